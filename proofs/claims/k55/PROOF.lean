import PyProof.Rows.All
import Wide.All
import OpenK.AllK
import Wide.FinOn
import Lean
import PyProof.EqAt
import PyProof.EqKinds
import PyProof.TupleCall
import PySem.Challenge.RW_lumprow_k55_rooms
open Array renaming length_toList→QF,getElem?_toList→GJ,getElem?_eq_some_iff→GQ,getElem?_eq_getElem→GS,toList_push→Mq,getElem_toList→Rg,getD→Rs
open Bool renaming false_ne_true→Qp,and_eq_true→Qv,or_eq_false_iff→Gc,false_or→GA,false_eq_true→KN,eq_iff_iff→KQ,or_eq_true→KS,or_false→Li,true_or→LY,and_eq_false_iff→M7,and_false→Rb,or_assoc→Rp,or_true→Rz
open False renaming elim→Q7
open Int renaming toNat_natCast→Gm,le_refl→Gy,fdiv_eq_ediv_of_nonneg→K5,min_eq_right→Le,emod_lt_of_pos→Mi,zero_add→MT,add_zero→MZ,natCast_add→M4,min_eq_left→M5,emod_nonneg→M6
open List renaming mem_cons_of_mem→Qc,mem_cons_self→Qf,getElem?_eq_some_iff→Qg,mem_cons→Qh,map_cons→Qi,size_toArray→Qm,length_map→Qo,getElem?_append_left→Qq,length_cons→Qu,replicate→Qw,getElem?_map→Qx,length_append→Qy,getElem?_set→QA,getElem?_append_right→QH,mem_of_getElem?→QI,mem_singleton→QK,pairwise_cons→QL,mem_map→QQ,sum_cons→QT,mem_nil_iff→QV,mem_append→QX,eq_nil_of_length_eq_zero→QZ,getElem?_eq_getElem→Q6,nodup_cons→Q8,map_append→Gd,getElem?_mapIdx→Gf,map_map→Gg,mem_append_right→Gu,flatMap_cons→Gx,foldl_cons→Gz,length_nil→GB,replicate_succ→GD,length_singleton→GH,any_cons→GP,pairwise_iff_getElem→GR,range→GU,not_mem_nil→GX,mem_iff_getElem→GY,reverse_cons→GZ,flatten_cons→G1,append_assoc→G2,filterMap_cons→G6,getD_eq_getElem?_getD→Kf,length_replicate→Kh,drop_eq_getElem_cons→Kj,append_nil→Kl,of_mem_zip→Km,map_nil→Kp,ext_getElem?→Kt,pairwise_append→Ku,length_reverse→KA,map_congr_left→KC,length_take→KD,all_eq_true→KE,cons_append→KI,find?_cons→KR,length_zip→KW,mem_iff_getElem?→K1,length_range→K4,zipIdx_cons→Lc,any_eq_true→Ld,getElem?_eq_none_iff→Lg,nil_append→Lk,count_cons→Ll,lookup→Ln,getElem?_replicate→Lp,getElem?_set_self→Lu,count_append→LC,getElem?_eq_none→LG,getElem?_reverse→LH,length_drop→LI,mem_append_left→LN,getElem?_set_ne→LO,getElem?_zipIdx→LQ,forIn_cons→LV,mem_range→L6,forIn_nil→Mc,zip_cons_cons→Me,length_eraseIdx_of_lt→Mf,count_eq_zero→Mg,count_pos_iff→Mh,getElem?_zip_eq_some→Mj,nodup_append→Mr,getElem_inj→MA,getElem_mem→MF,drop_length→MG,pairwise_singleton→MJ,eraseIdx_cons_succ→MK,ext_getElem→MM,mem_filter→M0,zip_append→M3,range_eq_range'→Rc,getElem_toArray→Rf,reduceReplicate→Ri
open Nat renaming le_refl→Qn,ne_of_lt→Qr,lt_of_lt_of_le→QJ,ne_of_gt→QO,le_trans→QR,lt_irrefl→Q5,lt_succ_self→Gi,lt_succ_of_lt→Gk,zero_le→Gn,lt_trans→Gv,le_of_lt→GM,lt_of_le_of_lt→GO,ble_eq→G4,pow_le_pow_right→Lb,le_succ→Lo,lt_trichotomy→Lz,not_lt→LL,le_add_right→LM,le_mul_of_pos_right→MN,le_of_eq→MP,min_self→MV,lt_or_ge→MW,reduceAdd→Ro,ble→Rx,zero_add→RE
open Ne renaming symm→QC
open Option renaming bind_some→QG,map_eq_some_iff→Gb,isSome_iff_exists→Lh,map_some→Lm,map_map→Ly,bind_assoc→LA,map_eq_none_iff→MY
open Option.some renaming inj→Qz
open PyProof renaming noPylong_of_log2→Mx,noPylong_small→MO
open PyProof.Rows renaming slot_tuple_getitem→Q2,callWith_type1→Ga
open PyProof.Rows.F renaming plain_set_update_loop→Lq,entry_set_update_loop→ML
open PyProof.Rows.IntsAre renaming length→Rh
open PySem renaming wpAny_bind→Qa,wpAny_pure→Qd,wpAny_callSpecial?_slot→QB,wpAny_field→QE,wpAny_call_entry→QN,wpAny_newObj_type→QP,wpAny_setField_rec→Q1,wpAny_holding→Gj,wpAny_attempt→Gs,wpAny_mono→GC,wpAny_setState_of→GG,wpAny_seqItems→GK,wpAny_setField→GL,codeAny_builtin→GN,wpAny_isInstance→GW,wpAny_rule→G5,mem_of_lookup→G7,codeAny_mono→G8,plainId_quiet→Ka,wpAny_Call_Name_kw→Ke,wpAny_passesOwn→Kk,wpAny_specialOf→Kn,wpAny_truthy_bool→Ko,wpAny_of_eq→Kq,isSubtype_type→KG,wpAny_askSetting→KL,wpAny_execs_nil→KP,wpAny_loadPart'→KU,wpAny_updateSeq→KY,wpAny_ite_split→KZ,isSubtype_stop→K8,wpAny_nameGoes_keeps→La,wpAny_pyIter_list→Lv,wpAny_typeOf→Lx,wpAny_updateSeq_pair→LP,wpAny_setEntries_of→LX,wpAny_pyIter_tuple→L8,wpAny_newFunctionEnv_cells→L9,wpAny_newTuple→Md,wpAny_letGo→Mo,wpAny_pyIter_slot→Mp,wpAny_onRaise→Mw,wpAny_execs_cons→MB,wpAny_pyIter_zip→MH,wpAny_call→MQ,wpAny_runValue→Re,Within→Rt
open PySem.Around renaming under_plainId→Go,frames_deeper→Ra,under→Rv
open PySem.Builtin.Int renaming intBits→Rm
open PySem.Builtin.List renaming listExtendWith→Gw,listLengthHint→G9,listTooLong→Kw,listSameRef→Kx,listItems→MX
open PySem.Builtin.Range renaming rangeSize→QU,small→KB,rangeFitsLong→LZ
open PySem.Builtin.Slice renaming slicePlaces→Ki,sliceAdjust→Lf,sliceApplied→Ma
open PySem.Builtin.SmallTypes renaming ownedTupleIsFree→QD,nextOf→QS,ownedTupleHandOut→GF
open PySem.Builtin.Tuple renaming tupleExact→Kv,tupleItemsOf→Mb
open PySem.Calls renaming spliced_cons→Kc,callWith_builtin→KM,evalArgs_plain→K6,spliced_nil→Lw,Name_function_global→L7,call_function_entry→Ml
open PySem.Code renaming isFrame→Rw
open PySem.EntryCells renaming newEntry→Rk
open PySem.F renaming plainAttrs_list→Q3,plain_extend_loop→Gq,slot_zip_next→Gr,slot_tuple_iterator_next→Kg,args_zip_next_1→Ks,slot_list_append→Ky,type_list_append→Kz,entry_zip_next→KF,plain_list_iadd→KH,called_set→KO,slot_enumerate_next→K0,excBase_ValueError→K9,slot_list_count→Lr,type_list_count→Ls,slot_dict_get→LD,args_tuple_iterator_next_1→LU,slot_dict_setdefault→LW,entry_tuple_iterator_next→L3,plain_proto_collect→L4,attrBase_ValueError→L5,entry_extend_loop→Mm,args_tuple_add_2→Mv,slot_list_extend→My,type_list_extend→Mz,entry_tuple_add→MC,args_dict_get_3→MD,plainAttrs_dict→ME,args_enumerate_next_1→MI,slot_tuple_add→MR,entry_dict_get→MS
open PySem.Heap renaming get?_push_of_some→Qe,lt_size→Qj,get?_push_size→Qk,SameBut→Qt,get?_update_other→QM,get?_update_self→QY,size_push→Q4,ExtBut→Kr
open PySem.Heap.ExtBut renaming push→RF
open PySem.Heap.SameBut renaming update→Ge,refl→Ry
open PySem.MeetsSeq renaming list_count→Rl
open PySem.Obj renaming data_mapFields→Q9,isFreed_of_fields→GI,mapFields→Kb,cls_mapFields→K3,mapSeq→K7
open PySem.Paired renaming length→Mu
open PySem.PassesOwn renaming never→Gh,leaving→Mt
open PySem.PyData renaming canLayAll0→K2,eqvAll→Lj,eqv→LJ,depthAll→LS,depth→MU
open PySem.SetTable renaming below→QW,grown→KJ,laid→Rn,put→RB
open PySem.SetTable.below renaming go→RA
open PySem.SetTable.probe renaming go→Ms
open PySem.Shared renaming heap→RG
open PySem.Str renaming ofString→Q0
open PySem.Value renaming isInt_shape→Mn,isInt→M8
open PySem.W renaming KdlKeysView→Rj,kitx_tuple→Rq,codeRec_of→Rr,kitx_dict→Ru
open PySem.pickOrder renaming go→RC
open Sum.inl renaming inj→M9
set_option Elab.async false
set_option linter.all false
set_option maxRecDepth 100000
set_option maxHeartbeats 4000000
open PySem.W (instObj methodObj Frag lookIn InstAt plainGet hasDictIn findIn plainOver takerIn any_some makesIn emptyDict looks_findIn specialIn isFn keepIn takesIn mroIn kitOne kia_one kitx_list callWith_K cellsFrom_some fnOf codeIn notCls nsIn excIn exmOne findObj clsIn kitAny mg_of mg_none_of)
noncomputable section
namespace L2
open PySem PySem.Spec PyProof.Rows

noncomputable abbrev Key:=Sum Int Str
noncomputable def ZT:Key->Value->Bool
 | .inl k,v=>M8 k v
 | .inr x,v=>Value.isStrOf x v
noncomputable def Jqu(w:World):Key->Int
 | .inl k=>hashInt k
 | .inr x=>hashStr w x
theorem J6:∀{k:Key} {v:Value},ZT k v=true->(∃i t,k=Sum.inl i/\v=Value.int i t)\/(∃x t,k=Sum.inr x/\v=Value.str x t)
 | .inl i,v,h=>by obtain⟨t,e⟩:=Mn (k:=i) (v:=v) h;exact .inl ⟨i,t,rfl,e⟩
 | .inr x,v,h=>by obtain⟨t,e⟩:=Value.isStrOf_shape (x:=x) (v:=v) h;exact .inr ⟨x,t,rfl,e⟩
theorem Jgp(i:Int)(t:Tok):ZT (.inl i) (.int i t)=true:=by simp[ZT,M8]
theorem Jgq(x:Str)(t:Tok):ZT (.inr x) (.str x t)=true:=by simp[ZT,Value.isStrOf]
theorem Jm4(a b:Int):decide ((Sum.inl a:Key)=Sum.inl b)=(a == b):=by
 by_cases e:a=b
 ·subst e;simp
 ·have h:¬(Sum.inl a:Key)=Sum.inl b:=fun q=>e (M9 q)
  rw[decide_eq_false h];exact(beq_eq_false_iff_ne.mpr e).symm
theorem Jm7(a b:Str):decide ((Sum.inr a:Key)=Sum.inr b)=decide (a=b):=by
 by_cases e:a=b
 ·subst e;simp
 ·have h:¬(Sum.inr a:Key)=Sum.inr b:=fun q=>e (Sum.inr.inj q)
  rw[decide_eq_false h,decide_eq_false e]
theorem Jm5(a:Int)(b:Str):decide ((Sum.inl a:Key)=Sum.inr b)=false:=decide_eq_false (fun q=>nomatch q)
theorem Jm6(a:Str)(b:Int):decide ((Sum.inr a:Key)=Sum.inl b)=false:=decide_eq_false (fun q=>nomatch q)

noncomputable def JW(prog:Program)(w:World):PySem.KeyKind prog w Key where
 is:=ZT
 hash:=Jqu w
 inj:=fun v a b ha hb=>by
  rcases J6 ha with ⟨i,t,rfl,rfl⟩|⟨x,t,rfl,rfl⟩
  ·rcases J6 hb with ⟨j,u,rfl,e⟩|⟨y,u,rfl,e⟩
   ·injection e with e1 _;rw[e1]
   ·exact nomatch e
  ·rcases J6 hb with ⟨j,u,rfl,e⟩|⟨y,u,rfl,e⟩
   ·exact nomatch e
   ·injection e with e1 _;rw[e1]
 byValue:=fun k v h=>by rcases J6 h with ⟨i,t,rfl,rfl⟩|⟨x,t,rfl,rfl⟩ <;> rfl
 pyHash:=fun hv h=>by
  rcases J6 hv with ⟨i,t,rfl,rfl⟩|⟨x,t,rfl,rfl⟩
  ·exact wpAny_pyHash_int h
  ·exact wpAny_pyHash_str h
 eqBool:=fun hu hv h=>by
  rcases J6 hu with ⟨i,t,rfl,rfl⟩|⟨x,t,rfl,rfl⟩
  ·rcases J6 hv with ⟨j,u,rfl,rfl⟩|⟨y,u,rfl,rfl⟩
   ·rw[Jm4] at h;exact wpAny_eqBool_int h
   ·rw[Jm5] at h;exact SeqAt.EqAt.int_str i t y u _ _ _ _ h
  ·rcases J6 hv with ⟨j,u,rfl,rfl⟩|⟨y,u,rfl,rfl⟩
   ·rw[Jm6] at h;exact SeqAt.EqAt.str_int x t j u _ _ _ _ h
   ·rw[Jm7] at h;exact wpAny_eqBool_str h
 «strs»:=fun k x t v h=>by
  rcases J6 h with ⟨i,u,rfl,e⟩|⟨y,u,rfl,e⟩
  ·exact nomatch e
  ·injection e with e1 _
   subst e1;cases v <;> rfl

theorem JcJ(prog:Program)(w:World)(i:Int)(t:Tok):(JW prog w).is (.inl i) (.int i t)=true:=Jgp i t
theorem JcK(prog:Program)(w:World)(x:Str)(t:Tok):(JW prog w).is (.inr x) (.str x t)=true:=Jgq x t
end L2

namespace L2
open PySem PySem.Spec PyProof.Rows

inductive V where
 | non|bl (b:Bool)|int (i:Int)|str (x:Str)|byt (b:Array UInt8)|flt (b:UInt64)|ref (a:Addr)|ty (n:String)
 deriving DecidableEq

noncomputable def RelV:V->Value->Prop
 | .non,u=>u=Value.none
 | .bl b,u=>u=Value.bool b
 | .int i,u=>∃t,u=Value.int i t
 | .str x,u=>∃t,u=Value.str x t
 | .byt b,u=>∃t,u=Value.bytes b t
 | .flt b,u=>∃t,u=Value.float b t
 | .ref a,u=>u=Value.ref a
 | .ty n,u=>u=Value.type n

noncomputable abbrev Vals:List V->List Value->Prop:=Paired RelV
theorem Vals.length{xs:List V}{us:List Value}(r:Vals xs us):xs.length=us.length:=Mu r
theorem Vals.get:∀{xs:List V} {us:List Value} {i:Nat} {x:V},Vals xs us->xs[i]?=some x->∃u,us[i]?=some u/\RelV x u
 | _,_,_,_,.nil,e=>by simp at e
 | _,_,0,_,.cons r _,e=>by simp at e;subst e;exact⟨_,rfl,r⟩
 | _,_,i+1,x,.cons _ t,e=>by obtain⟨u,h1,h2⟩:=Vals.get (i:=i) (x:=x) t (by simpa using e);exact⟨u,by simpa using h1,h2⟩
theorem Vals.set{x:V}{u:Value}(r:RelV x u):∀{xs:List V} {us:List Value} (i:Nat),Vals xs us->Vals (xs.set i x) (us.set i u)
 | _,_,_,.nil=>.nil
 | _,_,0,.cons _ t=>.cons r t
 | _,_,i+1,.cons q t=>.cons q (Vals.set r i t)
theorem Vals.append:∀{xs ys:List V} {us ws:List Value},Vals xs us->Vals ys ws->Vals (xs++ys) (us++ws)
 | _,_,_,_,.nil,s=>s
 | _,_,_,_,.cons r t,s=>.cons r (Vals.append t s)
theorem Vals.take:∀{xs:List V} {us:List Value} (n:Nat),Vals xs us->Vals (xs.take n) (us.take n)
 | _,_,0,_=>.nil
 | _,_,_+1,.nil=>.nil
 | _,_,n+1,.cons r t=>.cons r (Vals.take n t)
theorem Vals.drop:∀{xs:List V} {us:List Value} (n:Nat),Vals xs us->Vals (xs.drop n) (us.drop n)
 | _,_,0,r=>r
 | _,_,_+1,.nil=>.nil
 | _,_,n+1,.cons _ t=>Vals.drop n t
noncomputable def RelO:Option V->Option Value->Prop
 | some v,some u=>RelV v u
 | none,none=>True
 | _,_=>False
noncomputable def KV{κ:Type}:List (κ×V)->List (κ×Value)->Prop:=Paired fun(p:κ×V) (q:κ×Value)=>p.1=q.1/\RelV p.2 q.2

noncomputable def kV:Key->V
 | .inl i=>.int i
 | .inr x=>.str x

inductive HO where
 | lst (xs:List V)
 | tup (xs:List V)
 | dK (kvs:List (Key×V))|dT (kvs:List (List Key×V))
 | set (S:Int->Bool) (n:Nat)
 | ins (C dx:Addr) (fs:List (Str×V))
 | own (x:Addr)
 | xd (fs:List (Str×V))
 | met (f x:Addr)
 | rng (lo hi:Int)
 | frz (o:Obj) (u:HO)
 | tbl (ps:Array Value)
 | ext (φ:Heap->Prop)

noncomputable abbrev Hp:=Addr->Option HO
noncomputable def upd(H:Hp)(a:Addr)(o:HO):Hp:=fun b=>if b=a then some o else H b
theorem Jt{H:Hp}{a:Addr}{o:HO}:upd H a o a=some o:=by unfold upd;rw[if_pos rfl]
theorem Ji{H:Hp}{a b:Addr}{o:HO}(h:b≠a):upd H a o b=H b:=by unfold upd;rw[if_neg h]
theorem Ja8{H:Hp}{a b:Addr}{o u:HO}(h:H a=some o)(h':H b=some u)(d:o≠u):a≠b:=by intro e;subst e;rw[h] at h';exact d (Qz h')
theorem Jq{H:Hp}{a b:Addr}{o:HO}(h:H a=some o)(h':H b=none):a≠b:=by intro e;subst e;rw[h] at h';cases h'

section
variable(P:Program)(w:World)
noncomputable def ObjOk(H:Hp)(h:Heap)(a:Addr):HO->Prop
 | .lst xs=>xs.length<=sizeLine/\∃(its:List Value) (n:Nat),Vals xs its/\h.get? a=some { cls:=.type "list",data:=.seq its.toArray n }
 | .tup xs=>xs.length<=sizeLine/\∃its:List Value,Vals xs its/\IsTup h a its.toArray
 | .dK kvs=>kvs.length<=sizeLine/\(a == sysModules)=false/\∃vs,KV kvs vs/\h.DictOf (JW P w) a vs
 | .dT kvs=>kvs.length<=sizeLine/\(a == sysModules)=false/\∃xs:List (List Key×Addr×Value),
  Paired (fun(p:List Key×V) (q:List Key×Addr×Value)=>p.1=q.1/\H q.2.1=some (.tup (p.1.map kV))/\RelV p.2 q.2.2) kvs xs ∧
  ∃o es ep,h.get? a=some o/\o.ExactDict/\o.data=.dict es ep/\es.toList=xs.map (entryOfKey (tupleKind (JW P w)))/\(xs.map (·.1)).Nodup
 | .set S n=>h.SetOf (intKind P w) a S n
 | .ins C dx fs=>H dx=some (.own a)/\fs.length<=1000/\dx≠a/\h.get? a=some (instObj C dx) ∧
  ∃mA,h.Ns1 dx mA/\(∀f,RelO (fs.lookup f) (mA f))/\Rt mA (fs.map (·.1))
 | .own _=>∃o,h.get? a=some o
 | .xd fs=>∃mA,h.Ns1 a mA/\∀f,RelO (fs.lookup f) (mA f)
 | .rng lo hi=>∃t u v,h.get? a=some { cls:=.type "range",data:=.fields #[.int lo t,.int hi u,.int 1 v] }
 | .frz o u=>h.get? a=some o/\ObjOk H h a u
 | .tbl ps=>h.get? a=some { cls:=.none,data:=.fields ps }
 | .met f x=>h.get? a=some (methodObj (.ref f) (.ref x))
 | .ext φ=>φ h/\(∃o,h.get? a=some o)/\∀h1 h2:Heap,φ h1->(∀o,h1.get? a=some o->h2.get? a=some o)->φ h2
noncomputable def HOk(H:Hp)(h:Heap):Prop:=∀a o,H a=some o->ObjOk P w H h a o
end

section
variable{P:Program}{w:World}{H H':Hp}{h h':Heap}{a:Addr}{o:HO}
theorem ObjOk.lt(x:ObjOk P w H h a o):a<h.objs.size:=by
 cases o with
 | lst xs=>obtain⟨_,_,_,_,e⟩:=x;exact Qj e
 | tup xs=>obtain⟨_,_,_,p⟩:=x;exact p.lt
 | dK kvs=>obtain⟨_,_,_,_,o,_,_,e,_⟩:=x;exact Qj e
 | dT kvs=>obtain⟨_,_,_,_,o,_,_,e,_⟩:=x;exact Qj e
 | set S n=>obtain⟨o,_,_,_,e,_⟩:=x;exact Qj e
 | ins C dx fs=>obtain⟨_,_,_,e,_⟩:=x;exact Qj e
 | own y=>obtain⟨_,e⟩:=x;exact Qj e
 | xd fs=>obtain⟨_,⟨_,_,_,e,_⟩,_⟩:=x;exact Qj e
 | rng lo hi=>obtain⟨_,_,_,e⟩:=x;exact Qj e
 | frz ob u=>obtain⟨e,_⟩:=x;exact Qj e
 | tbl ps=>exact Qj (show h.get? a=some _ from x)
 | met f y=>exact Qj (show h.get? a=some _ from x)
 | ext φ=>obtain⟨_,⟨_,e⟩,_⟩:=x;exact Qj e
theorem Paired.mapP{α β:Type}{F G:α->β->Prop}:∀{l₁:List α} {l₂:List β},Paired F l₁ l₂->(∀a b,F a b->G a b)->Paired G l₁ l₂
 | _,_,.nil,_=>.nil
 | _,_,.cons r t,f=>.cons (f _ _ r) (Paired.mapP t f)
theorem ObjOk.stay(x:ObjOk P w H h a o)(k:∀b u,(b=a\/H b=some (.own a))->h.get? b=some u->h'.get? b=some u)
 (ho:∀b,H b=some (.own a)->H' b=some (.own a)) (ht:∀b xs,H b=some (.tup xs)->H' b=some (.tup xs)):ObjOk P w H' h' a o:=by
 induction o with
 | lst xs=>obtain⟨z,its,n,r,e⟩:=x;exact⟨z,its,n,r,k _ _ (.inl rfl) e⟩
 | tup xs=>obtain⟨z,its,r,ob,e,c⟩:=x;exact⟨z,its,r,ob,k _ _ (.inl rfl) e,c⟩
 | dK kvs=>obtain⟨z,y,vs,r,ob,es,ep,e,c⟩:=x;exact⟨z,y,vs,r,ob,es,ep,k _ _ (.inl rfl) e,c⟩
 | dT kvs=>obtain⟨z,y,xs,r,ob,es,ep,e,c⟩:=x;exact⟨z,y,xs,Paired.mapP r fun p q z=>⟨z.1,ht _ _ z.2.1,z.2.2⟩,ob,es,ep,k _ _ (.inl rfl) e,c⟩
 | set S n=>obtain⟨ob,es,ep,t,e,c⟩:=x;exact⟨ob,es,ep,t,k _ _ (.inl rfl) e,c⟩
 | ins C dx fs=>obtain⟨d,z,ne,e,mA,⟨od,es,ep,e2,c⟩,r⟩:=x;exact⟨ho _ d,z,ne,k _ _ (.inl rfl) e,mA,⟨od,es,ep,k _ _ (.inr d) e2,c⟩,r⟩
 | own y=>obtain⟨ob,e⟩:=x;exact⟨ob,k _ _ (.inl rfl) e⟩
 | xd fs=>obtain⟨mA,⟨od,es,ep,e,c⟩,r⟩:=x;exact⟨mA,⟨od,es,ep,k _ _ (.inl rfl) e,c⟩,r⟩
 | rng lo hi=>obtain⟨t,u,v,e⟩:=x;exact⟨t,u,v,k _ _ (.inl rfl) e⟩
 | frz ob u ih=>obtain⟨e,q⟩:=x;exact⟨k _ _ (.inl rfl) e,ih q⟩
 | tbl ps =>
  have e:h.get? a=some { cls:=.none,data:=.fields ps }:=x
  show h'.get? a=some { cls:=.none,data:=.fields ps };exact k a _ (.inl rfl) e
 | met f y =>
  have e:h.get? a=some (methodObj (.ref f) (.ref y)):=x
  show h'.get? a=some (methodObj (.ref f) (.ref y));exact k a _ (.inl rfl) e
 | ext φ=>obtain⟨p,⟨o,e⟩,st⟩:=x;exact⟨st _ _ p fun o q=>k _ _ (.inl rfl) q,⟨o,k _ _ (.inl rfl) e⟩,st⟩
theorem HOk.lt(x:HOk P w H h)(e:H a=some o):a<h.objs.size:=(x a o e).lt
theorem HOk.fresh(x:HOk P w H h)(e:h.objs.size<=a):H a=none:=by
 cases q:H a with
 | none=>rfl
 | some u=>exact absurd (QJ (x.lt q) e) (Q5 _)
theorem HOk.kept(x:HOk P w H h)(k:∀b u,h.get? b=some u->h'.get? b=some u):HOk P w H h':=fun a o e=>(x a o e).stay (fun b u _ q=>k b u q) (fun _ q=>q) fun _ _ q=>q
theorem HOk.laid(x:HOk P w H h)(k:∀b u,h.get? b=some u->h'.get? b=some u)(hp:h.objs.size<=a)(new:ObjOk P w (upd H a o) h' a o):HOk P w (upd H a o) h':=fun b u e=>by
 have hn:=x.fresh hp
 by_cases hb:b=a
 ·subst hb;rw[Jt] at e;cases e;exact new
 ·rw[Ji hb] at e;exact(x b u e).stay (fun c v _ q=>k c v q) (fun c q=>by rw[Ji (Jq q hn)];exact q) fun c xs q=>by rw[Ji (Jq q hn)];exact q
end

noncomputable def Rd(H:Hp)(a:Addr)(u:HO):Prop:=H a=some u\/∃o,H a=some (.frz o u)
theorem Rd.of{H:Hp}{a:Addr}{u:HO}(h:H a=some u):Rd H a u:=.inl h
theorem Rd.ok{P:Program}{w:World}{H:Hp}{h:Heap}{a:Addr}{u:HO}(r:Rd H a u)(x:HOk P w H h):ObjOk P w H h a u:=by
 rcases r with r|⟨o,r⟩
 ·exact x a u r
 ·obtain⟨_,q⟩:=x a _ r;exact q
noncomputable def Mut:Option HO->Prop
 | some (.lst _)=>True
 | some (.dK _)=>True
 | some (.dT _)=>True
 | some (.set _ _)=>True
 | some (.ins _ _ _)=>True
 | some (.ext _)=>True
 | _=>False
section
variable{P:Program}{w:World}{H:Hp}{h h':Heap}{x e:Addr}{o':HO}
theorem HOk.write(ok:HOk P w H h)(mu:Mut (H x))(he:e=x\/H e=some (.own x))(k:∀b u,b≠e->h.get? b=some u->h'.get? b=some u)(heo:∃u,h'.get? e=some u)
 (new:ObjOk P w (upd H x o') h' x o'):HOk P w (upd H x o') h':=fun b u q=>by
 have nown:∀c y,H c=some (.own y)->c≠x:=fun c y r z=>by subst z;rw[r] at mu;exact mu
 have ntup:∀c xs,H c=some (.tup xs)->c≠x:=fun c xs r z=>by subst z;rw[r] at mu;exact mu
 by_cases hb:b=x
 ·subst hb;rw[Jt] at q;cases q;exact new
 ·rw[Ji hb] at q
  by_cases hbe:b=e
  ·have q':H b=some (.own x):=by
    rcases he with z|z
    ·exact absurd (hbe.trans z) hb
    ·rw[hbe];exact z
   rw[q] at q';cases q';obtain⟨v,hv⟩:=heo;exact⟨v,by rw[hbe];exact hv⟩
  ·refine(ok b u q).stay (fun c v hc r=>k c v ?_ r) (fun c r=>by rw[Ji (nown c b r)];exact r) fun c xs r=>by rw[Ji (ntup c xs r)];exact r
   rcases hc with rfl|hc
   ·exact hbe
   ·rintro rfl;rcases he with z|z
    ·exact nown c b hc z
    ·rw[hc] at z;cases z;exact hb rfl
end

structure Un (fs ex:List Addr) (H H':Hp) (h h':Heap):Prop where
 keep:∀b o,h.get? b=some o->H b=none->b∉fs->b∉ex->h'.get? b=some o
 slot:∀b o,h.get? b=some o->H b=none->b∈fs->b∉ex->∃sl,h'.get? b=some { o with slots:=sl }
 free:∀b o,h.get? b=some o->H b=none->b∉ex->H' b=none
 there:∀b o,h.get? b=some o->b∉ex->∃o',h'.get? b=some o'
 tups:∀b xs,H b=some (.tup xs)->H' b=some (.tup xs)
 frzs:∀b o u,H b=some (.frz o u)->H' b=some (.frz o u)
 tbls:∀b ps,H b=some (.tbl ps)->∃more,H' b=some (.tbl (ps++more))
section
variable{fs fs' ex ex':List Addr}{H H1 H2:Hp}{h h1 h2 h':Heap}{a x e:Addr}{o:HO}
theorem Un.any(u:Un fs ex H H1 h h1){b:Addr}{ob:Obj}(q:h.get? b=some ob)(n:H b=none)(hx:b∉ex):∃sl,h1.get? b=some { ob with slots:=sl }:=by
 by_cases hb:b∈fs
 ·exact u.slot b ob q n hb hx
 ·exact⟨ob.slots,u.keep b ob q n hb hx⟩
theorem Un.trans(a:Un fs ex H H1 h h1)(b:Un fs ex H1 H2 h1 h2):Un fs ex H H2 h h2 where
 keep:=fun c ob q n hc hx=>b.keep c ob (a.keep c ob q n hc hx) (a.free c ob q n hx) hc hx
 slot:=fun c ob q n hc hx=>by obtain⟨sl,e1⟩:=a.slot c ob q n hc hx;obtain⟨sl',e2⟩:=b.slot c _ e1 (a.free c ob q n hx) hc hx;exact⟨sl',e2⟩
 free:=fun c ob q n hx=>by obtain⟨o',e1⟩:=a.there c ob q hx;exact b.free c o' e1 (a.free c ob q n hx) hx
 there:=fun c ob q hx=>by obtain⟨o',e1⟩:=a.there c ob q hx;exact b.there c o' e1 hx
 tups:=fun c xs q=>b.tups c xs (a.tups c xs q)
 frzs:=fun c ob xs q=>b.frzs c ob xs (a.frzs c ob xs q)
 tbls:=fun c ps q=>by obtain⟨m1,e1⟩:=a.tbls c ps q;obtain⟨m2,e2⟩:=b.tbls c _ e1;exact⟨m1++m2,by rw[e2,Array.append_assoc]⟩
theorem Un.kept(k:∀b u,h.get? b=some u->h'.get? b=some u):Un fs ex H H h h' :=
 ⟨fun b ob q _ _ _=>k b ob q,fun b ob q _ _ _=>⟨ob.slots,k b ob q⟩,fun _ _ _ n _=>n,fun b ob q _=>⟨ob,k b ob q⟩,fun _ _ q=>q,fun _ _ _ q=>q,fun _ ps q=>⟨#[],by rw[q];simp⟩⟩
theorem Un.refl:Un fs ex H H h h:=Un.kept fun _ _ q=>q
theorem Un.laid(k:∀b u,h.get? b=some u->h'.get? b=some u)(hp:h.objs.size<=a)(hn:H a=none):Un fs ex H (upd H a o) h h' where
 keep:=fun b u q _ _ _=>k b u q
 slot:=fun b u q _ _ _=>⟨u.slots,k b u q⟩
 free:=fun b u q n _=>by rw[Ji (Qr (QJ (Qj q) hp))];exact n
 there:=fun b u q _=>⟨u,k b u q⟩
 tups:=fun b xs q=>by rw[Ji (Jq q hn)];exact q
 frzs:=fun b u xs q=>by rw[Ji (Jq q hn)];exact q
 tbls:=fun b ps q=>⟨#[],by rw[Ji (Jq q hn),q];simp⟩
theorem Un.write(mu:Mut (H x))(he:e=x\/H e=some (.own x))(k:∀b u,b≠e->h.get? b=some u->h'.get? b=some u)(heo:∃u,h'.get? e=some u):Un fs ex H (upd H x o) h h':=by
 have hx:∀b,H b=none->b≠x:=fun b n z=>by subst z;rw[n] at mu;exact mu
 have hb:∀b,H b=none->b≠e:=fun b n z=>by
  subst z;rcases he with r|r
  ·exact hx b n r
  ·rw[n] at r;cases r
 have hm:∀b u,H b=some u->¬Mut (some u)->b≠x:=fun b u q nm z=>by subst z;rw[q] at mu;exact nm mu
 refine⟨fun b u q n _ _=>k b u (hb b n) q,fun b u q n _ _=>⟨u.slots,k b u (hb b n) q⟩,fun b u q n _=>by rw[Ji (hx b n)];exact n,fun b u q _=>?_,
  fun b xs q=>by rw[Ji (hm b _ q fun z=>z)];exact q,fun b u xs q=>by rw[Ji (hm b _ q fun z=>z)];exact q,fun b ps q=>⟨#[],by rw[Ji (hm b _ q fun z=>z),q];simp⟩⟩
 by_cases hbe:b=e
 ·subst hbe;exact heo
 ·exact⟨u,k b u hbe q⟩
theorem Un.mono(u:Un fs ex H H1 h h1)(hs:∀b∈fs,b∈fs')(hx:∀b∈ex,b∈ex'):Un fs' ex' H H1 h h1 :=
 ⟨fun b ob q n hb he=>u.keep b ob q n (fun z=>hb (hs b z)) fun z=>he (hx b z),fun _ _ q n _ he=>u.any q n fun z=>he (hx _ z),fun b ob q n he=>u.free b ob q n fun z=>he (hx b z),fun b ob q he=>u.there b ob q fun z=>he (hx b z),u.tups,u.frzs,u.tbls⟩
end

noncomputable def trk(h:Heap)(H:Hp):List Addr:=(GU h.objs.size).filter fun a=>(H a).isSome
noncomputable def JbD(h:Heap)(H:Hp):Heap:=PySem.W.hideAll h (trk h H)
theorem Jge(h:Heap)(H:Hp):(JbD h H).objs.size=h.objs.size:=PySem.W.hideAll_size _ _
theorem JhI{h:Heap}{H:Hp}{b:Addr}{o:Obj}(e:h.get? b=some o)(n:H b=none):(JbD h H).get? b=some o :=
 PySem.W.hideAll_get _ e fun hm=>by have q:(H b).isSome=true:=(M0.mp hm).2;rw[n] at q;simp at q
theorem JkH{h:Heap}{H:Hp}{b:Addr}{o:Obj}(e:(JbD h H).get? b=some o):h.get? b=some o/\H b=none:=by
 have e':h.get? b=some o:=PySem.W.of_hideAll (trk h H) e;refine⟨e',?_⟩
 cases q:H b with
 | none=>rfl
 | some x =>
  have hm:b∈trk h H:=M0.mpr ⟨L6.mpr (Qj e'),by simp[q]⟩
  have z:(JbD h H).get? b=none:=PySem.W.hideAll_none (trk h H) hm;rw[z] at e;cases e

noncomputable def Jjq(g h:Heap)(L:Addr):List (Addr×Obj):=(GU h.objs.size).filterMap fun a=>if a=L\/(g.get? a).isSome=true then none else(h.get? a).map fun o=>(a,o)
noncomputable def rest(g h:Heap)(L d:Addr):List (Addr×Obj):=(Jjq g h L).filter fun p=>decide (p.1≠d)
end L2

namespace L2
open PySem PySem.Spec PyProof.Rows

structure Mod (K:Frag) (mg:Str->Option Value) (base:Heap):Prop where
 kin:K.In base
 glob:base.Ns mainGlobals mg
 blt:∃mb,base.Ns builtinsNs mb/\∀x:Str,x≠"__name__"->mb x=bootBuiltins x
 nolimit:base.NoLimit

structure Cx where
 prog:Program
 w:World
 K:Frag
 mg:Str->Option Value
 base:Heap
 A:Around
 N:List Str
 s₀:Shared
 H₀:Hp
 env:Env
 outer:List Env
 stack:List Env
 ex:List Addr
 fn:Str->Bool
 calm:Bool
 pn:List (Addr×Obj)
 xe:Value->Shared->Prop
noncomputable def frs(l:List Env):List Addr:=l.filterMap (·.frame)
noncomputable abbrev Cx.fs(X:Cx):List Addr:=frs X.outer

noncomputable def Vis(sc:Scope)(x:Str):Prop:=sc.names.lookup x=some .local\/sc.names.lookup x=some .cell\/sc.names.lookup x=some .free
noncomputable def Loc(sc:Scope)(x:Str):Prop:=sc.names.lookup x=some .local\/sc.names.lookup x=some .cell
noncomputable def JoR(env:Env)(h:Heap)(m:Str->Option Value)(x:Str)(u:Value):Prop :=
 (env.kindOf x=some .local/\m x=some u)\/((env.kindOf x=some .cell\/env.kindOf x=some .free)/\∃c,env.cells.lookup x=some c/\h.IsCell c (some u))

structure Cx.Ok (X:Cx):Prop where
 mod:Mod X.K X.mg X.base
 kind:X.env.scope.kind=.function
 glob:X.env.globals=mainGlobals
 blt:X.env.builtins=builtinsNs
 above:X.s₀.heap.objs.size<=X.env.locals
 inj:∀x y c,X.env.cells.lookup x=some c->X.env.cells.lookup y=some c->x=y
 has:∀x,(X.env.kindOf x=some .cell\/X.env.kindOf x=some .free)->∃c,X.env.cells.lookup x=some c
 cab:∀x c,X.fn x=true->X.env.cells.lookup x=some c->X.s₀.heap.objs.size<=c
 hd:X.calm=true->X.A.handled=none
 frames:X.A.frames=some X.stack
 stk:X.stack=X.outer\/(X.stack=X.env::X.outer/\X.env.frame=some X.env.locals)
 exf:∀b∈X.ex,b≠X.env.locals/\∀x c,X.env.cells.lookup x=some c->c≠b
 bs:∀b o,X.base.get? b=some o->X.s₀.heap.get? b=some o/\X.H₀ b=none
 bsz:X.base.objs.size<=X.s₀.heap.objs.size
 noex:∀b o,X.base.get? b=some o->b∉X.ex
 exfs:∀b∈X.ex,b∉X.fs
 funs:X.s₀.heap.FunFrames X.base X.outer
 frf:∀b∈X.fs,X.H₀ b=none

structure Inv (X:Cx) (pins:List (Addr×Obj)) (σ:List (Option V)) (H:Hp) (s:Shared):Prop where
 ok:X.Ok
 os:s.os=X.s₀.os
 bare:AllBare s.gens
 base:Un X.fs X.ex X.H₀ H X.s₀.heap s.heap
 loc:∃m,s.heap.Ns X.env.locals m/\∀(i:Nat) (x:Str) (v:V),X.N[i]?=some x->σ[i]?=some (some v)->Vis X.env.scope x->∃u,RelV v u/\JoR X.env s.heap m x u
 cell:∀x c,X.env.cells.lookup x=some c->∃v,s.heap.IsCell c v
 free:H X.env.locals=none
 freeC:∀x c,X.env.cells.lookup x=some c->H c=none
 pin:∀p∈X.pn++pins,s.heap.get? p.1=some p.2/\H p.1=none/\p.1≠X.env.locals/\p.1∉X.fs/\∀v,p.2.data≠.cell v
 hok:HOk X.prog X.w H s.heap
 len:σ.length=X.N.length

section
variable{X:Cx}{pins:List (Addr×Obj)}{σ:List (Option V)}{H H':Hp}{s:Shared}{h':Heap}

theorem Cx.Ok.nofr(ok:X.Ok){b:Addr}{o:Obj}(e:X.base.get? b=some o):b∉X.fs:=fun hb=>by have:=(ok.funs.mem hb).1;rw[e] at this;cases this
theorem Inv.bs(I:Inv X pins σ H s):∀b o,X.base.get? b=some o->s.heap.get? b=some o/\H b=none:=fun b o e=>⟨I.base.keep b o (I.ok.bs b o e).1 (I.ok.bs b o e).2 (I.ok.nofr e) (I.ok.noex b o e),I.base.free b o (I.ok.bs b o e).1 (I.ok.bs b o e).2 (I.ok.noex b o e)⟩
theorem Inv.bk(I:Inv X pins σ H s):∀b o,X.base.get? b=some o->s.heap.get? b=some o:=fun b o e=>(I.bs b o e).1
theorem Inv.mod(I:Inv X pins σ H s):Mod X.K X.mg X.base:=I.ok.mod
theorem Inv.kIn(I:Inv X pins σ H s):X.K.In s.heap:=I.ok.mod.kin.keeps I.bk
theorem Inv.nolimit(I:Inv X pins σ H s):s.heap.NoLimit:=I.ok.mod.nolimit.keeps I.bk
theorem Inv.fr(I:Inv X pins σ H s):∃m,Fr X.base X.env.locals s.heap m :=
 let ⟨m,hn,_⟩:=I.loc
 ⟨m,hn,I.bk,QR I.ok.bsz I.ok.above⟩
theorem Inv.lt(I:Inv X pins σ H s):X.env.locals<s.heap.objs.size:=let ⟨_,hn,_⟩:=I.loc;hn.lt
theorem Inv.sz(I:Inv X pins σ H s):X.s₀.heap.objs.size<=s.heap.objs.size:=QR I.ok.above (GM I.lt)
theorem Inv.nofs(I:Inv X pins σ H s){a:Addr}(h:s.heap.objs.size<=a):a∉X.fs:=fun hb=>by obtain⟨_,o,ho,_⟩:=I.ok.funs.mem hb;exact absurd (QJ (Qj ho) (QR I.sz h)) (Q5 _)
theorem Inv.cne(I:Inv X pins σ H s):∀x c,X.env.cells.lookup x=some c->c≠X.env.locals:=fun x c e z=>by obtain⟨v,o,ho,hd⟩:=I.cell x c e;obtain⟨m,⟨o',es,ep,ho',hd',_⟩,_⟩:=I.loc;rw[z,ho'] at ho;cases ho;rw[hd'] at hd;cases hd
theorem Inv.funs(I:Inv X pins σ H s):s.heap.FunFrames X.base X.outer:=by
 have all:∀(l:List Env),(∀b∈frs l,b∈X.fs)->X.s₀.heap.FunFrames X.base l->s.heap.FunFrames X.base l:=by
  intro l
  induction l with
  | nil=>intro _ _;trivial
  | cons env r ih =>
   intro hs hl;obtain⟨hk,⟨L,o,hf,hn,ho,hd⟩,hr⟩:=hl;have hL:L∈X.fs:=hs L (by unfold frs;rw[G6,hf];exact Qf);obtain⟨sl,e⟩:=I.base.slot L o ho (I.ok.frf L hL) hL fun z=>I.ok.exfs L z hL
   exact⟨hk,⟨L,_,hf,hn,e,hd⟩,ih (fun b hb=>hs b (by unfold frs;rw[G6,hf];exact Qc _ hb)) hr⟩
 exact all X.outer (fun _ hb=>hb) I.ok.funs

theorem Inv.stack(I:Inv X pins σ H s):s.heap.FunFrames X.base X.stack:=by
 rcases I.ok.stk with e|⟨e,hf⟩
 ·rw[e];exact I.funs
 ·rw[e];obtain⟨m,hn,_⟩:=I.loc;refine .cons (by rw[I.ok.kind];decide) hf hn ?_ I.funs;exact Heap.get?_none_of_le (QR I.ok.bsz I.ok.above)
theorem Inv.stkSub(I:Inv X pins σ H s):∀b∈frs X.stack,b∈X.env.locals::X.fs:=fun b hb=>by
 rcases I.ok.stk with e|⟨e,hf⟩
 ·rw[e] at hb;exact Qc _ hb
 ·rw[e] at hb;unfold frs at hb;rw[G6,hf] at hb;exact hb
theorem Inv.stkFree(I:Inv X pins σ H s):∀b∈frs X.stack,H b=none:=fun b hb=>by
 rcases Qh.mp (I.stkSub b hb) with e|hb
 ·rw[e];exact I.free
 ·obtain⟨_,o,ho,_⟩:=I.ok.funs.mem hb;exact I.base.free b o ho (I.ok.frf b hb) fun z=>I.ok.exfs b z hb

theorem Inv.step{g':Array GenState}{t':Nat}{d':Drawn}{ch:List Addr}(I:Inv X pins σ H s)
 (hch:∀b∈ch,(b∈X.ex\/X.s₀.heap.objs.size<=b)/\b≠X.env.locals/\(∀x c,X.env.cells.lookup x=some c->c≠b)/\∀p∈X.pn++pins,p.1≠b)
 (keep:∀b o,b≠X.env.locals->b∉X.fs->b∉ch->s.heap.get? b=some o->H b=none->h'.get? b=some o)
 (slot:∀b o,b≠X.env.locals->b∈X.fs->b∉ch->s.heap.get? b=some o->H b=none->∃sl,h'.get? b=some { o with slots:=sl }) (free:∀b o,b∉ch->s.heap.get? b=some o->H b=none->H' b=none)
 (there:∀b o,b∉ch->s.heap.get? b=some o->∃o',h'.get? b=some o')
 (tups:∀b xs,H b=some (.tup xs)->H' b=some (.tup xs)) (frzs:∀b o u,H b=some (.frz o u)->H' b=some (.frz o u)) (tbls:∀b ps,H b=some (.tbl ps)->∃more,H' b=some (.tbl (ps++more)))
 (ns:∀m,s.heap.Ns X.env.locals m->h'.Ns X.env.locals m) (hok:HOk X.prog X.w H' h') (hg:AllBare g') :
 Inv X pins σ H' { s with heap:=h',gens:=g',drawn:=d',toks:=t' }:=by
 have neL:∀b o,X.s₀.heap.get? b=some o->b≠X.env.locals:=fun b o e=>Qr (QJ (Qj e) I.ok.above)
 have neC:∀b o,X.s₀.heap.get? b=some o->b∉X.ex->b∉ch:=fun b o e hx hb=>by
  rcases(hch b hb).1 with z|z
  ·exact hx z
  ·exact absurd (QJ (Qj e) z) (Q5 _)
 have cellK:∀x c,X.env.cells.lookup x=some c->∀v,s.heap.IsCell c v->h'.IsCell c v:=fun x c e v ⟨o,ho,hd⟩=>by
  have nch:c∉ch:=fun z=>(hch c z).2.2.1 x c e rfl
  by_cases hc:c∈X.fs
  ·obtain⟨sl,q⟩:=slot c o (I.cne x c e) hc nch ho (I.freeC x c e);exact⟨_,q,hd⟩
  ·exact⟨o,keep c o (I.cne x c e) hc nch ho (I.freeC x c e),hd⟩
 refine⟨I.ok,I.os,hg,⟨fun b o e n hb hx=>?_,fun b o e n hb hx=>?_,fun b o e n hx=>?_,fun b o e hx=>?_,fun b xs e=>tups b xs (I.base.tups b xs e),fun b o xs e=>frzs b o xs (I.base.frzs b o xs e),fun b ps e=>?_⟩,?_,fun x c e=>?_,?_,fun x c e=>?_,fun p hp=>?_,hok,I.len⟩
 ·exact keep b o (neL b o e) hb (neC b o e hx) (I.base.keep b o e n hb hx) (I.base.free b o e n hx)
 ·obtain⟨sl,e1⟩:=I.base.slot b o e n hb hx;obtain⟨sl',e2⟩:=slot b _ (neL b o e) hb (neC b o e hx) e1 (I.base.free b o e n hx);exact⟨sl',e2⟩
 ·obtain⟨o',e1⟩:=I.base.there b o e hx;exact free b o' (neC b o e hx) e1 (I.base.free b o e n hx)
 ·obtain⟨o',e1⟩:=I.base.there b o e hx;exact there b o' (neC b o e hx) e1
 ·obtain⟨m1,e1⟩:=I.base.tbls b ps e;obtain⟨m2,e2⟩:=tbls b _ e1;exact⟨m1++m2,by rw[e2,Array.append_assoc]⟩
 ·obtain⟨m,hn,hl⟩:=I.loc;refine⟨m,ns m hn,fun i x v e1 e2 e3=>?_⟩;obtain⟨u,r,l⟩:=hl i x v e1 e2 e3;refine⟨u,r,?_⟩;rcases l with l|⟨k,c,e,z⟩
  ·exact .inl l
  ·exact .inr ⟨k,c,e,cellK x c e _ z⟩
 ·obtain⟨v,z⟩:=I.cell x c e;exact⟨v,cellK x c e v z⟩
 ·obtain⟨m,⟨o,_,_,ho,_⟩,_⟩:=I.loc;exact free _ o (fun z=>(hch _ z).2.1 rfl) ho I.free
 ·obtain⟨v,o,ho,hd⟩:=I.cell x c e;exact free c o (fun z=>(hch c z).2.2.1 x c e rfl) ho (I.freeC x c e)
 ·obtain⟨e,n,ne,nf,d⟩:=I.pin p hp;have nch:p.1∉ch:=fun z=>(hch p.1 z).2.2.2 p hp rfl
  exact⟨keep p.1 p.2 ne nf nch e n,free p.1 p.2 nch e n,ne,nf,d⟩
theorem Inv.un{t':Nat}(I:Inv X pins σ H s)(u:Un X.fs [] H H' s.heap h')(hok:HOk X.prog X.w H' h'):Inv X pins σ H' { s with heap:=h',toks:=t' }:=by
 obtain⟨m,⟨o,es,ep,ho,r⟩,_⟩:=id I.loc;obtain⟨sl,hL⟩:=u.any ho I.free (by simp);exact I.step (g':=s.gens) (d':=s.drawn) (ch:=[]) (fun _ z=>nomatch z) (fun b o _ hb _ e n=>u.keep b o e n hb (by simp)) (fun b o _ hb _ e n=>u.slot b o e n hb (by simp)) (fun b o _ e n=>u.free b o e n (by simp)) (fun b o _ e=>u.there b o e (by simp)) u.tups u.frzs u.tbls (fun m' hm=>by obtain⟨o',es',ep',ho',r'⟩:=hm;rw[ho] at ho';cases ho';exact⟨_,es',ep',hL,r'⟩) hok I.bare
theorem Inv.call{g':Array GenState}{t':Nat}{d':Drawn}{ch:List Addr}(I:Inv X pins σ H s)(u:Un (frs X.stack) ch H H' s.heap h')(hok:HOk X.prog X.w H' h')(hg:AllBare g')
 (hch:∀b∈ch,(b∈X.ex\/X.s₀.heap.objs.size<=b)/\b≠X.env.locals/\(∀x c,X.env.cells.lookup x=some c->c≠b)/\∀p∈X.pn++pins,p.1≠b) :
 Inv X pins σ H' { s with heap:=h',gens:=g',drawn:=d',toks:=t' }:=by
 obtain⟨m,⟨o,es,ep,ho,r⟩,_⟩:=id I.loc;obtain⟨sl,hL⟩:=u.any ho I.free fun z=>(hch _ z).2.1 rfl
 exact I.step (ch:=ch) hch (fun b o hL hb hc e n=>u.keep b o e n (fun z=>(Qh.mp (I.stkSub b z)).elim hL hb) hc) (fun b o _ _ hc e n=>u.any e n hc) (fun b o hc e n=>u.free b o e n hc) (fun b o hc e=>u.there b o e hc) u.tups u.frzs u.tbls (fun m' hm=>by obtain⟨o',es',ep',ho',r'⟩:=hm;rw[ho] at ho';cases ho';exact⟨_,es',ep',hL,r'⟩) hok hg
theorem Inv.turned{t':Nat}{it:Addr}(I:Inv X pins σ H s)(k:∀b o,b≠it->s.heap.get? b=some o->h'.get? b=some o)(hn:H it=none)(hL:it≠X.env.locals)
 (h1:it∈X.ex\/X.s₀.heap.objs.size<=it) (h2:∀x c,X.env.cells.lookup x=some c->c≠it) (h3:∀p∈X.pn++pins,p.1≠it):Inv X pins σ H { s with heap:=h',toks:=t' }:=by
 have nit:∀b u,H b=some u->b≠it:=fun b u e z=>by rw[z,hn] at e;cases e
 refine I.step (g':=s.gens) (d':=s.drawn) (ch:=[it]) (fun b hb=>?_) (fun b o _ _ hc e _=>k b o (fun z=>hc (by simp[z])) e) (fun b o _ _ hc e _=>⟨o.slots,k b o (fun z=>hc (by simp[z])) e⟩) (fun _ _ _ _ n=>n)
  (fun b o hc e=>⟨o,k b o (fun z=>hc (by simp[z])) e⟩) (fun _ _ e=>e) (fun _ _ _ e=>e) (fun b ps e=>⟨#[],by rw[e];simp⟩) (fun m hm=>?_) (fun b u e=>?_) I.bare
 ·have e:b=it:=by simpa using hb
  subst e;exact⟨h1,hL,h2,h3⟩
 ·obtain⟨o,es,ep,ho,r⟩:=hm;exact⟨o,es,ep,k _ o (QC hL) ho,r⟩
 ·refine(I.hok b u e).stay (fun c v hc q=>k c v ?_ q) (fun _ q=>q) fun _ _ q=>q
  rcases hc with z|z
  ·rw[z];exact nit b u e
  ·exact nit c _ z
theorem Inv.tok(I:Inv X pins σ H s)(t:Nat):Inv X pins σ H { s with toks:=t }:=I.un (h':=s.heap) (t':=t) Un.refl I.hok
theorem Inv.kept{t':Nat}(I:Inv X pins σ H s)(k:∀b u,s.heap.get? b=some u->h'.get? b=some u):Inv X pins σ H { s with heap:=h',toks:=t' }:=I.un (Un.kept k) (I.hok.kept k)
theorem Inv.laid{a:Addr}{o:HO}{t':Nat}(I:Inv X pins σ H s)(k:∀b u,s.heap.get? b=some u->h'.get? b=some u)(hp:s.heap.objs.size<=a)(new:ObjOk X.prog X.w (upd H a o) h' a o) :
 Inv X pins σ (upd H a o) { s with heap:=h',toks:=t' }:=I.un (Un.laid k hp (I.hok.fresh hp)) (I.hok.laid k hp new)
theorem Inv.write{x e:Addr}{o:HO}{t':Nat}(I:Inv X pins σ H s)(mu:Mut (H x))(he:e=x\/H e=some (.own x))(k:∀b u,b≠e->s.heap.get? b=some u->h'.get? b=some u)(heo:∃u,h'.get? e=some u)
 (new:ObjOk X.prog X.w (upd H x o) h' x o):Inv X pins σ (upd H x o) { s with heap:=h',toks:=t' }:=I.un (Un.write mu he k heo) (I.hok.write mu he k heo new)
theorem Inv.weak{σ':List (Option V)}(I:Inv X pins σ H s)(hl:σ'.length=σ.length)(w:∀(i:Nat) v,σ'[i]?=some (some v)->σ[i]?=some (some v)):Inv X pins σ' H s :=
 ⟨I.ok,I.os,I.bare,I.base,let ⟨m,hn,hl'⟩:=I.loc;⟨m,hn,fun i x v e1 e2 e3=>hl' i x v e1 (w i v e2) e3⟩,I.cell,I.free,I.freeC,I.pin,I.hok,hl.trans I.len⟩
theorem Inv.pins_of{pins':List (Addr×Obj)}(I:Inv X pins σ H s)(h:∀p∈pins',s.heap.get? p.1=some p.2/\H p.1=none/\p.1≠X.env.locals/\p.1∉X.fs/\∀v,p.2.data≠.cell v):Inv X pins' σ H s :=
 ⟨I.ok,I.os,I.bare,I.base,I.loc,I.cell,I.free,I.freeC,fun p hp=>(QX.mp hp).elim (fun z=>I.pin p (LN _ z)) (h p),I.hok,I.len⟩

theorem JcL{N:List Str}(hN:N.Nodup){i j:Nat}{x:Str}(a:N[i]?=some x)(b:N[j]?=some x):i=j:=by obtain⟨h1,e1⟩:=Qg.mp a;obtain⟨h2,e2⟩:=Qg.mp b;exact(MA hN).mp (e1.trans e2.symm)

theorem Jbf{M:Model}{A:Around}{E:Value->Shared->Prop}{i:Nat}{x:Str}{v:V}{u:Value}{Q:Unit->Shared->Prop}(I:Inv X pins σ H s)(hN:X.N.Nodup)(hi:X.N[i]?=some x)(hx:Loc X.env.scope x)(r:RelV v u)
 (h:∀s',Inv X pins (σ.set i (some v)) H s'->(∃a,Qt a s.heap s'.heap/\(a=X.env.locals\/X.env.cells.lookup x=some a))->Q () s') (hf:X.fn x=true\/X.env.scope.names.lookup x=some .local:=by first|exact .inl rfl|exact .inr rfl|assumption):wpAny M A (storeName X.env x u) Q E s:=by
 obtain⟨m,hn,hl⟩:=id I.loc;have hcls:(X.env.scope.kind == .class || (X.env.scope.kind == .module && X.env.locals != X.env.globals))=false:=by rw[I.ok.kind];rfl
 have hiσ:i<σ.length:=by rw[I.len];exact(Qg.mp hi).1
 have cne:=I.cne
 have tracked:∀{a:Addr} {h':Heap},(∃o,s.heap.get? a=some o/\H a=none)->Qt a s.heap h'->HOk X.prog X.w H h':=fun {a h'} ha hs b ob e=>by
  obtain⟨_,_,hfree⟩:=ha;refine(I.hok b ob e).stay (fun c w' hc q=>(hs.2 c ?_).trans q) (fun _ q=>q) fun _ _ q=>q
  rintro rfl;rcases hc with rfl|hc
  ·rw[hfree] at e;cases e
  ·rw[hfree] at hc;cases hc
 rcases hx with hk|hk
 ·refine wpAny_storeName_local hk hn (fun h' hn' hs=>?_) hcls;obtain⟨oL,_,_,hoL,_⟩:=id hn;refine h _ ⟨I.ok,I.os,I.bare,⟨fun b o e n hb hx=>?_,fun b o e n hb hx=>?_,I.base.free,fun b o e hx=>?_,I.base.tups,I.base.frzs,I.base.tbls⟩,⟨_,hn',fun j y v' e1 e2 e3=>?_⟩,fun y c e=>?_,I.free,I.freeC,fun p hp=>?_,tracked ⟨oL,hoL,I.free⟩ hs,by simpa using I.len⟩ ⟨_,hs,.inl rfl⟩
  ·exact(hs.2 b (Qr (QJ (Qj e) I.ok.above))).trans (I.base.keep b o e n hb hx)
  ·obtain⟨sl,e1⟩:=I.base.slot b o e n hb hx;exact⟨sl,(hs.2 b (Qr (QJ (Qj e) I.ok.above))).trans e1⟩
  ·obtain⟨o',e1⟩:=I.base.there b o e hx;exact⟨o',(hs.2 b (Qr (QJ (Qj e) I.ok.above))).trans e1⟩
  ·by_cases hj:j=i
   ·subst hj;rw[hi] at e1;cases e1;rw[Lu hiσ] at e2;cases e2;exact⟨u,r,.inl ⟨hk,by simp⟩⟩
   ·rw[LO (QC hj)] at e2;obtain⟨u',r',q⟩:=hl j y v' e1 e2 e3;refine⟨u',r',?_⟩;rcases q with ⟨k,e⟩|⟨k,c,e,z⟩
    ·refine .inl ⟨k,?_⟩;have:y≠x:=fun e=>hj (JcL hN e1 (e▸hi))
     simp[this,e]
    ·exact .inr ⟨k,c,e,z.sameBut hs (cne y c e)⟩
  ·obtain⟨w',z⟩:=I.cell y c e;exact⟨w',z.sameBut hs (cne y c e)⟩
  ·obtain⟨e,n,ne,nf,d⟩:=I.pin p hp;exact⟨(hs.2 p.1 ne).trans e,n,ne,nf,d⟩
 ·have hfn:X.fn x=true:=by
   rcases hf with z|z
   ·exact z
   ·rw[z] at hk;cases hk
  obtain⟨c,hc⟩:=I.ok.has x (.inl hk);obtain⟨w',z⟩:=I.cell x c hc;refine wpAny_storeName_cell I.ok.kind hk hc z (fun h' hc' hs=>?_);obtain⟨oc,hoc,hocd⟩:=id z;refine h { s with heap:=h' } ⟨I.ok,I.os,I.bare,⟨fun b o e n hb hx=>?_,fun b o e n hb hx=>?_,I.base.free,fun b o e hx=>?_,I.base.tups,I.base.frzs,I.base.tbls⟩,⟨m,hn.sameBut hs (QC (cne x c hc)),fun j y v' e1 e2 e3=>?_⟩,fun y c' e=>?_,I.free,I.freeC,fun p hp=>?_,tracked ⟨oc,hoc,I.freeC x c hc⟩ hs,by simpa using I.len⟩ ⟨c,hs,.inr hc⟩
  ·exact(hs.2 b (Qr (QJ (Qj e) (I.ok.cab x c hfn hc)))).trans (I.base.keep b o e n hb hx)
  ·obtain⟨sl,e1⟩:=I.base.slot b o e n hb hx;exact⟨sl,(hs.2 b (Qr (QJ (Qj e) (I.ok.cab x c hfn hc)))).trans e1⟩
  ·obtain⟨o',e1⟩:=I.base.there b o e hx;exact⟨o',(hs.2 b (Qr (QJ (Qj e) (I.ok.cab x c hfn hc)))).trans e1⟩
  ·by_cases hj:j=i
   ·subst hj;rw[hi] at e1;cases e1;rw[Lu hiσ] at e2;cases e2;exact⟨u,r,.inr ⟨.inl hk,c,hc,hc'⟩⟩
   ·rw[LO (QC hj)] at e2;obtain⟨u',r',q⟩:=hl j y v' e1 e2 e3;refine⟨u',r',?_⟩;rcases q with q|⟨k,c',e,z'⟩
    ·exact .inl q
    ·refine .inr ⟨k,c',e,z'.sameBut hs ?_⟩;rintro rfl;exact hj (JcL hN e1 (I.ok.inj _ _ _ e hc▸hi))
  ·by_cases hcc:c'=c
   ·subst hcc;exact⟨_,hc'⟩
   ·obtain⟨w2,z2⟩:=I.cell y c' e;exact⟨w2,z2.sameBut hs hcc⟩
  ·obtain⟨e,n,ne,nf,d⟩:=I.pin p hp;refine⟨(hs.2 p.1 ?_).trans e,n,ne,nf,d⟩;intro q;rw[q,hoc] at e;have q':oc=p.2:=Qz e;exact d w' (by rw[<- q'];exact hocd)
theorem WJ{M:Model}{A:Around}{E:Value->Shared->Prop}{i:Nat}{x:Str}{v:V}{u:Value}{Q:Unit->Shared->Prop}(I:Inv X pins σ H s)(hN:X.N.Nodup)(hi:X.N[i]?=some x)(hx:Loc X.env.scope x)(r:RelV v u)
 (h:∀s',Inv X pins (σ.set i (some v)) H s'->Q () s') (hf:X.fn x=true\/X.env.scope.names.lookup x=some .local:=by first|exact .inl rfl|exact .inr rfl|assumption):wpAny M A (storeName X.env x u) Q E s :=
 Jbf I hN hi hx r (fun s' I' _=>h s' I') hf
theorem Inv.call'{s':Shared}{ch:List Addr}(I:Inv X pins σ H s)(ho:s'.os=s.os)(u:Un (frs X.stack) ch H H' s.heap s'.heap)(hok:HOk X.prog X.w H' s'.heap)(hg:AllBare s'.gens)
 (hch:∀b∈ch,(b∈X.ex\/X.s₀.heap.objs.size<=b)/\b≠X.env.locals/\(∀x c,X.env.cells.lookup x=some c->c≠b)/\∀p∈X.pn++pins,p.1≠b):Inv X pins σ H' s':=by
 obtain⟨h',g',d',t',o'⟩:=s';have e:o'=s.os:=ho;subst e;exact I.call (g':=g') (t':=t') (d':=d') u hok hg hch
end

noncomputable abbrev XK:=Value->Option Addr->Hp->Prop
noncomputable abbrev St:=List (Option V)
noncomputable abbrev VK:=V->Hp->Prop
noncomputable abbrev TE:=St->Hp->VK->Prop
noncomputable abbrev TT:=St->Hp->(Bool->Hp->Prop)->Prop
noncomputable abbrev TA:=St->Hp->(List V->Hp->Prop)->Prop
structure Ends where
 nx:St->Hp->Prop
 rt:VK
 bk:St->Hp->Prop:=fun _ _=>False
 ct:St->Hp->Prop:=fun _ _=>False
noncomputable abbrev TS:=Ends->St->Hp->Prop

noncomputable def EP(X:Cx)(pins:List (Addr×Obj))(σ:St)(Q:VK)(u:Value)(s':Shared):Prop:=∃v H',Inv X pins σ H' s'/\RelV v u/\Q v H'
noncomputable def TP(X:Cx)(pins:List (Addr×Obj))(σ:St)(Q:Bool->Hp->Prop)(b:Bool)(s':Shared):Prop:=∃H',Inv X pins σ H' s'/\Q b H'
noncomputable def AP(X:Cx)(pins:List (Addr×Obj))(σ:St)(Q:List V->Hp->Prop)(us:List Value)(s':Shared):Prop:=∃vs H',Inv X pins σ H' s'/\Vals vs us/\Q vs H'
noncomputable def SP(X:Cx)(pins:List (Addr×Obj))(D:Ends)(f:Flow)(s':Shared):Prop :=
 match f with
 | .next=>∃σ' H',Inv X pins σ' H' s'/\D.nx σ' H'
 | .brk=>∃σ' H',Inv X pins σ' H' s'/\D.bk σ' H'
 | .cont=>∃σ' H',Inv X pins σ' H' s'/\D.ct σ' H'
 | .ret u=>∃v σ' H',Inv X pins σ' H' s'/\RelV v u/\D.rt v H'

noncomputable def PE(X:Cx)(e:Expr)(t:TE):Prop :=
 ∀(pins:List (Addr×Obj)) (s:Shared) (σ:St) (H:Hp) (Q:VK),Inv X pins σ H s->t σ H Q->wpAny (model X.prog X.w) X.A (eval e X.env) (EP X pins σ Q) X.xe s
noncomputable def PT(X:Cx)(e:Expr)(t:TT):Prop :=
 ∀(pins:List (Addr×Obj)) (s:Shared) (σ:St) (H:Hp) (Q:Bool->Hp->Prop),Inv X pins σ H s->t σ H Q->wpAny (model X.prog X.w) X.A (isTrue e X.env (eval e X.env)) (TP X pins σ Q) X.xe s
noncomputable def PW(X:Cx)(e:Expr)(t:TT):Prop :=
 ∀(whole:Sem Value) (pins:List (Addr×Obj)) (s:Shared) (σ:St) (H:Hp) (Q:Bool->Hp->Prop),Inv X pins σ H s->t σ H Q->wpAny (model X.prog X.w) X.A (isTrue e X.env whole) (TP X pins σ Q) X.xe s
theorem PW.pt{X:Cx}{e:Expr}{t:TT}(h:PW X e t):PT X e t:=h _
noncomputable def PA(X:Cx)(es:List Expr)(t:TA):Prop :=
 ∀(pos:Pos) (pins:List (Addr×Obj)) (s:Shared) (σ:St) (H:Hp) (Q:List V->Hp->Prop),Inv X pins σ H s->t σ H Q->wpAny (model X.prog X.w) X.A (spliced (backTo pos (starEach es X.env))) (AP X pins σ Q) X.xe s
noncomputable def PS(X:Cx)(st:Stmt)(t:TS):Prop :=
 ∀(pins:List (Addr×Obj)) (s:Shared) (σ:St) (H:Hp) (D:Ends),Inv X pins σ H s->t D σ H->wpAny (model X.prog X.w) X.A (exec st X.env) (SP X pins D) X.xe s
noncomputable def PSs(X:Cx)(st:List Stmt)(t:TS):Prop :=
 ∀(pins:List (Addr×Obj)) (s:Shared) (σ:St) (H:Hp) (D:Ends),Inv X pins σ H s->t D σ H->wpAny (model X.prog X.w) X.A (execs st X.env) (SP X pins D) X.xe s
theorem thn{α:Type}{t:Sem α}{Q Q':α->Shared->Prop}{M:Model}{A:Around}{E:Value->Shared->Prop}{s:Shared}(h:wpAny M A t Q E s)(hQ:∀a s,Q a s->Q' a s):wpAny M A t Q' E s:=GC h hQ fun _ _ x=>x
end L2

namespace L2
open PySem PySem.Spec PyProof.Rows
section
variable{X:Cx}

noncomputable def Zl(i:Nat):TE:=fun σ H Q=>∃v,σ[i]?=some (some v)/\Q v H
noncomputable def tC(v:V):TE:=fun _ H Q=>Q v H
theorem JnK{i:Nat}{x:Str}{pos:Pos}(hN:X.N[i]?=some x)(hv:Vis X.env.scope x)(hd:(x == ("__debug__":Str))=false:=by decide)(hcd:(x == ("__classdict__":Str))=false:=by decide):PE X (.Name x pos) (Zl i):=by
 intro pins s σ H Q I h;obtain⟨v,e,h⟩:=h;obtain⟨m,hn,hl⟩:=I.loc;obtain⟨u,r,l⟩:=hl i x v hN e hv;have fin:EP X pins σ Q u s:=⟨v,H,I,r,h⟩
 rcases l with ⟨hk,hm⟩|⟨hk,c,hc,hcell⟩
 ·exact wpAny_Name (wpAny_loadName_local I.ok.kind hk hn hm fin) hd
 ·rcases hk with hk|hk
  ·exact wpAny_Name (wpAny_loadName_cell I.ok.kind hk hc hcell fin) hd
  ·exact wpAny_Name (wpAny_loadName_free I.ok.kind hk hc hcell fin hcd) hd
theorem Je{i j pos}:PE X (.Constant (.int i) j pos) (tC (.int i)):=fun _ _ _ H _ I h=>wpAny_Constant_int ⟨.int i,H,I.tok _,⟨_,rfl⟩,h⟩
theorem WA{b j pos}:PE X (.Constant (.bool b) j pos) (tC (.bl b)):=fun _ _ _ H _ I h=>Constant_bool ⟨.bl b,H,I,rfl,h⟩
theorem W0{j pos}:PE X (.Constant .none j pos) (tC .non):=fun _ _ _ H _ I h=>Constant_none ⟨.non,H,I,rfl,h⟩
theorem Ua{x j pos}:PE X (.Constant (.str x) j pos) (tC (.str x)):=fun _ _ _ H _ I h=>Calls.Constant_str ⟨.str x,H,I.tok _,⟨_,rfl⟩,h⟩

noncomputable def Gl(X:Cx)(x:Str):Prop:=X.env.kindOf x=some .globalImplicit
theorem Vf{E:Value->Shared->Prop}{pins:List (Addr×Obj)}{s:Shared}{σ:St}{H:Hp}{x:Str}{u:Value}{pos:Pos}{Q:Value->Shared->Prop}(I:Inv X pins σ H s)(hg:Gl X x)(hm:X.mg x=some u)(h:Q u s)
 (hd:(x == ("__debug__":Str))=false:=by decide):wpAny (model X.prog X.w) X.A (eval (.Name x pos) X.env) Q E s :=
 L7 I.ok.kind hg (Calls.loadGlobal_global (by rw[I.ok.glob];exact I.mod.glob.keeps I.bk) hm h) hd
theorem UM{E:Value->Shared->Prop}{pins:List (Addr×Obj)}{s:Shared}{σ:St}{H:Hp}{x:Str}{u:Value}{pos:Pos}{Q:Value->Shared->Prop}(I:Inv X pins σ H s)(hg:Gl X x)(hm:X.mg x=none)(hv:bootBuiltins x=some u)(h:Q u s)
 (hn:x≠"__name__":=by decide) (hd:(x == ("__debug__":Str))=false:=by decide):wpAny (model X.prog X.w) X.A (eval (.Name x pos) X.env) Q E s:=by
 obtain⟨mb,h1,h2⟩:=I.mod.blt;exact L7 I.ok.kind hg (Calls.loadGlobal_builtin (by rw[I.ok.glob];exact I.mod.glob.keeps I.bk) hm (by rw[I.ok.blt];exact h1.keeps I.bk) ((h2 x hn).trans hv) h) hd
theorem YJ{x:Str}{v:V}{u:Value}{pos:Pos}(hg:Gl X x)(hm:X.mg x=some u)(r:RelV v u)(hd:(x == ("__debug__":Str))=false:=by decide):PE X (.Name x pos) (tC v) :=
 fun _ _ _ H _ I h=>Vf I hg hm ⟨v,H,I,r,h⟩ hd
theorem WB{x:Str}{v:V}{u:Value}{pos:Pos}(hg:Gl X x)(hm:X.mg x=none)(hv:bootBuiltins x=some u)(r:RelV v u)(hn:x≠"__name__":=by decide)(hd:(x == ("__debug__":Str))=false:=by decide):PE X (.Name x pos) (tC v) :=
 fun _ _ _ H _ I h=>UM I hg hm hv ⟨v,H,I,r,h⟩ hn hd

variable{a b:Expr}{ta tb:TE}{pos:Pos}
noncomputable def tB(t:TE):TT:=fun σ H Q=>t σ H fun x H1=>∃c,x=.bl c/\Q c H1
variable{tA tB':TT}{rest:List Expr}
noncomputable def Jow(t u:TT):TT:=fun σ H Q=>t σ H fun c H1=>if c=true then u σ H1 Q else Q false H1
noncomputable def tOr(t u:TT):TT:=fun σ H Q=>t σ H fun c H1=>if c=true then Q true H1 else u σ H1 Q
noncomputable def Joy(t:TT):TT:=fun σ H Q=>t σ H fun c H1=>Q (!c) H1
theorem WD(ha:PT X a tA):PW X (.BoolOp .And [a] pos) tA:=by
 intro wh pins s σ H Q I h;refine isTrue_and (thn (ha pins s σ H Q I h) fun c s1 e=>?_)
 cases c with
 | true=>exact isTrue_and_nil e
 | false=>exact e
theorem W2(ha:PT X a tA):PW X (.BoolOp .Or [a] pos) tA:=by
 intro wh pins s σ H Q I h;refine isTrue_or (thn (ha pins s σ H Q I h) fun c s1 e=>?_)
 cases c with
 | false=>exact isTrue_or_nil e
 | true=>exact e
theorem Jaj(ha:PT X a tA)(hb:PW X (.BoolOp .And (b::rest) pos) tB'):PW X (.BoolOp .And (a::b::rest) pos) (Jow tA tB'):=by
 intro wh pins s σ H Q I h;refine isTrue_and (thn (ha pins s σ H _ I h) fun c s1 ⟨H1,I1,q1⟩=>?_)
 cases c with
 | true=>exact hb wh pins s1 σ H1 Q I1 q1
 | false=>exact⟨H1,I1,q1⟩
theorem Zf(ha:PT X a tA)(hb:PW X (.BoolOp .Or (b::rest) pos) tB'):PW X (.BoolOp .Or (a::b::rest) pos) (tOr tA tB'):=by
 intro wh pins s σ H Q I h;refine isTrue_or (thn (ha pins s σ H _ I h) fun c s1 ⟨H1,I1,q1⟩=>?_)
 cases c with
 | true=>exact⟨H1,I1,q1⟩
 | false=>exact hb wh pins s1 σ H1 Q I1 q1
theorem Jd8(ha:PT X a tA):PT X (.UnaryOp .Not a pos) (Joy tA):=by intro pins s σ H Q I h;exact isTrue_not (ha pins s σ H (fun c H1=>Q (!c) H1) I h)
noncomputable def JiY(ta tb:TE):TE:=fun σ H Q=>ta σ H fun x H1=>∃c,x=.bl c/\if c=true then tb σ H1 Q else Q (.bl false) H1
noncomputable def JqH(ta tb:TE):TE:=fun σ H Q=>ta σ H fun x H1=>∃c,x=.bl c/\if c=true then Q (.bl true) H1 else tb σ H1 Q
noncomputable def Jqa(ta:TE):TE:=fun σ H Q=>ta σ H fun x H1=>∃c,x=.bl c/\Q (.bl (!c)) H1
theorem JnI{op}{t:TE}(h:PE X a t):PE X (.BoolOp op [a] pos) t:=fun pins s σ H Q I hw=>BoolOp_one (h pins s σ H Q I hw)
theorem Jid(ha:PE X a ta)(hb:PE X (.BoolOp .And (b::rest) pos) tb):PE X (.BoolOp .And (a::b::rest) pos) (JiY ta tb):=by
 intro pins s σ H Q I h;refine BoolOp_and (thn (ha pins s σ H _ I h) fun v s1 ⟨x,H1,I1,r1,q1⟩=>?_);obtain⟨c,rfl,q1⟩:=q1;cases r1;refine Ko ?_
 cases c with
 | true=>exact hb pins s1 σ H1 Q I1 q1
 | false=>exact⟨.bl false,H1,I1,rfl,q1⟩
noncomputable def tIf(t:TT)(ta tb:TE):TE:=fun σ H Q=>t σ H fun c H1=>if c=true then ta σ H1 Q else tb σ H1 Q
theorem JcZ{c:Expr}(hc:PT X c tA)(ha:PE X a ta)(hb:PE X b tb):PE X (.IfExp c a b pos) (tIf tA ta tb):=by
 intro pins s σ H Q I h;refine wpAny_IfExp (thn (hc pins s σ H _ I h) fun d s1 ⟨H1,I1,q1⟩=>?_)
 cases d with
 | true=>exact ha pins s1 σ H1 Q I1 q1
 | false=>exact hb pins s1 σ H1 Q I1 q1
end
end L2

namespace L2
open PySem PySem.Spec PyProof.Rows

noncomputable def SqL(K:Frag)(H:Hp)(a:Addr)(xs:List V):Prop :=
 Rd H a (.lst xs) ∨
  ∃(o:Obj) (its:Array Value) (n:Nat),K.lookup a=some o/\o.cls=.type "list"/\o.dict=none/\o.data=.seq its n/\its.size<=sizeLine/\Vals xs its.toList
noncomputable def SqT(K:Frag)(H:Hp)(a:Addr)(xs:List V):Prop :=
 Rd H a (.tup xs) ∨
  ∃(o:Obj) (its:Array Value) (n:Nat),K.lookup a=some o/\o.cls=.type "tuple"/\o.data=.seq its n/\its.size<=sizeLine/\Vals xs its.toList
noncomputable def Jqk:Value->Option V
 | .none=>some .non
 | .bool b=>some (.bl b)
 | .int i _=>some (.int i)
 | .str x _=>some (.str x)
 | .bytes b _=>some (.byt b)
 | .float b _=>some (.flt b)
 | .ref a=>some (.ref a)
 | .type n=>some (.ty n)
 | _=>none
theorem RelV.abs{x:V}{u:Value}(r:RelV x u):Jqk u=some x:=by
 cases x with
 | non=>cases r;rfl
 | bl _=>cases r;rfl
 | int _=>obtain⟨t,rfl⟩:=r;rfl
 | str _=>obtain⟨t,rfl⟩:=r;rfl
 | byt _=>obtain⟨t,rfl⟩:=r;rfl
 | flt _=>obtain⟨t,rfl⟩:=r;rfl
 | ref _=>cases r;rfl
 | ty _=>cases r;rfl
theorem RelV.inj{x y:V}{u:Value}(r:RelV x u)(q:RelV y u):x=y:=Qz (r.abs.symm.trans q.abs)
theorem Vals.inj:∀{xs ys:List V} {us:List Value},Vals xs us->Vals ys us->xs=ys
 | _,_,_,.nil,.nil=>rfl
 | _,_,_,.cons r t,.cons r' t'=>by rw[r.inj r',Vals.inj t t']
section
variable{X:Cx}{pins:List (Addr×Obj)}{σ:St}{H:Hp}{s:Shared}{a:Addr}{xs ys:List V}
theorem SqL.of{K:Frag}(h:H a=some (.lst xs)):SqL K H a xs:=.inl (.inl h)
theorem SqT.of{K:Frag}(h:H a=some (.tup xs)):SqT K H a xs:=.inl (.inl h)
theorem Inv.list(I:Inv X pins σ H s)(h:SqL X.K H a xs):∃its:List Value,Vals xs its/\PlainL s.heap a its.toArray/\xs.length<=sizeLine:=by
 rcases h with h|⟨o,its,n,hk,hc,hd,hs,hz,r⟩
 ·obtain⟨z,its,n,r,e⟩:=h.ok I.hok;exact⟨its,r,⟨_,n,e,rfl,rfl,rfl⟩,z⟩
 ·refine⟨its.toList,r,⟨o,n,I.kIn a o hk,hc,hd,by simpa using hs⟩,?_⟩;have e:=r.length;simp only[QF] at e;omega
theorem Inv.tuple(I:Inv X pins σ H s)(h:SqT X.K H a xs):∃its:List Value,Vals xs its/\IsTup s.heap a its.toArray/\xs.length<=sizeLine:=by
 rcases h with h|⟨o,its,n,hk,hc,hs,hz,r⟩
 ·obtain⟨z,its,r,p⟩:=h.ok I.hok;exact⟨its,r,p,z⟩
 ·refine⟨its.toList,r,⟨o,I.kIn a o hk,hc,n,by simpa using hs⟩,?_⟩;have e:=r.length;simp only[QF] at e;omega
theorem Inv.list_inj(I:Inv X pins σ H s)(h:SqL X.K H a xs)(h':SqL X.K H a ys):xs=ys:=by
 obtain⟨its,r,⟨o,n,e,_,_,d⟩,_⟩:=I.list h;obtain⟨its',r',⟨o',n',e',_,_,d'⟩,_⟩:=I.list h';rw[e] at e';cases e';rw[d] at d'
 injection d' with d1 _
 have:its=its':=by simpa using congrArg Array.toList d1
 subst this;exact r.inj r'
theorem Inv.tuple_inj(I:Inv X pins σ H s)(h:SqT X.K H a xs)(h':SqT X.K H a ys):xs=ys:=by
 obtain⟨its,r,⟨o,e,_,n,d⟩,_⟩:=I.tuple h;obtain⟨its',r',⟨o',e',_,n',d'⟩,_⟩:=I.tuple h';rw[e] at e';cases e';rw[d] at d'
 injection d' with d1 _
 have:its=its':=by simpa using congrArg Array.toList d1
 subst this;exact r.inj r'
end

noncomputable abbrev Cx.wish(X:Cx)(E:Value->Shared->Prop):Cx:={ X with xe:=E }
noncomputable abbrev Cx.nox(X:Cx):Cx:=X.wish fun _ _=>False
theorem Cx.Ok.wish{X:Cx}(ok:X.Ok)(E:Value->Shared->Prop):(X.wish E).Ok :=
 ⟨ok.mod,ok.kind,ok.glob,ok.blt,ok.above,ok.inj,ok.has,ok.cab,ok.hd,ok.frames,ok.stk,ok.exf,ok.bs,ok.bsz,ok.noex,ok.exfs,ok.funs,ok.frf⟩
theorem Cx.Ok.unwish{X:Cx}{E:Value->Shared->Prop}(ok:(X.wish E).Ok):X.Ok :=
 ⟨ok.mod,ok.kind,ok.glob,ok.blt,ok.above,ok.inj,ok.has,ok.cab,ok.hd,ok.frames,ok.stk,ok.exf,ok.bs,ok.bsz,ok.noex,ok.exfs,ok.funs,ok.frf⟩
section
variable{X:Cx}{pins:List (Addr×Obj)}{σ:St}{H:Hp}{s:Shared}{E:Value->Shared->Prop}
theorem Inv.wish(I:Inv X pins σ H s)(E:Value->Shared->Prop):Inv (X.wish E) pins σ H s:=⟨I.ok.wish E,I.os,I.bare,I.base,I.loc,I.cell,I.free,I.freeC,I.pin,I.hok,I.len⟩
theorem Inv.unwish(I:Inv (X.wish E) pins σ H s):Inv X pins σ H s:=⟨I.ok.unwish,I.os,I.bare,I.base,I.loc,I.cell,I.free,I.freeC,I.pin,I.hok,I.len⟩
theorem SP.unwish{D:Ends}{f:Flow}{s':Shared}(h:SP (X.wish E) pins D f s'):SP X pins D f s':=by
 cases f with
 | next=>obtain⟨σ',H',I,q⟩:=h;exact⟨σ',H',I.unwish,q⟩
 | brk=>obtain⟨σ',H',I,q⟩:=h;exact⟨σ',H',I.unwish,q⟩
 | cont=>obtain⟨σ',H',I,q⟩:=h;exact⟨σ',H',I.unwish,q⟩
 | ret u=>obtain⟨v,σ',H',I,r,q⟩:=h;exact⟨v,σ',H',I.unwish,r,q⟩
theorem PE.nox{e:Expr}{t:TE}(h:PE X.nox e t):PE X e t:=fun pins s σ H Q I hw=>GC (h pins s σ H Q (I.wish _) hw) (fun _ _ ⟨v,H',I',r,q⟩=>⟨v,H',I'.unwish,r,q⟩) fun _ _ z=>Q7 z
theorem PT.nox{e:Expr}{t:TT}(h:PT X.nox e t):PT X e t:=fun pins s σ H Q I hw=>GC (h pins s σ H Q (I.wish _) hw) (fun _ _ ⟨H',I',q⟩=>⟨H',I'.unwish,q⟩) fun _ _ z=>Q7 z
theorem PSs.nox{st:List Stmt}{t:TS}(h:PSs X.nox st t):PSs X st t:=fun pins s σ H D I hw=>GC (h pins s σ H D (I.wish _) hw) (fun _ _ q=>q.unwish) fun _ _ z=>Q7 z
end

section
variable{X:Cx}{st:Stmt}{rest:List Stmt}{t u:TS}{e:Expr}{te:TE}{pos:Pos}
noncomputable def Ji3:TS:=fun D σ H=>D.nx σ H
noncomputable def JlD(t u:TS):TS:=fun D σ H=>t { D with nx:=u D } σ H
theorem JD:PSs X [] Ji3:=fun _ _ σ H _ I h=>KP ⟨σ,H,I,h⟩
theorem Jd(h1:PS X st t)(h2:PSs X rest u):PSs X (st::rest) (JlD t u):=by
 intro pins s σ H D I h;refine MB (thn (h1 pins s σ H { D with nx:=u D } I h) fun f s1 q=>?_)
 cases f with
 | next=>obtain⟨σ',H',I',q⟩:=q;exact h2 pins s1 σ' H' D I' q
 | ret v=>exact q
 | brk=>exact q
 | cont=>exact q
theorem Jh(h1:PS X st t):PSs X [st] t:=by
 intro pins s σ H D I h;refine MB (thn (h1 pins s σ H D I h) fun f s1 q=>?_)
 cases f with
 | next=>exact KP q
 | ret v=>exact q
 | brk=>exact q
 | cont=>exact q
theorem Inv.quiet{pins:List (Addr×Obj)}{σ:St}{H:Hp}{s:Shared}(I:Inv X pins σ H s):interactive X.env=false:=by simp[interactive,I.ok.kind]
noncomputable def WL(te:TE):TS:=fun D σ H=>te σ H fun _ H1=>D.nx σ H1
theorem Yu(he:PE X e te)(hs:swapsWith e none pos.line X.env=pure false:=by rfl):PS X (.Expr e pos) (WL te):=by intro pins s σ H D I h;exact wpAny_Expr_any (thn (he pins s σ H _ I h) fun v s1 ⟨x,H1,I1,r1,q1⟩=>⟨σ,H1,I1,q1⟩) I.quiet hs
noncomputable def Ji4(te:TE):TS:=fun D σ H=>te σ H D.rt
theorem JC(he:PE X e te):PS X (.Return (some e) pos) (Ji4 te):=by intro pins s σ H D I h;exact wpAny_Return_some (thn (he pins s σ H _ I h) fun v s1 ⟨x,H1,I1,r1,q1⟩=>⟨x,σ,H1,I1,r1,q1⟩)
noncomputable def JlC(c:TT)(t u:TS):TS:=fun D σ H=>c σ H fun b H1=>if b=true then t D σ H1 else u D σ H1
theorem J8{c:Expr}{a b:List Stmt}{tc:TT}(hc:PT X c tc)(ha:PSs X a t)(hb:PSs X b u):PS X (.If c a b pos) (JlC tc t u):=by
 intro pins s σ H D I h;refine wpAny_If (thn (hc pins s σ H _ I h) fun d s1 ⟨H1,I1,q1⟩=>?_)
 cases d with
 | true=>exact ha pins s1 σ H1 D I1 q1
 | false=>exact hb pins s1 σ H1 D I1 q1
noncomputable def Ji2:TS:=fun _ _ _=>False
theorem Uk:PS X st Ji2:=fun _ _ _ _ _ _ h=>h.elim
end

noncomputable abbrev TG:=V->St->Hp->(St->Hp->Prop)->Prop
noncomputable abbrev TGs:=List V->St->Hp->(St->Hp->Prop)->Prop
noncomputable def PG(X:Cx)(target:Expr)(t:TG):Prop :=
 ∀(pins:List (Addr×Obj)) (s:Shared) (σ:St) (H:Hp) (v:V) (u:Value) (Q:St->Hp->Prop),Inv X pins σ H s->RelV v u->t v σ H Q ->
  wpAny (model X.prog X.w) X.A (assign target X.env u) (fun _ s'=>∃σ' H',Inv X pins σ' H' s'/\Q σ' H') X.xe s
noncomputable def PGs(X:Cx)(ts:List Expr)(t:TGs):Prop :=
 ∀(pins:List (Addr×Obj)) (s:Shared) (σ:St) (H:Hp) (vs:List V) (us:List Value) (Q:St->Hp->Prop),Inv X pins σ H s->Vals vs us->t vs σ H Q ->
  wpAny (model X.prog X.w) X.A (assignInOrder ((assignEach ts X.env).map (·.2)) us) (fun _ s'=>∃σ' H',Inv X pins σ' H' s'/\Q σ' H') X.xe s
noncomputable abbrev JoU:=V->V->V->Hp->(Hp->Prop)->Prop
noncomputable abbrev TIp:=V->V->Hp->VK->Prop
noncomputable def PIp(X:Cx)(op:Operator)(t:TIp):Prop :=
 ∀(pins:List (Addr×Obj)) (s:Shared) (σ:St) (H:Hp) (x y:V) (v u:Value) (Q:VK),Inv X pins σ H s->RelV x v->RelV y u->t x y H Q ->
  wpAny (model X.prog X.w) X.A (inplaceOp op v u) (EP X pins σ Q) X.xe s
section
variable{X:Cx}{pos:Pos}
noncomputable def Vv(i:Nat):TG:=fun v σ H Q=>Q (σ.set i (some v)) H
theorem JF{i:Nat}{x:Str}(hN:X.N.Nodup)(hi:X.N[i]?=some x)(hx:Loc X.env.scope x)(hf:X.fn x=true\/X.env.scope.names.lookup x=some .local:=by first|exact .inl rfl|exact .inr rfl|assumption):PG X (.Name x pos) (Vv i):=by intro pins s σ H v u Q I r h;exact wpAny_assign_Name (WJ I hN hi hx r (fun s' I'=>⟨_,H,I',h⟩) hf)
noncomputable def Jkb:TGs:=fun vs σ H Q=>vs=[]/\Q σ H
noncomputable def Je1(t:TG)(u:TGs):TGs:=fun vs σ H Q=>∃v r,vs=v::r/\t v σ H fun σ' H'=>u r σ' H' Q
theorem JT:PGs X [] Jkb:=by intro pins s σ H vs us Q I r h;obtain⟨e,h⟩:=h;subst e;cases r;exact assignInOrder_nil ⟨σ,H,I,h⟩
theorem Jm{e:Expr}{es:List Expr}{t:TG}{u:TGs}(h1:PG X e t)(h2:PGs X es u)
 (hs:(assignEach (e::es) X.env).map (·.2)=assign e X.env::(assignEach es X.env).map (·.2):=by rfl):PGs X (e::es) (Je1 t u):=by
 intro pins s σ H vs us Q I r h;obtain⟨v,vr,e1,h⟩:=h;subst e1
 cases r with
 | cons r rr=>rw[hs];refine assignInOrder_cons (thn (h1 pins s σ H _ _ _ I r h) fun _ s1 ⟨σ1,H1,I1,q1⟩=>?_);exact h2 pins s1 σ1 H1 _ _ Q I1 rr q1
noncomputable def Jgb(K:Frag)(n:Nat)(t:TGs):TG:=fun v σ H Q=>∃a xs,v=.ref a/\SqT K H a xs/\xs.length=n/\t xs σ H Q
theorem JnL{es:List Expr}{k:Nat}{t:TGs}{n:Nat}(hc:X.calm=true)(h:PGs X es t)
 (hn:(assignEach es X.env).length=n:=by rfl) (hst:(assignEach es X.env).findIdx? (·.1)=none:=by rfl):PG X (.Tuple es k pos) (Jgb X.K n t):=by
 intro pins s σ H v u Q I r hw;obtain⟨a,xs,e1,hq,hl,hw⟩:=hw;subst e1;cases r;obtain⟨its,rv,ht,hz⟩:=I.tuple hq;refine assign_Tuple_tuple (I.ok.hd hc) ht (by simp[hn,<- hl,rv.length]) hst fun h' hx=>?_
 have I1:Inv X pins σ H { s with heap:=h' }:=I.kept (t':=s.toks) fun b o e=>hx b o (Qr (Qj e)) e
 exact h pins _ σ H xs _ Q I1 (by simpa using rv) hw
noncomputable def Jqs(to ti:TE)(t:JoU):TG:=fun v σ H Q=>to σ H fun o H1=>ti σ H1 fun i H2=>t o i v H2 fun H3=>Q σ H3
noncomputable def Jb3(te:TE)(g:TG):TS:=fun D σ H=>te σ H fun x H1=>g x σ H1 D.nx
theorem JnP{tg e:Expr}{te:TE}{g:TG}(he:PE X e te)(hg:PG X tg g)(hs:swapsWithSole [tg] e pos.line X.env=pure false:=by rfl)(hw:swappedStores [tg] e X.env=pure none:=by rfl)
 (h1:(assignEach [tg] X.env).map (·.2)=[assign tg X.env]:=by rfl):PS X (.Assign [tg] e pos) (Jb3 te g):=by
 intro pins s σ H D I h;refine wpAny_Assign_stores (thn (he pins s σ H _ I h) fun v s1 ⟨x,H1,I1,r1,q1⟩=>?_) hs hw;rw[h1];exact thn (hg pins s1 σ H1 x v _ I1 r1 q1) fun _ s2 q=>q
theorem Jai{i:Nat}{x:Str}{e:Expr}{te:TE}{pos':Pos}(hN:X.N.Nodup)(hi:X.N[i]?=some x)(hx:Loc X.env.scope x)(he:PE X e te)(hs:swapsWith e (some (.Name x pos')) pos.line X.env=pure false:=by rfl)(hf:X.fn x=true\/X.env.scope.names.lookup x=some .local:=by first|exact .inl rfl|exact .inr rfl|assumption) :
 PS X (.Assign [.Name x pos'] e pos) (Jb3 te (Vv i)):=by
 intro pins s σ H D I h;refine wpAny_Assign_Name (thn (he pins s σ H _ I h) fun v s1 ⟨y,H1,I1,r1,q1⟩=>?_) hs;exact WJ I1 hN hi hx r1 (fun s2 I2=>⟨_,H1,I2,q1⟩) hf
noncomputable def JlA(i:Nat)(te:TE)(ti:TIp):TS:=fun D σ H=>∃x,σ[i]?=some (some x)/\te σ H fun y H1=>ti x y H1 fun z H2=>D.nx (σ.set i (some z)) H2
theorem Jd6{i:Nat}{x:Str}{e:Expr}{te:TE}{op:Operator}{ti:TIp}{pos':Pos}(hN:X.N.Nodup)(hi:X.N[i]?=some x)(hx:Loc X.env.scope x)(he:PE X e te)(ho:PIp X op ti)(hf:X.fn x=true\/X.env.scope.names.lookup x=some .local:=by first|exact .inl rfl|exact .inr rfl|assumption) :
 PS X (.AugAssign (.Name x pos') op e pos) (JlA i te ti):=by
 intro pins s σ H D I h;obtain⟨v,e1,h⟩:=h;obtain⟨m,hn,hl⟩:=I.loc;have vis:Vis X.env.scope x:=by rcases hx with k|k;exact .inl k;exact .inr (.inl k)
 obtain⟨u,r,l⟩:=hl i x v hi e1 vis;refine wpAny_AugAssign_Name ?_
 have go:wpAny (model X.prog X.w) X.A (eval e X.env) (fun w s₂=>wpAny (model X.prog X.w) X.A (inplaceOp op u w) (fun r s₃=>wpAny (model X.prog X.w) X.A (storeName X.env x r) (fun _=>SP X pins D .next) X.xe s₃) X.xe s₂) X.xe s:=by
  refine thn (he pins s σ H _ I h) fun w s1 ⟨y,H1,I1,r1,q1⟩=>?_
  refine thn (ho pins s1 σ H1 v y u w _ I1 r r1 q1) fun z s2 ⟨zv,H2,I2,r2,q2⟩=>?_
  exact WJ I2 hN hi hx r2 (fun s3 I3=>⟨_,H2,I3,q2⟩) hf
 rcases l with ⟨hk,hm⟩|⟨hk,c,hc,hcell⟩
 ·exact wpAny_loadName_local I.ok.kind hk hn hm go
 ·rcases hk with hk|hk
  ·exact wpAny_loadName_cell I.ok.kind hk hc hcell go
  ·rcases hx with k|k
   ·have:X.env.scope.names.lookup x=some .free:=hk;rw[k] at this;cases this
   ·have:X.env.scope.names.lookup x=some .free:=hk;rw[k] at this;cases this
noncomputable def ipI(f:Int->Int->Int):TIp:=fun x y H Q=>∃i j,x=.int i/\y=.int j/\Q (.int (f i j)) H
theorem JmW:PIp X .Sub (ipI fun i j=>i-j):=by intro pins s σ H x y v u Q I r1 r2 h;obtain⟨i,j,e1,e2,q⟩:=h;subst e1;subst e2;obtain⟨t,rfl⟩:=r1;obtain⟨t',rfl⟩:=r2;exact isub_int ⟨.int _,H,I.tok _,⟨_,rfl⟩,q⟩
end

section
variable{X:Cx}{pos:Pos}
noncomputable def Ji6(c:TT)(tb:TS):TS:=fun D σ H=>∃W:Nat->St->Hp->Prop,(∃m,W m σ H)/\∀m σ H,W m σ H ->
 c σ H fun b H1=>if b=true then ∃N:St->Hp->Prop,(∀σ' H',N σ' H'->∃m',m'<m/\W m' σ' H')/\tb { D with nx:=N,ct:=N,bk:=D.nx } σ H1 else D.nx σ H1
theorem Jin{c:Expr}{body:List Stmt}{tc:TT}{tb:TS}(hp:PassesOwn (model X.prog X.w) X.A X.env X.xe)(hc:PT X c tc)(hb:PSs X body tb):PS X (.While c body [] pos) (Ji6 tc tb):=by
 intro pins s σ H D I h;obtain⟨W,⟨m0,w0⟩,turn⟩:=h;refine wpAny_While (codeAny_whileLoop (fun n s'=>∃σ' H',Inv X pins σ' H' s'/\W n σ' H') ?_ m0 ⟨σ,H,I,w0⟩);rintro n s1 ⟨σ1,H1,I1,w1⟩;refine Kk hp (thn (hc pins s1 σ1 H1 _ I1 (turn n σ1 H1 w1)) fun b s2 ⟨H2,I2,q2⟩=>?_)
 cases b with
 | true =>
  obtain⟨N,hN,q2⟩:=q2;rw[if_pos rfl];refine Kk hp (thn (hb pins s2 σ1 H2 _ I2 q2) fun f s3 q3=>?_)
  cases f with
  | next=>obtain⟨σ3,H3,I3,n3⟩:=q3;obtain⟨m',hm,w3⟩:=hN σ3 H3 n3;exact⟨m',hm,σ3,H3,I3,w3⟩
  | cont=>obtain⟨σ3,H3,I3,n3⟩:=q3;obtain⟨m',hm,w3⟩:=hN σ3 H3 n3;exact⟨m',hm,σ3,H3,I3,w3⟩
  | brk=>exact q3
  | ret v=>exact q3
 | false=>rw[if_neg Qp];exact KP ⟨σ1,H2,I2,q2⟩
end

structure It where
 go:Nat->Hp->Prop
 yld:Nat->Hp->V->Hp->Prop
 stop:Nat->Hp->Prop
noncomputable def FpOk(X:Cx)(pins:List (Addr×Obj))(H:Hp)(b:Addr):Prop :=
 H b=none/\b≠X.env.locals/\b∉X.fs/\(b∈X.ex\/X.s₀.heap.objs.size<=b)/\(∀x c,X.env.cells.lookup x=some c->c≠b)/\∀p∈X.pn++pins,p.1≠b
theorem Inv.fpOk{X:Cx}{pins:List (Addr×Obj)}{σ:St}{H H':Hp}{s:Shared}{b:Addr}(I:Inv X pins σ H s)(hb:s.heap.objs.size<=b)(hn:H' b=none):FpOk X pins H' b:=by
 refine⟨hn,QO (QJ I.lt hb),I.nofs hb,.inr (QR I.sz hb),fun x c e z=>?_,fun p hp z=>?_⟩
 ·obtain⟨v,q⟩:=I.cell x c e;exact absurd (QJ q.lt (by rw[z];exact hb)) (Q5 _)
 ·exact absurd (QJ (Qj (I.pin p hp).1) (by rw[z];exact hb)) (Q5 _)
structure Turn (P:Program) (w:World) (K:Frag) (tg:Expr) (J:It) (fp:List Addr) (it:Addr) (tn:Nat->Heap->Prop):Prop where
 mem:it∈fp
 obj:∀i h,tn i h->∀b∈fp,∃o,h.get? b=some o/\∀v,o.data≠.cell v
 keep:∀i h h',tn i h->(∀b∈fp,∀o,h.get? b=some o->h'.get? b=some o)->tn i h'
 item:∀(X:Cx),X.prog=P->X.w=w->X.K=K->X.calm=true->∀(i:Nat) (pins:List (Addr×Obj)) (s:Shared) (σ:St) (H:Hp) (E:Value->Shared->Prop),Inv X pins σ H s->(∀b∈fp,FpOk X pins H b)->tn i s.heap->J.go i H ->
  wpAny (model P w) X.A (pyNext (.ref it)) (fun r s1=>∃u,r=some u ∧
   wpAny (model P w) X.A (letOwnedTupleGo tg (.ref it) u) (fun _ s2=>∃x H',Inv X pins σ H' s2/\RelV x u/\J.yld i H x H'/\tn (i+1) s2.heap/\∀b∈fp,H' b=none) E s1) E s
 done:∀(X:Cx),X.prog=P->X.w=w->X.K=K->X.calm=true->∀(i:Nat) (pins:List (Addr×Obj)) (s:Shared) (σ:St) (H:Hp) (E:Value->Shared->Prop),Inv X pins σ H s->(∀b∈fp,FpOk X pins H b)->tn i s.heap->J.stop i H ->
  wpAny (model P w) X.A (pyNext (.ref it)) (fun r s1=>r=none/\Inv X pins σ H s1) E s
 self:∀(A:Around) (i:Nat) (s:Shared) (Q:Value->Shared->Prop) (E:Value->Shared->Prop),tn i s.heap->Q (.ref it) s->wpAny (model P w) A (pyIter (.ref it)) Q E s
noncomputable abbrev TI:=St->Hp->(It->Hp->Prop)->Prop
noncomputable def PIE(X:Cx)(pins:List (Addr×Obj))(σ:St)(tg:Expr)(R:It->Hp->Prop)(itv:Value)(s2:Shared):Prop :=
 ∃(it:Addr) (fp:List Addr) (tn:Nat->Heap->Prop) (J:It) (H':Hp),itv=.ref it/\Inv X pins σ H' s2/\Turn X.prog X.w X.K tg J fp it tn/\tn 0 s2.heap/\(∀b∈fp,FpOk X pins H' b)/\R J H'
noncomputable def PI(X:Cx)(tg iter:Expr)(wi:TI):Prop :=
 ∀(pins:List (Addr×Obj)) (s:Shared) (σ:St) (H:Hp) (R:It->Hp->Prop),Inv X pins σ H s->wi σ H R ->
  wpAny (model X.prog X.w) X.A (eval iter X.env) (fun v s1=>wpAny (model X.prog X.w) X.A (pyIter v) (PIE X pins σ tg R) X.xe s1) X.xe s

theorem JaZ{M:Model}{A:Around}{E:Value->Shared->Prop}{s:Shared}{tg:Expr}{it:Addr}{u:Value}{o:Obj}{n:String}{vs:Array Value}{Q:Unit->Shared->Prop}(ho:s.heap.get? it=some o)(hc:o.cls=.type n)(hd:o.data=.fields vs)
 (hn:["enumerate","zip","dict_itemiterator","dict_reverseitemiterator","odict_iterator","itertools.zip_longest","itertools.pairwise"].contains n=false) (hQ:Q () s):wpAny M A (letOwnedTupleGo tg (.ref it) u) Q E s:=by
 unfold letOwnedTupleGo;cases tg <;> first
  | exact Qd hQ
  | (cases u <;> first
   | exact Qd hQ
   | (refine Qa (wpAny_load ho ?_)
      rw[hc,hd];show wpAny M A (if (["enumerate","zip","dict_itemiterator","dict_reverseitemiterator","odict_iterator","itertools.zip_longest","itertools.pairwise"].contains n && vs[0]? == some (rawInt _))=true then _ else _) Q E s;rw[if_neg (by intro h;rw[hn,Bool.false_and] at h;cases h)];exact Qd hQ))

noncomputable def Itl(K:Frag)(a:Addr):It :=
 ⟨fun i H=>∃xs x,SqL K H a xs/\xs[i]?=some x,fun i H x H'=>H'=H/\∀xs,SqL K H a xs->xs[i]?=some x,fun i H=>∃xs,SqL K H a xs/\xs.length<=i⟩
noncomputable def Itt(K:Frag)(a:Addr):It :=
 ⟨fun i H=>∃xs x,SqT K H a xs/\xs[i]?=some x,fun i H x H'=>H'=H/\∀xs,SqT K H a xs->xs[i]?=some x,fun i H=>∃xs,SqT K H a xs/\xs.length<=i⟩
noncomputable def Itr(lo:Int)(n:Nat):It:=⟨fun i _=>i<n,fun i H x H'=>H'=H/\x=.int (lo+i),fun i _=>n<=i⟩
theorem JgR{P:Program}{w:World}{K:Frag}{tg:Expr}(a it:Addr):Turn P w K tg (Itl K a) [it] it (fun i h=>h.IsListIter it a i) where
 mem:=by simp
 obj:=fun i h st b hb=>by
  have e:b=it:=by simpa using hb
  subst e;obtain⟨o,e,c,d⟩:=st;exact⟨o,e,fun v z=>by rw[d] at z;cases z⟩
 keep:=fun i h h' st k=>st.at fun o e=>k it (by simp) o e
 item:=by
  intro X hP hw hK hc i pins s σ H E I hf st hg;subst hP hw hK;obtain⟨xs,x,hq,hx⟩:=hg;obtain⟨its,rv,p,hz⟩:=I.list hq;obtain⟨u,hu,ru⟩:=rv.get hx;obtain⟨f0,f1,f2,f3,f4,f5⟩:=hf it (by simp);refine wpAny_pyNext_list_item st p.isList (x:=u) (by simpa using hu) fun h' st' sb=>?_
  have I1:Inv X pins σ H { s with heap:=h' }:=I.turned (t':=s.toks) (fun b o hb e=>(sb.2 b hb).trans e) f0 f1 f3 f4 f5;obtain⟨o,e,c,d⟩:=id st';exact⟨u,rfl,JaZ (s:={ s with heap:=h' }) e c d (by decide) ⟨x,H,I1,ru,⟨rfl,fun ys hy=>by rw[I.list_inj hy hq];exact hx⟩,st',fun b hb=>(hf b hb).1⟩⟩
 done:=by intro X hP hw hK hc i pins s σ H E I hf st hg;subst hP hw hK;obtain⟨xs,hq,hx⟩:=hg;obtain⟨its,rv,p,hz⟩:=I.list hq;obtain⟨f0,f1,f2,f3,f4,f5⟩:=hf it (by simp);have hl:=rv.length;exact wpAny_pyNext_list_end (I.ok.hd hc) st p.isList (by simp;omega) fun h' eb=>⟨rfl,I.turned (t':=s.toks) (fun b o hb e=>eb b o hb e) f0 f1 f3 f4 f5⟩
 self:=fun _ _ _ _ _ st h=>wpAny_pyIter_listiter st h
theorem Jen{P:Program}{w:World}{K:Frag}{tg:Expr}(a it:Addr):Turn P w K tg (Itt K a) [it] it (fun i h=>h.IsTupleIter it a i) where
 mem:=by simp
 obj:=fun i h st b hb=>by
  have e:b=it:=by simpa using hb
  subst e;obtain⟨o,e,c,d⟩:=st;exact⟨o,e,fun v z=>by rw[d] at z;cases z⟩
 keep:=fun i h h' st k=>st.at fun o e=>k it (by simp) o e
 item:=by
  intro X hP hw hK hc i pins s σ H E I hf st hg;subst hP hw hK;obtain⟨xs,x,hq,hx⟩:=hg;obtain⟨its,rv,p,hz⟩:=I.tuple hq;obtain⟨u,hu,ru⟩:=rv.get hx;obtain⟨f0,f1,f2,f3,f4,f5⟩:=hf it (by simp);refine wpAny_pyNext_tuple_item st (show s.heap.IsTuple a its.toArray from p) (x:=u) (by simpa using hu) fun h' st' sb=>?_
  have I1:Inv X pins σ H { s with heap:=h' }:=I.turned (t':=s.toks) (fun b o hb e=>(sb.2 b hb).trans e) f0 f1 f3 f4 f5;obtain⟨o,e,c,d⟩:=id st';exact⟨u,rfl,JaZ (s:={ s with heap:=h' }) e c d (by decide) ⟨x,H,I1,ru,⟨rfl,fun ys hy=>by rw[I.tuple_inj hy hq];exact hx⟩,st',fun b hb=>(hf b hb).1⟩⟩
 done:=by intro X hP hw hK hc i pins s σ H E I hf st hg;subst hP hw hK;obtain⟨xs,hq,hx⟩:=hg;obtain⟨its,rv,p,hz⟩:=I.tuple hq;obtain⟨f0,f1,f2,f3,f4,f5⟩:=hf it (by simp);have hl:=rv.length;exact wpAny_pyNext_tuple_end (I.ok.hd hc) st (show s.heap.IsTuple a its.toArray from p) (by simp;omega) fun h' eb=>⟨rfl,I.turned (t':=s.toks) (fun b o hb e=>eb b o hb e) f0 f1 f3 f4 f5⟩
 self:=fun _ _ _ _ _ st h=>wpAny_pyIter_tupleiter st h
theorem Jem{P:Program}{w:World}{K:Frag}{tg:Expr}(it:Addr)(lo:Int)(n:Nat):Turn P w K tg (Itr lo n) [it] it (fun i h=>IsRangeIter h it (lo+(i:Nat)*1) ((n:Int)-(i:Nat)) 1) where
 mem:=by simp
 obj:=fun i h st b hb=>by
  have e:b=it:=by simpa using hb
  subst e;exact⟨_,st,fun v z=>by have z':Data.fields _=Data.cell v:=z;cases z'⟩
 keep:=fun i h h' st k=>k it (by simp) _ st
 item:=by
  intro X hP hw hK hc i pins s σ H E I hf st hg;subst hP hw hK;obtain⟨f0,f1,f2,f3,f4,f5⟩:=hf it (by simp);have W:=Walks.range (prog:=X.prog) (w:=X.w) (I.ok.hd hc) it lo 1 n;refine W.item i s _ _ hg st fun v h' tk hv st' kk=>?_
  obtain⟨t,rfl⟩:=hv;have I1:Inv X pins σ H { s with heap:=h',toks:=tk }:=I.turned (fun b o hb e=>kk b o (by simpa using hb) e) f0 f1 f3 f4 f5;refine⟨_,rfl,JaZ (s:={ s with heap:=h',toks:=tk }) (n:="range_iterator") st' rfl rfl (by decide) ⟨.int (lo+i),H,I1,⟨t,?_⟩,⟨rfl,rfl⟩,st',fun b hb=>(hf b hb).1⟩⟩;rw[Int.mul_one]
 done:=by intro X hP hw hK hc i pins s σ H E I hf st hg;subst hP hw hK;obtain⟨f0,f1,f2,f3,f4,f5⟩:=hf it (by simp);exact wpAny_pyNext_range_end (I.ok.hd hc) st (by have:n<=i:=hg;omega) fun h' eb=>⟨rfl,I.turned (t':=s.toks) (fun b o hb e=>eb b o hb e) f0 f1 f3 f4 f5⟩
 self:=fun _ _ _ _ _ st h=>wpAny_pyIter_rangeiter st h
end L2

namespace L2
open PySem PySem.Spec PyProof.Rows
section
variable{X:Cx}{tg:Expr}
noncomputable def JlW(K:Frag)(tl:TE):TI:=fun σ H R=>tl σ H fun x H1=>∃a,x=.ref a/\(∃xs,SqL K H1 a xs)/\R (Itl K a) H1
noncomputable def Jpd(K:Frag)(tl:TE):TI:=fun σ H R=>tl σ H fun x H1=>∃a,x=.ref a/\(∃xs,SqT K H1 a xs)/\R (Itt K a) H1
theorem JkQ{l:Expr}{tl:TE}(hl:PE X l tl):PI X tg l (JlW X.K tl):=by
 intro pins s σ H R I h;refine thn (hl pins s σ H _ I h) fun v s1 ⟨x,H1,I1,r1,q1⟩=>?_
 obtain⟨a,e,⟨xs,hq⟩,q⟩:=q1;subst e;cases r1;obtain⟨its,rv,p,hz⟩:=I1.list hq;refine Lv p.isList ?_;refine⟨s1.heap.objs.size,[s1.heap.objs.size],_,_,H1,rfl,I1.kept (t':=s1.toks) fun b o e=>Qe _ e,JgR a _,⟨_,Qk _ rfl,rfl,rfl⟩,fun b hb=>?_,q⟩;have e:b=s1.heap.objs.size:=by simpa using hb
 subst e;exact I1.fpOk (Qn _) (I1.hok.fresh (Qn _))
theorem JnN{l:Expr}{tl:TE}(hl:PE X l tl):PI X tg l (Jpd X.K tl):=by
 intro pins s σ H R I h;refine thn (hl pins s σ H _ I h) fun v s1 ⟨x,H1,I1,r1,q1⟩=>?_
 obtain⟨a,e,⟨xs,hq⟩,q⟩:=q1;subst e;cases r1;obtain⟨its,rv,p,hz⟩:=I1.tuple hq;refine L8 (show s1.heap.IsTuple a its.toArray from p) ?_;refine⟨s1.heap.objs.size,[s1.heap.objs.size],_,_,H1,rfl,I1.kept (t':=s1.toks) fun b o e=>Qe _ e,Jen a _,⟨_,Qk _ rfl,rfl,rfl⟩,fun b hb=>?_,q⟩;have e:b=s1.heap.objs.size:=by simpa using hb
 subst e;exact I1.fpOk (Qn _) (I1.hok.fresh (Qn _))
theorem JiB{pins:List (Addr×Obj)}{σ:St}{H:Hp}{s:Shared}{R:It->Hp->Prop}{E:Value->Shared->Prop}{lo hi:Int}{t u v:Tok}{tk:Nat}(I:Inv X pins σ H s)(h1:-(2 ^ 62)<=lo)(h2:lo<2 ^ 62)(h3:-(2 ^ 62)<=hi)(h4:hi<2 ^ 62)
 (q:R (Itr lo (hi-lo).toNat) H):wpAny (model X.prog X.w) X.A (pyIter (.ref s.heap.objs.size)) (PIE X pins σ tg R) E { s with heap:=s.heap.push { cls:=.type "range",data:=.fields #[.int lo t,.int hi u,.int 1 v] },toks:=tk }:=by
 refine wpAny_pyIter_range (IsRange.new ..) (small_one h1 h2 h3 h4) ?_;have I1:Inv X pins σ H { s with heap:=s.heap.push { cls:=.type "range",data:=.fields #[.int lo t,.int hi u,.int 1 v] },toks:=tk }:=I.kept fun b o e=>Qe _ e
 refine⟨(s.heap.push { cls:=.type "range",data:=.fields #[.int lo t,.int hi u,.int 1 v] }).objs.size,[(s.heap.push { cls:=.type "range",data:=.fields #[.int lo t,.int hi u,.int 1 v] }).objs.size],_,_,H,rfl,
  I1.kept (t':=tk) fun b o e=>Qe _ e,Jem _ lo (hi-lo).toNat,?_,fun b hb=>?_,q⟩
 ·have e1:lo+((0:Nat):Int)*1=lo:=by simp
  have e2:(((hi-lo).toNat:Nat):Int)-((0:Nat):Int)=QU lo hi 1:=by rw[rangeSize_one];split <;> omega
  show IsRangeIter _ _ (lo+((0:Nat):Int)*1) ((((hi-lo).toNat:Nat):Int)-((0:Nat):Int)) 1;rw[e1,e2];exact Qk _ rfl
 ·have e:b=(s.heap.push { cls:=.type "range",data:=.fields #[.int lo t,.int hi u,.int 1 v] }).objs.size:=by simpa using hb
  subst e;exact I1.fpOk (Qn _) (I1.hok.fresh (Qn _))
noncomputable def JlX(ta:TA):TI:=fun σ H R=>ta σ H fun vs H1=>∃j:Int,vs=[.int j]/\-(2 ^ 62)<=j/\j<2 ^ 62/\R (Itr 0 j.toNat) H1
theorem U3{a:Expr}{ta:TA}{p pos:Pos}(hg:Gl X "range")(hm:X.mg "range"=none)(ha:PA X [a] ta)(hs:starEach [a] X.env=[(false,eval a X.env)]:=by rfl):PI X tg (.Call (.Name "range" p) [a] [] pos) (JlX ta):=by
 intro pins s σ H R I h;refine Call_ (UM I hg hm boot_range (Ga (thn (ha pos pins s σ H _ I h) fun us s1 ⟨vs,H1,I1,r1,q1⟩=>?_) hs rfl));obtain⟨j,e,q1,q2,q⟩:=q1;subst e
 cases r1 with
 | cons r rr=>cases rr;obtain⟨t,rfl⟩:=r;exact call_range_1 (JiB I1 (by omega) (by omega) q1 q2 (by simpa using q))
noncomputable def JgO(wi:TI)(g:TG)(tb:TS):TS:=fun D σ H=>wi σ H fun J H1=>∃W:Nat->Nat->St->Hp->Prop,(∃m,W 0 m σ H1)/\∀i m σ H,W i m σ H ->
 (J.stop i H/\D.nx σ H)\/(J.go i H/\∃N:St->Hp->Prop,(∀σ' H',N σ' H'->∃m',m'<m/\W (i+1) m' σ' H')/\∀x H',J.yld i H x H'->g x σ H' fun σ2 H2=>tb { D with nx:=N,ct:=N,bk:=D.nx } σ2 H2)
noncomputable def Jah(fp:List Addr)(h:Heap):List (Addr×Obj):=fp.filterMap fun b=>(h.get? b).map fun o=>(b,o)
theorem Wb{fp:List Addr}{h:Heap}{b:Addr}{o:Obj}(hb:b∈fp)(e:h.get? b=some o):(b,o)∈Jah fp h:=List.mem_filterMap.mpr ⟨b,hb,by rw[e];rfl⟩
theorem Jgz{fp:List Addr}{h:Heap}{p:Addr×Obj}(hp:p∈Jah fp h):p.1∈fp/\h.get? p.1=some p.2:=by
 obtain⟨b,hb,e⟩:=List.mem_filterMap.mp hp
 cases q:h.get? b with
 | none=>rw[q] at e;cases e
 | some o=>rw[q] at e;have e':(b,o)=p:=Qz e;subst e';exact⟨hb,q⟩
theorem Inv.pinned{pins:List (Addr×Obj)}{σ:St}{H:Hp}{s:Shared}{fp:List Addr}(I:Inv X pins σ H s)(hf:∀b∈fp,FpOk X pins H b)(ho:∀b∈fp,∃o,s.heap.get? b=some o/\∀v,o.data≠.cell v):Inv X (pins++Jah fp s.heap) σ H s :=
 I.pins_of fun p hp=>(QX.mp hp).elim (fun z=>I.pin p (Gu _ z)) fun z=>by obtain⟨hb,e⟩:=Jgz z;obtain⟨f0,f1,f2,_⟩:=hf p.1 hb;obtain⟨o,e',d⟩:=ho p.1 hb;rw[e] at e';cases e';exact⟨e,f0,f1,f2,d⟩
theorem Inv.unpinned{pins pl:List (Addr×Obj)}{σ:St}{H:Hp}{s:Shared}(I:Inv X (pins++pl) σ H s):Inv X pins σ H s:=I.pins_of fun p hp=>I.pin p (Gu _ (LN _ hp))
theorem YT{iter:Expr}{body:List Stmt}{wi:TI}{g:TG}{tb:TS}{pos:Pos}(hp:PassesOwn (model X.prog X.w) X.A X.env X.xe)(hc:X.calm=true)(hi:PI X tg iter wi)(hg:PG X tg g)(hb:PSs X body tb)
 (hs:∀x,foldedSetIterable iter X.env x=pure x:=by intro _;rfl):PS X (.For tg iter body [] pos) (JgO wi g tb):=by
 intro pins s σ H D I h;refine wpAny_For (thn (hi pins s σ H _ I h) fun v s1 h1=>thn h1 fun itv s2 h2=>?_) hs;obtain⟨it,fp,tn,J,H2,e,I2,T,st2,f2,W,⟨m0,w0⟩,turn⟩:=h2;subst e
 -- what stays true of the iterator's objects through the loop
 have stat:∀{H':Hp},(∀b∈fp,H' b=none)->∀b∈fp,FpOk X pins H' b:=fun hn b hb=>⟨hn b hb,(f2 b hb).2⟩
 refine codeAny_forLoop_any (fun n s'=>∃i σ' H',Inv X pins σ' H' s'/\tn i s'.heap/\(∀b∈fp,H' b=none)/\W i n σ' H') ?_ m0 ⟨0,σ,H2,I2,st2,fun b hb=>(f2 b hb).1,w0⟩;rintro n s3 ⟨i,σ3,H3,I3,st3,fr3,w3⟩;rcases turn i n σ3 H3 w3 with ⟨stop,qn⟩|⟨go,N,hN,step⟩
 ·refine Kk hp (thn (T.done X rfl rfl rfl hc i pins s3 σ3 H3 X.xe I3 (stat fr3) st3 stop) fun r s4 ⟨hr,I4⟩=>?_);subst hr;exact KP ⟨σ3,H3,I4,qn⟩
 ·refine Kk hp (thn (T.item X rfl rfl rfl hc i pins s3 σ3 H3 X.xe I3 (stat fr3) st3 go) fun r s4 ⟨u,hr,h4⟩=>?_);subst hr;refine Kk hp (thn h4 fun _ s5 ⟨x,H5,I5,r5,y5,st5,fr5⟩=>?_);have I5':=I5.pinned (stat fr5) (T.obj _ _ st5);refine Kk hp (thn (hg _ s5 σ3 H5 x u _ I5' r5 (step x H5 y5)) fun _ s6 ⟨σ6,H6,I6,q6⟩=>?_);refine Kk hp (thn (hb _ s6 σ6 H6 _ I6 q6) fun f s7 q7=>?_)
  have again:∀{σ7:St} {H7:Hp},Inv X (pins++Jah fp s5.heap) σ7 H7 s7->N σ7 H7->∃m,m<n/\∃i σ' H',Inv X pins σ' H' s7/\tn i s7.heap/\(∀b∈fp,H' b=none)/\W i m σ' H':=fun {σ7 H7} I7 n7=>by obtain⟨m',hm,w7⟩:=hN σ7 H7 n7;refine⟨m',hm,i+1,σ7,H7,I7.unpinned,T.keep _ _ _ st5 fun b hb o e=>(I7.pin (b,o) (Gu _ (Gu _ (Wb hb e)))).1,fun b hb=>?_,w7⟩;obtain⟨o,e,d⟩:=T.obj _ _ st5 b hb;exact(I7.pin (b,o) (Gu _ (Gu _ (Wb hb e)))).2.1
  cases f with
  | next=>obtain⟨σ7,H7,I7,n7⟩:=q7;exact again I7 n7
  | cont=>obtain⟨σ7,H7,I7,n7⟩:=q7;exact again I7 n7
  | brk=>obtain⟨σ7,H7,I7,q7⟩:=q7;exact⟨σ7,H7,I7.unpinned,q7⟩
  | ret v=>obtain⟨x7,σ7,H7,I7,r7,q7⟩:=q7;exact⟨x7,σ7,H7,I7.unpinned,r7,q7⟩
end

theorem JhD{K:Frag}{a:Addr}{xs:List V}{g:TG}{tb:TS}{D:Ends}{σ:St}{H:Hp}(Pv:Nat->St->Hp->Prop)(h0:Pv 0 σ H)(hl:∀i σ H,i<=xs.length->Pv i σ H->SqL K H a xs)
 (hs:∀i x σ H,xs[i]?=some x->Pv i σ H->g x σ H fun σ2 H2=>tb { D with nx:=Pv (i+1),ct:=Pv (i+1),bk:=D.nx } σ2 H2) (hd:∀σ H,Pv xs.length σ H->D.nx σ H) :
 ∃W:Nat->Nat->St->Hp->Prop,(∃m,W 0 m σ H)/\∀i m σ H,W i m σ H ->
  ((Itl K a).stop i H/\D.nx σ H)\/((Itl K a).go i H/\∃N:St->Hp->Prop,(∀σ' H',N σ' H'->∃m',m'<m/\W (i+1) m' σ' H')/\∀x H',(Itl K a).yld i H x H'->g x σ H' fun σ2 H2=>tb { D with nx:=N,ct:=N,bk:=D.nx } σ2 H2):=by
 refine⟨fun i m σ H=>m=xs.length-i/\i<=xs.length/\Pv i σ H,⟨xs.length,by simp,Gn _,h0⟩,?_⟩;rintro i m σ H ⟨rfl,hi,p⟩;have q:=hl i σ H hi p
 by_cases hlt:i<xs.length
 ·refine .inr ⟨⟨xs,xs[i],q,by simp[hlt]⟩,Pv (i+1),fun σ' H' p'=>⟨xs.length-(i+1),by omega,rfl,hlt,p'⟩,fun x H' y=>?_⟩;obtain⟨e,y⟩:=y;subst e;exact hs i x σ _ (y xs q) p
 ·have e:i=xs.length:=by omega
  subst e;exact .inl ⟨⟨xs,q,Qn _⟩,hd σ H p⟩
theorem Jka{K:Frag}{a:Addr}{xs:List V}{g:TG}{tb:TS}{D:Ends}{σ:St}{H:Hp}(Pv:Nat->St->Hp->Prop)(h0:Pv 0 σ H)(hl:∀i σ H,i<=xs.length->Pv i σ H->SqT K H a xs)
 (hs:∀i x σ H,xs[i]?=some x->Pv i σ H->g x σ H fun σ2 H2=>tb { D with nx:=Pv (i+1),ct:=Pv (i+1),bk:=D.nx } σ2 H2) (hd:∀σ H,Pv xs.length σ H->D.nx σ H) :
 ∃W:Nat->Nat->St->Hp->Prop,(∃m,W 0 m σ H)/\∀i m σ H,W i m σ H ->
  ((Itt K a).stop i H/\D.nx σ H)\/((Itt K a).go i H/\∃N:St->Hp->Prop,(∀σ' H',N σ' H'->∃m',m'<m/\W (i+1) m' σ' H')/\∀x H',(Itt K a).yld i H x H'->g x σ H' fun σ2 H2=>tb { D with nx:=N,ct:=N,bk:=D.nx } σ2 H2):=by
 refine⟨fun i m σ H=>m=xs.length-i/\i<=xs.length/\Pv i σ H,⟨xs.length,by simp,Gn _,h0⟩,?_⟩;rintro i m σ H ⟨rfl,hi,p⟩;have q:=hl i σ H hi p
 by_cases hlt:i<xs.length
 ·refine .inr ⟨⟨xs,xs[i],q,by simp[hlt]⟩,Pv (i+1),fun σ' H' p'=>⟨xs.length-(i+1),by omega,rfl,hlt,p'⟩,fun x H' y=>?_⟩;obtain⟨e,y⟩:=y;subst e;exact hs i x σ _ (y xs q) p
 ·have e:i=xs.length:=by omega
  subst e;exact .inl ⟨⟨xs,q,Qn _⟩,hd σ H p⟩
end L2

namespace L2
open PySem PySem.Spec PyProof.Rows

noncomputable abbrev R2:=V->V->Hp->VK->Prop
noncomputable def OpR(X:Cx)(f:Value->Value->Sem Value)(r:R2):Prop :=
 ∀(pins:List (Addr×Obj)) (s:Shared) (σ:St) (H:Hp) (x y:V) (v u:Value) (Q:VK),Inv X pins σ H s->RelV x v->RelV y u->r x y H Q ->
  wpAny (model X.prog X.w) X.A (f v u) (EP X pins σ Q) X.xe s
noncomputable def UnR(X:Cx)(f:Value->Sem Value)(r:V->Hp->VK->Prop):Prop :=
 ∀(pins:List (Addr×Obj)) (s:Shared) (σ:St) (H:Hp) (x:V) (v:Value) (Q:VK),Inv X pins σ H s->RelV x v->r x H Q ->
  wpAny (model X.prog X.w) X.A (f v) (EP X pins σ Q) X.xe s
noncomputable def CallR(X:Cx)(f:Value)(r:List V->Hp->VK->Prop):Prop :=
 ∀(pins:List (Addr×Obj)) (s:Shared) (σ:St) (H:Hp) (xs:List V) (us:List Value) (Q:VK),Inv X pins σ H s->Vals xs us->r xs H Q ->
  wpAny (model X.prog X.w) X.A (call f us) (EP X pins σ Q) X.xe s
noncomputable def Jqj(X:Cx)(r:V->Hp->(Bool->Hp->Prop)->Prop):Prop :=
 ∀(pins:List (Addr×Obj)) (s:Shared) (σ:St) (H:Hp) (x:V) (v:Value) (Q:Bool->Hp->Prop),Inv X pins σ H s->RelV x v->r x H Q ->
  wpAny (model X.prog X.w) X.A (truthy v) (TP X pins σ Q) X.xe s

noncomputable def tOp(r:R2)(ta tb:TE):TE:=fun σ H Q=>ta σ H fun x H1=>tb σ H1 fun y H2=>r x y H2 Q
noncomputable def tUn(r:V->Hp->VK->Prop)(ta:TE):TE:=fun σ H Q=>ta σ H fun x H1=>r x H1 Q
noncomputable def rI(C:Int->Int->Prop)(g:Int->Int->V):R2:=fun x y H Q=>∃i j,x=.int i/\y=.int j/\C i j/\Q (g i j) H
noncomputable def rI0(g:Int->Int->V):R2:=fun x y H Q=>∃i j,x=.int i/\y=.int j/\Q (g i j) H
noncomputable def rU(g:Int->V):V->Hp->VK->Prop:=fun x H Q=>∃i,x=.int i/\Q (g i) H

section
variable{X:Cx}{a b c:Expr}{ta tb tc:TE}{pos:Pos}

theorem Jmr(ha:PE X a ta)(hb:PE X b tb){pins:List (Addr×Obj)}{s:Shared}{σ:St}{H:Hp}{R:V->V->Hp->Prop}(I:Inv X pins σ H s)
 (h:ta σ H fun x H1=>tb σ H1 fun y H2=>R x y H2) {Q:Value->Shared->Prop} {f:Value->Value->Sem Value}
 (hf:∀v u s2 x y H2,Inv X pins σ H2 s2->RelV x v->RelV y u->R x y H2->wpAny (model X.prog X.w) X.A (f v u) Q X.xe s2) :
 wpAny (model X.prog X.w) X.A (eval a X.env) (fun v s₁=>wpAny (model X.prog X.w) X.A (eval b X.env) (fun u s₂=>wpAny (model X.prog X.w) X.A (f v u) Q X.xe s₂) X.xe s₁) X.xe s:=by
 refine thn (ha pins s σ H _ I h) fun v s1 ⟨x,H1,I1,r1,q1⟩=>?_
 refine thn (hb pins s1 σ H1 _ I1 q1) fun u s2 ⟨y,H2,I2,r2,q2⟩=>?_
 exact hf v u s2 x y H2 I2 r1 r2 q2

theorem Jk{op:Operator}{r:R2}(ho:OpR X (binaryOp op) r)(ha:PE X a ta)(hb:PE X b tb):PE X (.BinOp a op b pos) (tOp r ta tb):=by intro pins s σ H Q I h;exact wpAny_BinOp (Jmr ha hb I h fun v u s2 x y H2 I2 rx ry q=>ho pins s2 σ H2 x y v u Q I2 rx ry q)
theorem Jl4{op:UnaryOp}{r:V->Hp->VK->Prop}(ho:UnR X (unaryOp op) r)(ha:PE X a ta):PE X (.UnaryOp op a pos) (tUn r ta):=by intro pins s σ H Q I h;exact UnaryOp_ (thn (ha pins s σ H _ I h) fun v s1 ⟨x,H1,I1,r1,q1⟩=>ho pins s1 σ H1 x v Q I1 r1 q1)
theorem opI{f:Value->Value->Sem Value}{C:Int->Int->Prop}{g:Int->Int->Int}
 (rule:∀(i j:Int) (t u:Tok) (s:Shared) (Q:Value->Shared->Prop) (E:Value->Shared->Prop),C i j->Q (.int (g i j) s.toks) { s with toks:=s.toks+1 }->wpAny (model X.prog X.w) X.A (f (.int i t) (.int j u)) Q E s) :
 OpR X f (rI C fun i j=>.int (g i j)):=by
 intro pins s σ H x y v u Q I rx ry h;obtain⟨i,j,rfl,rfl,hc,q⟩:=h;obtain⟨t,rfl⟩:=rx;obtain⟨t',rfl⟩:=ry;exact rule i j t t' s _ _ hc ⟨.int (g i j),H,I.tok _,⟨_,rfl⟩,q⟩
theorem JpC{f:Value->Value->Sem Value}{g:Int->Int->Int}
 (rule:∀(i j:Int) (t u:Tok) (s:Shared) (Q:Value->Shared->Prop) (E:Value->Shared->Prop),Q (.int (g i j) s.toks) { s with toks:=s.toks+1 }->wpAny (model X.prog X.w) X.A (f (.int i t) (.int j u)) Q E s) :
 OpR X f (rI0 fun i j=>.int (g i j)):=by
 intro pins s σ H x y v u Q I rx ry h;obtain⟨i,j,rfl,rfl,q⟩:=h;obtain⟨t,rfl⟩:=rx;obtain⟨t',rfl⟩:=ry;exact rule i j t t' s _ _ ⟨.int (g i j),H,I.tok _,⟨_,rfl⟩,q⟩
theorem Jnt{f:Value->Value->Sem Value}{g:Int->Int->Bool}
 (rule:∀(i j:Int) (t u:Tok) (s:Shared) (Q:Value->Shared->Prop) (E:Value->Shared->Prop),Q (.bool (g i j)) s->wpAny (model X.prog X.w) X.A (f (.int i t) (.int j u)) Q E s) :
 OpR X f (rI0 fun i j=>.bl (g i j)):=by
 intro pins s σ H x y v u Q I rx ry h;obtain⟨i,j,rfl,rfl,q⟩:=h;obtain⟨t,rfl⟩:=rx;obtain⟨t',rfl⟩:=ry;exact rule i j t t' s _ _ ⟨.bl (g i j),H,I,rfl,q⟩

noncomputable def JoM(i j:Int):Prop:=0<j/\j<1073741824
noncomputable def JoO(i j:Int):Prop:=0<=j/\j<=1000000/\i.natAbs<2 ^ 64
noncomputable def CMul(i j:Int):Prop:=(-(2 ^ 64)<i/\i<2 ^ 64)\/(-(2 ^ 64)<j/\j<2 ^ 64)
theorem CMul.ok{i j:Int}(h:CMul i j):IntMulOk i j:=by
 rcases h with ⟨h1,h2⟩|⟨h1,h2⟩
 ·exact .of_left (intBits_le_64 h1 h2)
 ·exact .of_right (intBits_le_64 h1 h2)
theorem op_add:OpR X (binaryOp .Add) (rI0 fun i j=>.int (i+j)):=JpC fun _ _ _ _ _ _ _ q=>add_int q
theorem YD:OpR X (binaryOp .Sub) (rI0 fun i j=>.int (i-j)):=JpC fun _ _ _ _ _ _ _ q=>sub_int q
theorem UD:OpR X (binaryOp .Mult) (rI CMul fun i j=>.int (i*j)):=opI fun _ _ _ _ _ _ _ hc q=>mul_int q hc.ok
theorem Us:OpR X (binaryOp .FloorDiv) (rI JoM fun i j=>.int (i / j)):=opI fun i j _ _ _ _ _ hc q=>by
 have h1:(0:Int)<j:=hc.1
 have h2:j<1073741824:=hc.2;exact floordiv_int (by omega) (by rw[K5 i (by omega)];exact q) (.inl (MO (by omega)))
theorem YC:OpR X (binaryOp .Mod) (rI (fun _ j=>0<j) fun i j=>.int (i % j)):=opI fun i j _ _ _ _ _ hc q=>by have h1:(0:Int)<j:=hc;exact mod_int' (by omega) (by rw[Int.fmod_eq_emod_of_nonneg i (by omega)];exact q)
theorem VA:OpR X (binaryOp .Pow) (rI JoO fun i j=>.int (i ^ j.toNat)):=opI fun _ _ _ _ _ _ _ hc q=>pow_int_small hc.1 hc.2.1 hc.2.2 q
theorem unI{f:Value->Sem Value}{g:Int->Int}
 (rule:∀(i:Int) (t:Tok) (s:Shared) (Q:Value->Shared->Prop) (E:Value->Shared->Prop),Q (.int (g i) s.toks) { s with toks:=s.toks+1 }->wpAny (model X.prog X.w) X.A (f (.int i t)) Q E s) :
 UnR X f (rU fun i=>.int (g i)):=by
 intro pins s σ H x v Q I rx h;obtain⟨i,rfl,q⟩:=h;obtain⟨t,rfl⟩:=rx;exact rule i t s _ _ ⟨.int (g i),H,I.tok _,⟨_,rfl⟩,q⟩
theorem Jjd:UnR X (unaryOp .USub) (rU fun i=>.int (-i)):=unI fun _ _ _ _ _ q=>neg_int q
end

noncomputable def Jou:V->V->Bool
 | .non,.non=>true|.non,.int _=>true|.int _,.non=>true|.non,.bl _=>true|.bl _,.non=>true|.non,.str _=>true|.str _,.non=>true
 | .int _,.int _=>true|.bl _,.bl _=>true|.str _,.str _=>true|.byt _,.byt _=>true
 | .int _,.str _=>true|.str _,.int _=>true|.bl _,.str _=>true|.str _,.bl _=>true
 | _,_=>false
noncomputable def rEq:R2:=fun x y H Q=>Jou x y=true/\Q (.bl (decide (x=y))) H
noncomputable def rNe:R2:=fun x y H Q=>Jou x y=true/\Q (.bl (!decide (x=y))) H

theorem JeM{i j:Int}:decide (V.int i=V.int j)=(i == j):=by rw[KQ];simp
theorem Jhk{i j:Bool}:decide (V.bl i=V.bl j)=(i == j):=by rw[KQ];simp
theorem JeN{i j:Str}:decide (V.str i=V.str j)=(i == j):=by rw[KQ];simp
theorem JeL{i j:Array UInt8}:decide (V.byt i=V.byt j)=(i.toList == j.toList):=by rw[KQ];cases i;cases j;simp

section
variable{X:Cx}{a b c:Expr}{ta tb tc:TE}{pos:Pos}
theorem JK{pins:List (Addr×Obj)}{σ:St}{H:Hp}{s:Shared}{Q:VK}{k k':Bool}(I:Inv X pins σ H s)(q:Q (.bl k) H)(e:k=k'):EP X pins σ Q (.bool k') s:=by subst e;exact⟨.bl k,H,I,rfl,q⟩
theorem op_eq:OpR X (compareOp .Eq) rEq:=by
 intro pins s σ H x y v u Q I rx ry h;obtain⟨hs,q⟩:=h
 cases x with
 | non =>
  cases rx
  cases y with
  | non=>cases ry;exact PySem.EqNone.eq_none_none (JK I q (by simp))
  | bl j=>cases ry;exact PySem.EqNone.eq_none_bool (JK I q (by simp))
  | int j=>obtain⟨t',rfl⟩:=ry;exact PySem.EqNone.eq_none_int (JK I q (by simp))
  | str j=>obtain⟨t',rfl⟩:=ry;exact PySem.EqNone.eq_none_str (JK I q (by simp))
  | _=>exact absurd (show false=true from hs) Qp
 | bl i =>
  cases rx
  cases y with
  | non=>cases ry;exact PySem.EqNone.eq_bool_none (JK I q (by simp))
  | bl j=>cases ry;exact eq_bool (JK I q Jhk)
  | str j=>obtain⟨t',rfl⟩:=ry;exact PySem.EqMixed.eq_bool_str (JK I q (by simp))
  | _=>exact absurd (show false=true from hs) Qp
 | int i =>
  obtain⟨t,rfl⟩:=rx
  cases y with
  | non=>cases ry;exact PySem.EqNone.eq_int_none (JK I q (by simp))
  | int j=>obtain⟨t',rfl⟩:=ry;exact eq_int (JK I q JeM)
  | str j=>obtain⟨t',rfl⟩:=ry;exact PySem.EqMixed.eq_int_str (JK I q (by simp))
  | _=>exact absurd (show false=true from hs) Qp
 | str i =>
  obtain⟨t,rfl⟩:=rx
  cases y with
  | non=>cases ry;exact PySem.EqNone.eq_str_none (JK I q (by simp))
  | bl j=>cases ry;exact PySem.EqMixed.eq_str_bool (JK I q (by simp))
  | int j=>obtain⟨t',rfl⟩:=ry;exact PySem.EqMixed.eq_str_int (JK I q (by simp))
  | str j=>obtain⟨t',rfl⟩:=ry;exact eq_str (JK I q JeN)
  | _=>exact absurd (show false=true from hs) Qp
 | byt i =>
  obtain⟨t,rfl⟩:=rx
  cases y with
  | byt j=>obtain⟨t',rfl⟩:=ry;exact PySem.W.eq_bytes (JK I q JeL)
  | _=>exact absurd (show false=true from hs) Qp
 | _=>cases y <;> exact absurd (show false=true from hs) Qp
theorem op_ne:OpR X (compareOp .NotEq) rNe:=by
 intro pins s σ H x y v u Q I rx ry h;obtain⟨hs,q⟩:=h
 cases x with
 | non =>
  cases rx
  cases y with
  | non=>cases ry;exact PySem.EqNone.ne_none_none (JK I q (by simp))
  | bl j=>cases ry;exact PySem.EqNone.ne_none_bool (JK I q (by simp))
  | int j=>obtain⟨t',rfl⟩:=ry;exact PySem.EqNone.ne_none_int (JK I q (by simp))
  | str j=>obtain⟨t',rfl⟩:=ry;exact PySem.EqNone.ne_none_str (JK I q (by simp))
  | _=>exact absurd (show false=true from hs) Qp
 | bl i =>
  cases rx
  cases y with
  | non=>cases ry;exact PySem.EqNone.ne_bool_none (JK I q (by simp))
  | bl j=>cases ry;exact ne_bool (JK I q (congrArg not Jhk))
  | str j=>obtain⟨t',rfl⟩:=ry;exact PySem.EqMixed.ne_bool_str (JK I q (by simp))
  | _=>exact absurd (show false=true from hs) Qp
 | int i =>
  obtain⟨t,rfl⟩:=rx
  cases y with
  | non=>cases ry;exact PySem.EqNone.ne_int_none (JK I q (by simp))
  | int j=>obtain⟨t',rfl⟩:=ry;exact ne_int (JK I q (congrArg not JeM))
  | str j=>obtain⟨t',rfl⟩:=ry;exact PySem.EqMixed.ne_int_str (JK I q (by simp))
  | _=>exact absurd (show false=true from hs) Qp
 | str i =>
  obtain⟨t,rfl⟩:=rx
  cases y with
  | non=>cases ry;exact PySem.EqNone.ne_str_none (JK I q (by simp))
  | bl j=>cases ry;exact PySem.EqMixed.ne_str_bool (JK I q (by simp))
  | int j=>obtain⟨t',rfl⟩:=ry;exact PySem.EqMixed.ne_str_int (JK I q (by simp))
  | str j=>obtain⟨t',rfl⟩:=ry;exact ne_str (JK I q (congrArg not JeN))
  | _=>exact absurd (show false=true from hs) Qp
 | byt i =>
  obtain⟨t,rfl⟩:=rx
  cases y with
  | byt j=>obtain⟨t',rfl⟩:=ry;exact PySem.W.ne_bytes (JK I q (congrArg not JeL))
  | _=>exact absurd (show false=true from hs) Qp
 | _=>cases y <;> exact absurd (show false=true from hs) Qp

theorem UH:OpR X (compareOp .Lt) (rI0 fun i j=>.bl (decide (i<j))):=Jnt fun _ _ _ _ _ _ _ q=>lt_int q
theorem Jfm:OpR X (compareOp .LtE) (rI0 fun i j=>.bl (decide (i<=j))):=Jnt fun _ _ _ _ _ _ _ q=>le_int q
theorem Ja9:OpR X (compareOp .Gt) (rI0 fun i j=>.bl (decide (j<i))):=Jnt fun _ _ _ _ _ _ _ q=>gt_int q
theorem Jnx:OpR X (compareOp .Is) (fun x y H Q=>y=.non/\Q (.bl (decide (x=.non))) H):=by
 intro pins s σ H x y v u Q I rx ry h;obtain⟨rfl,q⟩:=h;cases ry;refine is_none_gen (JK I q ?_);cases x <;> first
  | (cases rx;rfl)
  | (obtain⟨t,rfl⟩:=rx;rfl)
theorem JkL:OpR X (compareOp .IsNot) (fun x y H Q=>y=.non/\Q (.bl (!decide (x=.non))) H):=by
 intro pins s σ H x y v u Q I rx ry h;obtain⟨rfl,q⟩:=h;cases ry;refine isnot_none_gen (JK I q ?_);cases x <;> first
  | (cases rx;rfl)
  | (obtain⟨t,rfl⟩:=rx;rfl)

theorem OpR.or{f:Value->Value->Sem Value}{r r':R2}(h:OpR X f r)(h':OpR X f r'):OpR X f (fun x y H Q=>r x y H Q\/r' x y H Q):=by
 intro pins s σ H x y v u Q I rx ry q;rcases q with q|q
 ·exact h pins s σ H x y v u Q I rx ry q
 ·exact h' pins s σ H x y v u Q I rx ry q

theorem Jz(b:Expr){op:CmpOp}(h:op≠.In:=by decide)(h2:op≠.NotIn:=by decide):behindInMarks op b=false:=by
 have e1:(op == CmpOp.In)=false:=by cases op <;> first|rfl|exact absurd rfl h
 have e2:(op == CmpOp.NotIn)=false:=by cases op <;> first|rfl|exact absurd rfl h2
 cases b <;> simp[behindInMarks,e1,e2]
theorem JkO{op:CmpOp}{r:R2}(ho:OpR X (compareOp op) r)(ha:PE X a ta)(hb:PE X b tb)(hm:behindInMarks op b=false):PE X (.Compare a [op] [b] pos) (tOp r ta tb):=by intro pins s σ H Q I h;exact wpAny_Compare1 (Jmr ha hb I h fun v u s2 x y H2 I2 rx ry q=>ho pins s2 σ H2 x y v u Q I2 rx ry q) hm
noncomputable def JfO(t:TE):TT:=fun σ H Q=>t σ H fun x H'=>∃k,x=.bl k/\Q k H'
theorem Jp{op:CmpOp}{r:R2}(ho:OpR X (compareOp op) r)(ha:PE X a ta)(hb:PE X b tb)(hm:behindInMarks op b=false):PT X (.Compare a [op] [b] pos) (JfO (tOp r ta tb)):=by
 intro pins s σ H Q I h;refine wpAny_isTrue_Compare1 (thn (ha pins s σ H _ I h) fun v s1 ⟨x,H1,I1,r1,q1⟩=>thn (hb pins s1 σ H1 _ I1 q1) fun u s2 ⟨y,H2,I2,r2,q2⟩=>thn (ho pins s2 σ H2 x y v u _ I2 r1 r2 q2) fun c s3 ⟨z,H3,I3,r3,k,e,q3⟩=>?_) hm
 subst e;cases r3;exact Ko ⟨H3,I3,q3⟩
noncomputable def Jei(r r':R2)(ta tb tc:TE):TE:=fun σ H Q=>ta σ H fun x H1=>tb σ H1 fun y H2=>r x y H2 fun z H3=>∃k,z=.bl k ∧
 (if k=true then tc σ H3 fun w' H4=>r' y w' H4 Q else Q (.bl false) H3)
theorem Jio{op op':CmpOp}{r r':R2}(ho:OpR X (compareOp op) r)(ho':OpR X (compareOp op') r')(ha:PE X a ta)(hb:PE X b tb)(hc:PE X c tc)
 (hm:lastMarks [op,op'] [b,c]=false:=by with_unfolding_all rfl):PT X (.Compare a [op,op'] [b,c] pos) (JfO (Jei r r' ta tb tc)):=by
 intro pins s σ H Q I h;refine isTrue_chain (thn (ha pins s σ H _ I h) fun v s1 ⟨x,H1,I1,r1,q1⟩=>test_link (thn (hb pins s1 σ H1 _ I1 q1) fun u s2 ⟨y,H2,I2,r2,q2⟩=>thn (ho pins s2 σ H2 x y v u _ I2 r1 r2 q2) fun d s3 ⟨z,H3,I3,r3,k,e,q3⟩=>?_)) hm
 subst e;cases r3;refine Ko ?_
 cases k with
 | false=>obtain⟨k',e',q'⟩:=q3;cases e';exact ite_ff ⟨H3,I3,q'⟩
 | true=>refine ite_tt (test_last (thn (hc pins s3 σ H3 _ I3 q3) fun w' s4 ⟨z',H4,I4,r4,q4⟩=>thn (ho' pins s4 σ H4 y z' u w' _ I4 r2 r4 q4) fun d' s5 ⟨z2,H5,I5,r5,k2,e2,q5⟩=>?_));subst e2;cases r5;exact Ko ⟨H5,I5,q5⟩

noncomputable def JfW(K:Frag)(x:V)(H:Hp)(k:Bool):Prop :=
 match x with
 | .non=>k=false
 | .bl b=>k=b
 | .int i=>k=(i != 0)
 | .str y=>y.length<=sizeLine/\k=((y.length:Int) != 0)
 | .byt y=>y.size<=sizeLine/\k=((y.size:Int) != 0)
 | .ref p=>(∃xs,SqL K H p xs/\k=!xs.isEmpty)\/(∃xs,SqT K H p xs/\k=!xs.isEmpty)\/∃kvs,H p=some (.dK kvs)/\k=!kvs.isEmpty
 | _=>False
theorem JdV{κ:Type}{kvs:List (κ×V)}{vs:List (κ×Value)}(r:KV kvs vs):(!vs.isEmpty)=!kvs.isEmpty:=by cases r <;> rfl
theorem ZQ{xs:List V}{its:List Value}(r:Vals xs its):(!its.toArray.isEmpty)=!xs.isEmpty:=by cases r <;> simp
theorem ZW:(sizeLine:Nat)<2 ^ 63:=by rw[sizeLine_eq];decide
theorem JoF:Jqj X (fun x H Q=>∃k,JfW X.K x H k/\Q k H):=by
 intro pins s σ H x v Q I rx h;obtain⟨k,e,q⟩:=h;have hl:=ZW;have hs:sizeLine=16777216:=sizeLine_eq
 cases x with
 | non=>cases rx;have e':k=false:=e;subst e';exact truthy_none ⟨H,I,q⟩
 | bl b=>cases rx;have e':k=b:=e;subst e';exact Ko ⟨H,I,q⟩
 | int i=>obtain⟨t,rfl⟩:=rx;have e':k=(i != 0):=e;subst e';exact PySem.P.truthy_int ⟨H,I,q⟩
 | str y=>obtain⟨t,rfl⟩:=rx;obtain⟨hy,e'⟩:y.length<=sizeLine/\k=((y.length:Int) != 0):=e;subst e';exact PySem.P.truthy_str (by omega) ⟨H,I.tok _,q⟩
 | byt y=>obtain⟨t,rfl⟩:=rx;obtain⟨hy,e'⟩:y.size<=sizeLine/\k=((y.size:Int) != 0):=e;subst e';exact PySem.W.truthy_bytes (by omega) ⟨H,I.tok _,q⟩
 | ref p =>
  cases rx;have e':(∃xs,SqL X.K H p xs/\k=!xs.isEmpty)\/(∃xs,SqT X.K H p xs/\k=!xs.isEmpty)\/∃kvs,H p=some (.dK kvs)/\k=!kvs.isEmpty:=e
  rcases e' with ⟨xs,hx,e'⟩|⟨xs,hx,e'⟩|⟨kvs,hx,e'⟩
  ·subst e';obtain⟨its,r,pl,hz⟩:=I.list hx;have hlen:=r.length;exact wpAny_truthy_list pl.isList (by simp only[Qm];omega) ⟨H,I.tok _,by rw[ZQ r];exact q⟩
  ·subst e';obtain⟨its,r,pl,hz⟩:=I.tuple hx;have hlen:=r.length;exact truthy_tuple pl (by simp only[Qm];omega) ⟨H,I.tok _,by rw[ZQ r];exact q⟩
  ·subst e';obtain⟨hz,hS,vs,r,m⟩:kvs.length<=sizeLine/\(p == sysModules)=false/\∃vs,KV kvs vs/\s.heap.DictOf (JW X.prog X.w) p vs:=I.hok p _ hx
   have hlen:kvs.length=vs.length:=Mu r;exact wpAny_truthy_dict hS m (by omega) ⟨H,I.tok _,by rw[JdV r];exact q⟩
 | _=>exact(show False from e).elim
theorem Jip(ha:PE X a ta)(he:∀whole,isTrue a X.env whole=(do let v <- whole;standAt a.pos;holding [v] (truthy v))) :
 PT X a (fun σ H Q=>ta σ H fun x H'=>∃k,JfW X.K x H' k/\Q k H'):=by
 intro pins s σ H Q I h;exact isTrue_plain (thn (ha pins s σ H _ I h) fun v s1 ⟨x,H1,I1,r1,q1⟩=>JoF pins s1 σ H1 x v Q I1 r1 q1) (he _)

theorem op_add_str:OpR X (binaryOp .Add) (fun x y H Q=>∃i j,x=.str i/\y=.str j/\i.length+j.length<=sizeLine/\Q (.str (i++j)) H):=by intro pins s σ H x y v u Q I rx ry h;obtain⟨i,j,rfl,rfl,hz,q⟩:=h;obtain⟨t,rfl⟩:=rx;obtain⟨t',rfl⟩:=ry;exact add_str (fun t' tk=>⟨.str (i++j),H,I.tok _,⟨_,rfl⟩,q⟩) hz
theorem WO{x:V}{us:List Value}(r:Vals [x] us):∃u,us=[u]/\RelV x u:=by
 cases r with
 | cons r1 r2=>cases r2;exact⟨_,rfl,r1⟩
theorem JfQ{x y:V}{us:List Value}(r:Vals [x,y] us):∃u w',us=[u,w']/\RelV x u/\RelV y w':=by
 cases r with
 | cons r1 r2 =>
  cases r2 with
  | cons r3 r4=>cases r4;exact⟨_,_,rfl,r1,r3⟩
theorem JfY(hc:X.calm=true):CallR X (.builtin "max") (fun xs H Q=>∃i j,xs=[.int i,.int j]/\Q (.int (if j>i then j else i)) H):=by
 intro pins s σ H xs us Q I r h;obtain⟨i,j,rfl,q⟩:=h;obtain⟨u,w',rfl,⟨t,rfl⟩,⟨t',rfl⟩⟩:=JfQ r;refine max_two_ints (I.ok.hd hc) fun h' tk k=>⟨_,H,I.kept k,?_,q⟩
 by_cases hj:j>i
 ·rw[if_pos hj,if_pos hj];exact⟨_,rfl⟩
 ·rw[if_neg hj,if_neg hj];exact⟨_,rfl⟩
theorem Jf0(hc:X.calm=true):CallR X (.builtin "min") (fun xs H Q=>∃i j,xs=[.int i,.int j]/\Q (.int (if j<i then j else i)) H):=by
 intro pins s σ H xs us Q I r h;obtain⟨i,j,rfl,q⟩:=h;obtain⟨u,w',rfl,⟨t,rfl⟩,⟨t',rfl⟩⟩:=JfQ r;refine min_two_ints (I.ok.hd hc) fun h' tk k=>⟨_,H,I.kept k,?_,q⟩
 by_cases hj:j<i
 ·rw[if_pos hj,if_pos hj];exact⟨_,rfl⟩
 ·rw[if_neg hj,if_neg hj];exact⟨_,rfl⟩
noncomputable def JoQ(K:Frag)(x:V)(H:Hp)(n:Nat):Prop :=
 match x with
 | .str y=>y.length<=sizeLine/\n=y.length
 | .byt y=>y.size<=sizeLine/\n=y.size
 | .ref p=>(∃xs,SqL K H p xs/\n=xs.length)\/∃xs,SqT K H p xs/\n=xs.length
 | _=>False
theorem Jhd:CallR X (.builtin "len") (fun xs H Q=>∃x n,xs=[x]/\JoQ X.K x H n/\Q (.int n) H):=by
 intro pins s σ H xs us Q I r h;obtain⟨x,n,rfl,e,q⟩:=h;obtain⟨u,rfl,rx⟩:=WO r;have hl:=ZW;have hs:sizeLine=16777216:=sizeLine_eq
 cases x with
 | str y=>obtain⟨t,rfl⟩:=rx;obtain⟨hy,e'⟩:y.length<=sizeLine/\n=y.length:=e;subst e';exact len_str (by omega) ⟨.int _,H,I.tok _,⟨_,rfl⟩,q⟩
 | byt y=>obtain⟨t,rfl⟩:=rx;obtain⟨hy,e'⟩:y.size<=sizeLine/\n=y.size:=e;subst e';exact PySem.W.len_bytes (by omega) ⟨.int _,H,I.tok _,⟨_,rfl⟩,q⟩
 | ref p =>
  cases rx;have e':(∃xs,SqL X.K H p xs/\n=xs.length)\/∃xs,SqT X.K H p xs/\n=xs.length:=e
  rcases e' with ⟨xs,hx,e'⟩|⟨xs,hx,e'⟩
  ·subst e';obtain⟨its,r',pl,hz⟩:=I.list hx;have hlen:=r'.length;exact Calls.call_len_list pl.isList (by simp only[Qm];omega) ⟨.int xs.length,H,I.tok _,⟨_,by simp only[Qm];rw[hlen]⟩,q⟩
  ·subst e';obtain⟨its,r',pl,hz⟩:=I.tuple hx;have hlen:=r'.length;exact len_tuple pl (by simp only[Qm];omega) ⟨.int xs.length,H,I.tok _,⟨_,by simp only[Qm];rw[hlen]⟩,q⟩
 | _=>exact(show False from e).elim
end
end L2

namespace L2
open PySem PySem.Spec PyProof.Rows

structure ObjM (h:Heap) (x dx C:Addr) (mA:Str->Option Value):Prop where
 obj:h.get? x=some (instObj C dx)
 ns:h.Ns1 dx mA
 ne:dx≠x

theorem Jgs{h:Heap}{dx:Addr}{mA:Str->Option Value}(n:h.Ns1 dx mA):∃od,h.get? dx=some od/\∀name,lookIn name od=some (mA name):=by
 obtain⟨o,es,ep,ho,hd,hk,_,hm⟩:=n;refine⟨o,ho,fun name=>?_⟩;have e:=hm name;unfold nsFind findBy at e;rw[<- Array.find?_toList] at e;unfold lookIn;rw[hd];dsimp only;split
 ·rename_i y q;rw[q] at e;exact congrArg some e
 ·rename_i q;rw[q] at e
  have a:es.toList.any (·.refKey)=false:=by rw[List.any_eq_false];intro y hy;obtain⟨z,t,hkey⟩:=hk y (Array.mem_toList_iff.mp hy);simp[DictEntry.refKey,hkey]
  have a':¬es.toList.any (·.refKey)=true:=by rw[a];exact Qp
  rw[if_neg a'];exact congrArg some e

theorem ObjM.look{h:Heap}{x dx C:Addr}{mA:Str->Option Value}(I:ObjM h x dx C mA):∃od,InstAt h x (instObj C dx) C (some od)/\∀name,lookIn name od=some (mA name) :=
 let ⟨od,ho,hl⟩:=Jgs I.ns
 ⟨od,⟨I.obj,rfl,rfl,ho⟩,hl⟩

section
variable{prog:Program}{w:World}{A:Around}{E:Value->Shared->Prop}{s:Shared}{K:Frag}{x dx C f:Addr}{mA:Str->Option Value}{name:Str}{v:Value}

theorem Jkc{expr:Bool}{Q:Value->Shared->Prop}(X:K.In s.heap)(I:ObjM s.heap x dx C mA)(hg:plainGet K C name=true)(hh:hasDictIn K C=true)
 (ha:findIn K (.ref C) name=some none) (hv:mA name=some v) (hv':PySem.W.handedIn v=true) (h:Q v { s with toks:=s.toks+1 }) :
 wpAny (model prog w) A (getAttr (.ref x) name expr) Q E s:=by
 obtain⟨od,J,hl⟩:=I.look;exact PySem.W.get_value X J (PySem.W.plainGet_of hg).1 (PySem.W.findObj_own hh ha rfl (by rw[hl,hv])) hv' h

theorem Jlv{ns:List Str}{Q:Unit->Shared->Prop}(X:K.In s.heap)(I:ObjM s.heap x dx C mA)
 (hs:findIn K (.ref C) "__setattr__"=some (some (.builtin "object.__setattr__"))) (hp:plainOver K C=true) (ht:takerIn K C name=some none) (hh:hasDictIn K C=true)
 (hw:Rt mA ns) (hsz:ns.length<=sizeLine)
 (h:∀h',ObjM h' x dx C (fun y=>if y=name then some v else mA y)->Qt dx s.heap h'->Q () { s with heap:=h',toks:=s.toks+2 }) :
 wpAny (model prog w) A (setAttr (.ref x) name v) Q E s:=by
 obtain⟨od,J,hl⟩:=I.look;refine PySem.W.set_plain X J hs (PySem.W.osa_open (s:={ s with toks:=s.toks+1 }) (r:=none) X J hp ht fun b=>?_);obtain⟨cd,hc,hd'⟩:=any_some hh;have hx:s.heap.get? x=some ⟨.ref C,some dx,.plain,#[]⟩:=I.obj;refine Qa (Qd (Qa (Qa (wpAny_loadPart hx (Qa (PySem.W.Looks.here (s:={ s with toks:=s.toks+1 }) (PySem.W.looks_clsIn X hc) ?_))))));rw[hd'];refine Qd (a:=some dx) (Qa (Qd (Qa ?_)))
 refine wpAny_nsSet1 (s:={ s with toks:=s.toks+1 }) I.ns fun h' hn2 hs2=>?_
 obtain⟨oD,esD,epD,hoD,hdD,hcD⟩:=hn2.count (PySem.Within.cons name v hw);refine Qa (wpAny_lookBehind hoD (by rw[hdD];exact pastItsLine_dict (QR hcD (by rw[Qu];omega))) ?_);exact Qd (h _ ⟨(hs2.2 _ (QC I.ne)).trans I.obj,hn2,I.ne⟩ hs2)

theorem Jh2{R:Result->Shared->Prop}{vs:List Value}{kw:List (Str×Value)}(X:K.In s.heap)(hm:makesIn K C=true)
 (hi:findIn K (.ref C) "__init__"=some (some (.ref f))) (hf:PySem.W.typeIn K (.ref f)=some (.type "function"))
 (h:codeAny (model prog w) (A.under (.builtin "type.__call__" ⟨.ref C::vs,kw⟩)) (.call (.ref f) ⟨.ref (s.heap.objs.size+1)::vs,kw⟩) (PySem.W.InitBack (s.heap.objs.size+1) R)
  { s with heap:=(s.heap.push emptyDict).push (instObj C s.heap.objs.size) }) :
 codeAny (model prog w) A (.call (.ref C) ⟨vs,kw⟩) R s:=by
 obtain⟨hh,g,d,t,os⟩:=s;exact PySem.W.make_core (PySem.W.makes_of X hm) (looks_findIn X hi) (fun self=>PySem.W.bind_fn X self hf) (.inl rfl) h
end

noncomputable def putF(f:Str)(v:V):List (Str×V)->List (Str×V)
 | []=>[(f,v)]
 | (g,x)::r=>if g=f then(g,v)::r else(g,x)::putF f v r
theorem Zc(f g:Str)(v:V):∀fs:List (Str×V),(putF f v fs).lookup g=if g=f then some v else fs.lookup g
 | []=>by
  show Ln g [(f,v)]=_
  by_cases h:g=f
  ·have hb:(g == f)=true:=beq_iff_eq.mpr h;simp only[Ln,hb,if_pos h]
  ·have hb:(g == f)=false:=beq_eq_false_iff_ne.mpr h;simp only[Ln,hb,if_neg h]
 | (k,x)::r=>by
  have ih:=Zc f g v r;rw[show putF f v ((k,x)::r)=(if k=f then(k,v)::r else(k,x)::putF f v r) from rfl]
  by_cases hk:k=f
  ·rw[if_pos hk]
   by_cases h:g=k
   ·have hb:(g == k)=true:=beq_iff_eq.mpr h;simp only[Ln,hb,if_pos (h.trans hk)]
   ·have hb:(g == k)=false:=beq_eq_false_iff_ne.mpr h;simp only[Ln,hb,if_neg (fun e:g=f=>h (e.trans hk.symm))]
  ·rw[if_neg hk]
   by_cases h:g=k
   ·have hb:(g == k)=true:=beq_iff_eq.mpr h;simp only[Ln,hb,if_neg (fun e:g=f=>hk (h.symm.trans e))]
   ·have hb:(g == k)=false:=beq_eq_false_iff_ne.mpr h;simp only[Ln,hb];exact ih
theorem WX(f:Str)(v:V):∀fs:List (Str×V),f∈(putF f v fs).map (·.1)/\∀g,g∈fs.map (·.1)->g∈(putF f v fs).map (·.1)
 | []=>⟨by simp[putF],fun g h=>by simp at h⟩
 | (k,x)::r=>by
  obtain⟨i1,i2⟩:=WX f v r;rw[show putF f v ((k,x)::r)=(if k=f then(k,v)::r else(k,x)::putF f v r) from rfl]
  by_cases hk:k=f
  ·rw[if_pos hk];subst hk;exact⟨by simp,fun g h=>by simpa using h⟩
  ·rw[if_neg hk];refine⟨?_,fun g h=>?_⟩
   ·rw[Qi];exact Qc _ i1
   ·rw[Qi] at h ⊢;rcases Qh.mp h with e|e
    ·exact Qh.mpr (.inl e)
    ·exact Qc _ (i2 g e)
theorem Zb(f:Str)(v:V):∀fs:List (Str×V),(putF f v fs).length<=fs.length+1
 | []=>by simp[putF]
 | (k,x)::r=>by
  have ih:=Zb f v r;rw[show putF f v ((k,x)::r)=(if k=f then(k,v)::r else(k,x)::putF f v r) from rfl]
  by_cases hk:k=f
  ·rw[if_pos hk,Qu,Qu];omega
  ·rw[if_neg hk,Qu,Qu];omega

theorem RelO.some_of{v:V}{o:Option Value}(r:RelO (some v) o):∃u,o=some u/\RelV v u:=by
 cases o with
 | none=>exact(show False from r).elim
 | some u=>exact⟨u,rfl,r⟩
theorem Jgc{v:V}{u:Value}(r:RelV v u):PySem.W.handedIn u=true:=by
 cases v with
 | non=>cases (show u=Value.none from r);rfl
 | bl b=>cases (show u=Value.bool b from r);rfl
 | int i=>obtain⟨t,e⟩:=(show ∃t,u=Value.int i t from r);cases e;rfl
 | str x=>obtain⟨t,e⟩:=(show ∃t,u=Value.str x t from r);cases e;rfl
 | byt b=>obtain⟨t,e⟩:=(show ∃t,u=Value.bytes b t from r);cases e;rfl
 | flt b=>obtain⟨t,e⟩:=(show ∃t,u=Value.float b t from r);cases e;rfl
 | ref a=>cases (show u=Value.ref a from r);rfl
 | ty n=>cases (show u=Value.type n from r);rfl

section
variable{P:Program}{w:World}{H H':Hp}{h h':Heap}{a C dx:Addr}{fs fs':List (Str×V)}
theorem JbG(hok:HOk P w H h)(e:H a=some (.ins C dx fs)):∃mA,ObjM h a dx C mA/\(∀f,RelO (fs.lookup f) (mA f))/\Rt mA (fs.map (·.1))/\fs.length<=1000/\H dx=some (.own a):=by
 obtain⟨d,z,ne,ob,mA,n,r,q⟩:=(show ObjOk P w H h a (.ins C dx fs) from hok a _ e)
 exact⟨mA,⟨ob,n,ne⟩,r,q,z,d⟩
end

structure Cls (K:Frag) (C:Addr):Prop where
 pg:plainGet K C Str.empty=true
 hd:hasDictIn K C=true
 po:plainOver K C=true
 sa:findIn K (.ref C) "__setattr__"=some (some (.builtin "object.__setattr__"))
theorem Cls.get{K:Frag}{C:Addr}(c:Cls K C)(f:Str):plainGet K C f=true:=c.pg
noncomputable def NoAttr(K:Frag)(C:Addr)(f:Str):Prop:=findIn K (.ref C) f=some none
theorem NoAttr.taker{K:Frag}{C:Addr}{f:Str}(n:NoAttr K C f):takerIn K C f=some none:=by unfold takerIn;rw[show findIn K (.ref C) f=some none from n];rfl
structure Con (K:Frag) (C:Addr) (f:Str) (v:V) (u:Value):Prop where
 at_:findIn K (.ref C) f=some (some u)
 rel:RelV v u
 get:specialIn K u "__get__"=some none
 cp:PySem.W.copiedNames.contains f=false
structure Meth (K:Frag) (C:Addr) (m:Str) (f:Addr):Prop where
 at_:findIn K (.ref C) m=some (some (.ref f))
 fn:isFn K (.ref f)=true
 kp:keepIn K (.ref f)=true

section
variable{X:Cx}{pins:List (Addr×Obj)}{σ:St}{H:Hp}{s:Shared}{a C dx:Addr}{fs:List (Str×V)}{f:Str}{v:V}{A:Around}{E:Value->Shared->Prop}

theorem JdR{b:Bool}{Q:Value->Shared->Prop}(I:Inv X pins σ H s)(e:H a=some (.ins C dx fs))(c:Cls X.K C)(n:NoAttr X.K C f)(l:fs.lookup f=some v)
 (h:∀u s',Inv X pins σ H s'->RelV v u->Q u s'):wpAny (model X.prog X.w) A (getAttr (.ref a) f b) Q E s:=by
 obtain⟨mA,O,r,_,_,_⟩:=JbG I.hok e;obtain⟨u,hu,ru⟩:=RelO.some_of (v:=v) (o:=mA f) (by rw[<- l];exact r f);exact Jkc I.kIn O (c.get f) c.hd n hu (Jgc ru) (h u _ (I.tok _) ru)

theorem Jee{y:V}{u:Value}{Q:Unit->Shared->Prop}(I:Inv X pins σ H s)(e:H a=some (.ins C dx fs))(c:Cls X.K C)(n:NoAttr X.K C f)(hl:fs.length<1000)(ry:RelV y u)
 (h:∀s',Inv X pins σ (upd H a (.ins C dx (putF f y fs))) s'->Q () s'):wpAny (model X.prog X.w) A (setAttr (.ref a) f u) Q E s:=by
 obtain⟨mA,O,r,wi,_,ho⟩:=JbG I.hok e;have hz:(fs.map (·.1)).length<=sizeLine:=by rw[Qo,sizeLine_eq];omega
 refine Jlv I.kIn O c.sa c.po n.taker c.hd wi hz fun h' O' sb=>h _ ?_
 have hd:∃o,h'.get? dx=some o:=let ⟨o,_,_,e',_⟩:=O'.ns;⟨o,e'⟩
 refine I.write (x:=a) (e:=dx) (by rw[e];exact True.intro) (.inr ho) (fun b q hb z=>(sb.2 b hb).trans z) hd ?_;refine⟨by rw[Ji O.ne];exact ho,?_,O.ne,O'.obj,_,O'.ns,fun g=>?_,fun g hg=>?_⟩
 ·have:=Zb f y fs;omega
 ·show RelO ((putF f y fs).lookup g) (if g=f then some u else mA g);rw[Zc]
  by_cases q:g=f
  ·rw[if_pos q,if_pos q];exact ry
  ·rw[if_neg q,if_neg q];exact r g
 ·by_cases q:g=f
  ·rw[q];exact(WX f y fs).1
  ·refine(WX f y fs).2 g (wi g fun z=>hg ?_);show(if g=f then some u else mA g)=none;rw[if_neg q];exact z

theorem Inv.made(I:Inv X pins σ H s):Inv X pins σ (upd (upd H s.heap.objs.size (.own (s.heap.objs.size+1))) (s.heap.objs.size+1) (.ins C s.heap.objs.size []))
 { s with heap:=(s.heap.push emptyDict).push (instObj C s.heap.objs.size) }:=by
 have e1:(s.heap.push emptyDict).get? s.heap.objs.size=some emptyDict:=Qk s.heap rfl
 have e2:((s.heap.push emptyDict).push (instObj C s.heap.objs.size)).get? (s.heap.objs.size+1)=some (instObj C s.heap.objs.size):=by
  have:=Qk (s.heap.push emptyDict) (o:=instObj C s.heap.objs.size) rfl
  rwa [Q4] at this
 have e3:(s.heap.push emptyDict).Ns s.heap.objs.size (fun _=>none):=⟨emptyDict,#[],_,e1,rfl,(fun e he=>absurd he (by simp)),fun _=>rfl⟩
 have I1:=I.laid (a:=s.heap.objs.size) (o:=.own (s.heap.objs.size+1)) (h':=s.heap.push emptyDict) (t':=s.toks) (fun b u q=>Qe _ q) (Qn _) ⟨_,e1⟩;refine I1.laid (a:=s.heap.objs.size+1) (o:=.ins C s.heap.objs.size []) (t':=s.toks) (fun b u q=>Qe _ q) (MP (Q4 _ _)) ?_
 have ne:s.heap.objs.size≠s.heap.objs.size+1:=Qr (Gi _);refine⟨by rw[Ji ne,Jt],Gn _,ne,e2,fun _=>none,(Heap.Ns1.of_empty e3).at fun o q=>Qe _ q,fun _=>True.intro,fun y hy=>absurd rfl hy⟩

theorem Jjt{prog:Program}{w:World}{env:Env}{e:Expr}{f:Str}{pos:Pos}{s:Shared}{Q:Value->Shared->Prop}(hb:attributeBase e f env (eval e env)=eval e env)
 (h:wpAny (model prog w) A (eval e env) (fun o s₁=>wpAny (model prog w) A (getAttr o f true) Q E s₁) E s):wpAny (model prog w) A (eval (.Attribute e f pos) env) Q E s :=
 Attribute_any_ h (by rw[arm_eval_Attribute,hb])
end

noncomputable def JlB(K:Frag)(ta:TE)(f:Str):TE:=fun σ H Q=>ta σ H fun x H1=>∃a C dx fs v,x=.ref a/\H1 a=some (.ins C dx fs)/\Cls K C/\NoAttr K C f/\fs.lookup f=some v/\Q v H1
noncomputable def Joo(K:Frag)(ta tv:TE)(f:Str):TS:=fun D σ H=>tv σ H fun y H1=>ta σ H1 fun x H2=>∃a C dx fs,x=.ref a/\H2 a=some (.ins C dx fs)/\Cls K C/\NoAttr K C f/\fs.length<1000 ∧
 D.nx σ (upd H2 a (.ins C dx (putF f y fs)))
section
variable{X:Cx}{o e value:Expr}{f:Str}{pos pos' tpos:Pos}{ta tv:TE}
theorem JnH(he:PE X e ta)(hb:attributeBase e f X.env (eval e X.env)=eval e X.env):PE X (.Attribute e f pos) (JlB X.K ta f):=by intro pins s σ H Q I h;refine Jjt hb (thn (he pins s σ H _ I h) fun u s1 ⟨x,H1,I1,rx,a,C,dx,fs,v,ex,ea,c,n,l,q⟩=>?_);subst ex;obtain rfl:u=Value.ref a:=rx;exact JdR I1 ea c n l fun u' s2 I2 ru=>⟨v,H1,I2,ru,q⟩
theorem JnQ(ha:PE X o ta)(hv:PE X value tv)(hs:swapsWith value (some (.Attribute o f pos')) pos.line X.env=pure false):PS X (.Assign [.Attribute o f pos'] value pos) (Joo X.K ta tv f):=by intro pins s σ H D I h;refine plainObj_wpAny_Assign_Attribute (thn (hv pins s σ H _ I h) fun u s1 ⟨y,H1,I1,ry,q⟩=>thn (ha pins s1 σ H1 _ I1 q) fun ov s2 ⟨x,H2,I2,rx,a,C,dx,fs,ex,ea,c,n,l,q2⟩=>?_) hs;subst ex;obtain rfl:ov=Value.ref a:=rx;exact Jee I2 ea c n l ry fun s3 I3=>⟨σ,_,I3,q2⟩
end

section
variable{X:Cx}{pins:List (Addr×Obj)}{σ:St}{H:Hp}{s:Shared}{A:Around}{E:Value->Shared->Prop}{Q:Value->Shared->Prop}{c:Value}{b:Bool}
inductive TyOf (K:Frag) (H:Hp):V->Value->Prop where
 | non:TyOf K H .non (.type "NoneType")
 | bl (x:Bool):TyOf K H (.bl x) (.type "bool")
 | int (i:Int):TyOf K H (.int i) (.type "int")
 | str (x:Str):TyOf K H (.str x) (.type "str")
 | flt (x:UInt64):TyOf K H (.flt x) (.type "float")
 | lst {a:Addr} {xs:List V} (e:H a=some (.lst xs)):TyOf K H (.ref a) (.type "list")
 | frz {a:Addr} {o:Obj} {xs:List V} (e:H a=some (.frz o (.lst xs))):TyOf K H (.ref a) (.type "list")
 | tup {a:Addr} {xs:List V} (e:H a=some (.tup xs)):TyOf K H (.ref a) (.type "tuple")
 | dK {a:Addr} {kvs:List (Key×V)} (e:H a=some (.dK kvs)):TyOf K H (.ref a) (.type "dict")
 | dT {a:Addr} {kvs:List (List Key×V)} (e:H a=some (.dT kvs)):TyOf K H (.ref a) (.type "dict")
 | ins {a C dx:Addr} {fs:List (Str×V)} (e:H a=some (.ins C dx fs)) (cl:Cls K C) (ha:findIn K (.ref C) "__class__"=some (some (.builtin "object.__class__")))
  (hn:specialIn K (.builtin "object.__class__") "__get__"=some (some (.builtin "getset_descriptor.__get__"))) (htk:takesIn K (.builtin "object.__class__")=some true)
  (hm:mroIn K C (.type "object")=some true):TyOf K H (.ref a) (.ref C)
theorem Jgn{x:V}{u t:Value}(I:Inv X pins σ H s)(rx:RelV x u)(ty:TyOf X.K H x t)(e:kitOne X.K t c=some b)(h:∀tk,Q (.bool b) { s with toks:=tk }) :
 wpAny (model X.prog X.w) A (call (.builtin "isinstance") [u,c]) Q E s:=by
 cases ty with
 | non=>cases (show u=Value.none from rx);exact kia_one PySem.W.kitx_none I.kIn True.intro e (fun z=>nomatch z) h
 | bl y=>cases (show u=Value.bool y from rx);exact kia_one PySem.W.kitx_bool I.kIn True.intro e (fun z=>nomatch z) h
 | int i=>obtain⟨t,q⟩:=(show ∃t,u=Value.int i t from rx);cases q;exact kia_one PySem.W.kitx_int I.kIn True.intro e (fun z=>nomatch z) h
 | str y=>obtain⟨t,q⟩:=(show ∃t,u=Value.str y t from rx);cases q;exact kia_one PySem.W.kitx_str I.kIn True.intro e (fun z=>nomatch z) h
 | flt y=>obtain⟨t,q⟩:=(show ∃t,u=Value.float y t from rx);cases q;exact kia_one PySem.W.kitx_float I.kIn True.intro e (fun z=>nomatch z) h
 | @lst a xs ea =>
  cases (show u=Value.ref a from rx);obtain⟨_,_,n,_,h1⟩:=(show ObjOk X.prog X.w H s.heap a (.lst xs) from I.hok a _ ea)
  exact kia_one kitx_list I.kIn ⟨_,h1,rfl⟩ e (fun z=>nomatch z) h
 | @frz a ob xs ea =>
  cases (show u=Value.ref a from rx);obtain⟨_,_,_,n,_,h1⟩:=(show ObjOk X.prog X.w H s.heap a (.frz ob (.lst xs)) from I.hok a _ ea)
  exact kia_one kitx_list I.kIn ⟨_,h1,rfl⟩ e (fun z=>nomatch z) h
 | @tup a xs ea =>
  cases (show u=Value.ref a from rx);obtain⟨_,_,_,p⟩:=(show ObjOk X.prog X.w H s.heap a (.tup xs) from I.hok a _ ea)
  obtain⟨o,h1,h2,_⟩:=p;exact kia_one Rq I.kIn ⟨o,h1,h2⟩ e (fun z=>nomatch z) h
 | @dK a kvs ea =>
  cases (show u=Value.ref a from rx);obtain⟨_,_,vs,_,p⟩:=(show ObjOk X.prog X.w H s.heap a (.dK kvs) from I.hok a _ ea)
  obtain⟨o,es,ep,h1,h2,_⟩:=p;exact kia_one Ru I.kIn ⟨o,h1,h2.1⟩ e (fun z=>nomatch z) h
 | @dT a kvs ea =>
  cases (show u=Value.ref a from rx);obtain⟨_,_,xs,_,o,es,ep,h1,h2,_⟩:=(show ObjOk X.prog X.w H s.heap a (.dT kvs) from I.hok a _ ea)
  exact kia_one Ru I.kIn ⟨o,h1,h2.1⟩ e (fun z=>nomatch z) h
 | @ins a C dx fs ea cl ha hn htk hm=>cases (show u=Value.ref a from rx);obtain⟨mA,O,_⟩:=JbG I.hok ea;obtain⟨od,J,_⟩:=O.look;exact kia_one (PySem.W.kitx_own (cl.get _) cl.hd ha hn htk hm) I.kIn J e (fun z=>nomatch z) h
end
end L2

namespace L2
open PySem PySem.Spec PyProof.Rows

structure Room (k:Nat) (A:Around):Prop where
 hd:A.handled=none
 dp:A.depth+3*k+5<recursionLimit
 un:A.units+16*k+200<cLine
theorem Room.mono{j k:Nat}{A:Around}(r:Room k A)(h:j<=k):Room j A:=⟨r.hd,by have:=r.dp;omega,by have:=r.un;omega⟩
theorem Room.deeper{k:Nat}{A:Around}(r:Room (k+1) A)(env:Env):Room k (A.deeper env) :=
 ⟨r.hd,by have:=r.dp;show A.depth+1+3*k+5<_;omega,by have:=r.un;show A.units+3+16*k+200<_;omega⟩
theorem Room.in1{k:Nat}{A:Around}(r:Room (k+1) A):Room k A.in1 :=
 ⟨r.hd,by have:=r.dp;show A.depth+3*k+5<_;omega,by have:=r.un;show A.units+1+16*k+200<_;omega⟩
theorem JdZ{A:Around}{C:Addr}{us:List Value}{kw:List (Str×Value)}:(A.under (.builtin "type.__call__" ⟨.ref C::us,kw⟩)).depth=A.depth+1:=by first | rfl | simp[Rv,Code.weight,Code.isCreation,Code.isGuard,Code.isCaller,Code.frames,Rw,guardIds]
theorem Jd0{A:Around}{C:Addr}{us:List Value}{kw:List (Str×Value)}:(A.under (.builtin "type.__call__" ⟨.ref C::us,kw⟩)).units=A.units+1:=by first | rfl | simp[Rv,Code.cUnits,Code.frames,Rw]
theorem Room.make{k:Nat}{A:Around}(r:Room (k+1) A)(C:Addr)(us:List Value)(kw:List (Str×Value)):Room k (A.under (.builtin "type.__call__" ⟨.ref C::us,kw⟩)) :=
 ⟨r.hd,by have:=r.dp;rw[JdZ];omega,by have:=r.un;rw[Jd0];omega⟩
theorem Room.depth{k:Nat}{A:Around}(r:Room k A):A.depth<recursionLimit:=by have:=r.dp;omega
theorem Room.units{k:Nat}{A:Around}(r:Room k A):A.units+64<cLine:=by have:=r.un;omega
noncomputable def UV:TA:=fun _ H Q=>Q [] H
noncomputable def YE(ta:TE)(tr:TA):TA:=fun σ H Q=>ta σ H fun x H1=>tr σ H1 fun xs H2=>Q (x::xs) H2
section
variable{X:Cx}{e:Expr}{es:List Expr}{te:TE}{t:TA}{pos:Pos}
theorem Jc:PA X [] UV:=fun _ _ _ _ H Q I h=>Lw ⟨[],H,I,.nil,h⟩
theorem Ja(ha:PE X e te)(hr:PA X es t)(hs:starEach (e::es) X.env=(false,eval e X.env)::starEach es X.env:=by rfl):PA X (e::es) (YE te t):=by intro pos pins s σ H Q I h;rw[hs];show wpAny _ _ (spliced ((false,eval e X.env)::backTo pos (starEach es X.env))) _ _ s;refine Kc (thn (ha pins s σ H _ I h) fun u s1 ⟨x,H1,I1,r1,q1⟩=>?_);exact thn (hr pos pins s1 σ H1 _ I1 q1) fun us s2 ⟨xs,H2,I2,r2,q2⟩=>⟨x::xs,H2,I2,.cons r1 r2,q2⟩

noncomputable def JoA(t:TA):TE:=fun σ H Q=>t σ H fun xs H1=>xs.length<=sizeLine/\∀p,H1 p=none->Q (.ref p) (upd H1 p (.tup xs))
noncomputable def Ji1(t:TA):TE:=fun σ H Q=>t σ H fun xs H1=>xs.length<=sizeLine/\∀p,H1 p=none->Q (.ref p) (upd H1 p (.lst xs))
theorem YS{x1}(h:PA X es t):PE X (.Tuple es x1 pos) (JoA t):=by intro pins s σ H Q I hq;refine wpAny_Tuple_spliced (thn (h pos pins s σ H _ I hq) fun us s1 ⟨xs,H1,I1,r,z,q⟩=>⟨by rw[<- r.length];exact z,?_⟩);have hf:H1 s1.heap.objs.size=none:=I1.hok.fresh (Qn _);refine⟨.ref s1.heap.objs.size,upd H1 s1.heap.objs.size (.tup xs),I1.laid (t':=s1.toks) (fun b u e=>Qe _ e) (Qn _) ?_,rfl,q _ hf⟩;exact⟨z,us,r,⟨_,Qk _ rfl,rfl,_,rfl⟩⟩
theorem Yn(h:PA X es t):PE X (.List es pos) (Ji1 t):=by intro pins s σ H Q I hq;refine wpAny_List_spliced (thn (h pos pins s σ H _ I hq) fun us s1 ⟨xs,H1,I1,r,z,q⟩=>⟨by rw[<- r.length];exact z,?_⟩);have hf:H1 s1.heap.objs.size=none:=I1.hok.fresh (Qn _);refine⟨.ref s1.heap.objs.size,upd H1 s1.heap.objs.size (.lst xs),I1.laid (t':=s1.toks) (fun b u e=>Qe _ e) (Qn _) ?_,rfl,q _ hf⟩;exact⟨z,us,0,r,Qk _ rfl⟩
end

noncomputable abbrev Sp:=List V->Hp->VK->XK->Prop
noncomputable abbrev CXT:=List Env->Hp->Shared->XK->Value->Shared->Prop

structure Env0 (P:Program) (w:World) (K:Frag) (mg:Str->Option Value) (base:Heap) (A:Around) (outer:List Env) (s:Shared) (H:Hp):Prop where
 frames:A.frames=some outer
 mod:Mod K mg base
 bs:∀b o,base.get? b=some o->s.heap.get? b=some o/\H b=none
 bsz:base.objs.size<=s.heap.objs.size
 funs:s.heap.FunFrames base outer
 frf:∀b∈frs outer,H b=none
 hok:HOk P w H s.heap
 bare:AllBare s.gens
noncomputable def CE(outer:List Env)(P:Program)(w:World)(H:Hp)(s:Shared)(Q:VK)(u:Value)(s':Shared):Prop :=
 ∃v H',s'.os=s.os/\AllBare s'.gens/\Un (frs outer) [] H H' s.heap s'.heap/\HOk P w H' s'.heap/\RelV v u/\Q v H'
noncomputable def CR(CX:CXT)(outer:List Env)(P:Program)(w:World)(H:Hp)(s:Shared)(Q:VK)(E:XK)(r:Result)(s':Shared):Prop :=
 match r with
 | .ok (.ret u)=>CE outer P w H s Q u s'
 | .ok _=>False
 | .error e=>CX outer H s E e s'
structure FnOk (P:Program) (w:World) (K:Frag) (mg:Str->Option Value) (base:Heap) (CX:CXT) (k:Nat) (f:Addr) (fd:FuncData) (ps:List Str) (sp:Sp):Prop where
 len:∀vs H Q E,sp vs H Q E->vs.length=ps.length
 run:∀(A:Around) (outer:List Env) (s:Shared) (H:Hp) (args:Args) (us:List Value) (vs:List V) (Q:VK) (E:XK),Room k A->Env0 P w K mg base A outer s H->BindsTo s fd args (ps.zip us)->Vals vs us->sp vs H Q E ->
  codeAny (model P w) A (.call (.ref f) args) (CR CX outer P w H s Q E) s
theorem FnOk.mono{P:Program}{w:World}{K:Frag}{mg:Str->Option Value}{base:Heap}{CX:CXT}{j k:Nat}{f:Addr}{fd:FuncData}{ps:List Str}{sp:Sp}(F:FnOk P w K mg base CX j f fd ps sp)(h:j<=k) :
 FnOk P w K mg base CX k f fd ps sp:=⟨F.len,fun A outer s H args us vs Q E hr=>F.run A outer s H args us vs Q E (hr.mono h)⟩
theorem FnOk.imp{P:Program}{w:World}{K:Frag}{mg:Str->Option Value}{base:Heap}{CX:CXT}{k:Nat}{f:Addr}{fd:FuncData}{ps:List Str}{sp sp':Sp}(F:FnOk P w K mg base CX k f fd ps sp)
 (h:∀vs H Q E,sp' vs H Q E->sp vs H Q E):FnOk P w K mg base CX k f fd ps sp' :=
 ⟨fun vs H Q E q=>F.len vs H Q E (h _ _ _ _ q),fun A outer s H args us vs Q E hr he hb hv hs=>F.run A outer s H args us vs Q E hr he hb hv (h _ _ _ _ hs)⟩

theorem Env0.make{P:Program}{w:World}{K:Frag}{mg:Str->Option Value}{base:Heap}{A:Around}{outer:List Env}{s:Shared}{H:Hp}(e:Env0 P w K mg base A outer s H)(C:Addr)(us:List Value)(kw:List (Str×Value)) :
 Env0 P w K mg base (A.under (.builtin "type.__call__" ⟨.ref C::us,kw⟩)) outer s H:=⟨by first | exact e.frames | (simpa [Rv,Code.envs,Rw,pushEnvs] using e.frames),e.mod,e.bs,e.bsz,e.funs,e.frf,e.hok,e.bare⟩
theorem Env0.in1{P:Program}{w:World}{K:Frag}{mg:Str->Option Value}{base:Heap}{A:Around}{outer:List Env}{s:Shared}{H:Hp}(e:Env0 P w K mg base A outer s H) :
 Env0 P w K mg base A.in1 outer s H:=⟨e.frames,e.mod,e.bs,e.bsz,e.funs,e.frf,e.hok,e.bare⟩

section
variable{X:Cx}{pins:List (Addr×Obj)}{σ:St}{H:Hp}{s s':Shared}
theorem Inv.env0(I:Inv X pins σ H s):Env0 X.prog X.w X.K X.mg X.base X.A X.stack s H :=
 ⟨I.ok.frames,I.ok.mod,I.bs,QR I.ok.bsz I.sz,I.stack,I.stkFree,I.hok,I.bare⟩
theorem Inv.after{Q:VK}{u:Value}(I:Inv X pins σ H s)(h:CE X.stack X.prog X.w H s Q u s'):EP X pins σ Q u s':=by obtain⟨v,H',os,bare,un,hok,r,q⟩:=h;obtain⟨hh,g,d,t,os'⟩:=s';obtain rfl:os'=s.os:=os;exact⟨v,H',I.call (h':=hh) (g':=g) (d':=d) (t':=t) (ch:=[]) un hok bare (fun b z=>absurd z (by simp)),r,q⟩
end

noncomputable def WK(sp:Sp)(dvs:List V)(E:XK)(t:TA):TE:=fun σ H Q=>t σ H fun vs H1=>sp (vs++dvs) H1 Q E
noncomputable def JfM(C:Addr)(sp:Sp)(dvs:List V)(E:XK)(t:TA):TE:=fun σ H Q=>t σ H fun vs H1=>∀x dx,H1 x=none->H1 dx=none->dx≠x ->
 sp (.ref x::(vs++dvs)) (upd (upd H1 dx (.own x)) x (.ins C dx [])) (fun v H2=>v=.non/\Q (.ref x) H2) E

noncomputable def Binds(K:Frag)(fd:FuncData)(ps:List Str)(ds:List Value):Prop :=
 ∀(s:Shared) (us:List Value),K.In s.heap->(us++ds).length=ps.length->BindsTo s fd ⟨us,[]⟩ (ps.zip (us++ds))
theorem Binds.all{K:Frag}{fd:FuncData}{ps:List Str}(h:∀us:List Value,us.length=ps.length->bindArgs fd ⟨us,[]⟩=pure (ps.zip us)):Binds K fd ps []:=fun s us _ hl=>by rw[Kl] at hl ⊢;exact .of_eq (h us hl)

noncomputable def Vo(CX:CXT)(X:Cx)(E:XK):Prop:=∀(pins:List (Addr×Obj)) (σ:St) (H:Hp) (s:Shared) (e:Value) (s':Shared),Inv X pins σ H s->CX X.stack H s E e s'->X.xe e s'

section
variable{X:Cx}{CX:CXT}{k:Nat}{f C:Addr}{fd:FuncData}{ps:List Str}{sp:Sp}{dvs:List V}{ds:List Value}{E:XK}{x m:Str}{p pos apos:Pos}{e o:Expr}{es:List Expr}{ta:TE}{t:TA}

theorem Jon{pins:List (Addr×Obj)}{σ:St}{H:Hp}{s:Shared}{Q:VK}{us:List Value}{vs:List V}(F:FnOk X.prog X.w X.K X.mg X.base CX k f fd ps sp)(hr:Room k X.A)(hb:Binds X.K fd ps ds)(hd:Vals dvs ds)(hx:Vo CX X E)
 (I:Inv X pins σ H s) (r:Vals vs us) (h:sp (vs++dvs) H Q E):wpAny (model X.prog X.w) X.A (call (.ref f) us) (EP X pins σ Q) X.xe s:=by
 have r2:Vals (vs++dvs) (us++ds):=r.append hd
 have hl:(us++ds).length=ps.length:=by rw[<- r2.length];exact F.len _ _ _ _ h
 refine MQ (G8 (F.run X.A X.stack s H ⟨us,[]⟩ (us++ds) (vs++dvs) Q E hr I.env0 (hb s us I.kIn hl) r2 h) fun r s' hq=>?_)
 cases r with
 | error e=>exact hx pins σ H s e s' I hq
 | ok fl =>
  cases fl with
  | ret u=>exact I.after hq
  | next=>exact Q7 hq
  | brk=>exact Q7 hq
  | cont=>exact Q7 hq

theorem Jfo(F:FnOk X.prog X.w X.K X.mg X.base CX k f fd ps sp)(hr:Room k X.A)(hg:Gl X x)(hm:X.mg x=some (.ref f))(hk:keepIn X.K (.ref f)=true)(hb:Binds X.K fd ps ds)(hd:Vals dvs ds)(hx:Vo CX X E)
 (ha:PA X (e::es) t) (hdb:(x == ("__debug__":Str))=false:=by decide) (he:starEach (e::es) X.env=(false,eval e X.env)::starEach es X.env:=by rfl) (hpl:(backTo pos (starEach es X.env)).any (·.1)=false:=by rfl) :
 PE X (.Call (.Name x p) (e::es) [] pos) (WK sp dvs E t):=by
 intro pins s σ H Q I h;refine Ke (Vf I hg hm ?_ hdb);refine callWith_K (h₀:=X.base) I.ok.mod.kin hk (thn (ha pos pins s σ H _ I h) fun us s1 ⟨vs,H1,I1,r,q⟩=>⟨I1.kIn,?_⟩) he hpl;exact Jon F hr hb hd hx I1 r q
structure Mk (K:Frag) (C f:Addr):Prop where
 makes:makesIn K C=true
 init:findIn K (.ref C) "__init__"=some (some (.ref f))
 fn:isFn K (.ref f)=true
 kp:keepIn K (.ref C)=true

theorem JiI{pins:List (Addr×Obj)}{σ:St}{H:Hp}{s:Shared}{Q:VK}{us:List Value}{vs:List V}(M:Mk X.K C f)(F:FnOk X.prog X.w X.K X.mg X.base CX k f fd ps sp)(hr:Room (k+1) X.A)(hb:Binds X.K fd ps ds)(hd:Vals dvs ds)
 (hx:Vo CX X E) (I:Inv X pins σ H s) (r:Vals vs us)
 (h:∀x dx,H x=none->H dx=none->dx≠x->sp (.ref x::(vs++dvs)) (upd (upd H dx (.own x)) x (.ins C dx [])) (fun v H2=>v=.non/\Q (.ref x) H2) E) :
 wpAny (model X.prog X.w) X.A (call (.ref C) us) (EP X pins σ Q) X.xe s:=by
 have hq:=h (s.heap.objs.size+1) s.heap.objs.size (I.hok.fresh (Lo _)) (I.hok.fresh (Qn _)) (Qr (Gi _))
 have I2:=Inv.made (C:=C) I
 have r2:Vals (V.ref (s.heap.objs.size+1)::(vs++dvs)) (Value.ref (s.heap.objs.size+1)::(us++ds)):=.cons rfl (r.append hd)
 have hl:(Value.ref (s.heap.objs.size+1)::us++ds).length=ps.length:=by have e:=r2.length;rw[F.len _ _ _ _ hq] at e;exact e.symm
 refine MQ (Jh2 (f:=f) I.kIn M.makes M.init (beq_iff_eq.mp M.fn) (G8 (F.run _ X.stack _ _ ⟨Value.ref (s.heap.objs.size+1)::us,[]⟩ (Value.ref (s.heap.objs.size+1)::(us++ds)) _ _ E (hr.make C us [])
  (I2.env0.make C us []) (hb _ (Value.ref (s.heap.objs.size+1)::us) I2.kIn hl) r2 hq) fun r s' hq'=>?_))
 cases r with
 | error e=>exact hx pins σ _ _ e s' I2 hq'
 | ok fl =>
  cases fl with
  | ret u=>obtain⟨v,H',I3,rv,ev,q3⟩:=I2.after hq';subst ev;exact⟨rv,⟨V.ref (s.heap.objs.size+1),H',I3,rfl,q3⟩⟩
  | next=>exact Q7 hq'
  | brk=>exact Q7 hq'
  | cont=>exact Q7 hq'
theorem JkP(M:Mk X.K C f)(F:FnOk X.prog X.w X.K X.mg X.base CX k f fd ps sp)(hr:Room (k+1) X.A)(hg:Gl X x)(hm:X.mg x=some (.ref C))(hb:Binds X.K fd ps ds)(hd:Vals dvs ds)(hx:Vo CX X E)
 (ha:PA X (e::es) t) (hdb:(x == ("__debug__":Str))=false:=by decide) (he:starEach (e::es) X.env=(false,eval e X.env)::starEach es X.env:=by rfl) (hpl:(backTo pos (starEach es X.env)).any (·.1)=false:=by rfl) :
 PE X (.Call (.Name x p) (e::es) [] pos) (JfM C sp dvs E t):=by
 intro pins s σ H Q I h;refine Ke (Vf I hg hm ?_ hdb);refine callWith_K (h₀:=X.base) I.ok.mod.kin M.kp (thn (ha pos pins s σ H _ I h) fun us s1 ⟨vs,H1,I1,r,q⟩=>⟨I1.kIn,?_⟩) he hpl;exact JiI M F hr hb hd hx I1 r q
end

section
variable{X:Cx}{CX:CXT}{k:Nat}{f C:Addr}{fd:FuncData}{ps ks:List Str}{sp:Sp}{E:XK}{x m:Str}{p pos apos kpos:Pos}{e o:Expr}{es:List Expr}{kws:List Keyword}{te ta:TE}{t tk:TA}{nm:Option Str}
structure KBinds (K:Frag) (fd:FuncData) (ps ks:List Str) (g:List Value->List Value->List Value) (gV:List V->List V->List V):Prop where
 to:∀(s:Shared) (us ws:List Value),K.In s.heap->(g us ws).length=ps.length->BindsTo s fd ⟨us,ks.zip ws⟩ (ps.zip (g us ws))
 rel:∀{vs:List V} {us:List Value} {zs:List V} {ws:List Value},Vals vs us->Vals zs ws->Vals (gV vs zs) (g us ws)
variable{g:List Value->List Value->List Value}{gV:List V->List V->List V}
end

structure FnScope (N P:List Str) (sc:Scope):Prop where
 kind:sc.kind=.function
 co:sc.isCoroutine=false
 gen:sc.isGenerator=false
 nd:N.Nodup
 pre:N.take P.length=P
 par:∀x∈P,sc.names.lookup x=some .local\/sc.names.lookup x=some .cell
 nofree:∀y∈sc.names,y.2≠.free

theorem JaP{kindOf:Str->Option NameKind}{x:Str}:∀{binds:List (Str×Value)} {m:Str->Option Value},(∀v,(x,v)∉binds)->bindL kindOf binds m x=m x
 | [],_,_=>rfl
 | (n,v)::r,m,h=>by
  unfold bindL;rw[JaP fun w hw=>h w (Qc _ hw)];split
  ·have:x≠n:=by rintro rfl;exact h v Qf
   simp[this]
  ·rfl
theorem JaN{kindOf:Str->Option NameKind}{x:Str}:∀{binds:List (Str×Value)} {m:Str->Option Value},(∀v,(x,v)∉binds)->bindC kindOf binds m x=m x
 | [],_,_=>rfl
 | (n,v)::r,m,h=>by
  unfold bindC;rw[JaN fun w hw=>h w (Qc _ hw)];split
  ·rfl
  ·have:x≠n:=by rintro rfl;exact h v Qf
   simp[this]
theorem JaO{kindOf:Str->Option NameKind}{x:Str}{v:Value}:∀{P:List Str} {vs:List Value} {i:Nat} {m:Str->Option Value},P.Nodup->P[i]?=some x->vs[i]?=some v->kindOf x=some .local ->
 bindL kindOf (P.zip vs) m x=some v
 | [],_,_,_,_,h,_,_=>by simp at h
 | _::_,[],_,_,_,_,h,_=>by simp at h
 | p::P,w::vs,0,m,nd,h1,h2,hk=>by simp at h1 h2;subst h1;subst h2;show bindL kindOf ((p,w)::P.zip vs) m p=_;unfold bindL;rw[JaP fun v hv=>(Q8.mp nd).1 (Km hv).1,if_pos hk];simp
 | p::P,w::vs,i+1,m,nd,h1,h2,hk=>by show bindL kindOf ((p,w)::P.zip vs) m x=_;unfold bindL;exact JaO (i:=i) (Q8.mp nd).2 (by simpa using h1) (by simpa using h2) hk
theorem JaM{kindOf:Str->Option NameKind}{x:Str}{v:Value}:∀{P:List Str} {vs:List Value} {i:Nat} {m:Str->Option Value},P.Nodup->P[i]?=some x->vs[i]?=some v->kindOf x≠some .local ->
 bindC kindOf (P.zip vs) m x=some v
 | [],_,_,_,_,h,_,_=>by simp at h
 | _::_,[],_,_,_,_,h,_=>by simp at h
 | p::P,w::vs,0,m,nd,h1,h2,hk=>by simp at h1 h2;subst h1;subst h2;show bindC kindOf ((p,w)::P.zip vs) m p=_;unfold bindC;rw[JaN fun v hv=>(Q8.mp nd).1 (Km hv).1,if_neg hk];simp
 | p::P,w::vs,i+1,m,nd,h1,h2,hk=>by show bindC kindOf ((p,w)::P.zip vs) m x=_;unfold bindC;exact JaM (i:=i) (Q8.mp nd).2 (by simpa using h1) (by simpa using h2) hk

noncomputable def YK(N:List Str)(vs:List V):St:=vs.map some++Qw (N.length-vs.length) none

noncomputable def Zh(CX:CXT)(P:Program)(w:World)(K:Frag)(mg:Str->Option Value)(base:Heap)(N:List Str)(qual:Str)(scope:Scope)(f:Addr)(cd:Value)(A:Around)(outer:List Env)(s:Shared)(H:Hp)(E:XK):Cx where
 prog:=P
 w:=w
 K:=K
 mg:=mg
 base:=base
 A:=A.deeper (envOfC qual scope s.heap.objs.size f cd)
 N:=N
 s₀:=s
 H₀:=H
 env:=envOfC qual scope s.heap.objs.size f cd
 outer:=outer
 stack:=envOfC qual scope s.heap.objs.size f cd::outer
 ex:=[]
 calm:=true
 fn:=fun _=>true
 pn:=[]
 xe:=fun e s'=>wpAny (model P w) (A.deeper (envOfC qual scope s.heap.objs.size f cd)) (leaving (envOfC qual scope s.heap.objs.size f cd) e) (fun _ s''=>CX outer H s E e s'') (fun e' s''=>CX outer H s E e' s'') s'

theorem Jcl{sc:Scope}{n:Nat}{x:Str}(h:sc.names.lookup x=some .cell):∃c,(cellsFrom n sc.names []).lookup x=some c:=by have q:=cellsFrom_some sc.names n [] (.inl h);exact Lh.mp q

theorem Ja1{CX:CXT}{P:Program}{w:World}{K:Frag}{mg:Str->Option Value}{base:Heap}{N ps:List Str}{qual:Str}{scope:Scope}{f:Addr}{cd:Value}{A:Around}{outer:List Env}{s s1:Shared}{H:Hp}{E:XK}{us:List Value}{vs:List V}
 (S:FnScope N ps scope) (hd:A.handled=none) (e0:Env0 P w K mg base A outer s H) (hl:vs.length=ps.length) (r:Vals vs us)
 (x:InCallC s s.heap.objs.size (bindL (envOfC qual scope s.heap.objs.size f cd).kindOf (ps.zip us) fun _=>none) (cellsFrom (s.heap.objs.size+1) scope.names []) (bindC (envOfC qual scope s.heap.objs.size f cd).kindOf (ps.zip us) fun _=>none) s1) :
 Inv (Zh CX P w K mg base N qual scope f cd A outer s H E) [] (YK N vs) H s1:=by
 have hpl:ps.length<=N.length:=by have:=congrArg List.length S.pre;rw[KD] at this;omega
 obtain⟨h1,tk,rfl,hk⟩:=x.done;have noA:∀b:Addr,b∉(Zh CX P w K mg base N qual scope f cd A outer s H E).ex:=fun b z=>absurd (show b∈([]:List Addr) from z) (by simp)
 refine⟨⟨e0.mod,S.kind,rfl,rfl,Qn _,fun y z c h1 h2=>?_,fun y hy=>?_,fun y c _ h=>?_,fun _=>hd,Ra e0.frames,.inr ⟨rfl,rfl⟩,fun b z=>absurd z (noA b),e0.bs,e0.bsz,fun b _ _=>noA b,fun b z=>absurd z (noA b),e0.funs,e0.frf⟩,
  rfl,e0.bare,Un.kept hk,⟨_,x.toInCall.ns,fun i y v h1 h2 h3=>?_⟩,fun y c h=>⟨_,x.cell y c h⟩,e0.hok.fresh (Qn _),fun y c h=>?_,fun p hp=>absurd (show p∈([]:List (Addr×Obj)) from hp) (by simp),e0.hok.kept hk,?_⟩
 ·exact name_of_addr x.apart (G7 h1) (G7 h2)
 ·have hy:scope.names.lookup y=some .cell\/scope.names.lookup y=some .free:=hy;rcases hy with hy|hy
  ·exact Jcl hy
  ·exact absurd rfl (S.nofree _ (G7 hy))
 ·exact GM (x.above y c (G7 h))
 ·have hi:i<vs.length:=by
   unfold YK at h2
   by_cases hi:i<vs.length
   ·exact hi
   ·rw[QH (by simpa using hi)] at h2;rw[Lp] at h2;split at h2 <;> cases h2
  have ha:vs[i]?=some v:=by
   unfold YK at h2;rw[Qq (by simpa using hi),Qx] at h2
   cases e:vs[i]? with
   | none=>rw[e] at h2;cases h2
   | some a=>rw[e] at h2;cases h2;rfl
  obtain⟨u,hu,rv⟩:=r.get ha
  have hp:ps[i]?=some y:=by rw[<- S.pre,List.getElem?_take_of_lt (by omega)];exact h1
  have ndP:ps.Nodup:=by rw[<- S.pre];exact S.nd.sublist (List.take_sublist _ _)
  refine⟨u,rv,?_⟩;rcases S.par y (QI hp) with k|k
  ·exact .inl ⟨k,JaO ndP hp hu k⟩
  ·obtain⟨c,e⟩:=Jcl (n:=s.heap.objs.size+1) k;refine .inr ⟨.inl k,c,e,?_⟩;have q:=x.cell y c e;rw[JaM ndP hp hu (by show scope.names.lookup y≠_;rw[k];decide)] at q;exact q
 ·exact e0.hok.fresh (GM (x.above y c (G7 h)))
 ·unfold YK;show _=N.length;rw[Qy,Qo,Kh];omega

theorem JlV{CX:CXT}{P:Program}{w:World}{K:Frag}{mg:Str->Option Value}{base:Heap}{k:Nat}{f:Addr}{name qual:Str}{params:Arguments}{body:List Stmt}{scope:Scope}{dV kV doc pm cdv ct oc:Value}{an od:Option Addr}
 {osl:Array (Option Value)} {N ps:List Str} {sp:Sp} (lk:K.lookup f=some ⟨oc,od,.func (fnOf name qual params body scope dV kV doc pm an cdv ct),osl⟩) (hcd:codeIn K cdv qual=true) (S:FnScope N ps scope)
 (len:∀vs H Q E,sp vs H Q E->vs.length=ps.length)
 (hbody:∀(A:Around) (outer:List Env) (s:Shared) (H:Hp) (vs:List V) (Q:VK) (E:XK),Room k (A.deeper (envOfC qual scope s.heap.objs.size f cdv))->sp vs H Q E ->
  ∃t,PSs (Zh CX P w K mg base N qual scope f cdv A outer s H E) body t/\t { nx:=fun _ H'=>Q .non H',rt:=Q } (YK N vs) H) :
 FnOk P w K mg base CX (k+1) f (fnOf name qual params body scope dV kV doc pm an cdv ct) ps sp:=by
 refine⟨len,fun A outer s H args us vs Q E hr e0 hb r hsp=>?_⟩;have hl:=len _ _ _ _ hsp;have KX:K.In s.heap:=e0.mod.kin.keeps fun b o e=>(e0.bs b o e).1
 have lim:s.heap.NoLimit:=e0.mod.nolimit.keeps fun b o e=>(e0.bs b o e).1
 have hkind:∀y∈ps.zip us,scope.names.lookup y.1=some .local\/(scope.names.lookup y.1=some .cell/\((cellsFrom (s.heap.objs.size+1) scope.names []).lookup y.1).isSome=true):=fun⟨n,v⟩ hy=>by
  rcases S.par n (Km hy).1 with q|q
  ·exact .inl q
  ·exact .inr ⟨q,cellsFrom_some _ _ _ (.inl q)⟩
 refine codeAny_call_function hr.depth (KX _ _ lk) rfl S.co S.gen rfl (Rr KX hcd) (hb _ _ _ _ ?_);refine L9 S.kind hkind fun env he s1 x=>?_
 subst he;refine⟨lim.keeps x.toInCall.keep,codeAny_func ?_⟩;obtain⟨t,ht,hq⟩:=hbody A outer s H vs Q E (hr.deeper _) hsp;have I:Inv (Zh CX P w K mg base N qual scope f cdv A outer s H E) [] (YK N vs) H s1:=Ja1 S hr.hd e0 hl r x;refine GC (ht [] s1 (YK N vs) H _ I hq) (fun fl s' hs=>?_) fun e s' hs=>hs
 have fin:∀{σ':St} {H':Hp} {v:V} {u:Value},Inv (Zh CX P w K mg base N qual scope f cdv A outer s H E) [] σ' H' s'->RelV v u->Q v H'->CE outer P w H s Q u s' :=
  fun {σ' H' v u} J rv q=>⟨v,H',J.os,J.bare,J.base,J.hok,rv,q⟩
 cases fl with
 | ret u=>obtain⟨v,σ',H',J,rv,q⟩:=hs;exact fin J rv q
 | next=>obtain⟨σ',H',J,q⟩:=hs;exact fin (v:=V.non) (u:=Value.none) J rfl q
 | brk=>obtain⟨_,_,_,q⟩:=hs;exact Q7 q
 | cont=>obtain⟨_,_,_,q⟩:=hs;exact Q7 q
end L2

namespace L2
open PySem PySem.Spec PyProof.Rows
section
variable{X:Cx}{x:Str}{p pos:Pos}{e:Expr}{es:List Expr}{t:TA}{id T:String}{r:List V->Hp->VK->Prop}

noncomputable def tCB(r:List V->Hp->VK->Prop)(t:TA):TE:=fun σ H Q=>t σ H fun vs H1=>r vs H1 Q
theorem Jo(hc:CallR X (.builtin id) r)(hg:Gl X x)(hm:X.mg x=none)(hv:bootBuiltins x=some (.builtin id))(ha:PA X (e::es) t)(hn:x≠"__name__":=by decide)(hdb:(x == ("__debug__":Str))=false:=by decide)
 (he:starEach (e::es) X.env=(false,eval e X.env)::starEach es X.env:=by rfl) (hpl:(backTo pos (starEach es X.env)).any (·.1)=false:=by rfl):PE X (.Call (.Name x p) (e::es) [] pos) (tCB r t):=by
 intro pins s σ H Q I h;refine Ke (UM I hg hm hv ?_ hn hdb);exact PyProof.Rows.callWith_builtin1 (thn (ha pos pins s σ H _ I h) fun us s1 ⟨vs,H1,I1,r1,q1⟩=>hc pins s1 σ H1 vs us Q I1 r1 q1) he hpl
theorem VT(hc:CallR X (.type T) r)(hg:Gl X x)(hm:X.mg x=none)(hv:bootBuiltins x=some (.type T))(ha:PA X (e::es) t)(hn:x≠"__name__":=by decide)(hdb:(x == ("__debug__":Str))=false:=by decide)
 (he:starEach (e::es) X.env=(false,eval e X.env)::starEach es X.env:=by rfl) (hpl:(backTo pos (starEach es X.env)).any (·.1)=false:=by rfl):PE X (.Call (.Name x p) (e::es) [] pos) (tCB r t):=by
 intro pins s σ H Q I h;refine Ke (UM I hg hm hv ?_ hn hdb);exact Ga (thn (ha pos pins s σ H _ I h) fun us s1 ⟨vs,H1,I1,r1,q1⟩=>hc pins s1 σ H1 vs us Q I1 r1 q1) he hpl
end
end L2

namespace HT
open PySem PyProof.Rows

theorem Jht(A:Around)(s:Shared)(a:Int)(t:Tok)(c:Int)(u:Tok):∃e,SeqAt.EqAt A s (.int a t) (.int c u) e/\(e=true↔a=c) :=
 ⟨(a == c),SeqAt.EqAt.int_int a t c u,by simp⟩
section
open PySem.SeqAt
open PySem.AutoSeq1 (wpAny_loadPart')
open PySem.MeetsSeq PySem.MeetsSeq2 PySem.MeetsSeq3

end

section
variable{prog:Program}{w:World}{A:Around}{E:Value->Shared->Prop}{s:Shared}

theorem JjC{t b:Addr}{vs ws:List Value}{Q:Value->Shared->Prop}(ht:IsTup s.heap t vs.toArray)(hb:IsTup s.heap b ws.toArray)(hv:vs≠[])
 (h1:ws=[]->Q (.ref t) s) (h2:ws≠[]->Q (.ref s.heap.objs.size) { s with heap:=s.heap.push { cls:=.type "tuple",data:=.seq (vs++ws).toArray } })
 (hsz:vs.length+ws.length<=sizeLine):wpAny (model prog w) A (binaryOp .Add (.ref t) (.ref b)) Q E s:=by
 obtain⟨⟨cls,dd,data,sl⟩,ho,hc,n,hd⟩:=id ht;obtain⟨⟨cls2,dd2,data2,sl2⟩,ho2,hc2,n2,hd2⟩:=id hb;simp only at hc hd hc2 hd2;subst hc hd hc2 hd2;have e:vs.toArray++ws.toArray=(vs++ws).toArray:=by simp
 by_cases hw:ws=[]
 ·exact concat_meets ⟨_,ho,rfl⟩ ⟨_,ho2,rfl⟩ noFill_tuple_add seq_tuple_add MR MC (Mv _ _)
   (tuple_addW1 t b vs.toArray ws.toArray n n2 dd dd2 sl sl2 (by simpa using hv) (by simp[hw])) ⟨ho,ho2,h1 hw⟩
 ·refine concat_meets ⟨_,ho,rfl⟩ ⟨_,ho2,rfl⟩ noFill_tuple_add seq_tuple_add MR MC (Mv _ _)
   (tuple_addW2 t b vs.toArray ws.toArray n n2 dd dd2 sl sl2 (by simpa using hv) (by simpa using hw) (by rw[Qm,Qm];exact hsz)) ⟨ho,ho2,?_⟩
  rw[e];exact h2 hw

noncomputable def sIx(n d:Nat):Option Int->Nat
 | none=>d
 | some v=>if v<0 then(v+(n:Int)).toNat else min v.toNat n
theorem Jop(n d:Nat)(hd:d<=n)(o:Option Int):sIx n d o<=n:=by
 cases o with
 | none=>exact hd
 | some v =>
  show(if v<0 then(v+(n:Int)).toNat else min v.toNat n)<=n
  by_cases hv:v<0
  ·rw[if_pos hv];omega
  ·rw[if_neg hv];exact Nat.min_le_right _ _
theorem JeG(v:Int)(n d:Nat):(if v<0 then max (v+(n:Int)) 0 else min v (n:Int))=((sIx n d (some v):Nat):Int):=by
 show(if v<0 then max (v+(n:Int)) 0 else min v (n:Int))=(((if v<0 then(v+(n:Int)).toNat else min v.toNat n):Nat):Int)
 by_cases hv:v<0
 ·simp only[if_pos hv];omega
 ·simp only[if_neg hv];omega
theorem Jdv(lo hi:Option Int)(n:Nat):Lf lo hi 1 (n:Int)=(((sIx n 0 lo:Nat):Int),((sIx n n hi:Nat):Int)):=by
 have h1:¬((1:Int)<0):=by omega
 unfold Lf;simp only[h1,if_false];refine Prod.ext ?_ ?_
 ·cases lo with
  | none=>rfl
  | some v=>exact JeG v n 0
 ·cases hi with
  | none=>rfl
  | some v=>exact JeG v n n
theorem Jd5(i j:Nat):Ki (i:Int) (j:Int) 1=j-i:=by
 unfold Ki;have h1:(1:Int)>0:=by omega
 simp only[h1,if_true,Int.ediv_one];split <;> omega
theorem Jas{v:Value}{o:Option Int}{Q:Option Int->Shared->Prop}(p:IsPart v o)(h:Q o s):wpAny (model prog w) A (Builtin.Slice.slicePartIndex v) Q E s:=by
 cases p with
 | none=>exact slicePart_none h
 | int i t=>exact slicePart_int h
theorem U6{sl:Addr}{vl vu:Value}{lo hi:Option Int}{n:Nat}{Q:Int×Int×Nat->Shared->Prop}(hs:s.heap.IsSliceOf sl vl vu .none)(pl:IsPart vl lo)(pu:IsPart vu hi)
 (h:Q (((sIx n 0 lo:Nat):Int),1,sIx n n hi-sIx n 0 lo) s):wpAny (model prog w) A (Ma (.ref sl) (pure (n:Int))) Q E s:=by
 obtain⟨os,hos,hcs,hds⟩:=id hs;unfold Ma Builtin.Slice.sliceFields;refine Qa (Qa (QE hos hds (x:=vl) rfl (Qa (QE hos hds (x:=vu) rfl (Qa (QE hos hds (x:=.none) rfl (Qd ?_)))))));refine Qa (slicePart_none ?_);show wpAny _ _ (if ((1:Int) == 0)=true then _ else _) _ _ s;rw[if_neg (by decide)];refine Qa (Jas pl (Qa (Jas pu (Qa (Qd ?_)))))
 show wpAny _ _ (match Lf lo hi 1 (n:Int) with|(lo,hi)=>pure (lo,(1:Int),Ki lo hi 1)) _ _ s;rw[Jdv lo hi n]
 show wpAny _ _ (pure (((sIx n 0 lo:Nat):Int),(1:Int),Ki ((sIx n 0 lo:Nat):Int) ((sIx n n hi:Nat):Int) 1)) _ _ s;rw[Jd5];exact Qd h
theorem Jii(xs:Array Value)(i k:Nat):((GU k).filterMap fun(m:Nat)=>xs[((i:Int)+(m:Int)*1).toNat]?).toArray=((xs.toList.drop i).take k).toArray:=by
 have e:(fun(m:Nat)=>xs[((i:Int)+(m:Int)*1).toNat]?)=fun m=>xs[i+m]?:=by
  funext m
  have:((i:Int)+(m:Int)*1).toNat=i+m:=by omega
  rw[this]
 rw[e];have:=pick_run xs i k;rw[List.filterMap_map] at this;have e2:((fun x=>xs[x]?) ∘ fun x=>i+x)=fun m=>xs[i+m]?:=rfl
 rw[e2] at this;rw[this]

theorem Wt{t sl:Addr}{items:Array Value}{vl vu:Value}{lo hi:Option Int}{Q:Value->Shared->Prop}(ht:IsTup s.heap t items)(hs:s.heap.IsSliceOf sl vl vu .none)(pl:IsPart vl lo)(pu:IsPart vu hi)
 (hw:¬(sIx items.size 0 lo=0/\sIx items.size items.size hi=items.size))
 (h:Q (.ref s.heap.objs.size) { s with heap:=s.heap.push { cls:=.type "tuple",data:=.seq ((items.toList.drop (sIx items.size 0 lo)).take (sIx items.size items.size hi-sIx items.size 0 lo)).toArray } })
 (hsz:items.size<=sizeLine):wpAny (model prog w) A (getItem (.ref t) (.ref sl)) Q E s:=by
 have htake:sizeOk (.seq ((items.toList.drop (sIx items.size 0 lo)).take (sIx items.size items.size hi-sIx items.size 0 lo)).toArray):=by show((items.toList.drop (sIx items.size 0 lo)).take (sIx items.size items.size hi-sIx items.size 0 lo)).toArray.size<=sizeLine;rw[Qm,KD,LI,QF];omega
 have hj:sIx items.size items.size hi<=items.size:=Jop _ _ (Qn _) hi;obtain⟨os,hos,hcs,hds⟩:=id hs
 have hTs:s.TypeIs (.ref sl) "slice":=⟨os,hos,hcs⟩
 unfold getItem
 try with_reducible refine Gj ?_
 first|refine Qa (Qd ?_)|skip
 refine Qa (wpAny_sequenceKey ht.typeIs (by decide) ?_);refine Qa (QB (name:=Q0 "__getitem__") ht.typeIs Q2
  (QN Q2 ht.typeIs entry_tuple_getitem ?_ (args_tuple_getitem _ _)))
 show wpAny _ _ (Mb (.ref t) >>= _) _ _ s;refine Qa (tupleItemsOf_ ht ?_);refine Qa (Lx hTs ?_);rw[if_pos (by decide)];refine Qa (U6 hs pl pu ?_)
 have hno:¬((((sIx items.size 0 lo:Nat):Int) == 0 && (1:Int) == 1 && (sIx items.size items.size hi-sIx items.size 0 lo) == items.size)=true):=by intro q;rw[Qv,Qv] at q;have q1:((sIx items.size 0 lo:Nat):Int)=0:=eq_of_beq q.1.1;have q2:sIx items.size items.size hi-sIx items.size 0 lo=items.size:=eq_of_beq q.2;exact hw ⟨by omega,by omega⟩
 show wpAny _ _ (if (((sIx items.size 0 lo:Nat):Int) == 0 && (1:Int) == 1 && (sIx items.size items.size hi-sIx items.size 0 lo) == items.size)=true then _ else _) _ _ s;rw[if_neg hno,Jii]
 first
  | exact Qa (m:=Kv _) (QP (Qd ⟨_,rfl,Qd h⟩) htake)
  | exact Qa (m:=Kv _) (QP (Qa (Qd (Qd ⟨_,rfl,Qd h⟩))) htake)
  | exact Qa (Qa (m:=Kv _) (QP (Qd (Qd ⟨_,rfl,Qd h⟩)) htake))
  | exact Qa (Qa (m:=Kv _) (QP (Qd ⟨_,rfl,Qd h⟩) htake))
end
end HT

namespace L2
open PySem PySem.Spec PyProof.Rows

noncomputable abbrev TO:=St->Hp->(Option Int->Hp->Prop)->Prop
noncomputable def PO(X:Cx)(e:Option Expr)(t:TO):Prop :=
 ∀(pins:List (Addr×Obj)) (s:Shared) (σ:St) (H:Hp) (Q:Option Int->Hp->Prop),Inv X pins σ H s->t σ H Q ->
  wpAny (model X.prog X.w) X.A (evalPart e X.env) (fun u s'=>∃o H',Inv X pins σ H' s'/\IsPart u o/\Q o H') X.xe s
noncomputable def JfN:TO:=fun _ H Q=>Q none H
noncomputable def Jmg(t:TE):TO:=fun σ H Q=>t σ H fun x H1=>∃i,x=.int i/\Q (some i) H1

theorem Y8{ns:List Int}:∀{us:List Value},Vals (ns.map V.int) us->IntsAre us ns:=by
 induction ns with
 | nil=>intro us r;rw[Kp] at r;cases r;exact .nil
 | cons n ns ih =>
  intro us r;rw[Qi] at r
  cases r with
  | cons r1 r2=>obtain⟨t,e⟩:=r1;subst e;exact .cons n t (ih r2)

section
variable{X:Cx}{e:Expr}{te:TE}{lo hi:Option Expr}{tl th:TO}{pos p2:Pos}

theorem Ue:PO X none JfN:=by intro pins s σ H Q I h;rw[evalPart_none];exact Qd ⟨none,H,I,.none,h⟩
theorem Uf(h:PE X e te):PO X (some e) (Jmg te):=by
 intro pins s σ H Q I hw;rw[evalPart_some];refine thn (h pins s σ H _ I hw) fun u s1 ⟨x,H1,I1,r1,q1⟩=>?_
 obtain⟨i,rfl,q⟩:=q1;obtain⟨t,rfl⟩:=r1;exact⟨some i,H1,I1,.int i t,q⟩

noncomputable def SlR(X:Cx)(r:V->Option Int->Option Int->Hp->VK->Prop):Prop :=
 ∀(pins:List (Addr×Obj)) (s:Shared) (σ:St) (H:Hp) (x:V) (v vl vu:Value) (lo hi:Option Int) (sl:Addr) (Q:VK),Inv X pins σ H s->RelV x v->s.heap.IsSliceOf sl vl vu .none->IsPart vl lo->IsPart vu hi->r x lo hi H Q ->
  ∃T id,typeLookup (.type T) "__getitem__"=pure (some (.builtin id))/\s.TypeIs v T/\wpAny (model X.prog X.w) X.A (getItem v (.ref sl)) (EP X pins σ Q) X.xe s
theorem SlR.or{r r':V->Option Int->Option Int->Hp->VK->Prop}(h:SlR X r)(h':SlR X r'):SlR X (fun x lo hi H Q=>r x lo hi H Q\/r' x lo hi H Q):=by
 intro pins s σ H x v vl vu lo hi sl Q I rx hs pl pu q;rcases q with q|q
 ·exact h pins s σ H x v vl vu lo hi sl Q I rx hs pl pu q
 ·exact h' pins s σ H x v vl vu lo hi sl Q I rx hs pl pu q
noncomputable def tSl(r:V->Option Int->Option Int->Hp->VK->Prop)(te:TE)(tl th:TO):TE:=fun σ H Q=>te σ H fun x H1=>tl σ H1 fun l H2=>th σ H2 fun u H3=>r x l u H3 Q
theorem YN{r:V->Option Int->Option Int->Hp->VK->Prop}(hr:SlR X r)(he:PE X e te)(hl:PO X lo tl)(hu:PO X hi th):PE X (.Subscript e (.Slice lo hi none p2) pos) (tSl r te tl th):=by
 intro pins s σ H Q I h;refine Subscript_ (thn (he pins s σ H _ I h) fun v s1 ⟨x,H1,I1,r1,q1⟩=>?_);refine wpAny_Slice (thn (hl pins s1 σ H1 _ I1 q1) fun vl s2 ⟨l,H2,I2,pl,q2⟩=>thn (hu pins s2 σ H2 _ I2 q2) fun vu s3 ⟨u,H3,I3,pu,q3⟩=>?_);rw[evalPart_none];refine Qd ?_;have I4:Inv X pins σ H3 { s3 with heap:=s3.heap.push { cls:=.type "slice",data:=.fields #[vl,vu,.none] } }:=I3.kept (t':=s3.toks) fun b ob q=>Qe _ q
 obtain⟨T,id,hT,ht,hg⟩:=hr pins { s3 with heap:=s3.heap.push { cls:=.type "slice",data:=.fields #[vl,vu,.none] } } σ H3 x v vl vu l u s3.heap.objs.size Q I4 r1 (Heap.IsSliceOf.new ..) pl pu q3;show wpAny (model X.prog X.w) X.A (subscriptTail e (.Slice lo hi none p2) v (.ref s3.heap.objs.size)) (EP X pins σ Q) X.xe { s3 with heap:=s3.heap.push { cls:=.type "slice",data:=.fields #[vl,vu,.none] } };exact tail_any (ops:=[.ref s3.heap.objs.size,v]) ht hT hg (by with_unfolding_all rfl)

noncomputable def JaA(xs:List V)(lo hi:Option Int):List V:=(xs.drop (HT.sIx xs.length 0 lo)).take (HT.sIx xs.length xs.length hi-HT.sIx xs.length 0 lo)
theorem W8(xs:List V)(lo hi:Option Int):(JaA xs lo hi).length<=xs.length:=by unfold JaA;rw[KD,LI];omega
noncomputable def JpP(K:Frag):V->Option Int->Option Int->Hp->VK->Prop:=fun x lo hi H Q=>∃a xs,x=.ref a/\SqT K H a xs ∧
 ¬(HT.sIx xs.length 0 lo=0/\HT.sIx xs.length xs.length hi=xs.length)/\∀p,H p=none->Q (.ref p) (upd H p (.tup (JaA xs lo hi)))
theorem sl_tup:SlR X (JpP X.K):=by
 intro pins s σ H x v vl vu lo hi sl Q I rx hs pl pu h;obtain⟨a,xs,rfl,hx,hw,q⟩:=h;cases rx;obtain⟨its,r,ht,hz⟩:=I.tuple hx;have hlen:its.toArray.size=xs.length:=by rw[Qm];exact r.length.symm
 refine⟨"tuple",_,Q2.lookup,ht.typeIs,?_⟩;refine HT.Wt ht hs pl pu (by rw[hlen];exact hw) ?_ (by rw[hlen];exact hz);rw[hlen];refine⟨.ref s.heap.objs.size,_,I.laid (t':=s.toks) (o:=.tup (JaA xs lo hi)) (fun b ob q=>Qe _ q) (Qn _) ?_,rfl,q _ (I.hok.fresh (Qn _))⟩;exact⟨QR (W8 xs lo hi) hz,_,(r.drop (HT.sIx xs.length 0 lo)).take (HT.sIx xs.length xs.length hi-HT.sIx xs.length 0 lo),IsTup.new _ _⟩

noncomputable def Jl6(K:Frag):R2:=fun x y H Q=>∃a b xs ys,x=.ref a/\y=.ref b/\SqT K H a xs/\SqT K H b ys/\xs≠[]/\xs.length+ys.length<=sizeLine ∧
 (ys=[]->Q (.ref a) H)/\(ys≠[]->∀p,H p=none->Q (.ref p) (upd H p (.tup (xs++ys))))
theorem Vals.nil_iff{xs:List V}{us:List Value}(r:Vals xs us):us=[]↔xs=[]:=by
 cases r with
 | nil=>simp
 | cons _ _=>simp
theorem JkJ:OpR X (binaryOp .Add) (Jl6 X.K):=by
 intro pins s σ H x y v u Q I rx ry h;obtain⟨a,b,xs,ys,rfl,rfl,ha,hb,hx,hz,q1,q2⟩:=h;cases rx;cases ry;obtain⟨its,r1,p1,_⟩:=I.tuple ha;obtain⟨its2,r2,p2,_⟩:=I.tuple hb;refine HT.JjC p1 p2 (fun z=>hx (r1.nil_iff.mp z)) (fun z=>⟨.ref a,H,I,rfl,q1 (r2.nil_iff.mp z)⟩) (fun z=>?_) (by rw[<- r1.length,<- r2.length];exact hz);refine⟨.ref s.heap.objs.size,_,I.laid (t':=s.toks) (o:=.tup (xs++ys)) (fun b ob q=>Qe _ q) (Qn _) ?_,rfl,q2 (fun w=>z (r2.nil_iff.mpr w)) _ (I.hok.fresh (Qn _))⟩
 exact⟨by rw[Qy];exact hz,_,r1.append r2,IsTup.new _ _⟩
end
end L2

namespace L2
open PySem PySem.Spec PyProof.Rows

noncomputable def ixN(n:Nat)(i:Int):Option Nat:=if 0<=i then(if i<n then some i.toNat else none) else if -(n:Int)<=i then some (i+n).toNat else none
noncomputable def atI{α:Type}(xs:List α)(i:Int):Option α:=(ixN xs.length i).bind fun j=>xs[j]?
theorem Jkh{n:Nat}{i:Int}{j:Nat}(h:ixN n i=some j):seqIndex? i n=some j/\j<n/\-(n:Int)<=i/\i<n:=by
 unfold ixN at h
 by_cases h0:0<=i
 ·rw[if_pos h0] at h
  by_cases h1:i<n
  ·rw[if_pos h1] at h;have e:i.toNat=j:=Qz h;exact⟨by rw[seqIndex_of h0 h1,e],by omega,by omega,h1⟩
  ·rw[if_neg h1] at h;cases h
 ·rw[if_neg h0] at h
  by_cases h1:-(n:Int)<=i
  ·rw[if_pos h1] at h;have e:(i+n).toNat=j:=Qz h;exact⟨by rw[seqIndex_neg (by omega) h1,e],by omega,h1,by omega⟩
  ·rw[if_neg h1] at h;cases h
theorem Jbm{α:Type}{xs:List α}{i:Int}{v:α}(h:atI xs i=some v):∃j,seqIndex? i xs.length=some j/\xs[j]?=some v/\j<xs.length/\-(xs.length:Int)<=i/\i<xs.length:=by
 unfold atI at h
 cases e:ixN xs.length i with
 | none=>rw[e] at h;cases h
 | some j=>rw[e] at h;obtain⟨h1,h2,h3,h4⟩:=Jkh e;exact⟨j,h1,h,h2,h3,h4⟩
noncomputable def Jet(b:Expr):Prop:=∀o i,subscripted b false o i=operate [o,i] (getItem o i)
noncomputable def IxR(X:Cx)(r:R2):Prop :=
 ∀(value slice:Expr) (pins:List (Addr×Obj)) (s:Shared) (σ:St) (H:Hp) (x y:V) (v u:Value) (Q:VK),Inv X pins σ H s->RelV x v->RelV y u->r x y H Q ->
  subscripted slice false v u=operate [v,u] (getItem v u)->wpAny (model X.prog X.w) X.A (subscriptTail value slice v u) (EP X pins σ Q) X.xe s
noncomputable def MtR(X:Cx)(id:String)(r:V->List V->Hp->VK->Prop):Prop :=
 ∀(pins:List (Addr×Obj)) (s:Shared) (σ:St) (H:Hp) (x:V) (xs:List V) (v:Value) (us:List Value) (Q:VK),Inv X pins σ H s->RelV x v->Vals xs us->r x xs H Q ->
  wpAny (model X.prog X.w) X.A (call (.builtin id) (v::us)) (EP X pins σ Q) X.xe s
section
variable{X:Cx}{a b:Expr}{ta tb:TE}{pos:Pos}
theorem IxR.or{r r':R2}(h:IxR X r)(h':IxR X r'):IxR X (fun x y H Q=>r x y H Q\/r' x y H Q):=by
 intro value slice pins s σ H x y v u Q I rx ry q hs;rcases q with q|q
 ·exact h value slice pins s σ H x y v u Q I rx ry q hs
 ·exact h' value slice pins s σ H x y v u Q I rx ry q hs
theorem MtR.or{id:String}{r r':V->List V->Hp->VK->Prop}(h:MtR X id r)(h':MtR X id r'):MtR X id (fun x xs H Q=>r x xs H Q\/r' x xs H Q):=by
 intro pins s σ H x xs v us Q I rx rs q;rcases q with q|q
 ·exact h pins s σ H x xs v us Q I rx rs q
 ·exact h' pins s σ H x xs v us Q I rx rs q
theorem JpE{r:R2}(hr:IxR X r)(ha:PE X a ta)(hb:PE X b tb)(hs:Jet b):PE X (.Subscript a b pos) (tOp r ta tb):=by intro pins s σ H Q I h;exact Subscript_ (Jmr ha hb I h fun v u s2 x y H2 I2 rx ry q=>hr a b pins s2 σ H2 x y v u Q I2 rx ry q (hs _ _))

noncomputable def JpI(K:Frag):R2:=fun x y H Q=>∃p xs i v,x=.ref p/\y=.int i/\SqL K H p xs/\atI xs i=some v/\Q v H
noncomputable def JpK(K:Frag):R2:=fun x y H Q=>∃p xs i v,x=.ref p/\y=.int i/\SqT K H p xs/\atI xs i=some v/\Q v H
noncomputable def JpJ:R2:=fun x y H Q=>∃z i c,x=.str z/\y=.int i/\z.length<=sizeLine/\atI z.cps.toList i=some c/\Q (.str ⟨#[c]⟩) H
theorem ix_list:IxR X (JpI X.K):=by
 intro value slice pins s σ H x y v u Q I rx ry h hs;obtain⟨p,xs,i,z,rfl,rfl,hq,he,q⟩:=h;cases rx;obtain⟨t,rfl⟩:=ry;obtain⟨its,r,pl,hz⟩:=I.list hq;obtain⟨j,h1,h2,h3,h4,h5⟩:=Jbm he;obtain⟨w,ew,rw'⟩:=r.get h2;have hl:=r.length;have hn:=ZW;have fin:EP X pins σ Q w s:=⟨z,H,I,rw',q⟩
 by_cases h0:0<=i
 ·have hj:i.toNat=j:=by rw[seqIndex_of h0 h5] at h1;exact Qz h1
  exact item_listR pl.isList h0 (by omega) (by rw[hj];simpa using ew) fin hs
 ·have hj:(i+(its.toArray.size:Int)).toNat=j:=by rw[seqIndex_neg (by omega) h4] at h1;rw[Qm,<- hl];exact Qz h1
  exact subscriptTail_builtinR (x:=w) pl.isList.typeIs slot_list_getitem.lookup
   (wpAny_getItem_list_neg (Q:=fun r s'=>r=w/\EP X pins σ Q r s') pl.isList (by omega) (by rw[Qm] <;> omega) (by omega) (by rw[hj];simpa using ew) ⟨rfl,fin⟩) hs
theorem ix_tup:IxR X (JpK X.K):=by
 intro value slice pins s σ H x y v u Q I rx ry h hs;obtain⟨p,xs,i,z,rfl,rfl,hq,he,q⟩:=h;cases rx;obtain⟨t,rfl⟩:=ry;obtain⟨its,r,pl,hz⟩:=I.tuple hq;obtain⟨j,h1,h2,h3,h4,h5⟩:=Jbm he;obtain⟨w,ew,rw'⟩:=r.get h2;have hl:=r.length;have hn:=ZW;have fin:EP X pins σ Q w s:=⟨z,H,I,rw',q⟩
 exact subscriptTail_builtinR (x:=w) pl.typeIs slot_tuple_getitem.lookup
  (getItem_tuple (j:=j) (Q:=fun r s'=>r=w/\EP X pins σ Q r s') pl (by omega) (by omega) (by rw[Qm,<- hl];exact h1) (by simpa using ew) ⟨rfl,fin⟩) hs
theorem Jm1:IxR X JpJ:=by
 intro value slice pins s σ H x y v u Q I rx ry h hs;obtain⟨z,i,c,rfl,rfl,hz,he,q⟩:=h;obtain⟨t,rfl⟩:=rx;obtain⟨t',rfl⟩:=ry;obtain⟨j,h1,h2,h3,h4,h5⟩:=Jbm he;have hl:z.cps.toList.length=z.length:=by simp[Str.length]
 rw[hl] at h1 h4 h5;have hn:=ZW;exact tail_any (typeIs_str s z t) slot_str_getitem.lookup (getItem_str (c:=c) (by
  have e1:decide (i < -(2 ^ 63:Int))=false:=decide_eq_false (by omega)
  have e2:decide (i ≥ 2 ^ 63)=false:=decide_eq_false (by omega);rw[e1,e2,Li]) (by rw[h1];simpa using h2) ⟨.str ⟨#[c]⟩,H,I.tok _,⟨_,rfl⟩,q⟩) hs
noncomputable def rIx(K:Frag):R2:=fun x y H Q=>JpI K x y H Q\/JpK K x y H Q\/JpJ x y H Q
theorem Jm0:IxR X (rIx X.K):=ix_list.or (ix_tup.or Jm1)

theorem Inv.lst{pins:List (Addr×Obj)}{σ:St}{H:Hp}{s:Shared}{p:Addr}{xs:List V}(I:Inv X pins σ H s)(h:H p=some (.lst xs)) :
 ∃(its:List Value) (n:Nat),Vals xs its/\s.heap.get? p=some { cls:=.type "list",data:=.seq its.toArray n }/\xs.length<=sizeLine:=by
 obtain⟨z,its,n,r,e⟩:=I.hok p _ h;exact⟨its,n,r,e,z⟩
theorem Jb1(lo hi:Option Int)(n:Nat):(sliceBounds lo hi none n).1=((HT.sIx n 0 lo:Nat):Int)/\(sliceBounds lo hi none n).2.1=((HT.sIx n n hi:Nat):Int)/\(sliceBounds lo hi none n).2.2=1:=by
 refine⟨?_,?_,rfl⟩
 ·cases lo with
  | none=>simp[sliceBounds,HT.sIx]
  | some i =>
   simp only[sliceBounds,HT.sIx,Option.getD_none,show(1:Int)>0 by decide,if_true]
   by_cases h:i<0
   ·simp only[h,if_true] <;> omega
   ·simp only[h,if_false] <;> omega
 ·cases hi with
  | none=>simp[sliceBounds,HT.sIx]
  | some i =>
   simp only[sliceBounds,HT.sIx,Option.getD_none,show(1:Int)>0 by decide,if_true]
   by_cases h:i<0
   ·simp only[h,if_true] <;> omega
   ·simp only[h,if_false] <;> omega
theorem JaH(its:List Value)(lo hi:Option Int):slicePick its.toArray lo hi none=((its.drop (HT.sIx its.length 0 lo)).take (HT.sIx its.length its.length hi-HT.sIx its.length 0 lo)).toArray:=by obtain⟨h1,h2,h3⟩:=Jb1 lo hi its.toArray.size;unfold slicePick;rw[h1,h2,h3];simp only[sliceRange_one,pick_run,Qm] <;> rfl
noncomputable def JpO(K:Frag):V->Option Int->Option Int->Hp->VK->Prop:=fun x lo hi H Q=>∃a xs,x=.ref a/\SqL K H a xs/\∀p,H p=none->Q (.ref p) (upd H p (.lst (JaA xs lo hi)))
theorem sl_list:SlR X (JpO X.K):=by
 intro pins s σ H x v vl vu lo hi sl Q I rx hs pl pu h;obtain⟨a,xs,rfl,hx,q⟩:=h;cases rx;obtain⟨its,r,ht,hz⟩:=I.list hx;have hlen:=r.length;refine⟨"list",_,slot_list_getitem.lookup,ht.isList.typeIs,?_⟩;refine wpAny_getItem_list_slice ht.isList hs pl pu .none (by simp) ?_ (by rw[Qm] <;> omega);rw[JaH,<- hlen];refine⟨.ref s.heap.objs.size,_,I.laid (t':=s.toks) (o:=.lst (JaA xs lo hi)) (fun b ob q=>Qe _ q) (Qn _) ?_,rfl,q _ (I.hok.fresh (Qn _))⟩
 exact⟨QR (W8 xs lo hi) hz,_,0,(r.drop (HT.sIx xs.length 0 lo)).take (HT.sIx xs.length xs.length hi-HT.sIx xs.length 0 lo),Qk _ rfl⟩

theorem CallR.or{f:Value}{r r':List V->Hp->VK->Prop}(h:CallR X f r)(h':CallR X f r'):CallR X f (fun xs H Q=>r xs H Q\/r' xs H Q):=by
 intro pins s σ H xs us Q I rs q;rcases q with q|q
 ·exact h pins s σ H xs us Q I rs q
 ·exact h' pins s σ H xs us Q I rs q
theorem Jbp:CallR X (.type "list") (fun xs H Q=>∃p ys,xs=[.ref p]/\(SqL X.K H p ys\/SqT X.K H p ys)/\∀l,H l=none->Q (.ref l) (upd H l (.lst ys))):=by
 intro pins s σ H xs us Q I r h;obtain⟨p,ys,rfl,hq,q⟩:=h;obtain⟨u,rfl,rx⟩:=WO r;cases rx
 have fin:∀(its:List Value),Vals ys its->ys.length<=sizeLine->∀(h':Heap) (c':Nat),(∀b o',s.heap.get? b=some o'->h'.get? b=some o') ->
  h'.get? s.heap.objs.size=some { cls:=.type "list",dict:=none,data:=.seq its.toArray c',slots:=#[] }->EP X pins σ Q (.ref s.heap.objs.size) { s with heap:=h' }:=fun its r' hz h' c' kp e =>
  ⟨.ref s.heap.objs.size,_,I.laid (t':=s.toks) kp (Qn _) (show ObjOk X.prog X.w _ h' _ (.lst ys) from⟨hz,its,c',r',e⟩),rfl,q _ (I.hok.fresh (Qn _))⟩
 rcases hq with hq|hq
 ·obtain⟨its,r',pl,hz⟩:=I.list hq;have hlen:=r'.length;obtain⟨o,ho,hc,n,hd⟩:=pl.isList;exact call_list_seq p (.inl rfl) ho hc hd (fun h' c' kp e=>fin its r' hz h' c' kp e) (by simp only[Qm] <;> omega)
 ·obtain⟨its,r',pl,hz⟩:=I.tuple hq;have hlen:=r'.length;obtain⟨o,ho,hc,n,hd⟩:=pl;exact call_list_seq p (.inr rfl) ho hc hd (fun h' c' kp e=>fin its r' hz h' c' kp e) (by simp only[Qm] <;> omega)
theorem Jaz:CallR X (.type "tuple") (fun xs H Q=>∃p ys,xs=[.ref p]/\((SqL X.K H p ys/\∀l,H l=none->Q (.ref l) (upd H l (.tup ys)))\/(SqT X.K H p ys/\Q (.ref p) H))):=by
 intro pins s σ H xs us Q I r h;obtain⟨p,ys,rfl,h⟩:=h;obtain⟨u,rfl,rx⟩:=WO r;cases rx;rcases h with ⟨hq,q⟩|⟨hq,q⟩
 ·obtain⟨its,r',pl,hz⟩:=I.list hq;have hlen:=r'.length;refine call_tuple_list pl.isList (fun h' kp=>?_) (by simp only[Qm] <;> omega);have I1:Inv X pins σ H { s with heap:=h' }:=I.kept (t':=s.toks) kp
  have I2:Inv X pins σ (upd H h'.objs.size (.tup ys)) { s with heap:=h'.push { cls:=.type "tuple",data:=.seq its.toArray } } :=
   I1.laid (t':=s.toks) (fun b o e=>Qe _ e) (Qn _) (show ObjOk X.prog X.w _ _ _ (.tup ys) from⟨hz,its,r',IsTup.new _ _⟩)
  exact⟨.ref h'.objs.size,_,I2,rfl,q _ (I1.hok.fresh (Qn _))⟩
 ·obtain⟨its,r',pl,hz⟩:=I.tuple hq;exact call_tuple_same pl ⟨.ref p,H,I,rfl,q⟩

noncomputable def tyV(K:Frag)(T:String)(x:V)(H:Hp):Prop:=match x with
 | .str _=>T="str"
 | .int _=>T="int"
 | .ref p=>(T="list"/\∃xs,SqL K H p xs)\/(T="tuple"/\∃o,K.lookup p=some o/\o.cls=.type "tuple"/\o.dict=none) ∨
  (T="dict"/\((∃kvs,H p=some (.dK kvs))\/∃kvs,H p=some (.dT kvs)))\/(T="set"/\∃S n,H p=some (.set S n))
 | _=>False
theorem Jjc{pins:List (Addr×Obj)}{σ:St}{H:Hp}{s:Shared}{T:String}{x:V}{v:Value}(I:Inv X pins σ H s)(r:RelV x v)(ty:tyV X.K T x H) :
 s.TypeIs v T/\∀a,v=.ref a->∃ob,s.heap.get? a=some ob/\ob.dict=none:=by
 cases x with
 | str z=>obtain⟨t,rfl⟩:=r;cases (show T="str" from ty);exact⟨typeIs_str s z t,fun _ e=>nomatch e⟩
 | int i=>obtain⟨t,rfl⟩:=r;cases (show T="int" from ty);exact⟨typeIs_int s i t,fun _ e=>nomatch e⟩
 | ref p =>
  cases r;rcases ty with ⟨rfl,xs,hq⟩|⟨rfl,o,hk,hc,hd⟩|⟨rfl,hk⟩|⟨rfl,S,n,hk⟩
  ·obtain⟨its,_,pl,_⟩:=I.list hq;refine⟨pl.isList.typeIs,fun a e=>?_⟩;cases e;obtain⟨o,n,e,c,hd,_⟩:=pl;exact⟨o,e,hd⟩
  ·refine⟨⟨o,I.kIn p o hk,hc⟩,fun a e=>?_⟩;cases e;exact⟨o,I.kIn _ o hk,hd⟩
  ·have z:∃o,s.heap.get? p=some o/\o.ExactDict:=by
    rcases hk with ⟨kvs,hk⟩|⟨kvs,hk⟩
    ·obtain⟨_,_,_,_,o,_,_,e,ex,_⟩:=I.hok p _ hk;exact⟨o,e,ex⟩
    ·obtain⟨_,_,_,_,o,_,_,e,ex,_⟩:=I.hok p _ hk;exact⟨o,e,ex⟩
   obtain⟨o,e,ex⟩:=z;refine⟨⟨o,e,ex.1⟩,fun a e2=>?_⟩;cases e2;exact⟨o,e,ex.2.1⟩
  ·obtain⟨o,_,_,_,e,ex,_⟩:=I.hok p _ hk;refine⟨⟨o,e,ex.1⟩,fun a e2=>?_⟩;cases e2;exact⟨o,e,ex.2.1⟩
 | _=>exact Q7 ty
noncomputable def Jox(K:Frag)(T:String)(r:V->List V->Hp->VK->Prop)(to:TE):TE:=fun σ H Q=>to σ H fun x H1=>tyV K T x H1/\r x [] H1 Q
noncomputable def tBM(K:Frag)(T:String)(r:V->List V->Hp->VK->Prop)(to:TE)(t:TA):TE:=fun σ H Q=>to σ H fun x H1=>tyV K T x H1/\t σ H1 fun xs H2=>r x xs H2 Q
variable{o e:Expr}{es:List Expr}{to:TE}{t:TA}{name:Str}{apos cpos:Pos}{T id:String}{r:V->List V->Hp->VK->Prop}
theorem JnG(pa:PlainAttrs T)(slot:Slot T name id)(hty:typeOf (.builtin id)=pure (.type "method_descriptor"))(hm:MtR X id r)(ho:PE X o to)
 (hbase:attributeBase o name X.env (eval o X.env)=eval o X.env:=by rfl) (hline:(apos.endLine == cpos.line)=true:=by rfl):PE X (.Call (.Attribute o name apos) [] [] cpos) (Jox X.K T r to):=by
 intro pins s σ H Q I h;refine wpAny_Call_method0_late hbase hline (thn (ho pins s σ H _ I h) fun v s1 ⟨x,H1,I1,r1,ty,q1⟩=>?_);obtain⟨h1,h2⟩:=Jjc I1 r1 ty;exact⟨T,id,pa,slot,hty,h1,h2,KM rfl (PySem.evalArgs_none (hm pins s1 σ H1 x [] v [] Q I1 r1 .nil q1))⟩
theorem JpD(pa:PlainAttrs T)(slot:Slot T name id)(hty:typeOf (.builtin id)=pure (.type "method_descriptor"))(hm:MtR X id r)(ho:PE X o to)(ha:PA X (e::es) t)
 (hbase:attributeBase o name X.env (eval o X.env)=eval o X.env:=by rfl)
 (hfew:((backTo cpos (starEach (e::es) X.env)).all (fun x=>!x.1) && (backToKw cpos (keywordEach [] X.env)).all (fun x=>x.1.isSome)
  && decide ((e::es).length+([]:List Keyword).length+(if ([]:List Keyword).isEmpty then 0 else 1)<30))=true:=by rfl)
 (hline:(apos.endLine == cpos.line)=true:=by rfl) (hs:starEach (e::es) X.env=(false,eval e X.env)::starEach es X.env:=by rfl) (hplain:(backTo cpos (starEach es X.env)).any (·.1)=false:=by rfl) :
 PE X (.Call (.Attribute o name apos) (e::es) [] cpos) (tBM X.K T r to t):=by
 intro pins s σ H Q I h;refine wpAny_Call_method_late hbase hfew hline rfl (thn (ho pins s σ H _ I h) fun v s1 ⟨x,H1,I1,r1,ty,q1⟩=>?_);obtain⟨h1,h2⟩:=Jjc I1 r1 ty;refine⟨T,id,pa,slot,hty,h1,h2,?_⟩;have hA:=ha cpos pins s1 σ H1 _ I1 q1;rw[hs] at hA ⊢;refine KM (by show(false || (backTo cpos (starEach es X.env)).any (·.1))=false;rw[hplain] <;> rfl) (K6 ?_);exact thn hA fun us s2 ⟨vs,H2,I2,r2,q2⟩=>hm pins s2 σ H2 x vs v us Q I2 r1 r2 q2
/- xs.append(e),list.index on a module's tuple .. are MtR facts of 06m -/
end
end L2

namespace L2
open PySem PySem.Spec PyProof.Rows

noncomputable def MtM(X:Cx)(id:String)(r:V->List V->Hp->VK->Prop):Prop :=
 ∀(pins:List (Addr×Obj)) (s:Shared) (σ:St) (H:Hp) (x:V) (xs:List V) (v:Value) (us:List Value) (Q:VK),Inv X pins σ H s->RelV x v->Vals xs us->r x xs H Q ->
  wpAny (model X.prog X.w) X.A (call (.builtin id) (v::us)) (EP X pins σ Q) X.xe s

theorem Vals.one:∀{x:V} {us:List Value},Vals [x] us->∃u,us=[u]/\RelV x u
 | _,_,.cons r .nil=>⟨_,rfl,r⟩
theorem Vals.two:∀{x y:V} {us:List Value},Vals [x,y] us->∃u v,us=[u,v]/\RelV x u/\RelV y v
 | _,_,_,.cons r (.cons q .nil)=>⟨_,_,rfl,r,q⟩
theorem Vals.zero:∀{us:List Value},Vals [] us->us=[]
 | _,.nil=>rfl
theorem Vals.dropLast{xs:List V}{us:List Value}(h:Vals xs us):Vals xs.dropLast us.dropLast:=by
 induction h with
 | nil=>exact .nil
 | cons r t ih =>
  cases t with
  | nil=>exact .nil
  | cons q t'=>exact .cons r ih
theorem Vals.eraseIdx:∀{xs:List V} {us:List Value} (i:Nat),Vals xs us->Vals (xs.eraseIdx i) (us.eraseIdx i)
 | _,_,_,.nil=>.nil
 | _,_,0,.cons _ t=>t
 | _,_,i+1,.cons r t=>.cons r (Vals.eraseIdx i t)
theorem Vals.reverse{xs:List V}{us:List Value}(h:Vals xs us):Vals xs.reverse us.reverse:=by
 induction h with
 | nil=>exact .nil
 | cons r t ih=>rw[GZ,GZ];exact Vals.append ih (.cons r .nil)
theorem Vals.rep{xs:List V}{us:List Value}(h:Vals xs us):∀k:Nat,Vals (Qw k xs).flatten (Qw k us).flatten
 | 0=>.nil
 | k+1=>by rw[GD,GD,G1,G1];exact Vals.append h (Vals.rep h k)
theorem JaY(its:List Value):∀(k:Nat) (acc:List Value),
 List.foldl (fun x1 x2=>x1++x2) acc.toArray (Qw k its.toArray)=(acc++(Qw k its).flatten).toArray
 | 0,acc=>by simp
 | k+1,acc=>by
  have e:acc.toArray++its.toArray=(acc++its).toArray:=by simp
  have e2:(acc++its)++(Qw k its).flatten=acc++(Qw (k+1) its).flatten:=by rw[GD,G1,G2]
  rw[<- e2,<- JaY its k (acc++its),<- e,GD,Gz]

section
variable{X:Cx}{pins:List (Addr×Obj)}{σ:St}{H:Hp}{s:Shared}{l b:Addr}{xs ys zs:List V}

theorem Inv.lset{its its':List Value}{n:Nat}{f:Array Value->Array Value}{t':Nat}(I:Inv X pins σ H s)(hH:H l=some (.lst xs))
 (e:s.heap.get? l=some { cls:=.type "list",data:=.seq its.toArray n }) (hf:f its.toArray=its'.toArray) (hv:Vals ys its') (hz:ys.length<=sizeLine) :
 Inv X pins σ (upd H l (.lst ys)) { s with heap:=s.heap.update l (K7 f),toks:=t' }:=by
 have q:=PySem.IsL.update e f;rw[hf] at q;refine I.write (x:=l) (e:=l) (by rw[hH];exact trivial) (.inl rfl) (fun b' u hb hu=>(QM s.heap (K7 f) (QC hb)).trans hu) ⟨_,q⟩ ?_;exact⟨hz,its',_,hv,q⟩
theorem Inv.lnew{its:List Value}{t':Nat}(I:Inv X pins σ H s)(hv:Vals ys its)(hz:ys.length<=sizeLine) :
 Inv X pins σ (upd H s.heap.objs.size (.lst ys)) { s with heap:=s.heap.push { cls:=.type "list",data:=.seq its.toArray },toks:=t' } :=
 I.laid (fun _ _ q=>Qe _ q) (Qn _) ⟨hz,its,0,hv,Qk _ rfl⟩
theorem Inv.fresh(I:Inv X pins σ H s):H s.heap.objs.size=none:=I.hok.fresh (Qn _)
theorem Inv.lstM(I:Inv X pins σ H s)(hH:H l=some (.lst xs)):xs.length<=sizeLine/\∃(its:List Value) (n:Nat),Vals xs its/\xs.length=its.length/\s.heap.get? l=some { cls:=.type "list",data:=.seq its.toArray n }:=by obtain⟨z,its,n,r,e⟩:=I.hok l _ hH;exact⟨z,its,n,r,r.length,e⟩

theorem JcM{n:Nat}(h:n<=sizeLine):Kw n=false:=by unfold Kw;exact decide_eq_false (by omega)
end

section
variable{X:Cx}

noncomputable def WE:V->List V->Hp->VK->Prop:=fun x vs H Q=>∃l xs y,x=.ref l/\vs=[y]/\H l=some (.lst xs)/\xs.length<sizeLine/\Q .non (upd H l (.lst (xs++[y])))
theorem VR:MtM X "list.append" WE:=by intro pins s σ H x vs v us Q I rx rv h;obtain⟨l,xs,y,rfl,rfl,hH,hz,q⟩:=h;cases rx;obtain⟨u,rfl,ru⟩:=rv.one;obtain⟨z,its,n,r,hl,e⟩:=I.lstM hH;refine call_meets F.slot_list_append ⟨_,e,rfl⟩ F.entry_list_append (F.args_list_append_2 _ _) (PySem.list_append l its.toArray n u (by rw[Qm];omega)) ⟨e,?_⟩;refine⟨.non,_,I.lset (its':=its++[u]) hH e (by simp) (r.append (.cons ru .nil)) ?_,rfl,q⟩;rw[Qy,GH];omega

noncomputable def Jfy:V->List V->Hp->VK->Prop:=fun x vs H Q=>∃l b xs zs,x=.ref l/\vs=[.ref b]/\H l=some (.lst xs)/\H b=some (.lst zs)/\xs.length+zs.length<=sizeLine/\Q .non (upd H l (.lst (xs++zs)))
theorem Ja7:MtM X "list.extend" Jfy:=by
 intro pins s σ H x vs v us Q I rx rv h;obtain⟨l,b,xs,zs,rfl,rfl,hH,hB,hz,q⟩:=h;cases rx;obtain⟨u,rfl,ru⟩:=rv.one;cases ru;obtain⟨z,its,n,r,hl,e⟩:=I.lstM hH;obtain⟨z2,its2,n2,r2,hl2,e2⟩:=I.lstM hB;have hsz:its.toArray.size+its2.toArray.size<=sizeLine:=by rw[Qm,Qm];omega
 have hlong:¬(!its.toArray.isEmpty && Kw (its.toArray.size+its2.toArray.size))=true:=by rw[JcM hsz,Rb];exact Qp
 refine call_meets F.slot_list_extend ⟨_,e,rfl⟩ F.entry_list_extend (F.args_list_extend_2 _ _)
  (AutoSeq1.list_extend_list_list_0 l its.toArray n b its2.toArray n2 hlong (by rw[Qm];omega) (by omega)) ⟨e,e2,?_⟩
 refine⟨.non,_,I.lset (its':=its++its2) hH e (by simp) (r.append r2) ?_,rfl,q⟩;rw[Qy];omega

noncomputable def Jc4:V->List V->Hp->VK->Prop:=fun x vs H Q=>∃l xs,x=.ref l/\vs=[]/\H l=some (.lst xs)/\Q .non (upd H l (.lst xs.reverse))
theorem Jd2:MtM X "list.reverse" Jc4:=by intro pins s σ H x vs v us Q I rx rv h;obtain⟨l,xs,rfl,rfl,hH,q⟩:=h;cases rx;have hus:=rv.zero;subst hus;obtain⟨z,its,n,r,hl,e⟩:=I.lstM hH;refine call_meets F.slot_list_reverse ⟨_,e,rfl⟩ F.entry_list_reverse (F.args_list_reverse_1 _) (AutoSeq1.list_reverse_list_0 l its.toArray n (by rw[Qm];omega)) ⟨e,?_⟩;refine⟨.non,_,I.lset (its':=its.reverse) hH e (by simp) r.reverse ?_,rfl,q⟩;rw[KA];omega

noncomputable def JpG:R2:=fun x y H Q=>∃l b xs zs,x=.ref l/\y=.ref b/\H l=some (.lst xs)/\H b=some (.lst zs)/\xs.length+zs.length<=sizeLine/\∀p,H p=none->Q (.ref p) (upd H p (.lst (xs++zs)))
theorem Jnu:OpR X (binaryOp .Add) JpG:=by
 intro pins s σ H x y v u Q I rx ry h;obtain⟨l,b,xs,zs,rfl,rfl,hH,hB,hz,q⟩:=h;cases rx;cases ry;obtain⟨z,its,n,r,hl,e⟩:=I.lstM hH;obtain⟨z2,its2,n2,r2,hl2,e2⟩:=I.lstM hB;refine PySem.P.add_list e e2 ?_ (by rw[Qm,Qm];omega);have ea:its.toArray++its2.toArray=(its++its2).toArray:=by simp
 rw[ea];exact⟨.ref _,_,I.lnew (t':=s.toks) (r.append r2) (by rw[Qy];omega),rfl,q _ I.fresh⟩
noncomputable def JpN:R2:=fun x y H Q=>∃l k xs,x=.ref l/\y=.int k/\H l=some (.lst xs)/\-(2 ^ 63)<=k/\k<2 ^ 63/\xs.length*k.toNat<=sizeLine ∧
 ∀p,H p=none->Q (.ref p) (upd H p (.lst (Qw k.toNat xs).flatten))
theorem Jkm{α:Type}(xs:List α)(k:Nat):(Qw k xs).flatten.length=k*xs.length:=by
 induction k with
 | zero=>simp
 | succ k ih=>rw[GD,G1,Qy,ih,Nat.succ_mul,Nat.add_comm]
theorem JnB:OpR X (binaryOp .Mult) JpN:=by
 intro pins s σ H x y v u Q I rx ry h;obtain⟨l,k,xs,rfl,rfl,hH,h1,h2,hz,q⟩:=h;cases rx;obtain⟨t,rfl⟩:=ry;obtain⟨z,its,n,r,hl,e⟩:=I.lstM hH;have hlen:its.toArray.size*k.toNat<=sizeLine:=by rw[Qm,<- hl];exact hz
 have hcap:¬its.toArray.size*k.toNat>(2 ^ 63-1) / 8:=by
  have:(sizeLine:Nat)<=(2 ^ 63-1) / 8:=by decide
  omega
 have hfit:¬(!Builtin.List.listFitsIndex k)=true:=by rw[fitsIndex_both h1 h2];exact Qp
 have hlong:¬Kw (its.toArray.size*k.toNat)=true:=by rw[JcM hlen];exact Qp
 have hnew:List.foldl (fun x1 x2=>x1++x2) #[] (Qw (if its.toArray.isEmpty=true then 0 else k.toNat) its.toArray)=(Qw k.toNat its).flatten.toArray:=by
  have f0:∀m:Nat,List.foldl (fun x1 x2=>x1++x2) #[] (Qw m its.toArray)=(Qw m its).flatten.toArray:=fun m=>by have:=JaY its m [];rw[Lk] at this;exact this
  rw[f0]
  cases its with
  | nil=>simp
  | cons a r'=>rw[if_neg (by simp)]
 refine wpAny_binaryOp_repeat_ref (T:="list") (U:="int") (by decide) ⟨_,e,rfl⟩ (fun s'=>typeIs_int s' k t) noFill_list_mul F.fills_int_mul F.slot_int_rmul repeat_list F.slot_int_index.lookup
  (call_meets F.slot_int_rmul (typeIs_int s k t) F.entry_int_rmul (F.args_int_rmul_2 _ _) (int___rmul___int_list k t l its.toArray n)
   ⟨e,rfl,⟨_,e,rfl⟩,call_meets F.slot_list_mul ⟨_,e,rfl⟩ F.entry_list_mul (F.args_list_mul_2 _ _) (AutoListH.list___mul___list_int_3 l its.toArray n k t hfit hcap hlong) ⟨e,?_⟩⟩)
 rw[hnew];exact⟨.ref _,_,I.lnew (t':=s.toks) (r.rep k.toNat) (by rw[Jkm,Nat.mul_comm];exact hz),rfl,q _ I.fresh⟩

end

section
variable{prog:Program}{w:World}{A:Around}{E:Value->Shared->Prop}{s:Shared}
end

section
variable{X:Cx}
end
end L2

namespace Att
open PySem PySem.W PySem.Calls PyProof.Rows

theorem Zj{P:Params}{h:Heap}:∀(ns:List Int) (vs:List Value),WellAll P h vs (ns.map WData.int)->IntsAre vs ns:=by
 intro ns
 induction ns with
 | nil=>intro vs w;rw[Kp] at w;cases w;exact .nil
 | cons n ns ih =>
  intro vs w;rw[Qi] at w
  cases w with
  | cons a b=>cases a;exact .cons _ _ (ih _ b)

theorem JgK{l:OpenLaw}{n:Nat}(hn:l.most=some n){P:Params}{h:Heap}{args:List WData}{vals:List Value}
 (hpre:l.row.toRowW.claim.pre args=true) (hwl:WellAll P h vals args) :
 ∃a vs ns,vals=[Value.ref a]/\args=[WData.list (ns.map WData.int)]/\h.get? a=some { cls:=.type "list",data:=.seq vs.toArray }/\IntsAre vs ns/\ns.length<=n:=by
 have hsh:WShape.hasAll [] args [.list .int]=true:=(pre_splitW hpre).1
 have hc:l.pre.holds [] { args:=args }=true:=(pre_splitW hpre).2;obtain⟨d,r,rfl,h1,h2⟩:=hasAllW_cons hsh;obtain rfl:=hasAllW_nil h2;obtain⟨xs,rfl,h3⟩:=hasW_list h1;obtain⟨ns,rfl⟩:=items_int h3
 have hlen:ns.length<=n:=by
  unfold OpenLaw.pre at hc
  have h4:(WTm.not (.lt (.lit (.int (n:Int))) (.len (.arg 0)))).holds [] { args:=[.list (ns.map .int)] }=true:=by have h4:=(holds_andW hc).1;rw[hn] at h4;exact h4
  have h5:=condW_of h4 (w_not (w_lt w_lit (w_len_list (w_arg rfl))));rw[Qo] at h5;refine Nat.le_of_not_lt fun q=>?_
  have q':(n:Int)<((ns.length:Nat):Int):=by omega
  first
   | (rw[decide_eq_true q'] at h5;exact absurd h5 (by decide))
   | (simp at h5;omega)
 cases hwl with
 | cons w1 w2 =>
  cases w2
  cases w1 with
  | list ho hall=>exact⟨_,_,ns,rfl,rfl,ho,Zj ns _ hall,hlen⟩

theorem JgD(l:OpenLaw)(args:List WData):l.row.toRowW.claim.post args (.bool true) args=true :=
 postW_of (r:=l.row.toRowW) (X:=(true == true))
  (show WShape.has [] (.bool true) .bool=true by first|rfl|decide|simp[WShape.has,WShape.arms,WShape.armsAll])
  (show(WTm.eq .res (.lit (.bool true))).value [] { args:=args,res:=some (.bool true),after:=args }=some (.bool (true == true)) from w_eq_bool (w_res rfl) w_lit) rfl

theorem attach_call{l:OpenLaw}{n:Nat}{q:Program}{loose:List Str}{XP:(Str->Option Value)->Heap->Prop}{YP:World->Heap->Prop}{d:DefRec}
 (hn:l.most=some n) (hdf:d.params.defaults=[])
 (call:∀(w:World) (s₀ s₁:Shared) (mg mb:Str->Option Value) (fa:Addr) (o:Obj) (pm cd doc:Value) (a:Addr) (vs:List Value) (ns:List Int),
  Ground q loose [] XP w s₀ mg mb s₁.heap->YP w s₁.heap ->
  s₁.heap.get? fa=some o->o.data=.func (docDef d.name d.params d.body d.scope pm cd doc)->s₁.heap.CodeRec cd d.name->mg d.name=some (.ref fa) ->
  s₁.heap.get? a=some { cls:=.type "list",data:=.seq vs.toArray }->IntsAre vs ns->ns.length<=n->s₁.gens=#[] ->
  codeAny (model l.prog w) callerA (.call (.ref fa) ⟨[.ref a],[]⟩) (fun r s'=>r=.ok (.ret (.bool true))/\OldK s₁.heap s'.heap/\s'.os=s₁.os/\AllBare s'.gens) s₁) :
 WalkO q loose XP YP l.row.toRowW d [] (fun f vs=>PySem.call f vs):=by
 intro w s₀ s₁ mg mb G Y fa o pm cd doc dV kV ho hd hcd hD hmg hg args vals as hpre hlay hrd hwl hlo;obtain rfl:dV=.none:=Dflts.none hD hdf;obtain rfl:kV=.none:=Dflts.noKw hD;obtain⟨a,vs,ns,rfl,rfl,hobj,hints,hlen⟩:=JgK hn hpre hwl;refine enter_call (G8 (call w s₀ s₁ mg mb fa o pm cd doc a vs ns G Y ho (fd_plain hd) hcd hmg hobj hints hlen hg) fun r s' hq=>?_);obtain⟨rfl,h2,h3,h4⟩:=hq;exact⟨.inl ⟨.bool true,.bool true,[],rfl,fun _=>rfl,.bool true,JgD l _,fun _=>⟨List.Pairwise.nil,fun _ hm=>(nomatch hm)⟩⟩,h2,h3,h4⟩

section
variable{prog:Program}{w:World}{A:Around}{E:Value->Shared->Prop}{s:Shared}{K:Frag}

end
end Att

namespace L2
open PySem PySem.Spec PyProof.Rows

theorem Jbh:∀{vs:List Value} {ns:List Int},IntsAre vs ns->Vals (ns.map V.int) vs
 | _,_,.nil=>.nil
 | _,_,.cons n t h=>.cons ⟨t,rfl⟩ (Jbh h)

noncomputable def Jmn(H:Hp):Prop:=∀b,H b=none\/∃o xs,H b=some (.frz o (.lst xs))

theorem JhT{P:Program}{w:World}{K:Frag}{mg mb:Str->Option Value}{CX:CXT}{k:Nat}{fa a:Addr}{fd:FuncData}{x:Str}{sp:Sp}{s₁:Shared}{vs:List Value}{ns:List Int}
 (KX:K.In s₁.heap) (hns:s₁.heap.Ns mainGlobals mg) (hb:s₁.heap.Ns builtinsNs mb) (hbb:∀x:Str,x≠"__name__"->mb x=bootBuiltins x) (hlim:s₁.heap.NoLimit) (hg:s₁.gens=#[])
 (ha:s₁.heap.get? a=some { cls:=.type "list",data:=.seq vs.toArray }) (hi:IntsAre vs ns) (hl:ns.length<=sizeLine) (hr:Room k callerA)
 (F:∀base:Heap,K.In base->base.Ns mainGlobals mg->FnOk P w K mg base CX k fa fd [x] sp) (hbind:∀(s:Shared) (u:Value),BindsTo s fd ⟨[u],[]⟩ [(x,u)])
 (hsp:∀H:Hp,Jmn H->SqL K H a (ns.map V.int)->sp [.ref a] H (fun v _=>v=.bl true) fun _ _ _=>False)
 (hCX:∀H e s',CX [] H s₁ (fun _ _ _=>False) e s'->False) :
 codeAny (model P w) callerA (.call (.ref fa) ⟨[.ref a],[]⟩) (fun r s'=>r=.ok (.ret (.bool true))/\OldK s₁.heap s'.heap/\s'.os=s₁.os/\AllBare s'.gens) s₁:=by
 have rv:=Jbh hi
 have lenV:=hi.length
 -- from an abstract heap in which nothing but the script may be tracked
 have core:∀H:Hp,Jmn H->SqL K H a (ns.map V.int)->HOk P w H s₁.heap->(∀b,H b≠none->b=a)->(H a≠none->K.lookup a=none) ->
  codeAny (model P w) callerA (.call (.ref fa) ⟨[.ref a],[]⟩) (fun r s'=>r=.ok (.ret (.bool true))/\OldK s₁.heap s'.heap/\s'.os=s₁.os/\AllBare s'.gens) s₁:=by
  intro H hO hS hok hA hK;have base_of:∀{b:Addr} {o:Obj},s₁.heap.get? b=some o->H b=none->(JbD s₁.heap H).get? b=some o:=fun e n=>JhI e n
  have noA:∀{b:Addr} {o:Obj} {es:Array DictEntry} {ep:Nat},s₁.heap.get? b=some o->o.data=.dict es ep->H b=none:=fun {b o es ep} e d=>by
   cases q:H b with
   | none=>rfl
   | some u =>
    have e':b=a:=hA b (by rw[q];simp);subst e';rw[ha] at e;cases e
    have d':Data.seq vs.toArray _=Data.dict es ep:=d;cases d'
  have nsK:∀{b:Addr} {m:Str->Option Value},s₁.heap.Ns b m->(JbD s₁.heap H).Ns b m:=fun {b m} ⟨o,es,ep,e,d,r⟩=>⟨o,es,ep,base_of e (noA e d),d,r⟩
  have hKb:K.In (JbD s₁.heap H):=fun b o e=>base_of (KX b o e) (by
   cases q:H b with
   | none=>rfl
   | some u=>have e':b=a:=hA b (by rw[q];simp);subst e';rw[hK (by rw[q];simp)] at e;cases e)
  have hM:Mod K mg (JbD s₁.heap H):=⟨hKb,nsK hns,⟨mb,nsK hb,hbb⟩,let ⟨mc,h1,h2⟩:=hlim;⟨mc,nsK h1,h2⟩⟩
  have e0:Env0 P w K mg (JbD s₁.heap H) callerA [] s₁ H:=⟨rfl,hM,fun b o e=>JkH e,MP (Jge _ _),trivial,fun b hb=>absurd (show b∈([]:List Addr) from hb) (by simp),hok,.of_eq hg⟩
  refine G8 ((F _ hKb (nsK hns)).run callerA [] s₁ H ⟨[.ref a],[]⟩ [.ref a] [.ref a] _ _ hr e0 (hbind s₁ (.ref a)) (.cons rfl .nil) (hsp H hO hS)) fun r s' h=>?_
  cases r with
  | error e=>exact(hCX H e s' h).elim
  | ok fl =>
   cases fl with
   | next=>exact Q7 h
   | brk=>exact Q7 h
   | cont=>exact Q7 h
   | ret u =>
    obtain⟨v,H',os,bare,un,hok',r',q⟩:=h;have q':v=.bl true:=q;subst q';obtain rfl:u=Value.bool true:=r';refine⟨rfl,OldK.of_keep fun b o e=>?_,os,bare⟩
    cases q:H b with
    | none=>exact un.keep b o e q (by intro z;exact absurd (show b∈([]:List Addr) from z) (by simp)) (by simp)
    | some u =>
     rcases hO b with z|⟨ob,xs,z⟩
     ·rw[q] at z;cases z
     ·have z2:=un.frzs b ob _ z;obtain⟨e1,_⟩:=hok b _ z;obtain⟨e2,_⟩:=hok' b _ z2;rw[e] at e1;cases e1;exact e2
 cases hk:K.lookup a with
 | some o =>
  -- the script is one of the module's own objects
  have e:=KX a o hk;rw[ha] at e;cases e;refine core (fun _=>none) (fun _=>.inl rfl) (.inr ⟨_,vs.toArray,_,hk,rfl,rfl,rfl,by rw[Qm,lenV];exact hl,by simpa using rv⟩) (fun b u z=>by have z':(none:Option HO)=some u:=z;cases z') (fun b z=>absurd rfl z) fun z=>absurd rfl z
 | none =>
  refine core (fun b=>if b=a then some (.frz { cls:=.type "list",data:=.seq vs.toArray } (.lst (ns.map V.int))) else none) (fun b=>?_) (.inl (.inr ⟨{ cls:=.type "list",data:=.seq vs.toArray },if_pos rfl⟩)) (fun b u z=>?_) (fun b z=>?_) fun _=>hk
  ·by_cases hb:b=a
   ·exact .inr ⟨_,_,if_pos hb⟩
   ·exact .inl (if_neg hb)
  ·by_cases hb:b=a
   ·have z':=(if_pos hb).symm.trans z;cases z';subst hb;exact⟨ha,by rw[Qo];exact hl,vs,_,rv,ha⟩
   ·have z':=(if_neg hb).symm.trans z;cases z'
  ·by_cases hb:b=a
   ·exact hb
   ·exact absurd (if_neg hb) z
end L2

namespace L2
open PySem PySem.Spec PyProof.Rows

theorem JlI{l:PySem.W.OpenLaw}{n k:Nat}{q:Program}{loose:List Str}{XP:(Str->Option Value)->Heap->Prop}{YP:World->Heap->Prop}{d:DefRec}{K:Params->Frag}{CX:World->CXT}{sp:World->Sp}{x:Str}
 (hn:l.most=some n) (hn2:n<=sizeLine) (hdf:d.params.defaults=[]) (hr:Room k callerA)
 (hY:∀(w:World) (h:Heap),YP w h->(K w.params).In h)
 (F:∀(w:World) (mg:Str->Option Value) (fa:Addr) (h:Heap),(K w.params).In h->h.Ns mainGlobals mg->mg d.name=some (.ref fa) ->
  ∃fd:FuncData,(∀(s:Shared) (u:Value),BindsTo s fd ⟨[u],[]⟩ [(x,u)]) ∧
   ∀base:Heap,(K w.params).In base->base.Ns mainGlobals mg->FnOk l.prog w (K w.params) mg base (CX w) k fa fd [x] (sp w))
 (hsp:∀(w:World) (H:Hp) (a:Addr) (ns:List Int),ns.length<=n->Jmn H->SqL (K w.params) H a (ns.map V.int)->sp w [.ref a] H (fun v _=>v=.bl true) fun _ _ _=>False)
 (hCX:∀(w:World) (H:Hp) (s:Shared) (e:Value) (s':Shared),CX w [] H s (fun _ _ _=>False) e s'->False) :
 PySem.W.WalkO q loose XP YP l.row.toRowW d [] (fun f vs=>PySem.call f vs):=by
 refine Att.attach_call hn hdf fun w s₀ s₁ mg mb fa o pm cd doc a vs ns G Y ho hd hcd hmg hobj hints hlen hg=>?_
 have KX:=hY w _ Y;obtain⟨fd,hb,hF⟩:=F w mg fa _ KX G.T.g hmg;exact JhT KX G.T.g G.T.b G.T.builtins G.T.nolimit hg hobj hints (QR hlen hn2) hr hF hb (fun H hO hS=>hsp w H a ns hlen hO hS) fun H e s'=>hCX w H s₁ e s'
end L2

namespace L2
open PySem PySem.Spec PyProof.Rows

noncomputable def Jkd(s:Stmt)(j:Nat):Stmt:=match s with
 | .ClassDef _ _ _ body _ _ _ _ _ _ _=>body.getD j (.Pass ⟨0,0,0,0⟩)
 | _=>.Pass ⟨0,0,0,0⟩
noncomputable def Up(s:Stmt):Arguments:=match s with
 | .FunctionDef _ a _ _ _ _ _ _ _ _=>a
 | _=>{ posonlyargs:=[],args:=[],vararg:=none,kwonlyargs:=[],kw_defaults:=[],kwarg:=none,defaults:=[] }
noncomputable def YF(s:Stmt):List Stmt:=match s with
 | .FunctionDef _ _ b _ _ _ _ _ _ _=>b
 | _=>[]
noncomputable def Jj(s:Stmt):Scope:=match s with
 | .FunctionDef _ _ _ _ _ _ sc _ _ _=>sc
 | _=>{ kind:=.function,names:=[],isGenerator:=false,isCoroutine:=false }

noncomputable abbrev CX0:CXT:=fun _ _ _ _ _ _=>False
noncomputable abbrev E0:XK:=fun _ _ _=>False
theorem Jl3{X:Cx}:Vo CX0 X E0:=fun _ _ _ _ _ _ _ h=>h.elim

structure Fun (K:Frag) (x qual:Str) (st:Stmt) (f:Addr) (fd:FuncData):Prop where
 ex:∃(oc:Value) (od:Option Addr) (kV doc pm:Value) (an:Option Addr) (cdv ct:Value) (osl:Array (Option Value)),
  fd=fnOf x qual (Up st) (YF st) (Jj st) .none kV doc pm an cdv ct/\K.lookup f=some ⟨oc,od,.func fd,osl⟩/\codeIn K cdv qual=true
 kp:keepIn K (.ref f)=true
section
variable{P:Program}{w:World}{K:Frag}{mg:Str->Option Value}{base:Heap}
theorem Fun.ok{x qual:Str}{st:Stmt}{f:Addr}{fd:FuncData}{N ps:List Str}{k:Nat}{sp:Sp}(F:Fun K x qual st f fd)(S:FnScope N ps (Jj st))(len:∀vs H Q E,sp vs H Q E->vs.length=ps.length)
 (hbody:∀(cdv:Value) (A:Around) (outer:List Env) (s:Shared) (H:Hp) (vs:List V) (Q:VK) (E:XK),Room k (A.deeper (envOfC qual (Jj st) s.heap.objs.size f cdv))->sp vs H Q E ->
  ∃t,PSs (Zh CX0 P w K mg base N qual (Jj st) f cdv A outer s H E).nox (YF st) t/\t { nx:=fun _ H'=>Q .non H',rt:=Q } (YK N vs) H):FnOk P w K mg base CX0 (k+1) f fd ps sp:=by
 obtain⟨oc,od,kV,doc,pm,an,cdv,ct,osl,rfl,lk,hcd⟩:=F.ex;refine JlV lk hcd S len fun A outer s H vs Q E hr hsp=>?_
 obtain⟨t,h,q⟩:=hbody cdv A outer s H vs Q E hr hsp;exact⟨t,h.nox,q⟩
theorem Fun.binds{x qual:Str}{st:Stmt}{f:Addr}{fd:FuncData}{ps:List Str}(F:Fun K x qual st f fd)
 (h:∀(kV doc pm:Value) (an:Option Addr) (cdv ct:Value) (us:List Value),us.length=ps.length->bindArgs (fnOf x qual (Up st) (YF st) (Jj st) .none kV doc pm an cdv ct) ⟨us,[]⟩=pure (ps.zip us)):Binds K fd ps []:=by
 obtain⟨oc,od,kV,doc,pm,an,cdv,ct,osl,rfl,lk,hcd⟩:=F.ex;exact .all (h kV doc pm an cdv ct)
theorem JhF{x qual:Str}{st:Stmt}{f:Addr}{oc:Value}{od an:Option Addr}{osl:Array (Option Value)}{kV doc pm cdv ct:Value}(l:K.lookup f=some ⟨oc,od,.func (fnOf x qual (Up st) (YF st) (Jj st) .none kV doc pm an cdv ct),osl⟩)
 (c:codeIn K cdv qual=true) (k:keepIn K (.ref f)=true):Fun K x qual st f (fnOf x qual (Up st) (YF st) (Jj st) .none kV doc pm an cdv ct):=⟨⟨oc,od,kV,doc,pm,an,cdv,ct,osl,rfl,l,c⟩,k⟩
end
theorem Je4{A:Around}{k:Nat}(hr:Room k A):A.units+1<cLine:=GO (Nat.add_le_add_left (by decide:1<=64) _) hr.units
theorem JgL{n:Nat}(h:n<=1000):n<sizeLine:=GO h (by decide)

section
variable{X:Cx}
theorem pv(i:Nat){x:Str}{pos:Pos}(hN:X.N[i]?=some x:=by rfl)(hv:Vis X.env.scope x:=by first | exact Or.inl rfl | exact Or.inr (.inl rfl) | exact Or.inr (.inr rfl))(hd:(x == ("__debug__":Str))=false:=by decide)
 (hcd:(x == ("__classdict__":Str))=false:=by decide):PE X (.Name x pos) (Zl i):=JnK hN hv hd hcd
end

noncomputable def Same(H H':Hp):Prop:=∀b o,H b=some o->H' b=some o
theorem Same.refl(H:Hp):Same H H:=fun _ _ h=>h
theorem Same.trans{H H1 H2:Hp}(a:Same H H1)(b:Same H1 H2):Same H H2:=fun c o h=>b c o (a c o h)
theorem Same.free{H H':Hp}(e:Same H H'){l:Addr}(h:H' l=Option.none):H l=Option.none:=by
 cases q:H l with
 | none=>rfl
 | some o=>rw[e l o q] at h;cases h
theorem Same.seq{K:Frag}{H H':Hp}{a:Addr}{xs:List V}(e:Same H H')(h:SqL K H a xs):SqL K H' a xs:=by
 rcases h with (h|⟨o,h⟩)|h
 ·exact .inl (.inl (e _ _ h))
 ·exact .inl (.inr ⟨o,e _ _ h⟩)
 ·exact .inr h

end L2

namespace L2
open PySem PySem.Spec PyProof.Rows

section
variable{κ:Type}[DecidableEq κ]
noncomputable def UG(kvs:List (κ×V))(k:κ):Option V:=(kvs.find? fun kv=>decide (kv.1=k)).map (·.2)
noncomputable def U4(kvs:List (κ×V))(k:κ)(v:V):List (κ×V) :=
 if (kvs.any fun kv=>decide (kv.1=k))=true then kvs.map (fun kv=>if kv.1=k then(kv.1,v) else kv) else kvs++[(k,v)]
noncomputable def JlS(kvs:List (κ×V))(k:κ):List (κ×V):=kvs.filter fun kv=>decide (kv.1≠k)

theorem WN{p:κ×V}{r:List (κ×V)}{k:κ}(e:p.1=k):UG (p::r) k=some p.2:=by simp[UG,KR,e]
theorem WM{p:κ×V}{r:List (κ×V)}{k:κ}(e:¬p.1=k):UG (p::r) k=UG r k:=by simp[UG,KR,e]
theorem Jau(k:κ):∀kvs:List (κ×V),(kvs.any fun kv=>decide (kv.1=k))=(UG kvs k).isSome
 | []=>rfl
 | p::r=>by
  rw[GP]
  by_cases e:p.1=k
  ·simp only[WN e,decide_eq_true e,LY,Option.isSome_some]
  ·rw[WM e,decide_eq_false e,GA];exact Jau k r
theorem Vy(kvs:List (κ×V))(k:κ)(v:V):(U4 kvs k v).length<=kvs.length+1:=by
 unfold U4;split
 ·rw[Qo];omega
 ·rw[Qy,Qu,GB];omega
theorem Jir{kvs:List (κ×V)}{k:κ}(v:V)(h:UG kvs k=none):U4 kvs k v=kvs++[(k,v)]:=by unfold U4;rw[Jau,h];exact if_neg (by decide)

theorem RelO.isSome_eq{o:Option V}{u:Option Value}(r:RelO o u):o.isSome=u.isSome:=by
 cases o with
 | none=>cases u with
  | none=>rfl
  | some _=>exact(show False from r).elim
 | some _=>cases u with
  | none=>exact(show False from r).elim
  | some _=>rfl
theorem RelO.getD{o:Option V}{u:Option Value}{d:V}{d':Value}(r:RelO o u)(rd:RelV d d'):RelV (o.getD d) (u.getD d'):=by
 cases o with
 | none=>cases u with
  | none=>exact rd
  | some _=>exact(show False from r).elim
 | some _=>cases u with
  | none=>exact(show False from r).elim
  | some _=>exact r

theorem KV.val{kvs:List (κ×V)}{vs:List (κ×Value)}(r:KV kvs vs)(k:κ):RelO (UG kvs k) (valueAt vs k):=by
 unfold KV at r
 induction r with
 | nil=>exact True.intro
 | @cons p q ps qs h t ih =>
  obtain⟨h1,h2⟩:=h
  by_cases e:p.1=k
  ·have e':q.1=k:=h1.symm.trans e
   have b:valueAt (q::qs) k=some q.2:=by simp[valueAt,KR,e']
   rw[WN e,b];exact h2
  ·have e':¬q.1=k:=fun z=>e (h1.trans z)
   have b:valueAt (q::qs) k=valueAt qs k:=by simp[valueAt,KR,e']
   rw[WM e,b];exact ih
theorem KV.any{kvs:List (κ×V)}{vs:List (κ×Value)}(r:KV kvs vs)(k:κ):(kvs.any fun kv=>decide (kv.1=k))=vs.any fun kv=>decide (kv.1=k):=by
 unfold KV at r
 induction r with
 | nil=>rfl
 | cons h t ih=>rw[GP,GP,ih,h.1]
theorem KV.repl{kvs:List (κ×V)}{vs:List (κ×Value)}(r:KV kvs vs)(k:κ){y:V}{u:Value}(ry:RelV y u) :
 KV (kvs.map fun kv=>if kv.1=k then(kv.1,y) else kv) (vs.map fun kv=>if kv.1=k then(kv.1,u) else kv):=by
 unfold KV at r ⊢
 induction r with
 | nil=>exact .nil
 | @cons p q ps qs h t ih =>
  rw[Qi,Qi];refine .cons ?_ ih;obtain⟨h1,h2⟩:=h
  by_cases e:p.1=k
  ·rw[if_pos e,if_pos (h1.symm.trans e)];exact⟨h1,ry⟩
  ·rw[if_neg e,if_neg (fun z=>e (h1.trans z))];exact⟨h1,h2⟩
theorem KV.put{kvs:List (κ×V)}{vs:List (κ×Value)}(r:KV kvs vs)(k:κ){y:V}{u:Value}(ry:RelV y u):KV (U4 kvs k y) (stored vs k u):=by
 unfold U4 stored;rw[r.any k]
 by_cases e:(vs.any fun kv=>decide (kv.1=k))=true
 ·rw[if_pos e,if_pos e];exact r.repl k ry
 ·rw[if_neg e,if_neg e];exact Paired.snoc r ⟨rfl,ry⟩
theorem KV.drop{kvs:List (κ×V)}{vs:List (κ×Value)}(r:KV kvs vs)(k:κ):KV (JlS kvs k) (without vs k):=by
 unfold KV at r ⊢;unfold JlS without
 induction r with
 | nil=>exact .nil
 | @cons p q ps qs h t ih =>
  obtain⟨h1,h2⟩:=h;rw[List.filter_cons,List.filter_cons]
  by_cases e:p.1=k
  ·have a:¬decide (p.1≠k)=true:=by simp[e]
   have b:¬decide (q.1≠k)=true:=by simp[h1.symm.trans e]
   rw[if_neg a,if_neg b];exact ih
  ·have e':¬q.1=k:=fun z=>e (h1.trans z)
   have a:decide (p.1≠k)=true:=by simp[e]
   have b:decide (q.1≠k)=true:=by simp[e']
   rw[if_pos a,if_pos b];exact .cons ⟨h1,h2⟩ ih
theorem KV.keys{kvs:List (κ×V)}{vs:List (κ×Value)}(r:KV kvs vs):kvs.map (·.1)=vs.map (·.1):=by
 unfold KV at r
 induction r with
 | nil=>rfl
 | cons h t ih=>rw[Qi,Qi,ih,h.1]
theorem KV.length{kvs:List (κ×V)}{vs:List (κ×Value)}(r:KV kvs vs):kvs.length=vs.length:=Mu r
end

theorem JcE{P:Program}{w:World}{k:Key}{u:Value}(r:RelV (kV k) u):(JW P w).is k u=true:=by
 cases k with
 | inl i=>obtain⟨t,e⟩:=(show ∃t,u=Value.int i t from r);subst e;exact JcJ P w i t
 | inr x=>obtain⟨t,e⟩:=(show ∃t,u=Value.str x t from r);subst e;exact JcK P w x t
theorem Ja2{P:Program}{w:World}:∀{ks:List Key} {us:List Value},Vals (ks.map kV) us->ItemsAre (JW P w) ks us
 | [],_,r=>by rw[Kp] at r;cases r;exact .nil
 | k::ks,_,r=>by
  rw[Qi] at r
  cases r with
  | cons h t=>exact .cons (JcE h) (Ja2 t)

noncomputable abbrev KT(H:Hp):List (List Key×V)->List (List Key×Addr×Value)->Prop:=Paired fun p q=>p.1=q.1/\H q.2.1=some (.tup (p.1.map kV))/\RelV p.2 q.2.2
theorem KT.val{H:Hp}{kvs:List (List Key×V)}{xs:List (List Key×Addr×Value)}(r:KT H kvs xs)(k:List Key):RelO (UG kvs k) ((atKey xs k).map (·.2)):=by
 induction r with
 | nil=>exact True.intro
 | @cons p q ps qs h t ih =>
  obtain⟨h1,_,h2⟩:=h
  by_cases e:p.1=k
  ·have e':q.1=k:=h1.symm.trans e
   have b:atKey (q::qs) k=some q.2:=by simp[atKey,KR,e']
   rw[WN e,b];exact h2
  ·have e':¬q.1=k:=fun z=>e (h1.trans z)
   have b:atKey (q::qs) k=atKey qs k:=by simp[atKey,KR,e']
   rw[WM e,b];exact ih
theorem KT.repl{H:Hp}{kvs:List (List Key×V)}{xs:List (List Key×Addr×Value)}(r:KT H kvs xs)(k:List Key){y:V}{u:Value}(ry:RelV y u) :
 KT H (kvs.map fun kv=>if kv.1=k then(kv.1,y) else kv) (xs.map (putAt k u)):=by
 induction r with
 | nil=>exact .nil
 | @cons p q ps qs h t ih =>
  rw[Qi,Qi];refine .cons ?_ ih;obtain⟨h1,h2,h3⟩:=h;unfold putAt
  by_cases e:p.1=k
  ·rw[if_pos e,if_pos (h1.symm.trans e)];exact⟨h1,h2,ry⟩
  ·rw[if_neg e,if_neg (fun z=>e (h1.trans z))];exact⟨h1,h2,h3⟩
theorem KT.put{H:Hp}{kvs:List (List Key×V)}{xs:List (List Key×Addr×Value)}(r:KT H kvs xs)(k:List Key){b:Addr}{y:V}{u:Value}(hb:H b=some (.tup (k.map kV)))(ry:RelV y u) :
 KT H (U4 kvs k y) (storedH xs k b u):=by
 have e:(kvs.any fun kv=>decide (kv.1=k))=(atKey xs k).isSome:=by rw[Jau,(r.val k).isSome_eq,Option.isSome_map]
 unfold U4 storedH;rw[e]
 by_cases q:(atKey xs k).isSome=true
 ·rw[if_pos q,if_pos q];exact r.repl k ry
 ·rw[if_neg q,if_neg q];exact Paired.snoc r ⟨rfl,hb,ry⟩
theorem KT.keeps{H H':Hp}{kvs:List (List Key×V)}{xs:List (List Key×Addr×Value)}(r:KT H kvs xs)(ht:∀b ys,H b=some (.tup ys)->H' b=some (.tup ys)):KT H' kvs xs :=
 Paired.mapP r fun _ _ z=>⟨z.1,ht _ _ z.2.1,z.2.2⟩

section
variable{P:Program}{w:World}{H:Hp}{h:Heap}{a:Addr}
theorem Jl8{u:HO}(ok:HOk P w H h)(e:Rd H a u):ObjOk P w H h a u:=e.ok ok
theorem Jcr{kvs:List (Key×V)}(ok:HOk P w H h)(e:Rd H a (.dK kvs)):kvs.length<=sizeLine/\(a == sysModules)=false/\∃vs,KV kvs vs/\h.DictOf (JW P w) a vs :=
 show ObjOk P w H h a (.dK kvs) from Jl8 ok e
theorem JlR{kvs:List (Key×V)}(ok:HOk P w H h)(e:H a=some (.dK kvs)):kvs.length<=sizeLine/\(a == sysModules)=false/\∃vs,KV kvs vs/\h.DictOf (JW P w) a vs:=Jcr ok (.inl e)
theorem JbH{ks:List Key}(ok:HOk P w H h)(e:H a=some (.tup (ks.map kV))):(tupleKind (JW P w)).is h ks a:=by
 obtain⟨_,its,r,o,h1,h2,n,h3⟩:=(show ObjOk P w H h a (.tup (ks.map kV)) from ok a _ e)
 exact⟨o,its.toArray,n,h1,h2,h3,by simpa using Ja2 r⟩
theorem Jcs{kvs:List (List Key×V)}(ok:HOk P w H h)(e:Rd H a (.dT kvs)):kvs.length<=sizeLine/\(a == sysModules)=false ∧
 ∃xs,KT H kvs xs/\h.DictOfH (tupleKind (JW P w)) a xs:=by
 obtain⟨z,y,xs,r,o,es,ep,h1,h2,h3,h4,h5⟩:=(show ObjOk P w H h a (.dT kvs) from Jl8 ok e)
 refine⟨z,y,xs,r,o,es,ep,h1,h2,h3,h4,fun x hx=>?_,h5⟩
 have all:∀{l:List (List Key×V)} {m:List (List Key×Addr×Value)},KT H l m->∀x∈m,(tupleKind (JW P w)).is h x.1 x.2.1:=by
  intro l m q
  induction q with
  | nil=>intro x hx;exact nomatch hx
  | @cons p q ps qs hq t ih =>
   intro x hx;rcases Qh.mp hx with e|hx
   ·subst e;exact JbH ok (by rw[<- hq.1];exact hq.2.1)
   ·exact ih x hx
 exact all r x hx
theorem Jo3{kvs:List (List Key×V)}(ok:HOk P w H h)(e:H a=some (.dT kvs)):kvs.length<=sizeLine/\(a == sysModules)=false ∧
 ∃xs,KT H kvs xs/\h.DictOfH (tupleKind (JW P w)) a xs:=Jcs ok (.inl e)
end

noncomputable def DGet(H:Hp)(a:Addr)(y:V)(r:Option V):Prop :=
 (∃kvs k,Rd H a (.dK kvs)/\y=kV k/\r=UG kvs k)\/∃kvs k b,Rd H a (.dT kvs)/\y=.ref b/\H b=some (.tup (k.map kV))/\r=UG kvs k
noncomputable def DPut(H:Hp)(a:Addr)(y v:V)(H':Hp):Prop :=
 (∃kvs k,H a=some (.dK kvs)/\y=kV k/\kvs.length<sizeLine/\H'=upd H a (.dK (U4 kvs k v))) ∨
 ∃kvs k b,H a=some (.dT kvs)/\y=.ref b/\H b=some (.tup (k.map kV))/\kvs.length<sizeLine/\H'=upd H a (.dT (U4 kvs k v))
theorem DGet.k{H:Hp}{a:Addr}{kvs:List (Key×V)}{k:Key}(e:H a=some (.dK kvs)):DGet H a (kV k) (UG kvs k):=.inl ⟨kvs,k,.inl e,rfl,rfl⟩
theorem DGet.t{H:Hp}{a b:Addr}{kvs:List (List Key×V)}{k:List Key}(e:H a=some (.dT kvs))(eb:H b=some (.tup (k.map kV))):DGet H a (.ref b) (UG kvs k):=.inr ⟨kvs,k,b,.inl e,rfl,eb,rfl⟩
theorem DPut.k{H:Hp}{a:Addr}{kvs:List (Key×V)}{k:Key}{v:V}(e:H a=some (.dK kvs))(hl:kvs.length<sizeLine):DPut H a (kV k) v (upd H a (.dK (U4 kvs k v))):=.inl ⟨kvs,k,e,rfl,hl,rfl⟩
theorem DPut.t{H:Hp}{a b:Addr}{kvs:List (List Key×V)}{k:List Key}{v:V}(e:H a=some (.dT kvs))(eb:H b=some (.tup (k.map kV)))(hl:kvs.length<sizeLine) :
 DPut H a (.ref b) v (upd H a (.dT (U4 kvs k v))):=.inr ⟨kvs,k,b,e,rfl,eb,hl,rfl⟩

section
variable{X:Cx}{pins:List (Addr×Obj)}{σ:St}{H:Hp}{s:Shared}{a:Addr}{y v:V}{u r:Value}{o:Option V}{A:Around}{E:Value->Shared->Prop}

theorem Inv.big(I:Inv X pins σ H s):sysModules<s.heap.objs.size:=by have h:mainGlobals<s.heap.objs.size:=(I.mod.glob.keeps I.bk).lt;exact Gv (by decide) h

theorem Jf5{Q:Value->Shared->Prop}(hu:A.units+1<cLine)(I:Inv X pins σ H s)(g:DGet H a y (some v))(ry:RelV y u)(h:∀w' s',Inv X pins σ H s'->RelV v w'->Q w' s') :
 wpAny (model X.prog X.w) A (getItem (.ref a) u) Q E s:=by
 rcases g with ⟨kvs,k,e,ey,l⟩|⟨kvs,k,b,e,ey,eb,l⟩
 ·subst ey;obtain⟨z,hd,vs,rel,dd⟩:=Jcr I.hok e;obtain⟨w',hw,rw'⟩:=RelO.some_of (v:=v) (o:=valueAt vs k) (by rw[l];exact rel.val k);exact wpAny_getItem_of (JcE ry) dd.mapOf hw (h w' _ (I.tok _) rw')
 ·subst ey;cases (show u=Value.ref b from ry);obtain⟨z,hd,xs,rel,dd⟩:=Jcs I.hok e;obtain⟨w',hw,rw'⟩:=RelO.some_of (v:=v) (o:=(atKey xs k).map (·.2)) (by rw[l];exact rel.val k);obtain⟨p,hp,hp2⟩:=Gb.mp hw;refine wpAny_getItem_heap (tupleKind_room_in1 hu) (JbH I.hok eb) dd hp ?_;rw[hp2];exact h w' _ (I.tok _) rw'
theorem Jbt{h':Heap}{t':Nat}{ob:HO}(I:Inv X pins σ H s)(mu:Mut (H a))(hs:Qt a s.heap h')(he:∃q,h'.get? a=some q)(new:ObjOk X.prog X.w (upd H a ob) h' a ob) :
 Inv X pins σ (upd H a ob) { s with heap:=h',toks:=t' } :=
 I.write (x:=a) (e:=a) mu (.inl rfl) (fun b q hb z=>(hs.2 b hb).trans z) he new
theorem Jhm{P:Program}{w:World}{H':Hp}{h':Heap}{kvs:List (Key×V)}{vs:List (Key×Value)}(z:kvs.length<=sizeLine)(hd:(a == sysModules)=false)(rel:KV kvs vs)(dd:h'.DictOf (JW P w) a vs) :
 ObjOk P w H' h' a (.dK kvs):=⟨z,hd,vs,rel,dd⟩
theorem Jf6{H':Hp}{Q:Unit->Shared->Prop}(hu:A.units+1<cLine)(I:Inv X pins σ H s)(g:DPut H a y v H')(ry:RelV y u)(rv:RelV v r)(h:∀s',Inv X pins σ H' s'->Q () s') :
 wpAny (model X.prog X.w) A (setItem (.ref a) u r) Q E s:=by
 rcases g with ⟨kvs,k,e,ey,l,eH⟩|⟨kvs,k,b,e,ey,eb,l,eH⟩
 ·subst ey eH;obtain⟨z,hd,vs,rel,dd⟩:=JlR I.hok e;have hz:vs.length<=sizeLine:=by rw[<- rel.length];exact z
  have hl:(U4 kvs k v).length<=sizeLine:=by have:=Vy kvs k v;omega
  refine wpAny_setItem_pairs (hsz:=hz) (JcE ry) dd fun h' dd' hs=>h _ ?_
  have he:∃q,h'.get? a=some q:=let ⟨q,_,_,hq,_⟩:=dd';⟨q,hq⟩
  exact Jbt I (by rw[e];exact True.intro) hs he (Jhm hl hd (rel.put k rv) dd')
 ·subst ey eH;cases (show u=Value.ref b from ry);obtain⟨z,hd,xs,rel,dd⟩:=Jo3 I.hok e;have hz:xs.length<=sizeLine:=by rw[<- Mu rel];exact z
  have hl:(U4 kvs k v).length<=sizeLine:=by have:=Vy kvs k v;omega
  refine wpAny_setItem_heap (hsz:=hz) (tupleKind_room_in1 hu) (JbH I.hok eb) dd fun h' dd' hs=>h _ ?_
  obtain⟨q,es,ep,hq,h2,h3,h4,_,h5⟩:=dd';refine Jbt I (by rw[e];exact True.intro) hs ⟨q,hq⟩ ⟨hl,hd,_,(rel.put k eb rv).keeps fun c ys ec=>?_,q,es,ep,hq,h2,h3,h4,h5⟩;rw[Ji (Ja8 ec e (fun z=>nomatch z))];exact ec
end

section
variable{X:Cx}{pins:List (Addr×Obj)}{σ:St}{H:Hp}{s:Shared}{a:Addr}{kvs:List (Key×V)}{k:Key}{u:Value}{A:Around}{E:Value->Shared->Prop}
end

noncomputable def JoS(i:Expr):Prop:=∀ov iv,subscripted i false ov iv=operate [ov,iv] (getItem ov iv)
theorem Jlz{prog:Program}{w:World}{A:Around}{E:Value->Shared->Prop}{s:Shared}{env:Env}{value slice:Expr}{pos:Pos}{T id:String}{Q:Value->Shared->Prop}
 (hl:typeLookup (.type T) "__getitem__"=pure (some (.builtin id))) (hs:JoS slice)
 (h:wpAny (model prog w) A (eval value env) (fun o s₁=>wpAny (model prog w) A (eval slice env) (fun i s₂=>s₂.TypeIs o T/\wpAny (model prog w) A (getItem o i) Q E s₂) E s₁) E s) :
 wpAny (model prog w) A (eval (.Subscript value slice pos) env) Q E s:=by
 refine Subscript_ (GC h (fun o s₁ h₁=>GC h₁ (fun i s₂ h₂=>?_) fun _ _ x=>x) fun _ _ x=>x);obtain⟨hT,h₂⟩:=h₂;unfold subscriptTail;refine Qa ?_;rw[getitemInPython_of_ne hT.not_modules];refine Qa (Kn hT hl ?_)
 have fin:wpAny (model prog w) A (subscripted slice false o i) (fun r s₃=>wpAny (model prog w) A (letTemporaryGo value o r >>= fun _=>pure r) Q E s₃) E s₂:=by rw[hs o i];exact wpAny_operating (GC h₂ (fun r s₃ h₃=>Qa (wpAny_letTemporaryGo (Qd h₃))) fun _ _ x=>x)
 first
  | exact Qd (Qa fin)
  | exact Qa (Qd (Qa fin))
  | exact Qa fin

theorem Jcq{X:Cx}{pins:List (Addr×Obj)}{σ:St}{H:Hp}{s:Shared}{a:Addr}{y:V}{o:Option V}(I:Inv X pins σ H s)(g:DGet H a y o):s.TypeIs (.ref a) "dict":=by
 rcases g with ⟨kvs,k,e,_,_⟩|⟨kvs,k,b,e,_,_,_⟩
 ·obtain⟨_,_,vs,_,dd⟩:=Jcr I.hok e;exact dd.typeIs
 ·obtain⟨_,_,xs,_,dd⟩:=Jcs I.hok e;exact dd.typeIs
noncomputable def Jmf(td ty:TE):TE:=fun σ H Q=>td σ H fun x H1=>ty σ H1 fun y H2=>∃a v,x=.ref a/\DGet H2 a y (some v)/\Q v H2
noncomputable def Jl9(td ty tv:TE):TS:=fun D σ H=>tv σ H fun v H1=>td σ H1 fun x H2=>ty σ H2 fun y H3=>∃a H4,x=.ref a/\DPut H3 a y v H4/\D.nx σ H4
section
variable{X:Cx}{o i e value:Expr}{pos pos' tpos:Pos}{td ty tv:TE}
theorem Jfp(hu:X.A.units+1<cLine)(ho:PE X o td)(hi:PE X i ty)(hs:JoS i):PE X (.Subscript o i pos) (Jmf td ty):=by intro pins s σ H Q I h;refine Jlz PySem.F.slot_dict_getitem.lookup hs (thn (ho pins s σ H _ I h) fun u s1 ⟨x,H1,I1,rx,q1⟩=>thn (hi pins s1 σ H1 _ I1 q1) fun iv s2 ⟨y,H2,I2,ry,a,v,ex,g,q2⟩=>?_);subst ex;obtain rfl:u=Value.ref a:=rx;exact⟨Jcq I2 g,Jf5 hu I2 g ry fun w' s3 I3 rw'=>⟨v,H2,I3,rw',q2⟩⟩
theorem JkV(hu:X.A.units+1<cLine)(ho:PE X o td)(hi:PE X i ty)(hv:PE X value tv)(hs:swapsWith value (some (.Subscript o i pos')) pos.line X.env=pure false) :
 PS X (.Assign [.Subscript o i pos'] value pos) (Jl9 td ty tv):=by
 intro pins s σ H D I h;refine wpAny_Assign_Subscript (thn (hv pins s σ H _ I h) fun r s1 ⟨v,H1,I1,rv,q1⟩=>thn (ho pins s1 σ H1 _ I1 q1) fun u s2 ⟨x,H2,I2,rx,q2⟩=>thn (hi pins s2 σ H2 _ I2 q2) fun iv s3 ⟨y,H3,I3,ry,a,H4,ex,g,q3⟩=>?_) hs;subst ex;obtain rfl:u=Value.ref a:=rx;exact Jf6 hu I3 g ry rv fun s4 I4=>⟨σ,H4,I4,q3⟩
end

theorem Jhl{P:Program}{w:World}{H:Hp}(h:Heap)(hb:sysModules<h.objs.size):ObjOk P w H (h.push { cls:=.type "dict",data:=.dict #[] }) h.objs.size (.dK []) :=
 ⟨Gn _,beq_eq_false_iff_ne.mpr (QC (Qr hb)),[],.nil,Heap.DictOf.new h⟩
noncomputable def Ji0:TE:=fun _ H Q=>∀p,H p=none->Q (.ref p) (upd H p (.dK []))
section
variable{X:Cx}{pos:Pos}
theorem JcY:PE X (.Dict [] [] pos) Ji0:=fun pins s σ H Q I h=>wpAny_Dict_empty ⟨.ref s.heap.objs.size,_,I.laid (a:=s.heap.objs.size) (o:=.dK []) (t':=s.toks) (fun _ _ q=>Qe _ q) (Qn _) (Jhl s.heap I.big),rfl,h _ (I.hok.fresh (Qn _))⟩
end

structure M1 (X:Cx) (o:Expr) (m:Str) (apos:Pos) (e:Expr) (cpos:Pos):Prop where
 base:attributeBase o m X.env (eval o X.env)=eval o X.env
 few:((backTo cpos (starEach [e] X.env)).all (fun x=>!x.1) && (backToKw cpos (keywordEach [] X.env)).all (fun x=>x.1.isSome)
  && decide (([e]:List Expr).length+([]:List Keyword).length+(if ([]:List Keyword).isEmpty then 0 else 1)<30))=true
 line:(apos.endLine == cpos.line)=true
 trees:backTo cpos (starEach [e] X.env)=[(false,eval e X.env)]
structure M2 (X:Cx) (o:Expr) (m:Str) (apos:Pos) (e f:Expr) (cpos:Pos):Prop where
 base:attributeBase o m X.env (eval o X.env)=eval o X.env
 few:((backTo cpos (starEach [e,f] X.env)).all (fun x=>!x.1) && (backToKw cpos (keywordEach [] X.env)).all (fun x=>x.1.isSome)
  && decide (([e,f]:List Expr).length+([]:List Keyword).length+(if ([]:List Keyword).isEmpty then 0 else 1)<30))=true
 line:(apos.endLine == cpos.line)=true
 trees:backTo cpos (starEach [e,f] X.env)=[(false,eval e X.env),(false,eval f X.env)]

noncomputable def IsD(H:Hp)(a:Addr):Prop:=(∃kvs,Rd H a (.dK kvs))\/∃kvs,Rd H a (.dT kvs)
theorem JhM{X:Cx}{pins:List (Addr×Obj)}{σ:St}{H:Hp}{s:Shared}{a:Addr}(I:Inv X pins σ H s)(d:IsD H a) :
 s.TypeIs (.ref a) "dict"/\(∀b,Value.ref a=.ref b->∃ob,s.heap.get? b=some ob/\ob.dict=none)/\(a == sysModules)=false:=by
 rcases d with ⟨kvs,e⟩|⟨kvs,e⟩
 ·obtain⟨_,hd,vs,_,dd⟩:=Jcr I.hok e;refine⟨dd.typeIs,fun b q=>?_,hd⟩;cases q;obtain⟨ob,_,_,h1,h2,_⟩:=dd;exact⟨ob,h1,h2.2.1⟩
 ·obtain⟨_,hd,xs,_,dd⟩:=Jcs I.hok e;refine⟨dd.typeIs,fun b q=>?_,hd⟩;cases q;obtain⟨ob,_,_,h1,h2,_⟩:=dd;exact⟨ob,h1,h2.2.1⟩

section
variable{X:Cx}{pins:List (Addr×Obj)}{σ:St}{H:Hp}{s:Shared}{a:Addr}{y d:V}{u r:Value}{o:Option V}{A:Around}{E:Value->Shared->Prop}
theorem Jmx{Q:Value->Shared->Prop}(hu:A.units+1<cLine)(I:Inv X pins σ H s)(g:DGet H a y o)(ry:RelV y u)(rd:RelV d r)(h:∀w' s',Inv X pins σ H s'->RelV (o.getD d) w'->Q w' s') :
 wpAny (model X.prog X.w) A (call (.builtin "dict.get") [.ref a,u,r]) Q E s:=by
 rcases g with ⟨kvs,k,e,ey,l⟩|⟨kvs,k,b,e,ey,eb,l⟩
 ·subst ey;obtain⟨z,hd,vs,rel,dd⟩:=Jcr I.hok e;refine call_meetsIn LD dd.typeIs MS (MD _ _ _) (meets_dict_get_default (JW X.prog X.w) a (JcE ry) hd r) ⟨_,dd.mapOf,h _ _ (I.tok _) ?_⟩;rw[l];exact(rel.val k).getD rd
 ·subst ey;cases (show u=Value.ref b from ry);obtain⟨z,hd,xs,rel,dd⟩:=Jcs I.hok e;refine call_meetsIn LD dd.typeIs MS (MD _ _ _) (meetsH_dict_get_default (tupleKind (JW X.prog X.w)) a b hd r) ⟨tupleKind_room_in1 hu,k,xs,JbH I.hok eb,dd,h _ _ (I.tok _) ?_⟩;rw[l];exact(rel.val k).getD rd
end

noncomputable def JiZ(td ty tx:TE):TE:=fun σ H Q=>td σ H fun x H1=>∃a,x=.ref a/\IsD H1 a/\ty σ H1 fun y H2=>tx σ H2 fun z H3=>∃o,DGet H3 a y o/\Q (o.getD z) H3
section
variable{X:Cx}{o e f:Expr}{apos cpos:Pos}{td ty tx:TE}
theorem Jif(hu:X.A.units+1<cLine)(ho:PE X o td)(he:PE X e ty)(hf:PE X f tx)(m:M2 X o "get" apos e f cpos):PE X (.Call (.Attribute o "get" apos) [e,f] [] cpos) (JiZ td ty tx):=by
 intro pins s σ H Q I h;refine wpAny_Call_method m.base m.few m.line ME LD PySem.F.type_dict_get (thn (ho pins s σ H _ I h) fun u s1 ⟨x,H1,I1,rx,a,ex,d,q1⟩=>?_);subst ex;obtain rfl:u=Value.ref a:=rx;obtain⟨t1,t2,_⟩:=JhM I1 d;refine⟨t1,t2,?_⟩;rw[m.trees];refine KM rfl (K6 (Kc (thn (he pins s1 σ H1 _ I1 q1) fun iv s2 ⟨y,H2,I2,ry,q2⟩=>Kc (thn (hf pins s2 σ H2 _ I2 q2) fun fv s3 ⟨z,H3,I3,rz,ov,g,q3⟩=>Lw ?_))))
 exact Jmx hu I3 g ry rz fun w' s4 I4 rw'=>⟨_,H3,I4,rw',q3⟩
end

section
variable{X:Cx}{pins:List (Addr×Obj)}{σ:St}{H:Hp}{s:Shared}{a:Addr}{kvs:List (Key×V)}{A:Around}{E:Value->Shared->Prop}
end

section
variable{X:Cx}{pins:List (Addr×Obj)}{σ:St}{H:Hp}{s:Shared}{a:Addr}{y:V}{u:Value}{A:Around}{E:Value->Shared->Prop}
end
end L2
namespace L2
open PySem PySem.Spec PyProof.Rows

noncomputable def Jjm(X:Cx)(ifs:List Expr)(t:TT):Prop :=
 ∀(pins:List (Addr×Obj)) (s:Shared) (σ:St) (H:Hp) (Q:Bool->Hp->Prop),Inv X pins σ H s->t σ H Q ->
  wpAny (model X.prog X.w) X.A (forIn ifs true fun c r=>if r=true then do let ok <- isTrue c X.env (eval c X.env);pure (ForInStep.yield ok) else pure (ForInStep.yield r)) (TP X pins σ Q) X.xe s
noncomputable def JoB:TT:=fun _ H Q=>Q true H
theorem Yf{X:Cx}:Jjm X [] JoB:=fun _ _ _ H _ I h=>wpAny_tests_nil ⟨H,I,h⟩
noncomputable def blk(X:Cx)(sc:Scope)(cl:List (Str×Addr))(N':List Str)(C:Addr)(s:Shared)(H:Hp)(fp:List Addr):Cx where
 prog:=X.prog
 w:=X.w
 K:=X.K
 mg:=X.mg
 base:=X.base
 A:=X.A
 N:=N'
 s₀:=s
 H₀:=H
 env:=compEnvC sc cl C X.env
 outer:=X.stack
 stack:=X.stack
 ex:=fp
 fn:=fun _=>false
 calm:=X.calm
 pn:=[]
 xe:=fun _ _=>False

noncomputable def ZN(imp:List (Option Nat))(σ:St):St:=imp.map fun o=>match o with
 | none=>none
 | some k=>(σ[k]?).join

structure Blk (X:Cx) (sc:Scope) (cl:List (Str×Addr)) (N':List Str) (imp:List (Option Nat)):Prop where
 clos:closureFor sc X.env=pure cl
 kind:sc.kind=.function
 nocell:∀y∈sc.names,y.2≠.cell
 names:∀y∈sc.names,y.2=.local->sc.names.lookup y.1=some .local
 sub:∀p∈cl,X.env.cells.lookup p.1=some p.2
 has:∀y∈(relabel sc X.env).names,(y.2=.cell\/y.2=.free)->(cl.lookup y.1).isSome=true
 len:imp.length=N'.length
 im:∀p∈imp.zip N',∀k,p.1=some k->X.N[k]?=some p.2/\(X.env.scope.names.lookup p.2=some .cell\/X.env.scope.names.lookup p.2=some .free)/\((relabel sc X.env).names.lookup p.2=some .cell\/(relabel sc X.env).names.lookup p.2=some .free)

noncomputable def JfL(wi:TI)(g:TG)(tt:TT)(te:TE)(imp:List (Option Nat)):TE:=fun σ H Q=>wi σ H fun J H1=>∃W:Nat->Nat->List V->St->Hp->Prop,(∃m,W 0 m [] (ZN imp σ) H1)/\∀i m ys σ' H',W i m ys σ' H' ->
 (J.stop i H'/\ys.length<=sizeLine/\∀D,H' D=none->Q (.ref D) (upd H' D (.lst ys))) ∨
 (J.go i H'/\ys.length<sizeLine/\∃N:List V->St->Hp->Prop,(∀ys' σ2 H2,N ys' σ2 H2->∃m',m'<m/\W (i+1) m' ys' σ2 H2) ∧
  ∀x H2,J.yld i H' x H2->g x σ' H2 fun σ2 H3=>tt σ2 H3 fun b H4=>if b=true then te σ2 H4 fun y H5=>N (ys++[y]) σ2 H5 else N ys σ2 H4)

section
variable{P:Program}{w:World}{H:Hp}{h h':Heap}
theorem HOk.sameBut{C:Addr}(x:HOk P w H h)(hC:H C=none)(k:∀b o,b≠C->h.get? b=some o->h'.get? b=some o):HOk P w H h':=fun a o e =>
 (x a o e).stay (fun b u hb q=>k b u (by
  rintro rfl;rcases hb with z|z
  ·rw[<- z,hC] at e;cases e
  ·rw[hC] at z;cases z) q) (fun _ q=>q) fun _ _ q=>q
theorem HOk.track{D:Addr}{o:HO}(x:HOk P w H h)(hD:H D=none)(new:ObjOk P w (upd H D o) h D o):HOk P w (upd H D o) h:=fun b u e=>by
 by_cases hb:b=D
 ·subst hb;rw[Jt] at e;cases e;exact new
 ·rw[Ji hb] at e;exact(x b u e).stay (fun c v _ q=>q) (fun c q=>by rw[Ji (Jq q hD)];exact q) fun c xs q=>by rw[Ji (Jq q hD)];exact q
end

theorem Vg{α:Type}{x:Str}{c:α}:∀{l:List (Str×α)},l.lookup x=some c->(x,c)∈l:=fun h=>G7 h

section
variable{X:Cx}{tg iter elt:Expr}{ifs:List Expr}{sc:Scope}{cl:List (Str×Addr)}{N':List Str}{imp:List (Option Nat)}{pos:Pos}{wi:TI}{g:TG}{tt:TT}{te:TE}

theorem Blk.subL(B:Blk X sc cl N' imp):∀x c,cl.lookup x=some c->X.env.cells.lookup x=some c:=fun x c e=>B.sub (x,c) (Vg e)

theorem Jjv{pins:List (Addr×Obj)}{σ:St}{H:Hp}{s:Shared}{fp:List Addr}{h₁:Heap}{C:Addr}(B:Blk X sc cl N' imp)(I:Inv X pins σ H s)(hf:∀b∈fp,FpOk X pins H b)(hfo:∀b∈fp,∃o,s.heap.get? b=some o)
 (hC:s.heap.objs.size<C) (old:∀b o,s.heap.get? b=some o->h₁.get? b=some o) (ns:h₁.Ns C fun _=>none) :
 Inv (blk X sc cl N' C s H fp) [] (ZN imp σ) H { s with heap:=h₁,toks:=s.toks }:=by
 have hlt:∀b∈fp,b<s.heap.objs.size:=fun b hb=>let ⟨_,e⟩:=hfo b hb;Qj e
 have clt:∀x c,X.env.cells.lookup x=some c->c<s.heap.objs.size:=fun x c e=>let ⟨_,q⟩:=I.cell x c e;q.lt
 have ok:(blk X sc cl N' C s H fp).Ok:={
  mod:=I.ok.mod
  kind:=B.kind
  glob:=I.ok.glob
  blt:=I.ok.blt
  above:=GM hC
  inj:=fun x y c h1 h2=>I.ok.inj x y c (B.subL x c h1) (B.subL y c h2)
  has:=fun x hx=>by
   have hx':(relabel sc X.env).names.lookup x=some .cell\/(relabel sc X.env).names.lookup x=some .free:=hx
   have:(cl.lookup x).isSome=true:=by
    rcases hx' with z|z
    ·exact B.has (x,.cell) (Vg z) (.inl rfl)
    ·exact B.has (x,.free) (Vg z) (.inr rfl)
   exact Lh.mp this
  cab:=fun x c z=>nomatch z
  hd:=I.ok.hd
  frames:=I.ok.frames
  stk:=.inl rfl
  exf:=fun b hb=>⟨Qr (Gv (hlt b hb) hC),fun x c e=>(hf b hb).2.2.2.2.1 x c (B.subL x c e)⟩
  bs:=I.bs
  bsz:=QR I.ok.bsz I.sz
  noex:=fun b o e hb=>by
   rcases(hf b hb).2.2.2.1 with z|z
   ·exact I.ok.noex b o e z
   ·exact absurd (QJ (Qj e) (QR I.ok.bsz z)) (Q5 _)
  exfs:=fun b hb z=>by
   rcases Qh.mp (I.stkSub b z) with q|q
   ·exact(hf b hb).2.1 q
   ·exact(hf b hb).2.2.1 q
  funs:=I.stack
  frf:=I.stkFree }
 refine⟨ok,rfl,I.bare,Un.kept old,⟨_,ns,fun i x v h1 h2 h3=>?_⟩,fun x c e=>?_,I.hok.fresh (GM hC),fun x c e=>I.freeC x c (B.subL x c e),fun p hp=>absurd (show p∈([]:List (Addr×Obj)) from hp) (by simp),I.hok.kept old,?_⟩
 ·have h1':N'[i]?=some x:=h1
  have h2':(imp.map fun o=>match o with|none=>none|some k=>(σ[k]?).join)[i]?=some (some v):=h2;rw[Qx] at h2'
  cases e:imp[i]? with
  | none=>rw[e] at h2';cases h2'
  | some q =>
   rw[e] at h2'
   cases q with
   | none=>cases h2'
   | some k =>
    have h2'':(σ[k]?).join=some v:=Qz h2'
    have hk:σ[k]?=some (some v):=by
     cases e':σ[k]? with
     | none=>rw[e'] at h2'';cases h2''
     | some z=>rw[e'] at h2'';cases z with
      | none=>cases h2''
      | some z=>cases h2'';rfl
    have hm:(some k,x)∈imp.zip N':=by refine QI (i:=i) ?_;rw[Mj];exact⟨e,h1'⟩
    obtain⟨b1,b2,b3⟩:=B.im _ hm k rfl;obtain⟨m,hn,hl⟩:=I.loc;obtain⟨u,r,l⟩:=hl k x v b1 hk (b2.elim (fun z=>.inr (.inl z)) fun z=>.inr (.inr z));refine⟨u,r,.inr ⟨b3,?_⟩⟩
    have hc:∃c,X.env.cells.lookup x=some c/\s.heap.IsCell c (some u):=by
     rcases l with ⟨z,_⟩|⟨_,z⟩
     ·have z':X.env.scope.names.lookup x=some .local:=z;rcases b2 with y|y <;> rw[y] at z' <;> cases z'
     ·exact z
    obtain⟨c,hc,oc,ho,hd⟩:=hc;obtain⟨c',hc'⟩:=ok.has x b3;have e2:=B.subL x c' hc';rw[hc] at e2;cases e2;exact⟨c,hc',oc,old c oc ho,hd⟩
 ·obtain⟨v,o,ho,hd⟩:=I.cell x c (B.subL x c e);exact⟨v,o,old c o ho,hd⟩
 ·show(imp.map _).length=N'.length;rw[Qo];exact B.len

theorem Jju{pins pn:List (Addr×Obj)}{σ σ':St}{H2 H':Hp}{s2 s4:Shared}{fp:List Addr}{C D:Addr}{Cs:Addr}{ys:List V}{its:List Value}{k:Nat}{h':Heap}(I2:Inv X pins σ H2 s2)(f2:∀b∈fp,FpOk X pins H2 b)
 (I5:Inv (blk X sc cl N' C s2 H2 fp) pn σ' H' s4) (hC:s2.heap.objs.size<C) (hD:H' D=none) (hDs:s2.heap.objs.size<=D) (hDC:D≠C) (eD:s4.heap.get? D=some { cls:=.type "list",data:=.seq its.toArray k })
 (rv:Vals ys its) (hz:ys.length<=sizeLine) (hsb:Qt C s4.heap h'):Inv X pins σ (upd H' D (.lst ys)) { s4 with heap:=h' }:=by
 have U:Un (frs X.stack) fp H2 H' s2.heap s4.heap:=I5.base
 have kk:∀b o,b≠C->s4.heap.get? b=some o->h'.get? b=some o:=hsb.extBut
 have hC':H' C=none:=I5.free
 have ok1:HOk X.prog X.w H' h':=HOk.sameBut (C:=C) I5.hok hC' kk
 have ok2:HOk X.prog X.w (upd H' D (.lst ys)) h':=ok1.track hD ⟨hz,its,k,rv,kk _ _ hDC eD⟩
 have lt:∀b o,s2.heap.get? b=some o->b≠C/\b≠D:=fun b o e=>⟨Qr (Gv (Qj e) hC),Qr (QJ (Qj e) hDs)⟩
 refine I2.call' (s':={ s4 with heap:=h' }) (ch:=fp) I5.os ⟨fun b o e n hb hx=>kk b o (lt b o e).1 (U.keep b o e n hb hx),fun b o e n hb hx=>?_,fun b o e n hx=>?_,fun b o e hx=>?_,fun b xs e=>?_,fun b o u e=>?_,fun b ps e=>?_⟩ ok2 I5.bare
  fun b hb=>⟨(f2 b hb).2.2.2.1,(f2 b hb).2.1,(f2 b hb).2.2.2.2.1,(f2 b hb).2.2.2.2.2⟩
 ·obtain⟨sl,q⟩:=U.slot b o e n hb hx;exact⟨sl,kk b _ (lt b o e).1 q⟩
 ·rw[Ji (lt b o e).2];exact U.free b o e n hx
 ·obtain⟨o',q⟩:=U.there b o e hx;exact⟨o',kk b o' (lt b o e).1 q⟩
 ·have q:=U.tups b xs e;rw[Ji (Jq q hD)];exact q
 ·have q:=U.frzs b o u e;rw[Ji (Jq q hD)];exact q
 ·obtain⟨more,q⟩:=U.tbls b ps e;exact⟨more,by rw[Ji (Jq q hD)];exact q⟩

noncomputable def JoP(g:TG)(tt:TT)(te:TE)(imp:List (Option Nat))(σ:St)(Q:VK)(J:It)(H1:Hp):Prop:=∃W:Nat->Nat->List V->St->Hp->Prop,(∃m,W 0 m [] (ZN imp σ) H1)/\∀i m ys σ' H',W i m ys σ' H' ->
 (J.stop i H'/\ys.length<=sizeLine/\∀D,H' D=none->Q (.ref D) (upd H' D (.lst ys))) ∨
 (J.go i H'/\ys.length<sizeLine/\∃N:List V->St->Hp->Prop,(∀ys' σ2 H2,N ys' σ2 H2->∃m',m'<m/\W (i+1) m' ys' σ2 H2) ∧
  ∀x H2,J.yld i H' x H2->g x σ' H2 fun σ2 H3=>tt σ2 H3 fun b H4=>if b=true then te σ2 H4 fun y H5=>N (ys++[y]) σ2 H5 else N ys σ2 H4)
theorem JaS{pins:List (Addr×Obj)}{σ:St}{Q:VK}{itv:Value}{s2:Shared}{RR:Value->Addr->Result->Shared->Prop}{E:Value->Shared->Prop}(hc:X.calm=true)(B:Blk X sc cl N' imp)
 (hg:∀C s H fp,PG (blk X sc cl N' C s H fp) tg g) (ht:∀C s H fp,Jjm (blk X sc cl N' C s H fp) ifs tt) (he:∀C s H fp,PE (blk X sc cl N' C s H fp) elt te)
 (h2:PIE X pins σ tg (JoP g tt te imp σ Q) itv s2)
 (fin:∀(C D:Addr) (s4:Shared) (H':Hp) (ys:List V) (m:Str->Option Value),s2.heap.objs.size<C->s4.heap.Ns C m->H' C=none->(∀h',Qt C s4.heap h'->Inv X pins σ H' { s4 with heap:=h' })->Q (.ref D) H'->RR (.ref D) C (.ok .next) s4) :
 wpAny (model X.prog X.w) X.A (newList []) (fun acc s₃=>wpAny (model X.prog X.w) X.A (newFunctionEnv sc X.env.globals cl [] X.env.qual none .none (some X.env)) (fun cenv s₄=>codeAny (model X.prog X.w) X.A (.compStart (.ListComp elt [⟨tg,iter,ifs,0⟩] sc pos) 0 itv acc { cenv with scope:=relabel sc X.env }) (RR acc cenv.locals) s₄) E s₃) E s2:=by
 obtain⟨it,fp,tn,J,H2,e,I2,T,st2,f2,W,⟨m0,w0⟩,turn⟩:=h2;subst e;refine QP (wpAny_newFunctionEnv B.nocell (by intro y hy;simp at hy) (fun h₁ hns₁ hsb₁=>?_) B.kind);dsimp only at hns₁ hsb₁ ⊢
 generalize hG:s2.heap.push { cls:=.type "list",dict:=none,data:=.seq ([]:List Value).toArray }=G at hns₁ hsb₁ ⊢
 have hCs:G.objs.size=s2.heap.objs.size+1:=by rw[<- hG,Q4]
 have hC:s2.heap.objs.size<G.objs.size:=by rw[hCs];exact Gi _
 have below:∀b,b<s2.heap.objs.size->b≠G.objs.size:=fun b hb=>Qr (Gv hb hC)
 have old:∀b o,s2.heap.get? b=some o->h₁.get? b=some o:=fun b o e=>hsb₁.extBut b o (below b (Qj e)) (Qe _ (hG▸Qe _ e))
 have hD1:h₁.get? s2.heap.objs.size=some { cls:=.type "list",data:=.seq ([]:List Value).toArray }:=hsb₁.extBut _ _ (Qr hC) (Qe _ (hG▸Qk _ rfl))
 have fpo:∀b∈fp,∃o,s2.heap.get? b=some o:=fun b hb=>let ⟨o,e,_⟩:=T.obj 0 _ st2 b hb;⟨o,e⟩
 have I4:=Jjv B I2 f2 fpo hC old (show h₁.Ns G.objs.size fun _=>none from hns₁)
 -- the records of the block: the list that grows,the iterator's
 have stD:∀{H':Hp} {pn:List (Addr×Obj)},(∀b∈s2.heap.objs.size::fp,H' b=none)->(∀p∈pn,p.1∉s2.heap.objs.size::fp)->∀b∈s2.heap.objs.size::fp,FpOk (blk X sc cl N' G.objs.size s2 H2 fp) pn H' b:=fun {H' pn} hn hp b hb=>by
  have hp':∀p∈([]++pn:List (Addr×Obj)),p.1≠b:=fun p z q=>hp p (by simpa using z) (q▸hb)
  rcases Qh.mp hb with z|z
  ·subst z;refine⟨hn _ hb,Qr hC,fun q=>?_,.inr (Qn _),fun x c e q=>?_,hp'⟩
   ·rcases Qh.mp (I2.stkSub _ q) with q|q
    ·exact absurd I2.lt (by rw[<- q];exact Q5 _)
    ·exact I2.nofs (Qn _) q
   ·obtain⟨v,qc⟩:=I2.cell x c (B.subL x c e);exact absurd qc.lt (by rw[q];exact Q5 _)
  ·refine⟨hn _ hb,below b (let ⟨_,e⟩:=fpo b z;Qj e),fun q=>?_,.inl z,fun x c e=>(f2 b z).2.2.2.2.1 x c (B.subL x c e),hp'⟩;rcases Qh.mp (I2.stkSub b q) with q|q
   ·exact(f2 b z).2.1 q
   ·exact(f2 b z).2.2.1 q
 have nDf:s2.heap.objs.size∉fp:=fun z=>let ⟨_,e⟩:=fpo _ z;absurd (Qj e) (Q5 _)
 have loop:codeAny (model X.prog X.w) X.A (.compLoop (.ListComp elt [⟨tg,iter,ifs,0⟩] sc pos) 0 (.ref it) (.ref s2.heap.objs.size) (compEnvC sc cl G.objs.size X.env))
  (RR (.ref s2.heap.objs.size) G.objs.size) { s2 with heap:=h₁,toks:=s2.toks }:=by
  refine codeAny_loop rfl (fun n s'=>∃i ys its k σ' H',Inv (blk X sc cl N' G.objs.size s2 H2 fp) [] σ' H' s'/\tn i s'.heap/\(∀b∈s2.heap.objs.size::fp,H' b=none)/\Vals ys its/\s'.heap.get? s2.heap.objs.size=some { cls:=.type "list",data:=.seq its.toArray k }/\W i n ys σ' H') ?_ m0
   ⟨0,[],[],0,_,H2,I4,T.keep _ _ _ st2 (fun b _ o e=>old b o e),fun b hb=>?_,.nil,hD1,w0⟩
  ·rintro n s3 ⟨i,ys,its,k,σ3,H3,I3,st3,fr3,rv3,hD3,w3⟩;have fr3':∀b∈fp,FpOk (blk X sc cl N' G.objs.size s2 H2 fp) [] H3 b:=fun b hb=>stD (pn:=[]) fr3 (fun p z=>nomatch z) b (Qc _ hb)
   show wpAny _ X.A ((compTurn (.ListComp elt [⟨tg,iter,ifs,0⟩] sc pos) 0 (.ref it) (.ref s2.heap.objs.size) (compEnvC sc cl G.objs.size X.env)).onRaise (fun x=>do noteFrame x (compEnvC sc cl G.objs.size X.env);theTreesLotGoes x)) _ _ s3;refine wpAny_noted (wpAny_noRaise ?_);rw[compTurn_list];refine Qa (wpAny_standAt (Qa ?_))
   have fD:=stD (pn:=[]) fr3 (fun p z=>nomatch z) s2.heap.objs.size Qf
   have hDH:H3 s2.heap.objs.size=none:=fr3 _ Qf
   have I3p:Inv (blk X sc cl N' G.objs.size s2 H2 fp) [(s2.heap.objs.size,{ cls:=.type "list",data:=.seq its.toArray k })] σ3 H3 s3:=I3.pins_of fun p hp=>by
    have e:p=(s2.heap.objs.size,{ cls:=.type "list",data:=.seq its.toArray k }):=by simpa using hp
    subst e;exact⟨hD3,hDH,fD.2.1,fD.2.2.1,fun v z=>by cases z⟩
   have pfp:∀p∈[(s2.heap.objs.size,({ cls:=.type "list",data:=.seq its.toArray k }:Obj))],p.1∉fp:=fun p hp=>by
    have e:p=(s2.heap.objs.size,{ cls:=.type "list",data:=.seq its.toArray k }):=by simpa using hp
    subst e;exact nDf
   have fpP:∀{H':Hp},(∀b∈fp,H' b=none)->∀b∈fp,FpOk (blk X sc cl N' G.objs.size s2 H2 fp) [(s2.heap.objs.size,({ cls:=.type "list",data:=.seq its.toArray k }:Obj))] H' b:=fun {H'} hn b hb =>
    have f:=stD (pn:=[]) fr3 (fun p z=>nomatch z) b (Qc _ hb)
    ⟨hn b hb,f.2.1,f.2.2.1,f.2.2.2.1,f.2.2.2.2.1,fun p hp q=>pfp p ((QX.mp hp).elim (fun z=>nomatch (show p∈([]:List (Addr×Obj)) from z)) id) (q▸hb)⟩
   rcases turn i n ys σ3 H3 w3 with ⟨stop,hz,q⟩|⟨go,hz,N,hN,step⟩
   ·refine thn (T.done (blk X sc cl N' G.objs.size s2 H2 fp) rfl rfl rfl hc i _ s3 σ3 H3 _ I3p (fpP fun b hb=>fr3 b (Qc _ hb)) st3 stop) fun r s4 ⟨hr,I5⟩=>?_
    subst hr;refine Qd ?_;obtain⟨m,hn,_⟩:=I5.loc;have eD:=(I5.pin (s2.heap.objs.size,{ cls:=.type "list",data:=.seq its.toArray k }) (by simp)).1;have hCf:H3 G.objs.size=none:=I5.free;exact fin G.objs.size s2.heap.objs.size s4 _ ys m hC hn (by rw[Ji (QO hC)];exact hCf) (fun h' hsb=>Jju (Cs:=0) I2 f2 I5 hC hDH (Qn _) (Qr hC) eD rv3 hz hsb) (q _ hDH)
   ·refine thn (T.item (blk X sc cl N' G.objs.size s2 H2 fp) rfl rfl rfl hc i _ s3 σ3 H3 _ I3p (fpP fun b hb=>fr3 b (Qc _ hb)) st3 go) fun r s4 ⟨u,hr,h4⟩=>?_
    subst hr;refine Qa (thn h4 fun _ s5 ⟨x,H5,I5,r5,y5,st5,fr5⟩=>?_);have I5':=I5.pinned (fpP fr5) (T.obj _ _ st5);refine Qa (thn (hg G.objs.size s2 H2 fp _ s5 σ3 H5 x u _ I5' r5 (step x H5 y5)) fun _ s6 ⟨σ6,H6,I6,q6⟩=>?_);refine Qa (thn (ht G.objs.size s2 H2 fp _ s6 σ6 H6 _ I6 q6) fun ok s7 ⟨H7,I7,q7⟩=>?_)
    -- what stays of the records
    have recs:∀{σ':St} {H':Hp} {s':Shared},Inv (blk X sc cl N' G.objs.size s2 H2 fp) ([(s2.heap.objs.size,({ cls:=.type "list",data:=.seq its.toArray k }:Obj))]++Jah fp s5.heap) σ' H' s' ->
     tn (i+1) s'.heap/\(∀b∈s2.heap.objs.size::fp,H' b=none)/\s'.heap.get? s2.heap.objs.size=some { cls:=.type "list",data:=.seq its.toArray k }:=fun {σ' H' s'} I'=>by
     have pd:=I'.pin (s2.heap.objs.size,{ cls:=.type "list",data:=.seq its.toArray k }) (by simp)
     have pf:∀b∈fp,∀o,s5.heap.get? b=some o->s'.heap.get? b=some o/\H' b=none:=fun b hb o e=>by have z:=I'.pin (b,o) (Gu _ (Gu _ (Wb hb e)));exact⟨z.1,z.2.1⟩
     refine⟨T.keep _ _ _ st5 fun b hb o e=>(pf b hb o e).1,fun b hb=>?_,pd.1⟩;rcases Qh.mp hb with z|z
     ·subst z;exact pd.2.1
     ·obtain⟨o,e,d⟩:=T.obj _ _ st5 b z;exact(pf b z o e).2
    cases ok with
    | false=>obtain⟨m',hm,w7⟩:=hN _ _ _ (show N ys σ6 H7 from by simpa using q7);obtain⟨r1,r2,r3⟩:=recs I7;exact Qd ⟨rfl,m',hm,i+1,ys,its,k,σ6,H7,I7.pins_of (fun p hp=>nomatch hp),r1,r2,rv3,r3,w7⟩
    | true =>
     have q7':te σ6 H7 fun y H5=>N (ys++[y]) σ6 H5:=by simpa using q7
     refine Qa (Qa (thn (he G.objs.size s2 H2 fp _ s7 σ6 H7 _ I7 q7') fun y s8 ⟨y8,H8,I8,ry,q8⟩=>Qa ?_));obtain⟨r1,r2,r3⟩:=recs I8;have hl:=rv3.length;refine wpAny_list_append_plain (hsz:=by rw[Qm];omega) ⟨k,r3⟩ fun h9 ⟨k9,hl9⟩ hs9=>Qd (Qd ?_)
     have hD8:H8 s2.heap.objs.size=none:=r2 _ Qf
     have f8:=stD (pn:=[]) r2 (fun p z=>nomatch z) s2.heap.objs.size Qf
     have I8':Inv (blk X sc cl N' G.objs.size s2 H2 fp) [] σ6 H8 s8:=I8.pins_of (fun p hp=>nomatch hp)
     have I9:Inv (blk X sc cl N' G.objs.size s2 H2 fp) [] σ6 H8 { s8 with heap:=h9 }:=I8'.turned (t':=s8.toks) (it:=s2.heap.objs.size) (fun b o hb e=>hs9.extBut b o hb e) hD8 f8.2.1 f8.2.2.2.1 f8.2.2.2.2.1 f8.2.2.2.2.2;obtain⟨m',hm,w8⟩:=hN _ _ _ q8;refine⟨rfl,m',hm,i+1,ys++[y8],its++[y],k9,σ6,H8,I9,?_,r2,rv3.append (.cons ry .nil),?_,w8⟩
     ·exact T.keep _ _ _ r1 fun b hb o e=>hs9.extBut b o (fun z=>nDf (z▸hb)) e
     ·rw[hl9];simp
  ·rcases Qh.mp hb with z|z
   ·subst z;exact I2.hok.fresh (Qn _)
   ·exact(f2 b z).1
 exact codeAny_compStart_list loop (T.self _ 0 _ _ _ (T.keep _ _ _ st2 fun b _ o e=>old b o e) loop)

theorem YI(hc:X.calm=true)(hi:PI X tg iter wi)(B:Blk X sc cl N' imp)
 (hg:∀C s H fp,PG (blk X sc cl N' C s H fp) tg g) (ht:∀C s H fp,Jjm (blk X sc cl N' C s H fp) ifs tt) (he:∀C s H fp,PE (blk X sc cl N' C s H fp) elt te)
 (hs:∀x,foldedSetIterable iter X.env x=pure x:=by intro _;rfl):PE X (.ListComp elt [⟨tg,iter,ifs,0⟩] sc pos) (JfL wi g tt te imp):=by
 intro pins s σ H Q I h;rw[eval_ListComp];refine wpAny_comprehension_free (use:=none) rfl hs B.clos B.kind B.names (thn (hi pins s σ H _ I h) fun v s1 h1=>thn h1 fun itv s2 h2=>?_);refine JaS (RR:=fun acc C=>compPost (model X.prog X.w) X.A X.xe none (EP X pins σ Q) acc C) hc B hg ht he h2 fun C D s4 H' ys m hC hn hCf hI q=>?_
 exact⟨m,hn,fun h' hsb=>⟨.ref D,H',hI h' hsb,rfl,q⟩⟩
theorem Jd7{i:Nat}{x:Str}{pos' spos:Pos}(hN:X.N.Nodup)(hx1:X.N[i]?=some x)(hx2:Loc X.env.scope x)(hc:X.calm=true)(hi:PI X tg iter wi)(B:Blk X sc cl N' imp)
 (hg:∀C s H fp,PG (blk X sc cl N' C s H fp) tg g) (ht:∀C s H fp,Jjm (blk X sc cl N' C s H fp) ifs tt) (he:∀C s H fp,PE (blk X sc cl N' C s H fp) elt te)
 (hsw:swapsWith (.ListComp elt [⟨tg,iter,ifs,0⟩] sc pos) (some (.Name x pos')) spos.line X.env=pure true) (hf:X.fn x=true\/X.env.scope.names.lookup x=some .local)
 (hs:∀x,foldedSetIterable iter X.env x=pure x:=by intro _;rfl):PS X (.Assign [.Name x pos'] (.ListComp elt [⟨tg,iter,ifs,0⟩] sc pos) spos) (Jb3 (JfL wi g tt te imp) (Vv i)):=by
 intro pins s σ H D I h;rw[exec_Assign_Name_used _ _ _ _ hsw];refine Qa (wpAny_standAt (Qa ?_));show wpAny _ X.A (do let _ <- comprehension (.ListComp elt [⟨tg,iter,ifs,0⟩] sc pos) sc X.env _ (newList []) false (eval iter X.env) (some (assign (.Name x pos') X.env))) _ _ s;refine Qa (GC (wpAny_comprehension_free (use:=some (assign (.Name x pos') X.env)) (Q:=fun _ s'=>SP X pins D .next s') rfl hs B.clos B.kind B.names
  (thn (hi pins s σ H _ I h) fun v s1 h1=>thn h1 fun itv s2 h2=>?_)) (fun _ s' hq=>Qd (Qd hq)) fun _ _ e=>e)
 refine JaS (Q:=fun y H1=>Vv i y σ H1 D.nx) (RR:=fun acc C=>compPost (model X.prog X.w) X.A X.xe (some (assign (.Name x pos') X.env)) (fun _ s'=>SP X pins D .next s') acc C) hc B hg ht he h2 fun C Dl s4 H' ys m hC hn hCf hI q=>?_
 obtain⟨it,fp,tn,J,H2,e,I2,_⟩:=h2;have I4:Inv X pins σ H' s4:=hI s4.heap (.refl ..);have neC:X.env.locals≠C:=Qr (Gv I2.lt hC)
 have neCc:∀y c,X.env.cells.lookup y=some c->c≠C:=fun y c e=>by obtain⟨v,qc⟩:=I2.cell y c e;exact Qr (Gv qc.lt hC)
 show wpAny _ X.A (assign (.Name x pos') X.env (.ref Dl)) _ _ s4;refine wpAny_assign_Name (Jbf I4 hN hx1 hx2 (v:=.ref Dl) rfl (fun s5 I5 ⟨c0,hs5,hc0⟩=>?_) hf)
 have ne0:C≠c0:=by
  rcases hc0 with z|z
  ·rw[z];exact QC neC
  ·exact QC (neCc _ _ z)
 refine⟨m,hn.sameBut hs5 ne0,fun h' hsb=>⟨_,H',?_,q⟩⟩;refine I5.turned (t':=s5.toks) (it:=C) (fun b o hb e=>hsb.extBut b o hb e) hCf (QC neC) (.inr (GM (GO I2.sz hC))) neCc fun p hp z=>?_
 have:=Qj (I2.pin p hp).1;rw[z] at this;exact absurd (Gv this hC) (Q5 _)
end
end L2

namespace L2
open PySem PySem.Spec PyProof.Rows

inductive Rep (K:Frag) (H:Hp):V->PyData->Prop
 | non:Rep K H .non .none
 | bl (b:Bool):Rep K H (.bl b) (.bool b)
 | int (i:Int):Rep K H (.int i) (.int i)
 | str (x:Str):Rep K H (.str x) (.str x)
 | tup {a:Addr} {xs:List V} {ds:List PyData}:SqT K H a xs->xs.length=ds.length->(∀(i:Nat) (x:V) (d:PyData),xs[i]?=some x->ds[i]?=some d->Rep K H x d)->Rep K H (.ref a) (.tuple ds)
 | lst {a:Addr} {xs:List V} {ds:List PyData}:SqL K H a xs->xs.length=ds.length->(∀(i:Nat) (x:V) (d:PyData),xs[i]?=some x->ds[i]?=some d->Rep K H x d)->Rep K H (.ref a) (.list ds)

noncomputable def RepL(K:Frag)(H:Hp)(xs:List V)(ds:List PyData):Prop :=
 xs.length=ds.length/\∀(i:Nat) (x:V) (d:PyData),xs[i]?=some x->ds[i]?=some d->Rep K H x d

section
variable{K:Frag}{H H':Hp}
theorem RepL.nil:RepL K H [] []:=⟨rfl,fun i x d e=>by simp at e⟩
theorem RepL.cons{x:V}{d:PyData}{xs:List V}{ds:List PyData}(h:Rep K H x d)(r:RepL K H xs ds):RepL K H (x::xs) (d::ds):=by
 refine⟨by simp[r.1],fun i y e h1 h2=>?_⟩
 cases i with
 | zero=>simp at h1 h2;subst h1 h2;exact h
 | succ i=>exact r.2 i y e (by simpa using h1) (by simpa using h2)
theorem RepL.append{xs ys:List V}{ds es:List PyData}(r:RepL K H xs ds)(q:RepL K H ys es):RepL K H (xs++ys) (ds++es):=by
 refine⟨by simp[r.1,q.1],fun i x d h1 h2=>?_⟩
 by_cases hi:i<xs.length
 ·rw[Qq hi] at h1;rw[Qq (by rw[<- r.1];exact hi)] at h2;exact r.2 i x d h1 h2
 ·rw[QH (by omega)] at h1;rw[QH (by rw[<- r.1];omega)] at h2;rw[<- r.1] at h2;exact q.2 _ x d h1 h2
theorem RepL.snoc{xs:List V}{ds:List PyData}{x:V}{d:PyData}(r:RepL K H xs ds)(h:Rep K H x d):RepL K H (xs++[x]) (ds++[d]):=r.append (.cons h .nil)
theorem RepL.get{xs:List V}{ds:List PyData}{i:Nat}{d:PyData}(r:RepL K H xs ds)(e:ds[i]?=some d):∃x,xs[i]?=some x/\Rep K H x d:=by
 have hi:=(Qg.mp e).1
 have hx:i<xs.length:=by rw[r.1];exact hi
 exact⟨xs[i],by simp[hx],r.2 i _ d (by simp[hx]) e⟩
theorem RepL.get'{xs:List V}{ds:List PyData}{i:Nat}{x:V}(r:RepL K H xs ds)(e:xs[i]?=some x):∃d,ds[i]?=some d/\Rep K H x d:=by
 have hi:=(Qg.mp e).1
 have hx:i<ds.length:=by rw[<- r.1];exact hi
 exact⟨ds[i],by simp[hx],r.2 i x _ e (by simp[hx])⟩
theorem Rep.tupL{a:Addr}{xs:List V}{ds:List PyData}(h:SqT K H a xs)(r:RepL K H xs ds):Rep K H (.ref a) (.tuple ds):=.tup h r.1 r.2
theorem Rep.lstL{a:Addr}{xs:List V}{ds:List PyData}(h:SqL K H a xs)(r:RepL K H xs ds):Rep K H (.ref a) (.list ds):=.lst h r.1 r.2
theorem Rep.tupI{v:V}{ds:List PyData}(r:Rep K H v (.tuple ds)):∃a xs,v=.ref a/\SqT K H a xs/\RepL K H xs ds:=by
 cases r with
 | tup h l q=>exact⟨_,_,rfl,h,l,q⟩
theorem Rep.lstI{v:V}{ds:List PyData}(r:Rep K H v (.list ds)):∃a xs,v=.ref a/\SqL K H a xs/\RepL K H xs ds:=by
 cases r with
 | lst h l q=>exact⟨_,_,rfl,h,l,q⟩
theorem Rep.intI{v:V}{i:Int}(r:Rep K H v (.int i)):v=.int i:=by cases r;rfl
theorem Rep.strI{v:V}{i:Str}(r:Rep K H v (.str i)):v=.str i:=by cases r;rfl
theorem Rep.blI{v:V}{i:Bool}(r:Rep K H v (.bool i)):v=.bl i:=by cases r;rfl
theorem Same.seqT{a:Addr}{xs:List V}(e:Same H H')(h:SqT K H a xs):SqT K H' a xs:=by
 rcases h with (h|⟨o,h⟩)|h
 ·exact .inl (.inl (e _ _ h))
 ·exact .inl (.inr ⟨o,e _ _ h⟩)
 ·exact .inr h
theorem Rep.mono{v:V}{d:PyData}(e:Same H H')(r:Rep K H v d):Rep K H' v d:=by
 induction r with
 | non=>exact .non
 | bl b=>exact .bl b
 | int i=>exact .int i
 | str x=>exact .str x
 | tup h l _ ih=>exact .tup (e.seqT h) l ih
 | lst h l _ ih=>exact .lst (e.seq h) l ih
theorem RepL.mono{xs:List V}{ds:List PyData}(e:Same H H')(r:RepL K H xs ds):RepL K H' xs ds:=⟨r.1,fun i x d h1 h2=>(r.2 i x d h1 h2).mono e⟩

noncomputable def SameEx(l:Addr)(H H':Hp):Prop:=∀b o,b≠l->H b=some o->H' b=some o
theorem SameEx.upd{l:Addr}{o:HO}:SameEx l H (upd H l o):=fun b o' hb e=>by rw[Ji hb];exact e
theorem Same.ex{H0:Hp}{l:Addr}(s:Same H0 H)(hn:H0 l=none)(e:SameEx l H H'):Same H0 H':=fun b o h=>e b o (Jq h hn) (s b o h)
theorem Same.new{p:Addr}{o:HO}(hn:H p=none):Same H (upd H p o):=fun b o' e=>by rw[Ji (Jq e hn)];exact e
theorem SameEx.sqT{l a:Addr}{ys xs:List V}(e:SameEx l H H')(hl:H l=some (.lst ys))(h:SqT K H a xs):SqT K H' a xs:=by
 rcases h with (h|⟨o,h⟩)|h
 ·exact .inl (.inl (e _ _ (Ja8 h hl (by intro z;cases z)) h))
 ·exact .inl (.inr ⟨o,e _ _ (Ja8 h hl (by intro z;cases z)) h⟩)
 ·exact .inr h
theorem Same.ex_trans{l:Addr}{H2:Hp}(s:Same H H')(e:SameEx l H' H2):SameEx l H H2:=fun b o hb h=>e b o hb (s b o h)
inductive NoLst:PyData->Prop
 | non:NoLst .none
 | bl (b:Bool):NoLst (.bool b)
 | int (i:Int):NoLst (.int i)
 | str (x:Str):NoLst (.str x)
 | tup {ds:List PyData}:(∀d∈ds,NoLst d)->NoLst (.tuple ds)
end

theorem Vals.get':∀{xs:List V} {us:List Value} {i:Nat} {u:Value},Vals xs us->us[i]?=some u->∃x,xs[i]?=some x/\RelV x u
 | _,_,_,_,.nil,e=>by simp at e
 | _,_,0,_,.cons r _,e=>by simp at e;subst e;exact⟨_,rfl,r⟩
 | _,_,i+1,u,.cons _ t,e=>by obtain⟨x,h1,h2⟩:=Vals.get' (i:=i) (u:=u) t (by simpa using e);exact⟨x,by simpa using h1,h2⟩
theorem VC{h:Heap}:∀(us:List Value) (ds:List PyData),us.length=ds.length->(∀(i:Nat) (u:Value) (d:PyData),us[i]?=some u->ds[i]?=some d->∃as,Reads h u d as)->∃as,ReadsAll h us ds as
 | [],[],_,_=>⟨_,.nil⟩
 | [],_::_,e,_=>by simp at e
 | _::_,[],e,_=>by simp at e
 | u::us,d::ds,e,f=>by
  obtain⟨as,h1⟩:=f 0 u d rfl rfl;obtain⟨bs,h2⟩:=VC us ds (by simpa using e) fun i v c q1 q2=>f (i+1) v c (by simpa using q1) (by simpa using q2)
  exact⟨_,.cons h1 h2⟩
section
variable{X:Cx}{pins:List (Addr×Obj)}{σ:St}{H:Hp}{s:Shared}
theorem Rep.reads{v:V}{d:PyData}(I:Inv X pins σ H s)(r:Rep X.K H v d):∀u,RelV v u->∃as,Reads s.heap u d as:=by
 induction r with
 | non=>intro u r;cases r;exact⟨_,.none⟩
 | bl b=>intro u r;cases r;exact⟨_,.bool b⟩
 | int i=>intro u r;obtain⟨t,rfl⟩:=r;exact⟨_,.int i t⟩
 | str x=>intro u r;obtain⟨t,rfl⟩:=r;exact⟨_,.str x t⟩
 | tup h l _ ih =>
  intro u r;cases r;obtain⟨its,rv,p,hz⟩:=I.tuple h;obtain⟨o,ho,hc,n,hd⟩:=p
  obtain⟨as,q⟩:=VC (h:=s.heap) its _ (rv.length.symm.trans l) fun i u d h1 h2=>by obtain⟨x,e1,e2⟩:=rv.get' h1;exact ih i x d e1 h2 u e2
  exact⟨_,.tuple ho hc hd q⟩
 | lst h l _ ih =>
  intro u r;cases r;obtain⟨its,rv,p,hz⟩:=I.list h;obtain⟨o,ho,hc,n,hd⟩:=p.isList
  obtain⟨as,q⟩:=VC (h:=s.heap) its _ (rv.length.symm.trans l) fun i u d h1 h2=>by obtain⟨x,e1,e2⟩:=rv.get' h1;exact ih i x d e1 h2 u e2
  exact⟨_,.list ho hc hd q⟩
end

section
variable{X:Cx}
noncomputable def Jfv(K:Frag):R2:=fun x y H Q=>rI0 (fun i j=>.int (i+j)) x y H Q\/(∃i j,x=.str i/\y=.str j/\i.length+j.length<=sizeLine/\Q (.str (i++j)) H)\/JpG x y H Q
theorem JkI:OpR X (binaryOp .Add) (Jfv X.K):=op_add.or (op_add_str.or Jnu)
noncomputable def JpH(K:Frag):R2:=fun x y H Q=>∃d e,Rep K H x d/\Rep K H y e/\d.canLay0=true/\e.canLay0=true/\min d.depth e.depth<=60/\Q (.bl (LJ d e)) H
noncomputable def JpM(K:Frag):R2:=fun x y H Q=>∃d e,Rep K H x d/\Rep K H y e/\d.canLay0=true/\e.canLay0=true/\min d.depth e.depth<=60/\Q (.bl (!PyData.eqv d e)) H
theorem Jnw(hu:X.A.units+64<cLine):OpR X (compareOp .Eq) (JpH X.K):=by intro pins s σ H x y v u Q I rx ry h;obtain⟨d,e,h1,h2,c1,c2,hd,q⟩:=h;obtain⟨as,r1⟩:=h1.reads I v rx;obtain⟨bs,r2⟩:=h2.reads I u ry;exact SeqAt.compareEq_reads r1 r2 c1 c2 (by omega) ⟨.bl _,H,I,rfl,q⟩
theorem JnA(hu:X.A.units+64<cLine):OpR X (compareOp .NotEq) (JpM X.K):=by intro pins s σ H x y v u Q I rx ry h;obtain⟨d,e,h1,h2,c1,c2,hd,q⟩:=h;obtain⟨as,r1⟩:=h1.reads I v rx;obtain⟨bs,r2⟩:=h2.reads I u ry;exact SeqAt.compareNe_reads r1 r2 c1 c2 (by omega) ⟨.bl _,H,I,rfl,q⟩
noncomputable def Jiw(K:Frag):R2:=fun x y H Q=>rEq x y H Q\/JpH K x y H Q
noncomputable def Jiy(K:Frag):R2:=fun x y H Q=>rNe x y H Q\/JpM K x y H Q
theorem Jnv(hu:X.A.units+64<cLine):OpR X (compareOp .Eq) (Jiw X.K):=op_eq.or (Jnw hu)
theorem Jnz(hu:X.A.units+64<cLine):OpR X (compareOp .NotEq) (Jiy X.K):=op_ne.or (JnA hu)
noncomputable def Jd9(K:Frag):List V->Hp->VK->Prop:=fun xs H Q=>∃x n,xs=[x]/\JoQ K x H n/\Q (.int n) H
theorem JfX:CallR X (.builtin "len") (Jd9 X.K):=Jhd
noncomputable def Jak(K:Frag):List V->Hp->VK->Prop:=fun xs H Q=>∃p ys,xs=[.ref p]/\((SqL K H p ys/\∀l,H l=none->Q (.ref l) (upd H l (.tup ys)))\/(SqT K H p ys/\Q (.ref p) H))
theorem Jck:CallR X (.type "tuple") (Jak X.K):=Jaz
noncomputable def JbP(K:Frag):List V->Hp->VK->Prop:=fun xs H Q=>∃p ys,xs=[.ref p]/\(SqL K H p ys\/SqT K H p ys)/\∀l,H l=none->Q (.ref l) (upd H l (.lst ys))
theorem JdG:CallR X (.type "list") (JbP X.K):=Jbp
inductive TyS (K:Frag) (H:Hp):V->Value->Prop where
 | of {x:V} {t:Value} (h:TyOf K H x t):TyS K H x t
 | sqT {a:Addr} {xs:List V} (h:SqT K H a xs):TyS K H (.ref a) (.type "tuple")
 | sqL {a:Addr} {xs:List V} (h:SqL K H a xs):TyS K H (.ref a) (.type "list")
theorem ZR{pins:List (Addr×Obj)}{σ:St}{H:Hp}{s:Shared}{A:Around}{E:Value->Shared->Prop}{Q:Value->Shared->Prop}{c:Value}{b:Bool}{x:V}{u t:Value}(I:Inv X pins σ H s)(rx:RelV x u)(ty:TyS X.K H x t)(e:kitOne X.K t c=some b)(h:∀tk,Q (.bool b) { s with toks:=tk }) :
 wpAny (model X.prog X.w) A (call (.builtin "isinstance") [u,c]) Q E s:=by
 cases ty with
 | of z=>exact Jgn I rx z e h
 | @sqT a xs z=>cases (show u=Value.ref a from rx);obtain⟨its,_,p,_⟩:=I.tuple z;obtain⟨o,h1,h2,_⟩:=p;exact kia_one Rq I.kIn ⟨o,h1,h2⟩ e (fun z=>nomatch z) h
 | @sqL a xs z=>cases (show u=Value.ref a from rx);obtain⟨its,_,p,_⟩:=I.list z;obtain⟨o,h1,h2,_⟩:=p.isList;exact kia_one kitx_list I.kIn ⟨o,h1,h2⟩ e (fun z=>nomatch z) h
noncomputable def Jk0(K:Frag):List V->Hp->VK->Prop:=fun vs H Q=>∃x c t tc b,vs=[x,c]/\TyS K H x t/\(∀u,RelV c u->u=tc)/\kitOne K t tc=some b/\Q (.bl b) H
theorem Jhc:CallR X (.builtin "isinstance") (Jk0 X.K):=by intro pins s σ H xs us Q I r h;obtain⟨x,c,t,tc,b,rfl,ty,hc,e,q⟩:=h;obtain⟨u,w',rfl,r1,r2⟩:=JfQ r;cases hc w' r2;exact ZR I r1 ty e fun tk=>⟨.bl b,H,I.tok tk,rfl,q⟩
noncomputable def JnT:R2:=fun x y H Q=>y=.non/\Q (.bl (decide (x=.non))) H
noncomputable def Jiz:R2:=fun x y H Q=>y=.non/\Q (.bl (!decide (x=.non))) H
theorem JkK:OpR X (compareOp .Is) JnT:=Jnx
theorem Jae:OpR X (compareOp .IsNot) Jiz:=JkL
noncomputable def JnU:List V->Hp->VK->Prop:=fun xs H Q=>∃i j,xs=[.int i,.int j]/\Q (.int (if j>i then j else i)) H
noncomputable def JnV:List V->Hp->VK->Prop:=fun xs H Q=>∃i j,xs=[.int i,.int j]/\Q (.int (if j<i then j else i)) H
theorem JfZ(hc:X.calm=true):CallR X (.builtin "max") JnU:=JfY hc
theorem WQ(hc:X.calm=true):CallR X (.builtin "min") JnV:=Jf0 hc
noncomputable def JlE(K:Frag)(ta:TE):TT:=fun σ H Q=>ta σ H fun x H1=>∃k,JfW K x H1 k/\Q k H1
theorem JnS{a:Expr}{ta:TE}(ha:PE X a ta)(he:∀whole,isTrue a X.env whole=(do let v <- whole;standAt a.pos;holding [v] (truthy v))):PT X a (JlE X.K ta):=Jip ha he
noncomputable def GV(mg:Str->Option Value)(x:Str)(v:V):Prop:=∃u,mg x=some u/\RelV v u
theorem VB{x:Str}{v:V}{pos:Pos}(hg:Gl X x)(hm:GV X.mg x v)(hd:(x == ("__debug__":Str))=false:=by decide):PE X (.Name x pos) (tC v):=by obtain⟨u,h1,h2⟩:=hm;exact YJ hg h1 h2 hd
end
theorem Vr:bootBuiltins "len"=some (.builtin "len"):=by decide +kernel
theorem Jr:bootBuiltins "isinstance"=some (.builtin "isinstance"):=by decide +kernel
theorem Jms:bootBuiltins "max"=some (.builtin "max"):=by decide +kernel
theorem JdC:bootBuiltins "min"=some (.builtin "min"):=by decide +kernel
theorem Vs:bootBuiltins "sum"=some (.builtin "sum"):=by decide +kernel
theorem JaQ:bootBuiltins "sorted"=some (.builtin "sorted"):=by decide +kernel
theorem Jey:bootBuiltins "bool"=some (.type "bool"):=by decide +kernel
theorem Zn:bootBuiltins "list"=some (.type "list"):=by decide +kernel
theorem Jci:bootBuiltins "tuple"=some (.type "tuple"):=by decide +kernel
theorem Jg6:bootBuiltins "zip"=some (.type "zip"):=by decide +kernel
theorem Jbo:bootBuiltins "enumerate"=some (.type "enumerate"):=by decide +kernel
theorem Jch:bootBuiltins "reversed"=some (.type "reversed"):=by decide +kernel
structure Cal (P:Program) (w:World) (K:Frag) (mg:Str->Option Value) (base:Heap) (x:Str) (k:Nat) (ps:List Str) (sp:Sp):Prop where
 ex:∃(f:Addr) (fd:FuncData),FnOk P w K mg base CX0 k f fd ps sp/\mg x=some (.ref f)/\keepIn K (.ref f)=true/\Binds K fd ps []
structure CalM (P:Program) (w:World) (K:Frag) (mg:Str->Option Value) (base:Heap) (x:Str) (C:Addr) (k:Nat) (ps:List Str) (sp:Sp):Prop where
 ex:∃(f:Addr) (fd:FuncData),Mk K C f/\FnOk P w K mg base CX0 k f fd ps sp/\mg x=some (.ref C)/\Binds K fd ps []
section
variable{X:Cx}{k:Nat}{C:Addr}{ps:List Str}{sp:Sp}{x:Str}{p pos:Pos}{e:Expr}{es:List Expr}{t:TA}
theorem Jv(c:Cal X.prog X.w X.K X.mg X.base x k ps sp)(hr:Room k X.A)(hg:Gl X x)(ha:PA X (e::es) t)(hdb:(x == ("__debug__":Str))=false:=by decide)
 (he:starEach (e::es) X.env=(false,eval e X.env)::starEach es X.env:=by rfl) (hpl:(backTo pos (starEach es X.env)).any (·.1)=false:=by rfl):PE X (.Call (.Name x p) (e::es) [] pos) (WK sp [] E0 t):=by
 obtain⟨f,fd,F,h1,h2,h3⟩:=c.ex;exact Jfo F hr hg h1 h2 h3 .nil Jl3 ha hdb he hpl
theorem Jag(c:CalM X.prog X.w X.K X.mg X.base x C k ps sp)(hr:Room (k+1) X.A)(hg:Gl X x)(ha:PA X (e::es) t)(hdb:(x == ("__debug__":Str))=false:=by decide)
 (he:starEach (e::es) X.env=(false,eval e X.env)::starEach es X.env:=by rfl) (hpl:(backTo pos (starEach es X.env)).any (·.1)=false:=by rfl):PE X (.Call (.Name x p) (e::es) [] pos) (JfM C sp [] E0 t):=by
 obtain⟨f,fd,M,F,h1,h3⟩:=c.ex;exact JkP M F hr hg h1 h3 .nil Jl3 ha hdb he hpl
end

noncomputable def JdS(K:Frag)(tl:TE):TI:=fun σ H R=>JlW K tl σ H R\/Jpd K tl σ H R
theorem JnM{X:Cx}{tg l:Expr}{tl:TE}(hl:PE X l tl):PI X tg l (JdS X.K tl):=by
 intro pins s σ H R I h;rcases h with h|h
 ·exact JkQ hl pins s σ H R I h
 ·exact JnN hl pins s σ H R I h

theorem JdA{X:Cx}{sc:Scope}{N':List Str}{imp:List (Option Nat)}(h1:sc.kind=.function)
 (h2:(sc.names.all (fun y=>y.2 != .free && y.2 != .cell && (y.2 != .local || sc.names.lookup y.1 == some .local)) && imp.all (·.isNone) && (imp.length == N'.length))=true):Blk X sc [] N' imp:=by
 simp only[Qv,KE] at h2;obtain⟨⟨h2,h3⟩,h4⟩:=h2
 have nofree:∀y∈sc.names,y.2≠.free:=fun y hy=>by
  have:=(h2 y hy).1.1
  simpa using this
 have nocell:∀y∈sc.names,y.2≠.cell:=fun y hy=>by
  have:=(h2 y hy).1.2
  simpa using this
 refine⟨closureFor_none nofree,h1,nocell,fun y hy hl=>?_,(fun p hp=>nomatch hp),fun y hy hk=>?_,by simpa using h4,fun p hp k e=>?_⟩
 ·have:=(h2 y hy).2;rw[hl] at this
  simpa using this
 ·have:(relabel sc X.env).names=sc.names:=by
   unfold relabel;refine map_eq_self fun x hx=>?_
   obtain⟨n,q⟩:=x;have:(q == NameKind.free)=false:=by simpa using nofree _ hx
   simp[this]
  rw[this] at hy;rcases hk with z|z
  ·exact absurd z (nocell y hy)
  ·exact absurd z (nofree y hy)
 ·have:=h3 p.1 (Km hp).1;rw[e] at this;cases this

section
variable{K:Frag}{σ:St}{H H1:Hp}{Q:VK}{i:Nat}{v:V}{ta tb te:TE}{r:R2}{D:Ends}{t u:TS}{c:TT}
theorem Jol(h:σ[i]?=some (some v))(q:Q v H):Zl i σ H Q:=⟨v,h,q⟩
theorem JqB(q:Q v H):tC v σ H Q:=q
theorem JpU(q:ta σ H fun x H1=>tb σ H1 fun y H2=>r x y H2 Q):tOp r ta tb σ H Q:=q
theorem JpX{r:V->Hp->VK->Prop}(q:ta σ H fun x H1=>r x H1 Q):tUn r ta σ H Q:=q
theorem JpS{g:Int->Int->V}{a b:Int}(q:Q (g a b) H):rI0 g (.int a) (.int b) H Q:=⟨a,b,rfl,rfl,q⟩
theorem JqC{C:Int->Int->Prop}{g:Int->Int->V}{a b:Int}(h:C a b)(q:Q (g a b) H):rI C g (.int a) (.int b) H Q:=⟨a,b,rfl,rfl,h,q⟩
theorem JqD{g:Int->V}{a:Int}(q:Q (g a) H):rU g (.int a) H Q:=⟨a,rfl,q⟩
theorem Jk1{a b:Int}(q:Q (.int (a+b)) H):Jfv K (.int a) (.int b) H Q:=.inl ⟨a,b,rfl,rfl,q⟩
theorem Jn1{a b:Int}(q:Q (.bl (decide (a=b))) H):Jiw K (.int a) (.int b) H Q:=.inl ⟨rfl,by
 have:decide (V.int a=V.int b)=decide (a=b):=by simp
 rw[this];exact q⟩
theorem Joc{a b:Int}(q:Q (.bl (!decide (a=b))) H):Jiy K (.int a) (.int b) H Q:=.inl ⟨rfl,by
 have:decide (V.int a=V.int b)=decide (a=b):=by simp
 rw[this];exact q⟩
theorem Jn2{a b:Str}(q:Q (.bl (decide (a=b))) H):Jiw K (.str a) (.str b) H Q:=.inl ⟨rfl,by
 have:decide (V.str a=V.str b)=decide (a=b):=by simp
 rw[this];exact q⟩
theorem Jod{a b:Str}(q:Q (.bl (!decide (a=b))) H):Jiy K (.str a) (.str b) H Q:=.inl ⟨rfl,by
 have:decide (V.str a=V.str b)=decide (a=b):=by simp
 rw[this];exact q⟩
theorem Jn6{x:V}(q:Q (.bl (decide (x=.non))) H):JnT x .non H Q:=⟨rfl,q⟩
theorem Jlb{x:V}(q:Q (.bl (!decide (x=.non))) H):Jiz x .non H Q:=⟨rfl,q⟩
theorem JiG{a b:Int}(q:Q (.int (max a b)) H):JnU [.int a,.int b] H Q:=⟨a,b,rfl,by
 have e:(if b>a then b else a)=max a b:=by rw[Int.max_def];split <;> split <;> omega
 rw[e];exact q⟩
theorem JiH{a b:Int}(q:Q (.int (min a b)) H):JnV [.int a,.int b] H Q:=⟨a,b,rfl,by
 have e:(if b<a then b else a)=min a b:=by rw[Int.min_def];split <;> split <;> omega
 rw[e];exact q⟩
theorem Jlf{Qb:Bool->Hp->Prop}(q:ta σ H fun x H1=>∃k,JfW K x H1 k/\Qb k H1):JlE K ta σ H Qb:=q
theorem Jn3{f:Str}(q:ta σ H fun x H1=>∃a C dx fs v,x=.ref a/\H1 a=some (.ins C dx fs)/\Cls K C/\NoAttr K C f/\fs.lookup f=some v/\Q v H1):JlB K ta f σ H Q:=q
theorem Jle{Qb:Bool->Hp->Prop}(q:te σ H fun x H'=>∃k,x=.bl k/\Qb k H'):JfO te σ H Qb:=q
theorem JpW{Qb:Bool->Hp->Prop}(q:te σ H fun x H'=>∃k,x=.bl k/\Qb k H'):tB te σ H Qb:=q
theorem JnZ{c':TT}{Qb:Bool->Hp->Prop}(q:c σ H fun b H1=>if b=true then c' σ H1 Qb else Qb false H1):Jow c c' σ H Qb:=q
theorem JpV{c':TT}{Qb:Bool->Hp->Prop}(q:c σ H fun b H1=>if b=true then Qb true H1 else c' σ H1 Qb):tOr c c' σ H Qb:=q
theorem Jof{Qb:Bool->Hp->Prop}(q:c σ H fun b H1=>Qb (!b) H1):Joy c σ H Qb:=q
theorem Jlc(q:te σ H fun x H1=>∃b,x=.bl b/\Q (.bl (!b)) H1):Jqa te σ H Q:=q
theorem Jk2(q:ta σ H fun x H1=>∃b,x=.bl b/\if b=true then tb σ H1 Q else Q (.bl false) H1):JiY ta tb σ H Q:=q
theorem Jog(q:ta σ H fun x H1=>∃b,x=.bl b/\if b=true then Q (.bl true) H1 else tb σ H1 Q):JqH ta tb σ H Q:=q
theorem Jn4(q:c σ H fun b H1=>if b=true then ta σ H1 Q else tb σ H1 Q):tIf c ta tb σ H Q:=q
theorem Joj(q:t { D with nx:=u D } σ H):JlD t u D σ H:=q
theorem Jn0{g:TG}(q:te σ H fun x H1=>g x σ H1 D.nx):Jb3 te g D σ H:=q
theorem JiF{Qs:St->Hp->Prop}(q:Qs (σ.set i (some v)) H):Vv i v σ H Qs:=q
theorem Jn5(q:c σ H fun b H1=>if b=true then t D σ H1 else u D σ H1):JlC c t u D σ H:=q
theorem Joh(q:te σ H D.rt):Ji4 te D σ H:=q
theorem Jk4(q:te σ H fun _ H1=>D.nx σ H1):WL te D σ H:=q
theorem Jla(q:D.nx σ H):Ji3 D σ H:=q
theorem Jk3{tr:TA}{Ql:List V->Hp->Prop}(q:ta σ H fun x H1=>tr σ H1 fun xs H2=>Ql (x::xs) H2):YE ta tr σ H Ql:=q
theorem Joe{Ql:List V->Hp->Prop}(q:Ql [] H):UV σ H Ql:=q
theorem JpR{r:List V->Hp->VK->Prop}{ts:TA}(q:ts σ H fun vs H1=>r vs H1 Q):tCB r ts σ H Q:=q
theorem Zt{sp:Sp}{E:XK}{ts:TA}(q:ts σ H fun vs H1=>sp vs H1 Q E):WK sp [] E ts σ H Q:=by
 have e:(fun vs H1=>sp (vs++[]) H1 Q E)=fun vs H1=>sp vs H1 Q E:=by funext vs H1;rw[Kl]
 show ts σ H fun vs H1=>sp (vs++[]) H1 Q E
 rw[e];exact q
noncomputable def JgV(xs:List V)(H:Hp)(Q:VK):Prop:=xs.length<=sizeLine/\∀p,H p=none->Q (.ref p) (upd H p (.tup xs))
noncomputable def Jmk(xs:List V)(H:Hp)(Q:VK):Prop:=xs.length<=sizeLine/\∀p,H p=none->Q (.ref p) (upd H p (.lst xs))
theorem Jok{ts:TA}(q:ts σ H fun xs H1=>JgV xs H1 Q):JoA ts σ H Q:=q
theorem Job{ts:TA}(q:ts σ H fun xs H1=>Jmk xs H1 Q):Ji1 ts σ H Q:=q
theorem Jmp{xs:List V}(hl:xs.length<=sizeLine)(q:∀p H',H p=none->Same H H'->H' p=some (.tup xs)->Q (.ref p) H'):JgV xs H Q:=⟨hl,fun p hp=>q p _ hp (.new hp) Jt⟩
theorem Jk7{a:Addr}{xs:List V}(h:SqL K H a xs)(q:Q (.int xs.length) H):Jd9 K [.ref a] H Q:=⟨_,_,rfl,.inl ⟨xs,h,rfl⟩,q⟩
theorem Jk9{a:Addr}{xs:List V}(h:SqT K H a xs)(q:Q (.int xs.length) H):Jd9 K [.ref a] H Q:=⟨_,_,rfl,.inr ⟨xs,h,rfl⟩,q⟩
theorem Jk8{x:Str}(h:x.length<=sizeLine)(q:Q (.int x.length) H):Jd9 K [.str x] H Q:=⟨_,_,rfl,⟨h,rfl⟩,q⟩
theorem JgG{a:Addr}{xs:List V}(h:SqL K H a xs)(q:∀p H',H p=none->Same H H'->H' p=some (.tup xs)->Q (.ref p) H'):Jak K [.ref a] H Q:=⟨a,xs,rfl,.inl ⟨h,fun p hp=>q p _ hp (.new hp) Jt⟩⟩
theorem Jn8{a:Addr}{xs:List V}{j:Int}{v:V}(h:SqL K H a xs)(e:atI xs j=some v)(q:Q v H):rIx K (.ref a) (.int j) H Q:=.inl ⟨a,xs,j,v,rfl,rfl,h,e,q⟩
theorem Joa{a:Addr}{xs:List V}{j:Int}{v:V}(h:SqT K H a xs)(e:atI xs j=some v)(q:Q v H):rIx K (.ref a) (.int j) H Q:=.inr (.inl ⟨a,xs,j,v,rfl,rfl,h,e,q⟩)
theorem Jn9{z:Str}{j:Int}{c:Nat}(hz:z.length<=sizeLine)(e:atI z.cps.toList j=some c)(q:Q (.str ⟨#[c]⟩) H):rIx K (.str z) (.int j) H Q:=.inr (.inr ⟨z,j,c,rfl,rfl,hz,e,q⟩)
theorem Jn7{x:V}{n:String}{t:Value}{b:Bool}(ty:TyS K H x t)(e:kitOne K t (.type n)=some b)(q:Q (.bl b) H):Jk0 K [x,.ty n] H Q:=⟨x,_,t,_,b,rfl,ty,fun _ r=>r,e,q⟩
theorem JpT{T:String}{rm:V->List V->Hp->VK->Prop}{to:TE}{ts:TA}(q:to σ H fun x H1=>tyV K T x H1/\ts σ H1 fun xs H2=>rm x xs H2 Q):tBM K T rm to ts σ H Q:=q
theorem Jk6{to ti:TE}{ts:JoU}{Qs:St->Hp->Prop}(q:to σ H fun o H1=>ti σ H1 fun i H2=>ts o i v H2 fun H3=>Qs σ H3):Jqs to ti ts v σ H Qs:=q
theorem JfA{a:Addr}{xs:List V}{n:Nat}{ts:TGs}{Qs:St->Hp->Prop}(h:SqT K H a xs)(hl:xs.length=n)(q:ts xs σ H Qs):Jgb K n ts (.ref a) σ H Qs:=⟨a,xs,rfl,h,hl,q⟩
theorem JiE{t:TG}{u:TGs}{x:V}{xs:List V}{Qs:St->Hp->Prop}(q:t x σ H fun σ' H'=>u xs σ' H' Qs):Je1 t u (x::xs) σ H Qs:=⟨x,xs,rfl,q⟩
theorem Jk5{Qs:St->Hp->Prop}(q:Qs σ H):Jkb [] σ H Qs:=⟨rfl,q⟩
theorem Jld{f:Str}{tv:TE}(q:tv σ H fun y H1=>ta σ H1 fun x H2=>∃a C dx fs,x=.ref a/\H2 a=some (.ins C dx fs)/\Cls K C/\NoAttr K C f/\fs.length<1000/\D.nx σ (upd H2 a (.ins C dx (putF f y fs)))):Joo K ta tv f D σ H:=q
theorem JiD{r':R2}{tc:TE}(q:ta σ H fun x H1=>tb σ H1 fun y H2=>r x y H2 fun z H3=>∃k,z=.bl k/\(if k=true then tc σ H3 fun w' H4=>r' y w' H4 Q else Q (.bl false) H3)):Jei r r' ta tb tc σ H Q:=q
theorem Jom{Qb:Bool->Hp->Prop}(q:Qb true H):JoB σ H Qb:=q
theorem ifd{c A B:Prop}[Decidable c](h1:c->A)(h2:¬c->B):if decide c=true then A else B:=by
 by_cases h:c
 ·rw[if_pos (decide_eq_true h)];exact h1 h
 ·rw[if_neg (by simpa using h)];exact h2 h
theorem ifT{b:Bool}{A B:Prop}(e:b=true)(h:A):if b=true then A else B:=by rw[if_pos e];exact h
theorem ifF{b:Bool}{A B:Prop}(e:b=false)(h:B):if b=true then A else B:=by rw[if_neg (by rw[e];exact Qp)];exact h

theorem JgF{tl:TE}{g:TG}{a:Addr}{xs:List V}(hx:∀R:VK,R (.ref a) H1->tl σ H R)(hq:SqL K H1 a xs\/SqT K H1 a xs)(Pv:Nat->St->Hp->Prop)(h0:Pv 0 σ H1)(hS:∀i σ' H',Pv i σ' H'->Same H1 H')
 (hs:∀i x σ' H',xs[i]?=some x->Pv i σ' H'->g x σ' H' fun σ2 H2=>t { D with nx:=Pv (i+1),ct:=Pv (i+1),bk:=D.nx } σ2 H2) (hd:∀σ' H',Pv xs.length σ' H'->D.nx σ' H'):JgO (JdS K tl) g t D σ H:=by
 rcases hq with hq|hq
 ·exact .inl (hx _ ⟨a,rfl,⟨xs,hq⟩,JhD (xs:=xs) Pv h0 (fun i σ' H' _ p=>(hS i σ' H' p).seq hq) hs hd⟩)
 ·exact .inr (hx _ ⟨a,rfl,⟨xs,hq⟩,Jka (xs:=xs) Pv h0 (fun i σ' H' _ p=>(hS i σ' H' p).seqT hq) hs hd⟩)
theorem JeJ{J:It}{g:TG}{tt:TT}{imp:List (Option Nat)}{n:Nat}(hn:n<=sizeLine)(Pv:Nat->List V->St->Hp->Prop)(h0:Pv 0 [] (ZN imp σ) H1)(hy:∀i ys σ' H',Pv i ys σ' H'->ys.length<=i)
 (hstop:∀ys σ' H',Pv n ys σ' H'->J.stop n H') (hgo:∀i ys σ' H',i<n->Pv i ys σ' H'->J.go i H')
 (hs:∀i ys x σ' H' H2,i<n->J.yld i H' x H2->Pv i ys σ' H'->g x σ' H2 fun σ2 H3=>tt σ2 H3 fun b H4=>if b=true then te σ2 H4 fun y H5=>Pv (i+1) (ys++[y]) σ2 H5 else Pv (i+1) ys σ2 H4)
 (hd:∀ys σ' H',Pv n ys σ' H'->∀p H2,H' p=none->Same H' H2->H2 p=some (.lst ys)->Q (.ref p) H2) :
 ∃W:Nat->Nat->List V->St->Hp->Prop,(∃m,W 0 m [] (ZN imp σ) H1)/\∀i m ys σ' H',W i m ys σ' H' ->
  (J.stop i H'/\ys.length<=sizeLine/\∀D,H' D=none->Q (.ref D) (upd H' D (.lst ys))) ∨
  (J.go i H'/\ys.length<sizeLine/\∃N:List V->St->Hp->Prop,(∀ys' σ2 H2,N ys' σ2 H2->∃m',m'<m/\W (i+1) m' ys' σ2 H2) ∧
   ∀x H2,J.yld i H' x H2->g x σ' H2 fun σ2 H3=>tt σ2 H3 fun b H4=>if b=true then te σ2 H4 fun y H5=>N (ys++[y]) σ2 H5 else N ys σ2 H4):=by
 refine⟨fun i m ys σ' H'=>m=n-i/\i<=n/\Pv i ys σ' H',⟨n,by simp,Gn _,h0⟩,?_⟩;rintro i m ys σ' H' ⟨rfl,hi,p⟩;have hl:=hy i ys σ' H' p
 by_cases hlt:i<n
 ·exact .inr ⟨hgo i ys σ' H' hlt p,by omega,fun ys' σ2 H2=>Pv (i+1) ys' σ2 H2,fun ys' σ2 H2 p'=>⟨n-(i+1),by omega,rfl,hlt,p'⟩,fun x H2 y=>hs i ys x σ' H' H2 hlt y p⟩
 ·have e:i=n:=by omega
  subst e;exact .inl ⟨hstop ys σ' H' p,by omega,fun q hq=>hd ys σ' H' p q _ hq (.new hq) Jt⟩
theorem Jea{tl:TE}{g:TG}{tt:TT}{imp:List (Option Nat)}{a:Addr}{xs:List V}(hx:∀R:VK,R (.ref a) H1->tl σ H R)(hq:SqL K H1 a xs\/SqT K H1 a xs)(hn:xs.length<=sizeLine)(Pv:Nat->List V->St->Hp->Prop)
 (h0:Pv 0 [] (ZN imp σ) H1) (hy:∀i ys σ' H',Pv i ys σ' H'->ys.length<=i) (hS:∀i ys σ' H',Pv i ys σ' H'->Same H1 H')
 (hs:∀i ys x σ' H',xs[i]?=some x->Pv i ys σ' H'->g x σ' H' fun σ2 H3=>tt σ2 H3 fun b H4=>if b=true then te σ2 H4 fun y H5=>Pv (i+1) (ys++[y]) σ2 H5 else Pv (i+1) ys σ2 H4)
 (hd:∀ys σ' H',Pv xs.length ys σ' H'->∀p H2,H' p=none->Same H' H2->H2 p=some (.lst ys)->Q (.ref p) H2):JfL (JdS K tl) g tt te imp σ H Q:=by
 rcases hq with hq|hq
 ·refine .inl (hx _ ⟨a,rfl,⟨xs,hq⟩,JeJ (n:=xs.length) hn Pv h0 hy (fun ys σ' H' p=>⟨xs,(hS _ _ _ _ p).seq hq,Qn _⟩) (fun i ys σ' H' hi p=>⟨xs,xs[i],(hS _ _ _ _ p).seq hq,by simp[hi]⟩) (fun i ys x σ' H' H2 hi y p=>?_) hd⟩);obtain⟨e,y⟩:=y;subst e;exact hs i ys x σ' _ (y xs ((hS _ _ _ _ p).seq hq)) p
 ·refine .inr (hx _ ⟨a,rfl,⟨xs,hq⟩,JeJ (n:=xs.length) hn Pv h0 hy (fun ys σ' H' p=>⟨xs,(hS _ _ _ _ p).seqT hq,Qn _⟩) (fun i ys σ' H' hi p=>⟨xs,xs[i],(hS _ _ _ _ p).seqT hq,by simp[hi]⟩) (fun i ys x σ' H' H2 hi y p=>?_) hd⟩);obtain⟨e,y⟩:=y;subst e;exact hs i ys x σ' _ (y xs ((hS _ _ _ _ p).seqT hq)) p
end
end L2
namespace L2
open PySem PySem.Spec PyProof.Rows
section
variable{X:Cx}{K:Frag}{pos:Pos}
theorem Jfl(hK:X.K=K):OpR X (binaryOp .Add) (Jfv K):=hK▸JkI
theorem Vi(hK:X.K=K)(hu:X.A.units+64<cLine):OpR X (compareOp .Eq) (Jiw K):=hK▸Jnv hu
theorem WZ(hK:X.K=K)(hu:X.A.units+64<cLine):OpR X (compareOp .NotEq) (Jiy K):=hK▸Jnz hu
theorem YV(hK:X.K=K):CallR X (.builtin "len") (Jd9 K):=hK▸JfX
theorem Jcj(hK:X.K=K):CallR X (.type "tuple") (Jak K):=hK▸Jck
theorem JdF(hK:X.K=K):CallR X (.type "list") (JbP K):=hK▸JdG
theorem VO(hK:X.K=K):CallR X (.builtin "isinstance") (Jk0 K):=hK▸Jhc
theorem Jki(hK:X.K=K):IxR X (rIx K):=hK▸Jm0
theorem Zs{e:Expr}{ta:TE}{f:Str}(hK:X.K=K)(he:PE X e ta)(hb:attributeBase e f X.env (eval e X.env)=eval e X.env):PE X (.Attribute e f pos) (JlB K ta f):=hK▸JnH he hb
theorem JkW{o value:Expr}{f:Str}{pos':Pos}{ta tv:TE}(hK:X.K=K)(ha:PE X o ta)(hv:PE X value tv)(hs:swapsWith value (some (.Attribute o f pos')) pos.line X.env=pure false):PS X (.Assign [.Attribute o f pos'] value pos) (Joo K ta tv f):=hK▸JnQ ha hv hs
theorem JkS{tg l:Expr}{tl:TE}(hK:X.K=K)(hl:PE X l tl):PI X tg l (JdS K tl):=hK▸JnM hl
theorem JS{es:List Expr}{k:Nat}{t:TGs}{n:Nat}(hK:X.K=K)(hc:X.calm=true)(h:PGs X es t)(hn:(assignEach es X.env).length=n)(hst:(assignEach es X.env).findIdx? (·.1)=none):PG X (.Tuple es k pos) (Jgb K n t):=hK▸JnL hc h hn hst
theorem WC{a:Expr}{ta:TE}(hK:X.K=K)(ha:PE X a ta)(he:∀whole,isTrue a X.env whole=(do let v <- whole;standAt a.pos;holding [v] (truthy v))):PT X a (JlE K ta):=hK▸JnS ha he
theorem UN{o e:Expr}{es:List Expr}{to:TE}{t:TA}{name:Str}{apos cpos:Pos}{T id:String}{r:V->List V->Hp->VK->Prop}(hK:X.K=K)(pa:PlainAttrs T)(slot:Slot T name id)(hty:typeOf (.builtin id)=pure (.type "method_descriptor"))(hm:MtR X id r)(ho:PE X o to)(ha:PA X (e::es) t)
 (hbase:attributeBase o name X.env (eval o X.env)=eval o X.env:=by rfl)
 (hfew:((backTo cpos (starEach (e::es) X.env)).all (fun x=>!x.1) && (backToKw cpos (keywordEach [] X.env)).all (fun x=>x.1.isSome)
  && decide ((e::es).length+([]:List Keyword).length+(if ([]:List Keyword).isEmpty then 0 else 1)<30))=true:=by rfl)
 (hline:(apos.endLine == cpos.line)=true:=by rfl) (hs:starEach (e::es) X.env=(false,eval e X.env)::starEach es X.env:=by rfl) (hplain:(backTo cpos (starEach es X.env)).any (·.1)=false:=by rfl) :
 PE X (.Call (.Attribute o name apos) (e::es) [] cpos) (tBM K T r to t):=hK▸JpD pa slot hty hm ho ha hbase hfew hline hs hplain
theorem JkN{o:Expr}{to:TE}{name:Str}{apos cpos:Pos}{T id:String}{r:V->List V->Hp->VK->Prop}(hK:X.K=K)(pa:PlainAttrs T)(slot:Slot T name id)(hty:typeOf (.builtin id)=pure (.type "method_descriptor"))(hm:MtR X id r)(ho:PE X o to)
 (hbase:attributeBase o name X.env (eval o X.env)=eval o X.env:=by rfl) (hline:(apos.endLine == cpos.line)=true:=by rfl):PE X (.Call (.Attribute o name apos) [] [] cpos) (Jox K T r to):=hK▸JnG pa slot hty hm ho hbase hline
end
end L2

namespace LR
open PySem L2

theorem sz2{a b:V}:[a,b].length<=sizeLine:=by show 2<=sizeLine;decide
theorem JoE(K:Frag)(H:Hp)(k:Bool):JfW K (.bl k) H k:=rfl
noncomputable abbrev Pr:=Int×Int
noncomputable def prD(p:Pr):PyData:=.tuple [.int p.1,.int p.2]
section
variable{K:Frag}{H H':Hp}
theorem JkT{v:V}{p:Pr}(r:Rep K H v (prD p)):∃a,v=.ref a/\SqT K H a [.int p.1,.int p.2]:=by
 obtain⟨a,xs,rfl,h,l,q⟩:=r.tupI
 match xs,l,q,h with
 | [x,y],_,q,h =>
  have e1:=(q 0 x (.int p.1) rfl rfl).intI
  have e2:=(q 1 y (.int p.2) rfl rfl).intI;subst e1 e2;exact⟨a,rfl,h⟩
theorem Jij{a:Addr}{b n:Int}(h:SqT K H a [.int b,.int n]):Rep K H (.ref a) (prD (b,n)):=.tupL h (.cons (.int b) (.cons (.int n) .nil))
theorem JkU{a:Addr}{b n:Int}(h:H a=some (.tup [.int b,.int n])):Rep K H (.ref a) (prD (b,n)):=Jij (.of h)
noncomputable abbrev Prs(K:Frag)(H:Hp)(vs:List V)(ps:List Pr):Prop:=RepL K H vs (ps.map prD)
theorem Prs.len{vs:List V}{ps:List Pr}(r:Prs K H vs ps):vs.length=ps.length:=by have:=r.1;rwa [Qo] at this
theorem Prs.at{vs:List V}{ps:List Pr}{i:Nat}{v:V}(r:Prs K H vs ps)(e:vs[i]?=some v):∃p a,ps[i]?=some p/\v=.ref a/\SqT K H a [.int p.1,.int p.2]:=by
 obtain⟨d,h1,h2⟩:=r.get' e;rw[Qx] at h1
 cases hp:ps[i]? with
 | none=>rw[hp] at h1;cases h1
 | some p=>rw[hp] at h1;cases h1;obtain⟨a,e1,e2⟩:=JkT h2;exact⟨p,a,rfl,e1,e2⟩
theorem Prs.snoc{vs:List V}{ps:List Pr}{v:V}{p:Pr}(r:Prs K H vs ps)(h:Rep K H v (prD p)):Prs K H (vs++[v]) (ps++[p]):=by show RepL K H _ _;rw[Gd];exact RepL.snoc r h
noncomputable def Jjp(K:Frag)(H:Hp)(v:V)(ps:List Pr):Prop:=∃a vs,v=.ref a/\(SqL K H a vs\/SqT K H a vs)/\Prs K H vs ps
end

structure Good (ps:List Pr):Prop where
 one:∀(i:Nat) (p:Pr),ps[i]?=some p->1<=p.2
 gap:∀(i:Nat) (p q:Pr),ps[i]?=some p->ps[i+1]?=some q->p.1+p.2<q.1
theorem Good.nil:Good []:=⟨fun i p e=>by simp at e,fun i p q e=>by simp at e⟩
theorem Good.snoc{ps:List Pr}{p:Pr}(g:Good ps)(h1:1<=p.2)(h2:∀q,ps[ps.length-1]?=some q->q.1+q.2<p.1):Good (ps++[p]):=by
 refine⟨fun i q e=>?_,fun i q r e1 e2=>?_⟩
 ·by_cases hi:i<ps.length
  ·rw[Qq hi] at e;exact g.one i q e
  ·rw[QH (by omega)] at e;obtain⟨h3,h4⟩:=Qg.mp e;have:i-ps.length=0:=by simp at h3;omega
   rw[this] at e;simp at e;subst e;exact h1
 ·by_cases hi:i+1<ps.length
  ·rw[Qq (by omega)] at e1;rw[Qq hi] at e2;exact g.gap i q r e1 e2
  ·rw[QH (by omega)] at e2;obtain⟨h3,h4⟩:=Qg.mp e2;have h5:i+1-ps.length=0:=by simp at h3;omega
   rw[h5] at e2;simp at e2;subst e2;have h6:i=ps.length-1:=by omega
   have h7:i<ps.length:=by omega
   rw[Qq h7] at e1;rw[h6] at e1;exact h2 q e1

noncomputable def Jeb(t:Addr):List (Str×V):=[("stretches",.ref t)]
noncomputable def RowAt(C:Addr)(K:Frag)(H:Hp)(v:V)(ps:List Pr):Prop :=
 ∃x dx t ts,v=.ref x/\H x=some (.ins C dx (Jeb t))/\H t=some (.tup ts)/\Prs K H ts ps
theorem RowAt.mono{C:Addr}{K:Frag}{H H':Hp}{v:V}{ps:List Pr}(e:Same H H')(r:RowAt C K H v ps):RowAt C K H' v ps:=by obtain⟨x,dx,t,ts,h0,h1,h2,h3⟩:=r;exact⟨x,dx,t,ts,h0,e _ _ h1,e _ _ h2,RepL.mono e h3⟩
structure RowC (K:Frag) (C:Addr):Prop where
 cl:Cls K C
 ns:NoAttr K C "stretches"
theorem JgJ(t:Addr):(Jeb t).lookup ("stretches":Str)=some (.ref t):=by
 unfold Jeb;rw[List.lookup_cons];have:(("stretches":Str) == ("stretches":Str))=true:=by decide +kernel
 rw[this]
theorem Jiq(t:Addr):putF "stretches" (.ref t) []=Jeb t:=rfl

noncomputable def Jb2(K:Frag):Sp:=fun vs H Q _=>∃v ps,vs=[v]/\Jjp K H v ps/\Good ps/\∀H',Same H H'->Q .non H'
noncomputable def Wk(C:Addr)(K:Frag):Sp:=fun vs H Q _=>∃x dx v ps,vs=[.ref x,v]/\H x=some (.ins C dx [])/\Jjp K H v ps/\Good ps/\ps.length<=30 ∧
 ∀H' t ts,SameEx x H H'->H' x=some (.ins C dx (Jeb t))->H' t=some (.tup ts)->Prs K H' ts ps->Q .non H'
noncomputable def JgY(C:Addr)(sp:Sp)(E:XK)(vs:List V)(H1:Hp)(Q:VK):Prop:=∀x dx,H1 x=none->H1 dx=none->dx≠x ->
 sp (.ref x::vs) (upd (upd H1 dx (.own x)) x (.ins C dx [])) (fun v H2=>v=.non/\Q (.ref x) H2) E
theorem JfB{C:Addr}{sp:Sp}{E:XK}{ts:TA}{σ:St}{H:Hp}{Q:VK}(q:ts σ H fun vs H1=>JgY C sp E vs H1 Q):JfM C sp [] E ts σ H Q:=by
 have e:(fun vs H1=>JgY C sp E vs H1 Q)=fun vs H1=>∀x dx,H1 x=none->H1 dx=none->dx≠x->sp (.ref x::(vs++[])) (upd (upd H1 dx (.own x)) x (.ins C dx [])) (fun v H2=>v=.non/\Q (.ref x) H2) E:=by funext vs H1;rw[Kl];rfl
 show ts σ H _;rw[<- e];exact q
theorem Joi{C:Addr}{K:Frag}{H:Hp}{Q:VK}{v:V}{ps:List Pr}{E:XK}(h:Jjp K H v ps)(g:Good ps)(hl:ps.length<=30)(q:∀x H',H x=none->Same H H'->RowAt C K H' (.ref x) ps->Q (.ref x) H'):JgY C (Wk C K) E [v] H Q:=by
 intro x dx nx ndx nex
 have s0:Same H (upd (upd H dx (.own x)) x (.ins C dx [])):=fun b o e=>by rw[Ji (Jq e nx),Ji (Jq e ndx)];exact e
 obtain⟨a,vs,rfl,hq,hp⟩:=h;refine⟨x,dx,_,ps,rfl,Jt,⟨a,vs,rfl,hq.imp s0.seq s0.seqT,RepL.mono s0 hp⟩,g,hl,fun H' t ts e h1 h2 h3=>⟨rfl,q x H' nx (fun b o h=>e b o (Jq h nx) (s0 b o h)) ⟨x,dx,t,ts,rfl,h1,h2,h3⟩⟩⟩

noncomputable def cell(ns:List Int)(k:Int):Int:=ns.getD k.toNat 0
end LR

namespace LR
open PySem L2

theorem Jhe{ns:List Int}{k:Int}(h:¬k<(ns.length:Int)):cell ns k=0:=by unfold cell;rw[Kf,LG (by omega)];rfl
noncomputable def Zk(l:List Int)(k:Int):Int:=l.getD k.toNat 0
theorem Jc2{l:List Int}{k:Int}{P:Int->Prop}(h0:0<=k)(h1:k<(l.length:Int))(h:∀x∈l,P x):P (Zk l k):=by
 unfold Zk;have:k.toNat<l.length:=by omega
 rw[Kf,Q6 this];exact h _ (MF this)
noncomputable def Jew(ps:List Pr):Nat->V
 | 0=>.non
 | i+1=>match ps[i]? with
  | some p=>.int (p.1+p.2)
  | none=>.non
theorem Vq{ps:List Pr}{i:Nat}{p:Pr}(e:ps[i]?=some p):Jew ps (i+1)=.int (p.1+p.2):=by show(match ps[i]? with|some p=>V.int (p.1+p.2)|none=>V.non)=_;rw[e]
theorem Jhh{K:Frag}{v:V}{ps:List Pr}{H:Hp}{Q:VK}{E:XK}(h:Jjp K H v ps)(g:Good ps)(q:∀H',Same H H'->Q .non H'):Jb2 K [v] H Q E:=⟨v,ps,rfl,h,g,q⟩
theorem Jc5{K:Frag}{a:Addr}{xs:List V}{H:Hp}{Q:VK}(h:SqL K H a xs\/SqT K H a xs)(q:Q (.int xs.length) H):Jd9 K [.ref a] H Q:=by
 rcases h with h|h
 ·exact Jk7 h q
 ·exact Jk9 h q
theorem SameEx.sqT'{K:Frag}{H H':Hp}{x a C dx:Addr}{fs:List (Str×V)}{xs:List V}(e:SameEx x H H')(hx:H x=some (.ins C dx fs))(h:SqT K H a xs):SqT K H' a xs:=by
 rcases h with (h|⟨o,h⟩)|h
 ·exact .inl (.inl (e _ _ (Ja8 h hx (by intro z;cases z)) h))
 ·exact .inl (.inr ⟨o,e _ _ (Ja8 h hx (by intro z;cases z)) h⟩)
 ·exact .inr h
theorem Prs.monoIns{K:Frag}{H H':Hp}{x C dx:Addr}{fs:List (Str×V)}{vs:List V}{ps:List Pr}(e:SameEx x H H')(hx:H x=some (.ins C dx fs))(r:Prs K H vs ps):Prs K H' vs ps:=by refine⟨r.1,fun i v d h1 h2=>?_⟩;obtain⟨p,a,e1,e2,e3⟩:=r.at h1;rw[Qx,e1] at h2;cases h2;subst e2;exact Jij (SameEx.sqT' e hx e3)
noncomputable def JfK(K:Frag):Sp:=fun vs H Q _=>∃(a:Addr) (ns:List Int),vs=[.ref a]/\SqL K H a (ns.map V.int)/\ns.length<=63/\∀H',Q (.bl true) H'
end LR
namespace LR
open PySem L2
end LR

namespace L2
open PySem PySem.Spec PyProof.Rows

section
variable{X:Cx}{pins:List (Addr×Obj)}{σ:St}{H:Hp}{s:Shared}
theorem Jgo{A':Around}{E:Value->Shared->Prop}{Q:Value->Shared->Prop}{a:Addr}{vs:List V}(hh:A'.handled=none)(I:Inv X pins σ H s)(hq:SqL X.K H a vs\/SqT X.K H a vs)
 (h:∀(its:List Value) (J:Addr) (fp wr:List Addr) (Sx:Nat->Heap->Prop) (s2:Shared),Vals vs its->Walks X.prog X.w A' J fp wr its.toArray.size (fun i v=>its.toArray[i]?=some v) Sx->Sx 0 s2.heap->(∀b∈fp,b<s2.heap.objs.size) ->
  (∀h' tk,(∀b o,b∉wr->s2.heap.get? b=some o->h'.get? b=some o)->Inv X pins σ H { s2 with heap:=h',toks:=tk })->Q (.ref J) s2):wpAny (model X.prog X.w) A' (pyIter (.ref a)) Q E s:=by
 have nin:∀b o,s.heap.get? b=some o->b∉[s.heap.objs.size]:=fun b o e z=>by
  have:b=s.heap.objs.size:=by simpa using z
  exact absurd (Qj e) (by rw[this];exact Q5 _)
 rcases hq with hq|hq
 ·obtain⟨its,rv,p,hz⟩:=I.list hq;have hlt:a<s.heap.objs.size:=by obtain⟨_,e,_⟩:=p.isList;exact Qj e
  refine Lv p.isList ?_;refine h its _ _ _ _ _ rv (Walks.list hh _ a (Qr hlt) its.toArray) ⟨⟨_,Qk _ rfl,rfl,rfl⟩,p.isList.push _⟩ (fun b hb=>?_) fun h' tk hk=>I.kept fun b o e=>hk b o (nin b o e) (Qe _ e)
  show b<(s.heap.push _).objs.size;rw[Q4];rcases Qh.mp hb with z|z
  ·rw[z];exact Gi _
  ·have:b=a:=by simpa using z
   rw[this];exact Gk hlt
 ·obtain⟨its,rv,p,hz⟩:=I.tuple hq;have ht:s.heap.IsTuple a its.toArray:=p;have hlt:a<s.heap.objs.size:=by obtain⟨_,e,_⟩:=ht;exact Qj e
  refine L8 ht ?_;refine h its _ _ _ _ _ rv (Walks.tuple hh _ a (Qr hlt) its.toArray) ⟨⟨_,Qk _ rfl,rfl,rfl⟩,?_⟩ (fun b hb=>?_) fun h' tk hk=>I.kept fun b o e=>hk b o (nin b o e) (Qe _ e)
  ·obtain⟨o,e,c⟩:=ht;exact⟨o,Qe _ e,c⟩
  ·show b<(s.heap.push _).objs.size;rw[Q4];rcases Qh.mp hb with z|z
   ·rw[z];exact Gi _
   ·have:b=a:=by simpa using z
    rw[this];exact Gk hlt
end

theorem Ze(l:List Int):∀j,j<=l.length->preSum (fun i=>l.getD i 0) j=(l.take j).sum
 | 0,_=>by simp[preSum]
 | j+1,h=>by
  rw[preSum,Ze l j (by omega)];have hj:j<l.length:=by omega
  rw[List.take_add_one,List.sum_append];simp[hj]
section
variable{X:Cx}
noncomputable def JnY(K:Frag):List V->Hp->VK->Prop:=fun xs H Q=>∃(a:Addr) (ns:List Int),xs=[.ref a]/\(SqL K H a (ns.map V.int)\/SqT K H a (ns.map V.int))/\Q (.int ns.sum) H
theorem Jf3(hc:X.calm=true):CallR X (.builtin "sum") (JnY X.K):=by
 intro pins s σ H xs us Q I r h;obtain⟨a,ns,rfl,hq,q⟩:=h;obtain⟨u,rfl,rx⟩:=WO r;cases rx;refine call_sum_walkG (Jgo (A':=X.A.in1) (I.ok.hd hc) I hq fun its J fp wr Sx s2 rv W st hfp hI=>?_);have hi:=Y8 rv;have hl:=rv.length;rw[Qo] at hl;refine⟨J,fp,wr,_,_,Sx,fun i=>ns.getD i 0,rfl,W,st,hfp,fun i v e=>?_,fun h' tk t' hk=>?_⟩
 ·have e':its[i]?=some v:=by simpa using e
  obtain⟨x,e1,e2⟩:=rv.get' e';rw[Qx] at e1
  cases hn:ns[i]? with
  | none=>rw[hn] at e1;cases e1
  | some n=>rw[hn] at e1;cases e1;obtain⟨t,rfl⟩:=e2;exact⟨t,by simp[Kf,hn]⟩
 ·refine⟨.int ns.sum,H,hI h' tk hk,⟨t',?_⟩,q⟩;rw[show its.toArray.size=ns.length by simp[hl],Ze ns _ (Qn _),List.take_length]
noncomputable def strI(i:Int):Str:=(toString i:String)
end
section
variable{X:Cx}{K:Frag}
theorem YW(hK:X.K=K)(hc:X.calm=true):CallR X (.builtin "sum") (JnY K):=hK▸Jf3 hc
end
section
variable{K:Frag}{H:Hp}{Q:VK}
end
end L2
namespace L2
open PySem PySem.Spec PyProof.Rows
noncomputable def AllP{α:Type}(P:α->Prop):List α->Prop
 | []=>True
 | x::xs=>P x/\AllP P xs
theorem AllP.mem{α:Type}{P:α->Prop}:∀{l:List α},AllP P l->∀x∈l,P x
 | [],_,x,hx=>nomatch hx
 | y::l,h,x,hx=>by
  rcases Qh.mp hx with z|z
  ·rw[z];exact h.1
  ·exact AllP.mem h.2 x z
theorem V9{cl:List (Str×Addr)}{x:Str}(h:cl.any (fun p=>p.1 == x)=true):(cl.lookup x).isSome=true:=by
 induction cl with
 | nil=>simp at h
 | cons p cl ih =>
  obtain⟨n,a⟩:=p;rw[List.lookup_cons]
  by_cases e:x == n
  ·rw[e];rfl
  ·have e':(x == n)=false:=by simpa using e
   rw[e'];rw[GP] at h;rcases Bool.or_eq_true_iff.mp h with z|z
   ·have:n=x:=eq_of_beq z;rw[this] at e';simp at e'
   ·exact ih z
theorem JdB{X:Cx}{sc:Scope}{cl:List (Str×Addr)}{own:List Str}{fr:List (Str×Nat)}(h1:sc.kind=.function)(h2:closureFor sc X.env=pure cl)
 (h3:(sc.names.all fun y=>y.2 != .cell && (y.2 != .local || sc.names.lookup y.1 == some .local))=true) (h4:AllP (fun p=>X.env.cells.lookup p.1=some p.2) cl)
 (h5:((relabel sc X.env).names.all fun y=>(y.2 != .cell && y.2 != .free) || cl.any (fun p=>p.1 == y.1))=true)
 (h6:AllP (fun p=>X.N[p.2]?=some p.1/\X.env.scope.names.lookup p.1=some .cell/\(relabel sc X.env).names.lookup p.1=some .cell) fr) :
 Blk X sc cl (own++fr.map (·.1)) (own.map (fun _=>none)++fr.map (fun p=>some p.2)):=by
 simp only[KE,Qv] at h3;simp only[KE] at h5;refine⟨h2,h1,fun y hy=>?_,fun y hy hl=>?_,AllP.mem h4,fun y hy hk=>?_,by simp,fun p hp k e=>?_⟩
 ·have:=(h3 y hy).1
  simpa using this
 ·have:=(h3 y hy).2;rw[hl] at this
  simpa using this
 ·have:=h5 y hy;rcases Bool.or_eq_true_iff.mp this with z|z
  ·rcases hk with q|q
   ·rw[q] at z;simp at z
   ·rw[q] at z;simp at z
  ·exact V9 z
 ·rw[M3 (by simp)] at hp;rcases QX.mp hp with z|z
  ·have:=(Km z).1;obtain⟨_,_,q⟩:=QQ.mp this;rw[<- q] at e;cases e
  ·rw[List.zip_map_left] at z;obtain⟨q,hq,eq⟩:=QQ.mp z
   have hz:q.1∈fr/\q.1.1=q.2:=by
    clear h6 e eq z hp;rw[List.zip_map_right] at hq;obtain⟨q',hq',eq'⟩:=QQ.mp hq
    have:q'.1=q'.2:=by
     clear eq' hq
     induction fr with
     | nil=>cases hq'
     | cons x fr ih =>
      rcases Qh.mp hq' with z|z
      ·rw[z]
      ·exact ih z
    rw[<- eq'];exact⟨(Km hq').1,by show q'.1.1=q'.2.1;rw[this]⟩
   obtain⟨a1,a2,a3⟩:=AllP.mem h6 q.1 hz.1;rw[<- eq] at e ⊢;have ek:q.1.2=k:=by simpa using e
   subst ek;rw[hz.2] at a1 a2 a3;exact⟨a1,.inl a2,.inl a3⟩
end L2

namespace LR
open PySem L2

noncomputable def Small(i:Int):Prop:=i.natAbs.log2<1920
theorem Small.of{i:Int}(h:i.natAbs<2 ^ 1920):Small i:=by
 unfold Small
 by_cases h0:i.natAbs=0
 ·rw[h0];decide
 ·exact(Nat.log2_lt h0).mpr h
theorem Small.le{i:Int}(h1:-(10 ^ 100)<=i)(h2:i<=10 ^ 100):Small i:=Small.of (by
 have h3:i.natAbs<=10 ^ 100:=by omega
 exact GO h3 (by decide +kernel))
end LR

namespace LE
open PySem L2 LR

inductive D where
 | non|bl (b:Bool)|int (i:Int)|str (x:Str)|tup (l:List D)|lst (l:List D)|fz (l:List D)|row (l:List D)|dct (ks:List Int) (l:List D)|dfz (ks:List Int) (l:List D)|exc (n:Str)
noncomputable def dkO(ks:List Int)(xs:List V):HO:=.dK ((ks.map Sum.inl).zip xs)
noncomputable def dtK(p:Int×Int):List Key:=[Sum.inl p.1,Sum.inl p.2]
noncomputable def dtO(ps:List (Int×Int))(xs:List V):HO:=.dT ((ps.map dtK).zip xs)
noncomputable def XO(a:Addr)(c:Value):HO:=.ext fun h=>∃o,h.get? a=some o/\o.cls=c/\notCls o=true/\o.dict=none

section
variable(K:Frag)(C:Addr)
inductive RD (H:Hp):V->D->Prop
 | non:RD H .non .non
 | bl (b:Bool):RD H (.bl b) (.bl b)
 | int (i:Int):RD H (.int i) (.int i)
 | str (x:Str):RD H (.str x) (.str x)
 | tup {a:Addr} {xs:List V} {ds:List D}:SqT K H a xs->xs.length=ds.length->(∀(i:Nat) (x:V) (d:D),xs[i]?=some x->ds[i]?=some d->RD H x d)->RD H (.ref a) (.tup ds)
 | lst {a:Addr} {xs:List V} {ds:List D}:H a=some (.lst xs)->xs.length=ds.length->(∀(i:Nat) (x:V) (d:D),xs[i]?=some x->ds[i]?=some d->RD H x d)->RD H (.ref a) (.lst ds)
 | fz {a:Addr} {xs:List V} {ds:List D}:SqL K H a xs->xs.length=ds.length->(∀(i:Nat) (x:V) (d:D),xs[i]?=some x->ds[i]?=some d->RD H x d)->RD H (.ref a) (.fz ds)
 | row {x dx t:Addr} {ts:List V} {ds:List D}:H x=some (.ins C dx (Jeb t))->SqT K H t ts->ts.length=ds.length->(∀(i:Nat) (x:V) (d:D),ts[i]?=some x->ds[i]?=some d->RD H x d)->RD H (.ref x) (.row ds)
 | dct {a:Addr} {ks:List Int} {xs:List V} {ds:List D}:H a=some (dkO ks xs)->ks.length=ds.length->xs.length=ds.length->(∀(i:Nat) (x:V) (d:D),xs[i]?=some x->ds[i]?=some d->RD H x d)->RD H (.ref a) (.dct ks ds)
 | dfz {a:Addr} {ks:List Int} {xs:List V} {ds:List D} {o:Obj}:H a=some (.frz o (dkO ks xs))->ks.length=ds.length->xs.length=ds.length->(∀(i:Nat) (x:V) (d:D),xs[i]?=some x->ds[i]?=some d->RD H x d)->RD H (.ref a) (.dfz ks ds)
 | exc {a c:Addr} {n:Str}:H a=some (XO a (.ref c))->nsIn K mainGlobals n=some (some (.ref c))->RD H (.ref a) (.exc n)
noncomputable def RDL(H:Hp)(xs:List V)(ds:List D):Prop:=xs.length=ds.length/\∀(i:Nat) (x:V) (d:D),xs[i]?=some x->ds[i]?=some d->RD K C H x d
end

section
variable{K:Frag}{C:Addr}{H H':Hp}
theorem RD.mono{v:V}{d:D}(e:Same H H')(r:RD K C H v d):RD K C H' v d:=by
 induction r with
 | non=>exact .non
 | bl b=>exact .bl b
 | int i=>exact .int i
 | str x=>exact .str x
 | tup h l _ ih=>exact .tup (e.seqT h) l ih
 | lst h l _ ih=>exact .lst (e _ _ h) l ih
 | fz h l _ ih=>exact .fz (e.seq h) l ih
 | row h1 h2 l _ ih=>exact .row (e _ _ h1) (e.seqT h2) l ih
 | dct h1 h2 l _ ih=>exact .dct (e _ _ h1) h2 l ih
 | dfz h1 h2 l _ ih=>exact .dfz (e _ _ h1) h2 l ih
 | exc h1 h2=>exact .exc (e _ _ h1) h2
theorem RDL.mono{xs:List V}{ds:List D}(e:Same H H')(r:RDL K C H xs ds):RDL K C H' xs ds:=⟨r.1,fun i x d h1 h2=>(r.2 i x d h1 h2).mono e⟩
theorem RDL.nil:RDL K C H [] []:=⟨rfl,fun i x d e=>by simp at e⟩
theorem RDL.cons{x:V}{d:D}{xs:List V}{ds:List D}(h:RD K C H x d)(r:RDL K C H xs ds):RDL K C H (x::xs) (d::ds):=by
 refine⟨by simp[r.1],fun i y e h1 h2=>?_⟩
 cases i with
 | zero=>simp at h1 h2;subst h1 h2;exact h
 | succ i=>exact r.2 i y e (by simpa using h1) (by simpa using h2)
theorem RDL.append{xs ys:List V}{ds es:List D}(r:RDL K C H xs ds)(q:RDL K C H ys es):RDL K C H (xs++ys) (ds++es):=by
 refine⟨by simp[r.1,q.1],fun i x d h1 h2=>?_⟩
 by_cases hi:i<xs.length
 ·rw[Qq hi] at h1;rw[Qq (by rw[<- r.1];exact hi)] at h2;exact r.2 i x d h1 h2
 ·rw[QH (by omega)] at h1;rw[QH (by rw[<- r.1];omega)] at h2;rw[<- r.1] at h2;exact q.2 _ x d h1 h2
theorem RDL.snoc{xs:List V}{ds:List D}{x:V}{d:D}(r:RDL K C H xs ds)(h:RD K C H x d):RDL K C H (xs++[x]) (ds++[d]):=r.append (.cons h .nil)
theorem RDL.get{xs:List V}{ds:List D}{i:Nat}{d:D}(r:RDL K C H xs ds)(e:ds[i]?=some d):∃x,xs[i]?=some x/\RD K C H x d:=by
 have hi:=(Qg.mp e).1
 have hx:i<xs.length:=by rw[r.1];exact hi
 exact⟨xs[i],by simp[hx],r.2 i _ d (by simp[hx]) e⟩
theorem RDL.get'{xs:List V}{ds:List D}{i:Nat}{x:V}(r:RDL K C H xs ds)(e:xs[i]?=some x):∃d,ds[i]?=some d/\RD K C H x d:=by
 have hi:=(Qg.mp e).1
 have hx:i<ds.length:=by rw[<- r.1];exact hi
 exact⟨ds[i],by simp[hx],r.2 i x _ e (by simp[hx])⟩
theorem RDL.head{x:V}{xs:List V}{d:D}{ds:List D}(r:RDL K C H (x::xs) (d::ds)):RD K C H x d:=r.2 0 x d rfl rfl
theorem RDL.tail{x:V}{xs:List V}{d:D}{ds:List D}(r:RDL K C H (x::xs) (d::ds)):RDL K C H xs ds:=⟨by have:=r.1;simpa using this,fun i y e h1 h2=>r.2 (i+1) y e (by simpa using h1) (by simpa using h2)⟩
theorem RDL.take{xs:List V}{ds:List D}(n:Nat)(r:RDL K C H xs ds):RDL K C H (xs.take n) (ds.take n):=by
 refine⟨by simp[r.1],fun i x d h1 h2=>?_⟩;rw[List.getElem?_take] at h1 h2;split at h1
 ·rw[if_pos (by assumption)] at h2;exact r.2 i x d h1 h2
 ·cases h1
theorem RDL.drop{xs:List V}{ds:List D}(n:Nat)(r:RDL K C H xs ds):RDL K C H (xs.drop n) (ds.drop n):=by refine⟨by simp[r.1],fun i x d h1 h2=>?_⟩;rw[List.getElem?_drop] at h1 h2;exact r.2 _ x d h1 h2
theorem RDL.set{xs:List V}{ds:List D}{v:V}{e:D}(n:Nat)(r:RDL K C H xs ds)(h:RD K C H v e):RDL K C H (xs.set n v) (ds.set n e):=by
 refine⟨by simp[r.1],fun i x d h1 h2=>?_⟩;rw[QA] at h1 h2;split at h1
 ·rw[if_pos (by assumption)] at h2;split at h1
  ·rw[if_pos (by rw[<- r.1];assumption)] at h2;cases h1;cases h2;exact h
  ·cases h1
 ·rw[if_neg (by assumption)] at h2;exact r.2 i x d h1 h2
theorem RDL.reverse{xs:List V}{ds:List D}(r:RDL K C H xs ds):RDL K C H xs.reverse ds.reverse:=by
 refine⟨by simp[r.1],fun i x d h1 h2=>?_⟩;have hi:i<xs.length:=by have:=(Qg.mp h1).1;simpa using this
 rw[LH hi] at h1;rw[LH (by rw[<- r.1];exact hi)] at h2;rw[<- r.1] at h2;exact r.2 _ x d h1 h2
theorem RDL.ints:∀{xs:List V} {ns:List Int},RDL K C H xs (ns.map D.int)->xs=ns.map V.int
 | [],[],_=>rfl
 | [],_::_,r=>by have:=r.1;simp at this
 | _::_,[],r=>by have:=r.1;simp at this
 | x::xs,n::ns,r=>by have h:=r.head;cases h;rw[RDL.ints r.tail];rfl
theorem RDL.ofInts:∀(ns:List Int),RDL K C H (ns.map V.int) (ns.map D.int)
 | []=>.nil
 | n::ns=>.cons (.int n) (RDL.ofInts ns)
theorem RDL.bls:∀{xs:List V} {ns:List Bool},RDL K C H xs (ns.map D.bl)->xs=ns.map V.bl
 | [],[],_=>rfl
 | [],_::_,r=>by have:=r.1;simp at this
 | _::_,[],r=>by have:=r.1;simp at this
 | x::xs,n::ns,r=>by have h:=r.head;cases h;rw[RDL.bls r.tail];rfl
theorem RDL.strs:∀{xs:List V} {ns:List Str},RDL K C H xs (ns.map D.str)->xs=ns.map V.str
 | [],[],_=>rfl
 | [],_::_,r=>by have:=r.1;simp at this
 | _::_,[],r=>by have:=r.1;simp at this
 | x::xs,n::ns,r=>by have h:=r.head;cases h;rw[RDL.strs r.tail];rfl
theorem RD.mkT{a:Addr}{xs:List V}{ds:List D}(h:SqT K H a xs)(r:RDL K C H xs ds):RD K C H (.ref a) (.tup ds):=.tup h r.1 r.2
theorem RD.mkL{a:Addr}{xs:List V}{ds:List D}(h:H a=some (.lst xs))(r:RDL K C H xs ds):RD K C H (.ref a) (.lst ds):=.lst h r.1 r.2
theorem RD.mkF{a:Addr}{xs:List V}{ds:List D}(h:SqL K H a xs)(r:RDL K C H xs ds):RD K C H (.ref a) (.fz ds):=.fz h r.1 r.2
theorem RD.tupI{v:V}{ds:List D}(r:RD K C H v (.tup ds)):∃a xs,v=.ref a/\SqT K H a xs/\RDL K C H xs ds:=by
 cases r with
 | tup h l q=>exact⟨_,_,rfl,h,l,q⟩
theorem RD.lstI{v:V}{ds:List D}(r:RD K C H v (.lst ds)):∃a xs,v=.ref a/\H a=some (.lst xs)/\RDL K C H xs ds:=by
 cases r with
 | lst h l q=>exact⟨_,_,rfl,h,l,q⟩
theorem RD.fzI{v:V}{ds:List D}(r:RD K C H v (.fz ds)):∃a xs,v=.ref a/\SqL K H a xs/\RDL K C H xs ds:=by
 cases r with
 | fz h l q=>exact⟨_,_,rfl,h,l,q⟩
theorem RD.rowI{v:V}{ds:List D}(r:RD K C H v (.row ds)):∃x dx t ts,v=.ref x/\H x=some (.ins C dx (Jeb t))/\SqT K H t ts/\RDL K C H ts ds:=by
 cases r with
 | row h1 h2 l q=>exact⟨_,_,_,_,rfl,h1,h2,l,q⟩
theorem RD.mkD{a:Addr}{ks:List Int}{xs:List V}{ds:List D}(h:H a=some (dkO ks xs))(hk:ks.length=ds.length)(r:RDL K C H xs ds):RD K C H (.ref a) (.dct ks ds):=.dct h hk r.1 r.2
theorem RD.dctI{v:V}{ks:List Int}{ds:List D}(r:RD K C H v (.dct ks ds)):∃a xs,v=.ref a/\H a=some (dkO ks xs)/\ks.length=ds.length/\RDL K C H xs ds:=by
 cases r with
 | dct h hk l q=>exact⟨_,_,rfl,h,hk,l,q⟩
theorem RD.dfzI{v:V}{ks:List Int}{ds:List D}(r:RD K C H v (.dfz ks ds)):∃a xs o,v=.ref a/\H a=some (.frz o (dkO ks xs))/\ks.length=ds.length/\RDL K C H xs ds:=by
 cases r with
 | dfz h hk l q=>exact⟨_,_,_,rfl,h,hk,l,q⟩
theorem RD.excI{v:V}{n:Str}(r:RD K C H v (.exc n)):∃a c,v=.ref a/\H a=some (XO a (.ref c))/\nsIn K mainGlobals n=some (some (.ref c)):=by
 cases r with
 | exc h1 h2=>exact⟨_,_,rfl,h1,h2⟩
theorem RD.intI{v:V}{i:Int}(r:RD K C H v (.int i)):v=.int i:=by cases r;rfl
theorem RD.strI{v:V}{i:Str}(r:RD K C H v (.str i)):v=.str i:=by cases r;rfl
theorem RD.blI{v:V}{i:Bool}(r:RD K C H v (.bl i)):v=.bl i:=by cases r;rfl
theorem RD.nonI{v:V}(r:RD K C H v .non):v=.non:=by cases r;rfl
end

mutual
noncomputable def D.py:D->PyData
 | .non=>.none
 | .bl b=>.bool b
 | .int i=>.int i
 | .str x=>.str x
 | .tup l=>.tuple (D.pyL l)
 | .lst l=>.list (D.pyL l)
 | .fz l=>.list (D.pyL l)
 | .row _=>.dict []
 | .dct _ _=>.dict []
 | .dfz _ _=>.dict []
 | .exc _=>.dict []
noncomputable def D.pyL:List D->List PyData
 | []=>[]
 | d::ds=>d.py::D.pyL ds
end
theorem Jfu:∀ds:List D,D.pyL ds=ds.map D.py
 | []=>rfl
 | d::ds=>by rw[D.pyL,Jfu ds];rfl
theorem ZV:∀{ds:List PyData},K2 ds=true->∀d∈ds,d.canLay0=true
 | [],_,d,hd=>nomatch hd
 | x::ds,h,d,hd=>by
  have h':(PyData.canLay0 x && K2 ds)=true:=h;rw[Qv] at h';rcases Qh.mp hd with z|z
  ·rw[z];exact h'.1
  ·exact ZV h'.2 d z
theorem RD.rep{K:Frag}{C:Addr}{H:Hp}{v:V}{d:D}(r:RD K C H v d):d.py.canLay0=true->Rep K H v d.py:=by
 have all:∀{xs:List V} {ds:List D},xs.length=ds.length->(∀(i:Nat) (x:V) (d:D),xs[i]?=some x->ds[i]?=some d->d.py.canLay0=true->Rep K H x d.py)->K2 (D.pyL ds)=true->RepL K H xs (D.pyL ds):=by
  intro xs ds l ih hc;rw[Jfu] at hc ⊢;refine⟨by simpa using l,fun i x d h1 h2=>?_⟩;rw[Qx] at h2
  cases e:ds[i]? with
  | none=>rw[e] at h2;cases h2
  | some q=>rw[e] at h2;cases h2;exact ih i x q h1 e (ZV hc _ (QQ.mpr ⟨q,QI e,rfl⟩))
 induction r with
 | non=>intro _;exact .non
 | bl b=>intro _;exact .bl b
 | int i=>intro _;exact .int i
 | str x=>intro _;exact .str x
 | tup h l _ ih=>intro hc;exact .tupL h (all l ih hc)
 | lst h l _ ih=>intro hc;exact .lstL (.of h) (all l ih hc)
 | fz h l _ ih=>intro hc;exact .lstL h (all l ih hc)
 | row h1 h2 l _ ih=>intro hc;cases hc
 | dct h1 h2 l _ ih=>intro hc;cases hc
 | dfz h1 h2 l _ ih=>intro hc;cases hc
 | exc h1 h2=>intro hc;cases hc

inductive Sl where
 | no|sh (d:D)|bo (ds:List D)|own (ds:List D)|bd (ks:List Int) (ds:List D)|od (ks:List Int) (ds:List D)|bt (ps:List (Int×Int)) (ds:List D)|ot (ps:List (Int×Int)) (ds:List D)
noncomputable def JR:Sl->Bool
 | .own _=>true
 | .od _ _=>true
 | .ot _ _=>true
 | _=>false
noncomputable def JmX:Sl->Bool
 | .bo _=>true
 | .bd _ _=>true
 | .bt _ _=>true
 | _=>false

section
variable(K:Frag)(C:Addr)
noncomputable def RR(Hs H0 H:Hp)(v:V):Sl->Prop
 | .no=>False
 | .sh d=>RD K C H0 v d
 | .bo ds=>∃l xs,v=.ref l/\H l=some (.lst xs)/\RDL K C H0 xs ds
 | .own ds=>∃l xs,v=.ref l/\H l=some (.lst xs)/\H0 l=none/\Hs l=none/\RDL K C H0 xs ds
 | .bd ks ds=>∃l xs,v=.ref l/\H l=some (dkO ks xs)/\ks.length=ds.length/\RDL K C H0 xs ds
 | .bt ks ds=>∃l xs,v=.ref l/\H l=some (dtO ks xs)/\ks.length=ds.length/\RDL K C H0 xs ds
 | .od ks ds=>∃l xs,v=.ref l/\H l=some (dkO ks xs)/\H0 l=none/\Hs l=none/\ks.length=ds.length/\RDL K C H0 xs ds
 | .ot ks ds=>∃l xs,v=.ref l/\H l=some (dtO ks xs)/\H0 l=none/\Hs l=none/\ks.length=ds.length/\RDL K C H0 xs ds
noncomputable def RSl(B H0 H:Hp)(v:V):Sl->Prop
 | .no=>True
 | .sh d=>RD K C H0 v d
 | .bo ds=>∃l xs,v=.ref l/\B l=some (.lst xs)/\RDL K C H0 xs ds
 | .own ds=>∃l xs,v=.ref l/\H l=some (.lst xs)/\H0 l=none/\B l=none/\RDL K C H0 xs ds
 | .bd ks ds=>∃l xs,v=.ref l/\B l=some (dkO ks xs)/\ks.length=ds.length/\RDL K C H0 xs ds
 | .bt ks ds=>∃l xs,v=.ref l/\B l=some (dtO ks xs)/\ks.length=ds.length/\RDL K C H0 xs ds
 | .od ks ds=>∃l xs,v=.ref l/\H l=some (dkO ks xs)/\H0 l=none/\B l=none/\ks.length=ds.length/\RDL K C H0 xs ds
 | .ot ks ds=>∃l xs,v=.ref l/\H l=some (dtO ks xs)/\H0 l=none/\B l=none/\ks.length=ds.length/\RDL K C H0 xs ds
structure EnvR (B H0 H:Hp) (σ:St) (E:List Sl):Prop where
 b:Same B H
 h:Same H0 H
 len:σ.length=E.length
 at':∀(i:Nat) (s:Sl),E[i]?=some s->s=.no\/∃v,σ[i]?=some (some v)/\RSl K C B H0 H v s
 sep:∀(i j:Nat) (s t:Sl) (v:V),i≠j->E[i]?=some s->E[j]?=some t->JR s=true->JR t=true->σ[i]?=some (some v)->σ[j]?≠some (some v)
end
noncomputable def isT:HO->Bool
 | .tup _=>true
 | .frz _ (.tup _)=>true
 | _=>false
structure Step (Hs H0 H H0' H':Hp):Prop where
 h:Same H H'
 z:Same H0 H0'
 n:∀a o,H0' a=some o->H0 a=some o\/Hs a=none\/isT o=true
 i:Same H0' H'
structure SStep (B H0 H0' H':Hp):Prop where
 b:Same B H'
 z:Same H0 H0'
 n:∀a o,H0' a=some o->H0 a=some o\/B a=none\/isT o=true
 i:Same H0' H'

section
variable{K:Frag}{C:Addr}{B Hs H0 H H0' H' H0'' H'':Hp}{σ:St}{E:List Sl}{v:V}{s:Sl}
theorem Step.refl(i:Same H0 H):Step Hs H0 H H0 H:=⟨Same.refl _,Same.refl _,fun _ _ e=>.inl e,i⟩
theorem Step.comp{Hs':Hp}(s1:Step Hs H0 H H0' H')(s2:Step Hs' H0' H' H0'' H'')(w:∀a,Hs' a=none->Hs a=none):Step Hs H0 H H0'' H'' :=
 ⟨s1.h.trans s2.h,s1.z.trans s2.z,fun a o e=>(s2.n a o e).elim (fun q=>s1.n a o q) fun q=>.inr (q.imp (w a) id),s2.i⟩
theorem Step.trans(s1:Step H H0 H H0' H')(s2:Step H' H0' H' H0'' H''):Step H H0 H H0'' H'':=s1.comp s2 fun _ q=>Same.free s1.h q
theorem Step.ss(b:Same B H)(s:Step H H0 H H0' H'):SStep B H0 H0' H':=⟨b.trans s.h,s.z,fun a o e=>(s.n a o e).imp id fun q=>q.imp (fun q=>Same.free b q) id,s.i⟩
theorem SStep.refl(b:Same B H)(i:Same H0 H):SStep B H0 H0 H:=⟨b,Same.refl _,fun _ _ e=>.inl e,i⟩
theorem SStep.trans(s1:SStep B H0 H0' H')(s2:SStep B H0' H0'' H''):SStep B H0 H0'' H'':=⟨s2.b,s1.z.trans s2.z,fun a o e=>(s2.n a o e).elim (fun q=>s1.n a o q) .inr,s2.i⟩
theorem RR.step(r:RR K C Hs H0 H v s)(st:Step H H0 H H0' H'):RR K C Hs H0' H' v s:=by
 cases s with
 | no=>exact r
 | sh d=>exact RD.mono st.z r
 | bo ds=>obtain⟨l,xs,e,h,q⟩:=r;exact⟨l,xs,e,st.h _ _ h,q.mono st.z⟩
 | bd ks ds=>obtain⟨l,xs,e,h,hk,q⟩:=r;exact⟨l,xs,e,st.h _ _ h,hk,q.mono st.z⟩
 | bt ks ds=>obtain⟨l,xs,e,h,hk,q⟩:=r;exact⟨l,xs,e,st.h _ _ h,hk,q.mono st.z⟩
 | own ds =>
  obtain⟨l,xs,e,h,n,m,q⟩:=r;refine⟨l,xs,e,st.h _ _ h,?_,m,q.mono st.z⟩
  cases z:H0' l with
  | none=>rfl
  | some o =>
   rcases st.n l o z with y|y|y
   ·rw[n] at y;cases y
   ·rw[h] at y;cases y
   ·have:=st.i l o z;rw[st.h _ _ h] at this;cases this;cases y
 | od ks ds =>
  obtain⟨l,xs,e,h,n,m,hk,q⟩:=r;refine⟨l,xs,e,st.h _ _ h,?_,m,hk,q.mono st.z⟩
  cases z:H0' l with
  | none=>rfl
  | some o =>
   rcases st.n l o z with y|y|y
   ·rw[n] at y;cases y
   ·rw[h] at y;cases y
   ·have:=st.i l o z;rw[st.h _ _ h] at this;cases this;cases y
 | ot ks ds =>
  obtain⟨l,xs,e,h,n,m,hk,q⟩:=r;refine⟨l,xs,e,st.h _ _ h,?_,m,hk,q.mono st.z⟩
  cases z:H0' l with
  | none=>rfl
  | some o =>
   rcases st.n l o z with y|y|y
   ·rw[n] at y;cases y
   ·rw[h] at y;cases y
   ·have:=st.i l o z;rw[st.h _ _ h] at this;cases this;cases y
theorem RR.weak{Hs':Hp}(r:RR K C Hs' H0 H v s)(w:∀a,Hs' a=none->Hs a=none):RR K C Hs H0 H v s:=by
 cases s with
 | own ds=>obtain⟨l,xs,e,h,n,m,q⟩:=r;exact⟨l,xs,e,h,n,w _ m,q⟩
 | od ks ds=>obtain⟨l,xs,e,h,n,m,q⟩:=r;exact⟨l,xs,e,h,n,w _ m,q⟩
 | ot ks ds=>obtain⟨l,xs,e,h,n,m,q⟩:=r;exact⟨l,xs,e,h,n,w _ m,q⟩
 | _=>exact r
theorem RSl.owned(r:RSl K C B H0 H v s)(o:JR s=true):∃l,v=.ref l/\H l≠none/\H0 l=none/\B l=none:=by
 cases s with
 | own ds=>obtain⟨l,xs,e,h,n,m,q⟩:=r;exact⟨l,e,(by rw[h];intro z;cases z),n,m⟩
 | od ks ds=>obtain⟨l,xs,e,h,n,m,q⟩:=r;exact⟨l,e,(by rw[h];intro z;cases z),n,m⟩
 | ot ks ds=>obtain⟨l,xs,e,h,n,m,q⟩:=r;exact⟨l,e,(by rw[h];intro z;cases z),n,m⟩
 | _=>cases o
theorem RR.owned(r:RR K C Hs H0 H v s)(o:JR s=true):∃l,v=.ref l/\H l≠none/\H0 l=none/\Hs l=none:=by
 cases s with
 | own ds=>obtain⟨l,xs,e,h,n,m,q⟩:=r;exact⟨l,e,(by rw[h];intro z;cases z),n,m⟩
 | od ks ds=>obtain⟨l,xs,e,h,n,m,q⟩:=r;exact⟨l,e,(by rw[h];intro z;cases z),n,m⟩
 | ot ks ds=>obtain⟨l,xs,e,h,n,m,q⟩:=r;exact⟨l,e,(by rw[h];intro z;cases z),n,m⟩
 | _=>cases o
theorem EnvR.step(I:EnvR K C B H0 H σ E)(st:Step H H0 H H0' H'):EnvR K C B H0' H' σ E:=by
 refine⟨I.b.trans st.h,st.i,I.len,fun i s e=>?_,I.sep⟩;rcases I.at' i s e with z|⟨v,h1,h2⟩
 ·exact .inl z
 ·refine .inr ⟨v,h1,?_⟩
  cases s with
  | no=>trivial
  | sh d=>exact RD.mono st.z h2
  | bo ds=>obtain⟨l,xs,e,h,q⟩:=h2;exact⟨l,xs,e,h,q.mono st.z⟩
  | own ds=>exact RR.step (Hs:=B) (s:=.own ds) h2 st
  | bd ks ds=>obtain⟨l,xs,e,h,hk,q⟩:=h2;exact⟨l,xs,e,h,hk,q.mono st.z⟩
  | bt ks ds=>obtain⟨l,xs,e,h,hk,q⟩:=h2;exact⟨l,xs,e,h,hk,q.mono st.z⟩
  | od ks ds=>exact RR.step (Hs:=B) (s:=.od ks ds) h2 st
  | ot ks ds=>exact RR.step (Hs:=B) (s:=.ot ks ds) h2 st
theorem EnvR.sub{E':List Sl}(I:EnvR K C B H0 H σ E)(hl:E'.length=E.length)(h:∀(i:Nat) (s:Sl),E'[i]?=some s->s=.no\/E[i]?=some s):EnvR K C B H0 H σ E':=by
 refine⟨I.b,I.h,I.len.trans hl.symm,fun i s e=>?_,fun i j s t v hij e1 e2 o1 o2=>?_⟩
 ·rcases h i s e with z|z
  ·exact .inl z
  ·exact I.at' i s z
 ·rcases h i _ e1 with z|z
  ·subst z;cases o1
  ·rcases h j _ e2 with y|y
   ·subst y;cases o2
   ·exact I.sep i j s t v hij z y o1 o2
theorem EnvR.put(I:EnvR K C B H0 H σ E){i:Nat}(hi:i<E.length){Hs:Hp}(hB:∀a,Hs a=none->B a=none)(hf:∀(j:Nat) (t:Sl) (l:Addr),E[j]?=some t->JR t=true->σ[j]?=some (some (.ref l))->Hs l≠none)(r:RR K C Hs H0 H v s)(hb:JmX s=false):EnvR K C B H0 H (σ.set i (some v)) (E.set i s):=by
 refine⟨I.b,I.h,by simp[I.len],fun j t e=>?_,fun j k s1 s2 u hjk e1 e2 o1 o2 e3 e4=>?_⟩
 ·rw[QA] at e
  by_cases hj:i=j
  ·subst hj;rw[if_pos rfl,if_pos hi] at e;cases e;refine .inr ⟨v,by rw[QA];simp[I.len,hi],?_⟩
   cases s with
   | no=>trivial
   | sh d=>exact r
   | bo ds=>cases hb
   | own ds=>obtain⟨l,xs,e,h,n,m,q⟩:=r;exact⟨l,xs,e,h,n,hB _ m,q⟩
   | bd ks ds=>cases hb
   | bt ks ds=>cases hb
   | od ks ds=>obtain⟨l,xs,e,h,n,m,q⟩:=r;exact⟨l,xs,e,h,n,hB _ m,q⟩
   | ot ks ds=>obtain⟨l,xs,e,h,n,m,q⟩:=r;exact⟨l,xs,e,h,n,hB _ m,q⟩
  ·rw[if_neg hj] at e;rcases I.at' j t e with z|⟨u,h1,h2⟩
   ·exact .inl z
   ·exact .inr ⟨u,by rw[QA,if_neg hj];exact h1,h2⟩
 ·rw[QA] at e1 e2 e3 e4
  by_cases hj:i=j
  ·subst hj;rw[if_neg hjk] at e2 e4;rw[if_pos rfl,if_pos hi] at e1;rw[if_pos rfl,if_pos (by rw[I.len];exact hi)] at e3;cases e3;cases e1;obtain⟨l,e,_,_,m⟩:=r.owned o1;subst e;exact hf k _ l e2 o2 e4 m
  ·rw[if_neg hj] at e1 e3
   by_cases hk:i=k
   ·subst hk;rw[if_pos rfl,if_pos hi] at e2;rw[if_pos rfl,if_pos (by rw[I.len];exact hi)] at e4;cases e2;have e4':v=u:=Qz (Qz e4);subst e4';obtain⟨l,e,_,_,m⟩:=r.owned o2;subst e;exact hf j _ l e1 o1 e3 m
   ·rw[if_neg hk] at e2 e4;exact I.sep j k _ _ u hjk e1 e2 o1 o2 e3 e4
theorem EnvR.ownG(I:EnvR K C B H0 H σ E){j:Nat}{t:Sl}{l:Addr}(e1:E[j]?=some t)(ho:JR t=true)(e2:σ[j]?=some (some (.ref l))):H l≠none/\H0 l=none/\B l=none:=by
 rcases I.at' j _ e1 with z|⟨v,h1,h2⟩
 ·subst z;cases ho
 ·rw[e2] at h1;cases h1;obtain⟨l',e,h⟩:=h2.owned ho;cases e;exact h
theorem EnvR.put'{H1 H01:Hp}(I:EnvR K C B H0 H σ E)(st:Step H H0 H H01 H1){i:Nat}(hi:i<E.length)(r:RR K C H H01 H1 v s)(hb:JmX s=false):EnvR K C B H01 H1 (σ.set i (some v)) (E.set i s) :=
 (I.step st).put hi (fun a q=>Same.free I.b q) (fun j t l e1 o1 e2=>(I.ownG e1 o1 e2).1) r hb
noncomputable def Je8:Option HO->Option HO
 | some o=>if isT o=true then some o else none
 | none=>none
noncomputable def JX(Hs H0 H:Hp):Hp:=fun a=>match H0 a with
 | some o=>some o
 | none=>match Hs a with
  | none=>H a
  | some _=>Je8 (H a)
theorem ZS{o:Option HO}{u:HO}(e:Je8 o=some u):o=some u/\isT u=true:=by
 cases o with
 | none=>cases e
 | some w =>
  unfold Je8 at e;dsimp only at e;split at e
  ·cases e;exact⟨rfl,by assumption⟩
  ·cases e
theorem JL(i:Same H0 H):Step Hs H0 H (JX Hs H0 H) H:=by
 refine⟨Same.refl _,fun a o e=>by unfold JX;rw[e],fun a o e=>?_,fun a o e=>?_⟩
 ·unfold JX at e
  cases h:H0 a with
  | some u=>rw[h] at e;exact .inl e
  | none =>
   rw[h] at e
   cases h2:Hs a with
   | none=>exact .inr (.inl rfl)
   | some u=>rw[h2] at e;exact .inr (.inr (ZS e).2)
 ·unfold JX at e
  cases h:H0 a with
  | some u=>rw[h] at e;cases e;exact i a _ h
  | none =>
   rw[h] at e
   cases h2:Hs a with
   | none=>rw[h2] at e;exact e
   | some u=>rw[h2] at e;exact(ZS e).1
theorem Jbz{a:Addr}{o:HO}(i:Same H0 H)(n:Hs a=none)(h:H a=some o):JX Hs H0 H a=some o:=by
 unfold JX
 cases z:H0 a with
 | some u=>rw[i a u z] at h;exact h
 | none=>dsimp only;rw[n];exact h
theorem Je0{a:Addr}{o:HO}(i:Same H0 H)(n:isT o=true)(h:H a=some o):JX Hs H0 H a=some o:=by
 unfold JX
 cases z:H0 a with
 | some u=>rw[i a u z] at h;exact h
 | none =>
  dsimp only
  cases y:Hs a with
  | none=>exact h
  | some u=>dsimp only;rw[h];unfold Je8;dsimp only;rw[if_pos n]
theorem JeZ{a:Addr}{xs:List V}(i:Same H0 H)(h:SqT K H a xs):SqT K (JX Hs H0 H) a xs:=by
 rcases h with (h|⟨o,h⟩)|h
 ·exact .inl (.inl (Je0 i rfl h))
 ·exact .inl (.inr ⟨o,Je0 i rfl h⟩)
 ·exact .inr h
noncomputable def Sl.frz:Sl->Option D
 | .sh d=>some d
 | .own ds=>some (.lst ds)
 | .od ks ds=>some (.dct ks ds)
 | _=>none
theorem RR.frz{d:D}(i:Same H0 H)(r:RR K C Hs H0 H v s)(e:s.frz=some d):RD K C (JX Hs H0 H) v d:=by
 have st:Step Hs H0 H (JX Hs H0 H) H:=JL i
 cases s with
 | no=>cases e
 | sh d'=>cases e;exact RD.mono st.z r
 | bo ds=>cases e
 | own ds=>cases e;obtain⟨l,xs,e,h,n,m,q⟩:=r;subst e;exact .mkL (Jbz i m h) (q.mono st.z)
 | bd ks ds=>cases e
 | bt ks ds=>cases e
 | od ks ds=>cases e;obtain⟨l,xs,e,h,n,m,hk,q⟩:=r;subst e;exact .mkD (Jbz i m h) hk (q.mono st.z)
 | ot ks ds=>cases e
end
end LE

namespace LE
open PySem L2 LR

noncomputable abbrev En:=List Sl
noncomputable abbrev Ev:=En->Option Sl
section
variable(K:Frag)(C:Addr)
noncomputable def SE(te:TE)(ev:Ev):Prop:=∀(B H0 H:Hp) (σ:St) (E:En) (r:Sl) (Q:VK),EnvR K C B H0 H σ E->ev E=some r ->
 (∀v H0' H',Step H H0 H H0' H'->RR K C H H0' H' v r->Q v H')->te σ H Q
noncomputable def ST(t:TT)(ev:En->Option Bool):Prop:=∀(B H0 H:Hp) (σ:St) (E:En) (r:Bool) (Q:Bool->Hp->Prop),EnvR K C B H0 H σ E->ev E=some r ->
 (∀H0' H',Step H H0 H H0' H'->Q r H')->t σ H Q
inductive RRL (Hs H0 H:Hp):List V->List Sl->Prop
 | nil:RRL Hs H0 H [] []
 | cons {v:V} {s:Sl} {vs:List V} {ss:List Sl}:RR K C Hs H0 H v s->RRL Hs H0 H vs ss->RRL Hs H0 H (v::vs) (s::ss)
noncomputable def SA(t:TA)(ev:En->Option (List Sl)):Prop:=∀(B H0 H:Hp) (σ:St) (E:En) (r:List Sl) (Q:List V->Hp->Prop),EnvR K C B H0 H σ E->ev E=some r ->
 (∀vs H0' H',Step H H0 H H0' H'->RRL K C H H0' H' vs r->Q vs H')->t σ H Q
noncomputable def OpS(r:R2)(f:Sl->Sl->Option Sl):Prop:=∀(Hs H0 H:Hp) (x y:V) (a b c:Sl) (Q:VK),Same H0 H->Same Hs H->RR K C Hs H0 H x a->RR K C Hs H0 H y b->f a b=some c ->
 (∀v H0' H',Step Hs H0 H H0' H'->RR K C Hs H0' H' v c->Q v H')->r x y H Q
noncomputable def UnS(r:V->Hp->VK->Prop)(f:Sl->Option Sl):Prop:=∀(Hs H0 H:Hp) (x:V) (a c:Sl) (Q:VK),Same H0 H->Same Hs H->RR K C Hs H0 H x a->f a=some c ->
 (∀v H0' H',Step Hs H0 H H0' H'->RR K C Hs H0' H' v c->Q v H')->r x H Q
noncomputable def Zv(r:List V->Hp->VK->Prop)(f:List Sl->Option Sl):Prop:=∀(Hs H0 H:Hp) (xs:List V) (as:List Sl) (c:Sl) (Q:VK),Same H0 H->Same Hs H->RRL K C Hs H0 H xs as->f as=some c ->
 (∀v H0' H',Step Hs H0 H H0' H'->RR K C Hs H0' H' v c->Q v H')->r xs H Q
end

noncomputable def Jb(i:Nat):Ev:=fun E=>match E[i]? with
 | some (.sh d)=>some (.sh d)
 | some (.bo ds)=>some (.bo ds)
 | some (.own ds)=>some (.bo ds)
 | some (.bd ks ds)=>some (.bd ks ds)
 | some (.od ks ds)=>some (.bd ks ds)
 | some (.bt ks ds)=>some (.bt ks ds)
 | some (.ot ks ds)=>some (.bt ks ds)
 | _=>none
noncomputable def eC(d:D):Ev:=fun _=>some (.sh d)
noncomputable def e2(f:Sl->Sl->Option Sl)(a b:Ev):Ev:=fun E=>(a E).bind fun x=>(b E).bind fun y=>f x y
noncomputable def e1(f:Sl->Option Sl)(a:Ev):Ev:=fun E=>(a E).bind f
noncomputable def a0:En->Option (List Sl):=fun _=>some []
noncomputable def aC(a:Ev)(as:En->Option (List Sl)):En->Option (List Sl):=fun E=>(a E).bind fun x=>(as E).bind fun xs=>some (x::xs)
noncomputable def eF(f:List Sl->Option Sl)(as:En->Option (List Sl)):Ev:=fun E=>(as E).bind f
noncomputable def bool?:Sl->Option Bool
 | .sh (.bl b)=>some b
 | _=>none
noncomputable def JjF(a b:Ev):Ev:=fun E=>((a E).bind bool?).bind fun k=>if k=true then b E else some (.sh (.bl false))
noncomputable def eIf(c:En->Option Bool)(a b:Ev):Ev:=fun E=>(c E).bind fun k=>if k=true then a E else b E
noncomputable def sh?:Sl->Option D
 | .sh d=>some d
 | _=>none
noncomputable def ZE(f g:Sl->Sl->Option Sl)(a b c:Ev):Ev:=fun E=>((a E).bind sh?).bind fun x=>((b E).bind sh?).bind fun y=>((f (.sh x) (.sh y)).bind bool?).bind fun k=>if k=true then((c E).bind sh?).bind fun z=>g (.sh y) (.sh z) else some (.sh (.bl false))
noncomputable def tB?(a:Ev):En->Option Bool:=fun E=>(a E).bind bool?
noncomputable def tAnd?(a b:En->Option Bool):En->Option Bool:=fun E=>(a E).bind fun k=>if k=true then b E else some false
noncomputable def tOr?(a b:En->Option Bool):En->Option Bool:=fun E=>(a E).bind fun k=>if k=true then some true else b E
noncomputable def tNot?(a:En->Option Bool):En->Option Bool:=fun E=>(a E).bind fun k=>some (!k)

section
variable{K:Frag}{C:Addr}
theorem bind_some{α β:Type}{x:Option α}{f:α->Option β}{b:β}(e:x.bind f=some b):∃a,x=some a/\f a=some b:=by
 cases x with
 | none=>cases e
 | some a=>exact⟨a,rfl,e⟩
theorem VM{s:Sl}{b:Bool}(e:bool? s=some b):s=.sh (.bl b):=by
 cases s with
 | sh d=>cases d with
  | bl x=>cases e;rfl
  | _=>cases e
 | _=>cases e
variable{ta tb tc te:TE}{ea eb ec:Ev}
theorem Jg(i:Nat):SE K C (Zl i) (Jb i):=by
 intro B H0 H σ E r Q I e q;unfold Jb at e
 cases h:E[i]? with
 | none=>rw[h] at e;cases e
 | some s =>
  rw[h] at e;rcases I.at' i s h with z|⟨v,h1,h2⟩
  ·subst z;cases e
  ·refine⟨v,h1,q v H0 H (.refl I.h) ?_⟩
   cases s with
   | no=>cases e
   | sh d=>cases e;exact h2
   | bo ds=>cases e;obtain⟨l,xs,e,hl,r⟩:=h2;exact⟨l,xs,e,I.b _ _ hl,r⟩
   | own ds=>cases e;obtain⟨l,xs,e,hl,_,_,r⟩:=h2;exact⟨l,xs,e,hl,r⟩
   | bd ks ds=>cases e;obtain⟨l,xs,e,hl,r⟩:=h2;exact⟨l,xs,e,I.b _ _ hl,r⟩
   | bt ks ds=>cases e;obtain⟨l,xs,e,hl,r⟩:=h2;exact⟨l,xs,e,I.b _ _ hl,r⟩
   | od ks ds=>cases e;obtain⟨l,xs,e,hl,_,_,r⟩:=h2;exact⟨l,xs,e,hl,r⟩
   | ot ks ds=>cases e;obtain⟨l,xs,e,hl,_,_,r⟩:=h2;exact⟨l,xs,e,hl,r⟩
theorem Jp6:SE K C (tC .non) (eC .non):=fun _ _ _ _ _ _ _ I e q=>by cases e;exact q _ _ _ (.refl I.h) .non
theorem Jor{b:Bool}:SE K C (tC (.bl b)) (eC (.bl b)):=fun _ _ _ _ _ _ _ I e q=>by cases e;exact q _ _ _ (.refl I.h) (.bl b)
theorem JP{i:Int}:SE K C (tC (.int i)) (eC (.int i)):=fun _ _ _ _ _ _ _ I e q=>by cases e;exact q _ _ _ (.refl I.h) (.int i)
theorem V1{x:Str}:SE K C (tC (.str x)) (eC (.str x)):=fun _ _ _ _ _ _ _ I e q=>by cases e;exact q _ _ _ (.refl I.h) (.str x)
theorem Yj{r:R2}{f:Sl->Sl->Option Sl}(ho:OpS K C r f)(ha:SE K C ta ea)(hb:SE K C tb eb):SE K C (tOp r ta tb) (e2 f ea eb):=by
 intro B H0 H σ E c Q I e q;obtain⟨a,e1,e⟩:=bind_some e;obtain⟨b,e2,e⟩:=bind_some e;exact ha B H0 H σ E a _ I e1 fun x H1 H1' s1 r1=>hb B H1 H1' σ E b _ (I.step s1) e2 fun y H2 H2' s2 r2=>ho H H2 H2' x y a b c Q s2.i (s1.h.trans s2.h) (r1.step s2) (r2.weak fun a q=>Same.free s1.h q) e fun v H3 H3' s3 r3=>q v H3 H3' ((s1.trans s2).comp s3 fun _ z=>z) r3
theorem JqG{r:V->Hp->VK->Prop}{f:Sl->Option Sl}(ho:UnS K C r f)(ha:SE K C ta ea):SE K C (tUn r ta) (e1 f ea):=by intro B H0 H σ E c Q I e q;obtain⟨a,e1,e⟩:=bind_some e;exact ha B H0 H σ E a _ I e1 fun x H1 H1' s1 r1=>ho H H1 H1' x a c Q s1.i s1.h r1 e fun v H3 H3' s3 r3=>q v H3 H3' (s1.comp s3 fun _ z=>z) r3
theorem Ju:SA K C UV a0:=fun _ _ _ _ _ _ _ I e q=>by cases e;exact q _ _ _ (.refl I.h) .nil
theorem RRL.step{Hs H0 H H0' H':Hp}{vs:List V}{ss:List Sl}(r:RRL K C Hs H0 H vs ss)(st:Step H H0 H H0' H'):RRL K C Hs H0' H' vs ss:=by
 induction r with
 | nil=>exact .nil
 | cons h _ ih=>exact .cons (h.step st) ih
theorem RRL.weak{Hs Hs' H0 H:Hp}{vs:List V}{ss:List Sl}(r:RRL K C Hs' H0 H vs ss)(w:∀a,Hs' a=none->Hs a=none):RRL K C Hs H0 H vs ss:=by
 induction r with
 | nil=>exact .nil
 | cons h _ ih=>exact .cons (h.weak w) ih
theorem Jf{tr:TA}{er:En->Option (List Sl)}(ha:SE K C ta ea)(hr:SA K C tr er):SA K C (YE ta tr) (aC ea er):=by
 intro B H0 H σ E c Q I e q;obtain⟨a,e1,e⟩:=bind_some e;obtain⟨b,e2,e⟩:=bind_some e;cases e;exact ha B H0 H σ E a _ I e1 fun x H1 H1' s1 r1=>hr B H1 H1' σ E b _ (I.step s1) e2 fun y H2 H2' s2 r2=>q _ H2 H2' (s1.trans s2) (.cons (r1.step s2) (r2.weak fun a q=>Same.free s1.h q))
theorem Joq{r:List V->Hp->VK->Prop}{t:TA}{ev:En->Option (List Sl)}{f:List Sl->Option Sl}(hc:Zv K C r f)(ha:SA K C t ev):SE K C (tCB r t) (eF f ev):=by intro B H0 H σ E c Q I e q;obtain⟨a,e1,e⟩:=bind_some e;exact ha B H0 H σ E a _ I e1 fun x H1 H1' s1 r1=>hc H H1 H1' x a c Q s1.i s1.h r1 e fun v H3 H3' s3 r3=>q v H3 H3' (s1.comp s3 fun _ z=>z) r3
theorem JpY(ha:SE K C ta ea)(hb:SE K C tb eb):SE K C (JiY ta tb) (JjF ea eb):=by
 intro B H0 H σ E c Q I e q;obtain⟨k,e1,e⟩:=bind_some e;obtain⟨a,e0,e1⟩:=bind_some e1;refine ha B H0 H σ E a _ I e0 fun x H1 H1' s1 r1=>?_
 rw[VM e1] at r1;refine⟨k,RD.blI r1,?_⟩
 cases k with
 | true=>exact hb B H1 H1' σ E c Q (I.step s1) e fun y H2 H2' s2 r2=>q y H2 H2' (s1.trans s2) (r2.weak fun a q=>Same.free s1.h q)
 | false=>cases e;exact q _ _ _ s1 (RD.bl false)
theorem Jp2{c:TT}{cv:En->Option Bool}(hc:ST K C c cv)(ha:SE K C ta ea)(hb:SE K C tb eb):SE K C (tIf c ta tb) (eIf cv ea eb):=by
 intro B H0 H σ E r Q I e q;obtain⟨k,e1,e⟩:=bind_some e;refine hc B H0 H σ E k _ I e1 fun H1 H1' s1=>?_
 cases k with
 | true=>exact ha B H1 H1' σ E r Q (I.step s1) e fun y H2 H2' s2 r2=>q y H2 H2' (s1.trans s2) (r2.weak fun a q=>Same.free s1.h q)
 | false=>exact hb B H1 H1' σ E r Q (I.step s1) e fun y H2 H2' s2 r2=>q y H2 H2' (s1.trans s2) (r2.weak fun a q=>Same.free s1.h q)
theorem Zu{s:Sl}{d:D}(e:sh? s=some d):s=.sh d:=by
 cases s with
 | sh d'=>cases e;rfl
 | _=>cases e
theorem JbS{r r':R2}{f g:Sl->Sl->Option Sl}(ho:OpS K C r f)(ho':OpS K C r' g)(ha:SE K C ta ea)(hb:SE K C tb eb)(hc:SE K C tc ec):SE K C (Jei r r' ta tb tc) (ZE f g ea eb ec):=by
 intro B H0 H σ E c Q I e q;obtain⟨a,e1,e⟩:=bind_some e;obtain⟨a',e1,f1⟩:=bind_some e1;obtain rfl:=Zu f1;obtain⟨b,e2,e⟩:=bind_some e;obtain⟨b',e2,f2⟩:=bind_some e2;obtain rfl:=Zu f2;obtain⟨k,e3,e⟩:=bind_some e;obtain⟨z,e4,e3⟩:=bind_some e3;refine ha B H0 H σ E _ _ I e1 fun x H1 H1' s1 r1=>hb B H1 H1' σ E _ _ (I.step s1) e2 fun y H2 H2' s2 r2=>?_
 have x2:RD K C H2 x a:=RD.mono s2.z r1
 have y2:RD K C H2 y b:=r2;refine ho H2' H2 H2' x y (.sh a) (.sh b) z _ s2.i (Same.refl _) x2 y2 e4 fun w H3 H3' s3 r3=>?_
 rw[VM e3] at r3;have s13:=(s1.trans s2).trans s3;refine⟨k,RD.blI r3,?_⟩
 cases k with
 | false=>cases e;exact q _ _ _ s13 (RD.bl false)
 | true =>
  obtain⟨d,e5,e⟩:=bind_some e;obtain⟨d',e5,f5⟩:=bind_some e5;obtain rfl:=Zu f5;refine hc B H3 H3' σ E _ _ (I.step s13) e5 fun u H4 H4' s4 r4=>?_
  exact ho' H H4 H4' y u (.sh b) (.sh d) c Q s4.i (s13.h.trans s4.h) (RD.mono (s3.z.trans s4.z) y2) (show RD K C H4 u d from r4) e fun v H5 H5' s5 r5=>q v H5 H5' ((s13.trans s4).comp s5 fun _ z=>z) r5

theorem Yi(ha:SE K C te ea):ST K C (JfO te) (tB? ea):=by
 intro B H0 H σ E k Q I e q;obtain⟨a,e1,e⟩:=bind_some e;refine ha B H0 H σ E a _ I e1 fun x H1 H1' s1 r1=>?_
 rw[VM e] at r1;exact⟨k,RD.blI r1,q _ _ s1⟩
theorem JiL{c d:TT}{ev ew:En->Option Bool}(hc:ST K C c ev)(hd:ST K C d ew):ST K C (Jow c d) (tAnd? ev ew):=by
 intro B H0 H σ E k Q I e q;obtain⟨a,e1,e⟩:=bind_some e;refine hc B H0 H σ E a _ I e1 fun H1 H1' s1=>?_
 cases a with
 | true=>exact hd B H1 H1' σ E k Q (I.step s1) e fun H2 H2' s2=>q H2 H2' (s1.trans s2)
 | false=>cases e;exact q _ _ s1
theorem Jp7{c d:TT}{ev ew:En->Option Bool}(hc:ST K C c ev)(hd:ST K C d ew):ST K C (tOr c d) (tOr? ev ew):=by
 intro B H0 H σ E k Q I e q;obtain⟨a,e1,e⟩:=bind_some e;refine hc B H0 H σ E a _ I e1 fun H1 H1' s1=>?_
 cases a with
 | false=>exact hd B H1 H1' σ E k Q (I.step s1) e fun H2 H2' s2=>q H2 H2' (s1.trans s2)
 | true=>cases e;exact q _ _ s1
theorem JbV{c:TT}{ev:En->Option Bool}(hc:ST K C c ev):ST K C (Joy c) (tNot? ev):=by intro B H0 H σ E k Q I e q;obtain⟨a,e1,e⟩:=bind_some e;cases e;exact hc B H0 H σ E a _ I e1 fun H1 H1' s1=>q _ _ s1
end

noncomputable def Sl.m:Sl->Option (List D)
 | .sh (.lst ds)=>some ds
 | .bo ds=>some ds
 | .own ds=>some ds
 | _=>none
noncomputable def Sl.r:Sl->Option (List D)
 | .sh (.lst ds)=>some ds
 | .sh (.fz ds)=>some ds
 | .bo ds=>some ds
 | .own ds=>some ds
 | _=>none
noncomputable def Sl.q:Sl->Option (List D)
 | .sh (.lst ds)=>some ds
 | .sh (.fz ds)=>some ds
 | .sh (.tup ds)=>some ds
 | .bo ds=>some ds
 | .own ds=>some ds
 | _=>none
noncomputable def Sl.d:Sl->Option D
 | .sh d=>some d
 | .bo ds=>some (.lst ds)
 | .own ds=>some (.lst ds)
 | .bd ks ds=>some (.dct ks ds)
 | .od ks ds=>some (.dct ks ds)
 | .bt _ _=>none
 | .ot _ _=>none
 | .no=>none
section
variable{K:Frag}{C:Addr}{Hs H0 H:Hp}{v:V}{s:Sl}{ds:List D}{d:D}
theorem RR.m(r:RR K C Hs H0 H v s)(i:Same H0 H)(e:s.m=some ds):∃l xs,v=.ref l/\H l=some (.lst xs)/\RDL K C H0 xs ds:=by
 cases s with
 | no=>cases e
 | bo es=>cases e;exact r
 | own es=>cases e;obtain⟨l,xs,h1,h2,_,_,h3⟩:=r;exact⟨l,xs,h1,h2,h3⟩
 | bd _ _=>cases e
 | bt _ _=>cases e
 | od _ _=>cases e
 | ot _ _=>cases e
 | sh d=>cases d with
  | lst es=>cases e;obtain⟨l,xs,h1,h2,h3⟩:=RD.lstI r;exact⟨l,xs,h1,i _ _ h2,h3⟩
  | _=>cases e
theorem RR.r(r:RR K C Hs H0 H v s)(i:Same H0 H)(e:s.r=some ds):∃l xs,v=.ref l/\SqL K H l xs/\RDL K C H0 xs ds:=by
 cases s with
 | no=>cases e
 | bo es=>cases e;obtain⟨l,xs,h1,h2,h3⟩:=r;exact⟨l,xs,h1,.of h2,h3⟩
 | own es=>cases e;obtain⟨l,xs,h1,h2,_,_,h3⟩:=r;exact⟨l,xs,h1,.of h2,h3⟩
 | bd _ _=>cases e
 | bt _ _=>cases e
 | od _ _=>cases e
 | ot _ _=>cases e
 | sh d=>cases d with
  | lst es=>cases e;obtain⟨l,xs,h1,h2,h3⟩:=RD.lstI r;exact⟨l,xs,h1,.of (i _ _ h2),h3⟩
  | fz es=>cases e;obtain⟨l,xs,h1,h2,h3⟩:=RD.fzI r;exact⟨l,xs,h1,i.seq h2,h3⟩
  | _=>cases e
theorem RR.q(r:RR K C Hs H0 H v s)(i:Same H0 H)(e:s.q=some ds):∃l xs,v=.ref l/\(SqL K H l xs\/SqT K H l xs)/\RDL K C H0 xs ds:=by
 cases s with
 | no=>cases e
 | bo es=>cases e;obtain⟨l,xs,h1,h2,h3⟩:=r;exact⟨l,xs,h1,.inl (.of h2),h3⟩
 | own es=>cases e;obtain⟨l,xs,h1,h2,_,_,h3⟩:=r;exact⟨l,xs,h1,.inl (.of h2),h3⟩
 | bd _ _=>cases e
 | bt _ _=>cases e
 | od _ _=>cases e
 | ot _ _=>cases e
 | sh d=>cases d with
  | lst es=>cases e;obtain⟨l,xs,h1,h2,h3⟩:=RD.lstI r;exact⟨l,xs,h1,.inl (.of (i _ _ h2)),h3⟩
  | fz es=>cases e;obtain⟨l,xs,h1,h2,h3⟩:=RD.fzI r;exact⟨l,xs,h1,.inl (i.seq h2),h3⟩
  | tup es=>cases e;obtain⟨l,xs,h1,h2,h3⟩:=RD.tupI r;exact⟨l,xs,h1,.inr (i.seqT h2),h3⟩
  | _=>cases e
theorem RR.dat(r:RR K C Hs H0 H v s)(i:Same H0 H)(e:s.d=some d):RD K C H v d:=by
 cases s with
 | no=>cases e
 | bo es=>cases e;obtain⟨l,xs,h1,h2,h3⟩:=r;subst h1;exact .mkL h2 (h3.mono i)
 | own es=>cases e;obtain⟨l,xs,h1,h2,_,_,h3⟩:=r;subst h1;exact .mkL h2 (h3.mono i)
 | bd _ _=>cases e;obtain⟨l,xs,h1,h2,hk,h3⟩:=r;subst h1;exact .mkD h2 hk (h3.mono i)
 | bt _ _=>cases e
 | od _ _=>cases e;obtain⟨l,xs,h1,h2,_,_,hk,h3⟩:=r;subst h1;exact .mkD h2 hk (h3.mono i)
 | ot _ _=>cases e
 | sh d'=>cases e;exact RD.mono i r
theorem Ud{p:Addr}{xs:List V}{Q:VK}(i:Same H0 H)(hs:Same Hs H)(hp:H p=none)(r:RDL K C H0 xs ds)(q:∀v H0' H',Step Hs H0 H H0' H'->RR K C Hs H0' H' v (.own ds)->Q v H'):Q (.ref p) (upd H p (.lst xs)) :=
 q _ H0 _ ⟨.new hp,Same.refl _,fun _ _ e=>.inl e,i.trans (.new hp)⟩ ⟨p,xs,rfl,Jt,Same.free i hp,Same.free hs hp,r⟩
theorem Jb4{p:Addr}{xs:List V}{Q:VK}(i:Same H0 H)(hs:Same Hs H)(hp:H p=none)(r:RDL K C H0 xs ds)(q:∀v H0' H',Step Hs H0 H H0' H'->RR K C Hs H0' H' v (.sh (.tup ds))->Q v H'):Q (.ref p) (upd H p (.tup xs)):=by
 have h0:H0 p=none:=Same.free i hp;refine q _ (upd H0 p (.tup xs)) _ ⟨.new hp,.new h0,fun a o e=>?_,fun a o e=>?_⟩ ?_
 ·by_cases h:a=p
  ·subst h;exact .inr (.inl (Same.free hs hp))
  ·rw[Ji h] at e;exact .inl e
 ·by_cases h:a=p
  ·subst h;rw[Jt] at e ⊢;exact e
  ·rw[Ji h] at e ⊢;exact i a o e
 ·exact RD.mkT (.of Jt) (r.mono (.new h0))
end

noncomputable def fI(g:Int->Int->D):Sl->Sl->Option Sl
 | .sh (.int a),.sh (.int b)=>some (.sh (g a b))
 | _,_=>none
noncomputable def fIc(c:Int->Int->Bool)(g:Int->Int->D):Sl->Sl->Option Sl
 | .sh (.int a),.sh (.int b)=>if c a b=true then some (.sh (g a b)) else none
 | _,_=>none
noncomputable def Jf9(x y:Sl):Option Sl:=x.m.bind fun a=>y.m.bind fun b=>if a.length+b.length<=sizeLine then some (.own (a++b)) else none
noncomputable def JQ:Sl->Sl->Option Sl
 | .sh (.int a),.sh (.int b)=>some (.sh (.int (a+b)))
 | .sh (.str a),.sh (.str b)=>if a.length+b.length<=sizeLine then some (.sh (.str (a++b))) else none
 | .sh (.tup a),.sh (.tup b)=>if a.isEmpty=false/\b.isEmpty=false/\a.length+b.length<=sizeLine then some (.sh (.tup (a++b))) else none
 | .sh (.lst a),y=>Jf9 (.sh (.lst a)) y
 | .bo a,y=>Jf9 (.bo a) y
 | .own a,y=>Jf9 (.own a) y
 | _,_=>none
noncomputable abbrev Y0:=fI fun a b=>.int (a-b)
noncomputable abbrev fLt:=fI fun a b=>.bl (decide (a<b))
noncomputable abbrev fLe:=fI fun a b=>.bl (decide (a<=b))
noncomputable abbrev fGt:=fI fun a b=>.bl (decide (b<a))
noncomputable def WI(a:Int):Bool:=Rx a.natAbs 18446744073709551615
theorem Vl{a:Int}:WI a=true↔-18446744073709551616<a/\a<18446744073709551616:=by unfold WI;rw[G4];omega
noncomputable def W6(a:Int):Bool:=Rx a.natAbs 1073741823 && decide (0<a)
theorem smallP_ok{a:Int}:W6 a=true↔0<a/\a<1073741824:=by unfold W6;rw[Qv,G4,decide_eq_true_eq];omega
noncomputable abbrev UA:=fIc (fun a b=>WI a || WI b) fun a b=>.int (a*b)
noncomputable abbrev Yp:=fIc (fun _ b=>decide (0<b)) fun a b=>.int (a % b)
noncomputable abbrev Vc:=fIc (fun _ b=>W6 b) fun a b=>.int (a / b)
noncomputable abbrev UK:=fIc (fun a b=>decide (0<=b) && Rx b.natAbs 1000000 && WI a) fun a b=>.int (a ^ b.toNat)
noncomputable def JcA:Sl->Option Sl
 | .sh (.int a)=>some (.sh (.int (-a)))
 | _=>none
noncomputable def eqD(d e:D):Option Bool:=if (d.py.canLay0 && e.py.canLay0 && decide (min d.py.depth e.py.depth<=60))=true then some (LJ d.py e.py) else none
noncomputable def eqA:D->D->Option Bool
 | .int a,.int b=>some (decide (a=b))
 | .str a,.str b=>some (decide (a=b))
 | .bl a,.bl b=>some (decide (a=b))
 | .non,.non=>some true
 | .non,.int _=>some false
 | .int _,.non=>some false
 | .non,.str _=>some false
 | .str _,.non=>some false
 | .non,.bl _=>some false
 | .bl _,.non=>some false
 | .int _,.str _=>some false
 | .str _,.int _=>some false
 | d,e=>eqD d e
noncomputable def fEq(x y:Sl):Option Sl:=x.d.bind fun d=>y.d.bind fun e=>(eqA d e).map fun k=>.sh (.bl k)
noncomputable def fNe(x y:Sl):Option Sl:=x.d.bind fun d=>y.d.bind fun e=>(eqA d e).map fun k=>.sh (.bl (!k))
noncomputable def D.isNon:D->Bool
 | .non=>true
 | _=>false
noncomputable def fIs:Sl->Sl->Option Sl
 | x,.sh .non=>x.d.map fun d=>.sh (.bl d.isNon)
 | _,_=>none
noncomputable def WT:Sl->Sl->Option Sl
 | x,.sh .non=>x.d.map fun d=>.sh (.bl (!d.isNon))
 | _,_=>none
noncomputable def fIx:Sl->Sl->Option Sl
 | .sh (.str z),.sh (.int i)=>if z.length<=sizeLine then(atI z.cps.toList i).map fun c=>.sh (.str ⟨#[c]⟩) else none
 | x,.sh (.int i)=>x.q.bind fun ds=>(atI ds i).map .sh
 | _,_=>none
section
variable{K:Frag}{C:Addr}
theorem o_I{g:Int->Int->V}{g':Int->Int->D}(h:∀i j H,RD K C H (g i j) (g' i j)):OpS K C (rI0 g) (fI g'):=by
 intro Hs H0 H x y a b c Q i hs ra rb e q;unfold fI at e;split at e
 ·cases e;exact⟨_,_,RD.intI ra,RD.intI rb,q _ _ _ (.refl i) (h _ _ _)⟩
 ·cases e
theorem Jh4{P:Int->Int->Prop}{c':Int->Int->Bool}{g:Int->Int->V}{g':Int->Int->D}(hp:∀i j,c' i j=true->P i j)(h:∀i j H,RD K C H (g i j) (g' i j)):OpS K C (rI P g) (fIc c' g'):=by
 intro Hs H0 H x y a b c Q i hs ra rb e q;unfold fIc at e;split at e
 ·split at e
  ·cases e;exact⟨_,_,RD.intI ra,RD.intI rb,hp _ _ (by assumption),q _ _ _ (.refl i) (h _ _ _)⟩
  ·cases e
 ·cases e
theorem Jfi:OpS K C (rI0 fun i j=>.int (i-j)) Y0:=o_I fun _ _ _=>.int _
theorem JcQ:OpS K C (rI0 fun i j=>.bl (decide (i<j))) fLt:=o_I fun _ _ _=>.bl _
theorem JcP:OpS K C (rI0 fun i j=>.bl (decide (i<=j))) fLe:=o_I fun _ _ _=>.bl _
theorem Jnm:OpS K C (rI0 fun i j=>.bl (decide (j<i))) fGt:=o_I fun _ _ _=>.bl _
theorem Jl2:OpS K C (rI CMul fun i j=>.int (i*j)) UA:=Jh4 (fun i j h=>by simp only[KS,Vl] at h;exact h) fun _ _ _=>.int _
theorem Jh6:OpS K C (rI (fun _ j=>0<j) fun i j=>.int (i % j)) Yp:=Jh4 (fun i j h=>by simpa using h) fun _ _ _=>.int _
theorem Jpy:OpS K C (rI JoM fun i j=>.int (i / j)) Vc:=Jh4 (fun i j h=>smallP_ok.mp h) fun _ _ _=>.int _
theorem JpA:OpS K C (rI JoO fun i j=>.int (i ^ j.toNat)) UK:=Jh4 (fun i j h=>by simp only[Qv,decide_eq_true_eq,G4,Vl] at h;refine⟨h.1.1,by omega,?_⟩;show i.natAbs<18446744073709551616;omega) fun _ _ _=>.int _
theorem Jqb:UnS K C (rU fun i=>.int (-i)) JcA:=by
 intro Hs H0 H x a c Q i hs ra e q;unfold JcA at e;split at e
 ·cases e;exact⟨_,RD.intI ra,q _ _ _ (.refl i) (RD.int _)⟩
 ·cases e
noncomputable def Jiv(K:Frag):R2:=fun x y H Q=>Jfv K x y H Q\/Jl6 K x y H Q
theorem Jx{X:Cx}(hK:X.K=K):OpR X (binaryOp .Add) (Jiv K):=(Jfl hK).or (hK▸JkJ)
theorem Jl1:OpS K C (Jiv K) JQ:=by
 intro Hs H0 H x y a b c Q i hs ra rb e q
 have cat:∀{a b:Sl},RR K C Hs H0 H x a->RR K C Hs H0 H y b->Jf9 a b=some c->Jiv K x y H Q:=by
  intro a b ra rb e;obtain⟨xs,e1,e⟩:=bind_some e;obtain⟨ys,e2,e⟩:=bind_some e;split at e
  ·next hz=>cases e;obtain⟨l,us,rfl,h1,r1⟩:=ra.m i e1;obtain⟨l',ws,rfl,h2,r2⟩:=rb.m i e2;exact .inl (.inr (.inr ⟨l,l',us,ws,rfl,rfl,h1,h2,by rw[r1.1,r2.1];exact hz,fun p hp=>Ud i hs hp (r1.append r2) q⟩))
  ·cases e
 unfold JQ at e;split at e
 ·cases e;exact .inl (.inl ⟨_,_,RD.intI ra,RD.intI rb,q _ _ _ (.refl i) (RD.int _)⟩)
 ·split at e
  ·cases e;exact .inl (.inr (.inl ⟨_,_,RD.strI ra,RD.strI rb,by assumption,q _ _ _ (.refl i) (RD.str _)⟩))
  ·cases e
 ·split at e
  ·next hz =>
   cases e;obtain⟨l,us,rfl,h1,r1⟩:=RD.tupI ra;obtain⟨l',ws,rfl,h2,r2⟩:=RD.tupI rb;have n1:us≠[]:=by rintro rfl;have:=r1.1;have z:=hz.1;simp at this;rw[QZ this.symm] at z;cases z
   have n2:ws≠[]:=by rintro rfl;have:=r2.1;have z:=hz.2.1;simp at this;rw[QZ this.symm] at z;cases z
   exact .inr ⟨l,l',us,ws,rfl,rfl,i.seqT h1,i.seqT h2,n1,by rw[r1.1,r2.1];exact hz.2.2,fun z=>absurd z n2,fun _ p hp=>Jb4 i hs hp (r1.append r2) q⟩
  ·cases e
 ·exact cat ra rb e
 ·exact cat ra rb e
 ·exact cat ra rb e
 ·cases e
theorem Jcy{d e:D}{k:Bool}(h:eqD d e=some k):d.py.canLay0=true/\e.py.canLay0=true/\min d.py.depth e.py.depth<=60/\k=LJ d.py e.py:=by
 unfold eqD at h;split at h
 ·next z=>cases h;simp only[Qv,decide_eq_true_eq] at z;exact⟨z.1.1,z.1.2,z.2,rfl⟩
 ·cases h
theorem map_some{α β:Type}{x:Option α}{f:α->β}{b:β}(e:x.map f=some b):∃a,x=some a/\f a=b:=by
 cases x with
 | none=>cases e
 | some a=>cases e;exact⟨a,rfl,rfl⟩
theorem Jcx{H:Hp}{x y:V}{d e:D}{k:Bool}(h:eqA d e=some k)(rx:RD K C H x d)(ry:RD K C H y e):(Jou x y=true/\decide (x=y)=k)\/eqD d e=some k:=by
 unfold eqA at h;split at h
 ·cases h;rw[RD.intI rx,RD.intI ry];exact .inl ⟨rfl,by simp⟩
 ·cases h;rw[RD.strI rx,RD.strI ry];exact .inl ⟨rfl,by simp⟩
 ·cases h;rw[RD.blI rx,RD.blI ry];exact .inl ⟨rfl,by simp⟩
 ·cases h;rw[RD.nonI rx,RD.nonI ry];exact .inl ⟨rfl,by simp⟩
 ·cases h;rw[RD.nonI rx,RD.intI ry];exact .inl ⟨rfl,by simp⟩
 ·cases h;rw[RD.intI rx,RD.nonI ry];exact .inl ⟨rfl,by simp⟩
 ·cases h;rw[RD.nonI rx,RD.strI ry];exact .inl ⟨rfl,by simp⟩
 ·cases h;rw[RD.strI rx,RD.nonI ry];exact .inl ⟨rfl,by simp⟩
 ·cases h;rw[RD.nonI rx,RD.blI ry];exact .inl ⟨rfl,by simp⟩
 ·cases h;rw[RD.blI rx,RD.nonI ry];exact .inl ⟨rfl,by simp⟩
 ·cases h;rw[RD.intI rx,RD.strI ry];exact .inl ⟨rfl,by simp⟩
 ·cases h;rw[RD.strI rx,RD.intI ry];exact .inl ⟨rfl,by simp⟩
 ·exact .inr h
theorem JcO:OpS K C (Jiw K) fEq:=by
 intro Hs H0 H x y a b c Q i hs ra rb e q;obtain⟨d,e1,e⟩:=bind_some e;obtain⟨d',e2,e⟩:=bind_some e;obtain⟨k,e3,rfl⟩:=map_some e;have r1:=ra.dat i e1;have r2:=rb.dat i e2;rcases Jcx e3 r1 r2 with ⟨h1,h2⟩|h
 ·exact .inl ⟨h1,by rw[h2];exact q _ _ _ (.refl i) (RD.bl _)⟩
 ·obtain⟨h1,h2,h3,rfl⟩:=Jcy h;exact .inr ⟨_,_,r1.rep h1,r2.rep h2,h1,h2,h3,q _ _ _ (.refl i) (RD.bl _)⟩
theorem Jqz:OpS K C (Jiy K) fNe:=by
 intro Hs H0 H x y a b c Q i hs ra rb e q;obtain⟨d,e1,e⟩:=bind_some e;obtain⟨d',e2,e⟩:=bind_some e;obtain⟨k,e3,rfl⟩:=map_some e;have r1:=ra.dat i e1;have r2:=rb.dat i e2;rcases Jcx e3 r1 r2 with ⟨h1,h2⟩|h
 ·exact .inl ⟨h1,by rw[h2];exact q _ _ _ (.refl i) (RD.bl _)⟩
 ·obtain⟨h1,h2,h3,rfl⟩:=Jcy h;exact .inr ⟨_,_,r1.rep h1,r2.rep h2,h1,h2,h3,q _ _ _ (.refl i) (RD.bl _)⟩
theorem JcD{H:Hp}{x:V}{d:D}(r:RD K C H x d):decide (x=.non)=d.isNon:=by cases r <;> simp[D.isNon]
theorem Jqy:OpS K C JnT fIs:=by
 intro Hs H0 H x y a b c Q i hs ra rb e q;unfold fIs at e;split at e
 ·obtain⟨d,e1,rfl⟩:=map_some e;refine⟨RD.nonI rb,?_⟩;rw[JcD (ra.dat i e1)];exact q _ _ _ (.refl i) (RD.bl _)
 ·cases e
theorem JkG:OpS K C Jiz WT:=by
 intro Hs H0 H x y a b c Q i hs ra rb e q;unfold WT at e;split at e
 ·obtain⟨d,e1,rfl⟩:=map_some e;refine⟨RD.nonI rb,?_⟩;rw[JcD (ra.dat i e1)];exact q _ _ _ (.refl i) (RD.bl _)
 ·cases e
theorem RDL.atI{H:Hp}{xs:List V}{ds:List D}{i:Int}{d:D}(r:RDL K C H xs ds)(e:L2.atI ds i=some d):∃x,L2.atI xs i=some x/\RD K C H x d:=by unfold L2.atI at e ⊢;rw[r.1];obtain⟨j,e1,e⟩:=bind_some e;obtain⟨x,e2,r2⟩:=r.get e;exact⟨x,by rw[e1];exact e2,r2⟩
theorem VZ:OpS K C (rIx K) fIx:=by
 intro Hs H0 H x y a b c Q i hs ra rb e q;unfold fIx at e;split at e
 ·split at e
  ·obtain⟨z,e1,rfl⟩:=map_some e;rw[RD.strI ra,RD.intI rb];exact Jn9 (by assumption) e1 (q _ _ _ (.refl i) (RD.str _))
  ·cases e
 ·obtain⟨ds,e1,e⟩:=bind_some e;obtain⟨d,e2,rfl⟩:=map_some e;obtain⟨l,xs,rfl,h,r⟩:=ra.q i e1;obtain⟨v,e3,r3⟩:=r.atI e2;rw[RD.intI rb];rcases h with h|h
  ·exact Jn8 h e3 (q _ _ _ (.refl i) r3)
  ·exact Joa h e3 (q _ _ _ (.refl i) r3)
 ·cases e
end
end LE

namespace LE
open PySem L2 LR

noncomputable def ZK:List Sl->Option (List D)
 | []=>some []
 | s::ss=>s.frz.bind fun d=>(ZK ss).bind fun ds=>some (d::ds)
noncomputable def Y7(as:En->Option (List Sl)):Ev:=fun E=>(as E).bind fun ss=>(ZK ss).bind fun ds=>if ds.length<=100 then some (.sh (.tup ds)) else none
noncomputable def Y6(as:En->Option (List Sl)):Ev:=fun E=>(as E).bind fun ss=>(ZK ss).bind fun ds=>if ds.length<=100 then some (.own ds) else none
section
variable{K:Frag}{C:Addr}{t:TA}{ev:En->Option (List Sl)}{Hs H0 H:Hp}{ta te:TE}{ea:Ev}
theorem RRL.frz{vs:List V}{ss:List Sl}(i:Same H0 H)(r:RRL K C Hs H0 H vs ss):∀{ds:List D},ZK ss=some ds->RDL K C (JX Hs H0 H) vs ds:=by
 induction r with
 | nil=>intro ds e;cases e;exact .nil
 | cons h _ ih=>intro ds e;obtain⟨d,e1,e⟩:=bind_some e;obtain⟨ds',e2,e⟩:=bind_some e;cases e;exact .cons (h.frz i e1) (ih e2)
theorem Jc9(ha:SA K C t ev):SE K C (JoA t) (Y7 ev):=by
 intro B H0 H σ E c Q I e q;obtain⟨ss,e1,e⟩:=bind_some e;obtain⟨ds,e2,e⟩:=bind_some e;split at e
 ·next hl =>
  cases e;refine ha B H0 H σ E ss _ I e1 fun vs H1 H1' s1 r1=>?_
  have f:=JL (Hs:=H) s1.i
  have r2:=r1.frz s1.i e2;exact⟨by rw[r2.1];exact QR hl (by decide),fun p hp=>Jb4 f.i s1.h hp r2 fun v H2 H2' s2 r2=>q v H2 H2' ((s1.comp f fun _ z=>z).comp s2 fun _ z=>z) r2⟩
 ·cases e
theorem Jal(ha:SA K C t ev):SE K C (Ji1 t) (Y6 ev):=by
 intro B H0 H σ E c Q I e q;obtain⟨ss,e1,e⟩:=bind_some e;obtain⟨ds,e2,e⟩:=bind_some e;split at e
 ·next hl =>
  cases e;refine ha B H0 H σ E ss _ I e1 fun vs H1 H1' s1 r1=>?_
  have f:=JL (Hs:=H) s1.i
  have r2:=r1.frz s1.i e2;exact⟨by rw[r2.1];exact QR hl (by decide),fun p hp=>Ud f.i s1.h hp r2 fun v H2 H2' s2 r2=>q v H2 H2' ((s1.comp f fun _ z=>z).comp s2 fun _ z=>z) r2⟩
 ·cases e

noncomputable def Sl.pass:Sl->Option Sl
 | .sh d=>some (.sh d)
 | .own ds=>some (.sh (.lst ds))
 | .bo ds=>some (.bo ds)
 | .bd ks ds=>some (.bd ks ds)
 | .od ks ds=>some (.sh (.dct ks ds))
 | .bt _ _=>none
 | .ot _ _=>none
 | .no=>none
end
noncomputable def Wz:List Sl->Option (List Sl)
 | []=>some []
 | s::ss=>s.pass.bind fun d=>(Wz ss).bind fun ds=>some (d::ds)
noncomputable def spE(K:Frag)(C:Addr)(n:Nat)(f:List Sl->Option Sl):Sp:=fun vs H Q _=>∃H0 as r,Same H0 H/\RRL K C H H0 H vs as/\as.all (fun s=>!JR s)=true/\as.length=n/\f as=some r ∧
 ∀v H0' H',Step H H0 H H0' H'->RR K C H H0' H' v r->Q v H'
noncomputable def eU(n:Nat)(f:List Sl->Option Sl)(as:En->Option (List Sl)):Ev:=fun E=>(as E).bind fun ss=>(Wz ss).bind fun bs=>if bs.length=n then f bs else none
section
variable{K:Frag}{C:Addr}{t:TA}{ev:En->Option (List Sl)}{Hs H0 H:Hp}{ta te:TE}{ea:Ev}
theorem RRL.len{vs:List V}{ss:List Sl}(r:RRL K C Hs H0 H vs ss):vs.length=ss.length:=by
 induction r with
 | nil=>rfl
 | cons _ _ ih=>simp[ih]
theorem JfJ{n:Nat}{f:List Sl->Option Sl}{vs:List V}{Q:VK}{E:XK}(h:spE K C n f vs H Q E):vs.length=n:=by obtain⟨H0,as,r,_,h1,_,h2,_⟩:=h;rw[h1.len];exact h2
theorem RR.pass{v:V}{s s':Sl}(i:Same H0 H)(r:RR K C Hs H0 H v s)(e:s.pass=some s'):RR K C H (JX Hs H0 H) H v s'/\JR s'=false:=by
 have st:Step Hs H0 H (JX Hs H0 H) H:=JL i
 cases s with
 | no=>cases e
 | sh d=>cases e;exact⟨RD.mono st.z r,rfl⟩
 | own ds=>cases e;exact⟨RR.frz (s:=.own ds) i r rfl,rfl⟩
 | bo ds=>cases e;obtain⟨l,xs,h1,h2,h3⟩:=r;exact⟨⟨l,xs,h1,h2,h3.mono st.z⟩,rfl⟩
 | od ks ds=>cases e;exact⟨RR.frz (s:=.od ks ds) i r rfl,rfl⟩
 | ot ks ds=>cases e
 | bd ks ds=>cases e;obtain⟨l,xs,h1,h2,hk,h3⟩:=r;exact⟨⟨l,xs,h1,h2,hk,h3.mono st.z⟩,rfl⟩
 | bt ks ds=>cases e
theorem RRL.pass{vs:List V}{ss:List Sl}(i:Same H0 H)(r:RRL K C Hs H0 H vs ss):∀{bs:List Sl},Wz ss=some bs->RRL K C H (JX Hs H0 H) H vs bs/\bs.all (fun s=>!JR s)=true:=by
 induction r with
 | nil=>intro bs e;cases e;exact⟨.nil,rfl⟩
 | cons h _ ih=>intro bs e;obtain⟨d,e1,e⟩:=bind_some e;obtain⟨ds',e2,e⟩:=bind_some e;cases e;obtain⟨h1,h2⟩:=h.pass i e1;obtain⟨h3,h4⟩:=ih e2;exact⟨.cons h1 h3,by rw[List.all_cons,h2,h4];rfl⟩
theorem Ub{n:Nat}{f:List Sl->Option Sl}{X:XK}(ha:SA K C t ev):SE K C (WK (spE K C n f) [] X t) (eU n f ev):=by
 intro B H0 H σ E c Q I e q;obtain⟨ss,e1,e⟩:=bind_some e;obtain⟨bs,e2,e⟩:=bind_some e;split at e
 ·next hl=>refine Zt (ha B H0 H σ E ss _ I e1 fun vs H1 H1' s1 r1=>?_);obtain⟨h1,h2⟩:=r1.pass s1.i e2;have f:=JL (Hs:=H) s1.i;exact⟨_,bs,c,f.i,h1,h2,hl,e,fun v H2 H2' s2 r2=>q v H2 H2' ((s1.comp f fun _ z=>z).comp s2 fun a z=>Same.free s1.h z) (r2.weak fun a z=>Same.free s1.h z)⟩
 ·cases e

noncomputable def prE(p:Pr):D:=.tup [.int p.1,.int p.2]
noncomputable def JoG:D->Option Pr
 | .tup [.int a,.int b]=>some (a,b)
 | _=>none
noncomputable def Jdp:List D->Option (List Pr)
 | []=>some []
 | d::ds=>(JoG d).bind fun p=>(Jdp ds).bind fun ps=>some (p::ps)
end
theorem Jbg:∀ps:List Pr,Jdp (ps.map prE)=some ps
 | []=>rfl
 | p::ps=>by rw[Qi,Jdp,Jbg ps];rfl
theorem JgS{d:D}{p:Pr}(e:JoG d=some p):d=prE p:=by
 unfold JoG at e;split at e
 ·cases e;rfl
 ·cases e
theorem Jat:∀{ds:List D} {ps:List Pr},Jdp ds=some ps->ds=ps.map prE
 | [],_,e=>by cases e;rfl
 | d::ds,_,e=>by obtain⟨p,e1,e⟩:=bind_some e;obtain⟨ps,e2,e⟩:=bind_some e;cases e;rw[JgS e1,Jat e2];rfl
noncomputable def Za:List Pr->Bool
 | []=>true
 | [p]=>decide (1<=p.2)
 | p::q::r=>decide (1<=p.2) && decide (p.1+p.2<q.1) && Za (q::r)
theorem ZL:∀{ps:List Pr},Za ps=true->Good ps
 | [],_=>.nil
 | [p],h=>⟨fun i q e=>by
  cases i with
  | zero=>simp at e;subst e;simpa [Za] using h
  | succ i=>simp at e,fun i q r e1 e2=>by simp at e2⟩
 | p::q::r,h=>by
  simp only[Za,Qv,decide_eq_true_eq] at h;have g:=ZL h.2;refine⟨fun i x e=>?_,fun i x y e1 e2=>?_⟩
  ·cases i with
   | zero=>simp at e;subst e;exact h.1.1
   | succ i=>exact g.one i x (by simpa using e)
  ·cases i with
   | zero=>simp at e1 e2;subst e1 e2;exact h.1.2
   | succ i=>exact g.gap i x y (by simpa using e1) (by simpa using e2)
theorem ZM:∀{ps:List Pr},Good ps->Za ps=true
 | [],_=>rfl
 | [p],g=>by simpa [Za] using g.one 0 p rfl
 | p::q::r,g=>by
  have g':Good (q::r):=⟨fun i x e=>g.one (i+1) x (by simpa using e),fun i x y e1 e2=>g.gap (i+1) x y (by simpa using e1) (by simpa using e2)⟩
  simp only[Za,Qv,decide_eq_true_eq];exact⟨⟨g.one 0 p rfl,g.gap 0 p q rfl rfl⟩,ZM g'⟩
noncomputable def JdQ:List Sl->Option Sl
 | [s]=>s.q.bind fun ds=>(Jdp ds).bind fun ps=>if (Za ps && decide (ps.length<=30))=true then some (.sh (.row ds)) else none
 | _=>none
noncomputable def JdP:Sl->Option Sl
 | .sh (.row ds)=>some (.sh (.tup ds))
 | _=>none
section
variable{K:Frag}{C:Addr}{t:TA}{ev:En->Option (List Sl)}{Hs H0 H:Hp}{ta te:TE}{ea:Ev}
theorem JnO{xs:List V}{ps:List Pr}(r:RDL K C H xs (ps.map prE)):Prs K H xs ps:=by
 refine⟨by rw[r.1];simp,fun i x d h1 h2=>?_⟩;rw[Qx] at h2
 cases e:ps[i]? with
 | none=>rw[e] at h2;cases h2
 | some p=>rw[e] at h2;cases h2;have h:=r.2 i x (prE p) h1 (by rw[Qx,e];rfl);exact RD.rep h rfl
theorem Jno{xs:List V}{ps:List Pr}(i:Same H0 H)(r:Prs K H xs ps):RDL K C (JX Hs H0 H) xs (ps.map prE):=by refine⟨by rw[r.len];simp,fun j x d h1 h2=>?_⟩;obtain⟨p,a,e1,e2,e3⟩:=r.at h1;rw[Qx,e1] at h2;cases h2;subst e2;exact .mkT (JeZ i e3) (.cons (.int _) (.cons (.int _) .nil))
theorem Jmb{X:XK}(ha:SA K C t ev):SE K C (JfM C (Wk C K) [] X t) (eF JdQ ev):=by
 intro B H0 H σ E c Q I e q;obtain⟨ss,e1,e⟩:=bind_some e;refine LR.JfB (ha B H0 H σ E ss _ I e1 fun vs H1 H1' s1 r1=>?_);unfold JdQ at e;split at e
 ·next s =>
  cases r1 with
  | cons r1 r1' =>
   cases r1';obtain⟨ds,e2,e⟩:=bind_some e;obtain⟨ps,e3,e⟩:=bind_some e;split at e
   ·next hg =>
    cases e;simp only[Qv,decide_eq_true_eq] at hg;have e4:=Jat e3;subst e4;obtain⟨l,xs,rfl,hq,r⟩:=r1.q s1.i e2;refine Joi ⟨l,xs,rfl,hq,JnO (r.mono s1.i)⟩ (ZL hg.1) hg.2 fun x H2 nx s2 R=>?_
    obtain⟨x',dx,t',ts,ex,hx,ht,hp⟩:=R;cases ex;have i2:Same H1 H2:=s1.i.trans s2;have f:=JL (Hs:=H) i2;refine q _ (JX H H1 H2) H2 ⟨s1.h.trans s2,s1.z.trans f.z,fun a o e=>(f.n a o e).elim (fun z=>s1.n a o z) .inr,f.i⟩ ?_;have ts':=Jno (Hs:=H) (C:=C) i2 hp;exact .row (Jbz i2 (Same.free s1.h nx) hx) (JeZ i2 (.of ht)) ts'.1 ts'.2
   ·cases e
 ·cases e
theorem JpZ{K:Frag}{C:Addr}{ta:TE}{ea:Ev}(T:RowC K C)(ha:SE K C ta ea):SE K C (JlB K ta "stretches") (e1 JdP ea):=by
 intro B H0 H σ E c Q I e q;obtain⟨a,e1,e⟩:=bind_some e;refine ha B H0 H σ E a _ I e1 fun x H1 H1' s1 r1=>?_
 unfold JdP at e;split at e
 ·cases e;obtain⟨x',dx,t',ts,rfl,hx,ht,hp⟩:=RD.rowI r1;exact⟨x',C,dx,_,_,rfl,s1.i _ _ hx,T.cl,T.ns,JgJ t',q _ _ _ s1 (RD.mkT ht hp)⟩
 ·cases e

noncomputable def ints?:List D->Option (List Int)
 | []=>some []
 | .int i::ds=>(ints? ds).map (i::·)
 | _::_=>none
noncomputable def bls?:List D->Option (List Bool)
 | []=>some []
 | .bl i::ds=>(bls? ds).map (i::·)
 | _::_=>none
end
theorem ZO:∀ns:List Int,ints? (ns.map .int)=some ns
 | []=>rfl
 | n::ns=>by rw[Qi,ints?,ZO ns];rfl
theorem Y9:∀{ds:List D} {ns:List Int},ints? ds=some ns->ds=ns.map .int
 | [],_,e=>by cases e;rfl
 | .int i::ds,_,e=>by obtain⟨ns,e1,e2⟩:=map_some (show(ints? ds).map (i::·)=_ from e);rw[<- e2,Y9 e1];rfl
 | .non::_,_,e|.bl _::_,_,e|.str _::_,_,e|.tup _::_,_,e|.lst _::_,_,e|.fz _::_,_,e|.row _::_,_,e=>by cases e
theorem Jcg:∀{ds:List D} {ns:List Bool},bls? ds=some ns->ds=ns.map .bl
 | [],_,e=>by cases e;rfl
 | .bl i::ds,_,e=>by obtain⟨ns,e1,e2⟩:=map_some (show(bls? ds).map (i::·)=_ from e);rw[<- e2,Jcg e1];rfl
 | .non::_,_,e|.int _::_,_,e|.str _::_,_,e|.tup _::_,_,e|.lst _::_,_,e|.fz _::_,_,e|.row _::_,_,e=>by cases e
noncomputable def UJ:List Sl->Option Sl
 | [.sh (.str x)]=>if x.length<=sizeLine then some (.sh (.int x.length)) else none
 | [s]=>s.q.map fun ds=>.sh (.int ds.length)
 | _=>none
noncomputable def JaX:List Sl->Option Sl
 | [s]=>s.q.map fun ds=>.own ds
 | _=>none
noncomputable def V6:List Sl->Option Sl
 | [s]=>s.q.bind fun ds=>(ints? ds).map fun ns=>.sh (.int ns.sum)
 | _=>none
noncomputable def Jj4:List Sl->Option Sl
 | [.sh (.int a),.sh (.int b)]=>some (.sh (.int (max a b)))
 | _=>none
noncomputable def JaB:List Sl->Option Sl
 | [.sh (.int a),.sh (.int b)]=>some (.sh (.int (min a b)))
 | _=>none
section
variable{K:Frag}{C:Addr}{Hs H0 H:Hp}
theorem RRL.one{vs:List V}{s:Sl}(r:RRL K C Hs H0 H vs [s]):∃v,vs=[v]/\RR K C Hs H0 H v s:=by
 cases r with
 | cons h t=>cases t;exact⟨_,rfl,h⟩
theorem RRL.two{vs:List V}{s t:Sl}(r:RRL K C Hs H0 H vs [s,t]):∃v w,vs=[v,w]/\RR K C Hs H0 H v s/\RR K C Hs H0 H w t:=by
 cases r with
 | cons h r=>cases r with
  | cons h' r=>cases r;exact⟨_,_,rfl,h,h'⟩
theorem JoZ:Zv K C (Jd9 K) UJ:=by
 intro Hs H0 H xs as c Q i hs r e q;unfold UJ at e;split at e
 ·split at e
  ·cases e;obtain⟨v,rfl,r0⟩:=r.one;rw[RD.strI r0];exact Jk8 (by assumption) (q _ _ _ (.refl i) (RD.int _))
  ·cases e
 ·obtain⟨v,rfl,r0⟩:=r.one;obtain⟨ds,e1,rfl⟩:=map_some e;obtain⟨l,xs,rfl,h,r1⟩:=r0.q i e1;have z:=q (.int ds.length) _ _ (.refl i) (RD.int _);rw[<- r1.1] at z;exact Jc5 h z
 ·cases e
theorem Jmt:Zv K C (JbP K) JaX:=by
 intro Hs H0 H xs as c Q i hs r e q;unfold JaX at e;split at e
 ·obtain⟨v,rfl,r0⟩:=r.one;obtain⟨ds,e1,rfl⟩:=map_some e;obtain⟨l,ys,rfl,h,r1⟩:=r0.q i e1;exact⟨l,ys,rfl,h,fun p hp=>Ud i hs hp r1 q⟩
 ·cases e
theorem Jg9:Zv K C (JnY K) V6:=by
 intro Hs H0 H xs as c Q i hs r e q;unfold V6 at e;split at e
 ·obtain⟨v,rfl,r0⟩:=r.one;obtain⟨ds,e1,e⟩:=bind_some e;obtain⟨ns,e2,rfl⟩:=map_some e;obtain⟨l,ys,rfl,h,r1⟩:=r0.q i e1;rw[Y9 e2] at r1;have:=r1.ints;subst this;exact⟨l,ns,rfl,h,q _ _ _ (.refl i) (RD.int _)⟩
 ·cases e
theorem Jo0:Zv K C JnU Jj4:=by
 intro Hs H0 H xs as c Q i hs r e q;unfold Jj4 at e;split at e
 ·cases e;obtain⟨v,w,rfl,r1,r2⟩:=r.two;rw[RD.intI r1,RD.intI r2];exact JiG (q _ _ _ (.refl i) (RD.int _))
 ·cases e
theorem Jo1:Zv K C JnV JaB:=by
 intro Hs H0 H xs as c Q i hs r e q;unfold JaB at e;split at e
 ·cases e;obtain⟨v,w,rfl,r1,r2⟩:=r.two;rw[RD.intI r1,RD.intI r2];exact JiH (q _ _ _ (.refl i) (RD.int _))
 ·cases e
end

noncomputable def JoD:Sl->Option Bool
 | .sh .non=>some false
 | .sh (.bl b)=>some b
 | .sh (.int i)=>some (i != 0)
 | .sh (.str y)=>if y.length<=sizeLine then some ((y.length:Int) != 0) else none
 | s=>s.q.map fun ds=>!ds.isEmpty
noncomputable def tTru?(a:Ev):En->Option Bool:=fun E=>(a E).bind JoD
noncomputable def tyN:D->Option String
 | .non=>some "NoneType"
 | .bl _=>some "bool"
 | .int _=>some "int"
 | .str _=>some "str"
 | .tup _=>some "tuple"
 | .lst _=>some "list"
 | .fz _=>some "list"
 | .row _=>none
 | .dct _ _=>none
 | .dfz _ _=>none
 | .exc _=>none
noncomputable def JcF(t n:String):Bool:=t == n || (t == "bool" && n == "int")
noncomputable def Vt(n:String)(a:Ev):Ev:=fun E=>(a E).bind fun s=>s.d.bind fun d=>(tyN d).map fun t=>.sh (.bl (JcF t n))
noncomputable def D.isRow:D->Bool
 | .row _=>true
 | _=>false
section
variable{K:Frag}{C:Addr}{Hs H0 H:Hp}{te:TE}{ea:Ev}
theorem RDL.empty{xs:List V}{ds:List D}(r:RDL K C H xs ds):xs.isEmpty=ds.isEmpty:=by cases xs <;> cases ds <;> first|rfl|(have:=r.1;simp at this)
theorem Jmc(ha:SE K C te ea):ST K C (JlE K te) (tTru? ea):=by
 intro B H0 H σ E k Q I e q;obtain⟨a,e1,e⟩:=bind_some e;refine ha B H0 H σ E a _ I e1 fun x H1 H1' s1 r1=>?_
 have seq:∀{a:Sl},RR K C H H1 H1' x a->a.q.map (fun ds=>!ds.isEmpty)=some k->∃k',JfW K x H1' k'/\Q k' H1':=fun {a} r1 e=>by
  obtain⟨ds,e2,rfl⟩:=map_some e;obtain⟨l,xs,rfl,h,r⟩:=r1.q s1.i e2;have z:=q _ _ s1;rw[<- r.empty] at z;rcases h with h|h
  ·exact⟨_,.inl ⟨xs,h,rfl⟩,z⟩
  ·exact⟨_,.inr (.inl ⟨xs,h,rfl⟩),z⟩
 unfold JoD at e;split at e
 ·cases e;rw[RD.nonI r1];exact⟨_,rfl,q _ _ s1⟩
 ·cases e;rw[RD.blI r1];exact⟨_,rfl,q _ _ s1⟩
 ·cases e;rw[RD.intI r1];exact⟨_,rfl,q _ _ s1⟩
 ·split at e
  ·cases e;rw[RD.strI r1];exact⟨_,⟨by assumption,rfl⟩,q _ _ s1⟩
  ·cases e
 ·exact seq r1 e
theorem RD.ty{x:V}{d:D}{t:String}(r:RD K C H x d)(e:tyN d=some t):TyS K H x (.type t):=by
 cases r with
 | non=>cases e;exact .of .non
 | bl b=>cases e;exact .of (.bl b)
 | int i=>cases e;exact .of (.int i)
 | str i=>cases e;exact .of (.str i)
 | tup h _ _=>cases e;exact .sqT h
 | lst h _ _=>cases e;exact .sqL (.of h)
 | fz h _ _=>cases e;exact .sqL h
 | row _ _ _ _=>cases e
 | dct _ _ _ _=>cases e
 | dfz _ _ _ _=>cases e
 | exc _ _=>cases e
noncomputable def Jes(K:Frag)(n:String):Prop:=∀t∈["NoneType","bool","int","str","tuple","list"],kitOne K (.type t) (.type n)=some (JcF t n)
theorem JlH{d:D}{t:String}(e:tyN d=some t):t∈["NoneType","bool","int","str","tuple","list"]:=by cases d <;> cases e <;> simp
theorem Jp4{n:String}(hk:Jes K n)(ha:SE K C te ea):SE K C (tCB (Jk0 K) (YE te (YE (tC (.ty n)) UV))) (Vt n ea):=by
 intro B H0 H σ E c Q I e q;obtain⟨a,e1,e⟩:=bind_some e;obtain⟨d,e2,e⟩:=bind_some e;obtain⟨t,e3,rfl⟩:=map_some e;refine ha B H0 H σ E a _ I e1 fun x H1 H1' s1 r1=>?_
 exact Jn7 (RD.ty (r1.dat s1.i e2) e3) (hk t (JlH e3)) (q _ _ _ s1 (RD.bl _))
end
theorem JhQ{K:Frag}:Jes K "bool":=fun t ht=>by simp only[Qh,QV,or_false] at ht;rcases ht with rfl | rfl | rfl | rfl | rfl | rfl <;> kernel_rfl
theorem Jgr{K:Frag}:Jes K "tuple":=fun t ht=>by simp only[Qh,QV,or_false] at ht;rcases ht with rfl | rfl | rfl | rfl | rfl | rfl <;> kernel_rfl
theorem JhR{K:Frag}:Jes K "list":=fun t ht=>by simp only[Qh,QV,or_false] at ht;rcases ht with rfl | rfl | rfl | rfl | rfl | rfl <;> kernel_rfl
end LE

namespace LE
open PySem L2 LR

mutual
inductive Pt where
 | nm (i:Nat)
 | tp (l:Pts)
inductive Pts where
 | nil
 | cons (p:Pt) (l:Pts)
end
mutual
noncomputable def Pt.bind:Pt->D->En->Option En
 | .nm i,d,E=>if i<E.length then some (E.set i (.sh d)) else none
 | .tp l,.tup ds,E=>l.bind ds E
 | .tp _,_,_=>none
noncomputable def Pts.bind:Pts->List D->En->Option En
 | .nil,[],E=>some E
 | .cons p l,d::ds,E=>(p.bind d E).bind fun E'=>l.bind ds E'
 | _,_,_=>none
end
mutual
noncomputable def Pt.slots:Pt->List Nat
 | .nm i=>[i]
 | .tp l=>l.slots
noncomputable def Pts.slots:Pts->List Nat
 | .nil=>[]
 | .cons p l=>p.slots++l.slots
end
mutual
theorem Pt.keep:∀{p:Pt} {d:D} {E E':En},p.bind d E=some E'->E'.length=E.length/\∀i,i∉p.slots->E'[i]?=E[i]?
 | .nm i,d,E,E',e=>by
  unfold Pt.bind at e;split at e
  ·cases e;refine⟨by simp,fun j hj=>?_⟩;rw[QA,if_neg];intro z;exact hj (by simp[Pt.slots,z])
  ·cases e
 | .tp l,d,E,E',e=>by
  cases d with
  | tup ds=>exact Pts.keep (p:=l) (ds:=ds) (by simpa [Pt.bind] using e)
  | _=>simp[Pt.bind] at e
theorem Pts.keep:∀{p:Pts} {ds:List D} {E E':En},p.bind ds E=some E'->E'.length=E.length/\∀i,i∉p.slots->E'[i]?=E[i]?
 | .nil,[],E,E',e=>by simp[Pts.bind] at e;subst e;exact⟨rfl,fun _ _=>rfl⟩
 | .nil,_::_,_,_,e=>by simp[Pts.bind] at e
 | .cons _ _,[],_,_,e=>by simp[Pts.bind] at e
 | .cons p l,d::ds,E,E',e=>by rw[Pts.bind] at e;obtain⟨E1,e1,e2⟩:=bind_some e;obtain⟨h1,h2⟩:=Pt.keep e1;obtain⟨h3,h4⟩:=Pts.keep e2;refine⟨h3.trans h1,fun i hi=>?_⟩;simp[Pts.slots] at hi;rw[h4 i hi.2,h2 i hi.1]
end
section
variable(K:Frag)(C:Addr)
noncomputable def SG(g:TG)(p:Pt):Prop:=∀(B H0 H:Hp) (σ:St) (E E':En) (x:V) (d:D) (Q:St->Hp->Prop),EnvR K C B H0 H σ E->RD K C H0 x d->p.bind d E=some E'->(∀σ',EnvR K C B H0 H σ' E'->Q σ' H)->g x σ H Q
noncomputable def SGs(g:TGs)(p:Pts):Prop:=∀(B H0 H:Hp) (σ:St) (E E':En) (xs:List V) (ds:List D) (Q:St->Hp->Prop),EnvR K C B H0 H σ E->RDL K C H0 xs ds->p.bind ds E=some E'->(∀σ',EnvR K C B H0 H σ' E'->Q σ' H)->g xs σ H Q
end
section
variable{K:Frag}{C:Addr}
theorem EnvR.setSh{B H0 H:Hp}{σ:St}{E:En}{i:Nat}{v:V}{d:D}(I:EnvR K C B H0 H σ E)(hi:i<E.length)(r:RD K C H0 v d):EnvR K C B H0 H (σ.set i (some v)) (E.set i (.sh d)) :=
 I.put' (s:=.sh d) (.refl I.h) hi r rfl
theorem UB(i:Nat):SG K C (Vv i) (.nm i):=by
 intro B H0 H σ E E' x d Q I r e q;rw[Pt.bind] at e;split at e
 ·cases e;exact q _ (I.setSh (by assumption) r)
 ·cases e
theorem Vw:SGs K C Jkb .nil:=by
 intro B H0 H σ E E' xs ds Q I r e q
 cases ds with
 | nil =>
  cases xs with
  | nil=>rw[Pts.bind] at e;cases e;exact⟨rfl,q σ I⟩
  | cons _ _=>have:=r.1;simp at this
 | cons _ _=>simp[Pts.bind] at e
theorem Yh{g:TG}{gs:TGs}{p:Pt}{ps:Pts}(h:SG K C g p)(hs:SGs K C gs ps):SGs K C (Je1 g gs) (.cons p ps):=by
 intro B H0 H σ E E' xs ds Q I r e q
 cases ds with
 | nil=>simp[Pts.bind] at e
 | cons d ds =>
  cases xs with
  | nil=>have:=r.1;simp at this
  | cons x xs=>rw[Pts.bind] at e;obtain⟨E1,e1,e2⟩:=bind_some e;exact⟨x,xs,rfl,h B H0 H σ E E1 x d _ I r.head e1 fun σ1 I1=>hs B H0 H σ1 E1 E' xs ds Q I1 r.tail e2 q⟩
theorem Jqt{n:Nat}{gs:TGs}{ps:Pts}(hn:∀(ds:List D) (E E':En),ps.bind ds E=some E'->ds.length=n)(hs:SGs K C gs ps):SG K C (Jgb K n gs) (.tp ps):=by
 intro B H0 H σ E E' x d Q I r e q
 cases d with
 | tup ds=>rw[Pt.bind] at e;obtain⟨a,xs,rfl,h,r⟩:=RD.tupI r;exact⟨a,xs,rfl,I.h.seqT h,by rw[r.1];exact hn ds E E' e,hs B H0 H σ E E' xs ds Q I r e q⟩
 | _=>simp[Pt.bind] at e
noncomputable def Pts.len:Pts->Nat
 | .nil=>0
 | .cons _ l=>l.len+1
theorem Pts.bind_len:∀{ps:Pts} {ds:List D} {E E':En},ps.bind ds E=some E'->ds.length=ps.len
 | .nil,[],_,_,_=>rfl
 | .nil,_::_,_,_,e=>by simp[Pts.bind] at e
 | .cons _ _,[],_,_,e=>by simp[Pts.bind] at e
 | .cons p l,d::ds,E,E',e=>by rw[Pts.bind] at e;obtain⟨E1,e1,e2⟩:=bind_some e;rw[Qu,Pts.bind_len e2];rfl
theorem Vx{n:Nat}{gs:TGs}{ps:Pts}(hs:SGs K C gs ps)(hn:ps.len=n):SG K C (Jgb K n gs) (.tp ps):=Jqt (fun _ _ _ e=>(Pts.bind_len e).trans hn) hs
end

section
variable(K:Frag)(C:Addr)
noncomputable def JgX(A:Hp)(J:It)(ds:List D)(H0:Hp):Prop:=∀H0' H',SStep A H0 H0' H'->(∀(i:Nat) (d:D),ds[i]?=some d->J.go i H'/\∀x H2,J.yld i H' x H2->∃H02,Step H' H0' H' H02 H2/\RD K C H02 x d)/\J.stop ds.length H'
noncomputable def SI(m:Bool)(wi:TI)(ev:En->Option (List D)):Prop:=∀(B H0 H:Hp) (σ:St) (E:En) (ds:List D) (R:It->Hp->Prop),EnvR K C B H0 H σ E->ev E=some ds ->
 (∀J H0' H',Step H H0 H H0' H'->JgX K C (if m=true then H' else B) J ds H0'->R J H')->wi σ H R
end
noncomputable def Sl.it(m:Bool):Sl->Option (List D)
 | .bo ds=>if m=true then some ds else none
 | s=>s.q
noncomputable def iE(m:Bool)(a:Ev):En->Option (List D):=fun E=>(a E).bind (Sl.it m)
noncomputable def iV(i:Nat):En->Option (List D):=fun E=>match E[i]? with
 | some (.bo ds)=>some ds
 | some (.sh d)=>(Sl.sh d).q
 | _=>none
noncomputable def rng(lo:Int)(n:Nat):List D:=(GU n).map fun(i:Nat)=>.int (lo+(i:Int))
noncomputable def JdU(a:Int):Bool:=Rx a.natAbs 4611686018427387903
noncomputable def iR1(as:En->Option (List Sl)):En->Option (List D):=fun E=>(as E).bind fun ss=>match ss with
 | [.sh (.int n)]=>if JdU n=true then some (rng 0 n.toNat) else none
 | _=>none
section
variable{K:Frag}{C:Addr}{te:TE}{ea:Ev}{m:Bool}
theorem Wv{A H0:Hp}{a:Addr}{xs:List V}{ds:List D}(hd:∀H0' H',SStep A H0 H0' H'->SqL K H' a xs)(r:RDL K C H0 xs ds):JgX K C A (Itl K a) ds H0:=by intro H0' H' st;have hq:=hd H0' H' st;refine⟨fun i d e=>?_,⟨xs,hq,by rw[r.1];exact Qn _⟩⟩;obtain⟨x,e1,r1⟩:=r.get e;refine⟨⟨xs,x,hq,e1⟩,fun y H2 ⟨e2,e3⟩=>?_⟩;subst e2;have:=e3 xs hq;rw[e1] at this;cases this;exact⟨H0',.refl st.i,r1.mono st.z⟩
theorem JmZ{A H0:Hp}{a:Addr}{xs:List V}{ds:List D}(hd:∀H0' H',SStep A H0 H0' H'->SqT K H' a xs)(r:RDL K C H0 xs ds):JgX K C A (Itt K a) ds H0:=by intro H0' H' st;have hq:=hd H0' H' st;refine⟨fun i d e=>?_,⟨xs,hq,by rw[r.1];exact Qn _⟩⟩;obtain⟨x,e1,r1⟩:=r.get e;refine⟨⟨xs,x,hq,e1⟩,fun y H2 ⟨e2,e3⟩=>?_⟩;subst e2;have:=e3 xs hq;rw[e1] at this;cases this;exact⟨H0',.refl st.i,r1.mono st.z⟩
theorem Jec(ha:SE K C te ea):SI K C m (JdS K te) (iE m ea):=by
 intro B H0 H σ E ds R I e q;obtain⟨s,e1,e⟩:=bind_some e
 cases s with
 | no=>cases e
 | bd _ _=>cases e
 | bt _ _=>cases e
 | od _ _=>cases e
 | ot _ _=>cases e
 | bo es =>
  unfold Sl.it at e;dsimp only at e;split at e
  ·next hm=>cases e;refine .inl (ha B H0 H σ E _ _ I e1 fun x H1 H1' s1 r1=>?_);obtain⟨l,xs,rfl,h,r⟩:=r1;refine⟨l,rfl,⟨xs,.of h⟩,q _ _ _ s1 ?_⟩;rw[if_pos hm];exact Wv (fun H0' H' st=>.of (st.b _ _ h)) r
  ·cases e
 | own es=>cases (show some es=some ds from e);refine .inl (ha B H0 H σ E _ _ I e1 fun x H1 H1' s1 r1=>?_);have f:=JL (Hs:=H) s1.i;have r2:=RR.frz s1.i r1 rfl;obtain⟨l,xs,rfl,h,r⟩:=RD.lstI r2;exact⟨l,rfl,⟨xs,.of (f.i _ _ h)⟩,q _ _ _ (s1.comp f fun _ z=>z) (Wv (fun H0' H' st=>.of (st.i _ _ (st.z _ _ h))) r)⟩
 | sh d =>
  cases d with
  | lst es=>cases (show some es=some ds from e);refine .inl (ha B H0 H σ E _ _ I e1 fun x H1 H1' s1 r1=>?_);obtain⟨l,xs,rfl,h,r⟩:=RD.lstI r1;exact⟨l,rfl,⟨xs,.of (s1.i _ _ h)⟩,q _ _ _ s1 (Wv (fun H0' H' st=>.of (st.i _ _ (st.z _ _ h))) r)⟩
  | fz es=>cases (show some es=some ds from e);refine .inl (ha B H0 H σ E _ _ I e1 fun x H1 H1' s1 r1=>?_);obtain⟨l,xs,rfl,h,r⟩:=RD.fzI r1;exact⟨l,rfl,⟨xs,s1.i.seq h⟩,q _ _ _ s1 (Wv (fun H0' H' st=>(st.z.trans st.i).seq h) r)⟩
  | tup es=>cases (show some es=some ds from e);refine .inr (ha B H0 H σ E _ _ I e1 fun x H1 H1' s1 r1=>?_);obtain⟨l,xs,rfl,h,r⟩:=RD.tupI r1;exact⟨l,rfl,⟨xs,s1.i.seqT h⟩,q _ _ _ s1 (JmZ (fun H0' H' st=>(st.z.trans st.i).seqT h) r)⟩
  | _=>cases (show none=some ds from e)
theorem Jlk(i:Nat):SI K C false (JdS K (Zl i)) (iV i):=by
 intro B H0 H σ E ds R I e q;unfold iV at e;split at e
 ·next es h =>
  cases e;rcases I.at' i _ h with z|⟨v,h1,h2⟩
  ·cases z
  ·obtain⟨l,xs,rfl,hl,r⟩:=h2;refine .inl ⟨_,h1,l,rfl,⟨xs,.of (I.b _ _ hl)⟩,q _ _ _ (.refl I.h) (Wv (fun H0' H' st=>.of (st.b _ _ hl)) r)⟩
 ·next d h=>refine Jec (m:=false) (ea:=Jb i) (Jg i) B H0 H σ E ds R I ?_ q;show(Jb i E).bind _=_;unfold Jb;rw[h];exact e
 ·cases e
theorem Jlh{lo:Int}{n i:Nat}{d:D}(e:(rng lo n)[i]?=some d):i<n/\d=.int (lo+(i:Int)):=by
 unfold rng at e;rw[Qx] at e
 cases h:(GU n)[i]? with
 | none=>rw[h] at e;cases e
 | some j=>rw[h] at e;cases e;obtain⟨h1,h2⟩:=Qg.mp h;simp at h1 h2;subst h2;exact⟨h1,rfl⟩
theorem JmY{A H0:Hp}{lo:Int}{n:Nat}:JgX K C A (Itr lo n) (rng lo n) H0:=by intro H0' H' st;refine⟨fun i d e=>?_,by show n<=_;simp[rng]⟩;obtain⟨h1,rfl⟩:=Jlh e;refine⟨h1,fun x H2 ⟨e1,e2⟩=>?_⟩;subst e1 e2;exact⟨H0',.refl st.i,.int _⟩
theorem JbF{a:Int}(h:JdU a=true):-(2 ^ 62)<=a/\a<2 ^ 62:=by unfold JdU at h;rw[G4] at h;omega
theorem Jp0{t:TA}{ev:En->Option (List Sl)}(ha:SA K C t ev):SI K C m (JlX t) (iR1 ev):=by
 intro B H0 H σ E ds R I e q;obtain⟨ss,e1,e⟩:=bind_some e;split at e
 ·split at e
  ·next hn =>
   cases e;refine ha B H0 H σ E _ _ I e1 fun vs H1 H1' s1 r1=>?_
   obtain⟨v,rfl,r⟩:=r1.one;rw[RD.intI r];exact⟨_,rfl,(JbF hn).1,(JbF hn).2,q _ _ _ s1 JmY⟩
  ·cases e
 ·cases e
end

noncomputable def yes?:En->Option Bool:=fun _=>some true
noncomputable def Wu(imp:List (Option Nat))(E:En):En:=imp.map fun o=>match o with
 | none=>.no
 | some k=>match E[k]? with
  | some (.own ds)=>.bo ds
  | some (.od ks ds)=>.bd ks ds
  | some (.ot ks ds)=>.bt ks ds
  | some s=>s
  | none=>.no
noncomputable def UY(p:Pt)(c:En->Option Bool)(a:Ev)(E1:En):List D->Option (List D)
 | []=>some []
 | d::ds=>(p.bind d E1).bind fun E2=>(c E2).bind fun k=>if k=true then(a E2).bind fun s=>s.frz.bind fun y=>(UY p c a E1 ds).bind fun ys=>some (y::ys) else UY p c a E1 ds
noncomputable def YL(it:En->Option (List D))(p:Pt)(c:En->Option Bool)(a:Ev)(imp:List (Option Nat)):Ev:=fun E=>(it E).bind fun ds=>if ds.length<=sizeLine then(UY p c a (Wu imp E) ds).map .own else none
section
variable{K:Frag}{C:Addr}
theorem Jbe:ST K C JoB yes?:=fun _ _ _ _ _ _ _ I e q=>by cases e;exact q _ _ (.refl I.h)
theorem JjM{B H0 H:Hp}{σ:St}{E:En}{imp:List (Option Nat)}(I:EnvR K C B H0 H σ E):EnvR K C H H0 H (ZN imp σ) (Wu imp E):=by
 have get:∀(i:Nat) (s:Sl),(Wu imp E)[i]?=some s->s=.no\/∃v,(ZN imp σ)[i]?=some (some v)/\RSl K C H H0 H v s/\JR s=false:=fun i s e=>by
  unfold Wu at e;unfold ZN;rw[Qx] at e ⊢
  cases h:imp[i]? with
  | none=>rw[h] at e;cases e
  | some o =>
   rw[h] at e
   cases o with
   | none=>cases e;exact .inl rfl
   | some k =>
    have e':(match E[k]? with|some (.own ds)=>Sl.bo ds|some (.od ks ds)=>Sl.bd ks ds|some (.ot ks ds)=>Sl.bt ks ds|some s=>s|none=>.no)=s:=Qz e
    cases hE:E[k]? with
    | none=>rw[hE] at e';exact .inl e'.symm
    | some s' =>
     rw[hE] at e';rcases I.at' k s' hE with z|⟨v,h1,h2⟩
     ·subst z;exact .inl e'.symm
     ·have g:(σ[k]?).join=some v:=by rw[h1];rfl
      cases s' with
      | no=>exact .inl e'.symm
      | sh d=>dsimp only at e';subst e';exact .inr ⟨v,by show some ((σ[k]?).join)=_;rw[g],h2,rfl⟩
      | bo ds=>dsimp only at e';subst e';obtain⟨l,xs,q1,q2,q3⟩:=h2;exact .inr ⟨v,by show some ((σ[k]?).join)=_;rw[g],⟨l,xs,q1,I.b _ _ q2,q3⟩,rfl⟩
      | own ds=>dsimp only at e';subst e';obtain⟨l,xs,q1,q2,_,_,q3⟩:=h2;exact .inr ⟨v,by show some ((σ[k]?).join)=_;rw[g],⟨l,xs,q1,q2,q3⟩,rfl⟩
      | bd ks ds=>dsimp only at e';subst e';obtain⟨l,xs,q1,q2,q3⟩:=h2;exact .inr ⟨v,by show some ((σ[k]?).join)=_;rw[g],⟨l,xs,q1,I.b _ _ q2,q3⟩,rfl⟩
      | bt ks ds=>dsimp only at e';subst e';obtain⟨l,xs,q1,q2,q3⟩:=h2;exact .inr ⟨v,by show some ((σ[k]?).join)=_;rw[g],⟨l,xs,q1,I.b _ _ q2,q3⟩,rfl⟩
      | od ks ds=>dsimp only at e';subst e';obtain⟨l,xs,q1,q2,_,_,q3⟩:=h2;exact .inr ⟨v,by show some ((σ[k]?).join)=_;rw[g],⟨l,xs,q1,q2,q3⟩,rfl⟩
      | ot ks ds=>dsimp only at e';subst e';obtain⟨l,xs,q1,q2,_,_,q3⟩:=h2;exact .inr ⟨v,by show some ((σ[k]?).join)=_;rw[g],⟨l,xs,q1,q2,q3⟩,rfl⟩
 refine⟨Same.refl _,I.h,by simp[ZN,Wu],fun i s e=>?_,fun i j s t v hij e1 e2 o1 o2=>?_⟩
 ·rcases get i s e with z|⟨v,h1,h2,_⟩
  ·exact .inl z
  ·exact .inr ⟨v,h1,h2⟩
 ·rcases get i _ e1 with z|⟨v,h1,h2,h3⟩
  ·subst z;cases o1
  ·rw[h3] at o1;cases o1
theorem W4{wi:TI}{g:TG}{tt:TT}{te:TE}{imp:List (Option Nat)}{it:En->Option (List D)}{p:Pt}{c:En->Option Bool}{a:Ev}(hi:SI K C true wi it)(hg:SG K C g p)(hc:ST K C tt c)(ha:SE K C te a)
 (hp:(p.slots.all fun i=>match imp[i]? with|some none=>true|_=>false)=true):SE K C (JfL wi g tt te imp) (YL it p c a imp):=by
 intro B H0 H σ E r Q I e q;obtain⟨ds,e1,e⟩:=bind_some e;split at e
 ·next hl =>
  obtain⟨es,e2,rfl⟩:=map_some e;refine hi B H0 H σ E ds _ I e1 fun J H1 H1' s1 ok=>?_
  rw[if_pos rfl] at ok;have I1:EnvR K C H1' H1 H1' (ZN imp σ) (Wu imp E):=JjM (I.step s1)
  -- the loop: what was gathered,what comes
  refine⟨fun i m ys σ' H'=>m=ds.length-i/\i<=ds.length/\∃H0' gs rs,EnvR K C H1' H0' H' σ' (Wu imp E)/\Step H1' H1 H1' H0' H'/\RDL K C H0' ys gs/\UY p c a (Wu imp E) (ds.drop i)=some rs/\es=gs++rs/\gs.length<=i,
   ⟨ds.length,by simp,Gn _,H1,[],es,I1,.refl s1.i,.nil,e2,rfl,Qn _⟩,?_⟩
  rintro i m ys σ' H' ⟨rfl,hi',H0',gs,rs,I',st,rys,er,ees,hgl⟩;have stop:=ok H0' H' ⟨st.h,st.z,st.n,st.i⟩
  by_cases hlt:i<ds.length
  ·have hd:ds[i]?=some ds[i]:=by simp[hlt]
   obtain⟨go,yl⟩:=stop.1 i _ hd;refine .inr ⟨go,by rw[rys.1];omega,fun ys' σ2 H2=>∃H02 gs rs,EnvR K C H1' H02 H2 σ2 (Wu imp E)/\Step H1' H1 H1' H02 H2/\RDL K C H02 ys' gs/\UY p c a (Wu imp E) (ds.drop (i+1))=some rs/\es=gs++rs/\gs.length<=i+1,
    fun ys' σ2 H2 h=>⟨ds.length-(i+1),by omega,rfl,hlt,h⟩,fun x H2 y=>?_⟩
   obtain⟨H02,st2,rx⟩:=yl x H2 y;rw[Kj hlt,UY] at er;obtain⟨E2,b1,er⟩:=bind_some er;obtain⟨k,b2,er⟩:=bind_some er;refine hg H1' H02 H2 σ' (Wu imp E) E2 x _ _ (I'.step st2) rx b1 fun σ2 I2=>?_
   have back:∀{H03 H3:Hp},EnvR K C H1' H03 H3 σ2 E2->EnvR K C H1' H03 H3 σ2 (Wu imp E):=fun {H03 H3} J=>by
    obtain⟨k1,k2⟩:=Pt.keep b1;refine J.sub k1.symm fun j s ej=>?_
    by_cases hj:j∈p.slots
    ·have:=KE.mp hp j hj
     have ej':=ej;unfold Wu at ej';rw[Qx] at ej'
     cases hm:imp[j]? with
     | none=>rw[hm] at this;cases this
     | some o =>
      rw[hm] at this ej'
      cases o with
      | none=>cases ej';exact .inl rfl
      | some _=>cases this
    ·exact .inr (by rw[k2 j hj];exact ej)
   refine hc H1' H02 H2 σ2 E2 k _ I2 b2 fun H03 H3 st3=>?_
   have st13:Step H1' H1 H1' H03 H3:=(st.trans st2).trans st3
   cases k with
   | false=>rw[if_neg (by simp)];rw[if_neg (by simp)] at er;exact⟨H03,gs,rs,back (I2.step st3),st13,rys.mono (st2.z.trans st3.z),er,ees,by omega⟩
   | true =>
    rw[if_pos rfl];rw[if_pos rfl] at er;obtain⟨s,b3,er⟩:=bind_some er;obtain⟨y',b4,er⟩:=bind_some er;obtain⟨ws,b5,er⟩:=bind_some er;cases er;refine ha H1' H03 H3 σ2 E2 s _ (I2.step st3) b3 fun v H04 H4 st4 r4=>?_
    have f:=JL (Hs:=H3) st4.i
    have st5:Step H3 H03 H3 (JX H3 H04 H4) H4:=st4.comp f fun _ z=>z
    exact⟨_,gs++[y'],ws,back ((I2.step st3).step st5),st13.trans st5,(rys.mono ((st2.z.trans st3.z).trans st5.z)).snoc (RR.frz st4.i r4 b4),b5,by rw[ees,G2];rfl,by rw[Qy];simp;exact hgl⟩
  ·have e3:i=ds.length:=by omega
   subst e3;refine .inl ⟨stop.2,by rw[rys.1];omega,fun p hp=>?_⟩;rw[MG,UY] at er;cases er;rw[Kl] at ees;subst ees;exact Ud (Hs:=H) st.i (s1.h.trans st.h) hp rys fun v H2 H2' s2 r2=>q v H2 H2' ((s1.trans st).comp s2 fun _ z=>z) r2
 ·cases e
end
end LE

namespace LE
open PySem L2 LR

inductive Out where
 | nx (E:En)|rt (r:Sl)|bk (E:En)|ct (E:En)
noncomputable abbrev Es:=En->Option Out
section
variable(K:Frag)(C:Addr)
noncomputable def Fin(B H0:Hp)(D:Ends):Out->Prop
 | .nx E=>∀σ' H0' H',SStep B H0 H0' H'->EnvR K C B H0' H' σ' E->D.nx σ' H'
 | .bk E=>∀σ' H0' H',SStep B H0 H0' H'->EnvR K C B H0' H' σ' E->D.bk σ' H'
 | .ct E=>∀σ' H0' H',SStep B H0 H0' H'->EnvR K C B H0' H' σ' E->D.ct σ' H'
 | .rt r=>∀v H0' H',SStep B H0 H0' H'->RR K C B H0' H' v r->D.rt v H'
noncomputable def SS(ts:TS)(ev:Es):Prop:=∀(B H0 H:Hp) (σ:St) (E:En) (o:Out) (D:Ends),EnvR K C B H0 H σ E->ev E=some o->Fin K C B H0 D o->ts D σ H
end
noncomputable def Jy:Es:=fun E=>some (.nx E)
noncomputable def JiN(b:Es):Out->Option Out
 | .nx E=>b E
 | .rt r=>some (.rt r)
 | .bk E=>some (.bk E)
 | .ct E=>some (.ct E)
noncomputable def Jl(a b:Es):Es:=fun E=>(a E).bind (JiN b)
noncomputable def xIf(c:En->Option Bool)(a b:Es):Es:=fun E=>(c E).bind fun k=>if k=true then a E else b E
noncomputable def keep?:Sl->Option Sl
 | .sh d=>some (.sh d)
 | .own ds=>some (.own ds)
 | .od ks ds=>some (.od ks ds)
 | .ot ks ds=>some (.ot ks ds)
 | _=>none
noncomputable def Zm(i:Nat)(a:Ev):Es:=fun E=>(a E).bind fun s=>(keep? s).bind fun s=>if i<E.length then some (.nx (E.set i s)) else none
noncomputable def Jn(i:Nat)(a:Ev):Es:=fun E=>(a E).bind fun s=>s.frz.bind fun d=>if i<E.length then some (.nx (E.set i (.sh d))) else none
noncomputable def JoH(p:Pt)(a:Ev):Es:=fun E=>(a E).bind fun s=>s.frz.bind fun d=>(p.bind d E).map .nx
noncomputable def Vn(a:Ev):Es:=fun E=>(a E).map fun _=>.nx E
noncomputable def JY(a:Ev):Es:=fun E=>(a E).bind fun s=>(keep? s).map .rt
noncomputable def VJ(i:Nat):Es:=fun E=>match E[i]? with
 | some (.sh d)=>some (.rt (.sh d))
 | some (.own ds)=>some (.rt (.own ds))
 | some (.od ks ds)=>some (.rt (.od ks ds))
 | _=>none
noncomputable def Ya:Es:=fun _=>none
noncomputable def Jb6(i:Nat)(a:Ev):Es:=fun E=>match E[i]? with
 | some (.own ds)=>(a E).bind fun s=>s.frz.bind fun d=>if ds.length<sizeLine then some (.nx (E.set i (.own (ds++[d])))) else none
 | _=>none
noncomputable def Jeo(i:Nat)(a:Ev):Es:=fun E=>match E[i]? with
 | some (.own ds)=>(a E).bind fun s=>s.m.bind fun es=>if ds.length+es.length<=sizeLine then some (.nx (E.set i (.own (ds++es)))) else none
 | _=>none
noncomputable def Jje(f:Int->Int->Int)(i:Nat)(a:Ev):Es:=fun E=>match E[i]? with
 | some (.sh (.int x))=>(a E).bind fun s=>match s with
  | .sh (.int y)=>some (.nx (E.set i (.sh (.int (f x y)))))
  | _=>none
 | _=>none
noncomputable def JmQ(i:Nat)(E:En):En:=match E[i]? with
 | some (.own ds)=>E.set i (.sh (.lst ds))
 | some (.od ks ds)=>E.set i (.sh (.dct ks ds))
 | _=>E
noncomputable def J9(p:Pt)(b:Es):List D->Es
 | [],E=>some (.nx E)
 | d::ds,E=>(p.bind d E).bind fun E1=>(b E1).bind fun o=>match o with
  | .nx E2=>J9 p b ds E2
  | .ct E2=>J9 p b ds E2
  | .bk E2=>some (.nx E2)
  | .rt r=>some (.rt r)
noncomputable def UW(it:En->Option (List D))(p:Pt)(b:Es):Es:=fun E=>(it E).bind fun ds=>J9 p b ds E
noncomputable def Ul(c:En->Option Bool)(b:Es):Nat->Es
 | 0,_=>none
 | n+1,E=>(c E).bind fun k=>if k=true then(b E).bind fun o=>match o with
  | .nx E2=>Ul c b n E2
  | .ct E2=>Ul c b n E2
  | .bk E2=>some (.nx E2)
  | .rt r=>some (.rt r)
  else some (.nx E)
section
variable{K:Frag}{C:Addr}{B H0 H H0' H':Hp}{σ:St}{E:En}{D:Ends}{o:Out}{te:TE}{ea:Ev}{t u:TS}{et eu:Es}
theorem Fin.step(st:SStep B H0 H0' H')(f:Fin K C B H0 D o):Fin K C B H0' D o:=by
 cases o with
 | nx E=>exact fun σ' H1 H1' s1 I=>f σ' H1 H1' (st.trans s1) I
 | bk E=>exact fun σ' H1 H1' s1 I=>f σ' H1 H1' (st.trans s1) I
 | ct E=>exact fun σ' H1 H1' s1 I=>f σ' H1 H1' (st.trans s1) I
 | rt r=>exact fun v H1 H1' s1 I=>f v H1 H1' (st.trans s1) I
theorem EnvR.ss(I:EnvR K C B H0 H σ E):SStep B H0 H0 H:=.refl I.b I.h
theorem YU:SS K C Ji3 Jy:=fun _ _ _ _ _ _ _ I e f=>by cases e;exact f _ _ _ I.ss I
theorem JlK:SS K C Ji2 Ya:=fun _ _ _ _ _ _ _ _ e _=>by cases e
theorem J0(ht:SS K C t et)(hu:SS K C u eu):SS K C (JlD t u) (Jl et eu):=by
 intro B H0 H σ E o D I e f;obtain⟨o1,e1,e⟩:=bind_some e;refine ht B H0 H σ E o1 _ I e1 ?_
 cases o1 with
 | nx E1=>exact fun σ1 H1 H1' s1 I1=>hu B H1 H1' σ1 E1 o D I1 e (f.step s1)
 | bk E1=>cases e;exact f
 | ct E1=>cases e;exact f
 | rt r=>cases e;exact f
theorem Wm{c:TT}{ec:En->Option Bool}(hc:ST K C c ec)(ht:SS K C t et)(hu:SS K C u eu):SS K C (JlC c t u) (xIf ec et eu):=by
 intro B H0 H σ E o D I e f;obtain⟨k,e1,e⟩:=bind_some e;refine hc B H0 H σ E k _ I e1 fun H1 H1' s1=>?_
 cases k with
 | true=>rw[if_pos rfl];exact ht B H1 H1' σ E o D (I.step s1) e (f.step (s1.ss I.b))
 | false=>rw[if_neg (by simp)];exact hu B H1 H1' σ E o D (I.step s1) e (f.step (s1.ss I.b))
theorem Ja3{s r:Sl}(e:keep? s=some r):s=r/\JmX r=false:=by cases s <;> cases e <;> exact⟨rfl,rfl⟩
theorem JfS{i:Nat}(ha:SE K C te ea):SS K C (Jb3 te (Vv i)) (Zm i ea):=by
 intro B H0 H σ E o D I e f;obtain⟨s,e1,e⟩:=bind_some e;obtain⟨s',e2,e⟩:=bind_some e;obtain⟨rfl,hb⟩:=Ja3 e2;split at e
 ·cases e;exact ha B H0 H σ E _ _ I e1 fun v H1 H1' s1 r1=>f _ _ _ (s1.ss I.b) (I.put' s1 (by assumption) r1 hb)
 ·cases e
theorem Yb{i:Nat}(ha:SE K C te ea):SS K C (Jb3 te (Vv i)) (Jn i ea):=by
 intro B H0 H σ E o D I e f;obtain⟨s,e1,e⟩:=bind_some e;obtain⟨d,e2,e⟩:=bind_some e;split at e
 ·cases e;refine ha B H0 H σ E _ _ I e1 fun v H1 H1' s1 r1=>?_
  have s2:Step H H0 H (JX H H1 H1') H1':=s1.comp (JL s1.i) fun _ z=>z
  exact f _ _ _ (s2.ss I.b) ((I.step s2).setSh (by assumption) (RR.frz s1.i r1 e2))
 ·cases e
theorem Jqd{g:TG}{p:Pt}(ha:SE K C te ea)(hg:SG K C g p):SS K C (Jb3 te g) (JoH p ea):=by
 intro B H0 H σ E o D I e f;obtain⟨s,e1,e⟩:=bind_some e;obtain⟨d,e2,e⟩:=bind_some e;obtain⟨E',e3,rfl⟩:=map_some e;refine ha B H0 H σ E _ _ I e1 fun v H1 H1' s1 r1=>?_
 have s2:Step H H0 H (JX H H1 H1') H1':=s1.comp (JL s1.i) fun _ z=>z
 exact hg B _ H1' σ E E' v d _ (I.step s2) (RR.frz s1.i r1 e2) e3 fun σ' I'=>f _ _ _ (s2.ss I.b) I'
theorem Wl(ha:SE K C te ea):SS K C (WL te) (Vn ea):=by intro B H0 H σ E o D I e f;obtain⟨s,e1,rfl⟩:=map_some e;exact ha B H0 H σ E _ _ I e1 fun v H1 H1' s1 r1=>f _ _ _ (s1.ss I.b) (I.step s1)
theorem Zg(ha:SE K C te ea):SS K C (Ji4 te) (JY ea):=by intro B H0 H σ E o D I e f;obtain⟨s,e1,e⟩:=bind_some e;obtain⟨s',e2,rfl⟩:=map_some e;obtain⟨rfl,hb⟩:=Ja3 e2;exact ha B H0 H σ E _ _ I e1 fun v H1 H1' s1 r1=>f _ _ _ (s1.ss I.b) (r1.weak fun a z=>Same.free I.b z)
theorem Jb7{i:Nat}:SS K C (Ji4 (Zl i)) (VJ i):=by
 intro B H0 H σ E o D I e f;unfold VJ at e;split at e
 ·next d h =>
  cases e;rcases I.at' i _ h with z|⟨v,h1,h2⟩
  ·cases z
  ·exact⟨v,h1,f _ _ _ I.ss h2⟩
 ·next d h =>
  cases e;rcases I.at' i _ h with z|⟨v,h1,h2⟩
  ·cases z
  ·exact⟨v,h1,f _ _ _ I.ss h2⟩
 ·next d h =>
  cases e;rcases I.at' i _ h with z|⟨v,h1,h2⟩
  ·cases z
  ·exact⟨v,h1,f _ _ _ I.ss h2⟩
 ·cases e
theorem EnvR.mutG{i:Nat}{l:Addr}{t t':Sl}{o':HO}(I:EnvR K C B H0 H σ E)(e1:E[i]?=some t)(ho:JR t=true)(ho':JR t'=true)(e2:σ[i]?=some (some (.ref l)))(r:RSl K C B H0 (upd H l o') (.ref l) t') :
 EnvR K C B H0 (upd H l o') σ (E.set i t'):=by
 obtain⟨h1,h2,h3⟩:=I.ownG e1 ho e2;have hi:i<E.length:=(Qg.mp e1).1;have nb:∀{A:Hp},A l=none->Same A H->Same A (upd H l o'):=fun {A} n s a o e=>by rw[Ji (Jq e n)];exact s a o e
 refine⟨nb h3 I.b,nb h2 I.h,by simp[I.len],fun j s e=>?_,fun j k s1 s2 v hjk a1 a2 p1 p2 a3=>?_⟩
 ·rw[QA] at e
  by_cases hj:i=j
  ·subst hj;rw[if_pos rfl,if_pos hi] at e;cases e;exact .inr ⟨_,e2,r⟩
  ·rw[if_neg hj] at e;rcases I.at' j s e with z|⟨v,q1,q2⟩
   ·exact .inl z
   ·refine .inr ⟨v,q1,?_⟩
    cases s with
    | no=>trivial
    | sh d=>exact q2
    | bo es=>exact q2
    | bd ks es=>exact q2
    | bt ks es=>exact q2
    | own es =>
     obtain⟨l',ys,p1,p2,p3,p4,p5⟩:=q2;subst p1;have:l'≠l:=fun z=>by subst z;exact I.sep i j t _ (.ref l') hj e1 e ho rfl e2 q1
     exact⟨l',ys,rfl,by rw[Ji this];exact p2,p3,p4,p5⟩
    | od ks es =>
     obtain⟨l',ys,p1,p2,p3,p4,p5⟩:=q2;subst p1;have:l'≠l:=fun z=>by subst z;exact I.sep i j t _ (.ref l') hj e1 e ho rfl e2 q1
     exact⟨l',ys,rfl,by rw[Ji this];exact p2,p3,p4,p5⟩
    | ot ks es =>
     obtain⟨l',ys,p1,p2,p3,p4,p5⟩:=q2;subst p1;have:l'≠l:=fun z=>by subst z;exact I.sep i j t _ (.ref l') hj e1 e ho rfl e2 q1
     exact⟨l',ys,rfl,by rw[Ji this];exact p2,p3,p4,p5⟩
 ·have own:∀{j:Nat} {u:Sl},(E.set i t')[j]?=some u->JR u=true->∃g,E[j]?=some g/\JR g=true:=fun {j u} a w=>by
   rw[QA] at a
   by_cases hj:i=j
   ·subst hj;exact⟨t,e1,ho⟩
   ·rw[if_neg hj] at a;exact⟨_,a,w⟩
  obtain⟨g1,b1,c1⟩:=own a1 p1;obtain⟨g2,b2,c2⟩:=own a2 p2;exact I.sep j k g1 g2 v hjk b1 b2 c1 c2 a3
theorem EnvR.mut{i:Nat}{l:Addr}{ds ds':List LE.D}{xs xs':List V}(I:EnvR K C B H0 H σ E)(e1:E[i]?=some (.own ds))(e2:σ[i]?=some (some (.ref l)))(r:RDL K C H0 xs' ds') :
 EnvR K C B H0 (upd H l (.lst xs')) σ (E.set i (.own ds')):=by
 obtain⟨_,h2,h3⟩:=I.ownG e1 rfl e2;exact I.mutG (t':=.own ds') e1 rfl rfl e2 ⟨l,xs',rfl,Jt,h2,h3,r⟩
theorem EnvR.slot{i:Nat}{ds:List LE.D}(I:EnvR K C B H0 H σ E)(e1:E[i]?=some (.own ds)):∃l xs,σ[i]?=some (some (.ref l))/\H l=some (.lst xs)/\H0 l=none/\B l=none/\RDL K C H0 xs ds:=by
 rcases I.at' i _ e1 with z|⟨v,h1,l,xs,rfl,h2,h3,h4,h5⟩
 ·cases z
 ·exact⟨l,xs,h1,h2,h3,h4,h5⟩
theorem Jqc{i:Nat}(ha:SE K C te ea):SS K C (WL (tBM K "list" WE (Zl i) (YE te UV))) (Jb6 i ea):=by
 intro B H0 H σ E o D I e f;unfold Jb6 at e;split at e
 ·next ds h =>
  obtain⟨s,e1,e⟩:=bind_some e;obtain⟨d,e2,e⟩:=bind_some e;split at e
  ·next hz =>
   cases e;obtain⟨l,xs,g1,g2,g3,g4,g5⟩:=I.slot h;refine⟨_,g1,.inl ⟨rfl,_,.of g2⟩,?_⟩;refine ha B H0 H σ E _ _ I e1 fun v H1 H1' s1 r1=>?_
   have s2:Step H H0 H (JX H H1 H1') H1':=s1.comp (JL s1.i) fun _ z=>z
   have I2:=I.step s2
   have m:=I2.mut (xs:=xs) h g1 ((g5.mono s2.z).snoc (RR.frz s1.i r1 e2));exact⟨l,xs,v,rfl,rfl,s2.h _ _ g2,by rw[g5.1];exact hz,f _ _ _ ⟨m.b,s2.z,(s2.ss I.b).n,m.h⟩ m⟩
  ·cases e
 ·cases e
theorem Jjg{i:Nat}(ha:SE K C te ea):SS K C (WL (tBM K "list" Jfy (Zl i) (YE te UV))) (Jeo i ea):=by
 intro B H0 H σ E o D I e f;unfold Jeo at e;split at e
 ·next ds h =>
  obtain⟨s,e1,e⟩:=bind_some e;obtain⟨es,e2,e⟩:=bind_some e;split at e
  ·next hz =>
   cases e;obtain⟨l,xs,g1,g2,g3,g4,g5⟩:=I.slot h;refine⟨_,g1,.inl ⟨rfl,_,.of g2⟩,?_⟩;refine ha B H0 H σ E _ _ I e1 fun v H1 H1' s1 r1=>?_
   have I2:=I.step s1;obtain⟨l',ys,rfl,k1,k2⟩:=r1.m s1.i e2
   have m:=I2.mut (xs:=xs) h g1 ((g5.mono s1.z).append k2);exact⟨l,l',xs,ys,rfl,rfl,s1.h _ _ g2,k1,by rw[g5.1,k2.1];exact hz,f _ _ _ ⟨m.b,s1.z,(s1.ss I.b).n,m.h⟩ m⟩
  ·cases e
 ·cases e
theorem Jqe{i:Nat}{g:Int->Int->Int}(ha:SE K C te ea):SS K C (JlA i te (ipI g)) (Jje g i ea):=by
 intro B H0 H σ E o D I e f;unfold Jje at e;split at e
 ·next x h =>
  obtain⟨s,e1,e⟩:=bind_some e;split at e
  ·cases e;rcases I.at' i _ h with z|⟨v,h1,h2⟩
   ·cases z
   ·have hi:i<E.length:=(Qg.mp h).1;refine⟨v,h1,ha B H0 H σ E _ _ I e1 fun w H1 H1' s1 r1=>⟨_,_,RD.intI h2,RD.intI r1,f _ _ _ (s1.ss I.b) ((I.step s1).setSh hi (.int _))⟩⟩
  ·cases e
 ·cases e
theorem EnvR.slotD{i:Nat}{ks:List Int}{ds:List LE.D}(I:EnvR K C B H0 H σ E)(e1:E[i]?=some (.od ks ds)):∃l xs,σ[i]?=some (some (.ref l))/\H l=some (dkO ks xs)/\H0 l=none/\B l=none/\ks.length=ds.length/\RDL K C H0 xs ds:=by
 rcases I.at' i _ e1 with z|⟨v,h1,l,xs,rfl,h2,h3,h4,h5⟩
 ·cases z
 ·exact⟨l,xs,h1,h2,h3,h4,h5⟩
theorem EnvR.frzG(I:EnvR K C B H0 H σ E){i:Nat}{t:Sl}{l:Addr}{o:HO}{d:LE.D}(h:E[i]?=some t)(ho:JR t=true)(g1:σ[i]?=some (some (.ref l)))(g2:H l=some o)(g5:∀H1,Same H0 H1->H1 l=some o->RD K C H1 (.ref l) d):∃H0',SStep B H0 H0' H/\EnvR K C B H0' H σ (E.set i (.sh d)):=by
 obtain⟨_,g3,g4⟩:=I.ownG h ho g1;have hi:i<E.length:=(Qg.mp h).1;have s0:Same H0 (upd H0 l o):=.new g3
 have s1:Same (upd H0 l o) H:=fun a o e=>by
  by_cases ha:a=l
  ·subst ha;rw[Jt] at e;cases e;exact g2
  ·rw[Ji ha] at e;exact I.h a o e
 refine⟨upd H0 l o,⟨I.b,s0,fun a o e=>?_,s1⟩,I.b,s1,by simp[I.len],fun j s e=>?_,fun j k u1 u2 v hjk a1 a2 w1 w2 a3=>?_⟩
 ·by_cases ha:a=l
  ·subst ha;exact .inr (.inl g4)
  ·rw[Ji ha] at e;exact .inl e
 ·rw[QA] at e
  by_cases hj:i=j
  ·subst hj;rw[if_pos rfl,if_pos hi] at e;cases e;exact .inr ⟨_,g1,g5 _ s0 Jt⟩
  ·rw[if_neg hj] at e;rcases I.at' j s e with z|⟨v,q1,q2⟩
   ·exact .inl z
   ·refine .inr ⟨v,q1,?_⟩
    cases s with
    | no=>trivial
    | sh d=>exact RD.mono s0 q2
    | bo es=>obtain⟨l',ys,p1,p2,p3⟩:=q2;exact⟨l',ys,p1,p2,p3.mono s0⟩
    | bd ks es=>obtain⟨l',ys,p1,p2,hk,p3⟩:=q2;exact⟨l',ys,p1,p2,hk,p3.mono s0⟩
    | bt ks es=>obtain⟨l',ys,p1,p2,hk,p3⟩:=q2;exact⟨l',ys,p1,p2,hk,p3.mono s0⟩
    | own es =>
     obtain⟨l',ys,p1,p2,p3,p4,p5⟩:=q2;subst p1;have:l'≠l:=fun z=>by subst z;exact I.sep i j t _ (.ref l') hj h e ho rfl g1 q1
     exact⟨l',ys,rfl,p2,by rw[Ji this];exact p3,p4,p5.mono s0⟩
    | od ks es =>
     obtain⟨l',ys,p1,p2,p3,p4,hk,p5⟩:=q2;subst p1;have:l'≠l:=fun z=>by subst z;exact I.sep i j t _ (.ref l') hj h e ho rfl g1 q1
     exact⟨l',ys,rfl,p2,by rw[Ji this];exact p3,p4,hk,p5.mono s0⟩
    | ot ks es =>
     obtain⟨l',ys,p1,p2,p3,p4,hk,p5⟩:=q2;subst p1;have:l'≠l:=fun z=>by subst z;exact I.sep i j t _ (.ref l') hj h e ho rfl g1 q1
     exact⟨l',ys,rfl,p2,by rw[Ji this];exact p3,p4,hk,p5.mono s0⟩
 ·have own:∀{j:Nat} {u:Sl},(E.set i (.sh d))[j]?=some u->JR u=true->E[j]?=some u:=fun {j u} a w=>by
   rw[QA] at a
   by_cases hj:i=j
   ·subst hj;rw[if_pos rfl,if_pos hi] at a;cases a;cases w
   ·rw[if_neg hj] at a;exact a
  exact I.sep j k u1 u2 v hjk (own a1 w1) (own a2 w2) w1 w2 a3
theorem EnvR.frz(I:EnvR K C B H0 H σ E)(i:Nat):∃H0',SStep B H0 H0' H/\EnvR K C B H0' H σ (JmQ i E):=by
 unfold JmQ;split
 ·next ds h=>obtain⟨l,xs,g1,g2,g3,g4,g5⟩:=I.slot h;exact I.frzG h rfl g1 g2 fun H1 s0 hl=>.mkL hl (g5.mono s0)
 ·next ks ds h=>obtain⟨l,xs,g1,g2,g3,g4,hk,g5⟩:=I.slotD h;exact I.frzG h rfl g1 g2 fun H1 s0 hl=>.mkD hl hk (g5.mono s0)
 ·exact⟨H0,I.ss,I⟩
theorem Jav{wi:TI}{g:TG}{it:En->Option (List LE.D)}{p:Pt}(hi:SI K C false wi it)(hg:SG K C g p)(ht:SS K C t et):SS K C (JgO wi g t) (UW it p et):=by
 intro B H0 H σ E o D I e f;obtain⟨ds,e1,e⟩:=bind_some e;refine hi B H0 H σ E ds _ I e1 fun J H1 H1' s1 ok=>?_
 rw[if_neg (by simp)] at ok;refine⟨fun i m σ' H'=>m=ds.length-i/\i<=ds.length/\∃H0' E',EnvR K C B H0' H' σ' E'/\SStep B H1 H0' H'/\J9 p et (ds.drop i) E'=some o,
  ⟨ds.length,by simp,Gn _,H1,E,I.step s1,.refl (I.b.trans s1.h) s1.i,e⟩,?_⟩
 rintro i m σ' H' ⟨rfl,hi',H0',E',I',st,er⟩;have stop:=ok H0' H' st;have f':Fin K C B H0' D o:=(f.step (s1.ss I.b)).step st
 by_cases hlt:i<ds.length
 ·have hd:ds[i]?=some ds[i]:=by simp[hlt]
  obtain⟨go,yl⟩:=stop.1 i _ hd;refine .inr ⟨go,fun σ2 H2=>∃H02 E2,EnvR K C B H02 H2 σ2 E2/\SStep B H1 H02 H2/\J9 p et (ds.drop (i+1)) E2=some o,fun σ2 H2 h=>⟨ds.length-(i+1),by omega,rfl,hlt,h⟩,fun x H2 y=>?_⟩;obtain⟨H02,st2,rx⟩:=yl x H2 y;rw[Kj hlt,J9] at er;obtain⟨E1,b1,er⟩:=bind_some er;obtain⟨o1,b2,er⟩:=bind_some er;have ss2:SStep B H0' H02 H2:=st2.ss I'.b;refine hg B H02 H2 σ' E' E1 x _ _ (I'.step st2) rx b1 fun σ2 I2=>?_
  refine ht B H02 H2 σ2 E1 o1 _ I2 b2 ?_
  cases o1 with
  | nx E2=>exact fun σ3 H3 H3' s3 I3=>⟨H3,E2,I3,(st.trans ss2).trans s3,er⟩
  | ct E2=>exact fun σ3 H3 H3' s3 I3=>⟨H3,E2,I3,(st.trans ss2).trans s3,er⟩
  | bk E2=>cases er;exact f'.step ss2
  | rt r=>cases er;exact f'.step ss2
 ·have e3:i=ds.length:=by omega
  subst e3;rw[MG,J9] at er;cases er;exact .inl ⟨stop.2,f' _ _ _ I'.ss I'⟩
theorem JlL{c:TT}{ec:En->Option Bool}{n:Nat}(hc:ST K C c ec)(ht:SS K C t et):SS K C (Ji6 c t) (Ul ec et n):=by
 intro B H0 H σ E o D I e f;refine⟨fun m σ' H'=>∃H0' E',EnvR K C B H0' H' σ' E'/\SStep B H0 H0' H'/\Ul ec et m E'=some o,⟨n,H0,E,I,I.ss,e⟩,?_⟩;rintro m σ' H' ⟨H0',E',I',st,er⟩
 cases m with
 | zero=>cases er
 | succ m =>
  rw[Ul] at er;obtain⟨k,b1,er⟩:=bind_some er;refine hc B H0' H' σ' E' k _ I' b1 fun H1 H1' s1=>?_
  have f':Fin K C B H1 D o:=(f.step st).step (s1.ss I'.b)
  cases k with
  | false=>rw[if_neg (by simp)] at er ⊢;cases er;exact f' _ _ _ (I'.step s1).ss (I'.step s1)
  | true =>
   rw[if_pos rfl] at er ⊢;obtain⟨o1,b2,er⟩:=bind_some er;refine⟨fun σ2 H2=>∃H02 E2,EnvR K C B H02 H2 σ2 E2/\SStep B H0 H02 H2/\Ul ec et m E2=some o,fun σ2 H2 h=>⟨m,Gi _,h⟩,?_⟩;have st1:=st.trans (s1.ss I'.b);refine ht B H1 H1' σ' E' o1 _ (I'.step s1) b2 ?_
   cases o1 with
   | nx E2=>exact fun σ3 H3 H3' s3 I3=>⟨H3,E2,I3,st1.trans s3,er⟩
   | ct E2=>exact fun σ3 H3 H3' s3 I3=>⟨H3,E2,I3,st1.trans s3,er⟩
   | bk E2=>cases er;exact f'
   | rt r=>cases er;exact f'
end

noncomputable def Jmz:Out->Option Sl
 | .nx _=>some (.sh .non)
 | .rt r=>some r
 | .bk _=>none
 | .ct _=>none
noncomputable def YM(N:Nat)(b:Es):List Sl->Option Sl:=fun as=>(b (as++Qw (N-as.length) .no)).bind Jmz
section
variable{K:Frag}{C:Addr}
theorem RRL.get{Hs H0 H:Hp}:∀{vs:List V} {ss:List Sl} {i:Nat} {s:Sl},RRL K C Hs H0 H vs ss->ss[i]?=some s->∃v,vs[i]?=some v/\RR K C Hs H0 H v s
 | _,_,_,_,.nil,e=>by simp at e
 | _,_,0,_,.cons h _,e=>by simp at e;subst e;exact⟨_,rfl,h⟩
 | _,_,i+1,s,.cons _ t,e=>by obtain⟨v,h1,h2⟩:=RRL.get (i:=i) (s:=s) t (by simpa using e);exact⟨v,by simpa using h1,h2⟩
theorem Jby{N:List Str}{n:Nat}{b:Es}{ts:TS}{vs:List V}{H:Hp}{Q:VK}{E:XK}(hb:SS K C ts b)(h:spE K C n (YM N.length b) vs H Q E):ts { nx:=fun _ H'=>Q .non H',rt:=Q } (L2.YK N vs) H:=by
 obtain⟨H0,as,r,i,ra,ho,hl,e,q⟩:=h;have lens:=ra.len
 have noOwn:∀(j:Nat) (s:Sl),as[j]?=some s->JR s=false:=fun j s e=>by
  have:=KE.mp ho s (QI e)
  simpa using this
 have get:∀(j:Nat) (s:Sl),(as++Qw (N.length-as.length) Sl.no)[j]?=some s->s=.no\/as[j]?=some s:=fun j s e=>by
  by_cases hj:j<as.length
  ·rw[Qq hj] at e;exact .inr e
  ·rw[QH (by omega),Lp] at e;split at e
   ·cases e;exact .inl rfl
   ·cases e
 have I:EnvR K C H H0 H (L2.YK N vs) (as++Qw (N.length-as.length) .no):=by
  refine⟨Same.refl _,i,by simp[L2.YK,lens],fun j s e=>?_,fun j k s1 s2 v hjk e1 e2 w1 w2=>?_⟩
  ·rcases get j s e with z|z
   ·exact .inl z
   ·obtain⟨v,h1,h2⟩:=ra.get z;refine .inr ⟨v,?_,?_⟩
    ·unfold L2.YK;rw[Qq (by have:=(Qg.mp h1).1;simpa using this),Qx,h1];rfl
    ·cases s with
     | no=>trivial
     | sh d=>exact h2
     | bo ds=>exact h2
     | own ds=>exact absurd (noOwn j _ z) (by simp[JR])
     | bd ks ds=>exact h2
     | bt ks ds=>exact h2
     | od ks ds=>exact absurd (noOwn j _ z) (by simp[JR])
     | ot ks ds=>exact absurd (noOwn j _ z) (by simp[JR])
  ·rcases get j _ e1 with z|z
   ·subst z;cases w1
   ·rw[noOwn j _ z] at w1;cases w1
 obtain⟨o,e1,e⟩:=bind_some e;refine hb H H0 H _ _ o _ I e1 ?_
 cases o with
 | nx E1=>cases e;exact fun σ' H1 H1' s1 I1=>q _ H1 H1' ⟨s1.b,s1.z,s1.n,s1.i⟩ RD.non
 | rt r'=>cases e;exact fun v H1 H1' s1 r1=>q v H1 H1' ⟨s1.b,s1.z,s1.n,s1.i⟩ r1
 | bk _=>cases e
 | ct _=>cases e
theorem Jkl{P:Program}{w:World}{mg:Str->Option Value}{base:Heap}{k:Nat}{f:Addr}{fd:FuncData}{ps:List Str}{ev:List Sl->Option Sl}(F:FnOk P w K mg base CX0 k f fd ps (spE K C 1 ev))
 (h:∀ns:List Int,ns.length<=63->ev [.sh (.fz (ns.map .int))]=some (.sh (.bl true))):FnOk P w K mg base CX0 k f fd ps (JfK K) :=
 F.imp fun vs H Q E ⟨a,ns,e,hS,hl,q⟩=>by subst e;exact⟨H,[.sh (.fz (ns.map .int))],_,Same.refl _,.cons (show RD K C H _ _ from RD.mkF hS (RDL.ofInts ns)) .nil,rfl,rfl,h ns hl,fun v H0' H' _ r=>by rw[RD.blI r];exact q H'⟩
structure RowK (K:Frag) (C:Addr):Prop where
 t:RowC K C
 k1:findIn K (.ref C) "__class__"=some (some (.builtin "object.__class__"))
 k2:specialIn K (.builtin "object.__class__") "__get__"=some (some (.builtin "getset_descriptor.__get__"))
 k3:takesIn K (.builtin "object.__class__")=some true
 k4:mroIn K C (.type "object")=some true
end
end LE

namespace L2
open PySem PySem.Spec PyProof.Rows
noncomputable def Jmm(lo c:Int)(n:Nat):It:=⟨fun i _=>i<n,fun i H x H'=>H'=H/\x=.int (lo+i*c),fun i _=>n<=i⟩
theorem Jdo{P:Program}{w:World}{K:Frag}{tg:Expr}(it:Addr)(lo c:Int)(n:Nat):Turn P w K tg (Jmm lo c n) [it] it (fun i h=>IsRangeIter h it (lo+(i:Nat)*c) ((n:Int)-(i:Nat)) c) where
 mem:=by simp
 obj:=fun i h st b hb=>by
  have e:b=it:=by simpa using hb
  subst e;refine⟨_,st,fun v z=>?_⟩;have z1:Data.fields _=Data.cell v:=z;cases z1
 keep:=fun i h h' st k=>k it (by simp) _ st
 item:=by
  intro X hP hw hK hc i pins s σ H E I hf st hg;subst hP hw hK;have fo:=hf it (by simp);refine(Walks.range (prog:=X.prog) (w:=X.w) (I.ok.hd hc) it lo c n).item i s _ _ hg st fun v h' tk hv st' kk=>?_
  obtain⟨t,rfl⟩:=hv;refine⟨_,rfl,JaZ (s:={ s with heap:=h',toks:=tk }) (n:="range_iterator") st' rfl rfl (by decide) ⟨.int (lo+i*c),H,?_,⟨t,rfl⟩,⟨rfl,rfl⟩,st',fun b hb=>(hf b hb).1⟩⟩;exact I.turned (fun b o hb e=>kk b o (by simpa using hb) e) fo.1 fo.2.1 fo.2.2.2.1 fo.2.2.2.2.1 fo.2.2.2.2.2
 done:=by intro X hP hw hK hc i pins s σ H E I hf st hg;subst hP hw hK;have fo:=hf it (by simp);have le:n<=i:=hg;exact wpAny_pyNext_range_end (I.ok.hd hc) st (by omega) fun h' eb=>⟨rfl,I.turned (t':=s.toks) (fun b o hb e=>eb b o hb e) fo.1 fo.2.1 fo.2.2.2.1 fo.2.2.2.2.1 fo.2.2.2.2.2⟩
 self:=fun _ _ _ _ _ st h=>wpAny_pyIter_rangeiter st h
noncomputable def Jmv(a b c:Int):Nat:=if a<b then((b-a-1) / c+1).toNat else 0
theorem Jeh{a b c:Int}(hc:0<c)(hc':c<1073741824)(ha:-(2 ^ 60)<=a)(ha':a<2 ^ 60)(hb:-(2 ^ 60)<=b)(hb':b<2 ^ 60):KB a b c=true:=by
 have sz:QU a b c<=2 ^ 61/\0<=QU a b c:=by
  unfold QU;rw[if_pos hc];split
  ·have h1:0<=(b-a-1) / c:=Int.ediv_nonneg (by omega) (by omega)
   have h2:(b-a-1) / c<=b-a-1:=Int.ediv_le_self _ (by omega);omega
  ·omega
 have le:a+QU a b c*c<=2 ^ 61:=by
  unfold QU;rw[if_pos hc];split
  ·have h1:(b-a-1) / c*c<=b-a-1:=Int.ediv_mul_le _ (by omega)
   have h3:((b-a-1) / c+1)*c=(b-a-1) / c*c+c:=by rw[Int.add_mul,Int.one_mul]
   omega
  ·omega
 unfold KB;simp only[LZ,Qv,KS,decide_eq_true_eq,beq_iff_eq,show c>0 from hc,if_true];omega
theorem Jeg{a b:Int}(ha:-(2 ^ 60)<=a)(ha':a<2 ^ 60)(hb:-(2 ^ 60)<=b)(hb':b<2 ^ 60):KB a b (-1)=true/\QU a b (-1)=((a-b).toNat:Int):=by
 have sz:QU a b (-1)=((a-b).toNat:Int):=by
  unfold QU;rw[if_neg (by decide)];split
  ·rw[show -(-1:Int)=1 by decide,Int.ediv_one];omega
  ·omega
 refine⟨?_,sz⟩;unfold KB;simp only[LZ,Qv,KS,decide_eq_true_eq,beq_iff_eq,sz,show ¬((-1:Int)>0) by decide,if_false];omega
noncomputable def Rg3(i j c:Int)(n:Nat):Prop:=(0<c/\c<1073741824/\n=Jmv i j c)\/(c=-1/\n=(i-j).toNat)
noncomputable def JlY(ta:TA):TI:=fun σ H R=>ta σ H fun vs H1=>∃(i j c:Int) (n:Nat),vs=[.int i,.int j,.int c]/\(Rg3 i j c n/\-(2 ^ 60)<=i/\i<2 ^ 60/\-(2 ^ 60)<=j/\j<2 ^ 60)/\R (Jmm i c n) H1
theorem JgC{X:Cx}{tg:Expr}{a b c:Expr}{ta:TA}{p pos:Pos}(hg:Gl X "range")(hm:X.mg "range"=none)(ha:PA X [a,b,c] ta)(hs:starEach [a,b,c] X.env=[(false,eval a X.env),(false,eval b X.env),(false,eval c X.env)]:=by rfl)
 (hs2:starEach [b,c] X.env=[(false,eval b X.env),(false,eval c X.env)]:=by rfl):PI X tg (.Call (.Name "range" p) [a,b,c] [] pos) (JlY ta):=by
 intro pins s σ H R I h;refine Call_ (UM I hg hm boot_range (Ga (thn (ha pos pins s σ H _ I h) fun us s1 ⟨vs,H1,I1,r1,q1⟩=>?_) (by rw[hs,hs2]) (by rw[hs2];rfl)));obtain⟨lo,hi,st,n,e,⟨c1,c3,c4,c5,c6⟩,q⟩:=q1;subst e
 cases r1 with
 | cons r rr =>
 cases rr with
 | cons r' rr =>
 cases rr with
 | cons r'' rr =>
 cases rr;obtain⟨t,rfl⟩:=r;obtain⟨t',rfl⟩:=r';obtain⟨t'',rfl⟩:=r'';have c0:st≠0:=by rcases c1 with ⟨c1,_,_⟩|⟨c1,_⟩ <;> omega
 have cs:KB lo hi st=true/\QU lo hi st=(n:Int):=by
  rcases c1 with ⟨c1,c2,rfl⟩|⟨rfl,rfl⟩
  ·refine⟨Jeh c1 c2 c3 c4 c5 c6,?_⟩;unfold Jmv QU;rw[if_pos c1];split
   ·have h1:0<=(hi-lo-1) / st:=Int.ediv_nonneg (by omega) (by omega);omega
   ·rfl
  ·exact Jeg c3 c4 c5 c6
 refine call_range_3 (by omega) ?_ (.inl (MO (by rcases c1 with ⟨c1,c2,_⟩ | ⟨c1,_⟩ <;> omega)));refine wpAny_pyIter_range (IsRange.new ..) cs.1 ?_;have I2:Inv X pins σ H1 { s1 with heap:=s1.heap.push { cls:=.type "range",data:=.fields #[.int lo t,.int hi t',.int st t''] },toks:=s1.toks }:=I1.kept fun b o e=>Qe _ e
 refine⟨_,[_],_,_,H1,rfl,I2.kept (t':=s1.toks) fun b o e=>Qe _ e,Jdo _ lo st n,?_,fun b hb=>?_,q⟩
 ·have e1:lo+((0:Nat):Int)*st=lo:=by simp
  have e2:((n:Nat):Int)-((0:Nat):Int)=QU lo hi st:=by rw[cs.2];simp
  show IsRangeIter _ _ (lo+((0:Nat):Int)*st) (((n:Nat):Int)-((0:Nat):Int)) st;rw[e1,e2];exact Qk _ rfl
 ·have e:b=_:=QK.mp hb;subst e;exact I2.fpOk (Qn _) (I2.hok.fresh (Qn _))
end L2
namespace LE
open PySem L2 LR
noncomputable def JgI(lo c:Int)(n:Nat):List D:=(GU n).map fun(i:Nat)=>.int (lo+(i:Int)*c)
noncomputable def JdT(a:Int):Bool:=Rx a.natAbs 1152921504606846975
theorem in60_ok{a:Int}:JdT a=true↔-1152921504606846976<a/\a<1152921504606846976:=by unfold JdT;rw[G4];omega
noncomputable def iR3(as:En->Option (List Sl)):En->Option (List D):=fun E=>(as E).bind fun ss=>match ss with
 | [.sh (.int a),.sh (.int b),.sh (.int c)]=>if (JdT a && JdT b && W6 c)=true then some (JgI a c (Jmv a b c)) else if (JdT a && JdT b && decide (c=-1))=true then some (JgI a c (a-b).toNat) else none
 | _=>none
section
variable{K:Frag}{C:Addr}{m:Bool}
theorem RRL.three{Hs H0 H:Hp}{vs:List V}{s t u:Sl}(r:RRL K C Hs H0 H vs [s,t,u]):∃v w x,vs=[v,w,x]/\RR K C Hs H0 H v s/\RR K C Hs H0 H w t/\RR K C Hs H0 H x u:=by
 cases r with
 | cons h r=>cases r with
  | cons h' r=>cases r with
   | cons h'' r=>cases r;exact⟨_,_,_,rfl,h,h',h''⟩
theorem Je6{A H0:Hp}{lo c:Int}{n:Nat}:JgX K C A (Jmm lo c n) (JgI lo c n) H0:=by intro H0' H' st;refine⟨fun i d e=>?_,by show n<=_;simp[JgI]⟩;unfold JgI at e;rw[Qx] at e;obtain⟨j,e1,e2⟩:=map_some e;obtain⟨h1,h2⟩:=Qg.mp e1;simp at h1 h2;subst h2 e2;refine⟨h1,fun x H2 ⟨e1,e2⟩=>?_⟩;subst e1 e2;exact⟨H0',.refl st.i,.int _⟩
theorem Jp1{t:TA}{ev:En->Option (List Sl)}(ha:SA K C t ev):SI K C m (JlY t) (iR3 ev):=by
 intro B H0 H σ E ds R I e q;obtain⟨ss,e1,e⟩:=bind_some e;split at e
 ·split at e
  ·next hn =>
   cases e;simp only[Qv,smallP_ok,in60_ok] at hn;refine ha B H0 H σ E _ _ I e1 fun vs H1 H1' s1 r1=>?_
   obtain⟨v,w,x,rfl,r,r',r''⟩:=r1.three;rw[RD.intI r,RD.intI r',RD.intI r''];exact⟨_,_,_,_,rfl,⟨.inl ⟨hn.2.1,hn.2.2,rfl⟩,by omega⟩,q _ _ _ s1 Je6⟩
  ·split at e
   ·next hn =>
    cases e;simp only[Qv,in60_ok,decide_eq_true_eq] at hn;refine ha B H0 H σ E _ _ I e1 fun vs H1 H1' s1 r1=>?_
    obtain⟨v,w,x,rfl,r,r',r''⟩:=r1.three;rw[RD.intI r,RD.intI r',RD.intI r''];exact⟨_,_,_,_,rfl,⟨.inr ⟨hn.2,rfl⟩,by omega⟩,q _ _ _ s1 Je6⟩
   ·cases e
 ·cases e
noncomputable def str?:Sl->Option Str
 | .sh (.str z)=>some z
 | _=>none
end
end LE

namespace LE
open PySem L2 LR
noncomputable def okS(P:En->Prop):Option Out->Prop
 | some (.nx E)=>P E
 | some (.ct E)=>P E
 | _=>False
theorem Jnq{P:En->Prop}{E:En}:okS P (some (.nx E))=P E:=rfl
theorem Jnp{P:En->Prop}{E:En}:okS P (some (.ct E))=P E:=rfl
theorem Z1{P:En->Prop}{o:Option Out}(h:okS P o):∃E,(o=some (.nx E)\/o=some (.ct E))/\P E:=by
 unfold okS at h;split at h
 ·exact⟨_,.inl rfl,h⟩
 ·exact⟨_,.inr rfl,h⟩
 ·exact h.elim
theorem Vz{γ α β:Type}{p:Pt}{b:Es}{f:α->D}{k:Out->Option γ}{r:Option γ}(R:List α->β->En->Prop)(g:β->α->β):∀{as:List α} {E:En} (s:β) (h0:R as s E)
 (h:∀a as s E,R (a::as) s E->okS (R as (g s a)) ((p.bind (f a) E).bind b)) (fin:∀E',R [] (as.foldl g s) E'->k (.nx E')=r),(J9 p b (as.map f) E).bind k=r
 | [],E,s,h0,_,fin=>fin E h0
 | a::as,E,s,h0,h,fin=>by
  obtain⟨E2,e2,r2⟩:=Z1 (h a as s E h0);have ih:=Vz (k:=k) (r:=r) R g (as:=as) (E:=E2) (g s a) r2 h fin;rw[Qi,J9]
  cases hp:p.bind (f a) E with
  | none=>rw[hp] at e2;rcases e2 with e2|e2 <;> cases e2
  | some E1=>rw[hp,QG] at e2;rw[QG];rcases e2 with e2|e2 <;> (rw[e2,QG];exact ih)
theorem JhZ{γ:Type}{p:Pt}{b:Es}{f:Nat->D}{n:Nat}{E:En}{k:Out->Option γ}{r:Option γ}(R:Nat->En->Prop)(h0:R 0 E)
 (h:∀i E,i<n->R i E->okS (R (i+1)) ((p.bind (f i) E).bind b)) (fin:∀E',R n E'->k (.nx E')=r):(J9 p b ((GU n).map f) E).bind k=r:=by
 refine Vz (fun(as:List Nat) (i:Nat) E=>i+as.length=n/\as=List.range' i as.length/\R i E) (fun i _=>i+1) 0 ⟨by simp,by simp[Rc],h0⟩ (fun a as i E ⟨hk,e,q⟩=>?_) fun E' ⟨hk,_,q⟩=>?_
 ·rw[Qu,List.range'_succ] at e;have e1:a=i:=(List.cons.inj e).1;subst e1;obtain⟨E2,e2,r2⟩:=Z1 (h a E (by rw[Qu] at hk;omega) q);have fin2:(a+1)+as.length=n/\as=List.range' (a+1) as.length/\R (a+1) E2:=⟨by rw[Qu] at hk;omega,(List.cons.inj e).2,r2⟩
  rcases e2 with e2|e2 <;> (rw[e2];exact fin2)
 ·have e3:(GU n).foldl (fun i _=>i+1) 0=n:=by simpa using hk
  rw[e3] at q;exact fin E' q
theorem Yk{α:Type}{p:Pt}{a:Ev}{E1:En}{f g:α->D}:∀{xs:List α},(∀x∈xs,((p.bind (f x) E1).bind a).bind Sl.frz=some (g x))->UY p yes? a E1 (xs.map f)=some (xs.map g)
 | [],_=>rfl
 | x::xs,h=>by have h1:=h x Qf;obtain⟨s,e1,e2⟩:=bind_some h1;obtain⟨E2,e3,e4⟩:=bind_some e1;rw[Qi,UY,e3];simp only[QG,yes?,if_true,e4,e2];rw[Yk fun y hy=>h y (Qc _ hy)];rfl
theorem JgH(n:Nat):rng 0 n=(GU n).map fun i=>.int (i:Int):=by unfold rng;exact KC fun i _=>by rw[MT]
theorem Jlx:sizeLine=16777216:=rfl
theorem U8{α β:Type}(f:α->β)(xs:List α)(i:Int):atI (xs.map f) i=(atI xs i).map f:=by
 unfold atI;rw[Qo]
 cases ixN xs.length i with
 | none=>rfl
 | some j=>simp
theorem Vp{α:Type}{xs:List α}{k:Nat}(h:k<xs.length):atI xs (k:Int)=some xs[k]:=by unfold atI ixN;rw[if_pos (by omega),if_pos (by omega)];simp[h]
theorem Jce{ns:List Int}{k:Int}(h0:0<=k)(h:k<(ns.length:Int)):atI ns k=some (cell ns k):=by
 obtain⟨j,rfl⟩:=Int.eq_ofNat_of_zero_le h0;have hj:j<ns.length:=by omega
 rw[Vp hj];simp[cell,hj]
theorem Wn{l:List Int}{k:Int}(h0:0<=k)(h1:k<(l.length:Int)):atI (l.map D.int) k=some (.int (Zk l k)):=by rw[U8,Jce h0 h1];rfl
structure Kd {α:Type} (f:α->D) (n:Nat):Prop where
 lay:∀a,(f a).py.canLay0=true
 dep:∀a,(f a).py.depth<=n
 eqv:∀a b,LJ (f a).py (f b).py=true↔a=b
theorem Kd.eq{α:Type}[DecidableEq α]{f:α->D}{n:Nat}(k:Kd f n)(h:n<=60)(a b:α):eqD (f a) (f b)=some (decide (a=b)):=by unfold eqD;have:=k.dep a;rw[k.lay a,k.lay b,if_pos (by simp;omega)];congr 1;rw[KQ,k.eqv];simp
theorem Jm2:Kd D.int 1:=⟨fun _=>rfl,fun _=>by simp[D.py,MU],fun a b=>by show(a == b)=true↔_;simp⟩
theorem WW{α:Type}{f:α->D}{n:Nat}(k:Kd f n):(∀xs:List α,K2 (D.pyL (xs.map f))=true)/\(∀xs:List α,LS (D.pyL (xs.map f))<=n)/\∀xs ys:List α,Lj (D.pyL (xs.map f)) (D.pyL (ys.map f))=true↔xs=ys:=by
 refine⟨fun xs=>?_,fun xs=>?_,fun xs=>?_⟩
 ·induction xs with
  | nil=>rfl
  | cons x xs ih=>show(PyData.canLay0 _ && K2 _)=true;rw[k.lay,ih];rfl
 ·induction xs with
  | nil=>simp[D.pyL,LS]
  | cons x xs ih=>have:=k.dep x;simp only[Qi,D.pyL,LS];omega
 ·induction xs with
  | nil=>intro ys;cases ys with
   | nil=>simp[D.pyL,Lj]
   | cons y ys=>simp[D.pyL,Lj]
  | cons x xs ih=>intro ys;cases ys with
   | nil=>simp[D.pyL,Lj]
   | cons y ys=>simp only[Qi,D.pyL,Lj,Qv,k.eqv,ih,List.cons.injEq]
theorem JhP{α:Type}{f:α->D}{n:Nat}(k:Kd f n):Kd (fun xs:List α=>D.lst (xs.map f)) (n+1) :=
 ⟨fun xs=>(WW k).1 xs,fun xs=>by have:=(WW k).2.1 xs;simp only[D.py,MU];omega,fun xs ys=>by simp only[D.py,LJ];exact(WW k).2.2 xs ys⟩
theorem Jm3{α:Type}{f:α->D}{n:Nat}(k:Kd f n):Kd (fun xs:List α=>D.tup (xs.map f)) (n+1) :=
 ⟨fun xs=>(WW k).1 xs,fun xs=>by have:=(WW k).2.1 xs;simp only[D.py,MU];omega,fun xs ys=>by simp only[D.py,LJ];exact(WW k).2.2 xs ys⟩
theorem kd_pr:Kd prE 2:=⟨fun _=>rfl,fun _=>by simp[prE,D.py,D.pyL,MU,LS],fun a b=>by obtain⟨a1,a2⟩:=a;obtain⟨b1,b2⟩:=b;simp[prE,D.py,D.pyL,LJ,Lj]⟩
theorem JmG(a b:Pr):eqD (prE a) (prE b)=some (decide (a=b)):=kd_pr.eq (by decide) a b
theorem JjN(a b:List Pr):eqD (.lst (a.map prE)) (.lst (b.map prE))=some (decide (a=b)):=(JhP kd_pr).eq (by decide) a b
theorem JjO(a b:List Pr):eqD (.tup (a.map prE)) (.tup (b.map prE))=some (decide (a=b)):=(Jm3 kd_pr).eq (by decide) a b
theorem Jhu(a b:List Int):eqD (.lst (a.map .int)) (.lst (b.map .int))=some (decide (a=b)):=(JhP Jm2).eq (by decide) a b
theorem Jbv{s:Sl}{ps:List Pr}(e:s.q=some (ps.map prE))(g:Good ps)(h:ps.length<=30):JdQ [s]=some (.sh (.row (ps.map prE))):=by show(s.q.bind _)=_;rw[e,QG,Jbg,QG,ZM g,if_pos (by simp[h])]
section
variable{a b:Int}{xs ys:List D}{d:D}{x y:Str}{E:En}{B:Es}{r:Sl}
theorem Jlq:JiN B (.nx E)=B E:=rfl
theorem Jlr:JiN B (.rt r)=some (.rt r):=rfl
theorem Jlo:JiN B (.bk E)=some (.bk E):=rfl
theorem Jlp:JiN B (.ct E)=some (.ct E):=rfl
theorem JjH:Jmz (.nx E)=some (.sh .non):=rfl
theorem JjI:Jmz (.rt r)=some r:=rfl
theorem Jo6{g:Int->Int->D}:fI g (.sh (.int a)) (.sh (.int b))=some (.sh (g a b)):=rfl
theorem Jj6(h:(-18446744073709551616<a/\a<18446744073709551616)\/(-18446744073709551616<b/\b<18446744073709551616)):UA (.sh (.int a)) (.sh (.int b))=some (.sh (.int (a*b))):=by show(if _ then _ else _)=_;rw[if_pos];simp only[KS,Vl];exact h
theorem Jj5(h:0<b):Yp (.sh (.int a)) (.sh (.int b))=some (.sh (.int (a % b))):=by show(if _ then _ else _)=_;rw[if_pos (by simpa using h)]
theorem Jj2(h:0<b/\b<1073741824):Vc (.sh (.int a)) (.sh (.int b))=some (.sh (.int (a / b))):=by show(if _ then _ else _)=_;rw[if_pos (smallP_ok.mpr h)]
theorem Jj8(h:0<=b/\b<=1000000/\-1000<a/\a<1000):UK (.sh (.int a)) (.sh (.int b))=some (.sh (.int (a ^ b.toNat))):=by show(if _ then _ else _)=_;rw[if_pos];simp only[Qv,decide_eq_true_eq,G4,Vl];omega
theorem Jj7:JcA (.sh (.int a))=some (.sh (.int (-a))):=rfl
theorem JjU:JQ (.sh (.int a)) (.sh (.int b))=some (.sh (.int (a+b))):=rfl
theorem Jj1(h:x.length+y.length<=16777216):JQ (.sh (.str x)) (.sh (.str y))=some (.sh (.str (x++y))):=if_pos h
theorem Va{p q:Sl}(h1:p.m=some xs)(h2:q.m=some ys)(h:xs.length+ys.length<=16777216):Jf9 p q=some (.own (xs++ys)):=by unfold Jf9;rw[h1,h2];exact if_pos h
theorem JjY(h:xs.length+ys.length<=16777216):JQ (.own xs) (.own ys)=some (.own (xs++ys)):=Va rfl rfl h
theorem JjX(h:xs.length+ys.length<=16777216):JQ (.own xs) (.bo ys)=some (.own (xs++ys)):=Va rfl rfl h
theorem JjS(h:xs.length+ys.length<=16777216):JQ (.bo xs) (.own ys)=some (.own (xs++ys)):=Va rfl rfl h
theorem JjR(h:xs.length+ys.length<=16777216):JQ (.bo xs) (.bo ys)=some (.own (xs++ys)):=Va rfl rfl h
theorem JjZ(h:xs.length+ys.length<=16777216):JQ (.own xs) (.sh (.lst ys))=some (.own (xs++ys)):=Va rfl rfl h
theorem Jj0(h:xs.length+ys.length<=16777216):JQ (.sh (.lst xs)) (.own ys)=some (.own (xs++ys)):=Va rfl rfl h
theorem JjV(h:xs.length+ys.length<=16777216):JQ (.sh (.lst xs)) (.bo ys)=some (.own (xs++ys)):=Va rfl rfl h
theorem JjT(h:xs.length+ys.length<=16777216):JQ (.bo xs) (.sh (.lst ys))=some (.own (xs++ys)):=Va rfl rfl h
theorem JjW(h:xs.length+ys.length<=16777216):JQ (.sh (.lst xs)) (.sh (.lst ys))=some (.own (xs++ys)):=Va rfl rfl h
theorem JmN(h:x.length<=16777216):UJ [.sh (.str x)]=some (.sh (.int x.length)):=if_pos h
theorem JmL:UJ [.sh (.lst xs)]=some (.sh (.int xs.length)):=rfl
theorem JmK:UJ [.sh (.fz xs)]=some (.sh (.int xs.length)):=rfl
theorem JmO:UJ [.sh (.tup xs)]=some (.sh (.int xs.length)):=rfl
theorem JmJ:UJ [.bo xs]=some (.sh (.int xs.length)):=rfl
theorem JmM:UJ [.own xs]=some (.sh (.int xs.length)):=rfl
theorem Jo9:fIx (.sh (.lst xs)) (.sh (.int a))=(atI xs a).map .sh:=rfl
theorem Jo8:fIx (.sh (.fz xs)) (.sh (.int a))=(atI xs a).map .sh:=rfl
theorem Jpb:fIx (.sh (.tup xs)) (.sh (.int a))=(atI xs a).map .sh:=rfl
theorem Jo7:fIx (.bo xs) (.sh (.int a))=(atI xs a).map .sh:=rfl
theorem Jpa:fIx (.own xs) (.sh (.int a))=(atI xs a).map .sh:=rfl
theorem JmE:eqA (.int a) (.int b)=some (decide (a=b)):=rfl
theorem JmF:eqA (.str x) (.str y)=some (decide (x=y)):=rfl
theorem JmD{p q:Bool}:eqA (.bl p) (.bl q)=some (decide (p=q)):=rfl
theorem Jhs(p q:Pr):eqA (prE p) (prE q)=some (decide (p=q)):=JmG p q
theorem JdN(p q:List Pr):eqA (.lst (p.map prE)) (.lst (q.map prE))=some (decide (p=q)):=JjN p q
theorem JmC(p q:List Pr):eqA (.tup (p.map prE)) (.tup (q.map prE))=some (decide (p=q)):=JjO p q
theorem JmB(p q:List Int):eqA (.lst (p.map .int)) (.lst (q.map .int))=some (decide (p=q)):=Jhu p q
theorem JhL(h:-4611686018427387904<a/\a<4611686018427387904):JdU a=true:=by unfold JdU;rw[G4];omega
theorem JmV(h:-1152921504606846976<a/\a<1152921504606846976):JdT a=true:=in60_ok.mpr h
theorem JiT(h:0<a/\a<1073741824):W6 a=true:=smallP_ok.mpr h
theorem YO{s:Sl}{ns:List Int}(e:s.q=some (ns.map .int)):V6 [s]=some (.sh (.int ns.sum)):=by show(s.q.bind _)=_;rw[e,QG,ZO];rfl
theorem JlP{i:Nat}:(Pt.nm i).bind d E=if i<E.length then some (E.set i (.sh d)) else none:=by rw[Pt.bind]
theorem JoT{l:Pts}:(Pt.tp l).bind (.tup xs) E=l.bind xs E:=by rw[Pt.bind]
theorem Jjn:Pts.nil.bind [] E=some E:=by rw[Pts.bind]
theorem JgZ{q:Pt}{l:Pts}:(Pts.cons q l).bind (d::xs) E=(q.bind d E).bind fun E'=>l.bind xs E':=by rw[Pts.bind]
theorem Jqm:((0:Nat):Int)=0:=rfl
theorem Jqn:((1:Nat):Int)=1:=rfl
theorem Jqo:((2:Nat):Int)=2:=rfl
theorem Jqp:((3:Nat):Int)=3:=rfl
theorem Jqq:((4:Nat):Int)=4:=rfl
theorem Jgj:D.isNon .non=true:=rfl
theorem Jgh:D.isNon (.int a)=false:=rfl
theorem JhN{k:Bool}:D.isNon (.bl k)=false:=rfl
theorem Jgl:D.isNon (.str x)=false:=rfl
theorem Jgm:D.isNon (.tup xs)=false:=rfl
theorem Jgi:D.isNon (.lst xs)=false:=rfl
theorem JhO:D.isNon (.fz xs)=false:=rfl
theorem Jgk:D.isNon (.row xs)=false:=rfl
theorem Jm9:JcF "int" "int"=true:=by decide
theorem Jkj:JcF "int" "bool"=false:=by decide
theorem Jm8:JcF "bool" "bool"=true:=by decide
theorem Jnc:JcF "tuple" "tuple"=true:=by decide
theorem Jna:JcF "list" "list"=true:=by decide
theorem Jnb:JcF "str" "str"=true:=by decide
end
end LE

namespace HT
open PySem PySem.Spec PyProof.Rows
section
variable{prog:Program}{w:World}{A:Around}{E:Value->Shared->Prop}{s:Shared}
theorem Ws{t sl:Addr}{items:Array Value}{vl vu:Value}{lo hi:Option Int}{Q:Value->Shared->Prop}(ht:IsTup s.heap t items)(hs:s.heap.IsSliceOf sl vl vu .none)(pl:IsPart vl lo)(pu:IsPart vu hi)
 (hw:sIx items.size 0 lo=0/\sIx items.size items.size hi=items.size) (h:Q (.ref t) s):wpAny (model prog w) A (getItem (.ref t) (.ref sl)) Q E s:=by
 obtain⟨os,hos,hcs,hds⟩:=id hs;have hTs:s.TypeIs (.ref sl) "slice":=⟨os,hos,hcs⟩
 unfold getItem
 try with_reducible refine Gj ?_
 first|refine Qa (Qd ?_)|skip
 refine Qa (wpAny_sequenceKey ht.typeIs (by decide) ?_);refine Qa (QB (name:=Q0 "__getitem__") ht.typeIs Q2
  (QN Q2 ht.typeIs entry_tuple_getitem ?_ (args_tuple_getitem _ _)))
 show wpAny _ _ (Mb (.ref t) >>= _) _ _ s;refine Qa (tupleItemsOf_ ht ?_);refine Qa (Lx hTs ?_);rw[if_pos (by decide)];refine Qa (U6 hs pl pu ?_)
 have yes:(((sIx items.size 0 lo:Nat):Int) == 0 && (1:Int) == 1 && (sIx items.size items.size hi-sIx items.size 0 lo) == items.size)=true:=by rw[hw.1,hw.2];simp
 show wpAny _ _ (if (((sIx items.size 0 lo:Nat):Int) == 0 && (1:Int) == 1 && (sIx items.size items.size hi-sIx items.size 0 lo) == items.size)=true then _ else _) _ _ s;rw[if_pos yes];unfold Builtin.Tuple.tupleIsExact;refine Qa (Qa (Lx ht.typeIs (Qd ?_)));rw[if_pos (by decide)];refine Qa (G5 ?_);exact Qd ⟨_,rfl,Qd h⟩
end
end HT
namespace L2
open PySem PySem.Spec PyProof.Rows
section
variable{X:Cx}{K:Frag}
noncomputable def JpQ(K:Frag):V->Option Int->Option Int->Hp->VK->Prop:=fun x lo hi H Q=>∃a xs,x=.ref a/\SqT K H a xs/\(HT.sIx xs.length 0 lo=0/\HT.sIx xs.length xs.length hi=xs.length)/\Q (.ref a) H
theorem JiS:SlR X (JpQ X.K):=by
 intro pins s σ H x v vl vu lo hi sl Q I rx hs pl pu h;obtain⟨a,xs,rfl,hx,hw,q⟩:=h;cases rx;obtain⟨its,r,ht,hz⟩:=I.tuple hx;have hlen:its.toArray.size=xs.length:=by rw[Qm];exact r.length.symm
 refine⟨"tuple",_,Q2.lookup,ht.typeIs,?_⟩;exact HT.Ws ht hs pl pu (by rw[hlen];exact hw) ⟨.ref a,H,I,rfl,q⟩
noncomputable def JnW(K:Frag):V->Option Int->Option Int->Hp->VK->Prop:=fun x lo hi H Q=>JpO K x lo hi H Q\/JpP K x lo hi H Q\/JpQ K x lo hi H Q
theorem Ug(hK:X.K=K):SlR X (JnW K):=by subst hK;exact sl_list.or (sl_tup.or JiS)
end
end L2
namespace LE
open PySem L2 LR
noncomputable def UF{α:Type}(xs:List α)(lo hi:Option Int):List α:=(xs.drop (HT.sIx xs.length 0 lo)).take (HT.sIx xs.length xs.length hi-HT.sIx xs.length 0 lo)
noncomputable def fSl(s:Sl)(lo hi:Option Int):Option Sl:=match s with
 | .sh (.tup ds)=>some (.sh (.tup (UF ds lo hi)))
 | s=>s.r.map fun ds=>.own (UF ds lo hi)
noncomputable def ZF(o:Option Ev):En->Option (Option Int):=fun E=>match o with
 | none=>some none
 | some a=>(a E).bind fun s=>match s with
  | .sh (.int i)=>some (some i)
  | _=>none
noncomputable def eSl(a:Ev)(lo hi:Option Ev):Ev:=fun E=>(a E).bind fun s=>(ZF lo E).bind fun l=>(ZF hi E).bind fun h=>fSl s l h
section
variable{K:Frag}{C:Addr}{te:TE}{ea:Ev}{tl th:TO}{el eh:Option Ev}
noncomputable def SP'(K:Frag)(C:Addr)(t:TO)(ev:En->Option (Option Int)):Prop:=∀(B H0 H:Hp) (σ:St) (E:En) (r:Option Int) (Q:Option Int->Hp->Prop),EnvR K C B H0 H σ E->ev E=some r ->
 (∀H0' H',Step H H0 H H0' H'->Q r H')->t σ H Q
theorem JnE:SP' K C JfN (ZF none):=fun _ _ _ _ _ _ _ I e q=>by cases e;exact q _ _ (.refl I.h)
theorem JnF(ha:SE K C te ea):SP' K C (Jmg te) (ZF (some ea)):=by
 intro B H0 H σ E r Q I e q;obtain⟨s,e1,e⟩:=bind_some e;split at e
 ·cases e;exact ha B H0 H σ E _ _ I e1 fun x H1 H1' s1 r1=>⟨_,RD.intI r1,q _ _ s1⟩
 ·cases e
theorem RDL.cut{H:Hp}{xs:List V}{ds:List D}{lo hi:Option Int}(r:RDL K C H xs ds):RDL K C H (JaA xs lo hi) (UF ds lo hi):=by unfold JaA UF;rw[r.1];exact(r.drop _).take _
theorem JqF(ha:SE K C te ea)(hl:SP' K C tl (ZF el))(hh:SP' K C th (ZF eh)):SE K C (tSl (JnW K) te tl th) (eSl ea el eh):=by
 intro B H0 H σ E c Q I e q;obtain⟨s,e1,e⟩:=bind_some e;obtain⟨l,e2,e⟩:=bind_some e;obtain⟨h,e3,e⟩:=bind_some e;refine ha B H0 H σ E _ _ I e1 fun x H1 H1' s1 r1=>hl B H1 H1' σ E l _ (I.step s1) e2 fun H2 H2' s2=>hh B H2 H2' σ E h _ (I.step (s1.trans s2)) e3 fun H3 H3' s3=>?_
 have s13:=(s1.trans s2).trans s3
 have r3:=(r1.step s2).step s3
 have lst:∀{ds:List D},s.r=some ds->c=.own (UF ds l h)->JnW K x l h H3' Q:=fun {ds} er ec=>by subst ec;obtain⟨a,xs,rfl,hq,r⟩:=r3.r s13.i er;exact .inl ⟨a,xs,rfl,hq,fun p hp=>Ud s13.i s13.h hp r.cut fun v H4 H4' s4 r4=>q v H4 H4' (s13.comp s4 fun _ z=>z) r4⟩
 unfold fSl at e;split at e
 ·cases e;obtain⟨a,xs,rfl,hq,r⟩:=RD.tupI r3
  by_cases hw:HT.sIx xs.length 0 l=0/\HT.sIx xs.length xs.length h=xs.length
  ·refine .inr (.inr ⟨a,xs,rfl,s13.i.seqT hq,hw,q _ _ _ s13 ?_⟩);have e5:JaA xs l h=xs:=by unfold JaA;rw[hw.1,hw.2];simp
   have r5:=r.cut (lo:=l) (hi:=h);rw[e5] at r5;exact RD.mkT hq r5
  ·exact .inr (.inl ⟨a,xs,rfl,s13.i.seqT hq,hw,fun p hp=>Jb4 s13.i s13.h hp r.cut fun v H4 H4' s4 r4=>q v H4 H4' (s13.comp s4 fun _ z=>z) r4⟩)
 ·obtain⟨ds,e4,e5⟩:=map_some e;exact lst e4 e5.symm
end
end LE

namespace PySem
section
variable{prog:Program}{w:World}{A:Around}
theorem Draws.tup(hh:A.handled=none)(j a:Addr)(ne:a≠j)(xs:Array Value):Draws prog w A j [j,a] xs.size (fun i v=>xs[i]?=some v) (fun i h=>h.IsTupleIter j a i/\h.IsTuple a xs) where
 live:=fun _ _ q=>let ⟨o,ho,_⟩:=q.1;⟨o,ho⟩
 frame:=fun _ _ _ q k=>⟨q.1.at fun o e=>k j (by simp) o e,q.2.at fun o e=>k a (by simp) o e⟩
 item:=fun i s Q E hi q hQ=>by
  obtain⟨o,ho,hc,hd⟩:=id q.1;obtain⟨ol,hol,_,nl,hdl⟩:=id q.2;have hx:xs[i]?=some xs[i]:=by simp[hi]
  unfold QS;refine Qa (QB (name:=Q0 "__next__") q.1.typeIs Kg (QN Kg q.1.typeIs L3 ?_ (LU _)));show wpAny _ _ (field (.ref j) 0 >>= _) _ _ s;refine Qa (QE ho hd (x:=.ref a) rfl ?_);show wpAny _ _ (if (Value.ref a == Value.none)=true then _ else _) _ _ s;rw[if_neg (show ¬((Value.ref a == Value.none)=true) from Qp)]
  show wpAny _ _ (field (.ref j) 1 >>= _) _ _ s;refine Qa (QE ho hd (x:=.int i 0) rfl (show wpAny _ _ (seqItems? (.ref a) >>= _) _ _ s from Qa (GK hol hdl ?_)));simp only[Gm,hx];refine Qa (GL ho hd (by simp) (Qd ⟨xs[i],rfl,Qd (hQ _ _ s.toks hx ⟨⟨_,QY _ ho (GI (Q9 hd _)),(K3 ..).trans hc,?_⟩,q.2.extBut (Ge ..).extBut ne⟩ (Ge ..))⟩))
  rw[Q9 hd];simp[rawInt]
 done:=fun s Q E q hE=>by
  obtain⟨o,ho,hc,hd⟩:=id q.1;obtain⟨ol,hol,_,nl,hdl⟩:=id q.2;have hx:xs[xs.size]?=none:=by simp
  unfold QS;refine Qa (QB (name:=Q0 "__next__") q.1.typeIs Kg (QN Kg q.1.typeIs L3 ?_ (LU _)));show wpAny _ _ (field (.ref j) 0 >>= _) _ _ s;refine Qa (QE ho hd (x:=.ref a) rfl ?_);show wpAny _ _ (if (Value.ref a == Value.none)=true then _ else _) _ _ s;rw[if_neg (show ¬((Value.ref a == Value.none)=true) from Qp)]
  show wpAny _ _ (field (.ref j) 1 >>= _) _ _ s;refine Qa (QE ho hd (x:=.int xs.size 0) rfl (show wpAny _ _ (seqItems? (.ref a) >>= _) _ _ s from Qa (GK hol hdl ?_)));simp only[Gm,hx];refine Qa (G5 (Qa (GL ho hd (by simp) (show wpAny _ _ (newExc (.type "StopIteration") [] >>= _) _ _ _ from Qa ?_))));simp only[newExc,newTuple];refine Qa (QP (Qa (m:=firstArgMember _ _) (Kq (a:=Value.none) (by first | rfl | (simp only[firstArgMember];rfl)) (QP ?_ (by size_fits)))) (by size_fits))
  simp only[raiseNew];refine Qa (wpAny_handled ?_)
  first|rw[show A.in1.handled=none from hh]|rw[hh]
  refine Qa (Qd (wpAny_throw ?_));exact hE _ _ (((Ge ..).extBut.push _).push _) ⟨_,Qk _ rfl,rfl⟩
end

structure ZA (z TI TO i1 i2:Addr) (p1 p2:List Addr):Prop where
 a1:TI≠z
 a2:TO≠z
 a3:TI≠TO
 m1:i1∈p1
 m2:i2∈p2
 z1:z∉p1
 z2:z∉p2
 t1:TI∉p1
 t2:TI∉p2
 o1:TO∉p1
 o2:TO∉p2
 x1:i1∉p2
 x2:i2∉p1
section
variable{prog:Program}{w:World}{A:Around}{E:Value->Shared->Prop}{s:Shared}{z TI TO i1 i2:Addr}{p1 p2:List Addr}{n1 n2 k:Nat}{P1 P2:Nat->Value->Prop}{S1 S2:Nat->Heap->Prop}
theorem Jbl{a b:Value}{Q:Value->Shared->Prop}(D:ZA z TI TO i1 i2 p1 p2)(D1:Draws prog w A i1 p1 n1 P1 S1)(D2:Draws prog w A i2 p2 n2 P2 S2)(gz:IsZip s.heap z TI TO .none)(gI:IsPair s.heap TI (.ref i1) (.ref i2))(gO:IsPair s.heap TO a b)
 (st1:S1 k s.heap) (st2:S2 k s.heap) (l1:k<n1) (l2:k<n2)
 (hQ:∀x y h' tk,P1 k x->P2 k y->IsZip h' z TI TO (rawInt s.heap.objs.size)->IsPair h' TI (.ref i1) (.ref i2)->IsPair h' TO x y->S1 (k+1) h'->S2 (k+1) h'->IsPair h' s.heap.objs.size x y->h'.objs.size=s.heap.objs.size+1 ->
  (∀c o,c≠z->c≠TO->c≠i1->c≠i2->s.heap.get? c=some o->h'.get? c=some o)->Q (.ref s.heap.objs.size) { s with heap:=h',toks:=tk }) :
 wpAny (model prog w) A (Builtin.«zip.__next__» ⟨[.ref z],[]⟩) (fun fin s'=>∃v,fin=.done (.ret v)/\Q v s') E s:=by
 obtain⟨hp,g,d,t0,os⟩:=s;have zi1:i1≠z:=fun q=>D.z1 (q▸D.m1)
 have zi2:i2≠z:=fun q=>D.z2 (q▸D.m2)
 have oi1:i1≠TO:=fun q=>D.o1 (q▸D.m1)
 have oi2:i2≠TO:=fun q=>D.o2 (q▸D.m2)
 have ii1:i1≠TI:=fun q=>D.t1 (q▸D.m1)
 have ii2:i2≠TI:=fun q=>D.t2 (q▸D.m2)
 have i12:i1≠i2:=fun q=>D.x1 (q▸D.m2)
 show wpAny _ _ (field (.ref z) 2 >>= _) _ _ _;refine Qa (QE gz rfl (x:=.bool false) rfl (show wpAny _ _ (field (.ref z) 3 >>= _) _ _ _ from Qa (QE gz rfl (x:=.ref TI) rfl (Qa (GK gI rfl ?_)))))
 show wpAny _ _ (QD (.ref z) >>= _) _ _ _;refine Qa ?_;unfold QD;refine Qa (QE gz rfl (x:=.none) rfl (Qd ?_));simp only[if_true];refine Qa (G5 (Qa (QE gz rfl (x:=.ref TO) rfl (Qa (Q1 gz (by simp) fun k1 y1 e1=>?_)))))
 replace y1:IsZip k1 z TI TO .ellipsis:=y1
 replace e1:Qt z hp k1:=e1;refine Qa ?_;simp only[Lc,List.zipIdx_nil,LV,Mc];refine Qa (Qa (Mw (show wpAny _ _ (QS (.ref i1) >>= _) _ _ _ from Qa (D1.item k _ _ _ l1 (D1.frame _ _ _ st1 fun b hb o q=>e1.extBut b o (fun r=>D.z1 (r▸hb)) q) fun x k2 t2 px s2 e2=>Qd ?_))))
 replace e2:Qt i1 k1 k2:=e2;have O2:IsPair k2 TO a b:=e2.extBut _ _ (QC oi1) (e1.extBut _ _ D.a2 gO);refine Qa (GK (s:=⟨k2,g,d,t2,os⟩) O2 rfl (Qa (LP (s:=⟨k2,g,d,t2,os⟩) O2 fun k3 O3 e3=>?_)))
 replace O3:IsPair k3 TO x b:=O3
 replace e3:Qt TO k2 k3:=e3;refine Qa (Mo (Qd ?_));have st2':S2 k k3:=D2.frame _ _ _ st2 fun b hb o q=>e3.extBut b o (fun r=>D.o2 (r▸hb)) (e2.extBut b o (fun r=>D.x1 (r▸hb)) (e1.extBut b o (fun r=>D.z2 (r▸hb)) q))
 refine Qa (Qa (Mw (show wpAny _ _ (QS (.ref i2) >>= _) _ _ _ from Qa (D2.item k _ _ _ l2 st2' fun y k4 t4 py s4 e4=>Qd ?_))))
 replace e4:Qt i2 k3 k4:=e4;have O4:IsPair k4 TO x b:=e4.extBut _ _ (QC oi2) O3;refine Qa (GK (s:=⟨k4,g,d,t4,os⟩) O4 rfl (Qa (LP (s:=⟨k4,g,d,t4,os⟩) O4 fun k5 O5 e5=>?_)))
 replace O5:IsPair k5 TO x y:=O5
 replace e5:Qt TO k4 k5:=e5;refine Qa (Mo (Qd (Qd (Qa (GK (s:=⟨k5,g,d,t4,os⟩) O5 rfl (Qa (Md ?_)))))));have hsz:k5.objs.size=hp.objs.size:=by rw[e5.1,e4.1,e3.1,e2.1,e1.1]
 have Z5:IsZip k5 z TI TO .ellipsis:=e5.extBut _ _ (QC D.a2) (e4.extBut _ _ (QC zi2) (e3.extBut _ _ (QC D.a2) (e2.extBut _ _ (QC zi1) y1)))
 have keep5:∀c o,c≠z->c≠TO->c≠i1->c≠i2->hp.get? c=some o->k5.get? c=some o:=fun c o c1 c2 c3 c4 q=>e5.extBut _ _ c2 (e4.extBut _ _ c4 (e3.extBut _ _ c2 (e2.extBut _ _ c3 (e1.extBut _ _ c1 q))))
 have T1:S1 (k+1) k5:=D1.frame _ _ _ s2 fun b hb o q=>e5.extBut b o (fun r=>D.o1 (r▸hb)) (e4.extBut b o (fun r=>D.x2 (r▸hb)) (e3.extBut b o (fun r=>D.o1 (r▸hb)) q))
 have T2:S2 (k+1) k5:=D2.frame _ _ _ s4 fun b hb o q=>e5.extBut b o (fun r=>D.o2 (r▸hb)) q
 have zlt:z<k5.objs.size:=Qj Z5
 show wpAny _ _ (GF (.ref z) (.ref k5.objs.size) >>= _) _ _ _;refine Qa ?_;unfold GF
 have Z6:IsZip (k5.push { cls:=.type "tuple",data:=.seq #[x,y] }) z TI TO .ellipsis:=Qe _ Z5;refine Qa (Q1 Z6 (by simp) fun k7 Z7 e7=>?_)
 replace Z7:IsZip k7 z TI TO (rawInt k5.objs.size):=Z7
 replace e7:Qt z (k5.push { cls:=.type "tuple",data:=.seq #[x,y] }) k7:=e7;refine Q1 Z7 (by simp) fun k8 Z8 e8=>?_
 replace Z8:IsZip k8 z TI TO (rawInt k5.objs.size):=Z8
 replace e8:Qt z k7 k8:=e8;have up:∀c o,c≠z->k5.get? c=some o->k8.get? c=some o:=fun c o c1 q=>e8.extBut _ _ c1 (e7.extBut _ _ c1 (Qe _ q))
 have N8:IsPair k8 k5.objs.size x y:=e8.extBut _ _ (QO zlt) (e7.extBut _ _ (QO zlt) (Qk _ rfl))
 have z8:k8.objs.size=k5.objs.size+1:=by rw[e8.1,e7.1,Q4]
 rw[hsz] at Z8 N8 z8;refine Qd ⟨_,rfl,?_⟩;show Q (.ref k5.objs.size) _;rw[hsz];refine hQ x y k8 t4 px py Z8 (up _ _ D.a1 (keep5 _ _ D.a1 D.a3 (QC ii1) (QC ii2) gI)) (up _ _ D.a2 O5) ?_ ?_ N8 z8 fun c o c1 c2 c3 c4 q=>up c o c1 (keep5 c o c1 c2 c3 c4 q)
 ·exact D1.frame _ _ _ T1 fun b hb o q=>up b o (fun r=>D.z1 (r▸hb)) q
 ·exact D2.frame _ _ _ T2 fun b hb o q=>up b o (fun r=>D.z2 (r▸hb)) q
theorem Jds{a b:Value}{Q:Fin->Shared->Prop}(D:ZA z TI TO i1 i2 p1 p2)(D1:Draws prog w A i1 p1 n1 P1 S1)(D2:Draws prog w A i2 p2 n2 P2 S2)(gz:IsZip s.heap z TI TO .none)(gI:IsPair s.heap TI (.ref i1) (.ref i2))(gO:IsPair s.heap TO a b)
 (st1:S1 k s.heap) (st2:S2 k s.heap) (hend:k=n1\/(k<n1/\k=n2))
 (hE:∀h' e tk,(∀c o,c≠z->c≠TO->c≠i1->c≠i2->s.heap.get? c=some o->h'.get? c=some o)->(∃o,h'.get? e=some o/\o.cls=.type "StopIteration")->E (.ref e) { s with heap:=h',toks:=tk }) :
 wpAny (model prog w) A (Builtin.«zip.__next__» ⟨[.ref z],[]⟩) Q E s:=by
 obtain⟨hp,g,d,t0,os⟩:=s;have zi1:i1≠z:=fun q=>D.z1 (q▸D.m1)
 have zi2:i2≠z:=fun q=>D.z2 (q▸D.m2)
 have oi1:i1≠TO:=fun q=>D.o1 (q▸D.m1)
 show wpAny _ _ (field (.ref z) 2 >>= _) _ _ _;refine Qa (QE gz rfl (x:=.bool false) rfl (show wpAny _ _ (field (.ref z) 3 >>= _) _ _ _ from Qa (QE gz rfl (x:=.ref TI) rfl (Qa (GK gI rfl ?_)))))
 show wpAny _ _ (QD (.ref z) >>= _) _ _ _;refine Qa ?_;unfold QD;refine Qa (QE gz rfl (x:=.none) rfl (Qd ?_));simp only[if_true];refine Qa (G5 (Qa (QE gz rfl (x:=.ref TO) rfl (Qa (Q1 gz (by simp) fun k1 y1 e1=>?_)))))
 replace y1:IsZip k1 z TI TO .ellipsis:=y1
 replace e1:Qt z hp k1:=e1;refine Qa ?_;simp only[Lc,List.zipIdx_nil,LV,Mc];refine Qa (Qa (Mw (show wpAny _ _ (QS (.ref i1) >>= _) _ _ _ from Qa ?_)));have q1:S1 k k1:=D1.frame _ _ _ st1 fun b hb o q=>e1.extBut b o (fun r=>D.z1 (r▸hb)) q
 rcases hend with rfl|⟨l1,rfl⟩
 ·refine D1.done _ _ _ q1 fun k2 e e2 he=>?_
  replace e2:Kr i1 k1 k2:=e2;obtain⟨oe,hoe,hce⟩:=he;have Z2:IsZip k2 z TI TO .ellipsis:=e2 _ _ (QC zi1) y1;have ez:e≠z:=fun q=>by subst q;rw[Z2] at hoe;cases hoe;simp at hce
  exact Q1 Z2 (by simp) fun k3 _ e3=>hE k3 e t0 (fun c o c1 _ c3 _ q=>e3.extBut _ _ c1 (e2 _ _ c3 (e1.extBut _ _ c1 q))) ⟨oe,e3.extBut _ _ ez hoe,hce⟩
 ·refine D1.item k _ _ _ l1 q1 fun x k2 t2 px s2 e2=>Qd ?_
  replace e2:Qt i1 k1 k2:=e2;have O2:IsPair k2 TO a b:=e2.extBut _ _ (QC oi1) (e1.extBut _ _ D.a2 gO);refine Qa (GK (s:=⟨k2,g,d,t2,os⟩) O2 rfl (Qa (LP (s:=⟨k2,g,d,t2,os⟩) O2 fun k3 O3 e3=>?_)))
  replace e3:Qt TO k2 k3:=e3;refine Qa (Mo (Qd ?_));have st2':S2 k k3:=D2.frame _ _ _ st2 fun b hb o q=>e3.extBut b o (fun r=>D.o2 (r▸hb)) (e2.extBut b o (fun r=>D.x1 (r▸hb)) (e1.extBut b o (fun r=>D.z2 (r▸hb)) q))
  refine Qa (Qa (Mw (show wpAny _ _ (QS (.ref i2) >>= _) _ _ _ from Qa (D2.done _ _ _ st2' fun k4 e e4 he=>?_))))
  replace e4:Kr i2 k3 k4:=e4;obtain⟨oe,hoe,hce⟩:=he;have Z4:IsZip k4 z TI TO .ellipsis:=e4 _ _ (QC zi2) (e3.extBut _ _ (QC D.a2) (e2.extBut _ _ (QC zi1) y1));have ez:e≠z:=fun q=>by subst q;rw[Z4] at hoe;cases hoe;simp at hce
  exact Q1 Z4 (by simp) fun k5 _ e5=>hE k5 e t2 (fun c o c1 c2 c3 c4 q=>e5.extBut _ _ c1 (e4 _ _ c4 (e3.extBut _ _ c2 (e2.extBut _ _ c3 (e1.extBut _ _ c1 q))))) ⟨oe,e5.extBut _ _ ez hoe,hce⟩
end
end PySem

namespace PySem
def IsSq(b:Bool)(h:Heap)(a:Addr)(xs:Array Value):Prop:=match b with
 | true=>h.IsTuple a xs
 | false=>h.IsList a xs
def IsItr(b:Bool)(h:Heap)(j a:Addr)(i:Nat):Prop:=match b with
 | true=>h.IsTupleIter j a i
 | false=>h.IsListIter j a i
def itO(b:Bool)(a:Addr):Obj:=match b with
 | true=>{ cls:=.type "tuple_iterator",data:=.fields #[.ref a,.int 0 0] }
 | false=>{ cls:=.type "list_iterator",data:=.fields #[.ref a,.int 0 0] }
section
variable{prog:Program}{w:World}{A:Around}{E:Value->Shared->Prop}{s:Shared}{b b1 b2:Bool}{a a1 a2:Addr}{xs ys:Array Value}
theorem IsSq.push{h:Heap}(q:IsSq b h a xs)(o:Obj):IsSq b (h.push o) a xs:=by
 cases b with
 | true=>exact Heap.IsTuple.push q o
 | false=>exact Heap.IsList.push q o
theorem IsSq.lt{h:Heap}(q:IsSq b h a xs):a<h.objs.size:=by
 cases b with
 | true=>obtain⟨o,e,_⟩:=q;exact Qj e
 | false=>obtain⟨o,e,_⟩:=q;exact Qj e
theorem IsItr.new{h:Heap}(e:h.get? a1=some (itO b a)):IsItr b h a1 a 0:=by
 cases b with
 | true=>exact⟨_,e,rfl,rfl⟩
 | false=>exact⟨_,e,rfl,rfl⟩
theorem U5{Q:Value->Shared->Prop}(q:IsSq b s.heap a xs)(h:Q (.ref s.heap.objs.size) { s with heap:=s.heap.push (itO b a) }):wpAny (model prog w) A (pyIter (.ref a)) Q E s:=by
 cases b with
 | true=>exact L8 q h
 | false=>exact Lv q h
theorem Draws.sq(hh:A.handled=none)(j:Addr)(ne:a≠j):Draws prog w A j [j,a] xs.size (fun i v=>xs[i]?=some v) (fun i h=>IsItr b h j a i/\IsSq b h a xs):=by
 cases b with
 | true=>exact Draws.tup hh j a ne xs
 | false=>exact Draws.list hh j a ne xs
abbrev zP1(h:Heap)(b1:Bool)(a1:Addr):Heap:=h.push (itO b1 a1)
abbrev zP2(h:Heap)(b1 b2:Bool)(a1 a2:Addr):Heap:=(zP1 h b1 a1).push (itO b2 a2)
abbrev zP3(h:Heap)(b1 b2:Bool)(a1 a2:Addr):Heap:=(zP2 h b1 b2 a1 a2).push { cls:=.type "tuple",data:=.seq #[.ref h.objs.size,.ref (zP1 h b1 a1).objs.size] }
abbrev zP4(h:Heap)(b1 b2:Bool)(a1 a2:Addr):Heap:=(zP3 h b1 b2 a1 a2).push { cls:=.type "tuple",data:=.seq #[.none,.none] }
abbrev zP5(h:Heap)(b1 b2:Bool)(a1 a2:Addr):Heap:=(zP4 h b1 b2 a1 a2).push { cls:=.type "zip",data:=.fields #[.none,.bool false,.bool false,.ref (zP2 h b1 b2 a1 a2).objs.size,.ref (zP3 h b1 b2 a1 a2).objs.size] }
theorem Jd1(b1 b2:Bool)(a1 a2:Addr)(xs ys:Array Value):Meets (Builtin.«zip.__new__» ⟨[.type "zip",.ref a1,.ref a2],[]⟩) (fun _ R s=>IsSq b1 s.heap a1 xs/\IsSq b2 s.heap a2 ys ∧
 R (.ok (.ret (.ref (zP4 s.heap b1 b2 a1 a2).objs.size))) { s with heap:=zP5 s.heap b1 b2 a1 a2 }) :=
 .of_wp fun prog w A R s h=>by obtain⟨hp,g,d,tk,os⟩:=s;obtain⟨q1,q2,h⟩:=h;have hsub:=sub_zip;have r1:IsSq b1 (RG ⟨hp,g,d,tk,os⟩) a1 xs:=q1;have r2:IsSq b2 (RG ⟨hp.push (itO b1 a1),g,d,tk,os⟩) a2 ys:=IsSq.push q2 _;wp_walk using U5 r1,U5 r2;exact⟨_,rfl,h⟩
theorem JaR{Q:Value->Shared->Prop}(q1:IsSq b1 s.heap a1 xs)(q2:IsSq b2 s.heap a2 ys)
 (h:∀h',IsZip h' (s.heap.objs.size+4) (s.heap.objs.size+2) (s.heap.objs.size+3) .none->IsPair h' (s.heap.objs.size+2) (.ref s.heap.objs.size) (.ref (s.heap.objs.size+1))->IsPair h' (s.heap.objs.size+3) .none .none ->
  IsItr b1 h' s.heap.objs.size a1 0->IsItr b2 h' (s.heap.objs.size+1) a2 0->(∀c o,s.heap.get? c=some o->h'.get? c=some o)->Q (.ref (s.heap.objs.size+4)) { s with heap:=h' }) :
 wpAny (model prog w) A (call (.type "zip") [.ref a1,.ref a2]) Q E s:=by
 refine callType_new F.called_zip (by decide) (F.typeCall_zip_2 _ _) (F.newCall_zip_2 _ _) (fun obj=>F.args_object_init_3 obj _ _) F.entry_zip_new (Jd1 b1 b2 a1 a2 xs ys) ⟨q1,q2,?_⟩;have z1:(zP1 s.heap b1 a1).objs.size=s.heap.objs.size+1:=Q4 ..;have z2:(zP2 s.heap b1 b2 a1 a2).objs.size=s.heap.objs.size+2:=by rw[Q4,z1]
 have z3:(zP3 s.heap b1 b2 a1 a2).objs.size=s.heap.objs.size+3:=by rw[Q4,z2]
 have z4:(zP4 s.heap b1 b2 a1 a2).objs.size=s.heap.objs.size+4:=by rw[Q4,z3]
 have up:∀{k:Heap} {c:Addr} {o u:Obj},k.get? c=some o->(k.push u).get? c=some o:=fun q=>Qe _ q
 have fi1:(itO b1 a1).isFreed=false:=by cases b1 <;> rfl
 have fi2:(itO b2 a2).isFreed=false:=by cases b2 <;> rfl
 have g5:(zP5 s.heap b1 b2 a1 a2).get? (zP4 s.heap b1 b2 a1 a2).objs.size=some _:=Qk _ rfl
 have g4:(zP5 s.heap b1 b2 a1 a2).get? (zP3 s.heap b1 b2 a1 a2).objs.size=some _:=up (Qk _ rfl)
 have g3:(zP5 s.heap b1 b2 a1 a2).get? (zP2 s.heap b1 b2 a1 a2).objs.size=some _:=up (up (Qk _ rfl))
 have g2:(zP5 s.heap b1 b2 a1 a2).get? (zP1 s.heap b1 a1).objs.size=some _:=up (up (up (Qk _ fi2)))
 have g1:(zP5 s.heap b1 b2 a1 a2).get? s.heap.objs.size=some _:=up (up (up (up (Qk _ fi1))))
 show _/\_;rw[z2,z3,z4] at g5;rw[z1,z2] at g3;rw[z3] at g4;rw[z1] at g2;rw[z4];exact⟨⟨_,g5,rfl⟩,h _ g5 g3 g4 (.new g1) (.new g2) fun c o q=>up (up (up (up (up q))))⟩
end
end PySem

namespace L2
open PySem PySem.Spec PyProof.Rows
section
variable{X:Cx}{pins:List (Addr×Obj)}{σ:St}{H:Hp}{s:Shared}{h':Heap}
theorem Inv.turnedL{t':Nat}{fp:List Addr}(I:Inv X pins σ H s)(k:∀b o,b∉fp->s.heap.get? b=some o->h'.get? b=some o)(hf:∀b∈fp,FpOk X pins H b):Inv X pins σ H { s with heap:=h',toks:=t' }:=by
 have nit:∀b u,H b=some u->b∉fp:=fun b u e z=>by rw[(hf b z).1] at e;cases e
 refine I.step (g':=s.gens) (d':=s.drawn) (ch:=fp) (fun b hb=>?_) (fun b o _ _ hc e _=>k b o hc e) (fun b o _ _ hc e _=>⟨o.slots,k b o hc e⟩) (fun _ _ _ _ n=>n)
  (fun b o hc e=>⟨o,k b o hc e⟩) (fun _ _ e=>e) (fun _ _ _ e=>e) (fun b ps e=>⟨#[],by rw[e];simp⟩) (fun m hm=>?_) (fun b u e=>?_) I.bare
 ·obtain⟨f0,f1,f2,f3,f4,f5⟩:=hf b hb;exact⟨f3,f1,f4,f5⟩
 ·obtain⟨o,es,ep,ho,r⟩:=hm;exact⟨o,es,ep,k _ o (fun z=>(hf _ z).2.1 rfl) ho,r⟩
 ·refine(I.hok b u e).stay (fun c v hc q=>k c v ?_ q) (fun _ q=>q) fun _ _ q=>q
  rcases hc with z|z
  ·rw[z];exact nit b u e
  ·exact nit c _ z
noncomputable def Sq(b:Bool)(K:Frag)(H:Hp)(a:Addr)(xs:List V):Prop:=match b with
 | true=>SqT K H a xs
 | false=>SqL K H a xs
theorem Sq.heap{b:Bool}{a:Addr}{xs:List V}(I:Inv X pins σ H s)(q:Sq b X.K H a xs):∃its:List Value,Vals xs its/\IsSq b s.heap a its.toArray:=by
 cases b with
 | true=>obtain⟨its,r,p,_⟩:=I.tuple q;exact⟨its,r,p⟩
 | false=>obtain⟨its,r,p,_⟩:=I.list q;exact⟨its,r,p.isList⟩
theorem Sq.inj{b:Bool}{a:Addr}{xs ys:List V}(I:Inv X pins σ H s)(q:Sq b X.K H a xs)(q':Sq b X.K H a ys):xs=ys:=by
 cases b with
 | true=>exact I.tuple_inj q q'
 | false=>exact I.list_inj q q'
theorem FpOk.off{b:Bool}{a c:Addr}{xs:List V}(I:Inv X pins σ H s)(q:Sq b X.K H a xs)(f:FpOk X pins H c):a≠c:=by
 intro e;subst e;have own:∀{o:HO},H a=some o->False:=fun h=>by rw[f.1] at h;cases h
 have mod:∀{o:Obj},X.K.lookup a=some o->False:=fun {o} h=>by
  have hb:=I.ok.mod.kin a o h;rcases f.2.2.2.1 with z|z
  ·exact I.ok.noex a o hb z
  ·exact absurd (Qj hb) (LL.mpr (QR I.ok.bsz z))
 cases b with
 | true =>
  rcases q with (h|⟨o,h⟩)|⟨o,its,n,h,_⟩
  ·exact own h
  ·exact own h
  ·exact mod h
 | false =>
  rcases q with (h|⟨o,h⟩)|⟨o,its,n,h,_⟩
  ·exact own h
  ·exact own h
  ·exact mod h
noncomputable def Itz(K:Frag)(b1 b2:Bool)(a1 a2:Addr):It :=
 ⟨fun i H=>∃xs ys x y,Sq b1 K H a1 xs/\Sq b2 K H a2 ys/\xs[i]?=some x/\ys[i]?=some y,
  fun i H x H'=>∃p u v,x=.ref p/\H p=none/\H'=upd H p (.tup [u,v])/\∀xs ys,Sq b1 K H a1 xs->Sq b2 K H a2 ys->xs[i]?=some u/\ys[i]?=some v,
  fun i H=>∃xs ys,Sq b1 K H a1 xs/\Sq b2 K H a2 ys/\i=min xs.length ys.length⟩
noncomputable def ZSt(b1 b2:Bool)(a1 a2 z TI TO i1 i2:Addr)(i:Nat)(h:Heap):Prop:=IsZip h z TI TO .none/\IsPair h TI (.ref i1) (.ref i2)/\(∃a b,IsPair h TO a b)/\IsItr b1 h i1 a1 i/\IsItr b2 h i2 a2 i
theorem IsItr.keep{b:Bool}{h h':Heap}{j a:Addr}{i:Nat}(q:IsItr b h j a i)(k:∀o,h.get? j=some o->h'.get? j=some o):IsItr b h' j a i:=by
 cases b with
 | true=>obtain⟨o,e,r⟩:=q;exact⟨o,k o e,r⟩
 | false=>obtain⟨o,e,r⟩:=q;exact⟨o,k o e,r⟩
theorem IsItr.obj{b:Bool}{h:Heap}{j a:Addr}{i:Nat}(q:IsItr b h j a i):∃o,h.get? j=some o/\∀v,o.data≠.cell v:=by
 cases b with
 | true=>obtain⟨o,e,_,d⟩:=q;exact⟨o,e,fun v z=>by rw[d] at z;cases z⟩
 | false=>obtain⟨o,e,_,d⟩:=q;exact⟨o,e,fun v z=>by rw[d] at z;cases z⟩
end
theorem Jmj{X:Cx}{pins:List (Addr×Obj)}{σ:St}{H:Hp}{s:Shared}{b1 b2:Bool}{a1 a2 z TI TO i1 i2:Addr}{xs ys:List V}(I:Inv X pins σ H s)(q1:Sq b1 X.K H a1 xs)(q2:Sq b2 X.K H a2 ys)(hf:∀b∈[z,TI,TO,i1,i2],FpOk X pins H b)
 (nd:[z,TI,TO,i1,i2].Nodup):ZA z TI TO i1 i2 [i1,a1] [i2,a2]:=by
 have o1:∀c∈[z,TI,TO,i1,i2],a1≠c:=fun c hc=>FpOk.off I q1 (hf c hc)
 have o2:∀c∈[z,TI,TO,i1,i2],a2≠c:=fun c hc=>FpOk.off I q2 (hf c hc)
 simp only[Q8,Qh,QV,or_false,not_or] at nd;obtain⟨⟨n1,n2,n3,n4⟩,⟨n5,n6,n7⟩,⟨n8,n9⟩,n10,_⟩:=nd;have c1:=o1 z (by simp);have c2:=o1 TI (by simp);have c3:=o1 TO (by simp);have c4:=o1 i2 (by simp);have d1:=o2 z (by simp);have d2:=o2 TI (by simp);have d3:=o2 TO (by simp);have d4:=o2 i1 (by simp);refine⟨QC n1,QC n2,n5,by simp,by simp,?_,?_,?_,?_,?_,?_,?_,?_⟩ <;> simp only[Qh,QV,or_false,not_or]
 ·exact⟨n3,QC c1⟩
 ·exact⟨n4,QC d1⟩
 ·exact⟨n6,QC c2⟩
 ·exact⟨n7,QC d2⟩
 ·exact⟨n8,QC c3⟩
 ·exact⟨n9,QC d3⟩
 ·exact⟨n10,QC d4⟩
 ·exact⟨QC n10,QC c4⟩
theorem Jjb{P:Program}{w:World}{K:Frag}{elts:List Expr}{kk:Nat}{pos:Pos}(b1 b2:Bool)(a1 a2 z TI TO i1 i2:Addr)(nd:[z,TI,TO,i1,i2].Nodup) :
 Turn P w K (.Tuple elts kk pos) (Itz K b1 b2 a1 a2) [z,TI,TO,i1,i2] z (ZSt b1 b2 a1 a2 z TI TO i1 i2) where
 mem:=by simp
 obj:=fun i h st b hb=>by
  obtain⟨s1,s2,⟨u,v,s3⟩,s4,s5⟩:=st;simp only[Qh,QV,or_false] at hb;rcases hb with rfl|rfl|rfl|rfl|rfl
  ·exact⟨_,s1,fun v z=>nomatch (show Data.fields _=Data.cell v from z)⟩
  ·exact⟨_,s2,fun v z=>nomatch (show Data.seq _ _=Data.cell v from z)⟩
  ·exact⟨_,s3,fun v z=>nomatch (show Data.seq _ _=Data.cell v from z)⟩
  ·exact IsItr.obj (b:=b1) s4
  ·exact IsItr.obj (b:=b2) s5
 keep:=fun i h h' st k=>by obtain⟨s1,s2,⟨u,v,s3⟩,s4,s5⟩:=st;exact⟨k z (by simp) _ s1,k TI (by simp) _ s2,⟨u,v,k TO (by simp) _ s3⟩,IsItr.keep (b:=b1) s4 fun o e=>k i1 (by simp) o e,IsItr.keep (b:=b2) s5 fun o e=>k i2 (by simp) o e⟩
 item:=by
  intro X hP hw hK hc i pins s σ H E I hf st hg;subst hP hw hK;obtain⟨xs,ys,x,y,q1,q2,e1,e2⟩:=hg;obtain⟨its,r1,p1⟩:=q1.heap I;obtain⟨jts,r2,p2⟩:=q2.heap I;obtain⟨s1,s2,⟨u0,v0,s3⟩,s4,s5⟩:=st;have Z:=Jmj I q1 q2 hf nd;have hh:X.A.in1.handled=none:=I.ok.hd hc;have ne1:a1≠i1:=FpOk.off I q1 (hf i1 (by simp));have ne2:a2≠i2:=FpOk.off I q2 (hf i2 (by simp));have D1:=Draws.sq (prog:=X.prog) (w:=X.w) (b:=b1) (xs:=its.toArray) hh i1 ne1
  have D2:=Draws.sq (prog:=X.prog) (w:=X.w) (b:=b2) (xs:=jts.toArray) hh i2 ne2
  have hT:s.TypeIs (.ref z) "zip":=⟨_,s1,rfl⟩
  have l1:i<its.toArray.size:=by have:=(Qg.mp e1).1;rw[Qm,<- r1.length];exact this
  have l2:i<jts.toArray.size:=by have:=(Qg.mp e2).1;rw[Qm,<- r2.length];exact this
  unfold pyNext;refine Qa (Gs (QB (name:=Q0 "__next__") hT Gr (QN Gr hT KF (Jbl Z D1 D2 s1 s2 s3 ⟨s4,p1⟩ ⟨s5,p2⟩ l1 l2 fun u v k tk pu pv t1 t2 t3 t4 t5 t6 t7 t8=>Qd ?_) (Ks _))));refine⟨_,rfl,wpAny_letOwnedTupleGo_zip (s:={ s with heap:=k,toks:=tk }) t1 fun k2 t9 e9=>?_⟩
  replace e9:Qt z k k2:=e9;obtain⟨ux,hx1,rx⟩:=r1.get e1;obtain⟨uy,hy1,ry⟩:=r2.get e2
  have eu:u=ux:=by
   have pu':its[i]?=some u:=by simpa using pu
   rw[hx1] at pu';exact(Qz pu').symm
  have ev:v=uy:=by
   have pv':jts[i]?=some v:=by simpa using pv
   rw[hy1] at pv';exact(Qz pv').symm
  subst eu ev
  have zlt:∀b∈[z,TI,TO,i1,i2],b<s.heap.objs.size:=fun b hb=>by
   simp only[Qh,QV,or_false] at hb;rcases hb with rfl|rfl|rfl|rfl|rfl
   ·exact Qj s1
   ·exact Qj s2
   ·exact Qj s3
   ·obtain⟨_,e,_⟩:=IsItr.obj (b:=b1) s4;exact Qj e
   ·obtain⟨_,e,_⟩:=IsItr.obj (b:=b2) s5;exact Qj e
  have nz:s.heap.objs.size≠z:=QO (zlt z (by simp))
  -- the pair is laid,then the private objects turn
  have I1:Inv X pins σ (upd H s.heap.objs.size (.tup [x,y])) { s with heap:=s.heap.push { cls:=.type "tuple",data:=.seq #[u,v] },toks:=s.toks } :=
   I.laid (o:=.tup [x,y]) (fun b ob q=>Qe _ q) (Qn _) ⟨by show 2<=sizeLine;decide,[u,v],.cons rx (.cons ry .nil),⟨_,Qk _ rfl,rfl,_,rfl⟩⟩
  have hf1:∀b∈[z,TI,TO,i1,i2],FpOk X pins (upd H s.heap.objs.size (.tup [x,y])) b:=fun b hb=>⟨by rw[Ji (Qr (zlt b hb))];exact(hf b hb).1,(hf b hb).2⟩
  have I2:Inv X pins σ (upd H s.heap.objs.size (.tup [x,y])) { s with heap:=k2,toks:=tk }:=Inv.turnedL (s:={ s with heap:=s.heap.push { cls:=.type "tuple",data:=.seq #[u,v] },toks:=s.toks }) I1 (fun b o hb q=>by
   simp only[Qh,QV,or_false,not_or] at hb;refine e9.extBut b o hb.1 ?_
   by_cases hbs:b=s.heap.objs.size
   ·subst hbs;have q':(s.heap.push { cls:=.type "tuple",data:=.seq #[u,v] }).get? s.heap.objs.size=some o:=q;rw[Qk _ rfl] at q';cases q';exact t6
   ·have q':s.heap.get? b=some o:=by have q2:(s.heap.push { cls:=.type "tuple",data:=.seq #[u,v] }).get? b=some o:=q;exact(Heap.get?_push_ne s.heap b _ hbs).symm.trans q2
    exact t8 b o hb.1 hb.2.2.1 hb.2.2.2.1 hb.2.2.2.2 q') hf1
  refine⟨.ref s.heap.objs.size,_,I2,rfl,⟨_,x,y,rfl,I.hok.fresh (Qn _),rfl,fun xs' ys' h1 h2=>?_⟩,⟨t9,e9.extBut _ _ Z.a1 t2,⟨_,_,e9.extBut _ _ Z.a2 t3⟩,?_,?_⟩,fun b hb=>(hf1 b hb).1⟩
  ·rw[Sq.inj I h1 q1,Sq.inj I h2 q2];exact⟨e1,e2⟩
  ·exact IsItr.keep (b:=b1) t4.1 fun o e=>e9.extBut _ _ (fun q=>Z.z1 (q▸Z.m1)) e
  ·exact IsItr.keep (b:=b2) t5.1 fun o e=>e9.extBut _ _ (fun q=>Z.z2 (q▸Z.m2)) e
 done:=by
  intro X hP hw hK hc i pins s σ H E I hf st hg;subst hP hw hK;obtain⟨xs,ys,q1,q2,ei⟩:=hg;obtain⟨its,r1,p1⟩:=q1.heap I;obtain⟨jts,r2,p2⟩:=q2.heap I;obtain⟨s1,s2,⟨u0,v0,s3⟩,s4,s5⟩:=st;have Z:=Jmj I q1 q2 hf nd;have hh:X.A.in1.handled=none:=I.ok.hd hc;have D1:=Draws.sq (prog:=X.prog) (w:=X.w) (b:=b1) (xs:=its.toArray) hh i1 (FpOk.off I q1 (hf i1 (by simp)));have D2:=Draws.sq (prog:=X.prog) (w:=X.w) (b:=b2) (xs:=jts.toArray) hh i2 (FpOk.off I q2 (hf i2 (by simp)))
  have hT:s.TypeIs (.ref z) "zip":=⟨_,s1,rfl⟩
  have n1:its.toArray.size=xs.length:=by rw[Qm,r1.length]
  have n2:jts.toArray.size=ys.length:=by rw[Qm,r2.length]
  unfold pyNext;refine Qa (Gs (QB (name:=Q0 "__next__") hT Gr (QN Gr hT KF (Jds Z D1 D2 s1 s2 s3 ⟨s4,p1⟩ ⟨s5,p2⟩ (by omega) fun k e tk kk he=>?_) (Ks _))));obtain⟨o,ho,hoc⟩:=he;refine Qa (GW (T:="StopIteration") (b:=true) ⟨o,ho,hoc⟩ K8 (Qd ⟨rfl,?_⟩));exact I.turnedL (fun b o hb q=>by simp only[Qh,QV,or_false,not_or] at hb;exact kk b o hb.1 hb.2.2.1 hb.2.2.2.1 hb.2.2.2.2 q) hf
 self:=fun _ _ _ _ _ st h=>MH st.1 h
noncomputable def iZp(K:Frag)(ta:TA):TI:=fun σ H R=>ta σ H fun vs H1=>∃(b1 b2:Bool) (a1 a2:Addr) (xs ys:List V),vs=[.ref a1,.ref a2]/\Sq b1 K H1 a1 xs/\Sq b2 K H1 a2 ys/\R (Itz K b1 b2 a1 a2) H1
theorem Jfq{X:Cx}{K:Frag}{elts:List Expr}{kk:Nat}{tpos:Pos}{a b:Expr}{ta:TA}{p pos:Pos}(hK:X.K=K)(hg:Gl X "zip")(hm:X.mg "zip"=none)(ha:PA X [a,b] ta)(hs:starEach [a,b] X.env=[(false,eval a X.env),(false,eval b X.env)]:=by rfl)
 (hs2:starEach [b] X.env=[(false,eval b X.env)]:=by rfl):PI X (.Tuple elts kk tpos) (.Call (.Name "zip" p) [a,b] [] pos) (iZp K ta):=by
 subst hK;intro pins s σ H R I h;refine Call_ (UM I hg hm Jg6 (Ga (thn (ha pos pins s σ H _ I h) fun us s1 ⟨vs,H1,I1,r1,q1⟩=>?_) (by rw[hs,hs2]) (by rw[hs2];rfl)));obtain⟨b1,b2,a1,a2,xs,ys,e,c1,c2,q⟩:=q1;subst e
 cases r1 with
 | cons r rr =>
 cases rr with
 | cons r' rr =>
 cases rr;cases r;cases r';obtain⟨its,w1,p1⟩:=c1.heap I1;obtain⟨jts,w2,p2⟩:=c2.heap I1;refine JaR p1 p2 fun h' t1 t2 t3 t4 t5 kp=>MH t1 ?_
 refine⟨_,[s1.heap.objs.size+4,s1.heap.objs.size+2,s1.heap.objs.size+3,s1.heap.objs.size,s1.heap.objs.size+1],_,_,H1,rfl,I1.kept (t':=s1.toks) kp,Jjb b1 b2 a1 a2 _ _ _ _ _ (by simp),⟨t1,t2,⟨_,_,t3⟩,t4,t5⟩,fun b hb=>?_,q⟩
 have hle:s1.heap.objs.size<=b:=by simp only[Qh,QV,or_false] at hb;rcases hb with rfl|rfl|rfl|rfl|rfl <;> first|exact Qn _|exact LM _ _
 exact I1.fpOk hle (I1.hok.fresh hle)
end L2

namespace LE
open PySem L2 LR
noncomputable def Jb8(ds es:List D):List D:=List.zipWith (fun a b=>.tup [a,b]) ds es
noncomputable def Jgf(m:Bool)(as:En->Option (List Sl)):En->Option (List D):=fun E=>(as E).bind fun ss=>match ss with
 | [s,t]=>(s.it m).bind fun ds=>(t.it m).bind fun es=>some (Jb8 ds es)
 | _=>none
section
variable{K:Frag}{C:Addr}{m:Bool}
theorem Jgd{H H1 H1':Hp}{v:V}{s:Sl}{ds:List D}(r:RR K C H H1 H1' v s)(i:Same H1 H1')(e:s.it m=some ds) :
 ∃(b:Bool) (a:Addr) (xs:List V),v=.ref a/\(∀A,(m=true->A=H1')->∀H0' H',SStep A (JX H H1 H1') H0' H'->Sq b K H' a xs)/\RDL K C (JX H H1 H1') xs ds:=by
 have f:=JL (Hs:=H) i
 have shared:∀{d:D},RD K C (JX H H1 H1') v d->(Sl.sh d).q=some ds->∃(b:Bool) (a:Addr) (xs:List V),v=.ref a/\(∀A,(m=true->A=H1')->∀H0' H',SStep A (JX H H1 H1') H0' H'->Sq b K H' a xs)/\RDL K C (JX H H1 H1') xs ds:=fun {d} r e=>by
  cases d with
  | lst es=>cases e;obtain⟨l,xs,h1,h2,h3⟩:=RD.lstI r;exact⟨false,l,xs,h1,fun A _ H0' H' st=>SqL.of (st.i _ _ (st.z _ _ h2)),h3⟩
  | fz es=>cases e;obtain⟨l,xs,h1,h2,h3⟩:=RD.fzI r;exact⟨false,l,xs,h1,fun A _ H0' H' st=>(st.z.trans st.i).seq h2,h3⟩
  | tup es=>cases e;obtain⟨l,xs,h1,h2,h3⟩:=RD.tupI r;exact⟨true,l,xs,h1,fun A _ H0' H' st=>(st.z.trans st.i).seqT h2,h3⟩
  | _=>cases e
 cases s with
 | no=>cases e
 | sh d=>exact shared (RD.mono f.z r) e
 | own es=>exact shared (RR.frz (s:=.own es) i r rfl) e
 | bd _ _=>cases e
 | bt _ _=>cases e
 | od _ _=>cases e
 | ot _ _=>cases e
 | bo es =>
  unfold Sl.it at e;dsimp only at e;split at e
  ·next hm=>cases e;obtain⟨l,xs,h1,h2,h3⟩:=r;refine⟨false,l,xs,h1,fun A hA H0' H' st=>?_,h3.mono f.z⟩;have:=hA hm;subst this;exact SqL.of (st.b _ _ h2)
  ·cases e
theorem JbT{t:TA}{ev:En->Option (List Sl)}(ha:SA K C t ev):SI K C m (iZp K t) (Jgf m ev):=by
 intro B H0 H σ E ds R I e q;obtain⟨ss,e1,e⟩:=bind_some e;split at e
 ·next s u =>
  obtain⟨ds1,e2,e⟩:=bind_some e;obtain⟨ds2,e3,e⟩:=bind_some e;cases e;refine ha B H0 H σ E _ _ I e1 fun vs H1 H1' s1 r1=>?_
  obtain⟨v,w,rfl,ra,rb⟩:=r1.two;have f:=JL (Hs:=H) s1.i;obtain⟨b1,a1,xs,rfl,k1,w1⟩:=Jgd ra s1.i e2;obtain⟨b2,a2,ys,rfl,k2,w2⟩:=Jgd rb s1.i e3;have hA:m=true->(if m=true then H1' else B)=H1':=fun h=>if_pos h
  have sA:Same (if m=true then H1' else B) H1':=by
   split
   ·exact Same.refl _
   ·exact I.b.trans s1.h
  have st0:SStep (if m=true then H1' else B) (JX H H1 H1') (JX H H1 H1') H1':=⟨sA,Same.refl _,fun _ _ e=>.inl e,f.i⟩
  refine⟨b1,b2,a1,a2,xs,ys,rfl,k1 _ hA _ _ st0,k2 _ hA _ _ st0,q _ _ _ (s1.comp f fun _ z=>z) ?_⟩;intro H0' H' st;have q1:=k1 _ hA _ _ st;have q2:=k2 _ hA _ _ st;refine⟨fun i d e=>?_,⟨xs,ys,q1,q2,by unfold Jb8;rw[List.length_zipWith,w1.1,w2.1]⟩⟩;unfold Jb8 at e;rw[List.getElem?_zipWith] at e
  cases g1:ds1[i]? with
  | none=>rw[g1] at e;cases e
  | some d1 =>
   cases g2:ds2[i]? with
   | none=>rw[g1,g2] at e;cases e
   | some d2 =>
    rw[g1,g2] at e;cases e;obtain⟨x,x1,x2⟩:=w1.get g1;obtain⟨y,y1,y2⟩:=w2.get g2;refine⟨⟨xs,ys,x,y,q1,q2,x1,y1⟩,?_⟩;rintro z H2 ⟨p,u',v',rfl,hp,rfl,hv⟩;obtain⟨h1,h2⟩:=hv xs ys q1 q2;rw[x1] at h1;cases h1;rw[y1] at h2;cases h2;have h0:H0' p=none:=Same.free st.i hp;refine⟨upd H0' p (.tup [x,y]),⟨.new hp,.new h0,fun a o e=>?_,fun a o e=>?_⟩,?_⟩
    ·by_cases h:a=p
     ·subst h;exact .inr (.inl hp)
     ·rw[Ji h] at e;exact .inl e
    ·by_cases h:a=p
     ·subst h;rw[Jt] at e ⊢;exact e
     ·rw[Ji h] at e ⊢;exact st.i a o e
    ·exact .mkT (.of Jt) (.cons (x2.mono (st.z.trans (.new h0))) (.cons (y2.mono (st.z.trans (.new h0))) .nil))
 ·cases e
theorem Jb9{α β:Type}(f:α->D)(g:β->D)(xs:List α)(ys:List β):Jb8 (xs.map f) (ys.map g)=(List.zip xs ys).map fun p=>.tup [f p.1,g p.2]:=by
 unfold Jb8
 induction xs generalizing ys with
 | nil=>rfl
 | cons x xs ih=>cases ys with
  | nil=>rfl
  | cons y ys=>simp[ih]
end
end LE

namespace PySem
namespace F
theorem JiJ:Manifest.owners.lookup (String.ofList ['d','e','s','r','e','v','e','r'].reverse)=some Manifest.sig_reversed:=by kernel_rfl
theorem JbR:Slot "reversed" "__init__" "object.__init__" :=
 .of (owner:="object") (n:="__init__") (by rw[typeLookup_type,builtinLookup_eq_fast];kernel_rfl) (by decide +kernel) (by decide +kernel) (by decide +kernel) (by first | exact .inl (by decide +kernel) | exact .inr (by decide +kernel)) (by rw[KG];kernel_rfl)
theorem rv_slot_next:Slot "reversed" "__next__" "reversed.__next__" :=
 .of (owner:="reversed") (n:="__next__") (by rw[typeLookup_type,builtinLookup_eq_fast];kernel_rfl) (by decide +kernel) (by decide +kernel) (by decide +kernel) (by first | exact .inl (by decide +kernel) | exact .inr (by decide +kernel)) (by rw[KG];kernel_rfl)
theorem rv_slot_iter:Slot "reversed" "__iter__" "reversed.__iter__" :=
 .of (owner:="reversed") (n:="__iter__") (by rw[typeLookup_type,builtinLookup_eq_fast];kernel_rfl) (by decide +kernel) (by decide +kernel) (by decide +kernel) (by first | exact .inl (by decide +kernel) | exact .inr (by decide +kernel)) (by rw[KG];kernel_rfl)
theorem rv_args_next(a:Value):argsOk "reversed.__next__" ⟨[a],[]⟩:=by unfold argsOk;rw[signature?_of (id:="reversed.__next__") (n:=['_','_','t','x','e','n','_','_']) (o:=['d','e','s','r','e','v','e','r']) (by kernel_rfl) JiJ];kernel_rfl
theorem rv_args_iter(a:Value):argsOk "reversed.__iter__" ⟨[a],[]⟩:=by unfold argsOk;rw[signature?_of (id:="reversed.__iter__") (n:=['_','_','r','e','t','i','_','_']) (o:=['d','e','s','r','e','v','e','r']) (by kernel_rfl) JiJ];kernel_rfl
theorem rv_entry_next:entryFor table "reversed.__next__"=some Builtin.«reversed.__next__»:=entryFor_of_tree (by kernel_rfl)
theorem rv_entry_iter:entryFor table "reversed.__iter__"=some Builtin.«dict_keyiterator.__iter__» :=
 entryFor_alias (id':="dict_keyiterator.__iter__") (by kernel_rfl) (by first | rfl | decide +kernel | (unfold String.splitOn;simp +decide [String.splitOnAux])) (by decide +kernel) (by kernel_rfl)
theorem rv_called:TypeCalled "reversed" "reversed.__new__" "object.__init__" :=
 ⟨by decide +kernel,by decide +kernel,⟨_,_,mro_reversed⟩,made_reversed,by decide +kernel,sub_reversed_self,JbR⟩
theorem rv_tuple_none:typeLookup (.type "tuple") "__reversed__"=pure none:=by rw[typeLookup_type,builtinLookup_eq_fast];kernel_rfl
theorem rv_tuple_dict:isSubtype (.type "tuple") (.type "dict")=pure false:=by rw[KG];kernel_rfl
end F
abbrev Jdu(h:Heap)(r a:Addr)(i:Int):Prop:=h.get? r=some { cls:=.type "reversed",dict:=none,data:=.fields #[.ref a,rawInt i],slots:=#[] }
section
variable{prog:Program}{w:World}{A:Around}{E:Value->Shared->Prop}{s:Shared}{a r:Addr}{xs:Array Value}
theorem Jh3(a:Addr)(xs:Array Value):Meets (Builtin.«reversed.__new__» ⟨[.type "reversed",.ref a],[]⟩) (fun _ R s=>s.heap.IsTuple a xs/\(xs.size:Int)<2 ^ 63 ∧
 R (.ok (.ret (.ref s.heap.objs.size))) { s with heap:=s.heap.push { cls:=.type "reversed",data:=.fields #[.ref a,rawInt ((xs.size:Int)-1)] },toks:=s.toks+1+1 }) :=
 .of_wp fun prog w A R s h=>by
  obtain⟨hp,g,d,tk,os⟩:=s;obtain⟨q1,q2,h⟩:=h;have hT:(⟨hp,g,d,tk,os⟩:Shared).TypeIs (.ref a) "tuple":=q1.typeIs;unfold Builtin.«reversed.__new__»;refine Qa (Kq (newClass_reversed _) ?_)
  try dsimp only
  refine Qa (Kq (a:=()) (by first|rfl|kernel_rfl) ?_);refine Qa (Kq (a:=()) (by first|rfl|kernel_rfl) ?_)
  try dsimp only
  refine Qa (Kn hT F.rv_tuple_none ?_)
  try dsimp only
  refine Qa ?_;refine Qa (m:=isInstance (.ref a) (.type "dict")) (GW hT F.rv_tuple_dict ?_);refine Qa (Kn hT Q2.lookup ?_);refine Qd ?_;refine Qa (PyProof.Rows.len_tuple (s:=⟨hp,g,d,tk,os⟩) q1 q2 ?_);refine Qa (Kq (a:=some (xs.size:Int)) rfl ?_)
  try dsimp only
  refine Qa ?_;show wpAny _ _ (newObj (.type "reversed") (.fields #[.ref a,rawInt ((xs.size:Int)-1)])) _ _ _;exact QP (Qd ⟨_,rfl,h⟩) (by size_fits)
theorem JjB{Q:Value->Shared->Prop}(q1:s.heap.IsTuple a xs)(q2:(xs.size:Int)<2 ^ 63)
 (h:∀h' tk,Jdu h' s.heap.objs.size a ((xs.size:Int)-1)->(∀c o,s.heap.get? c=some o->h'.get? c=some o)->Q (.ref s.heap.objs.size) { s with heap:=h',toks:=tk }) :
 wpAny (model prog w) A (call (.type "reversed") [.ref a]) Q E s:=by
 refine callType_new F.rv_called (by decide) (F.typeCall_reversed_1 _) (F.newCall_reversed_1 _) (fun obj=>F.args_object_init_2 obj _) F.entry_reversed_new (Jh3 a xs) ⟨q1,q2,?_⟩;exact⟨⟨_,Qk _ rfl,rfl⟩,h _ _ (Qk _ rfl) fun c o q=>Qe _ q⟩
theorem JkE{i:Nat}{x:Value}{Q:Option Value->Shared->Prop}(hit:Jdu s.heap r a (i:Int))(hl:s.heap.IsTuple a xs)(hb:(i:Int)<2 ^ 63)(hx:xs[i]?=some x)
 (hQ:∀h' tk,Jdu h' r a ((i:Int)-1)->Qt r s.heap h'->Q (some x) { s with heap:=h',toks:=tk }):wpAny (model prog w) A (pyNext (.ref r)) Q E s:=by
 have hT:s.TypeIs (.ref r) "reversed":=⟨_,hit,rfl⟩
 have hi:i<xs.size:=by
  by_cases z:i<xs.size
  ·exact z
  ·rw[Array.getElem?_eq_none (by omega)] at hx;cases hx
 unfold pyNext;refine Qa (Gs (QB (name:=Q0 "__next__") hT F.rv_slot_next
  (QN F.rv_slot_next hT F.rv_entry_next ?_ (F.rv_args_next _))))
 unfold Builtin.«reversed.__next__»;refine Qa (Kq (a:=(Value.ref r,[])) rfl ?_)
 try dsimp only
 refine Qa (QE hit rfl (x:=.ref a) rfl ?_);refine Qa (QE hit rfl (x:=rawInt (i:Int)) rfl ?_);show wpAny _ _ (if (i:Int)<0 then _ else _) _ _ s;rw[if_neg (by omega)];show wpAny _ _ (specialOf (.ref a) _ >>= _) _ _ s;refine Qa (Kn hl.typeIs Q2.lookup ?_);show wpAny _ _ (mkInt (i:Int) >>= _) _ _ s;refine Qa (wpAny_mkInt ?_);refine Qa (Gs (PyProof.Rows.getItem_tuple (s:={ s with toks:=s.toks+1 }) hl (by omega) hb (j:=i) (by simp[seqIndex?];omega) hx ?_))
 show wpAny _ _ (field (.ref r) 1 >>= _) _ _ _;refine Qa (QE hit rfl (x:=rawInt (i:Int)) rfl ?_)
 show wpAny _ _ (setField (.ref r) 1 (rawInt ((i:Int)-1)) >>= _) _ _ _;refine Qa (Q1 hit (by simp) fun k1 y1 e1=>?_);exact Qd ⟨x,rfl,Qd (hQ k1 _ y1 e1)⟩
theorem JmA{Q:Option Value->Shared->Prop}(hh:A.handled=none)(hit:Jdu s.heap r a (-1))
 (hQ:∀h',Kr r s.heap h'->Q none { s with heap:=h' }):wpAny (model prog w) A (pyNext (.ref r)) Q E s:=by
 have hT:s.TypeIs (.ref r) "reversed":=⟨_,hit,rfl⟩
 unfold pyNext;refine Qa (Gs (QB (name:=Q0 "__next__") hT F.rv_slot_next
  (QN F.rv_slot_next hT F.rv_entry_next ?_ (F.rv_args_next _))))
 unfold Builtin.«reversed.__next__»;refine Qa (Kq (a:=(Value.ref r,[])) rfl ?_)
 try dsimp only
 refine Qa (QE hit rfl (x:=.ref a) rfl ?_);refine Qa (QE hit rfl (x:=rawInt (-1)) rfl ?_);show wpAny _ _ (if (-1:Int)<0 then _ else _) _ _ s;rw[if_pos (by decide)];refine Qa (G5 ?_);refine Qa ?_;refine Qa (m:=setField (.ref r) 1 (rawInt (-1))) (Q1 hit (by simp) fun k1 y1 e1=>?_);refine Q1 (s:={ s with heap:=k1 }) y1 (by simp) fun k2 y2 e2=>?_
 refine Qa ?_;show wpAny _ _ (newExc (.type "StopIteration") [] >>= _) _ _ _;refine Qa ?_;simp only[newExc,newTuple];refine Qa (QP ?_ (by size_fits));refine Qa (m:=firstArgMember _ _) (Kq (a:=Value.none) (by first | rfl | (simp only[firstArgMember];rfl)) ?_);refine QP ?_ (by size_fits);simp only[raiseNew];refine Qa (wpAny_handled ?_)
 first|rw[show A.in1.handled=none from hh]|rw[hh]
 refine Qa (Qd (wpAny_throw ?_));refine Qa (GW (T:="StopIteration") (b:=true) ⟨_,Qk _ rfl,rfl⟩ K8 ?_)
 replace e1:Qt r s.heap k1:=e1
 replace e2:Qt r k1 k2:=e2;refine Qd (hQ _ ?_);exact(RF (RF (fun b o hb q=>e2.extBut b o hb (e1.extBut b o hb q)) _) _)
theorem Je7{i:Int}{Q:Value->Shared->Prop}(hit:Jdu s.heap r a i)(h:Q (.ref r) s):wpAny (model prog w) A (pyIter (.ref r)) Q E s:=by
 have hT:s.TypeIs (.ref r) "reversed":=⟨_,hit,rfl⟩
 refine Mp hT F.rv_slot_iter (QN F.rv_slot_iter hT F.rv_entry_iter ?_ (F.rv_args_iter _));show wpAny _ _ (ret (.ref r)) _ _ s;exact Qd ⟨_,rfl,"reversed",_,hT,F.rv_slot_next.lookup,h⟩
end
end PySem
namespace L2
open PySem PySem.Spec PyProof.Rows
noncomputable def Itv(K:Frag)(b:Bool)(a:Addr)(n:Nat):It :=
 ⟨fun i H=>i<n/\∃xs,Sq b K H a xs/\xs.length=n,fun i H x H'=>H'=H/\∀xs,Sq b K H a xs->xs[n-1-i]?=some x,fun i _=>i=n⟩
noncomputable def Jqi(b:Bool)(r a:Addr)(i:Int)(h:Heap):Prop:=match b with
 | true=>Jdu h r a i
 | false=>h.IsRevIter r a i
theorem JfP{P:Program}{w:World}{K:Frag}{tg:Expr}(b:Bool)(a r:Addr)(n:Nat)(hn:n<=sizeLine):Turn P w K tg (Itv K b a n) [r] r (fun i h=>Jqi b r a ((n:Int)-1-(i:Int)) h) where
 mem:=by simp
 obj:=fun i h st c hc=>by
  have e:c=r:=by simpa using hc
  subst e
  cases b with
  | true=>exact⟨_,st,fun v z=>nomatch (show Data.fields _=Data.cell v from z)⟩
  | false=>obtain⟨o,e,_,d⟩:=st;exact⟨o,e,fun v z=>by rw[d] at z;cases z⟩
 keep:=fun i h h' st k=>by
  cases b with
  | true=>exact k r (by simp) _ st
  | false=>exact Heap.IsRevIter.at st fun o e=>k r (by simp) o e
 item:=by
  intro X hP hw hK hc i pins s σ H E I hf st hg;subst hP hw hK;obtain⟨hi,xs,hq,hlen⟩:=hg;obtain⟨f0,f1,f2,f3,f4,f5⟩:=hf r (by simp);obtain⟨its,rv,p⟩:=hq.heap I;obtain⟨x,hx⟩:∃x,xs[n-1-i]?=some x:=⟨xs[n-1-i]'(by omega),by simp⟩
  obtain⟨u,hu,ru⟩:=rv.get hx;have e:(n:Int)-1-(i:Int)=((n-1-i:Nat):Int):=by omega
  have e2:((n-1-i:Nat):Int)-1=(n:Int)-1-((i+1:Nat):Int):=by omega
  rw[e] at st;have hz:sizeLine<2 ^ 63:=by decide
  cases b with
  | true =>
   refine JkE (s:=s) st p (by omega) (x:=u) (by simpa using hu) fun h' tk st' sb=>?_
   replace sb:Qt r s.heap h':=sb;have I1:Inv X pins σ H { s with heap:=h',toks:=tk }:=I.turned (fun b o hb e=>(sb.2 b hb).trans e) f0 f1 f3 f4 f5;rw[e2] at st';exact⟨u,rfl,JaZ (s:={ s with heap:=h',toks:=tk }) st' rfl rfl (by decide) ⟨x,H,I1,ru,⟨rfl,fun ys hy=>by rw[Sq.inj I hy hq];exact hx⟩,st',fun b hb=>(hf b hb).1⟩⟩
  | false =>
   refine wpAny_pyNext_rev_item (s:=s) st p (x:=u) (by simpa using hu) fun h' st' sb=>?_
   have I1:Inv X pins σ H { s with heap:=h' }:=I.turned (t':=s.toks) (fun b o hb e=>(sb.2 b hb).trans e) f0 f1 f3 f4 f5;rw[e2] at st';obtain⟨o,eo,co,d⟩:=id st';exact⟨u,rfl,JaZ (s:={ s with heap:=h' }) eo co d (by decide) ⟨x,H,I1,ru,⟨rfl,fun ys hy=>by rw[Sq.inj I hy hq];exact hx⟩,st',fun b hb=>(hf b hb).1⟩⟩
 done:=by
  intro X hP hw hK hc i pins s σ H E I hf st hg;subst hP hw hK;obtain⟨f0,f1,f2,f3,f4,f5⟩:=hf r (by simp)
  replace hg:i=n:=hg;have e:(n:Int)-1-(i:Int)=-1:=by omega
  rw[e] at st
  cases b with
  | true=>exact JmA (s:=s) (a:=a) (I.ok.hd hc) st fun h' eb=>⟨rfl,I.turned (t':=s.toks) (fun b o hb e=>eb b o hb e) f0 f1 f3 f4 f5⟩
  | false=>exact wpAny_pyNext_rev_end (s:=s) (I.ok.hd hc) st fun h' eb=>⟨rfl,I.turned (t':=s.toks) (fun b o hb e=>eb b o hb e) f0 f1 f3 f4 f5⟩
 self:=fun _ i s _ _ st h=>by
  cases b with
  | true=>exact Je7 (s:=s) st h
  | false=>exact wpAny_pyIter_revIter (s:=s) st h
noncomputable def iRv(K:Frag)(ta:TA):TI:=fun σ H R=>ta σ H fun vs H1=>∃(b:Bool) (a:Addr) (xs:List V),vs=[.ref a]/\Sq b K H1 a xs/\R (Itv K b a xs.length) H1
theorem JkR{X:Cx}{K:Frag}{tg:Expr}{a:Expr}{ta:TA}{p pos:Pos}(hK:X.K=K)(hg:Gl X "reversed")(hm:X.mg "reversed"=none)(ha:PA X [a] ta)(hs:starEach [a] X.env=[(false,eval a X.env)]:=by rfl)
:PI X tg (.Call (.Name "reversed" p) [a] [] pos) (iRv K ta):=by
 subst hK;intro pins s σ H R I h;refine Call_ (UM I hg hm Jch (Ga (thn (ha pos pins s σ H _ I h) fun us s1 ⟨vs,H1,I1,r1,q1⟩=>?_) (by rw[hs];rfl) (by rfl)));obtain⟨b,a,xs,e,c1,q⟩:=q1;subst e
 cases r1 with
 | cons r rr =>
 cases rr;cases r
 have fresh:∀c∈[s1.heap.objs.size],FpOk X pins H1 c:=fun c hc=>by
  have e:c=s1.heap.objs.size:=by simpa using hc
  subst e;exact I1.fpOk (Qn _) (I1.hok.fresh (Qn _))
 have hz:sizeLine<2 ^ 63:=by decide
 cases b with
 | true =>
  obtain⟨its,rv,p1,sz⟩:=I1.tuple c1;have hl:=rv.length;refine JjB (s:=s1) (xs:=its.toArray) p1 (by rw[Qm];omega) fun h' tk t1 kp=>Je7 (s:={ s1 with heap:=h',toks:=tk }) t1 ?_
  refine⟨_,[s1.heap.objs.size],_,_,H1,rfl,I1.kept (t':=tk) kp,JfP true a _ xs.length sz,?_,fresh,q⟩;show Jdu h' s1.heap.objs.size a _;have e:(its.toArray.size:Int)-1=(xs.length:Int)-1-((0:Nat):Int):=by rw[Qm,<- hl];simp
  rw[<- e];exact t1
 | false =>
  obtain⟨its,rv,p1,sz⟩:=I1.list c1;have hl:=rv.length;refine call_reversed_list (s:=s1) p1.isList (wpAny_pyIter_revIter (l:=a) (i:=((its.toArray.size:Int)-1)) ⟨_,Qk _ rfl,rfl,rfl⟩ ?_);refine⟨_,[s1.heap.objs.size],_,_,H1,rfl,I1.kept (t':=s1.toks) fun b o e=>Qe _ e,JfP false a _ xs.length sz,?_,fresh,q⟩;refine⟨_,Qk _ rfl,rfl,?_⟩;have e:(its.toArray.size:Int)-1=(xs.length:Int)-1-((0:Nat):Int):=by rw[Qm,<- hl];simp
  rw[e];rfl
end L2
namespace LE
open PySem L2 LR
noncomputable def JmU(m:Bool)(as:En->Option (List Sl)):En->Option (List D):=fun E=>(as E).bind fun ss=>match ss with
 | [s]=>(s.it m).map List.reverse
 | _=>none
section
variable{K:Frag}{C:Addr}{m:Bool}
theorem Jos{t:TA}{ev:En->Option (List Sl)}(ha:SA K C t ev):SI K C m (iRv K t) (JmU m ev):=by
 intro B H0 H σ E ds R I e q;obtain⟨ss,e1,e⟩:=bind_some e;split at e
 ·next s =>
  obtain⟨ds1,e2,e⟩:=Gb.mp e;subst e;refine ha B H0 H σ E _ _ I e1 fun vs H1 H1' s1 r1=>?_
  obtain⟨v,rfl,ra⟩:=r1.one;have f:=JL (Hs:=H) s1.i;obtain⟨b1,a1,xs,rfl,k1,w1⟩:=Jgd ra s1.i e2;have hA:m=true->(if m=true then H1' else B)=H1':=fun h=>if_pos h
  have sA:Same (if m=true then H1' else B) H1':=by
   split
   ·exact Same.refl _
   ·exact I.b.trans s1.h
  have st0:SStep (if m=true then H1' else B) (JX H H1 H1') (JX H H1 H1') H1':=⟨sA,Same.refl _,fun _ _ e=>.inl e,f.i⟩
  refine⟨b1,a1,xs,rfl,k1 _ hA _ _ st0,q _ _ _ (s1.comp f fun _ z=>z) ?_⟩;intro H0' H' st;have q1:=k1 _ hA _ _ st;refine⟨fun i d e=>?_,by rw[KA,w1.1];rfl⟩;have hi:i<ds1.length:=by have:=(Qg.mp e).1;rwa [KA] at this
  rw[LH hi,<- w1.1] at e;obtain⟨x,x1,x2⟩:=w1.get e;refine⟨⟨by rw[w1.1];exact hi,xs,q1,rfl⟩,?_⟩;rintro z H2 ⟨rfl,hv⟩;have h1:=hv xs q1;rw[x1] at h1;cases h1;exact⟨H0',.refl st.i,x2.mono st.z⟩
 ·cases e
end
end LE

namespace PySem
open AutoSeq1 (wpAny_loadPart')
abbrev enO(it:Addr):Obj:={ cls:=.type "enumerate",data:=.fields #[.none,.bool false,.ref it,rawInt 0,.none,.none] }
theorem Jgw(b:Bool)(a:Addr)(xs:Array Value):Meets (Builtin.«enumerate.__new__» ⟨[.type "enumerate",.ref a],[]⟩) (fun _ R s=>IsSq b s.heap a xs ∧
 R (.ok (.ret (.ref (s.heap.push (itO b a)).objs.size))) { s with heap:=(s.heap.push (itO b a)).push (enO s.heap.objs.size) }) :=
 .of_wp fun prog w A R s h=>by
  obtain⟨hp,g,d,tk,os⟩:=s;obtain⟨q,h⟩:=h;have hsub:=sub_enumerate;have r:IsSq b (RG ⟨hp,g,d,tk,os⟩) a xs:=q
  obtain⟨o,hl⟩:∃o,hp.get? a=some o:=by
   cases b with
   | true=>obtain⟨o,e,_⟩:=q;exact⟨o,e⟩
   | false=>obtain⟨o,e,_⟩:=q;exact⟨o,e⟩
  wp_walk using KU hl
  refine wpAny_stack_any fun st=>Qd ?_
  split
  ·rename_i c _ _ _ _ _;cases (c == Value.type "enumerate")
   ·wp_walk using KU hl,U5 r
    exact⟨_,rfl,h⟩
   ·wp_walk using KU hl,U5 r
    exact⟨_,rfl,h⟩
  ·wp_walk using KU hl,U5 r
   exact⟨_,rfl,h⟩
section
variable{prog:Program}{w:World}{A:Around}{E:Value->Shared->Prop}{s:Shared}{b:Bool}{a e it:Addr}{xs:Array Value}
theorem Jha{Q:Value->Shared->Prop}(q:IsSq b s.heap a xs)
 (h:∀h',IsEnum h' (s.heap.objs.size+1) s.heap.objs.size 0 .none->IsItr b h' s.heap.objs.size a 0->(∀c o,s.heap.get? c=some o->h'.get? c=some o)->Q (.ref (s.heap.objs.size+1)) { s with heap:=h' }) :
 wpAny (model prog w) A (call (.type "enumerate") [.ref a]) Q E s:=by
 refine callType_new F.called_enumerate (by decide) (F.typeCall_enumerate_1 _) (F.newCall_enumerate_1 _) (fun obj=>F.args_object_init_2 obj _) F.entry_enumerate_new (Jgw b a xs) ⟨q,?_⟩;have hz:(s.heap.push (itO b a)).objs.size=s.heap.objs.size+1:=Q4 ..;have fi:(itO b a).isFreed=false:=by cases b <;> rfl
 have g2:((s.heap.push (itO b a)).push (enO s.heap.objs.size)).get? (s.heap.push (itO b a)).objs.size=some _:=Qk _ rfl
 have g1:((s.heap.push (itO b a)).push (enO s.heap.objs.size)).get? s.heap.objs.size=some _:=Qe _ (Qk _ fi)
 show _/\_;rw[hz] at g2;rw[hz];exact⟨⟨_,g2,rfl⟩,h _ g2 (.new g1) fun c o x=>Qe _ (Qe _ x)⟩
theorem Jhq{p:List Addr}{n i:Nat}{P:Nat->Value->Prop}{S:Nat->Heap->Prop}{old:Value}{Q:Value->Shared->Prop}(D:Draws prog w A it p n P S)(he:IsEnum s.heap e it i old)(st:S i s.heap)(hi:i<n)(hne:e∉p)(him:it∈p)
 (hQ:∀x h' tk t,P i x->IsEnumOut h' e it ((i:Int)+1) x s.heap.objs.size->S (i+1) h'->h'.get? s.heap.objs.size=some { cls:=.type "tuple",data:=.seq #[.int i t,x] }->h'.objs.size=s.heap.objs.size+1 ->
  (∀c o,c≠e->c≠it->s.heap.get? c=some o->h'.get? c=some o)->Q (.ref s.heap.objs.size) { s with heap:=h',toks:=tk }) :
 wpAny (model prog w) A (Builtin.«enumerate.__next__» ⟨[.ref e],[]⟩) (fun fin s'=>∃v,fin=.done (.ret v)/\Q v s') E s:=by
 obtain⟨hp,g,d,tk,os⟩:=s;have ne:e≠it:=fun q=>hne (q▸him)
 show wpAny _ _ (field (.ref e) 2 >>= _) _ _ _;refine Qa (QE he rfl (x:=.ref it) rfl (Qa (D.item i _ _ _ hi st fun x k1 t1 px s1 e1=>?_)))
 replace e1:Qt it hp k1:=e1;have E1:IsEnum k1 e it i old:=(e1.2 e ne).trans he;refine Qa (QE (s:=⟨k1,g,d,t1,os⟩) E1 rfl (x:=rawInt i) rfl ?_);show wpAny _ _ (field (.ref e) 4 >>= _) _ _ ⟨k1,g,d,t1,os⟩;refine Qa (QE (s:=⟨k1,g,d,t1,os⟩) E1 rfl (x:=.none) rfl ?_);show wpAny _ _ (mkInt i >>= _) _ _ ⟨k1,g,d,t1,os⟩;refine Qa (wpAny_mkInt ?_);show wpAny _ _ (setField (.ref e) 3 (rawInt ((i:Int)+1)) >>= _) _ _ ⟨k1,g,d,t1+1,os⟩
 refine Qa (Q1 E1 (by simp) fun k2 E2 e2=>?_)
 replace e2:Qt e k1 k2:=e2
 replace E2:IsEnum k2 e it ((i:Int)+1) old:=E2;show wpAny _ _ (setField (.ref e) 4 .none >>= _) _ _ ⟨k2,g,d,t1+1,os⟩;refine Qa (Q1 E2 (by simp) fun k3 E3 e3=>?_)
 replace e3:Qt e k2 k3:=e3
 replace E3:IsEnum k3 e it ((i:Int)+1) old:=E3;show wpAny _ _ (newTuple [.int i t1,x] >>= _) _ _ ⟨k3,g,d,t1+1,os⟩;refine Qa (Md ?_);have hsz:k3.objs.size=hp.objs.size:=by rw[e3.1,e2.1,e1.1]
 have elt:e<hp.objs.size:=Qj he
 have E4:IsEnum (k3.push { cls:=.type "tuple",data:=.seq #[.int i t1,x] }) e it ((i:Int)+1) old:=Qe _ E3
 have T4:(k3.push { cls:=.type "tuple",data:=.seq #[.int i t1,x] }).get? hp.objs.size=some { cls:=.type "tuple",data:=.seq #[.int i t1,x] }:=by rw[<- hsz];exact Qk _ rfl
 have z4:(k3.push { cls:=.type "tuple",data:=.seq #[.int i t1,x] }).objs.size=hp.objs.size+1:=by rw[Q4,hsz]
 have kp:∀c o,c≠e->k1.get? c=some o->(k3.push { cls:=.type "tuple",data:=.seq #[.int i t1,x] }).get? c=some o:=fun c o c1 q=>Qe _ (e3.extBut c o c1 (e2.extBut c o c1 q))
 show wpAny _ _ (QD (.ref e) >>= _) _ _ ⟨k3.push { cls:=.type "tuple",data:=.seq #[.int i t1,x] },g,d,t1+1,os⟩;rw[hsz]
 generalize k3.push { cls:=.type "tuple",data:=.seq #[.int i t1,x] }=k4 at E4 T4 z4 kp ⊢
 refine Qa ?_;unfold QD;refine Qa (QE (s:=⟨k4,g,d,t1+1,os⟩) E4 rfl (x:=.none) rfl (Qd ?_));simp only[if_true];refine Qa (G5 (Qa (QE (s:=⟨k4,g,d,t1+1,os⟩) E4 rfl (x:=old) rfl (Qa (Q1 E4 (by simp) fun k5 E5 e5=>?_)))))
 replace e5:Qt e k4 k5:=e5
 replace E5:IsEnum k5 e it ((i:Int)+1) x:=E5;show wpAny _ _ (GF (.ref e) (.ref hp.objs.size) >>= _) _ _ ⟨k5,g,d,t1+1,os⟩;refine Qa ?_;unfold GF;refine Qa (Q1 E5 (by simp) fun k6 E6 e6=>?_)
 replace e6:Qt e k5 k6:=e6
 replace E6:IsEnumOut k6 e it ((i:Int)+1) x hp.objs.size:=E6;refine Q1 E6 (by simp) fun k7 E7 e7=>?_
 replace e7:Qt e k6 k7:=e7
 replace E7:IsEnumOut k7 e it ((i:Int)+1) x hp.objs.size:=E7;have up:∀c o,c≠e->k4.get? c=some o->k7.get? c=some o:=fun c o c1 q=>e7.extBut c o c1 (e6.extBut c o c1 (e5.extBut c o c1 q))
 refine Qa (Mo (Qd ⟨_,rfl,hQ x k7 (t1+1) t1 px E7 ?_ (up _ _ (QO elt) T4) (by rw[e7.1,e6.1,e5.1,z4]) fun c o c1 c2 q=>up c o c1 (kp c o c1 (e1.extBut c o c2 q))⟩));exact D.frame _ _ _ s1 fun c hc o q=>up c o (fun z=>hne (z▸hc)) (kp c o (fun z=>hne (z▸hc)) q)
theorem JjG{p:List Addr}{n:Nat}{P:Nat->Value->Prop}{S:Nat->Heap->Prop}{old:Value}{Q:Fin->Shared->Prop}(D:Draws prog w A it p n P S)(he:IsEnum s.heap e it n old)(st:S n s.heap)
 (hE:∀h' x tk,Kr it s.heap h'->(∃o,h'.get? x=some o/\o.cls=.type "StopIteration")->E (.ref x) { s with heap:=h',toks:=tk }) :
 wpAny (model prog w) A (Builtin.«enumerate.__next__» ⟨[.ref e],[]⟩) Q E s:=by
 show wpAny _ _ (field (.ref e) 2 >>= _) _ _ _;refine Qa (QE he rfl (x:=.ref it) rfl (Qa (D.done _ _ _ st fun k1 x e1 hx=>?_)));exact hE k1 x s.toks e1 hx
end
end PySem
namespace L2
open PySem PySem.Spec PyProof.Rows
noncomputable def Ite(K:Frag)(b:Bool)(a:Addr):It :=
 ⟨fun i H=>∃xs x,Sq b K H a xs/\xs[i]?=some x,
  fun i H x H'=>∃p v,x=.ref p/\H p=none/\H'=upd H p (.tup [.int i,v])/\∀xs,Sq b K H a xs->xs[i]?=some v,
  fun i H=>∃xs,Sq b K H a xs/\i=xs.length⟩
theorem JlG{P:Program}{w:World}{K:Frag}{elts:List Expr}{kk:Nat}{pos:Pos}(b:Bool)(a e it:Addr)(ne:e≠it) :
 Turn P w K (.Tuple elts kk pos) (Ite K b a) [e,it] e (fun i h=>(∃old,IsEnum h e it i old)/\IsItr b h it a i) where
 mem:=by simp
 obj:=fun i h st c hc=>by
  obtain⟨⟨old,s1⟩,s2⟩:=st;simp only[Qh,QV,or_false] at hc;rcases hc with rfl|rfl
  ·exact⟨_,s1,fun v z=>nomatch (show Data.fields _=Data.cell v from z)⟩
  ·exact IsItr.obj (b:=b) s2
 keep:=fun i h h' st k=>by obtain⟨⟨old,s1⟩,s2⟩:=st;exact⟨⟨old,k e (by simp) _ s1⟩,IsItr.keep (b:=b) s2 fun o q=>k it (by simp) o q⟩
 item:=by
  intro X hP hw hK hc i pins s σ H E I hf st hg;subst hP hw hK;obtain⟨xs,x,q1,e1⟩:=hg;obtain⟨its,r1,p1⟩:=q1.heap I;obtain⟨⟨old,s1⟩,s2⟩:=st;have hh:X.A.in1.handled=none:=I.ok.hd hc;have ne1:a≠it:=FpOk.off I q1 (hf it (by simp));have ne2:a≠e:=FpOk.off I q1 (hf e (by simp));have D1:=Draws.sq (prog:=X.prog) (w:=X.w) (b:=b) (xs:=its.toArray) hh it ne1;have hT:s.TypeIs (.ref e) "enumerate":=⟨_,s1,rfl⟩
  have l1:i<its.toArray.size:=by have:=(Qg.mp e1).1;rw[Qm,<- r1.length];exact this
  unfold pyNext;refine Qa (Gs (QB (name:=Q0 "__next__") hT K0 (QN K0 hT F.entry_enumerate_next
   (Jhq D1 s1 ⟨s2,p1⟩ l1 (by simp[ne,QC ne2]) (by simp) fun u k tk t pu t1 t2 t3 t4 t5=>Qd ?_) (MI _))))
  refine⟨_,rfl,wpAny_letOwnedTupleGo_enum (s:={ s with heap:=k,toks:=tk }) t1 fun k2 t9 e9=>?_⟩
  replace e9:Qt e k k2:=e9;obtain⟨ux,hx1,rx⟩:=r1.get e1
  have eu:u=ux:=by
   have pu':its[i]?=some u:=by simpa using pu
   rw[hx1] at pu';exact(Qz pu').symm
  subst eu
  have elt:∀c∈[e,it],c<s.heap.objs.size:=fun c hc=>by
   simp only[Qh,QV,or_false] at hc;rcases hc with rfl|rfl
   ·exact Qj s1
   ·obtain⟨_,q,_⟩:=IsItr.obj (b:=b) s2;exact Qj q
  have ri:RelV (.int i) (.int i t):=⟨t,rfl⟩
  have I1:Inv X pins σ (upd H s.heap.objs.size (.tup [.int i,x])) { s with heap:=s.heap.push { cls:=.type "tuple",data:=.seq #[.int i t,u] },toks:=s.toks } :=
   I.laid (o:=.tup [.int i,x]) (fun c ob q=>Qe _ q) (Qn _) ⟨by show 2<=sizeLine;decide,[.int i t,u],.cons ri (.cons rx .nil),⟨_,Qk _ rfl,rfl,_,rfl⟩⟩
  have hf1:∀c∈[e,it],FpOk X pins (upd H s.heap.objs.size (.tup [.int i,x])) c:=fun c hc=>⟨by rw[Ji (Qr (elt c hc))];exact(hf c hc).1,(hf c hc).2⟩
  have I2:Inv X pins σ (upd H s.heap.objs.size (.tup [.int i,x])) { s with heap:=k2,toks:=tk }:=Inv.turnedL (s:={ s with heap:=s.heap.push { cls:=.type "tuple",data:=.seq #[.int i t,u] },toks:=s.toks }) I1 (fun c o hc q=>by
   simp only[Qh,QV,or_false,not_or] at hc;refine e9.extBut c o hc.1 ?_
   by_cases hcs:c=s.heap.objs.size
   ·subst hcs;have q':(s.heap.push { cls:=.type "tuple",data:=.seq #[.int i t,u] }).get? s.heap.objs.size=some o:=q;rw[Qk _ rfl] at q';cases q';exact t3
   ·have q':s.heap.get? c=some o:=by have q2:(s.heap.push { cls:=.type "tuple",data:=.seq #[.int i t,u] }).get? c=some o:=q;exact(Heap.get?_push_ne s.heap c _ hcs).symm.trans q2
    exact t5 c o hc.1 hc.2 q') hf1
  refine⟨.ref s.heap.objs.size,_,I2,rfl,⟨_,x,rfl,I.hok.fresh (Qn _),rfl,fun xs' h1=>?_⟩,⟨⟨u,?_⟩,?_⟩,fun c hc=>(hf1 c hc).1⟩
  ·rw[Sq.inj I h1 q1];exact e1
  ·have ei:((i+1:Nat):Int)=(i:Int)+1:=by omega
   rw[ei];exact t9
  ·exact IsItr.keep (b:=b) t2.1 fun o q=>e9.extBut _ _ (QC ne) q
 done:=by
  intro X hP hw hK hc i pins s σ H E I hf st hg;subst hP hw hK;obtain⟨xs,q1,ei⟩:=hg;obtain⟨its,r1,p1⟩:=q1.heap I;obtain⟨⟨old,s1⟩,s2⟩:=st;have hh:X.A.in1.handled=none:=I.ok.hd hc;have D1:=Draws.sq (prog:=X.prog) (w:=X.w) (b:=b) (xs:=its.toArray) hh it (FpOk.off I q1 (hf it (by simp)));have hT:s.TypeIs (.ref e) "enumerate":=⟨_,s1,rfl⟩
  have n1:i=its.toArray.size:=by rw[Qm,<- r1.length];exact ei
  subst n1;unfold pyNext;refine Qa (Gs (QB (name:=Q0 "__next__") hT K0 (QN K0 hT F.entry_enumerate_next (JjG D1 s1 ⟨s2,p1⟩ fun k x tk kk he=>?_) (MI _))));obtain⟨o,ho,hoc⟩:=he;refine Qa (GW (T:="StopIteration") (b:=true) ⟨o,ho,hoc⟩ K8 (Qd ⟨rfl,?_⟩));exact I.turnedL (fun c o hc q=>by simp only[Qh,QV,or_false,not_or] at hc;exact kk c o hc.2 q) hf
 self:=fun _ _ _ _ _ st h=>by obtain⟨⟨old,s1⟩,_⟩:=st;exact wpAny_pyIter_enum s1 h
noncomputable def iEn(K:Frag)(ta:TA):TI:=fun σ H R=>ta σ H fun vs H1=>∃(b:Bool) (a:Addr) (xs:List V),vs=[.ref a]/\Sq b K H1 a xs/\R (Ite K b a) H1
theorem Jc1{X:Cx}{K:Frag}{elts:List Expr}{kk:Nat}{tpos:Pos}{a:Expr}{ta:TA}{p pos:Pos}(hK:X.K=K)(hg:Gl X "enumerate")(hm:X.mg "enumerate"=none)(ha:PA X [a] ta)(hs:starEach [a] X.env=[(false,eval a X.env)]:=by rfl)
:PI X (.Tuple elts kk tpos) (.Call (.Name "enumerate" p) [a] [] pos) (iEn K ta):=by
 subst hK;intro pins s σ H R I h;refine Call_ (UM I hg hm Jbo (Ga (thn (ha pos pins s σ H _ I h) fun us s1 ⟨vs,H1,I1,r1,q1⟩=>?_) (by rw[hs];rfl) (by rfl)));obtain⟨b,a,xs,e,c1,q⟩:=q1;subst e
 cases r1 with
 | cons r rr =>
 cases rr;cases r;obtain⟨its,w1,p1⟩:=c1.heap I1;refine Jha p1 fun h' t1 t2 kp=>wpAny_pyIter_enum t1 ?_
 refine⟨_,[s1.heap.objs.size+1,s1.heap.objs.size],_,_,H1,rfl,I1.kept (t':=s1.toks) kp,JlG b a _ _ (by simp),⟨⟨_,t1⟩,t2⟩,fun c hc=>?_,q⟩
 have hle:s1.heap.objs.size<=c:=by simp only[Qh,QV,or_false] at hc;rcases hc with rfl|rfl <;> first|exact Qn _|exact LM _ _
 exact I1.fpOk hle (I1.hok.fresh hle)
end L2
namespace LE
open PySem L2 LR
noncomputable def Jcv(ds:List D):List D:=ds.mapIdx fun i d=>.tup [.int i,d]
noncomputable def Je5(m:Bool)(as:En->Option (List Sl)):En->Option (List D):=fun E=>(as E).bind fun ss=>match ss with
 | [s]=>(s.it m).map Jcv
 | _=>none
section
variable{K:Frag}{C:Addr}{m:Bool}
theorem Jlj{t:TA}{ev:En->Option (List Sl)}(ha:SA K C t ev):SI K C m (iEn K t) (Je5 m ev):=by
 intro B H0 H σ E ds R I e q;obtain⟨ss,e1,e⟩:=bind_some e;split at e
 ·next s =>
  obtain⟨ds1,e2,e⟩:=Gb.mp e;subst e;refine ha B H0 H σ E _ _ I e1 fun vs H1 H1' s1 r1=>?_
  obtain⟨v,rfl,ra⟩:=r1.one;have f:=JL (Hs:=H) s1.i;obtain⟨b1,a1,xs,rfl,k1,w1⟩:=Jgd ra s1.i e2;have hA:m=true->(if m=true then H1' else B)=H1':=fun h=>if_pos h
  have sA:Same (if m=true then H1' else B) H1':=by
   split
   ·exact Same.refl _
   ·exact I.b.trans s1.h
  have st0:SStep (if m=true then H1' else B) (JX H H1 H1') (JX H H1 H1') H1':=⟨sA,Same.refl _,fun _ _ e=>.inl e,f.i⟩
  refine⟨b1,a1,xs,rfl,k1 _ hA _ _ st0,q _ _ _ (s1.comp f fun _ z=>z) ?_⟩;intro H0' H' st;have q1:=k1 _ hA _ _ st;refine⟨fun i d e=>?_,⟨xs,q1,by unfold Jcv;rw[List.length_mapIdx,w1.1]⟩⟩;unfold Jcv at e;rw[Gf] at e;obtain⟨d1,g1,e⟩:=Gb.mp e;subst e;obtain⟨x,x1,x2⟩:=w1.get g1;refine⟨⟨xs,x,q1,x1⟩,?_⟩;rintro z H2 ⟨p,v',rfl,hp,rfl,hv⟩;have h1:=hv xs q1;rw[x1] at h1;cases h1;have h0:H0' p=none:=Same.free st.i hp
  refine⟨upd H0' p (.tup [.int i,x]),⟨.new hp,.new h0,fun a o e=>?_,fun a o e=>?_⟩,?_⟩
  ·by_cases h:a=p
   ·subst h;exact .inr (.inl hp)
   ·rw[Ji h] at e;exact .inl e
  ·by_cases h:a=p
   ·subst h;rw[Jt] at e ⊢;exact e
   ·rw[Ji h] at e ⊢;exact st.i a o e
  ·exact .mkT (.of Jt) (.cons (.int _) (.cons (x2.mono (st.z.trans (.new h0))) .nil))
 ·cases e
theorem Jcw{α:Type}(f:α->D)(xs:List α):Jcv (xs.map f)=xs.mapIdx fun i x=>.tup [.int i,f x]:=by
 unfold Jcv;refine Kt fun i=>?_
 rw[Gf,Gf,Qx,Ly];rfl
end
end LE

namespace L2
open PySem PySem.Spec PyProof.Rows
noncomputable def JZ(ns:List Int):List Int:=ns.mergeSort (fun a b=>decide (a<=b))
theorem Jw(ns:List Int):(JZ ns).Perm ns:=List.mergeSort_perm _ _
theorem UE(ns:List Int):(JZ ns).Pairwise (·<=·):=by have h:=List.pairwise_mergeSort (le:=fun a b:Int=>decide (a<=b)) (by intro a b c h1 h2;simp only[decide_eq_true_eq] at *;omega) (by intro a b;simp only[KS,decide_eq_true_eq];omega) ns;exact h.imp fun {a b} h=>by simpa using h
theorem VV:∀{xs ys:List Int},xs.Perm ys->xs.Pairwise (·<=·)->ys.Pairwise (·<=·)->xs=ys
 | [],ys,p,_,_=>by rw[List.Perm.nil_eq p]
 | x::xs,ys,p,h1,h2=>by
  cases ys with
  | nil=>exact absurd p.symm (by simp)
  | cons y ys =>
   obtain⟨a1,a2⟩:=QL.mp h1;obtain⟨b1,b2⟩:=QL.mp h2
   have e:x=y:=by
    have hx:x∈y::ys:=p.mem_iff.mp Qf
    have hy:y∈x::xs:=p.mem_iff.mpr Qf;rcases Qh.mp hx with z|z
    ·exact z
    ·rcases Qh.mp hy with w|w
     ·exact w.symm
     ·have:=a1 y w
      have:=b1 x z;omega
   subst e;rw[VV (List.Perm.cons_inv p) a2 b2]
noncomputable def JbQ(K:Frag):List V->Hp->VK->Prop:=fun xs H Q=>∃(a:Addr) (ns:List Int),xs=[.ref a]/\SqL K H a (ns.map V.int)/\ns.length<64/\∀l,H l=none->Q (.ref l) (upd H l (.lst ((JZ ns).map V.int)))
theorem Ut:∀{ns:List Int} {us:List Value},IntsAre us ns->Vals (ns.map V.int) us:=by
 intro ns us h
 induction h with
 | nil=>exact .nil
 | cons _ _ _ ih=>exact .cons ⟨_,rfl⟩ ih
section
variable{X:Cx}
theorem Jbr:CallR X (.builtin "sorted") (JbQ X.K):=by
 intro pins s σ H xs us Q I r h;obtain⟨p,ns,rfl,hq,hl,q⟩:=h;obtain⟨u,rfl,rx⟩:=WO r;cases rx;obtain⟨its,r',pl,hz⟩:=I.list hq;have hlen:=r'.length;rw[Qo] at hlen hz;refine sorted_ints pl.isList (Y8 r') (by omega) fun out ns' a1 a2 a3=>?_
 have es:ns'=JZ ns:=VV (a2.trans (Jw ns).symm) a3 (UE ns);subst es;obtain⟨e,he⟩:=sortedAll_at s.heap its out
 have hn:((JZ ns).map V.int).length<=sizeLine:=by rw[Qo,(Jw ns).length_eq];exact hz
 have hne:H (s.heap.objs.size+1)=none:=I.hok.fresh (Lo _);refine⟨.ref (s.heap.objs.size+1),_,I.laid (t':=s.toks) (fun b o x=>sortedAll_old x) (Lo _) (show ObjOk X.prog X.w _ _ _ (.lst ((JZ ns).map V.int)) from⟨hn,out.toList,e,Ut a1,?_⟩),rfl,q _ hne⟩;rw[he]
end
theorem Jbq{X:Cx}{K:Frag}(hK:X.K=K)(hc:X.calm=true):CallR X (.builtin "sorted") (JbQ K):=hK▸Jbr
end L2
namespace LE
open PySem L2 LR
noncomputable def Zp:List Sl->Option Sl
 | [s]=>s.r.bind fun ds=>(ints? ds).bind fun ns=>if ns.length<64 then some (.own ((JZ ns).map .int)) else none
 | _=>none
section
variable{K:Frag}{C:Addr}
theorem Jc6{H:Hp}(ns:List Int):RDL K C H (ns.map V.int) (ns.map D.int):=by refine⟨by simp,fun i x d h1 h2=>?_⟩;rw[Qx] at h1 h2;obtain⟨n,e,rfl⟩:=Gb.mp h1;rw[e] at h2;cases h2;exact .int n
theorem Jg8:Zv K C (JbQ K) Zp:=by
 intro Hs H0 H xs as c Q i hs r e q;unfold Zp at e;split at e
 ·obtain⟨v,rfl,r0⟩:=r.one;obtain⟨ds,e1,e⟩:=bind_some e;obtain⟨ns,e2,e⟩:=bind_some e;split at e
  ·next hn=>cases e;obtain⟨l,ys,rfl,h,r1⟩:=r0.r i e1;rw[Y9 e2] at r1;have:=r1.ints;subst this;exact⟨l,ns,rfl,h,hn,fun p hp=>Ud i hs hp (Jc6 _) q⟩
  ·cases e
 ·cases e
end
end LE

namespace PySem
namespace F
end F
section
variable{prog:Program}{w:World}{A:Around}{E:Value->Shared->Prop}{s:Shared}{l:Addr}{lo hi:Int}{t u v:Tok}
end
end PySem
namespace L2
open PySem PySem.Spec PyProof.Rows
end L2
namespace LE
open PySem L2 LR
section
variable{K:Frag}{C:Addr}{m:Bool}
end
end LE

namespace PySem
namespace F
end F
structure ZB (z TI TO i1 i2 i3:Addr) (p1 p2 p3:List Addr):Prop where
 a1:TI≠z
 a2:TO≠z
 a3:TI≠TO
 m1:i1∈p1
 m2:i2∈p2
 m3:i3∈p3
 z1:z∉p1
 z2:z∉p2
 z3:z∉p3
 t1:TI∉p1
 t2:TI∉p2
 t3:TI∉p3
 o1:TO∉p1
 o2:TO∉p2
 o3:TO∉p3
 x12:i1∉p2
 x13:i1∉p3
 x21:i2∉p1
 x23:i2∉p3
 x31:i3∉p1
 x32:i3∉p2
section
variable{prog:Program}{w:World}{A:Around}{E:Value->Shared->Prop}{s:Shared}{z TI TO i1 i2 i3:Addr}{p1 p2 p3:List Addr}{n1 n2 n3 k:Nat}{P1 P2 P3:Nat->Value->Prop}{S1 S2 S3:Nat->Heap->Prop}
end
end PySem

namespace PySem
section
variable{prog:Program}{w:World}{A:Around}{E:Value->Shared->Prop}{s:Shared}{b1 b2 b3:Bool}{a1 a2 a3:Addr}{xs ys zs:Array Value}
end
end PySem
namespace L2
open PySem PySem.Spec PyProof.Rows
end L2
namespace LE
open PySem L2 LR
section
variable{K:Frag}{C:Addr}{m:Bool}
end
end LE

namespace L2
open PySem PySem.Spec PyProof.Rows
section
variable{X:Cx}
end
end L2
namespace LE
open PySem L2 LR
section
variable{K:Frag}{C:Addr}
end
end LE

namespace PySem

section
variable{prog:Program}{w:World}{A:Around}{R:Result->Shared->Prop}{I:Addr}{fp wr:List Addr}{n:Nat}{P:Nat->Value->Prop}{St:Nat->Heap->Prop}
end
section
variable{prog:Program}{w:World}{A:Around}{E:Value->Shared->Prop}{s:Shared}{l:Addr}{xs:Array (Int×Tok)}
end

section
variable{prog:Program}{w:World}{A:Around}{R:Result->Shared->Prop}{I:Addr}{fp wr:List Addr}{n:Nat}{P:Nat->Value->Prop}{St:Nat->Heap->Prop}
end
section
variable{prog:Program}{w:World}{A:Around}{E:Value->Shared->Prop}{s:Shared}{l:Addr}{xs:Array (Int×Tok)}
end

end PySem

namespace L2
open PySem PySem.Spec PyProof.Rows

section
variable{X:Cx}
end
section
variable{X:Cx}
end
end L2
namespace LE
open PySem L2 LR

end LE

namespace LE
open PySem L2 LR

noncomputable def look{α:Type}:List Int->List α->Int->Option α
 | k::ks,d::ds,n=>if k=n then some d else look ks ds n
 | _,_,_=>none
noncomputable def Zi(ks:List Int)(n:Int):Bool:=ks.any fun k=>decide (k=n)
noncomputable def Yv(ks:List Int)(n:Int):List Int:=if Zi ks n=true then ks else ks++[n]
noncomputable def setK{α:Type}:List Int->List α->Int->α->List α
 | k::ks,d::ds,n,v=>(if k=n then v else d)::setK ks ds n v
 | _,ds,_,_=>ds
noncomputable def putDs{α:Type}(ks:List Int)(ds:List α)(n:Int)(v:α):List α:=if Zi ks n=true then setK ks ds n v else ds++[v]
theorem Jdd{α:Type}(n:Int)(v:α):∀(ks:List Int) (ds:List α),(setK ks ds n v).length=ds.length
 | [],_=>rfl
 | _::_,[]=>rfl
 | _::ks,_::ds=>by simp[setK,Jdd n v ks ds]
theorem Jbb{α:Type}(ks:List Int)(ds:List α)(n:Int)(v:α)(h:ks.length=ds.length):(Yv ks n).length=(putDs ks ds n v).length:=by unfold Yv putDs;split <;> simp[Jdd,h]
theorem U7:∀(ks:List Int) (xs:List V) (n:Int),UG ((ks.map Sum.inl:List Key).zip xs) (Sum.inl n)=look ks xs n
 | [],_,_=>rfl
 | _::_,[],_=>rfl
 | k::ks,x::xs,n=>by
  show UG (((Sum.inl k:Key),x)::(ks.map Sum.inl:List Key).zip xs) (Sum.inl n)=_
  by_cases h:k=n
  ·rw[WN (by rw[h]),look,if_pos h]
  ·rw[WM (fun e=>h (M9 e)),look,if_neg h];exact U7 ks xs n
theorem Jcd:∀(ks:List Int) (xs:List V) (n:Int),ks.length=xs.length->(((ks.map Sum.inl:List Key).zip xs).any fun kv=>decide (kv.1=(Sum.inl n:Key)))=Zi ks n
 | [],_,_,_=>rfl
 | _::_,[],_,h=>by simp at h
 | k::ks,x::xs,n,h=>by
  show(decide ((Sum.inl k:Key)=Sum.inl n) || ((ks.map Sum.inl:List Key).zip xs).any _)=(decide (k=n) || ks.any _)
  rw[Jcd ks xs n (by simpa using h)];congr 1
  by_cases e:k=n
  ·subst e;simp
  ·rw[decide_eq_false e,decide_eq_false fun z=>e (M9 z)]
theorem JcI:∀(ks:List Int) (xs:List V) (n:Int) (v:V),ks.length=xs.length->(((ks.map Sum.inl:List Key).zip xs).map fun kv=>if kv.1=(Sum.inl n:Key) then(kv.1,v) else kv)=(ks.map Sum.inl:List Key).zip (setK ks xs n v)
 | [],_,_,_,_=>rfl
 | _::_,[],_,_,h=>by simp at h
 | k::ks,x::xs,n,v,h=>by
  show(if (Sum.inl k:Key)=Sum.inl n then((Sum.inl k:Key),v) else(Sum.inl k,x))::((ks.map Sum.inl:List Key).zip xs).map _=(Sum.inl k,if k=n then v else x)::(ks.map Sum.inl:List Key).zip (setK ks xs n v);rw[JcI ks xs n v (by simpa using h)];congr 1
  by_cases e:k=n
  ·subst e;simp
  ·rw[if_neg e,if_neg fun z=>e (M9 z)]
theorem Jis(ks:List Int)(xs:List V)(n:Int)(v:V)(h:ks.length=xs.length):(HO.dK (U4 ((ks.map Sum.inl:List Key).zip xs) (Sum.inl n) v))=dkO (Yv ks n) (putDs ks xs n v):=by
 unfold dkO U4 Yv putDs;rw[Jcd ks xs n h];split
 ·rw[JcI ks xs n v h]
 ·rw[Gd,M3 (by simpa using h)];rfl
section
variable{K:Frag}{C:Addr}{Hs H0 H:Hp}
theorem RDL.look:∀{ks:List Int} {xs:List V} {ds:List D} {n:Int},RDL K C H xs ds->(LE.look ks xs n=none/\LE.look ks ds n=none)\/∃x d,LE.look ks xs n=some x/\LE.look ks ds n=some d/\RD K C H x d
 | [],_,_,_,_=>.inl ⟨rfl,rfl⟩
 | _::_,[],[],_,_=>.inl ⟨rfl,rfl⟩
 | _::_,[],_::_,_,h=>by have:=h.1;simp at this
 | _::_,_::_,[],_,h=>by have:=h.1;simp at this
 | k::ks,x::xs,d::ds,n,h=>by
  simp only[LE.look]
  by_cases e:k=n
  ·rw[if_pos e,if_pos e];exact .inr ⟨x,d,rfl,rfl,h.head⟩
  ·rw[if_neg e,if_neg e];exact RDL.look h.tail
theorem RDL.setK{n:Int}{v:V}{e:D}(r:RD K C H v e):∀{ks:List Int} {xs:List V} {ds:List D},RDL K C H xs ds->RDL K C H (LE.setK ks xs n v) (LE.setK ks ds n e)
 | [],_,_,h=>h
 | _::_,[],[],_=>.nil
 | _::_,[],_::_,h=>by have:=h.1;simp at this
 | _::_,_::_,[],h=>by have:=h.1;simp at this
 | k::ks,x::xs,d::ds,h=>by
  simp only[LE.setK];refine .cons ?_ (RDL.setK r h.tail);split
  ·exact r
  ·exact h.head
theorem RDL.putDs{n:Int}{v:V}{e:D}{ks:List Int}{xs:List V}{ds:List D}(h:RDL K C H xs ds)(r:RD K C H v e):RDL K C H (LE.putDs ks xs n v) (LE.putDs ks ds n e):=by
 unfold LE.putDs;split
 ·exact RDL.setK r h
 ·exact h.snoc r
theorem Jnn{p:Addr}{ks:List Int}{xs:List V}{ds:List D}{Q:VK}(i:Same H0 H)(hs:Same Hs H)(hp:H p=none)(hk:ks.length=ds.length)(r:RDL K C H0 xs ds)(q:∀v H0' H',Step Hs H0 H H0' H'->RR K C Hs H0' H' v (.od ks ds)->Q v H'):Q (.ref p) (upd H p (dkO ks xs)) :=
 q _ H0 _ ⟨.new hp,Same.refl _,fun _ _ e=>.inl e,i.trans (.new hp)⟩ ⟨p,xs,rfl,Jt,Same.free i hp,Same.free hs hp,hk,r⟩
end
noncomputable def Sl.dk:Sl->Option (List Int×List D)
 | .sh (.dct ks ds)=>some (ks,ds)
 | .sh (.dfz ks ds)=>some (ks,ds)
 | .bd ks ds=>some (ks,ds)
 | .od ks ds=>some (ks,ds)
 | _=>none
noncomputable def int?:Sl->Option Int
 | .sh (.int i)=>some i
 | _=>none
noncomputable def JeO:Ev:=fun _=>some (.od [] [])
noncomputable def Jhn(a k:Ev):Ev:=fun E=>(a E).bind fun s=>s.dk.bind fun p=>((k E).bind int?).bind fun n=>(look p.1 p.2 n).map .sh
noncomputable def Jbu(a k x:Ev):Ev:=fun E=>(a E).bind fun s=>s.dk.bind fun p=>((k E).bind int?).bind fun n=>((x E).bind sh?).bind fun d=>some (.sh ((look p.1 p.2 n).getD d))
noncomputable def Jdq(i:Nat)(k a:Ev):Es:=fun E=>match E[i]? with
 | some (.od ks ds)=>(a E).bind fun s=>s.frz.bind fun d=>((k E).bind int?).bind fun n=>if ks.length<sizeLine then some (.nx (E.set i (.od (Yv ks n) (putDs ks ds n d)))) else none
 | _=>none
section
variable{K:Frag}{C:Addr}{Hs H0 H:Hp}{td ty tx te:TE}{ed ek ex ea:Ev}
theorem U1{s:Sl}{n:Int}(e:int? s=some n):s=.sh (.int n):=by
 cases s with
 | sh d=>cases d with
  | int i=>cases e;rfl
  | _=>cases e
 | _=>cases e
theorem RR.dk{v:V}{s:Sl}{p:List Int×List D}(r:RR K C Hs H0 H v s)(i:Same H0 H)(e:s.dk=some p):∃l xs,v=.ref l/\Rd H l (dkO p.1 xs)/\p.1.length=p.2.length/\RDL K C H0 xs p.2:=by
 cases s with
 | bd ks ds=>cases e;obtain⟨l,xs,h1,h2,h3⟩:=r;exact⟨l,xs,h1,.inl h2,h3⟩
 | od ks ds=>cases e;obtain⟨l,xs,h1,h2,_,_,h3⟩:=r;exact⟨l,xs,h1,.inl h2,h3⟩
 | bt _ _=>cases e
 | ot _ _=>cases e
 | sh d=>cases d with
  | dct ks ds=>cases e;obtain⟨l,xs,h1,h2,h3⟩:=RD.dctI r;exact⟨l,xs,h1,.inl (i _ _ h2),h3⟩
  | dfz ks ds=>cases e;obtain⟨l,xs,o,h1,h2,h3⟩:=RD.dfzI r;exact⟨l,xs,h1,.inr ⟨o,i _ _ h2⟩,h3⟩
  | _=>cases e
 | _=>cases e
theorem Jo2{l:Addr}{ks:List Int}{xs:List V}{n:Int}(h:Rd H l (dkO ks xs)):DGet H l (.int n) (look ks xs n):=.inl ⟨_,Sum.inl n,h,rfl,(U7 ks xs n).symm⟩
theorem JiK:SE K C Ji0 JeO:=by intro B H0 H σ E r Q I e q;cases e;intro p hp;exact Jnn (ks:=[]) (xs:=[]) (Hs:=H) I.h (Same.refl _) hp rfl .nil q
theorem Jma(ha:SE K C td ed)(hk:SE K C ty ek):SE K C (Jmf td ty) (Jhn ed ek):=by
 intro B H0 H σ E r Q I e q;obtain⟨s,e1,e⟩:=bind_some e;obtain⟨p,e2,e⟩:=bind_some e;obtain⟨n,e3,e⟩:=bind_some e;obtain⟨t,e3,e4⟩:=bind_some e3;obtain rfl:=U1 e4;obtain⟨d,e5,rfl⟩:=map_some e;refine ha B H0 H σ E s _ I e1 fun x H1 H1' s1 r1=>hk B H1 H1' σ E _ _ (I.step s1) e3 fun y H2 H2' s2 r2=>?_
 obtain⟨l,xs,rfl,h,_,rl⟩:=(r1.step s2).dk s2.i e2;rw[RD.intI r2];rcases RDL.look (ks:=p.1) (n:=n) rl with ⟨_,z⟩|⟨v,d',z1,z2,z3⟩
 ·rw[z] at e5;cases e5
 ·rw[z2] at e5;cases e5;exact⟨l,v,rfl,z1▸Jo2 h,q _ _ _ (s1.trans s2) z3⟩
theorem Jli(ha:SE K C td ed)(hk:SE K C ty ek)(hx:SE K C tx ex):SE K C (JiZ td ty tx) (Jbu ed ek ex):=by
 intro B H0 H σ E r Q I e q;obtain⟨s,e1,e⟩:=bind_some e;obtain⟨p,e2,e⟩:=bind_some e;obtain⟨n,e3,e⟩:=bind_some e;obtain⟨t,e3,e4⟩:=bind_some e3;obtain rfl:=U1 e4;obtain⟨d,e5,e⟩:=bind_some e;obtain⟨t',e5,e6⟩:=bind_some e5;obtain rfl:=Zu e6;cases e;refine ha B H0 H σ E s _ I e1 fun x H1 H1' s1 r1=>?_
 obtain⟨l0,xs0,rfl,h0,_,_⟩:=r1.dk s1.i e2;refine⟨l0,rfl,.inl ⟨_,h0⟩,hk B H1 H1' σ E _ _ (I.step s1) e3 fun y H2 H2' s2 r2=>hx B H2 H2' σ E _ _ ((I.step s1).step s2) e5 fun z H3 H3' s3 r3=>?_⟩;obtain⟨l,xs,hl,h,_,rl⟩:=((r1.step s2).step s3).dk s3.i e2;cases hl;rw[RD.intI r2];refine⟨_,Jo2 h,q _ _ _ ((s1.trans s2).trans s3) ?_⟩;rcases RDL.look (ks:=p.1) (n:=n) rl with ⟨z1,z2⟩|⟨v,d',z1,z2,z3⟩
 ·rw[z1,z2];exact r3
 ·rw[z1,z2];exact z3
theorem JoI{i:Nat}(ha:SE K C te ea)(hk:SE K C ty ek):SS K C (Jl9 (Zl i) ty te) (Jdq i ek ea):=by
 intro B H0 H σ E o D I e f;unfold Jdq at e;split at e
 ·next ks ds h =>
  obtain⟨s,e1,e⟩:=bind_some e;obtain⟨d,e2,e⟩:=bind_some e;obtain⟨n,e3,e⟩:=bind_some e;obtain⟨t,e3,e4⟩:=bind_some e3;obtain rfl:=U1 e4;split at e
  ·next hz =>
   cases e;obtain⟨l,xs,g1,g2,g3,g4,gk,g5⟩:=I.slotD h;refine ha B H0 H σ E _ _ I e1 fun v H1 H1' s1 r1=>?_
   have s2:Step H H0 H (JX H H1 H1') H1':=s1.comp (JL s1.i) fun _ z=>z
   have rv:=RR.frz s1.i r1 e2;refine⟨_,g1,?_⟩;refine hk B _ H1' σ E _ _ (I.step s2) e3 fun w H3 H3' s3 r3=>?_
   have s4:=s2.trans s3
   have hx:ks.length=xs.length:=gk.trans g5.1.symm;obtain⟨_,n0,nB⟩:=(I.step s4).ownG h rfl g1
   have rr:=(g5.mono s4.z).putDs (ks:=ks) (n:=n) (rv.mono s3.z)
   have m:=(I.step s4).mutG (t':=.od (Yv ks n) (putDs ks ds n d)) (o':=dkO (Yv ks n) (putDs ks xs n v)) h rfl rfl g1 ⟨l,_,rfl,Jt,n0,nB,Jbb _ _ _ _ gk,rr⟩;rw[RD.intI r3];refine⟨l,_,rfl,.inl ⟨_,Sum.inl n,s4.h _ _ g2,rfl,?_,rfl⟩,?_⟩
   ·rw[KW,Qo,<- hx,MV];exact hz
   ·rw[Jis ks xs n v hx];exact f _ _ _ ⟨m.b,s4.z,(s4.ss I.b).n,m.h⟩ m
  ·cases e
 ·cases e
end

noncomputable def Jj9(x y:Sl):Option Sl:=x.m.bind fun ds=>(int? y).bind fun k=>if JdU k=true/\ds.length*k.toNat<=sizeLine then some (.own (Qw k.toNat ds).flatten) else none
section
variable{K:Frag}{C:Addr}{H:Hp}
theorem RDL.rep{xs:List V}{ds:List D}(r:RDL K C H xs ds):∀k:Nat,RDL K C H (Qw k xs).flatten (Qw k ds).flatten
 | 0=>.nil
 | k+1=>by rw[GD,GD,G1,G1];exact r.append (RDL.rep r k)
theorem JpB:OpS K C JpN Jj9:=by
 intro Hs H0 H x y a b c Q i hs ra rb e q;obtain⟨ds,e1,e⟩:=bind_some e;obtain⟨k,e2,e3⟩:=bind_some e;have hb:=U1 e2;subst hb;split at e3
 ·next hz=>cases e3;obtain⟨l,us,rfl,h1,r1⟩:=ra.m i e1;obtain⟨b1,b2⟩:=JbF hz.1;exact⟨l,k,us,rfl,RD.intI rb,h1,by omega,by omega,by rw[r1.1];exact hz.2,fun p hp=>Ud i hs hp (r1.rep k.toNat) q⟩
 ·cases e3
end
theorem Jhz{d:D}{s:Sl}{k:Int}(e:s.m=some [d])(h1:JdU k=true)(h2:k.toNat<=16777216):Jj9 s (.sh (.int k))=some (.own (Qw k.toNat d)):=by
 unfold Jj9;rw[e,QG];show(some k).bind _=_;rw[QG,if_pos ⟨h1,by rw[GH,Nat.one_mul];exact h2⟩];congr 2
 generalize k.toNat=n
 induction n with
 | zero=>rfl
 | succ n ih=>rw[GD,G1,ih];rfl
end LE

namespace L2
open PySem PySem.Spec PyProof.Rows
theorem KV.get{κ:Type}:∀{kvs:List (κ×V)} {vs:List (κ×Value)} {i:Nat} {p:κ×V},KV kvs vs->kvs[i]?=some p->∃u,vs[i]?=some (p.1,u)/\RelV p.2 u
 | _,_,0,p,.cons h _,e=>by simp at e;subst e;obtain⟨h1,h2⟩:=h;rename_i q _ _;exact⟨_,by simp;exact Prod.ext h1.symm rfl,h2⟩
 | _,_,i+1,p,.cons _ t,e=>by obtain⟨u,h1,h2⟩:=KV.get (i:=i) t (by simpa using e);exact⟨u,by simpa using h1,h2⟩
 | _,_,_,_,.nil,e=>by simp at e
end L2
namespace LE
open PySem L2 LR
noncomputable def Jph:List Int->List D->List D:=List.zipWith fun k d=>.tup [.int k,d]
section
variable{K:Frag}{C:Addr}{m:Bool}{t:TS}{et:Es}{td:TE}{ed:Ev}
end
end LE

namespace L2
open PySem PySem.Spec PyProof.Rows
noncomputable def Jmi(p a:Addr):HO:=.ext fun h=>Rj h p a
theorem JjD{X:Cx}{pins:List (Addr×Obj)}{σ:St}{H:Hp}{s:Shared}{a:Addr}{kvs:List (Key×V)}(I:Inv X pins σ H s)(h:Rd H a (.dK kvs)) :
 ∃vs ep,KV kvs vs/\s.heap.DictAt (JW X.prog X.w) a vs ep/\(a == sysModules)=false/\kvs.length<=sizeLine:=by
 obtain⟨z,y,vs,r,ob,es,ep,e1,c⟩:=(show ObjOk X.prog X.w H s.heap a (.dK kvs) from h.ok I.hok)
 exact⟨vs,ep,r,⟨ob,es,e1,c⟩,y,z⟩
noncomputable def Jml(H:Hp)(r a:Addr):Prop:=r=a\/H r=some (Jmi r a)
theorem JiX{X:Cx}{pins:List (Addr×Obj)}{σ:St}{H:Hp}{s:Shared}{r a:Addr}{kvs:List (Key×V)}(I:Inv X pins σ H s)(d:Jml H r a)(h:Rd H a (.dK kvs)) :
 ∃vs T OK,KV kvs vs/\PySem.W.KdlSrc X.prog X.w T r a vs.length (fun i v=>∃k x,vs[i]?=some (k,x)/\(JW X.prog X.w).is k v=true) OK/\OK s.heap/\vs.length<=sizeLine:=by
 obtain⟨vs,ep,rl,dd,y,z⟩:=JjD I h;rw[KV.length rl] at z;rcases d with e|e
 ·subst e;exact⟨vs,_,_,rl,PySem.W.kdl_dict (ep:=ep) y,dd,z⟩
 ·have vw:Rj s.heap r a:=(show ObjOk X.prog X.w H s.heap r (Jmi r a) from I.hok r _ e).1;exact⟨vs,_,_,rl,PySem.W.kdl_keys (ep:=ep),⟨vw,dd⟩,z⟩
theorem ZP{P:Program}{w:World}:∀{ks:List Int} {xs:List V} {vs:List (Key×Value)} {acc:List Value},ks.length=xs.length->KV ((ks.map Sum.inl:List Key).zip xs) vs->acc.length=vs.length ->
 (∀(j:Nat) (v:Value),acc[j]?=some v->∃k x,vs[j]?=some (k,x)/\(JW P w).is k v=true)->IntsAre acc ks
 | [],[],_,acc,_,r,hl,_=>by
  cases r
  cases acc with
  | nil=>exact .nil
  | cons _ _=>simp at hl
 | [],_::_,_,_,h,_,_,_=>by simp at h
 | _::_,[],_,_,h,_,_,_=>by simp at h
 | k::ks,x::xs,vs,acc,h,r,hl,hv=>by
  cases r with
  | cons r1 r2 =>
   cases acc with
   | nil=>simp at hl
   | cons u acc =>
    obtain⟨k',x',e1,e2⟩:=hv 0 u rfl;simp at e1;obtain⟨r1a,r1b⟩:=r1;subst e1;have ek:k'=Sum.inl k:=r1a.symm;subst ek;rcases J6 (show ZT (Sum.inl k) u=true from e2) with ⟨i,t,e,rfl⟩|⟨y,t,e,_⟩
    ·cases e;exact .cons k t (ZP (by simpa using h) r2 (by simpa using hl) fun j v e=>hv (j+1) v (by simpa using e))
    ·cases e
section
variable{prog:Program}{w:World}{A:Around}{E:Value->Shared->Prop}{s:Shared}{T:String}{r d:Addr}{n:Nat}{P:Nat->Value->Prop}{OK:Heap->Prop}
theorem Jco{R:List Value->Shared->Prop}(K:PySem.W.KdlSrc prog w T r d n P OK)(hh:A.handled=none)(hok:OK s.heap)(hn:n<=sizeLine)
 (h:∀(h':Heap) (tk:Nat) (acc:Array Value),(∀b o,s.heap.get? b=some o->h'.get? b=some o)->s.heap.objs.size<h'.objs.size->ItemsOf P acc n->R acc.toList { s with heap:=h',toks:=tk }):wpAny (model prog w) A (collect (.ref r)) R E s:=by
 obtain⟨k1,k2⟩:=K.there _ hok;have old:∀b o,s.heap.get? b=some o->(s.heap.push { cls:=.type "list",data:=.seq ([]:List Value).toArray }).get? b=some o:=fun b o e=>Qe _ e
 unfold collect;refine Qa (Re (GN entry_proto_collect' ?_));rw[Go L4 _];show wpAny _ A.in1 (newList [] >>= fun l=>again (.builtin "list.__iadd__" ⟨[l,.ref r],[]⟩)) _ _ s;refine Qa (QP (Qd ⟨Ka KH _,GN entry_list_iadd' ?_⟩));rw[Go KH _];have at0:(s.heap.push { cls:=.type "list",data:=.seq ([]:List Value).toArray }).get? s.heap.objs.size=some { cls:=.type "list",data:=.seq #[] }:=Qk _ rfl
 have fin:∀(h':Heap) (tk:Nat) (acc:Array Value) (c:Nat),(∀b o,s.heap.get? b=some o->h'.get? b=some o)->h'.get? s.heap.objs.size=some { cls:=.type "list",dict:=none,data:=.seq acc c,slots:=#[] }->ItemsOf P acc n ->
  wpAny (model prog w) A (load s.heap.objs.size >>= fun o=>match o.data with | .seq xs _=>pure xs.toList | _=>unsupported "internal:collect") R E { s with heap:=h',toks:=tk }:=fun h' tk acc c hk hS hi=>Qa (wpAny_load hS (Qd (h h' tk acc hk (Qj hS) hi)))
 have got:=PySem.W.kdl_extend (A:=A) (s:={ s with heap:=s.heap.push { cls:=.type "list",data:=.seq ([]:List Value).toArray } }) (R:=fun q s'=>∃h' tk acc c,q=.ok (.ret (.ref s.heap.objs.size))/\s'={ s with heap:=h',toks:=tk }/\(∀b o,s.heap.get? b=some o->h'.get? b=some o)/\h'.get? s.heap.objs.size=some { cls:=.type "list",dict:=none,data:=.seq acc c,slots:=#[] }/\ItemsOf P acc n) K hh (K.keep _ _ hok fun b _ o e=>old b o e) s.heap.objs.size (QO k1) (QO k2) (.ref s.heap.objs.size) 0 at0 (fun h' tk acc c hk hS hi=>⟨h',tk,acc,c,rfl,rfl,fun b o e=>hk b o (Qr (Qj e)) (old b o e),hS,hi⟩) hn
 refine GC got (fun f s' x=>?_) fun e s' ⟨_,_,_,_,z,_⟩=>nomatch z
 cases f with
 | done f=>obtain⟨h',tk,acc,c,e,rfl,hk,hS,hi⟩:=x;cases e;exact fin h' tk acc c hk hS hi
 | again c1=>exact⟨x.1,G8 x.2 fun q s2 ⟨h',tk,acc,c,e1,e2,hk,hS,hi⟩=>by subst e1;subst e2;exact fin h' tk acc c hk hS hi⟩
end
noncomputable def JiA:List V->Hp->VK->Prop:=fun xs H Q=>∃r a ks vs,xs=[.ref r]/\Jml H r a/\Rd H a (.dK ((ks.map Sum.inl:List Key).zip vs))/\ks.length=vs.length/\ks.length<64/\∀l,H l=none->Q (.ref l) (upd H l (.lst ((JZ ks).map V.int)))
theorem JdH{X:Cx}(hc:X.calm=true):CallR X (.builtin "sorted") JiA:=by
 intro pins s σ H xs us Q I r h;obtain⟨p,a,ks,vs0,rfl,ds,hq,hlk,h64,q⟩:=h;obtain⟨u,rfl,rx⟩:=WO r;cases rx;obtain⟨vs,T,OK,rl,K,ok,hz⟩:=JiX I ds hq;have hh:X.A.in1.handled=none:=I.ok.hd hc
 have hl:vs.length=ks.length:=by have:=KV.length rl;rw[KW,Qo,<- hlk,MV] at this;exact this.symm
 refine Ml kind_sorted plain_sorted entry_sorted (args_sorted1 _) ?_;unfold Builtin.«sorted»;refine Qa (m:=checkCount "sorted" 1 1 _) (Qd ?_);refine Qa (Jco K hh ok hz fun h' tk acc hk hsz items=>?_);have hI:IntsAre acc.toList ks:=ZP (P:=X.prog) (w:=X.w) hlk rl (by rw[QF,items.1]) fun j v e=>items.2 j v (by rw[<- GJ];exact e)
 have hal:acc.toList.length=ks.length:=by rw[QF,items.1,hl]
 refine Qa (wpAny_newList ?_ (by rw[hal];show ks.length<=16777216;omega));have hoL:(h'.push (seqObj "list" acc.toList.toArray 0)).get? h'.objs.size=some (seqObj "list" acc.toList.toArray 0):=Qk _ rfl;refine Qa (Gj (QN slot_list_sort ⟨_,hoL,rfl⟩ entry_list_sort (list_sort_tree hoL hI (by rw[hal];exact h64) fun out ns' a1 a2 a3=>⟨_,rfl,?_⟩) (args_list_sort _)));refine Qd ⟨_,rfl,?_⟩;have es:ns'=JZ ks:=VV (a2.trans (Jw ks).symm) a3 (UE ks)
 subst es;obtain⟨e,he⟩:=sortedHeap_at (out:=out) hoL;have hle:s.heap.objs.size<=h'.objs.size:=GM hsz;have hne:H h'.objs.size=none:=I.hok.fresh hle;have hn:((JZ ks).map V.int).length<=sizeLine:=by rw[Qo,(Jw ks).length_eq];show ks.length<=16777216;omega
 refine⟨.ref h'.objs.size,_,I.laid (t':=tk) (fun b o x=>?_) hle (show ObjOk X.prog X.w _ _ _ (.lst ((JZ ks).map V.int)) from⟨hn,out.toList,e,Ut a1,?_⟩),rfl,q _ hne⟩
 ·have hx:=hk b o x
  have hlt:b<h'.objs.size:=Qj hx;rw[sortedHeap_old (Qr hlt) (by rw[size_push'];exact Gk hlt)];exact Qe _ hx
 ·rw[he]
noncomputable def Jix:List V->Hp->VK->Prop:=fun xs H Q=>∃(r a:Addr) (ks:List Int) (vs:List V),xs=[.ref r]/\Jml H r a/\Rd H a (.dK ((ks.map Sum.inl:List Key).zip vs))/\ks.length=vs.length/\∀l,H l=none->Q (.ref l) (upd H l (.lst (ks.map V.int)))
theorem JdE{X:Cx}(hc:X.calm=true):CallR X (.type "list") Jix:=by
 intro pins s σ H xs us Q I r h;obtain⟨p,a,ks,vs0,rfl,ds,hq,hlk,q⟩:=h;obtain⟨u,rfl,rx⟩:=WO r;cases rx;obtain⟨vs,T,OK,rl,K,ok,hz⟩:=JiX I ds hq;have hh:X.A.handled=none:=I.ok.hd hc
 have hl:vs.length=ks.length:=by have:=KV.length rl;rw[KW,Qo,<- hlk,MV] at this;exact this.symm
 refine PySem.W.kdl_call K hh ok hz fun h' tk acc c' hk hS items=>?_
 have hI:IntsAre acc.toList ks:=ZP (P:=X.prog) (w:=X.w) hlk rl (by rw[QF,items.1]) fun j v e=>items.2 j v (by rw[<- GJ];exact e)
 have hne:H s.heap.objs.size=none:=I.hok.fresh (Qn _);refine⟨.ref s.heap.objs.size,_,I.laid (t':=tk) hk (Qn _) (show ObjOk X.prog X.w _ _ _ (.lst (ks.map V.int)) from⟨by rw[Qo,<- hl];exact hz,acc.toList,c',Ut hI,?_⟩),rfl,q _ hne⟩;rw[hS]
end L2
namespace LE
open PySem L2 LR
noncomputable def JdL(a:Ev):Ev:=fun E=>(a E).bind fun s=>s.dk.bind fun p=>if p.1.length<64 then some (.own ((JZ p.1).map .int)) else none
noncomputable def JdK(a:Ev):Ev:=fun E=>(a E).bind fun s=>s.dk.bind fun p=>some (.own (p.1.map .int))
section
variable{K:Frag}{C:Addr}{td:TE}{ed:Ev}
theorem Rd.put{H:Hp}{l p:Addr}{o u:HO}(h:Rd H l o)(hp:H p=none):Rd (upd H p u) l o:=by
 rcases h with h|⟨ob,h⟩
 ·exact .inl (by rw[Ji (Jq h hp)];exact h)
 ·exact .inr ⟨ob,by rw[Ji (Jq h hp)];exact h⟩
theorem Jln(ha:SE K C td ed):SE K C (tCB JiA (YE td UV)) (JdL ed):=by
 intro B H0 H σ E r Q I e q;obtain⟨s,e1,e⟩:=bind_some e;obtain⟨p,e2,e⟩:=bind_some e;split at e
 ·next h64 =>
  cases e;refine ha B H0 H σ E s _ I e1 fun x H1 H1' s1 r1=>?_
  obtain⟨l,xs,rfl,h,hk,rl⟩:=r1.dk s1.i e2;exact⟨l,l,p.1,xs,rfl,.inl rfl,h,by rw[hk,rl.1],h64,fun z hz=>Ud s1.i s1.h hz (RDL.ofInts _) fun v H2 H2' s2 r2=>q v H2 H2' (s1.comp s2 fun _ y=>y) r2⟩
 ·cases e
theorem Jlm(ha:SE K C td ed):SE K C (tCB Jix (YE td UV)) (JdK ed):=by
 intro B H0 H σ E r Q I e q;obtain⟨s,e1,e⟩:=bind_some e;obtain⟨p,e2,e⟩:=bind_some e;cases e;refine ha B H0 H σ E s _ I e1 fun x H1 H1' s1 r1=>?_
 obtain⟨l,xs,rfl,h,hk,rl⟩:=r1.dk s1.i e2;exact⟨l,l,p.1,xs,rfl,.inl rfl,h,by rw[hk,rl.1],fun z hz=>Ud s1.i s1.h hz (RDL.ofInts _) fun v H2 H2' s2 r2=>q v H2 H2' (s1.comp s2 fun _ y=>y) r2⟩
end
end LE

namespace L2
open PySem PySem.Spec PyProof.Rows
theorem Inv.more{X:Cx}{pins:List (Addr×Obj)}{σ:St}{H H':Hp}{s:Shared}{h':Heap}{t':Nat}(I:Inv X pins σ H s)(k:∀b u,s.heap.get? b=some u->h'.get? b=some u)(hx:∀b,b<s.heap.objs.size->H' b=H b)
 (new:∀b o,s.heap.objs.size<=b->H' b=some o->ObjOk X.prog X.w H' h' b o):Inv X pins σ H' { s with heap:=h',toks:=t' }:=by
 have old:∀b o,H b=some o->H' b=some o:=fun b o e=>by rw[hx b (I.hok.lt e)];exact e
 refine I.un ⟨fun b u q _ _ _=>k b u q,fun b u q _ _ _=>⟨u.slots,k b u q⟩,fun b u q n _=>by rw[hx b (Qj q)];exact n,fun b u q _=>⟨u,k b u q⟩,fun b xs q=>old b _ q,fun b u xs q=>old b _ q,fun b ps q=>⟨#[],by rw[old b _ q];simp⟩⟩ fun b o e=>?_
 rcases MW b s.heap.objs.size with z|z
 ·rw[hx b z] at e;exact(I.hok b o e).stay (fun c u _ q=>k c u q) (fun c q=>old c _ q) fun c xs q=>old c _ q
 ·exact new b o z e
end L2
namespace LE
open PySem L2 LR
section
variable{K:Frag}{C:Addr}{td:TE}{ed:Ev}
theorem RDL.items:∀{ks:List Int} {xs:List V} {ds:List D} {as:List Addr} {H:Hp},ks.length=ds.length->as.length=ks.length->(∀(j:Nat) (a:Addr) (k:Int) (x:V),as[j]?=some a->ks[j]?=some k->xs[j]?=some x->H a=some (.tup [.int k,x]))->RDL K C H xs ds->RDL K C H (as.map V.ref) (Jph ks ds)
 | [],[],[],[],_,_,_,_,_=>.nil
 | [],_,_,a::as,_,_,h,_,_=>by simp at h
 | [],_,d::ds,_,_,h,_,_,_=>by simp at h
 | k::ks,_,[],_,_,h,_,_,_=>by simp at h
 | k::ks,_,_,[],_,_,h,_,_=>by simp at h
 | [],x::xs,[],[],_,_,_,_,h=>by have:=h.1;simp at this
 | k::ks,[],d::ds,a::as,_,_,_,_,h=>by have:=h.1;simp at this
 | k::ks,x::xs,d::ds,a::as,H,h1,h2,h3,h4=>by show RDL K C H (V.ref a::as.map V.ref) (.tup [.int k,d]::Jph ks ds);refine .cons (.mkT (.of (h3 0 a k x rfl rfl rfl)) (.cons (.int k) (.cons h4.head .nil))) (RDL.items (by simpa using h1) (by simpa using h2) (fun j a k x e1 e2 e3=>h3 (j+1) a k x (by simpa using e1) (by simpa using e2) (by simpa using e3)) h4.tail)
end
end LE

namespace L2
open PySem PySem.Spec PyProof.Rows
noncomputable def wo:List Addr->Heap->Heap
 | [],h=>h
 | a::l,h=>(wo l h).update a fun _=>{ cls:=.none,data:=.freed }
theorem JgT(h:Heap)(a:Addr):(h.update a fun _=>{ cls:=.none,data:=.freed }).get? a=none:=by
 cases q:(h.update a fun _=>({ cls:=.none,data:=.freed }:Obj)).get? a with
 | none=>rfl
 | some o =>
  obtain⟨e,f⟩:=Heap.get?_some_iff.mp q;obtain⟨os,l⟩:=h;simp only[Heap.update,Array.getElem?_modify,if_true] at e
  cases z:os[a]? with
  | none=>rw[z] at e;cases e
  | some u=>rw[z] at e;cases e;cases f
theorem JfR{h:Heap}{b:Addr}:∀{l:List Addr},b∈l->(wo l h).get? b=none
 | [],hb=>nomatch hb
 | a::l,hb=>by
  unfold wo
  by_cases e:a=b
  ·subst e;exact JgT _ _
  ·rw[QM _ _ e];exact JfR ((Qh.mp hb).resolve_left (QC e))
theorem Jb5{h:Heap}{b:Addr}:∀{l:List Addr},b∉l->(wo l h).get? b=h.get? b
 | [],_=>rfl
 | a::l,hb=>by unfold wo;rw[QM _ _ (fun e=>hb (by rw[e];exact Qf))];exact Jb5 fun z=>hb (Qc _ z)
theorem JeT{h base base':Heap}:∀{l:List Env},h.FunFrames base l->(∀b∈frs l,base'.get? b=none)->h.FunFrames base' l
 | [],_,_=>trivial
 | env::l,⟨hk,⟨L,o,hf,hn,ho,hd⟩,hr⟩,n=>by
  have e:frs (env::l)=L::frs l:=by unfold frs;rw[G6,hf]
  rw[e] at n;exact⟨hk,⟨L,o,hf,n L Qf,ho,hd⟩,JeT hr fun b hb=>n b (Qc _ hb)⟩
theorem Jbw{h base:Heap}{l:List Env}(x:h.FunFrames base l){b:Addr}(hb:b∈frs l):base.get? b=none/\∃o,h.get? b=some o/\∀vs,o.data≠.fields vs:=x.mem hb
theorem ObjOk.there{P:Program}{w:World}{H:Hp}{h:Heap}{a:Addr}{o:HO}(x:ObjOk P w H h a o):∃u,h.get? a=some u:=by
 cases o with
 | lst xs=>obtain⟨_,_,_,_,e⟩:=x;exact⟨_,e⟩
 | tup xs=>obtain⟨_,_,_,p⟩:=x;obtain⟨o,e,_⟩:=p;exact⟨_,e⟩
 | dK kvs=>obtain⟨_,_,_,_,o,_,_,e,_⟩:=x;exact⟨_,e⟩
 | dT kvs=>obtain⟨_,_,_,_,o,_,_,e,_⟩:=x;exact⟨_,e⟩
 | set S n=>obtain⟨o,_,_,_,e,_⟩:=x;exact⟨_,e⟩
 | ins C dx fs=>obtain⟨_,_,_,e,_⟩:=x;exact⟨_,e⟩
 | own y=>obtain⟨_,e⟩:=x;exact⟨_,e⟩
 | xd fs=>obtain⟨_,⟨_,_,_,e,_⟩,_⟩:=x;exact⟨_,e⟩
 | rng lo hi=>obtain⟨_,_,_,e⟩:=x;exact⟨_,e⟩
 | frz ob u=>obtain⟨e,_⟩:=x;exact⟨_,e⟩
 | tbl ps=>exact⟨_,(show h.get? a=some _ from x)⟩
 | met f y=>exact⟨_,(show h.get? a=some _ from x)⟩
 | ext φ=>obtain⟨_,⟨_,e⟩,_⟩:=x;exact⟨_,e⟩

noncomputable def TrD(h base:Heap)(e:Addr)(cls:Value)(dct:Option Addr)(fl:Value):Prop :=
 ∃oe vs T oT ts,h.get? e=some oe/\(oe.cls=cls/\oe.dict=dct)/\oe.data=.fields vs/\vs[1]?=some (.ref T)/\base.get? T=none/\T≠e/\h.get? T=some oT/\oT.data=.fields ts/\ts[3]?=some fl
noncomputable def Fl(base:Heap)(l:List Env)(e:Addr)(cls:Value)(h:Heap):Prop :=
 base.StaysIn h/\base.get? e=none/\h.FunFrames base l/\(TrD h base e cls none .none\/∃oe vs,h.get? e=some oe/\(oe.cls=cls/\oe.dict=none)/\oe.data=.fields vs/\vs[1]?=some .none)
noncomputable def Cov(fs:List Addr)(H':Hp)(h h' base:Heap):Prop:=∀b o,(H' b≠none\/∃u,h.get? b=some u)->b∉fs->h'.get? b=some o->base.get? b=some o
structure XF (P:Program) (w:World) (l:List Env) (H:Hp) (h:Heap) (a:Addr) (cls:Value) (H':Hp) (base h':Heap):Prop where
 un:Un (frs l) [] H H' h h'
 hok:HOk P w H' h'
 fl:Fl base l a cls h'
 cov:Cov (frs l) H' h h' base
 free:H' a=none
 new:h.get? a=none
noncomputable def CX1(P:Program)(w:World):CXT:=fun l H s E e s'=>∃(a:Addr) (cls:Value) (H':Hp) (base:Heap),e=.ref a/\s'.os=s.os/\AllBare s'.gens/\XF P w l H s.heap a cls H' base s'.heap/\E cls (some a) H'
section
variable{P:Program}{w:World}{l:List Env}{H H':Hp}{h h1 h2 base base0:Heap}{a:Addr}{cls:Value}
theorem XF.on(x:XF P w l H h a cls H' base h1)(hf:h.FunFrames base0 l)(hn:∀b∈frs l,H b=none)(k:base.StaysIn h2)(us:h1.UpToSlots h2)(fl:Fl base l a cls h2):XF P w l H h a cls H' base h2:=by
 have ff:∀b∈frs l,∃o,h1.get? b=some o/\∀vs,o.data≠.fields vs:=fun b hb=>(Jbw x.fl.2.2.1 hb).2
 have nfr:∀b u,H' b=some u->b∉frs l:=fun b u e hb=>by obtain⟨_,o,ho,_⟩:=Jbw hf hb;rw[x.un.free b o ho (hn b hb) (by simp)] at e;cases e
 refine⟨⟨fun b o q n hb hx=>?_,fun b o q n hb hx=>?_,x.un.free,fun b o q hx=>?_,x.un.tups,x.un.frzs,x.un.tbls⟩,fun b u e=>?_,fl,fun b o hb hfr q=>?_,x.free,x.new⟩
 ·exact k b o (x.cov b o (.inr ⟨_,q⟩) hb (x.un.keep b o q n hb hx))
 ·obtain⟨sl,e1⟩:=x.un.slot b o q n hb hx;obtain⟨o',e2,nf⟩:=ff b hb;rw[e1] at e2;cases e2;obtain⟨sl',e3⟩:=us b _ e1 nf;exact⟨sl',e3⟩
 ·obtain⟨o',e1⟩:=x.un.there b o q hx
  by_cases hb:b∈frs l
  ·obtain⟨o2,e2,nf⟩:=ff b hb;obtain⟨sl',e3⟩:=us b _ e2 nf;exact⟨_,e3⟩
  ·exact⟨o',k b o' (x.cov b o' (.inr ⟨_,q⟩) hb e1)⟩
 ·refine(x.hok b u e).stay (fun c v hc q=>?_) (fun _ z=>z) fun _ _ z=>z
  have tr:∃u',H' c=some u':=by
   rcases hc with rfl|hc
   ·exact⟨_,e⟩
   ·exact⟨_,hc⟩
  obtain⟨u',e'⟩:=tr;exact k c v (x.cov c v (.inl (by rw[e'];intro z;cases z)) (nfr c u' e') q)
 ·have ex:∃o',h1.get? b=some o':=by
   rcases hb with hb|⟨u,hb⟩
   ·cases e:H' b with
    | none=>exact absurd e hb
    | some u=>exact(x.hok b u e).there
   ·exact x.un.there b u hb (by simp)
  obtain⟨o',e1⟩:=ex;have e2:=x.cov b o' hb hfr e1;have e3:=k b o' e2;rw[q] at e3;cases e3;exact e2
end
theorem JkA(o:Obj)(f:Array Value->Array Value):(o.mapFields f).dict=o.dict:=by obtain⟨c,d,dt,sl⟩:=o;cases dt <;> rfl
section
variable{M:Model}{A:Around}{E:Value->Shared->Prop}{s:Shared}{base:Heap}{env:Env}{outer l:List Env}{L e:Addr}{cls fl:Value}{dct:Option Addr}{Q:Unit->Shared->Prop}
theorem Jhr{oe:Obj}{vs:Array Value}{head:Value}{had:Bool}(hfr:A.frames=some (env::outer))(hl:s.heap.FunFrames base (env::outer))(hf:env.frame=some L)
 (he:s.heap.get? e=some oe) (hkb:base.StaysIn s.heap) (hen:base.get? e=none) (hd:oe.data=.fields vs) (hsz:1<vs.size)
 (h:∀h',base.StaysIn h'->h'.FunFrames base (env::outer)->TrD h' base e oe.cls oe.dict (rawInt L)->s.heap.UpToSlots h'->Q () { s with heap:=h' }) :
 wpAny M A (do let a <- frameOf env;let pl <- entryPlaceOf L had;let b <- Rk head a .none (rawInt L) .none pl;setField (.ref e) 1 b) Q E s:=by
 refine Qa (wpAny_frameOf_fun hfr hl hf fun h₁ hs₁=>Qa (wpAny_entryPlaceOf fun pl hpl=>?_));unfold Rk newFields;refine Qa (QP ?_ (hpl.sizeOk5 _ _ _ _ _))
 have ne:e∉(env::outer).filterMap (·.frame):=fun hm=>by obtain⟨_,o,ho,nf⟩:=hl.mem hm;rw[he] at ho;cases ho;exact nf vs hd
 have e1:h₁.get? e=some oe:=(hs₁.2.1 e ne).trans he
 have b1:base.StaysIn h₁:=fun b o hb=>(hs₁.2.1 b fun hm=>by rw[(hl.mem hm).1] at hb;cases hb).trans (hkb b o hb)
 generalize hot:({ cls:=.type "traceback",dict:=none,data:=.fields ([head,.ref L,.none,rawInt L,.none]++(if pl.isEmpty then Qw 6 Value.none else pl)).toArray }:Obj)=ot
 have hotd:ot.data=.fields ([head,.ref L,.none,rawInt L,.none]++(if pl.isEmpty then Qw 6 Value.none else pl)).toArray:=by rw[<- hot]
 have hotf:ot.isFreed=false:=by rw[<- hot];rfl
 have e2:=Qe (h:=h₁) ot e1;refine GL e2 hd hsz ?_
 have d3:=Q9 hd (·.setIfInBounds 1 (Value.ref h₁.objs.size))
 have e3:=QY (Kb (·.setIfInBounds 1 (Value.ref h₁.objs.size))) e2 (GI d3)
 have tne:h₁.objs.size≠e:=QO (Qj e1)
 have t3:=(QM (h₁.push ot) (Kb (·.setIfInBounds 1 (Value.ref h₁.objs.size))) (QC tne)).trans (Qk h₁ hotf)
 have keep:∀b o,b≠e->h₁.get? b=some o->((h₁.push ot).update e (Kb (·.setIfInBounds 1 (Value.ref h₁.objs.size)))).get? b=some o:=fun b o hb q=>by rw[QM _ _ (QC hb)];exact Qe _ q
 have nrec:∀b o,s.heap.get? b=some o->(∀ws,o.data≠.fields ws)->b≠e:=fun b o hb nf z=>by rw[z,he] at hb;cases hb;exact nf vs hd
 refine h _ (fun b o hb=>keep b o (fun z=>by rw[z,hen] at hb;cases hb) (b1 b o hb)) (hl.of_keeps fun b o hb nf=>?_) ⟨_,_,h₁.objs.size,_,_,e3,⟨K3 _ _,JkA _ _⟩,d3,by simp[hsz],b1.fresh,tne,t3,hotd,by first|(simp;done)|(rcases hpl with rfl|⟨_,_,_,_,_,_,_,rfl⟩ <;> simp)⟩ fun b o hb nf=>?_
 ·obtain⟨sl,hs⟩:=hs₁.2.2 b o hb;exact⟨_,keep b _ (nrec b o hb nf) hs,rfl⟩
 ·obtain⟨sl,hs⟩:=hs₁.2.2 b o hb;exact⟨sl,keep b _ (nrec b o hb nf) hs⟩
theorem Jbx(hkb:base.StaysIn s.heap)(hl:s.heap.FunFrames base l)(ht:TrD s.heap base e cls dct fl)
 (h:∀h',base.StaysIn h'->h'.FunFrames base l->TrD h' base e cls dct .none->s.heap.UpToSlots h'->Q () { s with heap:=h' }):wpAny M A (setFlight (.ref e) none) Q E s:=by
 obtain⟨oe,vs,T,oT,ts,he,hc,hd,h1,nT,hTe,hT,dT,h3⟩:=ht;have sz:3<ts.size:=(GQ.mp h3).1;unfold setFlight;refine Qa (QE he hd h1 ?_);rw[if_pos (show(Value.ref T != Value.none)=true from by simp)];have other:∀b,b≠T->(s.heap.update T (Kb (·.setIfInBounds 3 ((none:Option Addr).elim Value.none fun f=>rawInt f)))).get? b=s.heap.get? b:=fun b hb=>QM _ _ (QC hb)
 have nrec:∀b o,s.heap.get? b=some o->(∀ws,o.data≠.fields ws)->b≠T:=fun b o hb nf z=>by rw[z,hT] at hb;cases hb;exact nf ts dT
 refine GL hT dT sz (h _ (fun b o hb=>(other b fun z=>by rw[z,nT] at hb;cases hb).trans (hkb b o hb)) (hl.of_keeps fun b o hb nf=>⟨o,(other b (nrec b o hb nf)).trans hb,rfl⟩) ?_ fun b o hb nf=>⟨o.slots,(other b (nrec b o hb nf)).trans hb⟩);exact⟨oe,vs,T,_,_,(other e (QC hTe)).trans he,hc,hd,h1,nT,hTe,QY _ hT (GI (Q9 dT _)),Q9 dT _,by simp[sz]⟩
theorem JeV(hfr:A.frames=some (env::outer))(hf:env.frame=some L)(x:Fl base (env::outer) e cls s.heap)
 (hQ:∀h',base.StaysIn h'->h'.FunFrames base (env::outer)->TrD h' base e cls none (rawInt L)->s.heap.UpToSlots h'->Q () { s with heap:=h' }):wpAny M A (noteFrame (.ref e) env) Q E s:=by
 obtain⟨k1,k2,k3,tr|⟨oe,vs,he,hc,hd,h1⟩⟩:=x
 ·obtain⟨oe,vs,T,oT,ts,he,hc,hd,h1,nT,hTe,hT,dT,h3⟩:=tr;unfold noteFrame;simp only[hf];refine Qa (QE he hd h1 ?_);rw[if_pos (show(Value.ref T != Value.none)=true from by simp)];refine Qa (QE hT dT h3 ?_);rw[if_neg (show ¬((Value.none == rawInt L)=true) from by simp[rawInt])];refine Qa (GL hT dT (GQ.mp h3).1 ?_);have other:∀b,b≠T->(s.heap.update T (Kb (·.setIfInBounds 3 Value.none))).get? b=s.heap.get? b:=fun b hb=>QM _ _ (QC hb)
  have nrec:∀b o,s.heap.get? b=some o->(∀ws,o.data≠.fields ws)->b≠T:=fun b o hb nf z=>by rw[z,hT] at hb;cases hb;exact nf ts dT
  refine Jhr hfr (k3.of_keeps fun b o hb nf=>⟨o,(other b (nrec b o hb nf)).trans hb,rfl⟩) hf ((other e (QC hTe)).trans he)
   (fun b o hb=>(other b fun z=>by rw[z,nT] at hb;cases hb).trans (k1 b o hb)) k2 hd (GQ.mp h1).1 fun h' x1 x2 x3 x4=>?_
  rw[hc.1,hc.2] at x3;exact hQ h' x1 x2 x3 fun b o hb nf=>x4 b o ((other b (nrec b o hb nf)).trans hb) nf
 ·unfold noteFrame;simp only[hf];refine Qa (QE he hd h1 ?_);rw[if_neg (by decide)];refine Jhr hfr k3 hf he k1 k2 hd (GQ.mp h1).1 fun h' x1 x2 x3 x4=>?_
  rw[hc.1,hc.2] at x3;exact hQ h' x1 x2 x3 x4
theorem JhB(hfr:A.frames=some (env::outer))(hf:env.frame=some L)(x:Fl base (env::outer) e cls s.heap)
 (hQ:∀h',Fl base (env::outer) e cls h'->Fl base outer e cls h'->s.heap.UpToSlots h'->Q () { s with heap:=h' }):wpAny M A (leaving env (.ref e)) Q E s:=by
 have k2:=x.2.1;unfold leaving;refine Qa (JeV hfr hf x fun h1 x1 x2 x3 x4=>?_);refine Jbx (s:={ s with heap:=h1 }) x1 x2 x3 fun h2 y1 y2 y3 y4=>?_
 exact hQ h2 ⟨y1,k2,y2,.inl y3⟩ ⟨y1,k2,y2.2.2,.inl y3⟩ (x4.trans y4)
end

noncomputable def XP(X:Cx)(pins:List (Addr×Obj))(σ:St)(E:XK)(e:Value)(s':Shared):Prop:=∃H s,Inv X pins σ H s/\CX1 X.prog X.w X.stack H s E e s'
section
variable{X:Cx}{pins:List (Addr×Obj)}{σ:St}{H H':Hp}{s s':Shared}{base:Heap}{a:Addr}{cls:Value}{E:XK}{e:Value}
theorem Inv.fly(I:Inv X pins σ H s)(ho:s'.os=s.os)(hg:AllBare s'.gens)(x:XF X.prog X.w X.stack H s.heap a cls H' base s'.heap):Inv X pins σ H' s':=I.call' ho x.un x.hok hg fun b hb=>nomatch hb
theorem XP.made{args:List Value}{h':Heap}{ea:Addr}(I:Inv X pins σ H s)(m:Heap.MadeExcOf s.heap h' ea cls args)(q:E cls (some ea) H):XP X pins σ E (.ref ea) { s with heap:=h' }:=by
 have nf:∀b∈frs X.stack,∃o,s.heap.get? b=some o:=fun b hb=>by obtain⟨_,o,ho,_⟩:=Jbw I.stack hb;exact⟨o,ho⟩
 obtain⟨t,ht,_,_⟩:=m.there;refine⟨H,s,I,ea,cls,H,wo (frs X.stack) s.heap,rfl,rfl,I.bare,⟨⟨fun b o q _ _ _=>m.keeps b o q,fun b o q _ _ _=>⟨o.slots,m.keeps b o q⟩,fun _ _ _ n _=>n,fun b o q _=>⟨o,m.keeps b o q⟩,fun _ _ z=>z,fun _ _ _ z=>z,fun b ps z=>⟨#[],by rw[z];simp⟩⟩,I.hok.kept m.keeps,⟨fun b o q=>?_,?_,?_,.inr ⟨_,_,ht,⟨rfl,rfl⟩,rfl,rfl⟩⟩,fun b o hb hfr q=>?_,?_,m.new⟩,q⟩
 ·by_cases hb:b∈frs X.stack
  ·rw[JfR hb] at q;cases q
  ·rw[Jb5 hb] at q;exact m.keeps b o q
 ·by_cases hb:ea∈frs X.stack
  ·exact JfR hb
  ·rw[Jb5 hb];exact m.new
 ·exact(JeT I.stack fun b hb=>JfR hb).of_keeps fun b o q _=>⟨o,m.keeps b o q,rfl⟩
 ·rw[Jb5 hfr]
  have ex:∃u,s.heap.get? b=some u:=by
   rcases hb with hb|hb
   ·cases e:H b with
    | none=>exact absurd e hb
    | some u=>exact(I.hok b u e).there
   ·exact hb
  obtain⟨u,hu⟩:=ex;have:=m.keeps b u hu;have q':h'.get? b=some o:=q;rw[q'] at this;cases this;exact hu
 ·cases e:H ea with
  | none=>rfl
  | some u=>obtain⟨o,ho⟩:=(I.hok ea u e).there;rw[m.new] at ho;cases ho
theorem XP.leave{M:Model}{E':Value->Shared->Prop}{A:Around}(hA:A.frames=some X.stack)(hs:X.stack=X.env::X.outer)(hf:X.env.frame=some X.env.locals)(hx:X.ex=[])(x:XP X pins σ E e s') :
 wpAny M A (leaving X.env e) (fun _ s''=>CX1 X.prog X.w X.outer X.H₀ X.s₀ E e s'') E' s':=by
 obtain⟨H,s,I,a,cls,H',base,rfl,ho,hg,xf,q⟩:=x;have fl:=xf.fl;rw[hs] at fl hA;refine JhB hA hf fl fun h' f1 f2 us=>?_
 have y:=xf.on I.stack I.stkFree f1.1 us (by rw[hs];exact f1)
 have J:Inv X pins σ H' { s' with heap:=h' }:=I.fly ho hg y
 have hfs:frs X.stack=X.env.locals::frs X.outer:=by rw[hs];unfold frs;rw[G6,hf]
 have nl:∀b o,X.s₀.heap.get? b=some o->b≠X.env.locals:=fun b o q z=>by have h1:=Qj q;rw[z] at h1;exact absurd h1 (LL.mpr I.ok.above)
 refine⟨a,cls,H',base,rfl,J.os,hg,⟨?_,J.hok,f2,fun b o hb hfr q=>?_,y.free,?_⟩,q⟩
 ·have:=J.base;rw[hx] at this;exact this
 ·refine y.cov b o ?_ ?_ q
  ·rcases hb with hb|⟨u,hb⟩
   ·exact .inl hb
   ·exact .inr (I.base.there b u hb (by rw[hx];simp))
  ·rw[hfs];intro z;rcases Qh.mp z with z|z
   ·rcases hb with hb|⟨u,hb⟩
    ·rw[z] at hb;exact hb J.free
    ·exact nl b u hb z
   ·exact hfr z
 ·cases z:X.s₀.heap.get? a with
  | none=>rfl
  | some u=>obtain⟨o,e⟩:=I.base.there a u z (by rw[hx];simp);rw[y.new] at e;cases e
end
end L2

namespace L2
open PySem PySem.Spec PyProof.Rows PySem.Calls
abbrev VEm:List Value:=[.type "ValueError",.type "Exception",.type "BaseException",.type "object"]
section
variable{P:Program}{w:World}{K:Frag}{mg:Str->Option Value}{base:Heap}{N:List Str}{qual:Str}{scope:Scope}{f:Addr}{cd:Value}{A:Around}{outer:List Env}{s:Shared}{H:Hp}{E:XK}
noncomputable def XOk(X:Cx)(E:XK):Prop:=∀(pins:List (Addr×Obj)) (σ:St) (e:Value) (s':Shared),XP X pins σ E e s'->X.xe e s'
theorem xok_cx:XOk (Zh (CX1 P w) P w K mg base N qual scope f cd A outer s H E) E:=fun pins σ e s' x=>by
 have hA:(A.deeper (envOfC qual scope s.heap.objs.size f cd)).frames=some (Zh (CX1 P w) P w K mg base N qual scope f cd A outer s H E).stack:=by obtain⟨H1,s1,I,_⟩:=x;exact I.ok.frames
 exact XP.leave hA rfl rfl rfl x
theorem XOk.passes{X:Cx}{E:XK}(h:XOk X E):Vo (CX1 X.prog X.w) X E:=fun pins σ H s e s' I cx=>h pins σ e s' ⟨H,s,I,cx⟩
noncomputable def EF:XK:=fun _ _ _=>False
theorem Jfn{X:Cx}:Vo (CX1 X.prog X.w) X EF:=fun _ _ _ _ _ _ _ ⟨_,_,_,_,_,_,_,_,q⟩=>q.elim
theorem Fun.okX{x qual:Str}{st:Stmt}{f:Addr}{fd:FuncData}{N ps:List Str}{k:Nat}{sp:Sp}(F:Fun K x qual st f fd)(S:FnScope N ps (Jj st))(len:∀vs H Q E,sp vs H Q E->vs.length=ps.length)
 (hbody:∀(cdv:Value) (A:Around) (outer:List Env) (s:Shared) (H:Hp) (vs:List V) (Q:VK) (E:XK),Room k (A.deeper (envOfC qual (Jj st) s.heap.objs.size f cdv))->sp vs H Q E ->
  ∃t,PSs (Zh (CX1 P w) P w K mg base N qual (Jj st) f cdv A outer s H E) (YF st) t/\t { nx:=fun _ H'=>Q .non H',rt:=Q } (YK N vs) H):FnOk P w K mg base (CX1 P w) (k+1) f fd ps sp:=by
 obtain⟨oc,od,kV,doc,pm,an,cdv,ct,osl,rfl,lk,hcd⟩:=F.ex;exact JlV lk hcd S len fun A outer s H vs Q E hr hsp=>hbody cdv A outer s H vs Q E hr hsp
end
noncomputable def Jek(C:Addr)(E:XK)(t:TA):TS:=fun D σ H=>t σ H fun vs H1=>vs.length<=sizeLine/\∀a,E (.ref C) (some a) H1
section
variable{X:Cx}{x:Str}{np cpos pos:Pos}{C:Addr}{E:XK}{e:Expr}{es:List Expr}{t:TA}
theorem JjP{K:Frag}{h:Heap}{bmB:List Value}{newId:String}(X:K.In h)(q:excIn K C bmB newId=true):∃bm N nm q bs hdct sn sub ab col dd k0 k1 k2 k3 k5 mN,h.get? C=some (excClassObj nm q C N bs bm hdct sn sub ab col dd k0 k1 k2 k3 k5 newId)/\h.Ns N mN/\mN "__init__"=none/\OwnTail h bmB bm:=by
 unfold excIn at q;split at q
 ·rename_i dd cd sl ho;split at q
  ·rename_i C' bm k0 k1 k2 k3 n k5 hm hs;simp only[Qv,beq_iff_eq,Bool.not_eq_true'] at q;obtain⟨⟨⟨⟨⟨rfl,rfl⟩,hdel⟩,ht⟩,hok⟩,hni⟩:=q;obtain⟨nm,bs,mro,ns,qn,hd,sn,sub,ab,col,del⟩:=cd;dsimp only at hm hdel hok hni;subst hm hdel
   have hsl:sl=#[k0,k1,k2,k3,some (.builtin n),k5]:=by obtain⟨l⟩:=sl;simp only at hs;rw[hs]
   subst hsl;exact⟨bm,ns,nm,qn,bs,hd,sn,sub,ab,col,dd,k0,k1,k2,k3,k5,_,X _ _ ho,.of_isNs (PySem.W.isNs_of_in X hok),PySem.W.nsMap_none_of_in X hok hni,PySem.W.tail_of_in X ht⟩
  ·cases q
 ·cases q
theorem Jim(ok:excIn X.K C VEm "ValueError.__new__"=true)(hg:Gl X x)(hm:X.mg x=some (.ref C))(hc:X.calm=true)(hx:XOk X E)(ha:PA X (e::es) t)(hdb:(x == ("__debug__":Str))=false:=by decide)
 (he:starEach (e::es) X.env=(false,eval e X.env)::starEach es X.env:=by rfl) (hpl:(backTo cpos (starEach es X.env)).any (·.1)=false:=by rfl) :
 PS X (.Raise (some (.Call (.Name x np) (e::es) [] cpos)) none pos) (Jek C E t):=by
 intro pins s σ H D I h;obtain⟨tl,N,nm,q,bs,hdct,sn,sub,ab,col,dd,k0,k1,k2,k3,k5,mN,hC,hN,hni,T⟩:=JjP (h:=X.base) I.ok.mod.kin ok;refine wpAny_Raise_call_subU (C:=C) (nm:=nm) (q:=q) (N:=N) (bs:=bs) (bm:=tl) (hdct:=hdct) (sn:=sn) (sub:=sub) (ab:=ab) (col:=col) (dd:=dd) (k0:=k0) (k1:=k1) (k2:=k2) (k3:=k3) (k5:=k5)
  K9 (by decide) K9 (mN:=mN) (T.hasType K9.hasBase) (I.ok.hd hc) (by rw[he];show(false || (backTo cpos (starEach es X.env)).any (·.1))=false;rw[hpl];rfl) hni (Vf I hg hm ⟨rfl,?_⟩ hdb)
 have h1:=ha cpos pins s σ H _ I h;rw[he] at h1 ⊢;refine K6 (GC h1 (fun us s₂ ⟨vs,H1,I1,r,hl,q⟩=>⟨rfl,by rw[<- r.length];exact hl,I1.bk _ _ hC,hN.keeps I1.bk,T.keeps I1.bk,fun h' a m=>hx pins σ _ _ (XP.made I1 m (q a))⟩) fun _ _ y=>y)
end
end L2

namespace L2
open PySem PySem.Spec PyProof.Rows PySem.Calls
noncomputable def XS(X:Cx)(pins:List (Addr×Obj))(E:St->XK)(e:Value)(s':Shared):Prop:=∃σ',XP X pins σ' (E σ') e s'
noncomputable def PX(X:Cx)(e:Expr)(T:XK->TE):Prop :=
 ∀(pins:List (Addr×Obj)) (s:Shared) (σ:St) (H:Hp) (Q:VK) (E:XK),Inv X pins σ H s->T E σ H Q->wpAny (model X.prog X.w) X.A (eval e X.env) (EP X pins σ Q) (XP X pins σ E) s
noncomputable def PCS(X:Cx)(st:Stmt)(T:(St->XK)->TS):Prop :=
 ∀(pins:List (Addr×Obj)) (s:Shared) (σ:St) (H:Hp) (D:Ends) (E:St->XK),Inv X pins σ H s->T E D σ H->wpAny (model X.prog X.w) X.A (exec st X.env) (SP X pins D) (XS X pins E) s
noncomputable def Jmo(X:Cx)(st:List Stmt)(T:(St->XK)->TS):Prop :=
 ∀(pins:List (Addr×Obj)) (s:Shared) (σ:St) (H:Hp) (D:Ends) (E:St->XK),Inv X pins σ H s->T E D σ H->wpAny (model X.prog X.w) X.A (execs st X.env) (SP X pins D) (XS X pins E) s
structure CalX (P:Program) (w:World) (K:Frag) (mg:Str->Option Value) (base:Heap) (x:Str) (k:Nat) (ps:List Str) (sp:Sp):Prop where
 ex:∃(f:Addr) (fd:FuncData),FnOk P w K mg base (CX1 P w) k f fd ps sp/\mg x=some (.ref f)/\keepIn K (.ref f)=true/\Binds K fd ps []
noncomputable def Jel(T:XK->TE):(St->XK)->TS:=fun E D σ H=>T (E σ) σ H fun _ H1=>D.nx σ H1
section
variable{X:Cx}{k:Nat}{C:Addr}{ps:List Str}{sp:Sp}{x:Str}{p pos:Pos}{e:Expr}{es:List Expr}{t:TA}{st:Stmt}{rest:List Stmt}{T:XK->TE}{TS1:(St->XK)->TS}{u:TS}
theorem Yr{E:XK}(c:CalX X.prog X.w X.K X.mg X.base x k ps sp)(hr:Room k X.A)(hg:Gl X x)(hx:Vo (CX1 X.prog X.w) X E)(ha:PA X (e::es) t)(hdb:(x == ("__debug__":Str))=false:=by decide)
 (he:starEach (e::es) X.env=(false,eval e X.env)::starEach es X.env:=by rfl) (hpl:(backTo pos (starEach es X.env)).any (·.1)=false:=by rfl):PE X (.Call (.Name x p) (e::es) [] pos) (WK sp [] E t):=by
 obtain⟨f,fd,F,h1,h2,h3⟩:=c.ex;exact Jfo F hr hg h1 h2 h3 .nil hx ha hdb he hpl
theorem JkY(c:CalX X.prog X.w X.K X.mg X.base x k ps sp)(hr:Room k X.A)(hg:Gl X x)(ha:PA X.nox (e::es) t)(hdb:(x == ("__debug__":Str))=false:=by decide)
 (he:starEach (e::es) X.env=(false,eval e X.env)::starEach es X.env:=by rfl) (hpl:(backTo pos (starEach es X.env)).any (·.1)=false:=by rfl):PX X (.Call (.Name x p) (e::es) [] pos) (fun E=>WK sp [] E t):=by
 obtain⟨f,fd,F,h1,h2,h3⟩:=c.ex;intro pins s σ H Q E I h;refine Ke (Vf I hg h1 ?_ hdb);refine callWith_K (h₀:=X.base) I.ok.mod.kin h2 (GC (ha pos pins s σ H _ (I.wish _) h) (fun us s1 ⟨vs,H1,I1,r,q⟩=>⟨I1.unwish.kIn,?_⟩) fun _ _ z=>Q7 z) he hpl;have I1:=I1.unwish;have r2:Vals (vs++[]) (us++[]):=r.append .nil;have hl:(us++[]).length=ps.length:=by rw[<- r2.length];exact F.len _ _ _ _ q
 refine MQ (G8 (F.run X.A X.stack s1 H1 ⟨us,[]⟩ (us++[]) (vs++[]) Q E hr I1.env0 (h3 s1 us I1.kIn hl) r2 q) fun r s' hq=>?_)
 cases r with
 | error e=>exact⟨H1,s1,I1,hq⟩
 | ok fl =>
  cases fl with
  | ret u=>exact I1.after hq
  | next=>exact Q7 hq
  | brk=>exact Q7 hq
  | cont=>exact Q7 hq
theorem Jic(h:PCS X st TS1):Jmo X [st] TS1:=by
 intro pins s σ H D E I q;refine MB (thn (h pins s σ H D E I q) fun f s1 q=>?_)
 cases f with
 | next=>exact KP q
 | ret v=>exact q
 | brk=>exact q
 | cont=>exact q
theorem Jib(he:PX X e T)(hs:swapsWith e none pos.line X.env=pure false:=by rfl):PCS X (.Expr e pos) (Jel T):=by intro pins s σ H D E I h;exact wpAny_Expr_any (GC (he pins s σ H _ _ I h) (fun v s1 ⟨x,H1,I1,r1,q1⟩=>⟨σ,H1,I1,q1⟩) fun _ _ z=>⟨σ,z⟩) I.quiet hs
end
end L2
namespace L2
open PySem PySem.Spec PyProof.Rows PySem.Calls LE
noncomputable abbrev Cx.hand(X:Cx)(a:Addr):Cx:={ X with A:=X.A.mark (some (.ref a)),calm:=false,xe:=fun _ _=>False }
noncomputable def Joz(K:Frag)(CL:Addr)(i:Nat)(T:(St->XK)->TS)(th:TS):TS:=fun D σ H=>T (fun σ' c oa H'=>∃a,oa=some a/\exmOne K c (.ref CL)=some true ∧
 (H' a=none->th { nx:=fun σ2 H2=>D.nx (σ2.set i none) H2,rt:=D.rt,bk:=fun σ2 H2=>D.bk (σ2.set i none) H2,ct:=fun σ2 H2=>D.ct (σ2.set i none) H2 } (σ'.set i (some (.ref a))) (upd H' a (XO a c)))) D σ H
section
variable{X:Cx}{pins:List (Addr×Obj)}{σ:St}{H:Hp}{s:Shared}{a:Addr}
theorem Inv.hand(I:Inv X pins σ H s)(a:Addr):Inv (X.hand a) pins σ H s :=
 ⟨⟨I.ok.mod,I.ok.kind,I.ok.glob,I.ok.blt,I.ok.above,I.ok.inj,I.ok.has,I.ok.cab,(fun h=>nomatch h),I.ok.frames,I.ok.stk,I.ok.exf,I.ok.bs,I.ok.bsz,I.ok.noex,I.ok.exfs,I.ok.funs,I.ok.frf⟩,I.os,I.bare,I.base,I.loc,I.cell,I.free,I.freeC,I.pin,I.hok,I.len⟩
theorem Inv.unhand(hd:X.calm=true->X.A.handled=none)(I:Inv (X.hand a) pins σ H s):Inv X pins σ H s :=
 ⟨⟨I.ok.mod,I.ok.kind,I.ok.glob,I.ok.blt,I.ok.above,I.ok.inj,I.ok.has,I.ok.cab,hd,I.ok.frames,I.ok.stk,I.ok.exf,I.ok.bs,I.ok.bsz,I.ok.noex,I.ok.exfs,I.ok.funs,I.ok.frf⟩,I.os,I.bare,I.base,I.loc,I.cell,I.free,I.freeC,I.pin,I.hok,I.len⟩
theorem Inv.goes{i:Nat}{n:Str}{m:Str->Option Value}{v:Option Value}{h':Heap}{t':Nat}(I:Inv X pins σ H s)(hi:X.N[i]?=some n)(hn:s.heap.Ns X.env.locals m)
 (hl:∀(i:Nat) (x:Str) (v:V),X.N[i]?=some x->σ[i]?=some (some v)->Vis X.env.scope x->∃u,RelV v u/\JoR X.env s.heap m x u) (hN:X.N.Nodup) (hn':h'.Ns X.env.locals (fun x=>if x=n then v else m x)) (hs:Qt X.env.locals s.heap h'):Inv X pins (σ.set i none) H { s with heap:=h',toks:=t' }:=by
 obtain⟨oL,_,_,hoL,_⟩:=id hn;have cne:=I.cne;have hiσ:i<σ.length:=by rw[I.len];exact(Qg.mp hi).1
 refine⟨I.ok,I.os,I.bare,⟨fun b o e n hb hx=>?_,fun b o e n hb hx=>?_,I.base.free,fun b o e hx=>?_,I.base.tups,I.base.frzs,I.base.tbls⟩,⟨_,hn',fun j y v' e1 e2 e3=>?_⟩,fun y c e=>?_,I.free,I.freeC,fun p hp=>?_,fun b ob e=>?_,by simpa using I.len⟩
 ·exact(hs.2 b (Qr (QJ (Qj e) I.ok.above))).trans (I.base.keep b o e n hb hx)
 ·obtain⟨sl,e1⟩:=I.base.slot b o e n hb hx;exact⟨sl,(hs.2 b (Qr (QJ (Qj e) I.ok.above))).trans e1⟩
 ·obtain⟨o',e1⟩:=I.base.there b o e hx;exact⟨o',(hs.2 b (Qr (QJ (Qj e) I.ok.above))).trans e1⟩
 ·by_cases hj:j=i
  ·subst hj;rw[Lu hiσ] at e2;cases e2
  ·rw[LO (QC hj)] at e2;obtain⟨u',r',q⟩:=hl j y v' e1 e2 e3;refine⟨u',r',?_⟩
   have hyn:y≠n:=fun z=>hj (by
    rw[z] at e1;have h1:=(Qg.mp e1)
    have h2:=(Qg.mp hi)
    exact(MA hN).mp (h1.2.trans h2.2.symm))
   rcases q with ⟨k1,k2⟩|⟨k1,c,k2,k3⟩
   ·exact .inl ⟨k1,by show(if y=n then v else m y)=some u';rw[if_neg hyn];exact k2⟩
   ·refine .inr ⟨k1,c,k2,?_⟩;obtain⟨oc,e4,e5⟩:=k3;exact⟨oc,(hs.2 c (cne y c k2)).trans e4,e5⟩
 ·obtain⟨v,oc,e4,e5⟩:=I.cell y c e;exact⟨v,oc,(hs.2 c (cne y c e)).trans e4,e5⟩
 ·obtain⟨h1,h2,h3,h4⟩:=I.pin p hp;exact⟨(hs.2 p.1 h3).trans h1,h2,h3,h4⟩
 ·refine(I.hok b ob e).stay (fun c w' hc q=>(hs.2 c ?_).trans q) (fun _ q=>q) fun _ _ q=>q
  rintro rfl;rcases hc with rfl|hc
  ·rw[I.free] at e;cases e
  ·rw[I.free] at hc;cases hc
theorem Inv.track{o:HO}(I:Inv X pins σ H s)(hx:X.ex=[])(ha:H a=none)(h0:X.s₀.heap.get? a=none)(hL:a≠X.env.locals)(hC:∀x c,X.env.cells.lookup x=some c->c≠a)(hP:∀p∈X.pn++pins,p.1≠a)(new:ObjOk X.prog X.w (upd H a o) s.heap a o):Inv X pins σ (upd H a o) s:=by
 have nt:∀b u,H b=some u->b≠a:=fun b u e z=>by rw[z,ha] at e;cases e
 refine⟨I.ok,I.os,I.bare,⟨I.base.keep,I.base.slot,fun b u e n hb=>?_,I.base.there,fun b xs e=>?_,fun b u xs e=>?_,fun b ps e=>?_⟩,I.loc,I.cell,?_,fun x c e=>?_,fun p hp=>?_,fun b u e=>?_,I.len⟩
 ·rw[Ji (fun z=>by rw[z,h0] at e;cases e)];exact I.base.free b u e n hb
 ·have:=I.base.tups b xs e;rw[Ji (nt _ _ this)];exact this
 ·have:=I.base.frzs b u xs e;rw[Ji (nt _ _ this)];exact this
 ·obtain⟨m,this⟩:=I.base.tbls b ps e;exact⟨m,by rw[Ji (nt _ _ this)];exact this⟩
 ·rw[Ji (QC hL)];exact I.free
 ·rw[Ji (hC x c e)];exact I.freeC x c e
 ·obtain⟨h1,h2,h3⟩:=I.pin p hp;exact⟨h1,by rw[Ji (hP p hp)];exact h2,h3⟩
 ·by_cases hb:b=a
  ·subst hb;rw[Jt] at e;cases e;exact new
  ·rw[Ji hb] at e;exact(I.hok b u e).stay (fun _ _ _ q=>q) (fun c q=>by rw[Ji (nt _ _ q)];exact q) fun c xs q=>by rw[Ji (nt _ _ q)];exact q
end
section
variable{X:Cx}{body suite:List Stmt}{b₀:Stmt}{i:Nat}{n cn:Str}{np hpos pos:Pos}{CL:Addr}{T:(St->XK)->TS}{th:TS}
theorem JnR(hs:X.stack=X.env::X.outer)(hf:X.env.frame=some X.env.locals)(hx:X.ex=[])(hN:X.N.Nodup)(hi:X.N[i]?=some n)(hk:X.env.kindOf n=some .local)(hg:Gl X cn)(hm:X.mg cn=some (.ref CL))
 (hb:Jmo X body T) (hh:∀a,PSs (X.hand a) (b₀::suite) th) (hdb:(cn == ("__debug__":Str))=false:=by decide) :
 PS X (.Try body [.ExceptHandler (some (.Name cn np)) (some n) (b₀::suite) hpos] [] [] pos) (Joz X.K CL i T th):=by
 intro pins s σ H D I h;refine wpAny_Try_except (GC (hb pins s σ H D _ I h) (fun f s1 q=>?_) fun e s1 ⟨σ',Hc,sc,Ic,a,cls,H',base,he,ho,hgn,xf,hE⟩=>?_)
 ·cases f with
  | next=>exact KP q
  | ret v=>exact q
  | brk=>exact q
  | cont=>exact q
 ·subst he;obtain⟨a',ea,hxm,hth⟩:=hE;cases ea;have fl:=xf.fl;rw[hs] at fl;have hfr:X.A.frames=some (X.env::X.outer):=by rw[<- hs];exact Ic.ok.frames
  refine JeV hfr hf fl fun h1 x1 x2 x3 x4=>?_
  refine Jbx (s:={ s1 with heap:=h1 }) x1 x2 x3 fun h2 y1 y2 y3 y4=>?_
  have J:Inv X pins σ' H' { s1 with heap:=h2 }:=Ic.fly ho hgn (xf.on Ic.stack Ic.stkFree y1 (x4.trans y4) (by rw[hs];exact⟨y1,fl.2.1,y2,.inl y3⟩))
  have LT:PySem.W.Looks (model X.prog X.w) h2 (typeOf (.ref a)) cls:=by obtain⟨oe,_,_,_,_,he,⟨hc,_⟩,_⟩:=y3;exact hc▸(PySem.W.Looks.ld he).andThen .now
  refine wpAny_handleBy_cons (codeAny_handlers_test (Vf (X:=X.hand a) (J.hand a) hg hm ?_ hdb)) (by intro q;cases q);refine PySem.W.exm_one J.kIn LT hxm _ _ _ _ (fun _ _ q=>q) ?_;rw[if_pos rfl];refine codeAny_handlers_suite_as ?_;refine Jbx (s:={ s1 with heap:=h2 }) y1 y2 y3 fun h3 z1 z2 z3 z4=>?_
  have Y3:=xf.on Ic.stack Ic.stkFree z1 ((x4.trans y4).trans z4) (by rw[hs];exact⟨z1,fl.2.1,z2,.inl z3⟩)
  have J3:Inv X pins σ' H' { s1 with heap:=h3 }:=Ic.fly ho hgn Y3;obtain⟨oe,vs,_,_,_,he,⟨hc,hdn⟩,hd,_⟩:=z3
  have ncl:notCls oe=true:=by unfold notCls;rw[hd]
  have was:∀b o,sc.heap.get? b=some o->b≠a:=fun b o q z=>by rw[z,xf.new] at q;cases q
  have J4:Inv X pins σ' (upd H' a (XO a cls)) { s1 with heap:=h3 }:=by
   refine J3.track hx xf.free ?_ ?_ (fun x c e=>?_) (fun p hp=>?_) ⟨⟨oe,he,hc,ncl,hdn⟩,⟨oe,he⟩,fun g1 g2 ⟨o,q,r⟩ k=>⟨o,k o q,r⟩⟩
   ·cases z:X.s₀.heap.get? a with
    | none=>rfl
    | some u=>obtain⟨o,e⟩:=Ic.base.there a u z (by rw[hx];simp);exact absurd rfl (was a o e)
   ·obtain⟨m,⟨o,_,_,e,_⟩,_⟩:=Ic.loc;exact QC (was _ o e)
   ·obtain⟨v,o,e,_⟩:=Ic.cell x c e;exact was c o e
   ·exact was _ _ (Ic.pin p hp).1
  refine WJ (X:=X.hand a) (J4.hand a) hN hi (.inl hk) (show RelV (.ref a) (.ref a) from rfl) (fun s4 I4=>?_) (.inr hk);refine GC (hh a pins s4 _ _ _ I4 (hth xf.free)) (fun f s5 q=>?_) fun _ _ z=>Q7 z
  have hp:(X.env.scope.kind == .class || (X.env.scope.kind == .module && X.env.locals != X.env.globals))=false:=by rw[I.ok.kind];rfl
  cases f with
  | next=>obtain⟨σ5,H5,I5,q5⟩:=q;have I5':=I5.unhand I.ok.hd;obtain⟨m,hn,hl⟩:=id I5'.loc;exact La hk hn hp fun h6 v n6 s6=>⟨_,H5,I5'.goes hi hn hl hN n6 s6,q5⟩
  | brk=>obtain⟨σ5,H5,I5,q5⟩:=q;have I5':=I5.unhand I.ok.hd;obtain⟨m,hn,hl⟩:=id I5'.loc;exact La hk hn hp fun h6 v n6 s6=>⟨_,H5,I5'.goes hi hn hl hN n6 s6,q5⟩
  | cont=>obtain⟨σ5,H5,I5,q5⟩:=q;have I5':=I5.unhand I.ok.hd;obtain⟨m,hn,hl⟩:=id I5'.loc;exact La hk hn hp fun h6 v n6 s6=>⟨_,H5,I5'.goes hi hn hl hN n6 s6,q5⟩
  | ret u=>obtain⟨v5,σ5,H5,I5,r5,q5⟩:=q;have I5':=I5.unhand I.ok.hd;obtain⟨m,hn,hl⟩:=id I5'.loc;exact La hk hn hp fun h6 v n6 s6=>⟨v5,_,H5,I5'.goes hi hn hl hN n6 s6,r5,q5⟩
end
end L2

namespace L2
open PySem PySem.Spec PyProof.Rows PySem.Calls LE
structure ExcN (K:Frag) (n:Str):Prop where
 ex:∃c,nsIn K mainGlobals n=some (some (.ref c))/\excIn K c VEm "ValueError.__new__"=true
 pl:∀c,nsIn K mainGlobals n=some (some (.ref c))->findIn K (.ref c) "__getattribute__"=some (some (.builtin "BaseException.__getattribute__"))/\findIn K (.ref c) "__getattr__"=some none/\mroIn K c (.type "BaseException")=some true/\hasDictIn K c=true/\findIn K (.ref c) "__class__"=some (some (.builtin "object.__class__"))/\mroIn K c (.type "object")=some true
structure ExcG (K:Frag):Prop where
 hn:specialIn K (.builtin "object.__class__") "__get__"=some (some (.builtin "getset_descriptor.__get__"))
 htk:takesIn K (.builtin "object.__class__")=some true
section
variable{prog:Program}{w:World}{A:Around}{E:Value->Shared->Prop}{s:Shared}{K:Frag}{x C D:Addr}{ox:Obj}
theorem Jf8{Q:Option Value->Shared->Prop}(X:K.In s.heap)(I:InstAt s.heap x ox D none)(hga:findIn K (.ref D) "__getattribute__"=some (some (.builtin "BaseException.__getattribute__")))
 (hgn:findIn K (.ref D) "__getattr__"=some none) (hmB:mroIn K D (.type "BaseException")=some true)
 (hf:findObj K D none "__class__"=some (.bind (.builtin "getset_descriptor.__get__") (.builtin "object.__class__"))) (hm:mroIn K D (.type "object")=some true)
 (h:Q (some (.ref D)) { s with toks:=s.toks+1 }):wpAny (model prog w) A (getAttr? (.ref x) "__class__") Q E s:=by
 obtain⟨hh,g,d,t,os⟩:=s;have L0:=I.type (M:=model prog w);have L1:=looks_findIn (M:=model prog w) X hga;have L2:=looks_findIn (M:=model prog w) X hgn;have f3:=L5.ga.bind (.ref x);unfold getAttr? getAttrBy? getAttrBy;refine Qa (wpAny_mkText (Qa (Gs (Gj (Qa (L0.at (Qa (L1.at ?_))))))));have hx2:(Value.builtin "BaseException.__getattribute__" == Value.builtin "object.__getattribute__")=false:=by decide +kernel
 have hx1:(onTheHeap (Value.ref D) && Value.builtin "BaseException.__getattribute__" == Value.builtin "object.__getattribute__")=false:=by rw[hx2];rfl
 repeat (any_goals (first|assumption|(with_reducible refine L0.at ?_)|(with_reducible refine L1.at ?_)|(with_reducible refine L2.at ?_)|wp_step))
 have LB:=PySem.W.looks_mroIn (M:=model prog w) X hmB
 have LF:=PySem.W.looks_find (M:=model prog w) X I hf
 have hk:builtinKind "BaseException.__getattribute__"=some .slot:=by decide +kernel
 have hsplit:splitId "BaseException.__getattribute__"=some ("BaseException","__getattribute__"):=by decide +kernel
 have hag:=PySem.F.args_bexc_ga (.ref x) (Value.str "__class__" t);refine codeAny_call_builtin L5.ga.plain PySem.F.entry_bexc_ga ?_;simp only[KI,Lk,checkBuiltinCall,hk,hsplit];refine Qa ?_;unfold isInstance
 repeat (first|(with_reducible refine L0.at ?_)|(with_reducible refine LB.at ?_)|(with_reducible refine LF.at ?_)|wp_step)
 refine PySem.W.class_get (s:=⟨hh,g,d,t+1,os⟩) (ox:=ox) (od:=none) X I hm ?_;show wpAny (model prog w) A.in1 (ret (Value.ref D)) _ _ _;refine Qd ?_;exact PySem.W.handed_on rfl (Qd h)
end
section
variable{K:Frag}{x D:Addr}{ox:Obj}
theorem JaC{a g:Value}{name:Str}(hc:(clsIn K D).isSome=true)(ha:findIn K (.ref D) name=some (some a))(hg:specialIn K a "__get__"=some (some g))(ht:takesIn K a=some true):findObj K D none name=some (.bind g a):=by obtain⟨cd,hc⟩:=Lh.mp hc;unfold findObj;rw[hc,QG,ha,QG];simp[hg,ht]
theorem JhS(hga:findIn K (.ref D) "__getattribute__"=some (some (.builtin "BaseException.__getattribute__")))(hgn:findIn K (.ref D) "__getattr__"=some none)(hmB:mroIn K D (.type "BaseException")=some true)(hdct:hasDictIn K D=true)(ha:findIn K (.ref D) "__class__"=some (some (.builtin "object.__class__")))
 (hn:specialIn K (.builtin "object.__class__") "__get__"=some (some (.builtin "getset_descriptor.__get__"))) (htk:takesIn K (.builtin "object.__class__")=some true) (hm:mroIn K D (.type "object")=some true) :
 PySem.W.KitX K (.ref x) (.ref D) (fun h=>InstAt h x ox D none) where
 ty:=fun _ _ _ I=>I.type
 it:=fun _ _ X _=>by
  obtain⟨cdD,hcD,_⟩:=any_some hdct;unfold clsIn at hcD;split at hcD
  ·rename_i c' d' cd' sl' ho;intro A' Q' E' s' k q;unfold isType loadHead;exact Qa (wpAny_loadPart (k _ _ (X _ _ ho)) (Qd q))
  ·cases hcD
 ne:=fun h tp dd its n sl X htp=>by
  obtain⟨cdD,hcD,_⟩:=any_some hdct;refine Bool.eq_false_iff.mpr fun q=>?_
  have e:D=tp:=Value.ref.inj (beq_iff_eq.mp q);subst e;unfold clsIn at hcD;split at hcD
  ·rename_i c' d' cd' sl' ho;have z:=(X _ _ ho).symm.trans htp;cases z
  ·cases hcD
 ca:=fun {_ _ _ _ _ s} X I k=>by have hf:findObj K D none "__class__"=some (.bind (.builtin "getset_descriptor.__get__") (.builtin "object.__class__")):=JaC (by obtain⟨cd,hc,_⟩:=any_some hdct;rw[hc];rfl) ha hn htk;exact Jf8 X I hga hgn hmB hf hm k
end
section
variable{X:Cx}
inductive TyX (K:Frag) (H:Hp):V->Value->Prop where
 | of {x:V} {t:Value} (h:TyS K H x t):TyX K H x t
 | exc {a c:Addr} {n:Str} (h:H a=some (XO a (.ref c))) (e:nsIn K mainGlobals n=some (some (.ref c))) (N:ExcN K n) (G:ExcG K):TyX K H (.ref a) (.ref c)
theorem JdW{pins:List (Addr×Obj)}{σ:St}{H:Hp}{s:Shared}{A:Around}{E:Value->Shared->Prop}{Q:Value->Shared->Prop}{c:Value}{b:Bool}{x:V}{u t:Value}(I:Inv X pins σ H s)(rx:RelV x u)(ty:TyX X.K H x t)(e:kitOne X.K t c=some b)(h:∀tk,Q (.bool b) { s with toks:=tk }) :
 wpAny (model X.prog X.w) A (call (.builtin "isinstance") [u,c]) Q E s:=by
 cases ty with
 | of z=>exact ZR I rx z e h
 | @exc a c' n z e' N G =>
  cases (show u=Value.ref a from rx);obtain⟨⟨o,h1,h2,h3,h4⟩,_⟩:=(show ObjOk X.prog X.w H s.heap a (XO a (.ref c')) from I.hok a _ z)
  obtain⟨q1,q2,q3,p2,p3,p4⟩:=N.pl c' e';exact kia_one (JhS q1 q2 q3 p2 p3 G.hn G.htk p4) I.kIn ⟨h1,h2,h3,by rw[h4];trivial⟩ e (fun z=>nomatch z) h
noncomputable def JkZ(K:Frag):List V->Hp->VK->Prop:=fun vs H Q=>∃x c t tc b,vs=[x,c]/\TyX K H x t/\(∀u,RelV c u->u=tc)/\kitOne K t tc=some b/\Q (.bl b) H
theorem Jhb:CallR X (.builtin "isinstance") (JkZ X.K):=by intro pins s σ H xs us Q I r h;obtain⟨x,c,t,tc,b,rfl,ty,hc,e,q⟩:=h;obtain⟨u,w',rfl,r1,r2⟩:=JfQ r;cases hc w' r2;exact JdW I r1 ty e fun tk=>⟨.bl b,H,I.tok tk,rfl,q⟩
end
end L2

namespace LE
open PySem L2 LR
noncomputable abbrev Xv:=En->Option Str
section
variable(K:Frag)(C:Addr)
noncomputable def spR(n:Nat)(ex:List Sl->Option Str):Sp:=fun vs H Q W=>∃H0 as m,Same H0 H/\RRL K C H H0 H vs as/\as.all (fun s=>!JR s)=true/\as.length=n/\ex as=some m ∧
 ∀c a H0' H',nsIn K mainGlobals m=some (some (.ref c))->Step H H0 H H0' H'->W (.ref c) (some a) H'
noncomputable def spX(n:Nat)(f:List Sl->Option Sl)(ex:List Sl->Option Str):Sp:=fun vs H Q W=>spE K C n f vs H Q W\/spR K C n ex vs H Q W
noncomputable def SXE(W:XK)(te:TE)(ex:Xv):Prop:=∀(B H0 H:Hp) (σ:St) (E:En) (m:Str) (Q:VK),EnvR K C B H0 H σ E->ex E=some m ->
 (∀c a H0' H',nsIn K mainGlobals m=some (some (.ref c))->Step H H0 H H0' H'->W (.ref c) (some a) H')->te σ H Q
noncomputable def SXS(W:XK)(ts:TS)(ex:Xv):Prop:=∀(B H0 H:Hp) (σ:St) (E:En) (m:Str) (D:Ends),EnvR K C B H0 H σ E->ex E=some m ->
 (∀c a H0' H',nsIn K mainGlobals m=some (some (.ref c))->SStep B H0 H0' H'->W (.ref c) (some a) H')->ts D σ H
noncomputable def SXT(T:(St->XK)->TS)(ex:Xv):Prop:=∀(B H0 H:Hp) (σ:St) (E:En) (m:Str) (D:Ends) (W:St->XK),EnvR K C B H0 H σ E->ex E=some m ->
 (∀c a H0' H',nsIn K mainGlobals m=some (some (.ref c))->Step H H0 H H0' H'->W σ (.ref c) (some a) H')->T W D σ H
end
theorem VW{K:Frag}{C:Addr}{n:Nat}{f:List Sl->Option Sl}{ex:List Sl->Option Str}{vs:List V}{H:Hp}{Q:VK}{W:XK}(h:spX K C n f ex vs H Q W):vs.length=n:=by
 rcases h with ⟨_,as,_,_,r,_,hl,_⟩|⟨_,as,_,_,r,_,hl,_⟩
 ·rw[r.len,hl]
 ·rw[r.len,hl]
noncomputable def Yw:Xv:=fun _=>none
noncomputable def J5(a:Es)(ea eb:Xv):Xv:=fun E=>match ea E with
 | some m=>some m
 | none=>match a E with
  | some (.nx E')=>eb E'
  | _=>none
noncomputable def Vu(c:En->Option Bool)(a b:Xv):Xv:=fun E=>(c E).bind fun k=>if k=true then a E else b E
noncomputable def exU(n:Nat)(ex:List Sl->Option Str)(as:En->Option (List Sl)):Xv:=fun E=>(as E).bind fun ss=>(Wz ss).bind fun bs=>if bs.length=n then ex bs else none
noncomputable def YZ(m:Str)(as:En->Option (List Sl)):Xv:=fun E=>(as E).bind fun ss=>if ss.length<=1000 then some m else none
noncomputable def YX(N:Nat)(b:Xv):List Sl->Option Str:=fun as=>b (as++Qw (N-as.length) .no)
section
variable{K:Frag}{C:Addr}{W:XK}{t:TA}{ev:En->Option (List Sl)}{te:TE}{ts us:TS}{et eu:Es}{xt xu:Xv}{ex:Xv}
theorem J2{n:Nat}{f:List Sl->Option Sl}{x:List Sl->Option Str}{W:XK}(ha:SA K C t ev):SE K C (WK (spX K C n f x) [] W t) (eU n f ev):=by
 intro B H0 H σ E c Q I e q;obtain⟨ss,e1,e⟩:=bind_some e;obtain⟨bs,e2,e⟩:=bind_some e;split at e
 ·next hl=>refine Zt (ha B H0 H σ E ss _ I e1 fun vs H1 H1' s1 r1=>?_);obtain⟨h1,h2⟩:=r1.pass s1.i e2;have f:=JL (Hs:=H) s1.i;exact .inl ⟨_,bs,c,f.i,h1,h2,hl,e,fun v H2 H2' s2 r2=>q v H2 H2' ((s1.comp f fun _ z=>z).comp s2 fun a z=>Same.free s1.h z) (r2.weak fun a z=>Same.free s1.h z)⟩
 ·cases e
theorem Uv{n:Nat}{f:List Sl->Option Sl}{x:List Sl->Option Str}(ha:SA K C t ev):SXE K C W (WK (spX K C n f x) [] W t) (exU n x ev):=by
 intro B H0 H σ E m Q I e q;obtain⟨ss,e1,e⟩:=bind_some e;obtain⟨bs,e2,e⟩:=bind_some e;split at e
 ·next hl=>refine Zt (ha B H0 H σ E ss _ I e1 fun vs H1 H1' s1 r1=>?_);obtain⟨h1,h2⟩:=r1.pass s1.i e2;have f:=JL (Hs:=H) s1.i;exact .inr ⟨_,bs,m,f.i,h1,h2,hl,e,fun c a H2 H2' hc s2=>q c a H2 H2' hc ((s1.comp f fun _ z=>z).comp s2 fun a z=>Same.free s1.h z)⟩
 ·cases e
theorem UI:SXS K C W ts Yw:=fun _ _ _ _ _ _ _ _ e _=>by cases e
theorem Y2(h1:SS K C ts et)(x1:SXS K C W ts xt)(x2:SXS K C W us xu):SXS K C W (JlD ts us) (J5 et xt xu):=by
 intro B H0 H σ E m D I e q;unfold J5 at e;split at e
 ·next m' hm=>cases e;exact x1 B H0 H σ E m _ I hm q
 ·split at e
  ·next E' hE=>refine h1 B H0 H σ E _ _ I hE ?_;exact fun σ' H1 H1' s1 I1=>x2 B H1 H1' σ' E' m D I1 e fun c a H2 H2' hc s2=>q c a H2 H2' hc (s1.trans s2)
  ·cases e
theorem Jbk{c:TT}{ec:En->Option Bool}(hc:ST K C c ec)(x1:SXS K C W ts xt)(x2:SXS K C W us xu):SXS K C W (JlC c ts us) (Vu ec xt xu):=by
 intro B H0 H σ E m D I e q;obtain⟨k,e1,e⟩:=bind_some e;refine hc B H0 H σ E k _ I e1 fun H1 H1' s1=>?_
 have s1':=s1.ss I.b
 cases k with
 | true=>rw[if_pos rfl] at e ⊢;exact x1 B H1 H1' σ E m D (I.step s1) e fun c a H2 H2' hc s2=>q c a H2 H2' hc (s1'.trans s2)
 | false=>rw[if_neg (by decide)] at e ⊢;exact x2 B H1 H1' σ E m D (I.step s1) e fun c a H2 H2' hc s2=>q c a H2 H2' hc (s1'.trans s2)
theorem JfU(h:SXE K C W te ex):SXS K C W (WL te) ex:=fun B H0 H σ E m D I e q=>h B H0 H σ E m _ I e fun c a H1 H1' hc s1=>q c a H1 H1' hc (s1.ss I.b)
theorem Jeq(h:SXE K C W te ex):SXS K C W (Ji4 te) ex:=fun B H0 H σ E m D I e q=>h B H0 H σ E m _ I e fun c a H1 H1' hc s1=>q c a H1 H1' hc (s1.ss I.b)
theorem JoL{g:TG}(h:SXE K C W te ex):SXS K C W (Jb3 te g) ex:=fun B H0 H σ E m D I e q=>h B H0 H σ E m _ I e fun c a H1 H1' hc s1=>q c a H1 H1' hc (s1.ss I.b)
theorem WP{m:Str}{c:Addr}(hc:nsIn K mainGlobals m=some (some (.ref c)))(ha:SA K C t ev):SXS K C W (Jek c W t) (YZ m ev):=by
 intro B H0 H σ E m' D I e q;obtain⟨ss,e1,e⟩:=bind_some e;split at e
 ·next hl =>
  cases e;refine ha B H0 H σ E ss _ I e1 fun vs H1 H1' s1 r1=>⟨?_,fun a=>q c a H1 H1' hc (s1.ss I.b)⟩
  rw[r1.len];exact QR hl (by decide)
 ·cases e
theorem JlM{T:XK->TE}{ex:Xv}(h:∀W,SXE K C W (T W) ex):SXT K C (Jel T) ex:=fun B H0 H σ E m D W I e q=>h (W σ) B H0 H σ E m _ I e q
end
section
variable{K:Frag}{C:Addr}{B H0 H:Hp}{σ:St}{E:En}
theorem Jf7{N:List Str}{vs:List V}{as:List Sl}(i:Same H0 H)(ra:RRL K C H H0 H vs as)(ho:as.all (fun s=>!JR s)=true):EnvR K C H H0 H (L2.YK N vs) (as++Qw (N.length-as.length) .no):=by
 have lens:=ra.len
 have noOwn:∀(j:Nat) (s:Sl),as[j]?=some s->JR s=false:=fun j s e=>by
  have:=KE.mp ho s (QI e)
  simpa using this
 have get:∀(j:Nat) (s:Sl),(as++Qw (N.length-as.length) Sl.no)[j]?=some s->s=.no\/as[j]?=some s:=fun j s e=>by
  by_cases hj:j<as.length
  ·rw[Qq hj] at e;exact .inr e
  ·rw[QH (by omega),Lp] at e;split at e
   ·cases e;exact .inl rfl
   ·cases e
 refine⟨Same.refl _,i,by simp[L2.YK,lens],fun j s e=>?_,fun j k s1 s2 v hjk e1 e2 w1 w2=>?_⟩
 ·rcases get j s e with z|z
  ·exact .inl z
  ·obtain⟨v,h1,h2⟩:=ra.get z;refine .inr ⟨v,?_,?_⟩
   ·unfold L2.YK;rw[Qq (by have:=(Qg.mp h1).1;simpa using this),Qx,h1];rfl
   ·cases s with
    | no=>trivial
    | sh d=>exact h2
    | bo ds=>exact h2
    | own ds=>exact absurd (noOwn j _ z) (by simp[JR])
    | bd ks ds=>exact h2
    | bt ks ds=>exact h2
    | od ks ds=>exact absurd (noOwn j _ z) (by simp[JR])
    | ot ks ds=>exact absurd (noOwn j _ z) (by simp[JR])
 ·rcases get j _ e1 with z|z
  ·subst z;cases w1
  ·rw[noOwn j _ z] at w1;cases w1
theorem U0{N:List Str}{n:Nat}{b:Es}{x:Xv}{ts:TS}{vs:List V}{Q:VK}{W:XK}(hb:SS K C ts b)(hx:SXS K C W ts x)(h:spX K C n (YM N.length b) (YX N.length x) vs H Q W):ts { nx:=fun _ H'=>Q .non H',rt:=Q } (L2.YK N vs) H:=by
 rcases h with h|⟨H0,as,m,i,ra,ho,hl,e,q⟩
 ·exact Jby hb h
 ·exact hx H H0 H _ _ m _ (Jf7 i ra ho) e fun c a H1 H1' hc s1=>q c a H1 H1' hc ⟨s1.b,s1.z,s1.n,s1.i⟩
theorem EnvR.del(I:EnvR K C B H0 H σ E)(i:Nat):EnvR K C B H0 H (σ.set i none) (E.set i .no):=by
 refine⟨I.b,I.h,by simp[I.len],fun j s e=>?_,fun j k s1 s2 v hjk e1 e2 o1 o2 e3 e4=>?_⟩
 ·rw[QA] at e
  by_cases hj:i=j
  ·rw[if_pos hj] at e;split at e
   ·cases e;exact .inl rfl
   ·cases e
  ·rw[if_neg hj] at e;rcases I.at' j s e with z|⟨v,h1,h2⟩
   ·exact .inl z
   ·exact .inr ⟨v,by rw[QA,if_neg hj];exact h1,h2⟩
 ·have ne:∀(j:Nat) (s:Sl),(E.set i Sl.no)[j]?=some s->JR s=true->i≠j/\E[j]?=some s:=fun j s e o=>by
   rw[QA] at e
   by_cases hj:i=j
   ·rw[if_pos hj] at e;split at e
    ·cases e;cases o
    ·cases e
   ·rw[if_neg hj] at e;exact⟨hj,e⟩
  obtain⟨n1,f1⟩:=ne j s1 e1 o1;obtain⟨n2,f2⟩:=ne k s2 e2 o2;rw[QA,if_neg n1] at e3;rw[QA,if_neg n2] at e4;exact I.sep j k s1 s2 v hjk f1 f2 o1 o2 e3 e4
end
noncomputable def JnC(i:Nat):Out->Out
 | .nx E=>.nx (E.set i .no)
 | .rt r=>.rt r
 | .bk E=>.bk (E.set i .no)
 | .ct E=>.ct (E.set i .no)
noncomputable def Jep(R:List Str)(i:Nat)(b:Es)(x:Xv)(h:Es):Es:=fun E=>match b E with
 | some o=>some o
 | none=>(x E).bind fun m=>if m∈R/\i<E.length then(h (E.set i (.sh (.exc m)))).map (JnC i) else none
section
variable{K:Frag}{C:Addr}
theorem Jqh{R:List Str}{CL:Addr}{i:Nat}{T:(St->XK)->TS}{th:TS}{b h:Es}{x:Xv}(hm:∀m∈R,∀c,nsIn K mainGlobals m=some (some (.ref c))->exmOne K (.ref c) (.ref CL)=some true)
 (hb:∀W,SS K C (T W) b) (hx:SXT K C T x) (hh:SS K C th h):SS K C (Joz K CL i T th) (Jep R i b x h):=by
 intro B H0 H σ E o D I e fin;unfold Jep at e;split at e
 ·next o' hE=>cases e;exact hb _ B H0 H σ E o D I hE fin
 ·obtain⟨m,e1,e⟩:=bind_some e;split at e
  ·next hR =>
   obtain⟨o',e2,rfl⟩:=map_some e;refine hx B H0 H σ E m D _ I e1 fun c a H1 H1' hc s1=>⟨a,rfl,hm m hR.1 c hc,fun ha=>?_⟩
   have ha0:H1 a=none:=by
    cases z:H1 a with
    | none=>rfl
    | some u=>rw[s1.i a u z] at ha;cases ha
   have I1:=I.step s1
   have st:Step H1' H1 H1' (upd H1 a (XO a (.ref c))) (upd H1' a (XO a (.ref c))):=by
    refine⟨fun b u z=>?_,fun b u z=>?_,fun b u z=>?_,fun b u z=>?_⟩
    ·rw[Ji (Jq z ha)];exact z
    ·rw[Ji (Jq z ha0)];exact z
    ·by_cases hb:b=a
     ·subst hb;exact .inr (.inl ha)
     ·rw[Ji hb] at z;exact .inl z
    ·by_cases hb:b=a
     ·subst hb;rw[Jt] at z ⊢;exact z
     ·rw[Ji hb] at z ⊢;exact s1.i b u z
   have I2:EnvR K C B (upd H1 a (XO a (.ref c))) (upd H1' a (XO a (.ref c))) (σ.set i (some (.ref a))) (E.set i (.sh (.exc m))) :=
    I1.put' st hR.2 (show RR K C H1' _ _ (.ref a) (.sh (.exc m)) from RD.exc Jt hc) rfl
   have ss:SStep B H0 (upd H1 a (XO a (.ref c))) (upd H1' a (XO a (.ref c))):=(s1.ss I.b).trans (st.ss I1.b);refine hh B _ _ _ _ o' _ I2 e2 ?_
   cases o' with
   | nx E2=>exact fun σ' H2 H2' s2 I3=>fin _ H2 H2' (ss.trans s2) (I3.del i)
   | bk E2=>exact fun σ' H2 H2' s2 I3=>fin _ H2 H2' (ss.trans s2) (I3.del i)
   | ct E2=>exact fun σ' H2 H2' s2 I3=>fin _ H2 H2' (ss.trans s2) (I3.del i)
   | rt r=>exact fun v H2 H2' s2 r2=>fin v H2 H2' (ss.trans s2) r2
  ·cases e
end
noncomputable def exB(n m:Str):Bool:=n == m || m == "LumpError"
noncomputable def Jqr(R:List Str)(m:Str):D->Option Bool
 | .exc n=>if n∈R then some (exB n m) else none
 | .non=>some false
 | _=>none
noncomputable def WR(R:List Str)(m:Str)(a:Ev):Ev:=fun E=>(a E).bind fun s=>s.d.bind fun d=>(Jqr R m d).map fun b=>.sh (.bl b)
noncomputable def Jo5(R:List Str)(a:Ev):Ev:=fun E=>(a E).bind fun s=>s.d.bind fun d=>(match d with|.exc n=>if n∈R then some true else none|.non=>some false|_=>none).map fun b=>.sh (.bl b)
section
variable{K:Frag}{C:Addr}{te:TE}{ea:Ev}
structure IsiN (K:Frag) (R:List Str) (m:Str) (c:Addr):Prop where
 own:∀n∈R,ExcN K n
 g:ExcG K
 k:∀n∈R,∀c',nsIn K mainGlobals n=some (some (.ref c'))->kitOne K (.ref c') (.ref c)=some (exB n m)
 o:kitOne K (.type "NoneType") (.ref c)=some false
theorem JfE{R:List Str}{m:Str}{c:Addr}(N:IsiN K R m c)(ha:SE K C te ea):SE K C (tCB (JkZ K) (YE te (YE (tC (.ref c)) UV))) (WR R m ea):=by
 intro B H0 H σ E r Q I e q;obtain⟨a,e1,e⟩:=bind_some e;obtain⟨d,e2,e⟩:=bind_some e;obtain⟨b,e3,rfl⟩:=map_some e;refine ha B H0 H σ E a _ I e1 fun x H1 H1' s1 r1=>?_
 have rd:=r1.dat s1.i e2
 cases d with
 | exc n =>
  have e3:(if n∈R then some (exB n m) else none)=some b:=e3;split at e3
  ·next hn=>cases e3;obtain⟨a',c',rfl,hx,hc⟩:=RD.excI rd;exact⟨_,_,_,_,_,rfl,.exc hx hc (N.own n hn) N.g,fun u z=>z,N.k n hn c' hc,q _ _ _ s1 (RD.bl _)⟩
  ·cases e3
 | non=>cases e3;cases RD.nonI rd;exact⟨_,_,_,_,_,rfl,.of (.of .non),fun u z=>z,N.o,q _ _ _ s1 (RD.bl _)⟩
 | _=>cases e3
end
end LE
namespace L2
open PySem PySem.Spec PyProof.Rows PySem.Calls LE
section
variable{X:Cx}
end
end L2
namespace LE
open PySem L2 LR
noncomputable def IsiL(K:Frag)(R:List Str):List Str->List Addr->Prop
 | [],[]=>True
 | m::ms,c::cs=>IsiN K R m c/\IsiL K R ms cs
 | _,_=>False
theorem IsiL.exc{K:Frag}{R:List Str}{n:Str}{c':Addr}(hn:n∈R)(hc:nsIn K mainGlobals n=some (some (.ref c'))):∀{ms:List Str} {cs:List Addr},IsiL K R ms cs->kitAny K (.ref c') (cs.map Value.ref)=some (ms.any (exB n))
 | [],[],_=>rfl
 | m::ms,c::cs,⟨h,t⟩=>by show(match kitOne K (.ref c') (.ref c) with|some true=>some true|some false=>kitAny K (.ref c') (cs.map Value.ref)|none=>none)=_;rw[h.k n hn c' hc,t.exc hn hc,GP];cases exB n m <;> rfl
theorem IsiL.non{K:Frag}{R:List Str}:∀{ms:List Str} {cs:List Addr},IsiL K R ms cs->kitAny K (.type "NoneType") (cs.map Value.ref)=some false
 | [],[],_=>rfl
 | m::ms,c::cs,⟨h,t⟩=>by show(match kitOne K (.type "NoneType") (.ref c) with | some true=>some true | some false=>kitAny K (.type "NoneType") (cs.map Value.ref) | none=>none)=_;rw[h.o,t.non]
section
variable{K:Frag}{C:Addr}{te:TE}{ea:Ev}
structure IsiV (K:Frag) (R:List Str):Prop where
 own:∀n∈R,ExcN K n
 g:ExcG K
 k:∀n∈R,∀c',nsIn K mainGlobals n=some (some (.ref c'))->kitOne K (.ref c') (.type "ValueError")=some true
theorem Jpi{K:Frag}:kitOne K (.type "NoneType") (.type "ValueError")=some false:=by kernel_rfl
theorem Jp3{R:List Str}(N:IsiV K R)(ha:SE K C te ea):SE K C (tCB (JkZ K) (YE te (YE (tC (.ty "ValueError")) UV))) (Jo5 R ea):=by
 intro B H0 H σ E r Q I e q;obtain⟨a,e1,e⟩:=bind_some e;obtain⟨d,e2,e⟩:=bind_some e;obtain⟨b,e3,rfl⟩:=map_some e;refine ha B H0 H σ E a _ I e1 fun x H1 H1' s1 r1=>?_
 have rd:=r1.dat s1.i e2
 cases d with
 | exc n =>
  have e3:(if n∈R then some true else none)=some b:=e3;split at e3
  ·next hn=>cases e3;obtain⟨a',c',rfl,hx,hc⟩:=RD.excI rd;exact⟨_,_,_,_,_,rfl,.exc hx hc (N.own n hn) N.g,fun u z=>z,N.k n hn c' hc,q _ _ _ s1 (RD.bl _)⟩
  ·cases e3
 | non=>cases e3;cases RD.nonI rd;exact⟨_,_,_,_,_,rfl,.of (.of .non),fun u z=>z,Jpi,q _ _ _ s1 (RD.bl _)⟩
 | _=>cases e3
end
end LE

namespace L2
open PySem PySem.Spec PyProof.Rows PySem.Calls LE
theorem Jay:bootBuiltins "ValueError"=some (.type "ValueError"):=by decide +kernel
section
variable{X:Cx}{K:Frag}
theorem J7(h:X.K=K):CallR X (.builtin "isinstance") (JkZ K):=by subst h;exact Jhb
theorem JkX{body suite:List Stmt}{b₀:Stmt}{i:Nat}{n cn:Str}{np hpos pos:Pos}{CL:Addr}{T:(St->XK)->TS}{th:TS}(h:X.K=K)(hs:X.stack=X.env::X.outer)(hf:X.env.frame=some X.env.locals)(hx:X.ex=[])(hN:X.N.Nodup)(hi:X.N[i]?=some n)(hk:X.env.kindOf n=some .local)(hg:Gl X cn)(hm:X.mg cn=some (.ref CL))
 (hb:Jmo X body T) (hh:∀a,PSs (X.hand a) (b₀::suite) th) (hdb:(cn == ("__debug__":Str))=false:=by decide) :
 PS X (.Try body [.ExceptHandler (some (.Name cn np)) (some n) (b₀::suite) hpos] [] [] pos) (Joz K CL i T th):=by subst h;exact JnR hs hf hx hN hi hk hg hm hb hh hdb
theorem VU{x:Str}{np cpos pos:Pos}{C:Addr}{E:XK}{e:Expr}{es:List Expr}{t:TA}(h:X.K=K)(ok:excIn K C VEm "ValueError.__new__"=true)(hg:Gl X x)(hm:X.mg x=some (.ref C))(hc:X.calm=true)(hx:XOk X E)(ha:PA X (e::es) t)(hdb:(x == ("__debug__":Str))=false:=by decide)
 (he:starEach (e::es) X.env=(false,eval e X.env)::starEach es X.env:=by rfl) (hpl:(backTo cpos (starEach es X.env)).any (·.1)=false:=by rfl) :
 PS X (.Raise (some (.Call (.Name x np) (e::es) [] cpos)) none pos) (Jek C E t):=by subst h;exact Jim ok hg hm hc hx ha hdb he hpl
end
end L2
namespace LE
open PySem L2 LR
section
variable{K:Frag}{C:Addr}{ts:TS}
theorem Uu:SS K C ts Ya:=fun _ _ _ _ _ _ _ _ e _=>by cases e
theorem Jji{T:XK->TE}{ea:Ev}(h:∀W,SE K C (T W) ea)(W:St->XK):SS K C (Jel T W) (Vn ea):=Wl (te:=fun σ H Q=>T (W σ) σ H Q) fun B H0 H σ E r Q I e q=>h (W σ) B H0 H σ E r Q I e q
structure AtX (K:Frag) (n:Str) (c:Addr):Prop where
 ns:nsIn K mainGlobals n=some (some (.ref c))
 ok:excIn K c VEm "ValueError.__new__"=true
 ga:findIn K (.ref c) "__getattribute__"=some (some (.builtin "BaseException.__getattribute__"))
 gn:findIn K (.ref c) "__getattr__"=some none
 mb:mroIn K c (.type "BaseException")=some true
 hd:hasDictIn K c=true
 fi:findIn K (.ref c) "__class__"=some (some (.builtin "object.__class__"))
 mr:mroIn K c (.type "object")=some true
theorem AtX.n{n:Str}{c:Addr}(h:AtX K n c):ExcN K n:=⟨⟨c,h.ns,h.ok⟩,fun c' e=>by have:=h.ns.symm.trans e;cases this;exact⟨h.ga,h.gn,h.mb,h.hd,h.fi,h.mr⟩⟩
noncomputable def OwnL(K:Frag):List Str->List Addr->Prop
 | [],[]=>True
 | n::ns,c::cs=>AtX K n c/\OwnL K ns cs
 | _,_=>False
theorem JkM:OwnL K [] []:=trivial
theorem Jaf{ns:List Str}{cs:List Addr}{n:Str}{c:Addr}(h:AtX K n c)(t:OwnL K ns cs):OwnL K (n::ns) (c::cs):=⟨h,t⟩
theorem OwnL.all:∀{ns:List Str} {cs:List Addr},OwnL K ns cs->∀n∈ns,ExcN K n
 | [],[],_,n,h=>nomatch h
 | m::ns,c::cs,⟨h,t⟩,n,hn=>by
  rcases Qh.mp hn with e|e
  ·rw[e];exact h.n
  ·exact t.all n e
noncomputable def ExmL(K:Frag)(CL:Addr):List Addr->Prop
 | []=>True
 | c::cs=>exmOne K (.ref c) (.ref CL)=some true/\ExmL K CL cs
theorem JjQ{CL:Addr}:ExmL K CL []:=trivial
theorem ZI{CL c:Addr}{cs:List Addr}(h:exmOne K (.ref c) (.ref CL)=some true)(t:ExmL K CL cs):ExmL K CL (c::cs):=⟨h,t⟩
theorem ExmL.all{CL:Addr}:∀{ns:List Str} {cs:List Addr},OwnL K ns cs->ExmL K CL cs->∀m∈ns,∀c,nsIn K mainGlobals m=some (some (.ref c))->exmOne K (.ref c) (.ref CL)=some true
 | [],[],_,_,n,h=>nomatch h
 | m::ns,c::cs,⟨h,t⟩,⟨h',t'⟩,n,hn=>fun c' e=>by
  rcases Qh.mp hn with z|z
  ·rw[z,h.ns] at e;cases e;exact h'
  ·exact t'.all t n z c' e
noncomputable def KitL(K:Frag)(m:Str)(c:Addr):List Str->List Addr->Prop
 | [],[]=>True
 | n::ns,d::ds=>kitOne K (.ref d) (.ref c)=some (exB n m)/\KitL K m c ns ds
 | _,_=>False
theorem Ur{m:Str}{c:Addr}:KitL K m c [] []:=trivial
theorem JA{m n:Str}{c d:Addr}{ns:List Str}{ds:List Addr}{b:Bool}(h:kitOne K (.ref d) (.ref c)=some b)(e:exB n m=b)(t:KitL K m c ns ds):KitL K m c (n::ns) (d::ds):=⟨by rw[e];exact h,t⟩
theorem KitL.all{m:Str}{c:Addr}:∀{ns:List Str} {cs:List Addr},OwnL K ns cs->KitL K m c ns cs->∀n∈ns,∀c',nsIn K mainGlobals n=some (some (.ref c'))->kitOne K (.ref c') (.ref c)=some (exB n m)
 | [],[],_,_,n,h=>nomatch h
 | m::ns,c::cs,⟨h,t⟩,⟨h',t'⟩,n,hn=>fun c' e=>by
  rcases Qh.mp hn with z|z
  ·rw[z] at e ⊢;rw[h.ns] at e;cases e;exact h'
  ·exact t'.all t n z c' e
theorem Uq{m:Str}{c:Addr}{ns:List Str}{cs:List Addr}(o:OwnL K ns cs)(g:ExcG K)(k:KitL K m c ns cs)(z:kitOne K (.type "NoneType") (.ref c)=some false):IsiN K ns m c:=⟨o.all,g,k.all o,z⟩
noncomputable def KivL(K:Frag):List Addr->Prop
 | []=>True
 | c::cs=>kitOne K (.ref c) (.type "ValueError")=some true/\KivL K cs
theorem Jkk:KivL K []:=trivial
theorem ZU{c:Addr}{cs:List Addr}(h:kitOne K (.ref c) (.type "ValueError")=some true)(t:KivL K cs):KivL K (c::cs):=⟨h,t⟩
theorem KivL.all:∀{ns:List Str} {cs:List Addr},OwnL K ns cs->KivL K cs->∀n∈ns,∀c',nsIn K mainGlobals n=some (some (.ref c'))->kitOne K (.ref c') (.type "ValueError")=some true
 | [],[],_,_,n,h=>nomatch h
 | m::ns,c::cs,⟨h,t⟩,⟨h',t'⟩,n,hn=>fun c' e=>by
  rcases Qh.mp hn with z|z
  ·rw[z,h.ns] at e;cases e;exact h'
  ·exact t'.all t n z c' e
theorem Jkg{ns:List Str}{cs:List Addr}(o:OwnL K ns cs)(g:ExcG K)(k:KivL K cs):IsiV K ns:=⟨o.all,g,k.all o⟩
end
section
variable(K:Frag)(C:Addr)
noncomputable def SXA(W:XK)(t:TA)(ex:Xv):Prop:=∀(B H0 H:Hp) (σ:St) (E:En) (m:Str) (Q:List V->Hp->Prop),EnvR K C B H0 H σ E->ex E=some m ->
 (∀c a H0' H',nsIn K mainGlobals m=some (some (.ref c))->Step H H0 H H0' H'->W (.ref c) (some a) H')->t σ H Q
noncomputable def SXI(W:XK)(wi:TI)(ex:Xv):Prop:=∀(B H0 H:Hp) (σ:St) (E:En) (m:Str) (R:It->Hp->Prop),EnvR K C B H0 H σ E->ex E=some m ->
 (∀c a H0' H',nsIn K mainGlobals m=some (some (.ref c))->Step H H0 H H0' H'->W (.ref c) (some a) H')->wi σ H R
end
noncomputable def exC(a:Ev)(ea er:Xv):Xv:=fun E=>match ea E with
 | some m=>some m
 | none=>(a E).bind fun _=>er E
section
variable{K:Frag}{C:Addr}{W:XK}{ta te:TE}{t tr:TA}{ea:Ev}{xa xr ex:Xv}{wi:TI}
theorem Jjk:SXA K C W t Yw:=fun _ _ _ _ _ _ _ _ e _=>by cases e
theorem JfT(ha:SE K C ta ea)(x1:SXE K C W ta xa)(x2:SXA K C W tr xr):SXA K C W (YE ta tr) (exC ea xa xr):=by
 intro B H0 H σ E m Q I e q;unfold exC at e;split at e
 ·next m' hm=>cases e;exact x1 B H0 H σ E m _ I hm q
 ·obtain⟨a,e1,e⟩:=bind_some e;exact ha B H0 H σ E a _ I e1 fun x H1 H1' s1 r1=>x2 B H1 H1' σ E m _ (I.step s1) e fun c a H2 H2' hc s2=>q c a H2 H2' hc (s1.trans s2)
theorem Jjj{g:TG}{tb:TS}(h:SXI K C W wi ex):SXS K C W (JgO wi g tb) ex:=fun B H0 H σ E m D I e q=>h B H0 H σ E m _ I e fun c a H1 H1' hc s1=>q c a H1 H1' hc (s1.ss I.b)
end
end LE

namespace LE
open PySem L2 LR
noncomputable def Uz(p:Pt)(b:Es)(x:Xv):List D->Xv
 | []=>fun _=>none
 | d::ds=>fun E=>(p.bind d E).bind fun E1=>match x E1 with
  | some m=>some m
  | none=>match b E1 with
   | some (.nx E2)=>Uz p b x ds E2
   | some (.ct E2)=>Uz p b x ds E2
   | _=>none
noncomputable def JeR(it:En->Option (List D))(p:Pt)(b:Es)(x:Xv):Xv:=fun E=>(it E).bind fun ds=>Uz p b x ds E
section
variable{K:Frag}{C:Addr}{W:XK}{t:TS}{et:Es}{xt:Xv}
theorem JlN{wi:TI}{g:TG}{it:En->Option (List LE.D)}{p:Pt}(hi:SI K C false wi it)(hg:SG K C g p)(ht:SS K C t et)(hx:SXS K C W t xt):SXS K C W (JgO wi g t) (JeR it p et xt):=by
 intro B H0 H σ E m D I e f;obtain⟨ds,e1,e⟩:=bind_some e;refine hi B H0 H σ E ds _ I e1 fun J H1 H1' s1 ok=>?_
 rw[if_neg (by simp)] at ok;refine⟨fun i k σ' H'=>k=ds.length-i/\i<=ds.length/\∃H0' E',EnvR K C B H0' H' σ' E'/\SStep B H1 H0' H'/\Uz p et xt (ds.drop i) E'=some m,
  ⟨ds.length,by simp,Gn _,H1,E,I.step s1,.refl (I.b.trans s1.h) s1.i,e⟩,?_⟩
 rintro i k σ' H' ⟨rfl,hi',H0',E',I',st,er⟩;have stop:=ok H0' H' st
 by_cases hlt:i<ds.length
 ·have hd:ds[i]?=some ds[i]:=by simp[hlt]
  obtain⟨go,yl⟩:=stop.1 i _ hd;refine .inr ⟨go,fun σ2 H2=>∃H02 E2,EnvR K C B H02 H2 σ2 E2/\SStep B H1 H02 H2/\Uz p et xt (ds.drop (i+1)) E2=some m,fun σ2 H2 h=>⟨ds.length-(i+1),by omega,rfl,hlt,h⟩,fun x H2 y=>?_⟩;obtain⟨H02,st2,rx⟩:=yl x H2 y;rw[Kj hlt,Uz] at er;obtain⟨E1,b1,er⟩:=bind_some er;have ss2:SStep B H0' H02 H2:=st2.ss I'.b;have all:SStep B H0 H02 H2:=((s1.ss I.b).trans st).trans ss2;refine hg B H02 H2 σ' E' E1 x _ _ (I'.step st2) rx b1 fun σ2 I2=>?_
  split at er
  ·next m' hm=>cases er;exact hx B H02 H2 σ2 E1 m _ I2 hm fun c a H3 H3' hc s3=>f c a H3 H3' hc (all.trans s3)
  ·split at er
   ·next E2 hb=>exact ht B H02 H2 σ2 E1 _ _ I2 hb fun σ3 H3 H3' s3 I3=>⟨H3,E2,I3,(st.trans ss2).trans s3,er⟩
   ·next E2 hb=>exact ht B H02 H2 σ2 E1 _ _ I2 hb fun σ3 H3 H3' s3 I3=>⟨H3,E2,I3,(st.trans ss2).trans s3,er⟩
   ·cases er
 ·have e3:i=ds.length:=by omega
  subst e3;rw[MG,Uz] at er;cases er
end
end LE
namespace L2
open PySem PySem.Spec PyProof.Rows PySem.Calls LE
structure RoomH (k:Nat) (A:Around):Prop where
 dp:A.depth+3*k+5<recursionLimit
 un:A.units+16*k+200<cLine
theorem Room.h{k:Nat}{A:Around}(r:Room k A):RoomH k A:=⟨r.dp,r.un⟩
theorem RoomH.mono{j k:Nat}{A:Around}(r:RoomH k A)(h:j<=k):RoomH j A:=⟨by have:=r.dp;omega,by have:=r.un;omega⟩
theorem RoomH.mark{k:Nat}{A:Around}(r:RoomH k A)(v:Option Value):RoomH k (A.mark v):=⟨r.dp,r.un⟩
theorem RoomH.deeper{k:Nat}{A:Around}(r:RoomH (k+1) A)(env:Env):RoomH k (A.deeper env) :=
 ⟨by have:=r.dp;show A.depth+1+3*k+5<_;omega,by have:=r.un;show A.units+3+16*k+200<_;omega⟩
theorem RoomH.units{k:Nat}{A:Around}(r:RoomH k A):A.units+64<cLine:=by have:=r.un;omega
noncomputable abbrev cxH(P:Program)(w:World)(K:Frag)(mg:Str->Option Value)(base:Heap)(N:List Str)(qual:Str)(scope:Scope)(f:Addr)(cd:Value)(A:Around)(outer:List Env)(s:Shared)(H:Hp)(E:XK):Cx :=
 { Zh CX0 P w K mg base N qual scope f cd A outer s H E with calm:=false,xe:=fun _ _=>False }
structure FnH (P:Program) (w:World) (K:Frag) (mg:Str->Option Value) (base:Heap) (k:Nat) (f:Addr) (fd:FuncData) (ps:List Str) (sp:Sp):Prop where
 len:∀vs H Q E,sp vs H Q E->vs.length=ps.length
 run:∀(A:Around) (outer:List Env) (s:Shared) (H:Hp) (args:Args) (us:List Value) (vs:List V) (Q:VK) (E:XK),RoomH k A->Env0 P w K mg base A outer s H->BindsTo s fd args (ps.zip us)->Vals vs us->sp vs H Q E ->
  codeAny (model P w) A (.call (.ref f) args) (CR CX0 outer P w H s Q E) s
theorem JmP{P:Program}{w:World}{K:Frag}{mg:Str->Option Value}{base:Heap}{k:Nat}{f:Addr}{name qual:Str}{params:Arguments}{body:List Stmt}{scope:Scope}{dV kV doc pm cdv ct oc:Value}{an od:Option Addr}
 {osl:Array (Option Value)} {N ps:List Str} {sp:Sp} (lk:K.lookup f=some ⟨oc,od,.func (fnOf name qual params body scope dV kV doc pm an cdv ct),osl⟩) (hcd:codeIn K cdv qual=true) (S:FnScope N ps scope)
 (len:∀vs H Q E,sp vs H Q E->vs.length=ps.length)
 (hbody:∀(A:Around) (outer:List Env) (s:Shared) (H:Hp) (vs:List V) (Q:VK) (E:XK),RoomH k (A.deeper (envOfC qual scope s.heap.objs.size f cdv))->sp vs H Q E ->
  ∃t,PSs (cxH P w K mg base N qual scope f cdv A outer s H E) body t/\t { nx:=fun _ H'=>Q .non H',rt:=Q } (YK N vs) H) :
 FnH P w K mg base (k+1) f (fnOf name qual params body scope dV kV doc pm an cdv ct) ps sp:=by
 refine⟨len,fun A outer s H args us vs Q E hr e0 hb r hsp=>?_⟩;have hl:=len _ _ _ _ hsp;have KX:K.In s.heap:=e0.mod.kin.keeps fun b o e=>(e0.bs b o e).1
 have lim:s.heap.NoLimit:=e0.mod.nolimit.keeps fun b o e=>(e0.bs b o e).1
 have hkind:∀y∈ps.zip us,scope.names.lookup y.1=some .local\/(scope.names.lookup y.1=some .cell/\((cellsFrom (s.heap.objs.size+1) scope.names []).lookup y.1).isSome=true):=fun⟨n,v⟩ hy=>by
  rcases S.par n (Km hy).1 with q|q
  ·exact .inl q
  ·exact .inr ⟨q,cellsFrom_some _ _ _ (.inl q)⟩
 have dep:A.depth<recursionLimit:=by have:=hr.dp;omega
 refine codeAny_call_function dep (KX _ _ lk) rfl S.co S.gen rfl (Rr KX hcd) (hb _ _ _ _ ?_);refine L9 S.kind hkind fun env he s1 x=>?_
 subst he;refine⟨lim.keeps x.toInCall.keep,codeAny_func ?_⟩;obtain⟨t,ht,hq⟩:=hbody A outer s H vs Q E (hr.deeper _) hsp;have e1:Env0 P w K mg base { A with handled:=none } outer s H:=⟨e0.frames,e0.mod,e0.bs,e0.bsz,e0.funs,e0.frf,e0.hok,e0.bare⟩
 have I0:Inv (Zh CX0 P w K mg base N qual scope f cdv { A with handled:=none } outer s H E) [] (YK N vs) H s1:=Ja1 S rfl e1 hl r x
 have I:Inv (cxH P w K mg base N qual scope f cdv A outer s H E) [] (YK N vs) H s1 :=
  ⟨⟨I0.ok.mod,I0.ok.kind,I0.ok.glob,I0.ok.blt,I0.ok.above,I0.ok.inj,I0.ok.has,I0.ok.cab,(fun h=>nomatch h),Ra e0.frames,I0.ok.stk,I0.ok.exf,I0.ok.bs,I0.ok.bsz,I0.ok.noex,I0.ok.exfs,I0.ok.funs,I0.ok.frf⟩,I0.os,I0.bare,I0.base,I0.loc,I0.cell,I0.free,I0.freeC,I0.pin,I0.hok,I0.len⟩
 refine GC (ht [] s1 (YK N vs) H _ I hq) (fun fl s' hs=>?_) fun e s' hs=>Q7 hs
 have fin:∀{σ':St} {H':Hp} {v:V} {u:Value},Inv (cxH P w K mg base N qual scope f cdv A outer s H E) [] σ' H' s'->RelV v u->Q v H'->CE outer P w H s Q u s' :=
  fun {σ' H' v u} J rv q=>⟨v,H',J.os,J.bare,J.base,J.hok,rv,q⟩
 cases fl with
 | ret u=>obtain⟨v,σ',H',J,rv,q⟩:=hs;exact fin J rv q
 | next=>obtain⟨σ',H',J,q⟩:=hs;exact fin (v:=V.non) (u:=Value.none) J rfl q
 | brk=>obtain⟨_,_,_,q⟩:=hs;exact Q7 q
 | cont=>obtain⟨_,_,_,q⟩:=hs;exact Q7 q
theorem Fun.okH{P:Program}{w:World}{K:Frag}{mg:Str->Option Value}{base:Heap}{x qual:Str}{st:Stmt}{f:Addr}{fd:FuncData}{N ps:List Str}{k:Nat}{sp:Sp}(F:Fun K x qual st f fd)(S:FnScope N ps (Jj st))(len:∀vs H Q E,sp vs H Q E->vs.length=ps.length)
 (hbody:∀(cdv:Value) (A:Around) (outer:List Env) (s:Shared) (H:Hp) (vs:List V) (Q:VK) (E:XK),RoomH k (A.deeper (envOfC qual (Jj st) s.heap.objs.size f cdv))->sp vs H Q E ->
  ∃t,PSs (cxH P w K mg base N qual (Jj st) f cdv A outer s H E) (YF st) t/\t { nx:=fun _ H'=>Q .non H',rt:=Q } (YK N vs) H):FnH P w K mg base (k+1) f fd ps sp:=by
 obtain⟨oc,od,kV,doc,pm,an,cdv,ct,osl,rfl,lk,hcd⟩:=F.ex;exact JmP lk hcd S len fun A outer s H vs Q E hr hsp=>hbody cdv A outer s H vs Q E hr hsp
theorem FnH.ok{P:Program}{w:World}{K:Frag}{mg:Str->Option Value}{base:Heap}{k:Nat}{f:Addr}{fd:FuncData}{ps:List Str}{sp:Sp}(F:FnH P w K mg base k f fd ps sp):FnOk P w K mg base CX0 k f fd ps sp :=
 ⟨F.len,fun A outer s H args us vs Q E hr=>F.run A outer s H args us vs Q E hr.h⟩
structure CalH (P:Program) (w:World) (K:Frag) (mg:Str->Option Value) (base:Heap) (x:Str) (k:Nat) (ps:List Str) (sp:Sp):Prop where
 ex:∃(f:Addr) (fd:FuncData),FnH P w K mg base k f fd ps sp/\mg x=some (.ref f)/\keepIn K (.ref f)=true/\Binds K fd ps []
section
variable{X:Cx}{k:Nat}{ps:List Str}{sp:Sp}{x:Str}{p pos:Pos}{e:Expr}{es:List Expr}{t:TA}
theorem Jie(c:CalH X.prog X.w X.K X.mg X.base x k ps sp)(hr:RoomH k X.A)(hg:Gl X x)(ha:PA X (e::es) t)(hdb:(x == ("__debug__":Str))=false:=by decide)
 (he:starEach (e::es) X.env=(false,eval e X.env)::starEach es X.env:=by rfl) (hpl:(backTo pos (starEach es X.env)).any (·.1)=false:=by rfl):PE X (.Call (.Name x p) (e::es) [] pos) (WK sp [] E0 t):=by
 obtain⟨f,fd,F,h1,h2,h3⟩:=c.ex;intro pins s σ H Q I h;refine Ke (Vf I hg h1 ?_ hdb);refine callWith_K (h₀:=X.base) I.ok.mod.kin h2 (thn (ha pos pins s σ H _ I h) fun us s1 ⟨vs,H1,I1,r,q⟩=>⟨I1.kIn,?_⟩) he hpl;have r2:Vals (vs++[]) (us++[]):=r.append .nil;have hl:(us++[]).length=ps.length:=by rw[<- r2.length];exact F.len _ _ _ _ q
 refine MQ (G8 (F.run X.A X.stack s1 H1 ⟨us,[]⟩ (us++[]) (vs++[]) Q E0 hr I1.env0 (h3 s1 us I1.kIn hl) r2 q) fun r s' hq=>?_)
 cases r with
 | error e=>exact Q7 hq
 | ok fl =>
  cases fl with
  | ret u=>exact I1.after hq
  | next=>exact Q7 hq
  | brk=>exact Q7 hq
  | cont=>exact Q7 hq
end
end L2

namespace L2
open PySem PySem.Spec PyProof.Rows PySem.Calls LE
structure CalMX (P:Program) (w:World) (K:Frag) (mg:Str->Option Value) (base:Heap) (x:Str) (C:Addr) (k:Nat) (ps:List Str) (sp:Sp):Prop where
 ex:∃(f:Addr) (fd:FuncData),Mk K C f/\FnOk P w K mg base (CX1 P w) k f fd ps sp/\mg x=some (.ref C)/\Binds K fd ps []
section
variable{X:Cx}{k:Nat}{C:Addr}{ps:List Str}{sp:Sp}{x:Str}{p pos:Pos}{e:Expr}{es:List Expr}{t:TA}
end
end L2
namespace LE
open PySem L2 LR
section
variable(K:Frag)(C:Addr)
end
section
variable{K:Frag}{C:Addr}{W:XK}{t:TA}{ev:En->Option (List Sl)}{H0 H H2:Hp}
noncomputable def Jg1(ss:List Sl):Bool:=ss.all fun s=>!JR s
theorem RRL.more{vs:List V}{ss:List Sl}(st:Same H H2):Jg1 ss=true->RRL K C H H0 H vs ss->RRL K C H2 H0 H2 vs ss:=fun ho r=>by
 revert ho
 induction r with
 | nil=>exact fun _=>.nil
 | @cons v s vs ss h _ ih =>
  intro ho
  have hs:JR s=false/\Jg1 ss=true:=by unfold Jg1 at ho ⊢;rw[List.all_cons,Qv] at ho;exact⟨by simpa using ho.1,ho.2⟩
  refine .cons ?_ (ih hs.2)
  cases s with
  | no=>exact h
  | sh d=>exact h
  | bo ds=>obtain⟨l,xs,e,g,q⟩:=h;exact⟨l,xs,e,st _ _ g,q⟩
  | bd ks ds=>obtain⟨l,xs,e,g,q⟩:=h;exact⟨l,xs,e,st _ _ g,q⟩
  | bt ks ds=>obtain⟨l,xs,e,g,q⟩:=h;exact⟨l,xs,e,st _ _ g,q⟩
  | own ds=>exact absurd hs.1 (by simp[JR])
  | od ks ds=>exact absurd hs.1 (by simp[JR])
  | ot ks ds=>exact absurd hs.1 (by simp[JR])
end
end LE

namespace L2
open PySem PySem.Spec PyProof.Rows PySem.Calls
theorem Wq(a b:Bool):MeetsSeq.EqGives (.bool a) (.bool b) (a == b):=fun prog w A E s Q h=>by
 unfold eqBool;show wpAny _ _ (if (Value.bool a == Value.bool b)=true then _ else _) Q E s
 by_cases hab:(Value.bool a == Value.bool b)=true
 ·rw[if_pos hab];have e:a=b:=by have:=eq_of_beq hab;injection this
  subst e;exact Qa (G5 (Qd (by simpa using h)))
 ·rw[if_neg hab];exact Qa (PyProof.Rows.eq_bool (Ko h))
theorem Zz:∀{bs:List Bool} {its:List Value},Vals (bs.map V.bl) its->its=bs.map Value.bool
 | [],_,r=>by cases r;rfl
 | b::bs,_,r=>by
  cases r with
  | cons h t=>cases (show _=Value.bool b from h);rw[Zz t];rfl
noncomputable def Jfw:V->List V->Hp->VK->Prop:=fun x vs H Q=>∃(l:Addr) (bs:List Bool) (b:Bool),x=.ref l/\vs=[.bl b]/\H l=some (.lst (bs.map V.bl))/\Q (.int (bs.count b:Nat)) H
noncomputable def Jfz:V->List V->Hp->VK->Prop:=fun x vs H Q=>∃(l:Addr) (bs:List Bool) (b:Bool),x=.ref l/\vs=[.bl b]/\H l=some (.lst (bs.map V.bl))/\b∈bs/\Q (.int (bs.idxOf b:Nat)) H
noncomputable def efB(b:Bool):Value->Bool:=fun v=>match v with
 | .bool a=>a == b
 | _=>false
theorem JaT(b:Bool):∀bs:List Bool,(bs.map Value.bool).countP (efB b)=bs.count b
 | []=>rfl
 | a::bs=>by rw[Qi,List.countP_cons,JaT b bs,Ll];rfl
theorem JhK(b:Bool):∀(bs:List Bool) (m:Nat) (h:m<bs.length),m<bs.idxOf b->bs[m]≠b
 | [],m,h,_=>absurd h (Nat.not_lt_zero _)
 | a::bs,0,_,hm=>fun e=>by have e':a=b:=e;rw[List.idxOf_cons,e'] at hm;simp at hm
 | a::bs,m+1,h,hm=>by
  have hm':m<bs.idxOf b:=by
   rw[List.idxOf_cons] at hm
   cases z:(a == b) with
   | true=>rw[z] at hm;simp at hm
   | false=>rw[z] at hm;simp at hm;exact hm
  show bs[m]'(by simpa using h)≠b;exact JhK b bs m (by simpa using h) hm'
section
variable{X:Cx}
theorem Ja6:MtR X "list.count" Jfw:=by
 intro pins s σ H x vs v us Q I rx rv h;obtain⟨l,bs,b,rfl,rfl,hH,q⟩:=h;cases rx;obtain⟨u,rfl,hu⟩:=rv.one;cases (show u=Value.bool b from hu);obtain⟨z,its,n,r,hl,e⟩:=I.lstM hH;cases Zz r;refine call_meets F.slot_list_count ⟨_,e,rfl⟩ F.entry_list_count (F.args_list_count_2 _ _) (Rl l (bs.map Value.bool).toArray n (.bool b) (efB b) (fun y hy=>?_)) ⟨e,?_⟩
 ·have hy':y∈bs.map Value.bool:=by simpa using hy
  obtain⟨a,_,rfl⟩:=QQ.mp hy';exact Wq a b
 ·refine⟨.int (bs.count b:Nat),H,I.tok _,⟨s.toks,?_⟩,q⟩;show Value.int (((bs.map Value.bool).countP (efB b):Nat):Int) s.toks=_;rw[JaT]
theorem Jgy:MtR X "list.index" Jfz:=by
 intro pins s σ H x vs v us Q I rx rv h;obtain⟨l,bs,b,rfl,rfl,hH,hm,q⟩:=h;cases rx;obtain⟨u,rfl,hu⟩:=rv.one;cases (show u=Value.bool b from hu);obtain⟨z,its,n,r,hl,e⟩:=I.lstM hH;cases Zz r;have hj:bs.idxOf b<bs.length:=List.idxOf_lt_length_of_mem hm;have hz:bs.length<=sizeLine:=by simpa using z
 refine call_meets F.slot_list_index ⟨_,e,rfl⟩ F.entry_list_index (F.args_list_index_2 _ _) (MeetsSeq.list_index l (bs.map Value.bool).toArray n (.bool b) (efB b) (fun y hy=>?_) (bs.idxOf b) (by simpa using hj) ?_ ?_ (fun m hm hmj=>?_)) ⟨e,?_⟩
 ·have hy':y∈bs.map Value.bool:=by simpa using hy
  obtain⟨a,_,rfl⟩:=QQ.mp hy';exact Wq a b
 ·have:(sizeLine:Int)<2 ^ 63-1:=by decide
  omega
 ·show efB b ((bs.map Value.bool).toArray[bs.idxOf b]'_)=true;rw[Rf,List.getElem_map]
  show(bs[bs.idxOf b] == b)=true;rw[List.getElem_idxOf hj];simp
 ·have hm':m<bs.length:=by simpa using hm
  show efB b ((bs.map Value.bool).toArray[m]'_)=false;rw[Rf,List.getElem_map]
  show(bs[m] == b)=false
  have:=JhK b bs m hm' hmj
  simpa using this
 ·exact⟨.int (bs.idxOf b:Nat),H,I.tok _,⟨s.toks,rfl⟩,q⟩
end
end L2
namespace LE
open PySem L2 LR
noncomputable def lst?:Sl->Option (List D)
 | .bo ds=>some ds
 | .own ds=>some ds
 | .sh (.lst ds)=>some ds
 | _=>none
noncomputable def eMB(f:List Bool->Bool->Option Int)(o a:Ev):Ev:=fun E=>(o E).bind fun s=>(lst? s).bind fun ds=>(bls? ds).bind fun bs=>(a E).bind fun y=>(bool? y).bind fun b=>(f bs b).map fun i=>.sh (.int i)
noncomputable def JmH(bs:List Bool)(b:Bool):Option Int:=some (bs.count b:Nat)
noncomputable def JmI(bs:List Bool)(b:Bool):Option Int:=if b∈bs then some (bs.idxOf b:Nat) else none
section
variable{K:Frag}{C:Addr}{to te:TE}{eo ea:Ev}{Hs H0 H:Hp}{v:V}
theorem RR.lst{s:Sl}{ds:List D}(i:Same H0 H)(r:RR K C Hs H0 H v s)(e:lst? s=some ds):∃l xs,v=.ref l/\H l=some (.lst xs)/\RDL K C H0 xs ds:=by
 cases s with
 | bo es=>cases e;exact r
 | own es=>cases e;obtain⟨l,xs,e,h,_,_,q⟩:=r;exact⟨l,xs,e,h,q⟩
 | sh d =>
  cases d with
  | lst es=>cases e;obtain⟨l,xs,e,h,q⟩:=RD.lstI r;exact⟨l,xs,e,i _ _ h,q⟩
  | _=>cases e
 | _=>cases e
theorem Jp5{rm:V->List V->Hp->VK->Prop}{f:List Bool->Bool->Option Int}(hm:∀(l:Addr) (bs:List Bool) (b:Bool) (i:Int) (H:Hp) (Q:VK),H l=some (.lst (bs.map V.bl))->f bs b=some i->Q (.int i) H->rm (.ref l) [.bl b] H Q)
 (ho:SE K C to eo) (ha:SE K C te ea):SE K C (tBM K "list" rm to (YE te UV)) (eMB f eo ea):=by
 intro B H0 H σ E r Q I e q;obtain⟨s,e1,e⟩:=bind_some e;obtain⟨ds,e2,e⟩:=bind_some e;obtain⟨bs,e3,e⟩:=bind_some e;obtain⟨y,e4,e⟩:=bind_some e;obtain⟨b,e5,e⟩:=bind_some e;obtain⟨i,e6,rfl⟩:=map_some e;refine ho B H0 H σ E s _ I e1 fun x H1 H1' s1 r1=>?_
 obtain⟨l,xs,rfl,hl,rl⟩:=r1.lst s1.i e2;refine⟨.inl ⟨rfl,_,.of hl⟩,?_⟩;refine ha B H1 H1' σ E y _ (I.step s1) e4 fun u H2 H2' s2 r2=>?_
 rw[VM e5] at r2;cases RD.blI r2;rw[Jcg e3] at rl;have hx:=RDL.bls rl;subst hx;exact hm l bs b i H2' Q (s2.h _ _ hl) e6 (q _ _ _ (s1.trans s2) (RD.int i))
theorem JfD(ho:SE K C to eo)(ha:SE K C te ea):SE K C (tBM K "list" Jfw to (YE te UV)) (eMB JmH eo ea) :=
 Jp5 (fun l bs b i H Q h e q=>by cases e;exact⟨l,bs,b,rfl,rfl,h,q⟩) ho ha
theorem Jll(ho:SE K C to eo)(ha:SE K C te ea):SE K C (tBM K "list" Jfz to (YE te UV)) (eMB JmI eo ea) :=
 Jp5 (fun l bs b i H Q h e q=>by
  unfold JmI at e;split at e
  ·next hm=>cases e;exact⟨l,bs,b,rfl,rfl,h,hm,q⟩
  ·cases e) ho ha
end
end LE

namespace LE
open PySem L2 LR
noncomputable def Jbj(i:Nat):Es:=fun E=>match E[i]? with
 | some (.own ds)=>some (.nx (E.set i (.own ds.reverse)))
 | _=>none
section
variable{K:Frag}{C:Addr}
theorem RDL.rev{H:Hp}{xs:List V}{ds:List D}(r:RDL K C H xs ds):RDL K C H xs.reverse ds.reverse:=by
 have key:∀{xs:List V} {ds:List D},RDL K C H xs ds->RDL K C H xs.reverse ds.reverse:=by
  intro xs
  induction xs with
  | nil =>
   intro ds r
   cases ds with
   | nil=>exact .nil
   | cons d ds=>have:=r.1;simp at this
  | cons x xs ih =>
   intro ds r
   cases ds with
   | nil=>have:=r.1;simp at this
   | cons d ds=>rw[GZ,GZ];exact(ih r.tail).snoc r.head
 exact key r
theorem JoK{i:Nat}:SS K C (WL (Jox K "list" Jc4 (Zl i))) (Jbj i):=by
 intro B H0 H σ E o D I e f;unfold Jbj at e;split at e
 ·next ds h=>cases e;obtain⟨l,xs,g1,g2,g3,g4,g5⟩:=I.slot h;have m:=I.mut (xs:=xs) h g1 (RDL.rev g5);exact⟨_,g1,.inl ⟨rfl,_,.of g2⟩,l,xs,rfl,rfl,g2,f _ _ _ ⟨m.b,Same.refl _,fun _ _ e=>.inl e,m.h⟩ m⟩
 ·cases e
end
end LE

namespace PySem
abbrev V3(h:Heap)(z TI TO a:Addr)(f:Bool):Prop :=
 h.get? z=some { cls:=.type "zip",dict:=none,data:=.fields #[rawInt a,.bool f,.bool false,.ref TI,.ref TO],slots:=#[] }
section
variable{prog:Program}{w:World}{A:Around}{E:Value->Shared->Prop}{s:Shared}{z TI TO i1 i2 a:Addr}{f:Bool}{oa:Obj}{p1 p2:List Addr}{n1 n2 k:Nat}{P1 P2:Nat->Value->Prop}{S1 S2:Nat->Heap->Prop}
theorem Jdt{Q:Bool->Shared->Prop}(gz:V3 s.heap z TI TO a f)(ha:s.heap.get? a=some oa)(h:∀h',V3 h' z TI TO a true->Qt z s.heap h'->Q false { s with heap:=h' }):wpAny (model prog w) A (QD (.ref z)) Q E s:=by
 unfold QD;refine Qa (QE gz rfl (x:=rawInt a) rfl ?_);show wpAny _ _ (loadIfAlive (Int.toNat (a:Int)) >>= _) _ _ _;rw[Gm];refine Qa (PySem.W.kdx_alive ha ?_);show wpAny _ _ (field (.ref z) 1 >>= _) _ _ _;refine Qa (QE gz rfl (x:=.bool f) rfl ?_)
 cases f with
 | true=>exact Qd (h _ gz (Ry _ _))
 | false=>exact Qa (Q1 gz (by simp) fun h' y e=>Qd (h h' y e))
theorem JgU{Q:Value->Shared->Prop}(D:ZA z TI TO i1 i2 p1 p2)(D1:Draws prog w A i1 p1 n1 P1 S1)(D2:Draws prog w A i2 p2 n2 P2 S2)(gz:V3 s.heap z TI TO a f)(ha:s.heap.get? a=some oa)(gI:IsPair s.heap TI (.ref i1) (.ref i2))
 (st1:S1 k s.heap) (st2:S2 k s.heap) (l1:k<n1) (l2:k<n2)
 (hQ:∀x y h' tk,P1 k x->P2 k y->V3 h' z TI TO a true->S1 (k+1) h'->S2 (k+1) h'->IsPair h' s.heap.objs.size x y->h'.objs.size=s.heap.objs.size+1 ->
  (∀c o,c≠z->c≠i1->c≠i2->s.heap.get? c=some o->h'.get? c=some o)->Q (.ref s.heap.objs.size) { s with heap:=h',toks:=tk }) :
 wpAny (model prog w) A (Builtin.«zip.__next__» ⟨[.ref z],[]⟩) (fun fin s'=>∃v,fin=.done (.ret v)/\Q v s') E s:=by
 obtain⟨hp,g,d,t0,os⟩:=s;have zi1:i1≠z:=fun q=>D.z1 (q▸D.m1)
 have zi2:i2≠z:=fun q=>D.z2 (q▸D.m2)
 show wpAny _ _ (field (.ref z) 2 >>= _) _ _ _;refine Qa (QE gz rfl (x:=.bool false) rfl (show wpAny _ _ (field (.ref z) 3 >>= _) _ _ _ from Qa (QE gz rfl (x:=.ref TI) rfl (Qa (GK gI rfl ?_)))))
 show wpAny _ _ (QD (.ref z) >>= _) _ _ _;refine Qa (Jdt gz ha fun k1 y1 e1=>?_)
 replace e1:Qt z hp k1:=e1;simp only[KN,if_false];refine Qa ?_;simp only[<- Array.forIn_toList,LV,Mc];refine Qa (Qa (Gj (show wpAny _ _ (QS (.ref i1) >>= _) _ _ _ from Qa (D1.item k _ _ _ l1 (D1.frame _ _ _ st1 fun b hb o q=>e1.extBut b o (fun r=>D.z1 (r▸hb)) q) fun x k2 t2 px s2 e2=>Qd ?_))))
 replace e2:Qt i1 k1 k2:=e2;refine Qd ?_;have st2':S2 k k2:=D2.frame _ _ _ st2 fun b hb o q=>e2.extBut b o (fun r=>D.x1 (r▸hb)) (e1.extBut b o (fun r=>D.z2 (r▸hb)) q)
 refine Qa (Qa (Gj (show wpAny _ _ (QS (.ref i2) >>= _) _ _ _ from Qa (D2.item k _ _ _ l2 st2' fun y k4 t4 py s4 e4=>Qd ?_))))
 replace e4:Qt i2 k2 k4:=e4;refine Qd (Qd (Qa (Md (hsz:=show 2<=sizeLine by decide) (Qd ⟨_,rfl,?_⟩))));have hsz:k4.objs.size=hp.objs.size:=by rw[e4.1,e2.1,e1.1]
 have Z4:V3 k4 z TI TO a true:=e4.extBut _ _ (QC zi2) (e2.extBut _ _ (QC zi1) y1)
 show Q (.ref k4.objs.size) _;rw[hsz];refine hQ x y _ t4 px py (Qe _ Z4) ?_ ?_ ?_ (by rw[Q4,hsz]) fun c o c1 c2 c3 q=>Qe _ (e4.extBut _ _ c3 (e2.extBut _ _ c2 (e1.extBut _ _ c1 q)))
 ·exact D1.frame _ _ _ s2 fun b hb o q=>Qe _ (e4.extBut b o (fun r=>D.x2 (r▸hb)) q)
 ·exact D2.frame _ _ _ s4 fun b hb o q=>Qe _ q
 ·show(k4.push _).get? hp.objs.size=_;rw[<- hsz];exact Qk _ rfl
theorem Jjl{Q:Fin->Shared->Prop}(D:ZA z TI TO i1 i2 p1 p2)(D1:Draws prog w A i1 p1 n1 P1 S1)(D2:Draws prog w A i2 p2 n2 P2 S2)(gz:V3 s.heap z TI TO a f)(ha:s.heap.get? a=some oa)(gI:IsPair s.heap TI (.ref i1) (.ref i2))
 (st1:S1 k s.heap) (st2:S2 k s.heap) (hend:k=n1\/(k<n1/\k=n2))
 (hE:∀h' e tk,(∀c o,c≠z->c≠i1->c≠i2->s.heap.get? c=some o->h'.get? c=some o)->(∃o,h'.get? e=some o/\o.cls=.type "StopIteration")->E (.ref e) { s with heap:=h',toks:=tk }) :
 wpAny (model prog w) A (Builtin.«zip.__next__» ⟨[.ref z],[]⟩) Q E s:=by
 obtain⟨hp,g,d,t0,os⟩:=s;show wpAny _ _ (field (.ref z) 2 >>= _) _ _ _;refine Qa (QE gz rfl (x:=.bool false) rfl (show wpAny _ _ (field (.ref z) 3 >>= _) _ _ _ from Qa (QE gz rfl (x:=.ref TI) rfl (Qa (GK gI rfl ?_)))));show wpAny _ _ (QD (.ref z) >>= _) _ _ _;refine Qa (Jdt gz ha fun k1 y1 e1=>?_)
 replace e1:Qt z hp k1:=e1;simp only[KN,if_false];refine Qa ?_;simp only[<- Array.forIn_toList,LV,Mc];have q1:S1 k k1:=D1.frame _ _ _ st1 fun b hb o q=>e1.extBut b o (fun r=>D.z1 (r▸hb)) q
 rcases hend with rfl|⟨l1,rfl⟩
 ·refine Qa (Qa (Gj (show wpAny _ _ (QS (.ref i1) >>= _) _ _ _ from Qa (D1.done _ _ _ q1 fun k2 e e2 he=>?_))))
  replace e2:Kr i1 k1 k2:=e2;exact hE k2 e t0 (fun c o c1 c2 _ q=>e2 _ _ c2 (e1.extBut _ _ c1 q)) he
 ·refine Qa (Qa (Gj (show wpAny _ _ (QS (.ref i1) >>= _) _ _ _ from Qa (D1.item k _ _ _ l1 q1 fun x k2 t2 px s2 e2=>Qd ?_))))
  replace e2:Qt i1 k1 k2:=e2;refine Qd ?_;have st2':S2 k k2:=D2.frame _ _ _ st2 fun b hb o q=>e2.extBut b o (fun r=>D.x1 (r▸hb)) (e1.extBut b o (fun r=>D.z2 (r▸hb)) q)
  refine Qa (Qa (Gj (show wpAny _ _ (QS (.ref i2) >>= _) _ _ _ from Qa (D2.done _ _ _ st2' fun k4 e e4 he=>?_))))
  replace e4:Kr i2 k2 k4:=e4;exact hE k4 e t2 (fun c o c1 c2 c3 q=>e4 _ _ c3 (e2.extBut _ _ c2 (e1.extBut _ _ c1 q))) he
end
end PySem

namespace PySem
section
variable{prog:Program}{w:World}{A:Around}{E:Value->Shared->Prop}{s:Shared}{b1 b2:Bool}{a1 a2 z TI TO i1 i2 S:Addr}{xs ys:Array Value}{i:Nat}
def LzSt(b1 b2:Bool)(a1 a2 z TI TO i1 i2 S:Addr)(xs ys:Array Value)(i:Nat)(h:Heap):Prop :=
 IsPair h TI (.ref i1) (.ref i2)/\(IsItr b1 h i1 a1 i/\IsSq b1 h a1 xs)/\(IsItr b2 h i2 a2 i/\IsSq b2 h a2 ys) ∧
 ((IsZip h z TI TO .none/\∃u v,IsPair h TO u v)\/∃a f oa,V3 h z TI TO a f/\h.get? a=some oa/\a≠S/\a≠z/\a≠i1/\a≠i2)
theorem IsSq.keep{b:Bool}{h h':Heap}{a:Addr}{xs:Array Value}(q:IsSq b h a xs)(k:∀o,h.get? a=some o->h'.get? a=some o):IsSq b h' a xs:=by
 cases b with
 | true=>obtain⟨o,e,r⟩:=q;exact⟨o,k o e,r⟩
 | false=>obtain⟨o,e,r⟩:=q;exact⟨o,k o e,r⟩
theorem IsItr.keep'{b:Bool}{h h':Heap}{j a:Addr}{i:Nat}(q:IsItr b h j a i)(k:∀o,h.get? j=some o->h'.get? j=some o):IsItr b h' j a i:=by
 cases b with
 | true=>obtain⟨o,e,r⟩:=q;exact⟨o,k o e,r⟩
 | false=>obtain⟨o,e,r⟩:=q;exact⟨o,k o e,r⟩
theorem LzSt.keep{h h':Heap}(x:LzSt b1 b2 a1 a2 z TI TO i1 i2 S xs ys i h)(k:∀b o,b≠S->h.get? b=some o->h'.get? b=some o)(n:S∉[z,TI,TO,i1,i2,a1,a2]):LzSt b1 b2 a1 a2 z TI TO i1 i2 S xs ys i h':=by
 simp only[Qh,QV,or_false,not_or] at n;obtain⟨n1,n2,n3,n4,n5,n6,n7⟩:=n;obtain⟨x1,x2,x3,x4⟩:=x;refine⟨k _ _ (QC n2) x1,⟨IsItr.keep' x2.1 fun o e=>k _ o (QC n4) e,IsSq.keep x2.2 fun o e=>k _ o (QC n6) e⟩,⟨IsItr.keep' x3.1 fun o e=>k _ o (QC n5) e,IsSq.keep x3.2 fun o e=>k _ o (QC n7) e⟩,?_⟩;rcases x4 with ⟨y1,u,v,y2⟩|⟨a,f,oa,y1,y2,y3⟩
 ·exact .inl ⟨k _ _ (QC n1) y1,u,v,k _ _ (QC n3) y2⟩
 ·exact .inr ⟨a,f,oa,k _ _ (QC n1) y1,k _ _ y3.1 y2,y3⟩
theorem Jkr{Q:Option Value->Shared->Prop}(hh:A.handled=none)(Z:ZA z TI TO i1 i2 [i1,a1] [i2,a2])(st:LzSt b1 b2 a1 a2 z TI TO i1 i2 S xs ys i s.heap)(hS:S<s.heap.objs.size)(l1:i<xs.size)(l2:i<ys.size)
 (hQ:∀u v h' tk,xs[i]?=some u->ys[i]?=some v->LzSt b1 b2 a1 a2 z TI TO i1 i2 S xs ys (i+1) h'->IsPair h' s.heap.objs.size u v->h'.objs.size=s.heap.objs.size+1 ->
  (∀c o,c≠z->c≠TO->c≠i1->c≠i2->s.heap.get? c=some o->h'.get? c=some o)->Q (some (.ref s.heap.objs.size)) { s with heap:=h',toks:=tk }) :
 wpAny (model prog w) A (pyNext (.ref z)) Q E s:=by
 obtain⟨x1,x2,x3,x4⟩:=st
 have ne1:a1≠i1:=fun q=>by
  have:=Z.x1;subst q;rcases x2 with ⟨e1,e2⟩
  cases b1 with
  | true=>obtain⟨o,h1,h2,_⟩:=e1;obtain⟨o',h3,h4,_⟩:=e2;rw[h1] at h3;cases h3;rw[h2] at h4;exact absurd h4 (by decide)
  | false=>obtain⟨o,h1,h2,_⟩:=e1;obtain⟨o',h3,h4,_⟩:=e2;rw[h1] at h3;cases h3;rw[h2] at h4;exact absurd h4 (by decide)
 have ne2:a2≠i2:=fun q=>by
  subst q;rcases x3 with ⟨e1,e2⟩
  cases b2 with
  | true=>obtain⟨o,h1,h2,_⟩:=e1;obtain⟨o',h3,h4,_⟩:=e2;rw[h1] at h3;cases h3;rw[h2] at h4;exact absurd h4 (by decide)
  | false=>obtain⟨o,h1,h2,_⟩:=e1;obtain⟨o',h3,h4,_⟩:=e2;rw[h1] at h3;cases h3;rw[h2] at h4;exact absurd h4 (by decide)
 have hh1:A.in1.handled=none:=hh
 have D1:=Draws.sq (prog:=prog) (w:=w) (b:=b1) (xs:=xs) hh1 i1 ne1
 have D2:=Draws.sq (prog:=prog) (w:=w) (b:=b2) (xs:=ys) hh1 i2 ne2
 have Tt:∀o,s.heap.get? z=some o->o.cls=.type "zip"->s.TypeIs (.ref z) "zip":=fun o e c=>⟨o,e,c⟩
 have i1lt:i1<s.heap.objs.size:=by
  cases b1 with
  | true=>obtain⟨o,h1,_⟩:=x2.1;exact Qj h1
  | false=>obtain⟨o,h1,_⟩:=x2.1;exact Qj h1
 have i2lt:i2<s.heap.objs.size:=by
  cases b2 with
  | true=>obtain⟨o,h1,_⟩:=x3.1;exact Qj h1
  | false=>obtain⟨o,h1,_⟩:=x3.1;exact Qj h1
 rcases x4 with ⟨y1,u0,v0,y2⟩|⟨a,f,oa,y1,y2,y3,y4,y5,y6⟩
 ·have hT:=Tt _ y1 rfl;unfold pyNext;refine Qa (Gs (QB (name:=Q0 "__next__") hT Gr (QN Gr hT KF (Jbl Z D1 D2 y1 x1 y2 x2 x3 l1 l2 fun u v k tk pu pv t1 t2 t3 t4 t5 t6 t7 t8=>Qd ?_) (Ks _))));exact hQ u v k tk pu pv ⟨t2,t4,t5,.inr ⟨_,false,_,t1,t6,QO hS,QO (Qj y1),QO i1lt,QO i2lt⟩⟩ t6 t7 t8
 ·have hT:=Tt _ y1 rfl;unfold pyNext;refine Qa (Gs (QB (name:=Q0 "__next__") hT Gr (QN Gr hT KF (JgU Z D1 D2 y1 y2 x1 x2 x3 l1 l2 fun u v k tk pu pv t1 t4 t5 t6 t7 t8=>Qd ?_) (Ks _))))
  have ti1:TI≠i1:=fun q=>Z.t1 (by rw[q];simp)
  have ti2:TI≠i2:=fun q=>Z.t2 (by rw[q];simp)
  exact hQ u v k tk pu pv ⟨t8 _ _ Z.a1 ti1 ti2 x1,t4,t5,.inr ⟨a,true,oa,t1,t8 _ _ y4 y5 y6 y2,y3,y4,y5,y6⟩⟩ t6 t7 fun c o c1 _ c3 c4 q=>t8 c o c1 c3 c4 q
theorem Jko{Q:Option Value->Shared->Prop}(hh:A.handled=none)(Z:ZA z TI TO i1 i2 [i1,a1] [i2,a2])(st:LzSt b1 b2 a1 a2 z TI TO i1 i2 S xs ys i s.heap)(hend:i=xs.size\/(i<xs.size/\i=ys.size))
 (hQ:∀h' tk,(∀c o,c≠z->c≠TO->c≠i1->c≠i2->s.heap.get? c=some o->h'.get? c=some o)->Q none { s with heap:=h',toks:=tk }) :
 wpAny (model prog w) A (pyNext (.ref z)) Q E s:=by
 obtain⟨x1,x2,x3,x4⟩:=st
 have ne1:a1≠i1:=fun q=>by
  subst q;rcases x2 with ⟨e1,e2⟩
  cases b1 with
  | true=>obtain⟨o,h1,h2,_⟩:=e1;obtain⟨o',h3,h4,_⟩:=e2;rw[h1] at h3;cases h3;rw[h2] at h4;exact absurd h4 (by decide)
  | false=>obtain⟨o,h1,h2,_⟩:=e1;obtain⟨o',h3,h4,_⟩:=e2;rw[h1] at h3;cases h3;rw[h2] at h4;exact absurd h4 (by decide)
 have ne2:a2≠i2:=fun q=>by
  subst q;rcases x3 with ⟨e1,e2⟩
  cases b2 with
  | true=>obtain⟨o,h1,h2,_⟩:=e1;obtain⟨o',h3,h4,_⟩:=e2;rw[h1] at h3;cases h3;rw[h2] at h4;exact absurd h4 (by decide)
  | false=>obtain⟨o,h1,h2,_⟩:=e1;obtain⟨o',h3,h4,_⟩:=e2;rw[h1] at h3;cases h3;rw[h2] at h4;exact absurd h4 (by decide)
 have hh1:A.in1.handled=none:=hh
 have D1:=Draws.sq (prog:=prog) (w:=w) (b:=b1) (xs:=xs) hh1 i1 ne1
 have D2:=Draws.sq (prog:=prog) (w:=w) (b:=b2) (xs:=ys) hh1 i2 ne2;rcases x4 with ⟨y1,u0,v0,y2⟩|⟨a,f,oa,y1,y2,y3,y4,y5,y6⟩
 ·have hT:s.TypeIs (.ref z) "zip":=⟨_,y1,rfl⟩
  unfold pyNext;refine Qa (Gs (QB (name:=Q0 "__next__") hT Gr (QN Gr hT KF (Jds Z D1 D2 y1 x1 y2 x2 x3 hend fun k e tk kk he=>?_) (Ks _))));obtain⟨o,ho,hoc⟩:=he;exact Qa (GW (T:="StopIteration") (b:=true) ⟨o,ho,hoc⟩ K8 (Qd (hQ k tk kk)))
 ·have hT:s.TypeIs (.ref z) "zip":=⟨_,y1,rfl⟩
  unfold pyNext;refine Qa (Gs (QB (name:=Q0 "__next__") hT Gr (QN Gr hT KF (Jjl Z D1 D2 y1 y2 x1 x2 x3 hend fun k e tk kk he=>?_) (Ks _))));obtain⟨o,ho,hoc⟩:=he;exact Qa (GW (T:="StopIteration") (b:=true) ⟨o,ho,hoc⟩ K8 (Qd (hQ k tk fun c o c1 _ c3 c4 q=>kk c o c1 c3 c4 q)))
end
structure LzG (xs ys:Array Value) (lo:Addr) (h:Heap) (as:List Addr):Prop where
 rise:as.Pairwise (·<·)
 above:∀a∈as,lo<a
 pairs:∀(j:Nat) (a:Addr),as[j]?=some a->∃u v,xs[j]?=some u/\ys[j]?=some v/\IsPair h a u v
theorem LzG.there{xs ys:Array Value}{lo:Addr}{h:Heap}{as:List Addr}(g:LzG xs ys lo h as){a:Addr}(ha:a∈as):a<h.objs.size:=by obtain⟨j,hj⟩:=K1.mp ha;obtain⟨_,_,_,_,e⟩:=g.pairs j a hj;exact Qj e
section
variable{prog:Program}{w:World}{A:Around}{s:Shared}{R:Result->Shared->Prop}{b1 b2:Bool}{a1 a2 z TI TO i1 i2 S:Addr}{xs ys:Array Value}
theorem Jkt(hh:A.handled=none)(Z:ZA z TI TO i1 i2 [i1,a1] [i2,a2])(nS:S∉[z,TI,TO,i1,i2,a1,a2])(hlo:∀b∈[z,TI,TO,i1,i2],b<S)(n:Nat)(hn:n=min xs.size ys.size)(hz:n<=sizeLine)(res:Value){h₁:Heap}
 (hR:∀h' tk acc c as,(∀b o,b≠S->b≠z->b≠TO->b≠i1->b≠i2->h₁.get? b=some o->h'.get? b=some o)->h'.get? S=some { cls:=.type "list",dict:=none,data:=.seq acc c,slots:=#[] }->as.length=n->LzG xs ys S h' as ->
  acc.toList=as.map Value.ref->R (.ok (.ret res)) { s with heap:=h',toks:=tk }) :
 ∀(k i:Nat) (h:Heap) (tk c:Nat) (acc:Array Value) (as:List Addr),n-i=k->i<=n->LzSt b1 b2 a1 a2 z TI TO i1 i2 S xs ys i h->(∀b o,b≠S->b≠z->b≠TO->b≠i1->b≠i2->h₁.get? b=some o->h.get? b=some o) ->
  h.get? S=some { cls:=.type "list",dict:=none,data:=.seq acc c,slots:=#[] }->acc.toList=as.map Value.ref->as.length=i->LzG xs ys S h as ->
  codeAny (model prog w) A (.builtin "list.extend.loop" ⟨[.ref S,.ref z,res],[]⟩) R { s with heap:=h,toks:=tk }:=by
 have Sz:S≠z:=QO (hlo z (by simp))
 have ST:S≠TO:=QO (hlo TO (by simp))
 have S1:S≠i1:=QO (hlo i1 (by simp))
 have S2:S≠i2:=QO (hlo i2 (by simp))
 have off:∀{b:Addr},S<b->b≠z/\b≠TO/\b≠i1/\b≠i2:=fun {b} h=>⟨QO (Gv (hlo z (by simp)) h),QO (Gv (hlo TO (by simp)) h),QO (Gv (hlo i1 (by simp)) h),QO (Gv (hlo i2 (by simp)) h)⟩
 intro k
 induction k with
 | zero =>
  intro i h tk c acc as hk hi hst hkeep hS hacc hal hG;have hin:i=n:=by omega
  refine GN Mm ?_;rw[Go Gq _];show wpAny _ A.in1 (pyNext (.ref z) >>= _) _ _ _;refine Qa (Jko (s:={ s with heap:=h,toks:=tk }) (A:=A.in1) hh Z hst (by omega) fun h' tk' he=>?_);refine Qd (hR h' tk' acc c as (fun b o h1 h2 h3 h4 h5 e=>he b o h2 h3 h4 h5 (hkeep b o h1 h2 h3 h4 h5 e)) (he S _ Sz ST S1 S2 hS) (by omega) ⟨hG.rise,hG.above,fun j a hj=>?_⟩ hacc);obtain⟨u,v,e1,e2,e3⟩:=hG.pairs j a hj
  obtain⟨o1,o2,o3,o4⟩:=off (hG.above a (QI hj));exact⟨u,v,e1,e2,he a _ o1 o2 o3 o4 e3⟩
 | succ k ih =>
  intro i h tk c acc as hk hi hst hkeep hS hacc hal hG;have hlt:i<n:=by omega
  have hsz:acc.size=i:=by rw[<- QF,hacc,Qo,hal]
  have hSl:S<h.objs.size:=Qj hS;refine GN Mm ?_;rw[Go Gq _]
  show wpAny _ A.in1 (pyNext (.ref z) >>= _) _ _ _;refine Qa (Jkr (s:={ s with heap:=h,toks:=tk }) (A:=A.in1) hh Z hst hSl (by omega) (by omega) fun u v h' tk' pu pv hst' ht hz' hkp=>?_);dsimp only at ht hz' hkp ⊢
  have hS':=hkp S _ Sz ST S1 S2 hS
  have up:∀b o,b≠S->h'.get? b=some o->(h'.update S (K7 (·.push (Value.ref h.objs.size)))).get? b=some o:=fun b o hb e=>(QM _ _ (QC hb)).trans e
  show wpAny _ A.in1 (updateSeq S (·.push (Value.ref h.objs.size)) >>= _) _ _ _;refine Qa ?_;refine KY hS' rfl (Qd ⟨Ka Gq _,ih (i+1) _ tk' _ (acc.push (Value.ref h.objs.size)) (as++[h.objs.size]) (by omega) hlt (hst'.keep up nS)
   (fun b o h1 h2 h3 h4 h5 e=>up b o h1 (hkp b o h2 h3 h4 h5 (hkeep b o h1 h2 h3 h4 h5 e))) (QY _ hS' rfl) (by rw[Mq,hacc,Gd];rfl) (by rw[Qy,hal];rfl) ⟨?_,?_,?_⟩⟩) (by rw[hsz];omega) (by show(acc.push (Value.ref h.objs.size)).size<=sizeLine+1;rw[Array.size_push,hsz];omega)
  ·refine Ku.mpr ⟨hG.rise,MJ _ _,fun a ha b hb=>?_⟩;rw[QK.mp hb];exact hG.there ha
  ·intro a ha;rcases QX.mp ha with ha|ha
   ·exact hG.above a ha
   ·rw[QK.mp ha];exact hSl
  ·intro j b hj;rcases Lz j as.length with h1|h1|h1
   ·rw[Qq h1] at hj;obtain⟨u',v',e1,e2,e3⟩:=hG.pairs j b hj;have hb:=hG.above b (QI hj);obtain⟨o1,o2,o3,o4⟩:=off hb;exact⟨u',v',e1,e2,up b _ (QO hb) (hkp b _ o1 o2 o3 o4 e3)⟩
   ·subst h1;have hb:h.objs.size=b:=by simpa using hj
    subst hb;exact⟨u,v,by rw[hal];exact pu,by rw[hal];exact pv,up _ _ (QO hSl) ht⟩
   ·have hnone:(as++[h.objs.size])[j]?=none:=LG (by rw[Qy,GH];omega);rw[hnone] at hj;cases hj
end
end PySem

namespace PySem
open PySem.Calls PyProof.Rows PyProof.V PySem.Spec
theorem Jnf:typeLookup (.type "zip") "__len__"=pure none:=by rw[typeLookup_type,builtinLookup_eq_fast];kernel_rfl
theorem Jks:typeLookup (.type "zip") "__length_hint__"=pure none:=by rw[typeLookup_type,builtinLookup_eq_fast];kernel_rfl
section
variable{prog:Program}{w:World}{A:Around}{E:Value->Shared->Prop}{s:Shared}{b1 b2:Bool}{a1 a2 z TI TO i1 i2:Addr}{xs ys:Array Value}
theorem Jkp(hT:s.TypeIs (.ref z) "zip"){Q:Bool->Shared->Prop}(h:Q true s):wpAny (model prog w) A (G9 (.ref z)) Q E s:=by unfold G9;refine Qa (Kn hT Jnf ?_);refine KZ (fun hab=>absurd hab (by decide)) (fun _=>?_);refine KZ (fun hab=>absurd hab (by decide)) (fun _=>?_);refine Qa (Kn hT Jks ?_);exact Qd h
theorem Jgu{R:Result->Shared->Prop}(hh:A.handled=none)(S:Addr)(Z:ZA z TI TO i1 i2 [i1,a1] [i2,a2])(nS:S∉[z,TI,TO,i1,i2,a1,a2])(hlo:∀b∈[z,TI,TO,i1,i2],b<S)(n:Nat)(hn:n=min xs.size ys.size)(hz:n<=sizeLine)
 (hzip:IsZip s.heap z TI TO .none) (st:LzSt b1 b2 a1 a2 z TI TO i1 i2 S xs ys 0 s.heap) (res:Value) (c₀:Nat) (hS:s.heap.get? S=some { cls:=.type "list",data:=.seq #[] c₀ })
 (hR:∀h' tk acc c as,(∀b o,b≠S->b≠z->b≠TO->b≠i1->b≠i2->s.heap.get? b=some o->h'.get? b=some o)->h'.get? S=some { cls:=.type "list",dict:=none,data:=.seq acc c,slots:=#[] }->as.length=n->LzG xs ys S h' as ->
  acc.toList=as.map Value.ref->R (.ok (.ret res)) { s with heap:=h',toks:=tk }) :
 wpAny (model prog w) A.in1 (Gw (.ref S) (.ref z) res)
  (fun fin s'=>match fin with|.done f=>R (.ok f) s'|.again c'=>c'.quiet=true/\codeAny (model prog w) A c' R s') (fun e s'=>R (.error e) s') s:=by
 have key:∀(h:Heap) (c₁ tk:Nat),(∀b o,b≠S->s.heap.get? b=some o->h.get? b=some o) ->
  h.get? S=some { cls:=.type "list",data:=.seq #[] c₁ }->codeAny (model prog w) A (.builtin "list.extend.loop" ⟨[.ref S,.ref z,res],[]⟩) R { s with heap:=h,toks:=tk }:=by
  intro h c₁ tk hk hS₁;exact Jkt (s:=s) (h₁:=s.heap) hh Z nS hlo n hn hz res hR n 0 h tk c₁ #[] [] (Nat.sub_zero _) (Gn _) (st.keep hk nS) (fun b o hb _ _ _ _ e=>hk b o hb e) hS₁ rfl rfl
   ⟨List.Pairwise.nil,(fun _ ha=>nomatch ha),(fun j a hj=>by simp at hj)⟩
 have hT:s.TypeIs (.ref z) "zip":=⟨_,hzip,rfl⟩
 have hSz:S≠z:=QO (hlo z (by simp));unfold Gw;refine Qa (Lx (T:="zip") hT ?_)
 have h1:Kx (.ref S) (.ref z)=false:=by simp[Kx,hSz]
 have h2:(Value.type "zip" == Value.type "list")=false:=by decide
 have h3:(Value.type "zip" == Value.type "tuple")=false:=by decide
 simp only[h1,h2,h3,Li,KN,if_false];refine Qa (MH hzip ?_);refine Qa (Gj (Jkp hT ?_));refine KZ (fun _=>?_) (fun _=>Qd ⟨Ka Gq _,key _ c₀ _ (fun b o _ e=>e) hS⟩);refine Qa (G5 ?_);refine Qa ?_;show wpAny _ _ (updateSeq S (·.push .none) >>= fun _=>updateSeq S (·.pop)) _ _ _;refine Qa (KY hS rfl ?_);have hS₂:=QY (K7 (·.push Value.none)) hS rfl
 refine KY (hz:=by seq_fits) hS₂ rfl ?_;have hS₃:=QY (K7 (·.pop)) hS₂ rfl;refine Qd ⟨Ka Gq _,key _ _ _ (fun b o hb e=>?_) hS₃⟩;exact(QM _ _ (QC hb)).trans ((QM _ _ (QC hb)).trans e)
theorem Jkq{R:Result->Shared->Prop}(hh:A.handled=none)(S:Addr)(Z:ZA z TI TO i1 i2 [i1,a1] [i2,a2])(nS:S∉[z,TI,TO,i1,i2,a1,a2])(hlo:∀b∈[z,TI,TO,i1,i2],b<S)(n:Nat)(hn:n=min xs.size ys.size)(hz:n<=sizeLine)
 (hzip:IsZip s.heap z TI TO .none) (st:LzSt b1 b2 a1 a2 z TI TO i1 i2 S xs ys 0 s.heap) (hS:s.heap.get? S=some { cls:=.type "list",data:=.seq #[] })
 (hR:∀h' tk acc c as,(∀b o,b≠S->b≠z->b≠TO->b≠i1->b≠i2->s.heap.get? b=some o->h'.get? b=some o)->h'.get? S=some { cls:=.type "list",dict:=none,data:=.seq acc c,slots:=#[] }->as.length=n->LzG xs ys S h' as ->
  acc.toList=as.map Value.ref->R (.ok (.ret .none)) { s with heap:=h',toks:=tk }) :
 wpAny (model prog w) A.in1 (Builtin.«list.__init__» ⟨[.ref S,.ref z],[]⟩)
  (fun fin s'=>match fin with|.done f=>R (.ok f) s'|.again c'=>c'.quiet=true/\codeAny (model prog w) A c' R s') (fun e s'=>R (.error e) s') s:=by
 have hSz:S≠z:=QO (hlo z (by simp))
 show wpAny _ _ (do let old <- MX (.ref S);Builtin.List.listUpdate (.ref S) (fun _=>#[]);letGo old.toList.reverse;Gw (.ref S) (.ref z) .none) _ _ s;refine Qa ?_;unfold MX;refine Qa (GK hS rfl (Qd ?_))
 show wpAny _ _ (updateSeq S (fun _=>#[]) >>= fun _=>letGo (#[]:Array Value).toList.reverse >>= fun _=>Gw (.ref S) (.ref z) .none) _ _ s;refine Qa (KY hS rfl ?_)
 have hS₂:=QY (K7 (fun _=>(#[]:Array Value))) hS rfl
 have oth:∀b o,b≠S->s.heap.get? b=some o->(s.heap.update S (K7 (fun _=>(#[]:Array Value)))).get? b=some o :=
  fun b o hb e=>(QM _ _ (QC hb)).trans e
 refine Qa (Mo ?_);exact Jgu hh S Z nS hlo n hn hz (oth _ _ hSz.symm hzip) (st.keep oth nS) .none _ hS₂ (fun h' tk acc c as hk hS' hl hG hacc=>hR h' tk acc c as (fun b o hb h1 h2 h3 h4 e=>hk b o hb h1 h2 h3 h4 (oth b o hb e)) hS' hl hG hacc)
theorem Jkn{Q:Value->Shared->Prop}(hh:A.handled=none)(Z:ZA z TI TO i1 i2 [i1,a1] [i2,a2])(n:Nat)(hn:n=min xs.size ys.size)(hz:n<=sizeLine)
 (hzip:IsZip s.heap z TI TO .none) (gI:IsPair s.heap TI (.ref i1) (.ref i2)) (gO:IsPair s.heap TO .none .none) (t1:IsItr b1 s.heap i1 a1 0) (t2:IsItr b2 s.heap i2 a2 0) (q1:IsSq b1 s.heap a1 xs) (q2:IsSq b2 s.heap a2 ys)
 (hQ:∀h' tk acc c as,(∀b o,b≠z->b≠TO->b≠i1->b≠i2->s.heap.get? b=some o->h'.get? b=some o)->h'.get? s.heap.objs.size=some { cls:=.type "list",dict:=none,data:=.seq acc c,slots:=#[] }->as.length=n->LzG xs ys s.heap.objs.size h' as ->
  acc.toList=as.map Value.ref->Q (.ref s.heap.objs.size) { s with heap:=h',toks:=tk }) :
 wpAny (model prog w) A (call (.type "list") [.ref z]) Q E s:=by
 refine callType_codes (Q₁:=fun obj s₁=>obj=.ref s.heap.objs.size/\s₁={ s with heap:=s.heap.push { cls:=.type "list",data:=.seq #[] } }) PySem.F.called_list (PySem.F.typeCall_list_1 _) PySem.F.entry_list_init
  (code_list_new _ ⟨rfl,rfl⟩) fun obj s₁ h₁=>?_
 obtain⟨rfl,rfl⟩:=h₁;have hS:(s.heap.push { cls:=.type "list",data:=.seq #[] }).get? s.heap.objs.size=some { cls:=.type "list",data:=.seq #[] }:=Qk _ rfl;have up:∀b o,s.heap.get? b=some o->(s.heap.push { cls:=.type "list",data:=.seq #[] }).get? b=some o:=fun b o e=>Qe _ e
 have i1lt:i1<s.heap.objs.size:=by
  cases b1 with
  | true=>obtain⟨o,h1,_⟩:=t1;exact Qj h1
  | false=>obtain⟨o,h1,_⟩:=t1;exact Qj h1
 have i2lt:i2<s.heap.objs.size:=by
  cases b2 with
  | true=>obtain⟨o,h1,_⟩:=t2;exact Qj h1
  | false=>obtain⟨o,h1,_⟩:=t2;exact Qj h1
 have lo:∀b∈[z,TI,TO,i1,i2],b<s.heap.objs.size:=fun b hb=>by
  simp only[Qh,QV,or_false] at hb;rcases hb with rfl|rfl|rfl|rfl|rfl
  ·exact Qj hzip
  ·exact Qj gI
  ·exact Qj gO
  ·exact i1lt
  ·exact i2lt
 have nS:s.heap.objs.size∉[z,TI,TO,i1,i2,a1,a2]:=fun hm=>by
  simp only[Qh,QV,or_false] at hm;rcases hm with e|e|e|e|e|e|e
  ·exact absurd (Qj hzip) (by rw[e];exact Q5 _)
  ·exact absurd (Qj gI) (by rw[e];exact Q5 _)
  ·exact absurd (Qj gO) (by rw[e];exact Q5 _)
  ·exact absurd i1lt (by rw[e];exact Q5 _)
  ·exact absurd i2lt (by rw[e];exact Q5 _)
  ·exact absurd q1.lt (by rw[e];exact Q5 _)
  ·exact absurd q2.lt (by rw[e];exact Q5 _)
 refine⟨⟨_,hS,rfl⟩,PySem.F.args_list_init_2 _ _,Jkq (A:=A.in1) (b1:=b1) (b2:=b2) hh _ Z nS lo n hn hz (up _ _ hzip) ⟨up _ _ gI,⟨IsItr.keep' t1 fun o e=>up _ o e,q1.push _⟩,⟨IsItr.keep' t2 fun o e=>up _ o e,q2.push _⟩,.inl ⟨up _ _ hzip,_,_,up _ _ gO⟩⟩ hS (fun h' tk acc c as hk hS' hl hG hacc=>?_)⟩;exact⟨rfl,hQ h' tk acc c as (fun b o h1 h2 h3 h4 e=>hk b o (Qr (Qj e)) h1 h2 h3 h4 (up b o e)) hS' hl hG hacc⟩
end
end PySem

namespace L2
open PySem PySem.Spec PyProof.Rows
noncomputable def VY(H:Hp):List Addr->List (V×V)->Hp
 | a::as,kv::kvs=>upd (VY H as kvs) a (.tup [kv.1,kv.2])
 | _,_=>H
theorem UC{H:Hp}{b:Addr}:∀{as:List Addr} {kvs:List (V×V)},b∉as->VY H as kvs b=H b
 | [],_,_=>rfl
 | _::_,[],_=>rfl
 | a::as,kv::kvs,h=>by rw[VY,Ji fun z=>h (by rw[z];exact Qf)];exact UC fun m=>h (Qc _ m)
theorem Zq{H:Hp}:∀{as:List Addr} {kvs:List (V×V)} {j:Nat} {a:Addr} {kv:V×V},as.Nodup->as[j]?=some a->kvs[j]?=some kv->VY H as kvs a=some (.tup [kv.1,kv.2])
 | [],_,_,_,_,_,e,_=>by simp at e
 | _::_,[],_,_,_,_,_,e=>by simp at e
 | b::as,kv'::kvs,0,a,kv,_,e1,e2=>by simp at e1 e2;subst e1 e2;rw[VY,Jt]
 | b::as,kv'::kvs,j+1,a,kv,hn,e1,e2=>by
  rw[Q8] at hn;simp at e1 e2;have hne:a≠b:=fun z=>hn.1 (by rw[<- z];exact QI e1)
  rw[VY,Ji hne];exact Zq hn.2 e1 e2
theorem nm2{x y z:Nat}(h1:x≠y)(h2:x≠z):x∉[y,z]:=by simp[h1,h2]
theorem JqA{n b:Nat}(h:b<n):b≠n+4/\b≠n+3/\b≠n/\b≠n+1/\b≠n+2:=by omega
theorem za5{n a1 a2:Nat}(h1:a1<n)(h2:a2<n):ZA (n+4) (n+2) (n+3) n (n+1) [n,a1] [n+1,a2] :=
 ⟨show(n+2:Nat)≠n+4 by omega,show(n+3:Nat)≠n+4 by omega,show(n+2:Nat)≠n+3 by omega,by simp,by simp,
  nm2 (by omega) (by omega),nm2 (by omega) (by omega),nm2 (by omega) (by omega),nm2 (by omega) (by omega),nm2 (by omega) (by omega),nm2 (by omega) (by omega),nm2 (by omega) (by omega),nm2 (by omega) (by omega)⟩
noncomputable def Jdm(K:Frag)(ta:TA):TE:=fun σ H Q=>ta σ H fun vs H1=>∃(b1 b2:Bool) (a1 a2:Addr) (xs ys:List V),vs=[.ref a1,.ref a2]/\Sq b1 K H1 a1 xs/\Sq b2 K H1 a2 ys/\(xs.zip ys).length<=sizeLine ∧
 ∀(L:Addr) (as:List Addr),H1 L=none->as.length=(xs.zip ys).length->as.Nodup->L∉as->(∀b∈as,H1 b=none)->Q (.ref L) (upd (VY H1 as (xs.zip ys)) L (.lst (as.map V.ref)))
theorem Jc0{X:Cx}{K:Frag}{a b:Expr}{ta:TA}{p pos p2 pos2:Pos}(hK:X.K=K)(hc:X.calm=true)(hgl:Gl X "list")(hml:X.mg "list"=none)(hg:Gl X "zip")(hm:X.mg "zip"=none)(ha:PA X [a,b] ta)(hs:starEach [a,b] X.env=[(false,eval a X.env),(false,eval b X.env)]:=by rfl)
 (hs2:starEach [b] X.env=[(false,eval b X.env)]:=by rfl):PE X (.Call (.Name "list" p) [.Call (.Name "zip" p2) [a,b] [] pos2] [] pos) (Jdm K ta):=by
 subst hK;intro pins s σ H Q I h;refine Call_ (UM I hgl hml Zn (Ga ?_ rfl rfl));show wpAny _ _ (spliced ((false,eval (.Call (.Name "zip" p2) [a,b] [] pos2) X.env)::backTo pos (starEach [] X.env))) _ _ s;refine Kc ?_;refine Call_ (UM I hg hm Jg6 (Ga (thn (ha pos2 pins s σ H _ I h) fun us s1 ⟨vs,H1,I1,r1,q1⟩=>?_) (by rw[hs,hs2]) (by rw[hs2];rfl)));obtain⟨b1,b2,a1,a2,xs,ys,e,c1,c2,hz,q⟩:=q1
 subst e
 cases r1 with
 | cons r rr =>
 cases rr with
 | cons r' rr =>
 cases rr;cases r;cases r';obtain⟨its,w1,p1⟩:=c1.heap I1;obtain⟨jts,w2,p2'⟩:=c2.heap I1;have hh:X.A.handled=none:=I1.ok.hd hc;have n1:its.toArray.size=xs.length:=by rw[Qm,w1.length]
 have n2:jts.toArray.size=ys.length:=by rw[Qm,w2.length]
 have hzl:(xs.zip ys).length=min its.toArray.size jts.toArray.size:=by rw[KW,n1,n2]
 refine JaR p1 p2' fun h' t1 t2 t3 t4 t5 kp=>Lw ?_
 have Z:ZA (s1.heap.objs.size+4) (s1.heap.objs.size+2) (s1.heap.objs.size+3) s1.heap.objs.size (s1.heap.objs.size+1) [s1.heap.objs.size,a1] [s1.heap.objs.size+1,a2]:=za5 p1.lt p2'.lt;refine Jkn (s:={ s1 with heap:=h' }) hh Z (xs.zip ys).length hzl hz t1 t2 t3 t4 t5 (p1.keep fun o e=>kp _ o e) (p2'.keep fun o e=>kp _ o e) fun h2 tk acc c as hk hS hal hG hacc=>?_
 have hle:s1.heap.objs.size<h'.objs.size:=GO (LM _ 4) (Qj t1)
 have hnd:as.Nodup:=hG.rise.imp fun {x y} h=>Qr h
 have hLa:h'.objs.size∉as:=fun m=>absurd (hG.above _ m) (Q5 _)
 have fr:∀b∈as,H1 b=none:=fun b hb=>I1.hok.fresh (GM (Gv hle (hG.above b hb)))
 have hne:H1 h'.objs.size=none:=I1.hok.fresh (GM hle);refine⟨.ref h'.objs.size,_,I1.more (t':=tk) (fun b u e=>?_) (fun b hb=>?_) (fun b o hb e=>?_),rfl,q h'.objs.size as hne hal hnd hLa fr⟩
 ·obtain⟨o1,o2,o3,o4,_⟩:=JqA (Qj e);exact hk b u o1 o2 o3 o4 (kp b u e)
 ·rw[Ji (Qr (Gv hb hle))];exact UC fun m=>absurd (hG.above b m) (LL.mpr (GM (Gv hb hle)))
 ·by_cases hL:b=h'.objs.size
  ·subst hL;rw[Jt] at e;cases e;refine⟨by rw[Qo,hal];exact hz,acc.toList,c,?_,?_⟩
   ·rw[hacc]
    have:∀l:List Addr,Vals (l.map V.ref) (l.map Value.ref):=fun l=>by
     induction l with
     | nil=>exact .nil
     | cons x l ih=>exact .cons rfl ih
    exact this as
   ·rw[hS]
  ·rw[Ji hL] at e
   by_cases hm:b∈as
   ·obtain⟨j,hj⟩:=K1.mp hm;obtain⟨u,v,e1,e2,e3⟩:=hG.pairs j b hj;have hjl:j<(xs.zip ys).length:=by have:=(Qg.mp hj).1;omega
    have hkv:(xs.zip ys)[j]?=some (xs.zip ys)[j]:=Q6 hjl
    have hx:xs[j]?=some (xs.zip ys)[j].1:=by rw[List.getElem_zip];exact Q6 _
    have hy:ys[j]?=some (xs.zip ys)[j].2:=by rw[List.getElem_zip];exact Q6 _
    obtain⟨ux,hux,rux⟩:=w1.get hx;obtain⟨uy,huy,ruy⟩:=w2.get hy
    have eu:u=ux:=by
     have e1':its[j]?=some u:=by simpa using e1
     rw[hux] at e1';exact(Qz e1').symm
    have ev:v=uy:=by
     have e2':jts[j]?=some v:=by simpa using e2
     rw[huy] at e2';exact(Qz e2').symm
    subst eu ev;rw[Zq hnd hj hkv] at e;cases e;exact⟨by show 2<=sizeLine;decide,[u,v],.cons rux (.cons ruy .nil),⟨_,e3,rfl,_,rfl⟩⟩
   ·rw[UC hm,I1.hok.fresh hb] at e;cases e
end L2

namespace LE
open PySem L2 LR
noncomputable def Jho(as:En->Option (List Sl)):Ev:=fun E=>(as E).bind fun ss=>match ss with
 | [s,t]=>(s.it true).bind fun ds=>(t.it true).bind fun es=>if ds.length<=sizeLine then some (.own (Jb8 ds es)) else none
 | _=>none
section
variable{K:Frag}{C:Addr}
theorem Ja4{H:Hp}{kvs:List (V×V)}{as:List Addr}(h:∀b∈as,H b=none):Same H (VY H as kvs):=fun b o e=>by rw[UC fun m=>by rw[h b m] at e;cases e];exact e
theorem Je9{H:Hp}:∀{as:List Addr} {kvs:List (V×V)} {b:Addr} {o:HO},VY H as kvs b=some o->H b=some o\/b∈as
 | [],_,_,_,e=>.inl e
 | _::_,[],_,_,e=>.inl e
 | a::as,kv::kvs,b,o,e=>by
  by_cases c:b=a
  ·exact .inr (by rw[c];exact Qf)
  ·rw[VY,Ji c] at e;exact(Je9 e).imp id fun m=>Qc _ m
theorem RDL.zips:∀{xs ys:List V} {ds es:List D} {as:List Addr} {H:Hp},as.length=(xs.zip ys).length->(∀(j:Nat) (a:Addr) (x y:V),as[j]?=some a->xs[j]?=some x->ys[j]?=some y->H a=some (.tup [x,y]))->RDL K C H xs ds->RDL K C H ys es->RDL K C H (as.map V.ref) (Jb8 ds es)
 | [],ys,ds,es,as,H,h1,_,r,r'=>by
  have:ds=[]:=by
   cases ds with
   | nil=>rfl
   | cons d ds=>have:=r.1;simp at this
  subst this;have:as=[]:=QZ (by simpa using h1);subst this;exact .nil
 | x::xs,[],ds,es,as,H,h1,_,r,r'=>by
  have:es=[]:=by
   cases es with
   | nil=>rfl
   | cons d ds=>have:=r'.1;simp at this
  subst this;have:as=[]:=QZ (by simpa using h1);subst this;cases ds <;> exact .nil
 | x::xs,y::ys,[],es,as,H,h1,_,r,r'=>by have:=r.1;simp at this
 | x::xs,y::ys,d::ds,[],as,H,h1,_,r,r'=>by have:=r'.1;simp at this
 | x::xs,y::ys,d::ds,e::es,[],H,h1,_,r,r'=>by simp at h1
 | x::xs,y::ys,d::ds,e::es,a::as,H,h1,h3,r,r'=>by show RDL K C H (V.ref a::as.map V.ref) (.tup [d,e]::Jb8 ds es);exact .cons (.mkT (.of (h3 0 a x y rfl rfl rfl)) (.cons r.head (.cons r'.head .nil))) (RDL.zips (by simpa using h1) (fun j a x y e1 e2 e3=>h3 (j+1) a x y (by simpa using e1) (by simpa using e2) (by simpa using e3)) r.tail r'.tail)
theorem Jot{t:TA}{ev:En->Option (List Sl)}(ha:SA K C t ev):SE K C (Jdm K t) (Jho ev):=by
 intro B H0 H σ E r Q I e q;obtain⟨ss,e1,e⟩:=bind_some e;split at e
 ·next s u =>
  obtain⟨ds1,e2,e⟩:=bind_some e;obtain⟨ds2,e3,e⟩:=bind_some e;split at e
  ·next hz =>
   cases e;refine ha B H0 H σ E _ _ I e1 fun vs H1 H1' s1 r1=>?_
   obtain⟨v,w,rfl,ra,rb⟩:=r1.two;have f:=JL (Hs:=H) s1.i;obtain⟨b1,a1,xs,rfl,k1,w1⟩:=Jgd (m:=true) ra s1.i e2;obtain⟨b2,a2,ys,rfl,k2,w2⟩:=Jgd (m:=true) rb s1.i e3;have st0:SStep H1' (JX H H1 H1') (JX H H1 H1') H1':=⟨Same.refl _,Same.refl _,fun _ _ e=>.inl e,f.i⟩
   have s2:=s1.comp f fun _ z=>z
   refine⟨b1,b2,a1,a2,xs,ys,rfl,k1 _ (fun _=>rfl) _ _ st0,k2 _ (fun _=>rfl) _ _ st0,?_,fun L as hL hal hnd hLa hfr=>?_⟩
   ·rw[KW,w1.1];exact QR (Nat.min_le_left _ _) hz
   have fr0:∀b∈as,JX H H1 H1' b=none:=fun b hb=>Same.free s2.i (hfr b hb)
   have frH:∀b∈as,H b=none:=fun b hb=>Same.free s2.h (hfr b hb)
   have hL0:JX H H1 H1' L=none:=Same.free s2.i hL
   have z0:Same (JX H H1 H1') (VY (JX H H1 H1') as (xs.zip ys)):=Ja4 fr0
   have zz:Same H1' (VY H1' as (xs.zip ys)):=Ja4 hfr
   have hLl:VY H1' as (xs.zip ys) L=none:=by rw[UC hLa];exact hL
   have ii:Same (VY (JX H H1 H1') as (xs.zip ys)) (VY H1' as (xs.zip ys)):=fun b o e=>by
    by_cases hb:b∈as
    ·obtain⟨j,hj⟩:=K1.mp hb
     have hjl:j<(xs.zip ys).length:=by have:=(Qg.mp hj).1;omega
     have hkv:=Q6 hjl;rw[Zq hnd hj hkv] at e ⊢;exact e
    ·rw[UC hb] at e ⊢;exact s2.i b o e
   refine q _ (VY (JX H H1 H1') as (xs.zip ys)) _ ⟨(s2.h.trans zz).trans (.new hLl),s2.z.trans z0,fun b o e=>?_,ii.trans (.new hLl)⟩ ⟨L,as.map V.ref,rfl,Jt,by rw[UC hLa];exact hL0,Same.free s2.h hL,?_⟩
   ·rcases Je9 e with z|z
    ·exact s2.n b o z
    ·exact .inr (.inl (frH b z))
   ·refine RDL.zips hal (fun j a x y j1 j2 j3=>?_) (w1.mono z0) (w2.mono z0);exact Zq (kv:=(x,y)) hnd j1 (by rw[Mj];exact⟨j2,j3⟩)
  ·cases e
 ·cases e
end
end LE

namespace L2
open PySem PySem.Spec PyProof.Rows
section
variable{X:Cx}{pins:List (Addr×Obj)}{σ:St}{H:Hp}{s:Shared}{a:Addr}{kvs:List (Key×V)}{k:Key}{z:V}{u r:Value}{A:Around}{E:Value->Shared->Prop}
theorem Jmy{Q:Value->Shared->Prop}(I:Inv X pins σ H s)(e:H a=some (.dK kvs))(ry:RelV (kV k) u)(rz:RelV z r)(l:kvs.length<sizeLine)
 (h1:∀v w' s',UG kvs k=some v->Inv X pins σ H s'->RelV v w'->Q w' s') (h2:UG kvs k=none->∀s',Inv X pins σ (upd H a (.dK (U4 kvs k z))) s'->Q r s') :
 wpAny (model X.prog X.w) A (call (.builtin "dict.setdefault") [.ref a,u,r]) Q E s:=by
 obtain⟨hz,hd,vs,rel,dd⟩:=JlR I.hok e;have hzl:vs.length<=sizeLine:=by rw[<- rel.length];exact hz
 have hl:(U4 kvs k z).length<=sizeLine:=by have:=Vy kvs k z;omega
 refine call_meetsIn LW dd.typeIs PySem.F.entry_dict_setdefault (PySem.F.args_dict_setdefault_3 _ _ _) (kt_meets_setdefault (JW X.prog X.w) a (JcE ry) hd r) ⟨vs,dd,hzl,fun v hv=>?_,fun hn h' dd' hs=>?_⟩
 ·have rv:=rel.val k;rw[hv] at rv
  cases hk:UG kvs k with
  | none=>rw[hk] at rv;cases rv
  | some y=>rw[hk] at rv;exact h1 y v _ hk (I.tok _) rv
 ·have rv:=rel.val k;rw[hn] at rv
  have hk:UG kvs k=none:=by
   cases hk:UG kvs k with
   | none=>rfl
   | some y=>rw[hk] at rv;cases rv
  refine h2 hk _ ?_;have he:∃q,h'.get? a=some q:=let ⟨q,_,_,hq,_⟩:=dd';⟨q,hq⟩
  exact Jbt I (by rw[e];exact True.intro) hs he (Jhm hl hd (rel.put k rz) dd')
end
noncomputable def Jej(td ty tx:TE):TE:=fun σ H Q=>td σ H fun x H1=>∃a,x=.ref a/\IsD H1 a/\ty σ H1 fun y H2=>tx σ H2 fun z H3=>∃kvs k,H3 a=some (.dK kvs)/\y=kV k/\kvs.length<sizeLine ∧
 (∀v,UG kvs k=some v->Q v H3)/\(UG kvs k=none->Q z (upd H3 a (.dK (U4 kvs k z))))
section
variable{X:Cx}{o e f:Expr}{apos cpos:Pos}{td ty tx:TE}
theorem Jig(ho:PE X o td)(he:PE X e ty)(hf:PE X f tx)(m:M2 X o "setdefault" apos e f cpos):PE X (.Call (.Attribute o "setdefault" apos) [e,f] [] cpos) (Jej td ty tx):=by
 intro pins s σ H Q I h;refine wpAny_Call_method m.base m.few m.line ME LW PySem.F.type_dict_setdefault (thn (ho pins s σ H _ I h) fun u s1 ⟨x,H1,I1,rx,a,ex,d,q1⟩=>?_);subst ex;obtain rfl:u=Value.ref a:=rx;obtain⟨t1,t2,_⟩:=JhM I1 d;refine⟨t1,t2,?_⟩;rw[m.trees];refine KM rfl (K6 (Kc (thn (he pins s1 σ H1 _ I1 q1) fun iv s2 ⟨y,H2,I2,ry,q2⟩=>Kc (thn (hf pins s2 σ H2 _ I2 q2) fun fv s3 ⟨z,H3,I3,rz,kvs,k,e1,e2,l,q3,q4⟩=>Lw ?_))))
 subst e2;exact Jmy I3 e1 ry rz l (fun v w' s' hv I4 rv=>⟨v,H3,I4,rv,q3 v hv⟩) fun hn s' I4=>⟨z,_,I4,rz,q4 hn⟩
end
end L2
namespace LE
open PySem L2 LR
section
variable(K:Frag)(C:Addr)(j:Nat)
noncomputable def Left(σ:St)(E:En)(σ':St)(E':En):Prop:=σ'[j]?=σ[j]?/\∀(i:Nat) (s:Sl),E'[i]?=some s->JR s=true->E[i]?=some s/\σ'[i]?=σ[i]?
noncomputable def SGJ(g:TG)(p:Pt):Prop:=∀(B H0 H:Hp) (σ:St) (E E':En) (x:V) (d:D) (Q:St->Hp->Prop),EnvR K C B H0 H σ E->RD K C H0 x d->p.bind d E=some E'->(∀σ',EnvR K C B H0 H σ' E'->Left j σ E σ' E'->Q σ' H)->g x σ H Q
noncomputable def Jjo(g:TGs)(p:Pts):Prop:=∀(B H0 H:Hp) (σ:St) (E E':En) (xs:List V) (ds:List D) (Q:St->Hp->Prop),EnvR K C B H0 H σ E->RDL K C H0 xs ds->p.bind ds E=some E'->(∀σ',EnvR K C B H0 H σ' E'->Left j σ E σ' E'->Q σ' H)->g xs σ H Q
end
section
variable{K:Frag}{C:Addr}{j:Nat}
theorem Left.refl(σ:St)(E:En):Left j σ E σ E:=⟨rfl,fun _ _ e _=>⟨e,rfl⟩⟩
theorem Left.trans{σ σ1 σ2:St}{E E1 E2:En}(a:Left j σ E σ1 E1)(b:Left j σ1 E1 σ2 E2):Left j σ E σ2 E2 :=
 ⟨b.1.trans a.1,fun i s e o=>by obtain⟨h1,h2⟩:=b.2 i s e o;obtain⟨h3,h4⟩:=a.2 i s h1 o;exact⟨h3,h2.trans h4⟩⟩
theorem JhG{i:Nat}(h:i≠j):SGJ K C j (Vv i) (.nm i):=by
 intro B H0 H σ E E' x d Q I r e q;rw[Pt.bind] at e;split at e
 ·cases e;refine q _ (I.setSh (by assumption) r) ⟨by rw[QA,if_neg h],fun i' s e o=>?_⟩;rw[QA] at e
  by_cases c:i=i'
  ·rw[if_pos c] at e
   by_cases hl:i<E.length
   ·rw[if_pos hl] at e;have e':Sl.sh d=s:=Qz e;rw[<- e'] at o;exact absurd o Qp
   ·rw[if_neg hl] at e;exact absurd e (by simp)
  ·rw[if_neg c] at e;exact⟨e,by rw[QA,if_neg c]⟩
 ·cases e
theorem JmR:Jjo K C j Jkb .nil:=by
 intro B H0 H σ E E' xs ds Q I r e q
 cases ds with
 | nil =>
  cases xs with
  | nil=>rw[Pts.bind] at e;cases e;exact⟨rfl,q σ I (.refl σ _)⟩
  | cons _ _=>have:=r.1;simp at this
 | cons _ _=>simp[Pts.bind] at e
theorem JbA{g:TG}{gs:TGs}{p:Pt}{ps:Pts}(h:SGJ K C j g p)(hs:Jjo K C j gs ps):Jjo K C j (Je1 g gs) (.cons p ps):=by
 intro B H0 H σ E E' xs ds Q I r e q
 cases ds with
 | nil=>simp[Pts.bind] at e
 | cons d ds =>
  cases xs with
  | nil=>have:=r.1;simp at this
  | cons x xs=>rw[Pts.bind] at e;obtain⟨E1,e1,e2⟩:=bind_some e;exact⟨x,xs,rfl,h B H0 H σ E E1 x d _ I r.head e1 fun σ1 I1 l1=>hs B H0 H σ1 E1 E' xs ds Q I1 r.tail e2 fun σ2 I2 l2=>q σ2 I2 (l1.trans l2)⟩
theorem JmS{n:Nat}{gs:TGs}{ps:Pts}(hs:Jjo K C j gs ps)(hn:ps.len=n):SGJ K C j (Jgb K n gs) (.tp ps):=by
 intro B H0 H σ E E' x d Q I r e q
 cases d with
 | tup ds=>rw[Pt.bind] at e;obtain⟨a,xs,rfl,h,r⟩:=RD.tupI r;exact⟨a,xs,rfl,I.h.seqT h,by rw[r.1];exact(Pts.bind_len e).trans hn,hs B H0 H σ E E' xs ds Q I r e q⟩
 | _=>simp[Pt.bind] at e
theorem EnvR.poke{B H0 H:Hp}{σ:St}{E:En}{a:Addr}{o:HO}(I:EnvR K C B H0 H σ E)(h0:H0 a=none)(hb:B a=none)(ho:∀(i:Nat) (s:Sl),E[i]?=some s->JR s=true->σ[i]?≠some (some (.ref a))):EnvR K C B H0 (upd H a o) σ E:=by
 have nb:∀{A:Hp},A a=none->Same A H->Same A (upd H a o):=fun {A} n s b o e=>by rw[Ji (Jq e n)];exact s b o e
 refine⟨nb hb I.b,nb h0 I.h,I.len,fun i s e=>?_,I.sep⟩;rcases I.at' i s e with z|⟨v,q1,q2⟩
 ·exact .inl z
 ·refine .inr ⟨v,q1,?_⟩
  cases s with
  | no=>trivial
  | sh d=>exact q2
  | bo es=>exact q2
  | bd ks es=>exact q2
  | bt ks es=>exact q2
  | own es =>
   obtain⟨l',ys,p1,p2,p3⟩:=q2;subst p1;have:l'≠a:=fun z=>ho i _ e rfl (by rw[q1,z])
   exact⟨l',ys,rfl,by rw[Ji this];exact p2,p3⟩
  | od ks es =>
   obtain⟨l',ys,p1,p2,p3⟩:=q2;subst p1;have:l'≠a:=fun z=>ho i _ e rfl (by rw[q1,z])
   exact⟨l',ys,rfl,by rw[Ji this];exact p2,p3⟩
  | ot ks es =>
   obtain⟨l',ys,p1,p2,p3⟩:=q2;subst p1;have:l'≠a:=fun z=>ho i _ e rfl (by rw[q1,z])
   exact⟨l',ys,rfl,by rw[Ji this];exact p2,p3⟩
end
end LE

namespace LE
open PySem L2 LR
noncomputable def Jaw:List Int->List (List D)->Int->D->List (List D)
 | k::ks,x::xs,n,d=>if k=n then(x++[d])::xs else x::Jaw ks xs n d
 | _,xs,_,d=>xs++[[d]]
noncomputable def Wr(p:Pt)(ek ev:Ev):List D->En->List Int->List (List D)->Option (En×List Int×List (List D))
 | [],E,ks,dss=>some (E,ks,dss)
 | d::ds,E,ks,dss=>(p.bind d E).bind fun E1=>((ek E1).bind int?).bind fun n=>(ev E1).bind fun s=>s.frz.bind fun dv=>Wr p ek ev ds E1 (Yv ks n) (Jaw ks dss n dv)
noncomputable def JlJ(it:En->Option (List D))(p:Pt)(j:Nat)(ek ev:Ev):Es:=fun E=>match E[j]? with
 | some (.od [] [])=>(it E).bind fun ds=>if ds.length<sizeLine then(Wr p ek ev ds (E.set j .no) [] []).bind fun r=>if j<r.1.length then some (.nx (r.1.set j (.od r.2.1 (r.2.2.map .lst)))) else none else none
 | _=>none
theorem Zw:∀{ks:List Int} {ls:List Addr} {n:Int} {a:Addr},look ks ls n=some a->∃m,ls[m]?=some a/\Zi ks n=true/\∀dss:List (List D),dss.length=ls.length->∃ds,dss[m]?=some ds/\∀d,Jaw ks dss n d=dss.set m (ds++[d])
 | [],_,_,_,e=>by cases e
 | _::_,[],_,_,e=>by cases e
 | k::ks,l::ls,n,a,e=>by
  simp only[look] at e
  by_cases c:k=n
  ·rw[if_pos c] at e;cases e;refine⟨0,rfl,by unfold Zi;simp[c],fun dss hl=>?_⟩
   cases dss with
   | nil=>simp at hl
   | cons x xs=>exact⟨x,rfl,fun d=>by rw[Jaw,if_pos c];rfl⟩
  ·rw[if_neg c] at e;obtain⟨m,h1,h2,h3⟩:=Zw e;refine⟨m+1,by simpa using h1,by unfold Zi at h2 ⊢;rw[GP,h2,Rz],fun dss hl=>?_⟩
   cases dss with
   | nil=>simp at hl
   | cons x xs=>obtain⟨ds,g1,g2⟩:=h3 xs (by simpa using hl);exact⟨ds,by simpa using g1,fun d=>by rw[Jaw,if_neg c,g2 d];rfl⟩
theorem JaJ:∀{ks:List Int} {ls:List Addr} {n:Int},ks.length=ls.length->look ks ls n=none->Zi ks n=false/\∀(dss:List (List D)) (d:D),dss.length=ls.length->Jaw ks dss n d=dss++[[d]]
 | [],[],_,_,_=>⟨rfl,fun dss d _=>by cases dss <;> rfl⟩
 | [],_::_,_,h,_=>by simp at h
 | _::_,[],_,h,_=>by simp at h
 | k::ks,l::ls,n,h,e=>by
  simp only[look] at e
  by_cases c:k=n
  ·rw[if_pos c] at e;cases e
  ·rw[if_neg c] at e;obtain⟨h1,h2⟩:=JaJ (by simpa using h) e;refine⟨by unfold Zi at h1 ⊢;rw[GP,h1,decide_eq_false c];rfl,fun dss d hl=>?_⟩
   cases dss with
   | nil=>simp at hl
   | cons x xs=>rw[Jaw,if_neg c,h2 xs d (by simpa using hl)];rfl
section
variable(K:Frag)(C:Addr)
structure Grp (B H0 H:Hp) (σ:St) (E:En) (j c:Nat) (ks:List Int) (dss:List (List D)) (l:Addr) (ls:List Addr):Prop where
 at':σ[j]?=some (some (.ref l))
 dict:H l=some (dkO ks (ls.map V.ref))
 l0:H0 l=none
 lb:B l=none
 len:ks.length=ls.length
 len2:dss.length=ls.length
 cnt:ks.length<=c
 lists:∀(m:Nat) (a:Addr) (ds:List D),ls[m]?=some a->dss[m]?=some ds->ds.length<=c/\∃xs,H a=some (.lst xs)/\H0 a=none/\B a=none/\RDL K C H0 xs ds
 nd:(l::ls).Nodup
 own:∀(i:Nat) (s:Sl) (a:Addr),E[i]?=some s->JR s=true->σ[i]?=some (some (.ref a))->a∉l::ls
end
section
variable{K:Frag}{C:Addr}{B H0 H H0' H':Hp}{σ σ':St}{E E':En}{j c:Nat}{ks:List Int}{dss:List (List D)}{l:Addr}{ls:List Addr}
theorem Grp.there(g:Grp K C B H0 H σ E j c ks dss l ls){a:Addr}(ha:a∈l::ls):∃o,H a=some o/\isT o=false/\H0 a=none/\B a=none:=by
 rcases Qh.mp ha with z|z
 ·subst z;exact⟨_,g.dict,rfl,g.l0,g.lb⟩
 ·obtain⟨m,hm⟩:=K1.mp z;have hl:m<dss.length:=by rw[g.len2];exact(Qg.mp hm).1
  obtain⟨_,xs,h1,h2,h3,_⟩:=g.lists m a dss[m] hm (Q6 hl);exact⟨_,h1,rfl,h2,h3⟩
theorem Grp.off(g:Grp K C B H0 H σ E j c ks dss l ls)(st:Step H H0 H H0' H'){a:Addr}(ha:a∈l::ls):H0' a=none:=by
 obtain⟨o,h1,h2,h3,_⟩:=g.there ha
 cases z:H0' a with
 | none=>rfl
 | some u =>
  rcases st.n a u z with y|y|y
  ·rw[h3] at y;cases y
  ·rw[h1] at y;cases y
  ·have:=st.i a u z;rw[st.h a o h1] at this;cases this;rw[h2] at y;cases y
theorem Grp.step(g:Grp K C B H0 H σ E j c ks dss l ls)(st:Step H H0 H H0' H'):Grp K C B H0' H' σ E j c ks dss l ls :=
 ⟨g.at',st.h _ _ g.dict,g.off st Qf,g.lb,g.len,g.len2,g.cnt,fun m a ds e1 e2=>by obtain⟨h0,xs,h1,h2,h3,h4⟩:=g.lists m a ds e1 e2;exact⟨h0,xs,st.h _ _ h1,g.off st (Qc _ (QI e1)),h3,h4.mono st.z⟩,g.nd,g.own⟩
theorem Grp.left(g:Grp K C B H0 H σ E j c ks dss l ls)(f:Left j σ E σ' E'):Grp K C B H0 H σ' E' j c ks dss l ls :=
 ⟨f.1.trans g.at',g.dict,g.l0,g.lb,g.len,g.len2,g.cnt,g.lists,g.nd,fun i s a e o q=>by obtain⟨h1,h2⟩:=f.2 i s e o;exact g.own i s a h1 o (by rw[<- h2];exact q)⟩
theorem Grp.free(g:Grp K C B H0 H σ E j c ks dss l ls){a:Addr}(ha:a∈l::ls):∀(i:Nat) (s:Sl),E[i]?=some s->JR s=true->σ[i]?≠some (some (.ref a)):=fun i s e o q=>g.own i s a e o q ha
theorem EnvR.fresh(I:EnvR K C B H0 H σ E){p:Addr}(hp:H p=none):∀(i:Nat) (s:Sl),E[i]?=some s->JR s=true->σ[i]?≠some (some (.ref p)):=fun i s e o q=>by
 rcases I.at' i s e with z|⟨v,q1,q2⟩
 ·subst z;cases o
 ·rw[q1] at q;cases q
  cases s with
  | own es=>obtain⟨l',ys,p1,p2,_⟩:=q2;cases p1;rw[hp] at p2;cases p2
  | od ks es=>obtain⟨l',ys,p1,p2,_⟩:=q2;cases p1;rw[hp] at p2;cases p2
  | ot ks es=>obtain⟨l',ys,p1,p2,_⟩:=q2;cases p1;rw[hp] at p2;cases p2
  | _=>cases o
theorem VP{α β:Type}(f:α->β):∀(ks:List Int) (vs:List α) (n:Int),look ks (vs.map f) n=(look ks vs n).map f
 | [],_,_=>rfl
 | _::_,[],_=>rfl
 | k::ks,v::vs,n=>by
  rw[Qi];simp only[look];split
  ·rfl
  ·exact VP f ks vs n
theorem JhH{tk tv:TE}{ek ev:Ev}(hk:SE K C tk ek)(hv:SE K C tv ev)(I:EnvR K C B H0 H σ E)(g:Grp K C B H0 H σ E j c ks dss l ls)(hc:c<sizeLine){n:Int}{s:Sl}{dv:D}(e1:ek E=some (.sh (.int n)))(e2:ev E=some s)(e3:s.frz=some dv){D:Ends}
 (f:∀H0' H' ls',SStep B H0 H0' H'->EnvR K C B H0' H' σ E->Grp K C B H0' H' σ E j (c+1) (Yv ks n) (Jaw ks dss n dv) l ls'->D.nx σ H') :
 WL (tBM K "list" WE (Jej (Zl j) tk (Ji1 UV)) (YE tv UV)) D σ H:=by
 have hkl:=g.len
 have hcn:=g.cnt;refine⟨.ref l,g.at',l,rfl,.inl ⟨_,.inl g.dict⟩,hk B H0 H σ E _ _ I e1 fun y H1 H1' s1 r1=>?_⟩
 have ry:y=.int n:=RD.intI r1;subst ry
 have I1:=I.step s1
 have g1:=g.step s1;refine⟨Gn _,fun p hp=>?_⟩
 have p0:H1 p=none:=Same.free s1.i hp
 have pb:B p=none:=Same.free I1.b hp
 have pn:p∉l::ls:=fun m=>by obtain⟨o,h1,_⟩:=g1.there m;rw[hp] at h1;cases h1
 have I2:EnvR K C B H1 (upd H1' p (.lst [])) σ E:=I1.poke p0 pb (I1.fresh hp)
 have ne:∀{a:Addr},a∈l::ls->a≠p:=fun {a} m z=>pn (z▸m)
 have dl:upd H1' p (.lst []) l=some (dkO ks (ls.map V.ref)):=by rw[Ji (ne Qf)];exact g1.dict
 have ss1:SStep B H0 H1 H1':=s1.ss I.b;refine⟨_,(Sum.inl n:Key),dl,rfl,?_,fun v hv'=>?_,fun hn=>?_⟩
 ·rw[KW,Qo,Qo,hkl,MV];omega
 ·-- the list is there
  rw[U7,VP] at hv';obtain⟨a,ha,rfl⟩:=Gb.mp hv';obtain⟨m,m1,m2,m3⟩:=Zw ha;obtain⟨ds,d1,d2⟩:=m3 dss g.len2;have ham:a∈l::ls:=Qc _ (QI m1);obtain⟨hd,xs,x1,x2,x3,x4⟩:=g1.lists m a ds m1 d1;have xa:upd H1' p (.lst []) a=some (.lst xs):=by rw[Ji (ne ham)];exact x1
  refine⟨.inl ⟨rfl,xs,.of xa⟩,?_⟩;refine hv B H1 _ σ E _ _ I2 e2 fun v H3 H3' s3 r3=>?_
  have s4:Step (upd H1' p (.lst [])) H1 (upd H1' p (.lst [])) (JX (upd H1' p (.lst [])) H3 H3') H3':=s3.comp (JL s3.i) fun _ z=>z
  have g2:Grp K C B H1 (upd H1' p (.lst [])) σ E j c ks dss l ls:=⟨g1.at',dl,g1.l0,g1.lb,g1.len,g1.len2,g1.cnt,fun m' a' ds' q1 q2=>by obtain⟨h0,xs',h1,h2⟩:=g1.lists m' a' ds' q1 q2;exact⟨h0,xs',by rw[Ji (ne (Qc _ (QI q1)))];exact h1,h2⟩,g1.nd,g1.own⟩
  have g3:=g2.step s4
  have I3:=I2.step s4
  have ha3:H3' a=some (.lst xs):=s4.h _ _ xa
  have rv:RDL K C (JX (upd H1' p (.lst [])) H3 H3') (xs++[v]) (ds++[dv]):=(x4.mono s4.z).snoc (RR.frz s3.i r3 e3);refine⟨a,xs,v,rfl,rfl,ha3,by rw[x4.1];omega,?_⟩
  have al:a≠l:=fun z=>(Q8.mp g.nd).1 (z▸QI m1)
  refine f (JX (upd H1' p (.lst [])) H3 H3') _ ls ?_ (I3.poke (g3.off (.refl I3.h) ham) (g3.there ham).choose_spec.2.2.2 (g3.free ham)) ?_
  ·have sb:SStep B H1 (JX (upd H1' p (.lst [])) H3 H3') H3':=s4.ss I2.b
   have:=ss1.trans sb
   have na:JX (upd H1' p (.lst [])) H3 H3' a=none:=g3.off (.refl I3.h) ham
   have nb:B a=none:=x3;exact⟨fun b o q=>by rw[Ji (Jq q nb)];exact this.b b o q,this.z,this.n,fun b o q=>by rw[Ji (Jq q na)];exact this.i b o q⟩
  ·have hp':Yv ks n=ks:=if_pos m2;rw[hp',d2 dv];refine⟨g3.at',by rw[Ji (QC al)];exact g3.dict,g3.l0,g3.lb,g3.len,by rw[List.length_set];exact g3.len2,Nat.le_succ_of_le g3.cnt,fun m' a' ds' q1 q2=>?_,g3.nd,g3.own⟩;rw[QA] at q2
   by_cases hm:m=m'
   ·subst hm;rw[m1] at q1;cases q1;rw[if_pos rfl] at q2;split at q2
    ·cases q2;exact⟨by rw[Qy,GH];omega,_,Jt,g3.off (.refl I3.h) ham,x3,rv⟩
    ·cases q2
   ·rw[if_neg hm] at q2;obtain⟨h0,xs',h1,h2⟩:=g3.lists m' a' ds' q1 q2
    have:a'≠a:=fun z=>by subst z;have nd:=(Q8.mp g.nd).2;obtain⟨b1,b2⟩:=Qg.mp m1;obtain⟨c1,c2⟩:=Qg.mp q1;exact hm ((MA nd).mp (b2.trans c2.symm))
    exact⟨by omega,xs',by rw[Ji this];exact h1,h2⟩
 ·-- a new list
  rw[U7,VP] at hn;have hn':look ks ls n=none:=MY.mp hn;obtain⟨m2,m3⟩:=JaJ g.len hn'
  have hkv:U4 ((ks.map Sum.inl:List Key).zip (ls.map V.ref)) (Sum.inl n) (.ref p)=((ks++[n]).map Sum.inl:List Key).zip ((ls++[p]).map V.ref):=by rw[Jir _ (by rw[U7,VP,hn'];rfl),Gd,Gd,M3 (by rw[Qo,Qo];exact g.len)];rfl
  rw[hkv];have lp:l≠p:=ne Qf;have xp:upd (upd H1' p (.lst [])) l (dkO (ks++[n]) ((ls++[p]).map V.ref)) p=some (.lst []):=by rw[Ji (QC lp),Jt]
  have I2':EnvR K C B H1 (upd (upd H1' p (.lst [])) l (dkO (ks++[n]) ((ls++[p]).map V.ref))) σ E:=I2.poke g1.l0 g1.lb (g1.free Qf)
  suffices key:∀Hn,upd (upd H1' p (.lst [])) l (dkO (ks++[n]) ((ls++[p]).map V.ref))=Hn->Hn p=some (.lst [])->EnvR K C B H1 Hn σ E->(tyV K "list" (.ref p) Hn/\YE tv UV σ Hn fun xs H2=>WE (.ref p) xs H2 fun _ H1=>D.nx σ H1) from key _ rfl xp I2'
  clear xp I2';intro Hn hHn xp I2';refine⟨.inl ⟨rfl,[],.of xp⟩,?_⟩;refine hv B H1 Hn σ E _ _ I2' e2 fun v H3 H3' s3 r3=>?_
  have s4:Step Hn H1 Hn (JX Hn H3 H3') H3':=s3.comp (JL s3.i) fun _ z=>z
  have nd':(l::(ls++[p])).Nodup:=by
   rw[<- KI,Mr];refine⟨g.nd,by simp,fun x hx y hy=>?_⟩;have:y=p:=by simpa using hy
   rw[this];exact ne hx
  have g2:Grp K C B H1 Hn σ E j (c+1) (ks++[n]) (dss++[[]]) l (ls++[p]):=⟨g1.at',by rw[<- hHn];exact Jt,g1.l0,g1.lb,by simp[g.len],by simp[g.len2],by simp;omega,fun m' a' ds' q1 q2=>by
   by_cases hm:m'<ls.length
   ·rw[Qq hm] at q1;rw[Qq (by rw[g.len2];exact hm)] at q2;obtain⟨h0,xs',h1,h2⟩:=g1.lists m' a' ds' q1 q2;have hal:a'∈ls:=QI q1;exact⟨by omega,xs',by rw[<- hHn,Ji fun z=>(Q8.mp g.nd).1 (by rw[<- z];exact hal),Ji (ne (Qc _ hal))];exact h1,h2⟩
   ·have hm1:m'=ls.length:=by have:=(Qg.mp q1).1;simp at this;omega
    subst hm1
    have ea:a'=p:=by
     rw[QH (Qn _)] at q1
     simpa using q1.symm
    have ed:ds'=[]:=by
     rw[QH (by rw[g.len2];exact Qn _),g.len2] at q2
     simpa using q2.symm
    subst ea ed;exact⟨Gn _,[],xp,p0,pb,.nil⟩,nd',fun i s a e o q m=>by
     rw[<- KI] at m;rcases QX.mp m with z|z
     ·exact g1.own i s a e o q z
     ·have:a=p:=by simpa using z
      subst this;exact I1.fresh hp i s e o q⟩
  have g3:=g2.step s4
  have I3:=I2'.step s4
  have pm:p∈l::(ls++[p]):=by simp
  have p3:H3' p=some (.lst []):=s4.h _ _ xp
  have rv:RDL K C (JX Hn H3 H3') [v] [dv]:=.cons (RR.frz s3.i r3 e3) .nil;refine⟨p,[],v,rfl,rfl,p3,by show 0<sizeLine;decide,?_⟩
  have n0:JX Hn H3 H3' p=none:=g3.off (.refl I3.h) pm;refine f (JX Hn H3 H3') _ (ls++[p]) ?_ (I3.poke n0 pb (g3.free pm)) ?_
  ·have sb:SStep B H1 (JX Hn H3 H3') H3':=s4.ss I2'.b
   have:=ss1.trans sb;exact⟨fun b o q=>by rw[Ji (Jq q pb)];exact this.b b o q,this.z,this.n,fun b o q=>by rw[Ji (Jq q n0)];exact this.i b o q⟩
  ·have hp':Yv ks n=ks++[n]:=if_neg (by rw[m2];exact Qp);rw[hp',m3 dss dv g.len2];refine⟨g3.at',by rw[Ji lp];exact g3.dict,g3.l0,g3.lb,g3.len,by simp[g.len2],g3.cnt,fun m' a' ds' q1 q2=>?_,g3.nd,g3.own⟩
   by_cases hm:m'<ls.length
   ·have q2':(dss++[[]])[m']?=some ds':=by rw[Qq (by rw[g.len2];exact hm)] at q2 ⊢;exact q2
    obtain⟨h0,xs',h1,h2⟩:=g3.lists m' a' ds' q1 q2'
    have:a'≠p:=by rw[Qq hm] at q1;exact ne (Qc _ (QI q1))
    exact⟨h0,xs',by rw[Ji this];exact h1,h2⟩
   ·have hm1:m'=ls.length:=by have:=(Qg.mp q1).1;simp at this;omega
    subst hm1
    have ea:a'=p:=by
     rw[QH (Qn _)] at q1
     simpa using q1.symm
    have ed:ds'=[dv]:=by
     rw[QH (by rw[g.len2];exact Qn _),g.len2] at q2
     simpa using q2.symm
    subst ea ed;exact⟨by simp,[v],Jt,n0,pb,rv⟩
end
end LE

namespace LE
open PySem L2 LR
section
variable{K:Frag}{C:Addr}{B H0 H H0' H':Hp}{σ σ':St}{E E':En}{j c:Nat}{ks:List Int}{dss:List (List D)}{l:Addr}{ls:List Addr}
theorem EnvR.unslot(I:EnvR K C B H0 H σ E)(j:Nat):EnvR K C B H0 H σ (E.set j .no):=by
 have get:∀(i:Nat) (s:Sl),(E.set j Sl.no)[i]?=some s->s=.no\/(i≠j/\E[i]?=some s):=fun i s e=>by
  rw[QA] at e
  by_cases c:j=i
  ·rw[if_pos c] at e
   by_cases hl:j<E.length
   ·rw[if_pos hl] at e;exact .inl (Qz e).symm
   ·rw[if_neg hl] at e;exact absurd e (by simp)
  ·rw[if_neg c] at e;exact .inr ⟨fun z=>c z.symm,e⟩
 refine⟨I.b,I.h,by simp[I.len],fun i s e=>?_,fun i k s t v hik e1 e2 o1 o2 e3 e4=>?_⟩
 ·rcases get i s e with z|⟨_,z⟩
  ·exact .inl z
  ·exact I.at' i s z
 ·rcases get i s e1 with z|⟨_,z⟩
  ·subst z;cases o1
  ·rcases get k t e2 with y|⟨_,y⟩
   ·subst y;cases o2
   ·exact I.sep i k s t v hik z y o1 o2 e3 e4
noncomputable def Jga(H0 H:Hp)(ls:List Addr):Hp:=fun a=>if a∈ls then H a else H0 a
theorem Jbc{Hz:Hp}:∀{ls:List Addr} {dss:List (List D)},dss.length=ls.length->(∀(m:Nat) (a:Addr) (ds:List D),ls[m]?=some a->dss[m]?=some ds->∃xs,Hz a=some (.lst xs)/\RDL K C Hz xs ds)->RDL K C Hz (ls.map V.ref) (dss.map .lst)
 | [],[],_,_=>.nil
 | [],_::_,h,_=>by simp at h
 | _::_,[],h,_=>by simp at h
 | a::ls,ds::dss,h,f=>by obtain⟨xs,h1,h2⟩:=f 0 a ds rfl rfl;exact .cons (.mkL h1 h2) (Jbc (by simpa using h) fun m a ds e1 e2=>f (m+1) a ds (by simpa using e1) (by simpa using e2))
theorem Grp.done(I:EnvR K C B H0 H σ E)(g:Grp K C B H0 H σ E j c ks dss l ls)(hj:j<E.length):SStep B H0 (Jga H0 H ls) H/\EnvR K C B (Jga H0 H ls) H σ (E.set j (.od ks (dss.map .lst))):=by
 have out:∀{a:Addr},a∉ls->Jga H0 H ls a=H0 a:=fun {a} h=>if_neg h
 have inn:∀{a:Addr},a∈ls->Jga H0 H ls a=H a:=fun {a} h=>if_pos h
 have z:Same H0 (Jga H0 H ls):=fun a o e=>by
  by_cases c:a∈ls
  ·rw[inn c];exact I.h a o e
  ·rw[out c];exact e
 have i:Same (Jga H0 H ls) H:=fun a o e=>by
  by_cases c:a∈ls
  ·rw[inn c] at e;exact e
  ·rw[out c] at e;exact I.h a o e
 have ln:l∉ls:=(Q8.mp g.nd).1;refine⟨⟨I.b,z,fun a o e=>?_,i⟩,I.b,i,by simp[I.len],fun k s e=>?_,fun k m s t v hkm e1 e2 o1 o2 e3 e4=>?_⟩
 ·by_cases c:a∈ls
  ·exact .inr (.inl (g.there (Qc _ c)).choose_spec.2.2.2)
  ·rw[out c] at e;exact .inl e
 ·rw[QA] at e
  by_cases c:j=k
  ·subst c;rw[if_pos rfl,if_pos hj] at e;have e':=Qz e;subst e';refine .inr ⟨_,g.at',l,ls.map V.ref,rfl,g.dict,by rw[out ln];exact g.l0,g.lb,by rw[Qo,g.len2];exact g.len,Jbc g.len2 fun m a ds q1 q2=>?_⟩;obtain⟨_,xs,h1,_,_,h4⟩:=g.lists m a ds q1 q2;exact⟨xs,by rw[inn (QI q1)];exact h1,h4.mono z⟩
  ·rw[if_neg c] at e;rcases I.at' k s e with y|⟨v,q1,q2⟩
   ·exact .inl y
   ·refine .inr ⟨v,q1,?_⟩
    cases s with
    | no=>trivial
    | sh d=>exact RD.mono z q2
    | bo es=>obtain⟨l',ys,p1,p2,p3⟩:=q2;exact⟨l',ys,p1,p2,p3.mono z⟩
    | bd ks es=>obtain⟨l',ys,p1,p2,p3,p4⟩:=q2;exact⟨l',ys,p1,p2,p3,p4.mono z⟩
    | bt ks es=>obtain⟨l',ys,p1,p2,p3,p4⟩:=q2;exact⟨l',ys,p1,p2,p3,p4.mono z⟩
    | own es=>obtain⟨l',ys,p1,p2,p3,p4,p5⟩:=q2;subst p1;have:=g.own k _ l' e rfl q1;exact⟨l',ys,rfl,p2,by rw[out fun m=>this (Qc _ m)];exact p3,p4,p5.mono z⟩
    | od ks es=>obtain⟨l',ys,p1,p2,p3,p4,p5,p6⟩:=q2;subst p1;have:=g.own k _ l' e rfl q1;exact⟨l',ys,rfl,p2,by rw[out fun m=>this (Qc _ m)];exact p3,p4,p5,p6.mono z⟩
    | ot ks es=>obtain⟨l',ys,p1,p2,p3,p4,p5,p6⟩:=q2;subst p1;have:=g.own k _ l' e rfl q1;exact⟨l',ys,rfl,p2,by rw[out fun m=>this (Qc _ m)];exact p3,p4,p5,p6.mono z⟩
 ·have get:∀(i:Nat) (s:Sl),(E.set j (Sl.od ks (dss.map .lst)))[i]?=some s->i=j\/(i≠j/\E[i]?=some s):=fun i s e=>by
   rw[QA] at e
   by_cases c:j=i
   ·exact .inl c.symm
   ·rw[if_neg c] at e;exact .inr ⟨fun z=>c z.symm,e⟩
  rcases get k s e1 with y1|⟨n1,y1⟩
  ·subst y1;rcases get m t e2 with y2|⟨n2,y2⟩
   ·exact hkm y2.symm
   ·rw[g.at'] at e3;have e3':=Qz (Qz e3);subst e3';exact g.own m t l y2 o2 e4 Qf
  ·rcases get m t e2 with y2|⟨n2,y2⟩
   ·subst y2;rw[g.at'] at e4;have e4':=Qz (Qz e4);subst e4';exact g.own k s l y1 o1 e3 Qf
   ·exact I.sep k m s t v hkm y1 y2 o1 o2 e3 e4
theorem Jqg{wi:TI}{g:TG}{it:En->Option (List LE.D)}{p:Pt}{tk tv:TE}{ek ev:Ev}(hi:SI K C false wi it)(hg:SGJ K C j g p)(hk:SE K C tk ek)(hv:SE K C tv ev) :
 SS K C (JgO wi g (WL (tBM K "list" WE (Jej (Zl j) tk (Ji1 UV)) (YE tv UV)))) (JlJ it p j ek ev):=by
 intro B H0 H σ E o D I e f;unfold JlJ at e;split at e
 ·next h =>
  obtain⟨ds,e1,e⟩:=bind_some e;split at e
  ·next hz =>
   obtain⟨⟨E',ks,dss⟩,e2,e⟩:=bind_some e;split at e
   ·next hjl =>
    cases e;refine hi B H0 H σ E ds _ I e1 fun J H1 H1' s1 ok=>?_
    rw[if_neg (by simp)] at ok;have I1:=I.step s1;rcases I1.at' j _ h with y|⟨v,h1,l,xs,rfl,hl,hl0,hlb,_,rx⟩
    ·cases y
    have hx:xs=[]:=QZ (by have:=rx.1;simpa using this);subst hx
    have G0:Grp K C B H1 H1' σ (E.set j .no) j 0 [] [] l []:=⟨h1,hl,hl0,hlb,rfl,rfl,Qn _,fun m a ds q=>by simp at q,by simp,fun i s a q o q' m=>by
     rw[QA] at q
     by_cases c:j=i
     ·rw[if_pos c] at q
      by_cases hl:j<E.length
      ·rw[if_pos hl] at q;have q':=Qz q;rw[<- q'] at o;exact absurd o Qp
      ·rw[if_neg hl] at q;exact absurd q (by simp)
     ·rw[if_neg c] at q;have:a=l:=by simpa using m
      subst this;exact I1.sep j i _ s (.ref a) c h q rfl o h1 q'⟩
    refine⟨fun i k σ' H'=>k=ds.length-i/\i<=ds.length/\∃H0' E1 ks1 dss1 l ls,EnvR K C B H0' H' σ' E1/\SStep B H1 H0' H'/\Grp K C B H0' H' σ' E1 j i ks1 dss1 l ls/\Wr p ek ev (ds.drop i) E1 ks1 dss1=some (E',ks,dss),
     ⟨ds.length,by simp,Gn _,H1,E.set j .no,[],[],l,[],I1.unslot j,.refl (I.b.trans s1.h) s1.i,G0,e2⟩,?_⟩
    rintro i k σ' H' ⟨rfl,hi',H0',E1,ks1,dss1,l,ls,I',st,G,er⟩;have stop:=ok H0' H' st
    by_cases hlt:i<ds.length
    ·have hd:ds[i]?=some ds[i]:=by simp[hlt]
     obtain⟨go,yl⟩:=stop.1 i _ hd;refine .inr ⟨go,fun σ2 H2=>∃H0' E1 ks1 dss1 l ls,EnvR K C B H0' H2 σ2 E1/\SStep B H1 H0' H2/\Grp K C B H0' H2 σ2 E1 j (i+1) ks1 dss1 l ls/\Wr p ek ev (ds.drop (i+1)) E1 ks1 dss1=some (E',ks,dss),fun σ2 H2 h=>⟨ds.length-(i+1),by omega,rfl,hlt,h⟩,fun x H2 y=>?_⟩;obtain⟨H02,st2,rx⟩:=yl x H2 y;rw[Kj hlt,Wr] at er;obtain⟨E2,b1,er⟩:=bind_some er;obtain⟨n,b2,er⟩:=bind_some er;obtain⟨s,b3,er⟩:=bind_some er
     obtain⟨dv,b4,er⟩:=bind_some er;obtain⟨sn,b5,b6⟩:=bind_some b2;have b7:=U1 b6;subst b7;have ss2:SStep B H0' H02 H2:=st2.ss I'.b;refine hg B H02 H2 σ' E1 E2 x _ _ (I'.step st2) rx b1 fun σ2 I2 lf=>?_
     exact JhH hk hv I2 ((G.step st2).left lf) (by omega) b5 b3 b4 fun H03 H3 ls' ss I3 G3=>⟨H03,E2,_,_,l,ls',I3,(st.trans ss2).trans ss,G3,er⟩
    ·have hd:ds.drop i=[]:=List.drop_eq_nil_of_le (by omega)
     have hin:i=ds.length:=by omega
     rw[hd,Wr] at er;have er':=Qz er;cases er';obtain⟨d1,d2⟩:=G.done I' hjl;refine .inl ⟨by rw[hin];exact stop.2,f σ' _ H' (((s1.ss I.b).trans st).trans d1) d2⟩
   ·cases e
  ·cases e
 ·cases e
end
end LE

namespace L2
open PySem PySem.Spec PyProof.Rows
noncomputable def Um:List Int->List Int->Bool
 | [],_=>true
 | _::_,[]=>false
 | x::xs,y::ys=>if x=y then Um xs ys else decide (x<=y)
theorem V8(x y:Int)(xs ys:List Int):Um (x::xs) (y::ys)=if x=y then Um xs ys else decide (x<=y):=rfl
theorem JiC(A:Around)(s:Shared)(a:Int)(t:Tok)(c:Int)(u:Tok)(prog:Program)(w:World)(E:Value->Shared->Prop)(Q:Value->Shared->Prop)(h:Q (.bool (decide (a<=c))) s) :
 wpAny (model prog w) A (richCompare .LtE (.int a t) (.int c u)) Q E s :=
 (PyProof.Rows.le_int h:wpAny (model prog w) A (compareOp .LtE (.int a t) (.int c u)) Q E s)
section
open PySem.SeqAt
open PySem.AutoSeq1 (wpAny_loadPart')
open PySem.MeetsSeq PySem.MeetsSeq2 PySem.MeetsSeq3
theorem JaI(l b:Addr)(items items2:Array Value)(n n2:Nat)(dd dd2:Option Addr)(sl sl2:Array (Option Value))(ns ms:List Int)(hi:IntsAre items.toList ns)(hj:IntsAre items2.toList ms) :
 Meets (Builtin.«tuple.__le__» ⟨[.ref l,.ref b],[]⟩)
  (fun _ R s=>s.heap.get? l=some { cls:=.type "tuple",dict:=dd,data:=.seq items n,slots:=sl }/\s.heap.get? b=some { cls:=.type "tuple",dict:=dd2,data:=.seq items2 n2,slots:=sl2 } ∧
   R (.ok (.ret (.bool (Um ns ms)))) s) :=
 .of_wp fun prog w A R s h=>by
  obtain⟨hp,g,d,tk,os⟩:=s;obtain⟨hl,hb,h⟩:=h;have f2:=AutoSeq1.sub_tuple_tuple;have z1:items.size=ns.length:=by rw[<- hi.length];simp
  have z2:items2.size=ms.length:=by rw[<- hj.length];simp
  wp_walk using KU hl,KU hb,wpAny_forIn_list _ (fun rest b s'=>b.1=none/\s'=⟨hp,g,d,tk,os⟩/\∃(vs ws:List Value) (ns' ms':List Int),rest=vs.zip ws ∧
   IntsAre vs ns'/\IntsAre ws ms'/\ns'.length+items2.size=ms'.length+items.size/\R (.ok (.ret (.bool (Um ns' ms')))) ⟨hp,g,d,tk,os⟩) _
  case turn =>
   rintro⟨y,x⟩ rest b s' ⟨hb',rfl,vs,ws,ns',ms',hz,hvi,hwi,hlen,hR⟩
   cases hvi with
   | nil=>rw[List.zip_nil_left] at hz;cases hz
   | cons a t hvi' =>
    cases hwi with
    | nil=>rw[List.zip_nil_right] at hz;cases hz
    | cons c u hwi' =>
     rw[Me] at hz
     injection hz with hyx hrest
     injection hyx with hy hx
     subst hy hx;rw[V8] at hR;simp only[Qu] at hlen;obtain⟨e,he,hiff⟩:=HT.Jht A.in1 ⟨hp,g,d,tk,os⟩ a t c u;refine Qa (he prog w _ _ ?_)
     cases e with
     | true=>rw[if_pos (hiff.mp rfl)] at hR;wp_walk;exact⟨rfl,rfl,_,_,_,_,hrest,hvi',hwi',by omega,hR⟩
     | false=>rw[if_neg (fun q=>absurd (hiff.mpr q) Qp)] at hR;have hri:=JiC A.in1 ⟨hp,g,d,tk,os⟩ a t c u prog w;wp_walk using hri;exact⟨_,rfl,by simpa using hR⟩
  case fin =>
   rintro⟨b1,b2⟩ s' ⟨hb',rfl,vs,ws,ns',ms',hz,hvi,hwi,hlen,hR⟩;simp only at hb';subst hb'
   have hv:Um ns' ms'=decide (items.size<=items2.size):=by
    cases hvi with
    | nil=>simp only[GB] at hlen;rw[show Um [] ms'=true from rfl];exact(decide_eq_true (by omega)).symm
    | cons a t hv =>
     cases hwi with
     | nil=>simp only[GB,Qu] at hlen;rw[show Um (_::_) []=false from rfl];exact(decide_eq_false (by omega)).symm
     | cons c u hw=>rw[Me] at hz;cases hz
   rw[hv] at hR;wp_walk;exact⟨_,rfl,by simpa [Builtin.Tuple.tupleCompareSizes] using hR⟩
  case h=>exact⟨rfl,rfl,items.toList,items2.toList,ns,ms,rfl,hi,hj,by omega,h⟩
end
section
variable{prog:Program}{w:World}{A:Around}{E:Value->Shared->Prop}{s:Shared}
theorem JdX{l b:Addr}{items items2:Array Value}{ns ms:List Int}{Q:Value->Shared->Prop}(hl:s.heap.IsTuple l items)(hb:s.heap.IsTuple b items2)(hi:IntsAre items.toList ns)(hj:IntsAre items2.toList ms)
 (hu:A.units<cLine) (h:Q (.bool (Um ns ms)) s):wpAny (model prog w) A (compareOp .LtE (.ref l) (.ref b)) Q E s:=by
 obtain⟨⟨cls,dd,data,sl⟩,ho,hc,n,hd⟩:=id hl;obtain⟨⟨cls2,dd2,data2,sl2⟩,ho2,hc2,n2,hd2⟩:=id hb;simp only at hc hd hc2 hd2;subst hc hd hc2 hd2;exact richCompare_meets_room (op:=.LtE) ⟨_,ho,rfl⟩ ⟨_,ho2,rfl⟩ PySem.F.slot_tuple_le PySem.F.entry_tuple_le (PySem.F.args_tuple_le_2 _ _) (JaI l b items items2 n n2 dd dd2 sl sl2 ns ms hi hj)
  ⟨ho,ho2,show Value.bool (Um ns ms)≠Value.notImplemented/\Q (.bool (Um ns ms)) s from⟨(fun x=>nomatch x),h⟩⟩ hu
end
noncomputable def JpL(K:Frag):R2:=fun x y H Q=>∃a b ns ms,x=.ref a/\y=.ref b/\SqT K H a (ns.map V.int)/\SqT K H b (ms.map V.int)/\Q (.bl (Um ns ms)) H
theorem Jny{X:Cx}{K:Frag}(hK:X.K=K)(hu:X.A.units<cLine):OpR X (compareOp .LtE) (JpL K):=by subst hK;intro pins s σ H x y v u Q I rx ry h;obtain⟨a,b,ns,ms,rfl,rfl,ha,hb,q⟩:=h;cases rx;cases ry;obtain⟨its,r1,p1,_⟩:=I.tuple ha;obtain⟨its2,r2,p2,_⟩:=I.tuple hb;have i1:IntsAre its.toArray.toList ns:=Y8 r1;have i2:IntsAre its2.toArray.toList ms:=Y8 r2;exact JdX p1 p2 i1 i2 hu ⟨.bl (Um ns ms),H,I,rfl,q⟩
end L2
namespace LE
open PySem L2 LR
noncomputable def Jhw:Sl->Sl->Option Sl
 | .sh (.tup ds),.sh (.tup es)=>(ints? ds).bind fun ns=>(ints? es).map fun ms=>.sh (.bl (Um ns ms))
 | _,_=>none
section
variable{K:Frag}{C:Addr}
theorem RDL.ints'{H:Hp}:∀{xs:List V} {ns:List Int},RDL K C H xs (ns.map .int)->xs=ns.map V.int
 | [],[],_=>rfl
 | [],_::_,r=>by have:=r.1;simp at this
 | _::_,[],r=>by have:=r.1;simp at this
 | x::xs,n::ns,r=>by have h1:RD K C H x (.int n):=r.head;rw[RD.intI h1,RDL.ints' (ns:=ns) r.tail];rfl
theorem Jpz:OpS K C (JpL K) Jhw:=by
 intro Hs H0 H x y a b c Q i hs ra rb e q;unfold Jhw at e;split at e
 ·obtain⟨ns,e1,e⟩:=bind_some e;obtain⟨ms,e2,e⟩:=Gb.mp e;subst e;have h1:=Y9 e1;have h2:=Y9 e2;subst h1 h2;obtain⟨p,xs,rfl,s1,r1⟩:=RD.tupI ra;obtain⟨p',ys,rfl,s2,r2⟩:=RD.tupI rb;have z1:=RDL.ints' r1;have z2:=RDL.ints' r2;subst z1 z2;exact⟨p,p',ns,ms,rfl,rfl,i.seqT s1,i.seqT s2,q _ _ _ (.refl i) (.bl _)⟩
 ·cases e
theorem Jj3(a b c d:Int):Jhw (.sh (.tup [.int a,.int b])) (.sh (.tup [.int c,.int d]))=some (.sh (.bl (if a=c then decide (b<=d) else decide (a<=c)))):=by
 show some (Sl.sh (.bl (Um [a,b] [c,d])))=_;rw[V8];split
 ·rw[V8];split
  ·next h=>rw[h];simp[Um]
  ·rfl
 ·rfl
end
end LE

namespace L2
open PySem PySem.Spec PyProof.Rows
section
open PySem.SeqAt
open PySem.AutoSeq1 (wpAny_loadPart')
open PySem.MeetsSeq PySem.MeetsSeq2 PySem.MeetsSeq3
end
section
variable{prog:Program}{w:World}{A:Around}{E:Value->Shared->Prop}{s:Shared}
end
end L2
namespace LE
open PySem L2 LR
section
variable{K:Frag}{C:Addr}
end
end LE

namespace L2
open PySem PySem.Spec PyProof.Rows
noncomputable def JoN(i j:Int):Prop:=i.natAbs<=10 ^ 200/\j.natAbs<=10 ^ 200
theorem Jex{i:Int}(h:i.natAbs<=10 ^ 200):Rm i<=2 ^ 20:=by
 unfold Rm;split
 ·exact Gn _
 ·next hz =>
  have h0:i.natAbs≠0:=fun z=>hz (by simp;omega)
  have h1:i.natAbs.log2<1000:=by rw[Nat.log2_lt h0];exact GO h (by decide +kernel)
  have:(1000:Nat)<=2 ^ 20:=by decide +kernel
  omega
end L2
namespace LE
open PySem L2 LR
noncomputable def Y5(a:Int):Bool:=Rx a.natAbs (10 ^ 200)
section
variable{K:Frag}{C:Addr}
end
end LE

namespace LE
open PySem L2 LR
section
variable{K:Frag}{C:Addr}{W:XK}{t:TA}{ev:En->Option (List Sl)}{ts us:TS}{x:Xv}{H:Hp}
end
end LE

namespace PySem
open PySem.Calls PyProof.Rows PyProof.V PySem.Spec
section
variable{prog:Program}{w:World}{A:Around}{E:Value->Shared->Prop}{s:Shared}{r a:Addr}{xs:Array Value}{n:Nat}
end
end PySem
namespace L2
open PySem PySem.Spec PyProof.Rows
theorem Vals.rev{xs:List V}{us:List Value}(h:Vals xs us):Vals xs.reverse us.reverse:=by
 induction h with
 | nil=>exact .nil
 | cons r t ih=>rw[GZ,GZ];exact ih.append (.cons r .nil)
end L2
namespace LE
open PySem L2 LR
section
variable{K:Frag}{C:Addr}
end
end LE

namespace L2
open PySem PySem.Spec PyProof.Rows PySem.Calls
section
variable{X:Cx}
end
end L2
namespace L2
open PySem PySem.Spec PyProof.Rows PySem.Calls
section
variable{X:Cx}{es:List Expr}{t:TA}{x:Str}{j:Nat}{p:Pos}
structure PSi (X:Cx) (st:Stmt) (ts:TS):Prop where
 out:PS X st ts
structure PSsi (X:Cx) (ss:List Stmt) (ts:TS):Prop where
 out:PSs X ss ts
end
end L2

namespace LE
open PySem L2 LR
noncomputable def JoV(ys:List Str)(r:En->Option (List Sl)):En->Option (List Sl):=fun E=>(r E).map fun ss=>ys.map (fun y=>.sh (.str y))++ss
section
variable{K:Frag}{C:Addr}{te:TE}{ea:Ev}{tl th:TO}{el eh:Option Ev}{m:Bool}
end
end LE

namespace L2
open PySem PySem.Spec PyProof.Rows PySem.Calls
noncomputable def Jfx:V->List V->Hp->VK->Prop:=fun x vs H Q=>∃(l:Addr) (ns:List Int) (b:Int),x=.ref l/\vs=[.int b]/\H l=some (.lst (ns.map V.int))/\Q (.int (ns.count b:Nat)) H
theorem W7(b:Int):∀{vs:List Value} {ns:List Int},IntsAre vs ns->vs.countP (isInt b)=ns.count b
 | _,_,.nil=>rfl
 | _,_,.cons n t h=>by rw[List.countP_cons,W7 b h,Ll];rfl
section
variable{X:Cx}
theorem Jgx:MtR X "list.count" Jfx:=by
 intro pins s σ H x vs v us Q I rx rv h;obtain⟨l,ns,b,rfl,rfl,hH,q⟩:=h;cases rx;obtain⟨u,rfl,hu⟩:=rv.one;obtain⟨t,rfl⟩:=hu;obtain⟨z,its,n,r,hl,e⟩:=I.lstM hH;have ia:=Y8 r;refine call_meets F.slot_list_count ⟨_,e,rfl⟩ F.entry_list_count (F.args_list_count_2 _ _) (Rl l its.toArray n (.int b t) (isInt b) (fun y hy=>eq_isInt b t ia y (by simpa using hy))) ⟨e,?_⟩;refine⟨.int (ns.count b:Nat),H,I.tok _,⟨s.toks,?_⟩,q⟩;show Value.int ((its.countP (isInt b):Nat):Int) s.toks=_
 rw[W7 b ia]
end
end L2
namespace LE
open PySem L2 LR
noncomputable def eMI(f:List Int->Int->Option Int)(o a:Ev):Ev:=fun E=>(o E).bind fun s=>(lst? s).bind fun ds=>(ints? ds).bind fun ns=>(a E).bind fun y=>(int? y).bind fun b=>(f ns b).map fun i=>.sh (.int i)
noncomputable def JaW(ns:List Int)(b:Int):Option Int:=some (ns.count b:Nat)
section
variable{K:Frag}{C:Addr}{to te:TE}{eo ea:Ev}{Hs H0 H:Hp}{v:V}
theorem JqE{rm:V->List V->Hp->VK->Prop}{f:List Int->Int->Option Int}(hm:∀(l:Addr) (ns:List Int) (b:Int) (i:Int) (H:Hp) (Q:VK),H l=some (.lst (ns.map V.int))->f ns b=some i->Q (.int i) H->rm (.ref l) [.int b] H Q)
 (ho:SE K C to eo) (ha:SE K C te ea):SE K C (tBM K "list" rm to (YE te UV)) (eMI f eo ea):=by
 intro B H0 H σ E r Q I e q;obtain⟨s,e1,e⟩:=bind_some e;obtain⟨ds,e2,e⟩:=bind_some e;obtain⟨ns,e3,e⟩:=bind_some e;obtain⟨y,e4,e⟩:=bind_some e;obtain⟨b,e5,e⟩:=bind_some e;obtain⟨i,e6,rfl⟩:=map_some e;refine ho B H0 H σ E s _ I e1 fun x H1 H1' s1 r1=>?_
 obtain⟨l,xs,rfl,hl,rl⟩:=r1.lst s1.i e2;refine⟨.inl ⟨rfl,_,.of hl⟩,?_⟩;refine ha B H1 H1' σ E y _ (I.step s1) e4 fun u H2 H2' s2 r2=>?_
 rw[U1 e5] at r2;cases RD.intI r2;rw[Y9 e3] at rl;have hx:=RDL.ints rl;subst hx;exact hm l ns b i H2' Q (s2.h _ _ hl) e6 (q _ _ _ (s1.trans s2) (RD.int i))
theorem Jc8(ho:SE K C to eo)(ha:SE K C te ea):SE K C (tBM K "list" Jfx to (YE te UV)) (eMI JaW eo ea) :=
 JqE (fun l ns b i H Q h e q=>by cases e;exact⟨l,ns,b,rfl,rfl,h,q⟩) ho ha
end
end LE

namespace L2
open PySem PySem.Spec PyProof.Rows PySem.Calls
section
variable{X:Cx}
end
end L2
namespace LE
open PySem L2 LR
section
variable{K:Frag}{C:Addr}
end
end LE

namespace PySem
open AutoSeq1 (wpAny_loadPart')
section
variable{prog:Program}{w:World}{A:Around}{E:Value->Shared->Prop}{s:Shared}
end
section
variable{prog:Program}{w:World}{A:Around}{E:Value->Shared->Prop}{s:Shared}
end
section
variable{prog:Program}{w:World}{A:Around}{E:Value->Shared->Prop}{s:Shared}{b:Bool}{a e it:Addr}{xs:Array Value}
end
end PySem
namespace L2
open PySem PySem.Spec PyProof.Rows
end L2
namespace LE
open PySem L2 LR
section
variable{K:Frag}{C:Addr}{m:Bool}
end
end LE

namespace L2
open PySem PySem.Spec PyProof.Rows PySem.Calls
section
variable{X:Cx}{K:Frag}{e:Expr}{te:TE}{p2 pos:Pos}
end
end L2
namespace LE
open PySem L2 LR
section
variable{K:Frag}{C:Addr}{te:TE}{ea:Ev}
end
end LE

namespace LE
open PySem L2 LR
section
variable{K:Frag}{C:Addr}
end
end LE

namespace L2
open PySem PySem.Spec PyProof.Rows
structure Blk1 (X:Cx) (sc:Scope) (cl:List (Str×Addr)) (y:Str) (N':List Str) (imp:List (Option Nat)):Prop where
 clos:closureFor sc X.env=pure cl
 kind:sc.kind=.function
 cf:∀n,cellsFrom n sc.names cl=(y,n)::cl
 cf0:∀n,cellsFrom n sc.names []=[(y,n)]
 names:∀y∈sc.names,y.2=.local->sc.names.lookup y.1=some .local
 sub:∀p∈cl,X.env.cells.lookup p.1=some p.2
 has:∀z∈(relabel sc X.env).names,(z.2=.cell\/z.2=.free)->z.1=y\/(cl.lookup z.1).isSome=true
 len:imp.length=N'.length
 im:∀p∈imp.zip N',∀k,p.1=some k->p.2≠y/\X.N[k]?=some p.2/\(X.env.scope.names.lookup p.2=some .cell\/X.env.scope.names.lookup p.2=some .free)/\((relabel sc X.env).names.lookup p.2=some .cell\/(relabel sc X.env).names.lookup p.2=some .free)
section
variable{X:Cx}{tg iter elt:Expr}{ifs:List Expr}{sc:Scope}{cl:List (Str×Addr)}{y:Str}{N':List Str}{imp:List (Option Nat)}{pos:Pos}{wi:TI}{g:TG}{tt:TT}{te:TE}
theorem Blk1.subL(B:Blk1 X sc cl y N' imp):∀x c,cl.lookup x=some c->X.env.cells.lookup x=some c:=fun x c e=>B.sub (x,c) (Vg e)
end
end L2

namespace L2
open PySem PySem.W PyProof.Rows
structure Pm (p:Array Nat) (N:Nat):Prop where
 size:p.size=N
 low:∀a,a<N->p.getD a 0<N
 inj:∀a b,a<N->b<N->p.getD a 0=p.getD b 0->a=b
theorem Jnl{l:List Nat}(nd:l.Nodup){a b:Nat}(h1:a<l.length)(h2:b<l.length)(e:l[a]=l[b]):a=b:=by
 rcases Lz a b with c|c|c
 ·exact absurd e (GR.mp nd a b h1 h2 c)
 ·exact c
 ·exact absurd e.symm (GR.mp nd b a h2 h1 c)
theorem Pm.of{p:Array Nat}{N:Nat}(h:p.toList.Perm (GU N)):Pm p N:=by
 have hz:p.size=N:=by have:=h.length_eq;simpa using this
 have get:∀a,a<N->p.toList[a]?=some (p.getD a 0):=fun a ha=>by rw[GJ,GS (by omega)];simp[Rs,show a<p.size by omega]
 refine⟨hz,fun a ha=>?_,fun a b ha hb e=>?_⟩
 ·have:=h.mem_iff.mp (QI (get a ha))
  simpa using this
 ·have nd:p.toList.Nodup:=h.nodup_iff.mpr List.nodup_range
  have ga:=get a ha
  have gb:=get b hb;rw[e] at ga;obtain⟨h1,e1⟩:=Qg.mp ga;obtain⟨h2,e2⟩:=Qg.mp gb;exact Jnl nd h1 h2 (e1.trans e2.symm)
section
variable{N:Nat}{lt:Nat->Nat->Bool}{cmp:Nat->Nat->(Bool->Shared->Prop)->Shared->Prop}{I:Shared->Prop}
end
end L2

namespace L2
open PySem PySem.W PyProof.Rows
section
variable{prog:Program}{w:World}{A:Around}{E:Value->Shared->Prop}{s:Shared}
end
end L2

namespace L2
open PySem PySem.W PyProof.Rows
noncomputable abbrev PrI:=Int×Int
noncomputable def TupP(h:Heap)(v:Value)(p:PrI):Prop:=∃a o n t u,v=.ref a/\h.get? a=some o/\o.cls=.type "tuple"/\o.data=.seq #[.int p.1 t,.int p.2 u] n
section
variable{prog:Program}{w:World}{A:Around}{E:Value->Shared->Prop}{s:Shared}
theorem TupP.off{h h1:Heap}{a:Addr}{vs:Array Value}{n:Nat}{v:Value}{p:PrI}(ho:h.get? a=some (seqObj "list" vs n))(keep:∀b ob,b≠a->h.get? b=some ob->h1.get? b=some ob)(t:TupP h v p):TupP h1 v p:=by obtain⟨b,o,m,t,u,rfl,hb,hc,hd⟩:=t;refine⟨b,o,m,t,u,rfl,keep b o (fun e=>?_) hb,hc,hd⟩;subst e;rw[ho] at hb;cases hb;have z:(Value.type "list":Value)=.type "tuple":=hc;exact absurd z (by decide)
end
end L2

namespace L2
open PySem PySem.Spec PySem.W PyProof.Rows
section
variable{prog:Program}{w:World}{A:Around}{E:Value->Shared->Prop}{s:Shared}
end
section
variable{X:Cx}
end
end L2

namespace L2
open PySem PySem.Spec PySem.W PyProof.Rows
noncomputable def RawD(h:Heap)(d:Addr)(es:Array DictEntry)(ep:Nat):Prop:=∃o,h.get? d=some o/\o.ExactDict/\o.data=.dict es ep
section
variable{prog:Program}{w:World}{A:Around}{E:Value->Shared->Prop}{s:Shared}{it d v:Addr}{i ep:Nat}{es:Array DictEntry}
theorem RawD.at{h h':Heap}(x:RawD h d es ep)(e:∀o,h.get? d=some o->h'.get? d=some o):RawD h' d es ep:=let ⟨o,ho,r⟩:=x;⟨o,e _ ho,r⟩
theorem RawD.lt{h:Heap}(x:RawD h d es ep):d<h.objs.size:=let ⟨_,ho,_⟩:=x;Qj ho
end
end L2

namespace L2
open PySem PySem.Spec PySem.W PyProof.Rows
noncomputable abbrev pk(p:PrI):List Key:=LE.dtK p
theorem KT.get{H:Hp}:∀{kvs:List (List Key×V)} {xs:List (List Key×Addr×Value)},KT H kvs xs->kvs.length=xs.length/\∀(i:Nat) (k:List Key×V) (x:List Key×Addr×Value),kvs[i]?=some k->xs[i]?=some x->k.1=x.1/\H x.2.1=some (.tup (k.1.map kV))
 | _,_,.nil=>⟨rfl,fun i k x e=>by simp at e⟩
 | _,_,.cons h t=>by
  obtain⟨h1,h2⟩:=KT.get t;refine⟨by simp[h1],fun i k x e1 e2=>?_⟩
  cases i with
  | zero=>simp at e1 e2;subst e1 e2;exact⟨h.1,h.2.1⟩
  | succ i=>exact h2 i k x (by simpa using e1) (by simpa using e2)
end L2

namespace L2
open PySem PySem.Spec PySem.W PyProof.Rows
end L2
namespace LE
open PySem L2 LR
section
variable{K:Frag}{C:Addr}{Hs H0 H:Hp}
end
noncomputable def Sl.dt:Sl->Option (List (Int×Int)×List D)
 | .bt ks ds=>some (ks,ds)
 | .ot ks ds=>some (ks,ds)
 | _=>none
noncomputable def pr?:Sl->Option (Int×Int)
 | .sh (.tup [.int a,.int b])=>some (a,b)
 | _=>none
section
variable{K:Frag}{C:Addr}{Hs H0 H:Hp}{td ty te tk1 tk2:TE}{ed ek ea k1 k2:Ev}
theorem RR.dt{v:V}{s:Sl}{p:List (Int×Int)×List D}(r:RR K C Hs H0 H v s)(e:s.dt=some p):∃l xs,v=.ref l/\H l=some (dtO p.1 xs)/\p.1.length=p.2.length/\RDL K C H0 xs p.2:=by
 cases s with
 | bt ks ds=>cases e;exact r
 | ot ks ds=>cases e;obtain⟨l,xs,h1,h2,_,_,h3⟩:=r;exact⟨l,xs,h1,h2,h3⟩
 | _=>cases e
noncomputable def Jpe:List Sl->Option (Int×Int)
 | [.sh (.int a),.sh (.int b)]=>some (a,b)
 | _=>none
end
end LE

namespace LE
open PySem L2 LR
section
variable{K:Frag}{C:Addr}
theorem RDL.eraseIdx{H:Hp}:∀{xs:List V} {ds:List D} (k:Nat),RDL K C H xs ds->RDL K C H (xs.eraseIdx k) (ds.eraseIdx k)
 | [],[],_,h=>by simpa using h
 | [],_::_,_,h=>by have:=h.1;simp at this
 | _::_,[],_,h=>by have:=h.1;simp at this
 | x::xs,d::ds,0,h=>by simpa using h.tail
 | x::xs,d::ds,k+1,h=>by rw[MK,MK];exact .cons h.head (RDL.eraseIdx k h.tail)
end
end LE

namespace LE
open PySem L2 LR
section
variable{X:Cx}
end
section
variable{K:Frag}{C:Addr}
end
end LE

namespace L2
open PySem
noncomputable def Ris(xs:Array Nat):Prop:=xs.toList.Pairwise (·<·)
theorem Ris.lt{xs:Array Nat}(r:Ris xs){i j:Nat}(h:i<j)(hj:j<xs.size):xs[i]'(by omega)<xs[j]:=by
 have:=GR.mp r i j (by simp;omega) (by simpa using hj) h
 simpa using this
theorem Jdw{xs:Array Nat}(r:Ris xs)(j:Nat):∀(fuel lo hi:Nat),hi-lo<=fuel->lo<=hi->hi<=xs.size->(∀i,(h:i<xs.size)->i<lo->xs[i]<j)->(∀i,(h:i<xs.size)->hi<=i->j<=xs[i]) ->
 ∃p,RA xs j fuel lo hi=p/\p<=xs.size/\(∀i,(h:i<xs.size)->i<p->xs[i]<j)/\∀i,(h:i<xs.size)->p<=i->j<=xs[i]
 | 0,lo,hi,hf,h1,h2,ha,hb=>⟨lo,rfl,by omega,ha,fun i hi' hp=>hb i hi' (by omega)⟩
 | fuel+1,lo,hi,hf,h1,h2,ha,hb=>by
  unfold RA
  by_cases c:lo<hi
  ·rw[if_pos c];have hm:(lo+hi) / 2<xs.size:=by omega
   have e:xs.getD ((lo+hi) / 2) j=xs[(lo+hi) / 2]:=by simp[Rs,hm]
   dsimp only;rw[e]
   by_cases d:xs[(lo+hi) / 2]<j
   ·rw[if_pos d];refine Jdw r j fuel _ _ (by omega) (by omega) h2 (fun i h hi'=>?_) hb;rcases MW i ((lo+hi) / 2) with q|q
    ·exact Gv (r.lt q hm) d
    ·have:i=(lo+hi) / 2:=by omega
     subst this;exact d
   ·rw[if_neg d];refine Jdw r j fuel _ _ (by omega) (by omega) (by omega) ha (fun i h hi'=>?_);rcases MW ((lo+hi) / 2) i with q|q
    ·exact QR (LL.mp d) (GM (r.lt q h))
    ·have:i=(lo+hi) / 2:=by omega
     subst this;exact LL.mp d
  ·rw[if_neg c];exact⟨lo,rfl,by omega,ha,fun i hi' hp=>hb i hi' (by omega)⟩
theorem bel{xs:Array Nat}(r:Ris xs)(j:Nat):QW xs j<=xs.size/\(∀i,(h:i<xs.size)->i<QW xs j->xs[i]<j)/\∀i,(h:i<xs.size)->QW xs j<=i->j<=xs[i]:=by obtain⟨p,e,h1,h2,h3⟩:=Jdw r j xs.size 0 xs.size (by omega) (by omega) (Qn _) (fun i _ h=>by omega) (fun i h h'=>by omega);have e':QW xs j=p:=e;rw[e'];exact⟨h1,h2,h3⟩
theorem Jg3{xs:Array Nat}(r:Ris xs){i:Nat}(hi:i<xs.size):QW xs (xs[i]+1)=i+1:=by
 obtain⟨h1,h2,h3⟩:=bel r (xs[i]+1);rcases Lz (QW xs (xs[i]+1)) (i+1) with c|c|c
 ·have:=h3 i hi (by omega);omega
 ·exact c
 ·have l:i+1<xs.size:=by omega
  have:=h2 (i+1) l c
  have:=r.lt (i:=i) (j:=i+1) (Gi i) l;omega
theorem Jg4{xs:Array Nat}(r:Ris xs):QW xs 0=0:=by
 obtain⟨h1,h2,h3⟩:=bel r 0;rcases Nat.eq_zero_or_pos (QW xs 0) with c|c
 ·exact c
 ·have:=h2 0 (by omega) c;omega
theorem Jlg{xs:Array Nat}(r:Ris xs){j:Nat}(no:xs[QW xs j]?≠some j):Ris (SetTable.insertAt xs (QW xs j) j):=by
 obtain⟨h1,h2,h3⟩:=bel r j;unfold Ris;rw[SetTable.toList_insertAt];have r':=r;unfold Ris at r';rw[<- List.take_append_drop (QW xs j) xs.toList] at r';obtain⟨ra,rb,rc⟩:=Ku.mp r'
 have low:∀x∈xs.toList.take (QW xs j),x<j:=fun x hx=>by obtain⟨i,hi,e⟩:=GY.mp hx;rw[KD,QF] at hi;rw[List.getElem_take,Rg] at e;rw[<- e];exact h2 i (by omega) (by omega)
 have high:∀x∈xs.toList.drop (QW xs j),j<x:=fun x hx=>by
  obtain⟨i,hi,e⟩:=GY.mp hx;rw[LI,QF] at hi;rw[List.getElem_drop,Rg] at e;have g:=h3 (QW xs j+i) (by omega) (by omega);rw[e] at g;rcases MW j x with q|q
  ·exact q
  ·exfalso
   have ex:x=j:=by omega
   apply no
   have b0:QW xs j<xs.size:=by omega
   rw[GS b0];have g0:=h3 (QW xs j) b0 (Qn _);rcases Nat.eq_zero_or_pos i with z|z
   ·subst z;simp only[Nat.add_zero] at e;rw[e,ex]
   ·have:=r.lt (i:=QW xs j) (j:=QW xs j+i) (by omega) (by omega);rw[e] at this;omega
 refine Ku.mpr ⟨ra,QL.mpr ⟨high,rb⟩,fun a ha b hb=>?_⟩;rcases Qh.mp hb with e|e
 ·rw[e];exact low a ha
 ·exact rc a ha b e
noncomputable def Vac(t:SetTable)(j:Nat):Prop:=t.place[QW t.place j]?≠some j
theorem Jdl{t:SetTable}{j:Nat}(h:∀i,t.slot j≠.live i):Vac t j:=by intro e;refine h (QW t.place j) ?_;unfold SetTable.slot;dsimp only;rw[e];simp
theorem JaL(t:SetTable)(p:SetTable.Probe):(t.advance p).dummy=p.dummy:=by unfold SetTable.advance;split <;> rfl
theorem W1{t:SetTable}{hashAt:Nat->Int}{h:Int}:∀(fuel:Nat) (p:SetTable.Probe) {j:Nat} {d:Option Nat},(∀x,p.dummy=some x->Vac t x)->Ms t hashAt h fuel p=some (.empty j d)->Vac t j/\∀x,d=some x->Vac t x
 | 0,p,j,d,hp,e=>by simp[Ms] at e
 | fuel+1,p,j,d,hp,e=>by
  unfold Ms at e;split at e
  ·rename_i c
   injection e with e
   injection e with e1 e2
   subst e1 e2;exact⟨Jdl fun i q=>(by rw[c] at q;cases q),hp⟩
  ·rename_i c;refine W1 fuel _ (fun x hx=>?_) e;rw[JaL] at hx
   injection hx with hx
   subst hx;exact Jdl fun i q=>by rw[c] at q;cases q
  ·split at e
   ·injection e with e;cases e
   ·exact W1 fuel _ (fun x hx=>hp x (by rwa [JaL] at hx)) e
theorem JhE{t:SetTable}{h:Int}{j:Nat}{b:Bool}(e:t.freeSlot h=some (j,b)):Vac t j:=by
 unfold SetTable.freeSlot at e;split at e
 ·rename_i j' d c
  injection e with e
  injection e with e1 _
  unfold SetTable.probe at c;obtain⟨a1,a2⟩:=W1 _ _ (fun x hx=>by simp[SetTable.probeStart] at hx) c
  cases d with
  | none=>simp at e1;subst e1;exact a1
  | some x=>simp at e1;subst e1;exact a2 _ rfl
 ·cases e
noncomputable def TOk(led:Bool)(t:SetTable):Prop:=(t.plain=true->Ris t.place)/\t.led=led
theorem VX(led:Bool)(t:SetTable)(n:Nat)(h:t.led=led):TOk led (t.standIn n):=⟨fun e=>by simp[SetTable.standIn] at e,h⟩
theorem Ji8{led:Bool}{t:SetTable}(h:TOk led t):TOk led { t with plain:=false }:=⟨fun e=>by simp at e,h.2⟩
theorem JlF{led:Bool}{t:SetTable}(h:TOk led t)(es:Array (Int×Value))(k:Int)(x:Value):TOk led (layNew t es k x).2.1:=by
 unfold layNew;split
 ·rename_i j b c;dsimp only;unfold SetTable.orStandIn;split
  ·exact⟨fun e=>Jlg (h.1 (by simpa [RB] using e)) (JhE c),by simpa [RB] using h.2⟩
  ·exact VX _ _ _ (by simpa [RB] using h.2)
 ·exact VX _ _ _ h.2
theorem ZX(g:Nat->Option Nat):∀l:List Nat,((l.filterMap fun j=>(g j).map (j,·)).map (·.1)).Sublist l
 | []=>.slnil
 | j::l=>by
  rw[G6]
  cases h:g j with
  | none=>exact(ZX g l).cons _
  | some k=>exact(ZX g l).cons₂ _
theorem Ji9{t:SetTable}{mask f m:Nat}{led plain:Bool}{hs:Array Int}{o:Array Nat}(e:Rn mask f m led plain hs=some (t,o)):TOk led t:=by
 unfold Rn at e
 cases c:SetTable.layClean mask hs with
 | none=>rw[c] at e;cases e
 | some ow =>
  rw[c] at e;have e':some _=some (t,o):=e
  injection e' with e'
  injection e' with e1 e2
  subst e1;refine⟨fun _=>?_,rfl⟩;show List.Pairwise _ _;refine List.Pairwise.sublist (ZX _ _) ?_;exact List.pairwise_lt_range
theorem JgQ{led:Bool}{t:SetTable}(h:TOk led t)(es:Array (Int×Value))(n:Nat):TOk led (relayAll t es n).2.1:=by
 unfold relayAll;split
 ·rename_i t' o c;dsimp only;split
  ·have:=Ji9 (show Rn _ _ _ _ _ _=some (t',o) from c);rw[h.2] at this;exact this
  ·exact VX _ _ _ h.2
 ·exact VX _ _ _ h.2
theorem JgP(a b:Nat)(led:Bool):TOk led (.fresh a b led):=⟨fun _=>List.Pairwise.nil,rfl⟩
theorem ZH{α:Type}:∀{l:List α} {i:Nat} (h:i<l.length),(l[i]::l.eraseIdx i).Perm l
 | x::l,0,_=>.refl _
 | x::l,i+1,h=>by have:=ZH (l:=l) (i:=i) (by simpa using h);exact(List.Perm.swap x (l[i]'(by simpa using h)) _).trans (this.cons x)
theorem Jfr{α:Type}(next:Nat->Nat):∀(fuel k:Nat) (left:List α) (out:Array α),left.length=fuel->(RC next fuel k left out).toList.Perm (out.toList++left)
 | 0,k,left,out,h=>by have:left=[]:=QZ h;subst this;simp[RC]
 | fuel+1,k,left,out,h=>by
  unfold RC;have hl:next k % left.length<left.length:=Nat.mod_lt _ (by omega)
  rw[Q6 hl];dsimp only;refine(Jfr next fuel (k+1) _ _ (by rw[Mf hl];omega)).trans ?_;rw[Mq,G2];refine List.Perm.append_left _ ?_;exact(ZH hl)
theorem Jba{α:Type}(next:Nat->Nat)(xs:Array α):(pickOrder next xs).toList.Perm xs.toList:=by
 have:=Jfr next xs.size 0 xs.toList #[] (by simp)
 simpa [pickOrder] using this
theorem JaV{prog:Program}{w:World}{A:Around}{E:Value->Shared->Prop}{α:Type}:∀(n:Nat) (xs:List α) (s:Shared) (Q:List α->Shared->Prop),xs.length=n->(∀ys d,ys.Perm xs->Q ys { s with drawn:=d })->wpAny (model prog w) A (drawOrder n xs) Q E s
 | 0,xs,s,Q,hl,h=>by have:xs=[]:=QZ hl;subst this;exact Qd (h [] s.drawn (.refl _))
 | n+1,xs,s,Q,hl,h=>by
  cases xs with
  | nil=>simp at hl
  | cons x xs =>
   show wpAny _ A ((choose .order (x::xs).length) >>= _) Q E s;refine Qa ?_;intro Γ p hΓ;unfold choose;rw[Sem.wp_choose];refine⟨by simp,?_⟩;rw[Sem.wp_pure]
   generalize hi:(model prog w).w.draws Source.order (s.drawn.get Source.order) % (x::xs).length=i
   have hlt:i<(x::xs).length:=by rw[<- hi];exact Nat.mod_lt _ (by simp)
   rw[Q6 hlt];show wpAny _ A (drawOrder n ((x::xs).eraseIdx i) >>= _) Q E _;refine Qa (JaV n _ _ _ (by rw[Mf hlt];omega) fun ys d hp=>?_);refine Qd (h ((x::xs)[i]::ys) d ?_);exact(hp.cons _).trans (ZH hlt)
end L2

namespace L2
open PySem PyProof.Rows
structure SetS (prog:Program) (w:World) (led:Bool) (h:Heap) (a:Addr) (S:Int->Bool) (n:Nat) (o:Obj) (es:Array (Int×Value)) (ep:Nat) (t:SetTable):Prop where
 got:h.get? a=some o
 ex:o.ExactSet
 data:o.data=.set es ep t
 els:ElemsOf (intKind prog w) es.toList
 mem:∀k,S k=true↔∃e∈es.toList,(intKind prog w).is k e.2=true
 few:es.size<scanBound
 fits:t.fits es.size=true
 size:es.size=n
 tok:TOk led t
noncomputable def SetL(prog:Program)(w:World)(led:Bool)(h:Heap)(a:Addr)(S:Int->Bool)(n:Nat):Prop:=∃o es ep t,SetS prog w led h a S n o es ep t
section
variable{prog:Program}{w:World}{A:Around}{E:Value->Shared->Prop}{s:Shared}{led:Bool}{a:Addr}{S:Int->Bool}{n:Nat}
theorem SetL.move{h h':Heap}(x:SetL prog w led h a S n)(e:∀o,h.get? a=some o->h'.get? a=some o):SetL prog w led h' a S n :=
 let ⟨o,es,ep,t,z⟩:=x;⟨o,es,ep,t,{ z with got:=e _ z.got }⟩
theorem SetL.as{h:Heap}{S':Int->Bool}{n':Nat}(x:SetL prog w led h a S n)(e:∀k,S k=S' k)(en:n=n'):SetL prog w led h a S' n':=by have:S=S':=funext e;subst this en;exact x
theorem Jdf{h:Heap}{o:Obj}{es:Array (Int×Value)}{ep:Nat}{t:SetTable}(ho:h.get? a=some o)(hex:o.ExactSet)(hd:o.data=.set es ep t){es':Array (Int×Value)}{t':SetTable}{S':Int->Bool}
 (h1:ElemsOf (intKind prog w) es'.toList) (h2:∀k,S' k=true↔∃e∈es'.toList,(intKind prog w).is k e.2=true) (h3:es'.size<scanBound) (h4:t'.fits es'.size=true) (h5:TOk led t') :
 SetS prog w led (h.update a (Obj.putSet es' t')) a S' es'.size { o with data:=.set es' (ep+1) t' } es' (ep+1) t' :=
 ⟨(SetOf_store (knd:=intKind prog w) ho hex hd h1 h2 h3 h4).1,hex,rfl,h1,h2,h3,h4,rfl,h5⟩
theorem Jdi{g:Bool->Sem Unit}(hg:∀(b:Bool) (s1:Shared) (Q:Unit->Shared->Prop),Q () s1->wpAny (model prog w) A (g b) Q E s1)
 {o:Obj} {es:Array (Int×Value)} {ep:Nat} {t:SetTable} (ho:s.heap.get? a=some o) (hex:o.ExactSet) (hd:o.data=.set es ep t) {es1:Array (Int×Value)} {t2:SetTable} {S':Int->Bool}
 (h1:ElemsOf (intKind prog w) es1.toList) (h2:∀k,S' k=true↔∃e∈es1.toList,(intKind prog w).is k e.2=true) (h3:es1.size<scanBound) (h4:t2.fits es1.size=true) (h5:TOk led t2) {dm:Bool} {R:Option Bool->Shared->Prop}
 (h:∀h',Qt a s.heap h'->SetL prog w led h' a S' es1.size->R (some true) { s with heap:=h' }) :
 wpAny (model prog w) A (storeSet a es1 t2 >>= fun _=>if (!dm && t2.tooFull)=true then
  (g (relayAll t2 es1 (KJ es1.size)).2.2 >>= fun _=>storeSet a (relayAll t2 es1 (KJ es1.size)).1 (relayAll t2 es1 (KJ es1.size)).2.1 >>= fun _=>pure (some true))
  else pure (some true)) R E s:=by
 refine Qa (wpAny_storeSet_of ho hd ?_ (fits_of_scanBound h3));have z:=Jdf (prog:=prog) (w:=w) ho hex hd h1 h2 h3 h4 h5;have sb:=Ge s.heap a (Obj.putSet es1 t2);split
 ·have hp:=relayAll_perm t2 es1 (KJ es1.size)
  have hf:=relayAll_fits t2 es1 (KJ es1.size)
  have hk:=JgQ h5 es1 (KJ es1.size)
  generalize relayAll t2 es1 (KJ es1.size)=T at hp hf hk ⊢
  obtain⟨es2,t3,gv⟩:=T;dsimp only at hp hf hk ⊢;have sz:es2.size=es1.size:=by rw[<- QF,hp.length_eq,QF]
  refine Qa (hg _ _ _ ?_);refine Qa (wpAny_storeSet_of z.got rfl ?_ (fits_of_scanBound (by rw[sz];exact h3)));have z2:=Jdf (prog:=prog) (w:=w) (led:=led) (S':=S') (es':=es2) (t':=t3) z.got hex rfl (h1.perm hp) (fun k=>(h2 k).trans ⟨fun⟨e,he,q⟩=>⟨e,hp.mem_iff.mpr he,q⟩,fun⟨e,he,q⟩=>⟨e,hp.mem_iff.mp he,q⟩⟩) (by rw[sz];exact h3) hf hk;rw[sz] at z2;exact Qd (h _ (sb.trans (Ge _ a _)) ⟨_,_,_,_,z2⟩)
 ·exact Qd (h _ sb ⟨_,_,_,_,z⟩)
theorem Jlu{k:Int}{tk:Tok}{Q:Bool->Shared->Prop}(hS:SetL prog w led s.heap a S n)(room:n+1<scanBound)
 (h:∀h',Qt a s.heap h'->SetL prog w led h' a (fun k'=>S k' || decide (k'=k)) (if S k then n else n+1)->Q (!S k) { s with heap:=h' }) :
 wpAny (model prog w) A (setAddHashed a (.int k tk) ((intKind prog w).hash k)) Q E s:=by
 have key:(intKind prog w).is k (.int k tk)=true:=intKind_is _ _ _ _;obtain⟨o,es,ep,t,z⟩:=hS
 have few1:es.size+1<scanBound:=by rw[z.size];exact room
 unfold setAddHashed setAddHashedIn;refine Gj (Qa (GG z.got z.data z.fits ?_));dsimp only;rw[byScan_of (x:=.int k tk) rfl z.few z.els];simp only[↓reduceIte];unfold setAddByScan;refine Qa (Qa (G5 (Qa (wpAny_setScan_of key z.got z.data z.fits z.els ?_))))
 cases hr:List.findIdx? (fun e=>(intKind prog w).is k e.2) es.toList with
 | some j =>
  dsimp only;obtain⟨hj,hpj,_⟩:=List.findIdx?_eq_some_iff_getElem.mp hr;have yes:S k=true:=(z.mem k).mpr ⟨es.toList[j],MF hj,hpj⟩;refine Qd (Qd ?_)
  have:=h s.heap (Ry a s.heap) (SetL.as ⟨o,es,ep,t,z⟩ (fun k'=>by
   cases hk:S k' with
   | true=>rfl
   | false =>
    have:k'≠k:=fun e=>by rw[e,yes] at hk;cases hk
    simp[this]) (by rw[yes];rfl))
  rw[yes] at this;exact this
 | none =>
  dsimp only
  have no:S k=false:=by
   cases hk:S k with
   | false=>rfl
   | true=>obtain⟨e,he,hp⟩:=(z.mem k).mp hk;have:=List.findIdx?_eq_none_iff.mp hr e he;rw[hp] at this;cases this
  have hp:=layNew_perm t es ((intKind prog w).hash k) (.int k tk)
  have hf:=layNew_fits t es ((intKind prog w).hash k) (.int k tk)
  have ht:=JlF z.tok es ((intKind prog w).hash k) (.int k tk)
  generalize layNew t es ((intKind prog w).hash k) (.int k tk)=L at hp hf ht ⊢
  obtain⟨es1,t1,dm,gv⟩:=L;dsimp only at hp hf ht ⊢;rw[Mq] at hp;have e1:ElemsOf (intKind prog w) es1.toList:=(z.els.push key rfl).perm hp;have m1:=mem_push_iff key z.mem hp;have sz1:es1.size=n+1:=by rw[<- QF,hp.length_eq,Qy,QF,z.size];rfl
  have f1:es1.size<scanBound:=by rw[sz1];exact room
  have gw:∀(b:Bool) {s1:Shared} {Q':Unit->Shared->Prop},Q' () s1->wpAny (model prog w) A (match b with | true=>rule "set.scan.the-table-gave-way" | false=>pure ()) Q' E s1:=fun b s1 Q' hq=>by
   cases b
   ·exact Qd hq
   ·exact G5 hq
  refine Qa (gw _ ?_)
  have fin:∀h',Qt a s.heap h'->SetL prog w led h' a (fun k'=>S k' || decide (k'=k)) es1.size->Q true { s with heap:=h' }:=by intro h' sb hS';have:=h h' sb;rw[no] at this;rw[sz1] at hS';exact this hS'
  split
  ·refine Qa ?_;rw[hashByValue_scannable 8 (x:=.int k tk) rfl];refine Qd ?_;refine Jdi (led:=led) ?_ z.got z.ex z.data e1 m1 f1 ?_ ?_ ?_
   ·intro b s1 Q' hq;cases b <;> first|exact Qd hq|exact G5 hq
   ·split
    ·exact hf
    ·exact SetTable.fits_plain_off hf
   ·split
    ·exact ht
    ·exact Ji8 ht
   ·intro h' sb hS';dsimp only;exact Qd (fin h' sb hS')
  ·refine Qa (Qd ?_);simp only[↓reduceIte];refine Jdi (led:=led) ?_ z.got z.ex z.data e1 m1 f1 hf ht ?_
   ·intro b s1 Q' hq;cases b <;> first|exact Qd hq|exact G5 hq
   ·intro h' sb hS';dsimp only;exact Qd (fin h' sb hS')
end
section
variable{prog:Program}{w:World}{A:Around}{R:Result->Shared->Prop}{I:Addr}{fp wr:List Addr}{G:Array GenState->Array GenState->Prop}{n:Nat}{P:Nat->Value->Prop}{St:Nat->Shared->Prop}
theorem JiP{led:Bool}(W:WalksS prog w A.in1 I fp wr G n P St)(a:Addr)(hf:a∉fp)(val:Nat->Int)(hv:∀i v,P i v->∃t,v=.int (val i) t)(hb:n+1<scanBound) :
 ∀(k i:Nat) (s:Shared),n-i=k->i<=n->St i s->SetL prog w led s.heap a (fun k'=>(firstMet val i).any (· == k')) (firstMet val i).length ->
  (∀s',Moved (a::wr) G s s'->SetL prog w led s'.heap a (fun k'=>(firstMet val n).any (· == k')) (firstMet val n).length->R (.ok (.ret .none)) s') ->
  codeAny (model prog w) A (.builtin "set.update.loop" ⟨[.ref a,.ref I],[]⟩) R s:=by
 have hw:a∉wr:=fun h=>hf (W.sub _ h)
 have up:∀b∈wr,b∈a::wr:=fun b hb=>Qc _ hb
 intro k
 induction k with
 | zero =>
  intro i s hk hi st hS hR;obtain rfl:i=n:=by omega
  refine GN ML ?_;rw[Go Lq _];show wpAny _ A.in1 (pyNext (.ref I) >>= _) _ _ s;exact Qa (W.done s _ _ st fun s' hm=>Qd (hR s' (hm.mono up) (hS.move fun o e=>hm.heap a _ hw e)))
 | succ k ih =>
  intro i s hk hi st hS hR;have lt:i<n:=by omega
  refine GN ML ?_;rw[Go Lq _];show wpAny _ A.in1 (pyNext (.ref I) >>= _) _ _ s;refine Qa (W.item i s _ _ lt st fun v s' hP st' hm=>?_);obtain⟨t,rfl⟩:=hv i v hP;have hS':=hS.move (h':=s'.heap) fun o e=>hm.heap a _ hw e
  show wpAny _ A.in1 (holding [Value.int (val i) t] (setAdd a (.int (val i) t)) >>= _) _ _ s';refine Qa (Gj ?_);unfold setAdd;refine Gj (Qa ((intKind prog w).pyHash (k:=val i) (intKind_is _ _ _ _) ?_))
  have room:(firstMet val i).length+1<scanBound:=by have:=firstMet_length_le val i;omega
  refine Jlu (s:={ s' with toks:=s'.toks+1 }) hS' room fun h' sb hS2=>?_
  have hS3:=hS2.as (S':=fun k'=>(firstMet val (i+1)).any (· == k')) (n':=(firstMet val (i+1)).length) (fun k'=>by rw[firstMet_succ,step_any]) (by rw[firstMet_succ,step_length]);refine Qd ⟨Ka Lq _,ih (i+1) _ (by omega) lt (W.frame _ s' _ _ st' (Lo _) fun b hb o e=>?_) hS3 fun s'' hm'' hS''=>?_⟩
  ·rw[sb.2 b (fun h:b=a=>hf (by rw[<- h];exact hb))];exact e
  ·refine hR s'' (Moved.trans W.gtrans ((hm.mono up).then_heap (Lo _) fun b o hb e=>?_) hm'') hS'';rw[sb.2 b (fun h:b=a=>hb (by rw[h];exact Qf))];exact e
end
end L2

namespace L2
open PySem PyProof.Rows
noncomputable def Y4(w:World):Bool:=!(w.params.followText "set-order")
noncomputable def UU(led:Bool):Obj:={ cls:=.type "set",dict:=none,data:=.set #[] 0 (.fresh 0 0 led) }
section
variable{prog:Program}{w:World}{A:Around}{E:Value->Shared->Prop}{s:Shared}
theorem JiO(led:Bool){h:Heap}{a:Addr}(e:h.get? a=some (UU led)):SetL prog w led h a (fun _=>false) 0 :=
 ⟨_,#[],0,_,e,⟨rfl,rfl,rfl⟩,rfl,fun e he=>by simp at he,fun k=>by simp,by decide,by rfl,rfl,JgP 0 0 led⟩
theorem Jdh(a:Value){Q:Value->Shared->Prop}(h:Q (.ref s.heap.objs.size) { s with heap:=s.heap.push (UU (Y4 w)) }) :
 codeAny (model prog w) A (.call (.builtin "set.__new__") ⟨[.type "set",a],[]⟩) (wants Q E) s:=by
 refine codeAny_of_tree ?_;show wpAny _ A.in1 (checkBuiltinCall "set.__new__" ⟨[.type "set",a],[]⟩ >>= fun _=>again (.builtin "set.__new__" ⟨[.type "set",a],[]⟩)) _ _ s;refine Qa (Kq (F.newCall_set_1 a) (Qd ⟨Ka F.plain_set_new _,GN F.entry_set_new ?_⟩));rw[Go F.plain_set_new _];unfold Builtin.«set.__new__» Builtin.Frozenset.newClass;have hsub:=sub_set_self;obtain⟨hp,g,d,tk,os⟩:=s;dsimp only;wp_walk;refine KL (Qd ?_)
 dsimp only;simp only[newObj];exact Qa (wpAny_alloc (Qd (Qd h)))
theorem Jf1{l:Addr}{items:Array Value}{ns:List Int}{Q:Value->Shared->Prop}(hh:A.handled=none)(hl:s.heap.IsList l items)(hi:IntsAre items.toList ns)(hb:items.size+1<scanBound)
 (h:∀(h':Heap) (tk:Nat),SetL prog w (Y4 w) h' s.heap.objs.size (fun k'=>(firstMet (fun i=>ns.getD i 0) items.size).any (· == k')) (firstMet (fun i=>ns.getD i 0) items.size).length ->
  (∀b o,s.heap.get? b=some o->h'.get? b=some o)->Q (.ref s.heap.objs.size) { s with heap:=h',toks:=tk }) :
 wpAny (model prog w) A (call (.type "set") [.ref l]) Q E s:=by
 obtain⟨c,tl,hmro⟩:=KO.mro;have hmade:=KO.made;have hsub:=KO.sub;refine MQ (codeAny_of_tree ?_);show wpAny _ _ (callAny (.type "set") _) _ _ _;refine Qd ⟨Code.quiet_builtin _ (by decide +kernel),GN F.entry_type_call ?_⟩;rw[Around.under_plain (weight_type_call_type "set" [.ref l] []) rfl];have n1:=KO.notType;have n2:=KO.canCreate;have n3:=F.typeCall_set_1 (.ref l)
 repeat (any_goals (first|assumption|wp_step))
 refine G8 (Jdh (.ref l) (E:=E) (Q:=fun obj s1=>obj=.ref s.heap.objs.size/\s1={ s with heap:=s.heap.push (UU (Y4 w)) }) ⟨rfl,rfl⟩) fun r s1 hr=>?_
 cases r with
 | error e=>exact hr
 | ok fl =>
  cases fl with
  | ret obj =>
   obtain⟨rfl,rfl⟩:=hr;have hS:(s.heap.push (UU (Y4 w))).get? s.heap.objs.size=some (UU (Y4 w)):=Qk _ rfl;have hT:Shared.TypeIs { s with heap:=s.heap.push (UU (Y4 w)) } (.ref s.heap.objs.size) "set":=⟨_,hS,rfl⟩
   have i1:=KO.init.lookup
   have i2:=KO.init.bind (.ref s.heap.objs.size)
   repeat (any_goals (first|assumption|wp_step))
   refine G8 (codeAny_call_builtin (R:=wants (fun r s2=>r=.none/\∃h' tk,s2={ s with heap:=h',toks:=tk } ∧
    SetL prog w (Y4 w) h' s.heap.objs.size (fun k'=>(firstMet (fun i=>ns.getD i 0) items.size).any (· == k')) (firstMet (fun i=>ns.getD i 0) items.size).length ∧
    (∀b o,s.heap.get? b=some o->h'.get? b=some o)) E) KO.init.plain F.entry_set_init (check_set_init_1 hT ?_)) fun r2 s2 hr2=>?_
   ·obtain⟨ol,hol,hcl,nl,hdl⟩:=hl;obtain⟨oc,od,oda,osl⟩:=ol;simp only at hcl hdl;subst hcl;subst hdl;have hol':(s.heap.push (UU (Y4 w))).get? l=some { cls:=.type "list",dict:=od,data:=.seq items nl,slots:=osl }:=Qe _ hol;have b1:=F.sub_list_set;have b2:=F.sub_list_frozenset;have b3:(Value.type "list" == Value.type "dict")=false:=by decide
    have hl1:(s.heap.push (UU (Y4 w))).IsList l items:=⟨_,hol',rfl,nl,rfl⟩
    unfold Builtin.«set.__init__» noKeywords Builtin.Frozenset.updateFrom
    generalize hPI:pyIter=PI
    wp_walk
    subst hPI;refine Lv hl1 (Qa (Re ?_));have lS:l<s.heap.objs.size:=Qj hol;have hh3:A.in1.in1.in1.handled=none:=by simp[hh]
    have neI:l≠(s.heap.push (UU (Y4 w))).objs.size:=by rw[Q4];exact Qr (Gk lS)
    have off:s.heap.objs.size∉[(s.heap.push (UU (Y4 w))).objs.size,l]:=by rw[Q4];simp only[Qh,QK,GX,or_false,not_or];exact⟨Qr (Gi _),QO lS⟩
    refine JiP (led:=Y4 w) ((Walks.list hh3 _ l neI items).toS) s.heap.objs.size off (fun i=>ns.getD i 0) (fun i v hv=>IntsAre.int_at hi i v (by rw[GJ];exact hv)) hb (items.size-0) 0 _ (by omega) (Gn _)
     ⟨⟨_,Qk _ rfl,rfl,rfl⟩,(hl1.push _)⟩ (JiO _ (Qe _ hS)) fun s' hm hS'=>?_
    obtain⟨h',g',d',tk',os'⟩:=s';have eg:g'=s.gens:=hm.gens;have ed:d'=s.drawn:=hm.drawn;have eo:os'=s.os:=hm.os;subst eg;subst ed;subst eo;show wpAny _ _ _ _ _ _;refine Qd ?_;show wpAny _ _ (ret Value.none) _ _ _;refine Qd ⟨rfl,h',tk',rfl,hS',fun b o e=>?_⟩;have hb0:=Qj e;refine hm.heap b o ?_ (Qe _ (Qe _ e));rw[Q4];simp only[Qh,QK,GX,or_false,not_or]
    exact⟨Qr hb0,Qr (Gk hb0)⟩
   ·cases r2 with
    | error e=>exact hr2
    | ok fl2 =>
     cases fl2 with
     | ret r =>
      obtain⟨rfl,h',tk,rfl,hS',hk'⟩:=hr2
      repeat (any_goals (first|assumption|wp_step))
      exact h _ _ hS' hk'
     | _=>exact hr2.elim
  | _=>exact hr.elim
end
end L2

namespace L2
open PySem PyProof.Rows PySem.W
theorem si_slot_next:Slot "set_iterator" "__next__" "set_iterator.__next__" :=
 .of (owner:="set_iterator") (n:="__next__") (by rw[typeLookup_type,builtinLookup_eq_fast];kernel_rfl) (by decide +kernel) (by decide +kernel) (by decide +kernel) (.inl (by decide +kernel)) (by rw[KG];kernel_rfl)
theorem V2:entryFor table "set_iterator.__next__"=some Builtin.«set_iterator.__next__»:=entryFor_of_tree (by kernel_rfl)
theorem Jdk:Manifest.owners.lookup (String.ofList ['r','o','t','a','r','e','t','i','_','t','e','s'].reverse)=some Manifest.sig_set_iterator:=by kernel_rfl
theorem WG(a:Value):argsOk "set_iterator.__next__" ⟨[a],[]⟩:=by
 unfold argsOk;rw[signature?_of (id:="set_iterator.__next__") (n:=['_','_','t','x','e','n','_','_']) (o:=['r','o','t','a','r','e','t','i','_','t','e','s']) (by kernel_rfl) Jdk]
 kernel_rfl
theorem WH:Slot "set_iterator" "__iter__" "set_iterator.__iter__" :=
 .of (owner:="set_iterator") (n:="__iter__") (by rw[typeLookup_type,builtinLookup_eq_fast];kernel_rfl) (by decide +kernel) (by decide +kernel) (by decide +kernel) (.inl (by decide +kernel)) (by rw[KG];kernel_rfl)
theorem JaG:entryFor table "set_iterator.__iter__"=some Builtin.«dict_keyiterator.__iter__»:=entryFor_alias (id':="dict_keyiterator.__iter__") (by kernel_rfl) rfl (by decide +kernel) (by kernel_rfl)
theorem Jb0(a:Value):argsOk "set_iterator.__iter__" ⟨[a],[]⟩:=by
 unfold argsOk;rw[signature?_of (id:="set_iterator.__iter__") (n:=['_','_','r','e','t','i','_','_']) (o:=['r','o','t','a','r','e','t','i','_','t','e','s']) (by kernel_rfl) Jdk]
 kernel_rfl
theorem Jar:entryFor table "set.__iter__"=some Builtin.«frozenset.__iter__»:=entryFor_alias (id':="frozenset.__iter__") (by kernel_rfl) rfl (by decide +kernel) (by kernel_rfl)
end L2

namespace L2
open PySem PyProof.Rows PySem.W
noncomputable def SIt(h:Heap)(I d:Addr)(f:Value)(i n ep:Nat):Prop:=∃o,h.get? I=some o/\o.cls=.type "set_iterator"/\o.data=.fields #[f,.int i 0,.ref d,.int n 0,.int ep 0]
section
variable{prog:Program}{w:World}{A:Around}{E:Value->Shared->Prop}{s:Shared}{I d:Addr}{f:Value}{i n ep:Nat}{es:Array (Int×Value)}{t:SetTable}{o:Obj}
theorem SIt.type{s:Shared}(x:SIt s.heap I d f i n ep):s.TypeIs (.ref I) "set_iterator":=let ⟨o,ho,hc,_⟩:=x;⟨o,ho,hc⟩
theorem SIt.at{h h':Heap}(x:SIt h I d f i n ep)(e:∀o,h.get? I=some o->h'.get? I=some o):SIt h' I d f i n ep:=let ⟨o,ho,r⟩:=x;⟨o,e _ ho,r⟩
theorem JfH{Q:Value->Shared->Prop}(hit:SIt s.heap I d f i n ep)(h:Q (.ref I) s):wpAny (model prog w) A (pyIter (.ref I)) Q E s:=by refine Mp hit.type WH (QN WH hit.type JaG ?_ (Jb0 _));show wpAny _ _ (ret (.ref I)) _ _ s;exact Qd ⟨_,rfl,"set_iterator",_,hit.type,si_slot_next.lookup,h⟩
theorem JfI{Q:Option Value->Shared->Prop}(hh:A.handled=none){h1:Heap}(hx:∀h',Kr I s.heap h'->Q none { s with heap:=h' })(he:Kr I s.heap h1) :
 wpAny (model prog w) A.in1 (newExc (.type "StopIteration") [] >>= fun e=>raiseNew e) (fun(fin:Fin) s'=>∃r,fin=.done (.ret r)/\wpAny (model prog w) A (pure (some r)) Q E s') (fun e s'=>wpAny (model prog w) A (isInstance e (.type "StopIteration") >>= fun b=>if b=true then pure none else throw e) Q E s') { s with heap:=h1 }:=by
 refine Qa ?_;simp only[newExc,newTuple];refine Qa (QP ?_ (by size_fits));refine Qa (m:=firstArgMember _ _) (Kq (a:=Value.none) (by first | rfl | (simp only[firstArgMember];rfl)) ?_);refine QP ?_ (by size_fits);simp only[raiseNew];refine Qa (wpAny_handled ?_);rw[show A.in1.handled=none from hh];refine Qa (Qd (wpAny_throw ?_));refine Qa (GW (T:="StopIteration") (b:=true) ⟨_,Qk _ rfl,rfl⟩ K8 ?_)
 exact Qd (hx _ ((he.push _).push _))
theorem JfG{Q:Option Value->Shared->Prop}{sl:Nat}{r:Option (Value×Nat)}(hh:A.handled=none)(hit:SIt s.heap I d (.int sl 0) i es.size ep)(ho:s.heap.get? d=some o)(hd:o.data=.set es ep t)(hf:t.fits es.size=true)
 (nx:∀(A:Around) (E:Value->Shared->Prop) (Q:Option (Value×Nat)->Shared->Prop),Q r s->wpAny (model prog w) A (setNext d sl i ep) Q E s)
 (item:∀x j h',r=some (x,j)->SIt h' I d (.int j 0) (i+1) es.size ep->Qt I s.heap h'->Q (some x) { s with heap:=h' })
 (done:r=none->∀h',Kr I s.heap h'->Q none { s with heap:=h' }):wpAny (model prog w) A (pyNext (.ref I)) Q E s:=by
 obtain⟨oi,hoi,hci,hdi⟩:=id hit;unfold pyNext;refine Qa (Gs (QB (name:=Q0 "__next__") hit.type si_slot_next (QN si_slot_next hit.type V2 ?_ (WG _))));unfold Builtin.«set_iterator.__next__»;refine Qa (Qd (Qa (wpAny_fieldsOf hoi hdi ?_)));show wpAny _ _ (setEntries d >>= _) _ _ s;refine Qa (LX ho hd hf ?_);rw[if_neg (by simp)];show wpAny _ _ (setNext d ((sl:Int).toNat) ((i:Int).toNat) ((ep:Int).toNat) >>= _) _ _ s
 rw[Gm,Gm,Gm];refine Qa (nx _ _ _ ?_)
 cases hr:r with
 | some p =>
  obtain⟨x,j⟩:=p;dsimp only;refine Qa (GL hoi hdi (by simp) ?_);have h1:=QY (Kb (·.setIfInBounds 0 (rawInt j))) hoi (GI (Q9 hdi _));have d1:=Q9 hdi (·.setIfInBounds 0 (rawInt j));refine Qa (GL h1 d1 (by simp) ?_);refine Qd ⟨_,rfl,Qd (item x j _ hr ⟨_,QY _ h1 (GI (Q9 d1 _)),?_,?_⟩ ((Ge ..).trans (Ge ..)))⟩
  ·rw[K3,K3];exact hci
  ·rw[Q9 d1];simp[rawInt]
 | none=>dsimp only;refine Qa (GL hoi hdi (by simp) ?_);exact JfI hh (done hr) (Ge ..).extBut
theorem Jdj{Q:Option Value->Shared->Prop}{T:Addr}{ps:List Nat}{oT:Obj}{cT:Nat}(hh:A.handled=none)(hit:SIt s.heap I d (.ref T) i es.size ep)(ho:s.heap.get? d=some o)(hd:o.data=.set es ep t)(hf:t.fits es.size=true)
 (hT:s.heap.get? T=some oT) (hTd:oT.data=.seq (ps.map fun(i:Nat)=>rawInt i).toArray cT)
 (item:∀p e h',ps[i]?=some p->es[p]?=some e->SIt h' I d (.ref T) (i+1) es.size ep->Qt I s.heap h'->Q (some e.2) { s with heap:=h' }) (inn:∀p∈ps,p<es.size)
 (done:ps[i]?=none->∀h',Kr I s.heap h'->Q none { s with heap:=h' }):wpAny (model prog w) A (pyNext (.ref I)) Q E s:=by
 obtain⟨oi,hoi,hci,hdi⟩:=id hit;unfold pyNext;refine Qa (Gs (QB (name:=Q0 "__next__") hit.type si_slot_next (QN si_slot_next hit.type V2 ?_ (WG _))));unfold Builtin.«set_iterator.__next__»;refine Qa (Qd (Qa (wpAny_fieldsOf hoi hdi ?_)));show wpAny _ _ (setEntries d >>= _) _ _ s;refine Qa (LX ho hd hf ?_);rw[if_neg (by simp)];show wpAny _ _ (seqItems? (.ref T) >>= _) _ _ s
 unfold seqItems?;refine Qa (Qa (wpAny_load hT ?_));rw[hTd];refine Qd ?_;dsimp only;rw[Gm];have ee:(ps.map fun(i:Nat)=>rawInt i).toArray[i]?=(ps[i]?).map fun(i:Nat)=>rawInt i:=by simp
 rw[ee]
 cases hp:ps[i]? with
 | some p =>
  have hlt:=inn p (QI hp)
  show wpAny _ _ (setNextDrawn d ((p:Int).toNat) ((ep:Int).toNat) >>= _) _ _ s;rw[Gm,Gm];unfold setNextDrawn;refine Qa (Qa (GG ho hd hf ?_));dsimp only;rw[if_neg (by simp)];refine Qa (Qd ?_);rw[GS hlt];dsimp only;refine Qd ?_;refine Qa (GL hoi hdi (by simp) ?_);refine Qd ⟨_,rfl,Qd (item p es[p] _ hp (GS hlt) ⟨_,QY _ hoi (GI (Q9 hdi _)),?_,?_⟩ (Ge ..))⟩
  ·rw[K3];exact hci
  ·rw[Q9 hdi];simp[rawInt]
 | none =>
  show wpAny _ _ (setField (.ref I) 0 (rawInt 0) >>= _) _ _ s;refine Qa (GL hoi hdi (by simp) ?_)
  have h1:=QY (Kb (·.setIfInBounds 0 (rawInt 0))) hoi (GI (Q9 hdi _))
  have d1:=Q9 hdi (·.setIfInBounds 0 (rawInt 0))
  generalize hg:s.heap.update I (Kb (·.setIfInBounds 0 (rawInt 0)))=g at h1
  have sb:Qt I s.heap g:=by rw[<- hg];exact Ge ..
  generalize Kb (·.setIfInBounds 0 (rawInt 0)) oi=oj at h1 d1
  refine Qa (GL (s:={ s with heap:=g }) h1 d1 (by simp) ?_);exact JfI (s:=s) hh (done hp) (sb.trans (Ge ..)).extBut
noncomputable def SHas(h:Heap)(d:Addr)(es:Array (Int×Value))(ep:Nat)(t:SetTable):Prop:=∃o,h.get? d=some o/\o.ExactSet/\o.data=.set es ep t
theorem SHas.at{h h':Heap}(x:SHas h d es ep t)(e:∀o,h.get? d=some o->h'.get? d=some o):SHas h' d es ep t:=let ⟨o,ho,r⟩:=x;⟨o,e _ ho,r⟩
theorem Jly{Q:Option (Value×Nat)->Shared->Prop}(bt:w.params.followText "set-order"=true)(hs:SHas s.heap d es ep t)(hf:t.fits es.size=true){sl:Nat}
 (h:Q (((pickOrder (w.params.setOrder d ep) es)[i]?).map fun e=>(e.2,sl)) s):wpAny (model prog w) A (setNext d sl i ep) Q E s:=by
 obtain⟨o,ho,_,hd⟩:=hs;unfold setNext setsByText;refine Qa (GG ho hd hf (Qa (Qa (KL (Qd ?_)))));show wpAny _ _ (if w.params.followText "set-order"=true then _ else _) _ _ s;rw[if_pos bt,if_neg (by simp)];refine Qa ?_;unfold setWalk setsByText;refine Qa (GG ho hd hf (Qa (Qa (KL (Qd ?_)))));show wpAny _ _ (if w.params.followText "set-order"=true then _ else _) _ _ s
 rw[if_pos bt];exact Qa (KL (Qd (Qd h)))
noncomputable def Jef(t:SetTable)(i:Nat):Nat:=if i=0 then 0 else t.place.getD (i-1) 0+1
theorem JiR{t:SetTable}(r:Ris t.place){i:Nat}(h:i<=t.place.size):QW t.place (Jef t i)=i:=by
 unfold Jef
 by_cases c:i=0
 ·rw[if_pos c,c];exact Jg4 r
 ·rw[if_neg c];have hi:i-1<t.place.size:=by omega
  have e:t.place.getD (i-1) 0=t.place[i-1]:=by simp[Rs,hi]
  rw[e,Jg3 r hi];omega
theorem JiU{Q:Option (Value×Nat)->Shared->Prop}(bt:w.params.followText "set-order"=false)(hs:SHas s.heap d es ep t)(hf:t.fits es.size=true)(tok:TOk (Y4 w) t)(nd:(!t.plain && decide (es.size>1))=false)(hi:i<=es.size)
 (h:Q ((es[i]?).map fun e=>(e.2,Jef t (i+1))) s):wpAny (model prog w) A (setNext d (Jef t i) i ep) Q E s:=by
 obtain⟨o,ho,_,hd⟩:=hs;have hp:t.place.size=es.size:=by simp only[SetTable.fits,Qv,beq_iff_eq] at hf;exact hf.1
 have ris:Ris t.place:=by
  cases c:t.plain with
  | true=>exact tok.1 c
  | false =>
   rw[c] at nd;have z:es.size<=1:=by simpa using nd
   unfold Ris;have:t.place.toList.length<=1:=by rw[QF];omega
   match t.place.toList,this with
   | [],_=>exact .nil
   | [x],_=>exact MJ _ _
 have led:t.led=true:=by rw[tok.2];unfold Y4;rw[bt];rfl
 unfold setNext setsByText;refine Qa (GG ho hd hf (Qa (Qa (KL (Qd ?_)))));show wpAny _ _ (if w.params.followText "set-order"=true then _ else _) _ _ s;rw[if_neg (by rw[bt];exact Qp)];show wpAny _ _ (if (!t.plain && decide (es.size>1))=true then _ else _) _ _ s;rw[if_neg (by rw[nd];exact Qp)];refine Qa (m:=if (!t.led && !es.isEmpty)=true then _ else _) ?_;rw[if_neg (by rw[led];simp)]
 refine Qd ?_;dsimp only;rw[JiR ris (by omega)];refine Qd ?_
 cases c:es[i]? with
 | none=>rw[c] at h;exact h
 | some e =>
  have hlt:i<t.place.size:=by rw[hp];exact(GQ.mp c).1
  rw[GS hlt];rw[c] at h
  have:Jef t (i+1)=t.place[i]+1:=by unfold Jef;rw[if_neg (by omega)];simp[Rs,hlt]
  rw[Lm,this] at h;exact h
theorem Jlw{Q:Value->Shared->Prop}(hh:A.handled=none)(hs:SHas s.heap d es ep t)(hf:t.fits es.size=true)(tok:TOk (Y4 w) t)(hz:es.size<=sizeLine)
 (h:∀(I:Addr) (h':Heap) (dr:Drawn) (ys:List Value) (fp:List Addr) (St:Nat->Heap->Prop),ys.Perm (es.toList.map (·.2))->s.heap.objs.size<=I->(∀b o,s.heap.get? b=some o->h'.get? b=some o) ->
  Walks prog w A I fp [I] es.size (fun i v=>ys[i]?=some v) St->St 0 h'->(∀b∈fp,s.heap.objs.size<=b\/b=d)->(∀b∈fp,b<h'.objs.size)->Q (.ref I) { s with heap:=h',drawn:=dr }) :
 wpAny (model prog w) A (pyIter (.ref d)) Q E s:=by
 obtain⟨o,ho,hex,hd⟩:=id hs;have hT:s.TypeIs (.ref d) "set":=⟨o,ho,hex.1⟩
 have dlt:d<s.heap.objs.size:=Qj ho;refine Mp hT F.slot_set_iter (QN F.slot_set_iter hT Jar ?_ (F.args_set_iter_1 _));unfold Builtin.«frozenset.__iter__» Builtin.Frozenset.slot0 Builtin.Frozenset.sizeOf Builtin.Frozenset.addrOf;refine Qa (Qa (Qd (Qd ?_)));refine Qa (Qa (LX ho hd hf (Qd ?_)));refine Qa ?_;unfold setDrawn setsByText;refine Qa (GG ho hd hf (Qa (Qa (KL (Qd (Qd ?_))))))
 show wpAny _ _ (if (!w.params.followText "set-order" && (!t.plain && decide (es.size>1)))=true then _ else _) _ _ s
 have one:∀(sl:Nat->Nat) (ys:List Value),sl 0=0->ys.Perm (es.toList.map (·.2))->ys.length=es.size ->
  (∀(i:Nat) (s:Shared),i<=es.size->SHas s.heap d es ep t->∀(A:Around) (E:Value->Shared->Prop) (Q:Option (Value×Nat)->Shared->Prop),Q ((ys[i]?).map fun v=>(v,sl (i+1))) s->wpAny (model prog w) A (setNext d (sl i) i ep) Q E s) ->
  Walks prog w A s.heap.objs.size [s.heap.objs.size,d] [s.heap.objs.size] es.size (fun i v=>ys[i]?=some v) (fun i h=>SIt h s.heap.objs.size d (.int (sl i) 0) i es.size ep/\SHas h d es ep t/\i<=es.size):=fun sl ys s0 pm yl nx=>{
  sub:=fun b hb=>by simp at hb;simp[hb]
  frame:=fun i h h' st hk=>⟨st.1.at fun o e=>hk _ (by simp) o e,st.2.1.at fun o e=>hk d (by simp) o e,st.2.2⟩
  item:=fun i s1 Q E hi st hQ=>by
   obtain⟨o1,ho1,_,hd1⟩:=id st.2.1;refine JfG hh st.1 ho1 hd1 hf (fun A E Q hq=>nx i s1 st.2.2 st.2.1 A E Q hq) (fun x j h' e hit' hs'=>?_) (fun e=>?_)
   ·obtain⟨v,e1,e2⟩:=Gb.mp e;cases e2;exact hQ _ h' s1.toks e1 ⟨hit',st.2.1.at fun o x=>hs'.extBut d o (Qr dlt) x,hi⟩ fun b o hb x=>hs'.extBut b o (fun h=>hb (by simp[h])) x
   ·rw[MY,Lg] at e;omega
  done:=fun s1 Q E st hQ=>by obtain⟨o1,ho1,_,hd1⟩:=id st.2.1;refine JfG hh st.1 ho1 hd1 hf (fun A E Q hq=>nx _ s1 st.2.2 st.2.1 A E Q hq) (fun x j h' e _ _=>?_) (fun _ h' he=>hQ h' s1.toks fun b o hb e=>he b o (fun h=>hb (by simp[h])) e);obtain⟨v,e1,e2⟩:=Gb.mp e;have:=(Qg.mp e1).1;omega
  self:=fun _ _ _ _ st hQ=>JfH st.1 hQ }
 have enter:∀(sl:Nat->Nat) (ys:List Value),sl 0=0->ys.Perm (es.toList.map (·.2))->ys.length=es.size ->
  (∀(i:Nat) (s:Shared),i<=es.size->SHas s.heap d es ep t->∀(A:Around) (E:Value->Shared->Prop) (Q:Option (Value×Nat)->Shared->Prop),Q ((ys[i]?).map fun v=>(v,sl (i+1))) s->wpAny (model prog w) A (setNext d (sl i) i ep) Q E s) ->
  Q (.ref s.heap.objs.size) { s with heap:=s.heap.push { cls:=.type "set_iterator",data:=.fields #[.int 0 0,.int 0 0,.ref d,.int es.size 0,.int ep 0] } }:=fun sl ys s0 pm yl nx=>by
  refine h s.heap.objs.size _ s.drawn ys [s.heap.objs.size,d] _ pm (Qn _) (fun b o e=>Qe _ e) (one sl ys s0 pm yl nx) ⟨⟨_,Qk _ rfl,rfl,?_⟩,hs.at fun o e=>Qe _ e,Gn _⟩ (fun b hb=>?_) (fun b hb=>?_)
  ·rw[s0];rfl
  ·rcases Qh.mp hb with e|e
   ·exact .inl (MP e.symm)
   ·exact .inr (by simpa using e)
  ·rw[Q4];rcases Qh.mp hb with e|e
   ·rw[e];exact Gi _
   ·rw[QK.mp e];exact Gk dlt
 cases bt:w.params.followText "set-order" with
 | true =>
  rw[if_neg (by simp)];refine Qa (Qd ?_);unfold setEpoch;refine Qa (Qa (GG ho hd hf (Qd ?_)));refine Qa (QP ?_);refine Qd ⟨_,rfl,"set_iterator",_,⟨_,Qk _ rfl,rfl⟩,si_slot_next.lookup,?_⟩;refine enter (fun _=>0) ((pickOrder (w.params.setOrder d ep) es).toList.map (·.2)) rfl ((Jba _ es).map _) (by rw[Qo,(Jba _ es).length_eq,QF]) fun i s1 hi hs1 A E Q hq=>Jly bt hs1 hf ?_
  rw[Qx,GJ,Ly] at hq;exact hq
 | false =>
  cases dw:(!t.plain && decide (es.size>1)) with
  | false =>
   rw[if_neg (by simp)];refine Qa (Qd ?_);unfold setEpoch;refine Qa (Qa (GG ho hd hf (Qd ?_)));refine Qa (QP ?_);refine Qd ⟨_,rfl,"set_iterator",_,⟨_,Qk _ rfl,rfl⟩,si_slot_next.lookup,?_⟩;refine enter (Jef t) (es.toList.map (·.2)) rfl (.refl _) (by rw[Qo,QF]) fun i s1 hi hs1 A E Q hq=>JiU bt hs1 hf tok dw hi ?_
   rw[Qx,GJ,Ly] at hq;exact hq
  | true =>
   rw[if_pos (by simp)];refine Qa (JaV _ _ _ _ (by rw[K4]) fun ps dr pm=>?_);refine Qa (Md (items:=ps.map fun(i:Nat)=>rawInt i) ?_ (by rw[Qo,pm.length_eq,K4];exact hz));have hT1:(s.heap.push { cls:=.type "tuple",data:=.seq (ps.map fun(i:Nat)=>rawInt i).toArray }).get? s.heap.objs.size=some { cls:=.type "tuple",data:=.seq (ps.map fun(i:Nat)=>rawInt i).toArray }:=Qk _ rfl
   have ho1:(s.heap.push { cls:=.type "tuple",data:=.seq (ps.map fun(i:Nat)=>rawInt i).toArray }).get? d=some o:=Qe _ ho
   generalize hg:s.heap.push { cls:=.type "tuple",data:=.seq (ps.map fun(i:Nat)=>rawInt i).toArray }=g at hT1 ho1 ⊢
   have gz:g.objs.size=s.heap.objs.size+1:=by rw[<- hg,Q4]
   have gk:∀b o,s.heap.get? b=some o->g.get? b=some o:=fun b o e=>by rw[<- hg];exact Qe _ e
   unfold setEpoch;refine Qa (Qa (GG (s:={ s with heap:=g,drawn:=dr }) ho1 hd hf (Qd ?_)));refine Qa (QP ?_);refine Qd ⟨_,rfl,"set_iterator",_,⟨_,Qk _ rfl,rfl⟩,si_slot_next.lookup,?_⟩;have inn:∀p∈ps,p<es.size:=fun p hp=>by simpa using pm.mem_iff.mp hp
   have pl:ps.length=es.size:=by rw[pm.length_eq,K4]
   have dne:d≠g.objs.size:=by rw[gz];exact Qr (Gk dlt)
   have tne:s.heap.objs.size≠g.objs.size:=by rw[gz];exact Qr (Gi _)
   refine h g.objs.size _ dr (ps.map fun p=>(es[p]?.map (·.2)).getD Value.none) [g.objs.size,d,s.heap.objs.size] (fun i h=>SIt h g.objs.size d (.ref s.heap.objs.size) i es.size ep/\SHas h d es ep t/\h.get? s.heap.objs.size=some { cls:=.type "tuple",data:=.seq (ps.map fun(i:Nat)=>rawInt i).toArray }) ?_ (by rw[gz];exact Lo _) (fun b o e=>Qe _ (gk b o e)) ?_ ⟨⟨_,Qk _ rfl,rfl,rfl⟩,⟨o,Qe _ ho1,hex,hd⟩,Qe _ hT1⟩ (fun b hb=>?_) (fun b hb=>?_)
   ·refine(pm.map _).trans (.of_eq ?_);refine MM (by simp) fun i h1 h2=>?_
    have hi:i<es.size:=by simpa using h1
    simp[hi]
   ·exact {
     sub:=fun b hb=>by simp at hb;simp[hb]
     frame:=fun i h h' st hk=>⟨st.1.at fun o e=>hk _ (by simp) o e,st.2.1.at fun o e=>hk d (by simp) o e,hk _ (by simp) _ st.2.2⟩
     item:=fun i s1 Q E hi st hQ=>by
      obtain⟨o1,ho1,_,hd1⟩:=id st.2.1;refine Jdj hh st.1 ho1 hd1 hf st.2.2 rfl (fun p e h' e1 e2 hit' hs'=>?_) inn (fun e=>?_)
      ·exact hQ _ h' s1.toks (by rw[Qx,e1];simp[e2]) ⟨hit',st.2.1.at fun o x=>hs'.extBut d o dne x,hs'.extBut _ _ tne st.2.2⟩ fun b o hb x=>hs'.extBut b o (fun h=>hb (by simp[h])) x
      ·rw[Lg] at e;omega
     done:=fun s1 Q E st hQ=>by obtain⟨o1,ho1,_,hd1⟩:=id st.2.1;refine Jdj hh st.1 ho1 hd1 hf st.2.2 rfl (fun p e h' e1 _ _ _=>?_) inn (fun _ h' he=>hQ h' s1.toks fun b o hb e=>he b o (fun h=>hb (by simp[h])) e);have:=(Qg.mp e1).1;omega
     self:=fun _ _ _ _ st hQ=>JfH st.1 hQ }
   ·simp only[Qh,GX,or_false] at hb;rcases hb with e|e|e
    ·exact .inl (by rw[e,gz];exact Lo _)
    ·exact .inr e
    ·exact .inl (MP e.symm)
   ·rw[Q4,gz];simp only[Qh,GX,or_false] at hb;rcases hb with e|e|e
    ·rw[e,gz];exact Gi _
    ·rw[e];exact Gk (Gk dlt)
    ·rw[e];exact Gk (Gi _)
end
end L2

namespace L2
open PySem PyProof.Rows PySem.W PySem.Spec
section
variable{prog:Program}{w:World}{A:Around}{E:Value->Shared->Prop}{s:Shared}{d:Addr}{ep:Nat}{es:Array (Int×Value)}{t:SetTable}
theorem JhJ{Q:Bool->Shared->Prop}(hT:s.TypeIs (.ref d) "set")(h:Q false s):wpAny (model prog w) A (G9 (.ref d)) Q E s:=by
 unfold G9;refine Qa (Kn hT PySem.F.slot_set_len.lookup ?_)
 generalize hid:("set.__len__":String)=id0
 wp_delta
 rw[show splitId id0=some ("set","__len__") from by subst hid;decide +kernel];subst hid;refine Qa (GW (T:="set") (b:=true) hT (by rw[KG];kernel_rfl) ?_);refine KZ (fun hab=>absurd hab (by decide)) (fun _=>?_);refine KZ (fun _=>?_) (fun hab=>absurd (by decide +kernel) hab);exact Qa (Lx hT (Qd h))
theorem Jed{R:Result->Shared->Prop}(hh:A.handled=none)(hs:SHas s.heap d es ep t)(hf:t.fits es.size=true)(tok:TOk (Y4 w) t)(hz:es.size<=sizeLine)(S:Addr)(ne:S≠d)(res:Value)(hS:s.heap.get? S=some { cls:=.type "list",data:=.seq #[] })
 (hR:∀h' tk dr acc c,(∀b o,b≠S->s.heap.get? b=some o->h'.get? b=some o)->h'.get? S=some { cls:=.type "list",dict:=none,data:=.seq acc c,slots:=#[] }->acc.toList.Perm (es.toList.map (·.2))->R (.ok (.ret res)) { s with heap:=h',toks:=tk,drawn:=dr }) :
 wpAny (model prog w) A.in1 (Gw (.ref S) (.ref d) res)
  (fun fin s'=>match fin with|.done f=>R (.ok f) s'|.again c'=>c'.quiet=true/\codeAny (model prog w) A c' R s') (fun e s'=>R (.error e) s') s:=by
 obtain⟨o,ho,hex,hd⟩:=id hs;have hT:s.TypeIs (.ref d) "set":=⟨o,ho,hex.1⟩
 have Slt:S<s.heap.objs.size:=Qj hS;unfold Gw;refine Qa (Lx (T:="set") hT ?_)
 have h1:Kx (.ref S) (.ref d)=false:=by simp[Kx,ne]
 have h2:(Value.type "set" == Value.type "list")=false:=by decide
 have h3:(Value.type "set" == Value.type "tuple")=false:=by decide
 simp only[h1,h2,h3,Li,KN,if_false];refine Qa (Jlw (A:=A.in1) hh hs hf tok hz fun I h' dr ys fp St pm le old W st fpo fpl=>?_);have SI:S∉fp:=fun m=>(fpo S m).elim (fun x=>absurd Slt (LL.mpr x)) fun x=>ne x
 have hS1:=old S _ hS
 have key:∀(g:Heap) (c1 tk:Nat),St 0 g->(∀b o,b≠S->s.heap.get? b=some o->g.get? b=some o)->g.get? S=some { cls:=.type "list",data:=.seq #[] c1 } ->
  codeAny (model prog w) A (.builtin "list.extend.loop" ⟨[.ref S,.ref I,res],[]⟩) R { s with heap:=g,toks:=tk,drawn:=dr }:=by
  intro g c1 tk st1 hk hS2;refine codeAny_extend_loopS W.toS hz S SI res es.size 0 _ #[] c1 rfl (Gn _) st1 hS2 (ItemsOf.nil _) fun s' acc c' hm hS' hacc=>?_
  rw[Moved.eq_with hm];refine hR s'.heap s'.toks dr acc c' (fun b o hb e=>hm.heap b o (fun m=>?_) (hk b o hb e)) hS' ?_
  ·rcases Qh.mp m with e'|m
   ·exact hb e'
   ·rw[QK] at m;exact absurd (Qj e) (LL.mpr (m▸le))
  ·have yl:ys.length=es.size:=by rw[pm.length_eq,Qo,QF]
   have:acc.toList=ys:=MM (by rw[QF,hacc.1,yl]) fun i a1 a2=>by have:ys[i]?=some acc.toList[i]:=hacc.2 i acc.toList[i] (by rw[<- GJ];exact Q6 a1);rw[Q6 a2] at this;exact(Qz this).symm
   rw[this];exact pm
 refine Qa (Gj (JhJ (s:={ s with heap:=h',drawn:=dr }) ⟨o,old _ _ ho,hex.1⟩ ?_));refine KZ (fun _=>?_) (fun _=>Qd ⟨Ka Gq _,key _ _ _ st (fun b o _ e=>old b o e) hS1⟩);refine Qa (G5 (Qa ?_));show wpAny _ _ (updateSeq S (·.push .none) >>= fun _=>updateSeq S (·.pop)) _ _ _;refine Qa (KY hS1 rfl ?_);have hS2:=QY (K7 (·.push Value.none)) hS1 rfl
 refine KY (hz:=by seq_fits) hS2 rfl ?_;have hS3:=QY (K7 (·.pop)) hS2 rfl;refine Qd ⟨Ka Gq _,key _ _ _ ?_ (fun b o hb e=>?_) hS3⟩
 ·refine W.frame 0 _ _ st fun b hb o e=>?_
  have bS:b≠S:=fun h=>SI (h▸hb)
  exact(QM _ _ (QC bS)).trans ((QM _ _ (QC bS)).trans e)
 ·exact(QM _ _ (QC hb)).trans ((QM _ _ (QC hb)).trans (old b o e))
theorem Jdg{R:List Value->Shared->Prop}(hh:A.handled=none)(hs:SHas s.heap d es ep t)(hf:t.fits es.size=true)(tok:TOk (Y4 w) t)(hz:es.size<=sizeLine)
 (h:∀(h':Heap) (tk:Nat) (dr:Drawn) (acc:Array Value),(∀b o,s.heap.get? b=some o->h'.get? b=some o)->s.heap.objs.size<h'.objs.size->acc.toList.Perm (es.toList.map (·.2))->R acc.toList { s with heap:=h',toks:=tk,drawn:=dr }):wpAny (model prog w) A (collect (.ref d)) R E s:=by
 obtain⟨o,ho,hex,hd⟩:=id hs;have dlt:d<s.heap.objs.size:=Qj ho;have old:∀b o,s.heap.get? b=some o->(s.heap.push { cls:=.type "list",data:=.seq ([]:List Value).toArray }).get? b=some o:=fun b o e=>Qe _ e
 unfold collect;refine Qa (Re (GN entry_proto_collect' ?_));rw[Go L4 _];show wpAny _ A.in1 (newList [] >>= fun l=>again (.builtin "list.__iadd__" ⟨[l,.ref d],[]⟩)) _ _ s;refine Qa (QP (Qd ⟨Ka KH _,GN entry_list_iadd' ?_⟩));rw[Go KH _];have at0:(s.heap.push { cls:=.type "list",data:=.seq ([]:List Value).toArray }).get? s.heap.objs.size=some { cls:=.type "list",data:=.seq #[] }:=Qk _ rfl
 have fin:∀(h':Heap) (tk:Nat) (dr:Drawn) (acc:Array Value) (c:Nat),(∀b o,s.heap.get? b=some o->h'.get? b=some o)->h'.get? s.heap.objs.size=some { cls:=.type "list",dict:=none,data:=.seq acc c,slots:=#[] }->acc.toList.Perm (es.toList.map (·.2)) ->
  wpAny (model prog w) A (load s.heap.objs.size >>= fun o=>match o.data with | .seq xs _=>pure xs.toList | _=>unsupported "internal:collect") R E { s with heap:=h',toks:=tk,drawn:=dr }:=fun h' tk dr acc c hk hS hi=>Qa (wpAny_load hS (Qd (h h' tk dr acc hk (Qj hS) hi)))
 have got:=Jed (prog:=prog) (A:=A) (s:={ s with heap:=s.heap.push { cls:=.type "list",data:=.seq ([]:List Value).toArray } }) (R:=fun q s'=>∃h' tk dr acc c,q=.ok (.ret (.ref s.heap.objs.size))/\s'={ s with heap:=h',toks:=tk,drawn:=dr }/\(∀b o,s.heap.get? b=some o->h'.get? b=some o)/\h'.get? s.heap.objs.size=some { cls:=.type "list",dict:=none,data:=.seq acc c,slots:=#[] }/\acc.toList.Perm (es.toList.map (·.2)))
  hh (hs.at fun o e=>old _ o e) hf tok hz s.heap.objs.size (QO dlt) (.ref s.heap.objs.size) at0 (fun h' tk dr acc c hk hS hi=>⟨h',tk,dr,acc,c,rfl,rfl,fun b o e=>hk b o (Qr (Qj e)) (old b o e),hS,hi⟩)
 refine GC got (fun f s' x=>?_) fun e s' ⟨_,_,_,_,_,z,_⟩=>nomatch z
 cases f with
 | done f=>obtain⟨h',tk,dr,acc,c,e,rfl,hk,hS,hi⟩:=x;cases e;exact fin h' tk dr acc c hk hS hi
 | again c1=>exact⟨x.1,G8 x.2 fun q s2 ⟨h',tk,dr,acc,c,e1,e2,hk,hS,hi⟩=>by subst e1;subst e2;exact fin h' tk dr acc c hk hS hi⟩
end
noncomputable def fM(ns:List Int):List Int:=firstMet (fun i=>ns.getD i 0) ns.length
theorem JeS(ns:List Int):fM ns=ns.foldl step_dedup []:=by
 unfold fM firstMet;congr 1;refine MM (by simp) fun i h1 h2=>?_
 simp[Kf,h2]
theorem Jcp:∀(ns acc:List Int),acc.Nodup->(ns.foldl step_dedup acc).Nodup
 | [],acc,h=>h
 | n::ns,acc,h=>by
  rw[Gz];refine Jcp ns _ ?_;unfold step_dedup;split
  ·exact h
  ·rename_i c;refine Mr.mpr ⟨h,by simp,fun a ha b hb=>?_⟩;rw[QK] at hb;subst hb;intro e;subst e;exact c (Ld.mpr ⟨a,ha,by simp⟩)
theorem Jhj:∀(ns acc:List Int) (k:Int),k∈ns.foldl step_dedup acc↔k∈acc\/k∈ns
 | [],acc,k=>by simp
 | n::ns,acc,k=>by
  rw[Gz,Jhj ns];unfold step_dedup;split
  ·rename_i c;obtain⟨x,hx,e⟩:=Ld.mp c;have:x=n:=by simpa using e
   subst this;simp only[Qh];constructor
   ·exact fun h=>h.elim .inl fun h=>.inr (.inr h)
   ·rintro(h|h|h)
    ·exact .inl h
    ·exact .inl (h▸hx)
    ·exact .inr h
  ·simp only[QX,Qh,GX,or_false,or_assoc]
theorem ZJ(ns:List Int):(fM ns).Nodup:=by rw[JeS];exact Jcp ns [] List.nodup_nil
theorem Jhy(ns:List Int)(k:Int):k∈fM ns↔k∈ns:=by rw[JeS,Jhj];simp
theorem Jhx(ns:List Int):(fM ns).length<=ns.length:=firstMet_length_le _ _
theorem Zd:∀{a b:List Int},a.Nodup->(∀x∈a,x∈b)->b.length=a.length->b.Perm a
 | [],b,_,_,h=>by have:b=[]:=QZ (by simpa using h);rw[this]
 | x::a,b,nd,sub,h=>by
  have hx:=sub x Qf
  have pb:=List.perm_cons_erase hx;refine pb.trans (List.Perm.cons x ?_)
  have nd':=Q8.mp nd;refine Zd nd'.2 (fun y hy=>?_) (by rw[List.length_erase_of_mem hx,h];simp);rcases Qh.mp (pb.mem_iff.mp (sub y (Qc _ hy))) with e|e
  ·exact absurd (e▸hy) nd'.1
  ·exact e
theorem JcB{prog:Program}{w:World}:∀{l:List (Int×Value)},ElemsOf (intKind prog w) l->∃ks:List Int,IntsAre (l.map (·.2)) ks
 | [],_=>⟨[],.nil⟩
 | e::l,h=>by obtain⟨ks,r⟩:=JcB h.tail;obtain⟨⟨k,hk,_⟩,_⟩:=h.head;obtain⟨tk,e2⟩:=Mn (show M8 k e.2=true from hk);refine⟨k::ks,?_⟩;rw[Qi,e2];exact .cons k tk r
theorem JcC{x:Int}:∀{vs:List Value} {ks:List Int},IntsAre vs ks->∀v∈vs,M8 x v=true->x∈ks
 | _,_,.nil,v,h,_=>by simp at h
 | _,_,.cons n t r,v,h,e=>by
  rcases Qh.mp h with q|q
  ·subst q;obtain⟨tk,e2⟩:=Mn e
   injection e2 with e2
   subst e2;exact Qf
  ·exact Qc _ (JcC r v q e)
theorem Jgg{a b:List Value}(p:a.Perm b):∀{ks:List Int},IntsAre a ks->∃ks',IntsAre b ks'/\ks'.Perm ks:=by
 induction p with
 | nil=>intro ks r;exact⟨ks,r,.refl _⟩
 | cons x p ih =>
  intro ks r
  cases r with
  | cons n t r=>obtain⟨ks',r',q⟩:=ih r;exact⟨n::ks',.cons n t r',q.cons n⟩
 | swap x y l =>
  intro ks r
  cases r with
  | cons n t r=>cases r with
   | cons m u r=>exact⟨m::n::_,.cons m u (.cons n t r),List.Perm.swap _ _ _⟩
 | trans p q ih1 ih2=>intro ks r;obtain⟨k1,r1,q1⟩:=ih1 r;obtain⟨k2,r2,q2⟩:=ih2 r1;exact⟨k2,r2,q2.trans q1⟩
theorem JiQ{prog:Program}{w:World}{led:Bool}{h:Heap}{a:Addr}{ns:List Int}(x:SetL prog w led h a (fun k=>(fM ns).any (· == k)) (fM ns).length) :
 ∃es ep t ks,SHas h a es ep t/\t.fits es.size=true/\TOk led t/\es.size=(fM ns).length/\IntsAre (es.toList.map (·.2)) ks/\ks.Perm (fM ns):=by
 obtain⟨o,es,ep,t,z⟩:=x;obtain⟨ks,r⟩:=JcB z.els;refine⟨es,ep,t,ks,⟨o,z.got,z.ex,z.data⟩,z.fits,z.tok,z.size,r,?_⟩;refine Zd (ZJ ns) (fun y hy=>?_) ?_
 ·obtain⟨e,he,hi⟩:=(z.mem y).mp (Ld.mpr ⟨y,hy,by simp⟩);exact JcC r e.2 (QQ.mpr ⟨e,he,rfl⟩) hi
 ·have:=Rh r;rw[Qo,QF] at this;rw[<- this,z.size]
noncomputable def Jls(X:Cx)(l:Addr)(ns:List Int):HO:=.ext fun h=>SetL X.prog X.w (Y4 X.w) h l (fun k=>(fM ns).any (· == k)) (fM ns).length
noncomputable def Jl7(X:Cx):List V->Hp->VK->Prop:=fun xs H Q=>∃a ns,xs=[.ref a]/\SqL X.K H a (ns.map V.int)/\ns.length+1<scanBound/\∀l,H l=none->Q (.ref l) (upd H l (Jls X l ns))
noncomputable def JnX(X:Cx):List V->Hp->VK->Prop:=fun xs H Q=>∃r ns,xs=[.ref r]/\H r=some (Jls X r ns)/\ns.length<64/\∀l,H l=none->Q (.ref l) (upd H l (.lst ((JZ (fM ns)).map V.int)))
section
variable{X:Cx}
theorem Inv.drew{pins:List (Addr×Obj)}{σ:List (Option V)}{H:Hp}{s:Shared}{d:Drawn}(I:Inv X pins σ H s):Inv X pins σ H { s with drawn:=d } :=
 ⟨I.ok,I.os,I.bare,I.base,I.loc,I.cell,I.free,I.freeC,I.pin,I.hok,I.len⟩
theorem Jf2(hc:X.calm=true):CallR X (.type "set") (Jl7 X):=by
 intro pins s σ H xs us Q I r h;obtain⟨a,ns,rfl,hq,hb,q⟩:=h;obtain⟨u,rfl,rx⟩:=WO r;cases rx;obtain⟨its,r',pl,hz⟩:=I.list hq;have hh:X.A.handled=none:=I.ok.hd hc;have hi:=Y8 r';have il:its.length=ns.length:=Rh hi;have hne:H s.heap.objs.size=none:=I.hok.fresh (Qn _);refine Jf1 (ns:=ns) hh pl.isList hi (by rw[Qm,il];exact hb) fun h' tk hS old=>?_
 have ez:its.toArray.size=ns.length:=by rw[Qm,il]
 rw[ez] at hS;refine⟨.ref s.heap.objs.size,_,I.laid (t':=tk) (o:=Jls X s.heap.objs.size ns) old (Qn _) ⟨hS,?_,fun h1 h2 p k=>p.move k⟩,rfl,q _ hne⟩;obtain⟨o,_,_,_,z⟩:=hS;exact⟨o,z.got⟩
theorem JdI(hc:X.calm=true):CallR X (.builtin "sorted") (JnX X):=by
 intro pins s σ H xs us Q I r h;obtain⟨p,ns,rfl,ds,h64,q⟩:=h;obtain⟨u,rfl,rx⟩:=WO r;cases rx;have z:=(show ObjOk X.prog X.w H s.heap p (Jls X p ns) from I.hok p _ ds).1;obtain⟨es,ep,t,ks,hs,hf,tok,sz,ri,pm⟩:=JiQ z;have hh:X.A.in1.handled=none:=I.ok.hd hc;have fl:=Jhx ns;have room:∀n:Nat,n<64->n<=sizeLine:=fun n h=>by show n<=16777216;omega
 refine Ml kind_sorted plain_sorted entry_sorted (args_sorted1 _) ?_;unfold Builtin.«sorted»;refine Qa (m:=checkCount "sorted" 1 1 _) (Qd ?_);refine Qa (Jdg hh hs hf tok (room _ (by omega)) fun h' tk dr acc hk hsz pa=>?_);obtain⟨k2,hI,p2⟩:=Jgg pa.symm ri;have pk:=p2.trans pm;have hal:acc.toList.length=(fM ns).length:=by rw[Rh hI,pk.length_eq]
 refine Qa (wpAny_newList ?_ (room _ (by omega)));have hoL:(h'.push (seqObj "list" acc.toList.toArray 0)).get? h'.objs.size=some (seqObj "list" acc.toList.toArray 0):=Qk _ rfl;refine Qa (Gj (QN slot_list_sort ⟨_,hoL,rfl⟩ entry_list_sort (list_sort_tree hoL hI (by omega) fun out ns' a1 a2 a3=>⟨_,rfl,?_⟩) (args_list_sort _)));refine Qd ⟨_,rfl,?_⟩;have e0:ns'=JZ (fM ns):=VV ((a2.trans pk).trans (Jw _).symm) a3 (UE _)
 subst e0;obtain⟨e,he⟩:=sortedHeap_at (out:=out) hoL;have hle:s.heap.objs.size<=h'.objs.size:=GM hsz;have hne:H h'.objs.size=none:=I.hok.fresh hle;have hn:((JZ (fM ns)).map V.int).length<=sizeLine:=by rw[Qo,(Jw _).length_eq];exact room _ (by omega)
 refine⟨.ref h'.objs.size,_,(I.drew (d:=dr)).laid (t':=tk) (fun b o x=>?_) hle (show ObjOk X.prog X.w _ _ _ (.lst ((JZ (fM ns)).map V.int)) from⟨hn,out.toList,e,Ut a1,?_⟩),rfl,q _ hne⟩
 ·have hx:=hk b o x
  have hlt:b<h'.objs.size:=Qj hx;rw[sortedHeap_old (Qr hlt) (by rw[size_push'];exact Gk hlt)];exact Qe _ hx
 ·rw[he]
noncomputable def tUp(te:TE):TE:=fun σ H Q=>∃A:VK,te σ H A/\∀x H1,A x H1->Q x H1
theorem JpF{e:Expr}{te:TE}(h:PE X e te):PE X e (tUp te):=by intro pins s σ H Q I ⟨A,h1,h2⟩;exact thn (h pins s σ H A I h1) fun v s1 ⟨x,H1,I1,r1,a⟩=>⟨x,H1,I1,r1,h2 x H1 a⟩
theorem PE.imp{e:Expr}{t1 t2:TE}(h:PE X e t1)(i:∀σ H Q,t2 σ H Q->t1 σ H Q):PE X e t2:=fun pins s σ H Q I x=>h pins s σ H Q I (i σ H Q x)
end
noncomputable def Ji5(K:Frag)(te:TE):TE:=fun σ H Q=>te σ H fun x H1=>∃a ns,x=.ref a/\SqL K H1 a (ns.map V.int)/\ns.length<64/\∀l o l',H1 l=none->upd H1 l o l'=none->Q (.ref l') (upd (upd H1 l o) l' (.lst ((JZ (fM ns)).map V.int)))
section
variable{X:Cx}{e:Expr}{te:TE}{p1 p2 q1 q2:Pos}
theorem JnJ(hc:X.calm=true)(hg:Gl X "set")(hm:X.mg "set"=none)(he:PE X e te)(h1:starEach [e] X.env=(false,eval e X.env)::starEach [] X.env:=by rfl):PE X (.Call (.Name "set" p1) [e] [] q1) (tCB (Jl7 X) (YE (tUp te) UV)) :=
 VT (Jf2 hc) hg hm (by rfl) (Ja (JpF he) Jc h1) (he:=h1)
theorem Jih{K:Frag}(hK:X.K=K)(hc:X.calm=true)(hg:Gl X "sorted")(hm:X.mg "sorted"=none)(hg2:Gl X "set")(hm2:X.mg "set"=none)(he:PE X e te)(h1:starEach [e] X.env=(false,eval e X.env)::starEach [] X.env:=by rfl)
 (h2:starEach [Expr.Call (.Name "set" p1) [e] [] q1] X.env=(false,eval (.Call (.Name "set" p1) [e] [] q1) X.env)::starEach [] X.env:=by rfl):PE X (.Call (.Name "sorted" p2) [.Call (.Name "set" p1) [e] [] q1] [] q2) (Ji5 K te):=by
 subst hK;refine PE.imp (Jo (JdI hc) hg hm (by rfl) (Ja (JnJ hc hg2 hm2 he h1) Jc h2) (he:=h2)) fun σ H Q h=>⟨_,h,?_⟩
 rintro x H1 ⟨a,ns,rfl,hq,h64,q⟩;exact⟨a,ns,rfl,hq,by show ns.length+1<4096;omega,fun l hl=>⟨l,ns,rfl,Jt,h64,fun l' hl'=>q l _ l' hl hl'⟩⟩
end
end L2

namespace LE
open PySem L2 LR
noncomputable def ZG(a:Ev):Ev:=fun E=>(a E).bind fun s=>s.r.bind fun ds=>(ints? ds).bind fun ns=>if ns.length<64 then some (.own ((JZ (fM ns)).map .int)) else none
section
variable{K:Frag}{C:Addr}{td:TE}{ed:Ev}
theorem JfF(ha:SE K C td ed):SE K C (Ji5 K td) (ZG ed):=by
 intro B H0 H σ E r Q I e q;obtain⟨s,e1,e⟩:=bind_some e;obtain⟨ds,e2,e⟩:=bind_some e;obtain⟨ns,e3,e⟩:=bind_some e;split at e
 ·next h64 =>
  cases e;refine ha B H0 H σ E s _ I e1 fun x H1 H1' s1 r1=>?_
  obtain⟨l,ys,rfl,h,r2⟩:=r1.r s1.i e2;rw[Y9 e3] at r2;have:=r2.ints;subst this;refine⟨l,ns,rfl,h,h64,fun w o l' hw hl'=>?_⟩;have st:Step H1' H1 H1' H1 (upd H1' w o):=⟨.new hw,Same.refl _,fun _ _ e=>.inl e,s1.i.trans (.new hw)⟩
  have s2:=s1.trans st;exact Ud s2.i s2.h hl' (Jc6 _) fun v H2 H2' s3 r3=>q v H2 H2' (s2.comp s3 fun _ y=>y) r3
 ·cases e
end
end LE

namespace L2
open PySem PyProof.Rows PySem.W PySem.Spec
section
variable{X:Cx}
end
end L2
namespace LE
open PySem L2 LR
section
variable{K:Frag}{C:Addr}
end
end LE

namespace L2
open PySem PyProof.Rows PySem.W PySem.Spec
noncomputable def JgW(i j:Int):Prop:=0<j/\j.natAbs<=10 ^ 200
theorem JhX{j:Int}(h:j.natAbs<=10 ^ 200):j.natAbs.log2<9000:=by
 by_cases h0:j.natAbs=0
 ·rw[h0];decide +kernel
 ·have h1:j.natAbs.log2<1000:=by rw[Nat.log2_lt h0];exact GO h (by decide +kernel)
  omega
theorem Jia{X:Cx}:OpR X (binaryOp .FloorDiv) (rI JgW fun i j=>.int (i / j)):=opI fun i j _ _ _ _ _ hc q=>by have h1:(0:Int)<j:=hc.1;exact floordiv_int (by omega) (by rw[K5 i (by omega)];exact q) (.inl (Mx (JhX hc.2)))
end L2
namespace LE
open PySem L2 LR
noncomputable abbrev Jcz:=fIc (fun _ b=>decide (0<b) && Y5 b) fun a b=>.int (a / b)
section
variable{K:Frag}{C:Addr}
theorem Jh5:OpS K C (rI JgW fun i j=>.int (i / j)) Jcz:=Jh4 (fun i j h=>by simp only[Qv,Y5,G4,decide_eq_true_eq] at h;exact h) fun _ _ _=>.int _
end
theorem Jhv{a b:Int}(h:0<b/\b.natAbs<=10 ^ 200):Jcz (.sh (.int a)) (.sh (.int b))=some (.sh (.int (a / b))):=by show(if (decide (0<b) && Y5 b)=true then _ else _)=_;rw[if_pos];rw[Qv];exact⟨decide_eq_true h.1,G4.mpr h.2⟩
end LE

namespace L2
open PySem PyProof.Rows PySem.W PySem.Spec
section
variable{prog:Program}{w:World}{A:Around}{E:Value->Shared->Prop}{s:Shared}
end
section
variable{prog:Program}{w:World}{A:Around}{R:Result->Shared->Prop}{I:Addr}{fp wr:List Addr}{G:Array GenState->Array GenState->Prop}{n:Nat}{P:Nat->Value->Prop}{St:Nat->Shared->Prop}
end
section
variable{prog:Program}{w:World}{A:Around}{E:Value->Shared->Prop}{s:Shared}
end
end L2

namespace L2
open PySem PyProof.Rows PySem.W PySem.Spec
end L2
namespace LE
open PySem L2 LR
noncomputable def prs?:List D->Option (List PrI)
 | []=>some []
 | .tup [.int a,.int b]::r=>(prs? r).map ((a,b)::·)
 | _=>none
theorem Jft:∀ps:List PrI,prs? (ps.map prE)=some ps
 | []=>rfl
 | p::ps=>by show(prs? (ps.map prE)).map _=_;rw[Jft ps];rfl
section
variable{K:Frag}{C:Addr}{td:TE}{ed:Ev}
end
end LE

namespace LE
open PySem L2 LR
noncomputable def ifB(f:Sl->Sl->Option Sl)(d:D)(ew:Ev)(a b:Es):Es:=fun E=>((ew E).bind fun s=>(f (.sh d) s).bind bool?).bind fun k=>if k=true then a E else b E
section
variable{K:Frag}{C:Addr}{r:R2}{f:Sl->Sl->Option Sl}{j:Nat}{ty tx tw:TE}{ek ev ew:Ev}{t u:TS}{et eu:Es}
end
end LE

namespace LE
open PySem L2 LR
section
variable{K:Frag}{C:Addr}{Hs H0 H:Hp}{td tx:TE}{ed ex:Ev}
end
end LE

namespace L2
open PySem PySem.Spec PyProof.Rows
noncomputable def Jpg:TIp:=fun x y H Q=>∃i j,x=.int i/\y=.int j/\JoN i j/\Q (.int (i*j)) H
theorem Jkf{X:Cx}:PIp X .Mult Jpg:=by intro pins s σ H x y v u Q I r1 r2 h;obtain⟨i,j,e1,e2,hc,q⟩:=h;subst e1;subst e2;obtain⟨t,rfl⟩:=r1;obtain⟨t',rfl⟩:=r2;exact imul_int ⟨.int _,H,I.tok _,⟨_,rfl⟩,q⟩ (IntMulOk.of_bits (Jex hc.1) (Jex hc.2))
end L2
namespace LE
open PySem L2 LR
noncomputable def Jdr(i:Nat)(a:Ev):Es:=fun E=>match E[i]? with
 | some (.sh (.int x))=>(a E).bind fun s=>match s with
  | .sh (.int y)=>if (Y5 x && Y5 y)=true then some (.nx (E.set i (.sh (.int (x*y))))) else none
  | _=>none
 | _=>none
section
variable{K:Frag}{C:Addr}{te:TE}{ea:Ev}
theorem Jjh{i:Nat}(ha:SE K C te ea):SS K C (JlA i te Jpg) (Jdr i ea):=by
 intro B H0 H σ E o D I e f;unfold Jdr at e;split at e
 ·next x h =>
  obtain⟨s,e1,e⟩:=bind_some e;split at e
  ·split at e
   ·next hb =>
    cases e;simp only[Qv,Y5,G4] at hb;rcases I.at' i _ h with z|⟨v,h1,h2⟩
    ·cases z
    ·have hi:i<E.length:=(Qg.mp h).1;refine⟨v,h1,ha B H0 H σ E _ _ I e1 fun w H1 H1' s1 r1=>⟨_,_,RD.intI h2,RD.intI r1,hb,f _ _ _ (s1.ss I.b) ((I.step s1).setSh hi (.int _))⟩⟩
   ·cases e
  ·cases e
 ·cases e
end
theorem JkB{x y:Int}{α:Type}{r:α}(h:x.natAbs<=10 ^ 200/\y.natAbs<=10 ^ 200):(if (Y5 x && Y5 y)=true then some r else none)=some r:=by rw[if_pos];simp only[Qv,Y5,G4];exact h
end LE

namespace LE
open PySem L2 LR
end LE

namespace L2
open PySem PySem.Spec PyProof.Rows
section
variable{X:Cx}{pos:Pos}
theorem pgN(i:Nat){x:Str}(hN:X.N.Nodup)(hi:X.N[i]?=some x:=by rfl)(hx:Loc X.env.scope x:=by exact Or.inl rfl)(hf:X.fn x=true\/X.env.scope.names.lookup x=some .local:=by exact Or.inr rfl):PG X (.Name x pos) (Vv i):=JF hN hi hx hf
theorem psN(i:Nat){x:Str}{e:Expr}{te:TE}{pos':Pos}(hN:X.N.Nodup)(he:PE X e te)(hi:X.N[i]?=some x:=by rfl)(hx:Loc X.env.scope x:=by exact Or.inl rfl)(hs:swapsWith e (some (.Name x pos')) pos.line X.env=pure false:=by rfl)(hf:X.fn x=true\/X.env.scope.names.lookup x=some .local:=by first|exact .inl rfl|exact .inr rfl|assumption):PS X (.Assign [.Name x pos'] e pos) (Jb3 te (Vv i)):=Jai hN hi hx he hs hf
theorem pxK(K:Frag){a b:Expr}{ta tb:TE}(ha:PE X a ta)(hb:PE X b tb)(hK:X.K=K:=by rfl)(hs:Jet b:=by exact fun _ _=>rfl):PE X (.Subscript a b pos) (tOp (rIx K) ta tb):=JpE (Jki hK) ha hb hs
theorem piK(K:Frag){tg l:Expr}{tl:TE}(hl:PE X l tl)(hK:X.K=K:=by rfl):PI X tg l (JdS K tl):=JkS hK hl
theorem hrM{j k:Nat}{A:Around}(r:Room k A)(h:j<=k:=by decide):Room j A:=r.mono h
end
end L2
namespace LE
open PySem PyProof.Rows L2 LR
structure PB (P:Program) (w:World) (base:Heap):Prop where
section
variable{P:Program}{w:World}{K:Frag}{mg:Str->Option Value}{base:Heap}{x y q:Str}{st:Stmt}{f:Addr}{fd:FuncData}{k:Nat}{ps:List Str}{sp:Sp}
theorem Yg(Z:PB P w base)(F:Fun K x q st f fd)(o:FnOk P w K mg base CX0 k f fd ps sp)(m:mg y=some (.ref f))
 (h:∀(kV doc pm:Value) (an:Option Addr) (cdv ct:Value) (us:List Value),us.length=ps.length->bindArgs (fnOf x q (Up st) (YF st) (Jj st) .none kV doc pm an cdv ct) ⟨us,[]⟩=pure (ps.zip us)):Cal P w K mg base y k ps sp:=⟨f,fd,o,m,F.kp,F.binds h⟩
theorem VN(Z:PB P w base)(F:Fun K x q st f fd)(o:FnOk P w K mg base (CX1 P w) k f fd ps sp)(m:mg y=some (.ref f))
 (h:∀(kV doc pm:Value) (an:Option Addr) (cdv ct:Value) (us:List Value),us.length=ps.length->bindArgs (fnOf x q (Up st) (YF st) (Jj st) .none kV doc pm an cdv ct) ⟨us,[]⟩=pure (ps.zip us)):CalX P w K mg base y k ps sp:=⟨f,fd,o,m,F.kp,F.binds h⟩
theorem JjA(Z:PB P w base)(F:Fun K x q st f fd)(o:FnH P w K mg base k f fd ps sp)(m:mg y=some (.ref f))
 (h:∀(kV doc pm:Value) (an:Option Addr) (cdv ct:Value) (us:List Value),us.length=ps.length->bindArgs (fnOf x q (Up st) (YF st) (Jj st) .none kV doc pm an cdv ct) ⟨us,[]⟩=pure (ps.zip us)):CalH P w K mg base y k ps sp:=⟨f,fd,o,m,F.kp,F.binds h⟩
end
section
variable{P:Program}{w:World}{K:Frag}{C:Addr}{mg:Str->Option Value}{base:Heap}{x qual:Str}{st:Stmt}{f:Addr}{fd:FuncData}{N ps:List Str}{k n:Nat}{b:Es}
theorem okE(F:Fun K x qual st f fd)(S:FnScope N ps (Jj st))(hn:n=ps.length)
 (hb:∀(cdv:Value) (A:Around) (outer:List Env) (s:Shared) (H:Hp) (E:XK),Room k (A.deeper (envOfC qual (Jj st) s.heap.objs.size f cdv))->(A.deeper (envOfC qual (Jj st) s.heap.objs.size f cdv)).units+64<cLine ->
  ∃t,PSs (Zh CX0 P w K mg base N qual (Jj st) f cdv A outer s H E).nox (YF st) t/\SS K C t b):FnOk P w K mg base CX0 (k+1) f fd ps (spE K C n (YM N.length b)) :=
 F.ok S (fun vs H Q E h=>(JfJ h).trans hn) fun cdv A outer s H vs Q E hr h=>(hb cdv A outer s H E hr hr.units).elim fun t q=>⟨t,q.1,Jby q.2 h⟩
end
end LE

namespace L2
open PySem PySem.Spec PyProof.Rows
noncomputable def Jpf:TIp:=fun x y H Q=>∃i j,x=.int i/\y=.int j/\JgW i j/\Q (.int (i / j)) H
theorem Jke{X:Cx}:PIp X .FloorDiv Jpf:=by intro pins s σ H x y v u Q I r1 r2 h;obtain⟨i,j,e1,e2,hc,q⟩:=h;subst e1;subst e2;obtain⟨t,rfl⟩:=r1;obtain⟨t',rfl⟩:=r2;have h1:(0:Int)<j:=hc.1;exact ifloordiv_int (by omega) (by rw[K5 i (by omega)];exact⟨.int _,H,I.tok _,⟨_,rfl⟩,q⟩) (.inl (Mx (JhX hc.2)))
end L2
namespace LE
open PySem L2 LR
noncomputable def Jbi(i:Nat)(a:Ev):Es:=fun E=>match E[i]? with
 | some (.sh (.int x))=>(a E).bind fun s=>match s with
  | .sh (.int y)=>if (decide (0<y) && Y5 y)=true then some (.nx (E.set i (.sh (.int (x / y))))) else none
  | _=>none
 | _=>none
section
variable{K:Frag}{C:Addr}{te:TE}{ea:Ev}
theorem Jjf{i:Nat}(ha:SE K C te ea):SS K C (JlA i te Jpf) (Jbi i ea):=by
 intro B H0 H σ E o D I e f;unfold Jbi at e;split at e
 ·next x h =>
  obtain⟨s,e1,e⟩:=bind_some e;split at e
  ·split at e
   ·next hb =>
    cases e;simp only[Qv,Y5,G4,decide_eq_true_eq] at hb;rcases I.at' i _ h with z|⟨v,h1,h2⟩
    ·cases z
    ·have hi:i<E.length:=(Qg.mp h).1;refine⟨v,h1,ha B H0 H σ E _ _ I e1 fun w H1 H1' s1 r1=>⟨_,_,RD.intI h2,RD.intI r1,hb,f _ _ _ (s1.ss I.b) ((I.step s1).setSh hi (.int _))⟩⟩
   ·cases e
  ·cases e
 ·cases e
theorem JfV{W:XK}{t:TA}{ex:Xv}(h:SXA K C W t ex):SXI K C W (iZp K t) ex:=fun B H0 H σ E m R I e q=>h B H0 H σ E m _ I e q
end
theorem JjE{y:Int}{α:Type}{r:α}(h:0<y/\y.natAbs<=10 ^ 200):(if (decide (0<y) && Y5 y)=true then some r else none)=some r:=by rw[if_pos];simp only[Qv,Y5,G4,decide_eq_true_eq];exact h
end LE

end
open L2 LR
local macro_rules | `(tactic| walk_at "side")=>`(tactic| first | decide | exact⟨by decide,by decide,by decide⟩ | exact⟨by decide,by decide⟩ | (show(0:Int)<_;omega) | (show(0:Int)<_/\_<(1073741824:Int);omega) | exact Or.inl ⟨by omega,by omega⟩ | exact Or.inr ⟨by omega,by omega⟩ | assumption)
local macro_rules | `(tactic| walk_at "rd1")=>`(tactic| with_reducible first | refine Joj ?_ | refine Jn0 ?_ | refine Jn5 ?_ | refine Joh ?_ | refine Jk4 ?_ | refine Jla ?_ | refine JpU ?_ | refine JpX ?_ | refine Jle ?_ | refine JpW ?_ | refine Jlf ?_ | refine JnZ ?_ | refine JpV ?_ | refine Jof ?_ | refine Jlc ?_ | refine Jk2 ?_ | refine Jog ?_ | refine Jn4 ?_ | refine Jk3 ?_ | refine Joe ?_ | refine JpR ?_ | refine Zt ?_ | refine LR.JfB ?_ | refine Jok ?_ | refine Job ?_ | refine JpT ?_ | refine JiF ?_ | refine Jk6 ?_ | refine JiE ?_ | refine Jk5 ?_ | refine Jn3 ?_ | refine Jld ?_ | refine JiD ?_ | refine Jom ?_ | refine JqB ?_ | refine JpS ?_ | refine JqD ?_ | refine Jk1 ?_ | refine Jn1 ?_ | refine Joc ?_ | refine Jn2 ?_ | refine Jod ?_ | refine Jn6 ?_ | refine Jlb ?_ | refine JiG ?_ | refine JiH ?_ | refine Exists.intro _ (And.intro (LR.JoE _ _ _) ?_))
local macro_rules | `(tactic| walk_at "rd2")=>`(tactic| first | ((with_reducible refine JqC ?hc ?_);(case hc=>walk_at "side")) | ((with_reducible refine Jol (v:=?vv) ?hx ?_);(case hx=>exact rfl)) | (with_reducible refine Exists.intro _ (And.intro (Eq.refl (V.bl _)) ?_)))
local macro_rules | `(tactic| walk_at "rd")=>`(tactic| repeat (first | walk_at "rd1" | walk_at "rd2"))
noncomputable section
namespace LK
open PySem L2 LR LE
noncomputable def Uj:List Sl->Option Sl:=YM 2 (JY (eIf (tB? (e2 fIs (Jb 1) (eC .non))) (Jb 0) (eF JaB (aC (Jb 0) (aC (Jb 1) a0)))))
noncomputable def JM:List Sl->Option Sl:=YM 2 (xIf (tB? (e2 fGt (eF V6 (aC (YL (iE true (Jb 0)) (.tp (.cons (.nm 0) (.cons (.nm 1) .nil))) yes? (Jb 1) [none,none]) a0)) (Jb 1))) Ya Jy)
noncomputable def Yd:List Sl->Option Str:=YX 2 (Vu (tB? (e2 fGt (eF V6 (aC (YL (iE true (Jb 0)) (.tp (.cons (.nm 0) (.cons (.nm 1) .nil))) yes? (Jb 1) [none,none]) a0)) (Jb 1))) (YZ "TooMany" (aC (eC (.str "so many lumps are too many in all")) a0)) Yw)
noncomputable def JJ:List Sl->Option Sl:=YM 4 (Jl (Jn 1 (eC (.int 0)))
 (UW (iV 0) (.tp (.cons (.nm 2) (.cons (.nm 3) .nil))) (Jl (xIf (tB? (e2 fLe (Jb 2) (Jb 1))) Ya Jy)
 (Jl (xIf (tB? (e2 fLt (Jb 3) (eC (.int 1)))) Ya Jy)
 (Jn 1 (Jb 2))))))
noncomputable def Yl:List Sl->Option Str:=YX 4 (J5 (Jn 1 (eC (.int 0)))
 Yw (JeR (iV 0) (.tp (.cons (.nm 2) (.cons (.nm 3) .nil))) (Jl (xIf (tB? (e2 fLe (Jb 2) (Jb 1))) Ya Jy)
 (Jl (xIf (tB? (e2 fLt (Jb 3) (eC (.int 1)))) Ya Jy)
 (Jn 1 (Jb 2)))) (J5 (xIf (tB? (e2 fLe (Jb 2) (Jb 1))) Ya Jy)
 (Vu (tB? (e2 fLe (Jb 2) (Jb 1))) (YZ "BadTable" (aC (eC (.str "sizes of lumps are from 1 on, ascending, each of them once")) a0)) Yw) (J5 (xIf (tB? (e2 fLt (Jb 3) (eC (.int 1)))) Ya Jy)
 (Vu (tB? (e2 fLt (Jb 3) (eC (.int 1)))) (YZ "BadTable" (aC (eC (.str "numbers of lumps are from 1 on")) a0)) Yw) Yw))))
noncomputable def Yy:List Sl->Option Sl:=YM 1 (xIf (tAnd? (tB? (e2 WT (Jb 0) (eC .non))) (tB? (e2 fLt (Jb 0) (eC (.int 1))))) Ya Jy)
noncomputable def YA:List Sl->Option Sl:=YM 2 (Jl (Vn (eU 1 Yy (aC (Jb 1) a0)))
 (Jl (Vn (eU 1 JJ (aC (Jb 0) a0)))
 (Jl (Vn (eU 2 JM (aC (Jb 0) (aC (eC (.int 30)) a0))))
 (JY (eF V6 (aC (YL (iE true (Jb 0)) (.tp (.cons (.nm 0) (.cons (.nm 1) .nil))) yes? (e2 UA (Jb 1) (eU 2 Uj (aC (Jb 0) (aC (Jb 2) a0)))) [none,none,some 1]) a0))))))
noncomputable def JE:List Sl->Option Sl:=YM 2 (Jl (Vn (eU 1 JJ (aC (Jb 1) a0)))
 (Jl (Vn (eU 2 JM (aC (Jb 1) (aC (eC (.int 12)) a0))))
 (JY (YL (iE true (Jb 1)) (.tp (.cons (.nm 0) (.cons (.nm 1) .nil))) yes? (Y7 (aC (Jb 0) (aC (e2 Y0 (Jb 2) (e2 UA (eC (.int 2)) (eU 2 YA (aC (Jb 3) (aC (Jb 0) a0))))) a0))) [none,none,some 0,some 1]))))
noncomputable def Ym:List Sl->Option Str:=YX 2 (J5 (Vn (eU 1 JJ (aC (Jb 1) a0)))
 (exU 1 Yl (aC (Jb 1) a0)) (J5 (Vn (eU 2 JM (aC (Jb 1) (aC (eC (.int 12)) a0))))
 (exU 2 Yd (aC (Jb 1) (aC (eC (.int 12)) a0))) Yw))
noncomputable def YY:List Sl->Option Sl:=YM 2 (JY (YL (Je5 true (aC (e1 JdP (Jb 0)) a0)) (.tp (.cons (.nm 0) (.cons (.nm 1) .nil))) yes? (Y7 (aC (e2 JQ (e2 fIx (Jb 1) (eC (.int 0))) (e2 UA (e2 UA (eC (.int 2)) (Jb 2)) (Jb 0))) (aC (e2 JQ (e2 fIx (Jb 1) (eC (.int 1))) (Jb 2)) a0))) [none,none,some 1]))
noncomputable def YH:List Sl->Option Sl:=YM 2 (JY (eF JdQ (aC (eU 2 YY (aC (Jb 0) (aC (Jb 1) a0))) a0)))
noncomputable def Yx:List Sl->Option Sl:=YM 2 (JY (eF V6 (aC (YL (iE true (e1 JdP (Jb 0))) (.tp (.cons (.nm 0) (.cons (.nm 1) .nil))) yes? (eF Jj4 (aC (eC (.int 0)) (aC (eF JaB (aC (Jb 1) (aC (e2 Y0 (Jb 2) (Jb 0)) a0))) a0))) [none,none,some 1]) a0)))
noncomputable def Ui:List Sl->Option Sl:=YM 8 (Jl (Zm 2 (Y6 a0))
 (Jl (Jn 3 (eC (.int 0)))
 (Jl (UW (Je5 false (aC (Jb 1) a0)) (.tp (.cons (.nm 4) (.cons (.nm 5) .nil))) (Jl (Jn 6 (eU 2 Yx (aC (Jb 0) (aC (Jb 5) a0))))
 (Jl (Jn 7 (e2 Y0 (Jb 6) (Jb 3)))
 (Jl (Jb6 2 (Y7 (aC (e2 Y0 (e2 JQ (Jb 5) (e2 UA (eC (.int 2)) (Jb 4))) (Jb 7)) (aC (e2 JQ (Jb 7) (eC (.int 1))) a0))))
 (Jn 3 (Jb 6))))))
 (VJ 2))))
noncomputable def Uw:List Sl->Option Sl:=YM 5 (Jl (xIf (tB? (e2 fGt (e2 JQ (eF UJ (aC (e1 JdP (Jb 0)) a0)) (eF V6 (aC (YL (iE true (Jb 1)) (.tp (.cons (.nm 0) (.cons (.nm 1) .nil))) yes? (Jb 1) [none,none]) a0))) (eC (.int 30)))) Ya Jy)
 (Jl (Zm 2 (YL (iE true (e1 JdP (Jb 0))) (.tp (.cons (.nm 0) (.cons (.nm 1) .nil))) yes? (e2 JQ (Jb 0) (Jb 1)) [none,none]))
 (Jl (UW (iV 1) (.tp (.cons (.nm 3) (.cons (.nm 4) .nil))) (Jeo 2 (e2 Jj9 (Y6 (aC (Jb 3) a0)) (Jb 4))))
 (JY (eF JdQ (aC (eU 2 Ui (aC (Jb 0) (aC (eF Zp (aC (Jb 2) a0)) a0))) a0))))))
noncomputable def Yz:List Sl->Option Sl:=YM 5 (Jl (Jn 1 (eC .non))
 (Jl (UW (iV 0) (.tp (.cons (.nm 2) (.cons (.nm 3) (.cons (.nm 4) .nil)))) (Jl (xIf (tOr? (tB? (e2 fLt (Jb 2) (eC (.int 1)))) (tB? (e2 fLt (Jb 4) (eC (.int 1))))) Ya Jy)
 (Jl (xIf (tAnd? (tB? (e2 WT (Jb 1) (eC .non))) (tB? (e2 Jhw (Y7 (aC (Jb 2) (aC (Jb 3) a0))) (Jb 1)))) Ya Jy)
 (Jn 1 (Y7 (aC (Jb 2) (aC (Jb 3) a0)))))))
 (xIf (tB? (e2 fGt (eF V6 (aC (YL (iE true (Jb 0)) (.tp (.cons (.nm 0) (.cons (.nm 1) (.cons (.nm 2) .nil)))) yes? (Jb 2) [none,none,none]) a0)) (eC (.int 30)))) Ya Jy)))
noncomputable def UZ:List Sl->Option Sl:=YM 8 (Jl (Vn (eU 1 Yz (aC (Jb 0) a0)))
 (Jl (Zm 1 JeO)
 (Jl (JlJ (iV 0) (.tp (.cons (.nm 2) (.cons (.nm 3) (.cons (.nm 4) .nil)))) 1 (Jb 2) (Y7 (aC (Jb 3) (aC (Jb 4) a0))))
 (Jl (Jn 5 (JdK (Jb 1)))
 (Jl (Jn 6 (eF JdQ (aC (Y6 a0) a0)))
 (Jl (UW (JmU false (aC (Jho (aC (e2 JQ (Y6 (aC (eC (.int 0)) a0)) (Jb 5)) (aC (Jb 5) a0))) a0)) (.tp (.cons (.nm 7) (.cons (.nm 2) .nil))) (Jn 6 (eU 2 YH (aC (eU 2 Uw (aC (Jb 6) (aC (Jhn (Jb 1) (Jb 2)) a0))) (aC (e2 Y0 (e2 Y0 (Jb 2) (Jb 7)) (eC (.int 1))) a0)))))
 (VJ 6)))))))
noncomputable def Uy:List Sl->Option Sl:=YM 4 (Jl (xIf (tB? (e2 fLt (Jb 1) (eC (.int 0)))) (JY (eC (.int 0))) Jy)
 (Jl (Jn 2 (eC (.int 1)))
 (Jl (UW (iR1 (aC (Jb 1) a0)) (.nm 3) (Jn 2 (e2 Vc (e2 UA (Jb 2) (e2 Y0 (Jb 0) (Jb 3))) (e2 JQ (Jb 3) (eC (.int 1))))))
 (VJ 2))))
noncomputable def Js:List Sl->Option Sl:=YM 2 (JY (eIf (tB? (e2 fLt (Jb 0) (eC (.int 0)))) (eC (.int 0)) (eU 2 Uy (aC (e2 JQ (Jb 0) (Jb 1)) (aC (Jb 1) a0)))))
noncomputable def Ys:List Sl->Option Sl:=YM 6 (Jl (Jn 3 (eC (.int 0)))
 (Jl (Jn 4 (Jb 0))
 (Jl (Ul (tB? (e2 fLt (Jb 3) (Jb 4))) (Jl (Jn 5 (e2 Vc (e2 JQ (Jb 3) (Jb 4)) (eC (.int 2))))
 (xIf (tB? (e2 fLt (eU 2 Js (aC (Jb 5) (aC (Jb 1) a0))) (Jb 2))) (Jn 3 (e2 JQ (Jb 5) (eC (.int 1)))) (Jn 4 (Jb 5)))) 1000000)
 (VJ 3))))
noncomputable def JO:List Sl->Option Sl:=YM 7 (Jl (Zm 3 (Y6 a0))
 (Jl (Jn 4 (e2 Y0 (eU 2 Js (aC (Jb 0) (aC (Jb 1) a0))) (Jb 2)))
 (Jl (UW (iR3 (aC (Jb 1) (aC (eC (.int 0)) (aC (e1 JcA (eC (.int 1))) a0)))) (.nm 5) (Jl (Jn 6 (eU 3 Ys (aC (Jb 0) (aC (Jb 5) (aC (Jb 4) a0)))))
 (Jl (Jje (fun i j=>i-j) 4 (eU 2 Js (aC (e2 Y0 (Jb 6) (eC (.int 1))) (aC (Jb 5) a0))))
 (Jb6 3 (e2 Y0 (Jb 0) (Jb 6))))))
 (VJ 3))))
noncomputable def JU:List Sl->Option Sl:=YM 5 (Jl (Jn 2 (eC (.int 1)))
 (Jl (UW (Jgf false (aC (eU 2 JE (aC (Jb 0) (aC (Jb 1) a0))) (aC (Jb 1) a0))) (.tp (.cons (.nm 3) (.cons (.nm 4) .nil))) (Jdr 2 (eU 2 Js (aC (e2 fIx (Jb 3) (eC (.int 1))) (aC (e2 fIx (Jb 4) (eC (.int 1))) a0)))))
 (VJ 2)))
noncomputable def Ye:List Sl->Option Str:=YX 5 (J5 (Jn 2 (eC (.int 1)))
 Yw (J5 (UW (Jgf false (aC (eU 2 JE (aC (Jb 0) (aC (Jb 1) a0))) (aC (Jb 1) a0))) (.tp (.cons (.nm 3) (.cons (.nm 4) .nil))) (Jdr 2 (eU 2 Js (aC (e2 fIx (Jb 3) (eC (.int 1))) (aC (e2 fIx (Jb 4) (eC (.int 1))) a0)))))
 (exC (eU 2 JE (aC (Jb 0) (aC (Jb 1) a0))) (exU 2 Ym (aC (Jb 0) (aC (Jb 1) a0))) Yw) Yw))
noncomputable def Yc:List Sl->Option Sl:=YM 9 (Jl (Jn 3 (eU 2 JU (aC (Jb 0) (aC (Jb 1) a0))))
 (Jl (xIf (tNot? (tB? (ZE fLe fLt (eC (.int 0)) (Jb 2) (Jb 3)))) Ya Jy)
 (Jl (Zm 4 (Y6 a0))
 (Jl (Jn 5 (Jb 2))
 (Jl (UW (Jgf false (aC (eU 2 JE (aC (Jb 0) (aC (Jb 1) a0))) (aC (Jb 1) a0))) (.tp (.cons (.nm 6) (.cons (.nm 7) .nil))) (Jl (Jbi 3 (eU 2 Js (aC (e2 fIx (Jb 6) (eC (.int 1))) (aC (e2 fIx (Jb 7) (eC (.int 1))) a0))))
 (Jl (Jn 8 (eU 3 JO (aC (e2 fIx (Jb 6) (eC (.int 1))) (aC (e2 fIx (Jb 7) (eC (.int 1))) (aC (e2 Jcz (Jb 5) (Jb 3)) a0)))))
 (Jl (Jn 5 (e2 Yp (Jb 5) (Jb 3)))
 (Jeo 4 (YL (iE true (ZG (Jb 8))) (.nm 0) yes? (Y7 (aC (e2 fIx (Jb 1) (eC (.int 0))) (aC (Jb 0) (aC (eMI JaW (Jb 2) (Jb 0)) a0)))) [none,some 7,some 8]))))))
 (JY (eU 1 UZ (aC (Jb 4) a0))))))))
noncomputable def YB:List Sl->Option Str:=YX 9 (J5 (Jn 3 (eU 2 JU (aC (Jb 0) (aC (Jb 1) a0))))
 (exU 2 Ye (aC (Jb 0) (aC (Jb 1) a0))) (J5 (xIf (tNot? (tB? (ZE fLe fLt (eC (.int 0)) (Jb 2) (Jb 3)))) Ya Jy)
 (Vu (tNot? (tB? (ZE fLe fLt (eC (.int 0)) (Jb 2) (Jb 3)))) (YZ "NoRow" (aC (eC (.str "the boxes hold no row of this number")) a0)) Yw) (J5 (Zm 4 (Y6 a0))
 Yw (J5 (Jn 5 (Jb 2))
 Yw (J5 (UW (Jgf false (aC (eU 2 JE (aC (Jb 0) (aC (Jb 1) a0))) (aC (Jb 1) a0))) (.tp (.cons (.nm 6) (.cons (.nm 7) .nil))) (Jl (Jbi 3 (eU 2 Js (aC (e2 fIx (Jb 6) (eC (.int 1))) (aC (e2 fIx (Jb 7) (eC (.int 1))) a0))))
 (Jl (Jn 8 (eU 3 JO (aC (e2 fIx (Jb 6) (eC (.int 1))) (aC (e2 fIx (Jb 7) (eC (.int 1))) (aC (e2 Jcz (Jb 5) (Jb 3)) a0)))))
 (Jl (Jn 5 (e2 Yp (Jb 5) (Jb 3)))
 (Jeo 4 (YL (iE true (ZG (Jb 8))) (.nm 0) yes? (Y7 (aC (e2 fIx (Jb 1) (eC (.int 0))) (aC (Jb 0) (aC (eMI JaW (Jb 2) (Jb 0)) a0)))) [none,some 7,some 8]))))))
 (exC (eU 2 JE (aC (Jb 0) (aC (Jb 1) a0))) (exU 2 Ym (aC (Jb 0) (aC (Jb 1) a0))) Yw) Yw)))))
noncomputable def JH:List Sl->Option Sl:=YM 4 (Jl (xIf (tB? (e2 fEq (Jb 0) (eC (.int 0)))) (JY (eU 2 JE (aC (Jb 1) (aC (Jb 2) a0)))) Jy)
 (Jl (xIf (tB? (e2 fEq (Jb 0) (eC (.int 1)))) (JY (eU 2 JU (aC (Jb 1) (aC (Jb 2) a0)))) Jy)
 (JY (eU 3 Yc (aC (Jb 1) (aC (Jb 2) (aC (Jb 3) a0)))))))
noncomputable def J1:List Sl->Option Str:=YX 4 (J5 (xIf (tB? (e2 fEq (Jb 0) (eC (.int 0)))) (JY (eU 2 JE (aC (Jb 1) (aC (Jb 2) a0)))) Jy)
 (Vu (tB? (e2 fEq (Jb 0) (eC (.int 0)))) (exU 2 Ym (aC (Jb 1) (aC (Jb 2) a0))) Yw) (J5 (xIf (tB? (e2 fEq (Jb 0) (eC (.int 1)))) (JY (eU 2 JU (aC (Jb 1) (aC (Jb 2) a0)))) Jy)
 (Vu (tB? (e2 fEq (Jb 0) (eC (.int 1)))) (exU 2 Ye (aC (Jb 1) (aC (Jb 2) a0))) Yw) (exU 3 YB (aC (Jb 1) (aC (Jb 2) (aC (Jb 3) a0))))))
noncomputable def Vb:List Sl->Option Sl:=YM 2 (Jl (Jn 1 (Y6 (aC (WR ["BadTable","NoRow","TooMany"] "BadRow" (Jb 0)) (aC (WR ["BadTable","NoRow","TooMany"] "TooMany" (Jb 0)) (aC (WR ["BadTable","NoRow","TooMany"] "BadText" (Jb 0)) (aC (WR ["BadTable","NoRow","TooMany"] "BadSeats" (Jb 0)) a0))))))
 (Jl (Jn 1 (e2 JQ (Jb 1) (Y6 (aC (WR ["BadTable","NoRow","TooMany"] "BadTable" (Jb 0)) (aC (WR ["BadTable","NoRow","TooMany"] "BadDeed" (Jb 0)) (aC (WR ["BadTable","NoRow","TooMany"] "Unlike" (Jb 0)) (aC (WR ["BadTable","NoRow","TooMany"] "NoRow" (Jb 0)) a0)))))))
 (JY (JjF (e2 fEq (eMB JmH (Jb 1) (eC (.bl true))) (eC (.int 1))) (JjF (WR ["BadTable","NoRow","TooMany"] "LumpError" (Jb 0)) (Jo5 ["BadTable","NoRow","TooMany"] (Jb 0)))))))
noncomputable def JV:List Sl->Option Sl:=YM 7 (Jl (Jn 4 (eC (.str "told")))
 (Jl (Jep ["BadTable","NoRow","TooMany"] 5 (Vn (eU 4 JH (aC (Jb 0) (aC (Jb 1) (aC (Jb 2) (aC (Jb 3) a0)))))) (exU 4 J1 (aC (Jb 0) (aC (Jb 1) (aC (Jb 2) (aC (Jb 3) a0))))) (Jl (Jn 6 (Y6 (aC (WR ["BadTable","NoRow","TooMany"] "BadTable" (Jb 5)) (aC (WR ["BadTable","NoRow","TooMany"] "TooMany" (Jb 5)) (aC (WR ["BadTable","NoRow","TooMany"] "NoRow" (Jb 5)) a0)))))
 (Jl (Jn 4 (eC (.str "other")))
 (xIf (tAnd? (tB? (e2 fEq (eMB JmH (Jb 6) (eC (.bl true))) (eC (.int 1)))) (tTru? (eU 1 Vb (aC (Jb 5) a0)))) (Jn 4 (e2 fIx (Y6 (aC (eC (.str "table")) (aC (eC (.str "many")) (aC (eC (.str "told")) a0)))) (eMB JmI (Jb 6) (eC (.bl true))))) Jy))))
 (VJ 4)))
noncomputable def YR:List Sl->Option Sl:=YM 2 (Jl (UW (iR1 (aC (eF UJ (aC (Jb 0) a0)) a0)) (.nm 1) (xIf (tOr? (tB? (e2 fLt (e2 fIx (e2 fIx (Jb 0) (Jb 1)) (eC (.int 0))) (eC (.int 1)))) (tOr? (tB? (e2 fLt (e2 fIx (e2 fIx (Jb 0) (Jb 1)) (eC (.int 1))) (eC (.int 1)))) (tAnd? (tB? (e2 fGt (Jb 1) (eC (.int 0)))) (tB? (e2 fLe (e2 fIx (e2 fIx (Jb 0) (Jb 1)) (eC (.int 0))) (e2 fIx (e2 fIx (Jb 0) (e2 Y0 (Jb 1) (eC (.int 1)))) (eC (.int 0)))))))) (JY (eC (.str "table"))) Jy))
 (Jl (xIf (tB? (e2 fGt (eF V6 (aC (YL (iE true (Jb 0)) (.tp (.cons (.nm 0) (.cons (.nm 1) .nil))) yes? (Jb 1) [none,none]) a0)) (eC (.int 12)))) (JY (eC (.str "many"))) Jy)
 (JY (eC (.str "told")))))
noncomputable def JG:List Sl->Option Sl:=YM 8 (Jl (xIf (tB? (e2 fEq (Jb 0) (Y6 a0))) (VJ 0) Jy)
 (Jl (Jn 3 (e2 Yp (Jb 2) (eF UJ (aC (Jb 0) a0))))
 (Jl (JoH (.tp (.cons (.nm 4) (.cons (.nm 5) .nil))) (e2 fIx (Jb 0) (Jb 3)))
 (Jl (Jn 6 (e2 Yp (e2 Vc (Jb 2) (eC (.int 9))) (e2 UK (eC (.int 10)) (eC (.int 30)))))
 (Jl (xIf (tB? (e2 fEq (Jb 1) (eC (.int 0)))) (JY (e2 JQ (e2 JQ (eSl (Jb 0) none (some (Jb 3))) (Y6 (aC (Y7 (aC (e2 Y0 (eC (.int 0)) (Jb 6)) (aC (Jb 5) a0))) a0))) (eSl (Jb 0) (some (e2 JQ (Jb 3) (eC (.int 1)))) none))) Jy)
 (Jl (xIf (tB? (e2 fEq (Jb 1) (eC (.int 1)))) (JY (e2 JQ (e2 JQ (eSl (Jb 0) none (some (Jb 3))) (Y6 (aC (Y7 (aC (Jb 4) (aC (e2 Y0 (eC (.int 0)) (Jb 6)) a0))) a0))) (eSl (Jb 0) (some (e2 JQ (Jb 3) (eC (.int 1)))) none))) Jy)
 (Jl (xIf (tB? (e2 fEq (Jb 1) (eC (.int 2)))) (JY (e2 JQ (e2 JQ (eSl (Jb 0) none (some (Jb 3))) (Y6 (aC (Y7 (aC (Jb 4) (aC (Jb 5) a0))) a0))) (eSl (Jb 0) (some (Jb 3)) none))) Jy)
 (Jl (xIf (tB? (e2 fEq (Jb 1) (eC (.int 3)))) (JY (e2 JQ (eSl (Jb 0) (some (Jb 3)) none) (eSl (Jb 0) none (some (Jb 3))))) Jy)
 (Jl (Jn 7 (e2 Y0 (eF V6 (aC (YL (iE true (Jb 0)) (.nm 0) yes? (e2 fIx (Jb 0) (eC (.int 1))) [none]) a0)) (Jb 5)))
 (JY (e2 JQ (e2 JQ (eSl (Jb 0) none (some (Jb 3))) (Y6 (aC (Y7 (aC (Jb 4) (aC (e2 JQ (e2 Y0 (eC (.int 12)) (Jb 7)) (e2 fIx (Y6 (aC (eC (.int 0)) (aC (eC (.int 1)) (aC (e2 JQ (eC (.int 1)) (Jb 6)) a0)))) (e2 Yp (e2 Vc (Jb 2) (eC (.int 9))) (eC (.int 3))))) a0))) a0))) (eSl (Jb 0) (some (e2 JQ (Jb 3) (eC (.int 1)))) none))))))))))))
noncomputable def JB:List Sl->Option Sl:=YM 2 (Jl (xIf (tB? (e2 fLt (Jb 1) (eF UJ (aC (Jb 0) a0)))) (JY (e2 fIx (Jb 0) (Jb 1))) Jy)
 (JY (eC (.int 0))))
noncomputable def YG:List Sl->Option Sl:=YM 7 (Jl (Zm 4 JeO)
 (Jl (UW (iR1 (aC (Jb 2) a0)) (.nm 5) (Jl (Jn 6 (e2 JQ (eC (.int 1)) (e2 Yp (eU 2 JB (aC (Jb 0) (aC (e2 JQ (Jb 1) (e2 UA (eC (.int 2)) (Jb 5))) a0))) (Jb 3))))
 (Jdq 4 (Jb 6) (e2 JQ (e2 JQ (Jbu (Jb 4) (Jb 6) (eC (.int 0))) (eC (.int 1))) (e2 Yp (eU 2 JB (aC (Jb 0) (aC (e2 JQ (e2 JQ (Jb 1) (eC (.int 1))) (e2 UA (eC (.int 2)) (Jb 5))) a0))) (eC (.int 2)))))))
 (JY (YL (iE true (JdL (Jb 4))) (.nm 0) yes? (Y7 (aC (Jb 0) (aC (Jhn (Jb 1) (Jb 0)) a0))) [none,some 4]))))
noncomputable def JdO:List Sl->Option Sl:=YM 13 (Jl (Jn 1 (eU 2 JB (aC (Jb 0) (aC (eC (.int 0)) a0))))
 (Jl (Jn 2 (eU 2 JB (aC (Jb 0) (aC (eC (.int 1)) a0))))
 (Jl (Jn 3 (eU 4 YG (aC (Jb 0) (aC (eC (.int 3)) (aC (e2 Yp (Jb 1) (eC (.int 7))) (aC (e2 fIx (Y6 (aC (eC (.int 4)) (aC (eC (.int 1000)) (aC (e2 UA (eC (.int 4)) (e2 UK (eC (.int 10)) (eC (.int 8)))) a0)))) (e2 Yp (e2 Vc (Jb 1) (eC (.int 7))) (eC (.int 3)))) a0))))))
 (Jl (Jn 4 (e2 fIx (Y6 (aC (e2 Yp (Jb 2) (eC (.int 31))) (aC (e2 Yp (Jb 2) (e2 JQ (e2 UK (eC (.int 10)) (eC (.int 4))) (eC (.int 1)))) (aC (e2 Yp (Jb 2) (e2 JQ (e2 UK (eC (.int 10)) (eC (.int 9))) (eC (.int 1)))) (aC (e2 UK (eC (.int 10)) (eC (.int 9))) a0))))) (e2 Yp (e2 Vc (Jb 1) (eC (.int 21))) (eC (.int 4)))))
 (Jl (xIf (tB? (e2 fLt (e2 Yp (e2 Vc (Jb 1) (eC (.int 84))) (eC (.int 5))) (eC (.int 2)))) (Jn 3 (eU 3 JG (aC (Jb 3) (aC (e2 Yp (eU 2 JB (aC (Jb 0) (aC (eC (.int 2)) a0))) (eC (.int 6))) (aC (e2 Yp (e2 Vc (eU 2 JB (aC (Jb 0) (aC (eC (.int 2)) a0))) (eC (.int 6))) (e2 UK (eC (.int 10)) (eC (.int 50)))) a0))))) Jy)
 (Jl (Jn 5 (eU 1 YR (aC (Jb 3) a0)))
 (Jl (Jn 6 (eF JaX (aC (Jb 3) a0)))
 (Jl (UW (iR1 (aC (eC (.int 3)) a0)) (.nm 7) (Jl (Jn 8 (e2 fIx (Y6 (aC (eC (.int 0)) (aC (e2 Y0 (e1 JcA (eC (.int 1))) (e2 Yp (Jb 2) (e2 UK (eC (.int 10)) (eC (.int 30))))) (aC (e2 UK (eC (.int 10)) (eC (.int 30))) a0)))) (e2 Yp (e2 Vc (Jb 2) (eC (.int 7))) (eC (.int 3)))))
 (xIf (tOr? (tB? (e2 fNe (eU 4 JV (aC (Jb 7) (aC (Jb 4) (aC (Jb 6) (aC (Jb 8) a0))))) (Jb 5))) (tB? (e2 fNe (Jb 6) (Jb 3)))) (JY (eC (.bl false))) Jy)))
 (Jl (xIf (tB? (e2 fNe (Jb 5) (eC (.str "told")))) (JY (eC (.bl true))) Jy)
 (Jl (Zm 9 (eU 2 JE (aC (Jb 4) (aC (Jb 6) a0))))
 (Jl (Jb6 9 (Y7 (aC (eC (.int 0)) (aC (eC (.int 0)) a0))))
 (Jl (Jbj 9)
 (Jl (Jn 10 (eU 2 JE (aC (Jb 4) (aC (Jb 6) a0))))
 (Jl (xIf (tOr? (tNot? (tTru? (Vt "list" (Jb 10)))) (tOr? (tB? (e2 fNe (eF UJ (aC (Jb 10) a0)) (eF UJ (aC (Jb 3) a0)))) (tB? (e2 fNe (Jb 6) (Jb 3))))) (JY (eC (.bl false))) Jy)
 (Jl (UW (iR1 (aC (eF UJ (aC (Jb 3) a0)) a0)) (.nm 11) (Jl (Jn 12 (e2 Y0 (Jb 4) (e2 UA (eC (.int 2)) (eF V6 (aC (YL (iE true (Jb 3)) (.tp (.cons (.nm 0) (.cons (.nm 1) .nil))) yes? (e2 UA (Jb 1) (eF JaB (aC (Jb 0) (aC (e2 fIx (e2 fIx (Jb 2) (Jb 3)) (eC (.int 0))) a0)))) [none,none,some 3,some 11]) a0)))))
 (Jl (xIf (tOr? (tNot? (tTru? (Vt "tuple" (e2 fIx (Jb 10) (Jb 11))))) (tB? (e2 fNe (e2 fIx (Jb 10) (Jb 11)) (Y7 (aC (e2 fIx (e2 fIx (Jb 3) (Jb 11)) (eC (.int 0))) (aC (Jb 12) a0)))))) (JY (eC (.bl false))) Jy)
 (xIf (tOr? (tTru? (Vt "bool" (e2 fIx (e2 fIx (Jb 10) (Jb 11)) (eC (.int 0))))) (tTru? (Vt "bool" (e2 fIx (e2 fIx (Jb 10) (Jb 11)) (eC (.int 1)))))) (JY (eC (.bl false))) Jy))))
 (JY (eC (.bl true))))))))))))))))))
end LK
end
namespace LK
open PySem L2 LR LE
local macro_rules | `(tactic| omega)=>`(tactic| first | lia | omega (config:={}))
local macro_rules | `(tactic| walk_at "sd")=>`(tactic| first | omega (config:={}) | assumption | (simp only[Qy,Qo,KA,Qu,GB,GH];omega (config:={})))
local macro_rules | `(tactic| walk_at "ev")=>`(tactic| simp -implicitDefEqProofs (disch:=walk_at "sd") only[YM,Jlx,Int.reduceToNat,Qu,GB,Ro,Nat.reduceSub,Nat.reduceLT,Nat.reduceLeDiff,Q5,Nat.zero_lt_succ,Nat.succ_lt_succ_iff,Ri,KI,Lk,Kl,List.set_cons_zero,List.set_cons_succ,List.getElem?_cons_succ,List.getElem?_cons_zero,Qo,KA,List.length_set,QG,Lm,Option.bind_none,Option.map_none,if_true,if_false,ite_true,ite_false,decide_true,decide_false,Bool.not_true,Bool.not_false,Bool.and_true,Bool.true_and,reduceIte,reduceCtorEq,KN,Qi,Kp,if_pos,
 Jl,xIf,JY,VJ,Jy,Zm,Jn,JoH,Vn,Jb6,Jeo,Jje,Jdr,JkB,Jbi,JjE,JeO,Sl.dt,pr?,Jpe,Jhn,Jbu,Jdq,Jbj,JdL,JdK,ZG,Jft,ifB,Jho,lst?,JoV,eMI,Jj3,Sl.dk,int?,JmQ,UW,tB?,tTru?,tAnd?,tOr?,tNot?,JoD,e2,e1,Jb,eF,eC,aC,a0,eU,Wz,Sl.pass,Y7,Y6,ZK,Sl.frz,JjF,eIf,ZE,sh?,bool?,str?,keep?,Vt,tyN,D.isRow,Jnq,Jnp,Jlq,Jlr,Jlo,Jlp,JjH,JjI,
 Jo6,Jj6,Jj5,Jj2,Jhv,Jj8,Jj7,JjU,Jj1,JjY,JjX,JjS,JjR,JjZ,Jj0,JjV,JjT,JjW,JmN,JmL,JmK,JmO,JmJ,JmM,Jo9,Jo8,Jpb,Jo7,Jpa,JaX,Jj4,JaB,JdP,Sl.q,Sl.r,Sl.m,Sl.d,Sl.it,fEq,fNe,JmE,JmF,JmD,Jhs,JdN,JmC,JmB,fIs,WT,Jgj,Jgh,JhN,Jgl,Jgm,Jgi,JhO,Jgk,iE,iV,iR1,iR3,YL,Wu,Jgf,JmU,Je5,Zp,ZO,eSl,ZF,fSl,JhL,JmV,JiT,Jm9,Jkj,Jm8,Jnc,Jna,Jnb,JlP,JoT,Jjn,JgZ,Jqm,Jqn,Jqo,Jqp,Jqq,eq_self])
noncomputable section
theorem Wa(ns:List Int)(k:Int)(hk:0<=k):JB [.sh (.fz (ns.map .int)),.sh (.int k)]=some (.sh (.int (cell ns k))):=by
 unfold JB;walk_at "ev"
 by_cases h:k<(ns.length:Int)
 ·simp only[h,U8,Jce hk h];walk_at "ev"
 ·simp only[h,Jhe h];walk_at "ev"
theorem Good.cons'{p:Pr}{ps:List Pr}(g:Good (p::ps)):Good ps:=⟨fun i q e=>g.one (i+1) q (by simpa using e),fun i q r e1 e2=>g.gap (i+1) q r (by simpa using e1) (by simpa using e2)⟩
theorem Good.all{ps:List Pr}(g:Good ps):∀p∈ps,1<=p.2:=fun p hp=>by obtain⟨i,hi,e⟩:=GY.mp hp;exact g.one i p (by simp[hi,e])
theorem Good.first{p:Pr}:∀{ps:List Pr},Good (p::ps)->∀q∈ps,p.1+p.2<q.1
 | [],_,q,hq=>nomatch hq
 | r::ps,g,q,hq=>by
  have h1:=g.gap 0 p r rfl rfl;rcases Qh.mp hq with z|z
  ·rw[z];exact h1
  ·have h2:=Good.first (Good.cons' g) q z
   have h3:=g.one 1 r rfl;omega
theorem Good.pw:∀{ps:List Pr},Good ps->ps.Pairwise fun p q=>p.1+p.2<q.1
 | [],_=>.nil
 | p::ps,g=>.cons (Good.first g) (Good.pw (Good.cons' g))
theorem JI{α β:Type}(f:α->β)(xs:List α)(lo hi:Option Int):UF (xs.map f) lo hi=(UF xs lo hi).map f:=by unfold UF;rw[Qo,List.map_take,List.map_drop]
theorem ZC{α:Type}(xs:List α)(lo hi:Option Int):(UF xs lo hi).length<=xs.length:=by unfold UF;rw[KD,LI];omega
theorem V5(p:Pr):fIx (.sh (prE p)) (.sh (.int 0))=some (.sh (.int p.1)):=rfl
theorem Vd(p:Pr):fIx (.sh (prE p)) (.sh (.int 1))=some (.sh (.int p.2)):=rfl
theorem Jcf{α:Type}{xs:List α}{k:Nat}{x:α}(h:xs[k]?=some x):atI xs (k:Int)=some x:=by obtain⟨h1,h2⟩:=Qg.mp h;rw[Vp h1,h2]
theorem Good.mk'{p:Pr}{ps:List Pr}(h1:1<=p.2)(h2:∀q,ps[0]?=some q->p.1+p.2<q.1)(g:Good ps):Good (p::ps):=by
 refine⟨fun i q e=>?_,fun i q r e1 e2=>?_⟩
 ·cases i with
  | zero=>simp at e;subst e;exact h1
  | succ i=>exact g.one i q (by simpa using e)
 ·cases i with
  | zero=>simp at e1;subst e1;exact h2 r (by simpa using e2)
  | succ i=>exact g.gap i q r (by simpa using e1) (by simpa using e2)
noncomputable def byF(k:Int)(ps:List Pr):List Pr:=ps.mapIdx fun i p=>(p.1+2*k*(i:Int),p.2+k)
theorem Jg7(k:Int)(ps:List Pr):(byF k ps).length=ps.length:=by unfold byF;rw[List.length_mapIdx]
theorem JdD{k:Int}{ps:List Pr}{i:Nat}{x:Pr}(e:(byF k ps)[i]?=some x):∃p,ps[i]?=some p/\x=(p.1+2*k*(i:Int),p.2+k):=by unfold byF at e;rw[Gf,Gb] at e;obtain⟨p,h,rfl⟩:=e;exact⟨p,h,rfl⟩
theorem Jjz(ps:List Pr):byF 0 ps=ps:=by
 refine Kt fun i=>?_
 unfold byF;rw[Gf]
 cases ps[i]? with
 | none=>rfl
 | some p=>simp
structure Wide (c:Int) (ps:List Pr):Prop where
 one:∀(i:Nat) (p:Pr),ps[i]?=some p->c<=p.2
 gap:∀(i:Nat) (p q:Pr),ps[i]?=some p->ps[i+1]?=some q->c<=q.1-(p.1+p.2)
theorem Wide.good{c:Int}{ps:List Pr}(h:1<=c)(w:Wide c ps):Good ps:=⟨fun i p e=>by have:=w.one i p e;omega,fun i p q e1 e2=>by have:=w.gap i p q e1 e2;omega⟩
theorem Wide.bys{c k:Int}{ps:List Pr}(w:Wide c ps):Wide (c+k) (byF k ps):=by
 refine⟨fun i x e=>?_,fun i x y e1 e2=>?_⟩
 ·obtain⟨p,h,rfl⟩:=JdD e;have:=w.one i p h;dsimp only;omega
 ·obtain⟨p,h1,rfl⟩:=JdD e1;obtain⟨q,h2,rfl⟩:=JdD e2;have:=w.gap i p q h1 h2;have em:2*k*((i+1:Nat):Int)=2*k*(i:Int)+2*k:=by rw[M4,Int.mul_add];simp
  dsimp only;rw[em];omega
theorem Wide.mono{c c':Int}{ps:List Pr}(h:c'<=c)(w:Wide c ps):Wide c' ps:=⟨fun i p e=>by have:=w.one i p e;omega,fun i p q e1 e2=>by have:=w.gap i p q e1 e2;omega⟩
theorem Wide.cons{c:Int}{p:Pr}{ps:List Pr}(w:Wide c (p::ps)):Wide c ps:=⟨fun i q e=>w.one (i+1) q (by simpa using e),fun i q r e1 e2=>w.gap (i+1) q r (by simpa using e1) (by simpa using e2)⟩
noncomputable def clF:Pr->List Pr->List Pr
 | cur,[]=>[cur]
 | cur,p::r=>if cur.1+cur.2=p.1 then clF (cur.1,cur.2+p.2) r else if 0<p.2 then cur::clF p r else clF cur r
noncomputable def clN:List Pr->List Pr
 | []=>[]
 | p::r=>if 0<p.2 then clF p r else clN r
theorem Wo:∀(cur:Pr) (r:List Pr),1<=cur.2->Wide 0 r->(∀q,r[0]?=some q->cur.1+cur.2<=q.1)->Good (clF cur r)/\∃q,(clF cur r)[0]?=some q/\q.1=cur.1
 | cur,[],h,_,_=>⟨Good.mk' h (fun q e=>by simp at e) Good.nil,cur,rfl,rfl⟩
 | cur,p::r,h,w,hq=>by
  have h0:=w.one 0 p rfl
  have hb:=hq p rfl
  have nx:∀q,r[0]?=some q->p.1+p.2<=q.1:=fun q e=>by have:=w.gap 0 p q rfl (by simpa using e);omega
  rw[clF];split
  ·next e=>exact Wo (cur.1,cur.2+p.2) r (by dsimp only;omega) w.cons fun q e'=>by have:=nx q e';dsimp only;omega
  ·next e =>
   split
   ·next hp=>obtain⟨g,q,e1,e2⟩:=Wo p r (by omega) w.cons nx;exact⟨Good.mk' h (fun q' e'=>by rw[e1] at e';cases e';omega) g,cur,rfl,rfl⟩
   ·next hp=>exact Wo cur r h w.cons fun q e'=>by have:=nx q e';omega
theorem Jcn:∀(ps:List Pr),Wide 0 ps->Good (clN ps)
 | [],_=>Good.nil
 | p::r,w=>by
  rw[clN];split
  ·next h=>exact(Wo p r (by omega) w.cons fun q e=>by have:=w.gap 0 p q rfl (by simpa using e);omega).1
  ·exact Jcn r w.cons
noncomputable def thF(ps:List Pr):List Pr:=clN (byF (-1) ps)
theorem Jdn{ps:List Pr}(g:Good ps):Good (thF ps):=Jcn _ (by
 have w:Wide 1 ps:=⟨fun i p e=>g.one i p e,fun i p q e1 e2=>by have:=g.gap i p q e1 e2;omega⟩
 exact w.bys (k:=-1))
noncomputable def zs(n:Nat):List Int:=Qw n 0
noncomputable def os(n:Nat):List Int:=Qw n 1
noncomputable def blk:Int->List Pr->List Int
 | _,[]=>[]
 | pos,p::r=>zs (p.1-pos).toNat++(os p.2.toNat++blk (p.1+p.2) r)
noncomputable def byR:Int->List Pr->List Pr
 | _,[]=>[]
 | c,p::r=>(p.1-c,p.2-1)::byR (c+2) r
theorem Jez:∀(ps:List Pr) (c:Int),byR c ps=ps.mapIdx fun i p=>(p.1+2*(-1)*(i:Int)-c,p.2+-1)
 | [],c=>rfl
 | p::r,c=>by
  rw[byR,List.mapIdx_cons,Jez r (c+2)];congr 1
  ·congr 1;simp
  ·refine Kt fun i=>?_
   rw[Gf,Gf]
   cases r[i]? with
   | none=>rfl
   | some q=>simp only[Lm,M4];congr 2;omega
theorem Jjy(ps:List Pr):byR 0 ps=byF (-1) ps:=by
 rw[Jez];unfold byF;congr 1
 funext i p
 congr 1;omega
theorem Ja0{ps:List Pr}(g:Good ps):Wide 1 ps:=⟨fun i p e=>g.one i p e,fun i p q e1 e2=>by have:=g.gap i p q e1 e2;omega⟩
noncomputable def tkS(x prev pos:Int)(acc:List Pr):List Pr :=
 if x=1/\prev=1 then acc.dropLast++[((acc.getLastD (0,0)).1,(acc.getLastD (0,0)).2+1)] else if x=1 then acc++[(pos,1)] else acc
noncomputable def tk:Int->Int->List Pr->List Int->List Pr
 | _,_,acc,[]=>acc
 | prev,pos,acc,x::r=>tk x (pos+1) (tkS x prev pos acc) r
noncomputable def below(ps:List Pr)(x:Int):Int:=(ps.map fun p=>max 0 (min p.2 (x-p.1))).sum
theorem Ux(p:Pr)(ps:List Pr)(x:Int):below (p::ps) x=max 0 (min p.2 (x-p.1))+below ps x:=by unfold below;rw[Qi,QT]
theorem Jdz{ps:List Pr}{x:Int}(h:∀p∈ps,x<=p.1):below ps x=0:=by
 induction ps with
 | nil=>rfl
 | cons p ps ih=>have h1:=h p Qf;rw[Ux,ih fun q hq=>h q (Qc _ hq)];omega
noncomputable def Yo(ps:List Pr)(y:Int):Bool:=ps.any fun p=>decide (p.1<=y) && decide (y<p.1+p.2)
theorem has_iff{ps:List Pr}{y:Int}:Yo ps y=true↔∃p∈ps,p.1<=y/\y<p.1+p.2:=by unfold Yo;rw[Ld];simp
theorem JbB{ps:List Pr}{y:Int}(h:∀p∈ps,p.1<=y->p.1+p.2<=y):Yo ps y=false:=by
 cases e:Yo ps y with
 | false=>rfl
 | true=>obtain⟨p,hp,h1,h2⟩:=has_iff.mp e;have:=h p hp h1;omega
theorem Jpq{l d:Int}(h0:0<=d)(h1:d<l):max 0 (min l (d+1))=max 0 (min l d)+1:=by rw[Le (by omega),Le (by omega),Int.max_eq_right (by omega),Int.max_eq_right h0]
theorem Jnj{l d:Int}(hl:0<=l)(h:d<0\/l<=d):max 0 (min l (d+1))=max 0 (min l d):=by
 rcases h with h|h
 ·rw[Le (by omega),Le (by omega),Int.max_eq_left (by omega),Int.max_eq_left (by omega)]
 ·rw[M5 (by omega),M5 h]
theorem Zy(y:Int):∀{ps:List Pr},Good ps->below ps (y+1)=below ps y+(if Yo ps y=true then 1 else 0)
 | [],_=>rfl
 | p::ps,g=>by
  have ih:=Zy y (Good.cons' g)
  have hp:=g.one 0 p rfl;rw[Ux,Ux,ih]
  by_cases h1:p.1<=y/\y<p.1+p.2
  ·have e1:Yo (p::ps) y=true:=has_iff.mpr ⟨p,Qf,h1⟩
   have e2:Yo ps y=false:=JbB fun q hq hy=>by
    have:=Good.first g q hq
    omega
   rw[e1,e2,if_pos rfl,if_neg (by simp),show y+1-p.1=y-p.1+1 by omega,Jpq (show 0<=y-p.1 by omega) (show y-p.1<p.2 by omega)]
   generalize max 0 (min p.2 (y-p.1))=m
   omega
  ·have e1:Yo (p::ps) y=Yo ps y:=by
    unfold Yo;rw[GP]
    have:(decide (p.1<=y) && decide (y<p.1+p.2))=false:=by
     cases h:(decide (p.1<=y) && decide (y<p.1+p.2)) with
     | false=>rfl
     | true=>rw[Qv,decide_eq_true_eq,decide_eq_true_eq] at h;exact absurd h h1
    rw[this,GA]
   rw[e1,show y+1-p.1=y-p.1+1 by omega,Jnj (show 0<=p.2 by omega) (show y-p.1<0\/p.2<=y-p.1 by omega),Int.add_assoc]
theorem Yq(p:Pr)(ps:List Pr)(x:Int):Yo (p::ps) x=((decide (p.1<=x) && decide (x<p.1+p.2)) || Yo ps x):=by unfold Yo;rw[GP]
theorem WU{p:Pr}{ps:List Pr}{x:Int}(h1:p.1<=x)(h2:x<p.1+p.2):Yo (p::ps) x=true:=has_iff.mpr ⟨p,Qf,h1,h2⟩
theorem JbC{p:Pr}{ps:List Pr}{x:Int}(h:p.1+p.2<=x):Yo (p::ps) x=Yo ps x:=by rw[Yq];have:decide (x<p.1+p.2)=false:=decide_eq_false (by omega);rw[this,Rb,GA]
theorem Ve{ps:List Pr}{x:Int}(h:∀p∈ps,x<p.1):Yo ps x=false:=JbB fun p hp hx=>by have:=h p hp;omega
theorem Je3:∀{ps qs:List Pr},Good ps->Good qs->(∀x,Yo ps x=Yo qs x)->ps=qs
 | [],[],_,_,_=>rfl
 | [],q::qs,_,g,h=>by have:=h q.1;rw[WU (Gy _) (by have:=g.one 0 q rfl;omega)] at this;cases this
 | p::ps,[],g,_,h=>by have:=h p.1;rw[WU (Gy _) (by have:=g.one 0 p rfl;omega)] at this;cases this
 | p::ps,q::qs,g,g',h=>by
  have hp:=g.one 0 p rfl
  have hq:=g'.one 0 q rfl
  have le:∀{p:Pr} {ps:List Pr} {x:Int},Good (p::ps)->Yo (p::ps) x=true->p.1<=x:=fun {p ps x} g e=>by
   obtain⟨r,hr,h1,h2⟩:=has_iff.mp e;rcases Qh.mp hr with z|z
   ·rw[<- z];exact h1
   ·have:=Good.first g r z
    have:=g.one 0 p rfl;omega
  have e1:p.1=q.1:=by
   have a:=le g' (x:=p.1) (by rw[<- h];exact WU (Gy _) (by omega))
   have b:=le g (x:=q.1) (by rw[h];exact WU (Gy _) (by omega));omega
  have off:∀{p:Pr} {ps:List Pr},Good (p::ps)->Yo (p::ps) (p.1+p.2)=false:=fun {p ps} g=>by rw[JbC (Gy _)];exact Ve fun z hz=>Good.first g z hz
  have e2:p.2=q.2:=by
   have a:=h (p.1+p.2);rw[off g] at a
   have b:=h (q.1+q.2);rw[off g'] at b
   by_cases c:p.2<q.2
   ·rw[WU (p:=q) (by omega) (by omega)] at a;cases a
   ·by_cases c':q.2<p.2
    ·rw[WU (p:=p) (by omega) (by omega)] at b;cases b
    ·omega
  have e:p=q:=Prod.ext e1 e2;subst e;rw[Je3 (Good.cons' g) (Good.cons' g') fun x=>?_]
  by_cases c:p.1+p.2<=x
  ·have:=h x
   rwa [JbC c,JbC c] at this
  ·rw[Ve fun z hz=>by have:=Good.first g z hz;omega,Ve fun z hz=>by have:=Good.first g' z hz;omega]
theorem Jgt(a b:Int):a<b\/b<=a:=by omega
theorem V4{ps:List Pr}(h:∀p∈ps,0<=p.2){x y:Int}(hxy:x<=y):below ps x<=below ps y:=by
 induction ps with
 | nil=>exact Gy _
 | cons p r ih =>
  have i:=ih fun q hq=>h q (Qc _ hq)
  rw[Ux,Ux];exact Int.add_le_add (Int.max_le.mpr ⟨Int.le_max_left _ _,Int.le_trans (Int.le_min.mpr ⟨Int.min_le_left _ _,Int.le_trans (Int.min_le_right _ _) (by omega)⟩) (Int.le_max_right _ _)⟩) i
theorem U9{ps:List Pr}(g:Good ps){a:Int}:∀n:Nat,below ps (a+(n:Int))<=below ps a+(n:Int)/\((∀y,a<=y->y<a+(n:Int)->Yo ps y=true)->below ps (a+(n:Int))=below ps a+(n:Int))/\((∀y,a<=y->y<a+(n:Int)->Yo ps y=false)->below ps (a+(n:Int))=below ps a)
 | 0=>by simp
 | n+1=>by
  obtain⟨i1,i2,i3⟩:=U9 g (a:=a) n;have e:a+((n+1:Nat):Int)=a+(n:Int)+1:=by omega
  rw[e,Zy (a+(n:Int)) g];refine⟨by split <;> omega,fun h=>?_,fun h=>?_⟩
  ·rw[if_pos (h (a+(n:Int)) (by omega) (by omega)),i2 fun y h1 h2=>h y h1 (by omega)];omega
  ·rw[if_neg (by rw[h (a+(n:Int)) (by omega) (by omega)];simp),i3 fun y h1 h2=>h y h1 (by omega),MZ]
theorem VL{ps:List Pr}(g:Good ps){x y:Int}(h:x<=y):below ps y<=below ps x+(y-x):=by have:=(U9 g (a:=x) (y-x).toNat).1;rw[show x+((y-x).toNat:Int)=y by omega] at this;omega
theorem Jdy{ps:List Pr}(g:Good ps){x y:Int}(h:x<=y)(hb:∀z,x<=z->z<y->Yo ps z=true):below ps y=below ps x+(y-x):=by
 have:=(U9 g (a:=x) (y-x).toNat).2.1 fun z h1 h2=>hb z h1 (by omega (config:={}))
 rw[show x+((y-x).toNat:Int)=y by omega (config:={})] at this;omega (config:={})
theorem Jdx{ps:List Pr}(g:Good ps){x y:Int}(h:x<=y)(hb:∀z,x<=z->z<y->Yo ps z=false):below ps y=below ps x:=by
 have:=(U9 g (a:=x) (y-x).toNat).2.2 fun z h1 h2=>hb z h1 (by omega (config:={}))
 rw[show x+((y-x).toNat:Int)=y by omega (config:={})] at this;omega (config:={})
noncomputable def edF(ps:List Pr):Nat->Int->List Int->List Pr
 | _,_,[]=>[]
 | i,c,s::r=>(s+2*(i:Int)-(below ps s-c),below ps s-c+1)::edF ps (i+1) (below ps s) r
noncomputable def flF(ps:List Pr):Int->List Int->List Pr
 | _,[]=>[]
 | c,s::r=>(s-(below ps s-c),below ps s-c)::flF ps (below ps s) r
theorem JlU(ps:List Pr):∀(sp:List Int) (i:Nat) (c:Int),byR (2*(i:Int)) (edF ps i c sp)=flF ps c sp
 | [],_,_=>rfl
 | s::r,i,c=>by
  rw[edF,byR,flF];congr 1
  ·congr 1 <;> dsimp only <;> omega
  ·rw[<- JlU ps r (i+1) (below ps s)];congr 1
theorem JdM(ps:List Pr):∀(sp:List Int) (i:Nat) (c:Int),(edF ps i c sp).length=sp.length
 | [],_,_=>rfl
 | s::r,i,c=>by rw[edF,Qu,Qu,JdM ps r]
theorem JeP{ps:List Pr}(g:Good ps):∀(sp:List Int) (i:Nat) (s0:Int),(s0::sp).Pairwise (·<=·)->Good (edF ps i (below ps s0) sp)
 | [],_,_,_=>Good.nil
 | s::r,i,s0,hs=>by
  obtain⟨h1,h2⟩:=QL.mp hs;have h3:=h1 s Qf;have m1:=V4 (fun p hp=>by have:=Good.all g p hp;omega) h3;rw[edF];refine Good.mk' (by dsimp only;omega) (fun q e=>?_) (JeP g r (i+1) s h2)
  cases r with
  | nil=>simp[edF] at e
  | cons s' r=>obtain⟨h4,_⟩:=QL.mp h2;have h5:=h4 s' Qf;have l1:=VL g h5;simp[edF] at e;subst e;dsimp only;omega
theorem JeW{ps:List Pr}(g:Good ps):∀(sp:List Int) (s0:Int),(s0::sp).Pairwise (·<=·)->Wide 0 (flF ps (below ps s0) sp)
 | [],_,_=>⟨fun i p e=>by simp[flF] at e,fun i p q e=>by simp[flF] at e⟩
 | s::r,s0,hs=>by
  obtain⟨h1,h2⟩:=QL.mp hs;have h3:=h1 s Qf;have m1:=V4 (fun p hp=>by have:=Good.all g p hp;omega) h3;have ih:=JeW g r s h2;rw[flF];refine⟨fun i p e=>?_,fun i p q e1 e2=>?_⟩
  ·cases i with
   | zero=>simp at e;subst e;dsimp only;omega
   | succ i=>exact ih.one i p (by simpa using e)
  ·cases i with
   | zero =>
    simp at e1;subst e1
    cases r with
    | nil=>simp[flF] at e2
    | cons s' r=>obtain⟨h4,_⟩:=QL.mp h2;have h5:=h4 s' Qf;have l1:=VL g h5;simp[flF] at e2;subst e2;dsimp only;omega
   | succ i=>exact ih.gap i p q (by simpa using e1) (by simpa using e2)
theorem JhA{ps:List Pr}(g:Good ps):∀(sp:List Int) (s0:Int),(s0::sp).Pairwise (·<=·)->(∀p∈ps,s0<p.1+p.2->p.1+p.2∈sp) ->
 (∀x,s0<=x->Yo (flF ps (below ps s0) sp) x=Yo ps x)/\∀x,x<s0->Yo (flF ps (below ps s0) sp) x=false
 | [],s0,_,he=>by
  refine⟨fun x hx=>?_,fun x hx=>rfl⟩
  have:Yo ps x=false:=JbB fun p hp h1=>by
   rcases Jgt s0 (p.1+p.2) with z|z
   ·cases he p hp z
   ·omega
  rw[this];rfl
 | s::r,s0,hs,he=>by
  obtain⟨h1,h2⟩:=QL.mp hs;have h3:=h1 s Qf;have hr:∀t∈r,s<=t:=(QL.mp h2).1
  have lip:=VL g h3
  obtain⟨i1,i2⟩:=JhA g r s h2 fun p hp h=>by
   rcases Qh.mp (he p hp (by omega)) with z|z
   ·omega
   ·exact z
  have run:∀y,s0<=y->y<s->Yo ps y=true->∀z,y<=z->z<s->Yo ps z=true:=fun y y1 y2 hy z z1 z2=>by
   obtain⟨p,hp,a1,a2⟩:=has_iff.mp hy
   have:s<=p.1+p.2:=by
    rcases Qh.mp (he p hp (by omega)) with w|w
    ·omega
    ·exact hr _ w
   exact has_iff.mpr ⟨p,hp,by omega,by omega⟩
  rw[flF];refine⟨fun x hx=>?_,fun x hx=>?_⟩
  ·rw[Yq];rcases Jgt x s with hxs|hxs
   ·rw[i2 x hxs,Li];dsimp only
    cases hb:Yo ps x with
    | true =>
     have f1:=Jdy g (x:=x) (y:=s) (by omega) fun z z1 z2=>run x hx hxs hb z z1 z2
     have f2:=V4 (ps:=ps) (fun p hp=>by have:=Good.all g p hp;omega) hx;rw[decide_eq_true (by omega),decide_eq_true (by omega)];rfl
    | false =>
     have f1:=Jdx g (x:=s0) (y:=x+1) (by omega) fun z z1 z2=>by
      cases hz:Yo ps z with
      | false=>rfl
      | true=>have:=run z z1 (by omega) hz x (by omega) hxs;rw[hb] at this;cases this
     have f2:=VL g (x:=x+1) (y:=s) (by omega);rw[decide_eq_false (by omega)];rfl
   ·rw[i1 x hxs];dsimp only;rw[decide_eq_false (p:=x<_) (by omega),Rb,GA]
  ·rw[Yq,i2 x (by omega)];dsimp only;rw[decide_eq_false (by omega)];rfl
theorem Jne(ps:List Pr)(sp:List Int):∃s0,(∀p∈ps,s0<p.1)/\∀s∈sp,s0<s:=by
 have h1:∃a,∀p∈ps,a<p.1:=by
  induction ps with
  | nil=>exact⟨0,fun p hp=>by cases hp⟩
  | cons p r ih =>
   obtain⟨a,ha⟩:=ih;refine⟨min a (p.1-1),fun q hq=>?_⟩;rcases Qh.mp hq with z|z
   ·subst z;omega (config:={})
   ·have:=ha q z;omega (config:={})
 have h2:∃a,∀s∈sp,a<s:=by
  induction sp with
  | nil=>exact⟨0,fun p hp=>by cases hp⟩
  | cons p r ih =>
   obtain⟨a,ha⟩:=ih;refine⟨min a (p-1),fun q hq=>?_⟩;rcases Qh.mp hq with z|z
   ·subst z;omega (config:={})
   ·have:=ha q z;omega (config:={})
 obtain⟨a,ha⟩:=h1;obtain⟨b,hb⟩:=h2;exact⟨min a b,fun p hp=>by have:=ha p hp;omega (config:={}),fun s hs=>by have:=hb s hs;omega (config:={})⟩
theorem Zo(x:Int):∀(r:List Pr) (cur:Pr),(∀p∈r,0<=p.2)->0<=cur.2->Yo (clF cur r) x=Yo (cur::r) x
 | [],cur,_,_=>rfl
 | p::r,cur,h,hc=>by
  have h0:=h p Qf
  have hr:=fun q hq=>h q (Qc p hq)
  rw[clF];split
  ·next e=>rw[Zo x r _ hr (by dsimp only;omega),Yq,Yq,Yq,<- Rp];congr 1;rw[KQ];simp only[KS,Qv,decide_eq_true_eq];constructor <;> intro z <;> omega
  ·split
   ·rw[Yq,Zo x r p hr h0,<- Yq]
   ·rw[Zo x r cur hr hc,Yq,Yq cur,Yq p];rw[show(decide (p.1<=x) && decide (x<p.1+p.2))=false by
     rw[M7];rcases Jgt x p.1 with z|z
     ·exact .inl (decide_eq_false (by omega))
     ·exact .inr (decide_eq_false (by omega)),GA]
theorem JeF(x:Int):∀(ps:List Pr),(∀p∈ps,0<=p.2)->Yo (clN ps) x=Yo ps x
 | [],_=>rfl
 | p::r,h=>by
  have h0:=h p Qf
  have hr:=fun q hq=>h q (Qc p hq)
  rw[clN];split
  ·exact Zo x r p hr h0
  ·rw[JeF x r hr,Yq p];rw[show(decide (p.1<=x) && decide (x<p.1+p.2))=false by
    rw[M7];rcases Jgt x p.1 with z|z
    ·exact .inl (decide_eq_false (by omega))
    ·exact .inr (decide_eq_false (by omega)),GA]
theorem Ji7{ps:List Pr}(g:Good ps){sp:List Int}(hs:sp.Pairwise (·<=·))(he:∀p∈ps,p.1+p.2∈sp):Good (edF ps 0 0 sp)/\thF (edF ps 0 0 sp)=ps:=by
 obtain⟨s0,l1,l2⟩:=Jne ps sp;have hb:below ps s0=0:=Jdz fun p hp=>by have:=l1 p hp;omega
 have hs':(s0::sp).Pairwise (·<=·):=QL.mpr ⟨fun s h=>by have:=l2 s h;omega,hs⟩
 have ge:=JeP g sp 0 s0 hs'
 have wd:=JeW g sp s0 hs';obtain⟨f1,f2⟩:=JhA g sp s0 hs' fun p hp _=>he p hp
 rw[hb] at ge wd f1 f2;refine⟨ge,?_⟩
 have e:thF (edF ps 0 0 sp)=clN (flF ps 0 sp):=by unfold thF;rw[<- Jjy,<- JlU ps sp 0 0];rfl
 refine Je3 (Jdn ge) g fun x=>?_
 rw[e,JeF x _ fun p hp=>by obtain⟨i,hi,rfl⟩:=GY.mp hp;exact wd.one i _ (by simp)]
 rcases Jgt x s0 with z|z
 ·rw[f2 x z,Ve fun p hp=>by have:=l1 p hp;omega]
 ·exact f1 x z
theorem JeQ(ps:List Pr):∀(sp:List Int) (i:Nat) (c:Int) (j:Nat) (q:Pr),(edF ps i c sp)[j]?=some q->∃s,sp[j]?=some s/\q.1+q.2-1-2*((i+j:Nat):Int)=s
 | [],_,_,j,q,e=>by simp[edF] at e
 | s::r,i,c,0,q,e=>by simp[edF] at e;subst e;exact⟨s,rfl,by dsimp only;omega⟩
 | s::r,i,c,j+1,q,e=>by obtain⟨s',h1,h2⟩:=JeQ ps r (i+1) (below ps s) j q (by simpa [edF] using e);exact⟨s',by simpa using h1,by rw[<- h2];congr 1;omega⟩
noncomputable def V7:List Pr->Int->List Pr
 | [],s=>[(s,1)]
 | p::r,s=>if p.1=s then(p.1,p.2+1)::r else p::V7 r s
theorem WV(s:Int):∀a:List Pr,(V7 a s).map (·.1)=Yv (a.map (·.1)) s
 | []=>rfl
 | p::r=>by
  have ih:=WV s r;unfold Yv Zi at ih ⊢;rw[V7,Qi,GP]
  by_cases h:p.1=s
  ·rw[if_pos h,decide_eq_true h,LY,if_pos rfl];rfl
  ·rw[if_neg h,decide_eq_false h,GA,Qi,ih];split <;> rfl
theorem hasK_mem{ks:List Int}{s:Int}:Zi ks s=true↔s∈ks:=by
 unfold Zi;rw[Ld];constructor
 ·rintro⟨k,hk,e⟩;rw[decide_eq_true_eq] at e;subst e;exact hk
 ·intro h;exact⟨s,h,decide_eq_true rfl⟩
theorem Jc3{ks:List Int}(s:Int)(h:ks.Nodup):(Yv ks s).Nodup:=by
 unfold Yv;split
 ·exact h
 ·next c =>
  rw[Mr];refine⟨h,by simp,fun a ha b hb=>?_⟩;have:b=s:=by simpa using hb
  subst this;intro e;subst e;exact c (hasK_mem.mpr ha)
noncomputable def lk(k:Int):List Pr->Int
 | []=>0
 | p::r=>if p.1=k then p.2 else lk k r
theorem Jfa(k s:Int):∀a:List Pr,lk k (V7 a s)=lk k a+(if s=k then 1 else 0)
 | []=>by simp[V7,lk]
 | p::r=>by
  rw[V7]
  by_cases h:p.1=s
  ·rw[if_pos h,lk,lk];dsimp only
   by_cases c:p.1=k
   ·rw[if_pos c,if_pos c,if_pos (by omega)]
   ·rw[if_neg c,if_neg c,if_neg (by omega),MZ]
  ·rw[if_neg h,lk,lk,Jfa k s r]
   by_cases c:p.1=k
   ·rw[if_pos c,if_pos c,if_neg (by omega),MZ]
   ·rw[if_neg c,if_neg c]
theorem JdY{a:List Pr}(hn:(a.map (·.1)).Nodup){p:Pr}(hp:p∈a):lk p.1 a=p.2:=by
 induction a with
 | nil=>cases hp
 | cons q r ih =>
  rw[Qi,Q8] at hn;rw[lk];rcases Qh.mp hp with z|z
  ·subst z;rw[if_pos rfl]
  ·rw[if_neg fun e=>hn.1 (by rw[e];exact QQ.mpr ⟨p,z,rfl⟩)];exact ih hn.2 z
noncomputable def Jbs(L:List Int):List Pr:=L.foldl V7 []
theorem JeI:∀(L:List Int) (a:List Pr),(a.map (·.1)).Nodup->((L.foldl V7 a).map (·.1)).Nodup/\(∀k,lk k (L.foldl V7 a)=lk k a+(L.count k:Int))/\∀k,k∈(L.foldl V7 a).map (·.1)↔k∈a.map (·.1)\/k∈L
 | [],a,h=>⟨h,fun k=>by simp,fun k=>by simp⟩
 | s::L,a,h=>by
  have hk:=WV s a
  have hn:((V7 a s).map (·.1)).Nodup:=by rw[hk];exact Jc3 s h
  obtain⟨i1,i2,i3⟩:=JeI L (V7 a s) hn;refine⟨i1,fun k=>?_,fun k=>?_⟩
  ·rw[Gz,i2 k,Jfa,Ll]
   by_cases c:s=k
   ·rw[if_pos c,if_pos (by simpa using c)];omega
   ·rw[if_neg c,if_neg (by simpa using c)];omega
  ·rw[Gz,i3 k,hk];unfold Yv;split
   ·next c =>
    have c':=hasK_mem.mp c;constructor
    ·rintro(z|z)
     ·exact .inl z
     ·exact .inr (Qc _ z)
    ·rintro(z|z)
     ·exact .inl z
     ·rcases Qh.mp z with w|w
      ·subst w;exact .inl c'
      ·exact .inr w
   ·rw[QX,QK,Qh,or_assoc]
theorem Jmw(L:List Int):((Jbs L).map (·.1)).Nodup/\(∀p∈Jbs L,p.2=(L.count p.1:Int)/\p.1∈L)/\∀k∈L,(k,(L.count k:Int))∈Jbs L:=by
 obtain⟨i1,i2,i3⟩:=JeI L [] (by simp)
 have v:∀p∈Jbs L,p.2=(L.count p.1:Int):=fun p hp=>by rw[<- JdY i1 hp];have:=i2 p.1;rw[show lk p.1 []=0 from rfl,MT] at this;exact this
 refine⟨i1,fun p hp=>⟨v p hp,?_⟩,fun k hk=>?_⟩
 ·have:=(i3 p.1).mp (QQ.mpr ⟨p,hp,rfl⟩)
  simpa using this
 ·obtain⟨p,hp,e⟩:=QQ.mp ((i3 k).mpr (.inr hk));subst e;rw[<- v p hp];exact hp
theorem Jku(ps:List Pr)(x:Int)(h:ps.length<=1000):Yx [.sh (.row (ps.map prE)),.sh (.int x)]=some (.sh (.int (below ps x))):=by
 unfold Yx;walk_at "ev";rw[Yk (g:=fun p=>D.int (max 0 (min p.2 (x-p.1))))]
 ·walk_at "ev";rw[YO (ns:=ps.map fun p=>max 0 (min p.2 (x-p.1))) (by simp[Sl.q])];walk_at "ev";rfl
 ·intro p hp;simp only[prE];walk_at "ev"
theorem JbE{α β:Type}(f:Nat->α->β)(xs:List α):xs.mapIdx f=xs.zipIdx.map fun x=>f x.2 x.1:=by
 refine Kt fun i=>?_
 rw[Gf,Qx,LQ,Ly];simp;rfl
theorem Jqv(ps:List Pr)(k:Int)(h:ps.length<=1000):YY [.sh (.row (ps.map prE)),.sh (.int k)]=some (.own ((byF k ps).map prE)):=by
 unfold YY;walk_at "ev";rw[Jcw,JbE,Yk (g:=fun x:Pr×Nat=>prE (x.1.1+2*k*(x.2:Int),x.1.2+k))]
 ·rw[if_pos (by rw[Qo,List.length_zipIdx];omega (config:={}))];walk_at "ev";rw[show ps.zipIdx.map (fun x=>prE (x.1.1+2*k*(x.2:Int),x.1.2+k))=(byF k ps).map prE by unfold byF;rw[JbE,Gg];rfl]
 ·intro x hx
  have hx2:x.2<ps.length:=by have:=List.snd_lt_of_mem_zipIdx hx;omega (config:={})
  walk_at "ev";rw[V5,Vd];walk_at "ev";rfl
noncomputable abbrev Tr:=Int×Int×Int
noncomputable def trE(t:Tr):D:=.tup [.int t.1,.int t.2.1,.int t.2.2]
noncomputable def owF(left:List Pr)(s:Int):Int:=if Yo left (s-1)=true/\Yo left s=false then 1 else 0
theorem ZY{α β:Type}(f:α->β):∀(ks:List Int) (vs:List α) (n:Int),look ks (vs.map f) n=(look ks vs n).map f
 | [],_,_=>rfl
 | _::_,[],_=>rfl
 | k::ks,v::vs,n=>by
  rw[Qi];simp only[look];split
  ·rfl
  ·exact ZY f ks vs n
theorem Jde{α β:Type}(f:α->β):∀(ks:List Int) (vs:List α) (n:Int) (v:α),setK ks (vs.map f) n (f v)=(setK ks vs n v).map f
 | [],_,_,_=>rfl
 | _::_,[],_,_=>rfl
 | k::ks,x::vs,n,v=>by rw[Qi];simp only[setK,Qi];rw[Jde f ks vs n v];split <;> rfl
theorem JgE{α β:Type}(f:α->β)(ks:List Int)(vs:List α)(n:Int)(v:α):putDs ks (vs.map f) n (f v)=(putDs ks vs n v).map f:=by
 unfold putDs;split
 ·exact Jde f ks vs n v
 ·rw[Gd];rfl
theorem JhY(ks:List Int)(vs:List Int)(n z:Int):(look ks (vs.map D.int) n).getD (.int z)=.int ((look ks vs n).getD z):=by rw[ZY];cases look ks vs n <;> rfl
noncomputable def spF(qs:List Pr):List Int:=qs.zipIdx.map fun x=>x.1.1+x.1.2-1-2*(x.2:Int)
noncomputable def Vm(qs:List Pr):List Tr:=(Jbs (spF qs)).map fun p=>(p.1,p.2,owF (thF qs) p.1)
theorem Jkv(ps:List Pr)(sp:List Int)(hp:ps.length<=1000)(hs:sp.length<=1000):Ui [.sh (.row (ps.map prE)),.sh (.lst (sp.map .int))]=some (.own ((edF ps 0 0 sp).map prE)):=by
 unfold Ui;walk_at "ev";rw[Jcw,JbE,LA];refine Vz (f:=fun x:Int×Nat=>D.tup [.int (x.2:Int),.int x.1]) (fun(rest:List (Int×Nat)) (s:List Pr×Int) E=>∃j4 j5 j6 j7,E=[.sh (.row (ps.map prE)),.sh (.lst (sp.map .int)),.own (s.1.map prE),.sh (.int s.2),j4,j5,j6,j7]/\s.1.length+rest.length<=1000)
  (fun s x=>(s.1++[(x.1+2*(x.2:Int)-(below ps x.1-s.2),below ps x.1-s.2+1)],below ps x.1)) ([],0) ⟨.no,.no,.no,.no,rfl,by simpa using hs⟩ ?_ ?_
 ·rintro x rest ⟨acc,c⟩ E ⟨j4,j5,j6,j7,rfl,hz⟩;rw[Qu] at hz;dsimp only at hz ⊢;walk_at "ev";rw[Jku _ _ hp];walk_at "ev";refine⟨.sh (.int (x.2:Int)),.sh (.int x.1),.sh (.int (below ps x.1)),.sh (.int (below ps x.1-c)),?_,by rw[Qy,GH];omega (config:={})⟩;rw[Gd];rfl
 ·rintro E' ⟨j4,j5,j6,j7,rfl,_⟩
  have ef:∀(sp:List Int) (i:Nat) (acc:List Pr) (c:Int),((sp.zipIdx i).foldl (fun(s:List Pr×Int) x=>(s.1++[(x.1+2*(x.2:Int)-(below ps x.1-s.2),below ps x.1-s.2+1)],below ps x.1)) (acc,c)).1=acc++edF ps i c sp:=by
   intro sp
   induction sp with
   | nil=>intro i acc c;simp[edF]
   | cons s r ih=>intro i acc c;rw[Lc,Gz,ih,edF,G2];rfl
  rw[ef,Lk];walk_at "ev"
theorem Jkz(ps:List Pr)(n:Nat)(g:Good ps)(h:ps.length<=30):YH [.sh (.row (ps.map prE)),.sh (.int (n:Int))]=some (.sh (.row ((byF (n:Int) ps).map prE))):=by unfold YH;walk_at "ev";rw[Jqv _ _ (by omega)];walk_at "ev";rw[Jbv rfl (((Ja0 g).bys (k:=(n:Int))).good (by omega)) (by rw[Jg7];exact h)];walk_at "ev"
noncomputable def JN(ps:List Pr):List Int:=ps.map fun p=>p.1+p.2
noncomputable def Yt(prs:List Pr):List Int:=prs.flatMap fun p=>Qw p.2.toNat p.1
theorem Jpp(ps prs:List Pr)(g:Good ps)(hn:∀p∈prs,0<=p.2)(h:(ps.length:Int)+(prs.map (·.2)).sum<=30)(hp:ps.length<=30)(hq:prs.length<=30) :
 Uw [.sh (.row (ps.map prE)),.sh (.lst (prs.map prE))]=some (.sh (.row ((edF ps 0 0 (JZ (JN ps++Yt prs))).map prE))):=by
 have ml:∀(prs:List Pr),(∀p∈prs,0<=p.2)->((Yt prs).length:Int)=(prs.map (·.2)).sum:=by
  intro prs
  induction prs with
  | nil=>intro _;rfl
  | cons p r ih =>
   intro hn;have h1:=ih fun q hq=>hn q (Qc _ hq)
   have h2:=hn p Qf;unfold Yt at *;rw[Gx,Qy,Kh,Qi,QT];omega
 have hml:=ml prs hn
 have hsl:(JZ (JN ps++Yt prs)).length=ps.length+(Yt prs).length:=by rw[(Jw _).length_eq,Qy];unfold JN;rw[Qo]
 have ge:=(Ji7 g (UE (JN ps++Yt prs)) fun p hp=>(Jw _).mem_iff.mpr (LN _ (QQ.mpr ⟨p,hp,rfl⟩))).1
 have el:=JdM ps (JZ (JN ps++Yt prs)) 0 0;unfold Uw;walk_at "ev";rw[Yk (g:=fun p=>D.int p.2)]
 ·walk_at "ev";rw[YO (ns:=prs.map (·.2)) (by simp[Sl.q])];walk_at "ev";rw[decide_eq_false (by omega)];walk_at "ev";rw[Yk (g:=fun p=>D.int (p.1+p.2))]
  ·walk_at "ev";rw[show ps.map (fun p=>D.int (p.1+p.2))=(JN ps).map D.int by unfold JN;rw[Gg];rfl,LA];refine Vz (fun(rest:List Pr) (L:List Int) E=>∃j3 j4,E=[.sh (.row (ps.map prE)),.sh (.lst (prs.map prE)),.own (L.map .int),j3,j4]/\(L.length:Int)+(rest.map (·.2)).sum<=30/\∀p∈rest,0<=p.2) (fun L p=>L++Qw p.2.toNat p.1) (JN ps) ⟨.no,.no,rfl,by unfold JN;rw[Qo];exact h,hn⟩ ?_ ?_
   ·rintro p rest L E ⟨j3,j4,rfl,hz,hr⟩;have h2:=hr p Qf
    have hs:0<=(rest.map (·.2)).sum:=by
     have:=ml rest fun q hq=>hr q (Qc _ hq)
     omega
    rw[Qi,QT] at hz;simp only[prE];walk_at "ev";rw[Jhz (d:=D.int p.1) rfl (JhL ⟨by omega,by omega⟩) (by omega)];walk_at "ev";rw[Kh,if_pos (by omega)];refine⟨.sh (.int p.1),.sh (.int p.2),?_,by rw[Qy,Kh];omega,fun q hq=>hr q (Qc _ hq)⟩;rw[Gd,List.map_replicate]
   ·rintro E' ⟨j3,j4,rfl,_,_⟩
    have ef:∀(prs:List Pr) (L:List Int),prs.foldl (fun L p=>L++Qw p.2.toNat p.1) L=L++Yt prs:=by
     intro prs
     induction prs with
     | nil=>intro L;simp[Yt]
     | cons p r ih=>intro L;rw[Gz,ih];unfold Yt;rw[Gx,G2]
    rw[ef];have hlt:(JN ps++Yt prs).length<64:=by rw[Qy];unfold JN;rw[Qo];omega
    walk_at "ev";rw[Jkv _ _ (by omega) (by omega)];walk_at "ev";rw[Jbv rfl ge (by omega)];walk_at "ev"
  ·intro p hp;simp only[prE];walk_at "ev"
 ·intro p hp;simp only[prE];walk_at "ev"
theorem JnD{qs:List Pr}(g:Good qs)(s:Int):owF qs s=if s∈JN qs then 1 else 0:=by
 unfold owF
 by_cases c:s∈JN qs
 ·rw[if_pos c];obtain⟨p,hp,rfl⟩:=QQ.mp c;have h1:=Good.all g p hp;rw[if_pos];refine⟨has_iff.mpr ⟨p,hp,by omega,by omega⟩,?_⟩
  cases h:Yo qs (p.1+p.2) with
  | false=>rfl
  | true =>
   obtain⟨q,hq,a1,a2⟩:=has_iff.mp h;have pw:=Good.pw g;obtain⟨i,hi,rfl⟩:=GY.mp hp;obtain⟨j,hj,rfl⟩:=GY.mp hq;rcases Lz i j with z|z|z
   ·have:=GR.mp pw i j hi hj z;omega
   ·subst z;omega
   ·have:=GR.mp pw j i hj hi z;omega
 ·rw[if_neg c,if_neg];rintro⟨h1,h2⟩;obtain⟨p,hp,a1,a2⟩:=has_iff.mp h1;refine c (QQ.mpr ⟨p,hp,?_⟩);rcases Jgt s (p.1+p.2) with z|z
  ·rw[has_iff.mpr ⟨p,hp,by omega,z⟩] at h2;cases h2
  ·omega
theorem JjK{ps:List Pr}(g:Good ps):(JN ps).Pairwise (·<·):=by
 unfold JN;rw[List.pairwise_map];refine(Good.pw g).imp_of_mem fun {a b} _ hb h=>?_
 have:=Good.all g b hb;omega
theorem JjJ{ps:List Pr}(g:Good ps):(JN ps).Nodup:=(JjK g).imp fun {a b} h=>by omega
theorem Jp8(k:Int)(ps:List Pr):spF (byF (k+1) ps)=JN (byF k ps):=by
 unfold spF JN;refine Kt fun i=>?_
 rw[Qx,Qx,LQ];unfold byF;rw[Gf,Gf]
 cases ps[i]? with
 | none=>rfl
 | some p =>
  simp only[Lm];congr 1;have e:2*(k+1)*(i:Int)=2*k*(i:Int)+2*(i:Int):=by rw[Int.mul_add,Int.add_mul];simp
  simp only[RE];rw[e];omega
theorem Jp9(ps:List Pr)(sp:List Int):spF (edF ps 0 0 sp)=sp:=by
 refine Kt fun i=>?_
 unfold spF;rw[Qx,LQ,Ly]
 cases h:(edF ps 0 0 sp)[i]? with
 | none=>rw[Lg,JdM] at h;rw[LG h];rfl
 | some q=>obtain⟨s,h1,h2⟩:=JeQ ps sp 0 0 i q h;rw[h1];simp only[Lm,Function.comp];rw[RE] at h2;rw[RE,h2]
theorem JaU:∀{l:List Int} {k:Int},l.Nodup->k∈l->l.count k=1
 | [],_,_,h=>by cases h
 | a::l,k,hn,h=>by
  rw[Q8] at hn;rw[Ll]
  by_cases c:a=k
  ·subst c;rw[Mg.mpr hn.1];simp
  ·have hm:k∈l:=(Qh.mp h).resolve_left fun z=>c z.symm
   rw[JaU hn.2 hm];simp[c]
noncomputable def spR:Int->List Pr->List Int
 | _,[]=>[]
 | d,p::r=>(p.1+p.2-1-d)::spR (d+2) r
theorem Jhi:∀(L:List Int) (a:List Pr),(a.map (·.1)).Pairwise (·<·)->(∀k∈a.map (·.1),∀s∈L,k<=s)->L.Pairwise (·<=·)->((L.foldl V7 a).map (·.1)).Pairwise (·<·)
 | [],a,h,_,_=>h
 | s::L,a,h,hk,hL=>by
  obtain⟨l1,l2⟩:=QL.mp hL;rw[Gz];have e:(V7 a s).map (·.1)=Yv (a.map (·.1)) s:=WV s a;refine Jhi L (V7 a s) ?_ (fun k hk' t ht=>?_) l2
  ·rw[e];unfold Yv;split
   ·exact h
   ·next c =>
    rw[Ku];refine⟨h,by simp,fun k hk' t ht=>?_⟩;have ht':t=s:=by simpa using ht
    subst ht';have h1:=hk k hk' t Qf;have h2:k≠t:=fun z=>c (hasK_mem.mpr (by rw[<- z];exact hk'))
    omega
  ·rw[e] at hk';unfold Yv at hk';split at hk'
   ·exact hk k hk' t (Qc _ ht)
   ·rcases QX.mp hk' with z|z
    ·exact hk k z t (Qc _ ht)
    ·have z':k=s:=by simpa using z
     subst z';exact l1 t ht
theorem JiW:∀{ps:List Pr} (i:Nat),Good ps->((ps.zipIdx i).map fun x=>x.1.1+x.1.2-1-2*(x.2:Int)).Pairwise (·<=·)
 | [],_,_=>.nil
 | [p],i,_=>by simp
 | p::q::r,i,g=>by
  have ih:=JiW (i+1) (Good.cons' g)
  have h1:=g.gap 0 p q rfl rfl
  have h2:=g.one 1 q rfl;rw[Lc,Qi];refine QL.mpr ⟨fun t ht=>?_,ih⟩;rw[Lc,Qi] at ih ht
  have hq:p.1+p.2-1-2*(i:Int)<=q.1+q.2-1-2*((i+1:Nat):Int):=by omega
  rcases Qh.mp ht with z|z
  ·subst z;exact hq
  ·have:=(QL.mp ih).1 t z;dsimp only at this ⊢;omega
noncomputable def Ww(k:Int)(qs:List Pr):List Tr:=((Vm qs).filter fun t=>decide (t.2.1>t.2.2)).map fun t=>(k,t.1,t.2.1-t.2.2)
noncomputable def tbN:Nat->Int->List Pr->List Tr
 | 0,_,_=>[]
 | n+1,k,qs=>Ww (k+1) qs++tbN n (k+1) (thF qs)
theorem JhW{k:Int}{qs:List Pr}{t:Tr}(h:t∈Ww k qs):t.1=k:=by obtain⟨u,_,e⟩:=QQ.mp h;rw[<- e]
theorem Wp:∀(r:List Pr) (cur:Pr) (e:Int),e∈JN (clF cur r)->e∈JN (cur::r)
 | [],_,_,h=>h
 | p::r,cur,e,h=>by
  unfold JN at h ⊢;rw[clF] at h;split at h
  ·next c =>
   have:=Wp r _ e h;unfold JN at this;simp only[Qi,Qh] at this ⊢;rcases this with z|z
   ·exact .inr (.inl (by omega))
   ·exact .inr (.inr z)
  ·split at h
   ·rw[Qi,Qh] at h;rcases h with z|z
    ·rw[z];simp
    ·have:=Wp r p e z;unfold JN at this;rw[Qi];exact Qc _ this
   ·have:=Wp r cur e h;unfold JN at this;simp only[Qi,Qh] at this ⊢;rcases this with z|z
    ·exact .inl z
    ·exact .inr (.inr z)
theorem Jcu:∀(ps:List Pr) (e:Int),e∈JN (clN ps)->e∈JN ps
 | [],_,h=>h
 | p::r,e,h=>by
  rw[clN] at h;split at h
  ·exact Wp r p e h
  ·have:=Jcu r e h;unfold JN at this ⊢;rw[Qi];exact Qc _ this
theorem JjL{qs:List Pr}{e:Int}(h:e∈JN (thF qs)):e∈spF qs:=by
 have:=Jcu _ e h
 have z:=Jp8 (-1) qs;rw[show(-1:Int)+1=0 by omega,Jjz] at z;rw[z];exact this
noncomputable def U2(l:List Tr):Int:=(l.map (·.2.2)).sum
theorem JeX{α:Type}(f:α->Int)(k:α->Bool):∀(l:List α),(∀x∈l,k x=false->f x=0)->((l.filter k).map f).sum=(l.map f).sum
 | [],_=>rfl
 | x::l,h=>by
  have ih:=JeX f k l fun y hy=>h y (Qc _ hy)
  rw[Qi,QT]
  cases c:k x with
  | true=>rw[List.filter_cons_of_pos c,Qi,QT,ih]
  | false=>rw[List.filter_cons_of_neg (by rw[c];simp),ih,h x Qf c,MT]
theorem VQ{α β:Type}{p:Pt}{b:Es}{f:α->D}(R:List α->β->En->Prop)(g:β->α->β):∀{as:List α} {E:En} (s:β) (h0:R as s E)
 (h:∀a as s E,R (a::as) s E->okS (R as (g s a)) ((p.bind (f a) E).bind b)),∃E',R [] (as.foldl g s) E'/\J9 p b (as.map f) E=some (.nx E')
 | [],E,s,h0,_=>⟨E,h0,rfl⟩
 | a::as,E,s,h0,h=>by
  obtain⟨E2,e2,r2⟩:=Z1 (h a as s E h0);obtain⟨E',h1,h2⟩:=VQ R g (as:=as) (E:=E2) (g s a) r2 h;refine⟨E',h1,?_⟩;rw[Qi,J9]
  cases hp:p.bind (f a) E with
  | none=>rw[hp] at e2;rcases e2 with e2|e2 <;> cases e2
  | some E1=>rw[hp,QG] at e2;rw[QG];rcases e2 with e2|e2 <;> (rw[e2,QG];exact h2)
theorem ZZ(prs:List Pr)(s:Int):((Yt prs).count s:Int)=(prs.map fun p=>if p.1=s then((p.2.toNat:Nat):Int) else 0).sum:=by
 induction prs with
 | nil=>rfl
 | cons p r ih =>
  unfold Yt at *;rw[Gx,LC,Qi,QT,<- ih,List.count_replicate];split <;> rename_i c
  ·have c':p.1=s:=by simpa using c
   rw[if_pos c'];omega
  ·have c':¬p.1=s:=by simpa using c
   rw[if_neg c'];omega
theorem Jfk{a:List Pr}(f:Pr->Int)(hn:(a.map (·.1)).Nodup)(s:Int):(a.map fun p=>if p.1=s then f p else 0).sum=if s∈a.map (·.1) then f (s,lk s a) else 0:=by
 induction a with
 | nil=>rfl
 | cons p r ih =>
  rw[Qi,Q8] at hn;rw[Qi,QT,ih hn.2,lk]
  by_cases c:p.1=s
  ·subst c;rw[if_pos rfl,if_pos rfl,if_neg hn.1,if_pos (by simp)];simp
  ·rw[if_neg c,if_neg c,MT];have:(s∈(p::r).map (·.1))=(s∈r.map (·.1)):=by simp[QC c]
   simp only[this]
noncomputable def JbO(l:List Tr):List Pr:=l.map fun t=>(t.2.1,t.2.2)
theorem JgM{q:List Pr}(g:Good q)(k:Int):JZ (JN (thF q)++Yt (JbO (Ww k q)))=spF q:=by
 obtain⟨c1,c2,c3⟩:=Jmw (spF q);have gt:=Jdn g;have nd:=JjJ gt;refine List.Perm.eq_of_pairwise (le:=(·<=·)) (fun a b _ _ h1 h2=>by omega) (UE _) (JiW 0 g) ((Jw _).trans (List.perm_iff_count.mpr fun s=>?_));rw[LC]
 have e1:((Yt (JbO (Ww k q))).count s:Int)=if s∈spF q then((spF q).count s:Int)-(if s∈JN (thF q) then 1 else 0) else 0:=by
  rw[ZZ];unfold JbO Ww;rw[Gg,Gg];refine Eq.trans (show _=(((Vm q).filter fun t=>decide (t.2.1>t.2.2)).map fun t=>if t.1=s then(((t.2.1-t.2.2).toNat:Nat):Int) else 0).sum from rfl) ?_;rw[JeX]
  ·unfold Vm;rw[Gg];have f2:((Jbs (spF q)).map ((fun t:Tr=>if t.1=s then(((t.2.1-t.2.2).toNat:Nat):Int) else 0) ∘ fun p:Pr=>((p.1,p.2,owF (thF q) p.1):Tr))).sum=((Jbs (spF q)).map fun p=>if p.1=s then(((p.2-owF (thF q) p.1).toNat:Nat):Int) else 0).sum:=rfl;rw[f2,Jfk (fun p=>(((p.2-owF (thF q) p.1).toNat:Nat):Int)) c1];have mm:s∈(Jbs (spF q)).map (·.1)↔s∈spF q:=⟨fun h=>by obtain⟨p,hp,e⟩:=QQ.mp h;rw[<- e];exact(c2 p hp).2,fun h=>QQ.mpr ⟨_,c3 s h,rfl⟩⟩
   by_cases h:s∈spF q
   ·rw[if_pos (mm.mpr h),if_pos h,JdY c1 (c3 s h) (p:=(s,((spF q).count s:Int)))];dsimp only;rw[JnD gt];have:0<(spF q).count s:=Mh.mpr h;split <;> omega
   ·rw[if_neg fun z=>h (mm.mp z),if_neg h]
  ·intro t ht c;have c':=of_decide_eq_false c;split
   ·omega
   ·rfl
 have e2:(JN (thF q)).count s=if s∈JN (thF q) then 1 else 0:=by
  split
  ·next h=>exact JaU nd h
  ·next h=>exact Mg.mpr h
 rw[e2]
 by_cases h:s∈spF q
 ·rw[if_pos h] at e1;have:0<(spF q).count s:=Mh.mpr h;split at e1 <;> rename_i c
  ·rw[if_pos c];omega
  ·rw[if_neg c];omega
 ·rw[if_neg h] at e1;rw[if_neg fun z=>h (JjL z),Mg.mpr h];omega
noncomputable def putF(ps prs:List Pr):List Pr:=edF ps 0 0 (JZ (JN ps++Yt prs))
noncomputable abbrev Gp:=Int×List Pr
noncomputable def Uh:List Gp->Tr->List Gp
 | [],t=>[(t.1,[(t.2.1,t.2.2)])]
 | g::gs,t=>if g.1=t.1 then(g.1,g.2++[(t.2.1,t.2.2)])::gs else g::Uh gs t
noncomputable def UL(tb:List Tr):List Gp:=tb.foldl Uh []
noncomputable def V0:Int->List Gp->List Pr
 | _,[]=>[]
 | k,g::gs=>byF (g.1-k-1) (putF (V0 g.1 gs) g.2)
noncomputable def OkG:Int->List Gp->Prop
 | _,[]=>True
 | k,g::gs=>k<g.1/\(∀p∈g.2,1<=p.2)/\Good (V0 g.1 gs)/\((V0 g.1 gs).length:Int)+(g.2.map (·.2)).sum<=30/\Good (putF (V0 g.1 gs) g.2)/\(putF (V0 g.1 gs) g.2).length<=30/\OkG g.1 gs
theorem Jfe{k:Int}{q:List Pr}{t:Tr}(h:t∈Ww k q):1<=t.2.2:=by unfold Ww at h;obtain⟨u,hu,e⟩:=QQ.mp h;obtain⟨_,c⟩:=M0.mp hu;have:=of_decide_eq_true c;rw[<- e];dsimp only;omega
noncomputable abbrev ctB:Es:=(Jl (xIf (tOr? (tB? (e2 fLt (Jb 2) (eC (.int 1)))) (tB? (e2 fLt (Jb 4) (eC (.int 1))))) Ya Jy) (Jl (xIf (tAnd? (tB? (e2 WT (Jb 1) (eC .non))) (tB? (e2 Jhw (Y7 (aC (Jb 2) (aC (Jb 3) a0))) (Jb 1)))) Ya Jy) (Jn 1 (Y7 (aC (Jb 2) (aC (Jb 3) a0))))))
noncomputable abbrev ctP:Pt:=(.tp (.cons (.nm 2) (.cons (.nm 3) (.cons (.nm 4) .nil))))
noncomputable abbrev gpP:Pt:=(.tp (.cons (.nm 2) (.cons (.nm 3) (.cons (.nm 4) .nil))))
noncomputable abbrev gpK:Ev:=(Jb 2)
noncomputable abbrev gpV:Ev:=(Y7 (aC (Jb 3) (aC (Jb 4) a0)))
noncomputable abbrev roB:Es:=(Jn 6 (eU 2 YH (aC (eU 2 Uw (aC (Jb 6) (aC (Jhn (Jb 1) (Jb 2)) a0))) (aC (e2 Y0 (e2 Y0 (Jb 2) (Jb 7)) (eC (.int 1))) a0))))
noncomputable abbrev roP:Pt:=(.tp (.cons (.nm 7) (.cons (.nm 2) .nil)))
noncomputable def Zx:Option Pr->List Tr->Prop
 | _,[]=>True
 | a,t::r=>1<=t.1/\1<=t.2.2/\(∀b,a=some b->b.1<t.1\/(b.1=t.1/\b.2<t.2.1))/\Zx (some (t.1,t.2.1)) r
noncomputable def ahE:Option Pr->D
 | none=>.non
 | some p=>prE p
theorem JeK(x:Sl):∀(tb:List Tr) (a:Option Pr) (j2 j3 j4:Sl),Zx a tb->∃E',J9 ctP ctB (tb.map trE) [x,.sh (ahE a),j2,j3,j4]=some (.nx (x::E'))/\E'.length=4
 | [],a,j2,j3,j4,_=>⟨_,rfl,rfl⟩
 | t::r,a,j2,j3,j4,h=>by
  obtain⟨h1,h2,h3,h4⟩:=h;obtain⟨E',ih⟩:=JeK x r (some (t.1,t.2.1)) (.sh (.int t.1)) (.sh (.int t.2.1)) (.sh (.int t.2.2)) h4;refine⟨E',?_,ih.2⟩;rw[Qi,J9];simp only[trE];walk_at "ev";rw[decide_eq_false (show ¬t.1<1 by omega)];walk_at "ev";rw[decide_eq_false (show ¬t.2.2<1 by omega)];walk_at "ev"
  cases a with
  | none=>simp only[ahE];walk_at "ev";exact ih.1
  | some b =>
   have hb:=h3 b rfl;simp only[ahE,prE];walk_at "ev"
   have e:(if t.1=b.1 then decide (t.2.1<=b.2) else decide (t.1<=b.1))=false:=by
    split
    ·exact decide_eq_false (by omega)
    ·exact decide_eq_false (by omega)
   rw[e];walk_at "ev";exact ih.1
theorem Jcc:∀(g:List Gp) (t:Tr),(Uh g t).map (·.1)=Yv (g.map (·.1)) t.1
 | [],t=>rfl
 | x::g,t=>by
  have ih:=Jcc g t;unfold Yv Zi at ih ⊢;rw[Uh,Qi,GP]
  by_cases h:x.1=t.1
  ·rw[if_pos h,decide_eq_true h,LY,if_pos rfl];rfl
  ·rw[if_neg h,decide_eq_false h,GA,Qi,ih];split <;> rfl
theorem JaK:∀(g:List Gp) (t:Tr),Jaw (g.map (·.1)) (g.map fun x=>x.2.map prE) t.1 (prE (t.2.1,t.2.2))=(Uh g t).map fun x=>x.2.map prE
 | [],t=>rfl
 | x::g,t=>by
  rw[Qi,Qi,Jaw,Uh];split
  ·simp
  ·rw[JaK g t];rfl
theorem Jpn(x a5 a6 a7:Sl):∀(tb:List Tr) (g:List Gp) (j2 j3 j4:Sl),∃j2' j3' j4',Wr gpP gpK gpV (tb.map trE) [x,.no,j2,j3,j4,a5,a6,a7] (g.map (·.1)) (g.map fun x=>x.2.map prE) =
 some ([x,.no,j2',j3',j4',a5,a6,a7],(tb.foldl Uh g).map (·.1),(tb.foldl Uh g).map fun x=>x.2.map prE)
 | [],g,j2,j3,j4=>⟨j2,j3,j4,rfl⟩
 | t::tb,g,j2,j3,j4=>by obtain⟨a,b,c,ih⟩:=Jpn x a5 a6 a7 tb (Uh g t) (.sh (.int t.1)) (.sh (.int t.2.1)) (.sh (.int t.2.2));refine⟨a,b,c,?_⟩;rw[Qi,Wr];simp only[trE];walk_at "ev";rw[<- Jcc,show D.tup [D.int t.2.1,D.int t.2.2]=prE (t.2.1,t.2.2) from rfl,JaK];exact ih
theorem JcH{p:Pt}{b:Es}(hb:∀E o,b E=some o->∃E',o=.nx E'):∀{xs ys:List D} {E E1:En},J9 p b xs E=some (.nx E1)->J9 p b (xs++ys) E=J9 p b ys E1
 | [],ys,E,E1,h=>by cases h;rfl
 | x::xs,ys,E,E1,h=>by
  rw[J9] at h;rw[KI,J9]
  cases hp:p.bind x E with
  | none=>rw[hp] at h;cases h
  | some E2 =>
   rw[hp,QG] at h;rw[QG]
   cases ho:b E2 with
   | none=>rw[ho] at h;cases h
   | some o=>obtain⟨E3,e⟩:=hb E2 o ho;subst e;rw[ho,QG] at h;rw[QG];exact JcH hb h
theorem Jlt(i:Nat)(a:Ev):∀E o,Jn i a E=some o->∃E',o=.nx E':=fun E o e=>by
 unfold Jn at e;obtain⟨s,_,e⟩:=bind_some e;obtain⟨d,_,e⟩:=bind_some e;split at e
 ·cases e;exact⟨_,rfl⟩
 ·cases e
noncomputable def zl(k:Int)(gs:List Gp):List Pr:=List.zip (k::gs.map (·.1)) (gs.map (·.1))
theorem JlO(k:Int)(g:Gp)(gs:List Gp):zl k (g::gs)=(k,g.1)::zl g.1 gs:=rfl
theorem JcG:∀{all:List Gp} {g:Gp},(all.map (·.1)).Nodup->g∈all->look (all.map (·.1)) ((all.map fun x=>x.2.map prE).map D.lst) g.1=some (.lst (g.2.map prE))
 | [],_,_,h=>by cases h
 | x::r,g,hn,h=>by
  rw[Qi,Q8] at hn;simp only[Qi,look];rcases Qh.mp h with z|z
  ·subst z;rw[if_pos rfl]
  ·rw[if_neg fun e=>hn.1 (by rw[e];exact QQ.mpr ⟨g,z,rfl⟩)];exact JcG hn.2 z
theorem JkF{l:List Pr}(h:∀p∈l,1<=p.2):(l.length:Int)<=(l.map (·.2)).sum:=by
 induction l with
 | nil=>exact Gy _
 | cons p r ih =>
  have:=ih fun q hq=>h q (Qc _ hq)
  have:=h p Qf;rw[Qi,QT,Qu];omega
theorem JfC(x a5:Sl)(j3 j4:Sl)(all:List Gp)(hn:(all.map (·.1)).Nodup):∀(gs:List Gp) (k:Int) (j2 j7:Sl),OkG k gs->(∀g∈gs,g∈all) ->
 ∃j2' j7',J9 roP roB ((zl k gs).reverse.map prE) [x,.od (all.map (·.1)) ((all.map fun x=>x.2.map prE).map D.lst),j2,j3,j4,a5,.sh (.row (([]:List Pr).map prE)),j7]=some (.nx [x,.od (all.map (·.1)) ((all.map fun x=>x.2.map prE).map D.lst),j2',j3,j4,a5,.sh (.row ((V0 k gs).map prE)),j7'])
 | [],k,j2,j7,_,_=>⟨j2,j7,rfl⟩
 | g::gs,k,j2,j7,h,hm=>by
  obtain⟨h1,h2,h3,h4,h5,h6,h7⟩:=h;obtain⟨a,b,ih⟩:=JfC x a5 j3 j4 all hn gs g.1 j2 j7 h7 fun y hy=>hm y (Qc _ hy)
  have nl:=JkF h2;refine⟨.sh (.int g.1),.sh (.int k),?_⟩;rw[JlO,GZ,Gd,JcH (Jlt 6 _) ih]
  show J9 roP roB [prE (k,g.1)] _=_;rw[J9];simp only[prE];walk_at "ev";rw[JcG hn (hm g Qf)];walk_at "ev";rw[Jpp (V0 g.1 gs) g.2 h3 (fun p hp=>by have:=h2 p hp;omega) h4 (by omega) (by omega)];walk_at "ev";rw[show edF (V0 g.1 gs) 0 0 (JZ (JN (V0 g.1 gs)++Yt g.2))=putF (V0 g.1 gs) g.2 from rfl,show g.1-k-1=(((g.1-k-1).toNat:Nat):Int) by omega,Jkz _ _ h5 h6];walk_at "ev";rw[show(((g.1-k-1).toNat:Nat):Int)=g.1-k-1 by omega]
  rfl
theorem Jfj:∀{gs:List Gp} {k:Int},OkG k gs->(gs.map (·.1)).Pairwise (·<·)/\∀y∈gs.map (·.1),k<y
 | [],_,_=>⟨.nil,fun _ h=>by cases h⟩
 | g::gs,k,h=>by
  obtain⟨h1,_,_,_,_,_,h7⟩:=h;obtain⟨i1,i2⟩:=Jfj h7;refine⟨QL.mpr ⟨i2,i1⟩,fun y hy=>?_⟩;rcases Qh.mp hy with z|z
  ·rw[z];exact h1
  ·have:=i2 y z;omega
theorem Jcb:∀(g:List Gp) (t:Tr),(Uh g t).length<=g.length+1
 | [],t=>Qn _
 | x::g,t=>by
  have:=Jcb g t;rw[Uh];split
  ·simp
  ·simp only[Qu];omega
theorem Je2:∀(tb:List Tr) (g:List Gp),(tb.foldl Uh g).length<=g.length+tb.length
 | [],g=>by simp
 | t::tb,g=>by
  have:=Je2 tb (Uh g t)
  have:=Jcb g t;rw[Gz,Qu];omega
theorem Jfd{q:List Pr}(g:Good q)(k:Int):((Ww k q).map (·.2.1)).Pairwise (·<·):=by
 have h:=Jhi (spF q) [] (by simp) (fun _ h=>by simp at h) (JiW 0 g)
 have e:(Ww k q).map (·.2.1)=(((Vm q).filter fun t=>decide (t.2.1>t.2.2)).map (·.1)):=by unfold Ww;rw[Gg];rfl
 rw[e]
 have e2:(Vm q).map (·.1)=(Jbs (spF q)).map (·.1):=by unfold Vm;rw[Gg];rfl
 have h':((Vm q).map (·.1)).Pairwise (·<·):=by rw[e2];exact h
 rw[List.pairwise_map] at h' ⊢;exact h'.filter _
theorem bare{c1 c2 p1 p2 ins s:Int}(hb:c1+c2<=p1)(hp:p2=0)(hc:0<=c2)(h0:0<=ins)(h1:ins<=s):∃t m w,min c2 (s-ins)=t/\max 0 (ins+t-(p1-c1-c2))=m/\min (ins+t) (p1-c1-c2)=w/\min p2 (s-m)=0/\0<=t/\t<=c2 ∧
 ((m=0/\w=ins+t/\ins+t<=p1-c1-c2)\/(m=ins+t-(p1-c1-c2)/\w=p1-c1-c2/\p1-c1-c2<=ins+t)):=by
 obtain⟨t,ht,t0,t1,t2⟩:∃t,min c2 (s-ins)=t/\0<=t/\t<=c2/\ins+t<=s:=⟨_,rfl,by omega (config:={}),by omega (config:={}),by omega (config:={})⟩
 rw[ht];rcases Int.le_total (ins+t) (p1-c1-c2) with h|h
 ·exact⟨t,0,ins+t,rfl,by omega (config:={}),M5 h,by omega (config:={}),t0,t1,.inl ⟨rfl,rfl,h⟩⟩
 ·exact⟨t,ins+t-(p1-c1-c2),p1-c1-c2,rfl,by omega (config:={}),Le h,by omega (config:={}),t0,t1,.inr ⟨rfl,rfl,h⟩⟩
theorem JhV:∀{a b:List Pr},(a.map (·.1)).Pairwise (·<·)->(b.map (·.1)).Pairwise (·<·)->(∀p∈a,1<=p.2)->(∀p∈b,1<=p.2)->(∀x,lk x a=lk x b)->a=b
 | [],[],_,_,_,_,_=>rfl
 | [],q::b,_,_,_,h,e=>by
  have:=e q.1;rw[lk,lk,if_pos rfl] at this
  have:=h q Qf;omega
 | p::a,[],_,_,h,_,e=>by
  have:=e p.1;rw[lk,lk,if_pos rfl] at this
  have:=h p Qf;omega
 | p::a,q::b,ha,hb,h1,h2,e=>by
  rw[Qi,QL] at ha hb
  have out:∀{l:List Pr} {x:Int},(∀y∈l.map (·.1),x<y)->lk x l=0:=fun {l x} h=>by
   induction l with
   | nil=>rfl
   | cons r l ih=>rw[lk,if_neg fun z=>by have:=h r.1 (by simp);omega];exact ih fun y hy=>h y (by rw[Qi];exact Qc _ hy)
  have hp:=h1 p Qf
  have hq:=h2 q Qf
  have ek:p.1=q.1:=by
   rcases Int.lt_trichotomy p.1 q.1 with z|z|z
   ·have:=e p.1;rw[lk,if_pos rfl,lk,if_neg (by omega),out fun y hy=>by have:=hb.1 y hy;omega] at this;omega
   ·exact z
   ·have:=e q.1;rw[lk,if_neg (by omega),lk,if_pos rfl,out fun y hy=>by have:=ha.1 y hy;omega] at this;omega
  have ev:p.2=q.2:=by have:=e p.1;rw[lk,if_pos rfl,lk,if_pos ek.symm] at this;exact this
  have:p=q:=Prod.ext ek ev;subst this;rw[JhV ha.2 hb.2 (fun r hr=>h1 r (Qc _ hr)) (fun r hr=>h2 r (Qc _ hr)) fun x=>?_]
  have:=e x;rw[lk,lk] at this
  by_cases c:p.1=x
  ·subst c;rw[out ha.1,out hb.1]
  ·rwa [if_neg c,if_neg c] at this
theorem Jfc:∀{a:List Pr} {x:Int},x∉a.map (·.1)->lk x a=0
 | [],_,_=>rfl
 | p::r,x,h=>by rw[lk,if_neg fun z=>h (by rw[<- z];simp)];exact Jfc fun m=>h (by rw[Qi];exact Qc _ m)
theorem Jfb{a:List Pr}(hn:(a.map (·.1)).Nodup)(h:∀p∈a,1<=p.2)(x:Int):lk x a=((Yt a).count x:Int):=by
 rw[ZZ,Jfk (fun p=>((p.2.toNat:Nat):Int)) hn];split
 ·next m=>obtain⟨p,hp,e⟩:=QQ.mp m;subst e;rw[JdY hn hp];have:=h p hp;dsimp only;omega
 ·next m=>exact Jfc m
theorem Jfs(l:List Tr):(JbO l).map (·.1)=l.map (·.2.1):=by unfold JbO;rw[Gg];rfl
theorem Jnd{q:List Pr}(g:Good q)(k x:Int):lk x (JbO (Ww k q))+((JN (thF q)).count x:Int)=((spF q).count x:Int):=by
 have pw:=Jfd g k;rw[Jfb (by rw[Jfs];exact pw.imp fun {a b} h=>by omega) fun p hp=>by obtain⟨u,hu,e⟩:=QQ.mp hp;rw[<- e];exact Jfe hu]
 have:=((Jw (JN (thF q)++Yt (JbO (Ww k q)))).count_eq x)
 rw[JgM g k,LC] at this;omega
theorem Jil(k:Int)(l:List Tr)(h:∀t∈l,t.1=k):l=(JbO l).map fun p=>(k,p.1,p.2):=by
 unfold JbO;rw[Gg];refine(List.map_id' l).symm.trans (KC fun t ht=>?_);show t=(k,t.2.1,t.2.2)
 rw[<- h t ht]
theorem Jff{ps prs:List Pr}(g:Good ps)(hp:∀p∈prs,1<=p.2)(pw:(prs.map (·.1)).Pairwise (·<·))(k:Int):Good (putF ps prs)/\thF (putF ps prs)=ps/\Ww k (putF ps prs)=prs.map fun p=>(k,p.1,p.2):=by
 have hs:(JZ (JN ps++Yt prs)).Pairwise (·<=·):=UE _
 have he:∀p∈ps,p.1+p.2∈JZ (JN ps++Yt prs):=fun p h=>(Jw _).mem_iff.mpr (QX.mpr (.inl (QQ.mpr ⟨p,h,rfl⟩)))
 obtain⟨g1,th⟩:=Ji7 g hs he;have g1:Good (putF ps prs):=g1;have th:thF (putF ps prs)=ps:=th;refine⟨g1,th,?_⟩;rw[Jil k (Ww k (putF ps prs)) fun t ht=>JhW ht];refine congrArg (List.map _) (JhV (by rw[Jfs];exact Jfd g1 k) pw (fun p hp=>by obtain⟨u,hu,e⟩:=QQ.mp hp;rw[<- e];exact Jfe hu) hp fun x=>?_)
 have e1:=Jnd g1 k x
 have e2:spF (putF ps prs)=JZ (JN ps++Yt prs):=Jp9 _ _;rw[th,e2,(Jw _).count_eq x,LC] at e1
 have e3:=Jfb (pw.imp fun {a b} h=>by omega) hp (x:=x);omega
noncomputable def GpR:Int->List Gp->Prop
 | _,[]=>True
 | k,g::gs=>k<g.1/\g.2≠[]/\(∀p∈g.2,1<=p.2)/\(g.2.map (·.1)).Pairwise (·<·)/\GpR g.1 gs
noncomputable def flG(gs:List Gp):List Tr:=gs.flatMap fun g=>g.2.map fun p=>(g.1,p.1,p.2)
theorem Jbd:∀(gs:List Gp) (k:Int),GpR k gs->Good (V0 k gs)
 | [],_,_=>Good.nil
 | g::gs,k,h=>by obtain⟨h1,h2,h3,h4,h5⟩:=h;have a:=(Jff (Jbd gs g.1 h5) h3 h4 0).1;exact((Ja0 a).bys (k:=g.1-k-1)).good (by omega)
theorem JeU:∀(gs:List Gp) (t:Tr),(gs.map (·.1)).Pairwise (·<·)->(∀g∈gs,g.1<=t.1)->flG (Uh gs t)=flG gs++[t]
 | [],t,_,_=>rfl
 | g::gs,t,hp,h=>by
  rw[Qi,QL] at hp;rw[Uh]
  by_cases c:g.1=t.1
  ·rw[if_pos c]
   have e:gs=[]:=by
    cases gs with
    | nil=>rfl
    | cons x xs =>
     have h1:=hp.1 x.1 (QQ.mpr ⟨x,Qf,rfl⟩)
     have h2:=h x (Qc _ Qf);omega
   subst e;unfold flG;rw[Gx,Gx,Gd,List.flatMap_nil,Kl,Kl,c];rfl
  ·rw[if_neg c];unfold flG;rw[Gx,Gx,G2];exact congrArg _ (JeU gs t hp.2 fun x hx=>h x (Qc _ hx))
theorem Jg0:∀(gs:List Gp) (k:Int) (t:Tr),GpR k gs->k<t.1->1<=t.2.2->(∀g∈gs,g.1<=t.1/\(g.1=t.1->∀p∈g.2,p.1<t.2.1))->GpR k (Uh gs t)
 | [],k,t,_,h1,h2,_=>by rw[Uh];exact⟨h1,by simp,fun p hp=>by rw[QK.mp hp];exact h2,by simp,trivial⟩
 | g::gs,k,t,h,h1,h2,h3=>by
  obtain⟨a1,a2,a3,a4,a5⟩:=h;obtain⟨b1,b2⟩:=h3 g Qf;rw[Uh]
  by_cases c:g.1=t.1
  ·rw[if_pos c];refine⟨a1,by simp,fun p hp=>?_,?_,a5⟩
   ·rcases QX.mp hp with z|z
    ·exact a3 p z
    ·rw[QK.mp z];exact h2
   ·dsimp only;rw[Gd,Ku];refine⟨a4,by simp,fun x hx y hy=>?_⟩;obtain⟨p,hp,rfl⟩:=QQ.mp hx;simp at hy;subst hy;exact b2 c p hp
  ·rw[if_neg c];exact⟨a1,a2,a3,a4,Jg0 gs g.1 t a5 (by omega) h2 fun x hx=>h3 x (Qc _ hx)⟩
theorem Jca:∀(gs:List Gp) (t:Tr) (g:Gp),g∈Uh gs t->(∃x∈gs,x.1=g.1/\∀p∈g.2,p∈x.2\/(g.1=t.1/\p.1=t.2.1))\/(g.1=t.1/\∀p∈g.2,p.1=t.2.1)
 | [],t,g,h=>by rw[Uh,QK] at h;subst h;exact .inr ⟨rfl,fun p hp=>by rw[QK.mp hp]⟩
 | x::gs,t,g,h=>by
  rw[Uh] at h
  by_cases c:x.1=t.1
  ·rw[if_pos c] at h;rcases Qh.mp h with z|z
   ·subst z;refine .inl ⟨x,Qf,rfl,fun p hp=>?_⟩;rcases QX.mp hp with y|y
    ·exact .inl y
    ·exact .inr ⟨c,by rw[QK.mp y]⟩
   ·exact .inl ⟨g,Qc _ z,rfl,fun p hp=>.inl hp⟩
  ·rw[if_neg c] at h;rcases Qh.mp h with z|z
   ·subst z;exact .inl ⟨g,Qf,rfl,fun p hp=>.inl hp⟩
   ·rcases Jca gs t g z with ⟨y,hy,r⟩|r
    ·exact .inl ⟨y,Qc _ hy,r⟩
    ·exact .inr r
theorem GpR.keys:∀{gs:List Gp} {k:Int},GpR k gs->(gs.map (·.1)).Pairwise (·<·)/\∀g∈gs,k<g.1
 | [],_,_=>⟨List.Pairwise.nil,fun g h=>(GX h).elim⟩
 | g::gs,k,h=>by
  obtain⟨a1,_,_,_,a5⟩:=h;obtain⟨b1,b2⟩:=GpR.keys a5;refine⟨QL.mpr ⟨fun x hx=>?_,b1⟩,fun x hx=>?_⟩
  ·obtain⟨y,hy,rfl⟩:=QQ.mp hx;exact b2 y hy
  ·rcases Qh.mp hx with z|z
   ·rw[z];exact a1
   ·have:=b2 x z;omega
theorem JhC:∀(tb:List Tr) (gs:List Gp) (a:Option Pr),Zx a tb->GpR 0 gs->(∀g∈gs,∃b,a=some b/\g.1<=b.1/\(g.1=b.1->∀p∈g.2,p.1<=b.2))->GpR 0 (tb.foldl Uh gs)/\flG (tb.foldl Uh gs)=flG gs++tb
 | [],gs,_,_,h,_=>⟨h,by simp⟩
 | t::tb,gs,a,ha,h,hb=>by
  obtain⟨t1,t2,t3,t4⟩:=ha
  have old:∀g∈gs,g.1<=t.1/\(g.1=t.1->∀p∈g.2,p.1<t.2.1):=fun g hg=>by obtain⟨b,e,l1,l2⟩:=hb g hg;have:=t3 b e;refine⟨by omega,fun z p hp=>?_⟩;have:=l2 (by omega) p hp;omega
  have n1:=Jg0 gs 0 t h (by omega) t2 old
  have n2:=JeU gs t h.keys.1 fun g hg=>(old g hg).1
  obtain⟨r1,r2⟩:=JhC tb (Uh gs t) _ t4 n1 fun g hg=>⟨_,rfl,by
   rcases Jca gs t g hg with ⟨x,hx,e,q⟩|⟨e,q⟩
   ·have o:=old x hx;refine⟨by dsimp only;omega,fun z p hp=>?_⟩;rcases q p hp with y|y
    ·have:=o.2 (e.trans z) p y;dsimp only;omega
    ·dsimp only;omega
   ·exact⟨by dsimp only;omega,fun z p hp=>by have:=q p hp;dsimp only;omega⟩⟩
  rw[Gz];refine⟨r1,?_⟩;rw[r2,n2,G2];rfl
theorem Jpc{tb:List Tr}(h:Zx none tb):GpR 0 (UL tb)/\flG (UL tb)=tb:=JhC tb [] none h trivial fun g hg=>(GX hg).elim
theorem JlT(ps:List Pr):∀(sp:List Int) (i:Nat) (c:Int),(edF ps i c sp).length=sp.length
 | [],_,_=>rfl
 | s::r,i,c=>by rw[edF,Qu,JlT ps r,Qu]
theorem JbI:∀(prs:List Pr),(∀p∈prs,1<=p.2)->((Yt prs).length:Int)=(prs.map (·.2)).sum
 | [],_=>rfl
 | p::r,h=>by
  have ih:=JbI r fun x hx=>h x (Qc _ hx)
  have:=h p Qf;unfold Yt at *;rw[Gx,Qy,Kh,Qi,QT,<- ih];omega
theorem Jiu(ps prs:List Pr)(h:∀p∈prs,1<=p.2):((putF ps prs).length:Int)=(ps.length:Int)+(prs.map (·.2)).sum:=by unfold putF;rw[JlT,(Jw _).length_eq,Qy,<- JbI prs h];unfold JN;rw[Qo];omega
theorem Z0(a b:List Tr):U2 (a++b)=U2 a+U2 b:=by unfold U2;rw[Gd,List.sum_append]
theorem JcN(k:Int)(prs:List Pr):U2 (prs.map fun p=>(k,p.1,p.2))=(prs.map (·.2)).sum:=by unfold U2;rw[Gg];rfl
theorem Jc7:∀(gs:List Gp) (k:Int),GpR k gs->((V0 k gs).length:Int)=U2 (flG gs)
 | [],_,_=>rfl
 | g::gs,k,h=>by obtain⟨h1,h2,h3,h4,h5⟩:=h;rw[V0,Jg7,Jiu _ _ h3,Jc7 gs g.1 h5];unfold flG;rw[Gx,Z0,JcN];omega
theorem Jh7:∀(gs:List Gp) (k:Int),GpR k gs->U2 (flG gs)<=30->OkG k gs
 | [],_,_,_=>trivial
 | g::gs,k,h,hs=>by
  have h':=h;obtain⟨h1,h2,h3,h4,h5⟩:=h
  have gr:=Jbd gs g.1 h5
  have a:=(Jff gr h3 h4 0).1
  have l:=Jc7 gs g.1 h5
  have e:U2 (flG (g::gs))=(g.2.map (·.2)).sum+U2 (flG gs):=by unfold flG;rw[Gx,Z0,JcN]
  have pl:=Jiu (V0 g.1 gs) g.2 h3
  have m0:=JbI g.2 h3;exact⟨h1,h3,gr,by omega,a,by omega,Jh7 gs g.1 h5 (by omega)⟩
structure To (N:Nat) (f:Int->Int) (ps qs:List Pr):Prop where
 g:Good qs
 l:qs.length=ps.length
 s:(qs.map (·.2)).sum=(ps.map (·.2)).sum
 e:tbN N 0 qs=(tbN N 0 ps).map fun t=>(t.1,t.2.1+f t.1,t.2.2)
theorem To.comp{N:Nat}{f h:Int->Int}{ps qs rs:List Pr}(a:To N f ps qs)(b:To N h qs rs):To N (fun x=>f x+h x) ps rs :=
 ⟨b.g,b.l.trans a.l,b.s.trans a.s,by
  rw[b.e,a.e,Gg];refine KC fun t _=>?_
  show(t.1,t.2.1+f t.1+h t.1,t.2.2)=(t.1,t.2.1+(f t.1+h t.1),t.2.2)
  rw[Int.add_assoc]⟩
theorem To.refl{N:Nat}{ps:List Pr}(g:Good ps):To N (fun _=>0) ps ps:=⟨g,rfl,rfl,by
 refine(List.map_id' _).symm.trans (KC fun t _=>?_);show t=(t.1,t.2.1+0,t.2.2)
 rw[MZ]⟩
theorem To.congr{N:Nat}{f h:Int->Int}{ps qs:List Pr}(a:To N f ps qs)(e:∀x,f x=h x):To N h ps qs:=by have:f=h:=funext e;subst this;exact a
noncomputable abbrev JdJ:Es:=(Jl (xIf (tB? (e2 fLe (Jb 2) (Jb 1))) Ya Jy) (Jl (xIf (tB? (e2 fLt (Jb 3) (eC (.int 1)))) Ya Jy) (Jn 1 (Jb 2))))
noncomputable abbrev Jf4:Xv:=(J5 (xIf (tB? (e2 fLe (Jb 2) (Jb 1))) Ya Jy) (Vu (tB? (e2 fLe (Jb 2) (Jb 1))) (YZ "BadTable" (aC (eC (.str "sizes of lumps are from 1 on, ascending, each of them once")) a0)) Yw) (J5 (xIf (tB? (e2 fLt (Jb 3) (eC (.int 1)))) Ya Jy) (Vu (tB? (e2 fLt (Jb 3) (eC (.int 1)))) (YZ "BadTable" (aC (eC (.str "numbers of lumps are from 1 on")) a0)) Yw) Yw))
noncomputable abbrev chkP:Pt:=(.tp (.cons (.nm 2) (.cons (.nm 3) .nil)))
noncomputable def YQ:Int->List Pr->Bool
 | _,[]=>false
 | a,p::r=>decide (p.1<=a) || (decide (p.2<1) || YQ p.1 r)
theorem Jcm:∀(ps:List Pr) (a:Int) (x j2 j3:Sl),YQ a ps=false->∃E',J9 chkP JdJ (ps.map prE) [x,.sh (.int a),j2,j3]=some (.nx E')
 | [],a,x,j2,j3,_=>⟨_,rfl⟩
 | p::r,a,x,j2,j3,h=>by rw[YQ,Gc,Gc] at h;obtain⟨E',ih⟩:=Jcm r p.1 x (.sh (.int p.1)) (.sh (.int p.2)) h.2.2;refine⟨E',?_⟩;rw[Qi,J9];simp only[prE];walk_at "ev";rw[h.1];walk_at "ev";rw[h.2.1];walk_at "ev";exact ih
theorem JeD:∀(ps:List Pr) (a:Int) (x j2 j3:Sl),YQ a ps=true->J9 chkP JdJ (ps.map prE) [x,.sh (.int a),j2,j3]=none
 | [],a,x,j2,j3,h=>by cases h
 | p::r,a,x,j2,j3,h=>by
  rw[Qi,J9];simp only[prE];walk_at "ev"
  cases h1:decide (p.1<=a) with
  | true=>walk_at "ev";rfl
  | false =>
   walk_at "ev"
   cases h2:decide (p.2<1) with
   | true=>walk_at "ev";rfl
   | false=>rw[YQ,h1,h2,GA,GA] at h;walk_at "ev";exact JeD r p.1 x _ _ h
theorem JeC(x:Sl)(a u v:Int):Jf4 [x,.sh (.int a),.sh (.int u),.sh (.int v)]=if (decide (u<=a) || decide (v<1))=true then some (Q0 "BadTable") else none:=by
 unfold Jf4 J5 Vu YZ Yw;walk_at "ev"
 cases h1:decide (u<=a) with
 | true=>walk_at "ev";rfl
 | false =>
  walk_at "ev"
  cases h2:decide (v<1) with
  | true=>walk_at "ev";rfl
  | false=>walk_at "ev";rfl
theorem JeA(x:Sl)(a u v:Int)(h1:decide (u<=a)=false)(h2:decide (v<1)=false):JdJ [x,.sh (.int a),.sh (.int u),.sh (.int v)]=some (.nx [x,.sh (.int u),.sh (.int u),.sh (.int v)]):=by walk_at "ev";rw[h1];walk_at "ev";rw[h2];walk_at "ev"
theorem JeB(p:Pr)(x j2 j3:Sl)(a:Int):chkP.bind (prE p) [x,.sh (.int a),j2,j3]=some [x,.sh (.int a),.sh (.int p.1),.sh (.int p.2)]:=by simp only[prE];walk_at "ev"
theorem Jhg:∀(ps:List Pr) (a:Int) (x j2 j3:Sl),YQ a ps=true->Uz chkP JdJ Jf4 (ps.map prE) [x,.sh (.int a),j2,j3]=some (Q0 "BadTable")
 | [],a,x,j2,j3,h=>by cases h
 | p::r,a,x,j2,j3,h=>by
  rw[Qi,Uz];simp only[JeB,QG,JeC]
  cases h1:decide (p.1<=a) with
  | true=>rw[LY,if_pos rfl]
  | false =>
   cases h2:decide (p.2<1) with
   | true=>rw[Rz,if_pos rfl]
   | false=>rw[YQ,h1,h2,GA,GA] at h;rw[Li,if_neg Qp,JeA x a p.1 p.2 h1 h2];exact Jhg r p.1 x _ _ h
theorem Jfg(ps:List Pr)(h:YQ 0 ps=false):∃r,JJ [.sh (.lst (ps.map prE))]=some r:=by obtain⟨E',e⟩:=Jcm ps 0 (.sh (.lst (ps.map prE))) .no .no h;unfold JJ;walk_at "ev";rw[e];exact⟨_,rfl⟩
theorem JoW(ps:List Pr)(h:YQ 0 ps=true):JJ [.sh (.lst (ps.map prE))]=none:=by have e:=JeD ps 0 (.sh (.lst (ps.map prE))) .no .no h;unfold JJ;walk_at "ev";rw[e];rfl
theorem Jqf(ps:List Pr)(h:YQ 0 ps=true):Yl [.sh (.lst (ps.map prE))]=some (Q0 "BadTable"):=by
 have e:=Jhg ps 0 (.sh (.lst (ps.map prE))) .no .no h
 show J5 (Jn 1 (eC (.int 0))) Yw (JeR (iV 0) chkP JdJ Jf4) [.sh (.lst (ps.map prE)),.no,.no,.no]=_;exact e
theorem JeE:∀(ps:List Pr) (a:Int) (x j2 j3:Sl),YQ a ps=false->Uz chkP JdJ Jf4 (ps.map prE) [x,.sh (.int a),j2,j3]=none
 | [],a,x,j2,j3,h=>rfl
 | p::r,a,x,j2,j3,h=>by rw[YQ,Gc,Gc] at h;rw[Qi,Uz];simp only[JeB,QG,JeC,h.1,h.2.1,Li,if_neg Qp,JeA x a p.1 p.2 h.1 h.2.1];exact JeE r p.1 x (.sh (.int p.1)) (.sh (.int p.2)) h.2.2
theorem W9(ps:List Pr)(h:YQ 0 ps=false):Yl [.sh (.lst (ps.map prE))]=none:=by
 have e:=JeE ps 0 (.sh (.lst (ps.map prE))) .no .no h
 show J5 (Jn 1 (eC (.int 0))) Yw (JeR (iV 0) chkP JdJ Jf4) [.sh (.lst (ps.map prE)),.no,.no,.no]=_;exact e
theorem JgN(ps:List Pr):UY (.tp (.cons (.nm 0) (.cons (.nm 1) .nil))) yes? (Jb 1) [.no,.no] (ps.map prE)=some (ps.map fun p=>D.int p.2):=Yk fun p _=>by simp only[prE];walk_at "ev"
theorem Jpm(ps:List Pr)(hl:ps.length<=20)(h:¬(ps.map (·.2)).sum>30):∃r,JM [.sh (.lst (ps.map prE)),.sh (.int 30)]=some r:=by unfold JM;walk_at "ev";rw[JgN];walk_at "ev";rw[YO (ns:=ps.map (·.2)) (by simp[Sl.q])];walk_at "ev";rw[decide_eq_false h];walk_at "ev";exact⟨_,rfl⟩
noncomputable def sE:Option Int->D
 | none=>.non
 | some s=>.int s
noncomputable def shr(s:Option Int)(x:Int):Int:=match s with
 | none=>x
 | some t=>min x t
noncomputable def JoY:Option Int->Bool
 | none=>false
 | some s=>decide (s<1)
theorem Jpj(s:Option Int)(h:JoY s=false):∃r,Yy [.sh (sE s)]=some r:=by
 unfold Yy
 cases s with
 | none=>simp only[sE];walk_at "ev";exact⟨_,rfl⟩
 | some s=>simp only[sE];walk_at "ev";rw[show decide (s<1)=false from h];walk_at "ev";exact⟨_,rfl⟩
theorem Jnh(s:Option Int)(x:Int):Uj [.sh (.int x),.sh (sE s)]=some (.sh (.int (shr s x))):=by
 unfold Uj
 cases s with
 | none=>simp only[sE,shr];walk_at "ev"
 | some s=>simp only[sE,shr];walk_at "ev"
theorem Vh:∀{ps:List Pr} {a:Int},YQ a ps=false->∀p∈ps,1<=p.2
 | [],_,_,_,hp=>by cases hp
 | q::r,a,h,p,hp=>by
  rw[YQ,Gc,Gc] at h;rcases Qh.mp hp with z|z
  ·have:=of_decide_eq_false h.2.1;rw[z];omega
  ·exact Vh h.2.2 p z
theorem VS:∀{ps:List Pr},(∀p∈ps,1<=p.2)->0<=(ps.map (·.2)).sum/\∀p∈ps,p.2<=(ps.map (·.2)).sum
 | [],_=>⟨Gy _,fun _ h=>by cases h⟩
 | q::r,h=>by
  obtain⟨h1,h2⟩:=VS fun p hp=>h p (Qc q hp)
  have hq:=h q Qf;rw[Qi,QT];refine⟨by omega,fun p hp=>?_⟩;rcases Qh.mp hp with z|z
  ·rw[z];omega
  ·have:=h2 p z;omega
theorem Jfh{ps:List Pr}(h2:YQ 0 ps=false)(h3:¬(ps.map (·.2)).sum>30):∀p∈ps,1<=p.2/\p.2<=30:=fun p hp=>⟨Vh h2 p hp,by have:=(VS (Vh h2)).2 p hp;omega⟩
noncomputable def tkL(ps:List Pr)(s:Option Int):Int:=(ps.map fun p=>p.2*shr s p.1).sum
theorem Jqw(ps:List Pr)(s:Option Int)(hl:ps.length<=20)(h1:JoY s=false)(h2:YQ 0 ps=false)(h3:¬(ps.map (·.2)).sum>30):YA [.sh (.lst (ps.map prE)),.sh (sE s)]=some (.sh (.int (tkL ps s))):=by
 obtain⟨r1,e1⟩:=Jpj s h1;obtain⟨r2,e2⟩:=Jfg ps h2;obtain⟨r3,e3⟩:=Jpm ps hl h3;unfold YA;walk_at "ev";rw[e1];walk_at "ev";rw[e2];walk_at "ev";rw[e3];walk_at "ev";rw[Yk (g:=fun p:Pr=>D.int (p.2*shr s p.1))]
 ·walk_at "ev";rw[YO (ns:=ps.map fun p=>p.2*shr s p.1) (by simp[Sl.q])];walk_at "ev";rfl
 ·intro p hp;have nf:=Jfh h2 h3 p hp;simp only[prE];walk_at "ev";rw[Jnh];walk_at "ev"
noncomputable def bn:Nat->Nat->Nat
 | _,0=>1
 | 0,_+1=>0
 | m+1,n+1=>bn m n+bn m (n+1)
theorem Jjx(m:Nat):bn m 0=1:=by cases m <;> rfl
theorem Jbn:∀(m n:Nat),(bn m (n+1):Int)*((n:Int)+1)=(bn m n:Int)*((m:Int)-(n:Int))
 | 0,0=>by simp[bn]
 | 0,n+1=>by simp[bn]
 | m+1,0=>by have h:=Jbn m 0;rw[Jjx] at h ⊢;rw[show bn (m+1) (0+1)=bn m 0+bn m (0+1) from rfl,Jjx];simp at h ⊢;omega
 | m+1,n+1=>by
  have h1:=Jbn m n
  have h2:=Jbn m (n+1);rw[show bn (m+1) (n+1+1)=bn m (n+1)+bn m (n+1+1) from rfl,show bn (m+1) (n+1)=bn m n+bn m (n+1) from rfl];simp only[M4,Int.cast_ofNat_Int] at h1 h2 ⊢
  revert h1 h2
  generalize (bn m (n+1):Int)=a
  generalize (bn m n:Int)=b
  generalize (bn m (n+1+1):Int)=c
  generalize (m:Int)=m
  generalize (n:Int)=n
  intro h1 h2
  grind
noncomputable def chF(m:Int):Nat->Int
 | 0=>1
 | n+1=>chF m n*(m-n) / (n+1)
theorem Jhf(m:Nat):∀n:Nat,chF m n=bn m n
 | 0=>by rw[Jjx];rfl
 | n+1=>by rw[chF,Jhf m n,<- Jbn,Int.mul_ediv_cancel _ (by omega)]
noncomputable def cb(N k:Int):Int:=if k<0 then 0 else chF N k.toNat
theorem Jmu{N k:Int}(h:k<0):cb N k=0:=if_pos h
noncomputable def pa:List Int->List Int->List Int
 | [],q=>q
 | p,[]=>p
 | a::p,b::q=>(a+b)::pa p q
noncomputable def pc(c:Int)(p:List Int):List Int:=p.map (c*·)
noncomputable def pm:List Int->List Int->List Int
 | [],_=>[]
 | a::p,q=>pa (pc a q) (0::pm p q)
theorem Jgv(m k:Int)(hm:-10 ^ 12<=m/\m<=10 ^ 12)(hk:k<=1000):Uy [.sh (.int m),.sh (.int k)]=some (.sh (.int (cb m k))):=by
 unfold Uy;walk_at "ev"
 by_cases c:k<0
 ·rw[decide_eq_true c];walk_at "ev";rw[Jmu c]
 ·rw[decide_eq_false c];walk_at "ev";rw[JgH,LA];refine JhZ (fun i E=>∃j3,E=[.sh (.int m),.sh (.int k),.sh (.int (chF m i)),j3]) ⟨.no,rfl⟩ ?_ ?_
  ·rintro i E hi ⟨j3,rfl⟩;walk_at "ev";exact⟨_,rfl⟩
  ·rintro E' ⟨j3,rfl⟩;walk_at "ev";unfold cb;rw[if_neg c]
noncomputable def spC(r c:Int):Int:=if r<0 then 0 else chF (r+c) c.toNat
theorem WY(r c:Int)(hr:-10 ^ 11<=r/\r<=10 ^ 11)(hc:0<=c/\c<=1000):Js [.sh (.int r),.sh (.int c)]=some (.sh (.int (spC r c))):=by
 unfold Js spC;walk_at "ev"
 by_cases d:r<0
 ·rw[decide_eq_true d,if_pos d];walk_at "ev"
 ·rw[decide_eq_false d,if_neg d];walk_at "ev";rw[Jgv _ _ (by omega) (by omega)];unfold cb;rw[if_neg (by omega)];walk_at "ev"
theorem Jg5:∀(m n:Nat),bn m n<=m ^ n
 | m,0=>by rw[Jjx];exact Qn _
 | 0,n+1=>Gn _
 | m+1,n+1=>by
  have h1:=Jg5 m n
  have h2:=Jg5 m (n+1)
  show bn m n+bn m (n+1)<=(m+1) ^ (n+1)
  have p:m ^ n<=(m+1) ^ n:=Nat.pow_le_pow_left (by omega) n
  have q:m ^ n*m<=(m+1) ^ n*m:=Nat.mul_le_mul_right m p;rw[Nat.pow_succ] at h2 ⊢;rw[Nat.mul_add,Nat.mul_one];omega
theorem JiV{r c:Int}(hr:r<=9*10 ^ 9)(hc:0<=c/\c<=10 ^ 9):(spC r c).natAbs<=10 ^ (10*c.toNat):=by
 unfold spC;split
 ·exact Gn _
 ·have e:chF (r+c) c.toNat=bn (r+c).toNat c.toNat:=by
   conv=>lhs;rw[show r+c=((r+c).toNat:Int) by omega]
   exact Jhf _ _
  rw[e,Int.natAbs_natCast,Nat.pow_mul];exact QR (Jg5 _ _) (Nat.pow_le_pow_left (by omega) _)
theorem Jh0(ps:List Pr)(n:Int)(hl:ps.length<=20)(h:¬(ps.map (·.2)).sum>n):∃r,JM [.sh (.lst (ps.map prE)),.sh (.int n)]=some r:=by unfold JM;walk_at "ev";rw[JgN];walk_at "ev";rw[YO (ns:=ps.map (·.2)) (by simp[Sl.q])];walk_at "ev";rw[decide_eq_false h];walk_at "ev";exact⟨_,rfl⟩
noncomputable def rmF(N:Int)(L:List Pr)(p:Pr):Int:=N-2*tkL L (some p.1)
structure OkL (L:List Pr):Prop where
 len:L.length<=20
 bad:YQ 0 L=false
 few:(L.map (·.2)).sum<=12
 tk:∀p∈L,0<=tkL L (some p.1)/\tkL L (some p.1)<=10 ^ 10
theorem UX:∀{a:Int} {ps:List Pr},0<=a->YQ a ps=false->∀p∈ps,1<=p.1/\1<=p.2
 | _,[],_,_,p,hp=>by cases hp
 | a,q::r,ha,h,p,hp=>by
  rw[YQ,Gc,Gc] at h;have h1:=of_decide_eq_false h.1;have h2:=of_decide_eq_false h.2.1;rcases Qh.mp hp with e|e
  ·subst e;omega
  ·exact UX (by omega) h.2.2 p e
theorem Zr(N:Int)(L:List Pr)(hN:0<=N/\N<=10 ^ 9)(o:OkL L):JE [.sh (.int N),.sh (.lst (L.map prE))]=some (.own ((L.map fun p=>((p.1,rmF N L p):Pr)).map prE)):=by
 obtain⟨r2,e2⟩:=Jfg L o.bad;obtain⟨r3,e3⟩:=Jh0 L 12 o.len (by have:=o.few;omega);have hl:=o.len;unfold JE;walk_at "ev";rw[e2];walk_at "ev";rw[e3];walk_at "ev";rw[Gg,Yk (g:=fun p:Pr=>prE (p.1,rmF N L p))]
 ·walk_at "ev";rfl
 ·intro p hp;have lo:=UX (Gy _) o.bad p hp;have t:=o.tk p hp;have mt:=Jqw L (some p.1) o.len (by show decide (p.1<1)=false;exact decide_eq_false (by omega)) o.bad (by have:=o.few;omega);simp only[prE];walk_at "ev";rw[show D.int p.1=sE (some p.1) from rfl,mt];walk_at "ev";rfl
noncomputable def cnS(L:List Pr):Nat:=(L.map fun p=>p.2.toNat).sum
noncomputable def hmF(N:Int)(L:List Pr):Int:=L.foldl (fun a p=>a*spC (rmF N L p) p.2) 1
noncomputable def zrE(N:Int)(L:List Pr)(p:Pr):D:=.tup [prE (p.1,rmF N L p),prE p]
theorem Jer(g:Pr->Pr):∀L:List Pr,List.zip (L.map g) L=L.map fun p=>(g p,p)
 | []=>rfl
 | p::L=>by rw[Qi,Me,Jer g L,Qi]
theorem JlZ(N:Int)(L:List Pr)(hN:0<=N/\N<=10 ^ 9)(o:OkL L)(hc:cnS L<=12):JU [.sh (.int N),.sh (.lst (L.map prE))]=some (.sh (.int (hmF N L))):=by
 have mr:=Zr N L hN o
 have hl:=o.len;unfold JU;walk_at "ev";rw[mr];walk_at "ev";rw[Jb9,Jer,Gg,LA];refine Vz (f:=zrE N L) (fun(rest:List Pr) (a:Int) E=>∃j3 j4,E=[.sh (.int N),.sh (.lst (L.map prE)),.sh (.int a),j3,j4]/\a.natAbs*10 ^ (10*cnS rest)<=10 ^ 120/\∀p∈rest,p∈L) (fun a p=>a*spC (rmF N L p) p.2) 1 ⟨.no,.no,rfl,?_,fun _ h=>h⟩ ?_ ?_
 ·show 1*10 ^ (10*cnS L)<=10 ^ 120;rw[Nat.one_mul];exact Lb (by decide) (by omega)
 ·rintro p rest a E ⟨j3,j4,rfl,hb,hm⟩;have pm:=hm p Qf;have lo:=UX (Gy _) o.bad p pm;have nf:=Jfh o.bad (by have:=o.few;omega) p pm;have t:=o.tk p pm;have rb:-10 ^ 11<=rmF N L p/\rmF N L p<=9*10 ^ 9:=by unfold rmF;omega
  have sl:=JiV rb.2 (show 0<=p.2/\p.2<=10 ^ 9 by omega)
  have ce:cnS (p::rest)=p.2.toNat+cnS rest:=by unfold cnS;rw[Qi,QT]
  rw[ce,Nat.mul_add,Nat.pow_add,<- Nat.mul_assoc] at hb;have one:1<=10 ^ (10*cnS rest):=Nat.pos_of_ne_zero (by simp);have ten:1<=10 ^ (10*p.2.toNat):=Nat.pos_of_ne_zero (by simp);have b1:a.natAbs*10 ^ (10*p.2.toNat)<=10 ^ 120:=QR (MN _ one) hb;have b0:a.natAbs<=10 ^ 120:=QR (MN _ ten) b1
  have g1:a.natAbs<=10 ^ 200/\(spC (rmF N L p) p.2).natAbs<=10 ^ 200:=by
   refine⟨QR b0 (by decide +kernel),QR sl (Lb (by decide) ?_)⟩
   have:p.2<=12:=by
    have:=(VS (Vh o.bad)).2 p pm
    have:=o.few;omega
   omega
  simp only[zrE];walk_at "ev";rw[Vd,Vd];walk_at "ev";rw[WY _ _ (by omega) (by omega)];walk_at "ev";refine⟨.sh (prE (p.1,rmF N L p)),.sh (prE p),rfl,?_,fun q hq=>hm q (Qc _ hq)⟩;rw[Int.natAbs_mul];exact QR (Nat.mul_le_mul_right _ (Nat.mul_le_mul_left _ sl)) hb
 ·rintro E' ⟨j3,j4,rfl,_,_⟩;walk_at "ev";rfl
theorem Jql{a:Int}{p:Pr}{r:List Pr}(h:YQ a (p::r)=false):a<p.1/\1<=p.2/\YQ p.1 r=false:=by rw[YQ,Gc,Gc] at h;have h1:=of_decide_eq_false h.1;have h2:=of_decide_eq_false h.2.1;exact⟨by omega,by omega,h.2.2⟩
theorem Jnr{tb:List Tr}(h:Zx none tb)(hs:U2 tb<=30):OkG 0 (UL tb):=by obtain⟨r,e⟩:=Jpc h;exact Jh7 _ 0 r (by rw[e];exact hs)
theorem Jpk(tb:List Tr)(h:Zx none tb)(hs:U2 tb<=30)(hl:tb.length<=30):∃r,Yz [.bo (tb.map trE)]=some r:=by
 obtain⟨E',e,el⟩:=JeK (.bo (tb.map trE)) tb none .no .no .no h;unfold Yz;walk_at "ev";rw[show J9 ctP ctB (tb.map trE) [.bo (tb.map trE),.sh .non,.no,.no,.no]=_ from e];walk_at "ev";rw[Yk (g:=fun t:Tr=>D.int t.2.2)]
 ·walk_at "ev";rw[YO (ns:=tb.map (·.2.2)) (by simp[Sl.q])];walk_at "ev";rw[decide_eq_false (show ¬(tb.map (·.2.2)).sum>30 from by unfold U2 at hs;omega)];walk_at "ev";exact⟨_,rfl⟩
 ·intro t _;simp only[trE];walk_at "ev"
theorem Jh1(tb:List Tr)(h:Zx none tb)(hs:U2 tb<=30)(hl:tb.length<=30)(ok:OkG 0 (UL tb)):UZ [.bo (tb.map trE)]=some (.sh (.row ((V0 0 (UL tb)).map prE))):=by
 obtain⟨r,hr⟩:=Jpk tb h hs hl;obtain⟨kp,_⟩:=Jfj ok;have nd:((UL tb).map (·.1)).Nodup:=kp.imp fun {a b} h=>by omega
 have gl:=Je2 tb [];rw[show tb.foldl Uh []=UL tb from rfl,GB] at gl;obtain⟨g2,g3,g4,hg⟩:=Jpn (.bo (tb.map trE)) .no .no .no tb [] .no .no .no;rw[show tb.foldl Uh []=UL tb from rfl] at hg;obtain⟨r2,r7,hro⟩:=JfC (.bo (tb.map trE)) (.sh (.lst (((UL tb).map (·.1)).map .int))) g3 g4 (UL tb) nd (UL tb) 0 g2 .no ok (fun _ h=>h);unfold UZ;walk_at "ev";rw[hr];walk_at "ev";unfold JlJ;walk_at "ev";rw[show Wr gpP gpK gpV (tb.map trE) [.bo (tb.map trE),.no,.no,.no,.no,.no,.no,.no] [] []=_ from hg]
 walk_at "ev";rw[show JdQ [.own []]=some (.sh (.row (([]:List Pr).map prE))) from Jbv (ps:=[]) rfl Good.nil (by simp)];walk_at "ev"
 have hz:Jb8 (D.int 0::((UL tb).map (·.1)).map D.int) (((UL tb).map (·.1)).map D.int)=(zl 0 (UL tb)).map prE:=by rw[show D.int 0::((UL tb).map (·.1)).map D.int=(0::(UL tb).map (·.1)).map D.int from rfl,Jb9];rfl
 rw[hz,<- List.map_reverse];rw[show J9 roP roB ((zl 0 (UL tb)).reverse.map prE) [.bo (tb.map trE),.od ((UL tb).map (·.1)) (((UL tb).map fun x=>x.2.map prE).map D.lst),g2,g3,g4,.sh (.lst (((UL tb).map (·.1)).map .int)),.sh (.row []),.no]=_ from hro];walk_at "ev"
theorem Jmq(ps:List Pr)(n:Int)(hl:ps.length<=20)(h:(ps.map (·.2)).sum>n):JM [.sh (.lst (ps.map prE)),.sh (.int n)]=none:=by unfold JM;walk_at "ev";rw[JgN];walk_at "ev";rw[YO (ns:=ps.map (·.2)) (by simp[Sl.q])];walk_at "ev";rw[decide_eq_true h];walk_at "ev";rfl
theorem JoJ(ps:List Pr)(n:Int)(hl:ps.length<=20)(h:(ps.map (·.2)).sum>n):Yd [.sh (.lst (ps.map prE)),.sh (.int n)]=some (Q0 "TooMany"):=by unfold Yd YX Vu YZ;walk_at "ev";rw[JgN];walk_at "ev";rw[YO (ns:=ps.map (·.2)) (by simp[Sl.q])];walk_at "ev";rw[decide_eq_true h];walk_at "ev"
noncomputable def td5(ps:List Pr):Option Str:=if YQ 0 ps=true then some (Q0 "BadTable") else if (ps.map (·.2)).sum>12 then some (Q0 "TooMany") else none
theorem Jev(N:D)(ps:List Pr)(hl:ps.length<=20)(m:Str)(h:td5 ps=some m):JE [.sh N,.sh (.lst (ps.map prE))]=none/\Ym [.sh N,.sh (.lst (ps.map prE))]=some m:=by
 unfold td5 at h;split at h
 ·next h2 =>
  cases h;refine⟨?_,?_⟩
  ·unfold JE;walk_at "ev";rw[JoW ps h2];walk_at "ev"
  ·unfold Ym YX J5 exU Yw;walk_at "ev";rw[Jqf ps h2]
 ·next h2 =>
  rw[Bool.not_eq_true] at h2;obtain⟨r2,e2⟩:=Jfg ps h2;split at h
  ·next h3 =>
   cases h;refine⟨?_,?_⟩
   ·unfold JE;walk_at "ev";rw[e2];walk_at "ev";rw[Jmq ps 12 hl h3];walk_at "ev"
   ·unfold Ym YX J5 exU Yw;walk_at "ev";rw[W9 ps h2,e2];walk_at "ev";rw[JoJ ps 12 hl h3]
  ·cases h
theorem JlQ(N:D)(ps:List Pr)(hl:ps.length<=20)(m:Str)(h:td5 ps=some m):JU [.sh N,.sh (.lst (ps.map prE))]=none/\Ye [.sh N,.sh (.lst (ps.map prE))]=some m:=by
 obtain⟨k1,k2⟩:=Jev N ps hl m h;refine⟨?_,?_⟩
 ·unfold JU;walk_at "ev";rw[k1];walk_at "ev"
 ·unfold Ye YX J5 exC exU Yw;walk_at "ev";rw[k1,k2]
theorem JoX(N z:D)(ps:List Pr)(hl:ps.length<=20)(m:Str)(h:td5 ps=some m):Yc [.sh N,.sh (.lst (ps.map prE)),.sh z]=none/\YB [.sh N,.sh (.lst (ps.map prE)),.sh z]=some m:=by
 obtain⟨k1,k2⟩:=JlQ N ps hl m h;refine⟨?_,?_⟩
 ·unfold Yc;walk_at "ev";rw[k1];walk_at "ev"
 ·unfold YB YX J5 exU Yw;walk_at "ev";rw[k1,k2]
theorem JhU(x y z:Sl)(c zz:Int)(hy:y=.sh (.int c))(hz:z=.sh (.int zz))(hc:1<=c/\c<=1000):∀(m fuel:Nat) (lo hi:Int) (j:Sl),hi-lo<2 ^ m->m<fuel->0<=lo->lo<=hi->hi<=10 ^ 10->∃(r:Int) (h' j':Sl),lo<=r/\r<=hi/\Ul (tB? (e2 fLt (Jb 3) (Jb 4))) (Jl (Jn 5 (e2 Vc (e2 JQ (Jb 3) (Jb 4)) (eC (.int 2)))) (xIf (tB? (e2 fLt (eU 2 Js (aC (Jb 5) (aC (Jb 1) a0))) (Jb 2))) (Jn 3 (e2 JQ (Jb 5) (eC (.int 1)))) (Jn 4 (Jb 5)))) fuel [x,y,z,.sh (.int lo),.sh (.int hi),j]=some (.nx [x,y,z,.sh (.int r),h',j']):=by
 subst hy hz;intro m
 induction m with
 | zero =>
  intro fuel lo hi j h1 h2 h3 h4 h5;obtain⟨f,rfl⟩:∃f,fuel=f+1:=⟨fuel-1,by omega⟩
  refine⟨lo,.sh (.int hi),j,by omega,by omega,?_⟩;rw[Ul];walk_at "ev";rw[decide_eq_false (show ¬lo<hi by simp at h1;omega)];walk_at "ev"
 | succ m ih =>
  intro fuel lo hi j h1 h2 h3 h4 h5;obtain⟨f,rfl⟩:∃f,fuel=f+1:=⟨fuel-1,by omega⟩
  by_cases c1:lo<hi
  ·rw[Int.pow_succ] at h1
   by_cases c2:spC ((lo+hi) / 2) c<zz
   ·obtain⟨r,h',j',a1,a2,e⟩:=ih f ((lo+hi) / 2+1) hi (.sh (.int ((lo+hi) / 2))) (by omega) (by omega) (by omega) (by omega) h5;refine⟨r,h',j',by omega,a2,?_⟩;rw[Ul];walk_at "ev";rw[decide_eq_true c1];walk_at "ev";rw[WY _ _ (by omega) (by omega)];walk_at "ev";rw[decide_eq_true c2];walk_at "ev";exact e
   ·obtain⟨r,h',j',a1,a2,e⟩:=ih f lo ((lo+hi) / 2) (.sh (.int ((lo+hi) / 2))) (by omega) (by omega) (by omega) (by omega) (by omega);refine⟨r,h',j',a1,by omega,?_⟩;rw[Ul];walk_at "ev";rw[decide_eq_true c1];walk_at "ev";rw[WY _ _ (by omega) (by omega)];walk_at "ev";rw[decide_eq_false c2];walk_at "ev";exact e
  ·refine⟨lo,.sh (.int hi),j,by omega,by omega,?_⟩;rw[Ul];walk_at "ev";rw[decide_eq_false c1];walk_at "ev"
theorem Jkw(g c z:Int)(hg:0<=g/\g<=10 ^ 10)(hc:1<=c/\c<=1000):∃r,0<=r/\r<=g/\Ys [.sh (.int g),.sh (.int c),.sh (.int z)]=some (.sh (.int r)):=by obtain⟨r,h',j',a1,a2,e⟩:=JhU (.sh (.int g)) _ _ c z rfl rfl hc 40 1000000 0 g .no (by omega) (by decide) (by omega) hg.1 hg.2;refine⟨r,a1,a2,?_⟩;unfold Ys;walk_at "ev";rw[e];walk_at "ev"
theorem Jky(room c z:Int)(hr:0<=room/\room<=10 ^ 10)(hc:0<=c/\c<=1000):∃S:List Int,S.length=c.toNat/\JO [.sh (.int room),.sh (.int c),.sh (.int z)]=some (.own (S.map .int)):=by
 obtain⟨E',hR,he⟩:=VQ (p:=.nm 5) (b:=(Jl (Jn 6 (eU 3 Ys (aC (Jb 0) (aC (Jb 5) (aC (Jb 4) a0))))) (Jl (Jje (fun i j=>i-j) 4 (eU 2 Js (aC (e2 Y0 (Jb 6) (eC (.int 1))) (aC (Jb 5) a0)))) (Jb6 3 (e2 Y0 (Jb 0) (Jb 6)))))) (f:=fun i:Nat=>D.int (c+(i:Int)*-1)) (as:=GU c.toNat) (E:=[.sh (.int room),.sh (.int c),.sh (.int z),.own [],.sh (.int (spC room c-z)),.no,.no]) (fun(rest:List Nat) (i:Nat) E=>∃(S:List Int) (w:Int) (j5 j6:Sl),E=[.sh (.int room),.sh (.int c),.sh (.int z),.own (S.map .int),.sh (.int w),j5,j6]/\S.length=i/\i+rest.length=c.toNat/\∀a∈rest,a<c.toNat) (fun i _=>i+1) 0 ⟨[],_,.no,.no,rfl,rfl,by rw[K4];omega,fun a ha=>L6.mp ha⟩ (by
  rintro a rest i E ⟨S,w,j5,j6,rfl,hl,hi,ha⟩;rw[Qu] at hi;have ha':=ha a Qf;have ca:1<=c+(a:Int)*-1/\c+(a:Int)*-1<=1000:=by omega
  obtain⟨r,r0,r1,er⟩:=Jkw room (c+(a:Int)*-1) w hr ca;walk_at "ev";rw[er];walk_at "ev";rw[WY _ _ (by omega) (by omega)];walk_at "ev";refine⟨S++[room-r],w-spC (r-1) (c+(a:Int)*-1),.sh (.int (c+(a:Int)*-1)),.sh (.int r),?_,by simp;omega,by omega,fun b hb=>ha b (Qc _ hb)⟩;rw[Gd];rfl)
 obtain⟨S,w,j5,j6,rfl,hl,hi,_⟩:=hR;rw[GB] at hi;refine⟨S,by omega,?_⟩;unfold JO;walk_at "ev";rw[WY _ _ (by omega) (by omega)];walk_at "ev";rw[show W6 (-1)=false from rfl];walk_at "ev";rw[Int.sub_zero];unfold JgI;rw[he];walk_at "ev"
theorem Jme:∀l:List Int,(l.map fun _=>(0:Int)).sum=0
 | []=>rfl
 | _::l=>by rw[Qi,QT,Jme l];rfl
theorem JeH:∀{l S:List Int},l.Nodup->(∀x∈S,x∈l)->(l.map fun x=>(S.count x:Int)).sum=S.length
 | l,[],_,_=>by rw[show(l.map fun x=>(([]:List Int).count x:Int))=l.map fun _=>0 from rfl,Jme];rfl
 | l,a::S,nd,h=>by
  have ih:=JeH nd fun x hx=>h x (Qc _ hx)
  have one:∀l:List Int,l.Nodup->(l.map fun x=>if a=x then(1:Int) else 0).sum=if a∈l then 1 else 0:=by
   intro l
   induction l with
   | nil=>intro _;rfl
   | cons b l il =>
    intro nd;rw[Q8] at nd;rw[Qi,QT,il nd.2]
    by_cases c:a=b
    ·subst c;rw[if_pos rfl,if_neg nd.1,if_pos Qf];rfl
    ·rw[if_neg c]
     by_cases d:a∈l
     ·rw[if_pos d,if_pos (Qc _ d)];rfl
     ·rw[if_neg d,if_neg fun q=>(Qh.mp q).elim c d];rfl
  have add:∀(l:List Int) (f g:Int->Int),(l.map fun x=>f x+g x).sum=(l.map f).sum+(l.map g).sum:=by
   intro l f g
   induction l with
   | nil=>rfl
   | cons b l il=>rw[Qi,Qi,Qi,QT,QT,QT,il];omega
  have e:(l.map fun x=>((a::S).count x:Int))=l.map fun x=>(S.count x:Int)+(if a=x then 1 else 0):=KC fun x _=>by
   rw[Ll]
   by_cases c:a=x
   ·subst c;simp
   ·simp[c]
  rw[e,add,ih,one l nd,if_pos (h a Qf),Qu];omega
noncomputable def Jax(s:Int)(S:List Int):List Tr:=(JZ (fM S)).map fun x=>(s,x,(S.count x:Int))
theorem Jeu:∀{T:List Tr} {a:Option Pr} {s:Int} {xs:List Int} {f:Int->Int},Zx a T->(∀t∈T,t.1<s)->(∀b,a=some b->b.1<s)->1<=s->xs.Pairwise (·<·)->(∀x∈xs,1<=f x)->Zx a (T++xs.map fun x=>(s,x,f x))
 | [],a,s,[],f,_,_,_,_,_,_=>trivial
 | [],a,s,x::xs,f,_,_,ha,hs,pw,hf=>by
  obtain⟨p1,p2⟩:=QL.mp pw
  have go:∀(xs:List Int) (y:Int),xs.Pairwise (·<·)->(∀z∈xs,y<z)->(∀z∈xs,1<=f z)->Zx (some (s,y)) (xs.map fun x=>(s,x,f x)):=by
   intro xs
   induction xs with
   | nil=>intros;trivial
   | cons z xs ih=>intro y pw hy hf;obtain⟨q1,q2⟩:=QL.mp pw;exact⟨hs,hf z Qf,fun b e=>by cases e;exact .inr ⟨rfl,hy z Qf⟩,ih z q2 q1 fun w hw=>hf w (Qc _ hw)⟩
  exact⟨hs,hf x Qf,fun b e=>.inl (ha b e),go xs x p2 p1 fun w hw=>hf w (Qc _ hw)⟩
 | t::T,a,s,xs,f,h,ht,ha,hs,pw,hf=>by obtain⟨h1,h2,h3,h4⟩:=h;exact⟨h1,h2,h3,Jeu h4 (fun u hu=>ht u (Qc _ hu)) (fun b e=>by cases e;exact ht t Qf) hs pw hf⟩
theorem Jov(xs:List Int):(JZ (fM xs)).Pairwise (·<·):=by have nd:=(Jw (fM xs)).nodup_iff.mpr (ZJ xs);exact((UE (fM xs)).and nd).imp fun {a b} h=>by have:=h.1;have:=h.2;omega
theorem Jjw(s:Int)(S:List Int):U2 (Jax s S)=S.length:=by unfold U2 Jax;rw[Gg];exact JeH ((Jw _).nodup_iff.mpr (ZJ S)) fun x hx=>(Jw _).mem_iff.mpr ((Jhy S x).mpr hx)
theorem Jhp(s n:Int)(S:List Int):UY (.nm 0) yes? (Y7 (aC (e2 fIx (Jb 1) (eC (.int 0))) (aC (Jb 0) (aC (eMI JaW (Jb 2) (Jb 0)) a0)))) [.no,.sh (prE (s,n)),.sh (.lst (S.map D.int))] ((JZ (fM S)).map D.int)=some ((Jax s S).map trE):=by
 unfold Jax;rw[Gg];refine Yk fun x _=>?_
 walk_at "ev";rw[V5];walk_at "ev";simp only[JaW];walk_at "ev";rfl
noncomputable def prF(N:Int)(L:List Pr):List Pr->Int
 | []=>1
 | p::r=>spC (rmF N L p) p.2*prF N L r
theorem JeY(N:Int)(L:List Pr):∀(r:List Pr) (a:Int),r.foldl (fun a p=>a*spC (rmF N L p) p.2) a=a*prF N L r
 | [],a=>by simp[prF]
 | p::r,a=>by rw[Gz,JeY N L r,prF,Int.mul_assoc]
theorem Jmd(r c:Int)(hc:0<=c):0<=spC r c:=by
 unfold spC;split
 ·exact Gy _
 ·have e:chF (r+c) c.toNat=bn (r+c).toNat c.toNat:=by
   conv=>lhs;rw[show r+c=((r+c).toNat:Int) by omega]
   exact Jhf _ _
  rw[e];omega
theorem Jik(N:Int)(L:List Pr):∀r:List Pr,(∀p∈r,0<=p.2)->0<prF N L r->∀p∈r,0<spC (rmF N L p) p.2
 | [],_,_,p,hp=>by cases hp
 | q::r,h,hp,p,hm=>by
  have hq:=h q Qf
  have n1:=Jmd (rmF N L q) q.2 hq
  have nn:∀r:List Pr,(∀p∈r,0<=p.2)->0<=prF N L r:=by
   intro r
   induction r with
   | nil=>intro _;exact Int.le_of_lt (show(0:Int)<1 by decide)
   | cons z r ih=>intro h;exact Int.mul_nonneg (Jmd _ _ (h z Qf)) (ih fun p hp=>h p (Qc _ hp))
  have n2:=nn r fun p hp=>h p (Qc _ hp)
  have e:prF N L (q::r)=spC (rmF N L q) q.2*prF N L r:=rfl
  have p1:0<spC (rmF N L q) q.2:=by
   false_or_by_contra
   rename_i z;have:spC (rmF N L q) q.2=0:=by omega
   rw[e,this,Int.zero_mul] at hp;omega
  have p2:0<prF N L r:=by
   false_or_by_contra
   rename_i z;have:prF N L r=0:=by omega
   rw[e,this,Int.mul_zero] at hp;omega
  rcases Qh.mp hm with z|z
  ·subst z;exact p1
  ·exact Jik N L r (fun p hp=>h p (Qc _ hp)) p2 p z
theorem Jl5(N:Int)(L:List Pr)(hN:N<=10 ^ 9)(hL:∀p∈L,0<=tkL L (some p.1)):∀r:List Pr,(∀p∈r,p∈L/\0<=p.2/\p.2<=10 ^ 9)->(prF N L r).natAbs<=10 ^ (10*cnS r)
 | [],_=>(show 1<=10 ^ (10*0) by decide)
 | p::r,h=>by
  have ih:=Jl5 N L hN hL r fun q hq=>h q (Qc _ hq)
  obtain⟨m,h1,h2⟩:=h p Qf;have t:=hL p m;have sl:=JiV (r:=rmF N L p) (c:=p.2) (by unfold rmF;omega) ⟨h1,h2⟩;have ce:cnS (p::r)=p.2.toNat+cnS r:=by unfold cnS;rw[Qi,QT]
  rw[prF,Int.natAbs_mul,ce,Nat.mul_add,Nat.pow_add];exact Nat.mul_le_mul sl ih
theorem Jpo(N z:Int)(L:List Pr)(hN:0<=N/\N<=10 ^ 9)(o:OkL L)(hc:cnS L<=12)(hz:0<=z/\z<hmF N L):∃d,Yc [.sh (.int N),.sh (.lst (L.map prE)),.sh (.int z)]=some (.sh d):=by
 have mr:=Zr N L hN o
 have mh:=JlZ N L hN o hc
 have hl:=o.len
 have lo:=UX (Gy _) o.bad
 have nm:=(VS (Vh o.bad)).2
 have fw:=o.few
 have hmp:hmF N L=prF N L L:=by unfold hmF;rw[JeY,Int.one_mul]
 have pos:0<prF N L L:=by omega
 have sp:=Jik N L L (fun p hp=>by have:=lo p hp;omega) pos
 obtain⟨E',hR,he⟩:=VQ (p:=.tp (.cons (.nm 6) (.cons (.nm 7) .nil))) (b:=(Jl (Jbi 3 (eU 2 Js (aC (e2 fIx (Jb 6) (eC (.int 1))) (aC (e2 fIx (Jb 7) (eC (.int 1))) a0)))) (Jl (Jn 8 (eU 3 JO (aC (e2 fIx (Jb 6) (eC (.int 1))) (aC (e2 fIx (Jb 7) (eC (.int 1))) (aC (e2 Jcz (Jb 5) (Jb 3)) a0))))) (Jl (Jn 5 (e2 Yp (Jb 5) (Jb 3))) (Jeo 4 (YL (iE true (ZG (Jb 8))) (.nm 0) yes? (Y7 (aC (e2 fIx (Jb 1) (eC (.int 0))) (aC (Jb 0) (aC (eMI JaW (Jb 2) (Jb 0)) a0)))) [none,some 7,some 8])))))) (f:=zrE N L) (as:=L) (E:=[.sh (.int N),.sh (.lst (L.map prE)),.sh (.int z),.sh (.int (prF N L L)),.own [],.sh (.int z),.no,.no,.no]) (fun(rest:List Pr) (_:Unit) E=>∃(T:List Tr) (w:Int) (j6 j7 j8:Sl) (a:Int),E=[.sh (.int N),.sh (.lst (L.map prE)),.sh (.int z),.sh (.int (prF N L rest)),.own (T.map trE),.sh (.int w),j6,j7,j8]/\Zx none T/\(∀t∈T,t.1<=a)/\0<=a/\YQ a rest=false/\U2 T+(rest.map (·.2)).sum<=12/\(∀p∈rest,p∈L)/\T.length+cnS rest<=12) (fun _ _=>()) () ⟨[],z,.no,.no,.no,0,rfl,trivial,fun t ht=>(by cases ht),Gy _,o.bad,by show 0+_<=_;omega,fun p hp=>hp,by simp;omega⟩ (by
  rintro p rest _ E ⟨T,w,j6,j7,j8,a,rfl,asc,ta,a0,hb,ns,hm,tl⟩;have pm:=hm p Qf;have lp:=lo p pm;have np:=nm p pm;have s0:=sp p pm
  have rr:∀q∈rest,q∈L/\0<=q.2/\q.2<=10 ^ 9:=fun q hq=>by
   have q1:=hm q (Qc _ hq)
   have:=lo q q1
   have:=nm q q1;exact⟨q1,by omega,by omega⟩
  have ce:cnS (p::rest)=p.2.toNat+cnS rest:=by unfold cnS;rw[Qi,QT]
  rw[ce] at tl;have t:=o.tk p pm;have rb:rmF N L p<=9*10 ^ 9/\-10 ^ 11<=rmF N L p:=by unfold rmF;omega
  have r0:0<=rmF N L p:=by
   false_or_by_contra
   rename_i q;unfold spC at s0;rw[if_pos (by omega)] at s0;omega
  have sl:=JiV rb.1 (show 0<=p.2/\p.2<=10 ^ 9 by omega)
  have g1:0<spC (rmF N L p) p.2/\(spC (rmF N L p) p.2).natAbs<=10 ^ 200:=⟨s0,QR sl (Lb (by decide) (by omega))⟩
  have pl:=Jl5 N L hN.2 (fun q hq=>(o.tk q hq).1) rest rr
  have pp:0<prF N L rest:=by
   have all:∀(r:List Pr),(∀q∈r,q∈L)->0<prF N L r:=by
    intro r
    induction r with
    | nil=>intro _;exact(show(0:Int)<1 by decide)
    | cons q r ih=>intro h;exact Int.mul_pos (sp q (h q Qf)) (ih fun u hu=>h u (Qc _ hu))
   exact all rest fun q hq=>(rr q hq).1
  have g2:0<prF N L rest/\(prF N L rest).natAbs<=10 ^ 200:=⟨pp,QR pl (Lb (by decide) (by omega))⟩
  have dv:prF N L (p::rest) / spC (rmF N L p) p.2=prF N L rest:=by show spC (rmF N L p) p.2*prF N L rest / _=_;exact Int.mul_ediv_cancel_left _ (by omega)
  obtain⟨S,sl',es⟩:=Jky (rmF N L p) p.2 (w / prF N L rest) ⟨r0,by omega⟩ (by omega);have ssz:(JZ (fM S)).length<=S.length:=by rw[(Jw _).length_eq];exact Jhx S
  have bl:(Jax p.1 S).length<=S.length:=by unfold Jax;rw[Qo];exact ssz
  have sn:=Jjw p.1 S
  have pb:=Jql hb;simp only[zrE];walk_at "ev";rw[Vd,Vd];walk_at "ev";rw[WY _ _ (by omega) (by omega)];walk_at "ev";rw[dv];rw[Vd,Vd];walk_at "ev";rw[es];walk_at "ev";rw[show prE p=prE (p.1,p.2) from rfl,Jhp];walk_at "ev";refine⟨T++Jax p.1 S,w % prF N L rest,.sh (prE (p.1,rmF N L p)),.sh (prE p),.sh (.lst (S.map .int)),p.1,?_,Jeu asc (fun t ht=>by have:=ta t ht;omega) (fun b e=>by cases e) (by omega) (Jov S) (fun x hx=>?_),fun t ht=>?_,by omega,pb.2.2,?_,fun q hq=>(rr q hq).1,?_⟩
  ·rw[Gd]
  ·have:=Mh.mpr ((Jhy S x).mp ((Jw _).mem_iff.mp hx));omega
  ·rcases QX.mp ht with q|q
   ·have:=ta t q;omega
   ·unfold Jax at q;obtain⟨x,_,rfl⟩:=QQ.mp q;exact Gy _
  ·rw[Qi,QT] at ns;have na:U2 (T++Jax p.1 S)=U2 T+U2 (Jax p.1 S):=Z0 _ _;omega
  ·rw[Qy];omega)
 obtain⟨T,w,j6,j7,j8,a,rfl,asc,ta,a0,hb,ns,hm,tl⟩:=hR;rw[Kp,List.sum_nil] at ns;have ro:=Jh1 T asc (by omega) (by have:cnS []=0:=rfl;omega) (Jnr asc (by omega));refine⟨.row ((V0 0 (UL T)).map prE),?_⟩;unfold Yc;walk_at "ev";rw[mh,hmp];walk_at "ev";rw[decide_eq_true hz.1];walk_at "ev";rw[decide_eq_true (show z<prF N L L by omega)];walk_at "ev";rw[mr];walk_at "ev";rw[Jb9,Jer,Gg];rw[show(fun p:Pr×Pr=>D.tup [prE p.1,prE p.2]) ∘ (fun p:Pr=>(((p.1,rmF N L p):Pr),p))=zrE N L from rfl,he]
 walk_at "ev";rw[ro];rfl
noncomputable abbrev Jo4:Es:=(xIf (tOr? (tB? (e2 fLt (e2 fIx (e2 fIx (Jb 0) (Jb 1)) (eC (.int 0))) (eC (.int 1)))) (tOr? (tB? (e2 fLt (e2 fIx (e2 fIx (Jb 0) (Jb 1)) (eC (.int 1))) (eC (.int 1)))) (tAnd? (tB? (e2 fGt (Jb 1) (eC (.int 0)))) (tB? (e2 fLe (e2 fIx (e2 fIx (Jb 0) (Jb 1)) (eC (.int 0))) (e2 fIx (e2 fIx (Jb 0) (e2 Y0 (Jb 1) (eC (.int 1)))) (eC (.int 0)))))))) (JY (eC (.str "table"))) Jy)
theorem Uo{α:Type}{xs:List α}{a b:Option Int}{x:α}(h:x∈UF xs a b):x∈xs:=by unfold UF at h;exact List.mem_of_mem_drop (List.mem_of_mem_take h)
theorem six{w:Int}(h0:0<=w)(h4:w<6):w=0\/w=1\/w=2\/w=3\/w=4\/w=5:=by omega
theorem d10:decide ((1:Int)=0)=false:=by decide
theorem d20:decide ((2:Int)=0)=false:=by decide
theorem d30:decide ((3:Int)=0)=false:=by decide
theorem d40:decide ((4:Int)=0)=false:=by decide
theorem d50:decide ((5:Int)=0)=false:=by decide
theorem d21:decide ((2:Int)=1)=false:=by decide
theorem d31:decide ((3:Int)=1)=false:=by decide
theorem d41:decide ((4:Int)=1)=false:=by decide
theorem d51:decide ((5:Int)=1)=false:=by decide
theorem d32:decide ((3:Int)=2)=false:=by decide
theorem d42:decide ((4:Int)=2)=false:=by decide
theorem d52:decide ((5:Int)=2)=false:=by decide
theorem d43:decide ((4:Int)=3)=false:=by decide
theorem d53:decide ((5:Int)=3)=false:=by decide
theorem WS(ps:List Pr):eqA (.lst (ps.map prE)) (.lst [])=some (decide (ps=[])):=JdN ps []
theorem Jjr(A B:List Pr)(p:Pr):A.map prE++[prE p]++B.map prE=(A++[p]++B).map prE:=by simp
theorem Jkx(ps:List Pr)(w c:Int)(hl:ps.length<=8)(h0:0<=w)(h6:w<6){B:Int}(hB:0<=B/\∀p∈ps,p.1<=B):∃qs:List Pr,qs.length<=20/\(∀q∈qs,q.1<=B)/\(JG [.sh (.lst (ps.map prE)),.sh (.int w),.sh (.int c)]).bind Sl.frz=some (.lst (qs.map prE)):=by
 by_cases hp:ps=[]
 ·subst hp;refine⟨[],by simp,fun q hq=>(by cases hq),?_⟩;unfold JG;walk_at "ev";have e:=WS [];simp only[Kp] at e;rw[e];walk_at "ev"
 ·have hpos:0<ps.length:=by cases ps with|nil=>exact absurd rfl hp|cons _ _=>simp
  have hat:0<=c % (ps.length:Int)/\c % (ps.length:Int)<(ps.length:Int):=⟨M6 _ (by omega),Mi _ (by omega)⟩
  obtain⟨k,hk⟩:∃k:Nat,c % (ps.length:Int)=(k:Int):=⟨(c % (ps.length:Int)).toNat,by omega⟩
  have hk':k<ps.length:=by omega
  have hkB:ps[k].1<=B:=hB.2 _ (MF hk')
  have hg:atI (ps.map prE) (k:Int)=some (prE ps[k]):=by rw[U8,Vp hk'];rfl
  have c1:=ZC ps none (some (k:Int))
  have c2:=ZC ps (some ((k:Int)+1)) none
  have c3:=ZC ps (some (k:Int)) none;rcases six h0 h6 with rfl|rfl|rfl|rfl|z
  ·refine⟨UF ps none (some (k:Int))++[(0-c / 9 % 10 ^ 30,ps[k].2)]++UF ps (some ((k:Int)+1)) none,by simp;omega,?_,?_⟩
   ·intro q hq;simp only[QX,QK] at hq;rcases hq with (h|h)|h
    ·exact hB.2 _ (Uo h)
    ·subst h;have f0:=M6 (c / 9) (show(10:Int) ^ 30≠0 by decide);have:=hB.1;dsimp only;omega
    ·exact hB.2 _ (Uo h)
   unfold JG;walk_at "ev";rw[WS,decide_eq_false hp];walk_at "ev";rw[hk,hg];simp only[prE];walk_at "ev"
   try simp only[JI,d10,d20,d30,d40,d50,d21,d31,d41,d51,d32,d42,d52,d43,d53]
   try walk_at "ev"
   try simp only[JI,d10,d20,d30,d40,d50,d21,d31,d41,d51,d32,d42,d52,d43,d53]
   try walk_at "ev"
   try simp only[JI,d10,d20,d30,d40,d50,d21,d31,d41,d51,d32,d42,d52,d43,d53]
   try walk_at "ev"
   try simp only[JI,d10,d20,d30,d40,d50,d21,d31,d41,d51,d32,d42,d52,d43,d53]
   try walk_at "ev"
   try simp only[JI,d10,d20,d30,d40,d50,d21,d31,d41,d51,d32,d42,d52,d43,d53]
   try walk_at "ev"
   rw[<- Jjr];rfl
  ·refine⟨UF ps none (some (k:Int))++[(ps[k].1,0-c / 9 % 10 ^ 30)]++UF ps (some ((k:Int)+1)) none,by simp;omega,?_,?_⟩
   ·intro q hq;simp only[QX,QK] at hq;rcases hq with (h|h)|h
    ·exact hB.2 _ (Uo h)
    ·subst h;exact hkB
    ·exact hB.2 _ (Uo h)
   unfold JG;walk_at "ev";rw[WS,decide_eq_false hp];walk_at "ev";rw[hk,hg];simp only[prE];walk_at "ev"
   try simp only[JI,d10,d20,d30,d40,d50,d21,d31,d41,d51,d32,d42,d52,d43,d53]
   try walk_at "ev"
   try simp only[JI,d10,d20,d30,d40,d50,d21,d31,d41,d51,d32,d42,d52,d43,d53]
   try walk_at "ev"
   try simp only[JI,d10,d20,d30,d40,d50,d21,d31,d41,d51,d32,d42,d52,d43,d53]
   try walk_at "ev"
   try simp only[JI,d10,d20,d30,d40,d50,d21,d31,d41,d51,d32,d42,d52,d43,d53]
   try walk_at "ev"
   try simp only[JI,d10,d20,d30,d40,d50,d21,d31,d41,d51,d32,d42,d52,d43,d53]
   try walk_at "ev"
   rw[<- Jjr];rfl
  ·refine⟨UF ps none (some (k:Int))++[(ps[k].1,ps[k].2)]++UF ps (some (k:Int)) none,by simp;omega,?_,?_⟩
   ·intro q hq;simp only[QX,QK] at hq;rcases hq with (h|h)|h
    ·exact hB.2 _ (Uo h)
    ·subst h;exact hkB
    ·exact hB.2 _ (Uo h)
   unfold JG;walk_at "ev";rw[WS,decide_eq_false hp];walk_at "ev";rw[hk,hg];simp only[prE];walk_at "ev"
   try simp only[JI,d10,d20,d30,d40,d50,d21,d31,d41,d51,d32,d42,d52,d43,d53]
   try walk_at "ev"
   try simp only[JI,d10,d20,d30,d40,d50,d21,d31,d41,d51,d32,d42,d52,d43,d53]
   try walk_at "ev"
   try simp only[JI,d10,d20,d30,d40,d50,d21,d31,d41,d51,d32,d42,d52,d43,d53]
   try walk_at "ev"
   try simp only[JI,d10,d20,d30,d40,d50,d21,d31,d41,d51,d32,d42,d52,d43,d53]
   try walk_at "ev"
   try simp only[JI,d10,d20,d30,d40,d50,d21,d31,d41,d51,d32,d42,d52,d43,d53]
   try walk_at "ev"
   rw[<- Jjr];rfl
  ·refine⟨UF ps (some (k:Int)) none++UF ps none (some (k:Int)),by simp;omega,?_,?_⟩
   ·intro q hq;rcases QX.mp hq with h|h <;> exact hB.2 _ (Uo h)
   unfold JG;walk_at "ev";rw[WS,decide_eq_false hp];walk_at "ev";rw[hk,hg];simp only[prE];walk_at "ev"
   try simp only[JI,d10,d20,d30,d40,d50,d21,d31,d41,d51,d32,d42,d52,d43,d53]
   try walk_at "ev"
   try simp only[JI,d10,d20,d30,d40,d50,d21,d31,d41,d51,d32,d42,d52,d43,d53]
   try walk_at "ev"
   try simp only[JI,d10,d20,d30,d40,d50,d21,d31,d41,d51,d32,d42,d52,d43,d53]
   try walk_at "ev"
   try simp only[JI,d10,d20,d30,d40,d50,d21,d31,d41,d51,d32,d42,d52,d43,d53]
   try walk_at "ev"
   try simp only[JI,d10,d20,d30,d40,d50,d21,d31,d41,d51,d32,d42,d52,d43,d53]
   try walk_at "ev"
   rw[Gd]
  ·have hm:0<=c / 9 % 3/\c / 9 % 3<3:=⟨M6 _ (by decide),Mi _ (by decide)⟩
   have hix:atI [D.int 0,D.int 1,D.int (1+c / 9 % 10 ^ 30)] (c / 9 % 3)=some (.int (Zk [0,1,1+c / 9 % 10 ^ 30] (c / 9 % 3))):=Wn (l:=[0,1,1+c / 9 % 10 ^ 30]) hm.1 (by simpa using hm.2)
   have hsum:(UY (.nm 0) yes? (e2 fIx (Jb 0) (eC (.int 1))) [.no] (ps.map prE))=some (ps.map fun p=>D.int p.2):=Yk fun p _=>by walk_at "ev";rfl
   refine⟨UF ps none (some (k:Int))++[(ps[k].1,12-((ps.map (·.2)).sum-ps[k].2)+Zk [0,1,1+c / 9 % 10 ^ 30] (c / 9 % 3))]++UF ps (some ((k:Int)+1)) none,by simp;omega,?_,?_⟩
   ·intro q hq;simp only[QX,QK] at hq;rcases hq with (h|h)|h
    ·exact hB.2 _ (Uo h)
    ·subst h;exact hkB
    ·exact hB.2 _ (Uo h)
   have n0:decide (w=0)=false:=decide_eq_false (by omega)
   have n1:decide (w=1)=false:=decide_eq_false (by omega)
   have n2:decide (w=2)=false:=decide_eq_false (by omega)
   have n3:decide (w=3)=false:=decide_eq_false (by omega);unfold JG;walk_at "ev";rw[WS,decide_eq_false hp];walk_at "ev";rw[hk,hg];simp only[prE];walk_at "ev"
   iterate 7
    try simp only[JI,n0,n1,n2,n3,hsum,YO (show(Sl.own (ps.map fun p=>D.int p.2)).q=some ((ps.map (·.2)).map .int) by simp[Sl.q]),hix]
    try walk_at "ev"
   rw[<- Jjr];rfl
theorem Jct(full:List Pr):∀(rest pre:List Pr) (prev:Int) (j:Sl),full=pre++rest->0<=prev->(pre=[]->prev=0)->(∀x,pre[pre.length-1]?=some x->x.1=prev) ->
 ∃j',J9 (.nm 1) Jo4 ((List.range' pre.length rest.length).map fun i:Nat=>D.int (i:Int)) [.sh (.lst (full.map prE)),j]=some (if YQ prev rest=true then .rt (.sh (.str "table")) else .nx [.sh (.lst (full.map prE)),j'])
 | [],pre,prev,j,_,_,_,_=>⟨j,rfl⟩
 | p::r,pre,prev,j,hf,h0,h1,h2=>by
  have hk:full[pre.length]?=some p:=by rw[hf];simp
  have hg:atI (full.map prE) (pre.length:Int)=some (prE p):=by rw[U8,Jcf hk];rfl
  have step:∃b,Jo4 [.sh (.lst (full.map prE)),.sh (.int (pre.length:Int))]=some b/\b=(if (decide (p.1<=prev) || decide (p.2<1))=true then .rt (.sh (.str "table")) else .nx [.sh (.lst (full.map prE)),.sh (.int (pre.length:Int))]):=by
   refine⟨_,?_,rfl⟩;walk_at "ev";rw[hg];walk_at "ev";rw[V5];walk_at "ev"
   by_cases c1:p.1<1
   ·rw[decide_eq_true c1,decide_eq_true (show p.1<=prev by omega)];walk_at "ev";rfl
   ·rw[decide_eq_false c1];walk_at "ev";rw[Vd];walk_at "ev"
    by_cases c2:p.2<1
    ·rw[decide_eq_true c2,Rz];walk_at "ev"
    ·rw[decide_eq_false c2];walk_at "ev"
     by_cases c3:(pre.length:Int)>0
     ·rw[decide_eq_true c3];have hpre:∃x,pre[pre.length-1]?=some x:=⟨pre[pre.length-1]'(by omega),by simp⟩
      obtain⟨x,hx⟩:=hpre;have hx1:=h2 x hx;have hfx:full[pre.length-1]?=some x:=by rw[hf,Qq (by omega)];exact hx
      have hgx:atI (full.map prE) ((pre.length:Int)-1)=some (prE x):=by rw[show(pre.length:Int)-1=((pre.length-1:Nat):Int) by omega,U8,Jcf hfx];rfl
      walk_at "ev";rw[hgx];walk_at "ev";rw[V5];walk_at "ev";rw[hx1]
      by_cases c4:p.1<=prev
      ·rw[decide_eq_true c4];walk_at "ev";rfl
      ·rw[decide_eq_false c4];walk_at "ev";rfl
     ·rw[decide_eq_false c3];have hpz:pre=[]:=QZ (by omega);have:=h1 hpz;rw[decide_eq_false (show ¬p.1<=prev by omega)];walk_at "ev";rfl
  obtain⟨b,e,hb⟩:=step;rw[Qu,List.range'_succ,Qi,J9,JlP];simp only[Qu,GB,Ro,Nat.reduceLT,if_true,List.set_cons_succ,List.set_cons_zero,QG];rw[e,hb]
  by_cases c:(decide (p.1<=prev) || decide (p.2<1))=true
  ·refine⟨.no,?_⟩;rw[YQ,<- Rp,c,LY];rfl
  ·rw[if_neg c];rw[Bool.not_eq_true] at c;have c':=Gc.mp c;have c1:=of_decide_eq_false c'.1;obtain⟨j',ih⟩:=Jct full r (pre++[p]) p.1 (.sh (.int (pre.length:Int))) (by rw[hf];simp) (by omega) (by simp) (fun x hx=>by simp at hx;rw[<- hx]);refine⟨j',?_⟩;rw[YQ,<- Rp,c,GA];rw[Qy,GH] at ih;exact ih
noncomputable def ZD(ps:List Pr):Str:=if YQ 0 ps=true then "table" else if (ps.map (·.2)).sum>12 then "many" else "told"
theorem Jpl(ps:List Pr)(hl:ps.length<=20):YR [.sh (.lst (ps.map prE))]=some (.sh (.str (ZD ps))):=by
 obtain⟨j',e⟩:=Jct ps ps [] 0 .no (by simp) (by omega) (fun _=>rfl) (fun x hx=>by simp at hx);rw[GB,<- Rc] at e;unfold YR ZD;walk_at "ev";rw[JgH,Gm,e]
 cases hb:YQ 0 ps with
 | true=>rfl
 | false =>
  rw[if_neg Qp,if_neg Qp];walk_at "ev";rw[JgN];walk_at "ev";rw[YO (ns:=ps.map (·.2)) (by simp[Sl.q])];walk_at "ev"
  by_cases c:(ps.map (·.2)).sum>12
  ·rw[decide_eq_true c,if_pos c];walk_at "ev"
  ·rw[decide_eq_false c,if_neg c];walk_at "ev"
theorem Ja5:∀(ks vs:List Int) (n:Int),n∈ks->ks.length=vs.length->look ks vs n=some ((look ks vs n).getD 0)
 | [],_,_,h,_=>by cases h
 | _::_,[],_,_,h=>by cases h
 | k::ks,v::vs,n,h,hl=>by
  simp only[look]
  by_cases e:k=n
  ·rw[if_pos e];rfl
  ·rw[if_neg e];refine Ja5 ks vs n ?_ (by simpa using hl);rcases Qh.mp h with z|z
   ·exact absurd z.symm e
   ·exact z
theorem Jit{ks:List Int}{n B:Int}(h:∀k∈ks,k<=B)(hn:n<=B):(Yv ks n).length<=ks.length+1/\∀k∈Yv ks n,k<=B:=by
 unfold Yv;split
 ·exact⟨by omega,h⟩
 ·refine⟨by simp,fun k hk=>?_⟩;rcases QX.mp hk with z|z
  ·exact h k z
  ·rw[QK] at z;omega
theorem Jng(ns:List Int)(many span:Int)(h0:0<=many)(h8:many<=8)(hs:0<span):∃L:List Pr,L.length<=8/\(∀p∈L,p.1<=span)/\YG [.sh (.fz (ns.map .int)),.sh (.int 3),.sh (.int many),.sh (.int span)]=some (.own (L.map prE)):=by
 obtain⟨E',hR,he⟩:=VQ (p:=.nm 5) (b:=(Jl (Jn 6 (e2 JQ (eC (.int 1)) (e2 Yp (eU 2 JB (aC (Jb 0) (aC (e2 JQ (Jb 1) (e2 UA (eC (.int 2)) (Jb 5))) a0))) (Jb 3)))) (Jdq 4 (Jb 6) (e2 JQ (e2 JQ (Jbu (Jb 4) (Jb 6) (eC (.int 0))) (eC (.int 1))) (e2 Yp (eU 2 JB (aC (Jb 0) (aC (e2 JQ (e2 JQ (Jb 1) (eC (.int 1))) (e2 UA (eC (.int 2)) (Jb 5))) a0))) (eC (.int 2))))))) (f:=fun i:Nat=>D.int (i:Int)) (as:=GU many.toNat) (E:=[.sh (.fz (ns.map .int)),.sh (.int 3),.sh (.int many),.sh (.int span),.od [] [],.no,.no]) (fun(rest:List Nat) (i:Nat) E=>∃ks vs j5 j6,E=[.sh (.fz (ns.map .int)),.sh (.int 3),.sh (.int many),.sh (.int span),.od ks (vs.map .int),j5,j6]/\ks.length=vs.length/\ks.length<=i/\i+rest.length<=8/\∀k∈ks,k<=span) (fun i _=>i+1) 0 ⟨[],[],.no,.no,rfl,rfl,by simp,by rw[K4];omega,fun k hk=>(by cases hk)⟩ (by rintro a rest i E ⟨ks,vs,j5,j6,rfl,hl,hi,hr,hk⟩;rw[Qu] at hr;have e1:=Mi (cell ns (3+2*(a:Int))) hs;obtain⟨q1,q2⟩:=Jit (n:=1+cell ns (3+2*(a:Int)) % span) hk (by omega);walk_at "ev";rw[Wa _ _ (by omega)];walk_at "ev";rw[Wa _ _ (by omega)];walk_at "ev";rw[JhY];walk_at "ev";rw[JgE];exact⟨_,_,_,_,rfl,Jbb _ _ _ _ hl,by omega,by omega,q2⟩)
 obtain⟨ks,vs,j5,j6,rfl,hl,hi,hr,hk⟩:=hR;rw[GB] at hr;have hsz:(JZ ks).length<=8:=by rw[(Jw _).length_eq];omega
 refine⟨(JZ ks).map fun k=>(k,(look ks vs k).getD 0),by rw[Qo];exact hsz,fun p hp=>?_,?_⟩
 ·obtain⟨k,hk',rfl⟩:=QQ.mp hp;exact hk k ((Jw _).mem_iff.mp hk')
 ·unfold YG;walk_at "ev";rw[JgH,he];walk_at "ev";rw[Yk (g:=fun k=>prE (k,(look ks vs k).getD 0))]
  ·walk_at "ev";rw[Gg];rfl
  ·intro k hk';walk_at "ev";rw[ZY,Ja5 _ _ k ((Jw _).mem_iff.mp hk') hl];walk_at "ev";rfl
theorem Jmh(B:Int)(hB:0<=B)(s:Int)(hs:0<=s):∀(L:List Pr),(∀p∈L,1<=p.1/\p.1<=B/\1<=p.2)->0<=tkL L (some s)/\tkL L (some s)<=(L.map (·.2)).sum*B
 | [],_=>by unfold tkL;simp
 | p::L,h=>by
  obtain⟨i1,i2⟩:=Jmh B hB s hs L fun q hq=>h q (Qc _ hq)
  obtain⟨h1,h2,h3⟩:=h p Qf;have e:tkL (p::L) (some s)=p.2*min p.1 s+tkL L (some s):=by unfold tkL;rw[Qi,QT];rfl
  have m0:0<=p.2*min p.1 s:=Int.mul_nonneg (by omega) (by omega)
  have m1:p.2*min p.1 s<=p.2*B:=Int.mul_le_mul_of_nonneg_left (by omega) (by omega);rw[e,Qi,QT,Int.add_mul];omega
theorem Jh8{L:List Pr}(hl:L.length<=20)(hB:∀p∈L,p.1<=4*10 ^ 8)(h1:YQ 0 L=false)(h2:(L.map (·.2)).sum<=12):OkL L/\cnS L<=12:=by
 have lo:=UX (Gy _) h1
 have s0:=(VS (Vh h1)).1;refine⟨⟨hl,h1,h2,fun p hp=>?_⟩,?_⟩
 ·have t:=Jmh (4*10 ^ 8) (by decide) p.1 (by have:=lo p hp;omega) L fun q hq=>⟨(lo q hq).1,hB q hq,(lo q hq).2⟩
  omega
 ·have e:∀L:List Pr,(∀p∈L,1<=p.2)->(cnS L:Int)=(L.map (·.2)).sum:=by
   intro L
   induction L with
   | nil=>intro _;rfl
   | cons p L ih =>
    intro h;have i:=ih fun q hq=>h q (Qc _ hq)
    have hp:=h p Qf
    have ce:cnS (p::L)=p.2.toNat+cnS L:=by unfold cnS;rw[Qi,QT]
    rw[ce,Qi,QT];omega
  have:=e L fun p hp=>(lo p hp).2
  omega
noncomputable abbrev aE(w N:Int)(L:List Pr)(z:Int):List Sl:=[.sh (.int w),.sh (.int N),.sh (.lst (L.map prE)),.sh (.int z)]
theorem Jjs(w N z:Int)(L:List Pr)(hl:L.length<=20)(hw:w=0\/w=1\/w=2)(m:Str)(h:td5 L=some m):JH (aE w N L z)=none/\J1 (aE w N L z)=some m:=by
 obtain⟨a1,a2⟩:=Jev (.int N) L hl m h;obtain⟨b1,b2⟩:=JlQ (.int N) L hl m h;obtain⟨c1,c2⟩:=JoX (.int N) (.int z) L hl m h;have d10:decide ((1:Int)=0)=false:=by decide
 have d20:decide ((2:Int)=0)=false:=by decide
 have d21:decide ((2:Int)=1)=false:=by decide
 rcases hw with rfl|rfl|rfl
 ·refine⟨?_,?_⟩
  ·unfold JH;walk_at "ev";rw[a1];walk_at "ev"
  ·unfold J1 YX J5 Vu exU Yw;walk_at "ev";rw[a2]
 ·refine⟨?_,?_⟩
  ·unfold JH;walk_at "ev";rw[d10];walk_at "ev";rw[b1];walk_at "ev"
  ·unfold J1 YX J5 Vu exU Yw;walk_at "ev";rw[d10];walk_at "ev";rw[b2]
 ·refine⟨?_,?_⟩
  ·unfold JH;walk_at "ev";rw[d20];walk_at "ev";rw[d21];walk_at "ev";rw[c1];walk_at "ev"
  ·unfold J1 YX J5 Vu exU Yw;walk_at "ev";rw[d20];walk_at "ev";rw[d21];walk_at "ev";rw[c2]
theorem Jg2(w N z:Int)(L:List Pr)(hN:0<=N/\N<=10 ^ 9)(o:OkL L)(hc:cnS L<=12)(hw:w=0\/w=1\/w=2):(∃r,JH (aE w N L z)=some r)\/(JH (aE w N L z)=none/\J1 (aE w N L z)=some (Q0 "NoRow")):=by
 have mr:=Zr N L hN o
 have mh:=JlZ N L hN o hc
 have d10:decide ((1:Int)=0)=false:=by decide
 have d20:decide ((2:Int)=0)=false:=by decide
 have d21:decide ((2:Int)=1)=false:=by decide
 rcases hw with rfl|rfl|rfl
 ·refine .inl ?_;unfold JH;walk_at "ev";rw[mr];walk_at "ev";exact⟨_,rfl⟩
 ·refine .inl ?_;unfold JH;walk_at "ev";rw[d10];walk_at "ev";rw[mh];walk_at "ev";exact⟨_,rfl⟩
 ·by_cases hz:0<=z/\z<hmF N L
  ·obtain⟨r,hr⟩:=Jpo N z L hN o hc hz;refine .inl ?_;unfold JH;walk_at "ev";rw[d20];walk_at "ev";rw[d21];walk_at "ev";rw[hr];walk_at "ev";exact⟨_,rfl⟩
  ·have n1:Yc [.sh (.int N),.sh (.lst (L.map prE)),.sh (.int z)]=none:=by
    unfold Yc;walk_at "ev";rw[mh];walk_at "ev"
    by_cases c1:0<=z
    ·rw[decide_eq_true c1];walk_at "ev";rw[decide_eq_false (fun q=>hz ⟨c1,q⟩)];walk_at "ev";rfl
    ·rw[decide_eq_false c1];walk_at "ev";rfl
   have nx:Ye [.sh (.int N),.sh (.lst (L.map prE))]=none:=by
    have rx:Ym [.sh (.int N),.sh (.lst (L.map prE))]=none:=by
     have fx:Yd [.sh (.lst (L.map prE)),.sh (.int 12)]=none:=by
      have hl:=o.len
      have hf:=o.few;unfold Yd YX Vu YZ Yw;walk_at "ev";rw[JgN];walk_at "ev";rw[YO (ns:=L.map (·.2)) (by simp[Sl.q])];walk_at "ev";rw[decide_eq_false (show ¬(12:Int)<(L.map (·.2)).sum by omega)];walk_at "ev"
     obtain⟨r2,e2⟩:=Jfg L o.bad;obtain⟨r3,e3⟩:=Jh0 L 12 o.len (by have:=o.few;omega);unfold Ym YX J5 exU Yw;walk_at "ev";rw[W9 L o.bad,e2];walk_at "ev";rw[fx,e3];walk_at "ev"
    unfold Ye YX J5 exC exU Yw;walk_at "ev";rw[rx,mr];walk_at "ev";split <;> rfl
   have n2:YB [.sh (.int N),.sh (.lst (L.map prE)),.sh (.int z)]=some (Q0 "NoRow"):=by
    unfold YB YX J5 Vu YZ exU Yw;walk_at "ev";rw[nx,mh];walk_at "ev"
    by_cases c1:0<=z
    ·rw[decide_eq_true c1];walk_at "ev";rw[decide_eq_false (fun q=>hz ⟨c1,q⟩)];walk_at "ev"
    ·rw[decide_eq_false c1];walk_at "ev"
   refine .inr ⟨?_,?_⟩
   ·unfold JH;walk_at "ev";rw[d20];walk_at "ev";rw[d21];walk_at "ev";rw[n1];walk_at "ev"
   ·unfold J1 YX J5 Vu exU Yw;walk_at "ev";rw[d20];walk_at "ev";rw[d21];walk_at "ev";rw[n2]
theorem Jni(w N z:Int)(L:List Pr)(hN:0<=N/\N<=10 ^ 9)(hl:L.length<=20)(hB:∀p∈L,p.1<=4*10 ^ 8)(hw:w=0\/w=1\/w=2):JV (aE w N L z)=some (.sh (.str (ZD L))):=by
 cases h:td5 L with
 | some m =>
  obtain⟨k1,k2⟩:=Jjs w N z L hl hw m h;unfold td5 at h;unfold ZD;split at h
  ·next h1=>cases h;rw[if_pos h1];unfold JV Jep exU;walk_at "ev";rw[k1,k2];rfl
  ·next h1 =>
   rw[if_neg h1];split at h
   ·next h2=>cases h;rw[if_pos h2];unfold JV Jep exU;walk_at "ev";rw[k1,k2];rfl
   ·cases h
 | none =>
  unfold td5 at h;unfold ZD;split at h
  ·cases h
  ·next h1 =>
   rw[if_neg h1];split at h
   ·cases h
   ·next h2 =>
    rw[if_neg h2];obtain⟨o,hc⟩:=Jh8 hl hB (by simpa using h1) (by omega);rcases Jg2 w N z L hN o hc hw with ⟨r,hr⟩|⟨k1,k2⟩
    ·unfold JV Jep exU;walk_at "ev";rw[hr];walk_at "ev"
    ·unfold JV Jep exU;walk_at "ev";rw[k1,k2];rfl
theorem JmT(ns:List Int):∃(qs:List Pr) (N:Int),qs.length<=20/\(∀p∈qs,p.1<=4*10 ^ 8)/\(0<=N/\N<=10 ^ 9)/\∀T:Es,(Jl (Jn 1 (eU 2 JB (aC (Jb 0) (aC (eC (.int 0)) a0)))) (Jl (Jn 2 (eU 2 JB (aC (Jb 0) (aC (eC (.int 1)) a0)))) (Jl (Jn 3 (eU 4 YG (aC (Jb 0) (aC (eC (.int 3)) (aC (e2 Yp (Jb 1) (eC (.int 7))) (aC (e2 fIx (Y6 (aC (eC (.int 4)) (aC (eC (.int 1000)) (aC (e2 UA (eC (.int 4)) (e2 UK (eC (.int 10)) (eC (.int 8)))) a0)))) (e2 Yp (e2 Vc (Jb 1) (eC (.int 7))) (eC (.int 3)))) a0)))))) (Jl (Jn 4 (e2 fIx (Y6 (aC (e2 Yp (Jb 2) (eC (.int 31))) (aC (e2 Yp (Jb 2) (e2 JQ (e2 UK (eC (.int 10)) (eC (.int 4))) (eC (.int 1)))) (aC (e2 Yp (Jb 2) (e2 JQ (e2 UK (eC (.int 10)) (eC (.int 9))) (eC (.int 1)))) (aC (e2 UK (eC (.int 10)) (eC (.int 9))) a0))))) (e2 Yp (e2 Vc (Jb 1) (eC (.int 21))) (eC (.int 4))))) (Jl (xIf (tB? (e2 fLt (e2 Yp (e2 Vc (Jb 1) (eC (.int 84))) (eC (.int 5))) (eC (.int 2)))) (Jn 3 (eU 3 JG (aC (Jb 3) (aC (e2 Yp (eU 2 JB (aC (Jb 0) (aC (eC (.int 2)) a0))) (eC (.int 6))) (aC (e2 Yp (e2 Vc (eU 2 JB (aC (Jb 0) (aC (eC (.int 2)) a0))) (eC (.int 6))) (e2 UK (eC (.int 10)) (eC (.int 50)))) a0))))) Jy) T))))) [.sh (.fz (ns.map .int)),.no,.no,.no,.no,.no,.no,.no,.no,.no,.no,.no,.no]=T [.sh (.fz (ns.map .int)),.sh (.int (cell ns 0)),.sh (.int (cell ns 1)),.sh (.lst (qs.map prE)),.sh (.int N),.no,.no,.no,.no,.no,.no,.no,.no]:=by
 have a3:=Wn (l:=[4,1000,4*10 ^ 8]) (k:=cell ns 0 / 7 % 3) (by omega) (by show _<(3:Int);omega);simp only[Qi,Kp] at a3
 have hs:0<Zk [4,1000,4*10 ^ 8] (cell ns 0 / 7 % 3)/\Zk [4,1000,4*10 ^ 8] (cell ns 0 / 7 % 3)<=4*10 ^ 8:=Jc2 (P:=fun x=>0<x/\x<=4*10 ^ 8) (by omega) (by show _<(3:Int);omega) (by decide)
 revert a3 hs
 generalize Zk [4,1000,4*10 ^ 8] (cell ns 0 / 7 % 3)=span
 intro a3 hs;have a4:=Wn (l:=[cell ns 1 % 31,cell ns 1 % (10 ^ 4+1),cell ns 1 % (10 ^ 9+1),10 ^ 9]) (k:=cell ns 0 / 21 % 4) (by omega) (by show _<(4:Int);omega);simp only[Qi,Kp] at a4
 have hN:0<=Zk [cell ns 1 % 31,cell ns 1 % (10 ^ 4+1),cell ns 1 % (10 ^ 9+1),10 ^ 9] (cell ns 0 / 21 % 4)/\Zk [cell ns 1 % 31,cell ns 1 % (10 ^ 4+1),cell ns 1 % (10 ^ 9+1),10 ^ 9] (cell ns 0 / 21 % 4)<=10 ^ 9:=Jc2 (P:=fun x=>0<=x/\x<=10 ^ 9) (by omega) (by show _<(4:Int);omega) (by
  intro x hx;simp only[Qh,GX,or_false] at hx;omega)
 revert a4 hN
 generalize Zk [cell ns 1 % 31,cell ns 1 % (10 ^ 4+1),cell ns 1 % (10 ^ 9+1),10 ^ 9] (cell ns 0 / 21 % 4)=N
 intro a4 hN;obtain⟨L,hL,hB,ml⟩:=Jng ns (cell ns 0 % 7) span (by omega) (by omega) hs.1;have hB':∀p∈L,p.1<=4*10 ^ 8:=fun p hp=>by have:=hB p hp;omega
 by_cases h:cell ns 0 / 84 % 5<2
 ·obtain⟨qs,hq,qB,e⟩:=Jkx L (cell ns 2 % 6) (cell ns 2 / 6 % 10 ^ 50) hL (by omega) (by omega) ⟨by decide,hB'⟩;refine⟨qs,N,hq,qB,hN,fun T=>?_⟩;walk_at "ev";rw[Wa _ _ (by decide)];walk_at "ev";rw[Wa _ _ (by decide)];walk_at "ev";rw[a3];walk_at "ev";rw[ml];walk_at "ev";rw[a4];walk_at "ev";rw[decide_eq_true h];walk_at "ev";rw[Wa _ _ (by decide)];walk_at "ev";obtain⟨x,ex,ef⟩:=Option.bind_eq_some_iff.mp e;rw[ex];unfold Sl.frz at ef;simp only[QG,ef]
  walk_at "ev"
 ·refine⟨L,N,by omega,hB',hN,fun T=>?_⟩;walk_at "ev";rw[Wa _ _ (by decide)];walk_at "ev";rw[Wa _ _ (by decide)];walk_at "ev";rw[a3];walk_at "ev";rw[ml];walk_at "ev";rw[a4];walk_at "ev";rw[decide_eq_false h];walk_at "ev"
noncomputable abbrev rvD(N:Int)(L:List Pr):List D:=((L.map fun p=>((p.1,rmF N L p):Pr)).map prE++[D.tup [D.int 0,D.int 0]]).reverse
theorem Jja(L:List Pr)(N:Int)(hN:0<=N/\N<=10 ^ 9)(o:OkL L)(u0 u1 u2 u5 u7 u8:Sl) :
 (Jl (Zm 9 (eU 2 JE (aC (Jb 4) (aC (Jb 6) a0)))) (Jl (Jb6 9 (Y7 (aC (eC (.int 0)) (aC (eC (.int 0)) a0)))) (Jl (Jbj 9) (Jl (Jn 10 (eU 2 JE (aC (Jb 4) (aC (Jb 6) a0)))) (Jl (xIf (tOr? (tNot? (tTru? (Vt "list" (Jb 10)))) (tOr? (tB? (e2 fNe (eF UJ (aC (Jb 10) a0)) (eF UJ (aC (Jb 3) a0)))) (tB? (e2 fNe (Jb 6) (Jb 3))))) (JY (eC (.bl false))) Jy) (Jl (UW (iR1 (aC (eF UJ (aC (Jb 3) a0)) a0)) (.nm 11) (Jl (Jn 12 (e2 Y0 (Jb 4) (e2 UA (eC (.int 2)) (eF V6 (aC (YL (iE true (Jb 3)) (.tp (.cons (.nm 0) (.cons (.nm 1) .nil))) yes? (e2 UA (Jb 1) (eF JaB (aC (Jb 0) (aC (e2 fIx (e2 fIx (Jb 2) (Jb 3)) (eC (.int 0))) a0)))) [none,none,some 3,some 11]) a0))))) (Jl (xIf (tOr? (tNot? (tTru? (Vt "tuple" (e2 fIx (Jb 10) (Jb 11))))) (tB? (e2 fNe (e2 fIx (Jb 10) (Jb 11)) (Y7 (aC (e2 fIx (e2 fIx (Jb 3) (Jb 11)) (eC (.int 0))) (aC (Jb 12) a0)))))) (JY (eC (.bl false))) Jy) (xIf (tOr? (tTru? (Vt "bool" (e2 fIx (e2 fIx (Jb 10) (Jb 11)) (eC (.int 0))))) (tTru? (Vt "bool" (e2 fIx (e2 fIx (Jb 10) (Jb 11)) (eC (.int 1)))))) (JY (eC (.bl false))) Jy)))) (JY (eC (.bl true))))))))) [u0,u1,u2,.sh (.lst (L.map prE)),.sh (.int N),u5,.sh (.lst (L.map prE)),u7,u8,.no,.no,.no,.no]=some (.rt (.sh (.bl true))):=by
 have mr:=Zr N L hN o
 have hl:=o.len
 have lo:=UX (Gy _) o.bad
 have nm:=(VS (Vh o.bad)).2
 have fw:=o.few
 obtain⟨E',hR,he⟩:=VQ (p:=.nm 11) (b:=(Jl (Jn 12 (e2 Y0 (Jb 4) (e2 UA (eC (.int 2)) (eF V6 (aC (YL (iE true (Jb 3)) (.tp (.cons (.nm 0) (.cons (.nm 1) .nil))) yes? (e2 UA (Jb 1) (eF JaB (aC (Jb 0) (aC (e2 fIx (e2 fIx (Jb 2) (Jb 3)) (eC (.int 0))) a0)))) [none,none,some 3,some 11]) a0))))) (Jl (xIf (tOr? (tNot? (tTru? (Vt "tuple" (e2 fIx (Jb 10) (Jb 11))))) (tB? (e2 fNe (e2 fIx (Jb 10) (Jb 11)) (Y7 (aC (e2 fIx (e2 fIx (Jb 3) (Jb 11)) (eC (.int 0))) (aC (Jb 12) a0)))))) (JY (eC (.bl false))) Jy) (xIf (tOr? (tTru? (Vt "bool" (e2 fIx (e2 fIx (Jb 10) (Jb 11)) (eC (.int 0))))) (tTru? (Vt "bool" (e2 fIx (e2 fIx (Jb 10) (Jb 11)) (eC (.int 1)))))) (JY (eC (.bl false))) Jy)))) (f:=fun i:Nat=>D.int (i:Int)) (as:=GU L.length) (E:=[u0,u1,u2,.sh (.lst (L.map prE)),.sh (.int N),u5,.sh (.lst (L.map prE)),u7,u8,.own (rvD N L),.sh (.lst ((L.map fun p=>((p.1,rmF N L p):Pr)).map prE)),.no,.no]) (fun(rest:List Nat) (_:Unit) E=>∃j11 j12,E=[u0,u1,u2,.sh (.lst (L.map prE)),.sh (.int N),u5,.sh (.lst (L.map prE)),u7,u8,.own (rvD N L),.sh (.lst ((L.map fun p=>((p.1,rmF N L p):Pr)).map prE)),j11,j12]/\∀i∈rest,i<L.length) (fun _ _=>()) () ⟨.no,.no,rfl,fun i hi=>L6.mp hi⟩ (by
  rintro i rest _ E ⟨j11,j12,rfl,hi⟩;have hi':=hi i Qf;have g1:atI (L.map prE) (i:Int)=some (prE L[i]):=by rw[U8,Vp hi'];rfl
  have g2:atI ((L.map fun p=>((p.1,rmF N L p):Pr)).map prE) (i:Int)=some (prE (L[i].1,rmF N L L[i])):=by rw[Gg,U8,Vp hi'];rfl
  have ec:UY (.tp (.cons (.nm 0) (.cons (.nm 1) .nil))) yes? (e2 UA (Jb 1) (eF JaB (aC (Jb 0) (aC (e2 fIx (e2 fIx (Jb 2) (Jb 3)) (eC (.int 0))) a0)))) [.no,.no,.sh (.lst (L.map prE)),.sh (.int (i:Int))] (L.map prE)=some (L.map fun p=>D.int (p.2*shr (some L[i].1) p.1)):=by
   refine Yk fun p hp=>?_
   have:=nm p hp
   have:=lo p hp;simp only[prE];walk_at "ev";rw[g1];walk_at "ev";rw[V5];walk_at "ev";rfl
  have rm:N-2*(L.map fun p=>p.2*shr (some L[i].1) p.1).sum=rmF N L L[i]:=rfl;walk_at "ev";rw[ec];walk_at "ev";rw[YO (ns:=L.map fun p=>p.2*shr (some L[i].1) p.1) (by simp[Sl.q])];walk_at "ev";rw[g2,rm];walk_at "ev";rw[g1];walk_at "ev";rw[V5];walk_at "ev";rw[show D.tup [D.int L[i].1,D.int (rmF N L L[i])]=prE (L[i].1,rmF N L L[i]) from rfl,Jhs];walk_at "ev";simp only[prE];walk_at "ev";rw[show atI (List.map prE (L.map fun p=>((p.1,rmF N L p):Pr))) (i:Int)=some (prE (L[i].1,rmF N L L[i])) from g2]
  walk_at "ev";rw[V5,Vd];walk_at "ev";exact⟨_,_,rfl,fun j hj=>hi j (Qc _ hj)⟩)
 obtain⟨j11,j12,rfl,_⟩:=hR;have eP:eqA (.lst (L.map prE)) (.lst (L.map prE))=some true:=(JdN L L).trans (by simp);walk_at "ev";rw[mr];walk_at "ev";rw[mr];walk_at "ev";rw[JgH,Gm]
 erw [he]
 walk_at "ev"
theorem JoC(L:List Pr)(N c:Int)(hN:0<=N/\N<=10 ^ 9)(hl:L.length<=20)(hB:∀p∈L,p.1<=4*10 ^ 8)(u0 u1:Sl) :
 (Jl (Jn 5 (eU 1 YR (aC (Jb 3) a0))) (Jl (Jn 6 (eF JaX (aC (Jb 3) a0))) (Jl (UW (iR1 (aC (eC (.int 3)) a0)) (.nm 7) (Jl (Jn 8 (e2 fIx (Y6 (aC (eC (.int 0)) (aC (e2 Y0 (e1 JcA (eC (.int 1))) (e2 Yp (Jb 2) (e2 UK (eC (.int 10)) (eC (.int 30))))) (aC (e2 UK (eC (.int 10)) (eC (.int 30))) a0)))) (e2 Yp (e2 Vc (Jb 2) (eC (.int 7))) (eC (.int 3))))) (xIf (tOr? (tB? (e2 fNe (eU 4 JV (aC (Jb 7) (aC (Jb 4) (aC (Jb 6) (aC (Jb 8) a0))))) (Jb 5))) (tB? (e2 fNe (Jb 6) (Jb 3)))) (JY (eC (.bl false))) Jy))) (Jl (xIf (tB? (e2 fNe (Jb 5) (eC (.str "told")))) (JY (eC (.bl true))) Jy) (Jl (Zm 9 (eU 2 JE (aC (Jb 4) (aC (Jb 6) a0)))) (Jl (Jb6 9 (Y7 (aC (eC (.int 0)) (aC (eC (.int 0)) a0)))) (Jl (Jbj 9) (Jl (Jn 10 (eU 2 JE (aC (Jb 4) (aC (Jb 6) a0)))) (Jl (xIf (tOr? (tNot? (tTru? (Vt "list" (Jb 10)))) (tOr? (tB? (e2 fNe (eF UJ (aC (Jb 10) a0)) (eF UJ (aC (Jb 3) a0)))) (tB? (e2 fNe (Jb 6) (Jb 3))))) (JY (eC (.bl false))) Jy) (Jl (UW (iR1 (aC (eF UJ (aC (Jb 3) a0)) a0)) (.nm 11) (Jl (Jn 12 (e2 Y0 (Jb 4) (e2 UA (eC (.int 2)) (eF V6 (aC (YL (iE true (Jb 3)) (.tp (.cons (.nm 0) (.cons (.nm 1) .nil))) yes? (e2 UA (Jb 1) (eF JaB (aC (Jb 0) (aC (e2 fIx (e2 fIx (Jb 2) (Jb 3)) (eC (.int 0))) a0)))) [none,none,some 3,some 11]) a0))))) (Jl (xIf (tOr? (tNot? (tTru? (Vt "tuple" (e2 fIx (Jb 10) (Jb 11))))) (tB? (e2 fNe (e2 fIx (Jb 10) (Jb 11)) (Y7 (aC (e2 fIx (e2 fIx (Jb 3) (Jb 11)) (eC (.int 0))) (aC (Jb 12) a0)))))) (JY (eC (.bl false))) Jy) (xIf (tOr? (tTru? (Vt "bool" (e2 fIx (e2 fIx (Jb 10) (Jb 11)) (eC (.int 0))))) (tTru? (Vt "bool" (e2 fIx (e2 fIx (Jb 10) (Jb 11)) (eC (.int 1)))))) (JY (eC (.bl false))) Jy)))) (JY (eC (.bl true))))))))))))) [u0,u1,.sh (.int c),.sh (.lst (L.map prE)),.sh (.int N),.no,.no,.no,.no,.no,.no,.no,.no]=some (.rt (.sh (.bl true))):=by
 have ap:=Wn (l:=[0,-1-c % 10 ^ 30,10 ^ 30]) (k:=c / 7 % 3) (by omega) (by show _<(3:Int);omega);simp only[Qi,Kp] at ap
 revert ap
 generalize Zk [0,-1-c % 10 ^ 30,10 ^ 30] (c / 7 % 3)=z
 intro ap;have md:=Jpl L hl
 obtain⟨E',hR,he⟩:=VQ (p:=.nm 7) (b:=(Jl (Jn 8 (e2 fIx (Y6 (aC (eC (.int 0)) (aC (e2 Y0 (e1 JcA (eC (.int 1))) (e2 Yp (Jb 2) (e2 UK (eC (.int 10)) (eC (.int 30))))) (aC (e2 UK (eC (.int 10)) (eC (.int 30))) a0)))) (e2 Yp (e2 Vc (Jb 2) (eC (.int 7))) (eC (.int 3))))) (xIf (tOr? (tB? (e2 fNe (eU 4 JV (aC (Jb 7) (aC (Jb 4) (aC (Jb 6) (aC (Jb 8) a0))))) (Jb 5))) (tB? (e2 fNe (Jb 6) (Jb 3)))) (JY (eC (.bl false))) Jy))) (f:=fun i:Nat=>D.int (i:Int)) (as:=GU 3) (E:=[u0,u1,.sh (.int c),.sh (.lst (L.map prE)),.sh (.int N),.sh (.str (ZD L)),.sh (.lst (L.map prE)),.no,.no,.no,.no,.no,.no]) (fun(rest:List Nat) (_:Unit) E=>∃j7 j8,E=[u0,u1,.sh (.int c),.sh (.lst (L.map prE)),.sh (.int N),.sh (.str (ZD L)),.sh (.lst (L.map prE)),j7,j8,.no,.no,.no,.no]/\∀i∈rest,i<3) (fun _ _=>()) () ⟨.no,.no,rfl,fun i hi=>L6.mp hi⟩ (by rintro i rest _ E ⟨j7,j8,rfl,hi⟩;have hi':=hi i Qf;have mw:=Jni (i:Int) N z L hN hl hB (by omega);walk_at "ev";rw[ap];walk_at "ev";rw[mw];walk_at "ev";exact⟨_,_,rfl,fun j hj=>hi j (Qc _ hj)⟩)
 obtain⟨j7,j8,rfl,_⟩:=hR;have rest:=@Jja
 by_cases hd:ZD L="told"
 ·obtain⟨o,_⟩:OkL L/\cnS L<=12:=by
   unfold ZD at hd;split at hd
   ·exact absurd hd (by decide)
   ·next h1 =>
    split at hd
    ·exact absurd hd (by decide)
    ·next h2=>exact Jh8 hl hB (by simpa using h1) (by omega)
  have tt:=Jja L N hN o u0 u1 (.sh (.int c)) (.sh (.str (ZD L))) j7 j8
  have b1:∀T:Es,(Jl (Jn 5 (eU 1 YR (aC (Jb 3) a0))) (Jl (Jn 6 (eF JaX (aC (Jb 3) a0))) (Jl (UW (iR1 (aC (eC (.int 3)) a0)) (.nm 7) (Jl (Jn 8 (e2 fIx (Y6 (aC (eC (.int 0)) (aC (e2 Y0 (e1 JcA (eC (.int 1))) (e2 Yp (Jb 2) (e2 UK (eC (.int 10)) (eC (.int 30))))) (aC (e2 UK (eC (.int 10)) (eC (.int 30))) a0)))) (e2 Yp (e2 Vc (Jb 2) (eC (.int 7))) (eC (.int 3))))) (xIf (tOr? (tB? (e2 fNe (eU 4 JV (aC (Jb 7) (aC (Jb 4) (aC (Jb 6) (aC (Jb 8) a0))))) (Jb 5))) (tB? (e2 fNe (Jb 6) (Jb 3)))) (JY (eC (.bl false))) Jy))) (Jl (xIf (tB? (e2 fNe (Jb 5) (eC (.str "told")))) (JY (eC (.bl true))) Jy) T)))) [u0,u1,.sh (.int c),.sh (.lst (L.map prE)),.sh (.int N),.no,.no,.no,.no,.no,.no,.no,.no]=T [u0,u1,.sh (.int c),.sh (.lst (L.map prE)),.sh (.int N),.sh (.str (ZD L)),.sh (.lst (L.map prE)),j7,j8,.no,.no,.no,.no]:=by intro T;walk_at "ev";rw[md];walk_at "ev";rw[JgH,he];walk_at "ev";rw[hd];walk_at "ev"
  rw[b1,tt]
 ·walk_at "ev";rw[md];walk_at "ev";rw[JgH,he];walk_at "ev";rw[decide_eq_false hd];walk_at "ev"
theorem law_true(ns:List Int)(hn:ns.length<=63):JdO [.sh (.fz (ns.map .int))]=some (.sh (.bl true)):=by obtain⟨qs,N,hq,qB,hN,hh⟩:=JmT ns;unfold JdO;simp only[YM,Qu,GB,Ro,Nat.reduceSub,Ri,KI,Lk];rw[hh,JoC qs N _ hN hq qB];rfl
end
end LK
noncomputable section
namespace LK
open PySem L2 LR LE
local macro_rules | `(tactic| walk_at "s")=>`(tactic| repeat' first | rfl | assumption | with_reducible apply Jg | with_reducible apply Yj | with_reducible apply Jf | with_reducible apply JP | with_reducible apply Ju | with_reducible apply J0 | with_reducible apply UB | with_reducible apply Jl1 | with_reducible apply Yi | with_reducible apply Yb | with_reducible apply VZ | with_reducible apply Yh | with_reducible apply Zg | with_reducible apply Wm | with_reducible apply Joq | with_reducible apply Ub | with_reducible apply YU | with_reducible apply Jh6 | with_reducible apply Jfi | with_reducible apply Jal | with_reducible apply Vw | with_reducible apply Vx | with_reducible apply JcQ | with_reducible apply Jc9 | with_reducible apply Jl2 | with_reducible apply JnE | with_reducible apply JnF | with_reducible apply W4 | with_reducible apply JqF | with_reducible apply Jbe | with_reducible apply Jpy | with_reducible apply Jec | with_reducible apply JfE | with_reducible apply Jav | with_reducible apply JpA | with_reducible apply Jp7 | with_reducible apply JoZ | with_reducible apply Jg9 | with_reducible apply Jor | with_reducible apply JcO | with_reducible apply Jqz | with_reducible apply Jp0 | with_reducible apply JlK | with_reducible apply Jb7 | with_reducible apply JfS | with_reducible apply Jnm | with_reducible apply J2 | with_reducible apply JpZ | with_reducible apply Jp4 | with_reducible apply Jp6 | with_reducible apply V1 | with_reducible apply Jmc | with_reducible apply Jo1 | with_reducible apply JiL | with_reducible apply Jqc | with_reducible apply Wl | with_reducible apply JhQ | with_reducible apply JkG | with_reducible apply JpY | with_reducible apply Jlj | with_reducible apply Jlk | with_reducible apply Jp2 | with_reducible apply Jmb | with_reducible apply JbV | with_reducible apply JqG | with_reducible apply Jqb | with_reducible apply Jmt | with_reducible apply Jo0 | with_reducible apply Jg8 | with_reducible apply wn | with_reducible apply wL | with_reducible apply qV | with_reducible apply qz | with_reducible apply wp | with_reducible apply qN | with_reducible apply qW | with_reducible apply qH | with_reducible apply wM | with_reducible apply JhR | with_reducible apply Jgr | with_reducible apply Jqy | with_reducible apply JcP | with_reducible apply Jpz | with_reducible apply JpB | with_reducible apply JfD | with_reducible apply Jli | with_reducible apply JiK | with_reducible apply Jma | with_reducible apply Jp1 | with_reducible apply Jp3 | with_reducible apply Jln | with_reducible apply Jqd | with_reducible apply Jqe | with_reducible apply JoI | with_reducible apply Jjg | with_reducible apply JoK | with_reducible apply JlL)
noncomputable def top(i:Nat):Stmt:=PySem.Challenge.pw_lumprow_k55_rooms.main.body.getD i (.Pass ⟨0,0,0,0⟩)
noncomputable abbrev Wj:Stmt:=top 17
noncomputable abbrev VE:Stmt:=top 29
noncomputable abbrev UP:Stmt:=top 28
noncomputable abbrev UQ:Stmt:=top 16
noncomputable abbrev UT:Stmt:=top 30
noncomputable abbrev JbU:Stmt:=top 33
noncomputable abbrev Y1:Stmt:=top 13
noncomputable abbrev Wd:Stmt:=Jkd (top 12) 0
noncomputable abbrev VD:Stmt:=top 19
noncomputable abbrev VI:Stmt:=top 20
noncomputable abbrev UO:Stmt:=top 14
noncomputable abbrev We:Stmt:=top 22
noncomputable abbrev Jam:Stmt:=top 21
noncomputable abbrev UR:Stmt:=top 25
noncomputable abbrev Jan:Stmt:=top 26
noncomputable abbrev W3:Stmt:=top 34
noncomputable abbrev Vk:Stmt:=top 35
noncomputable abbrev Vj:Stmt:=top 39
noncomputable abbrev Uc:Stmt:=top 38
noncomputable abbrev Wf:Stmt:=top 36
noncomputable abbrev Wi:Stmt:=top 37
noncomputable abbrev VG:Stmt:=top 46
noncomputable abbrev VF:Stmt:=top 45
noncomputable abbrev Wh:Stmt:=top 47
noncomputable abbrev W5:Stmt:=top 44
noncomputable abbrev US:Stmt:=top 43
noncomputable abbrev Wg:Stmt:=top 41
noncomputable abbrev VH:Stmt:=top 42
noncomputable abbrev WF:Stmt:=top 48
local macro_rules | `(tactic| walk_at "c")=>`(tactic| exact⟨rfl,rfl,rfl,by decide +kernel,rfl,by decide +kernel,by decide +kernel⟩)
theorem JkC:(["size","number"]:List Str).Nodup:=by decide +kernel
theorem Jpt:(["size","number","seats"]:List Str).Nodup:=by decide +kernel
theorem Jpu:(["size","number","boxes","lumps"]:List Str).Nodup:=by decide +kernel
theorem JkD:(["begin","length"]:List Str).Nodup:=by decide +kernel
theorem Jpv:(["ahead","stretch","layers"]:List Str).Nodup:=by decide +kernel
theorem Jpw:(["begin","length","place"]:List Str).Nodup:=by decide +kernel
theorem Jpx:(["spot","number"]:List Str).Nodup:=by decide +kernel
theorem Jnk:(["size","spot","number"]:List Str).Nodup:=by decide +kernel
theorem Jqx:(["spot","lump","spots"]:List Str).Nodup:=by decide +kernel
theorem Jpr:(["pair"]:List Str).Nodup:=by decide +kernel
theorem Jps:(["size","found"]:List Str).Nodup:=by decide +kernel
theorem Jl0:(["size","number","lumps","k"]:List Str).Nodup:=by decide +kernel
section
variable{P:Program}{w:World}{K:Frag}{C:Addr}{mg:Str->Option Value}{base:Heap}{qb:Addr}{qa:Addr}{qe:Addr}{qf:Addr}{qx:Addr}{qp:Addr}{qk:Addr}{qq:Addr}{qy:Addr}
theorem Jdc:FnScope ["size","seats"] ["size","seats"] (Jj Wj):=by walk_at "c"
theorem JcX{f:Addr}{fd:FuncData}(F:Fun K "share_of" "share_of" Wj f fd)(wN:mg "min"=none):FnOk P w K mg base CX0 1 f fd ["size","seats"] (spE K C 2 Uj) :=
 okE F Jdc rfl fun _ _ _ _ _ _ hr hu=>⟨_,(Jh (JC (JcZ (Jp JkK (pv 1) W0 (Jz _)) (pv 0) (Jo (WQ rfl) rfl wN JdC (Ja (pv 0) (Ja (pv 1) Jc)))))),by walk_at "s"⟩
theorem JbX:FnScope ["lumps","most"] ["lumps","most"] (Jj VE):=by walk_at "c"
theorem JbK{f:Addr}{fd:FuncData}(F:Fun K "check_few" "check_few" VE f fd)(qt:mg "sum"=none)(qr:mg "TooMany"=some (.ref qb))(qU:AtX K "TooMany" qb):FnOk P w K mg base (CX1 P w) 1 f fd ["lumps","most"] (spX K C 2 JM Yd):=by
 refine Fun.okX F JbX (fun vs H Q E h=>VW h) (fun cdv A outer s H vs Q E hr h=>?_);have hu:=hr.units;refine⟨_,(Jh (J8 (Jp Ja9 (Jo (YW (K:=K) rfl rfl) rfl qt Vs (Ja (YI (N':=["size","number"]) (imp:=[none,none]) rfl (piK K (pv 0)) (JdA rfl rfl) (fun _ _ _ _=>(JS (K:=K) (n:=2) rfl rfl (Jm (pgN 0 JkC) (Jm (pgN 1 JkC) JT)) rfl rfl)) (fun _ _ _ _=>Yf) (fun _ _ _ _=>(pv 1))) Jc)) (pv 1) (Jz _)) (Jh (VU (K:=K) rfl qU.ok rfl qr rfl xok_cx (Ja Ua Jc))) JD)),?_⟩
 exact U0 (N:=["lumps","most"]) (Wm (Yi (Yj Jnm (Joq Jg9 (Jf (W4 (Jec (Jg 0)) (Vx (Yh (UB 0) (Yh (UB 1) Vw)) rfl) Jbe (Jg 1) rfl) Ju)) (Jg 1))) Uu YU) (Jbk (Yi (Yj Jnm (Joq Jg9 (Jf (W4 (Jec (Jg 0)) (Vx (Yh (UB 0) (Yh (UB 1) Vw)) rfl) Jbe (Jg 1) rfl) Ju)) (Jg 1))) (WP qU.ns (Jf V1 Ju)) UI) h
theorem sc_check_lumps:FnScope ["lumps","ahead","size","number"] ["lumps"] (Jj UP):=by walk_at "c"
theorem Z9{f:Addr}{fd:FuncData}(F:Fun K "check_lumps" "check_lumps" UP f fd)(qj:mg "BadTable"=some (.ref qa))(qA:AtX K "BadTable" qa):FnOk P w K mg base (CX1 P w) 1 f fd ["lumps"] (spX K C 1 JJ Yl):=by
 refine Fun.okX F sc_check_lumps (fun vs H Q E h=>VW h) (fun cdv A outer s H vs Q E hr h=>?_);have hu:=hr.units;refine⟨_,(Jd (psN 1 sc_check_lumps.nd Je)
  (Jh (YT Mt rfl (piK K (pv 0)) (JS (K:=K) (n:=2) rfl rfl (Jm (JF (i:=2) sc_check_lumps.nd rfl (.inl rfl)) (Jm (JF (i:=3) sc_check_lumps.nd rfl (.inl rfl)) JT)) rfl rfl) (Jd (J8 (Jp Jfm (pv 2) (pv 1) (Jz _)) (Jh (VU (K:=K) rfl qA.ok rfl qj rfl xok_cx (Ja Ua Jc))) JD)
  (Jd (J8 (Jp UH (pv 3) Je (Jz _)) (Jh (VU (K:=K) rfl qA.ok rfl qj rfl xok_cx (Ja Ua Jc))) JD)
  (Jh (psN 1 sc_check_lumps.nd (pv 2)))))))),?_⟩
 exact U0 (N:=["lumps","ahead","size","number"]) (J0 (Yb JP)
  (Jav (Jlk 0) (Vx (Yh (UB 2) (Yh (UB 3) Vw)) rfl) (J0 (Wm (Yi (Yj JcP (Jg 2) (Jg 1))) Uu YU)
  (J0 (Wm (Yi (Yj JcQ (Jg 3) JP)) Uu YU)
  (Yb (Jg 2)))))) (Y2 (Yb JP)
  UI (JlN (Jlk 0) (Vx (Yh (UB 2) (Yh (UB 3) Vw)) rfl) (J0 (Wm (Yi (Yj JcP (Jg 2) (Jg 1))) Uu YU)
  (J0 (Wm (Yi (Yj JcQ (Jg 3) JP)) Uu YU)
  (Yb (Jg 2)))) (Y2 (Wm (Yi (Yj JcP (Jg 2) (Jg 1))) Uu YU)
  (Jbk (Yi (Yj JcP (Jg 2) (Jg 1))) (WP qA.ns (Jf V1 Ju)) UI) (Y2 (Wm (Yi (Yj JcQ (Jg 3) JP)) Uu YU)
  (Jbk (Yi (Yj JcQ (Jg 3) JP)) (WP qA.ns (Jf V1 Ju)) UI) UI)))) h
theorem Jap:FnScope ["seats"] ["seats"] (Jj UQ):=by walk_at "c"
theorem Jaa{f:Addr}{fd:FuncData}(F:Fun K "check_seats" "check_seats" UQ f fd) :FnOk P w K mg base CX0 1 f fd ["seats"] (spE K C 1 Yy) :=
 okE F Jap rfl fun _ _ _ _ _ _ hr hu=>⟨_,(Jh (J8 (PW.pt (Jaj (Jp Jae (pv 0) W0 (Jz _)) (WD (Jp UH (pv 0) Je (Jz _))))) (Jh Uk) JD)),by walk_at "s"⟩
theorem Jaq:FnScope ["lumps","seats"] ["lumps","seats"] (Jj UT):=by walk_at "c"
theorem Jad{f:Addr}{fd:FuncData}(F:Fun K "told_taking" "told_taking" UT f fd)(qt:mg "sum"=none)(qv:GV mg "MOST_LUMPS" (.int 30))(wA:Cal P w K mg base "share_of" 1 ["size","seats"] (spE K C 2 Uj))(qw:CalX P w K mg base "check_few" 1 ["lumps","most"] (spX K C 2 JM Yd))(qm:CalX P w K mg base "check_lumps" 1 ["lumps"] (spX K C 1 JJ Yl))(qO:Cal P w K mg base "check_seats" 1 ["seats"] (spE K C 1 Yy)):FnOk P w K mg base CX0 2 f fd ["lumps","seats"] (spE K C 2 YA) :=
 okE F Jaq rfl fun _ _ _ _ _ _ hr hu=>⟨_,(Jd (Yu (Jv qO (hrM hr) rfl (Ja (pv 1) Jc)))
  (Jd (Yu (Yr qm (hrM hr) rfl Jfn (Ja (pv 0) Jc)))
  (Jd (Yu (Yr qw (hrM hr) rfl Jfn (Ja (pv 0) (Ja (VB rfl qv) Jc))))
  (Jh (JC (Jo (YW (K:=K) rfl rfl) rfl qt Vs (Ja (YI (N':=["size","number","seats"]) (imp:=[none,none,some 1]) rfl (piK K (pv 0)) (JdB (own:=["size","number"]) (fr:=[("seats",1)]) rfl rfl rfl ⟨rfl,trivial⟩ rfl ⟨⟨rfl,rfl,rfl⟩,trivial⟩) (fun _ _ _ _=>(JS (K:=K) (n:=2) rfl rfl (Jm (pgN 0 Jpt) (Jm (pgN 1 Jpt) JT)) rfl rfl)) (fun _ _ _ _=>Yf) (fun _ _ _ _=>(Jk UD (pv 1) (Jv wA (hrM hr) rfl (Ja (pv 0) (Ja (pv 2) Jc)))))) Jc))))))),by walk_at "s"⟩
theorem JiM:FnScope ["boxes","lumps"] ["boxes","lumps"] (Jj JbU):=by walk_at "c"
theorem Jh9{f:Addr}{fd:FuncData}(F:Fun K "rooms" "rooms" JbU f fd)(qL:GV mg "MOST_COUNTED" (.int 12))(qP:Cal P w K mg base "told_taking" 2 ["lumps","seats"] (spE K C 2 YA))(qw:CalX P w K mg base "check_few" 1 ["lumps","most"] (spX K C 2 JM Yd))(qm:CalX P w K mg base "check_lumps" 1 ["lumps"] (spX K C 1 JJ Yl)):FnOk P w K mg base (CX1 P w) 3 f fd ["boxes","lumps"] (spX K C 2 JE Ym):=by
 refine Fun.okX F JiM (fun vs H Q E h=>VW h) (fun cdv A outer s H vs Q E hr h=>?_);have hu:=hr.units;refine⟨_,(Jd (Yu (Yr qm (hrM hr) rfl xok_cx.passes (Ja (pv 1) Jc)))
  (Jd (Yu (Yr qw (hrM hr) rfl xok_cx.passes (Ja (pv 1) (Ja (VB rfl qL) Jc))))
  (Jh (JC (YI (N':=["size","number","boxes","lumps"]) (imp:=[none,none,some 0,some 1]) rfl (piK K (pv 1)) (JdB (own:=["size","number"]) (fr:=[("boxes",0),("lumps",1)]) rfl rfl rfl ⟨rfl,rfl,trivial⟩ rfl ⟨⟨rfl,rfl,rfl⟩,⟨rfl,rfl,rfl⟩,trivial⟩) (fun _ _ _ _=>(JS (K:=K) (n:=2) rfl rfl (Jm (pgN 0 Jpu) (Jm (pgN 1 Jpu) JT)) rfl rfl)) (fun _ _ _ _=>Yf) (fun _ _ _ _=>(YS (Ja (pv 0) (Ja (Jk YD (pv 2) (Jk UD Je (Jv qP (hrM hr) rfl (Ja (pv 3) (Ja (pv 0) Jc))))) Jc))))))))),?_⟩
 exact U0 (N:=["boxes","lumps"]) (J0 (Wl (J2 (Jf (Jg 1) Ju)))
  (J0 (Wl (J2 (Jf (Jg 1) (Jf JP Ju))))
  (Zg (W4 (Jec (Jg 1)) (Vx (Yh (UB 0) (Yh (UB 1) Vw)) rfl) Jbe (Jc9 (Jf (Jg 0) (Jf (Yj Jfi (Jg 2) (Yj Jl2 JP (Ub (Jf (Jg 3) (Jf (Jg 0) Ju))))) Ju))) rfl)))) (Y2 (Wl (J2 (Jf (Jg 1) Ju)))
  (JfU (Uv (Jf (Jg 1) Ju))) (Y2 (Wl (J2 (Jf (Jg 1) (Jf JP Ju))))
  (JfU (Uv (Jf (Jg 1) (Jf JP Ju)))) UI)) h
theorem sc_check_stretches:FnScope ["stretches","behind","begin","length"] ["stretches"] (Jj Y1):=by walk_at "c"
theorem Wc{f:Addr}{fd:FuncData}(F:Fun K "check_stretches" "check_stretches" Y1 f fd) :FnOk P w K mg base CX0 1 f fd ["stretches"] (Jb2 K):=by
 refine F.ok sc_check_stretches (fun vs H Q E h=>?_) (fun cdv A outer s H vs Q E hr h=>?_)
 ·obtain⟨v,ps,rfl,_⟩:=h;rfl
 ·obtain⟨v,ps,rfl,⟨a,vs,rfl,hq,hp⟩,g,q⟩:=h;have hu:=hr.units;refine⟨_,(Jd (psN 1 sc_check_stretches.nd W0)
   (Jh (YT Gh rfl (piK K (pv 0)) (JS (K:=K) (n:=2) rfl rfl (Jm (JF (i:=2) sc_check_stretches.nd rfl (.inl rfl)) (Jm (JF (i:=3) sc_check_stretches.nd rfl (.inl rfl)) JT)) rfl rfl) (Jd (J8 (Jp UH (pv 3) Je (Jz _)) (Jh Uk) JD)
   (Jd (J8 (PW.pt (Jaj (Jp Jae (pv 1) W0 (Jz _)) (WD (Jp Jfm (pv 2) (pv 1) (Jz _))))) (Jh Uk) JD)
   (Jh (psN 1 sc_check_stretches.nd (Jk (Jfl (K:=K) rfl) (pv 2) (pv 3))))))))),?_⟩
  walk_at "rd";refine JgF (H1:=H) (a:=a) (xs:=vs) (fun R r=>⟨_,rfl,r⟩) hq
   (fun i σ' H'=>∃vb vl,σ'=[some (.ref a),some (Jew ps i),vb,vl]/\H'=H) ⟨none,none,rfl,rfl⟩ (fun i σ' H' ⟨_,_,_,e⟩=>e▸Same.refl _) ?_ ?_
  ·rintro i x σ' H' hi ⟨vb,vl,rfl,rfl⟩;obtain⟨p,b,e1,rfl,sp⟩:=hp.at hi;refine JfA sp rfl ?_;walk_at "rd";refine ifd (fun hlt=>absurd (g.one i p e1) (by omega)) (fun _=>?_);walk_at "rd"
   cases i with
   | zero=>refine ifF rfl ?_;refine ifF rfl ?_;walk_at "rd";exact⟨_,_,by rw[Vq e1];rfl,rfl⟩
   | succ j =>
    obtain⟨q1,e2⟩:∃q1,ps[j]?=some q1:=⟨ps[j]'(by have:=(Qg.mp e1).1;omega),by have:=(Qg.mp e1).1;simp[show j<ps.length by omega]⟩
    rw[Vq e2];refine ifT rfl ?_;walk_at "rd";refine ifd (fun hle=>absurd (g.gap j q1 p e2 e1) (by omega)) (fun _=>?_);walk_at "rd";exact⟨_,_,by rw[Vq e1];rfl,rfl⟩
  ·rintro σ' H' ⟨vb,vl,rfl,rfl⟩;exact q _ (Same.refl _)
theorem Jda:FnScope ["self","stretches"] ["self","stretches"] (Jj Wd):=by walk_at "c"
theorem JcR{f:Addr}{fd:FuncData}(F:Fun K "__init__" "Row.__init__" Wd f fd)(wq:mg "tuple"=none)(qC:mg "len"=none)(qi:GV mg "MOST_STRETCHES" (.int 30))(qF:Cal P w K mg base "check_stretches" 1 ["stretches"] (Jb2 K))(T:RowC K C):FnOk P w K mg base CX0 2 f fd ["self","stretches"] (Wk C K):=by
 refine F.ok Jda (fun vs H Q E h=>?_) (fun cdv A outer s H vs Q E hr h=>?_)
 ·obtain⟨x,dx,v,ps,rfl,_⟩:=h;rfl
 ·obtain⟨x,dx,v,ps,rfl,hx,⟨a,vs,rfl,hq,hp⟩,g,hl,q⟩:=h;have hu:=hr.units;refine⟨_,(Jd (J8 (Jp Ja9 (Jo (YV (K:=K) rfl) rfl qC Vr (Ja (pv 1) Jc)) (VB rfl qi) (Jz _)) (Jh Uk) JD)
   (Jd (Yu (Jv qF (hrM hr) rfl (Ja (pv 1) Jc)))
   (Jh (JkW (K:=K) rfl (pv 0) (VT (Jcj (K:=K) rfl) rfl wq Jci (Ja (YI (N':=["begin","length"]) (imp:=[none,none]) rfl (piK K (pv 1)) (JdA rfl rfl) (fun _ _ _ _=>(JS (K:=K) (n:=2) rfl rfl (Jm (pgN 0 JkD) (Jm (pgN 1 JkD) JT)) rfl rfl)) (fun _ _ _ _=>Yf) (fun _ _ _ _=>(YS (Ja (pv 0) (Ja (pv 1) Jc))))) Jc)) rfl)))),?_⟩
  have hn:=hp.len;walk_at "rd";refine Jc5 hq ?_;walk_at "rd";refine ifd (fun hgt=>absurd hl (by omega)) (fun _=>?_);walk_at "rd";refine Jhh ⟨a,vs,rfl,hq,hp⟩ g fun H1 s1=>?_
  walk_at "rd";refine Jea (H1:=H1) (a:=a) (xs:=vs) (fun R r=>⟨_,rfl,r⟩) (hq.imp s1.seq s1.seqT) (GM (JgL (by omega)))
   (fun i ys σ' H'=>∃vb vl,σ'=[vb,vl]/\Same H1 H'/\Prs K H' ys (ps.take i)) ⟨none,none,rfl,Same.refl _,by rw[List.take_zero];exact RepL.nil⟩
   (fun i ys σ' H' ⟨_,_,_,_,r⟩=>by have:=r.len;rw[this,KD];omega) (fun i ys σ' H' ⟨_,_,_,s',_⟩=>s') ?_ ?_
  ·rintro i ys y σ' H' hi ⟨vb,vl,rfl,s',r⟩;obtain⟨p,b,e1,rfl,sp⟩:=Prs.at (K:=K) (ps:=ps) (RepL.mono (s1.trans s') hp) hi;refine JfA sp rfl ?_;walk_at "rd";refine ifT rfl ?_;walk_at "rd";refine Jmp sz2 fun t H2 nt s2 ht=>?_
   refine⟨_,_,rfl,s'.trans s2,?_⟩;rw[List.take_add_one,e1];exact Prs.snoc (RepL.mono s2 r) (JkU ht)
  ·rintro ys σ' H' ⟨vb,vl,rfl,s',r⟩ l H2 nl s2 hl2;walk_at "rd";refine JgG (.of hl2) fun t H3 nt s3 ht=>?_
   walk_at "rd";have sA:Same H H3:=((s1.trans s').trans s2).trans s3;refine⟨x,C,dx,[],rfl,sA _ _ hx,T.cl,T.ns,by decide,?_⟩;rw[hn,List.take_length] at r;have r3:Prs K H3 ys ps:=RepL.mono (s2.trans s3) r;have ntx:t≠x:=Ja8 ht (sA _ _ hx) (by intro z;cases z);refine q _ t ys (sA.ex_trans SameEx.upd) (by rw[Jiq];exact Jt) (by rw[Ji ntx];exact ht) ?_;exact Prs.monoIns SameEx.upd (sA _ _ hx) r3
theorem JbW:FnScope ["row","layers"] ["row","layers"] (Jj VD):=by walk_at "c"
theorem JbJ{f:Addr}{fd:FuncData}(F:Fun K "by_layers" "by_layers" VD f fd)(qD:mg "enumerate"=none)(T:RowC K C):FnOk P w K mg base CX0 1 f fd ["row","layers"] (spE K C 2 YY) :=
 okE F JbW rfl fun _ _ _ _ _ _ hr hu=>⟨_,(Jh (JC (YI (N':=["ahead","stretch","layers"]) (imp:=[none,none,some 1]) rfl (Jc1 (K:=K) rfl rfl qD (Ja (Zs (K:=K) rfl (pv 0) rfl) Jc)) (JdB (own:=["ahead","stretch"]) (fr:=[("layers",1)]) rfl rfl rfl ⟨rfl,trivial⟩ rfl ⟨⟨rfl,rfl,rfl⟩,trivial⟩) (fun _ _ _ _=>(JS (K:=K) (n:=2) rfl rfl (Jm (pgN 0 Jpv) (Jm (pgN 1 Jpv) JT)) rfl rfl)) (fun _ _ _ _=>Yf) (fun _ _ _ _=>(YS (Ja (Jk (Jx (K:=K) rfl) (pxK K (pv 1) Je) (Jk UD (Jk UD Je (pv 2)) (pv 0))) (Ja (Jk (Jx (K:=K) rfl) (pxK K (pv 1) Je) (pv 2)) Jc))))))),by walk_at "s"⟩
theorem JbZ:FnScope ["row","layers"] ["row","layers"] (Jj VI):=by walk_at "c"
theorem JbN{f:Addr}{fd:FuncData}(F:Fun K "thickened" "thickened" VI f fd)(wO:CalM P w K mg base "Row" C 2 ["self","stretches"] (Wk C K))(wa:Cal P w K mg base "by_layers" 1 ["row","layers"] (spE K C 2 YY)):FnOk P w K mg base CX0 4 f fd ["row","layers"] (spE K C 2 YH) :=
 okE F JbZ rfl fun _ _ _ _ _ _ hr hu=>⟨_,(Jh (JC (Jag wO (hrM hr) rfl (Ja (Jv wa (hrM hr) rfl (Ja (pv 0) (Ja (pv 1) Jc))) Jc)))),by walk_at "s"⟩
theorem Jao:FnScope ["row","place"] ["row","place"] (Jj UO):=by walk_at "c"
theorem Z3{f:Addr}{fd:FuncData}(F:Fun K "balls_below" "balls_below" UO f fd)(qt:mg "sum"=none)(vG:mg "max"=none)(wN:mg "min"=none)(T:RowC K C):FnOk P w K mg base CX0 1 f fd ["row","place"] (spE K C 2 Yx) :=
 okE F Jao rfl fun _ _ _ _ _ _ hr hu=>⟨_,(Jh (JC (Jo (YW (K:=K) rfl rfl) rfl qt Vs (Ja (YI (N':=["begin","length","place"]) (imp:=[none,none,some 1]) rfl (piK K (Zs (K:=K) rfl (pv 0) rfl)) (JdB (own:=["begin","length"]) (fr:=[("place",1)]) rfl rfl rfl ⟨rfl,trivial⟩ rfl ⟨⟨rfl,rfl,rfl⟩,trivial⟩) (fun _ _ _ _=>(JS (K:=K) (n:=2) rfl rfl (Jm (pgN 0 Jpw) (Jm (pgN 1 Jpw) JT)) rfl rfl)) (fun _ _ _ _=>Yf) (fun _ _ _ _=>(Jo (JfZ rfl) rfl vG Jms (Ja Je (Ja (Jo (WQ rfl) rfl wN JdC (Ja (pv 1) (Ja (Jk YD (pv 2) (pv 0)) Jc))) Jc))))) Jc)))),by walk_at "s"⟩
theorem sc_ended_at:FnScope ["row","spots","stretches","counted","ahead","spot","below","balls"] ["row","spots"] (Jj We):=by walk_at "c"
theorem JcS{f:Addr}{fd:FuncData}(F:Fun K "ended_at" "ended_at" We f fd)(qD:mg "enumerate"=none)(qQ:Cal P w K mg base "balls_below" 1 ["row","place"] (spE K C 2 Yx)):FnOk P w K mg base CX0 2 f fd ["row","spots"] (spE K C 2 Ui) :=
 okE F sc_ended_at rfl fun _ _ _ _ _ _ hr hu=>⟨_,(Jd (psN 2 sc_ended_at.nd (Yn Jc))
  (Jd (psN 3 sc_ended_at.nd Je)
  (Jd (YT Gh rfl (Jc1 (K:=K) rfl rfl qD (Ja (pv 1) Jc)) (JS (K:=K) (n:=2) rfl rfl (Jm (JF (i:=4) sc_ended_at.nd rfl (.inl rfl)) (Jm (JF (i:=5) sc_ended_at.nd rfl (.inl rfl)) JT)) rfl rfl) (Jd (psN 6 sc_ended_at.nd (Jv qQ (hrM hr) rfl (Ja (pv 0) (Ja (pv 5) Jc))))
  (Jd (psN 7 sc_ended_at.nd (Jk YD (pv 6) (pv 3)))
  (Jd (Yu (UN (K:=K) rfl Q3 Ky Kz VR (pv 2) (Ja (YS (Ja (Jk YD (Jk (Jx (K:=K) rfl) (pv 5) (Jk UD Je (pv 4))) (pv 7)) (Ja (Jk (Jx (K:=K) rfl) (pv 7) Je) Jc))) Jc)))
  (Jh (psN 3 sc_ended_at.nd (pv 6)))))))
  (Jh (JC (pv 2)))))),by walk_at "s"⟩
theorem sc_put_in:FnScope ["row","pairs","spots","spot","number"] ["row","pairs"] (Jj Jam):=by walk_at "c"
theorem JgA{f:Addr}{fd:FuncData}(F:Fun K "put_in" "put_in" Jam f fd)(qG:mg "sorted"=none)(qC:mg "len"=none)(qt:mg "sum"=none)(qi:GV mg "MOST_STRETCHES" (.int 30))(wO:CalM P w K mg base "Row" C 2 ["self","stretches"] (Wk C K))(wB:Cal P w K mg base "ended_at" 2 ["row","spots"] (spE K C 2 Ui))(T:RowC K C):FnOk P w K mg base CX0 4 f fd ["row","pairs"] (spE K C 2 Uw) :=
 okE F sc_put_in rfl fun _ _ _ _ _ _ hr hu=>⟨_,(Jd (J8 (Jp Ja9 (Jk (Jx (K:=K) rfl) (Jo (YV (K:=K) rfl) rfl qC Vr (Ja (Zs (K:=K) rfl (pv 0) rfl) Jc)) (Jo (YW (K:=K) rfl rfl) rfl qt Vs (Ja (YI (N':=["spot","number"]) (imp:=[none,none]) rfl (piK K (pv 1)) (JdA rfl rfl) (fun _ _ _ _=>(JS (K:=K) (n:=2) rfl rfl (Jm (pgN 0 Jpx) (Jm (pgN 1 Jpx) JT)) rfl rfl)) (fun _ _ _ _=>Yf) (fun _ _ _ _=>(pv 1))) Jc))) (VB rfl qi) (Jz _)) (Jh Uk) JD)
  (Jd (Jd7 (i:=2) (N':=["begin","length"]) (imp:=[none,none]) sc_put_in.nd rfl (.inl rfl) rfl (piK K (Zs (K:=K) rfl (pv 0) rfl)) (JdA rfl rfl) (fun _ _ _ _=>(JS (K:=K) (n:=2) rfl rfl (Jm (pgN 0 JkD) (Jm (pgN 1 JkD) JT)) rfl rfl)) (fun _ _ _ _=>Yf) (fun _ _ _ _=>(Jk (Jx (K:=K) rfl) (pv 0) (pv 1))) rfl (.inl rfl))
  (Jd (YT Gh rfl (piK K (pv 1)) (JS (K:=K) (n:=2) rfl rfl (Jm (JF (i:=3) sc_put_in.nd rfl (.inl rfl)) (Jm (JF (i:=4) sc_put_in.nd rfl (.inl rfl)) JT)) rfl rfl) (Jh (Yu (UN (K:=K) rfl Q3 My Mz Ja7 (pv 2) (Ja (Jk JnB (Yn (Ja (pv 3) Jc)) (pv 4)) Jc)))))
  (Jh (JC (Jag wO (hrM hr) rfl (Ja (Jv wB (hrM hr) rfl (Ja (pv 0) (Ja (Jo (Jbq (K:=K) rfl rfl) rfl qG JaQ (Ja (pv 2) Jc)) Jc))) Jc))))))),by walk_at "s"⟩
theorem sc_check_table:FnScope ["table","ahead","size","spot","number"] ["table"] (Jj UR):=by walk_at "c"
theorem Jab{f:Addr}{fd:FuncData}(F:Fun K "check_table" "check_table" UR f fd)(qt:mg "sum"=none)(qv:GV mg "MOST_LUMPS" (.int 30)):FnOk P w K mg base CX0 1 f fd ["table"] (spE K C 1 Yz) :=
 okE F sc_check_table rfl fun _ _ _ _ _ _ hr hu=>⟨_,(Jd (psN 1 sc_check_table.nd W0)
  (Jd (YT Gh rfl (piK K (pv 0)) (JS (K:=K) (n:=3) rfl rfl (Jm (JF (i:=2) sc_check_table.nd rfl (.inl rfl)) (Jm (JF (i:=3) sc_check_table.nd rfl (.inl rfl)) (Jm (JF (i:=4) sc_check_table.nd rfl (.inl rfl)) JT))) rfl rfl) (Jd (J8 (PW.pt (Zf (Jp UH (pv 2) Je (Jz _)) (W2 (Jp UH (pv 4) Je (Jz _))))) (Jh Uk) JD)
  (Jd (J8 (PW.pt (Jaj (Jp Jae (pv 1) W0 (Jz _)) (WD (Jp (Jny (K:=K) rfl (GO (LM _ 64) hu)) (YS (Ja (pv 2) (Ja (pv 3) Jc))) (pv 1) (Jz _))))) (Jh Uk) JD)
  (Jh (psN 1 sc_check_table.nd (YS (Ja (pv 2) (Ja (pv 3) Jc))))))))
  (Jh (J8 (Jp Ja9 (Jo (YW (K:=K) rfl rfl) rfl qt Vs (Ja (YI (N':=["size","spot","number"]) (imp:=[none,none,none]) rfl (piK K (pv 0)) (JdA rfl rfl) (fun _ _ _ _=>(JS (K:=K) (n:=3) rfl rfl (Jm (pgN 0 Jnk) (Jm (pgN 1 Jnk) (Jm (pgN 2 Jnk) JT))) rfl rfl)) (fun _ _ _ _=>Yf) (fun _ _ _ _=>(pv 2))) Jc)) (VB rfl qv) (Jz _)) (Jh Uk) JD)))),by walk_at "s"⟩
theorem sc_row_of:FnScope ["table","lumps","size","spot","number","sizes","row","lesser"] ["table"] (Jj Jan):=by walk_at "c"
theorem JgB{f:Addr}{fd:FuncData}(F:Fun K "row_of" "row_of" Jan f fd)(wC:mg "reversed"=none)(wb:mg "list"=none)(wP:mg "zip"=none)(wc:Cal P w K mg base "thickened" 4 ["row","layers"] (spE K C 2 YH))(ve:Cal P w K mg base "put_in" 4 ["row","pairs"] (spE K C 2 Uw))(wO:CalM P w K mg base "Row" C 2 ["self","stretches"] (Wk C K))(qR:Cal P w K mg base "check_table" 1 ["table"] (spE K C 1 Yz)):FnOk P w K mg base CX0 5 f fd ["table"] (spE K C 1 UZ) :=
 okE F sc_row_of rfl fun _ _ _ _ _ _ hr hu=>⟨_,(Jd (Yu (Jv qR (hrM hr) rfl (Ja (pv 0) Jc)))
  (Jd (psN 1 sc_row_of.nd JcY)
  (Jd (YT Gh rfl (piK K (pv 0)) (JS (K:=K) (n:=3) rfl rfl (Jm (JF (i:=2) sc_row_of.nd rfl (.inl rfl)) (Jm (JF (i:=3) sc_row_of.nd rfl (.inl rfl)) (Jm (JF (i:=4) sc_row_of.nd rfl (.inl rfl)) JT))) rfl rfl) (Jh (Yu (UN (K:=K) rfl Q3 Ky Kz VR (Jig (pv 1) (pv 2) (Yn Jc) ⟨rfl,rfl,rfl,rfl⟩) (Ja (YS (Ja (pv 3) (Ja (pv 4) Jc))) Jc)))))
  (Jd (psN 5 sc_row_of.nd (VT (JdE rfl) rfl wb Zn (Ja (pv 1) Jc)))
  (Jd (psN 6 sc_row_of.nd (Jag wO (hrM hr) rfl (Ja (Yn Jc) Jc)))
  (Jd (YT Gh rfl (JkR (K:=K) rfl rfl wC (Ja (Jc0 (K:=K) rfl rfl rfl wb rfl wP (Ja (Jk (Jx (K:=K) rfl) (Yn (Ja Je Jc)) (pv 5)) (Ja (pv 5) Jc))) Jc)) (JS (K:=K) (n:=2) rfl rfl (Jm (JF (i:=7) sc_row_of.nd rfl (.inl rfl)) (Jm (JF (i:=2) sc_row_of.nd rfl (.inl rfl)) JT)) rfl rfl) (Jh (psN 6 sc_row_of.nd (Jv wc (hrM hr) rfl (Ja (Jv ve (hrM hr) rfl (Ja (pv 6) (Ja (Jfp (Je4 hr) (pv 1) (pv 2) (fun _ _=>rfl)) Jc))) (Ja (Jk YD (Jk YD (pv 2) (pv 7)) Je) Jc))))))
  (Jh (JC (pv 6))))))))),(J0 (Wl (Ub (Jf (Jg 0) Ju)))
  (J0 (JfS JiK)
  (J0 (Jqg (Jlk 0) (JmS (JbA (JhG (by decide)) (JbA (JhG (by decide)) (JbA (JhG (by decide)) JmR))) rfl) (Jg 2) (Jc9 (Jf (Jg 3) (Jf (Jg 4) Ju))))
  (J0 (Yb (Jlm (Jg 1)))
  (J0 (Yb (Jmb (Jf (Jal Ju) Ju)))
  (J0 (Jav (Jos (Jf (Jot (Jf (Yj Jl1 (Jal (Jf JP Ju)) (Jg 5)) (Jf (Jg 5) Ju))) Ju)) (Vx (Yh (UB 7) (Yh (UB 2) Vw)) rfl) (Yb (Ub (Jf (Ub (Jf (Jg 6) (Jf (Jma (Jg 1) (Jg 2)) Ju))) (Jf (Yj Jfi (Yj Jfi (Jg 2) (Jg 7)) JP) Ju)))))
  Jb7))))))⟩
theorem sc_choices:FnScope ["many","few","told","chosen"] ["many","few"] (Jj W3):=by walk_at "c"
theorem Jd3{f:Addr}{fd:FuncData}(F:Fun K "choices" "choices" W3 f fd)(ql:mg "range"=none):FnOk P w K mg base CX0 1 f fd ["many","few"] (spE K C 2 Uy) :=
 okE F sc_choices rfl fun _ _ _ _ _ _ hr hu=>⟨_,(Jd (J8 (Jp UH (pv 1) Je (Jz _)) (Jh (JC Je)) JD)
  (Jd (psN 2 sc_choices.nd Je)
  (Jd (YT Gh rfl (U3 rfl ql (Ja (pv 1) Jc)) (JF (i:=3) sc_choices.nd rfl (.inl rfl)) (Jh (psN 2 sc_choices.nd (Jk Us (Jk UD (pv 2) (Jk YD (pv 0) (pv 3))) (Jk (Jx (K:=K) rfl) (pv 3) Je)))))
  (Jh (JC (pv 2)))))),by walk_at "s"⟩
theorem JaF:FnScope ["room","count"] ["room","count"] (Jj Vk):=by walk_at "c"
theorem JaE{f:Addr}{fd:FuncData}(F:Fun K "spot_lists" "spot_lists" Vk f fd)(wY:Cal P w K mg base "choices" 1 ["many","few"] (spE K C 2 Uy)):FnOk P w K mg base CX0 2 f fd ["room","count"] (spE K C 2 Js) :=
 okE F JaF rfl fun _ _ _ _ _ _ hr hu=>⟨_,(Jh (JC (JcZ (Jp UH (pv 0) Je (Jz _)) Je (Jv wY (hrM hr) rfl (Ja (Jk (Jx (K:=K) rfl) (pv 0) (pv 1)) (Ja (pv 1) Jc)))))),by walk_at "s"⟩
theorem sc_least_room:FnScope ["greatest","count","lists","low","high","middle"] ["greatest","count","lists"] (Jj Vj):=by walk_at "c"
theorem JaD{f:Addr}{fd:FuncData}(F:Fun K "least_room" "least_room" Vj f fd)(qg:Cal P w K mg base "spot_lists" 2 ["room","count"] (spE K C 2 Js)):FnOk P w K mg base CX0 3 f fd ["greatest","count","lists"] (spE K C 3 Ys) :=
 okE F sc_least_room rfl fun _ _ _ _ _ _ hr hu=>⟨_,(Jd (psN 3 sc_least_room.nd Je)
  (Jd (psN 4 sc_least_room.nd (pv 0))
  (Jd (Jin Gh (Jp UH (pv 3) (pv 4) (Jz _)) (Jd (psN 5 sc_least_room.nd (Jk Us (Jk (Jx (K:=K) rfl) (pv 3) (pv 4)) Je))
  (Jh (J8 (Jp UH (Jv qg (hrM hr) rfl (Ja (pv 5) (Ja (pv 1) Jc))) (pv 2) (Jz _)) (Jh (psN 3 sc_least_room.nd (Jk (Jx (K:=K) rfl) (pv 5) Je))) (Jh (psN 4 sc_least_room.nd (pv 5)))))))
  (Jh (JC (pv 3)))))),by walk_at "s"⟩
theorem sc_spots_numbered:FnScope ["room","count","number","spots","still","spots_left","rest"] ["room","count","number"] (Jj Uc):=by walk_at "c"
theorem Wy{f:Addr}{fd:FuncData}(F:Fun K "spots_numbered" "spots_numbered" Uc f fd)(ql:mg "range"=none)(qg:Cal P w K mg base "spot_lists" 2 ["room","count"] (spE K C 2 Js))(qX:Cal P w K mg base "least_room" 3 ["greatest","count","lists"] (spE K C 3 Ys)):FnOk P w K mg base CX0 4 f fd ["room","count","number"] (spE K C 3 JO) :=
 okE F sc_spots_numbered rfl fun _ _ _ _ _ _ hr hu=>⟨_,(Jd (psN 3 sc_spots_numbered.nd (Yn Jc))
  (Jd (psN 4 sc_spots_numbered.nd (Jk YD (Jv qg (hrM hr) rfl (Ja (pv 0) (Ja (pv 1) Jc))) (pv 2)))
  (Jd (YT Gh rfl (JgC rfl ql (Ja (pv 1) (Ja Je (Ja (Jl4 Jjd Je) Jc)))) (JF (i:=5) sc_spots_numbered.nd rfl (.inl rfl)) (Jd (psN 6 sc_spots_numbered.nd (Jv qX (hrM hr) rfl (Ja (pv 0) (Ja (pv 5) (Ja (pv 4) Jc)))))
  (Jd (Jd6 (i:=4) sc_spots_numbered.nd rfl (.inl rfl) (Jv qg (hrM hr) rfl (Ja (Jk YD (pv 6) Je) (Ja (pv 5) Jc))) JmW)
  (Jh (Yu (UN (K:=K) rfl Q3 Ky Kz VR (pv 3) (Ja (Jk YD (pv 0) (pv 6)) Jc)))))))
  (Jh (JC (pv 3)))))),by walk_at "s"⟩
theorem sc_how_many:FnScope ["boxes","lumps","told","room","lump"] ["boxes","lumps"] (Jj Wf):=by walk_at "c"
theorem JcT{f:Addr}{fd:FuncData}(F:Fun K "how_many" "how_many" Wf f fd)(wP:mg "zip"=none)(qo:CalX P w K mg base "rooms" 3 ["boxes","lumps"] (spX K C 2 JE Ym))(qg:Cal P w K mg base "spot_lists" 2 ["room","count"] (spE K C 2 Js)):FnOk P w K mg base (CX1 P w) 4 f fd ["boxes","lumps"] (spX K C 2 JU Ye):=by
 refine Fun.okX F sc_how_many (fun vs H Q E h=>VW h) (fun cdv A outer s H vs Q E hr h=>?_);have hu:=hr.units;refine⟨_,(Jd (psN 2 sc_how_many.nd Je)
  (Jd (YT Mt rfl (Jfq (K:=K) rfl rfl wP (Ja (Yr qo (hrM hr) rfl xok_cx.passes (Ja (pv 0) (Ja (pv 1) Jc))) (Ja (pv 1) Jc))) (JS (K:=K) (n:=2) rfl rfl (Jm (JF (i:=3) sc_how_many.nd rfl (.inl rfl)) (Jm (JF (i:=4) sc_how_many.nd rfl (.inl rfl)) JT)) rfl rfl) (Jh (Jd6 (i:=2) sc_how_many.nd rfl (.inl rfl) (Jv qg (hrM hr) rfl (Ja (pxK K (pv 3) Je) (Ja (pxK K (pv 4) Je) Jc))) Jkf)))
  (Jh (JC (pv 2))))),?_⟩
 exact U0 (N:=["boxes","lumps","told","room","lump"]) (J0 (Yb JP)
  (J0 (Jav (JbT (Jf (J2 (Jf (Jg 0) (Jf (Jg 1) Ju))) (Jf (Jg 1) Ju))) (Vx (Yh (UB 3) (Yh (UB 4) Vw)) rfl) (Jjh (Ub (Jf (Yj VZ (Jg 3) JP) (Jf (Yj VZ (Jg 4) JP) Ju)))))
  Jb7)) (Y2 (Yb JP)
  UI (Y2 (Jav (JbT (Jf (J2 (Jf (Jg 0) (Jf (Jg 1) Ju))) (Jf (Jg 1) Ju))) (Vx (Yh (UB 3) (Yh (UB 4) Vw)) rfl) (Jjh (Ub (Jf (Yj VZ (Jg 3) JP) (Jf (Yj VZ (Jg 4) JP) Ju)))))
  (Jjj (JfV (JfT (J2 (Jf (Jg 0) (Jf (Jg 1) Ju))) (Uv (Jf (Jg 0) (Jf (Jg 1) Ju))) Jjk))) UI)) h
theorem sc_numbered:FnScope ["boxes","lumps","number","same","table","left","room","lump","spots"] ["boxes","lumps","number"] (Jj Wi):=by walk_at "c"
theorem JcW{f:Addr}{fd:FuncData}(F:Fun K "numbered" "numbered" Wi f fd)(wP:mg "zip"=none)(qG:mg "sorted"=none)(vH:mg "set"=none)(vf:Cal P w K mg base "row_of" 5 ["table"] (spE K C 1 UZ))(qo:CalX P w K mg base "rooms" 3 ["boxes","lumps"] (spX K C 2 JE Ym))(qI:Cal P w K mg base "spots_numbered" 4 ["room","count","number"] (spE K C 3 JO))(qg:Cal P w K mg base "spot_lists" 2 ["room","count"] (spE K C 2 Js))(qE:CalX P w K mg base "how_many" 4 ["boxes","lumps"] (spX K C 2 JU Ye))(qJ:mg "NoRow"=some (.ref qe))(wQ:AtX K "NoRow" qe):FnOk P w K mg base (CX1 P w) 6 f fd ["boxes","lumps","number"] (spX K C 3 Yc YB):=by
 refine Fun.okX F sc_numbered (fun vs H Q E h=>VW h) (fun cdv A outer s H vs Q E hr h=>?_);have hu:=hr.units;refine⟨_,(Jd (psN 3 sc_numbered.nd (Yr qE (hrM hr) rfl xok_cx.passes (Ja (pv 0) (Ja (pv 1) Jc))))
  (Jd (J8 (Jd8 (Jio Jfm UH Je (pv 2) (pv 3))) (Jh (VU (K:=K) rfl wQ.ok rfl qJ rfl xok_cx (Ja Ua Jc))) JD)
  (Jd (psN 4 sc_numbered.nd (Yn Jc))
  (Jd (psN 5 sc_numbered.nd (pv 2))
  (Jd (YT Mt rfl (Jfq (K:=K) rfl rfl wP (Ja (Yr qo (hrM hr) rfl xok_cx.passes (Ja (pv 0) (Ja (pv 1) Jc))) (Ja (pv 1) Jc))) (JS (K:=K) (n:=2) rfl rfl (Jm (JF (i:=6) sc_numbered.nd rfl (.inl rfl)) (Jm (JF (i:=7) sc_numbered.nd rfl (.inr rfl)) JT)) rfl rfl) (Jd (Jd6 (i:=3) sc_numbered.nd rfl (.inl rfl) (Jv qg (hrM hr) rfl (Ja (pxK K (pv 6) Je) (Ja (pxK K (pv 7) Je) Jc))) Jke)
  (Jd (Jai (i:=8) sc_numbered.nd rfl (.inr rfl) (Jv qI (hrM hr) rfl (Ja (pxK K (pv 6) Je) (Ja (pxK K (pv 7) Je) (Ja (Jk Jia (pv 5) (pv 3)) Jc)))))
  (Jd (psN 5 sc_numbered.nd (Jk YC (pv 5) (pv 3)))
  (Jh (Yu (UN (K:=K) rfl Q3 My Mz Ja7 (pv 4) (Ja (YI (N':=["spot","lump","spots"]) (imp:=[none,some 7,some 8]) rfl (piK K (Jih (K:=K) rfl rfl rfl qG rfl vH (pv 8))) (JdB (own:=["spot"]) (fr:=[("lump",7),("spots",8)]) rfl rfl rfl ⟨rfl,rfl,trivial⟩ rfl ⟨⟨rfl,rfl,rfl⟩,⟨rfl,rfl,rfl⟩,trivial⟩) (fun _ _ _ _=>(pgN 0 Jqx)) (fun _ _ _ _=>Yf) (fun _ _ _ _=>(YS (Ja (pxK K (pv 1) Je) (Ja (pv 0) (Ja (UN (K:=K) rfl Q3 Lr Ls Jgx (pv 2) (Ja (pv 0) Jc)) Jc)))))) Jc))))))))
  (Jh (JC (Jv vf (hrM hr) rfl (Ja (pv 4) Jc))))))))),?_⟩
 exact U0 (N:=["boxes","lumps","number","same","table","left","room","lump","spots"]) (J0 (Yb (J2 (Jf (Jg 0) (Jf (Jg 1) Ju))))
  (J0 (Wm (JbV (Yi (JbS JcP JcQ JP (Jg 2) (Jg 3)))) Uu YU)
  (J0 (JfS (Jal Ju))
  (J0 (Yb (Jg 2))
  (J0 (Jav (JbT (Jf (J2 (Jf (Jg 0) (Jf (Jg 1) Ju))) (Jf (Jg 1) Ju))) (Vx (Yh (UB 6) (Yh (UB 7) Vw)) rfl) (J0 (Jjf (Ub (Jf (Yj VZ (Jg 6) JP) (Jf (Yj VZ (Jg 7) JP) Ju))))
  (J0 (Yb (Ub (Jf (Yj VZ (Jg 6) JP) (Jf (Yj VZ (Jg 7) JP) (Jf (Yj Jh5 (Jg 5) (Jg 3)) Ju)))))
  (J0 (Yb (Yj Jh6 (Jg 5) (Jg 3)))
  (Jjg (W4 (Jec (JfF (Jg 8))) (UB 0) Jbe (Jc9 (Jf (Yj VZ (Jg 1) JP) (Jf (Jg 0) (Jf (Jc8 (Jg 2) (Jg 0)) Ju)))) rfl))))))
  (Zg (Ub (Jf (Jg 4) Ju)))))))) (Y2 (Yb (J2 (Jf (Jg 0) (Jf (Jg 1) Ju))))
  (JoL (Uv (Jf (Jg 0) (Jf (Jg 1) Ju)))) (Y2 (Wm (JbV (Yi (JbS JcP JcQ JP (Jg 2) (Jg 3)))) Uu YU)
  (Jbk (JbV (Yi (JbS JcP JcQ JP (Jg 2) (Jg 3)))) (WP wQ.ns (Jf V1 Ju)) UI) (Y2 (JfS (Jal Ju))
  UI (Y2 (Yb (Jg 2))
  UI (Y2 (Jav (JbT (Jf (J2 (Jf (Jg 0) (Jf (Jg 1) Ju))) (Jf (Jg 1) Ju))) (Vx (Yh (UB 6) (Yh (UB 7) Vw)) rfl) (J0 (Jjf (Ub (Jf (Yj VZ (Jg 6) JP) (Jf (Yj VZ (Jg 7) JP) Ju))))
  (J0 (Yb (Ub (Jf (Yj VZ (Jg 6) JP) (Jf (Yj VZ (Jg 7) JP) (Jf (Yj Jh5 (Jg 5) (Jg 3)) Ju)))))
  (J0 (Yb (Yj Jh6 (Jg 5) (Jg 3)))
  (Jjg (W4 (Jec (JfF (Jg 8))) (UB 0) Jbe (Jc9 (Jf (Yj VZ (Jg 1) JP) (Jf (Jg 0) (Jf (Jc8 (Jg 2) (Jg 0)) Ju)))) rfl))))))
  (Jjj (JfV (JfT (J2 (Jf (Jg 0) (Jf (Jg 1) Ju))) (Uv (Jf (Jg 0) (Jf (Jg 1) Ju))) Jjk))) UI))))) h
theorem JbY:FnScope ["which","boxes","lumps","number"] ["which","boxes","lumps","number"] (Jj VG):=by walk_at "c"
theorem JbL{f:Addr}{fd:FuncData}(F:Fun K "_law_asked" "_law_asked" VG f fd)(we:CalX P w K mg base "numbered" 6 ["boxes","lumps","number"] (spX K C 3 Yc YB))(qE:CalX P w K mg base "how_many" 4 ["boxes","lumps"] (spX K C 2 JU Ye))(qo:CalX P w K mg base "rooms" 3 ["boxes","lumps"] (spX K C 2 JE Ym)):FnOk P w K mg base (CX1 P w) 7 f fd ["which","boxes","lumps","number"] (spX K C 4 JH J1):=by
 refine Fun.okX F JbY (fun vs H Q E h=>VW h) (fun cdv A outer s H vs Q E hr h=>?_);have hu:=hr.units;refine⟨_,(Jd (J8 (Jp (Vi (K:=K) rfl hu) (pv 0) Je (Jz _)) (Jh (JC (Yr qo (hrM hr) rfl xok_cx.passes (Ja (pv 1) (Ja (pv 2) Jc))))) JD)
  (Jd (J8 (Jp (Vi (K:=K) rfl hu) (pv 0) Je (Jz _)) (Jh (JC (Yr qE (hrM hr) rfl xok_cx.passes (Ja (pv 1) (Ja (pv 2) Jc))))) JD)
  (Jh (JC (Yr we (hrM hr) rfl xok_cx.passes (Ja (pv 1) (Ja (pv 2) (Ja (pv 3) Jc)))))))),?_⟩
 exact U0 (N:=["which","boxes","lumps","number"]) (J0 (Wm (Yi (Yj JcO (Jg 0) JP)) (Zg (J2 (Jf (Jg 1) (Jf (Jg 2) Ju)))) YU)
  (J0 (Wm (Yi (Yj JcO (Jg 0) JP)) (Zg (J2 (Jf (Jg 1) (Jf (Jg 2) Ju)))) YU)
  (Zg (J2 (Jf (Jg 1) (Jf (Jg 2) (Jf (Jg 3) Ju))))))) (Y2 (Wm (Yi (Yj JcO (Jg 0) JP)) (Zg (J2 (Jf (Jg 1) (Jf (Jg 2) Ju)))) YU)
  (Jbk (Yi (Yj JcO (Jg 0) JP)) (Jeq (Uv (Jf (Jg 1) (Jf (Jg 2) Ju)))) UI) (Y2 (Wm (Yi (Yj JcO (Jg 0) JP)) (Zg (J2 (Jf (Jg 1) (Jf (Jg 2) Ju)))) YU)
  (Jbk (Yi (Yj JcO (Jg 0) JP)) (Jeq (Uv (Jf (Jg 1) (Jf (Jg 2) Ju)))) UI) (Jeq (Uv (Jf (Jg 1) (Jf (Jg 2) (Jf (Jg 3) Ju))))))) h
theorem sc_law_alone:FnScope ["e","kinds"] ["e"] (Jj VF):=by walk_at "c"
theorem Wx{f:Addr}{fd:FuncData}(F:Fun K "_law_alone" "_law_alone" VF f fd)(qd:mg "isinstance"=none)(qK:mg "ValueError"=none)(xG:ExcG K)(xO:OwnL K ["BadTable","NoRow","TooMany"] [qa,qe,qb])(iV:IsiV K ["BadTable","NoRow","TooMany"])(qu:mg "LumpError"=some (.ref qf))(qN:IsiN K ["BadTable","NoRow","TooMany"] "LumpError" qf)(qJ:mg "NoRow"=some (.ref qe))(qW:IsiN K ["BadTable","NoRow","TooMany"] "NoRow" qe)(wR:mg "Unlike"=some (.ref qx))(wM:IsiN K ["BadTable","NoRow","TooMany"] "Unlike" qx)(wt:mg "BadDeed"=some (.ref qp))(wn:IsiN K ["BadTable","NoRow","TooMany"] "BadDeed" qp)(qj:mg "BadTable"=some (.ref qa))(qz:IsiN K ["BadTable","NoRow","TooMany"] "BadTable" qa)(qY:mg "BadSeats"=some (.ref qk))(qV:IsiN K ["BadTable","NoRow","TooMany"] "BadSeats" qk)(wu:mg "BadText"=some (.ref qq))(wp:IsiN K ["BadTable","NoRow","TooMany"] "BadText" qq)(qr:mg "TooMany"=some (.ref qb))(qH:IsiN K ["BadTable","NoRow","TooMany"] "TooMany" qb)(wS:mg "BadRow"=some (.ref qy))(wL:IsiN K ["BadTable","NoRow","TooMany"] "BadRow" qy):FnH P w K mg base 1 f fd ["e"] (spE K C 1 Vb):=by
 refine Fun.okH F sc_law_alone (fun vs H Q E h=>JfJ h) (fun cdv A outer s H vs Q E hr h=>?_);have hu:=hr.units;refine⟨_,(Jd (psN 1 sc_law_alone.nd (Yn (Ja (Jo (J7 (K:=K) rfl) rfl qd Jr (Ja (pv 0) (Ja (YJ (v:=V.ref qy) rfl wS rfl) Jc))) (Ja (Jo (J7 (K:=K) rfl) rfl qd Jr (Ja (pv 0) (Ja (YJ (v:=V.ref qb) rfl qr rfl) Jc))) (Ja (Jo (J7 (K:=K) rfl) rfl qd Jr (Ja (pv 0) (Ja (YJ (v:=V.ref qq) rfl wu rfl) Jc))) (Ja (Jo (J7 (K:=K) rfl) rfl qd Jr (Ja (pv 0) (Ja (YJ (v:=V.ref qk) rfl qY rfl) Jc))) Jc))))))
  (Jd (psN 1 sc_law_alone.nd (Jk (Jx (K:=K) rfl) (pv 1) (Yn (Ja (Jo (J7 (K:=K) rfl) rfl qd Jr (Ja (pv 0) (Ja (YJ (v:=V.ref qa) rfl qj rfl) Jc))) (Ja (Jo (J7 (K:=K) rfl) rfl qd Jr (Ja (pv 0) (Ja (YJ (v:=V.ref qp) rfl wt rfl) Jc))) (Ja (Jo (J7 (K:=K) rfl) rfl qd Jr (Ja (pv 0) (Ja (YJ (v:=V.ref qx) rfl wR rfl) Jc))) (Ja (Jo (J7 (K:=K) rfl) rfl qd Jr (Ja (pv 0) (Ja (YJ (v:=V.ref qe) rfl qJ rfl) Jc))) Jc)))))))
  (Jh (JC (Jid (JkO (Vi (K:=K) rfl hu) (UN (K:=K) rfl Q3 Lr Ls Ja6 (pv 1) (Ja WA Jc)) Je (Jz _)) (Jid (Jo (J7 (K:=K) rfl) rfl qd Jr (Ja (pv 0) (Ja (YJ (v:=V.ref qf) rfl qu rfl) Jc))) (JnI (Jo (J7 (K:=K) rfl) rfl qd Jr (Ja (pv 0) (Ja (WB (v:=V.ty "ValueError") rfl qK Jay rfl) Jc)))))))))),?_⟩
 refine Jby (N:=["e","kinds"]) ?_ h;walk_at "s"
theorem sc_law_word:FnScope ["which","boxes","lumps","number","found","e","kinds"] ["which","boxes","lumps","number"] (Jj Wh):=by walk_at "c"
theorem JcV{f:Addr}{fd:FuncData}(F:Fun K "_law_word" "_law_word" Wh f fd)(qd:mg "isinstance"=none)(qS:CalX P w K mg base "_law_asked" 7 ["which","boxes","lumps","number"] (spX K C 4 JH J1))(qT:CalH P w K mg base "_law_alone" 1 ["e"] (spE K C 1 Vb))(qu:mg "LumpError"=some (.ref qf))(xG:ExcG K)(xO:OwnL K ["BadTable","NoRow","TooMany"] [qa,qe,qb])(wf:ExmL K qf [qa,qe,qb])(qJ:mg "NoRow"=some (.ref qe))(qW:IsiN K ["BadTable","NoRow","TooMany"] "NoRow" qe)(qr:mg "TooMany"=some (.ref qb))(qH:IsiN K ["BadTable","NoRow","TooMany"] "TooMany" qb)(qj:mg "BadTable"=some (.ref qa))(qz:IsiN K ["BadTable","NoRow","TooMany"] "BadTable" qa):FnOk P w K mg base CX0 8 f fd ["which","boxes","lumps","number"] (spE K C 4 JV) :=
 okE F sc_law_word rfl fun _ _ _ _ _ _ hr hu=>⟨_,(Jd (psN 4 sc_law_word.nd Ua)
  (Jd (JkX (K:=K) (i:=5) rfl rfl rfl rfl sc_law_word.nd rfl rfl rfl qu (Jic (Jib (JkY qS (hrM hr) rfl (Ja (pv 0) (Ja (pv 1) (Ja (pv 2) (Ja (pv 3) Jc))))))) (fun a=>(Jd (psN 6 sc_law_word.nd (Yn (Ja (Jo (J7 (K:=K) rfl) rfl qd Jr (Ja (pv 5) (Ja (YJ (v:=V.ref qa) rfl qj rfl) Jc))) (Ja (Jo (J7 (K:=K) rfl) rfl qd Jr (Ja (pv 5) (Ja (YJ (v:=V.ref qb) rfl qr rfl) Jc))) (Ja (Jo (J7 (K:=K) rfl) rfl qd Jr (Ja (pv 5) (Ja (YJ (v:=V.ref qe) rfl qJ rfl) Jc))) Jc)))))
  (Jd (psN 4 sc_law_word.nd Ua)
  (Jh (J8 (PW.pt (Jaj (Jp (Vi (K:=K) rfl hu) (UN (K:=K) rfl Q3 Lr Ls Ja6 (pv 6) (Ja WA Jc)) Je (Jz _)) (WD (WC (K:=K) rfl (Jie qT ((hr.h.mark _).mono (by decide)) rfl (Ja (pv 5) Jc)) (fun _=>rfl))))) (Jh (psN 4 sc_law_word.nd (pxK K (Yn (Ja Ua (Ja Ua (Ja Ua Jc)))) (UN (K:=K) rfl Q3 PySem.F.slot_list_index PySem.F.type_list_index Jgy (pv 6) (Ja WA Jc))))) JD))))))
  (Jh (JC (pv 4))))),(J0 (Yb V1)
  (J0 (Jqh (wf.all xO) (fun W=>(Jji (fun W=>J2 (Jf (Jg 0) (Jf (Jg 1) (Jf (Jg 2) (Jf (Jg 3) Ju))))) W)) (JlM (fun W=>Uv (Jf (Jg 0) (Jf (Jg 1) (Jf (Jg 2) (Jf (Jg 3) Ju)))))) (J0 (Yb (Jal (Jf (JfE qz (Jg 5)) (Jf (JfE qH (Jg 5)) (Jf (JfE qW (Jg 5)) Ju)))))
  (J0 (Yb V1)
  (Wm (JiL (Yi (Yj JcO (JfD (Jg 6) Jor) JP)) (Jmc (Ub (Jf (Jg 5) Ju)))) (Yb (Yj VZ (Jal (Jf V1 (Jf V1 (Jf V1 Ju)))) (Jll (Jg 6) Jor))) YU))))
  Jb7))⟩
theorem sc_law_due:FnScope ["lumps","k"] ["lumps"] (Jj W5):=by walk_at "c"
theorem Jd4{f:Addr}{fd:FuncData}(F:Fun K "_law_due" "_law_due" W5 f fd)(qt:mg "sum"=none)(ql:mg "range"=none)(qC:mg "len"=none):FnOk P w K mg base CX0 1 f fd ["lumps"] (spE K C 1 YR) :=
 okE F sc_law_due rfl fun _ _ _ _ _ _ hr hu=>⟨_,(Jd (YT Gh rfl (U3 rfl ql (Ja (Jo (YV (K:=K) rfl) rfl qC Vr (Ja (pv 0) Jc)) Jc)) (JF (i:=1) sc_law_due.nd rfl (.inl rfl)) (Jh (J8 (PW.pt (Zf (Jp UH (pxK K (pxK K (pv 0) (pv 1)) Je) Je (Jz _)) (Zf (Jp UH (pxK K (pxK K (pv 0) (pv 1)) Je) Je (Jz _)) (W2 (PW.pt (Jaj (Jp Ja9 (pv 1) Je (Jz _)) (WD (Jp Jfm (pxK K (pxK K (pv 0) (pv 1)) Je) (pxK K (pxK K (pv 0) (Jk YD (pv 1) Je)) Je) (Jz _))))))))) (Jh (JC Ua)) JD)))
  (Jd (J8 (Jp Ja9 (Jo (YW (K:=K) rfl rfl) rfl qt Vs (Ja (YI (N':=["size","number"]) (imp:=[none,none]) rfl (piK K (pv 0)) (JdA rfl rfl) (fun _ _ _ _=>(JS (K:=K) (n:=2) rfl rfl (Jm (pgN 0 JkC) (Jm (pgN 1 JkC) JT)) rfl rfl)) (fun _ _ _ _=>Yf) (fun _ _ _ _=>(pv 1))) Jc)) Je (Jz _)) (Jh (JC Ua)) JD)
  (Jh (JC Ua)))),by walk_at "s"⟩
theorem sc_law_spoiled:FnScope ["lumps","way","cell","at","size","number","far","rest"] ["lumps","way","cell"] (Jj US):=by walk_at "c"
theorem Jac{f:Addr}{fd:FuncData}(F:Fun K "_law_spoiled" "_law_spoiled" US f fd)(qt:mg "sum"=none)(qC:mg "len"=none):FnOk P w K mg base CX0 1 f fd ["lumps","way","cell"] (spE K C 3 JG) :=
 okE F sc_law_spoiled rfl fun _ _ _ _ _ _ hr hu=>⟨_,(Jd (J8 (Jp (Vi (K:=K) rfl hu) (pv 0) (Yn Jc) (Jz _)) (Jh (JC (pv 0))) JD)
  (Jd (psN 3 sc_law_spoiled.nd (Jk YC (pv 2) (Jo (YV (K:=K) rfl) rfl qC Vr (Ja (pv 0) Jc))))
  (Jd (JnP (pxK K (pv 0) (pv 3)) (JS (K:=K) (n:=2) rfl rfl (Jm (JF (i:=4) sc_law_spoiled.nd rfl (.inl rfl)) (Jm (JF (i:=5) sc_law_spoiled.nd rfl (.inl rfl)) JT)) rfl rfl))
  (Jd (psN 6 sc_law_spoiled.nd (Jk YC (Jk Us (pv 2) Je) (Jk VA Je Je)))
  (Jd (J8 (Jp (Vi (K:=K) rfl hu) (pv 1) Je (Jz _)) (Jh (JC (Jk (Jx (K:=K) rfl) (Jk (Jx (K:=K) rfl) (YN (Ug (K:=K) rfl) (pv 0) Ue (Uf (pv 3))) (Yn (Ja (YS (Ja (Jk YD Je (pv 6)) (Ja (pv 5) Jc))) Jc))) (YN (Ug (K:=K) rfl) (pv 0) (Uf (Jk (Jx (K:=K) rfl) (pv 3) Je)) Ue)))) JD)
  (Jd (J8 (Jp (Vi (K:=K) rfl hu) (pv 1) Je (Jz _)) (Jh (JC (Jk (Jx (K:=K) rfl) (Jk (Jx (K:=K) rfl) (YN (Ug (K:=K) rfl) (pv 0) Ue (Uf (pv 3))) (Yn (Ja (YS (Ja (pv 4) (Ja (Jk YD Je (pv 6)) Jc))) Jc))) (YN (Ug (K:=K) rfl) (pv 0) (Uf (Jk (Jx (K:=K) rfl) (pv 3) Je)) Ue)))) JD)
  (Jd (J8 (Jp (Vi (K:=K) rfl hu) (pv 1) Je (Jz _)) (Jh (JC (Jk (Jx (K:=K) rfl) (Jk (Jx (K:=K) rfl) (YN (Ug (K:=K) rfl) (pv 0) Ue (Uf (pv 3))) (Yn (Ja (YS (Ja (pv 4) (Ja (pv 5) Jc))) Jc))) (YN (Ug (K:=K) rfl) (pv 0) (Uf (pv 3)) Ue)))) JD)
  (Jd (J8 (Jp (Vi (K:=K) rfl hu) (pv 1) Je (Jz _)) (Jh (JC (Jk (Jx (K:=K) rfl) (YN (Ug (K:=K) rfl) (pv 0) (Uf (pv 3)) Ue) (YN (Ug (K:=K) rfl) (pv 0) Ue (Uf (pv 3)))))) JD)
  (Jd (psN 7 sc_law_spoiled.nd (Jk YD (Jo (YW (K:=K) rfl rfl) rfl qt Vs (Ja (YI (N':=["pair"]) (imp:=[none]) rfl (piK K (pv 0)) (JdA rfl rfl) (fun _ _ _ _=>(pgN 0 Jpr)) (fun _ _ _ _=>Yf) (fun _ _ _ _=>(pxK K (pv 0) Je))) Jc)) (pv 5)))
  (Jh (JC (Jk (Jx (K:=K) rfl) (Jk (Jx (K:=K) rfl) (YN (Ug (K:=K) rfl) (pv 0) Ue (Uf (pv 3))) (Yn (Ja (YS (Ja (pv 4) (Ja (Jk (Jx (K:=K) rfl) (Jk YD Je (pv 7)) (pxK K (Yn (Ja Je (Ja Je (Ja (Jk (Jx (K:=K) rfl) Je (pv 6)) Jc)))) (Jk YC (Jk Us (pv 2) Je) Je))) Jc))) Jc))) (YN (Ug (K:=K) rfl) (pv 0) (Uf (Jk (Jx (K:=K) rfl) (pv 3) Je)) Ue))))))))))))),by walk_at "s"⟩
theorem Jdb:FnScope ["script","k"] ["script","k"] (Jj Wg):=by walk_at "c"
theorem JcU{f:Addr}{fd:FuncData}(F:Fun K "_law_cell" "_law_cell" Wg f fd)(qC:mg "len"=none):FnOk P w K mg base CX0 1 f fd ["script","k"] (spE K C 2 JB) :=
 okE F Jdb rfl fun _ _ _ _ _ _ hr hu=>⟨_,(Jd (J8 (Jp UH (pv 1) (Jo (YV (K:=K) rfl) rfl qC Vr (Ja (pv 0) Jc)) (Jz _)) (Jh (JC (pxK K (pv 0) (pv 1)))) JD)
  (Jh (JC Je))),by walk_at "s"⟩
theorem sc_law_lumps:FnScope ["script","first","many","span","found","k","size"] ["script","first","many","span"] (Jj VH):=by walk_at "c"
theorem JbM{f:Addr}{fd:FuncData}(F:Fun K "_law_lumps" "_law_lumps" VH f fd)(qG:mg "sorted"=none)(ql:mg "range"=none)(qh:Cal P w K mg base "_law_cell" 1 ["script","k"] (spE K C 2 JB)):FnOk P w K mg base CX0 2 f fd ["script","first","many","span"] (spE K C 4 YG) :=
 okE F sc_law_lumps rfl fun _ _ _ _ _ _ hr hu=>⟨_,(Jd (Jai (i:=4) sc_law_lumps.nd rfl (.inr rfl) JcY)
  (Jd (YT Gh rfl (U3 rfl ql (Ja (pv 2) Jc)) (JF (i:=5) sc_law_lumps.nd rfl (.inl rfl)) (Jd (psN 6 sc_law_lumps.nd (Jk (Jx (K:=K) rfl) Je (Jk YC (Jv qh (hrM hr) rfl (Ja (pv 0) (Ja (Jk (Jx (K:=K) rfl) (pv 1) (Jk UD Je (pv 5))) Jc))) (pv 3))))
  (Jh (JkV (Je4 hr) (pv 4) (pv 6) (Jk (Jx (K:=K) rfl) (Jk (Jx (K:=K) rfl) (Jif (Je4 hr) (pv 4) (pv 6) Je ⟨rfl,rfl,rfl,rfl⟩) Je) (Jk YC (Jv qh (hrM hr) rfl (Ja (pv 0) (Ja (Jk (Jx (K:=K) rfl) (Jk (Jx (K:=K) rfl) (pv 1) Je) (Jk UD Je (pv 5))) Jc))) Je)) rfl))))
  (Jh (JC (YI (N':=["size","found"]) (imp:=[none,some 4]) rfl (piK K (Jo (JdH rfl) rfl qG JaQ (Ja (pv 4) Jc))) (JdB (own:=["size"]) (fr:=[("found",4)]) rfl rfl rfl ⟨rfl,trivial⟩ rfl ⟨⟨rfl,rfl,rfl⟩,trivial⟩) (fun _ _ _ _=>(pgN 0 Jps)) (fun _ _ _ _=>Yf) (fun _ _ _ _=>(YS (Ja (pv 0) (Ja (Jfp (Je4 hr) (pv 1) (pv 0) (fun _ _=>rfl)) Jc))))))))),by walk_at "s"⟩
theorem sc_law:FnScope ["script","lead","cell","lumps","boxes","due","handed","which","number","spent","found","k","room"] ["script"] (Jj WF):=by walk_at "c"
theorem Jns{f:Addr}{fd:FuncData}(F:Fun K "law" "law" WF f fd)(ql:mg "range"=none)(qC:mg "len"=none)(qd:mg "isinstance"=none)(vj:mg "bool"=none)(wq:mg "tuple"=none)(qt:mg "sum"=none)(wN:mg "min"=none)(wb:mg "list"=none)(qo:CalX P w K mg base "rooms" 3 ["boxes","lumps"] (spX K C 2 JE Ym))(wg:Cal P w K mg base "_law_word" 8 ["which","boxes","lumps","number"] (spE K C 4 JV))(wD:Cal P w K mg base "_law_due" 1 ["lumps"] (spE K C 1 YR))(qM:Cal P w K mg base "_law_spoiled" 1 ["lumps","way","cell"] (spE K C 3 JG))(qh:Cal P w K mg base "_law_cell" 1 ["script","k"] (spE K C 2 JB))(qZ:Cal P w K mg base "_law_lumps" 2 ["script","first","many","span"] (spE K C 4 YG)):FnOk P w K mg base CX0 9 f fd ["script"] (spE K C 1 JdO) :=
 okE F sc_law rfl fun _ _ _ _ _ _ hr hu=>⟨_,(Jd (psN 1 sc_law.nd (Jv qh (hrM hr) rfl (Ja (pv 0) (Ja Je Jc))))
  (Jd (psN 2 sc_law.nd (Jv qh (hrM hr) rfl (Ja (pv 0) (Ja Je Jc))))
  (Jd (Jai (i:=3) sc_law.nd rfl (.inr rfl) (Jv qZ (hrM hr) rfl (Ja (pv 0) (Ja Je (Ja (Jk YC (pv 1) Je) (Ja (pxK K (Yn (Ja Je (Ja Je (Ja (Jk UD Je (Jk VA Je Je)) Jc)))) (Jk YC (Jk Us (pv 1) Je) Je)) Jc))))))
  (Jd (psN 4 sc_law.nd (pxK K (Yn (Ja (Jk YC (pv 2) Je) (Ja (Jk YC (pv 2) (Jk (Jx (K:=K) rfl) (Jk VA Je Je) Je)) (Ja (Jk YC (pv 2) (Jk (Jx (K:=K) rfl) (Jk VA Je Je) Je)) (Ja (Jk VA Je Je) Jc))))) (Jk YC (Jk Us (pv 1) Je) Je)))
  (Jd (J8 (Jp UH (Jk YC (Jk Us (pv 1) Je) Je) Je (Jz _)) (Jh (Jai (i:=3) sc_law.nd rfl (.inr rfl) (Jv qM (hrM hr) rfl (Ja (pv 3) (Ja (Jk YC (Jv qh (hrM hr) rfl (Ja (pv 0) (Ja Je Jc))) Je) (Ja (Jk YC (Jk Us (Jv qh (hrM hr) rfl (Ja (pv 0) (Ja Je Jc))) Je) (Jk VA Je Je)) Jc)))))) JD)
  (Jd (psN 5 sc_law.nd (Jv wD (hrM hr) rfl (Ja (pv 3) Jc)))
  (Jd (psN 6 sc_law.nd (VT (JdF (K:=K) rfl) rfl wb Zn (Ja (pv 3) Jc)))
  (Jd (YT Gh rfl (U3 rfl ql (Ja Je Jc)) (JF (i:=7) sc_law.nd rfl (.inl rfl)) (Jd (psN 8 sc_law.nd (pxK K (Yn (Ja Je (Ja (Jk YD (Jl4 Jjd Je) (Jk YC (pv 2) (Jk VA Je Je))) (Ja (Jk VA Je Je) Jc)))) (Jk YC (Jk Us (pv 2) Je) Je)))
  (Jh (J8 (PW.pt (Zf (Jp (WZ (K:=K) rfl hu) (Jv wg (hrM hr) rfl (Ja (pv 7) (Ja (pv 4) (Ja (pv 6) (Ja (pv 8) Jc))))) (pv 5) (Jz _)) (W2 (Jp (WZ (K:=K) rfl hu) (pv 6) (pv 3) (Jz _))))) (Jh (JC WA)) JD))))
  (Jd (J8 (Jp (WZ (K:=K) rfl hu) (pv 5) Ua (Jz _)) (Jh (JC WA)) JD)
  (Jd (psN 9 sc_law.nd (Yr qo (hrM hr) rfl Jfn (Ja (pv 4) (Ja (pv 6) Jc))))
  (Jd (Yu (UN (K:=K) rfl Q3 Ky Kz VR (pv 9) (Ja (YS (Ja Je (Ja Je Jc))) Jc)))
  (Jd (Yu (JkN (K:=K) rfl Q3 PySem.F.slot_list_reverse PySem.F.type_list_reverse Jd2 (pv 9)))
  (Jd (psN 10 sc_law.nd (Yr qo (hrM hr) rfl Jfn (Ja (pv 4) (Ja (pv 6) Jc))))
  (Jd (J8 (PW.pt (Zf (Jd8 (WC (K:=K) rfl (Jo (VO (K:=K) rfl) rfl qd Jr (Ja (pv 10) (Ja (WB (v:=V.ty "list") rfl wb Zn rfl) Jc))) (fun _=>rfl))) (Zf (Jp (WZ (K:=K) rfl hu) (Jo (YV (K:=K) rfl) rfl qC Vr (Ja (pv 10) Jc)) (Jo (YV (K:=K) rfl) rfl qC Vr (Ja (pv 3) Jc)) (Jz _)) (W2 (Jp (WZ (K:=K) rfl hu) (pv 6) (pv 3) (Jz _)))))) (Jh (JC WA)) JD)
  (Jd (YT Gh rfl (U3 rfl ql (Ja (Jo (YV (K:=K) rfl) rfl qC Vr (Ja (pv 3) Jc)) Jc)) (JF (i:=11) sc_law.nd rfl (.inr rfl)) (Jd (psN 12 sc_law.nd (Jk YD (pv 4) (Jk UD Je (Jo (YW (K:=K) rfl rfl) rfl qt Vs (Ja (YI (N':=["size","number","lumps","k"]) (imp:=[none,none,some 3,some 11]) rfl (piK K (pv 3)) (JdB (own:=["size","number"]) (fr:=[("lumps",3),("k",11)]) rfl rfl rfl ⟨rfl,rfl,trivial⟩ rfl ⟨⟨rfl,rfl,rfl⟩,⟨rfl,rfl,rfl⟩,trivial⟩) (fun _ _ _ _=>(JS (K:=K) (n:=2) rfl rfl (Jm (pgN 0 Jl0) (Jm (pgN 1 Jl0) JT)) rfl rfl)) (fun _ _ _ _=>Yf) (fun _ _ _ _=>(Jk UD (pv 1) (Jo (WQ rfl) rfl wN JdC (Ja (pv 0) (Ja (pxK K (pxK K (pv 2) (pv 3)) Je) Jc)))))) Jc)))))
  (Jd (J8 (PW.pt (Zf (Jd8 (WC (K:=K) rfl (Jo (VO (K:=K) rfl) rfl qd Jr (Ja (pxK K (pv 10) (pv 11)) (Ja (WB (v:=V.ty "tuple") rfl wq Jci rfl) Jc))) (fun _=>rfl))) (W2 (Jp (WZ (K:=K) rfl hu) (pxK K (pv 10) (pv 11)) (YS (Ja (pxK K (pxK K (pv 3) (pv 11)) Je) (Ja (pv 12) Jc))) (Jz _))))) (Jh (JC WA)) JD)
  (Jh (J8 (PW.pt (Zf (WC (K:=K) rfl (Jo (VO (K:=K) rfl) rfl qd Jr (Ja (pxK K (pxK K (pv 10) (pv 11)) Je) (Ja (WB (v:=V.ty "bool") rfl vj Jey rfl) Jc))) (fun _=>rfl)) (W2 (WC (K:=K) rfl (Jo (VO (K:=K) rfl) rfl qd Jr (Ja (pxK K (pxK K (pv 10) (pv 11)) Je) (Ja (WB (v:=V.ty "bool") rfl vj Jey rfl) Jc))) (fun _=>rfl))))) (Jh (JC WA)) JD)))))
  (Jh (JC WA))))))))))))))))),by walk_at "s"⟩
end
theorem vl1{α:Type}{us:List α}(h:us.length=1):∃a,us=[a]:=match us,h with|[a],_=>⟨a,rfl⟩
theorem vl2{α:Type}{us:List α}(h:us.length=2):∃a b,us=[a,b]:=match us,h with|[a,b],_=>⟨a,b,rfl⟩
theorem vl3{α:Type}{us:List α}(h:us.length=3):∃a b c,us=[a,b,c]:=match us,h with|[a,b,c],_=>⟨a,b,c,rfl⟩
theorem vl4{α:Type}{us:List α}(h:us.length=4):∃a b c d,us=[a,b,c,d]:=match us,h with|[a,b,c,d],_=>⟨a,b,c,d,rfl⟩
local macro_rules | `(tactic| walk_at "b")=>`(tactic| (intro _ _ _ _ _ _ us hl;first | (obtain⟨_,e⟩:=vl1 hl;subst e;rfl) | (obtain⟨_,_,e⟩:=vl2 hl;subst e;rfl) | (obtain⟨_,_,_,e⟩:=vl3 hl;subst e;rfl) | (obtain⟨_,_,_,_,e⟩:=vl4 hl;subst e;rfl)))
theorem all_mk{l:PySem.W.OpenLaw}{w:World}{K:Frag}{h:Heap}{mg:Str->Option Value}{fa:Addr}{C:Addr}{f29:Addr}{od29 an29:Option Addr}{sl29:Array (Option Value)}{oc29 kV29 dc29 pm29 cd29 ct29:Value}{f1 f2 f3 f4 f5 f6 f7 f8 f9 f10 f11 f12 f13 f14 f15 f16 f17 f18 f19 f20 f21 f22 f23 f24 f25 f26 f27 f28:Addr}{d1 d2 d3 d4 d5 d6 d7 d8 d9 d10 d11 d12 d13 d14 d15 d16 d17 d18 d19 d20 d21 d22 d23 d24 d25 d26 d27 d28:FuncData}{qb:Addr}{qa:Addr}{qe:Addr}{qf:Addr}{qx:Addr}{qp:Addr}{qk:Addr}{qq:Addr}{qy:Addr}{vk:Tok}{vg:Tok}{wZ:Tok}(X:K.In h)(G:h.Ns mainGlobals mg)(hfa:mg "law"=some (.ref fa))
 (aC:nsIn K mainGlobals "Row"=some (some (.ref C)))
 (a1:nsIn K mainGlobals "share_of"=some (some (.ref f1)))
 (F1:Fun K "share_of" "share_of" Wj f1 d1)
 (a2:nsIn K mainGlobals "check_few"=some (some (.ref f2)))
 (F2:Fun K "check_few" "check_few" VE f2 d2)
 (a3:nsIn K mainGlobals "check_lumps"=some (some (.ref f3)))
 (F3:Fun K "check_lumps" "check_lumps" UP f3 d3)
 (a4:nsIn K mainGlobals "check_seats"=some (some (.ref f4)))
 (F4:Fun K "check_seats" "check_seats" UQ f4 d4)
 (a5:nsIn K mainGlobals "told_taking"=some (some (.ref f5)))
 (F5:Fun K "told_taking" "told_taking" UT f5 d5)
 (a6:nsIn K mainGlobals "rooms"=some (some (.ref f6)))
 (F6:Fun K "rooms" "rooms" JbU f6 d6)
 (a7:nsIn K mainGlobals "check_stretches"=some (some (.ref f7)))
 (F7:Fun K "check_stretches" "check_stretches" Y1 f7 d7)
 (a8:findIn K (.ref C) "__init__"=some (some (.ref f8)))
 (i8:isFn K (.ref f8)=true)
 (F8:Fun K "__init__" "Row.__init__" Wd f8 d8)
 (a9:nsIn K mainGlobals "by_layers"=some (some (.ref f9)))
 (F9:Fun K "by_layers" "by_layers" VD f9 d9)
 (a10:nsIn K mainGlobals "thickened"=some (some (.ref f10)))
 (F10:Fun K "thickened" "thickened" VI f10 d10)
 (a11:nsIn K mainGlobals "balls_below"=some (some (.ref f11)))
 (F11:Fun K "balls_below" "balls_below" UO f11 d11)
 (a12:nsIn K mainGlobals "ended_at"=some (some (.ref f12)))
 (F12:Fun K "ended_at" "ended_at" We f12 d12)
 (a13:nsIn K mainGlobals "put_in"=some (some (.ref f13)))
 (F13:Fun K "put_in" "put_in" Jam f13 d13)
 (a14:nsIn K mainGlobals "check_table"=some (some (.ref f14)))
 (F14:Fun K "check_table" "check_table" UR f14 d14)
 (a15:nsIn K mainGlobals "row_of"=some (some (.ref f15)))
 (F15:Fun K "row_of" "row_of" Jan f15 d15)
 (a16:nsIn K mainGlobals "choices"=some (some (.ref f16)))
 (F16:Fun K "choices" "choices" W3 f16 d16)
 (a17:nsIn K mainGlobals "spot_lists"=some (some (.ref f17)))
 (F17:Fun K "spot_lists" "spot_lists" Vk f17 d17)
 (a18:nsIn K mainGlobals "least_room"=some (some (.ref f18)))
 (F18:Fun K "least_room" "least_room" Vj f18 d18)
 (a19:nsIn K mainGlobals "spots_numbered"=some (some (.ref f19)))
 (F19:Fun K "spots_numbered" "spots_numbered" Uc f19 d19)
 (a20:nsIn K mainGlobals "how_many"=some (some (.ref f20)))
 (F20:Fun K "how_many" "how_many" Wf f20 d20)
 (a21:nsIn K mainGlobals "numbered"=some (some (.ref f21)))
 (F21:Fun K "numbered" "numbered" Wi f21 d21)
 (a22:nsIn K mainGlobals "_law_asked"=some (some (.ref f22)))
 (F22:Fun K "_law_asked" "_law_asked" VG f22 d22)
 (a23:nsIn K mainGlobals "_law_alone"=some (some (.ref f23)))
 (F23:Fun K "_law_alone" "_law_alone" VF f23 d23)
 (a24:nsIn K mainGlobals "_law_word"=some (some (.ref f24)))
 (F24:Fun K "_law_word" "_law_word" Wh f24 d24)
 (a25:nsIn K mainGlobals "_law_due"=some (some (.ref f25)))
 (F25:Fun K "_law_due" "_law_due" W5 f25 d25)
 (a26:nsIn K mainGlobals "_law_spoiled"=some (some (.ref f26)))
 (F26:Fun K "_law_spoiled" "_law_spoiled" US f26 d26)
 (a27:nsIn K mainGlobals "_law_cell"=some (some (.ref f27)))
 (F27:Fun K "_law_cell" "_law_cell" Wg f27 d27)
 (a28:nsIn K mainGlobals "_law_lumps"=some (some (.ref f28)))
 (F28:Fun K "_law_lumps" "_law_lumps" VH f28 d28)
 (a29:nsIn K mainGlobals "law"=some (some (.ref f29)))
 (l29:K.lookup f29=some ⟨oc29,od29,.func (fnOf "law" "law" (Up WF) (YF WF) (Jj WF) .none kV29 dc29 pm29 an29 cd29 ct29),sl29⟩)
 (c29:codeIn K cd29 "law"=true)
 (k29:keepIn K (.ref f29)=true)
 (pg:plainGet K C Str.empty=true)
 (hd:hasDictIn K C=true)
 (po:plainOver K C=true)
 (sa:findIn K (.ref C) "__setattr__"=some (some (.builtin "object.__setattr__")))
 (mk:makesIn K C=true)
 (kc:keepIn K (.ref C)=true)
 (nS:findIn K (.ref C) "stretches"=some none)
 (n_TooMany:nsIn K mainGlobals "TooMany"=some (some (.ref qb)))
 (n_BadTable:nsIn K mainGlobals "BadTable"=some (some (.ref qa)))
 (n_NoRow:nsIn K mainGlobals "NoRow"=some (some (.ref qe)))
 (n_LumpError:nsIn K mainGlobals "LumpError"=some (some (.ref qf)))
 (n_Unlike:nsIn K mainGlobals "Unlike"=some (some (.ref qx)))
 (n_BadDeed:nsIn K mainGlobals "BadDeed"=some (some (.ref qp)))
 (n_BadSeats:nsIn K mainGlobals "BadSeats"=some (some (.ref qk)))
 (n_BadText:nsIn K mainGlobals "BadText"=some (some (.ref qq)))
 (n_BadRow:nsIn K mainGlobals "BadRow"=some (some (.ref qy)))
 (xo_BadTable:excIn K qa VEm "ValueError.__new__"=true)
 (xga_BadTable:findIn K (.ref qa) "__getattribute__"=some (some (.builtin "BaseException.__getattribute__")))
 (xgn_BadTable:findIn K (.ref qa) "__getattr__"=some none)
 (xmb_BadTable:mroIn K qa (.type "BaseException")=some true)
 (xh_BadTable:hasDictIn K qa=true)
 (xf_BadTable:findIn K (.ref qa) "__class__"=some (some (.builtin "object.__class__")))
 (xm_BadTable:mroIn K qa (.type "object")=some true)
 (xo_NoRow:excIn K qe VEm "ValueError.__new__"=true)
 (xga_NoRow:findIn K (.ref qe) "__getattribute__"=some (some (.builtin "BaseException.__getattribute__")))
 (xgn_NoRow:findIn K (.ref qe) "__getattr__"=some none)
 (xmb_NoRow:mroIn K qe (.type "BaseException")=some true)
 (xh_NoRow:hasDictIn K qe=true)
 (xf_NoRow:findIn K (.ref qe) "__class__"=some (some (.builtin "object.__class__")))
 (xm_NoRow:mroIn K qe (.type "object")=some true)
 (xo_TooMany:excIn K qb VEm "ValueError.__new__"=true)
 (xga_TooMany:findIn K (.ref qb) "__getattribute__"=some (some (.builtin "BaseException.__getattribute__")))
 (xgn_TooMany:findIn K (.ref qb) "__getattr__"=some none)
 (xmb_TooMany:mroIn K qb (.type "BaseException")=some true)
 (xh_TooMany:hasDictIn K qb=true)
 (xf_TooMany:findIn K (.ref qb) "__class__"=some (some (.builtin "object.__class__")))
 (xm_TooMany:mroIn K qb (.type "object")=some true)
 (xg1:specialIn K (.builtin "object.__class__") "__get__"=some (some (.builtin "getset_descriptor.__get__")))
 (xg2:takesIn K (.builtin "object.__class__")=some true)
 (vq:kitOne K (.ref qa) (.type "ValueError")=some true)
 (vI:kitOne K (.ref qe) (.type "ValueError")=some true)
 (vz:kitOne K (.ref qb) (.type "ValueError")=some true)
 (q0:kitOne K (.ref qa) (.ref qf)=some true)
 (wE:kitOne K (.ref qe) (.ref qf)=some true)
 (wj:kitOne K (.ref qb) (.ref qf)=some true)
 (vm:kitOne K (.type "NoneType") (.ref qf)=some false)
 (wT:kitOne K (.ref qa) (.ref qe)=some false)
 (vh:kitOne K (.ref qe) (.ref qe)=some true)
 (w4:kitOne K (.ref qb) (.ref qe)=some false)
 (vJ:kitOne K (.type "NoneType") (.ref qe)=some false)
 (wF:kitOne K (.ref qa) (.ref qx)=some false)
 (vc:kitOne K (.ref qe) (.ref qx)=some false)
 (wU:kitOne K (.ref qb) (.ref qx)=some false)
 (vE:kitOne K (.type "NoneType") (.ref qx)=some false)
 (wv:kitOne K (.ref qa) (.ref qp)=some false)
 (w5:kitOne K (.ref qe) (.ref qp)=some false)
 (wG:kitOne K (.ref qb) (.ref qp)=some false)
 (vA:kitOne K (.type "NoneType") (.ref qp)=some false)
 (wk:kitOne K (.ref qa) (.ref qa)=some true)
 (wV:kitOne K (.ref qe) (.ref qa)=some false)
 (ww:kitOne K (.ref qb) (.ref qa)=some false)
 (vt:kitOne K (.type "NoneType") (.ref qa)=some false)
 (wl:kitOne K (.ref qa) (.ref qk)=some false)
 (wW:kitOne K (.ref qe) (.ref qk)=some false)
 (wx:kitOne K (.ref qb) (.ref qk)=some false)
 (vx:kitOne K (.type "NoneType") (.ref qk)=some false)
 (wy:kitOne K (.ref qa) (.ref qq)=some false)
 (w6:kitOne K (.ref qe) (.ref qq)=some false)
 (wH:kitOne K (.ref qb) (.ref qq)=some false)
 (vB:kitOne K (.type "NoneType") (.ref qq)=some false)
 (wz:kitOne K (.ref qa) (.ref qb)=some false)
 (w9:kitOne K (.ref qe) (.ref qb)=some false)
 (wI:kitOne K (.ref qb) (.ref qb)=some true)
 (vC:kitOne K (.type "NoneType") (.ref qb)=some false)
 (wJ:kitOne K (.ref qa) (.ref qy)=some false)
 (vd:kitOne K (.ref qe) (.ref qy)=some false)
 (wX:kitOne K (.ref qb) (.ref qy)=some false)
 (vF:kitOne K (.type "NoneType") (.ref qy)=some false)
 (q9:exmOne K (.ref qa) (.ref qf)=some true)
 (wK:exmOne K (.ref qe) (.ref qf)=some true)
 (wm:exmOne K (.ref qb) (.ref qf)=some true)
 (vQ:nsIn K mainGlobals "min"=some none)
 (vR:nsIn K mainGlobals "sum"=some none)
 (vL:nsIn K mainGlobals "tuple"=some none)
 (vS:nsIn K mainGlobals "len"=some none)
 (vy:nsIn K mainGlobals "enumerate"=some none)
 (vT:nsIn K mainGlobals "max"=some none)
 (vK:nsIn K mainGlobals "sorted"=some none)
 (vD:nsIn K mainGlobals "reversed"=some none)
 (vO:nsIn K mainGlobals "list"=some none)
 (vU:nsIn K mainGlobals "zip"=some none)
 (vM:nsIn K mainGlobals "range"=some none)
 (vV:nsIn K mainGlobals "set"=some none)
 (vn:nsIn K mainGlobals "isinstance"=some none)
 (vo:nsIn K mainGlobals "ValueError"=some none)
 (vP:nsIn K mainGlobals "bool"=some none)
 (vp:nsIn K mainGlobals "MOST_LUMPS"=some (some (.int 30 vk)))
 (vi:nsIn K mainGlobals "MOST_COUNTED"=some (some (.int 12 vg)))
 (va:nsIn K mainGlobals "MOST_STRETCHES"=some (some (.int 30 wZ)))
:∃fd:FuncData,(∀(s:Shared) (v:Value),BindsTo s fd ⟨[v],[]⟩ [("script",v)])/\∀base:Heap,K.In base->base.Ns mainGlobals mg->FnOk l.prog w K mg base CX0 9 fa fd ["script"] (JfK K):=by
 have e:=hfa.symm.trans (mg_of X G a29);cases e
 have T:RowC K C:=⟨⟨pg,hd,po,sa⟩,nS⟩
 have vW:=mg_of X G aC
 have qr:=mg_of X G n_TooMany
 have qj:=mg_of X G n_BadTable
 have qJ:=mg_of X G n_NoRow
 have qu:=mg_of X G n_LumpError
 have wR:=mg_of X G n_Unlike
 have wt:=mg_of X G n_BadDeed
 have qY:=mg_of X G n_BadSeats
 have wu:=mg_of X G n_BadText
 have wS:=mg_of X G n_BadRow
 have qA:AtX K "BadTable" qa:=⟨n_BadTable,xo_BadTable,xga_BadTable,xgn_BadTable,xmb_BadTable,xh_BadTable,xf_BadTable,xm_BadTable⟩
 have wQ:AtX K "NoRow" qe:=⟨n_NoRow,xo_NoRow,xga_NoRow,xgn_NoRow,xmb_NoRow,xh_NoRow,xf_NoRow,xm_NoRow⟩
 have qU:AtX K "TooMany" qb:=⟨n_TooMany,xo_TooMany,xga_TooMany,xgn_TooMany,xmb_TooMany,xh_TooMany,xf_TooMany,xm_TooMany⟩
 have xG:ExcG K:=⟨xg1,xg2⟩
 have xO:OwnL K ["BadTable","NoRow","TooMany"] [qa,qe,qb]:=Jaf qA (Jaf wQ (Jaf qU (JkM)))
 have iV:IsiV K ["BadTable","NoRow","TooMany"]:=Jkg xO xG (ZU vq (ZU vI (ZU vz (Jkk))))
 have qN:IsiN K ["BadTable","NoRow","TooMany"] "LumpError" qf:=Uq xO xG (JA q0 (by decide +kernel) (JA wE (by decide +kernel) (JA wj (by decide +kernel) (Ur)))) vm
 have qW:IsiN K ["BadTable","NoRow","TooMany"] "NoRow" qe:=Uq xO xG (JA wT (by decide +kernel) (JA vh (by decide +kernel) (JA w4 (by decide +kernel) (Ur)))) vJ
 have wM:IsiN K ["BadTable","NoRow","TooMany"] "Unlike" qx:=Uq xO xG (JA wF (by decide +kernel) (JA vc (by decide +kernel) (JA wU (by decide +kernel) (Ur)))) vE
 have wn:IsiN K ["BadTable","NoRow","TooMany"] "BadDeed" qp:=Uq xO xG (JA wv (by decide +kernel) (JA w5 (by decide +kernel) (JA wG (by decide +kernel) (Ur)))) vA
 have qz:IsiN K ["BadTable","NoRow","TooMany"] "BadTable" qa:=Uq xO xG (JA wk (by decide +kernel) (JA wV (by decide +kernel) (JA ww (by decide +kernel) (Ur)))) vt
 have qV:IsiN K ["BadTable","NoRow","TooMany"] "BadSeats" qk:=Uq xO xG (JA wl (by decide +kernel) (JA wW (by decide +kernel) (JA wx (by decide +kernel) (Ur)))) vx
 have wp:IsiN K ["BadTable","NoRow","TooMany"] "BadText" qq:=Uq xO xG (JA wy (by decide +kernel) (JA w6 (by decide +kernel) (JA wH (by decide +kernel) (Ur)))) vB
 have qH:IsiN K ["BadTable","NoRow","TooMany"] "TooMany" qb:=Uq xO xG (JA wz (by decide +kernel) (JA w9 (by decide +kernel) (JA wI (by decide +kernel) (Ur)))) vC
 have wL:IsiN K ["BadTable","NoRow","TooMany"] "BadRow" qy:=Uq xO xG (JA wJ (by decide +kernel) (JA vd (by decide +kernel) (JA wX (by decide +kernel) (Ur)))) vF
 have wf:ExmL K qf [qa,qe,qb]:=ZI q9 (ZI wK (ZI wm (JjQ)))
 have wN:=mg_none_of X G vQ
 have qt:=mg_none_of X G vR
 have wq:=mg_none_of X G vL
 have qC:=mg_none_of X G vS
 have qD:=mg_none_of X G vy
 have vG:=mg_none_of X G vT
 have qG:=mg_none_of X G vK
 have wC:=mg_none_of X G vD
 have wb:=mg_none_of X G vO
 have wP:=mg_none_of X G vU
 have ql:=mg_none_of X G vM
 have vH:=mg_none_of X G vV
 have qd:=mg_none_of X G vn
 have qK:=mg_none_of X G vo
 have vj:=mg_none_of X G vP
 have qv:GV mg "MOST_LUMPS" (.int 30):=⟨_,mg_of X G vp,⟨_,rfl⟩⟩
 have qL:GV mg "MOST_COUNTED" (.int 12):=⟨_,mg_of X G vi,⟨_,rfl⟩⟩
 have qi:GV mg "MOST_STRETCHES" (.int 30):=⟨_,mg_of X G va,⟨_,rfl⟩⟩
 have F29:=JhF (st:=WF) l29 c29 k29;refine⟨fnOf "law" "law" (Up WF) (YF WF) (Jj WF) .none kV29 dc29 pm29 an29 cd29 ct29,fun s v=>.of_eq rfl,fun base _ _=>?_⟩
 have Z:PB l.prog w base:=⟨⟩
 have wA:=Yg Z F1 (JcX (C:=C) F1 wN) (mg_of X G a1) (by walk_at "b")
 have qw:=VN Z F2 (JbK (C:=C) F2 qt qr qU) (mg_of X G a2) (by walk_at "b")
 have qm:=VN Z F3 (Z9 (C:=C) F3 qj qA) (mg_of X G a3) (by walk_at "b")
 have qO:=Yg Z F4 (Jaa (C:=C) F4 ) (mg_of X G a4) (by walk_at "b")
 have qP:=Yg Z F5 (Jad (C:=C) F5 qt qv wA qw qm qO) (mg_of X G a5) (by walk_at "b")
 have qo:=VN Z F6 (Jh9 (C:=C) F6 qL qP qw qm) (mg_of X G a6) (by walk_at "b")
 have qF:=Yg Z F7 (Wc F7 ) (mg_of X G a7) (by walk_at "b")
 have wO:CalM l.prog w K mg base "Row" C 2 ["self","stretches"] (Wk C K):=⟨f8,_,⟨mk,a8,i8,kc⟩,JcR F8 wq qC qi qF T,vW,F8.binds (by walk_at "b")⟩
 have wa:=Yg Z F9 (JbJ (C:=C) F9 qD T) (mg_of X G a9) (by walk_at "b")
 have wc:=Yg Z F10 (JbN (C:=C) F10 wO wa) (mg_of X G a10) (by walk_at "b")
 have qQ:=Yg Z F11 (Z3 (C:=C) F11 qt vG wN T) (mg_of X G a11) (by walk_at "b")
 have wB:=Yg Z F12 (JcS (C:=C) F12 qD qQ) (mg_of X G a12) (by walk_at "b")
 have ve:=Yg Z F13 (JgA (C:=C) F13 qG qC qt qi wO wB T) (mg_of X G a13) (by walk_at "b")
 have qR:=Yg Z F14 (Jab (C:=C) F14 qt qv) (mg_of X G a14) (by walk_at "b")
 have vf:=Yg Z F15 (JgB (C:=C) F15 wC wb wP wc ve wO qR) (mg_of X G a15) (by walk_at "b")
 have wY:=Yg Z F16 (Jd3 (C:=C) F16 ql) (mg_of X G a16) (by walk_at "b")
 have qg:=Yg Z F17 (JaE (C:=C) F17 wY) (mg_of X G a17) (by walk_at "b")
 have qX:=Yg Z F18 (JaD (C:=C) F18 qg) (mg_of X G a18) (by walk_at "b")
 have qI:=Yg Z F19 (Wy (C:=C) F19 ql qg qX) (mg_of X G a19) (by walk_at "b")
 have qE:=VN Z F20 (JcT (C:=C) F20 wP qo qg) (mg_of X G a20) (by walk_at "b")
 have we:=VN Z F21 (JcW (C:=C) F21 wP qG vH vf qo qI qg qE qJ wQ) (mg_of X G a21) (by walk_at "b")
 have qS:=VN Z F22 (JbL (C:=C) F22 we qE qo) (mg_of X G a22) (by walk_at "b")
 have qT:=JjA Z F23 (Wx (C:=C) F23 qd qK xG xO iV qu qN qJ qW wR wM wt wn qj qz qY qV wu wp qr qH wS wL) (mg_of X G a23) (by walk_at "b")
 have vN:=Yg Z F23 (Wx (C:=C) F23 qd qK xG xO iV qu qN qJ qW wR wM wt wn qj qz qY qV wu wp qr qH wS wL).ok (mg_of X G a23) (by walk_at "b")
 have wg:=Yg Z F24 (JcV (C:=C) F24 qd qS qT qu xG xO wf qJ qW qr qH qj qz) (mg_of X G a24) (by walk_at "b")
 have wD:=Yg Z F25 (Jd4 (C:=C) F25 qt ql qC) (mg_of X G a25) (by walk_at "b")
 have qM:=Yg Z F26 (Jac (C:=C) F26 qt qC) (mg_of X G a26) (by walk_at "b")
 have qh:=Yg Z F27 (JcU (C:=C) F27 qC) (mg_of X G a27) (by walk_at "b")
 have qZ:=Yg Z F28 (JbM (C:=C) F28 qG ql qh) (mg_of X G a28) (by walk_at "b");exact Jkl (Jns (C:=C) F29 ql qC qd vj wq qt wN wb qo wg wD qM qh qZ) law_true
theorem walk{l:PySem.W.OpenLaw}{q:Program}{loose:List Str}{XP:(Str->Option Value)->Heap->Prop}{YP:World->Heap->Prop}{d:DefRec}{K:Params->Frag}(hn:l.most=some 63)(hdf:d.params.defaults=[])
 (hY:∀(w:World) (h:Heap),YP w h->(K w.params).In h)
 (F:∀(w:World) (mg:Str->Option Value) (fa:Addr) (h:Heap),(K w.params).In h->h.Ns mainGlobals mg->mg d.name=some (.ref fa) ->
  ∃fd:FuncData,(∀(s:Shared) (u:Value),BindsTo s fd ⟨[u],[]⟩ [("script",u)])/\∀base:Heap,(K w.params).In base->base.Ns mainGlobals mg->FnOk l.prog w (K w.params) mg base CX0 9 fa fd ["script"] (JfK (K w.params))) :
 PySem.W.WalkO q loose XP YP l.row.toRowW d [] (fun f vs=>PySem.call f vs) :=
 L2.JlI (n:=63) (k:=9) (x:="script") (CX:=fun _=>CX0) (sp:=fun w=>JfK (K w.params)) hn (by decide) hdf ⟨rfl,by decide,by decide⟩ hY F (fun _ _ a ns hl _ hS=>⟨a,ns,rfl,hS,hl,fun _=>rfl⟩) fun _ _ _ _ _ z=>z
end LK
end
namespace PySem.W.Fast
theorem tw5134978085862644543:True:=⟨⟩
theorem tw9847151335728100631:True:=⟨⟩
theorem tw1180951891908843464:True:=⟨⟩
theorem tw8205104189076584418:True:=⟨⟩
theorem tw10773260588530889362:True:=⟨⟩
theorem tw9317693086348948022:True:=⟨⟩
theorem tw12223642151065362514:True:=⟨⟩
theorem tw6344858432711550070:True:=⟨⟩
theorem tw9841928385619999764:True:=⟨⟩
theorem tw16429989581980244203:True:=⟨⟩
theorem tw948507117419836802:True:=⟨⟩
theorem tw4642132015649614245:True:=⟨⟩
theorem tw7118385699028875531:True:=⟨⟩
theorem tw5712764916953647170:True:=⟨⟩
theorem tw15247773153561456142:True:=⟨⟩
theorem tw13427680938280436691:True:=⟨⟩
theorem tw17643570852370042250:True:=⟨⟩
theorem tw15657344159234643335:True:=⟨⟩
theorem tw6273861554801970345:True:=⟨⟩
theorem tw4691092053186901534:True:=⟨⟩
theorem tw7597001369660795056:True:=⟨⟩
theorem tw13459645863723821959:True:=⟨⟩
theorem tw16715232795179945483:True:=⟨⟩
theorem tw6572754391586200070:True:=⟨⟩
theorem tw13757061590430314177:True:=⟨⟩
theorem tw5376908455666622925:True:=⟨⟩
theorem tw3431770294321372606:True:=⟨⟩
theorem tw14919650666899674722:True:=⟨⟩
theorem tw16923858318274968854:True:=⟨⟩
theorem tw3758190023306888372:True:=⟨⟩
theorem tw6838273284627241635:True:=⟨⟩
theorem tw418050030840862531:True:=⟨⟩
theorem tw9925217888740265059:True:=⟨⟩
theorem tw1680576380571677853:True:=⟨⟩
theorem tw13402300288755311714:True:=⟨⟩
theorem tw557077030370829372:True:=⟨⟩
theorem tw7521615811554965498:True:=⟨⟩
theorem tw16022338719186780306:True:=⟨⟩
theorem tw9771090432523191009:True:=⟨⟩
theorem tw17449735029815012326:True:=⟨⟩
theorem tw14160535442482906743:True:=⟨⟩
theorem tw10691991200906224300:True:=⟨⟩
theorem tw1612103347686735511:True:=⟨⟩
theorem tw12595210589525053515:True:=⟨⟩
theorem tw15584948690288512763:True:=⟨⟩
theorem tw14075668421537911195:True:=⟨⟩
theorem tw8225168540557090366:True:=⟨⟩
theorem tw14008665367508506590:True:=⟨⟩
theorem tw17634761604231203733:True:=⟨⟩
theorem tw5801419695927470109:True:=⟨⟩
theorem tw5817262585232611961:True:=⟨⟩
theorem tw8281405727767663055:True:=⟨⟩
theorem tw6517389597786314407:True:=⟨⟩
theorem tw15255530546983899751:True:=⟨⟩
theorem tw13832928487630965456:True:=⟨⟩
theorem tw14060140460872573590:True:=⟨⟩
theorem tw12270762064882786509:True:=⟨⟩
theorem tw14869795200644979106:True:=⟨⟩
theorem tw14439112927904605728:True:=⟨⟩
theorem tw17660844380113193728:True:=⟨⟩
theorem tw141420240763943131:True:=⟨⟩
theorem tw13677267803843647037:True:=⟨⟩
theorem tw3395067381779398327:True:=⟨⟩
theorem tw114951046262300757:True:=⟨⟩
theorem tw17959079391331952500:True:=⟨⟩
theorem tw16087776573333751130:True:=⟨⟩
theorem tw17969562840671026740:True:=⟨⟩
theorem tw18104893495887173277:True:=⟨⟩
theorem tw5260706027516621205:True:=⟨⟩
theorem tw2140326524776940124:True:=⟨⟩
theorem tw7109831444317286940:True:=⟨⟩
theorem tw881710980642699990:True:=⟨⟩
theorem tw15226000816173225528:True:=⟨⟩
theorem tw6192791649333699518:True:=⟨⟩
theorem tw11521030379841520284:True:=⟨⟩
theorem tw14447745926518072520:True:=⟨⟩
theorem tw7876110027931799707:True:=⟨⟩
theorem tw6950971853755983628:True:=⟨⟩
theorem tw18048617774233252659:True:=⟨⟩
theorem tw14097173309524188802:True:=⟨⟩
theorem tw467989476247554131:True:=⟨⟩
theorem tw14163874736414158622:True:=⟨⟩
theorem tw5553326872086665551:True:=⟨⟩
theorem tw10154868961633114210:True:=⟨⟩
theorem tw15182934986242940290:True:=⟨⟩
theorem tw4432365318728017542:True:=⟨⟩
theorem tw5326804817754130584:True:=⟨⟩
theorem tw6202100821569120744:True:=⟨⟩
theorem tw646824243047769249:True:=⟨⟩
theorem tw14787838832416777803:True:=⟨⟩
theorem tw6798741674892682256:True:=⟨⟩
theorem tw11332100216877566204:True:=⟨⟩
theorem tw18153330191608077224:True:=⟨⟩
theorem tw9338394638912119015:True:=⟨⟩
theorem tw17424153999407435410:True:=⟨⟩
theorem tw14783641164526660388:True:=⟨⟩
theorem tw10109644176708017526:True:=⟨⟩
theorem tw7848487545779745692:True:=⟨⟩
theorem tw9149727781813085856:True:=⟨⟩
theorem tw2551247141064545113:True:=⟨⟩
theorem tw12645658821910456858:True:=⟨⟩
theorem tw7461246032825849263:True:=⟨⟩
theorem tw12153692654652562411:True:=⟨⟩
theorem tw2152319575451882872:True:=⟨⟩
theorem tw960861080645913250:True:=⟨⟩
theorem tw6981401430539993826:True:=⟨⟩
theorem tw3328801491512322372:True:=⟨⟩
theorem tw10214414635552471918:True:=⟨⟩
theorem tw8627385591700403380:True:=⟨⟩
theorem tw17989476529689310729:True:=⟨⟩
theorem tw14033917951433777699:True:=⟨⟩
theorem tw2083380171848184214:True:=⟨⟩
theorem tw10161922655241254290:True:=⟨⟩
theorem tw10043217638312064211:True:=⟨⟩
theorem tw2635992182101450806:True:=⟨⟩
theorem tw16051574451351185783:True:=⟨⟩
theorem tw16938960940540607130:True:=⟨⟩
theorem tw8228512516198742300:True:=⟨⟩
theorem tw9226538136066957891:True:=⟨⟩
theorem tw14411574800205195119:True:=⟨⟩
theorem tw13790168237210160981:True:=⟨⟩
theorem tw9836447504538196672:True:=⟨⟩
theorem tw16365781375649628019:True:=⟨⟩
theorem tw1981384558167385753:True:=⟨⟩
theorem tw9932814376165790255:True:=⟨⟩
theorem tw4925259769148012206:True:=⟨⟩
theorem tw11505148539643078046:True:=⟨⟩
theorem tw12763403952316941925:True:=⟨⟩
theorem tw4098296613829018792:True:=⟨⟩
theorem tw7467620840310694450:True:=⟨⟩
theorem tw7936466815163367787:True:=⟨⟩
theorem tw2860405593527333123:True:=⟨⟩
theorem tw15789837945452231558:True:=⟨⟩
theorem tw15707643448231636885:True:=⟨⟩
theorem tw5916544063310810220:True:=⟨⟩
theorem tw9973535980615576573:True:=⟨⟩
theorem tw9939837994037958912:True:=⟨⟩
theorem tw1855029617571845864:True:=⟨⟩
end PySem.W.Fast
open PySem PySem.W PyProof.Rows
set_option maxRecDepth 100000 in
set_option maxHeartbeats 0 in
theorem PySem.Challenge.cw_lumprow_k55_rooms_holds : PySem.Challenge.rw_lumprow_k55_rooms.Holds := by
 w_on; o_law; k_head; (case hw => w_witness2)
 k_fill
 refine LK.walk (l := PySem.Challenge.rw_lumprow_k55_rooms) rfl rfl (fun w h Y => PySem.W.kIn_of Y) ?F
 case F =>
  intro w mg fa h KX G hmg; apply LK.all_mk KX G hmg; all_goals first | exact L2.JhF (by k_is) (by k_is) (by k_is) | k_is | k_exc | kit_is | kts_exm
