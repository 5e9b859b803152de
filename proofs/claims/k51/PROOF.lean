import PyProof.Rows.All
import Wide.All
import OpenK.AllK
import Wide.FinOn
import Lean
import PyProof.EqAt
import PyProof.EqKinds
import PyProof.TupleCall
import PySem.Challenge.RW_lumprow_k51_whole_far_lines
open Array renaming length_toList→QE,getElem?_toList→Kb,getElem?_eq_getElem→Kx,toList_push→My,getElem_toList→Rr
open Bool renaming false_ne_true→Qx,and_eq_true→QM,false_or→GZ,false_eq_true→Kf,eq_iff_iff→Km,or_eq_true→Ly,or_false→LZ,or_assoc→L0,true_or→M3,and_eq_false_iff→Ri,and_false→Rn
open False renaming elim→Kl
open Int renaming le_refl→Qw,min_eq_right→Gj,min_eq_left→GR,toNat_natCast→GW,natCast_add→Ka,max_eq_right→Kg,min_le_right→KY,add_mul→KZ,mul_le_mul_of_nonneg_left→K0,le_total→K4,emod_nonneg→K8,max_eq_left→Lz,emod_lt_of_pos→LD,zero_add→LN,mul_le_mul_of_nonneg_right→LY,le_max_left→Mb,add_zero→Mg,fdiv_eq_ediv_of_nonneg→Ml,mul_add→MC,add_assoc→MJ,le_ediv_iff_mul_le→M9,min_le_left→Rb,neg_mul→Rv,max_le→RE,le_min→RF,le_trans→RQ,sub_self→RS,sub_zero→RT,mul_comm→RU
open List renaming mem_cons_of_mem→Qc,map_cons→Qd,mem_cons_self→Qe,mem_cons→Qh,getElem?_eq_some_iff→Qk,length_map→Qm,size_toArray→Qo,length_cons→Qp,getElem?_map→Qq,sum_cons→Qr,replicate→Qt,length_append→Qu,mem_map→Qv,eq_nil_of_length_eq_zero→Qz,map_map→QA,mem_of_getElem?→QC,getElem?_mapIdx→QD,getElem?_append_left→QG,getElem?_append_right→QI,map_append→QL,pairwise_cons→QO,map_congr_left→QQ,foldl_cons→QS,getElem?_eq_getElem→QT,not_mem_nil→QW,nodup_cons→QX,mem_nil_iff→Q0,count_cons→Q2,replicate_succ→Q4,getElem?_set→Q5,mem_iff_getElem→Gh,mem_append→Gk,flatMap_cons→Gm,length_singleton→Go,filter_cons_of_neg→Gq,filter_cons_of_pos→Gr,mem_append_right→Gw,length_replicate→Gx,getD_eq_getElem?_getD→Gz,mem_singleton→GC,any_cons→GG,mem_iff_getElem?→GK,ext_getElem?→GN,length_zip→GQ,append_assoc→GU,pairwise_append→G2,mem_map_of_mem→G7,length_nil→G8,flatten_cons→Kk,map_replicate→Kt,count_pos_iff→Ku,append_nil→Kz,nil_append→KA,length_reverse→KJ,any_eq_true→KL,zipIdx_cons→KM,cons_append→KS,map_nil→K2,mem_replicate→K5,of_mem_zip→K6,find?_cons→K7,reverse_cons→Lc,range→Le,mem_append_left→Lf,getElem?_zipIdx→Li,length_take→Lk,all_eq_true→Ll,ext_getElem→Ln,drop_eq_getElem_cons→Lp,pairwise_iff_getElem→Lq,filterMap_cons→Lr,mem_filter→Lw,sum_append→Lx,count_eq_zero→LC,lookup→LF,nodup_append→LP,pairwise_map→LQ,count_append→LS,getElem?_eq_none→LU,length→L1,forIn_cons→L8,map_id'→Mh,forIn_nil→Mo,length_eraseIdx_of_lt→Mq,getElem?_zip_eq_some→Mr,getElem?_eq_none_iff→Mu,length_range→MB,getElem?_replicate→MK,length_drop→MM,getElem_mem→MO,zip→MQ,pairwise_singleton→MT,pairwise_replicate→MW,mem_flatMap→MX,getElem?_set_self→MY,filter_eq_nil_iff→M8,zip_append→Ra,dropLast_eq_take→Rc,getElem?_zipWith→Re,min?_eq_some_iff→Rg,max?_eq_some_iff→Rh,length_filter_le→Rj,getElem?_set_ne→Rm,length_dropLast→Ro,range'→Rp,range_eq_range'→Rq,reduceReplicate→Rt,count_replicate→Ru
open Nat renaming le_refl→Qn,ne_of_lt→Qy,lt_of_lt_of_le→Q3,lt_irrefl→Q6,ne_of_gt→Ga,le_trans→Gn,lt_succ_self→Gy,zero_le→GJ,lt_trans→GL,lt_succ_of_lt→GM,le_of_lt→GS,lt_of_le_of_lt→G1,ble_eq→KH,lt_or_ge→Lm,add_sub_cancel→LB,le_succ→LG,not_lt→LW,le_add_right→LX,min_self→Mf,lt_trichotomy→Mz,le_of_eq→MZ,zero_add→RP
open Ne renaming symm→QN
open Option renaming bind_some→QP,map_eq_some_iff→Gb,bind_assoc→GY,map_map→Kj,map_some→Ma,isSome_iff_exists→ME,map_eq_none_iff→M7
open Option.some renaming inj→QH
open Prod renaming swap→G4,ext→Kh
open PyProof.Rows renaming slot_tuple_getitem→Gd,callWith_type1→Gg,kmk_tree→Rf
open PyProof.Rows.F renaming plain_set_update_loop→LI,entry_set_update_loop→MU
open PyProof.Rows.IntsAre renaming length→Rs
open PySem renaming wpAny_bind→Qa,wpAny_pure→Qf,wpAny_callSpecial?_slot→QJ,wpAny_field→QR,wpAny_call_entry→QV,wpAny_newObj_type→QZ,wpAny_setField_rec→Gc,wpAny_seqItems→Gf,wpAny_holding→Gs,plainId_quiet→Gv,codeAny_builtin→GE,wpAny_updateSeq→GF,wpAny_attempt→GP,wpAny_setState_of→GX,wpAny_tryCatch→G6,wpAny_letGo→G9,wpAny_rule→Kc,wpAny_isInstance→Ke,wpAny_of_eq→Ki,mem_of_lookup→Kn,wpAny_setField→Ks,wpAny_passesOwn→Ky,wpAny_specialOf→KB,wpAny_truthy_bool→KC,isSubtype_type→KO,wpAny_askSetting→KW,wpAny_Call_Name_kw→K1,wpAny_loadPart'→K9,wpAny_ite_split→La,isSubtype_stop→Lh,codeAny_mono→Lj,wpAny_mono→LA,wpAny_Call_method0_late→LH,wpAny_pyIter_list→LJ,wpAny_typeOf→LM,wpAny_updateSeq_pair→L4,wpAny_execs_nil→L5,evalArgs_none→Mc,wpAny_setEntries_of→Md,wpAny_pyIter_tuple→Mj,wpAny_newTuple→Mp,wpAny_pyIter_slot→Mx,wpAny_onRaise→MG,wpAny_pyIter_zip→MP,Within→RG
open PySem.Around renaming under_plainId→Gi,under→RJ
open PySem.Builtin.Builtins renaming bindParams→Ko
open PySem.Builtin.Int renaming intBits→Ry
open PySem.Builtin.List renaming listExtendWith→GO,listLengthHint→Kp,listTooLong→KG,listSameRef→KI,listItems→M6
open PySem.Builtin.Slice renaming slicePlaces→Kw,sliceAdjust→Lo,sliceApplied→Mm
open PySem.Builtin.SmallTypes renaming ownedTupleIsFree→QK,nextOf→Q7,ownedTupleHandOut→GT
open PySem.Builtin.Tuple renaming tupleExact→KF,tupleItemsOf→Mn
open PySem.Calls renaming callWith_builtin→G5,spliced_cons→Kq,spliced_nil→LL,evalArgs_plain→L3,Name_function_global→Mi
open PySem.Code renaming isFrame→RK
open PySem.F renaming plainAttrs_list→QY,plain_extend_loop→GA,slot_zip_next→GD,slot_list_append→GH,type_list_append→GI,slot_tuple_iterator_next→Kr,args_zip_next_1→KE,plainAttrs_dict→KK,entry_zip_next→KN,plain_min_loop→KP,plain_max_loop→KQ,slot_dict_items→KR,called_set→K3,slot_enumerate_next→Lb,slot_list_extend→Lu,type_list_extend→Lv,slot_dict_get→LT,args_tuple_iterator_next_1→L7,slot_dict_setdefault→L9,entry_tuple_iterator_next→Me,args_dict_items_1→Ms,entry_extend_loop→Mt,args_tuple_add_2→MF,entry_dict_items→MH,entry_tuple_add→ML,args_dict_get_3→MN,args_enumerate_next_1→MR,type_dict_items→MS,plain_list_iadd→MV,slot_tuple_add→M1,entry_dict_get→M4
open PySem.Heap renaming get?_push_of_some→Qg,get?_push_size→Qi,lt_size→Qj,SameBut→QB,get?_update_other→QF,get?_update_self→QU,size_push→Ge,ExtBut→KD,get?_push_ne→Mw
open PySem.Heap.ExtBut renaming push→RV
open PySem.Heap.SameBut renaming update→Gu,refl→RL
open PySem.Obj renaming data_mapFields→GB,isFreed_of_fields→Kv,mapSeq→Lg,cls_mapFields→LO,mapFields→MI
open PySem.Paired renaming length→MD
open PySem.PassesOwn renaming never→Q9
open PySem.PyData renaming canLayAll0→Ld,eqvAll→Ls,eqv→LV,depthAll→L6,depth→M5
open PySem.SetTable renaming below→Q8,grown→KU,laid→Rz,put→RN
open PySem.SetTable.below renaming go→RM
open PySem.SetTable.probe renaming go→MA
open PySem.Shared renaming heap→RW
open PySem.Str renaming ofString→Q1
open PySem.Value renaming isInt_shape→Mv,isInt→Rk
open PySem.W renaming cellsFrom_some→M0,KdlKeysView→Rx,kitx_tuple→RA,callWith_K→RB,specialIn→RH,kitx_dict→RI
open PySem.Walks renaming list→RC
open PySem.pickOrder renaming go→RO
open Sum.inl renaming inj→Rl
set_option Elab.async false
set_option linter.all false
set_option maxRecDepth 100000
set_option maxHeartbeats 4000000
open PySem.W (instObj methodObj Frag lookIn plainGet hasDictIn findIn plainOver takerIn makesIn emptyDict mroIn kitOne kia_one kitx_list keepIn fnOf codeIn nsIn kitAny mg_of mg_none_of)
noncomputable section
namespace L2
open PySem PySem.Spec PyProof.Rows

noncomputable abbrev Key:=Sum Int Str
noncomputable def Zu:Key->Value->Bool
 | .inl k,v=>Rk k v
 | .inr x,v=>Value.isStrOf x v
noncomputable def JqK(w:World):Key->Int
 | .inl k=>hashInt k
 | .inr x=>hashStr w x
theorem J7:∀{k:Key} {v:Value},Zu k v=true->(∃i t,k=Sum.inl i/\v=Value.int i t)\/(∃x t,k=Sum.inr x/\v=Value.str x t)
 | .inl i,v,h=>by obtain⟨t,e⟩:=Mv (k:=i) (v:=v) h;exact .inl ⟨i,t,rfl,e⟩
 | .inr x,v,h=>by obtain⟨t,e⟩:=Value.isStrOf_shape (x:=x) (v:=v) h;exact .inr ⟨x,t,rfl,e⟩
theorem JhJ(i:Int)(t:Tok):Zu (.inl i) (.int i t)=true:=by simp[Zu,Rk]
theorem JhK(x:Str)(t:Tok):Zu (.inr x) (.str x t)=true:=by simp[Zu,Value.isStrOf]
theorem Jn4(a b:Int):decide ((Sum.inl a:Key)=Sum.inl b)=(a == b):=by
 by_cases e:a=b
 ·subst e;simp
 ·have h:¬(Sum.inl a:Key)=Sum.inl b:=fun q=>e (Rl q)
  rw[decide_eq_false h];exact(beq_eq_false_iff_ne.mpr e).symm
theorem Jn7(a b:Str):decide ((Sum.inr a:Key)=Sum.inr b)=decide (a=b):=by
 by_cases e:a=b
 ·subst e;simp
 ·have h:¬(Sum.inr a:Key)=Sum.inr b:=fun q=>e (Sum.inr.inj q)
  rw[decide_eq_false h,decide_eq_false e]
theorem Jn5(a:Int)(b:Str):decide ((Sum.inl a:Key)=Sum.inr b)=false:=decide_eq_false (fun q=>nomatch q)
theorem Jn6(a:Str)(b:Int):decide ((Sum.inr a:Key)=Sum.inl b)=false:=decide_eq_false (fun q=>nomatch q)

noncomputable def JO(prog:Program)(w:World):PySem.KeyKind prog w Key where
 is:=Zu
 hash:=JqK w
 inj:=fun v a b ha hb=>by
  rcases J7 ha with ⟨i,t,rfl,rfl⟩|⟨x,t,rfl,rfl⟩
  ·rcases J7 hb with ⟨j,u,rfl,e⟩|⟨y,u,rfl,e⟩
   ·injection e with e1 _;rw[e1]
   ·exact nomatch e
  ·rcases J7 hb with ⟨j,u,rfl,e⟩|⟨y,u,rfl,e⟩
   ·exact nomatch e
   ·injection e with e1 _;rw[e1]
 byValue:=fun k v h=>by rcases J7 h with ⟨i,t,rfl,rfl⟩|⟨x,t,rfl,rfl⟩ <;> rfl
 pyHash:=fun hv h=>by
  rcases J7 hv with ⟨i,t,rfl,rfl⟩|⟨x,t,rfl,rfl⟩
  ·exact wpAny_pyHash_int h
  ·exact wpAny_pyHash_str h
 eqBool:=fun hu hv h=>by
  rcases J7 hu with ⟨i,t,rfl,rfl⟩|⟨x,t,rfl,rfl⟩
  ·rcases J7 hv with ⟨j,u,rfl,rfl⟩|⟨y,u,rfl,rfl⟩
   ·rw[Jn4] at h;exact wpAny_eqBool_int h
   ·rw[Jn5] at h;exact SeqAt.EqAt.int_str i t y u _ _ _ _ h
  ·rcases J7 hv with ⟨j,u,rfl,rfl⟩|⟨y,u,rfl,rfl⟩
   ·rw[Jn6] at h;exact SeqAt.EqAt.str_int x t j u _ _ _ _ h
   ·rw[Jn7] at h;exact wpAny_eqBool_str h
 «strs»:=fun k x t v h=>by
  rcases J7 h with ⟨i,u,rfl,e⟩|⟨y,u,rfl,e⟩
  ·exact nomatch e
  ·injection e with e1 _
   subst e1;cases v <;> rfl

theorem JdP(prog:Program)(w:World)(i:Int)(t:Tok):(JO prog w).is (.inl i) (.int i t)=true:=JhJ i t
theorem JdQ(prog:Program)(w:World)(x:Str)(t:Tok):(JO prog w).is (.inr x) (.str x t)=true:=JhK x t
end L2

namespace L2
open PySem PySem.Spec PyProof.Rows

inductive V where
 | non|bl (b:Bool)|int (i:Int)|str (x:Str)|byt (b:Array UInt8)|flt (b:UInt64)|ref (a:Addr)|ty (n:String)
 deriving DecidableEq

noncomputable def RelV:V->Value->Prop
 | .non,u=>u=Value.none
 | .bl b,u=>u=Value.bool b
 | .int i,u=>∃t,u=Value.int i t
 | .str x,u=>∃t,u=Value.str x t
 | .byt b,u=>∃t,u=Value.bytes b t
 | .flt b,u=>∃t,u=Value.float b t
 | .ref a,u=>u=Value.ref a
 | .ty n,u=>u=Value.type n

noncomputable abbrev Vals:List V->List Value->Prop:=Paired RelV
theorem Vals.length{xs:List V}{us:List Value}(r:Vals xs us):xs.length=us.length:=MD r
theorem Vals.get:∀{xs:List V} {us:List Value} {i:Nat} {x:V},Vals xs us->xs[i]?=some x->∃u,us[i]?=some u/\RelV x u
 | _,_,_,_,.nil,e=>by simp at e
 | _,_,0,_,.cons r _,e=>by simp at e;subst e;exact⟨_,rfl,r⟩
 | _,_,i+1,x,.cons _ t,e=>by obtain⟨u,h1,h2⟩:=Vals.get (i:=i) (x:=x) t (by simpa using e);exact⟨u,by simpa using h1,h2⟩
theorem Vals.append:∀{xs ys:List V} {us ws:List Value},Vals xs us->Vals ys ws->Vals (xs++ys) (us++ws)
 | _,_,_,_,.nil,s=>s
 | _,_,_,_,.cons r t,s=>.cons r (Vals.append t s)
theorem Vals.take:∀{xs:List V} {us:List Value} (n:Nat),Vals xs us->Vals (xs.take n) (us.take n)
 | _,_,0,_=>.nil
 | _,_,_+1,.nil=>.nil
 | _,_,n+1,.cons r t=>.cons r (Vals.take n t)
theorem Vals.drop:∀{xs:List V} {us:List Value} (n:Nat),Vals xs us->Vals (xs.drop n) (us.drop n)
 | _,_,0,r=>r
 | _,_,_+1,.nil=>.nil
 | _,_,n+1,.cons _ t=>Vals.drop n t
noncomputable def RelO:Option V->Option Value->Prop
 | some v,some u=>RelV v u
 | none,none=>True
 | _,_=>False
noncomputable def KV{κ:Type}:List (κ×V)->List (κ×Value)->Prop:=Paired fun(p:κ×V) (q:κ×Value)=>p.1=q.1/\RelV p.2 q.2

noncomputable def kV:Key->V
 | .inl i=>.int i
 | .inr x=>.str x

inductive HO where
 | lst (xs:List V)
 | tup (xs:List V)
 | dK (kvs:List (Key×V))|dT (kvs:List (List Key×V))
 | set (S:Int->Bool) (n:Nat)
 | ins (C dx:Addr) (fs:List (Str×V))
 | own (x:Addr)
 | xd (fs:List (Str×V))
 | met (f x:Addr)
 | rng (lo hi:Int)
 | frz (o:Obj) (u:HO)
 | tbl (ps:Array Value)
 | ext (φ:Heap->Prop)

noncomputable abbrev Hp:=Addr->Option HO
noncomputable def upd(H:Hp)(a:Addr)(o:HO):Hp:=fun b=>if b=a then some o else H b
theorem Jv{H:Hp}{a:Addr}{o:HO}:upd H a o a=some o:=by unfold upd;rw[if_pos rfl]
theorem Jm{H:Hp}{a b:Addr}{o:HO}(h:b≠a):upd H a o b=H b:=by unfold upd;rw[if_neg h]
theorem Jbz{H:Hp}{a b:Addr}{o u:HO}(h:H a=some o)(h':H b=some u)(d:o≠u):a≠b:=by intro e;subst e;rw[h] at h';exact d (QH h')
theorem Jw{H:Hp}{a b:Addr}{o:HO}(h:H a=some o)(h':H b=none):a≠b:=by intro e;subst e;rw[h] at h';cases h'

section
variable(P:Program)(w:World)
noncomputable def ObjOk(H:Hp)(h:Heap)(a:Addr):HO->Prop
 | .lst xs=>xs.length<=sizeLine/\∃(its:List Value) (n:Nat),Vals xs its/\h.get? a=some { cls:=.type "list",data:=.seq its.toArray n }
 | .tup xs=>xs.length<=sizeLine/\∃its:List Value,Vals xs its/\IsTup h a its.toArray
 | .dK kvs=>kvs.length<=sizeLine/\(a == sysModules)=false/\∃vs,KV kvs vs/\h.DictOf (JO P w) a vs
 | .dT kvs=>kvs.length<=sizeLine/\(a == sysModules)=false/\∃xs:List (List Key×Addr×Value),
  Paired (fun(p:List Key×V) (q:List Key×Addr×Value)=>p.1=q.1/\H q.2.1=some (.tup (p.1.map kV))/\RelV p.2 q.2.2) kvs xs ∧
  ∃o es ep,h.get? a=some o/\o.ExactDict/\o.data=.dict es ep/\es.toList=xs.map (entryOfKey (tupleKind (JO P w)))/\(xs.map (·.1)).Nodup
 | .set S n=>h.SetOf (intKind P w) a S n
 | .ins C dx fs=>H dx=some (.own a)/\fs.length<=1000/\dx≠a/\h.get? a=some (instObj C dx) ∧
  ∃mA,h.Ns1 dx mA/\(∀f,RelO (fs.lookup f) (mA f))/\RG mA (fs.map (·.1))
 | .own _=>∃o,h.get? a=some o
 | .xd fs=>∃mA,h.Ns1 a mA/\∀f,RelO (fs.lookup f) (mA f)
 | .rng lo hi=>∃t u v,h.get? a=some { cls:=.type "range",data:=.fields #[.int lo t,.int hi u,.int 1 v] }
 | .frz o u=>h.get? a=some o/\ObjOk H h a u
 | .tbl ps=>h.get? a=some { cls:=.none,data:=.fields ps }
 | .met f x=>h.get? a=some (methodObj (.ref f) (.ref x))
 | .ext φ=>φ h/\(∃o,h.get? a=some o)/\∀h1 h2:Heap,φ h1->(∀o,h1.get? a=some o->h2.get? a=some o)->φ h2
noncomputable def HOk(H:Hp)(h:Heap):Prop:=∀a o,H a=some o->ObjOk P w H h a o
end

section
variable{P:Program}{w:World}{H H':Hp}{h h':Heap}{a:Addr}{o:HO}
theorem ObjOk.lt(x:ObjOk P w H h a o):a<h.objs.size:=by
 cases o with
 | lst xs=>obtain⟨_,_,_,_,e⟩:=x;exact Qj e
 | tup xs=>obtain⟨_,_,_,p⟩:=x;exact p.lt
 | dK kvs=>obtain⟨_,_,_,_,o,_,_,e,_⟩:=x;exact Qj e
 | dT kvs=>obtain⟨_,_,_,_,o,_,_,e,_⟩:=x;exact Qj e
 | set S n=>obtain⟨o,_,_,_,e,_⟩:=x;exact Qj e
 | ins C dx fs=>obtain⟨_,_,_,e,_⟩:=x;exact Qj e
 | own y=>obtain⟨_,e⟩:=x;exact Qj e
 | xd fs=>obtain⟨_,⟨_,_,_,e,_⟩,_⟩:=x;exact Qj e
 | rng lo hi=>obtain⟨_,_,_,e⟩:=x;exact Qj e
 | frz ob u=>obtain⟨e,_⟩:=x;exact Qj e
 | tbl ps=>exact Qj (show h.get? a=some _ from x)
 | met f y=>exact Qj (show h.get? a=some _ from x)
 | ext φ=>obtain⟨_,⟨_,e⟩,_⟩:=x;exact Qj e
theorem Paired.mapP{α β:Type}{F G:α->β->Prop}:∀{l₁:List α} {l₂:List β},Paired F l₁ l₂->(∀a b,F a b->G a b)->Paired G l₁ l₂
 | _,_,.nil,_=>.nil
 | _,_,.cons r t,f=>.cons (f _ _ r) (Paired.mapP t f)
theorem ObjOk.stay(x:ObjOk P w H h a o)(k:∀b u,(b=a\/H b=some (.own a))->h.get? b=some u->h'.get? b=some u)
 (ho:∀b,H b=some (.own a)->H' b=some (.own a)) (ht:∀b xs,H b=some (.tup xs)->H' b=some (.tup xs)):ObjOk P w H' h' a o:=by
 induction o with
 | lst xs=>obtain⟨z,its,n,r,e⟩:=x;exact⟨z,its,n,r,k _ _ (.inl rfl) e⟩
 | tup xs=>obtain⟨z,its,r,ob,e,c⟩:=x;exact⟨z,its,r,ob,k _ _ (.inl rfl) e,c⟩
 | dK kvs=>obtain⟨z,y,vs,r,ob,es,ep,e,c⟩:=x;exact⟨z,y,vs,r,ob,es,ep,k _ _ (.inl rfl) e,c⟩
 | dT kvs=>obtain⟨z,y,xs,r,ob,es,ep,e,c⟩:=x;exact⟨z,y,xs,Paired.mapP r fun p q z=>⟨z.1,ht _ _ z.2.1,z.2.2⟩,ob,es,ep,k _ _ (.inl rfl) e,c⟩
 | set S n=>obtain⟨ob,es,ep,t,e,c⟩:=x;exact⟨ob,es,ep,t,k _ _ (.inl rfl) e,c⟩
 | ins C dx fs=>obtain⟨d,z,ne,e,mA,⟨od,es,ep,e2,c⟩,r⟩:=x;exact⟨ho _ d,z,ne,k _ _ (.inl rfl) e,mA,⟨od,es,ep,k _ _ (.inr d) e2,c⟩,r⟩
 | own y=>obtain⟨ob,e⟩:=x;exact⟨ob,k _ _ (.inl rfl) e⟩
 | xd fs=>obtain⟨mA,⟨od,es,ep,e,c⟩,r⟩:=x;exact⟨mA,⟨od,es,ep,k _ _ (.inl rfl) e,c⟩,r⟩
 | rng lo hi=>obtain⟨t,u,v,e⟩:=x;exact⟨t,u,v,k _ _ (.inl rfl) e⟩
 | frz ob u ih=>obtain⟨e,q⟩:=x;exact⟨k _ _ (.inl rfl) e,ih q⟩
 | tbl ps =>
  have e:h.get? a=some { cls:=.none,data:=.fields ps }:=x
  show h'.get? a=some { cls:=.none,data:=.fields ps };exact k a _ (.inl rfl) e
 | met f y =>
  have e:h.get? a=some (methodObj (.ref f) (.ref y)):=x
  show h'.get? a=some (methodObj (.ref f) (.ref y));exact k a _ (.inl rfl) e
 | ext φ=>obtain⟨p,⟨o,e⟩,st⟩:=x;exact⟨st _ _ p fun o q=>k _ _ (.inl rfl) q,⟨o,k _ _ (.inl rfl) e⟩,st⟩
theorem HOk.lt(x:HOk P w H h)(e:H a=some o):a<h.objs.size:=(x a o e).lt
theorem HOk.fresh(x:HOk P w H h)(e:h.objs.size<=a):H a=none:=by
 cases q:H a with
 | none=>rfl
 | some u=>exact absurd (Q3 (x.lt q) e) (Q6 _)
theorem HOk.kept(x:HOk P w H h)(k:∀b u,h.get? b=some u->h'.get? b=some u):HOk P w H h':=fun a o e=>(x a o e).stay (fun b u _ q=>k b u q) (fun _ q=>q) fun _ _ q=>q
theorem HOk.laid(x:HOk P w H h)(k:∀b u,h.get? b=some u->h'.get? b=some u)(hp:h.objs.size<=a)(new:ObjOk P w (upd H a o) h' a o):HOk P w (upd H a o) h':=fun b u e=>by
 have hn:=x.fresh hp
 by_cases hb:b=a
 ·subst hb;rw[Jv] at e;cases e;exact new
 ·rw[Jm hb] at e;exact(x b u e).stay (fun c v _ q=>k c v q) (fun c q=>by rw[Jm (Jw q hn)];exact q) fun c xs q=>by rw[Jm (Jw q hn)];exact q
end

noncomputable def Rd(H:Hp)(a:Addr)(u:HO):Prop:=H a=some u\/∃o,H a=some (.frz o u)
theorem Rd.ok{P:Program}{w:World}{H:Hp}{h:Heap}{a:Addr}{u:HO}(r:Rd H a u)(x:HOk P w H h):ObjOk P w H h a u:=by
 rcases r with r|⟨o,r⟩
 ·exact x a u r
 ·obtain⟨_,q⟩:=x a _ r;exact q
noncomputable def Mut:Option HO->Prop
 | some (.lst _)=>True
 | some (.dK _)=>True
 | some (.dT _)=>True
 | some (.set _ _)=>True
 | some (.ins _ _ _)=>True
 | some (.ext _)=>True
 | _=>False
section
variable{P:Program}{w:World}{H:Hp}{h h':Heap}{x e:Addr}{o':HO}
theorem HOk.write(ok:HOk P w H h)(mu:Mut (H x))(he:e=x\/H e=some (.own x))(k:∀b u,b≠e->h.get? b=some u->h'.get? b=some u)(heo:∃u,h'.get? e=some u)
 (new:ObjOk P w (upd H x o') h' x o'):HOk P w (upd H x o') h':=fun b u q=>by
 have nown:∀c y,H c=some (.own y)->c≠x:=fun c y r z=>by subst z;rw[r] at mu;exact mu
 have ntup:∀c xs,H c=some (.tup xs)->c≠x:=fun c xs r z=>by subst z;rw[r] at mu;exact mu
 by_cases hb:b=x
 ·subst hb;rw[Jv] at q;cases q;exact new
 ·rw[Jm hb] at q
  by_cases hbe:b=e
  ·have q':H b=some (.own x):=by
    rcases he with z|z
    ·exact absurd (hbe.trans z) hb
    ·rw[hbe];exact z
   rw[q] at q';cases q';obtain⟨v,hv⟩:=heo;exact⟨v,by rw[hbe];exact hv⟩
  ·refine(ok b u q).stay (fun c v hc r=>k c v ?_ r) (fun c r=>by rw[Jm (nown c b r)];exact r) fun c xs r=>by rw[Jm (ntup c xs r)];exact r
   rcases hc with rfl|hc
   ·exact hbe
   ·rintro rfl;rcases he with z|z
    ·exact nown c b hc z
    ·rw[hc] at z;cases z;exact hb rfl
end

structure Un (fs ex:List Addr) (H H':Hp) (h h':Heap):Prop where
 keep:∀b o,h.get? b=some o->H b=none->b∉fs->b∉ex->h'.get? b=some o
 slot:∀b o,h.get? b=some o->H b=none->b∈fs->b∉ex->∃sl,h'.get? b=some { o with slots:=sl }
 free:∀b o,h.get? b=some o->H b=none->b∉ex->H' b=none
 there:∀b o,h.get? b=some o->b∉ex->∃o',h'.get? b=some o'
 tups:∀b xs,H b=some (.tup xs)->H' b=some (.tup xs)
 frzs:∀b o u,H b=some (.frz o u)->H' b=some (.frz o u)
 tbls:∀b ps,H b=some (.tbl ps)->∃more,H' b=some (.tbl (ps++more))
section
variable{fs fs' ex ex':List Addr}{H H1 H2:Hp}{h h1 h2 h':Heap}{a x e:Addr}{o:HO}
theorem Un.any(u:Un fs ex H H1 h h1){b:Addr}{ob:Obj}(q:h.get? b=some ob)(n:H b=none)(hx:b∉ex):∃sl,h1.get? b=some { ob with slots:=sl }:=by
 by_cases hb:b∈fs
 ·exact u.slot b ob q n hb hx
 ·exact⟨ob.slots,u.keep b ob q n hb hx⟩
theorem Un.kept(k:∀b u,h.get? b=some u->h'.get? b=some u):Un fs ex H H h h' :=
 ⟨fun b ob q _ _ _=>k b ob q,fun b ob q _ _ _=>⟨ob.slots,k b ob q⟩,fun _ _ _ n _=>n,fun b ob q _=>⟨ob,k b ob q⟩,fun _ _ q=>q,fun _ _ _ q=>q,fun _ ps q=>⟨#[],by rw[q];simp⟩⟩
theorem Un.refl:Un fs ex H H h h:=Un.kept fun _ _ q=>q
theorem Un.laid(k:∀b u,h.get? b=some u->h'.get? b=some u)(hp:h.objs.size<=a)(hn:H a=none):Un fs ex H (upd H a o) h h' where
 keep:=fun b u q _ _ _=>k b u q
 slot:=fun b u q _ _ _=>⟨u.slots,k b u q⟩
 free:=fun b u q n _=>by rw[Jm (Qy (Q3 (Qj q) hp))];exact n
 there:=fun b u q _=>⟨u,k b u q⟩
 tups:=fun b xs q=>by rw[Jm (Jw q hn)];exact q
 frzs:=fun b u xs q=>by rw[Jm (Jw q hn)];exact q
 tbls:=fun b ps q=>⟨#[],by rw[Jm (Jw q hn),q];simp⟩
theorem Un.write(mu:Mut (H x))(he:e=x\/H e=some (.own x))(k:∀b u,b≠e->h.get? b=some u->h'.get? b=some u)(heo:∃u,h'.get? e=some u):Un fs ex H (upd H x o) h h':=by
 have hx:∀b,H b=none->b≠x:=fun b n z=>by subst z;rw[n] at mu;exact mu
 have hb:∀b,H b=none->b≠e:=fun b n z=>by
  subst z;rcases he with r|r
  ·exact hx b n r
  ·rw[n] at r;cases r
 have hm:∀b u,H b=some u->¬Mut (some u)->b≠x:=fun b u q nm z=>by subst z;rw[q] at mu;exact nm mu
 refine⟨fun b u q n _ _=>k b u (hb b n) q,fun b u q n _ _=>⟨u.slots,k b u (hb b n) q⟩,fun b u q n _=>by rw[Jm (hx b n)];exact n,fun b u q _=>?_,
  fun b xs q=>by rw[Jm (hm b _ q fun z=>z)];exact q,fun b u xs q=>by rw[Jm (hm b _ q fun z=>z)];exact q,fun b ps q=>⟨#[],by rw[Jm (hm b _ q fun z=>z),q];simp⟩⟩
 by_cases hbe:b=e
 ·subst hbe;exact heo
 ·exact⟨u,k b u hbe q⟩
end

noncomputable def trk(h:Heap)(H:Hp):List Addr:=(Le h.objs.size).filter fun a=>(H a).isSome
noncomputable def Jci(h:Heap)(H:Hp):Heap:=PySem.W.hideAll h (trk h H)
theorem JhB(h:Heap)(H:Hp):(Jci h H).objs.size=h.objs.size:=PySem.W.hideAll_size _ _
theorem Jjc{h:Heap}{H:Hp}{b:Addr}{o:Obj}(e:h.get? b=some o)(n:H b=none):(Jci h H).get? b=some o :=
 PySem.W.hideAll_get _ e fun hm=>by have q:(H b).isSome=true:=(Lw.mp hm).2;rw[n] at q;simp at q
theorem JlX{h:Heap}{H:Hp}{b:Addr}{o:Obj}(e:(Jci h H).get? b=some o):h.get? b=some o/\H b=none:=by
 have e':h.get? b=some o:=PySem.W.of_hideAll (trk h H) e;refine⟨e',?_⟩
 cases q:H b with
 | none=>rfl
 | some x =>
  have hm:b∈trk h H:=Lw.mpr ⟨List.mem_range.mpr (Qj e'),by simp[q]⟩
  have z:(Jci h H).get? b=none:=PySem.W.hideAll_none (trk h H) hm;rw[z] at e;cases e

noncomputable def JkW(g h:Heap)(L:Addr):List (Addr×Obj):=(Le h.objs.size).filterMap fun a=>if a=L\/(g.get? a).isSome=true then none else(h.get? a).map fun o=>(a,o)
noncomputable def rest(g h:Heap)(L d:Addr):List (Addr×Obj):=(JkW g h L).filter fun p=>decide (p.1≠d)
end L2

namespace L2
open PySem PySem.Spec PyProof.Rows

structure Mod (K:Frag) (mg:Str->Option Value) (base:Heap):Prop where
 kin:K.In base
 glob:base.Ns mainGlobals mg
 blt:∃mb,base.Ns builtinsNs mb/\∀x:Str,x≠"__name__"->mb x=bootBuiltins x
 nolimit:base.NoLimit

structure Cx where
 prog:Program
 w:World
 K:Frag
 mg:Str->Option Value
 base:Heap
 A:Around
 N:List Str
 s₀:Shared
 H₀:Hp
 env:Env
 outer:List Env
 stack:List Env
 ex:List Addr
 fn:Str->Bool
 calm:Bool
 pn:List (Addr×Obj)
 xe:Value->Shared->Prop
noncomputable def frs(l:List Env):List Addr:=l.filterMap (·.frame)
noncomputable abbrev Cx.fs(X:Cx):List Addr:=frs X.outer

noncomputable def Vis(sc:Scope)(x:Str):Prop:=sc.names.lookup x=some .local\/sc.names.lookup x=some .cell\/sc.names.lookup x=some .free
noncomputable def Loc(sc:Scope)(x:Str):Prop:=sc.names.lookup x=some .local\/sc.names.lookup x=some .cell
noncomputable def JqD(env:Env)(h:Heap)(m:Str->Option Value)(x:Str)(u:Value):Prop :=
 (env.kindOf x=some .local/\m x=some u)\/((env.kindOf x=some .cell\/env.kindOf x=some .free)/\∃c,env.cells.lookup x=some c/\h.IsCell c (some u))

structure Cx.Ok (X:Cx):Prop where
 mod:Mod X.K X.mg X.base
 kind:X.env.scope.kind=.function
 glob:X.env.globals=mainGlobals
 blt:X.env.builtins=builtinsNs
 above:X.s₀.heap.objs.size<=X.env.locals
 inj:∀x y c,X.env.cells.lookup x=some c->X.env.cells.lookup y=some c->x=y
 has:∀x,(X.env.kindOf x=some .cell\/X.env.kindOf x=some .free)->∃c,X.env.cells.lookup x=some c
 cab:∀x c,X.fn x=true->X.env.cells.lookup x=some c->X.s₀.heap.objs.size<=c
 hd:X.calm=true->X.A.handled=none
 frames:X.A.frames=some X.stack
 stk:X.stack=X.outer\/(X.stack=X.env::X.outer/\X.env.frame=some X.env.locals)
 exf:∀b∈X.ex,b≠X.env.locals/\∀x c,X.env.cells.lookup x=some c->c≠b
 bs:∀b o,X.base.get? b=some o->X.s₀.heap.get? b=some o/\X.H₀ b=none
 bsz:X.base.objs.size<=X.s₀.heap.objs.size
 noex:∀b o,X.base.get? b=some o->b∉X.ex
 exfs:∀b∈X.ex,b∉X.fs
 funs:X.s₀.heap.FunFrames X.base X.outer
 frf:∀b∈X.fs,X.H₀ b=none

structure Inv (X:Cx) (pins:List (Addr×Obj)) (σ:List (Option V)) (H:Hp) (s:Shared):Prop where
 ok:X.Ok
 os:s.os=X.s₀.os
 bare:AllBare s.gens
 base:Un X.fs X.ex X.H₀ H X.s₀.heap s.heap
 loc:∃m,s.heap.Ns X.env.locals m/\∀(i:Nat) (x:Str) (v:V),X.N[i]?=some x->σ[i]?=some (some v)->Vis X.env.scope x->∃u,RelV v u/\JqD X.env s.heap m x u
 cell:∀x c,X.env.cells.lookup x=some c->∃v,s.heap.IsCell c v
 free:H X.env.locals=none
 freeC:∀x c,X.env.cells.lookup x=some c->H c=none
 pin:∀p∈X.pn++pins,s.heap.get? p.1=some p.2/\H p.1=none/\p.1≠X.env.locals/\p.1∉X.fs/\∀v,p.2.data≠.cell v
 hok:HOk X.prog X.w H s.heap
 len:σ.length=X.N.length

section
variable{X:Cx}{pins:List (Addr×Obj)}{σ:List (Option V)}{H H':Hp}{s:Shared}{h':Heap}

theorem Cx.Ok.nofr(ok:X.Ok){b:Addr}{o:Obj}(e:X.base.get? b=some o):b∉X.fs:=fun hb=>by have:=(ok.funs.mem hb).1;rw[e] at this;cases this
theorem Inv.bs(I:Inv X pins σ H s):∀b o,X.base.get? b=some o->s.heap.get? b=some o/\H b=none:=fun b o e=>⟨I.base.keep b o (I.ok.bs b o e).1 (I.ok.bs b o e).2 (I.ok.nofr e) (I.ok.noex b o e),I.base.free b o (I.ok.bs b o e).1 (I.ok.bs b o e).2 (I.ok.noex b o e)⟩
theorem Inv.bk(I:Inv X pins σ H s):∀b o,X.base.get? b=some o->s.heap.get? b=some o:=fun b o e=>(I.bs b o e).1
theorem Inv.mod(I:Inv X pins σ H s):Mod X.K X.mg X.base:=I.ok.mod
theorem Inv.kIn(I:Inv X pins σ H s):X.K.In s.heap:=I.ok.mod.kin.keeps I.bk
theorem Inv.nolimit(I:Inv X pins σ H s):s.heap.NoLimit:=I.ok.mod.nolimit.keeps I.bk
theorem Inv.fr(I:Inv X pins σ H s):∃m,Fr X.base X.env.locals s.heap m :=
 let ⟨m,hn,_⟩:=I.loc
 ⟨m,hn,I.bk,Gn I.ok.bsz I.ok.above⟩
theorem Inv.lt(I:Inv X pins σ H s):X.env.locals<s.heap.objs.size:=let ⟨_,hn,_⟩:=I.loc;hn.lt
theorem Inv.sz(I:Inv X pins σ H s):X.s₀.heap.objs.size<=s.heap.objs.size:=Gn I.ok.above (GS I.lt)
theorem Inv.nofs(I:Inv X pins σ H s){a:Addr}(h:s.heap.objs.size<=a):a∉X.fs:=fun hb=>by obtain⟨_,o,ho,_⟩:=I.ok.funs.mem hb;exact absurd (Q3 (Qj ho) (Gn I.sz h)) (Q6 _)
theorem Inv.cne(I:Inv X pins σ H s):∀x c,X.env.cells.lookup x=some c->c≠X.env.locals:=fun x c e z=>by obtain⟨v,o,ho,hd⟩:=I.cell x c e;obtain⟨m,⟨o',es,ep,ho',hd',_⟩,_⟩:=I.loc;rw[z,ho'] at ho;cases ho;rw[hd'] at hd;cases hd
theorem Inv.funs(I:Inv X pins σ H s):s.heap.FunFrames X.base X.outer:=by
 have all:∀(l:List Env),(∀b∈frs l,b∈X.fs)->X.s₀.heap.FunFrames X.base l->s.heap.FunFrames X.base l:=by
  intro l
  induction l with
  | nil=>intro _ _;trivial
  | cons env r ih =>
   intro hs hl;obtain⟨hk,⟨L,o,hf,hn,ho,hd⟩,hr⟩:=hl;have hL:L∈X.fs:=hs L (by unfold frs;rw[Lr,hf];exact Qe);obtain⟨sl,e⟩:=I.base.slot L o ho (I.ok.frf L hL) hL fun z=>I.ok.exfs L z hL
   exact⟨hk,⟨L,_,hf,hn,e,hd⟩,ih (fun b hb=>hs b (by unfold frs;rw[Lr,hf];exact Qc _ hb)) hr⟩
 exact all X.outer (fun _ hb=>hb) I.ok.funs

theorem Inv.stack(I:Inv X pins σ H s):s.heap.FunFrames X.base X.stack:=by
 rcases I.ok.stk with e|⟨e,hf⟩
 ·rw[e];exact I.funs
 ·rw[e];obtain⟨m,hn,_⟩:=I.loc;refine .cons (by rw[I.ok.kind];decide) hf hn ?_ I.funs;exact Heap.get?_none_of_le (Gn I.ok.bsz I.ok.above)
theorem Inv.stkSub(I:Inv X pins σ H s):∀b∈frs X.stack,b∈X.env.locals::X.fs:=fun b hb=>by
 rcases I.ok.stk with e|⟨e,hf⟩
 ·rw[e] at hb;exact Qc _ hb
 ·rw[e] at hb;unfold frs at hb;rw[Lr,hf] at hb;exact hb
theorem Inv.stkFree(I:Inv X pins σ H s):∀b∈frs X.stack,H b=none:=fun b hb=>by
 rcases Qh.mp (I.stkSub b hb) with e|hb
 ·rw[e];exact I.free
 ·obtain⟨_,o,ho,_⟩:=I.ok.funs.mem hb;exact I.base.free b o ho (I.ok.frf b hb) fun z=>I.ok.exfs b z hb

theorem Inv.step{g':Array GenState}{t':Nat}{d':Drawn}{ch:List Addr}(I:Inv X pins σ H s)
 (hch:∀b∈ch,(b∈X.ex\/X.s₀.heap.objs.size<=b)/\b≠X.env.locals/\(∀x c,X.env.cells.lookup x=some c->c≠b)/\∀p∈X.pn++pins,p.1≠b)
 (keep:∀b o,b≠X.env.locals->b∉X.fs->b∉ch->s.heap.get? b=some o->H b=none->h'.get? b=some o)
 (slot:∀b o,b≠X.env.locals->b∈X.fs->b∉ch->s.heap.get? b=some o->H b=none->∃sl,h'.get? b=some { o with slots:=sl }) (free:∀b o,b∉ch->s.heap.get? b=some o->H b=none->H' b=none)
 (there:∀b o,b∉ch->s.heap.get? b=some o->∃o',h'.get? b=some o')
 (tups:∀b xs,H b=some (.tup xs)->H' b=some (.tup xs)) (frzs:∀b o u,H b=some (.frz o u)->H' b=some (.frz o u)) (tbls:∀b ps,H b=some (.tbl ps)->∃more,H' b=some (.tbl (ps++more)))
 (ns:∀m,s.heap.Ns X.env.locals m->h'.Ns X.env.locals m) (hok:HOk X.prog X.w H' h') (hg:AllBare g') :
 Inv X pins σ H' { s with heap:=h',gens:=g',drawn:=d',toks:=t' }:=by
 have neL:∀b o,X.s₀.heap.get? b=some o->b≠X.env.locals:=fun b o e=>Qy (Q3 (Qj e) I.ok.above)
 have neC:∀b o,X.s₀.heap.get? b=some o->b∉X.ex->b∉ch:=fun b o e hx hb=>by
  rcases(hch b hb).1 with z|z
  ·exact hx z
  ·exact absurd (Q3 (Qj e) z) (Q6 _)
 have cellK:∀x c,X.env.cells.lookup x=some c->∀v,s.heap.IsCell c v->h'.IsCell c v:=fun x c e v ⟨o,ho,hd⟩=>by
  have nch:c∉ch:=fun z=>(hch c z).2.2.1 x c e rfl
  by_cases hc:c∈X.fs
  ·obtain⟨sl,q⟩:=slot c o (I.cne x c e) hc nch ho (I.freeC x c e);exact⟨_,q,hd⟩
  ·exact⟨o,keep c o (I.cne x c e) hc nch ho (I.freeC x c e),hd⟩
 refine⟨I.ok,I.os,hg,⟨fun b o e n hb hx=>?_,fun b o e n hb hx=>?_,fun b o e n hx=>?_,fun b o e hx=>?_,fun b xs e=>tups b xs (I.base.tups b xs e),fun b o xs e=>frzs b o xs (I.base.frzs b o xs e),fun b ps e=>?_⟩,?_,fun x c e=>?_,?_,fun x c e=>?_,fun p hp=>?_,hok,I.len⟩
 ·exact keep b o (neL b o e) hb (neC b o e hx) (I.base.keep b o e n hb hx) (I.base.free b o e n hx)
 ·obtain⟨sl,e1⟩:=I.base.slot b o e n hb hx;obtain⟨sl',e2⟩:=slot b _ (neL b o e) hb (neC b o e hx) e1 (I.base.free b o e n hx);exact⟨sl',e2⟩
 ·obtain⟨o',e1⟩:=I.base.there b o e hx;exact free b o' (neC b o e hx) e1 (I.base.free b o e n hx)
 ·obtain⟨o',e1⟩:=I.base.there b o e hx;exact there b o' (neC b o e hx) e1
 ·obtain⟨m1,e1⟩:=I.base.tbls b ps e;obtain⟨m2,e2⟩:=tbls b _ e1;exact⟨m1++m2,by rw[e2,Array.append_assoc]⟩
 ·obtain⟨m,hn,hl⟩:=I.loc;refine⟨m,ns m hn,fun i x v e1 e2 e3=>?_⟩;obtain⟨u,r,l⟩:=hl i x v e1 e2 e3;refine⟨u,r,?_⟩;rcases l with l|⟨k,c,e,z⟩
  ·exact .inl l
  ·exact .inr ⟨k,c,e,cellK x c e _ z⟩
 ·obtain⟨v,z⟩:=I.cell x c e;exact⟨v,cellK x c e v z⟩
 ·obtain⟨m,⟨o,_,_,ho,_⟩,_⟩:=I.loc;exact free _ o (fun z=>(hch _ z).2.1 rfl) ho I.free
 ·obtain⟨v,o,ho,hd⟩:=I.cell x c e;exact free c o (fun z=>(hch c z).2.2.1 x c e rfl) ho (I.freeC x c e)
 ·obtain⟨e,n,ne,nf,d⟩:=I.pin p hp;have nch:p.1∉ch:=fun z=>(hch p.1 z).2.2.2 p hp rfl
  exact⟨keep p.1 p.2 ne nf nch e n,free p.1 p.2 nch e n,ne,nf,d⟩
theorem Inv.un{t':Nat}(I:Inv X pins σ H s)(u:Un X.fs [] H H' s.heap h')(hok:HOk X.prog X.w H' h'):Inv X pins σ H' { s with heap:=h',toks:=t' }:=by
 obtain⟨m,⟨o,es,ep,ho,r⟩,_⟩:=id I.loc;obtain⟨sl,hL⟩:=u.any ho I.free (by simp);exact I.step (g':=s.gens) (d':=s.drawn) (ch:=[]) (fun _ z=>nomatch z) (fun b o _ hb _ e n=>u.keep b o e n hb (by simp)) (fun b o _ hb _ e n=>u.slot b o e n hb (by simp)) (fun b o _ e n=>u.free b o e n (by simp)) (fun b o _ e=>u.there b o e (by simp)) u.tups u.frzs u.tbls (fun m' hm=>by obtain⟨o',es',ep',ho',r'⟩:=hm;rw[ho] at ho';cases ho';exact⟨_,es',ep',hL,r'⟩) hok I.bare
theorem Inv.call{g':Array GenState}{t':Nat}{d':Drawn}{ch:List Addr}(I:Inv X pins σ H s)(u:Un (frs X.stack) ch H H' s.heap h')(hok:HOk X.prog X.w H' h')(hg:AllBare g')
 (hch:∀b∈ch,(b∈X.ex\/X.s₀.heap.objs.size<=b)/\b≠X.env.locals/\(∀x c,X.env.cells.lookup x=some c->c≠b)/\∀p∈X.pn++pins,p.1≠b) :
 Inv X pins σ H' { s with heap:=h',gens:=g',drawn:=d',toks:=t' }:=by
 obtain⟨m,⟨o,es,ep,ho,r⟩,_⟩:=id I.loc;obtain⟨sl,hL⟩:=u.any ho I.free fun z=>(hch _ z).2.1 rfl
 exact I.step (ch:=ch) hch (fun b o hL hb hc e n=>u.keep b o e n (fun z=>(Qh.mp (I.stkSub b z)).elim hL hb) hc) (fun b o _ _ hc e n=>u.any e n hc) (fun b o hc e n=>u.free b o e n hc) (fun b o hc e=>u.there b o e hc) u.tups u.frzs u.tbls (fun m' hm=>by obtain⟨o',es',ep',ho',r'⟩:=hm;rw[ho] at ho';cases ho';exact⟨_,es',ep',hL,r'⟩) hok hg
theorem Inv.turned{t':Nat}{it:Addr}(I:Inv X pins σ H s)(k:∀b o,b≠it->s.heap.get? b=some o->h'.get? b=some o)(hn:H it=none)(hL:it≠X.env.locals)
 (h1:it∈X.ex\/X.s₀.heap.objs.size<=it) (h2:∀x c,X.env.cells.lookup x=some c->c≠it) (h3:∀p∈X.pn++pins,p.1≠it):Inv X pins σ H { s with heap:=h',toks:=t' }:=by
 have nit:∀b u,H b=some u->b≠it:=fun b u e z=>by rw[z,hn] at e;cases e
 refine I.step (g':=s.gens) (d':=s.drawn) (ch:=[it]) (fun b hb=>?_) (fun b o _ _ hc e _=>k b o (fun z=>hc (by simp[z])) e) (fun b o _ _ hc e _=>⟨o.slots,k b o (fun z=>hc (by simp[z])) e⟩) (fun _ _ _ _ n=>n)
  (fun b o hc e=>⟨o,k b o (fun z=>hc (by simp[z])) e⟩) (fun _ _ e=>e) (fun _ _ _ e=>e) (fun b ps e=>⟨#[],by rw[e];simp⟩) (fun m hm=>?_) (fun b u e=>?_) I.bare
 ·have e:b=it:=by simpa using hb
  subst e;exact⟨h1,hL,h2,h3⟩
 ·obtain⟨o,es,ep,ho,r⟩:=hm;exact⟨o,es,ep,k _ o (QN hL) ho,r⟩
 ·refine(I.hok b u e).stay (fun c v hc q=>k c v ?_ q) (fun _ q=>q) fun _ _ q=>q
  rcases hc with z|z
  ·rw[z];exact nit b u e
  ·exact nit c _ z
theorem Inv.tok(I:Inv X pins σ H s)(t:Nat):Inv X pins σ H { s with toks:=t }:=I.un (h':=s.heap) (t':=t) Un.refl I.hok
theorem Inv.kept{t':Nat}(I:Inv X pins σ H s)(k:∀b u,s.heap.get? b=some u->h'.get? b=some u):Inv X pins σ H { s with heap:=h',toks:=t' }:=I.un (Un.kept k) (I.hok.kept k)
theorem Inv.laid{a:Addr}{o:HO}{t':Nat}(I:Inv X pins σ H s)(k:∀b u,s.heap.get? b=some u->h'.get? b=some u)(hp:s.heap.objs.size<=a)(new:ObjOk X.prog X.w (upd H a o) h' a o) :
 Inv X pins σ (upd H a o) { s with heap:=h',toks:=t' }:=I.un (Un.laid k hp (I.hok.fresh hp)) (I.hok.laid k hp new)
theorem Inv.write{x e:Addr}{o:HO}{t':Nat}(I:Inv X pins σ H s)(mu:Mut (H x))(he:e=x\/H e=some (.own x))(k:∀b u,b≠e->s.heap.get? b=some u->h'.get? b=some u)(heo:∃u,h'.get? e=some u)
 (new:ObjOk X.prog X.w (upd H x o) h' x o):Inv X pins σ (upd H x o) { s with heap:=h',toks:=t' }:=I.un (Un.write mu he k heo) (I.hok.write mu he k heo new)
theorem Inv.pins_of{pins':List (Addr×Obj)}(I:Inv X pins σ H s)(h:∀p∈pins',s.heap.get? p.1=some p.2/\H p.1=none/\p.1≠X.env.locals/\p.1∉X.fs/\∀v,p.2.data≠.cell v):Inv X pins' σ H s :=
 ⟨I.ok,I.os,I.bare,I.base,I.loc,I.cell,I.free,I.freeC,fun p hp=>(Gk.mp hp).elim (fun z=>I.pin p (Lf _ z)) (h p),I.hok,I.len⟩

theorem JdS{N:List Str}(hN:N.Nodup){i j:Nat}{x:Str}(a:N[i]?=some x)(b:N[j]?=some x):i=j:=by obtain⟨h1,e1⟩:=Qk.mp a;obtain⟨h2,e2⟩:=Qk.mp b;exact(List.getElem_inj hN).mp (e1.trans e2.symm)

theorem JbJ{M:Model}{A:Around}{E:Value->Shared->Prop}{i:Nat}{x:Str}{v:V}{u:Value}{Q:Unit->Shared->Prop}(I:Inv X pins σ H s)(hN:X.N.Nodup)(hi:X.N[i]?=some x)(hx:Loc X.env.scope x)(r:RelV v u)
 (h:∀s',Inv X pins (σ.set i (some v)) H s'->(∃a,QB a s.heap s'.heap/\(a=X.env.locals\/X.env.cells.lookup x=some a))->Q () s') (hf:X.fn x=true\/X.env.scope.names.lookup x=some .local:=by first|exact .inl rfl|exact .inr rfl|assumption):wpAny M A (storeName X.env x u) Q E s:=by
 obtain⟨m,hn,hl⟩:=id I.loc;have hcls:(X.env.scope.kind == .class || (X.env.scope.kind == .module && X.env.locals != X.env.globals))=false:=by rw[I.ok.kind];rfl
 have hiσ:i<σ.length:=by rw[I.len];exact(Qk.mp hi).1
 have cne:=I.cne
 have tracked:∀{a:Addr} {h':Heap},(∃o,s.heap.get? a=some o/\H a=none)->QB a s.heap h'->HOk X.prog X.w H h':=fun {a h'} ha hs b ob e=>by
  obtain⟨_,_,hfree⟩:=ha;refine(I.hok b ob e).stay (fun c w' hc q=>(hs.2 c ?_).trans q) (fun _ q=>q) fun _ _ q=>q
  rintro rfl;rcases hc with rfl|hc
  ·rw[hfree] at e;cases e
  ·rw[hfree] at hc;cases hc
 rcases hx with hk|hk
 ·refine wpAny_storeName_local hk hn (fun h' hn' hs=>?_) hcls;obtain⟨oL,_,_,hoL,_⟩:=id hn;refine h _ ⟨I.ok,I.os,I.bare,⟨fun b o e n hb hx=>?_,fun b o e n hb hx=>?_,I.base.free,fun b o e hx=>?_,I.base.tups,I.base.frzs,I.base.tbls⟩,⟨_,hn',fun j y v' e1 e2 e3=>?_⟩,fun y c e=>?_,I.free,I.freeC,fun p hp=>?_,tracked ⟨oL,hoL,I.free⟩ hs,by simpa using I.len⟩ ⟨_,hs,.inl rfl⟩
  ·exact(hs.2 b (Qy (Q3 (Qj e) I.ok.above))).trans (I.base.keep b o e n hb hx)
  ·obtain⟨sl,e1⟩:=I.base.slot b o e n hb hx;exact⟨sl,(hs.2 b (Qy (Q3 (Qj e) I.ok.above))).trans e1⟩
  ·obtain⟨o',e1⟩:=I.base.there b o e hx;exact⟨o',(hs.2 b (Qy (Q3 (Qj e) I.ok.above))).trans e1⟩
  ·by_cases hj:j=i
   ·subst hj;rw[hi] at e1;cases e1;rw[MY hiσ] at e2;cases e2;exact⟨u,r,.inl ⟨hk,by simp⟩⟩
   ·rw[Rm (QN hj)] at e2;obtain⟨u',r',q⟩:=hl j y v' e1 e2 e3;refine⟨u',r',?_⟩;rcases q with ⟨k,e⟩|⟨k,c,e,z⟩
    ·refine .inl ⟨k,?_⟩;have:y≠x:=fun e=>hj (JdS hN e1 (e▸hi))
     simp[this,e]
    ·exact .inr ⟨k,c,e,z.sameBut hs (cne y c e)⟩
  ·obtain⟨w',z⟩:=I.cell y c e;exact⟨w',z.sameBut hs (cne y c e)⟩
  ·obtain⟨e,n,ne,nf,d⟩:=I.pin p hp;exact⟨(hs.2 p.1 ne).trans e,n,ne,nf,d⟩
 ·have hfn:X.fn x=true:=by
   rcases hf with z|z
   ·exact z
   ·rw[z] at hk;cases hk
  obtain⟨c,hc⟩:=I.ok.has x (.inl hk);obtain⟨w',z⟩:=I.cell x c hc;refine wpAny_storeName_cell I.ok.kind hk hc z (fun h' hc' hs=>?_);obtain⟨oc,hoc,hocd⟩:=id z;refine h { s with heap:=h' } ⟨I.ok,I.os,I.bare,⟨fun b o e n hb hx=>?_,fun b o e n hb hx=>?_,I.base.free,fun b o e hx=>?_,I.base.tups,I.base.frzs,I.base.tbls⟩,⟨m,hn.sameBut hs (QN (cne x c hc)),fun j y v' e1 e2 e3=>?_⟩,fun y c' e=>?_,I.free,I.freeC,fun p hp=>?_,tracked ⟨oc,hoc,I.freeC x c hc⟩ hs,by simpa using I.len⟩ ⟨c,hs,.inr hc⟩
  ·exact(hs.2 b (Qy (Q3 (Qj e) (I.ok.cab x c hfn hc)))).trans (I.base.keep b o e n hb hx)
  ·obtain⟨sl,e1⟩:=I.base.slot b o e n hb hx;exact⟨sl,(hs.2 b (Qy (Q3 (Qj e) (I.ok.cab x c hfn hc)))).trans e1⟩
  ·obtain⟨o',e1⟩:=I.base.there b o e hx;exact⟨o',(hs.2 b (Qy (Q3 (Qj e) (I.ok.cab x c hfn hc)))).trans e1⟩
  ·by_cases hj:j=i
   ·subst hj;rw[hi] at e1;cases e1;rw[MY hiσ] at e2;cases e2;exact⟨u,r,.inr ⟨.inl hk,c,hc,hc'⟩⟩
   ·rw[Rm (QN hj)] at e2;obtain⟨u',r',q⟩:=hl j y v' e1 e2 e3;refine⟨u',r',?_⟩;rcases q with q|⟨k,c',e,z'⟩
    ·exact .inl q
    ·refine .inr ⟨k,c',e,z'.sameBut hs ?_⟩;rintro rfl;exact hj (JdS hN e1 (I.ok.inj _ _ _ e hc▸hi))
  ·by_cases hcc:c'=c
   ·subst hcc;exact⟨_,hc'⟩
   ·obtain⟨w2,z2⟩:=I.cell y c' e;exact⟨w2,z2.sameBut hs hcc⟩
  ·obtain⟨e,n,ne,nf,d⟩:=I.pin p hp;refine⟨(hs.2 p.1 ?_).trans e,n,ne,nf,d⟩;intro q;rw[q,hoc] at e;have q':oc=p.2:=QH e;exact d w' (by rw[<- q'];exact hocd)
theorem JaK{M:Model}{A:Around}{E:Value->Shared->Prop}{i:Nat}{x:Str}{v:V}{u:Value}{Q:Unit->Shared->Prop}(I:Inv X pins σ H s)(hN:X.N.Nodup)(hi:X.N[i]?=some x)(hx:Loc X.env.scope x)(r:RelV v u)
 (h:∀s',Inv X pins (σ.set i (some v)) H s'->Q () s') (hf:X.fn x=true\/X.env.scope.names.lookup x=some .local:=by first|exact .inl rfl|exact .inr rfl|assumption):wpAny M A (storeName X.env x u) Q E s :=
 JbJ I hN hi hx r (fun s' I' _=>h s' I') hf
theorem Inv.call'{s':Shared}{ch:List Addr}(I:Inv X pins σ H s)(ho:s'.os=s.os)(u:Un (frs X.stack) ch H H' s.heap s'.heap)(hok:HOk X.prog X.w H' s'.heap)(hg:AllBare s'.gens)
 (hch:∀b∈ch,(b∈X.ex\/X.s₀.heap.objs.size<=b)/\b≠X.env.locals/\(∀x c,X.env.cells.lookup x=some c->c≠b)/\∀p∈X.pn++pins,p.1≠b):Inv X pins σ H' s':=by
 obtain⟨h',g',d',t',o'⟩:=s';have e:o'=s.os:=ho;subst e;exact I.call (g':=g') (t':=t') (d':=d') u hok hg hch
end

noncomputable abbrev XK:=Value->Option Addr->Hp->Prop
noncomputable abbrev St:=List (Option V)
noncomputable abbrev VK:=V->Hp->Prop
noncomputable abbrev TE:=St->Hp->VK->Prop
noncomputable abbrev TT:=St->Hp->(Bool->Hp->Prop)->Prop
noncomputable abbrev TA:=St->Hp->(List V->Hp->Prop)->Prop
structure Ends where
 nx:St->Hp->Prop
 rt:VK
 bk:St->Hp->Prop:=fun _ _=>False
 ct:St->Hp->Prop:=fun _ _=>False
noncomputable abbrev TS:=Ends->St->Hp->Prop

noncomputable def EP(X:Cx)(pins:List (Addr×Obj))(σ:St)(Q:VK)(u:Value)(s':Shared):Prop:=∃v H',Inv X pins σ H' s'/\RelV v u/\Q v H'
noncomputable def TP(X:Cx)(pins:List (Addr×Obj))(σ:St)(Q:Bool->Hp->Prop)(b:Bool)(s':Shared):Prop:=∃H',Inv X pins σ H' s'/\Q b H'
noncomputable def AP(X:Cx)(pins:List (Addr×Obj))(σ:St)(Q:List V->Hp->Prop)(us:List Value)(s':Shared):Prop:=∃vs H',Inv X pins σ H' s'/\Vals vs us/\Q vs H'
noncomputable def SP(X:Cx)(pins:List (Addr×Obj))(D:Ends)(f:Flow)(s':Shared):Prop :=
 match f with
 | .next=>∃σ' H',Inv X pins σ' H' s'/\D.nx σ' H'
 | .brk=>∃σ' H',Inv X pins σ' H' s'/\D.bk σ' H'
 | .cont=>∃σ' H',Inv X pins σ' H' s'/\D.ct σ' H'
 | .ret u=>∃v σ' H',Inv X pins σ' H' s'/\RelV v u/\D.rt v H'

noncomputable def PE(X:Cx)(e:Expr)(t:TE):Prop :=
 ∀(pins:List (Addr×Obj)) (s:Shared) (σ:St) (H:Hp) (Q:VK),Inv X pins σ H s->t σ H Q->wpAny (model X.prog X.w) X.A (eval e X.env) (EP X pins σ Q) X.xe s
noncomputable def PT(X:Cx)(e:Expr)(t:TT):Prop :=
 ∀(pins:List (Addr×Obj)) (s:Shared) (σ:St) (H:Hp) (Q:Bool->Hp->Prop),Inv X pins σ H s->t σ H Q->wpAny (model X.prog X.w) X.A (isTrue e X.env (eval e X.env)) (TP X pins σ Q) X.xe s
noncomputable def PW(X:Cx)(e:Expr)(t:TT):Prop :=
 ∀(whole:Sem Value) (pins:List (Addr×Obj)) (s:Shared) (σ:St) (H:Hp) (Q:Bool->Hp->Prop),Inv X pins σ H s->t σ H Q->wpAny (model X.prog X.w) X.A (isTrue e X.env whole) (TP X pins σ Q) X.xe s
theorem PW.pt{X:Cx}{e:Expr}{t:TT}(h:PW X e t):PT X e t:=h _
noncomputable def PA(X:Cx)(es:List Expr)(t:TA):Prop :=
 ∀(pos:Pos) (pins:List (Addr×Obj)) (s:Shared) (σ:St) (H:Hp) (Q:List V->Hp->Prop),Inv X pins σ H s->t σ H Q->wpAny (model X.prog X.w) X.A (spliced (backTo pos (starEach es X.env))) (AP X pins σ Q) X.xe s
noncomputable def PS(X:Cx)(st:Stmt)(t:TS):Prop :=
 ∀(pins:List (Addr×Obj)) (s:Shared) (σ:St) (H:Hp) (D:Ends),Inv X pins σ H s->t D σ H->wpAny (model X.prog X.w) X.A (exec st X.env) (SP X pins D) X.xe s
noncomputable def PSs(X:Cx)(st:List Stmt)(t:TS):Prop :=
 ∀(pins:List (Addr×Obj)) (s:Shared) (σ:St) (H:Hp) (D:Ends),Inv X pins σ H s->t D σ H->wpAny (model X.prog X.w) X.A (execs st X.env) (SP X pins D) X.xe s
theorem thn{α:Type}{t:Sem α}{Q Q':α->Shared->Prop}{M:Model}{A:Around}{E:Value->Shared->Prop}{s:Shared}(h:wpAny M A t Q E s)(hQ:∀a s,Q a s->Q' a s):wpAny M A t Q' E s:=LA h hQ fun _ _ x=>x
end L2

namespace L2
open PySem PySem.Spec PyProof.Rows
section
variable{X:Cx}

noncomputable def Zp(i:Nat):TE:=fun σ H Q=>∃v,σ[i]?=some (some v)/\Q v H
noncomputable def tC(v:V):TE:=fun _ H Q=>Q v H
theorem JoD{i:Nat}{x:Str}{pos:Pos}(hN:X.N[i]?=some x)(hv:Vis X.env.scope x)(hd:(x == ("__debug__":Str))=false:=by decide)(hcd:(x == ("__classdict__":Str))=false:=by decide):PE X (.Name x pos) (Zp i):=by
 intro pins s σ H Q I h;obtain⟨v,e,h⟩:=h;obtain⟨m,hn,hl⟩:=I.loc;obtain⟨u,r,l⟩:=hl i x v hN e hv;have fin:EP X pins σ Q u s:=⟨v,H,I,r,h⟩
 rcases l with ⟨hk,hm⟩|⟨hk,c,hc,hcell⟩
 ·exact wpAny_Name (wpAny_loadName_local I.ok.kind hk hn hm fin) hd
 ·rcases hk with hk|hk
  ·exact wpAny_Name (wpAny_loadName_cell I.ok.kind hk hc hcell fin) hd
  ·exact wpAny_Name (wpAny_loadName_free I.ok.kind hk hc hcell fin hcd) hd
theorem Jj{i j pos}:PE X (.Constant (.int i) j pos) (tC (.int i)):=fun _ _ _ H _ I h=>wpAny_Constant_int ⟨.int i,H,I.tok _,⟨_,rfl⟩,h⟩
theorem U2{b j pos}:PE X (.Constant (.bool b) j pos) (tC (.bl b)):=fun _ _ _ H _ I h=>Constant_bool ⟨.bl b,H,I,rfl,h⟩
theorem U4{j pos}:PE X (.Constant .none j pos) (tC .non):=fun _ _ _ H _ I h=>Constant_none ⟨.non,H,I,rfl,h⟩
noncomputable def Gl(X:Cx)(x:Str):Prop:=X.env.kindOf x=some .globalImplicit
theorem Jcn{E:Value->Shared->Prop}{pins:List (Addr×Obj)}{s:Shared}{σ:St}{H:Hp}{x:Str}{u:Value}{pos:Pos}{Q:Value->Shared->Prop}(I:Inv X pins σ H s)(hg:Gl X x)(hm:X.mg x=some u)(h:Q u s)
 (hd:(x == ("__debug__":Str))=false:=by decide):wpAny (model X.prog X.w) X.A (eval (.Name x pos) X.env) Q E s :=
 Mi I.ok.kind hg (Calls.loadGlobal_global (by rw[I.ok.glob];exact I.mod.glob.keeps I.bk) hm h) hd
theorem U1{E:Value->Shared->Prop}{pins:List (Addr×Obj)}{s:Shared}{σ:St}{H:Hp}{x:Str}{u:Value}{pos:Pos}{Q:Value->Shared->Prop}(I:Inv X pins σ H s)(hg:Gl X x)(hm:X.mg x=none)(hv:bootBuiltins x=some u)(h:Q u s)
 (hn:x≠"__name__":=by decide) (hd:(x == ("__debug__":Str))=false:=by decide):wpAny (model X.prog X.w) X.A (eval (.Name x pos) X.env) Q E s:=by
 obtain⟨mb,h1,h2⟩:=I.mod.blt;exact Mi I.ok.kind hg (Calls.loadGlobal_builtin (by rw[I.ok.glob];exact I.mod.glob.keeps I.bk) hm (by rw[I.ok.blt];exact h1.keeps I.bk) ((h2 x hn).trans hv) h) hd
theorem Jl5{x:Str}{v:V}{u:Value}{pos:Pos}(hg:Gl X x)(hm:X.mg x=some u)(r:RelV v u)(hd:(x == ("__debug__":Str))=false:=by decide):PE X (.Name x pos) (tC v) :=
 fun _ _ _ H _ I h=>Jcn I hg hm ⟨v,H,I,r,h⟩ hd
theorem We{x:Str}{v:V}{u:Value}{pos:Pos}(hg:Gl X x)(hm:X.mg x=none)(hv:bootBuiltins x=some u)(r:RelV v u)(hn:x≠"__name__":=by decide)(hd:(x == ("__debug__":Str))=false:=by decide):PE X (.Name x pos) (tC v) :=
 fun _ _ _ H _ I h=>U1 I hg hm hv ⟨v,H,I,r,h⟩ hn hd

variable{a b:Expr}{ta tb:TE}{pos:Pos}
variable{tA tB':TT}{rest:List Expr}
noncomputable def Jpf(t u:TT):TT:=fun σ H Q=>t σ H fun c H1=>if c=true then u σ H1 Q else Q false H1
noncomputable def tOr(t u:TT):TT:=fun σ H Q=>t σ H fun c H1=>if c=true then Q true H1 else u σ H1 Q
noncomputable def Jqx(t:TT):TT:=fun σ H Q=>t σ H fun c H1=>Q (!c) H1
theorem Wf(ha:PT X a tA):PW X (.BoolOp .And [a] pos) tA:=by
 intro wh pins s σ H Q I h;refine isTrue_and (thn (ha pins s σ H Q I h) fun c s1 e=>?_)
 cases c with
 | true=>exact isTrue_and_nil e
 | false=>exact e
theorem Zo(ha:PT X a tA):PW X (.BoolOp .Or [a] pos) tA:=by
 intro wh pins s σ H Q I h;refine isTrue_or (thn (ha pins s σ H Q I h) fun c s1 e=>?_)
 cases c with
 | false=>exact isTrue_or_nil e
 | true=>exact e
theorem Zn(ha:PT X a tA)(hb:PW X (.BoolOp .And (b::rest) pos) tB'):PW X (.BoolOp .And (a::b::rest) pos) (Jpf tA tB'):=by
 intro wh pins s σ H Q I h;refine isTrue_and (thn (ha pins s σ H _ I h) fun c s1 ⟨H1,I1,q1⟩=>?_)
 cases c with
 | true=>exact hb wh pins s1 σ H1 Q I1 q1
 | false=>exact⟨H1,I1,q1⟩
theorem JbD(ha:PT X a tA)(hb:PW X (.BoolOp .Or (b::rest) pos) tB'):PW X (.BoolOp .Or (a::b::rest) pos) (tOr tA tB'):=by
 intro wh pins s σ H Q I h;refine isTrue_or (thn (ha pins s σ H _ I h) fun c s1 ⟨H1,I1,q1⟩=>?_)
 cases c with
 | true=>exact⟨H1,I1,q1⟩
 | false=>exact hb wh pins s1 σ H1 Q I1 q1
theorem VW(ha:PT X a tA):PT X (.UnaryOp .Not a pos) (Jqx tA):=by intro pins s σ H Q I h;exact isTrue_not (ha pins s σ H (fun c H1=>Q (!c) H1) I h)
noncomputable def tIf(t:TT)(ta tb:TE):TE:=fun σ H Q=>t σ H fun c H1=>if c=true then ta σ H1 Q else tb σ H1 Q
theorem Jd2{c:Expr}(hc:PT X c tA)(ha:PE X a ta)(hb:PE X b tb):PE X (.IfExp c a b pos) (tIf tA ta tb):=by
 intro pins s σ H Q I h;refine wpAny_IfExp (thn (hc pins s σ H _ I h) fun d s1 ⟨H1,I1,q1⟩=>?_)
 cases d with
 | true=>exact ha pins s1 σ H1 Q I1 q1
 | false=>exact hb pins s1 σ H1 Q I1 q1
end
end L2

namespace L2
open PySem PySem.Spec PyProof.Rows

noncomputable def SqL(K:Frag)(H:Hp)(a:Addr)(xs:List V):Prop :=
 Rd H a (.lst xs) ∨
  ∃(o:Obj) (its:Array Value) (n:Nat),K.lookup a=some o/\o.cls=.type "list"/\o.dict=none/\o.data=.seq its n/\its.size<=sizeLine/\Vals xs its.toList
noncomputable def SqT(K:Frag)(H:Hp)(a:Addr)(xs:List V):Prop :=
 Rd H a (.tup xs) ∨
  ∃(o:Obj) (its:Array Value) (n:Nat),K.lookup a=some o/\o.cls=.type "tuple"/\o.data=.seq its n/\its.size<=sizeLine/\Vals xs its.toList
noncomputable def JqG:Value->Option V
 | .none=>some .non
 | .bool b=>some (.bl b)
 | .int i _=>some (.int i)
 | .str x _=>some (.str x)
 | .bytes b _=>some (.byt b)
 | .float b _=>some (.flt b)
 | .ref a=>some (.ref a)
 | .type n=>some (.ty n)
 | _=>none
theorem RelV.abs{x:V}{u:Value}(r:RelV x u):JqG u=some x:=by
 cases x with
 | non=>cases r;rfl
 | bl _=>cases r;rfl
 | int _=>obtain⟨t,rfl⟩:=r;rfl
 | str _=>obtain⟨t,rfl⟩:=r;rfl
 | byt _=>obtain⟨t,rfl⟩:=r;rfl
 | flt _=>obtain⟨t,rfl⟩:=r;rfl
 | ref _=>cases r;rfl
 | ty _=>cases r;rfl
theorem RelV.inj{x y:V}{u:Value}(r:RelV x u)(q:RelV y u):x=y:=QH (r.abs.symm.trans q.abs)
theorem Vals.inj:∀{xs ys:List V} {us:List Value},Vals xs us->Vals ys us->xs=ys
 | _,_,_,.nil,.nil=>rfl
 | _,_,_,.cons r t,.cons r' t'=>by rw[r.inj r',Vals.inj t t']
section
variable{X:Cx}{pins:List (Addr×Obj)}{σ:St}{H:Hp}{s:Shared}{a:Addr}{xs ys:List V}
theorem SqL.of{K:Frag}(h:H a=some (.lst xs)):SqL K H a xs:=.inl (.inl h)
theorem SqT.of{K:Frag}(h:H a=some (.tup xs)):SqT K H a xs:=.inl (.inl h)
theorem Inv.list(I:Inv X pins σ H s)(h:SqL X.K H a xs):∃its:List Value,Vals xs its/\PlainL s.heap a its.toArray/\xs.length<=sizeLine:=by
 rcases h with h|⟨o,its,n,hk,hc,hd,hs,hz,r⟩
 ·obtain⟨z,its,n,r,e⟩:=h.ok I.hok;exact⟨its,r,⟨_,n,e,rfl,rfl,rfl⟩,z⟩
 ·refine⟨its.toList,r,⟨o,n,I.kIn a o hk,hc,hd,by simpa using hs⟩,?_⟩;have e:=r.length;simp only[QE] at e;omega
theorem Inv.tuple(I:Inv X pins σ H s)(h:SqT X.K H a xs):∃its:List Value,Vals xs its/\IsTup s.heap a its.toArray/\xs.length<=sizeLine:=by
 rcases h with h|⟨o,its,n,hk,hc,hs,hz,r⟩
 ·obtain⟨z,its,r,p⟩:=h.ok I.hok;exact⟨its,r,p,z⟩
 ·refine⟨its.toList,r,⟨o,I.kIn a o hk,hc,n,by simpa using hs⟩,?_⟩;have e:=r.length;simp only[QE] at e;omega
theorem Inv.list_inj(I:Inv X pins σ H s)(h:SqL X.K H a xs)(h':SqL X.K H a ys):xs=ys:=by
 obtain⟨its,r,⟨o,n,e,_,_,d⟩,_⟩:=I.list h;obtain⟨its',r',⟨o',n',e',_,_,d'⟩,_⟩:=I.list h';rw[e] at e';cases e';rw[d] at d'
 injection d' with d1 _
 have:its=its':=by simpa using congrArg Array.toList d1
 subst this;exact r.inj r'
theorem Inv.tuple_inj(I:Inv X pins σ H s)(h:SqT X.K H a xs)(h':SqT X.K H a ys):xs=ys:=by
 obtain⟨its,r,⟨o,e,_,n,d⟩,_⟩:=I.tuple h;obtain⟨its',r',⟨o',e',_,n',d'⟩,_⟩:=I.tuple h';rw[e] at e';cases e';rw[d] at d'
 injection d' with d1 _
 have:its=its':=by simpa using congrArg Array.toList d1
 subst this;exact r.inj r'
end

noncomputable abbrev Cx.wish(X:Cx)(E:Value->Shared->Prop):Cx:={ X with xe:=E }
noncomputable abbrev Cx.nox(X:Cx):Cx:=X.wish fun _ _=>False
theorem Cx.Ok.wish{X:Cx}(ok:X.Ok)(E:Value->Shared->Prop):(X.wish E).Ok :=
 ⟨ok.mod,ok.kind,ok.glob,ok.blt,ok.above,ok.inj,ok.has,ok.cab,ok.hd,ok.frames,ok.stk,ok.exf,ok.bs,ok.bsz,ok.noex,ok.exfs,ok.funs,ok.frf⟩
theorem Cx.Ok.unwish{X:Cx}{E:Value->Shared->Prop}(ok:(X.wish E).Ok):X.Ok :=
 ⟨ok.mod,ok.kind,ok.glob,ok.blt,ok.above,ok.inj,ok.has,ok.cab,ok.hd,ok.frames,ok.stk,ok.exf,ok.bs,ok.bsz,ok.noex,ok.exfs,ok.funs,ok.frf⟩
section
variable{X:Cx}{pins:List (Addr×Obj)}{σ:St}{H:Hp}{s:Shared}{E:Value->Shared->Prop}
theorem Inv.wish(I:Inv X pins σ H s)(E:Value->Shared->Prop):Inv (X.wish E) pins σ H s:=⟨I.ok.wish E,I.os,I.bare,I.base,I.loc,I.cell,I.free,I.freeC,I.pin,I.hok,I.len⟩
theorem Inv.unwish(I:Inv (X.wish E) pins σ H s):Inv X pins σ H s:=⟨I.ok.unwish,I.os,I.bare,I.base,I.loc,I.cell,I.free,I.freeC,I.pin,I.hok,I.len⟩
theorem SP.unwish{D:Ends}{f:Flow}{s':Shared}(h:SP (X.wish E) pins D f s'):SP X pins D f s':=by
 cases f with
 | next=>obtain⟨σ',H',I,q⟩:=h;exact⟨σ',H',I.unwish,q⟩
 | brk=>obtain⟨σ',H',I,q⟩:=h;exact⟨σ',H',I.unwish,q⟩
 | cont=>obtain⟨σ',H',I,q⟩:=h;exact⟨σ',H',I.unwish,q⟩
 | ret u=>obtain⟨v,σ',H',I,r,q⟩:=h;exact⟨v,σ',H',I.unwish,r,q⟩
theorem PSs.nox{st:List Stmt}{t:TS}(h:PSs X.nox st t):PSs X st t:=fun pins s σ H D I hw=>LA (h pins s σ H D (I.wish _) hw) (fun _ _ q=>q.unwish) fun _ _ z=>Kl z
end

section
variable{X:Cx}{st:Stmt}{rest:List Stmt}{t u:TS}{e:Expr}{te:TE}{pos:Pos}
noncomputable def Jkq:TS:=fun D σ H=>D.nx σ H
noncomputable def Jpj(t u:TS):TS:=fun D σ H=>t { D with nx:=u D } σ H
theorem JY:PSs X [] Jkq:=fun _ _ σ H _ I h=>L5 ⟨σ,H,I,h⟩
theorem Jf(h1:PS X st t)(h2:PSs X rest u):PSs X (st::rest) (Jpj t u):=by
 intro pins s σ H D I h;refine wpAny_execs_cons (thn (h1 pins s σ H { D with nx:=u D } I h) fun f s1 q=>?_)
 cases f with
 | next=>obtain⟨σ',H',I',q⟩:=q;exact h2 pins s1 σ' H' D I' q
 | ret v=>exact q
 | brk=>exact q
 | cont=>exact q
theorem Jh(h1:PS X st t):PSs X [st] t:=by
 intro pins s σ H D I h;refine wpAny_execs_cons (thn (h1 pins s σ H D I h) fun f s1 q=>?_)
 cases f with
 | next=>exact L5 q
 | ret v=>exact q
 | brk=>exact q
 | cont=>exact q
theorem Inv.quiet{pins:List (Addr×Obj)}{σ:St}{H:Hp}{s:Shared}(I:Inv X pins σ H s):interactive X.env=false:=by simp[interactive,I.ok.kind]
noncomputable def ZB(te:TE):TS:=fun D σ H=>te σ H fun _ H1=>D.nx σ H1
theorem YC(he:PE X e te)(hs:swapsWith e none pos.line X.env=pure false:=by rfl):PS X (.Expr e pos) (ZB te):=by intro pins s σ H D I h;exact wpAny_Expr_any (thn (he pins s σ H _ I h) fun v s1 ⟨x,H1,I1,r1,q1⟩=>⟨σ,H1,I1,q1⟩) I.quiet hs
noncomputable def Jpi(te:TE):TS:=fun D σ H=>te σ H D.rt
theorem JC(he:PE X e te):PS X (.Return (some e) pos) (Jpi te):=by intro pins s σ H D I h;exact wpAny_Return_some (thn (he pins s σ H _ I h) fun v s1 ⟨x,H1,I1,r1,q1⟩=>⟨x,σ,H1,I1,r1,q1⟩)
noncomputable def Jph(c:TT)(t u:TS):TS:=fun D σ H=>c σ H fun b H1=>if b=true then t D σ H1 else u D σ H1
theorem YV{c:Expr}{a b:List Stmt}{tc:TT}(hc:PT X c tc)(ha:PSs X a t)(hb:PSs X b u):PS X (.If c a b pos) (Jph tc t u):=by
 intro pins s σ H D I h;refine wpAny_If (thn (hc pins s σ H _ I h) fun d s1 ⟨H1,I1,q1⟩=>?_)
 cases d with
 | true=>exact ha pins s1 σ H1 D I1 q1
 | false=>exact hb pins s1 σ H1 D I1 q1
noncomputable def Jkp:TS:=fun _ _ _=>False
theorem UJ:PS X st Jkp:=fun _ _ _ _ _ _ h=>h.elim
end

noncomputable abbrev TG:=V->St->Hp->(St->Hp->Prop)->Prop
noncomputable abbrev TGs:=List V->St->Hp->(St->Hp->Prop)->Prop
noncomputable def PG(X:Cx)(target:Expr)(t:TG):Prop :=
 ∀(pins:List (Addr×Obj)) (s:Shared) (σ:St) (H:Hp) (v:V) (u:Value) (Q:St->Hp->Prop),Inv X pins σ H s->RelV v u->t v σ H Q ->
  wpAny (model X.prog X.w) X.A (assign target X.env u) (fun _ s'=>∃σ' H',Inv X pins σ' H' s'/\Q σ' H') X.xe s
noncomputable def PGs(X:Cx)(ts:List Expr)(t:TGs):Prop :=
 ∀(pins:List (Addr×Obj)) (s:Shared) (σ:St) (H:Hp) (vs:List V) (us:List Value) (Q:St->Hp->Prop),Inv X pins σ H s->Vals vs us->t vs σ H Q ->
  wpAny (model X.prog X.w) X.A (assignInOrder ((assignEach ts X.env).map (·.2)) us) (fun _ s'=>∃σ' H',Inv X pins σ' H' s'/\Q σ' H') X.xe s
noncomputable abbrev TIp:=V->V->Hp->VK->Prop
noncomputable def PIp(X:Cx)(op:Operator)(t:TIp):Prop :=
 ∀(pins:List (Addr×Obj)) (s:Shared) (σ:St) (H:Hp) (x y:V) (v u:Value) (Q:VK),Inv X pins σ H s->RelV x v->RelV y u->t x y H Q ->
  wpAny (model X.prog X.w) X.A (inplaceOp op v u) (EP X pins σ Q) X.xe s
section
variable{X:Cx}{pos:Pos}
noncomputable def Wn(i:Nat):TG:=fun v σ H Q=>Q (σ.set i (some v)) H
theorem Jl{i:Nat}{x:Str}(hN:X.N.Nodup)(hi:X.N[i]?=some x)(hx:Loc X.env.scope x)(hf:X.fn x=true\/X.env.scope.names.lookup x=some .local:=by first|exact .inl rfl|exact .inr rfl|assumption):PG X (.Name x pos) (Wn i):=by intro pins s σ H v u Q I r h;exact wpAny_assign_Name (JaK I hN hi hx r (fun s' I'=>⟨_,H,I',h⟩) hf)
noncomputable def Jlu:TGs:=fun vs σ H Q=>vs=[]/\Q σ H
noncomputable def Jgj(t:TG)(u:TGs):TGs:=fun vs σ H Q=>∃v r,vs=v::r/\t v σ H fun σ' H'=>u r σ' H' Q
theorem JK:PGs X [] Jlu:=by intro pins s σ H vs us Q I r h;obtain⟨e,h⟩:=h;subst e;cases r;exact assignInOrder_nil ⟨σ,H,I,h⟩
theorem Ji{e:Expr}{es:List Expr}{t:TG}{u:TGs}(h1:PG X e t)(h2:PGs X es u)
 (hs:(assignEach (e::es) X.env).map (·.2)=assign e X.env::(assignEach es X.env).map (·.2):=by rfl):PGs X (e::es) (Jgj t u):=by
 intro pins s σ H vs us Q I r h;obtain⟨v,vr,e1,h⟩:=h;subst e1
 cases r with
 | cons r rr=>rw[hs];refine assignInOrder_cons (thn (h1 pins s σ H _ _ _ I r h) fun _ s1 ⟨σ1,H1,I1,q1⟩=>?_);exact h2 pins s1 σ1 H1 _ _ Q I1 rr q1
noncomputable def Jhy(K:Frag)(n:Nat)(t:TGs):TG:=fun v σ H Q=>∃a xs,v=.ref a/\SqT K H a xs/\xs.length=n/\t xs σ H Q
theorem JoE{es:List Expr}{k:Nat}{t:TGs}{n:Nat}(hc:X.calm=true)(h:PGs X es t)
 (hn:(assignEach es X.env).length=n:=by rfl) (hst:(assignEach es X.env).findIdx? (·.1)=none:=by rfl):PG X (.Tuple es k pos) (Jhy X.K n t):=by
 intro pins s σ H v u Q I r hw;obtain⟨a,xs,e1,hq,hl,hw⟩:=hw;subst e1;cases r;obtain⟨its,rv,ht,hz⟩:=I.tuple hq;refine assign_Tuple_tuple (I.ok.hd hc) ht (by simp[hn,<- hl,rv.length]) hst fun h' hx=>?_
 have I1:Inv X pins σ H { s with heap:=h' }:=I.kept (t':=s.toks) fun b o e=>hx b o (Qy (Qj e)) e
 exact h pins _ σ H xs _ Q I1 (by simpa using rv) hw
noncomputable def Jif(te:TE)(g:TG):TS:=fun D σ H=>te σ H fun x H1=>g x σ H1 D.nx
theorem Jy{i:Nat}{x:Str}{e:Expr}{te:TE}{pos':Pos}(hN:X.N.Nodup)(hi:X.N[i]?=some x)(hx:Loc X.env.scope x)(he:PE X e te)(hs:swapsWith e (some (.Name x pos')) pos.line X.env=pure false:=by rfl)(hf:X.fn x=true\/X.env.scope.names.lookup x=some .local:=by first|exact .inl rfl|exact .inr rfl|assumption) :
 PS X (.Assign [.Name x pos'] e pos) (Jif te (Wn i)):=by
 intro pins s σ H D I h;refine wpAny_Assign_Name (thn (he pins s σ H _ I h) fun v s1 ⟨y,H1,I1,r1,q1⟩=>?_) hs;exact JaK I1 hN hi hx r1 (fun s2 I2=>⟨_,H1,I2,q1⟩) hf
noncomputable def Jqw(i:Nat)(te:TE)(ti:TIp):TS:=fun D σ H=>∃x,σ[i]?=some (some x)/\te σ H fun y H1=>ti x y H1 fun z H2=>D.nx (σ.set i (some z)) H2
theorem Jfq{i:Nat}{x:Str}{e:Expr}{te:TE}{op:Operator}{ti:TIp}{pos':Pos}(hN:X.N.Nodup)(hi:X.N[i]?=some x)(hx:Loc X.env.scope x)(he:PE X e te)(ho:PIp X op ti)(hf:X.fn x=true\/X.env.scope.names.lookup x=some .local:=by first|exact .inl rfl|exact .inr rfl|assumption) :
 PS X (.AugAssign (.Name x pos') op e pos) (Jqw i te ti):=by
 intro pins s σ H D I h;obtain⟨v,e1,h⟩:=h;obtain⟨m,hn,hl⟩:=I.loc;have vis:Vis X.env.scope x:=by rcases hx with k|k;exact .inl k;exact .inr (.inl k)
 obtain⟨u,r,l⟩:=hl i x v hi e1 vis;refine wpAny_AugAssign_Name ?_
 have go:wpAny (model X.prog X.w) X.A (eval e X.env) (fun w s₂=>wpAny (model X.prog X.w) X.A (inplaceOp op u w) (fun r s₃=>wpAny (model X.prog X.w) X.A (storeName X.env x r) (fun _=>SP X pins D .next) X.xe s₃) X.xe s₂) X.xe s:=by
  refine thn (he pins s σ H _ I h) fun w s1 ⟨y,H1,I1,r1,q1⟩=>?_
  refine thn (ho pins s1 σ H1 v y u w _ I1 r r1 q1) fun z s2 ⟨zv,H2,I2,r2,q2⟩=>?_
  exact JaK I2 hN hi hx r2 (fun s3 I3=>⟨_,H2,I3,q2⟩) hf
 rcases l with ⟨hk,hm⟩|⟨hk,c,hc,hcell⟩
 ·exact wpAny_loadName_local I.ok.kind hk hn hm go
 ·rcases hk with hk|hk
  ·exact wpAny_loadName_cell I.ok.kind hk hc hcell go
  ·rcases hx with k|k
   ·have:X.env.scope.names.lookup x=some .free:=hk;rw[k] at this;cases this
   ·have:X.env.scope.names.lookup x=some .free:=hk;rw[k] at this;cases this
noncomputable def ipI(f:Int->Int->Int):TIp:=fun x y H Q=>∃i j,x=.int i/\y=.int j/\Q (.int (f i j)) H
theorem Jjf:PIp X .Add (ipI fun i j=>i+j):=by intro pins s σ H x y v u Q I r1 r2 h;obtain⟨i,j,e1,e2,q⟩:=h;subst e1;subst e2;obtain⟨t,rfl⟩:=r1;obtain⟨t',rfl⟩:=r2;exact iadd_int ⟨.int _,H,I.tok _,⟨_,rfl⟩,q⟩
theorem JnX:PIp X .Sub (ipI fun i j=>i-j):=by intro pins s σ H x y v u Q I r1 r2 h;obtain⟨i,j,e1,e2,q⟩:=h;subst e1;subst e2;obtain⟨t,rfl⟩:=r1;obtain⟨t',rfl⟩:=r2;exact isub_int ⟨.int _,H,I.tok _,⟨_,rfl⟩,q⟩
end

section
variable{X:Cx}{pos:Pos}
noncomputable def Jkt(c:TT)(tb:TS):TS:=fun D σ H=>∃W:Nat->St->Hp->Prop,(∃m,W m σ H)/\∀m σ H,W m σ H ->
 c σ H fun b H1=>if b=true then ∃N:St->Hp->Prop,(∀σ' H',N σ' H'->∃m',m'<m/\W m' σ' H')/\tb { D with nx:=N,ct:=N,bk:=D.nx } σ H1 else D.nx σ H1
theorem Jd7{c:Expr}{body:List Stmt}{tc:TT}{tb:TS}(hp:PassesOwn (model X.prog X.w) X.A X.env X.xe)(hc:PT X c tc)(hb:PSs X body tb):PS X (.While c body [] pos) (Jkt tc tb):=by
 intro pins s σ H D I h;obtain⟨W,⟨m0,w0⟩,turn⟩:=h;refine wpAny_While (codeAny_whileLoop (fun n s'=>∃σ' H',Inv X pins σ' H' s'/\W n σ' H') ?_ m0 ⟨σ,H,I,w0⟩);rintro n s1 ⟨σ1,H1,I1,w1⟩;refine Ky hp (thn (hc pins s1 σ1 H1 _ I1 (turn n σ1 H1 w1)) fun b s2 ⟨H2,I2,q2⟩=>?_)
 cases b with
 | true =>
  obtain⟨N,hN,q2⟩:=q2;rw[if_pos rfl];refine Ky hp (thn (hb pins s2 σ1 H2 _ I2 q2) fun f s3 q3=>?_)
  cases f with
  | next=>obtain⟨σ3,H3,I3,n3⟩:=q3;obtain⟨m',hm,w3⟩:=hN σ3 H3 n3;exact⟨m',hm,σ3,H3,I3,w3⟩
  | cont=>obtain⟨σ3,H3,I3,n3⟩:=q3;obtain⟨m',hm,w3⟩:=hN σ3 H3 n3;exact⟨m',hm,σ3,H3,I3,w3⟩
  | brk=>exact q3
  | ret v=>exact q3
 | false=>rw[if_neg Qx];exact L5 ⟨σ1,H2,I2,q2⟩
end

structure It where
 go:Nat->Hp->Prop
 yld:Nat->Hp->V->Hp->Prop
 stop:Nat->Hp->Prop
noncomputable def FpOk(X:Cx)(pins:List (Addr×Obj))(H:Hp)(b:Addr):Prop :=
 H b=none/\b≠X.env.locals/\b∉X.fs/\(b∈X.ex\/X.s₀.heap.objs.size<=b)/\(∀x c,X.env.cells.lookup x=some c->c≠b)/\∀p∈X.pn++pins,p.1≠b
theorem Inv.fpOk{X:Cx}{pins:List (Addr×Obj)}{σ:St}{H H':Hp}{s:Shared}{b:Addr}(I:Inv X pins σ H s)(hb:s.heap.objs.size<=b)(hn:H' b=none):FpOk X pins H' b:=by
 refine⟨hn,Ga (Q3 I.lt hb),I.nofs hb,.inr (Gn I.sz hb),fun x c e z=>?_,fun p hp z=>?_⟩
 ·obtain⟨v,q⟩:=I.cell x c e;exact absurd (Q3 q.lt (by rw[z];exact hb)) (Q6 _)
 ·exact absurd (Q3 (Qj (I.pin p hp).1) (by rw[z];exact hb)) (Q6 _)
structure Turn (P:Program) (w:World) (K:Frag) (tg:Expr) (J:It) (fp:List Addr) (it:Addr) (tn:Nat->Heap->Prop):Prop where
 mem:it∈fp
 obj:∀i h,tn i h->∀b∈fp,∃o,h.get? b=some o/\∀v,o.data≠.cell v
 keep:∀i h h',tn i h->(∀b∈fp,∀o,h.get? b=some o->h'.get? b=some o)->tn i h'
 item:∀(X:Cx),X.prog=P->X.w=w->X.K=K->X.calm=true->∀(i:Nat) (pins:List (Addr×Obj)) (s:Shared) (σ:St) (H:Hp) (E:Value->Shared->Prop),Inv X pins σ H s->(∀b∈fp,FpOk X pins H b)->tn i s.heap->J.go i H ->
  wpAny (model P w) X.A (pyNext (.ref it)) (fun r s1=>∃u,r=some u ∧
   wpAny (model P w) X.A (letOwnedTupleGo tg (.ref it) u) (fun _ s2=>∃x H',Inv X pins σ H' s2/\RelV x u/\J.yld i H x H'/\tn (i+1) s2.heap/\∀b∈fp,H' b=none) E s1) E s
 done:∀(X:Cx),X.prog=P->X.w=w->X.K=K->X.calm=true->∀(i:Nat) (pins:List (Addr×Obj)) (s:Shared) (σ:St) (H:Hp) (E:Value->Shared->Prop),Inv X pins σ H s->(∀b∈fp,FpOk X pins H b)->tn i s.heap->J.stop i H ->
  wpAny (model P w) X.A (pyNext (.ref it)) (fun r s1=>r=none/\Inv X pins σ H s1) E s
 self:∀(A:Around) (i:Nat) (s:Shared) (Q:Value->Shared->Prop) (E:Value->Shared->Prop),tn i s.heap->Q (.ref it) s->wpAny (model P w) A (pyIter (.ref it)) Q E s
noncomputable abbrev TI:=St->Hp->(It->Hp->Prop)->Prop
noncomputable def PIE(X:Cx)(pins:List (Addr×Obj))(σ:St)(tg:Expr)(R:It->Hp->Prop)(itv:Value)(s2:Shared):Prop :=
 ∃(it:Addr) (fp:List Addr) (tn:Nat->Heap->Prop) (J:It) (H':Hp),itv=.ref it/\Inv X pins σ H' s2/\Turn X.prog X.w X.K tg J fp it tn/\tn 0 s2.heap/\(∀b∈fp,FpOk X pins H' b)/\R J H'
noncomputable def PI(X:Cx)(tg iter:Expr)(wi:TI):Prop :=
 ∀(pins:List (Addr×Obj)) (s:Shared) (σ:St) (H:Hp) (R:It->Hp->Prop),Inv X pins σ H s->wi σ H R ->
  wpAny (model X.prog X.w) X.A (eval iter X.env) (fun v s1=>wpAny (model X.prog X.w) X.A (pyIter v) (PIE X pins σ tg R) X.xe s1) X.xe s

theorem Jdp{M:Model}{A:Around}{E:Value->Shared->Prop}{s:Shared}{tg:Expr}{it:Addr}{u:Value}{o:Obj}{n:String}{vs:Array Value}{Q:Unit->Shared->Prop}(ho:s.heap.get? it=some o)(hc:o.cls=.type n)(hd:o.data=.fields vs)
 (hn:["enumerate","zip","dict_itemiterator","dict_reverseitemiterator","odict_iterator","itertools.zip_longest","itertools.pairwise"].contains n=false) (hQ:Q () s):wpAny M A (letOwnedTupleGo tg (.ref it) u) Q E s:=by
 unfold letOwnedTupleGo;cases tg <;> first
  | exact Qf hQ
  | (cases u <;> first
   | exact Qf hQ
   | (refine Qa (wpAny_load ho ?_)
      rw[hc,hd];show wpAny M A (if (["enumerate","zip","dict_itemiterator","dict_reverseitemiterator","odict_iterator","itertools.zip_longest","itertools.pairwise"].contains n && vs[0]? == some (rawInt _))=true then _ else _) Q E s;rw[if_neg (by intro h;rw[hn,Bool.false_and] at h;cases h)];exact Qf hQ))

noncomputable def Itl(K:Frag)(a:Addr):It :=
 ⟨fun i H=>∃xs x,SqL K H a xs/\xs[i]?=some x,fun i H x H'=>H'=H/\∀xs,SqL K H a xs->xs[i]?=some x,fun i H=>∃xs,SqL K H a xs/\xs.length<=i⟩
noncomputable def Itt(K:Frag)(a:Addr):It :=
 ⟨fun i H=>∃xs x,SqT K H a xs/\xs[i]?=some x,fun i H x H'=>H'=H/\∀xs,SqT K H a xs->xs[i]?=some x,fun i H=>∃xs,SqT K H a xs/\xs.length<=i⟩
noncomputable def Itr(lo:Int)(n:Nat):It:=⟨fun i _=>i<n,fun i H x H'=>H'=H/\x=.int (lo+i),fun i _=>n<=i⟩
theorem Jii{P:Program}{w:World}{K:Frag}{tg:Expr}(a it:Addr):Turn P w K tg (Itl K a) [it] it (fun i h=>h.IsListIter it a i) where
 mem:=by simp
 obj:=fun i h st b hb=>by
  have e:b=it:=by simpa using hb
  subst e;obtain⟨o,e,c,d⟩:=st;exact⟨o,e,fun v z=>by rw[d] at z;cases z⟩
 keep:=fun i h h' st k=>st.at fun o e=>k it (by simp) o e
 item:=by
  intro X hP hw hK hc i pins s σ H E I hf st hg;subst hP hw hK;obtain⟨xs,x,hq,hx⟩:=hg;obtain⟨its,rv,p,hz⟩:=I.list hq;obtain⟨u,hu,ru⟩:=rv.get hx;obtain⟨f0,f1,f2,f3,f4,f5⟩:=hf it (by simp);refine wpAny_pyNext_list_item st p.isList (x:=u) (by simpa using hu) fun h' st' sb=>?_
  have I1:Inv X pins σ H { s with heap:=h' }:=I.turned (t':=s.toks) (fun b o hb e=>(sb.2 b hb).trans e) f0 f1 f3 f4 f5;obtain⟨o,e,c,d⟩:=id st';exact⟨u,rfl,Jdp (s:={ s with heap:=h' }) e c d (by decide) ⟨x,H,I1,ru,⟨rfl,fun ys hy=>by rw[I.list_inj hy hq];exact hx⟩,st',fun b hb=>(hf b hb).1⟩⟩
 done:=by intro X hP hw hK hc i pins s σ H E I hf st hg;subst hP hw hK;obtain⟨xs,hq,hx⟩:=hg;obtain⟨its,rv,p,hz⟩:=I.list hq;obtain⟨f0,f1,f2,f3,f4,f5⟩:=hf it (by simp);have hl:=rv.length;exact wpAny_pyNext_list_end (I.ok.hd hc) st p.isList (by simp;omega) fun h' eb=>⟨rfl,I.turned (t':=s.toks) (fun b o hb e=>eb b o hb e) f0 f1 f3 f4 f5⟩
 self:=fun _ _ _ _ _ st h=>wpAny_pyIter_listiter st h
theorem JfL{P:Program}{w:World}{K:Frag}{tg:Expr}(a it:Addr):Turn P w K tg (Itt K a) [it] it (fun i h=>h.IsTupleIter it a i) where
 mem:=by simp
 obj:=fun i h st b hb=>by
  have e:b=it:=by simpa using hb
  subst e;obtain⟨o,e,c,d⟩:=st;exact⟨o,e,fun v z=>by rw[d] at z;cases z⟩
 keep:=fun i h h' st k=>st.at fun o e=>k it (by simp) o e
 item:=by
  intro X hP hw hK hc i pins s σ H E I hf st hg;subst hP hw hK;obtain⟨xs,x,hq,hx⟩:=hg;obtain⟨its,rv,p,hz⟩:=I.tuple hq;obtain⟨u,hu,ru⟩:=rv.get hx;obtain⟨f0,f1,f2,f3,f4,f5⟩:=hf it (by simp);refine wpAny_pyNext_tuple_item st (show s.heap.IsTuple a its.toArray from p) (x:=u) (by simpa using hu) fun h' st' sb=>?_
  have I1:Inv X pins σ H { s with heap:=h' }:=I.turned (t':=s.toks) (fun b o hb e=>(sb.2 b hb).trans e) f0 f1 f3 f4 f5;obtain⟨o,e,c,d⟩:=id st';exact⟨u,rfl,Jdp (s:={ s with heap:=h' }) e c d (by decide) ⟨x,H,I1,ru,⟨rfl,fun ys hy=>by rw[I.tuple_inj hy hq];exact hx⟩,st',fun b hb=>(hf b hb).1⟩⟩
 done:=by intro X hP hw hK hc i pins s σ H E I hf st hg;subst hP hw hK;obtain⟨xs,hq,hx⟩:=hg;obtain⟨its,rv,p,hz⟩:=I.tuple hq;obtain⟨f0,f1,f2,f3,f4,f5⟩:=hf it (by simp);have hl:=rv.length;exact wpAny_pyNext_tuple_end (I.ok.hd hc) st (show s.heap.IsTuple a its.toArray from p) (by simp;omega) fun h' eb=>⟨rfl,I.turned (t':=s.toks) (fun b o hb e=>eb b o hb e) f0 f1 f3 f4 f5⟩
 self:=fun _ _ _ _ _ st h=>wpAny_pyIter_tupleiter st h
theorem JfK{P:Program}{w:World}{K:Frag}{tg:Expr}(it:Addr)(lo:Int)(n:Nat):Turn P w K tg (Itr lo n) [it] it (fun i h=>IsRangeIter h it (lo+(i:Nat)*1) ((n:Int)-(i:Nat)) 1) where
 mem:=by simp
 obj:=fun i h st b hb=>by
  have e:b=it:=by simpa using hb
  subst e;exact⟨_,st,fun v z=>by have z':Data.fields _=Data.cell v:=z;cases z'⟩
 keep:=fun i h h' st k=>k it (by simp) _ st
 item:=by
  intro X hP hw hK hc i pins s σ H E I hf st hg;subst hP hw hK;obtain⟨f0,f1,f2,f3,f4,f5⟩:=hf it (by simp);have W:=Walks.range (prog:=X.prog) (w:=X.w) (I.ok.hd hc) it lo 1 n;refine W.item i s _ _ hg st fun v h' tk hv st' kk=>?_
  obtain⟨t,rfl⟩:=hv;have I1:Inv X pins σ H { s with heap:=h',toks:=tk }:=I.turned (fun b o hb e=>kk b o (by simpa using hb) e) f0 f1 f3 f4 f5;refine⟨_,rfl,Jdp (s:={ s with heap:=h',toks:=tk }) (n:="range_iterator") st' rfl rfl (by decide) ⟨.int (lo+i),H,I1,⟨t,?_⟩,⟨rfl,rfl⟩,st',fun b hb=>(hf b hb).1⟩⟩;rw[Int.mul_one]
 done:=by intro X hP hw hK hc i pins s σ H E I hf st hg;subst hP hw hK;obtain⟨f0,f1,f2,f3,f4,f5⟩:=hf it (by simp);exact wpAny_pyNext_range_end (I.ok.hd hc) st (by have:n<=i:=hg;omega) fun h' eb=>⟨rfl,I.turned (t':=s.toks) (fun b o hb e=>eb b o hb e) f0 f1 f3 f4 f5⟩
 self:=fun _ _ _ _ _ st h=>wpAny_pyIter_rangeiter st h
end L2

namespace L2
open PySem PySem.Spec PyProof.Rows
section
variable{X:Cx}{tg:Expr}
noncomputable def Jm8(K:Frag)(tl:TE):TI:=fun σ H R=>tl σ H fun x H1=>∃a,x=.ref a/\(∃xs,SqL K H1 a xs)/\R (Itl K a) H1
noncomputable def JpT(K:Frag)(tl:TE):TI:=fun σ H R=>tl σ H fun x H1=>∃a,x=.ref a/\(∃xs,SqT K H1 a xs)/\R (Itt K a) H1
theorem Jl7{l:Expr}{tl:TE}(hl:PE X l tl):PI X tg l (Jm8 X.K tl):=by
 intro pins s σ H R I h;refine thn (hl pins s σ H _ I h) fun v s1 ⟨x,H1,I1,r1,q1⟩=>?_
 obtain⟨a,e,⟨xs,hq⟩,q⟩:=q1;subst e;cases r1;obtain⟨its,rv,p,hz⟩:=I1.list hq;refine LJ p.isList ?_;refine⟨s1.heap.objs.size,[s1.heap.objs.size],_,_,H1,rfl,I1.kept (t':=s1.toks) fun b o e=>Qg _ e,Jii a _,⟨_,Qi _ rfl,rfl,rfl⟩,fun b hb=>?_,q⟩;have e:b=s1.heap.objs.size:=by simpa using hb
 subst e;exact I1.fpOk (Qn _) (I1.hok.fresh (Qn _))
theorem JoG{l:Expr}{tl:TE}(hl:PE X l tl):PI X tg l (JpT X.K tl):=by
 intro pins s σ H R I h;refine thn (hl pins s σ H _ I h) fun v s1 ⟨x,H1,I1,r1,q1⟩=>?_
 obtain⟨a,e,⟨xs,hq⟩,q⟩:=q1;subst e;cases r1;obtain⟨its,rv,p,hz⟩:=I1.tuple hq;refine Mj (show s1.heap.IsTuple a its.toArray from p) ?_;refine⟨s1.heap.objs.size,[s1.heap.objs.size],_,_,H1,rfl,I1.kept (t':=s1.toks) fun b o e=>Qg _ e,JfL a _,⟨_,Qi _ rfl,rfl,rfl⟩,fun b hb=>?_,q⟩;have e:b=s1.heap.objs.size:=by simpa using hb
 subst e;exact I1.fpOk (Qn _) (I1.hok.fresh (Qn _))
theorem Jd9{pins:List (Addr×Obj)}{σ:St}{H:Hp}{s:Shared}{R:It->Hp->Prop}{E:Value->Shared->Prop}{lo hi:Int}{t u v:Tok}{tk:Nat}(I:Inv X pins σ H s)(h1:-(2 ^ 62)<=lo)(h2:lo<2 ^ 62)(h3:-(2 ^ 62)<=hi)(h4:hi<2 ^ 62)
 (q:R (Itr lo (hi-lo).toNat) H):wpAny (model X.prog X.w) X.A (pyIter (.ref s.heap.objs.size)) (PIE X pins σ tg R) E { s with heap:=s.heap.push { cls:=.type "range",data:=.fields #[.int lo t,.int hi u,.int 1 v] },toks:=tk }:=by
 refine wpAny_pyIter_range (IsRange.new ..) (small_one h1 h2 h3 h4) ?_;have I1:Inv X pins σ H { s with heap:=s.heap.push { cls:=.type "range",data:=.fields #[.int lo t,.int hi u,.int 1 v] },toks:=tk }:=I.kept fun b o e=>Qg _ e
 refine⟨(s.heap.push { cls:=.type "range",data:=.fields #[.int lo t,.int hi u,.int 1 v] }).objs.size,[(s.heap.push { cls:=.type "range",data:=.fields #[.int lo t,.int hi u,.int 1 v] }).objs.size],_,_,H,rfl,
  I1.kept (t':=tk) fun b o e=>Qg _ e,JfK _ lo (hi-lo).toNat,?_,fun b hb=>?_,q⟩
 ·have e1:lo+((0:Nat):Int)*1=lo:=by simp
  have e2:(((hi-lo).toNat:Nat):Int)-((0:Nat):Int)=Builtin.Range.rangeSize lo hi 1:=by rw[rangeSize_one];split <;> omega
  show IsRangeIter _ _ (lo+((0:Nat):Int)*1) ((((hi-lo).toNat:Nat):Int)-((0:Nat):Int)) 1;rw[e1,e2];exact Qi _ rfl
 ·have e:b=(s.heap.push { cls:=.type "range",data:=.fields #[.int lo t,.int hi u,.int 1 v] }).objs.size:=by simpa using hb
  subst e;exact I1.fpOk (Qn _) (I1.hok.fresh (Qn _))
noncomputable def Jm9(ta:TA):TI:=fun σ H R=>ta σ H fun vs H1=>∃j:Int,vs=[.int j]/\-(2 ^ 62)<=j/\j<2 ^ 62/\R (Itr 0 j.toNat) H1
noncomputable def Jna(ta:TA):TI:=fun σ H R=>ta σ H fun vs H1=>∃i j:Int,vs=[.int i,.int j]/\(-(2 ^ 62)<=i/\i<2 ^ 62/\-(2 ^ 62)<=j/\j<2 ^ 62)/\R (Itr i (j-i).toNat) H1
theorem Jh3{a:Expr}{ta:TA}{p pos:Pos}(hg:Gl X "range")(hm:X.mg "range"=none)(ha:PA X [a] ta)(hs:starEach [a] X.env=[(false,eval a X.env)]:=by rfl):PI X tg (.Call (.Name "range" p) [a] [] pos) (Jm9 ta):=by
 intro pins s σ H R I h;refine Call_ (U1 I hg hm boot_range (Gg (thn (ha pos pins s σ H _ I h) fun us s1 ⟨vs,H1,I1,r1,q1⟩=>?_) hs rfl));obtain⟨j,e,q1,q2,q⟩:=q1;subst e
 cases r1 with
 | cons r rr=>cases rr;obtain⟨t,rfl⟩:=r;exact call_range_1 (Jd9 I1 (by omega) (by omega) q1 q2 (by simpa using q))
theorem Jh4{a b:Expr}{ta:TA}{p pos:Pos}(hg:Gl X "range")(hm:X.mg "range"=none)(ha:PA X [a,b] ta)(hs:starEach [a,b] X.env=[(false,eval a X.env),(false,eval b X.env)]:=by rfl)(hs2:starEach [b] X.env=[(false,eval b X.env)]:=by rfl) :
 PI X tg (.Call (.Name "range" p) [a,b] [] pos) (Jna ta):=by
 intro pins s σ H R I h;refine Call_ (U1 I hg hm boot_range (Gg (thn (ha pos pins s σ H _ I h) fun us s1 ⟨vs,H1,I1,r1,q1⟩=>?_) (by rw[hs,hs2]) (by rw[hs2];rfl)));obtain⟨i,j,e,⟨q1,q2,q3,q4⟩,q⟩:=q1;subst e
 cases r1 with
 | cons r rr =>
  cases rr with
  | cons r' rr=>cases rr;obtain⟨t,rfl⟩:=r;obtain⟨t',rfl⟩:=r';exact call_range_2 (Jd9 I1 q1 q2 q3 q4 q)

noncomputable def JmM(wi:TI)(g:TG)(tb:TS):TS:=fun D σ H=>wi σ H fun J H1=>∃W:Nat->Nat->St->Hp->Prop,(∃m,W 0 m σ H1)/\∀i m σ H,W i m σ H ->
 (J.stop i H/\D.nx σ H)\/(J.go i H/\∃N:St->Hp->Prop,(∀σ' H',N σ' H'->∃m',m'<m/\W (i+1) m' σ' H')/\∀x H',J.yld i H x H'->g x σ H' fun σ2 H2=>tb { D with nx:=N,ct:=N,bk:=D.nx } σ2 H2)
noncomputable def JaC(fp:List Addr)(h:Heap):List (Addr×Obj):=fp.filterMap fun b=>(h.get? b).map fun o=>(b,o)
theorem Wx{fp:List Addr}{h:Heap}{b:Addr}{o:Obj}(hb:b∈fp)(e:h.get? b=some o):(b,o)∈JaC fp h:=List.mem_filterMap.mpr ⟨b,hb,by rw[e];rfl⟩
theorem JhZ{fp:List Addr}{h:Heap}{p:Addr×Obj}(hp:p∈JaC fp h):p.1∈fp/\h.get? p.1=some p.2:=by
 obtain⟨b,hb,e⟩:=List.mem_filterMap.mp hp
 cases q:h.get? b with
 | none=>rw[q] at e;cases e
 | some o=>rw[q] at e;have e':(b,o)=p:=QH e;subst e';exact⟨hb,q⟩
theorem Inv.pinned{pins:List (Addr×Obj)}{σ:St}{H:Hp}{s:Shared}{fp:List Addr}(I:Inv X pins σ H s)(hf:∀b∈fp,FpOk X pins H b)(ho:∀b∈fp,∃o,s.heap.get? b=some o/\∀v,o.data≠.cell v):Inv X (pins++JaC fp s.heap) σ H s :=
 I.pins_of fun p hp=>(Gk.mp hp).elim (fun z=>I.pin p (Gw _ z)) fun z=>by obtain⟨hb,e⟩:=JhZ z;obtain⟨f0,f1,f2,_⟩:=hf p.1 hb;obtain⟨o,e',d⟩:=ho p.1 hb;rw[e] at e';cases e';exact⟨e,f0,f1,f2,d⟩
theorem Inv.unpinned{pins pl:List (Addr×Obj)}{σ:St}{H:Hp}{s:Shared}(I:Inv X (pins++pl) σ H s):Inv X pins σ H s:=I.pins_of fun p hp=>I.pin p (Gw _ (Lf _ hp))
theorem Y4{iter:Expr}{body:List Stmt}{wi:TI}{g:TG}{tb:TS}{pos:Pos}(hp:PassesOwn (model X.prog X.w) X.A X.env X.xe)(hc:X.calm=true)(hi:PI X tg iter wi)(hg:PG X tg g)(hb:PSs X body tb)
 (hs:∀x,foldedSetIterable iter X.env x=pure x:=by intro _;rfl):PS X (.For tg iter body [] pos) (JmM wi g tb):=by
 intro pins s σ H D I h;refine wpAny_For (thn (hi pins s σ H _ I h) fun v s1 h1=>thn h1 fun itv s2 h2=>?_) hs;obtain⟨it,fp,tn,J,H2,e,I2,T,st2,f2,W,⟨m0,w0⟩,turn⟩:=h2;subst e
 -- what stays true of the iterator's objects through the loop
 have stat:∀{H':Hp},(∀b∈fp,H' b=none)->∀b∈fp,FpOk X pins H' b:=fun hn b hb=>⟨hn b hb,(f2 b hb).2⟩
 refine codeAny_forLoop_any (fun n s'=>∃i σ' H',Inv X pins σ' H' s'/\tn i s'.heap/\(∀b∈fp,H' b=none)/\W i n σ' H') ?_ m0 ⟨0,σ,H2,I2,st2,fun b hb=>(f2 b hb).1,w0⟩;rintro n s3 ⟨i,σ3,H3,I3,st3,fr3,w3⟩;rcases turn i n σ3 H3 w3 with ⟨stop,qn⟩|⟨go,N,hN,step⟩
 ·refine Ky hp (thn (T.done X rfl rfl rfl hc i pins s3 σ3 H3 X.xe I3 (stat fr3) st3 stop) fun r s4 ⟨hr,I4⟩=>?_);subst hr;exact L5 ⟨σ3,H3,I4,qn⟩
 ·refine Ky hp (thn (T.item X rfl rfl rfl hc i pins s3 σ3 H3 X.xe I3 (stat fr3) st3 go) fun r s4 ⟨u,hr,h4⟩=>?_);subst hr;refine Ky hp (thn h4 fun _ s5 ⟨x,H5,I5,r5,y5,st5,fr5⟩=>?_);have I5':=I5.pinned (stat fr5) (T.obj _ _ st5);refine Ky hp (thn (hg _ s5 σ3 H5 x u _ I5' r5 (step x H5 y5)) fun _ s6 ⟨σ6,H6,I6,q6⟩=>?_);refine Ky hp (thn (hb _ s6 σ6 H6 _ I6 q6) fun f s7 q7=>?_)
  have again:∀{σ7:St} {H7:Hp},Inv X (pins++JaC fp s5.heap) σ7 H7 s7->N σ7 H7->∃m,m<n/\∃i σ' H',Inv X pins σ' H' s7/\tn i s7.heap/\(∀b∈fp,H' b=none)/\W i m σ' H':=fun {σ7 H7} I7 n7=>by obtain⟨m',hm,w7⟩:=hN σ7 H7 n7;refine⟨m',hm,i+1,σ7,H7,I7.unpinned,T.keep _ _ _ st5 fun b hb o e=>(I7.pin (b,o) (Gw _ (Gw _ (Wx hb e)))).1,fun b hb=>?_,w7⟩;obtain⟨o,e,d⟩:=T.obj _ _ st5 b hb;exact(I7.pin (b,o) (Gw _ (Gw _ (Wx hb e)))).2.1
  cases f with
  | next=>obtain⟨σ7,H7,I7,n7⟩:=q7;exact again I7 n7
  | cont=>obtain⟨σ7,H7,I7,n7⟩:=q7;exact again I7 n7
  | brk=>obtain⟨σ7,H7,I7,q7⟩:=q7;exact⟨σ7,H7,I7.unpinned,q7⟩
  | ret v=>obtain⟨x7,σ7,H7,I7,r7,q7⟩:=q7;exact⟨x7,σ7,H7,I7.unpinned,r7,q7⟩
end

theorem Ji5{K:Frag}{a:Addr}{xs:List V}{g:TG}{tb:TS}{D:Ends}{σ:St}{H:Hp}(Pv:Nat->St->Hp->Prop)(h0:Pv 0 σ H)(hl:∀i σ H,i<=xs.length->Pv i σ H->SqL K H a xs)
 (hs:∀i x σ H,xs[i]?=some x->Pv i σ H->g x σ H fun σ2 H2=>tb { D with nx:=Pv (i+1),ct:=Pv (i+1),bk:=D.nx } σ2 H2) (hd:∀σ H,Pv xs.length σ H->D.nx σ H) :
 ∃W:Nat->Nat->St->Hp->Prop,(∃m,W 0 m σ H)/\∀i m σ H,W i m σ H ->
  ((Itl K a).stop i H/\D.nx σ H)\/((Itl K a).go i H/\∃N:St->Hp->Prop,(∀σ' H',N σ' H'->∃m',m'<m/\W (i+1) m' σ' H')/\∀x H',(Itl K a).yld i H x H'->g x σ H' fun σ2 H2=>tb { D with nx:=N,ct:=N,bk:=D.nx } σ2 H2):=by
 refine⟨fun i m σ H=>m=xs.length-i/\i<=xs.length/\Pv i σ H,⟨xs.length,by simp,GJ _,h0⟩,?_⟩;rintro i m σ H ⟨rfl,hi,p⟩;have q:=hl i σ H hi p
 by_cases hlt:i<xs.length
 ·refine .inr ⟨⟨xs,xs[i],q,by simp[hlt]⟩,Pv (i+1),fun σ' H' p'=>⟨xs.length-(i+1),by omega,rfl,hlt,p'⟩,fun x H' y=>?_⟩;obtain⟨e,y⟩:=y;subst e;exact hs i x σ _ (y xs q) p
 ·have e:i=xs.length:=by omega
  subst e;exact .inl ⟨⟨xs,q,Qn _⟩,hd σ H p⟩
theorem Jlt{K:Frag}{a:Addr}{xs:List V}{g:TG}{tb:TS}{D:Ends}{σ:St}{H:Hp}(Pv:Nat->St->Hp->Prop)(h0:Pv 0 σ H)(hl:∀i σ H,i<=xs.length->Pv i σ H->SqT K H a xs)
 (hs:∀i x σ H,xs[i]?=some x->Pv i σ H->g x σ H fun σ2 H2=>tb { D with nx:=Pv (i+1),ct:=Pv (i+1),bk:=D.nx } σ2 H2) (hd:∀σ H,Pv xs.length σ H->D.nx σ H) :
 ∃W:Nat->Nat->St->Hp->Prop,(∃m,W 0 m σ H)/\∀i m σ H,W i m σ H ->
  ((Itt K a).stop i H/\D.nx σ H)\/((Itt K a).go i H/\∃N:St->Hp->Prop,(∀σ' H',N σ' H'->∃m',m'<m/\W (i+1) m' σ' H')/\∀x H',(Itt K a).yld i H x H'->g x σ H' fun σ2 H2=>tb { D with nx:=N,ct:=N,bk:=D.nx } σ2 H2):=by
 refine⟨fun i m σ H=>m=xs.length-i/\i<=xs.length/\Pv i σ H,⟨xs.length,by simp,GJ _,h0⟩,?_⟩;rintro i m σ H ⟨rfl,hi,p⟩;have q:=hl i σ H hi p
 by_cases hlt:i<xs.length
 ·refine .inr ⟨⟨xs,xs[i],q,by simp[hlt]⟩,Pv (i+1),fun σ' H' p'=>⟨xs.length-(i+1),by omega,rfl,hlt,p'⟩,fun x H' y=>?_⟩;obtain⟨e,y⟩:=y;subst e;exact hs i x σ _ (y xs q) p
 ·have e:i=xs.length:=by omega
  subst e;exact .inl ⟨⟨xs,q,Qn _⟩,hd σ H p⟩
end L2

namespace L2
open PySem PySem.Spec PyProof.Rows

noncomputable abbrev R2:=V->V->Hp->VK->Prop
noncomputable def OpR(X:Cx)(f:Value->Value->Sem Value)(r:R2):Prop :=
 ∀(pins:List (Addr×Obj)) (s:Shared) (σ:St) (H:Hp) (x y:V) (v u:Value) (Q:VK),Inv X pins σ H s->RelV x v->RelV y u->r x y H Q ->
  wpAny (model X.prog X.w) X.A (f v u) (EP X pins σ Q) X.xe s
noncomputable def UnR(X:Cx)(f:Value->Sem Value)(r:V->Hp->VK->Prop):Prop :=
 ∀(pins:List (Addr×Obj)) (s:Shared) (σ:St) (H:Hp) (x:V) (v:Value) (Q:VK),Inv X pins σ H s->RelV x v->r x H Q ->
  wpAny (model X.prog X.w) X.A (f v) (EP X pins σ Q) X.xe s
noncomputable def YR(X:Cx)(f:Value)(r:List V->Hp->VK->Prop):Prop :=
 ∀(pins:List (Addr×Obj)) (s:Shared) (σ:St) (H:Hp) (xs:List V) (us:List Value) (Q:VK),Inv X pins σ H s->Vals xs us->r xs H Q ->
  wpAny (model X.prog X.w) X.A (call f us) (EP X pins σ Q) X.xe s
noncomputable def JqF(X:Cx)(r:V->Hp->(Bool->Hp->Prop)->Prop):Prop :=
 ∀(pins:List (Addr×Obj)) (s:Shared) (σ:St) (H:Hp) (x:V) (v:Value) (Q:Bool->Hp->Prop),Inv X pins σ H s->RelV x v->r x H Q ->
  wpAny (model X.prog X.w) X.A (truthy v) (TP X pins σ Q) X.xe s

noncomputable def tOp(r:R2)(ta tb:TE):TE:=fun σ H Q=>ta σ H fun x H1=>tb σ H1 fun y H2=>r x y H2 Q
noncomputable def tUn(r:V->Hp->VK->Prop)(ta:TE):TE:=fun σ H Q=>ta σ H fun x H1=>r x H1 Q
noncomputable def rI(C:Int->Int->Prop)(g:Int->Int->V):R2:=fun x y H Q=>∃i j,x=.int i/\y=.int j/\C i j/\Q (g i j) H
noncomputable def rI0(g:Int->Int->V):R2:=fun x y H Q=>∃i j,x=.int i/\y=.int j/\Q (g i j) H
noncomputable def rU(g:Int->V):V->Hp->VK->Prop:=fun x H Q=>∃i,x=.int i/\Q (g i) H

section
variable{X:Cx}{a b c:Expr}{ta tb tc:TE}{pos:Pos}

theorem Jny(ha:PE X a ta)(hb:PE X b tb){pins:List (Addr×Obj)}{s:Shared}{σ:St}{H:Hp}{R:V->V->Hp->Prop}(I:Inv X pins σ H s)
 (h:ta σ H fun x H1=>tb σ H1 fun y H2=>R x y H2) {Q:Value->Shared->Prop} {f:Value->Value->Sem Value}
 (hf:∀v u s2 x y H2,Inv X pins σ H2 s2->RelV x v->RelV y u->R x y H2->wpAny (model X.prog X.w) X.A (f v u) Q X.xe s2) :
 wpAny (model X.prog X.w) X.A (eval a X.env) (fun v s₁=>wpAny (model X.prog X.w) X.A (eval b X.env) (fun u s₂=>wpAny (model X.prog X.w) X.A (f v u) Q X.xe s₂) X.xe s₁) X.xe s:=by
 refine thn (ha pins s σ H _ I h) fun v s1 ⟨x,H1,I1,r1,q1⟩=>?_
 refine thn (hb pins s1 σ H1 _ I1 q1) fun u s2 ⟨y,H2,I2,r2,q2⟩=>?_
 exact hf v u s2 x y H2 I2 r1 r2 q2

theorem Js{op:Operator}{r:R2}(ho:OpR X (binaryOp op) r)(ha:PE X a ta)(hb:PE X b tb):PE X (.BinOp a op b pos) (tOp r ta tb):=by intro pins s σ H Q I h;exact wpAny_BinOp (Jny ha hb I h fun v u s2 x y H2 I2 rx ry q=>ho pins s2 σ H2 x y v u Q I2 rx ry q)
theorem JjN{op:UnaryOp}{r:V->Hp->VK->Prop}(ho:UnR X (unaryOp op) r)(ha:PE X a ta):PE X (.UnaryOp op a pos) (tUn r ta):=by intro pins s σ H Q I h;exact UnaryOp_ (thn (ha pins s σ H _ I h) fun v s1 ⟨x,H1,I1,r1,q1⟩=>ho pins s1 σ H1 x v Q I1 r1 q1)
theorem opI{f:Value->Value->Sem Value}{C:Int->Int->Prop}{g:Int->Int->Int}
 (rule:∀(i j:Int) (t u:Tok) (s:Shared) (Q:Value->Shared->Prop) (E:Value->Shared->Prop),C i j->Q (.int (g i j) s.toks) { s with toks:=s.toks+1 }->wpAny (model X.prog X.w) X.A (f (.int i t) (.int j u)) Q E s) :
 OpR X f (rI C fun i j=>.int (g i j)):=by
 intro pins s σ H x y v u Q I rx ry h;obtain⟨i,j,rfl,rfl,hc,q⟩:=h;obtain⟨t,rfl⟩:=rx;obtain⟨t',rfl⟩:=ry;exact rule i j t t' s _ _ hc ⟨.int (g i j),H,I.tok _,⟨_,rfl⟩,q⟩
theorem Jp7{f:Value->Value->Sem Value}{g:Int->Int->Int}
 (rule:∀(i j:Int) (t u:Tok) (s:Shared) (Q:Value->Shared->Prop) (E:Value->Shared->Prop),Q (.int (g i j) s.toks) { s with toks:=s.toks+1 }->wpAny (model X.prog X.w) X.A (f (.int i t) (.int j u)) Q E s) :
 OpR X f (rI0 fun i j=>.int (g i j)):=by
 intro pins s σ H x y v u Q I rx ry h;obtain⟨i,j,rfl,rfl,q⟩:=h;obtain⟨t,rfl⟩:=rx;obtain⟨t',rfl⟩:=ry;exact rule i j t t' s _ _ ⟨.int (g i j),H,I.tok _,⟨_,rfl⟩,q⟩
theorem Jos{f:Value->Value->Sem Value}{g:Int->Int->Bool}
 (rule:∀(i j:Int) (t u:Tok) (s:Shared) (Q:Value->Shared->Prop) (E:Value->Shared->Prop),Q (.bool (g i j)) s->wpAny (model X.prog X.w) X.A (f (.int i t) (.int j u)) Q E s) :
 OpR X f (rI0 fun i j=>.bl (g i j)):=by
 intro pins s σ H x y v u Q I rx ry h;obtain⟨i,j,rfl,rfl,q⟩:=h;obtain⟨t,rfl⟩:=rx;obtain⟨t',rfl⟩:=ry;exact rule i j t t' s _ _ ⟨.bl (g i j),H,I,rfl,q⟩

noncomputable def Jpv(i j:Int):Prop:=0<j/\j<1073741824
noncomputable def Jpw(i j:Int):Prop:=0<=j/\j<=1000000/\i.natAbs<2 ^ 64
noncomputable def CMul(i j:Int):Prop:=(-(2 ^ 64)<i/\i<2 ^ 64)\/(-(2 ^ 64)<j/\j<2 ^ 64)
theorem CMul.ok{i j:Int}(h:CMul i j):IntMulOk i j:=by
 rcases h with ⟨h1,h2⟩|⟨h1,h2⟩
 ·exact .of_left (intBits_le_64 h1 h2)
 ·exact .of_right (intBits_le_64 h1 h2)
theorem op_add:OpR X (binaryOp .Add) (rI0 fun i j=>.int (i+j)):=Jp7 fun _ _ _ _ _ _ _ q=>add_int q
theorem Yi:OpR X (binaryOp .Sub) (rI0 fun i j=>.int (i-j)):=Jp7 fun _ _ _ _ _ _ _ q=>sub_int q
theorem VI:OpR X (binaryOp .Mult) (rI CMul fun i j=>.int (i*j)):=opI fun _ _ _ _ _ _ _ hc q=>mul_int q hc.ok
theorem Jl0:OpR X (binaryOp .FloorDiv) (rI Jpv fun i j=>.int (i / j)):=opI fun i j _ _ _ _ _ hc q=>by
 have h1:(0:Int)<j:=hc.1
 have h2:j<1073741824:=hc.2;exact floordiv_int (by omega) (by rw[Ml i (by omega)];exact q) (.inl (PyProof.noPylong_small (by omega)))
theorem Wz:OpR X (binaryOp .Mod) (rI (fun _ j=>0<j) fun i j=>.int (i % j)):=opI fun i j _ _ _ _ _ hc q=>by have h1:(0:Int)<j:=hc;exact mod_int' (by omega) (by rw[Int.fmod_eq_emod_of_nonneg i (by omega)];exact q)
theorem Jfn:OpR X (binaryOp .Pow) (rI Jpw fun i j=>.int (i ^ j.toNat)):=opI fun _ _ _ _ _ _ _ hc q=>pow_int_small hc.1 hc.2.1 hc.2.2 q
theorem unI{f:Value->Sem Value}{g:Int->Int}
 (rule:∀(i:Int) (t:Tok) (s:Shared) (Q:Value->Shared->Prop) (E:Value->Shared->Prop),Q (.int (g i) s.toks) { s with toks:=s.toks+1 }->wpAny (model X.prog X.w) X.A (f (.int i t)) Q E s) :
 UnR X f (rU fun i=>.int (g i)):=by
 intro pins s σ H x v Q I rx h;obtain⟨i,rfl,q⟩:=h;obtain⟨t,rfl⟩:=rx;exact rule i t s _ _ ⟨.int (g i),H,I.tok _,⟨_,rfl⟩,q⟩
theorem JfM:UnR X (unaryOp .USub) (rU fun i=>.int (-i)):=unI fun _ _ _ _ _ q=>neg_int q
end

noncomputable def Jpb:V->V->Bool
 | .non,.non=>true|.non,.int _=>true|.int _,.non=>true|.non,.bl _=>true|.bl _,.non=>true|.non,.str _=>true|.str _,.non=>true
 | .int _,.int _=>true|.bl _,.bl _=>true|.str _,.str _=>true|.byt _,.byt _=>true
 | .int _,.str _=>true|.str _,.int _=>true|.bl _,.str _=>true|.str _,.bl _=>true
 | _,_=>false
noncomputable def rEq:R2:=fun x y H Q=>Jpb x y=true/\Q (.bl (decide (x=y))) H
noncomputable def rNe:R2:=fun x y H Q=>Jpb x y=true/\Q (.bl (!decide (x=y))) H

theorem Jf9{i j:Int}:decide (V.int i=V.int j)=(i == j):=by rw[Km];simp
theorem JiM{i j:Bool}:decide (V.bl i=V.bl j)=(i == j):=by rw[Km];simp
theorem Jga{i j:Str}:decide (V.str i=V.str j)=(i == j):=by rw[Km];simp
theorem Jf8{i j:Array UInt8}:decide (V.byt i=V.byt j)=(i.toList == j.toList):=by rw[Km];cases i;cases j;simp

section
variable{X:Cx}{a b c:Expr}{ta tb tc:TE}{pos:Pos}
theorem JP{pins:List (Addr×Obj)}{σ:St}{H:Hp}{s:Shared}{Q:VK}{k k':Bool}(I:Inv X pins σ H s)(q:Q (.bl k) H)(e:k=k'):EP X pins σ Q (.bool k') s:=by subst e;exact⟨.bl k,H,I,rfl,q⟩
theorem op_eq:OpR X (compareOp .Eq) rEq:=by
 intro pins s σ H x y v u Q I rx ry h;obtain⟨hs,q⟩:=h
 cases x with
 | non =>
  cases rx
  cases y with
  | non=>cases ry;exact PySem.EqNone.eq_none_none (JP I q (by simp))
  | bl j=>cases ry;exact PySem.EqNone.eq_none_bool (JP I q (by simp))
  | int j=>obtain⟨t',rfl⟩:=ry;exact PySem.EqNone.eq_none_int (JP I q (by simp))
  | str j=>obtain⟨t',rfl⟩:=ry;exact PySem.EqNone.eq_none_str (JP I q (by simp))
  | _=>exact absurd (show false=true from hs) Qx
 | bl i =>
  cases rx
  cases y with
  | non=>cases ry;exact PySem.EqNone.eq_bool_none (JP I q (by simp))
  | bl j=>cases ry;exact eq_bool (JP I q JiM)
  | str j=>obtain⟨t',rfl⟩:=ry;exact PySem.EqMixed.eq_bool_str (JP I q (by simp))
  | _=>exact absurd (show false=true from hs) Qx
 | int i =>
  obtain⟨t,rfl⟩:=rx
  cases y with
  | non=>cases ry;exact PySem.EqNone.eq_int_none (JP I q (by simp))
  | int j=>obtain⟨t',rfl⟩:=ry;exact eq_int (JP I q Jf9)
  | str j=>obtain⟨t',rfl⟩:=ry;exact PySem.EqMixed.eq_int_str (JP I q (by simp))
  | _=>exact absurd (show false=true from hs) Qx
 | str i =>
  obtain⟨t,rfl⟩:=rx
  cases y with
  | non=>cases ry;exact PySem.EqNone.eq_str_none (JP I q (by simp))
  | bl j=>cases ry;exact PySem.EqMixed.eq_str_bool (JP I q (by simp))
  | int j=>obtain⟨t',rfl⟩:=ry;exact PySem.EqMixed.eq_str_int (JP I q (by simp))
  | str j=>obtain⟨t',rfl⟩:=ry;exact eq_str (JP I q Jga)
  | _=>exact absurd (show false=true from hs) Qx
 | byt i =>
  obtain⟨t,rfl⟩:=rx
  cases y with
  | byt j=>obtain⟨t',rfl⟩:=ry;exact PySem.W.eq_bytes (JP I q Jf8)
  | _=>exact absurd (show false=true from hs) Qx
 | _=>cases y <;> exact absurd (show false=true from hs) Qx
theorem op_ne:OpR X (compareOp .NotEq) rNe:=by
 intro pins s σ H x y v u Q I rx ry h;obtain⟨hs,q⟩:=h
 cases x with
 | non =>
  cases rx
  cases y with
  | non=>cases ry;exact PySem.EqNone.ne_none_none (JP I q (by simp))
  | bl j=>cases ry;exact PySem.EqNone.ne_none_bool (JP I q (by simp))
  | int j=>obtain⟨t',rfl⟩:=ry;exact PySem.EqNone.ne_none_int (JP I q (by simp))
  | str j=>obtain⟨t',rfl⟩:=ry;exact PySem.EqNone.ne_none_str (JP I q (by simp))
  | _=>exact absurd (show false=true from hs) Qx
 | bl i =>
  cases rx
  cases y with
  | non=>cases ry;exact PySem.EqNone.ne_bool_none (JP I q (by simp))
  | bl j=>cases ry;exact ne_bool (JP I q (congrArg not JiM))
  | str j=>obtain⟨t',rfl⟩:=ry;exact PySem.EqMixed.ne_bool_str (JP I q (by simp))
  | _=>exact absurd (show false=true from hs) Qx
 | int i =>
  obtain⟨t,rfl⟩:=rx
  cases y with
  | non=>cases ry;exact PySem.EqNone.ne_int_none (JP I q (by simp))
  | int j=>obtain⟨t',rfl⟩:=ry;exact ne_int (JP I q (congrArg not Jf9))
  | str j=>obtain⟨t',rfl⟩:=ry;exact PySem.EqMixed.ne_int_str (JP I q (by simp))
  | _=>exact absurd (show false=true from hs) Qx
 | str i =>
  obtain⟨t,rfl⟩:=rx
  cases y with
  | non=>cases ry;exact PySem.EqNone.ne_str_none (JP I q (by simp))
  | bl j=>cases ry;exact PySem.EqMixed.ne_str_bool (JP I q (by simp))
  | int j=>obtain⟨t',rfl⟩:=ry;exact PySem.EqMixed.ne_str_int (JP I q (by simp))
  | str j=>obtain⟨t',rfl⟩:=ry;exact ne_str (JP I q (congrArg not Jga))
  | _=>exact absurd (show false=true from hs) Qx
 | byt i =>
  obtain⟨t,rfl⟩:=rx
  cases y with
  | byt j=>obtain⟨t',rfl⟩:=ry;exact PySem.W.ne_bytes (JP I q (congrArg not Jf8))
  | _=>exact absurd (show false=true from hs) Qx
 | _=>cases y <;> exact absurd (show false=true from hs) Qx

theorem Jax:OpR X (compareOp .Lt) (rI0 fun i j=>.bl (decide (i<j))):=Jos fun _ _ _ _ _ _ _ q=>lt_int q
theorem Jnh:OpR X (compareOp .LtE) (rI0 fun i j=>.bl (decide (i<=j))):=Jos fun _ _ _ _ _ _ _ q=>le_int q
theorem Jaw:OpR X (compareOp .Gt) (rI0 fun i j=>.bl (decide (j<i))):=Jos fun _ _ _ _ _ _ _ q=>gt_int q
theorem Jow:OpR X (compareOp .Is) (fun x y H Q=>y=.non/\Q (.bl (decide (x=.non))) H):=by
 intro pins s σ H x y v u Q I rx ry h;obtain⟨rfl,q⟩:=h;cases ry;refine is_none_gen (JP I q ?_);cases x <;> first
  | (cases rx;rfl)
  | (obtain⟨t,rfl⟩:=rx;rfl)
theorem Jl1:OpR X (compareOp .IsNot) (fun x y H Q=>y=.non/\Q (.bl (!decide (x=.non))) H):=by
 intro pins s σ H x y v u Q I rx ry h;obtain⟨rfl,q⟩:=h;cases ry;refine isnot_none_gen (JP I q ?_);cases x <;> first
  | (cases rx;rfl)
  | (obtain⟨t,rfl⟩:=rx;rfl)

theorem OpR.or{f:Value->Value->Sem Value}{r r':R2}(h:OpR X f r)(h':OpR X f r'):OpR X f (fun x y H Q=>r x y H Q\/r' x y H Q):=by
 intro pins s σ H x y v u Q I rx ry q;rcases q with q|q
 ·exact h pins s σ H x y v u Q I rx ry q
 ·exact h' pins s σ H x y v u Q I rx ry q

theorem J0(b:Expr){op:CmpOp}(h:op≠.In:=by decide)(h2:op≠.NotIn:=by decide):behindInMarks op b=false:=by
 have e1:(op == CmpOp.In)=false:=by cases op <;> first|rfl|exact absurd rfl h
 have e2:(op == CmpOp.NotIn)=false:=by cases op <;> first|rfl|exact absurd rfl h2
 cases b <;> simp[behindInMarks,e1,e2]
theorem Jl3{op:CmpOp}{r:R2}(ho:OpR X (compareOp op) r)(ha:PE X a ta)(hb:PE X b tb)(hm:behindInMarks op b=false):PE X (.Compare a [op] [b] pos) (tOp r ta tb):=by intro pins s σ H Q I h;exact wpAny_Compare1 (Jny ha hb I h fun v u s2 x y H2 I2 rx ry q=>ho pins s2 σ H2 x y v u Q I2 rx ry q) hm
noncomputable def Jks(t:TE):TT:=fun σ H Q=>t σ H fun x H'=>∃k,x=.bl k/\Q k H'
theorem JL{op:CmpOp}{r:R2}(ho:OpR X (compareOp op) r)(ha:PE X a ta)(hb:PE X b tb)(hm:behindInMarks op b=false):PT X (.Compare a [op] [b] pos) (Jks (tOp r ta tb)):=by
 intro pins s σ H Q I h;refine wpAny_isTrue_Compare1 (thn (ha pins s σ H _ I h) fun v s1 ⟨x,H1,I1,r1,q1⟩=>thn (hb pins s1 σ H1 _ I1 q1) fun u s2 ⟨y,H2,I2,r2,q2⟩=>thn (ho pins s2 σ H2 x y v u _ I2 r1 r2 q2) fun c s3 ⟨z,H3,I3,r3,k,e,q3⟩=>?_) hm
 subst e;cases r3;exact KC ⟨H3,I3,q3⟩
noncomputable def Jkl(r r':R2)(ta tb tc:TE):TE:=fun σ H Q=>ta σ H fun x H1=>tb σ H1 fun y H2=>r x y H2 fun z H3=>∃k,z=.bl k ∧
 (if k=true then tc σ H3 fun w' H4=>r' y w' H4 Q else Q (.bl false) H3)
theorem JjJ{op op':CmpOp}{r r':R2}(ho:OpR X (compareOp op) r)(ho':OpR X (compareOp op') r')(ha:PE X a ta)(hb:PE X b tb)(hc:PE X c tc)
 (hm:lastMarks [op,op'] [b,c]=false:=by with_unfolding_all rfl):PE X (.Compare a [op,op'] [b,c] pos) (Jkl r r' ta tb tc):=by
 intro pins s σ H Q I h;refine Compare_chain (thn (ha pins s σ H _ I h) fun v s1 ⟨x,H1,I1,r1,q1⟩=>chain_link (thn (hb pins s1 σ H1 _ I1 q1) fun u s2 ⟨y,H2,I2,r2,q2⟩=>thn (ho pins s2 σ H2 x y v u _ I2 r1 r2 q2) fun d s3 ⟨z,H3,I3,r3,k,e,q3⟩=>?_)) hm
 subst e;cases r3;refine KC ?_
 cases k with
 | false=>exact ite_ff ⟨.bl false,H3,I3,rfl,q3⟩
 | true=>exact ite_tt (chain_last (thn (hc pins s3 σ H3 _ I3 q3) fun w' s4 ⟨z',H4,I4,r4,q4⟩=>ho' pins s4 σ H4 y z' u w' Q I4 r2 r4 q4))
noncomputable def JkV(K:Frag)(x:V)(H:Hp)(k:Bool):Prop :=
 match x with
 | .non=>k=false
 | .bl b=>k=b
 | .int i=>k=(i != 0)
 | .str y=>y.length<=sizeLine/\k=((y.length:Int) != 0)
 | .byt y=>y.size<=sizeLine/\k=((y.size:Int) != 0)
 | .ref p=>(∃xs,SqL K H p xs/\k=!xs.isEmpty)\/(∃xs,SqT K H p xs/\k=!xs.isEmpty)\/∃kvs,H p=some (.dK kvs)/\k=!kvs.isEmpty
 | _=>False
theorem Je8{κ:Type}{kvs:List (κ×V)}{vs:List (κ×Value)}(r:KV kvs vs):(!vs.isEmpty)=!kvs.isEmpty:=by cases r <;> rfl
theorem Jaj{xs:List V}{its:List Value}(r:Vals xs its):(!its.toArray.isEmpty)=!xs.isEmpty:=by cases r <;> simp
theorem Jam:(sizeLine:Nat)<2 ^ 63:=by rw[sizeLine_eq];decide
theorem Jpr:JqF X (fun x H Q=>∃k,JkV X.K x H k/\Q k H):=by
 intro pins s σ H x v Q I rx h;obtain⟨k,e,q⟩:=h;have hl:=Jam;have hs:sizeLine=16777216:=sizeLine_eq
 cases x with
 | non=>cases rx;have e':k=false:=e;subst e';exact truthy_none ⟨H,I,q⟩
 | bl b=>cases rx;have e':k=b:=e;subst e';exact KC ⟨H,I,q⟩
 | int i=>obtain⟨t,rfl⟩:=rx;have e':k=(i != 0):=e;subst e';exact PySem.P.truthy_int ⟨H,I,q⟩
 | str y=>obtain⟨t,rfl⟩:=rx;obtain⟨hy,e'⟩:y.length<=sizeLine/\k=((y.length:Int) != 0):=e;subst e';exact PySem.P.truthy_str (by omega) ⟨H,I.tok _,q⟩
 | byt y=>obtain⟨t,rfl⟩:=rx;obtain⟨hy,e'⟩:y.size<=sizeLine/\k=((y.size:Int) != 0):=e;subst e';exact PySem.W.truthy_bytes (by omega) ⟨H,I.tok _,q⟩
 | ref p =>
  cases rx;have e':(∃xs,SqL X.K H p xs/\k=!xs.isEmpty)\/(∃xs,SqT X.K H p xs/\k=!xs.isEmpty)\/∃kvs,H p=some (.dK kvs)/\k=!kvs.isEmpty:=e
  rcases e' with ⟨xs,hx,e'⟩|⟨xs,hx,e'⟩|⟨kvs,hx,e'⟩
  ·subst e';obtain⟨its,r,pl,hz⟩:=I.list hx;have hlen:=r.length;exact wpAny_truthy_list pl.isList (by simp only[Qo];omega) ⟨H,I.tok _,by rw[Jaj r];exact q⟩
  ·subst e';obtain⟨its,r,pl,hz⟩:=I.tuple hx;have hlen:=r.length;exact truthy_tuple pl (by simp only[Qo];omega) ⟨H,I.tok _,by rw[Jaj r];exact q⟩
  ·subst e';obtain⟨hz,hS,vs,r,m⟩:kvs.length<=sizeLine/\(p == sysModules)=false/\∃vs,KV kvs vs/\s.heap.DictOf (JO X.prog X.w) p vs:=I.hok p _ hx
   have hlen:kvs.length=vs.length:=MD r;exact wpAny_truthy_dict hS m (by omega) ⟨H,I.tok _,by rw[Je8 r];exact q⟩
 | _=>exact(show False from e).elim
theorem JjS(ha:PE X a ta)(he:∀whole,isTrue a X.env whole=(do let v <- whole;standAt a.pos;holding [v] (truthy v))) :
 PT X a (fun σ H Q=>ta σ H fun x H'=>∃k,JkV X.K x H' k/\Q k H'):=by
 intro pins s σ H Q I h;exact isTrue_plain (thn (ha pins s σ H _ I h) fun v s1 ⟨x,H1,I1,r1,q1⟩=>Jpr pins s1 σ H1 x v Q I1 r1 q1) (he _)

theorem op_add_str:OpR X (binaryOp .Add) (fun x y H Q=>∃i j,x=.str i/\y=.str j/\i.length+j.length<=sizeLine/\Q (.str (i++j)) H):=by intro pins s σ H x y v u Q I rx ry h;obtain⟨i,j,rfl,rfl,hz,q⟩:=h;obtain⟨t,rfl⟩:=rx;obtain⟨t',rfl⟩:=ry;exact add_str (fun t' tk=>⟨.str (i++j),H,I.tok _,⟨_,rfl⟩,q⟩) hz
theorem V2{x:V}{us:List Value}(r:Vals [x] us):∃u,us=[u]/\RelV x u:=by
 cases r with
 | cons r1 r2=>cases r2;exact⟨_,rfl,r1⟩
theorem JkG{x y:V}{us:List Value}(r:Vals [x,y] us):∃u w',us=[u,w']/\RelV x u/\RelV y w':=by
 cases r with
 | cons r1 r2 =>
  cases r2 with
  | cons r3 r4=>cases r4;exact⟨_,_,rfl,r1,r3⟩
theorem Jhl(hc:X.calm=true):YR X (.builtin "max") (fun xs H Q=>∃i j,xs=[.int i,.int j]/\Q (.int (if j>i then j else i)) H):=by
 intro pins s σ H xs us Q I r h;obtain⟨i,j,rfl,q⟩:=h;obtain⟨u,w',rfl,⟨t,rfl⟩,⟨t',rfl⟩⟩:=JkG r;refine max_two_ints (I.ok.hd hc) fun h' tk k=>⟨_,H,I.kept k,?_,q⟩
 by_cases hj:j>i
 ·rw[if_pos hj,if_pos hj];exact⟨_,rfl⟩
 ·rw[if_neg hj,if_neg hj];exact⟨_,rfl⟩
theorem Jho(hc:X.calm=true):YR X (.builtin "min") (fun xs H Q=>∃i j,xs=[.int i,.int j]/\Q (.int (if j<i then j else i)) H):=by
 intro pins s σ H xs us Q I r h;obtain⟨i,j,rfl,q⟩:=h;obtain⟨u,w',rfl,⟨t,rfl⟩,⟨t',rfl⟩⟩:=JkG r;refine min_two_ints (I.ok.hd hc) fun h' tk k=>⟨_,H,I.kept k,?_,q⟩
 by_cases hj:j<i
 ·rw[if_pos hj,if_pos hj];exact⟨_,rfl⟩
 ·rw[if_neg hj,if_neg hj];exact⟨_,rfl⟩
noncomputable def JpA(K:Frag)(x:V)(H:Hp)(n:Nat):Prop :=
 match x with
 | .str y=>y.length<=sizeLine/\n=y.length
 | .byt y=>y.size<=sizeLine/\n=y.size
 | .ref p=>(∃xs,SqL K H p xs/\n=xs.length)\/∃xs,SqT K H p xs/\n=xs.length
 | _=>False
theorem JiF:YR X (.builtin "len") (fun xs H Q=>∃x n,xs=[x]/\JpA X.K x H n/\Q (.int n) H):=by
 intro pins s σ H xs us Q I r h;obtain⟨x,n,rfl,e,q⟩:=h;obtain⟨u,rfl,rx⟩:=V2 r;have hl:=Jam;have hs:sizeLine=16777216:=sizeLine_eq
 cases x with
 | str y=>obtain⟨t,rfl⟩:=rx;obtain⟨hy,e'⟩:y.length<=sizeLine/\n=y.length:=e;subst e';exact len_str (by omega) ⟨.int _,H,I.tok _,⟨_,rfl⟩,q⟩
 | byt y=>obtain⟨t,rfl⟩:=rx;obtain⟨hy,e'⟩:y.size<=sizeLine/\n=y.size:=e;subst e';exact PySem.W.len_bytes (by omega) ⟨.int _,H,I.tok _,⟨_,rfl⟩,q⟩
 | ref p =>
  cases rx;have e':(∃xs,SqL X.K H p xs/\n=xs.length)\/∃xs,SqT X.K H p xs/\n=xs.length:=e
  rcases e' with ⟨xs,hx,e'⟩|⟨xs,hx,e'⟩
  ·subst e';obtain⟨its,r',pl,hz⟩:=I.list hx;have hlen:=r'.length;exact Calls.call_len_list pl.isList (by simp only[Qo];omega) ⟨.int xs.length,H,I.tok _,⟨_,by simp only[Qo];rw[hlen]⟩,q⟩
  ·subst e';obtain⟨its,r',pl,hz⟩:=I.tuple hx;have hlen:=r'.length;exact len_tuple pl (by simp only[Qo];omega) ⟨.int xs.length,H,I.tok _,⟨_,by simp only[Qo];rw[hlen]⟩,q⟩
 | _=>exact(show False from e).elim
end
end L2

namespace L2
open PySem PySem.Spec PyProof.Rows

structure ObjM (h:Heap) (x dx C:Addr) (mA:Str->Option Value):Prop where
 obj:h.get? x=some (instObj C dx)
 ns:h.Ns1 dx mA
 ne:dx≠x

theorem JhN{h:Heap}{dx:Addr}{mA:Str->Option Value}(n:h.Ns1 dx mA):∃od,h.get? dx=some od/\∀name,lookIn name od=some (mA name):=by
 obtain⟨o,es,ep,ho,hd,hk,_,hm⟩:=n;refine⟨o,ho,fun name=>?_⟩;have e:=hm name;unfold nsFind findBy at e;rw[<- Array.find?_toList] at e;unfold lookIn;rw[hd];dsimp only;split
 ·rename_i y q;rw[q] at e;exact congrArg some e
 ·rename_i q;rw[q] at e
  have a:es.toList.any (·.refKey)=false:=by rw[List.any_eq_false];intro y hy;obtain⟨z,t,hkey⟩:=hk y (Array.mem_toList_iff.mp hy);simp[DictEntry.refKey,hkey]
  have a':¬es.toList.any (·.refKey)=true:=by rw[a];exact Qx
  rw[if_neg a'];exact congrArg some e

theorem ObjM.look{h:Heap}{x dx C:Addr}{mA:Str->Option Value}(I:ObjM h x dx C mA):∃od,PySem.W.InstAt h x (instObj C dx) C (some od)/\∀name,lookIn name od=some (mA name) :=
 let ⟨od,ho,hl⟩:=JhN I.ns
 ⟨od,⟨I.obj,rfl,rfl,ho⟩,hl⟩

section
variable{prog:Program}{w:World}{A:Around}{E:Value->Shared->Prop}{s:Shared}{K:Frag}{x dx C f:Addr}{mA:Str->Option Value}{name:Str}{v:Value}

theorem Jlv{expr:Bool}{Q:Value->Shared->Prop}(X:K.In s.heap)(I:ObjM s.heap x dx C mA)(hg:plainGet K C name=true)(hh:hasDictIn K C=true)
 (ha:findIn K (.ref C) name=some none) (hv:mA name=some v) (hv':PySem.W.handedIn v=true) (h:Q v { s with toks:=s.toks+1 }) :
 wpAny (model prog w) A (getAttr (.ref x) name expr) Q E s:=by
 obtain⟨od,J,hl⟩:=I.look;exact PySem.W.get_value X J (PySem.W.plainGet_of hg).1 (PySem.W.findObj_own hh ha rfl (by rw[hl,hv])) hv' h

theorem JmC{ns:List Str}{Q:Unit->Shared->Prop}(X:K.In s.heap)(I:ObjM s.heap x dx C mA)
 (hs:findIn K (.ref C) "__setattr__"=some (some (.builtin "object.__setattr__"))) (hp:plainOver K C=true) (ht:takerIn K C name=some none) (hh:hasDictIn K C=true)
 (hw:RG mA ns) (hsz:ns.length<=sizeLine)
 (h:∀h',ObjM h' x dx C (fun y=>if y=name then some v else mA y)->QB dx s.heap h'->Q () { s with heap:=h',toks:=s.toks+2 }) :
 wpAny (model prog w) A (setAttr (.ref x) name v) Q E s:=by
 obtain⟨od,J,hl⟩:=I.look;refine PySem.W.set_plain X J hs (PySem.W.osa_open (s:={ s with toks:=s.toks+1 }) (r:=none) X J hp ht fun b=>?_);obtain⟨cd,hc,hd'⟩:=PySem.W.any_some hh;have hx:s.heap.get? x=some ⟨.ref C,some dx,.plain,#[]⟩:=I.obj;refine Qa (Qf (Qa (Qa (wpAny_loadPart hx (Qa (PySem.W.Looks.here (s:={ s with toks:=s.toks+1 }) (PySem.W.looks_clsIn X hc) ?_))))));rw[hd'];refine Qf (a:=some dx) (Qa (Qf (Qa ?_)))
 refine wpAny_nsSet1 (s:={ s with toks:=s.toks+1 }) I.ns fun h' hn2 hs2=>?_
 obtain⟨oD,esD,epD,hoD,hdD,hcD⟩:=hn2.count (PySem.Within.cons name v hw);refine Qa (wpAny_lookBehind hoD (by rw[hdD];exact pastItsLine_dict (Gn hcD (by rw[Qp];omega))) ?_);exact Qf (h _ ⟨(hs2.2 _ (QN I.ne)).trans I.obj,hn2,I.ne⟩ hs2)

theorem Jjw{R:Result->Shared->Prop}{vs:List Value}{kw:List (Str×Value)}(X:K.In s.heap)(hm:makesIn K C=true)
 (hi:findIn K (.ref C) "__init__"=some (some (.ref f))) (hf:PySem.W.typeIn K (.ref f)=some (.type "function"))
 (h:codeAny (model prog w) (A.under (.builtin "type.__call__" ⟨.ref C::vs,kw⟩)) (.call (.ref f) ⟨.ref (s.heap.objs.size+1)::vs,kw⟩) (PySem.W.InitBack (s.heap.objs.size+1) R)
  { s with heap:=(s.heap.push emptyDict).push (instObj C s.heap.objs.size) }) :
 codeAny (model prog w) A (.call (.ref C) ⟨vs,kw⟩) R s:=by
 obtain⟨hh,g,d,t,os⟩:=s;exact PySem.W.make_core (PySem.W.makes_of X hm) (PySem.W.looks_findIn X hi) (fun self=>PySem.W.bind_fn X self hf) (.inl rfl) h
end

noncomputable def putF(f:Str)(v:V):List (Str×V)->List (Str×V)
 | []=>[(f,v)]
 | (g,x)::r=>if g=f then(g,v)::r else(g,x)::putF f v r
theorem Zw(f g:Str)(v:V):∀fs:List (Str×V),(putF f v fs).lookup g=if g=f then some v else fs.lookup g
 | []=>by
  show LF g [(f,v)]=_
  by_cases h:g=f
  ·have hb:(g == f)=true:=beq_iff_eq.mpr h;simp only[LF,hb,if_pos h]
  ·have hb:(g == f)=false:=beq_eq_false_iff_ne.mpr h;simp only[LF,hb,if_neg h]
 | (k,x)::r=>by
  have ih:=Zw f g v r;rw[show putF f v ((k,x)::r)=(if k=f then(k,v)::r else(k,x)::putF f v r) from rfl]
  by_cases hk:k=f
  ·rw[if_pos hk]
   by_cases h:g=k
   ·have hb:(g == k)=true:=beq_iff_eq.mpr h;simp only[LF,hb,if_pos (h.trans hk)]
   ·have hb:(g == k)=false:=beq_eq_false_iff_ne.mpr h;simp only[LF,hb,if_neg (fun e:g=f=>h (e.trans hk.symm))]
  ·rw[if_neg hk]
   by_cases h:g=k
   ·have hb:(g == k)=true:=beq_iff_eq.mpr h;simp only[LF,hb,if_neg (fun e:g=f=>hk (h.symm.trans e))]
   ·have hb:(g == k)=false:=beq_eq_false_iff_ne.mpr h;simp only[LF,hb];exact ih
theorem Zh(f:Str)(v:V):∀fs:List (Str×V),f∈(putF f v fs).map (·.1)/\∀g,g∈fs.map (·.1)->g∈(putF f v fs).map (·.1)
 | []=>⟨by simp[putF],fun g h=>by simp at h⟩
 | (k,x)::r=>by
  obtain⟨i1,i2⟩:=Zh f v r;rw[show putF f v ((k,x)::r)=(if k=f then(k,v)::r else(k,x)::putF f v r) from rfl]
  by_cases hk:k=f
  ·rw[if_pos hk];subst hk;exact⟨by simp,fun g h=>by simpa using h⟩
  ·rw[if_neg hk];refine⟨?_,fun g h=>?_⟩
   ·rw[Qd];exact Qc _ i1
   ·rw[Qd] at h ⊢;rcases Qh.mp h with e|e
    ·exact Qh.mpr (.inl e)
    ·exact Qc _ (i2 g e)
theorem Zv(f:Str)(v:V):∀fs:List (Str×V),(putF f v fs).length<=fs.length+1
 | []=>by simp[putF]
 | (k,x)::r=>by
  have ih:=Zv f v r;rw[show putF f v ((k,x)::r)=(if k=f then(k,v)::r else(k,x)::putF f v r) from rfl]
  by_cases hk:k=f
  ·rw[if_pos hk,Qp,Qp];omega
  ·rw[if_neg hk,Qp,Qp];omega

theorem RelO.some_of{v:V}{o:Option Value}(r:RelO (some v) o):∃u,o=some u/\RelV v u:=by
 cases o with
 | none=>exact(show False from r).elim
 | some u=>exact⟨u,rfl,r⟩
theorem Jhz{v:V}{u:Value}(r:RelV v u):PySem.W.handedIn u=true:=by
 cases v with
 | non=>cases (show u=Value.none from r);rfl
 | bl b=>cases (show u=Value.bool b from r);rfl
 | int i=>obtain⟨t,e⟩:=(show ∃t,u=Value.int i t from r);cases e;rfl
 | str x=>obtain⟨t,e⟩:=(show ∃t,u=Value.str x t from r);cases e;rfl
 | byt b=>obtain⟨t,e⟩:=(show ∃t,u=Value.bytes b t from r);cases e;rfl
 | flt b=>obtain⟨t,e⟩:=(show ∃t,u=Value.float b t from r);cases e;rfl
 | ref a=>cases (show u=Value.ref a from r);rfl
 | ty n=>cases (show u=Value.type n from r);rfl

section
variable{P:Program}{w:World}{H H':Hp}{h h':Heap}{a C dx:Addr}{fs fs':List (Str×V)}
theorem Jck(hok:HOk P w H h)(e:H a=some (.ins C dx fs)):∃mA,ObjM h a dx C mA/\(∀f,RelO (fs.lookup f) (mA f))/\RG mA (fs.map (·.1))/\fs.length<=1000/\H dx=some (.own a):=by
 obtain⟨d,z,ne,ob,mA,n,r,q⟩:=(show ObjOk P w H h a (.ins C dx fs) from hok a _ e)
 exact⟨mA,⟨ob,n,ne⟩,r,q,z,d⟩
end

structure Cls (K:Frag) (C:Addr):Prop where
 pg:plainGet K C Str.empty=true
 hd:hasDictIn K C=true
 po:plainOver K C=true
 sa:findIn K (.ref C) "__setattr__"=some (some (.builtin "object.__setattr__"))
theorem Cls.get{K:Frag}{C:Addr}(c:Cls K C)(f:Str):plainGet K C f=true:=c.pg
noncomputable def NoAttr(K:Frag)(C:Addr)(f:Str):Prop:=findIn K (.ref C) f=some none
theorem NoAttr.taker{K:Frag}{C:Addr}{f:Str}(n:NoAttr K C f):takerIn K C f=some none:=by unfold takerIn;rw[show findIn K (.ref C) f=some none from n];rfl
section
variable{X:Cx}{pins:List (Addr×Obj)}{σ:St}{H:Hp}{s:Shared}{a C dx:Addr}{fs:List (Str×V)}{f:Str}{v:V}{A:Around}{E:Value->Shared->Prop}

theorem Je4{b:Bool}{Q:Value->Shared->Prop}(I:Inv X pins σ H s)(e:H a=some (.ins C dx fs))(c:Cls X.K C)(n:NoAttr X.K C f)(l:fs.lookup f=some v)
 (h:∀u s',Inv X pins σ H s'->RelV v u->Q u s'):wpAny (model X.prog X.w) A (getAttr (.ref a) f b) Q E s:=by
 obtain⟨mA,O,r,_,_,_⟩:=Jck I.hok e;obtain⟨u,hu,ru⟩:=RelO.some_of (v:=v) (o:=mA f) (by rw[<- l];exact r f);exact Jlv I.kIn O (c.get f) c.hd n hu (Jhz ru) (h u _ (I.tok _) ru)

theorem JfC{y:V}{u:Value}{Q:Unit->Shared->Prop}(I:Inv X pins σ H s)(e:H a=some (.ins C dx fs))(c:Cls X.K C)(n:NoAttr X.K C f)(hl:fs.length<1000)(ry:RelV y u)
 (h:∀s',Inv X pins σ (upd H a (.ins C dx (putF f y fs))) s'->Q () s'):wpAny (model X.prog X.w) A (setAttr (.ref a) f u) Q E s:=by
 obtain⟨mA,O,r,wi,_,ho⟩:=Jck I.hok e;have hz:(fs.map (·.1)).length<=sizeLine:=by rw[Qm,sizeLine_eq];omega
 refine JmC I.kIn O c.sa c.po n.taker c.hd wi hz fun h' O' sb=>h _ ?_
 have hd:∃o,h'.get? dx=some o:=let ⟨o,_,_,e',_⟩:=O'.ns;⟨o,e'⟩
 refine I.write (x:=a) (e:=dx) (by rw[e];exact True.intro) (.inr ho) (fun b q hb z=>(sb.2 b hb).trans z) hd ?_;refine⟨by rw[Jm O.ne];exact ho,?_,O.ne,O'.obj,_,O'.ns,fun g=>?_,fun g hg=>?_⟩
 ·have:=Zv f y fs;omega
 ·show RelO ((putF f y fs).lookup g) (if g=f then some u else mA g);rw[Zw]
  by_cases q:g=f
  ·rw[if_pos q,if_pos q];exact ry
  ·rw[if_neg q,if_neg q];exact r g
 ·by_cases q:g=f
  ·rw[q];exact(Zh f y fs).1
  ·refine(Zh f y fs).2 g (wi g fun z=>hg ?_);show(if g=f then some u else mA g)=none;rw[if_neg q];exact z

theorem Inv.made(I:Inv X pins σ H s):Inv X pins σ (upd (upd H s.heap.objs.size (.own (s.heap.objs.size+1))) (s.heap.objs.size+1) (.ins C s.heap.objs.size []))
 { s with heap:=(s.heap.push emptyDict).push (instObj C s.heap.objs.size) }:=by
 have e1:(s.heap.push emptyDict).get? s.heap.objs.size=some emptyDict:=Qi s.heap rfl
 have e2:((s.heap.push emptyDict).push (instObj C s.heap.objs.size)).get? (s.heap.objs.size+1)=some (instObj C s.heap.objs.size):=by
  have:=Qi (s.heap.push emptyDict) (o:=instObj C s.heap.objs.size) rfl
  rwa [Ge] at this
 have e3:(s.heap.push emptyDict).Ns s.heap.objs.size (fun _=>none):=⟨emptyDict,#[],_,e1,rfl,(fun e he=>absurd he (by simp)),fun _=>rfl⟩
 have I1:=I.laid (a:=s.heap.objs.size) (o:=.own (s.heap.objs.size+1)) (h':=s.heap.push emptyDict) (t':=s.toks) (fun b u q=>Qg _ q) (Qn _) ⟨_,e1⟩;refine I1.laid (a:=s.heap.objs.size+1) (o:=.ins C s.heap.objs.size []) (t':=s.toks) (fun b u q=>Qg _ q) (MZ (Ge _ _)) ?_
 have ne:s.heap.objs.size≠s.heap.objs.size+1:=Qy (Gy _);refine⟨by rw[Jm ne,Jv],GJ _,ne,e2,fun _=>none,(Heap.Ns1.of_empty e3).at fun o q=>Qg _ q,fun _=>True.intro,fun y hy=>absurd rfl hy⟩

theorem JkY{prog:Program}{w:World}{env:Env}{e:Expr}{f:Str}{pos:Pos}{s:Shared}{Q:Value->Shared->Prop}(hb:attributeBase e f env (eval e env)=eval e env)
 (h:wpAny (model prog w) A (eval e env) (fun o s₁=>wpAny (model prog w) A (getAttr o f true) Q E s₁) E s):wpAny (model prog w) A (eval (.Attribute e f pos) env) Q E s :=
 Attribute_any_ h (by rw[arm_eval_Attribute,hb])
end

noncomputable def Jpg(K:Frag)(ta:TE)(f:Str):TE:=fun σ H Q=>ta σ H fun x H1=>∃a C dx fs v,x=.ref a/\H1 a=some (.ins C dx fs)/\Cls K C/\NoAttr K C f/\fs.lookup f=some v/\Q v H1
noncomputable def Jo6(K:Frag)(ta tv:TE)(f:Str):TS:=fun D σ H=>tv σ H fun y H1=>ta σ H1 fun x H2=>∃a C dx fs,x=.ref a/\H2 a=some (.ins C dx fs)/\Cls K C/\NoAttr K C f/\fs.length<1000 ∧
 D.nx σ (upd H2 a (.ins C dx (putF f y fs)))
section
variable{X:Cx}{o e value:Expr}{f:Str}{pos pos' tpos:Pos}{ta tv:TE}
theorem JoB(he:PE X e ta)(hb:attributeBase e f X.env (eval e X.env)=eval e X.env):PE X (.Attribute e f pos) (Jpg X.K ta f):=by intro pins s σ H Q I h;refine JkY hb (thn (he pins s σ H _ I h) fun u s1 ⟨x,H1,I1,rx,a,C,dx,fs,v,ex,ea,c,n,l,q⟩=>?_);subst ex;obtain rfl:u=Value.ref a:=rx;exact Je4 I1 ea c n l fun u' s2 I2 ru=>⟨v,H1,I2,ru,q⟩
theorem JoI(ha:PE X o ta)(hv:PE X value tv)(hs:swapsWith value (some (.Attribute o f pos')) pos.line X.env=pure false):PS X (.Assign [.Attribute o f pos'] value pos) (Jo6 X.K ta tv f):=by intro pins s σ H D I h;refine plainObj_wpAny_Assign_Attribute (thn (hv pins s σ H _ I h) fun u s1 ⟨y,H1,I1,ry,q⟩=>thn (ha pins s1 σ H1 _ I1 q) fun ov s2 ⟨x,H2,I2,rx,a,C,dx,fs,ex,ea,c,n,l,q2⟩=>?_) hs;subst ex;obtain rfl:ov=Value.ref a:=rx;exact JfC I2 ea c n l ry fun s3 I3=>⟨σ,_,I3,q2⟩
end

section
variable{X:Cx}{pins:List (Addr×Obj)}{σ:St}{H:Hp}{s:Shared}{A:Around}{E:Value->Shared->Prop}{Q:Value->Shared->Prop}{c:Value}{b:Bool}
inductive TyOf (K:Frag) (H:Hp):V->Value->Prop where
 | non:TyOf K H .non (.type "NoneType")
 | bl (x:Bool):TyOf K H (.bl x) (.type "bool")
 | int (i:Int):TyOf K H (.int i) (.type "int")
 | str (x:Str):TyOf K H (.str x) (.type "str")
 | flt (x:UInt64):TyOf K H (.flt x) (.type "float")
 | lst {a:Addr} {xs:List V} (e:H a=some (.lst xs)):TyOf K H (.ref a) (.type "list")
 | frz {a:Addr} {o:Obj} {xs:List V} (e:H a=some (.frz o (.lst xs))):TyOf K H (.ref a) (.type "list")
 | tup {a:Addr} {xs:List V} (e:H a=some (.tup xs)):TyOf K H (.ref a) (.type "tuple")
 | dK {a:Addr} {kvs:List (Key×V)} (e:H a=some (.dK kvs)):TyOf K H (.ref a) (.type "dict")
 | dT {a:Addr} {kvs:List (List Key×V)} (e:H a=some (.dT kvs)):TyOf K H (.ref a) (.type "dict")
 | ins {a C dx:Addr} {fs:List (Str×V)} (e:H a=some (.ins C dx fs)) (cl:Cls K C) (ha:findIn K (.ref C) "__class__"=some (some (.builtin "object.__class__")))
  (hn:RH K (.builtin "object.__class__") "__get__"=some (some (.builtin "getset_descriptor.__get__"))) (htk:PySem.W.takesIn K (.builtin "object.__class__")=some true)
  (hm:mroIn K C (.type "object")=some true):TyOf K H (.ref a) (.ref C)
theorem JhI{x:V}{u t:Value}(I:Inv X pins σ H s)(rx:RelV x u)(ty:TyOf X.K H x t)(e:kitOne X.K t c=some b)(h:∀tk,Q (.bool b) { s with toks:=tk }) :
 wpAny (model X.prog X.w) A (call (.builtin "isinstance") [u,c]) Q E s:=by
 cases ty with
 | non=>cases (show u=Value.none from rx);exact kia_one PySem.W.kitx_none I.kIn True.intro e (fun z=>nomatch z) h
 | bl y=>cases (show u=Value.bool y from rx);exact kia_one PySem.W.kitx_bool I.kIn True.intro e (fun z=>nomatch z) h
 | int i=>obtain⟨t,q⟩:=(show ∃t,u=Value.int i t from rx);cases q;exact kia_one PySem.W.kitx_int I.kIn True.intro e (fun z=>nomatch z) h
 | str y=>obtain⟨t,q⟩:=(show ∃t,u=Value.str y t from rx);cases q;exact kia_one PySem.W.kitx_str I.kIn True.intro e (fun z=>nomatch z) h
 | flt y=>obtain⟨t,q⟩:=(show ∃t,u=Value.float y t from rx);cases q;exact kia_one PySem.W.kitx_float I.kIn True.intro e (fun z=>nomatch z) h
 | @lst a xs ea =>
  cases (show u=Value.ref a from rx);obtain⟨_,_,n,_,h1⟩:=(show ObjOk X.prog X.w H s.heap a (.lst xs) from I.hok a _ ea)
  exact kia_one kitx_list I.kIn ⟨_,h1,rfl⟩ e (fun z=>nomatch z) h
 | @frz a ob xs ea =>
  cases (show u=Value.ref a from rx);obtain⟨_,_,_,n,_,h1⟩:=(show ObjOk X.prog X.w H s.heap a (.frz ob (.lst xs)) from I.hok a _ ea)
  exact kia_one kitx_list I.kIn ⟨_,h1,rfl⟩ e (fun z=>nomatch z) h
 | @tup a xs ea =>
  cases (show u=Value.ref a from rx);obtain⟨_,_,_,p⟩:=(show ObjOk X.prog X.w H s.heap a (.tup xs) from I.hok a _ ea)
  obtain⟨o,h1,h2,_⟩:=p;exact kia_one RA I.kIn ⟨o,h1,h2⟩ e (fun z=>nomatch z) h
 | @dK a kvs ea =>
  cases (show u=Value.ref a from rx);obtain⟨_,_,vs,_,p⟩:=(show ObjOk X.prog X.w H s.heap a (.dK kvs) from I.hok a _ ea)
  obtain⟨o,es,ep,h1,h2,_⟩:=p;exact kia_one RI I.kIn ⟨o,h1,h2.1⟩ e (fun z=>nomatch z) h
 | @dT a kvs ea =>
  cases (show u=Value.ref a from rx);obtain⟨_,_,xs,_,o,es,ep,h1,h2,_⟩:=(show ObjOk X.prog X.w H s.heap a (.dT kvs) from I.hok a _ ea)
  exact kia_one RI I.kIn ⟨o,h1,h2.1⟩ e (fun z=>nomatch z) h
 | @ins a C dx fs ea cl ha hn htk hm=>cases (show u=Value.ref a from rx);obtain⟨mA,O,_⟩:=Jck I.hok ea;obtain⟨od,J,_⟩:=O.look;exact kia_one (PySem.W.kitx_own (cl.get _) cl.hd ha hn htk hm) I.kIn J e (fun z=>nomatch z) h
end
end L2

namespace L2
open PySem PySem.Spec PyProof.Rows

structure Room (k:Nat) (A:Around):Prop where
 hd:A.handled=none
 dp:A.depth+3*k+5<recursionLimit
 un:A.units+16*k+200<cLine
theorem Room.mono{j k:Nat}{A:Around}(r:Room k A)(h:j<=k):Room j A:=⟨r.hd,by have:=r.dp;omega,by have:=r.un;omega⟩
theorem Room.deeper{k:Nat}{A:Around}(r:Room (k+1) A)(env:Env):Room k (A.deeper env) :=
 ⟨r.hd,by have:=r.dp;show A.depth+1+3*k+5<_;omega,by have:=r.un;show A.units+3+16*k+200<_;omega⟩
theorem Jfc{A:Around}{C:Addr}{us:List Value}{kw:List (Str×Value)}:(A.under (.builtin "type.__call__" ⟨.ref C::us,kw⟩)).depth=A.depth+1:=by first | rfl | simp[RJ,Code.weight,Code.isCreation,Code.isGuard,Code.isCaller,Code.frames,RK,guardIds]
theorem Jfd{A:Around}{C:Addr}{us:List Value}{kw:List (Str×Value)}:(A.under (.builtin "type.__call__" ⟨.ref C::us,kw⟩)).units=A.units+1:=by first | rfl | simp[RJ,Code.cUnits,Code.frames,RK]
theorem Room.make{k:Nat}{A:Around}(r:Room (k+1) A)(C:Addr)(us:List Value)(kw:List (Str×Value)):Room k (A.under (.builtin "type.__call__" ⟨.ref C::us,kw⟩)) :=
 ⟨r.hd,by have:=r.dp;rw[Jfc];omega,by have:=r.un;rw[Jfd];omega⟩
theorem Room.depth{k:Nat}{A:Around}(r:Room k A):A.depth<recursionLimit:=by have:=r.dp;omega
theorem Room.units{k:Nat}{A:Around}(r:Room k A):A.units+64<cLine:=by have:=r.un;omega
noncomputable def Wl:TA:=fun _ H Q=>Q [] H
noncomputable def U9(ta:TE)(tr:TA):TA:=fun σ H Q=>ta σ H fun x H1=>tr σ H1 fun xs H2=>Q (x::xs) H2
section
variable{X:Cx}{e:Expr}{es:List Expr}{te:TE}{t:TA}{pos:Pos}
theorem Je:PA X [] Wl:=fun _ _ _ _ H Q I h=>LL ⟨[],H,I,.nil,h⟩
theorem Ja(ha:PE X e te)(hr:PA X es t)(hs:starEach (e::es) X.env=(false,eval e X.env)::starEach es X.env:=by rfl):PA X (e::es) (U9 te t):=by intro pos pins s σ H Q I h;rw[hs];show wpAny _ _ (spliced ((false,eval e X.env)::backTo pos (starEach es X.env))) _ _ s;refine Kq (thn (ha pins s σ H _ I h) fun u s1 ⟨x,H1,I1,r1,q1⟩=>?_);exact thn (hr pos pins s1 σ H1 _ I1 q1) fun us s2 ⟨xs,H2,I2,r2,q2⟩=>⟨x::xs,H2,I2,.cons r1 r2,q2⟩

noncomputable def Jpl(t:TA):TE:=fun σ H Q=>t σ H fun xs H1=>xs.length<=sizeLine/\∀p,H1 p=none->Q (.ref p) (upd H1 p (.tup xs))
noncomputable def JmN(t:TA):TE:=fun σ H Q=>t σ H fun xs H1=>xs.length<=sizeLine/\∀p,H1 p=none->Q (.ref p) (upd H1 p (.lst xs))
theorem YQ{x1}(h:PA X es t):PE X (.Tuple es x1 pos) (Jpl t):=by intro pins s σ H Q I hq;refine wpAny_Tuple_spliced (thn (h pos pins s σ H _ I hq) fun us s1 ⟨xs,H1,I1,r,z,q⟩=>⟨by rw[<- r.length];exact z,?_⟩);have hf:H1 s1.heap.objs.size=none:=I1.hok.fresh (Qn _);refine⟨.ref s1.heap.objs.size,upd H1 s1.heap.objs.size (.tup xs),I1.laid (t':=s1.toks) (fun b u e=>Qg _ e) (Qn _) ?_,rfl,q _ hf⟩;exact⟨z,us,r,⟨_,Qi _ rfl,rfl,_,rfl⟩⟩
theorem Uq(h:PA X es t):PE X (.List es pos) (JmN t):=by intro pins s σ H Q I hq;refine wpAny_List_spliced (thn (h pos pins s σ H _ I hq) fun us s1 ⟨xs,H1,I1,r,z,q⟩=>⟨by rw[<- r.length];exact z,?_⟩);have hf:H1 s1.heap.objs.size=none:=I1.hok.fresh (Qn _);refine⟨.ref s1.heap.objs.size,upd H1 s1.heap.objs.size (.lst xs),I1.laid (t':=s1.toks) (fun b u e=>Qg _ e) (Qn _) ?_,rfl,q _ hf⟩;exact⟨z,us,0,r,Qi _ rfl⟩
end

noncomputable abbrev Sp:=List V->Hp->VK->XK->Prop
noncomputable abbrev CXT:=List Env->Hp->Shared->XK->Value->Shared->Prop

structure Env0 (P:Program) (w:World) (K:Frag) (mg:Str->Option Value) (base:Heap) (A:Around) (outer:List Env) (s:Shared) (H:Hp):Prop where
 frames:A.frames=some outer
 mod:Mod K mg base
 bs:∀b o,base.get? b=some o->s.heap.get? b=some o/\H b=none
 bsz:base.objs.size<=s.heap.objs.size
 funs:s.heap.FunFrames base outer
 frf:∀b∈frs outer,H b=none
 hok:HOk P w H s.heap
 bare:AllBare s.gens
noncomputable def CE(outer:List Env)(P:Program)(w:World)(H:Hp)(s:Shared)(Q:VK)(u:Value)(s':Shared):Prop :=
 ∃v H',s'.os=s.os/\AllBare s'.gens/\Un (frs outer) [] H H' s.heap s'.heap/\HOk P w H' s'.heap/\RelV v u/\Q v H'
noncomputable def CR(CX:CXT)(outer:List Env)(P:Program)(w:World)(H:Hp)(s:Shared)(Q:VK)(E:XK)(r:Result)(s':Shared):Prop :=
 match r with
 | .ok (.ret u)=>CE outer P w H s Q u s'
 | .ok _=>False
 | .error e=>CX outer H s E e s'
structure FnOk (P:Program) (w:World) (K:Frag) (mg:Str->Option Value) (base:Heap) (CX:CXT) (k:Nat) (f:Addr) (fd:FuncData) (ps:List Str) (sp:Sp):Prop where
 len:∀vs H Q E,sp vs H Q E->vs.length=ps.length
 run:∀(A:Around) (outer:List Env) (s:Shared) (H:Hp) (args:Args) (us:List Value) (vs:List V) (Q:VK) (E:XK),Room k A->Env0 P w K mg base A outer s H->BindsTo s fd args (ps.zip us)->Vals vs us->sp vs H Q E ->
  codeAny (model P w) A (.call (.ref f) args) (CR CX outer P w H s Q E) s
theorem FnOk.imp{P:Program}{w:World}{K:Frag}{mg:Str->Option Value}{base:Heap}{CX:CXT}{k:Nat}{f:Addr}{fd:FuncData}{ps:List Str}{sp sp':Sp}(F:FnOk P w K mg base CX k f fd ps sp)
 (h:∀vs H Q E,sp' vs H Q E->sp vs H Q E):FnOk P w K mg base CX k f fd ps sp' :=
 ⟨fun vs H Q E q=>F.len vs H Q E (h _ _ _ _ q),fun A outer s H args us vs Q E hr he hb hv hs=>F.run A outer s H args us vs Q E hr he hb hv (h _ _ _ _ hs)⟩

theorem Env0.make{P:Program}{w:World}{K:Frag}{mg:Str->Option Value}{base:Heap}{A:Around}{outer:List Env}{s:Shared}{H:Hp}(e:Env0 P w K mg base A outer s H)(C:Addr)(us:List Value)(kw:List (Str×Value)) :
 Env0 P w K mg base (A.under (.builtin "type.__call__" ⟨.ref C::us,kw⟩)) outer s H:=⟨by first | exact e.frames | (simpa [RJ,Code.envs,RK,pushEnvs] using e.frames),e.mod,e.bs,e.bsz,e.funs,e.frf,e.hok,e.bare⟩
section
variable{X:Cx}{pins:List (Addr×Obj)}{σ:St}{H:Hp}{s s':Shared}
theorem Inv.env0(I:Inv X pins σ H s):Env0 X.prog X.w X.K X.mg X.base X.A X.stack s H :=
 ⟨I.ok.frames,I.ok.mod,I.bs,Gn I.ok.bsz I.sz,I.stack,I.stkFree,I.hok,I.bare⟩
theorem Inv.after{Q:VK}{u:Value}(I:Inv X pins σ H s)(h:CE X.stack X.prog X.w H s Q u s'):EP X pins σ Q u s':=by obtain⟨v,H',os,bare,un,hok,r,q⟩:=h;obtain⟨hh,g,d,t,os'⟩:=s';obtain rfl:os'=s.os:=os;exact⟨v,H',I.call (h':=hh) (g':=g) (d':=d) (t':=t) (ch:=[]) un hok bare (fun b z=>absurd z (by simp)),r,q⟩
end

noncomputable def Jg7(sp:Sp)(dvs:List V)(E:XK)(t:TA):TE:=fun σ H Q=>t σ H fun vs H1=>sp (vs++dvs) H1 Q E
noncomputable def Jg9(C:Addr)(sp:Sp)(dvs:List V)(E:XK)(t:TA):TE:=fun σ H Q=>t σ H fun vs H1=>∀x dx,H1 x=none->H1 dx=none->dx≠x ->
 sp (.ref x::(vs++dvs)) (upd (upd H1 dx (.own x)) x (.ins C dx [])) (fun v H2=>v=.non/\Q (.ref x) H2) E

noncomputable def Binds(K:Frag)(fd:FuncData)(ps:List Str)(ds:List Value):Prop :=
 ∀(s:Shared) (us:List Value),K.In s.heap->(us++ds).length=ps.length->BindsTo s fd ⟨us,[]⟩ (ps.zip (us++ds))
theorem Binds.all{K:Frag}{fd:FuncData}{ps:List Str}(h:∀us:List Value,us.length=ps.length->bindArgs fd ⟨us,[]⟩=pure (ps.zip us)):Binds K fd ps []:=fun s us _ hl=>by rw[Kz] at hl ⊢;exact .of_eq (h us hl)

noncomputable def ZV(CX:CXT)(X:Cx)(E:XK):Prop:=∀(pins:List (Addr×Obj)) (σ:St) (H:Hp) (s:Shared) (e:Value) (s':Shared),Inv X pins σ H s->CX X.stack H s E e s'->X.xe e s'

section
variable{X:Cx}{CX:CXT}{k:Nat}{f C:Addr}{fd:FuncData}{ps:List Str}{sp:Sp}{dvs:List V}{ds:List Value}{E:XK}{x m:Str}{p pos apos:Pos}{e o:Expr}{es:List Expr}{ta:TE}{t:TA}

theorem Jo5{pins:List (Addr×Obj)}{σ:St}{H:Hp}{s:Shared}{Q:VK}{us:List Value}{vs:List V}(F:FnOk X.prog X.w X.K X.mg X.base CX k f fd ps sp)(hr:Room k X.A)(hb:Binds X.K fd ps ds)(hd:Vals dvs ds)(hx:ZV CX X E)
 (I:Inv X pins σ H s) (r:Vals vs us) (h:sp (vs++dvs) H Q E):wpAny (model X.prog X.w) X.A (call (.ref f) us) (EP X pins σ Q) X.xe s:=by
 have r2:Vals (vs++dvs) (us++ds):=r.append hd
 have hl:(us++ds).length=ps.length:=by rw[<- r2.length];exact F.len _ _ _ _ h
 refine wpAny_call (Lj (F.run X.A X.stack s H ⟨us,[]⟩ (us++ds) (vs++dvs) Q E hr I.env0 (hb s us I.kIn hl) r2 h) fun r s' hq=>?_)
 cases r with
 | error e=>exact hx pins σ H s e s' I hq
 | ok fl =>
  cases fl with
  | ret u=>exact I.after hq
  | next=>exact Kl hq
  | brk=>exact Kl hq
  | cont=>exact Kl hq

theorem Jl2(F:FnOk X.prog X.w X.K X.mg X.base CX k f fd ps sp)(hr:Room k X.A)(hg:Gl X x)(hm:X.mg x=some (.ref f))(hk:keepIn X.K (.ref f)=true)(hb:Binds X.K fd ps ds)(hd:Vals dvs ds)(hx:ZV CX X E)
 (ha:PA X (e::es) t) (hdb:(x == ("__debug__":Str))=false:=by decide) (he:starEach (e::es) X.env=(false,eval e X.env)::starEach es X.env:=by rfl) (hpl:(backTo pos (starEach es X.env)).any (·.1)=false:=by rfl) :
 PE X (.Call (.Name x p) (e::es) [] pos) (Jg7 sp dvs E t):=by
 intro pins s σ H Q I h;refine K1 (Jcn I hg hm ?_ hdb);refine RB (h₀:=X.base) I.ok.mod.kin hk (thn (ha pos pins s σ H _ I h) fun us s1 ⟨vs,H1,I1,r,q⟩=>⟨I1.kIn,?_⟩) he hpl;exact Jo5 F hr hb hd hx I1 r q
structure Mk (K:Frag) (C f:Addr):Prop where
 makes:makesIn K C=true
 init:findIn K (.ref C) "__init__"=some (some (.ref f))
 fn:PySem.W.isFn K (.ref f)=true
 kp:keepIn K (.ref C)=true

theorem Jj8{pins:List (Addr×Obj)}{σ:St}{H:Hp}{s:Shared}{Q:VK}{us:List Value}{vs:List V}(M:Mk X.K C f)(F:FnOk X.prog X.w X.K X.mg X.base CX k f fd ps sp)(hr:Room (k+1) X.A)(hb:Binds X.K fd ps ds)(hd:Vals dvs ds)
 (hx:ZV CX X E) (I:Inv X pins σ H s) (r:Vals vs us)
 (h:∀x dx,H x=none->H dx=none->dx≠x->sp (.ref x::(vs++dvs)) (upd (upd H dx (.own x)) x (.ins C dx [])) (fun v H2=>v=.non/\Q (.ref x) H2) E) :
 wpAny (model X.prog X.w) X.A (call (.ref C) us) (EP X pins σ Q) X.xe s:=by
 have hq:=h (s.heap.objs.size+1) s.heap.objs.size (I.hok.fresh (LG _)) (I.hok.fresh (Qn _)) (Qy (Gy _))
 have I2:=Inv.made (C:=C) I
 have r2:Vals (V.ref (s.heap.objs.size+1)::(vs++dvs)) (Value.ref (s.heap.objs.size+1)::(us++ds)):=.cons rfl (r.append hd)
 have hl:(Value.ref (s.heap.objs.size+1)::us++ds).length=ps.length:=by have e:=r2.length;rw[F.len _ _ _ _ hq] at e;exact e.symm
 refine wpAny_call (Jjw (f:=f) I.kIn M.makes M.init (beq_iff_eq.mp M.fn) (Lj (F.run _ X.stack _ _ ⟨Value.ref (s.heap.objs.size+1)::us,[]⟩ (Value.ref (s.heap.objs.size+1)::(us++ds)) _ _ E (hr.make C us [])
  (I2.env0.make C us []) (hb _ (Value.ref (s.heap.objs.size+1)::us) I2.kIn hl) r2 hq) fun r s' hq'=>?_))
 cases r with
 | error e=>exact hx pins σ _ _ e s' I2 hq'
 | ok fl =>
  cases fl with
  | ret u=>obtain⟨v,H',I3,rv,ev,q3⟩:=I2.after hq';subst ev;exact⟨rv,⟨V.ref (s.heap.objs.size+1),H',I3,rfl,q3⟩⟩
  | next=>exact Kl hq'
  | brk=>exact Kl hq'
  | cont=>exact Kl hq'
theorem Jl6(M:Mk X.K C f)(F:FnOk X.prog X.w X.K X.mg X.base CX k f fd ps sp)(hr:Room (k+1) X.A)(hg:Gl X x)(hm:X.mg x=some (.ref C))(hb:Binds X.K fd ps ds)(hd:Vals dvs ds)(hx:ZV CX X E)
 (ha:PA X (e::es) t) (hdb:(x == ("__debug__":Str))=false:=by decide) (he:starEach (e::es) X.env=(false,eval e X.env)::starEach es X.env:=by rfl) (hpl:(backTo pos (starEach es X.env)).any (·.1)=false:=by rfl) :
 PE X (.Call (.Name x p) (e::es) [] pos) (Jg9 C sp dvs E t):=by
 intro pins s σ H Q I h;refine K1 (Jcn I hg hm ?_ hdb);refine RB (h₀:=X.base) I.ok.mod.kin M.kp (thn (ha pos pins s σ H _ I h) fun us s1 ⟨vs,H1,I1,r,q⟩=>⟨I1.kIn,?_⟩) he hpl;exact Jj8 M F hr hb hd hx I1 r q
end

section
variable{X:Cx}{CX:CXT}{k:Nat}{f C:Addr}{fd:FuncData}{ps ks:List Str}{sp:Sp}{E:XK}{x m:Str}{p pos apos kpos:Pos}{e o:Expr}{es:List Expr}{kws:List Keyword}{te ta:TE}{t tk:TA}{nm:Option Str}
variable{g:List Value->List Value->List Value}{gV:List V->List V->List V}
end

structure FnScope (N P:List Str) (sc:Scope):Prop where
 kind:sc.kind=.function
 co:sc.isCoroutine=false
 gen:sc.isGenerator=false
 nd:N.Nodup
 pre:N.take P.length=P
 par:∀x∈P,sc.names.lookup x=some .local\/sc.names.lookup x=some .cell
 nofree:∀y∈sc.names,y.2≠.free

theorem Jbd{kindOf:Str->Option NameKind}{x:Str}:∀{binds:List (Str×Value)} {m:Str->Option Value},(∀v,(x,v)∉binds)->bindL kindOf binds m x=m x
 | [],_,_=>rfl
 | (n,v)::r,m,h=>by
  unfold bindL;rw[Jbd fun w hw=>h w (Qc _ hw)];split
  ·have:x≠n:=by rintro rfl;exact h v Qe
   simp[this]
  ·rfl
theorem Jbb{kindOf:Str->Option NameKind}{x:Str}:∀{binds:List (Str×Value)} {m:Str->Option Value},(∀v,(x,v)∉binds)->bindC kindOf binds m x=m x
 | [],_,_=>rfl
 | (n,v)::r,m,h=>by
  unfold bindC;rw[Jbb fun w hw=>h w (Qc _ hw)];split
  ·rfl
  ·have:x≠n:=by rintro rfl;exact h v Qe
   simp[this]
theorem Jbc{kindOf:Str->Option NameKind}{x:Str}{v:Value}:∀{P:List Str} {vs:List Value} {i:Nat} {m:Str->Option Value},P.Nodup->P[i]?=some x->vs[i]?=some v->kindOf x=some .local ->
 bindL kindOf (P.zip vs) m x=some v
 | [],_,_,_,_,h,_,_=>by simp at h
 | _::_,[],_,_,_,_,h,_=>by simp at h
 | p::P,w::vs,0,m,nd,h1,h2,hk=>by simp at h1 h2;subst h1;subst h2;show bindL kindOf ((p,w)::P.zip vs) m p=_;unfold bindL;rw[Jbd fun v hv=>(QX.mp nd).1 (K6 hv).1,if_pos hk];simp
 | p::P,w::vs,i+1,m,nd,h1,h2,hk=>by show bindL kindOf ((p,w)::P.zip vs) m x=_;unfold bindL;exact Jbc (i:=i) (QX.mp nd).2 (by simpa using h1) (by simpa using h2) hk
theorem Jba{kindOf:Str->Option NameKind}{x:Str}{v:Value}:∀{P:List Str} {vs:List Value} {i:Nat} {m:Str->Option Value},P.Nodup->P[i]?=some x->vs[i]?=some v->kindOf x≠some .local ->
 bindC kindOf (P.zip vs) m x=some v
 | [],_,_,_,_,h,_,_=>by simp at h
 | _::_,[],_,_,_,_,h,_=>by simp at h
 | p::P,w::vs,0,m,nd,h1,h2,hk=>by simp at h1 h2;subst h1;subst h2;show bindC kindOf ((p,w)::P.zip vs) m p=_;unfold bindC;rw[Jbb fun v hv=>(QX.mp nd).1 (K6 hv).1,if_neg hk];simp
 | p::P,w::vs,i+1,m,nd,h1,h2,hk=>by show bindC kindOf ((p,w)::P.zip vs) m x=_;unfold bindC;exact Jba (i:=i) (QX.mp nd).2 (by simpa using h1) (by simpa using h2) hk

noncomputable def VO(N:List Str)(vs:List V):St:=vs.map some++Qt (N.length-vs.length) none

noncomputable def Jht(CX:CXT)(P:Program)(w:World)(K:Frag)(mg:Str->Option Value)(base:Heap)(N:List Str)(qual:Str)(scope:Scope)(f:Addr)(cd:Value)(A:Around)(outer:List Env)(s:Shared)(H:Hp)(E:XK):Cx where
 prog:=P
 w:=w
 K:=K
 mg:=mg
 base:=base
 A:=A.deeper (envOfC qual scope s.heap.objs.size f cd)
 N:=N
 s₀:=s
 H₀:=H
 env:=envOfC qual scope s.heap.objs.size f cd
 outer:=outer
 stack:=envOfC qual scope s.heap.objs.size f cd::outer
 ex:=[]
 calm:=true
 fn:=fun _=>true
 pn:=[]
 xe:=fun e s'=>wpAny (model P w) (A.deeper (envOfC qual scope s.heap.objs.size f cd)) (leaving (envOfC qual scope s.heap.objs.size f cd) e) (fun _ s''=>CX outer H s E e s'') (fun e' s''=>CX outer H s E e' s'') s'

theorem Jc8{sc:Scope}{n:Nat}{x:Str}(h:sc.names.lookup x=some .cell):∃c,(cellsFrom n sc.names []).lookup x=some c:=by have q:=M0 sc.names n [] (.inl h);exact ME.mp q

theorem JhE{CX:CXT}{P:Program}{w:World}{K:Frag}{mg:Str->Option Value}{base:Heap}{N ps:List Str}{qual:Str}{scope:Scope}{f:Addr}{cd:Value}{A:Around}{outer:List Env}{s s1:Shared}{H:Hp}{E:XK}{us:List Value}{vs:List V}
 (S:FnScope N ps scope) (hd:A.handled=none) (e0:Env0 P w K mg base A outer s H) (hl:vs.length=ps.length) (r:Vals vs us)
 (x:InCallC s s.heap.objs.size (bindL (envOfC qual scope s.heap.objs.size f cd).kindOf (ps.zip us) fun _=>none) (cellsFrom (s.heap.objs.size+1) scope.names []) (bindC (envOfC qual scope s.heap.objs.size f cd).kindOf (ps.zip us) fun _=>none) s1) :
 Inv (Jht CX P w K mg base N qual scope f cd A outer s H E) [] (VO N vs) H s1:=by
 have hpl:ps.length<=N.length:=by have:=congrArg L1 S.pre;rw[Lk] at this;omega
 obtain⟨h1,tk,rfl,hk⟩:=x.done;have noA:∀b:Addr,b∉(Jht CX P w K mg base N qual scope f cd A outer s H E).ex:=fun b z=>absurd (show b∈([]:List Addr) from z) (by simp)
 refine⟨⟨e0.mod,S.kind,rfl,rfl,Qn _,fun y z c h1 h2=>?_,fun y hy=>?_,fun y c _ h=>?_,fun _=>hd,Around.frames_deeper e0.frames,.inr ⟨rfl,rfl⟩,fun b z=>absurd z (noA b),e0.bs,e0.bsz,fun b _ _=>noA b,fun b z=>absurd z (noA b),e0.funs,e0.frf⟩,
  rfl,e0.bare,Un.kept hk,⟨_,x.toInCall.ns,fun i y v h1 h2 h3=>?_⟩,fun y c h=>⟨_,x.cell y c h⟩,e0.hok.fresh (Qn _),fun y c h=>?_,fun p hp=>absurd (show p∈([]:List (Addr×Obj)) from hp) (by simp),e0.hok.kept hk,?_⟩
 ·exact name_of_addr x.apart (Kn h1) (Kn h2)
 ·have hy:scope.names.lookup y=some .cell\/scope.names.lookup y=some .free:=hy;rcases hy with hy|hy
  ·exact Jc8 hy
  ·exact absurd rfl (S.nofree _ (Kn hy))
 ·exact GS (x.above y c (Kn h))
 ·have hi:i<vs.length:=by
   unfold VO at h2
   by_cases hi:i<vs.length
   ·exact hi
   ·rw[QI (by simpa using hi)] at h2;rw[MK] at h2;split at h2 <;> cases h2
  have ha:vs[i]?=some v:=by
   unfold VO at h2;rw[QG (by simpa using hi),Qq] at h2
   cases e:vs[i]? with
   | none=>rw[e] at h2;cases h2
   | some a=>rw[e] at h2;cases h2;rfl
  obtain⟨u,hu,rv⟩:=r.get ha
  have hp:ps[i]?=some y:=by rw[<- S.pre,List.getElem?_take_of_lt (by omega)];exact h1
  have ndP:ps.Nodup:=by rw[<- S.pre];exact S.nd.sublist (List.take_sublist _ _)
  refine⟨u,rv,?_⟩;rcases S.par y (QC hp) with k|k
  ·exact .inl ⟨k,Jbc ndP hp hu k⟩
  ·obtain⟨c,e⟩:=Jc8 (n:=s.heap.objs.size+1) k;refine .inr ⟨.inl k,c,e,?_⟩;have q:=x.cell y c e;rw[Jba ndP hp hu (by show scope.names.lookup y≠_;rw[k];decide)] at q;exact q
 ·exact e0.hok.fresh (GS (x.above y c (Kn h)))
 ·unfold VO;show _=N.length;rw[Qu,Qm,Gx];omega

theorem JpR{CX:CXT}{P:Program}{w:World}{K:Frag}{mg:Str->Option Value}{base:Heap}{k:Nat}{f:Addr}{name qual:Str}{params:Arguments}{body:List Stmt}{scope:Scope}{dV kV doc pm cdv ct oc:Value}{an od:Option Addr}
 {osl:Array (Option Value)} {N ps:List Str} {sp:Sp} (lk:K.lookup f=some ⟨oc,od,.func (fnOf name qual params body scope dV kV doc pm an cdv ct),osl⟩) (hcd:codeIn K cdv qual=true) (S:FnScope N ps scope)
 (len:∀vs H Q E,sp vs H Q E->vs.length=ps.length)
 (hbody:∀(A:Around) (outer:List Env) (s:Shared) (H:Hp) (vs:List V) (Q:VK) (E:XK),Room k (A.deeper (envOfC qual scope s.heap.objs.size f cdv))->sp vs H Q E ->
  ∃t,PSs (Jht CX P w K mg base N qual scope f cdv A outer s H E) body t/\t { nx:=fun _ H'=>Q .non H',rt:=Q } (VO N vs) H) :
 FnOk P w K mg base CX (k+1) f (fnOf name qual params body scope dV kV doc pm an cdv ct) ps sp:=by
 refine⟨len,fun A outer s H args us vs Q E hr e0 hb r hsp=>?_⟩;have hl:=len _ _ _ _ hsp;have KX:K.In s.heap:=e0.mod.kin.keeps fun b o e=>(e0.bs b o e).1
 have lim:s.heap.NoLimit:=e0.mod.nolimit.keeps fun b o e=>(e0.bs b o e).1
 have hkind:∀y∈ps.zip us,scope.names.lookup y.1=some .local\/(scope.names.lookup y.1=some .cell/\((cellsFrom (s.heap.objs.size+1) scope.names []).lookup y.1).isSome=true):=fun⟨n,v⟩ hy=>by
  rcases S.par n (K6 hy).1 with q|q
  ·exact .inl q
  ·exact .inr ⟨q,M0 _ _ _ (.inl q)⟩
 refine codeAny_call_function hr.depth (KX _ _ lk) rfl S.co S.gen rfl (PySem.W.codeRec_of KX hcd) (hb _ _ _ _ ?_);refine wpAny_newFunctionEnv_cells S.kind hkind fun env he s1 x=>?_
 subst he;refine⟨lim.keeps x.toInCall.keep,codeAny_func ?_⟩;obtain⟨t,ht,hq⟩:=hbody A outer s H vs Q E (hr.deeper _) hsp;have I:Inv (Jht CX P w K mg base N qual scope f cdv A outer s H E) [] (VO N vs) H s1:=JhE S hr.hd e0 hl r x;refine LA (ht [] s1 (VO N vs) H _ I hq) (fun fl s' hs=>?_) fun e s' hs=>hs
 have fin:∀{σ':St} {H':Hp} {v:V} {u:Value},Inv (Jht CX P w K mg base N qual scope f cdv A outer s H E) [] σ' H' s'->RelV v u->Q v H'->CE outer P w H s Q u s' :=
  fun {σ' H' v u} J rv q=>⟨v,H',J.os,J.bare,J.base,J.hok,rv,q⟩
 cases fl with
 | ret u=>obtain⟨v,σ',H',J,rv,q⟩:=hs;exact fin J rv q
 | next=>obtain⟨σ',H',J,q⟩:=hs;exact fin (v:=V.non) (u:=Value.none) J rfl q
 | brk=>obtain⟨_,_,_,q⟩:=hs;exact Kl q
 | cont=>obtain⟨_,_,_,q⟩:=hs;exact Kl q
end L2

namespace L2
open PySem PySem.Spec PyProof.Rows
section
variable{X:Cx}{x:Str}{p pos:Pos}{e:Expr}{es:List Expr}{t:TA}{id T:String}{r:List V->Hp->VK->Prop}

noncomputable def tCB(r:List V->Hp->VK->Prop)(t:TA):TE:=fun σ H Q=>t σ H fun vs H1=>r vs H1 Q
theorem JD(hc:YR X (.builtin id) r)(hg:Gl X x)(hm:X.mg x=none)(hv:bootBuiltins x=some (.builtin id))(ha:PA X (e::es) t)(hn:x≠"__name__":=by decide)(hdb:(x == ("__debug__":Str))=false:=by decide)
 (he:starEach (e::es) X.env=(false,eval e X.env)::starEach es X.env:=by rfl) (hpl:(backTo pos (starEach es X.env)).any (·.1)=false:=by rfl):PE X (.Call (.Name x p) (e::es) [] pos) (tCB r t):=by
 intro pins s σ H Q I h;refine K1 (U1 I hg hm hv ?_ hn hdb);exact PyProof.Rows.callWith_builtin1 (thn (ha pos pins s σ H _ I h) fun us s1 ⟨vs,H1,I1,r1,q1⟩=>hc pins s1 σ H1 vs us Q I1 r1 q1) he hpl
theorem US(hc:YR X (.type T) r)(hg:Gl X x)(hm:X.mg x=none)(hv:bootBuiltins x=some (.type T))(ha:PA X (e::es) t)(hn:x≠"__name__":=by decide)(hdb:(x == ("__debug__":Str))=false:=by decide)
 (he:starEach (e::es) X.env=(false,eval e X.env)::starEach es X.env:=by rfl) (hpl:(backTo pos (starEach es X.env)).any (·.1)=false:=by rfl):PE X (.Call (.Name x p) (e::es) [] pos) (tCB r t):=by
 intro pins s σ H Q I h;refine K1 (U1 I hg hm hv ?_ hn hdb);exact Gg (thn (ha pos pins s σ H _ I h) fun us s1 ⟨vs,H1,I1,r1,q1⟩=>hc pins s1 σ H1 vs us Q I1 r1 q1) he hpl
end
end L2

namespace HT
open PySem PyProof.Rows

theorem JiU(A:Around)(s:Shared)(a:Int)(t:Tok)(c:Int)(u:Tok):∃e,SeqAt.EqAt A s (.int a t) (.int c u) e/\(e=true↔a=c) :=
 ⟨(a == c),SeqAt.EqAt.int_int a t c u,by simp⟩
section
open PySem.SeqAt
open PySem.AutoSeq1 (wpAny_loadPart')
open PySem.MeetsSeq PySem.MeetsSeq2 PySem.MeetsSeq3

end

section
variable{prog:Program}{w:World}{A:Around}{E:Value->Shared->Prop}{s:Shared}

theorem Jk2{t b:Addr}{vs ws:List Value}{Q:Value->Shared->Prop}(ht:IsTup s.heap t vs.toArray)(hb:IsTup s.heap b ws.toArray)(hv:vs≠[])
 (h1:ws=[]->Q (.ref t) s) (h2:ws≠[]->Q (.ref s.heap.objs.size) { s with heap:=s.heap.push { cls:=.type "tuple",data:=.seq (vs++ws).toArray } })
 (hsz:vs.length+ws.length<=sizeLine):wpAny (model prog w) A (binaryOp .Add (.ref t) (.ref b)) Q E s:=by
 obtain⟨⟨cls,dd,data,sl⟩,ho,hc,n,hd⟩:=id ht;obtain⟨⟨cls2,dd2,data2,sl2⟩,ho2,hc2,n2,hd2⟩:=id hb;simp only at hc hd hc2 hd2;subst hc hd hc2 hd2;have e:vs.toArray++ws.toArray=(vs++ws).toArray:=by simp
 by_cases hw:ws=[]
 ·exact concat_meets ⟨_,ho,rfl⟩ ⟨_,ho2,rfl⟩ noFill_tuple_add seq_tuple_add M1 ML (MF _ _)
   (tuple_addW1 t b vs.toArray ws.toArray n n2 dd dd2 sl sl2 (by simpa using hv) (by simp[hw])) ⟨ho,ho2,h1 hw⟩
 ·refine concat_meets ⟨_,ho,rfl⟩ ⟨_,ho2,rfl⟩ noFill_tuple_add seq_tuple_add M1 ML (MF _ _)
   (tuple_addW2 t b vs.toArray ws.toArray n n2 dd dd2 sl sl2 (by simpa using hv) (by simpa using hw) (by rw[Qo,Qo];exact hsz)) ⟨ho,ho2,?_⟩
  rw[e];exact h2 hw

noncomputable def sIx(n d:Nat):Option Int->Nat
 | none=>d
 | some v=>if v<0 then(v+(n:Int)).toNat else min v.toNat n
theorem Jo7(n d:Nat)(hd:d<=n)(o:Option Int):sIx n d o<=n:=by
 cases o with
 | none=>exact hd
 | some v =>
  show(if v<0 then(v+(n:Int)).toNat else min v.toNat n)<=n
  by_cases hv:v<0
  ·rw[if_pos hv];omega
  ·rw[if_neg hv];exact Nat.min_le_right _ _
theorem Jf2(v:Int)(n d:Nat):(if v<0 then max (v+(n:Int)) 0 else min v (n:Int))=((sIx n d (some v):Nat):Int):=by
 show(if v<0 then max (v+(n:Int)) 0 else min v (n:Int))=(((if v<0 then(v+(n:Int)).toNat else min v.toNat n):Nat):Int)
 by_cases hv:v<0
 ·simp only[if_pos hv];omega
 ·simp only[if_neg hv];omega
theorem JeH(lo hi:Option Int)(n:Nat):Lo lo hi 1 (n:Int)=(((sIx n 0 lo:Nat):Int),((sIx n n hi:Nat):Int)):=by
 have h1:¬((1:Int)<0):=by omega
 unfold Lo;simp only[h1,if_false];refine Kh ?_ ?_
 ·cases lo with
  | none=>rfl
  | some v=>exact Jf2 v n 0
 ·cases hi with
  | none=>rfl
  | some v=>exact Jf2 v n n
theorem Jfo(i j:Nat):Kw (i:Int) (j:Int) 1=j-i:=by
 unfold Kw;have h1:(1:Int)>0:=by omega
 simp only[h1,if_true,Int.ediv_one];split <;> omega
theorem JaJ{v:Value}{o:Option Int}{Q:Option Int->Shared->Prop}(p:IsPart v o)(h:Q o s):wpAny (model prog w) A (Builtin.Slice.slicePartIndex v) Q E s:=by
 cases p with
 | none=>exact slicePart_none h
 | int i t=>exact slicePart_int h
theorem Vw{sl:Addr}{vl vu:Value}{lo hi:Option Int}{n:Nat}{Q:Int×Int×Nat->Shared->Prop}(hs:s.heap.IsSliceOf sl vl vu .none)(pl:IsPart vl lo)(pu:IsPart vu hi)
 (h:Q (((sIx n 0 lo:Nat):Int),1,sIx n n hi-sIx n 0 lo) s):wpAny (model prog w) A (Mm (.ref sl) (pure (n:Int))) Q E s:=by
 obtain⟨os,hos,hcs,hds⟩:=id hs;unfold Mm Builtin.Slice.sliceFields;refine Qa (Qa (QR hos hds (x:=vl) rfl (Qa (QR hos hds (x:=vu) rfl (Qa (QR hos hds (x:=.none) rfl (Qf ?_)))))));refine Qa (slicePart_none ?_);show wpAny _ _ (if ((1:Int) == 0)=true then _ else _) _ _ s;rw[if_neg (by decide)];refine Qa (JaJ pl (Qa (JaJ pu (Qa (Qf ?_)))))
 show wpAny _ _ (match Lo lo hi 1 (n:Int) with|(lo,hi)=>pure (lo,(1:Int),Kw lo hi 1)) _ _ s;rw[JeH lo hi n]
 show wpAny _ _ (pure (((sIx n 0 lo:Nat):Int),(1:Int),Kw ((sIx n 0 lo:Nat):Int) ((sIx n n hi:Nat):Int) 1)) _ _ s;rw[Jfo];exact Qf h
theorem JjQ(xs:Array Value)(i k:Nat):((Le k).filterMap fun(m:Nat)=>xs[((i:Int)+(m:Int)*1).toNat]?).toArray=((xs.toList.drop i).take k).toArray:=by
 have e:(fun(m:Nat)=>xs[((i:Int)+(m:Int)*1).toNat]?)=fun m=>xs[i+m]?:=by
  funext m
  have:((i:Int)+(m:Int)*1).toNat=i+m:=by omega
  rw[this]
 rw[e];have:=pick_run xs i k;rw[List.filterMap_map] at this;have e2:((fun x=>xs[x]?) ∘ fun x=>i+x)=fun m=>xs[i+m]?:=rfl
 rw[e2] at this;rw[this]

theorem WR{t sl:Addr}{items:Array Value}{vl vu:Value}{lo hi:Option Int}{Q:Value->Shared->Prop}(ht:IsTup s.heap t items)(hs:s.heap.IsSliceOf sl vl vu .none)(pl:IsPart vl lo)(pu:IsPart vu hi)
 (hw:¬(sIx items.size 0 lo=0/\sIx items.size items.size hi=items.size))
 (h:Q (.ref s.heap.objs.size) { s with heap:=s.heap.push { cls:=.type "tuple",data:=.seq ((items.toList.drop (sIx items.size 0 lo)).take (sIx items.size items.size hi-sIx items.size 0 lo)).toArray } })
 (hsz:items.size<=sizeLine):wpAny (model prog w) A (getItem (.ref t) (.ref sl)) Q E s:=by
 have htake:sizeOk (.seq ((items.toList.drop (sIx items.size 0 lo)).take (sIx items.size items.size hi-sIx items.size 0 lo)).toArray):=by show((items.toList.drop (sIx items.size 0 lo)).take (sIx items.size items.size hi-sIx items.size 0 lo)).toArray.size<=sizeLine;rw[Qo,Lk,MM,QE];omega
 have hj:sIx items.size items.size hi<=items.size:=Jo7 _ _ (Qn _) hi;obtain⟨os,hos,hcs,hds⟩:=id hs
 have hTs:s.TypeIs (.ref sl) "slice":=⟨os,hos,hcs⟩
 unfold getItem
 try with_reducible refine Gs ?_
 first|refine Qa (Qf ?_)|skip
 refine Qa (wpAny_sequenceKey ht.typeIs (by decide) ?_);refine Qa (QJ (name:=Q1 "__getitem__") ht.typeIs Gd
  (QV Gd ht.typeIs entry_tuple_getitem ?_ (args_tuple_getitem _ _)))
 show wpAny _ _ (Mn (.ref t) >>= _) _ _ s;refine Qa (tupleItemsOf_ ht ?_);refine Qa (LM hTs ?_);rw[if_pos (by decide)];refine Qa (Vw hs pl pu ?_)
 have hno:¬((((sIx items.size 0 lo:Nat):Int) == 0 && (1:Int) == 1 && (sIx items.size items.size hi-sIx items.size 0 lo) == items.size)=true):=by intro q;rw[QM,QM] at q;have q1:((sIx items.size 0 lo:Nat):Int)=0:=eq_of_beq q.1.1;have q2:sIx items.size items.size hi-sIx items.size 0 lo=items.size:=eq_of_beq q.2;exact hw ⟨by omega,by omega⟩
 show wpAny _ _ (if (((sIx items.size 0 lo:Nat):Int) == 0 && (1:Int) == 1 && (sIx items.size items.size hi-sIx items.size 0 lo) == items.size)=true then _ else _) _ _ s;rw[if_neg hno,JjQ]
 first
  | exact Qa (m:=KF _) (QZ (Qf ⟨_,rfl,Qf h⟩) htake)
  | exact Qa (m:=KF _) (QZ (Qa (Qf (Qf ⟨_,rfl,Qf h⟩))) htake)
  | exact Qa (Qa (m:=KF _) (QZ (Qf (Qf ⟨_,rfl,Qf h⟩)) htake))
  | exact Qa (Qa (m:=KF _) (QZ (Qf ⟨_,rfl,Qf h⟩) htake))
end
end HT

namespace L2
open PySem PySem.Spec PyProof.Rows

noncomputable abbrev TO:=St->Hp->(Option Int->Hp->Prop)->Prop
noncomputable def PO(X:Cx)(e:Option Expr)(t:TO):Prop :=
 ∀(pins:List (Addr×Obj)) (s:Shared) (σ:St) (H:Hp) (Q:Option Int->Hp->Prop),Inv X pins σ H s->t σ H Q ->
  wpAny (model X.prog X.w) X.A (evalPart e X.env) (fun u s'=>∃o H',Inv X pins σ H' s'/\IsPart u o/\Q o H') X.xe s
noncomputable def Jha:TO:=fun _ H Q=>Q none H
noncomputable def Jnr(t:TE):TO:=fun σ H Q=>t σ H fun x H1=>∃i,x=.int i/\Q (some i) H1

theorem Y1{ns:List Int}:∀{us:List Value},Vals (ns.map V.int) us->IntsAre us ns:=by
 induction ns with
 | nil=>intro us r;rw[K2] at r;cases r;exact .nil
 | cons n ns ih =>
  intro us r;rw[Qd] at r
  cases r with
  | cons r1 r2=>obtain⟨t,e⟩:=r1;subst e;exact .cons n t (ih r2)

section
variable{X:Cx}{e:Expr}{te:TE}{lo hi:Option Expr}{tl th:TO}{pos p2:Pos}

theorem JgI:PO X none Jha:=by intro pins s σ H Q I h;rw[evalPart_none];exact Qf ⟨none,H,I,.none,h⟩
theorem JgJ(h:PE X e te):PO X (some e) (Jnr te):=by
 intro pins s σ H Q I hw;rw[evalPart_some];refine thn (h pins s σ H _ I hw) fun u s1 ⟨x,H1,I1,r1,q1⟩=>?_
 obtain⟨i,rfl,q⟩:=q1;obtain⟨t,rfl⟩:=r1;exact⟨some i,H1,I1,.int i t,q⟩

noncomputable def SlR(X:Cx)(r:V->Option Int->Option Int->Hp->VK->Prop):Prop :=
 ∀(pins:List (Addr×Obj)) (s:Shared) (σ:St) (H:Hp) (x:V) (v vl vu:Value) (lo hi:Option Int) (sl:Addr) (Q:VK),Inv X pins σ H s->RelV x v->s.heap.IsSliceOf sl vl vu .none->IsPart vl lo->IsPart vu hi->r x lo hi H Q ->
  ∃T id,typeLookup (.type T) "__getitem__"=pure (some (.builtin id))/\s.TypeIs v T/\wpAny (model X.prog X.w) X.A (getItem v (.ref sl)) (EP X pins σ Q) X.xe s
theorem SlR.or{r r':V->Option Int->Option Int->Hp->VK->Prop}(h:SlR X r)(h':SlR X r'):SlR X (fun x lo hi H Q=>r x lo hi H Q\/r' x lo hi H Q):=by
 intro pins s σ H x v vl vu lo hi sl Q I rx hs pl pu q;rcases q with q|q
 ·exact h pins s σ H x v vl vu lo hi sl Q I rx hs pl pu q
 ·exact h' pins s σ H x v vl vu lo hi sl Q I rx hs pl pu q
noncomputable def tSl(r:V->Option Int->Option Int->Hp->VK->Prop)(te:TE)(tl th:TO):TE:=fun σ H Q=>te σ H fun x H1=>tl σ H1 fun l H2=>th σ H2 fun u H3=>r x l u H3 Q
theorem Jd4{r:V->Option Int->Option Int->Hp->VK->Prop}(hr:SlR X r)(he:PE X e te)(hl:PO X lo tl)(hu:PO X hi th):PE X (.Subscript e (.Slice lo hi none p2) pos) (tSl r te tl th):=by
 intro pins s σ H Q I h;refine Subscript_ (thn (he pins s σ H _ I h) fun v s1 ⟨x,H1,I1,r1,q1⟩=>?_);refine wpAny_Slice (thn (hl pins s1 σ H1 _ I1 q1) fun vl s2 ⟨l,H2,I2,pl,q2⟩=>thn (hu pins s2 σ H2 _ I2 q2) fun vu s3 ⟨u,H3,I3,pu,q3⟩=>?_);rw[evalPart_none];refine Qf ?_;have I4:Inv X pins σ H3 { s3 with heap:=s3.heap.push { cls:=.type "slice",data:=.fields #[vl,vu,.none] } }:=I3.kept (t':=s3.toks) fun b ob q=>Qg _ q
 obtain⟨T,id,hT,ht,hg⟩:=hr pins { s3 with heap:=s3.heap.push { cls:=.type "slice",data:=.fields #[vl,vu,.none] } } σ H3 x v vl vu l u s3.heap.objs.size Q I4 r1 (Heap.IsSliceOf.new ..) pl pu q3;show wpAny (model X.prog X.w) X.A (subscriptTail e (.Slice lo hi none p2) v (.ref s3.heap.objs.size)) (EP X pins σ Q) X.xe { s3 with heap:=s3.heap.push { cls:=.type "slice",data:=.fields #[vl,vu,.none] } };exact tail_any (ops:=[.ref s3.heap.objs.size,v]) ht hT hg (by with_unfolding_all rfl)

noncomputable def JaU(xs:List V)(lo hi:Option Int):List V:=(xs.drop (HT.sIx xs.length 0 lo)).take (HT.sIx xs.length xs.length hi-HT.sIx xs.length 0 lo)
theorem Zs(xs:List V)(lo hi:Option Int):(JaU xs lo hi).length<=xs.length:=by unfold JaU;rw[Lk,MM];omega
noncomputable def Jqm(K:Frag):V->Option Int->Option Int->Hp->VK->Prop:=fun x lo hi H Q=>∃a xs,x=.ref a/\SqT K H a xs ∧
 ¬(HT.sIx xs.length 0 lo=0/\HT.sIx xs.length xs.length hi=xs.length)/\∀p,H p=none->Q (.ref p) (upd H p (.tup (JaU xs lo hi)))
theorem sl_tup:SlR X (Jqm X.K):=by
 intro pins s σ H x v vl vu lo hi sl Q I rx hs pl pu h;obtain⟨a,xs,rfl,hx,hw,q⟩:=h;cases rx;obtain⟨its,r,ht,hz⟩:=I.tuple hx;have hlen:its.toArray.size=xs.length:=by rw[Qo];exact r.length.symm
 refine⟨"tuple",_,Gd.lookup,ht.typeIs,?_⟩;refine HT.WR ht hs pl pu (by rw[hlen];exact hw) ?_ (by rw[hlen];exact hz);rw[hlen];refine⟨.ref s.heap.objs.size,_,I.laid (t':=s.toks) (o:=.tup (JaU xs lo hi)) (fun b ob q=>Qg _ q) (Qn _) ?_,rfl,q _ (I.hok.fresh (Qn _))⟩;exact⟨Gn (Zs xs lo hi) hz,_,(r.drop (HT.sIx xs.length 0 lo)).take (HT.sIx xs.length xs.length hi-HT.sIx xs.length 0 lo),IsTup.new _ _⟩

noncomputable def Jnj(K:Frag):R2:=fun x y H Q=>∃a b xs ys,x=.ref a/\y=.ref b/\SqT K H a xs/\SqT K H b ys/\xs≠[]/\xs.length+ys.length<=sizeLine ∧
 (ys=[]->Q (.ref a) H)/\(ys≠[]->∀p,H p=none->Q (.ref p) (upd H p (.tup (xs++ys))))
theorem Vals.nil_iff{xs:List V}{us:List Value}(r:Vals xs us):us=[]↔xs=[]:=by
 cases r with
 | nil=>simp
 | cons _ _=>simp
theorem JlZ:OpR X (binaryOp .Add) (Jnj X.K):=by
 intro pins s σ H x y v u Q I rx ry h;obtain⟨a,b,xs,ys,rfl,rfl,ha,hb,hx,hz,q1,q2⟩:=h;cases rx;cases ry;obtain⟨its,r1,p1,_⟩:=I.tuple ha;obtain⟨its2,r2,p2,_⟩:=I.tuple hb;refine HT.Jk2 p1 p2 (fun z=>hx (r1.nil_iff.mp z)) (fun z=>⟨.ref a,H,I,rfl,q1 (r2.nil_iff.mp z)⟩) (fun z=>?_) (by rw[<- r1.length,<- r2.length];exact hz);refine⟨.ref s.heap.objs.size,_,I.laid (t':=s.toks) (o:=.tup (xs++ys)) (fun b ob q=>Qg _ q) (Qn _) ?_,rfl,q2 (fun w=>z (r2.nil_iff.mpr w)) _ (I.hok.fresh (Qn _))⟩
 exact⟨by rw[Qu];exact hz,_,r1.append r2,IsTup.new _ _⟩
end
end L2

namespace L2
open PySem PySem.Spec PyProof.Rows

noncomputable def ixN(n:Nat)(i:Int):Option Nat:=if 0<=i then(if i<n then some i.toNat else none) else if -(n:Int)<=i then some (i+n).toNat else none
noncomputable def atI{α:Type}(xs:List α)(i:Int):Option α:=(ixN xs.length i).bind fun j=>xs[j]?
theorem JlA{n:Nat}{i:Int}{j:Nat}(h:ixN n i=some j):seqIndex? i n=some j/\j<n/\-(n:Int)<=i/\i<n:=by
 unfold ixN at h
 by_cases h0:0<=i
 ·rw[if_pos h0] at h
  by_cases h1:i<n
  ·rw[if_pos h1] at h;have e:i.toNat=j:=QH h;exact⟨by rw[seqIndex_of h0 h1,e],by omega,by omega,h1⟩
  ·rw[if_neg h1] at h;cases h
 ·rw[if_neg h0] at h
  by_cases h1:-(n:Int)<=i
  ·rw[if_pos h1] at h;have e:(i+n).toNat=j:=QH h;exact⟨by rw[seqIndex_neg (by omega) h1,e],by omega,h1,by omega⟩
  ·rw[if_neg h1] at h;cases h
theorem JbO{α:Type}{xs:List α}{i:Int}{v:α}(h:atI xs i=some v):∃j,seqIndex? i xs.length=some j/\xs[j]?=some v/\j<xs.length/\-(xs.length:Int)<=i/\i<xs.length:=by
 unfold atI at h
 cases e:ixN xs.length i with
 | none=>rw[e] at h;cases h
 | some j=>rw[e] at h;obtain⟨h1,h2,h3,h4⟩:=JlA e;exact⟨j,h1,h,h2,h3,h4⟩
noncomputable def JkR(b:Expr):Prop:=∀o i,subscripted b false o i=operate [o,i] (getItem o i)
noncomputable def IxR(X:Cx)(r:R2):Prop :=
 ∀(value slice:Expr) (pins:List (Addr×Obj)) (s:Shared) (σ:St) (H:Hp) (x y:V) (v u:Value) (Q:VK),Inv X pins σ H s->RelV x v->RelV y u->r x y H Q ->
  subscripted slice false v u=operate [v,u] (getItem v u)->wpAny (model X.prog X.w) X.A (subscriptTail value slice v u) (EP X pins σ Q) X.xe s
noncomputable def MtR(X:Cx)(id:String)(r:V->List V->Hp->VK->Prop):Prop :=
 ∀(pins:List (Addr×Obj)) (s:Shared) (σ:St) (H:Hp) (x:V) (xs:List V) (v:Value) (us:List Value) (Q:VK),Inv X pins σ H s->RelV x v->Vals xs us->r x xs H Q ->
  wpAny (model X.prog X.w) X.A (call (.builtin id) (v::us)) (EP X pins σ Q) X.xe s
section
variable{X:Cx}{a b:Expr}{ta tb:TE}{pos:Pos}
theorem IxR.or{r r':R2}(h:IxR X r)(h':IxR X r'):IxR X (fun x y H Q=>r x y H Q\/r' x y H Q):=by
 intro value slice pins s σ H x y v u Q I rx ry q hs;rcases q with q|q
 ·exact h value slice pins s σ H x y v u Q I rx ry q hs
 ·exact h' value slice pins s σ H x y v u Q I rx ry q hs
theorem Yt{r:R2}(hr:IxR X r)(ha:PE X a ta)(hb:PE X b tb)(hs:JkR b):PE X (.Subscript a b pos) (tOp r ta tb):=by intro pins s σ H Q I h;exact Subscript_ (Jny ha hb I h fun v u s2 x y H2 I2 rx ry q=>hr a b pins s2 σ H2 x y v u Q I2 rx ry q (hs _ _))

noncomputable def Jqe(K:Frag):R2:=fun x y H Q=>∃p xs i v,x=.ref p/\y=.int i/\SqL K H p xs/\atI xs i=some v/\Q v H
noncomputable def Jqg(K:Frag):R2:=fun x y H Q=>∃p xs i v,x=.ref p/\y=.int i/\SqT K H p xs/\atI xs i=some v/\Q v H
noncomputable def Jqf:R2:=fun x y H Q=>∃z i c,x=.str z/\y=.int i/\z.length<=sizeLine/\atI z.cps.toList i=some c/\Q (.str ⟨#[c]⟩) H
theorem ix_list:IxR X (Jqe X.K):=by
 intro value slice pins s σ H x y v u Q I rx ry h hs;obtain⟨p,xs,i,z,rfl,rfl,hq,he,q⟩:=h;cases rx;obtain⟨t,rfl⟩:=ry;obtain⟨its,r,pl,hz⟩:=I.list hq;obtain⟨j,h1,h2,h3,h4,h5⟩:=JbO he;obtain⟨w,ew,rw'⟩:=r.get h2;have hl:=r.length;have hn:=Jam;have fin:EP X pins σ Q w s:=⟨z,H,I,rw',q⟩
 by_cases h0:0<=i
 ·have hj:i.toNat=j:=by rw[seqIndex_of h0 h5] at h1;exact QH h1
  exact item_listR pl.isList h0 (by omega) (by rw[hj];simpa using ew) fin hs
 ·have hj:(i+(its.toArray.size:Int)).toNat=j:=by rw[seqIndex_neg (by omega) h4] at h1;rw[Qo,<- hl];exact QH h1
  exact subscriptTail_builtinR (x:=w) pl.isList.typeIs slot_list_getitem.lookup
   (wpAny_getItem_list_neg (Q:=fun r s'=>r=w/\EP X pins σ Q r s') pl.isList (by omega) (by rw[Qo] <;> omega) (by omega) (by rw[hj];simpa using ew) ⟨rfl,fin⟩) hs
theorem ix_tup:IxR X (Jqg X.K):=by
 intro value slice pins s σ H x y v u Q I rx ry h hs;obtain⟨p,xs,i,z,rfl,rfl,hq,he,q⟩:=h;cases rx;obtain⟨t,rfl⟩:=ry;obtain⟨its,r,pl,hz⟩:=I.tuple hq;obtain⟨j,h1,h2,h3,h4,h5⟩:=JbO he;obtain⟨w,ew,rw'⟩:=r.get h2;have hl:=r.length;have hn:=Jam;have fin:EP X pins σ Q w s:=⟨z,H,I,rw',q⟩
 exact subscriptTail_builtinR (x:=w) pl.typeIs slot_tuple_getitem.lookup
  (getItem_tuple (j:=j) (Q:=fun r s'=>r=w/\EP X pins σ Q r s') pl (by omega) (by omega) (by rw[Qo,<- hl];exact h1) (by simpa using ew) ⟨rfl,fin⟩) hs
theorem Jn1:IxR X Jqf:=by
 intro value slice pins s σ H x y v u Q I rx ry h hs;obtain⟨z,i,c,rfl,rfl,hz,he,q⟩:=h;obtain⟨t,rfl⟩:=rx;obtain⟨t',rfl⟩:=ry;obtain⟨j,h1,h2,h3,h4,h5⟩:=JbO he;have hl:z.cps.toList.length=z.length:=by simp[Str.length]
 rw[hl] at h1 h4 h5;have hn:=Jam;exact tail_any (typeIs_str s z t) slot_str_getitem.lookup (getItem_str (c:=c) (by
  have e1:decide (i < -(2 ^ 63:Int))=false:=decide_eq_false (by omega)
  have e2:decide (i ≥ 2 ^ 63)=false:=decide_eq_false (by omega);rw[e1,e2,LZ]) (by rw[h1];simpa using h2) ⟨.str ⟨#[c]⟩,H,I.tok _,⟨_,rfl⟩,q⟩) hs
noncomputable def rIx(K:Frag):R2:=fun x y H Q=>Jqe K x y H Q\/Jqg K x y H Q\/Jqf x y H Q
theorem Jn0:IxR X (rIx X.K):=ix_list.or (ix_tup.or Jn1)

theorem JcN(lo hi:Option Int)(n:Nat):(sliceBounds lo hi none n).1=((HT.sIx n 0 lo:Nat):Int)/\(sliceBounds lo hi none n).2.1=((HT.sIx n n hi:Nat):Int)/\(sliceBounds lo hi none n).2.2=1:=by
 refine⟨?_,?_,rfl⟩
 ·cases lo with
  | none=>simp[sliceBounds,HT.sIx]
  | some i =>
   simp only[sliceBounds,HT.sIx,Option.getD_none,show(1:Int)>0 by decide,if_true]
   by_cases h:i<0
   ·simp only[h,if_true] <;> omega
   ·simp only[h,if_false] <;> omega
 ·cases hi with
  | none=>simp[sliceBounds,HT.sIx]
  | some i =>
   simp only[sliceBounds,HT.sIx,Option.getD_none,show(1:Int)>0 by decide,if_true]
   by_cases h:i<0
   ·simp only[h,if_true] <;> omega
   ·simp only[h,if_false] <;> omega
theorem Ja0(its:List Value)(lo hi:Option Int):slicePick its.toArray lo hi none=((its.drop (HT.sIx its.length 0 lo)).take (HT.sIx its.length its.length hi-HT.sIx its.length 0 lo)).toArray:=by obtain⟨h1,h2,h3⟩:=JcN lo hi its.toArray.size;unfold slicePick;rw[h1,h2,h3];simp only[sliceRange_one,pick_run,Qo] <;> rfl
noncomputable def Jql(K:Frag):V->Option Int->Option Int->Hp->VK->Prop:=fun x lo hi H Q=>∃a xs,x=.ref a/\SqL K H a xs/\∀p,H p=none->Q (.ref p) (upd H p (.lst (JaU xs lo hi)))
theorem sl_list:SlR X (Jql X.K):=by
 intro pins s σ H x v vl vu lo hi sl Q I rx hs pl pu h;obtain⟨a,xs,rfl,hx,q⟩:=h;cases rx;obtain⟨its,r,ht,hz⟩:=I.list hx;have hlen:=r.length;refine⟨"list",_,slot_list_getitem.lookup,ht.isList.typeIs,?_⟩;refine wpAny_getItem_list_slice ht.isList hs pl pu .none (by simp) ?_ (by rw[Qo] <;> omega);rw[Ja0,<- hlen];refine⟨.ref s.heap.objs.size,_,I.laid (t':=s.toks) (o:=.lst (JaU xs lo hi)) (fun b ob q=>Qg _ q) (Qn _) ?_,rfl,q _ (I.hok.fresh (Qn _))⟩
 exact⟨Gn (Zs xs lo hi) hz,_,0,(r.drop (HT.sIx xs.length 0 lo)).take (HT.sIx xs.length xs.length hi-HT.sIx xs.length 0 lo),Qi _ rfl⟩

theorem JaT:YR X (.type "tuple") (fun xs H Q=>∃p ys,xs=[.ref p]/\((SqL X.K H p ys/\∀l,H l=none->Q (.ref l) (upd H l (.tup ys)))\/(SqT X.K H p ys/\Q (.ref p) H))):=by
 intro pins s σ H xs us Q I r h;obtain⟨p,ys,rfl,h⟩:=h;obtain⟨u,rfl,rx⟩:=V2 r;cases rx;rcases h with ⟨hq,q⟩|⟨hq,q⟩
 ·obtain⟨its,r',pl,hz⟩:=I.list hq;have hlen:=r'.length;refine call_tuple_list pl.isList (fun h' kp=>?_) (by simp only[Qo] <;> omega);have I1:Inv X pins σ H { s with heap:=h' }:=I.kept (t':=s.toks) kp
  have I2:Inv X pins σ (upd H h'.objs.size (.tup ys)) { s with heap:=h'.push { cls:=.type "tuple",data:=.seq its.toArray } } :=
   I1.laid (t':=s.toks) (fun b o e=>Qg _ e) (Qn _) (show ObjOk X.prog X.w _ _ _ (.tup ys) from⟨hz,its,r',IsTup.new _ _⟩)
  exact⟨.ref h'.objs.size,_,I2,rfl,q _ (I1.hok.fresh (Qn _))⟩
 ·obtain⟨its,r',pl,hz⟩:=I.tuple hq;exact call_tuple_same pl ⟨.ref p,H,I,rfl,q⟩

noncomputable def tyV(K:Frag)(T:String)(x:V)(H:Hp):Prop:=match x with
 | .str _=>T="str"
 | .int _=>T="int"
 | .ref p=>(T="list"/\∃xs,SqL K H p xs)\/(T="tuple"/\∃o,K.lookup p=some o/\o.cls=.type "tuple"/\o.dict=none) ∨
  (T="dict"/\((∃kvs,H p=some (.dK kvs))\/∃kvs,H p=some (.dT kvs)))\/(T="set"/\∃S n,H p=some (.set S n))
 | _=>False
theorem JkE{pins:List (Addr×Obj)}{σ:St}{H:Hp}{s:Shared}{T:String}{x:V}{v:Value}(I:Inv X pins σ H s)(r:RelV x v)(ty:tyV X.K T x H) :
 s.TypeIs v T/\∀a,v=.ref a->∃ob,s.heap.get? a=some ob/\ob.dict=none:=by
 cases x with
 | str z=>obtain⟨t,rfl⟩:=r;cases (show T="str" from ty);exact⟨typeIs_str s z t,fun _ e=>nomatch e⟩
 | int i=>obtain⟨t,rfl⟩:=r;cases (show T="int" from ty);exact⟨typeIs_int s i t,fun _ e=>nomatch e⟩
 | ref p =>
  cases r;rcases ty with ⟨rfl,xs,hq⟩|⟨rfl,o,hk,hc,hd⟩|⟨rfl,hk⟩|⟨rfl,S,n,hk⟩
  ·obtain⟨its,_,pl,_⟩:=I.list hq;refine⟨pl.isList.typeIs,fun a e=>?_⟩;cases e;obtain⟨o,n,e,c,hd,_⟩:=pl;exact⟨o,e,hd⟩
  ·refine⟨⟨o,I.kIn p o hk,hc⟩,fun a e=>?_⟩;cases e;exact⟨o,I.kIn _ o hk,hd⟩
  ·have z:∃o,s.heap.get? p=some o/\o.ExactDict:=by
    rcases hk with ⟨kvs,hk⟩|⟨kvs,hk⟩
    ·obtain⟨_,_,_,_,o,_,_,e,ex,_⟩:=I.hok p _ hk;exact⟨o,e,ex⟩
    ·obtain⟨_,_,_,_,o,_,_,e,ex,_⟩:=I.hok p _ hk;exact⟨o,e,ex⟩
   obtain⟨o,e,ex⟩:=z;refine⟨⟨o,e,ex.1⟩,fun a e2=>?_⟩;cases e2;exact⟨o,e,ex.2.1⟩
  ·obtain⟨o,_,_,_,e,ex,_⟩:=I.hok p _ hk;refine⟨⟨o,e,ex.1⟩,fun a e2=>?_⟩;cases e2;exact⟨o,e,ex.2.1⟩
 | _=>exact Kl ty
noncomputable def JmL(K:Frag)(T:String)(r:V->List V->Hp->VK->Prop)(to:TE):TE:=fun σ H Q=>to σ H fun x H1=>tyV K T x H1/\r x [] H1 Q
noncomputable def tBM(K:Frag)(T:String)(r:V->List V->Hp->VK->Prop)(to:TE)(t:TA):TE:=fun σ H Q=>to σ H fun x H1=>tyV K T x H1/\t σ H1 fun xs H2=>r x xs H2 Q
variable{o e:Expr}{es:List Expr}{to:TE}{t:TA}{name:Str}{apos cpos:Pos}{T id:String}{r:V->List V->Hp->VK->Prop}
theorem JoA(pa:PlainAttrs T)(slot:Slot T name id)(hty:typeOf (.builtin id)=pure (.type "method_descriptor"))(hm:MtR X id r)(ho:PE X o to)
 (hbase:attributeBase o name X.env (eval o X.env)=eval o X.env:=by rfl) (hline:(apos.endLine == cpos.line)=true:=by rfl):PE X (.Call (.Attribute o name apos) [] [] cpos) (JmL X.K T r to):=by
 intro pins s σ H Q I h;refine LH hbase hline (thn (ho pins s σ H _ I h) fun v s1 ⟨x,H1,I1,r1,ty,q1⟩=>?_);obtain⟨h1,h2⟩:=JkE I1 r1 ty;exact⟨T,id,pa,slot,hty,h1,h2,G5 rfl (Mc (hm pins s1 σ H1 x [] v [] Q I1 r1 .nil q1))⟩
theorem Jp9(pa:PlainAttrs T)(slot:Slot T name id)(hty:typeOf (.builtin id)=pure (.type "method_descriptor"))(hm:MtR X id r)(ho:PE X o to)(ha:PA X (e::es) t)
 (hbase:attributeBase o name X.env (eval o X.env)=eval o X.env:=by rfl)
 (hfew:((backTo cpos (starEach (e::es) X.env)).all (fun x=>!x.1) && (backToKw cpos (keywordEach [] X.env)).all (fun x=>x.1.isSome)
  && decide ((e::es).length+([]:List Keyword).length+(if ([]:List Keyword).isEmpty then 0 else 1)<30))=true:=by rfl)
 (hline:(apos.endLine == cpos.line)=true:=by rfl) (hs:starEach (e::es) X.env=(false,eval e X.env)::starEach es X.env:=by rfl) (hplain:(backTo cpos (starEach es X.env)).any (·.1)=false:=by rfl) :
 PE X (.Call (.Attribute o name apos) (e::es) [] cpos) (tBM X.K T r to t):=by
 intro pins s σ H Q I h;refine wpAny_Call_method_late hbase hfew hline rfl (thn (ho pins s σ H _ I h) fun v s1 ⟨x,H1,I1,r1,ty,q1⟩=>?_);obtain⟨h1,h2⟩:=JkE I1 r1 ty;refine⟨T,id,pa,slot,hty,h1,h2,?_⟩;have hA:=ha cpos pins s1 σ H1 _ I1 q1;rw[hs] at hA ⊢;refine G5 (by show(false || (backTo cpos (starEach es X.env)).any (·.1))=false;rw[hplain] <;> rfl) (L3 ?_);exact thn hA fun us s2 ⟨vs,H2,I2,r2,q2⟩=>hm pins s2 σ H2 x vs v us Q I2 r1 r2 q2
/- xs.append(e),list.index on a module's tuple .. are MtR facts of 06m -/
end
end L2

namespace L2
open PySem PySem.Spec PyProof.Rows

noncomputable def MtM(X:Cx)(id:String)(r:V->List V->Hp->VK->Prop):Prop :=
 ∀(pins:List (Addr×Obj)) (s:Shared) (σ:St) (H:Hp) (x:V) (xs:List V) (v:Value) (us:List Value) (Q:VK),Inv X pins σ H s->RelV x v->Vals xs us->r x xs H Q ->
  wpAny (model X.prog X.w) X.A (call (.builtin id) (v::us)) (EP X pins σ Q) X.xe s

theorem Vals.one:∀{x:V} {us:List Value},Vals [x] us->∃u,us=[u]/\RelV x u
 | _,_,.cons r .nil=>⟨_,rfl,r⟩
theorem Vals.zero:∀{us:List Value},Vals [] us->us=[]
 | _,.nil=>rfl
theorem Vals.dropLast{xs:List V}{us:List Value}(h:Vals xs us):Vals xs.dropLast us.dropLast:=by
 induction h with
 | nil=>exact .nil
 | cons r t ih =>
  cases t with
  | nil=>exact .nil
  | cons q t'=>exact .cons r ih
theorem Vals.reverse{xs:List V}{us:List Value}(h:Vals xs us):Vals xs.reverse us.reverse:=by
 induction h with
 | nil=>exact .nil
 | cons r t ih=>rw[Lc,Lc];exact Vals.append ih (.cons r .nil)
theorem Vals.rep{xs:List V}{us:List Value}(h:Vals xs us):∀k:Nat,Vals (Qt k xs).flatten (Qt k us).flatten
 | 0=>.nil
 | k+1=>by rw[Q4,Q4,Kk,Kk];exact Vals.append h (Vals.rep h k)
theorem JeY{α:Type}(l:List α):l.eraseIdx (l.length-1)=l.dropLast:=by
 induction l with
 | nil=>rfl
 | cons a r ih =>
  cases r with
  | nil=>rfl
  | cons b r =>
   have e:(a::b::r).length-1=((b::r).length-1)+1:=by
    have h1:(a::b::r).length=r.length+2:=rfl
    have h2:(b::r).length=r.length+1:=rfl;omega
   rw[e,List.eraseIdx_cons_succ,ih]
   all_goals rfl
theorem Jbp(its:List Value):∀(k:Nat) (acc:List Value),
 List.foldl (fun x1 x2=>x1++x2) acc.toArray (Qt k its.toArray)=(acc++(Qt k its).flatten).toArray
 | 0,acc=>by simp
 | k+1,acc=>by
  have e:acc.toArray++its.toArray=(acc++its).toArray:=by simp
  have e2:(acc++its)++(Qt k its).flatten=acc++(Qt (k+1) its).flatten:=by rw[Q4,Kk,GU]
  rw[<- e2,<- Jbp its k (acc++its),<- e,Q4,QS]

section
variable{X:Cx}{pins:List (Addr×Obj)}{σ:St}{H:Hp}{s:Shared}{l b:Addr}{xs ys zs:List V}

theorem Inv.lset{its its':List Value}{n:Nat}{f:Array Value->Array Value}{t':Nat}(I:Inv X pins σ H s)(hH:H l=some (.lst xs))
 (e:s.heap.get? l=some { cls:=.type "list",data:=.seq its.toArray n }) (hf:f its.toArray=its'.toArray) (hv:Vals ys its') (hz:ys.length<=sizeLine) :
 Inv X pins σ (upd H l (.lst ys)) { s with heap:=s.heap.update l (Lg f),toks:=t' }:=by
 have q:=PySem.IsL.update e f;rw[hf] at q;refine I.write (x:=l) (e:=l) (by rw[hH];exact trivial) (.inl rfl) (fun b' u hb hu=>(QF s.heap (Lg f) (QN hb)).trans hu) ⟨_,q⟩ ?_;exact⟨hz,its',_,hv,q⟩
theorem Inv.lnew{its:List Value}{t':Nat}(I:Inv X pins σ H s)(hv:Vals ys its)(hz:ys.length<=sizeLine) :
 Inv X pins σ (upd H s.heap.objs.size (.lst ys)) { s with heap:=s.heap.push { cls:=.type "list",data:=.seq its.toArray },toks:=t' } :=
 I.laid (fun _ _ q=>Qg _ q) (Qn _) ⟨hz,its,0,hv,Qi _ rfl⟩
theorem Inv.fresh(I:Inv X pins σ H s):H s.heap.objs.size=none:=I.hok.fresh (Qn _)
theorem Inv.lstM(I:Inv X pins σ H s)(hH:H l=some (.lst xs)):xs.length<=sizeLine/\∃(its:List Value) (n:Nat),Vals xs its/\xs.length=its.length/\s.heap.get? l=some { cls:=.type "list",data:=.seq its.toArray n }:=by obtain⟨z,its,n,r,e⟩:=I.hok l _ hH;exact⟨z,its,n,r,r.length,e⟩

theorem JdT{n:Nat}(h:n<=sizeLine):KG n=false:=by unfold KG;exact decide_eq_false (by omega)
end

section
variable{X:Cx}

noncomputable def WX:V->List V->Hp->VK->Prop:=fun x vs H Q=>∃l xs y,x=.ref l/\vs=[y]/\H l=some (.lst xs)/\xs.length<sizeLine/\Q .non (upd H l (.lst (xs++[y])))
theorem UA:MtM X "list.append" WX:=by intro pins s σ H x vs v us Q I rx rv h;obtain⟨l,xs,y,rfl,rfl,hH,hz,q⟩:=h;cases rx;obtain⟨u,rfl,ru⟩:=rv.one;obtain⟨z,its,n,r,hl,e⟩:=I.lstM hH;refine call_meets F.slot_list_append ⟨_,e,rfl⟩ F.entry_list_append (F.args_list_append_2 _ _) (PySem.list_append l its.toArray n u (by rw[Qo];omega)) ⟨e,?_⟩;refine⟨.non,_,I.lset (its':=its++[u]) hH e (by simp) (r.append (.cons ru .nil)) ?_,rfl,q⟩;rw[Qu,Go];omega

noncomputable def JgP:V->List V->Hp->VK->Prop:=fun x vs H Q=>∃l b xs zs,x=.ref l/\vs=[.ref b]/\H l=some (.lst xs)/\H b=some (.lst zs)/\xs.length+zs.length<=sizeLine/\Q .non (upd H l (.lst (xs++zs)))
theorem Zk:MtM X "list.extend" JgP:=by
 intro pins s σ H x vs v us Q I rx rv h;obtain⟨l,b,xs,zs,rfl,rfl,hH,hB,hz,q⟩:=h;cases rx;obtain⟨u,rfl,ru⟩:=rv.one;cases ru;obtain⟨z,its,n,r,hl,e⟩:=I.lstM hH;obtain⟨z2,its2,n2,r2,hl2,e2⟩:=I.lstM hB;have hsz:its.toArray.size+its2.toArray.size<=sizeLine:=by rw[Qo,Qo];omega
 have hlong:¬(!its.toArray.isEmpty && KG (its.toArray.size+its2.toArray.size))=true:=by rw[JdT hsz,Rn];exact Qx
 refine call_meets F.slot_list_extend ⟨_,e,rfl⟩ F.entry_list_extend (F.args_list_extend_2 _ _)
  (AutoSeq1.list_extend_list_list_0 l its.toArray n b its2.toArray n2 hlong (by rw[Qo];omega) (by omega)) ⟨e,e2,?_⟩
 refine⟨.non,_,I.lset (its':=its++its2) hH e (by simp) (r.append r2) ?_,rfl,q⟩;rw[Qu];omega

noncomputable def Jqj:V->List V->Hp->VK->Prop:=fun x vs H Q=>∃l xs y,x=.ref l/\vs=[]/\H l=some (.lst xs)/\xs[xs.length-1]?=some y/\Q y (upd H l (.lst xs.dropLast))
theorem Jok:MtM X "list.pop" Jqj:=by
 intro pins s σ H x vs v us Q I rx rv h;obtain⟨l,xs,y,rfl,rfl,hH,hy,q⟩:=h;cases rx;have hus:=rv.zero;subst hus;obtain⟨z,its,n,r,hl,e⟩:=I.lstM hH;obtain⟨u,hu,ru⟩:=r.get hy
 have hy':its.toArray[its.toArray.size-1]?=some u:=by show its.toArray[its.length-1]?=some u;rw[<- Kb,<- hl];exact hu
 refine call_meets F.slot_list_pop ⟨_,e,rfl⟩ F.entry_list_pop (F.args_list_pop_1 _) (MeetsSeq.list_pop_last l its.toArray n u hy' (by rw[Qo];omega)) ⟨e,?_⟩;refine⟨y,_,I.lset (its':=its.dropLast) hH e ?_ r.dropLast ?_,ru,q⟩
 ·show its.toArray.eraseIdxIfInBounds (its.toArray.size-1)=its.dropLast.toArray;rw[Qo,List.eraseIdxIfInBounds_toArray,JeY]
 ·rw[Ro];omega

noncomputable def Jd8:V->List V->Hp->VK->Prop:=fun x vs H Q=>∃l xs,x=.ref l/\vs=[]/\H l=some (.lst xs)/\Q .non (upd H l (.lst xs.reverse))
theorem Jff:MtM X "list.reverse" Jd8:=by intro pins s σ H x vs v us Q I rx rv h;obtain⟨l,xs,rfl,rfl,hH,q⟩:=h;cases rx;have hus:=rv.zero;subst hus;obtain⟨z,its,n,r,hl,e⟩:=I.lstM hH;refine call_meets F.slot_list_reverse ⟨_,e,rfl⟩ F.entry_list_reverse (F.args_list_reverse_1 _) (AutoSeq1.list_reverse_list_0 l its.toArray n (by rw[Qo];omega)) ⟨e,?_⟩;refine⟨.non,_,I.lset (its':=its.reverse) hH e (by simp) r.reverse ?_,rfl,q⟩;rw[KJ];omega

noncomputable def Jqb:R2:=fun x y H Q=>∃l b xs zs,x=.ref l/\y=.ref b/\H l=some (.lst xs)/\H b=some (.lst zs)/\xs.length+zs.length<=sizeLine/\∀p,H p=none->Q (.ref p) (upd H p (.lst (xs++zs)))
theorem Jot:OpR X (binaryOp .Add) Jqb:=by
 intro pins s σ H x y v u Q I rx ry h;obtain⟨l,b,xs,zs,rfl,rfl,hH,hB,hz,q⟩:=h;cases rx;cases ry;obtain⟨z,its,n,r,hl,e⟩:=I.lstM hH;obtain⟨z2,its2,n2,r2,hl2,e2⟩:=I.lstM hB;refine PySem.P.add_list e e2 ?_ (by rw[Qo,Qo];omega);have ea:its.toArray++its2.toArray=(its++its2).toArray:=by simp
 rw[ea];exact⟨.ref _,_,I.lnew (t':=s.toks) (r.append r2) (by rw[Qu];omega),rfl,q _ I.fresh⟩
noncomputable def Jqk:R2:=fun x y H Q=>∃l k xs,x=.ref l/\y=.int k/\H l=some (.lst xs)/\-(2 ^ 63)<=k/\k<2 ^ 63/\xs.length*k.toNat<=sizeLine ∧
 ∀p,H p=none->Q (.ref p) (upd H p (.lst (Qt k.toNat xs).flatten))
theorem JlD{α:Type}(xs:List α)(k:Nat):(Qt k xs).flatten.length=k*xs.length:=by
 induction k with
 | zero=>simp
 | succ k ih=>rw[Q4,Kk,Qu,ih,Nat.succ_mul,Nat.add_comm]
theorem JjG:OpR X (binaryOp .Mult) Jqk:=by
 intro pins s σ H x y v u Q I rx ry h;obtain⟨l,k,xs,rfl,rfl,hH,h1,h2,hz,q⟩:=h;cases rx;obtain⟨t,rfl⟩:=ry;obtain⟨z,its,n,r,hl,e⟩:=I.lstM hH;have hlen:its.toArray.size*k.toNat<=sizeLine:=by rw[Qo,<- hl];exact hz
 have hcap:¬its.toArray.size*k.toNat>(2 ^ 63-1) / 8:=by
  have:(sizeLine:Nat)<=(2 ^ 63-1) / 8:=by decide
  omega
 have hfit:¬(!Builtin.List.listFitsIndex k)=true:=by rw[fitsIndex_both h1 h2];exact Qx
 have hlong:¬KG (its.toArray.size*k.toNat)=true:=by rw[JdT hlen];exact Qx
 have hnew:List.foldl (fun x1 x2=>x1++x2) #[] (Qt (if its.toArray.isEmpty=true then 0 else k.toNat) its.toArray)=(Qt k.toNat its).flatten.toArray:=by
  have f0:∀m:Nat,List.foldl (fun x1 x2=>x1++x2) #[] (Qt m its.toArray)=(Qt m its).flatten.toArray:=fun m=>by have:=Jbp its m [];rw[KA] at this;exact this
  rw[f0]
  cases its with
  | nil=>simp
  | cons a r'=>rw[if_neg (by simp)]
 refine wpAny_binaryOp_repeat_ref (T:="list") (U:="int") (by decide) ⟨_,e,rfl⟩ (fun s'=>typeIs_int s' k t) noFill_list_mul F.fills_int_mul F.slot_int_rmul repeat_list F.slot_int_index.lookup
  (call_meets F.slot_int_rmul (typeIs_int s k t) F.entry_int_rmul (F.args_int_rmul_2 _ _) (int___rmul___int_list k t l its.toArray n)
   ⟨e,rfl,⟨_,e,rfl⟩,call_meets F.slot_list_mul ⟨_,e,rfl⟩ F.entry_list_mul (F.args_list_mul_2 _ _) (AutoListH.list___mul___list_int_3 l its.toArray n k t hfit hcap hlong) ⟨e,?_⟩⟩)
 rw[hnew];exact⟨.ref _,_,I.lnew (t':=s.toks) (r.rep k.toNat) (by rw[JlD,Nat.mul_comm];exact hz),rfl,q _ I.fresh⟩

end

section
variable{prog:Program}{w:World}{A:Around}{E:Value->Shared->Prop}{s:Shared}
end

section
variable{X:Cx}
end
end L2

namespace Att
open PySem PySem.W PySem.Calls PyProof.Rows

theorem ZE{P:Params}{h:Heap}:∀(ns:List Int) (vs:List Value),WellAll P h vs (ns.map WData.int)->IntsAre vs ns:=by
 intro ns
 induction ns with
 | nil=>intro vs w;rw[K2] at w;cases w;exact .nil
 | cons n ns ih =>
  intro vs w;rw[Qd] at w
  cases w with
  | cons a b=>cases a;exact .cons _ _ (ih _ b)

theorem Jic{l:OpenLaw}{n:Nat}(hn:l.most=some n){P:Params}{h:Heap}{args:List WData}{vals:List Value}
 (hpre:l.row.toRowW.claim.pre args=true) (hwl:WellAll P h vals args) :
 ∃a vs ns,vals=[Value.ref a]/\args=[WData.list (ns.map WData.int)]/\h.get? a=some { cls:=.type "list",data:=.seq vs.toArray }/\IntsAre vs ns/\ns.length<=n:=by
 have hsh:WShape.hasAll [] args [.list .int]=true:=(pre_splitW hpre).1
 have hc:l.pre.holds [] { args:=args }=true:=(pre_splitW hpre).2;obtain⟨d,r,rfl,h1,h2⟩:=hasAllW_cons hsh;obtain rfl:=hasAllW_nil h2;obtain⟨xs,rfl,h3⟩:=hasW_list h1;obtain⟨ns,rfl⟩:=items_int h3
 have hlen:ns.length<=n:=by
  unfold OpenLaw.pre at hc
  have h4:(WTm.not (.lt (.lit (.int (n:Int))) (.len (.arg 0)))).holds [] { args:=[.list (ns.map .int)] }=true:=by have h4:=(holds_andW hc).1;rw[hn] at h4;exact h4
  have h5:=condW_of h4 (w_not (w_lt w_lit (w_len_list (w_arg rfl))));rw[Qm] at h5;refine Nat.le_of_not_lt fun q=>?_
  have q':(n:Int)<((ns.length:Nat):Int):=by omega
  first
   | (rw[decide_eq_true q'] at h5;exact absurd h5 (by decide))
   | (simp at h5;omega)
 cases hwl with
 | cons w1 w2 =>
  cases w2
  cases w1 with
  | list ho hall=>exact⟨_,_,ns,rfl,rfl,ho,ZE ns _ hall,hlen⟩

theorem Jh5(l:OpenLaw)(args:List WData):l.row.toRowW.claim.post args (.bool true) args=true :=
 postW_of (r:=l.row.toRowW) (X:=(true == true))
  (show WShape.has [] (.bool true) .bool=true by first|rfl|decide|simp[WShape.has,WShape.arms,WShape.armsAll])
  (show(WTm.eq .res (.lit (.bool true))).value [] { args:=args,res:=some (.bool true),after:=args }=some (.bool (true == true)) from w_eq_bool (w_res rfl) w_lit) rfl

theorem attach_call{l:OpenLaw}{n:Nat}{q:Program}{loose:List Str}{XP:(Str->Option Value)->Heap->Prop}{YP:World->Heap->Prop}{d:DefRec}
 (hn:l.most=some n) (hdf:d.params.defaults=[])
 (call:∀(w:World) (s₀ s₁:Shared) (mg mb:Str->Option Value) (fa:Addr) (o:Obj) (pm cd doc:Value) (a:Addr) (vs:List Value) (ns:List Int),
  Ground q loose [] XP w s₀ mg mb s₁.heap->YP w s₁.heap ->
  s₁.heap.get? fa=some o->o.data=.func (docDef d.name d.params d.body d.scope pm cd doc)->s₁.heap.CodeRec cd d.name->mg d.name=some (.ref fa) ->
  s₁.heap.get? a=some { cls:=.type "list",data:=.seq vs.toArray }->IntsAre vs ns->ns.length<=n->s₁.gens=#[] ->
  codeAny (model l.prog w) callerA (.call (.ref fa) ⟨[.ref a],[]⟩) (fun r s'=>r=.ok (.ret (.bool true))/\OldK s₁.heap s'.heap/\s'.os=s₁.os/\AllBare s'.gens) s₁) :
 WalkO q loose XP YP l.row.toRowW d [] (fun f vs=>PySem.call f vs):=by
 intro w s₀ s₁ mg mb G Y fa o pm cd doc dV kV ho hd hcd hD hmg hg args vals as hpre hlay hrd hwl hlo;obtain rfl:dV=.none:=Dflts.none hD hdf;obtain rfl:kV=.none:=Dflts.noKw hD;obtain⟨a,vs,ns,rfl,rfl,hobj,hints,hlen⟩:=Jic hn hpre hwl;refine enter_call (Lj (call w s₀ s₁ mg mb fa o pm cd doc a vs ns G Y ho (fd_plain hd) hcd hmg hobj hints hlen hg) fun r s' hq=>?_);obtain⟨rfl,h2,h3,h4⟩:=hq;exact⟨.inl ⟨.bool true,.bool true,[],rfl,fun _=>rfl,.bool true,Jh5 l _,fun _=>⟨List.Pairwise.nil,fun _ hm=>(nomatch hm)⟩⟩,h2,h3,h4⟩

section
variable{prog:Program}{w:World}{A:Around}{E:Value->Shared->Prop}{s:Shared}{K:Frag}

end
end Att

namespace L2
open PySem PySem.Spec PyProof.Rows

theorem JbL:∀{vs:List Value} {ns:List Int},IntsAre vs ns->Vals (ns.map V.int) vs
 | _,_,.nil=>.nil
 | _,_,.cons n t h=>.cons ⟨t,rfl⟩ (JbL h)

noncomputable def Jnv(H:Hp):Prop:=∀b,H b=none\/∃o xs,H b=some (.frz o (.lst xs))

theorem Jjl{P:Program}{w:World}{K:Frag}{mg mb:Str->Option Value}{CX:CXT}{k:Nat}{fa a:Addr}{fd:FuncData}{x:Str}{sp:Sp}{s₁:Shared}{vs:List Value}{ns:List Int}
 (KX:K.In s₁.heap) (hns:s₁.heap.Ns mainGlobals mg) (hb:s₁.heap.Ns builtinsNs mb) (hbb:∀x:Str,x≠"__name__"->mb x=bootBuiltins x) (hlim:s₁.heap.NoLimit) (hg:s₁.gens=#[])
 (ha:s₁.heap.get? a=some { cls:=.type "list",data:=.seq vs.toArray }) (hi:IntsAre vs ns) (hl:ns.length<=sizeLine) (hr:Room k callerA)
 (F:∀base:Heap,K.In base->base.Ns mainGlobals mg->FnOk P w K mg base CX k fa fd [x] sp) (hbind:∀(s:Shared) (u:Value),BindsTo s fd ⟨[u],[]⟩ [(x,u)])
 (hsp:∀H:Hp,Jnv H->SqL K H a (ns.map V.int)->sp [.ref a] H (fun v _=>v=.bl true) fun _ _ _=>False)
 (hCX:∀H e s',CX [] H s₁ (fun _ _ _=>False) e s'->False) :
 codeAny (model P w) callerA (.call (.ref fa) ⟨[.ref a],[]⟩) (fun r s'=>r=.ok (.ret (.bool true))/\OldK s₁.heap s'.heap/\s'.os=s₁.os/\AllBare s'.gens) s₁:=by
 have rv:=JbL hi
 have lenV:=hi.length
 -- from an abstract heap in which nothing but the script may be tracked
 have core:∀H:Hp,Jnv H->SqL K H a (ns.map V.int)->HOk P w H s₁.heap->(∀b,H b≠none->b=a)->(H a≠none->K.lookup a=none) ->
  codeAny (model P w) callerA (.call (.ref fa) ⟨[.ref a],[]⟩) (fun r s'=>r=.ok (.ret (.bool true))/\OldK s₁.heap s'.heap/\s'.os=s₁.os/\AllBare s'.gens) s₁:=by
  intro H hO hS hok hA hK;have base_of:∀{b:Addr} {o:Obj},s₁.heap.get? b=some o->H b=none->(Jci s₁.heap H).get? b=some o:=fun e n=>Jjc e n
  have noA:∀{b:Addr} {o:Obj} {es:Array DictEntry} {ep:Nat},s₁.heap.get? b=some o->o.data=.dict es ep->H b=none:=fun {b o es ep} e d=>by
   cases q:H b with
   | none=>rfl
   | some u =>
    have e':b=a:=hA b (by rw[q];simp);subst e';rw[ha] at e;cases e
    have d':Data.seq vs.toArray _=Data.dict es ep:=d;cases d'
  have nsK:∀{b:Addr} {m:Str->Option Value},s₁.heap.Ns b m->(Jci s₁.heap H).Ns b m:=fun {b m} ⟨o,es,ep,e,d,r⟩=>⟨o,es,ep,base_of e (noA e d),d,r⟩
  have hKb:K.In (Jci s₁.heap H):=fun b o e=>base_of (KX b o e) (by
   cases q:H b with
   | none=>rfl
   | some u=>have e':b=a:=hA b (by rw[q];simp);subst e';rw[hK (by rw[q];simp)] at e;cases e)
  have hM:Mod K mg (Jci s₁.heap H):=⟨hKb,nsK hns,⟨mb,nsK hb,hbb⟩,let ⟨mc,h1,h2⟩:=hlim;⟨mc,nsK h1,h2⟩⟩
  have e0:Env0 P w K mg (Jci s₁.heap H) callerA [] s₁ H:=⟨rfl,hM,fun b o e=>JlX e,MZ (JhB _ _),trivial,fun b hb=>absurd (show b∈([]:List Addr) from hb) (by simp),hok,.of_eq hg⟩
  refine Lj ((F _ hKb (nsK hns)).run callerA [] s₁ H ⟨[.ref a],[]⟩ [.ref a] [.ref a] _ _ hr e0 (hbind s₁ (.ref a)) (.cons rfl .nil) (hsp H hO hS)) fun r s' h=>?_
  cases r with
  | error e=>exact(hCX H e s' h).elim
  | ok fl =>
   cases fl with
   | next=>exact Kl h
   | brk=>exact Kl h
   | cont=>exact Kl h
   | ret u =>
    obtain⟨v,H',os,bare,un,hok',r',q⟩:=h;have q':v=.bl true:=q;subst q';obtain rfl:u=Value.bool true:=r';refine⟨rfl,OldK.of_keep fun b o e=>?_,os,bare⟩
    cases q:H b with
    | none=>exact un.keep b o e q (by intro z;exact absurd (show b∈([]:List Addr) from z) (by simp)) (by simp)
    | some u =>
     rcases hO b with z|⟨ob,xs,z⟩
     ·rw[q] at z;cases z
     ·have z2:=un.frzs b ob _ z;obtain⟨e1,_⟩:=hok b _ z;obtain⟨e2,_⟩:=hok' b _ z2;rw[e] at e1;cases e1;exact e2
 cases hk:K.lookup a with
 | some o =>
  -- the script is one of the module's own objects
  have e:=KX a o hk;rw[ha] at e;cases e;refine core (fun _=>none) (fun _=>.inl rfl) (.inr ⟨_,vs.toArray,_,hk,rfl,rfl,rfl,by rw[Qo,lenV];exact hl,by simpa using rv⟩) (fun b u z=>by have z':(none:Option HO)=some u:=z;cases z') (fun b z=>absurd rfl z) fun z=>absurd rfl z
 | none =>
  refine core (fun b=>if b=a then some (.frz { cls:=.type "list",data:=.seq vs.toArray } (.lst (ns.map V.int))) else none) (fun b=>?_) (.inl (.inr ⟨{ cls:=.type "list",data:=.seq vs.toArray },if_pos rfl⟩)) (fun b u z=>?_) (fun b z=>?_) fun _=>hk
  ·by_cases hb:b=a
   ·exact .inr ⟨_,_,if_pos hb⟩
   ·exact .inl (if_neg hb)
  ·by_cases hb:b=a
   ·have z':=(if_pos hb).symm.trans z;cases z';subst hb;exact⟨ha,by rw[Qm];exact hl,vs,_,rv,ha⟩
   ·have z':=(if_neg hb).symm.trans z;cases z'
  ·by_cases hb:b=a
   ·exact hb
   ·exact absurd (if_neg hb) z
end L2

namespace L2
open PySem PySem.Spec PyProof.Rows

theorem JmS{l:PySem.W.OpenLaw}{n k:Nat}{q:Program}{loose:List Str}{XP:(Str->Option Value)->Heap->Prop}{YP:World->Heap->Prop}{d:DefRec}{K:Params->Frag}{CX:World->CXT}{sp:World->Sp}{x:Str}
 (hn:l.most=some n) (hn2:n<=sizeLine) (hdf:d.params.defaults=[]) (hr:Room k callerA)
 (hY:∀(w:World) (h:Heap),YP w h->(K w.params).In h)
 (F:∀(w:World) (mg:Str->Option Value) (fa:Addr) (h:Heap),(K w.params).In h->h.Ns mainGlobals mg->mg d.name=some (.ref fa) ->
  ∃fd:FuncData,(∀(s:Shared) (u:Value),BindsTo s fd ⟨[u],[]⟩ [(x,u)]) ∧
   ∀base:Heap,(K w.params).In base->base.Ns mainGlobals mg->FnOk l.prog w (K w.params) mg base (CX w) k fa fd [x] (sp w))
 (hsp:∀(w:World) (H:Hp) (a:Addr) (ns:List Int),ns.length<=n->Jnv H->SqL (K w.params) H a (ns.map V.int)->sp w [.ref a] H (fun v _=>v=.bl true) fun _ _ _=>False)
 (hCX:∀(w:World) (H:Hp) (s:Shared) (e:Value) (s':Shared),CX w [] H s (fun _ _ _=>False) e s'->False) :
 PySem.W.WalkO q loose XP YP l.row.toRowW d [] (fun f vs=>PySem.call f vs):=by
 refine Att.attach_call hn hdf fun w s₀ s₁ mg mb fa o pm cd doc a vs ns G Y ho hd hcd hmg hobj hints hlen hg=>?_
 have KX:=hY w _ Y;obtain⟨fd,hb,hF⟩:=F w mg fa _ KX G.T.g hmg;exact Jjl KX G.T.g G.T.b G.T.builtins G.T.nolimit hg hobj hints (Gn hlen hn2) hr hF hb (fun H hO hS=>hsp w H a ns hlen hO hS) fun H e s'=>hCX w H s₁ e s'
end L2

namespace L2
open PySem PySem.Spec PyProof.Rows

noncomputable def Jly(s:Stmt)(j:Nat):Stmt:=match s with
 | .ClassDef _ _ _ body _ _ _ _ _ _ _=>body.getD j (.Pass ⟨0,0,0,0⟩)
 | _=>.Pass ⟨0,0,0,0⟩
noncomputable def JA(s:Stmt):Arguments:=match s with
 | .FunctionDef _ a _ _ _ _ _ _ _ _=>a
 | _=>{ posonlyargs:=[],args:=[],vararg:=none,kwonlyargs:=[],kw_defaults:=[],kwarg:=none,defaults:=[] }
noncomputable def Jx(s:Stmt):List Stmt:=match s with
 | .FunctionDef _ _ b _ _ _ _ _ _ _=>b
 | _=>[]
noncomputable def Jg(s:Stmt):Scope:=match s with
 | .FunctionDef _ _ _ _ _ _ sc _ _ _=>sc
 | _=>{ kind:=.function,names:=[],isGenerator:=false,isCoroutine:=false }

noncomputable abbrev CX0:CXT:=fun _ _ _ _ _ _=>False
noncomputable abbrev E0:XK:=fun _ _ _=>False
theorem Jni{X:Cx}:ZV CX0 X E0:=fun _ _ _ _ _ _ _ h=>h.elim

structure Fun (K:Frag) (x qual:Str) (st:Stmt) (f:Addr) (fd:FuncData):Prop where
 ex:∃(oc:Value) (od:Option Addr) (kV doc pm:Value) (an:Option Addr) (cdv ct:Value) (osl:Array (Option Value)),
  fd=fnOf x qual (JA st) (Jx st) (Jg st) .none kV doc pm an cdv ct/\K.lookup f=some ⟨oc,od,.func fd,osl⟩/\codeIn K cdv qual=true
 kp:keepIn K (.ref f)=true
section
variable{P:Program}{w:World}{K:Frag}{mg:Str->Option Value}{base:Heap}
theorem Fun.ok{x qual:Str}{st:Stmt}{f:Addr}{fd:FuncData}{N ps:List Str}{k:Nat}{sp:Sp}(F:Fun K x qual st f fd)(S:FnScope N ps (Jg st))(len:∀vs H Q E,sp vs H Q E->vs.length=ps.length)
 (hbody:∀(cdv:Value) (A:Around) (outer:List Env) (s:Shared) (H:Hp) (vs:List V) (Q:VK) (E:XK),Room k (A.deeper (envOfC qual (Jg st) s.heap.objs.size f cdv))->sp vs H Q E ->
  ∃t,PSs (Jht CX0 P w K mg base N qual (Jg st) f cdv A outer s H E).nox (Jx st) t/\t { nx:=fun _ H'=>Q .non H',rt:=Q } (VO N vs) H):FnOk P w K mg base CX0 (k+1) f fd ps sp:=by
 obtain⟨oc,od,kV,doc,pm,an,cdv,ct,osl,rfl,lk,hcd⟩:=F.ex;refine JpR lk hcd S len fun A outer s H vs Q E hr hsp=>?_
 obtain⟨t,h,q⟩:=hbody cdv A outer s H vs Q E hr hsp;exact⟨t,h.nox,q⟩
theorem Fun.binds{x qual:Str}{st:Stmt}{f:Addr}{fd:FuncData}{ps:List Str}(F:Fun K x qual st f fd)
 (h:∀(kV doc pm:Value) (an:Option Addr) (cdv ct:Value) (us:List Value),us.length=ps.length->bindArgs (fnOf x qual (JA st) (Jx st) (Jg st) .none kV doc pm an cdv ct) ⟨us,[]⟩=pure (ps.zip us)):Binds K fd ps []:=by
 obtain⟨oc,od,kV,doc,pm,an,cdv,ct,osl,rfl,lk,hcd⟩:=F.ex;exact .all (h kV doc pm an cdv ct)
theorem JQ{x qual:Str}{st:Stmt}{f:Addr}{oc:Value}{od an:Option Addr}{osl:Array (Option Value)}{kV doc pm cdv ct:Value}(l:K.lookup f=some ⟨oc,od,.func (fnOf x qual (JA st) (Jx st) (Jg st) .none kV doc pm an cdv ct),osl⟩)
 (c:codeIn K cdv qual=true) (k:keepIn K (.ref f)=true):Fun K x qual st f (fnOf x qual (JA st) (Jx st) (Jg st) .none kV doc pm an cdv ct):=⟨⟨oc,od,kV,doc,pm,an,cdv,ct,osl,rfl,l,c⟩,k⟩
end
theorem Jdr{A:Around}{k:Nat}(hr:Room k A):A.units+1<cLine:=G1 (Nat.add_le_add_left (by decide:1<=64) _) hr.units
theorem Jid{n:Nat}(h:n<=1000):n<sizeLine:=G1 h (by decide)

section
variable{X:Cx}
theorem pv(i:Nat){x:Str}{pos:Pos}(hN:X.N[i]?=some x:=by rfl)(hv:Vis X.env.scope x:=by first | exact Or.inl rfl | exact Or.inr (.inl rfl) | exact Or.inr (.inr rfl))(hd:(x == ("__debug__":Str))=false:=by decide)
 (hcd:(x == ("__classdict__":Str))=false:=by decide):PE X (.Name x pos) (Zp i):=JoD hN hv hd hcd
end

noncomputable def Same(H H':Hp):Prop:=∀b o,H b=some o->H' b=some o
theorem Same.refl(H:Hp):Same H H:=fun _ _ h=>h
theorem Same.trans{H H1 H2:Hp}(a:Same H H1)(b:Same H1 H2):Same H H2:=fun c o h=>b c o (a c o h)
theorem Same.free{H H':Hp}(e:Same H H'){l:Addr}(h:H' l=Option.none):H l=Option.none:=by
 cases q:H l with
 | none=>rfl
 | some o=>rw[e l o q] at h;cases h
theorem Same.seq{K:Frag}{H H':Hp}{a:Addr}{xs:List V}(e:Same H H')(h:SqL K H a xs):SqL K H' a xs:=by
 rcases h with (h|⟨o,h⟩)|h
 ·exact .inl (.inl (e _ _ h))
 ·exact .inl (.inr ⟨o,e _ _ h⟩)
 ·exact .inr h

end L2

namespace L2
open PySem PySem.Spec PyProof.Rows

section
variable{κ:Type}[DecidableEq κ]
noncomputable def VA(kvs:List (κ×V))(k:κ):Option V:=(kvs.find? fun kv=>decide (kv.1=k)).map (·.2)
noncomputable def VQ(kvs:List (κ×V))(k:κ)(v:V):List (κ×V) :=
 if (kvs.any fun kv=>decide (kv.1=k))=true then kvs.map (fun kv=>if kv.1=k then(kv.1,v) else kv) else kvs++[(k,v)]
theorem W5{p:κ×V}{r:List (κ×V)}{k:κ}(e:p.1=k):VA (p::r) k=some p.2:=by simp[VA,K7,e]
theorem W4{p:κ×V}{r:List (κ×V)}{k:κ}(e:¬p.1=k):VA (p::r) k=VA r k:=by simp[VA,K7,e]
theorem JaQ(k:κ):∀kvs:List (κ×V),(kvs.any fun kv=>decide (kv.1=k))=(VA kvs k).isSome
 | []=>rfl
 | p::r=>by
  rw[GG]
  by_cases e:p.1=k
  ·simp only[W5 e,decide_eq_true e,M3,Option.isSome_some]
  ·rw[W4 e,decide_eq_false e,GZ];exact JaQ k r
theorem VV(kvs:List (κ×V))(k:κ)(v:V):(VQ kvs k v).length<=kvs.length+1:=by
 unfold VQ;split
 ·rw[Qm];omega
 ·rw[Qu,Qp,G8];omega
theorem JjU{kvs:List (κ×V)}{k:κ}(v:V)(h:VA kvs k=none):VQ kvs k v=kvs++[(k,v)]:=by unfold VQ;rw[JaQ,h];exact if_neg (by decide)

theorem RelO.isSome_eq{o:Option V}{u:Option Value}(r:RelO o u):o.isSome=u.isSome:=by
 cases o with
 | none=>cases u with
  | none=>rfl
  | some _=>exact(show False from r).elim
 | some _=>cases u with
  | none=>exact(show False from r).elim
  | some _=>rfl
theorem RelO.getD{o:Option V}{u:Option Value}{d:V}{d':Value}(r:RelO o u)(rd:RelV d d'):RelV (o.getD d) (u.getD d'):=by
 cases o with
 | none=>cases u with
  | none=>exact rd
  | some _=>exact(show False from r).elim
 | some _=>cases u with
  | none=>exact(show False from r).elim
  | some _=>exact r

theorem KV.val{kvs:List (κ×V)}{vs:List (κ×Value)}(r:KV kvs vs)(k:κ):RelO (VA kvs k) (valueAt vs k):=by
 unfold KV at r
 induction r with
 | nil=>exact True.intro
 | @cons p q ps qs h t ih =>
  obtain⟨h1,h2⟩:=h
  by_cases e:p.1=k
  ·have e':q.1=k:=h1.symm.trans e
   have b:valueAt (q::qs) k=some q.2:=by simp[valueAt,K7,e']
   rw[W5 e,b];exact h2
  ·have e':¬q.1=k:=fun z=>e (h1.trans z)
   have b:valueAt (q::qs) k=valueAt qs k:=by simp[valueAt,K7,e']
   rw[W4 e,b];exact ih
theorem KV.any{kvs:List (κ×V)}{vs:List (κ×Value)}(r:KV kvs vs)(k:κ):(kvs.any fun kv=>decide (kv.1=k))=vs.any fun kv=>decide (kv.1=k):=by
 unfold KV at r
 induction r with
 | nil=>rfl
 | cons h t ih=>rw[GG,GG,ih,h.1]
theorem KV.repl{kvs:List (κ×V)}{vs:List (κ×Value)}(r:KV kvs vs)(k:κ){y:V}{u:Value}(ry:RelV y u) :
 KV (kvs.map fun kv=>if kv.1=k then(kv.1,y) else kv) (vs.map fun kv=>if kv.1=k then(kv.1,u) else kv):=by
 unfold KV at r ⊢
 induction r with
 | nil=>exact .nil
 | @cons p q ps qs h t ih =>
  rw[Qd,Qd];refine .cons ?_ ih;obtain⟨h1,h2⟩:=h
  by_cases e:p.1=k
  ·rw[if_pos e,if_pos (h1.symm.trans e)];exact⟨h1,ry⟩
  ·rw[if_neg e,if_neg (fun z=>e (h1.trans z))];exact⟨h1,h2⟩
theorem KV.put{kvs:List (κ×V)}{vs:List (κ×Value)}(r:KV kvs vs)(k:κ){y:V}{u:Value}(ry:RelV y u):KV (VQ kvs k y) (stored vs k u):=by
 unfold VQ stored;rw[r.any k]
 by_cases e:(vs.any fun kv=>decide (kv.1=k))=true
 ·rw[if_pos e,if_pos e];exact r.repl k ry
 ·rw[if_neg e,if_neg e];exact Paired.snoc r ⟨rfl,ry⟩
theorem KV.keys{kvs:List (κ×V)}{vs:List (κ×Value)}(r:KV kvs vs):kvs.map (·.1)=vs.map (·.1):=by
 unfold KV at r
 induction r with
 | nil=>rfl
 | cons h t ih=>rw[Qd,Qd,ih,h.1]
theorem KV.length{kvs:List (κ×V)}{vs:List (κ×Value)}(r:KV kvs vs):kvs.length=vs.length:=MD r
end

theorem JdB{P:Program}{w:World}{k:Key}{u:Value}(r:RelV (kV k) u):(JO P w).is k u=true:=by
 cases k with
 | inl i=>obtain⟨t,e⟩:=(show ∃t,u=Value.int i t from r);subst e;exact JdP P w i t
 | inr x=>obtain⟨t,e⟩:=(show ∃t,u=Value.str x t from r);subst e;exact JdQ P w x t
theorem Jbt{P:Program}{w:World}:∀{ks:List Key} {us:List Value},Vals (ks.map kV) us->ItemsAre (JO P w) ks us
 | [],_,r=>by rw[K2] at r;cases r;exact .nil
 | k::ks,_,r=>by
  rw[Qd] at r
  cases r with
  | cons h t=>exact .cons (JdB h) (Jbt t)

noncomputable abbrev KT(H:Hp):List (List Key×V)->List (List Key×Addr×Value)->Prop:=Paired fun p q=>p.1=q.1/\H q.2.1=some (.tup (p.1.map kV))/\RelV p.2 q.2.2
theorem KT.val{H:Hp}{kvs:List (List Key×V)}{xs:List (List Key×Addr×Value)}(r:KT H kvs xs)(k:List Key):RelO (VA kvs k) ((atKey xs k).map (·.2)):=by
 induction r with
 | nil=>exact True.intro
 | @cons p q ps qs h t ih =>
  obtain⟨h1,_,h2⟩:=h
  by_cases e:p.1=k
  ·have e':q.1=k:=h1.symm.trans e
   have b:atKey (q::qs) k=some q.2:=by simp[atKey,K7,e']
   rw[W5 e,b];exact h2
  ·have e':¬q.1=k:=fun z=>e (h1.trans z)
   have b:atKey (q::qs) k=atKey qs k:=by simp[atKey,K7,e']
   rw[W4 e,b];exact ih
theorem KT.repl{H:Hp}{kvs:List (List Key×V)}{xs:List (List Key×Addr×Value)}(r:KT H kvs xs)(k:List Key){y:V}{u:Value}(ry:RelV y u) :
 KT H (kvs.map fun kv=>if kv.1=k then(kv.1,y) else kv) (xs.map (putAt k u)):=by
 induction r with
 | nil=>exact .nil
 | @cons p q ps qs h t ih =>
  rw[Qd,Qd];refine .cons ?_ ih;obtain⟨h1,h2,h3⟩:=h;unfold putAt
  by_cases e:p.1=k
  ·rw[if_pos e,if_pos (h1.symm.trans e)];exact⟨h1,h2,ry⟩
  ·rw[if_neg e,if_neg (fun z=>e (h1.trans z))];exact⟨h1,h2,h3⟩
theorem KT.put{H:Hp}{kvs:List (List Key×V)}{xs:List (List Key×Addr×Value)}(r:KT H kvs xs)(k:List Key){b:Addr}{y:V}{u:Value}(hb:H b=some (.tup (k.map kV)))(ry:RelV y u) :
 KT H (VQ kvs k y) (storedH xs k b u):=by
 have e:(kvs.any fun kv=>decide (kv.1=k))=(atKey xs k).isSome:=by rw[JaQ,(r.val k).isSome_eq,Option.isSome_map]
 unfold VQ storedH;rw[e]
 by_cases q:(atKey xs k).isSome=true
 ·rw[if_pos q,if_pos q];exact r.repl k ry
 ·rw[if_neg q,if_neg q];exact Paired.snoc r ⟨rfl,hb,ry⟩
theorem KT.keeps{H H':Hp}{kvs:List (List Key×V)}{xs:List (List Key×Addr×Value)}(r:KT H kvs xs)(ht:∀b ys,H b=some (.tup ys)->H' b=some (.tup ys)):KT H' kvs xs :=
 Paired.mapP r fun _ _ z=>⟨z.1,ht _ _ z.2.1,z.2.2⟩

section
variable{P:Program}{w:World}{H:Hp}{h:Heap}{a:Addr}
theorem Jnl{u:HO}(ok:HOk P w H h)(e:Rd H a u):ObjOk P w H h a u:=e.ok ok
theorem Jdd{kvs:List (Key×V)}(ok:HOk P w H h)(e:Rd H a (.dK kvs)):kvs.length<=sizeLine/\(a == sysModules)=false/\∃vs,KV kvs vs/\h.DictOf (JO P w) a vs :=
 show ObjOk P w H h a (.dK kvs) from Jnl ok e
theorem Jm2{kvs:List (Key×V)}(ok:HOk P w H h)(e:H a=some (.dK kvs)):kvs.length<=sizeLine/\(a == sysModules)=false/\∃vs,KV kvs vs/\h.DictOf (JO P w) a vs:=Jdd ok (.inl e)
theorem Jcm{ks:List Key}(ok:HOk P w H h)(e:H a=some (.tup (ks.map kV))):(tupleKind (JO P w)).is h ks a:=by
 obtain⟨_,its,r,o,h1,h2,n,h3⟩:=(show ObjOk P w H h a (.tup (ks.map kV)) from ok a _ e)
 exact⟨o,its.toArray,n,h1,h2,h3,by simpa using Jbt r⟩
theorem Jde{kvs:List (List Key×V)}(ok:HOk P w H h)(e:Rd H a (.dT kvs)):kvs.length<=sizeLine/\(a == sysModules)=false ∧
 ∃xs,KT H kvs xs/\h.DictOfH (tupleKind (JO P w)) a xs:=by
 obtain⟨z,y,xs,r,o,es,ep,h1,h2,h3,h4,h5⟩:=(show ObjOk P w H h a (.dT kvs) from Jnl ok e)
 refine⟨z,y,xs,r,o,es,ep,h1,h2,h3,h4,fun x hx=>?_,h5⟩
 have all:∀{l:List (List Key×V)} {m:List (List Key×Addr×Value)},KT H l m->∀x∈m,(tupleKind (JO P w)).is h x.1 x.2.1:=by
  intro l m q
  induction q with
  | nil=>intro x hx;exact nomatch hx
  | @cons p q ps qs hq t ih =>
   intro x hx;rcases Qh.mp hx with e|hx
   ·subst e;exact Jcm ok (by rw[<- hq.1];exact hq.2.1)
   ·exact ih x hx
 exact all r x hx
theorem JpJ{kvs:List (List Key×V)}(ok:HOk P w H h)(e:H a=some (.dT kvs)):kvs.length<=sizeLine/\(a == sysModules)=false ∧
 ∃xs,KT H kvs xs/\h.DictOfH (tupleKind (JO P w)) a xs:=Jde ok (.inl e)
end

noncomputable def Jhf(H:Hp)(a:Addr)(y:V)(r:Option V):Prop :=
 (∃kvs k,Rd H a (.dK kvs)/\y=kV k/\r=VA kvs k)\/∃kvs k b,Rd H a (.dT kvs)/\y=.ref b/\H b=some (.tup (k.map kV))/\r=VA kvs k
noncomputable def Jpy(H:Hp)(a:Addr)(y v:V)(H':Hp):Prop :=
 (∃kvs k,H a=some (.dK kvs)/\y=kV k/\kvs.length<sizeLine/\H'=upd H a (.dK (VQ kvs k v))) ∨
 ∃kvs k b,H a=some (.dT kvs)/\y=.ref b/\H b=some (.tup (k.map kV))/\kvs.length<sizeLine/\H'=upd H a (.dT (VQ kvs k v))
section
variable{X:Cx}{pins:List (Addr×Obj)}{σ:St}{H:Hp}{s:Shared}{a:Addr}{y v:V}{u r:Value}{o:Option V}{A:Around}{E:Value->Shared->Prop}

theorem Inv.big(I:Inv X pins σ H s):sysModules<s.heap.objs.size:=by have h:mainGlobals<s.heap.objs.size:=(I.mod.glob.keeps I.bk).lt;exact GL (by decide) h

theorem Jhu{Q:Value->Shared->Prop}(hu:A.units+1<cLine)(I:Inv X pins σ H s)(g:Jhf H a y (some v))(ry:RelV y u)(h:∀w' s',Inv X pins σ H s'->RelV v w'->Q w' s') :
 wpAny (model X.prog X.w) A (getItem (.ref a) u) Q E s:=by
 rcases g with ⟨kvs,k,e,ey,l⟩|⟨kvs,k,b,e,ey,eb,l⟩
 ·subst ey;obtain⟨z,hd,vs,rel,dd⟩:=Jdd I.hok e;obtain⟨w',hw,rw'⟩:=RelO.some_of (v:=v) (o:=valueAt vs k) (by rw[l];exact rel.val k);exact wpAny_getItem_of (JdB ry) dd.mapOf hw (h w' _ (I.tok _) rw')
 ·subst ey;cases (show u=Value.ref b from ry);obtain⟨z,hd,xs,rel,dd⟩:=Jde I.hok e;obtain⟨w',hw,rw'⟩:=RelO.some_of (v:=v) (o:=(atKey xs k).map (·.2)) (by rw[l];exact rel.val k);obtain⟨p,hp,hp2⟩:=Gb.mp hw;refine wpAny_getItem_heap (tupleKind_room_in1 hu) (Jcm I.hok eb) dd hp ?_;rw[hp2];exact h w' _ (I.tok _) rw'
theorem Jb0{h':Heap}{t':Nat}{ob:HO}(I:Inv X pins σ H s)(mu:Mut (H a))(hs:QB a s.heap h')(he:∃q,h'.get? a=some q)(new:ObjOk X.prog X.w (upd H a ob) h' a ob) :
 Inv X pins σ (upd H a ob) { s with heap:=h',toks:=t' } :=
 I.write (x:=a) (e:=a) mu (.inl rfl) (fun b q hb z=>(hs.2 b hb).trans z) he new
theorem JiO{P:Program}{w:World}{H':Hp}{h':Heap}{kvs:List (Key×V)}{vs:List (Key×Value)}(z:kvs.length<=sizeLine)(hd:(a == sysModules)=false)(rel:KV kvs vs)(dd:h'.DictOf (JO P w) a vs) :
 ObjOk P w H' h' a (.dK kvs):=⟨z,hd,vs,rel,dd⟩
theorem Jhv{H':Hp}{Q:Unit->Shared->Prop}(hu:A.units+1<cLine)(I:Inv X pins σ H s)(g:Jpy H a y v H')(ry:RelV y u)(rv:RelV v r)(h:∀s',Inv X pins σ H' s'->Q () s') :
 wpAny (model X.prog X.w) A (setItem (.ref a) u r) Q E s:=by
 rcases g with ⟨kvs,k,e,ey,l,eH⟩|⟨kvs,k,b,e,ey,eb,l,eH⟩
 ·subst ey eH;obtain⟨z,hd,vs,rel,dd⟩:=Jm2 I.hok e;have hz:vs.length<=sizeLine:=by rw[<- rel.length];exact z
  have hl:(VQ kvs k v).length<=sizeLine:=by have:=VV kvs k v;omega
  refine wpAny_setItem_pairs (hsz:=hz) (JdB ry) dd fun h' dd' hs=>h _ ?_
  have he:∃q,h'.get? a=some q:=let ⟨q,_,_,hq,_⟩:=dd';⟨q,hq⟩
  exact Jb0 I (by rw[e];exact True.intro) hs he (JiO hl hd (rel.put k rv) dd')
 ·subst ey eH;cases (show u=Value.ref b from ry);obtain⟨z,hd,xs,rel,dd⟩:=JpJ I.hok e;have hz:xs.length<=sizeLine:=by rw[<- MD rel];exact z
  have hl:(VQ kvs k v).length<=sizeLine:=by have:=VV kvs k v;omega
  refine wpAny_setItem_heap (hsz:=hz) (tupleKind_room_in1 hu) (Jcm I.hok eb) dd fun h' dd' hs=>h _ ?_
  obtain⟨q,es,ep,hq,h2,h3,h4,_,h5⟩:=dd';refine Jb0 I (by rw[e];exact True.intro) hs ⟨q,hq⟩ ⟨hl,hd,_,(rel.put k eb rv).keeps fun c ys ec=>?_,q,es,ep,hq,h2,h3,h4,h5⟩;rw[Jm (Jbz ec e (fun z=>nomatch z))];exact ec
end

section
variable{X:Cx}{pins:List (Addr×Obj)}{σ:St}{H:Hp}{s:Shared}{a:Addr}{kvs:List (Key×V)}{k:Key}{u:Value}{A:Around}{E:Value->Shared->Prop}
end

noncomputable def JpB(i:Expr):Prop:=∀ov iv,subscripted i false ov iv=operate [ov,iv] (getItem ov iv)
theorem JmJ{prog:Program}{w:World}{A:Around}{E:Value->Shared->Prop}{s:Shared}{env:Env}{value slice:Expr}{pos:Pos}{T id:String}{Q:Value->Shared->Prop}
 (hl:typeLookup (.type T) "__getitem__"=pure (some (.builtin id))) (hs:JpB slice)
 (h:wpAny (model prog w) A (eval value env) (fun o s₁=>wpAny (model prog w) A (eval slice env) (fun i s₂=>s₂.TypeIs o T/\wpAny (model prog w) A (getItem o i) Q E s₂) E s₁) E s) :
 wpAny (model prog w) A (eval (.Subscript value slice pos) env) Q E s:=by
 refine Subscript_ (LA h (fun o s₁ h₁=>LA h₁ (fun i s₂ h₂=>?_) fun _ _ x=>x) fun _ _ x=>x);obtain⟨hT,h₂⟩:=h₂;unfold subscriptTail;refine Qa ?_;rw[getitemInPython_of_ne hT.not_modules];refine Qa (KB hT hl ?_)
 have fin:wpAny (model prog w) A (subscripted slice false o i) (fun r s₃=>wpAny (model prog w) A (letTemporaryGo value o r >>= fun _=>pure r) Q E s₃) E s₂:=by rw[hs o i];exact wpAny_operating (LA h₂ (fun r s₃ h₃=>Qa (wpAny_letTemporaryGo (Qf h₃))) fun _ _ x=>x)
 first
  | exact Qf (Qa fin)
  | exact Qa (Qf (Qa fin))
  | exact Qa fin

theorem Jdc{X:Cx}{pins:List (Addr×Obj)}{σ:St}{H:Hp}{s:Shared}{a:Addr}{y:V}{o:Option V}(I:Inv X pins σ H s)(g:Jhf H a y o):s.TypeIs (.ref a) "dict":=by
 rcases g with ⟨kvs,k,e,_,_⟩|⟨kvs,k,b,e,_,_,_⟩
 ·obtain⟨_,_,vs,_,dd⟩:=Jdd I.hok e;exact dd.typeIs
 ·obtain⟨_,_,xs,_,dd⟩:=Jde I.hok e;exact dd.typeIs
noncomputable def Jnp(td ty:TE):TE:=fun σ H Q=>td σ H fun x H1=>ty σ H1 fun y H2=>∃a v,x=.ref a/\Jhf H2 a y (some v)/\Q v H2
noncomputable def Jnm(td ty tv:TE):TS:=fun D σ H=>tv σ H fun v H1=>td σ H1 fun x H2=>ty σ H2 fun y H3=>∃a H4,x=.ref a/\Jpy H3 a y v H4/\D.nx σ H4
section
variable{X:Cx}{o i e value:Expr}{pos pos' tpos:Pos}{td ty tv:TE}
theorem Jl4(hu:X.A.units+1<cLine)(ho:PE X o td)(hi:PE X i ty)(hs:JpB i):PE X (.Subscript o i pos) (Jnp td ty):=by intro pins s σ H Q I h;refine JmJ PySem.F.slot_dict_getitem.lookup hs (thn (ho pins s σ H _ I h) fun u s1 ⟨x,H1,I1,rx,q1⟩=>thn (hi pins s1 σ H1 _ I1 q1) fun iv s2 ⟨y,H2,I2,ry,a,v,ex,g,q2⟩=>?_);subst ex;obtain rfl:u=Value.ref a:=rx;exact⟨Jdc I2 g,Jhu hu I2 g ry fun w' s3 I3 rw'=>⟨v,H2,I3,rw',q2⟩⟩
theorem JgL(hu:X.A.units+1<cLine)(ho:PE X o td)(hi:PE X i ty)(hv:PE X value tv)(hs:swapsWith value (some (.Subscript o i pos')) pos.line X.env=pure false) :
 PS X (.Assign [.Subscript o i pos'] value pos) (Jnm td ty tv):=by
 intro pins s σ H D I h;refine wpAny_Assign_Subscript (thn (hv pins s σ H _ I h) fun r s1 ⟨v,H1,I1,rv,q1⟩=>thn (ho pins s1 σ H1 _ I1 q1) fun u s2 ⟨x,H2,I2,rx,q2⟩=>thn (hi pins s2 σ H2 _ I2 q2) fun iv s3 ⟨y,H3,I3,ry,a,H4,ex,g,q3⟩=>?_) hs;subst ex;obtain rfl:u=Value.ref a:=rx;exact Jhv hu I3 g ry rv fun s4 I4=>⟨σ,H4,I4,q3⟩
end

theorem JiN{P:Program}{w:World}{H:Hp}(h:Heap)(hb:sysModules<h.objs.size):ObjOk P w H (h.push { cls:=.type "dict",data:=.dict #[] }) h.objs.size (.dK []) :=
 ⟨GJ _,beq_eq_false_iff_ne.mpr (QN (Qy hb)),[],.nil,Heap.DictOf.new h⟩
noncomputable def Jkn:TE:=fun _ H Q=>∀p,H p=none->Q (.ref p) (upd H p (.dK []))
section
variable{X:Cx}{pos:Pos}
theorem Jaz:PE X (.Dict [] [] pos) Jkn:=fun pins s σ H Q I h=>wpAny_Dict_empty ⟨.ref s.heap.objs.size,_,I.laid (a:=s.heap.objs.size) (o:=.dK []) (t':=s.toks) (fun _ _ q=>Qg _ q) (Qn _) (JiN s.heap I.big),rfl,h _ (I.hok.fresh (Qn _))⟩
end

structure M2 (X:Cx) (o:Expr) (m:Str) (apos:Pos) (e f:Expr) (cpos:Pos):Prop where
 base:attributeBase o m X.env (eval o X.env)=eval o X.env
 few:((backTo cpos (starEach [e,f] X.env)).all (fun x=>!x.1) && (backToKw cpos (keywordEach [] X.env)).all (fun x=>x.1.isSome)
  && decide (([e,f]:List Expr).length+([]:List Keyword).length+(if ([]:List Keyword).isEmpty then 0 else 1)<30))=true
 line:(apos.endLine == cpos.line)=true
 trees:backTo cpos (starEach [e,f] X.env)=[(false,eval e X.env),(false,eval f X.env)]

noncomputable def IsD(H:Hp)(a:Addr):Prop:=(∃kvs,Rd H a (.dK kvs))\/∃kvs,Rd H a (.dT kvs)
theorem Jcl{X:Cx}{pins:List (Addr×Obj)}{σ:St}{H:Hp}{s:Shared}{a:Addr}(I:Inv X pins σ H s)(d:IsD H a) :
 s.TypeIs (.ref a) "dict"/\(∀b,Value.ref a=.ref b->∃ob,s.heap.get? b=some ob/\ob.dict=none)/\(a == sysModules)=false:=by
 rcases d with ⟨kvs,e⟩|⟨kvs,e⟩
 ·obtain⟨_,hd,vs,_,dd⟩:=Jdd I.hok e;refine⟨dd.typeIs,fun b q=>?_,hd⟩;cases q;obtain⟨ob,_,_,h1,h2,_⟩:=dd;exact⟨ob,h1,h2.2.1⟩
 ·obtain⟨_,hd,xs,_,dd⟩:=Jde I.hok e;refine⟨dd.typeIs,fun b q=>?_,hd⟩;cases q;obtain⟨ob,_,_,h1,h2,_⟩:=dd;exact⟨ob,h1,h2.2.1⟩

section
variable{X:Cx}{pins:List (Addr×Obj)}{σ:St}{H:Hp}{s:Shared}{a:Addr}{y d:V}{u r:Value}{o:Option V}{A:Around}{E:Value->Shared->Prop}
theorem JnG{Q:Value->Shared->Prop}(hu:A.units+1<cLine)(I:Inv X pins σ H s)(g:Jhf H a y o)(ry:RelV y u)(rd:RelV d r)(h:∀w' s',Inv X pins σ H s'->RelV (o.getD d) w'->Q w' s') :
 wpAny (model X.prog X.w) A (call (.builtin "dict.get") [.ref a,u,r]) Q E s:=by
 rcases g with ⟨kvs,k,e,ey,l⟩|⟨kvs,k,b,e,ey,eb,l⟩
 ·subst ey;obtain⟨z,hd,vs,rel,dd⟩:=Jdd I.hok e;refine call_meetsIn LT dd.typeIs M4 (MN _ _ _) (meets_dict_get_default (JO X.prog X.w) a (JdB ry) hd r) ⟨_,dd.mapOf,h _ _ (I.tok _) ?_⟩;rw[l];exact(rel.val k).getD rd
 ·subst ey;cases (show u=Value.ref b from ry);obtain⟨z,hd,xs,rel,dd⟩:=Jde I.hok e;refine call_meetsIn LT dd.typeIs M4 (MN _ _ _) (meetsH_dict_get_default (tupleKind (JO X.prog X.w)) a b hd r) ⟨tupleKind_room_in1 hu,k,xs,Jcm I.hok eb,dd,h _ _ (I.tok _) ?_⟩;rw[l];exact(rel.val k).getD rd
end

noncomputable def Jkm(td ty tx:TE):TE:=fun σ H Q=>td σ H fun x H1=>∃a,x=.ref a/\IsD H1 a/\ty σ H1 fun y H2=>tx σ H2 fun z H3=>∃o,Jhf H3 a y o/\Q (o.getD z) H3
section
variable{X:Cx}{o e f:Expr}{apos cpos:Pos}{td ty tx:TE}
theorem Jd1(hu:X.A.units+1<cLine)(ho:PE X o td)(he:PE X e ty)(hf:PE X f tx)(m:M2 X o "get" apos e f cpos):PE X (.Call (.Attribute o "get" apos) [e,f] [] cpos) (Jkm td ty tx):=by
 intro pins s σ H Q I h;refine wpAny_Call_method m.base m.few m.line KK LT PySem.F.type_dict_get (thn (ho pins s σ H _ I h) fun u s1 ⟨x,H1,I1,rx,a,ex,d,q1⟩=>?_);subst ex;obtain rfl:u=Value.ref a:=rx;obtain⟨t1,t2,_⟩:=Jcl I1 d;refine⟨t1,t2,?_⟩;rw[m.trees];refine G5 rfl (L3 (Kq (thn (he pins s1 σ H1 _ I1 q1) fun iv s2 ⟨y,H2,I2,ry,q2⟩=>Kq (thn (hf pins s2 σ H2 _ I2 q2) fun fv s3 ⟨z,H3,I3,rz,ov,g,q3⟩=>LL ?_))))
 exact JnG hu I3 g ry rz fun w' s4 I4 rw'=>⟨_,H3,I4,rw',q3⟩
end

section
variable{X:Cx}{pins:List (Addr×Obj)}{σ:St}{H:Hp}{s:Shared}{a:Addr}{kvs:List (Key×V)}{A:Around}{E:Value->Shared->Prop}
end

section
variable{X:Cx}{pins:List (Addr×Obj)}{σ:St}{H:Hp}{s:Shared}{a:Addr}{y:V}{u:Value}{A:Around}{E:Value->Shared->Prop}
end
end L2
namespace L2
open PySem PySem.Spec PyProof.Rows

noncomputable def Jin(X:Cx)(ifs:List Expr)(t:TT):Prop :=
 ∀(pins:List (Addr×Obj)) (s:Shared) (σ:St) (H:Hp) (Q:Bool->Hp->Prop),Inv X pins σ H s->t σ H Q ->
  wpAny (model X.prog X.w) X.A (forIn ifs true fun c r=>if r=true then do let ok <- isTrue c X.env (eval c X.env);pure (ForInStep.yield ok) else pure (ForInStep.yield r)) (TP X pins σ Q) X.xe s
noncomputable def Jpm:TT:=fun _ H Q=>Q true H
theorem Yj{X:Cx}:Jin X [] Jpm:=fun _ _ _ H _ I h=>wpAny_tests_nil ⟨H,I,h⟩
theorem Jd6{X:Cx}{c:Expr}{t:TT}(h:PT X c t):Jin X [c] t:=fun pins s σ H Q I q=>wpAny_tests_one (h pins s σ H Q I q)

noncomputable def blk(X:Cx)(sc:Scope)(cl:List (Str×Addr))(N':List Str)(C:Addr)(s:Shared)(H:Hp)(fp:List Addr):Cx where
 prog:=X.prog
 w:=X.w
 K:=X.K
 mg:=X.mg
 base:=X.base
 A:=X.A
 N:=N'
 s₀:=s
 H₀:=H
 env:=compEnvC sc cl C X.env
 outer:=X.stack
 stack:=X.stack
 ex:=fp
 fn:=fun _=>false
 calm:=X.calm
 pn:=[]
 xe:=fun _ _=>False

noncomputable def Jag(imp:List (Option Nat))(σ:St):St:=imp.map fun o=>match o with
 | none=>none
 | some k=>(σ[k]?).join

structure Blk (X:Cx) (sc:Scope) (cl:List (Str×Addr)) (N':List Str) (imp:List (Option Nat)):Prop where
 clos:closureFor sc X.env=pure cl
 kind:sc.kind=.function
 nocell:∀y∈sc.names,y.2≠.cell
 names:∀y∈sc.names,y.2=.local->sc.names.lookup y.1=some .local
 sub:∀p∈cl,X.env.cells.lookup p.1=some p.2
 has:∀y∈(relabel sc X.env).names,(y.2=.cell\/y.2=.free)->(cl.lookup y.1).isSome=true
 len:imp.length=N'.length
 im:∀p∈imp.zip N',∀k,p.1=some k->X.N[k]?=some p.2/\(X.env.scope.names.lookup p.2=some .cell\/X.env.scope.names.lookup p.2=some .free)/\((relabel sc X.env).names.lookup p.2=some .cell\/(relabel sc X.env).names.lookup p.2=some .free)

noncomputable def Jg8(wi:TI)(g:TG)(tt:TT)(te:TE)(imp:List (Option Nat)):TE:=fun σ H Q=>wi σ H fun J H1=>∃W:Nat->Nat->List V->St->Hp->Prop,(∃m,W 0 m [] (Jag imp σ) H1)/\∀i m ys σ' H',W i m ys σ' H' ->
 (J.stop i H'/\ys.length<=sizeLine/\∀D,H' D=none->Q (.ref D) (upd H' D (.lst ys))) ∨
 (J.go i H'/\ys.length<sizeLine/\∃N:List V->St->Hp->Prop,(∀ys' σ2 H2,N ys' σ2 H2->∃m',m'<m/\W (i+1) m' ys' σ2 H2) ∧
  ∀x H2,J.yld i H' x H2->g x σ' H2 fun σ2 H3=>tt σ2 H3 fun b H4=>if b=true then te σ2 H4 fun y H5=>N (ys++[y]) σ2 H5 else N ys σ2 H4)

section
variable{P:Program}{w:World}{H:Hp}{h h':Heap}
theorem HOk.sameBut{C:Addr}(x:HOk P w H h)(hC:H C=none)(k:∀b o,b≠C->h.get? b=some o->h'.get? b=some o):HOk P w H h':=fun a o e =>
 (x a o e).stay (fun b u hb q=>k b u (by
  rintro rfl;rcases hb with z|z
  ·rw[<- z,hC] at e;cases e
  ·rw[hC] at z;cases z) q) (fun _ q=>q) fun _ _ q=>q
theorem HOk.track{D:Addr}{o:HO}(x:HOk P w H h)(hD:H D=none)(new:ObjOk P w (upd H D o) h D o):HOk P w (upd H D o) h:=fun b u e=>by
 by_cases hb:b=D
 ·subst hb;rw[Jv] at e;cases e;exact new
 ·rw[Jm hb] at e;exact(x b u e).stay (fun c v _ q=>q) (fun c q=>by rw[Jm (Jw q hD)];exact q) fun c xs q=>by rw[Jm (Jw q hD)];exact q
end

theorem Wv{α:Type}{x:Str}{c:α}:∀{l:List (Str×α)},l.lookup x=some c->(x,c)∈l:=fun h=>Kn h

section
variable{X:Cx}{tg iter elt:Expr}{ifs:List Expr}{sc:Scope}{cl:List (Str×Addr)}{N':List Str}{imp:List (Option Nat)}{pos:Pos}{wi:TI}{g:TG}{tt:TT}{te:TE}

theorem Blk.subL(B:Blk X sc cl N' imp):∀x c,cl.lookup x=some c->X.env.cells.lookup x=some c:=fun x c e=>B.sub (x,c) (Wv e)

theorem Jk0{pins:List (Addr×Obj)}{σ:St}{H:Hp}{s:Shared}{fp:List Addr}{h₁:Heap}{C:Addr}(B:Blk X sc cl N' imp)(I:Inv X pins σ H s)(hf:∀b∈fp,FpOk X pins H b)(hfo:∀b∈fp,∃o,s.heap.get? b=some o)
 (hC:s.heap.objs.size<C) (old:∀b o,s.heap.get? b=some o->h₁.get? b=some o) (ns:h₁.Ns C fun _=>none) :
 Inv (blk X sc cl N' C s H fp) [] (Jag imp σ) H { s with heap:=h₁,toks:=s.toks }:=by
 have hlt:∀b∈fp,b<s.heap.objs.size:=fun b hb=>let ⟨_,e⟩:=hfo b hb;Qj e
 have clt:∀x c,X.env.cells.lookup x=some c->c<s.heap.objs.size:=fun x c e=>let ⟨_,q⟩:=I.cell x c e;q.lt
 have ok:(blk X sc cl N' C s H fp).Ok:={
  mod:=I.ok.mod
  kind:=B.kind
  glob:=I.ok.glob
  blt:=I.ok.blt
  above:=GS hC
  inj:=fun x y c h1 h2=>I.ok.inj x y c (B.subL x c h1) (B.subL y c h2)
  has:=fun x hx=>by
   have hx':(relabel sc X.env).names.lookup x=some .cell\/(relabel sc X.env).names.lookup x=some .free:=hx
   have:(cl.lookup x).isSome=true:=by
    rcases hx' with z|z
    ·exact B.has (x,.cell) (Wv z) (.inl rfl)
    ·exact B.has (x,.free) (Wv z) (.inr rfl)
   exact ME.mp this
  cab:=fun x c z=>nomatch z
  hd:=I.ok.hd
  frames:=I.ok.frames
  stk:=.inl rfl
  exf:=fun b hb=>⟨Qy (GL (hlt b hb) hC),fun x c e=>(hf b hb).2.2.2.2.1 x c (B.subL x c e)⟩
  bs:=I.bs
  bsz:=Gn I.ok.bsz I.sz
  noex:=fun b o e hb=>by
   rcases(hf b hb).2.2.2.1 with z|z
   ·exact I.ok.noex b o e z
   ·exact absurd (Q3 (Qj e) (Gn I.ok.bsz z)) (Q6 _)
  exfs:=fun b hb z=>by
   rcases Qh.mp (I.stkSub b z) with q|q
   ·exact(hf b hb).2.1 q
   ·exact(hf b hb).2.2.1 q
  funs:=I.stack
  frf:=I.stkFree }
 refine⟨ok,rfl,I.bare,Un.kept old,⟨_,ns,fun i x v h1 h2 h3=>?_⟩,fun x c e=>?_,I.hok.fresh (GS hC),fun x c e=>I.freeC x c (B.subL x c e),fun p hp=>absurd (show p∈([]:List (Addr×Obj)) from hp) (by simp),I.hok.kept old,?_⟩
 ·have h1':N'[i]?=some x:=h1
  have h2':(imp.map fun o=>match o with|none=>none|some k=>(σ[k]?).join)[i]?=some (some v):=h2;rw[Qq] at h2'
  cases e:imp[i]? with
  | none=>rw[e] at h2';cases h2'
  | some q =>
   rw[e] at h2'
   cases q with
   | none=>cases h2'
   | some k =>
    have h2'':(σ[k]?).join=some v:=QH h2'
    have hk:σ[k]?=some (some v):=by
     cases e':σ[k]? with
     | none=>rw[e'] at h2'';cases h2''
     | some z=>rw[e'] at h2'';cases z with
      | none=>cases h2''
      | some z=>cases h2'';rfl
    have hm:(some k,x)∈imp.zip N':=by refine QC (i:=i) ?_;rw[Mr];exact⟨e,h1'⟩
    obtain⟨b1,b2,b3⟩:=B.im _ hm k rfl;obtain⟨m,hn,hl⟩:=I.loc;obtain⟨u,r,l⟩:=hl k x v b1 hk (b2.elim (fun z=>.inr (.inl z)) fun z=>.inr (.inr z));refine⟨u,r,.inr ⟨b3,?_⟩⟩
    have hc:∃c,X.env.cells.lookup x=some c/\s.heap.IsCell c (some u):=by
     rcases l with ⟨z,_⟩|⟨_,z⟩
     ·have z':X.env.scope.names.lookup x=some .local:=z;rcases b2 with y|y <;> rw[y] at z' <;> cases z'
     ·exact z
    obtain⟨c,hc,oc,ho,hd⟩:=hc;obtain⟨c',hc'⟩:=ok.has x b3;have e2:=B.subL x c' hc';rw[hc] at e2;cases e2;exact⟨c,hc',oc,old c oc ho,hd⟩
 ·obtain⟨v,o,ho,hd⟩:=I.cell x c (B.subL x c e);exact⟨v,o,old c o ho,hd⟩
 ·show(imp.map _).length=N'.length;rw[Qm];exact B.len

theorem JkZ{pins pn:List (Addr×Obj)}{σ σ':St}{H2 H':Hp}{s2 s4:Shared}{fp:List Addr}{C D:Addr}{Cs:Addr}{ys:List V}{its:List Value}{k:Nat}{h':Heap}(I2:Inv X pins σ H2 s2)(f2:∀b∈fp,FpOk X pins H2 b)
 (I5:Inv (blk X sc cl N' C s2 H2 fp) pn σ' H' s4) (hC:s2.heap.objs.size<C) (hD:H' D=none) (hDs:s2.heap.objs.size<=D) (hDC:D≠C) (eD:s4.heap.get? D=some { cls:=.type "list",data:=.seq its.toArray k })
 (rv:Vals ys its) (hz:ys.length<=sizeLine) (hsb:QB C s4.heap h'):Inv X pins σ (upd H' D (.lst ys)) { s4 with heap:=h' }:=by
 have U:Un (frs X.stack) fp H2 H' s2.heap s4.heap:=I5.base
 have kk:∀b o,b≠C->s4.heap.get? b=some o->h'.get? b=some o:=hsb.extBut
 have hC':H' C=none:=I5.free
 have ok1:HOk X.prog X.w H' h':=HOk.sameBut (C:=C) I5.hok hC' kk
 have ok2:HOk X.prog X.w (upd H' D (.lst ys)) h':=ok1.track hD ⟨hz,its,k,rv,kk _ _ hDC eD⟩
 have lt:∀b o,s2.heap.get? b=some o->b≠C/\b≠D:=fun b o e=>⟨Qy (GL (Qj e) hC),Qy (Q3 (Qj e) hDs)⟩
 refine I2.call' (s':={ s4 with heap:=h' }) (ch:=fp) I5.os ⟨fun b o e n hb hx=>kk b o (lt b o e).1 (U.keep b o e n hb hx),fun b o e n hb hx=>?_,fun b o e n hx=>?_,fun b o e hx=>?_,fun b xs e=>?_,fun b o u e=>?_,fun b ps e=>?_⟩ ok2 I5.bare
  fun b hb=>⟨(f2 b hb).2.2.2.1,(f2 b hb).2.1,(f2 b hb).2.2.2.2.1,(f2 b hb).2.2.2.2.2⟩
 ·obtain⟨sl,q⟩:=U.slot b o e n hb hx;exact⟨sl,kk b _ (lt b o e).1 q⟩
 ·rw[Jm (lt b o e).2];exact U.free b o e n hx
 ·obtain⟨o',q⟩:=U.there b o e hx;exact⟨o',kk b o' (lt b o e).1 q⟩
 ·have q:=U.tups b xs e;rw[Jm (Jw q hD)];exact q
 ·have q:=U.frzs b o u e;rw[Jm (Jw q hD)];exact q
 ·obtain⟨more,q⟩:=U.tbls b ps e;exact⟨more,by rw[Jm (Jw q hD)];exact q⟩

noncomputable def Jpx(g:TG)(tt:TT)(te:TE)(imp:List (Option Nat))(σ:St)(Q:VK)(J:It)(H1:Hp):Prop:=∃W:Nat->Nat->List V->St->Hp->Prop,(∃m,W 0 m [] (Jag imp σ) H1)/\∀i m ys σ' H',W i m ys σ' H' ->
 (J.stop i H'/\ys.length<=sizeLine/\∀D,H' D=none->Q (.ref D) (upd H' D (.lst ys))) ∨
 (J.go i H'/\ys.length<sizeLine/\∃N:List V->St->Hp->Prop,(∀ys' σ2 H2,N ys' σ2 H2->∃m',m'<m/\W (i+1) m' ys' σ2 H2) ∧
  ∀x H2,J.yld i H' x H2->g x σ' H2 fun σ2 H3=>tt σ2 H3 fun b H4=>if b=true then te σ2 H4 fun y H5=>N (ys++[y]) σ2 H5 else N ys σ2 H4)
theorem Jbl{pins:List (Addr×Obj)}{σ:St}{Q:VK}{itv:Value}{s2:Shared}{RR:Value->Addr->Result->Shared->Prop}{E:Value->Shared->Prop}(hc:X.calm=true)(B:Blk X sc cl N' imp)
 (hg:∀C s H fp,PG (blk X sc cl N' C s H fp) tg g) (ht:∀C s H fp,Jin (blk X sc cl N' C s H fp) ifs tt) (he:∀C s H fp,PE (blk X sc cl N' C s H fp) elt te)
 (h2:PIE X pins σ tg (Jpx g tt te imp σ Q) itv s2)
 (fin:∀(C D:Addr) (s4:Shared) (H':Hp) (ys:List V) (m:Str->Option Value),s2.heap.objs.size<C->s4.heap.Ns C m->H' C=none->(∀h',QB C s4.heap h'->Inv X pins σ H' { s4 with heap:=h' })->Q (.ref D) H'->RR (.ref D) C (.ok .next) s4) :
 wpAny (model X.prog X.w) X.A (newList []) (fun acc s₃=>wpAny (model X.prog X.w) X.A (newFunctionEnv sc X.env.globals cl [] X.env.qual none .none (some X.env)) (fun cenv s₄=>codeAny (model X.prog X.w) X.A (.compStart (.ListComp elt [⟨tg,iter,ifs,0⟩] sc pos) 0 itv acc { cenv with scope:=relabel sc X.env }) (RR acc cenv.locals) s₄) E s₃) E s2:=by
 obtain⟨it,fp,tn,J,H2,e,I2,T,st2,f2,W,⟨m0,w0⟩,turn⟩:=h2;subst e;refine QZ (wpAny_newFunctionEnv B.nocell (by intro y hy;simp at hy) (fun h₁ hns₁ hsb₁=>?_) B.kind);dsimp only at hns₁ hsb₁ ⊢
 generalize hG:s2.heap.push { cls:=.type "list",dict:=none,data:=.seq ([]:List Value).toArray }=G at hns₁ hsb₁ ⊢
 have hCs:G.objs.size=s2.heap.objs.size+1:=by rw[<- hG,Ge]
 have hC:s2.heap.objs.size<G.objs.size:=by rw[hCs];exact Gy _
 have below:∀b,b<s2.heap.objs.size->b≠G.objs.size:=fun b hb=>Qy (GL hb hC)
 have old:∀b o,s2.heap.get? b=some o->h₁.get? b=some o:=fun b o e=>hsb₁.extBut b o (below b (Qj e)) (Qg _ (hG▸Qg _ e))
 have hD1:h₁.get? s2.heap.objs.size=some { cls:=.type "list",data:=.seq ([]:List Value).toArray }:=hsb₁.extBut _ _ (Qy hC) (Qg _ (hG▸Qi _ rfl))
 have fpo:∀b∈fp,∃o,s2.heap.get? b=some o:=fun b hb=>let ⟨o,e,_⟩:=T.obj 0 _ st2 b hb;⟨o,e⟩
 have I4:=Jk0 B I2 f2 fpo hC old (show h₁.Ns G.objs.size fun _=>none from hns₁)
 -- the records of the block: the list that grows,the iterator's
 have stD:∀{H':Hp} {pn:List (Addr×Obj)},(∀b∈s2.heap.objs.size::fp,H' b=none)->(∀p∈pn,p.1∉s2.heap.objs.size::fp)->∀b∈s2.heap.objs.size::fp,FpOk (blk X sc cl N' G.objs.size s2 H2 fp) pn H' b:=fun {H' pn} hn hp b hb=>by
  have hp':∀p∈([]++pn:List (Addr×Obj)),p.1≠b:=fun p z q=>hp p (by simpa using z) (q▸hb)
  rcases Qh.mp hb with z|z
  ·subst z;refine⟨hn _ hb,Qy hC,fun q=>?_,.inr (Qn _),fun x c e q=>?_,hp'⟩
   ·rcases Qh.mp (I2.stkSub _ q) with q|q
    ·exact absurd I2.lt (by rw[<- q];exact Q6 _)
    ·exact I2.nofs (Qn _) q
   ·obtain⟨v,qc⟩:=I2.cell x c (B.subL x c e);exact absurd qc.lt (by rw[q];exact Q6 _)
  ·refine⟨hn _ hb,below b (let ⟨_,e⟩:=fpo b z;Qj e),fun q=>?_,.inl z,fun x c e=>(f2 b z).2.2.2.2.1 x c (B.subL x c e),hp'⟩;rcases Qh.mp (I2.stkSub b q) with q|q
   ·exact(f2 b z).2.1 q
   ·exact(f2 b z).2.2.1 q
 have nDf:s2.heap.objs.size∉fp:=fun z=>let ⟨_,e⟩:=fpo _ z;absurd (Qj e) (Q6 _)
 have loop:codeAny (model X.prog X.w) X.A (.compLoop (.ListComp elt [⟨tg,iter,ifs,0⟩] sc pos) 0 (.ref it) (.ref s2.heap.objs.size) (compEnvC sc cl G.objs.size X.env))
  (RR (.ref s2.heap.objs.size) G.objs.size) { s2 with heap:=h₁,toks:=s2.toks }:=by
  refine codeAny_loop rfl (fun n s'=>∃i ys its k σ' H',Inv (blk X sc cl N' G.objs.size s2 H2 fp) [] σ' H' s'/\tn i s'.heap/\(∀b∈s2.heap.objs.size::fp,H' b=none)/\Vals ys its/\s'.heap.get? s2.heap.objs.size=some { cls:=.type "list",data:=.seq its.toArray k }/\W i n ys σ' H') ?_ m0
   ⟨0,[],[],0,_,H2,I4,T.keep _ _ _ st2 (fun b _ o e=>old b o e),fun b hb=>?_,.nil,hD1,w0⟩
  ·rintro n s3 ⟨i,ys,its,k,σ3,H3,I3,st3,fr3,rv3,hD3,w3⟩;have fr3':∀b∈fp,FpOk (blk X sc cl N' G.objs.size s2 H2 fp) [] H3 b:=fun b hb=>stD (pn:=[]) fr3 (fun p z=>nomatch z) b (Qc _ hb)
   show wpAny _ X.A ((compTurn (.ListComp elt [⟨tg,iter,ifs,0⟩] sc pos) 0 (.ref it) (.ref s2.heap.objs.size) (compEnvC sc cl G.objs.size X.env)).onRaise (fun x=>do noteFrame x (compEnvC sc cl G.objs.size X.env);theTreesLotGoes x)) _ _ s3;refine wpAny_noted (wpAny_noRaise ?_);rw[compTurn_list];refine Qa (wpAny_standAt (Qa ?_))
   have fD:=stD (pn:=[]) fr3 (fun p z=>nomatch z) s2.heap.objs.size Qe
   have hDH:H3 s2.heap.objs.size=none:=fr3 _ Qe
   have I3p:Inv (blk X sc cl N' G.objs.size s2 H2 fp) [(s2.heap.objs.size,{ cls:=.type "list",data:=.seq its.toArray k })] σ3 H3 s3:=I3.pins_of fun p hp=>by
    have e:p=(s2.heap.objs.size,{ cls:=.type "list",data:=.seq its.toArray k }):=by simpa using hp
    subst e;exact⟨hD3,hDH,fD.2.1,fD.2.2.1,fun v z=>by cases z⟩
   have pfp:∀p∈[(s2.heap.objs.size,({ cls:=.type "list",data:=.seq its.toArray k }:Obj))],p.1∉fp:=fun p hp=>by
    have e:p=(s2.heap.objs.size,{ cls:=.type "list",data:=.seq its.toArray k }):=by simpa using hp
    subst e;exact nDf
   have fpP:∀{H':Hp},(∀b∈fp,H' b=none)->∀b∈fp,FpOk (blk X sc cl N' G.objs.size s2 H2 fp) [(s2.heap.objs.size,({ cls:=.type "list",data:=.seq its.toArray k }:Obj))] H' b:=fun {H'} hn b hb =>
    have f:=stD (pn:=[]) fr3 (fun p z=>nomatch z) b (Qc _ hb)
    ⟨hn b hb,f.2.1,f.2.2.1,f.2.2.2.1,f.2.2.2.2.1,fun p hp q=>pfp p ((Gk.mp hp).elim (fun z=>nomatch (show p∈([]:List (Addr×Obj)) from z)) id) (q▸hb)⟩
   rcases turn i n ys σ3 H3 w3 with ⟨stop,hz,q⟩|⟨go,hz,N,hN,step⟩
   ·refine thn (T.done (blk X sc cl N' G.objs.size s2 H2 fp) rfl rfl rfl hc i _ s3 σ3 H3 _ I3p (fpP fun b hb=>fr3 b (Qc _ hb)) st3 stop) fun r s4 ⟨hr,I5⟩=>?_
    subst hr;refine Qf ?_;obtain⟨m,hn,_⟩:=I5.loc;have eD:=(I5.pin (s2.heap.objs.size,{ cls:=.type "list",data:=.seq its.toArray k }) (by simp)).1;have hCf:H3 G.objs.size=none:=I5.free;exact fin G.objs.size s2.heap.objs.size s4 _ ys m hC hn (by rw[Jm (Ga hC)];exact hCf) (fun h' hsb=>JkZ (Cs:=0) I2 f2 I5 hC hDH (Qn _) (Qy hC) eD rv3 hz hsb) (q _ hDH)
   ·refine thn (T.item (blk X sc cl N' G.objs.size s2 H2 fp) rfl rfl rfl hc i _ s3 σ3 H3 _ I3p (fpP fun b hb=>fr3 b (Qc _ hb)) st3 go) fun r s4 ⟨u,hr,h4⟩=>?_
    subst hr;refine Qa (thn h4 fun _ s5 ⟨x,H5,I5,r5,y5,st5,fr5⟩=>?_);have I5':=I5.pinned (fpP fr5) (T.obj _ _ st5);refine Qa (thn (hg G.objs.size s2 H2 fp _ s5 σ3 H5 x u _ I5' r5 (step x H5 y5)) fun _ s6 ⟨σ6,H6,I6,q6⟩=>?_);refine Qa (thn (ht G.objs.size s2 H2 fp _ s6 σ6 H6 _ I6 q6) fun ok s7 ⟨H7,I7,q7⟩=>?_)
    -- what stays of the records
    have recs:∀{σ':St} {H':Hp} {s':Shared},Inv (blk X sc cl N' G.objs.size s2 H2 fp) ([(s2.heap.objs.size,({ cls:=.type "list",data:=.seq its.toArray k }:Obj))]++JaC fp s5.heap) σ' H' s' ->
     tn (i+1) s'.heap/\(∀b∈s2.heap.objs.size::fp,H' b=none)/\s'.heap.get? s2.heap.objs.size=some { cls:=.type "list",data:=.seq its.toArray k }:=fun {σ' H' s'} I'=>by
     have pd:=I'.pin (s2.heap.objs.size,{ cls:=.type "list",data:=.seq its.toArray k }) (by simp)
     have pf:∀b∈fp,∀o,s5.heap.get? b=some o->s'.heap.get? b=some o/\H' b=none:=fun b hb o e=>by have z:=I'.pin (b,o) (Gw _ (Gw _ (Wx hb e)));exact⟨z.1,z.2.1⟩
     refine⟨T.keep _ _ _ st5 fun b hb o e=>(pf b hb o e).1,fun b hb=>?_,pd.1⟩;rcases Qh.mp hb with z|z
     ·subst z;exact pd.2.1
     ·obtain⟨o,e,d⟩:=T.obj _ _ st5 b z;exact(pf b z o e).2
    cases ok with
    | false=>obtain⟨m',hm,w7⟩:=hN _ _ _ (show N ys σ6 H7 from by simpa using q7);obtain⟨r1,r2,r3⟩:=recs I7;exact Qf ⟨rfl,m',hm,i+1,ys,its,k,σ6,H7,I7.pins_of (fun p hp=>nomatch hp),r1,r2,rv3,r3,w7⟩
    | true =>
     have q7':te σ6 H7 fun y H5=>N (ys++[y]) σ6 H5:=by simpa using q7
     refine Qa (Qa (thn (he G.objs.size s2 H2 fp _ s7 σ6 H7 _ I7 q7') fun y s8 ⟨y8,H8,I8,ry,q8⟩=>Qa ?_));obtain⟨r1,r2,r3⟩:=recs I8;have hl:=rv3.length;refine wpAny_list_append_plain (hsz:=by rw[Qo];omega) ⟨k,r3⟩ fun h9 ⟨k9,hl9⟩ hs9=>Qf (Qf ?_)
     have hD8:H8 s2.heap.objs.size=none:=r2 _ Qe
     have f8:=stD (pn:=[]) r2 (fun p z=>nomatch z) s2.heap.objs.size Qe
     have I8':Inv (blk X sc cl N' G.objs.size s2 H2 fp) [] σ6 H8 s8:=I8.pins_of (fun p hp=>nomatch hp)
     have I9:Inv (blk X sc cl N' G.objs.size s2 H2 fp) [] σ6 H8 { s8 with heap:=h9 }:=I8'.turned (t':=s8.toks) (it:=s2.heap.objs.size) (fun b o hb e=>hs9.extBut b o hb e) hD8 f8.2.1 f8.2.2.2.1 f8.2.2.2.2.1 f8.2.2.2.2.2;obtain⟨m',hm,w8⟩:=hN _ _ _ q8;refine⟨rfl,m',hm,i+1,ys++[y8],its++[y],k9,σ6,H8,I9,?_,r2,rv3.append (.cons ry .nil),?_,w8⟩
     ·exact T.keep _ _ _ r1 fun b hb o e=>hs9.extBut b o (fun z=>nDf (z▸hb)) e
     ·rw[hl9];simp
  ·rcases Qh.mp hb with z|z
   ·subst z;exact I2.hok.fresh (Qn _)
   ·exact(f2 b z).1
 exact codeAny_compStart_list loop (T.self _ 0 _ _ _ (T.keep _ _ _ st2 fun b _ o e=>old b o e) loop)

theorem Yp(hc:X.calm=true)(hi:PI X tg iter wi)(B:Blk X sc cl N' imp)
 (hg:∀C s H fp,PG (blk X sc cl N' C s H fp) tg g) (ht:∀C s H fp,Jin (blk X sc cl N' C s H fp) ifs tt) (he:∀C s H fp,PE (blk X sc cl N' C s H fp) elt te)
 (hs:∀x,foldedSetIterable iter X.env x=pure x:=by intro _;rfl):PE X (.ListComp elt [⟨tg,iter,ifs,0⟩] sc pos) (Jg8 wi g tt te imp):=by
 intro pins s σ H Q I h;rw[eval_ListComp];refine wpAny_comprehension_free (use:=none) rfl hs B.clos B.kind B.names (thn (hi pins s σ H _ I h) fun v s1 h1=>thn h1 fun itv s2 h2=>?_);refine Jbl (RR:=fun acc C=>compPost (model X.prog X.w) X.A X.xe none (EP X pins σ Q) acc C) hc B hg ht he h2 fun C D s4 H' ys m hC hn hCf hI q=>?_
 exact⟨m,hn,fun h' hsb=>⟨.ref D,H',hI h' hsb,rfl,q⟩⟩
theorem Jfr{i:Nat}{x:Str}{pos' spos:Pos}(hN:X.N.Nodup)(hx1:X.N[i]?=some x)(hx2:Loc X.env.scope x)(hc:X.calm=true)(hi:PI X tg iter wi)(B:Blk X sc cl N' imp)
 (hg:∀C s H fp,PG (blk X sc cl N' C s H fp) tg g) (ht:∀C s H fp,Jin (blk X sc cl N' C s H fp) ifs tt) (he:∀C s H fp,PE (blk X sc cl N' C s H fp) elt te)
 (hsw:swapsWith (.ListComp elt [⟨tg,iter,ifs,0⟩] sc pos) (some (.Name x pos')) spos.line X.env=pure true) (hf:X.fn x=true\/X.env.scope.names.lookup x=some .local)
 (hs:∀x,foldedSetIterable iter X.env x=pure x:=by intro _;rfl):PS X (.Assign [.Name x pos'] (.ListComp elt [⟨tg,iter,ifs,0⟩] sc pos) spos) (Jif (Jg8 wi g tt te imp) (Wn i)):=by
 intro pins s σ H D I h;rw[exec_Assign_Name_used _ _ _ _ hsw];refine Qa (wpAny_standAt (Qa ?_));show wpAny _ X.A (do let _ <- comprehension (.ListComp elt [⟨tg,iter,ifs,0⟩] sc pos) sc X.env _ (newList []) false (eval iter X.env) (some (assign (.Name x pos') X.env))) _ _ s;refine Qa (LA (wpAny_comprehension_free (use:=some (assign (.Name x pos') X.env)) (Q:=fun _ s'=>SP X pins D .next s') rfl hs B.clos B.kind B.names
  (thn (hi pins s σ H _ I h) fun v s1 h1=>thn h1 fun itv s2 h2=>?_)) (fun _ s' hq=>Qf (Qf hq)) fun _ _ e=>e)
 refine Jbl (Q:=fun y H1=>Wn i y σ H1 D.nx) (RR:=fun acc C=>compPost (model X.prog X.w) X.A X.xe (some (assign (.Name x pos') X.env)) (fun _ s'=>SP X pins D .next s') acc C) hc B hg ht he h2 fun C Dl s4 H' ys m hC hn hCf hI q=>?_
 obtain⟨it,fp,tn,J,H2,e,I2,_⟩:=h2;have I4:Inv X pins σ H' s4:=hI s4.heap (.refl ..);have neC:X.env.locals≠C:=Qy (GL I2.lt hC)
 have neCc:∀y c,X.env.cells.lookup y=some c->c≠C:=fun y c e=>by obtain⟨v,qc⟩:=I2.cell y c e;exact Qy (GL qc.lt hC)
 show wpAny _ X.A (assign (.Name x pos') X.env (.ref Dl)) _ _ s4;refine wpAny_assign_Name (JbJ I4 hN hx1 hx2 (v:=.ref Dl) rfl (fun s5 I5 ⟨c0,hs5,hc0⟩=>?_) hf)
 have ne0:C≠c0:=by
  rcases hc0 with z|z
  ·rw[z];exact QN neC
  ·exact QN (neCc _ _ z)
 refine⟨m,hn.sameBut hs5 ne0,fun h' hsb=>⟨_,H',?_,q⟩⟩;refine I5.turned (t':=s5.toks) (it:=C) (fun b o hb e=>hsb.extBut b o hb e) hCf (QN neC) (.inr (GS (G1 I2.sz hC))) neCc fun p hp z=>?_
 have:=Qj (I2.pin p hp).1;rw[z] at this;exact absurd (GL this hC) (Q6 _)
end
end L2

namespace L2
open PySem PySem.Spec PyProof.Rows

inductive Rep (K:Frag) (H:Hp):V->PyData->Prop
 | non:Rep K H .non .none
 | bl (b:Bool):Rep K H (.bl b) (.bool b)
 | int (i:Int):Rep K H (.int i) (.int i)
 | str (x:Str):Rep K H (.str x) (.str x)
 | tup {a:Addr} {xs:List V} {ds:List PyData}:SqT K H a xs->xs.length=ds.length->(∀(i:Nat) (x:V) (d:PyData),xs[i]?=some x->ds[i]?=some d->Rep K H x d)->Rep K H (.ref a) (.tuple ds)
 | lst {a:Addr} {xs:List V} {ds:List PyData}:SqL K H a xs->xs.length=ds.length->(∀(i:Nat) (x:V) (d:PyData),xs[i]?=some x->ds[i]?=some d->Rep K H x d)->Rep K H (.ref a) (.list ds)

noncomputable def RepL(K:Frag)(H:Hp)(xs:List V)(ds:List PyData):Prop :=
 xs.length=ds.length/\∀(i:Nat) (x:V) (d:PyData),xs[i]?=some x->ds[i]?=some d->Rep K H x d

section
variable{K:Frag}{H H':Hp}
theorem RepL.nil:RepL K H [] []:=⟨rfl,fun i x d e=>by simp at e⟩
theorem RepL.cons{x:V}{d:PyData}{xs:List V}{ds:List PyData}(h:Rep K H x d)(r:RepL K H xs ds):RepL K H (x::xs) (d::ds):=by
 refine⟨by simp[r.1],fun i y e h1 h2=>?_⟩
 cases i with
 | zero=>simp at h1 h2;subst h1 h2;exact h
 | succ i=>exact r.2 i y e (by simpa using h1) (by simpa using h2)
theorem RepL.append{xs ys:List V}{ds es:List PyData}(r:RepL K H xs ds)(q:RepL K H ys es):RepL K H (xs++ys) (ds++es):=by
 refine⟨by simp[r.1,q.1],fun i x d h1 h2=>?_⟩
 by_cases hi:i<xs.length
 ·rw[QG hi] at h1;rw[QG (by rw[<- r.1];exact hi)] at h2;exact r.2 i x d h1 h2
 ·rw[QI (by omega)] at h1;rw[QI (by rw[<- r.1];omega)] at h2;rw[<- r.1] at h2;exact q.2 _ x d h1 h2
theorem RepL.snoc{xs:List V}{ds:List PyData}{x:V}{d:PyData}(r:RepL K H xs ds)(h:Rep K H x d):RepL K H (xs++[x]) (ds++[d]):=r.append (.cons h .nil)
theorem RepL.get'{xs:List V}{ds:List PyData}{i:Nat}{x:V}(r:RepL K H xs ds)(e:xs[i]?=some x):∃d,ds[i]?=some d/\Rep K H x d:=by
 have hi:=(Qk.mp e).1
 have hx:i<ds.length:=by rw[<- r.1];exact hi
 exact⟨ds[i],by simp[hx],r.2 i x _ e (by simp[hx])⟩
theorem Rep.tupL{a:Addr}{xs:List V}{ds:List PyData}(h:SqT K H a xs)(r:RepL K H xs ds):Rep K H (.ref a) (.tuple ds):=.tup h r.1 r.2
theorem Rep.lstL{a:Addr}{xs:List V}{ds:List PyData}(h:SqL K H a xs)(r:RepL K H xs ds):Rep K H (.ref a) (.list ds):=.lst h r.1 r.2
theorem Rep.tupI{v:V}{ds:List PyData}(r:Rep K H v (.tuple ds)):∃a xs,v=.ref a/\SqT K H a xs/\RepL K H xs ds:=by
 cases r with
 | tup h l q=>exact⟨_,_,rfl,h,l,q⟩
theorem Rep.intI{v:V}{i:Int}(r:Rep K H v (.int i)):v=.int i:=by cases r;rfl
theorem Same.seqT{a:Addr}{xs:List V}(e:Same H H')(h:SqT K H a xs):SqT K H' a xs:=by
 rcases h with (h|⟨o,h⟩)|h
 ·exact .inl (.inl (e _ _ h))
 ·exact .inl (.inr ⟨o,e _ _ h⟩)
 ·exact .inr h
theorem Rep.mono{v:V}{d:PyData}(e:Same H H')(r:Rep K H v d):Rep K H' v d:=by
 induction r with
 | non=>exact .non
 | bl b=>exact .bl b
 | int i=>exact .int i
 | str x=>exact .str x
 | tup h l _ ih=>exact .tup (e.seqT h) l ih
 | lst h l _ ih=>exact .lst (e.seq h) l ih
theorem RepL.mono{xs:List V}{ds:List PyData}(e:Same H H')(r:RepL K H xs ds):RepL K H' xs ds:=⟨r.1,fun i x d h1 h2=>(r.2 i x d h1 h2).mono e⟩

noncomputable def SameEx(l:Addr)(H H':Hp):Prop:=∀b o,b≠l->H b=some o->H' b=some o
theorem SameEx.upd{l:Addr}{o:HO}:SameEx l H (upd H l o):=fun b o' hb e=>by rw[Jm hb];exact e
theorem Same.ex{H0:Hp}{l:Addr}(s:Same H0 H)(hn:H0 l=none)(e:SameEx l H H'):Same H0 H':=fun b o h=>e b o (Jw h hn) (s b o h)
theorem Same.new{p:Addr}{o:HO}(hn:H p=none):Same H (upd H p o):=fun b o' e=>by rw[Jm (Jw e hn)];exact e
theorem SameEx.sqT{l a:Addr}{ys xs:List V}(e:SameEx l H H')(hl:H l=some (.lst ys))(h:SqT K H a xs):SqT K H' a xs:=by
 rcases h with (h|⟨o,h⟩)|h
 ·exact .inl (.inl (e _ _ (Jbz h hl (by intro z;cases z)) h))
 ·exact .inl (.inr ⟨o,e _ _ (Jbz h hl (by intro z;cases z)) h⟩)
 ·exact .inr h
theorem Same.ex_trans{l:Addr}{H2:Hp}(s:Same H H')(e:SameEx l H' H2):SameEx l H H2:=fun b o hb h=>e b o hb (s b o h)
end

theorem Vals.get':∀{xs:List V} {us:List Value} {i:Nat} {u:Value},Vals xs us->us[i]?=some u->∃x,xs[i]?=some x/\RelV x u
 | _,_,_,_,.nil,e=>by simp at e
 | _,_,0,_,.cons r _,e=>by simp at e;subst e;exact⟨_,rfl,r⟩
 | _,_,i+1,u,.cons _ t,e=>by obtain⟨x,h1,h2⟩:=Vals.get' (i:=i) (u:=u) t (by simpa using e);exact⟨x,by simpa using h1,h2⟩
theorem VZ{h:Heap}:∀(us:List Value) (ds:List PyData),us.length=ds.length->(∀(i:Nat) (u:Value) (d:PyData),us[i]?=some u->ds[i]?=some d->∃as,Reads h u d as)->∃as,ReadsAll h us ds as
 | [],[],_,_=>⟨_,.nil⟩
 | [],_::_,e,_=>by simp at e
 | _::_,[],e,_=>by simp at e
 | u::us,d::ds,e,f=>by
  obtain⟨as,h1⟩:=f 0 u d rfl rfl;obtain⟨bs,h2⟩:=VZ us ds (by simpa using e) fun i v c q1 q2=>f (i+1) v c (by simpa using q1) (by simpa using q2)
  exact⟨_,.cons h1 h2⟩
section
variable{X:Cx}{pins:List (Addr×Obj)}{σ:St}{H:Hp}{s:Shared}
theorem Rep.reads{v:V}{d:PyData}(I:Inv X pins σ H s)(r:Rep X.K H v d):∀u,RelV v u->∃as,Reads s.heap u d as:=by
 induction r with
 | non=>intro u r;cases r;exact⟨_,.none⟩
 | bl b=>intro u r;cases r;exact⟨_,.bool b⟩
 | int i=>intro u r;obtain⟨t,rfl⟩:=r;exact⟨_,.int i t⟩
 | str x=>intro u r;obtain⟨t,rfl⟩:=r;exact⟨_,.str x t⟩
 | tup h l _ ih =>
  intro u r;cases r;obtain⟨its,rv,p,hz⟩:=I.tuple h;obtain⟨o,ho,hc,n,hd⟩:=p
  obtain⟨as,q⟩:=VZ (h:=s.heap) its _ (rv.length.symm.trans l) fun i u d h1 h2=>by obtain⟨x,e1,e2⟩:=rv.get' h1;exact ih i x d e1 h2 u e2
  exact⟨_,.tuple ho hc hd q⟩
 | lst h l _ ih =>
  intro u r;cases r;obtain⟨its,rv,p,hz⟩:=I.list h;obtain⟨o,ho,hc,n,hd⟩:=p.isList
  obtain⟨as,q⟩:=VZ (h:=s.heap) its _ (rv.length.symm.trans l) fun i u d h1 h2=>by obtain⟨x,e1,e2⟩:=rv.get' h1;exact ih i x d e1 h2 u e2
  exact⟨_,.list ho hc hd q⟩
end

section
variable{X:Cx}
noncomputable def JgN(K:Frag):R2:=fun x y H Q=>rI0 (fun i j=>.int (i+j)) x y H Q\/(∃i j,x=.str i/\y=.str j/\i.length+j.length<=sizeLine/\Q (.str (i++j)) H)\/Jqb x y H Q
theorem JlY:OpR X (binaryOp .Add) (JgN X.K):=op_add.or (op_add_str.or Jot)
noncomputable def Jqc(K:Frag):R2:=fun x y H Q=>∃d e,Rep K H x d/\Rep K H y e/\d.canLay0=true/\e.canLay0=true/\min d.depth e.depth<=60/\Q (.bl (LV d e)) H
noncomputable def Jqi(K:Frag):R2:=fun x y H Q=>∃d e,Rep K H x d/\Rep K H y e/\d.canLay0=true/\e.canLay0=true/\min d.depth e.depth<=60/\Q (.bl (!PyData.eqv d e)) H
theorem Jov(hu:X.A.units+64<cLine):OpR X (compareOp .Eq) (Jqc X.K):=by intro pins s σ H x y v u Q I rx ry h;obtain⟨d,e,h1,h2,c1,c2,hd,q⟩:=h;obtain⟨as,r1⟩:=h1.reads I v rx;obtain⟨bs,r2⟩:=h2.reads I u ry;exact SeqAt.compareEq_reads r1 r2 c1 c2 (by omega) ⟨.bl _,H,I,rfl,q⟩
theorem Joz(hu:X.A.units+64<cLine):OpR X (compareOp .NotEq) (Jqi X.K):=by intro pins s σ H x y v u Q I rx ry h;obtain⟨d,e,h1,h2,c1,c2,hd,q⟩:=h;obtain⟨as,r1⟩:=h1.reads I v rx;obtain⟨bs,r2⟩:=h2.reads I u ry;exact SeqAt.compareNe_reads r1 r2 c1 c2 (by omega) ⟨.bl _,H,I,rfl,q⟩
noncomputable def JoL(K:Frag):R2:=fun x y H Q=>rEq x y H Q\/Jqc K x y H Q
noncomputable def JoO(K:Frag):R2:=fun x y H Q=>rNe x y H Q\/Jqi K x y H Q
theorem Jou(hu:X.A.units+64<cLine):OpR X (compareOp .Eq) (JoL X.K):=op_eq.or (Jov hu)
theorem Joy(hu:X.A.units+64<cLine):OpR X (compareOp .NotEq) (JoO X.K):=op_ne.or (Joz hu)
noncomputable def Jfs(K:Frag):List V->Hp->VK->Prop:=fun xs H Q=>∃x n,xs=[x]/\JpA K x H n/\Q (.int n) H
theorem Jhk:YR X (.builtin "len") (Jfs X.K):=JiF
noncomputable def VY(K:Frag):List V->Hp->VK->Prop:=fun xs H Q=>∃p ys,xs=[.ref p]/\((SqL K H p ys/\∀l,H l=none->Q (.ref l) (upd H l (.tup ys)))\/(SqT K H p ys/\Q (.ref p) H))
theorem Jc7:YR X (.type "tuple") (VY X.K):=JaT
inductive TyS (K:Frag) (H:Hp):V->Value->Prop where
 | of {x:V} {t:Value} (h:TyOf K H x t):TyS K H x t
 | sqT {a:Addr} {xs:List V} (h:SqT K H a xs):TyS K H (.ref a) (.type "tuple")
 | sqL {a:Addr} {xs:List V} (h:SqL K H a xs):TyS K H (.ref a) (.type "list")
theorem Je9{pins:List (Addr×Obj)}{σ:St}{H:Hp}{s:Shared}{A:Around}{E:Value->Shared->Prop}{Q:Value->Shared->Prop}{c:Value}{b:Bool}{x:V}{u t:Value}(I:Inv X pins σ H s)(rx:RelV x u)(ty:TyS X.K H x t)(e:kitOne X.K t c=some b)(h:∀tk,Q (.bool b) { s with toks:=tk }) :
 wpAny (model X.prog X.w) A (call (.builtin "isinstance") [u,c]) Q E s:=by
 cases ty with
 | of z=>exact JhI I rx z e h
 | @sqT a xs z=>cases (show u=Value.ref a from rx);obtain⟨its,_,p,_⟩:=I.tuple z;obtain⟨o,h1,h2,_⟩:=p;exact kia_one RA I.kIn ⟨o,h1,h2⟩ e (fun z=>nomatch z) h
 | @sqL a xs z=>cases (show u=Value.ref a from rx);obtain⟨its,_,p,_⟩:=I.list z;obtain⟨o,h1,h2,_⟩:=p.isList;exact kia_one kitx_list I.kIn ⟨o,h1,h2⟩ e (fun z=>nomatch z) h
noncomputable def Jme(K:Frag):List V->Hp->VK->Prop:=fun vs H Q=>∃x c t tc b,vs=[x,c]/\TyS K H x t/\(∀u,RelV c u->u=tc)/\kitOne K t tc=some b/\Q (.bl b) H
theorem JiE:YR X (.builtin "isinstance") (Jme X.K):=by intro pins s σ H xs us Q I r h;obtain⟨x,c,t,tc,b,rfl,ty,hc,e,q⟩:=h;obtain⟨u,w',rfl,r1,r2⟩:=JkG r;cases hc w' r2;exact Je9 I r1 ty e fun tk=>⟨.bl b,H,I.tok tk,rfl,q⟩
noncomputable def Jqd:R2:=fun x y H Q=>y=.non/\Q (.bl (decide (x=.non))) H
noncomputable def Jj2:R2:=fun x y H Q=>y=.non/\Q (.bl (!decide (x=.non))) H
theorem JgD:OpR X (compareOp .Is) Jqd:=Jow
theorem Jay:OpR X (compareOp .IsNot) Jj2:=Jl1
noncomputable def JoM:List V->Hp->VK->Prop:=fun xs H Q=>∃i j,xs=[.int i,.int j]/\Q (.int (if j>i then j else i)) H
noncomputable def JoN:List V->Hp->VK->Prop:=fun xs H Q=>∃i j,xs=[.int i,.int j]/\Q (.int (if j<i then j else i)) H
theorem Jhn(hc:X.calm=true):YR X (.builtin "max") JoM:=Jhl hc
theorem Zb(hc:X.calm=true):YR X (.builtin "min") JoN:=Jho hc
noncomputable def Jpk(K:Frag)(ta:TE):TT:=fun σ H Q=>ta σ H fun x H1=>∃k,JkV K x H1 k/\Q k H1
theorem JoJ{a:Expr}{ta:TE}(ha:PE X a ta)(he:∀whole,isTrue a X.env whole=(do let v <- whole;standAt a.pos;holding [v] (truthy v))):PT X a (Jpk X.K ta):=JjS ha he
noncomputable def GV(mg:Str->Option Value)(x:Str)(v:V):Prop:=∃u,mg x=some u/\RelV v u
theorem JaA{x:Str}{v:V}{pos:Pos}(hg:Gl X x)(hm:GV X.mg x v)(hd:(x == ("__debug__":Str))=false:=by decide):PE X (.Name x pos) (tC v):=by obtain⟨u,h1,h2⟩:=hm;exact Jl5 hg h1 h2 hd
end
theorem Ws:bootBuiltins "len"=some (.builtin "len"):=by decide +kernel
theorem YG:bootBuiltins "isinstance"=some (.builtin "isinstance"):=by decide +kernel
theorem Jiz:bootBuiltins "max"=some (.builtin "max"):=by decide +kernel
theorem JbS:bootBuiltins "min"=some (.builtin "min"):=by decide +kernel
theorem Za:bootBuiltins "sum"=some (.builtin "sum"):=by decide +kernel
theorem JnA:bootBuiltins "any"=some (.builtin "any"):=by decide +kernel
theorem Jbf:bootBuiltins "sorted"=some (.builtin "sorted"):=by decide +kernel
theorem Jiy:bootBuiltins "int"=some (.type "int"):=by decide +kernel
theorem JfW:bootBuiltins "bool"=some (.type "bool"):=by decide +kernel
theorem ZF:bootBuiltins "list"=some (.type "list"):=by decide +kernel
theorem WJ:bootBuiltins "tuple"=some (.type "tuple"):=by decide +kernel
theorem JiA:bootBuiltins "zip"=some (.type "zip"):=by decide +kernel
theorem JbR:bootBuiltins "enumerate"=some (.type "enumerate"):=by decide +kernel
theorem Jc5:bootBuiltins "reversed"=some (.type "reversed"):=by decide +kernel
structure Cal (P:Program) (w:World) (K:Frag) (mg:Str->Option Value) (base:Heap) (x:Str) (k:Nat) (ps:List Str) (sp:Sp):Prop where
 ex:∃(f:Addr) (fd:FuncData),FnOk P w K mg base CX0 k f fd ps sp/\mg x=some (.ref f)/\keepIn K (.ref f)=true/\Binds K fd ps []
structure CalM (P:Program) (w:World) (K:Frag) (mg:Str->Option Value) (base:Heap) (x:Str) (C:Addr) (k:Nat) (ps:List Str) (sp:Sp):Prop where
 ex:∃(f:Addr) (fd:FuncData),Mk K C f/\FnOk P w K mg base CX0 k f fd ps sp/\mg x=some (.ref C)/\Binds K fd ps []
section
variable{X:Cx}{k:Nat}{C:Addr}{ps:List Str}{sp:Sp}{x:Str}{p pos:Pos}{e:Expr}{es:List Expr}{t:TA}
theorem Jn(c:Cal X.prog X.w X.K X.mg X.base x k ps sp)(hr:Room k X.A)(hg:Gl X x)(ha:PA X (e::es) t)(hdb:(x == ("__debug__":Str))=false:=by decide)
 (he:starEach (e::es) X.env=(false,eval e X.env)::starEach es X.env:=by rfl) (hpl:(backTo pos (starEach es X.env)).any (·.1)=false:=by rfl):PE X (.Call (.Name x p) (e::es) [] pos) (Jg7 sp [] E0 t):=by
 obtain⟨f,fd,F,h1,h2,h3⟩:=c.ex;exact Jl2 F hr hg h1 h2 h3 .nil Jni ha hdb he hpl
theorem Vq(c:CalM X.prog X.w X.K X.mg X.base x C k ps sp)(hr:Room (k+1) X.A)(hg:Gl X x)(ha:PA X (e::es) t)(hdb:(x == ("__debug__":Str))=false:=by decide)
 (he:starEach (e::es) X.env=(false,eval e X.env)::starEach es X.env:=by rfl) (hpl:(backTo pos (starEach es X.env)).any (·.1)=false:=by rfl):PE X (.Call (.Name x p) (e::es) [] pos) (Jg9 C sp [] E0 t):=by
 obtain⟨f,fd,M,F,h1,h3⟩:=c.ex;exact Jl6 M F hr hg h1 h3 .nil Jni ha hdb he hpl
end

noncomputable def JhC(K:Frag)(tl:TE):TI:=fun σ H R=>Jm8 K tl σ H R\/JpT K tl σ H R
theorem JoF{X:Cx}{tg l:Expr}{tl:TE}(hl:PE X l tl):PI X tg l (JhC X.K tl):=by
 intro pins s σ H R I h;rcases h with h|h
 ·exact Jl7 hl pins s σ H R I h
 ·exact JoG hl pins s σ H R I h

theorem JbQ{X:Cx}{sc:Scope}{N':List Str}{imp:List (Option Nat)}(h1:sc.kind=.function)
 (h2:(sc.names.all (fun y=>y.2 != .free && y.2 != .cell && (y.2 != .local || sc.names.lookup y.1 == some .local)) && imp.all (·.isNone) && (imp.length == N'.length))=true):Blk X sc [] N' imp:=by
 simp only[QM,Ll] at h2;obtain⟨⟨h2,h3⟩,h4⟩:=h2
 have nofree:∀y∈sc.names,y.2≠.free:=fun y hy=>by
  have:=(h2 y hy).1.1
  simpa using this
 have nocell:∀y∈sc.names,y.2≠.cell:=fun y hy=>by
  have:=(h2 y hy).1.2
  simpa using this
 refine⟨closureFor_none nofree,h1,nocell,fun y hy hl=>?_,(fun p hp=>nomatch hp),fun y hy hk=>?_,by simpa using h4,fun p hp k e=>?_⟩
 ·have:=(h2 y hy).2;rw[hl] at this
  simpa using this
 ·have:(relabel sc X.env).names=sc.names:=by
   unfold relabel;refine map_eq_self fun x hx=>?_
   obtain⟨n,q⟩:=x;have:(q == NameKind.free)=false:=by simpa using nofree _ hx
   simp[this]
  rw[this] at hy;rcases hk with z|z
  ·exact absurd z (nocell y hy)
  ·exact absurd z (nofree y hy)
 ·have:=h3 p.1 (K6 hp).1;rw[e] at this;cases this

section
variable{K:Frag}{σ:St}{H H1:Hp}{Q:VK}{i:Nat}{v:V}{ta tb te:TE}{r:R2}{D:Ends}{t u:TS}{c:TT}
theorem Jo3(h:σ[i]?=some (some v))(q:Q v H):Zp i σ H Q:=⟨v,h,q⟩
theorem JqO(q:Q v H):tC v σ H Q:=q
theorem Jqq(q:ta σ H fun x H1=>tb σ H1 fun y H2=>r x y H2 Q):tOp r ta tb σ H Q:=q
theorem Jqp{g:Int->Int->V}{a b:Int}(q:Q (g a b) H):rI0 g (.int a) (.int b) H Q:=⟨a,b,rfl,rfl,q⟩
theorem Jmf{a b:Int}(q:Q (.int (a+b)) H):JgN K (.int a) (.int b) H Q:=.inl ⟨a,b,rfl,rfl,q⟩
theorem Jmn{x:V}(q:Q (.bl (!decide (x=.non))) H):Jj2 x .non H Q:=⟨rfl,q⟩
theorem Jj6{a b:Int}(q:Q (.int (max a b)) H):JoM [.int a,.int b] H Q:=⟨a,b,rfl,by
 have e:(if b>a then b else a)=max a b:=by rw[Int.max_def];split <;> split <;> omega
 rw[e];exact q⟩
theorem Jj7{a b:Int}(q:Q (.int (min a b)) H):JoN [.int a,.int b] H Q:=⟨a,b,rfl,by
 have e:(if b<a then b else a)=min a b:=by rw[Int.min_def];split <;> split <;> omega
 rw[e];exact q⟩
theorem Jmp{Qb:Bool->Hp->Prop}(q:te σ H fun x H'=>∃k,x=.bl k/\Qb k H'):Jks te σ H Qb:=q
theorem JoS{c':TT}{Qb:Bool->Hp->Prop}(q:c σ H fun b H1=>if b=true then c' σ H1 Qb else Qb false H1):Jpf c c' σ H Qb:=q
theorem Jo1(q:t { D with nx:=u D } σ H):Jpj t u D σ H:=q
theorem JoT{g:TG}(q:te σ H fun x H1=>g x σ H1 D.nx):Jif te g D σ H:=q
theorem Jj5{Qs:St->Hp->Prop}(q:Qs (σ.set i (some v)) H):Wn i v σ H Qs:=q
theorem JoU(q:c σ H fun b H1=>if b=true then t D σ H1 else u D σ H1):Jph c t u D σ H:=q
theorem Jmh(q:te σ H fun _ H1=>D.nx σ H1):ZB te D σ H:=q
theorem Jmm(q:D.nx σ H):Jkq D σ H:=q
theorem Jmg{tr:TA}{Ql:List V->Hp->Prop}(q:ta σ H fun x H1=>tr σ H1 fun xs H2=>Ql (x::xs) H2):U9 ta tr σ H Ql:=q
theorem JoZ{Ql:List V->Hp->Prop}(q:Ql [] H):Wl σ H Ql:=q
theorem Jqo{r:List V->Hp->VK->Prop}{ts:TA}(q:ts σ H fun vs H1=>r vs H1 Q):tCB r ts σ H Q:=q
theorem JgQ{sp:Sp}{E:XK}{ts:TA}(q:ts σ H fun vs H1=>sp vs H1 Q E):Jg7 sp [] E ts σ H Q:=by
 have e:(fun vs H1=>sp (vs++[]) H1 Q E)=fun vs H1=>sp vs H1 Q E:=by funext vs H1;rw[Kz]
 show ts σ H fun vs H1=>sp (vs++[]) H1 Q E
 rw[e];exact q
noncomputable def Jil(xs:List V)(H:Hp)(Q:VK):Prop:=xs.length<=sizeLine/\∀p,H p=none->Q (.ref p) (upd H p (.tup xs))
theorem Jo2{ts:TA}(q:ts σ H fun xs H1=>Jil xs H1 Q):Jpl ts σ H Q:=q
theorem Jnw{xs:List V}(hl:xs.length<=sizeLine)(q:∀p H',H p=none->Same H H'->H' p=some (.tup xs)->Q (.ref p) H'):Jil xs H Q:=⟨hl,fun p hp=>q p _ hp (.new hp) Jv⟩
theorem Jmj{a:Addr}{xs:List V}(h:SqL K H a xs)(q:Q (.int xs.length) H):Jfs K [.ref a] H Q:=⟨_,_,rfl,.inl ⟨xs,h,rfl⟩,q⟩
theorem Jml{a:Addr}{xs:List V}(h:SqT K H a xs)(q:Q (.int xs.length) H):Jfs K [.ref a] H Q:=⟨_,_,rfl,.inr ⟨xs,h,rfl⟩,q⟩
theorem Jmk{x:Str}(h:x.length<=sizeLine)(q:Q (.int x.length) H):Jfs K [.str x] H Q:=⟨_,_,rfl,⟨h,rfl⟩,q⟩
theorem Jh9{a:Addr}{xs:List V}(h:SqL K H a xs)(q:∀p H',H p=none->Same H H'->H' p=some (.tup xs)->Q (.ref p) H'):VY K [.ref a] H Q:=⟨a,xs,rfl,.inl ⟨h,fun p hp=>q p _ hp (.new hp) Jv⟩⟩
theorem JoW{a:Addr}{xs:List V}{j:Int}{v:V}(h:SqL K H a xs)(e:atI xs j=some v)(q:Q v H):rIx K (.ref a) (.int j) H Q:=.inl ⟨a,xs,j,v,rfl,rfl,h,e,q⟩
theorem JoY{a:Addr}{xs:List V}{j:Int}{v:V}(h:SqT K H a xs)(e:atI xs j=some v)(q:Q v H):rIx K (.ref a) (.int j) H Q:=.inr (.inl ⟨a,xs,j,v,rfl,rfl,h,e,q⟩)
theorem JoX{z:Str}{j:Int}{c:Nat}(hz:z.length<=sizeLine)(e:atI z.cps.toList j=some c)(q:Q (.str ⟨#[c]⟩) H):rIx K (.str z) (.int j) H Q:=.inr (.inr ⟨z,j,c,rfl,rfl,hz,e,q⟩)
theorem JoV{x:V}{n:String}{t:Value}{b:Bool}(ty:TyS K H x t)(e:kitOne K t (.type n)=some b)(q:Q (.bl b) H):Jme K [x,.ty n] H Q:=⟨x,_,t,_,b,rfl,ty,fun _ r=>r,e,q⟩
theorem JgR{a:Addr}{xs:List V}{n:Nat}{ts:TGs}{Qs:St->Hp->Prop}(h:SqT K H a xs)(hl:xs.length=n)(q:ts xs σ H Qs):Jhy K n ts (.ref a) σ H Qs:=⟨a,xs,rfl,h,hl,q⟩
theorem Jj4{t:TG}{u:TGs}{x:V}{xs:List V}{Qs:St->Hp->Prop}(q:t x σ H fun σ' H'=>u xs σ' H' Qs):Jgj t u (x::xs) σ H Qs:=⟨x,xs,rfl,q⟩
theorem Jmi{Qs:St->Hp->Prop}(q:Qs σ H):Jlu [] σ H Qs:=⟨rfl,q⟩
theorem Jmo{f:Str}{tv:TE}(q:tv σ H fun y H1=>ta σ H1 fun x H2=>∃a C dx fs,x=.ref a/\H2 a=some (.ins C dx fs)/\Cls K C/\NoAttr K C f/\fs.length<1000/\D.nx σ (upd H2 a (.ins C dx (putF f y fs)))):Jo6 K ta tv f D σ H:=q
theorem Jo4{Qb:Bool->Hp->Prop}(q:Qb true H):Jpm σ H Qb:=q
theorem ifd{c A B:Prop}[Decidable c](h1:c->A)(h2:¬c->B):if decide c=true then A else B:=by
 by_cases h:c
 ·rw[if_pos (decide_eq_true h)];exact h1 h
 ·rw[if_neg (by simpa using h)];exact h2 h
theorem ifT{b:Bool}{A B:Prop}(e:b=true)(h:A):if b=true then A else B:=by rw[if_pos e];exact h
theorem ifF{b:Bool}{A B:Prop}(e:b=false)(h:B):if b=true then A else B:=by rw[if_neg (by rw[e];exact Qx)];exact h

theorem Jh8{tl:TE}{g:TG}{a:Addr}{xs:List V}(hx:∀R:VK,R (.ref a) H1->tl σ H R)(hq:SqL K H1 a xs\/SqT K H1 a xs)(Pv:Nat->St->Hp->Prop)(h0:Pv 0 σ H1)(hS:∀i σ' H',Pv i σ' H'->Same H1 H')
 (hs:∀i x σ' H',xs[i]?=some x->Pv i σ' H'->g x σ' H' fun σ2 H2=>t { D with nx:=Pv (i+1),ct:=Pv (i+1),bk:=D.nx } σ2 H2) (hd:∀σ' H',Pv xs.length σ' H'->D.nx σ' H'):JmM (JhC K tl) g t D σ H:=by
 rcases hq with hq|hq
 ·exact .inl (hx _ ⟨a,rfl,⟨xs,hq⟩,Ji5 (xs:=xs) Pv h0 (fun i σ' H' _ p=>(hS i σ' H' p).seq hq) hs hd⟩)
 ·exact .inr (hx _ ⟨a,rfl,⟨xs,hq⟩,Jlt (xs:=xs) Pv h0 (fun i σ' H' _ p=>(hS i σ' H' p).seqT hq) hs hd⟩)
theorem Jf6{J:It}{g:TG}{tt:TT}{imp:List (Option Nat)}{n:Nat}(hn:n<=sizeLine)(Pv:Nat->List V->St->Hp->Prop)(h0:Pv 0 [] (Jag imp σ) H1)(hy:∀i ys σ' H',Pv i ys σ' H'->ys.length<=i)
 (hstop:∀ys σ' H',Pv n ys σ' H'->J.stop n H') (hgo:∀i ys σ' H',i<n->Pv i ys σ' H'->J.go i H')
 (hs:∀i ys x σ' H' H2,i<n->J.yld i H' x H2->Pv i ys σ' H'->g x σ' H2 fun σ2 H3=>tt σ2 H3 fun b H4=>if b=true then te σ2 H4 fun y H5=>Pv (i+1) (ys++[y]) σ2 H5 else Pv (i+1) ys σ2 H4)
 (hd:∀ys σ' H',Pv n ys σ' H'->∀p H2,H' p=none->Same H' H2->H2 p=some (.lst ys)->Q (.ref p) H2) :
 ∃W:Nat->Nat->List V->St->Hp->Prop,(∃m,W 0 m [] (Jag imp σ) H1)/\∀i m ys σ' H',W i m ys σ' H' ->
  (J.stop i H'/\ys.length<=sizeLine/\∀D,H' D=none->Q (.ref D) (upd H' D (.lst ys))) ∨
  (J.go i H'/\ys.length<sizeLine/\∃N:List V->St->Hp->Prop,(∀ys' σ2 H2,N ys' σ2 H2->∃m',m'<m/\W (i+1) m' ys' σ2 H2) ∧
   ∀x H2,J.yld i H' x H2->g x σ' H2 fun σ2 H3=>tt σ2 H3 fun b H4=>if b=true then te σ2 H4 fun y H5=>N (ys++[y]) σ2 H5 else N ys σ2 H4):=by
 refine⟨fun i m ys σ' H'=>m=n-i/\i<=n/\Pv i ys σ' H',⟨n,by simp,GJ _,h0⟩,?_⟩;rintro i m ys σ' H' ⟨rfl,hi,p⟩;have hl:=hy i ys σ' H' p
 by_cases hlt:i<n
 ·exact .inr ⟨hgo i ys σ' H' hlt p,by omega,fun ys' σ2 H2=>Pv (i+1) ys' σ2 H2,fun ys' σ2 H2 p'=>⟨n-(i+1),by omega,rfl,hlt,p'⟩,fun x H2 y=>hs i ys x σ' H' H2 hlt y p⟩
 ·have e:i=n:=by omega
  subst e;exact .inl ⟨hstop ys σ' H' p,by omega,fun q hq=>hd ys σ' H' p q _ hq (.new hq) Jv⟩
theorem Jft{tl:TE}{g:TG}{tt:TT}{imp:List (Option Nat)}{a:Addr}{xs:List V}(hx:∀R:VK,R (.ref a) H1->tl σ H R)(hq:SqL K H1 a xs\/SqT K H1 a xs)(hn:xs.length<=sizeLine)(Pv:Nat->List V->St->Hp->Prop)
 (h0:Pv 0 [] (Jag imp σ) H1) (hy:∀i ys σ' H',Pv i ys σ' H'->ys.length<=i) (hS:∀i ys σ' H',Pv i ys σ' H'->Same H1 H')
 (hs:∀i ys x σ' H',xs[i]?=some x->Pv i ys σ' H'->g x σ' H' fun σ2 H3=>tt σ2 H3 fun b H4=>if b=true then te σ2 H4 fun y H5=>Pv (i+1) (ys++[y]) σ2 H5 else Pv (i+1) ys σ2 H4)
 (hd:∀ys σ' H',Pv xs.length ys σ' H'->∀p H2,H' p=none->Same H' H2->H2 p=some (.lst ys)->Q (.ref p) H2):Jg8 (JhC K tl) g tt te imp σ H Q:=by
 rcases hq with hq|hq
 ·refine .inl (hx _ ⟨a,rfl,⟨xs,hq⟩,Jf6 (n:=xs.length) hn Pv h0 hy (fun ys σ' H' p=>⟨xs,(hS _ _ _ _ p).seq hq,Qn _⟩) (fun i ys σ' H' hi p=>⟨xs,xs[i],(hS _ _ _ _ p).seq hq,by simp[hi]⟩) (fun i ys x σ' H' H2 hi y p=>?_) hd⟩);obtain⟨e,y⟩:=y;subst e;exact hs i ys x σ' _ (y xs ((hS _ _ _ _ p).seq hq)) p
 ·refine .inr (hx _ ⟨a,rfl,⟨xs,hq⟩,Jf6 (n:=xs.length) hn Pv h0 hy (fun ys σ' H' p=>⟨xs,(hS _ _ _ _ p).seqT hq,Qn _⟩) (fun i ys σ' H' hi p=>⟨xs,xs[i],(hS _ _ _ _ p).seqT hq,by simp[hi]⟩) (fun i ys x σ' H' H2 hi y p=>?_) hd⟩);obtain⟨e,y⟩:=y;subst e;exact hs i ys x σ' _ (y xs ((hS _ _ _ _ p).seqT hq)) p
end
end L2
namespace L2
open PySem PySem.Spec PyProof.Rows
section
variable{X:Cx}{K:Frag}{pos:Pos}
theorem JgC(hK:X.K=K):OpR X (binaryOp .Add) (JgN K):=hK▸JlY
theorem JjE(hK:X.K=K)(hu:X.A.units+64<cLine):OpR X (compareOp .Eq) (JoL K):=hK▸Jou hu
theorem Zl(hK:X.K=K)(hu:X.A.units+64<cLine):OpR X (compareOp .NotEq) (JoO K):=hK▸Joy hu
theorem Ut(hK:X.K=K):YR X (.builtin "len") (Jfs K):=hK▸Jhk
theorem VU(hK:X.K=K):YR X (.type "tuple") (VY K):=hK▸Jc7
theorem UP(hK:X.K=K):YR X (.builtin "isinstance") (Jme K):=hK▸JiE
theorem JI(hK:X.K=K):IxR X (rIx K):=hK▸Jn0
theorem YB{e:Expr}{ta:TE}{f:Str}(hK:X.K=K)(he:PE X e ta)(hb:attributeBase e f X.env (eval e X.env)=eval e X.env):PE X (.Attribute e f pos) (Jpg K ta f):=hK▸JoB he hb
theorem Jmc{o value:Expr}{f:Str}{pos':Pos}{ta tv:TE}(hK:X.K=K)(ha:PE X o ta)(hv:PE X value tv)(hs:swapsWith value (some (.Attribute o f pos')) pos.line X.env=pure false):PS X (.Assign [.Attribute o f pos'] value pos) (Jo6 K ta tv f):=hK▸JoI ha hv hs
theorem JS{tg l:Expr}{tl:TE}(hK:X.K=K)(hl:PE X l tl):PI X tg l (JhC K tl):=hK▸JoF hl
theorem JJ{es:List Expr}{k:Nat}{t:TGs}{n:Nat}(hK:X.K=K)(hc:X.calm=true)(h:PGs X es t)(hn:(assignEach es X.env).length=n)(hst:(assignEach es X.env).findIdx? (·.1)=none):PG X (.Tuple es k pos) (Jhy K n t):=hK▸JoE hc h hn hst
theorem YD{a:Expr}{ta:TE}(hK:X.K=K)(ha:PE X a ta)(he:∀whole,isTrue a X.env whole=(do let v <- whole;standAt a.pos;holding [v] (truthy v))):PT X a (Jpk K ta):=hK▸JoJ ha he
theorem U3{o e:Expr}{es:List Expr}{to:TE}{t:TA}{name:Str}{apos cpos:Pos}{T id:String}{r:V->List V->Hp->VK->Prop}(hK:X.K=K)(pa:PlainAttrs T)(slot:Slot T name id)(hty:typeOf (.builtin id)=pure (.type "method_descriptor"))(hm:MtR X id r)(ho:PE X o to)(ha:PA X (e::es) t)
 (hbase:attributeBase o name X.env (eval o X.env)=eval o X.env:=by rfl)
 (hfew:((backTo cpos (starEach (e::es) X.env)).all (fun x=>!x.1) && (backToKw cpos (keywordEach [] X.env)).all (fun x=>x.1.isSome)
  && decide ((e::es).length+([]:List Keyword).length+(if ([]:List Keyword).isEmpty then 0 else 1)<30))=true:=by rfl)
 (hline:(apos.endLine == cpos.line)=true:=by rfl) (hs:starEach (e::es) X.env=(false,eval e X.env)::starEach es X.env:=by rfl) (hplain:(backTo cpos (starEach es X.env)).any (·.1)=false:=by rfl) :
 PE X (.Call (.Attribute o name apos) (e::es) [] cpos) (tBM K T r to t):=hK▸Jp9 pa slot hty hm ho ha hbase hfew hline hs hplain
theorem JgF{o:Expr}{to:TE}{name:Str}{apos cpos:Pos}{T id:String}{r:V->List V->Hp->VK->Prop}(hK:X.K=K)(pa:PlainAttrs T)(slot:Slot T name id)(hty:typeOf (.builtin id)=pure (.type "method_descriptor"))(hm:MtR X id r)(ho:PE X o to)
 (hbase:attributeBase o name X.env (eval o X.env)=eval o X.env:=by rfl) (hline:(apos.endLine == cpos.line)=true:=by rfl):PE X (.Call (.Attribute o name apos) [] [] cpos) (JmL K T r to):=hK▸JoA pa slot hty hm ho hbase hline
end
end L2

namespace LR
open PySem L2

theorem sz2{a b:V}:[a,b].length<=sizeLine:=by show 2<=sizeLine;decide
noncomputable abbrev Pr:=Int×Int
noncomputable def prD(p:Pr):PyData:=.tuple [.int p.1,.int p.2]
section
variable{K:Frag}{H H':Hp}
theorem Jl9{v:V}{p:Pr}(r:Rep K H v (prD p)):∃a,v=.ref a/\SqT K H a [.int p.1,.int p.2]:=by
 obtain⟨a,xs,rfl,h,l,q⟩:=r.tupI
 match xs,l,q,h with
 | [x,y],_,q,h =>
  have e1:=(q 0 x (.int p.1) rfl rfl).intI
  have e2:=(q 1 y (.int p.2) rfl rfl).intI;subst e1 e2;exact⟨a,rfl,h⟩
theorem JjR{a:Addr}{b n:Int}(h:SqT K H a [.int b,.int n]):Rep K H (.ref a) (prD (b,n)):=.tupL h (.cons (.int b) (.cons (.int n) .nil))
theorem Jma{a:Addr}{b n:Int}(h:H a=some (.tup [.int b,.int n])):Rep K H (.ref a) (prD (b,n)):=JjR (.of h)
noncomputable abbrev Prs(K:Frag)(H:Hp)(vs:List V)(ps:List Pr):Prop:=RepL K H vs (ps.map prD)
theorem Prs.len{vs:List V}{ps:List Pr}(r:Prs K H vs ps):vs.length=ps.length:=by have:=r.1;rwa [Qm] at this
theorem Prs.at{vs:List V}{ps:List Pr}{i:Nat}{v:V}(r:Prs K H vs ps)(e:vs[i]?=some v):∃p a,ps[i]?=some p/\v=.ref a/\SqT K H a [.int p.1,.int p.2]:=by
 obtain⟨d,h1,h2⟩:=r.get' e;rw[Qq] at h1
 cases hp:ps[i]? with
 | none=>rw[hp] at h1;cases h1
 | some p=>rw[hp] at h1;cases h1;obtain⟨a,e1,e2⟩:=Jl9 h2;exact⟨p,a,rfl,e1,e2⟩
theorem Prs.snoc{vs:List V}{ps:List Pr}{v:V}{p:Pr}(r:Prs K H vs ps)(h:Rep K H v (prD p)):Prs K H (vs++[v]) (ps++[p]):=by show RepL K H _ _;rw[QL];exact RepL.snoc r h
noncomputable def JkU(K:Frag)(H:Hp)(v:V)(ps:List Pr):Prop:=∃a vs,v=.ref a/\(SqL K H a vs\/SqT K H a vs)/\Prs K H vs ps
end

structure Good (ps:List Pr):Prop where
 one:∀(i:Nat) (p:Pr),ps[i]?=some p->1<=p.2
 gap:∀(i:Nat) (p q:Pr),ps[i]?=some p->ps[i+1]?=some q->p.1+p.2<q.1
theorem Good.nil:Good []:=⟨fun i p e=>by simp at e,fun i p q e=>by simp at e⟩
theorem Good.snoc{ps:List Pr}{p:Pr}(g:Good ps)(h1:1<=p.2)(h2:∀q,ps[ps.length-1]?=some q->q.1+q.2<p.1):Good (ps++[p]):=by
 refine⟨fun i q e=>?_,fun i q r e1 e2=>?_⟩
 ·by_cases hi:i<ps.length
  ·rw[QG hi] at e;exact g.one i q e
  ·rw[QI (by omega)] at e;obtain⟨h3,h4⟩:=Qk.mp e;have:i-ps.length=0:=by simp at h3;omega
   rw[this] at e;simp at e;subst e;exact h1
 ·by_cases hi:i+1<ps.length
  ·rw[QG (by omega)] at e1;rw[QG hi] at e2;exact g.gap i q r e1 e2
  ·rw[QI (by omega)] at e2;obtain⟨h3,h4⟩:=Qk.mp e2;have h5:i+1-ps.length=0:=by simp at h3;omega
   rw[h5] at e2;simp at e2;subst e2;have h6:i=ps.length-1:=by omega
   have h7:i<ps.length:=by omega
   rw[QG h7] at e1;rw[h6] at e1;exact h2 q e1

noncomputable def Jfu(t:Addr):List (Str×V):=[("stretches",.ref t)]
noncomputable def JpE(C:Addr)(K:Frag)(H:Hp)(v:V)(ps:List Pr):Prop :=
 ∃x dx t ts,v=.ref x/\H x=some (.ins C dx (Jfu t))/\H t=some (.tup ts)/\Prs K H ts ps
structure RowC (K:Frag) (C:Addr):Prop where
 cl:Cls K C
 ns:NoAttr K C "stretches"
theorem Jia(t:Addr):(Jfu t).lookup ("stretches":Str)=some (.ref t):=by
 unfold Jfu;rw[List.lookup_cons];have:(("stretches":Str) == ("stretches":Str))=true:=by decide +kernel
 rw[this]
theorem JjT(t:Addr):putF "stretches" (.ref t) []=Jfu t:=rfl

noncomputable def ZR(K:Frag):Sp:=fun vs H Q _=>∃v ps,vs=[v]/\JkU K H v ps/\Good ps/\∀H',Same H H'->Q .non H'
noncomputable def VL(C:Addr)(K:Frag):Sp:=fun vs H Q _=>∃x dx v ps,vs=[.ref x,v]/\H x=some (.ins C dx [])/\JkU K H v ps/\Good ps/\ps.length<=30 ∧
 ∀H' t ts,SameEx x H H'->H' x=some (.ins C dx (Jfu t))->H' t=some (.tup ts)->Prs K H' ts ps->Q .non H'
noncomputable def Jim(C:Addr)(sp:Sp)(E:XK)(vs:List V)(H1:Hp)(Q:VK):Prop:=∀x dx,H1 x=none->H1 dx=none->dx≠x ->
 sp (.ref x::vs) (upd (upd H1 dx (.own x)) x (.ins C dx [])) (fun v H2=>v=.non/\Q (.ref x) H2) E
theorem JgS{C:Addr}{sp:Sp}{E:XK}{ts:TA}{σ:St}{H:Hp}{Q:VK}(q:ts σ H fun vs H1=>Jim C sp E vs H1 Q):Jg9 C sp [] E ts σ H Q:=by
 have e:(fun vs H1=>Jim C sp E vs H1 Q)=fun vs H1=>∀x dx,H1 x=none->H1 dx=none->dx≠x->sp (.ref x::(vs++[])) (upd (upd H1 dx (.own x)) x (.ins C dx [])) (fun v H2=>v=.non/\Q (.ref x) H2) E:=by funext vs H1;rw[Kz];rfl
 show ts σ H _;rw[<- e];exact q
theorem Jo0{C:Addr}{K:Frag}{H:Hp}{Q:VK}{v:V}{ps:List Pr}{E:XK}(h:JkU K H v ps)(g:Good ps)(hl:ps.length<=30)(q:∀x H',H x=none->Same H H'->JpE C K H' (.ref x) ps->Q (.ref x) H'):Jim C (VL C K) E [v] H Q:=by
 intro x dx nx ndx nex
 have s0:Same H (upd (upd H dx (.own x)) x (.ins C dx [])):=fun b o e=>by rw[Jm (Jw e nx),Jm (Jw e ndx)];exact e
 obtain⟨a,vs,rfl,hq,hp⟩:=h;refine⟨x,dx,_,ps,rfl,Jv,⟨a,vs,rfl,hq.imp s0.seq s0.seqT,RepL.mono s0 hp⟩,g,hl,fun H' t ts e h1 h2 h3=>⟨rfl,q x H' nx (fun b o h=>e b o (Jw h nx) (s0 b o h)) ⟨x,dx,t,ts,rfl,h1,h2,h3⟩⟩⟩

noncomputable def cell(ns:List Int)(k:Int):Int:=ns.getD k.toNat 0
end LR

namespace LR
open PySem L2

theorem JiH{ns:List Int}{k:Int}(h:¬k<(ns.length:Int)):cell ns k=0:=by unfold cell;rw[Gz,LU (by omega)];rfl
noncomputable def spr(ns:List Int)(at' span p0:Int):Nat->Int×List Pr
 | 0=>(p0,[])
 | i+1=>((spr ns at' span p0 i).1+(1+cell ns (at'+1+2*i) % span)+1+cell ns (at'+2+2*i) % span,(spr ns at' span p0 i).2++[((spr ns at' span p0 i).1,1+cell ns (at'+1+2*i) % span)])
theorem Wh(ns:List Int)(at' span p0:Int):∀i,(spr ns at' span p0 i).2.length=i
 | 0=>rfl
 | i+1=>by show(_++[_]).length=_;rw[Qu,Wh ns at' span p0 i];rfl
theorem Jer(ns:List Int)(at' span p0:Int)(hs:0<span):∀i,Good (spr ns at' span p0 i).2/\∀q,(spr ns at' span p0 i).2[i-1]?=some q->q.1+q.2<(spr ns at' span p0 i).1
 | 0=>⟨Good.nil,fun q e=>by simp[spr] at e⟩
 | i+1=>by
  obtain⟨g,h⟩:=Jer ns at' span p0 hs i;have m1:=K8 (cell ns (at'+1+2*i)) (b:=span) (by omega);have m2:=K8 (cell ns (at'+2+2*i)) (b:=span) (by omega);refine⟨g.snoc (by show 1<=1+_;omega) (by rw[Wh];exact h),fun q e=>?_⟩;have e':((spr ns at' span p0 i).2++[((spr ns at' span p0 i).1,1+cell ns (at'+1+2*i) % span)])[i]?=some q:=e;rw[QI (by rw[Wh];exact Qn _),Wh] at e'
  simp at e';subst e';show _+(1+_)<_+(1+_)+1+_;omega
noncomputable def Jd5(l:List Int)(k:Int):Int:=l.getD k.toNat 0
theorem JjP{l:List Int}{k:Int}{P:Int->Prop}(h0:0<=k)(h1:k<(l.length:Int))(h:∀x∈l,P x):P (Jd5 l k):=by
 unfold Jd5;have:k.toNat<l.length:=by omega
 rw[Gz,QT this];exact h _ (MO this)
noncomputable def JfS(ps:List Pr):Nat->V
 | 0=>.non
 | i+1=>match ps[i]? with
  | some p=>.int (p.1+p.2)
  | none=>.non
theorem VS{ps:List Pr}{i:Nat}{p:Pr}(e:ps[i]?=some p):JfS ps (i+1)=.int (p.1+p.2):=by show(match ps[i]? with|some p=>V.int (p.1+p.2)|none=>V.non)=_;rw[e]
theorem JiI{K:Frag}{v:V}{ps:List Pr}{H:Hp}{Q:VK}{E:XK}(h:JkU K H v ps)(g:Good ps)(q:∀H',Same H H'->Q .non H'):ZR K [v] H Q E:=⟨v,ps,rfl,h,g,q⟩
theorem Jea{K:Frag}{a:Addr}{xs:List V}{H:Hp}{Q:VK}(h:SqL K H a xs\/SqT K H a xs)(q:Q (.int xs.length) H):Jfs K [.ref a] H Q:=by
 rcases h with h|h
 ·exact Jmj h q
 ·exact Jml h q
theorem SameEx.sqT'{K:Frag}{H H':Hp}{x a C dx:Addr}{fs:List (Str×V)}{xs:List V}(e:SameEx x H H')(hx:H x=some (.ins C dx fs))(h:SqT K H a xs):SqT K H' a xs:=by
 rcases h with (h|⟨o,h⟩)|h
 ·exact .inl (.inl (e _ _ (Jbz h hx (by intro z;cases z)) h))
 ·exact .inl (.inr ⟨o,e _ _ (Jbz h hx (by intro z;cases z)) h⟩)
 ·exact .inr h
theorem Prs.monoIns{K:Frag}{H H':Hp}{x C dx:Addr}{fs:List (Str×V)}{vs:List V}{ps:List Pr}(e:SameEx x H H')(hx:H x=some (.ins C dx fs))(r:Prs K H vs ps):Prs K H' vs ps:=by refine⟨r.1,fun i v d h1 h2=>?_⟩;obtain⟨p,a,e1,e2,e3⟩:=r.at h1;rw[Qq,e1] at h2;cases h2;subst e2;exact JjR (SameEx.sqT' e hx e3)
noncomputable def Jg0(K:Frag):Sp:=fun vs H Q _=>∃(a:Addr) (ns:List Int),vs=[.ref a]/\SqL K H a (ns.map V.int)/\ns.length<=63/\∀H',Q (.bl true) H'
end LR
namespace LR
open PySem L2
end LR

namespace L2
open PySem PySem.Spec PyProof.Rows

section
variable{X:Cx}{pins:List (Addr×Obj)}{σ:St}{H:Hp}{s:Shared}
theorem Jbu{A':Around}{E:Value->Shared->Prop}{Q:Value->Shared->Prop}{a:Addr}{vs:List V}(hh:A'.handled=none)(I:Inv X pins σ H s)(hq:SqL X.K H a vs\/SqT X.K H a vs)
 (h:∀(its:List Value) (J:Addr) (fp wr:List Addr) (Sx:Nat->Heap->Prop) (s2:Shared),Vals vs its->Walks X.prog X.w A' J fp wr its.toArray.size (fun i v=>its.toArray[i]?=some v) Sx->Sx 0 s2.heap->(∀b∈fp,b<s2.heap.objs.size) ->
  (∀h' tk,(∀b o,b∉wr->s2.heap.get? b=some o->h'.get? b=some o)->Inv X pins σ H { s2 with heap:=h',toks:=tk })->Q (.ref J) s2):wpAny (model X.prog X.w) A' (pyIter (.ref a)) Q E s:=by
 have nin:∀b o,s.heap.get? b=some o->b∉[s.heap.objs.size]:=fun b o e z=>by
  have:b=s.heap.objs.size:=by simpa using z
  exact absurd (Qj e) (by rw[this];exact Q6 _)
 rcases hq with hq|hq
 ·obtain⟨its,rv,p,hz⟩:=I.list hq;have hlt:a<s.heap.objs.size:=by obtain⟨_,e,_⟩:=p.isList;exact Qj e
  refine LJ p.isList ?_;refine h its _ _ _ _ _ rv (RC hh _ a (Qy hlt) its.toArray) ⟨⟨_,Qi _ rfl,rfl,rfl⟩,p.isList.push _⟩ (fun b hb=>?_) fun h' tk hk=>I.kept fun b o e=>hk b o (nin b o e) (Qg _ e)
  show b<(s.heap.push _).objs.size;rw[Ge];rcases Qh.mp hb with z|z
  ·rw[z];exact Gy _
  ·have:b=a:=by simpa using z
   rw[this];exact GM hlt
 ·obtain⟨its,rv,p,hz⟩:=I.tuple hq;have ht:s.heap.IsTuple a its.toArray:=p;have hlt:a<s.heap.objs.size:=by obtain⟨_,e,_⟩:=ht;exact Qj e
  refine Mj ht ?_;refine h its _ _ _ _ _ rv (Walks.tuple hh _ a (Qy hlt) its.toArray) ⟨⟨_,Qi _ rfl,rfl,rfl⟩,?_⟩ (fun b hb=>?_) fun h' tk hk=>I.kept fun b o e=>hk b o (nin b o e) (Qg _ e)
  ·obtain⟨o,e,c⟩:=ht;exact⟨o,Qg _ e,c⟩
  ·show b<(s.heap.push _).objs.size;rw[Ge];rcases Qh.mp hb with z|z
   ·rw[z];exact Gy _
   ·have:b=a:=by simpa using z
    rw[this];exact GM hlt
end

theorem Zy(l:List Int):∀j,j<=l.length->preSum (fun i=>l.getD i 0) j=(l.take j).sum
 | 0,_=>by simp[preSum]
 | j+1,h=>by
  rw[preSum,Zy l j (by omega)];have hj:j<l.length:=by omega
  rw[List.take_add_one,Lx];simp[hj]
section
variable{X:Cx}
noncomputable def JoR(K:Frag):List V->Hp->VK->Prop:=fun xs H Q=>∃(a:Addr) (ns:List Int),xs=[.ref a]/\(SqL K H a (ns.map V.int)\/SqT K H a (ns.map V.int))/\Q (.int ns.sum) H
theorem Jhs(hc:X.calm=true):YR X (.builtin "sum") (JoR X.K):=by
 intro pins s σ H xs us Q I r h;obtain⟨a,ns,rfl,hq,q⟩:=h;obtain⟨u,rfl,rx⟩:=V2 r;cases rx;refine call_sum_walkG (Jbu (A':=X.A.in1) (I.ok.hd hc) I hq fun its J fp wr Sx s2 rv W st hfp hI=>?_);have hi:=Y1 rv;have hl:=rv.length;rw[Qm] at hl;refine⟨J,fp,wr,_,_,Sx,fun i=>ns.getD i 0,rfl,W,st,hfp,fun i v e=>?_,fun h' tk t' hk=>?_⟩
 ·have e':its[i]?=some v:=by simpa using e
  obtain⟨x,e1,e2⟩:=rv.get' e';rw[Qq] at e1
  cases hn:ns[i]? with
  | none=>rw[hn] at e1;cases e1
  | some n=>rw[hn] at e1;cases e1;obtain⟨t,rfl⟩:=e2;exact⟨t,by simp[Gz,hn]⟩
 ·refine⟨.int ns.sum,H,hI h' tk hk,⟨t',?_⟩,q⟩;rw[show its.toArray.size=ns.length by simp[hl],Zy ns _ (Qn _),List.take_length]
noncomputable def JoK(K:Frag):List V->Hp->VK->Prop:=fun xs H Q=>∃(a:Addr) (bs:List Bool),xs=[.ref a]/\(SqL K H a (bs.map V.bl)\/SqT K H a (bs.map V.bl))/\Q (.bl (bs.any id)) H
theorem Jh7(bs:List Bool):(Le bs.length).any (fun i=>bs.getD i false)=bs.any id:=by
 rw[Km];simp only[KL,List.mem_range,id];constructor
 ·rintro⟨i,hi,e⟩;simp[Gz,hi] at e;exact⟨bs[i],MO hi,e⟩
 ·rintro⟨b,hb,rfl⟩;obtain⟨i,hi,e⟩:=Gh.mp hb;exact⟨i,hi,by simp[Gz,hi,e]⟩
theorem Jey{A:Around}{bs:List Bool}{its:List Value}(rv:Vals (bs.map V.bl) its):TruthOf X.prog X.w A (fun i v=>its.toArray[i]?=some v) (fun i=>bs.getD i false):=by
 intro i v s Q E e q;have e':its[i]?=some v:=by simpa using e
 obtain⟨x,e1,e2⟩:=rv.get' e';rw[Qq] at e1
 cases hn:bs[i]? with
 | none=>rw[hn] at e1;cases e1
 | some n =>
  rw[hn] at e1;cases e1;cases e2;have:bs.getD i false=n:=by simp[Gz,hn]
  have q':Q (bs.getD i false) s:=q;rw[this] at q';exact KC q'
theorem Jhj(hc:X.calm=true):YR X (.builtin "any") (JoK X.K):=by intro pins s σ H xs us Q I r h;obtain⟨a,bs,rfl,hq,q⟩:=h;obtain⟨u,rfl,rx⟩:=V2 r;cases rx;refine call_any_walk (Jbu (A':=X.A.in1) (I.ok.hd hc) I hq fun its J fp wr Sx s2 rv W st hfp hI=>?_);have hl:=rv.length;rw[Qm] at hl;refine⟨J,fp,wr,_,_,Sx,_,rfl,W,st,Jey rv,fun h' tk hk=>⟨.bl _,H,hI h' tk hk,rfl,?_⟩⟩;rw[show its.toArray.size=bs.length by simp[hl],Jh7];exact q
end
section
variable{X:Cx}{K:Frag}
theorem UQ(hK:X.K=K)(hc:X.calm=true):YR X (.builtin "sum") (JoR K):=hK▸Jhs hc
theorem Jhi(hK:X.K=K)(hc:X.calm=true):YR X (.builtin "any") (JoK K):=hK▸Jhj hc
end
section
variable{K:Frag}{H:Hp}{Q:VK}
end
end L2
namespace L2
open PySem PySem.Spec PyProof.Rows
noncomputable def AllP{α:Type}(P:α->Prop):List α->Prop
 | []=>True
 | x::xs=>P x/\AllP P xs
theorem AllP.mem{α:Type}{P:α->Prop}:∀{l:List α},AllP P l->∀x∈l,P x
 | [],_,x,hx=>nomatch hx
 | y::l,h,x,hx=>by
  rcases Qh.mp hx with z|z
  ·rw[z];exact h.1
  ·exact AllP.mem h.2 x z
theorem Ww{cl:List (Str×Addr)}{x:Str}(h:cl.any (fun p=>p.1 == x)=true):(cl.lookup x).isSome=true:=by
 induction cl with
 | nil=>simp at h
 | cons p cl ih =>
  obtain⟨n,a⟩:=p;rw[List.lookup_cons]
  by_cases e:x == n
  ·rw[e];rfl
  ·have e':(x == n)=false:=by simpa using e
   rw[e'];rw[GG] at h;rcases Bool.or_eq_true_iff.mp h with z|z
   ·have:n=x:=eq_of_beq z;rw[this] at e';simp at e'
   ·exact ih z
theorem Jc3{X:Cx}{sc:Scope}{cl:List (Str×Addr)}{own:List Str}{fr:List (Str×Nat)}(h1:sc.kind=.function)(h2:closureFor sc X.env=pure cl)
 (h3:(sc.names.all fun y=>y.2 != .cell && (y.2 != .local || sc.names.lookup y.1 == some .local))=true) (h4:AllP (fun p=>X.env.cells.lookup p.1=some p.2) cl)
 (h5:((relabel sc X.env).names.all fun y=>(y.2 != .cell && y.2 != .free) || cl.any (fun p=>p.1 == y.1))=true)
 (h6:AllP (fun p=>X.N[p.2]?=some p.1/\X.env.scope.names.lookup p.1=some .cell/\(relabel sc X.env).names.lookup p.1=some .cell) fr) :
 Blk X sc cl (own++fr.map (·.1)) (own.map (fun _=>none)++fr.map (fun p=>some p.2)):=by
 simp only[Ll,QM] at h3;simp only[Ll] at h5;refine⟨h2,h1,fun y hy=>?_,fun y hy hl=>?_,AllP.mem h4,fun y hy hk=>?_,by simp,fun p hp k e=>?_⟩
 ·have:=(h3 y hy).1
  simpa using this
 ·have:=(h3 y hy).2;rw[hl] at this
  simpa using this
 ·have:=h5 y hy;rcases Bool.or_eq_true_iff.mp this with z|z
  ·rcases hk with q|q
   ·rw[q] at z;simp at z
   ·rw[q] at z;simp at z
  ·exact Ww z
 ·rw[Ra (by simp)] at hp;rcases Gk.mp hp with z|z
  ·have:=(K6 z).1;obtain⟨_,_,q⟩:=Qv.mp this;rw[<- q] at e;cases e
  ·rw[List.zip_map_left] at z;obtain⟨q,hq,eq⟩:=Qv.mp z
   have hz:q.1∈fr/\q.1.1=q.2:=by
    clear h6 e eq z hp;rw[List.zip_map_right] at hq;obtain⟨q',hq',eq'⟩:=Qv.mp hq
    have:q'.1=q'.2:=by
     clear eq' hq
     induction fr with
     | nil=>cases hq'
     | cons x fr ih =>
      rcases Qh.mp hq' with z|z
      ·rw[z]
      ·exact ih z
    rw[<- eq'];exact⟨(K6 hq').1,by show q'.1.1=q'.2.1;rw[this]⟩
   obtain⟨a1,a2,a3⟩:=AllP.mem h6 q.1 hz.1;rw[<- eq] at e ⊢;have ek:q.1.2=k:=by simpa using e
   subst ek;rw[hz.2] at a1 a2 a3;exact⟨a1,.inl a2,.inl a3⟩
end L2

namespace LR
open PySem L2

noncomputable def Small(i:Int):Prop:=i.natAbs.log2<1920
theorem Small.of{i:Int}(h:i.natAbs<2 ^ 1920):Small i:=by
 unfold Small
 by_cases h0:i.natAbs=0
 ·rw[h0];decide
 ·exact(Nat.log2_lt h0).mpr h
theorem Small.le{i:Int}(h1:-(10 ^ 100)<=i)(h2:i<=10 ^ 100):Small i:=Small.of (by
 have h3:i.natAbs<=10 ^ 100:=by omega
 exact G1 h3 (by decide +kernel))
end LR

namespace LE
open PySem L2 LR

inductive D where
 | non|bl (b:Bool)|int (i:Int)|str (x:Str)|tup (l:List D)|lst (l:List D)|fz (l:List D)|row (l:List D)|dct (ks:List Int) (l:List D)|dfz (ks:List Int) (l:List D)|exc (n:Str)
noncomputable def dkO(ks:List Int)(xs:List V):HO:=.dK ((ks.map Sum.inl).zip xs)
noncomputable def dtK(p:Int×Int):List Key:=[Sum.inl p.1,Sum.inl p.2]
noncomputable def dtO(ps:List (Int×Int))(xs:List V):HO:=.dT ((ps.map dtK).zip xs)
noncomputable def XO(a:Addr)(c:Value):HO:=.ext fun h=>∃o,h.get? a=some o/\o.cls=c/\PySem.W.notCls o=true/\o.dict=none

section
variable(K:Frag)(C:Addr)
inductive RD (H:Hp):V->D->Prop
 | non:RD H .non .non
 | bl (b:Bool):RD H (.bl b) (.bl b)
 | int (i:Int):RD H (.int i) (.int i)
 | str (x:Str):RD H (.str x) (.str x)
 | tup {a:Addr} {xs:List V} {ds:List D}:SqT K H a xs->xs.length=ds.length->(∀(i:Nat) (x:V) (d:D),xs[i]?=some x->ds[i]?=some d->RD H x d)->RD H (.ref a) (.tup ds)
 | lst {a:Addr} {xs:List V} {ds:List D}:H a=some (.lst xs)->xs.length=ds.length->(∀(i:Nat) (x:V) (d:D),xs[i]?=some x->ds[i]?=some d->RD H x d)->RD H (.ref a) (.lst ds)
 | fz {a:Addr} {xs:List V} {ds:List D}:SqL K H a xs->xs.length=ds.length->(∀(i:Nat) (x:V) (d:D),xs[i]?=some x->ds[i]?=some d->RD H x d)->RD H (.ref a) (.fz ds)
 | row {x dx t:Addr} {ts:List V} {ds:List D}:H x=some (.ins C dx (Jfu t))->SqT K H t ts->ts.length=ds.length->(∀(i:Nat) (x:V) (d:D),ts[i]?=some x->ds[i]?=some d->RD H x d)->RD H (.ref x) (.row ds)
 | dct {a:Addr} {ks:List Int} {xs:List V} {ds:List D}:H a=some (dkO ks xs)->ks.length=ds.length->xs.length=ds.length->(∀(i:Nat) (x:V) (d:D),xs[i]?=some x->ds[i]?=some d->RD H x d)->RD H (.ref a) (.dct ks ds)
 | dfz {a:Addr} {ks:List Int} {xs:List V} {ds:List D} {o:Obj}:H a=some (.frz o (dkO ks xs))->ks.length=ds.length->xs.length=ds.length->(∀(i:Nat) (x:V) (d:D),xs[i]?=some x->ds[i]?=some d->RD H x d)->RD H (.ref a) (.dfz ks ds)
 | exc {a c:Addr} {n:Str}:H a=some (XO a (.ref c))->nsIn K mainGlobals n=some (some (.ref c))->RD H (.ref a) (.exc n)
noncomputable def RDL(H:Hp)(xs:List V)(ds:List D):Prop:=xs.length=ds.length/\∀(i:Nat) (x:V) (d:D),xs[i]?=some x->ds[i]?=some d->RD K C H x d
end

section
variable{K:Frag}{C:Addr}{H H':Hp}
theorem RD.mono{v:V}{d:D}(e:Same H H')(r:RD K C H v d):RD K C H' v d:=by
 induction r with
 | non=>exact .non
 | bl b=>exact .bl b
 | int i=>exact .int i
 | str x=>exact .str x
 | tup h l _ ih=>exact .tup (e.seqT h) l ih
 | lst h l _ ih=>exact .lst (e _ _ h) l ih
 | fz h l _ ih=>exact .fz (e.seq h) l ih
 | row h1 h2 l _ ih=>exact .row (e _ _ h1) (e.seqT h2) l ih
 | dct h1 h2 l _ ih=>exact .dct (e _ _ h1) h2 l ih
 | dfz h1 h2 l _ ih=>exact .dfz (e _ _ h1) h2 l ih
 | exc h1 h2=>exact .exc (e _ _ h1) h2
theorem RDL.mono{xs:List V}{ds:List D}(e:Same H H')(r:RDL K C H xs ds):RDL K C H' xs ds:=⟨r.1,fun i x d h1 h2=>(r.2 i x d h1 h2).mono e⟩
theorem RDL.nil:RDL K C H [] []:=⟨rfl,fun i x d e=>by simp at e⟩
theorem RDL.cons{x:V}{d:D}{xs:List V}{ds:List D}(h:RD K C H x d)(r:RDL K C H xs ds):RDL K C H (x::xs) (d::ds):=by
 refine⟨by simp[r.1],fun i y e h1 h2=>?_⟩
 cases i with
 | zero=>simp at h1 h2;subst h1 h2;exact h
 | succ i=>exact r.2 i y e (by simpa using h1) (by simpa using h2)
theorem RDL.append{xs ys:List V}{ds es:List D}(r:RDL K C H xs ds)(q:RDL K C H ys es):RDL K C H (xs++ys) (ds++es):=by
 refine⟨by simp[r.1,q.1],fun i x d h1 h2=>?_⟩
 by_cases hi:i<xs.length
 ·rw[QG hi] at h1;rw[QG (by rw[<- r.1];exact hi)] at h2;exact r.2 i x d h1 h2
 ·rw[QI (by omega)] at h1;rw[QI (by rw[<- r.1];omega)] at h2;rw[<- r.1] at h2;exact q.2 _ x d h1 h2
theorem RDL.snoc{xs:List V}{ds:List D}{x:V}{d:D}(r:RDL K C H xs ds)(h:RD K C H x d):RDL K C H (xs++[x]) (ds++[d]):=r.append (.cons h .nil)
theorem RDL.get{xs:List V}{ds:List D}{i:Nat}{d:D}(r:RDL K C H xs ds)(e:ds[i]?=some d):∃x,xs[i]?=some x/\RD K C H x d:=by
 have hi:=(Qk.mp e).1
 have hx:i<xs.length:=by rw[r.1];exact hi
 exact⟨xs[i],by simp[hx],r.2 i _ d (by simp[hx]) e⟩
theorem RDL.head{x:V}{xs:List V}{d:D}{ds:List D}(r:RDL K C H (x::xs) (d::ds)):RD K C H x d:=r.2 0 x d rfl rfl
theorem RDL.tail{x:V}{xs:List V}{d:D}{ds:List D}(r:RDL K C H (x::xs) (d::ds)):RDL K C H xs ds:=⟨by have:=r.1;simpa using this,fun i y e h1 h2=>r.2 (i+1) y e (by simpa using h1) (by simpa using h2)⟩
theorem RDL.take{xs:List V}{ds:List D}(n:Nat)(r:RDL K C H xs ds):RDL K C H (xs.take n) (ds.take n):=by
 refine⟨by simp[r.1],fun i x d h1 h2=>?_⟩;rw[List.getElem?_take] at h1 h2;split at h1
 ·rw[if_pos (by assumption)] at h2;exact r.2 i x d h1 h2
 ·cases h1
theorem RDL.drop{xs:List V}{ds:List D}(n:Nat)(r:RDL K C H xs ds):RDL K C H (xs.drop n) (ds.drop n):=by refine⟨by simp[r.1],fun i x d h1 h2=>?_⟩;rw[List.getElem?_drop] at h1 h2;exact r.2 _ x d h1 h2
theorem RDL.ints:∀{xs:List V} {ns:List Int},RDL K C H xs (ns.map D.int)->xs=ns.map V.int
 | [],[],_=>rfl
 | [],_::_,r=>by have:=r.1;simp at this
 | _::_,[],r=>by have:=r.1;simp at this
 | x::xs,n::ns,r=>by have h:=r.head;cases h;rw[RDL.ints r.tail];rfl
theorem RDL.ofInts:∀(ns:List Int),RDL K C H (ns.map V.int) (ns.map D.int)
 | []=>.nil
 | n::ns=>.cons (.int n) (RDL.ofInts ns)
theorem RDL.bls:∀{xs:List V} {ns:List Bool},RDL K C H xs (ns.map D.bl)->xs=ns.map V.bl
 | [],[],_=>rfl
 | [],_::_,r=>by have:=r.1;simp at this
 | _::_,[],r=>by have:=r.1;simp at this
 | x::xs,n::ns,r=>by have h:=r.head;cases h;rw[RDL.bls r.tail];rfl
theorem RDL.strs:∀{xs:List V} {ns:List Str},RDL K C H xs (ns.map D.str)->xs=ns.map V.str
 | [],[],_=>rfl
 | [],_::_,r=>by have:=r.1;simp at this
 | _::_,[],r=>by have:=r.1;simp at this
 | x::xs,n::ns,r=>by have h:=r.head;cases h;rw[RDL.strs r.tail];rfl
theorem RD.mkT{a:Addr}{xs:List V}{ds:List D}(h:SqT K H a xs)(r:RDL K C H xs ds):RD K C H (.ref a) (.tup ds):=.tup h r.1 r.2
theorem RD.mkL{a:Addr}{xs:List V}{ds:List D}(h:H a=some (.lst xs))(r:RDL K C H xs ds):RD K C H (.ref a) (.lst ds):=.lst h r.1 r.2
theorem RD.mkF{a:Addr}{xs:List V}{ds:List D}(h:SqL K H a xs)(r:RDL K C H xs ds):RD K C H (.ref a) (.fz ds):=.fz h r.1 r.2
theorem RD.tupI{v:V}{ds:List D}(r:RD K C H v (.tup ds)):∃a xs,v=.ref a/\SqT K H a xs/\RDL K C H xs ds:=by
 cases r with
 | tup h l q=>exact⟨_,_,rfl,h,l,q⟩
theorem RD.lstI{v:V}{ds:List D}(r:RD K C H v (.lst ds)):∃a xs,v=.ref a/\H a=some (.lst xs)/\RDL K C H xs ds:=by
 cases r with
 | lst h l q=>exact⟨_,_,rfl,h,l,q⟩
theorem RD.fzI{v:V}{ds:List D}(r:RD K C H v (.fz ds)):∃a xs,v=.ref a/\SqL K H a xs/\RDL K C H xs ds:=by
 cases r with
 | fz h l q=>exact⟨_,_,rfl,h,l,q⟩
theorem RD.rowI{v:V}{ds:List D}(r:RD K C H v (.row ds)):∃x dx t ts,v=.ref x/\H x=some (.ins C dx (Jfu t))/\SqT K H t ts/\RDL K C H ts ds:=by
 cases r with
 | row h1 h2 l q=>exact⟨_,_,_,_,rfl,h1,h2,l,q⟩
theorem RD.mkD{a:Addr}{ks:List Int}{xs:List V}{ds:List D}(h:H a=some (dkO ks xs))(hk:ks.length=ds.length)(r:RDL K C H xs ds):RD K C H (.ref a) (.dct ks ds):=.dct h hk r.1 r.2
theorem RD.dctI{v:V}{ks:List Int}{ds:List D}(r:RD K C H v (.dct ks ds)):∃a xs,v=.ref a/\H a=some (dkO ks xs)/\ks.length=ds.length/\RDL K C H xs ds:=by
 cases r with
 | dct h hk l q=>exact⟨_,_,rfl,h,hk,l,q⟩
theorem RD.mkZ{a:Addr}{ks:List Int}{xs:List V}{ds:List D}{o:Obj}(h:H a=some (.frz o (dkO ks xs)))(hk:ks.length=ds.length)(r:RDL K C H xs ds):RD K C H (.ref a) (.dfz ks ds):=.dfz h hk r.1 r.2
theorem RD.dfzI{v:V}{ks:List Int}{ds:List D}(r:RD K C H v (.dfz ks ds)):∃a xs o,v=.ref a/\H a=some (.frz o (dkO ks xs))/\ks.length=ds.length/\RDL K C H xs ds:=by
 cases r with
 | dfz h hk l q=>exact⟨_,_,_,rfl,h,hk,l,q⟩
theorem RD.intI{v:V}{i:Int}(r:RD K C H v (.int i)):v=.int i:=by cases r;rfl
theorem RD.strI{v:V}{i:Str}(r:RD K C H v (.str i)):v=.str i:=by cases r;rfl
theorem RD.blI{v:V}{i:Bool}(r:RD K C H v (.bl i)):v=.bl i:=by cases r;rfl
theorem RD.nonI{v:V}(r:RD K C H v .non):v=.non:=by cases r;rfl
end

mutual
noncomputable def D.py:D->PyData
 | .non=>.none
 | .bl b=>.bool b
 | .int i=>.int i
 | .str x=>.str x
 | .tup l=>.tuple (D.pyL l)
 | .lst l=>.list (D.pyL l)
 | .fz l=>.list (D.pyL l)
 | .row _=>.dict []
 | .dct _ _=>.dict []
 | .dfz _ _=>.dict []
 | .exc _=>.dict []
noncomputable def D.pyL:List D->List PyData
 | []=>[]
 | d::ds=>d.py::D.pyL ds
end
theorem JgM:∀ds:List D,D.pyL ds=ds.map D.py
 | []=>rfl
 | d::ds=>by rw[D.pyL,JgM ds];rfl
theorem Jal:∀{ds:List PyData},Ld ds=true->∀d∈ds,d.canLay0=true
 | [],_,d,hd=>nomatch hd
 | x::ds,h,d,hd=>by
  have h':(PyData.canLay0 x && Ld ds)=true:=h;rw[QM] at h';rcases Qh.mp hd with z|z
  ·rw[z];exact h'.1
  ·exact Jal h'.2 d z
theorem RD.rep{K:Frag}{C:Addr}{H:Hp}{v:V}{d:D}(r:RD K C H v d):d.py.canLay0=true->Rep K H v d.py:=by
 have all:∀{xs:List V} {ds:List D},xs.length=ds.length->(∀(i:Nat) (x:V) (d:D),xs[i]?=some x->ds[i]?=some d->d.py.canLay0=true->Rep K H x d.py)->Ld (D.pyL ds)=true->RepL K H xs (D.pyL ds):=by
  intro xs ds l ih hc;rw[JgM] at hc ⊢;refine⟨by simpa using l,fun i x d h1 h2=>?_⟩;rw[Qq] at h2
  cases e:ds[i]? with
  | none=>rw[e] at h2;cases h2
  | some q=>rw[e] at h2;cases h2;exact ih i x q h1 e (Jal hc _ (Qv.mpr ⟨q,QC e,rfl⟩))
 induction r with
 | non=>intro _;exact .non
 | bl b=>intro _;exact .bl b
 | int i=>intro _;exact .int i
 | str x=>intro _;exact .str x
 | tup h l _ ih=>intro hc;exact .tupL h (all l ih hc)
 | lst h l _ ih=>intro hc;exact .lstL (.of h) (all l ih hc)
 | fz h l _ ih=>intro hc;exact .lstL h (all l ih hc)
 | row h1 h2 l _ ih=>intro hc;cases hc
 | dct h1 h2 l _ ih=>intro hc;cases hc
 | dfz h1 h2 l _ ih=>intro hc;cases hc
 | exc h1 h2=>intro hc;cases hc

inductive Sl where
 | no|sh (d:D)|bo (ds:List D)|own (ds:List D)|bd (ks:List Int) (ds:List D)|od (ks:List Int) (ds:List D)|bt (ps:List (Int×Int)) (ds:List D)|ot (ps:List (Int×Int)) (ds:List D)
noncomputable def YU:Sl->Bool
 | .own _=>true
 | .od _ _=>true
 | .ot _ _=>true
 | _=>false
noncomputable def JnY:Sl->Bool
 | .bo _=>true
 | .bd _ _=>true
 | .bt _ _=>true
 | _=>false

section
variable(K:Frag)(C:Addr)
noncomputable def RR(Hs H0 H:Hp)(v:V):Sl->Prop
 | .no=>False
 | .sh d=>RD K C H0 v d
 | .bo ds=>∃l xs,v=.ref l/\H l=some (.lst xs)/\RDL K C H0 xs ds
 | .own ds=>∃l xs,v=.ref l/\H l=some (.lst xs)/\H0 l=none/\Hs l=none/\RDL K C H0 xs ds
 | .bd ks ds=>∃l xs,v=.ref l/\H l=some (dkO ks xs)/\ks.length=ds.length/\RDL K C H0 xs ds
 | .bt ks ds=>∃l xs,v=.ref l/\H l=some (dtO ks xs)/\ks.length=ds.length/\RDL K C H0 xs ds
 | .od ks ds=>∃l xs,v=.ref l/\H l=some (dkO ks xs)/\H0 l=none/\Hs l=none/\ks.length=ds.length/\RDL K C H0 xs ds
 | .ot ks ds=>∃l xs,v=.ref l/\H l=some (dtO ks xs)/\H0 l=none/\Hs l=none/\ks.length=ds.length/\RDL K C H0 xs ds
noncomputable def RSl(B H0 H:Hp)(v:V):Sl->Prop
 | .no=>True
 | .sh d=>RD K C H0 v d
 | .bo ds=>∃l xs,v=.ref l/\B l=some (.lst xs)/\RDL K C H0 xs ds
 | .own ds=>∃l xs,v=.ref l/\H l=some (.lst xs)/\H0 l=none/\B l=none/\RDL K C H0 xs ds
 | .bd ks ds=>∃l xs,v=.ref l/\B l=some (dkO ks xs)/\ks.length=ds.length/\RDL K C H0 xs ds
 | .bt ks ds=>∃l xs,v=.ref l/\B l=some (dtO ks xs)/\ks.length=ds.length/\RDL K C H0 xs ds
 | .od ks ds=>∃l xs,v=.ref l/\H l=some (dkO ks xs)/\H0 l=none/\B l=none/\ks.length=ds.length/\RDL K C H0 xs ds
 | .ot ks ds=>∃l xs,v=.ref l/\H l=some (dtO ks xs)/\H0 l=none/\B l=none/\ks.length=ds.length/\RDL K C H0 xs ds
structure EnvR (B H0 H:Hp) (σ:St) (E:List Sl):Prop where
 b:Same B H
 h:Same H0 H
 len:σ.length=E.length
 at':∀(i:Nat) (s:Sl),E[i]?=some s->s=.no\/∃v,σ[i]?=some (some v)/\RSl K C B H0 H v s
 sep:∀(i j:Nat) (s t:Sl) (v:V),i≠j->E[i]?=some s->E[j]?=some t->YU s=true->YU t=true->σ[i]?=some (some v)->σ[j]?≠some (some v)
end
noncomputable def isT:HO->Bool
 | .tup _=>true
 | .frz _ (.tup _)=>true
 | _=>false
structure Step (Hs H0 H H0' H':Hp):Prop where
 h:Same H H'
 z:Same H0 H0'
 n:∀a o,H0' a=some o->H0 a=some o\/Hs a=none\/isT o=true
 i:Same H0' H'
structure SStep (B H0 H0' H':Hp):Prop where
 b:Same B H'
 z:Same H0 H0'
 n:∀a o,H0' a=some o->H0 a=some o\/B a=none\/isT o=true
 i:Same H0' H'

section
variable{K:Frag}{C:Addr}{B Hs H0 H H0' H' H0'' H'':Hp}{σ:St}{E:List Sl}{v:V}{s:Sl}
theorem Step.refl(i:Same H0 H):Step Hs H0 H H0 H:=⟨Same.refl _,Same.refl _,fun _ _ e=>.inl e,i⟩
theorem Step.comp{Hs':Hp}(s1:Step Hs H0 H H0' H')(s2:Step Hs' H0' H' H0'' H'')(w:∀a,Hs' a=none->Hs a=none):Step Hs H0 H H0'' H'' :=
 ⟨s1.h.trans s2.h,s1.z.trans s2.z,fun a o e=>(s2.n a o e).elim (fun q=>s1.n a o q) fun q=>.inr (q.imp (w a) id),s2.i⟩
theorem Step.trans(s1:Step H H0 H H0' H')(s2:Step H' H0' H' H0'' H''):Step H H0 H H0'' H'':=s1.comp s2 fun _ q=>Same.free s1.h q
theorem Step.ss(b:Same B H)(s:Step H H0 H H0' H'):SStep B H0 H0' H':=⟨b.trans s.h,s.z,fun a o e=>(s.n a o e).imp id fun q=>q.imp (fun q=>Same.free b q) id,s.i⟩
theorem SStep.refl(b:Same B H)(i:Same H0 H):SStep B H0 H0 H:=⟨b,Same.refl _,fun _ _ e=>.inl e,i⟩
theorem SStep.trans(s1:SStep B H0 H0' H')(s2:SStep B H0' H0'' H''):SStep B H0 H0'' H'':=⟨s2.b,s1.z.trans s2.z,fun a o e=>(s2.n a o e).elim (fun q=>s1.n a o q) .inr,s2.i⟩
theorem RR.step(r:RR K C Hs H0 H v s)(st:Step H H0 H H0' H'):RR K C Hs H0' H' v s:=by
 cases s with
 | no=>exact r
 | sh d=>exact RD.mono st.z r
 | bo ds=>obtain⟨l,xs,e,h,q⟩:=r;exact⟨l,xs,e,st.h _ _ h,q.mono st.z⟩
 | bd ks ds=>obtain⟨l,xs,e,h,hk,q⟩:=r;exact⟨l,xs,e,st.h _ _ h,hk,q.mono st.z⟩
 | bt ks ds=>obtain⟨l,xs,e,h,hk,q⟩:=r;exact⟨l,xs,e,st.h _ _ h,hk,q.mono st.z⟩
 | own ds =>
  obtain⟨l,xs,e,h,n,m,q⟩:=r;refine⟨l,xs,e,st.h _ _ h,?_,m,q.mono st.z⟩
  cases z:H0' l with
  | none=>rfl
  | some o =>
   rcases st.n l o z with y|y|y
   ·rw[n] at y;cases y
   ·rw[h] at y;cases y
   ·have:=st.i l o z;rw[st.h _ _ h] at this;cases this;cases y
 | od ks ds =>
  obtain⟨l,xs,e,h,n,m,hk,q⟩:=r;refine⟨l,xs,e,st.h _ _ h,?_,m,hk,q.mono st.z⟩
  cases z:H0' l with
  | none=>rfl
  | some o =>
   rcases st.n l o z with y|y|y
   ·rw[n] at y;cases y
   ·rw[h] at y;cases y
   ·have:=st.i l o z;rw[st.h _ _ h] at this;cases this;cases y
 | ot ks ds =>
  obtain⟨l,xs,e,h,n,m,hk,q⟩:=r;refine⟨l,xs,e,st.h _ _ h,?_,m,hk,q.mono st.z⟩
  cases z:H0' l with
  | none=>rfl
  | some o =>
   rcases st.n l o z with y|y|y
   ·rw[n] at y;cases y
   ·rw[h] at y;cases y
   ·have:=st.i l o z;rw[st.h _ _ h] at this;cases this;cases y
theorem RR.weak{Hs':Hp}(r:RR K C Hs' H0 H v s)(w:∀a,Hs' a=none->Hs a=none):RR K C Hs H0 H v s:=by
 cases s with
 | own ds=>obtain⟨l,xs,e,h,n,m,q⟩:=r;exact⟨l,xs,e,h,n,w _ m,q⟩
 | od ks ds=>obtain⟨l,xs,e,h,n,m,q⟩:=r;exact⟨l,xs,e,h,n,w _ m,q⟩
 | ot ks ds=>obtain⟨l,xs,e,h,n,m,q⟩:=r;exact⟨l,xs,e,h,n,w _ m,q⟩
 | _=>exact r
theorem RSl.owned(r:RSl K C B H0 H v s)(o:YU s=true):∃l,v=.ref l/\H l≠none/\H0 l=none/\B l=none:=by
 cases s with
 | own ds=>obtain⟨l,xs,e,h,n,m,q⟩:=r;exact⟨l,e,(by rw[h];intro z;cases z),n,m⟩
 | od ks ds=>obtain⟨l,xs,e,h,n,m,q⟩:=r;exact⟨l,e,(by rw[h];intro z;cases z),n,m⟩
 | ot ks ds=>obtain⟨l,xs,e,h,n,m,q⟩:=r;exact⟨l,e,(by rw[h];intro z;cases z),n,m⟩
 | _=>cases o
theorem RR.owned(r:RR K C Hs H0 H v s)(o:YU s=true):∃l,v=.ref l/\H l≠none/\H0 l=none/\Hs l=none:=by
 cases s with
 | own ds=>obtain⟨l,xs,e,h,n,m,q⟩:=r;exact⟨l,e,(by rw[h];intro z;cases z),n,m⟩
 | od ks ds=>obtain⟨l,xs,e,h,n,m,q⟩:=r;exact⟨l,e,(by rw[h];intro z;cases z),n,m⟩
 | ot ks ds=>obtain⟨l,xs,e,h,n,m,q⟩:=r;exact⟨l,e,(by rw[h];intro z;cases z),n,m⟩
 | _=>cases o
theorem EnvR.step(I:EnvR K C B H0 H σ E)(st:Step H H0 H H0' H'):EnvR K C B H0' H' σ E:=by
 refine⟨I.b.trans st.h,st.i,I.len,fun i s e=>?_,I.sep⟩;rcases I.at' i s e with z|⟨v,h1,h2⟩
 ·exact .inl z
 ·refine .inr ⟨v,h1,?_⟩
  cases s with
  | no=>trivial
  | sh d=>exact RD.mono st.z h2
  | bo ds=>obtain⟨l,xs,e,h,q⟩:=h2;exact⟨l,xs,e,h,q.mono st.z⟩
  | own ds=>exact RR.step (Hs:=B) (s:=.own ds) h2 st
  | bd ks ds=>obtain⟨l,xs,e,h,hk,q⟩:=h2;exact⟨l,xs,e,h,hk,q.mono st.z⟩
  | bt ks ds=>obtain⟨l,xs,e,h,hk,q⟩:=h2;exact⟨l,xs,e,h,hk,q.mono st.z⟩
  | od ks ds=>exact RR.step (Hs:=B) (s:=.od ks ds) h2 st
  | ot ks ds=>exact RR.step (Hs:=B) (s:=.ot ks ds) h2 st
theorem EnvR.sub{E':List Sl}(I:EnvR K C B H0 H σ E)(hl:E'.length=E.length)(h:∀(i:Nat) (s:Sl),E'[i]?=some s->s=.no\/E[i]?=some s):EnvR K C B H0 H σ E':=by
 refine⟨I.b,I.h,I.len.trans hl.symm,fun i s e=>?_,fun i j s t v hij e1 e2 o1 o2=>?_⟩
 ·rcases h i s e with z|z
  ·exact .inl z
  ·exact I.at' i s z
 ·rcases h i _ e1 with z|z
  ·subst z;cases o1
  ·rcases h j _ e2 with y|y
   ·subst y;cases o2
   ·exact I.sep i j s t v hij z y o1 o2
theorem EnvR.put(I:EnvR K C B H0 H σ E){i:Nat}(hi:i<E.length){Hs:Hp}(hB:∀a,Hs a=none->B a=none)(hf:∀(j:Nat) (t:Sl) (l:Addr),E[j]?=some t->YU t=true->σ[j]?=some (some (.ref l))->Hs l≠none)(r:RR K C Hs H0 H v s)(hb:JnY s=false):EnvR K C B H0 H (σ.set i (some v)) (E.set i s):=by
 refine⟨I.b,I.h,by simp[I.len],fun j t e=>?_,fun j k s1 s2 u hjk e1 e2 o1 o2 e3 e4=>?_⟩
 ·rw[Q5] at e
  by_cases hj:i=j
  ·subst hj;rw[if_pos rfl,if_pos hi] at e;cases e;refine .inr ⟨v,by rw[Q5];simp[I.len,hi],?_⟩
   cases s with
   | no=>trivial
   | sh d=>exact r
   | bo ds=>cases hb
   | own ds=>obtain⟨l,xs,e,h,n,m,q⟩:=r;exact⟨l,xs,e,h,n,hB _ m,q⟩
   | bd ks ds=>cases hb
   | bt ks ds=>cases hb
   | od ks ds=>obtain⟨l,xs,e,h,n,m,q⟩:=r;exact⟨l,xs,e,h,n,hB _ m,q⟩
   | ot ks ds=>obtain⟨l,xs,e,h,n,m,q⟩:=r;exact⟨l,xs,e,h,n,hB _ m,q⟩
  ·rw[if_neg hj] at e;rcases I.at' j t e with z|⟨u,h1,h2⟩
   ·exact .inl z
   ·exact .inr ⟨u,by rw[Q5,if_neg hj];exact h1,h2⟩
 ·rw[Q5] at e1 e2 e3 e4
  by_cases hj:i=j
  ·subst hj;rw[if_neg hjk] at e2 e4;rw[if_pos rfl,if_pos hi] at e1;rw[if_pos rfl,if_pos (by rw[I.len];exact hi)] at e3;cases e3;cases e1;obtain⟨l,e,_,_,m⟩:=r.owned o1;subst e;exact hf k _ l e2 o2 e4 m
  ·rw[if_neg hj] at e1 e3
   by_cases hk:i=k
   ·subst hk;rw[if_pos rfl,if_pos hi] at e2;rw[if_pos rfl,if_pos (by rw[I.len];exact hi)] at e4;cases e2;have e4':v=u:=QH (QH e4);subst e4';obtain⟨l,e,_,_,m⟩:=r.owned o2;subst e;exact hf j _ l e1 o1 e3 m
   ·rw[if_neg hk] at e2 e4;exact I.sep j k _ _ u hjk e1 e2 o1 o2 e3 e4
theorem EnvR.ownG(I:EnvR K C B H0 H σ E){j:Nat}{t:Sl}{l:Addr}(e1:E[j]?=some t)(ho:YU t=true)(e2:σ[j]?=some (some (.ref l))):H l≠none/\H0 l=none/\B l=none:=by
 rcases I.at' j _ e1 with z|⟨v,h1,h2⟩
 ·subst z;cases ho
 ·rw[e2] at h1;cases h1;obtain⟨l',e,h⟩:=h2.owned ho;cases e;exact h
theorem EnvR.put'{H1 H01:Hp}(I:EnvR K C B H0 H σ E)(st:Step H H0 H H01 H1){i:Nat}(hi:i<E.length)(r:RR K C H H01 H1 v s)(hb:JnY s=false):EnvR K C B H01 H1 (σ.set i (some v)) (E.set i s) :=
 (I.step st).put hi (fun a q=>Same.free I.b q) (fun j t l e1 o1 e2=>(I.ownG e1 o1 e2).1) r hb
noncomputable def Jgo:Option HO->Option HO
 | some o=>if isT o=true then some o else none
 | none=>none
noncomputable def Ya(Hs H0 H:Hp):Hp:=fun a=>match H0 a with
 | some o=>some o
 | none=>match Hs a with
  | none=>H a
  | some _=>Jgo (H a)
theorem Jak{o:Option HO}{u:HO}(e:Jgo o=some u):o=some u/\isT u=true:=by
 cases o with
 | none=>cases e
 | some w =>
  unfold Jgo at e;dsimp only at e;split at e
  ·cases e;exact⟨rfl,by assumption⟩
  ·cases e
theorem J2(i:Same H0 H):Step Hs H0 H (Ya Hs H0 H) H:=by
 refine⟨Same.refl _,fun a o e=>by unfold Ya;rw[e],fun a o e=>?_,fun a o e=>?_⟩
 ·unfold Ya at e
  cases h:H0 a with
  | some u=>rw[h] at e;exact .inl e
  | none =>
   rw[h] at e
   cases h2:Hs a with
   | none=>exact .inr (.inl rfl)
   | some u=>rw[h2] at e;exact .inr (.inr (Jak e).2)
 ·unfold Ya at e
  cases h:H0 a with
  | some u=>rw[h] at e;cases e;exact i a _ h
  | none =>
   rw[h] at e
   cases h2:Hs a with
   | none=>rw[h2] at e;exact e
   | some u=>rw[h2] at e;exact(Jak e).1
theorem Jcc{a:Addr}{o:HO}(i:Same H0 H)(n:Hs a=none)(h:H a=some o):Ya Hs H0 H a=some o:=by
 unfold Ya
 cases z:H0 a with
 | some u=>rw[i a u z] at h;exact h
 | none=>dsimp only;rw[n];exact h
theorem Jgi{a:Addr}{o:HO}(i:Same H0 H)(n:isT o=true)(h:H a=some o):Ya Hs H0 H a=some o:=by
 unfold Ya
 cases z:H0 a with
 | some u=>rw[i a u z] at h;exact h
 | none =>
  dsimp only
  cases y:Hs a with
  | none=>exact h
  | some u=>dsimp only;rw[h];unfold Jgo;dsimp only;rw[if_pos n]
theorem Jgh{a:Addr}{xs:List V}(i:Same H0 H)(h:SqT K H a xs):SqT K (Ya Hs H0 H) a xs:=by
 rcases h with (h|⟨o,h⟩)|h
 ·exact .inl (.inl (Jgi i rfl h))
 ·exact .inl (.inr ⟨o,Jgi i rfl h⟩)
 ·exact .inr h
noncomputable def Sl.frz:Sl->Option D
 | .sh d=>some d
 | .own ds=>some (.lst ds)
 | .od ks ds=>some (.dct ks ds)
 | _=>none
theorem RR.frz{d:D}(i:Same H0 H)(r:RR K C Hs H0 H v s)(e:s.frz=some d):RD K C (Ya Hs H0 H) v d:=by
 have st:Step Hs H0 H (Ya Hs H0 H) H:=J2 i
 cases s with
 | no=>cases e
 | sh d'=>cases e;exact RD.mono st.z r
 | bo ds=>cases e
 | own ds=>cases e;obtain⟨l,xs,e,h,n,m,q⟩:=r;subst e;exact .mkL (Jcc i m h) (q.mono st.z)
 | bd ks ds=>cases e
 | bt ks ds=>cases e
 | od ks ds=>cases e;obtain⟨l,xs,e,h,n,m,hk,q⟩:=r;subst e;exact .mkD (Jcc i m h) hk (q.mono st.z)
 | ot ks ds=>cases e
end
end LE

namespace LE
open PySem L2 LR

noncomputable abbrev En:=List Sl
noncomputable abbrev Ev:=En->Option Sl
section
variable(K:Frag)(C:Addr)
noncomputable def SE(te:TE)(ev:Ev):Prop:=∀(B H0 H:Hp) (σ:St) (E:En) (r:Sl) (Q:VK),EnvR K C B H0 H σ E->ev E=some r ->
 (∀v H0' H',Step H H0 H H0' H'->RR K C H H0' H' v r->Q v H')->te σ H Q
noncomputable def ST(t:TT)(ev:En->Option Bool):Prop:=∀(B H0 H:Hp) (σ:St) (E:En) (r:Bool) (Q:Bool->Hp->Prop),EnvR K C B H0 H σ E->ev E=some r ->
 (∀H0' H',Step H H0 H H0' H'->Q r H')->t σ H Q
inductive RRL (Hs H0 H:Hp):List V->List Sl->Prop
 | nil:RRL Hs H0 H [] []
 | cons {v:V} {s:Sl} {vs:List V} {ss:List Sl}:RR K C Hs H0 H v s->RRL Hs H0 H vs ss->RRL Hs H0 H (v::vs) (s::ss)
noncomputable def SA(t:TA)(ev:En->Option (List Sl)):Prop:=∀(B H0 H:Hp) (σ:St) (E:En) (r:List Sl) (Q:List V->Hp->Prop),EnvR K C B H0 H σ E->ev E=some r ->
 (∀vs H0' H',Step H H0 H H0' H'->RRL K C H H0' H' vs r->Q vs H')->t σ H Q
noncomputable def OpS(r:R2)(f:Sl->Sl->Option Sl):Prop:=∀(Hs H0 H:Hp) (x y:V) (a b c:Sl) (Q:VK),Same H0 H->Same Hs H->RR K C Hs H0 H x a->RR K C Hs H0 H y b->f a b=some c ->
 (∀v H0' H',Step Hs H0 H H0' H'->RR K C Hs H0' H' v c->Q v H')->r x y H Q
noncomputable def UnS(r:V->Hp->VK->Prop)(f:Sl->Option Sl):Prop:=∀(Hs H0 H:Hp) (x:V) (a c:Sl) (Q:VK),Same H0 H->Same Hs H->RR K C Hs H0 H x a->f a=some c ->
 (∀v H0' H',Step Hs H0 H H0' H'->RR K C Hs H0' H' v c->Q v H')->r x H Q
noncomputable def Wm(r:List V->Hp->VK->Prop)(f:List Sl->Option Sl):Prop:=∀(Hs H0 H:Hp) (xs:List V) (as:List Sl) (c:Sl) (Q:VK),Same H0 H->Same Hs H->RRL K C Hs H0 H xs as->f as=some c ->
 (∀v H0' H',Step Hs H0 H H0' H'->RR K C Hs H0' H' v c->Q v H')->r xs H Q
end

noncomputable def Jd(i:Nat):Ev:=fun E=>match E[i]? with
 | some (.sh d)=>some (.sh d)
 | some (.bo ds)=>some (.bo ds)
 | some (.own ds)=>some (.bo ds)
 | some (.bd ks ds)=>some (.bd ks ds)
 | some (.od ks ds)=>some (.bd ks ds)
 | some (.bt ks ds)=>some (.bt ks ds)
 | some (.ot ks ds)=>some (.bt ks ds)
 | _=>none
noncomputable def eC(d:D):Ev:=fun _=>some (.sh d)
noncomputable def e2(f:Sl->Sl->Option Sl)(a b:Ev):Ev:=fun E=>(a E).bind fun x=>(b E).bind fun y=>f x y
noncomputable def e1(f:Sl->Option Sl)(a:Ev):Ev:=fun E=>(a E).bind f
noncomputable def a0:En->Option (List Sl):=fun _=>some []
noncomputable def aC(a:Ev)(as:En->Option (List Sl)):En->Option (List Sl):=fun E=>(a E).bind fun x=>(as E).bind fun xs=>some (x::xs)
noncomputable def eF(f:List Sl->Option Sl)(as:En->Option (List Sl)):Ev:=fun E=>(as E).bind f
noncomputable def bool?:Sl->Option Bool
 | .sh (.bl b)=>some b
 | _=>none
noncomputable def eIf(c:En->Option Bool)(a b:Ev):Ev:=fun E=>(c E).bind fun k=>if k=true then a E else b E
noncomputable def sh?:Sl->Option D
 | .sh d=>some d
 | _=>none
noncomputable def JeW(f g:Sl->Sl->Option Sl)(a b c:Ev):Ev:=fun E=>((a E).bind sh?).bind fun x=>((b E).bind sh?).bind fun y=>((f (.sh x) (.sh y)).bind bool?).bind fun k=>if k=true then((c E).bind sh?).bind fun z=>g (.sh y) (.sh z) else some (.sh (.bl false))
noncomputable def tB?(a:Ev):En->Option Bool:=fun E=>(a E).bind bool?
noncomputable def tAnd?(a b:En->Option Bool):En->Option Bool:=fun E=>(a E).bind fun k=>if k=true then b E else some false
noncomputable def tOr?(a b:En->Option Bool):En->Option Bool:=fun E=>(a E).bind fun k=>if k=true then some true else b E
noncomputable def tNot?(a:En->Option Bool):En->Option Bool:=fun E=>(a E).bind fun k=>some (!k)

section
variable{K:Frag}{C:Addr}
theorem bind_some{α β:Type}{x:Option α}{f:α->Option β}{b:β}(e:x.bind f=some b):∃a,x=some a/\f a=some b:=by
 cases x with
 | none=>cases e
 | some a=>exact⟨a,rfl,e⟩
theorem Jbe{s:Sl}{b:Bool}(e:bool? s=some b):s=.sh (.bl b):=by
 cases s with
 | sh d=>cases d with
  | bl x=>cases e;rfl
  | _=>cases e
 | _=>cases e
variable{ta tb tc te:TE}{ea eb ec:Ev}
theorem Jb(i:Nat):SE K C (Zp i) (Jd i):=by
 intro B H0 H σ E r Q I e q;unfold Jd at e
 cases h:E[i]? with
 | none=>rw[h] at e;cases e
 | some s =>
  rw[h] at e;rcases I.at' i s h with z|⟨v,h1,h2⟩
  ·subst z;cases e
  ·refine⟨v,h1,q v H0 H (.refl I.h) ?_⟩
   cases s with
   | no=>cases e
   | sh d=>cases e;exact h2
   | bo ds=>cases e;obtain⟨l,xs,e,hl,r⟩:=h2;exact⟨l,xs,e,I.b _ _ hl,r⟩
   | own ds=>cases e;obtain⟨l,xs,e,hl,_,_,r⟩:=h2;exact⟨l,xs,e,hl,r⟩
   | bd ks ds=>cases e;obtain⟨l,xs,e,hl,r⟩:=h2;exact⟨l,xs,e,I.b _ _ hl,r⟩
   | bt ks ds=>cases e;obtain⟨l,xs,e,hl,r⟩:=h2;exact⟨l,xs,e,I.b _ _ hl,r⟩
   | od ks ds=>cases e;obtain⟨l,xs,e,hl,_,_,r⟩:=h2;exact⟨l,xs,e,hl,r⟩
   | ot ks ds=>cases e;obtain⟨l,xs,e,hl,_,_,r⟩:=h2;exact⟨l,xs,e,hl,r⟩
theorem JaD:SE K C (tC .non) (eC .non):=fun _ _ _ _ _ _ _ I e q=>by cases e;exact q _ _ _ (.refl I.h) .non
theorem WA{b:Bool}:SE K C (tC (.bl b)) (eC (.bl b)):=fun _ _ _ _ _ _ _ I e q=>by cases e;exact q _ _ _ (.refl I.h) (.bl b)
theorem Jo{i:Int}:SE K C (tC (.int i)) (eC (.int i)):=fun _ _ _ _ _ _ _ I e q=>by cases e;exact q _ _ _ (.refl I.h) (.int i)
theorem Jp{r:R2}{f:Sl->Sl->Option Sl}(ho:OpS K C r f)(ha:SE K C ta ea)(hb:SE K C tb eb):SE K C (tOp r ta tb) (e2 f ea eb):=by
 intro B H0 H σ E c Q I e q;obtain⟨a,e1,e⟩:=bind_some e;obtain⟨b,e2,e⟩:=bind_some e;exact ha B H0 H σ E a _ I e1 fun x H1 H1' s1 r1=>hb B H1 H1' σ E b _ (I.step s1) e2 fun y H2 H2' s2 r2=>ho H H2 H2' x y a b c Q s2.i (s1.h.trans s2.h) (r1.step s2) (r2.weak fun a q=>Same.free s1.h q) e fun v H3 H3' s3 r3=>q v H3 H3' ((s1.trans s2).comp s3 fun _ z=>z) r3
theorem Jo9{r:V->Hp->VK->Prop}{f:Sl->Option Sl}(ho:UnS K C r f)(ha:SE K C ta ea):SE K C (tUn r ta) (e1 f ea):=by intro B H0 H σ E c Q I e q;obtain⟨a,e1,e⟩:=bind_some e;exact ha B H0 H σ E a _ I e1 fun x H1 H1' s1 r1=>ho H H1 H1' x a c Q s1.i s1.h r1 e fun v H3 H3' s3 r3=>q v H3 H3' (s1.comp s3 fun _ z=>z) r3
theorem Jk:SA K C Wl a0:=fun _ _ _ _ _ _ _ I e q=>by cases e;exact q _ _ _ (.refl I.h) .nil
theorem RRL.weak{Hs Hs' H0 H:Hp}{vs:List V}{ss:List Sl}(r:RRL K C Hs' H0 H vs ss)(w:∀a,Hs' a=none->Hs a=none):RRL K C Hs H0 H vs ss:=by
 induction r with
 | nil=>exact .nil
 | cons h _ ih=>exact .cons (h.weak w) ih
theorem Jc{tr:TA}{er:En->Option (List Sl)}(ha:SE K C ta ea)(hr:SA K C tr er):SA K C (U9 ta tr) (aC ea er):=by
 intro B H0 H σ E c Q I e q;obtain⟨a,e1,e⟩:=bind_some e;obtain⟨b,e2,e⟩:=bind_some e;cases e;exact ha B H0 H σ E a _ I e1 fun x H1 H1' s1 r1=>hr B H1 H1' σ E b _ (I.step s1) e2 fun y H2 H2' s2 r2=>q _ H2 H2' (s1.trans s2) (.cons (r1.step s2) (r2.weak fun a q=>Same.free s1.h q))
theorem U5{r:List V->Hp->VK->Prop}{t:TA}{ev:En->Option (List Sl)}{f:List Sl->Option Sl}(hc:Wm K C r f)(ha:SA K C t ev):SE K C (tCB r t) (eF f ev):=by intro B H0 H σ E c Q I e q;obtain⟨a,e1,e⟩:=bind_some e;exact ha B H0 H σ E a _ I e1 fun x H1 H1' s1 r1=>hc H H1 H1' x a c Q s1.i s1.h r1 e fun v H3 H3' s3 r3=>q v H3 H3' (s1.comp s3 fun _ z=>z) r3
theorem Jnn{c:TT}{cv:En->Option Bool}(hc:ST K C c cv)(ha:SE K C ta ea)(hb:SE K C tb eb):SE K C (tIf c ta tb) (eIf cv ea eb):=by
 intro B H0 H σ E r Q I e q;obtain⟨k,e1,e⟩:=bind_some e;refine hc B H0 H σ E k _ I e1 fun H1 H1' s1=>?_
 cases k with
 | true=>exact ha B H1 H1' σ E r Q (I.step s1) e fun y H2 H2' s2 r2=>q y H2 H2' (s1.trans s2) (r2.weak fun a q=>Same.free s1.h q)
 | false=>exact hb B H1 H1' σ E r Q (I.step s1) e fun y H2 H2' s2 r2=>q y H2 H2' (s1.trans s2) (r2.weak fun a q=>Same.free s1.h q)
theorem ZQ{s:Sl}{d:D}(e:sh? s=some d):s=.sh d:=by
 cases s with
 | sh d'=>cases e;rfl
 | _=>cases e
theorem Jmt{r r':R2}{f g:Sl->Sl->Option Sl}(ho:OpS K C r f)(ho':OpS K C r' g)(ha:SE K C ta ea)(hb:SE K C tb eb)(hc:SE K C tc ec):SE K C (Jkl r r' ta tb tc) (JeW f g ea eb ec):=by
 intro B H0 H σ E c Q I e q;obtain⟨a,e1,e⟩:=bind_some e;obtain⟨a',e1,f1⟩:=bind_some e1;obtain rfl:=ZQ f1;obtain⟨b,e2,e⟩:=bind_some e;obtain⟨b',e2,f2⟩:=bind_some e2;obtain rfl:=ZQ f2;obtain⟨k,e3,e⟩:=bind_some e;obtain⟨z,e4,e3⟩:=bind_some e3;refine ha B H0 H σ E _ _ I e1 fun x H1 H1' s1 r1=>hb B H1 H1' σ E _ _ (I.step s1) e2 fun y H2 H2' s2 r2=>?_
 have x2:RD K C H2 x a:=RD.mono s2.z r1
 have y2:RD K C H2 y b:=r2;refine ho H2' H2 H2' x y (.sh a) (.sh b) z _ s2.i (Same.refl _) x2 y2 e4 fun w H3 H3' s3 r3=>?_
 rw[Jbe e3] at r3;have s13:=(s1.trans s2).trans s3;refine⟨k,RD.blI r3,?_⟩
 cases k with
 | false=>cases e;exact q _ _ _ s13 (RD.bl false)
 | true =>
  obtain⟨d,e5,e⟩:=bind_some e;obtain⟨d',e5,f5⟩:=bind_some e5;obtain rfl:=ZQ f5;refine hc B H3 H3' σ E _ _ (I.step s13) e5 fun u H4 H4' s4 r4=>?_
  exact ho' H H4 H4' y u (.sh b) (.sh d) c Q s4.i (s13.h.trans s4.h) (RD.mono (s3.z.trans s4.z) y2) (show RD K C H4 u d from r4) e fun v H5 H5' s5 r5=>q v H5 H5' ((s13.trans s4).comp s5 fun _ z=>z) r5

theorem Yk(ha:SE K C te ea):ST K C (Jks te) (tB? ea):=by
 intro B H0 H σ E k Q I e q;obtain⟨a,e1,e⟩:=bind_some e;refine ha B H0 H σ E a _ I e1 fun x H1 H1' s1 r1=>?_
 rw[Jbe e] at r1;exact⟨k,RD.blI r1,q _ _ s1⟩
theorem JaE{c d:TT}{ev ew:En->Option Bool}(hc:ST K C c ev)(hd:ST K C d ew):ST K C (Jpf c d) (tAnd? ev ew):=by
 intro B H0 H σ E k Q I e q;obtain⟨a,e1,e⟩:=bind_some e;refine hc B H0 H σ E a _ I e1 fun H1 H1' s1=>?_
 cases a with
 | true=>exact hd B H1 H1' σ E k Q (I.step s1) e fun H2 H2' s2=>q H2 H2' (s1.trans s2)
 | false=>cases e;exact q _ _ s1
theorem JbH{c d:TT}{ev ew:En->Option Bool}(hc:ST K C c ev)(hd:ST K C d ew):ST K C (tOr c d) (tOr? ev ew):=by
 intro B H0 H σ E k Q I e q;obtain⟨a,e1,e⟩:=bind_some e;refine hc B H0 H σ E a _ I e1 fun H1 H1' s1=>?_
 cases a with
 | false=>exact hd B H1 H1' σ E k Q (I.step s1) e fun H2 H2' s2=>q H2 H2' (s1.trans s2)
 | true=>cases e;exact q _ _ s1
theorem V1{c:TT}{ev:En->Option Bool}(hc:ST K C c ev):ST K C (Jqx c) (tNot? ev):=by intro B H0 H σ E k Q I e q;obtain⟨a,e1,e⟩:=bind_some e;cases e;exact hc B H0 H σ E a _ I e1 fun H1 H1' s1=>q _ _ s1
end

noncomputable def Sl.m:Sl->Option (List D)
 | .sh (.lst ds)=>some ds
 | .bo ds=>some ds
 | .own ds=>some ds
 | _=>none
noncomputable def Sl.r:Sl->Option (List D)
 | .sh (.lst ds)=>some ds
 | .sh (.fz ds)=>some ds
 | .bo ds=>some ds
 | .own ds=>some ds
 | _=>none
noncomputable def Sl.q:Sl->Option (List D)
 | .sh (.lst ds)=>some ds
 | .sh (.fz ds)=>some ds
 | .sh (.tup ds)=>some ds
 | .bo ds=>some ds
 | .own ds=>some ds
 | _=>none
noncomputable def Sl.d:Sl->Option D
 | .sh d=>some d
 | .bo ds=>some (.lst ds)
 | .own ds=>some (.lst ds)
 | .bd ks ds=>some (.dct ks ds)
 | .od ks ds=>some (.dct ks ds)
 | .bt _ _=>none
 | .ot _ _=>none
 | .no=>none
section
variable{K:Frag}{C:Addr}{Hs H0 H:Hp}{v:V}{s:Sl}{ds:List D}{d:D}
theorem RR.m(r:RR K C Hs H0 H v s)(i:Same H0 H)(e:s.m=some ds):∃l xs,v=.ref l/\H l=some (.lst xs)/\RDL K C H0 xs ds:=by
 cases s with
 | no=>cases e
 | bo es=>cases e;exact r
 | own es=>cases e;obtain⟨l,xs,h1,h2,_,_,h3⟩:=r;exact⟨l,xs,h1,h2,h3⟩
 | bd _ _=>cases e
 | bt _ _=>cases e
 | od _ _=>cases e
 | ot _ _=>cases e
 | sh d=>cases d with
  | lst es=>cases e;obtain⟨l,xs,h1,h2,h3⟩:=RD.lstI r;exact⟨l,xs,h1,i _ _ h2,h3⟩
  | _=>cases e
theorem RR.r(r:RR K C Hs H0 H v s)(i:Same H0 H)(e:s.r=some ds):∃l xs,v=.ref l/\SqL K H l xs/\RDL K C H0 xs ds:=by
 cases s with
 | no=>cases e
 | bo es=>cases e;obtain⟨l,xs,h1,h2,h3⟩:=r;exact⟨l,xs,h1,.of h2,h3⟩
 | own es=>cases e;obtain⟨l,xs,h1,h2,_,_,h3⟩:=r;exact⟨l,xs,h1,.of h2,h3⟩
 | bd _ _=>cases e
 | bt _ _=>cases e
 | od _ _=>cases e
 | ot _ _=>cases e
 | sh d=>cases d with
  | lst es=>cases e;obtain⟨l,xs,h1,h2,h3⟩:=RD.lstI r;exact⟨l,xs,h1,.of (i _ _ h2),h3⟩
  | fz es=>cases e;obtain⟨l,xs,h1,h2,h3⟩:=RD.fzI r;exact⟨l,xs,h1,i.seq h2,h3⟩
  | _=>cases e
theorem RR.q(r:RR K C Hs H0 H v s)(i:Same H0 H)(e:s.q=some ds):∃l xs,v=.ref l/\(SqL K H l xs\/SqT K H l xs)/\RDL K C H0 xs ds:=by
 cases s with
 | no=>cases e
 | bo es=>cases e;obtain⟨l,xs,h1,h2,h3⟩:=r;exact⟨l,xs,h1,.inl (.of h2),h3⟩
 | own es=>cases e;obtain⟨l,xs,h1,h2,_,_,h3⟩:=r;exact⟨l,xs,h1,.inl (.of h2),h3⟩
 | bd _ _=>cases e
 | bt _ _=>cases e
 | od _ _=>cases e
 | ot _ _=>cases e
 | sh d=>cases d with
  | lst es=>cases e;obtain⟨l,xs,h1,h2,h3⟩:=RD.lstI r;exact⟨l,xs,h1,.inl (.of (i _ _ h2)),h3⟩
  | fz es=>cases e;obtain⟨l,xs,h1,h2,h3⟩:=RD.fzI r;exact⟨l,xs,h1,.inl (i.seq h2),h3⟩
  | tup es=>cases e;obtain⟨l,xs,h1,h2,h3⟩:=RD.tupI r;exact⟨l,xs,h1,.inr (i.seqT h2),h3⟩
  | _=>cases e
theorem RR.dat(r:RR K C Hs H0 H v s)(i:Same H0 H)(e:s.d=some d):RD K C H v d:=by
 cases s with
 | no=>cases e
 | bo es=>cases e;obtain⟨l,xs,h1,h2,h3⟩:=r;subst h1;exact .mkL h2 (h3.mono i)
 | own es=>cases e;obtain⟨l,xs,h1,h2,_,_,h3⟩:=r;subst h1;exact .mkL h2 (h3.mono i)
 | bd _ _=>cases e;obtain⟨l,xs,h1,h2,hk,h3⟩:=r;subst h1;exact .mkD h2 hk (h3.mono i)
 | bt _ _=>cases e
 | od _ _=>cases e;obtain⟨l,xs,h1,h2,_,_,hk,h3⟩:=r;subst h1;exact .mkD h2 hk (h3.mono i)
 | ot _ _=>cases e
 | sh d'=>cases e;exact RD.mono i r
theorem Vi{p:Addr}{xs:List V}{Q:VK}(i:Same H0 H)(hs:Same Hs H)(hp:H p=none)(r:RDL K C H0 xs ds)(q:∀v H0' H',Step Hs H0 H H0' H'->RR K C Hs H0' H' v (.own ds)->Q v H'):Q (.ref p) (upd H p (.lst xs)) :=
 q _ H0 _ ⟨.new hp,Same.refl _,fun _ _ e=>.inl e,i.trans (.new hp)⟩ ⟨p,xs,rfl,Jv,Same.free i hp,Same.free hs hp,r⟩
theorem ZU{p:Addr}{xs:List V}{Q:VK}(i:Same H0 H)(hs:Same Hs H)(hp:H p=none)(r:RDL K C H0 xs ds)(q:∀v H0' H',Step Hs H0 H H0' H'->RR K C Hs H0' H' v (.sh (.tup ds))->Q v H'):Q (.ref p) (upd H p (.tup xs)):=by
 have h0:H0 p=none:=Same.free i hp;refine q _ (upd H0 p (.tup xs)) _ ⟨.new hp,.new h0,fun a o e=>?_,fun a o e=>?_⟩ ?_
 ·by_cases h:a=p
  ·subst h;exact .inr (.inl (Same.free hs hp))
  ·rw[Jm h] at e;exact .inl e
 ·by_cases h:a=p
  ·subst h;rw[Jv] at e ⊢;exact e
  ·rw[Jm h] at e ⊢;exact i a o e
 ·exact RD.mkT (.of Jv) (r.mono (.new h0))
end

noncomputable def fI(g:Int->Int->D):Sl->Sl->Option Sl
 | .sh (.int a),.sh (.int b)=>some (.sh (g a b))
 | _,_=>none
noncomputable def fIc(c:Int->Int->Bool)(g:Int->Int->D):Sl->Sl->Option Sl
 | .sh (.int a),.sh (.int b)=>if c a b=true then some (.sh (g a b)) else none
 | _,_=>none
noncomputable def Jhw(x y:Sl):Option Sl:=x.m.bind fun a=>y.m.bind fun b=>if a.length+b.length<=sizeLine then some (.own (a++b)) else none
noncomputable def Ub:Sl->Sl->Option Sl
 | .sh (.int a),.sh (.int b)=>some (.sh (.int (a+b)))
 | .sh (.str a),.sh (.str b)=>if a.length+b.length<=sizeLine then some (.sh (.str (a++b))) else none
 | .sh (.tup a),.sh (.tup b)=>if a.isEmpty=false/\b.isEmpty=false/\a.length+b.length<=sizeLine then some (.sh (.tup (a++b))) else none
 | .sh (.lst a),y=>Jhw (.sh (.lst a)) y
 | .bo a,y=>Jhw (.bo a) y
 | .own a,y=>Jhw (.own a) y
 | _,_=>none
noncomputable abbrev YW:=fI fun a b=>.int (a-b)
noncomputable abbrev fLt:=fI fun a b=>.bl (decide (a<b))
noncomputable abbrev fLe:=fI fun a b=>.bl (decide (a<=b))
noncomputable abbrev fGt:=fI fun a b=>.bl (decide (b<a))
noncomputable def W1(a:Int):Bool:=Nat.ble a.natAbs 18446744073709551615
theorem VJ{a:Int}:W1 a=true↔-18446744073709551616<a/\a<18446744073709551616:=by unfold W1;rw[KH];omega
noncomputable def JfE(a:Int):Bool:=Nat.ble a.natAbs 1073741823 && decide (0<a)
theorem smallP_ok{a:Int}:JfE a=true↔0<a/\a<1073741824:=by unfold JfE;rw[QM,KH,decide_eq_true_eq];omega
noncomputable abbrev Jac:=fIc (fun a b=>W1 a || W1 b) fun a b=>.int (a*b)
noncomputable abbrev Zd:=fIc (fun _ b=>decide (0<b)) fun a b=>.int (a % b)
noncomputable abbrev Jlk:=fIc (fun _ b=>JfE b) fun a b=>.int (a / b)
noncomputable abbrev Jdm:=fIc (fun a b=>decide (0<=b) && Nat.ble b.natAbs 1000000 && W1 a) fun a b=>.int (a ^ b.toNat)
noncomputable def Je1:Sl->Option Sl
 | .sh (.int a)=>some (.sh (.int (-a)))
 | _=>none
noncomputable def eqD(d e:D):Option Bool:=if (d.py.canLay0 && e.py.canLay0 && decide (min d.py.depth e.py.depth<=60))=true then some (LV d.py e.py) else none
noncomputable def eqA:D->D->Option Bool
 | .int a,.int b=>some (decide (a=b))
 | .str a,.str b=>some (decide (a=b))
 | .bl a,.bl b=>some (decide (a=b))
 | .non,.non=>some true
 | .non,.int _=>some false
 | .int _,.non=>some false
 | .non,.str _=>some false
 | .str _,.non=>some false
 | .non,.bl _=>some false
 | .bl _,.non=>some false
 | .int _,.str _=>some false
 | .str _,.int _=>some false
 | d,e=>eqD d e
noncomputable def fEq(x y:Sl):Option Sl:=x.d.bind fun d=>y.d.bind fun e=>(eqA d e).map fun k=>.sh (.bl k)
noncomputable def fNe(x y:Sl):Option Sl:=x.d.bind fun d=>y.d.bind fun e=>(eqA d e).map fun k=>.sh (.bl (!k))
noncomputable def D.isNon:D->Bool
 | .non=>true
 | _=>false
noncomputable def fIs:Sl->Sl->Option Sl
 | x,.sh .non=>x.d.map fun d=>.sh (.bl d.isNon)
 | _,_=>none
noncomputable def Zc:Sl->Sl->Option Sl
 | x,.sh .non=>x.d.map fun d=>.sh (.bl (!d.isNon))
 | _,_=>none
noncomputable def fIx:Sl->Sl->Option Sl
 | .sh (.str z),.sh (.int i)=>if z.length<=sizeLine then(atI z.cps.toList i).map fun c=>.sh (.str ⟨#[c]⟩) else none
 | x,.sh (.int i)=>x.q.bind fun ds=>(atI ds i).map .sh
 | _,_=>none
section
variable{K:Frag}{C:Addr}
theorem o_I{g:Int->Int->V}{g':Int->Int->D}(h:∀i j H,RD K C H (g i j) (g' i j)):OpS K C (rI0 g) (fI g'):=by
 intro Hs H0 H x y a b c Q i hs ra rb e q;unfold fI at e;split at e
 ·cases e;exact⟨_,_,RD.intI ra,RD.intI rb,q _ _ _ (.refl i) (h _ _ _)⟩
 ·cases e
theorem JhV{P:Int->Int->Prop}{c':Int->Int->Bool}{g:Int->Int->V}{g':Int->Int->D}(hp:∀i j,c' i j=true->P i j)(h:∀i j H,RD K C H (g i j) (g' i j)):OpS K C (rI P g) (fIc c' g'):=by
 intro Hs H0 H x y a b c Q i hs ra rb e q;unfold fIc at e;split at e
 ·split at e
  ·cases e;exact⟨_,_,RD.intI ra,RD.intI rb,hp _ _ (by assumption),q _ _ _ (.refl i) (h _ _ _)⟩
  ·cases e
 ·cases e
theorem Y2:OpS K C (rI0 fun i j=>.int (i-j)) YW:=o_I fun _ _ _=>.int _
theorem JhX:OpS K C (rI0 fun i j=>.bl (decide (i<j))) fLt:=o_I fun _ _ _=>.bl _
theorem JqM:OpS K C (rI0 fun i j=>.bl (decide (i<=j))) fLe:=o_I fun _ _ _=>.bl _
theorem JhW:OpS K C (rI0 fun i j=>.bl (decide (j<i))) fGt:=o_I fun _ _ _=>.bl _
theorem WV:OpS K C (rI CMul fun i j=>.int (i*j)) Jac:=JhV (fun i j h=>by simp only[Ly,VJ] at h;exact h) fun _ _ _=>.int _
theorem Jaq:OpS K C (rI (fun _ j=>0<j) fun i j=>.int (i % j)) Zd:=JhV (fun i j h=>by simpa using h) fun _ _ _=>.int _
theorem Jp3:OpS K C (rI Jpv fun i j=>.int (i / j)) Jlk:=JhV (fun i j h=>smallP_ok.mp h) fun _ _ _=>.int _
theorem JjC:OpS K C (rI Jpw fun i j=>.int (i ^ j.toNat)) Jdm:=JhV (fun i j h=>by simp only[QM,decide_eq_true_eq,KH,VJ] at h;refine⟨h.1.1,by omega,?_⟩;show i.natAbs<18446744073709551616;omega) fun _ _ _=>.int _
theorem JkF:UnS K C (rU fun i=>.int (-i)) Je1:=by
 intro Hs H0 H x a c Q i hs ra e q;unfold Je1 at e;split at e
 ·cases e;exact⟨_,RD.intI ra,q _ _ _ (.refl i) (RD.int _)⟩
 ·cases e
noncomputable def JjX(K:Frag):R2:=fun x y H Q=>JgN K x y H Q\/Jnj K x y H Q
theorem JR{X:Cx}(hK:X.K=K):OpR X (binaryOp .Add) (JjX K):=(JgC hK).or (hK▸JlZ)
theorem YF:OpS K C (JjX K) Ub:=by
 intro Hs H0 H x y a b c Q i hs ra rb e q
 have cat:∀{a b:Sl},RR K C Hs H0 H x a->RR K C Hs H0 H y b->Jhw a b=some c->JjX K x y H Q:=by
  intro a b ra rb e;obtain⟨xs,e1,e⟩:=bind_some e;obtain⟨ys,e2,e⟩:=bind_some e;split at e
  ·next hz=>cases e;obtain⟨l,us,rfl,h1,r1⟩:=ra.m i e1;obtain⟨l',ws,rfl,h2,r2⟩:=rb.m i e2;exact .inl (.inr (.inr ⟨l,l',us,ws,rfl,rfl,h1,h2,by rw[r1.1,r2.1];exact hz,fun p hp=>Vi i hs hp (r1.append r2) q⟩))
  ·cases e
 unfold Ub at e;split at e
 ·cases e;exact .inl (.inl ⟨_,_,RD.intI ra,RD.intI rb,q _ _ _ (.refl i) (RD.int _)⟩)
 ·split at e
  ·cases e;exact .inl (.inr (.inl ⟨_,_,RD.strI ra,RD.strI rb,by assumption,q _ _ _ (.refl i) (RD.str _)⟩))
  ·cases e
 ·split at e
  ·next hz =>
   cases e;obtain⟨l,us,rfl,h1,r1⟩:=RD.tupI ra;obtain⟨l',ws,rfl,h2,r2⟩:=RD.tupI rb;have n1:us≠[]:=by rintro rfl;have:=r1.1;have z:=hz.1;simp at this;rw[Qz this.symm] at z;cases z
   have n2:ws≠[]:=by rintro rfl;have:=r2.1;have z:=hz.2.1;simp at this;rw[Qz this.symm] at z;cases z
   exact .inr ⟨l,l',us,ws,rfl,rfl,i.seqT h1,i.seqT h2,n1,by rw[r1.1,r2.1];exact hz.2.2,fun z=>absurd z n2,fun _ p hp=>ZU i hs hp (r1.append r2) q⟩
  ·cases e
 ·exact cat ra rb e
 ·exact cat ra rb e
 ·exact cat ra rb e
 ·cases e
theorem Jdj{d e:D}{k:Bool}(h:eqD d e=some k):d.py.canLay0=true/\e.py.canLay0=true/\min d.py.depth e.py.depth<=60/\k=LV d.py e.py:=by
 unfold eqD at h;split at h
 ·next z=>cases h;simp only[QM,decide_eq_true_eq] at z;exact⟨z.1.1,z.1.2,z.2,rfl⟩
 ·cases h
theorem map_some{α β:Type}{x:Option α}{f:α->β}{b:β}(e:x.map f=some b):∃a,x=some a/\f a=b:=by
 cases x with
 | none=>cases e
 | some a=>cases e;exact⟨a,rfl,rfl⟩
theorem Jdi{H:Hp}{x y:V}{d e:D}{k:Bool}(h:eqA d e=some k)(rx:RD K C H x d)(ry:RD K C H y e):(Jpb x y=true/\decide (x=y)=k)\/eqD d e=some k:=by
 unfold eqA at h;split at h
 ·cases h;rw[RD.intI rx,RD.intI ry];exact .inl ⟨rfl,by simp⟩
 ·cases h;rw[RD.strI rx,RD.strI ry];exact .inl ⟨rfl,by simp⟩
 ·cases h;rw[RD.blI rx,RD.blI ry];exact .inl ⟨rfl,by simp⟩
 ·cases h;rw[RD.nonI rx,RD.nonI ry];exact .inl ⟨rfl,by simp⟩
 ·cases h;rw[RD.nonI rx,RD.intI ry];exact .inl ⟨rfl,by simp⟩
 ·cases h;rw[RD.intI rx,RD.nonI ry];exact .inl ⟨rfl,by simp⟩
 ·cases h;rw[RD.nonI rx,RD.strI ry];exact .inl ⟨rfl,by simp⟩
 ·cases h;rw[RD.strI rx,RD.nonI ry];exact .inl ⟨rfl,by simp⟩
 ·cases h;rw[RD.nonI rx,RD.blI ry];exact .inl ⟨rfl,by simp⟩
 ·cases h;rw[RD.blI rx,RD.nonI ry];exact .inl ⟨rfl,by simp⟩
 ·cases h;rw[RD.intI rx,RD.strI ry];exact .inl ⟨rfl,by simp⟩
 ·cases h;rw[RD.strI rx,RD.intI ry];exact .inl ⟨rfl,by simp⟩
 ·exact .inr h
theorem Jp4:OpS K C (JoL K) fEq:=by
 intro Hs H0 H x y a b c Q i hs ra rb e q;obtain⟨d,e1,e⟩:=bind_some e;obtain⟨d',e2,e⟩:=bind_some e;obtain⟨k,e3,rfl⟩:=map_some e;have r1:=ra.dat i e1;have r2:=rb.dat i e2;rcases Jdi e3 r1 r2 with ⟨h1,h2⟩|h
 ·exact .inl ⟨h1,by rw[h2];exact q _ _ _ (.refl i) (RD.bl _)⟩
 ·obtain⟨h1,h2,h3,rfl⟩:=Jdj h;exact .inr ⟨_,_,r1.rep h1,r2.rep h2,h1,h2,h3,q _ _ _ (.refl i) (RD.bl _)⟩
theorem JhY:OpS K C (JoO K) fNe:=by
 intro Hs H0 H x y a b c Q i hs ra rb e q;obtain⟨d,e1,e⟩:=bind_some e;obtain⟨d',e2,e⟩:=bind_some e;obtain⟨k,e3,rfl⟩:=map_some e;have r1:=ra.dat i e1;have r2:=rb.dat i e2;rcases Jdi e3 r1 r2 with ⟨h1,h2⟩|h
 ·exact .inl ⟨h1,by rw[h2];exact q _ _ _ (.refl i) (RD.bl _)⟩
 ·obtain⟨h1,h2,h3,rfl⟩:=Jdj h;exact .inr ⟨_,_,r1.rep h1,r2.rep h2,h1,h2,h3,q _ _ _ (.refl i) (RD.bl _)⟩
theorem Jdz{H:Hp}{x:V}{d:D}(r:RD K C H x d):decide (x=.non)=d.isNon:=by cases r <;> simp[D.isNon]
theorem Jp5:OpS K C Jqd fIs:=by
 intro Hs H0 H x y a b c Q i hs ra rb e q;unfold fIs at e;split at e
 ·obtain⟨d,e1,rfl⟩:=map_some e;refine⟨RD.nonI rb,?_⟩;rw[Jdz (ra.dat i e1)];exact q _ _ _ (.refl i) (RD.bl _)
 ·cases e
theorem Jgz:OpS K C Jj2 Zc:=by
 intro Hs H0 H x y a b c Q i hs ra rb e q;unfold Zc at e;split at e
 ·obtain⟨d,e1,rfl⟩:=map_some e;refine⟨RD.nonI rb,?_⟩;rw[Jdz (ra.dat i e1)];exact q _ _ _ (.refl i) (RD.bl _)
 ·cases e
theorem RDL.atI{H:Hp}{xs:List V}{ds:List D}{i:Int}{d:D}(r:RDL K C H xs ds)(e:L2.atI ds i=some d):∃x,L2.atI xs i=some x/\RD K C H x d:=by unfold L2.atI at e ⊢;rw[r.1];obtain⟨j,e1,e⟩:=bind_some e;obtain⟨x,e2,r2⟩:=r.get e;exact⟨x,by rw[e1];exact e2,r2⟩
theorem UB:OpS K C (rIx K) fIx:=by
 intro Hs H0 H x y a b c Q i hs ra rb e q;unfold fIx at e;split at e
 ·split at e
  ·obtain⟨z,e1,rfl⟩:=map_some e;rw[RD.strI ra,RD.intI rb];exact JoX (by assumption) e1 (q _ _ _ (.refl i) (RD.str _))
  ·cases e
 ·obtain⟨ds,e1,e⟩:=bind_some e;obtain⟨d,e2,rfl⟩:=map_some e;obtain⟨l,xs,rfl,h,r⟩:=ra.q i e1;obtain⟨v,e3,r3⟩:=r.atI e2;rw[RD.intI rb];rcases h with h|h
  ·exact JoW h e3 (q _ _ _ (.refl i) r3)
  ·exact JoY h e3 (q _ _ _ (.refl i) r3)
 ·cases e
end
end LE

namespace LE
open PySem L2 LR

noncomputable def Jad:List Sl->Option (List D)
 | []=>some []
 | s::ss=>s.frz.bind fun d=>(Jad ss).bind fun ds=>some (d::ds)
noncomputable def Uu(as:En->Option (List Sl)):Ev:=fun E=>(as E).bind fun ss=>(Jad ss).bind fun ds=>if ds.length<=100 then some (.sh (.tup ds)) else none
noncomputable def VP(as:En->Option (List Sl)):Ev:=fun E=>(as E).bind fun ss=>(Jad ss).bind fun ds=>if ds.length<=100 then some (.own ds) else none
section
variable{K:Frag}{C:Addr}{t:TA}{ev:En->Option (List Sl)}{Hs H0 H:Hp}{ta te:TE}{ea:Ev}
theorem RRL.frz{vs:List V}{ss:List Sl}(i:Same H0 H)(r:RRL K C Hs H0 H vs ss):∀{ds:List D},Jad ss=some ds->RDL K C (Ya Hs H0 H) vs ds:=by
 induction r with
 | nil=>intro ds e;cases e;exact .nil
 | cons h _ ih=>intro ds e;obtain⟨d,e1,e⟩:=bind_some e;obtain⟨ds',e2,e⟩:=bind_some e;cases e;exact .cons (h.frz i e1) (ih e2)
theorem UK(ha:SA K C t ev):SE K C (Jpl t) (Uu ev):=by
 intro B H0 H σ E c Q I e q;obtain⟨ss,e1,e⟩:=bind_some e;obtain⟨ds,e2,e⟩:=bind_some e;split at e
 ·next hl =>
  cases e;refine ha B H0 H σ E ss _ I e1 fun vs H1 H1' s1 r1=>?_
  have f:=J2 (Hs:=H) s1.i
  have r2:=r1.frz s1.i e2;exact⟨by rw[r2.1];exact Gn hl (by decide),fun p hp=>ZU f.i s1.h hp r2 fun v H2 H2' s2 r2=>q v H2 H2' ((s1.comp f fun _ z=>z).comp s2 fun _ z=>z) r2⟩
 ·cases e
theorem Vs(ha:SA K C t ev):SE K C (JmN t) (VP ev):=by
 intro B H0 H σ E c Q I e q;obtain⟨ss,e1,e⟩:=bind_some e;obtain⟨ds,e2,e⟩:=bind_some e;split at e
 ·next hl =>
  cases e;refine ha B H0 H σ E ss _ I e1 fun vs H1 H1' s1 r1=>?_
  have f:=J2 (Hs:=H) s1.i
  have r2:=r1.frz s1.i e2;exact⟨by rw[r2.1];exact Gn hl (by decide),fun p hp=>Vi f.i s1.h hp r2 fun v H2 H2' s2 r2=>q v H2 H2' ((s1.comp f fun _ z=>z).comp s2 fun _ z=>z) r2⟩
 ·cases e

noncomputable def Sl.pass:Sl->Option Sl
 | .sh d=>some (.sh d)
 | .own ds=>some (.sh (.lst ds))
 | .bo ds=>some (.bo ds)
 | .bd ks ds=>some (.bd ks ds)
 | .od ks ds=>some (.sh (.dct ks ds))
 | .bt _ _=>none
 | .ot _ _=>none
 | .no=>none
end
noncomputable def ZP:List Sl->Option (List Sl)
 | []=>some []
 | s::ss=>s.pass.bind fun d=>(ZP ss).bind fun ds=>some (d::ds)
noncomputable def spE(K:Frag)(C:Addr)(n:Nat)(f:List Sl->Option Sl):Sp:=fun vs H Q _=>∃H0 as r,Same H0 H/\RRL K C H H0 H vs as/\as.all (fun s=>!YU s)=true/\as.length=n/\f as=some r ∧
 ∀v H0' H',Step H H0 H H0' H'->RR K C H H0' H' v r->Q v H'
noncomputable def eU(n:Nat)(f:List Sl->Option Sl)(as:En->Option (List Sl)):Ev:=fun E=>(as E).bind fun ss=>(ZP ss).bind fun bs=>if bs.length=n then f bs else none
section
variable{K:Frag}{C:Addr}{t:TA}{ev:En->Option (List Sl)}{Hs H0 H:Hp}{ta te:TE}{ea:Ev}
theorem RRL.len{vs:List V}{ss:List Sl}(r:RRL K C Hs H0 H vs ss):vs.length=ss.length:=by
 induction r with
 | nil=>rfl
 | cons _ _ ih=>simp[ih]
theorem JG{n:Nat}{f:List Sl->Option Sl}{vs:List V}{Q:VK}{E:XK}(h:spE K C n f vs H Q E):vs.length=n:=by obtain⟨H0,as,r,_,h1,_,h2,_⟩:=h;rw[h1.len];exact h2
theorem RR.pass{v:V}{s s':Sl}(i:Same H0 H)(r:RR K C Hs H0 H v s)(e:s.pass=some s'):RR K C H (Ya Hs H0 H) H v s'/\YU s'=false:=by
 have st:Step Hs H0 H (Ya Hs H0 H) H:=J2 i
 cases s with
 | no=>cases e
 | sh d=>cases e;exact⟨RD.mono st.z r,rfl⟩
 | own ds=>cases e;exact⟨RR.frz (s:=.own ds) i r rfl,rfl⟩
 | bo ds=>cases e;obtain⟨l,xs,h1,h2,h3⟩:=r;exact⟨⟨l,xs,h1,h2,h3.mono st.z⟩,rfl⟩
 | od ks ds=>cases e;exact⟨RR.frz (s:=.od ks ds) i r rfl,rfl⟩
 | ot ks ds=>cases e
 | bd ks ds=>cases e;obtain⟨l,xs,h1,h2,hk,h3⟩:=r;exact⟨⟨l,xs,h1,h2,hk,h3.mono st.z⟩,rfl⟩
 | bt ks ds=>cases e
theorem RRL.pass{vs:List V}{ss:List Sl}(i:Same H0 H)(r:RRL K C Hs H0 H vs ss):∀{bs:List Sl},ZP ss=some bs->RRL K C H (Ya Hs H0 H) H vs bs/\bs.all (fun s=>!YU s)=true:=by
 induction r with
 | nil=>intro bs e;cases e;exact⟨.nil,rfl⟩
 | cons h _ ih=>intro bs e;obtain⟨d,e1,e⟩:=bind_some e;obtain⟨ds',e2,e⟩:=bind_some e;cases e;obtain⟨h1,h2⟩:=h.pass i e1;obtain⟨h3,h4⟩:=ih e2;exact⟨.cons h1 h3,by rw[List.all_cons,h2,h4];rfl⟩
theorem Jz{n:Nat}{f:List Sl->Option Sl}{X:XK}(ha:SA K C t ev):SE K C (Jg7 (spE K C n f) [] X t) (eU n f ev):=by
 intro B H0 H σ E c Q I e q;obtain⟨ss,e1,e⟩:=bind_some e;obtain⟨bs,e2,e⟩:=bind_some e;split at e
 ·next hl=>refine JgQ (ha B H0 H σ E ss _ I e1 fun vs H1 H1' s1 r1=>?_);obtain⟨h1,h2⟩:=r1.pass s1.i e2;have f:=J2 (Hs:=H) s1.i;exact⟨_,bs,c,f.i,h1,h2,hl,e,fun v H2 H2' s2 r2=>q v H2 H2' ((s1.comp f fun _ z=>z).comp s2 fun a z=>Same.free s1.h z) (r2.weak fun a z=>Same.free s1.h z)⟩
 ·cases e

noncomputable def prE(p:Pr):D:=.tup [.int p.1,.int p.2]
noncomputable def Jps:D->Option Pr
 | .tup [.int a,.int b]=>some (a,b)
 | _=>none
noncomputable def Jez:List D->Option (List Pr)
 | []=>some []
 | d::ds=>(Jps d).bind fun p=>(Jez ds).bind fun ps=>some (p::ps)
end
theorem JbK:∀ps:List Pr,Jez (ps.map prE)=some ps
 | []=>rfl
 | p::ps=>by rw[Qd,Jez,JbK ps];rfl
theorem Jij{d:D}{p:Pr}(e:Jps d=some p):d=prE p:=by
 unfold Jps at e;split at e
 ·cases e;rfl
 ·cases e
theorem JaP:∀{ds:List D} {ps:List Pr},Jez ds=some ps->ds=ps.map prE
 | [],_,e=>by cases e;rfl
 | d::ds,_,e=>by obtain⟨p,e1,e⟩:=bind_some e;obtain⟨ps,e2,e⟩:=bind_some e;cases e;rw[Jij e1,JaP e2];rfl
noncomputable def Zt:List Pr->Bool
 | []=>true
 | [p]=>decide (1<=p.2)
 | p::q::r=>decide (1<=p.2) && decide (p.1+p.2<q.1) && Zt (q::r)
theorem Jae:∀{ps:List Pr},Zt ps=true->Good ps
 | [],_=>.nil
 | [p],h=>⟨fun i q e=>by
  cases i with
  | zero=>simp at e;subst e;simpa [Zt] using h
  | succ i=>simp at e,fun i q r e1 e2=>by simp at e2⟩
 | p::q::r,h=>by
  simp only[Zt,QM,decide_eq_true_eq] at h;have g:=Jae h.2;refine⟨fun i x e=>?_,fun i x y e1 e2=>?_⟩
  ·cases i with
   | zero=>simp at e;subst e;exact h.1.1
   | succ i=>exact g.one i x (by simpa using e)
  ·cases i with
   | zero=>simp at e1 e2;subst e1 e2;exact h.1.2
   | succ i=>exact g.gap i x y (by simpa using e1) (by simpa using e2)
theorem Jaf:∀{ps:List Pr},Good ps->Zt ps=true
 | [],_=>rfl
 | [p],g=>by simpa [Zt] using g.one 0 p rfl
 | p::q::r,g=>by
  have g':Good (q::r):=⟨fun i x e=>g.one (i+1) x (by simpa using e),fun i x y e1 e2=>g.gap (i+1) x y (by simpa using e1) (by simpa using e2)⟩
  simp only[Zt,QM,decide_eq_true_eq];exact⟨⟨g.one 0 p rfl,g.gap 0 p q rfl rfl⟩,Jaf g'⟩
noncomputable def ZD:List Sl->Option Sl
 | [s]=>s.q.bind fun ds=>(Jez ds).bind fun ps=>if (Zt ps && decide (ps.length<=30))=true then some (.sh (.row ds)) else none
 | _=>none
noncomputable def Ve:Sl->Option Sl
 | .sh (.row ds)=>some (.sh (.tup ds))
 | _=>none
section
variable{K:Frag}{C:Addr}{t:TA}{ev:En->Option (List Sl)}{Hs H0 H:Hp}{ta te:TE}{ea:Ev}
theorem JoH{xs:List V}{ps:List Pr}(r:RDL K C H xs (ps.map prE)):Prs K H xs ps:=by
 refine⟨by rw[r.1];simp,fun i x d h1 h2=>?_⟩;rw[Qq] at h2
 cases e:ps[i]? with
 | none=>rw[e] at h2;cases h2
 | some p=>rw[e] at h2;cases h2;have h:=r.2 i x (prE p) h1 (by rw[Qq,e];rfl);exact RD.rep h rfl
theorem Jop{xs:List V}{ps:List Pr}(i:Same H0 H)(r:Prs K H xs ps):RDL K C (Ya Hs H0 H) xs (ps.map prE):=by refine⟨by rw[r.len];simp,fun j x d h1 h2=>?_⟩;obtain⟨p,a,e1,e2,e3⟩:=r.at h1;rw[Qq,e1] at h2;cases h2;subst e2;exact .mkT (Jgh i e3) (.cons (.int _) (.cons (.int _) .nil))
theorem JbG{X:XK}(ha:SA K C t ev):SE K C (Jg9 C (VL C K) [] X t) (eF ZD ev):=by
 intro B H0 H σ E c Q I e q;obtain⟨ss,e1,e⟩:=bind_some e;refine LR.JgS (ha B H0 H σ E ss _ I e1 fun vs H1 H1' s1 r1=>?_);unfold ZD at e;split at e
 ·next s =>
  cases r1 with
  | cons r1 r1' =>
   cases r1';obtain⟨ds,e2,e⟩:=bind_some e;obtain⟨ps,e3,e⟩:=bind_some e;split at e
   ·next hg =>
    cases e;simp only[QM,decide_eq_true_eq] at hg;have e4:=JaP e3;subst e4;obtain⟨l,xs,rfl,hq,r⟩:=r1.q s1.i e2;refine Jo0 ⟨l,xs,rfl,hq,JoH (r.mono s1.i)⟩ (Jae hg.1) hg.2 fun x H2 nx s2 R=>?_
    obtain⟨x',dx,t',ts,ex,hx,ht,hp⟩:=R;cases ex;have i2:Same H1 H2:=s1.i.trans s2;have f:=J2 (Hs:=H) i2;refine q _ (Ya H H1 H2) H2 ⟨s1.h.trans s2,s1.z.trans f.z,fun a o e=>(f.n a o e).elim (fun z=>s1.n a o z) .inr,f.i⟩ ?_;have ts':=Jop (Hs:=H) (C:=C) i2 hp;exact .row (Jcc i2 (Same.free s1.h nx) hx) (Jgh i2 (.of ht)) ts'.1 ts'.2
   ·cases e
 ·cases e
theorem U6{K:Frag}{C:Addr}{ta:TE}{ea:Ev}(T:RowC K C)(ha:SE K C ta ea):SE K C (Jpg K ta "stretches") (e1 Ve ea):=by
 intro B H0 H σ E c Q I e q;obtain⟨a,e1,e⟩:=bind_some e;refine ha B H0 H σ E a _ I e1 fun x H1 H1' s1 r1=>?_
 unfold Ve at e;split at e
 ·cases e;obtain⟨x',dx,t',ts,rfl,hx,ht,hp⟩:=RD.rowI r1;exact⟨x',C,dx,_,_,rfl,s1.i _ _ hx,T.cl,T.ns,Jia t',q _ _ _ s1 (RD.mkT ht hp)⟩
 ·cases e

noncomputable def ints?:List D->Option (List Int)
 | []=>some []
 | .int i::ds=>(ints? ds).map (i::·)
 | _::_=>none
noncomputable def bls?:List D->Option (List Bool)
 | []=>some []
 | .bl i::ds=>(bls? ds).map (i::·)
 | _::_=>none
end
theorem Jai:∀ns:List Int,ints? (ns.map .int)=some ns
 | []=>rfl
 | n::ns=>by rw[Qd,ints?,Jai ns];rfl
theorem JfV:∀ns:List Bool,bls? (ns.map .bl)=some ns
 | []=>rfl
 | n::ns=>by rw[Qd,bls?,JfV ns];rfl
theorem Y5:∀{ds:List D} {ns:List Int},ints? ds=some ns->ds=ns.map .int
 | [],_,e=>by cases e;rfl
 | .int i::ds,_,e=>by obtain⟨ns,e1,e2⟩:=map_some (show(ints? ds).map (i::·)=_ from e);rw[<- e2,Y5 e1];rfl
 | .non::_,_,e|.bl _::_,_,e|.str _::_,_,e|.tup _::_,_,e|.lst _::_,_,e|.fz _::_,_,e|.row _::_,_,e=>by cases e
theorem Jc4:∀{ds:List D} {ns:List Bool},bls? ds=some ns->ds=ns.map .bl
 | [],_,e=>by cases e;rfl
 | .bl i::ds,_,e=>by obtain⟨ns,e1,e2⟩:=map_some (show(bls? ds).map (i::·)=_ from e);rw[<- e2,Jc4 e1];rfl
 | .non::_,_,e|.int _::_,_,e|.str _::_,_,e|.tup _::_,_,e|.lst _::_,_,e|.fz _::_,_,e|.row _::_,_,e=>by cases e
noncomputable def ZC:List Sl->Option Sl
 | [.sh (.str x)]=>if x.length<=sizeLine then some (.sh (.int x.length)) else none
 | [s]=>s.q.map fun ds=>.sh (.int ds.length)
 | _=>none
noncomputable def Ze:List Sl->Option Sl
 | [s]=>s.q.map fun ds=>.sh (.tup ds)
 | _=>none
noncomputable def Jb9:List Sl->Option Sl
 | [s]=>s.q.bind fun ds=>(ints? ds).map fun ns=>.sh (.int ns.sum)
 | _=>none
noncomputable def Jli:List Sl->Option Sl
 | [s]=>s.q.bind fun ds=>(bls? ds).map fun ns=>.sh (.bl (ns.any id))
 | _=>none
noncomputable def Jln:List Sl->Option Sl
 | [.sh (.int a),.sh (.int b)]=>some (.sh (.int (max a b)))
 | _=>none
noncomputable def Je0:List Sl->Option Sl
 | [.sh (.int a),.sh (.int b)]=>some (.sh (.int (min a b)))
 | _=>none
section
variable{K:Frag}{C:Addr}{Hs H0 H:Hp}
theorem RRL.one{vs:List V}{s:Sl}(r:RRL K C Hs H0 H vs [s]):∃v,vs=[v]/\RR K C Hs H0 H v s:=by
 cases r with
 | cons h t=>cases t;exact⟨_,rfl,h⟩
theorem RRL.two{vs:List V}{s t:Sl}(r:RRL K C Hs H0 H vs [s,t]):∃v w,vs=[v,w]/\RR K C Hs H0 H v s/\RR K C Hs H0 H w t:=by
 cases r with
 | cons h r=>cases r with
  | cons h' r=>cases r;exact⟨_,_,rfl,h,h'⟩
theorem Jbg:Wm K C (Jfs K) ZC:=by
 intro Hs H0 H xs as c Q i hs r e q;unfold ZC at e;split at e
 ·split at e
  ·cases e;obtain⟨v,rfl,r0⟩:=r.one;rw[RD.strI r0];exact Jmk (by assumption) (q _ _ _ (.refl i) (RD.int _))
  ·cases e
 ·obtain⟨v,rfl,r0⟩:=r.one;obtain⟨ds,e1,rfl⟩:=map_some e;obtain⟨l,xs,rfl,h,r1⟩:=r0.q i e1;have z:=q (.int ds.length) _ _ (.refl i) (RD.int _);rw[<- r1.1] at z;exact Jea h z
 ·cases e
theorem JfY:Wm K C (VY K) Ze:=by
 intro Hs H0 H xs as c Q i hs r e q;unfold Ze at e;split at e
 ·obtain⟨v,rfl,r0⟩:=r.one;obtain⟨ds,e1,rfl⟩:=map_some e;rename_i s
  have lst:∀{l:Addr} {ys:List V},v=.ref l->SqL K H l ys->RDL K C H0 ys ds->VY K [v] H Q:=fun {l ys} ev h r2=>by subst ev;exact⟨l,ys,rfl,.inl ⟨h,fun p hp=>ZU i hs hp r2 q⟩⟩
  cases s with
  | no=>cases e1
  | bo es=>cases e1;obtain⟨l,ys,h1,h2,h3⟩:=r0;exact lst h1 (.of h2) h3
  | own es=>cases e1;obtain⟨l,ys,h1,h2,_,_,h3⟩:=r0;exact lst h1 (.of h2) h3
  | bd _ _=>cases e1
  | bt _ _=>cases e1
  | od _ _=>cases e1
  | ot _ _=>cases e1
  | sh d=>cases d with
   | lst es=>cases e1;obtain⟨l,ys,h1,h2,h3⟩:=RD.lstI r0;exact lst h1 (.of (i _ _ h2)) h3
   | fz es=>cases e1;obtain⟨l,ys,h1,h2,h3⟩:=RD.fzI r0;exact lst h1 (i.seq h2) h3
   | tup es=>cases e1;obtain⟨l,ys,rfl,h2,h3⟩:=RD.tupI r0;exact⟨l,ys,rfl,.inr ⟨i.seqT h2,q _ _ _ (.refl i) r0⟩⟩
   | _=>cases e1
 ·cases e
theorem Jbh:Wm K C (JoR K) Jb9:=by
 intro Hs H0 H xs as c Q i hs r e q;unfold Jb9 at e;split at e
 ·obtain⟨v,rfl,r0⟩:=r.one;obtain⟨ds,e1,e⟩:=bind_some e;obtain⟨ns,e2,rfl⟩:=map_some e;obtain⟨l,ys,rfl,h,r1⟩:=r0.q i e1;rw[Y5 e2] at r1;have:=r1.ints;subst this;exact⟨l,ns,rfl,h,q _ _ _ (.refl i) (RD.int _)⟩
 ·cases e
theorem JpF:Wm K C (JoK K) Jli:=by
 intro Hs H0 H xs as c Q i hs r e q;unfold Jli at e;split at e
 ·obtain⟨v,rfl,r0⟩:=r.one;obtain⟨ds,e1,e⟩:=bind_some e;obtain⟨ns,e2,rfl⟩:=map_some e;obtain⟨l,ys,rfl,h,r1⟩:=r0.q i e1;rw[Jc4 e2] at r1;have:=r1.bls;subst this;exact⟨l,ns,rfl,h,q _ _ _ (.refl i) (RD.bl _)⟩
 ·cases e
theorem JpG:Wm K C JoM Jln:=by
 intro Hs H0 H xs as c Q i hs r e q;unfold Jln at e;split at e
 ·cases e;obtain⟨v,w,rfl,r1,r2⟩:=r.two;rw[RD.intI r1,RD.intI r2];exact Jj6 (q _ _ _ (.refl i) (RD.int _))
 ·cases e
theorem JiC:Wm K C JoN Je0:=by
 intro Hs H0 H xs as c Q i hs r e q;unfold Je0 at e;split at e
 ·cases e;obtain⟨v,w,rfl,r1,r2⟩:=r.two;rw[RD.intI r1,RD.intI r2];exact Jj7 (q _ _ _ (.refl i) (RD.int _))
 ·cases e
end

noncomputable def Jpq:Sl->Option Bool
 | .sh .non=>some false
 | .sh (.bl b)=>some b
 | .sh (.int i)=>some (i != 0)
 | .sh (.str y)=>if y.length<=sizeLine then some ((y.length:Int) != 0) else none
 | s=>s.q.map fun ds=>!ds.isEmpty
noncomputable def tTru?(a:Ev):En->Option Bool:=fun E=>(a E).bind Jpq
noncomputable def tyN:D->Option String
 | .non=>some "NoneType"
 | .bl _=>some "bool"
 | .int _=>some "int"
 | .str _=>some "str"
 | .tup _=>some "tuple"
 | .lst _=>some "list"
 | .fz _=>some "list"
 | .row _=>none
 | .dct _ _=>none
 | .dfz _ _=>none
 | .exc _=>none
noncomputable def JhL(t n:String):Bool:=t == n || (t == "bool" && n == "int")
noncomputable def JaV(n:String)(a:Ev):Ev:=fun E=>(a E).bind fun s=>s.d.bind fun d=>(tyN d).map fun t=>.sh (.bl (JhL t n))
section
variable{K:Frag}{C:Addr}{Hs H0 H:Hp}{te:TE}{ea:Ev}
theorem RDL.empty{xs:List V}{ds:List D}(r:RDL K C H xs ds):xs.isEmpty=ds.isEmpty:=by cases xs <;> cases ds <;> first|rfl|(have:=r.1;simp at this)
theorem U7(ha:SE K C te ea):ST K C (Jpk K te) (tTru? ea):=by
 intro B H0 H σ E k Q I e q;obtain⟨a,e1,e⟩:=bind_some e;refine ha B H0 H σ E a _ I e1 fun x H1 H1' s1 r1=>?_
 have seq:∀{a:Sl},RR K C H H1 H1' x a->a.q.map (fun ds=>!ds.isEmpty)=some k->∃k',JkV K x H1' k'/\Q k' H1':=fun {a} r1 e=>by
  obtain⟨ds,e2,rfl⟩:=map_some e;obtain⟨l,xs,rfl,h,r⟩:=r1.q s1.i e2;have z:=q _ _ s1;rw[<- r.empty] at z;rcases h with h|h
  ·exact⟨_,.inl ⟨xs,h,rfl⟩,z⟩
  ·exact⟨_,.inr (.inl ⟨xs,h,rfl⟩),z⟩
 unfold Jpq at e;split at e
 ·cases e;rw[RD.nonI r1];exact⟨_,rfl,q _ _ s1⟩
 ·cases e;rw[RD.blI r1];exact⟨_,rfl,q _ _ s1⟩
 ·cases e;rw[RD.intI r1];exact⟨_,rfl,q _ _ s1⟩
 ·split at e
  ·cases e;rw[RD.strI r1];exact⟨_,⟨by assumption,rfl⟩,q _ _ s1⟩
  ·cases e
 ·exact seq r1 e
theorem RD.ty{x:V}{d:D}{t:String}(r:RD K C H x d)(e:tyN d=some t):TyS K H x (.type t):=by
 cases r with
 | non=>cases e;exact .of .non
 | bl b=>cases e;exact .of (.bl b)
 | int i=>cases e;exact .of (.int i)
 | str i=>cases e;exact .of (.str i)
 | tup h _ _=>cases e;exact .sqT h
 | lst h _ _=>cases e;exact .sqL (.of h)
 | fz h _ _=>cases e;exact .sqL h
 | row _ _ _ _=>cases e
 | dct _ _ _ _=>cases e
 | dfz _ _ _ _=>cases e
 | exc _ _=>cases e
noncomputable def JcU(K:Frag)(n:String):Prop:=∀t∈["NoneType","bool","int","str","tuple","list"],kitOne K (.type t) (.type n)=some (JhL t n)
theorem JmR{d:D}{t:String}(e:tyN d=some t):t∈["NoneType","bool","int","str","tuple","list"]:=by cases d <;> cases e <;> simp
theorem JbF{n:String}(hk:JcU K n)(ha:SE K C te ea):SE K C (tCB (Jme K) (U9 te (U9 (tC (.ty n)) Wl))) (JaV n ea):=by
 intro B H0 H σ E c Q I e q;obtain⟨a,e1,e⟩:=bind_some e;obtain⟨d,e2,e⟩:=bind_some e;obtain⟨t,e3,rfl⟩:=map_some e;refine ha B H0 H σ E a _ I e1 fun x H1 H1' s1 r1=>?_
 exact JoV (RD.ty (r1.dat s1.i e2) e3) (hk t (JmR e3)) (q _ _ _ s1 (RD.bl _))
end
theorem Jgp{K:Frag}:JcU K "int":=fun t ht=>by simp only[Qh,Q0,or_false] at ht;rcases ht with rfl | rfl | rfl | rfl | rfl | rfl <;> kernel_rfl
theorem JdC{K:Frag}:JcU K "bool":=fun t ht=>by simp only[Qh,Q0,or_false] at ht;rcases ht with rfl | rfl | rfl | rfl | rfl | rfl <;> kernel_rfl
theorem JhM{K:Frag}:JcU K "tuple":=fun t ht=>by simp only[Qh,Q0,or_false] at ht;rcases ht with rfl | rfl | rfl | rfl | rfl | rfl <;> kernel_rfl
theorem Jjk{K:Frag}:JcU K "list":=fun t ht=>by simp only[Qh,Q0,or_false] at ht;rcases ht with rfl | rfl | rfl | rfl | rfl | rfl <;> kernel_rfl
end LE

namespace LE
open PySem L2 LR

mutual
inductive Pt where
 | nm (i:Nat)
 | tp (l:Pts)
inductive Pts where
 | nil
 | cons (p:Pt) (l:Pts)
end
mutual
noncomputable def Pt.bind:Pt->D->En->Option En
 | .nm i,d,E=>if i<E.length then some (E.set i (.sh d)) else none
 | .tp l,.tup ds,E=>l.bind ds E
 | .tp _,_,_=>none
noncomputable def Pts.bind:Pts->List D->En->Option En
 | .nil,[],E=>some E
 | .cons p l,d::ds,E=>(p.bind d E).bind fun E'=>l.bind ds E'
 | _,_,_=>none
end
mutual
noncomputable def Pt.slots:Pt->List Nat
 | .nm i=>[i]
 | .tp l=>l.slots
noncomputable def Pts.slots:Pts->List Nat
 | .nil=>[]
 | .cons p l=>p.slots++l.slots
end
mutual
theorem Pt.keep:∀{p:Pt} {d:D} {E E':En},p.bind d E=some E'->E'.length=E.length/\∀i,i∉p.slots->E'[i]?=E[i]?
 | .nm i,d,E,E',e=>by
  unfold Pt.bind at e;split at e
  ·cases e;refine⟨by simp,fun j hj=>?_⟩;rw[Q5,if_neg];intro z;exact hj (by simp[Pt.slots,z])
  ·cases e
 | .tp l,d,E,E',e=>by
  cases d with
  | tup ds=>exact Pts.keep (p:=l) (ds:=ds) (by simpa [Pt.bind] using e)
  | _=>simp[Pt.bind] at e
theorem Pts.keep:∀{p:Pts} {ds:List D} {E E':En},p.bind ds E=some E'->E'.length=E.length/\∀i,i∉p.slots->E'[i]?=E[i]?
 | .nil,[],E,E',e=>by simp[Pts.bind] at e;subst e;exact⟨rfl,fun _ _=>rfl⟩
 | .nil,_::_,_,_,e=>by simp[Pts.bind] at e
 | .cons _ _,[],_,_,e=>by simp[Pts.bind] at e
 | .cons p l,d::ds,E,E',e=>by rw[Pts.bind] at e;obtain⟨E1,e1,e2⟩:=bind_some e;obtain⟨h1,h2⟩:=Pt.keep e1;obtain⟨h3,h4⟩:=Pts.keep e2;refine⟨h3.trans h1,fun i hi=>?_⟩;simp[Pts.slots] at hi;rw[h4 i hi.2,h2 i hi.1]
end
section
variable(K:Frag)(C:Addr)
noncomputable def SG(g:TG)(p:Pt):Prop:=∀(B H0 H:Hp) (σ:St) (E E':En) (x:V) (d:D) (Q:St->Hp->Prop),EnvR K C B H0 H σ E->RD K C H0 x d->p.bind d E=some E'->(∀σ',EnvR K C B H0 H σ' E'->Q σ' H)->g x σ H Q
noncomputable def SGs(g:TGs)(p:Pts):Prop:=∀(B H0 H:Hp) (σ:St) (E E':En) (xs:List V) (ds:List D) (Q:St->Hp->Prop),EnvR K C B H0 H σ E->RDL K C H0 xs ds->p.bind ds E=some E'->(∀σ',EnvR K C B H0 H σ' E'->Q σ' H)->g xs σ H Q
end
section
variable{K:Frag}{C:Addr}
theorem EnvR.setSh{B H0 H:Hp}{σ:St}{E:En}{i:Nat}{v:V}{d:D}(I:EnvR K C B H0 H σ E)(hi:i<E.length)(r:RD K C H0 v d):EnvR K C B H0 H (σ.set i (some v)) (E.set i (.sh d)) :=
 I.put' (s:=.sh d) (.refl I.h) hi r rfl
theorem JT(i:Nat):SG K C (Wn i) (.nm i):=by
 intro B H0 H σ E E' x d Q I r e q;rw[Pt.bind] at e;split at e
 ·cases e;exact q _ (I.setSh (by assumption) r)
 ·cases e
theorem YS:SGs K C Jlu .nil:=by
 intro B H0 H σ E E' xs ds Q I r e q
 cases ds with
 | nil =>
  cases xs with
  | nil=>rw[Pts.bind] at e;cases e;exact⟨rfl,q σ I⟩
  | cons _ _=>have:=r.1;simp at this
 | cons _ _=>simp[Pts.bind] at e
theorem Ju{g:TG}{gs:TGs}{p:Pt}{ps:Pts}(h:SG K C g p)(hs:SGs K C gs ps):SGs K C (Jgj g gs) (.cons p ps):=by
 intro B H0 H σ E E' xs ds Q I r e q
 cases ds with
 | nil=>simp[Pts.bind] at e
 | cons d ds =>
  cases xs with
  | nil=>have:=r.1;simp at this
  | cons x xs=>rw[Pts.bind] at e;obtain⟨E1,e1,e2⟩:=bind_some e;exact⟨x,xs,rfl,h B H0 H σ E E1 x d _ I r.head e1 fun σ1 I1=>hs B H0 H σ1 E1 E' xs ds Q I1 r.tail e2 q⟩
theorem JqJ{n:Nat}{gs:TGs}{ps:Pts}(hn:∀(ds:List D) (E E':En),ps.bind ds E=some E'->ds.length=n)(hs:SGs K C gs ps):SG K C (Jhy K n gs) (.tp ps):=by
 intro B H0 H σ E E' x d Q I r e q
 cases d with
 | tup ds=>rw[Pt.bind] at e;obtain⟨a,xs,rfl,h,r⟩:=RD.tupI r;exact⟨a,xs,rfl,I.h.seqT h,by rw[r.1];exact hn ds E E' e,hs B H0 H σ E E' xs ds Q I r e q⟩
 | _=>simp[Pt.bind] at e
noncomputable def Pts.len:Pts->Nat
 | .nil=>0
 | .cons _ l=>l.len+1
theorem Pts.bind_len:∀{ps:Pts} {ds:List D} {E E':En},ps.bind ds E=some E'->ds.length=ps.len
 | .nil,[],_,_,_=>rfl
 | .nil,_::_,_,_,e=>by simp[Pts.bind] at e
 | .cons _ _,[],_,_,e=>by simp[Pts.bind] at e
 | .cons p l,d::ds,E,E',e=>by rw[Pts.bind] at e;obtain⟨E1,e1,e2⟩:=bind_some e;rw[Qp,Pts.bind_len e2];rfl
theorem YT{n:Nat}{gs:TGs}{ps:Pts}(hs:SGs K C gs ps)(hn:ps.len=n):SG K C (Jhy K n gs) (.tp ps):=JqJ (fun _ _ _ e=>(Pts.bind_len e).trans hn) hs
end

section
variable(K:Frag)(C:Addr)
noncomputable def JkQ(A:Hp)(J:It)(ds:List D)(H0:Hp):Prop:=∀H0' H',SStep A H0 H0' H'->(∀(i:Nat) (d:D),ds[i]?=some d->J.go i H'/\∀x H2,J.yld i H' x H2->∃H02,Step H' H0' H' H02 H2/\RD K C H02 x d)/\J.stop ds.length H'
noncomputable def SI(m:Bool)(wi:TI)(ev:En->Option (List D)):Prop:=∀(B H0 H:Hp) (σ:St) (E:En) (ds:List D) (R:It->Hp->Prop),EnvR K C B H0 H σ E->ev E=some ds ->
 (∀J H0' H',Step H H0 H H0' H'->JkQ K C (if m=true then H' else B) J ds H0'->R J H')->wi σ H R
end
noncomputable def Sl.it(m:Bool):Sl->Option (List D)
 | .bo ds=>if m=true then some ds else none
 | s=>s.q
noncomputable def iE(m:Bool)(a:Ev):En->Option (List D):=fun E=>(a E).bind (Sl.it m)
noncomputable def iV(i:Nat):En->Option (List D):=fun E=>match E[i]? with
 | some (.bo ds)=>some ds
 | some (.sh d)=>(Sl.sh d).q
 | _=>none
noncomputable def rng(lo:Int)(n:Nat):List D:=(Le n).map fun(i:Nat)=>.int (lo+(i:Int))
noncomputable def Jcj(a:Int):Bool:=Nat.ble a.natAbs 4611686018427387903
noncomputable def iR1(as:En->Option (List Sl)):En->Option (List D):=fun E=>(as E).bind fun ss=>match ss with
 | [.sh (.int n)]=>if Jcj n=true then some (rng 0 n.toNat) else none
 | _=>none
noncomputable def iR2(as:En->Option (List Sl)):En->Option (List D):=fun E=>(as E).bind fun ss=>match ss with
 | [.sh (.int a),.sh (.int b)]=>if (Jcj a && Jcj b)=true then some (rng a (b-a).toNat) else none
 | _=>none
section
variable{K:Frag}{C:Addr}{te:TE}{ea:Ev}{m:Bool}
theorem WU{A H0:Hp}{a:Addr}{xs:List V}{ds:List D}(hd:∀H0' H',SStep A H0 H0' H'->SqL K H' a xs)(r:RDL K C H0 xs ds):JkQ K C A (Itl K a) ds H0:=by intro H0' H' st;have hq:=hd H0' H' st;refine⟨fun i d e=>?_,⟨xs,hq,by rw[r.1];exact Qn _⟩⟩;obtain⟨x,e1,r1⟩:=r.get e;refine⟨⟨xs,x,hq,e1⟩,fun y H2 ⟨e2,e3⟩=>?_⟩;subst e2;have:=e3 xs hq;rw[e1] at this;cases this;exact⟨H0',.refl st.i,r1.mono st.z⟩
theorem JnZ{A H0:Hp}{a:Addr}{xs:List V}{ds:List D}(hd:∀H0' H',SStep A H0 H0' H'->SqT K H' a xs)(r:RDL K C H0 xs ds):JkQ K C A (Itt K a) ds H0:=by intro H0' H' st;have hq:=hd H0' H' st;refine⟨fun i d e=>?_,⟨xs,hq,by rw[r.1];exact Qn _⟩⟩;obtain⟨x,e1,r1⟩:=r.get e;refine⟨⟨xs,x,hq,e1⟩,fun y H2 ⟨e2,e3⟩=>?_⟩;subst e2;have:=e3 xs hq;rw[e1] at this;cases this;exact⟨H0',.refl st.i,r1.mono st.z⟩
theorem VR(ha:SE K C te ea):SI K C m (JhC K te) (iE m ea):=by
 intro B H0 H σ E ds R I e q;obtain⟨s,e1,e⟩:=bind_some e
 cases s with
 | no=>cases e
 | bd _ _=>cases e
 | bt _ _=>cases e
 | od _ _=>cases e
 | ot _ _=>cases e
 | bo es =>
  unfold Sl.it at e;dsimp only at e;split at e
  ·next hm=>cases e;refine .inl (ha B H0 H σ E _ _ I e1 fun x H1 H1' s1 r1=>?_);obtain⟨l,xs,rfl,h,r⟩:=r1;refine⟨l,rfl,⟨xs,.of h⟩,q _ _ _ s1 ?_⟩;rw[if_pos hm];exact WU (fun H0' H' st=>.of (st.b _ _ h)) r
  ·cases e
 | own es=>cases (show some es=some ds from e);refine .inl (ha B H0 H σ E _ _ I e1 fun x H1 H1' s1 r1=>?_);have f:=J2 (Hs:=H) s1.i;have r2:=RR.frz s1.i r1 rfl;obtain⟨l,xs,rfl,h,r⟩:=RD.lstI r2;exact⟨l,rfl,⟨xs,.of (f.i _ _ h)⟩,q _ _ _ (s1.comp f fun _ z=>z) (WU (fun H0' H' st=>.of (st.i _ _ (st.z _ _ h))) r)⟩
 | sh d =>
  cases d with
  | lst es=>cases (show some es=some ds from e);refine .inl (ha B H0 H σ E _ _ I e1 fun x H1 H1' s1 r1=>?_);obtain⟨l,xs,rfl,h,r⟩:=RD.lstI r1;exact⟨l,rfl,⟨xs,.of (s1.i _ _ h)⟩,q _ _ _ s1 (WU (fun H0' H' st=>.of (st.i _ _ (st.z _ _ h))) r)⟩
  | fz es=>cases (show some es=some ds from e);refine .inl (ha B H0 H σ E _ _ I e1 fun x H1 H1' s1 r1=>?_);obtain⟨l,xs,rfl,h,r⟩:=RD.fzI r1;exact⟨l,rfl,⟨xs,s1.i.seq h⟩,q _ _ _ s1 (WU (fun H0' H' st=>(st.z.trans st.i).seq h) r)⟩
  | tup es=>cases (show some es=some ds from e);refine .inr (ha B H0 H σ E _ _ I e1 fun x H1 H1' s1 r1=>?_);obtain⟨l,xs,rfl,h,r⟩:=RD.tupI r1;exact⟨l,rfl,⟨xs,s1.i.seqT h⟩,q _ _ _ s1 (JnZ (fun H0' H' st=>(st.z.trans st.i).seqT h) r)⟩
  | _=>cases (show none=some ds from e)
theorem Jib(i:Nat):SI K C false (JhC K (Zp i)) (iV i):=by
 intro B H0 H σ E ds R I e q;unfold iV at e;split at e
 ·next es h =>
  cases e;rcases I.at' i _ h with z|⟨v,h1,h2⟩
  ·cases z
  ·obtain⟨l,xs,rfl,hl,r⟩:=h2;refine .inl ⟨_,h1,l,rfl,⟨xs,.of (I.b _ _ hl)⟩,q _ _ _ (.refl I.h) (WU (fun H0' H' st=>.of (st.b _ _ hl)) r)⟩
 ·next d h=>refine VR (m:=false) (ea:=Jd i) (Jb i) B H0 H σ E ds R I ?_ q;show(Jd i E).bind _=_;unfold Jd;rw[h];exact e
 ·cases e
theorem Jmr{lo:Int}{n i:Nat}{d:D}(e:(rng lo n)[i]?=some d):i<n/\d=.int (lo+(i:Int)):=by
 unfold rng at e;rw[Qq] at e
 cases h:(Le n)[i]? with
 | none=>rw[h] at e;cases e
 | some j=>rw[h] at e;cases e;obtain⟨h1,h2⟩:=Qk.mp h;simp at h1 h2;subst h2;exact⟨h1,rfl⟩
theorem Jjg{A H0:Hp}{lo:Int}{n:Nat}:JkQ K C A (Itr lo n) (rng lo n) H0:=by intro H0' H' st;refine⟨fun i d e=>?_,by show n<=_;simp[rng]⟩;obtain⟨h1,rfl⟩:=Jmr e;refine⟨h1,fun x H2 ⟨e1,e2⟩=>?_⟩;subst e1 e2;exact⟨H0',.refl st.i,.int _⟩
theorem VH{a:Int}(h:Jcj a=true):-(2 ^ 62)<=a/\a<2 ^ 62:=by unfold Jcj at h;rw[KH] at h;omega
theorem Jqs{t:TA}{ev:En->Option (List Sl)}(ha:SA K C t ev):SI K C m (Jm9 t) (iR1 ev):=by
 intro B H0 H σ E ds R I e q;obtain⟨ss,e1,e⟩:=bind_some e;split at e
 ·split at e
  ·next hn =>
   cases e;refine ha B H0 H σ E _ _ I e1 fun vs H1 H1' s1 r1=>?_
   obtain⟨v,rfl,r⟩:=r1.one;rw[RD.intI r];exact⟨_,rfl,(VH hn).1,(VH hn).2,q _ _ _ s1 Jjg⟩
  ·cases e
 ·cases e
theorem Jqt{t:TA}{ev:En->Option (List Sl)}(ha:SA K C t ev):SI K C m (Jna t) (iR2 ev):=by
 intro B H0 H σ E ds R I e q;obtain⟨ss,e1,e⟩:=bind_some e;split at e
 ·split at e
  ·next hn =>
   cases e;rw[QM] at hn;refine ha B H0 H σ E _ _ I e1 fun vs H1 H1' s1 r1=>?_
   obtain⟨v,w,rfl,r,r'⟩:=r1.two;rw[RD.intI r,RD.intI r'];exact⟨_,_,rfl,⟨(VH hn.1).1,(VH hn.1).2,(VH hn.2).1,(VH hn.2).2⟩,q _ _ _ s1 Jjg⟩
  ·cases e
 ·cases e
end

noncomputable def yes?:En->Option Bool:=fun _=>some true
noncomputable def WT(imp:List (Option Nat))(E:En):En:=imp.map fun o=>match o with
 | none=>.no
 | some k=>match E[k]? with
  | some (.own ds)=>.bo ds
  | some (.od ks ds)=>.bd ks ds
  | some (.ot ks ds)=>.bt ks ds
  | some s=>s
  | none=>.no
noncomputable def Vf(p:Pt)(c:En->Option Bool)(a:Ev)(E1:En):List D->Option (List D)
 | []=>some []
 | d::ds=>(p.bind d E1).bind fun E2=>(c E2).bind fun k=>if k=true then(a E2).bind fun s=>s.frz.bind fun y=>(Vf p c a E1 ds).bind fun ys=>some (y::ys) else Vf p c a E1 ds
noncomputable def Ua(it:En->Option (List D))(p:Pt)(c:En->Option Bool)(a:Ev)(imp:List (Option Nat)):Ev:=fun E=>(it E).bind fun ds=>if ds.length<=sizeLine then(Vf p c a (WT imp E) ds).map .own else none
section
variable{K:Frag}{C:Addr}
theorem Vj:ST K C Jpm yes?:=fun _ _ _ _ _ _ _ I e q=>by cases e;exact q _ _ (.refl I.h)
theorem Jlc{B H0 H:Hp}{σ:St}{E:En}{imp:List (Option Nat)}(I:EnvR K C B H0 H σ E):EnvR K C H H0 H (Jag imp σ) (WT imp E):=by
 have get:∀(i:Nat) (s:Sl),(WT imp E)[i]?=some s->s=.no\/∃v,(Jag imp σ)[i]?=some (some v)/\RSl K C H H0 H v s/\YU s=false:=fun i s e=>by
  unfold WT at e;unfold Jag;rw[Qq] at e ⊢
  cases h:imp[i]? with
  | none=>rw[h] at e;cases e
  | some o =>
   rw[h] at e
   cases o with
   | none=>cases e;exact .inl rfl
   | some k =>
    have e':(match E[k]? with|some (.own ds)=>Sl.bo ds|some (.od ks ds)=>Sl.bd ks ds|some (.ot ks ds)=>Sl.bt ks ds|some s=>s|none=>.no)=s:=QH e
    cases hE:E[k]? with
    | none=>rw[hE] at e';exact .inl e'.symm
    | some s' =>
     rw[hE] at e';rcases I.at' k s' hE with z|⟨v,h1,h2⟩
     ·subst z;exact .inl e'.symm
     ·have g:(σ[k]?).join=some v:=by rw[h1];rfl
      cases s' with
      | no=>exact .inl e'.symm
      | sh d=>dsimp only at e';subst e';exact .inr ⟨v,by show some ((σ[k]?).join)=_;rw[g],h2,rfl⟩
      | bo ds=>dsimp only at e';subst e';obtain⟨l,xs,q1,q2,q3⟩:=h2;exact .inr ⟨v,by show some ((σ[k]?).join)=_;rw[g],⟨l,xs,q1,I.b _ _ q2,q3⟩,rfl⟩
      | own ds=>dsimp only at e';subst e';obtain⟨l,xs,q1,q2,_,_,q3⟩:=h2;exact .inr ⟨v,by show some ((σ[k]?).join)=_;rw[g],⟨l,xs,q1,q2,q3⟩,rfl⟩
      | bd ks ds=>dsimp only at e';subst e';obtain⟨l,xs,q1,q2,q3⟩:=h2;exact .inr ⟨v,by show some ((σ[k]?).join)=_;rw[g],⟨l,xs,q1,I.b _ _ q2,q3⟩,rfl⟩
      | bt ks ds=>dsimp only at e';subst e';obtain⟨l,xs,q1,q2,q3⟩:=h2;exact .inr ⟨v,by show some ((σ[k]?).join)=_;rw[g],⟨l,xs,q1,I.b _ _ q2,q3⟩,rfl⟩
      | od ks ds=>dsimp only at e';subst e';obtain⟨l,xs,q1,q2,_,_,q3⟩:=h2;exact .inr ⟨v,by show some ((σ[k]?).join)=_;rw[g],⟨l,xs,q1,q2,q3⟩,rfl⟩
      | ot ks ds=>dsimp only at e';subst e';obtain⟨l,xs,q1,q2,_,_,q3⟩:=h2;exact .inr ⟨v,by show some ((σ[k]?).join)=_;rw[g],⟨l,xs,q1,q2,q3⟩,rfl⟩
 refine⟨Same.refl _,I.h,by simp[Jag,WT],fun i s e=>?_,fun i j s t v hij e1 e2 o1 o2=>?_⟩
 ·rcases get i s e with z|⟨v,h1,h2,_⟩
  ·exact .inl z
  ·exact .inr ⟨v,h1,h2⟩
 ·rcases get i _ e1 with z|⟨v,h1,h2,h3⟩
  ·subst z;cases o1
  ·rw[h3] at o1;cases o1
theorem Y8{wi:TI}{g:TG}{tt:TT}{te:TE}{imp:List (Option Nat)}{it:En->Option (List D)}{p:Pt}{c:En->Option Bool}{a:Ev}(hi:SI K C true wi it)(hg:SG K C g p)(hc:ST K C tt c)(ha:SE K C te a)
 (hp:(p.slots.all fun i=>match imp[i]? with|some none=>true|_=>false)=true):SE K C (Jg8 wi g tt te imp) (Ua it p c a imp):=by
 intro B H0 H σ E r Q I e q;obtain⟨ds,e1,e⟩:=bind_some e;split at e
 ·next hl =>
  obtain⟨es,e2,rfl⟩:=map_some e;refine hi B H0 H σ E ds _ I e1 fun J H1 H1' s1 ok=>?_
  rw[if_pos rfl] at ok;have I1:EnvR K C H1' H1 H1' (Jag imp σ) (WT imp E):=Jlc (I.step s1)
  -- the loop: what was gathered,what comes
  refine⟨fun i m ys σ' H'=>m=ds.length-i/\i<=ds.length/\∃H0' gs rs,EnvR K C H1' H0' H' σ' (WT imp E)/\Step H1' H1 H1' H0' H'/\RDL K C H0' ys gs/\Vf p c a (WT imp E) (ds.drop i)=some rs/\es=gs++rs/\gs.length<=i,
   ⟨ds.length,by simp,GJ _,H1,[],es,I1,.refl s1.i,.nil,e2,rfl,Qn _⟩,?_⟩
  rintro i m ys σ' H' ⟨rfl,hi',H0',gs,rs,I',st,rys,er,ees,hgl⟩;have stop:=ok H0' H' ⟨st.h,st.z,st.n,st.i⟩
  by_cases hlt:i<ds.length
  ·have hd:ds[i]?=some ds[i]:=by simp[hlt]
   obtain⟨go,yl⟩:=stop.1 i _ hd;refine .inr ⟨go,by rw[rys.1];omega,fun ys' σ2 H2=>∃H02 gs rs,EnvR K C H1' H02 H2 σ2 (WT imp E)/\Step H1' H1 H1' H02 H2/\RDL K C H02 ys' gs/\Vf p c a (WT imp E) (ds.drop (i+1))=some rs/\es=gs++rs/\gs.length<=i+1,
    fun ys' σ2 H2 h=>⟨ds.length-(i+1),by omega,rfl,hlt,h⟩,fun x H2 y=>?_⟩
   obtain⟨H02,st2,rx⟩:=yl x H2 y;rw[Lp hlt,Vf] at er;obtain⟨E2,b1,er⟩:=bind_some er;obtain⟨k,b2,er⟩:=bind_some er;refine hg H1' H02 H2 σ' (WT imp E) E2 x _ _ (I'.step st2) rx b1 fun σ2 I2=>?_
   have back:∀{H03 H3:Hp},EnvR K C H1' H03 H3 σ2 E2->EnvR K C H1' H03 H3 σ2 (WT imp E):=fun {H03 H3} J=>by
    obtain⟨k1,k2⟩:=Pt.keep b1;refine J.sub k1.symm fun j s ej=>?_
    by_cases hj:j∈p.slots
    ·have:=Ll.mp hp j hj
     have ej':=ej;unfold WT at ej';rw[Qq] at ej'
     cases hm:imp[j]? with
     | none=>rw[hm] at this;cases this
     | some o =>
      rw[hm] at this ej'
      cases o with
      | none=>cases ej';exact .inl rfl
      | some _=>cases this
    ·exact .inr (by rw[k2 j hj];exact ej)
   refine hc H1' H02 H2 σ2 E2 k _ I2 b2 fun H03 H3 st3=>?_
   have st13:Step H1' H1 H1' H03 H3:=(st.trans st2).trans st3
   cases k with
   | false=>rw[if_neg (by simp)];rw[if_neg (by simp)] at er;exact⟨H03,gs,rs,back (I2.step st3),st13,rys.mono (st2.z.trans st3.z),er,ees,by omega⟩
   | true =>
    rw[if_pos rfl];rw[if_pos rfl] at er;obtain⟨s,b3,er⟩:=bind_some er;obtain⟨y',b4,er⟩:=bind_some er;obtain⟨ws,b5,er⟩:=bind_some er;cases er;refine ha H1' H03 H3 σ2 E2 s _ (I2.step st3) b3 fun v H04 H4 st4 r4=>?_
    have f:=J2 (Hs:=H3) st4.i
    have st5:Step H3 H03 H3 (Ya H3 H04 H4) H4:=st4.comp f fun _ z=>z
    exact⟨_,gs++[y'],ws,back ((I2.step st3).step st5),st13.trans st5,(rys.mono ((st2.z.trans st3.z).trans st5.z)).snoc (RR.frz st4.i r4 b4),b5,by rw[ees,GU];rfl,by rw[Qu];simp;exact hgl⟩
  ·have e3:i=ds.length:=by omega
   subst e3;refine .inl ⟨stop.2,by rw[rys.1];omega,fun p hp=>?_⟩;rw[List.drop_length,Vf] at er;cases er;rw[Kz] at ees;subst ees;exact Vi (Hs:=H) st.i (s1.h.trans st.h) hp rys fun v H2 H2' s2 r2=>q v H2 H2' ((s1.trans st).comp s2 fun _ z=>z) r2
 ·cases e
end
end LE

namespace LE
open PySem L2 LR

inductive Out where
 | nx (E:En)|rt (r:Sl)|bk (E:En)|ct (E:En)
noncomputable abbrev Es:=En->Option Out
section
variable(K:Frag)(C:Addr)
noncomputable def Fin(B H0:Hp)(D:Ends):Out->Prop
 | .nx E=>∀σ' H0' H',SStep B H0 H0' H'->EnvR K C B H0' H' σ' E->D.nx σ' H'
 | .bk E=>∀σ' H0' H',SStep B H0 H0' H'->EnvR K C B H0' H' σ' E->D.bk σ' H'
 | .ct E=>∀σ' H0' H',SStep B H0 H0' H'->EnvR K C B H0' H' σ' E->D.ct σ' H'
 | .rt r=>∀v H0' H',SStep B H0 H0' H'->RR K C B H0' H' v r->D.rt v H'
noncomputable def SS(ts:TS)(ev:Es):Prop:=∀(B H0 H:Hp) (σ:St) (E:En) (o:Out) (D:Ends),EnvR K C B H0 H σ E->ev E=some o->Fin K C B H0 D o->ts D σ H
end
noncomputable def Yb:Es:=fun E=>some (.nx E)
noncomputable def Jef(b:Es):Out->Option Out
 | .nx E=>b E
 | .rt r=>some (.rt r)
 | .bk E=>some (.bk E)
 | .ct E=>some (.ct E)
noncomputable def Jt(a b:Es):Es:=fun E=>(a E).bind (Jef b)
noncomputable def xIf(c:En->Option Bool)(a b:Es):Es:=fun E=>(c E).bind fun k=>if k=true then a E else b E
noncomputable def keep?:Sl->Option Sl
 | .sh d=>some (.sh d)
 | .own ds=>some (.own ds)
 | .od ks ds=>some (.od ks ds)
 | .ot ks ds=>some (.ot ks ds)
 | _=>none
noncomputable def W7(i:Nat)(a:Ev):Es:=fun E=>(a E).bind fun s=>(keep? s).bind fun s=>if i<E.length then some (.nx (E.set i s)) else none
noncomputable def JE(i:Nat)(a:Ev):Es:=fun E=>(a E).bind fun s=>s.frz.bind fun d=>if i<E.length then some (.nx (E.set i (.sh d))) else none
noncomputable def JeC(a:Ev):Es:=fun E=>(a E).map fun _=>.nx E
noncomputable def Yl(a:Ev):Es:=fun E=>(a E).bind fun s=>(keep? s).map .rt
noncomputable def Vb(i:Nat):Es:=fun E=>match E[i]? with
 | some (.sh d)=>some (.rt (.sh d))
 | some (.own ds)=>some (.rt (.own ds))
 | some (.od ks ds)=>some (.rt (.od ks ds))
 | _=>none
noncomputable def V3:Es:=fun _=>none
noncomputable def Ja2(i:Nat)(a:Ev):Es:=fun E=>match E[i]? with
 | some (.own ds)=>(a E).bind fun s=>s.frz.bind fun d=>if ds.length<sizeLine then some (.nx (E.set i (.own (ds++[d])))) else none
 | _=>none
noncomputable def JfN(i:Nat)(a:Ev):Es:=fun E=>match E[i]? with
 | some (.own ds)=>(a E).bind fun s=>s.m.bind fun es=>if ds.length+es.length<=sizeLine then some (.nx (E.set i (.own (ds++es)))) else none
 | _=>none
noncomputable def JmV(i j:Nat)(f:Sl->Option Sl):Es:=fun E=>match E[i]? with
 | some (.own ds)=>(ds[ds.length-1]?).bind fun d=>(f (.sh d)).bind fun s=>(sh? s).bind fun d'=>if j<E.length then some (.nx ((E.set i (.own ds.dropLast)).set j (.sh d'))) else none
 | _=>none
noncomputable def JeA(f:Int->Int->Int)(i:Nat)(a:Ev):Es:=fun E=>match E[i]? with
 | some (.sh (.int x))=>(a E).bind fun s=>match s with
  | .sh (.int y)=>some (.nx (E.set i (.sh (.int (f x y)))))
  | _=>none
 | _=>none
noncomputable def Yo(p:Pt)(b:Es):List D->Es
 | [],E=>some (.nx E)
 | d::ds,E=>(p.bind d E).bind fun E1=>(b E1).bind fun o=>match o with
  | .nx E2=>Yo p b ds E2
  | .ct E2=>Yo p b ds E2
  | .bk E2=>some (.nx E2)
  | .rt r=>some (.rt r)
noncomputable def VN(it:En->Option (List D))(p:Pt)(b:Es):Es:=fun E=>(it E).bind fun ds=>Yo p b ds E
noncomputable def Y9(c:En->Option Bool)(b:Es):Nat->Es
 | 0,_=>none
 | n+1,E=>(c E).bind fun k=>if k=true then(b E).bind fun o=>match o with
  | .nx E2=>Y9 c b n E2
  | .ct E2=>Y9 c b n E2
  | .bk E2=>some (.nx E2)
  | .rt r=>some (.rt r)
  else some (.nx E)
section
variable{K:Frag}{C:Addr}{B H0 H H0' H':Hp}{σ:St}{E:En}{D:Ends}{o:Out}{te:TE}{ea:Ev}{t u:TS}{et eu:Es}
theorem Fin.step(st:SStep B H0 H0' H')(f:Fin K C B H0 D o):Fin K C B H0' D o:=by
 cases o with
 | nx E=>exact fun σ' H1 H1' s1 I=>f σ' H1 H1' (st.trans s1) I
 | bk E=>exact fun σ' H1 H1' s1 I=>f σ' H1 H1' (st.trans s1) I
 | ct E=>exact fun σ' H1 H1' s1 I=>f σ' H1 H1' (st.trans s1) I
 | rt r=>exact fun v H1 H1' s1 I=>f v H1 H1' (st.trans s1) I
theorem EnvR.ss(I:EnvR K C B H0 H σ E):SStep B H0 H0 H:=.refl I.b I.h
theorem Yu:SS K C Jkq Yb:=fun _ _ _ _ _ _ _ I e f=>by cases e;exact f _ _ _ I.ss I
theorem W8:SS K C Jkp V3:=fun _ _ _ _ _ _ _ _ e _=>by cases e
theorem Jq(ht:SS K C t et)(hu:SS K C u eu):SS K C (Jpj t u) (Jt et eu):=by
 intro B H0 H σ E o D I e f;obtain⟨o1,e1,e⟩:=bind_some e;refine ht B H0 H σ E o1 _ I e1 ?_
 cases o1 with
 | nx E1=>exact fun σ1 H1 H1' s1 I1=>hu B H1 H1' σ1 E1 o D I1 e (f.step s1)
 | bk E1=>cases e;exact f
 | ct E1=>cases e;exact f
 | rt r=>cases e;exact f
theorem Vm{c:TT}{ec:En->Option Bool}(hc:ST K C c ec)(ht:SS K C t et)(hu:SS K C u eu):SS K C (Jph c t u) (xIf ec et eu):=by
 intro B H0 H σ E o D I e f;obtain⟨k,e1,e⟩:=bind_some e;refine hc B H0 H σ E k _ I e1 fun H1 H1' s1=>?_
 cases k with
 | true=>rw[if_pos rfl];exact ht B H1 H1' σ E o D (I.step s1) e (f.step (s1.ss I.b))
 | false=>rw[if_neg (by simp)];exact hu B H1 H1' σ E o D (I.step s1) e (f.step (s1.ss I.b))
theorem Jbv{s r:Sl}(e:keep? s=some r):s=r/\JnY r=false:=by cases s <;> cases e <;> exact⟨rfl,rfl⟩
theorem V5{i:Nat}(ha:SE K C te ea):SS K C (Jif te (Wn i)) (W7 i ea):=by
 intro B H0 H σ E o D I e f;obtain⟨s,e1,e⟩:=bind_some e;obtain⟨s',e2,e⟩:=bind_some e;obtain⟨rfl,hb⟩:=Jbv e2;split at e
 ·cases e;exact ha B H0 H σ E _ _ I e1 fun v H1 H1' s1 r1=>f _ _ _ (s1.ss I.b) (I.put' s1 (by assumption) r1 hb)
 ·cases e
theorem JM{i:Nat}(ha:SE K C te ea):SS K C (Jif te (Wn i)) (JE i ea):=by
 intro B H0 H σ E o D I e f;obtain⟨s,e1,e⟩:=bind_some e;obtain⟨d,e2,e⟩:=bind_some e;split at e
 ·cases e;refine ha B H0 H σ E _ _ I e1 fun v H1 H1' s1 r1=>?_
  have s2:Step H H0 H (Ya H H1 H1') H1':=s1.comp (J2 s1.i) fun _ z=>z
  exact f _ _ _ (s2.ss I.b) ((I.step s2).setSh (by assumption) (RR.frz s1.i r1 e2))
 ·cases e
theorem JfO(ha:SE K C te ea):SS K C (ZB te) (JeC ea):=by intro B H0 H σ E o D I e f;obtain⟨s,e1,rfl⟩:=map_some e;exact ha B H0 H σ E _ _ I e1 fun v H1 H1' s1 r1=>f _ _ _ (s1.ss I.b) (I.step s1)
theorem J9(ha:SE K C te ea):SS K C (Jpi te) (Yl ea):=by intro B H0 H σ E o D I e f;obtain⟨s,e1,e⟩:=bind_some e;obtain⟨s',e2,rfl⟩:=map_some e;obtain⟨rfl,hb⟩:=Jbv e2;exact ha B H0 H σ E _ _ I e1 fun v H1 H1' s1 r1=>f _ _ _ (s1.ss I.b) (r1.weak fun a z=>Same.free I.b z)
theorem V4{i:Nat}:SS K C (Jpi (Zp i)) (Vb i):=by
 intro B H0 H σ E o D I e f;unfold Vb at e;split at e
 ·next d h =>
  cases e;rcases I.at' i _ h with z|⟨v,h1,h2⟩
  ·cases z
  ·exact⟨v,h1,f _ _ _ I.ss h2⟩
 ·next d h =>
  cases e;rcases I.at' i _ h with z|⟨v,h1,h2⟩
  ·cases z
  ·exact⟨v,h1,f _ _ _ I.ss h2⟩
 ·next d h =>
  cases e;rcases I.at' i _ h with z|⟨v,h1,h2⟩
  ·cases z
  ·exact⟨v,h1,f _ _ _ I.ss h2⟩
 ·cases e
theorem EnvR.mutG{i:Nat}{l:Addr}{t t':Sl}{o':HO}(I:EnvR K C B H0 H σ E)(e1:E[i]?=some t)(ho:YU t=true)(ho':YU t'=true)(e2:σ[i]?=some (some (.ref l)))(r:RSl K C B H0 (upd H l o') (.ref l) t') :
 EnvR K C B H0 (upd H l o') σ (E.set i t'):=by
 obtain⟨h1,h2,h3⟩:=I.ownG e1 ho e2;have hi:i<E.length:=(Qk.mp e1).1;have nb:∀{A:Hp},A l=none->Same A H->Same A (upd H l o'):=fun {A} n s a o e=>by rw[Jm (Jw e n)];exact s a o e
 refine⟨nb h3 I.b,nb h2 I.h,by simp[I.len],fun j s e=>?_,fun j k s1 s2 v hjk a1 a2 p1 p2 a3=>?_⟩
 ·rw[Q5] at e
  by_cases hj:i=j
  ·subst hj;rw[if_pos rfl,if_pos hi] at e;cases e;exact .inr ⟨_,e2,r⟩
  ·rw[if_neg hj] at e;rcases I.at' j s e with z|⟨v,q1,q2⟩
   ·exact .inl z
   ·refine .inr ⟨v,q1,?_⟩
    cases s with
    | no=>trivial
    | sh d=>exact q2
    | bo es=>exact q2
    | bd ks es=>exact q2
    | bt ks es=>exact q2
    | own es =>
     obtain⟨l',ys,p1,p2,p3,p4,p5⟩:=q2;subst p1;have:l'≠l:=fun z=>by subst z;exact I.sep i j t _ (.ref l') hj e1 e ho rfl e2 q1
     exact⟨l',ys,rfl,by rw[Jm this];exact p2,p3,p4,p5⟩
    | od ks es =>
     obtain⟨l',ys,p1,p2,p3,p4,p5⟩:=q2;subst p1;have:l'≠l:=fun z=>by subst z;exact I.sep i j t _ (.ref l') hj e1 e ho rfl e2 q1
     exact⟨l',ys,rfl,by rw[Jm this];exact p2,p3,p4,p5⟩
    | ot ks es =>
     obtain⟨l',ys,p1,p2,p3,p4,p5⟩:=q2;subst p1;have:l'≠l:=fun z=>by subst z;exact I.sep i j t _ (.ref l') hj e1 e ho rfl e2 q1
     exact⟨l',ys,rfl,by rw[Jm this];exact p2,p3,p4,p5⟩
 ·have own:∀{j:Nat} {u:Sl},(E.set i t')[j]?=some u->YU u=true->∃g,E[j]?=some g/\YU g=true:=fun {j u} a w=>by
   rw[Q5] at a
   by_cases hj:i=j
   ·subst hj;exact⟨t,e1,ho⟩
   ·rw[if_neg hj] at a;exact⟨_,a,w⟩
  obtain⟨g1,b1,c1⟩:=own a1 p1;obtain⟨g2,b2,c2⟩:=own a2 p2;exact I.sep j k g1 g2 v hjk b1 b2 c1 c2 a3
theorem EnvR.mut{i:Nat}{l:Addr}{ds ds':List LE.D}{xs xs':List V}(I:EnvR K C B H0 H σ E)(e1:E[i]?=some (.own ds))(e2:σ[i]?=some (some (.ref l)))(r:RDL K C H0 xs' ds') :
 EnvR K C B H0 (upd H l (.lst xs')) σ (E.set i (.own ds')):=by
 obtain⟨_,h2,h3⟩:=I.ownG e1 rfl e2;exact I.mutG (t':=.own ds') e1 rfl rfl e2 ⟨l,xs',rfl,Jv,h2,h3,r⟩
theorem EnvR.slot{i:Nat}{ds:List LE.D}(I:EnvR K C B H0 H σ E)(e1:E[i]?=some (.own ds)):∃l xs,σ[i]?=some (some (.ref l))/\H l=some (.lst xs)/\H0 l=none/\B l=none/\RDL K C H0 xs ds:=by
 rcases I.at' i _ e1 with z|⟨v,h1,l,xs,rfl,h2,h3,h4,h5⟩
 ·cases z
 ·exact⟨l,xs,h1,h2,h3,h4,h5⟩
theorem JbM{i:Nat}(ha:SE K C te ea):SS K C (ZB (tBM K "list" WX (Zp i) (U9 te Wl))) (Ja2 i ea):=by
 intro B H0 H σ E o D I e f;unfold Ja2 at e;split at e
 ·next ds h =>
  obtain⟨s,e1,e⟩:=bind_some e;obtain⟨d,e2,e⟩:=bind_some e;split at e
  ·next hz =>
   cases e;obtain⟨l,xs,g1,g2,g3,g4,g5⟩:=I.slot h;refine⟨_,g1,.inl ⟨rfl,_,.of g2⟩,?_⟩;refine ha B H0 H σ E _ _ I e1 fun v H1 H1' s1 r1=>?_
   have s2:Step H H0 H (Ya H H1 H1') H1':=s1.comp (J2 s1.i) fun _ z=>z
   have I2:=I.step s2
   have m:=I2.mut (xs:=xs) h g1 ((g5.mono s2.z).snoc (RR.frz s1.i r1 e2));exact⟨l,xs,v,rfl,rfl,s2.h _ _ g2,by rw[g5.1];exact hz,f _ _ _ ⟨m.b,s2.z,(s2.ss I.b).n,m.h⟩ m⟩
  ·cases e
 ·cases e
theorem JkN{i:Nat}(ha:SE K C te ea):SS K C (ZB (tBM K "list" JgP (Zp i) (U9 te Wl))) (JfN i ea):=by
 intro B H0 H σ E o D I e f;unfold JfN at e;split at e
 ·next ds h =>
  obtain⟨s,e1,e⟩:=bind_some e;obtain⟨es,e2,e⟩:=bind_some e;split at e
  ·next hz =>
   cases e;obtain⟨l,xs,g1,g2,g3,g4,g5⟩:=I.slot h;refine⟨_,g1,.inl ⟨rfl,_,.of g2⟩,?_⟩;refine ha B H0 H σ E _ _ I e1 fun v H1 H1' s1 r1=>?_
   have I2:=I.step s1;obtain⟨l',ys,rfl,k1,k2⟩:=r1.m s1.i e2
   have m:=I2.mut (xs:=xs) h g1 ((g5.mono s1.z).append k2);exact⟨l,l',xs,ys,rfl,rfl,s1.h _ _ g2,k1,by rw[g5.1,k2.1];exact hz,f _ _ _ ⟨m.b,s1.z,(s1.ss I.b).n,m.h⟩ m⟩
  ·cases e
 ·cases e
theorem JqC{i j:Nat}:SS K C (Jif (JmL K "list" Jqj (Zp i)) (Wn j)) (JmV i j some):=by
 intro B H0 H σ E o D I e f;unfold JmV at e;split at e
 ·next ds h =>
  obtain⟨d,e1,e⟩:=bind_some e;obtain⟨s,e2,e⟩:=bind_some e;cases e2;obtain⟨d',e3,e⟩:=bind_some e;cases e3;split at e
  ·next hj =>
   cases e;obtain⟨l,xs,g1,g2,g3,g4,g5⟩:=I.slot h;rw[<- g5.1] at e1;obtain⟨y,e4,r4⟩:=g5.get e1;have hd:RDL K C H0 xs.dropLast ds.dropLast:=by rw[Rc,Rc,g5.1];exact g5.take _
   have m:=I.mut (xs:=xs) h g1 hd;refine⟨_,g1,.inl ⟨rfl,_,.of g2⟩,l,xs,y,rfl,rfl,g2,e4,?_⟩;exact f _ _ _ ⟨m.b,Same.refl _,fun _ _ e=>.inl e,m.h⟩ (m.setSh (by simpa using hj) r4)
  ·cases e
 ·cases e
theorem JkL{i:Nat}{g:Int->Int->Int}(ha:SE K C te ea):SS K C (Jqw i te (ipI g)) (JeA g i ea):=by
 intro B H0 H σ E o D I e f;unfold JeA at e;split at e
 ·next x h =>
  obtain⟨s,e1,e⟩:=bind_some e;split at e
  ·cases e;rcases I.at' i _ h with z|⟨v,h1,h2⟩
   ·cases z
   ·have hi:i<E.length:=(Qk.mp h).1;refine⟨v,h1,ha B H0 H σ E _ _ I e1 fun w H1 H1' s1 r1=>⟨_,_,RD.intI h2,RD.intI r1,f _ _ _ (s1.ss I.b) ((I.step s1).setSh hi (.int _))⟩⟩
  ·cases e
 ·cases e
theorem EnvR.slotD{i:Nat}{ks:List Int}{ds:List LE.D}(I:EnvR K C B H0 H σ E)(e1:E[i]?=some (.od ks ds)):∃l xs,σ[i]?=some (some (.ref l))/\H l=some (dkO ks xs)/\H0 l=none/\B l=none/\ks.length=ds.length/\RDL K C H0 xs ds:=by
 rcases I.at' i _ e1 with z|⟨v,h1,l,xs,rfl,h2,h3,h4,h5⟩
 ·cases z
 ·exact⟨l,xs,h1,h2,h3,h4,h5⟩
theorem Vc{wi:TI}{g:TG}{it:En->Option (List LE.D)}{p:Pt}(hi:SI K C false wi it)(hg:SG K C g p)(ht:SS K C t et):SS K C (JmM wi g t) (VN it p et):=by
 intro B H0 H σ E o D I e f;obtain⟨ds,e1,e⟩:=bind_some e;refine hi B H0 H σ E ds _ I e1 fun J H1 H1' s1 ok=>?_
 rw[if_neg (by simp)] at ok;refine⟨fun i m σ' H'=>m=ds.length-i/\i<=ds.length/\∃H0' E',EnvR K C B H0' H' σ' E'/\SStep B H1 H0' H'/\Yo p et (ds.drop i) E'=some o,
  ⟨ds.length,by simp,GJ _,H1,E,I.step s1,.refl (I.b.trans s1.h) s1.i,e⟩,?_⟩
 rintro i m σ' H' ⟨rfl,hi',H0',E',I',st,er⟩;have stop:=ok H0' H' st;have f':Fin K C B H0' D o:=(f.step (s1.ss I.b)).step st
 by_cases hlt:i<ds.length
 ·have hd:ds[i]?=some ds[i]:=by simp[hlt]
  obtain⟨go,yl⟩:=stop.1 i _ hd;refine .inr ⟨go,fun σ2 H2=>∃H02 E2,EnvR K C B H02 H2 σ2 E2/\SStep B H1 H02 H2/\Yo p et (ds.drop (i+1)) E2=some o,fun σ2 H2 h=>⟨ds.length-(i+1),by omega,rfl,hlt,h⟩,fun x H2 y=>?_⟩;obtain⟨H02,st2,rx⟩:=yl x H2 y;rw[Lp hlt,Yo] at er;obtain⟨E1,b1,er⟩:=bind_some er;obtain⟨o1,b2,er⟩:=bind_some er;have ss2:SStep B H0' H02 H2:=st2.ss I'.b;refine hg B H02 H2 σ' E' E1 x _ _ (I'.step st2) rx b1 fun σ2 I2=>?_
  refine ht B H02 H2 σ2 E1 o1 _ I2 b2 ?_
  cases o1 with
  | nx E2=>exact fun σ3 H3 H3' s3 I3=>⟨H3,E2,I3,(st.trans ss2).trans s3,er⟩
  | ct E2=>exact fun σ3 H3 H3' s3 I3=>⟨H3,E2,I3,(st.trans ss2).trans s3,er⟩
  | bk E2=>cases er;exact f'.step ss2
  | rt r=>cases er;exact f'.step ss2
 ·have e3:i=ds.length:=by omega
  subst e3;rw[List.drop_length,Yo] at er;cases er;exact .inl ⟨stop.2,f' _ _ _ I'.ss I'⟩
theorem Jhe{c:TT}{ec:En->Option Bool}{n:Nat}(hc:ST K C c ec)(ht:SS K C t et):SS K C (Jkt c t) (Y9 ec et n):=by
 intro B H0 H σ E o D I e f;refine⟨fun m σ' H'=>∃H0' E',EnvR K C B H0' H' σ' E'/\SStep B H0 H0' H'/\Y9 ec et m E'=some o,⟨n,H0,E,I,I.ss,e⟩,?_⟩;rintro m σ' H' ⟨H0',E',I',st,er⟩
 cases m with
 | zero=>cases er
 | succ m =>
  rw[Y9] at er;obtain⟨k,b1,er⟩:=bind_some er;refine hc B H0' H' σ' E' k _ I' b1 fun H1 H1' s1=>?_
  have f':Fin K C B H1 D o:=(f.step st).step (s1.ss I'.b)
  cases k with
  | false=>rw[if_neg (by simp)] at er ⊢;cases er;exact f' _ _ _ (I'.step s1).ss (I'.step s1)
  | true =>
   rw[if_pos rfl] at er ⊢;obtain⟨o1,b2,er⟩:=bind_some er;refine⟨fun σ2 H2=>∃H02 E2,EnvR K C B H02 H2 σ2 E2/\SStep B H0 H02 H2/\Y9 ec et m E2=some o,fun σ2 H2 h=>⟨m,Gy _,h⟩,?_⟩;have st1:=st.trans (s1.ss I'.b);refine ht B H1 H1' σ' E' o1 _ (I'.step s1) b2 ?_
   cases o1 with
   | nx E2=>exact fun σ3 H3 H3' s3 I3=>⟨H3,E2,I3,st1.trans s3,er⟩
   | ct E2=>exact fun σ3 H3 H3' s3 I3=>⟨H3,E2,I3,st1.trans s3,er⟩
   | bk E2=>cases er;exact f'
   | rt r=>cases er;exact f'
end

noncomputable def Jb6:Out->Option Sl
 | .nx _=>some (.sh .non)
 | .rt r=>some r
 | .bk _=>none
 | .ct _=>none
noncomputable def Y0(N:Nat)(b:Es):List Sl->Option Sl:=fun as=>(b (as++Qt (N-as.length) .no)).bind Jb6
section
variable{K:Frag}{C:Addr}
theorem RRL.get{Hs H0 H:Hp}:∀{vs:List V} {ss:List Sl} {i:Nat} {s:Sl},RRL K C Hs H0 H vs ss->ss[i]?=some s->∃v,vs[i]?=some v/\RR K C Hs H0 H v s
 | _,_,_,_,.nil,e=>by simp at e
 | _,_,0,_,.cons h _,e=>by simp at e;subst e;exact⟨_,rfl,h⟩
 | _,_,i+1,s,.cons _ t,e=>by obtain⟨v,h1,h2⟩:=RRL.get (i:=i) (s:=s) t (by simpa using e);exact⟨v,by simpa using h1,h2⟩
theorem JF{N:List Str}{n:Nat}{b:Es}{ts:TS}{vs:List V}{H:Hp}{Q:VK}{E:XK}(hb:SS K C ts b)(h:spE K C n (Y0 N.length b) vs H Q E):ts { nx:=fun _ H'=>Q .non H',rt:=Q } (L2.VO N vs) H:=by
 obtain⟨H0,as,r,i,ra,ho,hl,e,q⟩:=h;have lens:=ra.len
 have noOwn:∀(j:Nat) (s:Sl),as[j]?=some s->YU s=false:=fun j s e=>by
  have:=Ll.mp ho s (QC e)
  simpa using this
 have get:∀(j:Nat) (s:Sl),(as++Qt (N.length-as.length) Sl.no)[j]?=some s->s=.no\/as[j]?=some s:=fun j s e=>by
  by_cases hj:j<as.length
  ·rw[QG hj] at e;exact .inr e
  ·rw[QI (by omega),MK] at e;split at e
   ·cases e;exact .inl rfl
   ·cases e
 have I:EnvR K C H H0 H (L2.VO N vs) (as++Qt (N.length-as.length) .no):=by
  refine⟨Same.refl _,i,by simp[L2.VO,lens],fun j s e=>?_,fun j k s1 s2 v hjk e1 e2 w1 w2=>?_⟩
  ·rcases get j s e with z|z
   ·exact .inl z
   ·obtain⟨v,h1,h2⟩:=ra.get z;refine .inr ⟨v,?_,?_⟩
    ·unfold L2.VO;rw[QG (by have:=(Qk.mp h1).1;simpa using this),Qq,h1];rfl
    ·cases s with
     | no=>trivial
     | sh d=>exact h2
     | bo ds=>exact h2
     | own ds=>exact absurd (noOwn j _ z) (by simp[YU])
     | bd ks ds=>exact h2
     | bt ks ds=>exact h2
     | od ks ds=>exact absurd (noOwn j _ z) (by simp[YU])
     | ot ks ds=>exact absurd (noOwn j _ z) (by simp[YU])
  ·rcases get j _ e1 with z|z
   ·subst z;cases w1
   ·rw[noOwn j _ z] at w1;cases w1
 obtain⟨o,e1,e⟩:=bind_some e;refine hb H H0 H _ _ o _ I e1 ?_
 cases o with
 | nx E1=>cases e;exact fun σ' H1 H1' s1 I1=>q _ H1 H1' ⟨s1.b,s1.z,s1.n,s1.i⟩ RD.non
 | rt r'=>cases e;exact fun v H1 H1' s1 r1=>q v H1 H1' ⟨s1.b,s1.z,s1.n,s1.i⟩ r1
 | bk _=>cases e
 | ct _=>cases e
theorem JlC{P:Program}{w:World}{mg:Str->Option Value}{base:Heap}{k:Nat}{f:Addr}{fd:FuncData}{ps:List Str}{ev:List Sl->Option Sl}(F:FnOk P w K mg base CX0 k f fd ps (spE K C 1 ev))
 (h:∀ns:List Int,ns.length<=63->ev [.sh (.fz (ns.map .int))]=some (.sh (.bl true))):FnOk P w K mg base CX0 k f fd ps (Jg0 K) :=
 F.imp fun vs H Q E ⟨a,ns,e,hS,hl,q⟩=>by subst e;exact⟨H,[.sh (.fz (ns.map .int))],_,Same.refl _,.cons (show RD K C H _ _ from RD.mkF hS (RDL.ofInts ns)) .nil,rfl,rfl,h ns hl,fun v H0' H' _ r=>by rw[RD.blI r];exact q H'⟩
end
end LE

namespace L2
open PySem PySem.Spec PyProof.Rows
end L2
namespace LE
open PySem L2 LR
section
variable{K:Frag}{C:Addr}{m:Bool}
end
end LE

namespace LE
open PySem L2 LR
noncomputable def okS(P:En->Prop):Option Out->Prop
 | some (.nx E)=>P E
 | some (.ct E)=>P E
 | _=>False
theorem Joq{P:En->Prop}{E:En}:okS P (some (.nx E))=P E:=rfl
theorem JdU{P:En->Prop}{o:Option Out}(h:okS P o):∃E,(o=some (.nx E)\/o=some (.ct E))/\P E:=by
 unfold okS at h;split at h
 ·exact⟨_,.inl rfl,h⟩
 ·exact⟨_,.inr rfl,h⟩
 ·exact h.elim
theorem Uc{γ α β:Type}{p:Pt}{b:Es}{f:α->D}{k:Out->Option γ}{r:Option γ}(R:List α->β->En->Prop)(g:β->α->β):∀{as:List α} {E:En} (s:β) (h0:R as s E)
 (h:∀a as s E,R (a::as) s E->okS (R as (g s a)) ((p.bind (f a) E).bind b)) (fin:∀E',R [] (as.foldl g s) E'->k (.nx E')=r),(Yo p b (as.map f) E).bind k=r
 | [],E,s,h0,_,fin=>fin E h0
 | a::as,E,s,h0,h,fin=>by
  obtain⟨E2,e2,r2⟩:=JdU (h a as s E h0);have ih:=Uc (k:=k) (r:=r) R g (as:=as) (E:=E2) (g s a) r2 h fin;rw[Qd,Yo]
  cases hp:p.bind (f a) E with
  | none=>rw[hp] at e2;rcases e2 with e2|e2 <;> cases e2
  | some E1=>rw[hp,QP] at e2;rw[QP];rcases e2 with e2|e2 <;> (rw[e2,QP];exact ih)
theorem Jjn{γ:Type}{p:Pt}{b:Es}{f:Nat->D}{n:Nat}{E:En}{k:Out->Option γ}{r:Option γ}(R:Nat->En->Prop)(h0:R 0 E)
 (h:∀i E,i<n->R i E->okS (R (i+1)) ((p.bind (f i) E).bind b)) (fin:∀E',R n E'->k (.nx E')=r):(Yo p b ((Le n).map f) E).bind k=r:=by
 refine Uc (fun(as:List Nat) (i:Nat) E=>i+as.length=n/\as=Rp i as.length/\R i E) (fun i _=>i+1) 0 ⟨by simp,by simp[Rq],h0⟩ (fun a as i E ⟨hk,e,q⟩=>?_) fun E' ⟨hk,_,q⟩=>?_
 ·rw[Qp,List.range'_succ] at e;have e1:a=i:=(List.cons.inj e).1;subst e1;obtain⟨E2,e2,r2⟩:=JdU (h a E (by rw[Qp] at hk;omega) q);have fin2:(a+1)+as.length=n/\as=Rp (a+1) as.length/\R (a+1) E2:=⟨by rw[Qp] at hk;omega,(List.cons.inj e).2,r2⟩
  rcases e2 with e2|e2 <;> (rw[e2];exact fin2)
 ·have e3:(Le n).foldl (fun i _=>i+1) 0=n:=by simpa using hk
  rw[e3] at q;exact fin E' q
theorem Yf{α:Type}{p:Pt}{a:Ev}{E1:En}{f g:α->D}:∀{xs:List α},(∀x∈xs,((p.bind (f x) E1).bind a).bind Sl.frz=some (g x))->Vf p yes? a E1 (xs.map f)=some (xs.map g)
 | [],_=>rfl
 | x::xs,h=>by have h1:=h x Qe;obtain⟨s,e1,e2⟩:=bind_some h1;obtain⟨E2,e3,e4⟩:=bind_some e1;rw[Qd,Vf,e3];simp only[QP,yes?,if_true,e4,e2];rw[Yf fun y hy=>h y (Qc _ hy)];rfl
theorem Jb5{α:Type}{p:Pt}{c:En->Option Bool}{a:Ev}{E1:En}{f g:α->D}{k:α->Bool}:∀{xs:List α},(∀x∈xs,(p.bind (f x) E1).bind c=some (k x)/\(k x=true->((p.bind (f x) E1).bind a).bind Sl.frz=some (g x)))->Vf p c a E1 (xs.map f)=some ((xs.filter k).map g)
 | [],_=>rfl
 | x::xs,h=>by
  obtain⟨h1,h2⟩:=h x Qe;obtain⟨E2,e3,e4⟩:=bind_some h1;have ih:=Jb5 (xs:=xs) (fun y hy=>h y (Qc _ hy));rw[Qd,Vf,e3];simp only[QP,e4]
  cases hk:k x with
  | false=>rw[if_neg (by simp),ih,Gq (by simp[hk])]
  | true=>obtain⟨s,e1,e2⟩:=bind_some (h2 hk);rw[e3,QP] at e1;rw[if_pos rfl,e1];simp only[QP,e2];rw[ih,Gr hk];rfl
theorem JqP(n:Nat):rng 0 n=(Le n).map fun i=>.int (i:Int):=by unfold rng;exact QQ fun i _=>by rw[LN]
theorem JmG:sizeLine=16777216:=rfl
theorem JbP{α β:Type}(f:α->β)(xs:List α)(i:Int):atI (xs.map f) i=(atI xs i).map f:=by
 unfold atI;rw[Qm]
 cases ixN xs.length i with
 | none=>rfl
 | some j=>simp
theorem Jc2{α:Type}{xs:List α}{k:Nat}(h:k<xs.length):atI xs (k:Int)=some xs[k]:=by unfold atI ixN;rw[if_pos (by omega),if_pos (by omega)];simp[h]
theorem Jc1{ns:List Int}{k:Int}(h0:0<=k)(h:k<(ns.length:Int)):atI ns k=some (cell ns k):=by
 obtain⟨j,rfl⟩:=Int.eq_ofNat_of_zero_le h0;have hj:j<ns.length:=by omega
 rw[Jc2 hj];simp[cell,hj]
theorem Jiv{l:List Int}{k:Int}(h0:0<=k)(h1:k<(l.length:Int)):atI (l.map D.int) k=some (.int (Jd5 l k)):=by rw[JbP,Jc1 h0 h1];rfl
structure Kd {α:Type} (f:α->D) (n:Nat):Prop where
 lay:∀a,(f a).py.canLay0=true
 dep:∀a,(f a).py.depth<=n
 eqv:∀a b,LV (f a).py (f b).py=true↔a=b
theorem Kd.eq{α:Type}[DecidableEq α]{f:α->D}{n:Nat}(k:Kd f n)(h:n<=60)(a b:α):eqD (f a) (f b)=some (decide (a=b)):=by unfold eqD;have:=k.dep a;rw[k.lay a,k.lay b,if_pos (by simp;omega)];congr 1;rw[Km,k.eqv];simp
theorem Jn2:Kd D.int 1:=⟨fun _=>rfl,fun _=>by simp[D.py,M5],fun a b=>by show(a == b)=true↔_;simp⟩
theorem Zg{α:Type}{f:α->D}{n:Nat}(k:Kd f n):(∀xs:List α,Ld (D.pyL (xs.map f))=true)/\(∀xs:List α,L6 (D.pyL (xs.map f))<=n)/\∀xs ys:List α,Ls (D.pyL (xs.map f)) (D.pyL (ys.map f))=true↔xs=ys:=by
 refine⟨fun xs=>?_,fun xs=>?_,fun xs=>?_⟩
 ·induction xs with
  | nil=>rfl
  | cons x xs ih=>show(PyData.canLay0 _ && Ld _)=true;rw[k.lay,ih];rfl
 ·induction xs with
  | nil=>simp[D.pyL,L6]
  | cons x xs ih=>have:=k.dep x;simp only[Qd,D.pyL,L6];omega
 ·induction xs with
  | nil=>intro ys;cases ys with
   | nil=>simp[D.pyL,Ls]
   | cons y ys=>simp[D.pyL,Ls]
  | cons x xs ih=>intro ys;cases ys with
   | nil=>simp[D.pyL,Ls]
   | cons y ys=>simp only[Qd,D.pyL,Ls,QM,k.eqv,ih,List.cons.injEq]
theorem Jjj{α:Type}{f:α->D}{n:Nat}(k:Kd f n):Kd (fun xs:List α=>D.lst (xs.map f)) (n+1) :=
 ⟨fun xs=>(Zg k).1 xs,fun xs=>by have:=(Zg k).2.1 xs;simp only[D.py,M5];omega,fun xs ys=>by simp only[D.py,LV];exact(Zg k).2.2 xs ys⟩
theorem Jn3{α:Type}{f:α->D}{n:Nat}(k:Kd f n):Kd (fun xs:List α=>D.tup (xs.map f)) (n+1) :=
 ⟨fun xs=>(Zg k).1 xs,fun xs=>by have:=(Zg k).2.1 xs;simp only[D.py,M5];omega,fun xs ys=>by simp only[D.py,LV];exact(Zg k).2.2 xs ys⟩
theorem Jnb:Kd prE 2:=⟨fun _=>rfl,fun _=>by simp[prE,D.py,D.pyL,M5,L6],fun a b=>by obtain⟨a1,a2⟩:=a;obtain⟨b1,b2⟩:=b;simp[prE,D.py,D.pyL,LV,Ls]⟩
theorem Jld(a b:List Pr):eqD (.lst (a.map prE)) (.lst (b.map prE))=some (decide (a=b)):=(Jjj Jnb).eq (by decide) a b
theorem Jle(a b:List Pr):eqD (.tup (a.map prE)) (.tup (b.map prE))=some (decide (a=b)):=(Jn3 Jnb).eq (by decide) a b
theorem JiV(a b:List Int):eqD (.lst (a.map .int)) (.lst (b.map .int))=some (decide (a=b)):=(Jjj Jn2).eq (by decide) a b
theorem V9{s:Sl}{ps:List Pr}(e:s.q=some (ps.map prE))(g:Good ps)(h:ps.length<=30):ZD [s]=some (.sh (.row (ps.map prE))):=by show(s.q.bind _)=_;rw[e,QP,JbK,QP,Jaf g,if_pos (by simp[h])]
section
variable{a b:Int}{xs ys:List D}{d:D}{x y:Str}{E:En}{B:Es}{r:Sl}
theorem Jmx:Jef B (.nx E)=B E:=rfl
theorem Jmy:Jef B (.rt r)=some (.rt r):=rfl
theorem Jk9:Jb6 (.nx E)=some (.sh .non):=rfl
theorem Jla:Jb6 (.rt r)=some r:=rfl
theorem JpM{g:Int->Int->D}:fI g (.sh (.int a)) (.sh (.int b))=some (.sh (g a b)):=rfl
theorem Jlp(h:(-18446744073709551616<a/\a<18446744073709551616)\/(-18446744073709551616<b/\b<18446744073709551616)):Jac (.sh (.int a)) (.sh (.int b))=some (.sh (.int (a*b))):=by show(if _ then _ else _)=_;rw[if_pos];simp only[Ly,VJ];exact h
theorem Jlo(h:0<b):Zd (.sh (.int a)) (.sh (.int b))=some (.sh (.int (a % b))):=by show(if _ then _ else _)=_;rw[if_pos (by simpa using h)]
theorem Jll(h:0<b/\b<1073741824):Jlk (.sh (.int a)) (.sh (.int b))=some (.sh (.int (a / b))):=by show(if _ then _ else _)=_;rw[if_pos (smallP_ok.mpr h)]
theorem Jlr(h:0<=b/\b<=1000000/\-1000<a/\a<1000):Jdm (.sh (.int a)) (.sh (.int b))=some (.sh (.int (a ^ b.toNat))):=by show(if _ then _ else _)=_;rw[if_pos];simp only[QM,decide_eq_true_eq,KH,VJ];omega
theorem Jlq:Je1 (.sh (.int a))=some (.sh (.int (-a))):=rfl
theorem Jlf:Ub (.sh (.int a)) (.sh (.int b))=some (.sh (.int (a+b))):=rfl
theorem JiG{p q:Sl}(h1:p.m=some xs)(h2:q.m=some ys)(h:xs.length+ys.length<=16777216):Jhw p q=some (.own (xs++ys)):=by unfold Jhw;rw[h1,h2];exact if_pos h
theorem Jlg(h:xs.length+ys.length<=16777216):Ub (.own xs) (.own ys)=some (.own (xs++ys)):=JiG rfl rfl h
theorem Jlh(h:xs.length+ys.length<=16777216):Ub (.own xs) (.sh (.lst ys))=some (.own (xs++ys)):=JiG rfl rfl h
theorem JnP:ZC [.sh (.lst xs)]=some (.sh (.int xs.length)):=rfl
theorem JnO:ZC [.sh (.fz xs)]=some (.sh (.int xs.length)):=rfl
theorem JnQ:ZC [.sh (.tup xs)]=some (.sh (.int xs.length)):=rfl
theorem JpO:fIx (.sh (.fz xs)) (.sh (.int a))=(atI xs a).map .sh:=rfl
theorem JpQ:fIx (.sh (.tup xs)) (.sh (.int a))=(atI xs a).map .sh:=rfl
theorem JpN:fIx (.bo xs) (.sh (.int a))=(atI xs a).map .sh:=rfl
theorem JpP:fIx (.own xs) (.sh (.int a))=(atI xs a).map .sh:=rfl
theorem JnN:eqA (.int a) (.int b)=some (decide (a=b)):=rfl
theorem JnL(p q:List Pr):eqA (.lst (p.map prE)) (.lst (q.map prE))=some (decide (p=q)):=Jld p q
theorem JnM(p q:List Pr):eqA (.tup (p.map prE)) (.tup (q.map prE))=some (decide (p=q)):=Jle p q
theorem JnK(p q:List Int):eqA (.lst (p.map .int)) (.lst (q.map .int))=some (decide (p=q)):=JiV p q
theorem Je7(h:-4611686018427387904<a/\a<4611686018427387904):Jcj a=true:=by unfold Jcj;rw[KH];omega
theorem Wb{s:Sl}{ns:List Int}(e:s.q=some (ns.map .int)):Jb9 [s]=some (.sh (.int ns.sum)):=by show(s.q.bind _)=_;rw[e,QP,Jai];rfl
theorem Jlj{s:Sl}{ns:List Bool}(e:s.q=some (ns.map .bl)):Jli [s]=some (.sh (.bl (ns.any id))):=by show(s.q.bind _)=_;rw[e,QP,JfV];rfl
theorem JpC{i:Nat}:(Pt.nm i).bind d E=if i<E.length then some (E.set i (.sh d)) else none:=by rw[Pt.bind]
theorem JpD{l:Pts}:(Pt.tp l).bind (.tup xs) E=l.bind xs E:=by rw[Pt.bind]
theorem JkS:Pts.nil.bind [] E=some E:=by rw[Pts.bind]
theorem Jio{q:Pt}{l:Pts}:(Pts.cons q l).bind (d::xs) E=(q.bind d E).bind fun E'=>l.bind xs E':=by rw[Pts.bind]
theorem JqH:((0:Nat):Int)=0:=rfl
theorem JqI:((2:Nat):Int)=2:=rfl
theorem JhG:D.isNon .non=true:=rfl
theorem JhF:D.isNon (.int a)=false:=rfl
theorem JhH:D.isNon (.tup xs)=false:=rfl
theorem Jn8:JhL "int" "int"=true:=by decide
theorem JlB:JhL "int" "bool"=false:=by decide
theorem Joa:JhL "tuple" "tuple"=true:=by decide
theorem Jn9:JhL "list" "list"=true:=by decide
end
end LE

namespace HT
open PySem PySem.Spec PyProof.Rows
section
variable{prog:Program}{w:World}{A:Around}{E:Value->Shared->Prop}{s:Shared}
theorem WQ{t sl:Addr}{items:Array Value}{vl vu:Value}{lo hi:Option Int}{Q:Value->Shared->Prop}(ht:IsTup s.heap t items)(hs:s.heap.IsSliceOf sl vl vu .none)(pl:IsPart vl lo)(pu:IsPart vu hi)
 (hw:sIx items.size 0 lo=0/\sIx items.size items.size hi=items.size) (h:Q (.ref t) s):wpAny (model prog w) A (getItem (.ref t) (.ref sl)) Q E s:=by
 obtain⟨os,hos,hcs,hds⟩:=id hs;have hTs:s.TypeIs (.ref sl) "slice":=⟨os,hos,hcs⟩
 unfold getItem
 try with_reducible refine Gs ?_
 first|refine Qa (Qf ?_)|skip
 refine Qa (wpAny_sequenceKey ht.typeIs (by decide) ?_);refine Qa (QJ (name:=Q1 "__getitem__") ht.typeIs Gd
  (QV Gd ht.typeIs entry_tuple_getitem ?_ (args_tuple_getitem _ _)))
 show wpAny _ _ (Mn (.ref t) >>= _) _ _ s;refine Qa (tupleItemsOf_ ht ?_);refine Qa (LM hTs ?_);rw[if_pos (by decide)];refine Qa (Vw hs pl pu ?_)
 have yes:(((sIx items.size 0 lo:Nat):Int) == 0 && (1:Int) == 1 && (sIx items.size items.size hi-sIx items.size 0 lo) == items.size)=true:=by rw[hw.1,hw.2];simp
 show wpAny _ _ (if (((sIx items.size 0 lo:Nat):Int) == 0 && (1:Int) == 1 && (sIx items.size items.size hi-sIx items.size 0 lo) == items.size)=true then _ else _) _ _ s;rw[if_pos yes];unfold Builtin.Tuple.tupleIsExact;refine Qa (Qa (LM ht.typeIs (Qf ?_)));rw[if_pos (by decide)];refine Qa (Kc ?_);exact Qf ⟨_,rfl,Qf h⟩
end
end HT
namespace L2
open PySem PySem.Spec PyProof.Rows
section
variable{X:Cx}{K:Frag}
noncomputable def Jqn(K:Frag):V->Option Int->Option Int->Hp->VK->Prop:=fun x lo hi H Q=>∃a xs,x=.ref a/\SqT K H a xs/\(HT.sIx xs.length 0 lo=0/\HT.sIx xs.length xs.length hi=xs.length)/\Q (.ref a) H
theorem Jki:SlR X (Jqn X.K):=by
 intro pins s σ H x v vl vu lo hi sl Q I rx hs pl pu h;obtain⟨a,xs,rfl,hx,hw,q⟩:=h;cases rx;obtain⟨its,r,ht,hz⟩:=I.tuple hx;have hlen:its.toArray.size=xs.length:=by rw[Qo];exact r.length.symm
 refine⟨"tuple",_,Gd.lookup,ht.typeIs,?_⟩;exact HT.WQ ht hs pl pu (by rw[hlen];exact hw) ⟨.ref a,H,I,rfl,q⟩
noncomputable def JoP(K:Frag):V->Option Int->Option Int->Hp->VK->Prop:=fun x lo hi H Q=>Jql K x lo hi H Q\/Jqm K x lo hi H Q\/Jqn K x lo hi H Q
theorem JgZ(hK:X.K=K):SlR X (JoP K):=by subst hK;exact sl_list.or (sl_tup.or Jki)
end
end L2
namespace LE
open PySem L2 LR
noncomputable def JeV{α:Type}(xs:List α)(lo hi:Option Int):List α:=(xs.drop (HT.sIx xs.length 0 lo)).take (HT.sIx xs.length xs.length hi-HT.sIx xs.length 0 lo)
noncomputable def fSl(s:Sl)(lo hi:Option Int):Option Sl:=match s with
 | .sh (.tup ds)=>some (.sh (.tup (JeV ds lo hi)))
 | s=>s.r.map fun ds=>.own (JeV ds lo hi)
noncomputable def Z3(o:Option Ev):En->Option (Option Int):=fun E=>match o with
 | none=>some none
 | some a=>(a E).bind fun s=>match s with
  | .sh (.int i)=>some (some i)
  | _=>none
noncomputable def eSl(a:Ev)(lo hi:Option Ev):Ev:=fun E=>(a E).bind fun s=>(Z3 lo E).bind fun l=>(Z3 hi E).bind fun h=>fSl s l h
section
variable{K:Frag}{C:Addr}{te:TE}{ea:Ev}{tl th:TO}{el eh:Option Ev}
noncomputable def SP'(K:Frag)(C:Addr)(t:TO)(ev:En->Option (Option Int)):Prop:=∀(B H0 H:Hp) (σ:St) (E:En) (r:Option Int) (Q:Option Int->Hp->Prop),EnvR K C B H0 H σ E->ev E=some r ->
 (∀H0' H',Step H H0 H H0' H'->Q r H')->t σ H Q
theorem JjH:SP' K C Jha (Z3 none):=fun _ _ _ _ _ _ _ I e q=>by cases e;exact q _ _ (.refl I.h)
theorem JjI(ha:SE K C te ea):SP' K C (Jnr te) (Z3 (some ea)):=by
 intro B H0 H σ E r Q I e q;obtain⟨s,e1,e⟩:=bind_some e;split at e
 ·cases e;exact ha B H0 H σ E _ _ I e1 fun x H1 H1' s1 r1=>⟨_,RD.intI r1,q _ _ s1⟩
 ·cases e
theorem RDL.cut{H:Hp}{xs:List V}{ds:List D}{lo hi:Option Int}(r:RDL K C H xs ds):RDL K C H (JaU xs lo hi) (JeV ds lo hi):=by unfold JaU JeV;rw[r.1];exact(r.drop _).take _
theorem Jqu(ha:SE K C te ea)(hl:SP' K C tl (Z3 el))(hh:SP' K C th (Z3 eh)):SE K C (tSl (JoP K) te tl th) (eSl ea el eh):=by
 intro B H0 H σ E c Q I e q;obtain⟨s,e1,e⟩:=bind_some e;obtain⟨l,e2,e⟩:=bind_some e;obtain⟨h,e3,e⟩:=bind_some e;refine ha B H0 H σ E _ _ I e1 fun x H1 H1' s1 r1=>hl B H1 H1' σ E l _ (I.step s1) e2 fun H2 H2' s2=>hh B H2 H2' σ E h _ (I.step (s1.trans s2)) e3 fun H3 H3' s3=>?_
 have s13:=(s1.trans s2).trans s3
 have r3:=(r1.step s2).step s3
 have lst:∀{ds:List D},s.r=some ds->c=.own (JeV ds l h)->JoP K x l h H3' Q:=fun {ds} er ec=>by subst ec;obtain⟨a,xs,rfl,hq,r⟩:=r3.r s13.i er;exact .inl ⟨a,xs,rfl,hq,fun p hp=>Vi s13.i s13.h hp r.cut fun v H4 H4' s4 r4=>q v H4 H4' (s13.comp s4 fun _ z=>z) r4⟩
 unfold fSl at e;split at e
 ·cases e;obtain⟨a,xs,rfl,hq,r⟩:=RD.tupI r3
  by_cases hw:HT.sIx xs.length 0 l=0/\HT.sIx xs.length xs.length h=xs.length
  ·refine .inr (.inr ⟨a,xs,rfl,s13.i.seqT hq,hw,q _ _ _ s13 ?_⟩);have e5:JaU xs l h=xs:=by unfold JaU;rw[hw.1,hw.2];simp
   have r5:=r.cut (lo:=l) (hi:=h);rw[e5] at r5;exact RD.mkT hq r5
  ·exact .inr (.inl ⟨a,xs,rfl,s13.i.seqT hq,hw,fun p hp=>ZU s13.i s13.h hp r.cut fun v H4 H4' s4 r4=>q v H4 H4' (s13.comp s4 fun _ z=>z) r4⟩)
 ·obtain⟨ds,e4,e5⟩:=map_some e;exact lst e4 e5.symm
end
end LE

namespace PySem
section
variable{prog:Program}{w:World}{A:Around}
theorem Draws.tup(hh:A.handled=none)(j a:Addr)(ne:a≠j)(xs:Array Value):Draws prog w A j [j,a] xs.size (fun i v=>xs[i]?=some v) (fun i h=>h.IsTupleIter j a i/\h.IsTuple a xs) where
 live:=fun _ _ q=>let ⟨o,ho,_⟩:=q.1;⟨o,ho⟩
 frame:=fun _ _ _ q k=>⟨q.1.at fun o e=>k j (by simp) o e,q.2.at fun o e=>k a (by simp) o e⟩
 item:=fun i s Q E hi q hQ=>by
  obtain⟨o,ho,hc,hd⟩:=id q.1;obtain⟨ol,hol,_,nl,hdl⟩:=id q.2;have hx:xs[i]?=some xs[i]:=by simp[hi]
  unfold Q7;refine Qa (QJ (name:=Q1 "__next__") q.1.typeIs Kr (QV Kr q.1.typeIs Me ?_ (L7 _)));show wpAny _ _ (field (.ref j) 0 >>= _) _ _ s;refine Qa (QR ho hd (x:=.ref a) rfl ?_);show wpAny _ _ (if (Value.ref a == Value.none)=true then _ else _) _ _ s;rw[if_neg (show ¬((Value.ref a == Value.none)=true) from Qx)]
  show wpAny _ _ (field (.ref j) 1 >>= _) _ _ s;refine Qa (QR ho hd (x:=.int i 0) rfl (show wpAny _ _ (seqItems? (.ref a) >>= _) _ _ s from Qa (Gf hol hdl ?_)));simp only[GW,hx];refine Qa (Ks ho hd (by simp) (Qf ⟨xs[i],rfl,Qf (hQ _ _ s.toks hx ⟨⟨_,QU _ ho (Kv (GB hd _)),(LO ..).trans hc,?_⟩,q.2.extBut (Gu ..).extBut ne⟩ (Gu ..))⟩))
  rw[GB hd];simp[rawInt]
 done:=fun s Q E q hE=>by
  obtain⟨o,ho,hc,hd⟩:=id q.1;obtain⟨ol,hol,_,nl,hdl⟩:=id q.2;have hx:xs[xs.size]?=none:=by simp
  unfold Q7;refine Qa (QJ (name:=Q1 "__next__") q.1.typeIs Kr (QV Kr q.1.typeIs Me ?_ (L7 _)));show wpAny _ _ (field (.ref j) 0 >>= _) _ _ s;refine Qa (QR ho hd (x:=.ref a) rfl ?_);show wpAny _ _ (if (Value.ref a == Value.none)=true then _ else _) _ _ s;rw[if_neg (show ¬((Value.ref a == Value.none)=true) from Qx)]
  show wpAny _ _ (field (.ref j) 1 >>= _) _ _ s;refine Qa (QR ho hd (x:=.int xs.size 0) rfl (show wpAny _ _ (seqItems? (.ref a) >>= _) _ _ s from Qa (Gf hol hdl ?_)));simp only[GW,hx];refine Qa (Kc (Qa (Ks ho hd (by simp) (show wpAny _ _ (newExc (.type "StopIteration") [] >>= _) _ _ _ from Qa ?_))));simp only[newExc,newTuple];refine Qa (QZ (Qa (m:=firstArgMember _ _) (Ki (a:=Value.none) (by first | rfl | (simp only[firstArgMember];rfl)) (QZ ?_ (by size_fits)))) (by size_fits))
  simp only[raiseNew];refine Qa (wpAny_handled ?_)
  first|rw[show A.in1.handled=none from hh]|rw[hh]
  refine Qa (Qf (wpAny_throw ?_));exact hE _ _ (((Gu ..).extBut.push _).push _) ⟨_,Qi _ rfl,rfl⟩
end

structure ZA (z TI TO i1 i2:Addr) (p1 p2:List Addr):Prop where
 a1:TI≠z
 a2:TO≠z
 a3:TI≠TO
 m1:i1∈p1
 m2:i2∈p2
 z1:z∉p1
 z2:z∉p2
 t1:TI∉p1
 t2:TI∉p2
 o1:TO∉p1
 o2:TO∉p2
 x1:i1∉p2
 x2:i2∉p1
section
variable{prog:Program}{w:World}{A:Around}{E:Value->Shared->Prop}{s:Shared}{z TI TO i1 i2:Addr}{p1 p2:List Addr}{n1 n2 k:Nat}{P1 P2:Nat->Value->Prop}{S1 S2:Nat->Heap->Prop}
theorem JbN{a b:Value}{Q:Value->Shared->Prop}(D:ZA z TI TO i1 i2 p1 p2)(D1:Draws prog w A i1 p1 n1 P1 S1)(D2:Draws prog w A i2 p2 n2 P2 S2)(gz:IsZip s.heap z TI TO .none)(gI:IsPair s.heap TI (.ref i1) (.ref i2))(gO:IsPair s.heap TO a b)
 (st1:S1 k s.heap) (st2:S2 k s.heap) (l1:k<n1) (l2:k<n2)
 (hQ:∀x y h' tk,P1 k x->P2 k y->IsZip h' z TI TO (rawInt s.heap.objs.size)->IsPair h' TI (.ref i1) (.ref i2)->IsPair h' TO x y->S1 (k+1) h'->S2 (k+1) h'->IsPair h' s.heap.objs.size x y->h'.objs.size=s.heap.objs.size+1 ->
  (∀c o,c≠z->c≠TO->c≠i1->c≠i2->s.heap.get? c=some o->h'.get? c=some o)->Q (.ref s.heap.objs.size) { s with heap:=h',toks:=tk }) :
 wpAny (model prog w) A (Builtin.«zip.__next__» ⟨[.ref z],[]⟩) (fun fin s'=>∃v,fin=.done (.ret v)/\Q v s') E s:=by
 obtain⟨hp,g,d,t0,os⟩:=s;have zi1:i1≠z:=fun q=>D.z1 (q▸D.m1)
 have zi2:i2≠z:=fun q=>D.z2 (q▸D.m2)
 have oi1:i1≠TO:=fun q=>D.o1 (q▸D.m1)
 have oi2:i2≠TO:=fun q=>D.o2 (q▸D.m2)
 have ii1:i1≠TI:=fun q=>D.t1 (q▸D.m1)
 have ii2:i2≠TI:=fun q=>D.t2 (q▸D.m2)
 have i12:i1≠i2:=fun q=>D.x1 (q▸D.m2)
 show wpAny _ _ (field (.ref z) 2 >>= _) _ _ _;refine Qa (QR gz rfl (x:=.bool false) rfl (show wpAny _ _ (field (.ref z) 3 >>= _) _ _ _ from Qa (QR gz rfl (x:=.ref TI) rfl (Qa (Gf gI rfl ?_)))))
 show wpAny _ _ (QK (.ref z) >>= _) _ _ _;refine Qa ?_;unfold QK;refine Qa (QR gz rfl (x:=.none) rfl (Qf ?_));simp only[if_true];refine Qa (Kc (Qa (QR gz rfl (x:=.ref TO) rfl (Qa (Gc gz (by simp) fun k1 y1 e1=>?_)))))
 replace y1:IsZip k1 z TI TO .ellipsis:=y1
 replace e1:QB z hp k1:=e1;refine Qa ?_;simp only[KM,List.zipIdx_nil,L8,Mo];refine Qa (Qa (MG (show wpAny _ _ (Q7 (.ref i1) >>= _) _ _ _ from Qa (D1.item k _ _ _ l1 (D1.frame _ _ _ st1 fun b hb o q=>e1.extBut b o (fun r=>D.z1 (r▸hb)) q) fun x k2 t2 px s2 e2=>Qf ?_))))
 replace e2:QB i1 k1 k2:=e2;have O2:IsPair k2 TO a b:=e2.extBut _ _ (QN oi1) (e1.extBut _ _ D.a2 gO);refine Qa (Gf (s:=⟨k2,g,d,t2,os⟩) O2 rfl (Qa (L4 (s:=⟨k2,g,d,t2,os⟩) O2 fun k3 O3 e3=>?_)))
 replace O3:IsPair k3 TO x b:=O3
 replace e3:QB TO k2 k3:=e3;refine Qa (G9 (Qf ?_));have st2':S2 k k3:=D2.frame _ _ _ st2 fun b hb o q=>e3.extBut b o (fun r=>D.o2 (r▸hb)) (e2.extBut b o (fun r=>D.x1 (r▸hb)) (e1.extBut b o (fun r=>D.z2 (r▸hb)) q))
 refine Qa (Qa (MG (show wpAny _ _ (Q7 (.ref i2) >>= _) _ _ _ from Qa (D2.item k _ _ _ l2 st2' fun y k4 t4 py s4 e4=>Qf ?_))))
 replace e4:QB i2 k3 k4:=e4;have O4:IsPair k4 TO x b:=e4.extBut _ _ (QN oi2) O3;refine Qa (Gf (s:=⟨k4,g,d,t4,os⟩) O4 rfl (Qa (L4 (s:=⟨k4,g,d,t4,os⟩) O4 fun k5 O5 e5=>?_)))
 replace O5:IsPair k5 TO x y:=O5
 replace e5:QB TO k4 k5:=e5;refine Qa (G9 (Qf (Qf (Qa (Gf (s:=⟨k5,g,d,t4,os⟩) O5 rfl (Qa (Mp ?_)))))));have hsz:k5.objs.size=hp.objs.size:=by rw[e5.1,e4.1,e3.1,e2.1,e1.1]
 have Z5:IsZip k5 z TI TO .ellipsis:=e5.extBut _ _ (QN D.a2) (e4.extBut _ _ (QN zi2) (e3.extBut _ _ (QN D.a2) (e2.extBut _ _ (QN zi1) y1)))
 have keep5:∀c o,c≠z->c≠TO->c≠i1->c≠i2->hp.get? c=some o->k5.get? c=some o:=fun c o c1 c2 c3 c4 q=>e5.extBut _ _ c2 (e4.extBut _ _ c4 (e3.extBut _ _ c2 (e2.extBut _ _ c3 (e1.extBut _ _ c1 q))))
 have T1:S1 (k+1) k5:=D1.frame _ _ _ s2 fun b hb o q=>e5.extBut b o (fun r=>D.o1 (r▸hb)) (e4.extBut b o (fun r=>D.x2 (r▸hb)) (e3.extBut b o (fun r=>D.o1 (r▸hb)) q))
 have T2:S2 (k+1) k5:=D2.frame _ _ _ s4 fun b hb o q=>e5.extBut b o (fun r=>D.o2 (r▸hb)) q
 have zlt:z<k5.objs.size:=Qj Z5
 show wpAny _ _ (GT (.ref z) (.ref k5.objs.size) >>= _) _ _ _;refine Qa ?_;unfold GT
 have Z6:IsZip (k5.push { cls:=.type "tuple",data:=.seq #[x,y] }) z TI TO .ellipsis:=Qg _ Z5;refine Qa (Gc Z6 (by simp) fun k7 Z7 e7=>?_)
 replace Z7:IsZip k7 z TI TO (rawInt k5.objs.size):=Z7
 replace e7:QB z (k5.push { cls:=.type "tuple",data:=.seq #[x,y] }) k7:=e7;refine Gc Z7 (by simp) fun k8 Z8 e8=>?_
 replace Z8:IsZip k8 z TI TO (rawInt k5.objs.size):=Z8
 replace e8:QB z k7 k8:=e8;have up:∀c o,c≠z->k5.get? c=some o->k8.get? c=some o:=fun c o c1 q=>e8.extBut _ _ c1 (e7.extBut _ _ c1 (Qg _ q))
 have N8:IsPair k8 k5.objs.size x y:=e8.extBut _ _ (Ga zlt) (e7.extBut _ _ (Ga zlt) (Qi _ rfl))
 have z8:k8.objs.size=k5.objs.size+1:=by rw[e8.1,e7.1,Ge]
 rw[hsz] at Z8 N8 z8;refine Qf ⟨_,rfl,?_⟩;show Q (.ref k5.objs.size) _;rw[hsz];refine hQ x y k8 t4 px py Z8 (up _ _ D.a1 (keep5 _ _ D.a1 D.a3 (QN ii1) (QN ii2) gI)) (up _ _ D.a2 O5) ?_ ?_ N8 z8 fun c o c1 c2 c3 c4 q=>up c o c1 (keep5 c o c1 c2 c3 c4 q)
 ·exact D1.frame _ _ _ T1 fun b hb o q=>up b o (fun r=>D.z1 (r▸hb)) q
 ·exact D2.frame _ _ _ T2 fun b hb o q=>up b o (fun r=>D.z2 (r▸hb)) q
theorem JeE{a b:Value}{Q:Fin->Shared->Prop}(D:ZA z TI TO i1 i2 p1 p2)(D1:Draws prog w A i1 p1 n1 P1 S1)(D2:Draws prog w A i2 p2 n2 P2 S2)(gz:IsZip s.heap z TI TO .none)(gI:IsPair s.heap TI (.ref i1) (.ref i2))(gO:IsPair s.heap TO a b)
 (st1:S1 k s.heap) (st2:S2 k s.heap) (hend:k=n1\/(k<n1/\k=n2))
 (hE:∀h' e tk,(∀c o,c≠z->c≠TO->c≠i1->c≠i2->s.heap.get? c=some o->h'.get? c=some o)->(∃o,h'.get? e=some o/\o.cls=.type "StopIteration")->E (.ref e) { s with heap:=h',toks:=tk }) :
 wpAny (model prog w) A (Builtin.«zip.__next__» ⟨[.ref z],[]⟩) Q E s:=by
 obtain⟨hp,g,d,t0,os⟩:=s;have zi1:i1≠z:=fun q=>D.z1 (q▸D.m1)
 have zi2:i2≠z:=fun q=>D.z2 (q▸D.m2)
 have oi1:i1≠TO:=fun q=>D.o1 (q▸D.m1)
 show wpAny _ _ (field (.ref z) 2 >>= _) _ _ _;refine Qa (QR gz rfl (x:=.bool false) rfl (show wpAny _ _ (field (.ref z) 3 >>= _) _ _ _ from Qa (QR gz rfl (x:=.ref TI) rfl (Qa (Gf gI rfl ?_)))))
 show wpAny _ _ (QK (.ref z) >>= _) _ _ _;refine Qa ?_;unfold QK;refine Qa (QR gz rfl (x:=.none) rfl (Qf ?_));simp only[if_true];refine Qa (Kc (Qa (QR gz rfl (x:=.ref TO) rfl (Qa (Gc gz (by simp) fun k1 y1 e1=>?_)))))
 replace y1:IsZip k1 z TI TO .ellipsis:=y1
 replace e1:QB z hp k1:=e1;refine Qa ?_;simp only[KM,List.zipIdx_nil,L8,Mo];refine Qa (Qa (MG (show wpAny _ _ (Q7 (.ref i1) >>= _) _ _ _ from Qa ?_)));have q1:S1 k k1:=D1.frame _ _ _ st1 fun b hb o q=>e1.extBut b o (fun r=>D.z1 (r▸hb)) q
 rcases hend with rfl|⟨l1,rfl⟩
 ·refine D1.done _ _ _ q1 fun k2 e e2 he=>?_
  replace e2:KD i1 k1 k2:=e2;obtain⟨oe,hoe,hce⟩:=he;have Z2:IsZip k2 z TI TO .ellipsis:=e2 _ _ (QN zi1) y1;have ez:e≠z:=fun q=>by subst q;rw[Z2] at hoe;cases hoe;simp at hce
  exact Gc Z2 (by simp) fun k3 _ e3=>hE k3 e t0 (fun c o c1 _ c3 _ q=>e3.extBut _ _ c1 (e2 _ _ c3 (e1.extBut _ _ c1 q))) ⟨oe,e3.extBut _ _ ez hoe,hce⟩
 ·refine D1.item k _ _ _ l1 q1 fun x k2 t2 px s2 e2=>Qf ?_
  replace e2:QB i1 k1 k2:=e2;have O2:IsPair k2 TO a b:=e2.extBut _ _ (QN oi1) (e1.extBut _ _ D.a2 gO);refine Qa (Gf (s:=⟨k2,g,d,t2,os⟩) O2 rfl (Qa (L4 (s:=⟨k2,g,d,t2,os⟩) O2 fun k3 O3 e3=>?_)))
  replace e3:QB TO k2 k3:=e3;refine Qa (G9 (Qf ?_));have st2':S2 k k3:=D2.frame _ _ _ st2 fun b hb o q=>e3.extBut b o (fun r=>D.o2 (r▸hb)) (e2.extBut b o (fun r=>D.x1 (r▸hb)) (e1.extBut b o (fun r=>D.z2 (r▸hb)) q))
  refine Qa (Qa (MG (show wpAny _ _ (Q7 (.ref i2) >>= _) _ _ _ from Qa (D2.done _ _ _ st2' fun k4 e e4 he=>?_))))
  replace e4:KD i2 k3 k4:=e4;obtain⟨oe,hoe,hce⟩:=he;have Z4:IsZip k4 z TI TO .ellipsis:=e4 _ _ (QN zi2) (e3.extBut _ _ (QN D.a2) (e2.extBut _ _ (QN zi1) y1));have ez:e≠z:=fun q=>by subst q;rw[Z4] at hoe;cases hoe;simp at hce
  exact Gc Z4 (by simp) fun k5 _ e5=>hE k5 e t2 (fun c o c1 c2 c3 c4 q=>e5.extBut _ _ c1 (e4 _ _ c4 (e3.extBut _ _ c2 (e2.extBut _ _ c3 (e1.extBut _ _ c1 q))))) ⟨oe,e5.extBut _ _ ez hoe,hce⟩
end
end PySem

namespace PySem
def IsSq(b:Bool)(h:Heap)(a:Addr)(xs:Array Value):Prop:=match b with
 | true=>h.IsTuple a xs
 | false=>h.IsList a xs
def IsItr(b:Bool)(h:Heap)(j a:Addr)(i:Nat):Prop:=match b with
 | true=>h.IsTupleIter j a i
 | false=>h.IsListIter j a i
def itO(b:Bool)(a:Addr):Obj:=match b with
 | true=>{ cls:=.type "tuple_iterator",data:=.fields #[.ref a,.int 0 0] }
 | false=>{ cls:=.type "list_iterator",data:=.fields #[.ref a,.int 0 0] }
section
variable{prog:Program}{w:World}{A:Around}{E:Value->Shared->Prop}{s:Shared}{b b1 b2:Bool}{a a1 a2:Addr}{xs ys:Array Value}
theorem IsSq.push{h:Heap}(q:IsSq b h a xs)(o:Obj):IsSq b (h.push o) a xs:=by
 cases b with
 | true=>exact Heap.IsTuple.push q o
 | false=>exact Heap.IsList.push q o
theorem IsSq.lt{h:Heap}(q:IsSq b h a xs):a<h.objs.size:=by
 cases b with
 | true=>obtain⟨o,e,_⟩:=q;exact Qj e
 | false=>obtain⟨o,e,_⟩:=q;exact Qj e
theorem IsItr.new{h:Heap}(e:h.get? a1=some (itO b a)):IsItr b h a1 a 0:=by
 cases b with
 | true=>exact⟨_,e,rfl,rfl⟩
 | false=>exact⟨_,e,rfl,rfl⟩
theorem Vr{Q:Value->Shared->Prop}(q:IsSq b s.heap a xs)(h:Q (.ref s.heap.objs.size) { s with heap:=s.heap.push (itO b a) }):wpAny (model prog w) A (pyIter (.ref a)) Q E s:=by
 cases b with
 | true=>exact Mj q h
 | false=>exact LJ q h
theorem Draws.sq(hh:A.handled=none)(j:Addr)(ne:a≠j):Draws prog w A j [j,a] xs.size (fun i v=>xs[i]?=some v) (fun i h=>IsItr b h j a i/\IsSq b h a xs):=by
 cases b with
 | true=>exact Draws.tup hh j a ne xs
 | false=>exact Draws.list hh j a ne xs
abbrev zP1(h:Heap)(b1:Bool)(a1:Addr):Heap:=h.push (itO b1 a1)
abbrev zP2(h:Heap)(b1 b2:Bool)(a1 a2:Addr):Heap:=(zP1 h b1 a1).push (itO b2 a2)
abbrev zP3(h:Heap)(b1 b2:Bool)(a1 a2:Addr):Heap:=(zP2 h b1 b2 a1 a2).push { cls:=.type "tuple",data:=.seq #[.ref h.objs.size,.ref (zP1 h b1 a1).objs.size] }
abbrev zP4(h:Heap)(b1 b2:Bool)(a1 a2:Addr):Heap:=(zP3 h b1 b2 a1 a2).push { cls:=.type "tuple",data:=.seq #[.none,.none] }
abbrev zP5(h:Heap)(b1 b2:Bool)(a1 a2:Addr):Heap:=(zP4 h b1 b2 a1 a2).push { cls:=.type "zip",data:=.fields #[.none,.bool false,.bool false,.ref (zP2 h b1 b2 a1 a2).objs.size,.ref (zP3 h b1 b2 a1 a2).objs.size] }
theorem Jfe(b1 b2:Bool)(a1 a2:Addr)(xs ys:Array Value):Meets (Builtin.«zip.__new__» ⟨[.type "zip",.ref a1,.ref a2],[]⟩) (fun _ R s=>IsSq b1 s.heap a1 xs/\IsSq b2 s.heap a2 ys ∧
 R (.ok (.ret (.ref (zP4 s.heap b1 b2 a1 a2).objs.size))) { s with heap:=zP5 s.heap b1 b2 a1 a2 }) :=
 .of_wp fun prog w A R s h=>by obtain⟨hp,g,d,tk,os⟩:=s;obtain⟨q1,q2,h⟩:=h;have hsub:=sub_zip;have r1:IsSq b1 (RW ⟨hp,g,d,tk,os⟩) a1 xs:=q1;have r2:IsSq b2 (RW ⟨hp.push (itO b1 a1),g,d,tk,os⟩) a2 ys:=IsSq.push q2 _;wp_walk using Vr r1,Vr r2;exact⟨_,rfl,h⟩
theorem Jbi{Q:Value->Shared->Prop}(q1:IsSq b1 s.heap a1 xs)(q2:IsSq b2 s.heap a2 ys)
 (h:∀h',IsZip h' (s.heap.objs.size+4) (s.heap.objs.size+2) (s.heap.objs.size+3) .none->IsPair h' (s.heap.objs.size+2) (.ref s.heap.objs.size) (.ref (s.heap.objs.size+1))->IsPair h' (s.heap.objs.size+3) .none .none ->
  IsItr b1 h' s.heap.objs.size a1 0->IsItr b2 h' (s.heap.objs.size+1) a2 0->(∀c o,s.heap.get? c=some o->h'.get? c=some o)->Q (.ref (s.heap.objs.size+4)) { s with heap:=h' }) :
 wpAny (model prog w) A (call (.type "zip") [.ref a1,.ref a2]) Q E s:=by
 refine callType_new F.called_zip (by decide) (F.typeCall_zip_2 _ _) (F.newCall_zip_2 _ _) (fun obj=>F.args_object_init_3 obj _ _) F.entry_zip_new (Jfe b1 b2 a1 a2 xs ys) ⟨q1,q2,?_⟩;have z1:(zP1 s.heap b1 a1).objs.size=s.heap.objs.size+1:=Ge ..;have z2:(zP2 s.heap b1 b2 a1 a2).objs.size=s.heap.objs.size+2:=by rw[Ge,z1]
 have z3:(zP3 s.heap b1 b2 a1 a2).objs.size=s.heap.objs.size+3:=by rw[Ge,z2]
 have z4:(zP4 s.heap b1 b2 a1 a2).objs.size=s.heap.objs.size+4:=by rw[Ge,z3]
 have up:∀{k:Heap} {c:Addr} {o u:Obj},k.get? c=some o->(k.push u).get? c=some o:=fun q=>Qg _ q
 have fi1:(itO b1 a1).isFreed=false:=by cases b1 <;> rfl
 have fi2:(itO b2 a2).isFreed=false:=by cases b2 <;> rfl
 have g5:(zP5 s.heap b1 b2 a1 a2).get? (zP4 s.heap b1 b2 a1 a2).objs.size=some _:=Qi _ rfl
 have g4:(zP5 s.heap b1 b2 a1 a2).get? (zP3 s.heap b1 b2 a1 a2).objs.size=some _:=up (Qi _ rfl)
 have g3:(zP5 s.heap b1 b2 a1 a2).get? (zP2 s.heap b1 b2 a1 a2).objs.size=some _:=up (up (Qi _ rfl))
 have g2:(zP5 s.heap b1 b2 a1 a2).get? (zP1 s.heap b1 a1).objs.size=some _:=up (up (up (Qi _ fi2)))
 have g1:(zP5 s.heap b1 b2 a1 a2).get? s.heap.objs.size=some _:=up (up (up (up (Qi _ fi1))))
 show _/\_;rw[z2,z3,z4] at g5;rw[z1,z2] at g3;rw[z3] at g4;rw[z1] at g2;rw[z4];exact⟨⟨_,g5,rfl⟩,h _ g5 g3 g4 (.new g1) (.new g2) fun c o q=>up (up (up (up (up q))))⟩
end
end PySem

namespace L2
open PySem PySem.Spec PyProof.Rows
section
variable{X:Cx}{pins:List (Addr×Obj)}{σ:St}{H:Hp}{s:Shared}{h':Heap}
theorem Inv.turnedL{t':Nat}{fp:List Addr}(I:Inv X pins σ H s)(k:∀b o,b∉fp->s.heap.get? b=some o->h'.get? b=some o)(hf:∀b∈fp,FpOk X pins H b):Inv X pins σ H { s with heap:=h',toks:=t' }:=by
 have nit:∀b u,H b=some u->b∉fp:=fun b u e z=>by rw[(hf b z).1] at e;cases e
 refine I.step (g':=s.gens) (d':=s.drawn) (ch:=fp) (fun b hb=>?_) (fun b o _ _ hc e _=>k b o hc e) (fun b o _ _ hc e _=>⟨o.slots,k b o hc e⟩) (fun _ _ _ _ n=>n)
  (fun b o hc e=>⟨o,k b o hc e⟩) (fun _ _ e=>e) (fun _ _ _ e=>e) (fun b ps e=>⟨#[],by rw[e];simp⟩) (fun m hm=>?_) (fun b u e=>?_) I.bare
 ·obtain⟨f0,f1,f2,f3,f4,f5⟩:=hf b hb;exact⟨f3,f1,f4,f5⟩
 ·obtain⟨o,es,ep,ho,r⟩:=hm;exact⟨o,es,ep,k _ o (fun z=>(hf _ z).2.1 rfl) ho,r⟩
 ·refine(I.hok b u e).stay (fun c v hc q=>k c v ?_ q) (fun _ q=>q) fun _ _ q=>q
  rcases hc with z|z
  ·rw[z];exact nit b u e
  ·exact nit c _ z
noncomputable def Sq(b:Bool)(K:Frag)(H:Hp)(a:Addr)(xs:List V):Prop:=match b with
 | true=>SqT K H a xs
 | false=>SqL K H a xs
theorem Sq.heap{b:Bool}{a:Addr}{xs:List V}(I:Inv X pins σ H s)(q:Sq b X.K H a xs):∃its:List Value,Vals xs its/\IsSq b s.heap a its.toArray:=by
 cases b with
 | true=>obtain⟨its,r,p,_⟩:=I.tuple q;exact⟨its,r,p⟩
 | false=>obtain⟨its,r,p,_⟩:=I.list q;exact⟨its,r,p.isList⟩
theorem Sq.inj{b:Bool}{a:Addr}{xs ys:List V}(I:Inv X pins σ H s)(q:Sq b X.K H a xs)(q':Sq b X.K H a ys):xs=ys:=by
 cases b with
 | true=>exact I.tuple_inj q q'
 | false=>exact I.list_inj q q'
theorem FpOk.off{b:Bool}{a c:Addr}{xs:List V}(I:Inv X pins σ H s)(q:Sq b X.K H a xs)(f:FpOk X pins H c):a≠c:=by
 intro e;subst e;have own:∀{o:HO},H a=some o->False:=fun h=>by rw[f.1] at h;cases h
 have mod:∀{o:Obj},X.K.lookup a=some o->False:=fun {o} h=>by
  have hb:=I.ok.mod.kin a o h;rcases f.2.2.2.1 with z|z
  ·exact I.ok.noex a o hb z
  ·exact absurd (Qj hb) (LW.mpr (Gn I.ok.bsz z))
 cases b with
 | true =>
  rcases q with (h|⟨o,h⟩)|⟨o,its,n,h,_⟩
  ·exact own h
  ·exact own h
  ·exact mod h
 | false =>
  rcases q with (h|⟨o,h⟩)|⟨o,its,n,h,_⟩
  ·exact own h
  ·exact own h
  ·exact mod h
noncomputable def Itz(K:Frag)(b1 b2:Bool)(a1 a2:Addr):It :=
 ⟨fun i H=>∃xs ys x y,Sq b1 K H a1 xs/\Sq b2 K H a2 ys/\xs[i]?=some x/\ys[i]?=some y,
  fun i H x H'=>∃p u v,x=.ref p/\H p=none/\H'=upd H p (.tup [u,v])/\∀xs ys,Sq b1 K H a1 xs->Sq b2 K H a2 ys->xs[i]?=some u/\ys[i]?=some v,
  fun i H=>∃xs ys,Sq b1 K H a1 xs/\Sq b2 K H a2 ys/\i=min xs.length ys.length⟩
noncomputable def ZSt(b1 b2:Bool)(a1 a2 z TI TO i1 i2:Addr)(i:Nat)(h:Heap):Prop:=IsZip h z TI TO .none/\IsPair h TI (.ref i1) (.ref i2)/\(∃a b,IsPair h TO a b)/\IsItr b1 h i1 a1 i/\IsItr b2 h i2 a2 i
theorem IsItr.keep{b:Bool}{h h':Heap}{j a:Addr}{i:Nat}(q:IsItr b h j a i)(k:∀o,h.get? j=some o->h'.get? j=some o):IsItr b h' j a i:=by
 cases b with
 | true=>obtain⟨o,e,r⟩:=q;exact⟨o,k o e,r⟩
 | false=>obtain⟨o,e,r⟩:=q;exact⟨o,k o e,r⟩
theorem IsItr.obj{b:Bool}{h:Heap}{j a:Addr}{i:Nat}(q:IsItr b h j a i):∃o,h.get? j=some o/\∀v,o.data≠.cell v:=by
 cases b with
 | true=>obtain⟨o,e,_,d⟩:=q;exact⟨o,e,fun v z=>by rw[d] at z;cases z⟩
 | false=>obtain⟨o,e,_,d⟩:=q;exact⟨o,e,fun v z=>by rw[d] at z;cases z⟩
end
theorem Jnu{X:Cx}{pins:List (Addr×Obj)}{σ:St}{H:Hp}{s:Shared}{b1 b2:Bool}{a1 a2 z TI TO i1 i2:Addr}{xs ys:List V}(I:Inv X pins σ H s)(q1:Sq b1 X.K H a1 xs)(q2:Sq b2 X.K H a2 ys)(hf:∀b∈[z,TI,TO,i1,i2],FpOk X pins H b)
 (nd:[z,TI,TO,i1,i2].Nodup):ZA z TI TO i1 i2 [i1,a1] [i2,a2]:=by
 have o1:∀c∈[z,TI,TO,i1,i2],a1≠c:=fun c hc=>FpOk.off I q1 (hf c hc)
 have o2:∀c∈[z,TI,TO,i1,i2],a2≠c:=fun c hc=>FpOk.off I q2 (hf c hc)
 simp only[QX,Qh,Q0,or_false,not_or] at nd;obtain⟨⟨n1,n2,n3,n4⟩,⟨n5,n6,n7⟩,⟨n8,n9⟩,n10,_⟩:=nd;have c1:=o1 z (by simp);have c2:=o1 TI (by simp);have c3:=o1 TO (by simp);have c4:=o1 i2 (by simp);have d1:=o2 z (by simp);have d2:=o2 TI (by simp);have d3:=o2 TO (by simp);have d4:=o2 i1 (by simp);refine⟨QN n1,QN n2,n5,by simp,by simp,?_,?_,?_,?_,?_,?_,?_,?_⟩ <;> simp only[Qh,Q0,or_false,not_or]
 ·exact⟨n3,QN c1⟩
 ·exact⟨n4,QN d1⟩
 ·exact⟨n6,QN c2⟩
 ·exact⟨n7,QN d2⟩
 ·exact⟨n8,QN c3⟩
 ·exact⟨n9,QN d3⟩
 ·exact⟨n10,QN d4⟩
 ·exact⟨QN n10,QN c4⟩
theorem JkD{P:Program}{w:World}{K:Frag}{elts:List Expr}{kk:Nat}{pos:Pos}(b1 b2:Bool)(a1 a2 z TI TO i1 i2:Addr)(nd:[z,TI,TO,i1,i2].Nodup) :
 Turn P w K (.Tuple elts kk pos) (Itz K b1 b2 a1 a2) [z,TI,TO,i1,i2] z (ZSt b1 b2 a1 a2 z TI TO i1 i2) where
 mem:=by simp
 obj:=fun i h st b hb=>by
  obtain⟨s1,s2,⟨u,v,s3⟩,s4,s5⟩:=st;simp only[Qh,Q0,or_false] at hb;rcases hb with rfl|rfl|rfl|rfl|rfl
  ·exact⟨_,s1,fun v z=>nomatch (show Data.fields _=Data.cell v from z)⟩
  ·exact⟨_,s2,fun v z=>nomatch (show Data.seq _ _=Data.cell v from z)⟩
  ·exact⟨_,s3,fun v z=>nomatch (show Data.seq _ _=Data.cell v from z)⟩
  ·exact IsItr.obj (b:=b1) s4
  ·exact IsItr.obj (b:=b2) s5
 keep:=fun i h h' st k=>by obtain⟨s1,s2,⟨u,v,s3⟩,s4,s5⟩:=st;exact⟨k z (by simp) _ s1,k TI (by simp) _ s2,⟨u,v,k TO (by simp) _ s3⟩,IsItr.keep (b:=b1) s4 fun o e=>k i1 (by simp) o e,IsItr.keep (b:=b2) s5 fun o e=>k i2 (by simp) o e⟩
 item:=by
  intro X hP hw hK hc i pins s σ H E I hf st hg;subst hP hw hK;obtain⟨xs,ys,x,y,q1,q2,e1,e2⟩:=hg;obtain⟨its,r1,p1⟩:=q1.heap I;obtain⟨jts,r2,p2⟩:=q2.heap I;obtain⟨s1,s2,⟨u0,v0,s3⟩,s4,s5⟩:=st;have Z:=Jnu I q1 q2 hf nd;have hh:X.A.in1.handled=none:=I.ok.hd hc;have ne1:a1≠i1:=FpOk.off I q1 (hf i1 (by simp));have ne2:a2≠i2:=FpOk.off I q2 (hf i2 (by simp));have D1:=Draws.sq (prog:=X.prog) (w:=X.w) (b:=b1) (xs:=its.toArray) hh i1 ne1
  have D2:=Draws.sq (prog:=X.prog) (w:=X.w) (b:=b2) (xs:=jts.toArray) hh i2 ne2
  have hT:s.TypeIs (.ref z) "zip":=⟨_,s1,rfl⟩
  have l1:i<its.toArray.size:=by have:=(Qk.mp e1).1;rw[Qo,<- r1.length];exact this
  have l2:i<jts.toArray.size:=by have:=(Qk.mp e2).1;rw[Qo,<- r2.length];exact this
  unfold pyNext;refine Qa (GP (QJ (name:=Q1 "__next__") hT GD (QV GD hT KN (JbN Z D1 D2 s1 s2 s3 ⟨s4,p1⟩ ⟨s5,p2⟩ l1 l2 fun u v k tk pu pv t1 t2 t3 t4 t5 t6 t7 t8=>Qf ?_) (KE _))));refine⟨_,rfl,wpAny_letOwnedTupleGo_zip (s:={ s with heap:=k,toks:=tk }) t1 fun k2 t9 e9=>?_⟩
  replace e9:QB z k k2:=e9;obtain⟨ux,hx1,rx⟩:=r1.get e1;obtain⟨uy,hy1,ry⟩:=r2.get e2
  have eu:u=ux:=by
   have pu':its[i]?=some u:=by simpa using pu
   rw[hx1] at pu';exact(QH pu').symm
  have ev:v=uy:=by
   have pv':jts[i]?=some v:=by simpa using pv
   rw[hy1] at pv';exact(QH pv').symm
  subst eu ev
  have zlt:∀b∈[z,TI,TO,i1,i2],b<s.heap.objs.size:=fun b hb=>by
   simp only[Qh,Q0,or_false] at hb;rcases hb with rfl|rfl|rfl|rfl|rfl
   ·exact Qj s1
   ·exact Qj s2
   ·exact Qj s3
   ·obtain⟨_,e,_⟩:=IsItr.obj (b:=b1) s4;exact Qj e
   ·obtain⟨_,e,_⟩:=IsItr.obj (b:=b2) s5;exact Qj e
  have nz:s.heap.objs.size≠z:=Ga (zlt z (by simp))
  -- the pair is laid,then the private objects turn
  have I1:Inv X pins σ (upd H s.heap.objs.size (.tup [x,y])) { s with heap:=s.heap.push { cls:=.type "tuple",data:=.seq #[u,v] },toks:=s.toks } :=
   I.laid (o:=.tup [x,y]) (fun b ob q=>Qg _ q) (Qn _) ⟨by show 2<=sizeLine;decide,[u,v],.cons rx (.cons ry .nil),⟨_,Qi _ rfl,rfl,_,rfl⟩⟩
  have hf1:∀b∈[z,TI,TO,i1,i2],FpOk X pins (upd H s.heap.objs.size (.tup [x,y])) b:=fun b hb=>⟨by rw[Jm (Qy (zlt b hb))];exact(hf b hb).1,(hf b hb).2⟩
  have I2:Inv X pins σ (upd H s.heap.objs.size (.tup [x,y])) { s with heap:=k2,toks:=tk }:=Inv.turnedL (s:={ s with heap:=s.heap.push { cls:=.type "tuple",data:=.seq #[u,v] },toks:=s.toks }) I1 (fun b o hb q=>by
   simp only[Qh,Q0,or_false,not_or] at hb;refine e9.extBut b o hb.1 ?_
   by_cases hbs:b=s.heap.objs.size
   ·subst hbs;have q':(s.heap.push { cls:=.type "tuple",data:=.seq #[u,v] }).get? s.heap.objs.size=some o:=q;rw[Qi _ rfl] at q';cases q';exact t6
   ·have q':s.heap.get? b=some o:=by have q2:(s.heap.push { cls:=.type "tuple",data:=.seq #[u,v] }).get? b=some o:=q;exact(Mw s.heap b _ hbs).symm.trans q2
    exact t8 b o hb.1 hb.2.2.1 hb.2.2.2.1 hb.2.2.2.2 q') hf1
  refine⟨.ref s.heap.objs.size,_,I2,rfl,⟨_,x,y,rfl,I.hok.fresh (Qn _),rfl,fun xs' ys' h1 h2=>?_⟩,⟨t9,e9.extBut _ _ Z.a1 t2,⟨_,_,e9.extBut _ _ Z.a2 t3⟩,?_,?_⟩,fun b hb=>(hf1 b hb).1⟩
  ·rw[Sq.inj I h1 q1,Sq.inj I h2 q2];exact⟨e1,e2⟩
  ·exact IsItr.keep (b:=b1) t4.1 fun o e=>e9.extBut _ _ (fun q=>Z.z1 (q▸Z.m1)) e
  ·exact IsItr.keep (b:=b2) t5.1 fun o e=>e9.extBut _ _ (fun q=>Z.z2 (q▸Z.m2)) e
 done:=by
  intro X hP hw hK hc i pins s σ H E I hf st hg;subst hP hw hK;obtain⟨xs,ys,q1,q2,ei⟩:=hg;obtain⟨its,r1,p1⟩:=q1.heap I;obtain⟨jts,r2,p2⟩:=q2.heap I;obtain⟨s1,s2,⟨u0,v0,s3⟩,s4,s5⟩:=st;have Z:=Jnu I q1 q2 hf nd;have hh:X.A.in1.handled=none:=I.ok.hd hc;have D1:=Draws.sq (prog:=X.prog) (w:=X.w) (b:=b1) (xs:=its.toArray) hh i1 (FpOk.off I q1 (hf i1 (by simp)));have D2:=Draws.sq (prog:=X.prog) (w:=X.w) (b:=b2) (xs:=jts.toArray) hh i2 (FpOk.off I q2 (hf i2 (by simp)))
  have hT:s.TypeIs (.ref z) "zip":=⟨_,s1,rfl⟩
  have n1:its.toArray.size=xs.length:=by rw[Qo,r1.length]
  have n2:jts.toArray.size=ys.length:=by rw[Qo,r2.length]
  unfold pyNext;refine Qa (GP (QJ (name:=Q1 "__next__") hT GD (QV GD hT KN (JeE Z D1 D2 s1 s2 s3 ⟨s4,p1⟩ ⟨s5,p2⟩ (by omega) fun k e tk kk he=>?_) (KE _))));obtain⟨o,ho,hoc⟩:=he;refine Qa (Ke (T:="StopIteration") (b:=true) ⟨o,ho,hoc⟩ Lh (Qf ⟨rfl,?_⟩));exact I.turnedL (fun b o hb q=>by simp only[Qh,Q0,or_false,not_or] at hb;exact kk b o hb.1 hb.2.2.1 hb.2.2.2.1 hb.2.2.2.2 q) hf
 self:=fun _ _ _ _ _ st h=>MP st.1 h
noncomputable def iZp(K:Frag)(ta:TA):TI:=fun σ H R=>ta σ H fun vs H1=>∃(b1 b2:Bool) (a1 a2:Addr) (xs ys:List V),vs=[.ref a1,.ref a2]/\Sq b1 K H1 a1 xs/\Sq b2 K H1 a2 ys/\R (Itz K b1 b2 a1 a2) H1
theorem JgG{X:Cx}{K:Frag}{elts:List Expr}{kk:Nat}{tpos:Pos}{a b:Expr}{ta:TA}{p pos:Pos}(hK:X.K=K)(hg:Gl X "zip")(hm:X.mg "zip"=none)(ha:PA X [a,b] ta)(hs:starEach [a,b] X.env=[(false,eval a X.env),(false,eval b X.env)]:=by rfl)
 (hs2:starEach [b] X.env=[(false,eval b X.env)]:=by rfl):PI X (.Tuple elts kk tpos) (.Call (.Name "zip" p) [a,b] [] pos) (iZp K ta):=by
 subst hK;intro pins s σ H R I h;refine Call_ (U1 I hg hm JiA (Gg (thn (ha pos pins s σ H _ I h) fun us s1 ⟨vs,H1,I1,r1,q1⟩=>?_) (by rw[hs,hs2]) (by rw[hs2];rfl)));obtain⟨b1,b2,a1,a2,xs,ys,e,c1,c2,q⟩:=q1;subst e
 cases r1 with
 | cons r rr =>
 cases rr with
 | cons r' rr =>
 cases rr;cases r;cases r';obtain⟨its,w1,p1⟩:=c1.heap I1;obtain⟨jts,w2,p2⟩:=c2.heap I1;refine Jbi p1 p2 fun h' t1 t2 t3 t4 t5 kp=>MP t1 ?_
 refine⟨_,[s1.heap.objs.size+4,s1.heap.objs.size+2,s1.heap.objs.size+3,s1.heap.objs.size,s1.heap.objs.size+1],_,_,H1,rfl,I1.kept (t':=s1.toks) kp,JkD b1 b2 a1 a2 _ _ _ _ _ (by simp),⟨t1,t2,⟨_,_,t3⟩,t4,t5⟩,fun b hb=>?_,q⟩
 have hle:s1.heap.objs.size<=b:=by simp only[Qh,Q0,or_false] at hb;rcases hb with rfl|rfl|rfl|rfl|rfl <;> first|exact Qn _|exact LX _ _
 exact I1.fpOk hle (I1.hok.fresh hle)
end L2

namespace LE
open PySem L2 LR
noncomputable def JcR(ds es:List D):List D:=List.zipWith (fun a b=>.tup [a,b]) ds es
noncomputable def Jlx(m:Bool)(as:En->Option (List Sl)):En->Option (List D):=fun E=>(as E).bind fun ss=>match ss with
 | [s,t]=>(s.it m).bind fun ds=>(t.it m).bind fun es=>some (JcR ds es)
 | _=>none
section
variable{K:Frag}{C:Addr}{m:Bool}
theorem JhA{H H1 H1':Hp}{v:V}{s:Sl}{ds:List D}(r:RR K C H H1 H1' v s)(i:Same H1 H1')(e:s.it m=some ds) :
 ∃(b:Bool) (a:Addr) (xs:List V),v=.ref a/\(∀A,(m=true->A=H1')->∀H0' H',SStep A (Ya H H1 H1') H0' H'->Sq b K H' a xs)/\RDL K C (Ya H H1 H1') xs ds:=by
 have f:=J2 (Hs:=H) i
 have shared:∀{d:D},RD K C (Ya H H1 H1') v d->(Sl.sh d).q=some ds->∃(b:Bool) (a:Addr) (xs:List V),v=.ref a/\(∀A,(m=true->A=H1')->∀H0' H',SStep A (Ya H H1 H1') H0' H'->Sq b K H' a xs)/\RDL K C (Ya H H1 H1') xs ds:=fun {d} r e=>by
  cases d with
  | lst es=>cases e;obtain⟨l,xs,h1,h2,h3⟩:=RD.lstI r;exact⟨false,l,xs,h1,fun A _ H0' H' st=>SqL.of (st.i _ _ (st.z _ _ h2)),h3⟩
  | fz es=>cases e;obtain⟨l,xs,h1,h2,h3⟩:=RD.fzI r;exact⟨false,l,xs,h1,fun A _ H0' H' st=>(st.z.trans st.i).seq h2,h3⟩
  | tup es=>cases e;obtain⟨l,xs,h1,h2,h3⟩:=RD.tupI r;exact⟨true,l,xs,h1,fun A _ H0' H' st=>(st.z.trans st.i).seqT h2,h3⟩
  | _=>cases e
 cases s with
 | no=>cases e
 | sh d=>exact shared (RD.mono f.z r) e
 | own es=>exact shared (RR.frz (s:=.own es) i r rfl) e
 | bd _ _=>cases e
 | bt _ _=>cases e
 | od _ _=>cases e
 | ot _ _=>cases e
 | bo es =>
  unfold Sl.it at e;dsimp only at e;split at e
  ·next hm=>cases e;obtain⟨l,xs,h1,h2,h3⟩:=r;refine⟨false,l,xs,h1,fun A hA H0' H' st=>?_,h3.mono f.z⟩;have:=hA hm;subst this;exact SqL.of (st.b _ _ h2)
  ·cases e
theorem Jkc{t:TA}{ev:En->Option (List Sl)}(ha:SA K C t ev):SI K C m (iZp K t) (Jlx m ev):=by
 intro B H0 H σ E ds R I e q;obtain⟨ss,e1,e⟩:=bind_some e;split at e
 ·next s u =>
  obtain⟨ds1,e2,e⟩:=bind_some e;obtain⟨ds2,e3,e⟩:=bind_some e;cases e;refine ha B H0 H σ E _ _ I e1 fun vs H1 H1' s1 r1=>?_
  obtain⟨v,w,rfl,ra,rb⟩:=r1.two;have f:=J2 (Hs:=H) s1.i;obtain⟨b1,a1,xs,rfl,k1,w1⟩:=JhA ra s1.i e2;obtain⟨b2,a2,ys,rfl,k2,w2⟩:=JhA rb s1.i e3;have hA:m=true->(if m=true then H1' else B)=H1':=fun h=>if_pos h
  have sA:Same (if m=true then H1' else B) H1':=by
   split
   ·exact Same.refl _
   ·exact I.b.trans s1.h
  have st0:SStep (if m=true then H1' else B) (Ya H H1 H1') (Ya H H1 H1') H1':=⟨sA,Same.refl _,fun _ _ e=>.inl e,f.i⟩
  refine⟨b1,b2,a1,a2,xs,ys,rfl,k1 _ hA _ _ st0,k2 _ hA _ _ st0,q _ _ _ (s1.comp f fun _ z=>z) ?_⟩;intro H0' H' st;have q1:=k1 _ hA _ _ st;have q2:=k2 _ hA _ _ st;refine⟨fun i d e=>?_,⟨xs,ys,q1,q2,by unfold JcR;rw[List.length_zipWith,w1.1,w2.1]⟩⟩;unfold JcR at e;rw[Re] at e
  cases g1:ds1[i]? with
  | none=>rw[g1] at e;cases e
  | some d1 =>
   cases g2:ds2[i]? with
   | none=>rw[g1,g2] at e;cases e
   | some d2 =>
    rw[g1,g2] at e;cases e;obtain⟨x,x1,x2⟩:=w1.get g1;obtain⟨y,y1,y2⟩:=w2.get g2;refine⟨⟨xs,ys,x,y,q1,q2,x1,y1⟩,?_⟩;rintro z H2 ⟨p,u',v',rfl,hp,rfl,hv⟩;obtain⟨h1,h2⟩:=hv xs ys q1 q2;rw[x1] at h1;cases h1;rw[y1] at h2;cases h2;have h0:H0' p=none:=Same.free st.i hp;refine⟨upd H0' p (.tup [x,y]),⟨.new hp,.new h0,fun a o e=>?_,fun a o e=>?_⟩,?_⟩
    ·by_cases h:a=p
     ·subst h;exact .inr (.inl hp)
     ·rw[Jm h] at e;exact .inl e
    ·by_cases h:a=p
     ·subst h;rw[Jv] at e ⊢;exact e
     ·rw[Jm h] at e ⊢;exact st.i a o e
    ·exact .mkT (.of Jv) (.cons (x2.mono (st.z.trans (.new h0))) (.cons (y2.mono (st.z.trans (.new h0))) .nil))
 ·cases e
theorem JcS{α β:Type}(f:α->D)(g:β->D)(xs:List α)(ys:List β):JcR (xs.map f) (ys.map g)=(MQ xs ys).map fun p=>.tup [f p.1,g p.2]:=by
 unfold JcR
 induction xs generalizing ys with
 | nil=>rfl
 | cons x xs ih=>cases ys with
  | nil=>rfl
  | cons y ys=>simp[ih]
end
end LE

namespace PySem
namespace F
theorem Jj9:Manifest.owners.lookup (String.ofList ['d','e','s','r','e','v','e','r'].reverse)=some Manifest.sig_reversed:=by kernel_rfl
theorem JcF:Slot "reversed" "__init__" "object.__init__" :=
 .of (owner:="object") (n:="__init__") (by rw[typeLookup_type,builtinLookup_eq_fast];kernel_rfl) (by decide +kernel) (by decide +kernel) (by decide +kernel) (by first | exact .inl (by decide +kernel) | exact .inr (by decide +kernel)) (by rw[KO];kernel_rfl)
theorem rv_slot_next:Slot "reversed" "__next__" "reversed.__next__" :=
 .of (owner:="reversed") (n:="__next__") (by rw[typeLookup_type,builtinLookup_eq_fast];kernel_rfl) (by decide +kernel) (by decide +kernel) (by decide +kernel) (by first | exact .inl (by decide +kernel) | exact .inr (by decide +kernel)) (by rw[KO];kernel_rfl)
theorem rv_slot_iter:Slot "reversed" "__iter__" "reversed.__iter__" :=
 .of (owner:="reversed") (n:="__iter__") (by rw[typeLookup_type,builtinLookup_eq_fast];kernel_rfl) (by decide +kernel) (by decide +kernel) (by decide +kernel) (by first | exact .inl (by decide +kernel) | exact .inr (by decide +kernel)) (by rw[KO];kernel_rfl)
theorem rv_args_next(a:Value):argsOk "reversed.__next__" ⟨[a],[]⟩:=by unfold argsOk;rw[signature?_of (id:="reversed.__next__") (n:=['_','_','t','x','e','n','_','_']) (o:=['d','e','s','r','e','v','e','r']) (by kernel_rfl) Jj9];kernel_rfl
theorem rv_args_iter(a:Value):argsOk "reversed.__iter__" ⟨[a],[]⟩:=by unfold argsOk;rw[signature?_of (id:="reversed.__iter__") (n:=['_','_','r','e','t','i','_','_']) (o:=['d','e','s','r','e','v','e','r']) (by kernel_rfl) Jj9];kernel_rfl
theorem rv_entry_next:entryFor table "reversed.__next__"=some Builtin.«reversed.__next__»:=entryFor_of_tree (by kernel_rfl)
theorem rv_entry_iter:entryFor table "reversed.__iter__"=some Builtin.«dict_keyiterator.__iter__» :=
 entryFor_alias (id':="dict_keyiterator.__iter__") (by kernel_rfl) (by first | rfl | decide +kernel | (unfold String.splitOn;simp +decide [String.splitOnAux])) (by decide +kernel) (by kernel_rfl)
theorem rv_called:TypeCalled "reversed" "reversed.__new__" "object.__init__" :=
 ⟨by decide +kernel,by decide +kernel,⟨_,_,mro_reversed⟩,made_reversed,by decide +kernel,sub_reversed_self,JcF⟩
theorem rv_tuple_none:typeLookup (.type "tuple") "__reversed__"=pure none:=by rw[typeLookup_type,builtinLookup_eq_fast];kernel_rfl
theorem rv_tuple_dict:isSubtype (.type "tuple") (.type "dict")=pure false:=by rw[KO];kernel_rfl
end F
abbrev JeG(h:Heap)(r a:Addr)(i:Int):Prop:=h.get? r=some { cls:=.type "reversed",dict:=none,data:=.fields #[.ref a,rawInt i],slots:=#[] }
section
variable{prog:Program}{w:World}{A:Around}{E:Value->Shared->Prop}{s:Shared}{a r:Addr}{xs:Array Value}
theorem Jjx(a:Addr)(xs:Array Value):Meets (Builtin.«reversed.__new__» ⟨[.type "reversed",.ref a],[]⟩) (fun _ R s=>s.heap.IsTuple a xs/\(xs.size:Int)<2 ^ 63 ∧
 R (.ok (.ret (.ref s.heap.objs.size))) { s with heap:=s.heap.push { cls:=.type "reversed",data:=.fields #[.ref a,rawInt ((xs.size:Int)-1)] },toks:=s.toks+1+1 }) :=
 .of_wp fun prog w A R s h=>by
  obtain⟨hp,g,d,tk,os⟩:=s;obtain⟨q1,q2,h⟩:=h;have hT:(⟨hp,g,d,tk,os⟩:Shared).TypeIs (.ref a) "tuple":=q1.typeIs;unfold Builtin.«reversed.__new__»;refine Qa (Ki (newClass_reversed _) ?_)
  try dsimp only
  refine Qa (Ki (a:=()) (by first|rfl|kernel_rfl) ?_);refine Qa (Ki (a:=()) (by first|rfl|kernel_rfl) ?_)
  try dsimp only
  refine Qa (KB hT F.rv_tuple_none ?_)
  try dsimp only
  refine Qa ?_;refine Qa (m:=isInstance (.ref a) (.type "dict")) (Ke hT F.rv_tuple_dict ?_);refine Qa (KB hT Gd.lookup ?_);refine Qf ?_;refine Qa (PyProof.Rows.len_tuple (s:=⟨hp,g,d,tk,os⟩) q1 q2 ?_);refine Qa (Ki (a:=some (xs.size:Int)) rfl ?_)
  try dsimp only
  refine Qa ?_;show wpAny _ _ (newObj (.type "reversed") (.fields #[.ref a,rawInt ((xs.size:Int)-1)])) _ _ _;exact QZ (Qf ⟨_,rfl,h⟩) (by size_fits)
theorem Jk1{Q:Value->Shared->Prop}(q1:s.heap.IsTuple a xs)(q2:(xs.size:Int)<2 ^ 63)
 (h:∀h' tk,JeG h' s.heap.objs.size a ((xs.size:Int)-1)->(∀c o,s.heap.get? c=some o->h'.get? c=some o)->Q (.ref s.heap.objs.size) { s with heap:=h',toks:=tk }) :
 wpAny (model prog w) A (call (.type "reversed") [.ref a]) Q E s:=by
 refine callType_new F.rv_called (by decide) (F.typeCall_reversed_1 _) (F.newCall_reversed_1 _) (fun obj=>F.args_object_init_2 obj _) F.entry_reversed_new (Jjx a xs) ⟨q1,q2,?_⟩;exact⟨⟨_,Qi _ rfl,rfl⟩,h _ _ (Qi _ rfl) fun c o q=>Qg _ q⟩
theorem JlV{i:Nat}{x:Value}{Q:Option Value->Shared->Prop}(hit:JeG s.heap r a (i:Int))(hl:s.heap.IsTuple a xs)(hb:(i:Int)<2 ^ 63)(hx:xs[i]?=some x)
 (hQ:∀h' tk,JeG h' r a ((i:Int)-1)->QB r s.heap h'->Q (some x) { s with heap:=h',toks:=tk }):wpAny (model prog w) A (pyNext (.ref r)) Q E s:=by
 have hT:s.TypeIs (.ref r) "reversed":=⟨_,hit,rfl⟩
 have hi:i<xs.size:=by
  by_cases z:i<xs.size
  ·exact z
  ·rw[Array.getElem?_eq_none (by omega)] at hx;cases hx
 unfold pyNext;refine Qa (GP (QJ (name:=Q1 "__next__") hT F.rv_slot_next
  (QV F.rv_slot_next hT F.rv_entry_next ?_ (F.rv_args_next _))))
 unfold Builtin.«reversed.__next__»;refine Qa (Ki (a:=(Value.ref r,[])) rfl ?_)
 try dsimp only
 refine Qa (QR hit rfl (x:=.ref a) rfl ?_);refine Qa (QR hit rfl (x:=rawInt (i:Int)) rfl ?_);show wpAny _ _ (if (i:Int)<0 then _ else _) _ _ s;rw[if_neg (by omega)];show wpAny _ _ (specialOf (.ref a) _ >>= _) _ _ s;refine Qa (KB hl.typeIs Gd.lookup ?_);show wpAny _ _ (mkInt (i:Int) >>= _) _ _ s;refine Qa (wpAny_mkInt ?_);refine Qa (GP (PyProof.Rows.getItem_tuple (s:={ s with toks:=s.toks+1 }) hl (by omega) hb (j:=i) (by simp[seqIndex?];omega) hx ?_))
 show wpAny _ _ (field (.ref r) 1 >>= _) _ _ _;refine Qa (QR hit rfl (x:=rawInt (i:Int)) rfl ?_)
 show wpAny _ _ (setField (.ref r) 1 (rawInt ((i:Int)-1)) >>= _) _ _ _;refine Qa (Gc hit (by simp) fun k1 y1 e1=>?_);exact Qf ⟨x,rfl,Qf (hQ k1 _ y1 e1)⟩
theorem JnJ{Q:Option Value->Shared->Prop}(hh:A.handled=none)(hit:JeG s.heap r a (-1))
 (hQ:∀h',KD r s.heap h'->Q none { s with heap:=h' }):wpAny (model prog w) A (pyNext (.ref r)) Q E s:=by
 have hT:s.TypeIs (.ref r) "reversed":=⟨_,hit,rfl⟩
 unfold pyNext;refine Qa (GP (QJ (name:=Q1 "__next__") hT F.rv_slot_next
  (QV F.rv_slot_next hT F.rv_entry_next ?_ (F.rv_args_next _))))
 unfold Builtin.«reversed.__next__»;refine Qa (Ki (a:=(Value.ref r,[])) rfl ?_)
 try dsimp only
 refine Qa (QR hit rfl (x:=.ref a) rfl ?_);refine Qa (QR hit rfl (x:=rawInt (-1)) rfl ?_);show wpAny _ _ (if (-1:Int)<0 then _ else _) _ _ s;rw[if_pos (by decide)];refine Qa (Kc ?_);refine Qa ?_;refine Qa (m:=setField (.ref r) 1 (rawInt (-1))) (Gc hit (by simp) fun k1 y1 e1=>?_);refine Gc (s:={ s with heap:=k1 }) y1 (by simp) fun k2 y2 e2=>?_
 refine Qa ?_;show wpAny _ _ (newExc (.type "StopIteration") [] >>= _) _ _ _;refine Qa ?_;simp only[newExc,newTuple];refine Qa (QZ ?_ (by size_fits));refine Qa (m:=firstArgMember _ _) (Ki (a:=Value.none) (by first | rfl | (simp only[firstArgMember];rfl)) ?_);refine QZ ?_ (by size_fits);simp only[raiseNew];refine Qa (wpAny_handled ?_)
 first|rw[show A.in1.handled=none from hh]|rw[hh]
 refine Qa (Qf (wpAny_throw ?_));refine Qa (Ke (T:="StopIteration") (b:=true) ⟨_,Qi _ rfl,rfl⟩ Lh ?_)
 replace e1:QB r s.heap k1:=e1
 replace e2:QB r k1 k2:=e2;refine Qf (hQ _ ?_);exact(RV (RV (fun b o hb q=>e2.extBut b o hb (e1.extBut b o hb q)) _) _)
theorem Jgn{i:Int}{Q:Value->Shared->Prop}(hit:JeG s.heap r a i)(h:Q (.ref r) s):wpAny (model prog w) A (pyIter (.ref r)) Q E s:=by
 have hT:s.TypeIs (.ref r) "reversed":=⟨_,hit,rfl⟩
 refine Mx hT F.rv_slot_iter (QV F.rv_slot_iter hT F.rv_entry_iter ?_ (F.rv_args_iter _));show wpAny _ _ (ret (.ref r)) _ _ s;exact Qf ⟨_,rfl,"reversed",_,hT,F.rv_slot_next.lookup,h⟩
end
end PySem
namespace L2
open PySem PySem.Spec PyProof.Rows
noncomputable def Itv(K:Frag)(b:Bool)(a:Addr)(n:Nat):It :=
 ⟨fun i H=>i<n/\∃xs,Sq b K H a xs/\xs.length=n,fun i H x H'=>H'=H/\∀xs,Sq b K H a xs->xs[n-1-i]?=some x,fun i _=>i=n⟩
noncomputable def JqE(b:Bool)(r a:Addr)(i:Int)(h:Heap):Prop:=match b with
 | true=>JeG h r a i
 | false=>h.IsRevIter r a i
theorem Jhc{P:Program}{w:World}{K:Frag}{tg:Expr}(b:Bool)(a r:Addr)(n:Nat)(hn:n<=sizeLine):Turn P w K tg (Itv K b a n) [r] r (fun i h=>JqE b r a ((n:Int)-1-(i:Int)) h) where
 mem:=by simp
 obj:=fun i h st c hc=>by
  have e:c=r:=by simpa using hc
  subst e
  cases b with
  | true=>exact⟨_,st,fun v z=>nomatch (show Data.fields _=Data.cell v from z)⟩
  | false=>obtain⟨o,e,_,d⟩:=st;exact⟨o,e,fun v z=>by rw[d] at z;cases z⟩
 keep:=fun i h h' st k=>by
  cases b with
  | true=>exact k r (by simp) _ st
  | false=>exact Heap.IsRevIter.at st fun o e=>k r (by simp) o e
 item:=by
  intro X hP hw hK hc i pins s σ H E I hf st hg;subst hP hw hK;obtain⟨hi,xs,hq,hlen⟩:=hg;obtain⟨f0,f1,f2,f3,f4,f5⟩:=hf r (by simp);obtain⟨its,rv,p⟩:=hq.heap I;obtain⟨x,hx⟩:∃x,xs[n-1-i]?=some x:=⟨xs[n-1-i]'(by omega),by simp⟩
  obtain⟨u,hu,ru⟩:=rv.get hx;have e:(n:Int)-1-(i:Int)=((n-1-i:Nat):Int):=by omega
  have e2:((n-1-i:Nat):Int)-1=(n:Int)-1-((i+1:Nat):Int):=by omega
  rw[e] at st;have hz:sizeLine<2 ^ 63:=by decide
  cases b with
  | true =>
   refine JlV (s:=s) st p (by omega) (x:=u) (by simpa using hu) fun h' tk st' sb=>?_
   replace sb:QB r s.heap h':=sb;have I1:Inv X pins σ H { s with heap:=h',toks:=tk }:=I.turned (fun b o hb e=>(sb.2 b hb).trans e) f0 f1 f3 f4 f5;rw[e2] at st';exact⟨u,rfl,Jdp (s:={ s with heap:=h',toks:=tk }) st' rfl rfl (by decide) ⟨x,H,I1,ru,⟨rfl,fun ys hy=>by rw[Sq.inj I hy hq];exact hx⟩,st',fun b hb=>(hf b hb).1⟩⟩
  | false =>
   refine wpAny_pyNext_rev_item (s:=s) st p (x:=u) (by simpa using hu) fun h' st' sb=>?_
   have I1:Inv X pins σ H { s with heap:=h' }:=I.turned (t':=s.toks) (fun b o hb e=>(sb.2 b hb).trans e) f0 f1 f3 f4 f5;rw[e2] at st';obtain⟨o,eo,co,d⟩:=id st';exact⟨u,rfl,Jdp (s:={ s with heap:=h' }) eo co d (by decide) ⟨x,H,I1,ru,⟨rfl,fun ys hy=>by rw[Sq.inj I hy hq];exact hx⟩,st',fun b hb=>(hf b hb).1⟩⟩
 done:=by
  intro X hP hw hK hc i pins s σ H E I hf st hg;subst hP hw hK;obtain⟨f0,f1,f2,f3,f4,f5⟩:=hf r (by simp)
  replace hg:i=n:=hg;have e:(n:Int)-1-(i:Int)=-1:=by omega
  rw[e] at st
  cases b with
  | true=>exact JnJ (s:=s) (a:=a) (I.ok.hd hc) st fun h' eb=>⟨rfl,I.turned (t':=s.toks) (fun b o hb e=>eb b o hb e) f0 f1 f3 f4 f5⟩
  | false=>exact wpAny_pyNext_rev_end (s:=s) (I.ok.hd hc) st fun h' eb=>⟨rfl,I.turned (t':=s.toks) (fun b o hb e=>eb b o hb e) f0 f1 f3 f4 f5⟩
 self:=fun _ i s _ _ st h=>by
  cases b with
  | true=>exact Jgn (s:=s) st h
  | false=>exact wpAny_pyIter_revIter (s:=s) st h
noncomputable def iRv(K:Frag)(ta:TA):TI:=fun σ H R=>ta σ H fun vs H1=>∃(b:Bool) (a:Addr) (xs:List V),vs=[.ref a]/\Sq b K H1 a xs/\R (Itv K b a xs.length) H1
theorem Jl8{X:Cx}{K:Frag}{tg:Expr}{a:Expr}{ta:TA}{p pos:Pos}(hK:X.K=K)(hg:Gl X "reversed")(hm:X.mg "reversed"=none)(ha:PA X [a] ta)(hs:starEach [a] X.env=[(false,eval a X.env)]:=by rfl)
:PI X tg (.Call (.Name "reversed" p) [a] [] pos) (iRv K ta):=by
 subst hK;intro pins s σ H R I h;refine Call_ (U1 I hg hm Jc5 (Gg (thn (ha pos pins s σ H _ I h) fun us s1 ⟨vs,H1,I1,r1,q1⟩=>?_) (by rw[hs];rfl) (by rfl)));obtain⟨b,a,xs,e,c1,q⟩:=q1;subst e
 cases r1 with
 | cons r rr =>
 cases rr;cases r
 have fresh:∀c∈[s1.heap.objs.size],FpOk X pins H1 c:=fun c hc=>by
  have e:c=s1.heap.objs.size:=by simpa using hc
  subst e;exact I1.fpOk (Qn _) (I1.hok.fresh (Qn _))
 have hz:sizeLine<2 ^ 63:=by decide
 cases b with
 | true =>
  obtain⟨its,rv,p1,sz⟩:=I1.tuple c1;have hl:=rv.length;refine Jk1 (s:=s1) (xs:=its.toArray) p1 (by rw[Qo];omega) fun h' tk t1 kp=>Jgn (s:={ s1 with heap:=h',toks:=tk }) t1 ?_
  refine⟨_,[s1.heap.objs.size],_,_,H1,rfl,I1.kept (t':=tk) kp,Jhc true a _ xs.length sz,?_,fresh,q⟩;show JeG h' s1.heap.objs.size a _;have e:(its.toArray.size:Int)-1=(xs.length:Int)-1-((0:Nat):Int):=by rw[Qo,<- hl];simp
  rw[<- e];exact t1
 | false =>
  obtain⟨its,rv,p1,sz⟩:=I1.list c1;have hl:=rv.length;refine call_reversed_list (s:=s1) p1.isList (wpAny_pyIter_revIter (l:=a) (i:=((its.toArray.size:Int)-1)) ⟨_,Qi _ rfl,rfl,rfl⟩ ?_);refine⟨_,[s1.heap.objs.size],_,_,H1,rfl,I1.kept (t':=s1.toks) fun b o e=>Qg _ e,Jhc false a _ xs.length sz,?_,fresh,q⟩;refine⟨_,Qi _ rfl,rfl,?_⟩;have e:(its.toArray.size:Int)-1=(xs.length:Int)-1-((0:Nat):Int):=by rw[Qo,<- hl];simp
  rw[e];rfl
end L2
namespace LE
open PySem L2 LR
noncomputable def JnW(m:Bool)(as:En->Option (List Sl)):En->Option (List D):=fun E=>(as E).bind fun ss=>match ss with
 | [s]=>(s.it m).map List.reverse
 | _=>none
section
variable{K:Frag}{C:Addr}{m:Bool}
theorem Jo8{t:TA}{ev:En->Option (List Sl)}(ha:SA K C t ev):SI K C m (iRv K t) (JnW m ev):=by
 intro B H0 H σ E ds R I e q;obtain⟨ss,e1,e⟩:=bind_some e;split at e
 ·next s =>
  obtain⟨ds1,e2,e⟩:=Gb.mp e;subst e;refine ha B H0 H σ E _ _ I e1 fun vs H1 H1' s1 r1=>?_
  obtain⟨v,rfl,ra⟩:=r1.one;have f:=J2 (Hs:=H) s1.i;obtain⟨b1,a1,xs,rfl,k1,w1⟩:=JhA ra s1.i e2;have hA:m=true->(if m=true then H1' else B)=H1':=fun h=>if_pos h
  have sA:Same (if m=true then H1' else B) H1':=by
   split
   ·exact Same.refl _
   ·exact I.b.trans s1.h
  have st0:SStep (if m=true then H1' else B) (Ya H H1 H1') (Ya H H1 H1') H1':=⟨sA,Same.refl _,fun _ _ e=>.inl e,f.i⟩
  refine⟨b1,a1,xs,rfl,k1 _ hA _ _ st0,q _ _ _ (s1.comp f fun _ z=>z) ?_⟩;intro H0' H' st;have q1:=k1 _ hA _ _ st;refine⟨fun i d e=>?_,by rw[KJ,w1.1];rfl⟩;have hi:i<ds1.length:=by have:=(Qk.mp e).1;rwa [KJ] at this
  rw[List.getElem?_reverse hi,<- w1.1] at e;obtain⟨x,x1,x2⟩:=w1.get e;refine⟨⟨by rw[w1.1];exact hi,xs,q1,rfl⟩,?_⟩;rintro z H2 ⟨rfl,hv⟩;have h1:=hv xs q1;rw[x1] at h1;cases h1;exact⟨H0',.refl st.i,x2.mono st.z⟩
 ·cases e
end
end LE

namespace PySem
open AutoSeq1 (wpAny_loadPart')
abbrev enO(it:Addr):Obj:={ cls:=.type "enumerate",data:=.fields #[.none,.bool false,.ref it,rawInt 0,.none,.none] }
theorem JhS(b:Bool)(a:Addr)(xs:Array Value):Meets (Builtin.«enumerate.__new__» ⟨[.type "enumerate",.ref a],[]⟩) (fun _ R s=>IsSq b s.heap a xs ∧
 R (.ok (.ret (.ref (s.heap.push (itO b a)).objs.size))) { s with heap:=(s.heap.push (itO b a)).push (enO s.heap.objs.size) }) :=
 .of_wp fun prog w A R s h=>by
  obtain⟨hp,g,d,tk,os⟩:=s;obtain⟨q,h⟩:=h;have hsub:=sub_enumerate;have r:IsSq b (RW ⟨hp,g,d,tk,os⟩) a xs:=q
  obtain⟨o,hl⟩:∃o,hp.get? a=some o:=by
   cases b with
   | true=>obtain⟨o,e,_⟩:=q;exact⟨o,e⟩
   | false=>obtain⟨o,e,_⟩:=q;exact⟨o,e⟩
  wp_walk using K9 hl
  refine wpAny_stack_any fun st=>Qf ?_
  split
  ·rename_i c _ _ _ _ _;cases (c == Value.type "enumerate")
   ·wp_walk using K9 hl,Vr r
    exact⟨_,rfl,h⟩
   ·wp_walk using K9 hl,Vr r
    exact⟨_,rfl,h⟩
  ·wp_walk using K9 hl,Vr r
   exact⟨_,rfl,h⟩
section
variable{prog:Program}{w:World}{A:Around}{E:Value->Shared->Prop}{s:Shared}{b:Bool}{a e it:Addr}{xs:Array Value}
theorem JiD{Q:Value->Shared->Prop}(q:IsSq b s.heap a xs)
 (h:∀h',IsEnum h' (s.heap.objs.size+1) s.heap.objs.size 0 .none->IsItr b h' s.heap.objs.size a 0->(∀c o,s.heap.get? c=some o->h'.get? c=some o)->Q (.ref (s.heap.objs.size+1)) { s with heap:=h' }) :
 wpAny (model prog w) A (call (.type "enumerate") [.ref a]) Q E s:=by
 refine callType_new F.called_enumerate (by decide) (F.typeCall_enumerate_1 _) (F.newCall_enumerate_1 _) (fun obj=>F.args_object_init_2 obj _) F.entry_enumerate_new (JhS b a xs) ⟨q,?_⟩;have hz:(s.heap.push (itO b a)).objs.size=s.heap.objs.size+1:=Ge ..;have fi:(itO b a).isFreed=false:=by cases b <;> rfl
 have g2:((s.heap.push (itO b a)).push (enO s.heap.objs.size)).get? (s.heap.push (itO b a)).objs.size=some _:=Qi _ rfl
 have g1:((s.heap.push (itO b a)).push (enO s.heap.objs.size)).get? s.heap.objs.size=some _:=Qg _ (Qi _ fi)
 show _/\_;rw[hz] at g2;rw[hz];exact⟨⟨_,g2,rfl⟩,h _ g2 (.new g1) fun c o x=>Qg _ (Qg _ x)⟩
theorem JiT{p:List Addr}{n i:Nat}{P:Nat->Value->Prop}{S:Nat->Heap->Prop}{old:Value}{Q:Value->Shared->Prop}(D:Draws prog w A it p n P S)(he:IsEnum s.heap e it i old)(st:S i s.heap)(hi:i<n)(hne:e∉p)(him:it∈p)
 (hQ:∀x h' tk t,P i x->IsEnumOut h' e it ((i:Int)+1) x s.heap.objs.size->S (i+1) h'->h'.get? s.heap.objs.size=some { cls:=.type "tuple",data:=.seq #[.int i t,x] }->h'.objs.size=s.heap.objs.size+1 ->
  (∀c o,c≠e->c≠it->s.heap.get? c=some o->h'.get? c=some o)->Q (.ref s.heap.objs.size) { s with heap:=h',toks:=tk }) :
 wpAny (model prog w) A (Builtin.«enumerate.__next__» ⟨[.ref e],[]⟩) (fun fin s'=>∃v,fin=.done (.ret v)/\Q v s') E s:=by
 obtain⟨hp,g,d,tk,os⟩:=s;have ne:e≠it:=fun q=>hne (q▸him)
 show wpAny _ _ (field (.ref e) 2 >>= _) _ _ _;refine Qa (QR he rfl (x:=.ref it) rfl (Qa (D.item i _ _ _ hi st fun x k1 t1 px s1 e1=>?_)))
 replace e1:QB it hp k1:=e1;have E1:IsEnum k1 e it i old:=(e1.2 e ne).trans he;refine Qa (QR (s:=⟨k1,g,d,t1,os⟩) E1 rfl (x:=rawInt i) rfl ?_);show wpAny _ _ (field (.ref e) 4 >>= _) _ _ ⟨k1,g,d,t1,os⟩;refine Qa (QR (s:=⟨k1,g,d,t1,os⟩) E1 rfl (x:=.none) rfl ?_);show wpAny _ _ (mkInt i >>= _) _ _ ⟨k1,g,d,t1,os⟩;refine Qa (wpAny_mkInt ?_);show wpAny _ _ (setField (.ref e) 3 (rawInt ((i:Int)+1)) >>= _) _ _ ⟨k1,g,d,t1+1,os⟩
 refine Qa (Gc E1 (by simp) fun k2 E2 e2=>?_)
 replace e2:QB e k1 k2:=e2
 replace E2:IsEnum k2 e it ((i:Int)+1) old:=E2;show wpAny _ _ (setField (.ref e) 4 .none >>= _) _ _ ⟨k2,g,d,t1+1,os⟩;refine Qa (Gc E2 (by simp) fun k3 E3 e3=>?_)
 replace e3:QB e k2 k3:=e3
 replace E3:IsEnum k3 e it ((i:Int)+1) old:=E3;show wpAny _ _ (newTuple [.int i t1,x] >>= _) _ _ ⟨k3,g,d,t1+1,os⟩;refine Qa (Mp ?_);have hsz:k3.objs.size=hp.objs.size:=by rw[e3.1,e2.1,e1.1]
 have elt:e<hp.objs.size:=Qj he
 have E4:IsEnum (k3.push { cls:=.type "tuple",data:=.seq #[.int i t1,x] }) e it ((i:Int)+1) old:=Qg _ E3
 have T4:(k3.push { cls:=.type "tuple",data:=.seq #[.int i t1,x] }).get? hp.objs.size=some { cls:=.type "tuple",data:=.seq #[.int i t1,x] }:=by rw[<- hsz];exact Qi _ rfl
 have z4:(k3.push { cls:=.type "tuple",data:=.seq #[.int i t1,x] }).objs.size=hp.objs.size+1:=by rw[Ge,hsz]
 have kp:∀c o,c≠e->k1.get? c=some o->(k3.push { cls:=.type "tuple",data:=.seq #[.int i t1,x] }).get? c=some o:=fun c o c1 q=>Qg _ (e3.extBut c o c1 (e2.extBut c o c1 q))
 show wpAny _ _ (QK (.ref e) >>= _) _ _ ⟨k3.push { cls:=.type "tuple",data:=.seq #[.int i t1,x] },g,d,t1+1,os⟩;rw[hsz]
 generalize k3.push { cls:=.type "tuple",data:=.seq #[.int i t1,x] }=k4 at E4 T4 z4 kp ⊢
 refine Qa ?_;unfold QK;refine Qa (QR (s:=⟨k4,g,d,t1+1,os⟩) E4 rfl (x:=.none) rfl (Qf ?_));simp only[if_true];refine Qa (Kc (Qa (QR (s:=⟨k4,g,d,t1+1,os⟩) E4 rfl (x:=old) rfl (Qa (Gc E4 (by simp) fun k5 E5 e5=>?_)))))
 replace e5:QB e k4 k5:=e5
 replace E5:IsEnum k5 e it ((i:Int)+1) x:=E5;show wpAny _ _ (GT (.ref e) (.ref hp.objs.size) >>= _) _ _ ⟨k5,g,d,t1+1,os⟩;refine Qa ?_;unfold GT;refine Qa (Gc E5 (by simp) fun k6 E6 e6=>?_)
 replace e6:QB e k5 k6:=e6
 replace E6:IsEnumOut k6 e it ((i:Int)+1) x hp.objs.size:=E6;refine Gc E6 (by simp) fun k7 E7 e7=>?_
 replace e7:QB e k6 k7:=e7
 replace E7:IsEnumOut k7 e it ((i:Int)+1) x hp.objs.size:=E7;have up:∀c o,c≠e->k4.get? c=some o->k7.get? c=some o:=fun c o c1 q=>e7.extBut c o c1 (e6.extBut c o c1 (e5.extBut c o c1 q))
 refine Qa (G9 (Qf ⟨_,rfl,hQ x k7 (t1+1) t1 px E7 ?_ (up _ _ (Ga elt) T4) (by rw[e7.1,e6.1,e5.1,z4]) fun c o c1 c2 q=>up c o c1 (kp c o c1 (e1.extBut c o c2 q))⟩));exact D.frame _ _ _ s1 fun c hc o q=>up c o (fun z=>hne (z▸hc)) (kp c o (fun z=>hne (z▸hc)) q)
theorem Jk8{p:List Addr}{n:Nat}{P:Nat->Value->Prop}{S:Nat->Heap->Prop}{old:Value}{Q:Fin->Shared->Prop}(D:Draws prog w A it p n P S)(he:IsEnum s.heap e it n old)(st:S n s.heap)
 (hE:∀h' x tk,KD it s.heap h'->(∃o,h'.get? x=some o/\o.cls=.type "StopIteration")->E (.ref x) { s with heap:=h',toks:=tk }) :
 wpAny (model prog w) A (Builtin.«enumerate.__next__» ⟨[.ref e],[]⟩) Q E s:=by
 show wpAny _ _ (field (.ref e) 2 >>= _) _ _ _;refine Qa (QR he rfl (x:=.ref it) rfl (Qa (D.done _ _ _ st fun k1 x e1 hx=>?_)));exact hE k1 x s.toks e1 hx
end
end PySem
namespace L2
open PySem PySem.Spec PyProof.Rows
noncomputable def Ite(K:Frag)(b:Bool)(a:Addr):It :=
 ⟨fun i H=>∃xs x,Sq b K H a xs/\xs[i]?=some x,
  fun i H x H'=>∃p v,x=.ref p/\H p=none/\H'=upd H p (.tup [.int i,v])/\∀xs,Sq b K H a xs->xs[i]?=some v,
  fun i H=>∃xs,Sq b K H a xs/\i=xs.length⟩
theorem JmQ{P:Program}{w:World}{K:Frag}{elts:List Expr}{kk:Nat}{pos:Pos}(b:Bool)(a e it:Addr)(ne:e≠it) :
 Turn P w K (.Tuple elts kk pos) (Ite K b a) [e,it] e (fun i h=>(∃old,IsEnum h e it i old)/\IsItr b h it a i) where
 mem:=by simp
 obj:=fun i h st c hc=>by
  obtain⟨⟨old,s1⟩,s2⟩:=st;simp only[Qh,Q0,or_false] at hc;rcases hc with rfl|rfl
  ·exact⟨_,s1,fun v z=>nomatch (show Data.fields _=Data.cell v from z)⟩
  ·exact IsItr.obj (b:=b) s2
 keep:=fun i h h' st k=>by obtain⟨⟨old,s1⟩,s2⟩:=st;exact⟨⟨old,k e (by simp) _ s1⟩,IsItr.keep (b:=b) s2 fun o q=>k it (by simp) o q⟩
 item:=by
  intro X hP hw hK hc i pins s σ H E I hf st hg;subst hP hw hK;obtain⟨xs,x,q1,e1⟩:=hg;obtain⟨its,r1,p1⟩:=q1.heap I;obtain⟨⟨old,s1⟩,s2⟩:=st;have hh:X.A.in1.handled=none:=I.ok.hd hc;have ne1:a≠it:=FpOk.off I q1 (hf it (by simp));have ne2:a≠e:=FpOk.off I q1 (hf e (by simp));have D1:=Draws.sq (prog:=X.prog) (w:=X.w) (b:=b) (xs:=its.toArray) hh it ne1;have hT:s.TypeIs (.ref e) "enumerate":=⟨_,s1,rfl⟩
  have l1:i<its.toArray.size:=by have:=(Qk.mp e1).1;rw[Qo,<- r1.length];exact this
  unfold pyNext;refine Qa (GP (QJ (name:=Q1 "__next__") hT Lb (QV Lb hT F.entry_enumerate_next
   (JiT D1 s1 ⟨s2,p1⟩ l1 (by simp[ne,QN ne2]) (by simp) fun u k tk t pu t1 t2 t3 t4 t5=>Qf ?_) (MR _))))
  refine⟨_,rfl,wpAny_letOwnedTupleGo_enum (s:={ s with heap:=k,toks:=tk }) t1 fun k2 t9 e9=>?_⟩
  replace e9:QB e k k2:=e9;obtain⟨ux,hx1,rx⟩:=r1.get e1
  have eu:u=ux:=by
   have pu':its[i]?=some u:=by simpa using pu
   rw[hx1] at pu';exact(QH pu').symm
  subst eu
  have elt:∀c∈[e,it],c<s.heap.objs.size:=fun c hc=>by
   simp only[Qh,Q0,or_false] at hc;rcases hc with rfl|rfl
   ·exact Qj s1
   ·obtain⟨_,q,_⟩:=IsItr.obj (b:=b) s2;exact Qj q
  have ri:RelV (.int i) (.int i t):=⟨t,rfl⟩
  have I1:Inv X pins σ (upd H s.heap.objs.size (.tup [.int i,x])) { s with heap:=s.heap.push { cls:=.type "tuple",data:=.seq #[.int i t,u] },toks:=s.toks } :=
   I.laid (o:=.tup [.int i,x]) (fun c ob q=>Qg _ q) (Qn _) ⟨by show 2<=sizeLine;decide,[.int i t,u],.cons ri (.cons rx .nil),⟨_,Qi _ rfl,rfl,_,rfl⟩⟩
  have hf1:∀c∈[e,it],FpOk X pins (upd H s.heap.objs.size (.tup [.int i,x])) c:=fun c hc=>⟨by rw[Jm (Qy (elt c hc))];exact(hf c hc).1,(hf c hc).2⟩
  have I2:Inv X pins σ (upd H s.heap.objs.size (.tup [.int i,x])) { s with heap:=k2,toks:=tk }:=Inv.turnedL (s:={ s with heap:=s.heap.push { cls:=.type "tuple",data:=.seq #[.int i t,u] },toks:=s.toks }) I1 (fun c o hc q=>by
   simp only[Qh,Q0,or_false,not_or] at hc;refine e9.extBut c o hc.1 ?_
   by_cases hcs:c=s.heap.objs.size
   ·subst hcs;have q':(s.heap.push { cls:=.type "tuple",data:=.seq #[.int i t,u] }).get? s.heap.objs.size=some o:=q;rw[Qi _ rfl] at q';cases q';exact t3
   ·have q':s.heap.get? c=some o:=by have q2:(s.heap.push { cls:=.type "tuple",data:=.seq #[.int i t,u] }).get? c=some o:=q;exact(Mw s.heap c _ hcs).symm.trans q2
    exact t5 c o hc.1 hc.2 q') hf1
  refine⟨.ref s.heap.objs.size,_,I2,rfl,⟨_,x,rfl,I.hok.fresh (Qn _),rfl,fun xs' h1=>?_⟩,⟨⟨u,?_⟩,?_⟩,fun c hc=>(hf1 c hc).1⟩
  ·rw[Sq.inj I h1 q1];exact e1
  ·have ei:((i+1:Nat):Int)=(i:Int)+1:=by omega
   rw[ei];exact t9
  ·exact IsItr.keep (b:=b) t2.1 fun o q=>e9.extBut _ _ (QN ne) q
 done:=by
  intro X hP hw hK hc i pins s σ H E I hf st hg;subst hP hw hK;obtain⟨xs,q1,ei⟩:=hg;obtain⟨its,r1,p1⟩:=q1.heap I;obtain⟨⟨old,s1⟩,s2⟩:=st;have hh:X.A.in1.handled=none:=I.ok.hd hc;have D1:=Draws.sq (prog:=X.prog) (w:=X.w) (b:=b) (xs:=its.toArray) hh it (FpOk.off I q1 (hf it (by simp)));have hT:s.TypeIs (.ref e) "enumerate":=⟨_,s1,rfl⟩
  have n1:i=its.toArray.size:=by rw[Qo,<- r1.length];exact ei
  subst n1;unfold pyNext;refine Qa (GP (QJ (name:=Q1 "__next__") hT Lb (QV Lb hT F.entry_enumerate_next (Jk8 D1 s1 ⟨s2,p1⟩ fun k x tk kk he=>?_) (MR _))));obtain⟨o,ho,hoc⟩:=he;refine Qa (Ke (T:="StopIteration") (b:=true) ⟨o,ho,hoc⟩ Lh (Qf ⟨rfl,?_⟩));exact I.turnedL (fun c o hc q=>by simp only[Qh,Q0,or_false,not_or] at hc;exact kk c o hc.2 q) hf
 self:=fun _ _ _ _ _ st h=>by obtain⟨⟨old,s1⟩,_⟩:=st;exact wpAny_pyIter_enum s1 h
noncomputable def iEn(K:Frag)(ta:TA):TI:=fun σ H R=>ta σ H fun vs H1=>∃(b:Bool) (a:Addr) (xs:List V),vs=[.ref a]/\Sq b K H1 a xs/\R (Ite K b a) H1
theorem JaB{X:Cx}{K:Frag}{elts:List Expr}{kk:Nat}{tpos:Pos}{a:Expr}{ta:TA}{p pos:Pos}(hK:X.K=K)(hg:Gl X "enumerate")(hm:X.mg "enumerate"=none)(ha:PA X [a] ta)(hs:starEach [a] X.env=[(false,eval a X.env)]:=by rfl)
:PI X (.Tuple elts kk tpos) (.Call (.Name "enumerate" p) [a] [] pos) (iEn K ta):=by
 subst hK;intro pins s σ H R I h;refine Call_ (U1 I hg hm JbR (Gg (thn (ha pos pins s σ H _ I h) fun us s1 ⟨vs,H1,I1,r1,q1⟩=>?_) (by rw[hs];rfl) (by rfl)));obtain⟨b,a,xs,e,c1,q⟩:=q1;subst e
 cases r1 with
 | cons r rr =>
 cases rr;cases r;obtain⟨its,w1,p1⟩:=c1.heap I1;refine JiD p1 fun h' t1 t2 kp=>wpAny_pyIter_enum t1 ?_
 refine⟨_,[s1.heap.objs.size+1,s1.heap.objs.size],_,_,H1,rfl,I1.kept (t':=s1.toks) kp,JmQ b a _ _ (by simp),⟨⟨_,t1⟩,t2⟩,fun c hc=>?_,q⟩
 have hle:s1.heap.objs.size<=c:=by simp only[Qh,Q0,or_false] at hc;rcases hc with rfl|rfl <;> first|exact Qn _|exact LX _ _
 exact I1.fpOk hle (I1.hok.fresh hle)
end L2
namespace LE
open PySem L2 LR
noncomputable def Jdh(ds:List D):List D:=ds.mapIdx fun i d=>.tup [.int i,d]
noncomputable def Jds(m:Bool)(as:En->Option (List Sl)):En->Option (List D):=fun E=>(as E).bind fun ss=>match ss with
 | [s]=>(s.it m).map Jdh
 | _=>none
section
variable{K:Frag}{C:Addr}{m:Bool}
theorem JcG{t:TA}{ev:En->Option (List Sl)}(ha:SA K C t ev):SI K C m (iEn K t) (Jds m ev):=by
 intro B H0 H σ E ds R I e q;obtain⟨ss,e1,e⟩:=bind_some e;split at e
 ·next s =>
  obtain⟨ds1,e2,e⟩:=Gb.mp e;subst e;refine ha B H0 H σ E _ _ I e1 fun vs H1 H1' s1 r1=>?_
  obtain⟨v,rfl,ra⟩:=r1.one;have f:=J2 (Hs:=H) s1.i;obtain⟨b1,a1,xs,rfl,k1,w1⟩:=JhA ra s1.i e2;have hA:m=true->(if m=true then H1' else B)=H1':=fun h=>if_pos h
  have sA:Same (if m=true then H1' else B) H1':=by
   split
   ·exact Same.refl _
   ·exact I.b.trans s1.h
  have st0:SStep (if m=true then H1' else B) (Ya H H1 H1') (Ya H H1 H1') H1':=⟨sA,Same.refl _,fun _ _ e=>.inl e,f.i⟩
  refine⟨b1,a1,xs,rfl,k1 _ hA _ _ st0,q _ _ _ (s1.comp f fun _ z=>z) ?_⟩;intro H0' H' st;have q1:=k1 _ hA _ _ st;refine⟨fun i d e=>?_,⟨xs,q1,by unfold Jdh;rw[List.length_mapIdx,w1.1]⟩⟩;unfold Jdh at e;rw[QD] at e;obtain⟨d1,g1,e⟩:=Gb.mp e;subst e;obtain⟨x,x1,x2⟩:=w1.get g1;refine⟨⟨xs,x,q1,x1⟩,?_⟩;rintro z H2 ⟨p,v',rfl,hp,rfl,hv⟩;have h1:=hv xs q1;rw[x1] at h1;cases h1;have h0:H0' p=none:=Same.free st.i hp
  refine⟨upd H0' p (.tup [.int i,x]),⟨.new hp,.new h0,fun a o e=>?_,fun a o e=>?_⟩,?_⟩
  ·by_cases h:a=p
   ·subst h;exact .inr (.inl hp)
   ·rw[Jm h] at e;exact .inl e
  ·by_cases h:a=p
   ·subst h;rw[Jv] at e ⊢;exact e
   ·rw[Jm h] at e ⊢;exact st.i a o e
  ·exact .mkT (.of Jv) (.cons (.int _) (.cons (x2.mono (st.z.trans (.new h0))) .nil))
 ·cases e
theorem Z9{α:Type}(f:α->D)(xs:List α):Jdh (xs.map f)=xs.mapIdx fun i x=>.tup [.int i,f x]:=by
 unfold Jdh;refine GN fun i=>?_
 rw[QD,QD,Qq,Kj];rfl
end
end LE

namespace L2
open PySem PySem.Spec PyProof.Rows
noncomputable def Yw(ns:List Int):List Int:=ns.mergeSort (fun a b=>decide (a<=b))
theorem J3(ns:List Int):(Yw ns).Perm ns:=List.mergeSort_perm _ _
theorem Vx(ns:List Int):(Yw ns).Pairwise (·<=·):=by have h:=List.pairwise_mergeSort (le:=fun a b:Int=>decide (a<=b)) (by intro a b c h1 h2;simp only[decide_eq_true_eq] at *;omega) (by intro a b;simp only[Ly,decide_eq_true_eq];omega) ns;exact h.imp fun {a b} h=>by simpa using h
theorem Vy:∀{xs ys:List Int},xs.Perm ys->xs.Pairwise (·<=·)->ys.Pairwise (·<=·)->xs=ys
 | [],ys,p,_,_=>by rw[List.Perm.nil_eq p]
 | x::xs,ys,p,h1,h2=>by
  cases ys with
  | nil=>exact absurd p.symm (by simp)
  | cons y ys =>
   obtain⟨a1,a2⟩:=QO.mp h1;obtain⟨b1,b2⟩:=QO.mp h2
   have e:x=y:=by
    have hx:x∈y::ys:=p.mem_iff.mp Qe
    have hy:y∈x::xs:=p.mem_iff.mpr Qe;rcases Qh.mp hx with z|z
    ·exact z
    ·rcases Qh.mp hy with w|w
     ·exact w.symm
     ·have:=a1 y w
      have:=b1 x z;omega
   subst e;rw[Vy (List.Perm.cons_inv p) a2 b2]
noncomputable def JcE(K:Frag):List V->Hp->VK->Prop:=fun xs H Q=>∃(a:Addr) (ns:List Int),xs=[.ref a]/\SqL K H a (ns.map V.int)/\ns.length<64/\∀l,H l=none->Q (.ref l) (upd H l (.lst ((Yw ns).map V.int)))
theorem VM:∀{ns:List Int} {us:List Value},IntsAre us ns->Vals (ns.map V.int) us:=by
 intro ns us h
 induction h with
 | nil=>exact .nil
 | cons _ _ _ ih=>exact .cons ⟨_,rfl⟩ ih
section
variable{X:Cx}
theorem JbV:YR X (.builtin "sorted") (JcE X.K):=by
 intro pins s σ H xs us Q I r h;obtain⟨p,ns,rfl,hq,hl,q⟩:=h;obtain⟨u,rfl,rx⟩:=V2 r;cases rx;obtain⟨its,r',pl,hz⟩:=I.list hq;have hlen:=r'.length;rw[Qm] at hlen hz;refine sorted_ints pl.isList (Y1 r') (by omega) fun out ns' a1 a2 a3=>?_
 have es:ns'=Yw ns:=Vy (a2.trans (J3 ns).symm) a3 (Vx ns);subst es;obtain⟨e,he⟩:=sortedAll_at s.heap its out
 have hn:((Yw ns).map V.int).length<=sizeLine:=by rw[Qm,(J3 ns).length_eq];exact hz
 have hne:H (s.heap.objs.size+1)=none:=I.hok.fresh (LG _);refine⟨.ref (s.heap.objs.size+1),_,I.laid (t':=s.toks) (fun b o x=>sortedAll_old x) (LG _) (show ObjOk X.prog X.w _ _ _ (.lst ((Yw ns).map V.int)) from⟨hn,out.toList,e,VM a1,?_⟩),rfl,q _ hne⟩;rw[he]
end
theorem WL{X:Cx}{K:Frag}(hK:X.K=K)(hc:X.calm=true):YR X (.builtin "sorted") (JcE K):=hK▸JbV
end L2
namespace LE
open PySem L2 LR
noncomputable def Wa:List Sl->Option Sl
 | [s]=>s.r.bind fun ds=>(ints? ds).bind fun ns=>if ns.length<64 then some (.own ((Yw ns).map .int)) else none
 | _=>none
section
variable{K:Frag}{C:Addr}
theorem Jeb{H:Hp}(ns:List Int):RDL K C H (ns.map V.int) (ns.map D.int):=by refine⟨by simp,fun i x d h1 h2=>?_⟩;rw[Qq] at h1 h2;obtain⟨n,e,rfl⟩:=Gb.mp h1;rw[e] at h2;cases h2;exact .int n
theorem Jc6:Wm K C (JcE K) Wa:=by
 intro Hs H0 H xs as c Q i hs r e q;unfold Wa at e;split at e
 ·obtain⟨v,rfl,r0⟩:=r.one;obtain⟨ds,e1,e⟩:=bind_some e;obtain⟨ns,e2,e⟩:=bind_some e;split at e
  ·next hn=>cases e;obtain⟨l,ys,rfl,h,r1⟩:=r0.r i e1;rw[Y5 e2] at r1;have:=r1.ints;subst this;exact⟨l,ns,rfl,h,hn,fun p hp=>Vi i hs hp (Jeb _) q⟩
  ·cases e
 ·cases e
end
end LE

namespace PySem
namespace F
end F
section
variable{prog:Program}{w:World}{A:Around}{E:Value->Shared->Prop}{s:Shared}{l:Addr}{lo hi:Int}{t u v:Tok}
end
end PySem
namespace L2
open PySem PySem.Spec PyProof.Rows
end L2
namespace LE
open PySem L2 LR
section
variable{K:Frag}{C:Addr}{m:Bool}
end
end LE

namespace PySem
namespace F
end F
section
variable{prog:Program}{w:World}{A:Around}{E:Value->Shared->Prop}{s:Shared}{z TI TO i1 i2 i3:Addr}{p1 p2 p3:List Addr}{n1 n2 n3 k:Nat}{P1 P2 P3:Nat->Value->Prop}{S1 S2 S3:Nat->Heap->Prop}
end
end PySem

namespace PySem
section
variable{prog:Program}{w:World}{A:Around}{E:Value->Shared->Prop}{s:Shared}{b1 b2 b3:Bool}{a1 a2 a3:Addr}{xs ys zs:Array Value}
end
end PySem
namespace L2
open PySem PySem.Spec PyProof.Rows
end L2
namespace LE
open PySem L2 LR
section
variable{K:Frag}{C:Addr}{m:Bool}
end
end LE

namespace L2
open PySem PySem.Spec PyProof.Rows
noncomputable def WF(X:Cx)(f:Value)(nm:Str)(z:V)(r:List V->Hp->VK->Prop):Prop :=
 ∀(pins:List (Addr×Obj)) (s:Shared) (σ:St) (H:Hp) (xs:List V) (us:List Value) (w:Value) (Q:VK),Inv X pins σ H s->Vals xs us->RelV z w->r xs H Q->wpAny (model X.prog X.w) X.A (call f us [(nm,w)]) (EP X pins σ Q) X.xe s
theorem JbA{X:Cx}{id:String}{nm x:Str}{z:V}{r:List V->Hp->VK->Prop}{e ek:Expr}{es:List Expr}{t:TA}{p pos kpos:Pos}(hc:WF X (.builtin id) nm z r)(hg:Gl X x)(hm:X.mg x=none)(hv:bootBuiltins x=some (.builtin id))(ha:PA X (e::es) t)(hk:PE X ek (tC z))
 (hn:x≠"__name__":=by decide) (hdb:(x == ("__debug__":Str))=false:=by decide)
 (he:backTo pos (starEach (e::es) X.env)=(false,eval e X.env)::backTo pos (starEach es X.env):=by rfl) (hpl:(backTo pos (starEach (e::es) X.env)).any (·.1)=false:=by rfl):PE X (.Call (.Name x p) (e::es) [⟨some nm,ek,kpos⟩] pos) (tCB r t):=by
 intro pins s σ H Q I h;refine K1 (U1 I hg hm hv ?_ hn hdb);refine callWith_kw (thn (ha pos pins s σ H _ I h) fun us s1 ⟨vs,H1,I1,r1,q1⟩=>?_) he hpl rfl rfl;refine kws_cons (thn (hk pins s1 σ H1 (fun v H2=>v=z/\r vs H2 Q) I1 ⟨rfl,q1⟩) fun w s2 ⟨v,H2,I2,rz,e2,q2⟩=>kws_nil ?_);subst e2;exact hc pins s2 σ H2 vs us w Q I2 r1 rz q2
section
variable{X:Cx}
end
end L2
namespace LE
open PySem L2 LR
section
variable{K:Frag}{C:Addr}
end
end LE

namespace PySem

theorem JdN(a v:Value):argsOk "min" ⟨[a],[(Q1 "default",v)]⟩:=by unfold argsOk;kernel_rfl
section
variable{prog:Program}{w:World}{A:Around}{R:Result->Shared->Prop}{I:Addr}{fp wr:List Addr}{n:Nat}{P:Nat->Value->Prop}{St:Nat->Heap->Prop}
theorem JhT(W:Walks prog w A.in1 I fp wr n P St)(bt:Nat->Nat->Bool)(cm:CmpOf prog w A.in1 .Lt P bt)(S:Addr)(nS:S∉fp)(d:Value) :
 ∀(k j:Nat) (s:Shared) (c:Nat) (arr:Array Value),n-j=k->j<=n->St j s.heap->((j=0/\arr=#[])\/∃vb,0<j/\arr=#[vb,vb]/\P (argBest bt (j-1)) vb) ->
 s.heap.get? S=some { cls:=.type "list",dict:=none,data:=.seq arr c,slots:=#[] } ->
 (n=0->∀h' tk,(∀b o,b∉wr->b≠S->s.heap.get? b=some o->h'.get? b=some o)->R (.ok (.ret d)) { s with heap:=h',toks:=tk }) ->
 (0<n->∀v h' tk,P (argBest bt (n-1)) v->(∀b o,b∉wr->b≠S->s.heap.get? b=some o->h'.get? b=some o)->R (.ok (.ret v)) { s with heap:=h',toks:=tk }) ->
 codeAny (model prog w) A (.builtin "min.loop" ⟨[.ref I,.none,.ref S],[(Q1 "default",d)]⟩) R s:=by
 have nW:S∉wr:=fun h=>nS (W.sub _ h)
 have nm:(toString "min"++toString ".loop":String)="min.loop":=by decide
 intro k
 induction k with
 | zero =>
  intro j s c arr hk hj st best hS h0 h1;have ej:j=n:=by omega
  subst ej;refine GE F.entry_min_loop ?_;rw[Gi KP _];rcases best with ⟨e0,rfl⟩|⟨vb,jp,rfl,pb⟩
  ·show wpAny _ A.in1 (seqItems? (.ref S) >>= _) _ _ s;refine Qa (Gf hS rfl (show wpAny _ A.in1 (tryCatch (pyNext (.ref I)) _ >>= _) _ _ s from Qa (G6 (W.done s _ _ st fun h' tk hk'=>?_))));exact Qa (Kc (Qf (h0 e0 h' tk fun b o b1 _ e=>hk' b o b1 e)))
  ·show wpAny _ A.in1 (seqItems? (.ref S) >>= _) _ _ s;refine Qa (Gf hS rfl (show wpAny _ A.in1 (tryCatch (pyNext (.ref I)) _ >>= _) _ _ s from Qa (G6 (W.done s _ _ st fun h' tk hk'=>?_))))
   have hS':=hk' S _ nW hS
   show wpAny _ A.in1 (updateSeq S (fun _=>#[]) >>= _) _ _ _;refine Qa (GF hS' rfl (Qa (G9 (Qf ?_))));exact h1 jp vb _ tk pb fun b o b1 b2 e=>(QF _ _ (QN b2)).trans (hk' b o b1 e)
 | succ k ih =>
  intro j s c arr hk hj st best hS h0 h1;have lt:j<n:=by omega
  refine GE F.entry_min_loop ?_;rw[Gi KP _];have nz:n=0->∀{s':Shared} h' tk,(∀b o,b∉wr->b≠S->s'.heap.get? b=some o->h'.get? b=some o)->R (.ok (.ret d)) { s' with heap:=h',toks:=tk }:=fun z=>absurd z (by omega)
  rcases best with ⟨e0,rfl⟩|⟨vb,jp,rfl,pb⟩
  ·subst e0;show wpAny _ A.in1 (seqItems? (.ref S) >>= _) _ _ s;refine Qa (Gf hS rfl (show wpAny _ A.in1 (tryCatch (pyNext (.ref I)) _ >>= _) _ _ s from Qa (G6 (W.item 0 s _ _ lt st fun v h' tk pv st' hk'=>?_))));have hS':=hk' S _ nW hS;show wpAny _ A.in1 (updateSeq S (fun _=>#[v,v]) >>= _) _ _ _;refine Qa (GF hS' rfl ?_);rw[nm];refine Qf ⟨Gv KP _,ih 1 _ _ _ (by omega) (by omega) (W.frame _ _ _ st' fun b bf o e=>?_) (.inr ⟨v,by omega,rfl,pv⟩) (QU _ hS' rfl) (fun z=>nz z) fun np v' h2 t2 pv' k2=>?_⟩
   ·exact(QF _ _ (fun h:S=b=>nS (by rw[h];exact bf))).trans e
   ·exact h1 np v' h2 t2 pv' fun b o b1 b2 e=>k2 b o b1 b2 ((QF _ _ (QN b2)).trans (hk' b o b1 e))
  ·show wpAny _ A.in1 (seqItems? (.ref S) >>= _) _ _ s;refine Qa (Gf hS rfl (show wpAny _ A.in1 (tryCatch (pyNext (.ref I)) _ >>= _) _ _ s from Qa (G6 (W.item j s _ _ lt st fun v h' tk pv st' hk'=>?_))))
   have hS':=hk' S _ nW hS
   have ea:argBest bt j=if bt j (argBest bt (j-1))=true then j else argBest bt (j-1):=by
    obtain⟨i,rfl⟩:∃i,j=i+1:=⟨j-1,by omega⟩
    rfl
   show wpAny _ A.in1 (tryCatch (holding [v,v] (richCompare .Lt v vb >>= _)) _ >>= _) _ _ _;refine Qa (G6 (Gs (Qa (cm j (argBest bt (j-1)) v vb _ _ _ pv pb (Qa (Gs (KC (Qa (G9 (Qf ?_))))))))))
   cases hb:bt j (argBest bt (j-1)) with
   | true =>
    simp only[if_true];refine Qa (GF hS' rfl (Qa (G9 ?_)));rw[nm];refine Qf ⟨Gv KP _,ih (j+1) _ _ _ (by omega) (by omega) (W.frame _ _ _ st' fun b bf o e=>?_) (.inr ⟨v,by omega,rfl,?_⟩) (QU _ hS' rfl) (fun z=>nz z) fun np v' h2 t2 pv' k2=>?_⟩
    ·exact(QF _ _ (fun h:S=b=>nS (by rw[h];exact bf))).trans e
    ·rw[LB,ea,hb,if_pos rfl];exact pv
    ·exact h1 np v' h2 t2 pv' fun b o b1 b2 e=>k2 b o b1 b2 ((QF _ _ (QN b2)).trans (hk' b o b1 e))
   | false =>
    simp only[Kf,if_false];refine Qa (G9 ?_);rw[nm];refine Qf ⟨Gv KP _,ih (j+1) _ c _ (by omega) (by omega) st' (.inr ⟨vb,by omega,rfl,?_⟩) hS' (fun z=>nz z) fun np v' h2 t2 pv' k2=>?_⟩
    ·rw[LB,ea,hb,if_neg Qx];exact pb
    ·exact h1 np v' h2 t2 pv' fun b o b1 b2 e=>k2 b o b1 b2 (hk' b o b1 e)
end
section
variable{prog:Program}{w:World}{A:Around}{E:Value->Shared->Prop}{s:Shared}{l:Addr}{xs:Array (Int×Tok)}
theorem JdO{d:Value}{Q:Value->Shared->Prop}(hh:A.handled=none)(hl:s.heap.IsList l (intItems xs))(h0:xs.size=0->∀h' tk,(∀b o,s.heap.get? b=some o->h'.get? b=some o)->Q d { s with heap:=h',toks:=tk })
 (h1:0<xs.size->∀v h' tk,(intItems xs)[argBest (fun i j=>decide (numAt xs i<numAt xs j)) (xs.size-1)]?=some v->(∀b o,s.heap.get? b=some o->h'.get? b=some o)->Q v { s with heap:=h',toks:=tk }) :
 wpAny (model prog w) A (call (.builtin "min") [.ref l] [(Q1 "default",d)]) Q E s:=by
 have nm:(toString "min"++toString ".loop":String)="min.loop":=by decide
 have sz:(intItems xs).size=xs.size:=by simp[intItems]
 refine Rf F.kind_min F.plain_min F.entry_min (JdN _ _) ?_;show wpAny _ A.in1 (Ko "min" ["key","default"] 0 ⟨[],[(Q1 "default",d)]⟩ >>= _) _ _ s;refine Qa (Ki (show Ko "min" ["key","default"] 0 ⟨[],[(Q1 "default",d)]⟩=pure [none,some d] from rfl) ?_);refine Qa (Qf ?_);refine Qa (iter_intList hl fun s₂ e st hfp hlI=>?_);subst e;refine Qa (QZ ?_)
 rw[nm];have W:=RC (prog:=prog) (w:=w) (A:=A.in1) hh _ l hlI (intItems xs);have fpS:(s.heap.push { cls:=.type "list_iterator",data:=.fields #[.ref l,.int 0 0] }).objs.size∉[s.heap.objs.size,l]:=fun hm=>Q6 _ (hfp _ hm)
 refine Qf ⟨Gv KP _,JhT W (fun i j=>decide (numAt xs i<numAt xs j)) (CmpOf.ints_lt (numAt xs) (fun _ _=>intItems_at)) _ fpS d _ 0 _ _ #[] rfl (GJ _) (W.frame _ _ _ st fun b _ o e=>Qg _ e) (.inl ⟨rfl,rfl⟩) (Qi _ rfl) (fun z h' tk k=>?_) fun z v h' tk pv k=>?_⟩
 ·exact h0 (by rw[<- sz];exact z) h' tk (old_kept fun b o b1 e=>k b o b1 (Qy (Qj e)) (Qg _ e))
 ·exact h1 (by rw[<- sz];exact z) v h' tk (by rw[sz] at pv;exact pv) (old_kept fun b o b1 e=>k b o b1 (Qy (Qj e)) (Qg _ e))
end

theorem JdL(a v:Value):argsOk "max" ⟨[a],[(Q1 "default",v)]⟩:=by unfold argsOk;kernel_rfl
section
variable{prog:Program}{w:World}{A:Around}{R:Result->Shared->Prop}{I:Addr}{fp wr:List Addr}{n:Nat}{P:Nat->Value->Prop}{St:Nat->Heap->Prop}
theorem JhR(W:Walks prog w A.in1 I fp wr n P St)(bt:Nat->Nat->Bool)(cm:CmpOf prog w A.in1 .Gt P bt)(S:Addr)(nS:S∉fp)(d:Value) :
 ∀(k j:Nat) (s:Shared) (c:Nat) (arr:Array Value),n-j=k->j<=n->St j s.heap->((j=0/\arr=#[])\/∃vb,0<j/\arr=#[vb,vb]/\P (argBest bt (j-1)) vb) ->
 s.heap.get? S=some { cls:=.type "list",dict:=none,data:=.seq arr c,slots:=#[] } ->
 (n=0->∀h' tk,(∀b o,b∉wr->b≠S->s.heap.get? b=some o->h'.get? b=some o)->R (.ok (.ret d)) { s with heap:=h',toks:=tk }) ->
 (0<n->∀v h' tk,P (argBest bt (n-1)) v->(∀b o,b∉wr->b≠S->s.heap.get? b=some o->h'.get? b=some o)->R (.ok (.ret v)) { s with heap:=h',toks:=tk }) ->
 codeAny (model prog w) A (.builtin "max.loop" ⟨[.ref I,.none,.ref S],[(Q1 "default",d)]⟩) R s:=by
 have nW:S∉wr:=fun h=>nS (W.sub _ h)
 have nm:(toString "max"++toString ".loop":String)="max.loop":=by decide
 intro k
 induction k with
 | zero =>
  intro j s c arr hk hj st best hS h0 h1;have ej:j=n:=by omega
  subst ej;refine GE F.entry_max_loop ?_;rw[Gi KQ _];rcases best with ⟨e0,rfl⟩|⟨vb,jp,rfl,pb⟩
  ·show wpAny _ A.in1 (seqItems? (.ref S) >>= _) _ _ s;refine Qa (Gf hS rfl (show wpAny _ A.in1 (tryCatch (pyNext (.ref I)) _ >>= _) _ _ s from Qa (G6 (W.done s _ _ st fun h' tk hk'=>?_))));exact Qa (Kc (Qf (h0 e0 h' tk fun b o b1 _ e=>hk' b o b1 e)))
  ·show wpAny _ A.in1 (seqItems? (.ref S) >>= _) _ _ s;refine Qa (Gf hS rfl (show wpAny _ A.in1 (tryCatch (pyNext (.ref I)) _ >>= _) _ _ s from Qa (G6 (W.done s _ _ st fun h' tk hk'=>?_))))
   have hS':=hk' S _ nW hS
   show wpAny _ A.in1 (updateSeq S (fun _=>#[]) >>= _) _ _ _;refine Qa (GF hS' rfl (Qa (G9 (Qf ?_))));exact h1 jp vb _ tk pb fun b o b1 b2 e=>(QF _ _ (QN b2)).trans (hk' b o b1 e)
 | succ k ih =>
  intro j s c arr hk hj st best hS h0 h1;have lt:j<n:=by omega
  refine GE F.entry_max_loop ?_;rw[Gi KQ _];have nz:n=0->∀{s':Shared} h' tk,(∀b o,b∉wr->b≠S->s'.heap.get? b=some o->h'.get? b=some o)->R (.ok (.ret d)) { s' with heap:=h',toks:=tk }:=fun z=>absurd z (by omega)
  rcases best with ⟨e0,rfl⟩|⟨vb,jp,rfl,pb⟩
  ·subst e0;show wpAny _ A.in1 (seqItems? (.ref S) >>= _) _ _ s;refine Qa (Gf hS rfl (show wpAny _ A.in1 (tryCatch (pyNext (.ref I)) _ >>= _) _ _ s from Qa (G6 (W.item 0 s _ _ lt st fun v h' tk pv st' hk'=>?_))));have hS':=hk' S _ nW hS;show wpAny _ A.in1 (updateSeq S (fun _=>#[v,v]) >>= _) _ _ _;refine Qa (GF hS' rfl ?_);rw[nm];refine Qf ⟨Gv KQ _,ih 1 _ _ _ (by omega) (by omega) (W.frame _ _ _ st' fun b bf o e=>?_) (.inr ⟨v,by omega,rfl,pv⟩) (QU _ hS' rfl) (fun z=>nz z) fun np v' h2 t2 pv' k2=>?_⟩
   ·exact(QF _ _ (fun h:S=b=>nS (by rw[h];exact bf))).trans e
   ·exact h1 np v' h2 t2 pv' fun b o b1 b2 e=>k2 b o b1 b2 ((QF _ _ (QN b2)).trans (hk' b o b1 e))
  ·show wpAny _ A.in1 (seqItems? (.ref S) >>= _) _ _ s;refine Qa (Gf hS rfl (show wpAny _ A.in1 (tryCatch (pyNext (.ref I)) _ >>= _) _ _ s from Qa (G6 (W.item j s _ _ lt st fun v h' tk pv st' hk'=>?_))))
   have hS':=hk' S _ nW hS
   have ea:argBest bt j=if bt j (argBest bt (j-1))=true then j else argBest bt (j-1):=by
    obtain⟨i,rfl⟩:∃i,j=i+1:=⟨j-1,by omega⟩
    rfl
   show wpAny _ A.in1 (tryCatch (holding [v,v] (richCompare .Gt v vb >>= _)) _ >>= _) _ _ _;refine Qa (G6 (Gs (Qa (cm j (argBest bt (j-1)) v vb _ _ _ pv pb (Qa (Gs (KC (Qa (G9 (Qf ?_))))))))))
   cases hb:bt j (argBest bt (j-1)) with
   | true =>
    simp only[if_true];refine Qa (GF hS' rfl (Qa (G9 ?_)));rw[nm];refine Qf ⟨Gv KQ _,ih (j+1) _ _ _ (by omega) (by omega) (W.frame _ _ _ st' fun b bf o e=>?_) (.inr ⟨v,by omega,rfl,?_⟩) (QU _ hS' rfl) (fun z=>nz z) fun np v' h2 t2 pv' k2=>?_⟩
    ·exact(QF _ _ (fun h:S=b=>nS (by rw[h];exact bf))).trans e
    ·rw[LB,ea,hb,if_pos rfl];exact pv
    ·exact h1 np v' h2 t2 pv' fun b o b1 b2 e=>k2 b o b1 b2 ((QF _ _ (QN b2)).trans (hk' b o b1 e))
   | false =>
    simp only[Kf,if_false];refine Qa (G9 ?_);rw[nm];refine Qf ⟨Gv KQ _,ih (j+1) _ c _ (by omega) (by omega) st' (.inr ⟨vb,by omega,rfl,?_⟩) hS' (fun z=>nz z) fun np v' h2 t2 pv' k2=>?_⟩
    ·rw[LB,ea,hb,if_neg Qx];exact pb
    ·exact h1 np v' h2 t2 pv' fun b o b1 b2 e=>k2 b o b1 b2 (hk' b o b1 e)
end
section
variable{prog:Program}{w:World}{A:Around}{E:Value->Shared->Prop}{s:Shared}{l:Addr}{xs:Array (Int×Tok)}
theorem JdM{d:Value}{Q:Value->Shared->Prop}(hh:A.handled=none)(hl:s.heap.IsList l (intItems xs))(h0:xs.size=0->∀h' tk,(∀b o,s.heap.get? b=some o->h'.get? b=some o)->Q d { s with heap:=h',toks:=tk })
 (h1:0<xs.size->∀v h' tk,(intItems xs)[argBest (fun i j=>decide (numAt xs i>numAt xs j)) (xs.size-1)]?=some v->(∀b o,s.heap.get? b=some o->h'.get? b=some o)->Q v { s with heap:=h',toks:=tk }) :
 wpAny (model prog w) A (call (.builtin "max") [.ref l] [(Q1 "default",d)]) Q E s:=by
 have nm:(toString "max"++toString ".loop":String)="max.loop":=by decide
 have sz:(intItems xs).size=xs.size:=by simp[intItems]
 refine Rf F.kind_max F.plain_max F.entry_max (JdL _ _) ?_;show wpAny _ A.in1 (Ko "max" ["key","default"] 0 ⟨[],[(Q1 "default",d)]⟩ >>= _) _ _ s;refine Qa (Ki (show Ko "max" ["key","default"] 0 ⟨[],[(Q1 "default",d)]⟩=pure [none,some d] from rfl) ?_);refine Qa (Qf ?_);refine Qa (iter_intList hl fun s₂ e st hfp hlI=>?_);subst e;refine Qa (QZ ?_)
 rw[nm];have W:=RC (prog:=prog) (w:=w) (A:=A.in1) hh _ l hlI (intItems xs);have fpS:(s.heap.push { cls:=.type "list_iterator",data:=.fields #[.ref l,.int 0 0] }).objs.size∉[s.heap.objs.size,l]:=fun hm=>Q6 _ (hfp _ hm)
 refine Qf ⟨Gv KQ _,JhR W (fun i j=>decide (numAt xs i>numAt xs j)) (CmpOf.ints_gt (numAt xs) (fun _ _=>intItems_at)) _ fpS d _ 0 _ _ #[] rfl (GJ _) (W.frame _ _ _ st fun b _ o e=>Qg _ e) (.inl ⟨rfl,rfl⟩) (Qi _ rfl) (fun z h' tk k=>?_) fun z v h' tk pv k=>?_⟩
 ·exact h0 (by rw[<- sz];exact z) h' tk (old_kept fun b o b1 e=>k b o b1 (Qy (Qj e)) (Qg _ e))
 ·exact h1 (by rw[<- sz];exact z) v h' tk (by rw[sz] at pv;exact pv) (old_kept fun b o b1 e=>k b o b1 (Qy (Qj e)) (Qg _ e))
end

end PySem

namespace L2
open PySem PySem.Spec PyProof.Rows

section
variable{X:Cx}
noncomputable def Jj1(K:Frag):List V->Hp->VK->Prop:=fun xs H Q=>∃(a:Addr) (ns:List Int),xs=[.ref a]/\SqL K H a (ns.map V.int)/\(ns=[]->Q .non H)/\∀M,M∈ns->(∀b,b∈ns->M<=b)->Q (.int M) H
theorem Jhp(hc:X.calm=true):WF X (.builtin "min") "default" .non (Jj1 X.K):=by
 intro pins s σ H xs us w Q I r rz h;obtain⟨a,ns,rfl,hq,q0,q⟩:=h;obtain⟨u,rfl,rx⟩:=V2 r;cases rx;cases rz;obtain⟨its,rv,p,hz⟩:=I.list hq;have hi:=Y1 rv;have hl:=p.isList;obtain⟨xs,e⟩:=hi.allInts.items;have hns:ns=xs.toList.map (·.1):=by rw[<- hi.numsOf,<- nums_intItems,<- e]
 rw[e] at hl;refine JdO (I.ok.hd hc) hl (fun z h' tk hk=>?_) fun z v h' tk hv hk=>?_
 ·refine⟨.non,H,I.kept hk,rfl,q0 ?_⟩;rw[hns];exact Qz (by rw[Qm,QE];exact z)
 ·obtain⟨t,rfl⟩:=intItems_at hv;obtain⟨h1,h2⟩:=argBest_lt (numAt xs) (xs.size-1);refine⟨.int _,H,I.kept hk,⟨t,rfl⟩,q _ ?_ fun a ha=>?_⟩
  ·rw[hns,numAt_eq];exact getD_mem (by rw[Qm,QE];omega)
  ·rw[hns] at ha;obtain⟨j,hj,rfl⟩:=mem_getD ha;rw[Qm,QE] at hj;rw[<- numAt_eq];exact h2 j (by omega)
end
theorem JeR{X:Cx}{K:Frag}(hK:X.K=K)(hc:X.calm=true):WF X (.builtin "min") "default" .non (Jj1 K):=hK▸Jhp hc

section
variable{X:Cx}
noncomputable def Jj0(K:Frag):List V->Hp->VK->Prop:=fun xs H Q=>∃(a:Addr) (ns:List Int),xs=[.ref a]/\SqL K H a (ns.map V.int)/\(ns=[]->Q .non H)/\∀M,M∈ns->(∀b,b∈ns->b<=M)->Q (.int M) H
theorem Jhm(hc:X.calm=true):WF X (.builtin "max") "default" .non (Jj0 X.K):=by
 intro pins s σ H xs us w Q I r rz h;obtain⟨a,ns,rfl,hq,q0,q⟩:=h;obtain⟨u,rfl,rx⟩:=V2 r;cases rx;cases rz;obtain⟨its,rv,p,hz⟩:=I.list hq;have hi:=Y1 rv;have hl:=p.isList;obtain⟨xs,e⟩:=hi.allInts.items;have hns:ns=xs.toList.map (·.1):=by rw[<- hi.numsOf,<- nums_intItems,<- e]
 rw[e] at hl;refine JdM (I.ok.hd hc) hl (fun z h' tk hk=>?_) fun z v h' tk hv hk=>?_
 ·refine⟨.non,H,I.kept hk,rfl,q0 ?_⟩;rw[hns];exact Qz (by rw[Qm,QE];exact z)
 ·obtain⟨t,rfl⟩:=intItems_at hv;obtain⟨h1,h2⟩:=argBest_gt (numAt xs) (xs.size-1);refine⟨.int _,H,I.kept hk,⟨t,rfl⟩,q _ ?_ fun a ha=>?_⟩
  ·rw[hns,numAt_eq];exact getD_mem (by rw[Qm,QE];omega)
  ·rw[hns] at ha;obtain⟨j,hj,rfl⟩:=mem_getD ha;rw[Qm,QE] at hj;rw[<- numAt_eq];exact h2 j (by omega)
end
theorem JeQ{X:Cx}{K:Frag}(hK:X.K=K)(hc:X.calm=true):WF X (.builtin "max") "default" .non (Jj0 K):=hK▸Jhm hc
end L2
namespace LE
open PySem L2 LR

noncomputable def Jgf:List Sl->Option Sl
 | [s]=>s.r.bind fun ds=>(ints? ds).map fun ns=>match ns.min? with
  | some m=>.sh (.int m)
  | none=>.sh .non
 | _=>none
theorem JnD{K:Frag}{C:Addr}:Wm K C (Jj1 K) Jgf:=by
 intro Hs H0 H xs as c Q i hs r e q;unfold Jgf at e;split at e
 ·obtain⟨v,rfl,r0⟩:=r.one;obtain⟨ds,e1,e⟩:=bind_some e;obtain⟨ns,e2,rfl⟩:=map_some e;obtain⟨l,ys,rfl,h,r1⟩:=r0.r i e1;rw[Y5 e2] at r1;have:=r1.ints;subst this;refine⟨l,ns,rfl,h,fun z=>?_,fun M hM hb=>?_⟩
  ·subst z;exact q _ _ _ (.refl i) RD.non
  ·have hm:ns.min?=some M:=Rg.mpr ⟨hM,hb⟩;rw[hm] at q;exact q _ _ _ (.refl i) (RD.int _)
 ·cases e

noncomputable def Jge:List Sl->Option Sl
 | [s]=>s.r.bind fun ds=>(ints? ds).map fun ns=>match ns.max? with
  | some m=>.sh (.int m)
  | none=>.sh .non
 | _=>none
theorem JnC{K:Frag}{C:Addr}:Wm K C (Jj0 K) Jge:=by
 intro Hs H0 H xs as c Q i hs r e q;unfold Jge at e;split at e
 ·obtain⟨v,rfl,r0⟩:=r.one;obtain⟨ds,e1,e⟩:=bind_some e;obtain⟨ns,e2,rfl⟩:=map_some e;obtain⟨l,ys,rfl,h,r1⟩:=r0.r i e1;rw[Y5 e2] at r1;have:=r1.ints;subst this;refine⟨l,ns,rfl,h,fun z=>?_,fun M hM hb=>?_⟩
  ·subst z;exact q _ _ _ (.refl i) RD.non
  ·have hm:ns.max?=some M:=Rh.mpr ⟨hM,hb⟩;rw[hm] at q;exact q _ _ _ (.refl i) (RD.int _)
 ·cases e
end LE

namespace LE
open PySem L2 LR

noncomputable def look{α:Type}:List Int->List α->Int->Option α
 | k::ks,d::ds,n=>if k=n then some d else look ks ds n
 | _,_,_=>none
noncomputable def Vn(ks:List Int)(n:Int):Bool:=ks.any fun k=>decide (k=n)
noncomputable def Yv(ks:List Int)(n:Int):List Int:=if Vn ks n=true then ks else ks++[n]
noncomputable def setK{α:Type}:List Int->List α->Int->α->List α
 | k::ks,d::ds,n,v=>(if k=n then v else d)::setK ks ds n v
 | _,ds,_,_=>ds
noncomputable def putDs{α:Type}(ks:List Int)(ds:List α)(n:Int)(v:α):List α:=if Vn ks n=true then setK ks ds n v else ds++[v]
theorem Jeh{α:Type}(n:Int)(v:α):∀(ks:List Int) (ds:List α),(setK ks ds n v).length=ds.length
 | [],_=>rfl
 | _::_,[]=>rfl
 | _::ks,_::ds=>by simp[setK,Jeh n v ks ds]
theorem Jh6{α:Type}(ks:List Int)(ds:List α)(n:Int)(v:α)(h:ks.length=ds.length):(Yv ks n).length=(putDs ks ds n v).length:=by unfold Yv putDs;split <;> simp[Jeh,h]
theorem VB:∀(ks:List Int) (xs:List V) (n:Int),VA ((ks.map Sum.inl:List Key).zip xs) (Sum.inl n)=look ks xs n
 | [],_,_=>rfl
 | _::_,[],_=>rfl
 | k::ks,x::xs,n=>by
  show VA (((Sum.inl k:Key),x)::(ks.map Sum.inl:List Key).zip xs) (Sum.inl n)=_
  by_cases h:k=n
  ·rw[W5 (by rw[h]),look,if_pos h]
  ·rw[W4 (fun e=>h (Rl e)),look,if_neg h];exact VB ks xs n
theorem Jc0:∀(ks:List Int) (xs:List V) (n:Int),ks.length=xs.length->(((ks.map Sum.inl:List Key).zip xs).any fun kv=>decide (kv.1=(Sum.inl n:Key)))=Vn ks n
 | [],_,_,_=>rfl
 | _::_,[],_,h=>by simp at h
 | k::ks,x::xs,n,h=>by
  show(decide ((Sum.inl k:Key)=Sum.inl n) || ((ks.map Sum.inl:List Key).zip xs).any _)=(decide (k=n) || ks.any _)
  rw[Jc0 ks xs n (by simpa using h)];congr 1
  by_cases e:k=n
  ·subst e;simp
  ·rw[decide_eq_false e,decide_eq_false fun z=>e (Rl z)]
theorem JdK:∀(ks:List Int) (xs:List V) (n:Int) (v:V),ks.length=xs.length->(((ks.map Sum.inl:List Key).zip xs).map fun kv=>if kv.1=(Sum.inl n:Key) then(kv.1,v) else kv)=(ks.map Sum.inl:List Key).zip (setK ks xs n v)
 | [],_,_,_,_=>rfl
 | _::_,[],_,_,h=>by simp at h
 | k::ks,x::xs,n,v,h=>by
  show(if (Sum.inl k:Key)=Sum.inl n then((Sum.inl k:Key),v) else(Sum.inl k,x))::((ks.map Sum.inl:List Key).zip xs).map _=(Sum.inl k,if k=n then v else x)::(ks.map Sum.inl:List Key).zip (setK ks xs n v);rw[JdK ks xs n v (by simpa using h)];congr 1
  by_cases e:k=n
  ·subst e;simp
  ·rw[if_neg e,if_neg fun z=>e (Rl z)]
theorem JjV(ks:List Int)(xs:List V)(n:Int)(v:V)(h:ks.length=xs.length):(HO.dK (VQ ((ks.map Sum.inl:List Key).zip xs) (Sum.inl n) v))=dkO (Yv ks n) (putDs ks xs n v):=by
 unfold dkO VQ Yv putDs;rw[Jc0 ks xs n h];split
 ·rw[JdK ks xs n v h]
 ·rw[QL,Ra (by simpa using h)];rfl
section
variable{K:Frag}{C:Addr}{Hs H0 H:Hp}
theorem RDL.look:∀{ks:List Int} {xs:List V} {ds:List D} {n:Int},RDL K C H xs ds->(LE.look ks xs n=none/\LE.look ks ds n=none)\/∃x d,LE.look ks xs n=some x/\LE.look ks ds n=some d/\RD K C H x d
 | [],_,_,_,_=>.inl ⟨rfl,rfl⟩
 | _::_,[],[],_,_=>.inl ⟨rfl,rfl⟩
 | _::_,[],_::_,_,h=>by have:=h.1;simp at this
 | _::_,_::_,[],_,h=>by have:=h.1;simp at this
 | k::ks,x::xs,d::ds,n,h=>by
  simp only[LE.look]
  by_cases e:k=n
  ·rw[if_pos e,if_pos e];exact .inr ⟨x,d,rfl,rfl,h.head⟩
  ·rw[if_neg e,if_neg e];exact RDL.look h.tail
theorem RDL.setK{n:Int}{v:V}{e:D}(r:RD K C H v e):∀{ks:List Int} {xs:List V} {ds:List D},RDL K C H xs ds->RDL K C H (LE.setK ks xs n v) (LE.setK ks ds n e)
 | [],_,_,h=>h
 | _::_,[],[],_=>.nil
 | _::_,[],_::_,h=>by have:=h.1;simp at this
 | _::_,_::_,[],h=>by have:=h.1;simp at this
 | k::ks,x::xs,d::ds,h=>by
  simp only[LE.setK];refine .cons ?_ (RDL.setK r h.tail);split
  ·exact r
  ·exact h.head
theorem RDL.putDs{n:Int}{v:V}{e:D}{ks:List Int}{xs:List V}{ds:List D}(h:RDL K C H xs ds)(r:RD K C H v e):RDL K C H (LE.putDs ks xs n v) (LE.putDs ks ds n e):=by
 unfold LE.putDs;split
 ·exact RDL.setK r h
 ·exact h.snoc r
theorem Joo{p:Addr}{ks:List Int}{xs:List V}{ds:List D}{Q:VK}(i:Same H0 H)(hs:Same Hs H)(hp:H p=none)(hk:ks.length=ds.length)(r:RDL K C H0 xs ds)(q:∀v H0' H',Step Hs H0 H H0' H'->RR K C Hs H0' H' v (.od ks ds)->Q v H'):Q (.ref p) (upd H p (dkO ks xs)) :=
 q _ H0 _ ⟨.new hp,Same.refl _,fun _ _ e=>.inl e,i.trans (.new hp)⟩ ⟨p,xs,rfl,Jv,Same.free i hp,Same.free hs hp,hk,r⟩
end
noncomputable def Sl.dk:Sl->Option (List Int×List D)
 | .sh (.dct ks ds)=>some (ks,ds)
 | .sh (.dfz ks ds)=>some (ks,ds)
 | .bd ks ds=>some (ks,ds)
 | .od ks ds=>some (ks,ds)
 | _=>none
noncomputable def int?:Sl->Option Int
 | .sh (.int i)=>some i
 | _=>none
noncomputable def Jdf:Ev:=fun _=>some (.od [] [])
noncomputable def Jk6(a k:Ev):Ev:=fun E=>(a E).bind fun s=>s.dk.bind fun p=>((k E).bind int?).bind fun n=>(look p.1 p.2 n).map .sh
noncomputable def Jb2(a k x:Ev):Ev:=fun E=>(a E).bind fun s=>s.dk.bind fun p=>((k E).bind int?).bind fun n=>((x E).bind sh?).bind fun d=>some (.sh ((look p.1 p.2 n).getD d))
noncomputable def JeB(i:Nat)(k a:Ev):Es:=fun E=>match E[i]? with
 | some (.od ks ds)=>(a E).bind fun s=>s.frz.bind fun d=>((k E).bind int?).bind fun n=>if ks.length<sizeLine then some (.nx (E.set i (.od (Yv ks n) (putDs ks ds n d)))) else none
 | _=>none
section
variable{K:Frag}{C:Addr}{Hs H0 H:Hp}{td ty tx te:TE}{ed ek ex ea:Ev}
theorem Vp{s:Sl}{n:Int}(e:int? s=some n):s=.sh (.int n):=by
 cases s with
 | sh d=>cases d with
  | int i=>cases e;rfl
  | _=>cases e
 | _=>cases e
theorem RR.dk{v:V}{s:Sl}{p:List Int×List D}(r:RR K C Hs H0 H v s)(i:Same H0 H)(e:s.dk=some p):∃l xs,v=.ref l/\Rd H l (dkO p.1 xs)/\p.1.length=p.2.length/\RDL K C H0 xs p.2:=by
 cases s with
 | bd ks ds=>cases e;obtain⟨l,xs,h1,h2,h3⟩:=r;exact⟨l,xs,h1,.inl h2,h3⟩
 | od ks ds=>cases e;obtain⟨l,xs,h1,h2,_,_,h3⟩:=r;exact⟨l,xs,h1,.inl h2,h3⟩
 | bt _ _=>cases e
 | ot _ _=>cases e
 | sh d=>cases d with
  | dct ks ds=>cases e;obtain⟨l,xs,h1,h2,h3⟩:=RD.dctI r;exact⟨l,xs,h1,.inl (i _ _ h2),h3⟩
  | dfz ks ds=>cases e;obtain⟨l,xs,o,h1,h2,h3⟩:=RD.dfzI r;exact⟨l,xs,h1,.inr ⟨o,i _ _ h2⟩,h3⟩
  | _=>cases e
 | _=>cases e
theorem JpI{l:Addr}{ks:List Int}{xs:List V}{n:Int}(h:Rd H l (dkO ks xs)):Jhf H l (.int n) (look ks xs n):=.inl ⟨_,Sum.inl n,h,rfl,(VB ks xs n).symm⟩
theorem Jfw:SE K C Jkn Jdf:=by intro B H0 H σ E r Q I e q;cases e;intro p hp;exact Joo (ks:=[]) (xs:=[]) (Hs:=H) I.h (Same.refl _) hp rfl .nil q
theorem Jqr(ha:SE K C td ed)(hk:SE K C ty ek):SE K C (Jnp td ty) (Jk6 ed ek):=by
 intro B H0 H σ E r Q I e q;obtain⟨s,e1,e⟩:=bind_some e;obtain⟨p,e2,e⟩:=bind_some e;obtain⟨n,e3,e⟩:=bind_some e;obtain⟨t,e3,e4⟩:=bind_some e3;obtain rfl:=Vp e4;obtain⟨d,e5,rfl⟩:=map_some e;refine ha B H0 H σ E s _ I e1 fun x H1 H1' s1 r1=>hk B H1 H1' σ E _ _ (I.step s1) e3 fun y H2 H2' s2 r2=>?_
 obtain⟨l,xs,rfl,h,_,rl⟩:=(r1.step s2).dk s2.i e2;rw[RD.intI r2];rcases RDL.look (ks:=p.1) (n:=n) rl with ⟨_,z⟩|⟨v,d',z1,z2,z3⟩
 ·rw[z] at e5;cases e5
 ·rw[z2] at e5;cases e5;exact⟨l,v,rfl,z1▸JpI h,q _ _ _ (s1.trans s2) z3⟩
theorem JgV(ha:SE K C td ed)(hk:SE K C ty ek)(hx:SE K C tx ex):SE K C (Jkm td ty tx) (Jb2 ed ek ex):=by
 intro B H0 H σ E r Q I e q;obtain⟨s,e1,e⟩:=bind_some e;obtain⟨p,e2,e⟩:=bind_some e;obtain⟨n,e3,e⟩:=bind_some e;obtain⟨t,e3,e4⟩:=bind_some e3;obtain rfl:=Vp e4;obtain⟨d,e5,e⟩:=bind_some e;obtain⟨t',e5,e6⟩:=bind_some e5;obtain rfl:=ZQ e6;cases e;refine ha B H0 H σ E s _ I e1 fun x H1 H1' s1 r1=>?_
 obtain⟨l0,xs0,rfl,h0,_,_⟩:=r1.dk s1.i e2;refine⟨l0,rfl,.inl ⟨_,h0⟩,hk B H1 H1' σ E _ _ (I.step s1) e3 fun y H2 H2' s2 r2=>hx B H2 H2' σ E _ _ ((I.step s1).step s2) e5 fun z H3 H3' s3 r3=>?_⟩;obtain⟨l,xs,hl,h,_,rl⟩:=((r1.step s2).step s3).dk s3.i e2;cases hl;rw[RD.intI r2];refine⟨_,JpI h,q _ _ _ ((s1.trans s2).trans s3) ?_⟩;rcases RDL.look (ks:=p.1) (n:=n) rl with ⟨z1,z2⟩|⟨v,d',z1,z2,z3⟩
 ·rw[z1,z2];exact r3
 ·rw[z1,z2];exact z3
theorem JkM{i:Nat}(ha:SE K C te ea)(hk:SE K C ty ek):SS K C (Jnm (Zp i) ty te) (JeB i ek ea):=by
 intro B H0 H σ E o D I e f;unfold JeB at e;split at e
 ·next ks ds h =>
  obtain⟨s,e1,e⟩:=bind_some e;obtain⟨d,e2,e⟩:=bind_some e;obtain⟨n,e3,e⟩:=bind_some e;obtain⟨t,e3,e4⟩:=bind_some e3;obtain rfl:=Vp e4;split at e
  ·next hz =>
   cases e;obtain⟨l,xs,g1,g2,g3,g4,gk,g5⟩:=I.slotD h;refine ha B H0 H σ E _ _ I e1 fun v H1 H1' s1 r1=>?_
   have s2:Step H H0 H (Ya H H1 H1') H1':=s1.comp (J2 s1.i) fun _ z=>z
   have rv:=RR.frz s1.i r1 e2;refine⟨_,g1,?_⟩;refine hk B _ H1' σ E _ _ (I.step s2) e3 fun w H3 H3' s3 r3=>?_
   have s4:=s2.trans s3
   have hx:ks.length=xs.length:=gk.trans g5.1.symm;obtain⟨_,n0,nB⟩:=(I.step s4).ownG h rfl g1
   have rr:=(g5.mono s4.z).putDs (ks:=ks) (n:=n) (rv.mono s3.z)
   have m:=(I.step s4).mutG (t':=.od (Yv ks n) (putDs ks ds n d)) (o':=dkO (Yv ks n) (putDs ks xs n v)) h rfl rfl g1 ⟨l,_,rfl,Jv,n0,nB,Jh6 _ _ _ _ gk,rr⟩;rw[RD.intI r3];refine⟨l,_,rfl,.inl ⟨_,Sum.inl n,s4.h _ _ g2,rfl,?_,rfl⟩,?_⟩
   ·rw[GQ,Qm,<- hx,Mf];exact hz
   ·rw[JjV ks xs n v hx];exact f _ _ _ ⟨m.b,s4.z,(s4.ss I.b).n,m.h⟩ m
  ·cases e
 ·cases e
end

noncomputable def Ji1(x y:Sl):Option Sl:=x.m.bind fun ds=>(int? y).bind fun k=>if Jcj k=true/\ds.length*k.toNat<=sizeLine then some (.own (Qt k.toNat ds).flatten) else none
section
variable{K:Frag}{C:Addr}{H:Hp}
theorem RDL.rep{xs:List V}{ds:List D}(r:RDL K C H xs ds):∀k:Nat,RDL K C H (Qt k xs).flatten (Qt k ds).flatten
 | 0=>.nil
 | k+1=>by rw[Q4,Q4,Kk,Kk];exact r.append (RDL.rep r k)
theorem Jng:OpS K C Jqk Ji1:=by
 intro Hs H0 H x y a b c Q i hs ra rb e q;obtain⟨ds,e1,e⟩:=bind_some e;obtain⟨k,e2,e3⟩:=bind_some e;have hb:=Vp e2;subst hb;split at e3
 ·next hz=>cases e3;obtain⟨l,us,rfl,h1,r1⟩:=ra.m i e1;obtain⟨b1,b2⟩:=VH hz.1;exact⟨l,k,us,rfl,RD.intI rb,h1,by omega,by omega,by rw[r1.1];exact hz.2,fun p hp=>Vi i hs hp (r1.rep k.toNat) q⟩
 ·cases e3
end
theorem Jdn{d:D}{s:Sl}{k:Int}(e:s.m=some [d])(h1:Jcj k=true)(h2:k.toNat<=16777216):Ji1 s (.sh (.int k))=some (.own (Qt k.toNat d)):=by
 unfold Ji1;rw[e,QP];show(some k).bind _=_;rw[QP,if_pos ⟨h1,by rw[Go,Nat.one_mul];exact h2⟩];congr 2
 generalize k.toNat=n
 induction n with
 | zero=>rfl
 | succ n ih=>rw[Q4,Kk,ih];rfl
end LE

namespace L2
open PySem PySem.Spec PyProof.Rows
noncomputable def Jnq(i:Nat)(t:TS):TS:=fun D σ H=>∃a kvs,σ[i]?=some (some (.ref a))/\H a=some (.dK kvs)/\∀o,t D σ (upd H a (.frz o (.dK kvs)))
theorem Inv.freeze{X:Cx}{pins:List (Addr×Obj)}{σ:St}{H:Hp}{s:Shared}{a:Addr}{kvs:List (Key×V)}(I:Inv X pins σ H s)(e:H a=some (.dK kvs)):∃o,Inv X pins σ (upd H a (.frz o (.dK kvs))) s:=by
 obtain⟨z,y,vs,r,ob,es,ep,e1,c⟩:=(show ObjOk X.prog X.w H s.heap a (.dK kvs) from I.hok a _ e)
 have:=I.write (x:=a) (e:=a) (o:=.frz ob (.dK kvs)) (h':=s.heap) (t':=s.toks) (by rw[e];trivial) (.inl rfl) (fun b u _ q=>q) ⟨ob,e1⟩ ⟨e1,z,y,vs,r,ob,es,ep,e1,c⟩;exact⟨ob,this⟩
theorem Jmd{X:Cx}{st:Stmt}{t:TS}(i:Nat)(h:PS X st t):PS X st (Jnq i t):=by intro pins s σ H D I ⟨a,kvs,e1,e2,q⟩;obtain⟨o,I'⟩:=I.freeze e2;exact h pins s σ _ D I' (q o)
noncomputable def Itd(a:Addr)(o:Obj)(kvs:List (Key×V)):It :=
 ⟨fun i H=>H a=some (.frz o (.dK kvs))/\∃p,kvs[i]?=some p,
  fun i H x H'=>∃t k v,x=.ref t/\H t=none/\kvs[i]?=some (k,v)/\H'=upd H t (.tup [kV k,v]),
  fun i H=>H a=some (.frz o (.dK kvs))/\i=kvs.length⟩
theorem Jji{P:Program}{w:World}{k:Key}{u:Value}(h:(JO P w).is k u=true):RelV (kV k) u:=by
 rcases J7 (show Zu k u=true from h) with ⟨i,t,rfl,rfl⟩|⟨x,t,rfl,rfl⟩
 ·exact⟨t,rfl⟩
 ·exact⟨t,rfl⟩
theorem KV.get{κ:Type}:∀{kvs:List (κ×V)} {vs:List (κ×Value)} {i:Nat} {p:κ×V},KV kvs vs->kvs[i]?=some p->∃u,vs[i]?=some (p.1,u)/\RelV p.2 u
 | _,_,0,p,.cons h _,e=>by simp at e;subst e;obtain⟨h1,h2⟩:=h;rename_i q _ _;exact⟨_,by simp;exact Kh h1.symm rfl,h2⟩
 | _,_,i+1,p,.cons _ t,e=>by obtain⟨u,h1,h2⟩:=KV.get (i:=i) t (by simpa using e);exact⟨u,by simpa using h1,h2⟩
 | _,_,_,_,.nil,e=>by simp at e
theorem Z1{X:Cx}{pins:List (Addr×Obj)}{σ:St}{H:Hp}{s:Shared}{a:Addr}{o:Obj}{kvs:List (Key×V)}{es:Array DictEntry}{ep:Nat}(I:Inv X pins σ H s)(h:H a=some (.frz o (.dK kvs)))(hd:o.data=.dict es ep) :
 ∃vs,KV kvs vs/\s.heap.DictAt (JO X.prog X.w) a vs ep/\(a == sysModules)=false:=by
 obtain⟨e0,z,y,vs,r,ob,es',ep',e1,c1,c2,c3⟩:=(show ObjOk X.prog X.w H s.heap a (.frz o (.dK kvs)) from I.hok a _ h)
 rw[e0] at e1;cases e1;rw[hd] at c2;cases c2;exact⟨vs,r,⟨o,es,e0,c1,hd,c3⟩,y⟩
theorem JfJ{P:Program}{w:World}{K:Frag}{elts:List Expr}{kk:Nat}{pos:Pos}(a it:Addr)(o:Obj)(kvs:List (Key×V))(es:Array DictEntry)(ep:Nat)(hd:o.data=.dict es ep) :
 Turn P w K (.Tuple elts kk pos) (Itd a o kvs) [it] it (fun i h=>∃ok ov,IsItemIter h it a i kvs.length ep ok ov) where
 mem:=by simp
 obj:=fun i h st c hc=>by
  obtain⟨ok,ov,s1⟩:=st;have hc':c=it:=by simpa using hc
  subst hc';exact⟨_,s1,fun v z=>nomatch (show Data.fields _=Data.cell v from z)⟩
 keep:=fun i h h' st k=>by obtain⟨ok,ov,s1⟩:=st;exact⟨ok,ov,k it (by simp) _ s1⟩
 item:=by
  intro X hP hw hK hc i pins s σ H E I hf st hg;subst hP hw hK;obtain⟨hH,⟨k,v⟩,e1⟩:=hg;obtain⟨vs,r,dd,_⟩:=Z1 I hH hd;obtain⟨ok,ov,s1⟩:=st;obtain⟨u,hu,ru⟩:=r.get e1;have hl:kvs.length=vs.length:=KV.length r;rw[hl] at s1;refine wpAny_pyNext_items_item s1 dd hu fun key h' hk hit' ht hz hkeep=>?_
  refine⟨_,rfl,wpAny_letOwnedTupleGo_items (s:={ s with heap:=h' }) hit' fun k2 t9 e9=>?_⟩
  replace e9:QB it h' k2:=e9;have elt:it<s.heap.objs.size:=Qj s1
  have I1:Inv X pins σ (upd H s.heap.objs.size (.tup [kV k,v])) { s with heap:=s.heap.push { cls:=.type "tuple",data:=.seq #[key,u] },toks:=s.toks } :=
   I.laid (o:=.tup [kV k,v]) (fun c ob q=>Qg _ q) (Qn _) ⟨by show 2<=sizeLine;decide,[key,u],.cons (Jji hk) (.cons ru .nil),⟨_,Qi _ rfl,rfl,_,rfl⟩⟩
  have hf1:∀c∈[it],FpOk X pins (upd H s.heap.objs.size (.tup [kV k,v])) c:=fun c hc=>by
   have hc':c=it:=by simpa using hc
   subst hc';exact⟨by rw[Jm (Qy elt)];exact(hf c hc).1,(hf c hc).2⟩
  have I2:Inv X pins σ (upd H s.heap.objs.size (.tup [kV k,v])) { s with heap:=k2,toks:=s.toks }:=Inv.turnedL (s:={ s with heap:=s.heap.push { cls:=.type "tuple",data:=.seq #[key,u] },toks:=s.toks }) I1 (fun c ob hc q=>by
   have hc':c≠it:=fun z=>hc (by simp[z])
   refine e9.extBut c ob hc' ?_
   by_cases hcs:c=s.heap.objs.size
   ·subst hcs;have q':(s.heap.push { cls:=.type "tuple",data:=.seq #[key,u] }).get? s.heap.objs.size=some ob:=q;rw[Qi _ rfl] at q';cases q';exact ht
   ·have q':s.heap.get? c=some ob:=by have q2:(s.heap.push { cls:=.type "tuple",data:=.seq #[key,u] }).get? c=some ob:=q;exact(Mw s.heap c _ hcs).symm.trans q2
    exact hkeep c ob hc' q') hf1
  refine⟨.ref s.heap.objs.size,_,I2,rfl,⟨_,k,v,rfl,I.hok.fresh (Qn _),e1,rfl⟩,⟨key,u,?_⟩,fun c hc=>(hf1 c hc).1⟩
  ·rw[hl];exact t9
 done:=by
  intro X hP hw hK hc i pins s σ H E I hf st hg;subst hP hw hK;obtain⟨hH,ei⟩:=hg;obtain⟨vs,r,dd,_⟩:=Z1 I hH hd;obtain⟨ok,ov,s1⟩:=st;have hl:kvs.length=vs.length:=KV.length r;have hh:X.A.handled=none:=I.ok.hd hc;rw[hl] at s1;refine wpAny_pyNext_items_end hh s1 dd (LU (by omega)) fun h' he=>⟨rfl,?_⟩
  exact I.turnedL (fun c ob hc q=>he c ob (fun z=>hc (by simp[z])) q) hf
 self:=fun _ _ _ _ _ st h=>by obtain⟨ok,ov,s1⟩:=st;exact PySem.W.kcp_self s1 h
noncomputable def JpS(td:TE):TI:=fun σ H R=>td σ H fun x H1=>∃a o kvs,x=.ref a/\H1 a=some (.frz o (.dK kvs))/\R (Itd a o kvs) H1
theorem JjO{X:Cx}{elts:List Expr}{kk:Nat}{tpos:Pos}{d:Expr}{td:TE}{apos pos:Pos}(hd:PE X d td)(hbase:attributeBase d "items" X.env (eval d X.env)=eval d X.env:=by rfl)(hline:(apos.endLine == pos.line)=true:=by rfl)
:PI X (.Tuple elts kk tpos) (.Call (.Attribute d "items" apos) [] [] pos) (JpS td):=by
 intro pins s σ H R I h;refine LH hbase hline (thn (hd pins s σ H _ I h) fun v s1 ⟨x,H1,I1,r1,a,o,kvs,ex,hH,q⟩=>?_);subst ex;cases r1;obtain⟨t1,t2,_⟩:=Jcl I1 (.inl ⟨kvs,.inr ⟨o,hH⟩⟩);have hO:=(show ObjOk X.prog X.w H1 s1.heap a (.frz o (.dK kvs)) from I1.hok a _ hH)
 obtain⟨e0,z,y,vs,r,ob,es,ep,e1,c1,c2,c3⟩:=hO;rw[e0] at e1;cases e1;have dd:s1.heap.DictAt (JO X.prog X.w) a vs ep:=⟨o,es,e0,c1,c2,c3⟩
 have hl:kvs.length=vs.length:=KV.length r;refine⟨"dict","dict.items",KK,KR,MS,t1,t2,G5 rfl (Mc ?_)⟩;refine call_meetsIn KR t1 MH (Ms _) (meets_dict_items (JO X.prog X.w) a y) ⟨⟨vs,dd.dictOf⟩,?_⟩
 have I2:Inv X pins σ H1 { s1 with heap:=s1.heap.push { cls:=.type "dict_items",data:=.fields #[.ref a] },toks:=s1.toks }:=I1.kept fun b ob q=>Qg _ q
 refine wpAny_pyIter_items (s:={ s1 with heap:=s1.heap.push { cls:=.type "dict_items",data:=.fields #[.ref a] } }) (d:=a) (kvs:=vs) (ep:=ep) (knd:=JO X.prog X.w) ⟨_,Qi _ rfl,rfl,rfl⟩ (dd.push _) ?_;refine⟨_,[(s1.heap.push { cls:=.type "dict_items",data:=.fields #[.ref a] }).objs.size],_,_,H1,rfl,I2.kept (t':=s1.toks) fun b ob q=>Qg _ q,JfJ a _ o kvs es ep c2,⟨.none,.none,?_⟩,fun c hc=>?_,q⟩
 ·rw[hl];exact Qi _ rfl
 ·have hc':c=(s1.heap.push { cls:=.type "dict_items",data:=.fields #[.ref a] }).objs.size:=by simpa using hc
  subst hc';exact I2.fpOk (Qn _) (I2.hok.fresh (Qn _))
end L2
namespace LE
open PySem L2 LR
noncomputable def Jhd(i:Nat)(b:Es):Es:=fun E=>match E[i]? with
 | some (.od ks ds)=>b (E.set i (.sh (.dfz ks ds)))
 | _=>none
noncomputable def JdA:List Int->List D->List D:=List.zipWith fun k d=>.tup [.int k,d]
noncomputable def Je6(a:Ev):En->Option (List D):=fun E=>(a E).bind fun s=>match s with
 | .sh (.dfz ks ds)=>some (JdA ks ds)
 | _=>none
section
variable{K:Frag}{C:Addr}{m:Bool}{t:TS}{et:Es}{td:TE}{ed:Ev}
theorem Jpt(i:Nat)(ht:SS K C t et):SS K C (Jnq i t) (Jhd i et):=by
 intro B H0 H σ E o D I e f;unfold Jhd at e;split at e
 ·next ks ds h =>
  obtain⟨l,xs,g1,g2,g3,g4,gk,g5⟩:=I.slotD h;refine⟨l,_,g1,g2,fun ob=>?_⟩;have hi:i<E.length:=(Qk.mp h).1;have s0:Same H0 (upd H0 l (.frz ob (dkO ks xs))):=.new g3;have nb:∀{A:Hp},A l=none->Same A H->Same A (upd H l (.frz ob (dkO ks xs))):=fun {A} n s a o e=>by rw[Jm (Jw e n)];exact s a o e
  have s1:Same (upd H0 l (.frz ob (dkO ks xs))) (upd H l (.frz ob (dkO ks xs))):=fun a o e=>by
   by_cases ha:a=l
   ·subst ha;rw[Jv] at e ⊢;exact e
   ·rw[Jm ha] at e ⊢;exact I.h a o e
  have st:SStep B H0 (upd H0 l (.frz ob (dkO ks xs))) (upd H l (.frz ob (dkO ks xs))):=⟨nb g4 I.b,s0,fun a o e=>by
   by_cases ha:a=l
   ·subst ha;exact .inr (.inl g4)
   ·rw[Jm ha] at e;exact .inl e,s1⟩
  refine ht B _ _ σ _ o D ⟨nb g4 I.b,s1,by simp[I.len],fun j s e=>?_,fun j k u1 u2 v hjk a1 a2 w1 w2 a3=>?_⟩ e (f.step st)
  ·rw[Q5] at e
   by_cases hj:i=j
   ·subst hj;rw[if_pos rfl,if_pos hi] at e;cases e;exact .inr ⟨_,g1,.mkZ Jv gk (g5.mono s0)⟩
   ·rw[if_neg hj] at e;rcases I.at' j s e with z|⟨v,q1,q2⟩
    ·exact .inl z
    ·refine .inr ⟨v,q1,?_⟩
     cases s with
     | no=>trivial
     | sh d=>exact RD.mono s0 q2
     | bo es=>obtain⟨l',ys,p1,p2,p3⟩:=q2;exact⟨l',ys,p1,p2,p3.mono s0⟩
     | bd ks es=>obtain⟨l',ys,p1,p2,hk,p3⟩:=q2;exact⟨l',ys,p1,p2,hk,p3.mono s0⟩
     | bt ks es=>obtain⟨l',ys,p1,p2,hk,p3⟩:=q2;exact⟨l',ys,p1,p2,hk,p3.mono s0⟩
     | own es =>
      obtain⟨l',ys,p1,p2,p3,p4,p5⟩:=q2;subst p1;have:l'≠l:=fun z=>by subst z;exact I.sep i j _ _ (.ref l') hj h e rfl rfl g1 q1
      exact⟨l',ys,rfl,by rw[Jm this];exact p2,by rw[Jm this];exact p3,p4,p5.mono s0⟩
     | od ks es =>
      obtain⟨l',ys,p1,p2,p3,p4,hk,p5⟩:=q2;subst p1;have:l'≠l:=fun z=>by subst z;exact I.sep i j _ _ (.ref l') hj h e rfl rfl g1 q1
      exact⟨l',ys,rfl,by rw[Jm this];exact p2,by rw[Jm this];exact p3,p4,hk,p5.mono s0⟩
     | ot ks es =>
      obtain⟨l',ys,p1,p2,p3,p4,hk,p5⟩:=q2;subst p1;have:l'≠l:=fun z=>by subst z;exact I.sep i j _ _ (.ref l') hj h e rfl rfl g1 q1
      exact⟨l',ys,rfl,by rw[Jm this];exact p2,by rw[Jm this];exact p3,p4,hk,p5.mono s0⟩
  ·have own:∀{j:Nat} {u:Sl},(E.set i (.sh (.dfz ks ds)))[j]?=some u->YU u=true->E[j]?=some u:=fun {j u} a w=>by
    rw[Q5] at a
    by_cases hj:i=j
    ·subst hj;rw[if_pos rfl,if_pos hi] at a;cases a;cases w
    ·rw[if_neg hj] at a;exact a
   exact I.sep j k u1 u2 v hjk (own a1 w1) (own a2 w2) w1 w2 a3
 ·cases e
theorem JaR:∀(ks:List Int) (xs:List V) (i:Nat),((ks.map Sum.inl:List Key).zip xs)[i]?=(match ks[i]?,xs[i]? with|some k,some x=>some ((Sum.inl k:Key),x)|_,_=>none)
 | [],xs,i=>by simp
 | k::ks,[],i=>by cases h:(k::ks)[i]? <;> simp_all
 | k::ks,x::xs,0=>by simp
 | k::ks,x::xs,i+1=>by simpa using JaR ks xs i
theorem Jkb(ha:SE K C td ed):SI K C m (JpS td) (Je6 ed):=by
 intro B H0 H σ E ds R I e q;obtain⟨s,e1,e⟩:=bind_some e;split at e
 ·next ks es =>
  cases e;refine ha B H0 H σ E _ _ I e1 fun x H1 H1' s1 r1=>?_
  obtain⟨l,xs,o,rfl,h,hk,rl⟩:=RD.dfzI r1;refine⟨l,o,_,rfl,s1.i _ _ h,q _ _ _ s1 ?_⟩
  have sA:Same (if m=true then H1' else B) H1':=by
   split
   ·exact Same.refl _
   ·exact I.b.trans s1.h
  intro H0' H' st;have hl:H' l=some (.frz o (dkO ks xs)):=st.i _ _ (st.z _ _ h);refine⟨fun i d e=>?_,⟨hl,?_⟩⟩
  ·unfold JdA at e;rw[Re] at e
   cases hki:ks[i]? with
   | none=>rw[hki] at e;cases e
   | some k =>
    cases hdi:es[i]? with
    | none=>rw[hki,hdi] at e;cases e
    | some d' =>
     rw[hki,hdi] at e;cases e;obtain⟨x,hx,rx⟩:=rl.get hdi;have hz:((ks.map Sum.inl:List Key).zip xs)[i]?=some (Sum.inl k,x):=by rw[JaR,hki,hx]
     refine⟨⟨hl,_,hz⟩,?_⟩;rintro z H2 ⟨p,k',v',rfl,hp,hv,rfl⟩;rw[hz] at hv;cases hv;have h0:H0' p=none:=Same.free st.i hp;refine⟨upd H0' p (.tup [.int k,x]),⟨.new hp,.new h0,fun a o e=>?_,fun a o e=>?_⟩,?_⟩
     ·by_cases h:a=p
      ·subst h;exact .inr (.inl hp)
      ·rw[Jm h] at e;exact .inl e
     ·by_cases h:a=p
      ·subst h;rw[Jv] at e ⊢;exact e
      ·rw[Jm h] at e ⊢;exact st.i a o e
     ·exact .mkT (.of Jv) (.cons (.int _) (.cons (rx.mono (st.z.trans (.new h0))) .nil))
  ·unfold JdA;rw[List.length_zipWith,GQ,Qm,rl.1]
 ·cases e
end
end LE

namespace L2
open PySem PySem.Spec PyProof.Rows
noncomputable def Jnt(p a:Addr):HO:=.ext fun h=>Rx h p a
theorem Jb1{X:Cx}{pins:List (Addr×Obj)}{σ:St}{H:Hp}{s:Shared}{a:Addr}{kvs:List (Key×V)}(I:Inv X pins σ H s)(h:Rd H a (.dK kvs)) :
 ∃vs ep,KV kvs vs/\s.heap.DictAt (JO X.prog X.w) a vs ep/\(a == sysModules)=false/\kvs.length<=sizeLine:=by
 obtain⟨z,y,vs,r,ob,es,ep,e1,c⟩:=(show ObjOk X.prog X.w H s.heap a (.dK kvs) from h.ok I.hok)
 exact⟨vs,ep,r,⟨ob,es,e1,c⟩,y,z⟩
noncomputable def Jpz(H:Hp)(r a:Addr):Prop:=r=a\/H r=some (Jnt r a)
theorem Jpd{X:Cx}{pins:List (Addr×Obj)}{σ:St}{H:Hp}{s:Shared}{r a:Addr}{kvs:List (Key×V)}(I:Inv X pins σ H s)(d:Jpz H r a)(h:Rd H a (.dK kvs)) :
 ∃vs T OK,KV kvs vs/\PySem.W.KdlSrc X.prog X.w T r a vs.length (fun i v=>∃k x,vs[i]?=some (k,x)/\(JO X.prog X.w).is k v=true) OK/\OK s.heap/\vs.length<=sizeLine:=by
 obtain⟨vs,ep,rl,dd,y,z⟩:=Jb1 I h;rw[KV.length rl] at z;rcases d with e|e
 ·subst e;exact⟨vs,_,_,rl,PySem.W.kdl_dict (ep:=ep) y,dd,z⟩
 ·have vw:Rx s.heap r a:=(show ObjOk X.prog X.w H s.heap r (Jnt r a) from I.hok r _ e).1;exact⟨vs,_,_,rl,PySem.W.kdl_keys (ep:=ep),⟨vw,dd⟩,z⟩
theorem Jdy{P:Program}{w:World}:∀{ks:List Int} {xs:List V} {vs:List (Key×Value)} {acc:List Value},ks.length=xs.length->KV ((ks.map Sum.inl:List Key).zip xs) vs->acc.length=vs.length ->
 (∀(j:Nat) (v:Value),acc[j]?=some v->∃k x,vs[j]?=some (k,x)/\(JO P w).is k v=true)->IntsAre acc ks
 | [],[],_,acc,_,r,hl,_=>by
  cases r
  cases acc with
  | nil=>exact .nil
  | cons _ _=>simp at hl
 | [],_::_,_,_,h,_,_,_=>by simp at h
 | _::_,[],_,_,h,_,_,_=>by simp at h
 | k::ks,x::xs,vs,acc,h,r,hl,hv=>by
  cases r with
  | cons r1 r2 =>
   cases acc with
   | nil=>simp at hl
   | cons u acc =>
    obtain⟨k',x',e1,e2⟩:=hv 0 u rfl;simp at e1;obtain⟨r1a,r1b⟩:=r1;subst e1;have ek:k'=Sum.inl k:=r1a.symm;subst ek;rcases J7 (show Zu (Sum.inl k) u=true from e2) with ⟨i,t,e,rfl⟩|⟨y,t,e,_⟩
    ·cases e;exact .cons k t (Jdy (by simpa using h) r2 (by simpa using hl) fun j v e=>hv (j+1) v (by simpa using e))
    ·cases e
section
variable{prog:Program}{w:World}{A:Around}{E:Value->Shared->Prop}{s:Shared}{T:String}{r d:Addr}{n:Nat}{P:Nat->Value->Prop}{OK:Heap->Prop}
end
noncomputable def JjZ:List V->Hp->VK->Prop:=fun xs H Q=>∃(r a:Addr) (ks:List Int) (vs:List V),xs=[.ref r]/\Jpz H r a/\Rd H a (.dK ((ks.map Sum.inl:List Key).zip vs))/\ks.length=vs.length/\∀l,H l=none->Q (.ref l) (upd H l (.lst (ks.map V.int)))
theorem JeP{X:Cx}(hc:X.calm=true):YR X (.type "list") JjZ:=by
 intro pins s σ H xs us Q I r h;obtain⟨p,a,ks,vs0,rfl,ds,hq,hlk,q⟩:=h;obtain⟨u,rfl,rx⟩:=V2 r;cases rx;obtain⟨vs,T,OK,rl,K,ok,hz⟩:=Jpd I ds hq;have hh:X.A.handled=none:=I.ok.hd hc
 have hl:vs.length=ks.length:=by have:=KV.length rl;rw[GQ,Qm,<- hlk,Mf] at this;exact this.symm
 refine PySem.W.kdl_call K hh ok hz fun h' tk acc c' hk hS items=>?_
 have hI:IntsAre acc.toList ks:=Jdy (P:=X.prog) (w:=X.w) hlk rl (by rw[QE,items.1]) fun j v e=>items.2 j v (by rw[<- Kb];exact e)
 have hne:H s.heap.objs.size=none:=I.hok.fresh (Qn _);refine⟨.ref s.heap.objs.size,_,I.laid (t':=tk) hk (Qn _) (show ObjOk X.prog X.w _ _ _ (.lst (ks.map V.int)) from⟨by rw[Qm,<- hl];exact hz,acc.toList,c',VM hI,?_⟩),rfl,q _ hne⟩;rw[hS]
end L2
namespace LE
open PySem L2 LR
noncomputable def JeX(a:Ev):Ev:=fun E=>(a E).bind fun s=>s.dk.bind fun p=>some (.own (p.1.map .int))
section
variable{K:Frag}{C:Addr}{td:TE}{ed:Ev}
theorem Rd.put{H:Hp}{l p:Addr}{o u:HO}(h:Rd H l o)(hp:H p=none):Rd (upd H p u) l o:=by
 rcases h with h|⟨ob,h⟩
 ·exact .inl (by rw[Jm (Jw h hp)];exact h)
 ·exact .inr ⟨ob,by rw[Jm (Jw h hp)];exact h⟩
theorem Jmv(ha:SE K C td ed):SE K C (tCB JjZ (U9 td Wl)) (JeX ed):=by
 intro B H0 H σ E r Q I e q;obtain⟨s,e1,e⟩:=bind_some e;obtain⟨p,e2,e⟩:=bind_some e;cases e;refine ha B H0 H σ E s _ I e1 fun x H1 H1' s1 r1=>?_
 obtain⟨l,xs,rfl,h,hk,rl⟩:=r1.dk s1.i e2;exact⟨l,l,p.1,xs,rfl,.inl rfl,h,by rw[hk,rl.1],fun z hz=>Vi s1.i s1.h hz (RDL.ofInts _) fun v H2 H2' s2 r2=>q v H2 H2' (s1.comp s2 fun _ y=>y) r2⟩
end
end LE

namespace L2
open PySem PySem.Spec PyProof.Rows
theorem Inv.more{X:Cx}{pins:List (Addr×Obj)}{σ:St}{H H':Hp}{s:Shared}{h':Heap}{t':Nat}(I:Inv X pins σ H s)(k:∀b u,s.heap.get? b=some u->h'.get? b=some u)(hx:∀b,b<s.heap.objs.size->H' b=H b)
 (new:∀b o,s.heap.objs.size<=b->H' b=some o->ObjOk X.prog X.w H' h' b o):Inv X pins σ H' { s with heap:=h',toks:=t' }:=by
 have old:∀b o,H b=some o->H' b=some o:=fun b o e=>by rw[hx b (I.hok.lt e)];exact e
 refine I.un ⟨fun b u q _ _ _=>k b u q,fun b u q _ _ _=>⟨u.slots,k b u q⟩,fun b u q n _=>by rw[hx b (Qj q)];exact n,fun b u q _=>⟨u,k b u q⟩,fun b xs q=>old b _ q,fun b u xs q=>old b _ q,fun b ps q=>⟨#[],by rw[old b _ q];simp⟩⟩ fun b o e=>?_
 rcases Lm b s.heap.objs.size with z|z
 ·rw[hx b z] at e;exact(I.hok b o e).stay (fun c u _ q=>k c u q) (fun c q=>old c _ q) fun c xs q=>old c _ q
 ·exact new b o z e
noncomputable def W6(p a:Addr):HO:=.ext fun h=>h.IsItemsView p a
noncomputable def Jko(td:TE):TE:=fun σ H Q=>td σ H fun x H1=>∃a kvs,x=.ref a/\Rd H1 a (.dK kvs)/\∀p,H1 p=none->Q (.ref p) (upd H1 p (W6 p a))
theorem JjL{X:Cx}{d:Expr}{td:TE}{apos pos:Pos}(hd:PE X d td)(hbase:attributeBase d "items" X.env (eval d X.env)=eval d X.env:=by rfl)(hline:(apos.endLine == pos.line)=true:=by rfl)
:PE X (.Call (.Attribute d "items" apos) [] [] pos) (Jko td):=by
 intro pins s σ H Q I h;refine LH hbase hline (thn (hd pins s σ H _ I h) fun v s1 ⟨x,H1,I1,r1,a,kvs,ex,hH,q⟩=>?_);subst ex;cases r1;obtain⟨t1,t2,_⟩:=Jcl I1 (.inl ⟨kvs,hH⟩);obtain⟨vs,ep,r,dd,y,_⟩:=Jb1 I1 hH;refine⟨"dict","dict.items",KK,KR,MS,t1,t2,G5 rfl (Mc ?_)⟩;refine call_meetsIn KR t1 MH (Ms _) (meets_dict_items (JO X.prog X.w) a y) ⟨⟨vs,dd.dictOf⟩,?_⟩
 have hn:H1 s1.heap.objs.size=none:=I1.hok.fresh (Qn _)
 have vw:(s1.heap.push { cls:=.type "dict_items",data:=.fields #[.ref a] }).IsItemsView s1.heap.objs.size a:=⟨_,Qi _ rfl,rfl,rfl⟩
 refine⟨.ref s1.heap.objs.size,_,I1.laid (t':=s1.toks) (o:=W6 s1.heap.objs.size a) (fun b ob q=>Qg _ q) (Qn _) ⟨vw,⟨_,Qi _ rfl⟩,fun h1 h2 p k=>?_⟩,rfl,q _ hn⟩;obtain⟨o,ho,hc⟩:=p;exact⟨o,k o ho,hc⟩
noncomputable def Wj(H:Hp):List Addr->List (Key×V)->Hp
 | a::as,kv::kvs=>upd (Wj H as kvs) a (.tup [kV kv.1,kv.2])
 | _,_=>H
theorem UZ{H:Hp}{b:Addr}:∀{as:List Addr} {kvs:List (Key×V)},b∉as->Wj H as kvs b=H b
 | [],_,_=>rfl
 | _::_,[],_=>rfl
 | a::as,kv::kvs,h=>by rw[Wj,Jm fun z=>h (by rw[z];exact Qe)];exact UZ fun m=>h (Qc _ m)
theorem ZM{H:Hp}:∀{as:List Addr} {kvs:List (Key×V)} {j:Nat} {a:Addr} {kv:Key×V},as.Nodup->as[j]?=some a->kvs[j]?=some kv->Wj H as kvs a=some (.tup [kV kv.1,kv.2])
 | [],_,_,_,_,_,e,_=>by simp at e
 | _::_,[],_,_,_,_,_,e=>by simp at e
 | b::as,kv'::kvs,0,a,kv,_,e1,e2=>by simp at e1 e2;subst e1 e2;rw[Wj,Jv]
 | b::as,kv'::kvs,j+1,a,kv,hn,e1,e2=>by
  rw[QX] at hn;simp at e1 e2;have hne:a≠b:=fun z=>hn.1 (by rw[<- z];exact QC e1)
  rw[Wj,Jm hne];exact ZM hn.2 e1 e2
noncomputable def JjY:List V->Hp->VK->Prop:=fun xs H Q=>∃(r a:Addr) (kvs:List (Key×V)),xs=[.ref r]/\H r=some (W6 r a)/\Rd H a (.dK kvs) ∧
 ∀(L:Addr) (as:List Addr),H L=none->as.length=kvs.length->as.Nodup->L∉as->(∀b∈as,H b=none)->Q (.ref L) (upd (Wj H as kvs) L (.lst (as.map V.ref)))
theorem JeO{X:Cx}(hc:X.calm=true):YR X (.type "list") JjY:=by
 intro pins s σ H xs us Q I r h;obtain⟨p,a,kvs,rfl,hv,hq,q⟩:=h;obtain⟨u,rfl,rx⟩:=V2 r;cases rx;obtain⟨vs,ep,rl,dd,_,hz⟩:=Jb1 I hq;have hl:kvs.length=vs.length:=KV.length rl;have vw:s.heap.IsItemsView p a:=(show ObjOk X.prog X.w H s.heap p (W6 p a) from I.hok p _ hv).1;have hh:X.A.handled=none:=I.ok.hd hc;refine PySem.W.kdx_call hh vw dd (by rw[<- hl];exact hz) fun h' tk acc c as hk hS hal hG hacc=>?_
 have hnd:as.Nodup:=hG.rise.imp fun {x y} h=>Qy h
 have hLa:s.heap.objs.size∉as:=fun m=>absurd (hG.above _ m) (Q6 _)
 have fr:∀b∈as,H b=none:=fun b hb=>I.hok.fresh (GS (hG.above b hb))
 have hne:H s.heap.objs.size=none:=I.hok.fresh (Qn _)
 have hsize:as.length<=sizeLine:=by rw[hal,<- hl];exact hz
 refine⟨.ref s.heap.objs.size,_,I.more (t':=tk) hk (fun b hb=>?_) (fun b o hb e=>?_),rfl,q s.heap.objs.size as hne (by rw[hal,hl]) hnd hLa fr⟩
 ·rw[Jm (Qy hb)];exact UZ fun m=>absurd (hG.above b m) (LW.mpr (GS hb))
 ·by_cases hL:b=s.heap.objs.size
  ·subst hL;rw[Jv] at e;cases e;refine⟨by rw[Qm];exact hsize,acc.toList,c,?_,?_⟩
   ·rw[hacc]
    have:∀l:List Addr,Vals (l.map V.ref) (l.map Value.ref):=fun l=>by
     induction l with
     | nil=>exact .nil
     | cons x l ih=>exact .cons rfl ih
    exact this as
   ·rw[hS]
  ·rw[Jm hL] at e
   by_cases hm:b∈as
   ·obtain⟨j,hj⟩:=GK.mp hm;obtain⟨key,k,x,e1,e2,e3⟩:=hG.pairs j b hj;have hjl:j<kvs.length:=by have:=(Qk.mp e1).1;omega
    have hkv:kvs[j]?=some kvs[j]:=QT hjl;obtain⟨u,hu,ru⟩:=rl.get hkv;rw[e1] at hu;cases hu;rw[ZM hnd hj hkv] at e;cases e;exact⟨by show 2<=sizeLine;decide,[key,x],.cons (Jji e2) (.cons ru .nil),⟨_,e3,rfl,_,rfl⟩⟩
   ·rw[UZ hm,I.hok.fresh hb] at e;cases e
end L2
namespace LE
open PySem L2 LR
noncomputable def Jb3(a:Ev):Ev:=fun E=>(a E).bind fun s=>s.dk.bind fun p=>some (.own (JdA p.1 p.2))
section
variable{K:Frag}{C:Addr}{td:TE}{ed:Ev}
theorem Jbw{H:Hp}{kvs:List (Key×V)}{as:List Addr}(h:∀b∈as,H b=none):Same H (Wj H as kvs):=fun b o e=>by rw[UZ fun m=>by rw[h b m] at e;cases e];exact e
theorem Jgq{H:Hp}:∀{as:List Addr} {kvs:List (Key×V)} {b:Addr} {o:HO},Wj H as kvs b=some o->H b=some o\/b∈as
 | [],_,_,_,e=>.inl e
 | _::_,[],_,_,e=>.inl e
 | a::as,kv::kvs,b,o,e=>by
  by_cases c:b=a
  ·exact .inr (by rw[c];exact Qe)
  ·rw[Wj,Jm c] at e;exact(Jgq e).imp id fun m=>Qc _ m
theorem RDL.items:∀{ks:List Int} {xs:List V} {ds:List D} {as:List Addr} {H:Hp},ks.length=ds.length->as.length=ks.length->(∀(j:Nat) (a:Addr) (k:Int) (x:V),as[j]?=some a->ks[j]?=some k->xs[j]?=some x->H a=some (.tup [.int k,x]))->RDL K C H xs ds->RDL K C H (as.map V.ref) (JdA ks ds)
 | [],[],[],[],_,_,_,_,_=>.nil
 | [],_,_,a::as,_,_,h,_,_=>by simp at h
 | [],_,d::ds,_,_,h,_,_,_=>by simp at h
 | k::ks,_,[],_,_,h,_,_,_=>by simp at h
 | k::ks,_,_,[],_,_,h,_,_=>by simp at h
 | [],x::xs,[],[],_,_,_,_,h=>by have:=h.1;simp at this
 | k::ks,[],d::ds,a::as,_,_,_,_,h=>by have:=h.1;simp at this
 | k::ks,x::xs,d::ds,a::as,H,h1,h2,h3,h4=>by show RDL K C H (V.ref a::as.map V.ref) (.tup [.int k,d]::JdA ks ds);refine .cons (.mkT (.of (h3 0 a k x rfl rfl rfl)) (.cons (.int k) (.cons h4.head .nil))) (RDL.items (by simpa using h1) (by simpa using h2) (fun j a k x e1 e2 e3=>h3 (j+1) a k x (by simpa using e1) (by simpa using e2) (by simpa using e3)) h4.tail)
theorem Jmu(ha:SE K C td ed):SE K C (tCB JjY (U9 (Jko td) Wl)) (Jb3 ed):=by
 intro B H0 H σ E r Q I e q;obtain⟨s,e1,e⟩:=bind_some e;obtain⟨p,e2,e⟩:=bind_some e;cases e;refine ha B H0 H σ E s _ I e1 fun x H1 H1' s1 r1=>?_
 obtain⟨l,xs,rfl,h,hk,rl⟩:=r1.dk s1.i e2;refine⟨l,_,rfl,h,fun w hw=>?_⟩;have st:Step H1' H1 H1' H1 (upd H1' w (W6 w l)):=⟨.new hw,Same.refl _,fun _ _ e=>.inl e,s1.i.trans (.new hw)⟩
 have s2:=s1.trans st;refine⟨w,l,_,rfl,Jv,Rd.put h hw,fun L as hL hal hnd hLa hfr=>?_⟩;rw[GQ,Qm,rl.1,hk,Mf] at hal
 have fr0:∀b∈as,H1 b=none:=fun b hb=>Same.free s2.i (hfr b hb)
 have frH:∀b∈as,H b=none:=fun b hb=>Same.free s2.h (hfr b hb)
 have hL0:H1 L=none:=Same.free s2.i hL
 have z0:Same H1 (Wj H1 as ((p.1.map Sum.inl:List Key).zip xs)):=Jbw fr0
 have zz:Same (upd H1' w (W6 w l)) (Wj (upd H1' w (W6 w l)) as ((p.1.map Sum.inl:List Key).zip xs)):=Jbw hfr
 have hLl:Wj (upd H1' w (W6 w l)) as ((p.1.map Sum.inl:List Key).zip xs) L=none:=by rw[UZ hLa];exact hL
 have ii:Same (Wj H1 as ((p.1.map Sum.inl:List Key).zip xs)) (Wj (upd H1' w (W6 w l)) as ((p.1.map Sum.inl:List Key).zip xs)):=fun b o e=>by
  by_cases hb:b∈as
  ·obtain⟨j,hj⟩:=GK.mp hb
   have hjl:j<((p.1.map Sum.inl:List Key).zip xs).length:=by rw[GQ,Qm,rl.1,hk,Mf];have:=(Qk.mp hj).1;omega
   have hkv:=QT hjl;rw[ZM hnd hj hkv] at e ⊢;exact e
  ·rw[UZ hb] at e ⊢;exact s2.i b o e
 refine q _ (Wj H1 as ((p.1.map Sum.inl:List Key).zip xs)) _ ⟨(s2.h.trans zz).trans (.new hLl),s2.z.trans z0,fun b o e=>?_,ii.trans (.new hLl)⟩ ⟨L,as.map V.ref,rfl,Jv,by rw[UZ hLa];exact hL0,Same.free s2.h hL,?_⟩
 ·rcases Jgq e with z|z
  ·exact s2.n b o z
  ·exact .inr (.inl (frH b z))
 ·refine RDL.items (xs:=xs) hk (by rw[hal,hk]) (fun j a k x j1 j2 j3=>?_) (rl.mono z0);exact ZM hnd j1 (by rw[JaR,j2,j3])
end
end LE

namespace L2
open PySem PySem.Spec PyProof.Rows
noncomputable def TrD(h base:Heap)(e:Addr)(cls:Value)(dct:Option Addr)(fl:Value):Prop :=
 ∃oe vs T oT ts,h.get? e=some oe/\(oe.cls=cls/\oe.dict=dct)/\oe.data=.fields vs/\vs[1]?=some (.ref T)/\base.get? T=none/\T≠e/\h.get? T=some oT/\oT.data=.fields ts/\ts[3]?=some fl
noncomputable def Fl(base:Heap)(l:List Env)(e:Addr)(cls:Value)(h:Heap):Prop :=
 base.StaysIn h/\base.get? e=none/\h.FunFrames base l/\(TrD h base e cls none .none\/∃oe vs,h.get? e=some oe/\(oe.cls=cls/\oe.dict=none)/\oe.data=.fields vs/\vs[1]?=some .none)
noncomputable def Cov(fs:List Addr)(H':Hp)(h h' base:Heap):Prop:=∀b o,(H' b≠none\/∃u,h.get? b=some u)->b∉fs->h'.get? b=some o->base.get? b=some o
structure XF (P:Program) (w:World) (l:List Env) (H:Hp) (h:Heap) (a:Addr) (cls:Value) (H':Hp) (base h':Heap):Prop where
 un:Un (frs l) [] H H' h h'
 hok:HOk P w H' h'
 fl:Fl base l a cls h'
 cov:Cov (frs l) H' h h' base
 free:H' a=none
 new:h.get? a=none
noncomputable def CX1(P:Program)(w:World):CXT:=fun l H s E e s'=>∃(a:Addr) (cls:Value) (H':Hp) (base:Heap),e=.ref a/\s'.os=s.os/\AllBare s'.gens/\XF P w l H s.heap a cls H' base s'.heap/\E cls (some a) H'
section
variable{P:Program}{w:World}{l:List Env}{H H':Hp}{h h1 h2 base base0:Heap}{a:Addr}{cls:Value}
end
section
variable{M:Model}{A:Around}{E:Value->Shared->Prop}{s:Shared}{base:Heap}{env:Env}{outer l:List Env}{L e:Addr}{cls fl:Value}{dct:Option Addr}{Q:Unit->Shared->Prop}
end

noncomputable def XP(X:Cx)(pins:List (Addr×Obj))(σ:St)(E:XK)(e:Value)(s':Shared):Prop:=∃H s,Inv X pins σ H s/\CX1 X.prog X.w X.stack H s E e s'
section
variable{X:Cx}{pins:List (Addr×Obj)}{σ:St}{H H':Hp}{s s':Shared}{base:Heap}{a:Addr}{cls:Value}{E:XK}{e:Value}
end
end L2

namespace L2
open PySem PySem.Spec PyProof.Rows PySem.Calls
abbrev VEm:List Value:=[.type "ValueError",.type "Exception",.type "BaseException",.type "object"]
section
variable{P:Program}{w:World}{K:Frag}{mg:Str->Option Value}{base:Heap}{N:List Str}{qual:Str}{scope:Scope}{f:Addr}{cd:Value}{A:Around}{outer:List Env}{s:Shared}{H:Hp}{E:XK}
end
section
variable{X:Cx}{x:Str}{np cpos pos:Pos}{C:Addr}{E:XK}{e:Expr}{es:List Expr}{t:TA}
end
end L2

namespace L2
open PySem PySem.Spec PyProof.Rows PySem.Calls
section
variable{X:Cx}{k:Nat}{C:Addr}{ps:List Str}{sp:Sp}{x:Str}{p pos:Pos}{e:Expr}{es:List Expr}{t:TA}{st:Stmt}{rest:List Stmt}{T:XK->TE}{TS1:(St->XK)->TS}{u:TS}
end
end L2
namespace L2
open PySem PySem.Spec PyProof.Rows PySem.Calls LE
section
variable{X:Cx}{pins:List (Addr×Obj)}{σ:St}{H:Hp}{s:Shared}{a:Addr}
end
section
variable{X:Cx}{body suite:List Stmt}{b₀:Stmt}{i:Nat}{n cn:Str}{np hpos pos:Pos}{CL:Addr}{T:(St->XK)->TS}{th:TS}
end
end L2

namespace L2
open PySem PySem.Spec PyProof.Rows PySem.Calls LE
structure ExcN (K:Frag) (n:Str):Prop where
 ex:∃c,nsIn K mainGlobals n=some (some (.ref c))/\PySem.W.excIn K c VEm "ValueError.__new__"=true
 pl:∀c,nsIn K mainGlobals n=some (some (.ref c))->findIn K (.ref c) "__getattribute__"=some (some (.builtin "BaseException.__getattribute__"))/\findIn K (.ref c) "__getattr__"=some none/\mroIn K c (.type "BaseException")=some true/\hasDictIn K c=true/\findIn K (.ref c) "__class__"=some (some (.builtin "object.__class__"))/\mroIn K c (.type "object")=some true
structure ExcG (K:Frag):Prop where
 hn:RH K (.builtin "object.__class__") "__get__"=some (some (.builtin "getset_descriptor.__get__"))
 htk:PySem.W.takesIn K (.builtin "object.__class__")=some true
section
variable{prog:Program}{w:World}{A:Around}{E:Value->Shared->Prop}{s:Shared}{K:Frag}{x C D:Addr}{ox:Obj}
end
section
variable{K:Frag}{x D:Addr}{ox:Obj}
end
section
variable{X:Cx}
end
end L2

namespace LE
open PySem L2 LR
section
variable(K:Frag)(C:Addr)
end
section
variable{K:Frag}{C:Addr}{W:XK}{t:TA}{ev:En->Option (List Sl)}{te:TE}{ts us:TS}{et eu:Es}{xt xu:Xv}{ex:Xv}
end
section
variable{K:Frag}{C:Addr}{B H0 H:Hp}{σ:St}{E:En}
end
section
variable{K:Frag}{C:Addr}
end
noncomputable def exB(n m:Str):Bool:=n == m || m == "LumpError"
section
variable{K:Frag}{C:Addr}{te:TE}{ea:Ev}
structure IsiN (K:Frag) (R:List Str) (m:Str) (c:Addr):Prop where
 own:∀n∈R,ExcN K n
 g:ExcG K
 k:∀n∈R,∀c',nsIn K mainGlobals n=some (some (.ref c'))->kitOne K (.ref c') (.ref c)=some (exB n m)
 o:kitOne K (.type "NoneType") (.ref c)=some false
end
end LE
namespace L2
open PySem PySem.Spec PyProof.Rows PySem.Calls LE
section
variable{X:Cx}
end
end L2
namespace LE
open PySem L2 LR
noncomputable def IsiL(K:Frag)(R:List Str):List Str->List Addr->Prop
 | [],[]=>True
 | m::ms,c::cs=>IsiN K R m c/\IsiL K R ms cs
 | _,_=>False
theorem IsiL.exc{K:Frag}{R:List Str}{n:Str}{c':Addr}(hn:n∈R)(hc:nsIn K mainGlobals n=some (some (.ref c'))):∀{ms:List Str} {cs:List Addr},IsiL K R ms cs->kitAny K (.ref c') (cs.map Value.ref)=some (ms.any (exB n))
 | [],[],_=>rfl
 | m::ms,c::cs,⟨h,t⟩=>by show(match kitOne K (.ref c') (.ref c) with|some true=>some true|some false=>kitAny K (.ref c') (cs.map Value.ref)|none=>none)=_;rw[h.k n hn c' hc,t.exc hn hc,GG];cases exB n m <;> rfl
theorem IsiL.non{K:Frag}{R:List Str}:∀{ms:List Str} {cs:List Addr},IsiL K R ms cs->kitAny K (.type "NoneType") (cs.map Value.ref)=some false
 | [],[],_=>rfl
 | m::ms,c::cs,⟨h,t⟩=>by show(match kitOne K (.type "NoneType") (.ref c) with | some true=>some true | some false=>kitAny K (.type "NoneType") (cs.map Value.ref) | none=>none)=_;rw[h.o,t.non]
section
variable{K:Frag}{C:Addr}{te:TE}{ea:Ev}
end
end LE

namespace L2
open PySem PySem.Spec PyProof.Rows PySem.Calls LE
section
variable{X:Cx}{K:Frag}
end
end L2
namespace LE
open PySem L2 LR
section
variable{K:Frag}{C:Addr}{ts:TS}
structure AtX (K:Frag) (n:Str) (c:Addr):Prop where
 ns:nsIn K mainGlobals n=some (some (.ref c))
 ok:PySem.W.excIn K c VEm "ValueError.__new__"=true
 ga:findIn K (.ref c) "__getattribute__"=some (some (.builtin "BaseException.__getattribute__"))
 gn:findIn K (.ref c) "__getattr__"=some none
 mb:mroIn K c (.type "BaseException")=some true
 hd:hasDictIn K c=true
 fi:findIn K (.ref c) "__class__"=some (some (.builtin "object.__class__"))
 mr:mroIn K c (.type "object")=some true
theorem AtX.n{n:Str}{c:Addr}(h:AtX K n c):ExcN K n:=⟨⟨c,h.ns,h.ok⟩,fun c' e=>by have:=h.ns.symm.trans e;cases this;exact⟨h.ga,h.gn,h.mb,h.hd,h.fi,h.mr⟩⟩
end
section
variable(K:Frag)(C:Addr)
end
section
variable{K:Frag}{C:Addr}{W:XK}{ta te:TE}{t tr:TA}{ea:Ev}{xa xr ex:Xv}{wi:TI}
end
end LE

namespace LE
open PySem L2 LR
section
variable{K:Frag}{C:Addr}{W:XK}{t:TS}{et:Es}{xt:Xv}
end
end LE
namespace L2
open PySem PySem.Spec PyProof.Rows PySem.Calls LE
structure RoomH (k:Nat) (A:Around):Prop where
 dp:A.depth+3*k+5<recursionLimit
 un:A.units+16*k+200<cLine
theorem Room.h{k:Nat}{A:Around}(r:Room k A):RoomH k A:=⟨r.dp,r.un⟩
section
variable{X:Cx}{k:Nat}{ps:List Str}{sp:Sp}{x:Str}{p pos:Pos}{e:Expr}{es:List Expr}{t:TA}
end
end L2

namespace L2
open PySem PySem.Spec PyProof.Rows PySem.Calls LE
section
variable{X:Cx}{k:Nat}{C:Addr}{ps:List Str}{sp:Sp}{x:Str}{p pos:Pos}{e:Expr}{es:List Expr}{t:TA}
end
end L2
namespace LE
open PySem L2 LR
section
variable(K:Frag)(C:Addr)
end
section
variable{K:Frag}{C:Addr}{W:XK}{t:TA}{ev:En->Option (List Sl)}{H0 H H2:Hp}
end
end LE

namespace L2
open PySem PySem.Spec PyProof.Rows PySem.Calls
section
variable{X:Cx}
end
end L2
namespace LE
open PySem L2 LR
noncomputable def lst?:Sl->Option (List D)
 | .bo ds=>some ds
 | .own ds=>some ds
 | .sh (.lst ds)=>some ds
 | _=>none
section
variable{K:Frag}{C:Addr}{to te:TE}{eo ea:Ev}{Hs H0 H:Hp}{v:V}
theorem RR.lst{s:Sl}{ds:List D}(i:Same H0 H)(r:RR K C Hs H0 H v s)(e:lst? s=some ds):∃l xs,v=.ref l/\H l=some (.lst xs)/\RDL K C H0 xs ds:=by
 cases s with
 | bo es=>cases e;exact r
 | own es=>cases e;obtain⟨l,xs,e,h,_,_,q⟩:=r;exact⟨l,xs,e,h,q⟩
 | sh d =>
  cases d with
  | lst es=>cases e;obtain⟨l,xs,e,h,q⟩:=RD.lstI r;exact⟨l,xs,e,i _ _ h,q⟩
  | _=>cases e
 | _=>cases e
end
end LE

namespace LE
open PySem L2 LR
noncomputable def JeD(i:Nat):Es:=fun E=>match E[i]? with
 | some (.own ds)=>some (.nx (E.set i (.own ds.reverse)))
 | _=>none
section
variable{K:Frag}{C:Addr}
theorem RDL.rev{H:Hp}{xs:List V}{ds:List D}(r:RDL K C H xs ds):RDL K C H xs.reverse ds.reverse:=by
 have key:∀{xs:List V} {ds:List D},RDL K C H xs ds->RDL K C H xs.reverse ds.reverse:=by
  intro xs
  induction xs with
  | nil =>
   intro ds r
   cases ds with
   | nil=>exact .nil
   | cons d ds=>have:=r.1;simp at this
  | cons x xs ih =>
   intro ds r
   cases ds with
   | nil=>have:=r.1;simp at this
   | cons d ds=>rw[Lc,Lc];exact(ih r.tail).snoc r.head
 exact key r
theorem Jpu{i:Nat}:SS K C (ZB (JmL K "list" Jd8 (Zp i))) (JeD i):=by
 intro B H0 H σ E o D I e f;unfold JeD at e;split at e
 ·next ds h=>cases e;obtain⟨l,xs,g1,g2,g3,g4,g5⟩:=I.slot h;have m:=I.mut (xs:=xs) h g1 (RDL.rev g5);exact⟨_,g1,.inl ⟨rfl,_,.of g2⟩,l,xs,rfl,rfl,g2,f _ _ _ ⟨m.b,Same.refl _,fun _ _ e=>.inl e,m.h⟩ m⟩
 ·cases e
end
end LE

namespace PySem
abbrev Wp(h:Heap)(z TI TO a:Addr)(f:Bool):Prop :=
 h.get? z=some { cls:=.type "zip",dict:=none,data:=.fields #[rawInt a,.bool f,.bool false,.ref TI,.ref TO],slots:=#[] }
section
variable{prog:Program}{w:World}{A:Around}{E:Value->Shared->Prop}{s:Shared}{z TI TO i1 i2 a:Addr}{f:Bool}{oa:Obj}{p1 p2:List Addr}{n1 n2 k:Nat}{P1 P2:Nat->Value->Prop}{S1 S2:Nat->Heap->Prop}
theorem JeF{Q:Bool->Shared->Prop}(gz:Wp s.heap z TI TO a f)(ha:s.heap.get? a=some oa)(h:∀h',Wp h' z TI TO a true->QB z s.heap h'->Q false { s with heap:=h' }):wpAny (model prog w) A (QK (.ref z)) Q E s:=by
 unfold QK;refine Qa (QR gz rfl (x:=rawInt a) rfl ?_);show wpAny _ _ (loadIfAlive (Int.toNat (a:Int)) >>= _) _ _ _;rw[GW];refine Qa (PySem.W.kdx_alive ha ?_);show wpAny _ _ (field (.ref z) 1 >>= _) _ _ _;refine Qa (QR gz rfl (x:=.bool f) rfl ?_)
 cases f with
 | true=>exact Qf (h _ gz (RL _ _))
 | false=>exact Qa (Gc gz (by simp) fun h' y e=>Qf (h h' y e))
theorem Jik{Q:Value->Shared->Prop}(D:ZA z TI TO i1 i2 p1 p2)(D1:Draws prog w A i1 p1 n1 P1 S1)(D2:Draws prog w A i2 p2 n2 P2 S2)(gz:Wp s.heap z TI TO a f)(ha:s.heap.get? a=some oa)(gI:IsPair s.heap TI (.ref i1) (.ref i2))
 (st1:S1 k s.heap) (st2:S2 k s.heap) (l1:k<n1) (l2:k<n2)
 (hQ:∀x y h' tk,P1 k x->P2 k y->Wp h' z TI TO a true->S1 (k+1) h'->S2 (k+1) h'->IsPair h' s.heap.objs.size x y->h'.objs.size=s.heap.objs.size+1 ->
  (∀c o,c≠z->c≠i1->c≠i2->s.heap.get? c=some o->h'.get? c=some o)->Q (.ref s.heap.objs.size) { s with heap:=h',toks:=tk }) :
 wpAny (model prog w) A (Builtin.«zip.__next__» ⟨[.ref z],[]⟩) (fun fin s'=>∃v,fin=.done (.ret v)/\Q v s') E s:=by
 obtain⟨hp,g,d,t0,os⟩:=s;have zi1:i1≠z:=fun q=>D.z1 (q▸D.m1)
 have zi2:i2≠z:=fun q=>D.z2 (q▸D.m2)
 show wpAny _ _ (field (.ref z) 2 >>= _) _ _ _;refine Qa (QR gz rfl (x:=.bool false) rfl (show wpAny _ _ (field (.ref z) 3 >>= _) _ _ _ from Qa (QR gz rfl (x:=.ref TI) rfl (Qa (Gf gI rfl ?_)))))
 show wpAny _ _ (QK (.ref z) >>= _) _ _ _;refine Qa (JeF gz ha fun k1 y1 e1=>?_)
 replace e1:QB z hp k1:=e1;simp only[Kf,if_false];refine Qa ?_;simp only[<- Array.forIn_toList,L8,Mo];refine Qa (Qa (Gs (show wpAny _ _ (Q7 (.ref i1) >>= _) _ _ _ from Qa (D1.item k _ _ _ l1 (D1.frame _ _ _ st1 fun b hb o q=>e1.extBut b o (fun r=>D.z1 (r▸hb)) q) fun x k2 t2 px s2 e2=>Qf ?_))))
 replace e2:QB i1 k1 k2:=e2;refine Qf ?_;have st2':S2 k k2:=D2.frame _ _ _ st2 fun b hb o q=>e2.extBut b o (fun r=>D.x1 (r▸hb)) (e1.extBut b o (fun r=>D.z2 (r▸hb)) q)
 refine Qa (Qa (Gs (show wpAny _ _ (Q7 (.ref i2) >>= _) _ _ _ from Qa (D2.item k _ _ _ l2 st2' fun y k4 t4 py s4 e4=>Qf ?_))))
 replace e4:QB i2 k2 k4:=e4;refine Qf (Qf (Qa (Mp (hsz:=show 2<=sizeLine by decide) (Qf ⟨_,rfl,?_⟩))));have hsz:k4.objs.size=hp.objs.size:=by rw[e4.1,e2.1,e1.1]
 have Z4:Wp k4 z TI TO a true:=e4.extBut _ _ (QN zi2) (e2.extBut _ _ (QN zi1) y1)
 show Q (.ref k4.objs.size) _;rw[hsz];refine hQ x y _ t4 px py (Qg _ Z4) ?_ ?_ ?_ (by rw[Ge,hsz]) fun c o c1 c2 c3 q=>Qg _ (e4.extBut _ _ c3 (e2.extBut _ _ c2 (e1.extBut _ _ c1 q)))
 ·exact D1.frame _ _ _ s2 fun b hb o q=>Qg _ (e4.extBut b o (fun r=>D.x2 (r▸hb)) q)
 ·exact D2.frame _ _ _ s4 fun b hb o q=>Qg _ q
 ·show(k4.push _).get? hp.objs.size=_;rw[<- hsz];exact Qi _ rfl
theorem JkO{Q:Fin->Shared->Prop}(D:ZA z TI TO i1 i2 p1 p2)(D1:Draws prog w A i1 p1 n1 P1 S1)(D2:Draws prog w A i2 p2 n2 P2 S2)(gz:Wp s.heap z TI TO a f)(ha:s.heap.get? a=some oa)(gI:IsPair s.heap TI (.ref i1) (.ref i2))
 (st1:S1 k s.heap) (st2:S2 k s.heap) (hend:k=n1\/(k<n1/\k=n2))
 (hE:∀h' e tk,(∀c o,c≠z->c≠i1->c≠i2->s.heap.get? c=some o->h'.get? c=some o)->(∃o,h'.get? e=some o/\o.cls=.type "StopIteration")->E (.ref e) { s with heap:=h',toks:=tk }) :
 wpAny (model prog w) A (Builtin.«zip.__next__» ⟨[.ref z],[]⟩) Q E s:=by
 obtain⟨hp,g,d,t0,os⟩:=s;show wpAny _ _ (field (.ref z) 2 >>= _) _ _ _;refine Qa (QR gz rfl (x:=.bool false) rfl (show wpAny _ _ (field (.ref z) 3 >>= _) _ _ _ from Qa (QR gz rfl (x:=.ref TI) rfl (Qa (Gf gI rfl ?_)))));show wpAny _ _ (QK (.ref z) >>= _) _ _ _;refine Qa (JeF gz ha fun k1 y1 e1=>?_)
 replace e1:QB z hp k1:=e1;simp only[Kf,if_false];refine Qa ?_;simp only[<- Array.forIn_toList,L8,Mo];have q1:S1 k k1:=D1.frame _ _ _ st1 fun b hb o q=>e1.extBut b o (fun r=>D.z1 (r▸hb)) q
 rcases hend with rfl|⟨l1,rfl⟩
 ·refine Qa (Qa (Gs (show wpAny _ _ (Q7 (.ref i1) >>= _) _ _ _ from Qa (D1.done _ _ _ q1 fun k2 e e2 he=>?_))))
  replace e2:KD i1 k1 k2:=e2;exact hE k2 e t0 (fun c o c1 c2 _ q=>e2 _ _ c2 (e1.extBut _ _ c1 q)) he
 ·refine Qa (Qa (Gs (show wpAny _ _ (Q7 (.ref i1) >>= _) _ _ _ from Qa (D1.item k _ _ _ l1 q1 fun x k2 t2 px s2 e2=>Qf ?_))))
  replace e2:QB i1 k1 k2:=e2;refine Qf ?_;have st2':S2 k k2:=D2.frame _ _ _ st2 fun b hb o q=>e2.extBut b o (fun r=>D.x1 (r▸hb)) (e1.extBut b o (fun r=>D.z2 (r▸hb)) q)
  refine Qa (Qa (Gs (show wpAny _ _ (Q7 (.ref i2) >>= _) _ _ _ from Qa (D2.done _ _ _ st2' fun k4 e e4 he=>?_))))
  replace e4:KD i2 k2 k4:=e4;exact hE k4 e t2 (fun c o c1 c2 c3 q=>e4 _ _ c3 (e2.extBut _ _ c2 (e1.extBut _ _ c1 q))) he
end
end PySem

namespace PySem
section
variable{prog:Program}{w:World}{A:Around}{E:Value->Shared->Prop}{s:Shared}{b1 b2:Bool}{a1 a2 z TI TO i1 i2 S:Addr}{xs ys:Array Value}{i:Nat}
def LzSt(b1 b2:Bool)(a1 a2 z TI TO i1 i2 S:Addr)(xs ys:Array Value)(i:Nat)(h:Heap):Prop :=
 IsPair h TI (.ref i1) (.ref i2)/\(IsItr b1 h i1 a1 i/\IsSq b1 h a1 xs)/\(IsItr b2 h i2 a2 i/\IsSq b2 h a2 ys) ∧
 ((IsZip h z TI TO .none/\∃u v,IsPair h TO u v)\/∃a f oa,Wp h z TI TO a f/\h.get? a=some oa/\a≠S/\a≠z/\a≠i1/\a≠i2)
theorem IsSq.keep{b:Bool}{h h':Heap}{a:Addr}{xs:Array Value}(q:IsSq b h a xs)(k:∀o,h.get? a=some o->h'.get? a=some o):IsSq b h' a xs:=by
 cases b with
 | true=>obtain⟨o,e,r⟩:=q;exact⟨o,k o e,r⟩
 | false=>obtain⟨o,e,r⟩:=q;exact⟨o,k o e,r⟩
theorem IsItr.keep'{b:Bool}{h h':Heap}{j a:Addr}{i:Nat}(q:IsItr b h j a i)(k:∀o,h.get? j=some o->h'.get? j=some o):IsItr b h' j a i:=by
 cases b with
 | true=>obtain⟨o,e,r⟩:=q;exact⟨o,k o e,r⟩
 | false=>obtain⟨o,e,r⟩:=q;exact⟨o,k o e,r⟩
theorem LzSt.keep{h h':Heap}(x:LzSt b1 b2 a1 a2 z TI TO i1 i2 S xs ys i h)(k:∀b o,b≠S->h.get? b=some o->h'.get? b=some o)(n:S∉[z,TI,TO,i1,i2,a1,a2]):LzSt b1 b2 a1 a2 z TI TO i1 i2 S xs ys i h':=by
 simp only[Qh,Q0,or_false,not_or] at n;obtain⟨n1,n2,n3,n4,n5,n6,n7⟩:=n;obtain⟨x1,x2,x3,x4⟩:=x;refine⟨k _ _ (QN n2) x1,⟨IsItr.keep' x2.1 fun o e=>k _ o (QN n4) e,IsSq.keep x2.2 fun o e=>k _ o (QN n6) e⟩,⟨IsItr.keep' x3.1 fun o e=>k _ o (QN n5) e,IsSq.keep x3.2 fun o e=>k _ o (QN n7) e⟩,?_⟩;rcases x4 with ⟨y1,u,v,y2⟩|⟨a,f,oa,y1,y2,y3⟩
 ·exact .inl ⟨k _ _ (QN n1) y1,u,v,k _ _ (QN n3) y2⟩
 ·exact .inr ⟨a,f,oa,k _ _ (QN n1) y1,k _ _ y3.1 y2,y3⟩
theorem JlI{Q:Option Value->Shared->Prop}(hh:A.handled=none)(Z:ZA z TI TO i1 i2 [i1,a1] [i2,a2])(st:LzSt b1 b2 a1 a2 z TI TO i1 i2 S xs ys i s.heap)(hS:S<s.heap.objs.size)(l1:i<xs.size)(l2:i<ys.size)
 (hQ:∀u v h' tk,xs[i]?=some u->ys[i]?=some v->LzSt b1 b2 a1 a2 z TI TO i1 i2 S xs ys (i+1) h'->IsPair h' s.heap.objs.size u v->h'.objs.size=s.heap.objs.size+1 ->
  (∀c o,c≠z->c≠TO->c≠i1->c≠i2->s.heap.get? c=some o->h'.get? c=some o)->Q (some (.ref s.heap.objs.size)) { s with heap:=h',toks:=tk }) :
 wpAny (model prog w) A (pyNext (.ref z)) Q E s:=by
 obtain⟨x1,x2,x3,x4⟩:=st
 have ne1:a1≠i1:=fun q=>by
  have:=Z.x1;subst q;rcases x2 with ⟨e1,e2⟩
  cases b1 with
  | true=>obtain⟨o,h1,h2,_⟩:=e1;obtain⟨o',h3,h4,_⟩:=e2;rw[h1] at h3;cases h3;rw[h2] at h4;exact absurd h4 (by decide)
  | false=>obtain⟨o,h1,h2,_⟩:=e1;obtain⟨o',h3,h4,_⟩:=e2;rw[h1] at h3;cases h3;rw[h2] at h4;exact absurd h4 (by decide)
 have ne2:a2≠i2:=fun q=>by
  subst q;rcases x3 with ⟨e1,e2⟩
  cases b2 with
  | true=>obtain⟨o,h1,h2,_⟩:=e1;obtain⟨o',h3,h4,_⟩:=e2;rw[h1] at h3;cases h3;rw[h2] at h4;exact absurd h4 (by decide)
  | false=>obtain⟨o,h1,h2,_⟩:=e1;obtain⟨o',h3,h4,_⟩:=e2;rw[h1] at h3;cases h3;rw[h2] at h4;exact absurd h4 (by decide)
 have hh1:A.in1.handled=none:=hh
 have D1:=Draws.sq (prog:=prog) (w:=w) (b:=b1) (xs:=xs) hh1 i1 ne1
 have D2:=Draws.sq (prog:=prog) (w:=w) (b:=b2) (xs:=ys) hh1 i2 ne2
 have Tt:∀o,s.heap.get? z=some o->o.cls=.type "zip"->s.TypeIs (.ref z) "zip":=fun o e c=>⟨o,e,c⟩
 have i1lt:i1<s.heap.objs.size:=by
  cases b1 with
  | true=>obtain⟨o,h1,_⟩:=x2.1;exact Qj h1
  | false=>obtain⟨o,h1,_⟩:=x2.1;exact Qj h1
 have i2lt:i2<s.heap.objs.size:=by
  cases b2 with
  | true=>obtain⟨o,h1,_⟩:=x3.1;exact Qj h1
  | false=>obtain⟨o,h1,_⟩:=x3.1;exact Qj h1
 rcases x4 with ⟨y1,u0,v0,y2⟩|⟨a,f,oa,y1,y2,y3,y4,y5,y6⟩
 ·have hT:=Tt _ y1 rfl;unfold pyNext;refine Qa (GP (QJ (name:=Q1 "__next__") hT GD (QV GD hT KN (JbN Z D1 D2 y1 x1 y2 x2 x3 l1 l2 fun u v k tk pu pv t1 t2 t3 t4 t5 t6 t7 t8=>Qf ?_) (KE _))));exact hQ u v k tk pu pv ⟨t2,t4,t5,.inr ⟨_,false,_,t1,t6,Ga hS,Ga (Qj y1),Ga i1lt,Ga i2lt⟩⟩ t6 t7 t8
 ·have hT:=Tt _ y1 rfl;unfold pyNext;refine Qa (GP (QJ (name:=Q1 "__next__") hT GD (QV GD hT KN (Jik Z D1 D2 y1 y2 x1 x2 x3 l1 l2 fun u v k tk pu pv t1 t4 t5 t6 t7 t8=>Qf ?_) (KE _))))
  have ti1:TI≠i1:=fun q=>Z.t1 (by rw[q];simp)
  have ti2:TI≠i2:=fun q=>Z.t2 (by rw[q];simp)
  exact hQ u v k tk pu pv ⟨t8 _ _ Z.a1 ti1 ti2 x1,t4,t5,.inr ⟨a,true,oa,t1,t8 _ _ y4 y5 y6 y2,y3,y4,y5,y6⟩⟩ t6 t7 fun c o c1 _ c3 c4 q=>t8 c o c1 c3 c4 q
theorem JlF{Q:Option Value->Shared->Prop}(hh:A.handled=none)(Z:ZA z TI TO i1 i2 [i1,a1] [i2,a2])(st:LzSt b1 b2 a1 a2 z TI TO i1 i2 S xs ys i s.heap)(hend:i=xs.size\/(i<xs.size/\i=ys.size))
 (hQ:∀h' tk,(∀c o,c≠z->c≠TO->c≠i1->c≠i2->s.heap.get? c=some o->h'.get? c=some o)->Q none { s with heap:=h',toks:=tk }) :
 wpAny (model prog w) A (pyNext (.ref z)) Q E s:=by
 obtain⟨x1,x2,x3,x4⟩:=st
 have ne1:a1≠i1:=fun q=>by
  subst q;rcases x2 with ⟨e1,e2⟩
  cases b1 with
  | true=>obtain⟨o,h1,h2,_⟩:=e1;obtain⟨o',h3,h4,_⟩:=e2;rw[h1] at h3;cases h3;rw[h2] at h4;exact absurd h4 (by decide)
  | false=>obtain⟨o,h1,h2,_⟩:=e1;obtain⟨o',h3,h4,_⟩:=e2;rw[h1] at h3;cases h3;rw[h2] at h4;exact absurd h4 (by decide)
 have ne2:a2≠i2:=fun q=>by
  subst q;rcases x3 with ⟨e1,e2⟩
  cases b2 with
  | true=>obtain⟨o,h1,h2,_⟩:=e1;obtain⟨o',h3,h4,_⟩:=e2;rw[h1] at h3;cases h3;rw[h2] at h4;exact absurd h4 (by decide)
  | false=>obtain⟨o,h1,h2,_⟩:=e1;obtain⟨o',h3,h4,_⟩:=e2;rw[h1] at h3;cases h3;rw[h2] at h4;exact absurd h4 (by decide)
 have hh1:A.in1.handled=none:=hh
 have D1:=Draws.sq (prog:=prog) (w:=w) (b:=b1) (xs:=xs) hh1 i1 ne1
 have D2:=Draws.sq (prog:=prog) (w:=w) (b:=b2) (xs:=ys) hh1 i2 ne2;rcases x4 with ⟨y1,u0,v0,y2⟩|⟨a,f,oa,y1,y2,y3,y4,y5,y6⟩
 ·have hT:s.TypeIs (.ref z) "zip":=⟨_,y1,rfl⟩
  unfold pyNext;refine Qa (GP (QJ (name:=Q1 "__next__") hT GD (QV GD hT KN (JeE Z D1 D2 y1 x1 y2 x2 x3 hend fun k e tk kk he=>?_) (KE _))));obtain⟨o,ho,hoc⟩:=he;exact Qa (Ke (T:="StopIteration") (b:=true) ⟨o,ho,hoc⟩ Lh (Qf (hQ k tk kk)))
 ·have hT:s.TypeIs (.ref z) "zip":=⟨_,y1,rfl⟩
  unfold pyNext;refine Qa (GP (QJ (name:=Q1 "__next__") hT GD (QV GD hT KN (JkO Z D1 D2 y1 y2 x1 x2 x3 hend fun k e tk kk he=>?_) (KE _))));obtain⟨o,ho,hoc⟩:=he;exact Qa (Ke (T:="StopIteration") (b:=true) ⟨o,ho,hoc⟩ Lh (Qf (hQ k tk fun c o c1 _ c3 c4 q=>kk c o c1 c3 c4 q)))
end
structure LzG (xs ys:Array Value) (lo:Addr) (h:Heap) (as:List Addr):Prop where
 rise:as.Pairwise (·<·)
 above:∀a∈as,lo<a
 pairs:∀(j:Nat) (a:Addr),as[j]?=some a->∃u v,xs[j]?=some u/\ys[j]?=some v/\IsPair h a u v
theorem LzG.there{xs ys:Array Value}{lo:Addr}{h:Heap}{as:List Addr}(g:LzG xs ys lo h as){a:Addr}(ha:a∈as):a<h.objs.size:=by obtain⟨j,hj⟩:=GK.mp ha;obtain⟨_,_,_,_,e⟩:=g.pairs j a hj;exact Qj e
section
variable{prog:Program}{w:World}{A:Around}{s:Shared}{R:Result->Shared->Prop}{b1 b2:Bool}{a1 a2 z TI TO i1 i2 S:Addr}{xs ys:Array Value}
theorem JlK(hh:A.handled=none)(Z:ZA z TI TO i1 i2 [i1,a1] [i2,a2])(nS:S∉[z,TI,TO,i1,i2,a1,a2])(hlo:∀b∈[z,TI,TO,i1,i2],b<S)(n:Nat)(hn:n=min xs.size ys.size)(hz:n<=sizeLine)(res:Value){h₁:Heap}
 (hR:∀h' tk acc c as,(∀b o,b≠S->b≠z->b≠TO->b≠i1->b≠i2->h₁.get? b=some o->h'.get? b=some o)->h'.get? S=some { cls:=.type "list",dict:=none,data:=.seq acc c,slots:=#[] }->as.length=n->LzG xs ys S h' as ->
  acc.toList=as.map Value.ref->R (.ok (.ret res)) { s with heap:=h',toks:=tk }) :
 ∀(k i:Nat) (h:Heap) (tk c:Nat) (acc:Array Value) (as:List Addr),n-i=k->i<=n->LzSt b1 b2 a1 a2 z TI TO i1 i2 S xs ys i h->(∀b o,b≠S->b≠z->b≠TO->b≠i1->b≠i2->h₁.get? b=some o->h.get? b=some o) ->
  h.get? S=some { cls:=.type "list",dict:=none,data:=.seq acc c,slots:=#[] }->acc.toList=as.map Value.ref->as.length=i->LzG xs ys S h as ->
  codeAny (model prog w) A (.builtin "list.extend.loop" ⟨[.ref S,.ref z,res],[]⟩) R { s with heap:=h,toks:=tk }:=by
 have Sz:S≠z:=Ga (hlo z (by simp))
 have ST:S≠TO:=Ga (hlo TO (by simp))
 have S1:S≠i1:=Ga (hlo i1 (by simp))
 have S2:S≠i2:=Ga (hlo i2 (by simp))
 have off:∀{b:Addr},S<b->b≠z/\b≠TO/\b≠i1/\b≠i2:=fun {b} h=>⟨Ga (GL (hlo z (by simp)) h),Ga (GL (hlo TO (by simp)) h),Ga (GL (hlo i1 (by simp)) h),Ga (GL (hlo i2 (by simp)) h)⟩
 intro k
 induction k with
 | zero =>
  intro i h tk c acc as hk hi hst hkeep hS hacc hal hG;have hin:i=n:=by omega
  refine GE Mt ?_;rw[Gi GA _];show wpAny _ A.in1 (pyNext (.ref z) >>= _) _ _ _;refine Qa (JlF (s:={ s with heap:=h,toks:=tk }) (A:=A.in1) hh Z hst (by omega) fun h' tk' he=>?_);refine Qf (hR h' tk' acc c as (fun b o h1 h2 h3 h4 h5 e=>he b o h2 h3 h4 h5 (hkeep b o h1 h2 h3 h4 h5 e)) (he S _ Sz ST S1 S2 hS) (by omega) ⟨hG.rise,hG.above,fun j a hj=>?_⟩ hacc);obtain⟨u,v,e1,e2,e3⟩:=hG.pairs j a hj
  obtain⟨o1,o2,o3,o4⟩:=off (hG.above a (QC hj));exact⟨u,v,e1,e2,he a _ o1 o2 o3 o4 e3⟩
 | succ k ih =>
  intro i h tk c acc as hk hi hst hkeep hS hacc hal hG;have hlt:i<n:=by omega
  have hsz:acc.size=i:=by rw[<- QE,hacc,Qm,hal]
  have hSl:S<h.objs.size:=Qj hS;refine GE Mt ?_;rw[Gi GA _]
  show wpAny _ A.in1 (pyNext (.ref z) >>= _) _ _ _;refine Qa (JlI (s:={ s with heap:=h,toks:=tk }) (A:=A.in1) hh Z hst hSl (by omega) (by omega) fun u v h' tk' pu pv hst' ht hz' hkp=>?_);dsimp only at ht hz' hkp ⊢
  have hS':=hkp S _ Sz ST S1 S2 hS
  have up:∀b o,b≠S->h'.get? b=some o->(h'.update S (Lg (·.push (Value.ref h.objs.size)))).get? b=some o:=fun b o hb e=>(QF _ _ (QN hb)).trans e
  show wpAny _ A.in1 (updateSeq S (·.push (Value.ref h.objs.size)) >>= _) _ _ _;refine Qa ?_;refine GF hS' rfl (Qf ⟨Gv GA _,ih (i+1) _ tk' _ (acc.push (Value.ref h.objs.size)) (as++[h.objs.size]) (by omega) hlt (hst'.keep up nS)
   (fun b o h1 h2 h3 h4 h5 e=>up b o h1 (hkp b o h2 h3 h4 h5 (hkeep b o h1 h2 h3 h4 h5 e))) (QU _ hS' rfl) (by rw[My,hacc,QL];rfl) (by rw[Qu,hal];rfl) ⟨?_,?_,?_⟩⟩) (by rw[hsz];omega) (by show(acc.push (Value.ref h.objs.size)).size<=sizeLine+1;rw[Array.size_push,hsz];omega)
  ·refine G2.mpr ⟨hG.rise,MT _ _,fun a ha b hb=>?_⟩;rw[GC.mp hb];exact hG.there ha
  ·intro a ha;rcases Gk.mp ha with ha|ha
   ·exact hG.above a ha
   ·rw[GC.mp ha];exact hSl
  ·intro j b hj;rcases Mz j as.length with h1|h1|h1
   ·rw[QG h1] at hj;obtain⟨u',v',e1,e2,e3⟩:=hG.pairs j b hj;have hb:=hG.above b (QC hj);obtain⟨o1,o2,o3,o4⟩:=off hb;exact⟨u',v',e1,e2,up b _ (Ga hb) (hkp b _ o1 o2 o3 o4 e3)⟩
   ·subst h1;have hb:h.objs.size=b:=by simpa using hj
    subst hb;exact⟨u,v,by rw[hal];exact pu,by rw[hal];exact pv,up _ _ (Ga hSl) ht⟩
   ·have hnone:(as++[h.objs.size])[j]?=none:=LU (by rw[Qu,Go];omega);rw[hnone] at hj;cases hj
end
end PySem

namespace PySem
open PySem.Calls PyProof.Rows PyProof.V PySem.Spec
theorem Jog:typeLookup (.type "zip") "__len__"=pure none:=by rw[typeLookup_type,builtinLookup_eq_fast];kernel_rfl
theorem JlJ:typeLookup (.type "zip") "__length_hint__"=pure none:=by rw[typeLookup_type,builtinLookup_eq_fast];kernel_rfl
section
variable{prog:Program}{w:World}{A:Around}{E:Value->Shared->Prop}{s:Shared}{b1 b2:Bool}{a1 a2 z TI TO i1 i2:Addr}{xs ys:Array Value}
theorem JlG(hT:s.TypeIs (.ref z) "zip"){Q:Bool->Shared->Prop}(h:Q true s):wpAny (model prog w) A (Kp (.ref z)) Q E s:=by unfold Kp;refine Qa (KB hT Jog ?_);refine La (fun hab=>absurd hab (by decide)) (fun _=>?_);refine La (fun hab=>absurd hab (by decide)) (fun _=>?_);refine Qa (KB hT JlJ ?_);exact Qf h
theorem JhP{R:Result->Shared->Prop}(hh:A.handled=none)(S:Addr)(Z:ZA z TI TO i1 i2 [i1,a1] [i2,a2])(nS:S∉[z,TI,TO,i1,i2,a1,a2])(hlo:∀b∈[z,TI,TO,i1,i2],b<S)(n:Nat)(hn:n=min xs.size ys.size)(hz:n<=sizeLine)
 (hzip:IsZip s.heap z TI TO .none) (st:LzSt b1 b2 a1 a2 z TI TO i1 i2 S xs ys 0 s.heap) (res:Value) (c₀:Nat) (hS:s.heap.get? S=some { cls:=.type "list",data:=.seq #[] c₀ })
 (hR:∀h' tk acc c as,(∀b o,b≠S->b≠z->b≠TO->b≠i1->b≠i2->s.heap.get? b=some o->h'.get? b=some o)->h'.get? S=some { cls:=.type "list",dict:=none,data:=.seq acc c,slots:=#[] }->as.length=n->LzG xs ys S h' as ->
  acc.toList=as.map Value.ref->R (.ok (.ret res)) { s with heap:=h',toks:=tk }) :
 wpAny (model prog w) A.in1 (GO (.ref S) (.ref z) res)
  (fun fin s'=>match fin with|.done f=>R (.ok f) s'|.again c'=>c'.quiet=true/\codeAny (model prog w) A c' R s') (fun e s'=>R (.error e) s') s:=by
 have key:∀(h:Heap) (c₁ tk:Nat),(∀b o,b≠S->s.heap.get? b=some o->h.get? b=some o) ->
  h.get? S=some { cls:=.type "list",data:=.seq #[] c₁ }->codeAny (model prog w) A (.builtin "list.extend.loop" ⟨[.ref S,.ref z,res],[]⟩) R { s with heap:=h,toks:=tk }:=by
  intro h c₁ tk hk hS₁;exact JlK (s:=s) (h₁:=s.heap) hh Z nS hlo n hn hz res hR n 0 h tk c₁ #[] [] (Nat.sub_zero _) (GJ _) (st.keep hk nS) (fun b o hb _ _ _ _ e=>hk b o hb e) hS₁ rfl rfl
   ⟨List.Pairwise.nil,(fun _ ha=>nomatch ha),(fun j a hj=>by simp at hj)⟩
 have hT:s.TypeIs (.ref z) "zip":=⟨_,hzip,rfl⟩
 have hSz:S≠z:=Ga (hlo z (by simp));unfold GO;refine Qa (LM (T:="zip") hT ?_)
 have h1:KI (.ref S) (.ref z)=false:=by simp[KI,hSz]
 have h2:(Value.type "zip" == Value.type "list")=false:=by decide
 have h3:(Value.type "zip" == Value.type "tuple")=false:=by decide
 simp only[h1,h2,h3,LZ,Kf,if_false];refine Qa (MP hzip ?_);refine Qa (Gs (JlG hT ?_));refine La (fun _=>?_) (fun _=>Qf ⟨Gv GA _,key _ c₀ _ (fun b o _ e=>e) hS⟩);refine Qa (Kc ?_);refine Qa ?_;show wpAny _ _ (updateSeq S (·.push .none) >>= fun _=>updateSeq S (·.pop)) _ _ _;refine Qa (GF hS rfl ?_);have hS₂:=QU (Lg (·.push Value.none)) hS rfl
 refine GF (hz:=by seq_fits) hS₂ rfl ?_;have hS₃:=QU (Lg (·.pop)) hS₂ rfl;refine Qf ⟨Gv GA _,key _ _ _ (fun b o hb e=>?_) hS₃⟩;exact(QF _ _ (QN hb)).trans ((QF _ _ (QN hb)).trans e)
theorem JlH{R:Result->Shared->Prop}(hh:A.handled=none)(S:Addr)(Z:ZA z TI TO i1 i2 [i1,a1] [i2,a2])(nS:S∉[z,TI,TO,i1,i2,a1,a2])(hlo:∀b∈[z,TI,TO,i1,i2],b<S)(n:Nat)(hn:n=min xs.size ys.size)(hz:n<=sizeLine)
 (hzip:IsZip s.heap z TI TO .none) (st:LzSt b1 b2 a1 a2 z TI TO i1 i2 S xs ys 0 s.heap) (hS:s.heap.get? S=some { cls:=.type "list",data:=.seq #[] })
 (hR:∀h' tk acc c as,(∀b o,b≠S->b≠z->b≠TO->b≠i1->b≠i2->s.heap.get? b=some o->h'.get? b=some o)->h'.get? S=some { cls:=.type "list",dict:=none,data:=.seq acc c,slots:=#[] }->as.length=n->LzG xs ys S h' as ->
  acc.toList=as.map Value.ref->R (.ok (.ret .none)) { s with heap:=h',toks:=tk }) :
 wpAny (model prog w) A.in1 (Builtin.«list.__init__» ⟨[.ref S,.ref z],[]⟩)
  (fun fin s'=>match fin with|.done f=>R (.ok f) s'|.again c'=>c'.quiet=true/\codeAny (model prog w) A c' R s') (fun e s'=>R (.error e) s') s:=by
 have hSz:S≠z:=Ga (hlo z (by simp))
 show wpAny _ _ (do let old <- M6 (.ref S);Builtin.List.listUpdate (.ref S) (fun _=>#[]);letGo old.toList.reverse;GO (.ref S) (.ref z) .none) _ _ s;refine Qa ?_;unfold M6;refine Qa (Gf hS rfl (Qf ?_))
 show wpAny _ _ (updateSeq S (fun _=>#[]) >>= fun _=>letGo (#[]:Array Value).toList.reverse >>= fun _=>GO (.ref S) (.ref z) .none) _ _ s;refine Qa (GF hS rfl ?_)
 have hS₂:=QU (Lg (fun _=>(#[]:Array Value))) hS rfl
 have oth:∀b o,b≠S->s.heap.get? b=some o->(s.heap.update S (Lg (fun _=>(#[]:Array Value)))).get? b=some o :=
  fun b o hb e=>(QF _ _ (QN hb)).trans e
 refine Qa (G9 ?_);exact JhP hh S Z nS hlo n hn hz (oth _ _ hSz.symm hzip) (st.keep oth nS) .none _ hS₂ (fun h' tk acc c as hk hS' hl hG hacc=>hR h' tk acc c as (fun b o hb h1 h2 h3 h4 e=>hk b o hb h1 h2 h3 h4 (oth b o hb e)) hS' hl hG hacc)
theorem JlE{Q:Value->Shared->Prop}(hh:A.handled=none)(Z:ZA z TI TO i1 i2 [i1,a1] [i2,a2])(n:Nat)(hn:n=min xs.size ys.size)(hz:n<=sizeLine)
 (hzip:IsZip s.heap z TI TO .none) (gI:IsPair s.heap TI (.ref i1) (.ref i2)) (gO:IsPair s.heap TO .none .none) (t1:IsItr b1 s.heap i1 a1 0) (t2:IsItr b2 s.heap i2 a2 0) (q1:IsSq b1 s.heap a1 xs) (q2:IsSq b2 s.heap a2 ys)
 (hQ:∀h' tk acc c as,(∀b o,b≠z->b≠TO->b≠i1->b≠i2->s.heap.get? b=some o->h'.get? b=some o)->h'.get? s.heap.objs.size=some { cls:=.type "list",dict:=none,data:=.seq acc c,slots:=#[] }->as.length=n->LzG xs ys s.heap.objs.size h' as ->
  acc.toList=as.map Value.ref->Q (.ref s.heap.objs.size) { s with heap:=h',toks:=tk }) :
 wpAny (model prog w) A (call (.type "list") [.ref z]) Q E s:=by
 refine callType_codes (Q₁:=fun obj s₁=>obj=.ref s.heap.objs.size/\s₁={ s with heap:=s.heap.push { cls:=.type "list",data:=.seq #[] } }) PySem.F.called_list (PySem.F.typeCall_list_1 _) PySem.F.entry_list_init
  (code_list_new _ ⟨rfl,rfl⟩) fun obj s₁ h₁=>?_
 obtain⟨rfl,rfl⟩:=h₁;have hS:(s.heap.push { cls:=.type "list",data:=.seq #[] }).get? s.heap.objs.size=some { cls:=.type "list",data:=.seq #[] }:=Qi _ rfl;have up:∀b o,s.heap.get? b=some o->(s.heap.push { cls:=.type "list",data:=.seq #[] }).get? b=some o:=fun b o e=>Qg _ e
 have i1lt:i1<s.heap.objs.size:=by
  cases b1 with
  | true=>obtain⟨o,h1,_⟩:=t1;exact Qj h1
  | false=>obtain⟨o,h1,_⟩:=t1;exact Qj h1
 have i2lt:i2<s.heap.objs.size:=by
  cases b2 with
  | true=>obtain⟨o,h1,_⟩:=t2;exact Qj h1
  | false=>obtain⟨o,h1,_⟩:=t2;exact Qj h1
 have lo:∀b∈[z,TI,TO,i1,i2],b<s.heap.objs.size:=fun b hb=>by
  simp only[Qh,Q0,or_false] at hb;rcases hb with rfl|rfl|rfl|rfl|rfl
  ·exact Qj hzip
  ·exact Qj gI
  ·exact Qj gO
  ·exact i1lt
  ·exact i2lt
 have nS:s.heap.objs.size∉[z,TI,TO,i1,i2,a1,a2]:=fun hm=>by
  simp only[Qh,Q0,or_false] at hm;rcases hm with e|e|e|e|e|e|e
  ·exact absurd (Qj hzip) (by rw[e];exact Q6 _)
  ·exact absurd (Qj gI) (by rw[e];exact Q6 _)
  ·exact absurd (Qj gO) (by rw[e];exact Q6 _)
  ·exact absurd i1lt (by rw[e];exact Q6 _)
  ·exact absurd i2lt (by rw[e];exact Q6 _)
  ·exact absurd q1.lt (by rw[e];exact Q6 _)
  ·exact absurd q2.lt (by rw[e];exact Q6 _)
 refine⟨⟨_,hS,rfl⟩,PySem.F.args_list_init_2 _ _,JlH (A:=A.in1) (b1:=b1) (b2:=b2) hh _ Z nS lo n hn hz (up _ _ hzip) ⟨up _ _ gI,⟨IsItr.keep' t1 fun o e=>up _ o e,q1.push _⟩,⟨IsItr.keep' t2 fun o e=>up _ o e,q2.push _⟩,.inl ⟨up _ _ hzip,_,_,up _ _ gO⟩⟩ hS (fun h' tk acc c as hk hS' hl hG hacc=>?_)⟩;exact⟨rfl,hQ h' tk acc c as (fun b o h1 h2 h3 h4 e=>hk b o (Qy (Qj e)) h1 h2 h3 h4 (up b o e)) hS' hl hG hacc⟩
end
end PySem

namespace L2
open PySem PySem.Spec PyProof.Rows
noncomputable def Wk(H:Hp):List Addr->List (V×V)->Hp
 | a::as,kv::kvs=>upd (Wk H as kvs) a (.tup [kv.1,kv.2])
 | _,_=>H
theorem U0{H:Hp}{b:Addr}:∀{as:List Addr} {kvs:List (V×V)},b∉as->Wk H as kvs b=H b
 | [],_,_=>rfl
 | _::_,[],_=>rfl
 | a::as,kv::kvs,h=>by rw[Wk,Jm fun z=>h (by rw[z];exact Qe)];exact U0 fun m=>h (Qc _ m)
theorem ZN{H:Hp}:∀{as:List Addr} {kvs:List (V×V)} {j:Nat} {a:Addr} {kv:V×V},as.Nodup->as[j]?=some a->kvs[j]?=some kv->Wk H as kvs a=some (.tup [kv.1,kv.2])
 | [],_,_,_,_,_,e,_=>by simp at e
 | _::_,[],_,_,_,_,_,e=>by simp at e
 | b::as,kv'::kvs,0,a,kv,_,e1,e2=>by simp at e1 e2;subst e1 e2;rw[Wk,Jv]
 | b::as,kv'::kvs,j+1,a,kv,hn,e1,e2=>by
  rw[QX] at hn;simp at e1 e2;have hne:a≠b:=fun z=>hn.1 (by rw[<- z];exact QC e1)
  rw[Wk,Jm hne];exact ZN hn.2 e1 e2
theorem nm2{x y z:Nat}(h1:x≠y)(h2:x≠z):x∉[y,z]:=by simp[h1,h2]
theorem JqN{n b:Nat}(h:b<n):b≠n+4/\b≠n+3/\b≠n/\b≠n+1/\b≠n+2:=by omega
theorem za5{n a1 a2:Nat}(h1:a1<n)(h2:a2<n):ZA (n+4) (n+2) (n+3) n (n+1) [n,a1] [n+1,a2] :=
 ⟨show(n+2:Nat)≠n+4 by omega,show(n+3:Nat)≠n+4 by omega,show(n+2:Nat)≠n+3 by omega,by simp,by simp,
  nm2 (by omega) (by omega),nm2 (by omega) (by omega),nm2 (by omega) (by omega),nm2 (by omega) (by omega),nm2 (by omega) (by omega),nm2 (by omega) (by omega),nm2 (by omega) (by omega),nm2 (by omega) (by omega)⟩
noncomputable def Jev(K:Frag)(ta:TA):TE:=fun σ H Q=>ta σ H fun vs H1=>∃(b1 b2:Bool) (a1 a2:Addr) (xs ys:List V),vs=[.ref a1,.ref a2]/\Sq b1 K H1 a1 xs/\Sq b2 K H1 a2 ys/\(xs.zip ys).length<=sizeLine ∧
 ∀(L:Addr) (as:List Addr),H1 L=none->as.length=(xs.zip ys).length->as.Nodup->L∉as->(∀b∈as,H1 b=none)->Q (.ref L) (upd (Wk H1 as (xs.zip ys)) L (.lst (as.map V.ref)))
theorem Jd3{X:Cx}{K:Frag}{a b:Expr}{ta:TA}{p pos p2 pos2:Pos}(hK:X.K=K)(hc:X.calm=true)(hgl:Gl X "list")(hml:X.mg "list"=none)(hg:Gl X "zip")(hm:X.mg "zip"=none)(ha:PA X [a,b] ta)(hs:starEach [a,b] X.env=[(false,eval a X.env),(false,eval b X.env)]:=by rfl)
 (hs2:starEach [b] X.env=[(false,eval b X.env)]:=by rfl):PE X (.Call (.Name "list" p) [.Call (.Name "zip" p2) [a,b] [] pos2] [] pos) (Jev K ta):=by
 subst hK;intro pins s σ H Q I h;refine Call_ (U1 I hgl hml ZF (Gg ?_ rfl rfl));show wpAny _ _ (spliced ((false,eval (.Call (.Name "zip" p2) [a,b] [] pos2) X.env)::backTo pos (starEach [] X.env))) _ _ s;refine Kq ?_;refine Call_ (U1 I hg hm JiA (Gg (thn (ha pos2 pins s σ H _ I h) fun us s1 ⟨vs,H1,I1,r1,q1⟩=>?_) (by rw[hs,hs2]) (by rw[hs2];rfl)));obtain⟨b1,b2,a1,a2,xs,ys,e,c1,c2,hz,q⟩:=q1
 subst e
 cases r1 with
 | cons r rr =>
 cases rr with
 | cons r' rr =>
 cases rr;cases r;cases r';obtain⟨its,w1,p1⟩:=c1.heap I1;obtain⟨jts,w2,p2'⟩:=c2.heap I1;have hh:X.A.handled=none:=I1.ok.hd hc;have n1:its.toArray.size=xs.length:=by rw[Qo,w1.length]
 have n2:jts.toArray.size=ys.length:=by rw[Qo,w2.length]
 have hzl:(xs.zip ys).length=min its.toArray.size jts.toArray.size:=by rw[GQ,n1,n2]
 refine Jbi p1 p2' fun h' t1 t2 t3 t4 t5 kp=>LL ?_
 have Z:ZA (s1.heap.objs.size+4) (s1.heap.objs.size+2) (s1.heap.objs.size+3) s1.heap.objs.size (s1.heap.objs.size+1) [s1.heap.objs.size,a1] [s1.heap.objs.size+1,a2]:=za5 p1.lt p2'.lt;refine JlE (s:={ s1 with heap:=h' }) hh Z (xs.zip ys).length hzl hz t1 t2 t3 t4 t5 (p1.keep fun o e=>kp _ o e) (p2'.keep fun o e=>kp _ o e) fun h2 tk acc c as hk hS hal hG hacc=>?_
 have hle:s1.heap.objs.size<h'.objs.size:=G1 (LX _ 4) (Qj t1)
 have hnd:as.Nodup:=hG.rise.imp fun {x y} h=>Qy h
 have hLa:h'.objs.size∉as:=fun m=>absurd (hG.above _ m) (Q6 _)
 have fr:∀b∈as,H1 b=none:=fun b hb=>I1.hok.fresh (GS (GL hle (hG.above b hb)))
 have hne:H1 h'.objs.size=none:=I1.hok.fresh (GS hle);refine⟨.ref h'.objs.size,_,I1.more (t':=tk) (fun b u e=>?_) (fun b hb=>?_) (fun b o hb e=>?_),rfl,q h'.objs.size as hne hal hnd hLa fr⟩
 ·obtain⟨o1,o2,o3,o4,_⟩:=JqN (Qj e);exact hk b u o1 o2 o3 o4 (kp b u e)
 ·rw[Jm (Qy (GL hb hle))];exact U0 fun m=>absurd (hG.above b m) (LW.mpr (GS (GL hb hle)))
 ·by_cases hL:b=h'.objs.size
  ·subst hL;rw[Jv] at e;cases e;refine⟨by rw[Qm,hal];exact hz,acc.toList,c,?_,?_⟩
   ·rw[hacc]
    have:∀l:List Addr,Vals (l.map V.ref) (l.map Value.ref):=fun l=>by
     induction l with
     | nil=>exact .nil
     | cons x l ih=>exact .cons rfl ih
    exact this as
   ·rw[hS]
  ·rw[Jm hL] at e
   by_cases hm:b∈as
   ·obtain⟨j,hj⟩:=GK.mp hm;obtain⟨u,v,e1,e2,e3⟩:=hG.pairs j b hj;have hjl:j<(xs.zip ys).length:=by have:=(Qk.mp hj).1;omega
    have hkv:(xs.zip ys)[j]?=some (xs.zip ys)[j]:=QT hjl
    have hx:xs[j]?=some (xs.zip ys)[j].1:=by rw[List.getElem_zip];exact QT _
    have hy:ys[j]?=some (xs.zip ys)[j].2:=by rw[List.getElem_zip];exact QT _
    obtain⟨ux,hux,rux⟩:=w1.get hx;obtain⟨uy,huy,ruy⟩:=w2.get hy
    have eu:u=ux:=by
     have e1':its[j]?=some u:=by simpa using e1
     rw[hux] at e1';exact(QH e1').symm
    have ev:v=uy:=by
     have e2':jts[j]?=some v:=by simpa using e2
     rw[huy] at e2';exact(QH e2').symm
    subst eu ev;rw[ZN hnd hj hkv] at e;cases e;exact⟨by show 2<=sizeLine;decide,[u,v],.cons rux (.cons ruy .nil),⟨_,e3,rfl,_,rfl⟩⟩
   ·rw[U0 hm,I1.hok.fresh hb] at e;cases e
end L2

namespace LE
open PySem L2 LR
noncomputable def JiP(as:En->Option (List Sl)):Ev:=fun E=>(as E).bind fun ss=>match ss with
 | [s,t]=>(s.it true).bind fun ds=>(t.it true).bind fun es=>if ds.length<=sizeLine then some (.own (JcR ds es)) else none
 | _=>none
section
variable{K:Frag}{C:Addr}
theorem Jbx{H:Hp}{kvs:List (V×V)}{as:List Addr}(h:∀b∈as,H b=none):Same H (Wk H as kvs):=fun b o e=>by rw[U0 fun m=>by rw[h b m] at e;cases e];exact e
theorem Jgr{H:Hp}:∀{as:List Addr} {kvs:List (V×V)} {b:Addr} {o:HO},Wk H as kvs b=some o->H b=some o\/b∈as
 | [],_,_,_,e=>.inl e
 | _::_,[],_,_,e=>.inl e
 | a::as,kv::kvs,b,o,e=>by
  by_cases c:b=a
  ·exact .inr (by rw[c];exact Qe)
  ·rw[Wk,Jm c] at e;exact(Jgr e).imp id fun m=>Qc _ m
theorem RDL.zips:∀{xs ys:List V} {ds es:List D} {as:List Addr} {H:Hp},as.length=(xs.zip ys).length->(∀(j:Nat) (a:Addr) (x y:V),as[j]?=some a->xs[j]?=some x->ys[j]?=some y->H a=some (.tup [x,y]))->RDL K C H xs ds->RDL K C H ys es->RDL K C H (as.map V.ref) (JcR ds es)
 | [],ys,ds,es,as,H,h1,_,r,r'=>by
  have:ds=[]:=by
   cases ds with
   | nil=>rfl
   | cons d ds=>have:=r.1;simp at this
  subst this;have:as=[]:=Qz (by simpa using h1);subst this;exact .nil
 | x::xs,[],ds,es,as,H,h1,_,r,r'=>by
  have:es=[]:=by
   cases es with
   | nil=>rfl
   | cons d ds=>have:=r'.1;simp at this
  subst this;have:as=[]:=Qz (by simpa using h1);subst this;cases ds <;> exact .nil
 | x::xs,y::ys,[],es,as,H,h1,_,r,r'=>by have:=r.1;simp at this
 | x::xs,y::ys,d::ds,[],as,H,h1,_,r,r'=>by have:=r'.1;simp at this
 | x::xs,y::ys,d::ds,e::es,[],H,h1,_,r,r'=>by simp at h1
 | x::xs,y::ys,d::ds,e::es,a::as,H,h1,h3,r,r'=>by show RDL K C H (V.ref a::as.map V.ref) (.tup [d,e]::JcR ds es);exact .cons (.mkT (.of (h3 0 a x y rfl rfl rfl)) (.cons r.head (.cons r'.head .nil))) (RDL.zips (by simpa using h1) (fun j a x y e1 e2 e3=>h3 (j+1) a x y (by simpa using e1) (by simpa using e2) (by simpa using e3)) r.tail r'.tail)
theorem Jpa{t:TA}{ev:En->Option (List Sl)}(ha:SA K C t ev):SE K C (Jev K t) (JiP ev):=by
 intro B H0 H σ E r Q I e q;obtain⟨ss,e1,e⟩:=bind_some e;split at e
 ·next s u =>
  obtain⟨ds1,e2,e⟩:=bind_some e;obtain⟨ds2,e3,e⟩:=bind_some e;split at e
  ·next hz =>
   cases e;refine ha B H0 H σ E _ _ I e1 fun vs H1 H1' s1 r1=>?_
   obtain⟨v,w,rfl,ra,rb⟩:=r1.two;have f:=J2 (Hs:=H) s1.i;obtain⟨b1,a1,xs,rfl,k1,w1⟩:=JhA (m:=true) ra s1.i e2;obtain⟨b2,a2,ys,rfl,k2,w2⟩:=JhA (m:=true) rb s1.i e3;have st0:SStep H1' (Ya H H1 H1') (Ya H H1 H1') H1':=⟨Same.refl _,Same.refl _,fun _ _ e=>.inl e,f.i⟩
   have s2:=s1.comp f fun _ z=>z
   refine⟨b1,b2,a1,a2,xs,ys,rfl,k1 _ (fun _=>rfl) _ _ st0,k2 _ (fun _=>rfl) _ _ st0,?_,fun L as hL hal hnd hLa hfr=>?_⟩
   ·rw[GQ,w1.1];exact Gn (Nat.min_le_left _ _) hz
   have fr0:∀b∈as,Ya H H1 H1' b=none:=fun b hb=>Same.free s2.i (hfr b hb)
   have frH:∀b∈as,H b=none:=fun b hb=>Same.free s2.h (hfr b hb)
   have hL0:Ya H H1 H1' L=none:=Same.free s2.i hL
   have z0:Same (Ya H H1 H1') (Wk (Ya H H1 H1') as (xs.zip ys)):=Jbx fr0
   have zz:Same H1' (Wk H1' as (xs.zip ys)):=Jbx hfr
   have hLl:Wk H1' as (xs.zip ys) L=none:=by rw[U0 hLa];exact hL
   have ii:Same (Wk (Ya H H1 H1') as (xs.zip ys)) (Wk H1' as (xs.zip ys)):=fun b o e=>by
    by_cases hb:b∈as
    ·obtain⟨j,hj⟩:=GK.mp hb
     have hjl:j<(xs.zip ys).length:=by have:=(Qk.mp hj).1;omega
     have hkv:=QT hjl;rw[ZN hnd hj hkv] at e ⊢;exact e
    ·rw[U0 hb] at e ⊢;exact s2.i b o e
   refine q _ (Wk (Ya H H1 H1') as (xs.zip ys)) _ ⟨(s2.h.trans zz).trans (.new hLl),s2.z.trans z0,fun b o e=>?_,ii.trans (.new hLl)⟩ ⟨L,as.map V.ref,rfl,Jv,by rw[U0 hLa];exact hL0,Same.free s2.h hL,?_⟩
   ·rcases Jgr e with z|z
    ·exact s2.n b o z
    ·exact .inr (.inl (frH b z))
   ·refine RDL.zips hal (fun j a x y j1 j2 j3=>?_) (w1.mono z0) (w2.mono z0);exact ZN (kv:=(x,y)) hnd j1 (by rw[Mr];exact⟨j2,j3⟩)
  ·cases e
 ·cases e
end
end LE

namespace L2
open PySem PySem.Spec PyProof.Rows
section
variable{X:Cx}{pins:List (Addr×Obj)}{σ:St}{H:Hp}{s:Shared}{a:Addr}{kvs:List (Key×V)}{k:Key}{z:V}{u r:Value}{A:Around}{E:Value->Shared->Prop}
theorem JnH{Q:Value->Shared->Prop}(I:Inv X pins σ H s)(e:H a=some (.dK kvs))(ry:RelV (kV k) u)(rz:RelV z r)(l:kvs.length<sizeLine)
 (h1:∀v w' s',VA kvs k=some v->Inv X pins σ H s'->RelV v w'->Q w' s') (h2:VA kvs k=none->∀s',Inv X pins σ (upd H a (.dK (VQ kvs k z))) s'->Q r s') :
 wpAny (model X.prog X.w) A (call (.builtin "dict.setdefault") [.ref a,u,r]) Q E s:=by
 obtain⟨hz,hd,vs,rel,dd⟩:=Jm2 I.hok e;have hzl:vs.length<=sizeLine:=by rw[<- rel.length];exact hz
 have hl:(VQ kvs k z).length<=sizeLine:=by have:=VV kvs k z;omega
 refine call_meetsIn L9 dd.typeIs PySem.F.entry_dict_setdefault (PySem.F.args_dict_setdefault_3 _ _ _) (kt_meets_setdefault (JO X.prog X.w) a (JdB ry) hd r) ⟨vs,dd,hzl,fun v hv=>?_,fun hn h' dd' hs=>?_⟩
 ·have rv:=rel.val k;rw[hv] at rv
  cases hk:VA kvs k with
  | none=>rw[hk] at rv;cases rv
  | some y=>rw[hk] at rv;exact h1 y v _ hk (I.tok _) rv
 ·have rv:=rel.val k;rw[hn] at rv
  have hk:VA kvs k=none:=by
   cases hk:VA kvs k with
   | none=>rfl
   | some y=>rw[hk] at rv;cases rv
  refine h2 hk _ ?_;have he:∃q,h'.get? a=some q:=let ⟨q,_,_,hq,_⟩:=dd';⟨q,hq⟩
  exact Jb0 I (by rw[e];exact True.intro) hs he (JiO hl hd (rel.put k rz) dd')
end
noncomputable def JfH(td ty tx:TE):TE:=fun σ H Q=>td σ H fun x H1=>∃a,x=.ref a/\IsD H1 a/\ty σ H1 fun y H2=>tx σ H2 fun z H3=>∃kvs k,H3 a=some (.dK kvs)/\y=kV k/\kvs.length<sizeLine ∧
 (∀v,VA kvs k=some v->Q v H3)/\(VA kvs k=none->Q z (upd H3 a (.dK (VQ kvs k z))))
section
variable{X:Cx}{o e f:Expr}{apos cpos:Pos}{td ty tx:TE}
theorem JjK(ho:PE X o td)(he:PE X e ty)(hf:PE X f tx)(m:M2 X o "setdefault" apos e f cpos):PE X (.Call (.Attribute o "setdefault" apos) [e,f] [] cpos) (JfH td ty tx):=by
 intro pins s σ H Q I h;refine wpAny_Call_method m.base m.few m.line KK L9 PySem.F.type_dict_setdefault (thn (ho pins s σ H _ I h) fun u s1 ⟨x,H1,I1,rx,a,ex,d,q1⟩=>?_);subst ex;obtain rfl:u=Value.ref a:=rx;obtain⟨t1,t2,_⟩:=Jcl I1 d;refine⟨t1,t2,?_⟩;rw[m.trees];refine G5 rfl (L3 (Kq (thn (he pins s1 σ H1 _ I1 q1) fun iv s2 ⟨y,H2,I2,ry,q2⟩=>Kq (thn (hf pins s2 σ H2 _ I2 q2) fun fv s3 ⟨z,H3,I3,rz,kvs,k,e1,e2,l,q3,q4⟩=>LL ?_))))
 subst e2;exact JnH I3 e1 ry rz l (fun v w' s' hv I4 rv=>⟨v,H3,I4,rv,q3 v hv⟩) fun hn s' I4=>⟨z,_,I4,rz,q4 hn⟩
end
end L2
namespace LE
open PySem L2 LR
section
variable(K:Frag)(C:Addr)(j:Nat)
noncomputable def Left(σ:St)(E:En)(σ':St)(E':En):Prop:=σ'[j]?=σ[j]?/\∀(i:Nat) (s:Sl),E'[i]?=some s->YU s=true->E[i]?=some s/\σ'[i]?=σ[i]?
noncomputable def SGJ(g:TG)(p:Pt):Prop:=∀(B H0 H:Hp) (σ:St) (E E':En) (x:V) (d:D) (Q:St->Hp->Prop),EnvR K C B H0 H σ E->RD K C H0 x d->p.bind d E=some E'->(∀σ',EnvR K C B H0 H σ' E'->Left j σ E σ' E'->Q σ' H)->g x σ H Q
noncomputable def JkT(g:TGs)(p:Pts):Prop:=∀(B H0 H:Hp) (σ:St) (E E':En) (xs:List V) (ds:List D) (Q:St->Hp->Prop),EnvR K C B H0 H σ E->RDL K C H0 xs ds->p.bind ds E=some E'->(∀σ',EnvR K C B H0 H σ' E'->Left j σ E σ' E'->Q σ' H)->g xs σ H Q
end
section
variable{K:Frag}{C:Addr}{j:Nat}
theorem Left.refl(σ:St)(E:En):Left j σ E σ E:=⟨rfl,fun _ _ e _=>⟨e,rfl⟩⟩
theorem Left.trans{σ σ1 σ2:St}{E E1 E2:En}(a:Left j σ E σ1 E1)(b:Left j σ1 E1 σ2 E2):Left j σ E σ2 E2 :=
 ⟨b.1.trans a.1,fun i s e o=>by obtain⟨h1,h2⟩:=b.2 i s e o;obtain⟨h3,h4⟩:=a.2 i s h1 o;exact⟨h3,h2.trans h4⟩⟩
theorem Ji7{i:Nat}(h:i≠j):SGJ K C j (Wn i) (.nm i):=by
 intro B H0 H σ E E' x d Q I r e q;rw[Pt.bind] at e;split at e
 ·cases e;refine q _ (I.setSh (by assumption) r) ⟨by rw[Q5,if_neg h],fun i' s e o=>?_⟩;rw[Q5] at e
  by_cases c:i=i'
  ·rw[if_pos c] at e
   by_cases hl:i<E.length
   ·rw[if_pos hl] at e;have e':Sl.sh d=s:=QH e;rw[<- e'] at o;exact absurd o Qx
   ·rw[if_neg hl] at e;exact absurd e (by simp)
  ·rw[if_neg c] at e;exact⟨e,by rw[Q5,if_neg c]⟩
 ·cases e
theorem JnT:JkT K C j Jlu .nil:=by
 intro B H0 H σ E E' xs ds Q I r e q
 cases ds with
 | nil =>
  cases xs with
  | nil=>rw[Pts.bind] at e;cases e;exact⟨rfl,q σ I (.refl σ _)⟩
  | cons _ _=>have:=r.1;simp at this
 | cons _ _=>simp[Pts.bind] at e
theorem Jcd{g:TG}{gs:TGs}{p:Pt}{ps:Pts}(h:SGJ K C j g p)(hs:JkT K C j gs ps):JkT K C j (Jgj g gs) (.cons p ps):=by
 intro B H0 H σ E E' xs ds Q I r e q
 cases ds with
 | nil=>simp[Pts.bind] at e
 | cons d ds =>
  cases xs with
  | nil=>have:=r.1;simp at this
  | cons x xs=>rw[Pts.bind] at e;obtain⟨E1,e1,e2⟩:=bind_some e;exact⟨x,xs,rfl,h B H0 H σ E E1 x d _ I r.head e1 fun σ1 I1 l1=>hs B H0 H σ1 E1 E' xs ds Q I1 r.tail e2 fun σ2 I2 l2=>q σ2 I2 (l1.trans l2)⟩
theorem JnU{n:Nat}{gs:TGs}{ps:Pts}(hs:JkT K C j gs ps)(hn:ps.len=n):SGJ K C j (Jhy K n gs) (.tp ps):=by
 intro B H0 H σ E E' x d Q I r e q
 cases d with
 | tup ds=>rw[Pt.bind] at e;obtain⟨a,xs,rfl,h,r⟩:=RD.tupI r;exact⟨a,xs,rfl,I.h.seqT h,by rw[r.1];exact(Pts.bind_len e).trans hn,hs B H0 H σ E E' xs ds Q I r e q⟩
 | _=>simp[Pt.bind] at e
theorem EnvR.poke{B H0 H:Hp}{σ:St}{E:En}{a:Addr}{o:HO}(I:EnvR K C B H0 H σ E)(h0:H0 a=none)(hb:B a=none)(ho:∀(i:Nat) (s:Sl),E[i]?=some s->YU s=true->σ[i]?≠some (some (.ref a))):EnvR K C B H0 (upd H a o) σ E:=by
 have nb:∀{A:Hp},A a=none->Same A H->Same A (upd H a o):=fun {A} n s b o e=>by rw[Jm (Jw e n)];exact s b o e
 refine⟨nb hb I.b,nb h0 I.h,I.len,fun i s e=>?_,I.sep⟩;rcases I.at' i s e with z|⟨v,q1,q2⟩
 ·exact .inl z
 ·refine .inr ⟨v,q1,?_⟩
  cases s with
  | no=>trivial
  | sh d=>exact q2
  | bo es=>exact q2
  | bd ks es=>exact q2
  | bt ks es=>exact q2
  | own es =>
   obtain⟨l',ys,p1,p2,p3⟩:=q2;subst p1;have:l'≠a:=fun z=>ho i _ e rfl (by rw[q1,z])
   exact⟨l',ys,rfl,by rw[Jm this];exact p2,p3⟩
  | od ks es =>
   obtain⟨l',ys,p1,p2,p3⟩:=q2;subst p1;have:l'≠a:=fun z=>ho i _ e rfl (by rw[q1,z])
   exact⟨l',ys,rfl,by rw[Jm this];exact p2,p3⟩
  | ot ks es =>
   obtain⟨l',ys,p1,p2,p3⟩:=q2;subst p1;have:l'≠a:=fun z=>ho i _ e rfl (by rw[q1,z])
   exact⟨l',ys,rfl,by rw[Jm this];exact p2,p3⟩
end
end LE

namespace LE
open PySem L2 LR
noncomputable def JaS:List Int->List (List D)->Int->D->List (List D)
 | k::ks,x::xs,n,d=>if k=n then(x++[d])::xs else x::JaS ks xs n d
 | _,xs,_,d=>xs++[[d]]
noncomputable def WP(p:Pt)(ek ev:Ev):List D->En->List Int->List (List D)->Option (En×List Int×List (List D))
 | [],E,ks,dss=>some (E,ks,dss)
 | d::ds,E,ks,dss=>(p.bind d E).bind fun E1=>((ek E1).bind int?).bind fun n=>(ev E1).bind fun s=>s.frz.bind fun dv=>WP p ek ev ds E1 (Yv ks n) (JaS ks dss n dv)
noncomputable def JmU(it:En->Option (List D))(p:Pt)(j:Nat)(ek ev:Ev):Es:=fun E=>match E[j]? with
 | some (.od [] [])=>(it E).bind fun ds=>if ds.length<sizeLine then(WP p ek ev ds (E.set j .no) [] []).bind fun r=>if j<r.1.length then some (.nx (r.1.set j (.od r.2.1 (r.2.2.map .lst)))) else none else none
 | _=>none
theorem ZW:∀{ks:List Int} {ls:List Addr} {n:Int} {a:Addr},look ks ls n=some a->∃m,ls[m]?=some a/\Vn ks n=true/\∀dss:List (List D),dss.length=ls.length->∃ds,dss[m]?=some ds/\∀d,JaS ks dss n d=dss.set m (ds++[d])
 | [],_,_,_,e=>by cases e
 | _::_,[],_,_,e=>by cases e
 | k::ks,l::ls,n,a,e=>by
  simp only[look] at e
  by_cases c:k=n
  ·rw[if_pos c] at e;cases e;refine⟨0,rfl,by unfold Vn;simp[c],fun dss hl=>?_⟩
   cases dss with
   | nil=>simp at hl
   | cons x xs=>exact⟨x,rfl,fun d=>by rw[JaS,if_pos c];rfl⟩
  ·rw[if_neg c] at e;obtain⟨m,h1,h2,h3⟩:=ZW e;refine⟨m+1,by simpa using h1,by unfold Vn at h2 ⊢;rw[GG,h2,Bool.or_true],fun dss hl=>?_⟩
   cases dss with
   | nil=>simp at hl
   | cons x xs=>obtain⟨ds,g1,g2⟩:=h3 xs (by simpa using hl);exact⟨ds,by simpa using g1,fun d=>by rw[JaS,if_neg c,g2 d];rfl⟩
theorem Ja4:∀{ks:List Int} {ls:List Addr} {n:Int},ks.length=ls.length->look ks ls n=none->Vn ks n=false/\∀(dss:List (List D)) (d:D),dss.length=ls.length->JaS ks dss n d=dss++[[d]]
 | [],[],_,_,_=>⟨rfl,fun dss d _=>by cases dss <;> rfl⟩
 | [],_::_,_,h,_=>by simp at h
 | _::_,[],_,h,_=>by simp at h
 | k::ks,l::ls,n,h,e=>by
  simp only[look] at e
  by_cases c:k=n
  ·rw[if_pos c] at e;cases e
  ·rw[if_neg c] at e;obtain⟨h1,h2⟩:=Ja4 (by simpa using h) e;refine⟨by unfold Vn at h1 ⊢;rw[GG,h1,decide_eq_false c];rfl,fun dss d hl=>?_⟩
   cases dss with
   | nil=>simp at hl
   | cons x xs=>rw[JaS,if_neg c,h2 xs d (by simpa using hl)];rfl
section
variable(K:Frag)(C:Addr)
structure Grp (B H0 H:Hp) (σ:St) (E:En) (j c:Nat) (ks:List Int) (dss:List (List D)) (l:Addr) (ls:List Addr):Prop where
 at':σ[j]?=some (some (.ref l))
 dict:H l=some (dkO ks (ls.map V.ref))
 l0:H0 l=none
 lb:B l=none
 len:ks.length=ls.length
 len2:dss.length=ls.length
 cnt:ks.length<=c
 lists:∀(m:Nat) (a:Addr) (ds:List D),ls[m]?=some a->dss[m]?=some ds->ds.length<=c/\∃xs,H a=some (.lst xs)/\H0 a=none/\B a=none/\RDL K C H0 xs ds
 nd:(l::ls).Nodup
 own:∀(i:Nat) (s:Sl) (a:Addr),E[i]?=some s->YU s=true->σ[i]?=some (some (.ref a))->a∉l::ls
end
section
variable{K:Frag}{C:Addr}{B H0 H H0' H':Hp}{σ σ':St}{E E':En}{j c:Nat}{ks:List Int}{dss:List (List D)}{l:Addr}{ls:List Addr}
theorem Grp.there(g:Grp K C B H0 H σ E j c ks dss l ls){a:Addr}(ha:a∈l::ls):∃o,H a=some o/\isT o=false/\H0 a=none/\B a=none:=by
 rcases Qh.mp ha with z|z
 ·subst z;exact⟨_,g.dict,rfl,g.l0,g.lb⟩
 ·obtain⟨m,hm⟩:=GK.mp z;have hl:m<dss.length:=by rw[g.len2];exact(Qk.mp hm).1
  obtain⟨_,xs,h1,h2,h3,_⟩:=g.lists m a dss[m] hm (QT hl);exact⟨_,h1,rfl,h2,h3⟩
theorem Grp.off(g:Grp K C B H0 H σ E j c ks dss l ls)(st:Step H H0 H H0' H'){a:Addr}(ha:a∈l::ls):H0' a=none:=by
 obtain⟨o,h1,h2,h3,_⟩:=g.there ha
 cases z:H0' a with
 | none=>rfl
 | some u =>
  rcases st.n a u z with y|y|y
  ·rw[h3] at y;cases y
  ·rw[h1] at y;cases y
  ·have:=st.i a u z;rw[st.h a o h1] at this;cases this;rw[h2] at y;cases y
theorem Grp.step(g:Grp K C B H0 H σ E j c ks dss l ls)(st:Step H H0 H H0' H'):Grp K C B H0' H' σ E j c ks dss l ls :=
 ⟨g.at',st.h _ _ g.dict,g.off st Qe,g.lb,g.len,g.len2,g.cnt,fun m a ds e1 e2=>by obtain⟨h0,xs,h1,h2,h3,h4⟩:=g.lists m a ds e1 e2;exact⟨h0,xs,st.h _ _ h1,g.off st (Qc _ (QC e1)),h3,h4.mono st.z⟩,g.nd,g.own⟩
theorem Grp.left(g:Grp K C B H0 H σ E j c ks dss l ls)(f:Left j σ E σ' E'):Grp K C B H0 H σ' E' j c ks dss l ls :=
 ⟨f.1.trans g.at',g.dict,g.l0,g.lb,g.len,g.len2,g.cnt,g.lists,g.nd,fun i s a e o q=>by obtain⟨h1,h2⟩:=f.2 i s e o;exact g.own i s a h1 o (by rw[<- h2];exact q)⟩
theorem Grp.free(g:Grp K C B H0 H σ E j c ks dss l ls){a:Addr}(ha:a∈l::ls):∀(i:Nat) (s:Sl),E[i]?=some s->YU s=true->σ[i]?≠some (some (.ref a)):=fun i s e o q=>g.own i s a e o q ha
theorem EnvR.fresh(I:EnvR K C B H0 H σ E){p:Addr}(hp:H p=none):∀(i:Nat) (s:Sl),E[i]?=some s->YU s=true->σ[i]?≠some (some (.ref p)):=fun i s e o q=>by
 rcases I.at' i s e with z|⟨v,q1,q2⟩
 ·subst z;cases o
 ·rw[q1] at q;cases q
  cases s with
  | own es=>obtain⟨l',ys,p1,p2,_⟩:=q2;cases p1;rw[hp] at p2;cases p2
  | od ks es=>obtain⟨l',ys,p1,p2,_⟩:=q2;cases p1;rw[hp] at p2;cases p2
  | ot ks es=>obtain⟨l',ys,p1,p2,_⟩:=q2;cases p1;rw[hp] at p2;cases p2
  | _=>cases o
theorem Wd{α β:Type}(f:α->β):∀(ks:List Int) (vs:List α) (n:Int),look ks (vs.map f) n=(look ks vs n).map f
 | [],_,_=>rfl
 | _::_,[],_=>rfl
 | k::ks,v::vs,n=>by
  rw[Qd];simp only[look];split
  ·rfl
  ·exact Wd f ks vs n
theorem Jjb{tk tv:TE}{ek ev:Ev}(hk:SE K C tk ek)(hv:SE K C tv ev)(I:EnvR K C B H0 H σ E)(g:Grp K C B H0 H σ E j c ks dss l ls)(hc:c<sizeLine){n:Int}{s:Sl}{dv:D}(e1:ek E=some (.sh (.int n)))(e2:ev E=some s)(e3:s.frz=some dv){D:Ends}
 (f:∀H0' H' ls',SStep B H0 H0' H'->EnvR K C B H0' H' σ E->Grp K C B H0' H' σ E j (c+1) (Yv ks n) (JaS ks dss n dv) l ls'->D.nx σ H') :
 ZB (tBM K "list" WX (JfH (Zp j) tk (JmN Wl)) (U9 tv Wl)) D σ H:=by
 have hkl:=g.len
 have hcn:=g.cnt;refine⟨.ref l,g.at',l,rfl,.inl ⟨_,.inl g.dict⟩,hk B H0 H σ E _ _ I e1 fun y H1 H1' s1 r1=>?_⟩
 have ry:y=.int n:=RD.intI r1;subst ry
 have I1:=I.step s1
 have g1:=g.step s1;refine⟨GJ _,fun p hp=>?_⟩
 have p0:H1 p=none:=Same.free s1.i hp
 have pb:B p=none:=Same.free I1.b hp
 have pn:p∉l::ls:=fun m=>by obtain⟨o,h1,_⟩:=g1.there m;rw[hp] at h1;cases h1
 have I2:EnvR K C B H1 (upd H1' p (.lst [])) σ E:=I1.poke p0 pb (I1.fresh hp)
 have ne:∀{a:Addr},a∈l::ls->a≠p:=fun {a} m z=>pn (z▸m)
 have dl:upd H1' p (.lst []) l=some (dkO ks (ls.map V.ref)):=by rw[Jm (ne Qe)];exact g1.dict
 have ss1:SStep B H0 H1 H1':=s1.ss I.b;refine⟨_,(Sum.inl n:Key),dl,rfl,?_,fun v hv'=>?_,fun hn=>?_⟩
 ·rw[GQ,Qm,Qm,hkl,Mf];omega
 ·-- the list is there
  rw[VB,Wd] at hv';obtain⟨a,ha,rfl⟩:=Gb.mp hv';obtain⟨m,m1,m2,m3⟩:=ZW ha;obtain⟨ds,d1,d2⟩:=m3 dss g.len2;have ham:a∈l::ls:=Qc _ (QC m1);obtain⟨hd,xs,x1,x2,x3,x4⟩:=g1.lists m a ds m1 d1;have xa:upd H1' p (.lst []) a=some (.lst xs):=by rw[Jm (ne ham)];exact x1
  refine⟨.inl ⟨rfl,xs,.of xa⟩,?_⟩;refine hv B H1 _ σ E _ _ I2 e2 fun v H3 H3' s3 r3=>?_
  have s4:Step (upd H1' p (.lst [])) H1 (upd H1' p (.lst [])) (Ya (upd H1' p (.lst [])) H3 H3') H3':=s3.comp (J2 s3.i) fun _ z=>z
  have g2:Grp K C B H1 (upd H1' p (.lst [])) σ E j c ks dss l ls:=⟨g1.at',dl,g1.l0,g1.lb,g1.len,g1.len2,g1.cnt,fun m' a' ds' q1 q2=>by obtain⟨h0,xs',h1,h2⟩:=g1.lists m' a' ds' q1 q2;exact⟨h0,xs',by rw[Jm (ne (Qc _ (QC q1)))];exact h1,h2⟩,g1.nd,g1.own⟩
  have g3:=g2.step s4
  have I3:=I2.step s4
  have ha3:H3' a=some (.lst xs):=s4.h _ _ xa
  have rv:RDL K C (Ya (upd H1' p (.lst [])) H3 H3') (xs++[v]) (ds++[dv]):=(x4.mono s4.z).snoc (RR.frz s3.i r3 e3);refine⟨a,xs,v,rfl,rfl,ha3,by rw[x4.1];omega,?_⟩
  have al:a≠l:=fun z=>(QX.mp g.nd).1 (z▸QC m1)
  refine f (Ya (upd H1' p (.lst [])) H3 H3') _ ls ?_ (I3.poke (g3.off (.refl I3.h) ham) (g3.there ham).choose_spec.2.2.2 (g3.free ham)) ?_
  ·have sb:SStep B H1 (Ya (upd H1' p (.lst [])) H3 H3') H3':=s4.ss I2.b
   have:=ss1.trans sb
   have na:Ya (upd H1' p (.lst [])) H3 H3' a=none:=g3.off (.refl I3.h) ham
   have nb:B a=none:=x3;exact⟨fun b o q=>by rw[Jm (Jw q nb)];exact this.b b o q,this.z,this.n,fun b o q=>by rw[Jm (Jw q na)];exact this.i b o q⟩
  ·have hp':Yv ks n=ks:=if_pos m2;rw[hp',d2 dv];refine⟨g3.at',by rw[Jm (QN al)];exact g3.dict,g3.l0,g3.lb,g3.len,by rw[List.length_set];exact g3.len2,Nat.le_succ_of_le g3.cnt,fun m' a' ds' q1 q2=>?_,g3.nd,g3.own⟩;rw[Q5] at q2
   by_cases hm:m=m'
   ·subst hm;rw[m1] at q1;cases q1;rw[if_pos rfl] at q2;split at q2
    ·cases q2;exact⟨by rw[Qu,Go];omega,_,Jv,g3.off (.refl I3.h) ham,x3,rv⟩
    ·cases q2
   ·rw[if_neg hm] at q2;obtain⟨h0,xs',h1,h2⟩:=g3.lists m' a' ds' q1 q2
    have:a'≠a:=fun z=>by subst z;have nd:=(QX.mp g.nd).2;obtain⟨b1,b2⟩:=Qk.mp m1;obtain⟨c1,c2⟩:=Qk.mp q1;exact hm ((List.getElem_inj nd).mp (b2.trans c2.symm))
    exact⟨by omega,xs',by rw[Jm this];exact h1,h2⟩
 ·-- a new list
  rw[VB,Wd] at hn;have hn':look ks ls n=none:=M7.mp hn;obtain⟨m2,m3⟩:=Ja4 g.len hn'
  have hkv:VQ ((ks.map Sum.inl:List Key).zip (ls.map V.ref)) (Sum.inl n) (.ref p)=((ks++[n]).map Sum.inl:List Key).zip ((ls++[p]).map V.ref):=by rw[JjU _ (by rw[VB,Wd,hn'];rfl),QL,QL,Ra (by rw[Qm,Qm];exact g.len)];rfl
  rw[hkv];have lp:l≠p:=ne Qe;have xp:upd (upd H1' p (.lst [])) l (dkO (ks++[n]) ((ls++[p]).map V.ref)) p=some (.lst []):=by rw[Jm (QN lp),Jv]
  have I2':EnvR K C B H1 (upd (upd H1' p (.lst [])) l (dkO (ks++[n]) ((ls++[p]).map V.ref))) σ E:=I2.poke g1.l0 g1.lb (g1.free Qe)
  suffices key:∀Hn,upd (upd H1' p (.lst [])) l (dkO (ks++[n]) ((ls++[p]).map V.ref))=Hn->Hn p=some (.lst [])->EnvR K C B H1 Hn σ E->(tyV K "list" (.ref p) Hn/\U9 tv Wl σ Hn fun xs H2=>WX (.ref p) xs H2 fun _ H1=>D.nx σ H1) from key _ rfl xp I2'
  clear xp I2';intro Hn hHn xp I2';refine⟨.inl ⟨rfl,[],.of xp⟩,?_⟩;refine hv B H1 Hn σ E _ _ I2' e2 fun v H3 H3' s3 r3=>?_
  have s4:Step Hn H1 Hn (Ya Hn H3 H3') H3':=s3.comp (J2 s3.i) fun _ z=>z
  have nd':(l::(ls++[p])).Nodup:=by
   rw[<- KS,LP];refine⟨g.nd,by simp,fun x hx y hy=>?_⟩;have:y=p:=by simpa using hy
   rw[this];exact ne hx
  have g2:Grp K C B H1 Hn σ E j (c+1) (ks++[n]) (dss++[[]]) l (ls++[p]):=⟨g1.at',by rw[<- hHn];exact Jv,g1.l0,g1.lb,by simp[g.len],by simp[g.len2],by simp;omega,fun m' a' ds' q1 q2=>by
   by_cases hm:m'<ls.length
   ·rw[QG hm] at q1;rw[QG (by rw[g.len2];exact hm)] at q2;obtain⟨h0,xs',h1,h2⟩:=g1.lists m' a' ds' q1 q2;have hal:a'∈ls:=QC q1;exact⟨by omega,xs',by rw[<- hHn,Jm fun z=>(QX.mp g.nd).1 (by rw[<- z];exact hal),Jm (ne (Qc _ hal))];exact h1,h2⟩
   ·have hm1:m'=ls.length:=by have:=(Qk.mp q1).1;simp at this;omega
    subst hm1
    have ea:a'=p:=by
     rw[QI (Qn _)] at q1
     simpa using q1.symm
    have ed:ds'=[]:=by
     rw[QI (by rw[g.len2];exact Qn _),g.len2] at q2
     simpa using q2.symm
    subst ea ed;exact⟨GJ _,[],xp,p0,pb,.nil⟩,nd',fun i s a e o q m=>by
     rw[<- KS] at m;rcases Gk.mp m with z|z
     ·exact g1.own i s a e o q z
     ·have:a=p:=by simpa using z
      subst this;exact I1.fresh hp i s e o q⟩
  have g3:=g2.step s4
  have I3:=I2'.step s4
  have pm:p∈l::(ls++[p]):=by simp
  have p3:H3' p=some (.lst []):=s4.h _ _ xp
  have rv:RDL K C (Ya Hn H3 H3') [v] [dv]:=.cons (RR.frz s3.i r3 e3) .nil;refine⟨p,[],v,rfl,rfl,p3,by show 0<sizeLine;decide,?_⟩
  have n0:Ya Hn H3 H3' p=none:=g3.off (.refl I3.h) pm;refine f (Ya Hn H3 H3') _ (ls++[p]) ?_ (I3.poke n0 pb (g3.free pm)) ?_
  ·have sb:SStep B H1 (Ya Hn H3 H3') H3':=s4.ss I2'.b
   have:=ss1.trans sb;exact⟨fun b o q=>by rw[Jm (Jw q pb)];exact this.b b o q,this.z,this.n,fun b o q=>by rw[Jm (Jw q n0)];exact this.i b o q⟩
  ·have hp':Yv ks n=ks++[n]:=if_neg (by rw[m2];exact Qx);rw[hp',m3 dss dv g.len2];refine⟨g3.at',by rw[Jm lp];exact g3.dict,g3.l0,g3.lb,g3.len,by simp[g.len2],g3.cnt,fun m' a' ds' q1 q2=>?_,g3.nd,g3.own⟩
   by_cases hm:m'<ls.length
   ·have q2':(dss++[[]])[m']?=some ds':=by rw[QG (by rw[g.len2];exact hm)] at q2 ⊢;exact q2
    obtain⟨h0,xs',h1,h2⟩:=g3.lists m' a' ds' q1 q2'
    have:a'≠p:=by rw[QG hm] at q1;exact ne (Qc _ (QC q1))
    exact⟨h0,xs',by rw[Jm this];exact h1,h2⟩
   ·have hm1:m'=ls.length:=by have:=(Qk.mp q1).1;simp at this;omega
    subst hm1
    have ea:a'=p:=by
     rw[QI (Qn _)] at q1
     simpa using q1.symm
    have ed:ds'=[dv]:=by
     rw[QI (by rw[g.len2];exact Qn _),g.len2] at q2
     simpa using q2.symm
    subst ea ed;exact⟨by simp,[v],Jv,n0,pb,rv⟩
end
end LE

namespace LE
open PySem L2 LR
section
variable{K:Frag}{C:Addr}{B H0 H H0' H':Hp}{σ σ':St}{E E':En}{j c:Nat}{ks:List Int}{dss:List (List D)}{l:Addr}{ls:List Addr}
theorem EnvR.unslot(I:EnvR K C B H0 H σ E)(j:Nat):EnvR K C B H0 H σ (E.set j .no):=by
 have get:∀(i:Nat) (s:Sl),(E.set j Sl.no)[i]?=some s->s=.no\/(i≠j/\E[i]?=some s):=fun i s e=>by
  rw[Q5] at e
  by_cases c:j=i
  ·rw[if_pos c] at e
   by_cases hl:j<E.length
   ·rw[if_pos hl] at e;exact .inl (QH e).symm
   ·rw[if_neg hl] at e;exact absurd e (by simp)
  ·rw[if_neg c] at e;exact .inr ⟨fun z=>c z.symm,e⟩
 refine⟨I.b,I.h,by simp[I.len],fun i s e=>?_,fun i k s t v hik e1 e2 o1 o2 e3 e4=>?_⟩
 ·rcases get i s e with z|⟨_,z⟩
  ·exact .inl z
  ·exact I.at' i s z
 ·rcases get i s e1 with z|⟨_,z⟩
  ·subst z;cases o1
  ·rcases get k t e2 with y|⟨_,y⟩
   ·subst y;cases o2
   ·exact I.sep i k s t v hik z y o1 o2 e3 e4
noncomputable def Jhx(H0 H:Hp)(ls:List Addr):Hp:=fun a=>if a∈ls then H a else H0 a
theorem JbE{Hz:Hp}:∀{ls:List Addr} {dss:List (List D)},dss.length=ls.length->(∀(m:Nat) (a:Addr) (ds:List D),ls[m]?=some a->dss[m]?=some ds->∃xs,Hz a=some (.lst xs)/\RDL K C Hz xs ds)->RDL K C Hz (ls.map V.ref) (dss.map .lst)
 | [],[],_,_=>.nil
 | [],_::_,h,_=>by simp at h
 | _::_,[],h,_=>by simp at h
 | a::ls,ds::dss,h,f=>by obtain⟨xs,h1,h2⟩:=f 0 a ds rfl rfl;exact .cons (.mkL h1 h2) (JbE (by simpa using h) fun m a ds e1 e2=>f (m+1) a ds (by simpa using e1) (by simpa using e2))
theorem Grp.done(I:EnvR K C B H0 H σ E)(g:Grp K C B H0 H σ E j c ks dss l ls)(hj:j<E.length):SStep B H0 (Jhx H0 H ls) H/\EnvR K C B (Jhx H0 H ls) H σ (E.set j (.od ks (dss.map .lst))):=by
 have out:∀{a:Addr},a∉ls->Jhx H0 H ls a=H0 a:=fun {a} h=>if_neg h
 have inn:∀{a:Addr},a∈ls->Jhx H0 H ls a=H a:=fun {a} h=>if_pos h
 have z:Same H0 (Jhx H0 H ls):=fun a o e=>by
  by_cases c:a∈ls
  ·rw[inn c];exact I.h a o e
  ·rw[out c];exact e
 have i:Same (Jhx H0 H ls) H:=fun a o e=>by
  by_cases c:a∈ls
  ·rw[inn c] at e;exact e
  ·rw[out c] at e;exact I.h a o e
 have ln:l∉ls:=(QX.mp g.nd).1;refine⟨⟨I.b,z,fun a o e=>?_,i⟩,I.b,i,by simp[I.len],fun k s e=>?_,fun k m s t v hkm e1 e2 o1 o2 e3 e4=>?_⟩
 ·by_cases c:a∈ls
  ·exact .inr (.inl (g.there (Qc _ c)).choose_spec.2.2.2)
  ·rw[out c] at e;exact .inl e
 ·rw[Q5] at e
  by_cases c:j=k
  ·subst c;rw[if_pos rfl,if_pos hj] at e;have e':=QH e;subst e';refine .inr ⟨_,g.at',l,ls.map V.ref,rfl,g.dict,by rw[out ln];exact g.l0,g.lb,by rw[Qm,g.len2];exact g.len,JbE g.len2 fun m a ds q1 q2=>?_⟩;obtain⟨_,xs,h1,_,_,h4⟩:=g.lists m a ds q1 q2;exact⟨xs,by rw[inn (QC q1)];exact h1,h4.mono z⟩
  ·rw[if_neg c] at e;rcases I.at' k s e with y|⟨v,q1,q2⟩
   ·exact .inl y
   ·refine .inr ⟨v,q1,?_⟩
    cases s with
    | no=>trivial
    | sh d=>exact RD.mono z q2
    | bo es=>obtain⟨l',ys,p1,p2,p3⟩:=q2;exact⟨l',ys,p1,p2,p3.mono z⟩
    | bd ks es=>obtain⟨l',ys,p1,p2,p3,p4⟩:=q2;exact⟨l',ys,p1,p2,p3,p4.mono z⟩
    | bt ks es=>obtain⟨l',ys,p1,p2,p3,p4⟩:=q2;exact⟨l',ys,p1,p2,p3,p4.mono z⟩
    | own es=>obtain⟨l',ys,p1,p2,p3,p4,p5⟩:=q2;subst p1;have:=g.own k _ l' e rfl q1;exact⟨l',ys,rfl,p2,by rw[out fun m=>this (Qc _ m)];exact p3,p4,p5.mono z⟩
    | od ks es=>obtain⟨l',ys,p1,p2,p3,p4,p5,p6⟩:=q2;subst p1;have:=g.own k _ l' e rfl q1;exact⟨l',ys,rfl,p2,by rw[out fun m=>this (Qc _ m)];exact p3,p4,p5,p6.mono z⟩
    | ot ks es=>obtain⟨l',ys,p1,p2,p3,p4,p5,p6⟩:=q2;subst p1;have:=g.own k _ l' e rfl q1;exact⟨l',ys,rfl,p2,by rw[out fun m=>this (Qc _ m)];exact p3,p4,p5,p6.mono z⟩
 ·have get:∀(i:Nat) (s:Sl),(E.set j (Sl.od ks (dss.map .lst)))[i]?=some s->i=j\/(i≠j/\E[i]?=some s):=fun i s e=>by
   rw[Q5] at e
   by_cases c:j=i
   ·exact .inl c.symm
   ·rw[if_neg c] at e;exact .inr ⟨fun z=>c z.symm,e⟩
  rcases get k s e1 with y1|⟨n1,y1⟩
  ·subst y1;rcases get m t e2 with y2|⟨n2,y2⟩
   ·exact hkm y2.symm
   ·rw[g.at'] at e3;have e3':=QH (QH e3);subst e3';exact g.own m t l y2 o2 e4 Qe
  ·rcases get m t e2 with y2|⟨n2,y2⟩
   ·subst y2;rw[g.at'] at e4;have e4':=QH (QH e4);subst e4';exact g.own k s l y1 o1 e3 Qe
   ·exact I.sep k m s t v hkm y1 y2 o1 o2 e3 e4
theorem JqB{wi:TI}{g:TG}{it:En->Option (List LE.D)}{p:Pt}{tk tv:TE}{ek ev:Ev}(hi:SI K C false wi it)(hg:SGJ K C j g p)(hk:SE K C tk ek)(hv:SE K C tv ev) :
 SS K C (JmM wi g (ZB (tBM K "list" WX (JfH (Zp j) tk (JmN Wl)) (U9 tv Wl)))) (JmU it p j ek ev):=by
 intro B H0 H σ E o D I e f;unfold JmU at e;split at e
 ·next h =>
  obtain⟨ds,e1,e⟩:=bind_some e;split at e
  ·next hz =>
   obtain⟨⟨E',ks,dss⟩,e2,e⟩:=bind_some e;split at e
   ·next hjl =>
    cases e;refine hi B H0 H σ E ds _ I e1 fun J H1 H1' s1 ok=>?_
    rw[if_neg (by simp)] at ok;have I1:=I.step s1;rcases I1.at' j _ h with y|⟨v,h1,l,xs,rfl,hl,hl0,hlb,_,rx⟩
    ·cases y
    have hx:xs=[]:=Qz (by have:=rx.1;simpa using this);subst hx
    have G0:Grp K C B H1 H1' σ (E.set j .no) j 0 [] [] l []:=⟨h1,hl,hl0,hlb,rfl,rfl,Qn _,fun m a ds q=>by simp at q,by simp,fun i s a q o q' m=>by
     rw[Q5] at q
     by_cases c:j=i
     ·rw[if_pos c] at q
      by_cases hl:j<E.length
      ·rw[if_pos hl] at q;have q':=QH q;rw[<- q'] at o;exact absurd o Qx
      ·rw[if_neg hl] at q;exact absurd q (by simp)
     ·rw[if_neg c] at q;have:a=l:=by simpa using m
      subst this;exact I1.sep j i _ s (.ref a) c h q rfl o h1 q'⟩
    refine⟨fun i k σ' H'=>k=ds.length-i/\i<=ds.length/\∃H0' E1 ks1 dss1 l ls,EnvR K C B H0' H' σ' E1/\SStep B H1 H0' H'/\Grp K C B H0' H' σ' E1 j i ks1 dss1 l ls/\WP p ek ev (ds.drop i) E1 ks1 dss1=some (E',ks,dss),
     ⟨ds.length,by simp,GJ _,H1,E.set j .no,[],[],l,[],I1.unslot j,.refl (I.b.trans s1.h) s1.i,G0,e2⟩,?_⟩
    rintro i k σ' H' ⟨rfl,hi',H0',E1,ks1,dss1,l,ls,I',st,G,er⟩;have stop:=ok H0' H' st
    by_cases hlt:i<ds.length
    ·have hd:ds[i]?=some ds[i]:=by simp[hlt]
     obtain⟨go,yl⟩:=stop.1 i _ hd;refine .inr ⟨go,fun σ2 H2=>∃H0' E1 ks1 dss1 l ls,EnvR K C B H0' H2 σ2 E1/\SStep B H1 H0' H2/\Grp K C B H0' H2 σ2 E1 j (i+1) ks1 dss1 l ls/\WP p ek ev (ds.drop (i+1)) E1 ks1 dss1=some (E',ks,dss),fun σ2 H2 h=>⟨ds.length-(i+1),by omega,rfl,hlt,h⟩,fun x H2 y=>?_⟩;obtain⟨H02,st2,rx⟩:=yl x H2 y;rw[Lp hlt,WP] at er;obtain⟨E2,b1,er⟩:=bind_some er;obtain⟨n,b2,er⟩:=bind_some er;obtain⟨s,b3,er⟩:=bind_some er
     obtain⟨dv,b4,er⟩:=bind_some er;obtain⟨sn,b5,b6⟩:=bind_some b2;have b7:=Vp b6;subst b7;have ss2:SStep B H0' H02 H2:=st2.ss I'.b;refine hg B H02 H2 σ' E1 E2 x _ _ (I'.step st2) rx b1 fun σ2 I2 lf=>?_
     exact Jjb hk hv I2 ((G.step st2).left lf) (by omega) b5 b3 b4 fun H03 H3 ls' ss I3 G3=>⟨H03,E2,_,_,l,ls',I3,(st.trans ss2).trans ss,G3,er⟩
    ·have hd:ds.drop i=[]:=List.drop_eq_nil_of_le (by omega)
     have hin:i=ds.length:=by omega
     rw[hd,WP] at er;have er':=QH er;cases er';obtain⟨d1,d2⟩:=G.done I' hjl;refine .inl ⟨by rw[hin];exact stop.2,f σ' _ H' (((s1.ss I.b).trans st).trans d1) d2⟩
   ·cases e
  ·cases e
 ·cases e
end
end LE

namespace L2
open PySem PySem.Spec PyProof.Rows
noncomputable def UL:List Int->List Int->Bool
 | [],_=>true
 | _::_,[]=>false
 | x::xs,y::ys=>if x=y then UL xs ys else decide (x<=y)
theorem Wu(x y:Int)(xs ys:List Int):UL (x::xs) (y::ys)=if x=y then UL xs ys else decide (x<=y):=rfl
theorem Jj3(A:Around)(s:Shared)(a:Int)(t:Tok)(c:Int)(u:Tok)(prog:Program)(w:World)(E:Value->Shared->Prop)(Q:Value->Shared->Prop)(h:Q (.bool (decide (a<=c))) s) :
 wpAny (model prog w) A (richCompare .LtE (.int a t) (.int c u)) Q E s :=
 (PyProof.Rows.le_int h:wpAny (model prog w) A (compareOp .LtE (.int a t) (.int c u)) Q E s)
section
open PySem.SeqAt
open PySem.AutoSeq1 (wpAny_loadPart')
open PySem.MeetsSeq PySem.MeetsSeq2 PySem.MeetsSeq3
theorem Ja1(l b:Addr)(items items2:Array Value)(n n2:Nat)(dd dd2:Option Addr)(sl sl2:Array (Option Value))(ns ms:List Int)(hi:IntsAre items.toList ns)(hj:IntsAre items2.toList ms) :
 Meets (Builtin.«tuple.__le__» ⟨[.ref l,.ref b],[]⟩)
  (fun _ R s=>s.heap.get? l=some { cls:=.type "tuple",dict:=dd,data:=.seq items n,slots:=sl }/\s.heap.get? b=some { cls:=.type "tuple",dict:=dd2,data:=.seq items2 n2,slots:=sl2 } ∧
   R (.ok (.ret (.bool (UL ns ms)))) s) :=
 .of_wp fun prog w A R s h=>by
  obtain⟨hp,g,d,tk,os⟩:=s;obtain⟨hl,hb,h⟩:=h;have f2:=AutoSeq1.sub_tuple_tuple;have z1:items.size=ns.length:=by rw[<- hi.length];simp
  have z2:items2.size=ms.length:=by rw[<- hj.length];simp
  wp_walk using K9 hl,K9 hb,wpAny_forIn_list _ (fun rest b s'=>b.1=none/\s'=⟨hp,g,d,tk,os⟩/\∃(vs ws:List Value) (ns' ms':List Int),rest=vs.zip ws ∧
   IntsAre vs ns'/\IntsAre ws ms'/\ns'.length+items2.size=ms'.length+items.size/\R (.ok (.ret (.bool (UL ns' ms')))) ⟨hp,g,d,tk,os⟩) _
  case turn =>
   rintro⟨y,x⟩ rest b s' ⟨hb',rfl,vs,ws,ns',ms',hz,hvi,hwi,hlen,hR⟩
   cases hvi with
   | nil=>rw[List.zip_nil_left] at hz;cases hz
   | cons a t hvi' =>
    cases hwi with
    | nil=>rw[List.zip_nil_right] at hz;cases hz
    | cons c u hwi' =>
     rw[List.zip_cons_cons] at hz
     injection hz with hyx hrest
     injection hyx with hy hx
     subst hy hx;rw[Wu] at hR;simp only[Qp] at hlen;obtain⟨e,he,hiff⟩:=HT.JiU A.in1 ⟨hp,g,d,tk,os⟩ a t c u;refine Qa (he prog w _ _ ?_)
     cases e with
     | true=>rw[if_pos (hiff.mp rfl)] at hR;wp_walk;exact⟨rfl,rfl,_,_,_,_,hrest,hvi',hwi',by omega,hR⟩
     | false=>rw[if_neg (fun q=>absurd (hiff.mpr q) Qx)] at hR;have hri:=Jj3 A.in1 ⟨hp,g,d,tk,os⟩ a t c u prog w;wp_walk using hri;exact⟨_,rfl,by simpa using hR⟩
  case fin =>
   rintro⟨b1,b2⟩ s' ⟨hb',rfl,vs,ws,ns',ms',hz,hvi,hwi,hlen,hR⟩;simp only at hb';subst hb'
   have hv:UL ns' ms'=decide (items.size<=items2.size):=by
    cases hvi with
    | nil=>simp only[G8] at hlen;rw[show UL [] ms'=true from rfl];exact(decide_eq_true (by omega)).symm
    | cons a t hv =>
     cases hwi with
     | nil=>simp only[G8,Qp] at hlen;rw[show UL (_::_) []=false from rfl];exact(decide_eq_false (by omega)).symm
     | cons c u hw=>rw[List.zip_cons_cons] at hz;cases hz
   rw[hv] at hR;wp_walk;exact⟨_,rfl,by simpa [Builtin.Tuple.tupleCompareSizes] using hR⟩
  case h=>exact⟨rfl,rfl,items.toList,items2.toList,ns,ms,rfl,hi,hj,by omega,h⟩
end
section
variable{prog:Program}{w:World}{A:Around}{E:Value->Shared->Prop}{s:Shared}
theorem Jfa{l b:Addr}{items items2:Array Value}{ns ms:List Int}{Q:Value->Shared->Prop}(hl:s.heap.IsTuple l items)(hb:s.heap.IsTuple b items2)(hi:IntsAre items.toList ns)(hj:IntsAre items2.toList ms)
 (hu:A.units<cLine) (h:Q (.bool (UL ns ms)) s):wpAny (model prog w) A (compareOp .LtE (.ref l) (.ref b)) Q E s:=by
 obtain⟨⟨cls,dd,data,sl⟩,ho,hc,n,hd⟩:=id hl;obtain⟨⟨cls2,dd2,data2,sl2⟩,ho2,hc2,n2,hd2⟩:=id hb;simp only at hc hd hc2 hd2;subst hc hd hc2 hd2;exact richCompare_meets_room (op:=.LtE) ⟨_,ho,rfl⟩ ⟨_,ho2,rfl⟩ PySem.F.slot_tuple_le PySem.F.entry_tuple_le (PySem.F.args_tuple_le_2 _ _) (Ja1 l b items items2 n n2 dd dd2 sl sl2 ns ms hi hj)
  ⟨ho,ho2,show Value.bool (UL ns ms)≠Value.notImplemented/\Q (.bool (UL ns ms)) s from⟨(fun x=>nomatch x),h⟩⟩ hu
end
noncomputable def Jqh(K:Frag):R2:=fun x y H Q=>∃a b ns ms,x=.ref a/\y=.ref b/\SqT K H a (ns.map V.int)/\SqT K H b (ms.map V.int)/\Q (.bl (UL ns ms)) H
theorem Jox{X:Cx}{K:Frag}(hK:X.K=K)(hu:X.A.units<cLine):OpR X (compareOp .LtE) (Jqh K):=by subst hK;intro pins s σ H x y v u Q I rx ry h;obtain⟨a,b,ns,ms,rfl,rfl,ha,hb,q⟩:=h;cases rx;cases ry;obtain⟨its,r1,p1,_⟩:=I.tuple ha;obtain⟨its2,r2,p2,_⟩:=I.tuple hb;have i1:IntsAre its.toArray.toList ns:=Y1 r1;have i2:IntsAre its2.toArray.toList ms:=Y1 r2;exact Jfa p1 p2 i1 i2 hu ⟨.bl (UL ns ms),H,I,rfl,q⟩
end L2
namespace LE
open PySem L2 LR
noncomputable def JiY:Sl->Sl->Option Sl
 | .sh (.tup ds),.sh (.tup es)=>(ints? ds).bind fun ns=>(ints? es).map fun ms=>.sh (.bl (UL ns ms))
 | _,_=>none
section
variable{K:Frag}{C:Addr}
theorem RDL.ints'{H:Hp}:∀{xs:List V} {ns:List Int},RDL K C H xs (ns.map .int)->xs=ns.map V.int
 | [],[],_=>rfl
 | [],_::_,r=>by have:=r.1;simp at this
 | _::_,[],r=>by have:=r.1;simp at this
 | x::xs,n::ns,r=>by have h1:RD K C H x (.int n):=r.head;rw[RD.intI h1,RDL.ints' (ns:=ns) r.tail];rfl
theorem Jp6:OpS K C (Jqh K) JiY:=by
 intro Hs H0 H x y a b c Q i hs ra rb e q;unfold JiY at e;split at e
 ·obtain⟨ns,e1,e⟩:=bind_some e;obtain⟨ms,e2,e⟩:=Gb.mp e;subst e;have h1:=Y5 e1;have h2:=Y5 e2;subst h1 h2;obtain⟨p,xs,rfl,s1,r1⟩:=RD.tupI ra;obtain⟨p',ys,rfl,s2,r2⟩:=RD.tupI rb;have z1:=RDL.ints' r1;have z2:=RDL.ints' r2;subst z1 z2;exact⟨p,p',ns,ms,rfl,rfl,i.seqT s1,i.seqT s2,q _ _ _ (.refl i) (.bl _)⟩
 ·cases e
theorem Jlm(a b c d:Int):JiY (.sh (.tup [.int a,.int b])) (.sh (.tup [.int c,.int d]))=some (.sh (.bl (if a=c then decide (b<=d) else decide (a<=c)))):=by
 show some (Sl.sh (.bl (UL [a,b] [c,d])))=_;rw[Wu];split
 ·rw[Wu];split
  ·next h=>rw[h];simp[UL]
  ·rfl
 ·rfl
end
end LE

namespace L2
open PySem PySem.Spec PyProof.Rows
section
open PySem.SeqAt
open PySem.AutoSeq1 (wpAny_loadPart')
open PySem.MeetsSeq PySem.MeetsSeq2 PySem.MeetsSeq3
end
section
variable{prog:Program}{w:World}{A:Around}{E:Value->Shared->Prop}{s:Shared}
end
end L2
namespace LE
open PySem L2 LR
section
variable{K:Frag}{C:Addr}
end
end LE

namespace L2
open PySem PySem.Spec PyProof.Rows
noncomputable def JmY(i j:Int):Prop:=i.natAbs<=10 ^ 200/\j.natAbs<=10 ^ 200
theorem JfT{i:Int}(h:i.natAbs<=10 ^ 200):Ry i<=2 ^ 20:=by
 unfold Ry;split
 ·exact GJ _
 ·next hz =>
  have h0:i.natAbs≠0:=fun z=>hz (by simp;omega)
  have h1:i.natAbs.log2<1000:=by rw[Nat.log2_lt h0];exact G1 h (by decide +kernel)
  have:(1000:Nat)<=2 ^ 20:=by decide +kernel
  omega
theorem JgE{X:Cx}:OpR X (binaryOp .Mult) (rI JmY fun i j=>.int (i*j)):=opI fun _ _ _ _ _ _ _ hc q=>mul_int q (IntMulOk.of_bits (JfT hc.1) (JfT hc.2))
end L2
namespace LE
open PySem L2 LR
noncomputable def VT(a:Int):Bool:=Nat.ble a.natAbs (10 ^ 200)
noncomputable abbrev Jdl:=fIc (fun a b=>VT a && VT b) fun a b=>.int (a*b)
section
variable{K:Frag}{C:Addr}
theorem JjB:OpS K C (rI JmY fun i j=>.int (i*j)) Jdl:=JhV (fun i j h=>by simp only[QM,VT,KH] at h;exact h) fun _ _ _=>.int _
theorem Ji0{a b:Int}(h:a.natAbs<=10 ^ 200/\b.natAbs<=10 ^ 200):Jdl (.sh (.int a)) (.sh (.int b))=some (.sh (.int (a*b))):=by show(if (VT a && VT b)=true then _ else _)=_;rw[if_pos];rw[QM];exact⟨KH.mpr h.1,KH.mpr h.2⟩
end
end LE

namespace LE
open PySem L2 LR
section
variable{K:Frag}{C:Addr}{W:XK}{t:TA}{ev:En->Option (List Sl)}{ts us:TS}{x:Xv}{H:Hp}
end
end LE

namespace PySem
open PySem.Calls PyProof.Rows PyProof.V PySem.Spec
section
variable{prog:Program}{w:World}{A:Around}{E:Value->Shared->Prop}{s:Shared}{r a:Addr}{xs:Array Value}{n:Nat}
end
end PySem
namespace L2
open PySem PySem.Spec PyProof.Rows
end L2
namespace LE
open PySem L2 LR
section
variable{K:Frag}{C:Addr}
end
end LE

namespace L2
open PySem PySem.Spec PyProof.Rows PySem.Calls
section
variable{X:Cx}
end
end L2
namespace L2
open PySem PySem.Spec PyProof.Rows PySem.Calls
section
variable{X:Cx}{es:List Expr}{t:TA}{x:Str}{j:Nat}{p:Pos}
end
end L2

namespace LE
open PySem L2 LR
section
variable{K:Frag}{C:Addr}{te:TE}{ea:Ev}{tl th:TO}{el eh:Option Ev}{m:Bool}
end
end LE

namespace L2
open PySem PySem.Spec PyProof.Rows PySem.Calls
noncomputable def JgO:V->List V->Hp->VK->Prop:=fun x vs H Q=>∃(l:Addr) (ns:List Int) (b:Int),x=.ref l/\vs=[.int b]/\H l=some (.lst (ns.map V.int))/\Q (.int (ns.count b:Nat)) H
theorem Zr(b:Int):∀{vs:List Value} {ns:List Int},IntsAre vs ns->vs.countP (isInt b)=ns.count b
 | _,_,.nil=>rfl
 | _,_,.cons n t h=>by rw[List.countP_cons,Zr b h,Q2];rfl
section
variable{X:Cx}
theorem JhU:MtR X "list.count" JgO:=by
 intro pins s σ H x vs v us Q I rx rv h;obtain⟨l,ns,b,rfl,rfl,hH,q⟩:=h;cases rx;obtain⟨u,rfl,hu⟩:=rv.one;obtain⟨t,rfl⟩:=hu;obtain⟨z,its,n,r,hl,e⟩:=I.lstM hH;have ia:=Y1 r;refine call_meets F.slot_list_count ⟨_,e,rfl⟩ F.entry_list_count (F.args_list_count_2 _ _) (MeetsSeq.list_count l its.toArray n (.int b t) (isInt b) (fun y hy=>eq_isInt b t ia y (by simpa using hy))) ⟨e,?_⟩;refine⟨.int (ns.count b:Nat),H,I.tok _,⟨s.toks,?_⟩,q⟩;show Value.int ((its.countP (isInt b):Nat):Int) s.toks=_
 rw[Zr b ia]
end
end L2
namespace LE
open PySem L2 LR
noncomputable def eMI(f:List Int->Int->Option Int)(o a:Ev):Ev:=fun E=>(o E).bind fun s=>(lst? s).bind fun ds=>(ints? ds).bind fun ns=>(a E).bind fun y=>(int? y).bind fun b=>(f ns b).map fun i=>.sh (.int i)
noncomputable def Jdk(ns:List Int)(b:Int):Option Int:=some (ns.count b:Nat)
section
variable{K:Frag}{C:Addr}{to te:TE}{eo ea:Ev}{Hs H0 H:Hp}{v:V}
theorem JqQ{rm:V->List V->Hp->VK->Prop}{f:List Int->Int->Option Int}(hm:∀(l:Addr) (ns:List Int) (b:Int) (i:Int) (H:Hp) (Q:VK),H l=some (.lst (ns.map V.int))->f ns b=some i->Q (.int i) H->rm (.ref l) [.int b] H Q)
 (ho:SE K C to eo) (ha:SE K C te ea):SE K C (tBM K "list" rm to (U9 te Wl)) (eMI f eo ea):=by
 intro B H0 H σ E r Q I e q;obtain⟨s,e1,e⟩:=bind_some e;obtain⟨ds,e2,e⟩:=bind_some e;obtain⟨ns,e3,e⟩:=bind_some e;obtain⟨y,e4,e⟩:=bind_some e;obtain⟨b,e5,e⟩:=bind_some e;obtain⟨i,e6,rfl⟩:=map_some e;refine ho B H0 H σ E s _ I e1 fun x H1 H1' s1 r1=>?_
 obtain⟨l,xs,rfl,hl,rl⟩:=r1.lst s1.i e2;refine⟨.inl ⟨rfl,_,.of hl⟩,?_⟩;refine ha B H1 H1' σ E y _ (I.step s1) e4 fun u H2 H2' s2 r2=>?_
 rw[Vp e5] at r2;cases RD.intI r2;rw[Y5 e3] at rl;have hx:=RDL.ints rl;subst hx;exact hm l ns b i H2' Q (s2.h _ _ hl) e6 (q _ _ _ (s1.trans s2) (RD.int i))
theorem Jka(ho:SE K C to eo)(ha:SE K C te ea):SE K C (tBM K "list" JgO to (U9 te Wl)) (eMI Jdk eo ea) :=
 JqQ (fun l ns b i H Q h e q=>by cases e;exact⟨l,ns,b,rfl,rfl,h,q⟩) ho ha
end
end LE

namespace L2
open PySem PySem.Spec PyProof.Rows PySem.Calls
section
variable{X:Cx}
end
end L2
namespace LE
open PySem L2 LR
section
variable{K:Frag}{C:Addr}
end
end LE

namespace PySem
open AutoSeq1 (wpAny_loadPart')
section
variable{prog:Program}{w:World}{A:Around}{E:Value->Shared->Prop}{s:Shared}
end
section
variable{prog:Program}{w:World}{A:Around}{E:Value->Shared->Prop}{s:Shared}
end
section
variable{prog:Program}{w:World}{A:Around}{E:Value->Shared->Prop}{s:Shared}{b:Bool}{a e it:Addr}{xs:Array Value}
end
end PySem
namespace L2
open PySem PySem.Spec PyProof.Rows
end L2
namespace LE
open PySem L2 LR
section
variable{K:Frag}{C:Addr}{m:Bool}
end
end LE

namespace L2
open PySem PySem.Spec PyProof.Rows PySem.Calls
section
variable{X:Cx}{K:Frag}{e:Expr}{te:TE}{p2 pos:Pos}
end
end L2
namespace LE
open PySem L2 LR
section
variable{K:Frag}{C:Addr}{te:TE}{ea:Ev}
end
end LE

namespace LE
open PySem L2 LR
section
variable{K:Frag}{C:Addr}
end
end LE

namespace L2
open PySem PySem.Spec PyProof.Rows
section
variable{X:Cx}{tg iter elt:Expr}{ifs:List Expr}{sc:Scope}{cl:List (Str×Addr)}{y:Str}{N':List Str}{imp:List (Option Nat)}{pos:Pos}{wi:TI}{g:TG}{tt:TT}{te:TE}
end
end L2

namespace L2
open PySem PySem.W PyProof.Rows
section
variable{N:Nat}{lt:Nat->Nat->Bool}{cmp:Nat->Nat->(Bool->Shared->Prop)->Shared->Prop}{I:Shared->Prop}
end
end L2

namespace L2
open PySem PySem.W PyProof.Rows
section
variable{prog:Program}{w:World}{A:Around}{E:Value->Shared->Prop}{s:Shared}
end
end L2

namespace L2
open PySem PySem.W PyProof.Rows
noncomputable abbrev PrI:=Int×Int
section
variable{prog:Program}{w:World}{A:Around}{E:Value->Shared->Prop}{s:Shared}
end
end L2

namespace L2
open PySem PySem.Spec PySem.W PyProof.Rows
section
variable{prog:Program}{w:World}{A:Around}{E:Value->Shared->Prop}{s:Shared}
end
section
variable{X:Cx}
end
end L2

namespace L2
open PySem PySem.Spec PySem.W PyProof.Rows
section
variable{prog:Program}{w:World}{A:Around}{E:Value->Shared->Prop}{s:Shared}{it d v:Addr}{i ep:Nat}{es:Array DictEntry}
end
end L2

namespace L2
open PySem PySem.Spec PySem.W PyProof.Rows
noncomputable abbrev pk(p:PrI):List Key:=LE.dtK p
end L2

namespace L2
open PySem PySem.Spec PySem.W PyProof.Rows
end L2
namespace LE
open PySem L2 LR
section
variable{K:Frag}{C:Addr}{Hs H0 H:Hp}
end
section
variable{K:Frag}{C:Addr}{Hs H0 H:Hp}{td ty te tk1 tk2:TE}{ed ek ea k1 k2:Ev}
end
end LE

namespace LE
open PySem L2 LR
section
variable{K:Frag}{C:Addr}
end
end LE

namespace LE
open PySem L2 LR
section
variable{X:Cx}
end
section
variable{K:Frag}{C:Addr}
end
end LE

namespace L2
open PySem
noncomputable def Ris(xs:Array Nat):Prop:=xs.toList.Pairwise (·<·)
theorem Ris.lt{xs:Array Nat}(r:Ris xs){i j:Nat}(h:i<j)(hj:j<xs.size):xs[i]'(by omega)<xs[j]:=by
 have:=Lq.mp r i j (by simp;omega) (by simpa using hj) h
 simpa using this
theorem JeL{xs:Array Nat}(r:Ris xs)(j:Nat):∀(fuel lo hi:Nat),hi-lo<=fuel->lo<=hi->hi<=xs.size->(∀i,(h:i<xs.size)->i<lo->xs[i]<j)->(∀i,(h:i<xs.size)->hi<=i->j<=xs[i]) ->
 ∃p,RM xs j fuel lo hi=p/\p<=xs.size/\(∀i,(h:i<xs.size)->i<p->xs[i]<j)/\∀i,(h:i<xs.size)->p<=i->j<=xs[i]
 | 0,lo,hi,hf,h1,h2,ha,hb=>⟨lo,rfl,by omega,ha,fun i hi' hp=>hb i hi' (by omega)⟩
 | fuel+1,lo,hi,hf,h1,h2,ha,hb=>by
  unfold RM
  by_cases c:lo<hi
  ·rw[if_pos c];have hm:(lo+hi) / 2<xs.size:=by omega
   have e:xs.getD ((lo+hi) / 2) j=xs[(lo+hi) / 2]:=by simp[Array.getD,hm]
   dsimp only;rw[e]
   by_cases d:xs[(lo+hi) / 2]<j
   ·rw[if_pos d];refine JeL r j fuel _ _ (by omega) (by omega) h2 (fun i h hi'=>?_) hb;rcases Lm i ((lo+hi) / 2) with q|q
    ·exact GL (r.lt q hm) d
    ·have:i=(lo+hi) / 2:=by omega
     subst this;exact d
   ·rw[if_neg d];refine JeL r j fuel _ _ (by omega) (by omega) (by omega) ha (fun i h hi'=>?_);rcases Lm ((lo+hi) / 2) i with q|q
    ·exact Gn (LW.mp d) (GS (r.lt q h))
    ·have:i=(lo+hi) / 2:=by omega
     subst this;exact LW.mp d
  ·rw[if_neg c];exact⟨lo,rfl,by omega,ha,fun i hi' hp=>hb i hi' (by omega)⟩
theorem bel{xs:Array Nat}(r:Ris xs)(j:Nat):Q8 xs j<=xs.size/\(∀i,(h:i<xs.size)->i<Q8 xs j->xs[i]<j)/\∀i,(h:i<xs.size)->Q8 xs j<=i->j<=xs[i]:=by obtain⟨p,e,h1,h2,h3⟩:=JeL r j xs.size 0 xs.size (by omega) (by omega) (Qn _) (fun i _ h=>by omega) (fun i h h'=>by omega);have e':Q8 xs j=p:=e;rw[e'];exact⟨h1,h2,h3⟩
theorem Jiw{xs:Array Nat}(r:Ris xs){i:Nat}(hi:i<xs.size):Q8 xs (xs[i]+1)=i+1:=by
 obtain⟨h1,h2,h3⟩:=bel r (xs[i]+1);rcases Mz (Q8 xs (xs[i]+1)) (i+1) with c|c|c
 ·have:=h3 i hi (by omega);omega
 ·exact c
 ·have l:i+1<xs.size:=by omega
  have:=h2 (i+1) l c
  have:=r.lt (i:=i) (j:=i+1) (Gy i) l;omega
theorem Jix{xs:Array Nat}(r:Ris xs):Q8 xs 0=0:=by
 obtain⟨h1,h2,h3⟩:=bel r 0;rcases Nat.eq_zero_or_pos (Q8 xs 0) with c|c
 ·exact c
 ·have:=h2 0 (by omega) c;omega
theorem Jmq{xs:Array Nat}(r:Ris xs){j:Nat}(no:xs[Q8 xs j]?≠some j):Ris (SetTable.insertAt xs (Q8 xs j) j):=by
 obtain⟨h1,h2,h3⟩:=bel r j;unfold Ris;rw[SetTable.toList_insertAt];have r':=r;unfold Ris at r';rw[<- List.take_append_drop (Q8 xs j) xs.toList] at r';obtain⟨ra,rb,rc⟩:=G2.mp r'
 have low:∀x∈xs.toList.take (Q8 xs j),x<j:=fun x hx=>by obtain⟨i,hi,e⟩:=Gh.mp hx;rw[Lk,QE] at hi;rw[List.getElem_take,Rr] at e;rw[<- e];exact h2 i (by omega) (by omega)
 have high:∀x∈xs.toList.drop (Q8 xs j),j<x:=fun x hx=>by
  obtain⟨i,hi,e⟩:=Gh.mp hx;rw[MM,QE] at hi;rw[List.getElem_drop,Rr] at e;have g:=h3 (Q8 xs j+i) (by omega) (by omega);rw[e] at g;rcases Lm j x with q|q
  ·exact q
  ·exfalso
   have ex:x=j:=by omega
   apply no
   have b0:Q8 xs j<xs.size:=by omega
   rw[Kx b0];have g0:=h3 (Q8 xs j) b0 (Qn _);rcases Nat.eq_zero_or_pos i with z|z
   ·subst z;simp only[Nat.add_zero] at e;rw[e,ex]
   ·have:=r.lt (i:=Q8 xs j) (j:=Q8 xs j+i) (by omega) (by omega);rw[e] at this;omega
 refine G2.mpr ⟨ra,QO.mpr ⟨high,rb⟩,fun a ha b hb=>?_⟩;rcases Qh.mp hb with e|e
 ·rw[e];exact low a ha
 ·exact rc a ha b e
noncomputable def Vac(t:SetTable)(j:Nat):Prop:=t.place[Q8 t.place j]?≠some j
theorem Jep{t:SetTable}{j:Nat}(h:∀i,t.slot j≠.live i):Vac t j:=by intro e;refine h (Q8 t.place j) ?_;unfold SetTable.slot;dsimp only;rw[e];simp
theorem Ja8(t:SetTable)(p:SetTable.Probe):(t.advance p).dummy=p.dummy:=by unfold SetTable.advance;split <;> rfl
theorem Zm{t:SetTable}{hashAt:Nat->Int}{h:Int}:∀(fuel:Nat) (p:SetTable.Probe) {j:Nat} {d:Option Nat},(∀x,p.dummy=some x->Vac t x)->MA t hashAt h fuel p=some (.empty j d)->Vac t j/\∀x,d=some x->Vac t x
 | 0,p,j,d,hp,e=>by simp[MA] at e
 | fuel+1,p,j,d,hp,e=>by
  unfold MA at e;split at e
  ·rename_i c
   injection e with e
   injection e with e1 e2
   subst e1 e2;exact⟨Jep fun i q=>(by rw[c] at q;cases q),hp⟩
  ·rename_i c;refine Zm fuel _ (fun x hx=>?_) e;rw[Ja8] at hx
   injection hx with hx
   subst hx;exact Jep fun i q=>by rw[c] at q;cases q
  ·split at e
   ·injection e with e;cases e
   ·exact Zm fuel _ (fun x hx=>hp x (by rwa [Ja8] at hx)) e
theorem Ji6{t:SetTable}{h:Int}{j:Nat}{b:Bool}(e:t.freeSlot h=some (j,b)):Vac t j:=by
 unfold SetTable.freeSlot at e;split at e
 ·rename_i j' d c
  injection e with e
  injection e with e1 _
  unfold SetTable.probe at c;obtain⟨a1,a2⟩:=Zm _ _ (fun x hx=>by simp[SetTable.probeStart] at hx) c
  cases d with
  | none=>simp at e1;subst e1;exact a1
  | some x=>simp at e1;subst e1;exact a2 _ rfl
 ·cases e
noncomputable def TOk(led:Bool)(t:SetTable):Prop:=(t.plain=true->Ris t.place)/\t.led=led
theorem Wi(led:Bool)(t:SetTable)(n:Nat)(h:t.led=led):TOk led (t.standIn n):=⟨fun e=>by simp[SetTable.standIn] at e,h⟩
theorem JkB{led:Bool}{t:SetTable}(h:TOk led t):TOk led { t with plain:=false }:=⟨fun e=>by simp at e,h.2⟩
theorem JmP{led:Bool}{t:SetTable}(h:TOk led t)(es:Array (Int×Value))(k:Int)(x:Value):TOk led (layNew t es k x).2.1:=by
 unfold layNew;split
 ·rename_i j b c;dsimp only;unfold SetTable.orStandIn;split
  ·exact⟨fun e=>Jmq (h.1 (by simpa [RN] using e)) (Ji6 c),by simpa [RN] using h.2⟩
  ·exact Wi _ _ _ (by simpa [RN] using h.2)
 ·exact Wi _ _ _ h.2
theorem Jan(g:Nat->Option Nat):∀l:List Nat,((l.filterMap fun j=>(g j).map (j,·)).map (·.1)).Sublist l
 | []=>.slnil
 | j::l=>by
  rw[Lr]
  cases h:g j with
  | none=>exact(Jan g l).cons _
  | some k=>exact(Jan g l).cons₂ _
theorem JkC{t:SetTable}{mask f m:Nat}{led plain:Bool}{hs:Array Int}{o:Array Nat}(e:Rz mask f m led plain hs=some (t,o)):TOk led t:=by
 unfold Rz at e
 cases c:SetTable.layClean mask hs with
 | none=>rw[c] at e;cases e
 | some ow =>
  rw[c] at e;have e':some _=some (t,o):=e
  injection e' with e'
  injection e' with e1 e2
  subst e1;refine⟨fun _=>?_,rfl⟩;show List.Pairwise _ _;refine List.Pairwise.sublist (Jan _ _) ?_;exact List.pairwise_lt_range
theorem Jih{led:Bool}{t:SetTable}(h:TOk led t)(es:Array (Int×Value))(n:Nat):TOk led (relayAll t es n).2.1:=by
 unfold relayAll;split
 ·rename_i t' o c;dsimp only;split
  ·have:=JkC (show Rz _ _ _ _ _ _=some (t',o) from c);rw[h.2] at this;exact this
  ·exact Wi _ _ _ h.2
 ·exact Wi _ _ _ h.2
theorem Jig(a b:Nat)(led:Bool):TOk led (.fresh a b led):=⟨fun _=>List.Pairwise.nil,rfl⟩
theorem Jaa{α:Type}:∀{l:List α} {i:Nat} (h:i<l.length),(l[i]::l.eraseIdx i).Perm l
 | x::l,0,_=>.refl _
 | x::l,i+1,h=>by have:=Jaa (l:=l) (i:=i) (by simpa using h);exact(List.Perm.swap x (l[i]'(by simpa using h)) _).trans (this.cons x)
theorem JgH{α:Type}(next:Nat->Nat):∀(fuel k:Nat) (left:List α) (out:Array α),left.length=fuel->(RO next fuel k left out).toList.Perm (out.toList++left)
 | 0,k,left,out,h=>by have:left=[]:=Qz h;subst this;simp[RO]
 | fuel+1,k,left,out,h=>by
  unfold RO;have hl:next k % left.length<left.length:=Nat.mod_lt _ (by omega)
  rw[QT hl];dsimp only;refine(JgH next fuel (k+1) _ _ (by rw[Mq hl];omega)).trans ?_;rw[My,GU];refine List.Perm.append_left _ ?_;exact(Jaa hl)
theorem JbB{α:Type}(next:Nat->Nat)(xs:Array α):(pickOrder next xs).toList.Perm xs.toList:=by
 have:=JgH next xs.size 0 xs.toList #[] (by simp)
 simpa [pickOrder] using this
theorem Jbn{prog:Program}{w:World}{A:Around}{E:Value->Shared->Prop}{α:Type}:∀(n:Nat) (xs:List α) (s:Shared) (Q:List α->Shared->Prop),xs.length=n->(∀ys d,ys.Perm xs->Q ys { s with drawn:=d })->wpAny (model prog w) A (drawOrder n xs) Q E s
 | 0,xs,s,Q,hl,h=>by have:xs=[]:=Qz hl;subst this;exact Qf (h [] s.drawn (.refl _))
 | n+1,xs,s,Q,hl,h=>by
  cases xs with
  | nil=>simp at hl
  | cons x xs =>
   show wpAny _ A ((choose .order (x::xs).length) >>= _) Q E s;refine Qa ?_;intro Γ p hΓ;unfold choose;rw[Sem.wp_choose];refine⟨by simp,?_⟩;rw[Sem.wp_pure]
   generalize hi:(model prog w).w.draws Source.order (s.drawn.get Source.order) % (x::xs).length=i
   have hlt:i<(x::xs).length:=by rw[<- hi];exact Nat.mod_lt _ (by simp)
   rw[QT hlt];show wpAny _ A (drawOrder n ((x::xs).eraseIdx i) >>= _) Q E _;refine Qa (Jbn n _ _ _ (by rw[Mq hlt];omega) fun ys d hp=>?_);refine Qf (h ((x::xs)[i]::ys) d ?_);exact(hp.cons _).trans (Jaa hlt)
end L2

namespace L2
open PySem PyProof.Rows
structure SetS (prog:Program) (w:World) (led:Bool) (h:Heap) (a:Addr) (S:Int->Bool) (n:Nat) (o:Obj) (es:Array (Int×Value)) (ep:Nat) (t:SetTable):Prop where
 got:h.get? a=some o
 ex:o.ExactSet
 data:o.data=.set es ep t
 els:ElemsOf (intKind prog w) es.toList
 mem:∀k,S k=true↔∃e∈es.toList,(intKind prog w).is k e.2=true
 few:es.size<scanBound
 fits:t.fits es.size=true
 size:es.size=n
 tok:TOk led t
noncomputable def SetL(prog:Program)(w:World)(led:Bool)(h:Heap)(a:Addr)(S:Int->Bool)(n:Nat):Prop:=∃o es ep t,SetS prog w led h a S n o es ep t
section
variable{prog:Program}{w:World}{A:Around}{E:Value->Shared->Prop}{s:Shared}{led:Bool}{a:Addr}{S:Int->Bool}{n:Nat}
theorem SetL.move{h h':Heap}(x:SetL prog w led h a S n)(e:∀o,h.get? a=some o->h'.get? a=some o):SetL prog w led h' a S n :=
 let ⟨o,es,ep,t,z⟩:=x;⟨o,es,ep,t,{ z with got:=e _ z.got }⟩
theorem SetL.as{h:Heap}{S':Int->Bool}{n':Nat}(x:SetL prog w led h a S n)(e:∀k,S k=S' k)(en:n=n'):SetL prog w led h a S' n':=by have:S=S':=funext e;subst this en;exact x
theorem Jej{h:Heap}{o:Obj}{es:Array (Int×Value)}{ep:Nat}{t:SetTable}(ho:h.get? a=some o)(hex:o.ExactSet)(hd:o.data=.set es ep t){es':Array (Int×Value)}{t':SetTable}{S':Int->Bool}
 (h1:ElemsOf (intKind prog w) es'.toList) (h2:∀k,S' k=true↔∃e∈es'.toList,(intKind prog w).is k e.2=true) (h3:es'.size<scanBound) (h4:t'.fits es'.size=true) (h5:TOk led t') :
 SetS prog w led (h.update a (Obj.putSet es' t')) a S' es'.size { o with data:=.set es' (ep+1) t' } es' (ep+1) t' :=
 ⟨(SetOf_store (knd:=intKind prog w) ho hex hd h1 h2 h3 h4).1,hex,rfl,h1,h2,h3,h4,rfl,h5⟩
theorem Jem{g:Bool->Sem Unit}(hg:∀(b:Bool) (s1:Shared) (Q:Unit->Shared->Prop),Q () s1->wpAny (model prog w) A (g b) Q E s1)
 {o:Obj} {es:Array (Int×Value)} {ep:Nat} {t:SetTable} (ho:s.heap.get? a=some o) (hex:o.ExactSet) (hd:o.data=.set es ep t) {es1:Array (Int×Value)} {t2:SetTable} {S':Int->Bool}
 (h1:ElemsOf (intKind prog w) es1.toList) (h2:∀k,S' k=true↔∃e∈es1.toList,(intKind prog w).is k e.2=true) (h3:es1.size<scanBound) (h4:t2.fits es1.size=true) (h5:TOk led t2) {dm:Bool} {R:Option Bool->Shared->Prop}
 (h:∀h',QB a s.heap h'->SetL prog w led h' a S' es1.size->R (some true) { s with heap:=h' }) :
 wpAny (model prog w) A (storeSet a es1 t2 >>= fun _=>if (!dm && t2.tooFull)=true then
  (g (relayAll t2 es1 (KU es1.size)).2.2 >>= fun _=>storeSet a (relayAll t2 es1 (KU es1.size)).1 (relayAll t2 es1 (KU es1.size)).2.1 >>= fun _=>pure (some true))
  else pure (some true)) R E s:=by
 refine Qa (wpAny_storeSet_of ho hd ?_ (fits_of_scanBound h3));have z:=Jej (prog:=prog) (w:=w) ho hex hd h1 h2 h3 h4 h5;have sb:=Gu s.heap a (Obj.putSet es1 t2);split
 ·have hp:=relayAll_perm t2 es1 (KU es1.size)
  have hf:=relayAll_fits t2 es1 (KU es1.size)
  have hk:=Jih h5 es1 (KU es1.size)
  generalize relayAll t2 es1 (KU es1.size)=T at hp hf hk ⊢
  obtain⟨es2,t3,gv⟩:=T;dsimp only at hp hf hk ⊢;have sz:es2.size=es1.size:=by rw[<- QE,hp.length_eq,QE]
  refine Qa (hg _ _ _ ?_);refine Qa (wpAny_storeSet_of z.got rfl ?_ (fits_of_scanBound (by rw[sz];exact h3)));have z2:=Jej (prog:=prog) (w:=w) (led:=led) (S':=S') (es':=es2) (t':=t3) z.got hex rfl (h1.perm hp) (fun k=>(h2 k).trans ⟨fun⟨e,he,q⟩=>⟨e,hp.mem_iff.mpr he,q⟩,fun⟨e,he,q⟩=>⟨e,hp.mem_iff.mp he,q⟩⟩) (by rw[sz];exact h3) hf hk;rw[sz] at z2;exact Qf (h _ (sb.trans (Gu _ a _)) ⟨_,_,_,_,z2⟩)
 ·exact Qf (h _ sb ⟨_,_,_,_,z⟩)
theorem JmB{k:Int}{tk:Tok}{Q:Bool->Shared->Prop}(hS:SetL prog w led s.heap a S n)(room:n+1<scanBound)
 (h:∀h',QB a s.heap h'->SetL prog w led h' a (fun k'=>S k' || decide (k'=k)) (if S k then n else n+1)->Q (!S k) { s with heap:=h' }) :
 wpAny (model prog w) A (setAddHashed a (.int k tk) ((intKind prog w).hash k)) Q E s:=by
 have key:(intKind prog w).is k (.int k tk)=true:=intKind_is _ _ _ _;obtain⟨o,es,ep,t,z⟩:=hS
 have few1:es.size+1<scanBound:=by rw[z.size];exact room
 unfold setAddHashed setAddHashedIn;refine Gs (Qa (GX z.got z.data z.fits ?_));dsimp only;rw[byScan_of (x:=.int k tk) rfl z.few z.els];simp only[↓reduceIte];unfold setAddByScan;refine Qa (Qa (Kc (Qa (wpAny_setScan_of key z.got z.data z.fits z.els ?_))))
 cases hr:List.findIdx? (fun e=>(intKind prog w).is k e.2) es.toList with
 | some j =>
  dsimp only;obtain⟨hj,hpj,_⟩:=List.findIdx?_eq_some_iff_getElem.mp hr;have yes:S k=true:=(z.mem k).mpr ⟨es.toList[j],MO hj,hpj⟩;refine Qf (Qf ?_)
  have:=h s.heap (RL a s.heap) (SetL.as ⟨o,es,ep,t,z⟩ (fun k'=>by
   cases hk:S k' with
   | true=>rfl
   | false =>
    have:k'≠k:=fun e=>by rw[e,yes] at hk;cases hk
    simp[this]) (by rw[yes];rfl))
  rw[yes] at this;exact this
 | none =>
  dsimp only
  have no:S k=false:=by
   cases hk:S k with
   | false=>rfl
   | true=>obtain⟨e,he,hp⟩:=(z.mem k).mp hk;have:=List.findIdx?_eq_none_iff.mp hr e he;rw[hp] at this;cases this
  have hp:=layNew_perm t es ((intKind prog w).hash k) (.int k tk)
  have hf:=layNew_fits t es ((intKind prog w).hash k) (.int k tk)
  have ht:=JmP z.tok es ((intKind prog w).hash k) (.int k tk)
  generalize layNew t es ((intKind prog w).hash k) (.int k tk)=L at hp hf ht ⊢
  obtain⟨es1,t1,dm,gv⟩:=L;dsimp only at hp hf ht ⊢;rw[My] at hp;have e1:ElemsOf (intKind prog w) es1.toList:=(z.els.push key rfl).perm hp;have m1:=mem_push_iff key z.mem hp;have sz1:es1.size=n+1:=by rw[<- QE,hp.length_eq,Qu,QE,z.size];rfl
  have f1:es1.size<scanBound:=by rw[sz1];exact room
  have gw:∀(b:Bool) {s1:Shared} {Q':Unit->Shared->Prop},Q' () s1->wpAny (model prog w) A (match b with | true=>rule "set.scan.the-table-gave-way" | false=>pure ()) Q' E s1:=fun b s1 Q' hq=>by
   cases b
   ·exact Qf hq
   ·exact Kc hq
  refine Qa (gw _ ?_)
  have fin:∀h',QB a s.heap h'->SetL prog w led h' a (fun k'=>S k' || decide (k'=k)) es1.size->Q true { s with heap:=h' }:=by intro h' sb hS';have:=h h' sb;rw[no] at this;rw[sz1] at hS';exact this hS'
  split
  ·refine Qa ?_;rw[hashByValue_scannable 8 (x:=.int k tk) rfl];refine Qf ?_;refine Jem (led:=led) ?_ z.got z.ex z.data e1 m1 f1 ?_ ?_ ?_
   ·intro b s1 Q' hq;cases b <;> first|exact Qf hq|exact Kc hq
   ·split
    ·exact hf
    ·exact SetTable.fits_plain_off hf
   ·split
    ·exact ht
    ·exact JkB ht
   ·intro h' sb hS';dsimp only;exact Qf (fin h' sb hS')
  ·refine Qa (Qf ?_);simp only[↓reduceIte];refine Jem (led:=led) ?_ z.got z.ex z.data e1 m1 f1 hf ht ?_
   ·intro b s1 Q' hq;cases b <;> first|exact Qf hq|exact Kc hq
   ·intro h' sb hS';dsimp only;exact Qf (fin h' sb hS')
end
section
variable{prog:Program}{w:World}{A:Around}{R:Result->Shared->Prop}{I:Addr}{fp wr:List Addr}{G:Array GenState->Array GenState->Prop}{n:Nat}{P:Nat->Value->Prop}{St:Nat->Shared->Prop}
theorem Jkf{led:Bool}(W:WalksS prog w A.in1 I fp wr G n P St)(a:Addr)(hf:a∉fp)(val:Nat->Int)(hv:∀i v,P i v->∃t,v=.int (val i) t)(hb:n+1<scanBound) :
 ∀(k i:Nat) (s:Shared),n-i=k->i<=n->St i s->SetL prog w led s.heap a (fun k'=>(firstMet val i).any (· == k')) (firstMet val i).length ->
  (∀s',Moved (a::wr) G s s'->SetL prog w led s'.heap a (fun k'=>(firstMet val n).any (· == k')) (firstMet val n).length->R (.ok (.ret .none)) s') ->
  codeAny (model prog w) A (.builtin "set.update.loop" ⟨[.ref a,.ref I],[]⟩) R s:=by
 have hw:a∉wr:=fun h=>hf (W.sub _ h)
 have up:∀b∈wr,b∈a::wr:=fun b hb=>Qc _ hb
 intro k
 induction k with
 | zero =>
  intro i s hk hi st hS hR;obtain rfl:i=n:=by omega
  refine GE MU ?_;rw[Gi LI _];show wpAny _ A.in1 (pyNext (.ref I) >>= _) _ _ s;exact Qa (W.done s _ _ st fun s' hm=>Qf (hR s' (hm.mono up) (hS.move fun o e=>hm.heap a _ hw e)))
 | succ k ih =>
  intro i s hk hi st hS hR;have lt:i<n:=by omega
  refine GE MU ?_;rw[Gi LI _];show wpAny _ A.in1 (pyNext (.ref I) >>= _) _ _ s;refine Qa (W.item i s _ _ lt st fun v s' hP st' hm=>?_);obtain⟨t,rfl⟩:=hv i v hP;have hS':=hS.move (h':=s'.heap) fun o e=>hm.heap a _ hw e
  show wpAny _ A.in1 (holding [Value.int (val i) t] (setAdd a (.int (val i) t)) >>= _) _ _ s';refine Qa (Gs ?_);unfold setAdd;refine Gs (Qa ((intKind prog w).pyHash (k:=val i) (intKind_is _ _ _ _) ?_))
  have room:(firstMet val i).length+1<scanBound:=by have:=firstMet_length_le val i;omega
  refine JmB (s:={ s' with toks:=s'.toks+1 }) hS' room fun h' sb hS2=>?_
  have hS3:=hS2.as (S':=fun k'=>(firstMet val (i+1)).any (· == k')) (n':=(firstMet val (i+1)).length) (fun k'=>by rw[firstMet_succ,step_any]) (by rw[firstMet_succ,step_length]);refine Qf ⟨Gv LI _,ih (i+1) _ (by omega) lt (W.frame _ s' _ _ st' (LG _) fun b hb o e=>?_) hS3 fun s'' hm'' hS''=>?_⟩
  ·rw[sb.2 b (fun h:b=a=>hf (by rw[<- h];exact hb))];exact e
  ·refine hR s'' (Moved.trans W.gtrans ((hm.mono up).then_heap (LG _) fun b o hb e=>?_) hm'') hS'';rw[sb.2 b (fun h:b=a=>hb (by rw[h];exact Qe))];exact e
end
end L2

namespace L2
open PySem PyProof.Rows
noncomputable def Us(w:World):Bool:=!(w.params.followText "set-order")
noncomputable def Vl(led:Bool):Obj:={ cls:=.type "set",dict:=none,data:=.set #[] 0 (.fresh 0 0 led) }
section
variable{prog:Program}{w:World}{A:Around}{E:Value->Shared->Prop}{s:Shared}
theorem Jke(led:Bool){h:Heap}{a:Addr}(e:h.get? a=some (Vl led)):SetL prog w led h a (fun _=>false) 0 :=
 ⟨_,#[],0,_,e,⟨rfl,rfl,rfl⟩,rfl,fun e he=>by simp at he,fun k=>by simp,by decide,by rfl,rfl,Jig 0 0 led⟩
theorem Jel(a:Value){Q:Value->Shared->Prop}(h:Q (.ref s.heap.objs.size) { s with heap:=s.heap.push (Vl (Us w)) }) :
 codeAny (model prog w) A (.call (.builtin "set.__new__") ⟨[.type "set",a],[]⟩) (wants Q E) s:=by
 refine codeAny_of_tree ?_;show wpAny _ A.in1 (checkBuiltinCall "set.__new__" ⟨[.type "set",a],[]⟩ >>= fun _=>again (.builtin "set.__new__" ⟨[.type "set",a],[]⟩)) _ _ s;refine Qa (Ki (F.newCall_set_1 a) (Qf ⟨Gv F.plain_set_new _,GE F.entry_set_new ?_⟩));rw[Gi F.plain_set_new _];unfold Builtin.«set.__new__» Builtin.Frozenset.newClass;have hsub:=sub_set_self;obtain⟨hp,g,d,tk,os⟩:=s;dsimp only;wp_walk;refine KW (Qf ?_)
 dsimp only;simp only[newObj];exact Qa (wpAny_alloc (Qf (Qf h)))
theorem Jhq{l:Addr}{items:Array Value}{ns:List Int}{Q:Value->Shared->Prop}(hh:A.handled=none)(hl:s.heap.IsList l items)(hi:IntsAre items.toList ns)(hb:items.size+1<scanBound)
 (h:∀(h':Heap) (tk:Nat),SetL prog w (Us w) h' s.heap.objs.size (fun k'=>(firstMet (fun i=>ns.getD i 0) items.size).any (· == k')) (firstMet (fun i=>ns.getD i 0) items.size).length ->
  (∀b o,s.heap.get? b=some o->h'.get? b=some o)->Q (.ref s.heap.objs.size) { s with heap:=h',toks:=tk }) :
 wpAny (model prog w) A (call (.type "set") [.ref l]) Q E s:=by
 obtain⟨c,tl,hmro⟩:=K3.mro;have hmade:=K3.made;have hsub:=K3.sub;refine wpAny_call (codeAny_of_tree ?_);show wpAny _ _ (callAny (.type "set") _) _ _ _;refine Qf ⟨Code.quiet_builtin _ (by decide +kernel),GE F.entry_type_call ?_⟩;rw[Around.under_plain (weight_type_call_type "set" [.ref l] []) rfl];have n1:=K3.notType;have n2:=K3.canCreate;have n3:=F.typeCall_set_1 (.ref l)
 repeat (any_goals (first|assumption|wp_step))
 refine Lj (Jel (.ref l) (E:=E) (Q:=fun obj s1=>obj=.ref s.heap.objs.size/\s1={ s with heap:=s.heap.push (Vl (Us w)) }) ⟨rfl,rfl⟩) fun r s1 hr=>?_
 cases r with
 | error e=>exact hr
 | ok fl =>
  cases fl with
  | ret obj =>
   obtain⟨rfl,rfl⟩:=hr;have hS:(s.heap.push (Vl (Us w))).get? s.heap.objs.size=some (Vl (Us w)):=Qi _ rfl;have hT:Shared.TypeIs { s with heap:=s.heap.push (Vl (Us w)) } (.ref s.heap.objs.size) "set":=⟨_,hS,rfl⟩
   have i1:=K3.init.lookup
   have i2:=K3.init.bind (.ref s.heap.objs.size)
   repeat (any_goals (first|assumption|wp_step))
   refine Lj (codeAny_call_builtin (R:=wants (fun r s2=>r=.none/\∃h' tk,s2={ s with heap:=h',toks:=tk } ∧
    SetL prog w (Us w) h' s.heap.objs.size (fun k'=>(firstMet (fun i=>ns.getD i 0) items.size).any (· == k')) (firstMet (fun i=>ns.getD i 0) items.size).length ∧
    (∀b o,s.heap.get? b=some o->h'.get? b=some o)) E) K3.init.plain F.entry_set_init (check_set_init_1 hT ?_)) fun r2 s2 hr2=>?_
   ·obtain⟨ol,hol,hcl,nl,hdl⟩:=hl;obtain⟨oc,od,oda,osl⟩:=ol;simp only at hcl hdl;subst hcl;subst hdl;have hol':(s.heap.push (Vl (Us w))).get? l=some { cls:=.type "list",dict:=od,data:=.seq items nl,slots:=osl }:=Qg _ hol;have b1:=F.sub_list_set;have b2:=F.sub_list_frozenset;have b3:(Value.type "list" == Value.type "dict")=false:=by decide
    have hl1:(s.heap.push (Vl (Us w))).IsList l items:=⟨_,hol',rfl,nl,rfl⟩
    unfold Builtin.«set.__init__» noKeywords Builtin.Frozenset.updateFrom
    generalize hPI:pyIter=PI
    wp_walk
    subst hPI;refine LJ hl1 (Qa (wpAny_runValue ?_));have lS:l<s.heap.objs.size:=Qj hol;have hh3:A.in1.in1.in1.handled=none:=by simp[hh]
    have neI:l≠(s.heap.push (Vl (Us w))).objs.size:=by rw[Ge];exact Qy (GM lS)
    have off:s.heap.objs.size∉[(s.heap.push (Vl (Us w))).objs.size,l]:=by rw[Ge];simp only[Qh,GC,QW,or_false,not_or];exact⟨Qy (Gy _),Ga lS⟩
    refine Jkf (led:=Us w) ((RC hh3 _ l neI items).toS) s.heap.objs.size off (fun i=>ns.getD i 0) (fun i v hv=>IntsAre.int_at hi i v (by rw[Kb];exact hv)) hb (items.size-0) 0 _ (by omega) (GJ _)
     ⟨⟨_,Qi _ rfl,rfl,rfl⟩,(hl1.push _)⟩ (Jke _ (Qg _ hS)) fun s' hm hS'=>?_
    obtain⟨h',g',d',tk',os'⟩:=s';have eg:g'=s.gens:=hm.gens;have ed:d'=s.drawn:=hm.drawn;have eo:os'=s.os:=hm.os;subst eg;subst ed;subst eo;show wpAny _ _ _ _ _ _;refine Qf ?_;show wpAny _ _ (ret Value.none) _ _ _;refine Qf ⟨rfl,h',tk',rfl,hS',fun b o e=>?_⟩;have hb0:=Qj e;refine hm.heap b o ?_ (Qg _ (Qg _ e));rw[Ge];simp only[Qh,GC,QW,or_false,not_or]
    exact⟨Qy hb0,Qy (GM hb0)⟩
   ·cases r2 with
    | error e=>exact hr2
    | ok fl2 =>
     cases fl2 with
     | ret r =>
      obtain⟨rfl,h',tk,rfl,hS',hk'⟩:=hr2
      repeat (any_goals (first|assumption|wp_step))
      exact h _ _ hS' hk'
     | _=>exact hr2.elim
  | _=>exact hr.elim
end
end L2

namespace L2
open PySem PyProof.Rows PySem.W
theorem si_slot_next:Slot "set_iterator" "__next__" "set_iterator.__next__" :=
 .of (owner:="set_iterator") (n:="__next__") (by rw[typeLookup_type,builtinLookup_eq_fast];kernel_rfl) (by decide +kernel) (by decide +kernel) (by decide +kernel) (.inl (by decide +kernel)) (by rw[KO];kernel_rfl)
theorem Wo:entryFor table "set_iterator.__next__"=some Builtin.«set_iterator.__next__»:=entryFor_of_tree (by kernel_rfl)
theorem Jeo:Manifest.owners.lookup (String.ofList ['r','o','t','a','r','e','t','i','_','t','e','s'].reverse)=some Manifest.sig_set_iterator:=by kernel_rfl
theorem WZ(a:Value):argsOk "set_iterator.__next__" ⟨[a],[]⟩:=by
 unfold argsOk;rw[signature?_of (id:="set_iterator.__next__") (n:=['_','_','t','x','e','n','_','_']) (o:=['r','o','t','a','r','e','t','i','_','t','e','s']) (by kernel_rfl) Jeo]
 kernel_rfl
theorem W0:Slot "set_iterator" "__iter__" "set_iterator.__iter__" :=
 .of (owner:="set_iterator") (n:="__iter__") (by rw[typeLookup_type,builtinLookup_eq_fast];kernel_rfl) (by decide +kernel) (by decide +kernel) (by decide +kernel) (.inl (by decide +kernel)) (by rw[KO];kernel_rfl)
theorem JaZ:entryFor table "set_iterator.__iter__"=some Builtin.«dict_keyiterator.__iter__»:=entryFor_alias (id':="dict_keyiterator.__iter__") (by kernel_rfl) rfl (by decide +kernel) (by kernel_rfl)
theorem JcM(a:Value):argsOk "set_iterator.__iter__" ⟨[a],[]⟩:=by
 unfold argsOk;rw[signature?_of (id:="set_iterator.__iter__") (n:=['_','_','r','e','t','i','_','_']) (o:=['r','o','t','a','r','e','t','i','_','t','e','s']) (by kernel_rfl) Jeo]
 kernel_rfl
theorem JaI:entryFor table "set.__iter__"=some Builtin.«frozenset.__iter__»:=entryFor_alias (id':="frozenset.__iter__") (by kernel_rfl) rfl (by decide +kernel) (by kernel_rfl)
end L2

namespace L2
open PySem PyProof.Rows PySem.W
noncomputable def SIt(h:Heap)(I d:Addr)(f:Value)(i n ep:Nat):Prop:=∃o,h.get? I=some o/\o.cls=.type "set_iterator"/\o.data=.fields #[f,.int i 0,.ref d,.int n 0,.int ep 0]
section
variable{prog:Program}{w:World}{A:Around}{E:Value->Shared->Prop}{s:Shared}{I d:Addr}{f:Value}{i n ep:Nat}{es:Array (Int×Value)}{t:SetTable}{o:Obj}
theorem SIt.type{s:Shared}(x:SIt s.heap I d f i n ep):s.TypeIs (.ref I) "set_iterator":=let ⟨o,ho,hc,_⟩:=x;⟨o,ho,hc⟩
theorem SIt.at{h h':Heap}(x:SIt h I d f i n ep)(e:∀o,h.get? I=some o->h'.get? I=some o):SIt h' I d f i n ep:=let ⟨o,ho,r⟩:=x;⟨o,e _ ho,r⟩
theorem JgX{Q:Value->Shared->Prop}(hit:SIt s.heap I d f i n ep)(h:Q (.ref I) s):wpAny (model prog w) A (pyIter (.ref I)) Q E s:=by refine Mx hit.type W0 (QV W0 hit.type JaZ ?_ (JcM _));show wpAny _ _ (ret (.ref I)) _ _ s;exact Qf ⟨_,rfl,"set_iterator",_,hit.type,si_slot_next.lookup,h⟩
theorem JgY{Q:Option Value->Shared->Prop}(hh:A.handled=none){h1:Heap}(hx:∀h',KD I s.heap h'->Q none { s with heap:=h' })(he:KD I s.heap h1) :
 wpAny (model prog w) A.in1 (newExc (.type "StopIteration") [] >>= fun e=>raiseNew e) (fun(fin:Fin) s'=>∃r,fin=.done (.ret r)/\wpAny (model prog w) A (pure (some r)) Q E s') (fun e s'=>wpAny (model prog w) A (isInstance e (.type "StopIteration") >>= fun b=>if b=true then pure none else throw e) Q E s') { s with heap:=h1 }:=by
 refine Qa ?_;simp only[newExc,newTuple];refine Qa (QZ ?_ (by size_fits));refine Qa (m:=firstArgMember _ _) (Ki (a:=Value.none) (by first | rfl | (simp only[firstArgMember];rfl)) ?_);refine QZ ?_ (by size_fits);simp only[raiseNew];refine Qa (wpAny_handled ?_);rw[show A.in1.handled=none from hh];refine Qa (Qf (wpAny_throw ?_));refine Qa (Ke (T:="StopIteration") (b:=true) ⟨_,Qi _ rfl,rfl⟩ Lh ?_)
 exact Qf (hx _ ((he.push _).push _))
theorem JgW{Q:Option Value->Shared->Prop}{sl:Nat}{r:Option (Value×Nat)}(hh:A.handled=none)(hit:SIt s.heap I d (.int sl 0) i es.size ep)(ho:s.heap.get? d=some o)(hd:o.data=.set es ep t)(hf:t.fits es.size=true)
 (nx:∀(A:Around) (E:Value->Shared->Prop) (Q:Option (Value×Nat)->Shared->Prop),Q r s->wpAny (model prog w) A (setNext d sl i ep) Q E s)
 (item:∀x j h',r=some (x,j)->SIt h' I d (.int j 0) (i+1) es.size ep->QB I s.heap h'->Q (some x) { s with heap:=h' })
 (done:r=none->∀h',KD I s.heap h'->Q none { s with heap:=h' }):wpAny (model prog w) A (pyNext (.ref I)) Q E s:=by
 obtain⟨oi,hoi,hci,hdi⟩:=id hit;unfold pyNext;refine Qa (GP (QJ (name:=Q1 "__next__") hit.type si_slot_next (QV si_slot_next hit.type Wo ?_ (WZ _))));unfold Builtin.«set_iterator.__next__»;refine Qa (Qf (Qa (wpAny_fieldsOf hoi hdi ?_)));show wpAny _ _ (setEntries d >>= _) _ _ s;refine Qa (Md ho hd hf ?_);rw[if_neg (by simp)];show wpAny _ _ (setNext d ((sl:Int).toNat) ((i:Int).toNat) ((ep:Int).toNat) >>= _) _ _ s
 rw[GW,GW,GW];refine Qa (nx _ _ _ ?_)
 cases hr:r with
 | some p =>
  obtain⟨x,j⟩:=p;dsimp only;refine Qa (Ks hoi hdi (by simp) ?_);have h1:=QU (MI (·.setIfInBounds 0 (rawInt j))) hoi (Kv (GB hdi _));have d1:=GB hdi (·.setIfInBounds 0 (rawInt j));refine Qa (Ks h1 d1 (by simp) ?_);refine Qf ⟨_,rfl,Qf (item x j _ hr ⟨_,QU _ h1 (Kv (GB d1 _)),?_,?_⟩ ((Gu ..).trans (Gu ..)))⟩
  ·rw[LO,LO];exact hci
  ·rw[GB d1];simp[rawInt]
 | none=>dsimp only;refine Qa (Ks hoi hdi (by simp) ?_);exact JgY hh (done hr) (Gu ..).extBut
theorem Jen{Q:Option Value->Shared->Prop}{T:Addr}{ps:List Nat}{oT:Obj}{cT:Nat}(hh:A.handled=none)(hit:SIt s.heap I d (.ref T) i es.size ep)(ho:s.heap.get? d=some o)(hd:o.data=.set es ep t)(hf:t.fits es.size=true)
 (hT:s.heap.get? T=some oT) (hTd:oT.data=.seq (ps.map fun(i:Nat)=>rawInt i).toArray cT)
 (item:∀p e h',ps[i]?=some p->es[p]?=some e->SIt h' I d (.ref T) (i+1) es.size ep->QB I s.heap h'->Q (some e.2) { s with heap:=h' }) (inn:∀p∈ps,p<es.size)
 (done:ps[i]?=none->∀h',KD I s.heap h'->Q none { s with heap:=h' }):wpAny (model prog w) A (pyNext (.ref I)) Q E s:=by
 obtain⟨oi,hoi,hci,hdi⟩:=id hit;unfold pyNext;refine Qa (GP (QJ (name:=Q1 "__next__") hit.type si_slot_next (QV si_slot_next hit.type Wo ?_ (WZ _))));unfold Builtin.«set_iterator.__next__»;refine Qa (Qf (Qa (wpAny_fieldsOf hoi hdi ?_)));show wpAny _ _ (setEntries d >>= _) _ _ s;refine Qa (Md ho hd hf ?_);rw[if_neg (by simp)];show wpAny _ _ (seqItems? (.ref T) >>= _) _ _ s
 unfold seqItems?;refine Qa (Qa (wpAny_load hT ?_));rw[hTd];refine Qf ?_;dsimp only;rw[GW];have ee:(ps.map fun(i:Nat)=>rawInt i).toArray[i]?=(ps[i]?).map fun(i:Nat)=>rawInt i:=by simp
 rw[ee]
 cases hp:ps[i]? with
 | some p =>
  have hlt:=inn p (QC hp)
  show wpAny _ _ (setNextDrawn d ((p:Int).toNat) ((ep:Int).toNat) >>= _) _ _ s;rw[GW,GW];unfold setNextDrawn;refine Qa (Qa (GX ho hd hf ?_));dsimp only;rw[if_neg (by simp)];refine Qa (Qf ?_);rw[Kx hlt];dsimp only;refine Qf ?_;refine Qa (Ks hoi hdi (by simp) ?_);refine Qf ⟨_,rfl,Qf (item p es[p] _ hp (Kx hlt) ⟨_,QU _ hoi (Kv (GB hdi _)),?_,?_⟩ (Gu ..))⟩
  ·rw[LO];exact hci
  ·rw[GB hdi];simp[rawInt]
 | none =>
  show wpAny _ _ (setField (.ref I) 0 (rawInt 0) >>= _) _ _ s;refine Qa (Ks hoi hdi (by simp) ?_)
  have h1:=QU (MI (·.setIfInBounds 0 (rawInt 0))) hoi (Kv (GB hdi _))
  have d1:=GB hdi (·.setIfInBounds 0 (rawInt 0))
  generalize hg:s.heap.update I (MI (·.setIfInBounds 0 (rawInt 0)))=g at h1
  have sb:QB I s.heap g:=by rw[<- hg];exact Gu ..
  generalize MI (·.setIfInBounds 0 (rawInt 0)) oi=oj at h1 d1
  refine Qa (Ks (s:={ s with heap:=g }) h1 d1 (by simp) ?_);exact JgY (s:=s) hh (done hp) (sb.trans (Gu ..)).extBut
noncomputable def SHas(h:Heap)(d:Addr)(es:Array (Int×Value))(ep:Nat)(t:SetTable):Prop:=∃o,h.get? d=some o/\o.ExactSet/\o.data=.set es ep t
theorem SHas.at{h h':Heap}(x:SHas h d es ep t)(e:∀o,h.get? d=some o->h'.get? d=some o):SHas h' d es ep t:=let ⟨o,ho,r⟩:=x;⟨o,e _ ho,r⟩
theorem JmH{Q:Option (Value×Nat)->Shared->Prop}(bt:w.params.followText "set-order"=true)(hs:SHas s.heap d es ep t)(hf:t.fits es.size=true){sl:Nat}
 (h:Q (((pickOrder (w.params.setOrder d ep) es)[i]?).map fun e=>(e.2,sl)) s):wpAny (model prog w) A (setNext d sl i ep) Q E s:=by
 obtain⟨o,ho,_,hd⟩:=hs;unfold setNext setsByText;refine Qa (GX ho hd hf (Qa (Qa (KW (Qf ?_)))));show wpAny _ _ (if w.params.followText "set-order"=true then _ else _) _ _ s;rw[if_pos bt,if_neg (by simp)];refine Qa ?_;unfold setWalk setsByText;refine Qa (GX ho hd hf (Qa (Qa (KW (Qf ?_)))));show wpAny _ _ (if w.params.followText "set-order"=true then _ else _) _ _ s
 rw[if_pos bt];exact Qa (KW (Qf (Qf h)))
noncomputable def JfD(t:SetTable)(i:Nat):Nat:=if i=0 then 0 else t.place.getD (i-1) 0+1
theorem Jkh{t:SetTable}(r:Ris t.place){i:Nat}(h:i<=t.place.size):Q8 t.place (JfD t i)=i:=by
 unfold JfD
 by_cases c:i=0
 ·rw[if_pos c,c];exact Jix r
 ·rw[if_neg c];have hi:i-1<t.place.size:=by omega
  have e:t.place.getD (i-1) 0=t.place[i-1]:=by simp[Array.getD,hi]
  rw[e,Jiw r hi];omega
theorem Jkj{Q:Option (Value×Nat)->Shared->Prop}(bt:w.params.followText "set-order"=false)(hs:SHas s.heap d es ep t)(hf:t.fits es.size=true)(tok:TOk (Us w) t)(nd:(!t.plain && decide (es.size>1))=false)(hi:i<=es.size)
 (h:Q ((es[i]?).map fun e=>(e.2,JfD t (i+1))) s):wpAny (model prog w) A (setNext d (JfD t i) i ep) Q E s:=by
 obtain⟨o,ho,_,hd⟩:=hs;have hp:t.place.size=es.size:=by simp only[SetTable.fits,QM,beq_iff_eq] at hf;exact hf.1
 have ris:Ris t.place:=by
  cases c:t.plain with
  | true=>exact tok.1 c
  | false =>
   rw[c] at nd;have z:es.size<=1:=by simpa using nd
   unfold Ris;have:t.place.toList.length<=1:=by rw[QE];omega
   match t.place.toList,this with
   | [],_=>exact .nil
   | [x],_=>exact MT _ _
 have led:t.led=true:=by rw[tok.2];unfold Us;rw[bt];rfl
 unfold setNext setsByText;refine Qa (GX ho hd hf (Qa (Qa (KW (Qf ?_)))));show wpAny _ _ (if w.params.followText "set-order"=true then _ else _) _ _ s;rw[if_neg (by rw[bt];exact Qx)];show wpAny _ _ (if (!t.plain && decide (es.size>1))=true then _ else _) _ _ s;rw[if_neg (by rw[nd];exact Qx)];refine Qa (m:=if (!t.led && !es.isEmpty)=true then _ else _) ?_;rw[if_neg (by rw[led];simp)]
 refine Qf ?_;dsimp only;rw[Jkh ris (by omega)];refine Qf ?_
 cases c:es[i]? with
 | none=>rw[c] at h;exact h
 | some e =>
  have hlt:i<t.place.size:=by rw[hp];exact(Array.getElem?_eq_some_iff.mp c).1
  rw[Kx hlt];rw[c] at h
  have:JfD t (i+1)=t.place[i]+1:=by unfold JfD;rw[if_neg (by omega)];simp[Array.getD,hlt]
  rw[Ma,this] at h;exact h
theorem JmF{Q:Value->Shared->Prop}(hh:A.handled=none)(hs:SHas s.heap d es ep t)(hf:t.fits es.size=true)(tok:TOk (Us w) t)(hz:es.size<=sizeLine)
 (h:∀(I:Addr) (h':Heap) (dr:Drawn) (ys:List Value) (fp:List Addr) (St:Nat->Heap->Prop),ys.Perm (es.toList.map (·.2))->s.heap.objs.size<=I->(∀b o,s.heap.get? b=some o->h'.get? b=some o) ->
  Walks prog w A I fp [I] es.size (fun i v=>ys[i]?=some v) St->St 0 h'->(∀b∈fp,s.heap.objs.size<=b\/b=d)->(∀b∈fp,b<h'.objs.size)->Q (.ref I) { s with heap:=h',drawn:=dr }) :
 wpAny (model prog w) A (pyIter (.ref d)) Q E s:=by
 obtain⟨o,ho,hex,hd⟩:=id hs;have hT:s.TypeIs (.ref d) "set":=⟨o,ho,hex.1⟩
 have dlt:d<s.heap.objs.size:=Qj ho;refine Mx hT F.slot_set_iter (QV F.slot_set_iter hT JaI ?_ (F.args_set_iter_1 _));unfold Builtin.«frozenset.__iter__» Builtin.Frozenset.slot0 Builtin.Frozenset.sizeOf Builtin.Frozenset.addrOf;refine Qa (Qa (Qf (Qf ?_)));refine Qa (Qa (Md ho hd hf (Qf ?_)));refine Qa ?_;unfold setDrawn setsByText;refine Qa (GX ho hd hf (Qa (Qa (KW (Qf (Qf ?_))))))
 show wpAny _ _ (if (!w.params.followText "set-order" && (!t.plain && decide (es.size>1)))=true then _ else _) _ _ s
 have one:∀(sl:Nat->Nat) (ys:List Value),sl 0=0->ys.Perm (es.toList.map (·.2))->ys.length=es.size ->
  (∀(i:Nat) (s:Shared),i<=es.size->SHas s.heap d es ep t->∀(A:Around) (E:Value->Shared->Prop) (Q:Option (Value×Nat)->Shared->Prop),Q ((ys[i]?).map fun v=>(v,sl (i+1))) s->wpAny (model prog w) A (setNext d (sl i) i ep) Q E s) ->
  Walks prog w A s.heap.objs.size [s.heap.objs.size,d] [s.heap.objs.size] es.size (fun i v=>ys[i]?=some v) (fun i h=>SIt h s.heap.objs.size d (.int (sl i) 0) i es.size ep/\SHas h d es ep t/\i<=es.size):=fun sl ys s0 pm yl nx=>{
  sub:=fun b hb=>by simp at hb;simp[hb]
  frame:=fun i h h' st hk=>⟨st.1.at fun o e=>hk _ (by simp) o e,st.2.1.at fun o e=>hk d (by simp) o e,st.2.2⟩
  item:=fun i s1 Q E hi st hQ=>by
   obtain⟨o1,ho1,_,hd1⟩:=id st.2.1;refine JgW hh st.1 ho1 hd1 hf (fun A E Q hq=>nx i s1 st.2.2 st.2.1 A E Q hq) (fun x j h' e hit' hs'=>?_) (fun e=>?_)
   ·obtain⟨v,e1,e2⟩:=Gb.mp e;cases e2;exact hQ _ h' s1.toks e1 ⟨hit',st.2.1.at fun o x=>hs'.extBut d o (Qy dlt) x,hi⟩ fun b o hb x=>hs'.extBut b o (fun h=>hb (by simp[h])) x
   ·rw[M7,Mu] at e;omega
  done:=fun s1 Q E st hQ=>by obtain⟨o1,ho1,_,hd1⟩:=id st.2.1;refine JgW hh st.1 ho1 hd1 hf (fun A E Q hq=>nx _ s1 st.2.2 st.2.1 A E Q hq) (fun x j h' e _ _=>?_) (fun _ h' he=>hQ h' s1.toks fun b o hb e=>he b o (fun h=>hb (by simp[h])) e);obtain⟨v,e1,e2⟩:=Gb.mp e;have:=(Qk.mp e1).1;omega
  self:=fun _ _ _ _ st hQ=>JgX st.1 hQ }
 have enter:∀(sl:Nat->Nat) (ys:List Value),sl 0=0->ys.Perm (es.toList.map (·.2))->ys.length=es.size ->
  (∀(i:Nat) (s:Shared),i<=es.size->SHas s.heap d es ep t->∀(A:Around) (E:Value->Shared->Prop) (Q:Option (Value×Nat)->Shared->Prop),Q ((ys[i]?).map fun v=>(v,sl (i+1))) s->wpAny (model prog w) A (setNext d (sl i) i ep) Q E s) ->
  Q (.ref s.heap.objs.size) { s with heap:=s.heap.push { cls:=.type "set_iterator",data:=.fields #[.int 0 0,.int 0 0,.ref d,.int es.size 0,.int ep 0] } }:=fun sl ys s0 pm yl nx=>by
  refine h s.heap.objs.size _ s.drawn ys [s.heap.objs.size,d] _ pm (Qn _) (fun b o e=>Qg _ e) (one sl ys s0 pm yl nx) ⟨⟨_,Qi _ rfl,rfl,?_⟩,hs.at fun o e=>Qg _ e,GJ _⟩ (fun b hb=>?_) (fun b hb=>?_)
  ·rw[s0];rfl
  ·rcases Qh.mp hb with e|e
   ·exact .inl (MZ e.symm)
   ·exact .inr (by simpa using e)
  ·rw[Ge];rcases Qh.mp hb with e|e
   ·rw[e];exact Gy _
   ·rw[GC.mp e];exact GM dlt
 cases bt:w.params.followText "set-order" with
 | true =>
  rw[if_neg (by simp)];refine Qa (Qf ?_);unfold setEpoch;refine Qa (Qa (GX ho hd hf (Qf ?_)));refine Qa (QZ ?_);refine Qf ⟨_,rfl,"set_iterator",_,⟨_,Qi _ rfl,rfl⟩,si_slot_next.lookup,?_⟩;refine enter (fun _=>0) ((pickOrder (w.params.setOrder d ep) es).toList.map (·.2)) rfl ((JbB _ es).map _) (by rw[Qm,(JbB _ es).length_eq,QE]) fun i s1 hi hs1 A E Q hq=>JmH bt hs1 hf ?_
  rw[Qq,Kb,Kj] at hq;exact hq
 | false =>
  cases dw:(!t.plain && decide (es.size>1)) with
  | false =>
   rw[if_neg (by simp)];refine Qa (Qf ?_);unfold setEpoch;refine Qa (Qa (GX ho hd hf (Qf ?_)));refine Qa (QZ ?_);refine Qf ⟨_,rfl,"set_iterator",_,⟨_,Qi _ rfl,rfl⟩,si_slot_next.lookup,?_⟩;refine enter (JfD t) (es.toList.map (·.2)) rfl (.refl _) (by rw[Qm,QE]) fun i s1 hi hs1 A E Q hq=>Jkj bt hs1 hf tok dw hi ?_
   rw[Qq,Kb,Kj] at hq;exact hq
  | true =>
   rw[if_pos (by simp)];refine Qa (Jbn _ _ _ _ (by rw[MB]) fun ps dr pm=>?_);refine Qa (Mp (items:=ps.map fun(i:Nat)=>rawInt i) ?_ (by rw[Qm,pm.length_eq,MB];exact hz));have hT1:(s.heap.push { cls:=.type "tuple",data:=.seq (ps.map fun(i:Nat)=>rawInt i).toArray }).get? s.heap.objs.size=some { cls:=.type "tuple",data:=.seq (ps.map fun(i:Nat)=>rawInt i).toArray }:=Qi _ rfl
   have ho1:(s.heap.push { cls:=.type "tuple",data:=.seq (ps.map fun(i:Nat)=>rawInt i).toArray }).get? d=some o:=Qg _ ho
   generalize hg:s.heap.push { cls:=.type "tuple",data:=.seq (ps.map fun(i:Nat)=>rawInt i).toArray }=g at hT1 ho1 ⊢
   have gz:g.objs.size=s.heap.objs.size+1:=by rw[<- hg,Ge]
   have gk:∀b o,s.heap.get? b=some o->g.get? b=some o:=fun b o e=>by rw[<- hg];exact Qg _ e
   unfold setEpoch;refine Qa (Qa (GX (s:={ s with heap:=g,drawn:=dr }) ho1 hd hf (Qf ?_)));refine Qa (QZ ?_);refine Qf ⟨_,rfl,"set_iterator",_,⟨_,Qi _ rfl,rfl⟩,si_slot_next.lookup,?_⟩;have inn:∀p∈ps,p<es.size:=fun p hp=>by simpa using pm.mem_iff.mp hp
   have pl:ps.length=es.size:=by rw[pm.length_eq,MB]
   have dne:d≠g.objs.size:=by rw[gz];exact Qy (GM dlt)
   have tne:s.heap.objs.size≠g.objs.size:=by rw[gz];exact Qy (Gy _)
   refine h g.objs.size _ dr (ps.map fun p=>(es[p]?.map (·.2)).getD Value.none) [g.objs.size,d,s.heap.objs.size] (fun i h=>SIt h g.objs.size d (.ref s.heap.objs.size) i es.size ep/\SHas h d es ep t/\h.get? s.heap.objs.size=some { cls:=.type "tuple",data:=.seq (ps.map fun(i:Nat)=>rawInt i).toArray }) ?_ (by rw[gz];exact LG _) (fun b o e=>Qg _ (gk b o e)) ?_ ⟨⟨_,Qi _ rfl,rfl,rfl⟩,⟨o,Qg _ ho1,hex,hd⟩,Qg _ hT1⟩ (fun b hb=>?_) (fun b hb=>?_)
   ·refine(pm.map _).trans (.of_eq ?_);refine Ln (by simp) fun i h1 h2=>?_
    have hi:i<es.size:=by simpa using h1
    simp[hi]
   ·exact {
     sub:=fun b hb=>by simp at hb;simp[hb]
     frame:=fun i h h' st hk=>⟨st.1.at fun o e=>hk _ (by simp) o e,st.2.1.at fun o e=>hk d (by simp) o e,hk _ (by simp) _ st.2.2⟩
     item:=fun i s1 Q E hi st hQ=>by
      obtain⟨o1,ho1,_,hd1⟩:=id st.2.1;refine Jen hh st.1 ho1 hd1 hf st.2.2 rfl (fun p e h' e1 e2 hit' hs'=>?_) inn (fun e=>?_)
      ·exact hQ _ h' s1.toks (by rw[Qq,e1];simp[e2]) ⟨hit',st.2.1.at fun o x=>hs'.extBut d o dne x,hs'.extBut _ _ tne st.2.2⟩ fun b o hb x=>hs'.extBut b o (fun h=>hb (by simp[h])) x
      ·rw[Mu] at e;omega
     done:=fun s1 Q E st hQ=>by obtain⟨o1,ho1,_,hd1⟩:=id st.2.1;refine Jen hh st.1 ho1 hd1 hf st.2.2 rfl (fun p e h' e1 _ _ _=>?_) inn (fun _ h' he=>hQ h' s1.toks fun b o hb e=>he b o (fun h=>hb (by simp[h])) e);have:=(Qk.mp e1).1;omega
     self:=fun _ _ _ _ st hQ=>JgX st.1 hQ }
   ·simp only[Qh,QW,or_false] at hb;rcases hb with e|e|e
    ·exact .inl (by rw[e,gz];exact LG _)
    ·exact .inr e
    ·exact .inl (MZ e.symm)
   ·rw[Ge,gz];simp only[Qh,QW,or_false] at hb;rcases hb with e|e|e
    ·rw[e,gz];exact Gy _
    ·rw[e];exact GM (GM dlt)
    ·rw[e];exact GM (Gy _)
end
end L2

namespace L2
open PySem PyProof.Rows PySem.W PySem.Spec
section
variable{prog:Program}{w:World}{A:Around}{E:Value->Shared->Prop}{s:Shared}{d:Addr}{ep:Nat}{es:Array (Int×Value)}{t:SetTable}
theorem Jjd{Q:Bool->Shared->Prop}(hT:s.TypeIs (.ref d) "set")(h:Q false s):wpAny (model prog w) A (Kp (.ref d)) Q E s:=by
 unfold Kp;refine Qa (KB hT PySem.F.slot_set_len.lookup ?_)
 generalize hid:("set.__len__":String)=id0
 wp_delta
 rw[show splitId id0=some ("set","__len__") from by subst hid;decide +kernel];subst hid;refine Qa (Ke (T:="set") (b:=true) hT (by rw[KO];kernel_rfl) ?_);refine La (fun hab=>absurd hab (by decide)) (fun _=>?_);refine La (fun _=>?_) (fun hab=>absurd (by decide +kernel) hab);exact Qa (LM hT (Qf h))
theorem JfB{R:Result->Shared->Prop}(hh:A.handled=none)(hs:SHas s.heap d es ep t)(hf:t.fits es.size=true)(tok:TOk (Us w) t)(hz:es.size<=sizeLine)(S:Addr)(ne:S≠d)(res:Value)(hS:s.heap.get? S=some { cls:=.type "list",data:=.seq #[] })
 (hR:∀h' tk dr acc c,(∀b o,b≠S->s.heap.get? b=some o->h'.get? b=some o)->h'.get? S=some { cls:=.type "list",dict:=none,data:=.seq acc c,slots:=#[] }->acc.toList.Perm (es.toList.map (·.2))->R (.ok (.ret res)) { s with heap:=h',toks:=tk,drawn:=dr }) :
 wpAny (model prog w) A.in1 (GO (.ref S) (.ref d) res)
  (fun fin s'=>match fin with|.done f=>R (.ok f) s'|.again c'=>c'.quiet=true/\codeAny (model prog w) A c' R s') (fun e s'=>R (.error e) s') s:=by
 obtain⟨o,ho,hex,hd⟩:=id hs;have hT:s.TypeIs (.ref d) "set":=⟨o,ho,hex.1⟩
 have Slt:S<s.heap.objs.size:=Qj hS;unfold GO;refine Qa (LM (T:="set") hT ?_)
 have h1:KI (.ref S) (.ref d)=false:=by simp[KI,ne]
 have h2:(Value.type "set" == Value.type "list")=false:=by decide
 have h3:(Value.type "set" == Value.type "tuple")=false:=by decide
 simp only[h1,h2,h3,LZ,Kf,if_false];refine Qa (JmF (A:=A.in1) hh hs hf tok hz fun I h' dr ys fp St pm le old W st fpo fpl=>?_);have SI:S∉fp:=fun m=>(fpo S m).elim (fun x=>absurd Slt (LW.mpr x)) fun x=>ne x
 have hS1:=old S _ hS
 have key:∀(g:Heap) (c1 tk:Nat),St 0 g->(∀b o,b≠S->s.heap.get? b=some o->g.get? b=some o)->g.get? S=some { cls:=.type "list",data:=.seq #[] c1 } ->
  codeAny (model prog w) A (.builtin "list.extend.loop" ⟨[.ref S,.ref I,res],[]⟩) R { s with heap:=g,toks:=tk,drawn:=dr }:=by
  intro g c1 tk st1 hk hS2;refine codeAny_extend_loopS W.toS hz S SI res es.size 0 _ #[] c1 rfl (GJ _) st1 hS2 (ItemsOf.nil _) fun s' acc c' hm hS' hacc=>?_
  rw[Moved.eq_with hm];refine hR s'.heap s'.toks dr acc c' (fun b o hb e=>hm.heap b o (fun m=>?_) (hk b o hb e)) hS' ?_
  ·rcases Qh.mp m with e'|m
   ·exact hb e'
   ·rw[GC] at m;exact absurd (Qj e) (LW.mpr (m▸le))
  ·have yl:ys.length=es.size:=by rw[pm.length_eq,Qm,QE]
   have:acc.toList=ys:=Ln (by rw[QE,hacc.1,yl]) fun i a1 a2=>by have:ys[i]?=some acc.toList[i]:=hacc.2 i acc.toList[i] (by rw[<- Kb];exact QT a1);rw[QT a2] at this;exact(QH this).symm
   rw[this];exact pm
 refine Qa (Gs (Jjd (s:={ s with heap:=h',drawn:=dr }) ⟨o,old _ _ ho,hex.1⟩ ?_));refine La (fun _=>?_) (fun _=>Qf ⟨Gv GA _,key _ _ _ st (fun b o _ e=>old b o e) hS1⟩);refine Qa (Kc (Qa ?_));show wpAny _ _ (updateSeq S (·.push .none) >>= fun _=>updateSeq S (·.pop)) _ _ _;refine Qa (GF hS1 rfl ?_);have hS2:=QU (Lg (·.push Value.none)) hS1 rfl
 refine GF (hz:=by seq_fits) hS2 rfl ?_;have hS3:=QU (Lg (·.pop)) hS2 rfl;refine Qf ⟨Gv GA _,key _ _ _ ?_ (fun b o hb e=>?_) hS3⟩
 ·refine W.frame 0 _ _ st fun b hb o e=>?_
  have bS:b≠S:=fun h=>SI (h▸hb)
  exact(QF _ _ (QN bS)).trans ((QF _ _ (QN bS)).trans e)
 ·exact(QF _ _ (QN hb)).trans ((QF _ _ (QN hb)).trans (old b o e))
theorem Jek{R:List Value->Shared->Prop}(hh:A.handled=none)(hs:SHas s.heap d es ep t)(hf:t.fits es.size=true)(tok:TOk (Us w) t)(hz:es.size<=sizeLine)
 (h:∀(h':Heap) (tk:Nat) (dr:Drawn) (acc:Array Value),(∀b o,s.heap.get? b=some o->h'.get? b=some o)->s.heap.objs.size<h'.objs.size->acc.toList.Perm (es.toList.map (·.2))->R acc.toList { s with heap:=h',toks:=tk,drawn:=dr }):wpAny (model prog w) A (collect (.ref d)) R E s:=by
 obtain⟨o,ho,hex,hd⟩:=id hs;have dlt:d<s.heap.objs.size:=Qj ho;have old:∀b o,s.heap.get? b=some o->(s.heap.push { cls:=.type "list",data:=.seq ([]:List Value).toArray }).get? b=some o:=fun b o e=>Qg _ e
 unfold collect;refine Qa (wpAny_runValue (GE entry_proto_collect' ?_));rw[Gi PySem.F.plain_proto_collect _];show wpAny _ A.in1 (newList [] >>= fun l=>again (.builtin "list.__iadd__" ⟨[l,.ref d],[]⟩)) _ _ s;refine Qa (QZ (Qf ⟨Gv MV _,GE entry_list_iadd' ?_⟩));rw[Gi MV _];have at0:(s.heap.push { cls:=.type "list",data:=.seq ([]:List Value).toArray }).get? s.heap.objs.size=some { cls:=.type "list",data:=.seq #[] }:=Qi _ rfl
 have fin:∀(h':Heap) (tk:Nat) (dr:Drawn) (acc:Array Value) (c:Nat),(∀b o,s.heap.get? b=some o->h'.get? b=some o)->h'.get? s.heap.objs.size=some { cls:=.type "list",dict:=none,data:=.seq acc c,slots:=#[] }->acc.toList.Perm (es.toList.map (·.2)) ->
  wpAny (model prog w) A (load s.heap.objs.size >>= fun o=>match o.data with | .seq xs _=>pure xs.toList | _=>unsupported "internal:collect") R E { s with heap:=h',toks:=tk,drawn:=dr }:=fun h' tk dr acc c hk hS hi=>Qa (wpAny_load hS (Qf (h h' tk dr acc hk (Qj hS) hi)))
 have got:=JfB (prog:=prog) (A:=A) (s:={ s with heap:=s.heap.push { cls:=.type "list",data:=.seq ([]:List Value).toArray } }) (R:=fun q s'=>∃h' tk dr acc c,q=.ok (.ret (.ref s.heap.objs.size))/\s'={ s with heap:=h',toks:=tk,drawn:=dr }/\(∀b o,s.heap.get? b=some o->h'.get? b=some o)/\h'.get? s.heap.objs.size=some { cls:=.type "list",dict:=none,data:=.seq acc c,slots:=#[] }/\acc.toList.Perm (es.toList.map (·.2)))
  hh (hs.at fun o e=>old _ o e) hf tok hz s.heap.objs.size (Ga dlt) (.ref s.heap.objs.size) at0 (fun h' tk dr acc c hk hS hi=>⟨h',tk,dr,acc,c,rfl,rfl,fun b o e=>hk b o (Qy (Qj e)) (old b o e),hS,hi⟩)
 refine LA got (fun f s' x=>?_) fun e s' ⟨_,_,_,_,_,z,_⟩=>nomatch z
 cases f with
 | done f=>obtain⟨h',tk,dr,acc,c,e,rfl,hk,hS,hi⟩:=x;cases e;exact fin h' tk dr acc c hk hS hi
 | again c1=>exact⟨x.1,Lj x.2 fun q s2 ⟨h',tk,dr,acc,c,e1,e2,hk,hS,hi⟩=>by subst e1;subst e2;exact fin h' tk dr acc c hk hS hi⟩
end
noncomputable def fM(ns:List Int):List Int:=firstMet (fun i=>ns.getD i 0) ns.length
theorem Jgd(ns:List Int):fM ns=ns.foldl step_dedup []:=by
 unfold fM firstMet;congr 1;refine Ln (by simp) fun i h1 h2=>?_
 simp[Gz,h2]
theorem Jdb:∀(ns acc:List Int),acc.Nodup->(ns.foldl step_dedup acc).Nodup
 | [],acc,h=>h
 | n::ns,acc,h=>by
  rw[QS];refine Jdb ns _ ?_;unfold step_dedup;split
  ·exact h
  ·rename_i c;refine LP.mpr ⟨h,by simp,fun a ha b hb=>?_⟩;rw[GC] at hb;subst hb;intro e;subst e;exact c (KL.mpr ⟨a,ha,by simp⟩)
theorem JiL:∀(ns acc:List Int) (k:Int),k∈ns.foldl step_dedup acc↔k∈acc\/k∈ns
 | [],acc,k=>by simp
 | n::ns,acc,k=>by
  rw[QS,JiL ns];unfold step_dedup;split
  ·rename_i c;obtain⟨x,hx,e⟩:=KL.mp c;have:x=n:=by simpa using e
   subst this;simp only[Qh];constructor
   ·exact fun h=>h.elim .inl fun h=>.inr (.inr h)
   ·rintro(h|h|h)
    ·exact .inl h
    ·exact .inl (h▸hx)
    ·exact .inr h
  ·simp only[Gk,Qh,QW,or_false,or_assoc]
theorem Jab(ns:List Int):(fM ns).Nodup:=by rw[Jgd];exact Jdb ns [] List.nodup_nil
theorem JnR(ns:List Int)(k:Int):k∈fM ns↔k∈ns:=by rw[Jgd,JiL];simp
theorem JiZ(ns:List Int):(fM ns).length<=ns.length:=firstMet_length_le _ _
theorem Zx:∀{a b:List Int},a.Nodup->(∀x∈a,x∈b)->b.length=a.length->b.Perm a
 | [],b,_,_,h=>by have:b=[]:=Qz (by simpa using h);rw[this]
 | x::a,b,nd,sub,h=>by
  have hx:=sub x Qe
  have pb:=List.perm_cons_erase hx;refine pb.trans (List.Perm.cons x ?_)
  have nd':=QX.mp nd;refine Zx nd'.2 (fun y hy=>?_) (by rw[List.length_erase_of_mem hx,h];simp);rcases Qh.mp (pb.mem_iff.mp (sub y (Qc _ hy))) with e|e
  ·exact absurd (e▸hy) nd'.1
  ·exact e
theorem Jdw{prog:Program}{w:World}:∀{l:List (Int×Value)},ElemsOf (intKind prog w) l->∃ks:List Int,IntsAre (l.map (·.2)) ks
 | [],_=>⟨[],.nil⟩
 | e::l,h=>by obtain⟨ks,r⟩:=Jdw h.tail;obtain⟨⟨k,hk,_⟩,_⟩:=h.head;obtain⟨tk,e2⟩:=Mv (show Rk k e.2=true from hk);refine⟨k::ks,?_⟩;rw[Qd,e2];exact .cons k tk r
theorem Jdx{x:Int}:∀{vs:List Value} {ks:List Int},IntsAre vs ks->∀v∈vs,Rk x v=true->x∈ks
 | _,_,.nil,v,h,_=>by simp at h
 | _,_,.cons n t r,v,h,e=>by
  rcases Qh.mp h with q|q
  ·subst q;obtain⟨tk,e2⟩:=Mv e
   injection e2 with e2
   subst e2;exact Qe
  ·exact Qc _ (Jdx r v q e)
theorem JhD{a b:List Value}(p:a.Perm b):∀{ks:List Int},IntsAre a ks->∃ks',IntsAre b ks'/\ks'.Perm ks:=by
 induction p with
 | nil=>intro ks r;exact⟨ks,r,.refl _⟩
 | cons x p ih =>
  intro ks r
  cases r with
  | cons n t r=>obtain⟨ks',r',q⟩:=ih r;exact⟨n::ks',.cons n t r',q.cons n⟩
 | swap x y l =>
  intro ks r
  cases r with
  | cons n t r=>cases r with
   | cons m u r=>exact⟨m::n::_,.cons m u (.cons n t r),List.Perm.swap _ _ _⟩
 | trans p q ih1 ih2=>intro ks r;obtain⟨k1,r1,q1⟩:=ih1 r;obtain⟨k2,r2,q2⟩:=ih2 r1;exact⟨k2,r2,q2.trans q1⟩
theorem Jkg{prog:Program}{w:World}{led:Bool}{h:Heap}{a:Addr}{ns:List Int}(x:SetL prog w led h a (fun k=>(fM ns).any (· == k)) (fM ns).length) :
 ∃es ep t ks,SHas h a es ep t/\t.fits es.size=true/\TOk led t/\es.size=(fM ns).length/\IntsAre (es.toList.map (·.2)) ks/\ks.Perm (fM ns):=by
 obtain⟨o,es,ep,t,z⟩:=x;obtain⟨ks,r⟩:=Jdw z.els;refine⟨es,ep,t,ks,⟨o,z.got,z.ex,z.data⟩,z.fits,z.tok,z.size,r,?_⟩;refine Zx (Jab ns) (fun y hy=>?_) ?_
 ·obtain⟨e,he,hi⟩:=(z.mem y).mp (KL.mpr ⟨y,hy,by simp⟩);exact Jdx r e.2 (Qv.mpr ⟨e,he,rfl⟩) hi
 ·have:=Rs r;rw[Qm,QE] at this;rw[<- this,z.size]
noncomputable def Jmz(X:Cx)(l:Addr)(ns:List Int):HO:=.ext fun h=>SetL X.prog X.w (Us X.w) h l (fun k=>(fM ns).any (· == k)) (fM ns).length
noncomputable def Jnk(X:Cx):List V->Hp->VK->Prop:=fun xs H Q=>∃a ns,xs=[.ref a]/\SqL X.K H a (ns.map V.int)/\ns.length+1<scanBound/\∀l,H l=none->Q (.ref l) (upd H l (Jmz X l ns))
noncomputable def JoQ(X:Cx):List V->Hp->VK->Prop:=fun xs H Q=>∃r ns,xs=[.ref r]/\H r=some (Jmz X r ns)/\ns.length<64/\∀l,H l=none->Q (.ref l) (upd H l (.lst ((Yw (fM ns)).map V.int)))
section
variable{X:Cx}
theorem Inv.drew{pins:List (Addr×Obj)}{σ:List (Option V)}{H:Hp}{s:Shared}{d:Drawn}(I:Inv X pins σ H s):Inv X pins σ H { s with drawn:=d } :=
 ⟨I.ok,I.os,I.bare,I.base,I.loc,I.cell,I.free,I.freeC,I.pin,I.hok,I.len⟩
theorem Jhr(hc:X.calm=true):YR X (.type "set") (Jnk X):=by
 intro pins s σ H xs us Q I r h;obtain⟨a,ns,rfl,hq,hb,q⟩:=h;obtain⟨u,rfl,rx⟩:=V2 r;cases rx;obtain⟨its,r',pl,hz⟩:=I.list hq;have hh:X.A.handled=none:=I.ok.hd hc;have hi:=Y1 r';have il:its.length=ns.length:=Rs hi;have hne:H s.heap.objs.size=none:=I.hok.fresh (Qn _);refine Jhq (ns:=ns) hh pl.isList hi (by rw[Qo,il];exact hb) fun h' tk hS old=>?_
 have ez:its.toArray.size=ns.length:=by rw[Qo,il]
 rw[ez] at hS;refine⟨.ref s.heap.objs.size,_,I.laid (t':=tk) (o:=Jmz X s.heap.objs.size ns) old (Qn _) ⟨hS,?_,fun h1 h2 p k=>p.move k⟩,rfl,q _ hne⟩;obtain⟨o,_,_,_,z⟩:=hS;exact⟨o,z.got⟩
theorem JeS(hc:X.calm=true):YR X (.builtin "sorted") (JoQ X):=by
 intro pins s σ H xs us Q I r h;obtain⟨p,ns,rfl,ds,h64,q⟩:=h;obtain⟨u,rfl,rx⟩:=V2 r;cases rx;have z:=(show ObjOk X.prog X.w H s.heap p (Jmz X p ns) from I.hok p _ ds).1;obtain⟨es,ep,t,ks,hs,hf,tok,sz,ri,pm⟩:=Jkg z;have hh:X.A.in1.handled=none:=I.ok.hd hc;have fl:=JiZ ns;have room:∀n:Nat,n<64->n<=sizeLine:=fun n h=>by show n<=16777216;omega
 refine Calls.call_function_entry kind_sorted plain_sorted entry_sorted (args_sorted1 _) ?_;unfold Builtin.«sorted»;refine Qa (m:=checkCount "sorted" 1 1 _) (Qf ?_);refine Qa (Jek hh hs hf tok (room _ (by omega)) fun h' tk dr acc hk hsz pa=>?_);obtain⟨k2,hI,p2⟩:=JhD pa.symm ri;have pk:=p2.trans pm;have hal:acc.toList.length=(fM ns).length:=by rw[Rs hI,pk.length_eq]
 refine Qa (wpAny_newList ?_ (room _ (by omega)));have hoL:(h'.push (seqObj "list" acc.toList.toArray 0)).get? h'.objs.size=some (seqObj "list" acc.toList.toArray 0):=Qi _ rfl;refine Qa (Gs (QV slot_list_sort ⟨_,hoL,rfl⟩ entry_list_sort (list_sort_tree hoL hI (by omega) fun out ns' a1 a2 a3=>⟨_,rfl,?_⟩) (args_list_sort _)));refine Qf ⟨_,rfl,?_⟩;have e0:ns'=Yw (fM ns):=Vy ((a2.trans pk).trans (J3 _).symm) a3 (Vx _)
 subst e0;obtain⟨e,he⟩:=sortedHeap_at (out:=out) hoL;have hle:s.heap.objs.size<=h'.objs.size:=GS hsz;have hne:H h'.objs.size=none:=I.hok.fresh hle;have hn:((Yw (fM ns)).map V.int).length<=sizeLine:=by rw[Qm,(J3 _).length_eq];exact room _ (by omega)
 refine⟨.ref h'.objs.size,_,(I.drew (d:=dr)).laid (t':=tk) (fun b o x=>?_) hle (show ObjOk X.prog X.w _ _ _ (.lst ((Yw (fM ns)).map V.int)) from⟨hn,out.toList,e,VM a1,?_⟩),rfl,q _ hne⟩
 ·have hx:=hk b o x
  have hlt:b<h'.objs.size:=Qj hx;rw[sortedHeap_old (Qy hlt) (by rw[size_push'];exact GM hlt)];exact Qg _ hx
 ·rw[he]
noncomputable def tUp(te:TE):TE:=fun σ H Q=>∃A:VK,te σ H A/\∀x H1,A x H1->Q x H1
theorem Jqa{e:Expr}{te:TE}(h:PE X e te):PE X e (tUp te):=by intro pins s σ H Q I ⟨A,h1,h2⟩;exact thn (h pins s σ H A I h1) fun v s1 ⟨x,H1,I1,r1,a⟩=>⟨x,H1,I1,r1,h2 x H1 a⟩
theorem PE.imp{e:Expr}{t1 t2:TE}(h:PE X e t1)(i:∀σ H Q,t2 σ H Q->t1 σ H Q):PE X e t2:=fun pins s σ H Q I x=>h pins s σ H Q I (i σ H Q x)
end
noncomputable def Jkr(K:Frag)(te:TE):TE:=fun σ H Q=>te σ H fun x H1=>∃a ns,x=.ref a/\SqL K H1 a (ns.map V.int)/\ns.length<64/\∀l o l',H1 l=none->upd H1 l o l'=none->Q (.ref l') (upd (upd H1 l o) l' (.lst ((Yw (fM ns)).map V.int)))
section
variable{X:Cx}{e:Expr}{te:TE}{p1 p2 q1 q2:Pos}
theorem JoC(hc:X.calm=true)(hg:Gl X "set")(hm:X.mg "set"=none)(he:PE X e te)(h1:starEach [e] X.env=(false,eval e X.env)::starEach [] X.env:=by rfl):PE X (.Call (.Name "set" p1) [e] [] q1) (tCB (Jnk X) (U9 (tUp te) Wl)) :=
 US (Jhr hc) hg hm (by rfl) (Ja (Jqa he) Je h1) (he:=h1)
theorem JjM{K:Frag}(hK:X.K=K)(hc:X.calm=true)(hg:Gl X "sorted")(hm:X.mg "sorted"=none)(hg2:Gl X "set")(hm2:X.mg "set"=none)(he:PE X e te)(h1:starEach [e] X.env=(false,eval e X.env)::starEach [] X.env:=by rfl)
 (h2:starEach [Expr.Call (.Name "set" p1) [e] [] q1] X.env=(false,eval (.Call (.Name "set" p1) [e] [] q1) X.env)::starEach [] X.env:=by rfl):PE X (.Call (.Name "sorted" p2) [.Call (.Name "set" p1) [e] [] q1] [] q2) (Jkr K te):=by
 subst hK;refine PE.imp (JD (JeS hc) hg hm (by rfl) (Ja (JoC hc hg2 hm2 he h1) Je h2) (he:=h2)) fun σ H Q h=>⟨_,h,?_⟩
 rintro x H1 ⟨a,ns,rfl,hq,h64,q⟩;exact⟨a,ns,rfl,hq,by show ns.length+1<4096;omega,fun l hl=>⟨l,ns,rfl,Jv,h64,fun l' hl'=>q l _ l' hl hl'⟩⟩
end
end L2

namespace LE
open PySem L2 LR
noncomputable def Jb4(a:Ev):Ev:=fun E=>(a E).bind fun s=>s.r.bind fun ds=>(ints? ds).bind fun ns=>if ns.length<64 then some (.own ((Yw (fM ns)).map .int)) else none
section
variable{K:Frag}{C:Addr}{td:TE}{ed:Ev}
theorem Jmw(ha:SE K C td ed):SE K C (Jkr K td) (Jb4 ed):=by
 intro B H0 H σ E r Q I e q;obtain⟨s,e1,e⟩:=bind_some e;obtain⟨ds,e2,e⟩:=bind_some e;obtain⟨ns,e3,e⟩:=bind_some e;split at e
 ·next h64 =>
  cases e;refine ha B H0 H σ E s _ I e1 fun x H1 H1' s1 r1=>?_
  obtain⟨l,ys,rfl,h,r2⟩:=r1.r s1.i e2;rw[Y5 e3] at r2;have:=r2.ints;subst this;refine⟨l,ns,rfl,h,h64,fun w o l' hw hl'=>?_⟩;have st:Step H1' H1 H1' H1 (upd H1' w o):=⟨.new hw,Same.refl _,fun _ _ e=>.inl e,s1.i.trans (.new hw)⟩
  have s2:=s1.trans st;exact Vi s2.i s2.h hl' (Jeb _) fun v H2 H2' s3 r3=>q v H2 H2' (s2.comp s3 fun _ y=>y) r3
 ·cases e
end
end LE

namespace L2
open PySem PyProof.Rows PySem.W PySem.Spec
section
variable{X:Cx}
end
end L2
namespace LE
open PySem L2 LR
section
variable{K:Frag}{C:Addr}
end
end LE

namespace L2
open PySem PyProof.Rows PySem.W PySem.Spec
noncomputable def JmX(i j:Int):Prop:=0<j/\j.natAbs<=10 ^ 200
theorem Jod{j:Int}(h:j.natAbs<=10 ^ 200):j.natAbs.log2<9000:=by
 by_cases h0:j.natAbs=0
 ·rw[h0];decide +kernel
 ·have h1:j.natAbs.log2<1000:=by rw[Nat.log2_lt h0];exact G1 h (by decide +kernel)
  omega
theorem JjF{X:Cx}:OpR X (binaryOp .FloorDiv) (rI JmX fun i j=>.int (i / j)):=opI fun i j _ _ _ _ _ hc q=>by have h1:(0:Int)<j:=hc.1;exact floordiv_int (by omega) (by rw[Ml i (by omega)];exact q) (.inl (PyProof.noPylong_of_log2 (Jod hc.2)))
end L2
namespace LE
open PySem L2 LR
noncomputable abbrev JiW:=fIc (fun _ b=>decide (0<b) && VT b) fun a b=>.int (a / b)
section
variable{K:Frag}{C:Addr}
theorem Jon:OpS K C (rI JmX fun i j=>.int (i / j)) JiW:=JhV (fun i j h=>by simp only[QM,VT,KH,decide_eq_true_eq] at h;exact h) fun _ _ _=>.int _
end
theorem JiX{a b:Int}(h:0<b/\b.natAbs<=10 ^ 200):JiW (.sh (.int a)) (.sh (.int b))=some (.sh (.int (a / b))):=by show(if (decide (0<b) && VT b)=true then _ else _)=_;rw[if_pos];rw[QM];exact⟨decide_eq_true h.1,KH.mpr h.2⟩
end LE

namespace L2
open PySem PyProof.Rows PySem.W PySem.Spec
section
variable{prog:Program}{w:World}{A:Around}{E:Value->Shared->Prop}{s:Shared}
end
section
variable{prog:Program}{w:World}{A:Around}{R:Result->Shared->Prop}{I:Addr}{fp wr:List Addr}{G:Array GenState->Array GenState->Prop}{n:Nat}{P:Nat->Value->Prop}{St:Nat->Shared->Prop}
end
section
variable{prog:Program}{w:World}{A:Around}{E:Value->Shared->Prop}{s:Shared}
end
end L2

namespace L2
open PySem PyProof.Rows PySem.W PySem.Spec
end L2
namespace LE
open PySem L2 LR
noncomputable def prs?:List D->Option (List PrI)
 | []=>some []
 | .tup [.int a,.int b]::r=>(prs? r).map ((a,b)::·)
 | _=>none
theorem JgK:∀ps:List PrI,prs? (ps.map prE)=some ps
 | []=>rfl
 | p::ps=>by show(prs? (ps.map prE)).map _=_;rw[JgK ps];rfl
section
variable{K:Frag}{C:Addr}{td:TE}{ed:Ev}
end
end LE

end
open L2 LR
local macro_rules | `(tactic| walk_at "side")=>`(tactic| first | decide | exact⟨by decide,by decide,by decide⟩ | exact⟨by decide,by decide⟩ | (show(0:Int)<_;omega) | (show(0:Int)<_/\_<(1073741824:Int);omega) | exact Or.inl ⟨by omega,by omega⟩ | exact Or.inr ⟨by omega,by omega⟩ | assumption)
local macro_rules | `(tactic| walk_at "rd1")=>`(tactic| with_reducible first | refine Jo1 ?_ | refine JoT ?_ | refine JoU ?_ | refine Jmh ?_ | refine Jmm ?_ | refine Jqq ?_ | refine Jmp ?_ | refine JoS ?_ | refine Jmg ?_ | refine JoZ ?_ | refine Jqo ?_ | refine JgQ ?_ | refine LR.JgS ?_ | refine Jo2 ?_ | refine Jj5 ?_ | refine Jj4 ?_ | refine Jmi ?_ | refine Jmo ?_ | refine Jo4 ?_ | refine JqO ?_ | refine Jqp ?_ | refine Jmf ?_ | refine Jmn ?_ | refine Jj6 ?_ | refine Jj7 ?_ | refine Exists.intro _ (And.intro (LR.tru_bl _ _ _) ?_))
local macro_rules | `(tactic| walk_at "rd2")=>`(tactic| first |((with_reducible refine Jo3 (v:=?vv) ?hx ?_);(case hx=>exact rfl)) | (with_reducible refine Exists.intro _ (And.intro (Eq.refl (V.bl _)) ?_)))
local macro_rules | `(tactic| walk_at "rd")=>`(tactic| repeat (first | walk_at "rd1" | walk_at "rd2"))
noncomputable section
namespace LK
open PySem L2 LR LE
noncomputable def JH:List Sl->Option Sl:=Y0 2 (Jt (xIf (tB? (e2 fLt (Jd 1) (eF ZC (aC (Jd 0) a0)))) (Yl (e2 fIx (Jd 0) (Jd 1))) Yb)
 (Yl (eC (.int 0))))
noncomputable def JX:List Sl->Option Sl:=Y0 3 (Jt (VN (iR2 (aC (eC (.int 1)) (aC (eF ZC (aC (Jd 0) a0)) a0))) (.nm 1) (Jt (JE 2 (e2 YW (e2 YW (e2 fIx (e2 fIx (Jd 0) (Jd 1)) (eC (.int 0))) (e2 fIx (e2 fIx (Jd 0) (e2 YW (Jd 1) (eC (.int 1)))) (eC (.int 0)))) (e2 fIx (e2 fIx (Jd 0) (e2 YW (Jd 1) (eC (.int 1)))) (eC (.int 1)))))
 (xIf (tOr? (tB? (e2 fGt (e2 fIx (e2 fIx (Jd 0) (e2 YW (Jd 1) (eC (.int 1)))) (eC (.int 1))) (e2 fIx (e2 fIx (Jd 0) (Jd 1)) (eC (.int 1))))) (tB? (e2 fLt (Jd 2) (e2 fIx (e2 fIx (Jd 0) (e2 YW (Jd 1) (eC (.int 1)))) (eC (.int 1)))))) (Yl (eC (.bl false))) Yb)))
 (Yl (eC (.bl true))))
noncomputable def Yc:List Sl->Option Sl:=Y0 2 (Yl (Ua (Jds true (aC (e1 Ve (Jd 0)) a0)) (.tp (.cons (.nm 0) (.cons (.nm 1) .nil))) yes? (Uu (aC (e2 Ub (e2 fIx (Jd 1) (eC (.int 0))) (e2 Jac (e2 Jac (eC (.int 2)) (Jd 2)) (Jd 0))) (aC (e2 Ub (e2 fIx (Jd 1) (eC (.int 1))) (Jd 2)) a0))) [none,none,some 1]))
noncomputable def Yz:List Sl->Option Sl:=Y0 2 (Yl (eF ZD (aC (eU 2 Yc (aC (Jd 0) (aC (Jd 1) a0))) a0)))
noncomputable def Yq:List Sl->Option Sl:=Y0 2 (Yl (eF Jb9 (aC (Ua (iE true (e1 Ve (Jd 0))) (.tp (.cons (.nm 0) (.cons (.nm 1) .nil))) yes? (eF Jln (aC (eC (.int 0)) (aC (eF Je0 (aC (Jd 1) (aC (e2 YW (Jd 2) (Jd 0)) a0))) a0))) [none,none,some 1]) a0)))
noncomputable def Uf:List Sl->Option Sl:=Y0 8 (Jt (W7 2 (VP a0))
 (Jt (JE 3 (eC (.int 0)))
 (Jt (VN (Jds false (aC (Jd 1) a0)) (.tp (.cons (.nm 4) (.cons (.nm 5) .nil))) (Jt (JE 6 (eU 2 Yq (aC (Jd 0) (aC (Jd 5) a0))))
 (Jt (JE 7 (e2 YW (Jd 6) (Jd 3)))
 (Jt (Ja2 2 (Uu (aC (e2 YW (e2 Ub (Jd 5) (e2 Jac (eC (.int 2)) (Jd 4))) (Jd 7)) (aC (e2 Ub (Jd 7) (eC (.int 1))) a0))))
 (JE 3 (Jd 6))))))
 (Vb 2))))
noncomputable def Ux:List Sl->Option Sl:=Y0 5 (Jt (xIf (tB? (e2 fGt (e2 Ub (eF ZC (aC (e1 Ve (Jd 0)) a0)) (eF Jb9 (aC (Ua (iE true (Jd 1)) (.tp (.cons (.nm 0) (.cons (.nm 1) .nil))) yes? (Jd 1) [none,none]) a0))) (eC (.int 30)))) V3 Yb)
 (Jt (W7 2 (Ua (iE true (e1 Ve (Jd 0))) (.tp (.cons (.nm 0) (.cons (.nm 1) .nil))) yes? (e2 Ub (Jd 0) (Jd 1)) [none,none]))
 (Jt (VN (iV 1) (.tp (.cons (.nm 3) (.cons (.nm 4) .nil))) (JfN 2 (e2 Ji1 (VP (aC (Jd 3) a0)) (Jd 4))))
 (Yl (eF ZD (aC (eU 2 Uf (aC (Jd 0) (aC (eF Wa (aC (Jd 2) a0)) a0))) a0))))))
noncomputable def J5:List Sl->Option Sl:=Y0 5 (Jt (JE 1 (eC .non))
 (Jt (VN (iV 0) (.tp (.cons (.nm 2) (.cons (.nm 3) (.cons (.nm 4) .nil)))) (Jt (xIf (tOr? (tB? (e2 fLt (Jd 2) (eC (.int 1)))) (tB? (e2 fLt (Jd 4) (eC (.int 1))))) V3 Yb)
 (Jt (xIf (tAnd? (tB? (e2 Zc (Jd 1) (eC .non))) (tB? (e2 JiY (Uu (aC (Jd 2) (aC (Jd 3) a0))) (Jd 1)))) V3 Yb)
 (JE 1 (Uu (aC (Jd 2) (aC (Jd 3) a0)))))))
 (xIf (tB? (e2 fGt (eF Jb9 (aC (Ua (iE true (Jd 0)) (.tp (.cons (.nm 0) (.cons (.nm 1) (.cons (.nm 2) .nil)))) yes? (Jd 2) [none,none,none]) a0)) (eC (.int 30)))) V3 Yb)))
noncomputable def UR:List Sl->Option Sl:=Y0 8 (Jt (JeC (eU 1 J5 (aC (Jd 0) a0)))
 (Jt (W7 1 Jdf)
 (Jt (JmU (iV 0) (.tp (.cons (.nm 2) (.cons (.nm 3) (.cons (.nm 4) .nil)))) 1 (Jd 2) (Uu (aC (Jd 3) (aC (Jd 4) a0))))
 (Jt (JE 5 (JeX (Jd 1)))
 (Jt (JE 6 (eF ZD (aC (VP a0) a0)))
 (Jt (VN (JnW false (aC (JiP (aC (e2 Ub (VP (aC (eC (.int 0)) a0)) (Jd 5)) (aC (Jd 5) a0))) a0)) (.tp (.cons (.nm 7) (.cons (.nm 2) .nil))) (JE 6 (eU 2 Yz (aC (eU 2 Ux (aC (Jd 6) (aC (Jk6 (Jd 1) (Jd 2)) a0))) (aC (e2 YW (e2 YW (Jd 2) (Jd 7)) (eC (.int 1))) a0)))))
 (Vb 6)))))))
noncomputable def Ug:List Sl->Option Sl:=Y0 2 (Yl (eIf (tB? (e2 fIs (Jd 1) (eC .non))) (Jd 0) (eF Je0 (aC (Jd 0) (aC (Jd 1) a0)))))
noncomputable def Yr:List Sl->Option Sl:=Y0 1 (xIf (tAnd? (tB? (e2 Zc (Jd 0) (eC .non))) (tB? (e2 fLt (Jd 0) (eC (.int 1))))) V3 Yb)
noncomputable def Uy:List Sl->Option Sl:=Y0 3 (Jt (JeC (eU 1 Yr (aC (Jd 1) a0)))
 (Jt (JeC (eU 1 J5 (aC (Jd 0) a0)))
 (Yl (Ua (iE true (Jd 0)) (.tp (.cons (.nm 0) (.cons (.nm 1) (.cons (.nm 2) .nil)))) yes? (Uu (aC (Jd 0) (aC (e2 Ub (Jd 1) (e2 Jdl (Jd 3) (eU 2 Ug (aC (Jd 0) (aC (Jd 4) a0))))) (aC (Jd 2) a0)))) [none,none,none,some 2,some 1]))))
noncomputable def Yx:List Sl->Option Sl:=Y0 5 (Jt (W7 1 (VP a0))
 (Jt (VN (iV 0) (.tp (.cons (.nm 2) (.cons (.nm 3) .nil))) (xIf (tAnd? (tTru? (Jd 1)) (tB? (e2 fEq (eF Jb9 (aC (e2 fIx (Jd 1) (e1 Je1 (eC (.int 1)))) a0)) (Jd 2)))) (Jt (JmV 1 4 some)
 (Ja2 1 (Uu (aC (e2 fIx (Jd 4) (eC (.int 0))) (aC (e2 Ub (e2 fIx (Jd 4) (eC (.int 1))) (Jd 3)) a0))))) (xIf (tB? (e2 fGt (Jd 3) (eC (.int 0)))) (Ja2 1 (Uu (aC (Jd 2) (aC (Jd 3) a0)))) Yb)))
 (Vb 1)))
noncomputable def Uv:List Sl->Option Sl:=Y0 1 (Yl (Ua (Jlx true (aC (e1 Ve (Jd 0)) (aC (eSl (e1 Ve (Jd 0)) (some (eC (.int 1))) none) a0))) (.tp (.cons (.nm 0) (.cons (.nm 1) .nil))) yes? (e2 YW (e2 fIx (Jd 1) (eC (.int 0))) (eF Jb9 (aC (Jd 0) a0))) [none,none]))
noncomputable def J4:List Sl->Option Sl:=Y0 1 (Yl (eF Jgf (aC (e2 Ub (Ua (iE true (e1 Ve (Jd 0))) (.tp (.cons (.nm 0) (.cons (.nm 1) .nil))) yes? (Jd 1) [none,none]) (eU 1 Uv (aC (Jd 0) a0))) a0)))
noncomputable def Yg:List Sl->Option Sl:=Y0 5 (Jt (JE 2 (eF ZD (aC (e1 Ve (Jd 0)) a0)))
 (Jt (JE 3 (Jd 1))
 (Jt (Y9 (tAnd? (tB? (e2 fGt (Jd 3) (eC (.int 0)))) (tTru? (e1 Ve (Jd 2)))) (Jt (JE 4 (eF Je0 (aC (Jd 3) (aC (eU 1 J4 (aC (Jd 2) a0)) a0))))
 (Jt (JE 2 (eF ZD (aC (eU 1 Yx (aC (eU 2 Yc (aC (Jd 2) (aC (e1 Je1 (Jd 4)) a0))) a0)) a0)))
 (JeA (fun i j=>i-j) 3 (Jd 4)))) 1000000)
 (Vb 2))))
noncomputable def Ud:List Sl->Option Sl:=Y0 2 (Yl (eF Jli (aC (Ua (iE true (e1 Ve (Jd 0))) (.tp (.cons (.nm 0) (.cons (.nm 1) .nil))) yes? (JeW fLe fLt (Jd 0) (Jd 2) (e2 Ub (Jd 0) (Jd 1))) [none,none,some 1]) a0)))
noncomputable def Uw:List Sl->Option Sl:=Y0 2 (Yl (eIf (tAnd? (tTru? (eU 2 Ud (aC (Jd 0) (aC (e2 YW (Jd 1) (eC (.int 1))) a0)))) (tNot? (tTru? (eU 2 Ud (aC (Jd 0) (aC (Jd 1) a0)))))) (eC (.int 1)) (eC (.int 0))))
noncomputable def Uz:List Sl->Option Sl:=Y0 6 (Jt (JE 1 (eU 2 Yg (aC (Jd 0) (aC (eC (.int 1)) a0))))
 (Jt (W7 2 Jdf)
 (Jt (VN (Jds false (aC (e1 Ve (Jd 0)) a0)) (.tp (.cons (.nm 3) (.cons (.nm 4) .nil))) (Jt (JE 5 (e2 YW (e2 YW (eF Jb9 (aC (Jd 4) a0)) (eC (.int 1))) (e2 Jac (eC (.int 2)) (Jd 3))))
 (JeB 2 (Jd 5) (e2 Ub (Jb2 (Jd 2) (Jd 5) (eC (.int 0))) (eC (.int 1))))))
 (Jhd 2 (Yl (Ua (Je6 (Jd 2)) (.tp (.cons (.nm 0) (.cons (.nm 1) .nil))) yes? (Uu (aC (Jd 0) (aC (Jd 1) (aC (eU 2 Uw (aC (Jd 2) (aC (Jd 0) a0))) a0)))) [none,none,some 1]))))))
noncomputable def Ye:List Sl->Option Sl:=Y0 5 (Jt (W7 1 (VP a0))
 (Jt (JE 2 (Jd 0))
 (Jt (JE 3 (eC (.int 0)))
 (Jt (Y9 (tTru? (e1 Ve (Jd 2))) (Jt (JE 4 (eU 1 J4 (aC (Jd 2) a0)))
 (Jt (JeA (fun i j=>i+j) 3 (Jd 4))
 (Jt (JE 2 (eU 2 Yg (aC (Jd 2) (aC (e2 YW (Jd 4) (eC (.int 1))) a0))))
 (Jt (JfN 1 (Ua (iE true (eU 1 Uz (aC (Jd 2) a0))) (.tp (.cons (.nm 0) (.cons (.nm 1) (.cons (.nm 2) .nil)))) (tB? (e2 fGt (Jd 1) (Jd 2))) (Uu (aC (Jd 3) (aC (Jd 0) (aC (e2 YW (Jd 1) (Jd 2)) a0)))) [none,none,none,some 3]))
 (JE 2 (eU 2 Yg (aC (Jd 2) (aC (eC (.int 1)) a0)))))))) 1000000)
 (Vb 1)))))
noncomputable def YY:List Sl->Option Sl:=Y0 3 (Yl (eU 1 UR (aC (eU 3 Uy (aC (eU 1 Ye (aC (Jd 0) a0)) (aC (Jd 1) (aC (Jd 2) a0)))) a0)))
noncomputable def JV:List Sl->Option Sl:=Y0 4 (Jt (JE 3 (e1 Ve (eU 3 YY (aC (Jd 0) (aC (eC .non) (aC (Jd 2) a0))))))
 (Jt (xIf (tB? (e2 fNe (Jd 3) (eF Ze (aC (Ua (iE true (Jd 1)) (.tp (.cons (.nm 0) (.cons (.nm 1) .nil))) yes? (Uu (aC (e2 Ub (Jd 1) (e2 Jdl (Jd 0) (Jd 2))) (aC (Jd 0) a0))) [none,none,some 2]) a0)))) (Yl (eC (.bl false))) Yb)
 (Yl (eU 1 JX (aC (Jd 3) a0)))))
noncomputable def YH:List Sl->Option Sl:=Y0 1 (Yl (Ua (Jlx true (aC (Jd 0) (aC (eSl (Jd 0) (some (eC (.int 1))) none) a0))) (.tp (.cons (.nm 0) (.cons (.nm 1) .nil))) (tB? (e2 fNe (e2 fIx (Jd 0) (eC (.int 0))) (e2 fIx (Jd 1) (eC (.int 0))))) (Uu (aC (Jd 0) (aC (Jd 1) a0))) [none,none]))
noncomputable def Ys:List Sl->Option Sl:=Y0 5 (Jt (W7 1 (VP a0))
 (Jt (VN (iE false (eU 1 Ye (aC (Jd 0) a0))) (.tp (.cons (.nm 2) (.cons (.nm 3) (.cons (.nm 4) .nil)))) (JfN 1 (e2 Ji1 (VP (aC (Uu (aC (Jd 2) (aC (Jd 3) a0))) a0)) (Jd 4))))
 (Vb 1)))
noncomputable def JW:List Sl->Option Sl:=Y0 5 (Jt (W7 1 (VP a0))
 (Jt (JE 2 (eC (.int 0)))
 (Jt (VN (iE false (eU 1 Ys (aC (Jd 0) a0))) (.tp (.cons (.nm 3) (.cons (.nm 4) .nil))) (Jt (Ja2 1 (Uu (aC (Jd 3) (aC (e2 Ub (Jd 4) (e2 Jac (eC (.int 2)) (Jd 2))) a0))))
 (JeA (fun i j=>i+j) 2 (Jd 3))))
 (Vb 1))))
noncomputable def Ue:List Sl->Option Sl:=Y0 2 (Jt (JE 1 (eU 1 YH (aC (eU 1 JW (aC (Jd 0) a0)) a0)))
 (Yl (eF Jge (aC (Ua (iE true (Jd 1)) (.tp (.cons (.nm 0) (.cons (.nm 1) .nil))) yes? (e1 Je1 (e2 JiW (e2 YW (e2 YW (e2 fIx (Jd 1) (eC (.int 1))) (e2 fIx (Jd 0) (eC (.int 1)))) (e2 Jac (eC (.int 2)) (e2 fIx (Jd 0) (eC (.int 0))))) (e2 YW (e2 fIx (Jd 1) (eC (.int 0))) (e2 fIx (Jd 0) (eC (.int 0)))))) [none,none]) a0))))
noncomputable def YZ:List Sl->Option Sl:=Y0 5 (Jt (W7 1 Jdf)
 (Jt (VN (iE false (eU 1 Ye (aC (Jd 0) a0))) (.tp (.cons (.nm 2) (.cons (.nm 3) (.cons (.nm 4) .nil)))) (JeB 1 (Jd 2) (e2 Ub (Jb2 (Jd 1) (Jd 2) (eC (.int 0))) (Jd 4))))
 (Yl (Jb3 (Jd 1)))))
noncomputable def Yy:List Sl->Option Sl:=Y0 4 (Jt (xIf (tOr? (tNot? (tTru? (JaV "list" (Jd 0)))) (tB? (e2 fNe (eF ZC (aC (Jd 0) a0)) (Jd 1)))) (Yl (eC (.bl false))) Yb)
 (Jt (VN (iV 0) (.nm 2) (Jt (xIf (tOr? (tNot? (tTru? (JaV "tuple" (Jd 2)))) (tB? (e2 fNe (eF ZC (aC (Jd 2) a0)) (eC (.int 2))))) (Yl (eC (.bl false))) Yb)
 (VN (iV 2) (.nm 3) (xIf (tOr? (tNot? (tTru? (JaV "int" (Jd 3)))) (tTru? (JaV "bool" (Jd 3)))) (Yl (eC (.bl false))) Yb))))
 (Yl (eC (.bl true)))))
noncomputable def Yd:List Sl->Option Sl:=Y0 8 (Jt (JE 4 (e2 YW (e2 Zd (eU 2 JH (aC (Jd 0) (aC (Jd 1) a0))) (e2 Ub (e2 Jac (eC (.int 2)) (Jd 3)) (eC (.int 1)))) (Jd 3)))
 (Jt (W7 5 (VP a0))
 (Jt (VN (iR1 (aC (Jd 2) a0)) (.nm 6) (Jt (JE 7 (e2 Ub (eC (.int 1)) (e2 Zd (eU 2 JH (aC (Jd 0) (aC (e2 Ub (e2 Ub (Jd 1) (eC (.int 1))) (e2 Jac (eC (.int 2)) (Jd 6))) a0))) (Jd 3))))
 (Jt (Ja2 5 (Uu (aC (Jd 4) (aC (Jd 7) a0))))
 (JE 4 (e2 Ub (e2 Ub (e2 Ub (Jd 4) (Jd 7)) (eC (.int 1))) (e2 Zd (eU 2 JH (aC (Jd 0) (aC (e2 Ub (e2 Ub (Jd 1) (eC (.int 2))) (e2 Jac (eC (.int 2)) (Jd 6))) a0))) (Jd 3)))))))
 (Vb 5))))
noncomputable def JeZ:List Sl->Option Sl:=Y0 11 (Jt (JE 1 (eU 2 JH (aC (Jd 0) (aC (eC (.int 0)) a0))))
 (Jt (JE 2 (eU 4 Yd (aC (Jd 0) (aC (eC (.int 2)) (aC (e2 Zd (Jd 1) (eC (.int 19))) (aC (e2 fIx (VP (aC (eC (.int 3)) (aC (eC (.int 7)) (aC (eC (.int 1000)) (aC (e2 Jdm (eC (.int 10)) (eC (.int 50))) a0))))) (e2 Zd (e2 Jlk (Jd 1) (eC (.int 19))) (eC (.int 4)))) a0))))))
 (Jt (JE 3 (eF ZD (aC (Jd 2) a0)))
 (Jt (W7 4 (eU 1 JW (aC (Jd 3) a0)))
 (Jt (Ja2 4 (Uu (aC (eC (.int 0)) (aC (eC (.int 0)) a0))))
 (Jt (JeD 4)
 (Jt (JE 5 (eU 1 JW (aC (Jd 3) a0)))
 (Jt (xIf (tNot? (tTru? (eU 2 Yy (aC (Jd 5) (aC (eF ZC (aC (Jd 2) a0)) a0))))) (Yl (eC (.bl false))) Yb)
 (Jt (JE 6 (Ua (iE true (Jd 5)) (.tp (.cons (.nm 0) (.cons (.nm 1) .nil))) yes? (Jd 0) [none,none]))
 (Jt (xIf (tB? (e2 fNe (Jd 6) (eF Wa (aC (Jd 6) a0)))) (Yl (eC (.bl false))) Yb)
 (Jt (xIf (tB? (e2 fNe (eU 1 YZ (aC (Jd 3) a0)) (Ua (iE true (Jb4 (Jd 6))) (.nm 0) yes? (Uu (aC (Jd 0) (aC (eMI Jdk (Jd 1) (Jd 0)) a0))) [none,some 6]))) (Yl (eC (.bl false))) Yb)
 (Jt (JE 7 (eU 1 Ue (aC (Jd 3) a0)))
 (Jt (xIf (tB? (e2 fIs (Jd 7) (eC .non))) (Jt (JE 8 (e2 Zd (eU 2 JH (aC (Jd 0) (aC (eC (.int 1)) a0))) (e2 Jdm (eC (.int 10)) (eC (.int 20)))))
 (Jt (VN (iE false (VP (aC (eC (.int 0)) (aC (Jd 8) (aC (e2 YW (eC (.int 0)) (Jd 8)) a0))))) (.nm 9) (xIf (tNot? (tTru? (eU 3 JV (aC (Jd 3) (aC (Jd 5) (aC (Jd 9) a0)))))) (Yl (eC (.bl false))) Yb))
 (Yl (eC (.bl true))))) Yb)
 (Jt (xIf (tOr? (tNot? (tTru? (JaV "int" (Jd 7)))) (tTru? (JaV "bool" (Jd 7)))) (Yl (eC (.bl false))) Yb)
 (Jt (xIf (tTru? (eU 1 JX (aC (e1 Ve (eU 3 YY (aC (Jd 3) (aC (eC .non) (aC (e2 YW (Jd 7) (eC (.int 1))) a0))))) a0))) (Yl (eC (.bl false))) Yb)
 (Jt (VN (iE false (VP (aC (eC (.int 0)) (aC (eC (.int 1)) (aC (e2 Zd (eU 2 JH (aC (Jd 0) (aC (eC (.int 1)) a0))) (e2 Jdm (eC (.int 10)) (eC (.int 20)))) a0))))) (.nm 10) (xIf (tNot? (tTru? (eU 3 JV (aC (Jd 3) (aC (Jd 5) (aC (e2 Ub (Jd 7) (Jd 10)) a0)))))) (Yl (eC (.bl false))) Yb))
 (Yl (e2 fEq (e1 Ve (Jd 3)) (eF Ze (aC (Jd 2) a0))))))))))))))))))))
end LK
end
namespace LK
open PySem L2 LR LE
local macro_rules | `(tactic| omega)=>`(tactic| first | lia | omega (config:={}))
local macro_rules | `(tactic| walk_at "sd")=>`(tactic| first | omega (config:={}) | assumption | (simp only[Qu,Qm,KJ,Qp,G8,Go];omega (config:={})))
local macro_rules | `(tactic| walk_at "ev")=>`(tactic| simp -implicitDefEqProofs (disch:=walk_at "sd") only[Y0,JmG,Int.reduceToNat,Qp,G8,Nat.reduceAdd,Nat.reduceSub,Nat.reduceLT,Nat.reduceLeDiff,Q6,Nat.zero_lt_succ,Nat.succ_lt_succ_iff,Rt,KS,KA,Kz,List.set_cons_zero,List.set_cons_succ,List.getElem?_cons_succ,List.getElem?_cons_zero,Qm,KJ,List.length_set,QP,Ma,Option.bind_none,Option.map_none,if_true,if_false,ite_true,ite_false,decide_true,decide_false,Bool.not_true,Bool.not_false,Bool.and_true,Bool.true_and,reduceIte,reduceCtorEq,Kf,Qd,K2,if_pos,
 Jt,xIf,Yl,Vb,Yb,W7,JE,JeC,Ja2,JfN,JmV,JeA,Jdf,Jk6,Jb2,JeB,Jhd,Je6,Jb3,JeD,JeX,Jb4,JgK,JiP,lst?,eMI,Jlm,Sl.dk,int?,VN,tB?,tTru?,tAnd?,tOr?,tNot?,Jpq,e2,e1,Jd,eF,eC,aC,a0,eU,ZP,Sl.pass,Uu,VP,Jad,Sl.frz,eIf,JeW,sh?,bool?,keep?,JaV,tyN,Joq,Jmx,Jmy,Jk9,Jla,
 JpM,Jlp,Ji0,Jlo,Jll,JiX,Jlr,Jlq,Jlf,Jlg,Jlh,JnP,JnO,JnQ,JpO,JpQ,JpN,JpP,Ze,Jln,Je0,Ve,Sl.q,Sl.r,Sl.m,Sl.d,Sl.it,fEq,fNe,JnN,JnL,JnM,JnK,fIs,Zc,JhG,JhF,JhH,iE,iV,iR1,iR2,Ua,WT,Jlx,JnW,Jds,Wa,Jgf,Jge,Jai,eSl,Z3,fSl,Je7,Jn8,JlB,Joa,Jn9,JpC,JpD,JkS,Jio,JqH,JqI,eq_self])
noncomputable section
theorem Zi(ns:List Int)(k:Int)(hk:0<=k):JH [.sh (.fz (ns.map .int)),.sh (.int k)]=some (.sh (.int (cell ns k))):=by
 unfold JH;walk_at "ev"
 by_cases h:k<(ns.length:Int)
 ·simp only[h,JbP,Jc1 hk h];walk_at "ev"
 ·simp only[h,JiH h];walk_at "ev"
theorem Good.cons'{p:Pr}{ps:List Pr}(g:Good (p::ps)):Good ps:=⟨fun i q e=>g.one (i+1) q (by simpa using e),fun i q r e1 e2=>g.gap (i+1) q r (by simpa using e1) (by simpa using e2)⟩
theorem Good.all{ps:List Pr}(g:Good ps):∀p∈ps,1<=p.2:=fun p hp=>by obtain⟨i,hi,e⟩:=Gh.mp hp;exact g.one i p (by simp[hi,e])
theorem Good.first{p:Pr}:∀{ps:List Pr},Good (p::ps)->∀q∈ps,p.1+p.2<q.1
 | [],_,q,hq=>nomatch hq
 | r::ps,g,q,hq=>by
  have h1:=g.gap 0 p r rfl rfl;rcases Qh.mp hq with z|z
  ·rw[z];exact h1
  ·have h2:=Good.first (Good.cons' g) q z
   have h3:=g.one 1 r rfl;omega
theorem Good.pw:∀{ps:List Pr},Good ps->ps.Pairwise fun p q=>p.1+p.2<q.1
 | [],_=>.nil
 | p::ps,g=>.cons (Good.first g) (Good.pw (Good.cons' g))
theorem Jiu{α:Type}{xs:List α}{x:α}(h:xs[xs.length-1]?=some x):atI xs (-1)=some x:=by
 have hl:=(Qk.mp h).1;unfold atI ixN;rw[if_neg (by omega),if_pos (by omega)]
 have:((-1:Int)+(xs.length:Int)).toNat=xs.length-1:=by omega
 rw[this];exact h
theorem VF(p:Pr):fIx (.sh (prE p)) (.sh (.int 0))=some (.sh (.int p.1)):=rfl
theorem Wt(p:Pr):fIx (.sh (prE p)) (.sh (.int 1))=some (.sh (.int p.2)):=rfl
noncomputable def Vg:List Pr->List Int
 | []=>[]
 | [_]=>[]
 | p::q::r=>(q.1-(p.1+p.2))::Vg (q::r)
theorem Jbr:∀ps:List Pr,Vg ps=(MQ ps (ps.drop 1)).map fun pq=>pq.2.1-(pq.1.1+pq.1.2)
 | []=>rfl
 | [_]=>rfl
 | p::q::r=>by rw[Vg,Jbr (q::r)];rfl
theorem Jbq:∀ps:List Pr,(Vg ps).length=ps.length-1
 | []=>rfl
 | [_]=>rfl
 | p::q::r=>by rw[Vg,Qp,Jbq (q::r)];simp
theorem Jda{α:Type}(xs:List α):JeV xs (some 1) none=xs.drop 1:=by
 unfold JeV;have e:HT.sIx xs.length 0 (some 1)=min 1 xs.length:=rfl;rw[e,show HT.sIx xs.length xs.length none=xs.length from rfl]
 cases xs with
 | nil=>rfl
 | cons x xs=>simp
theorem Joh(ps:List Pr)(h:ps.length<=1000):Uv [.sh (.row (ps.map prE))]=some (.own ((Vg ps).map .int)):=by
 unfold Uv;walk_at "ev";rw[Jda,<- List.map_drop,JcS];walk_at "ev";have hz:(MQ ps (ps.drop 1)).length<=16777216:=by rw[GQ];omega
 rw[if_pos hz,Yf (g:=fun pq=>D.int (pq.2.1-(pq.1.1+pq.1.2)))]
 ·walk_at "ev";rw[Jbr,QA];rfl
 ·intro pq _;walk_at "ev";rw[VF];walk_at "ev";rw[Wb (ns:=[pq.1.1,pq.1.2]) rfl];walk_at "ev";simp
theorem WI{α:Type}{xs:List α}{k:Nat}{x:α}(h:xs[k]?=some x):atI xs (k:Int)=some x:=by obtain⟨h1,h2⟩:=Qk.mp h;rw[Jc2 h1,h2]
theorem Good.mk'{p:Pr}{ps:List Pr}(h1:1<=p.2)(h2:∀q,ps[0]?=some q->p.1+p.2<q.1)(g:Good ps):Good (p::ps):=by
 refine⟨fun i q e=>?_,fun i q r e1 e2=>?_⟩
 ·cases i with
  | zero=>simp at e;subst e;exact h1
  | succ i=>exact g.one i q (by simpa using e)
 ·cases i with
  | zero=>simp at e1;subst e1;exact h2 r (by simpa using e2)
  | succ i=>exact g.gap i q r (by simpa using e1) (by simpa using e2)
noncomputable def byF(k:Int)(ps:List Pr):List Pr:=ps.mapIdx fun i p=>(p.1+2*k*(i:Int),p.2+k)
theorem Vk(k:Int)(ps:List Pr):(byF k ps).length=ps.length:=by unfold byF;rw[List.length_mapIdx]
theorem JbU{k:Int}{ps:List Pr}{i:Nat}{x:Pr}(e:(byF k ps)[i]?=some x):∃p,ps[i]?=some p/\x=(p.1+2*k*(i:Int),p.2+k):=by unfold byF at e;rw[QD,Gb] at e;obtain⟨p,h,rfl⟩:=e;exact⟨p,h,rfl⟩
theorem JfX(a b:Int)(ps:List Pr):byF a (byF b ps)=byF (a+b) ps:=by
 refine GN fun i=>?_
 unfold byF;rw[QD,QD,QD,Kj]
 cases ps[i]? with
 | none=>rfl
 | some p=>show some (p.1+2*b*(i:Int)+2*a*(i:Int),p.2+b+a)=some (p.1+2*(a+b)*(i:Int),p.2+(a+b));rw[MC,KZ];congr 2 <;> omega
theorem WK(ps:List Pr):byF 0 ps=ps:=by
 refine GN fun i=>?_
 unfold byF;rw[QD]
 cases ps[i]? with
 | none=>rfl
 | some p=>simp
structure Wide (c:Int) (ps:List Pr):Prop where
 one:∀(i:Nat) (p:Pr),ps[i]?=some p->c<=p.2
 gap:∀(i:Nat) (p q:Pr),ps[i]?=some p->ps[i+1]?=some q->c<=q.1-(p.1+p.2)
theorem Wide.good{c:Int}{ps:List Pr}(h:1<=c)(w:Wide c ps):Good ps:=⟨fun i p e=>by have:=w.one i p e;omega,fun i p q e1 e2=>by have:=w.gap i p q e1 e2;omega⟩
theorem Wide.bys{c k:Int}{ps:List Pr}(w:Wide c ps):Wide (c+k) (byF k ps):=by
 refine⟨fun i x e=>?_,fun i x y e1 e2=>?_⟩
 ·obtain⟨p,h,rfl⟩:=JbU e;have:=w.one i p h;dsimp only;omega
 ·obtain⟨p,h1,rfl⟩:=JbU e1;obtain⟨q,h2,rfl⟩:=JbU e2;have:=w.gap i p q h1 h2;have em:2*k*((i+1:Nat):Int)=2*k*(i:Int)+2*k:=by rw[Ka,MC];simp
  dsimp only;rw[em];omega
theorem Wide.mono{c c':Int}{ps:List Pr}(h:c'<=c)(w:Wide c ps):Wide c' ps:=⟨fun i p e=>by have:=w.one i p e;omega,fun i p q e1 e2=>by have:=w.gap i p q e1 e2;omega⟩
theorem Wide.cons{c:Int}{p:Pr}{ps:List Pr}(w:Wide c (p::ps)):Wide c ps:=⟨fun i q e=>w.one (i+1) q (by simpa using e),fun i q r e1 e2=>w.gap (i+1) q r (by simpa using e1) (by simpa using e2)⟩
noncomputable def clF:Pr->List Pr->List Pr
 | cur,[]=>[cur]
 | cur,p::r=>if cur.1+cur.2=p.1 then clF (cur.1,cur.2+p.2) r else if 0<p.2 then cur::clF p r else clF cur r
noncomputable def clN:List Pr->List Pr
 | []=>[]
 | p::r=>if 0<p.2 then clF p r else clN r
theorem JeT:∀(cur:Pr) (r:List Pr),Good (cur::r)->clF cur r=cur::r
 | cur,[],_=>rfl
 | cur,p::r,g=>by
  have h1:=g.gap 0 cur p rfl rfl
  have h2:=g.one 1 p rfl;rw[clF,if_neg (by omega),if_pos (by omega),JeT p r (Good.cons' g)]
theorem JbX{ps:List Pr}(g:Good ps):clN ps=ps:=by
 cases ps with
 | nil=>rfl
 | cons p r=>rw[clN,if_pos (by have:=g.one 0 p rfl;omega),JeT p r g]
theorem WM:∀(cur:Pr) (r:List Pr),1<=cur.2->Wide 0 r->(∀q,r[0]?=some q->cur.1+cur.2<=q.1)->Good (clF cur r)/\∃q,(clF cur r)[0]?=some q/\q.1=cur.1
 | cur,[],h,_,_=>⟨Good.mk' h (fun q e=>by simp at e) Good.nil,cur,rfl,rfl⟩
 | cur,p::r,h,w,hq=>by
  have h0:=w.one 0 p rfl
  have hb:=hq p rfl
  have nx:∀q,r[0]?=some q->p.1+p.2<=q.1:=fun q e=>by have:=w.gap 0 p q rfl (by simpa using e);omega
  rw[clF];split
  ·next e=>exact WM (cur.1,cur.2+p.2) r (by dsimp only;omega) w.cons fun q e'=>by have:=nx q e';dsimp only;omega
  ·next e =>
   split
   ·next hp=>obtain⟨g,q,e1,e2⟩:=WM p r (by omega) w.cons nx;exact⟨Good.mk' h (fun q' e'=>by rw[e1] at e';cases e';omega) g,cur,rfl,rfl⟩
   ·next hp=>exact WM cur r h w.cons fun q e'=>by have:=nx q e';omega
theorem Z0:∀(ps:List Pr),Wide 0 ps->Good (clN ps)
 | [],_=>Good.nil
 | p::r,w=>by
  rw[clN];split
  ·next h=>exact(WM p r (by omega) w.cons fun q e=>by have:=w.gap 0 p q rfl (by simpa using e);omega).1
  ·exact Z0 r w.cons
theorem ZI:∀(cur:Pr) (r:List Pr),(clF cur r).length<=r.length+1/\((clF cur r).length=r.length+1->(∀p∈r,0<p.2)/\∀(i:Nat) (p q:Pr),(cur::r)[i]?=some p->(cur::r)[i+1]?=some q->p.1+p.2≠q.1)
 | cur,[]=>⟨Qn _,fun _=>⟨fun p hp=>(by cases hp),fun i p q _ e=>(by simp at e)⟩⟩
 | cur,p::r=>by
  rw[clF,Qp];split
  ·next e=>have ih:=(ZI (cur.1,cur.2+p.2) r).1;exact⟨by omega,fun h=>by omega⟩
  ·next e =>
   split
   ·next hp =>
    obtain⟨i1,i2⟩:=ZI p r;refine⟨by rw[Qp];omega,fun h=>?_⟩;obtain⟨a1,a2⟩:=i2 (by rw[Qp] at h;omega);refine⟨fun q hq=>?_,fun i x y e1 e2=>?_⟩
    ·rcases Qh.mp hq with z|z
     ·rw[z];exact hp
     ·exact a1 q z
    ·cases i with
     | zero=>simp at e1 e2;subst e1 e2;exact e
     | succ i=>exact a2 i x y (by simpa using e1) (by simpa using e2)
   ·have ih:=(ZI cur r).1;exact⟨by omega,fun h=>by omega⟩
theorem VD:∀(ps:List Pr),(clN ps).length<=ps.length/\((clN ps).length=ps.length->(∀p∈ps,0<p.2)/\∀(i:Nat) (p q:Pr),ps[i]?=some p->ps[i+1]?=some q->p.1+p.2≠q.1)
 | []=>⟨Qn _,fun _=>⟨fun p hp=>(by cases hp),fun i p q e=>(by simp at e)⟩⟩
 | p::r=>by
  rw[clN,Qp];split
  ·next hp=>obtain⟨i1,i2⟩:=ZI p r;refine⟨i1,fun h=>?_⟩;obtain⟨a1,a2⟩:=i2 h;exact⟨fun q hq=>(Qh.mp hq).elim (fun z=>z▸hp) (a1 q),a2⟩
  ·have ih:=(VD r).1;exact⟨by omega,fun h=>by omega⟩
noncomputable def thF(ps:List Pr):List Pr:=clN (byF (-1) ps)
noncomputable def thN:Nat->List Pr->List Pr
 | 0,ps=>ps
 | n+1,ps=>thN n (thF ps)
theorem ZT(a b:Nat):∀ps:List Pr,thN (a+b) ps=thN b (thN a ps):=by
 induction a with
 | zero=>intro ps;rw[RP];rfl
 | succ a ih=>intro ps;rw[Nat.succ_add];exact ih (thF ps)
theorem JcQ:∀n,thN n []=[]
 | 0=>rfl
 | n+1=>JcQ n
theorem JZ{ps:List Pr}(g:Good ps):Good (thF ps):=Z0 _ (by
 have w:Wide 1 ps:=⟨fun i p e=>g.one i p e,fun i p q e1 e2=>by have:=g.gap i p q e1 e2;omega⟩
 exact w.bys (k:=-1))
theorem Va:∀(n:Nat) {ps:List Pr},Good ps->Good (thN n ps)
 | 0,_,g=>g
 | n+1,_,g=>Va n (JZ g)
theorem JaM:∀(n:Nat) {c:Int} {ps:List Pr},Wide c ps->1<=c->((n:Int)<=c)->thN n ps=clN (byF (-(n:Int)) ps)
 | 0,c,ps,w,h1,_=>by show ps=clN (byF (-((0:Nat):Int)) ps);rw[show -((0:Nat):Int)=0 by simp,WK,JbX (w.good h1)]
 | n+1,c,ps,w,h1,hn=>by
  show thN n (thF ps)=_
  by_cases h:n=0
  ·subst h;rfl
  ·have w1:Wide (c+-1) (byF (-1) ps):=w.bys
   have e:thF ps=byF (-1) ps:=JbX (w1.good (by omega));rw[e,JaM n w1 (by omega) (by omega),JfX];congr 2;omega
theorem JaN{n:Nat}{c:Int}{ps:List Pr}(w:Wide c ps)(h1:1<=c)(h:(n:Int)<c):thN n ps=byF (-(n:Int)) ps:=by rw[JaM n w h1 (by omega),JbX ((w.bys (k:=-(n:Int))).good (by omega))]
noncomputable def Jip(c:Int)(ps:List Pr):Prop:=(∃p∈ps,p.2=c)\/∃(i:Nat) (p q:Pr),ps[i]?=some p/\ps[i+1]?=some q/\q.1-(p.1+p.2)=c
theorem JaO{c:Int}{ps:List Pr}(t:Jip c ps):(clN (byF (-c) ps)).length<ps.length:=by
 obtain⟨h1,h2⟩:=VD (byF (-c) ps);rw[Vk] at h1 h2;rcases Lm (clN (byF (-c) ps)).length ps.length with h|h
 ·exact h
 ·obtain⟨a1,a2⟩:=h2 (by omega)
  exfalso
  rcases t with ⟨p,hp,e⟩|⟨i,p,q,e1,e2,e⟩
  ·obtain⟨i,hi,rfl⟩:=Gh.mp hp
   have hx:(byF (-c) ps)[i]?=some (ps[i].1+2*-c*(i:Int),ps[i].2+-c):=by unfold byF;rw[QD,QT hi];rfl
   have:=a1 _ (QC hx);dsimp only at this;omega
  ·have hx:(byF (-c) ps)[i]?=some (p.1+2*-c*(i:Int),p.2+-c):=by unfold byF;rw[QD,e1];rfl
   have hy:(byF (-c) ps)[i+1]?=some (q.1+2*-c*((i+1:Nat):Int),q.2+-c):=by unfold byF;rw[QD,e2];rfl
   have:=a2 i _ _ hx hy
   have em:2*-c*((i+1:Nat):Int)=2*-c*(i:Int)+2*-c:=by rw[Ka,MC];simp
   dsimp only at this;rw[em] at this;omega
noncomputable def zs(n:Nat):List Int:=Qt n 0
noncomputable def os(n:Nat):List Int:=Qt n 1
noncomputable def byR:Int->List Pr->List Pr
 | _,[]=>[]
 | c,p::r=>(p.1-c,p.2-1)::byR (c+2) r
theorem ZG:∀(ps:List Pr) (c:Int),byR c ps=ps.mapIdx fun i p=>(p.1+2*(-1)*(i:Int)-c,p.2+-1)
 | [],c=>rfl
 | p::r,c=>by
  rw[byR,List.mapIdx_cons,ZG r (c+2)];congr 1
  ·congr 1;simp
  ·refine GN fun i=>?_
   rw[QD,QD]
   cases r[i]? with
   | none=>rfl
   | some q=>simp only[Ma,Ka];congr 2;omega
theorem UI(ps:List Pr):byR 0 ps=byF (-1) ps:=by
 rw[ZG];unfold byF;congr 1
 funext i p
 congr 1;omega
theorem YI{ps:List Pr}(g:Good ps):Wide 1 ps:=⟨fun i p e=>g.one i p e,fun i p q e1 e2=>by have:=g.gap i p q e1 e2;omega⟩
theorem ZZ:∀(r:List Pr) (cur:Pr),∃q,(clF cur r)[0]?=some q/\q.1=cur.1
 | [],cur=>⟨cur,rfl,rfl⟩
 | p::r,cur=>by
  rw[clF];split
  ·obtain⟨q,h1,h2⟩:=ZZ r (cur.1,cur.2+p.2);exact⟨q,h1,h2⟩
  ·split
   ·exact⟨cur,rfl,rfl⟩
   ·exact ZZ r cur
theorem Zq:∀(n:Nat) (ps:List Pr),thN (n+1) ps=thF (thN n ps)
 | 0,ps=>rfl
 | n+1,ps=>by show thN (n+1) (thF ps)=thF (thN n (thF ps));exact Zq n (thF ps)
noncomputable def tkS(x prev pos:Int)(acc:List Pr):List Pr :=
 if x=1/\prev=1 then acc.dropLast++[((acc.getLastD (0,0)).1,(acc.getLastD (0,0)).2+1)] else if x=1 then acc++[(pos,1)] else acc
noncomputable def tk:Int->Int->List Pr->List Int->List Pr
 | _,_,acc,[]=>acc
 | prev,pos,acc,x::r=>tk x (pos+1) (tkS x prev pos acc) r
noncomputable def below(ps:List Pr)(x:Int):Int:=(ps.map fun p=>max 0 (min p.2 (x-p.1))).sum
theorem JN(p:Pr)(ps:List Pr)(x:Int):below (p::ps) x=max 0 (min p.2 (x-p.1))+below ps x:=by unfold below;rw[Qd,Qr]
theorem ZY{ps:List Pr}{x:Int}(h:∀p∈ps,x<=p.1):below ps x=0:=by
 induction ps with
 | nil=>rfl
 | cons p ps ih=>have h1:=h p Qe;rw[JN,ih fun q hq=>h q (Qc _ hq)];omega
noncomputable def J6(ps:List Pr)(y:Int):Bool:=ps.any fun p=>decide (p.1<=y) && decide (y<p.1+p.2)
theorem has_iff{ps:List Pr}{y:Int}:J6 ps y=true↔∃p∈ps,p.1<=y/\y<p.1+p.2:=by unfold J6;rw[KL];simp
theorem Jcg{ps:List Pr}{y:Int}(h:∀p∈ps,p.1<=y->p.1+p.2<=y):J6 ps y=false:=by
 cases e:J6 ps y with
 | false=>rfl
 | true=>obtain⟨p,hp,h1,h2⟩:=has_iff.mp e;have:=h p hp h1;omega
theorem JpZ{l d:Int}(h0:0<=d)(h1:d<l):max 0 (min l (d+1))=max 0 (min l d)+1:=by rw[Gj (by omega),Gj (by omega),Kg (by omega),Kg h0]
theorem Joj{l d:Int}(hl:0<=l)(h:d<0\/l<=d):max 0 (min l (d+1))=max 0 (min l d):=by
 rcases h with h|h
 ·rw[Gj (by omega),Gj (by omega),Lz (by omega),Lz (by omega)]
 ·rw[GR (by omega),GR h]
theorem ZX(y:Int):∀{ps:List Pr},Good ps->below ps (y+1)=below ps y+(if J6 ps y=true then 1 else 0)
 | [],_=>rfl
 | p::ps,g=>by
  have ih:=ZX y (Good.cons' g)
  have hp:=g.one 0 p rfl;rw[JN,JN,ih]
  by_cases h1:p.1<=y/\y<p.1+p.2
  ·have e1:J6 (p::ps) y=true:=has_iff.mpr ⟨p,Qe,h1⟩
   have e2:J6 ps y=false:=Jcg fun q hq hy=>by
    have:=Good.first g q hq
    omega
   rw[e1,e2,if_pos rfl,if_neg (by simp),show y+1-p.1=y-p.1+1 by omega,JpZ (show 0<=y-p.1 by omega) (show y-p.1<p.2 by omega)]
   generalize max 0 (min p.2 (y-p.1))=m
   omega
  ·have e1:J6 (p::ps) y=J6 ps y:=by
    unfold J6;rw[GG]
    have:(decide (p.1<=y) && decide (y<p.1+p.2))=false:=by
     cases h:(decide (p.1<=y) && decide (y<p.1+p.2)) with
     | false=>rfl
     | true=>rw[QM,decide_eq_true_eq,decide_eq_true_eq] at h;exact absurd h h1
    rw[this,GZ]
   rw[e1,show y+1-p.1=y-p.1+1 by omega,Joj (show 0<=p.2 by omega) (show y-p.1<0\/p.2<=y-p.1 by omega),MJ]
theorem Yh(p:Pr)(ps:List Pr)(x:Int):J6 (p::ps) x=((decide (p.1<=x) && decide (x<p.1+p.2)) || J6 ps x):=by unfold J6;rw[GG]
theorem Zf{p:Pr}{ps:List Pr}{x:Int}(h1:p.1<=x)(h2:x<p.1+p.2):J6 (p::ps) x=true:=has_iff.mpr ⟨p,Qe,h1,h2⟩
theorem Jch{p:Pr}{ps:List Pr}{x:Int}(h:p.1+p.2<=x):J6 (p::ps) x=J6 ps x:=by rw[Yh];have:decide (x<p.1+p.2)=false:=decide_eq_false (by omega);rw[this,Rn,GZ]
theorem VG{ps:List Pr}{x:Int}(h:∀p∈ps,x<p.1):J6 ps x=false:=Jcg fun p hp hx=>by have:=h p hp;omega
theorem Jcf:∀{ps qs:List Pr},Good ps->Good qs->(∀x,J6 ps x=J6 qs x)->ps=qs
 | [],[],_,_,_=>rfl
 | [],q::qs,_,g,h=>by have:=h q.1;rw[Zf (Qw _) (by have:=g.one 0 q rfl;omega)] at this;cases this
 | p::ps,[],g,_,h=>by have:=h p.1;rw[Zf (Qw _) (by have:=g.one 0 p rfl;omega)] at this;cases this
 | p::ps,q::qs,g,g',h=>by
  have hp:=g.one 0 p rfl
  have hq:=g'.one 0 q rfl
  have le:∀{p:Pr} {ps:List Pr} {x:Int},Good (p::ps)->J6 (p::ps) x=true->p.1<=x:=fun {p ps x} g e=>by
   obtain⟨r,hr,h1,h2⟩:=has_iff.mp e;rcases Qh.mp hr with z|z
   ·rw[<- z];exact h1
   ·have:=Good.first g r z
    have:=g.one 0 p rfl;omega
  have e1:p.1=q.1:=by
   have a:=le g' (x:=p.1) (by rw[<- h];exact Zf (Qw _) (by omega))
   have b:=le g (x:=q.1) (by rw[h];exact Zf (Qw _) (by omega));omega
  have off:∀{p:Pr} {ps:List Pr},Good (p::ps)->J6 (p::ps) (p.1+p.2)=false:=fun {p ps} g=>by rw[Jch (Qw _)];exact VG fun z hz=>Good.first g z hz
  have e2:p.2=q.2:=by
   have a:=h (p.1+p.2);rw[off g] at a
   have b:=h (q.1+q.2);rw[off g'] at b
   by_cases c:p.2<q.2
   ·rw[Zf (p:=q) (by omega) (by omega)] at a;cases a
   ·by_cases c':q.2<p.2
    ·rw[Zf (p:=p) (by omega) (by omega)] at b;cases b
    ·omega
  have e:p=q:=Kh e1 e2;subst e;rw[Jcf (Good.cons' g) (Good.cons' g') fun x=>?_]
  by_cases c:p.1+p.2<=x
  ·have:=h x
   rwa [Jch c,Jch c] at this
  ·rw[VG fun z hz=>by have:=Good.first g z hz;omega,VG fun z hz=>by have:=Good.first g' z hz;omega]
theorem JhO(a b:Int):a<b\/b<=a:=by omega
theorem Wr{ps:List Pr}(h:∀p∈ps,0<=p.2){x y:Int}(hxy:x<=y):below ps x<=below ps y:=by
 induction ps with
 | nil=>exact Qw _
 | cons p r ih =>
  have i:=ih fun q hq=>h q (Qc _ hq)
  rw[JN,JN];exact Int.add_le_add (RE.mpr ⟨Mb _ _,RQ (RF.mpr ⟨Rb _ _,RQ (KY _ _) (by omega)⟩) (Int.le_max_right _ _)⟩) i
theorem VC{ps:List Pr}(g:Good ps){a:Int}:∀n:Nat,below ps (a+(n:Int))<=below ps a+(n:Int)/\((∀y,a<=y->y<a+(n:Int)->J6 ps y=true)->below ps (a+(n:Int))=below ps a+(n:Int))/\((∀y,a<=y->y<a+(n:Int)->J6 ps y=false)->below ps (a+(n:Int))=below ps a)
 | 0=>by simp
 | n+1=>by
  obtain⟨i1,i2,i3⟩:=VC g (a:=a) n;have e:a+((n+1:Nat):Int)=a+(n:Int)+1:=by omega
  rw[e,ZX (a+(n:Int)) g];refine⟨by split <;> omega,fun h=>?_,fun h=>?_⟩
  ·rw[if_pos (h (a+(n:Int)) (by omega) (by omega)),i2 fun y h1 h2=>h y h1 (by omega)];omega
  ·rw[if_neg (by rw[h (a+(n:Int)) (by omega) (by omega)];simp),i3 fun y h1 h2=>h y h1 (by omega),Mg]
theorem V8{ps:List Pr}(g:Good ps){x y:Int}(h:x<=y):below ps y<=below ps x+(y-x):=by have:=(VC g (a:=x) (y-x).toNat).1;rw[show x+((y-x).toNat:Int)=y by omega] at this;omega
theorem JeN{ps:List Pr}(g:Good ps){x y:Int}(h:x<=y)(hb:∀z,x<=z->z<y->J6 ps z=true):below ps y=below ps x+(y-x):=by
 have:=(VC g (a:=x) (y-x).toNat).2.1 fun z h1 h2=>hb z h1 (by omega (config:={}))
 rw[show x+((y-x).toNat:Int)=y by omega (config:={})] at this;omega (config:={})
theorem JeM{ps:List Pr}(g:Good ps){x y:Int}(h:x<=y)(hb:∀z,x<=z->z<y->J6 ps z=false):below ps y=below ps x:=by
 have:=(VC g (a:=x) (y-x).toNat).2.2 fun z h1 h2=>hb z h1 (by omega (config:={}))
 rw[show x+((y-x).toNat:Int)=y by omega (config:={})] at this;omega (config:={})
noncomputable def edF(ps:List Pr):Nat->Int->List Int->List Pr
 | _,_,[]=>[]
 | i,c,s::r=>(s+2*(i:Int)-(below ps s-c),below ps s-c+1)::edF ps (i+1) (below ps s) r
noncomputable def flF(ps:List Pr):Int->List Int->List Pr
 | _,[]=>[]
 | c,s::r=>(s-(below ps s-c),below ps s-c)::flF ps (below ps s) r
theorem Jm3(ps:List Pr):∀(sp:List Int) (i:Nat) (c:Int),byR (2*(i:Int)) (edF ps i c sp)=flF ps c sp
 | [],_,_=>rfl
 | s::r,i,c=>by
  rw[edF,byR,flF];congr 1
  ·congr 1 <;> dsimp only <;> omega
  ·rw[<- Jm3 ps r (i+1) (below ps s)];congr 1
theorem JiS(ps:List Pr):∀(sp:List Int) (i:Nat) (c:Int),(edF ps i c sp).length=sp.length
 | [],_,_=>rfl
 | s::r,i,c=>by rw[edF,Qp,Qp,JiS ps r]
theorem Jgc{ps:List Pr}(g:Good ps):∀(sp:List Int) (i:Nat) (s0:Int),(s0::sp).Pairwise (·<=·)->Good (edF ps i (below ps s0) sp)
 | [],_,_,_=>Good.nil
 | s::r,i,s0,hs=>by
  obtain⟨h1,h2⟩:=QO.mp hs;have h3:=h1 s Qe;have m1:=Wr (fun p hp=>by have:=Good.all g p hp;omega) h3;rw[edF];refine Good.mk' (by dsimp only;omega) (fun q e=>?_) (Jgc g r (i+1) s h2)
  cases r with
  | nil=>simp[edF] at e
  | cons s' r=>obtain⟨h4,_⟩:=QO.mp h2;have h5:=h4 s' Qe;have l1:=V8 g h5;simp[edF] at e;subst e;dsimp only;omega
theorem Jgg{ps:List Pr}(g:Good ps):∀(sp:List Int) (s0:Int),(s0::sp).Pairwise (·<=·)->Wide 0 (flF ps (below ps s0) sp)
 | [],_,_=>⟨fun i p e=>by simp[flF] at e,fun i p q e=>by simp[flF] at e⟩
 | s::r,s0,hs=>by
  obtain⟨h1,h2⟩:=QO.mp hs;have h3:=h1 s Qe;have m1:=Wr (fun p hp=>by have:=Good.all g p hp;omega) h3;have ih:=Jgg g r s h2;rw[flF];refine⟨fun i p e=>?_,fun i p q e1 e2=>?_⟩
  ·cases i with
   | zero=>simp at e;subst e;dsimp only;omega
   | succ i=>exact ih.one i p (by simpa using e)
  ·cases i with
   | zero =>
    simp at e1;subst e1
    cases r with
    | nil=>simp[flF] at e2
    | cons s' r=>obtain⟨h4,_⟩:=QO.mp h2;have h5:=h4 s' Qe;have l1:=V8 g h5;simp[flF] at e2;subst e2;dsimp only;omega
   | succ i=>exact ih.gap i p q (by simpa using e1) (by simpa using e2)
theorem Ji4{ps:List Pr}(g:Good ps):∀(sp:List Int) (s0:Int),(s0::sp).Pairwise (·<=·)->(∀p∈ps,s0<p.1+p.2->p.1+p.2∈sp) ->
 (∀x,s0<=x->J6 (flF ps (below ps s0) sp) x=J6 ps x)/\∀x,x<s0->J6 (flF ps (below ps s0) sp) x=false
 | [],s0,_,he=>by
  refine⟨fun x hx=>?_,fun x hx=>rfl⟩
  have:J6 ps x=false:=Jcg fun p hp h1=>by
   rcases JhO s0 (p.1+p.2) with z|z
   ·cases he p hp z
   ·omega
  rw[this];rfl
 | s::r,s0,hs,he=>by
  obtain⟨h1,h2⟩:=QO.mp hs;have h3:=h1 s Qe;have hr:∀t∈r,s<=t:=(QO.mp h2).1
  have lip:=V8 g h3
  obtain⟨i1,i2⟩:=Ji4 g r s h2 fun p hp h=>by
   rcases Qh.mp (he p hp (by omega)) with z|z
   ·omega
   ·exact z
  have run:∀y,s0<=y->y<s->J6 ps y=true->∀z,y<=z->z<s->J6 ps z=true:=fun y y1 y2 hy z z1 z2=>by
   obtain⟨p,hp,a1,a2⟩:=has_iff.mp hy
   have:s<=p.1+p.2:=by
    rcases Qh.mp (he p hp (by omega)) with w|w
    ·omega
    ·exact hr _ w
   exact has_iff.mpr ⟨p,hp,by omega,by omega⟩
  rw[flF];refine⟨fun x hx=>?_,fun x hx=>?_⟩
  ·rw[Yh];rcases JhO x s with hxs|hxs
   ·rw[i2 x hxs,LZ];dsimp only
    cases hb:J6 ps x with
    | true =>
     have f1:=JeN g (x:=x) (y:=s) (by omega) fun z z1 z2=>run x hx hxs hb z z1 z2
     have f2:=Wr (ps:=ps) (fun p hp=>by have:=Good.all g p hp;omega) hx;rw[decide_eq_true (by omega),decide_eq_true (by omega)];rfl
    | false =>
     have f1:=JeM g (x:=s0) (y:=x+1) (by omega) fun z z1 z2=>by
      cases hz:J6 ps z with
      | false=>rfl
      | true=>have:=run z z1 (by omega) hz x (by omega) hxs;rw[hb] at this;cases this
     have f2:=V8 g (x:=x+1) (y:=s) (by omega);rw[decide_eq_false (by omega)];rfl
   ·rw[i1 x hxs];dsimp only;rw[decide_eq_false (p:=x<_) (by omega),Rn,GZ]
  ·rw[Yh,i2 x (by omega)];dsimp only;rw[decide_eq_false (by omega)];rfl
theorem Jof(ps:List Pr)(sp:List Int):∃s0,(∀p∈ps,s0<p.1)/\∀s∈sp,s0<s:=by
 have h1:∃a,∀p∈ps,a<p.1:=by
  induction ps with
  | nil=>exact⟨0,fun p hp=>by cases hp⟩
  | cons p r ih =>
   obtain⟨a,ha⟩:=ih;refine⟨min a (p.1-1),fun q hq=>?_⟩;rcases Qh.mp hq with z|z
   ·subst z;omega (config:={})
   ·have:=ha q z;omega (config:={})
 have h2:∃a,∀s∈sp,a<s:=by
  induction sp with
  | nil=>exact⟨0,fun p hp=>by cases hp⟩
  | cons p r ih =>
   obtain⟨a,ha⟩:=ih;refine⟨min a (p-1),fun q hq=>?_⟩;rcases Qh.mp hq with z|z
   ·subst z;omega (config:={})
   ·have:=ha q z;omega (config:={})
 obtain⟨a,ha⟩:=h1;obtain⟨b,hb⟩:=h2;exact⟨min a b,fun p hp=>by have:=ha p hp;omega (config:={}),fun s hs=>by have:=hb s hs;omega (config:={})⟩
theorem ZH(x:Int):∀(r:List Pr) (cur:Pr),(∀p∈r,0<=p.2)->0<=cur.2->J6 (clF cur r) x=J6 (cur::r) x
 | [],cur,_,_=>rfl
 | p::r,cur,h,hc=>by
  have h0:=h p Qe
  have hr:=fun q hq=>h q (Qc p hq)
  rw[clF];split
  ·next e=>rw[ZH x r _ hr (by dsimp only;omega),Yh,Yh,Yh,<- L0];congr 1;rw[Km];simp only[Ly,QM,decide_eq_true_eq];constructor <;> intro z <;> omega
  ·split
   ·rw[Yh,ZH x r p hr h0,<- Yh]
   ·rw[ZH x r cur hr hc,Yh,Yh cur,Yh p];rw[show(decide (p.1<=x) && decide (x<p.1+p.2))=false by
     rw[Ri];rcases JhO x p.1 with z|z
     ·exact .inl (decide_eq_false (by omega))
     ·exact .inr (decide_eq_false (by omega)),GZ]
theorem JbW(x:Int):∀(ps:List Pr),(∀p∈ps,0<=p.2)->J6 (clN ps) x=J6 ps x
 | [],_=>rfl
 | p::r,h=>by
  have h0:=h p Qe
  have hr:=fun q hq=>h q (Qc p hq)
  rw[clN];split
  ·exact ZH x r p hr h0
  ·rw[JbW x r hr,Yh p];rw[show(decide (p.1<=x) && decide (x<p.1+p.2))=false by
    rw[Ri];rcases JhO x p.1 with z|z
    ·exact .inl (decide_eq_false (by omega))
    ·exact .inr (decide_eq_false (by omega)),GZ]
theorem Jpp{ps:List Pr}(g:Good ps){sp:List Int}(hs:sp.Pairwise (·<=·))(he:∀p∈ps,p.1+p.2∈sp):Good (edF ps 0 0 sp)/\thF (edF ps 0 0 sp)=ps:=by
 obtain⟨s0,l1,l2⟩:=Jof ps sp;have hb:below ps s0=0:=ZY fun p hp=>by have:=l1 p hp;omega
 have hs':(s0::sp).Pairwise (·<=·):=QO.mpr ⟨fun s h=>by have:=l2 s h;omega,hs⟩
 have ge:=Jgc g sp 0 s0 hs'
 have wd:=Jgg g sp s0 hs';obtain⟨f1,f2⟩:=Ji4 g sp s0 hs' fun p hp _=>he p hp
 rw[hb] at ge wd f1 f2;refine⟨ge,?_⟩
 have e:thF (edF ps 0 0 sp)=clN (flF ps 0 sp):=by unfold thF;rw[<- UI,<- Jm3 ps sp 0 0];rfl
 refine Jcf (JZ ge) g fun x=>?_
 rw[e,JbW x _ fun p hp=>by obtain⟨i,hi,rfl⟩:=Gh.mp hp;exact wd.one i _ (by simp)]
 rcases JhO x s0 with z|z
 ·rw[f2 x z,VG fun p hp=>by have:=l1 p hp;omega]
 ·exact f1 x z
noncomputable def YO:List Pr->Int->List Pr
 | [],s=>[(s,1)]
 | p::r,s=>if p.1=s then(p.1,p.2+1)::r else p::YO r s
theorem Vo(s:Int):∀a:List Pr,(YO a s).map (·.1)=Yv (a.map (·.1)) s
 | []=>rfl
 | p::r=>by
  have ih:=Vo s r;unfold Yv Vn at ih ⊢;rw[YO,Qd,GG]
  by_cases h:p.1=s
  ·rw[if_pos h,decide_eq_true h,M3,if_pos rfl];rfl
  ·rw[if_neg h,decide_eq_false h,GZ,Qd,ih];split <;> rfl
theorem JaH:∀(ks:List Int) (vs:List Int) (s v:Int),s∉ks->setK ks vs s v=vs
 | [],_,_,_,_=>rfl
 | _::_,[],_,_,_=>rfl
 | k::ks,x::vs,s,v,h=>by rw[setK,if_neg fun e=>h (by rw[e];exact Qe),JaH ks vs s v fun m=>h (Qc _ m)]
theorem hasK_mem{ks:List Int}{s:Int}:Vn ks s=true↔s∈ks:=by
 unfold Vn;rw[KL];constructor
 ·rintro⟨k,hk,e⟩;rw[decide_eq_true_eq] at e;subst e;exact hk
 ·intro h;exact⟨s,h,decide_eq_true rfl⟩
theorem Jbs(s:Int):∀a:List Pr,(a.map (·.1)).Nodup->(YO a s).map (·.2)=putDs (a.map (·.1)) (a.map (·.2)) s ((look (a.map (·.1)) (a.map (·.2)) s).getD 0+1)
 | [],_=>rfl
 | p::r,hn=>by
  rw[Qd,QX] at hn;have ih:=Jbs s r hn.2;rw[YO,Qd,Qd]
  by_cases h:p.1=s
  ·rw[if_pos h];unfold putDs;rw[if_pos (hasK_mem.mpr (by rw[h];exact Qe)),look,if_pos h,setK,if_pos h,JaH _ _ _ _ (by rw[<- h];exact hn.1)];rfl
  ·rw[if_neg h,Qd,ih,look,if_neg h];unfold putDs
   have e:Vn (p.1::r.map (·.1)) s=Vn (r.map (·.1)) s:=by unfold Vn;rw[GG,decide_eq_false h,GZ]
   rw[e];split
   ·rw[setK,if_neg h]
   ·rfl
theorem VX{ks:List Int}(s:Int)(h:ks.Nodup):(Yv ks s).Nodup:=by
 unfold Yv;split
 ·exact h
 ·next c =>
  rw[LP];refine⟨h,by simp,fun a ha b hb=>?_⟩;have:b=s:=by simpa using hb
  subst this;intro e;subst e;exact c (hasK_mem.mpr ha)
noncomputable def lk(k:Int):List Pr->Int
 | []=>0
 | p::r=>if p.1=k then p.2 else lk k r
theorem Jgs(k s:Int):∀a:List Pr,lk k (YO a s)=lk k a+(if s=k then 1 else 0)
 | []=>by simp[YO,lk]
 | p::r=>by
  rw[YO]
  by_cases h:p.1=s
  ·rw[if_pos h,lk,lk];dsimp only
   by_cases c:p.1=k
   ·rw[if_pos c,if_pos c,if_pos (by omega)]
   ·rw[if_neg c,if_neg c,if_neg (by omega),Mg]
  ·rw[if_neg h,lk,lk,Jgs k s r]
   by_cases c:p.1=k
   ·rw[if_pos c,if_pos c,if_neg (by omega),Mg]
   ·rw[if_neg c,if_neg c]
theorem Jfb{a:List Pr}(hn:(a.map (·.1)).Nodup){p:Pr}(hp:p∈a):lk p.1 a=p.2:=by
 induction a with
 | nil=>cases hp
 | cons q r ih =>
  rw[Qd,QX] at hn;rw[lk];rcases Qh.mp hp with z|z
  ·subst z;rw[if_pos rfl]
  ·rw[if_neg fun e=>hn.1 (by rw[e];exact Qv.mpr ⟨p,z,rfl⟩)];exact ih hn.2 z
noncomputable def UN(L:List Int):List Pr:=L.foldl YO []
theorem Jf3:∀(L:List Int) (a:List Pr),(a.map (·.1)).Nodup->((L.foldl YO a).map (·.1)).Nodup/\(∀k,lk k (L.foldl YO a)=lk k a+(L.count k:Int))/\∀k,k∈(L.foldl YO a).map (·.1)↔k∈a.map (·.1)\/k∈L
 | [],a,h=>⟨h,fun k=>by simp,fun k=>by simp⟩
 | s::L,a,h=>by
  have hk:=Vo s a
  have hn:((YO a s).map (·.1)).Nodup:=by rw[hk];exact VX s h
  obtain⟨i1,i2,i3⟩:=Jf3 L (YO a s) hn;refine⟨i1,fun k=>?_,fun k=>?_⟩
  ·rw[QS,i2 k,Jgs,Q2]
   by_cases c:s=k
   ·rw[if_pos c,if_pos (by simpa using c)];omega
   ·rw[if_neg c,if_neg (by simpa using c)];omega
  ·rw[QS,i3 k,hk];unfold Yv;split
   ·next c =>
    have c':=hasK_mem.mp c;constructor
    ·rintro(z|z)
     ·exact .inl z
     ·exact .inr (Qc _ z)
    ·rintro(z|z)
     ·exact .inl z
     ·rcases Qh.mp z with w|w
      ·subst w;exact .inl c'
      ·exact .inr w
   ·rw[Gk,GC,Qh,or_assoc]
theorem JiJ(L:List Int):((UN L).map (·.1)).Nodup/\(∀p∈UN L,p.2=(L.count p.1:Int)/\p.1∈L)/\∀k∈L,(k,(L.count k:Int))∈UN L:=by
 obtain⟨i1,i2,i3⟩:=Jf3 L [] (by simp)
 have v:∀p∈UN L,p.2=(L.count p.1:Int):=fun p hp=>by rw[<- Jfb i1 hp];have:=i2 p.1;rw[show lk p.1 []=0 from rfl,LN] at this;exact this
 refine⟨i1,fun p hp=>⟨v p hp,?_⟩,fun k hk=>?_⟩
 ·have:=(i3 p.1).mp (Qv.mpr ⟨p,hp,rfl⟩)
  simpa using this
 ·obtain⟨p,hp,e⟩:=Qv.mp ((i3 k).mpr (.inr hk));subst e;rw[<- v p hp];exact hp
theorem Jf4:∀(L:List Int) (a:List Pr),(a.map (·.1)++L).Nodup->L.foldl YO a=a++L.map fun s=>(s,1)
 | [],a,_=>by simp
 | s::L,a,h=>by
  have e:YO a s=a++[(s,1)]:=by
   have hs:s∉a.map (·.1):=fun m=>by have:=(LP.mp h).2.2 s m s Qe;exact this rfl
   clear h
   induction a with
   | nil=>rfl
   | cons p r ih=>rw[YO,if_neg fun z=>hs (by rw[<- z];exact Qe),ih fun m=>hs (Qc _ m)];rfl
  rw[QS,e,Jf4 L (a++[(s,1)]) (by simpa using h)];simp
theorem JdI(ps:List Pr)(x:Int)(h:ps.length<=1000):Ud [.sh (.row (ps.map prE)),.sh (.int x)]=some (.sh (.bl (J6 ps x))):=by
 unfold Ud;walk_at "ev";rw[Yf (g:=fun p=>D.bl (decide (p.1<=x) && decide (x<p.1+p.2)))]
 ·walk_at "ev";rw[Jlj (ns:=ps.map fun p=>decide (p.1<=x) && decide (x<p.1+p.2)) (by simp[Sl.q])];walk_at "ev";unfold J6;rw[List.any_map];rfl
 ·intro p hp;simp only[prE];walk_at "ev"
  by_cases c:p.1<=x
  ·simp only[c];walk_at "ev"
  ·simp only[c];walk_at "ev";rfl
theorem JlM(ps:List Pr)(x:Int)(h:ps.length<=1000):Yq [.sh (.row (ps.map prE)),.sh (.int x)]=some (.sh (.int (below ps x))):=by
 unfold Yq;walk_at "ev";rw[Yf (g:=fun p=>D.int (max 0 (min p.2 (x-p.1))))]
 ·walk_at "ev";rw[Wb (ns:=ps.map fun p=>max 0 (min p.2 (x-p.1))) (by simp[Sl.q])];walk_at "ev";rfl
 ·intro p hp;simp only[prE];walk_at "ev"
theorem ZL{α β:Type}(f:Nat->α->β)(xs:List α):xs.mapIdx f=xs.zipIdx.map fun x=>f x.2 x.1:=by
 refine GN fun i=>?_
 rw[QD,Qq,Li,Kj];simp;rfl
theorem JpU(ps:List Pr)(k:Int)(h:ps.length<=1000):Yc [.sh (.row (ps.map prE)),.sh (.int k)]=some (.own ((byF k ps).map prE)):=by
 unfold Yc;walk_at "ev";rw[Z9,ZL,Yf (g:=fun x:Pr×Nat=>prE (x.1.1+2*k*(x.2:Int),x.1.2+k))]
 ·rw[if_pos (by rw[Qm,List.length_zipIdx];omega (config:={}))];walk_at "ev";rw[show ps.zipIdx.map (fun x=>prE (x.1.1+2*k*(x.2:Int),x.1.2+k))=(byF k ps).map prE by unfold byF;rw[ZL,QA];rfl]
 ·intro x hx
  have hx2:x.2<ps.length:=by have:=List.snd_lt_of_mem_zipIdx hx;omega (config:={})
  walk_at "ev";rw[VF,Wt];walk_at "ev";rfl
theorem JnE{ps:List Pr}(g:Good ps)(hne:ps≠[]):∃c,(ps.map (·.2)++Vg ps).min?=some c/\1<=c/\Wide c ps/\Jip c ps:=by
 cases hm:(ps.map (·.2)++Vg ps).min? with
 | none =>
  rw[List.min?_eq_none_iff] at hm
  cases ps with
  | nil=>exact absurd rfl hne
  | cons p r=>simp at hm
 | some c =>
  obtain⟨h1,h2⟩:=Rg.mp hm
  have gg:∀(ps:List Pr) (x:Int),x∈Vg ps->∃(i:Nat) (p q:Pr),ps[i]?=some p/\ps[i+1]?=some q/\q.1-(p.1+p.2)=x:=by
   intro ps
   induction ps with
   | nil=>intro x hx;cases hx
   | cons p r ih =>
    intro x hx
    cases r with
    | nil=>cases hx
    | cons q r =>
     rcases Qh.mp hx with z|z
     ·exact⟨0,p,q,rfl,rfl,z.symm⟩
     ·obtain⟨i,a,b,e1,e2,e3⟩:=ih x z;exact⟨i+1,a,b,by simpa using e1,by simpa using e2,e3⟩
  have gm:∀(ps:List Pr) (i:Nat) (p q:Pr),ps[i]?=some p->ps[i+1]?=some q->q.1-(p.1+p.2)∈Vg ps:=by
   intro ps
   induction ps with
   | nil=>intro i p q e;simp at e
   | cons a r ih =>
    intro i p q e1 e2
    cases r with
    | nil=>simp at e2
    | cons b r =>
     cases i with
     | zero=>simp at e1 e2;subst e1 e2;exact Qe
     | succ i=>exact Qc _ (ih i p q (by simpa using e1) (by simpa using e2))
  have w:Wide c ps:=⟨fun i p e=>h2 _ (Lf _ (Qv.mpr ⟨p,QC e,rfl⟩)),fun i p q e1 e2=>h2 _ (Gw _ (gm ps i p q e1 e2))⟩
  have t:Jip c ps:=by
   rcases Gk.mp h1 with z|z
   ·obtain⟨p,hp,e⟩:=Qv.mp z;exact .inl ⟨p,hp,e⟩
   ·exact .inr (gg ps c z)
  refine⟨c,rfl,?_,w,t⟩;rcases t with ⟨p,hp,e⟩|⟨i,p,q,e1,e2,e⟩
  ·have:=Good.all g p hp;omega
  ·have:=g.gap i p q e1 e2;omega
theorem JdJ(ps:List Pr)(h:ps.length<=1000):J4 [.sh (.row (ps.map prE))]=some (match (ps.map (·.2)++Vg ps).min? with|some c=>.sh (.int c)|none=>.sh .non):=by
 have hgl:=Jbq ps;unfold J4;walk_at "ev";rw[Yf (g:=fun p=>D.int p.2)]
 ·walk_at "ev";rw[Joh _ h];walk_at "ev";rw[show ps.map (fun p=>D.int p.2)++(Vg ps).map .int=(ps.map (·.2)++Vg ps).map D.int by rw[QL,QA];rfl];walk_at "ev";cases (ps.map (·.2)++Vg ps).min? <;> rfl
 ·intro p hp;simp only[prE];walk_at "ev"
noncomputable def VE(acc:List Pr)(p:Pr):List Pr:=match acc[acc.length-1]? with
 | some q=>if q.1+q.2=p.1 then acc.dropLast++[(q.1,q.2+p.2)] else if 0<p.2 then acc++[p] else acc
 | none=>if 0<p.2 then acc++[p] else acc
theorem WN:∀(r acc:List Pr) (cur:Pr),r.foldl VE (acc++[cur])=acc++clF cur r
 | [],acc,cur=>rfl
 | p::r,acc,cur=>by
  have e:(acc++[cur])[(acc++[cur]).length-1]?=some cur:=by simp
  have es:VE (acc++[cur]) p=if cur.1+cur.2=p.1 then acc++[(cur.1,cur.2+p.2)] else if 0<p.2 then acc++[cur]++[p] else acc++[cur]:=by unfold VE;rw[e];dsimp only;rw[List.dropLast_concat]
  rw[QS,clF,es];split
  ·exact WN r acc _
  ·split
   ·rw[WN r (acc++[cur]) p,GU];rfl
   ·exact WN r acc cur
theorem Jbj:∀ps:List Pr,ps.foldl VE []=clN ps
 | []=>rfl
 | p::r=>by
  rw[QS,clN];show r.foldl VE (if 0<p.2 then []++[p] else [])=_;split
  ·exact WN r [] p
  ·exact Jbj r
theorem Jjq(ps:List Pr)(h:ps.length<=1000):Yx [.sh (.lst (ps.map prE))]=some (.own ((clN ps).map prE)):=by
 unfold Yx;walk_at "ev";rw[GY];refine Uc (fun(rest:List Pr) (acc:List Pr) E=>∃j2 j3 j4,E=[.sh (.lst (ps.map prE)),.own (acc.map prE),j2,j3,j4]/\acc.length+rest.length<=1000) VE [] ⟨.no,.no,.no,rfl,by simpa using h⟩ ?_ ?_
 ·rintro p rest acc E ⟨j2,j3,j4,rfl,hz⟩;rw[Qp] at hz;simp only[prE];walk_at "ev"
  cases he:acc[acc.length-1]? with
  | none =>
   have hn:acc=[]:=by
    cases acc with
    | nil=>rfl
    | cons a acc=>simp at he
   subst hn;rw[show(!(([]:List Pr).map prE).isEmpty)=false from rfl];walk_at "ev";have es:VE [] p=if 0<p.2 then [p] else []:=rfl
   rw[es]
   by_cases c:0<p.2
   ·rw[decide_eq_true c,if_pos c];walk_at "ev";exact⟨.sh (.int p.1),.sh (.int p.2),j4,rfl,by simp at hz ⊢;omega⟩
   ·rw[decide_eq_false c,if_neg c];walk_at "ev";exact⟨.sh (.int p.1),.sh (.int p.2),j4,rfl,by simp at hz ⊢;omega⟩
  | some q =>
   have hl0:acc.length-1<acc.length:=(Qk.mp he).1
   have hne:(!(acc.map prE).isEmpty)=true:=by cases acc with|nil=>simp at he|cons _ _=>rfl
   have hgq:(acc.map prE)[acc.length-1]?=some (prE q):=by rw[Qq,he];rfl
   have es:VE acc p=if q.1+q.2=p.1 then acc.dropLast++[(q.1,q.2+p.2)] else if 0<p.2 then acc++[p] else acc:=by unfold VE;rw[he]
   have hdl:acc.dropLast.length=acc.length-1:=Ro;rw[hne,JbP,Jiu he,es];walk_at "ev";rw[Wb (s:=.sh (prE q)) (ns:=[q.1,q.2]) rfl];walk_at "ev";rw[show([q.1,q.2]:List Int).sum=q.1+q.2 by simp]
   by_cases c:q.1+q.2=p.1
   ·rw[decide_eq_true c,if_pos c,hgq];walk_at "ev";rw[<- List.map_dropLast];walk_at "ev";rw[VF,Wt];walk_at "ev";refine⟨.sh (.int p.1),.sh (.int p.2),.sh (prE q),?_,by rw[Qu,Go];omega⟩;rw[QL];rfl
   ·rw[decide_eq_false c,if_neg c];walk_at "ev"
    by_cases c2:0<p.2
    ·rw[decide_eq_true c2,if_pos c2];walk_at "ev";refine⟨.sh (.int p.1),.sh (.int p.2),j4,?_,by rw[Qu,Go];omega⟩;rw[QL];rfl
    ·rw[decide_eq_false c2,if_neg c2];walk_at "ev";exact⟨.sh (.int p.1),.sh (.int p.2),j4,rfl,by omega⟩
 ·rintro E' ⟨j2,j3,j4,rfl,_⟩;rw[Jbj];walk_at "ev"
noncomputable abbrev wC:En->Option Bool:=(tAnd? (tB? (e2 fGt (Jd 3) (eC (.int 0)))) (tTru? (e1 Ve (Jd 2))))
noncomputable abbrev wB:Es:=(Jt (JE 4 (eF Je0 (aC (Jd 3) (aC (eU 1 J4 (aC (Jd 2) a0)) a0)))) (Jt (JE 2 (eF ZD (aC (eU 1 Yx (aC (eU 2 Yc (aC (Jd 2) (aC (e1 Je1 (Jd 4)) a0))) a0)) a0))) (JeA (fun i j=>i-j) 3 (Jd 4))))
theorem WD(x y:Sl)(left:List Pr)(n:Nat)(j4:Sl)(fuel:Nat)(h:n=0\/left=[]) :
 ((Y9 wC wB (fuel+1) [x,y,.sh (.row (left.map prE)),.sh (.int (n:Int)),j4]).bind (Jef (Vb 2))).bind Jb6=some (.sh (.row ((thN n left).map prE))):=by
 have e:thN n left=left:=by
  rcases h with rfl|rfl
  ·rfl
  ·exact JcQ n
 rw[e,Y9]
 have hc:wC [x,y,.sh (.row (left.map prE)),.sh (.int (n:Int)),j4]=some false:=by
  show tAnd? _ _ _=_;walk_at "ev";rcases h with rfl | rfl
  ·rw[show decide ((0:Int)<((0:Nat):Int))=false from rfl];walk_at "ev"
  ·by_cases c:(0:Int)<(n:Int)
   ·rw[decide_eq_true c];walk_at "ev";rfl
   ·rw[decide_eq_false c];walk_at "ev"
 rw[hc];walk_at "ev"
theorem JkH(x y:Sl):∀(m fuel:Nat) (left:List Pr) (n:Nat) (j4:Sl),Good left->left.length<=m->left.length<=30->m<fuel ->
 ((Y9 wC wB fuel [x,y,.sh (.row (left.map prE)),.sh (.int (n:Int)),j4]).bind (Jef (Vb 2))).bind Jb6=some (.sh (.row ((thN n left).map prE))):=by
 intro m
 induction m with
 | zero =>
  intro fuel left n j4 g hm _ hf;obtain⟨f,rfl⟩:∃f,fuel=f+1:=⟨fuel-1,by omega⟩
  exact WD x y left n j4 f (.inr (Qz (by omega)))
 | succ m ih =>
  intro fuel left n j4 g hm h30 hf;obtain⟨f,rfl⟩:∃f,fuel=f+1:=⟨fuel-1,by omega⟩
  by_cases h0:n=0\/left=[]
  ·exact WD x y left n j4 f h0
  ·have hn:n≠0:=fun z=>h0 (.inl z)
   have hl:left≠[]:=fun z=>h0 (.inr z)
   obtain⟨c,hc,c1,w,t⟩:=JnE g hl;obtain⟨a,ha⟩:∃a:Nat,(a:Int)=min (n:Int) c:=⟨(min (n:Int) c).toNat,by omega⟩
   have hcl:=JdJ left (by omega);rw[hc] at hcl
   have et:thN a left=clN (byF (-(a:Int)) left):=JaM a w c1 (by omega)
   have gt:Good (thN a left):=Va a g
   have lt:=(VD (byF (-(a:Int)) left)).1;rw[Vk,<- et] at lt
   have hcond:wC [x,y,.sh (.row (left.map prE)),.sh (.int (n:Int)),j4]=some true:=by
    show tAnd? _ _ _=_;walk_at "ev";rw[decide_eq_true (show(0:Int)<(n:Int) by omega)];walk_at "ev"
    cases left with
    | nil=>exact absurd rfl hl
    | cons _ _=>rfl
   have hbody:wB [x,y,.sh (.row (left.map prE)),.sh (.int (n:Int)),j4]=some (.nx [x,y,.sh (.row ((thN a left).map prE)),.sh (.int ((n-a:Nat):Int)),.sh (.int (a:Int))]):=by show Jt _ _ _=_;walk_at "ev";rw[hcl];walk_at "ev";rw[<- ha,JpU _ _ (by omega)];walk_at "ev";rw[Jjq _ (by rw[Vk];omega),<- et];walk_at "ev";rw[V9 rfl gt (by omega)];walk_at "ev";rw[show(n:Int)-(a:Int)=((n-a:Nat):Int) by omega]
   have fin:thN n left=thN (n-a) (thN a left):=by rw[<- ZT];congr 1;omega
   rw[Y9,hcond,QP,if_pos rfl,hbody,QP,fin];dsimp only
   by_cases hac:(a:Int)=c
   ·have fw:=JaO t;rw[<- hac,<- et] at fw;exact ih f _ _ _ gt (by omega) (by omega) (by omega)
   ·obtain⟨f',rfl⟩:∃f',f=f'+1:=⟨f-1,by omega⟩
    exact WD x y _ _ _ f' (.inl (by omega))
theorem Zj(ps:List Pr)(n:Nat)(g:Good ps)(h30:ps.length<=30):Yg [.sh (.row (ps.map prE)),.sh (.int (n:Int))]=some (.sh (.row ((thN n ps).map prE))):=by unfold Yg;rw[show ∀(k:Nat) (s:Es) (ss:List Sl),Y0 k s ss=Y0 k s ss from fun _ _ _=>rfl];have hw:=JkH (.sh (.row (ps.map prE))) (.sh (.int (n:Int))) 30 1000000 ps n .no g h30 h30 (by decide);walk_at "ev";rw[V9 rfl g h30];walk_at "ev";exact hw
noncomputable abbrev Tr:=Int×Int×Int
noncomputable def trE(t:Tr):D:=.tup [.int t.1,.int t.2.1,.int t.2.2]
noncomputable def owF(left:List Pr)(s:Int):Int:=if J6 left (s-1)=true/\J6 left s=false then 1 else 0
theorem Joi(ps:List Pr)(s:Int)(h:ps.length<=1000):Uw [.sh (.row (ps.map prE)),.sh (.int s)]=some (.sh (.int (owF ps s))):=by
 unfold Uw owF;walk_at "ev";rw[JdI _ _ h];walk_at "ev"
 cases h1:J6 ps (s-1) with
 | false=>walk_at "ev";rw[if_neg (by simp)]
 | true =>
  walk_at "ev";rw[JdI _ _ h];walk_at "ev"
  cases h2:J6 ps s with
  | false=>walk_at "ev";rw[if_pos (by simp)]
  | true=>walk_at "ev";rw[if_neg (by simp)]
theorem JdG{α β:Type}(f:α->β):∀(ks:List Int) (vs:List α) (n:Int),look ks (vs.map f) n=(look ks vs n).map f
 | [],_,_=>rfl
 | _::_,[],_=>rfl
 | k::ks,v::vs,n=>by
  rw[Qd];simp only[look];split
  ·rfl
  ·exact JdG f ks vs n
theorem Jei{α β:Type}(f:α->β):∀(ks:List Int) (vs:List α) (n:Int) (v:α),setK ks (vs.map f) n (f v)=(setK ks vs n v).map f
 | [],_,_,_=>rfl
 | _::_,[],_,_=>rfl
 | k::ks,x::vs,n,v=>by rw[Qd];simp only[setK,Qd];rw[Jei f ks vs n v];split <;> rfl
theorem JbC{α β:Type}(f:α->β)(ks:List Int)(vs:List α)(n:Int)(v:α):putDs ks (vs.map f) n (f v)=(putDs ks vs n v).map f:=by
 unfold putDs;split
 ·exact Jei f ks vs n v
 ·rw[QL];rfl
theorem JdF(ks:List Int)(vs:List Int)(n z:Int):(look ks (vs.map D.int) n).getD (.int z)=.int ((look ks vs n).getD z):=by rw[JdG];cases look ks vs n <;> rfl
theorem Jdv(a:List Pr)(s:Int):(YO a s).length<=a.length+1:=by
 induction a with
 | nil=>simp[YO]
 | cons p r ih =>
  rw[YO];split
  ·simp
  ·simp only[Qp];omega
theorem Jjh(a:List Pr):JdA (a.map (·.1)) ((a.map (·.2)).map D.int)=a.map prE:=by
 unfold JdA
 induction a with
 | nil=>rfl
 | cons p r ih=>simp only[Qd,List.zipWith_cons_cons,ih];rfl
noncomputable def spF(qs:List Pr):List Int:=qs.zipIdx.map fun x=>x.1.1+x.1.2-1-2*(x.2:Int)
noncomputable def J1(qs:List Pr):List Tr:=(UN (spF qs)).map fun p=>(p.1,p.2,owF (thF qs) p.1)
theorem JbZ(L:List Int):∀a:List Pr,(L.foldl YO a).length<=a.length+L.length:=by
 induction L with
 | nil=>intro a;simp
 | cons s L ih=>intro a;have h1:=ih (YO a s);have h2:=Jdv a s;rw[QS,Qp];omega
theorem Jjv(qs:List Pr)(g:Good qs)(h30:qs.length<=30):Uz [.sh (.row (qs.map prE))]=some (.own ((J1 qs).map trE)):=by
 have h1:=Zj qs 1 g h30;rw[show((1:Nat):Int)=1 from rfl,show thN 1 qs=thF qs from rfl] at h1
 have hl:=(VD (byF (-1) qs)).1;rw[Vk,show clN (byF (-1) qs)=thF qs from rfl] at hl;unfold Uz;walk_at "ev";rw[h1];walk_at "ev";rw[Z9,ZL,GY];refine Uc (f:=fun x:Pr×Nat=>D.tup [.int (x.2:Int),prE x.1]) (fun(rest:List (Pr×Nat)) (a:List Pr) E=>∃j3 j4 j5,E=[.sh (.row (qs.map prE)),.sh (.row ((thF qs).map prE)),.od (a.map (·.1)) ((a.map (·.2)).map .int),j3,j4,j5]/\(a.map (·.1)).Nodup/\a.length+rest.length<=30)
  (fun a x=>YO a (x.1.1+x.1.2-1-2*(x.2:Int))) [] ⟨.no,.no,.no,rfl,by simp,by simpa using h30⟩ ?_ ?_
 ·rintro x rest a E ⟨j3,j4,j5,rfl,hn,hz⟩;rw[Qp] at hz;have hil:=Jdv a (x.1.1+x.1.2-1-2*(x.2:Int));walk_at "ev";rw[Wb (s:=.sh (prE x.1)) (ns:=[x.1.1,x.1.2]) rfl];walk_at "ev";rw[show([x.1.1,x.1.2]:List Int).sum=x.1.1+x.1.2 by simp];rw[JdF];walk_at "ev";rw[JbC,<- Vo,<- Jbs _ _ hn];refine⟨.sh (.int (x.2:Int)),.sh (prE x.1),_,rfl,?_,by omega⟩;rw[Vo];exact VX _ hn
 ·rintro E' ⟨j3,j4,j5,rfl,hn,_⟩
  have ef:qs.zipIdx.foldl (fun a x=>YO a (x.1.1+x.1.2-1-2*(x.2:Int))) []=UN (spF qs):=by unfold UN spF;rw[List.foldl_map]
  have hcl:=JbZ (spF qs) []
  have hsl:(spF qs).length=qs.length:=by unfold spF;simp
  rw[ef];walk_at "ev";rw[Jjh,Yf (g:=fun p=>trE (p.1,p.2,owF (thF qs) p.1))]
  ·rw[if_pos (by rw[Qm];show(UN (spF qs)).length<=_;unfold UN;simp at hcl;omega)];walk_at "ev";unfold J1;rw[QA];rfl
  ·intro p hp;simp only[prE];walk_at "ev";rw[Joi _ _ (by omega)];walk_at "ev";rfl
theorem JlO(ps:List Pr)(sp:List Int)(hp:ps.length<=1000)(hs:sp.length<=1000):Uf [.sh (.row (ps.map prE)),.sh (.lst (sp.map .int))]=some (.own ((edF ps 0 0 sp).map prE)):=by
 unfold Uf;walk_at "ev";rw[Z9,ZL,GY];refine Uc (f:=fun x:Int×Nat=>D.tup [.int (x.2:Int),.int x.1]) (fun(rest:List (Int×Nat)) (s:List Pr×Int) E=>∃j4 j5 j6 j7,E=[.sh (.row (ps.map prE)),.sh (.lst (sp.map .int)),.own (s.1.map prE),.sh (.int s.2),j4,j5,j6,j7]/\s.1.length+rest.length<=1000)
  (fun s x=>(s.1++[(x.1+2*(x.2:Int)-(below ps x.1-s.2),below ps x.1-s.2+1)],below ps x.1)) ([],0) ⟨.no,.no,.no,.no,rfl,by simpa using hs⟩ ?_ ?_
 ·rintro x rest ⟨acc,c⟩ E ⟨j4,j5,j6,j7,rfl,hz⟩;rw[Qp] at hz;dsimp only at hz ⊢;walk_at "ev";rw[JlM _ _ hp];walk_at "ev";refine⟨.sh (.int (x.2:Int)),.sh (.int x.1),.sh (.int (below ps x.1)),.sh (.int (below ps x.1-c)),?_,by rw[Qu,Go];omega (config:={})⟩;rw[QL];rfl
 ·rintro E' ⟨j4,j5,j6,j7,rfl,_⟩
  have ef:∀(sp:List Int) (i:Nat) (acc:List Pr) (c:Int),((sp.zipIdx i).foldl (fun(s:List Pr×Int) x=>(s.1++[(x.1+2*(x.2:Int)-(below ps x.1-s.2),below ps x.1-s.2+1)],below ps x.1)) (acc,c)).1=acc++edF ps i c sp:=by
   intro sp
   induction sp with
   | nil=>intro i acc c;simp[edF]
   | cons s r ih=>intro i acc c;rw[KM,QS,ih,edF,GU];rfl
  rw[ef,KA];walk_at "ev"
theorem JlS(ps:List Pr)(n:Nat)(g:Good ps)(h:ps.length<=30):Yz [.sh (.row (ps.map prE)),.sh (.int (n:Int))]=some (.sh (.row ((byF (n:Int) ps).map prE))):=by unfold Yz;walk_at "ev";rw[JpU _ _ (by omega)];walk_at "ev";rw[V9 rfl (((YI g).bys (k:=(n:Int))).good (by omega)) (by rw[Vk];exact h)];walk_at "ev"
noncomputable def Jr(ps:List Pr):List Int:=ps.map fun p=>p.1+p.2
noncomputable def YE(prs:List Pr):List Int:=prs.flatMap fun p=>Qt p.2.toNat p.1
theorem JpX(ps prs:List Pr)(g:Good ps)(hn:∀p∈prs,0<=p.2)(h:(ps.length:Int)+(prs.map (·.2)).sum<=30)(hp:ps.length<=30)(hq:prs.length<=30) :
 Ux [.sh (.row (ps.map prE)),.sh (.lst (prs.map prE))]=some (.sh (.row ((edF ps 0 0 (Yw (Jr ps++YE prs))).map prE))):=by
 have ml:∀(prs:List Pr),(∀p∈prs,0<=p.2)->((YE prs).length:Int)=(prs.map (·.2)).sum:=by
  intro prs
  induction prs with
  | nil=>intro _;rfl
  | cons p r ih =>
   intro hn;have h1:=ih fun q hq=>hn q (Qc _ hq)
   have h2:=hn p Qe;unfold YE at *;rw[Gm,Qu,Gx,Qd,Qr];omega
 have hml:=ml prs hn
 have hsl:(Yw (Jr ps++YE prs)).length=ps.length+(YE prs).length:=by rw[(J3 _).length_eq,Qu];unfold Jr;rw[Qm]
 have ge:=(Jpp g (Vx (Jr ps++YE prs)) fun p hp=>(J3 _).mem_iff.mpr (Lf _ (Qv.mpr ⟨p,hp,rfl⟩))).1
 have el:=JiS ps (Yw (Jr ps++YE prs)) 0 0;unfold Ux;walk_at "ev";rw[Yf (g:=fun p=>D.int p.2)]
 ·walk_at "ev";rw[Wb (ns:=prs.map (·.2)) (by simp[Sl.q])];walk_at "ev";rw[decide_eq_false (by omega)];walk_at "ev";rw[Yf (g:=fun p=>D.int (p.1+p.2))]
  ·walk_at "ev";rw[show ps.map (fun p=>D.int (p.1+p.2))=(Jr ps).map D.int by unfold Jr;rw[QA];rfl,GY];refine Uc (fun(rest:List Pr) (L:List Int) E=>∃j3 j4,E=[.sh (.row (ps.map prE)),.sh (.lst (prs.map prE)),.own (L.map .int),j3,j4]/\(L.length:Int)+(rest.map (·.2)).sum<=30/\∀p∈rest,0<=p.2) (fun L p=>L++Qt p.2.toNat p.1) (Jr ps) ⟨.no,.no,rfl,by unfold Jr;rw[Qm];exact h,hn⟩ ?_ ?_
   ·rintro p rest L E ⟨j3,j4,rfl,hz,hr⟩;have h2:=hr p Qe
    have hs:0<=(rest.map (·.2)).sum:=by
     have:=ml rest fun q hq=>hr q (Qc _ hq)
     omega
    rw[Qd,Qr] at hz;simp only[prE];walk_at "ev";rw[Jdn (d:=D.int p.1) rfl (Je7 ⟨by omega,by omega⟩) (by omega)];walk_at "ev";rw[Gx,if_pos (by omega)];refine⟨.sh (.int p.1),.sh (.int p.2),?_,by rw[Qu,Gx];omega,fun q hq=>hr q (Qc _ hq)⟩;rw[QL,Kt]
   ·rintro E' ⟨j3,j4,rfl,_,_⟩
    have ef:∀(prs:List Pr) (L:List Int),prs.foldl (fun L p=>L++Qt p.2.toNat p.1) L=L++YE prs:=by
     intro prs
     induction prs with
     | nil=>intro L;simp[YE]
     | cons p r ih=>intro L;rw[QS,ih];unfold YE;rw[Gm,GU]
    rw[ef];have hlt:(Jr ps++YE prs).length<64:=by rw[Qu];unfold Jr;rw[Qm];omega
    walk_at "ev";rw[JlO _ _ (by omega) (by omega)];walk_at "ev";rw[V9 rfl ge (by omega)];walk_at "ev"
  ·intro p hp;simp only[prE];walk_at "ev"
 ·intro p hp;simp only[prE];walk_at "ev"
theorem JcC{qs:List Pr}(g:Good qs)(s:Int):owF qs s=if s∈Jr qs then 1 else 0:=by
 unfold owF
 by_cases c:s∈Jr qs
 ·rw[if_pos c];obtain⟨p,hp,rfl⟩:=Qv.mp c;have h1:=Good.all g p hp;rw[if_pos];refine⟨has_iff.mpr ⟨p,hp,by omega,by omega⟩,?_⟩
  cases h:J6 qs (p.1+p.2) with
  | false=>rfl
  | true =>
   obtain⟨q,hq,a1,a2⟩:=has_iff.mp h;have pw:=Good.pw g;obtain⟨i,hi,rfl⟩:=Gh.mp hp;obtain⟨j,hj,rfl⟩:=Gh.mp hq;rcases Mz i j with z|z|z
   ·have:=Lq.mp pw i j hi hj z;omega
   ·subst z;omega
   ·have:=Lq.mp pw j i hj hi z;omega
 ·rw[if_neg c,if_neg];rintro⟨h1,h2⟩;obtain⟨p,hp,a1,a2⟩:=has_iff.mp h1;refine c (Qv.mpr ⟨p,hp,?_⟩);rcases JhO s (p.1+p.2) with z|z
  ·rw[has_iff.mpr ⟨p,hp,by omega,z⟩] at h2;cases h2
  ·omega
theorem Jlb{ps:List Pr}(g:Good ps):(Jr ps).Pairwise (·<·):=by
 unfold Jr;rw[LQ];refine(Good.pw g).imp_of_mem fun {a b} _ hb h=>?_
 have:=Good.all g b hb;omega
theorem Jb7{ps:List Pr}(g:Good ps):(Jr ps).Nodup:=(Jlb g).imp fun {a b} h=>by omega
theorem Jeq(k:Int)(ps:List Pr):spF (byF (k+1) ps)=Jr (byF k ps):=by
 unfold spF Jr;refine GN fun i=>?_
 rw[Qq,Qq,Li];unfold byF;rw[QD,QD]
 cases ps[i]? with
 | none=>rfl
 | some p =>
  simp only[Ma];congr 1;have e:2*(k+1)*(i:Int)=2*k*(i:Int)+2*(i:Int):=by rw[MC,KZ];simp
  simp only[RP];rw[e];omega
theorem Jie{ps:List Pr}(g:Good ps)(n:Nat):J1 (byF ((n:Int)+1) ps)=(byF (n:Int) ps).map fun p=>(p.1+p.2,1,1):=by
 have gw:=YI g
 have gn:Good (byF (n:Int) ps):=(gw.bys (k:=(n:Int))).good (by omega)
 have et:thF (byF ((n:Int)+1) ps)=byF (n:Int) ps:=by have:=JaN (n:=1) (gw.bys (k:=(n:Int)+1)) (by omega) (by omega);rw[show thF (byF ((n:Int)+1) ps)=thN 1 (byF ((n:Int)+1) ps) from rfl,this,JfX];congr 1;omega
 unfold J1 UN;rw[et,Jeq,Jf4 (Jr (byF (n:Int) ps)) [] (by simpa using Jb7 gn),KA,QA];unfold Jr;rw[QA];refine QQ fun p hp=>?_
 simp only[Function.comp];rw[JcC gn,if_pos (show p.1+p.2∈Jr (byF (n:Int) ps) from Qv.mpr ⟨p,hp,rfl⟩)]
theorem Jbm:∀{l:List Int} {k:Int},l.Nodup->k∈l->l.count k=1
 | [],_,_,h=>by cases h
 | a::l,k,hn,h=>by
  rw[QX] at hn;rw[Q2]
  by_cases c:a=k
  ·subst c;rw[LC.mpr hn.1];simp
  ·have hm:k∈l:=(Qh.mp h).resolve_left fun z=>c z.symm
   rw[Jbm hn.2 hm];simp[c]
theorem Jah(d:Int):∀(a:List Pr) (s:Int),YO (a.map fun p=>(p.1-d,p.2)) (s-d)=(YO a s).map fun p=>(p.1-d,p.2)
 | [],s=>rfl
 | p::r,s=>by
  rw[Qd,YO,YO];dsimp only
  by_cases h:p.1=s
  ·rw[if_pos h,if_pos (by omega)];rfl
  ·rw[if_neg h,if_neg (by omega),Jah d r s];rfl
theorem Jbk(d:Int):∀(L:List Int) (a:List Pr),(L.map (·-d)).foldl YO (a.map fun p=>(p.1-d,p.2))=(L.foldl YO a).map fun p=>(p.1-d,p.2)
 | [],a=>rfl
 | s::L,a=>by rw[Qd,QS,QS,Jah,Jbk d L]
theorem JiK:∀(L:List Int) (a:List Pr),(a.map (·.1)).Pairwise (·<·)->(∀k∈a.map (·.1),∀s∈L,k<=s)->L.Pairwise (·<=·)->((L.foldl YO a).map (·.1)).Pairwise (·<·)
 | [],a,h,_,_=>h
 | s::L,a,h,hk,hL=>by
  obtain⟨l1,l2⟩:=QO.mp hL;rw[QS];have e:(YO a s).map (·.1)=Yv (a.map (·.1)) s:=Vo s a;refine JiK L (YO a s) ?_ (fun k hk' t ht=>?_) l2
  ·rw[e];unfold Yv;split
   ·exact h
   ·next c =>
    rw[G2];refine⟨h,by simp,fun k hk' t ht=>?_⟩;have ht':t=s:=by simpa using ht
    subst ht';have h1:=hk k hk' t Qe;have h2:k≠t:=fun z=>c (hasK_mem.mpr (by rw[<- z];exact hk'))
    omega
  ·rw[e] at hk';unfold Yv at hk';split at hk'
   ·exact hk k hk' t (Qc _ ht)
   ·rcases Gk.mp hk' with z|z
    ·exact hk k z t (Qc _ ht)
    ·have z':k=s:=by simpa using z
     subst z';exact l1 t ht
theorem Jkk:∀{ps:List Pr} (i:Nat),Good ps->((ps.zipIdx i).map fun x=>x.1.1+x.1.2-1-2*(x.2:Int)).Pairwise (·<=·)
 | [],_,_=>.nil
 | [p],i,_=>by simp
 | p::q::r,i,g=>by
  have ih:=Jkk (i+1) (Good.cons' g)
  have h1:=g.gap 0 p q rfl rfl
  have h2:=g.one 1 q rfl;rw[KM,Qd];refine QO.mpr ⟨fun t ht=>?_,ih⟩;rw[KM,Qd] at ih ht
  have hq:p.1+p.2-1-2*(i:Int)<=q.1+q.2-1-2*((i+1:Nat):Int):=by omega
  rcases Qh.mp ht with z|z
  ·subst z;exact hq
  ·have:=(QO.mp ih).1 t z;dsimp only at this ⊢;omega
noncomputable def JU(k:Int)(qs:List Pr):List Tr:=((J1 qs).filter fun t=>decide (t.2.1>t.2.2)).map fun t=>(k,t.1,t.2.1-t.2.2)
noncomputable def tbN:Nat->Int->List Pr->List Tr
 | 0,_,_=>[]
 | n+1,k,qs=>JU (k+1) qs++tbN n (k+1) (thF qs)
theorem WB:∀(n:Nat) (k:Int),tbN n k []=[]
 | 0,_=>rfl
 | n+1,k=>by rw[tbN,show thF []=[] from rfl,WB n (k+1)];rfl
theorem Jku:∀(n m:Nat) (k:Int) (qs:List Pr),thN n qs=[]->tbN (n+m) k qs=tbN n k qs
 | 0,m,k,qs,h=>by have:qs=[]:=h;subst this;rw[WB,WB]
 | n+1,m,k,qs,h=>by rw[show n+1+m=(n+m)+1 by omega,tbN,tbN,Jku n m (k+1) (thF qs) h]
theorem JcP(qs:List Pr):(thF qs).length<=qs.length:=by have:=(VD (byF (-1) qs)).1;rw[Vk] at this;exact this
theorem JmT{qs:List Pr}(g:Good qs)(h:(thF qs).length=qs.length):Good (byF (-1) qs):=by obtain⟨_,h2⟩:=VD (byF (-1) qs);obtain⟨a1,a2⟩:=h2 (by rw[Vk];exact h);have w:=(YI g).bys (k:=-1);refine⟨fun i p e=>by have:=a1 p (QC e);omega,fun i p q e1 e2=>?_⟩;have:=a2 i p q e1 e2;have:=w.gap i p q e1 e2;omega
theorem JdD{qs:List Pr}(g:Good (byF (-1) qs))(k:Int):JU k qs=[]:=by
 have e:qs=byF (((0:Nat):Int)+1) (byF (-1) qs):=by rw[JfX,show((0:Nat):Int)+1+-1=0 by omega,WK]
 unfold JU;rw[e,Jie g 0,List.filter_map,QA,M8.mpr]
 ·rfl
 ·intro p hp;simp
theorem Jby{qs:List Pr}(g:Good qs){k:Int}(h:JU k qs≠[]):(thF qs).length<qs.length:=by
 rcases Lm (thF qs).length qs.length with z|z
 ·exact z
 ·exact absurd (JdD (JmT g (Nat.le_antisymm (JcP qs) z)) k) h
theorem JfF(qs:List Pr):(spF qs).length=qs.length:=by unfold spF;simp
theorem Jgu(k:Int)(qs:List Pr):(JU k qs).length<=qs.length:=by
 unfold JU J1;rw[Qm];refine Gn (Rj _ _) ?_;rw[Qm];have:=JbZ (spF qs) [];rw[JfF] at this;unfold UN
 simpa using this
theorem Jkx:∀(n:Nat) (k:Int) (qs:List Pr),Good qs->qs.length<=30->(tbN n k qs).length<=30*qs.length
 | 0,_,_,_,_=>by simp[tbN]
 | n+1,k,qs,g,h=>by
  have l1:=Jgu (k+1) qs
  have l2:=JcP qs
  have ih:=Jkx n (k+1) (thF qs) (JZ g) (by omega);rw[tbN,Qu]
  by_cases c:JU (k+1) qs=[]
  ·rw[c,G8];omega
  ·have:=Jby g c;omega
theorem JmO{c:Int}{qs:List Pr}(w:Wide c qs)(c1:1<=c):∀(j m:Nat) (k:Int),((j:Int)<c)->tbN (j+m) k qs=tbN m (k+(j:Int)) (thN j qs):=by
 intro j
 induction j generalizing c qs with
 | zero=>intro m k _;rw[RP];simp[thN]
 | succ j ih=>intro m k hj;have w1:Wide (c+-1) (byF (-1) qs):=w.bys;have g1:Good (byF (-1) qs):=w1.good (by omega);have e:thF qs=byF (-1) qs:=JbX g1;rw[show j+1+m=(j+m)+1 by omega,tbN,JdD g1,KA,e,ih w1 (by omega) m (k+1) (by omega)];show _=tbN m (k+((j+1:Nat):Int)) (thN j (thF qs));rw[e];congr 1;omega
theorem Jpo{c:Int}{qs:List Pr}(w:Wide c qs)(c1:1<=c)(hne:qs≠[])(j:Nat)(hj:(j:Int)<c):thN j qs≠[]:=by rw[JaN w c1 hj];intro z;have:=Vk (-(j:Int)) qs;rw[z] at this;exact hne (Qz this.symm)
theorem JfI:∀{a b:Nat} {qs:List Pr},a<=b->thN a qs=[]->thN b qs=[]:=fun {a b qs} h e=>by rw[show b=a+(b-a) by omega,ZT,e,JcQ]
theorem Jex{c:Int}{qs:List Pr}(w:Wide c qs)(c1:1<=c)(hne:qs≠[]){N:Nat}(hN:thN N qs=[])(k:Int):∃C:Nat,(C:Int)=c/\C<=N/\tbN N k qs=JU (k+c) (thN (C-1) qs)++tbN (N-C) (k+c) (thN C qs)/\thN (N-C) (thN C qs)=[]:=by
 obtain⟨C,hC⟩:∃C:Nat,(C:Int)=c:=⟨c.toNat,by omega⟩
 have hCN:C<=N:=by
  rcases Lm N C with z|z
  ·exact absurd hN (Jpo w c1 hne N (by omega))
  ·exact z
 refine⟨C,hC,hCN,?_,by rw[<- ZT,show C+(N-C)=N by omega];exact hN⟩;have e:=JmO w c1 (C-1) (N-C+1) k (by omega);rw[show C-1+(N-C+1)=N by omega] at e;rw[e,tbN,<- Zq,show C-1+1=C by omega,show k+((C-1:Nat):Int)+1=k+c by omega]
noncomputable def UM:List Pr->Int->Int->List Pr
 | [],s,v=>[(s,v)]
 | p::r,s,v=>if p.1=s then(p.1,p.2+v)::r else p::UM r s v
theorem V6(s v:Int):∀a:List Pr,(UM a s v).map (·.1)=Yv (a.map (·.1)) s
 | []=>rfl
 | p::r=>by
  have ih:=V6 s v r;unfold Yv Vn at ih ⊢;rw[UM,Qd,GG]
  by_cases h:p.1=s
  ·rw[if_pos h,decide_eq_true h,M3,if_pos rfl];rfl
  ·rw[if_neg h,decide_eq_false h,GZ,Qd,ih];split <;> rfl
theorem Ja3(s v:Int):∀a:List Pr,(a.map (·.1)).Nodup->(UM a s v).map (·.2)=putDs (a.map (·.1)) (a.map (·.2)) s ((look (a.map (·.1)) (a.map (·.2)) s).getD 0+v)
 | [],_=>by show [v]=[0+v];simp
 | p::r,hn=>by
  rw[Qd,QX] at hn;have ih:=Ja3 s v r hn.2;rw[UM,Qd,Qd]
  by_cases h:p.1=s
  ·rw[if_pos h];unfold putDs;rw[if_pos (hasK_mem.mpr (by rw[h];exact Qe)),look,if_pos h,setK,if_pos h,JaH _ _ _ _ (by rw[<- h];exact hn.1)];rfl
  ·rw[if_neg h,Qd,ih,look,if_neg h];unfold putDs
   have e:Vn (p.1::r.map (·.1)) s=Vn (r.map (·.1)) s:=by unfold Vn;rw[GG,decide_eq_false h,GZ]
   rw[e];split
   ·rw[setK,if_neg h]
   ·rfl
noncomputable def Vz(tb:List Tr)(a:List Pr):List Pr:=tb.foldl (fun a t=>UM a t.1 t.2.2) a
theorem Up{k:Int}{qs:List Pr}{t:Tr}(h:t∈JU k qs):t.1=k:=by obtain⟨u,_,e⟩:=Qv.mp h;rw[<- e]
theorem ZS:∀(n:Nat) (k:Int) (qs:List Pr) (t:Tr),t∈tbN n k qs->k<t.1
 | 0,_,_,_,h=>by cases h
 | n+1,k,qs,t,h=>by
  rw[tbN] at h;rcases Gk.mp h with z|z
  ·have:=Up z;omega
  ·have:=ZS n (k+1) (thF qs) t z;omega
theorem Jg4(k:Int):∀(l:List Tr) (a:List Pr),(∀t∈l,t.1=k)->(Vz l a).map (·.1)=if l=[] then a.map (·.1) else Yv (a.map (·.1)) k
 | [],a,_=>by rw[if_pos rfl];rfl
 | t::l,a,h=>by
  have ht:=h t Qe
  have ih:=Jg4 k l (UM a t.1 t.2.2) fun u hu=>h u (Qc _ hu)
  rw[if_neg (by simp)];show(Vz l (UM a t.1 t.2.2)).map (·.1)=_;rw[ih,V6,ht];split
  ·rfl
  ·unfold Yv;split
   ·next c=>first|rfl|rw[if_pos c]
   ·next c=>rw[if_pos (hasK_mem.mpr (by simp))]
theorem JfG:∀(n:Nat) (k:Int) (qs:List Pr) (a:List Pr),Good qs->(a.map (·.1)).Pairwise (·<·)->(∀x∈a.map (·.1),x<=k)->((Vz (tbN n k qs) a).map (·.1)).Pairwise (·<·)/\(Vz (tbN n k qs) a).length<=a.length+qs.length
 | 0,_,_,a,_,h,_=>⟨h,by simp[tbN,Vz]⟩
 | n+1,k,qs,a,g,h,hk=>by
  have e:Vz (tbN (n+1) k qs) a=Vz (tbN n (k+1) (thF qs)) (Vz (JU (k+1) qs) a):=by unfold Vz;rw[tbN,List.foldl_append]
  have e1:=Jg4 (k+1) (JU (k+1) qs) a fun t ht=>Up ht
  have len:∀a b:List Pr,a.map (·.1)=b.map (·.1)->a.length=b.length:=fun a b z=>by
   have:=congrArg L1 z
   simpa using this
  have l2:=JcP qs;rw[e]
  by_cases c:JU (k+1) qs=[]
  ·rw[if_pos c] at e1;obtain⟨i1,i2⟩:=JfG n (k+1) (thF qs) (Vz (JU (k+1) qs) a) (JZ g) (by rw[e1];exact h) (fun x hx=>by rw[e1] at hx;have:=hk x hx;omega);have:=len _ _ e1;exact⟨i1,by omega⟩
  ·rw[if_neg c] at e1;have hnot:¬Vn (a.map (·.1)) (k+1)=true:=fun z=>by have:=hk _ (hasK_mem.mp z);omega
   unfold Yv at e1;rw[if_neg hnot] at e1;have hl:=congrArg L1 e1;rw[Qu,Qm,Qm,Go] at hl;have fw:=Jby g c
   obtain⟨i1,i2⟩:=JfG n (k+1) (thF qs) (Vz (JU (k+1) qs) a) (JZ g) (by
    rw[e1,G2];refine⟨h,by simp,fun x hx y hy=>?_⟩;have:=hk x hx;have:y=k+1:=by simpa using hy
    omega) (fun x hx=>by
    rw[e1] at hx;rcases Gk.mp hx with z|z
    ·have:=hk x z;omega
    ·have:x=k+1:=by simpa using z
     omega)
   exact⟨i1,by omega⟩
theorem Jiq(a:List Pr)(s v:Int):(UM a s v).length<=a.length+1:=by
 induction a with
 | nil=>simp[UM]
 | cons p r ih =>
  rw[UM];split
  ·simp
  ·simp only[Qp];omega
theorem W3:∀(n:Nat) (ps:List Pr),(thN n ps).length<=ps.length
 | 0,ps=>Qn _
 | n+1,ps=>by
  show(thN n (thF ps)).length<=_
  have h1:=W3 n (thF ps)
  have h2:=(VD (byF (-1) ps)).1;rw[Vk] at h2
  have h3:(thF ps).length=(clN (byF (-1) ps)).length:=rfl;omega
noncomputable abbrev tbC:En->Option Bool:=(tTru? (e1 Ve (Jd 2)))
noncomputable abbrev tbB:Es:=(Jt (JE 4 (eU 1 J4 (aC (Jd 2) a0))) (Jt (JeA (fun i j=>i+j) 3 (Jd 4)) (Jt (JE 2 (eU 2 Yg (aC (Jd 2) (aC (e2 YW (Jd 4) (eC (.int 1))) a0)))) (Jt (JfN 1 (Ua (iE true (eU 1 Uz (aC (Jd 2) a0))) (.tp (.cons (.nm 0) (.cons (.nm 1) (.cons (.nm 2) .nil)))) (tB? (e2 fGt (Jd 1) (Jd 2))) (Uu (aC (Jd 3) (aC (Jd 0) (aC (e2 YW (Jd 1) (Jd 2)) a0)))) [none,none,none,some 3])) (JE 2 (eU 2 Yg (aC (Jd 2) (aC (eC (.int 1)) a0))))))))
theorem Jew(j0 j4:Sl)(acc:List Tr)(k:Int)(fuel:Nat):((Y9 tbC tbB (fuel+1) [j0,.own (acc.map trE),.sh (.row (([]:List Pr).map prE)),.sh (.int k),j4]).bind (Jef (Vb 1))).bind Jb6=some (.own (acc.map trE)):=by rw[Y9];have hc:tbC [j0,.own (acc.map trE),.sh (.row (([]:List Pr).map prE)),.sh (.int k),j4]=some false:=rfl;rw[hc];walk_at "ev"
theorem Jpn(j0:Sl):∀(m fuel:Nat) (left:List Pr) (acc:List Tr) (k:Int) (j4:Sl) (N:Nat),Good left->left.length<=m->left.length<=30->m<fuel->thN N left=[]->acc.length+30*left.length<=10000 ->
 ((Y9 tbC tbB fuel [j0,.own (acc.map trE),.sh (.row (left.map prE)),.sh (.int k),j4]).bind (Jef (Vb 1))).bind Jb6=some (.own ((acc++tbN N k left).map trE)):=by
 intro m
 induction m with
 | zero =>
  intro fuel left acc k j4 N g hm _ hf _ _;obtain⟨f,rfl⟩:∃f,fuel=f+1:=⟨fuel-1,by omega⟩
  have:left=[]:=Qz (by omega);subst this;rw[Jew,WB,Kz]
 | succ m ih =>
  intro fuel left acc k j4 N g hm h30 hf hN hacc;obtain⟨f,rfl⟩:∃f,fuel=f+1:=⟨fuel-1,by omega⟩
  by_cases h0:left=[]
  ·subst h0;rw[Jew,WB,Kz]
  ·obtain⟨c,hc,c1,w,t⟩:=JnE g h0;obtain⟨C,hC,hCN,eT,eN⟩:=Jex w c1 h0 hN k;have hcl:=JdJ left (by omega);rw[hc] at hcl;have g1:=Va (C-1) g;have l1:=W3 (C-1) left;have l2:=W3 C left;have fw:=JaO t;rw[<- hC,<- JaM C w c1 (by omega)] at fw;have ll:=Jgu (k+c) (thN (C-1) left)
   have hcond:tbC [j0,.own (acc.map trE),.sh (.row (left.map prE)),.sh (.int k),j4]=some true:=by
    walk_at "ev"
    cases left with
    | nil=>exact absurd rfl h0
    | cons _ _=>rfl
   have hth:=Zj (thN (C-1) left) 1 g1 (by omega);rw[show((1:Nat):Int)=1 from rfl,show thN 1 (thN (C-1) left)=thN C left by rw[<- ZT,show C-1+1=C by omega]] at hth
   have hbody:tbB [j0,.own (acc.map trE),.sh (.row (left.map prE)),.sh (.int k),j4]=some (.nx [j0,.own ((acc++JU (k+c) (thN (C-1) left)).map trE),.sh (.row ((thN C left).map prE)),.sh (.int (k+c)),.sh (.int c)]):=by
    walk_at "ev";rw[hcl];walk_at "ev";rw[show c-1=((C-1:Nat):Int) by omega,Zj _ _ g (by omega)];walk_at "ev";rw[Jjv _ g1 (by omega)];walk_at "ev";rw[Jb5 (g:=fun t:Tr=>trE (k+c,t.1,t.2.1-t.2.2)) (k:=fun t:Tr=>decide (t.2.1>t.2.2))]
    ·have el:((J1 (thN (C-1) left)).filter fun t=>decide (t.2.1>t.2.2)).map (fun t:Tr=>trE (k+c,t.1,t.2.1-t.2.2))=(JU (k+c) (thN (C-1) left)).map trE:=by unfold JU;rw[QA];rfl
     rw[el]
     have hsl:(J1 (thN (C-1) left)).length<=30:=by unfold J1;rw[Qm];have:=JbZ (spF (thN (C-1) left)) [];rw[JfF] at this;unfold UN;simp at this;omega
     walk_at "ev";rw[hth];walk_at "ev";rw[<- QL]
    ·intro t ht;simp only[trE];refine⟨?_,fun _=>?_⟩
     ·walk_at "ev"
      first|rfl|done
     ·walk_at "ev"
      first|rfl|done
   rw[Y9,hcond,QP,if_pos rfl,hbody,QP,eT,<- GU];exact ih f _ _ _ _ _ (Va C g) (by omega) (by omega) (by omega) eN (by rw[Qu];omega)
theorem Jcs(ps:List Pr)(N:Nat)(g:Good ps)(h:ps.length<=30)(hN:thN N ps=[]):Ye [.sh (.row (ps.map prE))]=some (.own ((tbN N 0 ps).map trE)):=by have go:=Jpn (.sh (.row (ps.map prE))) 30 1000000 ps [] 0 .no N g h h (by decide) hN (by simp;omega);unfold Ye;walk_at "ev";exact go
theorem JlP(ps:List Pr)(N:Nat)(g:Good ps)(h:ps.length<=30)(hN:thN N ps=[]):YZ [.sh (.row (ps.map prE))]=some (.own ((Vz (tbN N 0 ps) []).map prE)):=by
 have tl:=Jkx N 0 ps g h;unfold YZ;walk_at "ev";rw[Jcs ps N g h hN];walk_at "ev";rw[GY];refine Uc (fun(rest:List Tr) (a:List Pr) E=>∃j2 j3 j4,E=[.sh (.row (ps.map prE)),.od (a.map (·.1)) ((a.map (·.2)).map .int),j2,j3,j4]/\(a.map (·.1)).Nodup/\a.length+rest.length<=1000) (fun a t=>UM a t.1 t.2.2) [] ⟨.no,.no,.no,rfl,by simp,by simp;omega⟩ ?_ ?_
 ·rintro t rest a E ⟨j2,j3,j4,rfl,hn,hz⟩;rw[Qp] at hz;have hal:=Jiq a t.1 t.2.2;simp only[trE];walk_at "ev";rw[JdF];walk_at "ev";rw[JbC,<- V6 t.1 t.2.2,<- Ja3 _ _ _ hn];refine⟨.sh (.int t.1),.sh (.int t.2.1),.sh (.int t.2.2),rfl,?_,by omega⟩;rw[V6];exact VX _ hn
 ·rintro E' ⟨j2,j3,j4,rfl,hn,_⟩;walk_at "ev";rw[Jjh];rfl
theorem ZJ:∀(cur:Pr) (r:List Pr),(∀p∈r,0<=p.2)->((clF cur r).map (·.2)).sum=cur.2+(r.map (·.2)).sum
 | cur,[],_=>by simp[clF]
 | cur,p::r,h=>by
  have h0:=h p Qe
  have hr:=fun q hq=>h q (Qc p hq)
  rw[clF,Qd,Qr];split
  ·rw[ZJ _ r hr];dsimp only;omega
  ·split
   ·rw[Qd,Qr,ZJ p r hr]
   ·rw[ZJ cur r hr];omega
theorem Jf1:∀(ps:List Pr),(∀p∈ps,0<=p.2)->((clN ps).map (·.2)).sum=(ps.map (·.2)).sum
 | [],_=>rfl
 | p::r,h=>by
  have h0:=h p Qe
  have hr:=fun q hq=>h q (Qc p hq)
  rw[clN,Qd,Qr];split
  ·exact ZJ p r hr
  ·rw[Jf1 r hr];omega
theorem JnB(k:Int):∀(ps:List Pr),((byF k ps).map (·.2)).sum=(ps.map (·.2)).sum+k*(ps.length:Int):=by
 intro ps
 have e:(byF k ps).map (·.2)=ps.map fun p=>p.2+k:=by
  refine GN fun i=>?_
  unfold byF;rw[Qq,QD,Qq,Kj];rfl
 rw[e]
 induction ps with
 | nil=>simp
 | cons p r ih =>
  have ih':=ih (by
   refine GN fun i=>?_
   unfold byF;rw[Qq,QD,Qq,Kj];rfl)
  rw[Qd,Qr,ih',Qd,Qr,Qp,Ka,MC];simp;omega
theorem Jg5:∀{ps:List Pr},(∀p∈ps,1<=p.2)->(ps.length:Int)<=(ps.map (·.2)).sum
 | [],_=>Qw _
 | p::ps,h=>by
  have h1:=h p Qe
  have h2:=Jg5 fun q hq=>h q (Qc _ hq)
  rw[Qd,Qr,Qp];omega
theorem Jhb{ps:List Pr}(g:Good ps):((thF ps).map (·.2)).sum=(ps.map (·.2)).sum-(ps.length:Int):=by
 unfold thF;rw[Jf1,JnB]
 ·omega
 ·intro x hx;obtain⟨i,hi,rfl⟩:=Gh.mp hx;have e:(byF (-1) ps)[i]?=some (byF (-1) ps)[i]:=by simp
  obtain⟨p,hp,e2⟩:=JbU e;rw[e2];have:=g.one i p hp;dsimp only;omega
theorem W2:∀(n:Nat) {ps:List Pr},Good ps->(ps.map (·.2)).sum<=(n:Int)->thN n ps=[]
 | 0,ps,g,h=>by
  have:=Jg5 (Good.all g)
  show ps=[]
  exact Qz (by omega)
 | n+1,ps,g,h=>by
  show thN n (thF ps)=[]
  refine W2 n (JZ g) ?_;rw[Jhb g]
  by_cases hl:ps.length=0
  ·have:ps=[]:=Qz hl;subst this;simp
  ·omega
theorem Jqz{c1 c2 p1 p2 ins s:Int}(e:c1+c2=p1)(hc:0<=c2)(hp:0<=p2)(h0:0<=ins)(h1:ins<=s):∃t u,min c2 (s-ins)=t/\max 0 (ins+t-(p1-c1-c2))=ins+t/\min (ins+t) (p1-c1-c2)=0 ∧
 min p2 (s-(ins+t))=u/\min (c2+p2) (s-ins)=t+u/\0<=t/\t<=c2/\0<=u/\u<=p2/\(t=c2\/u=0):=by
 have z:p1-c1-c2=0:=by omega
 rw[z];rcases K4 c2 (s-ins) with h|h
 ·rw[GR h];rcases K4 p2 (s-(ins+c2)) with k|k
  ·exact⟨c2,p2,rfl,by omega,by omega,GR k,by omega,hc,Qw _,hp,Qw _,.inl rfl⟩
  ·exact⟨c2,s-(ins+c2),rfl,by omega,by omega,Gj k,by omega,hc,Qw _,by omega,k,.inl rfl⟩
 ·rw[Gj h];exact⟨s-ins,0,rfl,by omega,by omega,by omega,by omega,by omega,h,Qw _,hp,.inr rfl⟩
theorem bare{c1 c2 p1 p2 ins s:Int}(hb:c1+c2<=p1)(hp:p2=0)(hc:0<=c2)(h0:0<=ins)(h1:ins<=s):∃t m w,min c2 (s-ins)=t/\max 0 (ins+t-(p1-c1-c2))=m/\min (ins+t) (p1-c1-c2)=w/\min p2 (s-m)=0/\0<=t/\t<=c2 ∧
 ((m=0/\w=ins+t/\ins+t<=p1-c1-c2)\/(m=ins+t-(p1-c1-c2)/\w=p1-c1-c2/\p1-c1-c2<=ins+t)):=by
 obtain⟨t,ht,t0,t1,t2⟩:∃t,min c2 (s-ins)=t/\0<=t/\t<=c2/\ins+t<=s:=⟨_,rfl,by omega (config:={}),by omega (config:={}),by omega (config:={})⟩
 rw[ht];rcases K4 (ins+t) (p1-c1-c2) with h|h
 ·exact⟨t,0,ins+t,rfl,by omega (config:={}),GR h,by omega (config:={}),t0,t1,.inl ⟨rfl,rfl,h⟩⟩
 ·exact⟨t,ins+t-(p1-c1-c2),p1-c1-c2,rfl,by omega (config:={}),Gj h,by omega (config:={}),t0,t1,.inr ⟨rfl,rfl,h⟩⟩
theorem Jf5:∀(L:List Int) (a:List Pr),((L.foldl YO a).map (·.2)).sum=(a.map (·.2)).sum+(L.length:Int)
 | [],a=>by simp
 | s::L,a=>by
  have e:∀a:List Pr,((YO a s).map (·.2)).sum=(a.map (·.2)).sum+1:=fun a=>by
   induction a with
   | nil=>simp[YO]
   | cons p r ih =>
    rw[YO];split
    ·simp only[Qd,Qr];omega
    ·simp only[Qd,Qr];omega
  rw[QS,Jf5 L,e,Qp];omega
theorem Jg3{α:Type}:∀(l:List α),(l.map fun _=>(0:Int)).sum=0
 | []=>rfl
 | _::l=>by rw[Qd,Qr,Jg3 l];rfl
theorem Jje:∀(M K:List Int),M.Nodup->K.Nodup->(∀x∈M,x∈K)->(K.map fun s=>if s∈M then(1:Int) else 0).sum=(M.length:Int)
 | [],K,_,_,_=>by rw[show(fun s:Int=>if s∈([]:List Int) then(1:Int) else 0)=fun _=>0 from funext fun s=>if_neg (by simp)];exact Jg3 K
 | m::M,K,hm,hk,h=>by
  obtain⟨h1,h2⟩:=QX.mp hm;have ih:=Jje M K h2 hk fun x hx=>h x (Qc _ hx)
  have one:∀K:List Int,K.Nodup->(K.map fun s=>if s∈m::M then(1:Int) else 0).sum=(K.map fun s=>if s∈M then(1:Int) else 0).sum+(if m∈K then 1 else 0):=fun K hk=>by
   induction K with
   | nil=>rfl
   | cons k K ihK =>
    obtain⟨a1,a2⟩:=QX.mp hk;rw[Qd,Qr,Qd,Qr,ihK a2]
    by_cases c:k=m
    ·subst c;rw[if_pos Qe,if_neg h1,if_neg a1,if_pos Qe];omega
    ·have e1:(k∈m::M)=(k∈M):=by simp[c]
     have e2:(m∈k::K)=(m∈K):=by simp[QN c]
     simp only[e1,e2];omega
  rw[one K hk,ih,if_pos (h m Qe),Qp];omega
theorem WO:∀(r:List Pr) (cur:Pr) (e:Int),e∈Jr (clF cur r)->e∈Jr (cur::r)
 | [],_,_,h=>h
 | p::r,cur,e,h=>by
  unfold Jr at h ⊢;rw[clF] at h;split at h
  ·next c =>
   have:=WO r _ e h;unfold Jr at this;simp only[Qd,Qh] at this ⊢;rcases this with z|z
   ·exact .inr (.inl (by omega))
   ·exact .inr (.inr z)
  ·split at h
   ·rw[Qd,Qh] at h;rcases h with z|z
    ·rw[z];simp
    ·have:=WO r p e z;unfold Jr at this;rw[Qd];exact Qc _ this
   ·have:=WO r cur e h;unfold Jr at this;simp only[Qd,Qh] at this ⊢;rcases this with z|z
    ·exact .inl z
    ·exact .inr (.inr z)
theorem Jdg:∀(ps:List Pr) (e:Int),e∈Jr (clN ps)->e∈Jr ps
 | [],_,h=>h
 | p::r,e,h=>by
  rw[clN] at h;split at h
  ·exact WO r p e h
  ·have:=Jdg r e h;unfold Jr at this ⊢;rw[Qd];exact Qc _ this
theorem Jb8{qs:List Pr}{e:Int}(h:e∈Jr (thF qs)):e∈spF qs:=by
 have:=Jdg _ e h
 have z:=Jeq (-1) qs;rw[show(-1:Int)+1=0 by omega,WK] at z;rw[z];exact this
noncomputable def UO(l:List Tr):Int:=(l.map (·.2.2)).sum
theorem Jcb{α:Type}(f:α->Int)(k:α->Bool):∀(l:List α),(∀x∈l,k x=false->f x=0)->((l.filter k).map f).sum=(l.map f).sum
 | [],_=>rfl
 | x::l,h=>by
  have ih:=Jcb f k l fun y hy=>h y (Qc _ hy)
  rw[Qd,Qr]
  cases c:k x with
  | true=>rw[Gr c,Qd,Qr,ih]
  | false=>rw[Gq (by rw[c];simp),ih,h x Qe c,LN]
theorem Jg6{α:Type}(f g:α->Int):∀(l:List α),(l.map fun x=>f x-g x).sum=(l.map f).sum-(l.map g).sum
 | []=>rfl
 | x::l=>by rw[Qd,Qr,Qd,Qr,Qd,Qr,Jg6 f g l];omega
theorem Jg2{α:Type}(f g:α->Int):∀(l:List α),(l.map fun x=>f x+g x).sum=(l.map f).sum+(l.map g).sum
 | []=>rfl
 | x::l=>by rw[Qd,Qr,Qd,Qr,Qd,Qr,Jg2 f g l];omega
theorem Jcq{qs:List Pr}(g:Good qs)(k:Int):UO (JU k qs)=(qs.length:Int)-((thF qs).length:Int):=by
 obtain⟨c1,c2,c3⟩:=JiJ (spF qs);have nd:=Jb7 (JZ g);unfold UO JU;rw[QA];have e1:(((J1 qs).filter fun t=>decide (t.2.1>t.2.2)).map ((fun t:Tr=>t.2.2) ∘ fun t:Tr=>(k,t.1,t.2.1-t.2.2))).sum=(((J1 qs).filter fun t=>decide (t.2.1>t.2.2)).map fun t=>t.2.1-t.2.2).sum:=rfl;rw[e1,Jcb]
 ·unfold J1;rw[QA]
  have e2:((UN (spF qs)).map ((fun t:Tr=>t.2.1-t.2.2) ∘ fun p:Pr=>((p.1,p.2,owF (thF qs) p.1):Tr))).sum=((UN (spF qs)).map fun p=>p.2-(if p.1∈Jr (thF qs) then(1:Int) else 0)).sum:=by
   congr 1;refine QQ fun p _=>?_
   show p.2-owF (thF qs) p.1=_;rw[JcC (JZ g)]
  rw[e2,Jg6];have e3:=Jf5 (spF qs) [];have e4:=Jje (Jr (thF qs)) ((UN (spF qs)).map (·.1)) nd c1 fun x hx=>Qv.mpr ⟨_,c3 x (Jb8 hx),rfl⟩
  rw[QA] at e4;have e5:((UN (spF qs)).map fun p=>if p.1∈Jr (thF qs) then(1:Int) else 0).sum=((Jr (thF qs)).length:Int):=e4
  have e6:((UN (spF qs)).map (·.2)).sum=((spF qs).length:Int):=by unfold UN;rw[e3];simp
  rw[e5,e6,JfF];unfold Jr;rw[Qm]
 ·intro t ht c;unfold J1 at ht;obtain⟨p,hp,rfl⟩:=Qv.mp ht;obtain⟨v1,v2⟩:=c2 p hp;have:0<(spF qs).count p.1:=Ku.mpr v2;have o:=JcC (JZ g) p.1;have c':=of_decide_eq_false c;dsimp only at c' ⊢;rw[o] at c' ⊢
  by_cases z:p.1∈Jr (thF qs)
  ·rw[if_pos z] at c' ⊢;omega
  ·rw[if_neg z] at c' ⊢;omega
theorem WC:∀(n:Nat) (k:Int) {qs:List Pr},Good qs->thN n qs=[]->UO (tbN n k qs)=(qs.length:Int)
 | 0,k,qs,g,h=>by have:qs=[]:=h;subst this;rfl
 | n+1,k,qs,g,h=>by
  have ih:=WC n (k+1) (JZ g) h
  have l:=Jcq g (k+1);unfold UO at *;rw[tbN,QL,Lx,ih,l];omega
theorem JcX(f:Int->Int)(s v:Int):∀(a:List Pr),((UM a s v).map fun p=>p.2*f p.1).sum=(a.map fun p=>p.2*f p.1).sum+v*f s
 | []=>by simp[UM]
 | p::r=>by
  rw[UM];split
  ·next c=>rw[Qd,Qr,Qd,Qr];dsimp only;rw[KZ,c];omega
  ·rw[Qd,Qr,Qd,Qr,JcX f s v r];omega
theorem Jeu(f:Int->Int):∀(tb:List Tr) (a:List Pr),((Vz tb a).map fun p=>p.2*f p.1).sum=(a.map fun p=>p.2*f p.1).sum+(tb.map fun t=>t.2.2*f t.1).sum
 | [],a=>by simp[Vz]
 | t::tb,a=>by show((Vz tb (UM a t.1 t.2.2)).map fun p=>p.2*f p.1).sum=_;rw[Jeu f tb,JcX,Qd,Qr];omega
theorem JcV(s v:Int):∀(a:List Pr) (p:Pr),p∈UM a s v->p.1=s\/p.1∈a.map (·.1)
 | [],p,h=>by
  have:p=(s,v):=by simpa [UM] using h
  exact .inl (by rw[this])
 | q::r,p,h=>by
  rw[UM] at h;split at h
  ·rcases Qh.mp h with z|z
   ·exact .inr (by rw[z];simp)
   ·exact .inr (Qv.mpr ⟨p,Qc _ z,rfl⟩)
  ·rcases Qh.mp h with z|z
   ·exact .inr (by rw[z];simp)
   ·rcases JcV s v r p z with y|y
    ·exact .inl y
    ·exact .inr (by rw[Qd];exact Qc _ y)
theorem Jes:∀(tb:List Tr) (a:List Pr) (p:Pr),p∈Vz tb a->(∃t∈tb,t.1=p.1)\/p.1∈a.map (·.1)
 | [],a,p,h=>.inr (Qv.mpr ⟨p,h,rfl⟩)
 | t::tb,a,p,h=>by
  rcases Jes tb (UM a t.1 t.2.2) p h with ⟨u,h1,h2⟩|z
  ·exact .inl ⟨u,Qc _ h1,h2⟩
  ·obtain⟨q,hq,e⟩:=Qv.mp z;rcases JcV t.1 t.2.2 a q hq with y|y
   ·exact .inl ⟨t,Qe,by rw[<- e,y]⟩
   ·exact .inr (by rw[<- e];exact y)
theorem JlT{a b d:Int}(ha:0<=a)(hb:0<=b):max 0 (min (a+b) d)=max 0 (min a d)+max 0 (min b (d-a)):=by
 rcases K4 d a with k|k
 ·rw[Gj (show d<=a+b by omega),Gj k,Lz (b:=min b (d-a)) (RQ (KY _ _) (by omega)),Mg]
 ·rw[GR k,Kg ha];rcases K4 d (a+b) with m|m
  ·rw[Gj m,Gj (show d-a<=b by omega),Kg (by omega),Kg (by omega)];omega
  ·rw[GR m,GR (show b<=d-a by omega),Kg (by omega),Kg hb]
theorem V7(x:Int):∀(r:List Pr) (cur:Pr),(∀p∈r,0<=p.2)->0<=cur.2->below (clF cur r) x=below (cur::r) x
 | [],cur,_,_=>rfl
 | p::r,cur,h,hc=>by
  have h0:=h p Qe
  have hr:=fun q hq=>h q (Qc p hq)
  rw[clF];split
  ·next e=>rw[V7 x r _ hr (by dsimp only;omega (config:={})),JN,JN,JN];dsimp only;rw[JlT hc h0,show x-cur.1-cur.2=x-p.1 by omega (config:={}),MJ]
  ·split
   ·rw[JN,V7 x r p hr h0,<- JN]
   ·rw[V7 x r cur hr hc,JN,JN cur,JN p,show p.2=0 by omega (config:={}),Lz (b:=min 0 _) (Rb _ _),LN]
theorem Ja9(x:Int):∀(ps:List Pr),(∀p∈ps,0<=p.2)->below (clN ps) x=below ps x
 | [],_=>rfl
 | p::r,h=>by
  have h0:=h p Qe
  have hr:=fun q hq=>h q (Qc p hq)
  rw[clN];split
  ·exact V7 x r p hr h0
  ·rw[Ja9 x r hr,JN p];omega (config:={})
theorem JbT:∀(r:List Pr) (c x:Int),Good r->(∀q,r[0]?=some q->x<=q.1-c)->∀p∈byR c r,x<=p.1
 | [],_,_,_,_,_,h=>by cases h
 | q::r,c,x,g,hx,p,h=>by
  have h1:=hx q rfl;rcases Qh.mp h with z|z
  ·rw[z];exact h1
  ·refine JbT r (c+2) x (Good.cons' g) (fun q' e=>?_) p z;have:=g.gap 0 q q' rfl (by simpa using e);have:=g.one 0 q rfl;omega
theorem Jgb(left:List Pr):∀(q:List Pr) (i:Nat) (base:Int),Good q->(∀p,q[0]?=some p->∀x,p.1-2*(i:Int)<=x->below left x=base+below (byR (2*(i:Int)) q) x) ->
 edF left i base ((q.zipIdx i).map fun x=>x.1.1+x.1.2-1-2*(x.2:Int))=q
 | [],_,_,_,_=>rfl
 | p::r,i,base,g,hf=>by
  have h1:=g.one 0 p rfl
  have nx:∀q,r[0]?=some q->p.1+p.2+1<=q.1:=fun q e=>by have:=g.gap 0 p q rfl (by simpa using e);omega
  have hs:=hf p rfl (p.1+p.2-1-2*(i:Int)) (by omega);rw[byR,JN,ZY (ps:=byR (2*(i:Int)+2) r) (JbT r _ _ (Good.cons' g) fun q e=>by have:=nx q e;omega)] at hs;dsimp only at hs
  have e:below left (p.1+p.2-1-2*(i:Int))=base+(p.2-1):=by omega
  rw[KM,Qd,edF];dsimp only;rw[e,Jgb left r (i+1) (base+(p.2-1)) (Good.cons' g) fun q eq x hx=>?_]
  ·congr 1;exact Kh (by dsimp only;omega) (by dsimp only;omega)
  ·have:=nx q eq;rw[hf p rfl x (by omega),byR,JN];dsimp only;rw[show 2*((i+1:Nat):Int)=2*(i:Int)+2 by omega];omega
theorem Jhh{q:List Pr}(g:Good q):∀p∈byF (-1) q,0<=p.2:=fun p hp=>by obtain⟨i,hi,rfl⟩:=Gh.mp hp;have w:Wide (1+-1) (byF (-1) q):=(YI g).bys (k:=-1);exact w.one i _ (by simp)
theorem JpK{q:List Pr}(g:Good q):edF (thF q) 0 0 (spF q)=q:=by
 refine Jgb (thF q) q 0 0 g fun p _ x _=>?_
 unfold thF;rw[Ja9 x _ (Jhh g),LN,show 2*((0:Nat):Int)=0 by simp,UI]
theorem Jap(prs:List Pr)(s:Int):((YE prs).count s:Int)=(prs.map fun p=>if p.1=s then((p.2.toNat:Nat):Int) else 0).sum:=by
 induction prs with
 | nil=>rfl
 | cons p r ih =>
  unfold YE at *;rw[Gm,LS,Qd,Qr,<- ih,Ru];split <;> rename_i c
  ·have c':p.1=s:=by simpa using c
   rw[if_pos c'];omega
  ·have c':¬p.1=s:=by simpa using c
   rw[if_neg c'];omega
theorem JgB{a:List Pr}(f:Pr->Int)(hn:(a.map (·.1)).Nodup)(s:Int):(a.map fun p=>if p.1=s then f p else 0).sum=if s∈a.map (·.1) then f (s,lk s a) else 0:=by
 induction a with
 | nil=>rfl
 | cons p r ih =>
  rw[Qd,QX] at hn;rw[Qd,Qr,ih hn.2,lk]
  by_cases c:p.1=s
  ·subst c;rw[if_pos rfl,if_pos rfl,if_neg hn.1,if_pos (by simp)];simp
  ·rw[if_neg c,if_neg c,LN];have:(s∈(p::r).map (·.1))=(s∈r.map (·.1)):=by simp[QN c]
   simp only[this]
noncomputable def Y3(l:List Tr):List Pr:=l.map fun t=>(t.2.1,t.2.2)
theorem JbI{q:List Pr}(g:Good q)(k:Int):Yw (Jr (thF q)++YE (Y3 (JU k q)))=spF q:=by
 obtain⟨c1,c2,c3⟩:=JiJ (spF q);have gt:=JZ g;have nd:=Jb7 gt;refine List.Perm.eq_of_pairwise (le:=(·<=·)) (fun a b _ _ h1 h2=>by omega) (Vx _) (Jkk 0 g) ((J3 _).trans (List.perm_iff_count.mpr fun s=>?_));rw[LS]
 have e1:((YE (Y3 (JU k q))).count s:Int)=if s∈spF q then((spF q).count s:Int)-(if s∈Jr (thF q) then 1 else 0) else 0:=by
  rw[Jap];unfold Y3 JU;rw[QA,QA];refine Eq.trans (show _=(((J1 q).filter fun t=>decide (t.2.1>t.2.2)).map fun t=>if t.1=s then(((t.2.1-t.2.2).toNat:Nat):Int) else 0).sum from rfl) ?_;rw[Jcb]
  ·unfold J1;rw[QA];have f2:((UN (spF q)).map ((fun t:Tr=>if t.1=s then(((t.2.1-t.2.2).toNat:Nat):Int) else 0) ∘ fun p:Pr=>((p.1,p.2,owF (thF q) p.1):Tr))).sum=((UN (spF q)).map fun p=>if p.1=s then(((p.2-owF (thF q) p.1).toNat:Nat):Int) else 0).sum:=rfl;rw[f2,JgB (fun p=>(((p.2-owF (thF q) p.1).toNat:Nat):Int)) c1];have mm:s∈(UN (spF q)).map (·.1)↔s∈spF q:=⟨fun h=>by obtain⟨p,hp,e⟩:=Qv.mp h;rw[<- e];exact(c2 p hp).2,fun h=>Qv.mpr ⟨_,c3 s h,rfl⟩⟩
   by_cases h:s∈spF q
   ·rw[if_pos (mm.mpr h),if_pos h,Jfb c1 (c3 s h) (p:=(s,((spF q).count s:Int)))];dsimp only;rw[JcC gt];have:0<(spF q).count s:=Ku.mpr h;split <;> omega
   ·rw[if_neg fun z=>h (mm.mp z),if_neg h]
  ·intro t ht c;have c':=of_decide_eq_false c;split
   ·omega
   ·rfl
 have e2:(Jr (thF q)).count s=if s∈Jr (thF q) then 1 else 0:=by
  split
  ·next h=>exact Jbm nd h
  ·next h=>exact LC.mpr h
 rw[e2]
 by_cases h:s∈spF q
 ·rw[if_pos h] at e1;have:0<(spF q).count s:=Ku.mpr h;split at e1 <;> rename_i c
  ·rw[if_pos c];omega
  ·rw[if_neg c];omega
 ·rw[if_neg h] at e1;rw[if_neg fun z=>h (Jb8 z),LC.mpr h];omega
noncomputable def putF(ps prs:List Pr):List Pr:=edF ps 0 0 (Yw (Jr ps++YE prs))
theorem JjW{q:List Pr}(g:Good q)(k:Int):putF (thF q) (Y3 (JU k q))=q:=by unfold putF;rw[JbI g k,JpK g]
noncomputable abbrev Gp:=Int×List Pr
noncomputable def Vd:List Gp->Tr->List Gp
 | [],t=>[(t.1,[(t.2.1,t.2.2)])]
 | g::gs,t=>if g.1=t.1 then(g.1,g.2++[(t.2.1,t.2.2)])::gs else g::Vd gs t
noncomputable def Ur(tb:List Tr):List Gp:=tb.foldl Vd []
theorem Ja6(x:Gp):∀(tb:List Tr) (g:List Gp),(∀t∈tb,x.1≠t.1)->tb.foldl Vd (x::g)=x::tb.foldl Vd g
 | [],_,_=>rfl
 | t::tb,g,h=>by rw[QS,Vd,if_neg (h t Qe),QS];exact Ja6 x tb _ fun u hu=>h u (Qc _ hu)
theorem Ja5(k:Int):∀(tb:List Tr) (ps:List Pr),(∀t∈tb,t.1=k)->tb.foldl Vd [(k,ps)]=[(k,ps++Y3 tb)]
 | [],ps,_=>by simp[Y3]
 | t::tb,ps,h=>by rw[QS,Vd,if_pos (h t Qe).symm,Ja5 k tb _ fun u hu=>h u (Qc _ hu)];simp[Y3]
theorem Jlw(k:Int)(a b:List Tr)(ha:a≠[])(h1:∀t∈a,t.1=k)(h2:∀t∈b,k<t.1):Ur (a++b)=(k,Y3 a)::Ur b:=by
 cases a with
 | nil=>exact absurd rfl ha
 | cons t a=>unfold Ur;rw[List.foldl_append,QS,show Vd [] t=[(k,[(t.2.1,t.2.2)])] by rw[Vd,h1 t Qe],Ja5 k a _ fun u hu=>h1 u (Qc _ hu),Ja6 _ b [] fun u hu=>by have:=h2 u hu;dsimp only;omega];simp[Y3]
noncomputable def V0:Int->List Gp->List Pr
 | _,[]=>[]
 | k,g::gs=>byF (g.1-k-1) (putF (V0 g.1 gs) g.2)
noncomputable def OkG:Int->List Gp->Prop
 | _,[]=>True
 | k,g::gs=>k<g.1/\(∀p∈g.2,1<=p.2)/\Good (V0 g.1 gs)/\((V0 g.1 gs).length:Int)+(g.2.map (·.2)).sum<=30/\Good (putF (V0 g.1 gs) g.2)/\(putF (V0 g.1 gs) g.2).length<=30/\OkG g.1 gs
theorem Vh{k:Int}{q:List Pr}{t:Tr}(h:t∈JU k q):1<=t.2.2:=by unfold JU at h;obtain⟨u,hu,e⟩:=Qv.mp h;obtain⟨_,c⟩:=Lw.mp hu;have:=of_decide_eq_true c;rw[<- e];dsimp only;omega
theorem Jmb(l:List Tr):((Y3 l).map (·.2)).sum=UO l:=by unfold Y3 UO;rw[QA];rfl
theorem Jfv:∀(m:Nat) (N:Nat) (k:Int) {ps:List Pr},ps.length<=m->Good ps->ps.length<=30->thN N ps=[]->V0 k (Ur (tbN N k ps))=ps/\OkG k (Ur (tbN N k ps)):=by
 intro m
 induction m with
 | zero=>intro N k ps hm g h30 hN;have:ps=[]:=Qz (by omega);subst this;rw[WB];exact⟨rfl,trivial⟩
 | succ m ih =>
  intro N k ps hm g h30 hN
  by_cases h0:ps=[]
  ·subst h0;rw[WB];exact⟨rfl,trivial⟩
  ·obtain⟨c,hc,c1,w,t⟩:=JnE g h0;obtain⟨C,hC,hCN,eT,eN⟩:=Jex w c1 h0 hN k;have g1:=Va (C-1) g;have l1:=W3 (C-1) ps;have l2:=W3 C ps;have fw:=JaO t;rw[<- hC,<- JaM C w c1 (by omega)] at fw;have eq1:thN C ps=thF (thN (C-1) ps):=by rw[<- Zq,show C-1+1=C by omega]
   have ls:=Jcq g1 (k+c);rw[<- eq1] at ls
   have hb:byF (c-1) (thN (C-1) ps)=ps:=by rw[JaN w c1 (by omega),JfX,show c-1+-((C-1:Nat):Int)=0 by omega,WK]
   have ll:(thN (C-1) ps).length=ps.length:=by have:=Vk (c-1) (thN (C-1) ps);rw[hb] at this;exact this.symm
   have hne:JU (k+c) (thN (C-1) ps)≠[]:=fun z=>by rw[z] at ls;have:(0:Int)=_:=ls;omega
   have gc:=Jlw (k+c) (JU (k+c) (thN (C-1) ps)) (tbN (N-C) (k+c) (thN C ps)) hne (fun u hu=>Up hu) fun u hu=>ZS _ _ _ u hu
   obtain⟨i1,i2⟩:=ih (N-C) (k+c) (ps:=thN C ps) (by omega) (Va C g) (by omega) eN;have pb:putF (thN C ps) (Y3 (JU (k+c) (thN (C-1) ps)))=thN (C-1) ps:=by rw[eq1];exact JjW g1 (k+c)
   rw[eT,gc];refine⟨?_,?_⟩
   ·show byF (k+c-k-1) (putF (V0 (k+c) (Ur (tbN (N-C) (k+c) (thN C ps)))) (Y3 (JU (k+c) (thN (C-1) ps))))=ps;rw[i1,pb,show k+c-k-1=c-1 by omega,hb]
   ·show k<k+c/\(∀p∈Y3 (JU (k+c) (thN (C-1) ps)),1<=p.2)/\Good (V0 (k+c) (Ur (tbN (N-C) (k+c) (thN C ps))))/\((V0 (k+c) (Ur (tbN (N-C) (k+c) (thN C ps)))).length:Int)+((Y3 (JU (k+c) (thN (C-1) ps))).map (·.2)).sum<=30/\Good (putF (V0 (k+c) (Ur (tbN (N-C) (k+c) (thN C ps)))) (Y3 (JU (k+c) (thN (C-1) ps))))/\(putF (V0 (k+c) (Ur (tbN (N-C) (k+c) (thN C ps)))) (Y3 (JU (k+c) (thN (C-1) ps)))).length<=30/\OkG (k+c) (Ur (tbN (N-C) (k+c) (thN C ps)))
    rw[i1,pb,Jmb];refine⟨by omega,fun p hp=>?_,Va C g,by omega,g1,by omega,i2⟩;obtain⟨u,hu,e⟩:=Qv.mp hp;rw[<- e];exact Vh hu
noncomputable abbrev ctB:Es:=(Jt (xIf (tOr? (tB? (e2 fLt (Jd 2) (eC (.int 1)))) (tB? (e2 fLt (Jd 4) (eC (.int 1))))) V3 Yb) (Jt (xIf (tAnd? (tB? (e2 Zc (Jd 1) (eC .non))) (tB? (e2 JiY (Uu (aC (Jd 2) (aC (Jd 3) a0))) (Jd 1)))) V3 Yb) (JE 1 (Uu (aC (Jd 2) (aC (Jd 3) a0))))))
noncomputable abbrev ctP:Pt:=(.tp (.cons (.nm 2) (.cons (.nm 3) (.cons (.nm 4) .nil))))
noncomputable abbrev gpP:Pt:=(.tp (.cons (.nm 2) (.cons (.nm 3) (.cons (.nm 4) .nil))))
noncomputable abbrev gpK:Ev:=(Jd 2)
noncomputable abbrev gpV:Ev:=(Uu (aC (Jd 3) (aC (Jd 4) a0)))
noncomputable abbrev roB:Es:=(JE 6 (eU 2 Yz (aC (eU 2 Ux (aC (Jd 6) (aC (Jk6 (Jd 1) (Jd 2)) a0))) (aC (e2 YW (e2 YW (Jd 2) (Jd 7)) (eC (.int 1))) a0))))
noncomputable abbrev roP:Pt:=(.tp (.cons (.nm 7) (.cons (.nm 2) .nil)))
noncomputable def WH:Option Pr->List Tr->Prop
 | _,[]=>True
 | a,t::r=>1<=t.1/\1<=t.2.2/\(∀b,a=some b->b.1<t.1\/(b.1=t.1/\b.2<t.2.1))/\WH (some (t.1,t.2.1)) r
noncomputable def ahE:Option Pr->D
 | none=>.non
 | some p=>prE p
theorem Jf7(x:Sl):∀(tb:List Tr) (a:Option Pr) (j2 j3 j4:Sl),WH a tb->∃E',Yo ctP ctB (tb.map trE) [x,.sh (ahE a),j2,j3,j4]=some (.nx (x::E'))/\E'.length=4
 | [],a,j2,j3,j4,_=>⟨_,rfl,rfl⟩
 | t::r,a,j2,j3,j4,h=>by
  obtain⟨h1,h2,h3,h4⟩:=h;obtain⟨E',ih⟩:=Jf7 x r (some (t.1,t.2.1)) (.sh (.int t.1)) (.sh (.int t.2.1)) (.sh (.int t.2.2)) h4;refine⟨E',?_,ih.2⟩;rw[Qd,Yo];simp only[trE];walk_at "ev";rw[decide_eq_false (show ¬t.1<1 by omega)];walk_at "ev";rw[decide_eq_false (show ¬t.2.2<1 by omega)];walk_at "ev"
  cases a with
  | none=>simp only[ahE];walk_at "ev";exact ih.1
  | some b =>
   have hb:=h3 b rfl;simp only[ahE,prE];walk_at "ev"
   have e:(if t.1=b.1 then decide (t.2.1<=b.2) else decide (t.1<=b.1))=false:=by
    split
    ·exact decide_eq_false (by omega)
    ·exact decide_eq_false (by omega)
   rw[e];walk_at "ev";exact ih.1
theorem JpV(tb:List Tr)(h:WH none tb)(hs:UO tb<=30)(hl:tb.length<=30):∃r,J5 [.sh (.lst (tb.map trE))]=some r:=by
 obtain⟨E',e,el⟩:=Jf7 (.sh (.lst (tb.map trE))) tb none .no .no .no h;unfold J5;walk_at "ev";rw[show Yo ctP ctB (tb.map trE) [.sh (.lst (tb.map trE)),.sh .non,.no,.no,.no]=_ from e];walk_at "ev";rw[Yf (g:=fun t:Tr=>D.int t.2.2)]
 ·walk_at "ev";rw[Wb (ns:=tb.map (·.2.2)) (by simp[Sl.q])];walk_at "ev";rw[decide_eq_false (show ¬(tb.map (·.2.2)).sum>30 from by unfold UO at hs;omega (config:={}))];walk_at "ev";exact⟨_,rfl⟩
 ·intro t _;simp only[trE];walk_at "ev"
theorem JcZ:∀(g:List Gp) (t:Tr),(Vd g t).map (·.1)=Yv (g.map (·.1)) t.1
 | [],t=>rfl
 | x::g,t=>by
  have ih:=JcZ g t;unfold Yv Vn at ih ⊢;rw[Vd,Qd,GG]
  by_cases h:x.1=t.1
  ·rw[if_pos h,decide_eq_true h,M3,if_pos rfl];rfl
  ·rw[if_neg h,decide_eq_false h,GZ,Qd,ih];split <;> rfl
theorem Ja7:∀(g:List Gp) (t:Tr),JaS (g.map (·.1)) (g.map fun x=>x.2.map prE) t.1 (prE (t.2.1,t.2.2))=(Vd g t).map fun x=>x.2.map prE
 | [],t=>rfl
 | x::g,t=>by
  rw[Qd,Qd,JaS,Vd];split
  ·simp
  ·rw[Ja7 g t];rfl
theorem JpW(x a5 a6 a7:Sl):∀(tb:List Tr) (g:List Gp) (j2 j3 j4:Sl),∃j2' j3' j4',WP gpP gpK gpV (tb.map trE) [x,.no,j2,j3,j4,a5,a6,a7] (g.map (·.1)) (g.map fun x=>x.2.map prE) =
 some ([x,.no,j2',j3',j4',a5,a6,a7],(tb.foldl Vd g).map (·.1),(tb.foldl Vd g).map fun x=>x.2.map prE)
 | [],g,j2,j3,j4=>⟨j2,j3,j4,rfl⟩
 | t::tb,g,j2,j3,j4=>by obtain⟨a,b,c,ih⟩:=JpW x a5 a6 a7 tb (Vd g t) (.sh (.int t.1)) (.sh (.int t.2.1)) (.sh (.int t.2.2));refine⟨a,b,c,?_⟩;rw[Qd,WP];simp only[trE];walk_at "ev";rw[<- JcZ,show D.tup [D.int t.2.1,D.int t.2.2]=prE (t.2.1,t.2.2) from rfl,Ja7];exact ih
theorem JdH{p:Pt}{b:Es}(hb:∀E o,b E=some o->∃E',o=.nx E'):∀{xs ys:List D} {E E1:En},Yo p b xs E=some (.nx E1)->Yo p b (xs++ys) E=Yo p b ys E1
 | [],ys,E,E1,h=>by cases h;rfl
 | x::xs,ys,E,E1,h=>by
  rw[Yo] at h;rw[KS,Yo]
  cases hp:p.bind x E with
  | none=>rw[hp] at h;cases h
  | some E2 =>
   rw[hp,QP] at h;rw[QP]
   cases ho:b E2 with
   | none=>rw[ho] at h;cases h
   | some o=>obtain⟨E3,e⟩:=hb E2 o ho;subst e;rw[ho,QP] at h;rw[QP];exact JdH hb h
theorem JmA(i:Nat)(a:Ev):∀E o,JE i a E=some o->∃E',o=.nx E':=fun E o e=>by
 unfold JE at e;obtain⟨s,_,e⟩:=bind_some e;obtain⟨d,_,e⟩:=bind_some e;split at e
 ·cases e;exact⟨_,rfl⟩
 ·cases e
noncomputable def zl(k:Int)(gs:List Gp):List Pr:=MQ (k::gs.map (·.1)) (gs.map (·.1))
theorem JmW(k:Int)(g:Gp)(gs:List Gp):zl k (g::gs)=(k,g.1)::zl g.1 gs:=rfl
theorem JdE:∀{all:List Gp} {g:Gp},(all.map (·.1)).Nodup->g∈all->look (all.map (·.1)) ((all.map fun x=>x.2.map prE).map D.lst) g.1=some (.lst (g.2.map prE))
 | [],_,_,h=>by cases h
 | x::r,g,hn,h=>by
  rw[Qd,QX] at hn;simp only[Qd,look];rcases Qh.mp h with z|z
  ·subst z;rw[if_pos rfl]
  ·rw[if_neg fun e=>hn.1 (by rw[e];exact Qv.mpr ⟨g,z,rfl⟩)];exact JdE hn.2 z
theorem JlW{l:List Pr}(h:∀p∈l,1<=p.2):(l.length:Int)<=(l.map (·.2)).sum:=by
 induction l with
 | nil=>exact Qw _
 | cons p r ih =>
  have:=ih fun q hq=>h q (Qc _ hq)
  have:=h p Qe;rw[Qd,Qr,Qp];omega
theorem JgU(x a5:Sl)(j3 j4:Sl)(all:List Gp)(hn:(all.map (·.1)).Nodup):∀(gs:List Gp) (k:Int) (j2 j7:Sl),OkG k gs->(∀g∈gs,g∈all) ->
 ∃j2' j7',Yo roP roB ((zl k gs).reverse.map prE) [x,.od (all.map (·.1)) ((all.map fun x=>x.2.map prE).map D.lst),j2,j3,j4,a5,.sh (.row (([]:List Pr).map prE)),j7]=some (.nx [x,.od (all.map (·.1)) ((all.map fun x=>x.2.map prE).map D.lst),j2',j3,j4,a5,.sh (.row ((V0 k gs).map prE)),j7'])
 | [],k,j2,j7,_,_=>⟨j2,j7,rfl⟩
 | g::gs,k,j2,j7,h,hm=>by
  obtain⟨h1,h2,h3,h4,h5,h6,h7⟩:=h;obtain⟨a,b,ih⟩:=JgU x a5 j3 j4 all hn gs g.1 j2 j7 h7 fun y hy=>hm y (Qc _ hy)
  have nl:=JlW h2;refine⟨.sh (.int g.1),.sh (.int k),?_⟩;rw[JmW,Lc,QL,JdH (JmA 6 _) ih]
  show Yo roP roB [prE (k,g.1)] _=_;rw[Yo];simp only[prE];walk_at "ev";rw[JdE hn (hm g Qe)];walk_at "ev";rw[JpX (V0 g.1 gs) g.2 h3 (fun p hp=>by have:=h2 p hp;omega) h4 (by omega) (by omega)];walk_at "ev";rw[show edF (V0 g.1 gs) 0 0 (Yw (Jr (V0 g.1 gs)++YE g.2))=putF (V0 g.1 gs) g.2 from rfl,show g.1-k-1=(((g.1-k-1).toNat:Nat):Int) by omega,JlS _ _ h5 h6];walk_at "ev";rw[show(((g.1-k-1).toNat:Nat):Int)=g.1-k-1 by omega]
  rfl
theorem JgA:∀{gs:List Gp} {k:Int},OkG k gs->(gs.map (·.1)).Pairwise (·<·)/\∀y∈gs.map (·.1),k<y
 | [],_,_=>⟨.nil,fun _ h=>by cases h⟩
 | g::gs,k,h=>by
  obtain⟨h1,_,_,_,_,_,h7⟩:=h;obtain⟨i1,i2⟩:=JgA h7;refine⟨QO.mpr ⟨i2,i1⟩,fun y hy=>?_⟩;rcases Qh.mp hy with z|z
  ·rw[z];exact h1
  ·have:=i2 y z;omega
theorem JcY:∀(g:List Gp) (t:Tr),(Vd g t).length<=g.length+1
 | [],t=>Qn _
 | x::g,t=>by
  have:=JcY g t;rw[Vd];split
  ·simp
  ·simp only[Qp];omega
theorem Jgm:∀(tb:List Tr) (g:List Gp),(tb.foldl Vd g).length<=g.length+tb.length
 | [],g=>by simp
 | t::tb,g=>by
  have:=Jgm tb (Vd g t)
  have:=JcY g t;rw[QS,Qp];omega
theorem JlR(tb:List Tr)(h:WH none tb)(hs:UO tb<=30)(hl:tb.length<=30)(ok:OkG 0 (Ur tb)):UR [.sh (.lst (tb.map trE))]=some (.sh (.row ((V0 0 (Ur tb)).map prE))):=by
 obtain⟨r,hr⟩:=JpV tb h hs hl;obtain⟨kp,_⟩:=JgA ok;have nd:((Ur tb).map (·.1)).Nodup:=kp.imp fun {a b} h=>by omega
 have gl:=Jgm tb [];rw[show tb.foldl Vd []=Ur tb from rfl,G8] at gl;obtain⟨g2,g3,g4,hg⟩:=JpW (.sh (.lst (tb.map trE))) .no .no .no tb [] .no .no .no;rw[show tb.foldl Vd []=Ur tb from rfl] at hg;obtain⟨r2,r7,hro⟩:=JgU (.sh (.lst (tb.map trE))) (.sh (.lst (((Ur tb).map (·.1)).map .int))) g3 g4 (Ur tb) nd (Ur tb) 0 g2 .no ok (fun _ h=>h);unfold UR;walk_at "ev";rw[hr];walk_at "ev";unfold JmU;walk_at "ev";rw[show WP gpP gpK gpV (tb.map trE) [.sh (.lst (tb.map trE)),.no,.no,.no,.no,.no,.no,.no] [] []=_ from hg]
 walk_at "ev";rw[show ZD [.own []]=some (.sh (.row (([]:List Pr).map prE))) from V9 (ps:=[]) rfl Good.nil (by simp)];walk_at "ev"
 have hz:JcR (D.int 0::((Ur tb).map (·.1)).map D.int) (((Ur tb).map (·.1)).map D.int)=(zl 0 (Ur tb)).map prE:=by rw[show D.int 0::((Ur tb).map (·.1)).map D.int=(0::(Ur tb).map (·.1)).map D.int from rfl,JcS];rfl
 rw[hz,<- List.map_reverse];rw[show Yo roP roB ((zl 0 (Ur tb)).reverse.map prE) [.sh (.lst (tb.map trE)),.od ((Ur tb).map (·.1)) (((Ur tb).map fun x=>x.2.map prE).map D.lst),g2,g3,g4,.sh (.lst (((Ur tb).map (·.1)).map .int)),.sh (.row []),.no]=_ from hro];walk_at "ev"
theorem JfR(K:Int)(rest:List Tr)(hK:1<=K)(hr:∀a',(∀b,a'=some b->b.1<=K)->WH a' rest):∀(L:List Tr) (a:Option Pr),(∀t∈L,t.1=K/\1<=t.2.2)->(L.map (·.2.1)).Pairwise (·<·)->(∀b,a=some b->b.1<K\/(b.1=K/\∀t∈L,b.2<t.2.1))->WH a (L++rest)
 | [],a,_,_,h=>hr a fun b e=>by rcases h b e with z|z <;> omega
 | t::L,a,h1,h2,h3=>by
  obtain⟨k1,k2⟩:=h1 t Qe;rw[Qd,QO] at h2;refine⟨by omega,k2,fun b e=>?_,JfR K rest hK hr L _ (fun u hu=>h1 u (Qc _ hu)) h2.2 fun b e=>?_⟩
  ·rcases h3 b e with z|⟨z,y⟩
   ·exact .inl (by omega)
   ·exact .inr ⟨by omega,y t Qe⟩
  ·cases e;exact .inr ⟨k1,fun u hu=>h2.1 _ (Qv.mpr ⟨u,hu,rfl⟩)⟩
theorem Wc{q:List Pr}(g:Good q)(k:Int):((JU k q).map (·.2.1)).Pairwise (·<·):=by
 have h:=JiK (spF q) [] (by simp) (fun _ h=>by simp at h) (Jkk 0 g)
 have e:(JU k q).map (·.2.1)=(((J1 q).filter fun t=>decide (t.2.1>t.2.2)).map (·.1)):=by unfold JU;rw[QA];rfl
 rw[e]
 have e2:(J1 q).map (·.1)=(UN (spF q)).map (·.1):=by unfold J1;rw[QA];rfl
 have h':((J1 q).map (·.1)).Pairwise (·<·):=by rw[e2];exact h
 rw[LQ] at h' ⊢;exact h'.filter _
theorem YX:∀(n:Nat) (k:Int) (qs:List Pr) (a:Option Pr),Good qs->0<=k->(∀b,a=some b->b.1<=k)->WH a (tbN n k qs)
 | 0,_,_,_,_,_,_=>trivial
 | n+1,k,qs,a,g,hk,ha=>by rw[tbN];refine JfR (k+1) _ (by omega) (fun a' h=>YX n (k+1) (thF qs) a' (JZ g) (by omega) h) _ a (fun t ht=>⟨Up ht,Vh ht⟩) (Wc g (k+1)) fun b e=>.inl (by have:=ha b e;omega)
theorem Ym:∀{tb:List Tr} {a:Option Pr},WH a tb->∀t∈tb,1<=t.1/\1<=t.2.2
 | [],_,_,_,h=>by cases h
 | t::r,a,h,u,hu=>by
  obtain⟨h1,h2,_,h4⟩:=h;rcases Qh.mp hu with z|z
  ·rw[z];exact⟨h1,h2⟩
  ·exact Ym h4 u z
theorem Jcu:∀{tb:List Tr},(∀t∈tb,1<=t.2.2)->(tb.length:Int)<=UO tb/\∀t∈tb,t.2.2<=UO tb
 | [],_=>⟨Qw _,fun _ h=>by cases h⟩
 | t::r,h=>by
  obtain⟨h1,h2⟩:=Jcu fun u hu=>h u (Qc t hu)
  have ht:=h t Qe
  have e:UO (t::r)=t.2.2+UO r:=by unfold UO;rw[Qd,Qr]
  rw[e,Qp];refine⟨by omega,fun u hu=>?_⟩;rcases Qh.mp hu with z|z
  ·rw[z];omega
  ·have:=h2 u z;omega
theorem JaL:∀(n:Nat) (k:Int) {qs:List Pr},Good qs->thN n qs=[]->((tbN n k qs).map fun t=>(t.1-k)*t.2.2).sum=(qs.map (·.2)).sum
 | 0,k,qs,g,h=>by have:qs=[]:=h;subst this;rfl
 | n+1,k,qs,g,h=>by
  have ih:=JaL n (k+1) (JZ g) h
  have l:=Jcq g (k+1)
  have s:=WC n (k+1) (JZ g) h
  have ts:=Jhb g;unfold UO at l s;rw[tbN,QL,Lx]
  have e1:(JU (k+1) qs).map (fun t=>(t.1-k)*t.2.2)=(JU (k+1) qs).map (·.2.2):=QQ fun t ht=>by rw[Up ht,show k+1-k=1 by omega,Int.one_mul]
  have e2:(tbN n (k+1) (thF qs)).map (fun t=>(t.1-k)*t.2.2)=(tbN n (k+1) (thF qs)).map fun t=>t.2.2+(t.1-(k+1))*t.2.2:=QQ fun t ht=>by rw[show t.1-k=1+(t.1-(k+1)) by omega,KZ,Int.one_mul]
  rw[e1,e2,Jg2,ih,l,s,ts];omega
noncomputable def mvP(d:Int)(ps:List Pr):List Pr:=ps.map fun p=>(p.1-d,p.2)
theorem Jp0(d k:Int)(ps:List Pr):byF k (mvP d ps)=mvP d (byF k ps):=by
 refine GN fun i=>?_
 unfold byF mvP;rw[QD,Qq,Qq,QD,Kj,Kj]
 cases ps[i]? with
 | none=>rfl
 | some p=>exact congrArg some (Kh (by show p.1-d+2*k*(i:Int)=p.1+2*k*(i:Int)-d;omega) rfl)
theorem Jct(d:Int):∀(r:List Pr) (cur:Pr),clF (cur.1-d,cur.2) (mvP d r)=mvP d (clF cur r)
 | [],cur=>rfl
 | p::r,cur=>by
  show clF (cur.1-d,cur.2) ((p.1-d,p.2)::mvP d r)=_;rw[clF,clF];dsimp only
  by_cases h:cur.1+cur.2=p.1
  ·rw[if_pos (by omega),if_pos h];exact Jct d r (cur.1,cur.2+p.2)
  ·rw[if_neg (by omega),if_neg h];split
   ·rw[Jct d r p];rfl
   ·exact Jct d r cur
theorem Jfg(d:Int):∀(ps:List Pr),clN (mvP d ps)=mvP d (clN ps)
 | []=>rfl
 | p::r=>by
  show clN ((p.1-d,p.2)::mvP d r)=_;rw[clN,clN];split
  ·exact Jct d r p
  ·exact Jfg d r
theorem Jjz(d:Int)(ps:List Pr):thF (mvP d ps)=mvP d (thF ps):=by unfold thF;rw[Jp0,Jfg]
theorem JjA(d:Int):∀(n:Nat) (ps:List Pr),thN n (mvP d ps)=mvP d (thN n ps)
 | 0,_=>rfl
 | n+1,ps=>by show thN n (thF (mvP d ps))=mvP d (thN n (thF ps));rw[Jjz,JjA d n]
theorem Jp2(d:Int)(ps:List Pr):spF (mvP d ps)=(spF ps).map (·-d):=by
 refine GN fun i=>?_
 unfold spF mvP;rw[Qq,Qq,Qq,Li,Li,Qq]
 cases ps[i]? with
 | none=>rfl
 | some p=>exact congrArg some (by show p.1-d+p.2-1-2*((0+i:Nat):Int)=p.1+p.2-1-2*((0+i:Nat):Int)-d;omega)
theorem Jjy(d:Int)(ps:List Pr)(x:Int):J6 (mvP d ps) (x-d)=J6 ps x:=by
 induction ps with
 | nil=>rfl
 | cons p r ih =>
  show J6 ((p.1-d,p.2)::mvP d r) (x-d)=_;rw[Yh,Yh,ih];dsimp only;congr 2
  ·rw[decide_eq_decide];omega
  ·rw[decide_eq_decide];omega
theorem Jp1(d:Int)(ps:List Pr)(x:Int):owF (mvP d ps) (x-d)=owF ps x:=by unfold owF;rw[Jjy,show x-d-1=x-1-d by omega,Jjy]
theorem Jol(d:Int)(L:List Int):UN (L.map (·-d))=(UN L).map fun p=>(p.1-d,p.2):=by have:=Jbk d L [];exact this
theorem Jom(d k:Int)(ps:List Pr):JU k (mvP d ps)=(JU k ps).map fun t=>(t.1,t.2.1-d,t.2.2):=by
 have e:J1 (mvP d ps)=(J1 ps).map fun t=>(t.1-d,t.2.1,t.2.2):=by
  unfold J1;rw[Jp2,Jol,QA,QA];refine QQ fun p _=>?_
  show(p.1-d,p.2,owF (thF (mvP d ps)) (p.1-d))=(p.1-d,p.2,owF (thF ps) p.1)
  rw[Jjz,Jp1]
 unfold JU;rw[e,List.filter_map,QA,QA];rfl
theorem Jnf(d:Int):∀(n:Nat) (k:Int) (ps:List Pr),tbN n k (mvP d ps)=(tbN n k ps).map fun t=>(t.1,t.2.1-d,t.2.2)
 | 0,_,_=>rfl
 | n+1,k,ps=>by rw[tbN,tbN,QL,Jom,Jjz,Jnf d n]
noncomputable def goS(s:Int):Int->List Pr->List Pr
 | _,[]=>[]
 | ins,[p]=>[(p.1+min p.2 (s-ins),p.2-min p.2 (s-ins)+(ins+min p.2 (s-ins)))]
 | ins,p::q::r=>(p.1+min p.2 (s-ins),p.2-min p.2 (s-ins)+min (ins+min p.2 (s-ins)) (q.1-p.1-p.2))::goS s (max 0 (ins+min p.2 (s-ins)-(q.1-p.1-p.2))) (q::r)
theorem Yn(s ins:Int)(p q:Pr)(r:List Pr):goS s ins (p::q::r)=(p.1+min p.2 (s-ins),p.2-min p.2 (s-ins)+min (ins+min p.2 (s-ins)) (q.1-p.1-p.2))::goS s (max 0 (ins+min p.2 (s-ins)-(q.1-p.1-p.2))) (q::r):=rfl
theorem WS{s:Int}:∀(ps:List Pr) (ins:Int),Good ps->0<=ins->ins<=s-1->Good (goS s ins ps)/\∀q,(goS s ins ps)[0]?=some q->∀p,ps[0]?=some p->q.1=p.1+min p.2 (s-ins)
 | [],_,_,_,_=>⟨Good.nil,fun q e=>by simp[goS] at e⟩
 | [p],ins,g,h0,h1=>by
  have hp:=g.one 0 p rfl;refine⟨Good.mk' ?_ (fun q e=>by simp at e) Good.nil,fun q e p' e'=>?_⟩
  ·dsimp only;omega (config:={})
  ·simp[goS] at e e';subst e';rw[<- e]
 | p::q::r,ins,g,h0,h1=>by
  have hp:=g.one 0 p rfl
  have hq:=g.one 1 q rfl
  have hg:=g.gap 0 p q rfl rfl;obtain⟨t,ht,t0,t2⟩:∃t,min p.2 (s-ins)=t/\1<=t/\ins+t<=s:=⟨_,rfl,RF.mpr ⟨hp,by omega (config:={})⟩,by have:=KY p.2 (s-ins);omega (config:={})⟩
  have t1:t<=p.2:=by rw[<- ht];exact Rb _ _
  have l1:max 0 (ins+t-(q.1-p.1-p.2))<=s-1:=RE.mpr ⟨by omega (config:={}),by omega (config:={})⟩
  have w0:1<=min (ins+t) (q.1-p.1-p.2):=RF.mpr ⟨by omega (config:={}),by omega (config:={})⟩
  have w1:=KY (ins+t) (q.1-p.1-p.2);obtain⟨i1,i2⟩:=WS (s:=s) (q::r) (max 0 (ins+t-(q.1-p.1-p.2))) (Good.cons' g) (Mb _ _) l1
  have u0:1<=min q.2 (s-max 0 (ins+t-(q.1-p.1-p.2))):=RF.mpr ⟨hq,by omega (config:={})⟩;rw[Yn,ht]
  have ht':=ht
  clear ht;refine⟨Good.mk' ?_ (fun q' e=>?_) i1,fun q' e p' e'=>?_⟩
  ·dsimp only
   revert w0
   generalize min (ins+t) (q.1-p.1-p.2)=w
   intro w0;omega (config:={})
  ·have i3:=i2 q' e q rfl;dsimp only
   revert w0 w1 u0 i3
   generalize min (ins+t) (q.1-p.1-p.2)=w
   generalize min q.2 _=u
   intro w0 w1 u0 i3;omega (config:={})
  ·simp at e e';subst e';rw[<- e,ht']
theorem Ji9(s:Int):∀(ps:List Pr) (ins:Int),(goS s ins ps).length=ps.length
 | [],_=>rfl
 | [p],_=>rfl
 | p::q::r,ins=>by rw[Yn,Qp,Ji9 s (q::r)];rfl
theorem ZK:∀(ps:List Pr),Wide 0 ps->goS 0 0 ps=ps
 | [],_=>rfl
 | [p],w=>by
  have hp:=w.one 0 p rfl
  show [(p.1+min p.2 (0-0),p.2-min p.2 (0-0)+(0+min p.2 (0-0)))]=[p]
  congr 1;exact Kh (by dsimp only;omega) (by dsimp only;omega)
 | p::q::r,w=>by
  have hp:=w.one 0 p rfl
  have hg:=w.gap 0 p q rfl rfl;rw[Yn,show max 0 (0+min p.2 (0-0)-(q.1-p.1-p.2))=0 by omega,ZK (q::r) w.cons];congr 1;exact Kh (by dsimp only;omega) (by dsimp only;omega)
theorem Ji8(s:Int):∀(ps:List Pr) (c ins:Int),Good ps->0<=ins->ins<=s-1->byR c (goS s ins ps)=mvP (-1) (goS (s-1) ins (byR c ps))
 | [],_,_,_,_,_=>rfl
 | [p],c,ins,g,h0,h1=>by
  have hp:=g.one 0 p rfl
  show [(p.1+min p.2 (s-ins)-c,p.2-min p.2 (s-ins)+(ins+min p.2 (s-ins))-1)]=[(p.1-c+min (p.2-1) (s-1-ins) - -1,p.2-1-min (p.2-1) (s-1-ins)+(ins+min (p.2-1) (s-1-ins)))]
  congr 1;exact Kh (by dsimp only;omega) (by dsimp only;omega)
 | p::q::r,c,ins,g,h0,h1=>by
  have hp:=g.one 0 p rfl
  have hg:=g.gap 0 p q rfl rfl
  have hm:min (p.2-1) (s-1-ins)=min p.2 (s-ins)-1:=by omega
  have ht:=KY p.2 (s-ins)
  revert hm ht
  generalize ht:min p.2 (s-ins)=t
  intro hm h3;have ih:=Ji8 s (q::r) (c+2) (max 0 (ins+t-(q.1-p.1-p.2))) (Good.cons' g) (Mb _ _) (RE.mpr ⟨by omega,by omega⟩);rw[Yn,ht,byR,ih];show _=mvP (-1) (goS (s-1) ins ((p.1-c,p.2-1)::(q.1-(c+2),q.2-1)::byR (c+2+2) r));rw[Yn];dsimp only;rw[hm,show q.1-(c+2)-(p.1-c)-(p.2-1)=q.1-p.1-p.2-1 by omega,show ins+(t-1)-(q.1-p.1-p.2-1)=ins+t-(q.1-p.1-p.2) by omega,show min (ins+(t-1)) (q.1-p.1-p.2-1)=min (ins+t) (q.1-p.1-p.2)-1 by omega]
  show _=(p.1-c+(t-1) - -1,p.2-1-(t-1)+(min (ins+t) (q.1-p.1-p.2)-1))::mvP (-1) (goS (s-1) (max 0 (ins+t-(q.1-p.1-p.2))) (byR (c+2) (q::r)));rw[show p.1-c+(t-1) - -1=p.1+t-c by omega,show p.2-1-(t-1)+(min (ins+t) (q.1-p.1-p.2)-1)=p.2-t+min (ins+t) (q.1-p.1-p.2)-1 by omega]
theorem ZO{A B T:Bool}(h:A=B):(A || T)=(B || T):=by rw[h]
noncomputable def inI(a b x:Int):Bool:=decide (a<=x) && decide (x<b)
theorem inI_t{a b x:Int}:inI a b x=true↔a<=x/\x<b:=by unfold inI;simp
theorem YA(p:Pr)(ps:List Pr)(x:Int):J6 (p::ps) x=(inI p.1 (p.1+p.2) x || J6 ps x):=Yh p ps x
theorem Jlz{a b c d e f x:Int}(h:(a<=x/\x<b)↔(c<=x/\x<d)\/(e<=x/\x<f)):inI a b x=(inI c d x || inI e f x):=by rw[Km,Ly,inI_t,inI_t,inI_t];exact h
theorem JB(p:Pr)(ps:List Pr):Jr (p::ps)=(p.1+p.2)::Jr ps:=rfl
theorem Jdu{a c x:Int}(h:c<=a):inI a c x=false:=by rw[Bool.eq_false_iff];intro z;have:=inI_t.mp z;omega
theorem Jdt{a b c d e f x:Int}(h:(c=a/\d=e/\f=b/\c<=d/\e<=f)\/(d<=c/\e=a/\f=b)\/(f<=e/\c=a/\d=b)):inI a b x=(inI c d x || inI e f x):=by
 rcases h with ⟨rfl,rfl,rfl,h1,h2⟩|⟨h1,rfl,rfl⟩|⟨h1,rfl,rfl⟩
 ·exact Jlz (by omega (config:={}))
 ·rw[Jdu h1,GZ]
 ·rw[Jdu h1,LZ]
theorem JpH{A B C D x:Int}{l:List Int}(h:(A=C/\B=D)\/(A=D/\B=C)):(A::B::l).count x=(C::l).count x+(if D=x then 1 else 0):=by rcases h with ⟨rfl,rfl⟩|⟨rfl,rfl⟩ <;> simp only[Q2,beq_iff_eq] <;> omega
theorem Jm6{c1 c2 p1 p2 t u w x:Int}(e:c1+c2=p1)(hz:t=c2\/u=0)(t1:t<=c2)(hw:0<=p2+w):inI (c1+(t+u)) (c1+(t+u)+(c2+p2-(t+u)+w)) x=(inI (c1+t) (c1+t+(c2-t+0)) x || inI (p1+u) (p1+u+(p2-u+w)) x):=by
 subst e;refine Jdt ?_;rcases hz with z|z
 ·exact .inr (.inl ⟨by omega,by omega,by omega⟩)
 ·exact .inl ⟨by omega,by omega,by omega,by omega,by omega⟩
theorem Jm4{c1 c2 p1 p2 t u w:Int}(e:c1+c2=p1)(l:List Int):(c1+t+(c2-t+0))::(p1+u+(p2-u+w))::l=(c1+c2)::(c1+(t+u)+(c2+p2-(t+u)+w))::l:=by rw[show c1+t+(c2-t+0)=c1+c2 by omega,show p1+u+(p2-u+w)=c1+(t+u)+(c2+p2-(t+u)+w) by omega]
theorem Jm7{c1 c2 p1 p2 t v y x:Int}(hp:p2=0)(hk:y=0\/v=p1-c1-c2)(y0:0<=y)(t1:t<=c2)(v0:0<=v):inI (c1+t) (c1+t+(c2-t+(v+y))) x=(inI (c1+t) (c1+t+(c2-t+v)) x || inI (p1+0) (p1+0+(p2-0+y)) x):=by
 refine Jdt ?_;rcases hk with z|z
 ·exact .inr (.inr ⟨by omega,rfl,by omega⟩)
 ·exact .inl ⟨rfl,by omega,by omega,by omega,by omega⟩
theorem Jm5{c1 c2 p1 p2 t v y x:Int}{l:List Int}(hp:p2=0)(hk:y=0\/v=p1-c1-c2):((c1+t+(c2-t+v))::(p1+0+(p2-0+y))::l).count x=((c1+t+(c2-t+(v+y)))::l).count x+(if p1=x then 1 else 0):=by
 refine JpH ?_;rcases hk with z|z
 ·exact .inl ⟨by omega,by omega⟩
 ·exact .inr ⟨by omega,by omega⟩
theorem Jce(s x:Int):∀(r:List Pr) (cur:Pr) (ins:Int),0<=cur.2->Wide 0 r->(∀q,r[0]?=some q->cur.1+cur.2<=q.1)->0<=ins->ins<=s ->
 J6 (goS s ins (clF cur r)) x=J6 (goS s ins (cur::r)) x/\(Jr (goS s ins (cur::r))).count x+(Jr (clF cur r)).count x=(Jr (goS s ins (clF cur r))).count x+(Jr (cur::r)).count x
 | [],_,_,_,_,_,_,_=>⟨rfl,rfl⟩
 | p::r,cur,ins,hc,w,hq,h0,h1=>by
  have hp:=w.one 0 p rfl
  have hb:=hq p rfl
  have nx:∀q,r[0]?=some q->p.1+p.2<=q.1:=fun q e=>by have:=w.gap 0 p q rfl (by simpa using e);omega (config:={})
  rw[clF];split
  ·next e =>
   obtain⟨i1,i2⟩:=Jce s x r (cur.1,cur.2+p.2) ins (by dsimp only;omega (config:={})) w.cons (fun q e'=>by have:=nx q e';dsimp only;omega (config:={})) h0 h1;obtain⟨t,u,ht,hl,hd,hu,hm,t0,t1,u0,u1,hz⟩:=Jqz e hc hp h0 h1
   have e2:Jr (cur::p::r)=(cur.1+cur.2)::Jr ((cur.1,cur.2+p.2)::r):=by rw[JB,JB,JB];dsimp only;rw[show cur.1+(cur.2+p.2)=p.1+p.2 by omega (config:={})]
   cases r with
   | nil =>
    have f1:goS s ins [cur,p]=[(cur.1+t,cur.2-t+0),(p.1+u,p.2-u+(ins+t+u))]:=by rw[Yn,ht,hl,hd];show _::[(p.1+min p.2 (s-(ins+t)),p.2-min p.2 (s-(ins+t))+(ins+t+min p.2 (s-(ins+t))))]=_;rw[hu]
    have f2:goS s ins [(cur.1,cur.2+p.2)]=[(cur.1+(t+u),cur.2+p.2-(t+u)+(ins+t+u))]:=by show [(cur.1+min (cur.2+p.2) (s-ins),cur.2+p.2-min (cur.2+p.2) (s-ins)+(ins+min (cur.2+p.2) (s-ins)))]=_;rw[hm,MJ ins]
    clear ht hl hd hu hm;refine⟨?_,?_⟩
    ·rw[i1,f1,f2,YA,YA,YA,<- L0];exact ZO (Jm6 e hz t1 (by omega (config:={})))
    ·have e1:Jr (goS s ins [cur,p])=(cur.1+cur.2)::Jr (goS s ins [(cur.1,cur.2+p.2)]):=by rw[f1,f2,JB,JB,JB];exact Jm4 e _
     rw[e1,e2,Q2,Q2];omega (config:={})
   | cons q r =>
    have hn:=nx q rfl
    have f1:goS s ins (cur::p::q::r)=(cur.1+t,cur.2-t+0)::(p.1+u,p.2-u+min (ins+t+u) (q.1-p.1-p.2))::goS s (max 0 (ins+t+u-(q.1-p.1-p.2))) (q::r):=by rw[Yn,ht,hl,hd,Yn,hu]
    have f2:goS s ins ((cur.1,cur.2+p.2)::q::r)=(cur.1+(t+u),cur.2+p.2-(t+u)+min (ins+t+u) (q.1-p.1-p.2))::goS s (max 0 (ins+t+u-(q.1-p.1-p.2))) (q::r):=by rw[Yn];dsimp only;rw[hm,show q.1-cur.1-(cur.2+p.2)=q.1-p.1-p.2 by omega (config:={}),show ins+(t+u)=ins+t+u by omega (config:={})]
    clear ht hl hd hu hm;have w0:0<=min (ins+t+u) (q.1-p.1-p.2):=by omega (config:={})
    generalize min (ins+t+u) (q.1-p.1-p.2)=v at w0 f1 f2
    refine⟨?_,?_⟩
    ·rw[i1,f1,f2,YA,YA,YA,<- L0];exact ZO (Jm6 e hz t1 (by omega (config:={})))
    ·have e1:Jr (goS s ins (cur::p::q::r))=(cur.1+cur.2)::Jr (goS s ins ((cur.1,cur.2+p.2)::q::r)):=by rw[f1,f2,JB,JB,JB];exact Jm4 e _
     rw[e1,e2,Q2,Q2];omega (config:={})
  ·next e =>
   split
   ·next hpp =>
    obtain⟨q',e1,e2⟩:=ZZ r p;obtain⟨i1,i2⟩:=Jce s x r p (max 0 (ins+min cur.2 (s-ins)-(p.1-cur.1-cur.2))) (by omega (config:={})) w.cons nx (by omega (config:={})) (by omega (config:={}))
    cases hcl:clF p r with
    | nil=>rw[hcl] at e1;cases e1
    | cons y l =>
     rw[hcl] at e1 i1 i2;have:y=q':=by simpa using e1
     subst this;rw[Yn,Yn,e2];refine⟨?_,?_⟩
     ·rw[YA,YA,i1]
     ·rw[JB _ (goS s _ (p::r)),JB cur (y::l),JB _ (goS s _ (y::l)),JB cur (p::r),Q2,Q2,Q2,Q2];omega (config:={})
   ·next hpp =>
    have hp0:p.2=0:=by omega (config:={})
    obtain⟨i1,i2⟩:=Jce s x r cur ins hc w.cons (fun q e'=>by have:=nx q e';omega (config:={})) h0 h1;obtain⟨t,m,v,ht,hl,hd,hu,t0,t1,hz⟩:=bare hb hp0 hc h0 h1;have v0:0<=v:=by rcases hz with ⟨z1,z2,z3⟩|⟨z1,z2,z3⟩ <;> omega (config:={})
    have e2:(Jr (cur::p::r)).count x=(Jr (cur::r)).count x+(if p.1=x then 1 else 0):=by rw[JB,JB,JB];exact JpH (.inl ⟨rfl,by omega (config:={})⟩)
    cases r with
    | nil =>
     obtain⟨k1,k2,k3⟩:(m+0=0\/v=p.1-cur.1-cur.2)/\ins+t=v+(m+0)/\0<=m+0:=by rcases hz with ⟨z1,z2,z3⟩|⟨z1,z2,z3⟩ <;> omega (config:={})
     have f1:goS s ins [cur,p]=[(cur.1+t,cur.2-t+v),(p.1+0,p.2-0+(m+0))]:=by rw[Yn,ht,hl,hd];show _::[(p.1+min p.2 (s-m),p.2-min p.2 (s-m)+(m+min p.2 (s-m)))]=_;rw[hu]
     have f2:goS s ins [cur]=[(cur.1+t,cur.2-t+(v+(m+0)))]:=by show [(cur.1+min cur.2 (s-ins),cur.2-min cur.2 (s-ins)+(ins+min cur.2 (s-ins)))]=_;rw[ht,k2]
     refine⟨?_,?_⟩
     ·rw[i1,f1,f2,YA,YA,YA,<- L0];exact ZO (Jm7 hp0 k1 k3 t1 v0)
     ·rw[show(Jr (goS s ins [cur,p])).count x=(Jr (goS s ins [cur])).count x+(if p.1=x then 1 else 0) by rw[f1,f2,JB,JB,JB];exact Jm5 hp0 k1,e2]
      omega (config:={})
    | cons q r =>
     have hn:=nx q rfl
     obtain⟨y,y0,k1,k2,k3,k4⟩:∃y:Int,0<=y/\min (m+0) (q.1-p.1-p.2)=y/\min (ins+t) (q.1-cur.1-cur.2)=v+y/\max 0 (m+0-(q.1-p.1-p.2))=max 0 (ins+t-(q.1-cur.1-cur.2))/\(y=0\/v=p.1-cur.1-cur.2):=by
      rcases hz with ⟨z1,z2,z3⟩|⟨z1,z2,z3⟩
      ·subst z1 z2;exact⟨0,Qw _,by omega (config:={}),by omega (config:={}),by omega (config:={}),.inl rfl⟩
      ·subst z1 z2;exact⟨_,by omega (config:={}),rfl,by omega (config:={}),by omega (config:={}),.inr rfl⟩
     have f1:goS s ins (cur::p::q::r)=(cur.1+t,cur.2-t+v)::(p.1+0,p.2-0+y)::goS s (max 0 (ins+t-(q.1-cur.1-cur.2))) (q::r):=by rw[Yn,ht,hl,hd,Yn,hu,k1,k3]
     have f2:goS s ins (cur::q::r)=(cur.1+t,cur.2-t+(v+y))::goS s (max 0 (ins+t-(q.1-cur.1-cur.2))) (q::r):=by rw[Yn,ht,k2]
     refine⟨?_,?_⟩
     ·rw[i1,f1,f2,YA,YA,YA,<- L0];exact ZO (Jm7 hp0 k4 y0 t1 v0)
     ·rw[show(Jr (goS s ins (cur::p::q::r))).count x=(Jr (goS s ins (cur::q::r))).count x+(if p.1=x then 1 else 0) by rw[f1,f2,JB,JB,JB];exact Jm5 hp0 k4,e2]
      omega (config:={})
theorem Je5(s x:Int)(hs:0<=s):∀(ps:List Pr),Wide 0 ps->J6 (goS s 0 (clN ps)) x=J6 (goS s 0 ps) x/\(Jr (goS s 0 ps)).count x+(Jr (clN ps)).count x=(Jr (goS s 0 (clN ps))).count x+(Jr ps).count x
 | [],_=>⟨rfl,rfl⟩
 | p::r,w=>by
  have hp:=w.one 0 p rfl;rw[clN];split
  ·next h=>exact Jce s x r p 0 hp w.cons (fun q e=>by have:=w.gap 0 p q rfl (by simpa using e);omega) (Qw _) hs
  ·next h =>
   have hp0:p.2=0:=by omega
   obtain⟨i1,i2⟩:=Je5 s x hs r w.cons
   have e:goS s 0 (p::r)=p::goS s 0 r:=by
    cases r with
    | nil =>
     show [(p.1+min p.2 (s-0),p.2-min p.2 (s-0)+(0+min p.2 (s-0)))]=[p]
     congr 1;exact Kh (by dsimp only;omega) (by dsimp only;omega)
    | cons q r=>have:=w.gap 0 p q rfl rfl;rw[Yn,show max 0 (0+min p.2 (s-0)-(q.1-p.1-p.2))=0 by omega];congr 1;exact Kh (by dsimp only;omega) (by dsimp only;omega)
   rw[e];refine⟨?_,?_⟩
   ·rw[i1,YA,show inI p.1 (p.1+p.2) x=false by
     cases c:inI p.1 (p.1+p.2) x with
     | false=>rfl
     | true=>rw[inI_t] at c;omega]
    rfl
   ·rw[JB,JB p r,Q2,Q2];omega
theorem Jgx(d:Int)(ps:List Pr):Jr (mvP d ps)=(Jr ps).map (·-d):=by unfold Jr mvP;rw[QA,QA];exact QQ fun p _=>by show p.1-d+p.2=p.1+p.2-d;omega
theorem JlU{c d:Int}{ps:List Pr}(w:Wide c (mvP d ps)):Wide c ps:=by refine⟨fun i p e=>w.one i (p.1-d,p.2) (by unfold mvP;rw[Qq,e];rfl),fun i p q e1 e2=>?_⟩;have:=w.gap i (p.1-d,p.2) (q.1-d,q.2) (by unfold mvP;rw[Qq,e1];rfl) (by unfold mvP;rw[Qq,e2];rfl);dsimp only at this;omega
theorem JkA{s:Int}(hs:1<=s){ps:List Pr}(g:Good ps):thF (goS s 0 ps)=mvP (-1) (goS (s-1) 0 (thF ps)):=by
 have g1:=(WS (s:=s) ps 0 g (Qw _) (by omega)).1
 have e:byF (-1) (goS s 0 ps)=mvP (-1) (goS (s-1) 0 (byF (-1) ps)):=by rw[<- UI,<- UI];exact Ji8 s ps 0 0 g (Qw _) (by omega)
 have w1:Wide 0 (goS (s-1) 0 (byF (-1) ps)):=by have:Wide (1+-1) (byF (-1) (goS s 0 ps)):=(YI g1).bys (k:=-1);rw[e] at this;exact JlU this
 have w0:Wide 0 (byF (-1) ps):=by
  have z:Wide (1+-1) (byF (-1) ps):=(YI g).bys (k:=-1)
  rwa [show(1:Int)+-1=0 by decide] at z
 have gt:=JZ g
 have g2:Good (goS (s-1) 0 (thF ps)):=by
  by_cases h:s-1=0
  ·rw[h,ZK _ ((YI gt).mono (by omega))];exact gt
  ·exact(WS (s:=s-1) (thF ps) 0 gt (Qw _) (by omega)).1
 have key:clN (goS (s-1) 0 (byF (-1) ps))=goS (s-1) 0 (thF ps):=by
  refine Jcf (Z0 _ w1) g2 fun x=>?_
  rw[JbW x _ fun p hp=>by obtain⟨i,hi,rfl⟩:=Gh.mp hp;exact w1.one i _ (by simp)]
  exact(Je5 (s-1) x (by omega) (byF (-1) ps) w0).1.symm
 show clN (byF (-1) (goS s 0 ps))=_;rw[e,Jfg,key]
theorem Jqv{s:Int}(hs:1<=s){ps:List Pr}(g:Good ps)(x:Int):(spF (goS s 0 ps)).count (x+1)+(Jr (thF ps)).count x=(Jr (thF (goS s 0 ps))).count (x+1)+(spF ps).count x:=by
 have w0:Wide 0 (byF (-1) ps):=by
  have z:Wide (1+-1) (byF (-1) ps):=(YI g).bys (k:=-1)
  rwa [show(1:Int)+-1=0 by decide] at z
 have e:byF (-1) (goS s 0 ps)=mvP (-1) (goS (s-1) 0 (byF (-1) ps)):=by rw[<- UI,<- UI];exact Ji8 s ps 0 0 g (Qw _) (by omega)
 have sb:∀q:List Pr,spF q=Jr (byF (-1) q):=fun q=>by
  have z:=Jeq (-1) q
  rwa [show(-1:Int)+1=0 by omega,WK] at z
 have cm:∀l:List Int,(l.map (· - -1)).count (x+1)=l.count x:=fun l=>by
  induction l with
  | nil=>rfl
  | cons y l ih =>
   rw[Qd,Q2,Q2,ih];congr 1
   by_cases h:y=x
   ·subst h;simp
   ·rw[if_neg (by simpa using h),if_neg (by simp;omega)]
 have k:=(Je5 (s-1) x (by omega) (byF (-1) ps) w0).2;rw[sb,e,Jgx,cm,JkA hs g,Jgx,cm,sb ps];exact k
theorem Jjm:∀{a b:List Pr},(a.map (·.1)).Pairwise (·<·)->(b.map (·.1)).Pairwise (·<·)->(∀p∈a,1<=p.2)->(∀p∈b,1<=p.2)->(∀x,lk x a=lk x b)->a=b
 | [],[],_,_,_,_,_=>rfl
 | [],q::b,_,_,_,h,e=>by
  have:=e q.1;rw[lk,lk,if_pos rfl] at this
  have:=h q Qe;omega
 | p::a,[],_,_,h,_,e=>by
  have:=e p.1;rw[lk,lk,if_pos rfl] at this
  have:=h p Qe;omega
 | p::a,q::b,ha,hb,h1,h2,e=>by
  rw[Qd,QO] at ha hb
  have out:∀{l:List Pr} {x:Int},(∀y∈l.map (·.1),x<y)->lk x l=0:=fun {l x} h=>by
   induction l with
   | nil=>rfl
   | cons r l ih=>rw[lk,if_neg fun z=>by have:=h r.1 (by simp);omega];exact ih fun y hy=>h y (by rw[Qd];exact Qc _ hy)
  have hp:=h1 p Qe
  have hq:=h2 q Qe
  have ek:p.1=q.1:=by
   rcases Int.lt_trichotomy p.1 q.1 with z|z|z
   ·have:=e p.1;rw[lk,if_pos rfl,lk,if_neg (by omega),out fun y hy=>by have:=hb.1 y hy;omega] at this;omega
   ·exact z
   ·have:=e q.1;rw[lk,if_neg (by omega),lk,if_pos rfl,out fun y hy=>by have:=ha.1 y hy;omega] at this;omega
  have ev:p.2=q.2:=by have:=e p.1;rw[lk,if_pos rfl,lk,if_pos ek.symm] at this;exact this
  have:p=q:=Kh ek ev;subst this;rw[Jjm ha.2 hb.2 (fun r hr=>h1 r (Qc _ hr)) (fun r hr=>h2 r (Qc _ hr)) fun x=>?_]
  have:=e x;rw[lk,lk] at this
  by_cases c:p.1=x
  ·subst c;rw[out ha.1,out hb.1]
  ·rwa [if_neg c,if_neg c] at this
theorem Jgt:∀{a:List Pr} {x:Int},x∉a.map (·.1)->lk x a=0
 | [],_,_=>rfl
 | p::r,x,h=>by rw[lk,if_neg fun z=>h (by rw[<- z];simp)];exact Jgt fun m=>h (by rw[Qd];exact Qc _ m)
theorem Jcp{a:List Pr}(hn:(a.map (·.1)).Nodup)(h:∀p∈a,1<=p.2)(x:Int):lk x a=((YE a).count x:Int):=by
 rw[Jap,JgB (fun p=>((p.2.toNat:Nat):Int)) hn];split
 ·next m=>obtain⟨p,hp,e⟩:=Qv.mp m;subst e;rw[Jfb hn hp];have:=h p hp;dsimp only;omega
 ·next m=>exact Jgt m
theorem WW(l:List Tr):(Y3 l).map (·.1)=l.map (·.2.1):=by unfold Y3;rw[QA];rfl
theorem Jco{q:List Pr}(g:Good q)(k x:Int):lk x (Y3 (JU k q))+((Jr (thF q)).count x:Int)=((spF q).count x:Int):=by
 have pw:=Wc g k;rw[Jcp (by rw[WW];exact pw.imp fun {a b} h=>by omega) fun p hp=>by obtain⟨u,hu,e⟩:=Qv.mp hp;rw[<- e];exact Vh hu]
 have:=((J3 (Jr (thF q)++YE (Y3 (JU k q)))).count_eq x)
 rw[JbI g k,LS] at this;omega
theorem Job{s:Int}(hs:1<=s){ps:List Pr}(g:Good ps)(k:Int):JU k (goS s 0 ps)=(JU k ps).map fun t=>(t.1,t.2.1+1,t.2.2):=by
 have g1:=(WS (s:=s) ps 0 g (Qw _) (by omega)).1
 have pr:Y3 (JU k (goS s 0 ps))=(Y3 (JU k ps)).map fun p=>(p.1+1,p.2):=by
  have pw:=Wc g k
  have pk:(((Y3 (JU k ps)).map fun p=>(p.1+1,p.2)).map (·.1))=((JU k ps).map (·.2.1)).map (·+1):=by rw[<- WW,QA,QA];rfl
  refine Jjm (by rw[WW];exact Wc g1 k) (by
   rw[pk,LQ];exact pw.imp fun {a b} h=>by omega) (fun p hp=>by
   obtain⟨u,hu,e⟩:=Qv.mp hp;rw[<- e];exact Vh hu) (fun p hp=>by
   obtain⟨q,hq,e⟩:=Qv.mp hp;obtain⟨u,hu,e'⟩:=Qv.mp hq;rw[<- e,<- e'];exact Vh hu) fun x=>?_
  have sh:∀a:List Pr,lk x (a.map fun p=>(p.1+1,p.2))=lk (x-1) a:=fun a=>by
   induction a with
   | nil=>rfl
   | cons p r ih =>
    rw[Qd,lk,lk,ih];dsimp only
    by_cases c:p.1+1=x
    ·rw[if_pos c,if_pos (by omega)]
    ·rw[if_neg c,if_neg (by omega)]
  rw[sh];have e1:=Jco g1 k x;have e2:=Jco g k (x-1);have e3:=Jqv hs g (x-1);rw[show x-1+1=x by omega] at e3;omega
 have back:∀l:List Tr,(∀t∈l,t.1=k)->l=(Y3 l).map fun p=>(k,p.1,p.2):=fun l h=>by
  unfold Y3;rw[QA];refine(Mh l).symm.trans (QQ fun t ht=>?_);show t=(k,t.2.1,t.2.2)
  rw[<- h t ht]
 rw[back (JU k (goS s 0 ps)) fun t ht=>Up ht,pr,QA]
 conv=>rhs;rw[back (JU k ps) fun t ht=>Up ht]
 rw[QA];rfl
theorem Jkv:∀(n:Nat) (k s:Int) {ps:List Pr},Good ps->0<=s->tbN n k (goS s 0 ps)=(tbN n k ps).map fun t=>(t.1,t.2.1+min (t.1-k) s,t.2.2)
 | 0,_,_,_,_,_=>rfl
 | n+1,k,s,ps,g,hs=>by
  by_cases h0:s=0
  ·subst h0;rw[ZK ps ((YI g).mono (by omega))];refine(Mh _).symm.trans (QQ fun t ht=>?_);have:=ZS _ _ _ t ht;show t=(t.1,t.2.1+min (t.1-k) 0,t.2.2)
   rw[show min (t.1-k) 0=0 by omega,Mg]
  ·have h1:1<=s:=by omega
   rw[tbN,tbN,QL,Job h1 g,JkA h1 g,Jnf,Jkv n (k+1) (s-1) (JZ g) (by omega),QA];congr 1
   ·refine QQ fun t ht=>?_
    rw[Up ht,show min (k+1-k) s=1 by omega]
   ·refine QQ fun t ht=>?_
    have:=ZS _ _ _ t ht
    show(t.1,t.2.1+min (t.1-(k+1)) (s-1) - -1,t.2.2)=(t.1,t.2.1+min (t.1-k) s,t.2.2)
    rw[show t.2.1+min (t.1-(k+1)) (s-1) - -1=t.2.1+min (t.1-k) s by omega]
noncomputable def Zz:Option Int->D
 | none=>.non
 | some s=>.int s
noncomputable def OkS(seats:Option Int):Prop:=∀s,seats=some s->1<=s
noncomputable def Sts(seats:Option Int)(s m:Int):Prop:=seats=some s\/(seats=none/\m<=s)
theorem JmK(a g:Int):a-min a g=max 0 (a-g):=by
 rcases K4 a g with h|h
 ·rw[GR h,Lz (by omega),RS]
 ·rw[Gj h,Kg (by omega)]
theorem Jja(s:Int):∀(ps:List Pr) (ins:Int),Good ps->0<=ins->ins<=s->((goS s ins ps).map (·.2)).sum=(if ps=[] then 0 else ins)+(ps.map (·.2)).sum
 | [],_,_,_,_=>rfl
 | [p],ins,g,h0,h1=>by simp[goS];omega (config:={})
 | p::q::r,ins,g,h0,h1=>by
  have hp:=g.one 0 p rfl
  have hg:=g.gap 0 p q rfl rfl
  have t2:=KY p.2 (s-ins)
  have ih:=Jja s (q::r) (max 0 (ins+min p.2 (s-ins)-(q.1-p.1-p.2))) (Good.cons' g) (Mb _ _) (RE.mpr ⟨by omega (config:={}),by omega (config:={})⟩);rw[if_neg (by simp)] at ih
  have e0:((p::q::r).map (·.2)).sum=p.2+((q::r).map (·.2)).sum:=by rw[Qd,Qr]
  have sm:=JmK (ins+min p.2 (s-ins)) (q.1-p.1-p.2);rw[Yn,Qd,Qr,ih,e0,if_neg (by simp),<- sm];dsimp only
  generalize min (ins+min p.2 (s-ins)) (q.1-p.1-p.2)=w
  generalize min p.2 (s-ins)=t
  omega (config:={})
theorem Jgl{s:Int}{ps:List Pr}(g:Good ps)(hs:0<=s):((goS s 0 ps).map (·.2)).sum=(ps.map (·.2)).sum:=by rw[Jja s ps 0 g (Qw _) hs];split <;> omega
theorem Jkz:∀(n:Nat) (s:Int) {ps:List Pr},Good ps->0<=s->thN n ps=[]->thN n (goS s 0 ps)=[]
 | 0,s,ps,g,hs,h=>by have:ps=[]:=h;subst this;rfl
 | n+1,s,ps,g,hs,h=>by
  by_cases h0:s=0
  ·subst h0;rw[ZK ps ((YI g).mono (by omega))];exact h
  ·show thN n (thF (goS s 0 ps))=[]
   rw[JkA (by omega) g,JjA,Jkz n (s-1) (JZ g) (by omega) h];rfl
noncomputable def goI(s:Int):Nat->List Pr->List Pr
 | 0,ps=>ps
 | n+1,ps=>goI s n (goS s 0 ps)
theorem Jgk(s:Int)(hs:1<=s)(N:Nat):∀(n:Nat) {ps:List Pr},Good ps->thN N ps=[]->Good (goI s n ps)/\(goI s n ps).length=ps.length/\((goI s n ps).map (·.2)).sum=(ps.map (·.2)).sum/\thN N (goI s n ps)=[] ∧
 tbN N 0 (goI s n ps)=(tbN N 0 ps).map fun t=>(t.1,t.2.1+(n:Int)*min t.1 s,t.2.2)
 | 0,ps,g,h=>⟨g,rfl,rfl,h,by
  refine(Mh _).symm.trans (QQ fun t _=>?_);show t=(t.1,t.2.1+((0:Nat):Int)*min t.1 s,t.2.2)
  simp⟩
 | n+1,ps,g,h=>by
  have g1:=(WS (s:=s) ps 0 g (Qw _) (by omega)).1;obtain⟨a,b,c,d,e⟩:=Jgk s hs N n g1 (Jkz N s g (by omega) h);refine⟨a,by show(goI s n (goS s 0 ps)).length=_;rw[b,Ji9],by show((goI s n (goS s 0 ps)).map (·.2)).sum=_;rw[c,Jgl g (by omega)],d,?_⟩
  show tbN N 0 (goI s n (goS s 0 ps))=_;rw[e,Jkv N 0 s g (by omega),QA];refine QQ fun t _=>?_
  show(t.1,t.2.1+min (t.1-0) s+(n:Int)*min t.1 s,t.2.2)=(t.1,t.2.1+((n+1:Nat):Int)*min t.1 s,t.2.2)
  rw[RT,Ka,KZ];congr 2;simp;omega
theorem Jkw{N:Nat}{ps:List Pr}(g:Good ps)(hN:thN N ps=[]):∀t∈tbN N 0 ps,t.1<=(ps.map (·.2)).sum:=by
 have bl:=JaL N 0 g hN
 have asc:=YX N 0 ps none g (Qw _) (fun b e=>by cases e)
 have an:=Ym asc;rw[<- bl]
 clear bl
 revert an
 generalize tbN N 0 ps=l
 intro an
 have key:∀l:List Tr,(∀t∈l,1<=t.1/\1<=t.2.2)->0<=(l.map fun t=>(t.1-0)*t.2.2).sum/\∀t∈l,t.1<=(l.map fun t=>(t.1-0)*t.2.2).sum:=by
  intro l
  induction l with
  | nil=>exact fun _=>⟨Qw _,fun _ h=>by cases h⟩
  | cons u l ih =>
   intro h;obtain⟨i1,i2⟩:=ih fun t ht=>h t (Qc _ ht)
   obtain⟨h1,h2⟩:=h u Qe
   have hm:u.1<=(u.1-0)*u.2.2:=by
    rw[RT];have:=K0 h2 (show 0<=u.1 by omega)
    rwa [Int.mul_one] at this
   rw[Qd,Qr];refine⟨by omega,fun t ht=>?_⟩;rcases Qh.mp ht with z|z
   ·rw[z];omega
   ·have:=i2 t z;omega
 exact(key l an).2
noncomputable def JmD(seats:Option Int)(x:Int):Int:=match seats with
 | none=>x
 | some s=>min x s
theorem JmE{seats:Option Int}{s x:Int}(h:Sts seats s x):JmD seats x=min x s:=by
 rcases h with z|⟨z,y⟩
 ·rw[z];rfl
 ·rw[z];show x=_;omega
theorem JpY(seats:Option Int)(x:Int):Ug [.sh (.int x),.sh (Zz seats)]=some (.sh (.int (JmD seats x))):=by
 unfold Ug
 cases seats with
 | none=>simp only[Zz,JmD];walk_at "ev"
 | some s=>simp only[Zz,JmD];walk_at "ev"
theorem JqL(seats:Option Int)(h:OkS seats):∃r,Yr [.sh (Zz seats)]=some r:=by
 unfold Yr
 cases seats with
 | none=>simp only[Zz];walk_at "ev";exact⟨_,rfl⟩
 | some s=>have:=h s rfl;simp only[Zz];walk_at "ev";rw[decide_eq_false (show ¬s<1 by omega)];walk_at "ev";exact⟨_,rfl⟩
noncomputable def Joe(t:Int):List Pr->List Pr
 | []=>[]
 | h::l=>(h.1-t,h.2+t)::l
noncomputable def bkL(s:Int):List Pr->Int×List Pr
 | []=>(0,[])
 | [q]=>(min q.2 s,[(q.1,q.2-min q.2 s)])
 | q::q2::r =>
  ((bkL s (q2::r)).1-min (bkL s (q2::r)).1 (q2.1-q.1-q.2)+min q.2 (s-((bkL s (q2::r)).1-min (bkL s (q2::r)).1 (q2.1-q.1-q.2))),
    (q.1,q.2-min q.2 (s-((bkL s (q2::r)).1-min (bkL s (q2::r)).1 (q2.1-q.1-q.2))))::Joe (min (bkL s (q2::r)).1 (q2.1-q.1-q.2)) (bkL s (q2::r)).2)
noncomputable def bkS(s:Int)(ps:List Pr):List Pr:=Joe (bkL s ps).1 (bkL s ps).2
theorem JfU{s:Int}(hs:1<=s):∀(r:List Pr) (q:Pr),Good (q::r)->∃(b x:Int) (tl:List Pr),bkL s (q::r)=(b,(q.1,q.2-x)::tl)/\1<=x/\x<=b/\b<=s/\x<=q.2/\(q.2=x\/b=s) ∧
 tl.length=r.length/\(∀t,1<=t->t<=b->Good ((q.1-t,q.2-x+t)::tl))/\∀t,0<=t->t<=b->goS s (b-t) ((q.1-t,q.2-x+t)::tl)=q::r
 | [],q,g=>by
  have hp:=g.one 0 q rfl;refine⟨min q.2 s,min q.2 s,[],rfl,by omega,by omega,by omega,by omega,by omega,rfl,fun t h1 h2=>Good.mk' (by dsimp only;omega) (fun q e=>by simp at e) Good.nil,fun t h0 h1=>?_⟩
  have e:min (q.2-min q.2 s+t) (s-(min q.2 s-t))=t:=by omega
  simp only[goS];rw[e,show q.1-t+t=q.1 by omega,show q.2-min q.2 s+t-t+(min q.2 s-t+t)=q.2 by omega]
 | q2::r,q,g=>by
  have hp:=g.one 0 q rfl
  have hg:=g.gap 0 q q2 rfl rfl;obtain⟨b2,x2,tl2,e,h1,h2,h3,h4,h5,h6,h7,h8⟩:=JfU hs r q2 (Good.cons' g)
  obtain⟨d,hd,d1,d2,d3⟩:∃d,min b2 (q2.1-q.1-q.2)=d/\d<=b2/\1<=d/\((d=b2/\b2<=q2.1-q.1-q.2)\/(d=q2.1-q.1-q.2/\q2.1-q.1-q.2<=b2)):=by
   rcases K4 b2 (q2.1-q.1-q.2) with h|h
   ·exact⟨b2,GR h,Qw _,by omega,.inl ⟨rfl,h⟩⟩
   ·exact⟨_,Gj h,h,by omega,.inr ⟨rfl,h⟩⟩
  obtain⟨x,hx,x1,x3,x4⟩:∃x,min q.2 (s-(b2-d))=x/\1<=x/\x<=q.2/\b2-d+x<=s/\(q.2=x\/b2-d+x=s):=by
   rcases K4 q.2 (s-(b2-d)) with h|h
   ·exact⟨_,GR h,hp,Qw _,by omega,.inl rfl⟩
   ·exact⟨_,Gj h,by omega,h,by omega,.inr (by omega)⟩
  have x5:=x4.2;refine⟨b2-d+x,x,(q2.1-d,q2.2-x2+d)::tl2,?_,by omega,by omega,by omega,by omega,by omega,by simp[h6],fun t t1 t2=>Good.mk' (by dsimp only;omega) (fun q' e'=>?_) (h7 d (by omega) (by omega)),fun t t0 t1=>?_⟩
  ·rw[bkL,e];dsimp only;rw[hd,hx];rfl
  ·simp at e';rw[<- e'];dsimp only;omega
  ·rw[Yn];dsimp only;have e1:min (q.2-x+t) (s-(b2-d+x-t))=t:=by omega
   rw[e1,show q.1-t+t=q.1 by omega,show b2-d+x-t+t-(q2.1-d-(q.1-t)-(q.2-x+t))=b2-(q2.1-q.1-q.2) by omega,show max 0 (b2-(q2.1-q.1-q.2))=b2-d by omega,h8 d (by omega) (by omega),
    show q.2-x+t-t+min (b2-d+x-t+t) (q2.1-d-(q.1-t)-(q.2-x+t))=q.2 by omega]
theorem Jnz{s:Int}(hs:1<=s){ps:List Pr}(g:Good ps):Good (bkS s ps)/\(bkS s ps).length=ps.length/\goS s 0 (bkS s ps)=ps:=by
 cases ps with
 | nil=>exact⟨Good.nil,rfl,rfl⟩
 | cons q r=>obtain⟨b,x,tl,e,h1,h2,h3,h4,h5,h6,h7,h8⟩:=JfU hs r q g;have:=h8 b (by omega) (Qw _);rw[RS] at this;unfold bkS;rw[e];exact⟨h7 b (by omega) (Qw _),by simp[Joe,h6],this⟩
theorem goZ{s:Int}(hs:1<=s){N:Nat}{ps:List Pr}(g:Good ps)(hN:(ps.map (·.2)).sum<=(N:Int))(z:Int):∃qs,Good qs/\qs.length=ps.length/\(qs.map (·.2)).sum=(ps.map (·.2)).sum ∧
 tbN N 0 qs=(tbN N 0 ps).map fun t=>(t.1,t.2.1+z*min t.1 s,t.2.2):=by
 by_cases hz:0<=z
 ·obtain⟨n,rfl⟩:∃n:Nat,z=n:=⟨z.toNat,by omega⟩
  obtain⟨a,b,c,_,e⟩:=Jgk s hs N n g (W2 N g hN);exact⟨_,a,b,c,e⟩
 ·obtain⟨n,rfl⟩:∃n:Nat,z=-(n:Int):=⟨(-z).toNat,by omega⟩
  clear hz
  induction n with
  | zero=>exact⟨ps,g,rfl,rfl,by refine(Mh _).symm.trans (QQ fun t _=>?_);show t=(t.1,t.2.1+-((0:Nat):Int)*min t.1 s,t.2.2);simp⟩
  | succ n ih =>
   obtain⟨qs,a,b,c,e⟩:=ih;obtain⟨a1,b1,e1⟩:=Jnz hs a;have c1:((bkS s qs).map (·.2)).sum=(qs.map (·.2)).sum:=by rw[<- Jgl a1 (show 0<=s by omega),e1]
   refine⟨bkS s qs,a1,b1.trans b,c1.trans c,?_⟩;have tg:=Jkv N 0 s a1 (by omega);rw[e1,e] at tg;have tg2:=congrArg (List.map fun t:Tr=>((t.1,t.2.1-min t.1 s,t.2.2):Tr)) tg;rw[QA,QA] at tg2;refine(Eq.trans ?_ tg2.symm).trans (QQ fun t _=>?_)
   ·refine(Mh _).symm.trans (QQ fun t _=>?_);show t=(t.1,t.2.1+min (t.1-0) s-min t.1 s,t.2.2)
    rw[RT,show t.2.1+min t.1 s-min t.1 s=t.2.1 by omega]
   ·show(t.1,t.2.1+-(n:Int)*min t.1 s-min t.1 s,t.2.2)=(t.1,t.2.1+-((n+1:Nat):Int)*min t.1 s,t.2.2)
    congr 2;rw[Rv,Rv,Ka,KZ];simp;omega
theorem Jjt(tb:List Tr)(seats:Option Int)(s times:Int)(h:WH none tb)(hs:UO tb<=30)(hl:tb.length<=30)(ok:OkS seats)(hm:∀t∈tb,Sts seats s t.1)(hs1:1<=s)(ht:-10 ^ 100<=times/\times<=10 ^ 100)(hb:∀t∈tb,1<=t.1/\t.1<=10 ^ 100) :
 Uy [.sh (.lst (tb.map trE)),.sh (Zz seats),.sh (.int times)]=some (.own ((tb.map fun t=>((t.1,t.2.1+times*min t.1 s,t.2.2):Tr)).map trE)):=by
 obtain⟨r1,e1⟩:=JqL seats ok;obtain⟨r2,e2⟩:=JpV tb h hs hl;unfold Uy;walk_at "ev";rw[e1];walk_at "ev";rw[e2];walk_at "ev";rw[Yf (g:=fun t:Tr=>trE (t.1,t.2.1+times*min t.1 s,t.2.2))]
 ·walk_at "ev";rw[QA];rfl
 ·intro t mt;have hst:=hm t mt;have hbt:=hb t mt;have hww:times.natAbs<=10 ^ 200/\(min t.1 s).natAbs<=10 ^ 200:=by omega (config:={})
  simp only[trE];walk_at "ev";rw[JpY];rw[JmE hst];walk_at "ev"
theorem Jjp(ps qs:List Pr)(N:Nat)(seats:Option Int)(s times:Int)(g:Good ps)(h30:ps.length<=30)(hN:thN N ps=[])(g':Good qs)(h30':qs.length<=30)(hN':thN N qs=[])(ok:OkS seats)(hs:Sts seats s (ps.map (·.2)).sum)(hs1:1<=s)(hb:(ps.map (·.2)).sum<=10 ^ 100)(ht:-10 ^ 100<=times/\times<=10 ^ 100)
 (e:tbN N 0 qs=(tbN N 0 ps).map fun t=>(t.1,t.2.1+times*min t.1 s,t.2.2)):YY [.sh (.row (ps.map prE)),.sh (Zz seats),.sh (.int times)]=some (.sh (.row (qs.map prE))):=by
 have asc:=YX N 0 ps none g (Qw _) (fun b e=>by cases e)
 have asc':=YX N 0 qs none g' (Qw _) (fun b e=>by cases e)
 have ns:=WC N 0 g hN
 have ns':=WC N 0 g' hN';obtain⟨gl,_⟩:=Jcu fun t ht=>(Ym asc t ht).2
 obtain⟨gl',_⟩:=Jcu fun t ht=>(Ym asc' t ht).2
 obtain⟨rt,rk⟩:=Jfv qs.length N 0 (Qn _) g' h30' hN';have tl:=Jkw g hN;unfold YY;walk_at "ev";rw[Jcs ps N g h30 hN];walk_at "ev";rw[Jjt (tbN N 0 ps) seats s times asc (by omega) (by omega) ok (fun t ht=>by
  rcases hs with z|⟨z,y⟩
  ·exact .inl z
  ·exact .inr ⟨z,by have:=tl t ht;omega⟩) hs1 ht (fun t ht=>⟨(Ym asc t ht).1,by have:=tl t ht;omega⟩),<- e]
 walk_at "ev";rw[JlR (tbN N 0 qs) asc' (by omega) (by omega) rk,rt];walk_at "ev"
theorem JlN(ns:List Int)(at' many span:Int)(h1:0<=at')(h2:0<=many)(h3:many<=1000)(h4:0<span) :
 Yd [.sh (.fz (ns.map .int)),.sh (.int at'),.sh (.int many),.sh (.int span)]=some (.own ((spr ns at' span (cell ns at' % (2*span+1)-span) many.toNat).2.map prE)):=by
 unfold Yd;walk_at "ev";rw[Zi _ _ h1];walk_at "ev";rw[JqP,GY];refine Jjn (fun i E=>∃j6 j7,E=[Sl.sh (D.fz (ns.map .int)),Sl.sh (D.int at'),Sl.sh (D.int many),Sl.sh (D.int span),Sl.sh (D.int (spr ns at' span (cell ns at' % (2*span+1)-span) i).1),Sl.own ((spr ns at' span (cell ns at' % (2*span+1)-span) i).2.map prE),j6,j7]) ⟨.no,.no,rfl⟩ ?_ ?_
 ·rintro i E hi ⟨j6,j7,rfl⟩;have hl:=Wh ns at' span (cell ns at' % (2*span+1)-span) i;walk_at "ev";rw[Zi _ _ (by omega)];walk_at "ev";rw[Zi _ _ (by omega)];walk_at "ev";simp only[spr,QL,Qd,K2];exact⟨_,_,rfl⟩
 ·rintro E' ⟨j6,j7,rfl⟩;walk_at "ev"
noncomputable def wt(n:Int):List Pr->Int
 | []=>0
 | p::xs=>(if p.1=n then p.2 else 0)+wt n xs
noncomputable def JcT:Int->List Pr->Prop
 | _,[]=>True
 | k,p::xs=>k<p.1/\1<=p.2/\JcT p.1 xs
theorem WE:∀(xs:List Pr) (k n:Int),JcT k xs->n<=k->wt n xs=0
 | [],_,_,_,_=>rfl
 | p::xs,k,n,h,hn=>by obtain⟨h1,_,h3⟩:=h;rw[wt,if_neg (by omega),WE xs p.1 n h3 (by omega)];rfl
theorem JkI:∀(xs ys:List Pr) (k:Int),JcT k xs->JcT k ys->(∀n,k<n->wt n xs=wt n ys)->xs=ys
 | [],[],_,_,_,_=>rfl
 | [],q::ys,k,_,h,e=>by
  have:=e q.1 h.1;rw[wt,wt,if_pos rfl,WE ys q.1 q.1 h.2.2 (by omega)] at this
  have:=h.2.1;omega
 | p::xs,[],k,h,_,e=>by
  have:=e p.1 h.1;rw[wt,wt,if_pos rfl,WE xs p.1 p.1 h.2.2 (by omega)] at this
  have:=h.2.1;omega
 | p::xs,q::ys,k,hx,hy,e=>by
  have e1:=e p.1 hx.1
  have e2:=e q.1 hy.1
  have lx:=WE xs p.1 p.1 hx.2.2 (by omega)
  have ly:=WE ys q.1 q.1 hy.2.2 (by omega)
  have px:=hx.2.1
  have py:=hy.2.1;rw[wt,wt,if_pos rfl] at e1;rw[wt,wt,if_pos rfl] at e2
  have h1:p.1=q.1:=by
   by_cases a:p.1<q.1
   ·have:=WE ys q.1 p.1 hy.2.2 (by omega);rw[if_neg (by omega)] at e1;omega
   ·by_cases b:q.1<p.1
    ·have:=WE xs p.1 q.1 hx.2.2 (by omega);rw[if_neg (by omega)] at e2;omega
    ·omega
  rw[if_pos h1.symm] at e1;have l2:wt p.1 ys=0:=by rw[h1];exact ly
  have h2:p.2=q.2:=by omega
  have t:xs=ys:=JkI xs ys p.1 hx.2.2 (by rw[h1];exact hy.2.2) fun n hn=>by have:=e n (by have:=hx.1;omega);rw[wt,wt,if_neg (by omega),if_neg (by omega)] at this;omega
  rw[t,show p=q from Kh h1 h2]
theorem JeK:∀(xs:List Pr) (k:Int),(xs.map (·.1)).Pairwise (·<·)->(∀p∈xs,k<p.1)->(∀p∈xs,1<=p.2)->JcT k xs
 | [],_,_,_,_=>trivial
 | p::xs,k,h,h1,h2=>by rw[Qd,QO] at h;exact⟨h1 p Qe,h2 p Qe,JeK xs p.1 h.2 (fun q hq=>h.1 q.1 (G7 hq)) fun q hq=>h2 q (Qc _ hq)⟩
theorem JcW(s v:Int)(hv:1<=v):∀a:List Pr,(∀p∈a,1<=p.2)->∀p∈UM a s v,1<=p.2
 | [],_,p,hp=>by rw[UM,GC] at hp;rw[hp];exact hv
 | q::r,h,p,hp=>by
  have hq:=h q Qe;rw[UM] at hp;split at hp
  ·rcases Qh.mp hp with e|e
   ·rw[e];show 1<=q.2+v;omega
   ·exact h p (Qc _ e)
  ·rcases Qh.mp hp with e|e
   ·rw[e];exact hq
   ·exact JcW s v hv r (fun x hx=>h x (Qc _ hx)) p e
theorem Jet:∀(tb:List Tr) (a:List Pr),(∀t∈tb,1<=t.2.2)->(∀p∈a,1<=p.2)->∀p∈Vz tb a,1<=p.2
 | [],a,_,h,p,hp=>h p hp
 | t::tb,a,ht,h,p,hp=>Jet tb (UM a t.1 t.2.2) (fun u hu=>ht u (Qc _ hu)) (JcW t.1 t.2.2 (ht t Qe) a h) p hp
theorem Jhg{ps:List Pr}(g:Good ps)(N:Nat)(ht:∀t∈tbN N 0 ps,1<=t.1/\1<=t.2.2):JcT 0 (Vz (tbN N 0 ps) []):=by
 refine JeK _ 0 (JfG N 0 ps [] g List.Pairwise.nil (fun x hx=>absurd hx QW)).1 (fun p hp=>?_) (Jet _ [] (fun t h=>(ht t h).2) (fun p h=>absurd h QW));rcases Jes _ [] p hp with ⟨t,h1,h2⟩|z
 ·have:=(ht t h1).1;omega
 ·exact absurd z QW
theorem Jky:∀(n:Nat) (k:Int) (qs:List Pr),0<=k->∀t∈tbN n k qs,1<=t.1/\1<=t.2.2
 | 0,_,_,_,t,h=>absurd h QW
 | n+1,k,qs,hk,t,h=>by
  rw[tbN] at h;rcases Gk.mp h with h|h
  ·unfold JU at h;obtain⟨u,hu,rfl⟩:=Qv.mp h;have:=of_decide_eq_true (Lw.mp hu).2;exact⟨by show 1<=k+1;omega,by show 1<=u.2.1-u.2.2;omega⟩
  ·exact Jky n (k+1) (thF qs) (by omega) t h
theorem JkX{ps:List Pr}(g:Good ps)(N:Nat):JcT 0 (Vz (tbN N 0 ps) []):=Jhg g N (Jky N 0 ps (Qw _))
noncomputable def U8:List Pr->Prop
 | p::q::r=>p.2<=q.2/\p.2<=q.1-(p.1+p.2)/\U8 (q::r)
 | _=>True
noncomputable def apT(tb:List Tr):List Pr:=tb.flatMap fun t=>Qt t.2.2.toNat (t.1,t.2.1)
noncomputable def apF(k:Int):Int->List Pr->List Pr
 | _,[]=>[]
 | c,p::r=>(p.2+k,p.1-2*c)::apF k (c+p.2) r
theorem Ji2(k:Int):∀(ps:List Pr) (c:Int) (i:Int),apF (k+1) c (byR (2*i) ps)=apF k (c+i) ps
 | [],_,_=>rfl
 | p::r,c,i=>by
  have ih:=Ji2 k r (c+(p.2-1)) (i+1);rw[byR,apF,apF,show 2*i+2=2*(i+1) by omega,ih];congr 1
  ·exact Kh (by show p.2-1+(k+1)=p.2+k;omega) (by show p.1-2*i-2*c=p.1-2*(c+i);omega)
  ·congr 1;omega
theorem JiB:∀(ps:List Pr) (c:Int),Good ps->U8 ps->(∀p,ps[0]?=some p->2<=p.2)->Good (byR c ps)/\∀p∈byR c ps,0<p.2
 | [],_,_,_,_=>⟨Good.nil,fun p hp=>(QW hp).elim⟩
 | [p],c,g,_,h=>by
  have h2:=h p rfl;refine⟨⟨fun i q e=>?_,fun i q r e1 e2=>?_⟩,fun q hq=>?_⟩
  ·cases i with
   | zero=>simp[byR] at e;subst e;show 1<=p.2-1;omega
   | succ i=>simp[byR] at e
  ·simp[byR] at e2
  ·simp[byR] at hq;subst hq;show 0<p.2-1;omega
 | p::q::r,c,g,s,h=>by
  obtain⟨s1,s2,s3⟩:=s;have h2:=h p rfl;obtain⟨g1,g2⟩:=JiB (q::r) (c+2) (Good.cons' g) s3 fun x hx=>by simp at hx;subst hx;omega
  refine⟨⟨fun i x e=>?_,fun i x y e1 e2=>?_⟩,fun x hx=>?_⟩
  ·cases i with
   | zero=>simp[byR] at e;subst e;show 1<=p.2-1;omega
   | succ i=>exact g1.one i x (by simpa [byR] using e)
  ·cases i with
   | zero=>simp[byR] at e1 e2;subst e1 e2;show p.1-c+(p.2-1)<q.1-(c+2);omega
   | succ i=>exact g1.gap i x y (by simpa [byR] using e1) (by simpa [byR] using e2)
  ·rw[byR] at hx;rcases Qh.mp hx with e|e
   ·rw[e];show 0<p.2-1;omega
   ·exact g2 x e
theorem Ji3:∀{p:Pr} {r:List Pr},U8 (p::r)->U8 r
 | _,[],_=>trivial
 | _,_::_,h=>h.2.2
theorem Je3:∀(ps:List Pr) (i:Int),Good ps->U8 ps->clN (byR (2*i) ps)=(byR (2*i) ps).filter (fun p=>decide (0<p.2)) ∧
 ∀k,(((byR (2*i) ps).filter (fun p=>!decide (0<p.2))).map fun p=>((k+1,p.1+p.2):Pr))++apF (k+1) 0 ((byR (2*i) ps).filter fun p=>decide (0<p.2))=apF k i ps
 | [],_,_,_=>⟨rfl,fun k=>rfl⟩
 | p::r,i,g,s=>by
  have p1:=Good.all g p (by simp)
  by_cases c:p.2=1
  ·obtain⟨h1,h2⟩:=Je3 r (i+1) (Good.cons' g) (Ji3 s)

   have e2:2*i+2=2*(i+1):=by omega
   refine⟨?_,fun k=>?_⟩
   ·rw[byR,clN,if_neg (by show ¬(0<p.2-1);omega),e2,h1,Gq (by show ¬(decide (0<p.2-1)=true);simp;omega)]
   ·rw[byR,e2,Gr (by show(!decide (0<p.2-1))=true;simp;omega),Gq (by show ¬(decide (0<p.2-1)=true);simp;omega),Qd,KS,h2 k,apF];congr 1
    ·exact Kh (by show k+1=p.2+k;omega) (by show p.1-2*i+(p.2-1)=p.1-2*i;omega)
    ·congr 1;omega
  ·obtain⟨g1,g2⟩:=JiB (p::r) (2*i) g s fun x hx=>by simp at hx;subst hx;omega
   have f1:(byR (2*i) (p::r)).filter (fun p=>decide (0<p.2))=byR (2*i) (p::r):=List.filter_eq_self.mpr fun x hx=>decide_eq_true (g2 x hx)
   have f2:(byR (2*i) (p::r)).filter (fun p=>!decide (0<p.2))=[]:=M8.mpr fun x hx=>by simp[g2 x hx]
   refine⟨?_,fun k=>?_⟩
   ·rw[f1];have g0:=g1;rw[byR] at g0 ⊢;rw[clN,if_pos (by show 0<p.2-1;omega),JeT _ _ g0]
   ·rw[f1,f2,Ji2 k (p::r) 0 i];simp
theorem Jdo:∀(ps:List Pr) (c:Int),Good ps->U8 ps->U8 ((byR c ps).filter fun p=>decide (0<p.2))
 | [],_,_,_=>trivial
 | [p],c,_,_=>by rw[byR,byR,List.filter_cons];split <;> trivial
 | p::q::r,c,g,s=>by
  obtain⟨s1,s2,s3⟩:=s;have ih:=Jdo (q::r) (c+2) (Good.cons' g) s3;rw[byR]
  by_cases d:0<p.2-1
  ·rw[Gr (by show decide (0<p.2-1)=true;simp;omega)];rw[byR] at ih ⊢;rw[Gr (by show decide (0<q.2-1)=true;simp;omega)] at ih ⊢;refine⟨by show p.2-1<=q.2-1;omega,?_,ih⟩;show p.2-1<=q.1-(c+2)-(p.1-c+(p.2-1));omega
  ·rw[Gq (by show ¬(decide (0<p.2-1)=true);simp;omega)];exact ih
theorem JkP:∀(ps:List Pr) (c:Int),Good ps->(((byR c ps).filter fun p=>!decide (0<p.2)).map fun p=>p.1+p.2).Pairwise (·<=·)
 | [],_,_=>List.Pairwise.nil
 | p::r,c,g=>by
  have ih:=JkP r (c+2) (Good.cons' g);rw[byR]
  by_cases d:0<p.2-1
  ·rw[Gq (by show ¬((!decide (0<p.2-1))=true);simp;omega)];exact ih
  ·rw[Gr (by show(!decide (0<p.2-1))=true;simp;omega),Qd];refine QO.mpr ⟨fun y hy=>?_,ih⟩;obtain⟨x,hx,rfl⟩:=Qv.mp hy;have hx':=(Lw.mp hx).1;have p1:=Good.all g p (by simp)
   have x0:0<=x.2:=by obtain⟨j,hj⟩:=GK.mp hx';rw[ZG,QD,Gb] at hj;obtain⟨q,hq,rfl⟩:=hj;have:=Good.all (Good.cons' g) q (QC hq);show 0<=q.2+-1;omega
   have:=JbT r (c+2) (p.1+p.2+1-(c+2)) (Good.cons' g) (fun q hq=>by have:=g.gap 0 p q rfl (by simpa using hq);omega) x hx'
   show p.1-c+(p.2-1)<=x.1+x.2;omega
theorem JeJ:∀{r:List Tr} {b:Pr},WH (some b) r->∀u∈r,b.1<u.1\/(b.1=u.1/\b.2<u.2.1)
 | [],_,_,_,h=>by cases h
 | t::r,b,h,u,hu=>by
  obtain⟨h1,h2,h3,h4⟩:=h;have h5:=h3 b rfl;rcases Qh.mp hu with z|z
  ·subst z;exact h5
  ·have:=JeJ h4 u z;dsimp only at this;omega
theorem Jnx(a b:List Tr):apT (a++b)=apT a++apT b:=by unfold apT;rw[List.flatMap_append]
theorem Jit(k:Int):∀(l:List Tr),(∀t∈l,t.1=k)->apT l=(YE (Y3 l)).map fun x=>((k,x):Pr)
 | [],_=>rfl
 | t::l,h=>by
  have ih:=Jit k l fun u hu=>h u (Qc _ hu)
  unfold apT YE Y3 at ih ⊢;rw[Qd,Gm,Gm,ih,QL,Kt,h t Qe]
theorem JdR:∀(l:List Pr),(l.map (·.1)).Pairwise (·<·)->(YE l).Pairwise (·<=·)
 | [],_=>List.Pairwise.nil
 | p::l,h=>by rw[Qd] at h;obtain⟨h1,h2⟩:=QO.mp h;unfold YE;rw[Gm];refine G2.mpr ⟨MW.mpr (.inr (Qw _)),JdR l h2,fun a ha b hb=>?_⟩;obtain⟨_,rfl⟩:=K5.mp ha;obtain⟨q,hq,hb⟩:=MX.mp hb;obtain⟨_,rfl⟩:=K5.mp hb;exact Int.le_of_lt (h1 _ (G7 hq))
theorem Jbo{α:Type}(f:α->Int)(c:α->Bool)(x:Int):∀(l:List α),(l.map f).count x=((l.filter c).map f).count x+((l.filter fun a=>!c a).map f).count x
 | []=>rfl
 | a::l=>by
  have ih:=Jbo f c x l
  cases h:c a with
  | true=>rw[Gr h,Gq (by simp[h]),Qd,Qd,Q2,Q2,ih];omega
  | false=>rw[Gq (by simp[h]),Gr (by simp[h]),Qd,Qd,Q2,Q2,ih];omega
theorem Jca{ps:List Pr}(g:Good ps)(s:U8 ps):thF ps=(byR 0 ps).filter fun p=>decide (0<p.2):=by unfold thF;rw[<- UI];exact(Je3 ps 0 g s).1
theorem Jls{ps:List Pr}(g:Good ps)(s:U8 ps)(k:Int):YE (Y3 (JU k ps))=((byR 0 ps).filter fun p=>!decide (0<p.2)).map fun p=>p.1+p.2:=by
 have sb:spF ps=(byR 0 ps).map fun p=>p.1+p.2:=by
  have hb:byF 0 ps=ps:=by
   unfold byF;refine Ln (by simp) fun i h1 h2=>?_
   simp
  have:=Jeq (-1) ps;rw[show(-1:Int)+1=0 by omega,hb] at this;rw[this,UI];rfl
 have asc:=Wc g k
 have key:((Y3 (JU k ps)).map (·.1)).Pairwise (·<·):=by rw[WW];exact asc
 have nd:((Y3 (JU k ps)).map (·.1)).Nodup:=key.imp fun h=>by omega
 have pos:∀p∈Y3 (JU k ps),1<=p.2:=fun p hp=>by obtain⟨t,ht,rfl⟩:=Qv.mp hp;exact Vh ht
 refine Vy (List.perm_iff_count.mpr fun x=>?_) (JdR _ key) (JkP ps 0 g);have e1:=Jcp nd pos x;have e2:=Jco g k x;have e3:=Jbo (fun p:Pr=>p.1+p.2) (fun p=>decide (0<p.2)) x (byR 0 ps);rw[sb] at e2;rw[Jca g s] at e2;unfold Jr at e2;omega
theorem Je2:∀(N:Nat) (k:Int) (ps:List Pr),Good ps->U8 ps->thN N ps=[]->apT (tbN N k ps)=apF k 0 ps
 | 0,k,ps,_,_,h=>by have:ps=[]:=h;subst this;rfl
 | N+1,k,ps,g,s,h=>by
  have gt:Good (thF ps):=JZ g
  have ih:=Je2 N (k+1) (thF ps) gt (by rw[Jca g s];exact Jdo ps 0 g s) h;rw[tbN,Jnx,ih,Jit (k+1) _ (fun t ht=>Up ht),Jls g s,QA,Jca g s];exact(Je3 ps 0 g s).2 k
noncomputable def lnF:Int->List Pr->List Pr
 | _,[]=>[]
 | c,q::r=>(q.1,q.2+2*c)::lnF (c+q.1) r
theorem Jcr:∀(l:List Pr) (c:Int),(lnF c l).length=l.length
 | [],_=>rfl
 | _::r,c=>by rw[lnF,Qp,Qp,Jcr r]
theorem Jao:∀(l:List Pr) (c:Int),(lnF c l).map (·.1)=l.map (·.1)
 | [],_=>rfl
 | q::r,c=>by rw[lnF,Qd,Qd,Jao r]
theorem Jnc:∀(ps:List Pr) (c:Int),lnF c (apF 0 c ps)=ps.map G4
 | [],_=>rfl
 | p::r,c=>by rw[apF,lnF,Qd];show((p.2+0,p.1-2*c+2*c):Pr)::lnF (c+(p.2+0)) (apF 0 (c+p.2) r)=_;rw[show c+(p.2+0)=c+p.2 by omega,Jnc r (c+p.2)];congr 1;exact Kh (by show p.2+0=p.2;omega) (by show p.1-2*c+2*c=p.1;omega)
theorem JmZ:∀(l:List Pr) (c:Int),apF 0 c ((lnF c l).map G4)=l
 | [],_=>rfl
 | q::r,c=>by rw[lnF,Qd,apF];show((q.1+0,q.2+2*c-2*c):Pr)::apF 0 (c+q.1) ((lnF (c+q.1) r).map G4)=_;rw[JmZ r (c+q.1)];congr 1;exact Kh (by show q.1+0=q.1;omega) (by show q.2+2*c-2*c=q.2;omega)
theorem JgT{x:Pr}:∀(n m:Nat) {a b:List Pr},x∉a->x∉b->Qt n x++a=Qt m x++b->n=m/\a=b
 | 0,0,_,_,_,_,e=>⟨rfl,by simpa using e⟩
 | 0,m+1,a,b,ha,_,e=>by
  rw[Q4] at e;have:a=x::(Qt m x++b):=by simpa using e
  exact absurd (this▸Qe) ha
 | n+1,0,a,b,_,hb,e=>by
  rw[Q4] at e;have:b=x::(Qt n x++a):=by simpa using e.symm
  exact absurd (this▸Qe) hb
 | n+1,m+1,a,b,ha,hb,e=>by
  rw[Q4,Q4] at e;have e':Qt n x++a=Qt m x++b:=by simpa using e
  obtain⟨h1,h2⟩:=JgT n m ha hb e';exact⟨by omega,h2⟩
theorem Wq{tb:List Tr}{x:Pr}(h:x∈apT tb):∃t∈tb,x=(t.1,t.2.1):=by obtain⟨t,ht,hx⟩:=MX.mp h;exact⟨t,ht,(K5.mp hx).2⟩
theorem Jis:∀{a b:List Tr} {o o':Option Pr},WH o a->WH o' b->apT a=apT b->a=b
 | [],[],_,_,_,_,_=>rfl
 | [],t::b,_,_,_,h,e=>by
  have:=Ym h t (by simp)
  exfalso
  have e':[]=Qt t.2.2.toNat (t.1,t.2.1)++apT b:=e
  have l:=congrArg L1 e';rw[Qu,Gx] at l;simp at l;omega
 | t::a,[],_,_,h,_,e=>by
  have:=Ym h t (by simp)
  exfalso
  have e':Qt t.2.2.toNat (t.1,t.2.1)++apT a=[]:=e
  have l:=congrArg L1 e';rw[Qu,Gx] at l;simp at l;omega
 | t::a,u::b,o,o',h,h',e=>by
  have n1:=Ym h t (by simp)
  have n2:=Ym h' u (by simp)
  have e':Qt t.2.2.toNat (t.1,t.2.1)++apT a=Qt u.2.2.toNat (u.1,u.2.1)++apT b:=e
  have hd:((t.1,t.2.1):Pr)=(u.1,u.2.1):=by
   have e2:=congrArg (fun l=>l[0]?) e';obtain⟨m,hm⟩:∃m,t.2.2.toNat=m+1:=⟨t.2.2.toNat-1,by omega⟩
   obtain⟨m',hm'⟩:∃m,u.2.2.toNat=m+1:=⟨u.2.2.toNat-1,by omega⟩
   rw[hm,hm',Q4,Q4] at e2
   simpa using e2
  have out:∀{t:Tr} {r:List Tr} {o:Option Pr},WH o (t::r)->((t.1,t.2.1):Pr)∉apT r:=fun {t r o} h m=>by obtain⟨v,hv,ev⟩:=Wq m;have ord:=JeJ h.2.2.2 v hv;simp only at ord;rw[Prod.mk.injEq] at ev;omega
  rw[<- hd] at e';obtain⟨h1,h2⟩:=JgT _ _ (out h) (by rw[hd];exact out h') e';have ih:=Jis h.2.2.2 h'.2.2.2 h2;rw[ih];congr 1;rw[Prod.mk.injEq] at hd;exact Kh hd.1 (Kh hd.2 (by omega))
theorem JeI:∀(tb:List Tr),(∀t∈tb,1<=t.2.2)->((apT tb).length:Int)=UO tb
 | [],_=>rfl
 | t::tb,h=>by
  have ih:=JeI tb fun u hu=>h u (Qc _ hu)
  have h1:=h t Qe;unfold apT UO at ih ⊢;rw[Gm,Qu,Gx,Qd,Qr,<- ih];omega
theorem JfP(k:Int):∀(ps:List Pr) (c:Int),(apF k c ps).length=ps.length
 | [],_=>rfl
 | p::r,c=>by rw[apF,Qp,Qp,JfP k r]
theorem Jms{R qs:List Pr}(gR:Good R)(h30:R.length<=30){N:Nat}(hN:thN N R=[])(gq:Good qs)(sq:U8 qs)(e:apT (tbN N 0 R)=apF 0 0 qs):R=qs:=by
 obtain⟨m,hm⟩:∃m:Nat,m=(qs.map fun p:Pr=>p.2).sum.toNat:=⟨_,rfl⟩
 have nn:∀o:Option Pr,o=none->∀b,o=some b->b.1<=(0:Int):=fun o h b hb=>by rw[h] at hb;cases hb
 have aR:=YX (N+m) 0 R none gR (Qw _) (nn none rfl)
 have aq:=YX (N+m) 0 qs none gq (Qw _) (nn none rfl)
 have hq:thN (N+m) qs=[]:=W2 _ gq (by omega)
 have hR:thN (N+m) R=[]:=JfI (by omega) hN
 have eR:=Jku N m 0 R hN
 have fq:=Je2 _ 0 qs gq sq hq
 have same:tbN (N+m) 0 R=tbN (N+m) 0 qs:=Jis aR aq (by rw[eR,e,fq])
 have l1:=JeI _ fun t ht=>(Ym aR t ht).2
 have l2:=WC (N+m) 0 gR hR
 have ql:qs.length=R.length:=by have:=congrArg L1 e;rw[JfP,<- eR] at this;omega
 have r1:=(Jfv 30 _ 0 h30 gR h30 hR).1
 have r2:=(Jfv 30 _ 0 (by omega) gq (by omega) hq).1;rw[<- r1,<- r2,same]
noncomputable def shL(z:Int)(q:Pr):Pr:=(q.1,q.2+q.1*z)
theorem Jm0(z:Int):∀(tb:List Tr),apT (tb.map fun t=>(t.1,t.2.1+z*t.1,t.2.2))=(apT tb).map (shL z)
 | []=>rfl
 | t::tb=>by
  have ih:=Jm0 z tb;unfold apT at ih ⊢;rw[Qd,Gm,Gm,ih,QL,Kt]
  show Qt t.2.2.toNat ((t.1,t.2.1+z*t.1):Pr)++_=Qt t.2.2.toNat (t.1,t.2.1+t.1*z)++_;rw[RU z]
theorem Jne(z:Int):∀(l:List Pr) (c:Int),lnF c (l.map (shL z))=(lnF c l).map (shL z)
 | [],_=>rfl
 | q::r,c=>by rw[Qd,lnF,lnF,Qd];show((q.1,q.2+q.1*z+2*c):Pr)::lnF (c+q.1) (r.map (shL z))=(q.1,q.2+2*c+q.1*z)::_;rw[Jne z r,show q.2+q.1*z+2*c=q.2+2*c+q.1*z by omega]
noncomputable def chL:List Pr->Prop
 | q::r::l=>q.1<=r.1/\(q.1=r.1->q.2+2*q.1<=r.2)/\chL (r::l)
 | _=>True
noncomputable def Jp8(q r:Pr):Prop:=q.1<r.1\/(q.1=r.1/\q.2<=r.2)
theorem W9:∀{tb:List Tr} {o:Option Pr},WH o tb->(apT tb).Pairwise Jp8
 | [],_,_=>List.Pairwise.nil
 | t::tb,o,h=>by unfold apT;rw[Gm];refine G2.mpr ⟨MW.mpr (.inr (.inr ⟨rfl,Qw _⟩)),W9 h.2.2.2,fun a ha b hb=>?_⟩;obtain⟨_,rfl⟩:=K5.mp ha;obtain⟨u,hu,rfl⟩:=Wq (tb:=tb) hb;have:=JeJ h.2.2.2 u hu;simp only at this;show t.1<u.1\/(t.1=u.1/\t.2.1<=u.2.1);omega
theorem Jc9:∀(l:List Pr) (c:Int),l.Pairwise Jp8->chL (lnF c l)
 | [],_,_=>trivial
 | [q],_,_=>trivial
 | q::r::l,c,h=>by
  obtain⟨h1,h2⟩:=QO.mp h;have ih:=Jc9 (r::l) (c+q.1) h2;rw[lnF] at ih;rw[lnF,lnF];have o:q.1<r.1\/(q.1=r.1/\q.2<=r.2):=h1 r Qe;refine⟨by show q.1<=r.1;omega,?_,ih⟩;show q.1=r.1->q.2+2*c+2*q.1<=r.2+2*(c+q.1)
  omega
noncomputable def prL:List Pr->List (Pr×Pr)
 | q::r::l=>if q.1≠r.1 then(q,r)::prL (r::l) else prL (r::l)
 | _=>[]
noncomputable def vlL(x:Pr×Pr):Int:=-((x.2.2-x.1.2-2*x.1.1) / (x.2.1-x.1.1))
theorem Jk4{g d z:Int}(hd:0<d):-(g / d)<=z↔0<=g+d*z:=by have:=M9 (a:=-z) (b:=g) hd;rw[show -(g / d)<=z↔-z<=g / d by omega,this,Rv,RU z d];omega
theorem JcL(z:Int):∀(l:List Pr),chL l->(U8 ((l.map (shL z)).map G4)↔∀x∈prL l,vlL x<=z)
 | [],_=>⟨fun _ x hx=>(QW hx).elim,fun _=>trivial⟩
 | [q],_=>⟨fun _ x hx=>(QW hx).elim,fun _=>trivial⟩
 | q::r::l,h=>by
  obtain⟨h1,h2,h3⟩:=h;have ih:=JcL z (r::l) h3
  have key:U8 (((q::r::l).map (shL z)).map G4)↔(q.1<=r.1/\q.1<=r.2+r.1*z-(q.2+q.1*z+q.1))/\U8 (((r::l).map (shL z)).map G4):=by show(q.1<=r.1/\q.1<=r.2+r.1*z-(q.2+q.1*z+q.1)/\_)↔_;rw[and_assoc];rfl
  rw[key,ih,prL];have ex:r.2+r.1*z-(q.2+q.1*z+q.1)=r.2-q.2-q.1+(r.1-q.1)*z:=by rw[Int.sub_mul];omega
  by_cases c:q.1=r.1
  ·rw[if_neg (by simpa using c)];have:=h2 c;refine⟨fun x=>x.2,fun x=>⟨⟨h1,?_⟩,x⟩⟩;rw[ex,c,RS,Int.zero_mul];omega
  ·rw[if_pos c];have d:=Jk4 (g:=r.2-q.2-2*q.1) (d:=r.1-q.1) (z:=z) (by omega);refine⟨fun x y hy=>?_,fun x=>⟨⟨h1,?_⟩,fun y hy=>x y (Qc _ hy)⟩⟩
   ·rcases Qh.mp hy with e|e
    ·subst e;show -((r.2-q.2-2*q.1) / (r.1-q.1))<=z;rw[d];have:=x.1.2;rw[ex] at this;omega
    ·exact x.2 y e
   ·have:-((r.2-q.2-2*q.1) / (r.1-q.1))<=z:=x (q,r) Qe;rw[d] at this;rw[ex];omega
theorem Jdq:∀(l:List Pr),U8 (l.map G4)->(∀q∈l,1<=q.1)->Good (l.map G4)
 | [],_,_=>Good.nil
 | [q],_,h=>⟨fun i p e=>by
  cases i with
  | zero=>simp at e;subst e;exact h q (by simp)
  | succ i=>simp at e,fun i p r _ e2=>by simp at e2⟩
 | q::r::l,s,h=>by
  obtain⟨s1,s2,s3⟩:=s;have ih:=Jdq (r::l) s3 fun x hx=>h x (Qc _ hx)
  have hq:=h q Qe;refine⟨fun i p e=>?_,fun i p p' e1 e2=>?_⟩
  ·cases i with
   | zero=>simp at e;subst e;exact hq
   | succ i=>exact ih.one i p (by simpa using e)
  ·cases i with
   | zero=>simp at e1 e2;subst e1 e2;have s2':q.1<=r.2-(q.2+q.1):=s2;show q.2+q.1<r.2;omega
   | succ i=>exact ih.gap i p p' (by simpa using e1) (by simpa using e2)
theorem JnS{ps qs:List Pr}(g:Good ps)(h30:ps.length<=30){N:Nat}(hN:thN N ps=[])(gq:Good qs)(hq30:qs.length<=30)(hqN:thN N qs=[]){z:Int}(e:tbN N 0 qs=(tbN N 0 ps).map fun t=>(t.1,t.2.1+z*t.1,t.2.2)) :
 (U8 (((lnF 0 (apT (tbN N 0 ps))).map (shL z)).map G4)->qs=((lnF 0 (apT (tbN N 0 ps))).map (shL z)).map G4)/\(U8 qs->U8 (((lnF 0 (apT (tbN N 0 ps))).map (shL z)).map G4)):=by
 have asc:=YX N 0 ps none g (Qw _) (fun b e=>by cases e)
 have ea:apT (tbN N 0 qs)=(apT (tbN N 0 ps)).map (shL z):=by rw[e,Jm0]
 have el:lnF 0 (apT (tbN N 0 qs))=(lnF 0 (apT (tbN N 0 ps))).map (shL z):=by rw[ea,Jne]
 refine⟨fun s=>?_,fun s=>?_⟩
 ·refine Jms gq hq30 hqN (Jdq _ s fun q hq=>?_) s ?_
  ·obtain⟨x,hx,rfl⟩:=Qv.mp hq;have hx1:x.1∈(lnF 0 (apT (tbN N 0 ps))).map (·.1):=G7 hx;rw[Jao] at hx1;obtain⟨y,hy,ey⟩:=Qv.mp hx1;obtain⟨t,ht,rfl⟩:=Wq hy;have:=(Ym asc t ht).1;show 1<=x.1;rw[<- ey];exact this
  ·rw[<- el,JmZ]
 ·rw[<- el,Je2 N 0 qs gq s hqN,Jnc,QA];have:(G4 ∘ G4:Pr->Pr)=id:=by funext x;cases x;rfl
  rw[this,List.map_id];exact s
theorem Jpc(ps:List Pr):spF ps=(byR 0 ps).map fun p=>p.1+p.2:=by
 have hb:byF 0 ps=ps:=by
  unfold byF;refine Ln (by simp) fun i h1 h2=>?_
  simp
 have:=Jeq (-1) ps;rw[show(-1:Int)+1=0 by omega,hb] at this;rw[this,UI];rfl
theorem Jm1{ps:List Pr}{lo hi:Int}(g:Good ps)(h:∀p∈ps,lo<=p.1/\p.1+p.2<=hi):∀x∈byR 0 ps,lo<=x.1/\0<=x.2/\x.1+x.2<=hi:=fun x hx=>by
 have h1:=JbT ps 0 lo g (fun q hq=>by have:=(h q (QC hq)).1;omega) x hx;obtain⟨j,hj⟩:=GK.mp hx;rw[ZG,QD,Gb] at hj;obtain⟨q,hq,rfl⟩:=hj
 have hm:=QC hq
 have a:=Good.all g q hm
 have b:=(h q hm).2;refine⟨h1,?_,?_⟩
 ·show 0<=q.2+-1;omega
 ·show q.1+2*(-1)*(j:Int)-0+(q.2+-1)<=hi;omega
theorem Jno{ps:List Pr}{lo hi:Int}(g:Good ps)(h:∀p∈ps,lo<=p.1/\p.1+p.2<=hi):∀e∈spF ps,lo<=e/\e<=hi:=fun e he=>by rw[Jpc] at he;obtain⟨x,hx,rfl⟩:=Qv.mp he;have:=Jm1 g h x hx;omega
theorem JbY:∀(r:List Pr) (cur p:Pr),p∈clF cur r->p.1=cur.1\/∃q∈r,p.1=q.1
 | [],cur,p,h=>by rw[clF,GC] at h;exact .inl (by rw[h])
 | q::r,cur,p,h=>by
  rw[clF] at h;split at h
  ·rcases JbY r _ p h with e|⟨x,hx,e⟩
   ·exact .inl e
   ·exact .inr ⟨x,Qc _ hx,e⟩
  ·split at h
   ·rcases Qh.mp h with e|e
    ·exact .inl (by rw[e])
    ·rcases JbY r q p e with e|⟨x,hx,e⟩
     ·exact .inr ⟨q,Qe,e⟩
     ·exact .inr ⟨x,Qc _ hx,e⟩
   ·rcases JbY r _ p h with e|⟨x,hx,e⟩
    ·exact .inl e
    ·exact .inr ⟨x,Qc _ hx,e⟩
theorem Jf0:∀(l:List Pr) (p:Pr),p∈clN l->∃q∈l,p.1=q.1
 | [],p,h=>(QW h).elim
 | q::r,p,h=>by
  rw[clN] at h;split at h
  ·rcases JbY r q p h with e|⟨x,hx,e⟩
   ·exact⟨q,Qe,e⟩
   ·exact⟨x,Qc _ hx,e⟩
  ·obtain⟨x,hx,e⟩:=Jf0 r p h;exact⟨x,Qc _ hx,e⟩
theorem Jqy{ps:List Pr}{lo hi:Int}(g:Good ps)(h:∀p∈ps,lo<=p.1/\p.1+p.2<=hi):∀p∈thF ps,lo<=p.1/\p.1+p.2<=hi:=fun p hp=>by refine⟨?_,(Jno g h _ (Jb8 (G7 (f:=fun p:Pr=>p.1+p.2) hp))).2⟩;unfold thF at hp;rw[<- UI] at hp;obtain⟨x,hx,e⟩:=Jf0 _ p hp;rw[e];exact(Jm1 g h x hx).1
theorem Joc{ps:List Pr}{k:Int}(g:Good ps){t:Tr}(ht:t∈JU k ps):t.2.1∈spF ps:=by
 have key:((Y3 (JU k ps)).map (·.1)).Pairwise (·<·):=by rw[WW];exact Wc g k
 have pos:∀p∈Y3 (JU k ps),1<=p.2:=fun p hp=>by obtain⟨t,ht,rfl⟩:=Qv.mp hp;exact Vh ht
 have e1:=Jcp (key.imp fun h=>by omega) pos t.2.1
 have e2:=Jco g k t.2.1
 have m:t.2.1∈YE (Y3 (JU k ps)):=by refine MX.mpr ⟨(t.2.1,t.2.2),Qv.mpr ⟨t,ht,rfl⟩,K5.mpr ⟨?_,rfl⟩⟩;have:=Vh ht;show t.2.2.toNat≠0;omega
 have c:=Ku.mpr m;exact Ku.mp (by omega)
theorem Jns:∀(n:Nat) (k:Int) {ps:List Pr} {lo hi:Int},Good ps->(∀p∈ps,lo<=p.1/\p.1+p.2<=hi)->∀t∈tbN n k ps,lo<=t.2.1/\t.2.1<=hi
 | 0,_,_,_,_,_,_,t,h=>(QW h).elim
 | n+1,k,ps,lo,hi,g,h,t,ht=>by
  rw[tbN] at ht;rcases Gk.mp ht with e|e
  ·exact Jno g h _ (Joc g e)
  ·exact Jns n (k+1) (JZ g) (Jqy g h) t e
theorem Jnd:∀(l:List Pr) (c S lo hi:Int),0<=c->c+(l.map (·.1)).sum<=S->(∀q∈l,1<=q.1/\lo<=q.2/\q.2<=hi)->∀q∈lnF c l,lo<=q.2/\q.2<=hi+2*S
 | [],_,_,_,_,_,_,_,q,hq=>(QW hq).elim
 | x::l,c,S,lo,hi,h0,hs,h,q,hq=>by
  have hx:=h x Qe
  have nn:∀l:List Pr,(∀q∈l,1<=q.1/\lo<=q.2/\q.2<=hi)->0<=(l.map (·.1)).sum:=fun l hl=>by
   induction l with
   | nil=>exact Qw _
   | cons y l ih =>
    have:=hl y Qe
    have:=ih fun q hq=>hl q (Qc _ hq)
    rw[Qd,Qr];omega
  have nl:=nn l fun q hq=>h q (Qc _ hq)
  rw[Qd,Qr] at hs;rw[lnF] at hq;rcases Qh.mp hq with e|e
  ·subst e;show lo<=x.2+2*c/\x.2+2*c<=hi+2*S;omega
  ·exact Jnd l (c+x.1) S lo hi (by omega) (by omega) (fun q hq=>h q (Qc _ hq)) q e
theorem JcD:∀(l:List Pr) (x:Pr×Pr),x∈prL l->x.1∈l/\x.2∈l/\x.1.1≠x.2.1
 | [],x,h=>(QW h).elim
 | [q],x,h=>(QW h).elim
 | q::r::l,x,h=>by
  rw[prL] at h;split at h
  ·rename_i c;rcases Qh.mp h with e|e
   ·subst e;exact⟨Qe,Qc _ Qe,c⟩
   ·obtain⟨a,b,d⟩:=JcD (r::l) x e;exact⟨Qc _ a,Qc _ b,d⟩
  ·obtain⟨a,b,d⟩:=JcD (r::l) x h;exact⟨Qc _ a,Qc _ b,d⟩
theorem JfZ:∀(l:List Pr),chL l->∀x∈prL l,x.1.1<x.2.1
 | [],_,x,h=>(QW h).elim
 | [q],_,x,h=>(QW h).elim
 | q::r::l,hc,x,h=>by
  obtain⟨h1,_,h3⟩:=hc;rw[prL] at h;split at h
  ·rename_i c;rcases Qh.mp h with e|e
   ·subst e;show q.1<r.1;omega
   ·exact JfZ (r::l) h3 x e
  ·exact JfZ (r::l) h3 x h
theorem JnI(g d B:Int)(hd:0<d)(h:-B<=g/\g<=B):-B<=g / d/\g / d<=B:=by
 have hB:0<=B:=by omega
 constructor
 ·rw[M9 hd]
  have:B<=B*d:=by have:=K0 (show(1:Int)<=d by omega) hB;omega
  rw[Rv];omega
 ·have:g / d<B+1:=by rw[Int.ediv_lt_iff_lt_mul hd];have:=K0 (show(1:Int)<=d by omega) (show 0<=B+1 by omega);omega
  omega
theorem JqA{x:Pr×Pr}{B:Int}(h1:x.1.1<x.2.1)(h2:1<=x.1.1/\x.1.1<=B)(h3:-B<=x.1.2/\x.1.2<=B)(h4:-B<=x.2.2/\x.2.2<=B):-(4*B)<=vlL x/\vlL x<=4*B:=by
 have hd:0<x.2.1-x.1.1:=by omega
 have a:=JnI (x.2.2-x.1.2-2*x.1.1) (x.2.1-x.1.1) (4*B) hd (by omega);unfold vlL;omega
theorem JfQ:∀(tb:List Tr) (L:List Pr),tb.foldl (fun L t=>L++Qt t.2.2.toNat ((t.1,t.2.1):Pr)) L=L++apT tb
 | [],L=>by simp[apT]
 | t::tb,L=>by rw[QS,JfQ tb];unfold apT;rw[Gm,GU]
theorem JlL(ps:List Pr)(N:Nat)(g:Good ps)(h:ps.length<=30)(hN:thN N ps=[]):Ys [.sh (.row (ps.map prE))]=some (.own ((apT (tbN N 0 ps)).map prE)):=by
 have asc:=YX N 0 ps none g (Qw _) (fun b e=>by cases e)
 have ns:=WC N 0 g hN
 have nm:∀t∈tbN N 0 ps,1<=t.2.2:=fun t ht=>(Ym asc t ht).2
 unfold Ys;walk_at "ev";rw[Jcs ps N g h hN];walk_at "ev";rw[GY];refine Uc (fun(rest:List Tr) (L:List Pr) E=>∃j2 j3 j4,E=[.sh (.row (ps.map prE)),.own (L.map prE),j2,j3,j4]/\(L.length:Int)+UO rest<=30/\∀t∈rest,1<=t.2.2) (fun L t=>L++Qt t.2.2.toNat (t.1,t.2.1)) [] ⟨.no,.no,.no,rfl,by rw[ns];simp;omega,nm⟩ ?_ ?_
 ·rintro t rest L E ⟨j2,j3,j4,rfl,hz,hr⟩;have h1:=hr t Qe
  have hs:0<=UO rest:=by have:=(Jcu (tb:=rest) fun u hu=>hr u (Qc _ hu)).1;omega
  have hz':(L.length:Int)+(t.2.2+UO rest)<=30:=by
   have e:UO (t::rest)=t.2.2+UO rest:=by unfold UO;rw[Qd,Qr]
   rw[<- e];exact hz
  simp only[trE];walk_at "ev";rw[Jdn (d:=D.tup [.int t.1,.int t.2.1]) rfl (Je7 ⟨by omega,by omega⟩) (by omega)];walk_at "ev";rw[Gx,if_pos (by omega)];refine⟨.sh (.int t.1),.sh (.int t.2.1),.sh (.int t.2.2),?_,by rw[Qu,Gx];omega,fun u hu=>hr u (Qc _ hu)⟩;rw[QL,Kt];rfl
 ·rintro E' ⟨j2,j3,j4,rfl,_,_⟩;rw[JfQ,KA];walk_at "ev"
theorem WG{ps:List Pr}{N:Nat}(g:Good ps)(hN:thN N ps=[]):(apT (tbN N 0 ps)).length=ps.length:=by
 have asc:=YX N 0 ps none g (Qw _) (fun b e=>by cases e)
 have l1:=JeI _ fun t ht=>(Ym asc t ht).2
 have ns:=WC N 0 g hN;omega
theorem Jgv:∀(l:List Pr) (L:List Pr) (c:Int),l.foldl (fun(s:List Pr×Int) q=>(s.1++[((q.1,q.2+2*s.2):Pr)],s.2+q.1)) (L,c)=(L++lnF c l,c+(l.map (·.1)).sum)
 | [],L,c=>by simp[lnF]
 | q::r,L,c=>by rw[QS,Jgv r,lnF,Qd,Qr];show(L++[((q.1,q.2+2*c):Pr)]++lnF (c+q.1) r,c+q.1+(r.map (·.1)).sum)=_;rw[GU,MJ];rfl
theorem Jjr(ps:List Pr)(N:Nat)(g:Good ps)(h:ps.length<=30)(hN:thN N ps=[]):JW [.sh (.row (ps.map prE))]=some (.own ((lnF 0 (apT (tbN N 0 ps))).map prE)):=by
 have al:=WG g hN;unfold JW;walk_at "ev";rw[JlL ps N g h hN];walk_at "ev";rw[GY];refine Uc (fun(rest:List Pr) (s:List Pr×Int) E=>∃j3 j4,E=[.sh (.row (ps.map prE)),.own (s.1.map prE),.sh (.int s.2),j3,j4]/\s.1.length+rest.length<=30) (fun s q=>(s.1++[(q.1,q.2+2*s.2)],s.2+q.1)) ([],0) ⟨.no,.no,rfl,by rw[al];simpa using h⟩ ?_ ?_
 ·rintro q rest ⟨L,c⟩ E ⟨j3,j4,rfl,hz⟩;rw[Qp] at hz;simp only[prE] at hz ⊢;walk_at "ev";refine⟨.sh (.int q.1),.sh (.int q.2),?_,by rw[Qu];simp;omega⟩;rw[QL];rfl
 ·rintro E' ⟨j3,j4,rfl,_⟩;rw[Jgv];walk_at "ev"
noncomputable def ppE(x:Pr×Pr):D:=.tup [prE x.1,prE x.2]
theorem Jfp:∀l:List Pr,(MQ l (l.drop 1)).filter (fun x=>decide (x.1.1≠x.2.1))=prL l
 | []=>rfl
 | [_]=>rfl
 | q::r::l=>by
  have ih:=Jfp (r::l)
  show((q,r)::MQ (r::l) ((r::l).drop 1)).filter _=_;rw[prL]
  by_cases c:q.1=r.1
  ·rw[Gq (by simp[c]),ih,if_neg (by simpa using c)]
  ·rw[Gr (by simp[c]),ih,if_pos c]
theorem JlQ(l:List Pr)(h:l.length<=30):YH [.sh (.lst (l.map prE))]=some (.own ((prL l).map ppE)):=by
 unfold YH;walk_at "ev";rw[Jda,<- List.map_drop,JcS];walk_at "ev";have hz:(MQ l (l.drop 1)).length<=16777216:=by rw[GQ];omega
 rw[if_pos hz,Jb5 (g:=ppE) (k:=fun x=>decide (x.1.1≠x.2.1))]
 ·rw[Jfp];walk_at "ev"
 ·intro x _;refine⟨?_,fun _=>?_⟩
  ·walk_at "ev";rw[VF,VF];walk_at "ev"
   by_cases c:x.1.1=x.2.1 <;> simp[c]
  ·walk_at "ev";rfl
noncomputable def Jeg:List Pr->Bool
 | p::q::r=>(decide (p.2<=q.2) && decide (p.2<=q.1-(p.1+p.2))) && Jeg (q::r)
 | _=>true
theorem Jgw(ps:List Pr)(h:ps.length<=1000):JX [.sh (.tup (ps.map prE))]=some (.sh (.bl (Jeg ps))):=by
 unfold JX;walk_at "ev"
 have go:∀(rest pre:List Pr) (p:Pr) (j1 j2:Sl),ps=pre++p::rest ->
  ((Yo (.nm 1) (Jt (JE 2 (e2 YW (e2 YW (e2 fIx (e2 fIx (Jd 0) (Jd 1)) (eC (.int 0))) (e2 fIx (e2 fIx (Jd 0) (e2 YW (Jd 1) (eC (.int 1)))) (eC (.int 0)))) (e2 fIx (e2 fIx (Jd 0) (e2 YW (Jd 1) (eC (.int 1)))) (eC (.int 1)))))
 (xIf (tOr? (tB? (e2 fGt (e2 fIx (e2 fIx (Jd 0) (e2 YW (Jd 1) (eC (.int 1)))) (eC (.int 1))) (e2 fIx (e2 fIx (Jd 0) (Jd 1)) (eC (.int 1))))) (tB? (e2 fLt (Jd 2) (e2 fIx (e2 fIx (Jd 0) (e2 YW (Jd 1) (eC (.int 1)))) (eC (.int 1)))))) (Yl (eC (.bl false))) Yb)) ((Rp pre.length rest.length).map fun(i:Nat)=>D.int (1+(i:Int))) [.sh (.tup (ps.map prE)),j1,j2]).bind (Jef (Yl (eC (.bl true))))).bind Jb6=some (.sh (.bl (Jeg (p::rest)))):=by
  intro rest
  induction rest with
  | nil=>intro pre p j1 j2 e;rw[G8,List.range'_zero,K2,Yo];walk_at "ev";rfl
  | cons q rest ih =>
   intro pre p j1 j2 e;have ihq:=ih (pre++[p]) q (.sh (.int (1+(pre.length:Int)))) (.sh (.int (q.1-p.1-p.2))) (by rw[e];simp);rw[Qu,Go] at ihq;have gp:(ps.map prE)[pre.length]?=some (prE p):=by rw[Qq,e];simp
   have gq:(ps.map prE)[pre.length+1]?=some (prE q):=by rw[Qq,e,QI (by omega)];simp
   have k1:(1:Int)+(pre.length:Int)=((pre.length+1:Nat):Int):=by omega
   have k2:(1:Int)+(pre.length:Int)-1=(pre.length:Int):=by omega
   rw[Qp,List.range'_succ,Qd,Yo];walk_at "ev";rw[k2];rw[k1] at ihq ⊢;rw[WI gq];walk_at "ev";rw[VF];walk_at "ev";rw[WI gp];walk_at "ev";rw[VF,Wt];walk_at "ev";rw[show((pre.length+1:Nat):Int)-1=(pre.length:Int) by omega,WI gp,WI gq];walk_at "ev";rw[Wt p,Wt q];walk_at "ev";rw[Jeg]
   by_cases c1:q.2<p.2
   ·rw[decide_eq_true c1,show decide (p.2<=q.2)=false from decide_eq_false (by omega)];walk_at "ev";rfl
   ·rw[decide_eq_false c1,show decide (p.2<=q.2)=true from decide_eq_true (by omega)];walk_at "ev"
    by_cases c2:q.1-p.1-p.2<p.2
    ·rw[decide_eq_true c2,show decide (p.2<=q.1-(p.1+p.2))=false from decide_eq_false (by omega)];walk_at "ev";rfl
    ·rw[decide_eq_false c2,show decide (p.2<=q.1-(p.1+p.2))=true from decide_eq_true (by omega)];walk_at "ev";exact ihq
 cases ps with
 | nil=>walk_at "ev";rfl
 | cons p rest =>
  have g:=go rest [] p .no .no rfl;rw[show rng 1 (((p::rest).length:Int)-1).toNat=(Rp 0 rest.length).map (fun(i:Nat)=>D.int (1+(i:Int))) by rw[show(((p::rest).length:Int)-1).toNat=rest.length by rw[Qp];omega,<- Rq];rfl]
  exact g
theorem JcK:∀(ps:List Pr),Jeg ps=true↔U8 ps
 | []=>⟨fun _=>trivial,fun _=>rfl⟩
 | [_]=>⟨fun _=>trivial,fun _=>rfl⟩
 | p::q::r=>by rw[Jeg,QM,QM,decide_eq_true_eq,decide_eq_true_eq,JcK (q::r),and_assoc];rfl
noncomputable def mxO(l:List Int):D:=match l.max? with
 | some m=>.int m
 | none=>.non
theorem JhQ(ps:List Pr)(N:Nat)(g:Good ps)(h:ps.length<=30)(hN:thN N ps=[])(hb:∀q∈apT (tbN N 0 ps),q.1<=10 ^ 100):Ue [.sh (.row (ps.map prE))]=some (.sh (mxO ((prL (lnF 0 (apT (tbN N 0 ps)))).map vlL))):=by
 have al:=WG g hN
 have asc:=YX N 0 ps none g (Qw _) (fun b e=>by cases e)
 have ch:=Jc9 (apT (tbN N 0 ps)) 0 (W9 asc)
 have ll:=Jcr (apT (tbN N 0 ps)) 0
 have sz:∀q∈lnF 0 (apT (tbN N 0 ps)),1<=q.1/\q.1<=10 ^ 100:=fun q hq=>by
  have hx1:q.1∈(lnF 0 (apT (tbN N 0 ps))).map (·.1):=G7 hq;rw[Jao] at hx1;obtain⟨y,hy,ey⟩:=Qv.mp hx1
  have h2:=hb y hy;obtain⟨t,ht,rfl⟩:=Wq hy
  have h1:=(Ym asc t ht).1;rw[<- ey];exact⟨h1,h2⟩
 unfold Ue;walk_at "ev";rw[Jjr ps N g h hN];walk_at "ev";rw[JlQ _ (by omega)];walk_at "ev"
 have pl:(prL (lnF 0 (apT (tbN N 0 ps)))).length<=30:=by rw[<- Jfp];refine Gn (Rj _ _) ?_;rw[GQ];omega
 rw[if_pos (by omega),Yf (g:=fun x=>D.int (vlL x))]
 ·walk_at "ev";rw[show(prL (lnF 0 (apT (tbN N 0 ps)))).map (fun x=>D.int (vlL x))=((prL (lnF 0 (apT (tbN N 0 ps)))).map vlL).map D.int by rw[QA];rfl];walk_at "ev";unfold mxO;cases ((prL (lnF 0 (apT (tbN N 0 ps)))).map vlL).max? <;> rfl
 ·intro x hx;obtain⟨m1,m2,_⟩:=JcD _ x hx;have c:=JfZ _ ch x hx;have s1:=sz _ m1;have s2:=sz _ m2
  have cc:0<x.2.1-x.1.1/\(x.2.1-x.1.1).natAbs<=10 ^ 200:=⟨by omega,by
   have:(10:Nat) ^ 100<=10 ^ 200:=by decide +kernel
   have:(10:Int) ^ 100=((10 ^ 100:Nat):Int):=by norm_cast
   omega⟩
  simp only[ppE];walk_at "ev";rw[Wt,Wt];walk_at "ev";rw[VF,VF];walk_at "ev";rfl
theorem Jjs(l:List Pr)(h:l.length<=30):Yy [.sh (.lst (l.map prE)),.sh (.int (l.length:Int))]=some (.sh (.bl true)):=by
 unfold Yy;walk_at "ev";rw[GY];refine Uc (fun(rest:List Pr) (_:Unit) E=>∃j2 j3,E=[.sh (.lst (l.map prE)),.sh (.int (l.length:Int)),j2,j3]) (fun _ _=>()) () ⟨.no,.no,rfl⟩ ?_ ?_
 ·rintro q rest _ E ⟨j2,j3,rfl⟩;simp only[prE];walk_at "ev";simp only[Yo];walk_at "ev";exact⟨_,_,rfl⟩
 ·rintro E' ⟨j2,j3,rfl⟩;walk_at "ev"
theorem Jir(n:Int):∀(tb:List Tr),(∀t∈tb,1<=t.2.2)->(tb.map fun t=>t.2.2*(if t.1=n then 1 else 0)).sum=(((apT tb).map (·.1)).count n:Int)
 | [],_=>rfl
 | t::tb,h=>by
  have ih:=Jir n tb fun u hu=>h u (Qc _ hu)
  have h1:=h t Qe;unfold apT at ih ⊢;rw[Qd,Qr,ih,Gm,QL,Kt,LS,Ru]
  by_cases c:t.1=n
  ·subst c;simp;omega
  ·simp[c]
theorem JkK(n:Int):∀(xs:List Pr),wt n xs=(xs.map fun p=>p.2*(if p.1=n then 1 else 0)).sum
 | []=>rfl
 | p::xs=>by rw[wt,JkK n xs,Qd,Qr];split <;> simp
noncomputable def JeU(xs:List Int):List Pr:=(Yw (fM xs)).map fun x=>(x,(xs.count x:Int))
theorem Jpe(xs:List Int):(Yw (fM xs)).Pairwise (·<·):=by
 have a:=Vx (fM xs)
 have b:(Yw (fM xs)).Pairwise (·≠·):=(J3 (fM xs)).nodup_iff.mpr (Jab xs);exact(List.pairwise_and_iff.mpr ⟨a,b⟩).imp fun h=>by omega
theorem JcO(xs:List Int)(x:Int):x∈Yw (fM xs)↔x∈xs:=by rw[(J3 (fM xs)).mem_iff,JnR]
theorem Jk3{xs:List Int}(h:∀x∈xs,0<x):JcT 0 (JeU xs):=by
 unfold JeU;refine JeK _ 0 ?_ (fun p hp=>?_) (fun p hp=>?_)
 ·rw[QA];exact(List.map_id _).symm▸Jpe xs
 ·obtain⟨x,hx,rfl⟩:=Qv.mp hp;exact h x ((JcO xs x).mp hx)
 ·obtain⟨x,hx,rfl⟩:=Qv.mp hp;have:=Ku.mpr ((JcO xs x).mp hx);show(1:Int)<=(xs.count x:Int);omega
theorem JkJ(f:Int->Int)(n:Int):∀(l:List Int),l.Nodup->wt n (l.map fun x=>(x,f x))=if n∈l then f n else 0
 | [],_=>rfl
 | x::l,nd=>by
  obtain⟨h1,h2⟩:=QX.mp nd;have ih:=JkJ f n l h2;rw[Qd,wt,ih]
  by_cases c:x=n
  ·subst c;simp[h1]
  ·have c':¬n=x:=fun e=>c e.symm
   simp[c,c']
theorem JnF(xs:List Int)(n:Int):wt n (JeU xs)=(xs.count n:Int):=by
 unfold JeU;rw[JkJ (fun x=>(xs.count x:Int)) n _ ((J3 (fM xs)).nodup_iff.mpr (Jab xs))];split
 ·rfl
 ·rename_i c;rw[JcO] at c;rw[LC.mpr c];rfl
theorem Jjo{ps:List Pr}(g:Good ps)(N:Nat):Vz (tbN N 0 ps) []=JeU ((apT (tbN N 0 ps)).map (·.1)):=by
 have asc:=YX N 0 ps none g (Qw _) (fun b e=>by cases e)
 have pos:∀x∈(apT (tbN N 0 ps)).map (·.1),0<x:=fun x hx=>by obtain⟨q,hq,rfl⟩:=Qv.mp hx;obtain⟨t,ht,rfl⟩:=Wq hq;have:=(Ym asc t ht).1;show 0<t.1;omega
 refine JkI _ _ 0 (JkX g N) (Jk3 pos) fun n hn=>?_
 rw[JnF,JkK,Jeu (fun x=>if x=n then 1 else 0),<- Jir n _ fun t ht=>(Ym asc t ht).2];simp
theorem JiQ(xs:List Int):Vf (.nm 0) yes? (Uu (aC (Jd 0) (aC (eMI Jdk (Jd 1) (Jd 0)) a0))) [.no,.sh (.lst (xs.map D.int))] ((Yw (fM xs)).map D.int)=some ((JeU xs).map prE):=by
 unfold JeU;rw[QA];refine Yf fun x _=>?_
 walk_at "ev";simp only[Jdk];walk_at "ev";rfl
theorem JmI(xs:List Int):(Yw (fM xs)).length<=xs.length:=by rw[(J3 _).length_eq];exact JiZ xs
theorem JiR(l:List Pr):Vf (.tp (.cons (.nm 0) (.cons (.nm 1) .nil))) yes? (Jd 0) [.no,.no] (l.map prE)=some ((l.map (·.1)).map D.int):=by
 rw[QA];refine Yf fun p _=>?_
 simp only[prE];walk_at "ev";rfl
theorem Jk7(z:Int)(hz:z.natAbs<=10 ^ 200)(l:List Pr)(h:∀q∈l,q.1.natAbs<=10 ^ 200):Vf (.tp (.cons (.nm 0) (.cons (.nm 1) .nil))) yes? (Uu (aC (e2 Ub (Jd 1) (e2 Jdl (Jd 0) (Jd 2))) (aC (Jd 0) a0))) [.no,.no,.sh (.int z)] (l.map prE)=some (((l.map (shL z)).map G4).map prE):=by
 rw[QA,QA];refine Yf fun p hp=>?_
 have:=h p hp
 have hw:p.1.natAbs<=10 ^ 200/\z.natAbs<=10 ^ 200:=⟨this,hz⟩
 simp only[prE];walk_at "ev";rfl
theorem Jju(ps qs l:List Pr)(z:Int)(hz:z.natAbs<=10 ^ 200)(h:∀q∈l,q.1.natAbs<=10 ^ 200)(hl:l.length<=30)(ha:YY [.sh (.row (ps.map prE)),.sh .non,.sh (.int z)]=some (.sh (.row (qs.map prE))))(e:qs=(l.map (shL z)).map G4)(s:U8 qs) :
 JV [.sh (.row (ps.map prE)),.sh (.lst (l.map prE)),.sh (.int z)]=some (.sh (.bl true)):=by
 have hq:qs.length=l.length:=by rw[e];simp
 unfold JV;walk_at "ev";rw[ha];walk_at "ev";rw[Jk7 z hz l h,<- e];walk_at "ev";rw[Jgw qs (by omega),(JcK qs).mpr s];walk_at "ev"
theorem Jg1(ns:List Int)(at' span p0:Int)(h0:0<span):∀i:Nat,p0<=(spr ns at' span p0 i).1/\(spr ns at' span p0 i).1<=p0+i*(2*span+1)/\(∀p∈(spr ns at' span p0 i).2,p0<=p.1/\p.1+p.2<=p0+i*(2*span+1)/\p.2<=span)/\((spr ns at' span p0 i).2.map (·.2)).sum<=i*span
 | 0=>⟨Qw _,by simp[spr],fun p hp=>(by cases hp),by simp[spr]⟩
 | i+1=>by
  obtain⟨a0,a1,a2,a3⟩:=Jg1 ns at' span p0 h0 i;have m1:=K8 (cell ns (at'+1+2*i)) (b:=span) (by omega);have m2:=K8 (cell ns (at'+2+2*i)) (b:=span) (by omega);have m3:=LD (cell ns (at'+1+2*i)) (b:=span) (by omega);have m4:=LD (cell ns (at'+2+2*i)) (b:=span) (by omega);have e1:((i+1:Nat):Int)*(2*span+1)=i*(2*span+1)+(2*span+1):=by rw[Ka,KZ];simp
  have e2:((i+1:Nat):Int)*span=i*span+span:=by rw[Ka,KZ];simp
  rw[e1,e2];refine⟨?_,?_,fun p hp=>?_,?_⟩
  ·show p0<=_+(1+_)+1+_;omega
  ·show _+(1+_)+1+_<=_;omega
  ·rcases Gk.mp hp with z|z
   ·have:=a2 p z;omega
   ·have e:p=((spr ns at' span p0 i).1,1+cell ns (at'+1+2*i) % span):=by simpa using z
    subst e;refine⟨a0,?_,?_⟩
    ·show _+(1+_)<=_;omega
    ·show 1+_<=_;omega
  ·simp only[spr,QL,Qd,K2,Lx,Qr,List.sum_nil];omega
structure Rw (ps:List Pr) (N:Nat):Prop where
 good:Good ps
 len:ps.length<=30
 sum:(ps.map (·.2)).sum<=10 ^ 60
 inn:∀p∈ps,-10 ^ 60<=p.1/\p.1+p.2<=10 ^ 60
 top:(ps.map (·.2)).sum<=(N:Int)
theorem Rw.th{ps:List Pr}{N:Nat}(r:Rw ps N):thN N ps=[]:=W2 N r.good r.top
theorem Rw.size{ps:List Pr}{N:Nat}(r:Rw ps N):∀q∈apT (tbN N 0 ps),1<=q.1/\q.1<=(ps.map (·.2)).sum:=fun q hq=>by obtain⟨t,ht,rfl⟩:=Wq hq;have asc:=YX N 0 ps none r.good (Qw _) (fun b e=>by cases e);exact⟨(Ym asc t ht).1,Jkw r.good r.th t ht⟩
theorem Rw.lsize{ps:List Pr}{N:Nat}(r:Rw ps N):∀q∈lnF 0 (apT (tbN N 0 ps)),1<=q.1/\q.1<=(ps.map (·.2)).sum:=fun q hq=>by have hx1:q.1∈(lnF 0 (apT (tbN N 0 ps))).map (·.1):=G7 hq;rw[Jao] at hx1;obtain⟨y,hy,ey⟩:=Qv.mp hx1;rw[<- ey];exact r.size y hy
theorem Rw.lsum{ps:List Pr}{N:Nat}(r:Rw ps N):((apT (tbN N 0 ps)).map (·.1)).sum=(ps.map (·.2)).sum:=by
 have asc:=YX N 0 ps none r.good (Qw _) (fun b e=>by cases e);rw[<- JaL N 0 r.good r.th]
 have nm:∀t∈tbN N 0 ps,1<=t.2.2:=fun t ht=>(Ym asc t ht).2
 revert nm
 generalize tbN N 0 ps=tb
 intro nm
 induction tb with
 | nil=>rfl
 | cons t tb ih =>
  have h1:=nm t Qe
  have ih':=ih fun u hu=>nm u (Qc _ hu)
  unfold apT at ih' ⊢;rw[Gm,QL,Lx,ih',Qd,Qr,Kt]
  have:∀(n:Nat) (x:Int),(Qt n x).sum=n*x:=fun n x=>by
   induction n with
   | zero=>simp
   | succ n ih=>rw[Q4,Qr,ih,Ka,KZ];omega
  rw[this,show((t.2.2.toNat:Nat):Int)=t.2.2 by omega,RU t.2.2];simp
theorem Rw.vals{ps:List Pr}{N:Nat}(r:Rw ps N):∀x∈prL (lnF 0 (apT (tbN N 0 ps))),-10 ^ 70<=vlL x/\vlL x<=10 ^ 70:=fun x hx=>by
 have asc:=YX N 0 ps none r.good (Qw _) (fun b e=>by cases e)
 have ch:=Jc9 (apT (tbN N 0 ps)) 0 (W9 asc);obtain⟨m1,m2,_⟩:=JcD _ x hx
 have s1:=r.lsize _ m1
 have hs:=r.sum
 have hl:=Jnd (apT (tbN N 0 ps)) 0 (10 ^ 60) (-10 ^ 60) (10 ^ 60) (Qw _) (by rw[r.lsum];omega) (fun q hq=>by
  have h1:=(r.size q hq).1;obtain⟨t,ht,rfl⟩:=Wq hq
  have:=Jns N 0 r.good r.inn t ht;exact⟨h1,this⟩)
 have l1:=hl _ m1
 have l2:=hl _ m2
 have:=JqA (B:=10 ^ 61) (JfZ _ ch x hx) ⟨s1.1,by omega⟩ (by omega) (by omega);omega
theorem Rw.after{ps:List Pr}{N:Nat}(r:Rw ps N)(z:Int)(hz:-10 ^ 100<=z/\z<=10 ^ 100):∃qs,qs.length<=30/\YY [.sh (.row (ps.map prE)),.sh .non,.sh (.int z)]=some (.sh (.row (qs.map prE))) ∧
 (U8 (((lnF 0 (apT (tbN N 0 ps))).map (shL z)).map G4)->qs=((lnF 0 (apT (tbN N 0 ps))).map (shL z)).map G4)/\(U8 qs->U8 (((lnF 0 (apT (tbN N 0 ps))).map (shL z)).map G4)):=by
 have hs:=r.sum
 have hl:=r.len
 have s0:0<=(ps.map (·.2)).sum:=by
  have:∀l:List Pr,(∀p∈l,1<=p.2)->0<=(l.map (·.2)).sum:=fun l h=>by
   induction l with
   | nil=>exact Qw _
   | cons p l ih =>
    have:=h p Qe
    have:=ih fun q hq=>h q (Qc _ hq)
    rw[Qd,Qr];omega
  exact this ps (Good.all r.good)
 obtain⟨qs,gq,ql,qsum,e⟩:=goZ (s:=(ps.map (·.2)).sum+1) (by omega) r.good r.top z;have tq:thN N qs=[]:=W2 N gq (by rw[qsum];exact r.top)
 have e':tbN N 0 qs=(tbN N 0 ps).map fun t=>(t.1,t.2.1+z*t.1,t.2.2):=by
  rw[e];refine QQ fun t ht=>?_
  have:=Jkw r.good r.th t ht;rw[show min t.1 ((ps.map (·.2)).sum+1)=t.1 by omega]
 refine⟨qs,by omega,?_,JnS r.good r.len r.th gq (by omega) tq e'⟩;exact Jjp ps qs N none ((ps.map (·.2)).sum+1) z r.good r.len r.th gq (by omega) tq (fun s h=>by cases h) (.inr ⟨rfl,by omega⟩) (by omega) (by omega) hz e
theorem Jgy{z:Int}(h:-10 ^ 100<=z/\z<=10 ^ 100):z.natAbs<=10 ^ 200:=by
 have:(10:Int) ^ 100<=((10 ^ 200:Nat):Int):=by decide +kernel
 omega
theorem Rw.stands{ps:List Pr}{N:Nat}(r:Rw ps N)(z:Int)(hz:-10 ^ 100<=z/\z<=10 ^ 100)(h:∀x∈prL (lnF 0 (apT (tbN N 0 ps))),vlL x<=z) :
 JV [.sh (.row (ps.map prE)),.sh (.lst ((lnF 0 (apT (tbN N 0 ps))).map prE)),.sh (.int z)]=some (.sh (.bl true)):=by
 have asc:=YX N 0 ps none r.good (Qw _) (fun b e=>by cases e)
 have ch:=Jc9 (apT (tbN N 0 ps)) 0 (W9 asc)
 have st:=(JcL z _ ch).mpr h;obtain⟨qs,ql,ha,h1,_⟩:=r.after z hz
 have hs:=r.sum
 have hl:=r.len
 have al:=WG r.good r.th
 have ll:=Jcr (apT (tbN N 0 ps)) 0;refine Jju ps qs _ z (Jgy hz) (fun q hq=>Jgy ?_) (by omega) ha (h1 st) (by rw[h1 st];exact st)
 have:=r.lsize q hq;omega
theorem JnV(ns:List Int)(ps:List Pr)(N:Nat)(r:Rw ps N)(hd:Yd [.sh (.fz (ns.map .int)),.sh (.int 2),.sh (.int (cell ns 0 % 19)),.sh (.int (Jd5 [3,7,1000,10 ^ 50] (cell ns 0 / 19 % 4)))]=some (.own (ps.map prE))):∃j4,∀T:Es,(Jt (JE 1 (eU 2 JH (aC (Jd 0) (aC (eC (.int 0)) a0)))) (Jt (JE 2 (eU 4 Yd (aC (Jd 0) (aC (eC (.int 2)) (aC (e2 Zd (Jd 1) (eC (.int 19))) (aC (e2 fIx (VP (aC (eC (.int 3)) (aC (eC (.int 7)) (aC (eC (.int 1000)) (aC (e2 Jdm (eC (.int 10)) (eC (.int 50))) a0))))) (e2 Zd (e2 Jlk (Jd 1) (eC (.int 19))) (eC (.int 4)))) a0)))))) (Jt (JE 3 (eF ZD (aC (Jd 2) a0))) (Jt (W7 4 (eU 1 JW (aC (Jd 3) a0))) (Jt (Ja2 4 (Uu (aC (eC (.int 0)) (aC (eC (.int 0)) a0)))) (Jt (JeD 4) (Jt (JE 5 (eU 1 JW (aC (Jd 3) a0))) (Jt (xIf (tNot? (tTru? (eU 2 Yy (aC (Jd 5) (aC (eF ZC (aC (Jd 2) a0)) a0))))) (Yl (eC (.bl false))) Yb) (Jt (JE 6 (Ua (iE true (Jd 5)) (.tp (.cons (.nm 0) (.cons (.nm 1) .nil))) yes? (Jd 0) [none,none])) (Jt (xIf (tB? (e2 fNe (Jd 6) (eF Wa (aC (Jd 6) a0)))) (Yl (eC (.bl false))) Yb) (Jt (xIf (tB? (e2 fNe (eU 1 YZ (aC (Jd 3) a0)) (Ua (iE true (Jb4 (Jd 6))) (.nm 0) yes? (Uu (aC (Jd 0) (aC (eMI Jdk (Jd 1) (Jd 0)) a0))) [none,some 6]))) (Yl (eC (.bl false))) Yb) (Jt (JE 7 (eU 1 Ue (aC (Jd 3) a0))) T)))))))))))) [.sh (.fz (ns.map .int)),.no,.no,.no,.no,.no,.no,.no,.no,.no,.no]=T [.sh (.fz (ns.map .int)),.sh (.int (cell ns 0)),.sh (.lst (ps.map prE)),.sh (.row (ps.map prE)),j4,.sh (.lst ((lnF 0 (apT (tbN N 0 ps))).map prE)),.sh (.lst (((apT (tbN N 0 ps)).map (·.1)).map .int)),.sh (mxO ((prL (lnF 0 (apT (tbN N 0 ps)))).map vlL)),.no,.no,.no]:=by
 have hl:=r.len
 have hs:=r.sum
 have al:=WG r.good r.th
 have ll:=Jcr (apT (tbN N 0 ps)) 0
 have lo:=Jao (apT (tbN N 0 ps)) 0
 have fl:=Jjr ps N r.good r.len r.th
 have a2:=Jiv (l:=[3,7,1000,10 ^ 50]) (k:=cell ns 0 / 19 % 4) (by omega) (by show _<(4:Int);omega);simp only[Qd,K2] at a2
 have asc:=YX N 0 ps none r.good (Qw _) (fun b e=>by cases e)
 have srt:Yw ((apT (tbN N 0 ps)).map (·.1))=(apT (tbN N 0 ps)).map (·.1):=by refine Vy (J3 _) (Vx _) ?_;refine LQ.mpr ((W9 asc).imp fun {a b} h=>?_);have h':a.1<b.1\/(a.1=b.1/\a.2<=b.2):=h;omega
 have lm:=JlP ps N r.good r.len r.th;rw[Jjo r.good N] at lm
 have stl:=JhQ ps N r.good r.len r.th fun q hq=>by have:=r.size q hq;omega
 have ml:=Jjs (lnF 0 (apT (tbN N 0 ps))) (by omega);refine⟨.own ((lnF 0 (apT (tbN N 0 ps))).map prE++[D.tup [D.int 0,D.int 0]]).reverse,fun T=>?_⟩;walk_at "ev";rw[Zi _ _ (by omega)];walk_at "ev";rw[a2];walk_at "ev";rw[hd];walk_at "ev";rw[V9 rfl r.good r.len];walk_at "ev";rw[fl];walk_at "ev";rw[fl];walk_at "ev";rw[show((ps.length:Nat):Int)=(((lnF 0 (apT (tbN N 0 ps))).length:Nat):Int) by omega,ml];walk_at "ev";rw[JiR,lo];walk_at "ev"
 rw[srt];walk_at "ev";rw[lm];walk_at "ev";rw[if_pos (by have:=JmI ((apT (tbN N 0 ps)).map (·.1));rw[Qm] at this;omega),JiQ];walk_at "ev";rw[stl];walk_at "ev"
theorem JpL(ns:List Int)(c:Int)(ps:List Pr)(N:Nat)(r:Rw ps N)(j4 j6:Sl):(((Jt (xIf (tB? (e2 fIs (Jd 7) (eC .non))) (Jt (JE 8 (e2 Zd (eU 2 JH (aC (Jd 0) (aC (eC (.int 1)) a0))) (e2 Jdm (eC (.int 10)) (eC (.int 20))))) (Jt (VN (iE false (VP (aC (eC (.int 0)) (aC (Jd 8) (aC (e2 YW (eC (.int 0)) (Jd 8)) a0))))) (.nm 9) (xIf (tNot? (tTru? (eU 3 JV (aC (Jd 3) (aC (Jd 5) (aC (Jd 9) a0)))))) (Yl (eC (.bl false))) Yb)) (Yl (eC (.bl true))))) Yb) (Jt (xIf (tOr? (tNot? (tTru? (JaV "int" (Jd 7)))) (tTru? (JaV "bool" (Jd 7)))) (Yl (eC (.bl false))) Yb) (Jt (xIf (tTru? (eU 1 JX (aC (e1 Ve (eU 3 YY (aC (Jd 3) (aC (eC .non) (aC (e2 YW (Jd 7) (eC (.int 1))) a0))))) a0))) (Yl (eC (.bl false))) Yb) (Jt (VN (iE false (VP (aC (eC (.int 0)) (aC (eC (.int 1)) (aC (e2 Zd (eU 2 JH (aC (Jd 0) (aC (eC (.int 1)) a0))) (e2 Jdm (eC (.int 10)) (eC (.int 20)))) a0))))) (.nm 10) (xIf (tNot? (tTru? (eU 3 JV (aC (Jd 3) (aC (Jd 5) (aC (e2 Ub (Jd 7) (Jd 10)) a0)))))) (Yl (eC (.bl false))) Yb)) (Yl (e2 fEq (e1 Ve (Jd 3)) (eF Ze (aC (Jd 2) a0))))))))) [.sh (.fz (ns.map .int)),.sh (.int c),.sh (.lst (ps.map prE)),.sh (.row (ps.map prE)),j4,.sh (.lst ((lnF 0 (apT (tbN N 0 ps))).map prE)),j6,.sh (mxO ((prL (lnF 0 (apT (tbN N 0 ps)))).map vlL)),.no,.no,.no]).bind Jb6=some (.sh (.bl true)):=by
 have hl:=r.len
 have cb:=K8 (cell ns 1) (b:=10 ^ 20) (by decide)
 have cb2:=LD (cell ns 1) (b:=10 ^ 20) (by decide)
 have asc:=YX N 0 ps none r.good (Qw _) (fun b e=>by cases e)
 have ch:=Jc9 (apT (tbN N 0 ps)) 0 (W9 asc)
 cases hm:((prL (lnF 0 (apT (tbN N 0 ps)))).map vlL).max? with
 | none =>
  have hn:prL (lnF 0 (apT (tbN N 0 ps)))=[]:=by rw[List.max?_eq_none_iff,List.map_eq_nil_iff] at hm;exact hm
  have all:∀z:Int,∀x∈prL (lnF 0 (apT (tbN N 0 ps))),vlL x<=z:=fun z x hx=>by rw[hn] at hx;exact(QW hx).elim
  unfold mxO;rw[hm];walk_at "ev";rw[Zi _ _ (by omega)];walk_at "ev";simp only[Yo];walk_at "ev";rw[r.stands 0 (by omega) (all _)];walk_at "ev";rw[r.stands _ (by omega) (all _)];walk_at "ev";rw[r.stands _ (by omega) (all _)];walk_at "ev"
 | some m =>
  obtain⟨mm,mx⟩:=Rh.mp hm;obtain⟨x0,hx0,e0⟩:=Qv.mp mm;have v0:=r.vals x0 hx0
  have up:∀k:Int,0<=k->∀x∈prL (lnF 0 (apT (tbN N 0 ps))),vlL x<=m+k:=fun k hk x hx=>by have:=mx (vlL x) (G7 hx);omega
  obtain⟨qs,ql,ha,_,h2⟩:=r.after (m-1) (by omega)
  have sq:Jeg qs=false:=by
   cases hq:Jeg qs with
   | false=>rfl
   | true=>have:=(JcL (m-1) _ ch).mp (h2 ((JcK qs).mp hq)) x0 hx0;omega
  unfold mxO;rw[hm];walk_at "ev";rw[ha];walk_at "ev";rw[Jgw qs (by omega),sq];walk_at "ev";rw[Zi _ _ (by omega)];walk_at "ev";simp only[Yo];walk_at "ev";rw[r.stands _ (by omega) (up 0 (by omega))];walk_at "ev";rw[r.stands _ (by omega) (up 1 (by omega))];walk_at "ev";rw[r.stands _ (by omega) (up _ (by omega))];walk_at "ev"
theorem Jk5(ns:List Int):∃ps N,Rw ps N/\Yd [.sh (.fz (ns.map .int)),.sh (.int 2),.sh (.int (cell ns 0 % 19)),.sh (.int (Jd5 [3,7,1000,10 ^ 50] (cell ns 0 / 19 % 4)))]=some (.own (ps.map prE)):=by
 have sp:0<Jd5 [3,7,1000,10 ^ 50] (cell ns 0 / 19 % 4)/\Jd5 [3,7,1000,10 ^ 50] (cell ns 0 / 19 % 4)<=10 ^ 50:=JjP (P:=fun x=>0<x/\x<=10 ^ 50) (by omega) (by show _<(4:Int);omega) (by decide)
 revert sp
 generalize Jd5 [3,7,1000,10 ^ 50] (cell ns 0 / 19 % 4)=span
 intro sp;have b0:=K8 (cell ns 2) (b:=2*span+1) (by omega);have b1:=LD (cell ns 2) (b:=2*span+1) (by omega);obtain⟨n,hn⟩:∃n:Nat,n=(cell ns 0 % 19).toNat:=⟨_,rfl⟩
 have n18:n<=18:=by omega
 obtain⟨f1,f2,f3,f4⟩:=Jg1 ns 2 span (cell ns 2 % (2*span+1)-span) sp.1 n;have m1:(n:Int)*(2*span+1)<=18*(2*span+1):=LY (by omega) (by omega);have m2:(n:Int)*span<=18*span:=LY (by omega) (by omega);refine⟨(spr ns 2 span (cell ns 2 % (2*span+1)-span) n).2,((spr ns 2 span (cell ns 2 % (2*span+1)-span) n).2.map fun p:Pr=>p.2).sum.toNat,⟨(Jer ns 2 _ _ sp.1 _).1,by rw[Wh];omega,by omega,fun p hp=>?_,by omega⟩,?_⟩
 ·have:=f3 p hp;omega
 ·rw[hn];exact JlN ns 2 _ span (by omega) (by omega) (by omega) sp.1
theorem law_true(ns:List Int)(hn:ns.length<=63):JeZ [.sh (.fz (ns.map .int))]=some (.sh (.bl true)):=by obtain⟨ps,N,r,hd⟩:=Jk5 ns;obtain⟨j4,hh⟩:=JnV ns ps N r hd;unfold JeZ;simp only[Y0,Qp,G8,Nat.reduceAdd,Nat.reduceSub,Rt,KS,KA];rw[hh];exact JpL ns _ ps N r _ _
end
end LK
noncomputable section
namespace LK
open PySem L2 LR LE
noncomputable def top(i:Nat):Stmt:=PySem.Challenge.pw_lumprow_k51_whole_far_lines.main.body.getD i (.Pass ⟨0,0,0,0⟩)
noncomputable abbrev UE:Stmt:=top 41
noncomputable abbrev YM:Stmt:=top 43
noncomputable abbrev J8:Stmt:=top 9
noncomputable abbrev UC:Stmt:=Jly (top 8) 0
noncomputable abbrev Uh:Stmt:=top 15
noncomputable abbrev Uo:Stmt:=top 18
noncomputable abbrev YJ:Stmt:=top 11
noncomputable abbrev UD:Stmt:=top 22
noncomputable abbrev Vt:Stmt:=top 21
noncomputable abbrev YL:Stmt:=top 26
noncomputable abbrev Vu:Stmt:=top 27
noncomputable abbrev UG:Stmt:=top 36
noncomputable abbrev YK:Stmt:=top 35
noncomputable abbrev UX:Stmt:=top 38
noncomputable abbrev Ui:Stmt:=top 16
noncomputable abbrev UU:Stmt:=top 12
noncomputable abbrev Uj:Stmt:=top 14
noncomputable abbrev UY:Stmt:=top 17
noncomputable abbrev UT:Stmt:=top 10
noncomputable abbrev UV:Stmt:=top 20
noncomputable abbrev Vv:Stmt:=top 19
noncomputable abbrev UH:Stmt:=top 25
noncomputable abbrev Wg:Stmt:=top 39
noncomputable abbrev Y6:Stmt:=top 45
noncomputable abbrev Y7:Stmt:=top 32
noncomputable abbrev YN:Stmt:=top 29
noncomputable abbrev Uk:Stmt:=top 31
noncomputable abbrev UW:Stmt:=top 33
noncomputable abbrev UF:Stmt:=top 28
noncomputable abbrev Um:Stmt:=top 44
noncomputable abbrev Ul:Stmt:=top 42
noncomputable abbrev WY:Stmt:=top 46
section
variable{P:Program}{w:World}{K:Frag}{C:Addr}{mg:Str->Option Value}{base:Heap}
theorem Jed:FnScope ["script","k"] ["script","k"] (Jg UE):=⟨rfl,rfl,rfl,by decide +kernel,rfl,by decide +kernel,by decide +kernel⟩
theorem JdX{f:Addr}{fd:FuncData}(F:Fun K "_law_cell" "_law_cell" UE f fd)(qo:mg "len"=none):FnOk P w K mg base CX0 1 f fd ["script","k"] (spE K C 2 JH):=by
 refine F.ok Jed (fun vs H Q E h=>JG h) (fun cdv A outer s H vs Q E hr h=>?_);have hu:=hr.units;refine⟨_,(Jf (YV (JL Jax (pv 1) (JD (Ut (K:=K) rfl) rfl qo Ws (Ja (pv 0) Je)) (J0 _)) (Jh (JC (Yt (JI (K:=K) rfl) (pv 0) (pv 1) (fun _ _=>rfl)))) JY)
  (Jh (JC Jj))),?_⟩
 exact JF (N:=["script","k"]) (Jq (Vm (Yk (Jp JhX (Jb 1) (U5 Jbg (Jc (Jb 0) Jk)))) (J9 (Jp UB (Jb 0) (Jb 1))) Yu)
  (J9 Jo)) h
theorem sc_law_settled:FnScope ["row","k","gap"] ["row"] (Jg YM):=⟨rfl,rfl,rfl,by decide +kernel,rfl,by decide +kernel,by decide +kernel⟩
theorem Jau{f:Addr}{fd:FuncData}(F:Fun K "_law_settled" "_law_settled" YM f fd)(qH:mg "range"=none)(qo:mg "len"=none):FnOk P w K mg base CX0 1 f fd ["row"] (spE K C 1 JX):=by
 refine F.ok sc_law_settled (fun vs H Q E h=>JG h) (fun cdv A outer s H vs Q E hr h=>?_);have hu:=hr.units;refine⟨_,(Jf (Y4 Q9 rfl (Jh4 rfl qH (Ja Jj (Ja (JD (Ut (K:=K) rfl) rfl qo Ws (Ja (pv 0) Je)) Je))) (Jl (i:=1) sc_law_settled.nd rfl (.inl rfl)) (Jf (Jy (i:=2) sc_law_settled.nd rfl (.inl rfl) (Js Yi (Js Yi (Yt (JI (K:=K) rfl) (Yt (JI (K:=K) rfl) (pv 0) (pv 1) (fun _ _=>rfl)) Jj (fun _ _=>rfl)) (Yt (JI (K:=K) rfl) (Yt (JI (K:=K) rfl) (pv 0) (Js Yi (pv 1) Jj) (fun _ _=>rfl)) Jj (fun _ _=>rfl))) (Yt (JI (K:=K) rfl) (Yt (JI (K:=K) rfl) (pv 0) (Js Yi (pv 1) Jj) (fun _ _=>rfl)) Jj (fun _ _=>rfl))))
  (Jh (YV (PW.pt (JbD (JL Jaw (Yt (JI (K:=K) rfl) (Yt (JI (K:=K) rfl) (pv 0) (Js Yi (pv 1) Jj) (fun _ _=>rfl)) Jj (fun _ _=>rfl)) (Yt (JI (K:=K) rfl) (Yt (JI (K:=K) rfl) (pv 0) (pv 1) (fun _ _=>rfl)) Jj (fun _ _=>rfl)) (J0 _)) (Zo (JL Jax (pv 2) (Yt (JI (K:=K) rfl) (Yt (JI (K:=K) rfl) (pv 0) (Js Yi (pv 1) Jj) (fun _ _=>rfl)) Jj (fun _ _=>rfl)) (J0 _))))) (Jh (JC U2)) JY))))
  (Jh (JC U2))),?_⟩
 exact JF (N:=["row","k","gap"]) (Jq (Vc (Jqt (Jc Jo (Jc (U5 Jbg (Jc (Jb 0) Jk)) Jk))) (JT 1) (Jq (JM (Jp Y2 (Jp Y2 (Jp UB (Jp UB (Jb 0) (Jb 1)) Jo) (Jp UB (Jp UB (Jb 0) (Jp Y2 (Jb 1) Jo)) Jo)) (Jp UB (Jp UB (Jb 0) (Jp Y2 (Jb 1) Jo)) Jo)))
  (Vm (JbH (Yk (Jp JhW (Jp UB (Jp UB (Jb 0) (Jp Y2 (Jb 1) Jo)) Jo) (Jp UB (Jp UB (Jb 0) (Jb 1)) Jo))) (Yk (Jp JhX (Jb 2) (Jp UB (Jp UB (Jb 0) (Jp Y2 (Jb 1) Jo)) Jo)))) (J9 WA) Yu)))
  (J9 WA)) h
theorem sc_check_stretches:FnScope ["stretches","behind","begin","length"] ["stretches"] (Jg J8):=⟨rfl,rfl,rfl,by decide +kernel,rfl,by decide +kernel,by decide +kernel⟩
theorem Wy{f:Addr}{fd:FuncData}(F:Fun K "check_stretches" "check_stretches" J8 f fd) :FnOk P w K mg base CX0 1 f fd ["stretches"] (ZR K):=by
 refine F.ok sc_check_stretches (fun vs H Q E h=>?_) (fun cdv A outer s H vs Q E hr h=>?_)
 ·obtain⟨v,ps,rfl,_⟩:=h;rfl
 ·obtain⟨v,ps,rfl,⟨a,vs,rfl,hq,hp⟩,g,q⟩:=h;have hu:=hr.units;refine⟨_,(Jf (Jy (i:=1) sc_check_stretches.nd rfl (.inl rfl) U4)
   (Jh (Y4 Q9 rfl (JS (K:=K) rfl (pv 0)) (JJ (K:=K) (n:=2) rfl rfl (Ji (Jl (i:=2) sc_check_stretches.nd rfl (.inl rfl)) (Ji (Jl (i:=3) sc_check_stretches.nd rfl (.inl rfl)) JK)) rfl rfl) (Jf (YV (JL Jax (pv 3) Jj (J0 _)) (Jh UJ) JY)
   (Jf (YV (PW.pt (Zn (JL Jay (pv 1) U4 (J0 _)) (Wf (JL Jnh (pv 2) (pv 1) (J0 _))))) (Jh UJ) JY)
   (Jh (Jy (i:=1) sc_check_stretches.nd rfl (.inl rfl) (Js (JgC (K:=K) rfl) (pv 2) (pv 3))))))))),?_⟩
  walk_at "rd";refine Jh8 (H1:=H) (a:=a) (xs:=vs) (fun R r=>⟨_,rfl,r⟩) hq
   (fun i σ' H'=>∃vb vl,σ'=[some (.ref a),some (JfS ps i),vb,vl]/\H'=H) ⟨none,none,rfl,rfl⟩ (fun i σ' H' ⟨_,_,_,e⟩=>e▸Same.refl _) ?_ ?_
  ·rintro i x σ' H' hi ⟨vb,vl,rfl,rfl⟩;obtain⟨p,b,e1,rfl,sp⟩:=hp.at hi;refine JgR sp rfl ?_;walk_at "rd";refine ifd (fun hlt=>absurd (g.one i p e1) (by omega)) (fun _=>?_);walk_at "rd"
   cases i with
   | zero=>refine ifF rfl ?_;refine ifF rfl ?_;walk_at "rd";exact⟨_,_,by rw[VS e1];rfl,rfl⟩
   | succ j =>
    obtain⟨q1,e2⟩:∃q1,ps[j]?=some q1:=⟨ps[j]'(by have:=(Qk.mp e1).1;omega),by have:=(Qk.mp e1).1;simp[show j<ps.length by omega]⟩
    rw[VS e2];refine ifT rfl ?_;walk_at "rd";refine ifd (fun hle=>absurd (g.gap j q1 p e2 e1) (by omega)) (fun _=>?_);walk_at "rd";exact⟨_,_,by rw[VS e1];rfl,rfl⟩
  ·rintro σ' H' ⟨vb,vl,rfl,rfl⟩;exact q _ (Same.refl _)
theorem Jec:FnScope ["self","stretches"] ["self","stretches"] (Jg UC):=⟨rfl,rfl,rfl,by decide +kernel,rfl,by decide +kernel,by decide +kernel⟩
theorem JdV{f:Addr}{fd:FuncData}(F:Fun K "__init__" "Row.__init__" UC f fd)(qj:mg "tuple"=none)(qo:mg "len"=none)(qd:GV mg "MOST_STRETCHES" (.int 30))(qp:Cal P w K mg base "check_stretches" 1 ["stretches"] (ZR K))(T:RowC K C):FnOk P w K mg base CX0 2 f fd ["self","stretches"] (VL C K):=by
 refine F.ok Jec (fun vs H Q E h=>?_) (fun cdv A outer s H vs Q E hr h=>?_)
 ·obtain⟨x,dx,v,ps,rfl,_⟩:=h;rfl
 ·obtain⟨x,dx,v,ps,rfl,hx,⟨a,vs,rfl,hq,hp⟩,g,hl,q⟩:=h;have hu:=hr.units;refine⟨_,(Jf (YV (JL Jaw (JD (Ut (K:=K) rfl) rfl qo Ws (Ja (pv 1) Je)) (JaA rfl qd) (J0 _)) (Jh UJ) JY)
   (Jf (YC (Jn qp (hr.mono (by decide)) rfl (Ja (pv 1) Je)))
   (Jh (Jmc (K:=K) rfl (pv 0) (US (VU (K:=K) rfl) rfl qj WJ (Ja (Yp (N':=["begin","length"]) (imp:=[none,none]) rfl (JS (K:=K) rfl (pv 1)) (JbQ rfl rfl) (fun _ _ _ _=>(JJ (K:=K) (n:=2) rfl rfl (Ji (Jl (i:=0) (show(["begin","length"]:List Str).Nodup from by decide +kernel) rfl (.inl rfl) (.inr rfl)) (Ji (Jl (i:=1) (show(["begin","length"]:List Str).Nodup from by decide +kernel) rfl (.inl rfl) (.inr rfl)) JK)) rfl rfl)) (fun _ _ _ _=>Yj) (fun _ _ _ _=>(YQ (Ja (pv 0) (Ja (pv 1) Je))))) Je)) rfl)))),?_⟩
  have hn:=hp.len;walk_at "rd";refine Jea hq ?_;walk_at "rd";refine ifd (fun hgt=>absurd hl (by omega)) (fun _=>?_);walk_at "rd";refine JiI ⟨a,vs,rfl,hq,hp⟩ g fun H1 s1=>?_
  walk_at "rd";refine Jft (H1:=H1) (a:=a) (xs:=vs) (fun R r=>⟨_,rfl,r⟩) (hq.imp s1.seq s1.seqT) (GS (Jid (by omega)))
   (fun i ys σ' H'=>∃vb vl,σ'=[vb,vl]/\Same H1 H'/\Prs K H' ys (ps.take i)) ⟨none,none,rfl,Same.refl _,by rw[List.take_zero];exact RepL.nil⟩
   (fun i ys σ' H' ⟨_,_,_,_,r⟩=>by have:=r.len;rw[this,Lk];omega) (fun i ys σ' H' ⟨_,_,_,s',_⟩=>s') ?_ ?_
  ·rintro i ys y σ' H' hi ⟨vb,vl,rfl,s',r⟩;obtain⟨p,b,e1,rfl,sp⟩:=Prs.at (K:=K) (ps:=ps) (RepL.mono (s1.trans s') hp) hi;refine JgR sp rfl ?_;walk_at "rd";refine ifT rfl ?_;walk_at "rd";refine Jnw sz2 fun t H2 nt s2 ht=>?_
   refine⟨_,_,rfl,s'.trans s2,?_⟩;rw[List.take_add_one,e1];exact Prs.snoc (RepL.mono s2 r) (Jma ht)
  ·rintro ys σ' H' ⟨vb,vl,rfl,s',r⟩ l H2 nl s2 hl2;walk_at "rd";refine Jh9 (.of hl2) fun t H3 nt s3 ht=>?_
   walk_at "rd";have sA:Same H H3:=((s1.trans s').trans s2).trans s3;refine⟨x,C,dx,[],rfl,sA _ _ hx,T.cl,T.ns,by decide,?_⟩;rw[hn,List.take_length] at r;have r3:Prs K H3 ys ps:=RepL.mono (s2.trans s3) r;have ntx:t≠x:=Jbz ht (sA _ _ hx) (by intro z;cases z);refine q _ t ys (sA.ex_trans SameEx.upd) (by rw[JjT];exact Jv) (by rw[Jm ntx];exact ht) ?_;exact Prs.monoIns SameEx.upd (sA _ _ hx) r3
theorem JcH:FnScope ["row","layers"] ["row","layers"] (Jg Uh):=⟨rfl,rfl,rfl,by decide +kernel,rfl,by decide +kernel,by decide +kernel⟩
theorem Jcv{f:Addr}{fd:FuncData}(F:Fun K "by_layers" "by_layers" Uh f fd)(qe:mg "enumerate"=none)(T:RowC K C):FnOk P w K mg base CX0 1 f fd ["row","layers"] (spE K C 2 Yc):=by
 refine F.ok JcH (fun vs H Q E h=>JG h) (fun cdv A outer s H vs Q E hr h=>?_);have hu:=hr.units;refine⟨_,(Jh (JC (Yp (N':=["ahead","stretch","layers"]) (imp:=[none,none,some 1]) rfl (JaB (K:=K) rfl rfl qe (Ja (YB (K:=K) rfl (pv 0) rfl) Je)) (Jc3 (own:=["ahead","stretch"]) (fr:=[("layers",1)]) rfl rfl rfl ⟨rfl,trivial⟩ rfl ⟨⟨rfl,rfl,rfl⟩,trivial⟩) (fun _ _ _ _=>(JJ (K:=K) (n:=2) rfl rfl (Ji (Jl (i:=0) (show(["ahead","stretch","layers"]:List Str).Nodup from by decide +kernel) rfl (.inl rfl) (.inr rfl)) (Ji (Jl (i:=1) (show(["ahead","stretch","layers"]:List Str).Nodup from by decide +kernel) rfl (.inl rfl) (.inr rfl)) JK)) rfl rfl)) (fun _ _ _ _=>Yj) (fun _ _ _ _=>(YQ (Ja (Js (JR (K:=K) rfl) (Yt (JI (K:=K) rfl) (pv 1) Jj (fun _ _=>rfl)) (Js VI (Js VI Jj (pv 2)) (pv 0))) (Ja (Js (JR (K:=K) rfl) (Yt (JI (K:=K) rfl) (pv 1) Jj (fun _ _=>rfl)) (pv 2)) Je))))))),?_⟩
 exact JF (N:=["row","layers"]) (J9 (Y8 (JcG (Jc (U6 T (Jb 0)) Jk)) (YT (Ju (JT 0) (Ju (JT 1) YS)) rfl) Vj (UK (Jc (Jp YF (Jp UB (Jb 1) Jo) (Jp WV (Jp WV Jo (Jb 2)) (Jb 0))) (Jc (Jp YF (Jp UB (Jb 1) Jo) (Jb 2)) Jk))) rfl)) h
theorem JcJ:FnScope ["row","layers"] ["row","layers"] (Jg Uo):=⟨rfl,rfl,rfl,by decide +kernel,rfl,by decide +kernel,by decide +kernel⟩
theorem JcB{f:Addr}{fd:FuncData}(F:Fun K "thickened" "thickened" Uo f fd)(qu:CalM P w K mg base "Row" C 2 ["self","stretches"] (VL C K))(qk:Cal P w K mg base "by_layers" 1 ["row","layers"] (spE K C 2 Yc)):FnOk P w K mg base CX0 4 f fd ["row","layers"] (spE K C 2 Yz):=by refine F.ok JcJ (fun vs H Q E h=>JG h) (fun cdv A outer s H vs Q E hr h=>?_);have hu:=hr.units;refine⟨_,(Jh (JC (Vq qu (hr.mono (by decide)) rfl (Ja (Jn qk (hr.mono (by decide)) rfl (Ja (pv 0) (Ja (pv 1) Je))) Je)))),?_⟩;exact JF (N:=["row","layers"]) (J9 (JbG (Jc (Jz (Jc (Jb 0) (Jc (Jb 1) Jk))) Jk))) h
theorem JaF:FnScope ["row","place"] ["row","place"] (Jg YJ):=⟨rfl,rfl,rfl,by decide +kernel,rfl,by decide +kernel,by decide +kernel⟩
theorem Jar{f:Addr}{fd:FuncData}(F:Fun K "balls_below" "balls_below" YJ f fd)(qq:mg "sum"=none)(qZ:mg "max"=none)(qE:mg "min"=none)(T:RowC K C):FnOk P w K mg base CX0 1 f fd ["row","place"] (spE K C 2 Yq):=by
 refine F.ok JaF (fun vs H Q E h=>JG h) (fun cdv A outer s H vs Q E hr h=>?_);have hu:=hr.units;refine⟨_,(Jh (JC (JD (UQ (K:=K) rfl rfl) rfl qq Za (Ja (Yp (N':=["begin","length","place"]) (imp:=[none,none,some 1]) rfl (JS (K:=K) rfl (YB (K:=K) rfl (pv 0) rfl)) (Jc3 (own:=["begin","length"]) (fr:=[("place",1)]) rfl rfl rfl ⟨rfl,trivial⟩ rfl ⟨⟨rfl,rfl,rfl⟩,trivial⟩) (fun _ _ _ _=>(JJ (K:=K) (n:=2) rfl rfl (Ji (Jl (i:=0) (show(["begin","length","place"]:List Str).Nodup from by decide +kernel) rfl (.inl rfl) (.inr rfl)) (Ji (Jl (i:=1) (show(["begin","length","place"]:List Str).Nodup from by decide +kernel) rfl (.inl rfl) (.inr rfl)) JK)) rfl rfl)) (fun _ _ _ _=>Yj) (fun _ _ _ _=>(JD (Jhn rfl) rfl qZ Jiz (Ja Jj (Ja (JD (Zb rfl) rfl qE JbS (Ja (pv 1) (Ja (Js Yi (pv 2) (pv 0)) Je))) Je))))) Je)))),?_⟩
 exact JF (N:=["row","place"]) (J9 (U5 Jbh (Jc (Y8 (VR (U6 T (Jb 0))) (YT (Ju (JT 0) (Ju (JT 1) YS)) rfl) Vj (U5 JpG (Jc Jo (Jc (U5 JiC (Jc (Jb 1) (Jc (Jp Y2 (Jb 2) (Jb 0)) Jk))) Jk))) rfl) Jk))) h
theorem sc_ended_at:FnScope ["row","spots","stretches","counted","ahead","spot","below","balls"] ["row","spots"] (Jg UD):=⟨rfl,rfl,rfl,by decide +kernel,rfl,by decide +kernel,by decide +kernel⟩
theorem JdW{f:Addr}{fd:FuncData}(F:Fun K "ended_at" "ended_at" UD f fd)(qe:mg "enumerate"=none)(qw:Cal P w K mg base "balls_below" 1 ["row","place"] (spE K C 2 Yq)):FnOk P w K mg base CX0 2 f fd ["row","spots"] (spE K C 2 Uf):=by
 refine F.ok sc_ended_at (fun vs H Q E h=>JG h) (fun cdv A outer s H vs Q E hr h=>?_);have hu:=hr.units;refine⟨_,(Jf (Jy (i:=2) sc_ended_at.nd rfl (.inl rfl) (Uq Je))
  (Jf (Jy (i:=3) sc_ended_at.nd rfl (.inl rfl) Jj)
  (Jf (Y4 Q9 rfl (JaB (K:=K) rfl rfl qe (Ja (pv 1) Je)) (JJ (K:=K) (n:=2) rfl rfl (Ji (Jl (i:=4) sc_ended_at.nd rfl (.inl rfl)) (Ji (Jl (i:=5) sc_ended_at.nd rfl (.inl rfl)) JK)) rfl rfl) (Jf (Jy (i:=6) sc_ended_at.nd rfl (.inl rfl) (Jn qw (hr.mono (by decide)) rfl (Ja (pv 0) (Ja (pv 5) Je))))
  (Jf (Jy (i:=7) sc_ended_at.nd rfl (.inl rfl) (Js Yi (pv 6) (pv 3)))
  (Jf (YC (U3 (K:=K) rfl QY GH GI UA (pv 2) (Ja (YQ (Ja (Js Yi (Js (JR (K:=K) rfl) (pv 5) (Js VI Jj (pv 4))) (pv 7)) (Ja (Js (JR (K:=K) rfl) (pv 7) Jj) Je))) Je)))
  (Jh (Jy (i:=3) sc_ended_at.nd rfl (.inl rfl) (pv 6)))))))
  (Jh (JC (pv 2)))))),?_⟩
 exact JF (N:=["row","spots","stretches","counted","ahead","spot","below","balls"]) (Jq (V5 (Vs Jk))
  (Jq (JM Jo)
  (Jq (Vc (JcG (Jc (Jb 1) Jk)) (YT (Ju (JT 4) (Ju (JT 5) YS)) rfl) (Jq (JM (Jz (Jc (Jb 0) (Jc (Jb 5) Jk))))
  (Jq (JM (Jp Y2 (Jb 6) (Jb 3)))
  (Jq (JbM (UK (Jc (Jp Y2 (Jp YF (Jb 5) (Jp WV Jo (Jb 4))) (Jb 7)) (Jc (Jp YF (Jb 7) Jo) Jk))))
  (JM (Jb 6))))))
  V4))) h
theorem sc_put_in:FnScope ["row","pairs","spots","spot","number"] ["row","pairs"] (Jg Vt):=⟨rfl,rfl,rfl,by decide +kernel,rfl,by decide +kernel,by decide +kernel⟩
theorem Jh0{f:Addr}{fd:FuncData}(F:Fun K "put_in" "put_in" Vt f fd)(qv:mg "sorted"=none)(qo:mg "len"=none)(qq:mg "sum"=none)(qd:GV mg "MOST_STRETCHES" (.int 30))(qu:CalM P w K mg base "Row" C 2 ["self","stretches"] (VL C K))(qK:Cal P w K mg base "ended_at" 2 ["row","spots"] (spE K C 2 Uf))(T:RowC K C):FnOk P w K mg base CX0 4 f fd ["row","pairs"] (spE K C 2 Ux):=by
 refine F.ok sc_put_in (fun vs H Q E h=>JG h) (fun cdv A outer s H vs Q E hr h=>?_);have hu:=hr.units;refine⟨_,(Jf (YV (JL Jaw (Js (JR (K:=K) rfl) (JD (Ut (K:=K) rfl) rfl qo Ws (Ja (YB (K:=K) rfl (pv 0) rfl) Je)) (JD (UQ (K:=K) rfl rfl) rfl qq Za (Ja (Yp (N':=["spot","number"]) (imp:=[none,none]) rfl (JS (K:=K) rfl (pv 1)) (JbQ rfl rfl) (fun _ _ _ _=>(JJ (K:=K) (n:=2) rfl rfl (Ji (Jl (i:=0) (show(["spot","number"]:List Str).Nodup from by decide +kernel) rfl (.inl rfl) (.inr rfl)) (Ji (Jl (i:=1) (show(["spot","number"]:List Str).Nodup from by decide +kernel) rfl (.inl rfl) (.inr rfl)) JK)) rfl rfl)) (fun _ _ _ _=>Yj) (fun _ _ _ _=>(pv 1))) Je))) (JaA rfl qd) (J0 _)) (Jh UJ) JY)
  (Jf (Jfr (i:=2) (N':=["begin","length"]) (imp:=[none,none]) sc_put_in.nd rfl (.inl rfl) rfl (JS (K:=K) rfl (YB (K:=K) rfl (pv 0) rfl)) (JbQ rfl rfl) (fun _ _ _ _=>(JJ (K:=K) (n:=2) rfl rfl (Ji (Jl (i:=0) (show(["begin","length"]:List Str).Nodup from by decide +kernel) rfl (.inl rfl) (.inr rfl)) (Ji (Jl (i:=1) (show(["begin","length"]:List Str).Nodup from by decide +kernel) rfl (.inl rfl) (.inr rfl)) JK)) rfl rfl)) (fun _ _ _ _=>Yj) (fun _ _ _ _=>(Js (JR (K:=K) rfl) (pv 0) (pv 1))) rfl (.inl rfl))
  (Jf (Y4 Q9 rfl (JS (K:=K) rfl (pv 1)) (JJ (K:=K) (n:=2) rfl rfl (Ji (Jl (i:=3) sc_put_in.nd rfl (.inl rfl)) (Ji (Jl (i:=4) sc_put_in.nd rfl (.inl rfl)) JK)) rfl rfl) (Jh (YC (U3 (K:=K) rfl QY Lu Lv Zk (pv 2) (Ja (Js JjG (Uq (Ja (pv 3) Je)) (pv 4)) Je)))))
  (Jh (JC (Vq qu (hr.mono (by decide)) rfl (Ja (Jn qK (hr.mono (by decide)) rfl (Ja (pv 0) (Ja (JD (WL (K:=K) rfl rfl) rfl qv Jbf (Ja (pv 2) Je)) Je))) Je))))))),?_⟩
 exact JF (N:=["row","pairs","spots","spot","number"]) (Jq (Vm (Yk (Jp JhW (Jp YF (U5 Jbg (Jc (U6 T (Jb 0)) Jk)) (U5 Jbh (Jc (Y8 (VR (Jb 1)) (YT (Ju (JT 0) (Ju (JT 1) YS)) rfl) Vj (Jb 1) rfl) Jk))) Jo)) W8 Yu)
  (Jq (V5 (Y8 (VR (U6 T (Jb 0))) (YT (Ju (JT 0) (Ju (JT 1) YS)) rfl) Vj (Jp YF (Jb 0) (Jb 1)) rfl))
  (Jq (Vc (Jib 1) (YT (Ju (JT 3) (Ju (JT 4) YS)) rfl) (JkN (Jp Jng (Vs (Jc (Jb 3) Jk)) (Jb 4))))
  (J9 (JbG (Jc (Jz (Jc (Jb 0) (Jc (U5 Jc6 (Jc (Jb 2) Jk)) Jk))) Jk)))))) h
theorem sc_check_table:FnScope ["table","ahead","size","spot","number"] ["table"] (Jg YL):=⟨rfl,rfl,rfl,by decide +kernel,rfl,by decide +kernel,by decide +kernel⟩
theorem Jat{f:Addr}{fd:FuncData}(F:Fun K "check_table" "check_table" YL f fd)(qq:mg "sum"=none)(qA:GV mg "MOST_LUMPS" (.int 30)):FnOk P w K mg base CX0 1 f fd ["table"] (spE K C 1 J5):=by
 refine F.ok sc_check_table (fun vs H Q E h=>JG h) (fun cdv A outer s H vs Q E hr h=>?_);have hu:=hr.units;refine⟨_,(Jf (Jy (i:=1) sc_check_table.nd rfl (.inl rfl) U4)
  (Jf (Y4 Q9 rfl (JS (K:=K) rfl (pv 0)) (JJ (K:=K) (n:=3) rfl rfl (Ji (Jl (i:=2) sc_check_table.nd rfl (.inl rfl)) (Ji (Jl (i:=3) sc_check_table.nd rfl (.inl rfl)) (Ji (Jl (i:=4) sc_check_table.nd rfl (.inl rfl)) JK))) rfl rfl) (Jf (YV (PW.pt (JbD (JL Jax (pv 2) Jj (J0 _)) (Zo (JL Jax (pv 4) Jj (J0 _))))) (Jh UJ) JY)
  (Jf (YV (PW.pt (Zn (JL Jay (pv 1) U4 (J0 _)) (Wf (JL (Jox (K:=K) rfl (G1 (LX _ 64) hu)) (YQ (Ja (pv 2) (Ja (pv 3) Je))) (pv 1) (J0 _))))) (Jh UJ) JY)
  (Jh (Jy (i:=1) sc_check_table.nd rfl (.inl rfl) (YQ (Ja (pv 2) (Ja (pv 3) Je))))))))
  (Jh (YV (JL Jaw (JD (UQ (K:=K) rfl rfl) rfl qq Za (Ja (Yp (N':=["size","spot","number"]) (imp:=[none,none,none]) rfl (JS (K:=K) rfl (pv 0)) (JbQ rfl rfl) (fun _ _ _ _=>(JJ (K:=K) (n:=3) rfl rfl (Ji (Jl (i:=0) (show(["size","spot","number"]:List Str).Nodup from by decide +kernel) rfl (.inl rfl) (.inr rfl)) (Ji (Jl (i:=1) (show(["size","spot","number"]:List Str).Nodup from by decide +kernel) rfl (.inl rfl) (.inr rfl)) (Ji (Jl (i:=2) (show(["size","spot","number"]:List Str).Nodup from by decide +kernel) rfl (.inl rfl) (.inr rfl)) JK))) rfl rfl)) (fun _ _ _ _=>Yj) (fun _ _ _ _=>(pv 2))) Je)) (JaA rfl qA) (J0 _)) (Jh UJ) JY)))),?_⟩
 exact JF (N:=["table","ahead","size","spot","number"]) (Jq (JM JaD)
  (Jq (Vc (Jib 0) (YT (Ju (JT 2) (Ju (JT 3) (Ju (JT 4) YS))) rfl) (Jq (Vm (JbH (Yk (Jp JhX (Jb 2) Jo)) (Yk (Jp JhX (Jb 4) Jo))) W8 Yu)
  (Jq (Vm (JaE (Yk (Jp Jgz (Jb 1) JaD)) (Yk (Jp Jp6 (UK (Jc (Jb 2) (Jc (Jb 3) Jk))) (Jb 1)))) W8 Yu)
  (JM (UK (Jc (Jb 2) (Jc (Jb 3) Jk)))))))
  (Vm (Yk (Jp JhW (U5 Jbh (Jc (Y8 (VR (Jb 0)) (YT (Ju (JT 0) (Ju (JT 1) (Ju (JT 2) YS))) rfl) Vj (Jb 2) rfl) Jk)) Jo)) W8 Yu))) h
theorem sc_row_of:FnScope ["table","lumps","size","spot","number","sizes","row","lesser"] ["table"] (Jg Vu):=⟨rfl,rfl,rfl,by decide +kernel,rfl,by decide +kernel,by decide +kernel⟩
theorem Jh1{f:Addr}{fd:FuncData}(F:Fun K "row_of" "row_of" Vu f fd)(qL:mg "reversed"=none)(qx:mg "list"=none)(qO:mg "zip"=none)(qF:Cal P w K mg base "thickened" 4 ["row","layers"] (spE K C 2 Yz))(qW:Cal P w K mg base "put_in" 4 ["row","pairs"] (spE K C 2 Ux))(qu:CalM P w K mg base "Row" C 2 ["self","stretches"] (VL C K))(qh:Cal P w K mg base "check_table" 1 ["table"] (spE K C 1 J5)):FnOk P w K mg base CX0 5 f fd ["table"] (spE K C 1 UR):=by
 refine F.ok sc_row_of (fun vs H Q E h=>JG h) (fun cdv A outer s H vs Q E hr h=>?_);have hu:=hr.units;refine⟨_,(Jf (YC (Jn qh (hr.mono (by decide)) rfl (Ja (pv 0) Je)))
  (Jf (Jy (i:=1) sc_row_of.nd rfl (.inl rfl) Jaz)
  (Jf (Y4 Q9 rfl (JS (K:=K) rfl (pv 0)) (JJ (K:=K) (n:=3) rfl rfl (Ji (Jl (i:=2) sc_row_of.nd rfl (.inl rfl)) (Ji (Jl (i:=3) sc_row_of.nd rfl (.inl rfl)) (Ji (Jl (i:=4) sc_row_of.nd rfl (.inl rfl)) JK))) rfl rfl) (Jh (YC (U3 (K:=K) rfl QY GH GI UA (JjK (pv 1) (pv 2) (Uq Je) ⟨rfl,rfl,rfl,rfl⟩) (Ja (YQ (Ja (pv 3) (Ja (pv 4) Je))) Je)))))
  (Jf (Jy (i:=5) sc_row_of.nd rfl (.inl rfl) (US (JeP rfl) rfl qx ZF (Ja (pv 1) Je)))
  (Jf (Jy (i:=6) sc_row_of.nd rfl (.inl rfl) (Vq qu (hr.mono (by decide)) rfl (Ja (Uq Je) Je)))
  (Jf (Y4 Q9 rfl (Jl8 (K:=K) rfl rfl qL (Ja (Jd3 (K:=K) rfl rfl rfl qx rfl qO (Ja (Js (JR (K:=K) rfl) (Uq (Ja Jj Je)) (pv 5)) (Ja (pv 5) Je))) Je)) (JJ (K:=K) (n:=2) rfl rfl (Ji (Jl (i:=7) sc_row_of.nd rfl (.inl rfl)) (Ji (Jl (i:=2) sc_row_of.nd rfl (.inl rfl)) JK)) rfl rfl) (Jh (Jy (i:=6) sc_row_of.nd rfl (.inl rfl) (Jn qF (hr.mono (by decide)) rfl (Ja (Jn qW (hr.mono (by decide)) rfl (Ja (pv 6) (Ja (Jl4 (Jdr hr) (pv 1) (pv 2) (fun _ _=>rfl)) Je))) (Ja (Js Yi (Js Yi (pv 2) (pv 7)) Jj) Je))))))
  (Jh (JC (pv 6))))))))),?_⟩
 exact JF (N:=["table","lumps","size","spot","number","sizes","row","lesser"]) (Jq (JfO (Jz (Jc (Jb 0) Jk)))
  (Jq (V5 Jfw)
  (Jq (JqB (Jib 0) (JnU (Jcd (Ji7 (by decide)) (Jcd (Ji7 (by decide)) (Jcd (Ji7 (by decide)) JnT))) rfl) (Jb 2) (UK (Jc (Jb 3) (Jc (Jb 4) Jk))))
  (Jq (JM (Jmv (Jb 1)))
  (Jq (JM (JbG (Jc (Vs Jk) Jk)))
  (Jq (Vc (Jo8 (Jc (Jpa (Jc (Jp YF (Vs (Jc Jo Jk)) (Jb 5)) (Jc (Jb 5) Jk))) Jk)) (YT (Ju (JT 7) (Ju (JT 2) YS)) rfl) (JM (Jz (Jc (Jz (Jc (Jb 6) (Jc (Jqr (Jb 1) (Jb 2)) Jk))) (Jc (Jp Y2 (Jp Y2 (Jb 2) (Jb 7)) Jo) Jk)))))
  V4)))))) h
theorem Jee:FnScope ["size","seats"] ["size","seats"] (Jg UG):=⟨rfl,rfl,rfl,by decide +kernel,rfl,by decide +kernel,by decide +kernel⟩
theorem JdZ{f:Addr}{fd:FuncData}(F:Fun K "share_of" "share_of" UG f fd)(qE:mg "min"=none):FnOk P w K mg base CX0 1 f fd ["size","seats"] (spE K C 2 Ug):=by refine F.ok Jee (fun vs H Q E h=>JG h) (fun cdv A outer s H vs Q E hr h=>?_);have hu:=hr.units;refine⟨_,(Jh (JC (Jd2 (JL JgD (pv 1) U4 (J0 _)) (pv 0) (JD (Zb rfl) rfl qE JbS (Ja (pv 0) (Ja (pv 1) Je)))))),?_⟩;exact JF (N:=["size","seats"]) (J9 (Jnn (Yk (Jp Jp5 (Jb 1) JaD)) (Jb 0) (U5 JiC (Jc (Jb 0) (Jc (Jb 1) Jk))))) h
theorem JaG:FnScope ["seats"] ["seats"] (Jg YK):=⟨rfl,rfl,rfl,by decide +kernel,rfl,by decide +kernel,by decide +kernel⟩
theorem Jas{f:Addr}{fd:FuncData}(F:Fun K "check_seats" "check_seats" YK f fd) :FnOk P w K mg base CX0 1 f fd ["seats"] (spE K C 1 Yr):=by refine F.ok JaG (fun vs H Q E h=>JG h) (fun cdv A outer s H vs Q E hr h=>?_);have hu:=hr.units;refine⟨_,(Jh (YV (PW.pt (Zn (JL Jay (pv 0) U4 (J0 _)) (Wf (JL Jax (pv 0) Jj (J0 _))))) (Jh UJ) JY)),?_⟩;exact JF (N:=["seats"]) (Vm (JaE (Yk (Jp Jgz (Jb 0) JaD)) (Yk (Jp JhX (Jb 0) Jo))) W8 Yu) h
theorem JfA:FnScope ["table","seats","times"] ["table","seats","times"] (Jg UX):=⟨rfl,rfl,rfl,by decide +kernel,rfl,by decide +kernel,by decide +kernel⟩
theorem Jfl{f:Addr}{fd:FuncData}(F:Fun K "shifted" "shifted" UX f fd)(qM:Cal P w K mg base "share_of" 1 ["size","seats"] (spE K C 2 Ug))(qh:Cal P w K mg base "check_table" 1 ["table"] (spE K C 1 J5))(qy:Cal P w K mg base "check_seats" 1 ["seats"] (spE K C 1 Yr)):FnOk P w K mg base CX0 2 f fd ["table","seats","times"] (spE K C 3 Uy):=by
 refine F.ok JfA (fun vs H Q E h=>JG h) (fun cdv A outer s H vs Q E hr h=>?_);have hu:=hr.units;refine⟨_,(Jf (YC (Jn qy (hr.mono (by decide)) rfl (Ja (pv 1) Je)))
  (Jf (YC (Jn qh (hr.mono (by decide)) rfl (Ja (pv 0) Je)))
  (Jh (JC (Yp (N':=["size","spot","number","times","seats"]) (imp:=[none,none,none,some 2,some 1]) rfl (JS (K:=K) rfl (pv 0)) (Jc3 (own:=["size","spot","number"]) (fr:=[("times",2),("seats",1)]) rfl rfl rfl ⟨rfl,rfl,trivial⟩ rfl ⟨⟨rfl,rfl,rfl⟩,⟨rfl,rfl,rfl⟩,trivial⟩) (fun _ _ _ _=>(JJ (K:=K) (n:=3) rfl rfl (Ji (Jl (i:=0) (show(["size","spot","number","times","seats"]:List Str).Nodup from by decide +kernel) rfl (.inl rfl) (.inr rfl)) (Ji (Jl (i:=1) (show(["size","spot","number","times","seats"]:List Str).Nodup from by decide +kernel) rfl (.inl rfl) (.inr rfl)) (Ji (Jl (i:=2) (show(["size","spot","number","times","seats"]:List Str).Nodup from by decide +kernel) rfl (.inl rfl) (.inr rfl)) JK))) rfl rfl)) (fun _ _ _ _=>Yj) (fun _ _ _ _=>(YQ (Ja (pv 0) (Ja (Js (JR (K:=K) rfl) (pv 1) (Js JgE (pv 3) (Jn qM (hr.mono (by decide)) rfl (Ja (pv 0) (Ja (pv 4) Je))))) (Ja (pv 2) Je)))))))))),?_⟩
 exact JF (N:=["table","seats","times"]) (Jq (JfO (Jz (Jc (Jb 1) Jk)))
  (Jq (JfO (Jz (Jc (Jb 0) Jk)))
  (J9 (Y8 (VR (Jb 0)) (YT (Ju (JT 0) (Ju (JT 1) (Ju (JT 2) YS))) rfl) Vj (UK (Jc (Jb 0) (Jc (Jp YF (Jb 1) (Jp JjB (Jb 3) (Jz (Jc (Jb 0) (Jc (Jb 4) Jk))))) (Jc (Jb 2) Jk)))) rfl)))) h
theorem sc_closed_up:FnScope ["pairs","stretches","begin","length","ahead"] ["pairs"] (Jg Ui):=⟨rfl,rfl,rfl,by decide +kernel,rfl,by decide +kernel,by decide +kernel⟩
theorem Jcw{f:Addr}{fd:FuncData}(F:Fun K "closed_up" "closed_up" Ui f fd)(qq:mg "sum"=none):FnOk P w K mg base CX0 1 f fd ["pairs"] (spE K C 1 Yx):=by
 refine F.ok sc_closed_up (fun vs H Q E h=>JG h) (fun cdv A outer s H vs Q E hr h=>?_);have hu:=hr.units;refine⟨_,(Jf (Jy (i:=1) sc_closed_up.nd rfl (.inl rfl) (Uq Je))
  (Jf (Y4 Q9 rfl (JS (K:=K) rfl (pv 0)) (JJ (K:=K) (n:=2) rfl rfl (Ji (Jl (i:=2) sc_closed_up.nd rfl (.inl rfl)) (Ji (Jl (i:=3) sc_closed_up.nd rfl (.inl rfl)) JK)) rfl rfl) (Jh (YV (PW.pt (Zn (YD (K:=K) rfl (pv 1) (fun _=>rfl)) (Wf (JL (JjE (K:=K) rfl hu) (JD (UQ (K:=K) rfl rfl) rfl qq Za (Ja (Yt (JI (K:=K) rfl) (pv 1) (JjN JfM Jj) (fun _ _=>rfl)) Je)) (pv 2) (J0 _))))) (Jf (Jy (i:=4) sc_closed_up.nd rfl (.inl rfl) (JgF (K:=K) rfl QY PySem.F.slot_list_pop PySem.F.type_list_pop Jok (pv 1)))
  (Jh (YC (U3 (K:=K) rfl QY GH GI UA (pv 1) (Ja (YQ (Ja (Yt (JI (K:=K) rfl) (pv 4) Jj (fun _ _=>rfl)) (Ja (Js (JR (K:=K) rfl) (Yt (JI (K:=K) rfl) (pv 4) Jj (fun _ _=>rfl)) (pv 3)) Je))) Je))))) (Jh (YV (JL Jaw (pv 3) Jj (J0 _)) (Jh (YC (U3 (K:=K) rfl QY GH GI UA (pv 1) (Ja (YQ (Ja (pv 2) (Ja (pv 3) Je))) Je)))) JY)))))
  (Jh (JC (pv 1))))),?_⟩
 exact JF (N:=["pairs","stretches","begin","length","ahead"]) (Jq (V5 (Vs Jk))
  (Jq (Vc (Jib 0) (YT (Ju (JT 2) (Ju (JT 3) YS)) rfl) (Vm (JaE (U7 (Jb 1)) (Yk (Jp Jp4 (U5 Jbh (Jc (Jp UB (Jb 1) (Jo9 JkF Jo)) Jk)) (Jb 2)))) (Jq JqC
  (JbM (UK (Jc (Jp UB (Jb 4) Jo) (Jc (Jp YF (Jp UB (Jb 4) Jo) (Jb 3)) Jk))))) (Vm (Yk (Jp JhW (Jb 3) Jo)) (JbM (UK (Jc (Jb 2) (Jc (Jb 3) Jk)))) Yu)))
  V4)) h
theorem Jfy:FnScope ["row"] ["row"] (Jg UU):=⟨rfl,rfl,rfl,by decide +kernel,rfl,by decide +kernel,by decide +kernel⟩
theorem Jfi{f:Addr}{fd:FuncData}(F:Fun K "gaps_of" "gaps_of" UU f fd)(qq:mg "sum"=none)(qO:mg "zip"=none)(T:RowC K C):FnOk P w K mg base CX0 1 f fd ["row"] (spE K C 1 Uv):=by
 refine F.ok Jfy (fun vs H Q E h=>JG h) (fun cdv A outer s H vs Q E hr h=>?_);have hu:=hr.units;refine⟨_,(Jh (JC (Yp (N':=["left","right"]) (imp:=[none,none]) rfl (JgG (K:=K) rfl rfl qO (Ja (YB (K:=K) rfl (pv 0) rfl) (Ja (Jd4 (JgZ (K:=K) rfl) (YB (K:=K) rfl (pv 0) rfl) (JgJ Jj) JgI) Je))) (JbQ rfl rfl) (fun _ _ _ _=>(JJ (K:=K) (n:=2) rfl rfl (Ji (Jl (i:=0) (show(["left","right"]:List Str).Nodup from by decide +kernel) rfl (.inl rfl) (.inr rfl)) (Ji (Jl (i:=1) (show(["left","right"]:List Str).Nodup from by decide +kernel) rfl (.inl rfl) (.inr rfl)) JK)) rfl rfl)) (fun _ _ _ _=>Yj) (fun _ _ _ _=>(Js Yi (Yt (JI (K:=K) rfl) (pv 1) Jj (fun _ _=>rfl)) (JD (UQ (K:=K) rfl rfl) rfl qq Za (Ja (pv 0) Je))))))),?_⟩
 exact JF (N:=["row"]) (J9 (Y8 (Jkc (Jc (U6 T (Jb 0)) (Jc (Jqu (U6 T (Jb 0)) (JjI Jo) JjH) Jk))) (YT (Ju (JT 0) (Ju (JT 1) YS)) rfl) Vj (Jp Y2 (Jp UB (Jb 1) Jo) (U5 Jbh (Jc (Jb 0) Jk))) rfl)) h
theorem JcI:FnScope ["row"] ["row"] (Jg Uj):=⟨rfl,rfl,rfl,by decide +kernel,rfl,by decide +kernel,by decide +kernel⟩
theorem Jcx{f:Addr}{fd:FuncData}(F:Fun K "closes_at" "closes_at" Uj f fd)(qE:mg "min"=none)(qP:Cal P w K mg base "gaps_of" 1 ["row"] (spE K C 1 Uv))(T:RowC K C):FnOk P w K mg base CX0 2 f fd ["row"] (spE K C 1 J4):=by
 refine F.ok JcI (fun vs H Q E h=>JG h) (fun cdv A outer s H vs Q E hr h=>?_);have hu:=hr.units;refine⟨_,(Jh (JC (JbA (JeR (K:=K) rfl rfl) rfl qE JbS (Ja (Js (JR (K:=K) rfl) (Yp (N':=["begin","length"]) (imp:=[none,none]) rfl (JS (K:=K) rfl (YB (K:=K) rfl (pv 0) rfl)) (JbQ rfl rfl) (fun _ _ _ _=>(JJ (K:=K) (n:=2) rfl rfl (Ji (Jl (i:=0) (show(["begin","length"]:List Str).Nodup from by decide +kernel) rfl (.inl rfl) (.inr rfl)) (Ji (Jl (i:=1) (show(["begin","length"]:List Str).Nodup from by decide +kernel) rfl (.inl rfl) (.inr rfl)) JK)) rfl rfl)) (fun _ _ _ _=>Yj) (fun _ _ _ _=>(pv 1))) (Jn qP (hr.mono (by decide)) rfl (Ja (pv 0) Je))) Je) U4))),?_⟩
 exact JF (N:=["row"]) (J9 (U5 JnD (Jc (Jp YF (Y8 (VR (U6 T (Jb 0))) (YT (Ju (JT 0) (Ju (JT 1) YS)) rfl) Vj (Jb 1) rfl) (Jz (Jc (Jb 0) Jk))) Jk))) h
theorem sc_thinned:FnScope ["row","layers","left","still","at_once"] ["row","layers"] (Jg UY):=⟨rfl,rfl,rfl,by decide +kernel,rfl,by decide +kernel,by decide +kernel⟩
theorem Jfm{f:Addr}{fd:FuncData}(F:Fun K "thinned" "thinned" UY f fd)(qE:mg "min"=none)(qu:CalM P w K mg base "Row" C 2 ["self","stretches"] (VL C K))(qG:Cal P w K mg base "closed_up" 1 ["pairs"] (spE K C 1 Yx))(qk:Cal P w K mg base "by_layers" 1 ["row","layers"] (spE K C 2 Yc))(qm:Cal P w K mg base "closes_at" 2 ["row"] (spE K C 1 J4))(T:RowC K C):FnOk P w K mg base CX0 4 f fd ["row","layers"] (spE K C 2 Yg):=by
 refine F.ok sc_thinned (fun vs H Q E h=>JG h) (fun cdv A outer s H vs Q E hr h=>?_);have hu:=hr.units;refine⟨_,(Jf (Jy (i:=2) sc_thinned.nd rfl (.inl rfl) (Vq qu (hr.mono (by decide)) rfl (Ja (YB (K:=K) rfl (pv 0) rfl) Je)))
  (Jf (Jy (i:=3) sc_thinned.nd rfl (.inl rfl) (pv 1))
  (Jf (Jd7 Q9 (PW.pt (Zn (JL Jaw (pv 3) Jj (J0 _)) (Wf (YD (K:=K) rfl (YB (K:=K) rfl (pv 2) rfl) (fun _=>rfl))))) (Jf (Jy (i:=4) sc_thinned.nd rfl (.inl rfl) (JD (Zb rfl) rfl qE JbS (Ja (pv 3) (Ja (Jn qm (hr.mono (by decide)) rfl (Ja (pv 2) Je)) Je))))
  (Jf (Jy (i:=2) sc_thinned.nd rfl (.inl rfl) (Vq qu (hr.mono (by decide)) rfl (Ja (Jn qG (hr.mono (by decide)) rfl (Ja (Jn qk (hr.mono (by decide)) rfl (Ja (pv 2) (Ja (JjN JfM (pv 4)) Je))) Je)) Je)))
  (Jh (Jfq (i:=3) sc_thinned.nd rfl (.inl rfl) (pv 4) JnX)))))
  (Jh (JC (pv 2)))))),?_⟩
 exact JF (N:=["row","layers","left","still","at_once"]) (Jq (JM (JbG (Jc (U6 T (Jb 0)) Jk)))
  (Jq (JM (Jb 1))
  (Jq (Jhe (JaE (Yk (Jp JhW (Jb 3) Jo)) (U7 (U6 T (Jb 2)))) (Jq (JM (U5 JiC (Jc (Jb 3) (Jc (Jz (Jc (Jb 2) Jk)) Jk))))
  (Jq (JM (JbG (Jc (Jz (Jc (Jz (Jc (Jb 2) (Jc (Jo9 JkF (Jb 4)) Jk))) Jk)) Jk)))
  (JkL (Jb 4)))))
  V4))) h
theorem Jfx:FnScope ["row","place"] ["row","place"] (Jg UT):=⟨rfl,rfl,rfl,by decide +kernel,rfl,by decide +kernel,by decide +kernel⟩
theorem Jfh{f:Addr}{fd:FuncData}(F:Fun K "ball_at" "ball_at" UT f fd)(wf:mg "any"=none)(T:RowC K C):FnOk P w K mg base CX0 1 f fd ["row","place"] (spE K C 2 Ud):=by
 refine F.ok Jfx (fun vs H Q E h=>JG h) (fun cdv A outer s H vs Q E hr h=>?_);have hu:=hr.units;refine⟨_,(Jh (JC (JD (Jhi (K:=K) rfl rfl) rfl wf JnA (Ja (Yp (N':=["begin","length","place"]) (imp:=[none,none,some 1]) rfl (JS (K:=K) rfl (YB (K:=K) rfl (pv 0) rfl)) (Jc3 (own:=["begin","length"]) (fr:=[("place",1)]) rfl rfl rfl ⟨rfl,trivial⟩ rfl ⟨⟨rfl,rfl,rfl⟩,trivial⟩) (fun _ _ _ _=>(JJ (K:=K) (n:=2) rfl rfl (Ji (Jl (i:=0) (show(["begin","length","place"]:List Str).Nodup from by decide +kernel) rfl (.inl rfl) (.inr rfl)) (Ji (Jl (i:=1) (show(["begin","length","place"]:List Str).Nodup from by decide +kernel) rfl (.inl rfl) (.inr rfl)) JK)) rfl rfl)) (fun _ _ _ _=>Yj) (fun _ _ _ _=>(JjJ Jnh Jax (pv 0) (pv 2) (Js (JR (K:=K) rfl) (pv 0) (pv 1))))) Je)))),?_⟩
 exact JF (N:=["row","place"]) (J9 (U5 JpF (Jc (Y8 (VR (U6 T (Jb 0))) (YT (Ju (JT 0) (Ju (JT 1) YS)) rfl) Vj (Jmt JqM JhX (Jb 0) (Jb 2) (Jp YF (Jb 0) (Jb 1))) rfl) Jk))) h
theorem Jfz:FnScope ["left","spot"] ["left","spot"] (Jg UV):=⟨rfl,rfl,rfl,by decide +kernel,rfl,by decide +kernel,by decide +kernel⟩
theorem Jfj{f:Addr}{fd:FuncData}(F:Fun K "owed_at" "owed_at" UV f fd)(qI:Cal P w K mg base "ball_at" 1 ["row","place"] (spE K C 2 Ud)):FnOk P w K mg base CX0 2 f fd ["left","spot"] (spE K C 2 Uw):=by refine F.ok Jfz (fun vs H Q E h=>JG h) (fun cdv A outer s H vs Q E hr h=>?_);have hu:=hr.units;refine⟨_,(Jh (JC (Jd2 (PW.pt (Zn (YD (K:=K) rfl (Jn qI (hr.mono (by decide)) rfl (Ja (pv 0) (Ja (Js Yi (pv 1) Jj) Je))) (fun _=>rfl)) (Wf (VW (YD (K:=K) rfl (Jn qI (hr.mono (by decide)) rfl (Ja (pv 0) (Ja (pv 1) Je))) (fun _=>rfl)))))) Jj Jj))),?_⟩;exact JF (N:=["left","spot"]) (J9 (Jnn (JaE (U7 (Jz (Jc (Jb 0) (Jc (Jp Y2 (Jb 1) Jo) Jk)))) (V1 (U7 (Jz (Jc (Jb 0) (Jc (Jb 1) Jk)))))) Jo Jo)) h
theorem sc_struck:FnScope ["row","left","pairs","ahead","stretch","spot"] ["row"] (Jg Vv):=⟨rfl,rfl,rfl,by decide +kernel,rfl,by decide +kernel,by decide +kernel⟩
theorem Jh2{f:Addr}{fd:FuncData}(F:Fun K "struck" "struck" Vv f fd)(qe:mg "enumerate"=none)(qq:mg "sum"=none)(qQ:Cal P w K mg base "owed_at" 2 ["left","spot"] (spE K C 2 Uw))(qr:Cal P w K mg base "thinned" 4 ["row","layers"] (spE K C 2 Yg))(T:RowC K C):FnOk P w K mg base CX0 5 f fd ["row"] (spE K C 1 Uz):=by
 refine F.ok sc_struck (fun vs H Q E h=>JG h) (fun cdv A outer s H vs Q E hr h=>?_);have hu:=hr.units;refine⟨_,(Jf (Jy (i:=1) sc_struck.nd rfl (.inr rfl) (Jn qr (hr.mono (by decide)) rfl (Ja (pv 0) (Ja Jj Je))))
  (Jf (Jy (i:=2) sc_struck.nd rfl (.inl rfl) Jaz)
  (Jf (Y4 Q9 rfl (JaB (K:=K) rfl rfl qe (Ja (YB (K:=K) rfl (pv 0) rfl) Je)) (JJ (K:=K) (n:=2) rfl rfl (Ji (Jl (i:=3) sc_struck.nd rfl (.inl rfl)) (Ji (Jl (i:=4) sc_struck.nd rfl (.inl rfl)) JK)) rfl rfl) (Jf (Jy (i:=5) sc_struck.nd rfl (.inl rfl) (Js Yi (Js Yi (JD (UQ (K:=K) rfl rfl) rfl qq Za (Ja (pv 4) Je)) Jj) (Js VI Jj (pv 3))))
  (Jh (JgL (Jdr hr) (pv 2) (pv 5) (Js (JR (K:=K) rfl) (Jd1 (Jdr hr) (pv 2) (pv 5) Jj ⟨rfl,rfl,rfl,rfl⟩) Jj) rfl))))
  (Jh (Jmd 2 (JC (Yp (N':=["spot","number","left"]) (imp:=[none,none,some 1]) rfl (JjO (pv 2)) (Jc3 (own:=["spot","number"]) (fr:=[("left",1)]) rfl rfl rfl ⟨rfl,trivial⟩ rfl ⟨⟨rfl,rfl,rfl⟩,trivial⟩) (fun _ _ _ _=>(JJ (K:=K) (n:=2) rfl rfl (Ji (Jl (i:=0) (show(["spot","number","left"]:List Str).Nodup from by decide +kernel) rfl (.inl rfl) (.inr rfl)) (Ji (Jl (i:=1) (show(["spot","number","left"]:List Str).Nodup from by decide +kernel) rfl (.inl rfl) (.inr rfl)) JK)) rfl rfl)) (fun _ _ _ _=>Yj) (fun _ _ _ _=>(YQ (Ja (pv 0) (Ja (pv 1) (Ja (Jn qQ (hr.mono (by decide)) rfl (Ja (pv 2) (Ja (pv 0) Je))) Je)))))))))))),?_⟩
 exact JF (N:=["row","left","pairs","ahead","stretch","spot"]) (Jq (JM (Jz (Jc (Jb 0) (Jc Jo Jk))))
  (Jq (V5 Jfw)
  (Jq (Vc (JcG (Jc (U6 T (Jb 0)) Jk)) (YT (Ju (JT 3) (Ju (JT 4) YS)) rfl) (Jq (JM (Jp Y2 (Jp Y2 (U5 Jbh (Jc (Jb 4) Jk)) Jo) (Jp WV Jo (Jb 3))))
  (JkM (Jp YF (JgV (Jb 2) (Jb 5) Jo) Jo) (Jb 5))))
  (Jpt 2 (J9 (Y8 (Jkb (Jb 2)) (YT (Ju (JT 0) (Ju (JT 1) YS)) rfl) Vj (UK (Jc (Jb 0) (Jc (Jb 1) (Jc (Jz (Jc (Jb 2) (Jc (Jb 0) Jk))) Jk)))) rfl)))))) h
theorem sc_table_of:FnScope ["row","table","left","size","layers"] ["row"] (Jg UH):=⟨rfl,rfl,rfl,by decide +kernel,rfl,by decide +kernel,by decide +kernel⟩
theorem Jd0{f:Addr}{fd:FuncData}(F:Fun K "table_of" "table_of" UH f fd)(qr:Cal P w K mg base "thinned" 4 ["row","layers"] (spE K C 2 Yg))(qX:Cal P w K mg base "struck" 5 ["row"] (spE K C 1 Uz))(qm:Cal P w K mg base "closes_at" 2 ["row"] (spE K C 1 J4))(T:RowC K C):FnOk P w K mg base CX0 6 f fd ["row"] (spE K C 1 Ye):=by
 refine F.ok sc_table_of (fun vs H Q E h=>JG h) (fun cdv A outer s H vs Q E hr h=>?_);have hu:=hr.units;refine⟨_,(Jf (Jy (i:=1) sc_table_of.nd rfl (.inl rfl) (Uq Je))
  (Jf (Jy (i:=2) sc_table_of.nd rfl (.inl rfl) (pv 0))
  (Jf (Jy (i:=3) sc_table_of.nd rfl (.inr rfl) Jj)
  (Jf (Jd7 Q9 (YD (K:=K) rfl (YB (K:=K) rfl (pv 2) rfl) (fun _=>rfl)) (Jf (Jy (i:=4) sc_table_of.nd rfl (.inl rfl) (Jn qm (hr.mono (by decide)) rfl (Ja (pv 2) Je)))
  (Jf (Jfq (i:=3) sc_table_of.nd rfl (.inr rfl) (pv 4) Jjf)
  (Jf (Jy (i:=2) sc_table_of.nd rfl (.inl rfl) (Jn qr (hr.mono (by decide)) rfl (Ja (pv 2) (Ja (Js Yi (pv 4) Jj) Je))))
  (Jf (YC (U3 (K:=K) rfl QY Lu Lv Zk (pv 1) (Ja (Yp (N':=["spot","pairs","owed","size"]) (imp:=[none,none,none,some 3]) rfl (JS (K:=K) rfl (Jn qX (hr.mono (by decide)) rfl (Ja (pv 2) Je))) (Jc3 (own:=["spot","pairs","owed"]) (fr:=[("size",3)]) rfl rfl rfl ⟨rfl,trivial⟩ rfl ⟨⟨rfl,rfl,rfl⟩,trivial⟩) (fun _ _ _ _=>(JJ (K:=K) (n:=3) rfl rfl (Ji (Jl (i:=0) (show(["spot","pairs","owed","size"]:List Str).Nodup from by decide +kernel) rfl (.inl rfl) (.inr rfl)) (Ji (Jl (i:=1) (show(["spot","pairs","owed","size"]:List Str).Nodup from by decide +kernel) rfl (.inl rfl) (.inr rfl)) (Ji (Jl (i:=2) (show(["spot","pairs","owed","size"]:List Str).Nodup from by decide +kernel) rfl (.inl rfl) (.inr rfl)) JK))) rfl rfl)) (fun _ _ _ _=>(Jd6 (JL Jaw (pv 1) (pv 2) (J0 _)))) (fun _ _ _ _=>(YQ (Ja (pv 3) (Ja (pv 0) (Ja (Js Yi (pv 1) (pv 2)) Je)))))) Je)))
  (Jh (Jy (i:=2) sc_table_of.nd rfl (.inl rfl) (Jn qr (hr.mono (by decide)) rfl (Ja (pv 2) (Ja Jj Je))))))))))
  (Jh (JC (pv 1))))))),?_⟩
 exact JF (N:=["row","table","left","size","layers"]) (Jq (V5 (Vs Jk))
  (Jq (JM (Jb 0))
  (Jq (JM Jo)
  (Jq (Jhe (U7 (U6 T (Jb 2))) (Jq (JM (Jz (Jc (Jb 2) Jk)))
  (Jq (JkL (Jb 4))
  (Jq (JM (Jz (Jc (Jb 2) (Jc (Jp Y2 (Jb 4) Jo) Jk))))
  (Jq (JkN (Y8 (VR (Jz (Jc (Jb 2) Jk))) (YT (Ju (JT 0) (Ju (JT 1) (Ju (JT 2) YS))) rfl) (Yk (Jp JhW (Jb 1) (Jb 2))) (UK (Jc (Jb 3) (Jc (Jb 0) (Jc (Jp Y2 (Jb 1) (Jb 2)) Jk)))) rfl))
  (JM (Jz (Jc (Jb 2) (Jc Jo Jk)))))))))
  V4)))) h
theorem Jkd:FnScope ["row","seats","times"] ["row","seats","times"] (Jg Wg):=⟨rfl,rfl,rfl,by decide +kernel,rfl,by decide +kernel,by decide +kernel⟩
theorem JjD{f:Addr}{fd:FuncData}(F:Fun K "after" "after" Wg f fd)(qY:Cal P w K mg base "row_of" 5 ["table"] (spE K C 1 UR))(qR:Cal P w K mg base "shifted" 2 ["table","seats","times"] (spE K C 3 Uy))(qg:Cal P w K mg base "table_of" 6 ["row"] (spE K C 1 Ye)):FnOk P w K mg base CX0 7 f fd ["row","seats","times"] (spE K C 3 YY):=by refine F.ok Jkd (fun vs H Q E h=>JG h) (fun cdv A outer s H vs Q E hr h=>?_);have hu:=hr.units;refine⟨_,(Jh (JC (Jn qY (hr.mono (by decide)) rfl (Ja (Jn qR (hr.mono (by decide)) rfl (Ja (Jn qg (hr.mono (by decide)) rfl (Ja (pv 0) Je)) (Ja (pv 1) (Ja (pv 2) Je)))) Je)))),?_⟩;exact JF (N:=["row","seats","times"]) (J9 (Jz (Jc (Jz (Jc (Jz (Jc (Jb 0) Jk)) (Jc (Jb 1) (Jc (Jb 2) Jk)))) Jk))) h
theorem sc_law_stands:FnScope ["row","lines","times","told"] ["row","lines","times"] (Jg Y6):=⟨rfl,rfl,rfl,by decide +kernel,rfl,by decide +kernel,by decide +kernel⟩
theorem JaW{f:Addr}{fd:FuncData}(F:Fun K "_law_stands" "_law_stands" Y6 f fd)(qj:mg "tuple"=none)(qf:Cal P w K mg base "_law_settled" 1 ["row"] (spE K C 1 JX))(qJ:Cal P w K mg base "after" 7 ["row","seats","times"] (spE K C 3 YY))(T:RowC K C):FnOk P w K mg base CX0 8 f fd ["row","lines","times"] (spE K C 3 JV):=by
 refine F.ok sc_law_stands (fun vs H Q E h=>JG h) (fun cdv A outer s H vs Q E hr h=>?_);have hu:=hr.units;refine⟨_,(Jf (Jy (i:=3) sc_law_stands.nd rfl (.inl rfl) (YB (K:=K) rfl (Jn qJ (hr.mono (by decide)) rfl (Ja (pv 0) (Ja U4 (Ja (pv 2) Je)))) rfl))
  (Jf (YV (JL (Zl (K:=K) rfl hu) (pv 3) (US (VU (K:=K) rfl) rfl qj WJ (Ja (Yp (N':=["size","begin","times"]) (imp:=[none,none,some 2]) rfl (JS (K:=K) rfl (pv 1)) (Jc3 (own:=["size","begin"]) (fr:=[("times",2)]) rfl rfl rfl ⟨rfl,trivial⟩ rfl ⟨⟨rfl,rfl,rfl⟩,trivial⟩) (fun _ _ _ _=>(JJ (K:=K) (n:=2) rfl rfl (Ji (Jl (i:=0) (show(["size","begin","times"]:List Str).Nodup from by decide +kernel) rfl (.inl rfl) (.inr rfl)) (Ji (Jl (i:=1) (show(["size","begin","times"]:List Str).Nodup from by decide +kernel) rfl (.inl rfl) (.inr rfl)) JK)) rfl rfl)) (fun _ _ _ _=>Yj) (fun _ _ _ _=>(YQ (Ja (Js (JR (K:=K) rfl) (pv 1) (Js JgE (pv 0) (pv 2))) (Ja (pv 0) Je))))) Je)) (J0 _)) (Jh (JC U2)) JY)
  (Jh (JC (Jn qf (hr.mono (by decide)) rfl (Ja (pv 3) Je)))))),?_⟩
 exact JF (N:=["row","lines","times","told"]) (Jq (JM (U6 T (Jz (Jc (Jb 0) (Jc JaD (Jc (Jb 2) Jk))))))
  (Jq (Vm (Yk (Jp JhY (Jb 3) (U5 JfY (Jc (Y8 (VR (Jb 1)) (YT (Ju (JT 0) (Ju (JT 1) YS)) rfl) Vj (UK (Jc (Jp YF (Jb 1) (Jp JjB (Jb 0) (Jb 2))) (Jc (Jb 0) Jk))) rfl) Jk)))) (J9 WA) Yu)
  (J9 (Jz (Jc (Jb 3) Jk))))) h
theorem JaY:FnScope ["lines"] ["lines"] (Jg Y7):=⟨rfl,rfl,rfl,by decide +kernel,rfl,by decide +kernel,by decide +kernel⟩
theorem JaX{f:Addr}{fd:FuncData}(F:Fun K "neighbours" "neighbours" Y7 f fd)(qO:mg "zip"=none):FnOk P w K mg base CX0 1 f fd ["lines"] (spE K C 1 YH):=by
 refine F.ok JaY (fun vs H Q E h=>JG h) (fun cdv A outer s H vs Q E hr h=>?_);have hu:=hr.units;refine⟨_,(Jh (JC (Yp (N':=["left","right"]) (imp:=[none,none]) rfl (JgG (K:=K) rfl rfl qO (Ja (pv 0) (Ja (Jd4 (JgZ (K:=K) rfl) (pv 0) (JgJ Jj) JgI) Je))) (JbQ rfl rfl) (fun _ _ _ _=>(JJ (K:=K) (n:=2) rfl rfl (Ji (Jl (i:=0) (show(["left","right"]:List Str).Nodup from by decide +kernel) rfl (.inl rfl) (.inr rfl)) (Ji (Jl (i:=1) (show(["left","right"]:List Str).Nodup from by decide +kernel) rfl (.inl rfl) (.inr rfl)) JK)) rfl rfl)) (fun _ _ _ _=>(Jd6 (JL (Zl (K:=K) rfl hu) (Yt (JI (K:=K) rfl) (pv 0) Jj (fun _ _=>rfl)) (Yt (JI (K:=K) rfl) (pv 1) Jj (fun _ _=>rfl)) (J0 _)))) (fun _ _ _ _=>(YQ (Ja (pv 0) (Ja (pv 1) Je))))))),?_⟩
 exact JF (N:=["lines"]) (J9 (Y8 (Jkc (Jc (Jb 0) (Jc (Jqu (Jb 0) (JjI Jo) JjH) Jk))) (YT (Ju (JT 0) (Ju (JT 1) YS)) rfl) (Yk (Jp JhY (Jp UB (Jb 0) Jo) (Jp UB (Jb 1) Jo))) (UK (Jc (Jb 0) (Jc (Jb 1) Jk))) rfl)) h
theorem sc_lumps_apart:FnScope ["row","lumps","size","spot","number"] ["row"] (Jg YN):=⟨rfl,rfl,rfl,by decide +kernel,rfl,by decide +kernel,by decide +kernel⟩
theorem Jav{f:Addr}{fd:FuncData}(F:Fun K "lumps_apart" "lumps_apart" YN f fd)(qg:Cal P w K mg base "table_of" 6 ["row"] (spE K C 1 Ye)):FnOk P w K mg base CX0 7 f fd ["row"] (spE K C 1 Ys):=by
 refine F.ok sc_lumps_apart (fun vs H Q E h=>JG h) (fun cdv A outer s H vs Q E hr h=>?_);have hu:=hr.units;refine⟨_,(Jf (Jy (i:=1) sc_lumps_apart.nd rfl (.inl rfl) (Uq Je))
  (Jf (Y4 Q9 rfl (JS (K:=K) rfl (Jn qg (hr.mono (by decide)) rfl (Ja (pv 0) Je))) (JJ (K:=K) (n:=3) rfl rfl (Ji (Jl (i:=2) sc_lumps_apart.nd rfl (.inl rfl)) (Ji (Jl (i:=3) sc_lumps_apart.nd rfl (.inl rfl)) (Ji (Jl (i:=4) sc_lumps_apart.nd rfl (.inl rfl)) JK))) rfl rfl) (Jh (YC (U3 (K:=K) rfl QY Lu Lv Zk (pv 1) (Ja (Js JjG (Uq (Ja (YQ (Ja (pv 2) (Ja (pv 3) Je))) Je)) (pv 4)) Je)))))
  (Jh (JC (pv 1))))),?_⟩
 exact JF (N:=["row","lumps","size","spot","number"]) (Jq (V5 (Vs Jk))
  (Jq (Vc (VR (Jz (Jc (Jb 0) Jk))) (YT (Ju (JT 2) (Ju (JT 3) (Ju (JT 4) YS))) rfl) (JkN (Jp Jng (Vs (Jc (UK (Jc (Jb 2) (Jc (Jb 3) Jk))) Jk)) (Jb 4))))
  V4)) h
theorem sc_far_lines:FnScope ["row","lines","left","size","spot"] ["row"] (Jg Uk):=⟨rfl,rfl,rfl,by decide +kernel,rfl,by decide +kernel,by decide +kernel⟩
theorem Jcy{f:Addr}{fd:FuncData}(F:Fun K "far_lines" "far_lines" Uk f fd)(qz:Cal P w K mg base "lumps_apart" 7 ["row"] (spE K C 1 Ys)):FnOk P w K mg base CX0 8 f fd ["row"] (spE K C 1 JW):=by
 refine F.ok sc_far_lines (fun vs H Q E h=>JG h) (fun cdv A outer s H vs Q E hr h=>?_);have hu:=hr.units;refine⟨_,(Jf (Jy (i:=1) sc_far_lines.nd rfl (.inl rfl) (Uq Je))
  (Jf (Jy (i:=2) sc_far_lines.nd rfl (.inl rfl) Jj)
  (Jf (Y4 Q9 rfl (JS (K:=K) rfl (Jn qz (hr.mono (by decide)) rfl (Ja (pv 0) Je))) (JJ (K:=K) (n:=2) rfl rfl (Ji (Jl (i:=3) sc_far_lines.nd rfl (.inl rfl)) (Ji (Jl (i:=4) sc_far_lines.nd rfl (.inl rfl)) JK)) rfl rfl) (Jf (YC (U3 (K:=K) rfl QY GH GI UA (pv 1) (Ja (YQ (Ja (pv 3) (Ja (Js (JR (K:=K) rfl) (pv 4) (Js VI Jj (pv 2))) Je))) Je)))
  (Jh (Jfq (i:=2) sc_far_lines.nd rfl (.inl rfl) (pv 3) Jjf))))
  (Jh (JC (pv 1)))))),?_⟩
 exact JF (N:=["row","lines","left","size","spot"]) (Jq (V5 (Vs Jk))
  (Jq (JM Jo)
  (Jq (Vc (VR (Jz (Jc (Jb 0) Jk))) (YT (Ju (JT 3) (Ju (JT 4) YS)) rfl) (Jq (JbM (UK (Jc (Jb 3) (Jc (Jp YF (Jb 4) (Jp WV Jo (Jb 2))) Jk))))
  (JkL (Jb 3))))
  V4))) h
theorem sc_settles:FnScope ["row","pairs"] ["row"] (Jg UW):=⟨rfl,rfl,rfl,by decide +kernel,rfl,by decide +kernel,by decide +kernel⟩
theorem Jfk{f:Addr}{fd:FuncData}(F:Fun K "settles" "settles" UW f fd)(qZ:mg "max"=none)(qB:Cal P w K mg base "neighbours" 1 ["lines"] (spE K C 1 YH))(qi:Cal P w K mg base "far_lines" 8 ["row"] (spE K C 1 JW)):FnOk P w K mg base CX0 9 f fd ["row"] (spE K C 1 Ue):=by
 refine F.ok sc_settles (fun vs H Q E h=>JG h) (fun cdv A outer s H vs Q E hr h=>?_);have hu:=hr.units;refine⟨_,(Jf (Jy (i:=1) sc_settles.nd rfl (.inl rfl) (Jn qB (hr.mono (by decide)) rfl (Ja (Jn qi (hr.mono (by decide)) rfl (Ja (pv 0) Je)) Je)))
  (Jh (JC (JbA (JeQ (K:=K) rfl rfl) rfl qZ Jiz (Ja (Yp (N':=["left","right"]) (imp:=[none,none]) rfl (JS (K:=K) rfl (pv 1)) (JbQ rfl rfl) (fun _ _ _ _=>(JJ (K:=K) (n:=2) rfl rfl (Ji (Jl (i:=0) (show(["left","right"]:List Str).Nodup from by decide +kernel) rfl (.inl rfl) (.inr rfl)) (Ji (Jl (i:=1) (show(["left","right"]:List Str).Nodup from by decide +kernel) rfl (.inl rfl) (.inr rfl)) JK)) rfl rfl)) (fun _ _ _ _=>Yj) (fun _ _ _ _=>(JjN JfM (Js JjF (Js Yi (Js Yi (Yt (JI (K:=K) rfl) (pv 1) Jj (fun _ _=>rfl)) (Yt (JI (K:=K) rfl) (pv 0) Jj (fun _ _=>rfl))) (Js VI Jj (Yt (JI (K:=K) rfl) (pv 0) Jj (fun _ _=>rfl)))) (Js Yi (Yt (JI (K:=K) rfl) (pv 1) Jj (fun _ _=>rfl)) (Yt (JI (K:=K) rfl) (pv 0) Jj (fun _ _=>rfl))))))) Je) U4)))),?_⟩
 exact JF (N:=["row","pairs"]) (Jq (JM (Jz (Jc (Jz (Jc (Jb 0) Jk)) Jk)))
  (J9 (U5 JnC (Jc (Y8 (VR (Jb 1)) (YT (Ju (JT 0) (Ju (JT 1) YS)) rfl) Vj (Jo9 JkF (Jp Jon (Jp Y2 (Jp Y2 (Jp UB (Jb 1) Jo) (Jp UB (Jb 0) Jo)) (Jp WV Jo (Jp UB (Jb 0) Jo))) (Jp Y2 (Jp UB (Jb 1) Jo) (Jp UB (Jb 0) Jo)))) rfl) Jk)))) h
theorem sc_lumps_of:FnScope ["row","numbers","size","spot","number"] ["row"] (Jg UF):=⟨rfl,rfl,rfl,by decide +kernel,rfl,by decide +kernel,by decide +kernel⟩
theorem JdY{f:Addr}{fd:FuncData}(F:Fun K "lumps_of" "lumps_of" UF f fd)(qx:mg "list"=none)(qg:Cal P w K mg base "table_of" 6 ["row"] (spE K C 1 Ye)):FnOk P w K mg base CX0 7 f fd ["row"] (spE K C 1 YZ):=by
 refine F.ok sc_lumps_of (fun vs H Q E h=>JG h) (fun cdv A outer s H vs Q E hr h=>?_);have hu:=hr.units;refine⟨_,(Jf (Jy (i:=1) sc_lumps_of.nd rfl (.inl rfl) Jaz)
  (Jf (Y4 Q9 rfl (JS (K:=K) rfl (Jn qg (hr.mono (by decide)) rfl (Ja (pv 0) Je))) (JJ (K:=K) (n:=3) rfl rfl (Ji (Jl (i:=2) sc_lumps_of.nd rfl (.inl rfl)) (Ji (Jl (i:=3) sc_lumps_of.nd rfl (.inl rfl)) (Ji (Jl (i:=4) sc_lumps_of.nd rfl (.inl rfl)) JK))) rfl rfl) (Jh (JgL (Jdr hr) (pv 1) (pv 2) (Js (JR (K:=K) rfl) (Jd1 (Jdr hr) (pv 1) (pv 2) Jj ⟨rfl,rfl,rfl,rfl⟩) (pv 4)) rfl)))
  (Jh (JC (US (JeO rfl) rfl qx ZF (Ja (JjL (pv 1)) Je)))))),?_⟩
 exact JF (N:=["row","numbers","size","spot","number"]) (Jq (V5 Jfw)
  (Jq (Vc (VR (Jz (Jc (Jb 0) Jk))) (YT (Ju (JT 2) (Ju (JT 3) (Ju (JT 4) YS))) rfl) (JkM (Jp YF (JgV (Jb 1) (Jb 2) Jo) (Jb 4)) (Jb 2)))
  (J9 (Jmu (Jb 1))))) h
theorem sc_law_lines:FnScope ["found","many","pair","part"] ["found","many"] (Jg Um):=⟨rfl,rfl,rfl,by decide +kernel,rfl,by decide +kernel,by decide +kernel⟩
theorem JcA{f:Addr}{fd:FuncData}(F:Fun K "_law_lines" "_law_lines" Um f fd)(qa:mg "isinstance"=none)(qS:mg "bool"=none)(q5:mg "int"=none)(qo:mg "len"=none)(qj:mg "tuple"=none)(qx:mg "list"=none):FnOk P w K mg base CX0 1 f fd ["found","many"] (spE K C 2 Yy):=by
 refine F.ok sc_law_lines (fun vs H Q E h=>JG h) (fun cdv A outer s H vs Q E hr h=>?_);have hu:=hr.units;refine⟨_,(Jf (YV (PW.pt (JbD (VW (YD (K:=K) rfl (JD (UP (K:=K) rfl) rfl qa YG (Ja (pv 0) (Ja (We (v:=V.ty "list") rfl qx ZF rfl) Je))) (fun _=>rfl))) (Zo (JL (Zl (K:=K) rfl hu) (JD (Ut (K:=K) rfl) rfl qo Ws (Ja (pv 0) Je)) (pv 1) (J0 _))))) (Jh (JC U2)) JY)
  (Jf (Y4 Q9 rfl (JS (K:=K) rfl (pv 0)) (Jl (i:=2) sc_law_lines.nd rfl (.inl rfl)) (Jf (YV (PW.pt (JbD (VW (YD (K:=K) rfl (JD (UP (K:=K) rfl) rfl qa YG (Ja (pv 2) (Ja (We (v:=V.ty "tuple") rfl qj WJ rfl) Je))) (fun _=>rfl))) (Zo (JL (Zl (K:=K) rfl hu) (JD (Ut (K:=K) rfl) rfl qo Ws (Ja (pv 2) Je)) Jj (J0 _))))) (Jh (JC U2)) JY)
  (Jh (Y4 Q9 rfl (JS (K:=K) rfl (pv 2)) (Jl (i:=3) sc_law_lines.nd rfl (.inl rfl)) (Jh (YV (PW.pt (JbD (VW (YD (K:=K) rfl (JD (UP (K:=K) rfl) rfl qa YG (Ja (pv 3) (Ja (We (v:=V.ty "int") rfl q5 Jiy rfl) Je))) (fun _=>rfl))) (Zo (YD (K:=K) rfl (JD (UP (K:=K) rfl) rfl qa YG (Ja (pv 3) (Ja (We (v:=V.ty "bool") rfl qS JfW rfl) Je))) (fun _=>rfl))))) (Jh (JC U2)) JY))))))
  (Jh (JC U2)))),?_⟩
 exact JF (N:=["found","many","pair","part"]) (Jq (Vm (JbH (V1 (U7 (JbF Jjk (Jb 0)))) (Yk (Jp JhY (U5 Jbg (Jc (Jb 0) Jk)) (Jb 1)))) (J9 WA) Yu)
  (Jq (Vc (Jib 0) (JT 2) (Jq (Vm (JbH (V1 (U7 (JbF JhM (Jb 2)))) (Yk (Jp JhY (U5 Jbg (Jc (Jb 2) Jk)) Jo))) (J9 WA) Yu)
  (Vc (Jib 2) (JT 3) (Vm (JbH (V1 (U7 (JbF Jgp (Jb 3)))) (U7 (JbF JdC (Jb 3)))) (J9 WA) Yu))))
  (J9 WA))) h
theorem sc_law_drawn:FnScope ["script","first","many","span","at","row","k","length"] ["script","first","many","span"] (Jg Ul):=⟨rfl,rfl,rfl,by decide +kernel,rfl,by decide +kernel,by decide +kernel⟩
theorem Jcz{f:Addr}{fd:FuncData}(F:Fun K "_law_drawn" "_law_drawn" Ul f fd)(qH:mg "range"=none)(qb:Cal P w K mg base "_law_cell" 1 ["script","k"] (spE K C 2 JH)):FnOk P w K mg base CX0 2 f fd ["script","first","many","span"] (spE K C 4 Yd):=by
 refine F.ok sc_law_drawn (fun vs H Q E h=>JG h) (fun cdv A outer s H vs Q E hr h=>?_);have hu:=hr.units;refine⟨_,(Jf (Jy (i:=4) sc_law_drawn.nd rfl (.inl rfl) (Js Yi (Js Wz (Jn qb (hr.mono (by decide)) rfl (Ja (pv 0) (Ja (pv 1) Je))) (Js (JR (K:=K) rfl) (Js VI Jj (pv 3)) Jj)) (pv 3)))
  (Jf (Jy (i:=5) sc_law_drawn.nd rfl (.inl rfl) (Uq Je))
  (Jf (Y4 Q9 rfl (Jh3 rfl qH (Ja (pv 2) Je)) (Jl (i:=6) sc_law_drawn.nd rfl (.inl rfl)) (Jf (Jy (i:=7) sc_law_drawn.nd rfl (.inl rfl) (Js (JR (K:=K) rfl) Jj (Js Wz (Jn qb (hr.mono (by decide)) rfl (Ja (pv 0) (Ja (Js (JR (K:=K) rfl) (Js (JR (K:=K) rfl) (pv 1) Jj) (Js VI Jj (pv 6))) Je))) (pv 3))))
  (Jf (YC (U3 (K:=K) rfl QY GH GI UA (pv 5) (Ja (YQ (Ja (pv 4) (Ja (pv 7) Je))) Je)))
  (Jh (Jy (i:=4) sc_law_drawn.nd rfl (.inl rfl) (Js (JR (K:=K) rfl) (Js (JR (K:=K) rfl) (Js (JR (K:=K) rfl) (pv 4) (pv 7)) Jj) (Js Wz (Jn qb (hr.mono (by decide)) rfl (Ja (pv 0) (Ja (Js (JR (K:=K) rfl) (Js (JR (K:=K) rfl) (pv 1) Jj) (Js VI Jj (pv 6))) Je))) (pv 3))))))))
  (Jh (JC (pv 5)))))),?_⟩
 exact JF (N:=["script","first","many","span","at","row","k","length"]) (Jq (JM (Jp Y2 (Jp Jaq (Jz (Jc (Jb 0) (Jc (Jb 1) Jk))) (Jp YF (Jp WV Jo (Jb 3)) Jo)) (Jb 3)))
  (Jq (V5 (Vs Jk))
  (Jq (Vc (Jqs (Jc (Jb 2) Jk)) (JT 6) (Jq (JM (Jp YF Jo (Jp Jaq (Jz (Jc (Jb 0) (Jc (Jp YF (Jp YF (Jb 1) Jo) (Jp WV Jo (Jb 6))) Jk))) (Jb 3))))
  (Jq (JbM (UK (Jc (Jb 4) (Jc (Jb 7) Jk))))
  (JM (Jp YF (Jp YF (Jp YF (Jb 4) (Jb 7)) Jo) (Jp Jaq (Jz (Jc (Jb 0) (Jc (Jp YF (Jp YF (Jb 1) Jo) (Jp WV Jo (Jb 6))) Jk))) (Jb 3)))))))
  V4))) h
theorem sc_law:FnScope ["script","lead","drawn","row","spent","lines","sizes","from_here","far","times","more"] ["script"] (Jg WY):=⟨rfl,rfl,rfl,by decide +kernel,rfl,by decide +kernel,by decide +kernel⟩
theorem Jor{f:Addr}{fd:FuncData}(F:Fun K "law" "law" WY f fd)(qj:mg "tuple"=none)(qa:mg "isinstance"=none)(qS:mg "bool"=none)(q5:mg "int"=none)(qv:mg "sorted"=none)(wg:mg "set"=none)(qo:mg "len"=none)(qb:Cal P w K mg base "_law_cell" 1 ["script","k"] (spE K C 2 JH))(qt:Cal P w K mg base "_law_stands" 8 ["row","lines","times"] (spE K C 3 JV))(qf:Cal P w K mg base "_law_settled" 1 ["row"] (spE K C 1 JX))(qJ:Cal P w K mg base "after" 7 ["row","seats","times"] (spE K C 3 YY))(qT:Cal P w K mg base "settles" 9 ["row"] (spE K C 1 Ue))(qN:Cal P w K mg base "lumps_of" 7 ["row"] (spE K C 1 YZ))(qC:Cal P w K mg base "_law_lines" 1 ["found","many"] (spE K C 2 Yy))(qi:Cal P w K mg base "far_lines" 8 ["row"] (spE K C 1 JW))(qu:CalM P w K mg base "Row" C 2 ["self","stretches"] (VL C K))(qD:Cal P w K mg base "_law_drawn" 2 ["script","first","many","span"] (spE K C 4 Yd))(T:RowC K C):FnOk P w K mg base CX0 10 f fd ["script"] (spE K C 1 JeZ):=by
 refine F.ok sc_law (fun vs H Q E h=>JG h) (fun cdv A outer s H vs Q E hr h=>?_);have hu:=hr.units;refine⟨_,(Jf (Jy (i:=1) sc_law.nd rfl (.inl rfl) (Jn qb (hr.mono (by decide)) rfl (Ja (pv 0) (Ja Jj Je))))
  (Jf (Jy (i:=2) sc_law.nd rfl (.inl rfl) (Jn qD (hr.mono (by decide)) rfl (Ja (pv 0) (Ja Jj (Ja (Js Wz (pv 1) Jj) (Ja (Yt (JI (K:=K) rfl) (Uq (Ja Jj (Ja Jj (Ja Jj (Ja (Js Jfn Jj Jj) Je))))) (Js Wz (Js Jl0 (pv 1) Jj) Jj) (fun _ _=>rfl)) Je))))))
  (Jf (Jy (i:=3) sc_law.nd rfl (.inl rfl) (Vq qu (hr.mono (by decide)) rfl (Ja (pv 2) Je)))
  (Jf (Jy (i:=4) sc_law.nd rfl (.inl rfl) (Jn qi (hr.mono (by decide)) rfl (Ja (pv 3) Je)))
  (Jf (YC (U3 (K:=K) rfl QY GH GI UA (pv 4) (Ja (YQ (Ja Jj (Ja Jj Je))) Je)))
  (Jf (YC (JgF (K:=K) rfl QY PySem.F.slot_list_reverse PySem.F.type_list_reverse Jff (pv 4)))
  (Jf (Jy (i:=5) sc_law.nd rfl (.inl rfl) (Jn qi (hr.mono (by decide)) rfl (Ja (pv 3) Je)))
  (Jf (YV (VW (YD (K:=K) rfl (Jn qC (hr.mono (by decide)) rfl (Ja (pv 5) (Ja (JD (Ut (K:=K) rfl) rfl qo Ws (Ja (pv 2) Je)) Je))) (fun _=>rfl))) (Jh (JC U2)) JY)
  (Jf (Jy (i:=6) sc_law.nd rfl (.inr rfl) (Yp (N':=["size","begin"]) (imp:=[none,none]) rfl (JS (K:=K) rfl (pv 5)) (JbQ rfl rfl) (fun _ _ _ _=>(JJ (K:=K) (n:=2) rfl rfl (Ji (Jl (i:=0) (show(["size","begin"]:List Str).Nodup from by decide +kernel) rfl (.inl rfl) (.inr rfl)) (Ji (Jl (i:=1) (show(["size","begin"]:List Str).Nodup from by decide +kernel) rfl (.inl rfl) (.inr rfl)) JK)) rfl rfl)) (fun _ _ _ _=>Yj) (fun _ _ _ _=>(pv 0))))
  (Jf (YV (JL (Zl (K:=K) rfl hu) (pv 6) (JD (WL (K:=K) rfl rfl) rfl qv Jbf (Ja (pv 6) Je)) (J0 _)) (Jh (JC U2)) JY)
  (Jf (YV (JL (Zl (K:=K) rfl hu) (Jn qN (hr.mono (by decide)) rfl (Ja (pv 3) Je)) (Yp (N':=["size","sizes"]) (imp:=[none,some 6]) rfl (JS (K:=K) rfl (JjM (K:=K) rfl rfl rfl qv rfl wg (pv 6))) (Jc3 (own:=["size"]) (fr:=[("sizes",6)]) rfl rfl rfl ⟨rfl,trivial⟩ rfl ⟨⟨rfl,rfl,rfl⟩,trivial⟩) (fun _ _ _ _=>(Jl (i:=0) (show(["size","sizes"]:List Str).Nodup from by decide +kernel) rfl (.inl rfl) (.inr rfl))) (fun _ _ _ _=>Yj) (fun _ _ _ _=>(YQ (Ja (pv 0) (Ja (U3 (K:=K) rfl QY PySem.F.slot_list_count PySem.F.type_list_count JhU (pv 1) (Ja (pv 0) Je)) Je))))) (J0 _)) (Jh (JC U2)) JY)
  (Jf (Jy (i:=7) sc_law.nd rfl (.inl rfl) (Jn qT (hr.mono (by decide)) rfl (Ja (pv 3) Je)))
  (Jf (YV (JL JgD (pv 7) U4 (J0 _)) (Jf (Jy (i:=8) sc_law.nd rfl (.inl rfl) (Js Wz (Jn qb (hr.mono (by decide)) rfl (Ja (pv 0) (Ja Jj Je))) (Js Jfn Jj Jj)))
  (Jf (Y4 Q9 rfl (JS (K:=K) rfl (Uq (Ja Jj (Ja (pv 8) (Ja (Js Yi Jj (pv 8)) Je))))) (Jl (i:=9) sc_law.nd rfl (.inl rfl)) (Jh (YV (VW (YD (K:=K) rfl (Jn qt (hr.mono (by decide)) rfl (Ja (pv 3) (Ja (pv 5) (Ja (pv 9) Je)))) (fun _=>rfl))) (Jh (JC U2)) JY)))
  (Jh (JC U2)))) JY)
  (Jf (YV (PW.pt (JbD (VW (YD (K:=K) rfl (JD (UP (K:=K) rfl) rfl qa YG (Ja (pv 7) (Ja (We (v:=V.ty "int") rfl q5 Jiy rfl) Je))) (fun _=>rfl))) (Zo (YD (K:=K) rfl (JD (UP (K:=K) rfl) rfl qa YG (Ja (pv 7) (Ja (We (v:=V.ty "bool") rfl qS JfW rfl) Je))) (fun _=>rfl))))) (Jh (JC U2)) JY)
  (Jf (YV (YD (K:=K) rfl (Jn qf (hr.mono (by decide)) rfl (Ja (YB (K:=K) rfl (Jn qJ (hr.mono (by decide)) rfl (Ja (pv 3) (Ja U4 (Ja (Js Yi (pv 7) Jj) Je)))) rfl) Je)) (fun _=>rfl)) (Jh (JC U2)) JY)
  (Jf (Y4 Q9 rfl (JS (K:=K) rfl (Uq (Ja Jj (Ja Jj (Ja (Js Wz (Jn qb (hr.mono (by decide)) rfl (Ja (pv 0) (Ja Jj Je))) (Js Jfn Jj Jj)) Je))))) (Jl (i:=10) sc_law.nd rfl (.inl rfl)) (Jh (YV (VW (YD (K:=K) rfl (Jn qt (hr.mono (by decide)) rfl (Ja (pv 3) (Ja (pv 5) (Ja (Js (JR (K:=K) rfl) (pv 7) (pv 10)) Je)))) (fun _=>rfl))) (Jh (JC U2)) JY)))
  (Jh (JC (Jl3 (JjE (K:=K) rfl hu) (YB (K:=K) rfl (pv 3) rfl) (US (VU (K:=K) rfl) rfl qj WJ (Ja (pv 2) Je)) (J0 _)))))))))))))))))))),?_⟩
 exact JF (N:=["script","lead","drawn","row","spent","lines","sizes","from_here","far","times","more"]) (Jq (JM (Jz (Jc (Jb 0) (Jc Jo Jk))))
  (Jq (JM (Jz (Jc (Jb 0) (Jc Jo (Jc (Jp Jaq (Jb 1) Jo) (Jc (Jp UB (Vs (Jc Jo (Jc Jo (Jc Jo (Jc (Jp JjC Jo Jo) Jk))))) (Jp Jaq (Jp Jp3 (Jb 1) Jo) Jo)) Jk))))))
  (Jq (JM (JbG (Jc (Jb 2) Jk)))
  (Jq (V5 (Jz (Jc (Jb 3) Jk)))
  (Jq (JbM (UK (Jc Jo (Jc Jo Jk))))
  (Jq Jpu
  (Jq (JM (Jz (Jc (Jb 3) Jk)))
  (Jq (Vm (V1 (U7 (Jz (Jc (Jb 5) (Jc (U5 Jbg (Jc (Jb 2) Jk)) Jk))))) (J9 WA) Yu)
  (Jq (JM (Y8 (VR (Jb 5)) (YT (Ju (JT 0) (Ju (JT 1) YS)) rfl) Vj (Jb 0) rfl))
  (Jq (Vm (Yk (Jp JhY (Jb 6) (U5 Jc6 (Jc (Jb 6) Jk)))) (J9 WA) Yu)
  (Jq (Vm (Yk (Jp JhY (Jz (Jc (Jb 3) Jk)) (Y8 (VR (Jmw (Jb 6))) (JT 0) Vj (UK (Jc (Jb 0) (Jc (Jka (Jb 1) (Jb 0)) Jk))) rfl))) (J9 WA) Yu)
  (Jq (JM (Jz (Jc (Jb 3) Jk)))
  (Jq (Vm (Yk (Jp Jp5 (Jb 7) JaD)) (Jq (JM (Jp Jaq (Jz (Jc (Jb 0) (Jc Jo Jk))) (Jp JjC Jo Jo)))
  (Jq (Vc (VR (Vs (Jc Jo (Jc (Jb 8) (Jc (Jp Y2 Jo (Jb 8)) Jk))))) (JT 9) (Vm (V1 (U7 (Jz (Jc (Jb 3) (Jc (Jb 5) (Jc (Jb 9) Jk)))))) (J9 WA) Yu))
  (J9 WA))) Yu)
  (Jq (Vm (JbH (V1 (U7 (JbF Jgp (Jb 7)))) (U7 (JbF JdC (Jb 7)))) (J9 WA) Yu)
  (Jq (Vm (U7 (Jz (Jc (U6 T (Jz (Jc (Jb 3) (Jc JaD (Jc (Jp Y2 (Jb 7) Jo) Jk))))) Jk))) (J9 WA) Yu)
  (Jq (Vc (VR (Vs (Jc Jo (Jc Jo (Jc (Jp Jaq (Jz (Jc (Jb 0) (Jc Jo Jk))) (Jp JjC Jo Jo)) Jk))))) (JT 10) (Vm (V1 (U7 (Jz (Jc (Jb 3) (Jc (Jb 5) (Jc (Jp YF (Jb 7) (Jb 10)) Jk)))))) (J9 WA) Yu))
  (J9 (Jp Jp4 (U6 T (Jb 3)) (U5 JfY (Jc (Jb 2) Jk)))))))))))))))))))) h
end
theorem vl1{α:Type}{us:List α}(h:us.length=1):∃a,us=[a]:=match us,h with|[a],_=>⟨a,rfl⟩
theorem vl2{α:Type}{us:List α}(h:us.length=2):∃a b,us=[a,b]:=match us,h with|[a,b],_=>⟨a,b,rfl⟩
theorem vl3{α:Type}{us:List α}(h:us.length=3):∃a b c,us=[a,b,c]:=match us,h with|[a,b,c],_=>⟨a,b,c,rfl⟩
theorem vl4{α:Type}{us:List α}(h:us.length=4):∃a b c d,us=[a,b,c,d]:=match us,h with|[a,b,c,d],_=>⟨a,b,c,d,rfl⟩
theorem all_mk{l:PySem.W.OpenLaw}{w:World}{K:Frag}{h:Heap}{mg:Str->Option Value}{fa:Addr}{C:Addr}{f1:Addr}{od1 an1:Option Addr}{sl1:Array (Option Value)}{oc1 kV1 dc1 pm1 cd1 ct1:Value}{f2:Addr}{od2 an2:Option Addr}{sl2:Array (Option Value)}{oc2 kV2 dc2 pm2 cd2 ct2:Value}{f3:Addr}{od3 an3:Option Addr}{sl3:Array (Option Value)}{oc3 kV3 dc3 pm3 cd3 ct3:Value}{f4:Addr}{od4 an4:Option Addr}{sl4:Array (Option Value)}{oc4 kV4 dc4 pm4 cd4 ct4:Value}{f5:Addr}{od5 an5:Option Addr}{sl5:Array (Option Value)}{oc5 kV5 dc5 pm5 cd5 ct5:Value}{f6:Addr}{od6 an6:Option Addr}{sl6:Array (Option Value)}{oc6 kV6 dc6 pm6 cd6 ct6:Value}{f7:Addr}{od7 an7:Option Addr}{sl7:Array (Option Value)}{oc7 kV7 dc7 pm7 cd7 ct7:Value}{f8:Addr}{od8 an8:Option Addr}{sl8:Array (Option Value)}{oc8 kV8 dc8 pm8 cd8 ct8:Value}{f9:Addr}{od9 an9:Option Addr}{sl9:Array (Option Value)}{oc9 kV9 dc9 pm9 cd9 ct9:Value}{f10:Addr}{od10 an10:Option Addr}{sl10:Array (Option Value)}{oc10 kV10 dc10 pm10 cd10 ct10:Value}{f11:Addr}{od11 an11:Option Addr}{sl11:Array (Option Value)}{oc11 kV11 dc11 pm11 cd11 ct11:Value}{f12:Addr}{od12 an12:Option Addr}{sl12:Array (Option Value)}{oc12 kV12 dc12 pm12 cd12 ct12:Value}{f13:Addr}{od13 an13:Option Addr}{sl13:Array (Option Value)}{oc13 kV13 dc13 pm13 cd13 ct13:Value}{f14:Addr}{od14 an14:Option Addr}{sl14:Array (Option Value)}{oc14 kV14 dc14 pm14 cd14 ct14:Value}{f15:Addr}{od15 an15:Option Addr}{sl15:Array (Option Value)}{oc15 kV15 dc15 pm15 cd15 ct15:Value}{f16:Addr}{od16 an16:Option Addr}{sl16:Array (Option Value)}{oc16 kV16 dc16 pm16 cd16 ct16:Value}{f17:Addr}{od17 an17:Option Addr}{sl17:Array (Option Value)}{oc17 kV17 dc17 pm17 cd17 ct17:Value}{f18:Addr}{od18 an18:Option Addr}{sl18:Array (Option Value)}{oc18 kV18 dc18 pm18 cd18 ct18:Value}{f19:Addr}{od19 an19:Option Addr}{sl19:Array (Option Value)}{oc19 kV19 dc19 pm19 cd19 ct19:Value}{f20:Addr}{od20 an20:Option Addr}{sl20:Array (Option Value)}{oc20 kV20 dc20 pm20 cd20 ct20:Value}{f21:Addr}{od21 an21:Option Addr}{sl21:Array (Option Value)}{oc21 kV21 dc21 pm21 cd21 ct21:Value}{f22:Addr}{od22 an22:Option Addr}{sl22:Array (Option Value)}{oc22 kV22 dc22 pm22 cd22 ct22:Value}{f23:Addr}{od23 an23:Option Addr}{sl23:Array (Option Value)}{oc23 kV23 dc23 pm23 cd23 ct23:Value}{f24:Addr}{od24 an24:Option Addr}{sl24:Array (Option Value)}{oc24 kV24 dc24 pm24 cd24 ct24:Value}{f25:Addr}{od25 an25:Option Addr}{sl25:Array (Option Value)}{oc25 kV25 dc25 pm25 cd25 ct25:Value}{f26:Addr}{od26 an26:Option Addr}{sl26:Array (Option Value)}{oc26 kV26 dc26 pm26 cd26 ct26:Value}{f27:Addr}{od27 an27:Option Addr}{sl27:Array (Option Value)}{oc27 kV27 dc27 pm27 cd27 ct27:Value}{f28:Addr}{od28 an28:Option Addr}{sl28:Array (Option Value)}{oc28 kV28 dc28 pm28 cd28 ct28:Value}{f29:Addr}{od29 an29:Option Addr}{sl29:Array (Option Value)}{oc29 kV29 dc29 pm29 cd29 ct29:Value}{f30:Addr}{od30 an30:Option Addr}{sl30:Array (Option Value)}{oc30 kV30 dc30 pm30 cd30 ct30:Value}{f31:Addr}{od31 an31:Option Addr}{sl31:Array (Option Value)}{oc31 kV31 dc31 pm31 cd31 ct31:Value}{f32:Addr}{od32 an32:Option Addr}{sl32:Array (Option Value)}{oc32 kV32 dc32 pm32 cd32 ct32:Value}{qU:Tok}{q9:Tok}(X:K.In h)(G:h.Ns mainGlobals mg)(hfa:mg "law"=some (.ref fa))
 (aC:nsIn K mainGlobals "Row"=some (some (.ref C)))
 (a1:nsIn K mainGlobals "_law_cell"=some (some (.ref f1)))
 (l1:K.lookup f1=some ⟨oc1,od1,.func (fnOf "_law_cell" "_law_cell" (JA UE) (Jx UE) (Jg UE) .none kV1 dc1 pm1 an1 cd1 ct1),sl1⟩)
 (c1:codeIn K cd1 "_law_cell"=true)
 (k1:keepIn K (.ref f1)=true)
 (a2:nsIn K mainGlobals "_law_settled"=some (some (.ref f2)))
 (l2:K.lookup f2=some ⟨oc2,od2,.func (fnOf "_law_settled" "_law_settled" (JA YM) (Jx YM) (Jg YM) .none kV2 dc2 pm2 an2 cd2 ct2),sl2⟩)
 (c2:codeIn K cd2 "_law_settled"=true)
 (k2:keepIn K (.ref f2)=true)
 (a3:nsIn K mainGlobals "check_stretches"=some (some (.ref f3)))
 (l3:K.lookup f3=some ⟨oc3,od3,.func (fnOf "check_stretches" "check_stretches" (JA J8) (Jx J8) (Jg J8) .none kV3 dc3 pm3 an3 cd3 ct3),sl3⟩)
 (c3:codeIn K cd3 "check_stretches"=true)
 (k3:keepIn K (.ref f3)=true)
 (a4:findIn K (.ref C) "__init__"=some (some (.ref f4)))
 (i4:PySem.W.isFn K (.ref f4)=true)
 (l4:K.lookup f4=some ⟨oc4,od4,.func (fnOf "__init__" "Row.__init__" (JA UC) (Jx UC) (Jg UC) .none kV4 dc4 pm4 an4 cd4 ct4),sl4⟩)
 (c4:codeIn K cd4 "Row.__init__"=true)
 (k4:keepIn K (.ref f4)=true)
 (a5:nsIn K mainGlobals "by_layers"=some (some (.ref f5)))
 (l5:K.lookup f5=some ⟨oc5,od5,.func (fnOf "by_layers" "by_layers" (JA Uh) (Jx Uh) (Jg Uh) .none kV5 dc5 pm5 an5 cd5 ct5),sl5⟩)
 (c5:codeIn K cd5 "by_layers"=true)
 (k5:keepIn K (.ref f5)=true)
 (a6:nsIn K mainGlobals "thickened"=some (some (.ref f6)))
 (l6:K.lookup f6=some ⟨oc6,od6,.func (fnOf "thickened" "thickened" (JA Uo) (Jx Uo) (Jg Uo) .none kV6 dc6 pm6 an6 cd6 ct6),sl6⟩)
 (c6:codeIn K cd6 "thickened"=true)
 (k6:keepIn K (.ref f6)=true)
 (a7:nsIn K mainGlobals "balls_below"=some (some (.ref f7)))
 (l7:K.lookup f7=some ⟨oc7,od7,.func (fnOf "balls_below" "balls_below" (JA YJ) (Jx YJ) (Jg YJ) .none kV7 dc7 pm7 an7 cd7 ct7),sl7⟩)
 (c7:codeIn K cd7 "balls_below"=true)
 (k7:keepIn K (.ref f7)=true)
 (a8:nsIn K mainGlobals "ended_at"=some (some (.ref f8)))
 (l8:K.lookup f8=some ⟨oc8,od8,.func (fnOf "ended_at" "ended_at" (JA UD) (Jx UD) (Jg UD) .none kV8 dc8 pm8 an8 cd8 ct8),sl8⟩)
 (c8:codeIn K cd8 "ended_at"=true)
 (k8:keepIn K (.ref f8)=true)
 (a9:nsIn K mainGlobals "put_in"=some (some (.ref f9)))
 (l9:K.lookup f9=some ⟨oc9,od9,.func (fnOf "put_in" "put_in" (JA Vt) (Jx Vt) (Jg Vt) .none kV9 dc9 pm9 an9 cd9 ct9),sl9⟩)
 (c9:codeIn K cd9 "put_in"=true)
 (k9:keepIn K (.ref f9)=true)
 (a10:nsIn K mainGlobals "check_table"=some (some (.ref f10)))
 (l10:K.lookup f10=some ⟨oc10,od10,.func (fnOf "check_table" "check_table" (JA YL) (Jx YL) (Jg YL) .none kV10 dc10 pm10 an10 cd10 ct10),sl10⟩)
 (c10:codeIn K cd10 "check_table"=true)
 (k10:keepIn K (.ref f10)=true)
 (a11:nsIn K mainGlobals "row_of"=some (some (.ref f11)))
 (l11:K.lookup f11=some ⟨oc11,od11,.func (fnOf "row_of" "row_of" (JA Vu) (Jx Vu) (Jg Vu) .none kV11 dc11 pm11 an11 cd11 ct11),sl11⟩)
 (c11:codeIn K cd11 "row_of"=true)
 (k11:keepIn K (.ref f11)=true)
 (a12:nsIn K mainGlobals "share_of"=some (some (.ref f12)))
 (l12:K.lookup f12=some ⟨oc12,od12,.func (fnOf "share_of" "share_of" (JA UG) (Jx UG) (Jg UG) .none kV12 dc12 pm12 an12 cd12 ct12),sl12⟩)
 (c12:codeIn K cd12 "share_of"=true)
 (k12:keepIn K (.ref f12)=true)
 (a13:nsIn K mainGlobals "check_seats"=some (some (.ref f13)))
 (l13:K.lookup f13=some ⟨oc13,od13,.func (fnOf "check_seats" "check_seats" (JA YK) (Jx YK) (Jg YK) .none kV13 dc13 pm13 an13 cd13 ct13),sl13⟩)
 (c13:codeIn K cd13 "check_seats"=true)
 (k13:keepIn K (.ref f13)=true)
 (a14:nsIn K mainGlobals "shifted"=some (some (.ref f14)))
 (l14:K.lookup f14=some ⟨oc14,od14,.func (fnOf "shifted" "shifted" (JA UX) (Jx UX) (Jg UX) .none kV14 dc14 pm14 an14 cd14 ct14),sl14⟩)
 (c14:codeIn K cd14 "shifted"=true)
 (k14:keepIn K (.ref f14)=true)
 (a15:nsIn K mainGlobals "closed_up"=some (some (.ref f15)))
 (l15:K.lookup f15=some ⟨oc15,od15,.func (fnOf "closed_up" "closed_up" (JA Ui) (Jx Ui) (Jg Ui) .none kV15 dc15 pm15 an15 cd15 ct15),sl15⟩)
 (c15:codeIn K cd15 "closed_up"=true)
 (k15:keepIn K (.ref f15)=true)
 (a16:nsIn K mainGlobals "gaps_of"=some (some (.ref f16)))
 (l16:K.lookup f16=some ⟨oc16,od16,.func (fnOf "gaps_of" "gaps_of" (JA UU) (Jx UU) (Jg UU) .none kV16 dc16 pm16 an16 cd16 ct16),sl16⟩)
 (c16:codeIn K cd16 "gaps_of"=true)
 (k16:keepIn K (.ref f16)=true)
 (a17:nsIn K mainGlobals "closes_at"=some (some (.ref f17)))
 (l17:K.lookup f17=some ⟨oc17,od17,.func (fnOf "closes_at" "closes_at" (JA Uj) (Jx Uj) (Jg Uj) .none kV17 dc17 pm17 an17 cd17 ct17),sl17⟩)
 (c17:codeIn K cd17 "closes_at"=true)
 (k17:keepIn K (.ref f17)=true)
 (a18:nsIn K mainGlobals "thinned"=some (some (.ref f18)))
 (l18:K.lookup f18=some ⟨oc18,od18,.func (fnOf "thinned" "thinned" (JA UY) (Jx UY) (Jg UY) .none kV18 dc18 pm18 an18 cd18 ct18),sl18⟩)
 (c18:codeIn K cd18 "thinned"=true)
 (k18:keepIn K (.ref f18)=true)
 (a19:nsIn K mainGlobals "ball_at"=some (some (.ref f19)))
 (l19:K.lookup f19=some ⟨oc19,od19,.func (fnOf "ball_at" "ball_at" (JA UT) (Jx UT) (Jg UT) .none kV19 dc19 pm19 an19 cd19 ct19),sl19⟩)
 (c19:codeIn K cd19 "ball_at"=true)
 (k19:keepIn K (.ref f19)=true)
 (a20:nsIn K mainGlobals "owed_at"=some (some (.ref f20)))
 (l20:K.lookup f20=some ⟨oc20,od20,.func (fnOf "owed_at" "owed_at" (JA UV) (Jx UV) (Jg UV) .none kV20 dc20 pm20 an20 cd20 ct20),sl20⟩)
 (c20:codeIn K cd20 "owed_at"=true)
 (k20:keepIn K (.ref f20)=true)
 (a21:nsIn K mainGlobals "struck"=some (some (.ref f21)))
 (l21:K.lookup f21=some ⟨oc21,od21,.func (fnOf "struck" "struck" (JA Vv) (Jx Vv) (Jg Vv) .none kV21 dc21 pm21 an21 cd21 ct21),sl21⟩)
 (c21:codeIn K cd21 "struck"=true)
 (k21:keepIn K (.ref f21)=true)
 (a22:nsIn K mainGlobals "table_of"=some (some (.ref f22)))
 (l22:K.lookup f22=some ⟨oc22,od22,.func (fnOf "table_of" "table_of" (JA UH) (Jx UH) (Jg UH) .none kV22 dc22 pm22 an22 cd22 ct22),sl22⟩)
 (c22:codeIn K cd22 "table_of"=true)
 (k22:keepIn K (.ref f22)=true)
 (a23:nsIn K mainGlobals "after"=some (some (.ref f23)))
 (l23:K.lookup f23=some ⟨oc23,od23,.func (fnOf "after" "after" (JA Wg) (Jx Wg) (Jg Wg) .none kV23 dc23 pm23 an23 cd23 ct23),sl23⟩)
 (c23:codeIn K cd23 "after"=true)
 (k23:keepIn K (.ref f23)=true)
 (a24:nsIn K mainGlobals "_law_stands"=some (some (.ref f24)))
 (l24:K.lookup f24=some ⟨oc24,od24,.func (fnOf "_law_stands" "_law_stands" (JA Y6) (Jx Y6) (Jg Y6) .none kV24 dc24 pm24 an24 cd24 ct24),sl24⟩)
 (c24:codeIn K cd24 "_law_stands"=true)
 (k24:keepIn K (.ref f24)=true)
 (a25:nsIn K mainGlobals "neighbours"=some (some (.ref f25)))
 (l25:K.lookup f25=some ⟨oc25,od25,.func (fnOf "neighbours" "neighbours" (JA Y7) (Jx Y7) (Jg Y7) .none kV25 dc25 pm25 an25 cd25 ct25),sl25⟩)
 (c25:codeIn K cd25 "neighbours"=true)
 (k25:keepIn K (.ref f25)=true)
 (a26:nsIn K mainGlobals "lumps_apart"=some (some (.ref f26)))
 (l26:K.lookup f26=some ⟨oc26,od26,.func (fnOf "lumps_apart" "lumps_apart" (JA YN) (Jx YN) (Jg YN) .none kV26 dc26 pm26 an26 cd26 ct26),sl26⟩)
 (c26:codeIn K cd26 "lumps_apart"=true)
 (k26:keepIn K (.ref f26)=true)
 (a27:nsIn K mainGlobals "far_lines"=some (some (.ref f27)))
 (l27:K.lookup f27=some ⟨oc27,od27,.func (fnOf "far_lines" "far_lines" (JA Uk) (Jx Uk) (Jg Uk) .none kV27 dc27 pm27 an27 cd27 ct27),sl27⟩)
 (c27:codeIn K cd27 "far_lines"=true)
 (k27:keepIn K (.ref f27)=true)
 (a28:nsIn K mainGlobals "settles"=some (some (.ref f28)))
 (l28:K.lookup f28=some ⟨oc28,od28,.func (fnOf "settles" "settles" (JA UW) (Jx UW) (Jg UW) .none kV28 dc28 pm28 an28 cd28 ct28),sl28⟩)
 (c28:codeIn K cd28 "settles"=true)
 (k28:keepIn K (.ref f28)=true)
 (a29:nsIn K mainGlobals "lumps_of"=some (some (.ref f29)))
 (l29:K.lookup f29=some ⟨oc29,od29,.func (fnOf "lumps_of" "lumps_of" (JA UF) (Jx UF) (Jg UF) .none kV29 dc29 pm29 an29 cd29 ct29),sl29⟩)
 (c29:codeIn K cd29 "lumps_of"=true)
 (k29:keepIn K (.ref f29)=true)
 (a30:nsIn K mainGlobals "_law_lines"=some (some (.ref f30)))
 (l30:K.lookup f30=some ⟨oc30,od30,.func (fnOf "_law_lines" "_law_lines" (JA Um) (Jx Um) (Jg Um) .none kV30 dc30 pm30 an30 cd30 ct30),sl30⟩)
 (c30:codeIn K cd30 "_law_lines"=true)
 (k30:keepIn K (.ref f30)=true)
 (a31:nsIn K mainGlobals "_law_drawn"=some (some (.ref f31)))
 (l31:K.lookup f31=some ⟨oc31,od31,.func (fnOf "_law_drawn" "_law_drawn" (JA Ul) (Jx Ul) (Jg Ul) .none kV31 dc31 pm31 an31 cd31 ct31),sl31⟩)
 (c31:codeIn K cd31 "_law_drawn"=true)
 (k31:keepIn K (.ref f31)=true)
 (a32:nsIn K mainGlobals "law"=some (some (.ref f32)))
 (l32:K.lookup f32=some ⟨oc32,od32,.func (fnOf "law" "law" (JA WY) (Jx WY) (Jg WY) .none kV32 dc32 pm32 an32 cd32 ct32),sl32⟩)
 (c32:codeIn K cd32 "law"=true)
 (k32:keepIn K (.ref f32)=true)
 (pg:plainGet K C Str.empty=true)
 (hd:hasDictIn K C=true)
 (po:plainOver K C=true)
 (sa:findIn K (.ref C) "__setattr__"=some (some (.builtin "object.__setattr__")))
 (mk:makesIn K C=true)
 (kc:keepIn K (.ref C)=true)
 (nS:findIn K (.ref C) "stretches"=some none)
 (wo:nsIn K mainGlobals "len"=some none)
 (wk:nsIn K mainGlobals "range"=some none)
 (wl:nsIn K mainGlobals "tuple"=some none)
 (wc:nsIn K mainGlobals "enumerate"=some none)
 (wp:nsIn K mainGlobals "sum"=some none)
 (wq:nsIn K mainGlobals "max"=some none)
 (wu:nsIn K mainGlobals "min"=some none)
 (wj:nsIn K mainGlobals "sorted"=some none)
 (we:nsIn K mainGlobals "reversed"=some none)
 (wm:nsIn K mainGlobals "list"=some none)
 (wv:nsIn K mainGlobals "zip"=some none)
 (ww:nsIn K mainGlobals "any"=some none)
 (wa:nsIn K mainGlobals "isinstance"=some none)
 (wn:nsIn K mainGlobals "bool"=some none)
 (wx:nsIn K mainGlobals "int"=some none)
 (wy:nsIn K mainGlobals "set"=some none)
 (qV:nsIn K mainGlobals "MOST_STRETCHES"=some (some (.int 30 qU)))
 (wb:nsIn K mainGlobals "MOST_LUMPS"=some (some (.int 30 q9)))
:∃fd:FuncData,(∀(s:Shared) (v:Value),BindsTo s fd ⟨[v],[]⟩ [("script",v)])/\∀base:Heap,K.In base->base.Ns mainGlobals mg->FnOk l.prog w K mg base CX0 10 fa fd ["script"] (Jg0 K):=by
 have e:=hfa.symm.trans (mg_of X G a32);cases e
 have T:RowC K C:=⟨⟨pg,hd,po,sa⟩,nS⟩
 have wz:=mg_of X G aC
 have qo:=mg_none_of X G wo
 have qH:=mg_none_of X G wk
 have qj:=mg_none_of X G wl
 have qe:=mg_none_of X G wc
 have qq:=mg_none_of X G wp
 have qZ:=mg_none_of X G wq
 have qE:=mg_none_of X G wu
 have qv:=mg_none_of X G wj
 have qL:=mg_none_of X G we
 have qx:=mg_none_of X G wm
 have qO:=mg_none_of X G wv
 have wf:=mg_none_of X G ww
 have qa:=mg_none_of X G wa
 have qS:=mg_none_of X G wn
 have q5:=mg_none_of X G wx
 have wg:=mg_none_of X G wy
 have qd:GV mg "MOST_STRETCHES" (.int 30):=⟨_,mg_of X G qV,⟨_,rfl⟩⟩
 have qA:GV mg "MOST_LUMPS" (.int 30):=⟨_,mg_of X G wb,⟨_,rfl⟩⟩
 have F1:=JQ (st:=UE) l1 c1 k1
 have B1:=F1.binds (ps:=["script","k"]) fun _ _ _ _ _ _ us hl=>by obtain⟨_,_,rfl⟩:=vl2 hl;rfl
 have F2:=JQ (st:=YM) l2 c2 k2
 have B2:=F2.binds (ps:=["row"]) fun _ _ _ _ _ _ us hl=>by obtain⟨_,rfl⟩:=vl1 hl;rfl
 have F3:=JQ (st:=J8) l3 c3 k3
 have B3:=F3.binds (ps:=["stretches"]) fun _ _ _ _ _ _ us hl=>by obtain⟨_,rfl⟩:=vl1 hl;rfl
 have F4:=JQ (st:=UC) l4 c4 k4
 have B4:=F4.binds (ps:=["self","stretches"]) fun _ _ _ _ _ _ us hl=>by obtain⟨_,_,rfl⟩:=vl2 hl;rfl
 have F5:=JQ (st:=Uh) l5 c5 k5
 have B5:=F5.binds (ps:=["row","layers"]) fun _ _ _ _ _ _ us hl=>by obtain⟨_,_,rfl⟩:=vl2 hl;rfl
 have F6:=JQ (st:=Uo) l6 c6 k6
 have B6:=F6.binds (ps:=["row","layers"]) fun _ _ _ _ _ _ us hl=>by obtain⟨_,_,rfl⟩:=vl2 hl;rfl
 have F7:=JQ (st:=YJ) l7 c7 k7
 have B7:=F7.binds (ps:=["row","place"]) fun _ _ _ _ _ _ us hl=>by obtain⟨_,_,rfl⟩:=vl2 hl;rfl
 have F8:=JQ (st:=UD) l8 c8 k8
 have B8:=F8.binds (ps:=["row","spots"]) fun _ _ _ _ _ _ us hl=>by obtain⟨_,_,rfl⟩:=vl2 hl;rfl
 have F9:=JQ (st:=Vt) l9 c9 k9
 have B9:=F9.binds (ps:=["row","pairs"]) fun _ _ _ _ _ _ us hl=>by obtain⟨_,_,rfl⟩:=vl2 hl;rfl
 have F10:=JQ (st:=YL) l10 c10 k10
 have B10:=F10.binds (ps:=["table"]) fun _ _ _ _ _ _ us hl=>by obtain⟨_,rfl⟩:=vl1 hl;rfl
 have F11:=JQ (st:=Vu) l11 c11 k11
 have B11:=F11.binds (ps:=["table"]) fun _ _ _ _ _ _ us hl=>by obtain⟨_,rfl⟩:=vl1 hl;rfl
 have F12:=JQ (st:=UG) l12 c12 k12
 have B12:=F12.binds (ps:=["size","seats"]) fun _ _ _ _ _ _ us hl=>by obtain⟨_,_,rfl⟩:=vl2 hl;rfl
 have F13:=JQ (st:=YK) l13 c13 k13
 have B13:=F13.binds (ps:=["seats"]) fun _ _ _ _ _ _ us hl=>by obtain⟨_,rfl⟩:=vl1 hl;rfl
 have F14:=JQ (st:=UX) l14 c14 k14
 have B14:=F14.binds (ps:=["table","seats","times"]) fun _ _ _ _ _ _ us hl=>by obtain⟨_,_,_,rfl⟩:=vl3 hl;rfl
 have F15:=JQ (st:=Ui) l15 c15 k15
 have B15:=F15.binds (ps:=["pairs"]) fun _ _ _ _ _ _ us hl=>by obtain⟨_,rfl⟩:=vl1 hl;rfl
 have F16:=JQ (st:=UU) l16 c16 k16
 have B16:=F16.binds (ps:=["row"]) fun _ _ _ _ _ _ us hl=>by obtain⟨_,rfl⟩:=vl1 hl;rfl
 have F17:=JQ (st:=Uj) l17 c17 k17
 have B17:=F17.binds (ps:=["row"]) fun _ _ _ _ _ _ us hl=>by obtain⟨_,rfl⟩:=vl1 hl;rfl
 have F18:=JQ (st:=UY) l18 c18 k18
 have B18:=F18.binds (ps:=["row","layers"]) fun _ _ _ _ _ _ us hl=>by obtain⟨_,_,rfl⟩:=vl2 hl;rfl
 have F19:=JQ (st:=UT) l19 c19 k19
 have B19:=F19.binds (ps:=["row","place"]) fun _ _ _ _ _ _ us hl=>by obtain⟨_,_,rfl⟩:=vl2 hl;rfl
 have F20:=JQ (st:=UV) l20 c20 k20
 have B20:=F20.binds (ps:=["left","spot"]) fun _ _ _ _ _ _ us hl=>by obtain⟨_,_,rfl⟩:=vl2 hl;rfl
 have F21:=JQ (st:=Vv) l21 c21 k21
 have B21:=F21.binds (ps:=["row"]) fun _ _ _ _ _ _ us hl=>by obtain⟨_,rfl⟩:=vl1 hl;rfl
 have F22:=JQ (st:=UH) l22 c22 k22
 have B22:=F22.binds (ps:=["row"]) fun _ _ _ _ _ _ us hl=>by obtain⟨_,rfl⟩:=vl1 hl;rfl
 have F23:=JQ (st:=Wg) l23 c23 k23
 have B23:=F23.binds (ps:=["row","seats","times"]) fun _ _ _ _ _ _ us hl=>by obtain⟨_,_,_,rfl⟩:=vl3 hl;rfl
 have F24:=JQ (st:=Y6) l24 c24 k24
 have B24:=F24.binds (ps:=["row","lines","times"]) fun _ _ _ _ _ _ us hl=>by obtain⟨_,_,_,rfl⟩:=vl3 hl;rfl
 have F25:=JQ (st:=Y7) l25 c25 k25
 have B25:=F25.binds (ps:=["lines"]) fun _ _ _ _ _ _ us hl=>by obtain⟨_,rfl⟩:=vl1 hl;rfl
 have F26:=JQ (st:=YN) l26 c26 k26
 have B26:=F26.binds (ps:=["row"]) fun _ _ _ _ _ _ us hl=>by obtain⟨_,rfl⟩:=vl1 hl;rfl
 have F27:=JQ (st:=Uk) l27 c27 k27
 have B27:=F27.binds (ps:=["row"]) fun _ _ _ _ _ _ us hl=>by obtain⟨_,rfl⟩:=vl1 hl;rfl
 have F28:=JQ (st:=UW) l28 c28 k28
 have B28:=F28.binds (ps:=["row"]) fun _ _ _ _ _ _ us hl=>by obtain⟨_,rfl⟩:=vl1 hl;rfl
 have F29:=JQ (st:=UF) l29 c29 k29
 have B29:=F29.binds (ps:=["row"]) fun _ _ _ _ _ _ us hl=>by obtain⟨_,rfl⟩:=vl1 hl;rfl
 have F30:=JQ (st:=Um) l30 c30 k30
 have B30:=F30.binds (ps:=["found","many"]) fun _ _ _ _ _ _ us hl=>by obtain⟨_,_,rfl⟩:=vl2 hl;rfl
 have F31:=JQ (st:=Ul) l31 c31 k31
 have B31:=F31.binds (ps:=["script","first","many","span"]) fun _ _ _ _ _ _ us hl=>by obtain⟨_,_,_,_,rfl⟩:=vl4 hl;rfl
 have F32:=JQ (st:=WY) l32 c32 k32
 have B32:=F32.binds (ps:=["script"]) fun _ _ _ _ _ _ us hl=>by obtain⟨_,rfl⟩:=vl1 hl;rfl
 refine⟨fnOf "law" "law" (JA WY) (Jx WY) (Jg WY) .none kV32 dc32 pm32 an32 cd32 ct32,fun s v=>.of_eq rfl,fun base _ _=>?_⟩;have qb:Cal l.prog w K mg base "_law_cell" 1 ["script","k"] (spE K C 2 JH):=⟨f1,_,JdX (C:=C) F1 qo,mg_of X G a1,k1,B1⟩
 have qf:Cal l.prog w K mg base "_law_settled" 1 ["row"] (spE K C 1 JX):=⟨f2,_,Jau (C:=C) F2 qH qo,mg_of X G a2,k2,B2⟩
 have qp:Cal l.prog w K mg base "check_stretches" 1 ["stretches"] (ZR K):=⟨f3,_,Wy F3 ,mg_of X G a3,k3,B3⟩
 have qu:CalM l.prog w K mg base "Row" C 2 ["self","stretches"] (VL C K):=⟨f4,_,⟨mk,a4,i4,kc⟩,JdV F4 qj qo qd qp T,wz,B4⟩
 have qk:Cal l.prog w K mg base "by_layers" 1 ["row","layers"] (spE K C 2 Yc):=⟨f5,_,Jcv (C:=C) F5 qe T,mg_of X G a5,k5,B5⟩
 have qF:Cal l.prog w K mg base "thickened" 4 ["row","layers"] (spE K C 2 Yz):=⟨f6,_,JcB (C:=C) F6 qu qk,mg_of X G a6,k6,B6⟩
 have qw:Cal l.prog w K mg base "balls_below" 1 ["row","place"] (spE K C 2 Yq):=⟨f7,_,Jar (C:=C) F7 qq qZ qE T,mg_of X G a7,k7,B7⟩
 have qK:Cal l.prog w K mg base "ended_at" 2 ["row","spots"] (spE K C 2 Uf):=⟨f8,_,JdW (C:=C) F8 qe qw,mg_of X G a8,k8,B8⟩
 have qW:Cal l.prog w K mg base "put_in" 4 ["row","pairs"] (spE K C 2 Ux):=⟨f9,_,Jh0 (C:=C) F9 qv qo qq qd qu qK T,mg_of X G a9,k9,B9⟩
 have qh:Cal l.prog w K mg base "check_table" 1 ["table"] (spE K C 1 J5):=⟨f10,_,Jat (C:=C) F10 qq qA,mg_of X G a10,k10,B10⟩
 have qY:Cal l.prog w K mg base "row_of" 5 ["table"] (spE K C 1 UR):=⟨f11,_,Jh1 (C:=C) F11 qL qx qO qF qW qu qh,mg_of X G a11,k11,B11⟩
 have qM:Cal l.prog w K mg base "share_of" 1 ["size","seats"] (spE K C 2 Ug):=⟨f12,_,JdZ (C:=C) F12 qE,mg_of X G a12,k12,B12⟩
 have qy:Cal l.prog w K mg base "check_seats" 1 ["seats"] (spE K C 1 Yr):=⟨f13,_,Jas (C:=C) F13 ,mg_of X G a13,k13,B13⟩
 have qR:Cal l.prog w K mg base "shifted" 2 ["table","seats","times"] (spE K C 3 Uy):=⟨f14,_,Jfl (C:=C) F14 qM qh qy,mg_of X G a14,k14,B14⟩
 have qG:Cal l.prog w K mg base "closed_up" 1 ["pairs"] (spE K C 1 Yx):=⟨f15,_,Jcw (C:=C) F15 qq,mg_of X G a15,k15,B15⟩
 have qP:Cal l.prog w K mg base "gaps_of" 1 ["row"] (spE K C 1 Uv):=⟨f16,_,Jfi (C:=C) F16 qq qO T,mg_of X G a16,k16,B16⟩
 have qm:Cal l.prog w K mg base "closes_at" 2 ["row"] (spE K C 1 J4):=⟨f17,_,Jcx (C:=C) F17 qE qP T,mg_of X G a17,k17,B17⟩
 have qr:Cal l.prog w K mg base "thinned" 4 ["row","layers"] (spE K C 2 Yg):=⟨f18,_,Jfm (C:=C) F18 qE qu qG qk qm T,mg_of X G a18,k18,B18⟩
 have qI:Cal l.prog w K mg base "ball_at" 1 ["row","place"] (spE K C 2 Ud):=⟨f19,_,Jfh (C:=C) F19 wf T,mg_of X G a19,k19,B19⟩
 have qQ:Cal l.prog w K mg base "owed_at" 2 ["left","spot"] (spE K C 2 Uw):=⟨f20,_,Jfj (C:=C) F20 qI,mg_of X G a20,k20,B20⟩
 have qX:Cal l.prog w K mg base "struck" 5 ["row"] (spE K C 1 Uz):=⟨f21,_,Jh2 (C:=C) F21 qe qq qQ qr T,mg_of X G a21,k21,B21⟩
 have qg:Cal l.prog w K mg base "table_of" 6 ["row"] (spE K C 1 Ye):=⟨f22,_,Jd0 (C:=C) F22 qr qX qm T,mg_of X G a22,k22,B22⟩
 have qJ:Cal l.prog w K mg base "after" 7 ["row","seats","times"] (spE K C 3 YY):=⟨f23,_,JjD (C:=C) F23 qY qR qg,mg_of X G a23,k23,B23⟩
 have qt:Cal l.prog w K mg base "_law_stands" 8 ["row","lines","times"] (spE K C 3 JV):=⟨f24,_,JaW (C:=C) F24 qj qf qJ T,mg_of X G a24,k24,B24⟩
 have qB:Cal l.prog w K mg base "neighbours" 1 ["lines"] (spE K C 1 YH):=⟨f25,_,JaX (C:=C) F25 qO,mg_of X G a25,k25,B25⟩
 have qz:Cal l.prog w K mg base "lumps_apart" 7 ["row"] (spE K C 1 Ys):=⟨f26,_,Jav (C:=C) F26 qg,mg_of X G a26,k26,B26⟩
 have qi:Cal l.prog w K mg base "far_lines" 8 ["row"] (spE K C 1 JW):=⟨f27,_,Jcy (C:=C) F27 qz,mg_of X G a27,k27,B27⟩
 have qT:Cal l.prog w K mg base "settles" 9 ["row"] (spE K C 1 Ue):=⟨f28,_,Jfk (C:=C) F28 qZ qB qi,mg_of X G a28,k28,B28⟩
 have qN:Cal l.prog w K mg base "lumps_of" 7 ["row"] (spE K C 1 YZ):=⟨f29,_,JdY (C:=C) F29 qx qg,mg_of X G a29,k29,B29⟩
 have qC:Cal l.prog w K mg base "_law_lines" 1 ["found","many"] (spE K C 2 Yy):=⟨f30,_,JcA (C:=C) F30 qa qS q5 qo qj qx,mg_of X G a30,k30,B30⟩
 have qD:Cal l.prog w K mg base "_law_drawn" 2 ["script","first","many","span"] (spE K C 4 Yd):=⟨f31,_,Jcz (C:=C) F31 qH qb,mg_of X G a31,k31,B31⟩
 exact JlC (Jor (C:=C) F32 qj qa qS q5 qv wg qo qb qt qf qJ qT qN qC qi qu qD T) law_true
theorem walk{l:PySem.W.OpenLaw}{q:Program}{loose:List Str}{XP:(Str->Option Value)->Heap->Prop}{YP:World->Heap->Prop}{d:DefRec}{K:Params->Frag}(hn:l.most=some 63)(hdf:d.params.defaults=[])
 (hY:∀(w:World) (h:Heap),YP w h->(K w.params).In h)
 (F:∀(w:World) (mg:Str->Option Value) (fa:Addr) (h:Heap),(K w.params).In h->h.Ns mainGlobals mg->mg d.name=some (.ref fa) ->
  ∃fd:FuncData,(∀(s:Shared) (u:Value),BindsTo s fd ⟨[u],[]⟩ [("script",u)])/\∀base:Heap,(K w.params).In base->base.Ns mainGlobals mg->FnOk l.prog w (K w.params) mg base CX0 10 fa fd ["script"] (Jg0 (K w.params))) :
 PySem.W.WalkO q loose XP YP l.row.toRowW d [] (fun f vs=>PySem.call f vs) :=
 L2.JmS (n:=63) (k:=10) (x:="script") (CX:=fun _=>CX0) (sp:=fun w=>Jg0 (K w.params)) hn (by decide) hdf ⟨rfl,by decide,by decide⟩ hY F (fun _ _ a ns hl _ hS=>⟨a,ns,rfl,hS,hl,fun _=>rfl⟩) fun _ _ _ _ _ z=>z
end LK
end
theorem PySem.W.Fast.tw4269631692392624139:True:=trivial
theorem PySem.W.Fast.tw3082713934668338800:True:=trivial
theorem PySem.W.Fast.tw15068177167307169315:True:=trivial
theorem PySem.W.Fast.tw16234143648364235452:True:=trivial
theorem PySem.W.Fast.tw16013340986749179733:True:=trivial
theorem PySem.W.Fast.tw3396845728789292821:True:=trivial
theorem PySem.W.Fast.tw7782923156013901394:True:=trivial
theorem PySem.W.Fast.tw8957998301309467023:True:=trivial
theorem PySem.W.Fast.tw13071922320980152612:True:=trivial
theorem PySem.W.Fast.tw4282978705658850919:True:=trivial
theorem PySem.W.Fast.tw5558480098536447984:True:=trivial
theorem PySem.W.Fast.tw11742481058152008346:True:=trivial
theorem PySem.W.Fast.tw9199126212885875729:True:=trivial
theorem PySem.W.Fast.tw14720283000265755528:True:=trivial
theorem PySem.W.Fast.tw17974671123276740580:True:=trivial
theorem PySem.W.Fast.tw7720209495405303653:True:=trivial
theorem PySem.W.Fast.tw4929736794819955196:True:=trivial
theorem PySem.W.Fast.tw8746102099776590336:True:=trivial
theorem PySem.W.Fast.tw12449954822579173704:True:=trivial
theorem PySem.W.Fast.tw10274433418739083866:True:=trivial
theorem PySem.W.Fast.tw14418444087623252515:True:=trivial
theorem PySem.W.Fast.tw16577302339754555218:True:=trivial
theorem PySem.W.Fast.tw9686560380873078175:True:=trivial
theorem PySem.W.Fast.tw3833481565230286023:True:=trivial
theorem PySem.W.Fast.tw17840601325433627013:True:=trivial
theorem PySem.W.Fast.tw14474035125533439959:True:=trivial
theorem PySem.W.Fast.tw9546332334788343694:True:=trivial
theorem PySem.W.Fast.tw12119768727355713177:True:=trivial
theorem PySem.W.Fast.tw17072532377080725267:True:=trivial
theorem PySem.W.Fast.tw4252819834849393785:True:=trivial
theorem PySem.W.Fast.tw7772367958264987229:True:=trivial
theorem PySem.W.Fast.tw10810296836632220763:True:=trivial
theorem PySem.W.Fast.tw8708310823081028127:True:=trivial
theorem PySem.W.Fast.tw5921028913328659671:True:=trivial
theorem PySem.W.Fast.tw15800031613890388306:True:=trivial
theorem PySem.W.Fast.tw17590328446168539438:True:=trivial
theorem PySem.W.Fast.tw10366685063167606346:True:=trivial
theorem PySem.W.Fast.tw3026278956953755822:True:=trivial
theorem PySem.W.Fast.tw5593445489800041051:True:=trivial
theorem PySem.W.Fast.tw17774033416981600096:True:=trivial
theorem PySem.W.Fast.tw5564151290389483392:True:=trivial
theorem PySem.W.Fast.tw6378143862431953167:True:=trivial
theorem PySem.W.Fast.tw9609814943065433642:True:=trivial
theorem PySem.W.Fast.tw7064345283047003262:True:=trivial
theorem PySem.W.Fast.tw12216198739074863500:True:=trivial
theorem PySem.W.Fast.tw15323504916600285999:True:=trivial
theorem PySem.W.Fast.tw7387739737386971004:True:=trivial
theorem PySem.W.Fast.tw13121695209386546476:True:=trivial
theorem PySem.W.Fast.tw13757412248621513095:True:=trivial
theorem PySem.W.Fast.tw7439330153699795280:True:=trivial
theorem PySem.W.Fast.tw13747922032139780505:True:=trivial
theorem PySem.W.Fast.tw15200436621071310953:True:=trivial
theorem PySem.W.Fast.tw9500433527873004309:True:=trivial
theorem PySem.W.Fast.tw15349864282106944637:True:=trivial
theorem PySem.W.Fast.tw682260222786895122:True:=trivial
theorem PySem.W.Fast.tw12196628630086138185:True:=trivial
theorem PySem.W.Fast.tw6752453602857415332:True:=trivial
theorem PySem.W.Fast.tw16115030004740287235:True:=trivial
theorem PySem.W.Fast.tw11213092447977640749:True:=trivial
theorem PySem.W.Fast.tw16984730676793870525:True:=trivial
theorem PySem.W.Fast.tw8962089239723936136:True:=trivial
theorem PySem.W.Fast.tw17638767138136778453:True:=trivial
theorem PySem.W.Fast.tw10886977663514397788:True:=trivial
theorem PySem.W.Fast.tw15939628504513816954:True:=trivial
theorem PySem.W.Fast.tw15693487173344716191:True:=trivial
theorem PySem.W.Fast.tw17948057387536353912:True:=trivial
theorem PySem.W.Fast.tw17678756221337818995:True:=trivial
theorem PySem.W.Fast.tw18173540263207377415:True:=trivial
theorem PySem.W.Fast.tw12175193051391593550:True:=trivial
theorem PySem.W.Fast.tw13950858603355561602:True:=trivial
theorem PySem.W.Fast.tw5903109173149422529:True:=trivial
theorem PySem.W.Fast.tw11907063307396526026:True:=trivial
theorem PySem.W.Fast.tw17370728062484006899:True:=trivial
theorem PySem.W.Fast.tw10357839053934856933:True:=trivial
theorem PySem.W.Fast.tw13366204680579963718:True:=trivial
open PySem PySem.W PyProof.Rows
set_option maxRecDepth 100000 in
set_option maxHeartbeats 0 in
theorem PySem.Challenge.cw_lumprow_k51_whole_far_lines_holds : PySem.Challenge.rw_lumprow_k51_whole_far_lines.Holds := by
 w_on; o_law; k_head; (case hw => w_witness2)
 k_fill
 refine LK.walk (l := PySem.Challenge.rw_lumprow_k51_whole_far_lines) rfl rfl (fun w h Y => PySem.W.kIn_of Y) ?F
 case F =>
  intro w mg fa h KX G hmg; apply LK.all_mk KX G hmg; all_goals k_is
