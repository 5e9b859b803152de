import PyProof.Rows.All
import Wide.All
import OpenK.AllK
import Wide.FinOn
import Lean
import PyProof.EqAt
import PyProof.EqKinds
import PyProof.TupleCall
import PySem.Challenge.RW_lumprow_k62_ways_between_rows
open Array renaming length_toList→QB,getElem?_toList→GB,getD_eq_getD_getElem?→GH,getElem?_eq_getElem→Kl,getElem?_eq_some_iff→MM,toList_push→MY,getElem_toList→RQ,getD→R3
open Bool renaming false_ne_true→Qu,and_eq_true→QU,false_eq_true→GG,false_or→Ks,eq_iff_iff→KB,or_false→LO,or_eq_true→LS,or_assoc→Mh,and_eq_false_iff→RF,and_false→RK,true_or→Xb
open False renaming elim→KA
open Int renaming le_refl→QE,min_eq_right→Gv,toNat_natCast→GZ,min_eq_left→G2,mul_le_mul_of_nonneg_left→Ka,max_eq_right→Kr,min_le_right→Lc,le_total→Lk,natCast_add→Lq,max_eq_left→LW,emod_lt_of_pos→LY,mul_add→L3,zero_add→L5,le_trans→L9,add_zero→Ma,add_mul→Mm,le_max_left→Mw,emod_nonneg→Mx,sub_zero→ME,fdiv_eq_ediv_of_nonneg→MH,add_assoc→M9,mul_comm→Rx,min_le_left→Ry,max_le→R4,le_min→R5
open List renaming mem_cons_of_mem→Qc,mem_cons_self→Qd,map_cons→Qg,mem_cons→Qh,length_map→Qk,getElem?_eq_some_iff→Qn,size_toArray→Qo,getElem?_map→Qp,length_cons→Qq,map_map→Qt,pairwise_cons→Qv,getElem?_eq_getElem→Qw,length_append→Qx,eq_nil_of_length_eq_zero→Qy,sum_cons→Qz,mem_map→QC,map_congr_left→QD,not_mem_nil→QF,mem_of_getElem?→QG,getElem?_mapIdx→QH,mem_singleton→QJ,map_append→QL,replicate→QN,foldl_cons→QS,nodup_cons→QW,getD_eq_getElem?_getD→QZ,getElem?_append_left→Q0,mem_nil_iff→Q1,getElem?_set→Q3,range→Q9,getElem?_append_right→Ga,mem_append→Gd,flatMap_cons→Gi,ext_getElem?→Gm,pairwise_iff_getElem→Gq,mem_iff_getElem→Gs,count_cons→Gw,length_singleton→GA,getElem?_eq_none→GC,length_zip→GD,append_assoc→GF,mem_append_right→GI,length_replicate→GW,replicate_succ→G6,any_cons→Kb,pairwise_append→Kf,append_nil→Ki,nil_append→Kj,mem_iff_getElem?→Kn,any_eq_true→Kp,toArray→Kt,flatten_cons→Kw,filter_cons_of_neg→Ky,filter_cons_of_pos→Kz,length_reverse→KE,cons_append→KG,length_nil→KM,map_nil→KN,reverse_cons→KQ,length_range→KR,getElem?_zipIdx→KS,length_take→K1,length_drop→K2,zipIdx_cons→K4,of_mem_zip→Ll,find?_cons→Ln,map→Lr,nodup_append→Lz,mem_append_left→LA,all_eq_true→LD,map_id'→LG,getElem?_zip_eq_some→LI,drop_eq_getElem_cons→LJ,getElem?_eq_none_iff→LL,filterMap_cons→LM,lookup→LZ,pairwise_singleton→L0,pairwise_map→Mb,count_append→Mc,ext_getElem→Mg,zip→Ml,mem_filter→Mn,sum_append→Mp,zip_append→Mq,forIn_cons→Ms,forIn_nil→MK,zip_cons_cons→ML,length_eraseIdx_of_lt→MN,map_replicate→MO,count_eq_zero→MP,count_pos_iff→MQ,mem_replicate→MR,getElem?_replicate→Rb,getElem_mem→Rf,take_length→Rg,getElem?_set_self→Ro,filter_eq_nil_iff→Rw,dropLast_eq_take→Rz,getElem?_zipWith→RA,getElem?_reverse→RB,min?_eq_some_iff→RC,length_filter_le→RG,getElem?_set_ne→RJ,length_dropLast→RL,nodup_nil→RM,map_drop→RX,foldl→R0
open List.Perm renaming cons_inv→R1
open Nat renaming le_refl→Qm,ne_of_lt→Qr,ne_of_gt→QY,lt_of_lt_of_le→Q2,lt_irrefl→Q8,zero_le→Gr,le_trans→Gz,lt_succ_self→GJ,lt_succ_of_lt→GK,le_of_lt→GX,lt_trans→GY,lt_of_le_of_lt→Ke,ble_eq→KC,le_succ→Ld,min_self→Lh,lt_trichotomy→Ly,lt_or_ge→LF,not_lt→Me,le_add_right→Mf,zero_add→MD,le_succ_of_le→MZ,le_of_eq→Rp
open Ne renaming symm→QP
open Option renaming bind_some→QV,map_eq_some_iff→Gk,bind_assoc→GM,map_map→Kh,map_some→Lp,isSome_iff_exists→M3,map_eq_none_iff→Ru
open Option.some renaming inj→QK
open Prod renaming ext→Lm
open PyProof.Rows renaming slot_tuple_getitem→Gf,callWith_type1→Gh
open PyProof.Rows.F renaming plain_set_update_loop→L1,entry_set_update_loop→Rn
open PyProof.Rows.IntsAre renaming length→RS
open PySem renaming wpAny_bind→Qa,wpAny_pure→Qe,wpAny_callSpecial?_slot→QI,wpAny_call_entry→QO,wpAny_newObj_type→QQ,wpAny_field→QX,wpAny_setField_rec→Gb,wpAny_holding→Gn,wpAny_seqItems→Gx,plainId_quiet→GL,codeAny_builtin→GO,wpAny_updateSeq→GP,wpAny_ite_split→GQ,wpAny_attempt→GR,wpAny_isInstance→G5,wpAny_setState_of→G9,wpAny_setField→Kg,wpAny_specialOf→Kk,wpAny_rule→Kq,wpAny_of_eq→Ku,wpAny_truthy_bool→Kv,mem_of_lookup→KD,isSubtype_type→KI,wpAny_passesOwn→KL,wpAny_letGo→KO,wpAny_mono→KU,wpAny_Call_method0_late→K3,isSubtype_stop→K6,wpAny_askSetting→Lb,wpAny_typeNameOfWhole_keyiter→Le,codeAny_mono→Lf,wpAny_Call_Name_kw→Lg,wpAny_loadPart'→Lo,wpAny_pyIter_revIter→LB,wpAny_typeOf→LC,evalArgs_none→LN,wpAny_typeNameOf_keyiter→LP,wpAny_pyIter_list→L4,wpAny_newTuple→L6,wpAny_pyIter_slot→L7,wpAny_tryCatch→L8,wpAny_updateSeq_pair→Mj,wpAny_execs_nil→Mo,wpAny_setEntries_of→My,wpAny_pyIter_tuple→MG,wpAny_handled→M5,wpAny_onRaise→M6,wpAny_eqBool_int→Ra,wpAny_pyIter_zip→Rh,wpAny_throw→RN,wpAny_runValue→RO,wpAny_fieldsOf→RP,Within→R6
open PySem.Around renaming under_plainId→Gu,under→R9
open PySem.Builtin.Builtins renaming bindParams→MB
open PySem.Builtin.Dict renaming showsAll→RE,noArgs→RV
open PySem.Builtin.Dict_items renaming ownsTuple→Mu
open PySem.Builtin.Int renaming intBits→RU
open PySem.Builtin.List renaming listExtendWith→Q7,listLengthHint→G1,listSameRef→Kc,listTooLong→KY,listItems→Li,listUpdate→Rk
open PySem.Builtin.Slice renaming slicePlaces→KJ,sliceAdjust→LH,sliceApplied→MI
open PySem.Builtin.SmallTypes renaming ownedTupleIsFree→QR,nextOf→Q4,ownedTupleHandOut→G8
open PySem.Builtin.Tuple renaming tupleExact→KW,tupleItemsOf→MJ
open PySem.Calls renaming callWith_builtin→G4,spliced_cons→Ko,spliced_nil→Lv,evalArgs_plain→Mi,Name_function_global→MF,call_function_entry→MV
open PySem.Code renaming isFrame→Xa
open PySem.F renaming plainAttrs_list→Q6,plain_extend_loop→Go,slot_zip_next→GN,slot_list_append→GS,type_list_append→GU,plainAttrs_dict→Kx,slot_tuple_iterator_next→KH,args_zip_next_1→KP,slot_list_extend→KZ,type_list_extend→K0,entry_zip_next→K5,plain_min_loop→K7,slot_dict_items→K8,plain_list_iadd→K9,called_set→Lj,slot_enumerate_next→Lu,slot_dict_get→Md,args_tuple_iterator_next_1→Mr,slot_dict_setdefault→Mt,slot_dict_keyiterator_next→Mv,entry_tuple_iterator_next→MA,plain_proto_collect→MC,slot_dict_getitem→MS,args_dict_items_1→MT,entry_extend_loop→MU,args_tuple_add_2→M4,entry_dict_items→M7,args_list_init_2→M8,entry_tuple_add→Rc,args_dict_get_3→Re,args_enumerate_next_1→Ri,type_dict_items→Rj,typeCall_list_1→Rl,entry_list_init→Rm,slot_tuple_add→Rr,entry_dict_get→Rs,slot_dict_keys→Rv,called_list→RT
open PySem.Heap renaming get?_push_of_some→Qf,get?_push_size→Qi,lt_size→Qj,SameBut→QA,get?_update_other→QM,get?_update_self→QT,size_push→Gg,ExtBut→KF,get?_push_ne→MX
open PySem.Heap.ExtBut renaming push→Xg
open PySem.Heap.SameBut renaming update→Gc,refl→Xc
open PySem.Obj renaming data_mapFields→Gy,mapSeq→G7,isFreed_of_fields→Km,cls_mapFields→Lx,mapFields→LQ
open PySem.Paired renaming length→M1
open PySem.PassesOwn renaming never→Ge
open PySem.PyData renaming eqvAll→Ls,canLayAll0→Lw,depthAll→LU,eqv→LX,depth→Mz
open PySem.SetTable renaming below→Q5,grown→La,laid→RW,put→Xe
open PySem.SetTable.below renaming go→Xd
open PySem.SetTable.probe renaming go→M0
open PySem.Shared renaming heap→Xh
open PySem.Str renaming ofString→Gj
open PySem.Value renaming isInt_shape→MW,isInt→RH
open PySem.W renaming cellsFrom_some→Rq,kitx_tuple→RY,callWith_K→RZ,specialIn→R7,kitx_dict→R8
open PySem.W.KasT renaming kasWp_bind→LV
open PySem.pickOrder renaming go→Xf
open Sum.inl renaming inj→RI
set_option Elab.async false
set_option linter.all false
set_option maxRecDepth 100000
set_option maxHeartbeats 4000000
open PySem.W (instObj methodObj Frag lookIn plainGet hasDictIn findIn plainOver takerIn makesIn emptyDict mroIn kitOne kia_one kitx_list keepIn fnOf codeIn nsIn KdlKeysView kitAny mg_of mg_none_of)
noncomputable section
namespace L2
open PySem PySem.Spec PyProof.Rows
noncomputable abbrev Key:=Sum Int Str
noncomputable def WO:Key->Value->Bool
 | .inl k,v=>RH k v
 | .inr x,v=>Value.isStrOf x v
noncomputable def Jr6(w:World):Key->Int
 | .inl k=>hashInt k
 | .inr x=>hashStr w x
theorem JO:∀{k:Key} {v:Value},WO k v=true->(∃i t,k=Sum.inl i/\v=Value.int i t)\/(∃x t,k=Sum.inr x/\v=Value.str x t)
 | .inl i,v,h=>by obtain⟨t,e⟩:=MW (k:=i) (v:=v) h;exact .inl ⟨i,t,rfl,e⟩
 | .inr x,v,h=>by obtain⟨t,e⟩:=Value.isStrOf_shape (x:=x) (v:=v) h;exact .inr ⟨x,t,rfl,e⟩
theorem Jhn(i:Int)(t:Tok):WO (.inl i) (.int i t)=true:=by simp[WO,RH]
theorem Jho(x:Str)(t:Tok):WO (.inr x) (.str x t)=true:=by simp[WO,Value.isStrOf]
theorem Jox(a b:Int):decide ((Sum.inl a:Key)=Sum.inl b)=(a == b):=by
 by_cases e:a=b
 ·subst e;simp
 ·have h:¬(Sum.inl a:Key)=Sum.inl b:=fun q=>e (RI q)
  rw[decide_eq_false h];exact(beq_eq_false_iff_ne.mpr e).symm
theorem JoA(a b:Str):decide ((Sum.inr a:Key)=Sum.inr b)=decide (a=b):=by
 by_cases e:a=b
 ·subst e;simp
 ·have h:¬(Sum.inr a:Key)=Sum.inr b:=fun q=>e (Sum.inr.inj q)
  rw[decide_eq_false h,decide_eq_false e]
theorem Joy(a:Int)(b:Str):decide ((Sum.inl a:Key)=Sum.inr b)=false:=decide_eq_false (fun q=>nomatch q)
theorem Joz(a:Str)(b:Int):decide ((Sum.inr a:Key)=Sum.inl b)=false:=decide_eq_false (fun q=>nomatch q)
noncomputable def JA(prog:Program)(w:World):PySem.KeyKind prog w Key where
 is:=WO
 hash:=Jr6 w
 inj:=fun v a b ha hb=>by
  rcases JO ha with ⟨i,t,rfl,rfl⟩|⟨x,t,rfl,rfl⟩
  ·rcases JO hb with ⟨j,u,rfl,e⟩|⟨y,u,rfl,e⟩
   ·injection e with e1 _;rw[e1]
   ·exact nomatch e
  ·rcases JO hb with ⟨j,u,rfl,e⟩|⟨y,u,rfl,e⟩
   ·exact nomatch e
   ·injection e with e1 _;rw[e1]
 byValue:=fun k v h=>by rcases JO h with ⟨i,t,rfl,rfl⟩|⟨x,t,rfl,rfl⟩ <;> rfl
 pyHash:=fun hv h=>by
  rcases JO hv with ⟨i,t,rfl,rfl⟩|⟨x,t,rfl,rfl⟩
  ·exact wpAny_pyHash_int h
  ·exact wpAny_pyHash_str h
 eqBool:=fun hu hv h=>by
  rcases JO hu with ⟨i,t,rfl,rfl⟩|⟨x,t,rfl,rfl⟩
  ·rcases JO hv with ⟨j,u,rfl,rfl⟩|⟨y,u,rfl,rfl⟩
   ·rw[Jox] at h;exact Ra h
   ·rw[Joy] at h;exact SeqAt.EqAt.int_str i t y u _ _ _ _ h
  ·rcases JO hv with ⟨j,u,rfl,rfl⟩|⟨y,u,rfl,rfl⟩
   ·rw[Joz] at h;exact SeqAt.EqAt.str_int x t j u _ _ _ _ h
   ·rw[JoA] at h;exact wpAny_eqBool_str h
 «strs»:=fun k x t v h=>by
  rcases JO h with ⟨i,u,rfl,e⟩|⟨y,u,rfl,e⟩
  ·exact nomatch e
  ·injection e with e1 _
   subst e1;cases v <;> rfl
theorem Jdd(prog:Program)(w:World)(i:Int)(t:Tok):(JA prog w).is (.inl i) (.int i t)=true:=Jhn i t
theorem Jde(prog:Program)(w:World)(x:Str)(t:Tok):(JA prog w).is (.inr x) (.str x t)=true:=Jho x t
inductive V where
 | non|bl (b:Bool)|int (i:Int)|str (x:Str)|byt (b:Array UInt8)|flt (b:UInt64)|ref (a:Addr)|ty (n:String)
 deriving DecidableEq
noncomputable def RelV:V->Value->Prop
 | .non,u=>u=Value.none
 | .bl b,u=>u=Value.bool b
 | .int i,u=>∃t,u=Value.int i t
 | .str x,u=>∃t,u=Value.str x t
 | .byt b,u=>∃t,u=Value.bytes b t
 | .flt b,u=>∃t,u=Value.float b t
 | .ref a,u=>u=Value.ref a
 | .ty n,u=>u=Value.type n
noncomputable abbrev Vals:List V->List Value->Prop:=Paired RelV
theorem Vals.length(r:Vals xs us):xs.length=us.length:=M1 r
theorem Vals.get:∀{xs:List V} {us:List Value} {i:Nat} {x:V},Vals xs us->xs[i]?=some x->∃u,us[i]?=some u/\RelV x u
 | _,_,_,_,.nil,e=>by simp at e
 | _,_,0,_,.cons r _,e=>by simp at e;subst e;exact⟨_,rfl,r⟩
 | _,_,i+1,x,.cons _ t,e=>by obtain⟨u,h1,h2⟩:=Vals.get (i:=i) (x:=x) t (by simpa using e);exact⟨u,by simpa using h1,h2⟩
theorem Vals.append:∀{xs ys:List V} {us ws:List Value},Vals xs us->Vals ys ws->Vals (xs++ys) (us++ws)
 | _,_,_,_,.nil,s=>s
 | _,_,_,_,.cons r t,s=>.cons r (Vals.append t s)
theorem Vals.take:∀{xs:List V} {us:List Value} (n:Nat),Vals xs us->Vals (xs.take n) (us.take n)
 | _,_,0,_=>.nil
 | _,_,_+1,.nil=>.nil
 | _,_,n+1,.cons r t=>.cons r (Vals.take n t)
theorem Vals.drop:∀{xs:List V} {us:List Value} (n:Nat),Vals xs us->Vals (xs.drop n) (us.drop n)
 | _,_,0,r=>r
 | _,_,_+1,.nil=>.nil
 | _,_,n+1,.cons _ t=>Vals.drop n t
noncomputable def RelO:Option V->Option Value->Prop
 | some v,some u=>RelV v u
 | none,none=>True
 | _,_=>False
noncomputable def KV{κ:Type}:List (κ×V)->List (κ×Value)->Prop:=Paired fun(p:κ×V) (q:κ×Value)=>p.1=q.1/\RelV p.2 q.2
noncomputable def kV:Key->V
 | .inl i=>.int i
 | .inr x=>.str x
inductive HO where
 | lst (xs:List V)
 | tup (xs:List V)
 | dK (kvs:List (Key×V))|dT (kvs:List (List Key×V))
 | set (S:Int->Bool) (n:Nat)
 | ins (C dx:Addr) (fs:List (Str×V))
 | own (x:Addr)
 | xd (fs:List (Str×V))
 | met (f x:Addr)
 | rng (lo hi:Int)
 | frz (o:Obj) (u:HO)
 | tbl (ps:Array Value)
 | ext (φ:Heap->Prop)
noncomputable abbrev Hp:=Addr->Option HO
noncomputable def upd(H:Hp)(a:Addr)(o:HO):Hp:=fun b=>if b=a then some o else H b
theorem Jk:upd H a o a=some o:=by unfold upd;rw[if_pos rfl]
theorem Jh(h:b≠a):upd H a o b=H b:=by unfold upd;rw[if_neg h]
theorem Ja2{H:Hp}{a b:Addr}{o u:HO}(h:H a=some o)(h':H b=some u)(d:o≠u):a≠b:=by intro e;subst e;rw[h] at h';exact d (QK h')
theorem Jo{H:Hp}{a b:Addr}{o:HO}(h:H a=some o)(h':H b=none):a≠b:=by intro e;subst e;rw[h] at h';cases h'
section
variable(P:Program)(w:World)
noncomputable def ObjOk(H:Hp)(h:Heap)(a:Addr):HO->Prop
 | .lst xs=>xs.length<=sizeLine/\∃(its:List Value) (n:Nat),Vals xs its/\h.get? a=some { cls:=.type "list",data:=.seq its.toArray n }
 | .tup xs=>xs.length<=sizeLine/\∃its:List Value,Vals xs its/\IsTup h a its.toArray
 | .dK kvs=>kvs.length<=sizeLine/\(a == sysModules)=false/\∃vs,KV kvs vs/\h.DictOf (JA P w) a vs
 | .dT kvs=>kvs.length<=sizeLine/\(a == sysModules)=false/\∃xs:List (List Key×Addr×Value),
  Paired (fun(p:List Key×V) (q:List Key×Addr×Value)=>p.1=q.1/\H q.2.1=some (.tup (p.1.map kV))/\RelV p.2 q.2.2) kvs xs ∧
  ∃o es ep,h.get? a=some o/\o.ExactDict/\o.data=.dict es ep/\es.toList=xs.map (entryOfKey (tupleKind (JA P w)))/\(xs.map (·.1)).Nodup
 | .set S n=>h.SetOf (intKind P w) a S n
 | .ins C dx fs=>H dx=some (.own a)/\fs.length<=1000/\dx≠a/\h.get? a=some (instObj C dx) ∧
  ∃mA,h.Ns1 dx mA/\(∀f,RelO (fs.lookup f) (mA f))/\R6 mA (fs.map (·.1))
 | .own _=>∃o,h.get? a=some o
 | .xd fs=>∃mA,h.Ns1 a mA/\∀f,RelO (fs.lookup f) (mA f)
 | .rng lo hi=>∃t u v,h.get? a=some { cls:=.type "range",data:=.fields #[.int lo t,.int hi u,.int 1 v] }
 | .frz o u=>h.get? a=some o/\ObjOk H h a u
 | .tbl ps=>h.get? a=some { cls:=.none,data:=.fields ps }
 | .met f x=>h.get? a=some (methodObj (.ref f) (.ref x))
 | .ext φ=>φ h/\(∃o,h.get? a=some o)/\∀h1 h2:Heap,φ h1->(∀o,h1.get? a=some o->h2.get? a=some o)->φ h2
noncomputable def HOk(H:Hp)(h:Heap):Prop:=∀a o,H a=some o->ObjOk P w H h a o
end
theorem ObjOk.lt(x:ObjOk P w H h a o):a<h.objs.size:=by
 cases o with
 | lst xs=>obtain⟨_,_,_,_,e⟩:=x;exact Qj e
 | tup xs=>obtain⟨_,_,_,p⟩:=x;exact p.lt
 | dK kvs=>obtain⟨_,_,_,_,o,_,_,e,_⟩:=x;exact Qj e
 | dT kvs=>obtain⟨_,_,_,_,o,_,_,e,_⟩:=x;exact Qj e
 | set S n=>obtain⟨o,_,_,_,e,_⟩:=x;exact Qj e
 | ins C dx fs=>obtain⟨_,_,_,e,_⟩:=x;exact Qj e
 | own y=>obtain⟨_,e⟩:=x;exact Qj e
 | xd fs=>obtain⟨_,⟨_,_,_,e,_⟩,_⟩:=x;exact Qj e
 | rng lo hi=>obtain⟨_,_,_,e⟩:=x;exact Qj e
 | frz ob u=>obtain⟨e,_⟩:=x;exact Qj e
 | tbl ps=>exact Qj (show h.get? a=some _ from x)
 | met f y=>exact Qj (show h.get? a=some _ from x)
 | ext φ=>obtain⟨_,⟨_,e⟩,_⟩:=x;exact Qj e
theorem Paired.mapP{α β:Type}{F G:α->β->Prop}:∀{l₁:List α} {l₂:List β},Paired F l₁ l₂->(∀a b,F a b->G a b)->Paired G l₁ l₂
 | _,_,.nil,_=>.nil
 | _,_,.cons r t,f=>.cons (f _ _ r) (Paired.mapP t f)
theorem ObjOk.stay(x:ObjOk P w H h a o)(k:∀b u,(b=a\/H b=some (.own a))->h.get? b=some u->h'.get? b=some u)
 (ho:∀b,H b=some (.own a)->H' b=some (.own a)) (ht:∀b xs,H b=some (.tup xs)->H' b=some (.tup xs)):ObjOk P w H' h' a o:=by
 induction o with
 | lst xs=>obtain⟨z,its,n,r,e⟩:=x;exact⟨z,its,n,r,k _ _ (.inl rfl) e⟩
 | tup xs=>obtain⟨z,its,r,ob,e,c⟩:=x;exact⟨z,its,r,ob,k _ _ (.inl rfl) e,c⟩
 | dK kvs=>obtain⟨z,y,vs,r,ob,es,ep,e,c⟩:=x;exact⟨z,y,vs,r,ob,es,ep,k _ _ (.inl rfl) e,c⟩
 | dT kvs=>obtain⟨z,y,xs,r,ob,es,ep,e,c⟩:=x;exact⟨z,y,xs,Paired.mapP r fun p q z=>⟨z.1,ht _ _ z.2.1,z.2.2⟩,ob,es,ep,k _ _ (.inl rfl) e,c⟩
 | set S n=>obtain⟨ob,es,ep,t,e,c⟩:=x;exact⟨ob,es,ep,t,k _ _ (.inl rfl) e,c⟩
 | ins C dx fs=>obtain⟨d,z,ne,e,mA,⟨od,es,ep,e2,c⟩,r⟩:=x;exact⟨ho _ d,z,ne,k _ _ (.inl rfl) e,mA,⟨od,es,ep,k _ _ (.inr d) e2,c⟩,r⟩
 | own y=>obtain⟨ob,e⟩:=x;exact⟨ob,k _ _ (.inl rfl) e⟩
 | xd fs=>obtain⟨mA,⟨od,es,ep,e,c⟩,r⟩:=x;exact⟨mA,⟨od,es,ep,k _ _ (.inl rfl) e,c⟩,r⟩
 | rng lo hi=>obtain⟨t,u,v,e⟩:=x;exact⟨t,u,v,k _ _ (.inl rfl) e⟩
 | frz ob u ih=>obtain⟨e,q⟩:=x;exact⟨k _ _ (.inl rfl) e,ih q⟩
 | tbl ps =>
  have e:h.get? a=some { cls:=.none,data:=.fields ps }:=x
  show h'.get? a=some { cls:=.none,data:=.fields ps };exact k a _ (.inl rfl) e
 | met f y =>
  have e:h.get? a=some (methodObj (.ref f) (.ref y)):=x
  show h'.get? a=some (methodObj (.ref f) (.ref y));exact k a _ (.inl rfl) e
 | ext φ=>obtain⟨p,⟨o,e⟩,st⟩:=x;exact⟨st _ _ p fun o q=>k _ _ (.inl rfl) q,⟨o,k _ _ (.inl rfl) e⟩,st⟩
theorem HOk.lt(x:HOk P w H h)(e:H a=some o):a<h.objs.size:=(x a o e).lt
theorem HOk.fresh(x:HOk P w H h)(e:h.objs.size<=a):H a=none:=by
 cases q:H a with
 | none=>rfl
 | some u=>exact absurd (Q2 (x.lt q) e) (Q8 _)
theorem HOk.kept(x:HOk P w H h)(k:∀b u,h.get? b=some u->h'.get? b=some u):HOk P w H h':=fun a o e=>(x a o e).stay (fun b u _ q=>k b u q) (fun _ q=>q) fun _ _ q=>q
theorem HOk.laid(x:HOk P w H h)(k:∀b u,h.get? b=some u->h'.get? b=some u)(hp:h.objs.size<=a)(new:ObjOk P w (upd H a o) h' a o):HOk P w (upd H a o) h':=fun b u e=>by
 have hn:=x.fresh hp
 by_cases hb:b=a
 ·subst hb;rw[Jk] at e;cases e;exact new
 ·rw[Jh hb] at e;exact(x b u e).stay (fun c v _ q=>k c v q) (fun c q=>by rw[Jh (Jo q hn)];exact q) fun c xs q=>by rw[Jh (Jo q hn)];exact q
noncomputable def Rd(H:Hp)(a:Addr)(u:HO):Prop:=H a=some u\/∃o,H a=some (.frz o u)
theorem Rd.ok(r:Rd H a u)(x:HOk P w H h):ObjOk P w H h a u:=by
 rcases r with r|⟨o,r⟩
 ·exact x a u r
 ·obtain⟨_,q⟩:=x a _ r;exact q
noncomputable def Mut:Option HO->Prop
 | some (.lst _)=>True
 | some (.dK _)=>True
 | some (.dT _)=>True
 | some (.set _ _)=>True
 | some (.ins _ _ _)=>True
 | some (.ext _)=>True
 | _=>False
theorem HOk.write(ok:HOk P w H h)(mu:Mut (H x))(he:e=x\/H e=some (.own x))(k:∀b u,b≠e->h.get? b=some u->h'.get? b=some u)(heo:∃u,h'.get? e=some u)
 (new:ObjOk P w (upd H x o') h' x o'):HOk P w (upd H x o') h':=fun b u q=>by
 have nown:∀c y,H c=some (.own y)->c≠x:=fun c y r z=>by subst z;rw[r] at mu;exact mu
 have ntup:∀c xs,H c=some (.tup xs)->c≠x:=fun c xs r z=>by subst z;rw[r] at mu;exact mu
 by_cases hb:b=x
 ·subst hb;rw[Jk] at q;cases q;exact new
 ·rw[Jh hb] at q
  by_cases hbe:b=e
  ·have q':H b=some (.own x):=by
    rcases he with z|z
    ·exact absurd (hbe.trans z) hb
    ·rw[hbe];exact z
   rw[q] at q';cases q';obtain⟨v,hv⟩:=heo;exact⟨v,by rw[hbe];exact hv⟩
  ·refine(ok b u q).stay (fun c v hc r=>k c v ?_ r) (fun c r=>by rw[Jh (nown c b r)];exact r) fun c xs r=>by rw[Jh (ntup c xs r)];exact r
   rcases hc with rfl|hc
   ·exact hbe
   ·rintro rfl;rcases he with z|z
    ·exact nown c b hc z
    ·rw[hc] at z;cases z;exact hb rfl
structure Un (fs ex:List Addr) (H H':Hp) (h h':Heap):Prop where
 keep:∀b o,h.get? b=some o->H b=none->b∉fs->b∉ex->h'.get? b=some o
 slot:∀b o,h.get? b=some o->H b=none->b∈fs->b∉ex->∃sl,h'.get? b=some { o with slots:=sl }
 free:∀b o,h.get? b=some o->H b=none->b∉ex->H' b=none
 there:∀b o,h.get? b=some o->b∉ex->∃o',h'.get? b=some o'
 tups:∀b xs,H b=some (.tup xs)->H' b=some (.tup xs)
 frzs:∀b o u,H b=some (.frz o u)->H' b=some (.frz o u)
 tbls:∀b ps,H b=some (.tbl ps)->∃more,H' b=some (.tbl (ps++more))
section
variable{fs fs' ex ex':List Addr}{H H1 H2:Hp}{h h1 h2 h':Heap}{a x e:Addr}{o:HO}
theorem Un.any(u:Un fs ex H H1 h h1)(q:h.get? b=some ob)(n:H b=none)(hx:b∉ex):∃sl,h1.get? b=some { ob with slots:=sl }:=by
 by_cases hb:b∈fs
 ·exact u.slot b ob q n hb hx
 ·exact⟨ob.slots,u.keep b ob q n hb hx⟩
theorem Un.kept(k:∀b u,h.get? b=some u->h'.get? b=some u):Un fs ex H H h h' :=
 ⟨fun b ob q _ _ _=>k b ob q,fun b ob q _ _ _=>⟨ob.slots,k b ob q⟩,fun _ _ _ n _=>n,fun b ob q _=>⟨ob,k b ob q⟩,fun _ _ q=>q,fun _ _ _ q=>q,fun _ ps q=>⟨#[],by rw[q];simp⟩⟩
theorem Un.refl:Un fs ex H H h h:=Un.kept fun _ _ q=>q
theorem Un.laid(k:∀b u,h.get? b=some u->h'.get? b=some u)(hp:h.objs.size<=a)(hn:H a=none):Un fs ex H (upd H a o) h h' where
 keep:=fun b u q _ _ _=>k b u q
 slot:=fun b u q _ _ _=>⟨u.slots,k b u q⟩
 free:=fun b u q n _=>by rw[Jh (Qr (Q2 (Qj q) hp))];exact n
 there:=fun b u q _=>⟨u,k b u q⟩
 tups:=fun b xs q=>by rw[Jh (Jo q hn)];exact q
 frzs:=fun b u xs q=>by rw[Jh (Jo q hn)];exact q
 tbls:=fun b ps q=>⟨#[],by rw[Jh (Jo q hn),q];simp⟩
theorem Un.write(mu:Mut (H x))(he:e=x\/H e=some (.own x))(k:∀b u,b≠e->h.get? b=some u->h'.get? b=some u)(heo:∃u,h'.get? e=some u):Un fs ex H (upd H x o) h h':=by
 have hx:∀b,H b=none->b≠x:=fun b n z=>by subst z;rw[n] at mu;exact mu
 have hb:∀b,H b=none->b≠e:=fun b n z=>by
  subst z;rcases he with r|r
  ·exact hx b n r
  ·rw[n] at r;cases r
 have hm:∀b u,H b=some u->¬Mut (some u)->b≠x:=fun b u q nm z=>by subst z;rw[q] at mu;exact nm mu
 refine⟨fun b u q n _ _=>k b u (hb b n) q,fun b u q n _ _=>⟨u.slots,k b u (hb b n) q⟩,fun b u q n _=>by rw[Jh (hx b n)];exact n,fun b u q _=>?_,
  fun b xs q=>by rw[Jh (hm b _ q fun z=>z)];exact q,fun b u xs q=>by rw[Jh (hm b _ q fun z=>z)];exact q,fun b ps q=>⟨#[],by rw[Jh (hm b _ q fun z=>z),q];simp⟩⟩
 by_cases hbe:b=e
 ·subst hbe;exact heo
 ·exact⟨u,k b u hbe q⟩
end
noncomputable def trk(h:Heap)(H:Hp):List Addr:=(Q9 h.objs.size).filter fun a=>(H a).isSome
noncomputable def JbF(h:Heap)(H:Hp):Heap:=PySem.W.hideAll h (trk h H)
theorem Jhe(h:Heap)(H:Hp):(JbF h H).objs.size=h.objs.size:=PySem.W.hideAll_size _ _
theorem Ji2(e:h.get? b=some o)(n:H b=none):(JbF h H).get? b=some o :=
 PySem.W.hideAll_get _ e fun hm=>by have q:(H b).isSome=true:=(Mn.mp hm).2;rw[n] at q;simp at q
theorem JlX(e:(JbF h H).get? b=some o):h.get? b=some o/\H b=none:=by
 have e':h.get? b=some o:=PySem.W.of_hideAll (trk h H) e;refine⟨e',?_⟩
 cases q:H b with
 | none=>rfl
 | some x =>
  have hm:b∈trk h H:=Mn.mpr ⟨List.mem_range.mpr (Qj e'),by simp[q]⟩
  have z:(JbF h H).get? b=none:=PySem.W.hideAll_none (trk h H) hm;rw[z] at e;cases e
noncomputable def JkW(g h:Heap)(L:Addr):List (Addr×Obj):=(Q9 h.objs.size).filterMap fun a=>if a=L\/(g.get? a).isSome=true then none else(h.get? a).map fun o=>(a,o)
noncomputable def rest(g h:Heap)(L d:Addr):List (Addr×Obj):=(JkW g h L).filter fun p=>decide (p.1≠d)
structure Mod (K:Frag) (mg:Str->Option Value) (base:Heap):Prop where
 kin:K.In base
 glob:base.Ns mainGlobals mg
 blt:∃mb,base.Ns builtinsNs mb/\∀x:Str,x≠"__name__"->mb x=bootBuiltins x
 nolimit:base.NoLimit
structure Cx where
 prog:Program
 w:World
 K:Frag
 mg:Str->Option Value
 base:Heap
 A:Around
 N:List Str
 s₀:Shared
 H₀:Hp
 env:Env
 outer:List Env
 stack:List Env
 ex:List Addr
 fn:Str->Bool
 calm:Bool
 pn:List (Addr×Obj)
 xe:Value->Shared->Prop
noncomputable def frs(l:List Env):List Addr:=l.filterMap (·.frame)
noncomputable abbrev Cx.fs(X:Cx):List Addr:=frs X.outer
noncomputable def Vis(sc:Scope)(x:Str):Prop:=sc.names.lookup x=some .local\/sc.names.lookup x=some .cell\/sc.names.lookup x=some .free
noncomputable def Loc(sc:Scope)(x:Str):Prop:=sc.names.lookup x=some .local\/sc.names.lookup x=some .cell
noncomputable def Jr0(env:Env)(h:Heap)(m:Str->Option Value)(x:Str)(u:Value):Prop :=
 (env.kindOf x=some .local/\m x=some u)\/((env.kindOf x=some .cell\/env.kindOf x=some .free)/\∃c,env.cells.lookup x=some c/\h.IsCell c (some u))
structure Cx.Ok (X:Cx):Prop where
 mod:Mod X.K X.mg X.base
 kind:X.env.scope.kind=.function
 glob:X.env.globals=mainGlobals
 blt:X.env.builtins=builtinsNs
 above:X.s₀.heap.objs.size<=X.env.locals
 inj:∀x y c,X.env.cells.lookup x=some c->X.env.cells.lookup y=some c->x=y
 has:∀x,(X.env.kindOf x=some .cell\/X.env.kindOf x=some .free)->∃c,X.env.cells.lookup x=some c
 cab:∀x c,X.fn x=true->X.env.cells.lookup x=some c->X.s₀.heap.objs.size<=c
 hd:X.calm=true->X.A.handled=none
 frames:X.A.frames=some X.stack
 stk:X.stack=X.outer\/(X.stack=X.env::X.outer/\X.env.frame=some X.env.locals)
 exf:∀b∈X.ex,b≠X.env.locals/\∀x c,X.env.cells.lookup x=some c->c≠b
 bs:∀b o,X.base.get? b=some o->X.s₀.heap.get? b=some o/\X.H₀ b=none
 bsz:X.base.objs.size<=X.s₀.heap.objs.size
 noex:∀b o,X.base.get? b=some o->b∉X.ex
 exfs:∀b∈X.ex,b∉X.fs
 funs:X.s₀.heap.FunFrames X.base X.outer
 frf:∀b∈X.fs,X.H₀ b=none
structure Inv (X:Cx) (pins:List (Addr×Obj)) (σ:List (Option V)) (H:Hp) (s:Shared):Prop where
 ok:X.Ok
 os:s.os=X.s₀.os
 bare:AllBare s.gens
 base:Un X.fs X.ex X.H₀ H X.s₀.heap s.heap
 loc:∃m,s.heap.Ns X.env.locals m/\∀(i:Nat) (x:Str) (v:V),X.N[i]?=some x->σ[i]?=some (some v)->Vis X.env.scope x->∃u,RelV v u/\Jr0 X.env s.heap m x u
 cell:∀x c,X.env.cells.lookup x=some c->∃v,s.heap.IsCell c v
 free:H X.env.locals=none
 freeC:∀x c,X.env.cells.lookup x=some c->H c=none
 pin:∀p∈X.pn++pins,s.heap.get? p.1=some p.2/\H p.1=none/\p.1≠X.env.locals/\p.1∉X.fs/\∀v,p.2.data≠.cell v
 hok:HOk X.prog X.w H s.heap
 len:σ.length=X.N.length
section
variable{X:Cx}{pins:List (Addr×Obj)}{σ:List (Option V)}{H H':Hp}{s:Shared}{h':Heap}
theorem Cx.Ok.nofr(ok:X.Ok)(e:X.base.get? b=some o):b∉X.fs:=fun hb=>by have:=(ok.funs.mem hb).1;rw[e] at this;cases this
theorem Inv.bs(I:Inv X pins σ H s):∀b o,X.base.get? b=some o->s.heap.get? b=some o/\H b=none:=fun b o e=>⟨I.base.keep b o (I.ok.bs b o e).1 (I.ok.bs b o e).2 (I.ok.nofr e) (I.ok.noex b o e),I.base.free b o (I.ok.bs b o e).1 (I.ok.bs b o e).2 (I.ok.noex b o e)⟩
theorem Inv.bk(I:Inv X pins σ H s):∀b o,X.base.get? b=some o->s.heap.get? b=some o:=fun b o e=>(I.bs b o e).1
theorem Inv.mod(I:Inv X pins σ H s):Mod X.K X.mg X.base:=I.ok.mod
theorem Inv.kIn(I:Inv X pins σ H s):X.K.In s.heap:=I.ok.mod.kin.keeps I.bk
theorem Inv.nolimit(I:Inv X pins σ H s):s.heap.NoLimit:=I.ok.mod.nolimit.keeps I.bk
theorem Inv.fr(I:Inv X pins σ H s):∃m,Fr X.base X.env.locals s.heap m :=
 let ⟨m,hn,_⟩:=I.loc
 ⟨m,hn,I.bk,Gz I.ok.bsz I.ok.above⟩
theorem Inv.lt(I:Inv X pins σ H s):X.env.locals<s.heap.objs.size:=let ⟨_,hn,_⟩:=I.loc;hn.lt
theorem Inv.sz(I:Inv X pins σ H s):X.s₀.heap.objs.size<=s.heap.objs.size:=Gz I.ok.above (GX I.lt)
theorem Inv.nofs(I:Inv X pins σ H s){a:Addr}(h:s.heap.objs.size<=a):a∉X.fs:=fun hb=>by obtain⟨_,o,ho,_⟩:=I.ok.funs.mem hb;exact absurd (Q2 (Qj ho) (Gz I.sz h)) (Q8 _)
theorem Inv.cne(I:Inv X pins σ H s):∀x c,X.env.cells.lookup x=some c->c≠X.env.locals:=fun x c e z=>by obtain⟨v,o,ho,hd⟩:=I.cell x c e;obtain⟨m,⟨o',es,ep,ho',hd',_⟩,_⟩:=I.loc;rw[z,ho'] at ho;cases ho;rw[hd'] at hd;cases hd
theorem Inv.funs(I:Inv X pins σ H s):s.heap.FunFrames X.base X.outer:=by
 have all:∀(l:List Env),(∀b∈frs l,b∈X.fs)->X.s₀.heap.FunFrames X.base l->s.heap.FunFrames X.base l:=by
  intro l
  induction l with
  | nil=>intro _ _;trivial
  | cons env r ih =>
   intro hs hl;obtain⟨hk,⟨L,o,hf,hn,ho,hd⟩,hr⟩:=hl;have hL:L∈X.fs:=hs L (by unfold frs;rw[LM,hf];exact Qd);obtain⟨sl,e⟩:=I.base.slot L o ho (I.ok.frf L hL) hL fun z=>I.ok.exfs L z hL
   exact⟨hk,⟨L,_,hf,hn,e,hd⟩,ih (fun b hb=>hs b (by unfold frs;rw[LM,hf];exact Qc _ hb)) hr⟩
 exact all X.outer (fun _ hb=>hb) I.ok.funs
theorem Inv.stack(I:Inv X pins σ H s):s.heap.FunFrames X.base X.stack:=by
 rcases I.ok.stk with e|⟨e,hf⟩
 ·rw[e];exact I.funs
 ·rw[e];obtain⟨m,hn,_⟩:=I.loc;refine .cons (by rw[I.ok.kind];decide) hf hn ?_ I.funs;exact Heap.get?_none_of_le (Gz I.ok.bsz I.ok.above)
theorem Inv.stkSub(I:Inv X pins σ H s):∀b∈frs X.stack,b∈X.env.locals::X.fs:=fun b hb=>by
 rcases I.ok.stk with e|⟨e,hf⟩
 ·rw[e] at hb;exact Qc _ hb
 ·rw[e] at hb;unfold frs at hb;rw[LM,hf] at hb;exact hb
theorem Inv.stkFree(I:Inv X pins σ H s):∀b∈frs X.stack,H b=none:=fun b hb=>by
 rcases Qh.mp (I.stkSub b hb) with e|hb
 ·rw[e];exact I.free
 ·obtain⟨_,o,ho,_⟩:=I.ok.funs.mem hb;exact I.base.free b o ho (I.ok.frf b hb) fun z=>I.ok.exfs b z hb
theorem Inv.step{g':Array GenState}{t':Nat}{d':Drawn}{ch:List Addr}(I:Inv X pins σ H s)
 (hch:∀b∈ch,(b∈X.ex\/X.s₀.heap.objs.size<=b)/\b≠X.env.locals/\(∀x c,X.env.cells.lookup x=some c->c≠b)/\∀p∈X.pn++pins,p.1≠b)
 (keep:∀b o,b≠X.env.locals->b∉X.fs->b∉ch->s.heap.get? b=some o->H b=none->h'.get? b=some o)
 (slot:∀b o,b≠X.env.locals->b∈X.fs->b∉ch->s.heap.get? b=some o->H b=none->∃sl,h'.get? b=some { o with slots:=sl }) (free:∀b o,b∉ch->s.heap.get? b=some o->H b=none->H' b=none)
 (there:∀b o,b∉ch->s.heap.get? b=some o->∃o',h'.get? b=some o')
 (tups:∀b xs,H b=some (.tup xs)->H' b=some (.tup xs)) (frzs:∀b o u,H b=some (.frz o u)->H' b=some (.frz o u)) (tbls:∀b ps,H b=some (.tbl ps)->∃more,H' b=some (.tbl (ps++more)))
 (ns:∀m,s.heap.Ns X.env.locals m->h'.Ns X.env.locals m) (hok:HOk X.prog X.w H' h') (hg:AllBare g') :
 Inv X pins σ H' { s with heap:=h',gens:=g',drawn:=d',toks:=t' }:=by
 have neL:∀b o,X.s₀.heap.get? b=some o->b≠X.env.locals:=fun b o e=>Qr (Q2 (Qj e) I.ok.above)
 have neC:∀b o,X.s₀.heap.get? b=some o->b∉X.ex->b∉ch:=fun b o e hx hb=>by
  rcases(hch b hb).1 with z|z
  ·exact hx z
  ·exact absurd (Q2 (Qj e) z) (Q8 _)
 have cellK:∀x c,X.env.cells.lookup x=some c->∀v,s.heap.IsCell c v->h'.IsCell c v:=fun x c e v ⟨o,ho,hd⟩=>by
  have nch:c∉ch:=fun z=>(hch c z).2.2.1 x c e rfl
  by_cases hc:c∈X.fs
  ·obtain⟨sl,q⟩:=slot c o (I.cne x c e) hc nch ho (I.freeC x c e);exact⟨_,q,hd⟩
  ·exact⟨o,keep c o (I.cne x c e) hc nch ho (I.freeC x c e),hd⟩
 refine⟨I.ok,I.os,hg,⟨fun b o e n hb hx=>?_,fun b o e n hb hx=>?_,fun b o e n hx=>?_,fun b o e hx=>?_,fun b xs e=>tups b xs (I.base.tups b xs e),fun b o xs e=>frzs b o xs (I.base.frzs b o xs e),fun b ps e=>?_⟩,?_,fun x c e=>?_,?_,fun x c e=>?_,fun p hp=>?_,hok,I.len⟩
 ·exact keep b o (neL b o e) hb (neC b o e hx) (I.base.keep b o e n hb hx) (I.base.free b o e n hx)
 ·obtain⟨sl,e1⟩:=I.base.slot b o e n hb hx;obtain⟨sl',e2⟩:=slot b _ (neL b o e) hb (neC b o e hx) e1 (I.base.free b o e n hx);exact⟨sl',e2⟩
 ·obtain⟨o',e1⟩:=I.base.there b o e hx;exact free b o' (neC b o e hx) e1 (I.base.free b o e n hx)
 ·obtain⟨o',e1⟩:=I.base.there b o e hx;exact there b o' (neC b o e hx) e1
 ·obtain⟨m1,e1⟩:=I.base.tbls b ps e;obtain⟨m2,e2⟩:=tbls b _ e1;exact⟨m1++m2,by rw[e2,Array.append_assoc]⟩
 ·obtain⟨m,hn,hl⟩:=I.loc;refine⟨m,ns m hn,fun i x v e1 e2 e3=>?_⟩;obtain⟨u,r,l⟩:=hl i x v e1 e2 e3;refine⟨u,r,?_⟩;rcases l with l|⟨k,c,e,z⟩
  ·exact .inl l
  ·exact .inr ⟨k,c,e,cellK x c e _ z⟩
 ·obtain⟨v,z⟩:=I.cell x c e;exact⟨v,cellK x c e v z⟩
 ·obtain⟨m,⟨o,_,_,ho,_⟩,_⟩:=I.loc;exact free _ o (fun z=>(hch _ z).2.1 rfl) ho I.free
 ·obtain⟨v,o,ho,hd⟩:=I.cell x c e;exact free c o (fun z=>(hch c z).2.2.1 x c e rfl) ho (I.freeC x c e)
 ·obtain⟨e,n,ne,nf,d⟩:=I.pin p hp;have nch:p.1∉ch:=fun z=>(hch p.1 z).2.2.2 p hp rfl
  exact⟨keep p.1 p.2 ne nf nch e n,free p.1 p.2 nch e n,ne,nf,d⟩
theorem Inv.un(I:Inv X pins σ H s)(u:Un X.fs [] H H' s.heap h')(hok:HOk X.prog X.w H' h'):Inv X pins σ H' { s with heap:=h',toks:=t' }:=by
 obtain⟨m,⟨o,es,ep,ho,r⟩,_⟩:=id I.loc;obtain⟨sl,hL⟩:=u.any ho I.free (by simp);exact I.step (g':=s.gens) (d':=s.drawn) (ch:=[]) (fun _ z=>nomatch z) (fun b o _ hb _ e n=>u.keep b o e n hb (by simp)) (fun b o _ hb _ e n=>u.slot b o e n hb (by simp)) (fun b o _ e n=>u.free b o e n (by simp)) (fun b o _ e=>u.there b o e (by simp)) u.tups u.frzs u.tbls (fun m' hm=>by obtain⟨o',es',ep',ho',r'⟩:=hm;rw[ho] at ho';cases ho';exact⟨_,es',ep',hL,r'⟩) hok I.bare
theorem Inv.call(I:Inv X pins σ H s)(u:Un (frs X.stack) ch H H' s.heap h')(hok:HOk X.prog X.w H' h')(hg:AllBare g')(hch:∀b∈ch,(b∈X.ex\/X.s₀.heap.objs.size<=b)/\b≠X.env.locals/\(∀x c,X.env.cells.lookup x=some c->c≠b)/\∀p∈X.pn++pins,p.1≠b):
 Inv X pins σ H' { s with heap:=h',gens:=g',drawn:=d',toks:=t' }:=by
 obtain⟨m,⟨o,es,ep,ho,r⟩,_⟩:=id I.loc;obtain⟨sl,hL⟩:=u.any ho I.free fun z=>(hch _ z).2.1 rfl
 exact I.step (ch:=ch) hch (fun b o hL hb hc e n=>u.keep b o e n (fun z=>(Qh.mp (I.stkSub b z)).elim hL hb) hc) (fun b o _ _ hc e n=>u.any e n hc) (fun b o hc e n=>u.free b o e n hc) (fun b o hc e=>u.there b o e hc) u.tups u.frzs u.tbls (fun m' hm=>by obtain⟨o',es',ep',ho',r'⟩:=hm;rw[ho] at ho';cases ho';exact⟨_,es',ep',hL,r'⟩) hok hg
theorem Inv.turned(I:Inv X pins σ H s)(k:∀b o,b≠it->s.heap.get? b=some o->h'.get? b=some o)(hn:H it=none)(hL:it≠X.env.locals)(h1:it∈X.ex\/X.s₀.heap.objs.size<=it)(h2:∀x c,X.env.cells.lookup x=some c->c≠it)(h3:∀p∈X.pn++pins,p.1≠it):Inv X pins σ H { s with heap:=h',toks:=t' }:=by
 have nit:∀b u,H b=some u->b≠it:=fun b u e z=>by rw[z,hn] at e;cases e
 refine I.step (g':=s.gens) (d':=s.drawn) (ch:=[it]) (fun b hb=>?_) (fun b o _ _ hc e _=>k b o (fun z=>hc (by simp[z])) e) (fun b o _ _ hc e _=>⟨o.slots,k b o (fun z=>hc (by simp[z])) e⟩) (fun _ _ _ _ n=>n)
  (fun b o hc e=>⟨o,k b o (fun z=>hc (by simp[z])) e⟩) (fun _ _ e=>e) (fun _ _ _ e=>e) (fun b ps e=>⟨#[],by rw[e];simp⟩) (fun m hm=>?_) (fun b u e=>?_) I.bare
 ·have e:b=it:=by simpa using hb
  subst e;exact⟨h1,hL,h2,h3⟩
 ·obtain⟨o,es,ep,ho,r⟩:=hm;exact⟨o,es,ep,k _ o (QP hL) ho,r⟩
 ·refine(I.hok b u e).stay (fun c v hc q=>k c v ?_ q) (fun _ q=>q) fun _ _ q=>q
  rcases hc with z|z
  ·rw[z];exact nit b u e
  ·exact nit c _ z
theorem Inv.tok(I:Inv X pins σ H s)(t:Nat):Inv X pins σ H { s with toks:=t }:=I.un (h':=s.heap) (t':=t) Un.refl I.hok
theorem Inv.kept(I:Inv X pins σ H s)(k:∀b u,s.heap.get? b=some u->h'.get? b=some u):Inv X pins σ H { s with heap:=h',toks:=t' }:=I.un (Un.kept k) (I.hok.kept k)
theorem Inv.laid{a:Addr}{o:HO}{t':Nat}(I:Inv X pins σ H s)(k:∀b u,s.heap.get? b=some u->h'.get? b=some u)(hp:s.heap.objs.size<=a)(new:ObjOk X.prog X.w (upd H a o) h' a o) :
 Inv X pins σ (upd H a o) { s with heap:=h',toks:=t' }:=I.un (Un.laid k hp (I.hok.fresh hp)) (I.hok.laid k hp new)
theorem Inv.write{x e:Addr}{o:HO}{t':Nat}(I:Inv X pins σ H s)(mu:Mut (H x))(he:e=x\/H e=some (.own x))(k:∀b u,b≠e->s.heap.get? b=some u->h'.get? b=some u)(heo:∃u,h'.get? e=some u)
 (new:ObjOk X.prog X.w (upd H x o) h' x o):Inv X pins σ (upd H x o) { s with heap:=h',toks:=t' }:=I.un (Un.write mu he k heo) (I.hok.write mu he k heo new)
theorem Inv.pins_of(I:Inv X pins σ H s)(h:∀p∈pins',s.heap.get? p.1=some p.2/\H p.1=none/\p.1≠X.env.locals/\p.1∉X.fs/\∀v,p.2.data≠.cell v):Inv X pins' σ H s :=
 ⟨I.ok,I.os,I.bare,I.base,I.loc,I.cell,I.free,I.freeC,fun p hp=>(Gd.mp hp).elim (fun z=>I.pin p (LA _ z)) (h p),I.hok,I.len⟩
theorem Jdf{N:List Str}(hN:N.Nodup){i j:Nat}{x:Str}(a:N[i]?=some x)(b:N[j]?=some x):i=j:=by obtain⟨h1,e1⟩:=Qn.mp a;obtain⟨h2,e2⟩:=Qn.mp b;exact(List.getElem_inj hN).mp (e1.trans e2.symm)
theorem Jba{M:Model}{A:Around}{E:Value->Shared->Prop}{i:Nat}{x:Str}{v:V}{u:Value}{Q:Unit->Shared->Prop}(I:Inv X pins σ H s)(hN:X.N.Nodup)(hi:X.N[i]?=some x)(hx:Loc X.env.scope x)(r:RelV v u)
 (h:∀s',Inv X pins (σ.set i (some v)) H s'->(∃a,QA a s.heap s'.heap/\(a=X.env.locals\/X.env.cells.lookup x=some a))->Q () s') (hf:X.fn x=true\/X.env.scope.names.lookup x=some .local:=by first|exact .inl rfl|exact .inr rfl|assumption):wpAny M A (storeName X.env x u) Q E s:=by
 obtain⟨m,hn,hl⟩:=id I.loc;have hcls:(X.env.scope.kind == .class || (X.env.scope.kind == .module && X.env.locals != X.env.globals))=false:=by rw[I.ok.kind];rfl
 have hiσ:i<σ.length:=by rw[I.len];exact(Qn.mp hi).1
 have cne:=I.cne
 have tracked:∀{a:Addr} {h':Heap},(∃o,s.heap.get? a=some o/\H a=none)->QA a s.heap h'->HOk X.prog X.w H h':=fun {a h'} ha hs b ob e=>by
  obtain⟨_,_,hfree⟩:=ha;refine(I.hok b ob e).stay (fun c w' hc q=>(hs.2 c ?_).trans q) (fun _ q=>q) fun _ _ q=>q
  rintro rfl;rcases hc with rfl|hc
  ·rw[hfree] at e;cases e
  ·rw[hfree] at hc;cases hc
 rcases hx with hk|hk
 ·refine wpAny_storeName_local hk hn (fun h' hn' hs=>?_) hcls;obtain⟨oL,_,_,hoL,_⟩:=id hn;refine h _ ⟨I.ok,I.os,I.bare,⟨fun b o e n hb hx=>?_,fun b o e n hb hx=>?_,I.base.free,fun b o e hx=>?_,I.base.tups,I.base.frzs,I.base.tbls⟩,⟨_,hn',fun j y v' e1 e2 e3=>?_⟩,fun y c e=>?_,I.free,I.freeC,fun p hp=>?_,tracked ⟨oL,hoL,I.free⟩ hs,by simpa using I.len⟩ ⟨_,hs,.inl rfl⟩
  ·exact(hs.2 b (Qr (Q2 (Qj e) I.ok.above))).trans (I.base.keep b o e n hb hx)
  ·obtain⟨sl,e1⟩:=I.base.slot b o e n hb hx;exact⟨sl,(hs.2 b (Qr (Q2 (Qj e) I.ok.above))).trans e1⟩
  ·obtain⟨o',e1⟩:=I.base.there b o e hx;exact⟨o',(hs.2 b (Qr (Q2 (Qj e) I.ok.above))).trans e1⟩
  ·by_cases hj:j=i
   ·subst hj;rw[hi] at e1;cases e1;rw[Ro hiσ] at e2;cases e2;exact⟨u,r,.inl ⟨hk,by simp⟩⟩
   ·rw[RJ (QP hj)] at e2;obtain⟨u',r',q⟩:=hl j y v' e1 e2 e3;refine⟨u',r',?_⟩;rcases q with ⟨k,e⟩|⟨k,c,e,z⟩
    ·refine .inl ⟨k,?_⟩;have:y≠x:=fun e=>hj (Jdf hN e1 (e▸hi))
     simp[this,e]
    ·exact .inr ⟨k,c,e,z.sameBut hs (cne y c e)⟩
  ·obtain⟨w',z⟩:=I.cell y c e;exact⟨w',z.sameBut hs (cne y c e)⟩
  ·obtain⟨e,n,ne,nf,d⟩:=I.pin p hp;exact⟨(hs.2 p.1 ne).trans e,n,ne,nf,d⟩
 ·have hfn:X.fn x=true:=by
   rcases hf with z|z
   ·exact z
   ·rw[z] at hk;cases hk
  obtain⟨c,hc⟩:=I.ok.has x (.inl hk);obtain⟨w',z⟩:=I.cell x c hc;refine wpAny_storeName_cell I.ok.kind hk hc z (fun h' hc' hs=>?_);obtain⟨oc,hoc,hocd⟩:=id z;refine h { s with heap:=h' } ⟨I.ok,I.os,I.bare,⟨fun b o e n hb hx=>?_,fun b o e n hb hx=>?_,I.base.free,fun b o e hx=>?_,I.base.tups,I.base.frzs,I.base.tbls⟩,⟨m,hn.sameBut hs (QP (cne x c hc)),fun j y v' e1 e2 e3=>?_⟩,fun y c' e=>?_,I.free,I.freeC,fun p hp=>?_,tracked ⟨oc,hoc,I.freeC x c hc⟩ hs,by simpa using I.len⟩ ⟨c,hs,.inr hc⟩
  ·exact(hs.2 b (Qr (Q2 (Qj e) (I.ok.cab x c hfn hc)))).trans (I.base.keep b o e n hb hx)
  ·obtain⟨sl,e1⟩:=I.base.slot b o e n hb hx;exact⟨sl,(hs.2 b (Qr (Q2 (Qj e) (I.ok.cab x c hfn hc)))).trans e1⟩
  ·obtain⟨o',e1⟩:=I.base.there b o e hx;exact⟨o',(hs.2 b (Qr (Q2 (Qj e) (I.ok.cab x c hfn hc)))).trans e1⟩
  ·by_cases hj:j=i
   ·subst hj;rw[hi] at e1;cases e1;rw[Ro hiσ] at e2;cases e2;exact⟨u,r,.inr ⟨.inl hk,c,hc,hc'⟩⟩
   ·rw[RJ (QP hj)] at e2;obtain⟨u',r',q⟩:=hl j y v' e1 e2 e3;refine⟨u',r',?_⟩;rcases q with q|⟨k,c',e,z'⟩
    ·exact .inl q
    ·refine .inr ⟨k,c',e,z'.sameBut hs ?_⟩;rintro rfl;exact hj (Jdf hN e1 (I.ok.inj _ _ _ e hc▸hi))
  ·by_cases hcc:c'=c
   ·subst hcc;exact⟨_,hc'⟩
   ·obtain⟨w2,z2⟩:=I.cell y c' e;exact⟨w2,z2.sameBut hs hcc⟩
  ·obtain⟨e,n,ne,nf,d⟩:=I.pin p hp;refine⟨(hs.2 p.1 ?_).trans e,n,ne,nf,d⟩;intro q;rw[q,hoc] at e;have q':oc=p.2:=QK e;exact d w' (by rw[<- q'];exact hocd)
theorem Jaj{M:Model}{A:Around}{E:Value->Shared->Prop}{i:Nat}{x:Str}{v:V}{u:Value}{Q:Unit->Shared->Prop}(I:Inv X pins σ H s)(hN:X.N.Nodup)(hi:X.N[i]?=some x)(hx:Loc X.env.scope x)(r:RelV v u)
 (h:∀s',Inv X pins (σ.set i (some v)) H s'->Q () s') (hf:X.fn x=true\/X.env.scope.names.lookup x=some .local:=by first|exact .inl rfl|exact .inr rfl|assumption):wpAny M A (storeName X.env x u) Q E s :=
 Jba I hN hi hx r (fun s' I' _=>h s' I') hf
theorem Inv.call'(I:Inv X pins σ H s)(ho:s'.os=s.os)(u:Un (frs X.stack) ch H H' s.heap s'.heap)(hok:HOk X.prog X.w H' s'.heap)(hg:AllBare s'.gens)(hch:∀b∈ch,(b∈X.ex\/X.s₀.heap.objs.size<=b)/\b≠X.env.locals/\(∀x c,X.env.cells.lookup x=some c->c≠b)/\∀p∈X.pn++pins,p.1≠b):Inv X pins σ H' s':=by
 obtain⟨h',g',d',t',o'⟩:=s';have e:o'=s.os:=ho;subst e;exact I.call (g':=g') (t':=t') (d':=d') u hok hg hch
end
noncomputable abbrev XK:=Value->Option Addr->Hp->Prop
noncomputable abbrev St:=List (Option V)
noncomputable abbrev VK:=V->Hp->Prop
noncomputable abbrev TE:=St->Hp->VK->Prop
noncomputable abbrev TT:=St->Hp->(Bool->Hp->Prop)->Prop
noncomputable abbrev TA:=St->Hp->(List V->Hp->Prop)->Prop
structure Ends where
 nx:St->Hp->Prop
 rt:VK
 bk:St->Hp->Prop:=fun _ _=>False
 ct:St->Hp->Prop:=fun _ _=>False
noncomputable abbrev TS:=Ends->St->Hp->Prop
noncomputable def EP(X:Cx)(pins:List (Addr×Obj))(σ:St)(Q:VK)(u:Value)(s':Shared):Prop:=∃v H',Inv X pins σ H' s'/\RelV v u/\Q v H'
noncomputable def TP(X:Cx)(pins:List (Addr×Obj))(σ:St)(Q:Bool->Hp->Prop)(b:Bool)(s':Shared):Prop:=∃H',Inv X pins σ H' s'/\Q b H'
noncomputable def AP(X:Cx)(pins:List (Addr×Obj))(σ:St)(Q:List V->Hp->Prop)(us:List Value)(s':Shared):Prop:=∃vs H',Inv X pins σ H' s'/\Vals vs us/\Q vs H'
noncomputable def SP(X:Cx)(pins:List (Addr×Obj))(D:Ends)(f:Flow)(s':Shared):Prop :=
 match f with
 | .next=>∃σ' H',Inv X pins σ' H' s'/\D.nx σ' H'
 | .brk=>∃σ' H',Inv X pins σ' H' s'/\D.bk σ' H'
 | .cont=>∃σ' H',Inv X pins σ' H' s'/\D.ct σ' H'
 | .ret u=>∃v σ' H',Inv X pins σ' H' s'/\RelV v u/\D.rt v H'
noncomputable def PE(X:Cx)(e:Expr)(t:TE):Prop :=
 ∀(pins:List (Addr×Obj)) (s:Shared) (σ:St) (H:Hp) (Q:VK),Inv X pins σ H s->t σ H Q->wpAny (model X.prog X.w) X.A (eval e X.env) (EP X pins σ Q) X.xe s
noncomputable def PT(X:Cx)(e:Expr)(t:TT):Prop :=
 ∀(pins:List (Addr×Obj)) (s:Shared) (σ:St) (H:Hp) (Q:Bool->Hp->Prop),Inv X pins σ H s->t σ H Q->wpAny (model X.prog X.w) X.A (isTrue e X.env (eval e X.env)) (TP X pins σ Q) X.xe s
noncomputable def PW(X:Cx)(e:Expr)(t:TT):Prop :=
 ∀(whole:Sem Value) (pins:List (Addr×Obj)) (s:Shared) (σ:St) (H:Hp) (Q:Bool->Hp->Prop),Inv X pins σ H s->t σ H Q->wpAny (model X.prog X.w) X.A (isTrue e X.env whole) (TP X pins σ Q) X.xe s
theorem PW.pt(h:PW X e t):PT X e t:=h _
noncomputable def PA(X:Cx)(es:List Expr)(t:TA):Prop :=
 ∀(pos:Pos) (pins:List (Addr×Obj)) (s:Shared) (σ:St) (H:Hp) (Q:List V->Hp->Prop),Inv X pins σ H s->t σ H Q->wpAny (model X.prog X.w) X.A (spliced (backTo pos (starEach es X.env))) (AP X pins σ Q) X.xe s
noncomputable def PS(X:Cx)(st:Stmt)(t:TS):Prop :=
 ∀(pins:List (Addr×Obj)) (s:Shared) (σ:St) (H:Hp) (D:Ends),Inv X pins σ H s->t D σ H->wpAny (model X.prog X.w) X.A (exec st X.env) (SP X pins D) X.xe s
noncomputable def PSs(X:Cx)(st:List Stmt)(t:TS):Prop :=
 ∀(pins:List (Addr×Obj)) (s:Shared) (σ:St) (H:Hp) (D:Ends),Inv X pins σ H s->t D σ H->wpAny (model X.prog X.w) X.A (execs st X.env) (SP X pins D) X.xe s
theorem thn{α:Type}{t:Sem α}{Q Q':α->Shared->Prop}(h:wpAny M A t Q E s)(hQ:∀a s,Q a s->Q' a s):wpAny M A t Q' E s:=KU h hQ fun _ _ x=>x
section
variable{X:Cx}
noncomputable def Wj(i:Nat):TE:=fun σ H Q=>∃v,σ[i]?=some (some v)/\Q v H
noncomputable def tC(v:V):TE:=fun _ H Q=>Q v H
theorem Jpk{i:Nat}{x:Str}{pos:Pos}(hN:X.N[i]?=some x)(hv:Vis X.env.scope x)(hd:(x == ("__debug__":Str))=false:=by decide)(hcd:(x == ("__classdict__":Str))=false:=by decide):PE X (.Name x pos) (Wj i):=by
 intro pins s σ H Q I h;obtain⟨v,e,h⟩:=h;obtain⟨m,hn,hl⟩:=I.loc;obtain⟨u,r,l⟩:=hl i x v hN e hv;have fin:EP X pins σ Q u s:=⟨v,H,I,r,h⟩
 rcases l with ⟨hk,hm⟩|⟨hk,c,hc,hcell⟩
 ·exact wpAny_Name (wpAny_loadName_local I.ok.kind hk hn hm fin) hd
 ·rcases hk with hk|hk
  ·exact wpAny_Name (wpAny_loadName_cell I.ok.kind hk hc hcell fin) hd
  ·exact wpAny_Name (wpAny_loadName_free I.ok.kind hk hc hcell fin hcd) hd
theorem Jf{i j pos}:PE X (.Constant (.int i) j pos) (tC (.int i)):=fun _ _ _ H _ I h=>wpAny_Constant_int ⟨.int i,H,I.tok _,⟨_,rfl⟩,h⟩
theorem WS{b j pos}:PE X (.Constant (.bool b) j pos) (tC (.bl b)):=fun _ _ _ H _ I h=>Constant_bool ⟨.bl b,H,I,rfl,h⟩
theorem YF{j pos}:PE X (.Constant .none j pos) (tC .non):=fun _ _ _ H _ I h=>Constant_none ⟨.non,H,I,rfl,h⟩
noncomputable def Gl(X:Cx)(x:Str):Prop:=X.env.kindOf x=some .globalImplicit
theorem JbL{E:Value->Shared->Prop}{pins:List (Addr×Obj)}{s:Shared}{σ:St}{H:Hp}{x:Str}{u:Value}{pos:Pos}{Q:Value->Shared->Prop}(I:Inv X pins σ H s)(hg:Gl X x)(hm:X.mg x=some u)(h:Q u s)
 (hd:(x == ("__debug__":Str))=false:=by decide):wpAny (model X.prog X.w) X.A (eval (.Name x pos) X.env) Q E s :=
 MF I.ok.kind hg (Calls.loadGlobal_global (by rw[I.ok.glob];exact I.mod.glob.keeps I.bk) hm h) hd
theorem Y2{E:Value->Shared->Prop}{pins:List (Addr×Obj)}{s:Shared}{σ:St}{H:Hp}{x:Str}{u:Value}{pos:Pos}{Q:Value->Shared->Prop}(I:Inv X pins σ H s)(hg:Gl X x)(hm:X.mg x=none)(hv:bootBuiltins x=some u)(h:Q u s)
 (hn:x≠"__name__":=by decide) (hd:(x == ("__debug__":Str))=false:=by decide):wpAny (model X.prog X.w) X.A (eval (.Name x pos) X.env) Q E s:=by
 obtain⟨mb,h1,h2⟩:=I.mod.blt;exact MF I.ok.kind hg (Calls.loadGlobal_builtin (by rw[I.ok.glob];exact I.mod.glob.keeps I.bk) hm (by rw[I.ok.blt];exact h1.keeps I.bk) ((h2 x hn).trans hv) h) hd
theorem Jl5{x:Str}{v:V}{u:Value}{pos:Pos}(hg:Gl X x)(hm:X.mg x=some u)(r:RelV v u)(hd:(x == ("__debug__":Str))=false:=by decide):PE X (.Name x pos) (tC v) :=
 fun _ _ _ H _ I h=>JbL I hg hm ⟨v,H,I,r,h⟩ hd
theorem V9{x:Str}{v:V}{u:Value}{pos:Pos}(hg:Gl X x)(hm:X.mg x=none)(hv:bootBuiltins x=some u)(r:RelV v u)(hn:x≠"__name__":=by decide)(hd:(x == ("__debug__":Str))=false:=by decide):PE X (.Name x pos) (tC v) :=
 fun _ _ _ H _ I h=>Y2 I hg hm hv ⟨v,H,I,r,h⟩ hn hd
variable{a b:Expr}{ta tb:TE}{pos:Pos}
variable{tA tB':TT}{rest:List Expr}
noncomputable def Jp3(t u:TT):TT:=fun σ H Q=>t σ H fun c H1=>if c=true then u σ H1 Q else Q false H1
noncomputable def tOr(t u:TT):TT:=fun σ H Q=>t σ H fun c H1=>if c=true then Q true H1 else u σ H1 Q
noncomputable def JrO(t:TT):TT:=fun σ H Q=>t σ H fun c H1=>Q (!c) H1
theorem UR(ha:PT X a tA):PW X (.BoolOp .And [a] pos) tA:=by
 intro wh pins s σ H Q I h;refine isTrue_and (thn (ha pins s σ H Q I h) fun c s1 e=>?_)
 cases c with
 | true=>exact isTrue_and_nil e
 | false=>exact e
theorem WA(ha:PT X a tA):PW X (.BoolOp .Or [a] pos) tA:=by
 intro wh pins s σ H Q I h;refine isTrue_or (thn (ha pins s σ H Q I h) fun c s1 e=>?_)
 cases c with
 | false=>exact isTrue_or_nil e
 | true=>exact e
theorem VH(ha:PT X a tA)(hb:PW X (.BoolOp .And (b::rest) pos) tB'):PW X (.BoolOp .And (a::b::rest) pos) (Jp3 tA tB'):=by
 intro wh pins s σ H Q I h;refine isTrue_and (thn (ha pins s σ H _ I h) fun c s1 ⟨H1,I1,q1⟩=>?_)
 cases c with
 | true=>exact hb wh pins s1 σ H1 Q I1 q1
 | false=>exact⟨H1,I1,q1⟩
theorem WW(ha:PT X a tA)(hb:PW X (.BoolOp .Or (b::rest) pos) tB'):PW X (.BoolOp .Or (a::b::rest) pos) (tOr tA tB'):=by
 intro wh pins s σ H Q I h;refine isTrue_or (thn (ha pins s σ H _ I h) fun c s1 ⟨H1,I1,q1⟩=>?_)
 cases c with
 | true=>exact⟨H1,I1,q1⟩
 | false=>exact hb wh pins s1 σ H1 Q I1 q1
theorem VG(ha:PT X a tA):PT X (.UnaryOp .Not a pos) (JrO tA):=by intro pins s σ H Q I h;exact isTrue_not (ha pins s σ H (fun c H1=>Q (!c) H1) I h)
noncomputable def JnJ(ta tb:TE):TE:=fun σ H Q=>ta σ H fun x H1=>∃c,x=.bl c/\if c=true then tb σ H1 Q else Q (.bl false) H1
noncomputable def JnM(ta:TE):TE:=fun σ H Q=>ta σ H fun x H1=>∃c,x=.bl c/\Q (.bl (!c)) H1
theorem Jpi{op}(h:PE X a t):PE X (.BoolOp op [a] pos) t:=fun pins s σ H Q I hw=>BoolOp_one (h pins s σ H Q I hw)
theorem Jpe(ha:PE X a ta)(hb:PE X (.BoolOp .And (b::rest) pos) tb):PE X (.BoolOp .And (a::b::rest) pos) (JnJ ta tb):=by
 intro pins s σ H Q I h;refine BoolOp_and (thn (ha pins s σ H _ I h) fun v s1 ⟨x,H1,I1,r1,q1⟩=>?_);obtain⟨c,rfl,q1⟩:=q1;cases r1;refine Kv ?_
 cases c with
 | true=>exact hb pins s1 σ H1 Q I1 q1
 | false=>exact⟨.bl false,H1,I1,rfl,q1⟩
theorem Jph(ha:PE X a ta):PE X (.UnaryOp .Not a pos) (JnM ta):=by intro pins s σ H Q I h;refine UnaryOp_ (thn (ha pins s σ H _ I h) fun v s1 ⟨x,H1,I1,r1,q1⟩=>?_);obtain⟨c,rfl,q1⟩:=q1;cases r1;exact not_of (Kv ⟨.bl (!c),H1,I1,rfl,q1⟩)
noncomputable def tIf(t:TT)(ta tb:TE):TE:=fun σ H Q=>t σ H fun c H1=>if c=true then ta σ H1 Q else tb σ H1 Q
theorem Jds(hc:PT X c tA)(ha:PE X a ta)(hb:PE X b tb):PE X (.IfExp c a b pos) (tIf tA ta tb):=by
 intro pins s σ H Q I h;refine wpAny_IfExp (thn (hc pins s σ H _ I h) fun d s1 ⟨H1,I1,q1⟩=>?_)
 cases d with
 | true=>exact ha pins s1 σ H1 Q I1 q1
 | false=>exact hb pins s1 σ H1 Q I1 q1
end
noncomputable def SqL(K:Frag)(H:Hp)(a:Addr)(xs:List V):Prop :=
 Rd H a (.lst xs) ∨
  ∃(o:Obj) (its:Array Value) (n:Nat),K.lookup a=some o/\o.cls=.type "list"/\o.dict=none/\o.data=.seq its n/\its.size<=sizeLine/\Vals xs its.toList
noncomputable def SqT(K:Frag)(H:Hp)(a:Addr)(xs:List V):Prop :=
 Rd H a (.tup xs) ∨
  ∃(o:Obj) (its:Array Value) (n:Nat),K.lookup a=some o/\o.cls=.type "tuple"/\o.data=.seq its n/\its.size<=sizeLine/\Vals xs its.toList
noncomputable def Jr3:Value->Option V
 | .none=>some .non
 | .bool b=>some (.bl b)
 | .int i _=>some (.int i)
 | .str x _=>some (.str x)
 | .bytes b _=>some (.byt b)
 | .float b _=>some (.flt b)
 | .ref a=>some (.ref a)
 | .type n=>some (.ty n)
 | _=>none
theorem RelV.abs(r:RelV x u):Jr3 u=some x:=by
 cases x with
 | non=>cases r;rfl
 | bl _=>cases r;rfl
 | int _=>obtain⟨t,rfl⟩:=r;rfl
 | str _=>obtain⟨t,rfl⟩:=r;rfl
 | byt _=>obtain⟨t,rfl⟩:=r;rfl
 | flt _=>obtain⟨t,rfl⟩:=r;rfl
 | ref _=>cases r;rfl
 | ty _=>cases r;rfl
theorem RelV.inj(r:RelV x u)(q:RelV y u):x=y:=QK (r.abs.symm.trans q.abs)
theorem Vals.inj:∀{xs ys:List V} {us:List Value},Vals xs us->Vals ys us->xs=ys
 | _,_,_,.nil,.nil=>rfl
 | _,_,_,.cons r t,.cons r' t'=>by rw[r.inj r',Vals.inj t t']
theorem SqL.of{K:Frag}(h:H a=some (.lst xs)):SqL K H a xs:=.inl (.inl h)
theorem SqT.of{K:Frag}(h:H a=some (.tup xs)):SqT K H a xs:=.inl (.inl h)
theorem Inv.list(I:Inv X pins σ H s)(h:SqL X.K H a xs):∃its:List Value,Vals xs its/\PlainL s.heap a its.toArray/\xs.length<=sizeLine:=by
 rcases h with h|⟨o,its,n,hk,hc,hd,hs,hz,r⟩
 ·obtain⟨z,its,n,r,e⟩:=h.ok I.hok;exact⟨its,r,⟨_,n,e,rfl,rfl,rfl⟩,z⟩
 ·refine⟨its.toList,r,⟨o,n,I.kIn a o hk,hc,hd,by simpa using hs⟩,?_⟩;have e:=r.length;simp only[QB] at e;omega
theorem Inv.tuple(I:Inv X pins σ H s)(h:SqT X.K H a xs):∃its:List Value,Vals xs its/\IsTup s.heap a its.toArray/\xs.length<=sizeLine:=by
 rcases h with h|⟨o,its,n,hk,hc,hs,hz,r⟩
 ·obtain⟨z,its,r,p⟩:=h.ok I.hok;exact⟨its,r,p,z⟩
 ·refine⟨its.toList,r,⟨o,I.kIn a o hk,hc,n,by simpa using hs⟩,?_⟩;have e:=r.length;simp only[QB] at e;omega
theorem Inv.list_inj(I:Inv X pins σ H s)(h:SqL X.K H a xs)(h':SqL X.K H a ys):xs=ys:=by
 obtain⟨its,r,⟨o,n,e,_,_,d⟩,_⟩:=I.list h;obtain⟨its',r',⟨o',n',e',_,_,d'⟩,_⟩:=I.list h';rw[e] at e';cases e';rw[d] at d'
 injection d' with d1 _
 have:its=its':=by simpa using congrArg Array.toList d1
 subst this;exact r.inj r'
theorem Inv.tuple_inj(I:Inv X pins σ H s)(h:SqT X.K H a xs)(h':SqT X.K H a ys):xs=ys:=by
 obtain⟨its,r,⟨o,e,_,n,d⟩,_⟩:=I.tuple h;obtain⟨its',r',⟨o',e',_,n',d'⟩,_⟩:=I.tuple h';rw[e] at e';cases e';rw[d] at d'
 injection d' with d1 _
 have:its=its':=by simpa using congrArg Array.toList d1
 subst this;exact r.inj r'
noncomputable abbrev Cx.wish(X:Cx)(E:Value->Shared->Prop):Cx:={ X with xe:=E }
noncomputable abbrev Cx.nox(X:Cx):Cx:=X.wish fun _ _=>False
theorem Cx.Ok.wish{X:Cx}(ok:X.Ok)(E:Value->Shared->Prop):(X.wish E).Ok :=
 ⟨ok.mod,ok.kind,ok.glob,ok.blt,ok.above,ok.inj,ok.has,ok.cab,ok.hd,ok.frames,ok.stk,ok.exf,ok.bs,ok.bsz,ok.noex,ok.exfs,ok.funs,ok.frf⟩
theorem Cx.Ok.unwish{X:Cx}{E:Value->Shared->Prop}(ok:(X.wish E).Ok):X.Ok :=
 ⟨ok.mod,ok.kind,ok.glob,ok.blt,ok.above,ok.inj,ok.has,ok.cab,ok.hd,ok.frames,ok.stk,ok.exf,ok.bs,ok.bsz,ok.noex,ok.exfs,ok.funs,ok.frf⟩
theorem Inv.wish(I:Inv X pins σ H s)(E:Value->Shared->Prop):Inv (X.wish E) pins σ H s:=⟨I.ok.wish E,I.os,I.bare,I.base,I.loc,I.cell,I.free,I.freeC,I.pin,I.hok,I.len⟩
theorem Inv.unwish(I:Inv (X.wish E) pins σ H s):Inv X pins σ H s:=⟨I.ok.unwish,I.os,I.bare,I.base,I.loc,I.cell,I.free,I.freeC,I.pin,I.hok,I.len⟩
theorem SP.unwish(h:SP (X.wish E) pins D f s'):SP X pins D f s':=by
 cases f with
 | next=>obtain⟨σ',H',I,q⟩:=h;exact⟨σ',H',I.unwish,q⟩
 | brk=>obtain⟨σ',H',I,q⟩:=h;exact⟨σ',H',I.unwish,q⟩
 | cont=>obtain⟨σ',H',I,q⟩:=h;exact⟨σ',H',I.unwish,q⟩
 | ret u=>obtain⟨v,σ',H',I,r,q⟩:=h;exact⟨v,σ',H',I.unwish,r,q⟩
theorem PSs.nox{st:List Stmt}{t:TS}(h:PSs X.nox st t):PSs X st t:=fun pins s σ H D I hw=>KU (h pins s σ H D (I.wish _) hw) (fun _ _ q=>q.unwish) fun _ _ z=>KA z
section
variable{X:Cx}{st:Stmt}{rest:List Stmt}{t u:TS}{e:Expr}{te:TE}{pos:Pos}
noncomputable def Jkv:TS:=fun D σ H=>D.nx σ H
noncomputable def Jp7(t u:TS):TS:=fun D σ H=>t { D with nx:=u D } σ H
theorem JK:PSs X [] Jkv:=fun _ _ σ H _ I h=>Mo ⟨σ,H,I,h⟩
theorem Jc(h1:PS X st t)(h2:PSs X rest u):PSs X (st::rest) (Jp7 t u):=by
 intro pins s σ H D I h;refine wpAny_execs_cons (thn (h1 pins s σ H { D with nx:=u D } I h) fun f s1 q=>?_)
 cases f with
 | next=>obtain⟨σ',H',I',q⟩:=q;exact h2 pins s1 σ' H' D I' q
 | ret v=>exact q
 | brk=>exact q
 | cont=>exact q
theorem Jg(h1:PS X st t):PSs X [st] t:=by
 intro pins s σ H D I h;refine wpAny_execs_cons (thn (h1 pins s σ H D I h) fun f s1 q=>?_)
 cases f with
 | next=>exact Mo q
 | ret v=>exact q
 | brk=>exact q
 | cont=>exact q
theorem Inv.quiet{pins:List (Addr×Obj)}{σ:St}{H:Hp}{s:Shared}(I:Inv X pins σ H s):interactive X.env=false:=by simp[interactive,I.ok.kind]
noncomputable def Jak(te:TE):TS:=fun D σ H=>te σ H fun _ H1=>D.nx σ H1
theorem J7(he:PE X e te)(hs:swapsWith e none pos.line X.env=pure false:=by rfl):PS X (.Expr e pos) (Jak te):=by intro pins s σ H D I h;exact wpAny_Expr_any (thn (he pins s σ H _ I h) fun v s1 ⟨x,H1,I1,r1,q1⟩=>⟨σ,H1,I1,q1⟩) I.quiet hs
noncomputable def Jp6(te:TE):TS:=fun D σ H=>te σ H D.rt
theorem Jw(he:PE X e te):PS X (.Return (some e) pos) (Jp6 te):=by intro pins s σ H D I h;exact wpAny_Return_some (thn (he pins s σ H _ I h) fun v s1 ⟨x,H1,I1,r1,q1⟩=>⟨x,σ,H1,I1,r1,q1⟩)
noncomputable def JmY(c:TT)(t u:TS):TS:=fun D σ H=>c σ H fun b H1=>if b=true then t D σ H1 else u D σ H1
theorem Ys(hc:PT X c tc)(ha:PSs X a t)(hb:PSs X b u):PS X (.If c a b pos) (JmY tc t u):=by
 intro pins s σ H D I h;refine wpAny_If (thn (hc pins s σ H _ I h) fun d s1 ⟨H1,I1,q1⟩=>?_)
 cases d with
 | true=>exact ha pins s1 σ H1 D I1 q1
 | false=>exact hb pins s1 σ H1 D I1 q1
noncomputable def Jku:TS:=fun _ _ _=>False
theorem YZ:PS X st Jku:=fun _ _ _ _ _ _ h=>h.elim
end
noncomputable abbrev TG:=V->St->Hp->(St->Hp->Prop)->Prop
noncomputable abbrev TGs:=List V->St->Hp->(St->Hp->Prop)->Prop
noncomputable def PG(X:Cx)(target:Expr)(t:TG):Prop :=
 ∀(pins:List (Addr×Obj)) (s:Shared) (σ:St) (H:Hp) (v:V) (u:Value) (Q:St->Hp->Prop),Inv X pins σ H s->RelV v u->t v σ H Q ->
  wpAny (model X.prog X.w) X.A (assign target X.env u) (fun _ s'=>∃σ' H',Inv X pins σ' H' s'/\Q σ' H') X.xe s
noncomputable def PGs(X:Cx)(ts:List Expr)(t:TGs):Prop :=
 ∀(pins:List (Addr×Obj)) (s:Shared) (σ:St) (H:Hp) (vs:List V) (us:List Value) (Q:St->Hp->Prop),Inv X pins σ H s->Vals vs us->t vs σ H Q ->
  wpAny (model X.prog X.w) X.A (assignInOrder ((assignEach ts X.env).map (·.2)) us) (fun _ s'=>∃σ' H',Inv X pins σ' H' s'/\Q σ' H') X.xe s
noncomputable abbrev TIp:=V->V->Hp->VK->Prop
noncomputable def PIp(X:Cx)(op:Operator)(t:TIp):Prop :=
 ∀(pins:List (Addr×Obj)) (s:Shared) (σ:St) (H:Hp) (x y:V) (v u:Value) (Q:VK),Inv X pins σ H s->RelV x v->RelV y u->t x y H Q ->
  wpAny (model X.prog X.w) X.A (inplaceOp op v u) (EP X pins σ Q) X.xe s
noncomputable def UU(i:Nat):TG:=fun v σ H Q=>Q (σ.set i (some v)) H
theorem Jr{i:Nat}{x:Str}(hN:X.N.Nodup)(hi:X.N[i]?=some x)(hx:Loc X.env.scope x)(hf:X.fn x=true\/X.env.scope.names.lookup x=some .local:=by first|exact .inl rfl|exact .inr rfl|assumption):PG X (.Name x pos) (UU i):=by intro pins s σ H v u Q I r h;exact wpAny_assign_Name (Jaj I hN hi hx r (fun s' I'=>⟨_,H,I',h⟩) hf)
noncomputable def Jls:TGs:=fun vs σ H Q=>vs=[]/\Q σ H
noncomputable def JfV(t:TG)(u:TGs):TGs:=fun vs σ H Q=>∃v r,vs=v::r/\t v σ H fun σ' H'=>u r σ' H' Q
theorem Jv:PGs X [] Jls:=by intro pins s σ H vs us Q I r h;obtain⟨e,h⟩:=h;subst e;cases r;exact assignInOrder_nil ⟨σ,H,I,h⟩
theorem Je{e:Expr}{es:List Expr}{t:TG}{u:TGs}(h1:PG X e t)(h2:PGs X es u)
 (hs:(assignEach (e::es) X.env).map (·.2)=assign e X.env::(assignEach es X.env).map (·.2):=by rfl):PGs X (e::es) (JfV t u):=by
 intro pins s σ H vs us Q I r h;obtain⟨v,vr,e1,h⟩:=h;subst e1
 cases r with
 | cons r rr=>rw[hs];refine assignInOrder_cons (thn (h1 pins s σ H _ _ _ I r h) fun _ s1 ⟨σ1,H1,I1,q1⟩=>?_);exact h2 pins s1 σ1 H1 _ _ Q I1 rr q1
noncomputable def Jhb(K:Frag)(n:Nat)(t:TGs):TG:=fun v σ H Q=>∃a xs,v=.ref a/\SqT K H a xs/\xs.length=n/\t xs σ H Q
theorem Jpl{es:List Expr}{k:Nat}{t:TGs}{n:Nat}(hc:X.calm=true)(h:PGs X es t)
 (hn:(assignEach es X.env).length=n:=by rfl) (hst:(assignEach es X.env).findIdx? (·.1)=none:=by rfl):PG X (.Tuple es k pos) (Jhb X.K n t):=by
 intro pins s σ H v u Q I r hw;obtain⟨a,xs,e1,hq,hl,hw⟩:=hw;subst e1;cases r;obtain⟨its,rv,ht,hz⟩:=I.tuple hq;refine assign_Tuple_tuple (I.ok.hd hc) ht (by simp[hn,<- hl,rv.length]) hst fun h' hx=>?_
 have I1:Inv X pins σ H { s with heap:=h' }:=I.kept (t':=s.toks) fun b o e=>hx b o (Qr (Qj e)) e
 exact h pins _ σ H xs _ Q I1 (by simpa using rv) hw
noncomputable def Jfh(te:TE)(g:TG):TS:=fun D σ H=>te σ H fun x H1=>g x σ H1 D.nx
theorem Z1{i:Nat}{x:Str}{e:Expr}{te:TE}{pos':Pos}(hN:X.N.Nodup)(hi:X.N[i]?=some x)(hx:Loc X.env.scope x)(he:PE X e te)(hs:swapsWith e (some (.Name x pos')) pos.line X.env=pure false:=by rfl)(hf:X.fn x=true\/X.env.scope.names.lookup x=some .local:=by first|exact .inl rfl|exact .inr rfl|assumption) :
 PS X (.Assign [.Name x pos'] e pos) (Jfh te (UU i)):=by
 intro pins s σ H D I h;refine wpAny_Assign_Name (thn (he pins s σ H _ I h) fun v s1 ⟨y,H1,I1,r1,q1⟩=>?_) hs;exact Jaj I1 hN hi hx r1 (fun s2 I2=>⟨_,H1,I2,q1⟩) hf
noncomputable def JrN(i:Nat)(te:TE)(ti:TIp):TS:=fun D σ H=>∃x,σ[i]?=some (some x)/\te σ H fun y H1=>ti x y H1 fun z H2=>D.nx (σ.set i (some z)) H2
theorem JjK{i:Nat}{x:Str}{e:Expr}{te:TE}{op:Operator}{ti:TIp}{pos':Pos}(hN:X.N.Nodup)(hi:X.N[i]?=some x)(hx:Loc X.env.scope x)(he:PE X e te)(ho:PIp X op ti)(hf:X.fn x=true\/X.env.scope.names.lookup x=some .local:=by first|exact .inl rfl|exact .inr rfl|assumption) :
 PS X (.AugAssign (.Name x pos') op e pos) (JrN i te ti):=by
 intro pins s σ H D I h;obtain⟨v,e1,h⟩:=h;obtain⟨m,hn,hl⟩:=I.loc;have vis:Vis X.env.scope x:=by rcases hx with k|k;exact .inl k;exact .inr (.inl k)
 obtain⟨u,r,l⟩:=hl i x v hi e1 vis;refine wpAny_AugAssign_Name ?_
 have go:wpAny (model X.prog X.w) X.A (eval e X.env) (fun w s₂=>wpAny (model X.prog X.w) X.A (inplaceOp op u w) (fun r s₃=>wpAny (model X.prog X.w) X.A (storeName X.env x r) (fun _=>SP X pins D .next) X.xe s₃) X.xe s₂) X.xe s:=by
  refine thn (he pins s σ H _ I h) fun w s1 ⟨y,H1,I1,r1,q1⟩=>?_
  refine thn (ho pins s1 σ H1 v y u w _ I1 r r1 q1) fun z s2 ⟨zv,H2,I2,r2,q2⟩=>?_
  exact Jaj I2 hN hi hx r2 (fun s3 I3=>⟨_,H2,I3,q2⟩) hf
 rcases l with ⟨hk,hm⟩|⟨hk,c,hc,hcell⟩
 ·exact wpAny_loadName_local I.ok.kind hk hn hm go
 ·rcases hk with hk|hk
  ·exact wpAny_loadName_cell I.ok.kind hk hc hcell go
  ·rcases hx with k|k
   ·have:X.env.scope.names.lookup x=some .free:=hk;rw[k] at this;cases this
   ·have:X.env.scope.names.lookup x=some .free:=hk;rw[k] at this;cases this
noncomputable def ipI(f:Int->Int->Int):TIp:=fun x y H Q=>∃i j,x=.int i/\y=.int j/\Q (.int (f i j)) H
theorem Joo:PIp X .Add (ipI fun i j=>i+j):=by intro pins s σ H x y v u Q I r1 r2 h;obtain⟨i,j,e1,e2,q⟩:=h;subst e1;subst e2;obtain⟨t,rfl⟩:=r1;obtain⟨t',rfl⟩:=r2;exact iadd_int ⟨.int _,H,I.tok _,⟨_,rfl⟩,q⟩
theorem Jop:PIp X .Sub (ipI fun i j=>i-j):=by intro pins s σ H x y v u Q I r1 r2 h;obtain⟨i,j,e1,e2,q⟩:=h;subst e1;subst e2;obtain⟨t,rfl⟩:=r1;obtain⟨t',rfl⟩:=r2;exact isub_int ⟨.int _,H,I.tok _,⟨_,rfl⟩,q⟩
noncomputable def Jky(c:TT)(tb:TS):TS:=fun D σ H=>∃W:Nat->St->Hp->Prop,(∃m,W m σ H)/\∀m σ H,W m σ H ->
 c σ H fun b H1=>if b=true then ∃N:St->Hp->Prop,(∀σ' H',N σ' H'->∃m',m'<m/\W m' σ' H')/\tb { D with nx:=N,ct:=N,bk:=D.nx } σ H1 else D.nx σ H1
theorem Jdw(hp:PassesOwn (model X.prog X.w) X.A X.env X.xe)(hc:PT X c tc)(hb:PSs X body tb):PS X (.While c body [] pos) (Jky tc tb):=by
 intro pins s σ H D I h;obtain⟨W,⟨m0,w0⟩,turn⟩:=h;refine wpAny_While (codeAny_whileLoop (fun n s'=>∃σ' H',Inv X pins σ' H' s'/\W n σ' H') ?_ m0 ⟨σ,H,I,w0⟩);rintro n s1 ⟨σ1,H1,I1,w1⟩;refine KL hp (thn (hc pins s1 σ1 H1 _ I1 (turn n σ1 H1 w1)) fun b s2 ⟨H2,I2,q2⟩=>?_)
 cases b with
 | true =>
  obtain⟨N,hN,q2⟩:=q2;rw[if_pos rfl];refine KL hp (thn (hb pins s2 σ1 H2 _ I2 q2) fun f s3 q3=>?_)
  cases f with
  | next=>obtain⟨σ3,H3,I3,n3⟩:=q3;obtain⟨m',hm,w3⟩:=hN σ3 H3 n3;exact⟨m',hm,σ3,H3,I3,w3⟩
  | cont=>obtain⟨σ3,H3,I3,n3⟩:=q3;obtain⟨m',hm,w3⟩:=hN σ3 H3 n3;exact⟨m',hm,σ3,H3,I3,w3⟩
  | brk=>exact q3
  | ret v=>exact q3
 | false=>rw[if_neg Qu];exact Mo ⟨σ1,H2,I2,q2⟩
structure It where
 go:Nat->Hp->Prop
 yld:Nat->Hp->V->Hp->Prop
 stop:Nat->Hp->Prop
noncomputable def FpOk(X:Cx)(pins:List (Addr×Obj))(H:Hp)(b:Addr):Prop :=
 H b=none/\b≠X.env.locals/\b∉X.fs/\(b∈X.ex\/X.s₀.heap.objs.size<=b)/\(∀x c,X.env.cells.lookup x=some c->c≠b)/\∀p∈X.pn++pins,p.1≠b
theorem Inv.fpOk{X:Cx}{pins:List (Addr×Obj)}{σ:St}{H H':Hp}{s:Shared}{b:Addr}(I:Inv X pins σ H s)(hb:s.heap.objs.size<=b)(hn:H' b=none):FpOk X pins H' b:=by
 refine⟨hn,QY (Q2 I.lt hb),I.nofs hb,.inr (Gz I.sz hb),fun x c e z=>?_,fun p hp z=>?_⟩
 ·obtain⟨v,q⟩:=I.cell x c e;exact absurd (Q2 q.lt (by rw[z];exact hb)) (Q8 _)
 ·exact absurd (Q2 (Qj (I.pin p hp).1) (by rw[z];exact hb)) (Q8 _)
structure Turn (P:Program) (w:World) (K:Frag) (tg:Expr) (J:It) (fp:List Addr) (it:Addr) (tn:Nat->Heap->Prop):Prop where
 mem:it∈fp
 obj:∀i h,tn i h->∀b∈fp,∃o,h.get? b=some o/\∀v,o.data≠.cell v
 keep:∀i h h',tn i h->(∀b∈fp,∀o,h.get? b=some o->h'.get? b=some o)->tn i h'
 item:∀(X:Cx),X.prog=P->X.w=w->X.K=K->X.calm=true->∀(i:Nat) (pins:List (Addr×Obj)) (s:Shared) (σ:St) (H:Hp) (E:Value->Shared->Prop),Inv X pins σ H s->(∀b∈fp,FpOk X pins H b)->tn i s.heap->J.go i H ->
  wpAny (model P w) X.A (pyNext (.ref it)) (fun r s1=>∃u,r=some u ∧
   wpAny (model P w) X.A (letOwnedTupleGo tg (.ref it) u) (fun _ s2=>∃x H',Inv X pins σ H' s2/\RelV x u/\J.yld i H x H'/\tn (i+1) s2.heap/\∀b∈fp,H' b=none) E s1) E s
 done:∀(X:Cx),X.prog=P->X.w=w->X.K=K->X.calm=true->∀(i:Nat) (pins:List (Addr×Obj)) (s:Shared) (σ:St) (H:Hp) (E:Value->Shared->Prop),Inv X pins σ H s->(∀b∈fp,FpOk X pins H b)->tn i s.heap->J.stop i H ->
  wpAny (model P w) X.A (pyNext (.ref it)) (fun r s1=>r=none/\Inv X pins σ H s1) E s
 self:∀(A:Around) (i:Nat) (s:Shared) (Q:Value->Shared->Prop) (E:Value->Shared->Prop),tn i s.heap->Q (.ref it) s->wpAny (model P w) A (pyIter (.ref it)) Q E s
noncomputable abbrev TI:=St->Hp->(It->Hp->Prop)->Prop
noncomputable def PIE(X:Cx)(pins:List (Addr×Obj))(σ:St)(tg:Expr)(R:It->Hp->Prop)(itv:Value)(s2:Shared):Prop :=
 ∃(it:Addr) (fp:List Addr) (tn:Nat->Heap->Prop) (J:It) (H':Hp),itv=.ref it/\Inv X pins σ H' s2/\Turn X.prog X.w X.K tg J fp it tn/\tn 0 s2.heap/\(∀b∈fp,FpOk X pins H' b)/\R J H'
noncomputable def PI(X:Cx)(tg iter:Expr)(wi:TI):Prop :=
 ∀(pins:List (Addr×Obj)) (s:Shared) (σ:St) (H:Hp) (R:It->Hp->Prop),Inv X pins σ H s->wi σ H R ->
  wpAny (model X.prog X.w) X.A (eval iter X.env) (fun v s1=>wpAny (model X.prog X.w) X.A (pyIter v) (PIE X pins σ tg R) X.xe s1) X.xe s
theorem JcQ{M:Model}{A:Around}{E:Value->Shared->Prop}{s:Shared}{tg:Expr}{it:Addr}{u:Value}{o:Obj}{n:String}{vs:Array Value}{Q:Unit->Shared->Prop}(ho:s.heap.get? it=some o)(hc:o.cls=.type n)(hd:o.data=.fields vs)
 (hn:["enumerate","zip","dict_itemiterator","dict_reverseitemiterator","odict_iterator","itertools.zip_longest","itertools.pairwise"].contains n=false) (hQ:Q () s):wpAny M A (letOwnedTupleGo tg (.ref it) u) Q E s:=by
 unfold letOwnedTupleGo;cases tg <;> first
  | exact Qe hQ
  | (cases u <;> first
   | exact Qe hQ
   | (refine Qa (wpAny_load ho ?_)
      rw[hc,hd];show wpAny M A (if (["enumerate","zip","dict_itemiterator","dict_reverseitemiterator","odict_iterator","itertools.zip_longest","itertools.pairwise"].contains n && vs[0]? == some (rawInt _))=true then _ else _) Q E s;rw[if_neg (by intro h;rw[hn,Bool.false_and] at h;cases h)];exact Qe hQ))
noncomputable def Itl(K:Frag)(a:Addr):It :=
 ⟨fun i H=>∃xs x,SqL K H a xs/\xs[i]?=some x,fun i H x H'=>H'=H/\∀xs,SqL K H a xs->xs[i]?=some x,fun i H=>∃xs,SqL K H a xs/\xs.length<=i⟩
noncomputable def Itt(K:Frag)(a:Addr):It :=
 ⟨fun i H=>∃xs x,SqT K H a xs/\xs[i]?=some x,fun i H x H'=>H'=H/\∀xs,SqT K H a xs->xs[i]?=some x,fun i H=>∃xs,SqT K H a xs/\xs.length<=i⟩
noncomputable def Itr(lo:Int)(n:Nat):It:=⟨fun i _=>i<n,fun i H x H'=>H'=H/\x=.int (lo+i),fun i _=>n<=i⟩
theorem JhW{P:Program}{w:World}{K:Frag}{tg:Expr}(a it:Addr):Turn P w K tg (Itl K a) [it] it (fun i h=>h.IsListIter it a i) where
 mem:=by simp
 obj:=fun i h st b hb=>by
  have e:b=it:=by simpa using hb
  subst e;obtain⟨o,e,c,d⟩:=st;exact⟨o,e,fun v z=>by rw[d] at z;cases z⟩
 keep:=fun i h h' st k=>st.at fun o e=>k it (by simp) o e
 item:=by
  intro X hP hw hK hc i pins s σ H E I hf st hg;subst hP hw hK;obtain⟨xs,x,hq,hx⟩:=hg;obtain⟨its,rv,p,hz⟩:=I.list hq;obtain⟨u,hu,ru⟩:=rv.get hx;obtain⟨f0,f1,f2,f3,f4,f5⟩:=hf it (by simp);refine wpAny_pyNext_list_item st p.isList (x:=u) (by simpa using hu) fun h' st' sb=>?_
  have I1:Inv X pins σ H { s with heap:=h' }:=I.turned (t':=s.toks) (fun b o hb e=>(sb.2 b hb).trans e) f0 f1 f3 f4 f5;obtain⟨o,e,c,d⟩:=id st';exact⟨u,rfl,JcQ (s:={ s with heap:=h' }) e c d (by decide) ⟨x,H,I1,ru,⟨rfl,fun ys hy=>by rw[I.list_inj hy hq];exact hx⟩,st',fun b hb=>(hf b hb).1⟩⟩
 done:=by intro X hP hw hK hc i pins s σ H E I hf st hg;subst hP hw hK;obtain⟨xs,hq,hx⟩:=hg;obtain⟨its,rv,p,hz⟩:=I.list hq;obtain⟨f0,f1,f2,f3,f4,f5⟩:=hf it (by simp);have hl:=rv.length;exact wpAny_pyNext_list_end (I.ok.hd hc) st p.isList (by simp;omega) fun h' eb=>⟨rfl,I.turned (t':=s.toks) (fun b o hb e=>eb b o hb e) f0 f1 f3 f4 f5⟩
 self:=fun _ _ _ _ _ st h=>wpAny_pyIter_listiter st h
theorem Jfm{P:Program}{w:World}{K:Frag}{tg:Expr}(a it:Addr):Turn P w K tg (Itt K a) [it] it (fun i h=>h.IsTupleIter it a i) where
 mem:=by simp
 obj:=fun i h st b hb=>by
  have e:b=it:=by simpa using hb
  subst e;obtain⟨o,e,c,d⟩:=st;exact⟨o,e,fun v z=>by rw[d] at z;cases z⟩
 keep:=fun i h h' st k=>st.at fun o e=>k it (by simp) o e
 item:=by
  intro X hP hw hK hc i pins s σ H E I hf st hg;subst hP hw hK;obtain⟨xs,x,hq,hx⟩:=hg;obtain⟨its,rv,p,hz⟩:=I.tuple hq;obtain⟨u,hu,ru⟩:=rv.get hx;obtain⟨f0,f1,f2,f3,f4,f5⟩:=hf it (by simp);refine wpAny_pyNext_tuple_item st (show s.heap.IsTuple a its.toArray from p) (x:=u) (by simpa using hu) fun h' st' sb=>?_
  have I1:Inv X pins σ H { s with heap:=h' }:=I.turned (t':=s.toks) (fun b o hb e=>(sb.2 b hb).trans e) f0 f1 f3 f4 f5;obtain⟨o,e,c,d⟩:=id st';exact⟨u,rfl,JcQ (s:={ s with heap:=h' }) e c d (by decide) ⟨x,H,I1,ru,⟨rfl,fun ys hy=>by rw[I.tuple_inj hy hq];exact hx⟩,st',fun b hb=>(hf b hb).1⟩⟩
 done:=by intro X hP hw hK hc i pins s σ H E I hf st hg;subst hP hw hK;obtain⟨xs,hq,hx⟩:=hg;obtain⟨its,rv,p,hz⟩:=I.tuple hq;obtain⟨f0,f1,f2,f3,f4,f5⟩:=hf it (by simp);have hl:=rv.length;exact wpAny_pyNext_tuple_end (I.ok.hd hc) st (show s.heap.IsTuple a its.toArray from p) (by simp;omega) fun h' eb=>⟨rfl,I.turned (t':=s.toks) (fun b o hb e=>eb b o hb e) f0 f1 f3 f4 f5⟩
 self:=fun _ _ _ _ _ st h=>wpAny_pyIter_tupleiter st h
theorem Jfl{P:Program}{w:World}{K:Frag}{tg:Expr}(it:Addr)(lo:Int)(n:Nat):Turn P w K tg (Itr lo n) [it] it (fun i h=>IsRangeIter h it (lo+(i:Nat)*1) ((n:Int)-(i:Nat)) 1) where
 mem:=by simp
 obj:=fun i h st b hb=>by
  have e:b=it:=by simpa using hb
  subst e;exact⟨_,st,fun v z=>by have z':Data.fields _=Data.cell v:=z;cases z'⟩
 keep:=fun i h h' st k=>k it (by simp) _ st
 item:=by
  intro X hP hw hK hc i pins s σ H E I hf st hg;subst hP hw hK;obtain⟨f0,f1,f2,f3,f4,f5⟩:=hf it (by simp);have W:=Walks.range (prog:=X.prog) (w:=X.w) (I.ok.hd hc) it lo 1 n;refine W.item i s _ _ hg st fun v h' tk hv st' kk=>?_
  obtain⟨t,rfl⟩:=hv;have I1:Inv X pins σ H { s with heap:=h',toks:=tk }:=I.turned (fun b o hb e=>kk b o (by simpa using hb) e) f0 f1 f3 f4 f5;refine⟨_,rfl,JcQ (s:={ s with heap:=h',toks:=tk }) (n:="range_iterator") st' rfl rfl (by decide) ⟨.int (lo+i),H,I1,⟨t,?_⟩,⟨rfl,rfl⟩,st',fun b hb=>(hf b hb).1⟩⟩;rw[Int.mul_one]
 done:=by intro X hP hw hK hc i pins s σ H E I hf st hg;subst hP hw hK;obtain⟨f0,f1,f2,f3,f4,f5⟩:=hf it (by simp);exact wpAny_pyNext_range_end (I.ok.hd hc) st (by have:n<=i:=hg;omega) fun h' eb=>⟨rfl,I.turned (t':=s.toks) (fun b o hb e=>eb b o hb e) f0 f1 f3 f4 f5⟩
 self:=fun _ _ _ _ _ st h=>wpAny_pyIter_rangeiter st h
noncomputable def Jnr(K:Frag)(tl:TE):TI:=fun σ H R=>tl σ H fun x H1=>∃a,x=.ref a/\(∃xs,SqL K H1 a xs)/\R (Itl K a) H1
noncomputable def JqL(K:Frag)(tl:TE):TI:=fun σ H R=>tl σ H fun x H1=>∃a,x=.ref a/\(∃xs,SqT K H1 a xs)/\R (Itt K a) H1
theorem Jl7(hl:PE X l tl):PI X tg l (Jnr X.K tl):=by
 intro pins s σ H R I h;refine thn (hl pins s σ H _ I h) fun v s1 ⟨x,H1,I1,r1,q1⟩=>?_
 obtain⟨a,e,⟨xs,hq⟩,q⟩:=q1;subst e;cases r1;obtain⟨its,rv,p,hz⟩:=I1.list hq;refine L4 p.isList ?_;refine⟨s1.heap.objs.size,[s1.heap.objs.size],_,_,H1,rfl,I1.kept (t':=s1.toks) fun b o e=>Qf _ e,JhW a _,⟨_,Qi _ rfl,rfl,rfl⟩,fun b hb=>?_,q⟩;have e:b=s1.heap.objs.size:=by simpa using hb
 subst e;exact I1.fpOk (Qm _) (I1.hok.fresh (Qm _))
theorem Jpn(hl:PE X l tl):PI X tg l (JqL X.K tl):=by
 intro pins s σ H R I h;refine thn (hl pins s σ H _ I h) fun v s1 ⟨x,H1,I1,r1,q1⟩=>?_
 obtain⟨a,e,⟨xs,hq⟩,q⟩:=q1;subst e;cases r1;obtain⟨its,rv,p,hz⟩:=I1.tuple hq;refine MG (show s1.heap.IsTuple a its.toArray from p) ?_;refine⟨s1.heap.objs.size,[s1.heap.objs.size],_,_,H1,rfl,I1.kept (t':=s1.toks) fun b o e=>Qf _ e,Jfm a _,⟨_,Qi _ rfl,rfl,rfl⟩,fun b hb=>?_,q⟩;have e:b=s1.heap.objs.size:=by simpa using hb
 subst e;exact I1.fpOk (Qm _) (I1.hok.fresh (Qm _))
theorem JjX{pins:List (Addr×Obj)}{σ:St}{H:Hp}{s:Shared}{R:It->Hp->Prop}{E:Value->Shared->Prop}{lo hi:Int}{t u v:Tok}{tk:Nat}(I:Inv X pins σ H s)(h1:-(2 ^ 62)<=lo)(h2:lo<2 ^ 62)(h3:-(2 ^ 62)<=hi)(h4:hi<2 ^ 62)
 (q:R (Itr lo (hi-lo).toNat) H):wpAny (model X.prog X.w) X.A (pyIter (.ref s.heap.objs.size)) (PIE X pins σ tg R) E { s with heap:=s.heap.push { cls:=.type "range",data:=.fields #[.int lo t,.int hi u,.int 1 v] },toks:=tk }:=by
 refine wpAny_pyIter_range (IsRange.new ..) (small_one h1 h2 h3 h4) ?_;have I1:Inv X pins σ H { s with heap:=s.heap.push { cls:=.type "range",data:=.fields #[.int lo t,.int hi u,.int 1 v] },toks:=tk }:=I.kept fun b o e=>Qf _ e
 refine⟨(s.heap.push { cls:=.type "range",data:=.fields #[.int lo t,.int hi u,.int 1 v] }).objs.size,[(s.heap.push { cls:=.type "range",data:=.fields #[.int lo t,.int hi u,.int 1 v] }).objs.size],_,_,H,rfl,
  I1.kept (t':=tk) fun b o e=>Qf _ e,Jfl _ lo (hi-lo).toNat,?_,fun b hb=>?_,q⟩
 ·have e1:lo+((0:Nat):Int)*1=lo:=by simp
  have e2:(((hi-lo).toNat:Nat):Int)-((0:Nat):Int)=Builtin.Range.rangeSize lo hi 1:=by rw[rangeSize_one];split <;> omega
  show IsRangeIter _ _ (lo+((0:Nat):Int)*1) ((((hi-lo).toNat:Nat):Int)-((0:Nat):Int)) 1;rw[e1,e2];exact Qi _ rfl
 ·have e:b=(s.heap.push { cls:=.type "range",data:=.fields #[.int lo t,.int hi u,.int 1 v] }).objs.size:=by simpa using hb
  subst e;exact I1.fpOk (Qm _) (I1.hok.fresh (Qm _))
noncomputable def Jns(ta:TA):TI:=fun σ H R=>ta σ H fun vs H1=>∃j:Int,vs=[.int j]/\-(2 ^ 62)<=j/\j<2 ^ 62/\R (Itr 0 j.toNat) H1
theorem Ja4{a:Expr}{ta:TA}{p pos:Pos}(hg:Gl X "range")(hm:X.mg "range"=none)(ha:PA X [a] ta)(hs:starEach [a] X.env=[(false,eval a X.env)]:=by rfl):PI X tg (.Call (.Name "range" p) [a] [] pos) (Jns ta):=by
 intro pins s σ H R I h;refine Call_ (Y2 I hg hm boot_range (Gh (thn (ha pos pins s σ H _ I h) fun us s1 ⟨vs,H1,I1,r1,q1⟩=>?_) hs rfl));obtain⟨j,e,q1,q2,q⟩:=q1;subst e
 cases r1 with
 | cons r rr=>cases rr;obtain⟨t,rfl⟩:=r;exact call_range_1 (JjX I1 (by omega) (by omega) q1 q2 (by simpa using q))
noncomputable def JmX(wi:TI)(g:TG)(tb:TS):TS:=fun D σ H=>wi σ H fun J H1=>∃W:Nat->Nat->St->Hp->Prop,(∃m,W 0 m σ H1)/\∀i m σ H,W i m σ H ->
 (J.stop i H/\D.nx σ H)\/(J.go i H/\∃N:St->Hp->Prop,(∀σ' H',N σ' H'->∃m',m'<m/\W (i+1) m' σ' H')/\∀x H',J.yld i H x H'->g x σ H' fun σ2 H2=>tb { D with nx:=N,ct:=N,bk:=D.nx } σ2 H2)
noncomputable def Z0(fp:List Addr)(h:Heap):List (Addr×Obj):=fp.filterMap fun b=>(h.get? b).map fun o=>(b,o)
theorem VD(hb:b∈fp)(e:h.get? b=some o):(b,o)∈Z0 fp h:=List.mem_filterMap.mpr ⟨b,hb,by rw[e];rfl⟩
theorem Jhz(hp:p∈Z0 fp h):p.1∈fp/\h.get? p.1=some p.2:=by
 obtain⟨b,hb,e⟩:=List.mem_filterMap.mp hp
 cases q:h.get? b with
 | none=>rw[q] at e;cases e
 | some o=>rw[q] at e;have e':(b,o)=p:=QK e;subst e';exact⟨hb,q⟩
theorem Inv.pinned{pins:List (Addr×Obj)}{σ:St}{H:Hp}{s:Shared}{fp:List Addr}(I:Inv X pins σ H s)(hf:∀b∈fp,FpOk X pins H b)(ho:∀b∈fp,∃o,s.heap.get? b=some o/\∀v,o.data≠.cell v):Inv X (pins++Z0 fp s.heap) σ H s :=
 I.pins_of fun p hp=>(Gd.mp hp).elim (fun z=>I.pin p (GI _ z)) fun z=>by obtain⟨hb,e⟩:=Jhz z;obtain⟨f0,f1,f2,_⟩:=hf p.1 hb;obtain⟨o,e',d⟩:=ho p.1 hb;rw[e] at e';cases e';exact⟨e,f0,f1,f2,d⟩
theorem Inv.unpinned{pins pl:List (Addr×Obj)}{σ:St}{H:Hp}{s:Shared}(I:Inv X (pins++pl) σ H s):Inv X pins σ H s:=I.pins_of fun p hp=>I.pin p (GI _ (LA _ hp))
theorem Yv{iter:Expr}{body:List Stmt}{wi:TI}{g:TG}{tb:TS}{pos:Pos}(hp:PassesOwn (model X.prog X.w) X.A X.env X.xe)(hc:X.calm=true)(hi:PI X tg iter wi)(hg:PG X tg g)(hb:PSs X body tb)
 (hs:∀x,foldedSetIterable iter X.env x=pure x:=by intro _;rfl):PS X (.For tg iter body [] pos) (JmX wi g tb):=by
 intro pins s σ H D I h;refine wpAny_For (thn (hi pins s σ H _ I h) fun v s1 h1=>thn h1 fun itv s2 h2=>?_) hs;obtain⟨it,fp,tn,J,H2,e,I2,T,st2,f2,W,⟨m0,w0⟩,turn⟩:=h2;subst e
 -- what stays true of the iterator's objects through the loop
 have stat:∀{H':Hp},(∀b∈fp,H' b=none)->∀b∈fp,FpOk X pins H' b:=fun hn b hb=>⟨hn b hb,(f2 b hb).2⟩
 refine codeAny_forLoop_any (fun n s'=>∃i σ' H',Inv X pins σ' H' s'/\tn i s'.heap/\(∀b∈fp,H' b=none)/\W i n σ' H') ?_ m0 ⟨0,σ,H2,I2,st2,fun b hb=>(f2 b hb).1,w0⟩;rintro n s3 ⟨i,σ3,H3,I3,st3,fr3,w3⟩;rcases turn i n σ3 H3 w3 with ⟨stop,qn⟩|⟨go,N,hN,step⟩
 ·refine KL hp (thn (T.done X rfl rfl rfl hc i pins s3 σ3 H3 X.xe I3 (stat fr3) st3 stop) fun r s4 ⟨hr,I4⟩=>?_);subst hr;exact Mo ⟨σ3,H3,I4,qn⟩
 ·refine KL hp (thn (T.item X rfl rfl rfl hc i pins s3 σ3 H3 X.xe I3 (stat fr3) st3 go) fun r s4 ⟨u,hr,h4⟩=>?_);subst hr;refine KL hp (thn h4 fun _ s5 ⟨x,H5,I5,r5,y5,st5,fr5⟩=>?_);have I5':=I5.pinned (stat fr5) (T.obj _ _ st5);refine KL hp (thn (hg _ s5 σ3 H5 x u _ I5' r5 (step x H5 y5)) fun _ s6 ⟨σ6,H6,I6,q6⟩=>?_);refine KL hp (thn (hb _ s6 σ6 H6 _ I6 q6) fun f s7 q7=>?_)
  have again:∀{σ7:St} {H7:Hp},Inv X (pins++Z0 fp s5.heap) σ7 H7 s7->N σ7 H7->∃m,m<n/\∃i σ' H',Inv X pins σ' H' s7/\tn i s7.heap/\(∀b∈fp,H' b=none)/\W i m σ' H':=fun {σ7 H7} I7 n7=>by obtain⟨m',hm,w7⟩:=hN σ7 H7 n7;refine⟨m',hm,i+1,σ7,H7,I7.unpinned,T.keep _ _ _ st5 fun b hb o e=>(I7.pin (b,o) (GI _ (GI _ (VD hb e)))).1,fun b hb=>?_,w7⟩;obtain⟨o,e,d⟩:=T.obj _ _ st5 b hb;exact(I7.pin (b,o) (GI _ (GI _ (VD hb e)))).2.1
  cases f with
  | next=>obtain⟨σ7,H7,I7,n7⟩:=q7;exact again I7 n7
  | cont=>obtain⟨σ7,H7,I7,n7⟩:=q7;exact again I7 n7
  | brk=>obtain⟨σ7,H7,I7,q7⟩:=q7;exact⟨σ7,H7,I7.unpinned,q7⟩
  | ret v=>obtain⟨x7,σ7,H7,I7,r7,q7⟩:=q7;exact⟨x7,σ7,H7,I7.unpinned,r7,q7⟩
theorem JiN{K:Frag}{a:Addr}{xs:List V}{g:TG}{tb:TS}{D:Ends}{σ:St}{H:Hp}(Pv:Nat->St->Hp->Prop)(h0:Pv 0 σ H)(hl:∀i σ H,i<=xs.length->Pv i σ H->SqL K H a xs)
 (hs:∀i x σ H,xs[i]?=some x->Pv i σ H->g x σ H fun σ2 H2=>tb { D with nx:=Pv (i+1),ct:=Pv (i+1),bk:=D.nx } σ2 H2) (hd:∀σ H,Pv xs.length σ H->D.nx σ H) :
 ∃W:Nat->Nat->St->Hp->Prop,(∃m,W 0 m σ H)/\∀i m σ H,W i m σ H ->
  ((Itl K a).stop i H/\D.nx σ H)\/((Itl K a).go i H/\∃N:St->Hp->Prop,(∀σ' H',N σ' H'->∃m',m'<m/\W (i+1) m' σ' H')/\∀x H',(Itl K a).yld i H x H'->g x σ H' fun σ2 H2=>tb { D with nx:=N,ct:=N,bk:=D.nx } σ2 H2):=by
 refine⟨fun i m σ H=>m=xs.length-i/\i<=xs.length/\Pv i σ H,⟨xs.length,by simp,Gr _,h0⟩,?_⟩;rintro i m σ H ⟨rfl,hi,p⟩;have q:=hl i σ H hi p
 by_cases hlt:i<xs.length
 ·refine .inr ⟨⟨xs,xs[i],q,by simp[hlt]⟩,Pv (i+1),fun σ' H' p'=>⟨xs.length-(i+1),by omega,rfl,hlt,p'⟩,fun x H' y=>?_⟩;obtain⟨e,y⟩:=y;subst e;exact hs i x σ _ (y xs q) p
 ·have e:i=xs.length:=by omega
  subst e;exact .inl ⟨⟨xs,q,Qm _⟩,hd σ H p⟩
theorem Jlr{K:Frag}{a:Addr}{xs:List V}{g:TG}{tb:TS}{D:Ends}{σ:St}{H:Hp}(Pv:Nat->St->Hp->Prop)(h0:Pv 0 σ H)(hl:∀i σ H,i<=xs.length->Pv i σ H->SqT K H a xs)
 (hs:∀i x σ H,xs[i]?=some x->Pv i σ H->g x σ H fun σ2 H2=>tb { D with nx:=Pv (i+1),ct:=Pv (i+1),bk:=D.nx } σ2 H2) (hd:∀σ H,Pv xs.length σ H->D.nx σ H) :
 ∃W:Nat->Nat->St->Hp->Prop,(∃m,W 0 m σ H)/\∀i m σ H,W i m σ H ->
  ((Itt K a).stop i H/\D.nx σ H)\/((Itt K a).go i H/\∃N:St->Hp->Prop,(∀σ' H',N σ' H'->∃m',m'<m/\W (i+1) m' σ' H')/\∀x H',(Itt K a).yld i H x H'->g x σ H' fun σ2 H2=>tb { D with nx:=N,ct:=N,bk:=D.nx } σ2 H2):=by
 refine⟨fun i m σ H=>m=xs.length-i/\i<=xs.length/\Pv i σ H,⟨xs.length,by simp,Gr _,h0⟩,?_⟩;rintro i m σ H ⟨rfl,hi,p⟩;have q:=hl i σ H hi p
 by_cases hlt:i<xs.length
 ·refine .inr ⟨⟨xs,xs[i],q,by simp[hlt]⟩,Pv (i+1),fun σ' H' p'=>⟨xs.length-(i+1),by omega,rfl,hlt,p'⟩,fun x H' y=>?_⟩;obtain⟨e,y⟩:=y;subst e;exact hs i x σ _ (y xs q) p
 ·have e:i=xs.length:=by omega
  subst e;exact .inl ⟨⟨xs,q,Qm _⟩,hd σ H p⟩
noncomputable abbrev R2:=V->V->Hp->VK->Prop
noncomputable def OpR(X:Cx)(f:Value->Value->Sem Value)(r:R2):Prop :=
 ∀(pins:List (Addr×Obj)) (s:Shared) (σ:St) (H:Hp) (x y:V) (v u:Value) (Q:VK),Inv X pins σ H s->RelV x v->RelV y u->r x y H Q ->
  wpAny (model X.prog X.w) X.A (f v u) (EP X pins σ Q) X.xe s
noncomputable def UnR(X:Cx)(f:Value->Sem Value)(r:V->Hp->VK->Prop):Prop :=
 ∀(pins:List (Addr×Obj)) (s:Shared) (σ:St) (H:Hp) (x:V) (v:Value) (Q:VK),Inv X pins σ H s->RelV x v->r x H Q ->
  wpAny (model X.prog X.w) X.A (f v) (EP X pins σ Q) X.xe s
noncomputable def J3(X:Cx)(f:Value)(r:List V->Hp->VK->Prop):Prop :=
 ∀(pins:List (Addr×Obj)) (s:Shared) (σ:St) (H:Hp) (xs:List V) (us:List Value) (Q:VK),Inv X pins σ H s->Vals xs us->r xs H Q ->
  wpAny (model X.prog X.w) X.A (call f us) (EP X pins σ Q) X.xe s
noncomputable def Jr2(X:Cx)(r:V->Hp->(Bool->Hp->Prop)->Prop):Prop :=
 ∀(pins:List (Addr×Obj)) (s:Shared) (σ:St) (H:Hp) (x:V) (v:Value) (Q:Bool->Hp->Prop),Inv X pins σ H s->RelV x v->r x H Q ->
  wpAny (model X.prog X.w) X.A (truthy v) (TP X pins σ Q) X.xe s
noncomputable def tOp(r:R2)(ta tb:TE):TE:=fun σ H Q=>ta σ H fun x H1=>tb σ H1 fun y H2=>r x y H2 Q
noncomputable def tUn(r:V->Hp->VK->Prop)(ta:TE):TE:=fun σ H Q=>ta σ H fun x H1=>r x H1 Q
noncomputable def rI(C:Int->Int->Prop)(g:Int->Int->V):R2:=fun x y H Q=>∃i j,x=.int i/\y=.int j/\C i j/\Q (g i j) H
noncomputable def rI0(g:Int->Int->V):R2:=fun x y H Q=>∃i j,x=.int i/\y=.int j/\Q (g i j) H
noncomputable def rU(g:Int->V):V->Hp->VK->Prop:=fun x H Q=>∃i,x=.int i/\Q (g i) H
theorem JnU(ha:PE X a ta)(hb:PE X b tb){pins:List (Addr×Obj)}{s:Shared}{σ:St}{H:Hp}{R:V->V->Hp->Prop}(I:Inv X pins σ H s)
 (h:ta σ H fun x H1=>tb σ H1 fun y H2=>R x y H2) {Q:Value->Shared->Prop} {f:Value->Value->Sem Value}
 (hf:∀v u s2 x y H2,Inv X pins σ H2 s2->RelV x v->RelV y u->R x y H2->wpAny (model X.prog X.w) X.A (f v u) Q X.xe s2) :
 wpAny (model X.prog X.w) X.A (eval a X.env) (fun v s₁=>wpAny (model X.prog X.w) X.A (eval b X.env) (fun u s₂=>wpAny (model X.prog X.w) X.A (f v u) Q X.xe s₂) X.xe s₁) X.xe s:=by
 refine thn (ha pins s σ H _ I h) fun v s1 ⟨x,H1,I1,r1,q1⟩=>?_
 refine thn (hb pins s1 σ H1 _ I1 q1) fun u s2 ⟨y,H2,I2,r2,q2⟩=>?_
 exact hf v u s2 x y H2 I2 r1 r2 q2
theorem Jl(ho:OpR X (binaryOp op) r)(ha:PE X a ta)(hb:PE X b tb):PE X (.BinOp a op b pos) (tOp r ta tb):=by intro pins s σ H Q I h;exact wpAny_BinOp (JnU ha hb I h fun v u s2 x y H2 I2 rx ry q=>ho pins s2 σ H2 x y v u Q I2 rx ry q)
theorem Jgi(ho:UnR X (unaryOp op) r)(ha:PE X a ta):PE X (.UnaryOp op a pos) (tUn r ta):=by intro pins s σ H Q I h;exact UnaryOp_ (thn (ha pins s σ H _ I h) fun v s1 ⟨x,H1,I1,r1,q1⟩=>ho pins s1 σ H1 x v Q I1 r1 q1)
theorem opI{f:Value->Value->Sem Value}{C:Int->Int->Prop}{g:Int->Int->Int}
 (rule:∀(i j:Int) (t u:Tok) (s:Shared) (Q:Value->Shared->Prop) (E:Value->Shared->Prop),C i j->Q (.int (g i j) s.toks) { s with toks:=s.toks+1 }->wpAny (model X.prog X.w) X.A (f (.int i t) (.int j u)) Q E s) :
 OpR X f (rI C fun i j=>.int (g i j)):=by
 intro pins s σ H x y v u Q I rx ry h;obtain⟨i,j,rfl,rfl,hc,q⟩:=h;obtain⟨t,rfl⟩:=rx;obtain⟨t',rfl⟩:=ry;exact rule i j t t' s _ _ hc ⟨.int (g i j),H,I.tok _,⟨_,rfl⟩,q⟩
theorem Jrb{f:Value->Value->Sem Value}{g:Int->Int->Int}
 (rule:∀(i j:Int) (t u:Tok) (s:Shared) (Q:Value->Shared->Prop) (E:Value->Shared->Prop),Q (.int (g i j) s.toks) { s with toks:=s.toks+1 }->wpAny (model X.prog X.w) X.A (f (.int i t) (.int j u)) Q E s) :
 OpR X f (rI0 fun i j=>.int (g i j)):=by
 intro pins s σ H x y v u Q I rx ry h;obtain⟨i,j,rfl,rfl,q⟩:=h;obtain⟨t,rfl⟩:=rx;obtain⟨t',rfl⟩:=ry;exact rule i j t t' s _ _ ⟨.int (g i j),H,I.tok _,⟨_,rfl⟩,q⟩
theorem Jo4{f:Value->Value->Sem Value}{g:Int->Int->Bool}
 (rule:∀(i j:Int) (t u:Tok) (s:Shared) (Q:Value->Shared->Prop) (E:Value->Shared->Prop),Q (.bool (g i j)) s->wpAny (model X.prog X.w) X.A (f (.int i t) (.int j u)) Q E s) :
 OpR X f (rI0 fun i j=>.bl (g i j)):=by
 intro pins s σ H x y v u Q I rx ry h;obtain⟨i,j,rfl,rfl,q⟩:=h;obtain⟨t,rfl⟩:=rx;obtain⟨t',rfl⟩:=ry;exact rule i j t t' s _ _ ⟨.bl (g i j),H,I,rfl,q⟩
noncomputable def Jqk(i j:Int):Prop:=0<j/\j<1073741824
noncomputable def Jql(i j:Int):Prop:=0<=j/\j<=1000000/\i.natAbs<2 ^ 64
noncomputable def CMul(i j:Int):Prop:=(-(2 ^ 64)<i/\i<2 ^ 64)\/(-(2 ^ 64)<j/\j<2 ^ 64)
theorem CMul.ok(h:CMul i j):IntMulOk i j:=by
 rcases h with ⟨h1,h2⟩|⟨h1,h2⟩
 ·exact .of_left (intBits_le_64 h1 h2)
 ·exact .of_right (intBits_le_64 h1 h2)
theorem op_add:OpR X (binaryOp .Add) (rI0 fun i j=>.int (i+j)):=Jrb fun _ _ _ _ _ _ _ q=>add_int q
theorem J2:OpR X (binaryOp .Sub) (rI0 fun i j=>.int (i-j)):=Jrb fun _ _ _ _ _ _ _ q=>sub_int q
theorem YR:OpR X (binaryOp .Mult) (rI CMul fun i j=>.int (i*j)):=opI fun _ _ _ _ _ _ _ hc q=>mul_int q hc.ok
theorem V7:OpR X (binaryOp .FloorDiv) (rI Jqk fun i j=>.int (i / j)):=opI fun i j _ _ _ _ _ hc q=>by
 have h1:(0:Int)<j:=hc.1
 have h2:j<1073741824:=hc.2;exact floordiv_int (by omega) (by rw[MH i (by omega)];exact q) (.inl (PyProof.noPylong_small (by omega)))
theorem Ut:OpR X (binaryOp .Mod) (rI (fun _ j=>0<j) fun i j=>.int (i % j)):=opI fun i j _ _ _ _ _ hc q=>by have h1:(0:Int)<j:=hc;exact mod_int' (by omega) (by rw[Int.fmod_eq_emod_of_nonneg i (by omega)];exact q)
theorem Jjw:OpR X (binaryOp .Pow) (rI Jql fun i j=>.int (i ^ j.toNat)):=opI fun _ _ _ _ _ _ _ hc q=>pow_int_small hc.1 hc.2.1 hc.2.2 q
theorem unI{f:Value->Sem Value}{g:Int->Int}
 (rule:∀(i:Int) (t:Tok) (s:Shared) (Q:Value->Shared->Prop) (E:Value->Shared->Prop),Q (.int (g i) s.toks) { s with toks:=s.toks+1 }->wpAny (model X.prog X.w) X.A (f (.int i t)) Q E s) :
 UnR X f (rU fun i=>.int (g i)):=by
 intro pins s σ H x v Q I rx h;obtain⟨i,rfl,q⟩:=h;obtain⟨t,rfl⟩:=rx;exact rule i t s _ _ ⟨.int (g i),H,I.tok _,⟨_,rfl⟩,q⟩
theorem Jci:UnR X (unaryOp .USub) (rU fun i=>.int (-i)):=unI fun _ _ _ _ _ q=>neg_int q
noncomputable def JpY:V->V->Bool
 | .non,.non=>true|.non,.int _=>true|.int _,.non=>true|.non,.bl _=>true|.bl _,.non=>true|.non,.str _=>true|.str _,.non=>true
 | .int _,.int _=>true|.bl _,.bl _=>true|.str _,.str _=>true|.byt _,.byt _=>true
 | .int _,.str _=>true|.str _,.int _=>true|.bl _,.str _=>true|.str _,.bl _=>true
 | _,_=>false
noncomputable def rEq:R2:=fun x y H Q=>JpY x y=true/\Q (.bl (decide (x=y))) H
noncomputable def rNe:R2:=fun x y H Q=>JpY x y=true/\Q (.bl (!decide (x=y))) H
theorem JfH:decide (V.int i=V.int j)=(i == j):=by rw[KB];simp
theorem Jit:decide (V.bl i=V.bl j)=(i == j):=by rw[KB];simp
theorem JfI:decide (V.str i=V.str j)=(i == j):=by rw[KB];simp
theorem JfG:decide (V.byt i=V.byt j)=(i.toList == j.toList):=by rw[KB];cases i;cases j;simp
theorem JB{pins:List (Addr×Obj)}{σ:St}{H:Hp}{s:Shared}{Q:VK}{k k':Bool}(I:Inv X pins σ H s)(q:Q (.bl k) H)(e:k=k'):EP X pins σ Q (.bool k') s:=by subst e;exact⟨.bl k,H,I,rfl,q⟩
theorem op_eq:OpR X (compareOp .Eq) rEq:=by
 intro pins s σ H x y v u Q I rx ry h;obtain⟨hs,q⟩:=h
 cases x with
 | non =>
  cases rx
  cases y with
  | non=>cases ry;exact PySem.EqNone.eq_none_none (JB I q (by simp))
  | bl j=>cases ry;exact PySem.EqNone.eq_none_bool (JB I q (by simp))
  | int j=>obtain⟨t',rfl⟩:=ry;exact PySem.EqNone.eq_none_int (JB I q (by simp))
  | str j=>obtain⟨t',rfl⟩:=ry;exact PySem.EqNone.eq_none_str (JB I q (by simp))
  | _=>exact absurd (show false=true from hs) Qu
 | bl i =>
  cases rx
  cases y with
  | non=>cases ry;exact PySem.EqNone.eq_bool_none (JB I q (by simp))
  | bl j=>cases ry;exact eq_bool (JB I q Jit)
  | str j=>obtain⟨t',rfl⟩:=ry;exact PySem.EqMixed.eq_bool_str (JB I q (by simp))
  | _=>exact absurd (show false=true from hs) Qu
 | int i =>
  obtain⟨t,rfl⟩:=rx
  cases y with
  | non=>cases ry;exact PySem.EqNone.eq_int_none (JB I q (by simp))
  | int j=>obtain⟨t',rfl⟩:=ry;exact eq_int (JB I q JfH)
  | str j=>obtain⟨t',rfl⟩:=ry;exact PySem.EqMixed.eq_int_str (JB I q (by simp))
  | _=>exact absurd (show false=true from hs) Qu
 | str i =>
  obtain⟨t,rfl⟩:=rx
  cases y with
  | non=>cases ry;exact PySem.EqNone.eq_str_none (JB I q (by simp))
  | bl j=>cases ry;exact PySem.EqMixed.eq_str_bool (JB I q (by simp))
  | int j=>obtain⟨t',rfl⟩:=ry;exact PySem.EqMixed.eq_str_int (JB I q (by simp))
  | str j=>obtain⟨t',rfl⟩:=ry;exact eq_str (JB I q JfI)
  | _=>exact absurd (show false=true from hs) Qu
 | byt i =>
  obtain⟨t,rfl⟩:=rx
  cases y with
  | byt j=>obtain⟨t',rfl⟩:=ry;exact PySem.W.eq_bytes (JB I q JfG)
  | _=>exact absurd (show false=true from hs) Qu
 | _=>cases y <;> exact absurd (show false=true from hs) Qu
theorem op_ne:OpR X (compareOp .NotEq) rNe:=by
 intro pins s σ H x y v u Q I rx ry h;obtain⟨hs,q⟩:=h
 cases x with
 | non =>
  cases rx
  cases y with
  | non=>cases ry;exact PySem.EqNone.ne_none_none (JB I q (by simp))
  | bl j=>cases ry;exact PySem.EqNone.ne_none_bool (JB I q (by simp))
  | int j=>obtain⟨t',rfl⟩:=ry;exact PySem.EqNone.ne_none_int (JB I q (by simp))
  | str j=>obtain⟨t',rfl⟩:=ry;exact PySem.EqNone.ne_none_str (JB I q (by simp))
  | _=>exact absurd (show false=true from hs) Qu
 | bl i =>
  cases rx
  cases y with
  | non=>cases ry;exact PySem.EqNone.ne_bool_none (JB I q (by simp))
  | bl j=>cases ry;exact ne_bool (JB I q (congrArg not Jit))
  | str j=>obtain⟨t',rfl⟩:=ry;exact PySem.EqMixed.ne_bool_str (JB I q (by simp))
  | _=>exact absurd (show false=true from hs) Qu
 | int i =>
  obtain⟨t,rfl⟩:=rx
  cases y with
  | non=>cases ry;exact PySem.EqNone.ne_int_none (JB I q (by simp))
  | int j=>obtain⟨t',rfl⟩:=ry;exact ne_int (JB I q (congrArg not JfH))
  | str j=>obtain⟨t',rfl⟩:=ry;exact PySem.EqMixed.ne_int_str (JB I q (by simp))
  | _=>exact absurd (show false=true from hs) Qu
 | str i =>
  obtain⟨t,rfl⟩:=rx
  cases y with
  | non=>cases ry;exact PySem.EqNone.ne_str_none (JB I q (by simp))
  | bl j=>cases ry;exact PySem.EqMixed.ne_str_bool (JB I q (by simp))
  | int j=>obtain⟨t',rfl⟩:=ry;exact PySem.EqMixed.ne_str_int (JB I q (by simp))
  | str j=>obtain⟨t',rfl⟩:=ry;exact ne_str (JB I q (congrArg not JfI))
  | _=>exact absurd (show false=true from hs) Qu
 | byt i =>
  obtain⟨t,rfl⟩:=rx
  cases y with
  | byt j=>obtain⟨t',rfl⟩:=ry;exact PySem.W.ne_bytes (JB I q (congrArg not JfG))
  | _=>exact absurd (show false=true from hs) Qu
 | _=>cases y <;> exact absurd (show false=true from hs) Qu
theorem Ja3:OpR X (compareOp .Lt) (rI0 fun i j=>.bl (decide (i<j))):=Jo4 fun _ _ _ _ _ _ _ q=>lt_int q
theorem Jjv:OpR X (compareOp .LtE) (rI0 fun i j=>.bl (decide (i<=j))):=Jo4 fun _ _ _ _ _ _ _ q=>le_int q
theorem WR:OpR X (compareOp .Gt) (rI0 fun i j=>.bl (decide (j<i))):=Jo4 fun _ _ _ _ _ _ _ q=>gt_int q
theorem Jo8:OpR X (compareOp .Is) (fun x y H Q=>y=.non/\Q (.bl (decide (x=.non))) H):=by
 intro pins s σ H x y v u Q I rx ry h;obtain⟨rfl,q⟩:=h;cases ry;refine is_none_gen (JB I q ?_);cases x <;> first
  | (cases rx;rfl)
  | (obtain⟨t,rfl⟩:=rx;rfl)
theorem Jl2:OpR X (compareOp .IsNot) (fun x y H Q=>y=.non/\Q (.bl (!decide (x=.non))) H):=by
 intro pins s σ H x y v u Q I rx ry h;obtain⟨rfl,q⟩:=h;cases ry;refine isnot_none_gen (JB I q ?_);cases x <;> first
  | (cases rx;rfl)
  | (obtain⟨t,rfl⟩:=rx;rfl)
theorem OpR.or(h:OpR X f r)(h':OpR X f r'):OpR X f (fun x y H Q=>r x y H Q\/r' x y H Q):=by
 intro pins s σ H x y v u Q I rx ry q;rcases q with q|q
 ·exact h pins s σ H x y v u Q I rx ry q
 ·exact h' pins s σ H x y v u Q I rx ry q
theorem Jx(b:Expr){op:CmpOp}(h:op≠.In:=by decide)(h2:op≠.NotIn:=by decide):behindInMarks op b=false:=by
 have e1:(op == CmpOp.In)=false:=by cases op <;> first|rfl|exact absurd rfl h
 have e2:(op == CmpOp.NotIn)=false:=by cases op <;> first|rfl|exact absurd rfl h2
 cases b <;> simp[behindInMarks,e1,e2]
theorem Jb0(ho:OpR X (compareOp op) r)(ha:PE X a ta)(hb:PE X b tb)(hm:behindInMarks op b=false):PE X (.Compare a [op] [b] pos) (tOp r ta tb):=by intro pins s σ H Q I h;exact wpAny_Compare1 (JnU ha hb I h fun v u s2 x y H2 I2 rx ry q=>ho pins s2 σ H2 x y v u Q I2 rx ry q) hm
noncomputable def JgG(t:TE):TT:=fun σ H Q=>t σ H fun x H'=>∃k,x=.bl k/\Q k H'
theorem Js(ho:OpR X (compareOp op) r)(ha:PE X a ta)(hb:PE X b tb)(hm:behindInMarks op b=false):PT X (.Compare a [op] [b] pos) (JgG (tOp r ta tb)):=by
 intro pins s σ H Q I h;refine wpAny_isTrue_Compare1 (thn (ha pins s σ H _ I h) fun v s1 ⟨x,H1,I1,r1,q1⟩=>thn (hb pins s1 σ H1 _ I1 q1) fun u s2 ⟨y,H2,I2,r2,q2⟩=>thn (ho pins s2 σ H2 x y v u _ I2 r1 r2 q2) fun c s3 ⟨z,H3,I3,r3,k,e,q3⟩=>?_) hm
 subst e;cases r3;exact Kv ⟨H3,I3,q3⟩
noncomputable def Jkp(r r':R2)(ta tb tc:TE):TE:=fun σ H Q=>ta σ H fun x H1=>tb σ H1 fun y H2=>r x y H2 fun z H3=>∃k,z=.bl k ∧
 (if k=true then tc σ H3 fun w' H4=>r' y w' H4 Q else Q (.bl false) H3)
theorem Jjy{op op':CmpOp}{r r':R2}(ho:OpR X (compareOp op) r)(ho':OpR X (compareOp op') r')(ha:PE X a ta)(hb:PE X b tb)(hc:PE X c tc)
 (hm:lastMarks [op,op'] [b,c]=false:=by with_unfolding_all rfl):PE X (.Compare a [op,op'] [b,c] pos) (Jkp r r' ta tb tc):=by
 intro pins s σ H Q I h;refine Compare_chain (thn (ha pins s σ H _ I h) fun v s1 ⟨x,H1,I1,r1,q1⟩=>chain_link (thn (hb pins s1 σ H1 _ I1 q1) fun u s2 ⟨y,H2,I2,r2,q2⟩=>thn (ho pins s2 σ H2 x y v u _ I2 r1 r2 q2) fun d s3 ⟨z,H3,I3,r3,k,e,q3⟩=>?_)) hm
 subst e;cases r3;refine Kv ?_
 cases k with
 | false=>exact ite_ff ⟨.bl false,H3,I3,rfl,q3⟩
 | true=>exact ite_tt (chain_last (thn (hc pins s3 σ H3 _ I3 q3) fun w' s4 ⟨z',H4,I4,r4,q4⟩=>ho' pins s4 σ H4 y z' u w' Q I4 r2 r4 q4))
noncomputable def JkV(K:Frag)(x:V)(H:Hp)(k:Bool):Prop :=
 match x with
 | .non=>k=false
 | .bl b=>k=b
 | .int i=>k=(i != 0)
 | .str y=>y.length<=sizeLine/\k=((y.length:Int) != 0)
 | .byt y=>y.size<=sizeLine/\k=((y.size:Int) != 0)
 | .ref p=>(∃xs,SqL K H p xs/\k=!xs.isEmpty)\/(∃xs,SqT K H p xs/\k=!xs.isEmpty)\/∃kvs,H p=some (.dK kvs)/\k=!kvs.isEmpty
 | _=>False
theorem JeF{κ:Type}{kvs:List (κ×V)}{vs:List (κ×Value)}(r:KV kvs vs):(!vs.isEmpty)=!kvs.isEmpty:=by cases r <;> rfl
theorem ZJ(r:Vals xs its):(!its.toArray.isEmpty)=!xs.isEmpty:=by cases r <;> simp
theorem ZN:(sizeLine:Nat)<2 ^ 63:=by rw[sizeLine_eq];decide
theorem Jqc:Jr2 X (fun x H Q=>∃k,JkV X.K x H k/\Q k H):=by
 intro pins s σ H x v Q I rx h;obtain⟨k,e,q⟩:=h;have hl:=ZN;have hs:sizeLine=16777216:=sizeLine_eq
 cases x with
 | non=>cases rx;have e':k=false:=e;subst e';exact truthy_none ⟨H,I,q⟩
 | bl b=>cases rx;have e':k=b:=e;subst e';exact Kv ⟨H,I,q⟩
 | int i=>obtain⟨t,rfl⟩:=rx;have e':k=(i != 0):=e;subst e';exact PySem.P.truthy_int ⟨H,I,q⟩
 | str y=>obtain⟨t,rfl⟩:=rx;obtain⟨hy,e'⟩:y.length<=sizeLine/\k=((y.length:Int) != 0):=e;subst e';exact PySem.P.truthy_str (by omega) ⟨H,I.tok _,q⟩
 | byt y=>obtain⟨t,rfl⟩:=rx;obtain⟨hy,e'⟩:y.size<=sizeLine/\k=((y.size:Int) != 0):=e;subst e';exact PySem.W.truthy_bytes (by omega) ⟨H,I.tok _,q⟩
 | ref p =>
  cases rx;have e':(∃xs,SqL X.K H p xs/\k=!xs.isEmpty)\/(∃xs,SqT X.K H p xs/\k=!xs.isEmpty)\/∃kvs,H p=some (.dK kvs)/\k=!kvs.isEmpty:=e
  rcases e' with ⟨xs,hx,e'⟩|⟨xs,hx,e'⟩|⟨kvs,hx,e'⟩
  ·subst e';obtain⟨its,r,pl,hz⟩:=I.list hx;have hlen:=r.length;exact wpAny_truthy_list pl.isList (by simp only[Qo];omega) ⟨H,I.tok _,by rw[ZJ r];exact q⟩
  ·subst e';obtain⟨its,r,pl,hz⟩:=I.tuple hx;have hlen:=r.length;exact truthy_tuple pl (by simp only[Qo];omega) ⟨H,I.tok _,by rw[ZJ r];exact q⟩
  ·subst e';obtain⟨hz,hS,vs,r,m⟩:kvs.length<=sizeLine/\(p == sysModules)=false/\∃vs,KV kvs vs/\s.heap.DictOf (JA X.prog X.w) p vs:=I.hok p _ hx
   have hlen:kvs.length=vs.length:=M1 r;exact wpAny_truthy_dict hS m (by omega) ⟨H,I.tok _,by rw[JeF r];exact q⟩
 | _=>exact(show False from e).elim
theorem JjL(ha:PE X a ta)(he:∀whole,isTrue a X.env whole=(do let v <- whole;standAt a.pos;holding [v] (truthy v))) :
 PT X a (fun σ H Q=>ta σ H fun x H'=>∃k,JkV X.K x H' k/\Q k H'):=by
 intro pins s σ H Q I h;exact isTrue_plain (thn (ha pins s σ H _ I h) fun v s1 ⟨x,H1,I1,r1,q1⟩=>Jqc pins s1 σ H1 x v Q I1 r1 q1) (he _)
theorem op_add_str:OpR X (binaryOp .Add) (fun x y H Q=>∃i j,x=.str i/\y=.str j/\i.length+j.length<=sizeLine/\Q (.str (i++j)) H):=by intro pins s σ H x y v u Q I rx ry h;obtain⟨i,j,rfl,rfl,hz,q⟩:=h;obtain⟨t,rfl⟩:=rx;obtain⟨t',rfl⟩:=ry;exact add_str (fun t' tk=>⟨.str (i++j),H,I.tok _,⟨_,rfl⟩,q⟩) hz
theorem UW(r:Vals [x] us):∃u,us=[u]/\RelV x u:=by
 cases r with
 | cons r1 r2=>cases r2;exact⟨_,rfl,r1⟩
theorem JkI(r:Vals [x,y] us):∃u w',us=[u,w']/\RelV x u/\RelV y w':=by
 cases r with
 | cons r1 r2 =>
  cases r2 with
  | cons r3 r4=>cases r4;exact⟨_,_,rfl,r1,r3⟩
theorem JgZ(hc:X.calm=true):J3 X (.builtin "max") (fun xs H Q=>∃i j,xs=[.int i,.int j]/\Q (.int (if j>i then j else i)) H):=by
 intro pins s σ H xs us Q I r h;obtain⟨i,j,rfl,q⟩:=h;obtain⟨u,w',rfl,⟨t,rfl⟩,⟨t',rfl⟩⟩:=JkI r;refine max_two_ints (I.ok.hd hc) fun h' tk k=>⟨_,H,I.kept k,?_,q⟩
 by_cases hj:j>i
 ·rw[if_pos hj,if_pos hj];exact⟨_,rfl⟩
 ·rw[if_neg hj,if_neg hj];exact⟨_,rfl⟩
theorem Jg1(hc:X.calm=true):J3 X (.builtin "min") (fun xs H Q=>∃i j,xs=[.int i,.int j]/\Q (.int (if j<i then j else i)) H):=by
 intro pins s σ H xs us Q I r h;obtain⟨i,j,rfl,q⟩:=h;obtain⟨u,w',rfl,⟨t,rfl⟩,⟨t',rfl⟩⟩:=JkI r;refine min_two_ints (I.ok.hd hc) fun h' tk k=>⟨_,H,I.kept k,?_,q⟩
 by_cases hj:j<i
 ·rw[if_pos hj,if_pos hj];exact⟨_,rfl⟩
 ·rw[if_neg hj,if_neg hj];exact⟨_,rfl⟩
noncomputable def Jqp(K:Frag)(x:V)(H:Hp)(n:Nat):Prop :=
 match x with
 | .str y=>y.length<=sizeLine/\n=y.length
 | .byt y=>y.size<=sizeLine/\n=y.size
 | .ref p=>(∃xs,SqL K H p xs/\n=xs.length)\/∃xs,SqT K H p xs/\n=xs.length
 | _=>False
theorem Jil:J3 X (.builtin "len") (fun xs H Q=>∃x n,xs=[x]/\Jqp X.K x H n/\Q (.int n) H):=by
 intro pins s σ H xs us Q I r h;obtain⟨x,n,rfl,e,q⟩:=h;obtain⟨u,rfl,rx⟩:=UW r;have hl:=ZN;have hs:sizeLine=16777216:=sizeLine_eq
 cases x with
 | str y=>obtain⟨t,rfl⟩:=rx;obtain⟨hy,e'⟩:y.length<=sizeLine/\n=y.length:=e;subst e';exact len_str (by omega) ⟨.int _,H,I.tok _,⟨_,rfl⟩,q⟩
 | byt y=>obtain⟨t,rfl⟩:=rx;obtain⟨hy,e'⟩:y.size<=sizeLine/\n=y.size:=e;subst e';exact PySem.W.len_bytes (by omega) ⟨.int _,H,I.tok _,⟨_,rfl⟩,q⟩
 | ref p =>
  cases rx;have e':(∃xs,SqL X.K H p xs/\n=xs.length)\/∃xs,SqT X.K H p xs/\n=xs.length:=e
  rcases e' with ⟨xs,hx,e'⟩|⟨xs,hx,e'⟩
  ·subst e';obtain⟨its,r',pl,hz⟩:=I.list hx;have hlen:=r'.length;exact Calls.call_len_list pl.isList (by simp only[Qo];omega) ⟨.int xs.length,H,I.tok _,⟨_,by simp only[Qo];rw[hlen]⟩,q⟩
  ·subst e';obtain⟨its,r',pl,hz⟩:=I.tuple hx;have hlen:=r'.length;exact len_tuple pl (by simp only[Qo];omega) ⟨.int xs.length,H,I.tok _,⟨_,by simp only[Qo];rw[hlen]⟩,q⟩
 | _=>exact(show False from e).elim
structure ObjM (h:Heap) (x dx C:Addr) (mA:Str->Option Value):Prop where
 obj:h.get? x=some (instObj C dx)
 ns:h.Ns1 dx mA
 ne:dx≠x
theorem Jhr{h:Heap}{mA:Str->Option Value}(n:h.Ns1 dx mA):∃od,h.get? dx=some od/\∀name,lookIn name od=some (mA name):=by
 obtain⟨o,es,ep,ho,hd,hk,_,hm⟩:=n;refine⟨o,ho,fun name=>?_⟩;have e:=hm name;unfold nsFind findBy at e;rw[<- Array.find?_toList] at e;unfold lookIn;rw[hd];dsimp only;split
 ·rename_i y q;rw[q] at e;exact congrArg some e
 ·rename_i q;rw[q] at e
  have a:es.toList.any (·.refKey)=false:=by rw[List.any_eq_false];intro y hy;obtain⟨z,t,hkey⟩:=hk y (Array.mem_toList_iff.mp hy);simp[DictEntry.refKey,hkey]
  have a':¬es.toList.any (·.refKey)=true:=by rw[a];exact Qu
  rw[if_neg a'];exact congrArg some e
theorem ObjM.look{h:Heap}{x dx C:Addr}{mA:Str->Option Value}(I:ObjM h x dx C mA):∃od,PySem.W.InstAt h x (instObj C dx) C (some od)/\∀name,lookIn name od=some (mA name) :=
 let ⟨od,ho,hl⟩:=Jhr I.ns
 ⟨od,⟨I.obj,rfl,rfl,ho⟩,hl⟩
section
variable{prog:Program}{w:World}{A:Around}{E:Value->Shared->Prop}{s:Shared}{K:Frag}{x dx C f:Addr}{mA:Str->Option Value}{name:Str}{v:Value}
theorem Jlu(X:K.In s.heap)(I:ObjM s.heap x dx C mA)(hg:plainGet K C name=true)(hh:hasDictIn K C=true)(ha:findIn K (.ref C) name=some none)(hv:mA name=some v)(hv':PySem.W.handedIn v=true)(h:Q v { s with toks:=s.toks+1 }):
 wpAny (model prog w) A (getAttr (.ref x) name expr) Q E s:=by
 obtain⟨od,J,hl⟩:=I.look;exact PySem.W.get_value X J (PySem.W.plainGet_of hg).1 (PySem.W.findObj_own hh ha rfl (by rw[hl,hv])) hv' h
theorem JmR(X:K.In s.heap)(I:ObjM s.heap x dx C mA)(hs:findIn K (.ref C) "__setattr__"=some (some (.builtin "object.__setattr__")))(hp:plainOver K C=true)(ht:takerIn K C name=some none)(hh:hasDictIn K C=true)(hw:R6 mA ns)(hsz:ns.length<=sizeLine)(h:∀h',ObjM h' x dx C (fun y=>if y=name then some v else mA y)->QA dx s.heap h'->Q () { s with heap:=h',toks:=s.toks+2 }):
 wpAny (model prog w) A (setAttr (.ref x) name v) Q E s:=by
 obtain⟨od,J,hl⟩:=I.look;refine PySem.W.set_plain X J hs (PySem.W.osa_open (s:={ s with toks:=s.toks+1 }) (r:=none) X J hp ht fun b=>?_);obtain⟨cd,hc,hd'⟩:=PySem.W.any_some hh;have hx:s.heap.get? x=some ⟨.ref C,some dx,.plain,#[]⟩:=I.obj;refine Qa (Qe (Qa (Qa (wpAny_loadPart hx (Qa (PySem.W.Looks.here (s:={ s with toks:=s.toks+1 }) (PySem.W.looks_clsIn X hc) ?_))))));rw[hd'];refine Qe (a:=some dx) (Qa (Qe (Qa ?_)))
 refine wpAny_nsSet1 (s:={ s with toks:=s.toks+1 }) I.ns fun h' hn2 hs2=>?_
 obtain⟨oD,esD,epD,hoD,hdD,hcD⟩:=hn2.count (PySem.Within.cons name v hw);refine Qa (wpAny_lookBehind hoD (by rw[hdD];exact pastItsLine_dict (Gz hcD (by rw[Qq];omega))) ?_);exact Qe (h _ ⟨(hs2.2 _ (QP I.ne)).trans I.obj,hn2,I.ne⟩ hs2)
theorem Jjl{R:Result->Shared->Prop}{vs:List Value}{kw:List (Str×Value)}(X:K.In s.heap)(hm:makesIn K C=true)
 (hi:findIn K (.ref C) "__init__"=some (some (.ref f))) (hf:PySem.W.typeIn K (.ref f)=some (.type "function"))
 (h:codeAny (model prog w) (A.under (.builtin "type.__call__" ⟨.ref C::vs,kw⟩)) (.call (.ref f) ⟨.ref (s.heap.objs.size+1)::vs,kw⟩) (PySem.W.InitBack (s.heap.objs.size+1) R)
  { s with heap:=(s.heap.push emptyDict).push (instObj C s.heap.objs.size) }) :
 codeAny (model prog w) A (.call (.ref C) ⟨vs,kw⟩) R s:=by
 obtain⟨hh,g,d,t,os⟩:=s;exact PySem.W.make_core (PySem.W.makes_of X hm) (PySem.W.looks_findIn X hi) (fun self=>PySem.W.bind_fn X self hf) (.inl rfl) h
end
noncomputable def putF(f:Str)(v:V):List (Str×V)->List (Str×V)
 | []=>[(f,v)]
 | (g,x)::r=>if g=f then(g,v)::r else(g,x)::putF f v r
theorem WQ(f g:Str)(v:V):∀fs:List (Str×V),(putF f v fs).lookup g=if g=f then some v else fs.lookup g
 | []=>by
  show LZ g [(f,v)]=_
  by_cases h:g=f
  ·have hb:(g == f)=true:=beq_iff_eq.mpr h;simp only[LZ,hb,if_pos h]
  ·have hb:(g == f)=false:=beq_eq_false_iff_ne.mpr h;simp only[LZ,hb,if_neg h]
 | (k,x)::r=>by
  have ih:=WQ f g v r;rw[show putF f v ((k,x)::r)=(if k=f then(k,v)::r else(k,x)::putF f v r) from rfl]
  by_cases hk:k=f
  ·rw[if_pos hk]
   by_cases h:g=k
   ·have hb:(g == k)=true:=beq_iff_eq.mpr h;simp only[LZ,hb,if_pos (h.trans hk)]
   ·have hb:(g == k)=false:=beq_eq_false_iff_ne.mpr h;simp only[LZ,hb,if_neg (fun e:g=f=>h (e.trans hk.symm))]
  ·rw[if_neg hk]
   by_cases h:g=k
   ·have hb:(g == k)=true:=beq_iff_eq.mpr h;simp only[LZ,hb,if_neg (fun e:g=f=>hk (h.symm.trans e))]
   ·have hb:(g == k)=false:=beq_eq_false_iff_ne.mpr h;simp only[LZ,hb];exact ih
theorem Wu(f:Str)(v:V):∀fs:List (Str×V),f∈(putF f v fs).map (·.1)/\∀g,g∈fs.map (·.1)->g∈(putF f v fs).map (·.1)
 | []=>⟨by simp[putF],fun g h=>by simp at h⟩
 | (k,x)::r=>by
  obtain⟨i1,i2⟩:=Wu f v r;rw[show putF f v ((k,x)::r)=(if k=f then(k,v)::r else(k,x)::putF f v r) from rfl]
  by_cases hk:k=f
  ·rw[if_pos hk];subst hk;exact⟨by simp,fun g h=>by simpa using h⟩
  ·rw[if_neg hk];refine⟨?_,fun g h=>?_⟩
   ·rw[Qg];exact Qc _ i1
   ·rw[Qg] at h ⊢;rcases Qh.mp h with e|e
    ·exact Qh.mpr (.inl e)
    ·exact Qc _ (i2 g e)
theorem WP(f:Str)(v:V):∀fs:List (Str×V),(putF f v fs).length<=fs.length+1
 | []=>by simp[putF]
 | (k,x)::r=>by
  have ih:=WP f v r;rw[show putF f v ((k,x)::r)=(if k=f then(k,v)::r else(k,x)::putF f v r) from rfl]
  by_cases hk:k=f
  ·rw[if_pos hk,Qq,Qq];omega
  ·rw[if_neg hk,Qq,Qq];omega
theorem RelO.some_of{v:V}{o:Option Value}(r:RelO (some v) o):∃u,o=some u/\RelV v u:=by
 cases o with
 | none=>exact(show False from r).elim
 | some u=>exact⟨u,rfl,r⟩
theorem Jhc(r:RelV v u):PySem.W.handedIn u=true:=by
 cases v with
 | non=>cases (show u=Value.none from r);rfl
 | bl b=>cases (show u=Value.bool b from r);rfl
 | int i=>obtain⟨t,e⟩:=(show ∃t,u=Value.int i t from r);cases e;rfl
 | str x=>obtain⟨t,e⟩:=(show ∃t,u=Value.str x t from r);cases e;rfl
 | byt b=>obtain⟨t,e⟩:=(show ∃t,u=Value.bytes b t from r);cases e;rfl
 | flt b=>obtain⟨t,e⟩:=(show ∃t,u=Value.float b t from r);cases e;rfl
 | ref a=>cases (show u=Value.ref a from r);rfl
 | ty n=>cases (show u=Value.type n from r);rfl
theorem JbH(hok:HOk P w H h)(e:H a=some (.ins C dx fs)):∃mA,ObjM h a dx C mA/\(∀f,RelO (fs.lookup f) (mA f))/\R6 mA (fs.map (·.1))/\fs.length<=1000/\H dx=some (.own a):=by
 obtain⟨d,z,ne,ob,mA,n,r,q⟩:=(show ObjOk P w H h a (.ins C dx fs) from hok a _ e)
 exact⟨mA,⟨ob,n,ne⟩,r,q,z,d⟩
structure Cls (K:Frag) (C:Addr):Prop where
 pg:plainGet K C Str.empty=true
 hd:hasDictIn K C=true
 po:plainOver K C=true
 sa:findIn K (.ref C) "__setattr__"=some (some (.builtin "object.__setattr__"))
theorem Cls.get{K:Frag}{C:Addr}(c:Cls K C)(f:Str):plainGet K C f=true:=c.pg
noncomputable def NoAttr(K:Frag)(C:Addr)(f:Str):Prop:=findIn K (.ref C) f=some none
theorem NoAttr.taker{K:Frag}{C:Addr}{f:Str}(n:NoAttr K C f):takerIn K C f=some none:=by unfold takerIn;rw[show findIn K (.ref C) f=some none from n];rfl
theorem Jex(I:Inv X pins σ H s)(e:H a=some (.ins C dx fs))(c:Cls X.K C)(n:NoAttr X.K C f)(l:fs.lookup f=some v)(h:∀u s',Inv X pins σ H s'->RelV v u->Q u s'):wpAny (model X.prog X.w) A (getAttr (.ref a) f b) Q E s:=by
 obtain⟨mA,O,r,_,_,_⟩:=JbH I.hok e;obtain⟨u,hu,ru⟩:=RelO.some_of (v:=v) (o:=mA f) (by rw[<- l];exact r f);exact Jlu I.kIn O (c.get f) c.hd n hu (Jhc ru) (h u _ (I.tok _) ru)
theorem Jfb(I:Inv X pins σ H s)(e:H a=some (.ins C dx fs))(c:Cls X.K C)(n:NoAttr X.K C f)(hl:fs.length<1000)(ry:RelV y u)(h:∀s',Inv X pins σ (upd H a (.ins C dx (putF f y fs))) s'->Q () s'):wpAny (model X.prog X.w) A (setAttr (.ref a) f u) Q E s:=by
 obtain⟨mA,O,r,wi,_,ho⟩:=JbH I.hok e;have hz:(fs.map (·.1)).length<=sizeLine:=by rw[Qk,sizeLine_eq];omega
 refine JmR I.kIn O c.sa c.po n.taker c.hd wi hz fun h' O' sb=>h _ ?_
 have hd:∃o,h'.get? dx=some o:=let ⟨o,_,_,e',_⟩:=O'.ns;⟨o,e'⟩
 refine I.write (x:=a) (e:=dx) (by rw[e];exact True.intro) (.inr ho) (fun b q hb z=>(sb.2 b hb).trans z) hd ?_;refine⟨by rw[Jh O.ne];exact ho,?_,O.ne,O'.obj,_,O'.ns,fun g=>?_,fun g hg=>?_⟩
 ·have:=WP f y fs;omega
 ·show RelO ((putF f y fs).lookup g) (if g=f then some u else mA g);rw[WQ]
  by_cases q:g=f
  ·rw[if_pos q,if_pos q];exact ry
  ·rw[if_neg q,if_neg q];exact r g
 ·by_cases q:g=f
  ·rw[q];exact(Wu f y fs).1
  ·refine(Wu f y fs).2 g (wi g fun z=>hg ?_);show(if g=f then some u else mA g)=none;rw[if_neg q];exact z
theorem Inv.made(I:Inv X pins σ H s):Inv X pins σ (upd (upd H s.heap.objs.size (.own (s.heap.objs.size+1))) (s.heap.objs.size+1) (.ins C s.heap.objs.size []))
 { s with heap:=(s.heap.push emptyDict).push (instObj C s.heap.objs.size) }:=by
 have e1:(s.heap.push emptyDict).get? s.heap.objs.size=some emptyDict:=Qi s.heap rfl
 have e2:((s.heap.push emptyDict).push (instObj C s.heap.objs.size)).get? (s.heap.objs.size+1)=some (instObj C s.heap.objs.size):=by
  have:=Qi (s.heap.push emptyDict) (o:=instObj C s.heap.objs.size) rfl
  rwa [Gg] at this
 have e3:(s.heap.push emptyDict).Ns s.heap.objs.size (fun _=>none):=⟨emptyDict,#[],_,e1,rfl,(fun e he=>absurd he (by simp)),fun _=>rfl⟩
 have I1:=I.laid (a:=s.heap.objs.size) (o:=.own (s.heap.objs.size+1)) (h':=s.heap.push emptyDict) (t':=s.toks) (fun b u q=>Qf _ q) (Qm _) ⟨_,e1⟩;refine I1.laid (a:=s.heap.objs.size+1) (o:=.ins C s.heap.objs.size []) (t':=s.toks) (fun b u q=>Qf _ q) (Rp (Gg _ _)) ?_
 have ne:s.heap.objs.size≠s.heap.objs.size+1:=Qr (GJ _);refine⟨by rw[Jh ne,Jk],Gr _,ne,e2,fun _=>none,(Heap.Ns1.of_empty e3).at fun o q=>Qf _ q,fun _=>True.intro,fun y hy=>absurd rfl hy⟩
theorem JkX(hb:attributeBase e f env (eval e env)=eval e env)(h:wpAny (model prog w) A (eval e env) (fun o s₁=>wpAny (model prog w) A (getAttr o f true) Q E s₁) E s):wpAny (model prog w) A (eval (.Attribute e f pos) env) Q E s :=
 Attribute_any_ h (by rw[arm_eval_Attribute,hb])
noncomputable def Jp5(K:Frag)(ta:TE)(f:Str):TE:=fun σ H Q=>ta σ H fun x H1=>∃a C dx fs v,x=.ref a/\H1 a=some (.ins C dx fs)/\Cls K C/\NoAttr K C f/\fs.lookup f=some v/\Q v H1
noncomputable def JpP(K:Frag)(ta tv:TE)(f:Str):TS:=fun D σ H=>tv σ H fun y H1=>ta σ H1 fun x H2=>∃a C dx fs,x=.ref a/\H2 a=some (.ins C dx fs)/\Cls K C/\NoAttr K C f/\fs.length<1000 ∧
 D.nx σ (upd H2 a (.ins C dx (putF f y fs)))
theorem Jpg(he:PE X e ta)(hb:attributeBase e f X.env (eval e X.env)=eval e X.env):PE X (.Attribute e f pos) (Jp5 X.K ta f):=by intro pins s σ H Q I h;refine JkX hb (thn (he pins s σ H _ I h) fun u s1 ⟨x,H1,I1,rx,a,C,dx,fs,v,ex,ea,c,n,l,q⟩=>?_);subst ex;obtain rfl:u=Value.ref a:=rx;exact Jex I1 ea c n l fun u' s2 I2 ru=>⟨v,H1,I2,ru,q⟩
theorem Jpq(ha:PE X o ta)(hv:PE X value tv)(hs:swapsWith value (some (.Attribute o f pos')) pos.line X.env=pure false):PS X (.Assign [.Attribute o f pos'] value pos) (JpP X.K ta tv f):=by intro pins s σ H D I h;refine plainObj_wpAny_Assign_Attribute (thn (hv pins s σ H _ I h) fun u s1 ⟨y,H1,I1,ry,q⟩=>thn (ha pins s1 σ H1 _ I1 q) fun ov s2 ⟨x,H2,I2,rx,a,C,dx,fs,ex,ea,c,n,l,q2⟩=>?_) hs;subst ex;obtain rfl:ov=Value.ref a:=rx;exact Jfb I2 ea c n l ry fun s3 I3=>⟨σ,_,I3,q2⟩
inductive TyOf (K:Frag) (H:Hp):V->Value->Prop where
 | non:TyOf K H .non (.type "NoneType")
 | bl (x:Bool):TyOf K H (.bl x) (.type "bool")
 | int (i:Int):TyOf K H (.int i) (.type "int")
 | str (x:Str):TyOf K H (.str x) (.type "str")
 | flt (x:UInt64):TyOf K H (.flt x) (.type "float")
 | lst {a:Addr} {xs:List V} (e:H a=some (.lst xs)):TyOf K H (.ref a) (.type "list")
 | frz {a:Addr} {o:Obj} {xs:List V} (e:H a=some (.frz o (.lst xs))):TyOf K H (.ref a) (.type "list")
 | tup {a:Addr} {xs:List V} (e:H a=some (.tup xs)):TyOf K H (.ref a) (.type "tuple")
 | dK {a:Addr} {kvs:List (Key×V)} (e:H a=some (.dK kvs)):TyOf K H (.ref a) (.type "dict")
 | dT {a:Addr} {kvs:List (List Key×V)} (e:H a=some (.dT kvs)):TyOf K H (.ref a) (.type "dict")
 | ins {a C dx:Addr} {fs:List (Str×V)} (e:H a=some (.ins C dx fs)) (cl:Cls K C) (ha:findIn K (.ref C) "__class__"=some (some (.builtin "object.__class__")))
  (hn:R7 K (.builtin "object.__class__") "__get__"=some (some (.builtin "getset_descriptor.__get__"))) (htk:PySem.W.takesIn K (.builtin "object.__class__")=some true)
  (hm:mroIn K C (.type "object")=some true):TyOf K H (.ref a) (.ref C)
theorem Jhm(I:Inv X pins σ H s)(rx:RelV x u)(ty:TyOf X.K H x t)(e:kitOne X.K t c=some b)(h:∀tk,Q (.bool b) { s with toks:=tk }):
 wpAny (model X.prog X.w) A (call (.builtin "isinstance") [u,c]) Q E s:=by
 cases ty with
 | non=>cases (show u=Value.none from rx);exact kia_one PySem.W.kitx_none I.kIn True.intro e (fun z=>nomatch z) h
 | bl y=>cases (show u=Value.bool y from rx);exact kia_one PySem.W.kitx_bool I.kIn True.intro e (fun z=>nomatch z) h
 | int i=>obtain⟨t,q⟩:=(show ∃t,u=Value.int i t from rx);cases q;exact kia_one PySem.W.kitx_int I.kIn True.intro e (fun z=>nomatch z) h
 | str y=>obtain⟨t,q⟩:=(show ∃t,u=Value.str y t from rx);cases q;exact kia_one PySem.W.kitx_str I.kIn True.intro e (fun z=>nomatch z) h
 | flt y=>obtain⟨t,q⟩:=(show ∃t,u=Value.float y t from rx);cases q;exact kia_one PySem.W.kitx_float I.kIn True.intro e (fun z=>nomatch z) h
 | @lst a xs ea =>
  cases (show u=Value.ref a from rx);obtain⟨_,_,n,_,h1⟩:=(show ObjOk X.prog X.w H s.heap a (.lst xs) from I.hok a _ ea)
  exact kia_one kitx_list I.kIn ⟨_,h1,rfl⟩ e (fun z=>nomatch z) h
 | @frz a ob xs ea =>
  cases (show u=Value.ref a from rx);obtain⟨_,_,_,n,_,h1⟩:=(show ObjOk X.prog X.w H s.heap a (.frz ob (.lst xs)) from I.hok a _ ea)
  exact kia_one kitx_list I.kIn ⟨_,h1,rfl⟩ e (fun z=>nomatch z) h
 | @tup a xs ea =>
  cases (show u=Value.ref a from rx);obtain⟨_,_,_,p⟩:=(show ObjOk X.prog X.w H s.heap a (.tup xs) from I.hok a _ ea)
  obtain⟨o,h1,h2,_⟩:=p;exact kia_one RY I.kIn ⟨o,h1,h2⟩ e (fun z=>nomatch z) h
 | @dK a kvs ea =>
  cases (show u=Value.ref a from rx);obtain⟨_,_,vs,_,p⟩:=(show ObjOk X.prog X.w H s.heap a (.dK kvs) from I.hok a _ ea)
  obtain⟨o,es,ep,h1,h2,_⟩:=p;exact kia_one R8 I.kIn ⟨o,h1,h2.1⟩ e (fun z=>nomatch z) h
 | @dT a kvs ea =>
  cases (show u=Value.ref a from rx);obtain⟨_,_,xs,_,o,es,ep,h1,h2,_⟩:=(show ObjOk X.prog X.w H s.heap a (.dT kvs) from I.hok a _ ea)
  exact kia_one R8 I.kIn ⟨o,h1,h2.1⟩ e (fun z=>nomatch z) h
 | @ins a C dx fs ea cl ha hn htk hm=>cases (show u=Value.ref a from rx);obtain⟨mA,O,_⟩:=JbH I.hok ea;obtain⟨od,J,_⟩:=O.look;exact kia_one (PySem.W.kitx_own (cl.get _) cl.hd ha hn htk hm) I.kIn J e (fun z=>nomatch z) h
structure Room (k:Nat) (A:Around):Prop where
 hd:A.handled=none
 dp:A.depth+3*k+5<recursionLimit
 un:A.units+16*k+200<cLine
theorem Room.mono(r:Room k A)(h:j<=k):Room j A:=⟨r.hd,by have:=r.dp;omega,by have:=r.un;omega⟩
theorem Room.deeper(r:Room (k+1) A)(env:Env):Room k (A.deeper env) :=
 ⟨r.hd,by have:=r.dp;show A.depth+1+3*k+5<_;omega,by have:=r.un;show A.units+3+16*k+200<_;omega⟩
theorem JeO{A:Around}:(A.under (.builtin "type.__call__" ⟨.ref C::us,kw⟩)).depth=A.depth+1:=by first | rfl | simp[R9,Code.weight,Code.isCreation,Code.isGuard,Code.isCaller,Code.frames,Xa,guardIds]
theorem JeP{A:Around}:(A.under (.builtin "type.__call__" ⟨.ref C::us,kw⟩)).units=A.units+1:=by first | rfl | simp[R9,Code.cUnits,Code.frames,Xa]
theorem Room.make(r:Room (k+1) A)(C:Addr)(us:List Value)(kw:List (Str×Value)):Room k (A.under (.builtin "type.__call__" ⟨.ref C::us,kw⟩)) :=
 ⟨r.hd,by have:=r.dp;rw[JeO];omega,by have:=r.un;rw[JeP];omega⟩
theorem Room.depth(r:Room k A):A.depth<recursionLimit:=by have:=r.dp;omega
theorem Room.units(r:Room k A):A.units+64<cLine:=by have:=r.un;omega
noncomputable def VO:TA:=fun _ H Q=>Q [] H
noncomputable def Ur(ta:TE)(tr:TA):TA:=fun σ H Q=>ta σ H fun x H1=>tr σ H1 fun xs H2=>Q (x::xs) H2
theorem Jd:PA X [] VO:=fun _ _ _ _ H Q I h=>Lv ⟨[],H,I,.nil,h⟩
theorem Ja(ha:PE X e te)(hr:PA X es t)(hs:starEach (e::es) X.env=(false,eval e X.env)::starEach es X.env:=by rfl):PA X (e::es) (Ur te t):=by intro pos pins s σ H Q I h;rw[hs];show wpAny _ _ (spliced ((false,eval e X.env)::backTo pos (starEach es X.env))) _ _ s;refine Ko (thn (ha pins s σ H _ I h) fun u s1 ⟨x,H1,I1,r1,q1⟩=>?_);exact thn (hr pos pins s1 σ H1 _ I1 q1) fun us s2 ⟨xs,H2,I2,r2,q2⟩=>⟨x::xs,H2,I2,.cons r1 r2,q2⟩
noncomputable def Jkx(t:TA):TE:=fun σ H Q=>t σ H fun xs H1=>xs.length<=sizeLine/\∀p,H1 p=none->Q (.ref p) (upd H1 p (.tup xs))
noncomputable def JmZ(t:TA):TE:=fun σ H Q=>t σ H fun xs H1=>xs.length<=sizeLine/\∀p,H1 p=none->Q (.ref p) (upd H1 p (.lst xs))
theorem JP{x1}(h:PA X es t):PE X (.Tuple es x1 pos) (Jkx t):=by intro pins s σ H Q I hq;refine wpAny_Tuple_spliced (thn (h pos pins s σ H _ I hq) fun us s1 ⟨xs,H1,I1,r,z,q⟩=>⟨by rw[<- r.length];exact z,?_⟩);have hf:H1 s1.heap.objs.size=none:=I1.hok.fresh (Qm _);refine⟨.ref s1.heap.objs.size,upd H1 s1.heap.objs.size (.tup xs),I1.laid (t':=s1.toks) (fun b u e=>Qf _ e) (Qm _) ?_,rfl,q _ hf⟩;exact⟨z,us,r,⟨_,Qi _ rfl,rfl,_,rfl⟩⟩
theorem YE(h:PA X es t):PE X (.List es pos) (JmZ t):=by intro pins s σ H Q I hq;refine wpAny_List_spliced (thn (h pos pins s σ H _ I hq) fun us s1 ⟨xs,H1,I1,r,z,q⟩=>⟨by rw[<- r.length];exact z,?_⟩);have hf:H1 s1.heap.objs.size=none:=I1.hok.fresh (Qm _);refine⟨.ref s1.heap.objs.size,upd H1 s1.heap.objs.size (.lst xs),I1.laid (t':=s1.toks) (fun b u e=>Qf _ e) (Qm _) ?_,rfl,q _ hf⟩;exact⟨z,us,0,r,Qi _ rfl⟩
noncomputable abbrev Sp:=List V->Hp->VK->XK->Prop
noncomputable abbrev CXT:=List Env->Hp->Shared->XK->Value->Shared->Prop
structure Env0 (P:Program) (w:World) (K:Frag) (mg:Str->Option Value) (base:Heap) (A:Around) (outer:List Env) (s:Shared) (H:Hp):Prop where
 frames:A.frames=some outer
 mod:Mod K mg base
 bs:∀b o,base.get? b=some o->s.heap.get? b=some o/\H b=none
 bsz:base.objs.size<=s.heap.objs.size
 funs:s.heap.FunFrames base outer
 frf:∀b∈frs outer,H b=none
 hok:HOk P w H s.heap
 bare:AllBare s.gens
noncomputable def CE(outer:List Env)(P:Program)(w:World)(H:Hp)(s:Shared)(Q:VK)(u:Value)(s':Shared):Prop :=
 ∃v H',s'.os=s.os/\AllBare s'.gens/\Un (frs outer) [] H H' s.heap s'.heap/\HOk P w H' s'.heap/\RelV v u/\Q v H'
noncomputable def CR(CX:CXT)(outer:List Env)(P:Program)(w:World)(H:Hp)(s:Shared)(Q:VK)(E:XK)(r:Result)(s':Shared):Prop :=
 match r with
 | .ok (.ret u)=>CE outer P w H s Q u s'
 | .ok _=>False
 | .error e=>CX outer H s E e s'
structure FnOk (P:Program) (w:World) (K:Frag) (mg:Str->Option Value) (base:Heap) (CX:CXT) (k:Nat) (f:Addr) (fd:FuncData) (ps:List Str) (sp:Sp):Prop where
 len:∀vs H Q E,sp vs H Q E->vs.length=ps.length
 run:∀(A:Around) (outer:List Env) (s:Shared) (H:Hp) (args:Args) (us:List Value) (vs:List V) (Q:VK) (E:XK),Room k A->Env0 P w K mg base A outer s H->BindsTo s fd args (ps.zip us)->Vals vs us->sp vs H Q E ->
  codeAny (model P w) A (.call (.ref f) args) (CR CX outer P w H s Q E) s
theorem FnOk.imp{P:Program}{w:World}{K:Frag}{mg:Str->Option Value}{base:Heap}{CX:CXT}{k:Nat}{f:Addr}{fd:FuncData}{ps:List Str}{sp sp':Sp}(F:FnOk P w K mg base CX k f fd ps sp)
 (h:∀vs H Q E,sp' vs H Q E->sp vs H Q E):FnOk P w K mg base CX k f fd ps sp' :=
 ⟨fun vs H Q E q=>F.len vs H Q E (h _ _ _ _ q),fun A outer s H args us vs Q E hr he hb hv hs=>F.run A outer s H args us vs Q E hr he hb hv (h _ _ _ _ hs)⟩
theorem Env0.make{P:Program}{w:World}{K:Frag}{mg:Str->Option Value}{base:Heap}{A:Around}{outer:List Env}{s:Shared}{H:Hp}(e:Env0 P w K mg base A outer s H)(C:Addr)(us:List Value)(kw:List (Str×Value)) :
 Env0 P w K mg base (A.under (.builtin "type.__call__" ⟨.ref C::us,kw⟩)) outer s H:=⟨by first | exact e.frames | (simpa [R9,Code.envs,Xa,pushEnvs] using e.frames),e.mod,e.bs,e.bsz,e.funs,e.frf,e.hok,e.bare⟩
theorem Inv.env0(I:Inv X pins σ H s):Env0 X.prog X.w X.K X.mg X.base X.A X.stack s H :=
 ⟨I.ok.frames,I.ok.mod,I.bs,Gz I.ok.bsz I.sz,I.stack,I.stkFree,I.hok,I.bare⟩
theorem Inv.after(I:Inv X pins σ H s)(h:CE X.stack X.prog X.w H s Q u s'):EP X pins σ Q u s':=by obtain⟨v,H',os,bare,un,hok,r,q⟩:=h;obtain⟨hh,g,d,t,os'⟩:=s';obtain rfl:os'=s.os:=os;exact⟨v,H',I.call (h':=hh) (g':=g) (d':=d) (t':=t) (ch:=[]) un hok bare (fun b z=>absurd z (by simp)),r,q⟩
noncomputable def JgC(sp:Sp)(dvs:List V)(E:XK)(t:TA):TE:=fun σ H Q=>t σ H fun vs H1=>sp (vs++dvs) H1 Q E
noncomputable def JgE(C:Addr)(sp:Sp)(dvs:List V)(E:XK)(t:TA):TE:=fun σ H Q=>t σ H fun vs H1=>∀x dx,H1 x=none->H1 dx=none->dx≠x ->
 sp (.ref x::(vs++dvs)) (upd (upd H1 dx (.own x)) x (.ins C dx [])) (fun v H2=>v=.non/\Q (.ref x) H2) E
noncomputable def Binds(K:Frag)(fd:FuncData)(ps:List Str)(ds:List Value):Prop :=
 ∀(s:Shared) (us:List Value),K.In s.heap->(us++ds).length=ps.length->BindsTo s fd ⟨us,[]⟩ (ps.zip (us++ds))
theorem Binds.all{K:Frag}{fd:FuncData}{ps:List Str}(h:∀us:List Value,us.length=ps.length->bindArgs fd ⟨us,[]⟩=pure (ps.zip us)):Binds K fd ps []:=fun s us _ hl=>by rw[Ki] at hl ⊢;exact .of_eq (h us hl)
noncomputable def Zk(CX:CXT)(X:Cx)(E:XK):Prop:=∀(pins:List (Addr×Obj)) (σ:St) (H:Hp) (s:Shared) (e:Value) (s':Shared),Inv X pins σ H s->CX X.stack H s E e s'->X.xe e s'
theorem JpO{pins:List (Addr×Obj)}{σ:St}{H:Hp}{s:Shared}{Q:VK}{us:List Value}{vs:List V}(F:FnOk X.prog X.w X.K X.mg X.base CX k f fd ps sp)(hr:Room k X.A)(hb:Binds X.K fd ps ds)(hd:Vals dvs ds)(hx:Zk CX X E)
 (I:Inv X pins σ H s) (r:Vals vs us) (h:sp (vs++dvs) H Q E):wpAny (model X.prog X.w) X.A (call (.ref f) us) (EP X pins σ Q) X.xe s:=by
 have r2:Vals (vs++dvs) (us++ds):=r.append hd
 have hl:(us++ds).length=ps.length:=by rw[<- r2.length];exact F.len _ _ _ _ h
 refine wpAny_call (Lf (F.run X.A X.stack s H ⟨us,[]⟩ (us++ds) (vs++dvs) Q E hr I.env0 (hb s us I.kIn hl) r2 h) fun r s' hq=>?_)
 cases r with
 | error e=>exact hx pins σ H s e s' I hq
 | ok fl =>
  cases fl with
  | ret u=>exact I.after hq
  | next=>exact KA hq
  | brk=>exact KA hq
  | cont=>exact KA hq
theorem Jl4(F:FnOk X.prog X.w X.K X.mg X.base CX k f fd ps sp)(hr:Room k X.A)(hg:Gl X x)(hm:X.mg x=some (.ref f))(hk:keepIn X.K (.ref f)=true)(hb:Binds X.K fd ps ds)(hd:Vals dvs ds)(hx:Zk CX X E)
 (ha:PA X (e::es) t) (hdb:(x == ("__debug__":Str))=false:=by decide) (he:starEach (e::es) X.env=(false,eval e X.env)::starEach es X.env:=by rfl) (hpl:(backTo pos (starEach es X.env)).any (·.1)=false:=by rfl) :
 PE X (.Call (.Name x p) (e::es) [] pos) (JgC sp dvs E t):=by
 intro pins s σ H Q I h;refine Lg (JbL I hg hm ?_ hdb);refine RZ (h₀:=X.base) I.ok.mod.kin hk (thn (ha pos pins s σ H _ I h) fun us s1 ⟨vs,H1,I1,r,q⟩=>⟨I1.kIn,?_⟩) he hpl;exact JpO F hr hb hd hx I1 r q
structure Mk (K:Frag) (C f:Addr):Prop where
 makes:makesIn K C=true
 init:findIn K (.ref C) "__init__"=some (some (.ref f))
 fn:PySem.W.isFn K (.ref f)=true
 kp:keepIn K (.ref C)=true
theorem Jj6{pins:List (Addr×Obj)}{σ:St}{H:Hp}{s:Shared}{Q:VK}{us:List Value}{vs:List V}(M:Mk X.K C f)(F:FnOk X.prog X.w X.K X.mg X.base CX k f fd ps sp)(hr:Room (k+1) X.A)(hb:Binds X.K fd ps ds)(hd:Vals dvs ds)
 (hx:Zk CX X E) (I:Inv X pins σ H s) (r:Vals vs us)
 (h:∀x dx,H x=none->H dx=none->dx≠x->sp (.ref x::(vs++dvs)) (upd (upd H dx (.own x)) x (.ins C dx [])) (fun v H2=>v=.non/\Q (.ref x) H2) E) :
 wpAny (model X.prog X.w) X.A (call (.ref C) us) (EP X pins σ Q) X.xe s:=by
 have hq:=h (s.heap.objs.size+1) s.heap.objs.size (I.hok.fresh (Ld _)) (I.hok.fresh (Qm _)) (Qr (GJ _))
 have I2:=Inv.made (C:=C) I
 have r2:Vals (V.ref (s.heap.objs.size+1)::(vs++dvs)) (Value.ref (s.heap.objs.size+1)::(us++ds)):=.cons rfl (r.append hd)
 have hl:(Value.ref (s.heap.objs.size+1)::us++ds).length=ps.length:=by have e:=r2.length;rw[F.len _ _ _ _ hq] at e;exact e.symm
 refine wpAny_call (Jjl (f:=f) I.kIn M.makes M.init (beq_iff_eq.mp M.fn) (Lf (F.run _ X.stack _ _ ⟨Value.ref (s.heap.objs.size+1)::us,[]⟩ (Value.ref (s.heap.objs.size+1)::(us++ds)) _ _ E (hr.make C us [])
  (I2.env0.make C us []) (hb _ (Value.ref (s.heap.objs.size+1)::us) I2.kIn hl) r2 hq) fun r s' hq'=>?_))
 cases r with
 | error e=>exact hx pins σ _ _ e s' I2 hq'
 | ok fl =>
  cases fl with
  | ret u=>obtain⟨v,H',I3,rv,ev,q3⟩:=I2.after hq';subst ev;exact⟨rv,⟨V.ref (s.heap.objs.size+1),H',I3,rfl,q3⟩⟩
  | next=>exact KA hq'
  | brk=>exact KA hq'
  | cont=>exact KA hq'
theorem Jl6(M:Mk X.K C f)(F:FnOk X.prog X.w X.K X.mg X.base CX k f fd ps sp)(hr:Room (k+1) X.A)(hg:Gl X x)(hm:X.mg x=some (.ref C))(hb:Binds X.K fd ps ds)(hd:Vals dvs ds)(hx:Zk CX X E)
 (ha:PA X (e::es) t) (hdb:(x == ("__debug__":Str))=false:=by decide) (he:starEach (e::es) X.env=(false,eval e X.env)::starEach es X.env:=by rfl) (hpl:(backTo pos (starEach es X.env)).any (·.1)=false:=by rfl) :
 PE X (.Call (.Name x p) (e::es) [] pos) (JgE C sp dvs E t):=by
 intro pins s σ H Q I h;refine Lg (JbL I hg hm ?_ hdb);refine RZ (h₀:=X.base) I.ok.mod.kin M.kp (thn (ha pos pins s σ H _ I h) fun us s1 ⟨vs,H1,I1,r,q⟩=>⟨I1.kIn,?_⟩) he hpl;exact Jj6 M F hr hb hd hx I1 r q
structure FnScope (N P:List Str) (sc:Scope):Prop where
 kind:sc.kind=.function
 co:sc.isCoroutine=false
 gen:sc.isGenerator=false
 nd:N.Nodup
 pre:N.take P.length=P
 par:∀x∈P,sc.names.lookup x=some .local\/sc.names.lookup x=some .cell
 nofree:∀y∈sc.names,y.2≠.free
theorem JaK{kindOf:Str->Option NameKind}:∀{binds:List (Str×Value)} {m:Str->Option Value},(∀v,(x,v)∉binds)->bindL kindOf binds m x=m x
 | [],_,_=>rfl
 | (n,v)::r,m,h=>by
  unfold bindL;rw[JaK fun w hw=>h w (Qc _ hw)];split
  ·have:x≠n:=by rintro rfl;exact h v Qd
   simp[this]
  ·rfl
theorem JaI{kindOf:Str->Option NameKind}:∀{binds:List (Str×Value)} {m:Str->Option Value},(∀v,(x,v)∉binds)->bindC kindOf binds m x=m x
 | [],_,_=>rfl
 | (n,v)::r,m,h=>by
  unfold bindC;rw[JaI fun w hw=>h w (Qc _ hw)];split
  ·rfl
  ·have:x≠n:=by rintro rfl;exact h v Qd
   simp[this]
theorem JaJ{kindOf:Str->Option NameKind}{x:Str}{v:Value}:∀{P:List Str} {vs:List Value} {i:Nat} {m:Str->Option Value},P.Nodup->P[i]?=some x->vs[i]?=some v->kindOf x=some .local ->
 bindL kindOf (P.zip vs) m x=some v
 | [],_,_,_,_,h,_,_=>by simp at h
 | _::_,[],_,_,_,_,h,_=>by simp at h
 | p::P,w::vs,0,m,nd,h1,h2,hk=>by simp at h1 h2;subst h1;subst h2;show bindL kindOf ((p,w)::P.zip vs) m p=_;unfold bindL;rw[JaK fun v hv=>(QW.mp nd).1 (Ll hv).1,if_pos hk];simp
 | p::P,w::vs,i+1,m,nd,h1,h2,hk=>by show bindL kindOf ((p,w)::P.zip vs) m x=_;unfold bindL;exact JaJ (i:=i) (QW.mp nd).2 (by simpa using h1) (by simpa using h2) hk
theorem JaH{kindOf:Str->Option NameKind}{x:Str}{v:Value}:∀{P:List Str} {vs:List Value} {i:Nat} {m:Str->Option Value},P.Nodup->P[i]?=some x->vs[i]?=some v->kindOf x≠some .local ->
 bindC kindOf (P.zip vs) m x=some v
 | [],_,_,_,_,h,_,_=>by simp at h
 | _::_,[],_,_,_,_,h,_=>by simp at h
 | p::P,w::vs,0,m,nd,h1,h2,hk=>by simp at h1 h2;subst h1;subst h2;show bindC kindOf ((p,w)::P.zip vs) m p=_;unfold bindC;rw[JaI fun v hv=>(QW.mp nd).1 (Ll hv).1,if_neg hk];simp
 | p::P,w::vs,i+1,m,nd,h1,h2,hk=>by show bindC kindOf ((p,w)::P.zip vs) m x=_;unfold bindC;exact JaH (i:=i) (QW.mp nd).2 (by simpa using h1) (by simpa using h2) hk
noncomputable def UV(N:List Str)(vs:List V):St:=vs.map some++QN (N.length-vs.length) none
noncomputable def Jeh(CX:CXT)(P:Program)(w:World)(K:Frag)(mg:Str->Option Value)(base:Heap)(N:List Str)(qual:Str)(scope:Scope)(f:Addr)(cd:Value)(A:Around)(outer:List Env)(s:Shared)(H:Hp)(E:XK):Cx where
 prog:=P
 w:=w
 K:=K
 mg:=mg
 base:=base
 A:=A.deeper (envOfC qual scope s.heap.objs.size f cd)
 N:=N
 s₀:=s
 H₀:=H
 env:=envOfC qual scope s.heap.objs.size f cd
 outer:=outer
 stack:=envOfC qual scope s.heap.objs.size f cd::outer
 ex:=[]
 calm:=true
 fn:=fun _=>true
 pn:=[]
 xe:=fun e s'=>wpAny (model P w) (A.deeper (envOfC qual scope s.heap.objs.size f cd)) (leaving (envOfC qual scope s.heap.objs.size f cd) e) (fun _ s''=>CX outer H s E e s'') (fun e' s''=>CX outer H s E e' s'') s'
theorem JcC{sc:Scope}{n:Nat}{x:Str}(h:sc.names.lookup x=some .cell):∃c,(cellsFrom n sc.names []).lookup x=some c:=by have q:=Rq sc.names n [] (.inl h);exact M3.mp q
theorem Jhh{CX:CXT}{P:Program}{w:World}{K:Frag}{mg:Str->Option Value}{base:Heap}{N ps:List Str}{qual:Str}{scope:Scope}{f:Addr}{cd:Value}{A:Around}{outer:List Env}{s s1:Shared}{H:Hp}{E:XK}{us:List Value}{vs:List V}
 (S:FnScope N ps scope) (hd:A.handled=none) (e0:Env0 P w K mg base A outer s H) (hl:vs.length=ps.length) (r:Vals vs us)
 (x:InCallC s s.heap.objs.size (bindL (envOfC qual scope s.heap.objs.size f cd).kindOf (ps.zip us) fun _=>none) (cellsFrom (s.heap.objs.size+1) scope.names []) (bindC (envOfC qual scope s.heap.objs.size f cd).kindOf (ps.zip us) fun _=>none) s1) :
 Inv (Jeh CX P w K mg base N qual scope f cd A outer s H E) [] (UV N vs) H s1:=by
 have hpl:ps.length<=N.length:=by have:=congrArg List.length S.pre;rw[K1] at this;omega
 obtain⟨h1,tk,rfl,hk⟩:=x.done;have noA:∀b:Addr,b∉(Jeh CX P w K mg base N qual scope f cd A outer s H E).ex:=fun b z=>absurd (show b∈([]:List Addr) from z) (by simp)
 refine⟨⟨e0.mod,S.kind,rfl,rfl,Qm _,fun y z c h1 h2=>?_,fun y hy=>?_,fun y c _ h=>?_,fun _=>hd,Around.frames_deeper e0.frames,.inr ⟨rfl,rfl⟩,fun b z=>absurd z (noA b),e0.bs,e0.bsz,fun b _ _=>noA b,fun b z=>absurd z (noA b),e0.funs,e0.frf⟩,
  rfl,e0.bare,Un.kept hk,⟨_,x.toInCall.ns,fun i y v h1 h2 h3=>?_⟩,fun y c h=>⟨_,x.cell y c h⟩,e0.hok.fresh (Qm _),fun y c h=>?_,fun p hp=>absurd (show p∈([]:List (Addr×Obj)) from hp) (by simp),e0.hok.kept hk,?_⟩
 ·exact name_of_addr x.apart (KD h1) (KD h2)
 ·have hy:scope.names.lookup y=some .cell\/scope.names.lookup y=some .free:=hy;rcases hy with hy|hy
  ·exact JcC hy
  ·exact absurd rfl (S.nofree _ (KD hy))
 ·exact GX (x.above y c (KD h))
 ·have hi:i<vs.length:=by
   unfold UV at h2
   by_cases hi:i<vs.length
   ·exact hi
   ·rw[Ga (by simpa using hi)] at h2;rw[Rb] at h2;split at h2 <;> cases h2
  have ha:vs[i]?=some v:=by
   unfold UV at h2;rw[Q0 (by simpa using hi),Qp] at h2
   cases e:vs[i]? with
   | none=>rw[e] at h2;cases h2
   | some a=>rw[e] at h2;cases h2;rfl
  obtain⟨u,hu,rv⟩:=r.get ha
  have hp:ps[i]?=some y:=by rw[<- S.pre,List.getElem?_take_of_lt (by omega)];exact h1
  have ndP:ps.Nodup:=by rw[<- S.pre];exact S.nd.sublist (List.take_sublist _ _)
  refine⟨u,rv,?_⟩;rcases S.par y (QG hp) with k|k
  ·exact .inl ⟨k,JaJ ndP hp hu k⟩
  ·obtain⟨c,e⟩:=JcC (n:=s.heap.objs.size+1) k;refine .inr ⟨.inl k,c,e,?_⟩;have q:=x.cell y c e;rw[JaH ndP hp hu (by show scope.names.lookup y≠_;rw[k];decide)] at q;exact q
 ·exact e0.hok.fresh (GX (x.above y c (KD h)))
 ·unfold UV;show _=N.length;rw[Qx,Qk,GW];omega
theorem JqI{CX:CXT}{P:Program}{w:World}{K:Frag}{mg:Str->Option Value}{base:Heap}{k:Nat}{f:Addr}{name qual:Str}{params:Arguments}{body:List Stmt}{scope:Scope}{dV kV doc pm cdv ct oc:Value}{an od:Option Addr}
 {osl:Array (Option Value)} {N ps:List Str} {sp:Sp} (lk:K.lookup f=some ⟨oc,od,.func (fnOf name qual params body scope dV kV doc pm an cdv ct),osl⟩) (hcd:codeIn K cdv qual=true) (S:FnScope N ps scope)
 (len:∀vs H Q E,sp vs H Q E->vs.length=ps.length)
 (hbody:∀(A:Around) (outer:List Env) (s:Shared) (H:Hp) (vs:List V) (Q:VK) (E:XK),Room k (A.deeper (envOfC qual scope s.heap.objs.size f cdv))->sp vs H Q E ->
  ∃t,PSs (Jeh CX P w K mg base N qual scope f cdv A outer s H E) body t/\t { nx:=fun _ H'=>Q .non H',rt:=Q } (UV N vs) H) :
 FnOk P w K mg base CX (k+1) f (fnOf name qual params body scope dV kV doc pm an cdv ct) ps sp:=by
 refine⟨len,fun A outer s H args us vs Q E hr e0 hb r hsp=>?_⟩;have hl:=len _ _ _ _ hsp;have KX:K.In s.heap:=e0.mod.kin.keeps fun b o e=>(e0.bs b o e).1
 have lim:s.heap.NoLimit:=e0.mod.nolimit.keeps fun b o e=>(e0.bs b o e).1
 have hkind:∀y∈ps.zip us,scope.names.lookup y.1=some .local\/(scope.names.lookup y.1=some .cell/\((cellsFrom (s.heap.objs.size+1) scope.names []).lookup y.1).isSome=true):=fun⟨n,v⟩ hy=>by
  rcases S.par n (Ll hy).1 with q|q
  ·exact .inl q
  ·exact .inr ⟨q,Rq _ _ _ (.inl q)⟩
 refine codeAny_call_function hr.depth (KX _ _ lk) rfl S.co S.gen rfl (PySem.W.codeRec_of KX hcd) (hb _ _ _ _ ?_);refine wpAny_newFunctionEnv_cells S.kind hkind fun env he s1 x=>?_
 subst he;refine⟨lim.keeps x.toInCall.keep,codeAny_func ?_⟩;obtain⟨t,ht,hq⟩:=hbody A outer s H vs Q E (hr.deeper _) hsp;have I:Inv (Jeh CX P w K mg base N qual scope f cdv A outer s H E) [] (UV N vs) H s1:=Jhh S hr.hd e0 hl r x;refine KU (ht [] s1 (UV N vs) H _ I hq) (fun fl s' hs=>?_) fun e s' hs=>hs
 have fin:∀{σ':St} {H':Hp} {v:V} {u:Value},Inv (Jeh CX P w K mg base N qual scope f cdv A outer s H E) [] σ' H' s'->RelV v u->Q v H'->CE outer P w H s Q u s' :=
  fun {σ' H' v u} J rv q=>⟨v,H',J.os,J.bare,J.base,J.hok,rv,q⟩
 cases fl with
 | ret u=>obtain⟨v,σ',H',J,rv,q⟩:=hs;exact fin J rv q
 | next=>obtain⟨σ',H',J,q⟩:=hs;exact fin (v:=V.non) (u:=Value.none) J rfl q
 | brk=>obtain⟨_,_,_,q⟩:=hs;exact KA q
 | cont=>obtain⟨_,_,_,q⟩:=hs;exact KA q
section
variable{X:Cx}{x:Str}{p pos:Pos}{e:Expr}{es:List Expr}{t:TA}{id T:String}{r:List V->Hp->VK->Prop}
noncomputable def tCB(r:List V->Hp->VK->Prop)(t:TA):TE:=fun σ H Q=>t σ H fun vs H1=>r vs H1 Q
theorem Jt(hc:J3 X (.builtin id) r)(hg:Gl X x)(hm:X.mg x=none)(hv:bootBuiltins x=some (.builtin id))(ha:PA X (e::es) t)(hn:x≠"__name__":=by decide)(hdb:(x == ("__debug__":Str))=false:=by decide)
 (he:starEach (e::es) X.env=(false,eval e X.env)::starEach es X.env:=by rfl) (hpl:(backTo pos (starEach es X.env)).any (·.1)=false:=by rfl):PE X (.Call (.Name x p) (e::es) [] pos) (tCB r t):=by
 intro pins s σ H Q I h;refine Lg (Y2 I hg hm hv ?_ hn hdb);exact PyProof.Rows.callWith_builtin1 (thn (ha pos pins s σ H _ I h) fun us s1 ⟨vs,H1,I1,r1,q1⟩=>hc pins s1 σ H1 vs us Q I1 r1 q1) he hpl
theorem UE(hc:J3 X (.type T) r)(hg:Gl X x)(hm:X.mg x=none)(hv:bootBuiltins x=some (.type T))(ha:PA X (e::es) t)(hn:x≠"__name__":=by decide)(hdb:(x == ("__debug__":Str))=false:=by decide)
 (he:starEach (e::es) X.env=(false,eval e X.env)::starEach es X.env:=by rfl) (hpl:(backTo pos (starEach es X.env)).any (·.1)=false:=by rfl):PE X (.Call (.Name x p) (e::es) [] pos) (tCB r t):=by
 intro pins s σ H Q I h;refine Lg (Y2 I hg hm hv ?_ hn hdb);exact Gh (thn (ha pos pins s σ H _ I h) fun us s1 ⟨vs,H1,I1,r1,q1⟩=>hc pins s1 σ H1 vs us Q I1 r1 q1) he hpl
end
end L2
namespace HT
open PySem PyProof.Rows
theorem JiF(A:Around)(s:Shared)(a:Int)(t:Tok)(c:Int)(u:Tok):∃e,SeqAt.EqAt A s (.int a t) (.int c u) e/\(e=true↔a=c) :=
 ⟨(a == c),SeqAt.EqAt.int_int a t c u,by simp⟩
section
open PySem.SeqAt
open PySem.AutoSeq1 (wpAny_loadPart')
open PySem.MeetsSeq PySem.MeetsSeq2 PySem.MeetsSeq3
end
theorem Jk2(ht:IsTup s.heap t vs.toArray)(hb:IsTup s.heap b ws.toArray)(hv:vs≠[])(h1:ws=[]->Q (.ref t) s)(h2:ws≠[]->Q (.ref s.heap.objs.size) { s with heap:=s.heap.push { cls:=.type "tuple",data:=.seq (vs++ws).toArray } })(hsz:vs.length+ws.length<=sizeLine):wpAny (model prog w) A (binaryOp .Add (.ref t) (.ref b)) Q E s:=by
 obtain⟨⟨cls,dd,data,sl⟩,ho,hc,n,hd⟩:=id ht;obtain⟨⟨cls2,dd2,data2,sl2⟩,ho2,hc2,n2,hd2⟩:=id hb;simp only at hc hd hc2 hd2;subst hc hd hc2 hd2;have e:vs.toArray++ws.toArray=(vs++ws).toArray:=by simp
 by_cases hw:ws=[]
 ·exact concat_meets ⟨_,ho,rfl⟩ ⟨_,ho2,rfl⟩ noFill_tuple_add seq_tuple_add Rr Rc (M4 _ _)
   (tuple_addW1 t b vs.toArray ws.toArray n n2 dd dd2 sl sl2 (by simpa using hv) (by simp[hw])) ⟨ho,ho2,h1 hw⟩
 ·refine concat_meets ⟨_,ho,rfl⟩ ⟨_,ho2,rfl⟩ noFill_tuple_add seq_tuple_add Rr Rc (M4 _ _)
   (tuple_addW2 t b vs.toArray ws.toArray n n2 dd dd2 sl sl2 (by simpa using hv) (by simpa using hw) (by rw[Qo,Qo];exact hsz)) ⟨ho,ho2,?_⟩
  rw[e];exact h2 hw
noncomputable def sIx(n d:Nat):Option Int->Nat
 | none=>d
 | some v=>if v<0 then(v+(n:Int)).toNat else min v.toNat n
theorem JdB(n d:Nat):sIx n d none=d:=rfl
theorem JpQ(n d:Nat)(hd:d<=n)(o:Option Int):sIx n d o<=n:=by
 cases o with
 | none=>exact hd
 | some v =>
  show(if v<0 then(v+(n:Int)).toNat else min v.toNat n)<=n
  by_cases hv:v<0
  ·rw[if_pos hv];omega
  ·rw[if_neg hv];exact Nat.min_le_right _ _
theorem JfA(v:Int)(n d:Nat):(if v<0 then max (v+(n:Int)) 0 else min v (n:Int))=((sIx n d (some v):Nat):Int):=by
 show(if v<0 then max (v+(n:Int)) 0 else min v (n:Int))=(((if v<0 then(v+(n:Int)).toNat else min v.toNat n):Nat):Int)
 by_cases hv:v<0
 ·simp only[if_pos hv];omega
 ·simp only[if_neg hv];omega
theorem Jd4(lo hi:Option Int)(n:Nat):LH lo hi 1 (n:Int)=(((sIx n 0 lo:Nat):Int),((sIx n n hi:Nat):Int)):=by
 have h1:¬((1:Int)<0):=by omega
 unfold LH;simp only[h1,if_false];refine Lm ?_ ?_
 ·cases lo with
  | none=>rfl
  | some v=>exact JfA v n 0
 ·cases hi with
  | none=>rfl
  | some v=>exact JfA v n n
theorem JeY(i j:Nat):KJ (i:Int) (j:Int) 1=j-i:=by
 unfold KJ;have h1:(1:Int)>0:=by omega
 simp only[h1,if_true,Int.ediv_one];split <;> omega
theorem Jah(p:IsPart v o)(h:Q o s):wpAny (model prog w) A (Builtin.Slice.slicePartIndex v) Q E s:=by
 cases p with
 | none=>exact slicePart_none h
 | int i t=>exact slicePart_int h
theorem UJ{sl:Addr}{vl vu:Value}{lo hi:Option Int}{n:Nat}{Q:Int×Int×Nat->Shared->Prop}(hs:s.heap.IsSliceOf sl vl vu .none)(pl:IsPart vl lo)(pu:IsPart vu hi)
 (h:Q (((sIx n 0 lo:Nat):Int),1,sIx n n hi-sIx n 0 lo) s):wpAny (model prog w) A (MI (.ref sl) (pure (n:Int))) Q E s:=by
 obtain⟨os,hos,hcs,hds⟩:=id hs;unfold MI Builtin.Slice.sliceFields;refine Qa (Qa (QX hos hds (x:=vl) rfl (Qa (QX hos hds (x:=vu) rfl (Qa (QX hos hds (x:=.none) rfl (Qe ?_)))))));refine Qa (slicePart_none ?_);show wpAny _ _ (if ((1:Int) == 0)=true then _ else _) _ _ s;rw[if_neg (by decide)];refine Qa (Jah pl (Qa (Jah pu (Qa (Qe ?_)))))
 show wpAny _ _ (match LH lo hi 1 (n:Int) with|(lo,hi)=>pure (lo,(1:Int),KJ lo hi 1)) _ _ s;rw[Jd4 lo hi n]
 show wpAny _ _ (pure (((sIx n 0 lo:Nat):Int),(1:Int),KJ ((sIx n 0 lo:Nat):Int) ((sIx n n hi:Nat):Int) 1)) _ _ s;rw[JeY];exact Qe h
theorem JjH(xs:Array Value)(i k:Nat):((Q9 k).filterMap fun(m:Nat)=>xs[((i:Int)+(m:Int)*1).toNat]?).toArray=((xs.toList.drop i).take k).toArray:=by
 have e:(fun(m:Nat)=>xs[((i:Int)+(m:Int)*1).toNat]?)=fun m=>xs[i+m]?:=by
  funext m
  have:((i:Int)+(m:Int)*1).toNat=i+m:=by omega
  rw[this]
 rw[e];have:=pick_run xs i k;rw[List.filterMap_map] at this;have e2:((fun x=>xs[x]?) ∘ fun x=>i+x)=fun m=>xs[i+m]?:=rfl
 rw[e2] at this;rw[this]
theorem V2{t sl:Addr}{items:Array Value}{vl vu:Value}{lo hi:Option Int}{Q:Value->Shared->Prop}(ht:IsTup s.heap t items)(hs:s.heap.IsSliceOf sl vl vu .none)(pl:IsPart vl lo)(pu:IsPart vu hi)
 (hw:¬(sIx items.size 0 lo=0/\sIx items.size items.size hi=items.size))
 (h:Q (.ref s.heap.objs.size) { s with heap:=s.heap.push { cls:=.type "tuple",data:=.seq ((items.toList.drop (sIx items.size 0 lo)).take (sIx items.size items.size hi-sIx items.size 0 lo)).toArray } })
 (hsz:items.size<=sizeLine):wpAny (model prog w) A (getItem (.ref t) (.ref sl)) Q E s:=by
 have htake:sizeOk (.seq ((items.toList.drop (sIx items.size 0 lo)).take (sIx items.size items.size hi-sIx items.size 0 lo)).toArray):=by show((items.toList.drop (sIx items.size 0 lo)).take (sIx items.size items.size hi-sIx items.size 0 lo)).toArray.size<=sizeLine;rw[Qo,K1,K2,QB];omega
 have hj:sIx items.size items.size hi<=items.size:=JpQ _ _ (Qm _) hi;obtain⟨os,hos,hcs,hds⟩:=id hs
 have hTs:s.TypeIs (.ref sl) "slice":=⟨os,hos,hcs⟩
 unfold getItem
 try with_reducible refine Gn ?_
 first|refine Qa (Qe ?_)|skip
 refine Qa (wpAny_sequenceKey ht.typeIs (by decide) ?_);refine Qa (QI (name:=Gj "__getitem__") ht.typeIs Gf
  (QO Gf ht.typeIs entry_tuple_getitem ?_ (args_tuple_getitem _ _)))
 show wpAny _ _ (MJ (.ref t) >>= _) _ _ s;refine Qa (tupleItemsOf_ ht ?_);refine Qa (LC hTs ?_);rw[if_pos (by decide)];refine Qa (UJ hs pl pu ?_)
 have hno:¬((((sIx items.size 0 lo:Nat):Int) == 0 && (1:Int) == 1 && (sIx items.size items.size hi-sIx items.size 0 lo) == items.size)=true):=by intro q;rw[QU,QU] at q;have q1:((sIx items.size 0 lo:Nat):Int)=0:=eq_of_beq q.1.1;have q2:sIx items.size items.size hi-sIx items.size 0 lo=items.size:=eq_of_beq q.2;exact hw ⟨by omega,by omega⟩
 show wpAny _ _ (if (((sIx items.size 0 lo:Nat):Int) == 0 && (1:Int) == 1 && (sIx items.size items.size hi-sIx items.size 0 lo) == items.size)=true then _ else _) _ _ s;rw[if_neg hno,JjH]
 first
  | exact Qa (m:=KW _) (QQ (Qe ⟨_,rfl,Qe h⟩) htake)
  | exact Qa (m:=KW _) (QQ (Qa (Qe (Qe ⟨_,rfl,Qe h⟩))) htake)
  | exact Qa (Qa (m:=KW _) (QQ (Qe (Qe ⟨_,rfl,Qe h⟩)) htake))
  | exact Qa (Qa (m:=KW _) (QQ (Qe ⟨_,rfl,Qe h⟩) htake))
end HT
namespace L2
open PySem PySem.Spec PyProof.Rows
noncomputable abbrev TO:=St->Hp->(Option Int->Hp->Prop)->Prop
noncomputable def PO(X:Cx)(e:Option Expr)(t:TO):Prop :=
 ∀(pins:List (Addr×Obj)) (s:Shared) (σ:St) (H:Hp) (Q:Option Int->Hp->Prop),Inv X pins σ H s->t σ H Q ->
  wpAny (model X.prog X.w) X.A (evalPart e X.env) (fun u s'=>∃o H',Inv X pins σ H' s'/\IsPart u o/\Q o H') X.xe s
noncomputable def JgF:TO:=fun _ H Q=>Q none H
noncomputable def JnN(t:TE):TO:=fun σ H Q=>t σ H fun x H1=>∃i,x=.int i/\Q (some i) H1
theorem YN:∀{us:List Value},Vals (ns.map V.int) us->IntsAre us ns:=by
 induction ns with
 | nil=>intro us r;rw[KN] at r;cases r;exact .nil
 | cons n ns ih =>
  intro us r;rw[Qg] at r
  cases r with
  | cons r1 r2=>obtain⟨t,e⟩:=r1;subst e;exact .cons n t (ih r2)
section
variable{X:Cx}{e:Expr}{te:TE}{lo hi:Option Expr}{tl th:TO}{pos p2:Pos}
theorem Zd:PO X none JgF:=by intro pins s σ H Q I h;rw[evalPart_none];exact Qe ⟨none,H,I,.none,h⟩
theorem Ze(h:PE X e te):PO X (some e) (JnN te):=by
 intro pins s σ H Q I hw;rw[evalPart_some];refine thn (h pins s σ H _ I hw) fun u s1 ⟨x,H1,I1,r1,q1⟩=>?_
 obtain⟨i,rfl,q⟩:=q1;obtain⟨t,rfl⟩:=r1;exact⟨some i,H1,I1,.int i t,q⟩
noncomputable def SlR(X:Cx)(r:V->Option Int->Option Int->Hp->VK->Prop):Prop :=
 ∀(pins:List (Addr×Obj)) (s:Shared) (σ:St) (H:Hp) (x:V) (v vl vu:Value) (lo hi:Option Int) (sl:Addr) (Q:VK),Inv X pins σ H s->RelV x v->s.heap.IsSliceOf sl vl vu .none->IsPart vl lo->IsPart vu hi->r x lo hi H Q ->
  ∃T id,typeLookup (.type T) "__getitem__"=pure (some (.builtin id))/\s.TypeIs v T/\wpAny (model X.prog X.w) X.A (getItem v (.ref sl)) (EP X pins σ Q) X.xe s
theorem SlR.or(h:SlR X r)(h':SlR X r'):SlR X (fun x lo hi H Q=>r x lo hi H Q\/r' x lo hi H Q):=by
 intro pins s σ H x v vl vu lo hi sl Q I rx hs pl pu q;rcases q with q|q
 ·exact h pins s σ H x v vl vu lo hi sl Q I rx hs pl pu q
 ·exact h' pins s σ H x v vl vu lo hi sl Q I rx hs pl pu q
noncomputable def tSl(r:V->Option Int->Option Int->Hp->VK->Prop)(te:TE)(tl th:TO):TE:=fun σ H Q=>te σ H fun x H1=>tl σ H1 fun l H2=>th σ H2 fun u H3=>r x l u H3 Q
theorem Wb(hr:SlR X r)(he:PE X e te)(hl:PO X lo tl)(hu:PO X hi th):PE X (.Subscript e (.Slice lo hi none p2) pos) (tSl r te tl th):=by
 intro pins s σ H Q I h;refine Subscript_ (thn (he pins s σ H _ I h) fun v s1 ⟨x,H1,I1,r1,q1⟩=>?_);refine wpAny_Slice (thn (hl pins s1 σ H1 _ I1 q1) fun vl s2 ⟨l,H2,I2,pl,q2⟩=>thn (hu pins s2 σ H2 _ I2 q2) fun vu s3 ⟨u,H3,I3,pu,q3⟩=>?_);rw[evalPart_none];refine Qe ?_;have I4:Inv X pins σ H3 { s3 with heap:=s3.heap.push { cls:=.type "slice",data:=.fields #[vl,vu,.none] } }:=I3.kept (t':=s3.toks) fun b ob q=>Qf _ q
 obtain⟨T,id,hT,ht,hg⟩:=hr pins { s3 with heap:=s3.heap.push { cls:=.type "slice",data:=.fields #[vl,vu,.none] } } σ H3 x v vl vu l u s3.heap.objs.size Q I4 r1 (Heap.IsSliceOf.new ..) pl pu q3;show wpAny (model X.prog X.w) X.A (subscriptTail e (.Slice lo hi none p2) v (.ref s3.heap.objs.size)) (EP X pins σ Q) X.xe { s3 with heap:=s3.heap.push { cls:=.type "slice",data:=.fields #[vl,vu,.none] } };exact tail_any (ops:=[.ref s3.heap.objs.size,v]) ht hT hg (by with_unfolding_all rfl)
noncomputable def Jav(xs:List V)(lo hi:Option Int):List V:=(xs.drop (HT.sIx xs.length 0 lo)).take (HT.sIx xs.length xs.length hi-HT.sIx xs.length 0 lo)
theorem WL(xs:List V)(lo hi:Option Int):(Jav xs lo hi).length<=xs.length:=by unfold Jav;rw[K1,K2];omega
noncomputable def Jrr(K:Frag):V->Option Int->Option Int->Hp->VK->Prop:=fun x lo hi H Q=>∃a xs,x=.ref a/\SqT K H a xs ∧
 ¬(HT.sIx xs.length 0 lo=0/\HT.sIx xs.length xs.length hi=xs.length)/\∀p,H p=none->Q (.ref p) (upd H p (.tup (Jav xs lo hi)))
theorem sl_tup:SlR X (Jrr X.K):=by
 intro pins s σ H x v vl vu lo hi sl Q I rx hs pl pu h;obtain⟨a,xs,rfl,hx,hw,q⟩:=h;cases rx;obtain⟨its,r,ht,hz⟩:=I.tuple hx;have hlen:its.toArray.size=xs.length:=by rw[Qo];exact r.length.symm
 refine⟨"tuple",_,Gf.lookup,ht.typeIs,?_⟩;refine HT.V2 ht hs pl pu (by rw[hlen];exact hw) ?_ (by rw[hlen];exact hz);rw[hlen];refine⟨.ref s.heap.objs.size,_,I.laid (t':=s.toks) (o:=.tup (Jav xs lo hi)) (fun b ob q=>Qf _ q) (Qm _) ?_,rfl,q _ (I.hok.fresh (Qm _))⟩;exact⟨Gz (WL xs lo hi) hz,_,(r.drop (HT.sIx xs.length 0 lo)).take (HT.sIx xs.length xs.length hi-HT.sIx xs.length 0 lo),IsTup.new _ _⟩
noncomputable def JnD(K:Frag):R2:=fun x y H Q=>∃a b xs ys,x=.ref a/\y=.ref b/\SqT K H a xs/\SqT K H b ys/\xs≠[]/\xs.length+ys.length<=sizeLine ∧
 (ys=[]->Q (.ref a) H)/\(ys≠[]->∀p,H p=none->Q (.ref p) (upd H p (.tup (xs++ys))))
theorem Vals.nil_iff(r:Vals xs us):us=[]↔xs=[]:=by
 cases r with
 | nil=>simp
 | cons _ _=>simp
theorem Jl1:OpR X (binaryOp .Add) (JnD X.K):=by
 intro pins s σ H x y v u Q I rx ry h;obtain⟨a,b,xs,ys,rfl,rfl,ha,hb,hx,hz,q1,q2⟩:=h;cases rx;cases ry;obtain⟨its,r1,p1,_⟩:=I.tuple ha;obtain⟨its2,r2,p2,_⟩:=I.tuple hb;refine HT.Jk2 p1 p2 (fun z=>hx (r1.nil_iff.mp z)) (fun z=>⟨.ref a,H,I,rfl,q1 (r2.nil_iff.mp z)⟩) (fun z=>?_) (by rw[<- r1.length,<- r2.length];exact hz);refine⟨.ref s.heap.objs.size,_,I.laid (t':=s.toks) (o:=.tup (xs++ys)) (fun b ob q=>Qf _ q) (Qm _) ?_,rfl,q2 (fun w=>z (r2.nil_iff.mpr w)) _ (I.hok.fresh (Qm _))⟩
 exact⟨by rw[Qx];exact hz,_,r1.append r2,IsTup.new _ _⟩
end
noncomputable def ixN(n:Nat)(i:Int):Option Nat:=if 0<=i then(if i<n then some i.toNat else none) else if -(n:Int)<=i then some (i+n).toNat else none
noncomputable def atI{α:Type}(xs:List α)(i:Int):Option α:=(ixN xs.length i).bind fun j=>xs[j]?
theorem Jly(h:ixN n i=some j):seqIndex? i n=some j/\j<n/\-(n:Int)<=i/\i<n:=by
 unfold ixN at h
 by_cases h0:0<=i
 ·rw[if_pos h0] at h
  by_cases h1:i<n
  ·rw[if_pos h1] at h;have e:i.toNat=j:=QK h;exact⟨by rw[seqIndex_of h0 h1,e],by omega,by omega,h1⟩
  ·rw[if_neg h1] at h;cases h
 ·rw[if_neg h0] at h
  by_cases h1:-(n:Int)<=i
  ·rw[if_pos h1] at h;have e:(i+n).toNat=j:=QK h;exact⟨by rw[seqIndex_neg (by omega) h1,e],by omega,h1,by omega⟩
  ·rw[if_neg h1] at h;cases h
theorem Jbf{α:Type}{xs:List α}{v:α}(h:atI xs i=some v):∃j,seqIndex? i xs.length=some j/\xs[j]?=some v/\j<xs.length/\-(xs.length:Int)<=i/\i<xs.length:=by
 unfold atI at h
 cases e:ixN xs.length i with
 | none=>rw[e] at h;cases h
 | some j=>rw[e] at h;obtain⟨h1,h2,h3,h4⟩:=Jly e;exact⟨j,h1,h,h2,h3,h4⟩
noncomputable def Jfp(b:Expr):Prop:=∀o i,subscripted b false o i=operate [o,i] (getItem o i)
noncomputable def IxR(X:Cx)(r:R2):Prop :=
 ∀(value slice:Expr) (pins:List (Addr×Obj)) (s:Shared) (σ:St) (H:Hp) (x y:V) (v u:Value) (Q:VK),Inv X pins σ H s->RelV x v->RelV y u->r x y H Q ->
  subscripted slice false v u=operate [v,u] (getItem v u)->wpAny (model X.prog X.w) X.A (subscriptTail value slice v u) (EP X pins σ Q) X.xe s
noncomputable def MtR(X:Cx)(id:String)(r:V->List V->Hp->VK->Prop):Prop :=
 ∀(pins:List (Addr×Obj)) (s:Shared) (σ:St) (H:Hp) (x:V) (xs:List V) (v:Value) (us:List Value) (Q:VK),Inv X pins σ H s->RelV x v->Vals xs us->r x xs H Q ->
  wpAny (model X.prog X.w) X.A (call (.builtin id) (v::us)) (EP X pins σ Q) X.xe s
section
variable{X:Cx}{a b:Expr}{ta tb:TE}{pos:Pos}
theorem IxR.or(h:IxR X r)(h':IxR X r'):IxR X (fun x y H Q=>r x y H Q\/r' x y H Q):=by
 intro value slice pins s σ H x y v u Q I rx ry q hs;rcases q with q|q
 ·exact h value slice pins s σ H x y v u Q I rx ry q hs
 ·exact h' value slice pins s σ H x y v u Q I rx ry q hs
theorem Jre(hr:IxR X r)(ha:PE X a ta)(hb:PE X b tb)(hs:Jfp b):PE X (.Subscript a b pos) (tOp r ta tb):=by intro pins s σ H Q I h;exact Subscript_ (JnU ha hb I h fun v u s2 x y H2 I2 rx ry q=>hr a b pins s2 σ H2 x y v u Q I2 rx ry q (hs _ _))
noncomputable def Jrj(K:Frag):R2:=fun x y H Q=>∃p xs i v,x=.ref p/\y=.int i/\SqL K H p xs/\atI xs i=some v/\Q v H
noncomputable def Jrl(K:Frag):R2:=fun x y H Q=>∃p xs i v,x=.ref p/\y=.int i/\SqT K H p xs/\atI xs i=some v/\Q v H
noncomputable def Jrk:R2:=fun x y H Q=>∃z i c,x=.str z/\y=.int i/\z.length<=sizeLine/\atI z.cps.toList i=some c/\Q (.str ⟨#[c]⟩) H
theorem ix_list:IxR X (Jrj X.K):=by
 intro value slice pins s σ H x y v u Q I rx ry h hs;obtain⟨p,xs,i,z,rfl,rfl,hq,he,q⟩:=h;cases rx;obtain⟨t,rfl⟩:=ry;obtain⟨its,r,pl,hz⟩:=I.list hq;obtain⟨j,h1,h2,h3,h4,h5⟩:=Jbf he;obtain⟨w,ew,rw'⟩:=r.get h2;have hl:=r.length;have hn:=ZN;have fin:EP X pins σ Q w s:=⟨z,H,I,rw',q⟩
 by_cases h0:0<=i
 ·have hj:i.toNat=j:=by rw[seqIndex_of h0 h5] at h1;exact QK h1
  exact item_listR pl.isList h0 (by omega) (by rw[hj];simpa using ew) fin hs
 ·have hj:(i+(its.toArray.size:Int)).toNat=j:=by rw[seqIndex_neg (by omega) h4] at h1;rw[Qo,<- hl];exact QK h1
  exact subscriptTail_builtinR (x:=w) pl.isList.typeIs slot_list_getitem.lookup
   (wpAny_getItem_list_neg (Q:=fun r s'=>r=w/\EP X pins σ Q r s') pl.isList (by omega) (by rw[Qo] <;> omega) (by omega) (by rw[hj];simpa using ew) ⟨rfl,fin⟩) hs
theorem ix_tup:IxR X (Jrl X.K):=by
 intro value slice pins s σ H x y v u Q I rx ry h hs;obtain⟨p,xs,i,z,rfl,rfl,hq,he,q⟩:=h;cases rx;obtain⟨t,rfl⟩:=ry;obtain⟨its,r,pl,hz⟩:=I.tuple hq;obtain⟨j,h1,h2,h3,h4,h5⟩:=Jbf he;obtain⟨w,ew,rw'⟩:=r.get h2;have hl:=r.length;have hn:=ZN;have fin:EP X pins σ Q w s:=⟨z,H,I,rw',q⟩
 exact subscriptTail_builtinR (x:=w) pl.typeIs slot_tuple_getitem.lookup
  (getItem_tuple (j:=j) (Q:=fun r s'=>r=w/\EP X pins σ Q r s') pl (by omega) (by omega) (by rw[Qo,<- hl];exact h1) (by simpa using ew) ⟨rfl,fin⟩) hs
theorem Jov:IxR X Jrk:=by
 intro value slice pins s σ H x y v u Q I rx ry h hs;obtain⟨z,i,c,rfl,rfl,hz,he,q⟩:=h;obtain⟨t,rfl⟩:=rx;obtain⟨t',rfl⟩:=ry;obtain⟨j,h1,h2,h3,h4,h5⟩:=Jbf he;have hl:z.cps.toList.length=z.length:=by simp[Str.length]
 rw[hl] at h1 h4 h5;have hn:=ZN;exact tail_any (typeIs_str s z t) slot_str_getitem.lookup (getItem_str (c:=c) (by
  have e1:decide (i < -(2 ^ 63:Int))=false:=decide_eq_false (by omega)
  have e2:decide (i ≥ 2 ^ 63)=false:=decide_eq_false (by omega);rw[e1,e2,LO]) (by rw[h1];simpa using h2) ⟨.str ⟨#[c]⟩,H,I.tok _,⟨_,rfl⟩,q⟩) hs
noncomputable def rIx(K:Frag):R2:=fun x y H Q=>Jrj K x y H Q\/Jrl K x y H Q\/Jrk x y H Q
theorem Jou:IxR X (rIx X.K):=ix_list.or (ix_tup.or Jov)
theorem Jce(lo hi:Option Int)(n:Nat):(sliceBounds lo hi none n).1=((HT.sIx n 0 lo:Nat):Int)/\(sliceBounds lo hi none n).2.1=((HT.sIx n n hi:Nat):Int)/\(sliceBounds lo hi none n).2.2=1:=by
 refine⟨?_,?_,rfl⟩
 ·cases lo with
  | none=>simp[sliceBounds,HT.sIx]
  | some i =>
   simp only[sliceBounds,HT.sIx,Option.getD_none,show(1:Int)>0 by decide,if_true]
   by_cases h:i<0
   ·simp only[h,if_true] <;> omega
   ·simp only[h,if_false] <;> omega
 ·cases hi with
  | none=>simp[sliceBounds,HT.sIx]
  | some i =>
   simp only[sliceBounds,HT.sIx,Option.getD_none,show(1:Int)>0 by decide,if_true]
   by_cases h:i<0
   ·simp only[h,if_true] <;> omega
   ·simp only[h,if_false] <;> omega
theorem Jay(its:List Value)(lo hi:Option Int):slicePick its.toArray lo hi none=((its.drop (HT.sIx its.length 0 lo)).take (HT.sIx its.length its.length hi-HT.sIx its.length 0 lo)).toArray:=by obtain⟨h1,h2,h3⟩:=Jce lo hi its.toArray.size;unfold slicePick;rw[h1,h2,h3];simp only[sliceRange_one,pick_run,Qo] <;> rfl
noncomputable def Jrq(K:Frag):V->Option Int->Option Int->Hp->VK->Prop:=fun x lo hi H Q=>∃a xs,x=.ref a/\SqL K H a xs/\∀p,H p=none->Q (.ref p) (upd H p (.lst (Jav xs lo hi)))
theorem sl_list:SlR X (Jrq X.K):=by
 intro pins s σ H x v vl vu lo hi sl Q I rx hs pl pu h;obtain⟨a,xs,rfl,hx,q⟩:=h;cases rx;obtain⟨its,r,ht,hz⟩:=I.list hx;have hlen:=r.length;refine⟨"list",_,slot_list_getitem.lookup,ht.isList.typeIs,?_⟩;refine wpAny_getItem_list_slice ht.isList hs pl pu .none (by simp) ?_ (by rw[Qo] <;> omega);rw[Jay,<- hlen];refine⟨.ref s.heap.objs.size,_,I.laid (t':=s.toks) (o:=.lst (Jav xs lo hi)) (fun b ob q=>Qf _ q) (Qm _) ?_,rfl,q _ (I.hok.fresh (Qm _))⟩
 exact⟨Gz (WL xs lo hi) hz,_,0,(r.drop (HT.sIx xs.length 0 lo)).take (HT.sIx xs.length xs.length hi-HT.sIx xs.length 0 lo),Qi _ rfl⟩
theorem Jbj:J3 X (.type "list") (fun xs H Q=>∃p ys,xs=[.ref p]/\(SqL X.K H p ys\/SqT X.K H p ys)/\∀l,H l=none->Q (.ref l) (upd H l (.lst ys))):=by
 intro pins s σ H xs us Q I r h;obtain⟨p,ys,rfl,hq,q⟩:=h;obtain⟨u,rfl,rx⟩:=UW r;cases rx
 have fin:∀(its:List Value),Vals ys its->ys.length<=sizeLine->∀(h':Heap) (c':Nat),(∀b o',s.heap.get? b=some o'->h'.get? b=some o') ->
  h'.get? s.heap.objs.size=some { cls:=.type "list",dict:=none,data:=.seq its.toArray c',slots:=#[] }->EP X pins σ Q (.ref s.heap.objs.size) { s with heap:=h' }:=fun its r' hz h' c' kp e =>
  ⟨.ref s.heap.objs.size,_,I.laid (t':=s.toks) kp (Qm _) (show ObjOk X.prog X.w _ h' _ (.lst ys) from⟨hz,its,c',r',e⟩),rfl,q _ (I.hok.fresh (Qm _))⟩
 rcases hq with hq|hq
 ·obtain⟨its,r',pl,hz⟩:=I.list hq;have hlen:=r'.length;obtain⟨o,ho,hc,n,hd⟩:=pl.isList;exact call_list_seq p (.inl rfl) ho hc hd (fun h' c' kp e=>fin its r' hz h' c' kp e) (by simp only[Qo] <;> omega)
 ·obtain⟨its,r',pl,hz⟩:=I.tuple hq;have hlen:=r'.length;obtain⟨o,ho,hc,n,hd⟩:=pl;exact call_list_seq p (.inr rfl) ho hc hd (fun h' c' kp e=>fin its r' hz h' c' kp e) (by simp only[Qo] <;> omega)
theorem Jau:J3 X (.type "tuple") (fun xs H Q=>∃p ys,xs=[.ref p]/\((SqL X.K H p ys/\∀l,H l=none->Q (.ref l) (upd H l (.tup ys)))\/(SqT X.K H p ys/\Q (.ref p) H))):=by
 intro pins s σ H xs us Q I r h;obtain⟨p,ys,rfl,h⟩:=h;obtain⟨u,rfl,rx⟩:=UW r;cases rx;rcases h with ⟨hq,q⟩|⟨hq,q⟩
 ·obtain⟨its,r',pl,hz⟩:=I.list hq;have hlen:=r'.length;refine call_tuple_list pl.isList (fun h' kp=>?_) (by simp only[Qo] <;> omega);have I1:Inv X pins σ H { s with heap:=h' }:=I.kept (t':=s.toks) kp
  have I2:Inv X pins σ (upd H h'.objs.size (.tup ys)) { s with heap:=h'.push { cls:=.type "tuple",data:=.seq its.toArray } } :=
   I1.laid (t':=s.toks) (fun b o e=>Qf _ e) (Qm _) (show ObjOk X.prog X.w _ _ _ (.tup ys) from⟨hz,its,r',IsTup.new _ _⟩)
  exact⟨.ref h'.objs.size,_,I2,rfl,q _ (I1.hok.fresh (Qm _))⟩
 ·obtain⟨its,r',pl,hz⟩:=I.tuple hq;exact call_tuple_same pl ⟨.ref p,H,I,rfl,q⟩
noncomputable def tyV(K:Frag)(T:String)(x:V)(H:Hp):Prop:=match x with
 | .str _=>T="str"
 | .int _=>T="int"
 | .ref p=>(T="list"/\∃xs,SqL K H p xs)\/(T="tuple"/\∃o,K.lookup p=some o/\o.cls=.type "tuple"/\o.dict=none) ∨
  (T="dict"/\((∃kvs,H p=some (.dK kvs))\/∃kvs,H p=some (.dT kvs)))\/(T="set"/\∃S n,H p=some (.set S n))
 | _=>False
theorem JkH{pins:List (Addr×Obj)}{σ:St}{H:Hp}{s:Shared}{T:String}{x:V}{v:Value}(I:Inv X pins σ H s)(r:RelV x v)(ty:tyV X.K T x H) :
 s.TypeIs v T/\∀a,v=.ref a->∃ob,s.heap.get? a=some ob/\ob.dict=none:=by
 cases x with
 | str z=>obtain⟨t,rfl⟩:=r;cases (show T="str" from ty);exact⟨typeIs_str s z t,fun _ e=>nomatch e⟩
 | int i=>obtain⟨t,rfl⟩:=r;cases (show T="int" from ty);exact⟨typeIs_int s i t,fun _ e=>nomatch e⟩
 | ref p =>
  cases r;rcases ty with ⟨rfl,xs,hq⟩|⟨rfl,o,hk,hc,hd⟩|⟨rfl,hk⟩|⟨rfl,S,n,hk⟩
  ·obtain⟨its,_,pl,_⟩:=I.list hq;refine⟨pl.isList.typeIs,fun a e=>?_⟩;cases e;obtain⟨o,n,e,c,hd,_⟩:=pl;exact⟨o,e,hd⟩
  ·refine⟨⟨o,I.kIn p o hk,hc⟩,fun a e=>?_⟩;cases e;exact⟨o,I.kIn _ o hk,hd⟩
  ·have z:∃o,s.heap.get? p=some o/\o.ExactDict:=by
    rcases hk with ⟨kvs,hk⟩|⟨kvs,hk⟩
    ·obtain⟨_,_,_,_,o,_,_,e,ex,_⟩:=I.hok p _ hk;exact⟨o,e,ex⟩
    ·obtain⟨_,_,_,_,o,_,_,e,ex,_⟩:=I.hok p _ hk;exact⟨o,e,ex⟩
   obtain⟨o,e,ex⟩:=z;refine⟨⟨o,e,ex.1⟩,fun a e2=>?_⟩;cases e2;exact⟨o,e,ex.2.1⟩
  ·obtain⟨o,_,_,_,e,ex,_⟩:=I.hok p _ hk;refine⟨⟨o,e,ex.1⟩,fun a e2=>?_⟩;cases e2;exact⟨o,e,ex.2.1⟩
 | _=>exact KA ty
noncomputable def Jp4(K:Frag)(T:String)(r:V->List V->Hp->VK->Prop)(to:TE):TE:=fun σ H Q=>to σ H fun x H1=>tyV K T x H1/\r x [] H1 Q
noncomputable def tBM(K:Frag)(T:String)(r:V->List V->Hp->VK->Prop)(to:TE)(t:TA):TE:=fun σ H Q=>to σ H fun x H1=>tyV K T x H1/\t σ H1 fun xs H2=>r x xs H2 Q
variable{o e:Expr}{es:List Expr}{to:TE}{t:TA}{name:Str}{apos cpos:Pos}{T id:String}{r:V->List V->Hp->VK->Prop}
theorem Jpf(pa:PlainAttrs T)(slot:Slot T name id)(hty:typeOf (.builtin id)=pure (.type "method_descriptor"))(hm:MtR X id r)(ho:PE X o to)
 (hbase:attributeBase o name X.env (eval o X.env)=eval o X.env:=by rfl) (hline:(apos.endLine == cpos.line)=true:=by rfl):PE X (.Call (.Attribute o name apos) [] [] cpos) (Jp4 X.K T r to):=by
 intro pins s σ H Q I h;refine K3 hbase hline (thn (ho pins s σ H _ I h) fun v s1 ⟨x,H1,I1,r1,ty,q1⟩=>?_);obtain⟨h1,h2⟩:=JkH I1 r1 ty;exact⟨T,id,pa,slot,hty,h1,h2,G4 rfl (LN (hm pins s1 σ H1 x [] v [] Q I1 r1 .nil q1))⟩
theorem Jrd(pa:PlainAttrs T)(slot:Slot T name id)(hty:typeOf (.builtin id)=pure (.type "method_descriptor"))(hm:MtR X id r)(ho:PE X o to)(ha:PA X (e::es) t)
 (hbase:attributeBase o name X.env (eval o X.env)=eval o X.env:=by rfl)
 (hfew:((backTo cpos (starEach (e::es) X.env)).all (fun x=>!x.1) && (backToKw cpos (keywordEach [] X.env)).all (fun x=>x.1.isSome)
  && decide ((e::es).length+([]:List Keyword).length+(if ([]:List Keyword).isEmpty then 0 else 1)<30))=true:=by rfl)
 (hline:(apos.endLine == cpos.line)=true:=by rfl) (hs:starEach (e::es) X.env=(false,eval e X.env)::starEach es X.env:=by rfl) (hplain:(backTo cpos (starEach es X.env)).any (·.1)=false:=by rfl) :
 PE X (.Call (.Attribute o name apos) (e::es) [] cpos) (tBM X.K T r to t):=by
 intro pins s σ H Q I h;refine wpAny_Call_method_late hbase hfew hline rfl (thn (ho pins s σ H _ I h) fun v s1 ⟨x,H1,I1,r1,ty,q1⟩=>?_);obtain⟨h1,h2⟩:=JkH I1 r1 ty;refine⟨T,id,pa,slot,hty,h1,h2,?_⟩;have hA:=ha cpos pins s1 σ H1 _ I1 q1;rw[hs] at hA ⊢;refine G4 (by show(false || (backTo cpos (starEach es X.env)).any (·.1))=false;rw[hplain] <;> rfl) (Mi ?_);exact thn hA fun us s2 ⟨vs,H2,I2,r2,q2⟩=>hm pins s2 σ H2 x vs v us Q I2 r1 r2 q2
/- xs.append(e),list.index on a module's tuple .. are MtR facts of 06m -/
end
noncomputable def MtM(X:Cx)(id:String)(r:V->List V->Hp->VK->Prop):Prop :=
 ∀(pins:List (Addr×Obj)) (s:Shared) (σ:St) (H:Hp) (x:V) (xs:List V) (v:Value) (us:List Value) (Q:VK),Inv X pins σ H s->RelV x v->Vals xs us->r x xs H Q ->
  wpAny (model X.prog X.w) X.A (call (.builtin id) (v::us)) (EP X pins σ Q) X.xe s
theorem Vals.one:∀{x:V} {us:List Value},Vals [x] us->∃u,us=[u]/\RelV x u
 | _,_,.cons r .nil=>⟨_,rfl,r⟩
theorem Vals.zero:∀{us:List Value},Vals [] us->us=[]
 | _,.nil=>rfl
theorem Vals.dropLast(h:Vals xs us):Vals xs.dropLast us.dropLast:=by
 induction h with
 | nil=>exact .nil
 | cons r t ih =>
  cases t with
  | nil=>exact .nil
  | cons q t'=>exact .cons r ih
theorem Vals.rep(h:Vals xs us):∀k:Nat,Vals (QN k xs).flatten (QN k us).flatten
 | 0=>.nil
 | k+1=>by rw[G6,G6,Kw,Kw];exact Vals.append h (Vals.rep h k)
theorem Jes{α:Type}(l:List α):l.eraseIdx (l.length-1)=l.dropLast:=by
 induction l with
 | nil=>rfl
 | cons a r ih =>
  cases r with
  | nil=>rfl
  | cons b r =>
   have e:(a::b::r).length-1=((b::r).length-1)+1:=by
    have h1:(a::b::r).length=r.length+2:=rfl
    have h2:(b::r).length=r.length+1:=rfl;omega
   rw[e,List.eraseIdx_cons_succ,ih]
   all_goals rfl
theorem JaU(its:List Value):∀(k:Nat) (acc:List Value),
 R0 (fun x1 x2=>x1++x2) acc.toArray (QN k its.toArray)=(acc++(QN k its).flatten).toArray
 | 0,acc=>by simp
 | k+1,acc=>by
  have e:acc.toArray++its.toArray=(acc++its).toArray:=by simp
  have e2:(acc++its)++(QN k its).flatten=acc++(QN (k+1) its).flatten:=by rw[G6,Kw,GF]
  rw[<- e2,<- JaU its k (acc++its),<- e,G6,QS]
theorem Inv.lset{its its':List Value}{f:Array Value->Array Value}(I:Inv X pins σ H s)(hH:H l=some (.lst xs))(e:s.heap.get? l=some { cls:=.type "list",data:=.seq its.toArray n })(hf:f its.toArray=its'.toArray)(hv:Vals ys its')(hz:ys.length<=sizeLine):
 Inv X pins σ (upd H l (.lst ys)) { s with heap:=s.heap.update l (G7 f),toks:=t' }:=by
 have q:=PySem.IsL.update e f;rw[hf] at q;refine I.write (x:=l) (e:=l) (by rw[hH];exact trivial) (.inl rfl) (fun b' u hb hu=>(QM s.heap (G7 f) (QP hb)).trans hu) ⟨_,q⟩ ?_;exact⟨hz,its',_,hv,q⟩
theorem Inv.lnew(I:Inv X pins σ H s)(hv:Vals ys its)(hz:ys.length<=sizeLine):
 Inv X pins σ (upd H s.heap.objs.size (.lst ys)) { s with heap:=s.heap.push { cls:=.type "list",data:=.seq its.toArray },toks:=t' } :=
 I.laid (fun _ _ q=>Qf _ q) (Qm _) ⟨hz,its,0,hv,Qi _ rfl⟩
theorem Inv.fresh(I:Inv X pins σ H s):H s.heap.objs.size=none:=I.hok.fresh (Qm _)
theorem Inv.lstM(I:Inv X pins σ H s)(hH:H l=some (.lst xs)):xs.length<=sizeLine/\∃(its:List Value) (n:Nat),Vals xs its/\xs.length=its.length/\s.heap.get? l=some { cls:=.type "list",data:=.seq its.toArray n }:=by obtain⟨z,its,n,r,e⟩:=I.hok l _ hH;exact⟨z,its,n,r,r.length,e⟩
theorem Jdg(h:n<=sizeLine):KY n=false:=by unfold KY;exact decide_eq_false (by omega)
noncomputable def Wc:V->List V->Hp->VK->Prop:=fun x vs H Q=>∃l xs y,x=.ref l/\vs=[y]/\H l=some (.lst xs)/\xs.length<sizeLine/\Q .non (upd H l (.lst (xs++[y])))
theorem YQ:MtM X "list.append" Wc:=by intro pins s σ H x vs v us Q I rx rv h;obtain⟨l,xs,y,rfl,rfl,hH,hz,q⟩:=h;cases rx;obtain⟨u,rfl,ru⟩:=rv.one;obtain⟨z,its,n,r,hl,e⟩:=I.lstM hH;refine call_meets F.slot_list_append ⟨_,e,rfl⟩ F.entry_list_append (F.args_list_append_2 _ _) (PySem.list_append l its.toArray n u (by rw[Qo];omega)) ⟨e,?_⟩;refine⟨.non,_,I.lset (its':=its++[u]) hH e (by simp) (r.append (.cons ru .nil)) ?_,rfl,q⟩;rw[Qx,GA];omega
noncomputable def Jgm:V->List V->Hp->VK->Prop:=fun x vs H Q=>∃l b xs zs,x=.ref l/\vs=[.ref b]/\H l=some (.lst xs)/\H b=some (.lst zs)/\xs.length+zs.length<=sizeLine/\Q .non (upd H l (.lst (xs++zs)))
theorem Vk:MtM X "list.extend" Jgm:=by
 intro pins s σ H x vs v us Q I rx rv h;obtain⟨l,b,xs,zs,rfl,rfl,hH,hB,hz,q⟩:=h;cases rx;obtain⟨u,rfl,ru⟩:=rv.one;cases ru;obtain⟨z,its,n,r,hl,e⟩:=I.lstM hH;obtain⟨z2,its2,n2,r2,hl2,e2⟩:=I.lstM hB;have hsz:its.toArray.size+its2.toArray.size<=sizeLine:=by rw[Qo,Qo];omega
 have hlong:¬(!its.toArray.isEmpty && KY (its.toArray.size+its2.toArray.size))=true:=by rw[Jdg hsz,RK];exact Qu
 refine call_meets F.slot_list_extend ⟨_,e,rfl⟩ F.entry_list_extend (F.args_list_extend_2 _ _)
  (AutoSeq1.list_extend_list_list_0 l its.toArray n b its2.toArray n2 hlong (by rw[Qo];omega) (by omega)) ⟨e,e2,?_⟩
 refine⟨.non,_,I.lset (its':=its++its2) hH e (by simp) (r.append r2) ?_,rfl,q⟩;rw[Qx];omega
noncomputable def Jro:V->List V->Hp->VK->Prop:=fun x vs H Q=>∃l xs y,x=.ref l/\vs=[]/\H l=some (.lst xs)/\xs[xs.length-1]?=some y/\Q y (upd H l (.lst xs.dropLast))
theorem JoR:MtM X "list.pop" Jro:=by
 intro pins s σ H x vs v us Q I rx rv h;obtain⟨l,xs,y,rfl,rfl,hH,hy,q⟩:=h;cases rx;have hus:=rv.zero;subst hus;obtain⟨z,its,n,r,hl,e⟩:=I.lstM hH;obtain⟨u,hu,ru⟩:=r.get hy
 have hy':its.toArray[its.toArray.size-1]?=some u:=by show its.toArray[its.length-1]?=some u;rw[<- GB,<- hl];exact hu
 refine call_meets F.slot_list_pop ⟨_,e,rfl⟩ F.entry_list_pop (F.args_list_pop_1 _) (MeetsSeq.list_pop_last l its.toArray n u hy' (by rw[Qo];omega)) ⟨e,?_⟩;refine⟨y,_,I.lset (its':=its.dropLast) hH e ?_ r.dropLast ?_,ru,q⟩
 ·show its.toArray.eraseIdxIfInBounds (its.toArray.size-1)=its.dropLast.toArray;rw[Qo,List.eraseIdxIfInBounds_toArray,Jes]
 ·rw[RL];omega
noncomputable def Jrg:R2:=fun x y H Q=>∃l b xs zs,x=.ref l/\y=.ref b/\H l=some (.lst xs)/\H b=some (.lst zs)/\xs.length+zs.length<=sizeLine/\∀p,H p=none->Q (.ref p) (upd H p (.lst (xs++zs)))
theorem Jo5:OpR X (binaryOp .Add) Jrg:=by
 intro pins s σ H x y v u Q I rx ry h;obtain⟨l,b,xs,zs,rfl,rfl,hH,hB,hz,q⟩:=h;cases rx;cases ry;obtain⟨z,its,n,r,hl,e⟩:=I.lstM hH;obtain⟨z2,its2,n2,r2,hl2,e2⟩:=I.lstM hB;refine PySem.P.add_list e e2 ?_ (by rw[Qo,Qo];omega);have ea:its.toArray++its2.toArray=(its++its2).toArray:=by simp
 rw[ea];exact⟨.ref _,_,I.lnew (t':=s.toks) (r.append r2) (by rw[Qx];omega),rfl,q _ I.fresh⟩
noncomputable def Jrp:R2:=fun x y H Q=>∃l k xs,x=.ref l/\y=.int k/\H l=some (.lst xs)/\-(2 ^ 63)<=k/\k<2 ^ 63/\xs.length*k.toNat<=sizeLine ∧
 ∀p,H p=none->Q (.ref p) (upd H p (.lst (QN k.toNat xs).flatten))
theorem JlD{α:Type}(xs:List α)(k:Nat):(QN k xs).flatten.length=k*xs.length:=by
 induction k with
 | zero=>simp
 | succ k ih=>rw[G6,Kw,Qx,ih,Nat.succ_mul,Nat.add_comm]
theorem Jjx:OpR X (binaryOp .Mult) Jrp:=by
 intro pins s σ H x y v u Q I rx ry h;obtain⟨l,k,xs,rfl,rfl,hH,h1,h2,hz,q⟩:=h;cases rx;obtain⟨t,rfl⟩:=ry;obtain⟨z,its,n,r,hl,e⟩:=I.lstM hH;have hlen:its.toArray.size*k.toNat<=sizeLine:=by rw[Qo,<- hl];exact hz
 have hcap:¬its.toArray.size*k.toNat>(2 ^ 63-1) / 8:=by
  have:(sizeLine:Nat)<=(2 ^ 63-1) / 8:=by decide
  omega
 have hfit:¬(!Builtin.List.listFitsIndex k)=true:=by rw[fitsIndex_both h1 h2];exact Qu
 have hlong:¬KY (its.toArray.size*k.toNat)=true:=by rw[Jdg hlen];exact Qu
 have hnew:R0 (fun x1 x2=>x1++x2) #[] (QN (if its.toArray.isEmpty=true then 0 else k.toNat) its.toArray)=(QN k.toNat its).flatten.toArray:=by
  have f0:∀m:Nat,R0 (fun x1 x2=>x1++x2) #[] (QN m its.toArray)=(QN m its).flatten.toArray:=fun m=>by have:=JaU its m [];rw[Kj] at this;exact this
  rw[f0]
  cases its with
  | nil=>simp
  | cons a r'=>rw[if_neg (by simp)]
 refine wpAny_binaryOp_repeat_ref (T:="list") (U:="int") (by decide) ⟨_,e,rfl⟩ (fun s'=>typeIs_int s' k t) noFill_list_mul F.fills_int_mul F.slot_int_rmul repeat_list F.slot_int_index.lookup
  (call_meets F.slot_int_rmul (typeIs_int s k t) F.entry_int_rmul (F.args_int_rmul_2 _ _) (int___rmul___int_list k t l its.toArray n)
   ⟨e,rfl,⟨_,e,rfl⟩,call_meets F.slot_list_mul ⟨_,e,rfl⟩ F.entry_list_mul (F.args_list_mul_2 _ _) (AutoListH.list___mul___list_int_3 l its.toArray n k t hfit hcap hlong) ⟨e,?_⟩⟩)
 rw[hnew];exact⟨.ref _,_,I.lnew (t':=s.toks) (r.rep k.toNat) (by rw[JlD,Nat.mul_comm];exact hz),rfl,q _ I.fresh⟩
end L2
namespace Att
open PySem PySem.W PySem.Calls PyProof.Rows
theorem W1:∀(ns:List Int) (vs:List Value),WellAll P h vs (ns.map WData.int)->IntsAre vs ns:=by
 intro ns
 induction ns with
 | nil=>intro vs w;rw[KN] at w;cases w;exact .nil
 | cons n ns ih =>
  intro vs w;rw[Qg] at w
  cases w with
  | cons a b=>cases a;exact .cons _ _ (ih _ b)
theorem JhQ{l:OpenLaw}(hn:l.most=some n){h:Heap}(hpre:l.row.toRowW.claim.pre args=true)(hwl:WellAll P h vals args):
 ∃a vs ns,vals=[Value.ref a]/\args=[WData.list (ns.map WData.int)]/\h.get? a=some { cls:=.type "list",data:=.seq vs.toArray }/\IntsAre vs ns/\ns.length<=n:=by
 have hsh:WShape.hasAll [] args [.list .int]=true:=(pre_splitW hpre).1
 have hc:l.pre.holds [] { args:=args }=true:=(pre_splitW hpre).2;obtain⟨d,r,rfl,h1,h2⟩:=hasAllW_cons hsh;obtain rfl:=hasAllW_nil h2;obtain⟨xs,rfl,h3⟩:=hasW_list h1;obtain⟨ns,rfl⟩:=items_int h3
 have hlen:ns.length<=n:=by
  unfold OpenLaw.pre at hc
  have h4:(WTm.not (.lt (.lit (.int (n:Int))) (.len (.arg 0)))).holds [] { args:=[.list (ns.map .int)] }=true:=by have h4:=(holds_andW hc).1;rw[hn] at h4;exact h4
  have h5:=condW_of h4 (w_not (w_lt w_lit (w_len_list (w_arg rfl))));rw[Qk] at h5;refine Nat.le_of_not_lt fun q=>?_
  have q':(n:Int)<((ns.length:Nat):Int):=by omega
  first
   | (rw[decide_eq_true q'] at h5;exact absurd h5 (by decide))
   | (simp at h5;omega)
 cases hwl with
 | cons w1 w2 =>
  cases w2
  cases w1 with
  | list ho hall=>exact⟨_,_,ns,rfl,rfl,ho,W1 ns _ hall,hlen⟩
theorem JhF(l:OpenLaw)(args:List WData):l.row.toRowW.claim.post args (.bool true) args=true :=
 postW_of (r:=l.row.toRowW) (X:=(true == true))
  (show WShape.has [] (.bool true) .bool=true by first|rfl|decide|simp[WShape.has,WShape.arms,WShape.armsAll])
  (show(WTm.eq .res (.lit (.bool true))).value [] { args:=args,res:=some (.bool true),after:=args }=some (.bool (true == true)) from w_eq_bool (w_res rfl) w_lit) rfl
theorem attach_call{l:OpenLaw}{XP:(Str->Option Value)->Heap->Prop}{YP:World->Heap->Prop}{d:DefRec}(hn:l.most=some n)(hdf:d.params.defaults=[])(call:∀(w:World) (s₀ s₁:Shared) (mg mb:Str->Option Value) (fa:Addr) (o:Obj) (pm cd doc:Value) (a:Addr) (vs:List Value) (ns:List Int),
  Ground q loose [] XP w s₀ mg mb s₁.heap->YP w s₁.heap ->
  s₁.heap.get? fa=some o->o.data=.func (docDef d.name d.params d.body d.scope pm cd doc)->s₁.heap.CodeRec cd d.name->mg d.name=some (.ref fa) ->
  s₁.heap.get? a=some { cls:=.type "list",data:=.seq vs.toArray }->IntsAre vs ns->ns.length<=n->s₁.gens=#[] ->
  codeAny (model l.prog w) callerA (.call (.ref fa) ⟨[.ref a],[]⟩) (fun r s'=>r=.ok (.ret (.bool true))/\OldK s₁.heap s'.heap/\s'.os=s₁.os/\AllBare s'.gens) s₁):
 WalkO q loose XP YP l.row.toRowW d [] (fun f vs=>PySem.call f vs):=by
 intro w s₀ s₁ mg mb G Y fa o pm cd doc dV kV ho hd hcd hD hmg hg args vals as hpre hlay hrd hwl hlo;obtain rfl:dV=.none:=Dflts.none hD hdf;obtain rfl:kV=.none:=Dflts.noKw hD;obtain⟨a,vs,ns,rfl,rfl,hobj,hints,hlen⟩:=JhQ hn hpre hwl;refine enter_call (Lf (call w s₀ s₁ mg mb fa o pm cd doc a vs ns G Y ho (fd_plain hd) hcd hmg hobj hints hlen hg) fun r s' hq=>?_);obtain⟨rfl,h2,h3,h4⟩:=hq;exact⟨.inl ⟨.bool true,.bool true,[],rfl,fun _=>rfl,.bool true,JhF l _,fun _=>⟨List.Pairwise.nil,fun _ hm=>(nomatch hm)⟩⟩,h2,h3,h4⟩
end Att
namespace L2
open PySem PySem.Spec PyProof.Rows
theorem Jbc:∀{vs:List Value} {ns:List Int},IntsAre vs ns->Vals (ns.map V.int) vs
 | _,_,.nil=>.nil
 | _,_,.cons n t h=>.cons ⟨t,rfl⟩ (Jbc h)
noncomputable def JnS(H:Hp):Prop:=∀b,H b=none\/∃o xs,H b=some (.frz o (.lst xs))
theorem Jjb{K:Frag}{mg mb:Str->Option Value}{s₁:Shared}{vs:List Value}{ns:List Int}(KX:K.In s₁.heap)(hns:s₁.heap.Ns mainGlobals mg)(hb:s₁.heap.Ns builtinsNs mb)(hbb:∀x:Str,x≠"__name__"->mb x=bootBuiltins x)(hlim:s₁.heap.NoLimit)(hg:s₁.gens=#[])(ha:s₁.heap.get? a=some { cls:=.type "list",data:=.seq vs.toArray })(hi:IntsAre vs ns)(hl:ns.length<=sizeLine)(hr:Room k callerA)(F:∀base:Heap,K.In base->base.Ns mainGlobals mg->FnOk P w K mg base CX k fa fd [x] sp)(hbind:∀(s:Shared) (u:Value),BindsTo s fd ⟨[u],[]⟩ [(x,u)])(hsp:∀H:Hp,JnS H->SqL K H a (ns.map V.int)->sp [.ref a] H (fun v _=>v=.bl true) fun _ _ _=>False)(hCX:∀H e s',CX [] H s₁ (fun _ _ _=>False) e s'->False):
 codeAny (model P w) callerA (.call (.ref fa) ⟨[.ref a],[]⟩) (fun r s'=>r=.ok (.ret (.bool true))/\OldK s₁.heap s'.heap/\s'.os=s₁.os/\AllBare s'.gens) s₁:=by
 have rv:=Jbc hi
 have lenV:=hi.length
 -- from an abstract heap in which nothing but the script may be tracked
 have core:∀H:Hp,JnS H->SqL K H a (ns.map V.int)->HOk P w H s₁.heap->(∀b,H b≠none->b=a)->(H a≠none->K.lookup a=none) ->
  codeAny (model P w) callerA (.call (.ref fa) ⟨[.ref a],[]⟩) (fun r s'=>r=.ok (.ret (.bool true))/\OldK s₁.heap s'.heap/\s'.os=s₁.os/\AllBare s'.gens) s₁:=by
  intro H hO hS hok hA hK;have base_of:∀{b:Addr} {o:Obj},s₁.heap.get? b=some o->H b=none->(JbF s₁.heap H).get? b=some o:=fun e n=>Ji2 e n
  have noA:∀{b:Addr} {o:Obj} {es:Array DictEntry} {ep:Nat},s₁.heap.get? b=some o->o.data=.dict es ep->H b=none:=fun {b o es ep} e d=>by
   cases q:H b with
   | none=>rfl
   | some u =>
    have e':b=a:=hA b (by rw[q];simp);subst e';rw[ha] at e;cases e
    have d':Data.seq vs.toArray _=Data.dict es ep:=d;cases d'
  have nsK:∀{b:Addr} {m:Str->Option Value},s₁.heap.Ns b m->(JbF s₁.heap H).Ns b m:=fun {b m} ⟨o,es,ep,e,d,r⟩=>⟨o,es,ep,base_of e (noA e d),d,r⟩
  have hKb:K.In (JbF s₁.heap H):=fun b o e=>base_of (KX b o e) (by
   cases q:H b with
   | none=>rfl
   | some u=>have e':b=a:=hA b (by rw[q];simp);subst e';rw[hK (by rw[q];simp)] at e;cases e)
  have hM:Mod K mg (JbF s₁.heap H):=⟨hKb,nsK hns,⟨mb,nsK hb,hbb⟩,let ⟨mc,h1,h2⟩:=hlim;⟨mc,nsK h1,h2⟩⟩
  have e0:Env0 P w K mg (JbF s₁.heap H) callerA [] s₁ H:=⟨rfl,hM,fun b o e=>JlX e,Rp (Jhe _ _),trivial,fun b hb=>absurd (show b∈([]:List Addr) from hb) (by simp),hok,.of_eq hg⟩
  refine Lf ((F _ hKb (nsK hns)).run callerA [] s₁ H ⟨[.ref a],[]⟩ [.ref a] [.ref a] _ _ hr e0 (hbind s₁ (.ref a)) (.cons rfl .nil) (hsp H hO hS)) fun r s' h=>?_
  cases r with
  | error e=>exact(hCX H e s' h).elim
  | ok fl =>
   cases fl with
   | next=>exact KA h
   | brk=>exact KA h
   | cont=>exact KA h
   | ret u =>
    obtain⟨v,H',os,bare,un,hok',r',q⟩:=h;have q':v=.bl true:=q;subst q';obtain rfl:u=Value.bool true:=r';refine⟨rfl,OldK.of_keep fun b o e=>?_,os,bare⟩
    cases q:H b with
    | none=>exact un.keep b o e q (by intro z;exact absurd (show b∈([]:List Addr) from z) (by simp)) (by simp)
    | some u =>
     rcases hO b with z|⟨ob,xs,z⟩
     ·rw[q] at z;cases z
     ·have z2:=un.frzs b ob _ z;obtain⟨e1,_⟩:=hok b _ z;obtain⟨e2,_⟩:=hok' b _ z2;rw[e] at e1;cases e1;exact e2
 cases hk:K.lookup a with
 | some o =>
  -- the script is one of the module's own objects
  have e:=KX a o hk;rw[ha] at e;cases e;refine core (fun _=>none) (fun _=>.inl rfl) (.inr ⟨_,vs.toArray,_,hk,rfl,rfl,rfl,by rw[Qo,lenV];exact hl,by simpa using rv⟩) (fun b u z=>by have z':(none:Option HO)=some u:=z;cases z') (fun b z=>absurd rfl z) fun z=>absurd rfl z
 | none =>
  refine core (fun b=>if b=a then some (.frz { cls:=.type "list",data:=.seq vs.toArray } (.lst (ns.map V.int))) else none) (fun b=>?_) (.inl (.inr ⟨{ cls:=.type "list",data:=.seq vs.toArray },if_pos rfl⟩)) (fun b u z=>?_) (fun b z=>?_) fun _=>hk
  ·by_cases hb:b=a
   ·exact .inr ⟨_,_,if_pos hb⟩
   ·exact .inl (if_neg hb)
  ·by_cases hb:b=a
   ·have z':=(if_pos hb).symm.trans z;cases z';subst hb;exact⟨ha,by rw[Qk];exact hl,vs,_,rv,ha⟩
   ·have z':=(if_neg hb).symm.trans z;cases z'
  ·by_cases hb:b=a
   ·exact hb
   ·exact absurd (if_neg hb) z
theorem Jm3{l:PySem.W.OpenLaw}{n k:Nat}{q:Program}{loose:List Str}{XP:(Str->Option Value)->Heap->Prop}{YP:World->Heap->Prop}{d:DefRec}{K:Params->Frag}{CX:World->CXT}{sp:World->Sp}{x:Str}
 (hn:l.most=some n) (hn2:n<=sizeLine) (hdf:d.params.defaults=[]) (hr:Room k callerA)
 (hY:∀(w:World) (h:Heap),YP w h->(K w.params).In h)
 (F:∀(w:World) (mg:Str->Option Value) (fa:Addr) (h:Heap),(K w.params).In h->h.Ns mainGlobals mg->mg d.name=some (.ref fa) ->
  ∃fd:FuncData,(∀(s:Shared) (u:Value),BindsTo s fd ⟨[u],[]⟩ [(x,u)]) ∧
   ∀base:Heap,(K w.params).In base->base.Ns mainGlobals mg->FnOk l.prog w (K w.params) mg base (CX w) k fa fd [x] (sp w))
 (hsp:∀(w:World) (H:Hp) (a:Addr) (ns:List Int),ns.length<=n->JnS H->SqL (K w.params) H a (ns.map V.int)->sp w [.ref a] H (fun v _=>v=.bl true) fun _ _ _=>False)
 (hCX:∀(w:World) (H:Hp) (s:Shared) (e:Value) (s':Shared),CX w [] H s (fun _ _ _=>False) e s'->False) :
 PySem.W.WalkO q loose XP YP l.row.toRowW d [] (fun f vs=>PySem.call f vs):=by
 refine Att.attach_call hn hdf fun w s₀ s₁ mg mb fa o pm cd doc a vs ns G Y ho hd hcd hmg hobj hints hlen hg=>?_
 have KX:=hY w _ Y;obtain⟨fd,hb,hF⟩:=F w mg fa _ KX G.T.g hmg;exact Jjb KX G.T.g G.T.b G.T.builtins G.T.nolimit hg hobj hints (Gz hlen hn2) hr hF hb (fun H hO hS=>hsp w H a ns hlen hO hS) fun H e s'=>hCX w H s₁ e s'
noncomputable def Jlw(s:Stmt)(j:Nat):Stmt:=match s with
 | .ClassDef _ _ _ body _ _ _ _ _ _ _=>body.getD j (.Pass ⟨0,0,0,0⟩)
 | _=>.Pass ⟨0,0,0,0⟩
noncomputable def UO(s:Stmt):Arguments:=match s with
 | .FunctionDef _ a _ _ _ _ _ _ _ _=>a
 | _=>{ posonlyargs:=[],args:=[],vararg:=none,kwonlyargs:=[],kw_defaults:=[],kwarg:=none,defaults:=[] }
noncomputable def Y7(s:Stmt):List Stmt:=match s with
 | .FunctionDef _ _ b _ _ _ _ _ _ _=>b
 | _=>[]
noncomputable def Ji(s:Stmt):Scope:=match s with
 | .FunctionDef _ _ _ _ _ _ sc _ _ _=>sc
 | _=>{ kind:=.function,names:=[],isGenerator:=false,isCoroutine:=false }
noncomputable abbrev CX0:CXT:=fun _ _ _ _ _ _=>False
noncomputable abbrev E0:XK:=fun _ _ _=>False
theorem JnA:Zk CX0 X E0:=fun _ _ _ _ _ _ _ h=>h.elim
structure Fun (K:Frag) (x qual:Str) (st:Stmt) (f:Addr) (fd:FuncData):Prop where
 ex:∃(oc:Value) (od:Option Addr) (kV doc pm:Value) (an:Option Addr) (cdv ct:Value) (osl:Array (Option Value)),
  fd=fnOf x qual (UO st) (Y7 st) (Ji st) .none kV doc pm an cdv ct/\K.lookup f=some ⟨oc,od,.func fd,osl⟩/\codeIn K cdv qual=true
 kp:keepIn K (.ref f)=true
section
variable{P:Program}{w:World}{K:Frag}{mg:Str->Option Value}{base:Heap}
theorem Fun.ok{x qual:Str}{st:Stmt}{f:Addr}{fd:FuncData}{N ps:List Str}{k:Nat}{sp:Sp}(F:Fun K x qual st f fd)(S:FnScope N ps (Ji st))(len:∀vs H Q E,sp vs H Q E->vs.length=ps.length)
 (hbody:∀(cdv:Value) (A:Around) (outer:List Env) (s:Shared) (H:Hp) (vs:List V) (Q:VK) (E:XK),Room k (A.deeper (envOfC qual (Ji st) s.heap.objs.size f cdv))->sp vs H Q E ->
  ∃t,PSs (Jeh CX0 P w K mg base N qual (Ji st) f cdv A outer s H E).nox (Y7 st) t/\t { nx:=fun _ H'=>Q .non H',rt:=Q } (UV N vs) H):FnOk P w K mg base CX0 (k+1) f fd ps sp:=by
 obtain⟨oc,od,kV,doc,pm,an,cdv,ct,osl,rfl,lk,hcd⟩:=F.ex;refine JqI lk hcd S len fun A outer s H vs Q E hr hsp=>?_
 obtain⟨t,h,q⟩:=hbody cdv A outer s H vs Q E hr hsp;exact⟨t,h.nox,q⟩
theorem Fun.binds{x qual:Str}{st:Stmt}{f:Addr}{fd:FuncData}{ps:List Str}(F:Fun K x qual st f fd)
 (h:∀(kV doc pm:Value) (an:Option Addr) (cdv ct:Value) (us:List Value),us.length=ps.length->bindArgs (fnOf x qual (UO st) (Y7 st) (Ji st) .none kV doc pm an cdv ct) ⟨us,[]⟩=pure (ps.zip us)):Binds K fd ps []:=by
 obtain⟨oc,od,kV,doc,pm,an,cdv,ct,osl,rfl,lk,hcd⟩:=F.ex;exact .all (h kV doc pm an cdv ct)
theorem JiP{x qual:Str}{st:Stmt}{f:Addr}{oc:Value}{od an:Option Addr}{osl:Array (Option Value)}{kV doc pm cdv ct:Value}(l:K.lookup f=some ⟨oc,od,.func (fnOf x qual (UO st) (Y7 st) (Ji st) .none kV doc pm an cdv ct),osl⟩)
 (c:codeIn K cdv qual=true) (k:keepIn K (.ref f)=true):Fun K x qual st f (fnOf x qual (UO st) (Y7 st) (Ji st) .none kV doc pm an cdv ct):=⟨⟨oc,od,kV,doc,pm,an,cdv,ct,osl,rfl,l,c⟩,k⟩
end
theorem WN(hr:Room k A):A.units+1<cLine:=Ke (Nat.add_le_add_left (by decide:1<=64) _) hr.units
theorem JhR(h:n<=1000):n<sizeLine:=Ke h (by decide)
theorem pv(i:Nat){x:Str}{pos:Pos}(hN:X.N[i]?=some x:=by rfl)(hv:Vis X.env.scope x:=by first | exact Or.inl rfl | exact Or.inr (.inl rfl) | exact Or.inr (.inr rfl))(hd:(x == ("__debug__":Str))=false:=by decide)
 (hcd:(x == ("__classdict__":Str))=false:=by decide):PE X (.Name x pos) (Wj i):=Jpk hN hv hd hcd
noncomputable def Same(H H':Hp):Prop:=∀b o,H b=some o->H' b=some o
theorem Same.refl(H:Hp):Same H H:=fun _ _ h=>h
theorem Same.trans(a:Same H H1)(b:Same H1 H2):Same H H2:=fun c o h=>b c o (a c o h)
theorem Same.free(e:Same H H')(h:H' l=Option.none):H l=Option.none:=by
 cases q:H l with
 | none=>rfl
 | some o=>rw[e l o q] at h;cases h
theorem Same.seq{K:Frag}{H H':Hp}{a:Addr}{xs:List V}(e:Same H H')(h:SqL K H a xs):SqL K H' a xs:=by
 rcases h with (h|⟨o,h⟩)|h
 ·exact .inl (.inl (e _ _ h))
 ·exact .inl (.inr ⟨o,e _ _ h⟩)
 ·exact .inr h
section
variable{κ:Type}[DecidableEq κ]
noncomputable def Uj(kvs:List (κ×V))(k:κ):Option V:=(kvs.find? fun kv=>decide (kv.1=k)).map (·.2)
noncomputable def UF(kvs:List (κ×V))(k:κ)(v:V):List (κ×V) :=
 if (kvs.any fun kv=>decide (kv.1=k))=true then kvs.map (fun kv=>if kv.1=k then(kv.1,v) else kv) else kvs++[(k,v)]
theorem Vb{p:κ×V}{r:List (κ×V)}{k:κ}(e:p.1=k):Uj (p::r) k=some p.2:=by simp[Uj,Ln,e]
theorem Va{p:κ×V}{r:List (κ×V)}{k:κ}(e:¬p.1=k):Uj (p::r) k=Uj r k:=by simp[Uj,Ln,e]
theorem Jap(k:κ):∀kvs:List (κ×V),(kvs.any fun kv=>decide (kv.1=k))=(Uj kvs k).isSome
 | []=>rfl
 | p::r=>by
  rw[Kb]
  by_cases e:p.1=k
  ·simp only[Vb e,decide_eq_true e,Xb,Option.isSome_some]
  ·rw[Va e,decide_eq_false e,Ks];exact Jap k r
theorem UY(kvs:List (κ×V))(k:κ)(v:V):(UF kvs k v).length<=kvs.length+1:=by
 unfold UF;split
 ·rw[Qk];omega
 ·rw[Qx,Qq,KM];omega
theorem JjN{kvs:List (κ×V)}{k:κ}(v:V)(h:Uj kvs k=none):UF kvs k v=kvs++[(k,v)]:=by unfold UF;rw[Jap,h];exact if_neg (by decide)
theorem RelO.isSome_eq(r:RelO o u):o.isSome=u.isSome:=by
 cases o with
 | none=>cases u with
  | none=>rfl
  | some _=>exact(show False from r).elim
 | some _=>cases u with
  | none=>exact(show False from r).elim
  | some _=>rfl
theorem RelO.getD(r:RelO o u)(rd:RelV d d'):RelV (o.getD d) (u.getD d'):=by
 cases o with
 | none=>cases u with
  | none=>exact rd
  | some _=>exact(show False from r).elim
 | some _=>cases u with
  | none=>exact(show False from r).elim
  | some _=>exact r
theorem KV.val{kvs:List (κ×V)}{vs:List (κ×Value)}(r:KV kvs vs)(k:κ):RelO (Uj kvs k) (valueAt vs k):=by
 unfold KV at r
 induction r with
 | nil=>exact True.intro
 | @cons p q ps qs h t ih =>
  obtain⟨h1,h2⟩:=h
  by_cases e:p.1=k
  ·have e':q.1=k:=h1.symm.trans e
   have b:valueAt (q::qs) k=some q.2:=by simp[valueAt,Ln,e']
   rw[Vb e,b];exact h2
  ·have e':¬q.1=k:=fun z=>e (h1.trans z)
   have b:valueAt (q::qs) k=valueAt qs k:=by simp[valueAt,Ln,e']
   rw[Va e,b];exact ih
theorem KV.any{kvs:List (κ×V)}{vs:List (κ×Value)}(r:KV kvs vs)(k:κ):(kvs.any fun kv=>decide (kv.1=k))=vs.any fun kv=>decide (kv.1=k):=by
 unfold KV at r
 induction r with
 | nil=>rfl
 | cons h t ih=>rw[Kb,Kb,ih,h.1]
theorem KV.repl{kvs:List (κ×V)}{vs:List (κ×Value)}(r:KV kvs vs)(k:κ){y:V}{u:Value}(ry:RelV y u) :
 KV (kvs.map fun kv=>if kv.1=k then(kv.1,y) else kv) (vs.map fun kv=>if kv.1=k then(kv.1,u) else kv):=by
 unfold KV at r ⊢
 induction r with
 | nil=>exact .nil
 | @cons p q ps qs h t ih =>
  rw[Qg,Qg];refine .cons ?_ ih;obtain⟨h1,h2⟩:=h
  by_cases e:p.1=k
  ·rw[if_pos e,if_pos (h1.symm.trans e)];exact⟨h1,ry⟩
  ·rw[if_neg e,if_neg (fun z=>e (h1.trans z))];exact⟨h1,h2⟩
theorem KV.put{kvs:List (κ×V)}{vs:List (κ×Value)}(r:KV kvs vs)(k:κ){y:V}{u:Value}(ry:RelV y u):KV (UF kvs k y) (stored vs k u):=by
 unfold UF stored;rw[r.any k]
 by_cases e:(vs.any fun kv=>decide (kv.1=k))=true
 ·rw[if_pos e,if_pos e];exact r.repl k ry
 ·rw[if_neg e,if_neg e];exact Paired.snoc r ⟨rfl,ry⟩
theorem KV.length{kvs:List (κ×V)}{vs:List (κ×Value)}(r:KV kvs vs):kvs.length=vs.length:=M1 r
end
theorem Jc1(r:RelV (kV k) u):(JA P w).is k u=true:=by
 cases k with
 | inl i=>obtain⟨t,e⟩:=(show ∃t,u=Value.int i t from r);subst e;exact Jdd P w i t
 | inr x=>obtain⟨t,e⟩:=(show ∃t,u=Value.str x t from r);subst e;exact Jde P w x t
theorem Ws:∀{ks:List Key} {us:List Value},Vals (ks.map kV) us->ItemsAre (JA P w) ks us
 | [],_,r=>by rw[KN] at r;cases r;exact .nil
 | k::ks,_,r=>by
  rw[Qg] at r
  cases r with
  | cons h t=>exact .cons (Jc1 h) (Ws t)
noncomputable abbrev KT(H:Hp):List (List Key×V)->List (List Key×Addr×Value)->Prop:=Paired fun p q=>p.1=q.1/\H q.2.1=some (.tup (p.1.map kV))/\RelV p.2 q.2.2
theorem KT.val(r:KT H kvs xs)(k:List Key):RelO (Uj kvs k) ((atKey xs k).map (·.2)):=by
 induction r with
 | nil=>exact True.intro
 | @cons p q ps qs h t ih =>
  obtain⟨h1,_,h2⟩:=h
  by_cases e:p.1=k
  ·have e':q.1=k:=h1.symm.trans e
   have b:atKey (q::qs) k=some q.2:=by simp[atKey,Ln,e']
   rw[Vb e,b];exact h2
  ·have e':¬q.1=k:=fun z=>e (h1.trans z)
   have b:atKey (q::qs) k=atKey qs k:=by simp[atKey,Ln,e']
   rw[Va e,b];exact ih
theorem KT.repl(r:KT H kvs xs)(k:List Key)(ry:RelV y u):
 KT H (kvs.map fun kv=>if kv.1=k then(kv.1,y) else kv) (xs.map (putAt k u)):=by
 induction r with
 | nil=>exact .nil
 | @cons p q ps qs h t ih =>
  rw[Qg,Qg];refine .cons ?_ ih;obtain⟨h1,h2,h3⟩:=h;unfold putAt
  by_cases e:p.1=k
  ·rw[if_pos e,if_pos (h1.symm.trans e)];exact⟨h1,h2,ry⟩
  ·rw[if_neg e,if_neg (fun z=>e (h1.trans z))];exact⟨h1,h2,h3⟩
theorem KT.put(r:KT H kvs xs)(k:List Key)(hb:H b=some (.tup (k.map kV)))(ry:RelV y u):
 KT H (UF kvs k y) (storedH xs k b u):=by
 have e:(kvs.any fun kv=>decide (kv.1=k))=(atKey xs k).isSome:=by rw[Jap,(r.val k).isSome_eq,Option.isSome_map]
 unfold UF storedH;rw[e]
 by_cases q:(atKey xs k).isSome=true
 ·rw[if_pos q,if_pos q];exact r.repl k ry
 ·rw[if_neg q,if_neg q];exact Paired.snoc r ⟨rfl,hb,ry⟩
theorem KT.keeps(r:KT H kvs xs)(ht:∀b ys,H b=some (.tup ys)->H' b=some (.tup ys)):KT H' kvs xs :=
 Paired.mapP r fun _ _ z=>⟨z.1,ht _ _ z.2.1,z.2.2⟩
theorem JnF(ok:HOk P w H h)(e:Rd H a u):ObjOk P w H h a u:=e.ok ok
theorem JcH(ok:HOk P w H h)(e:Rd H a (.dK kvs)):kvs.length<=sizeLine/\(a == sysModules)=false/\∃vs,KV kvs vs/\h.DictOf (JA P w) a vs :=
 show ObjOk P w H h a (.dK kvs) from JnF ok e
theorem Jnf(ok:HOk P w H h)(e:H a=some (.dK kvs)):kvs.length<=sizeLine/\(a == sysModules)=false/\∃vs,KV kvs vs/\h.DictOf (JA P w) a vs:=JcH ok (.inl e)
theorem JbJ(ok:HOk P w H h)(e:H a=some (.tup (ks.map kV))):(tupleKind (JA P w)).is h ks a:=by
 obtain⟨_,its,r,o,h1,h2,n,h3⟩:=(show ObjOk P w H h a (.tup (ks.map kV)) from ok a _ e)
 exact⟨o,its.toArray,n,h1,h2,h3,by simpa using Ws r⟩
theorem Zt(ok:HOk P w H h)(e:Rd H a (.dT kvs)):kvs.length<=sizeLine/\(a == sysModules)=false ∧
 ∃xs,KT H kvs xs/\h.DictOfH (tupleKind (JA P w)) a xs:=by
 obtain⟨z,y,xs,r,o,es,ep,h1,h2,h3,h4,h5⟩:=(show ObjOk P w H h a (.dT kvs) from JnF ok e)
 refine⟨z,y,xs,r,o,es,ep,h1,h2,h3,h4,fun x hx=>?_,h5⟩
 have all:∀{l:List (List Key×V)} {m:List (List Key×Addr×Value)},KT H l m->∀x∈m,(tupleKind (JA P w)).is h x.1 x.2.1:=by
  intro l m q
  induction q with
  | nil=>intro x hx;exact nomatch hx
  | @cons p q ps qs hq t ih =>
   intro x hx;rcases Qh.mp hx with e|hx
   ·subst e;exact JbJ ok (by rw[<- hq.1];exact hq.2.1)
   ·exact ih x hx
 exact all r x hx
theorem JqA(ok:HOk P w H h)(e:H a=some (.dT kvs)):kvs.length<=sizeLine/\(a == sysModules)=false ∧
 ∃xs,KT H kvs xs/\h.DictOfH (tupleKind (JA P w)) a xs:=Zt ok (.inl e)
noncomputable def JgS(H:Hp)(a:Addr)(y:V)(r:Option V):Prop :=
 (∃kvs k,Rd H a (.dK kvs)/\y=kV k/\r=Uj kvs k)\/∃kvs k b,Rd H a (.dT kvs)/\y=.ref b/\H b=some (.tup (k.map kV))/\r=Uj kvs k
noncomputable def Jqn(H:Hp)(a:Addr)(y v:V)(H':Hp):Prop :=
 (∃kvs k,H a=some (.dK kvs)/\y=kV k/\kvs.length<sizeLine/\H'=upd H a (.dK (UF kvs k v))) ∨
 ∃kvs k b,H a=some (.dT kvs)/\y=.ref b/\H b=some (.tup (k.map kV))/\kvs.length<sizeLine/\H'=upd H a (.dT (UF kvs k v))
theorem Inv.big(I:Inv X pins σ H s):sysModules<s.heap.objs.size:=by have h:mainGlobals<s.heap.objs.size:=(I.mod.glob.keeps I.bk).lt;exact GY (by decide) h
theorem Jg6(hu:A.units+1<cLine)(I:Inv X pins σ H s)(g:JgS H a y (some v))(ry:RelV y u)(h:∀w' s',Inv X pins σ H s'->RelV v w'->Q w' s'):
 wpAny (model X.prog X.w) A (getItem (.ref a) u) Q E s:=by
 rcases g with ⟨kvs,k,e,ey,l⟩|⟨kvs,k,b,e,ey,eb,l⟩
 ·subst ey;obtain⟨z,hd,vs,rel,dd⟩:=JcH I.hok e;obtain⟨w',hw,rw'⟩:=RelO.some_of (v:=v) (o:=valueAt vs k) (by rw[l];exact rel.val k);exact wpAny_getItem_of (Jc1 ry) dd.mapOf hw (h w' _ (I.tok _) rw')
 ·subst ey;cases (show u=Value.ref b from ry);obtain⟨z,hd,xs,rel,dd⟩:=Zt I.hok e;obtain⟨w',hw,rw'⟩:=RelO.some_of (v:=v) (o:=(atKey xs k).map (·.2)) (by rw[l];exact rel.val k);obtain⟨p,hp,hp2⟩:=Gk.mp hw;refine wpAny_getItem_heap (tupleKind_room_in1 hu) (JbJ I.hok eb) dd hp ?_;rw[hp2];exact h w' _ (I.tok _) rw'
theorem Jbp(I:Inv X pins σ H s)(mu:Mut (H a))(hs:QA a s.heap h')(he:∃q,h'.get? a=some q)(new:ObjOk X.prog X.w (upd H a ob) h' a ob):
 Inv X pins σ (upd H a ob) { s with heap:=h',toks:=t' } :=
 I.write (x:=a) (e:=a) mu (.inl rfl) (fun b q hb z=>(hs.2 b hb).trans z) he new
theorem Jiy(z:kvs.length<=sizeLine)(hd:(a == sysModules)=false)(rel:KV kvs vs)(dd:h'.DictOf (JA P w) a vs):
 ObjOk P w H' h' a (.dK kvs):=⟨z,hd,vs,rel,dd⟩
theorem Jg7(hu:A.units+1<cLine)(I:Inv X pins σ H s)(g:Jqn H a y v H')(ry:RelV y u)(rv:RelV v r)(h:∀s',Inv X pins σ H' s'->Q () s'):
 wpAny (model X.prog X.w) A (setItem (.ref a) u r) Q E s:=by
 rcases g with ⟨kvs,k,e,ey,l,eH⟩|⟨kvs,k,b,e,ey,eb,l,eH⟩
 ·subst ey eH;obtain⟨z,hd,vs,rel,dd⟩:=Jnf I.hok e;have hz:vs.length<=sizeLine:=by rw[<- rel.length];exact z
  have hl:(UF kvs k v).length<=sizeLine:=by have:=UY kvs k v;omega
  refine wpAny_setItem_pairs (hsz:=hz) (Jc1 ry) dd fun h' dd' hs=>h _ ?_
  have he:∃q,h'.get? a=some q:=let ⟨q,_,_,hq,_⟩:=dd';⟨q,hq⟩
  exact Jbp I (by rw[e];exact True.intro) hs he (Jiy hl hd (rel.put k rv) dd')
 ·subst ey eH;cases (show u=Value.ref b from ry);obtain⟨z,hd,xs,rel,dd⟩:=JqA I.hok e;have hz:xs.length<=sizeLine:=by rw[<- M1 rel];exact z
  have hl:(UF kvs k v).length<=sizeLine:=by have:=UY kvs k v;omega
  refine wpAny_setItem_heap (hsz:=hz) (tupleKind_room_in1 hu) (JbJ I.hok eb) dd fun h' dd' hs=>h _ ?_
  obtain⟨q,es,ep,hq,h2,h3,h4,_,h5⟩:=dd';refine Jbp I (by rw[e];exact True.intro) hs ⟨q,hq⟩ ⟨hl,hd,_,(rel.put k eb rv).keeps fun c ys ec=>?_,q,es,ep,hq,h2,h3,h4,h5⟩;rw[Jh (Ja2 ec e (fun z=>nomatch z))];exact ec
noncomputable def JkR(i:Expr):Prop:=∀ov iv,subscripted i false ov iv=operate [ov,iv] (getItem ov iv)
theorem Jgy{prog:Program}{w:World}{A:Around}{E:Value->Shared->Prop}{s:Shared}{env:Env}{value slice:Expr}{pos:Pos}{T id:String}{Q:Value->Shared->Prop}
 (hl:typeLookup (.type T) "__getitem__"=pure (some (.builtin id))) (hs:JkR slice)
 (h:wpAny (model prog w) A (eval value env) (fun o s₁=>wpAny (model prog w) A (eval slice env) (fun i s₂=>s₂.TypeIs o T/\wpAny (model prog w) A (getItem o i) Q E s₂) E s₁) E s) :
 wpAny (model prog w) A (eval (.Subscript value slice pos) env) Q E s:=by
 refine Subscript_ (KU h (fun o s₁ h₁=>KU h₁ (fun i s₂ h₂=>?_) fun _ _ x=>x) fun _ _ x=>x);obtain⟨hT,h₂⟩:=h₂;unfold subscriptTail;refine Qa ?_;rw[getitemInPython_of_ne hT.not_modules];refine Qa (Kk hT hl ?_)
 have fin:wpAny (model prog w) A (subscripted slice false o i) (fun r s₃=>wpAny (model prog w) A (letTemporaryGo value o r >>= fun _=>pure r) Q E s₃) E s₂:=by rw[hs o i];exact wpAny_operating (KU h₂ (fun r s₃ h₃=>Qa (wpAny_letTemporaryGo (Qe h₃))) fun _ _ x=>x)
 first
  | exact Qe (Qa fin)
  | exact Qa (Qe (Qa fin))
  | exact Qa fin
theorem JcG{X:Cx}{pins:List (Addr×Obj)}{σ:St}{H:Hp}{s:Shared}{a:Addr}{y:V}{o:Option V}(I:Inv X pins σ H s)(g:JgS H a y o):s.TypeIs (.ref a) "dict":=by
 rcases g with ⟨kvs,k,e,_,_⟩|⟨kvs,k,b,e,_,_,_⟩
 ·obtain⟨_,_,vs,_,dd⟩:=JcH I.hok e;exact dd.typeIs
 ·obtain⟨_,_,xs,_,dd⟩:=Zt I.hok e;exact dd.typeIs
noncomputable def JnK(td ty:TE):TE:=fun σ H Q=>td σ H fun x H1=>ty σ H1 fun y H2=>∃a v,x=.ref a/\JgS H2 a y (some v)/\Q v H2
noncomputable def Jj9(td ty tv:TE):TS:=fun D σ H=>tv σ H fun v H1=>td σ H1 fun x H2=>ty σ H2 fun y H3=>∃a H4,x=.ref a/\Jqn H3 a y v H4/\D.nx σ H4
theorem Jgh(hu:X.A.units+1<cLine)(ho:PE X o td)(hi:PE X i ty)(hs:JkR i):PE X (.Subscript o i pos) (JnK td ty):=by intro pins s σ H Q I h;refine Jgy MS.lookup hs (thn (ho pins s σ H _ I h) fun u s1 ⟨x,H1,I1,rx,q1⟩=>thn (hi pins s1 σ H1 _ I1 q1) fun iv s2 ⟨y,H2,I2,ry,a,v,ex,g,q2⟩=>?_);subst ex;obtain rfl:u=Value.ref a:=rx;exact⟨JcG I2 g,Jg6 hu I2 g ry fun w' s3 I3 rw'=>⟨v,H2,I3,rw',q2⟩⟩
theorem Jb2(hu:X.A.units+1<cLine)(ho:PE X o td)(hi:PE X i ty)(hv:PE X value tv)(hs:swapsWith value (some (.Subscript o i pos')) pos.line X.env=pure false) :
 PS X (.Assign [.Subscript o i pos'] value pos) (Jj9 td ty tv):=by
 intro pins s σ H D I h;refine wpAny_Assign_Subscript (thn (hv pins s σ H _ I h) fun r s1 ⟨v,H1,I1,rv,q1⟩=>thn (ho pins s1 σ H1 _ I1 q1) fun u s2 ⟨x,H2,I2,rx,q2⟩=>thn (hi pins s2 σ H2 _ I2 q2) fun iv s3 ⟨y,H3,I3,ry,a,H4,ex,g,q3⟩=>?_) hs;subst ex;obtain rfl:u=Value.ref a:=rx;exact Jg7 hu I3 g ry rv fun s4 I4=>⟨σ,H4,I4,q3⟩
theorem Jiw(h:Heap)(hb:sysModules<h.objs.size):ObjOk P w H (h.push { cls:=.type "dict",data:=.dict #[] }) h.objs.size (.dK []) :=
 ⟨Gr _,beq_eq_false_iff_ne.mpr (QP (Qr hb)),[],.nil,Heap.DictOf.new h⟩
theorem JiA(h:Heap)(hb:sysModules<h.objs.size):ObjOk P w H (h.push { cls:=.type "dict",data:=.dict #[] }) h.objs.size (.dT []) :=
 ⟨Gr _,beq_eq_false_iff_ne.mpr (QP (Qr hb)),[],.nil,_,#[],0,Qi _ rfl,⟨rfl,rfl,rfl⟩,rfl,rfl,RM⟩
noncomputable def Jkq:TE:=fun _ H Q=>∀p,H p=none->Q (.ref p) (upd H p (.dK []))
noncomputable def Jkr:TE:=fun _ H Q=>∀p,H p=none->Q (.ref p) (upd H p (.dT []))
theorem Wa:PE X (.Dict [] [] pos) Jkq:=fun pins s σ H Q I h=>wpAny_Dict_empty ⟨.ref s.heap.objs.size,_,I.laid (a:=s.heap.objs.size) (o:=.dK []) (t':=s.toks) (fun _ _ q=>Qf _ q) (Qm _) (Jiw s.heap I.big),rfl,h _ (I.hok.fresh (Qm _))⟩
theorem JjA:PE X (.Dict [] [] pos) Jkr:=fun pins s σ H Q I h=>wpAny_Dict_empty ⟨.ref s.heap.objs.size,_,I.laid (a:=s.heap.objs.size) (o:=.dT []) (t':=s.toks) (fun _ _ q=>Qf _ q) (Qm _) (JiA s.heap I.big),rfl,h _ (I.hok.fresh (Qm _))⟩
structure M2 (X:Cx) (o:Expr) (m:Str) (apos:Pos) (e f:Expr) (cpos:Pos):Prop where
 base:attributeBase o m X.env (eval o X.env)=eval o X.env
 few:((backTo cpos (starEach [e,f] X.env)).all (fun x=>!x.1) && (backToKw cpos (keywordEach [] X.env)).all (fun x=>x.1.isSome)
  && decide (([e,f]:List Expr).length+([]:List Keyword).length+(if ([]:List Keyword).isEmpty then 0 else 1)<30))=true
 line:(apos.endLine == cpos.line)=true
 trees:backTo cpos (starEach [e,f] X.env)=[(false,eval e X.env),(false,eval f X.env)]
noncomputable def IsD(H:Hp)(a:Addr):Prop:=(∃kvs,Rd H a (.dK kvs))\/∃kvs,Rd H a (.dT kvs)
theorem ZI{X:Cx}{pins:List (Addr×Obj)}{σ:St}{H:Hp}{s:Shared}{a:Addr}(I:Inv X pins σ H s)(d:IsD H a) :
 s.TypeIs (.ref a) "dict"/\(∀b,Value.ref a=.ref b->∃ob,s.heap.get? b=some ob/\ob.dict=none)/\(a == sysModules)=false:=by
 rcases d with ⟨kvs,e⟩|⟨kvs,e⟩
 ·obtain⟨_,hd,vs,_,dd⟩:=JcH I.hok e;refine⟨dd.typeIs,fun b q=>?_,hd⟩;cases q;obtain⟨ob,_,_,h1,h2,_⟩:=dd;exact⟨ob,h1,h2.2.1⟩
 ·obtain⟨_,hd,xs,_,dd⟩:=Zt I.hok e;refine⟨dd.typeIs,fun b q=>?_,hd⟩;cases q;obtain⟨ob,_,_,h1,h2,_⟩:=dd;exact⟨ob,h1,h2.2.1⟩
theorem Jn5(hu:A.units+1<cLine)(I:Inv X pins σ H s)(g:JgS H a y o)(ry:RelV y u)(rd:RelV d r)(h:∀w' s',Inv X pins σ H s'->RelV (o.getD d) w'->Q w' s'):
 wpAny (model X.prog X.w) A (call (.builtin "dict.get") [.ref a,u,r]) Q E s:=by
 rcases g with ⟨kvs,k,e,ey,l⟩|⟨kvs,k,b,e,ey,eb,l⟩
 ·subst ey;obtain⟨z,hd,vs,rel,dd⟩:=JcH I.hok e;refine call_meetsIn Md dd.typeIs Rs (Re _ _ _) (meets_dict_get_default (JA X.prog X.w) a (Jc1 ry) hd r) ⟨_,dd.mapOf,h _ _ (I.tok _) ?_⟩;rw[l];exact(rel.val k).getD rd
 ·subst ey;cases (show u=Value.ref b from ry);obtain⟨z,hd,xs,rel,dd⟩:=Zt I.hok e;refine call_meetsIn Md dd.typeIs Rs (Re _ _ _) (meetsH_dict_get_default (tupleKind (JA X.prog X.w)) a b hd r) ⟨tupleKind_room_in1 hu,k,xs,JbJ I.hok eb,dd,h _ _ (I.tok _) ?_⟩;rw[l];exact(rel.val k).getD rd
noncomputable def Jfi(td ty tx:TE):TE:=fun σ H Q=>td σ H fun x H1=>∃a,x=.ref a/\IsD H1 a/\ty σ H1 fun y H2=>tx σ H2 fun z H3=>∃o,JgS H3 a y o/\Q (o.getD z) H3
theorem Jdq(hu:X.A.units+1<cLine)(ho:PE X o td)(he:PE X e ty)(hf:PE X f tx)(m:M2 X o "get" apos e f cpos):PE X (.Call (.Attribute o "get" apos) [e,f] [] cpos) (Jfi td ty tx):=by
 intro pins s σ H Q I h;refine wpAny_Call_method m.base m.few m.line Kx Md PySem.F.type_dict_get (thn (ho pins s σ H _ I h) fun u s1 ⟨x,H1,I1,rx,a,ex,d,q1⟩=>?_);subst ex;obtain rfl:u=Value.ref a:=rx;obtain⟨t1,t2,_⟩:=ZI I1 d;refine⟨t1,t2,?_⟩;rw[m.trees];refine G4 rfl (Mi (Ko (thn (he pins s1 σ H1 _ I1 q1) fun iv s2 ⟨y,H2,I2,ry,q2⟩=>Ko (thn (hf pins s2 σ H2 _ I2 q2) fun fv s3 ⟨z,H3,I3,rz,ov,g,q3⟩=>Lv ?_))))
 exact Jn5 hu I3 g ry rz fun w' s4 I4 rw'=>⟨_,H3,I4,rw',q3⟩
noncomputable def Jh1(X:Cx)(ifs:List Expr)(t:TT):Prop :=
 ∀(pins:List (Addr×Obj)) (s:Shared) (σ:St) (H:Hp) (Q:Bool->Hp->Prop),Inv X pins σ H s->t σ H Q ->
  wpAny (model X.prog X.w) X.A (forIn ifs true fun c r=>if r=true then do let ok <- isTrue c X.env (eval c X.env);pure (ForInStep.yield ok) else pure (ForInStep.yield r)) (TP X pins σ Q) X.xe s
noncomputable def Jp9:TT:=fun _ H Q=>Q true H
theorem JG:Jh1 X [] Jp9:=fun _ _ _ H _ I h=>wpAny_tests_nil ⟨H,I,h⟩
theorem Jdv(h:PT X c t):Jh1 X [c] t:=fun pins s σ H Q I q=>wpAny_tests_one (h pins s σ H Q I q)
noncomputable def blk(X:Cx)(sc:Scope)(cl:List (Str×Addr))(N':List Str)(C:Addr)(s:Shared)(H:Hp)(fp:List Addr):Cx where
 prog:=X.prog
 w:=X.w
 K:=X.K
 mg:=X.mg
 base:=X.base
 A:=X.A
 N:=N'
 s₀:=s
 H₀:=H
 env:=compEnvC sc cl C X.env
 outer:=X.stack
 stack:=X.stack
 ex:=fp
 fn:=fun _=>false
 calm:=X.calm
 pn:=[]
 xe:=fun _ _=>False
noncomputable def ZE(imp:List (Option Nat))(σ:St):St:=imp.map fun o=>match o with
 | none=>none
 | some k=>(σ[k]?).join
structure Blk (X:Cx) (sc:Scope) (cl:List (Str×Addr)) (N':List Str) (imp:List (Option Nat)):Prop where
 clos:closureFor sc X.env=pure cl
 kind:sc.kind=.function
 nocell:∀y∈sc.names,y.2≠.cell
 names:∀y∈sc.names,y.2=.local->sc.names.lookup y.1=some .local
 sub:∀p∈cl,X.env.cells.lookup p.1=some p.2
 has:∀y∈(relabel sc X.env).names,(y.2=.cell\/y.2=.free)->(cl.lookup y.1).isSome=true
 len:imp.length=N'.length
 im:∀p∈imp.zip N',∀k,p.1=some k->X.N[k]?=some p.2/\(X.env.scope.names.lookup p.2=some .cell\/X.env.scope.names.lookup p.2=some .free)/\((relabel sc X.env).names.lookup p.2=some .cell\/(relabel sc X.env).names.lookup p.2=some .free)
noncomputable def JgD(wi:TI)(g:TG)(tt:TT)(te:TE)(imp:List (Option Nat)):TE:=fun σ H Q=>wi σ H fun J H1=>∃W:Nat->Nat->List V->St->Hp->Prop,(∃m,W 0 m [] (ZE imp σ) H1)/\∀i m ys σ' H',W i m ys σ' H' ->
 (J.stop i H'/\ys.length<=sizeLine/\∀D,H' D=none->Q (.ref D) (upd H' D (.lst ys))) ∨
 (J.go i H'/\ys.length<sizeLine/\∃N:List V->St->Hp->Prop,(∀ys' σ2 H2,N ys' σ2 H2->∃m',m'<m/\W (i+1) m' ys' σ2 H2) ∧
  ∀x H2,J.yld i H' x H2->g x σ' H2 fun σ2 H3=>tt σ2 H3 fun b H4=>if b=true then te σ2 H4 fun y H5=>N (ys++[y]) σ2 H5 else N ys σ2 H4)
theorem HOk.sameBut{C:Addr}(x:HOk P w H h)(hC:H C=none)(k:∀b o,b≠C->h.get? b=some o->h'.get? b=some o):HOk P w H h':=fun a o e =>
 (x a o e).stay (fun b u hb q=>k b u (by
  rintro rfl;rcases hb with z|z
  ·rw[<- z,hC] at e;cases e
  ·rw[hC] at z;cases z) q) (fun _ q=>q) fun _ _ q=>q
theorem HOk.track(x:HOk P w H h)(hD:H D=none)(new:ObjOk P w (upd H D o) h D o):HOk P w (upd H D o) h:=fun b u e=>by
 by_cases hb:b=D
 ·subst hb;rw[Jk] at e;cases e;exact new
 ·rw[Jh hb] at e;exact(x b u e).stay (fun c v _ q=>q) (fun c q=>by rw[Jh (Jo q hD)];exact q) fun c xs q=>by rw[Jh (Jo q hD)];exact q
theorem VB{α:Type}{c:α}:∀{l:List (Str×α)},l.lookup x=some c->(x,c)∈l:=fun h=>KD h
theorem Blk.subL(B:Blk X sc cl N' imp):∀x c,cl.lookup x=some c->X.env.cells.lookup x=some c:=fun x c e=>B.sub (x,c) (VB e)
theorem JkZ(B:Blk X sc cl N' imp)(I:Inv X pins σ H s)(hf:∀b∈fp,FpOk X pins H b)(hfo:∀b∈fp,∃o,s.heap.get? b=some o)(hC:s.heap.objs.size<C)(old:∀b o,s.heap.get? b=some o->h₁.get? b=some o)(ns:h₁.Ns C fun _=>none):
 Inv (blk X sc cl N' C s H fp) [] (ZE imp σ) H { s with heap:=h₁,toks:=s.toks }:=by
 have hlt:∀b∈fp,b<s.heap.objs.size:=fun b hb=>let ⟨_,e⟩:=hfo b hb;Qj e
 have clt:∀x c,X.env.cells.lookup x=some c->c<s.heap.objs.size:=fun x c e=>let ⟨_,q⟩:=I.cell x c e;q.lt
 have ok:(blk X sc cl N' C s H fp).Ok:={
  mod:=I.ok.mod
  kind:=B.kind
  glob:=I.ok.glob
  blt:=I.ok.blt
  above:=GX hC
  inj:=fun x y c h1 h2=>I.ok.inj x y c (B.subL x c h1) (B.subL y c h2)
  has:=fun x hx=>by
   have hx':(relabel sc X.env).names.lookup x=some .cell\/(relabel sc X.env).names.lookup x=some .free:=hx
   have:(cl.lookup x).isSome=true:=by
    rcases hx' with z|z
    ·exact B.has (x,.cell) (VB z) (.inl rfl)
    ·exact B.has (x,.free) (VB z) (.inr rfl)
   exact M3.mp this
  cab:=fun x c z=>nomatch z
  hd:=I.ok.hd
  frames:=I.ok.frames
  stk:=.inl rfl
  exf:=fun b hb=>⟨Qr (GY (hlt b hb) hC),fun x c e=>(hf b hb).2.2.2.2.1 x c (B.subL x c e)⟩
  bs:=I.bs
  bsz:=Gz I.ok.bsz I.sz
  noex:=fun b o e hb=>by
   rcases(hf b hb).2.2.2.1 with z|z
   ·exact I.ok.noex b o e z
   ·exact absurd (Q2 (Qj e) (Gz I.ok.bsz z)) (Q8 _)
  exfs:=fun b hb z=>by
   rcases Qh.mp (I.stkSub b z) with q|q
   ·exact(hf b hb).2.1 q
   ·exact(hf b hb).2.2.1 q
  funs:=I.stack
  frf:=I.stkFree }
 refine⟨ok,rfl,I.bare,Un.kept old,⟨_,ns,fun i x v h1 h2 h3=>?_⟩,fun x c e=>?_,I.hok.fresh (GX hC),fun x c e=>I.freeC x c (B.subL x c e),fun p hp=>absurd (show p∈([]:List (Addr×Obj)) from hp) (by simp),I.hok.kept old,?_⟩
 ·have h1':N'[i]?=some x:=h1
  have h2':(imp.map fun o=>match o with|none=>none|some k=>(σ[k]?).join)[i]?=some (some v):=h2;rw[Qp] at h2'
  cases e:imp[i]? with
  | none=>rw[e] at h2';cases h2'
  | some q =>
   rw[e] at h2'
   cases q with
   | none=>cases h2'
   | some k =>
    have h2'':(σ[k]?).join=some v:=QK h2'
    have hk:σ[k]?=some (some v):=by
     cases e':σ[k]? with
     | none=>rw[e'] at h2'';cases h2''
     | some z=>rw[e'] at h2'';cases z with
      | none=>cases h2''
      | some z=>cases h2'';rfl
    have hm:(some k,x)∈imp.zip N':=by refine QG (i:=i) ?_;rw[LI];exact⟨e,h1'⟩
    obtain⟨b1,b2,b3⟩:=B.im _ hm k rfl;obtain⟨m,hn,hl⟩:=I.loc;obtain⟨u,r,l⟩:=hl k x v b1 hk (b2.elim (fun z=>.inr (.inl z)) fun z=>.inr (.inr z));refine⟨u,r,.inr ⟨b3,?_⟩⟩
    have hc:∃c,X.env.cells.lookup x=some c/\s.heap.IsCell c (some u):=by
     rcases l with ⟨z,_⟩|⟨_,z⟩
     ·have z':X.env.scope.names.lookup x=some .local:=z;rcases b2 with y|y <;> rw[y] at z' <;> cases z'
     ·exact z
    obtain⟨c,hc,oc,ho,hd⟩:=hc;obtain⟨c',hc'⟩:=ok.has x b3;have e2:=B.subL x c' hc';rw[hc] at e2;cases e2;exact⟨c,hc',oc,old c oc ho,hd⟩
 ·obtain⟨v,o,ho,hd⟩:=I.cell x c (B.subL x c e);exact⟨v,o,old c o ho,hd⟩
 ·show(imp.map _).length=N'.length;rw[Qk];exact B.len
theorem JkY{pins pn:List (Addr×Obj)}{σ σ':St}{H2 H':Hp}{s2 s4:Shared}{fp:List Addr}{C D:Addr}{Cs:Addr}{ys:List V}{its:List Value}{k:Nat}{h':Heap}(I2:Inv X pins σ H2 s2)(f2:∀b∈fp,FpOk X pins H2 b)
 (I5:Inv (blk X sc cl N' C s2 H2 fp) pn σ' H' s4) (hC:s2.heap.objs.size<C) (hD:H' D=none) (hDs:s2.heap.objs.size<=D) (hDC:D≠C) (eD:s4.heap.get? D=some { cls:=.type "list",data:=.seq its.toArray k })
 (rv:Vals ys its) (hz:ys.length<=sizeLine) (hsb:QA C s4.heap h'):Inv X pins σ (upd H' D (.lst ys)) { s4 with heap:=h' }:=by
 have U:Un (frs X.stack) fp H2 H' s2.heap s4.heap:=I5.base
 have kk:∀b o,b≠C->s4.heap.get? b=some o->h'.get? b=some o:=hsb.extBut
 have hC':H' C=none:=I5.free
 have ok1:HOk X.prog X.w H' h':=HOk.sameBut (C:=C) I5.hok hC' kk
 have ok2:HOk X.prog X.w (upd H' D (.lst ys)) h':=ok1.track hD ⟨hz,its,k,rv,kk _ _ hDC eD⟩
 have lt:∀b o,s2.heap.get? b=some o->b≠C/\b≠D:=fun b o e=>⟨Qr (GY (Qj e) hC),Qr (Q2 (Qj e) hDs)⟩
 refine I2.call' (s':={ s4 with heap:=h' }) (ch:=fp) I5.os ⟨fun b o e n hb hx=>kk b o (lt b o e).1 (U.keep b o e n hb hx),fun b o e n hb hx=>?_,fun b o e n hx=>?_,fun b o e hx=>?_,fun b xs e=>?_,fun b o u e=>?_,fun b ps e=>?_⟩ ok2 I5.bare
  fun b hb=>⟨(f2 b hb).2.2.2.1,(f2 b hb).2.1,(f2 b hb).2.2.2.2.1,(f2 b hb).2.2.2.2.2⟩
 ·obtain⟨sl,q⟩:=U.slot b o e n hb hx;exact⟨sl,kk b _ (lt b o e).1 q⟩
 ·rw[Jh (lt b o e).2];exact U.free b o e n hx
 ·obtain⟨o',q⟩:=U.there b o e hx;exact⟨o',kk b o' (lt b o e).1 q⟩
 ·have q:=U.tups b xs e;rw[Jh (Jo q hD)];exact q
 ·have q:=U.frzs b o u e;rw[Jh (Jo q hD)];exact q
 ·obtain⟨more,q⟩:=U.tbls b ps e;exact⟨more,by rw[Jh (Jo q hD)];exact q⟩
noncomputable def Jqm(g:TG)(tt:TT)(te:TE)(imp:List (Option Nat))(σ:St)(Q:VK)(J:It)(H1:Hp):Prop:=∃W:Nat->Nat->List V->St->Hp->Prop,(∃m,W 0 m [] (ZE imp σ) H1)/\∀i m ys σ' H',W i m ys σ' H' ->
 (J.stop i H'/\ys.length<=sizeLine/\∀D,H' D=none->Q (.ref D) (upd H' D (.lst ys))) ∨
 (J.go i H'/\ys.length<sizeLine/\∃N:List V->St->Hp->Prop,(∀ys' σ2 H2,N ys' σ2 H2->∃m',m'<m/\W (i+1) m' ys' σ2 H2) ∧
  ∀x H2,J.yld i H' x H2->g x σ' H2 fun σ2 H3=>tt σ2 H3 fun b H4=>if b=true then te σ2 H4 fun y H5=>N (ys++[y]) σ2 H5 else N ys σ2 H4)
theorem JaP{pins:List (Addr×Obj)}{σ:St}{Q:VK}{itv:Value}{s2:Shared}{RR:Value->Addr->Result->Shared->Prop}{E:Value->Shared->Prop}(hc:X.calm=true)(B:Blk X sc cl N' imp)
 (hg:∀C s H fp,PG (blk X sc cl N' C s H fp) tg g) (ht:∀C s H fp,Jh1 (blk X sc cl N' C s H fp) ifs tt) (he:∀C s H fp,PE (blk X sc cl N' C s H fp) elt te)
 (h2:PIE X pins σ tg (Jqm g tt te imp σ Q) itv s2)
 (fin:∀(C D:Addr) (s4:Shared) (H':Hp) (ys:List V) (m:Str->Option Value),s2.heap.objs.size<C->s4.heap.Ns C m->H' C=none->(∀h',QA C s4.heap h'->Inv X pins σ H' { s4 with heap:=h' })->Q (.ref D) H'->RR (.ref D) C (.ok .next) s4) :
 wpAny (model X.prog X.w) X.A (newList []) (fun acc s₃=>wpAny (model X.prog X.w) X.A (newFunctionEnv sc X.env.globals cl [] X.env.qual none .none (some X.env)) (fun cenv s₄=>codeAny (model X.prog X.w) X.A (.compStart (.ListComp elt [⟨tg,iter,ifs,0⟩] sc pos) 0 itv acc { cenv with scope:=relabel sc X.env }) (RR acc cenv.locals) s₄) E s₃) E s2:=by
 obtain⟨it,fp,tn,J,H2,e,I2,T,st2,f2,W,⟨m0,w0⟩,turn⟩:=h2;subst e;refine QQ (wpAny_newFunctionEnv B.nocell (by intro y hy;simp at hy) (fun h₁ hns₁ hsb₁=>?_) B.kind);dsimp only at hns₁ hsb₁ ⊢
 generalize hG:s2.heap.push { cls:=.type "list",dict:=none,data:=.seq ([]:List Value).toArray }=G at hns₁ hsb₁ ⊢
 have hCs:G.objs.size=s2.heap.objs.size+1:=by rw[<- hG,Gg]
 have hC:s2.heap.objs.size<G.objs.size:=by rw[hCs];exact GJ _
 have below:∀b,b<s2.heap.objs.size->b≠G.objs.size:=fun b hb=>Qr (GY hb hC)
 have old:∀b o,s2.heap.get? b=some o->h₁.get? b=some o:=fun b o e=>hsb₁.extBut b o (below b (Qj e)) (Qf _ (hG▸Qf _ e))
 have hD1:h₁.get? s2.heap.objs.size=some { cls:=.type "list",data:=.seq ([]:List Value).toArray }:=hsb₁.extBut _ _ (Qr hC) (Qf _ (hG▸Qi _ rfl))
 have fpo:∀b∈fp,∃o,s2.heap.get? b=some o:=fun b hb=>let ⟨o,e,_⟩:=T.obj 0 _ st2 b hb;⟨o,e⟩
 have I4:=JkZ B I2 f2 fpo hC old (show h₁.Ns G.objs.size fun _=>none from hns₁)
 -- the records of the block: the list that grows,the iterator's
 have stD:∀{H':Hp} {pn:List (Addr×Obj)},(∀b∈s2.heap.objs.size::fp,H' b=none)->(∀p∈pn,p.1∉s2.heap.objs.size::fp)->∀b∈s2.heap.objs.size::fp,FpOk (blk X sc cl N' G.objs.size s2 H2 fp) pn H' b:=fun {H' pn} hn hp b hb=>by
  have hp':∀p∈([]++pn:List (Addr×Obj)),p.1≠b:=fun p z q=>hp p (by simpa using z) (q▸hb)
  rcases Qh.mp hb with z|z
  ·subst z;refine⟨hn _ hb,Qr hC,fun q=>?_,.inr (Qm _),fun x c e q=>?_,hp'⟩
   ·rcases Qh.mp (I2.stkSub _ q) with q|q
    ·exact absurd I2.lt (by rw[<- q];exact Q8 _)
    ·exact I2.nofs (Qm _) q
   ·obtain⟨v,qc⟩:=I2.cell x c (B.subL x c e);exact absurd qc.lt (by rw[q];exact Q8 _)
  ·refine⟨hn _ hb,below b (let ⟨_,e⟩:=fpo b z;Qj e),fun q=>?_,.inl z,fun x c e=>(f2 b z).2.2.2.2.1 x c (B.subL x c e),hp'⟩;rcases Qh.mp (I2.stkSub b q) with q|q
   ·exact(f2 b z).2.1 q
   ·exact(f2 b z).2.2.1 q
 have nDf:s2.heap.objs.size∉fp:=fun z=>let ⟨_,e⟩:=fpo _ z;absurd (Qj e) (Q8 _)
 have loop:codeAny (model X.prog X.w) X.A (.compLoop (.ListComp elt [⟨tg,iter,ifs,0⟩] sc pos) 0 (.ref it) (.ref s2.heap.objs.size) (compEnvC sc cl G.objs.size X.env))
  (RR (.ref s2.heap.objs.size) G.objs.size) { s2 with heap:=h₁,toks:=s2.toks }:=by
  refine codeAny_loop rfl (fun n s'=>∃i ys its k σ' H',Inv (blk X sc cl N' G.objs.size s2 H2 fp) [] σ' H' s'/\tn i s'.heap/\(∀b∈s2.heap.objs.size::fp,H' b=none)/\Vals ys its/\s'.heap.get? s2.heap.objs.size=some { cls:=.type "list",data:=.seq its.toArray k }/\W i n ys σ' H') ?_ m0
   ⟨0,[],[],0,_,H2,I4,T.keep _ _ _ st2 (fun b _ o e=>old b o e),fun b hb=>?_,.nil,hD1,w0⟩
  ·rintro n s3 ⟨i,ys,its,k,σ3,H3,I3,st3,fr3,rv3,hD3,w3⟩;have fr3':∀b∈fp,FpOk (blk X sc cl N' G.objs.size s2 H2 fp) [] H3 b:=fun b hb=>stD (pn:=[]) fr3 (fun p z=>nomatch z) b (Qc _ hb)
   show wpAny _ X.A ((compTurn (.ListComp elt [⟨tg,iter,ifs,0⟩] sc pos) 0 (.ref it) (.ref s2.heap.objs.size) (compEnvC sc cl G.objs.size X.env)).onRaise (fun x=>do noteFrame x (compEnvC sc cl G.objs.size X.env);theTreesLotGoes x)) _ _ s3;refine wpAny_noted (wpAny_noRaise ?_);rw[compTurn_list];refine Qa (wpAny_standAt (Qa ?_))
   have fD:=stD (pn:=[]) fr3 (fun p z=>nomatch z) s2.heap.objs.size Qd
   have hDH:H3 s2.heap.objs.size=none:=fr3 _ Qd
   have I3p:Inv (blk X sc cl N' G.objs.size s2 H2 fp) [(s2.heap.objs.size,{ cls:=.type "list",data:=.seq its.toArray k })] σ3 H3 s3:=I3.pins_of fun p hp=>by
    have e:p=(s2.heap.objs.size,{ cls:=.type "list",data:=.seq its.toArray k }):=by simpa using hp
    subst e;exact⟨hD3,hDH,fD.2.1,fD.2.2.1,fun v z=>by cases z⟩
   have pfp:∀p∈[(s2.heap.objs.size,({ cls:=.type "list",data:=.seq its.toArray k }:Obj))],p.1∉fp:=fun p hp=>by
    have e:p=(s2.heap.objs.size,{ cls:=.type "list",data:=.seq its.toArray k }):=by simpa using hp
    subst e;exact nDf
   have fpP:∀{H':Hp},(∀b∈fp,H' b=none)->∀b∈fp,FpOk (blk X sc cl N' G.objs.size s2 H2 fp) [(s2.heap.objs.size,({ cls:=.type "list",data:=.seq its.toArray k }:Obj))] H' b:=fun {H'} hn b hb =>
    have f:=stD (pn:=[]) fr3 (fun p z=>nomatch z) b (Qc _ hb)
    ⟨hn b hb,f.2.1,f.2.2.1,f.2.2.2.1,f.2.2.2.2.1,fun p hp q=>pfp p ((Gd.mp hp).elim (fun z=>nomatch (show p∈([]:List (Addr×Obj)) from z)) id) (q▸hb)⟩
   rcases turn i n ys σ3 H3 w3 with ⟨stop,hz,q⟩|⟨go,hz,N,hN,step⟩
   ·refine thn (T.done (blk X sc cl N' G.objs.size s2 H2 fp) rfl rfl rfl hc i _ s3 σ3 H3 _ I3p (fpP fun b hb=>fr3 b (Qc _ hb)) st3 stop) fun r s4 ⟨hr,I5⟩=>?_
    subst hr;refine Qe ?_;obtain⟨m,hn,_⟩:=I5.loc;have eD:=(I5.pin (s2.heap.objs.size,{ cls:=.type "list",data:=.seq its.toArray k }) (by simp)).1;have hCf:H3 G.objs.size=none:=I5.free;exact fin G.objs.size s2.heap.objs.size s4 _ ys m hC hn (by rw[Jh (QY hC)];exact hCf) (fun h' hsb=>JkY (Cs:=0) I2 f2 I5 hC hDH (Qm _) (Qr hC) eD rv3 hz hsb) (q _ hDH)
   ·refine thn (T.item (blk X sc cl N' G.objs.size s2 H2 fp) rfl rfl rfl hc i _ s3 σ3 H3 _ I3p (fpP fun b hb=>fr3 b (Qc _ hb)) st3 go) fun r s4 ⟨u,hr,h4⟩=>?_
    subst hr;refine Qa (thn h4 fun _ s5 ⟨x,H5,I5,r5,y5,st5,fr5⟩=>?_);have I5':=I5.pinned (fpP fr5) (T.obj _ _ st5);refine Qa (thn (hg G.objs.size s2 H2 fp _ s5 σ3 H5 x u _ I5' r5 (step x H5 y5)) fun _ s6 ⟨σ6,H6,I6,q6⟩=>?_);refine Qa (thn (ht G.objs.size s2 H2 fp _ s6 σ6 H6 _ I6 q6) fun ok s7 ⟨H7,I7,q7⟩=>?_)
    -- what stays of the records
    have recs:∀{σ':St} {H':Hp} {s':Shared},Inv (blk X sc cl N' G.objs.size s2 H2 fp) ([(s2.heap.objs.size,({ cls:=.type "list",data:=.seq its.toArray k }:Obj))]++Z0 fp s5.heap) σ' H' s' ->
     tn (i+1) s'.heap/\(∀b∈s2.heap.objs.size::fp,H' b=none)/\s'.heap.get? s2.heap.objs.size=some { cls:=.type "list",data:=.seq its.toArray k }:=fun {σ' H' s'} I'=>by
     have pd:=I'.pin (s2.heap.objs.size,{ cls:=.type "list",data:=.seq its.toArray k }) (by simp)
     have pf:∀b∈fp,∀o,s5.heap.get? b=some o->s'.heap.get? b=some o/\H' b=none:=fun b hb o e=>by have z:=I'.pin (b,o) (GI _ (GI _ (VD hb e)));exact⟨z.1,z.2.1⟩
     refine⟨T.keep _ _ _ st5 fun b hb o e=>(pf b hb o e).1,fun b hb=>?_,pd.1⟩;rcases Qh.mp hb with z|z
     ·subst z;exact pd.2.1
     ·obtain⟨o,e,d⟩:=T.obj _ _ st5 b z;exact(pf b z o e).2
    cases ok with
    | false=>obtain⟨m',hm,w7⟩:=hN _ _ _ (show N ys σ6 H7 from by simpa using q7);obtain⟨r1,r2,r3⟩:=recs I7;exact Qe ⟨rfl,m',hm,i+1,ys,its,k,σ6,H7,I7.pins_of (fun p hp=>nomatch hp),r1,r2,rv3,r3,w7⟩
    | true =>
     have q7':te σ6 H7 fun y H5=>N (ys++[y]) σ6 H5:=by simpa using q7
     refine Qa (Qa (thn (he G.objs.size s2 H2 fp _ s7 σ6 H7 _ I7 q7') fun y s8 ⟨y8,H8,I8,ry,q8⟩=>Qa ?_));obtain⟨r1,r2,r3⟩:=recs I8;have hl:=rv3.length;refine wpAny_list_append_plain (hsz:=by rw[Qo];omega) ⟨k,r3⟩ fun h9 ⟨k9,hl9⟩ hs9=>Qe (Qe ?_)
     have hD8:H8 s2.heap.objs.size=none:=r2 _ Qd
     have f8:=stD (pn:=[]) r2 (fun p z=>nomatch z) s2.heap.objs.size Qd
     have I8':Inv (blk X sc cl N' G.objs.size s2 H2 fp) [] σ6 H8 s8:=I8.pins_of (fun p hp=>nomatch hp)
     have I9:Inv (blk X sc cl N' G.objs.size s2 H2 fp) [] σ6 H8 { s8 with heap:=h9 }:=I8'.turned (t':=s8.toks) (it:=s2.heap.objs.size) (fun b o hb e=>hs9.extBut b o hb e) hD8 f8.2.1 f8.2.2.2.1 f8.2.2.2.2.1 f8.2.2.2.2.2;obtain⟨m',hm,w8⟩:=hN _ _ _ q8;refine⟨rfl,m',hm,i+1,ys++[y8],its++[y],k9,σ6,H8,I9,?_,r2,rv3.append (.cons ry .nil),?_,w8⟩
     ·exact T.keep _ _ _ r1 fun b hb o e=>hs9.extBut b o (fun z=>nDf (z▸hb)) e
     ·rw[hl9];simp
  ·rcases Qh.mp hb with z|z
   ·subst z;exact I2.hok.fresh (Qm _)
   ·exact(f2 b z).1
 exact codeAny_compStart_list loop (T.self _ 0 _ _ _ (T.keep _ _ _ st2 fun b _ o e=>old b o e) loop)
theorem JY(hc:X.calm=true)(hi:PI X tg iter wi)(B:Blk X sc cl N' imp)
 (hg:∀C s H fp,PG (blk X sc cl N' C s H fp) tg g) (ht:∀C s H fp,Jh1 (blk X sc cl N' C s H fp) ifs tt) (he:∀C s H fp,PE (blk X sc cl N' C s H fp) elt te)
 (hs:∀x,foldedSetIterable iter X.env x=pure x:=by intro _;rfl):PE X (.ListComp elt [⟨tg,iter,ifs,0⟩] sc pos) (JgD wi g tt te imp):=by
 intro pins s σ H Q I h;rw[eval_ListComp];refine wpAny_comprehension_free (use:=none) rfl hs B.clos B.kind B.names (thn (hi pins s σ H _ I h) fun v s1 h1=>thn h1 fun itv s2 h2=>?_);refine JaP (RR:=fun acc C=>compPost (model X.prog X.w) X.A X.xe none (EP X pins σ Q) acc C) hc B hg ht he h2 fun C D s4 H' ys m hC hn hCf hI q=>?_
 exact⟨m,hn,fun h' hsb=>⟨.ref D,H',hI h' hsb,rfl,q⟩⟩
theorem Z3{i:Nat}{x:Str}{pos' spos:Pos}(hN:X.N.Nodup)(hx1:X.N[i]?=some x)(hx2:Loc X.env.scope x)(hc:X.calm=true)(hi:PI X tg iter wi)(B:Blk X sc cl N' imp)
 (hg:∀C s H fp,PG (blk X sc cl N' C s H fp) tg g) (ht:∀C s H fp,Jh1 (blk X sc cl N' C s H fp) ifs tt) (he:∀C s H fp,PE (blk X sc cl N' C s H fp) elt te)
 (hsw:swapsWith (.ListComp elt [⟨tg,iter,ifs,0⟩] sc pos) (some (.Name x pos')) spos.line X.env=pure true) (hf:X.fn x=true\/X.env.scope.names.lookup x=some .local)
 (hs:∀x,foldedSetIterable iter X.env x=pure x:=by intro _;rfl):PS X (.Assign [.Name x pos'] (.ListComp elt [⟨tg,iter,ifs,0⟩] sc pos) spos) (Jfh (JgD wi g tt te imp) (UU i)):=by
 intro pins s σ H D I h;rw[exec_Assign_Name_used _ _ _ _ hsw];refine Qa (wpAny_standAt (Qa ?_));show wpAny _ X.A (do let _ <- comprehension (.ListComp elt [⟨tg,iter,ifs,0⟩] sc pos) sc X.env _ (newList []) false (eval iter X.env) (some (assign (.Name x pos') X.env))) _ _ s;refine Qa (KU (wpAny_comprehension_free (use:=some (assign (.Name x pos') X.env)) (Q:=fun _ s'=>SP X pins D .next s') rfl hs B.clos B.kind B.names
  (thn (hi pins s σ H _ I h) fun v s1 h1=>thn h1 fun itv s2 h2=>?_)) (fun _ s' hq=>Qe (Qe hq)) fun _ _ e=>e)
 refine JaP (Q:=fun y H1=>UU i y σ H1 D.nx) (RR:=fun acc C=>compPost (model X.prog X.w) X.A X.xe (some (assign (.Name x pos') X.env)) (fun _ s'=>SP X pins D .next s') acc C) hc B hg ht he h2 fun C Dl s4 H' ys m hC hn hCf hI q=>?_
 obtain⟨it,fp,tn,J,H2,e,I2,_⟩:=h2;have I4:Inv X pins σ H' s4:=hI s4.heap (.refl ..);have neC:X.env.locals≠C:=Qr (GY I2.lt hC)
 have neCc:∀y c,X.env.cells.lookup y=some c->c≠C:=fun y c e=>by obtain⟨v,qc⟩:=I2.cell y c e;exact Qr (GY qc.lt hC)
 show wpAny _ X.A (assign (.Name x pos') X.env (.ref Dl)) _ _ s4;refine wpAny_assign_Name (Jba I4 hN hx1 hx2 (v:=.ref Dl) rfl (fun s5 I5 ⟨c0,hs5,hc0⟩=>?_) hf)
 have ne0:C≠c0:=by
  rcases hc0 with z|z
  ·rw[z];exact QP neC
  ·exact QP (neCc _ _ z)
 refine⟨m,hn.sameBut hs5 ne0,fun h' hsb=>⟨_,H',?_,q⟩⟩;refine I5.turned (t':=s5.toks) (it:=C) (fun b o hb e=>hsb.extBut b o hb e) hCf (QP neC) (.inr (GX (Ke I2.sz hC))) neCc fun p hp z=>?_
 have:=Qj (I2.pin p hp).1;rw[z] at this;exact absurd (GY this hC) (Q8 _)
inductive Rep (K:Frag) (H:Hp):V->PyData->Prop
 | non:Rep K H .non .none
 | bl (b:Bool):Rep K H (.bl b) (.bool b)
 | int (i:Int):Rep K H (.int i) (.int i)
 | str (x:Str):Rep K H (.str x) (.str x)
 | tup {a:Addr} {xs:List V} {ds:List PyData}:SqT K H a xs->xs.length=ds.length->(∀(i:Nat) (x:V) (d:PyData),xs[i]?=some x->ds[i]?=some d->Rep K H x d)->Rep K H (.ref a) (.tuple ds)
 | lst {a:Addr} {xs:List V} {ds:List PyData}:SqL K H a xs->xs.length=ds.length->(∀(i:Nat) (x:V) (d:PyData),xs[i]?=some x->ds[i]?=some d->Rep K H x d)->Rep K H (.ref a) (.list ds)
noncomputable def RepL(K:Frag)(H:Hp)(xs:List V)(ds:List PyData):Prop :=
 xs.length=ds.length/\∀(i:Nat) (x:V) (d:PyData),xs[i]?=some x->ds[i]?=some d->Rep K H x d
section
variable{K:Frag}{H H':Hp}
theorem RepL.nil:RepL K H [] []:=⟨rfl,fun i x d e=>by simp at e⟩
theorem RepL.cons(h:Rep K H x d)(r:RepL K H xs ds):RepL K H (x::xs) (d::ds):=by
 refine⟨by simp[r.1],fun i y e h1 h2=>?_⟩
 cases i with
 | zero=>simp at h1 h2;subst h1 h2;exact h
 | succ i=>exact r.2 i y e (by simpa using h1) (by simpa using h2)
theorem RepL.append(r:RepL K H xs ds)(q:RepL K H ys es):RepL K H (xs++ys) (ds++es):=by
 refine⟨by simp[r.1,q.1],fun i x d h1 h2=>?_⟩
 by_cases hi:i<xs.length
 ·rw[Q0 hi] at h1;rw[Q0 (by rw[<- r.1];exact hi)] at h2;exact r.2 i x d h1 h2
 ·rw[Ga (by omega)] at h1;rw[Ga (by rw[<- r.1];omega)] at h2;rw[<- r.1] at h2;exact q.2 _ x d h1 h2
theorem RepL.snoc(r:RepL K H xs ds)(h:Rep K H x d):RepL K H (xs++[x]) (ds++[d]):=r.append (.cons h .nil)
theorem RepL.get'{xs:List V}{ds:List PyData}{i:Nat}{x:V}(r:RepL K H xs ds)(e:xs[i]?=some x):∃d,ds[i]?=some d/\Rep K H x d:=by
 have hi:=(Qn.mp e).1
 have hx:i<ds.length:=by rw[<- r.1];exact hi
 exact⟨ds[i],by simp[hx],r.2 i x _ e (by simp[hx])⟩
theorem Rep.tupL(h:SqT K H a xs)(r:RepL K H xs ds):Rep K H (.ref a) (.tuple ds):=.tup h r.1 r.2
theorem Rep.lstL(h:SqL K H a xs)(r:RepL K H xs ds):Rep K H (.ref a) (.list ds):=.lst h r.1 r.2
theorem Rep.tupI(r:Rep K H v (.tuple ds)):∃a xs,v=.ref a/\SqT K H a xs/\RepL K H xs ds:=by
 cases r with
 | tup h l q=>exact⟨_,_,rfl,h,l,q⟩
theorem Rep.intI(r:Rep K H v (.int i)):v=.int i:=by cases r;rfl
theorem Same.seqT(e:Same H H')(h:SqT K H a xs):SqT K H' a xs:=by
 rcases h with (h|⟨o,h⟩)|h
 ·exact .inl (.inl (e _ _ h))
 ·exact .inl (.inr ⟨o,e _ _ h⟩)
 ·exact .inr h
theorem Rep.mono(e:Same H H')(r:Rep K H v d):Rep K H' v d:=by
 induction r with
 | non=>exact .non
 | bl b=>exact .bl b
 | int i=>exact .int i
 | str x=>exact .str x
 | tup h l _ ih=>exact .tup (e.seqT h) l ih
 | lst h l _ ih=>exact .lst (e.seq h) l ih
theorem RepL.mono(e:Same H H')(r:RepL K H xs ds):RepL K H' xs ds:=⟨r.1,fun i x d h1 h2=>(r.2 i x d h1 h2).mono e⟩
noncomputable def SameEx(l:Addr)(H H':Hp):Prop:=∀b o,b≠l->H b=some o->H' b=some o
theorem SameEx.upd{l:Addr}{o:HO}:SameEx l H (upd H l o):=fun b o' hb e=>by rw[Jh hb];exact e
theorem Same.ex(s:Same H0 H)(hn:H0 l=none)(e:SameEx l H H'):Same H0 H':=fun b o h=>e b o (Jo h hn) (s b o h)
theorem Same.new(hn:H p=none):Same H (upd H p o):=fun b o' e=>by rw[Jh (Jo e hn)];exact e
theorem SameEx.sqT(e:SameEx l H H')(hl:H l=some (.lst ys))(h:SqT K H a xs):SqT K H' a xs:=by
 rcases h with (h|⟨o,h⟩)|h
 ·exact .inl (.inl (e _ _ (Ja2 h hl (by intro z;cases z)) h))
 ·exact .inl (.inr ⟨o,e _ _ (Ja2 h hl (by intro z;cases z)) h⟩)
 ·exact .inr h
theorem Same.ex_trans(s:Same H H')(e:SameEx l H' H2):SameEx l H H2:=fun b o hb h=>e b o hb (s b o h)
end
theorem Vals.get':∀{xs:List V} {us:List Value} {i:Nat} {u:Value},Vals xs us->us[i]?=some u->∃x,xs[i]?=some x/\RelV x u
 | _,_,_,_,.nil,e=>by simp at e
 | _,_,0,_,.cons r _,e=>by simp at e;subst e;exact⟨_,rfl,r⟩
 | _,_,i+1,u,.cons _ t,e=>by obtain⟨x,h1,h2⟩:=Vals.get' (i:=i) (u:=u) t (by simpa using e);exact⟨x,by simpa using h1,h2⟩
theorem U1{h:Heap}:∀(us:List Value) (ds:List PyData),us.length=ds.length->(∀(i:Nat) (u:Value) (d:PyData),us[i]?=some u->ds[i]?=some d->∃as,Reads h u d as)->∃as,ReadsAll h us ds as
 | [],[],_,_=>⟨_,.nil⟩
 | [],_::_,e,_=>by simp at e
 | _::_,[],e,_=>by simp at e
 | u::us,d::ds,e,f=>by
  obtain⟨as,h1⟩:=f 0 u d rfl rfl;obtain⟨bs,h2⟩:=U1 us ds (by simpa using e) fun i v c q1 q2=>f (i+1) v c (by simpa using q1) (by simpa using q2)
  exact⟨_,.cons h1 h2⟩
theorem Rep.reads(I:Inv X pins σ H s)(r:Rep X.K H v d):∀u,RelV v u->∃as,Reads s.heap u d as:=by
 induction r with
 | non=>intro u r;cases r;exact⟨_,.none⟩
 | bl b=>intro u r;cases r;exact⟨_,.bool b⟩
 | int i=>intro u r;obtain⟨t,rfl⟩:=r;exact⟨_,.int i t⟩
 | str x=>intro u r;obtain⟨t,rfl⟩:=r;exact⟨_,.str x t⟩
 | tup h l _ ih =>
  intro u r;cases r;obtain⟨its,rv,p,hz⟩:=I.tuple h;obtain⟨o,ho,hc,n,hd⟩:=p
  obtain⟨as,q⟩:=U1 (h:=s.heap) its _ (rv.length.symm.trans l) fun i u d h1 h2=>by obtain⟨x,e1,e2⟩:=rv.get' h1;exact ih i x d e1 h2 u e2
  exact⟨_,.tuple ho hc hd q⟩
 | lst h l _ ih =>
  intro u r;cases r;obtain⟨its,rv,p,hz⟩:=I.list h;obtain⟨o,ho,hc,n,hd⟩:=p.isList
  obtain⟨as,q⟩:=U1 (h:=s.heap) its _ (rv.length.symm.trans l) fun i u d h1 h2=>by obtain⟨x,e1,e2⟩:=rv.get' h1;exact ih i x d e1 h2 u e2
  exact⟨_,.list ho hc hd q⟩
noncomputable def Jgl(K:Frag):R2:=fun x y H Q=>rI0 (fun i j=>.int (i+j)) x y H Q\/(∃i j,x=.str i/\y=.str j/\i.length+j.length<=sizeLine/\Q (.str (i++j)) H)\/Jrg x y H Q
theorem Jl0:OpR X (binaryOp .Add) (Jgl X.K):=op_add.or (op_add_str.or Jo5)
noncomputable def Jrh(K:Frag):R2:=fun x y H Q=>∃d e,Rep K H x d/\Rep K H y e/\d.canLay0=true/\e.canLay0=true/\min d.depth e.depth<=60/\Q (.bl (LX d e)) H
noncomputable def Jrn(K:Frag):R2:=fun x y H Q=>∃d e,Rep K H x d/\Rep K H y e/\d.canLay0=true/\e.canLay0=true/\min d.depth e.depth<=60/\Q (.bl (!PyData.eqv d e)) H
theorem Jo7(hu:X.A.units+64<cLine):OpR X (compareOp .Eq) (Jrh X.K):=by intro pins s σ H x y v u Q I rx ry h;obtain⟨d,e,h1,h2,c1,c2,hd,q⟩:=h;obtain⟨as,r1⟩:=h1.reads I v rx;obtain⟨bs,r2⟩:=h2.reads I u ry;exact SeqAt.compareEq_reads r1 r2 c1 c2 (by omega) ⟨.bl _,H,I,rfl,q⟩
theorem Jpb(hu:X.A.units+64<cLine):OpR X (compareOp .NotEq) (Jrn X.K):=by intro pins s σ H x y v u Q I rx ry h;obtain⟨d,e,h1,h2,c1,c2,hd,q⟩:=h;obtain⟨as,r1⟩:=h1.reads I v rx;obtain⟨bs,r2⟩:=h2.reads I u ry;exact SeqAt.compareNe_reads r1 r2 c1 c2 (by omega) ⟨.bl _,H,I,rfl,q⟩
noncomputable def Jpt(K:Frag):R2:=fun x y H Q=>rEq x y H Q\/Jrh K x y H Q
noncomputable def Jpw(K:Frag):R2:=fun x y H Q=>rNe x y H Q\/Jrn K x y H Q
theorem Jo6(hu:X.A.units+64<cLine):OpR X (compareOp .Eq) (Jpt X.K):=op_eq.or (Jo7 hu)
theorem Jpa(hu:X.A.units+64<cLine):OpR X (compareOp .NotEq) (Jpw X.K):=op_ne.or (Jpb hu)
noncomputable def JeZ(K:Frag):List V->Hp->VK->Prop:=fun xs H Q=>∃x n,xs=[x]/\Jqp K x H n/\Q (.int n) H
theorem JgY:J3 X (.builtin "len") (JeZ X.K):=Jil
noncomputable def Z9(K:Frag):List V->Hp->VK->Prop:=fun xs H Q=>∃p ys,xs=[.ref p]/\((SqL K H p ys/\∀l,H l=none->Q (.ref l) (upd H l (.tup ys)))\/(SqT K H p ys/\Q (.ref p) H))
theorem JcB:J3 X (.type "tuple") (Z9 X.K):=Jau
noncomputable def Jb3(K:Frag):List V->Hp->VK->Prop:=fun xs H Q=>∃p ys,xs=[.ref p]/\(SqL K H p ys\/SqT K H p ys)/\∀l,H l=none->Q (.ref l) (upd H l (.lst ys))
theorem Jee:J3 X (.type "list") (Jb3 X.K):=Jbj
inductive TyS (K:Frag) (H:Hp):V->Value->Prop where
 | of {x:V} {t:Value} (h:TyOf K H x t):TyS K H x t
 | sqT {a:Addr} {xs:List V} (h:SqT K H a xs):TyS K H (.ref a) (.type "tuple")
 | sqL {a:Addr} {xs:List V} (h:SqL K H a xs):TyS K H (.ref a) (.type "list")
theorem JeG{pins:List (Addr×Obj)}{σ:St}{H:Hp}{s:Shared}{A:Around}{E:Value->Shared->Prop}{Q:Value->Shared->Prop}{c:Value}{b:Bool}{x:V}{u t:Value}(I:Inv X pins σ H s)(rx:RelV x u)(ty:TyS X.K H x t)(e:kitOne X.K t c=some b)(h:∀tk,Q (.bool b) { s with toks:=tk }) :
 wpAny (model X.prog X.w) A (call (.builtin "isinstance") [u,c]) Q E s:=by
 cases ty with
 | of z=>exact Jhm I rx z e h
 | @sqT a xs z=>cases (show u=Value.ref a from rx);obtain⟨its,_,p,_⟩:=I.tuple z;obtain⟨o,h1,h2,_⟩:=p;exact kia_one RY I.kIn ⟨o,h1,h2⟩ e (fun z=>nomatch z) h
 | @sqL a xs z=>cases (show u=Value.ref a from rx);obtain⟨its,_,p,_⟩:=I.list z;obtain⟨o,h1,h2,_⟩:=p.isList;exact kia_one kitx_list I.kIn ⟨o,h1,h2⟩ e (fun z=>nomatch z) h
noncomputable def Jmi(K:Frag):List V->Hp->VK->Prop:=fun vs H Q=>∃x c t tc b,vs=[x,c]/\TyS K H x t/\(∀u,RelV c u->u=tc)/\kitOne K t tc=some b/\Q (.bl b) H
theorem Jik:J3 X (.builtin "isinstance") (Jmi X.K):=by intro pins s σ H xs us Q I r h;obtain⟨x,c,t,tc,b,rfl,ty,hc,e,q⟩:=h;obtain⟨u,w',rfl,r1,r2⟩:=JkI r;cases hc w' r2;exact JeG I r1 ty e fun tk=>⟨.bl b,H,I.tok tk,rfl,q⟩
noncomputable def Jri:R2:=fun x y H Q=>y=.non/\Q (.bl (decide (x=.non))) H
noncomputable def JjW:R2:=fun x y H Q=>y=.non/\Q (.bl (!decide (x=.non))) H
theorem JbY:OpR X (compareOp .Is) Jri:=Jo8
theorem V8:OpR X (compareOp .IsNot) JjW:=Jl2
noncomputable def Jpu:List V->Hp->VK->Prop:=fun xs H Q=>∃i j,xs=[.int i,.int j]/\Q (.int (if j>i then j else i)) H
noncomputable def Jpv:List V->Hp->VK->Prop:=fun xs H Q=>∃i j,xs=[.int i,.int j]/\Q (.int (if j<i then j else i)) H
theorem Jg0(hc:X.calm=true):J3 X (.builtin "max") Jpu:=JgZ hc
theorem Wo(hc:X.calm=true):J3 X (.builtin "min") Jpv:=Jg1 hc
noncomputable def Jp8(K:Frag)(ta:TE):TT:=fun σ H Q=>ta σ H fun x H1=>∃k,JkV K x H1 k/\Q k H1
theorem Jpr(ha:PE X a ta)(he:∀whole,isTrue a X.env whole=(do let v <- whole;standAt a.pos;holding [v] (truthy v))):PT X a (Jp8 X.K ta):=JjL ha he
noncomputable def GV(mg:Str->Option Value)(x:Str)(v:V):Prop:=∃u,mg x=some u/\RelV v u
theorem ZW{x:Str}{v:V}{pos:Pos}(hg:Gl X x)(hm:GV X.mg x v)(hd:(x == ("__debug__":Str))=false:=by decide):PE X (.Name x pos) (tC v):=by obtain⟨u,h1,h2⟩:=hm;exact Jl5 hg h1 h2 hd
theorem Vu:bootBuiltins "len"=some (.builtin "len"):=by decide +kernel
theorem Yx:bootBuiltins "isinstance"=some (.builtin "isinstance"):=by decide +kernel
theorem JnY:bootBuiltins "max"=some (.builtin "max"):=by decide +kernel
theorem Jbh:bootBuiltins "min"=some (.builtin "min"):=by decide +kernel
theorem Wn:bootBuiltins "sum"=some (.builtin "sum"):=by decide +kernel
theorem JnW:bootBuiltins "any"=some (.builtin "any"):=by decide +kernel
theorem JaL:bootBuiltins "sorted"=some (.builtin "sorted"):=by decide +kernel
theorem JnX:bootBuiltins "int"=some (.type "int"):=by decide +kernel
theorem Jk0:bootBuiltins "bool"=some (.type "bool"):=by decide +kernel
theorem UM:bootBuiltins "list"=some (.type "list"):=by decide +kernel
theorem Jcx:bootBuiltins "tuple"=some (.type "tuple"):=by decide +kernel
theorem Jig:bootBuiltins "zip"=some (.type "zip"):=by decide +kernel
theorem Jbg:bootBuiltins "enumerate"=some (.type "enumerate"):=by decide +kernel
theorem WK:bootBuiltins "reversed"=some (.type "reversed"):=by decide +kernel
structure Cal (P:Program) (w:World) (K:Frag) (mg:Str->Option Value) (base:Heap) (x:Str) (k:Nat) (ps:List Str) (sp:Sp):Prop where
 ex:∃(f:Addr) (fd:FuncData),FnOk P w K mg base CX0 k f fd ps sp/\mg x=some (.ref f)/\keepIn K (.ref f)=true/\Binds K fd ps []
structure CalM (P:Program) (w:World) (K:Frag) (mg:Str->Option Value) (base:Heap) (x:Str) (C:Addr) (k:Nat) (ps:List Str) (sp:Sp):Prop where
 ex:∃(f:Addr) (fd:FuncData),Mk K C f/\FnOk P w K mg base CX0 k f fd ps sp/\mg x=some (.ref C)/\Binds K fd ps []
theorem Jj(c:Cal X.prog X.w X.K X.mg X.base x k ps sp)(hr:Room k X.A)(hg:Gl X x)(ha:PA X (e::es) t)(hdb:(x == ("__debug__":Str))=false:=by decide)
 (he:starEach (e::es) X.env=(false,eval e X.env)::starEach es X.env:=by rfl) (hpl:(backTo pos (starEach es X.env)).any (·.1)=false:=by rfl):PE X (.Call (.Name x p) (e::es) [] pos) (JgC sp [] E0 t):=by
 obtain⟨f,fd,F,h1,h2,h3⟩:=c.ex;exact Jl4 F hr hg h1 h2 h3 .nil JnA ha hdb he hpl
theorem U0(c:CalM X.prog X.w X.K X.mg X.base x C k ps sp)(hr:Room (k+1) X.A)(hg:Gl X x)(ha:PA X (e::es) t)(hdb:(x == ("__debug__":Str))=false:=by decide)
 (he:starEach (e::es) X.env=(false,eval e X.env)::starEach es X.env:=by rfl) (hpl:(backTo pos (starEach es X.env)).any (·.1)=false:=by rfl):PE X (.Call (.Name x p) (e::es) [] pos) (JgE C sp [] E0 t):=by
 obtain⟨f,fd,M,F,h1,h3⟩:=c.ex;exact Jl6 M F hr hg h1 h3 .nil JnA ha hdb he hpl
noncomputable def JeC(K:Frag)(tl:TE):TI:=fun σ H R=>Jnr K tl σ H R\/JqL K tl σ H R
theorem Jpm(hl:PE X l tl):PI X tg l (JeC X.K tl):=by
 intro pins s σ H R I h;rcases h with h|h
 ·exact Jl7 hl pins s σ H R I h
 ·exact Jpn hl pins s σ H R I h
theorem WZ(h1:sc.kind=.function)(h2:(sc.names.all (fun y=>y.2 != .free && y.2 != .cell && (y.2 != .local || sc.names.lookup y.1 == some .local)) && imp.all (·.isNone) && (imp.length == N'.length))=true):Blk X sc [] N' imp:=by
 simp only[QU,LD] at h2;obtain⟨⟨h2,h3⟩,h4⟩:=h2
 have nofree:∀y∈sc.names,y.2≠.free:=fun y hy=>by
  have:=(h2 y hy).1.1
  simpa using this
 have nocell:∀y∈sc.names,y.2≠.cell:=fun y hy=>by
  have:=(h2 y hy).1.2
  simpa using this
 refine⟨closureFor_none nofree,h1,nocell,fun y hy hl=>?_,(fun p hp=>nomatch hp),fun y hy hk=>?_,by simpa using h4,fun p hp k e=>?_⟩
 ·have:=(h2 y hy).2;rw[hl] at this
  simpa using this
 ·have:(relabel sc X.env).names=sc.names:=by
   unfold relabel;refine map_eq_self fun x hx=>?_
   obtain⟨n,q⟩:=x;have:(q == NameKind.free)=false:=by simpa using nofree _ hx
   simp[this]
  rw[this] at hy;rcases hk with z|z
  ·exact absurd z (nocell y hy)
  ·exact absurd z (nofree y hy)
 ·have:=h3 p.1 (Ll hp).1;rw[e] at this;cases this
section
variable{K:Frag}{σ:St}{H H1:Hp}{Q:VK}{i:Nat}{v:V}{ta tb te:TE}{r:R2}{D:Ends}{t u:TS}{c:TT}
theorem JpL(h:σ[i]?=some (some v))(q:Q v H):Wj i σ H Q:=⟨v,h,q⟩
theorem Jsh(q:Q v H):tC v σ H Q:=q
theorem Jrw(q:ta σ H fun x H1=>tb σ H1 fun y H2=>r x y H2 Q):tOp r ta tb σ H Q:=q
theorem Jrv(q:Q (g a b) H):rI0 g (.int a) (.int b) H Q:=⟨a,b,rfl,rfl,q⟩
theorem Jmk(q:Q (.int (a+b)) H):Jgl K (.int a) (.int b) H Q:=.inl ⟨a,b,rfl,rfl,q⟩
theorem Jms(q:Q (.bl (!decide (x=.non))) H):JjW x .non H Q:=⟨rfl,q⟩
theorem Jj3(q:Q (.int (max a b)) H):Jpu [.int a,.int b] H Q:=⟨a,b,rfl,by
 have e:(if b>a then b else a)=max a b:=by rw[Int.max_def];split <;> split <;> omega
 rw[e];exact q⟩
theorem Jj4(q:Q (.int (min a b)) H):Jpv [.int a,.int b] H Q:=⟨a,b,rfl,by
 have e:(if b<a then b else a)=min a b:=by rw[Int.min_def];split <;> split <;> omega
 rw[e];exact q⟩
theorem Jmu(q:te σ H fun x H'=>∃k,x=.bl k/\Qb k H'):JgG te σ H Qb:=q
theorem JpA(q:c σ H fun b H1=>if b=true then c' σ H1 Qb else Qb false H1):Jp3 c c' σ H Qb:=q
theorem JpJ(q:t { D with nx:=u D } σ H):Jp7 t u D σ H:=q
theorem JpB(q:te σ H fun x H1=>g x σ H1 D.nx):Jfh te g D σ H:=q
theorem Jj2(q:Qs (σ.set i (some v)) H):UU i v σ H Qs:=q
theorem JpC(q:c σ H fun b H1=>if b=true then t D σ H1 else u D σ H1):JmY c t u D σ H:=q
theorem Jmm(q:te σ H fun _ H1=>D.nx σ H1):Jak te D σ H:=q
theorem Jmr(q:D.nx σ H):Jkv D σ H:=q
theorem Jml(q:ta σ H fun x H1=>tr σ H1 fun xs H2=>Ql (x::xs) H2):Ur ta tr σ H Ql:=q
theorem JpH(q:Ql [] H):VO σ H Ql:=q
theorem Jru{r:List V->Hp->VK->Prop}(q:ts σ H fun vs H1=>r vs H1 Q):tCB r ts σ H Q:=q
theorem Jgo(q:ts σ H fun vs H1=>sp vs H1 Q E):JgC sp [] E ts σ H Q:=by
 have e:(fun vs H1=>sp (vs++[]) H1 Q E)=fun vs H1=>sp vs H1 Q E:=by funext vs H1;rw[Ki]
 show ts σ H fun vs H1=>sp (vs++[]) H1 Q E
 rw[e];exact q
noncomputable def JhZ(xs:List V)(H:Hp)(Q:VK):Prop:=xs.length<=sizeLine/\∀p,H p=none->Q (.ref p) (upd H p (.tup xs))
theorem JpK(q:ts σ H fun xs H1=>JhZ xs H1 Q):Jkx ts σ H Q:=q
theorem JnT(hl:xs.length<=sizeLine)(q:∀p H',H p=none->Same H H'->H' p=some (.tup xs)->Q (.ref p) H'):JhZ xs H Q:=⟨hl,fun p hp=>q p _ hp (.new hp) Jk⟩
theorem Jmo(h:SqL K H a xs)(q:Q (.int xs.length) H):JeZ K [.ref a] H Q:=⟨_,_,rfl,.inl ⟨xs,h,rfl⟩,q⟩
theorem Jmq(h:SqT K H a xs)(q:Q (.int xs.length) H):JeZ K [.ref a] H Q:=⟨_,_,rfl,.inr ⟨xs,h,rfl⟩,q⟩
theorem Jmp(h:x.length<=sizeLine)(q:Q (.int x.length) H):JeZ K [.str x] H Q:=⟨_,_,rfl,⟨h,rfl⟩,q⟩
theorem JhN(h:SqL K H a xs)(q:∀p H',H p=none->Same H H'->H' p=some (.tup xs)->Q (.ref p) H'):Z9 K [.ref a] H Q:=⟨a,xs,rfl,.inl ⟨h,fun p hp=>q p _ hp (.new hp) Jk⟩⟩
theorem JpE(h:SqL K H a xs)(e:atI xs j=some v)(q:Q v H):rIx K (.ref a) (.int j) H Q:=.inl ⟨a,xs,j,v,rfl,rfl,h,e,q⟩
theorem JpG(h:SqT K H a xs)(e:atI xs j=some v)(q:Q v H):rIx K (.ref a) (.int j) H Q:=.inr (.inl ⟨a,xs,j,v,rfl,rfl,h,e,q⟩)
theorem JpF{z:Str}{j:Int}{c:Nat}(hz:z.length<=sizeLine)(e:atI z.cps.toList j=some c)(q:Q (.str ⟨#[c]⟩) H):rIx K (.str z) (.int j) H Q:=.inr (.inr ⟨z,j,c,rfl,rfl,hz,e,q⟩)
theorem JpD{x:V}{n:String}{t:Value}{b:Bool}(ty:TyS K H x t)(e:kitOne K t (.type n)=some b)(q:Q (.bl b) H):Jmi K [x,.ty n] H Q:=⟨x,_,t,_,b,rfl,ty,fun _ r=>r,e,q⟩
theorem Jgp(h:SqT K H a xs)(hl:xs.length=n)(q:ts xs σ H Qs):Jhb K n ts (.ref a) σ H Qs:=⟨a,xs,rfl,h,hl,q⟩
theorem Jj1{t:TG}{u:TGs}{x:V}{xs:List V}{Qs:St->Hp->Prop}(q:t x σ H fun σ' H'=>u xs σ' H' Qs):JfV t u (x::xs) σ H Qs:=⟨x,xs,rfl,q⟩
theorem Jmn(q:Qs σ H):Jls [] σ H Qs:=⟨rfl,q⟩
theorem Jmt(q:tv σ H fun y H1=>ta σ H1 fun x H2=>∃a C dx fs,x=.ref a/\H2 a=some (.ins C dx fs)/\Cls K C/\NoAttr K C f/\fs.length<1000/\D.nx σ (upd H2 a (.ins C dx (putF f y fs)))):JpP K ta tv f D σ H:=q
theorem JpM(q:Qb true H):Jp9 σ H Qb:=q
theorem ifd{c A B:Prop}[Decidable c](h1:c->A)(h2:¬c->B):if decide c=true then A else B:=by
 by_cases h:c
 ·rw[if_pos (decide_eq_true h)];exact h1 h
 ·rw[if_neg (by simpa using h)];exact h2 h
theorem ifT{A B:Prop}(e:b=true)(h:A):if b=true then A else B:=by rw[if_pos e];exact h
theorem ifF{A B:Prop}(e:b=false)(h:B):if b=true then A else B:=by rw[if_neg (by rw[e];exact Qu)];exact h
theorem JhM{tl:TE}{g:TG}{a:Addr}{xs:List V}(hx:∀R:VK,R (.ref a) H1->tl σ H R)(hq:SqL K H1 a xs\/SqT K H1 a xs)(Pv:Nat->St->Hp->Prop)(h0:Pv 0 σ H1)(hS:∀i σ' H',Pv i σ' H'->Same H1 H')
 (hs:∀i x σ' H',xs[i]?=some x->Pv i σ' H'->g x σ' H' fun σ2 H2=>t { D with nx:=Pv (i+1),ct:=Pv (i+1),bk:=D.nx } σ2 H2) (hd:∀σ' H',Pv xs.length σ' H'->D.nx σ' H'):JmX (JeC K tl) g t D σ H:=by
 rcases hq with hq|hq
 ·exact .inl (hx _ ⟨a,rfl,⟨xs,hq⟩,JiN (xs:=xs) Pv h0 (fun i σ' H' _ p=>(hS i σ' H' p).seq hq) hs hd⟩)
 ·exact .inr (hx _ ⟨a,rfl,⟨xs,hq⟩,Jlr (xs:=xs) Pv h0 (fun i σ' H' _ p=>(hS i σ' H' p).seqT hq) hs hd⟩)
theorem JfE{J:It}{g:TG}{tt:TT}{imp:List (Option Nat)}{n:Nat}(hn:n<=sizeLine)(Pv:Nat->List V->St->Hp->Prop)(h0:Pv 0 [] (ZE imp σ) H1)(hy:∀i ys σ' H',Pv i ys σ' H'->ys.length<=i)
 (hstop:∀ys σ' H',Pv n ys σ' H'->J.stop n H') (hgo:∀i ys σ' H',i<n->Pv i ys σ' H'->J.go i H')
 (hs:∀i ys x σ' H' H2,i<n->J.yld i H' x H2->Pv i ys σ' H'->g x σ' H2 fun σ2 H3=>tt σ2 H3 fun b H4=>if b=true then te σ2 H4 fun y H5=>Pv (i+1) (ys++[y]) σ2 H5 else Pv (i+1) ys σ2 H4)
 (hd:∀ys σ' H',Pv n ys σ' H'->∀p H2,H' p=none->Same H' H2->H2 p=some (.lst ys)->Q (.ref p) H2) :
 ∃W:Nat->Nat->List V->St->Hp->Prop,(∃m,W 0 m [] (ZE imp σ) H1)/\∀i m ys σ' H',W i m ys σ' H' ->
  (J.stop i H'/\ys.length<=sizeLine/\∀D,H' D=none->Q (.ref D) (upd H' D (.lst ys))) ∨
  (J.go i H'/\ys.length<sizeLine/\∃N:List V->St->Hp->Prop,(∀ys' σ2 H2,N ys' σ2 H2->∃m',m'<m/\W (i+1) m' ys' σ2 H2) ∧
   ∀x H2,J.yld i H' x H2->g x σ' H2 fun σ2 H3=>tt σ2 H3 fun b H4=>if b=true then te σ2 H4 fun y H5=>N (ys++[y]) σ2 H5 else N ys σ2 H4):=by
 refine⟨fun i m ys σ' H'=>m=n-i/\i<=n/\Pv i ys σ' H',⟨n,by simp,Gr _,h0⟩,?_⟩;rintro i m ys σ' H' ⟨rfl,hi,p⟩;have hl:=hy i ys σ' H' p
 by_cases hlt:i<n
 ·exact .inr ⟨hgo i ys σ' H' hlt p,by omega,fun ys' σ2 H2=>Pv (i+1) ys' σ2 H2,fun ys' σ2 H2 p'=>⟨n-(i+1),by omega,rfl,hlt,p'⟩,fun x H2 y=>hs i ys x σ' H' H2 hlt y p⟩
 ·have e:i=n:=by omega
  subst e;exact .inl ⟨hstop ys σ' H' p,by omega,fun q hq=>hd ys σ' H' p q _ hq (.new hq) Jk⟩
theorem Je0{tl:TE}{g:TG}{tt:TT}{imp:List (Option Nat)}{a:Addr}{xs:List V}(hx:∀R:VK,R (.ref a) H1->tl σ H R)(hq:SqL K H1 a xs\/SqT K H1 a xs)(hn:xs.length<=sizeLine)(Pv:Nat->List V->St->Hp->Prop)
 (h0:Pv 0 [] (ZE imp σ) H1) (hy:∀i ys σ' H',Pv i ys σ' H'->ys.length<=i) (hS:∀i ys σ' H',Pv i ys σ' H'->Same H1 H')
 (hs:∀i ys x σ' H',xs[i]?=some x->Pv i ys σ' H'->g x σ' H' fun σ2 H3=>tt σ2 H3 fun b H4=>if b=true then te σ2 H4 fun y H5=>Pv (i+1) (ys++[y]) σ2 H5 else Pv (i+1) ys σ2 H4)
 (hd:∀ys σ' H',Pv xs.length ys σ' H'->∀p H2,H' p=none->Same H' H2->H2 p=some (.lst ys)->Q (.ref p) H2):JgD (JeC K tl) g tt te imp σ H Q:=by
 rcases hq with hq|hq
 ·refine .inl (hx _ ⟨a,rfl,⟨xs,hq⟩,JfE (n:=xs.length) hn Pv h0 hy (fun ys σ' H' p=>⟨xs,(hS _ _ _ _ p).seq hq,Qm _⟩) (fun i ys σ' H' hi p=>⟨xs,xs[i],(hS _ _ _ _ p).seq hq,by simp[hi]⟩) (fun i ys x σ' H' H2 hi y p=>?_) hd⟩);obtain⟨e,y⟩:=y;subst e;exact hs i ys x σ' _ (y xs ((hS _ _ _ _ p).seq hq)) p
 ·refine .inr (hx _ ⟨a,rfl,⟨xs,hq⟩,JfE (n:=xs.length) hn Pv h0 hy (fun ys σ' H' p=>⟨xs,(hS _ _ _ _ p).seqT hq,Qm _⟩) (fun i ys σ' H' hi p=>⟨xs,xs[i],(hS _ _ _ _ p).seqT hq,by simp[hi]⟩) (fun i ys x σ' H' H2 hi y p=>?_) hd⟩);obtain⟨e,y⟩:=y;subst e;exact hs i ys x σ' _ (y xs ((hS _ _ _ _ p).seqT hq)) p
end
section
variable{X:Cx}{K:Frag}{pos:Pos}
theorem Jgf(hK:X.K=K):OpR X (binaryOp .Add) (Jgl K):=hK▸Jl0
theorem ZV(hK:X.K=K)(hu:X.A.units+64<cLine):OpR X (compareOp .Eq) (Jpt K):=hK▸Jo6 hu
theorem VF(hK:X.K=K)(hu:X.A.units+64<cLine):OpR X (compareOp .NotEq) (Jpw K):=hK▸Jpa hu
theorem YL(hK:X.K=K):J3 X (.builtin "len") (JeZ K):=hK▸JgY
theorem JcA(hK:X.K=K):J3 X (.type "tuple") (Z9 K):=hK▸JcB
theorem Jed(hK:X.K=K):J3 X (.type "list") (Jb3 K):=hK▸Jee
theorem UA(hK:X.K=K):J3 X (.builtin "isinstance") (Jmi K):=hK▸Jik
theorem Jlz(hK:X.K=K):IxR X (rIx K):=hK▸Jou
theorem JQ{e:Expr}{ta:TE}{f:Str}(hK:X.K=K)(he:PE X e ta)(hb:attributeBase e f X.env (eval e X.env)=eval e X.env):PE X (.Attribute e f pos) (Jp5 K ta f):=hK▸Jpg he hb
theorem Jme{o value:Expr}{f:Str}{pos':Pos}{ta tv:TE}(hK:X.K=K)(ha:PE X o ta)(hv:PE X value tv)(hs:swapsWith value (some (.Attribute o f pos')) pos.line X.env=pure false):PS X (.Assign [.Attribute o f pos'] value pos) (JpP K ta tv f):=hK▸Jpq ha hv hs
theorem Jl9(hK:X.K=K)(hl:PE X l tl):PI X tg l (JeC K tl):=hK▸Jpm hl
theorem Ju{es:List Expr}{k:Nat}{t:TGs}{n:Nat}(hK:X.K=K)(hc:X.calm=true)(h:PGs X es t)(hn:(assignEach es X.env).length=n)(hst:(assignEach es X.env).findIdx? (·.1)=none):PG X (.Tuple es k pos) (Jhb K n t):=hK▸Jpl hc h hn hst
theorem YG{a:Expr}{ta:TE}(hK:X.K=K)(ha:PE X a ta)(he:∀whole,isTrue a X.env whole=(do let v <- whole;standAt a.pos;holding [v] (truthy v))):PT X a (Jp8 K ta):=hK▸Jpr ha he
theorem Uh{o e:Expr}{es:List Expr}{to:TE}{t:TA}{name:Str}{apos cpos:Pos}{T id:String}{r:V->List V->Hp->VK->Prop}(hK:X.K=K)(pa:PlainAttrs T)(slot:Slot T name id)(hty:typeOf (.builtin id)=pure (.type "method_descriptor"))(hm:MtR X id r)(ho:PE X o to)(ha:PA X (e::es) t)
 (hbase:attributeBase o name X.env (eval o X.env)=eval o X.env:=by rfl)
 (hfew:((backTo cpos (starEach (e::es) X.env)).all (fun x=>!x.1) && (backToKw cpos (keywordEach [] X.env)).all (fun x=>x.1.isSome)
  && decide ((e::es).length+([]:List Keyword).length+(if ([]:List Keyword).isEmpty then 0 else 1)<30))=true:=by rfl)
 (hline:(apos.endLine == cpos.line)=true:=by rfl) (hs:starEach (e::es) X.env=(false,eval e X.env)::starEach es X.env:=by rfl) (hplain:(backTo cpos (starEach es X.env)).any (·.1)=false:=by rfl) :
 PE X (.Call (.Attribute o name apos) (e::es) [] cpos) (tBM K T r to t):=hK▸Jrd pa slot hty hm ho ha hbase hfew hline hs hplain
theorem Jl3{o:Expr}{to:TE}{name:Str}{apos cpos:Pos}{T id:String}{r:V->List V->Hp->VK->Prop}(hK:X.K=K)(pa:PlainAttrs T)(slot:Slot T name id)(hty:typeOf (.builtin id)=pure (.type "method_descriptor"))(hm:MtR X id r)(ho:PE X o to)
 (hbase:attributeBase o name X.env (eval o X.env)=eval o X.env:=by rfl) (hline:(apos.endLine == cpos.line)=true:=by rfl):PE X (.Call (.Attribute o name apos) [] [] cpos) (Jp4 K T r to):=hK▸Jpf pa slot hty hm ho hbase hline
end
end L2
namespace LR
open PySem L2
theorem sz2{a b:V}:[a,b].length<=sizeLine:=by show 2<=sizeLine;decide
noncomputable abbrev Pr:=Int×Int
noncomputable def prD(p:Pr):PyData:=.tuple [.int p.1,.int p.2]
theorem Jma(r:Rep K H v (prD p)):∃a,v=.ref a/\SqT K H a [.int p.1,.int p.2]:=by
 obtain⟨a,xs,rfl,h,l,q⟩:=r.tupI
 match xs,l,q,h with
 | [x,y],_,q,h =>
  have e1:=(q 0 x (.int p.1) rfl rfl).intI
  have e2:=(q 1 y (.int p.2) rfl rfl).intI;subst e1 e2;exact⟨a,rfl,h⟩
theorem JjI(h:SqT K H a [.int b,.int n]):Rep K H (.ref a) (prD (b,n)):=.tupL h (.cons (.int b) (.cons (.int n) .nil))
theorem Jmb(h:H a=some (.tup [.int b,.int n])):Rep K H (.ref a) (prD (b,n)):=JjI (.of h)
noncomputable abbrev Prs(K:Frag)(H:Hp)(vs:List V)(ps:List Pr):Prop:=RepL K H vs (ps.map prD)
theorem Prs.len(r:Prs K H vs ps):vs.length=ps.length:=by have:=r.1;rwa [Qk] at this
theorem Prs.at{vs:List V}{ps:List Pr}{i:Nat}{v:V}(r:Prs K H vs ps)(e:vs[i]?=some v):∃p a,ps[i]?=some p/\v=.ref a/\SqT K H a [.int p.1,.int p.2]:=by
 obtain⟨d,h1,h2⟩:=r.get' e;rw[Qp] at h1
 cases hp:ps[i]? with
 | none=>rw[hp] at h1;cases h1
 | some p=>rw[hp] at h1;cases h1;obtain⟨a,e1,e2⟩:=Jma h2;exact⟨p,a,rfl,e1,e2⟩
theorem Prs.snoc(r:Prs K H vs ps)(h:Rep K H v (prD p)):Prs K H (vs++[v]) (ps++[p]):=by show RepL K H _ _;rw[QL];exact RepL.snoc r h
noncomputable def JkU(K:Frag)(H:Hp)(v:V)(ps:List Pr):Prop:=∃a vs,v=.ref a/\(SqL K H a vs\/SqT K H a vs)/\Prs K H vs ps
structure Good (ps:List Pr):Prop where
 one:∀(i:Nat) (p:Pr),ps[i]?=some p->1<=p.2
 gap:∀(i:Nat) (p q:Pr),ps[i]?=some p->ps[i+1]?=some q->p.1+p.2<q.1
theorem Good.nil:Good []:=⟨fun i p e=>by simp at e,fun i p q e=>by simp at e⟩
noncomputable def Je1(t:Addr):List (Str×V):=[("stretches",.ref t)]
noncomputable def Jqs(C:Addr)(K:Frag)(H:Hp)(v:V)(ps:List Pr):Prop :=
 ∃x dx t ts,v=.ref x/\H x=some (.ins C dx (Je1 t))/\H t=some (.tup ts)/\Prs K H ts ps
structure RowC (K:Frag) (C:Addr):Prop where
 cl:Cls K C
 ns:NoAttr K C "stretches"
theorem JhP(t:Addr):(Je1 t).lookup ("stretches":Str)=some (.ref t):=by
 unfold Je1;rw[List.lookup_cons];have:(("stretches":Str) == ("stretches":Str))=true:=by decide +kernel
 rw[this]
theorem JjM(t:Addr):putF "stretches" (.ref t) []=Je1 t:=rfl
noncomputable def Jcf(K:Frag):Sp:=fun vs H Q _=>∃v ps,vs=[v]/\JkU K H v ps/\Good ps/\∀H',Same H H'->Q .non H'
noncomputable def U9(C:Addr)(K:Frag):Sp:=fun vs H Q _=>∃x dx v ps,vs=[.ref x,v]/\H x=some (.ins C dx [])/\JkU K H v ps/\Good ps/\ps.length<=30 ∧
 ∀H' t ts,SameEx x H H'->H' x=some (.ins C dx (Je1 t))->H' t=some (.tup ts)->Prs K H' ts ps->Q .non H'
noncomputable def Jh0(C:Addr)(sp:Sp)(E:XK)(vs:List V)(H1:Hp)(Q:VK):Prop:=∀x dx,H1 x=none->H1 dx=none->dx≠x ->
 sp (.ref x::vs) (upd (upd H1 dx (.own x)) x (.ins C dx [])) (fun v H2=>v=.non/\Q (.ref x) H2) E
theorem Jgq(q:ts σ H fun vs H1=>Jh0 C sp E vs H1 Q):JgE C sp [] E ts σ H Q:=by
 have e:(fun vs H1=>Jh0 C sp E vs H1 Q)=fun vs H1=>∀x dx,H1 x=none->H1 dx=none->dx≠x->sp (.ref x::(vs++[])) (upd (upd H1 dx (.own x)) x (.ins C dx [])) (fun v H2=>v=.non/\Q (.ref x) H2) E:=by funext vs H1;rw[Ki];rfl
 show ts σ H _;rw[<- e];exact q
theorem JpI(h:JkU K H v ps)(g:Good ps)(hl:ps.length<=30)(q:∀x H',H x=none->Same H H'->Jqs C K H' (.ref x) ps->Q (.ref x) H'):Jh0 C (U9 C K) E [v] H Q:=by
 intro x dx nx ndx nex
 have s0:Same H (upd (upd H dx (.own x)) x (.ins C dx [])):=fun b o e=>by rw[Jh (Jo e nx),Jh (Jo e ndx)];exact e
 obtain⟨a,vs,rfl,hq,hp⟩:=h;refine⟨x,dx,_,ps,rfl,Jk,⟨a,vs,rfl,hq.imp s0.seq s0.seqT,RepL.mono s0 hp⟩,g,hl,fun H' t ts e h1 h2 h3=>⟨rfl,q x H' nx (fun b o h=>e b o (Jo h nx) (s0 b o h)) ⟨x,dx,t,ts,rfl,h1,h2,h3⟩⟩⟩
noncomputable def cell(ns:List Int)(k:Int):Int:=ns.getD k.toNat 0
theorem Jin(h:¬k<(ns.length:Int)):cell ns k=0:=by unfold cell;rw[QZ,GC (by omega)];rfl
noncomputable def ZY(l:List Int)(k:Int):Int:=l.getD k.toNat 0
theorem ZZ{l:List Int}{k:Int}{P:Int->Prop}(h0:0<=k)(h1:k<(l.length:Int))(h:∀x∈l,P x):P (ZY l k):=by
 unfold ZY;have:k.toNat<l.length:=by omega
 rw[QZ,Qw this];exact h _ (Rf this)
noncomputable def Jfu(ps:List Pr):Nat->V
 | 0=>.non
 | i+1=>match ps[i]? with
  | some p=>.int (p.1+p.2)
  | none=>.non
theorem UX(e:ps[i]?=some p):Jfu ps (i+1)=.int (p.1+p.2):=by show(match ps[i]? with|some p=>V.int (p.1+p.2)|none=>V.non)=_;rw[e]
theorem Jip(h:JkU K H v ps)(g:Good ps)(q:∀H',Same H H'->Q .non H'):Jcf K [v] H Q E:=⟨v,ps,rfl,h,g,q⟩
theorem Jdz(h:SqL K H a xs\/SqT K H a xs)(q:Q (.int xs.length) H):JeZ K [.ref a] H Q:=by
 rcases h with h|h
 ·exact Jmo h q
 ·exact Jmq h q
theorem SameEx.sqT'(e:SameEx x H H')(hx:H x=some (.ins C dx fs))(h:SqT K H a xs):SqT K H' a xs:=by
 rcases h with (h|⟨o,h⟩)|h
 ·exact .inl (.inl (e _ _ (Ja2 h hx (by intro z;cases z)) h))
 ·exact .inl (.inr ⟨o,e _ _ (Ja2 h hx (by intro z;cases z)) h⟩)
 ·exact .inr h
theorem Prs.monoIns(e:SameEx x H H')(hx:H x=some (.ins C dx fs))(r:Prs K H vs ps):Prs K H' vs ps:=by refine⟨r.1,fun i v d h1 h2=>?_⟩;obtain⟨p,a,e1,e2,e3⟩:=r.at h1;rw[Qp,e1] at h2;cases h2;subst e2;exact JjI (SameEx.sqT' e hx e3)
noncomputable def Jgx(K:Frag):Sp:=fun vs H Q _=>∃(a:Addr) (ns:List Int),vs=[.ref a]/\SqL K H a (ns.map V.int)/\ns.length<=63/\∀H',Q (.bl true) H'
end LR
namespace L2
open PySem PySem.Spec PyProof.Rows
theorem JaY(hh:A'.handled=none)(I:Inv X pins σ H s)(hq:SqL X.K H a vs\/SqT X.K H a vs)(h:∀(its:List Value) (J:Addr) (fp wr:List Addr) (Sx:Nat->Heap->Prop) (s2:Shared),Vals vs its->Walks X.prog X.w A' J fp wr its.toArray.size (fun i v=>its.toArray[i]?=some v) Sx->Sx 0 s2.heap->(∀b∈fp,b<s2.heap.objs.size) ->
  (∀h' tk,(∀b o,b∉wr->s2.heap.get? b=some o->h'.get? b=some o)->Inv X pins σ H { s2 with heap:=h',toks:=tk })->Q (.ref J) s2):wpAny (model X.prog X.w) A' (pyIter (.ref a)) Q E s:=by
 have nin:∀b o,s.heap.get? b=some o->b∉[s.heap.objs.size]:=fun b o e z=>by
  have:b=s.heap.objs.size:=by simpa using z
  exact absurd (Qj e) (by rw[this];exact Q8 _)
 rcases hq with hq|hq
 ·obtain⟨its,rv,p,hz⟩:=I.list hq;have hlt:a<s.heap.objs.size:=by obtain⟨_,e,_⟩:=p.isList;exact Qj e
  refine L4 p.isList ?_;refine h its _ _ _ _ _ rv (Walks.list hh _ a (Qr hlt) its.toArray) ⟨⟨_,Qi _ rfl,rfl,rfl⟩,p.isList.push _⟩ (fun b hb=>?_) fun h' tk hk=>I.kept fun b o e=>hk b o (nin b o e) (Qf _ e)
  show b<(s.heap.push _).objs.size;rw[Gg];rcases Qh.mp hb with z|z
  ·rw[z];exact GJ _
  ·have:b=a:=by simpa using z
   rw[this];exact GK hlt
 ·obtain⟨its,rv,p,hz⟩:=I.tuple hq;have ht:s.heap.IsTuple a its.toArray:=p;have hlt:a<s.heap.objs.size:=by obtain⟨_,e,_⟩:=ht;exact Qj e
  refine MG ht ?_;refine h its _ _ _ _ _ rv (Walks.tuple hh _ a (Qr hlt) its.toArray) ⟨⟨_,Qi _ rfl,rfl,rfl⟩,?_⟩ (fun b hb=>?_) fun h' tk hk=>I.kept fun b o e=>hk b o (nin b o e) (Qf _ e)
  ·obtain⟨o,e,c⟩:=ht;exact⟨o,Qf _ e,c⟩
  ·show b<(s.heap.push _).objs.size;rw[Gg];rcases Qh.mp hb with z|z
   ·rw[z];exact GJ _
   ·have:b=a:=by simpa using z
    rw[this];exact GK hlt
theorem WU(l:List Int):∀j,j<=l.length->preSum (fun i=>l.getD i 0) j=(l.take j).sum
 | 0,_=>by simp[preSum]
 | j+1,h=>by
  rw[preSum,WU l j (by omega)];have hj:j<l.length:=by omega
  rw[List.take_add_one,Mp];simp[hj]
section
variable{X:Cx}
noncomputable def Jpz(K:Frag):List V->Hp->VK->Prop:=fun xs H Q=>∃(a:Addr) (ns:List Int),xs=[.ref a]/\(SqL K H a (ns.map V.int)\/SqT K H a (ns.map V.int))/\Q (.int ns.sum) H
theorem Jg5(hc:X.calm=true):J3 X (.builtin "sum") (Jpz X.K):=by
 intro pins s σ H xs us Q I r h;obtain⟨a,ns,rfl,hq,q⟩:=h;obtain⟨u,rfl,rx⟩:=UW r;cases rx;refine call_sum_walkG (JaY (A':=X.A.in1) (I.ok.hd hc) I hq fun its J fp wr Sx s2 rv W st hfp hI=>?_);have hi:=YN rv;have hl:=rv.length;rw[Qk] at hl;refine⟨J,fp,wr,_,_,Sx,fun i=>ns.getD i 0,rfl,W,st,hfp,fun i v e=>?_,fun h' tk t' hk=>?_⟩
 ·have e':its[i]?=some v:=by simpa using e
  obtain⟨x,e1,e2⟩:=rv.get' e';rw[Qp] at e1
  cases hn:ns[i]? with
  | none=>rw[hn] at e1;cases e1
  | some n=>rw[hn] at e1;cases e1;obtain⟨t,rfl⟩:=e2;exact⟨t,by simp[QZ,hn]⟩
 ·refine⟨.int ns.sum,H,hI h' tk hk,⟨t',?_⟩,q⟩;rw[show its.toArray.size=ns.length by simp[hl],WU ns _ (Qm _),Rg]
noncomputable def Jps(K:Frag):List V->Hp->VK->Prop:=fun xs H Q=>∃(a:Addr) (bs:List Bool),xs=[.ref a]/\(SqL K H a (bs.map V.bl)\/SqT K H a (bs.map V.bl))/\Q (.bl (bs.any id)) H
theorem JhL(bs:List Bool):(Q9 bs.length).any (fun i=>bs.getD i false)=bs.any id:=by
 rw[KB];simp only[Kp,List.mem_range,id];constructor
 ·rintro⟨i,hi,e⟩;simp[QZ,hi] at e;exact⟨bs[i],Rf hi,e⟩
 ·rintro⟨b,hb,rfl⟩;obtain⟨i,hi,e⟩:=Gs.mp hb;exact⟨i,hi,by simp[QZ,hi,e]⟩
theorem JdW{bs:List Bool}{its:List Value}(rv:Vals (bs.map V.bl) its):TruthOf X.prog X.w A (fun i v=>its.toArray[i]?=some v) (fun i=>bs.getD i false):=by
 intro i v s Q E e q;have e':its[i]?=some v:=by simpa using e
 obtain⟨x,e1,e2⟩:=rv.get' e';rw[Qp] at e1
 cases hn:bs[i]? with
 | none=>rw[hn] at e1;cases e1
 | some n =>
  rw[hn] at e1;cases e1;cases e2;have:bs.getD i false=n:=by simp[QZ,hn]
  have q':Q (bs.getD i false) s:=q;rw[this] at q';exact Kv q'
theorem JgX(hc:X.calm=true):J3 X (.builtin "any") (Jps X.K):=by intro pins s σ H xs us Q I r h;obtain⟨a,bs,rfl,hq,q⟩:=h;obtain⟨u,rfl,rx⟩:=UW r;cases rx;refine call_any_walk (JaY (A':=X.A.in1) (I.ok.hd hc) I hq fun its J fp wr Sx s2 rv W st hfp hI=>?_);have hl:=rv.length;rw[Qk] at hl;refine⟨J,fp,wr,_,_,Sx,_,rfl,W,st,JdW rv,fun h' tk hk=>⟨.bl _,H,hI h' tk hk,rfl,?_⟩⟩;rw[show its.toArray.size=bs.length by simp[hl],JhL];exact q
end
section
variable{X:Cx}{K:Frag}
theorem Y8(hK:X.K=K)(hc:X.calm=true):J3 X (.builtin "sum") (Jpz K):=hK▸Jg5 hc
theorem JgW(hK:X.K=K)(hc:X.calm=true):J3 X (.builtin "any") (Jps K):=hK▸JgX hc
end
noncomputable def AllP{α:Type}(P:α->Prop):List α->Prop
 | []=>True
 | x::xs=>P x/\AllP P xs
theorem AllP.mem{α:Type}{P:α->Prop}:∀{l:List α},AllP P l->∀x∈l,P x
 | [],_,x,hx=>nomatch hx
 | y::l,h,x,hx=>by
  rcases Qh.mp hx with z|z
  ·rw[z];exact h.1
  ·exact AllP.mem h.2 x z
theorem VC{cl:List (Str×Addr)}(h:cl.any (fun p=>p.1 == x)=true):(cl.lookup x).isSome=true:=by
 induction cl with
 | nil=>simp at h
 | cons p cl ih =>
  obtain⟨n,a⟩:=p;rw[List.lookup_cons]
  by_cases e:x == n
  ·rw[e];rfl
  ·have e':(x == n)=false:=by simpa using e
   rw[e'];rw[Kb] at h;rcases Bool.or_eq_true_iff.mp h with z|z
   ·have:n=x:=eq_of_beq z;rw[this] at e';simp at e'
   ·exact ih z
theorem Jcv{X:Cx}{sc:Scope}{cl:List (Str×Addr)}{own:List Str}{fr:List (Str×Nat)}(h1:sc.kind=.function)(h2:closureFor sc X.env=pure cl)
 (h3:(sc.names.all fun y=>y.2 != .cell && (y.2 != .local || sc.names.lookup y.1 == some .local))=true) (h4:AllP (fun p=>X.env.cells.lookup p.1=some p.2) cl)
 (h5:((relabel sc X.env).names.all fun y=>(y.2 != .cell && y.2 != .free) || cl.any (fun p=>p.1 == y.1))=true)
 (h6:AllP (fun p=>X.N[p.2]?=some p.1/\X.env.scope.names.lookup p.1=some .cell/\(relabel sc X.env).names.lookup p.1=some .cell) fr) :
 Blk X sc cl (own++fr.map (·.1)) (own.map (fun _=>none)++fr.map (fun p=>some p.2)):=by
 simp only[LD,QU] at h3;simp only[LD] at h5;refine⟨h2,h1,fun y hy=>?_,fun y hy hl=>?_,AllP.mem h4,fun y hy hk=>?_,by simp,fun p hp k e=>?_⟩
 ·have:=(h3 y hy).1
  simpa using this
 ·have:=(h3 y hy).2;rw[hl] at this
  simpa using this
 ·have:=h5 y hy;rcases Bool.or_eq_true_iff.mp this with z|z
  ·rcases hk with q|q
   ·rw[q] at z;simp at z
   ·rw[q] at z;simp at z
  ·exact VC z
 ·rw[Mq (by simp)] at hp;rcases Gd.mp hp with z|z
  ·have:=(Ll z).1;obtain⟨_,_,q⟩:=QC.mp this;rw[<- q] at e;cases e
  ·rw[List.zip_map_left] at z;obtain⟨q,hq,eq⟩:=QC.mp z
   have hz:q.1∈fr/\q.1.1=q.2:=by
    clear h6 e eq z hp;rw[List.zip_map_right] at hq;obtain⟨q',hq',eq'⟩:=QC.mp hq
    have:q'.1=q'.2:=by
     clear eq' hq
     induction fr with
     | nil=>cases hq'
     | cons x fr ih =>
      rcases Qh.mp hq' with z|z
      ·rw[z]
      ·exact ih z
    rw[<- eq'];exact⟨(Ll hq').1,by show q'.1.1=q'.2.1;rw[this]⟩
   obtain⟨a1,a2,a3⟩:=AllP.mem h6 q.1 hz.1;rw[<- eq] at e ⊢;have ek:q.1.2=k:=by simpa using e
   subst ek;rw[hz.2] at a1 a2 a3;exact⟨a1,.inl a2,.inl a3⟩
end L2
namespace LR
open PySem L2
noncomputable def Small(i:Int):Prop:=i.natAbs.log2<1920
theorem Small.of{i:Int}(h:i.natAbs<2 ^ 1920):Small i:=by
 unfold Small
 by_cases h0:i.natAbs=0
 ·rw[h0];decide
 ·exact(Nat.log2_lt h0).mpr h
theorem Small.le(h1:-(10 ^ 100)<=i)(h2:i<=10 ^ 100):Small i:=Small.of (by
 have h3:i.natAbs<=10 ^ 100:=by omega
 exact Ke h3 (by decide +kernel))
end LR
namespace LE
open PySem L2 LR
inductive D where
 | non|bl (b:Bool)|int (i:Int)|str (x:Str)|tup (l:List D)|lst (l:List D)|fz (l:List D)|row (l:List D)|dct (ks:List Int) (l:List D)|dfz (ks:List Int) (l:List D)|exc (n:Str)
noncomputable def dkO(ks:List Int)(xs:List V):HO:=.dK ((ks.map Sum.inl).zip xs)
noncomputable def dtK(p:Int×Int):List Key:=[Sum.inl p.1,Sum.inl p.2]
noncomputable def dtO(ps:List (Int×Int))(xs:List V):HO:=.dT ((ps.map dtK).zip xs)
noncomputable def XO(a:Addr)(c:Value):HO:=.ext fun h=>∃o,h.get? a=some o/\o.cls=c/\PySem.W.notCls o=true/\o.dict=none
section
variable(K:Frag)(C:Addr)
inductive RD (H:Hp):V->D->Prop
 | non:RD H .non .non
 | bl (b:Bool):RD H (.bl b) (.bl b)
 | int (i:Int):RD H (.int i) (.int i)
 | str (x:Str):RD H (.str x) (.str x)
 | tup {a:Addr} {xs:List V} {ds:List D}:SqT K H a xs->xs.length=ds.length->(∀(i:Nat) (x:V) (d:D),xs[i]?=some x->ds[i]?=some d->RD H x d)->RD H (.ref a) (.tup ds)
 | lst {a:Addr} {xs:List V} {ds:List D}:H a=some (.lst xs)->xs.length=ds.length->(∀(i:Nat) (x:V) (d:D),xs[i]?=some x->ds[i]?=some d->RD H x d)->RD H (.ref a) (.lst ds)
 | fz {a:Addr} {xs:List V} {ds:List D}:SqL K H a xs->xs.length=ds.length->(∀(i:Nat) (x:V) (d:D),xs[i]?=some x->ds[i]?=some d->RD H x d)->RD H (.ref a) (.fz ds)
 | row {x dx t:Addr} {ts:List V} {ds:List D}:H x=some (.ins C dx (Je1 t))->SqT K H t ts->ts.length=ds.length->(∀(i:Nat) (x:V) (d:D),ts[i]?=some x->ds[i]?=some d->RD H x d)->RD H (.ref x) (.row ds)
 | dct {a:Addr} {ks:List Int} {xs:List V} {ds:List D}:H a=some (dkO ks xs)->ks.length=ds.length->xs.length=ds.length->(∀(i:Nat) (x:V) (d:D),xs[i]?=some x->ds[i]?=some d->RD H x d)->RD H (.ref a) (.dct ks ds)
 | dfz {a:Addr} {ks:List Int} {xs:List V} {ds:List D} {o:Obj}:H a=some (.frz o (dkO ks xs))->ks.length=ds.length->xs.length=ds.length->(∀(i:Nat) (x:V) (d:D),xs[i]?=some x->ds[i]?=some d->RD H x d)->RD H (.ref a) (.dfz ks ds)
 | exc {a c:Addr} {n:Str}:H a=some (XO a (.ref c))->nsIn K mainGlobals n=some (some (.ref c))->RD H (.ref a) (.exc n)
noncomputable def RDL(H:Hp)(xs:List V)(ds:List D):Prop:=xs.length=ds.length/\∀(i:Nat) (x:V) (d:D),xs[i]?=some x->ds[i]?=some d->RD K C H x d
end
theorem RD.mono(e:Same H H')(r:RD K C H v d):RD K C H' v d:=by
 induction r with
 | non=>exact .non
 | bl b=>exact .bl b
 | int i=>exact .int i
 | str x=>exact .str x
 | tup h l _ ih=>exact .tup (e.seqT h) l ih
 | lst h l _ ih=>exact .lst (e _ _ h) l ih
 | fz h l _ ih=>exact .fz (e.seq h) l ih
 | row h1 h2 l _ ih=>exact .row (e _ _ h1) (e.seqT h2) l ih
 | dct h1 h2 l _ ih=>exact .dct (e _ _ h1) h2 l ih
 | dfz h1 h2 l _ ih=>exact .dfz (e _ _ h1) h2 l ih
 | exc h1 h2=>exact .exc (e _ _ h1) h2
theorem RDL.mono(e:Same H H')(r:RDL K C H xs ds):RDL K C H' xs ds:=⟨r.1,fun i x d h1 h2=>(r.2 i x d h1 h2).mono e⟩
theorem RDL.nil:RDL K C H [] []:=⟨rfl,fun i x d e=>by simp at e⟩
theorem RDL.cons(h:RD K C H x d)(r:RDL K C H xs ds):RDL K C H (x::xs) (d::ds):=by
 refine⟨by simp[r.1],fun i y e h1 h2=>?_⟩
 cases i with
 | zero=>simp at h1 h2;subst h1 h2;exact h
 | succ i=>exact r.2 i y e (by simpa using h1) (by simpa using h2)
theorem RDL.append(r:RDL K C H xs ds)(q:RDL K C H ys es):RDL K C H (xs++ys) (ds++es):=by
 refine⟨by simp[r.1,q.1],fun i x d h1 h2=>?_⟩
 by_cases hi:i<xs.length
 ·rw[Q0 hi] at h1;rw[Q0 (by rw[<- r.1];exact hi)] at h2;exact r.2 i x d h1 h2
 ·rw[Ga (by omega)] at h1;rw[Ga (by rw[<- r.1];omega)] at h2;rw[<- r.1] at h2;exact q.2 _ x d h1 h2
theorem RDL.snoc(r:RDL K C H xs ds)(h:RD K C H x d):RDL K C H (xs++[x]) (ds++[d]):=r.append (.cons h .nil)
theorem RDL.get{xs:List V}{ds:List D}{i:Nat}{d:D}(r:RDL K C H xs ds)(e:ds[i]?=some d):∃x,xs[i]?=some x/\RD K C H x d:=by
 have hi:=(Qn.mp e).1
 have hx:i<xs.length:=by rw[r.1];exact hi
 exact⟨xs[i],by simp[hx],r.2 i _ d (by simp[hx]) e⟩
theorem RDL.head(r:RDL K C H (x::xs) (d::ds)):RD K C H x d:=r.2 0 x d rfl rfl
theorem RDL.tail(r:RDL K C H (x::xs) (d::ds)):RDL K C H xs ds:=⟨by have:=r.1;simpa using this,fun i y e h1 h2=>r.2 (i+1) y e (by simpa using h1) (by simpa using h2)⟩
theorem RDL.take(n:Nat)(r:RDL K C H xs ds):RDL K C H (xs.take n) (ds.take n):=by
 refine⟨by simp[r.1],fun i x d h1 h2=>?_⟩;rw[List.getElem?_take] at h1 h2;split at h1
 ·rw[if_pos (by assumption)] at h2;exact r.2 i x d h1 h2
 ·cases h1
theorem RDL.drop(n:Nat)(r:RDL K C H xs ds):RDL K C H (xs.drop n) (ds.drop n):=by refine⟨by simp[r.1],fun i x d h1 h2=>?_⟩;rw[List.getElem?_drop] at h1 h2;exact r.2 _ x d h1 h2
theorem RDL.ints:∀{xs:List V} {ns:List Int},RDL K C H xs (ns.map D.int)->xs=ns.map V.int
 | [],[],_=>rfl
 | [],_::_,r=>by have:=r.1;simp at this
 | _::_,[],r=>by have:=r.1;simp at this
 | x::xs,n::ns,r=>by have h:=r.head;cases h;rw[RDL.ints r.tail];rfl
theorem RDL.ofInts:∀(ns:List Int),RDL K C H (ns.map V.int) (ns.map D.int)
 | []=>.nil
 | n::ns=>.cons (.int n) (RDL.ofInts ns)
theorem RDL.bls:∀{xs:List V} {ns:List Bool},RDL K C H xs (ns.map D.bl)->xs=ns.map V.bl
 | [],[],_=>rfl
 | [],_::_,r=>by have:=r.1;simp at this
 | _::_,[],r=>by have:=r.1;simp at this
 | x::xs,n::ns,r=>by have h:=r.head;cases h;rw[RDL.bls r.tail];rfl
theorem RDL.strs:∀{xs:List V} {ns:List Str},RDL K C H xs (ns.map D.str)->xs=ns.map V.str
 | [],[],_=>rfl
 | [],_::_,r=>by have:=r.1;simp at this
 | _::_,[],r=>by have:=r.1;simp at this
 | x::xs,n::ns,r=>by have h:=r.head;cases h;rw[RDL.strs r.tail];rfl
theorem RD.mkT(h:SqT K H a xs)(r:RDL K C H xs ds):RD K C H (.ref a) (.tup ds):=.tup h r.1 r.2
theorem RD.mkL(h:H a=some (.lst xs))(r:RDL K C H xs ds):RD K C H (.ref a) (.lst ds):=.lst h r.1 r.2
theorem RD.mkF(h:SqL K H a xs)(r:RDL K C H xs ds):RD K C H (.ref a) (.fz ds):=.fz h r.1 r.2
theorem RD.tupI(r:RD K C H v (.tup ds)):∃a xs,v=.ref a/\SqT K H a xs/\RDL K C H xs ds:=by
 cases r with
 | tup h l q=>exact⟨_,_,rfl,h,l,q⟩
theorem RD.lstI(r:RD K C H v (.lst ds)):∃a xs,v=.ref a/\H a=some (.lst xs)/\RDL K C H xs ds:=by
 cases r with
 | lst h l q=>exact⟨_,_,rfl,h,l,q⟩
theorem RD.fzI(r:RD K C H v (.fz ds)):∃a xs,v=.ref a/\SqL K H a xs/\RDL K C H xs ds:=by
 cases r with
 | fz h l q=>exact⟨_,_,rfl,h,l,q⟩
theorem RD.rowI(r:RD K C H v (.row ds)):∃x dx t ts,v=.ref x/\H x=some (.ins C dx (Je1 t))/\SqT K H t ts/\RDL K C H ts ds:=by
 cases r with
 | row h1 h2 l q=>exact⟨_,_,_,_,rfl,h1,h2,l,q⟩
theorem RD.mkD(h:H a=some (dkO ks xs))(hk:ks.length=ds.length)(r:RDL K C H xs ds):RD K C H (.ref a) (.dct ks ds):=.dct h hk r.1 r.2
theorem RD.dctI(r:RD K C H v (.dct ks ds)):∃a xs,v=.ref a/\H a=some (dkO ks xs)/\ks.length=ds.length/\RDL K C H xs ds:=by
 cases r with
 | dct h hk l q=>exact⟨_,_,rfl,h,hk,l,q⟩
theorem RD.mkZ(h:H a=some (.frz o (dkO ks xs)))(hk:ks.length=ds.length)(r:RDL K C H xs ds):RD K C H (.ref a) (.dfz ks ds):=.dfz h hk r.1 r.2
theorem RD.dfzI(r:RD K C H v (.dfz ks ds)):∃a xs o,v=.ref a/\H a=some (.frz o (dkO ks xs))/\ks.length=ds.length/\RDL K C H xs ds:=by
 cases r with
 | dfz h hk l q=>exact⟨_,_,_,rfl,h,hk,l,q⟩
theorem RD.intI(r:RD K C H v (.int i)):v=.int i:=by cases r;rfl
theorem RD.strI(r:RD K C H v (.str i)):v=.str i:=by cases r;rfl
theorem RD.blI(r:RD K C H v (.bl i)):v=.bl i:=by cases r;rfl
theorem RD.nonI(r:RD K C H v .non):v=.non:=by cases r;rfl
mutual
noncomputable def D.py:D->PyData
 | .non=>.none
 | .bl b=>.bool b
 | .int i=>.int i
 | .str x=>.str x
 | .tup l=>.tuple (D.pyL l)
 | .lst l=>.list (D.pyL l)
 | .fz l=>.list (D.pyL l)
 | .row _=>.dict []
 | .dct _ _=>.dict []
 | .dfz _ _=>.dict []
 | .exc _=>.dict []
noncomputable def D.pyL:List D->List PyData
 | []=>[]
 | d::ds=>d.py::D.pyL ds
end
theorem Jgk:∀ds:List D,D.pyL ds=ds.map D.py
 | []=>rfl
 | d::ds=>by rw[D.pyL,Jgk ds];rfl
theorem ZL:∀{ds:List PyData},Lw ds=true->∀d∈ds,d.canLay0=true
 | [],_,d,hd=>nomatch hd
 | x::ds,h,d,hd=>by
  have h':(PyData.canLay0 x && Lw ds)=true:=h;rw[QU] at h';rcases Qh.mp hd with z|z
  ·rw[z];exact h'.1
  ·exact ZL h'.2 d z
theorem RD.rep(r:RD K C H v d):d.py.canLay0=true->Rep K H v d.py:=by
 have all:∀{xs:List V} {ds:List D},xs.length=ds.length->(∀(i:Nat) (x:V) (d:D),xs[i]?=some x->ds[i]?=some d->d.py.canLay0=true->Rep K H x d.py)->Lw (D.pyL ds)=true->RepL K H xs (D.pyL ds):=by
  intro xs ds l ih hc;rw[Jgk] at hc ⊢;refine⟨by simpa using l,fun i x d h1 h2=>?_⟩;rw[Qp] at h2
  cases e:ds[i]? with
  | none=>rw[e] at h2;cases h2
  | some q=>rw[e] at h2;cases h2;exact ih i x q h1 e (ZL hc _ (QC.mpr ⟨q,QG e,rfl⟩))
 induction r with
 | non=>intro _;exact .non
 | bl b=>intro _;exact .bl b
 | int i=>intro _;exact .int i
 | str x=>intro _;exact .str x
 | tup h l _ ih=>intro hc;exact .tupL h (all l ih hc)
 | lst h l _ ih=>intro hc;exact .lstL (.of h) (all l ih hc)
 | fz h l _ ih=>intro hc;exact .lstL h (all l ih hc)
 | row h1 h2 l _ ih=>intro hc;cases hc
 | dct h1 h2 l _ ih=>intro hc;cases hc
 | dfz h1 h2 l _ ih=>intro hc;cases hc
 | exc h1 h2=>intro hc;cases hc
inductive Sl where
 | no|sh (d:D)|bo (ds:List D)|own (ds:List D)|bd (ks:List Int) (ds:List D)|od (ks:List Int) (ds:List D)|bt (ps:List (Int×Int)) (ds:List D)|ot (ps:List (Int×Int)) (ds:List D)
noncomputable def Yb:Sl->Bool
 | .own _=>true
 | .od _ _=>true
 | .ot _ _=>true
 | _=>false
noncomputable def Joq:Sl->Bool
 | .bo _=>true
 | .bd _ _=>true
 | .bt _ _=>true
 | _=>false
section
variable(K:Frag)(C:Addr)
noncomputable def RR(Hs H0 H:Hp)(v:V):Sl->Prop
 | .no=>False
 | .sh d=>RD K C H0 v d
 | .bo ds=>∃l xs,v=.ref l/\H l=some (.lst xs)/\RDL K C H0 xs ds
 | .own ds=>∃l xs,v=.ref l/\H l=some (.lst xs)/\H0 l=none/\Hs l=none/\RDL K C H0 xs ds
 | .bd ks ds=>∃l xs,v=.ref l/\H l=some (dkO ks xs)/\ks.length=ds.length/\RDL K C H0 xs ds
 | .bt ks ds=>∃l xs,v=.ref l/\H l=some (dtO ks xs)/\ks.length=ds.length/\RDL K C H0 xs ds
 | .od ks ds=>∃l xs,v=.ref l/\H l=some (dkO ks xs)/\H0 l=none/\Hs l=none/\ks.length=ds.length/\RDL K C H0 xs ds
 | .ot ks ds=>∃l xs,v=.ref l/\H l=some (dtO ks xs)/\H0 l=none/\Hs l=none/\ks.length=ds.length/\RDL K C H0 xs ds
noncomputable def RSl(B H0 H:Hp)(v:V):Sl->Prop
 | .no=>True
 | .sh d=>RD K C H0 v d
 | .bo ds=>∃l xs,v=.ref l/\B l=some (.lst xs)/\RDL K C H0 xs ds
 | .own ds=>∃l xs,v=.ref l/\H l=some (.lst xs)/\H0 l=none/\B l=none/\RDL K C H0 xs ds
 | .bd ks ds=>∃l xs,v=.ref l/\B l=some (dkO ks xs)/\ks.length=ds.length/\RDL K C H0 xs ds
 | .bt ks ds=>∃l xs,v=.ref l/\B l=some (dtO ks xs)/\ks.length=ds.length/\RDL K C H0 xs ds
 | .od ks ds=>∃l xs,v=.ref l/\H l=some (dkO ks xs)/\H0 l=none/\B l=none/\ks.length=ds.length/\RDL K C H0 xs ds
 | .ot ks ds=>∃l xs,v=.ref l/\H l=some (dtO ks xs)/\H0 l=none/\B l=none/\ks.length=ds.length/\RDL K C H0 xs ds
structure EnvR (B H0 H:Hp) (σ:St) (E:List Sl):Prop where
 b:Same B H
 h:Same H0 H
 len:σ.length=E.length
 at':∀(i:Nat) (s:Sl),E[i]?=some s->s=.no\/∃v,σ[i]?=some (some v)/\RSl K C B H0 H v s
 sep:∀(i j:Nat) (s t:Sl) (v:V),i≠j->E[i]?=some s->E[j]?=some t->Yb s=true->Yb t=true->σ[i]?=some (some v)->σ[j]?≠some (some v)
end
noncomputable def isT:HO->Bool
 | .tup _=>true
 | .frz _ (.tup _)=>true
 | _=>false
structure Step (Hs H0 H H0' H':Hp):Prop where
 h:Same H H'
 z:Same H0 H0'
 n:∀a o,H0' a=some o->H0 a=some o\/Hs a=none\/isT o=true
 i:Same H0' H'
structure SStep (B H0 H0' H':Hp):Prop where
 b:Same B H'
 z:Same H0 H0'
 n:∀a o,H0' a=some o->H0 a=some o\/B a=none\/isT o=true
 i:Same H0' H'
theorem Step.refl(i:Same H0 H):Step Hs H0 H H0 H:=⟨Same.refl _,Same.refl _,fun _ _ e=>.inl e,i⟩
theorem Step.comp(s1:Step Hs H0 H H0' H')(s2:Step Hs' H0' H' H0'' H'')(w:∀a,Hs' a=none->Hs a=none):Step Hs H0 H H0'' H'' :=
 ⟨s1.h.trans s2.h,s1.z.trans s2.z,fun a o e=>(s2.n a o e).elim (fun q=>s1.n a o q) fun q=>.inr (q.imp (w a) id),s2.i⟩
theorem Step.trans(s1:Step H H0 H H0' H')(s2:Step H' H0' H' H0'' H''):Step H H0 H H0'' H'':=s1.comp s2 fun _ q=>Same.free s1.h q
theorem Step.ss(b:Same B H)(s:Step H H0 H H0' H'):SStep B H0 H0' H':=⟨b.trans s.h,s.z,fun a o e=>(s.n a o e).imp id fun q=>q.imp (fun q=>Same.free b q) id,s.i⟩
theorem SStep.refl(b:Same B H)(i:Same H0 H):SStep B H0 H0 H:=⟨b,Same.refl _,fun _ _ e=>.inl e,i⟩
theorem SStep.trans(s1:SStep B H0 H0' H')(s2:SStep B H0' H0'' H''):SStep B H0 H0'' H'':=⟨s2.b,s1.z.trans s2.z,fun a o e=>(s2.n a o e).elim (fun q=>s1.n a o q) .inr,s2.i⟩
theorem RR.step(r:RR K C Hs H0 H v s)(st:Step H H0 H H0' H'):RR K C Hs H0' H' v s:=by
 cases s with
 | no=>exact r
 | sh d=>exact RD.mono st.z r
 | bo ds=>obtain⟨l,xs,e,h,q⟩:=r;exact⟨l,xs,e,st.h _ _ h,q.mono st.z⟩
 | bd ks ds=>obtain⟨l,xs,e,h,hk,q⟩:=r;exact⟨l,xs,e,st.h _ _ h,hk,q.mono st.z⟩
 | bt ks ds=>obtain⟨l,xs,e,h,hk,q⟩:=r;exact⟨l,xs,e,st.h _ _ h,hk,q.mono st.z⟩
 | own ds =>
  obtain⟨l,xs,e,h,n,m,q⟩:=r;refine⟨l,xs,e,st.h _ _ h,?_,m,q.mono st.z⟩
  cases z:H0' l with
  | none=>rfl
  | some o =>
   rcases st.n l o z with y|y|y
   ·rw[n] at y;cases y
   ·rw[h] at y;cases y
   ·have:=st.i l o z;rw[st.h _ _ h] at this;cases this;cases y
 | od ks ds =>
  obtain⟨l,xs,e,h,n,m,hk,q⟩:=r;refine⟨l,xs,e,st.h _ _ h,?_,m,hk,q.mono st.z⟩
  cases z:H0' l with
  | none=>rfl
  | some o =>
   rcases st.n l o z with y|y|y
   ·rw[n] at y;cases y
   ·rw[h] at y;cases y
   ·have:=st.i l o z;rw[st.h _ _ h] at this;cases this;cases y
 | ot ks ds =>
  obtain⟨l,xs,e,h,n,m,hk,q⟩:=r;refine⟨l,xs,e,st.h _ _ h,?_,m,hk,q.mono st.z⟩
  cases z:H0' l with
  | none=>rfl
  | some o =>
   rcases st.n l o z with y|y|y
   ·rw[n] at y;cases y
   ·rw[h] at y;cases y
   ·have:=st.i l o z;rw[st.h _ _ h] at this;cases this;cases y
theorem RR.weak(r:RR K C Hs' H0 H v s)(w:∀a,Hs' a=none->Hs a=none):RR K C Hs H0 H v s:=by
 cases s with
 | own ds=>obtain⟨l,xs,e,h,n,m,q⟩:=r;exact⟨l,xs,e,h,n,w _ m,q⟩
 | od ks ds=>obtain⟨l,xs,e,h,n,m,q⟩:=r;exact⟨l,xs,e,h,n,w _ m,q⟩
 | ot ks ds=>obtain⟨l,xs,e,h,n,m,q⟩:=r;exact⟨l,xs,e,h,n,w _ m,q⟩
 | _=>exact r
theorem RSl.owned(r:RSl K C B H0 H v s)(o:Yb s=true):∃l,v=.ref l/\H l≠none/\H0 l=none/\B l=none:=by
 cases s with
 | own ds=>obtain⟨l,xs,e,h,n,m,q⟩:=r;exact⟨l,e,(by rw[h];intro z;cases z),n,m⟩
 | od ks ds=>obtain⟨l,xs,e,h,n,m,q⟩:=r;exact⟨l,e,(by rw[h];intro z;cases z),n,m⟩
 | ot ks ds=>obtain⟨l,xs,e,h,n,m,q⟩:=r;exact⟨l,e,(by rw[h];intro z;cases z),n,m⟩
 | _=>cases o
theorem RR.owned(r:RR K C Hs H0 H v s)(o:Yb s=true):∃l,v=.ref l/\H l≠none/\H0 l=none/\Hs l=none:=by
 cases s with
 | own ds=>obtain⟨l,xs,e,h,n,m,q⟩:=r;exact⟨l,e,(by rw[h];intro z;cases z),n,m⟩
 | od ks ds=>obtain⟨l,xs,e,h,n,m,q⟩:=r;exact⟨l,e,(by rw[h];intro z;cases z),n,m⟩
 | ot ks ds=>obtain⟨l,xs,e,h,n,m,q⟩:=r;exact⟨l,e,(by rw[h];intro z;cases z),n,m⟩
 | _=>cases o
theorem EnvR.step(I:EnvR K C B H0 H σ E)(st:Step H H0 H H0' H'):EnvR K C B H0' H' σ E:=by
 refine⟨I.b.trans st.h,st.i,I.len,fun i s e=>?_,I.sep⟩;rcases I.at' i s e with z|⟨v,h1,h2⟩
 ·exact .inl z
 ·refine .inr ⟨v,h1,?_⟩
  cases s with
  | no=>trivial
  | sh d=>exact RD.mono st.z h2
  | bo ds=>obtain⟨l,xs,e,h,q⟩:=h2;exact⟨l,xs,e,h,q.mono st.z⟩
  | own ds=>exact RR.step (Hs:=B) (s:=.own ds) h2 st
  | bd ks ds=>obtain⟨l,xs,e,h,hk,q⟩:=h2;exact⟨l,xs,e,h,hk,q.mono st.z⟩
  | bt ks ds=>obtain⟨l,xs,e,h,hk,q⟩:=h2;exact⟨l,xs,e,h,hk,q.mono st.z⟩
  | od ks ds=>exact RR.step (Hs:=B) (s:=.od ks ds) h2 st
  | ot ks ds=>exact RR.step (Hs:=B) (s:=.ot ks ds) h2 st
theorem EnvR.sub(I:EnvR K C B H0 H σ E)(hl:E'.length=E.length)(h:∀(i:Nat) (s:Sl),E'[i]?=some s->s=.no\/E[i]?=some s):EnvR K C B H0 H σ E':=by
 refine⟨I.b,I.h,I.len.trans hl.symm,fun i s e=>?_,fun i j s t v hij e1 e2 o1 o2=>?_⟩
 ·rcases h i s e with z|z
  ·exact .inl z
  ·exact I.at' i s z
 ·rcases h i _ e1 with z|z
  ·subst z;cases o1
  ·rcases h j _ e2 with y|y
   ·subst y;cases o2
   ·exact I.sep i j s t v hij z y o1 o2
theorem EnvR.put(I:EnvR K C B H0 H σ E)(hi:i<E.length)(hB:∀a,Hs a=none->B a=none)(hf:∀(j:Nat) (t:Sl) (l:Addr),E[j]?=some t->Yb t=true->σ[j]?=some (some (.ref l))->Hs l≠none)(r:RR K C Hs H0 H v s)(hb:Joq s=false):EnvR K C B H0 H (σ.set i (some v)) (E.set i s):=by
 refine⟨I.b,I.h,by simp[I.len],fun j t e=>?_,fun j k s1 s2 u hjk e1 e2 o1 o2 e3 e4=>?_⟩
 ·rw[Q3] at e
  by_cases hj:i=j
  ·subst hj;rw[if_pos rfl,if_pos hi] at e;cases e;refine .inr ⟨v,by rw[Q3];simp[I.len,hi],?_⟩
   cases s with
   | no=>trivial
   | sh d=>exact r
   | bo ds=>cases hb
   | own ds=>obtain⟨l,xs,e,h,n,m,q⟩:=r;exact⟨l,xs,e,h,n,hB _ m,q⟩
   | bd ks ds=>cases hb
   | bt ks ds=>cases hb
   | od ks ds=>obtain⟨l,xs,e,h,n,m,q⟩:=r;exact⟨l,xs,e,h,n,hB _ m,q⟩
   | ot ks ds=>obtain⟨l,xs,e,h,n,m,q⟩:=r;exact⟨l,xs,e,h,n,hB _ m,q⟩
  ·rw[if_neg hj] at e;rcases I.at' j t e with z|⟨u,h1,h2⟩
   ·exact .inl z
   ·exact .inr ⟨u,by rw[Q3,if_neg hj];exact h1,h2⟩
 ·rw[Q3] at e1 e2 e3 e4
  by_cases hj:i=j
  ·subst hj;rw[if_neg hjk] at e2 e4;rw[if_pos rfl,if_pos hi] at e1;rw[if_pos rfl,if_pos (by rw[I.len];exact hi)] at e3;cases e3;cases e1;obtain⟨l,e,_,_,m⟩:=r.owned o1;subst e;exact hf k _ l e2 o2 e4 m
  ·rw[if_neg hj] at e1 e3
   by_cases hk:i=k
   ·subst hk;rw[if_pos rfl,if_pos hi] at e2;rw[if_pos rfl,if_pos (by rw[I.len];exact hi)] at e4;cases e2;have e4':v=u:=QK (QK e4);subst e4';obtain⟨l,e,_,_,m⟩:=r.owned o2;subst e;exact hf j _ l e1 o1 e3 m
   ·rw[if_neg hk] at e2 e4;exact I.sep j k _ _ u hjk e1 e2 o1 o2 e3 e4
theorem EnvR.ownG(I:EnvR K C B H0 H σ E){j:Nat}{t:Sl}{l:Addr}(e1:E[j]?=some t)(ho:Yb t=true)(e2:σ[j]?=some (some (.ref l))):H l≠none/\H0 l=none/\B l=none:=by
 rcases I.at' j _ e1 with z|⟨v,h1,h2⟩
 ·subst z;cases ho
 ·rw[e2] at h1;cases h1;obtain⟨l',e,h⟩:=h2.owned ho;cases e;exact h
theorem EnvR.put'{H1 H01:Hp}(I:EnvR K C B H0 H σ E)(st:Step H H0 H H01 H1){i:Nat}(hi:i<E.length)(r:RR K C H H01 H1 v s)(hb:Joq s=false):EnvR K C B H01 H1 (σ.set i (some v)) (E.set i s) :=
 (I.step st).put hi (fun a q=>Same.free I.b q) (fun j t l e1 o1 e2=>(I.ownG e1 o1 e2).1) r hb
noncomputable def Jf1:Option HO->Option HO
 | some o=>if isT o=true then some o else none
 | none=>none
noncomputable def JI(Hs H0 H:Hp):Hp:=fun a=>match H0 a with
 | some o=>some o
 | none=>match Hs a with
  | none=>H a
  | some _=>Jf1 (H a)
theorem ZK(e:Jf1 o=some u):o=some u/\isT u=true:=by
 cases o with
 | none=>cases e
 | some w =>
  unfold Jf1 at e;dsimp only at e;split at e
  ·cases e;exact⟨rfl,by assumption⟩
  ·cases e
theorem JC(i:Same H0 H):Step Hs H0 H (JI Hs H0 H) H:=by
 refine⟨Same.refl _,fun a o e=>by unfold JI;rw[e],fun a o e=>?_,fun a o e=>?_⟩
 ·unfold JI at e
  cases h:H0 a with
  | some u=>rw[h] at e;exact .inl e
  | none =>
   rw[h] at e
   cases h2:Hs a with
   | none=>exact .inr (.inl rfl)
   | some u=>rw[h2] at e;exact .inr (.inr (ZK e).2)
 ·unfold JI at e
  cases h:H0 a with
  | some u=>rw[h] at e;cases e;exact i a _ h
  | none =>
   rw[h] at e
   cases h2:Hs a with
   | none=>rw[h2] at e;exact e
   | some u=>rw[h2] at e;exact(ZK e).1
theorem Jbx(i:Same H0 H)(n:Hs a=none)(h:H a=some o):JI Hs H0 H a=some o:=by
 unfold JI
 cases z:H0 a with
 | some u=>rw[i a u z] at h;exact h
 | none=>dsimp only;rw[n];exact h
theorem Jby(i:Same H0 H)(n:isT o=true)(h:H a=some o):JI Hs H0 H a=some o:=by
 unfold JI
 cases z:H0 a with
 | some u=>rw[i a u z] at h;exact h
 | none =>
  dsimp only
  cases y:Hs a with
  | none=>exact h
  | some u=>dsimp only;rw[h];unfold Jf1;dsimp only;rw[if_pos n]
theorem JfU(i:Same H0 H)(h:SqT K H a xs):SqT K (JI Hs H0 H) a xs:=by
 rcases h with (h|⟨o,h⟩)|h
 ·exact .inl (.inl (Jby i rfl h))
 ·exact .inl (.inr ⟨o,Jby i rfl h⟩)
 ·exact .inr h
noncomputable def Sl.frz:Sl->Option D
 | .sh d=>some d
 | .own ds=>some (.lst ds)
 | .od ks ds=>some (.dct ks ds)
 | _=>none
theorem RR.frz{d:D}(i:Same H0 H)(r:RR K C Hs H0 H v s)(e:s.frz=some d):RD K C (JI Hs H0 H) v d:=by
 have st:Step Hs H0 H (JI Hs H0 H) H:=JC i
 cases s with
 | no=>cases e
 | sh d'=>cases e;exact RD.mono st.z r
 | bo ds=>cases e
 | own ds=>cases e;obtain⟨l,xs,e,h,n,m,q⟩:=r;subst e;exact .mkL (Jbx i m h) (q.mono st.z)
 | bd ks ds=>cases e
 | bt ks ds=>cases e
 | od ks ds=>cases e;obtain⟨l,xs,e,h,n,m,hk,q⟩:=r;subst e;exact .mkD (Jbx i m h) hk (q.mono st.z)
 | ot ks ds=>cases e
end LE
namespace LE
open PySem L2 LR
noncomputable abbrev En:=List Sl
noncomputable abbrev Ev:=En->Option Sl
section
variable(K:Frag)(C:Addr)
noncomputable def SE(te:TE)(ev:Ev):Prop:=∀(B H0 H:Hp) (σ:St) (E:En) (r:Sl) (Q:VK),EnvR K C B H0 H σ E->ev E=some r ->
 (∀v H0' H',Step H H0 H H0' H'->RR K C H H0' H' v r->Q v H')->te σ H Q
noncomputable def ST(t:TT)(ev:En->Option Bool):Prop:=∀(B H0 H:Hp) (σ:St) (E:En) (r:Bool) (Q:Bool->Hp->Prop),EnvR K C B H0 H σ E->ev E=some r ->
 (∀H0' H',Step H H0 H H0' H'->Q r H')->t σ H Q
inductive RRL (Hs H0 H:Hp):List V->List Sl->Prop
 | nil:RRL Hs H0 H [] []
 | cons {v:V} {s:Sl} {vs:List V} {ss:List Sl}:RR K C Hs H0 H v s->RRL Hs H0 H vs ss->RRL Hs H0 H (v::vs) (s::ss)
noncomputable def SA(t:TA)(ev:En->Option (List Sl)):Prop:=∀(B H0 H:Hp) (σ:St) (E:En) (r:List Sl) (Q:List V->Hp->Prop),EnvR K C B H0 H σ E->ev E=some r ->
 (∀vs H0' H',Step H H0 H H0' H'->RRL K C H H0' H' vs r->Q vs H')->t σ H Q
noncomputable def OpS(r:R2)(f:Sl->Sl->Option Sl):Prop:=∀(Hs H0 H:Hp) (x y:V) (a b c:Sl) (Q:VK),Same H0 H->Same Hs H->RR K C Hs H0 H x a->RR K C Hs H0 H y b->f a b=some c ->
 (∀v H0' H',Step Hs H0 H H0' H'->RR K C Hs H0' H' v c->Q v H')->r x y H Q
noncomputable def UnS(r:V->Hp->VK->Prop)(f:Sl->Option Sl):Prop:=∀(Hs H0 H:Hp) (x:V) (a c:Sl) (Q:VK),Same H0 H->Same Hs H->RR K C Hs H0 H x a->f a=some c ->
 (∀v H0' H',Step Hs H0 H H0' H'->RR K C Hs H0' H' v c->Q v H')->r x H Q
noncomputable def VU(r:List V->Hp->VK->Prop)(f:List Sl->Option Sl):Prop:=∀(Hs H0 H:Hp) (xs:List V) (as:List Sl) (c:Sl) (Q:VK),Same H0 H->Same Hs H->RRL K C Hs H0 H xs as->f as=some c ->
 (∀v H0' H',Step Hs H0 H H0' H'->RR K C Hs H0' H' v c->Q v H')->r xs H Q
end
noncomputable def Jb(i:Nat):Ev:=fun E=>match E[i]? with
 | some (.sh d)=>some (.sh d)
 | some (.bo ds)=>some (.bo ds)
 | some (.own ds)=>some (.bo ds)
 | some (.bd ks ds)=>some (.bd ks ds)
 | some (.od ks ds)=>some (.bd ks ds)
 | some (.bt ks ds)=>some (.bt ks ds)
 | some (.ot ks ds)=>some (.bt ks ds)
 | _=>none
noncomputable def eC(d:D):Ev:=fun _=>some (.sh d)
noncomputable def e2(f:Sl->Sl->Option Sl)(a b:Ev):Ev:=fun E=>(a E).bind fun x=>(b E).bind fun y=>f x y
noncomputable def e1(f:Sl->Option Sl)(a:Ev):Ev:=fun E=>(a E).bind f
noncomputable def a0:En->Option (List Sl):=fun _=>some []
noncomputable def aC(a:Ev)(as:En->Option (List Sl)):En->Option (List Sl):=fun E=>(a E).bind fun x=>(as E).bind fun xs=>some (x::xs)
noncomputable def eF(f:List Sl->Option Sl)(as:En->Option (List Sl)):Ev:=fun E=>(as E).bind f
noncomputable def bool?:Sl->Option Bool
 | .sh (.bl b)=>some b
 | _=>none
noncomputable def Jn7(a b:Ev):Ev:=fun E=>((a E).bind bool?).bind fun k=>if k=true then b E else some (.sh (.bl false))
noncomputable def Jn8(a:Ev):Ev:=fun E=>((a E).bind bool?).bind fun k=>some (.sh (.bl (!k)))
noncomputable def eIf(c:En->Option Bool)(a b:Ev):Ev:=fun E=>(c E).bind fun k=>if k=true then a E else b E
noncomputable def sh?:Sl->Option D
 | .sh d=>some d
 | _=>none
noncomputable def Jei(f g:Sl->Sl->Option Sl)(a b c:Ev):Ev:=fun E=>((a E).bind sh?).bind fun x=>((b E).bind sh?).bind fun y=>((f (.sh x) (.sh y)).bind bool?).bind fun k=>if k=true then((c E).bind sh?).bind fun z=>g (.sh y) (.sh z) else some (.sh (.bl false))
noncomputable def tB?(a:Ev):En->Option Bool:=fun E=>(a E).bind bool?
noncomputable def tAnd?(a b:En->Option Bool):En->Option Bool:=fun E=>(a E).bind fun k=>if k=true then b E else some false
noncomputable def tOr?(a b:En->Option Bool):En->Option Bool:=fun E=>(a E).bind fun k=>if k=true then some true else b E
noncomputable def tNot?(a:En->Option Bool):En->Option Bool:=fun E=>(a E).bind fun k=>some (!k)
theorem bind_some{α β:Type}{x:Option α}{f:α->Option β}{b:β}(e:x.bind f=some b):∃a,x=some a/\f a=some b:=by
 cases x with
 | none=>cases e
 | some a=>exact⟨a,rfl,e⟩
theorem Uz(e:bool? s=some b):s=.sh (.bl b):=by
 cases s with
 | sh d=>cases d with
  | bl x=>cases e;rfl
  | _=>cases e
 | _=>cases e
theorem Uq(i:Nat):SE K C (Wj i) (Jb i):=by
 intro B H0 H σ E r Q I e q;unfold Jb at e
 cases h:E[i]? with
 | none=>rw[h] at e;cases e
 | some s =>
  rw[h] at e;rcases I.at' i s h with z|⟨v,h1,h2⟩
  ·subst z;cases e
  ·refine⟨v,h1,q v H0 H (.refl I.h) ?_⟩
   cases s with
   | no=>cases e
   | sh d=>cases e;exact h2
   | bo ds=>cases e;obtain⟨l,xs,e,hl,r⟩:=h2;exact⟨l,xs,e,I.b _ _ hl,r⟩
   | own ds=>cases e;obtain⟨l,xs,e,hl,_,_,r⟩:=h2;exact⟨l,xs,e,hl,r⟩
   | bd ks ds=>cases e;obtain⟨l,xs,e,hl,r⟩:=h2;exact⟨l,xs,e,I.b _ _ hl,r⟩
   | bt ks ds=>cases e;obtain⟨l,xs,e,hl,r⟩:=h2;exact⟨l,xs,e,I.b _ _ hl,r⟩
   | od ks ds=>cases e;obtain⟨l,xs,e,hl,_,_,r⟩:=h2;exact⟨l,xs,e,hl,r⟩
   | ot ks ds=>cases e;obtain⟨l,xs,e,hl,_,_,r⟩:=h2;exact⟨l,xs,e,hl,r⟩
theorem JrF:SE K C (tC .non) (eC .non):=fun _ _ _ _ _ _ _ I e q=>by cases e;exact q _ _ _ (.refl I.h) .non
theorem Jsj:SE K C (tC (.bl b)) (eC (.bl b)):=fun _ _ _ _ _ _ _ I e q=>by cases e;exact q _ _ _ (.refl I.h) (.bl b)
theorem Jkc:SE K C (tC (.int i)) (eC (.int i)):=fun _ _ _ _ _ _ _ I e q=>by cases e;exact q _ _ _ (.refl I.h) (.int i)
theorem JmH(ho:OpS K C r f)(ha:SE K C ta ea)(hb:SE K C tb eb):SE K C (tOp r ta tb) (e2 f ea eb):=by
 intro B H0 H σ E c Q I e q;obtain⟨a,e1,e⟩:=bind_some e;obtain⟨b,e2,e⟩:=bind_some e;exact ha B H0 H σ E a _ I e1 fun x H1 H1' s1 r1=>hb B H1 H1' σ E b _ (I.step s1) e2 fun y H2 H2' s2 r2=>ho H H2 H2' x y a b c Q s2.i (s1.h.trans s2.h) (r1.step s2) (r2.weak fun a q=>Same.free s1.h q) e fun v H3 H3' s3 r3=>q v H3 H3' ((s1.trans s2).comp s3 fun _ z=>z) r3
theorem Jsl(ho:UnS K C r f)(ha:SE K C ta ea):SE K C (tUn r ta) (e1 f ea):=by intro B H0 H σ E c Q I e q;obtain⟨a,e1,e⟩:=bind_some e;exact ha B H0 H σ E a _ I e1 fun x H1 H1' s1 r1=>ho H H1 H1' x a c Q s1.i s1.h r1 e fun v H3 H3' s3 r3=>q v H3 H3' (s1.comp s3 fun _ z=>z) r3
theorem Vp:SA K C VO a0:=fun _ _ _ _ _ _ _ I e q=>by cases e;exact q _ _ _ (.refl I.h) .nil
theorem RRL.weak(r:RRL K C Hs' H0 H vs ss)(w:∀a,Hs' a=none->Hs a=none):RRL K C Hs H0 H vs ss:=by
 induction r with
 | nil=>exact .nil
 | cons h _ ih=>exact .cons (h.weak w) ih
theorem YS(ha:SE K C ta ea)(hr:SA K C tr er):SA K C (Ur ta tr) (aC ea er):=by
 intro B H0 H σ E c Q I e q;obtain⟨a,e1,e⟩:=bind_some e;obtain⟨b,e2,e⟩:=bind_some e;cases e;exact ha B H0 H σ E a _ I e1 fun x H1 H1' s1 r1=>hr B H1 H1' σ E b _ (I.step s1) e2 fun y H2 H2' s2 r2=>q _ H2 H2' (s1.trans s2) (.cons (r1.step s2) (r2.weak fun a q=>Same.free s1.h q))
theorem Jsi(hc:VU K C r f)(ha:SA K C t ev):SE K C (tCB r t) (eF f ev):=by intro B H0 H σ E c Q I e q;obtain⟨a,e1,e⟩:=bind_some e;exact ha B H0 H σ E a _ I e1 fun x H1 H1' s1 r1=>hc H H1 H1' x a c Q s1.i s1.h r1 e fun v H3 H3' s3 r3=>q v H3 H3' (s1.comp s3 fun _ z=>z) r3
theorem Jry(ha:SE K C ta ea)(hb:SE K C tb eb):SE K C (JnJ ta tb) (Jn7 ea eb):=by
 intro B H0 H σ E c Q I e q;obtain⟨k,e1,e⟩:=bind_some e;obtain⟨a,e0,e1⟩:=bind_some e1;refine ha B H0 H σ E a _ I e0 fun x H1 H1' s1 r1=>?_
 rw[Uz e1] at r1;refine⟨k,RD.blI r1,?_⟩
 cases k with
 | true=>exact hb B H1 H1' σ E c Q (I.step s1) e fun y H2 H2' s2 r2=>q y H2 H2' (s1.trans s2) (r2.weak fun a q=>Same.free s1.h q)
 | false=>cases e;exact q _ _ _ s1 (RD.bl false)
theorem JrG(ha:SE K C ta ea):SE K C (JnM ta) (Jn8 ea):=by
 intro B H0 H σ E c Q I e q;obtain⟨k,e1,e⟩:=bind_some e;obtain⟨a,e0,e1⟩:=bind_some e1;refine ha B H0 H σ E a _ I e0 fun x H1 H1' s1 r1=>?_
 rw[Uz e1] at r1;cases e;exact⟨k,RD.blI r1,q _ _ _ s1 (RD.bl _)⟩
theorem JrD(hc:ST K C c cv)(ha:SE K C ta ea)(hb:SE K C tb eb):SE K C (tIf c ta tb) (eIf cv ea eb):=by
 intro B H0 H σ E r Q I e q;obtain⟨k,e1,e⟩:=bind_some e;refine hc B H0 H σ E k _ I e1 fun H1 H1' s1=>?_
 cases k with
 | true=>exact ha B H1 H1' σ E r Q (I.step s1) e fun y H2 H2' s2 r2=>q y H2 H2' (s1.trans s2) (r2.weak fun a q=>Same.free s1.h q)
 | false=>exact hb B H1 H1' σ E r Q (I.step s1) e fun y H2 H2' s2 r2=>q y H2 H2' (s1.trans s2) (r2.weak fun a q=>Same.free s1.h q)
theorem We(e:sh? s=some d):s=.sh d:=by
 cases s with
 | sh d'=>cases e;rfl
 | _=>cases e
theorem JmB(ho:OpS K C r f)(ho':OpS K C r' g)(ha:SE K C ta ea)(hb:SE K C tb eb)(hc:SE K C tc ec):SE K C (Jkp r r' ta tb tc) (Jei f g ea eb ec):=by
 intro B H0 H σ E c Q I e q;obtain⟨a,e1,e⟩:=bind_some e;obtain⟨a',e1,f1⟩:=bind_some e1;obtain rfl:=We f1;obtain⟨b,e2,e⟩:=bind_some e;obtain⟨b',e2,f2⟩:=bind_some e2;obtain rfl:=We f2;obtain⟨k,e3,e⟩:=bind_some e;obtain⟨z,e4,e3⟩:=bind_some e3;refine ha B H0 H σ E _ _ I e1 fun x H1 H1' s1 r1=>hb B H1 H1' σ E _ _ (I.step s1) e2 fun y H2 H2' s2 r2=>?_
 have x2:RD K C H2 x a:=RD.mono s2.z r1
 have y2:RD K C H2 y b:=r2;refine ho H2' H2 H2' x y (.sh a) (.sh b) z _ s2.i (Same.refl _) x2 y2 e4 fun w H3 H3' s3 r3=>?_
 rw[Uz e3] at r3;have s13:=(s1.trans s2).trans s3;refine⟨k,RD.blI r3,?_⟩
 cases k with
 | false=>cases e;exact q _ _ _ s13 (RD.bl false)
 | true =>
  obtain⟨d,e5,e⟩:=bind_some e;obtain⟨d',e5,f5⟩:=bind_some e5;obtain rfl:=We f5;refine hc B H3 H3' σ E _ _ (I.step s13) e5 fun u H4 H4' s4 r4=>?_
  exact ho' H H4 H4' y u (.sh b) (.sh d) c Q s4.i (s13.h.trans s4.h) (RD.mono (s3.z.trans s4.z) y2) (show RD K C H4 u d from r4) e fun v H5 H5' s5 r5=>q v H5 H5' ((s13.trans s4).comp s5 fun _ z=>z) r5
theorem JpW(ha:SE K C te ea):ST K C (JgG te) (tB? ea):=by
 intro B H0 H σ E k Q I e q;obtain⟨a,e1,e⟩:=bind_some e;refine ha B H0 H σ E a _ I e1 fun x H1 H1' s1 r1=>?_
 rw[Uz e] at r1;exact⟨k,RD.blI r1,q _ _ s1⟩
theorem JpU(hc:ST K C c ev)(hd:ST K C d ew):ST K C (Jp3 c d) (tAnd? ev ew):=by
 intro B H0 H σ E k Q I e q;obtain⟨a,e1,e⟩:=bind_some e;refine hc B H0 H σ E a _ I e1 fun H1 H1' s1=>?_
 cases a with
 | true=>exact hd B H1 H1' σ E k Q (I.step s1) e fun H2 H2' s2=>q H2 H2' (s1.trans s2)
 | false=>cases e;exact q _ _ s1
theorem JrH(hc:ST K C c ev)(hd:ST K C d ew):ST K C (tOr c d) (tOr? ev ew):=by
 intro B H0 H σ E k Q I e q;obtain⟨a,e1,e⟩:=bind_some e;refine hc B H0 H σ E a _ I e1 fun H1 H1' s1=>?_
 cases a with
 | false=>exact hd B H1 H1' σ E k Q (I.step s1) e fun H2 H2' s2=>q H2 H2' (s1.trans s2)
 | true=>cases e;exact q _ _ s1
theorem JpV(hc:ST K C c ev):ST K C (JrO c) (tNot? ev):=by intro B H0 H σ E k Q I e q;obtain⟨a,e1,e⟩:=bind_some e;cases e;exact hc B H0 H σ E a _ I e1 fun H1 H1' s1=>q _ _ s1
noncomputable def Sl.m:Sl->Option (List D)
 | .sh (.lst ds)=>some ds
 | .bo ds=>some ds
 | .own ds=>some ds
 | _=>none
noncomputable def Sl.r:Sl->Option (List D)
 | .sh (.lst ds)=>some ds
 | .sh (.fz ds)=>some ds
 | .bo ds=>some ds
 | .own ds=>some ds
 | _=>none
noncomputable def Sl.q:Sl->Option (List D)
 | .sh (.lst ds)=>some ds
 | .sh (.fz ds)=>some ds
 | .sh (.tup ds)=>some ds
 | .bo ds=>some ds
 | .own ds=>some ds
 | _=>none
noncomputable def Sl.d:Sl->Option D
 | .sh d=>some d
 | .bo ds=>some (.lst ds)
 | .own ds=>some (.lst ds)
 | .bd ks ds=>some (.dct ks ds)
 | .od ks ds=>some (.dct ks ds)
 | .bt _ _=>none
 | .ot _ _=>none
 | .no=>none
theorem RR.m(r:RR K C Hs H0 H v s)(i:Same H0 H)(e:s.m=some ds):∃l xs,v=.ref l/\H l=some (.lst xs)/\RDL K C H0 xs ds:=by
 cases s with
 | no=>cases e
 | bo es=>cases e;exact r
 | own es=>cases e;obtain⟨l,xs,h1,h2,_,_,h3⟩:=r;exact⟨l,xs,h1,h2,h3⟩
 | bd _ _=>cases e
 | bt _ _=>cases e
 | od _ _=>cases e
 | ot _ _=>cases e
 | sh d=>cases d with
  | lst es=>cases e;obtain⟨l,xs,h1,h2,h3⟩:=RD.lstI r;exact⟨l,xs,h1,i _ _ h2,h3⟩
  | _=>cases e
theorem RR.r(r:RR K C Hs H0 H v s)(i:Same H0 H)(e:s.r=some ds):∃l xs,v=.ref l/\SqL K H l xs/\RDL K C H0 xs ds:=by
 cases s with
 | no=>cases e
 | bo es=>cases e;obtain⟨l,xs,h1,h2,h3⟩:=r;exact⟨l,xs,h1,.of h2,h3⟩
 | own es=>cases e;obtain⟨l,xs,h1,h2,_,_,h3⟩:=r;exact⟨l,xs,h1,.of h2,h3⟩
 | bd _ _=>cases e
 | bt _ _=>cases e
 | od _ _=>cases e
 | ot _ _=>cases e
 | sh d=>cases d with
  | lst es=>cases e;obtain⟨l,xs,h1,h2,h3⟩:=RD.lstI r;exact⟨l,xs,h1,.of (i _ _ h2),h3⟩
  | fz es=>cases e;obtain⟨l,xs,h1,h2,h3⟩:=RD.fzI r;exact⟨l,xs,h1,i.seq h2,h3⟩
  | _=>cases e
theorem RR.q(r:RR K C Hs H0 H v s)(i:Same H0 H)(e:s.q=some ds):∃l xs,v=.ref l/\(SqL K H l xs\/SqT K H l xs)/\RDL K C H0 xs ds:=by
 cases s with
 | no=>cases e
 | bo es=>cases e;obtain⟨l,xs,h1,h2,h3⟩:=r;exact⟨l,xs,h1,.inl (.of h2),h3⟩
 | own es=>cases e;obtain⟨l,xs,h1,h2,_,_,h3⟩:=r;exact⟨l,xs,h1,.inl (.of h2),h3⟩
 | bd _ _=>cases e
 | bt _ _=>cases e
 | od _ _=>cases e
 | ot _ _=>cases e
 | sh d=>cases d with
  | lst es=>cases e;obtain⟨l,xs,h1,h2,h3⟩:=RD.lstI r;exact⟨l,xs,h1,.inl (.of (i _ _ h2)),h3⟩
  | fz es=>cases e;obtain⟨l,xs,h1,h2,h3⟩:=RD.fzI r;exact⟨l,xs,h1,.inl (i.seq h2),h3⟩
  | tup es=>cases e;obtain⟨l,xs,h1,h2,h3⟩:=RD.tupI r;exact⟨l,xs,h1,.inr (i.seqT h2),h3⟩
  | _=>cases e
theorem RR.dat(r:RR K C Hs H0 H v s)(i:Same H0 H)(e:s.d=some d):RD K C H v d:=by
 cases s with
 | no=>cases e
 | bo es=>cases e;obtain⟨l,xs,h1,h2,h3⟩:=r;subst h1;exact .mkL h2 (h3.mono i)
 | own es=>cases e;obtain⟨l,xs,h1,h2,_,_,h3⟩:=r;subst h1;exact .mkL h2 (h3.mono i)
 | bd _ _=>cases e;obtain⟨l,xs,h1,h2,hk,h3⟩:=r;subst h1;exact .mkD h2 hk (h3.mono i)
 | bt _ _=>cases e
 | od _ _=>cases e;obtain⟨l,xs,h1,h2,_,_,hk,h3⟩:=r;subst h1;exact .mkD h2 hk (h3.mono i)
 | ot _ _=>cases e
 | sh d'=>cases e;exact RD.mono i r
theorem YD{p:Addr}{xs:List V}{Q:VK}(i:Same H0 H)(hs:Same Hs H)(hp:H p=none)(r:RDL K C H0 xs ds)(q:∀v H0' H',Step Hs H0 H H0' H'->RR K C Hs H0' H' v (.own ds)->Q v H'):Q (.ref p) (upd H p (.lst xs)) :=
 q _ H0 _ ⟨.new hp,Same.refl _,fun _ _ e=>.inl e,i.trans (.new hp)⟩ ⟨p,xs,rfl,Jk,Same.free i hp,Same.free hs hp,r⟩
theorem Jch{p:Addr}{xs:List V}{Q:VK}(i:Same H0 H)(hs:Same Hs H)(hp:H p=none)(r:RDL K C H0 xs ds)(q:∀v H0' H',Step Hs H0 H H0' H'->RR K C Hs H0' H' v (.sh (.tup ds))->Q v H'):Q (.ref p) (upd H p (.tup xs)):=by
 have h0:H0 p=none:=Same.free i hp;refine q _ (upd H0 p (.tup xs)) _ ⟨.new hp,.new h0,fun a o e=>?_,fun a o e=>?_⟩ ?_
 ·by_cases h:a=p
  ·subst h;exact .inr (.inl (Same.free hs hp))
  ·rw[Jh h] at e;exact .inl e
 ·by_cases h:a=p
  ·subst h;rw[Jk] at e ⊢;exact e
  ·rw[Jh h] at e ⊢;exact i a o e
 ·exact RD.mkT (.of Jk) (r.mono (.new h0))
noncomputable def fI(g:Int->Int->D):Sl->Sl->Option Sl
 | .sh (.int a),.sh (.int b)=>some (.sh (g a b))
 | _,_=>none
noncomputable def fIc(c:Int->Int->Bool)(g:Int->Int->D):Sl->Sl->Option Sl
 | .sh (.int a),.sh (.int b)=>if c a b=true then some (.sh (g a b)) else none
 | _,_=>none
noncomputable def Jg9(x y:Sl):Option Sl:=x.m.bind fun a=>y.m.bind fun b=>if a.length+b.length<=sizeLine then some (.own (a++b)) else none
noncomputable def YA:Sl->Sl->Option Sl
 | .sh (.int a),.sh (.int b)=>some (.sh (.int (a+b)))
 | .sh (.str a),.sh (.str b)=>if a.length+b.length<=sizeLine then some (.sh (.str (a++b))) else none
 | .sh (.tup a),.sh (.tup b)=>if a.isEmpty=false/\b.isEmpty=false/\a.length+b.length<=sizeLine then some (.sh (.tup (a++b))) else none
 | .sh (.lst a),y=>Jg9 (.sh (.lst a)) y
 | .bo a,y=>Jg9 (.bo a) y
 | .own a,y=>Jg9 (.own a) y
 | _,_=>none
noncomputable abbrev YX:=fI fun a b=>.int (a-b)
noncomputable abbrev fLt:=fI fun a b=>.bl (decide (a<b))
noncomputable abbrev fLe:=fI fun a b=>.bl (decide (a<=b))
noncomputable abbrev fGt:=fI fun a b=>.bl (decide (b<a))
noncomputable def Wh(a:Int):Bool:=Nat.ble a.natAbs 18446744073709551615
theorem US:Wh a=true↔-18446744073709551616<a/\a<18446744073709551616:=by unfold Wh;rw[KC];omega
noncomputable def Jfe(a:Int):Bool:=Nat.ble a.natAbs 1073741823 && decide (0<a)
theorem smallP_ok:Jfe a=true↔0<a/\a<1073741824:=by unfold Jfe;rw[QU,KC,decide_eq_true_eq];omega
noncomputable abbrev Vx:=fIc (fun a b=>Wh a || Wh b) fun a b=>.int (a*b)
noncomputable abbrev W0:=fIc (fun _ b=>decide (0<b)) fun a b=>.int (a % b)
noncomputable abbrev Jeu:=fIc (fun _ b=>Jfe b) fun a b=>.int (a / b)
noncomputable abbrev Jlo:=fIc (fun a b=>decide (0<=b) && Nat.ble b.natAbs 1000000 && Wh a) fun a b=>.int (a ^ b.toNat)
noncomputable def JcO:Sl->Option Sl
 | .sh (.int a)=>some (.sh (.int (-a)))
 | _=>none
noncomputable def eqD(d e:D):Option Bool:=if (d.py.canLay0 && e.py.canLay0 && decide (min d.py.depth e.py.depth<=60))=true then some (LX d.py e.py) else none
noncomputable def eqA:D->D->Option Bool
 | .int a,.int b=>some (decide (a=b))
 | .str a,.str b=>some (decide (a=b))
 | .bl a,.bl b=>some (decide (a=b))
 | .non,.non=>some true
 | .non,.int _=>some false
 | .int _,.non=>some false
 | .non,.str _=>some false
 | .str _,.non=>some false
 | .non,.bl _=>some false
 | .bl _,.non=>some false
 | .int _,.str _=>some false
 | .str _,.int _=>some false
 | d,e=>eqD d e
noncomputable def fEq(x y:Sl):Option Sl:=x.d.bind fun d=>y.d.bind fun e=>(eqA d e).map fun k=>.sh (.bl k)
noncomputable def fNe(x y:Sl):Option Sl:=x.d.bind fun d=>y.d.bind fun e=>(eqA d e).map fun k=>.sh (.bl (!k))
noncomputable def D.isNon:D->Bool
 | .non=>true
 | _=>false
noncomputable def fIs:Sl->Sl->Option Sl
 | x,.sh .non=>x.d.map fun d=>.sh (.bl d.isNon)
 | _,_=>none
noncomputable def Vw:Sl->Sl->Option Sl
 | x,.sh .non=>x.d.map fun d=>.sh (.bl (!d.isNon))
 | _,_=>none
noncomputable def fIx:Sl->Sl->Option Sl
 | .sh (.str z),.sh (.int i)=>if z.length<=sizeLine then(atI z.cps.toList i).map fun c=>.sh (.str ⟨#[c]⟩) else none
 | x,.sh (.int i)=>x.q.bind fun ds=>(atI ds i).map .sh
 | _,_=>none
theorem o_I(h:∀i j H,RD K C H (g i j) (g' i j)):OpS K C (rI0 g) (fI g'):=by
 intro Hs H0 H x y a b c Q i hs ra rb e q;unfold fI at e;split at e
 ·cases e;exact⟨_,_,RD.intI ra,RD.intI rb,q _ _ _ (.refl i) (h _ _ _)⟩
 ·cases e
theorem Jhy(hp:∀i j,c' i j=true->P i j)(h:∀i j H,RD K C H (g i j) (g' i j)):OpS K C (rI P g) (fIc c' g'):=by
 intro Hs H0 H x y a b c Q i hs ra rb e q;unfold fIc at e;split at e
 ·split at e
  ·cases e;exact⟨_,_,RD.intI ra,RD.intI rb,hp _ _ (by assumption),q _ _ _ (.refl i) (h _ _ _)⟩
  ·cases e
 ·cases e
theorem Jjr:OpS K C (rI0 fun i j=>.int (i-j)) YX:=o_I fun _ _ _=>.int _
theorem Jsd:OpS K C (rI0 fun i j=>.bl (decide (i<j))) fLt:=o_I fun _ _ _=>.bl _
theorem Jsc:OpS K C (rI0 fun i j=>.bl (decide (i<=j))) fLe:=o_I fun _ _ _=>.bl _
theorem Jr9:OpS K C (rI0 fun i j=>.bl (decide (j<i))) fGt:=o_I fun _ _ _=>.bl _
theorem Jq8:OpS K C (rI CMul fun i j=>.int (i*j)) Vx:=Jhy (fun i j h=>by simp only[LS,US] at h;exact h) fun _ _ _=>.int _
theorem Jq7:OpS K C (rI (fun _ j=>0<j) fun i j=>.int (i % j)) W0:=Jhy (fun i j h=>by simpa using h) fun _ _ _=>.int _
theorem Jq5:OpS K C (rI Jqk fun i j=>.int (i / j)) Jeu:=Jhy (fun i j h=>smallP_ok.mp h) fun _ _ _=>.int _
theorem Jq9:OpS K C (rI Jql fun i j=>.int (i ^ j.toNat)) Jlo:=Jhy (fun i j h=>by simp only[QU,decide_eq_true_eq,KC,US] at h;refine⟨h.1.1,by omega,?_⟩;show i.natAbs<18446744073709551616;omega) fun _ _ _=>.int _
theorem JrT:UnS K C (rU fun i=>.int (-i)) JcO:=by
 intro Hs H0 H x a c Q i hs ra e q;unfold JcO at e;split at e
 ·cases e;exact⟨_,RD.intI ra,q _ _ _ (.refl i) (RD.int _)⟩
 ·cases e
noncomputable def JjS(K:Frag):R2:=fun x y H Q=>Jgl K x y H Q\/JnD K x y H Q
theorem JD{X:Cx}(hK:X.K=K):OpR X (binaryOp .Add) (JjS K):=(Jgf hK).or (hK▸Jl1)
theorem Jnz:OpS K C (JjS K) YA:=by
 intro Hs H0 H x y a b c Q i hs ra rb e q
 have cat:∀{a b:Sl},RR K C Hs H0 H x a->RR K C Hs H0 H y b->Jg9 a b=some c->JjS K x y H Q:=by
  intro a b ra rb e;obtain⟨xs,e1,e⟩:=bind_some e;obtain⟨ys,e2,e⟩:=bind_some e;split at e
  ·next hz=>cases e;obtain⟨l,us,rfl,h1,r1⟩:=ra.m i e1;obtain⟨l',ws,rfl,h2,r2⟩:=rb.m i e2;exact .inl (.inr (.inr ⟨l,l',us,ws,rfl,rfl,h1,h2,by rw[r1.1,r2.1];exact hz,fun p hp=>YD i hs hp (r1.append r2) q⟩))
  ·cases e
 unfold YA at e;split at e
 ·cases e;exact .inl (.inl ⟨_,_,RD.intI ra,RD.intI rb,q _ _ _ (.refl i) (RD.int _)⟩)
 ·split at e
  ·cases e;exact .inl (.inr (.inl ⟨_,_,RD.strI ra,RD.strI rb,by assumption,q _ _ _ (.refl i) (RD.str _)⟩))
  ·cases e
 ·split at e
  ·next hz =>
   cases e;obtain⟨l,us,rfl,h1,r1⟩:=RD.tupI ra;obtain⟨l',ws,rfl,h2,r2⟩:=RD.tupI rb;have n1:us≠[]:=by rintro rfl;have:=r1.1;have z:=hz.1;simp at this;rw[Qy this.symm] at z;cases z
   have n2:ws≠[]:=by rintro rfl;have:=r2.1;have z:=hz.2.1;simp at this;rw[Qy this.symm] at z;cases z
   exact .inr ⟨l,l',us,ws,rfl,rfl,i.seqT h1,i.seqT h2,n1,by rw[r1.1,r2.1];exact hz.2.2,fun z=>absurd z n2,fun _ p hp=>Jch i hs hp (r1.append r2) q⟩
  ·cases e
 ·exact cat ra rb e
 ·exact cat ra rb e
 ·exact cat ra rb e
 ·cases e
theorem JcM(h:eqD d e=some k):d.py.canLay0=true/\e.py.canLay0=true/\min d.py.depth e.py.depth<=60/\k=LX d.py e.py:=by
 unfold eqD at h;split at h
 ·next z=>cases h;simp only[QU,decide_eq_true_eq] at z;exact⟨z.1.1,z.1.2,z.2,rfl⟩
 ·cases h
theorem map_some{α β:Type}{x:Option α}{f:α->β}{b:β}(e:x.map f=some b):∃a,x=some a/\f a=b:=by
 cases x with
 | none=>cases e
 | some a=>cases e;exact⟨a,rfl,rfl⟩
theorem JcL(h:eqA d e=some k)(rx:RD K C H x d)(ry:RD K C H y e):(JpY x y=true/\decide (x=y)=k)\/eqD d e=some k:=by
 unfold eqA at h;split at h
 ·cases h;rw[RD.intI rx,RD.intI ry];exact .inl ⟨rfl,by simp⟩
 ·cases h;rw[RD.strI rx,RD.strI ry];exact .inl ⟨rfl,by simp⟩
 ·cases h;rw[RD.blI rx,RD.blI ry];exact .inl ⟨rfl,by simp⟩
 ·cases h;rw[RD.nonI rx,RD.nonI ry];exact .inl ⟨rfl,by simp⟩
 ·cases h;rw[RD.nonI rx,RD.intI ry];exact .inl ⟨rfl,by simp⟩
 ·cases h;rw[RD.intI rx,RD.nonI ry];exact .inl ⟨rfl,by simp⟩
 ·cases h;rw[RD.nonI rx,RD.strI ry];exact .inl ⟨rfl,by simp⟩
 ·cases h;rw[RD.strI rx,RD.nonI ry];exact .inl ⟨rfl,by simp⟩
 ·cases h;rw[RD.nonI rx,RD.blI ry];exact .inl ⟨rfl,by simp⟩
 ·cases h;rw[RD.blI rx,RD.nonI ry];exact .inl ⟨rfl,by simp⟩
 ·cases h;rw[RD.intI rx,RD.strI ry];exact .inl ⟨rfl,by simp⟩
 ·cases h;rw[RD.strI rx,RD.intI ry];exact .inl ⟨rfl,by simp⟩
 ·exact .inr h
theorem Jr8:OpS K C (Jpt K) fEq:=by
 intro Hs H0 H x y a b c Q i hs ra rb e q;obtain⟨d,e1,e⟩:=bind_some e;obtain⟨d',e2,e⟩:=bind_some e;obtain⟨k,e3,rfl⟩:=map_some e;have r1:=ra.dat i e1;have r2:=rb.dat i e2;rcases JcL e3 r1 r2 with ⟨h1,h2⟩|h
 ·exact .inl ⟨h1,by rw[h2];exact q _ _ _ (.refl i) (RD.bl _)⟩
 ·obtain⟨h1,h2,h3,rfl⟩:=JcM h;exact .inr ⟨_,_,r1.rep h1,r2.rep h2,h1,h2,h3,q _ _ _ (.refl i) (RD.bl _)⟩
theorem Jse:OpS K C (Jpw K) fNe:=by
 intro Hs H0 H x y a b c Q i hs ra rb e q;obtain⟨d,e1,e⟩:=bind_some e;obtain⟨d',e2,e⟩:=bind_some e;obtain⟨k,e3,rfl⟩:=map_some e;have r1:=ra.dat i e1;have r2:=rb.dat i e2;rcases JcL e3 r1 r2 with ⟨h1,h2⟩|h
 ·exact .inl ⟨h1,by rw[h2];exact q _ _ _ (.refl i) (RD.bl _)⟩
 ·obtain⟨h1,h2,h3,rfl⟩:=JcM h;exact .inr ⟨_,_,r1.rep h1,r2.rep h2,h1,h2,h3,q _ _ _ (.refl i) (RD.bl _)⟩
theorem Jc0(r:RD K C H x d):decide (x=.non)=d.isNon:=by cases r <;> simp[D.isNon]
theorem Jsa:OpS K C Jri fIs:=by
 intro Hs H0 H x y a b c Q i hs ra rb e q;unfold fIs at e;split at e
 ·obtain⟨d,e1,rfl⟩:=map_some e;refine⟨RD.nonI rb,?_⟩;rw[Jc0 (ra.dat i e1)];exact q _ _ _ (.refl i) (RD.bl _)
 ·cases e
theorem JlW:OpS K C JjW Vw:=by
 intro Hs H0 H x y a b c Q i hs ra rb e q;unfold Vw at e;split at e
 ·obtain⟨d,e1,rfl⟩:=map_some e;refine⟨RD.nonI rb,?_⟩;rw[Jc0 (ra.dat i e1)];exact q _ _ _ (.refl i) (RD.bl _)
 ·cases e
theorem RDL.atI(r:RDL K C H xs ds)(e:L2.atI ds i=some d):∃x,L2.atI xs i=some x/\RD K C H x d:=by unfold L2.atI at e ⊢;rw[r.1];obtain⟨j,e1,e⟩:=bind_some e;obtain⟨x,e2,r2⟩:=r.get e;exact⟨x,by rw[e1];exact e2,r2⟩
theorem Jsb:OpS K C (rIx K) fIx:=by
 intro Hs H0 H x y a b c Q i hs ra rb e q;unfold fIx at e;split at e
 ·split at e
  ·obtain⟨z,e1,rfl⟩:=map_some e;rw[RD.strI ra,RD.intI rb];exact JpF (by assumption) e1 (q _ _ _ (.refl i) (RD.str _))
  ·cases e
 ·obtain⟨ds,e1,e⟩:=bind_some e;obtain⟨d,e2,rfl⟩:=map_some e;obtain⟨l,xs,rfl,h,r⟩:=ra.q i e1;obtain⟨v,e3,r3⟩:=r.atI e2;rw[RD.intI rb];rcases h with h|h
  ·exact JpE h e3 (q _ _ _ (.refl i) r3)
  ·exact JpG h e3 (q _ _ _ (.refl i) r3)
 ·cases e
noncomputable def Zz:List Sl->Option (List D)
 | []=>some []
 | s::ss=>s.frz.bind fun d=>(Zz ss).bind fun ds=>some (d::ds)
noncomputable def Yz(as:En->Option (List Sl)):Ev:=fun E=>(as E).bind fun ss=>(Zz ss).bind fun ds=>if ds.length<=100 then some (.sh (.tup ds)) else none
noncomputable def Vv(as:En->Option (List Sl)):Ev:=fun E=>(as E).bind fun ss=>(Zz ss).bind fun ds=>if ds.length<=100 then some (.own ds) else none
theorem RRL.frz{vs:List V}{ss:List Sl}(i:Same H0 H)(r:RRL K C Hs H0 H vs ss):∀{ds:List D},Zz ss=some ds->RDL K C (JI Hs H0 H) vs ds:=by
 induction r with
 | nil=>intro ds e;cases e;exact .nil
 | cons h _ ih=>intro ds e;obtain⟨d,e1,e⟩:=bind_some e;obtain⟨ds',e2,e⟩:=bind_some e;cases e;exact .cons (h.frz i e1) (ih e2)
theorem JnI(ha:SA K C t ev):SE K C (Jkx t) (Yz ev):=by
 intro B H0 H σ E c Q I e q;obtain⟨ss,e1,e⟩:=bind_some e;obtain⟨ds,e2,e⟩:=bind_some e;split at e
 ·next hl =>
  cases e;refine ha B H0 H σ E ss _ I e1 fun vs H1 H1' s1 r1=>?_
  have f:=JC (Hs:=H) s1.i
  have r2:=r1.frz s1.i e2;exact⟨by rw[r2.1];exact Gz hl (by decide),fun p hp=>Jch f.i s1.h hp r2 fun v H2 H2' s2 r2=>q v H2 H2' ((s1.comp f fun _ z=>z).comp s2 fun _ z=>z) r2⟩
 ·cases e
theorem Jkd(ha:SA K C t ev):SE K C (JmZ t) (Vv ev):=by
 intro B H0 H σ E c Q I e q;obtain⟨ss,e1,e⟩:=bind_some e;obtain⟨ds,e2,e⟩:=bind_some e;split at e
 ·next hl =>
  cases e;refine ha B H0 H σ E ss _ I e1 fun vs H1 H1' s1 r1=>?_
  have f:=JC (Hs:=H) s1.i
  have r2:=r1.frz s1.i e2;exact⟨by rw[r2.1];exact Gz hl (by decide),fun p hp=>YD f.i s1.h hp r2 fun v H2 H2' s2 r2=>q v H2 H2' ((s1.comp f fun _ z=>z).comp s2 fun _ z=>z) r2⟩
 ·cases e
noncomputable def Sl.pass:Sl->Option Sl
 | .sh d=>some (.sh d)
 | .own ds=>some (.sh (.lst ds))
 | .bo ds=>some (.bo ds)
 | .bd ks ds=>some (.bd ks ds)
 | .od ks ds=>some (.sh (.dct ks ds))
 | .bt _ _=>none
 | .ot _ _=>none
 | .no=>none
noncomputable def Zc:List Sl->Option (List Sl)
 | []=>some []
 | s::ss=>s.pass.bind fun d=>(Zc ss).bind fun ds=>some (d::ds)
noncomputable def spE(K:Frag)(C:Addr)(n:Nat)(f:List Sl->Option Sl):Sp:=fun vs H Q _=>∃H0 as r,Same H0 H/\RRL K C H H0 H vs as/\as.all (fun s=>!Yb s)=true/\as.length=n/\f as=some r ∧
 ∀v H0' H',Step H H0 H H0' H'->RR K C H H0' H' v r->Q v H'
noncomputable def eU(n:Nat)(f:List Sl->Option Sl)(as:En->Option (List Sl)):Ev:=fun E=>(as E).bind fun ss=>(Zc ss).bind fun bs=>if bs.length=n then f bs else none
theorem RRL.len(r:RRL K C Hs H0 H vs ss):vs.length=ss.length:=by
 induction r with
 | nil=>rfl
 | cons _ _ ih=>simp[ih]
theorem JmV(h:spE K C n f vs H Q E):vs.length=n:=by obtain⟨H0,as,r,_,h1,_,h2,_⟩:=h;rw[h1.len];exact h2
theorem RR.pass(i:Same H0 H)(r:RR K C Hs H0 H v s)(e:s.pass=some s'):RR K C H (JI Hs H0 H) H v s'/\Yb s'=false:=by
 have st:Step Hs H0 H (JI Hs H0 H) H:=JC i
 cases s with
 | no=>cases e
 | sh d=>cases e;exact⟨RD.mono st.z r,rfl⟩
 | own ds=>cases e;exact⟨RR.frz (s:=.own ds) i r rfl,rfl⟩
 | bo ds=>cases e;obtain⟨l,xs,h1,h2,h3⟩:=r;exact⟨⟨l,xs,h1,h2,h3.mono st.z⟩,rfl⟩
 | od ks ds=>cases e;exact⟨RR.frz (s:=.od ks ds) i r rfl,rfl⟩
 | ot ks ds=>cases e
 | bd ks ds=>cases e;obtain⟨l,xs,h1,h2,hk,h3⟩:=r;exact⟨⟨l,xs,h1,h2,hk,h3.mono st.z⟩,rfl⟩
 | bt ks ds=>cases e
theorem RRL.pass(i:Same H0 H)(r:RRL K C Hs H0 H vs ss):∀{bs:List Sl},Zc ss=some bs->RRL K C H (JI Hs H0 H) H vs bs/\bs.all (fun s=>!Yb s)=true:=by
 induction r with
 | nil=>intro bs e;cases e;exact⟨.nil,rfl⟩
 | cons h _ ih=>intro bs e;obtain⟨d,e1,e⟩:=bind_some e;obtain⟨ds',e2,e⟩:=bind_some e;cases e;obtain⟨h1,h2⟩:=h.pass i e1;obtain⟨h3,h4⟩:=ih e2;exact⟨.cons h1 h3,by rw[List.all_cons,h2,h4];rfl⟩
theorem Jb7(ha:SA K C t ev):SE K C (JgC (spE K C n f) [] X t) (eU n f ev):=by
 intro B H0 H σ E c Q I e q;obtain⟨ss,e1,e⟩:=bind_some e;obtain⟨bs,e2,e⟩:=bind_some e;split at e
 ·next hl=>refine Jgo (ha B H0 H σ E ss _ I e1 fun vs H1 H1' s1 r1=>?_);obtain⟨h1,h2⟩:=r1.pass s1.i e2;have f:=JC (Hs:=H) s1.i;exact⟨_,bs,c,f.i,h1,h2,hl,e,fun v H2 H2' s2 r2=>q v H2 H2' ((s1.comp f fun _ z=>z).comp s2 fun a z=>Same.free s1.h z) (r2.weak fun a z=>Same.free s1.h z)⟩
 ·cases e
noncomputable def prE(p:Pr):D:=.tup [.int p.1,.int p.2]
noncomputable def Jqd:D->Option Pr
 | .tup [.int a,.int b]=>some (a,b)
 | _=>none
noncomputable def JdX:List D->Option (List Pr)
 | []=>some []
 | d::ds=>(Jqd d).bind fun p=>(JdX ds).bind fun ps=>some (p::ps)
theorem Jbb:∀ps:List Pr,JdX (ps.map prE)=some ps
 | []=>rfl
 | p::ps=>by rw[Qg,JdX,Jbb ps];rfl
theorem JhX(e:Jqd d=some p):d=prE p:=by
 unfold Jqd at e;split at e
 ·cases e;rfl
 ·cases e
theorem Jao:∀{ds:List D} {ps:List Pr},JdX ds=some ps->ds=ps.map prE
 | [],_,e=>by cases e;rfl
 | d::ds,_,e=>by obtain⟨p,e1,e⟩:=bind_some e;obtain⟨ps,e2,e⟩:=bind_some e;cases e;rw[JhX e1,Jao e2];rfl
noncomputable def WM:List Pr->Bool
 | []=>true
 | [p]=>decide (1<=p.2)
 | p::q::r=>decide (1<=p.2) && decide (p.1+p.2<q.1) && WM (q::r)
theorem ZB:∀{ps:List Pr},WM ps=true->Good ps
 | [],_=>.nil
 | [p],h=>⟨fun i q e=>by
  cases i with
  | zero=>simp at e;subst e;simpa [WM] using h
  | succ i=>simp at e,fun i q r e1 e2=>by simp at e2⟩
 | p::q::r,h=>by
  simp only[WM,QU,decide_eq_true_eq] at h;have g:=ZB h.2;refine⟨fun i x e=>?_,fun i x y e1 e2=>?_⟩
  ·cases i with
   | zero=>simp at e;subst e;exact h.1.1
   | succ i=>exact g.one i x (by simpa using e)
  ·cases i with
   | zero=>simp at e1 e2;subst e1 e2;exact h.1.2
   | succ i=>exact g.gap i x y (by simpa using e1) (by simpa using e2)
theorem ZC:∀{ps:List Pr},Good ps->WM ps=true
 | [],_=>rfl
 | [p],g=>by simpa [WM] using g.one 0 p rfl
 | p::q::r,g=>by
  have g':Good (q::r):=⟨fun i x e=>g.one (i+1) x (by simpa using e),fun i x y e1 e2=>g.gap (i+1) x y (by simpa using e1) (by simpa using e2)⟩
  simp only[WM,QU,decide_eq_true_eq];exact⟨⟨g.one 0 p rfl,g.gap 0 p q rfl rfl⟩,ZC g'⟩
noncomputable def Jaw:List Sl->Option Sl
 | [s]=>s.q.bind fun ds=>(JdX ds).bind fun ps=>if (WM ps && decide (ps.length<=30))=true then some (.sh (.row ds)) else none
 | _=>none
noncomputable def Y1:Sl->Option Sl
 | .sh (.row ds)=>some (.sh (.tup ds))
 | _=>none
theorem Jpp(r:RDL K C H xs (ps.map prE)):Prs K H xs ps:=by
 refine⟨by rw[r.1];simp,fun i x d h1 h2=>?_⟩;rw[Qp] at h2
 cases e:ps[i]? with
 | none=>rw[e] at h2;cases h2
 | some p=>rw[e] at h2;cases h2;have h:=r.2 i x (prE p) h1 (by rw[Qp,e];rfl);exact RD.rep h rfl
theorem Jo1{xs:List V}{ps:List Pr}(i:Same H0 H)(r:Prs K H xs ps):RDL K C (JI Hs H0 H) xs (ps.map prE):=by refine⟨by rw[r.len];simp,fun j x d h1 h2=>?_⟩;obtain⟨p,a,e1,e2,e3⟩:=r.at h1;rw[Qp,e1] at h2;cases h2;subst e2;exact .mkT (JfU i e3) (.cons (.int _) (.cons (.int _) .nil))
theorem JnH(ha:SA K C t ev):SE K C (JgE C (U9 C K) [] X t) (eF Jaw ev):=by
 intro B H0 H σ E c Q I e q;obtain⟨ss,e1,e⟩:=bind_some e;refine LR.Jgq (ha B H0 H σ E ss _ I e1 fun vs H1 H1' s1 r1=>?_);unfold Jaw at e;split at e
 ·next s =>
  cases r1 with
  | cons r1 r1' =>
   cases r1';obtain⟨ds,e2,e⟩:=bind_some e;obtain⟨ps,e3,e⟩:=bind_some e;split at e
   ·next hg =>
    cases e;simp only[QU,decide_eq_true_eq] at hg;have e4:=Jao e3;subst e4;obtain⟨l,xs,rfl,hq,r⟩:=r1.q s1.i e2;refine JpI ⟨l,xs,rfl,hq,Jpp (r.mono s1.i)⟩ (ZB hg.1) hg.2 fun x H2 nx s2 R=>?_
    obtain⟨x',dx,t',ts,ex,hx,ht,hp⟩:=R;cases ex;have i2:Same H1 H2:=s1.i.trans s2;have f:=JC (Hs:=H) i2;refine q _ (JI H H1 H2) H2 ⟨s1.h.trans s2,s1.z.trans f.z,fun a o e=>(f.n a o e).elim (fun z=>s1.n a o z) .inr,f.i⟩ ?_;have ts':=Jo1 (Hs:=H) (C:=C) i2 hp;exact .row (Jbx i2 (Same.free s1.h nx) hx) (JfU i2 (.of ht)) ts'.1 ts'.2
   ·cases e
 ·cases e
theorem Jrz(T:RowC K C)(ha:SE K C ta ea):SE K C (Jp5 K ta "stretches") (e1 Y1 ea):=by
 intro B H0 H σ E c Q I e q;obtain⟨a,e1,e⟩:=bind_some e;refine ha B H0 H σ E a _ I e1 fun x H1 H1' s1 r1=>?_
 unfold Y1 at e;split at e
 ·cases e;obtain⟨x',dx,t',ts,rfl,hx,ht,hp⟩:=RD.rowI r1;exact⟨x',C,dx,_,_,rfl,s1.i _ _ hx,T.cl,T.ns,JhP t',q _ _ _ s1 (RD.mkT ht hp)⟩
 ·cases e
noncomputable def ints?:List D->Option (List Int)
 | []=>some []
 | .int i::ds=>(ints? ds).map (i::·)
 | _::_=>none
noncomputable def bls?:List D->Option (List Bool)
 | []=>some []
 | .bl i::ds=>(bls? ds).map (i::·)
 | _::_=>none
theorem ZH:∀ns:List Int,ints? (ns.map .int)=some ns
 | []=>rfl
 | n::ns=>by rw[Qg,ints?,ZH ns];rfl
theorem Jfx:∀ns:List Bool,bls? (ns.map .bl)=some ns
 | []=>rfl
 | n::ns=>by rw[Qg,bls?,Jfx ns];rfl
theorem YO:∀{ds:List D} {ns:List Int},ints? ds=some ns->ds=ns.map .int
 | [],_,e=>by cases e;rfl
 | .int i::ds,_,e=>by obtain⟨ns,e1,e2⟩:=map_some (show(ints? ds).map (i::·)=_ from e);rw[<- e2,YO e1];rfl
 | .non::_,_,e|.bl _::_,_,e|.str _::_,_,e|.tup _::_,_,e|.lst _::_,_,e|.fz _::_,_,e|.row _::_,_,e=>by cases e
theorem Jcw:∀{ds:List D} {ns:List Bool},bls? ds=some ns->ds=ns.map .bl
 | [],_,e=>by cases e;rfl
 | .bl i::ds,_,e=>by obtain⟨ns,e1,e2⟩:=map_some (show(bls? ds).map (i::·)=_ from e);rw[<- e2,Jcw e1];rfl
 | .non::_,_,e|.int _::_,_,e|.str _::_,_,e|.tup _::_,_,e|.lst _::_,_,e|.fz _::_,_,e|.row _::_,_,e=>by cases e
noncomputable def Zy:List Sl->Option Sl
 | [.sh (.str x)]=>if x.length<=sizeLine then some (.sh (.int x.length)) else none
 | [s]=>s.q.map fun ds=>.sh (.int ds.length)
 | _=>none
noncomputable def JfO:List Sl->Option Sl
 | [s]=>s.q.map fun ds=>.own ds
 | _=>none
noncomputable def Jbv:List Sl->Option Sl
 | [s]=>s.q.bind fun ds=>(ints? ds).map fun ns=>.sh (.int ns.sum)
 | _=>none
noncomputable def Jlg:List Sl->Option Sl
 | [s]=>s.q.bind fun ds=>(bls? ds).map fun ns=>.sh (.bl (ns.any id))
 | _=>none
noncomputable def Jlk:List Sl->Option Sl
 | [.sh (.int a),.sh (.int b)]=>some (.sh (.int (max a b)))
 | _=>none
noncomputable def Jev:List Sl->Option Sl
 | [.sh (.int a),.sh (.int b)]=>some (.sh (.int (min a b)))
 | _=>none
theorem RRL.one(r:RRL K C Hs H0 H vs [s]):∃v,vs=[v]/\RR K C Hs H0 H v s:=by
 cases r with
 | cons h t=>cases t;exact⟨_,rfl,h⟩
theorem RRL.two(r:RRL K C Hs H0 H vs [s,t]):∃v w,vs=[v,w]/\RR K C Hs H0 H v s/\RR K C Hs H0 H w t:=by
 cases r with
 | cons h r=>cases r with
  | cons h' r=>cases r;exact⟨_,_,rfl,h,h'⟩
theorem Jqu:VU K C (JeZ K) Zy:=by
 intro Hs H0 H xs as c Q i hs r e q;unfold Zy at e;split at e
 ·split at e
  ·cases e;obtain⟨v,rfl,r0⟩:=r.one;rw[RD.strI r0];exact Jmp (by assumption) (q _ _ _ (.refl i) (RD.int _))
  ·cases e
 ·obtain⟨v,rfl,r0⟩:=r.one;obtain⟨ds,e1,rfl⟩:=map_some e;obtain⟨l,xs,rfl,h,r1⟩:=r0.q i e1;have z:=q (.int ds.length) _ _ (.refl i) (RD.int _);rw[<- r1.1] at z;exact Jdz h z
 ·cases e
theorem Jn0:VU K C (Jb3 K) JfO:=by
 intro Hs H0 H xs as c Q i hs r e q;unfold JfO at e;split at e
 ·obtain⟨v,rfl,r0⟩:=r.one;obtain⟨ds,e1,rfl⟩:=map_some e;obtain⟨l,ys,rfl,h,r1⟩:=r0.q i e1;exact⟨l,ys,rfl,h,fun p hp=>YD i hs hp r1 q⟩
 ·cases e
theorem Jqx:VU K C (Jpz K) Jbv:=by
 intro Hs H0 H xs as c Q i hs r e q;unfold Jbv at e;split at e
 ·obtain⟨v,rfl,r0⟩:=r.one;obtain⟨ds,e1,e⟩:=bind_some e;obtain⟨ns,e2,rfl⟩:=map_some e;obtain⟨l,ys,rfl,h,r1⟩:=r0.q i e1;rw[YO e2] at r1;have:=r1.ints;subst this;exact⟨l,ns,rfl,h,q _ _ _ (.refl i) (RD.int _)⟩
 ·cases e
theorem Jqt:VU K C (Jps K) Jlg:=by
 intro Hs H0 H xs as c Q i hs r e q;unfold Jlg at e;split at e
 ·obtain⟨v,rfl,r0⟩:=r.one;obtain⟨ds,e1,e⟩:=bind_some e;obtain⟨ns,e2,rfl⟩:=map_some e;obtain⟨l,ys,rfl,h,r1⟩:=r0.q i e1;rw[Jcw e2] at r1;have:=r1.bls;subst this;exact⟨l,ns,rfl,h,q _ _ _ (.refl i) (RD.bl _)⟩
 ·cases e
theorem Jqv:VU K C Jpu Jlk:=by
 intro Hs H0 H xs as c Q i hs r e q;unfold Jlk at e;split at e
 ·cases e;obtain⟨v,w,rfl,r1,r2⟩:=r.two;rw[RD.intI r1,RD.intI r2];exact Jj3 (q _ _ _ (.refl i) (RD.int _))
 ·cases e
theorem Jqw:VU K C Jpv Jev:=by
 intro Hs H0 H xs as c Q i hs r e q;unfold Jev at e;split at e
 ·cases e;obtain⟨v,w,rfl,r1,r2⟩:=r.two;rw[RD.intI r1,RD.intI r2];exact Jj4 (q _ _ _ (.refl i) (RD.int _))
 ·cases e
noncomputable def Jqb:Sl->Option Bool
 | .sh .non=>some false
 | .sh (.bl b)=>some b
 | .sh (.int i)=>some (i != 0)
 | .sh (.str y)=>if y.length<=sizeLine then some ((y.length:Int) != 0) else none
 | s=>s.q.map fun ds=>!ds.isEmpty
noncomputable def tTru?(a:Ev):En->Option Bool:=fun E=>(a E).bind Jqb
noncomputable def tyN:D->Option String
 | .non=>some "NoneType"
 | .bl _=>some "bool"
 | .int _=>some "int"
 | .str _=>some "str"
 | .tup _=>some "tuple"
 | .lst _=>some "list"
 | .fz _=>some "list"
 | .row _=>none
 | .dct _ _=>none
 | .dfz _ _=>none
 | .exc _=>none
noncomputable def Jhp(t n:String):Bool:=t == n || (t == "bool" && n == "int")
noncomputable def Jel(n:String)(a:Ev):Ev:=fun E=>(a E).bind fun s=>s.d.bind fun d=>(tyN d).map fun t=>.sh (.bl (Jhp t n))
theorem RDL.empty(r:RDL K C H xs ds):xs.isEmpty=ds.isEmpty:=by cases xs <;> cases ds <;> first|rfl|(have:=r.1;simp at this)
theorem JrJ(ha:SE K C te ea):ST K C (Jp8 K te) (tTru? ea):=by
 intro B H0 H σ E k Q I e q;obtain⟨a,e1,e⟩:=bind_some e;refine ha B H0 H σ E a _ I e1 fun x H1 H1' s1 r1=>?_
 have seq:∀{a:Sl},RR K C H H1 H1' x a->a.q.map (fun ds=>!ds.isEmpty)=some k->∃k',JkV K x H1' k'/\Q k' H1':=fun {a} r1 e=>by
  obtain⟨ds,e2,rfl⟩:=map_some e;obtain⟨l,xs,rfl,h,r⟩:=r1.q s1.i e2;have z:=q _ _ s1;rw[<- r.empty] at z;rcases h with h|h
  ·exact⟨_,.inl ⟨xs,h,rfl⟩,z⟩
  ·exact⟨_,.inr (.inl ⟨xs,h,rfl⟩),z⟩
 unfold Jqb at e;split at e
 ·cases e;rw[RD.nonI r1];exact⟨_,rfl,q _ _ s1⟩
 ·cases e;rw[RD.blI r1];exact⟨_,rfl,q _ _ s1⟩
 ·cases e;rw[RD.intI r1];exact⟨_,rfl,q _ _ s1⟩
 ·split at e
  ·cases e;rw[RD.strI r1];exact⟨_,⟨by assumption,rfl⟩,q _ _ s1⟩
  ·cases e
 ·exact seq r1 e
theorem RD.ty(r:RD K C H x d)(e:tyN d=some t):TyS K H x (.type t):=by
 cases r with
 | non=>cases e;exact .of .non
 | bl b=>cases e;exact .of (.bl b)
 | int i=>cases e;exact .of (.int i)
 | str i=>cases e;exact .of (.str i)
 | tup h _ _=>cases e;exact .sqT h
 | lst h _ _=>cases e;exact .sqL (.of h)
 | fz h _ _=>cases e;exact .sqL h
 | row _ _ _ _=>cases e
 | dct _ _ _ _=>cases e
 | dfz _ _ _ _=>cases e
 | exc _ _=>cases e
noncomputable def Jcm(K:Frag)(n:String):Prop:=∀t∈["NoneType","bool","int","str","tuple","list"],kitOne K (.type t) (.type n)=some (Jhp t n)
theorem Jm2(e:tyN d=some t):t∈["NoneType","bool","int","str","tuple","list"]:=by cases d <;> cases e <;> simp
theorem JrE(hk:Jcm K n)(ha:SE K C te ea):SE K C (tCB (Jmi K) (Ur te (Ur (tC (.ty n)) VO))) (Jel n ea):=by
 intro B H0 H σ E c Q I e q;obtain⟨a,e1,e⟩:=bind_some e;obtain⟨d,e2,e⟩:=bind_some e;obtain⟨t,e3,rfl⟩:=map_some e;refine ha B H0 H σ E a _ I e1 fun x H1 H1' s1 r1=>?_
 exact JpD (RD.ty (r1.dat s1.i e2) e3) (hk t (Jm2 e3)) (q _ _ _ s1 (RD.bl _))
theorem JlB:Jcm K "int":=fun t ht=>by simp only[Qh,Q1,or_false] at ht;rcases ht with rfl | rfl | rfl | rfl | rfl | rfl <;> kernel_rfl
theorem Ji9:Jcm K "bool":=fun t ht=>by simp only[Qh,Q1,or_false] at ht;rcases ht with rfl | rfl | rfl | rfl | rfl | rfl <;> kernel_rfl
theorem Jhq:Jcm K "tuple":=fun t ht=>by simp only[Qh,Q1,or_false] at ht;rcases ht with rfl | rfl | rfl | rfl | rfl | rfl <;> kernel_rfl
theorem Jja:Jcm K "list":=fun t ht=>by simp only[Qh,Q1,or_false] at ht;rcases ht with rfl | rfl | rfl | rfl | rfl | rfl <;> kernel_rfl
mutual
inductive Pt where
 | nm (i:Nat)
 | tp (l:Pts)
inductive Pts where
 | nil
 | cons (p:Pt) (l:Pts)
end
mutual
noncomputable def Pt.bind:Pt->D->En->Option En
 | .nm i,d,E=>if i<E.length then some (E.set i (.sh d)) else none
 | .tp l,.tup ds,E=>l.bind ds E
 | .tp _,_,_=>none
noncomputable def Pts.bind:Pts->List D->En->Option En
 | .nil,[],E=>some E
 | .cons p l,d::ds,E=>(p.bind d E).bind fun E'=>l.bind ds E'
 | _,_,_=>none
end
mutual
noncomputable def Pt.slots:Pt->List Nat
 | .nm i=>[i]
 | .tp l=>l.slots
noncomputable def Pts.slots:Pts->List Nat
 | .nil=>[]
 | .cons p l=>p.slots++l.slots
end
mutual
theorem Pt.keep:∀{p:Pt} {d:D} {E E':En},p.bind d E=some E'->E'.length=E.length/\∀i,i∉p.slots->E'[i]?=E[i]?
 | .nm i,d,E,E',e=>by
  unfold Pt.bind at e;split at e
  ·cases e;refine⟨by simp,fun j hj=>?_⟩;rw[Q3,if_neg];intro z;exact hj (by simp[Pt.slots,z])
  ·cases e
 | .tp l,d,E,E',e=>by
  cases d with
  | tup ds=>exact Pts.keep (p:=l) (ds:=ds) (by simpa [Pt.bind] using e)
  | _=>simp[Pt.bind] at e
theorem Pts.keep:∀{p:Pts} {ds:List D} {E E':En},p.bind ds E=some E'->E'.length=E.length/\∀i,i∉p.slots->E'[i]?=E[i]?
 | .nil,[],E,E',e=>by simp[Pts.bind] at e;subst e;exact⟨rfl,fun _ _=>rfl⟩
 | .nil,_::_,_,_,e=>by simp[Pts.bind] at e
 | .cons _ _,[],_,_,e=>by simp[Pts.bind] at e
 | .cons p l,d::ds,E,E',e=>by rw[Pts.bind] at e;obtain⟨E1,e1,e2⟩:=bind_some e;obtain⟨h1,h2⟩:=Pt.keep e1;obtain⟨h3,h4⟩:=Pts.keep e2;refine⟨h3.trans h1,fun i hi=>?_⟩;simp[Pts.slots] at hi;rw[h4 i hi.2,h2 i hi.1]
end
section
variable(K:Frag)(C:Addr)
noncomputable def SG(g:TG)(p:Pt):Prop:=∀(B H0 H:Hp) (σ:St) (E E':En) (x:V) (d:D) (Q:St->Hp->Prop),EnvR K C B H0 H σ E->RD K C H0 x d->p.bind d E=some E'->(∀σ',EnvR K C B H0 H σ' E'->Q σ' H)->g x σ H Q
noncomputable def SGs(g:TGs)(p:Pts):Prop:=∀(B H0 H:Hp) (σ:St) (E E':En) (xs:List V) (ds:List D) (Q:St->Hp->Prop),EnvR K C B H0 H σ E->RDL K C H0 xs ds->p.bind ds E=some E'->(∀σ',EnvR K C B H0 H σ' E'->Q σ' H)->g xs σ H Q
end
theorem EnvR.setSh{σ:St}{E:En}(I:EnvR K C B H0 H σ E)(hi:i<E.length)(r:RD K C H0 v d):EnvR K C B H0 H (σ.set i (some v)) (E.set i (.sh d)) :=
 I.put' (s:=.sh d) (.refl I.h) hi r rfl
theorem Jok(i:Nat):SG K C (UU i) (.nm i):=by
 intro B H0 H σ E E' x d Q I r e q;rw[Pt.bind] at e;split at e
 ·cases e;exact q _ (I.setSh (by assumption) r)
 ·cases e
theorem Jnk:SGs K C Jls .nil:=by
 intro B H0 H σ E E' xs ds Q I r e q
 cases ds with
 | nil =>
  cases xs with
  | nil=>rw[Pts.bind] at e;cases e;exact⟨rfl,q σ I⟩
  | cons _ _=>have:=r.1;simp at this
 | cons _ _=>simp[Pts.bind] at e
theorem Jew(h:SG K C g p)(hs:SGs K C gs ps):SGs K C (JfV g gs) (.cons p ps):=by
 intro B H0 H σ E E' xs ds Q I r e q
 cases ds with
 | nil=>simp[Pts.bind] at e
 | cons d ds =>
  cases xs with
  | nil=>have:=r.1;simp at this
  | cons x xs=>rw[Pts.bind] at e;obtain⟨E1,e1,e2⟩:=bind_some e;exact⟨x,xs,rfl,h B H0 H σ E E1 x d _ I r.head e1 fun σ1 I1=>hs B H0 H σ1 E1 E' xs ds Q I1 r.tail e2 q⟩
theorem Jr5(hn:∀(ds:List D) (E E':En),ps.bind ds E=some E'->ds.length=n)(hs:SGs K C gs ps):SG K C (Jhb K n gs) (.tp ps):=by
 intro B H0 H σ E E' x d Q I r e q
 cases d with
 | tup ds=>rw[Pt.bind] at e;obtain⟨a,xs,rfl,h,r⟩:=RD.tupI r;exact⟨a,xs,rfl,I.h.seqT h,by rw[r.1];exact hn ds E E' e,hs B H0 H σ E E' xs ds Q I r e q⟩
 | _=>simp[Pt.bind] at e
noncomputable def Pts.len:Pts->Nat
 | .nil=>0
 | .cons _ l=>l.len+1
theorem Pts.bind_len:∀{ps:Pts} {ds:List D} {E E':En},ps.bind ds E=some E'->ds.length=ps.len
 | .nil,[],_,_,_=>rfl
 | .nil,_::_,_,_,e=>by simp[Pts.bind] at e
 | .cons _ _,[],_,_,e=>by simp[Pts.bind] at e
 | .cons p l,d::ds,E,E',e=>by rw[Pts.bind] at e;obtain⟨E1,e1,e2⟩:=bind_some e;rw[Qq,Pts.bind_len e2];rfl
theorem Jnl(hs:SGs K C gs ps)(hn:ps.len=n):SG K C (Jhb K n gs) (.tp ps):=Jr5 (fun _ _ _ e=>(Pts.bind_len e).trans hn) hs
section
variable(K:Frag)(C:Addr)
noncomputable def JkQ(A:Hp)(J:It)(ds:List D)(H0:Hp):Prop:=∀H0' H',SStep A H0 H0' H'->(∀(i:Nat) (d:D),ds[i]?=some d->J.go i H'/\∀x H2,J.yld i H' x H2->∃H02,Step H' H0' H' H02 H2/\RD K C H02 x d)/\J.stop ds.length H'
noncomputable def SI(m:Bool)(wi:TI)(ev:En->Option (List D)):Prop:=∀(B H0 H:Hp) (σ:St) (E:En) (ds:List D) (R:It->Hp->Prop),EnvR K C B H0 H σ E->ev E=some ds ->
 (∀J H0' H',Step H H0 H H0' H'->JkQ K C (if m=true then H' else B) J ds H0'->R J H')->wi σ H R
end
noncomputable def Sl.it(m:Bool):Sl->Option (List D)
 | .bo ds=>if m=true then some ds else none
 | s=>s.q
noncomputable def iE(m:Bool)(a:Ev):En->Option (List D):=fun E=>(a E).bind (Sl.it m)
noncomputable def iV(i:Nat):En->Option (List D):=fun E=>match E[i]? with
 | some (.bo ds)=>some ds
 | some (.sh d)=>(Sl.sh d).q
 | _=>none
noncomputable def rng(lo:Int)(n:Nat):List D:=(Q9 n).map fun(i:Nat)=>.int (lo+(i:Int))
noncomputable def JeD(a:Int):Bool:=Nat.ble a.natAbs 4611686018427387903
noncomputable def iR1(as:En->Option (List Sl)):En->Option (List D):=fun E=>(as E).bind fun ss=>match ss with
 | [.sh (.int n)]=>if JeD n=true then some (rng 0 n.toNat) else none
 | _=>none
theorem V5(hd:∀H0' H',SStep A H0 H0' H'->SqL K H' a xs)(r:RDL K C H0 xs ds):JkQ K C A (Itl K a) ds H0:=by intro H0' H' st;have hq:=hd H0' H' st;refine⟨fun i d e=>?_,⟨xs,hq,by rw[r.1];exact Qm _⟩⟩;obtain⟨x,e1,r1⟩:=r.get e;refine⟨⟨xs,x,hq,e1⟩,fun y H2 ⟨e2,e3⟩=>?_⟩;subst e2;have:=e3 xs hq;rw[e1] at this;cases this;exact⟨H0',.refl st.i,r1.mono st.z⟩
theorem Jos(hd:∀H0' H',SStep A H0 H0' H'->SqT K H' a xs)(r:RDL K C H0 xs ds):JkQ K C A (Itt K a) ds H0:=by intro H0' H' st;have hq:=hd H0' H' st;refine⟨fun i d e=>?_,⟨xs,hq,by rw[r.1];exact Qm _⟩⟩;obtain⟨x,e1,r1⟩:=r.get e;refine⟨⟨xs,x,hq,e1⟩,fun y H2 ⟨e2,e3⟩=>?_⟩;subst e2;have:=e3 xs hq;rw[e1] at this;cases this;exact⟨H0',.refl st.i,r1.mono st.z⟩
theorem JrA(ha:SE K C te ea):SI K C m (JeC K te) (iE m ea):=by
 intro B H0 H σ E ds R I e q;obtain⟨s,e1,e⟩:=bind_some e
 cases s with
 | no=>cases e
 | bd _ _=>cases e
 | bt _ _=>cases e
 | od _ _=>cases e
 | ot _ _=>cases e
 | bo es =>
  unfold Sl.it at e;dsimp only at e;split at e
  ·next hm=>cases e;refine .inl (ha B H0 H σ E _ _ I e1 fun x H1 H1' s1 r1=>?_);obtain⟨l,xs,rfl,h,r⟩:=r1;refine⟨l,rfl,⟨xs,.of h⟩,q _ _ _ s1 ?_⟩;rw[if_pos hm];exact V5 (fun H0' H' st=>.of (st.b _ _ h)) r
  ·cases e
 | own es=>cases (show some es=some ds from e);refine .inl (ha B H0 H σ E _ _ I e1 fun x H1 H1' s1 r1=>?_);have f:=JC (Hs:=H) s1.i;have r2:=RR.frz s1.i r1 rfl;obtain⟨l,xs,rfl,h,r⟩:=RD.lstI r2;exact⟨l,rfl,⟨xs,.of (f.i _ _ h)⟩,q _ _ _ (s1.comp f fun _ z=>z) (V5 (fun H0' H' st=>.of (st.i _ _ (st.z _ _ h))) r)⟩
 | sh d =>
  cases d with
  | lst es=>cases (show some es=some ds from e);refine .inl (ha B H0 H σ E _ _ I e1 fun x H1 H1' s1 r1=>?_);obtain⟨l,xs,rfl,h,r⟩:=RD.lstI r1;exact⟨l,rfl,⟨xs,.of (s1.i _ _ h)⟩,q _ _ _ s1 (V5 (fun H0' H' st=>.of (st.i _ _ (st.z _ _ h))) r)⟩
  | fz es=>cases (show some es=some ds from e);refine .inl (ha B H0 H σ E _ _ I e1 fun x H1 H1' s1 r1=>?_);obtain⟨l,xs,rfl,h,r⟩:=RD.fzI r1;exact⟨l,rfl,⟨xs,s1.i.seq h⟩,q _ _ _ s1 (V5 (fun H0' H' st=>(st.z.trans st.i).seq h) r)⟩
  | tup es=>cases (show some es=some ds from e);refine .inr (ha B H0 H σ E _ _ I e1 fun x H1 H1' s1 r1=>?_);obtain⟨l,xs,rfl,h,r⟩:=RD.tupI r1;exact⟨l,rfl,⟨xs,s1.i.seqT h⟩,q _ _ _ s1 (Jos (fun H0' H' st=>(st.z.trans st.i).seqT h) r)⟩
  | _=>cases (show none=some ds from e)
theorem JrC(i:Nat):SI K C false (JeC K (Wj i)) (iV i):=by
 intro B H0 H σ E ds R I e q;unfold iV at e;split at e
 ·next es h =>
  cases e;rcases I.at' i _ h with z|⟨v,h1,h2⟩
  ·cases z
  ·obtain⟨l,xs,rfl,hl,r⟩:=h2;refine .inl ⟨_,h1,l,rfl,⟨xs,.of (I.b _ _ hl)⟩,q _ _ _ (.refl I.h) (V5 (fun H0' H' st=>.of (st.b _ _ hl)) r)⟩
 ·next d h=>refine JrA (m:=false) (ea:=Jb i) (Uq i) B H0 H σ E ds R I ?_ q;show(Jb i E).bind _=_;unfold Jb;rw[h];exact e
 ·cases e
theorem JmA(e:(rng lo n)[i]?=some d):i<n/\d=.int (lo+(i:Int)):=by
 unfold rng at e;rw[Qp] at e
 cases h:(Q9 n)[i]? with
 | none=>rw[h] at e;cases e
 | some j=>rw[h] at e;cases e;obtain⟨h1,h2⟩:=Qn.mp h;simp at h1 h2;subst h2;exact⟨h1,rfl⟩
theorem Jor:JkQ K C A (Itr lo n) (rng lo n) H0:=by intro H0' H' st;refine⟨fun i d e=>?_,by show n<=_;simp[rng]⟩;obtain⟨h1,rfl⟩:=JmA e;refine⟨h1,fun x H2 ⟨e1,e2⟩=>?_⟩;subst e1 e2;exact⟨H0',.refl st.i,.int _⟩
theorem JbG(h:JeD a=true):-(2 ^ 62)<=a/\a<2 ^ 62:=by unfold JeD at h;rw[KC] at h;omega
theorem JrB(ha:SA K C t ev):SI K C m (Jns t) (iR1 ev):=by
 intro B H0 H σ E ds R I e q;obtain⟨ss,e1,e⟩:=bind_some e;split at e
 ·split at e
  ·next hn =>
   cases e;refine ha B H0 H σ E _ _ I e1 fun vs H1 H1' s1 r1=>?_
   obtain⟨v,rfl,r⟩:=r1.one;rw[RD.intI r];exact⟨_,rfl,(JbG hn).1,(JbG hn).2,q _ _ _ s1 Jor⟩
  ·cases e
 ·cases e
noncomputable def yes?:En->Option Bool:=fun _=>some true
noncomputable def V4(imp:List (Option Nat))(E:En):En:=imp.map fun o=>match o with
 | none=>.no
 | some k=>match E[k]? with
  | some (.own ds)=>.bo ds
  | some (.od ks ds)=>.bd ks ds
  | some (.ot ks ds)=>.bt ks ds
  | some s=>s
  | none=>.no
noncomputable def Ul(p:Pt)(c:En->Option Bool)(a:Ev)(E1:En):List D->Option (List D)
 | []=>some []
 | d::ds=>(p.bind d E1).bind fun E2=>(c E2).bind fun k=>if k=true then(a E2).bind fun s=>s.frz.bind fun y=>(Ul p c a E1 ds).bind fun ys=>some (y::ys) else Ul p c a E1 ds
noncomputable def Yr(it:En->Option (List D))(p:Pt)(c:En->Option Bool)(a:Ev)(imp:List (Option Nat)):Ev:=fun E=>(it E).bind fun ds=>if ds.length<=sizeLine then(Ul p c a (V4 imp E) ds).map .own else none
theorem JrK:ST K C Jp9 yes?:=fun _ _ _ _ _ _ _ I e q=>by cases e;exact q _ _ (.refl I.h)
theorem Jlb{B H0 H:Hp}{σ:St}{E:En}{imp:List (Option Nat)}(I:EnvR K C B H0 H σ E):EnvR K C H H0 H (ZE imp σ) (V4 imp E):=by
 have get:∀(i:Nat) (s:Sl),(V4 imp E)[i]?=some s->s=.no\/∃v,(ZE imp σ)[i]?=some (some v)/\RSl K C H H0 H v s/\Yb s=false:=fun i s e=>by
  unfold V4 at e;unfold ZE;rw[Qp] at e ⊢
  cases h:imp[i]? with
  | none=>rw[h] at e;cases e
  | some o =>
   rw[h] at e
   cases o with
   | none=>cases e;exact .inl rfl
   | some k =>
    have e':(match E[k]? with|some (.own ds)=>Sl.bo ds|some (.od ks ds)=>Sl.bd ks ds|some (.ot ks ds)=>Sl.bt ks ds|some s=>s|none=>.no)=s:=QK e
    cases hE:E[k]? with
    | none=>rw[hE] at e';exact .inl e'.symm
    | some s' =>
     rw[hE] at e';rcases I.at' k s' hE with z|⟨v,h1,h2⟩
     ·subst z;exact .inl e'.symm
     ·have g:(σ[k]?).join=some v:=by rw[h1];rfl
      cases s' with
      | no=>exact .inl e'.symm
      | sh d=>dsimp only at e';subst e';exact .inr ⟨v,by show some ((σ[k]?).join)=_;rw[g],h2,rfl⟩
      | bo ds=>dsimp only at e';subst e';obtain⟨l,xs,q1,q2,q3⟩:=h2;exact .inr ⟨v,by show some ((σ[k]?).join)=_;rw[g],⟨l,xs,q1,I.b _ _ q2,q3⟩,rfl⟩
      | own ds=>dsimp only at e';subst e';obtain⟨l,xs,q1,q2,_,_,q3⟩:=h2;exact .inr ⟨v,by show some ((σ[k]?).join)=_;rw[g],⟨l,xs,q1,q2,q3⟩,rfl⟩
      | bd ks ds=>dsimp only at e';subst e';obtain⟨l,xs,q1,q2,q3⟩:=h2;exact .inr ⟨v,by show some ((σ[k]?).join)=_;rw[g],⟨l,xs,q1,I.b _ _ q2,q3⟩,rfl⟩
      | bt ks ds=>dsimp only at e';subst e';obtain⟨l,xs,q1,q2,q3⟩:=h2;exact .inr ⟨v,by show some ((σ[k]?).join)=_;rw[g],⟨l,xs,q1,I.b _ _ q2,q3⟩,rfl⟩
      | od ks ds=>dsimp only at e';subst e';obtain⟨l,xs,q1,q2,_,_,q3⟩:=h2;exact .inr ⟨v,by show some ((σ[k]?).join)=_;rw[g],⟨l,xs,q1,q2,q3⟩,rfl⟩
      | ot ks ds=>dsimp only at e';subst e';obtain⟨l,xs,q1,q2,_,_,q3⟩:=h2;exact .inr ⟨v,by show some ((σ[k]?).join)=_;rw[g],⟨l,xs,q1,q2,q3⟩,rfl⟩
 refine⟨Same.refl _,I.h,by simp[ZE,V4],fun i s e=>?_,fun i j s t v hij e1 e2 o1 o2=>?_⟩
 ·rcases get i s e with z|⟨v,h1,h2,_⟩
  ·exact .inl z
  ·exact .inr ⟨v,h1,h2⟩
 ·rcases get i _ e1 with z|⟨v,h1,h2,h3⟩
  ·subst z;cases o1
  ·rw[h3] at o1;cases o1
theorem JpR(hi:SI K C true wi it)(hg:SG K C g p)(hc:ST K C tt c)(ha:SE K C te a)(hp:(p.slots.all fun i=>match imp[i]? with|some none=>true|_=>false)=true):SE K C (JgD wi g tt te imp) (Yr it p c a imp):=by
 intro B H0 H σ E r Q I e q;obtain⟨ds,e1,e⟩:=bind_some e;split at e
 ·next hl =>
  obtain⟨es,e2,rfl⟩:=map_some e;refine hi B H0 H σ E ds _ I e1 fun J H1 H1' s1 ok=>?_
  rw[if_pos rfl] at ok;have I1:EnvR K C H1' H1 H1' (ZE imp σ) (V4 imp E):=Jlb (I.step s1)
  -- the loop: what was gathered,what comes
  refine⟨fun i m ys σ' H'=>m=ds.length-i/\i<=ds.length/\∃H0' gs rs,EnvR K C H1' H0' H' σ' (V4 imp E)/\Step H1' H1 H1' H0' H'/\RDL K C H0' ys gs/\Ul p c a (V4 imp E) (ds.drop i)=some rs/\es=gs++rs/\gs.length<=i,
   ⟨ds.length,by simp,Gr _,H1,[],es,I1,.refl s1.i,.nil,e2,rfl,Qm _⟩,?_⟩
  rintro i m ys σ' H' ⟨rfl,hi',H0',gs,rs,I',st,rys,er,ees,hgl⟩;have stop:=ok H0' H' ⟨st.h,st.z,st.n,st.i⟩
  by_cases hlt:i<ds.length
  ·have hd:ds[i]?=some ds[i]:=by simp[hlt]
   obtain⟨go,yl⟩:=stop.1 i _ hd;refine .inr ⟨go,by rw[rys.1];omega,fun ys' σ2 H2=>∃H02 gs rs,EnvR K C H1' H02 H2 σ2 (V4 imp E)/\Step H1' H1 H1' H02 H2/\RDL K C H02 ys' gs/\Ul p c a (V4 imp E) (ds.drop (i+1))=some rs/\es=gs++rs/\gs.length<=i+1,
    fun ys' σ2 H2 h=>⟨ds.length-(i+1),by omega,rfl,hlt,h⟩,fun x H2 y=>?_⟩
   obtain⟨H02,st2,rx⟩:=yl x H2 y;rw[LJ hlt,Ul] at er;obtain⟨E2,b1,er⟩:=bind_some er;obtain⟨k,b2,er⟩:=bind_some er;refine hg H1' H02 H2 σ' (V4 imp E) E2 x _ _ (I'.step st2) rx b1 fun σ2 I2=>?_
   have back:∀{H03 H3:Hp},EnvR K C H1' H03 H3 σ2 E2->EnvR K C H1' H03 H3 σ2 (V4 imp E):=fun {H03 H3} J=>by
    obtain⟨k1,k2⟩:=Pt.keep b1;refine J.sub k1.symm fun j s ej=>?_
    by_cases hj:j∈p.slots
    ·have:=LD.mp hp j hj
     have ej':=ej;unfold V4 at ej';rw[Qp] at ej'
     cases hm:imp[j]? with
     | none=>rw[hm] at this;cases this
     | some o =>
      rw[hm] at this ej'
      cases o with
      | none=>cases ej';exact .inl rfl
      | some _=>cases this
    ·exact .inr (by rw[k2 j hj];exact ej)
   refine hc H1' H02 H2 σ2 E2 k _ I2 b2 fun H03 H3 st3=>?_
   have st13:Step H1' H1 H1' H03 H3:=(st.trans st2).trans st3
   cases k with
   | false=>rw[if_neg (by simp)];rw[if_neg (by simp)] at er;exact⟨H03,gs,rs,back (I2.step st3),st13,rys.mono (st2.z.trans st3.z),er,ees,by omega⟩
   | true =>
    rw[if_pos rfl];rw[if_pos rfl] at er;obtain⟨s,b3,er⟩:=bind_some er;obtain⟨y',b4,er⟩:=bind_some er;obtain⟨ws,b5,er⟩:=bind_some er;cases er;refine ha H1' H03 H3 σ2 E2 s _ (I2.step st3) b3 fun v H04 H4 st4 r4=>?_
    have f:=JC (Hs:=H3) st4.i
    have st5:Step H3 H03 H3 (JI H3 H04 H4) H4:=st4.comp f fun _ z=>z
    exact⟨_,gs++[y'],ws,back ((I2.step st3).step st5),st13.trans st5,(rys.mono ((st2.z.trans st3.z).trans st5.z)).snoc (RR.frz st4.i r4 b4),b5,by rw[ees,GF];rfl,by rw[Qx];simp;exact hgl⟩
  ·have e3:i=ds.length:=by omega
   subst e3;refine .inl ⟨stop.2,by rw[rys.1];omega,fun p hp=>?_⟩;rw[List.drop_length,Ul] at er;cases er;rw[Ki] at ees;subst ees;exact YD (Hs:=H) st.i (s1.h.trans st.h) hp rys fun v H2 H2' s2 r2=>q v H2 H2' ((s1.trans st).comp s2 fun _ z=>z) r2
 ·cases e
end LE
namespace LE
open PySem L2 LR
inductive Out where
 | nx (E:En)|rt (r:Sl)|bk (E:En)|ct (E:En)
noncomputable abbrev Es:=En->Option Out
section
variable(K:Frag)(C:Addr)
noncomputable def Fin(B H0:Hp)(D:Ends):Out->Prop
 | .nx E=>∀σ' H0' H',SStep B H0 H0' H'->EnvR K C B H0' H' σ' E->D.nx σ' H'
 | .bk E=>∀σ' H0' H',SStep B H0 H0' H'->EnvR K C B H0' H' σ' E->D.bk σ' H'
 | .ct E=>∀σ' H0' H',SStep B H0 H0' H'->EnvR K C B H0' H' σ' E->D.ct σ' H'
 | .rt r=>∀v H0' H',SStep B H0 H0' H'->RR K C B H0' H' v r->D.rt v H'
noncomputable def SS(ts:TS)(ev:Es):Prop:=∀(B H0 H:Hp) (σ:St) (E:En) (o:Out) (D:Ends),EnvR K C B H0 H σ E->ev E=some o->Fin K C B H0 D o->ts D σ H
end
noncomputable def Yt:Es:=fun E=>some (.nx E)
noncomputable def Je9(b:Es):Out->Option Out
 | .nx E=>b E
 | .rt r=>some (.rt r)
 | .bk E=>some (.bk E)
 | .ct E=>some (.ct E)
noncomputable def Jn(a b:Es):Es:=fun E=>(a E).bind (Je9 b)
noncomputable def xIf(c:En->Option Bool)(a b:Es):Es:=fun E=>(c E).bind fun k=>if k=true then a E else b E
noncomputable def keep?:Sl->Option Sl
 | .sh d=>some (.sh d)
 | .own ds=>some (.own ds)
 | .od ks ds=>some (.od ks ds)
 | .ot ks ds=>some (.ot ks ds)
 | _=>none
noncomputable def VS(i:Nat)(a:Ev):Es:=fun E=>(a E).bind fun s=>(keep? s).bind fun s=>if i<E.length then some (.nx (E.set i s)) else none
noncomputable def Jp(i:Nat)(a:Ev):Es:=fun E=>(a E).bind fun s=>s.frz.bind fun d=>if i<E.length then some (.nx (E.set i (.sh d))) else none
noncomputable def JdZ(a:Ev):Es:=fun E=>(a E).map fun _=>.nx E
noncomputable def Yy(a:Ev):Es:=fun E=>(a E).bind fun s=>(keep? s).map .rt
noncomputable def Uk(i:Nat):Es:=fun E=>match E[i]? with
 | some (.sh d)=>some (.rt (.sh d))
 | some (.own ds)=>some (.rt (.own ds))
 | some (.od ks ds)=>some (.rt (.od ks ds))
 | _=>none
noncomputable def Vc:Es:=fun _=>none
noncomputable def Jcj(i:Nat)(a:Ev):Es:=fun E=>match E[i]? with
 | some (.own ds)=>(a E).bind fun s=>s.frz.bind fun d=>if ds.length<sizeLine then some (.nx (E.set i (.own (ds++[d])))) else none
 | _=>none
noncomputable def Jd0(i:Nat)(a:Ev):Es:=fun E=>match E[i]? with
 | some (.own ds)=>(a E).bind fun s=>s.m.bind fun es=>if ds.length+es.length<=sizeLine then some (.nx (E.set i (.own (ds++es)))) else none
 | _=>none
noncomputable def Jm7(i j:Nat)(f:Sl->Option Sl):Es:=fun E=>match E[i]? with
 | some (.own ds)=>(ds[ds.length-1]?).bind fun d=>(f (.sh d)).bind fun s=>(sh? s).bind fun d'=>if j<E.length then some (.nx ((E.set i (.own ds.dropLast)).set j (.sh d'))) else none
 | _=>none
noncomputable def Jfo(f:Int->Int->Int)(i:Nat)(a:Ev):Es:=fun E=>match E[i]? with
 | some (.sh (.int x))=>(a E).bind fun s=>match s with
  | .sh (.int y)=>some (.nx (E.set i (.sh (.int (f x y)))))
  | _=>none
 | _=>none
noncomputable def Ye(p:Pt)(b:Es):List D->Es
 | [],E=>some (.nx E)
 | d::ds,E=>(p.bind d E).bind fun E1=>(b E1).bind fun o=>match o with
  | .nx E2=>Ye p b ds E2
  | .ct E2=>Ye p b ds E2
  | .bk E2=>some (.nx E2)
  | .rt r=>some (.rt r)
noncomputable def Vo(it:En->Option (List D))(p:Pt)(b:Es):Es:=fun E=>(it E).bind fun ds=>Ye p b ds E
noncomputable def Yw(c:En->Option Bool)(b:Es):Nat->Es
 | 0,_=>none
 | n+1,E=>(c E).bind fun k=>if k=true then(b E).bind fun o=>match o with
  | .nx E2=>Yw c b n E2
  | .ct E2=>Yw c b n E2
  | .bk E2=>some (.nx E2)
  | .rt r=>some (.rt r)
  else some (.nx E)
section
variable{K:Frag}{C:Addr}{B H0 H H0' H':Hp}{σ:St}{E:En}{D:Ends}{o:Out}{te:TE}{ea:Ev}{t u:TS}{et eu:Es}
theorem Fin.step(st:SStep B H0 H0' H')(f:Fin K C B H0 D o):Fin K C B H0' D o:=by
 cases o with
 | nx E=>exact fun σ' H1 H1' s1 I=>f σ' H1 H1' (st.trans s1) I
 | bk E=>exact fun σ' H1 H1' s1 I=>f σ' H1 H1' (st.trans s1) I
 | ct E=>exact fun σ' H1 H1' s1 I=>f σ' H1 H1' (st.trans s1) I
 | rt r=>exact fun v H1 H1' s1 I=>f v H1 H1' (st.trans s1) I
theorem EnvR.ss(I:EnvR K C B H0 H σ E):SStep B H0 H0 H:=.refl I.b I.h
theorem Jqi:SS K C Jkv Yt:=fun _ _ _ _ _ _ _ I e f=>by cases e;exact f _ _ _ I.ss I
theorem Jm8:SS K C Jku Vc:=fun _ _ _ _ _ _ _ _ e _=>by cases e
theorem Jar(ht:SS K C t et)(hu:SS K C u eu):SS K C (Jp7 t u) (Jn et eu):=by
 intro B H0 H σ E o D I e f;obtain⟨o1,e1,e⟩:=bind_some e;refine ht B H0 H σ E o1 _ I e1 ?_
 cases o1 with
 | nx E1=>exact fun σ1 H1 H1' s1 I1=>hu B H1 H1' σ1 E1 o D I1 e (f.step s1)
 | bk E1=>cases e;exact f
 | ct E1=>cases e;exact f
 | rt r=>cases e;exact f
theorem Jsm(hc:ST K C c ec)(ht:SS K C t et)(hu:SS K C u eu):SS K C (JmY c t u) (xIf ec et eu):=by
 intro B H0 H σ E o D I e f;obtain⟨k,e1,e⟩:=bind_some e;refine hc B H0 H σ E k _ I e1 fun H1 H1' s1=>?_
 cases k with
 | true=>rw[if_pos rfl];exact ht B H1 H1' σ E o D (I.step s1) e (f.step (s1.ss I.b))
 | false=>rw[if_neg (by simp)];exact hu B H1 H1' σ E o D (I.step s1) e (f.step (s1.ss I.b))
theorem JaZ(e:keep? s=some r):s=r/\Joq r=false:=by cases s <;> cases e <;> exact⟨rfl,rfl⟩
theorem JnQ(ha:SE K C te ea):SS K C (Jfh te (UU i)) (VS i ea):=by
 intro B H0 H σ E o D I e f;obtain⟨s,e1,e⟩:=bind_some e;obtain⟨s',e2,e⟩:=bind_some e;obtain⟨rfl,hb⟩:=JaZ e2;split at e
 ·cases e;exact ha B H0 H σ E _ _ I e1 fun v H1 H1' s1 r1=>f _ _ _ (s1.ss I.b) (I.put' s1 (by assumption) r1 hb)
 ·cases e
theorem Jck(ha:SE K C te ea):SS K C (Jfh te (UU i)) (Jp i ea):=by
 intro B H0 H σ E o D I e f;obtain⟨s,e1,e⟩:=bind_some e;obtain⟨d,e2,e⟩:=bind_some e;split at e
 ·cases e;refine ha B H0 H σ E _ _ I e1 fun v H1 H1' s1 r1=>?_
  have s2:Step H H0 H (JI H H1 H1') H1':=s1.comp (JC s1.i) fun _ z=>z
  exact f _ _ _ (s2.ss I.b) ((I.step s2).setSh (by assumption) (RR.frz s1.i r1 e2))
 ·cases e
theorem JkM(ha:SE K C te ea):SS K C (Jak te) (JdZ ea):=by intro B H0 H σ E o D I e f;obtain⟨s,e1,rfl⟩:=map_some e;exact ha B H0 H σ E _ _ I e1 fun v H1 H1' s1 r1=>f _ _ _ (s1.ss I.b) (I.step s1)
theorem JrZ(ha:SE K C te ea):SS K C (Jp6 te) (Yy ea):=by intro B H0 H σ E o D I e f;obtain⟨s,e1,e⟩:=bind_some e;obtain⟨s',e2,rfl⟩:=map_some e;obtain⟨rfl,hb⟩:=JaZ e2;exact ha B H0 H σ E _ _ I e1 fun v H1 H1' s1 r1=>f _ _ _ (s1.ss I.b) (r1.weak fun a z=>Same.free I.b z)
theorem JkN:SS K C (Jp6 (Wj i)) (Uk i):=by
 intro B H0 H σ E o D I e f;unfold Uk at e;split at e
 ·next d h =>
  cases e;rcases I.at' i _ h with z|⟨v,h1,h2⟩
  ·cases z
  ·exact⟨v,h1,f _ _ _ I.ss h2⟩
 ·next d h =>
  cases e;rcases I.at' i _ h with z|⟨v,h1,h2⟩
  ·cases z
  ·exact⟨v,h1,f _ _ _ I.ss h2⟩
 ·next d h =>
  cases e;rcases I.at' i _ h with z|⟨v,h1,h2⟩
  ·cases z
  ·exact⟨v,h1,f _ _ _ I.ss h2⟩
 ·cases e
theorem EnvR.mutG{i:Nat}{l:Addr}{t t':Sl}{o':HO}(I:EnvR K C B H0 H σ E)(e1:E[i]?=some t)(ho:Yb t=true)(ho':Yb t'=true)(e2:σ[i]?=some (some (.ref l)))(r:RSl K C B H0 (upd H l o') (.ref l) t') :
 EnvR K C B H0 (upd H l o') σ (E.set i t'):=by
 obtain⟨h1,h2,h3⟩:=I.ownG e1 ho e2;have hi:i<E.length:=(Qn.mp e1).1;have nb:∀{A:Hp},A l=none->Same A H->Same A (upd H l o'):=fun {A} n s a o e=>by rw[Jh (Jo e n)];exact s a o e
 refine⟨nb h3 I.b,nb h2 I.h,by simp[I.len],fun j s e=>?_,fun j k s1 s2 v hjk a1 a2 p1 p2 a3=>?_⟩
 ·rw[Q3] at e
  by_cases hj:i=j
  ·subst hj;rw[if_pos rfl,if_pos hi] at e;cases e;exact .inr ⟨_,e2,r⟩
  ·rw[if_neg hj] at e;rcases I.at' j s e with z|⟨v,q1,q2⟩
   ·exact .inl z
   ·refine .inr ⟨v,q1,?_⟩
    cases s with
    | no=>trivial
    | sh d=>exact q2
    | bo es=>exact q2
    | bd ks es=>exact q2
    | bt ks es=>exact q2
    | own es =>
     obtain⟨l',ys,p1,p2,p3,p4,p5⟩:=q2;subst p1;have:l'≠l:=fun z=>by subst z;exact I.sep i j t _ (.ref l') hj e1 e ho rfl e2 q1
     exact⟨l',ys,rfl,by rw[Jh this];exact p2,p3,p4,p5⟩
    | od ks es =>
     obtain⟨l',ys,p1,p2,p3,p4,p5⟩:=q2;subst p1;have:l'≠l:=fun z=>by subst z;exact I.sep i j t _ (.ref l') hj e1 e ho rfl e2 q1
     exact⟨l',ys,rfl,by rw[Jh this];exact p2,p3,p4,p5⟩
    | ot ks es =>
     obtain⟨l',ys,p1,p2,p3,p4,p5⟩:=q2;subst p1;have:l'≠l:=fun z=>by subst z;exact I.sep i j t _ (.ref l') hj e1 e ho rfl e2 q1
     exact⟨l',ys,rfl,by rw[Jh this];exact p2,p3,p4,p5⟩
 ·have own:∀{j:Nat} {u:Sl},(E.set i t')[j]?=some u->Yb u=true->∃g,E[j]?=some g/\Yb g=true:=fun {j u} a w=>by
   rw[Q3] at a
   by_cases hj:i=j
   ·subst hj;exact⟨t,e1,ho⟩
   ·rw[if_neg hj] at a;exact⟨_,a,w⟩
  obtain⟨g1,b1,c1⟩:=own a1 p1;obtain⟨g2,b2,c2⟩:=own a2 p2;exact I.sep j k g1 g2 v hjk b1 b2 c1 c2 a3
theorem EnvR.mut{i:Nat}{l:Addr}{ds ds':List LE.D}{xs xs':List V}(I:EnvR K C B H0 H σ E)(e1:E[i]?=some (.own ds))(e2:σ[i]?=some (some (.ref l)))(r:RDL K C H0 xs' ds') :
 EnvR K C B H0 (upd H l (.lst xs')) σ (E.set i (.own ds')):=by
 obtain⟨_,h2,h3⟩:=I.ownG e1 rfl e2;exact I.mutG (t':=.own ds') e1 rfl rfl e2 ⟨l,xs',rfl,Jk,h2,h3,r⟩
theorem EnvR.slot{i:Nat}{ds:List LE.D}(I:EnvR K C B H0 H σ E)(e1:E[i]?=some (.own ds)):∃l xs,σ[i]?=some (some (.ref l))/\H l=some (.lst xs)/\H0 l=none/\B l=none/\RDL K C H0 xs ds:=by
 rcases I.at' i _ e1 with z|⟨v,h1,l,xs,rfl,h2,h3,h4,h5⟩
 ·cases z
 ·exact⟨l,xs,h1,h2,h3,h4,h5⟩
theorem JrU(ha:SE K C te ea):SS K C (Jak (tBM K "list" Wc (Wj i) (Ur te VO))) (Jcj i ea):=by
 intro B H0 H σ E o D I e f;unfold Jcj at e;split at e
 ·next ds h =>
  obtain⟨s,e1,e⟩:=bind_some e;obtain⟨d,e2,e⟩:=bind_some e;split at e
  ·next hz =>
   cases e;obtain⟨l,xs,g1,g2,g3,g4,g5⟩:=I.slot h;refine⟨_,g1,.inl ⟨rfl,_,.of g2⟩,?_⟩;refine ha B H0 H σ E _ _ I e1 fun v H1 H1' s1 r1=>?_
   have s2:Step H H0 H (JI H H1 H1') H1':=s1.comp (JC s1.i) fun _ z=>z
   have I2:=I.step s2
   have m:=I2.mut (xs:=xs) h g1 ((g5.mono s2.z).snoc (RR.frz s1.i r1 e2));exact⟨l,xs,v,rfl,rfl,s2.h _ _ g2,by rw[g5.1];exact hz,f _ _ _ ⟨m.b,s2.z,(s2.ss I.b).n,m.h⟩ m⟩
  ·cases e
 ·cases e
theorem JrW(ha:SE K C te ea):SS K C (Jak (tBM K "list" Jgm (Wj i) (Ur te VO))) (Jd0 i ea):=by
 intro B H0 H σ E o D I e f;unfold Jd0 at e;split at e
 ·next ds h =>
  obtain⟨s,e1,e⟩:=bind_some e;obtain⟨es,e2,e⟩:=bind_some e;split at e
  ·next hz =>
   cases e;obtain⟨l,xs,g1,g2,g3,g4,g5⟩:=I.slot h;refine⟨_,g1,.inl ⟨rfl,_,.of g2⟩,?_⟩;refine ha B H0 H σ E _ _ I e1 fun v H1 H1' s1 r1=>?_
   have I2:=I.step s1;obtain⟨l',ys,rfl,k1,k2⟩:=r1.m s1.i e2
   have m:=I2.mut (xs:=xs) h g1 ((g5.mono s1.z).append k2);exact⟨l,l',xs,ys,rfl,rfl,s1.h _ _ g2,k1,by rw[g5.1,k2.1];exact hz,f _ _ _ ⟨m.b,s1.z,(s1.ss I.b).n,m.h⟩ m⟩
  ·cases e
 ·cases e
theorem JrY:SS K C (Jfh (Jp4 K "list" Jro (Wj i)) (UU j)) (Jm7 i j some):=by
 intro B H0 H σ E o D I e f;unfold Jm7 at e;split at e
 ·next ds h =>
  obtain⟨d,e1,e⟩:=bind_some e;obtain⟨s,e2,e⟩:=bind_some e;cases e2;obtain⟨d',e3,e⟩:=bind_some e;cases e3;split at e
  ·next hj =>
   cases e;obtain⟨l,xs,g1,g2,g3,g4,g5⟩:=I.slot h;rw[<- g5.1] at e1;obtain⟨y,e4,r4⟩:=g5.get e1;have hd:RDL K C H0 xs.dropLast ds.dropLast:=by rw[Rz,Rz,g5.1];exact g5.take _
   have m:=I.mut (xs:=xs) h g1 hd;refine⟨_,g1,.inl ⟨rfl,_,.of g2⟩,l,xs,y,rfl,rfl,g2,e4,?_⟩;exact f _ _ _ ⟨m.b,Same.refl _,fun _ _ e=>.inl e,m.h⟩ (m.setSh (by simpa using hj) r4)
  ·cases e
 ·cases e
theorem JrV(ha:SE K C te ea):SS K C (JrN i te (ipI g)) (Jfo g i ea):=by
 intro B H0 H σ E o D I e f;unfold Jfo at e;split at e
 ·next x h =>
  obtain⟨s,e1,e⟩:=bind_some e;split at e
  ·cases e;rcases I.at' i _ h with z|⟨v,h1,h2⟩
   ·cases z
   ·have hi:i<E.length:=(Qn.mp h).1;refine⟨v,h1,ha B H0 H σ E _ _ I e1 fun w H1 H1' s1 r1=>⟨_,_,RD.intI h2,RD.intI r1,f _ _ _ (s1.ss I.b) ((I.step s1).setSh hi (.int _))⟩⟩
  ·cases e
 ·cases e
theorem EnvR.slotD{i:Nat}{ks:List Int}{ds:List LE.D}(I:EnvR K C B H0 H σ E)(e1:E[i]?=some (.od ks ds)):∃l xs,σ[i]?=some (some (.ref l))/\H l=some (dkO ks xs)/\H0 l=none/\B l=none/\ks.length=ds.length/\RDL K C H0 xs ds:=by
 rcases I.at' i _ e1 with z|⟨v,h1,l,xs,rfl,h2,h3,h4,h5⟩
 ·cases z
 ·exact⟨l,xs,h1,h2,h3,h4,h5⟩
theorem JnP(hi:SI K C false wi it)(hg:SG K C g p)(ht:SS K C t et):SS K C (JmX wi g t) (Vo it p et):=by
 intro B H0 H σ E o D I e f;obtain⟨ds,e1,e⟩:=bind_some e;refine hi B H0 H σ E ds _ I e1 fun J H1 H1' s1 ok=>?_
 rw[if_neg (by simp)] at ok;refine⟨fun i m σ' H'=>m=ds.length-i/\i<=ds.length/\∃H0' E',EnvR K C B H0' H' σ' E'/\SStep B H1 H0' H'/\Ye p et (ds.drop i) E'=some o,
  ⟨ds.length,by simp,Gr _,H1,E,I.step s1,.refl (I.b.trans s1.h) s1.i,e⟩,?_⟩
 rintro i m σ' H' ⟨rfl,hi',H0',E',I',st,er⟩;have stop:=ok H0' H' st;have f':Fin K C B H0' D o:=(f.step (s1.ss I.b)).step st
 by_cases hlt:i<ds.length
 ·have hd:ds[i]?=some ds[i]:=by simp[hlt]
  obtain⟨go,yl⟩:=stop.1 i _ hd;refine .inr ⟨go,fun σ2 H2=>∃H02 E2,EnvR K C B H02 H2 σ2 E2/\SStep B H1 H02 H2/\Ye p et (ds.drop (i+1)) E2=some o,fun σ2 H2 h=>⟨ds.length-(i+1),by omega,rfl,hlt,h⟩,fun x H2 y=>?_⟩;obtain⟨H02,st2,rx⟩:=yl x H2 y;rw[LJ hlt,Ye] at er;obtain⟨E1,b1,er⟩:=bind_some er;obtain⟨o1,b2,er⟩:=bind_some er;have ss2:SStep B H0' H02 H2:=st2.ss I'.b;refine hg B H02 H2 σ' E' E1 x _ _ (I'.step st2) rx b1 fun σ2 I2=>?_
  refine ht B H02 H2 σ2 E1 o1 _ I2 b2 ?_
  cases o1 with
  | nx E2=>exact fun σ3 H3 H3' s3 I3=>⟨H3,E2,I3,(st.trans ss2).trans s3,er⟩
  | ct E2=>exact fun σ3 H3 H3' s3 I3=>⟨H3,E2,I3,(st.trans ss2).trans s3,er⟩
  | bk E2=>cases er;exact f'.step ss2
  | rt r=>cases er;exact f'.step ss2
 ·have e3:i=ds.length:=by omega
  subst e3;rw[List.drop_length,Ye] at er;cases er;exact .inl ⟨stop.2,f' _ _ _ I'.ss I'⟩
theorem Jm9(hc:ST K C c ec)(ht:SS K C t et):SS K C (Jky c t) (Yw ec et n):=by
 intro B H0 H σ E o D I e f;refine⟨fun m σ' H'=>∃H0' E',EnvR K C B H0' H' σ' E'/\SStep B H0 H0' H'/\Yw ec et m E'=some o,⟨n,H0,E,I,I.ss,e⟩,?_⟩;rintro m σ' H' ⟨H0',E',I',st,er⟩
 cases m with
 | zero=>cases er
 | succ m =>
  rw[Yw] at er;obtain⟨k,b1,er⟩:=bind_some er;refine hc B H0' H' σ' E' k _ I' b1 fun H1 H1' s1=>?_
  have f':Fin K C B H1 D o:=(f.step st).step (s1.ss I'.b)
  cases k with
  | false=>rw[if_neg (by simp)] at er ⊢;cases er;exact f' _ _ _ (I'.step s1).ss (I'.step s1)
  | true =>
   rw[if_pos rfl] at er ⊢;obtain⟨o1,b2,er⟩:=bind_some er;refine⟨fun σ2 H2=>∃H02 E2,EnvR K C B H02 H2 σ2 E2/\SStep B H0 H02 H2/\Yw ec et m E2=some o,fun σ2 H2 h=>⟨m,GJ _,h⟩,?_⟩;have st1:=st.trans (s1.ss I'.b);refine ht B H1 H1' σ' E' o1 _ (I'.step s1) b2 ?_
   cases o1 with
   | nx E2=>exact fun σ3 H3 H3' s3 I3=>⟨H3,E2,I3,st1.trans s3,er⟩
   | ct E2=>exact fun σ3 H3 H3' s3 I3=>⟨H3,E2,I3,st1.trans s3,er⟩
   | bk E2=>cases er;exact f'
   | rt r=>cases er;exact f'
end
noncomputable def Jer:Out->Option Sl
 | .nx _=>some (.sh .non)
 | .rt r=>some r
 | .bk _=>none
 | .ct _=>none
noncomputable def Yo(N:Nat)(b:Es):List Sl->Option Sl:=fun as=>(b (as++QN (N-as.length) .no)).bind Jer
theorem RRL.get{Hs H0 H:Hp}:∀{vs:List V} {ss:List Sl} {i:Nat} {s:Sl},RRL K C Hs H0 H vs ss->ss[i]?=some s->∃v,vs[i]?=some v/\RR K C Hs H0 H v s
 | _,_,_,_,.nil,e=>by simp at e
 | _,_,0,_,.cons h _,e=>by simp at e;subst e;exact⟨_,rfl,h⟩
 | _,_,i+1,s,.cons _ t,e=>by obtain⟨v,h1,h2⟩:=RRL.get (i:=i) (s:=s) t (by simpa using e);exact⟨v,by simpa using h1,h2⟩
theorem Jlq(hb:SS K C ts b)(h:spE K C n (Yo N.length b) vs H Q E):ts { nx:=fun _ H'=>Q .non H',rt:=Q } (L2.UV N vs) H:=by
 obtain⟨H0,as,r,i,ra,ho,hl,e,q⟩:=h;have lens:=ra.len
 have noOwn:∀(j:Nat) (s:Sl),as[j]?=some s->Yb s=false:=fun j s e=>by
  have:=LD.mp ho s (QG e)
  simpa using this
 have get:∀(j:Nat) (s:Sl),(as++QN (N.length-as.length) Sl.no)[j]?=some s->s=.no\/as[j]?=some s:=fun j s e=>by
  by_cases hj:j<as.length
  ·rw[Q0 hj] at e;exact .inr e
  ·rw[Ga (by omega),Rb] at e;split at e
   ·cases e;exact .inl rfl
   ·cases e
 have I:EnvR K C H H0 H (L2.UV N vs) (as++QN (N.length-as.length) .no):=by
  refine⟨Same.refl _,i,by simp[L2.UV,lens],fun j s e=>?_,fun j k s1 s2 v hjk e1 e2 w1 w2=>?_⟩
  ·rcases get j s e with z|z
   ·exact .inl z
   ·obtain⟨v,h1,h2⟩:=ra.get z;refine .inr ⟨v,?_,?_⟩
    ·unfold L2.UV;rw[Q0 (by have:=(Qn.mp h1).1;simpa using this),Qp,h1];rfl
    ·cases s with
     | no=>trivial
     | sh d=>exact h2
     | bo ds=>exact h2
     | own ds=>exact absurd (noOwn j _ z) (by simp[Yb])
     | bd ks ds=>exact h2
     | bt ks ds=>exact h2
     | od ks ds=>exact absurd (noOwn j _ z) (by simp[Yb])
     | ot ks ds=>exact absurd (noOwn j _ z) (by simp[Yb])
  ·rcases get j _ e1 with z|z
   ·subst z;cases w1
   ·rw[noOwn j _ z] at w1;cases w1
 obtain⟨o,e1,e⟩:=bind_some e;refine hb H H0 H _ _ o _ I e1 ?_
 cases o with
 | nx E1=>cases e;exact fun σ' H1 H1' s1 I1=>q _ H1 H1' ⟨s1.b,s1.z,s1.n,s1.i⟩ RD.non
 | rt r'=>cases e;exact fun v H1 H1' s1 r1=>q v H1 H1' ⟨s1.b,s1.z,s1.n,s1.i⟩ r1
 | bk _=>cases e
 | ct _=>cases e
theorem JlC(F:FnOk P w K mg base CX0 k f fd ps (spE K C 1 ev))(h:∀ns:List Int,ns.length<=63->ev [.sh (.fz (ns.map .int))]=some (.sh (.bl true))):FnOk P w K mg base CX0 k f fd ps (Jgx K) :=
 F.imp fun vs H Q E ⟨a,ns,e,hS,hl,q⟩=>by subst e;exact⟨H,[.sh (.fz (ns.map .int))],_,Same.refl _,.cons (show RD K C H _ _ from RD.mkF hS (RDL.ofInts ns)) .nil,rfl,rfl,h ns hl,fun v H0' H' _ r=>by rw[RD.blI r];exact q H'⟩
end LE
namespace L2
open PySem PySem.Spec PyProof.Rows
end L2
namespace LE
open PySem L2 LR
noncomputable def okS(P:En->Prop):Option Out->Prop
 | some (.nx E)=>P E
 | some (.ct E)=>P E
 | _=>False
theorem Jo2:okS P (some (.nx E))=P E:=rfl
theorem Jdj(h:okS P o):∃E,(o=some (.nx E)\/o=some (.ct E))/\P E:=by
 unfold okS at h;split at h
 ·exact⟨_,.inl rfl,h⟩
 ·exact⟨_,.inr rfl,h⟩
 ·exact h.elim
theorem Yk{γ α β:Type}{p:Pt}{b:Es}{f:α->D}{k:Out->Option γ}{r:Option γ}(R:List α->β->En->Prop)(g:β->α->β):∀{as:List α} {E:En} (s:β) (h0:R as s E)
 (h:∀a as s E,R (a::as) s E->okS (R as (g s a)) ((p.bind (f a) E).bind b)) (fin:∀E',R [] (as.foldl g s) E'->k (.nx E')=r),(Ye p b (as.map f) E).bind k=r
 | [],E,s,h0,_,fin=>fin E h0
 | a::as,E,s,h0,h,fin=>by
  obtain⟨E2,e2,r2⟩:=Jdj (h a as s E h0);have ih:=Yk (k:=k) (r:=r) R g (as:=as) (E:=E2) (g s a) r2 h fin;rw[Qg,Ye]
  cases hp:p.bind (f a) E with
  | none=>rw[hp] at e2;rcases e2 with e2|e2 <;> cases e2
  | some E1=>rw[hp,QV] at e2;rw[QV];rcases e2 with e2|e2 <;> (rw[e2,QV];exact ih)
theorem Jc6{γ:Type}{k:Out->Option γ}{r:Option γ}(R:Nat->En->Prop)(h0:R 0 E)(h:∀i E,i<n->R i E->okS (R (i+1)) ((p.bind (f i) E).bind b))(fin:∀E',R n E'->k (.nx E')=r):(Ye p b ((Q9 n).map f) E).bind k=r:=by
 refine Yk (fun(as:List Nat) (i:Nat) E=>i+as.length=n/\as=List.range' i as.length/\R i E) (fun i _=>i+1) 0 ⟨by simp,by simp[List.range_eq_range'],h0⟩ (fun a as i E ⟨hk,e,q⟩=>?_) fun E' ⟨hk,_,q⟩=>?_
 ·rw[Qq,List.range'_succ] at e;have e1:a=i:=(List.cons.inj e).1;subst e1;obtain⟨E2,e2,r2⟩:=Jdj (h a E (by rw[Qq] at hk;omega) q);have fin2:(a+1)+as.length=n/\as=List.range' (a+1) as.length/\R (a+1) E2:=⟨by rw[Qq] at hk;omega,(List.cons.inj e).2,r2⟩
  rcases e2 with e2|e2 <;> (rw[e2];exact fin2)
 ·have e3:(Q9 n).foldl (fun i _=>i+1) 0=n:=by simpa using hk
  rw[e3] at q;exact fin E' q
theorem JL{α:Type}{p:Pt}{a:Ev}{E1:En}{f g:α->D}:∀{xs:List α},(∀x∈xs,((p.bind (f x) E1).bind a).bind Sl.frz=some (g x))->Ul p yes? a E1 (xs.map f)=some (xs.map g)
 | [],_=>rfl
 | x::xs,h=>by have h1:=h x Qd;obtain⟨s,e1,e2⟩:=bind_some h1;obtain⟨E2,e3,e4⟩:=bind_some e1;rw[Qg,Ul,e3];simp only[QV,yes?,if_true,e4,e2];rw[JL fun y hy=>h y (Qc _ hy)];rfl
theorem Jbt{α:Type}{p:Pt}{c:En->Option Bool}{a:Ev}{E1:En}{f g:α->D}{k:α->Bool}:∀{xs:List α},(∀x∈xs,(p.bind (f x) E1).bind c=some (k x)/\(k x=true->((p.bind (f x) E1).bind a).bind Sl.frz=some (g x)))->Ul p c a E1 (xs.map f)=some ((xs.filter k).map g)
 | [],_=>rfl
 | x::xs,h=>by
  obtain⟨h1,h2⟩:=h x Qd;obtain⟨E2,e3,e4⟩:=bind_some h1;have ih:=Jbt (xs:=xs) (fun y hy=>h y (Qc _ hy));rw[Qg,Ul,e3];simp only[QV,e4]
  cases hk:k x with
  | false=>rw[if_neg (by simp),ih,Ky (by simp[hk])]
  | true=>obtain⟨s,e1,e2⟩:=bind_some (h2 hk);rw[e3,QV] at e1;rw[if_pos rfl,e1];simp only[QV,e2];rw[ih,Kz hk];rfl
theorem Jrx(n:Nat):rng 0 n=(Q9 n).map fun i=>.int (i:Int):=by unfold rng;exact QD fun i _=>by rw[L5]
theorem JmT:sizeLine=16777216:=rfl
theorem W2{α β:Type}(f:α->β)(xs:List α)(i:Int):atI (xs.map f) i=(atI xs i).map f:=by
 unfold atI;rw[Qk]
 cases ixN xs.length i with
 | none=>rfl
 | some j=>simp
theorem Jcu{α:Type}{xs:List α}(h:k<xs.length):atI xs (k:Int)=some xs[k]:=by unfold atI ixN;rw[if_pos (by omega),if_pos (by omega)];simp[h]
theorem Jct(h0:0<=k)(h:k<(ns.length:Int)):atI ns k=some (cell ns k):=by
 obtain⟨j,rfl⟩:=Int.eq_ofNat_of_zero_le h0;have hj:j<ns.length:=by omega
 rw[Jcu hj];simp[cell,hj]
theorem Zm{l:List Int}{k:Int}(h0:0<=k)(h1:k<(l.length:Int)):atI (l.map D.int) k=some (.int (ZY l k)):=by rw[W2,Jct h0 h1];rfl
structure Kd {α:Type} (f:α->D) (n:Nat):Prop where
 lay:∀a,(f a).py.canLay0=true
 dep:∀a,(f a).py.depth<=n
 eqv:∀a b,LX (f a).py (f b).py=true↔a=b
theorem Kd.eq{α:Type}[DecidableEq α]{f:α->D}{n:Nat}(k:Kd f n)(h:n<=60)(a b:α):eqD (f a) (f b)=some (decide (a=b)):=by unfold eqD;have:=k.dep a;rw[k.lay a,k.lay b,if_pos (by simp;omega)];congr 1;rw[KB,k.eqv];simp
theorem Jow:Kd D.int 1:=⟨fun _=>rfl,fun _=>by simp[D.py,Mz],fun a b=>by show(a == b)=true↔_;simp⟩
theorem Wt{α:Type}{f:α->D}(k:Kd f n):(∀xs:List α,Lw (D.pyL (xs.map f))=true)/\(∀xs:List α,LU (D.pyL (xs.map f))<=n)/\∀xs ys:List α,Ls (D.pyL (xs.map f)) (D.pyL (ys.map f))=true↔xs=ys:=by
 refine⟨fun xs=>?_,fun xs=>?_,fun xs=>?_⟩
 ·induction xs with
  | nil=>rfl
  | cons x xs ih=>show(PyData.canLay0 _ && Lw _)=true;rw[k.lay,ih];rfl
 ·induction xs with
  | nil=>simp[D.pyL,LU]
  | cons x xs ih=>have:=k.dep x;simp only[Qg,D.pyL,LU];omega
 ·induction xs with
  | nil=>intro ys;cases ys with
   | nil=>simp[D.pyL,Ls]
   | cons y ys=>simp[D.pyL,Ls]
  | cons x xs ih=>intro ys;cases ys with
   | nil=>simp[D.pyL,Ls]
   | cons y ys=>simp only[Qg,D.pyL,Ls,QU,k.eqv,ih,List.cons.injEq]
theorem Ji8{α:Type}{f:α->D}(k:Kd f n):Kd (fun xs:List α=>D.lst (xs.map f)) (n+1) :=
 ⟨fun xs=>(Wt k).1 xs,fun xs=>by have:=(Wt k).2.1 xs;simp only[D.py,Mz];omega,fun xs ys=>by simp only[D.py,LX];exact(Wt k).2.2 xs ys⟩
theorem JeH{α:Type}{f:α->D}(k:Kd f n):Kd (fun xs:List α=>D.tup (xs.map f)) (n+1) :=
 ⟨fun xs=>(Wt k).1 xs,fun xs=>by have:=(Wt k).2.1 xs;simp only[D.py,Mz];omega,fun xs ys=>by simp only[D.py,LX];exact(Wt k).2.2 xs ys⟩
theorem Jnu:Kd prE 2:=⟨fun _=>rfl,fun _=>by simp[prE,D.py,D.pyL,Mz,LU],fun a b=>by obtain⟨a1,a2⟩:=a;obtain⟨b1,b2⟩:=b;simp[prE,D.py,D.pyL,LX,Ls]⟩
theorem Jlc(a b:List Pr):eqD (.tup (a.map prE)) (.tup (b.map prE))=some (decide (a=b)):=(JeH Jnu).eq (by decide) a b
theorem JiG(a b:List Int):eqD (.lst (a.map .int)) (.lst (b.map .int))=some (decide (a=b)):=(Ji8 Jow).eq (by decide) a b
theorem VZ{s:Sl}{ps:List Pr}(e:s.q=some (ps.map prE))(g:Good ps)(h:ps.length<=30):Jaw [s]=some (.sh (.row (ps.map prE))):=by show(s.q.bind _)=_;rw[e,QV,Jbb,QV,ZC g,if_pos (by simp[h])]
theorem JmM:Je9 B (.nx E)=B E:=rfl
theorem JmN:Je9 B (.rt r)=some (.rt r):=rfl
theorem Jk8:Jer (.nx E)=some (.sh .non):=rfl
theorem Jk9:Jer (.rt r)=some r:=rfl
theorem JqC:fI g (.sh (.int a)) (.sh (.int b))=some (.sh (g a b)):=rfl
theorem Jlm(h:(-18446744073709551616<a/\a<18446744073709551616)\/(-18446744073709551616<b/\b<18446744073709551616)):Vx (.sh (.int a)) (.sh (.int b))=some (.sh (.int (a*b))):=by show(if _ then _ else _)=_;rw[if_pos];simp only[LS,US];exact h
theorem Jll(h:0<b):W0 (.sh (.int a)) (.sh (.int b))=some (.sh (.int (a % b))):=by show(if _ then _ else _)=_;rw[if_pos (by simpa using h)]
theorem Jli(h:0<b/\b<1073741824):Jeu (.sh (.int a)) (.sh (.int b))=some (.sh (.int (a / b))):=by show(if _ then _ else _)=_;rw[if_pos (smallP_ok.mpr h)]
theorem Jlp(h:0<=b/\b<=1000000/\-1000<a/\a<1000):Jlo (.sh (.int a)) (.sh (.int b))=some (.sh (.int (a ^ b.toNat))):=by show(if _ then _ else _)=_;rw[if_pos];simp only[QU,decide_eq_true_eq,KC,US];omega
theorem Jln:JcO (.sh (.int a))=some (.sh (.int (-a))):=rfl
theorem Jld:YA (.sh (.int a)) (.sh (.int b))=some (.sh (.int (a+b))):=rfl
theorem Jim(h1:p.m=some xs)(h2:q.m=some ys)(h:xs.length+ys.length<=16777216):Jg9 p q=some (.own (xs++ys)):=by unfold Jg9;rw[h1,h2];exact if_pos h
theorem Jle(h:xs.length+ys.length<=16777216):YA (.own xs) (.own ys)=some (.own (xs++ys)):=Jim rfl rfl h
theorem Jlf(h:xs.length+ys.length<=16777216):YA (.own xs) (.sh (.lst ys))=some (.own (xs++ys)):=Jim rfl rfl h
theorem Jog:Zy [.sh (.lst xs)]=some (.sh (.int xs.length)):=rfl
theorem Jof:Zy [.sh (.fz xs)]=some (.sh (.int xs.length)):=rfl
theorem Joh:Zy [.sh (.tup xs)]=some (.sh (.int xs.length)):=rfl
theorem JqF:fIx (.sh (.lst xs)) (.sh (.int a))=(atI xs a).map .sh:=rfl
theorem JqE:fIx (.sh (.fz xs)) (.sh (.int a))=(atI xs a).map .sh:=rfl
theorem JqH:fIx (.sh (.tup xs)) (.sh (.int a))=(atI xs a).map .sh:=rfl
theorem JqD:fIx (.bo xs) (.sh (.int a))=(atI xs a).map .sh:=rfl
theorem JqG:fIx (.own xs) (.sh (.int a))=(atI xs a).map .sh:=rfl
theorem Joe:eqA (.int a) (.int b)=some (decide (a=b)):=rfl
theorem Jod:eqA (.bl p) (.bl q)=some (decide (p=q)):=rfl
theorem Joc(p q:List Pr):eqA (.tup (p.map prE)) (.tup (q.map prE))=some (decide (p=q)):=Jlc p q
theorem Job(p q:List Int):eqA (.lst (p.map .int)) (.lst (q.map .int))=some (decide (p=q)):=JiG p q
theorem JeE(h:-4611686018427387904<a/\a<4611686018427387904):JeD a=true:=by unfold JeD;rw[KC];omega
theorem Vh{s:Sl}{ns:List Int}(e:s.q=some (ns.map .int)):Jbv [s]=some (.sh (.int ns.sum)):=by show(s.q.bind _)=_;rw[e,QV,ZH];rfl
theorem Jlh{s:Sl}{ns:List Bool}(e:s.q=some (ns.map .bl)):Jlg [s]=some (.sh (.bl (ns.any id))):=by show(s.q.bind _)=_;rw[e,QV,Jfx];rfl
theorem Jqq:(Pt.nm i).bind d E=if i<E.length then some (E.set i (.sh d)) else none:=by rw[Pt.bind]
theorem Jqr:(Pt.tp l).bind (.tup xs) E=l.bind xs E:=by rw[Pt.bind]
theorem JkS:Pts.nil.bind [] E=some E:=by rw[Pts.bind]
theorem Jh2:(Pts.cons q l).bind (d::xs) E=(q.bind d E).bind fun E'=>l.bind xs E':=by rw[Pts.bind]
theorem Jr4:((2:Nat):Int)=2:=rfl
theorem Jhk:D.isNon .non=true:=rfl
theorem Jhi:D.isNon (.int a)=false:=rfl
theorem Jhl:D.isNon (.tup xs)=false:=rfl
theorem Jhj:D.isNon (.lst xs)=false:=rfl
theorem JoB:Jhp "int" "int"=true:=by decide
theorem JlA:Jhp "int" "bool"=false:=by decide
theorem JoD:Jhp "tuple" "tuple"=true:=by decide
theorem JoC:Jhp "list" "list"=true:=by decide
end LE
namespace HT
open PySem PySem.Spec PyProof.Rows
theorem V1{t sl:Addr}{items:Array Value}{vl vu:Value}{lo hi:Option Int}{Q:Value->Shared->Prop}(ht:IsTup s.heap t items)(hs:s.heap.IsSliceOf sl vl vu .none)(pl:IsPart vl lo)(pu:IsPart vu hi)
 (hw:sIx items.size 0 lo=0/\sIx items.size items.size hi=items.size) (h:Q (.ref t) s):wpAny (model prog w) A (getItem (.ref t) (.ref sl)) Q E s:=by
 obtain⟨os,hos,hcs,hds⟩:=id hs;have hTs:s.TypeIs (.ref sl) "slice":=⟨os,hos,hcs⟩
 unfold getItem
 try with_reducible refine Gn ?_
 first|refine Qa (Qe ?_)|skip
 refine Qa (wpAny_sequenceKey ht.typeIs (by decide) ?_);refine Qa (QI (name:=Gj "__getitem__") ht.typeIs Gf
  (QO Gf ht.typeIs entry_tuple_getitem ?_ (args_tuple_getitem _ _)))
 show wpAny _ _ (MJ (.ref t) >>= _) _ _ s;refine Qa (tupleItemsOf_ ht ?_);refine Qa (LC hTs ?_);rw[if_pos (by decide)];refine Qa (UJ hs pl pu ?_)
 have yes:(((sIx items.size 0 lo:Nat):Int) == 0 && (1:Int) == 1 && (sIx items.size items.size hi-sIx items.size 0 lo) == items.size)=true:=by rw[hw.1,hw.2];simp
 show wpAny _ _ (if (((sIx items.size 0 lo:Nat):Int) == 0 && (1:Int) == 1 && (sIx items.size items.size hi-sIx items.size 0 lo) == items.size)=true then _ else _) _ _ s;rw[if_pos yes];unfold Builtin.Tuple.tupleIsExact;refine Qa (Qa (LC ht.typeIs (Qe ?_)));rw[if_pos (by decide)];refine Qa (Kq ?_);exact Qe ⟨_,rfl,Qe h⟩
end HT
namespace L2
open PySem PySem.Spec PyProof.Rows
section
variable{X:Cx}{K:Frag}
noncomputable def Jrs(K:Frag):V->Option Int->Option Int->Hp->VK->Prop:=fun x lo hi H Q=>∃a xs,x=.ref a/\SqT K H a xs/\(HT.sIx xs.length 0 lo=0/\HT.sIx xs.length xs.length hi=xs.length)/\Q (.ref a) H
theorem Jkk:SlR X (Jrs X.K):=by
 intro pins s σ H x v vl vu lo hi sl Q I rx hs pl pu h;obtain⟨a,xs,rfl,hx,hw,q⟩:=h;cases rx;obtain⟨its,r,ht,hz⟩:=I.tuple hx;have hlen:its.toArray.size=xs.length:=by rw[Qo];exact r.length.symm
 refine⟨"tuple",_,Gf.lookup,ht.typeIs,?_⟩;exact HT.V1 ht hs pl pu (by rw[hlen];exact hw) ⟨.ref a,H,I,rfl,q⟩
noncomputable def Jpx(K:Frag):V->Option Int->Option Int->Hp->VK->Prop:=fun x lo hi H Q=>Jrq K x lo hi H Q\/Jrr K x lo hi H Q\/Jrs K x lo hi H Q
theorem Zg(hK:X.K=K):SlR X (Jpx K):=by subst hK;exact sl_list.or (sl_tup.or Jkk)
end
end L2
namespace LE
open PySem L2 LR
noncomputable def Zr{α:Type}(xs:List α)(lo hi:Option Int):List α:=(xs.drop (HT.sIx xs.length 0 lo)).take (HT.sIx xs.length xs.length hi-HT.sIx xs.length 0 lo)
noncomputable def fSl(s:Sl)(lo hi:Option Int):Option Sl:=match s with
 | .sh (.tup ds)=>some (.sh (.tup (Zr ds lo hi)))
 | s=>s.r.map fun ds=>.own (Zr ds lo hi)
noncomputable def Zu(o:Option Ev):En->Option (Option Int):=fun E=>match o with
 | none=>some none
 | some a=>(a E).bind fun s=>match s with
  | .sh (.int i)=>some (some i)
  | _=>none
noncomputable def eSl(a:Ev)(lo hi:Option Ev):Ev:=fun E=>(a E).bind fun s=>(Zu lo E).bind fun l=>(Zu hi E).bind fun h=>fSl s l h
noncomputable def SP'(K:Frag)(C:Addr)(t:TO)(ev:En->Option (Option Int)):Prop:=∀(B H0 H:Hp) (σ:St) (E:En) (r:Option Int) (Q:Option Int->Hp->Prop),EnvR K C B H0 H σ E->ev E=some r ->
 (∀H0' H',Step H H0 H H0' H'->Q r H')->t σ H Q
theorem Jpc:SP' K C JgF (Zu none):=fun _ _ _ _ _ _ _ I e q=>by cases e;exact q _ _ (.refl I.h)
theorem Jpd(ha:SE K C te ea):SP' K C (JnN te) (Zu (some ea)):=by
 intro B H0 H σ E r Q I e q;obtain⟨s,e1,e⟩:=bind_some e;split at e
 ·cases e;exact ha B H0 H σ E _ _ I e1 fun x H1 H1' s1 r1=>⟨_,RD.intI r1,q _ _ s1⟩
 ·cases e
theorem RDL.cut{H:Hp}{xs:List V}{ds:List D}{lo hi:Option Int}(r:RDL K C H xs ds):RDL K C H (Jav xs lo hi) (Zr ds lo hi):=by unfold Jav Zr;rw[r.1];exact(r.drop _).take _
theorem Jsk(ha:SE K C te ea)(hl:SP' K C tl (Zu el))(hh:SP' K C th (Zu eh)):SE K C (tSl (Jpx K) te tl th) (eSl ea el eh):=by
 intro B H0 H σ E c Q I e q;obtain⟨s,e1,e⟩:=bind_some e;obtain⟨l,e2,e⟩:=bind_some e;obtain⟨h,e3,e⟩:=bind_some e;refine ha B H0 H σ E _ _ I e1 fun x H1 H1' s1 r1=>hl B H1 H1' σ E l _ (I.step s1) e2 fun H2 H2' s2=>hh B H2 H2' σ E h _ (I.step (s1.trans s2)) e3 fun H3 H3' s3=>?_
 have s13:=(s1.trans s2).trans s3
 have r3:=(r1.step s2).step s3
 have lst:∀{ds:List D},s.r=some ds->c=.own (Zr ds l h)->Jpx K x l h H3' Q:=fun {ds} er ec=>by subst ec;obtain⟨a,xs,rfl,hq,r⟩:=r3.r s13.i er;exact .inl ⟨a,xs,rfl,hq,fun p hp=>YD s13.i s13.h hp r.cut fun v H4 H4' s4 r4=>q v H4 H4' (s13.comp s4 fun _ z=>z) r4⟩
 unfold fSl at e;split at e
 ·cases e;obtain⟨a,xs,rfl,hq,r⟩:=RD.tupI r3
  by_cases hw:HT.sIx xs.length 0 l=0/\HT.sIx xs.length xs.length h=xs.length
  ·refine .inr (.inr ⟨a,xs,rfl,s13.i.seqT hq,hw,q _ _ _ s13 ?_⟩);have e5:Jav xs l h=xs:=by unfold Jav;rw[hw.1,hw.2];simp
   have r5:=r.cut (lo:=l) (hi:=h);rw[e5] at r5;exact RD.mkT hq r5
  ·exact .inr (.inl ⟨a,xs,rfl,s13.i.seqT hq,hw,fun p hp=>Jch s13.i s13.h hp r.cut fun v H4 H4' s4 r4=>q v H4 H4' (s13.comp s4 fun _ z=>z) r4⟩)
 ·obtain⟨ds,e4,e5⟩:=map_some e;exact lst e4 e5.symm
end LE
namespace PySem
section
variable{prog:Program}{w:World}{A:Around}
theorem Draws.tup(hh:A.handled=none)(j a:Addr)(ne:a≠j)(xs:Array Value):Draws prog w A j [j,a] xs.size (fun i v=>xs[i]?=some v) (fun i h=>h.IsTupleIter j a i/\h.IsTuple a xs) where
 live:=fun _ _ q=>let ⟨o,ho,_⟩:=q.1;⟨o,ho⟩
 frame:=fun _ _ _ q k=>⟨q.1.at fun o e=>k j (by simp) o e,q.2.at fun o e=>k a (by simp) o e⟩
 item:=fun i s Q E hi q hQ=>by
  obtain⟨o,ho,hc,hd⟩:=id q.1;obtain⟨ol,hol,_,nl,hdl⟩:=id q.2;have hx:xs[i]?=some xs[i]:=by simp[hi]
  unfold Q4;refine Qa (QI (name:=Gj "__next__") q.1.typeIs KH (QO KH q.1.typeIs MA ?_ (Mr _)));show wpAny _ _ (field (.ref j) 0 >>= _) _ _ s;refine Qa (QX ho hd (x:=.ref a) rfl ?_);show wpAny _ _ (if (Value.ref a == Value.none)=true then _ else _) _ _ s;rw[if_neg (show ¬((Value.ref a == Value.none)=true) from Qu)]
  show wpAny _ _ (field (.ref j) 1 >>= _) _ _ s;refine Qa (QX ho hd (x:=.int i 0) rfl (show wpAny _ _ (seqItems? (.ref a) >>= _) _ _ s from Qa (Gx hol hdl ?_)));simp only[GZ,hx];refine Qa (Kg ho hd (by simp) (Qe ⟨xs[i],rfl,Qe (hQ _ _ s.toks hx ⟨⟨_,QT _ ho (Km (Gy hd _)),(Lx ..).trans hc,?_⟩,q.2.extBut (Gc ..).extBut ne⟩ (Gc ..))⟩))
  rw[Gy hd];simp[rawInt]
 done:=fun s Q E q hE=>by
  obtain⟨o,ho,hc,hd⟩:=id q.1;obtain⟨ol,hol,_,nl,hdl⟩:=id q.2;have hx:xs[xs.size]?=none:=by simp
  unfold Q4;refine Qa (QI (name:=Gj "__next__") q.1.typeIs KH (QO KH q.1.typeIs MA ?_ (Mr _)));show wpAny _ _ (field (.ref j) 0 >>= _) _ _ s;refine Qa (QX ho hd (x:=.ref a) rfl ?_);show wpAny _ _ (if (Value.ref a == Value.none)=true then _ else _) _ _ s;rw[if_neg (show ¬((Value.ref a == Value.none)=true) from Qu)]
  show wpAny _ _ (field (.ref j) 1 >>= _) _ _ s;refine Qa (QX ho hd (x:=.int xs.size 0) rfl (show wpAny _ _ (seqItems? (.ref a) >>= _) _ _ s from Qa (Gx hol hdl ?_)));simp only[GZ,hx];refine Qa (Kq (Qa (Kg ho hd (by simp) (show wpAny _ _ (newExc (.type "StopIteration") [] >>= _) _ _ _ from Qa ?_))));simp only[newExc,newTuple];refine Qa (QQ (Qa (m:=firstArgMember _ _) (Ku (a:=Value.none) (by first | rfl | (simp only[firstArgMember];rfl)) (QQ ?_ (by size_fits)))) (by size_fits))
  simp only[raiseNew];refine Qa (M5 ?_)
  first|rw[show A.in1.handled=none from hh]|rw[hh]
  refine Qa (Qe (RN ?_));exact hE _ _ (((Gc ..).extBut.push _).push _) ⟨_,Qi _ rfl,rfl⟩
end
structure ZA (z TI TO i1 i2:Addr) (p1 p2:List Addr):Prop where
 a1:TI≠z
 a2:TO≠z
 a3:TI≠TO
 m1:i1∈p1
 m2:i2∈p2
 z1:z∉p1
 z2:z∉p2
 t1:TI∉p1
 t2:TI∉p2
 o1:TO∉p1
 o2:TO∉p2
 x1:i1∉p2
 x2:i2∉p1
theorem Jbd{Q:Value->Shared->Prop}(D:ZA z TI TO i1 i2 p1 p2)(D1:Draws prog w A i1 p1 n1 P1 S1)(D2:Draws prog w A i2 p2 n2 P2 S2)(gz:IsZip s.heap z TI TO .none)(gI:IsPair s.heap TI (.ref i1) (.ref i2))(gO:IsPair s.heap TO a b)(st1:S1 k s.heap)(st2:S2 k s.heap)(l1:k<n1)(l2:k<n2)(hQ:∀x y h' tk,P1 k x->P2 k y->IsZip h' z TI TO (rawInt s.heap.objs.size)->IsPair h' TI (.ref i1) (.ref i2)->IsPair h' TO x y->S1 (k+1) h'->S2 (k+1) h'->IsPair h' s.heap.objs.size x y->h'.objs.size=s.heap.objs.size+1 ->
  (∀c o,c≠z->c≠TO->c≠i1->c≠i2->s.heap.get? c=some o->h'.get? c=some o)->Q (.ref s.heap.objs.size) { s with heap:=h',toks:=tk }):
 wpAny (model prog w) A (Builtin.«zip.__next__» ⟨[.ref z],[]⟩) (fun fin s'=>∃v,fin=.done (.ret v)/\Q v s') E s:=by
 obtain⟨hp,g,d,t0,os⟩:=s;have zi1:i1≠z:=fun q=>D.z1 (q▸D.m1)
 have zi2:i2≠z:=fun q=>D.z2 (q▸D.m2)
 have oi1:i1≠TO:=fun q=>D.o1 (q▸D.m1)
 have oi2:i2≠TO:=fun q=>D.o2 (q▸D.m2)
 have ii1:i1≠TI:=fun q=>D.t1 (q▸D.m1)
 have ii2:i2≠TI:=fun q=>D.t2 (q▸D.m2)
 have i12:i1≠i2:=fun q=>D.x1 (q▸D.m2)
 show wpAny _ _ (field (.ref z) 2 >>= _) _ _ _;refine Qa (QX gz rfl (x:=.bool false) rfl (show wpAny _ _ (field (.ref z) 3 >>= _) _ _ _ from Qa (QX gz rfl (x:=.ref TI) rfl (Qa (Gx gI rfl ?_)))))
 show wpAny _ _ (QR (.ref z) >>= _) _ _ _;refine Qa ?_;unfold QR;refine Qa (QX gz rfl (x:=.none) rfl (Qe ?_));simp only[if_true];refine Qa (Kq (Qa (QX gz rfl (x:=.ref TO) rfl (Qa (Gb gz (by simp) fun k1 y1 e1=>?_)))))
 replace y1:IsZip k1 z TI TO .ellipsis:=y1
 replace e1:QA z hp k1:=e1;refine Qa ?_;simp only[K4,List.zipIdx_nil,Ms,MK];refine Qa (Qa (M6 (show wpAny _ _ (Q4 (.ref i1) >>= _) _ _ _ from Qa (D1.item k _ _ _ l1 (D1.frame _ _ _ st1 fun b hb o q=>e1.extBut b o (fun r=>D.z1 (r▸hb)) q) fun x k2 t2 px s2 e2=>Qe ?_))))
 replace e2:QA i1 k1 k2:=e2;have O2:IsPair k2 TO a b:=e2.extBut _ _ (QP oi1) (e1.extBut _ _ D.a2 gO);refine Qa (Gx (s:=⟨k2,g,d,t2,os⟩) O2 rfl (Qa (Mj (s:=⟨k2,g,d,t2,os⟩) O2 fun k3 O3 e3=>?_)))
 replace O3:IsPair k3 TO x b:=O3
 replace e3:QA TO k2 k3:=e3;refine Qa (KO (Qe ?_));have st2':S2 k k3:=D2.frame _ _ _ st2 fun b hb o q=>e3.extBut b o (fun r=>D.o2 (r▸hb)) (e2.extBut b o (fun r=>D.x1 (r▸hb)) (e1.extBut b o (fun r=>D.z2 (r▸hb)) q))
 refine Qa (Qa (M6 (show wpAny _ _ (Q4 (.ref i2) >>= _) _ _ _ from Qa (D2.item k _ _ _ l2 st2' fun y k4 t4 py s4 e4=>Qe ?_))))
 replace e4:QA i2 k3 k4:=e4;have O4:IsPair k4 TO x b:=e4.extBut _ _ (QP oi2) O3;refine Qa (Gx (s:=⟨k4,g,d,t4,os⟩) O4 rfl (Qa (Mj (s:=⟨k4,g,d,t4,os⟩) O4 fun k5 O5 e5=>?_)))
 replace O5:IsPair k5 TO x y:=O5
 replace e5:QA TO k4 k5:=e5;refine Qa (KO (Qe (Qe (Qa (Gx (s:=⟨k5,g,d,t4,os⟩) O5 rfl (Qa (L6 ?_)))))));have hsz:k5.objs.size=hp.objs.size:=by rw[e5.1,e4.1,e3.1,e2.1,e1.1]
 have Z5:IsZip k5 z TI TO .ellipsis:=e5.extBut _ _ (QP D.a2) (e4.extBut _ _ (QP zi2) (e3.extBut _ _ (QP D.a2) (e2.extBut _ _ (QP zi1) y1)))
 have keep5:∀c o,c≠z->c≠TO->c≠i1->c≠i2->hp.get? c=some o->k5.get? c=some o:=fun c o c1 c2 c3 c4 q=>e5.extBut _ _ c2 (e4.extBut _ _ c4 (e3.extBut _ _ c2 (e2.extBut _ _ c3 (e1.extBut _ _ c1 q))))
 have T1:S1 (k+1) k5:=D1.frame _ _ _ s2 fun b hb o q=>e5.extBut b o (fun r=>D.o1 (r▸hb)) (e4.extBut b o (fun r=>D.x2 (r▸hb)) (e3.extBut b o (fun r=>D.o1 (r▸hb)) q))
 have T2:S2 (k+1) k5:=D2.frame _ _ _ s4 fun b hb o q=>e5.extBut b o (fun r=>D.o2 (r▸hb)) q
 have zlt:z<k5.objs.size:=Qj Z5
 show wpAny _ _ (G8 (.ref z) (.ref k5.objs.size) >>= _) _ _ _;refine Qa ?_;unfold G8
 have Z6:IsZip (k5.push { cls:=.type "tuple",data:=.seq #[x,y] }) z TI TO .ellipsis:=Qf _ Z5;refine Qa (Gb Z6 (by simp) fun k7 Z7 e7=>?_)
 replace Z7:IsZip k7 z TI TO (rawInt k5.objs.size):=Z7
 replace e7:QA z (k5.push { cls:=.type "tuple",data:=.seq #[x,y] }) k7:=e7;refine Gb Z7 (by simp) fun k8 Z8 e8=>?_
 replace Z8:IsZip k8 z TI TO (rawInt k5.objs.size):=Z8
 replace e8:QA z k7 k8:=e8;have up:∀c o,c≠z->k5.get? c=some o->k8.get? c=some o:=fun c o c1 q=>e8.extBut _ _ c1 (e7.extBut _ _ c1 (Qf _ q))
 have N8:IsPair k8 k5.objs.size x y:=e8.extBut _ _ (QY zlt) (e7.extBut _ _ (QY zlt) (Qi _ rfl))
 have z8:k8.objs.size=k5.objs.size+1:=by rw[e8.1,e7.1,Gg]
 rw[hsz] at Z8 N8 z8;refine Qe ⟨_,rfl,?_⟩;show Q (.ref k5.objs.size) _;rw[hsz];refine hQ x y k8 t4 px py Z8 (up _ _ D.a1 (keep5 _ _ D.a1 D.a3 (QP ii1) (QP ii2) gI)) (up _ _ D.a2 O5) ?_ ?_ N8 z8 fun c o c1 c2 c3 c4 q=>up c o c1 (keep5 c o c1 c2 c3 c4 q)
 ·exact D1.frame _ _ _ T1 fun b hb o q=>up b o (fun r=>D.z1 (r▸hb)) q
 ·exact D2.frame _ _ _ T2 fun b hb o q=>up b o (fun r=>D.z2 (r▸hb)) q
theorem Jd1(D:ZA z TI TO i1 i2 p1 p2)(D1:Draws prog w A i1 p1 n1 P1 S1)(D2:Draws prog w A i2 p2 n2 P2 S2)(gz:IsZip s.heap z TI TO .none)(gI:IsPair s.heap TI (.ref i1) (.ref i2))(gO:IsPair s.heap TO a b)(st1:S1 k s.heap)(st2:S2 k s.heap)(hend:k=n1\/(k<n1/\k=n2))(hE:∀h' e tk,(∀c o,c≠z->c≠TO->c≠i1->c≠i2->s.heap.get? c=some o->h'.get? c=some o)->(∃o,h'.get? e=some o/\o.cls=.type "StopIteration")->E (.ref e) { s with heap:=h',toks:=tk }):
 wpAny (model prog w) A (Builtin.«zip.__next__» ⟨[.ref z],[]⟩) Q E s:=by
 obtain⟨hp,g,d,t0,os⟩:=s;have zi1:i1≠z:=fun q=>D.z1 (q▸D.m1)
 have zi2:i2≠z:=fun q=>D.z2 (q▸D.m2)
 have oi1:i1≠TO:=fun q=>D.o1 (q▸D.m1)
 show wpAny _ _ (field (.ref z) 2 >>= _) _ _ _;refine Qa (QX gz rfl (x:=.bool false) rfl (show wpAny _ _ (field (.ref z) 3 >>= _) _ _ _ from Qa (QX gz rfl (x:=.ref TI) rfl (Qa (Gx gI rfl ?_)))))
 show wpAny _ _ (QR (.ref z) >>= _) _ _ _;refine Qa ?_;unfold QR;refine Qa (QX gz rfl (x:=.none) rfl (Qe ?_));simp only[if_true];refine Qa (Kq (Qa (QX gz rfl (x:=.ref TO) rfl (Qa (Gb gz (by simp) fun k1 y1 e1=>?_)))))
 replace y1:IsZip k1 z TI TO .ellipsis:=y1
 replace e1:QA z hp k1:=e1;refine Qa ?_;simp only[K4,List.zipIdx_nil,Ms,MK];refine Qa (Qa (M6 (show wpAny _ _ (Q4 (.ref i1) >>= _) _ _ _ from Qa ?_)));have q1:S1 k k1:=D1.frame _ _ _ st1 fun b hb o q=>e1.extBut b o (fun r=>D.z1 (r▸hb)) q
 rcases hend with rfl|⟨l1,rfl⟩
 ·refine D1.done _ _ _ q1 fun k2 e e2 he=>?_
  replace e2:KF i1 k1 k2:=e2;obtain⟨oe,hoe,hce⟩:=he;have Z2:IsZip k2 z TI TO .ellipsis:=e2 _ _ (QP zi1) y1;have ez:e≠z:=fun q=>by subst q;rw[Z2] at hoe;cases hoe;simp at hce
  exact Gb Z2 (by simp) fun k3 _ e3=>hE k3 e t0 (fun c o c1 _ c3 _ q=>e3.extBut _ _ c1 (e2 _ _ c3 (e1.extBut _ _ c1 q))) ⟨oe,e3.extBut _ _ ez hoe,hce⟩
 ·refine D1.item k _ _ _ l1 q1 fun x k2 t2 px s2 e2=>Qe ?_
  replace e2:QA i1 k1 k2:=e2;have O2:IsPair k2 TO a b:=e2.extBut _ _ (QP oi1) (e1.extBut _ _ D.a2 gO);refine Qa (Gx (s:=⟨k2,g,d,t2,os⟩) O2 rfl (Qa (Mj (s:=⟨k2,g,d,t2,os⟩) O2 fun k3 O3 e3=>?_)))
  replace e3:QA TO k2 k3:=e3;refine Qa (KO (Qe ?_));have st2':S2 k k3:=D2.frame _ _ _ st2 fun b hb o q=>e3.extBut b o (fun r=>D.o2 (r▸hb)) (e2.extBut b o (fun r=>D.x1 (r▸hb)) (e1.extBut b o (fun r=>D.z2 (r▸hb)) q))
  refine Qa (Qa (M6 (show wpAny _ _ (Q4 (.ref i2) >>= _) _ _ _ from Qa (D2.done _ _ _ st2' fun k4 e e4 he=>?_))))
  replace e4:KF i2 k3 k4:=e4;obtain⟨oe,hoe,hce⟩:=he;have Z4:IsZip k4 z TI TO .ellipsis:=e4 _ _ (QP zi2) (e3.extBut _ _ (QP D.a2) (e2.extBut _ _ (QP zi1) y1));have ez:e≠z:=fun q=>by subst q;rw[Z4] at hoe;cases hoe;simp at hce
  exact Gb Z4 (by simp) fun k5 _ e5=>hE k5 e t2 (fun c o c1 c2 c3 c4 q=>e5.extBut _ _ c1 (e4 _ _ c4 (e3.extBut _ _ c2 (e2.extBut _ _ c3 (e1.extBut _ _ c1 q))))) ⟨oe,e5.extBut _ _ ez hoe,hce⟩
def IsSq(b:Bool)(h:Heap)(a:Addr)(xs:Array Value):Prop:=match b with
 | true=>h.IsTuple a xs
 | false=>h.IsList a xs
def IsItr(b:Bool)(h:Heap)(j a:Addr)(i:Nat):Prop:=match b with
 | true=>h.IsTupleIter j a i
 | false=>h.IsListIter j a i
def itO(b:Bool)(a:Addr):Obj:=match b with
 | true=>{ cls:=.type "tuple_iterator",data:=.fields #[.ref a,.int 0 0] }
 | false=>{ cls:=.type "list_iterator",data:=.fields #[.ref a,.int 0 0] }
theorem IsSq.push(q:IsSq b h a xs)(o:Obj):IsSq b (h.push o) a xs:=by
 cases b with
 | true=>exact Heap.IsTuple.push q o
 | false=>exact Heap.IsList.push q o
theorem IsSq.lt{h:Heap}(q:IsSq b h a xs):a<h.objs.size:=by
 cases b with
 | true=>obtain⟨o,e,_⟩:=q;exact Qj e
 | false=>obtain⟨o,e,_⟩:=q;exact Qj e
theorem IsItr.new(e:h.get? a1=some (itO b a)):IsItr b h a1 a 0:=by
 cases b with
 | true=>exact⟨_,e,rfl,rfl⟩
 | false=>exact⟨_,e,rfl,rfl⟩
theorem UG(q:IsSq b s.heap a xs)(h:Q (.ref s.heap.objs.size) { s with heap:=s.heap.push (itO b a) }):wpAny (model prog w) A (pyIter (.ref a)) Q E s:=by
 cases b with
 | true=>exact MG q h
 | false=>exact L4 q h
theorem Draws.sq(hh:A.handled=none)(j:Addr)(ne:a≠j):Draws prog w A j [j,a] xs.size (fun i v=>xs[i]?=some v) (fun i h=>IsItr b h j a i/\IsSq b h a xs):=by
 cases b with
 | true=>exact Draws.tup hh j a ne xs
 | false=>exact Draws.list hh j a ne xs
abbrev zP1(h:Heap)(b1:Bool)(a1:Addr):Heap:=h.push (itO b1 a1)
abbrev zP2(h:Heap)(b1 b2:Bool)(a1 a2:Addr):Heap:=(zP1 h b1 a1).push (itO b2 a2)
abbrev zP3(h:Heap)(b1 b2:Bool)(a1 a2:Addr):Heap:=(zP2 h b1 b2 a1 a2).push { cls:=.type "tuple",data:=.seq #[.ref h.objs.size,.ref (zP1 h b1 a1).objs.size] }
abbrev zP4(h:Heap)(b1 b2:Bool)(a1 a2:Addr):Heap:=(zP3 h b1 b2 a1 a2).push { cls:=.type "tuple",data:=.seq #[.none,.none] }
abbrev zP5(h:Heap)(b1 b2:Bool)(a1 a2:Addr):Heap:=(zP4 h b1 b2 a1 a2).push { cls:=.type "zip",data:=.fields #[.none,.bool false,.bool false,.ref (zP2 h b1 b2 a1 a2).objs.size,.ref (zP3 h b1 b2 a1 a2).objs.size] }
theorem JeQ(b1 b2:Bool)(a1 a2:Addr)(xs ys:Array Value):Meets (Builtin.«zip.__new__» ⟨[.type "zip",.ref a1,.ref a2],[]⟩) (fun _ R s=>IsSq b1 s.heap a1 xs/\IsSq b2 s.heap a2 ys ∧
 R (.ok (.ret (.ref (zP4 s.heap b1 b2 a1 a2).objs.size))) { s with heap:=zP5 s.heap b1 b2 a1 a2 }) :=
 .of_wp fun prog w A R s h=>by obtain⟨hp,g,d,tk,os⟩:=s;obtain⟨q1,q2,h⟩:=h;have hsub:=sub_zip;have r1:IsSq b1 (Xh ⟨hp,g,d,tk,os⟩) a1 xs:=q1;have r2:IsSq b2 (Xh ⟨hp.push (itO b1 a1),g,d,tk,os⟩) a2 ys:=IsSq.push q2 _;wp_walk using UG r1,UG r2;exact⟨_,rfl,h⟩
theorem JaM(q1:IsSq b1 s.heap a1 xs)(q2:IsSq b2 s.heap a2 ys)(h:∀h',IsZip h' (s.heap.objs.size+4) (s.heap.objs.size+2) (s.heap.objs.size+3) .none->IsPair h' (s.heap.objs.size+2) (.ref s.heap.objs.size) (.ref (s.heap.objs.size+1))->IsPair h' (s.heap.objs.size+3) .none .none ->
  IsItr b1 h' s.heap.objs.size a1 0->IsItr b2 h' (s.heap.objs.size+1) a2 0->(∀c o,s.heap.get? c=some o->h'.get? c=some o)->Q (.ref (s.heap.objs.size+4)) { s with heap:=h' }):
 wpAny (model prog w) A (call (.type "zip") [.ref a1,.ref a2]) Q E s:=by
 refine callType_new F.called_zip (by decide) (F.typeCall_zip_2 _ _) (F.newCall_zip_2 _ _) (fun obj=>F.args_object_init_3 obj _ _) F.entry_zip_new (JeQ b1 b2 a1 a2 xs ys) ⟨q1,q2,?_⟩;have z1:(zP1 s.heap b1 a1).objs.size=s.heap.objs.size+1:=Gg ..;have z2:(zP2 s.heap b1 b2 a1 a2).objs.size=s.heap.objs.size+2:=by rw[Gg,z1]
 have z3:(zP3 s.heap b1 b2 a1 a2).objs.size=s.heap.objs.size+3:=by rw[Gg,z2]
 have z4:(zP4 s.heap b1 b2 a1 a2).objs.size=s.heap.objs.size+4:=by rw[Gg,z3]
 have up:∀{k:Heap} {c:Addr} {o u:Obj},k.get? c=some o->(k.push u).get? c=some o:=fun q=>Qf _ q
 have fi1:(itO b1 a1).isFreed=false:=by cases b1 <;> rfl
 have fi2:(itO b2 a2).isFreed=false:=by cases b2 <;> rfl
 have g5:(zP5 s.heap b1 b2 a1 a2).get? (zP4 s.heap b1 b2 a1 a2).objs.size=some _:=Qi _ rfl
 have g4:(zP5 s.heap b1 b2 a1 a2).get? (zP3 s.heap b1 b2 a1 a2).objs.size=some _:=up (Qi _ rfl)
 have g3:(zP5 s.heap b1 b2 a1 a2).get? (zP2 s.heap b1 b2 a1 a2).objs.size=some _:=up (up (Qi _ rfl))
 have g2:(zP5 s.heap b1 b2 a1 a2).get? (zP1 s.heap b1 a1).objs.size=some _:=up (up (up (Qi _ fi2)))
 have g1:(zP5 s.heap b1 b2 a1 a2).get? s.heap.objs.size=some _:=up (up (up (up (Qi _ fi1))))
 show _/\_;rw[z2,z3,z4] at g5;rw[z1,z2] at g3;rw[z3] at g4;rw[z1] at g2;rw[z4];exact⟨⟨_,g5,rfl⟩,h _ g5 g3 g4 (.new g1) (.new g2) fun c o q=>up (up (up (up (up q))))⟩
end PySem
namespace L2
open PySem PySem.Spec PyProof.Rows
theorem Inv.turnedL{t':Nat}{fp:List Addr}(I:Inv X pins σ H s)(k:∀b o,b∉fp->s.heap.get? b=some o->h'.get? b=some o)(hf:∀b∈fp,FpOk X pins H b):Inv X pins σ H { s with heap:=h',toks:=t' }:=by
 have nit:∀b u,H b=some u->b∉fp:=fun b u e z=>by rw[(hf b z).1] at e;cases e
 refine I.step (g':=s.gens) (d':=s.drawn) (ch:=fp) (fun b hb=>?_) (fun b o _ _ hc e _=>k b o hc e) (fun b o _ _ hc e _=>⟨o.slots,k b o hc e⟩) (fun _ _ _ _ n=>n)
  (fun b o hc e=>⟨o,k b o hc e⟩) (fun _ _ e=>e) (fun _ _ _ e=>e) (fun b ps e=>⟨#[],by rw[e];simp⟩) (fun m hm=>?_) (fun b u e=>?_) I.bare
 ·obtain⟨f0,f1,f2,f3,f4,f5⟩:=hf b hb;exact⟨f3,f1,f4,f5⟩
 ·obtain⟨o,es,ep,ho,r⟩:=hm;exact⟨o,es,ep,k _ o (fun z=>(hf _ z).2.1 rfl) ho,r⟩
 ·refine(I.hok b u e).stay (fun c v hc q=>k c v ?_ q) (fun _ q=>q) fun _ _ q=>q
  rcases hc with z|z
  ·rw[z];exact nit b u e
  ·exact nit c _ z
noncomputable def Sq(b:Bool)(K:Frag)(H:Hp)(a:Addr)(xs:List V):Prop:=match b with
 | true=>SqT K H a xs
 | false=>SqL K H a xs
theorem Sq.heap(I:Inv X pins σ H s)(q:Sq b X.K H a xs):∃its:List Value,Vals xs its/\IsSq b s.heap a its.toArray:=by
 cases b with
 | true=>obtain⟨its,r,p,_⟩:=I.tuple q;exact⟨its,r,p⟩
 | false=>obtain⟨its,r,p,_⟩:=I.list q;exact⟨its,r,p.isList⟩
theorem Sq.inj(I:Inv X pins σ H s)(q:Sq b X.K H a xs)(q':Sq b X.K H a ys):xs=ys:=by
 cases b with
 | true=>exact I.tuple_inj q q'
 | false=>exact I.list_inj q q'
theorem FpOk.off(I:Inv X pins σ H s)(q:Sq b X.K H a xs)(f:FpOk X pins H c):a≠c:=by
 intro e;subst e;have own:∀{o:HO},H a=some o->False:=fun h=>by rw[f.1] at h;cases h
 have mod:∀{o:Obj},X.K.lookup a=some o->False:=fun {o} h=>by
  have hb:=I.ok.mod.kin a o h;rcases f.2.2.2.1 with z|z
  ·exact I.ok.noex a o hb z
  ·exact absurd (Qj hb) (Me.mpr (Gz I.ok.bsz z))
 cases b with
 | true =>
  rcases q with (h|⟨o,h⟩)|⟨o,its,n,h,_⟩
  ·exact own h
  ·exact own h
  ·exact mod h
 | false =>
  rcases q with (h|⟨o,h⟩)|⟨o,its,n,h,_⟩
  ·exact own h
  ·exact own h
  ·exact mod h
noncomputable def Itz(K:Frag)(b1 b2:Bool)(a1 a2:Addr):It :=
 ⟨fun i H=>∃xs ys x y,Sq b1 K H a1 xs/\Sq b2 K H a2 ys/\xs[i]?=some x/\ys[i]?=some y,
  fun i H x H'=>∃p u v,x=.ref p/\H p=none/\H'=upd H p (.tup [u,v])/\∀xs ys,Sq b1 K H a1 xs->Sq b2 K H a2 ys->xs[i]?=some u/\ys[i]?=some v,
  fun i H=>∃xs ys,Sq b1 K H a1 xs/\Sq b2 K H a2 ys/\i=min xs.length ys.length⟩
noncomputable def ZSt(b1 b2:Bool)(a1 a2 z TI TO i1 i2:Addr)(i:Nat)(h:Heap):Prop:=IsZip h z TI TO .none/\IsPair h TI (.ref i1) (.ref i2)/\(∃a b,IsPair h TO a b)/\IsItr b1 h i1 a1 i/\IsItr b2 h i2 a2 i
theorem IsItr.keep{b:Bool}{h h':Heap}{j a:Addr}{i:Nat}(q:IsItr b h j a i)(k:∀o,h.get? j=some o->h'.get? j=some o):IsItr b h' j a i:=by
 cases b with
 | true=>obtain⟨o,e,r⟩:=q;exact⟨o,k o e,r⟩
 | false=>obtain⟨o,e,r⟩:=q;exact⟨o,k o e,r⟩
theorem IsItr.obj{b:Bool}{h:Heap}{j a:Addr}{i:Nat}(q:IsItr b h j a i):∃o,h.get? j=some o/\∀v,o.data≠.cell v:=by
 cases b with
 | true=>obtain⟨o,e,_,d⟩:=q;exact⟨o,e,fun v z=>by rw[d] at z;cases z⟩
 | false=>obtain⟨o,e,_,d⟩:=q;exact⟨o,e,fun v z=>by rw[d] at z;cases z⟩
theorem JnR{X:Cx}{pins:List (Addr×Obj)}{σ:St}{H:Hp}{s:Shared}{b1 b2:Bool}{a1 a2 z TI TO i1 i2:Addr}{xs ys:List V}(I:Inv X pins σ H s)(q1:Sq b1 X.K H a1 xs)(q2:Sq b2 X.K H a2 ys)(hf:∀b∈[z,TI,TO,i1,i2],FpOk X pins H b)
 (nd:[z,TI,TO,i1,i2].Nodup):ZA z TI TO i1 i2 [i1,a1] [i2,a2]:=by
 have o1:∀c∈[z,TI,TO,i1,i2],a1≠c:=fun c hc=>FpOk.off I q1 (hf c hc)
 have o2:∀c∈[z,TI,TO,i1,i2],a2≠c:=fun c hc=>FpOk.off I q2 (hf c hc)
 simp only[QW,Qh,Q1,or_false,not_or] at nd;obtain⟨⟨n1,n2,n3,n4⟩,⟨n5,n6,n7⟩,⟨n8,n9⟩,n10,_⟩:=nd;have c1:=o1 z (by simp);have c2:=o1 TI (by simp);have c3:=o1 TO (by simp);have c4:=o1 i2 (by simp);have d1:=o2 z (by simp);have d2:=o2 TI (by simp);have d3:=o2 TO (by simp);have d4:=o2 i1 (by simp);refine⟨QP n1,QP n2,n5,by simp,by simp,?_,?_,?_,?_,?_,?_,?_,?_⟩ <;> simp only[Qh,Q1,or_false,not_or]
 ·exact⟨n3,QP c1⟩
 ·exact⟨n4,QP d1⟩
 ·exact⟨n6,QP c2⟩
 ·exact⟨n7,QP d2⟩
 ·exact⟨n8,QP c3⟩
 ·exact⟨n9,QP d3⟩
 ·exact⟨n10,QP d4⟩
 ·exact⟨QP n10,QP c4⟩
theorem JkG{P:Program}{w:World}{K:Frag}{elts:List Expr}{kk:Nat}{pos:Pos}(b1 b2:Bool)(a1 a2 z TI TO i1 i2:Addr)(nd:[z,TI,TO,i1,i2].Nodup) :
 Turn P w K (.Tuple elts kk pos) (Itz K b1 b2 a1 a2) [z,TI,TO,i1,i2] z (ZSt b1 b2 a1 a2 z TI TO i1 i2) where
 mem:=by simp
 obj:=fun i h st b hb=>by
  obtain⟨s1,s2,⟨u,v,s3⟩,s4,s5⟩:=st;simp only[Qh,Q1,or_false] at hb;rcases hb with rfl|rfl|rfl|rfl|rfl
  ·exact⟨_,s1,fun v z=>nomatch (show Data.fields _=Data.cell v from z)⟩
  ·exact⟨_,s2,fun v z=>nomatch (show Data.seq _ _=Data.cell v from z)⟩
  ·exact⟨_,s3,fun v z=>nomatch (show Data.seq _ _=Data.cell v from z)⟩
  ·exact IsItr.obj (b:=b1) s4
  ·exact IsItr.obj (b:=b2) s5
 keep:=fun i h h' st k=>by obtain⟨s1,s2,⟨u,v,s3⟩,s4,s5⟩:=st;exact⟨k z (by simp) _ s1,k TI (by simp) _ s2,⟨u,v,k TO (by simp) _ s3⟩,IsItr.keep (b:=b1) s4 fun o e=>k i1 (by simp) o e,IsItr.keep (b:=b2) s5 fun o e=>k i2 (by simp) o e⟩
 item:=by
  intro X hP hw hK hc i pins s σ H E I hf st hg;subst hP hw hK;obtain⟨xs,ys,x,y,q1,q2,e1,e2⟩:=hg;obtain⟨its,r1,p1⟩:=q1.heap I;obtain⟨jts,r2,p2⟩:=q2.heap I;obtain⟨s1,s2,⟨u0,v0,s3⟩,s4,s5⟩:=st;have Z:=JnR I q1 q2 hf nd;have hh:X.A.in1.handled=none:=I.ok.hd hc;have ne1:a1≠i1:=FpOk.off I q1 (hf i1 (by simp));have ne2:a2≠i2:=FpOk.off I q2 (hf i2 (by simp));have D1:=Draws.sq (prog:=X.prog) (w:=X.w) (b:=b1) (xs:=its.toArray) hh i1 ne1
  have D2:=Draws.sq (prog:=X.prog) (w:=X.w) (b:=b2) (xs:=jts.toArray) hh i2 ne2
  have hT:s.TypeIs (.ref z) "zip":=⟨_,s1,rfl⟩
  have l1:i<its.toArray.size:=by have:=(Qn.mp e1).1;rw[Qo,<- r1.length];exact this
  have l2:i<jts.toArray.size:=by have:=(Qn.mp e2).1;rw[Qo,<- r2.length];exact this
  unfold pyNext;refine Qa (GR (QI (name:=Gj "__next__") hT GN (QO GN hT K5 (Jbd Z D1 D2 s1 s2 s3 ⟨s4,p1⟩ ⟨s5,p2⟩ l1 l2 fun u v k tk pu pv t1 t2 t3 t4 t5 t6 t7 t8=>Qe ?_) (KP _))));refine⟨_,rfl,wpAny_letOwnedTupleGo_zip (s:={ s with heap:=k,toks:=tk }) t1 fun k2 t9 e9=>?_⟩
  replace e9:QA z k k2:=e9;obtain⟨ux,hx1,rx⟩:=r1.get e1;obtain⟨uy,hy1,ry⟩:=r2.get e2
  have eu:u=ux:=by
   have pu':its[i]?=some u:=by simpa using pu
   rw[hx1] at pu';exact(QK pu').symm
  have ev:v=uy:=by
   have pv':jts[i]?=some v:=by simpa using pv
   rw[hy1] at pv';exact(QK pv').symm
  subst eu ev
  have zlt:∀b∈[z,TI,TO,i1,i2],b<s.heap.objs.size:=fun b hb=>by
   simp only[Qh,Q1,or_false] at hb;rcases hb with rfl|rfl|rfl|rfl|rfl
   ·exact Qj s1
   ·exact Qj s2
   ·exact Qj s3
   ·obtain⟨_,e,_⟩:=IsItr.obj (b:=b1) s4;exact Qj e
   ·obtain⟨_,e,_⟩:=IsItr.obj (b:=b2) s5;exact Qj e
  have nz:s.heap.objs.size≠z:=QY (zlt z (by simp))
  -- the pair is laid,then the private objects turn
  have I1:Inv X pins σ (upd H s.heap.objs.size (.tup [x,y])) { s with heap:=s.heap.push { cls:=.type "tuple",data:=.seq #[u,v] },toks:=s.toks } :=
   I.laid (o:=.tup [x,y]) (fun b ob q=>Qf _ q) (Qm _) ⟨by show 2<=sizeLine;decide,[u,v],.cons rx (.cons ry .nil),⟨_,Qi _ rfl,rfl,_,rfl⟩⟩
  have hf1:∀b∈[z,TI,TO,i1,i2],FpOk X pins (upd H s.heap.objs.size (.tup [x,y])) b:=fun b hb=>⟨by rw[Jh (Qr (zlt b hb))];exact(hf b hb).1,(hf b hb).2⟩
  have I2:Inv X pins σ (upd H s.heap.objs.size (.tup [x,y])) { s with heap:=k2,toks:=tk }:=Inv.turnedL (s:={ s with heap:=s.heap.push { cls:=.type "tuple",data:=.seq #[u,v] },toks:=s.toks }) I1 (fun b o hb q=>by
   simp only[Qh,Q1,or_false,not_or] at hb;refine e9.extBut b o hb.1 ?_
   by_cases hbs:b=s.heap.objs.size
   ·subst hbs;have q':(s.heap.push { cls:=.type "tuple",data:=.seq #[u,v] }).get? s.heap.objs.size=some o:=q;rw[Qi _ rfl] at q';cases q';exact t6
   ·have q':s.heap.get? b=some o:=by have q2:(s.heap.push { cls:=.type "tuple",data:=.seq #[u,v] }).get? b=some o:=q;exact(MX s.heap b _ hbs).symm.trans q2
    exact t8 b o hb.1 hb.2.2.1 hb.2.2.2.1 hb.2.2.2.2 q') hf1
  refine⟨.ref s.heap.objs.size,_,I2,rfl,⟨_,x,y,rfl,I.hok.fresh (Qm _),rfl,fun xs' ys' h1 h2=>?_⟩,⟨t9,e9.extBut _ _ Z.a1 t2,⟨_,_,e9.extBut _ _ Z.a2 t3⟩,?_,?_⟩,fun b hb=>(hf1 b hb).1⟩
  ·rw[Sq.inj I h1 q1,Sq.inj I h2 q2];exact⟨e1,e2⟩
  ·exact IsItr.keep (b:=b1) t4.1 fun o e=>e9.extBut _ _ (fun q=>Z.z1 (q▸Z.m1)) e
  ·exact IsItr.keep (b:=b2) t5.1 fun o e=>e9.extBut _ _ (fun q=>Z.z2 (q▸Z.m2)) e
 done:=by
  intro X hP hw hK hc i pins s σ H E I hf st hg;subst hP hw hK;obtain⟨xs,ys,q1,q2,ei⟩:=hg;obtain⟨its,r1,p1⟩:=q1.heap I;obtain⟨jts,r2,p2⟩:=q2.heap I;obtain⟨s1,s2,⟨u0,v0,s3⟩,s4,s5⟩:=st;have Z:=JnR I q1 q2 hf nd;have hh:X.A.in1.handled=none:=I.ok.hd hc;have D1:=Draws.sq (prog:=X.prog) (w:=X.w) (b:=b1) (xs:=its.toArray) hh i1 (FpOk.off I q1 (hf i1 (by simp)));have D2:=Draws.sq (prog:=X.prog) (w:=X.w) (b:=b2) (xs:=jts.toArray) hh i2 (FpOk.off I q2 (hf i2 (by simp)))
  have hT:s.TypeIs (.ref z) "zip":=⟨_,s1,rfl⟩
  have n1:its.toArray.size=xs.length:=by rw[Qo,r1.length]
  have n2:jts.toArray.size=ys.length:=by rw[Qo,r2.length]
  unfold pyNext;refine Qa (GR (QI (name:=Gj "__next__") hT GN (QO GN hT K5 (Jd1 Z D1 D2 s1 s2 s3 ⟨s4,p1⟩ ⟨s5,p2⟩ (by omega) fun k e tk kk he=>?_) (KP _))));obtain⟨o,ho,hoc⟩:=he;refine Qa (G5 (T:="StopIteration") (b:=true) ⟨o,ho,hoc⟩ K6 (Qe ⟨rfl,?_⟩));exact I.turnedL (fun b o hb q=>by simp only[Qh,Q1,or_false,not_or] at hb;exact kk b o hb.1 hb.2.2.1 hb.2.2.2.1 hb.2.2.2.2 q) hf
 self:=fun _ _ _ _ _ st h=>Rh st.1 h
noncomputable def iZp(K:Frag)(ta:TA):TI:=fun σ H R=>ta σ H fun vs H1=>∃(b1 b2:Bool) (a1 a2:Addr) (xs ys:List V),vs=[.ref a1,.ref a2]/\Sq b1 K H1 a1 xs/\Sq b2 K H1 a2 ys/\R (Itz K b1 b2 a1 a2) H1
theorem Jb1{X:Cx}{K:Frag}{elts:List Expr}{kk:Nat}{tpos:Pos}{a b:Expr}{ta:TA}{p pos:Pos}(hK:X.K=K)(hg:Gl X "zip")(hm:X.mg "zip"=none)(ha:PA X [a,b] ta)(hs:starEach [a,b] X.env=[(false,eval a X.env),(false,eval b X.env)]:=by rfl)
 (hs2:starEach [b] X.env=[(false,eval b X.env)]:=by rfl):PI X (.Tuple elts kk tpos) (.Call (.Name "zip" p) [a,b] [] pos) (iZp K ta):=by
 subst hK;intro pins s σ H R I h;refine Call_ (Y2 I hg hm Jig (Gh (thn (ha pos pins s σ H _ I h) fun us s1 ⟨vs,H1,I1,r1,q1⟩=>?_) (by rw[hs,hs2]) (by rw[hs2];rfl)));obtain⟨b1,b2,a1,a2,xs,ys,e,c1,c2,q⟩:=q1;subst e
 cases r1 with
 | cons r rr =>
 cases rr with
 | cons r' rr =>
 cases rr;cases r;cases r';obtain⟨its,w1,p1⟩:=c1.heap I1;obtain⟨jts,w2,p2⟩:=c2.heap I1;refine JaM p1 p2 fun h' t1 t2 t3 t4 t5 kp=>Rh t1 ?_
 refine⟨_,[s1.heap.objs.size+4,s1.heap.objs.size+2,s1.heap.objs.size+3,s1.heap.objs.size,s1.heap.objs.size+1],_,_,H1,rfl,I1.kept (t':=s1.toks) kp,JkG b1 b2 a1 a2 _ _ _ _ _ (by simp),⟨t1,t2,⟨_,_,t3⟩,t4,t5⟩,fun b hb=>?_,q⟩
 have hle:s1.heap.objs.size<=b:=by simp only[Qh,Q1,or_false] at hb;rcases hb with rfl|rfl|rfl|rfl|rfl <;> first|exact Qm _|exact Mf _ _
 exact I1.fpOk hle (I1.hok.fresh hle)
end L2
namespace LE
open PySem L2 LR
noncomputable def Jcl(ds es:List D):List D:=List.zipWith (fun a b=>.tup [a,b]) ds es
noncomputable def Ji4(m:Bool)(as:En->Option (List Sl)):En->Option (List D):=fun E=>(as E).bind fun ss=>match ss with
 | [s,t]=>(s.it m).bind fun ds=>(t.it m).bind fun es=>some (Jcl ds es)
 | _=>none
theorem Jhd{H H1 H1':Hp}{v:V}{s:Sl}{ds:List D}(r:RR K C H H1 H1' v s)(i:Same H1 H1')(e:s.it m=some ds) :
 ∃(b:Bool) (a:Addr) (xs:List V),v=.ref a/\(∀A,(m=true->A=H1')->∀H0' H',SStep A (JI H H1 H1') H0' H'->Sq b K H' a xs)/\RDL K C (JI H H1 H1') xs ds:=by
 have f:=JC (Hs:=H) i
 have shared:∀{d:D},RD K C (JI H H1 H1') v d->(Sl.sh d).q=some ds->∃(b:Bool) (a:Addr) (xs:List V),v=.ref a/\(∀A,(m=true->A=H1')->∀H0' H',SStep A (JI H H1 H1') H0' H'->Sq b K H' a xs)/\RDL K C (JI H H1 H1') xs ds:=fun {d} r e=>by
  cases d with
  | lst es=>cases e;obtain⟨l,xs,h1,h2,h3⟩:=RD.lstI r;exact⟨false,l,xs,h1,fun A _ H0' H' st=>SqL.of (st.i _ _ (st.z _ _ h2)),h3⟩
  | fz es=>cases e;obtain⟨l,xs,h1,h2,h3⟩:=RD.fzI r;exact⟨false,l,xs,h1,fun A _ H0' H' st=>(st.z.trans st.i).seq h2,h3⟩
  | tup es=>cases e;obtain⟨l,xs,h1,h2,h3⟩:=RD.tupI r;exact⟨true,l,xs,h1,fun A _ H0' H' st=>(st.z.trans st.i).seqT h2,h3⟩
  | _=>cases e
 cases s with
 | no=>cases e
 | sh d=>exact shared (RD.mono f.z r) e
 | own es=>exact shared (RR.frz (s:=.own es) i r rfl) e
 | bd _ _=>cases e
 | bt _ _=>cases e
 | od _ _=>cases e
 | ot _ _=>cases e
 | bo es =>
  unfold Sl.it at e;dsimp only at e;split at e
  ·next hm=>cases e;obtain⟨l,xs,h1,h2,h3⟩:=r;refine⟨false,l,xs,h1,fun A hA H0' H' st=>?_,h3.mono f.z⟩;have:=hA hm;subst this;exact SqL.of (st.b _ _ h2)
  ·cases e
theorem JpT(ha:SA K C t ev):SI K C m (iZp K t) (Ji4 m ev):=by
 intro B H0 H σ E ds R I e q;obtain⟨ss,e1,e⟩:=bind_some e;split at e
 ·next s u =>
  obtain⟨ds1,e2,e⟩:=bind_some e;obtain⟨ds2,e3,e⟩:=bind_some e;cases e;refine ha B H0 H σ E _ _ I e1 fun vs H1 H1' s1 r1=>?_
  obtain⟨v,w,rfl,ra,rb⟩:=r1.two;have f:=JC (Hs:=H) s1.i;obtain⟨b1,a1,xs,rfl,k1,w1⟩:=Jhd ra s1.i e2;obtain⟨b2,a2,ys,rfl,k2,w2⟩:=Jhd rb s1.i e3;have hA:m=true->(if m=true then H1' else B)=H1':=fun h=>if_pos h
  have sA:Same (if m=true then H1' else B) H1':=by
   split
   ·exact Same.refl _
   ·exact I.b.trans s1.h
  have st0:SStep (if m=true then H1' else B) (JI H H1 H1') (JI H H1 H1') H1':=⟨sA,Same.refl _,fun _ _ e=>.inl e,f.i⟩
  refine⟨b1,b2,a1,a2,xs,ys,rfl,k1 _ hA _ _ st0,k2 _ hA _ _ st0,q _ _ _ (s1.comp f fun _ z=>z) ?_⟩;intro H0' H' st;have q1:=k1 _ hA _ _ st;have q2:=k2 _ hA _ _ st;refine⟨fun i d e=>?_,⟨xs,ys,q1,q2,by unfold Jcl;rw[List.length_zipWith,w1.1,w2.1]⟩⟩;unfold Jcl at e;rw[RA] at e
  cases g1:ds1[i]? with
  | none=>rw[g1] at e;cases e
  | some d1 =>
   cases g2:ds2[i]? with
   | none=>rw[g1,g2] at e;cases e
   | some d2 =>
    rw[g1,g2] at e;cases e;obtain⟨x,x1,x2⟩:=w1.get g1;obtain⟨y,y1,y2⟩:=w2.get g2;refine⟨⟨xs,ys,x,y,q1,q2,x1,y1⟩,?_⟩;rintro z H2 ⟨p,u',v',rfl,hp,rfl,hv⟩;obtain⟨h1,h2⟩:=hv xs ys q1 q2;rw[x1] at h1;cases h1;rw[y1] at h2;cases h2;have h0:H0' p=none:=Same.free st.i hp;refine⟨upd H0' p (.tup [x,y]),⟨.new hp,.new h0,fun a o e=>?_,fun a o e=>?_⟩,?_⟩
    ·by_cases h:a=p
     ·subst h;exact .inr (.inl hp)
     ·rw[Jh h] at e;exact .inl e
    ·by_cases h:a=p
     ·subst h;rw[Jk] at e ⊢;exact e
     ·rw[Jh h] at e ⊢;exact st.i a o e
    ·exact .mkT (.of Jk) (.cons (x2.mono (st.z.trans (.new h0))) (.cons (y2.mono (st.z.trans (.new h0))) .nil))
 ·cases e
theorem Zj{α β:Type}(f:α->D)(g:β->D)(xs:List α)(ys:List β):Jcl (xs.map f) (ys.map g)=(Ml xs ys).map fun p=>.tup [f p.1,g p.2]:=by
 unfold Jcl
 induction xs generalizing ys with
 | nil=>rfl
 | cons x xs ih=>cases ys with
  | nil=>rfl
  | cons y ys=>simp[ih]
end LE
namespace PySem
namespace F
theorem Jj7:Manifest.owners.lookup (String.ofList ['d','e','s','r','e','v','e','r'].reverse)=some Manifest.sig_reversed:=by kernel_rfl
theorem Jb5:Slot "reversed" "__init__" "object.__init__" :=
 .of (owner:="object") (n:="__init__") (by rw[typeLookup_type,builtinLookup_eq_fast];kernel_rfl) (by decide +kernel) (by decide +kernel) (by decide +kernel) (by first | exact .inl (by decide +kernel) | exact .inr (by decide +kernel)) (by rw[KI];kernel_rfl)
theorem rv_slot_next:Slot "reversed" "__next__" "reversed.__next__" :=
 .of (owner:="reversed") (n:="__next__") (by rw[typeLookup_type,builtinLookup_eq_fast];kernel_rfl) (by decide +kernel) (by decide +kernel) (by decide +kernel) (by first | exact .inl (by decide +kernel) | exact .inr (by decide +kernel)) (by rw[KI];kernel_rfl)
theorem rv_slot_iter:Slot "reversed" "__iter__" "reversed.__iter__" :=
 .of (owner:="reversed") (n:="__iter__") (by rw[typeLookup_type,builtinLookup_eq_fast];kernel_rfl) (by decide +kernel) (by decide +kernel) (by decide +kernel) (by first | exact .inl (by decide +kernel) | exact .inr (by decide +kernel)) (by rw[KI];kernel_rfl)
theorem rv_args_next(a:Value):argsOk "reversed.__next__" ⟨[a],[]⟩:=by unfold argsOk;rw[signature?_of (id:="reversed.__next__") (n:=['_','_','t','x','e','n','_','_']) (o:=['d','e','s','r','e','v','e','r']) (by kernel_rfl) Jj7];kernel_rfl
theorem rv_args_iter(a:Value):argsOk "reversed.__iter__" ⟨[a],[]⟩:=by unfold argsOk;rw[signature?_of (id:="reversed.__iter__") (n:=['_','_','r','e','t','i','_','_']) (o:=['d','e','s','r','e','v','e','r']) (by kernel_rfl) Jj7];kernel_rfl
theorem rv_entry_next:entryFor table "reversed.__next__"=some Builtin.«reversed.__next__»:=entryFor_of_tree (by kernel_rfl)
theorem rv_entry_iter:entryFor table "reversed.__iter__"=some Builtin.«dict_keyiterator.__iter__» :=
 entryFor_alias (id':="dict_keyiterator.__iter__") (by kernel_rfl) (by first | rfl | decide +kernel | (unfold String.splitOn;simp +decide [String.splitOnAux])) (by decide +kernel) (by kernel_rfl)
theorem rv_called:TypeCalled "reversed" "reversed.__new__" "object.__init__" :=
 ⟨by decide +kernel,by decide +kernel,⟨_,_,mro_reversed⟩,made_reversed,by decide +kernel,sub_reversed_self,Jb5⟩
theorem rv_tuple_none:typeLookup (.type "tuple") "__reversed__"=pure none:=by rw[typeLookup_type,builtinLookup_eq_fast];kernel_rfl
theorem rv_tuple_dict:isSubtype (.type "tuple") (.type "dict")=pure false:=by rw[KI];kernel_rfl
end F
abbrev Jd3(h:Heap)(r a:Addr)(i:Int):Prop:=h.get? r=some { cls:=.type "reversed",dict:=none,data:=.fields #[.ref a,rawInt i],slots:=#[] }
theorem Jjm(a:Addr)(xs:Array Value):Meets (Builtin.«reversed.__new__» ⟨[.type "reversed",.ref a],[]⟩) (fun _ R s=>s.heap.IsTuple a xs/\(xs.size:Int)<2 ^ 63 ∧
 R (.ok (.ret (.ref s.heap.objs.size))) { s with heap:=s.heap.push { cls:=.type "reversed",data:=.fields #[.ref a,rawInt ((xs.size:Int)-1)] },toks:=s.toks+1+1 }) :=
 .of_wp fun prog w A R s h=>by
  obtain⟨hp,g,d,tk,os⟩:=s;obtain⟨q1,q2,h⟩:=h;have hT:(⟨hp,g,d,tk,os⟩:Shared).TypeIs (.ref a) "tuple":=q1.typeIs;unfold Builtin.«reversed.__new__»;refine Qa (Ku (newClass_reversed _) ?_)
  try dsimp only
  refine Qa (Ku (a:=()) (by first|rfl|kernel_rfl) ?_);refine Qa (Ku (a:=()) (by first|rfl|kernel_rfl) ?_)
  try dsimp only
  refine Qa (Kk hT F.rv_tuple_none ?_)
  try dsimp only
  refine Qa ?_;refine Qa (m:=isInstance (.ref a) (.type "dict")) (G5 hT F.rv_tuple_dict ?_);refine Qa (Kk hT Gf.lookup ?_);refine Qe ?_;refine Qa (PyProof.Rows.len_tuple (s:=⟨hp,g,d,tk,os⟩) q1 q2 ?_);refine Qa (Ku (a:=some (xs.size:Int)) rfl ?_)
  try dsimp only
  refine Qa ?_;show wpAny _ _ (newObj (.type "reversed") (.fields #[.ref a,rawInt ((xs.size:Int)-1)])) _ _ _;exact QQ (Qe ⟨_,rfl,h⟩) (by size_fits)
theorem Jk1{Q:Value->Shared->Prop}(q1:s.heap.IsTuple a xs)(q2:(xs.size:Int)<2 ^ 63)
 (h:∀h' tk,Jd3 h' s.heap.objs.size a ((xs.size:Int)-1)->(∀c o,s.heap.get? c=some o->h'.get? c=some o)->Q (.ref s.heap.objs.size) { s with heap:=h',toks:=tk }) :
 wpAny (model prog w) A (call (.type "reversed") [.ref a]) Q E s:=by
 refine callType_new F.rv_called (by decide) (F.typeCall_reversed_1 _) (F.newCall_reversed_1 _) (fun obj=>F.args_object_init_2 obj _) F.entry_reversed_new (Jjm a xs) ⟨q1,q2,?_⟩;exact⟨⟨_,Qi _ rfl,rfl⟩,h _ _ (Qi _ rfl) fun c o q=>Qf _ q⟩
theorem JlU{i:Nat}{x:Value}{Q:Option Value->Shared->Prop}(hit:Jd3 s.heap r a (i:Int))(hl:s.heap.IsTuple a xs)(hb:(i:Int)<2 ^ 63)(hx:xs[i]?=some x)
 (hQ:∀h' tk,Jd3 h' r a ((i:Int)-1)->QA r s.heap h'->Q (some x) { s with heap:=h',toks:=tk }):wpAny (model prog w) A (pyNext (.ref r)) Q E s:=by
 have hT:s.TypeIs (.ref r) "reversed":=⟨_,hit,rfl⟩
 have hi:i<xs.size:=by
  by_cases z:i<xs.size
  ·exact z
  ·rw[Array.getElem?_eq_none (by omega)] at hx;cases hx
 unfold pyNext;refine Qa (GR (QI (name:=Gj "__next__") hT F.rv_slot_next
  (QO F.rv_slot_next hT F.rv_entry_next ?_ (F.rv_args_next _))))
 unfold Builtin.«reversed.__next__»;refine Qa (Ku (a:=(Value.ref r,[])) rfl ?_)
 try dsimp only
 refine Qa (QX hit rfl (x:=.ref a) rfl ?_);refine Qa (QX hit rfl (x:=rawInt (i:Int)) rfl ?_);show wpAny _ _ (if (i:Int)<0 then _ else _) _ _ s;rw[if_neg (by omega)];show wpAny _ _ (specialOf (.ref a) _ >>= _) _ _ s;refine Qa (Kk hl.typeIs Gf.lookup ?_);show wpAny _ _ (mkInt (i:Int) >>= _) _ _ s;refine Qa (wpAny_mkInt ?_);refine Qa (GR (PyProof.Rows.getItem_tuple (s:={ s with toks:=s.toks+1 }) hl (by omega) hb (j:=i) (by simp[seqIndex?];omega) hx ?_))
 show wpAny _ _ (field (.ref r) 1 >>= _) _ _ _;refine Qa (QX hit rfl (x:=rawInt (i:Int)) rfl ?_)
 show wpAny _ _ (setField (.ref r) 1 (rawInt ((i:Int)-1)) >>= _) _ _ _;refine Qa (Gb hit (by simp) fun k1 y1 e1=>?_);exact Qe ⟨x,rfl,Qe (hQ k1 _ y1 e1)⟩
theorem Joa{Q:Option Value->Shared->Prop}(hh:A.handled=none)(hit:Jd3 s.heap r a (-1))
 (hQ:∀h',KF r s.heap h'->Q none { s with heap:=h' }):wpAny (model prog w) A (pyNext (.ref r)) Q E s:=by
 have hT:s.TypeIs (.ref r) "reversed":=⟨_,hit,rfl⟩
 unfold pyNext;refine Qa (GR (QI (name:=Gj "__next__") hT F.rv_slot_next
  (QO F.rv_slot_next hT F.rv_entry_next ?_ (F.rv_args_next _))))
 unfold Builtin.«reversed.__next__»;refine Qa (Ku (a:=(Value.ref r,[])) rfl ?_)
 try dsimp only
 refine Qa (QX hit rfl (x:=.ref a) rfl ?_);refine Qa (QX hit rfl (x:=rawInt (-1)) rfl ?_);show wpAny _ _ (if (-1:Int)<0 then _ else _) _ _ s;rw[if_pos (by decide)];refine Qa (Kq ?_);refine Qa ?_;refine Qa (m:=setField (.ref r) 1 (rawInt (-1))) (Gb hit (by simp) fun k1 y1 e1=>?_);refine Gb (s:={ s with heap:=k1 }) y1 (by simp) fun k2 y2 e2=>?_
 refine Qa ?_;show wpAny _ _ (newExc (.type "StopIteration") [] >>= _) _ _ _;refine Qa ?_;simp only[newExc,newTuple];refine Qa (QQ ?_ (by size_fits));refine Qa (m:=firstArgMember _ _) (Ku (a:=Value.none) (by first | rfl | (simp only[firstArgMember];rfl)) ?_);refine QQ ?_ (by size_fits);simp only[raiseNew];refine Qa (M5 ?_)
 first|rw[show A.in1.handled=none from hh]|rw[hh]
 refine Qa (Qe (RN ?_));refine Qa (G5 (T:="StopIteration") (b:=true) ⟨_,Qi _ rfl,rfl⟩ K6 ?_)
 replace e1:QA r s.heap k1:=e1
 replace e2:QA r k1 k2:=e2;refine Qe (hQ _ ?_);exact(Xg (Xg (fun b o hb q=>e2.extBut b o hb (e1.extBut b o hb q)) _) _)
theorem Jf0{i:Int}{Q:Value->Shared->Prop}(hit:Jd3 s.heap r a i)(h:Q (.ref r) s):wpAny (model prog w) A (pyIter (.ref r)) Q E s:=by
 have hT:s.TypeIs (.ref r) "reversed":=⟨_,hit,rfl⟩
 refine L7 hT F.rv_slot_iter (QO F.rv_slot_iter hT F.rv_entry_iter ?_ (F.rv_args_iter _));show wpAny _ _ (ret (.ref r)) _ _ s;exact Qe ⟨_,rfl,"reversed",_,hT,F.rv_slot_next.lookup,h⟩
end PySem
namespace L2
open PySem PySem.Spec PyProof.Rows
noncomputable def Itv(K:Frag)(b:Bool)(a:Addr)(n:Nat):It :=
 ⟨fun i H=>i<n/\∃xs,Sq b K H a xs/\xs.length=n,fun i H x H'=>H'=H/\∀xs,Sq b K H a xs->xs[n-1-i]?=some x,fun i _=>i=n⟩
noncomputable def Jr1(b:Bool)(r a:Addr)(i:Int)(h:Heap):Prop:=match b with
 | true=>Jd3 h r a i
 | false=>h.IsRevIter r a i
theorem JgO{P:Program}{w:World}{K:Frag}{tg:Expr}(b:Bool)(a r:Addr)(n:Nat)(hn:n<=sizeLine):Turn P w K tg (Itv K b a n) [r] r (fun i h=>Jr1 b r a ((n:Int)-1-(i:Int)) h) where
 mem:=by simp
 obj:=fun i h st c hc=>by
  have e:c=r:=by simpa using hc
  subst e
  cases b with
  | true=>exact⟨_,st,fun v z=>nomatch (show Data.fields _=Data.cell v from z)⟩
  | false=>obtain⟨o,e,_,d⟩:=st;exact⟨o,e,fun v z=>by rw[d] at z;cases z⟩
 keep:=fun i h h' st k=>by
  cases b with
  | true=>exact k r (by simp) _ st
  | false=>exact Heap.IsRevIter.at st fun o e=>k r (by simp) o e
 item:=by
  intro X hP hw hK hc i pins s σ H E I hf st hg;subst hP hw hK;obtain⟨hi,xs,hq,hlen⟩:=hg;obtain⟨f0,f1,f2,f3,f4,f5⟩:=hf r (by simp);obtain⟨its,rv,p⟩:=hq.heap I;obtain⟨x,hx⟩:∃x,xs[n-1-i]?=some x:=⟨xs[n-1-i]'(by omega),by simp⟩
  obtain⟨u,hu,ru⟩:=rv.get hx;have e:(n:Int)-1-(i:Int)=((n-1-i:Nat):Int):=by omega
  have e2:((n-1-i:Nat):Int)-1=(n:Int)-1-((i+1:Nat):Int):=by omega
  rw[e] at st;have hz:sizeLine<2 ^ 63:=by decide
  cases b with
  | true =>
   refine JlU (s:=s) st p (by omega) (x:=u) (by simpa using hu) fun h' tk st' sb=>?_
   replace sb:QA r s.heap h':=sb;have I1:Inv X pins σ H { s with heap:=h',toks:=tk }:=I.turned (fun b o hb e=>(sb.2 b hb).trans e) f0 f1 f3 f4 f5;rw[e2] at st';exact⟨u,rfl,JcQ (s:={ s with heap:=h',toks:=tk }) st' rfl rfl (by decide) ⟨x,H,I1,ru,⟨rfl,fun ys hy=>by rw[Sq.inj I hy hq];exact hx⟩,st',fun b hb=>(hf b hb).1⟩⟩
  | false =>
   refine wpAny_pyNext_rev_item (s:=s) st p (x:=u) (by simpa using hu) fun h' st' sb=>?_
   have I1:Inv X pins σ H { s with heap:=h' }:=I.turned (t':=s.toks) (fun b o hb e=>(sb.2 b hb).trans e) f0 f1 f3 f4 f5;rw[e2] at st';obtain⟨o,eo,co,d⟩:=id st';exact⟨u,rfl,JcQ (s:={ s with heap:=h' }) eo co d (by decide) ⟨x,H,I1,ru,⟨rfl,fun ys hy=>by rw[Sq.inj I hy hq];exact hx⟩,st',fun b hb=>(hf b hb).1⟩⟩
 done:=by
  intro X hP hw hK hc i pins s σ H E I hf st hg;subst hP hw hK;obtain⟨f0,f1,f2,f3,f4,f5⟩:=hf r (by simp)
  replace hg:i=n:=hg;have e:(n:Int)-1-(i:Int)=-1:=by omega
  rw[e] at st
  cases b with
  | true=>exact Joa (s:=s) (a:=a) (I.ok.hd hc) st fun h' eb=>⟨rfl,I.turned (t':=s.toks) (fun b o hb e=>eb b o hb e) f0 f1 f3 f4 f5⟩
  | false=>exact wpAny_pyNext_rev_end (s:=s) (I.ok.hd hc) st fun h' eb=>⟨rfl,I.turned (t':=s.toks) (fun b o hb e=>eb b o hb e) f0 f1 f3 f4 f5⟩
 self:=fun _ i s _ _ st h=>by
  cases b with
  | true=>exact Jf0 (s:=s) st h
  | false=>exact LB (s:=s) st h
noncomputable def iRv(K:Frag)(ta:TA):TI:=fun σ H R=>ta σ H fun vs H1=>∃(b:Bool) (a:Addr) (xs:List V),vs=[.ref a]/\Sq b K H1 a xs/\R (Itv K b a xs.length) H1
theorem Jl8{X:Cx}{K:Frag}{tg:Expr}{a:Expr}{ta:TA}{p pos:Pos}(hK:X.K=K)(hg:Gl X "reversed")(hm:X.mg "reversed"=none)(ha:PA X [a] ta)(hs:starEach [a] X.env=[(false,eval a X.env)]:=by rfl)
:PI X tg (.Call (.Name "reversed" p) [a] [] pos) (iRv K ta):=by
 subst hK;intro pins s σ H R I h;refine Call_ (Y2 I hg hm WK (Gh (thn (ha pos pins s σ H _ I h) fun us s1 ⟨vs,H1,I1,r1,q1⟩=>?_) (by rw[hs];rfl) (by rfl)));obtain⟨b,a,xs,e,c1,q⟩:=q1;subst e
 cases r1 with
 | cons r rr =>
 cases rr;cases r
 have fresh:∀c∈[s1.heap.objs.size],FpOk X pins H1 c:=fun c hc=>by
  have e:c=s1.heap.objs.size:=by simpa using hc
  subst e;exact I1.fpOk (Qm _) (I1.hok.fresh (Qm _))
 have hz:sizeLine<2 ^ 63:=by decide
 cases b with
 | true =>
  obtain⟨its,rv,p1,sz⟩:=I1.tuple c1;have hl:=rv.length;refine Jk1 (s:=s1) (xs:=its.toArray) p1 (by rw[Qo];omega) fun h' tk t1 kp=>Jf0 (s:={ s1 with heap:=h',toks:=tk }) t1 ?_
  refine⟨_,[s1.heap.objs.size],_,_,H1,rfl,I1.kept (t':=tk) kp,JgO true a _ xs.length sz,?_,fresh,q⟩;show Jd3 h' s1.heap.objs.size a _;have e:(its.toArray.size:Int)-1=(xs.length:Int)-1-((0:Nat):Int):=by rw[Qo,<- hl];simp
  rw[<- e];exact t1
 | false =>
  obtain⟨its,rv,p1,sz⟩:=I1.list c1;have hl:=rv.length;refine call_reversed_list (s:=s1) p1.isList (LB (l:=a) (i:=((its.toArray.size:Int)-1)) ⟨_,Qi _ rfl,rfl,rfl⟩ ?_);refine⟨_,[s1.heap.objs.size],_,_,H1,rfl,I1.kept (t':=s1.toks) fun b o e=>Qf _ e,JgO false a _ xs.length sz,?_,fresh,q⟩;refine⟨_,Qi _ rfl,rfl,?_⟩;have e:(its.toArray.size:Int)-1=(xs.length:Int)-1-((0:Nat):Int):=by rw[Qo,<- hl];simp
  rw[e];rfl
end L2
namespace LE
open PySem L2 LR
noncomputable def Jon(m:Bool)(as:En->Option (List Sl)):En->Option (List D):=fun E=>(as E).bind fun ss=>match ss with
 | [s]=>(s.it m).map List.reverse
 | _=>none
theorem JpS(ha:SA K C t ev):SI K C m (iRv K t) (Jon m ev):=by
 intro B H0 H σ E ds R I e q;obtain⟨ss,e1,e⟩:=bind_some e;split at e
 ·next s =>
  obtain⟨ds1,e2,e⟩:=Gk.mp e;subst e;refine ha B H0 H σ E _ _ I e1 fun vs H1 H1' s1 r1=>?_
  obtain⟨v,rfl,ra⟩:=r1.one;have f:=JC (Hs:=H) s1.i;obtain⟨b1,a1,xs,rfl,k1,w1⟩:=Jhd ra s1.i e2;have hA:m=true->(if m=true then H1' else B)=H1':=fun h=>if_pos h
  have sA:Same (if m=true then H1' else B) H1':=by
   split
   ·exact Same.refl _
   ·exact I.b.trans s1.h
  have st0:SStep (if m=true then H1' else B) (JI H H1 H1') (JI H H1 H1') H1':=⟨sA,Same.refl _,fun _ _ e=>.inl e,f.i⟩
  refine⟨b1,a1,xs,rfl,k1 _ hA _ _ st0,q _ _ _ (s1.comp f fun _ z=>z) ?_⟩;intro H0' H' st;have q1:=k1 _ hA _ _ st;refine⟨fun i d e=>?_,by rw[KE,w1.1];rfl⟩;have hi:i<ds1.length:=by have:=(Qn.mp e).1;rwa [KE] at this
  rw[RB hi,<- w1.1] at e;obtain⟨x,x1,x2⟩:=w1.get e;refine⟨⟨by rw[w1.1];exact hi,xs,q1,rfl⟩,?_⟩;rintro z H2 ⟨rfl,hv⟩;have h1:=hv xs q1;rw[x1] at h1;cases h1;exact⟨H0',.refl st.i,x2.mono st.z⟩
 ·cases e
end LE
namespace PySem
open AutoSeq1 (wpAny_loadPart')
abbrev enO(it:Addr):Obj:={ cls:=.type "enumerate",data:=.fields #[.none,.bool false,.ref it,rawInt 0,.none,.none] }
theorem Jhv(b:Bool)(a:Addr)(xs:Array Value):Meets (Builtin.«enumerate.__new__» ⟨[.type "enumerate",.ref a],[]⟩) (fun _ R s=>IsSq b s.heap a xs ∧
 R (.ok (.ret (.ref (s.heap.push (itO b a)).objs.size))) { s with heap:=(s.heap.push (itO b a)).push (enO s.heap.objs.size) }) :=
 .of_wp fun prog w A R s h=>by
  obtain⟨hp,g,d,tk,os⟩:=s;obtain⟨q,h⟩:=h;have hsub:=sub_enumerate;have r:IsSq b (Xh ⟨hp,g,d,tk,os⟩) a xs:=q
  obtain⟨o,hl⟩:∃o,hp.get? a=some o:=by
   cases b with
   | true=>obtain⟨o,e,_⟩:=q;exact⟨o,e⟩
   | false=>obtain⟨o,e,_⟩:=q;exact⟨o,e⟩
  wp_walk using Lo hl
  refine wpAny_stack_any fun st=>Qe ?_
  split
  ·rename_i c _ _ _ _ _;cases (c == Value.type "enumerate")
   ·wp_walk using Lo hl,UG r
    exact⟨_,rfl,h⟩
   ·wp_walk using Lo hl,UG r
    exact⟨_,rfl,h⟩
  ·wp_walk using Lo hl,UG r
   exact⟨_,rfl,h⟩
theorem Jij(q:IsSq b s.heap a xs)(h:∀h',IsEnum h' (s.heap.objs.size+1) s.heap.objs.size 0 .none->IsItr b h' s.heap.objs.size a 0->(∀c o,s.heap.get? c=some o->h'.get? c=some o)->Q (.ref (s.heap.objs.size+1)) { s with heap:=h' }):
 wpAny (model prog w) A (call (.type "enumerate") [.ref a]) Q E s:=by
 refine callType_new F.called_enumerate (by decide) (F.typeCall_enumerate_1 _) (F.newCall_enumerate_1 _) (fun obj=>F.args_object_init_2 obj _) F.entry_enumerate_new (Jhv b a xs) ⟨q,?_⟩;have hz:(s.heap.push (itO b a)).objs.size=s.heap.objs.size+1:=Gg ..;have fi:(itO b a).isFreed=false:=by cases b <;> rfl
 have g2:((s.heap.push (itO b a)).push (enO s.heap.objs.size)).get? (s.heap.push (itO b a)).objs.size=some _:=Qi _ rfl
 have g1:((s.heap.push (itO b a)).push (enO s.heap.objs.size)).get? s.heap.objs.size=some _:=Qf _ (Qi _ fi)
 show _/\_;rw[hz] at g2;rw[hz];exact⟨⟨_,g2,rfl⟩,h _ g2 (.new g1) fun c o x=>Qf _ (Qf _ x)⟩
theorem JiD{p:List Addr}{n i:Nat}{P:Nat->Value->Prop}{S:Nat->Heap->Prop}{old:Value}{Q:Value->Shared->Prop}(D:Draws prog w A it p n P S)(he:IsEnum s.heap e it i old)(st:S i s.heap)(hi:i<n)(hne:e∉p)(him:it∈p)
 (hQ:∀x h' tk t,P i x->IsEnumOut h' e it ((i:Int)+1) x s.heap.objs.size->S (i+1) h'->h'.get? s.heap.objs.size=some { cls:=.type "tuple",data:=.seq #[.int i t,x] }->h'.objs.size=s.heap.objs.size+1 ->
  (∀c o,c≠e->c≠it->s.heap.get? c=some o->h'.get? c=some o)->Q (.ref s.heap.objs.size) { s with heap:=h',toks:=tk }) :
 wpAny (model prog w) A (Builtin.«enumerate.__next__» ⟨[.ref e],[]⟩) (fun fin s'=>∃v,fin=.done (.ret v)/\Q v s') E s:=by
 obtain⟨hp,g,d,tk,os⟩:=s;have ne:e≠it:=fun q=>hne (q▸him)
 show wpAny _ _ (field (.ref e) 2 >>= _) _ _ _;refine Qa (QX he rfl (x:=.ref it) rfl (Qa (D.item i _ _ _ hi st fun x k1 t1 px s1 e1=>?_)))
 replace e1:QA it hp k1:=e1;have E1:IsEnum k1 e it i old:=(e1.2 e ne).trans he;refine Qa (QX (s:=⟨k1,g,d,t1,os⟩) E1 rfl (x:=rawInt i) rfl ?_);show wpAny _ _ (field (.ref e) 4 >>= _) _ _ ⟨k1,g,d,t1,os⟩;refine Qa (QX (s:=⟨k1,g,d,t1,os⟩) E1 rfl (x:=.none) rfl ?_);show wpAny _ _ (mkInt i >>= _) _ _ ⟨k1,g,d,t1,os⟩;refine Qa (wpAny_mkInt ?_);show wpAny _ _ (setField (.ref e) 3 (rawInt ((i:Int)+1)) >>= _) _ _ ⟨k1,g,d,t1+1,os⟩
 refine Qa (Gb E1 (by simp) fun k2 E2 e2=>?_)
 replace e2:QA e k1 k2:=e2
 replace E2:IsEnum k2 e it ((i:Int)+1) old:=E2;show wpAny _ _ (setField (.ref e) 4 .none >>= _) _ _ ⟨k2,g,d,t1+1,os⟩;refine Qa (Gb E2 (by simp) fun k3 E3 e3=>?_)
 replace e3:QA e k2 k3:=e3
 replace E3:IsEnum k3 e it ((i:Int)+1) old:=E3;show wpAny _ _ (newTuple [.int i t1,x] >>= _) _ _ ⟨k3,g,d,t1+1,os⟩;refine Qa (L6 ?_);have hsz:k3.objs.size=hp.objs.size:=by rw[e3.1,e2.1,e1.1]
 have elt:e<hp.objs.size:=Qj he
 have E4:IsEnum (k3.push { cls:=.type "tuple",data:=.seq #[.int i t1,x] }) e it ((i:Int)+1) old:=Qf _ E3
 have T4:(k3.push { cls:=.type "tuple",data:=.seq #[.int i t1,x] }).get? hp.objs.size=some { cls:=.type "tuple",data:=.seq #[.int i t1,x] }:=by rw[<- hsz];exact Qi _ rfl
 have z4:(k3.push { cls:=.type "tuple",data:=.seq #[.int i t1,x] }).objs.size=hp.objs.size+1:=by rw[Gg,hsz]
 have kp:∀c o,c≠e->k1.get? c=some o->(k3.push { cls:=.type "tuple",data:=.seq #[.int i t1,x] }).get? c=some o:=fun c o c1 q=>Qf _ (e3.extBut c o c1 (e2.extBut c o c1 q))
 show wpAny _ _ (QR (.ref e) >>= _) _ _ ⟨k3.push { cls:=.type "tuple",data:=.seq #[.int i t1,x] },g,d,t1+1,os⟩;rw[hsz]
 generalize k3.push { cls:=.type "tuple",data:=.seq #[.int i t1,x] }=k4 at E4 T4 z4 kp ⊢
 refine Qa ?_;unfold QR;refine Qa (QX (s:=⟨k4,g,d,t1+1,os⟩) E4 rfl (x:=.none) rfl (Qe ?_));simp only[if_true];refine Qa (Kq (Qa (QX (s:=⟨k4,g,d,t1+1,os⟩) E4 rfl (x:=old) rfl (Qa (Gb E4 (by simp) fun k5 E5 e5=>?_)))))
 replace e5:QA e k4 k5:=e5
 replace E5:IsEnum k5 e it ((i:Int)+1) x:=E5;show wpAny _ _ (G8 (.ref e) (.ref hp.objs.size) >>= _) _ _ ⟨k5,g,d,t1+1,os⟩;refine Qa ?_;unfold G8;refine Qa (Gb E5 (by simp) fun k6 E6 e6=>?_)
 replace e6:QA e k5 k6:=e6
 replace E6:IsEnumOut k6 e it ((i:Int)+1) x hp.objs.size:=E6;refine Gb E6 (by simp) fun k7 E7 e7=>?_
 replace e7:QA e k6 k7:=e7
 replace E7:IsEnumOut k7 e it ((i:Int)+1) x hp.objs.size:=E7;have up:∀c o,c≠e->k4.get? c=some o->k7.get? c=some o:=fun c o c1 q=>e7.extBut c o c1 (e6.extBut c o c1 (e5.extBut c o c1 q))
 refine Qa (KO (Qe ⟨_,rfl,hQ x k7 (t1+1) t1 px E7 ?_ (up _ _ (QY elt) T4) (by rw[e7.1,e6.1,e5.1,z4]) fun c o c1 c2 q=>up c o c1 (kp c o c1 (e1.extBut c o c2 q))⟩));exact D.frame _ _ _ s1 fun c hc o q=>up c o (fun z=>hne (z▸hc)) (kp c o (fun z=>hne (z▸hc)) q)
theorem Jk7(D:Draws prog w A it p n P S)(he:IsEnum s.heap e it n old)(st:S n s.heap)(hE:∀h' x tk,KF it s.heap h'->(∃o,h'.get? x=some o/\o.cls=.type "StopIteration")->E (.ref x) { s with heap:=h',toks:=tk }):
 wpAny (model prog w) A (Builtin.«enumerate.__next__» ⟨[.ref e],[]⟩) Q E s:=by
 show wpAny _ _ (field (.ref e) 2 >>= _) _ _ _;refine Qa (QX he rfl (x:=.ref it) rfl (Qa (D.done _ _ _ st fun k1 x e1 hx=>?_)));exact hE k1 x s.toks e1 hx
end PySem
namespace L2
open PySem PySem.Spec PyProof.Rows
noncomputable def Ite(K:Frag)(b:Bool)(a:Addr):It :=
 ⟨fun i H=>∃xs x,Sq b K H a xs/\xs[i]?=some x,
  fun i H x H'=>∃p v,x=.ref p/\H p=none/\H'=upd H p (.tup [.int i,v])/\∀xs,Sq b K H a xs->xs[i]?=some v,
  fun i H=>∃xs,Sq b K H a xs/\i=xs.length⟩
theorem Jm1{P:Program}{w:World}{K:Frag}{elts:List Expr}{kk:Nat}{pos:Pos}(b:Bool)(a e it:Addr)(ne:e≠it) :
 Turn P w K (.Tuple elts kk pos) (Ite K b a) [e,it] e (fun i h=>(∃old,IsEnum h e it i old)/\IsItr b h it a i) where
 mem:=by simp
 obj:=fun i h st c hc=>by
  obtain⟨⟨old,s1⟩,s2⟩:=st;simp only[Qh,Q1,or_false] at hc;rcases hc with rfl|rfl
  ·exact⟨_,s1,fun v z=>nomatch (show Data.fields _=Data.cell v from z)⟩
  ·exact IsItr.obj (b:=b) s2
 keep:=fun i h h' st k=>by obtain⟨⟨old,s1⟩,s2⟩:=st;exact⟨⟨old,k e (by simp) _ s1⟩,IsItr.keep (b:=b) s2 fun o q=>k it (by simp) o q⟩
 item:=by
  intro X hP hw hK hc i pins s σ H E I hf st hg;subst hP hw hK;obtain⟨xs,x,q1,e1⟩:=hg;obtain⟨its,r1,p1⟩:=q1.heap I;obtain⟨⟨old,s1⟩,s2⟩:=st;have hh:X.A.in1.handled=none:=I.ok.hd hc;have ne1:a≠it:=FpOk.off I q1 (hf it (by simp));have ne2:a≠e:=FpOk.off I q1 (hf e (by simp));have D1:=Draws.sq (prog:=X.prog) (w:=X.w) (b:=b) (xs:=its.toArray) hh it ne1;have hT:s.TypeIs (.ref e) "enumerate":=⟨_,s1,rfl⟩
  have l1:i<its.toArray.size:=by have:=(Qn.mp e1).1;rw[Qo,<- r1.length];exact this
  unfold pyNext;refine Qa (GR (QI (name:=Gj "__next__") hT Lu (QO Lu hT F.entry_enumerate_next
   (JiD D1 s1 ⟨s2,p1⟩ l1 (by simp[ne,QP ne2]) (by simp) fun u k tk t pu t1 t2 t3 t4 t5=>Qe ?_) (Ri _))))
  refine⟨_,rfl,wpAny_letOwnedTupleGo_enum (s:={ s with heap:=k,toks:=tk }) t1 fun k2 t9 e9=>?_⟩
  replace e9:QA e k k2:=e9;obtain⟨ux,hx1,rx⟩:=r1.get e1
  have eu:u=ux:=by
   have pu':its[i]?=some u:=by simpa using pu
   rw[hx1] at pu';exact(QK pu').symm
  subst eu
  have elt:∀c∈[e,it],c<s.heap.objs.size:=fun c hc=>by
   simp only[Qh,Q1,or_false] at hc;rcases hc with rfl|rfl
   ·exact Qj s1
   ·obtain⟨_,q,_⟩:=IsItr.obj (b:=b) s2;exact Qj q
  have ri:RelV (.int i) (.int i t):=⟨t,rfl⟩
  have I1:Inv X pins σ (upd H s.heap.objs.size (.tup [.int i,x])) { s with heap:=s.heap.push { cls:=.type "tuple",data:=.seq #[.int i t,u] },toks:=s.toks } :=
   I.laid (o:=.tup [.int i,x]) (fun c ob q=>Qf _ q) (Qm _) ⟨by show 2<=sizeLine;decide,[.int i t,u],.cons ri (.cons rx .nil),⟨_,Qi _ rfl,rfl,_,rfl⟩⟩
  have hf1:∀c∈[e,it],FpOk X pins (upd H s.heap.objs.size (.tup [.int i,x])) c:=fun c hc=>⟨by rw[Jh (Qr (elt c hc))];exact(hf c hc).1,(hf c hc).2⟩
  have I2:Inv X pins σ (upd H s.heap.objs.size (.tup [.int i,x])) { s with heap:=k2,toks:=tk }:=Inv.turnedL (s:={ s with heap:=s.heap.push { cls:=.type "tuple",data:=.seq #[.int i t,u] },toks:=s.toks }) I1 (fun c o hc q=>by
   simp only[Qh,Q1,or_false,not_or] at hc;refine e9.extBut c o hc.1 ?_
   by_cases hcs:c=s.heap.objs.size
   ·subst hcs;have q':(s.heap.push { cls:=.type "tuple",data:=.seq #[.int i t,u] }).get? s.heap.objs.size=some o:=q;rw[Qi _ rfl] at q';cases q';exact t3
   ·have q':s.heap.get? c=some o:=by have q2:(s.heap.push { cls:=.type "tuple",data:=.seq #[.int i t,u] }).get? c=some o:=q;exact(MX s.heap c _ hcs).symm.trans q2
    exact t5 c o hc.1 hc.2 q') hf1
  refine⟨.ref s.heap.objs.size,_,I2,rfl,⟨_,x,rfl,I.hok.fresh (Qm _),rfl,fun xs' h1=>?_⟩,⟨⟨u,?_⟩,?_⟩,fun c hc=>(hf1 c hc).1⟩
  ·rw[Sq.inj I h1 q1];exact e1
  ·have ei:((i+1:Nat):Int)=(i:Int)+1:=by omega
   rw[ei];exact t9
  ·exact IsItr.keep (b:=b) t2.1 fun o q=>e9.extBut _ _ (QP ne) q
 done:=by
  intro X hP hw hK hc i pins s σ H E I hf st hg;subst hP hw hK;obtain⟨xs,q1,ei⟩:=hg;obtain⟨its,r1,p1⟩:=q1.heap I;obtain⟨⟨old,s1⟩,s2⟩:=st;have hh:X.A.in1.handled=none:=I.ok.hd hc;have D1:=Draws.sq (prog:=X.prog) (w:=X.w) (b:=b) (xs:=its.toArray) hh it (FpOk.off I q1 (hf it (by simp)));have hT:s.TypeIs (.ref e) "enumerate":=⟨_,s1,rfl⟩
  have n1:i=its.toArray.size:=by rw[Qo,<- r1.length];exact ei
  subst n1;unfold pyNext;refine Qa (GR (QI (name:=Gj "__next__") hT Lu (QO Lu hT F.entry_enumerate_next (Jk7 D1 s1 ⟨s2,p1⟩ fun k x tk kk he=>?_) (Ri _))));obtain⟨o,ho,hoc⟩:=he;refine Qa (G5 (T:="StopIteration") (b:=true) ⟨o,ho,hoc⟩ K6 (Qe ⟨rfl,?_⟩));exact I.turnedL (fun c o hc q=>by simp only[Qh,Q1,or_false,not_or] at hc;exact kk c o hc.2 q) hf
 self:=fun _ _ _ _ _ st h=>by obtain⟨⟨old,s1⟩,_⟩:=st;exact wpAny_pyIter_enum s1 h
noncomputable def iEn(K:Frag)(ta:TA):TI:=fun σ H R=>ta σ H fun vs H1=>∃(b:Bool) (a:Addr) (xs:List V),vs=[.ref a]/\Sq b K H1 a xs/\R (Ite K b a) H1
theorem ZX{X:Cx}{K:Frag}{elts:List Expr}{kk:Nat}{tpos:Pos}{a:Expr}{ta:TA}{p pos:Pos}(hK:X.K=K)(hg:Gl X "enumerate")(hm:X.mg "enumerate"=none)(ha:PA X [a] ta)(hs:starEach [a] X.env=[(false,eval a X.env)]:=by rfl)
:PI X (.Tuple elts kk tpos) (.Call (.Name "enumerate" p) [a] [] pos) (iEn K ta):=by
 subst hK;intro pins s σ H R I h;refine Call_ (Y2 I hg hm Jbg (Gh (thn (ha pos pins s σ H _ I h) fun us s1 ⟨vs,H1,I1,r1,q1⟩=>?_) (by rw[hs];rfl) (by rfl)));obtain⟨b,a,xs,e,c1,q⟩:=q1;subst e
 cases r1 with
 | cons r rr =>
 cases rr;cases r;obtain⟨its,w1,p1⟩:=c1.heap I1;refine Jij p1 fun h' t1 t2 kp=>wpAny_pyIter_enum t1 ?_
 refine⟨_,[s1.heap.objs.size+1,s1.heap.objs.size],_,_,H1,rfl,I1.kept (t':=s1.toks) kp,Jm1 b a _ _ (by simp),⟨⟨_,t1⟩,t2⟩,fun c hc=>?_,q⟩
 have hle:s1.heap.objs.size<=c:=by simp only[Qh,Q1,or_false] at hc;rcases hc with rfl|rfl <;> first|exact Qm _|exact Mf _ _
 exact I1.fpOk hle (I1.hok.fresh hle)
end L2
namespace LE
open PySem L2 LR
noncomputable def JcK(ds:List D):List D:=ds.mapIdx fun i d=>.tup [.int i,d]
noncomputable def JcR(m:Bool)(as:En->Option (List Sl)):En->Option (List D):=fun E=>(as E).bind fun ss=>match ss with
 | [s]=>(s.it m).map JcK
 | _=>none
theorem JmE(ha:SA K C t ev):SI K C m (iEn K t) (JcR m ev):=by
 intro B H0 H σ E ds R I e q;obtain⟨ss,e1,e⟩:=bind_some e;split at e
 ·next s =>
  obtain⟨ds1,e2,e⟩:=Gk.mp e;subst e;refine ha B H0 H σ E _ _ I e1 fun vs H1 H1' s1 r1=>?_
  obtain⟨v,rfl,ra⟩:=r1.one;have f:=JC (Hs:=H) s1.i;obtain⟨b1,a1,xs,rfl,k1,w1⟩:=Jhd ra s1.i e2;have hA:m=true->(if m=true then H1' else B)=H1':=fun h=>if_pos h
  have sA:Same (if m=true then H1' else B) H1':=by
   split
   ·exact Same.refl _
   ·exact I.b.trans s1.h
  have st0:SStep (if m=true then H1' else B) (JI H H1 H1') (JI H H1 H1') H1':=⟨sA,Same.refl _,fun _ _ e=>.inl e,f.i⟩
  refine⟨b1,a1,xs,rfl,k1 _ hA _ _ st0,q _ _ _ (s1.comp f fun _ z=>z) ?_⟩;intro H0' H' st;have q1:=k1 _ hA _ _ st;refine⟨fun i d e=>?_,⟨xs,q1,by unfold JcK;rw[List.length_mapIdx,w1.1]⟩⟩;unfold JcK at e;rw[QH] at e;obtain⟨d1,g1,e⟩:=Gk.mp e;subst e;obtain⟨x,x1,x2⟩:=w1.get g1;refine⟨⟨xs,x,q1,x1⟩,?_⟩;rintro z H2 ⟨p,v',rfl,hp,rfl,hv⟩;have h1:=hv xs q1;rw[x1] at h1;cases h1;have h0:H0' p=none:=Same.free st.i hp
  refine⟨upd H0' p (.tup [.int i,x]),⟨.new hp,.new h0,fun a o e=>?_,fun a o e=>?_⟩,?_⟩
  ·by_cases h:a=p
   ·subst h;exact .inr (.inl hp)
   ·rw[Jh h] at e;exact .inl e
  ·by_cases h:a=p
   ·subst h;rw[Jk] at e ⊢;exact e
   ·rw[Jh h] at e ⊢;exact st.i a o e
  ·exact .mkT (.of Jk) (.cons (.int _) (.cons (x2.mono (st.z.trans (.new h0))) .nil))
 ·cases e
theorem Zv{α:Type}(f:α->D)(xs:List α):JcK (xs.map f)=xs.mapIdx fun i x=>.tup [.int i,f x]:=by
 unfold JcK;refine Gm fun i=>?_
 rw[QH,QH,Qp,Kh];rfl
end LE
namespace L2
open PySem PySem.Spec PyProof.Rows
noncomputable def Yd(ns:List Int):List Int:=ns.mergeSort (fun a b=>decide (a<=b))
theorem JH(ns:List Int):(Yd ns).Perm ns:=List.mergeSort_perm _ _
theorem UK(ns:List Int):(Yd ns).Pairwise (·<=·):=by have h:=List.pairwise_mergeSort (le:=fun a b:Int=>decide (a<=b)) (by intro a b c h1 h2;simp only[decide_eq_true_eq] at *;omega) (by intro a b;simp only[LS,decide_eq_true_eq];omega) ns;exact h.imp fun {a b} h=>by simpa using h
theorem WH:∀{xs ys:List Int},xs.Perm ys->xs.Pairwise (·<=·)->ys.Pairwise (·<=·)->xs=ys
 | [],ys,p,_,_=>by rw[List.Perm.nil_eq p]
 | x::xs,ys,p,h1,h2=>by
  cases ys with
  | nil=>exact absurd p.symm (by simp)
  | cons y ys =>
   obtain⟨a1,a2⟩:=Qv.mp h1;obtain⟨b1,b2⟩:=Qv.mp h2
   have e:x=y:=by
    have hx:x∈y::ys:=p.mem_iff.mp Qd
    have hy:y∈x::xs:=p.mem_iff.mpr Qd;rcases Qh.mp hx with z|z
    ·exact z
    ·rcases Qh.mp hy with w|w
     ·exact w.symm
     ·have:=a1 y w
      have:=b1 x z;omega
   subst e;rw[WH (R1 p) a2 b2]
noncomputable def Jb4(K:Frag):List V->Hp->VK->Prop:=fun xs H Q=>∃(a:Addr) (ns:List Int),xs=[.ref a]/\SqL K H a (ns.map V.int)/\ns.length<64/\∀l,H l=none->Q (.ref l) (upd H l (.lst ((Yd ns).map V.int)))
theorem UT:∀{ns:List Int} {us:List Value},IntsAre us ns->Vals (ns.map V.int) us:=by
 intro ns us h
 induction h with
 | nil=>exact .nil
 | cons _ _ _ ih=>exact .cons ⟨_,rfl⟩ ih
theorem Jbl:J3 X (.builtin "sorted") (Jb4 X.K):=by
 intro pins s σ H xs us Q I r h;obtain⟨p,ns,rfl,hq,hl,q⟩:=h;obtain⟨u,rfl,rx⟩:=UW r;cases rx;obtain⟨its,r',pl,hz⟩:=I.list hq;have hlen:=r'.length;rw[Qk] at hlen hz;refine sorted_ints pl.isList (YN r') (by omega) fun out ns' a1 a2 a3=>?_
 have es:ns'=Yd ns:=WH (a2.trans (JH ns).symm) a3 (UK ns);subst es;obtain⟨e,he⟩:=sortedAll_at s.heap its out
 have hn:((Yd ns).map V.int).length<=sizeLine:=by rw[Qk,(JH ns).length_eq];exact hz
 have hne:H (s.heap.objs.size+1)=none:=I.hok.fresh (Ld _);refine⟨.ref (s.heap.objs.size+1),_,I.laid (t':=s.toks) (fun b o x=>sortedAll_old x) (Ld _) (show ObjOk X.prog X.w _ _ _ (.lst ((Yd ns).map V.int)) from⟨hn,out.toList,e,UT a1,?_⟩),rfl,q _ hne⟩;rw[he]
theorem Jbk{X:Cx}{K:Frag}(hK:X.K=K)(hc:X.calm=true):J3 X (.builtin "sorted") (Jb4 K):=hK▸Jbl
end L2
namespace LE
open PySem L2 LR
noncomputable def W6:List Sl->Option Sl
 | [s]=>s.r.bind fun ds=>(ints? ds).bind fun ns=>if ns.length<64 then some (.own ((Yd ns).map .int)) else none
 | _=>none
theorem JdA(ns:List Int):RDL K C H (ns.map V.int) (ns.map D.int):=by refine⟨by simp,fun i x d h1 h2=>?_⟩;rw[Qp] at h1 h2;obtain⟨n,e,rfl⟩:=Gk.mp h1;rw[e] at h2;cases h2;exact .int n
theorem Jii:VU K C (Jb4 K) W6:=by
 intro Hs H0 H xs as c Q i hs r e q;unfold W6 at e;split at e
 ·obtain⟨v,rfl,r0⟩:=r.one;obtain⟨ds,e1,e⟩:=bind_some e;obtain⟨ns,e2,e⟩:=bind_some e;split at e
  ·next hn=>cases e;obtain⟨l,ys,rfl,h,r1⟩:=r0.r i e1;rw[YO e2] at r1;have:=r1.ints;subst this;exact⟨l,ns,rfl,h,hn,fun p hp=>YD i hs hp (JdA _) q⟩
  ·cases e
 ·cases e
end LE
namespace PySem
namespace F
end F
end PySem
namespace L2
open PySem PySem.Spec PyProof.Rows
end L2
namespace LE
open PySem L2 LR
end LE
namespace PySem
namespace F
end F
end PySem
namespace L2
open PySem PySem.Spec PyProof.Rows
end L2
namespace LE
open PySem L2 LR
end LE
namespace L2
open PySem PySem.Spec PyProof.Rows
noncomputable def Jbe(X:Cx)(f:Value)(nm:Str)(z:V)(r:List V->Hp->VK->Prop):Prop :=
 ∀(pins:List (Addr×Obj)) (s:Shared) (σ:St) (H:Hp) (xs:List V) (us:List Value) (w:Value) (Q:VK),Inv X pins σ H s->Vals xs us->RelV z w->r xs H Q->wpAny (model X.prog X.w) X.A (call f us [(nm,w)]) (EP X pins σ Q) X.xe s
theorem JhD{X:Cx}{id:String}{nm x:Str}{z:V}{r:List V->Hp->VK->Prop}{e ek:Expr}{es:List Expr}{t:TA}{p pos kpos:Pos}(hc:Jbe X (.builtin id) nm z r)(hg:Gl X x)(hm:X.mg x=none)(hv:bootBuiltins x=some (.builtin id))(ha:PA X (e::es) t)(hk:PE X ek (tC z))
 (hn:x≠"__name__":=by decide) (hdb:(x == ("__debug__":Str))=false:=by decide)
 (he:backTo pos (starEach (e::es) X.env)=(false,eval e X.env)::backTo pos (starEach es X.env):=by rfl) (hpl:(backTo pos (starEach (e::es) X.env)).any (·.1)=false:=by rfl):PE X (.Call (.Name x p) (e::es) [⟨some nm,ek,kpos⟩] pos) (tCB r t):=by
 intro pins s σ H Q I h;refine Lg (Y2 I hg hm hv ?_ hn hdb);refine callWith_kw (thn (ha pos pins s σ H _ I h) fun us s1 ⟨vs,H1,I1,r1,q1⟩=>?_) he hpl rfl rfl;refine kws_cons (thn (hk pins s1 σ H1 (fun v H2=>v=z/\r vs H2 Q) I1 ⟨rfl,q1⟩) fun w s2 ⟨v,H2,I2,rz,e2,q2⟩=>kws_nil ?_);subst e2;exact hc pins s2 σ H2 vs us w Q I2 r1 rz q2
end L2
namespace LE
open PySem L2 LR
end LE
namespace PySem
theorem Jdb(a v:Value):argsOk "min" ⟨[a],[(Gj "default",v)]⟩:=by unfold argsOk;kernel_rfl
theorem Jhw(W:Walks prog w A.in1 I fp wr n P St)(bt:Nat->Nat->Bool)(cm:CmpOf prog w A.in1 .Lt P bt)(S:Addr)(nS:S∉fp)(d:Value) :
 ∀(k j:Nat) (s:Shared) (c:Nat) (arr:Array Value),n-j=k->j<=n->St j s.heap->((j=0/\arr=#[])\/∃vb,0<j/\arr=#[vb,vb]/\P (argBest bt (j-1)) vb) ->
 s.heap.get? S=some { cls:=.type "list",dict:=none,data:=.seq arr c,slots:=#[] } ->
 (n=0->∀h' tk,(∀b o,b∉wr->b≠S->s.heap.get? b=some o->h'.get? b=some o)->R (.ok (.ret d)) { s with heap:=h',toks:=tk }) ->
 (0<n->∀v h' tk,P (argBest bt (n-1)) v->(∀b o,b∉wr->b≠S->s.heap.get? b=some o->h'.get? b=some o)->R (.ok (.ret v)) { s with heap:=h',toks:=tk }) ->
 codeAny (model prog w) A (.builtin "min.loop" ⟨[.ref I,.none,.ref S],[(Gj "default",d)]⟩) R s:=by
 have nW:S∉wr:=fun h=>nS (W.sub _ h)
 have nm:(toString "min"++toString ".loop":String)="min.loop":=by decide
 intro k
 induction k with
 | zero =>
  intro j s c arr hk hj st best hS h0 h1;have ej:j=n:=by omega
  subst ej;refine GO F.entry_min_loop ?_;rw[Gu K7 _];rcases best with ⟨e0,rfl⟩|⟨vb,jp,rfl,pb⟩
  ·show wpAny _ A.in1 (seqItems? (.ref S) >>= _) _ _ s;refine Qa (Gx hS rfl (show wpAny _ A.in1 (tryCatch (pyNext (.ref I)) _ >>= _) _ _ s from Qa (L8 (W.done s _ _ st fun h' tk hk'=>?_))));exact Qa (Kq (Qe (h0 e0 h' tk fun b o b1 _ e=>hk' b o b1 e)))
  ·show wpAny _ A.in1 (seqItems? (.ref S) >>= _) _ _ s;refine Qa (Gx hS rfl (show wpAny _ A.in1 (tryCatch (pyNext (.ref I)) _ >>= _) _ _ s from Qa (L8 (W.done s _ _ st fun h' tk hk'=>?_))))
   have hS':=hk' S _ nW hS
   show wpAny _ A.in1 (updateSeq S (fun _=>#[]) >>= _) _ _ _;refine Qa (GP hS' rfl (Qa (KO (Qe ?_))));exact h1 jp vb _ tk pb fun b o b1 b2 e=>(QM _ _ (QP b2)).trans (hk' b o b1 e)
 | succ k ih =>
  intro j s c arr hk hj st best hS h0 h1;have lt:j<n:=by omega
  refine GO F.entry_min_loop ?_;rw[Gu K7 _];have nz:n=0->∀{s':Shared} h' tk,(∀b o,b∉wr->b≠S->s'.heap.get? b=some o->h'.get? b=some o)->R (.ok (.ret d)) { s' with heap:=h',toks:=tk }:=fun z=>absurd z (by omega)
  rcases best with ⟨e0,rfl⟩|⟨vb,jp,rfl,pb⟩
  ·subst e0;show wpAny _ A.in1 (seqItems? (.ref S) >>= _) _ _ s;refine Qa (Gx hS rfl (show wpAny _ A.in1 (tryCatch (pyNext (.ref I)) _ >>= _) _ _ s from Qa (L8 (W.item 0 s _ _ lt st fun v h' tk pv st' hk'=>?_))));have hS':=hk' S _ nW hS;show wpAny _ A.in1 (updateSeq S (fun _=>#[v,v]) >>= _) _ _ _;refine Qa (GP hS' rfl ?_);rw[nm];refine Qe ⟨GL K7 _,ih 1 _ _ _ (by omega) (by omega) (W.frame _ _ _ st' fun b bf o e=>?_) (.inr ⟨v,by omega,rfl,pv⟩) (QT _ hS' rfl) (fun z=>nz z) fun np v' h2 t2 pv' k2=>?_⟩
   ·exact(QM _ _ (fun h:S=b=>nS (by rw[h];exact bf))).trans e
   ·exact h1 np v' h2 t2 pv' fun b o b1 b2 e=>k2 b o b1 b2 ((QM _ _ (QP b2)).trans (hk' b o b1 e))
  ·show wpAny _ A.in1 (seqItems? (.ref S) >>= _) _ _ s;refine Qa (Gx hS rfl (show wpAny _ A.in1 (tryCatch (pyNext (.ref I)) _ >>= _) _ _ s from Qa (L8 (W.item j s _ _ lt st fun v h' tk pv st' hk'=>?_))))
   have hS':=hk' S _ nW hS
   have ea:argBest bt j=if bt j (argBest bt (j-1))=true then j else argBest bt (j-1):=by
    obtain⟨i,rfl⟩:∃i,j=i+1:=⟨j-1,by omega⟩
    rfl
   show wpAny _ A.in1 (tryCatch (holding [v,v] (richCompare .Lt v vb >>= _)) _ >>= _) _ _ _;refine Qa (L8 (Gn (Qa (cm j (argBest bt (j-1)) v vb _ _ _ pv pb (Qa (Gn (Kv (Qa (KO (Qe ?_))))))))))
   cases hb:bt j (argBest bt (j-1)) with
   | true =>
    simp only[if_true];refine Qa (GP hS' rfl (Qa (KO ?_)));rw[nm];refine Qe ⟨GL K7 _,ih (j+1) _ _ _ (by omega) (by omega) (W.frame _ _ _ st' fun b bf o e=>?_) (.inr ⟨v,by omega,rfl,?_⟩) (QT _ hS' rfl) (fun z=>nz z) fun np v' h2 t2 pv' k2=>?_⟩
    ·exact(QM _ _ (fun h:S=b=>nS (by rw[h];exact bf))).trans e
    ·rw[Nat.add_sub_cancel,ea,hb,if_pos rfl];exact pv
    ·exact h1 np v' h2 t2 pv' fun b o b1 b2 e=>k2 b o b1 b2 ((QM _ _ (QP b2)).trans (hk' b o b1 e))
   | false =>
    simp only[GG,if_false];refine Qa (KO ?_);rw[nm];refine Qe ⟨GL K7 _,ih (j+1) _ c _ (by omega) (by omega) st' (.inr ⟨vb,by omega,rfl,?_⟩) hS' (fun z=>nz z) fun np v' h2 t2 pv' k2=>?_⟩
    ·rw[Nat.add_sub_cancel,ea,hb,if_neg Qu];exact pb
    ·exact h1 np v' h2 t2 pv' fun b o b1 b2 e=>k2 b o b1 b2 (hk' b o b1 e)
theorem Jdc(hh:A.handled=none)(hl:s.heap.IsList l (intItems xs))(h0:xs.size=0->∀h' tk,(∀b o,s.heap.get? b=some o->h'.get? b=some o)->Q d { s with heap:=h',toks:=tk })(h1:0<xs.size->∀v h' tk,(intItems xs)[argBest (fun i j=>decide (numAt xs i<numAt xs j)) (xs.size-1)]?=some v->(∀b o,s.heap.get? b=some o->h'.get? b=some o)->Q v { s with heap:=h',toks:=tk }):
 wpAny (model prog w) A (call (.builtin "min") [.ref l] [(Gj "default",d)]) Q E s:=by
 have nm:(toString "min"++toString ".loop":String)="min.loop":=by decide
 have sz:(intItems xs).size=xs.size:=by simp[intItems]
 refine PyProof.Rows.kmk_tree F.kind_min F.plain_min F.entry_min (Jdb _ _) ?_;show wpAny _ A.in1 (MB "min" ["key","default"] 0 ⟨[],[(Gj "default",d)]⟩ >>= _) _ _ s;refine Qa (Ku (show MB "min" ["key","default"] 0 ⟨[],[(Gj "default",d)]⟩=pure [none,some d] from rfl) ?_);refine Qa (Qe ?_);refine Qa (iter_intList hl fun s₂ e st hfp hlI=>?_);subst e;refine Qa (QQ ?_)
 rw[nm];have W:=Walks.list (prog:=prog) (w:=w) (A:=A.in1) hh _ l hlI (intItems xs);have fpS:(s.heap.push { cls:=.type "list_iterator",data:=.fields #[.ref l,.int 0 0] }).objs.size∉[s.heap.objs.size,l]:=fun hm=>Q8 _ (hfp _ hm)
 refine Qe ⟨GL K7 _,Jhw W (fun i j=>decide (numAt xs i<numAt xs j)) (CmpOf.ints_lt (numAt xs) (fun _ _=>intItems_at)) _ fpS d _ 0 _ _ #[] rfl (Gr _) (W.frame _ _ _ st fun b _ o e=>Qf _ e) (.inl ⟨rfl,rfl⟩) (Qi _ rfl) (fun z h' tk k=>?_) fun z v h' tk pv k=>?_⟩
 ·exact h0 (by rw[<- sz];exact z) h' tk (old_kept fun b o b1 e=>k b o b1 (Qr (Qj e)) (Qf _ e))
 ·exact h1 (by rw[<- sz];exact z) v h' tk (by rw[sz] at pv;exact pv) (old_kept fun b o b1 e=>k b o b1 (Qr (Qj e)) (Qf _ e))
end PySem
namespace L2
open PySem PySem.Spec PyProof.Rows
noncomputable def JjV(K:Frag):List V->Hp->VK->Prop:=fun xs H Q=>∃(a:Addr) (ns:List Int),xs=[.ref a]/\SqL K H a (ns.map V.int)/\(ns=[]->Q .non H)/\∀M,M∈ns->(∀b,b∈ns->M<=b)->Q (.int M) H
theorem Jg2(hc:X.calm=true):Jbe X (.builtin "min") "default" .non (JjV X.K):=by
 intro pins s σ H xs us w Q I r rz h;obtain⟨a,ns,rfl,hq,q0,q⟩:=h;obtain⟨u,rfl,rx⟩:=UW r;cases rx;cases rz;obtain⟨its,rv,p,hz⟩:=I.list hq;have hi:=YN rv;have hl:=p.isList;obtain⟨xs,e⟩:=hi.allInts.items;have hns:ns=xs.toList.map (·.1):=by rw[<- hi.numsOf,<- nums_intItems,<- e]
 rw[e] at hl;refine Jdc (I.ok.hd hc) hl (fun z h' tk hk=>?_) fun z v h' tk hv hk=>?_
 ·refine⟨.non,H,I.kept hk,rfl,q0 ?_⟩;rw[hns];exact Qy (by rw[Qk,QB];exact z)
 ·obtain⟨t,rfl⟩:=intItems_at hv;obtain⟨h1,h2⟩:=argBest_lt (numAt xs) (xs.size-1);refine⟨.int _,H,I.kept hk,⟨t,rfl⟩,q _ ?_ fun a ha=>?_⟩
  ·rw[hns,numAt_eq];exact getD_mem (by rw[Qk,QB];omega)
  ·rw[hns] at ha;obtain⟨j,hj,rfl⟩:=mem_getD ha;rw[Qk,QB] at hj;rw[<- numAt_eq];exact h2 j (by omega)
theorem Jef{X:Cx}{K:Frag}(hK:X.K=K)(hc:X.calm=true):Jbe X (.builtin "min") "default" .non (JjV K):=hK▸Jg2 hc
end L2
namespace LE
open PySem L2 LR
noncomputable def JfQ:List Sl->Option Sl
 | [s]=>s.r.bind fun ds=>(ints? ds).map fun ns=>match ns.min? with
  | some m=>.sh (.int m)
  | none=>.sh .non
 | _=>none
theorem Jn1:VU K C (JjV K) JfQ:=by
 intro Hs H0 H xs as c Q i hs r e q;unfold JfQ at e;split at e
 ·obtain⟨v,rfl,r0⟩:=r.one;obtain⟨ds,e1,e⟩:=bind_some e;obtain⟨ns,e2,rfl⟩:=map_some e;obtain⟨l,ys,rfl,h,r1⟩:=r0.r i e1;rw[YO e2] at r1;have:=r1.ints;subst this;refine⟨l,ns,rfl,h,fun z=>?_,fun M hM hb=>?_⟩
  ·subst z;exact q _ _ _ (.refl i) RD.non
  ·have hm:ns.min?=some M:=RC.mpr ⟨hM,hb⟩;rw[hm] at q;exact q _ _ _ (.refl i) (RD.int _)
 ·cases e
noncomputable def look{α:Type}:List Int->List α->Int->Option α
 | k::ks,d::ds,n=>if k=n then some d else look ks ds n
 | _,_,_=>none
noncomputable def Vy(ks:List Int)(n:Int):Bool:=ks.any fun k=>decide (k=n)
noncomputable def Jy(ks:List Int)(n:Int):List Int:=if Vy ks n=true then ks else ks++[n]
noncomputable def setK{α:Type}:List Int->List α->Int->α->List α
 | k::ks,d::ds,n,v=>(if k=n then v else d)::setK ks ds n v
 | _,ds,_,_=>ds
noncomputable def putDs{α:Type}(ks:List Int)(ds:List α)(n:Int)(v:α):List α:=if Vy ks n=true then setK ks ds n v else ds++[v]
theorem JdF{α:Type}(n:Int)(v:α):∀(ks:List Int) (ds:List α),(setK ks ds n v).length=ds.length
 | [],_=>rfl
 | _::_,[]=>rfl
 | _::ks,_::ds=>by simp[setK,JdF n v ks ds]
theorem Ja6{α:Type}(ks:List Int)(ds:List α)(n:Int)(v:α)(h:ks.length=ds.length):(Jy ks n).length=(putDs ks ds n v).length:=by unfold Jy putDs;split <;> simp[JdF,h]
theorem YT:∀(ks:List Int) (xs:List V) (n:Int),Uj ((ks.map Sum.inl:List Key).zip xs) (Sum.inl n)=look ks xs n
 | [],_,_=>rfl
 | _::_,[],_=>rfl
 | k::ks,x::xs,n=>by
  show Uj (((Sum.inl k:Key),x)::(ks.map Sum.inl:List Key).zip xs) (Sum.inl n)=_
  by_cases h:k=n
  ·rw[Vb (by rw[h]),look,if_pos h]
  ·rw[Va (fun e=>h (RI e)),look,if_neg h];exact YT ks xs n
theorem Jcq:∀(ks:List Int) (xs:List V) (n:Int),ks.length=xs.length->(((ks.map Sum.inl:List Key).zip xs).any fun kv=>decide (kv.1=(Sum.inl n:Key)))=Vy ks n
 | [],_,_,_=>rfl
 | _::_,[],_,h=>by simp at h
 | k::ks,x::xs,n,h=>by
  show(decide ((Sum.inl k:Key)=Sum.inl n) || ((ks.map Sum.inl:List Key).zip xs).any _)=(decide (k=n) || ks.any _)
  rw[Jcq ks xs n (by simpa using h)];congr 1
  by_cases e:k=n
  ·subst e;simp
  ·rw[decide_eq_false e,decide_eq_false fun z=>e (RI z)]
theorem Jc9:∀(ks:List Int) (xs:List V) (n:Int) (v:V),ks.length=xs.length->(((ks.map Sum.inl:List Key).zip xs).map fun kv=>if kv.1=(Sum.inl n:Key) then(kv.1,v) else kv)=(ks.map Sum.inl:List Key).zip (setK ks xs n v)
 | [],_,_,_,_=>rfl
 | _::_,[],_,_,h=>by simp at h
 | k::ks,x::xs,n,v,h=>by
  show(if (Sum.inl k:Key)=Sum.inl n then((Sum.inl k:Key),v) else(Sum.inl k,x))::((ks.map Sum.inl:List Key).zip xs).map _=(Sum.inl k,if k=n then v else x)::(ks.map Sum.inl:List Key).zip (setK ks xs n v);rw[Jc9 ks xs n v (by simpa using h)];congr 1
  by_cases e:k=n
  ·subst e;simp
  ·rw[if_neg e,if_neg fun z=>e (RI z)]
theorem Jdx(ks:List Int)(xs:List V)(n:Int)(v:V)(h:ks.length=xs.length):(HO.dK (UF ((ks.map Sum.inl:List Key).zip xs) (Sum.inl n) v))=dkO (Jy ks n) (putDs ks xs n v):=by
 unfold dkO UF Jy putDs;rw[Jcq ks xs n h];split
 ·rw[Jc9 ks xs n v h]
 ·rw[QL,Mq (by simpa using h)];rfl
theorem RDL.look:∀{ks:List Int} {xs:List V} {ds:List D} {n:Int},RDL K C H xs ds->(LE.look ks xs n=none/\LE.look ks ds n=none)\/∃x d,LE.look ks xs n=some x/\LE.look ks ds n=some d/\RD K C H x d
 | [],_,_,_,_=>.inl ⟨rfl,rfl⟩
 | _::_,[],[],_,_=>.inl ⟨rfl,rfl⟩
 | _::_,[],_::_,_,h=>by have:=h.1;simp at this
 | _::_,_::_,[],_,h=>by have:=h.1;simp at this
 | k::ks,x::xs,d::ds,n,h=>by
  simp only[LE.look]
  by_cases e:k=n
  ·rw[if_pos e,if_pos e];exact .inr ⟨x,d,rfl,rfl,h.head⟩
  ·rw[if_neg e,if_neg e];exact RDL.look h.tail
theorem RDL.setK(r:RD K C H v e):∀{ks:List Int} {xs:List V} {ds:List D},RDL K C H xs ds->RDL K C H (LE.setK ks xs n v) (LE.setK ks ds n e)
 | [],_,_,h=>h
 | _::_,[],[],_=>.nil
 | _::_,[],_::_,h=>by have:=h.1;simp at this
 | _::_,_::_,[],h=>by have:=h.1;simp at this
 | k::ks,x::xs,d::ds,h=>by
  simp only[LE.setK];refine .cons ?_ (RDL.setK r h.tail);split
  ·exact r
  ·exact h.head
theorem RDL.putDs{n:Int}{v:V}{e:D}{ks:List Int}{xs:List V}{ds:List D}(h:RDL K C H xs ds)(r:RD K C H v e):RDL K C H (LE.putDs ks xs n v) (LE.putDs ks ds n e):=by
 unfold LE.putDs;split
 ·exact RDL.setK r h
 ·exact h.snoc r
theorem Jo0{p:Addr}{ks:List Int}{xs:List V}{ds:List D}{Q:VK}(i:Same H0 H)(hs:Same Hs H)(hp:H p=none)(hk:ks.length=ds.length)(r:RDL K C H0 xs ds)(q:∀v H0' H',Step Hs H0 H H0' H'->RR K C Hs H0' H' v (.od ks ds)->Q v H'):Q (.ref p) (upd H p (dkO ks xs)) :=
 q _ H0 _ ⟨.new hp,Same.refl _,fun _ _ e=>.inl e,i.trans (.new hp)⟩ ⟨p,xs,rfl,Jk,Same.free i hp,Same.free hs hp,hk,r⟩
noncomputable def Sl.dk:Sl->Option (List Int×List D)
 | .sh (.dct ks ds)=>some (ks,ds)
 | .sh (.dfz ks ds)=>some (ks,ds)
 | .bd ks ds=>some (ks,ds)
 | .od ks ds=>some (ks,ds)
 | _=>none
noncomputable def int?:Sl->Option Int
 | .sh (.int i)=>some i
 | _=>none
noncomputable def JaT:Ev:=fun _=>some (.od [] [])
noncomputable def Jg8(a k:Ev):Ev:=fun E=>(a E).bind fun s=>s.dk.bind fun p=>((k E).bind int?).bind fun n=>(look p.1 p.2 n).map .sh
noncomputable def Jej(a k x:Ev):Ev:=fun E=>(a E).bind fun s=>s.dk.bind fun p=>((k E).bind int?).bind fun n=>((x E).bind sh?).bind fun d=>some (.sh ((look p.1 p.2 n).getD d))
noncomputable def JdY(i:Nat)(k a:Ev):Es:=fun E=>match E[i]? with
 | some (.od ks ds)=>(a E).bind fun s=>s.frz.bind fun d=>((k E).bind int?).bind fun n=>if ks.length<sizeLine then some (.nx (E.set i (.od (Jy ks n) (putDs ks ds n d)))) else none
 | _=>none
theorem UD(e:int? s=some n):s=.sh (.int n):=by
 cases s with
 | sh d=>cases d with
  | int i=>cases e;rfl
  | _=>cases e
 | _=>cases e
theorem RR.dk(r:RR K C Hs H0 H v s)(i:Same H0 H)(e:s.dk=some p):∃l xs,v=.ref l/\Rd H l (dkO p.1 xs)/\p.1.length=p.2.length/\RDL K C H0 xs p.2:=by
 cases s with
 | bd ks ds=>cases e;obtain⟨l,xs,h1,h2,h3⟩:=r;exact⟨l,xs,h1,.inl h2,h3⟩
 | od ks ds=>cases e;obtain⟨l,xs,h1,h2,_,_,h3⟩:=r;exact⟨l,xs,h1,.inl h2,h3⟩
 | bt _ _=>cases e
 | ot _ _=>cases e
 | sh d=>cases d with
  | dct ks ds=>cases e;obtain⟨l,xs,h1,h2,h3⟩:=RD.dctI r;exact⟨l,xs,h1,.inl (i _ _ h2),h3⟩
  | dfz ks ds=>cases e;obtain⟨l,xs,o,h1,h2,h3⟩:=RD.dfzI r;exact⟨l,xs,h1,.inr ⟨o,i _ _ h2⟩,h3⟩
  | _=>cases e
 | _=>cases e
theorem Jqz(h:Rd H l (dkO ks xs)):JgS H l (.int n) (look ks xs n):=.inl ⟨_,Sum.inl n,h,rfl,(YT ks xs n).symm⟩
theorem Jka:SE K C Jkq JaT:=by intro B H0 H σ E r Q I e q;cases e;intro p hp;exact Jo0 (ks:=[]) (xs:=[]) (Hs:=H) I.h (Same.refl _) hp rfl .nil q
theorem JnG(ha:SE K C td ed)(hk:SE K C ty ek):SE K C (JnK td ty) (Jg8 ed ek):=by
 intro B H0 H σ E r Q I e q;obtain⟨s,e1,e⟩:=bind_some e;obtain⟨p,e2,e⟩:=bind_some e;obtain⟨n,e3,e⟩:=bind_some e;obtain⟨t,e3,e4⟩:=bind_some e3;obtain rfl:=UD e4;obtain⟨d,e5,rfl⟩:=map_some e;refine ha B H0 H σ E s _ I e1 fun x H1 H1' s1 r1=>hk B H1 H1' σ E _ _ (I.step s1) e3 fun y H2 H2' s2 r2=>?_
 obtain⟨l,xs,rfl,h,_,rl⟩:=(r1.step s2).dk s2.i e2;rw[RD.intI r2];rcases RDL.look (ks:=p.1) (n:=n) rl with ⟨_,z⟩|⟨v,d',z1,z2,z3⟩
 ·rw[z] at e5;cases e5
 ·rw[z2] at e5;cases e5;exact⟨l,v,rfl,z1▸Jqz h,q _ _ _ (s1.trans s2) z3⟩
theorem JmC(ha:SE K C td ed)(hk:SE K C ty ek)(hx:SE K C tx ex):SE K C (Jfi td ty tx) (Jej ed ek ex):=by
 intro B H0 H σ E r Q I e q;obtain⟨s,e1,e⟩:=bind_some e;obtain⟨p,e2,e⟩:=bind_some e;obtain⟨n,e3,e⟩:=bind_some e;obtain⟨t,e3,e4⟩:=bind_some e3;obtain rfl:=UD e4;obtain⟨d,e5,e⟩:=bind_some e;obtain⟨t',e5,e6⟩:=bind_some e5;obtain rfl:=We e6;cases e;refine ha B H0 H σ E s _ I e1 fun x H1 H1' s1 r1=>?_
 obtain⟨l0,xs0,rfl,h0,_,_⟩:=r1.dk s1.i e2;refine⟨l0,rfl,.inl ⟨_,h0⟩,hk B H1 H1' σ E _ _ (I.step s1) e3 fun y H2 H2' s2 r2=>hx B H2 H2' σ E _ _ ((I.step s1).step s2) e5 fun z H3 H3' s3 r3=>?_⟩;obtain⟨l,xs,hl,h,_,rl⟩:=((r1.step s2).step s3).dk s3.i e2;cases hl;rw[RD.intI r2];refine⟨_,Jqz h,q _ _ _ ((s1.trans s2).trans s3) ?_⟩;rcases RDL.look (ks:=p.1) (n:=n) rl with ⟨z1,z2⟩|⟨v,d',z1,z2,z3⟩
 ·rw[z1,z2];exact r3
 ·rw[z1,z2];exact z3
theorem Jqf(ha:SE K C te ea)(hk:SE K C ty ek):SS K C (Jj9 (Wj i) ty te) (JdY i ek ea):=by
 intro B H0 H σ E o D I e f;unfold JdY at e;split at e
 ·next ks ds h =>
  obtain⟨s,e1,e⟩:=bind_some e;obtain⟨d,e2,e⟩:=bind_some e;obtain⟨n,e3,e⟩:=bind_some e;obtain⟨t,e3,e4⟩:=bind_some e3;obtain rfl:=UD e4;split at e
  ·next hz =>
   cases e;obtain⟨l,xs,g1,g2,g3,g4,gk,g5⟩:=I.slotD h;refine ha B H0 H σ E _ _ I e1 fun v H1 H1' s1 r1=>?_
   have s2:Step H H0 H (JI H H1 H1') H1':=s1.comp (JC s1.i) fun _ z=>z
   have rv:=RR.frz s1.i r1 e2;refine⟨_,g1,?_⟩;refine hk B _ H1' σ E _ _ (I.step s2) e3 fun w H3 H3' s3 r3=>?_
   have s4:=s2.trans s3
   have hx:ks.length=xs.length:=gk.trans g5.1.symm;obtain⟨_,n0,nB⟩:=(I.step s4).ownG h rfl g1
   have rr:=(g5.mono s4.z).putDs (ks:=ks) (n:=n) (rv.mono s3.z)
   have m:=(I.step s4).mutG (t':=.od (Jy ks n) (putDs ks ds n d)) (o':=dkO (Jy ks n) (putDs ks xs n v)) h rfl rfl g1 ⟨l,_,rfl,Jk,n0,nB,Ja6 _ _ _ _ gk,rr⟩;rw[RD.intI r3];refine⟨l,_,rfl,.inl ⟨_,Sum.inl n,s4.h _ _ g2,rfl,?_,rfl⟩,?_⟩
   ·rw[GD,Qk,<- hx,Lh];exact hz
   ·rw[Jdx ks xs n v hx];exact f _ _ _ ⟨m.b,s4.z,(s4.ss I.b).n,m.h⟩ m
  ·cases e
 ·cases e
noncomputable def JiK(x y:Sl):Option Sl:=x.m.bind fun ds=>(int? y).bind fun k=>if JeD k=true/\ds.length*k.toNat<=sizeLine then some (.own (QN k.toNat ds).flatten) else none
theorem RDL.rep(r:RDL K C H xs ds):∀k:Nat,RDL K C H (QN k xs).flatten (QN k ds).flatten
 | 0=>.nil
 | k+1=>by rw[G6,G6,Kw,Kw];exact r.append (RDL.rep r k)
theorem Jra:OpS K C Jrp JiK:=by
 intro Hs H0 H x y a b c Q i hs ra rb e q;obtain⟨ds,e1,e⟩:=bind_some e;obtain⟨k,e2,e3⟩:=bind_some e;have hb:=UD e2;subst hb;split at e3
 ·next hz=>cases e3;obtain⟨l,us,rfl,h1,r1⟩:=ra.m i e1;obtain⟨b1,b2⟩:=JbG hz.1;exact⟨l,k,us,rfl,RD.intI rb,h1,by omega,by omega,by rw[r1.1];exact hz.2,fun p hp=>YD i hs hp (r1.rep k.toNat) q⟩
 ·cases e3
theorem JcP{d:D}{s:Sl}{k:Int}(e:s.m=some [d])(h1:JeD k=true)(h2:k.toNat<=16777216):JiK s (.sh (.int k))=some (.own (QN k.toNat d)):=by
 unfold JiK;rw[e,QV];show(some k).bind _=_;rw[QV,if_pos ⟨h1,by rw[GA,Nat.one_mul];exact h2⟩];congr 2
 generalize k.toNat=n
 induction n with
 | zero=>rfl
 | succ n ih=>rw[G6,Kw,ih];rfl
end LE
namespace L2
open PySem PySem.Spec PyProof.Rows
noncomputable def JnL(i:Nat)(t:TS):TS:=fun D σ H=>∃a kvs,σ[i]?=some (some (.ref a))/\H a=some (.dK kvs)/\∀o,t D σ (upd H a (.frz o (.dK kvs)))
theorem Inv.freeze{X:Cx}{pins:List (Addr×Obj)}{σ:St}{H:Hp}{s:Shared}{a:Addr}{kvs:List (Key×V)}(I:Inv X pins σ H s)(e:H a=some (.dK kvs)):∃o,Inv X pins σ (upd H a (.frz o (.dK kvs))) s:=by
 obtain⟨z,y,vs,r,ob,es,ep,e1,c⟩:=(show ObjOk X.prog X.w H s.heap a (.dK kvs) from I.hok a _ e)
 have:=I.write (x:=a) (e:=a) (o:=.frz ob (.dK kvs)) (h':=s.heap) (t':=s.toks) (by rw[e];trivial) (.inl rfl) (fun b u _ q=>q) ⟨ob,e1⟩ ⟨e1,z,y,vs,r,ob,es,ep,e1,c⟩;exact⟨ob,this⟩
theorem Jmf{X:Cx}{st:Stmt}{t:TS}(i:Nat)(h:PS X st t):PS X st (JnL i t):=by intro pins s σ H D I ⟨a,kvs,e1,e2,q⟩;obtain⟨o,I'⟩:=I.freeze e2;exact h pins s σ _ D I' (q o)
noncomputable def Itd(a:Addr)(o:Obj)(kvs:List (Key×V)):It :=
 ⟨fun i H=>H a=some (.frz o (.dK kvs))/\∃p,kvs[i]?=some p,
  fun i H x H'=>∃t k v,x=.ref t/\H t=none/\kvs[i]?=some (k,v)/\H'=upd H t (.tup [kV k,v]),
  fun i H=>H a=some (.frz o (.dK kvs))/\i=kvs.length⟩
theorem Ji6(h:(JA P w).is k u=true):RelV (kV k) u:=by
 rcases JO (show WO k u=true from h) with ⟨i,t,rfl,rfl⟩|⟨x,t,rfl,rfl⟩
 ·exact⟨t,rfl⟩
 ·exact⟨t,rfl⟩
theorem KV.get{κ:Type}:∀{kvs:List (κ×V)} {vs:List (κ×Value)} {i:Nat} {p:κ×V},KV kvs vs->kvs[i]?=some p->∃u,vs[i]?=some (p.1,u)/\RelV p.2 u
 | _,_,0,p,.cons h _,e=>by simp at e;subst e;obtain⟨h1,h2⟩:=h;rename_i q _ _;exact⟨_,by simp;exact Lm h1.symm rfl,h2⟩
 | _,_,i+1,p,.cons _ t,e=>by obtain⟨u,h1,h2⟩:=KV.get (i:=i) t (by simpa using e);exact⟨u,by simpa using h1,h2⟩
 | _,_,_,_,.nil,e=>by simp at e
theorem Zs{X:Cx}{pins:List (Addr×Obj)}{σ:St}{H:Hp}{s:Shared}{a:Addr}{o:Obj}{kvs:List (Key×V)}{es:Array DictEntry}{ep:Nat}(I:Inv X pins σ H s)(h:H a=some (.frz o (.dK kvs)))(hd:o.data=.dict es ep) :
 ∃vs,KV kvs vs/\s.heap.DictAt (JA X.prog X.w) a vs ep/\(a == sysModules)=false:=by
 obtain⟨e0,z,y,vs,r,ob,es',ep',e1,c1,c2,c3⟩:=(show ObjOk X.prog X.w H s.heap a (.frz o (.dK kvs)) from I.hok a _ h)
 rw[e0] at e1;cases e1;rw[hd] at c2;cases c2;exact⟨vs,r,⟨o,es,e0,c1,hd,c3⟩,y⟩
theorem Jfk{P:Program}{w:World}{K:Frag}{elts:List Expr}{kk:Nat}{pos:Pos}(a it:Addr)(o:Obj)(kvs:List (Key×V))(es:Array DictEntry)(ep:Nat)(hd:o.data=.dict es ep) :
 Turn P w K (.Tuple elts kk pos) (Itd a o kvs) [it] it (fun i h=>∃ok ov,IsItemIter h it a i kvs.length ep ok ov) where
 mem:=by simp
 obj:=fun i h st c hc=>by
  obtain⟨ok,ov,s1⟩:=st;have hc':c=it:=by simpa using hc
  subst hc';exact⟨_,s1,fun v z=>nomatch (show Data.fields _=Data.cell v from z)⟩
 keep:=fun i h h' st k=>by obtain⟨ok,ov,s1⟩:=st;exact⟨ok,ov,k it (by simp) _ s1⟩
 item:=by
  intro X hP hw hK hc i pins s σ H E I hf st hg;subst hP hw hK;obtain⟨hH,⟨k,v⟩,e1⟩:=hg;obtain⟨vs,r,dd,_⟩:=Zs I hH hd;obtain⟨ok,ov,s1⟩:=st;obtain⟨u,hu,ru⟩:=r.get e1;have hl:kvs.length=vs.length:=KV.length r;rw[hl] at s1;refine wpAny_pyNext_items_item s1 dd hu fun key h' hk hit' ht hz hkeep=>?_
  refine⟨_,rfl,wpAny_letOwnedTupleGo_items (s:={ s with heap:=h' }) hit' fun k2 t9 e9=>?_⟩
  replace e9:QA it h' k2:=e9;have elt:it<s.heap.objs.size:=Qj s1
  have I1:Inv X pins σ (upd H s.heap.objs.size (.tup [kV k,v])) { s with heap:=s.heap.push { cls:=.type "tuple",data:=.seq #[key,u] },toks:=s.toks } :=
   I.laid (o:=.tup [kV k,v]) (fun c ob q=>Qf _ q) (Qm _) ⟨by show 2<=sizeLine;decide,[key,u],.cons (Ji6 hk) (.cons ru .nil),⟨_,Qi _ rfl,rfl,_,rfl⟩⟩
  have hf1:∀c∈[it],FpOk X pins (upd H s.heap.objs.size (.tup [kV k,v])) c:=fun c hc=>by
   have hc':c=it:=by simpa using hc
   subst hc';exact⟨by rw[Jh (Qr elt)];exact(hf c hc).1,(hf c hc).2⟩
  have I2:Inv X pins σ (upd H s.heap.objs.size (.tup [kV k,v])) { s with heap:=k2,toks:=s.toks }:=Inv.turnedL (s:={ s with heap:=s.heap.push { cls:=.type "tuple",data:=.seq #[key,u] },toks:=s.toks }) I1 (fun c ob hc q=>by
   have hc':c≠it:=fun z=>hc (by simp[z])
   refine e9.extBut c ob hc' ?_
   by_cases hcs:c=s.heap.objs.size
   ·subst hcs;have q':(s.heap.push { cls:=.type "tuple",data:=.seq #[key,u] }).get? s.heap.objs.size=some ob:=q;rw[Qi _ rfl] at q';cases q';exact ht
   ·have q':s.heap.get? c=some ob:=by have q2:(s.heap.push { cls:=.type "tuple",data:=.seq #[key,u] }).get? c=some ob:=q;exact(MX s.heap c _ hcs).symm.trans q2
    exact hkeep c ob hc' q') hf1
  refine⟨.ref s.heap.objs.size,_,I2,rfl,⟨_,k,v,rfl,I.hok.fresh (Qm _),e1,rfl⟩,⟨key,u,?_⟩,fun c hc=>(hf1 c hc).1⟩
  ·rw[hl];exact t9
 done:=by
  intro X hP hw hK hc i pins s σ H E I hf st hg;subst hP hw hK;obtain⟨hH,ei⟩:=hg;obtain⟨vs,r,dd,_⟩:=Zs I hH hd;obtain⟨ok,ov,s1⟩:=st;have hl:kvs.length=vs.length:=KV.length r;have hh:X.A.handled=none:=I.ok.hd hc;rw[hl] at s1;refine wpAny_pyNext_items_end hh s1 dd (GC (by omega)) fun h' he=>⟨rfl,?_⟩
  exact I.turnedL (fun c ob hc q=>he c ob (fun z=>hc (by simp[z])) q) hf
 self:=fun _ _ _ _ _ st h=>by obtain⟨ok,ov,s1⟩:=st;exact PySem.W.kcp_self s1 h
noncomputable def JqK(td:TE):TI:=fun σ H R=>td σ H fun x H1=>∃a o kvs,x=.ref a/\H1 a=some (.frz o (.dK kvs))/\R (Itd a o kvs) H1
theorem JjG{X:Cx}{elts:List Expr}{kk:Nat}{tpos:Pos}{d:Expr}{td:TE}{apos pos:Pos}(hd:PE X d td)(hbase:attributeBase d "items" X.env (eval d X.env)=eval d X.env:=by rfl)(hline:(apos.endLine == pos.line)=true:=by rfl)
:PI X (.Tuple elts kk tpos) (.Call (.Attribute d "items" apos) [] [] pos) (JqK td):=by
 intro pins s σ H R I h;refine K3 hbase hline (thn (hd pins s σ H _ I h) fun v s1 ⟨x,H1,I1,r1,a,o,kvs,ex,hH,q⟩=>?_);subst ex;cases r1;obtain⟨t1,t2,_⟩:=ZI I1 (.inl ⟨kvs,.inr ⟨o,hH⟩⟩);have hO:=(show ObjOk X.prog X.w H1 s1.heap a (.frz o (.dK kvs)) from I1.hok a _ hH)
 obtain⟨e0,z,y,vs,r,ob,es,ep,e1,c1,c2,c3⟩:=hO;rw[e0] at e1;cases e1;have dd:s1.heap.DictAt (JA X.prog X.w) a vs ep:=⟨o,es,e0,c1,c2,c3⟩
 have hl:kvs.length=vs.length:=KV.length r;refine⟨"dict","dict.items",Kx,K8,Rj,t1,t2,G4 rfl (LN ?_)⟩;refine call_meetsIn K8 t1 M7 (MT _) (meets_dict_items (JA X.prog X.w) a y) ⟨⟨vs,dd.dictOf⟩,?_⟩
 have I2:Inv X pins σ H1 { s1 with heap:=s1.heap.push { cls:=.type "dict_items",data:=.fields #[.ref a] },toks:=s1.toks }:=I1.kept fun b ob q=>Qf _ q
 refine wpAny_pyIter_items (s:={ s1 with heap:=s1.heap.push { cls:=.type "dict_items",data:=.fields #[.ref a] } }) (d:=a) (kvs:=vs) (ep:=ep) (knd:=JA X.prog X.w) ⟨_,Qi _ rfl,rfl,rfl⟩ (dd.push _) ?_;refine⟨_,[(s1.heap.push { cls:=.type "dict_items",data:=.fields #[.ref a] }).objs.size],_,_,H1,rfl,I2.kept (t':=s1.toks) fun b ob q=>Qf _ q,Jfk a _ o kvs es ep c2,⟨.none,.none,?_⟩,fun c hc=>?_,q⟩
 ·rw[hl];exact Qi _ rfl
 ·have hc':c=(s1.heap.push { cls:=.type "dict_items",data:=.fields #[.ref a] }).objs.size:=by simpa using hc
  subst hc';exact I2.fpOk (Qm _) (I2.hok.fresh (Qm _))
end L2
namespace LE
open PySem L2 LR
noncomputable def JgP(i:Nat)(b:Es):Es:=fun E=>match E[i]? with
 | some (.od ks ds)=>b (E.set i (.sh (.dfz ks ds)))
 | _=>none
noncomputable def JbI:List Int->List D->List D:=List.zipWith fun k d=>.tup [.int k,d]
noncomputable def JeB(a:Ev):En->Option (List D):=fun E=>(a E).bind fun s=>match s with
 | .sh (.dfz ks ds)=>some (JbI ks ds)
 | _=>none
theorem Jqg(i:Nat)(ht:SS K C t et):SS K C (JnL i t) (JgP i et):=by
 intro B H0 H σ E o D I e f;unfold JgP at e;split at e
 ·next ks ds h =>
  obtain⟨l,xs,g1,g2,g3,g4,gk,g5⟩:=I.slotD h;refine⟨l,_,g1,g2,fun ob=>?_⟩;have hi:i<E.length:=(Qn.mp h).1;have s0:Same H0 (upd H0 l (.frz ob (dkO ks xs))):=.new g3;have nb:∀{A:Hp},A l=none->Same A H->Same A (upd H l (.frz ob (dkO ks xs))):=fun {A} n s a o e=>by rw[Jh (Jo e n)];exact s a o e
  have s1:Same (upd H0 l (.frz ob (dkO ks xs))) (upd H l (.frz ob (dkO ks xs))):=fun a o e=>by
   by_cases ha:a=l
   ·subst ha;rw[Jk] at e ⊢;exact e
   ·rw[Jh ha] at e ⊢;exact I.h a o e
  have st:SStep B H0 (upd H0 l (.frz ob (dkO ks xs))) (upd H l (.frz ob (dkO ks xs))):=⟨nb g4 I.b,s0,fun a o e=>by
   by_cases ha:a=l
   ·subst ha;exact .inr (.inl g4)
   ·rw[Jh ha] at e;exact .inl e,s1⟩
  refine ht B _ _ σ _ o D ⟨nb g4 I.b,s1,by simp[I.len],fun j s e=>?_,fun j k u1 u2 v hjk a1 a2 w1 w2 a3=>?_⟩ e (f.step st)
  ·rw[Q3] at e
   by_cases hj:i=j
   ·subst hj;rw[if_pos rfl,if_pos hi] at e;cases e;exact .inr ⟨_,g1,.mkZ Jk gk (g5.mono s0)⟩
   ·rw[if_neg hj] at e;rcases I.at' j s e with z|⟨v,q1,q2⟩
    ·exact .inl z
    ·refine .inr ⟨v,q1,?_⟩
     cases s with
     | no=>trivial
     | sh d=>exact RD.mono s0 q2
     | bo es=>obtain⟨l',ys,p1,p2,p3⟩:=q2;exact⟨l',ys,p1,p2,p3.mono s0⟩
     | bd ks es=>obtain⟨l',ys,p1,p2,hk,p3⟩:=q2;exact⟨l',ys,p1,p2,hk,p3.mono s0⟩
     | bt ks es=>obtain⟨l',ys,p1,p2,hk,p3⟩:=q2;exact⟨l',ys,p1,p2,hk,p3.mono s0⟩
     | own es =>
      obtain⟨l',ys,p1,p2,p3,p4,p5⟩:=q2;subst p1;have:l'≠l:=fun z=>by subst z;exact I.sep i j _ _ (.ref l') hj h e rfl rfl g1 q1
      exact⟨l',ys,rfl,by rw[Jh this];exact p2,by rw[Jh this];exact p3,p4,p5.mono s0⟩
     | od ks es =>
      obtain⟨l',ys,p1,p2,p3,p4,hk,p5⟩:=q2;subst p1;have:l'≠l:=fun z=>by subst z;exact I.sep i j _ _ (.ref l') hj h e rfl rfl g1 q1
      exact⟨l',ys,rfl,by rw[Jh this];exact p2,by rw[Jh this];exact p3,p4,hk,p5.mono s0⟩
     | ot ks es =>
      obtain⟨l',ys,p1,p2,p3,p4,hk,p5⟩:=q2;subst p1;have:l'≠l:=fun z=>by subst z;exact I.sep i j _ _ (.ref l') hj h e rfl rfl g1 q1
      exact⟨l',ys,rfl,by rw[Jh this];exact p2,by rw[Jh this];exact p3,p4,hk,p5.mono s0⟩
  ·have own:∀{j:Nat} {u:Sl},(E.set i (.sh (.dfz ks ds)))[j]?=some u->Yb u=true->E[j]?=some u:=fun {j u} a w=>by
    rw[Q3] at a
    by_cases hj:i=j
    ·subst hj;rw[if_pos rfl,if_pos hi] at a;cases a;cases w
    ·rw[if_neg hj] at a;exact a
   exact I.sep j k u1 u2 v hjk (own a1 w1) (own a2 w2) w1 w2 a3
 ·cases e
theorem Jas:∀(ks:List Int) (xs:List V) (i:Nat),((ks.map Sum.inl:List Key).zip xs)[i]?=(match ks[i]?,xs[i]? with|some k,some x=>some ((Sum.inl k:Key),x)|_,_=>none)
 | [],xs,i=>by simp
 | k::ks,[],i=>by cases h:(k::ks)[i]? <;> simp_all
 | k::ks,x::xs,0=>by simp
 | k::ks,x::xs,i+1=>by simpa using Jas ks xs i
theorem Jkb(ha:SE K C td ed):SI K C m (JqK td) (JeB ed):=by
 intro B H0 H σ E ds R I e q;obtain⟨s,e1,e⟩:=bind_some e;split at e
 ·next ks es =>
  cases e;refine ha B H0 H σ E _ _ I e1 fun x H1 H1' s1 r1=>?_
  obtain⟨l,xs,o,rfl,h,hk,rl⟩:=RD.dfzI r1;refine⟨l,o,_,rfl,s1.i _ _ h,q _ _ _ s1 ?_⟩
  have sA:Same (if m=true then H1' else B) H1':=by
   split
   ·exact Same.refl _
   ·exact I.b.trans s1.h
  intro H0' H' st;have hl:H' l=some (.frz o (dkO ks xs)):=st.i _ _ (st.z _ _ h);refine⟨fun i d e=>?_,⟨hl,?_⟩⟩
  ·unfold JbI at e;rw[RA] at e
   cases hki:ks[i]? with
   | none=>rw[hki] at e;cases e
   | some k =>
    cases hdi:es[i]? with
    | none=>rw[hki,hdi] at e;cases e
    | some d' =>
     rw[hki,hdi] at e;cases e;obtain⟨x,hx,rx⟩:=rl.get hdi;have hz:((ks.map Sum.inl:List Key).zip xs)[i]?=some (Sum.inl k,x):=by rw[Jas,hki,hx]
     refine⟨⟨hl,_,hz⟩,?_⟩;rintro z H2 ⟨p,k',v',rfl,hp,hv,rfl⟩;rw[hz] at hv;cases hv;have h0:H0' p=none:=Same.free st.i hp;refine⟨upd H0' p (.tup [.int k,x]),⟨.new hp,.new h0,fun a o e=>?_,fun a o e=>?_⟩,?_⟩
     ·by_cases h:a=p
      ·subst h;exact .inr (.inl hp)
      ·rw[Jh h] at e;exact .inl e
     ·by_cases h:a=p
      ·subst h;rw[Jk] at e ⊢;exact e
      ·rw[Jh h] at e ⊢;exact st.i a o e
     ·exact .mkT (.of Jk) (.cons (.int _) (.cons (rx.mono (st.z.trans (.new h0))) .nil))
  ·unfold JbI;rw[List.length_zipWith,GD,Qk,rl.1]
 ·cases e
end LE
namespace L2
open PySem PySem.Spec PyProof.Rows
noncomputable def WX(p a:Addr):HO:=.ext fun h=>KdlKeysView h p a
theorem Jbq{X:Cx}{pins:List (Addr×Obj)}{σ:St}{H:Hp}{s:Shared}{a:Addr}{kvs:List (Key×V)}(I:Inv X pins σ H s)(h:Rd H a (.dK kvs)) :
 ∃vs ep,KV kvs vs/\s.heap.DictAt (JA X.prog X.w) a vs ep/\(a == sysModules)=false/\kvs.length<=sizeLine:=by
 obtain⟨z,y,vs,r,ob,es,ep,e1,c⟩:=(show ObjOk X.prog X.w H s.heap a (.dK kvs) from h.ok I.hok)
 exact⟨vs,ep,r,⟨ob,es,e1,c⟩,y,z⟩
noncomputable def Jqo(H:Hp)(r a:Addr):Prop:=r=a\/H r=some (WX r a)
theorem Jp0{X:Cx}{pins:List (Addr×Obj)}{σ:St}{H:Hp}{s:Shared}{r a:Addr}{kvs:List (Key×V)}(I:Inv X pins σ H s)(d:Jqo H r a)(h:Rd H a (.dK kvs)) :
 ∃vs T OK,KV kvs vs/\PySem.W.KdlSrc X.prog X.w T r a vs.length (fun i v=>∃k x,vs[i]?=some (k,x)/\(JA X.prog X.w).is k v=true) OK/\OK s.heap/\vs.length<=sizeLine:=by
 obtain⟨vs,ep,rl,dd,y,z⟩:=Jbq I h;rw[KV.length rl] at z;rcases d with e|e
 ·subst e;exact⟨vs,_,_,rl,PySem.W.kdl_dict (ep:=ep) y,dd,z⟩
 ·have vw:KdlKeysView s.heap r a:=(show ObjOk X.prog X.w H s.heap r (WX r a) from I.hok r _ e).1;exact⟨vs,_,_,rl,PySem.W.kdl_keys (ep:=ep),⟨vw,dd⟩,z⟩
theorem JcZ{P:Program}{w:World}:∀{ks:List Int} {xs:List V} {vs:List (Key×Value)} {acc:List Value},ks.length=xs.length->KV ((ks.map Sum.inl:List Key).zip xs) vs->acc.length=vs.length ->
 (∀(j:Nat) (v:Value),acc[j]?=some v->∃k x,vs[j]?=some (k,x)/\(JA P w).is k v=true)->IntsAre acc ks
 | [],[],_,acc,_,r,hl,_=>by
  cases r
  cases acc with
  | nil=>exact .nil
  | cons _ _=>simp at hl
 | [],_::_,_,_,h,_,_,_=>by simp at h
 | _::_,[],_,_,h,_,_,_=>by simp at h
 | k::ks,x::xs,vs,acc,h,r,hl,hv=>by
  cases r with
  | cons r1 r2 =>
   cases acc with
   | nil=>simp at hl
   | cons u acc =>
    obtain⟨k',x',e1,e2⟩:=hv 0 u rfl;simp at e1;obtain⟨r1a,r1b⟩:=r1;subst e1;have ek:k'=Sum.inl k:=r1a.symm;subst ek;rcases JO (show WO (Sum.inl k) u=true from e2) with ⟨i,t,e,rfl⟩|⟨y,t,e,_⟩
    ·cases e;exact .cons k t (JcZ (by simpa using h) r2 (by simpa using hl) fun j v e=>hv (j+1) v (by simpa using e))
    ·cases e
theorem JcD(K:PySem.W.KdlSrc prog w T r d n P OK)(hh:A.handled=none)(hok:OK s.heap)(hn:n<=sizeLine)(h:∀(h':Heap) (tk:Nat) (acc:Array Value),(∀b o,s.heap.get? b=some o->h'.get? b=some o)->s.heap.objs.size<h'.objs.size->ItemsOf P acc n->R acc.toList { s with heap:=h',toks:=tk }):wpAny (model prog w) A (collect (.ref r)) R E s:=by
 obtain⟨k1,k2⟩:=K.there _ hok;have old:∀b o,s.heap.get? b=some o->(s.heap.push { cls:=.type "list",data:=.seq ([]:List Value).toArray }).get? b=some o:=fun b o e=>Qf _ e
 unfold collect;refine Qa (RO (GO entry_proto_collect' ?_));rw[Gu MC _];show wpAny _ A.in1 (newList [] >>= fun l=>again (.builtin "list.__iadd__" ⟨[l,.ref r],[]⟩)) _ _ s;refine Qa (QQ (Qe ⟨GL K9 _,GO entry_list_iadd' ?_⟩));rw[Gu K9 _];have at0:(s.heap.push { cls:=.type "list",data:=.seq ([]:List Value).toArray }).get? s.heap.objs.size=some { cls:=.type "list",data:=.seq #[] }:=Qi _ rfl
 have fin:∀(h':Heap) (tk:Nat) (acc:Array Value) (c:Nat),(∀b o,s.heap.get? b=some o->h'.get? b=some o)->h'.get? s.heap.objs.size=some { cls:=.type "list",dict:=none,data:=.seq acc c,slots:=#[] }->ItemsOf P acc n ->
  wpAny (model prog w) A (load s.heap.objs.size >>= fun o=>match o.data with | .seq xs _=>pure xs.toList | _=>unsupported "internal:collect") R E { s with heap:=h',toks:=tk }:=fun h' tk acc c hk hS hi=>Qa (wpAny_load hS (Qe (h h' tk acc hk (Qj hS) hi)))
 have got:=PySem.W.kdl_extend (A:=A) (s:={ s with heap:=s.heap.push { cls:=.type "list",data:=.seq ([]:List Value).toArray } }) (R:=fun q s'=>∃h' tk acc c,q=.ok (.ret (.ref s.heap.objs.size))/\s'={ s with heap:=h',toks:=tk }/\(∀b o,s.heap.get? b=some o->h'.get? b=some o)/\h'.get? s.heap.objs.size=some { cls:=.type "list",dict:=none,data:=.seq acc c,slots:=#[] }/\ItemsOf P acc n) K hh (K.keep _ _ hok fun b _ o e=>old b o e) s.heap.objs.size (QY k1) (QY k2) (.ref s.heap.objs.size) 0 at0 (fun h' tk acc c hk hS hi=>⟨h',tk,acc,c,rfl,rfl,fun b o e=>hk b o (Qr (Qj e)) (old b o e),hS,hi⟩) hn
 refine KU got (fun f s' x=>?_) fun e s' ⟨_,_,_,_,z,_⟩=>nomatch z
 cases f with
 | done f=>obtain⟨h',tk,acc,c,e,rfl,hk,hS,hi⟩:=x;cases e;exact fin h' tk acc c hk hS hi
 | again c1=>exact⟨x.1,Lf x.2 fun q s2 ⟨h',tk,acc,c,e1,e2,hk,hS,hi⟩=>by subst e1;subst e2;exact fin h' tk acc c hk hS hi⟩
noncomputable def JjU:List V->Hp->VK->Prop:=fun xs H Q=>∃(r a:Addr) (ks:List Int) (vs:List V),xs=[.ref r]/\Jqo H r a/\Rd H a (.dK ((ks.map Sum.inl:List Key).zip vs))/\ks.length=vs.length/\∀l,H l=none->Q (.ref l) (upd H l (.lst (ks.map V.int)))
theorem Jec(hc:X.calm=true):J3 X (.type "list") JjU:=by
 intro pins s σ H xs us Q I r h;obtain⟨p,a,ks,vs0,rfl,ds,hq,hlk,q⟩:=h;obtain⟨u,rfl,rx⟩:=UW r;cases rx;obtain⟨vs,T,OK,rl,K,ok,hz⟩:=Jp0 I ds hq;have hh:X.A.handled=none:=I.ok.hd hc
 have hl:vs.length=ks.length:=by have:=KV.length rl;rw[GD,Qk,<- hlk,Lh] at this;exact this.symm
 refine PySem.W.kdl_call K hh ok hz fun h' tk acc c' hk hS items=>?_
 have hI:IntsAre acc.toList ks:=JcZ (P:=X.prog) (w:=X.w) hlk rl (by rw[QB,items.1]) fun j v e=>items.2 j v (by rw[<- GB];exact e)
 have hne:H s.heap.objs.size=none:=I.hok.fresh (Qm _);refine⟨.ref s.heap.objs.size,_,I.laid (t':=tk) hk (Qm _) (show ObjOk X.prog X.w _ _ _ (.lst (ks.map V.int)) from⟨by rw[Qk,<- hl];exact hz,acc.toList,c',UT hI,?_⟩),rfl,q _ hne⟩;rw[hS]
end L2
namespace LE
open PySem L2 LR
noncomputable def Jem(a:Ev):Ev:=fun E=>(a E).bind fun s=>s.dk.bind fun p=>some (.own (p.1.map .int))
theorem Rd.put(h:Rd H l o)(hp:H p=none):Rd (upd H p u) l o:=by
 rcases h with h|⟨ob,h⟩
 ·exact .inl (by rw[Jh (Jo h hp)];exact h)
 ·exact .inr ⟨ob,by rw[Jh (Jo h hp)];exact h⟩
theorem JmG(ha:SE K C td ed):SE K C (tCB JjU (Ur td VO)) (Jem ed):=by
 intro B H0 H σ E r Q I e q;obtain⟨s,e1,e⟩:=bind_some e;obtain⟨p,e2,e⟩:=bind_some e;cases e;refine ha B H0 H σ E s _ I e1 fun x H1 H1' s1 r1=>?_
 obtain⟨l,xs,rfl,h,hk,rl⟩:=r1.dk s1.i e2;exact⟨l,l,p.1,xs,rfl,.inl rfl,h,by rw[hk,rl.1],fun z hz=>YD s1.i s1.h hz (RDL.ofInts _) fun v H2 H2' s2 r2=>q v H2 H2' (s1.comp s2 fun _ y=>y) r2⟩
end LE
namespace L2
open PySem PySem.Spec PyProof.Rows
theorem Inv.more{X:Cx}{pins:List (Addr×Obj)}{σ:St}{H H':Hp}{s:Shared}{h':Heap}{t':Nat}(I:Inv X pins σ H s)(k:∀b u,s.heap.get? b=some u->h'.get? b=some u)(hx:∀b,b<s.heap.objs.size->H' b=H b)
 (new:∀b o,s.heap.objs.size<=b->H' b=some o->ObjOk X.prog X.w H' h' b o):Inv X pins σ H' { s with heap:=h',toks:=t' }:=by
 have old:∀b o,H b=some o->H' b=some o:=fun b o e=>by rw[hx b (I.hok.lt e)];exact e
 refine I.un ⟨fun b u q _ _ _=>k b u q,fun b u q _ _ _=>⟨u.slots,k b u q⟩,fun b u q n _=>by rw[hx b (Qj q)];exact n,fun b u q _=>⟨u,k b u q⟩,fun b xs q=>old b _ q,fun b u xs q=>old b _ q,fun b ps q=>⟨#[],by rw[old b _ q];simp⟩⟩ fun b o e=>?_
 rcases LF b s.heap.objs.size with z|z
 ·rw[hx b z] at e;exact(I.hok b o e).stay (fun c u _ q=>k c u q) (fun c q=>old c _ q) fun c xs q=>old c _ q
 ·exact new b o z e
noncomputable def Wm(p a:Addr):HO:=.ext fun h=>h.IsItemsView p a
noncomputable def Jks(td:TE):TE:=fun σ H Q=>td σ H fun x H1=>∃a kvs,x=.ref a/\Rd H1 a (.dK kvs)/\∀p,H1 p=none->Q (.ref p) (upd H1 p (Wm p a))
theorem JjB{X:Cx}{d:Expr}{td:TE}{apos pos:Pos}(hd:PE X d td)(hbase:attributeBase d "items" X.env (eval d X.env)=eval d X.env:=by rfl)(hline:(apos.endLine == pos.line)=true:=by rfl)
:PE X (.Call (.Attribute d "items" apos) [] [] pos) (Jks td):=by
 intro pins s σ H Q I h;refine K3 hbase hline (thn (hd pins s σ H _ I h) fun v s1 ⟨x,H1,I1,r1,a,kvs,ex,hH,q⟩=>?_);subst ex;cases r1;obtain⟨t1,t2,_⟩:=ZI I1 (.inl ⟨kvs,hH⟩);obtain⟨vs,ep,r,dd,y,_⟩:=Jbq I1 hH;refine⟨"dict","dict.items",Kx,K8,Rj,t1,t2,G4 rfl (LN ?_)⟩;refine call_meetsIn K8 t1 M7 (MT _) (meets_dict_items (JA X.prog X.w) a y) ⟨⟨vs,dd.dictOf⟩,?_⟩
 have hn:H1 s1.heap.objs.size=none:=I1.hok.fresh (Qm _)
 have vw:(s1.heap.push { cls:=.type "dict_items",data:=.fields #[.ref a] }).IsItemsView s1.heap.objs.size a:=⟨_,Qi _ rfl,rfl,rfl⟩
 refine⟨.ref s1.heap.objs.size,_,I1.laid (t':=s1.toks) (o:=Wm s1.heap.objs.size a) (fun b ob q=>Qf _ q) (Qm _) ⟨vw,⟨_,Qi _ rfl⟩,fun h1 h2 p k=>?_⟩,rfl,q _ hn⟩;obtain⟨o,ho,hc⟩:=p;exact⟨o,k o ho,hc⟩
noncomputable def Vm(H:Hp):List Addr->List (Key×V)->Hp
 | a::as,kv::kvs=>upd (Vm H as kvs) a (.tup [kV kv.1,kv.2])
 | _,_=>H
theorem Ue:∀{as:List Addr} {kvs:List (Key×V)},b∉as->Vm H as kvs b=H b
 | [],_,_=>rfl
 | _::_,[],_=>rfl
 | a::as,kv::kvs,h=>by rw[Vm,Jh fun z=>h (by rw[z];exact Qd)];exact Ue fun m=>h (Qc _ m)
theorem W9:∀{as:List Addr} {kvs:List (Key×V)} {j:Nat} {a:Addr} {kv:Key×V},as.Nodup->as[j]?=some a->kvs[j]?=some kv->Vm H as kvs a=some (.tup [kV kv.1,kv.2])
 | [],_,_,_,_,_,e,_=>by simp at e
 | _::_,[],_,_,_,_,_,e=>by simp at e
 | b::as,kv'::kvs,0,a,kv,_,e1,e2=>by simp at e1 e2;subst e1 e2;rw[Vm,Jk]
 | b::as,kv'::kvs,j+1,a,kv,hn,e1,e2=>by
  rw[QW] at hn;simp at e1 e2;have hne:a≠b:=fun z=>hn.1 (by rw[<- z];exact QG e1)
  rw[Vm,Jh hne];exact W9 hn.2 e1 e2
noncomputable def JjT:List V->Hp->VK->Prop:=fun xs H Q=>∃(r a:Addr) (kvs:List (Key×V)),xs=[.ref r]/\H r=some (Wm r a)/\Rd H a (.dK kvs) ∧
 ∀(L:Addr) (as:List Addr),H L=none->as.length=kvs.length->as.Nodup->L∉as->(∀b∈as,H b=none)->Q (.ref L) (upd (Vm H as kvs) L (.lst (as.map V.ref)))
theorem Jeb(hc:X.calm=true):J3 X (.type "list") JjT:=by
 intro pins s σ H xs us Q I r h;obtain⟨p,a,kvs,rfl,hv,hq,q⟩:=h;obtain⟨u,rfl,rx⟩:=UW r;cases rx;obtain⟨vs,ep,rl,dd,_,hz⟩:=Jbq I hq;have hl:kvs.length=vs.length:=KV.length rl;have vw:s.heap.IsItemsView p a:=(show ObjOk X.prog X.w H s.heap p (Wm p a) from I.hok p _ hv).1;have hh:X.A.handled=none:=I.ok.hd hc;refine PySem.W.kdx_call hh vw dd (by rw[<- hl];exact hz) fun h' tk acc c as hk hS hal hG hacc=>?_
 have hnd:as.Nodup:=hG.rise.imp fun {x y} h=>Qr h
 have hLa:s.heap.objs.size∉as:=fun m=>absurd (hG.above _ m) (Q8 _)
 have fr:∀b∈as,H b=none:=fun b hb=>I.hok.fresh (GX (hG.above b hb))
 have hne:H s.heap.objs.size=none:=I.hok.fresh (Qm _)
 have hsize:as.length<=sizeLine:=by rw[hal,<- hl];exact hz
 refine⟨.ref s.heap.objs.size,_,I.more (t':=tk) hk (fun b hb=>?_) (fun b o hb e=>?_),rfl,q s.heap.objs.size as hne (by rw[hal,hl]) hnd hLa fr⟩
 ·rw[Jh (Qr hb)];exact Ue fun m=>absurd (hG.above b m) (Me.mpr (GX hb))
 ·by_cases hL:b=s.heap.objs.size
  ·subst hL;rw[Jk] at e;cases e;refine⟨by rw[Qk];exact hsize,acc.toList,c,?_,?_⟩
   ·rw[hacc]
    have:∀l:List Addr,Vals (l.map V.ref) (l.map Value.ref):=fun l=>by
     induction l with
     | nil=>exact .nil
     | cons x l ih=>exact .cons rfl ih
    exact this as
   ·rw[hS]
  ·rw[Jh hL] at e
   by_cases hm:b∈as
   ·obtain⟨j,hj⟩:=Kn.mp hm;obtain⟨key,k,x,e1,e2,e3⟩:=hG.pairs j b hj;have hjl:j<kvs.length:=by have:=(Qn.mp e1).1;omega
    have hkv:kvs[j]?=some kvs[j]:=Qw hjl;obtain⟨u,hu,ru⟩:=rl.get hkv;rw[e1] at hu;cases hu;rw[W9 hnd hj hkv] at e;cases e;exact⟨by show 2<=sizeLine;decide,[key,x],.cons (Ji6 e2) (.cons ru .nil),⟨_,e3,rfl,_,rfl⟩⟩
   ·rw[Ue hm,I.hok.fresh hb] at e;cases e
end L2
namespace LE
open PySem L2 LR
noncomputable def Jbs(a:Ev):Ev:=fun E=>(a E).bind fun s=>s.dk.bind fun p=>some (.own (JbI p.1 p.2))
theorem Ja0(h:∀b∈as,H b=none):Same H (Vm H as kvs):=fun b o e=>by rw[Ue fun m=>by rw[h b m] at e;cases e];exact e
theorem Jf2:∀{as:List Addr} {kvs:List (Key×V)} {b:Addr} {o:HO},Vm H as kvs b=some o->H b=some o\/b∈as
 | [],_,_,_,e=>.inl e
 | _::_,[],_,_,e=>.inl e
 | a::as,kv::kvs,b,o,e=>by
  by_cases c:b=a
  ·exact .inr (by rw[c];exact Qd)
  ·rw[Vm,Jh c] at e;exact(Jf2 e).imp id fun m=>Qc _ m
theorem RDL.items:∀{ks:List Int} {xs:List V} {ds:List D} {as:List Addr} {H:Hp},ks.length=ds.length->as.length=ks.length->(∀(j:Nat) (a:Addr) (k:Int) (x:V),as[j]?=some a->ks[j]?=some k->xs[j]?=some x->H a=some (.tup [.int k,x]))->RDL K C H xs ds->RDL K C H (as.map V.ref) (JbI ks ds)
 | [],[],[],[],_,_,_,_,_=>.nil
 | [],_,_,a::as,_,_,h,_,_=>by simp at h
 | [],_,d::ds,_,_,h,_,_,_=>by simp at h
 | k::ks,_,[],_,_,h,_,_,_=>by simp at h
 | k::ks,_,_,[],_,_,h,_,_=>by simp at h
 | [],x::xs,[],[],_,_,_,_,h=>by have:=h.1;simp at this
 | k::ks,[],d::ds,a::as,_,_,_,_,h=>by have:=h.1;simp at this
 | k::ks,x::xs,d::ds,a::as,H,h1,h2,h3,h4=>by show RDL K C H (V.ref a::as.map V.ref) (.tup [.int k,d]::JbI ks ds);refine .cons (.mkT (.of (h3 0 a k x rfl rfl rfl)) (.cons (.int k) (.cons h4.head .nil))) (RDL.items (by simpa using h1) (by simpa using h2) (fun j a k x e1 e2 e3=>h3 (j+1) a k x (by simpa using e1) (by simpa using e2) (by simpa using e3)) h4.tail)
theorem JmF(ha:SE K C td ed):SE K C (tCB JjT (Ur (Jks td) VO)) (Jbs ed):=by
 intro B H0 H σ E r Q I e q;obtain⟨s,e1,e⟩:=bind_some e;obtain⟨p,e2,e⟩:=bind_some e;cases e;refine ha B H0 H σ E s _ I e1 fun x H1 H1' s1 r1=>?_
 obtain⟨l,xs,rfl,h,hk,rl⟩:=r1.dk s1.i e2;refine⟨l,_,rfl,h,fun w hw=>?_⟩;have st:Step H1' H1 H1' H1 (upd H1' w (Wm w l)):=⟨.new hw,Same.refl _,fun _ _ e=>.inl e,s1.i.trans (.new hw)⟩
 have s2:=s1.trans st;refine⟨w,l,_,rfl,Jk,Rd.put h hw,fun L as hL hal hnd hLa hfr=>?_⟩;rw[GD,Qk,rl.1,hk,Lh] at hal
 have fr0:∀b∈as,H1 b=none:=fun b hb=>Same.free s2.i (hfr b hb)
 have frH:∀b∈as,H b=none:=fun b hb=>Same.free s2.h (hfr b hb)
 have hL0:H1 L=none:=Same.free s2.i hL
 have z0:Same H1 (Vm H1 as ((p.1.map Sum.inl:List Key).zip xs)):=Ja0 fr0
 have zz:Same (upd H1' w (Wm w l)) (Vm (upd H1' w (Wm w l)) as ((p.1.map Sum.inl:List Key).zip xs)):=Ja0 hfr
 have hLl:Vm (upd H1' w (Wm w l)) as ((p.1.map Sum.inl:List Key).zip xs) L=none:=by rw[Ue hLa];exact hL
 have ii:Same (Vm H1 as ((p.1.map Sum.inl:List Key).zip xs)) (Vm (upd H1' w (Wm w l)) as ((p.1.map Sum.inl:List Key).zip xs)):=fun b o e=>by
  by_cases hb:b∈as
  ·obtain⟨j,hj⟩:=Kn.mp hb
   have hjl:j<((p.1.map Sum.inl:List Key).zip xs).length:=by rw[GD,Qk,rl.1,hk,Lh];have:=(Qn.mp hj).1;omega
   have hkv:=Qw hjl;rw[W9 hnd hj hkv] at e ⊢;exact e
  ·rw[Ue hb] at e ⊢;exact s2.i b o e
 refine q _ (Vm H1 as ((p.1.map Sum.inl:List Key).zip xs)) _ ⟨(s2.h.trans zz).trans (.new hLl),s2.z.trans z0,fun b o e=>?_,ii.trans (.new hLl)⟩ ⟨L,as.map V.ref,rfl,Jk,by rw[Ue hLa];exact hL0,Same.free s2.h hL,?_⟩
 ·rcases Jf2 e with z|z
  ·exact s2.n b o z
  ·exact .inr (.inl (frH b z))
 ·refine RDL.items (xs:=xs) hk (by rw[hal,hk]) (fun j a k x j1 j2 j3=>?_) (rl.mono z0);exact W9 hnd j1 (by rw[Jas,j2,j3])
end LE
namespace L2
open PySem PySem.Spec PyProof.Rows
theorem ObjOk.there(x:ObjOk P w H h a o):∃u,h.get? a=some u:=by
 cases o with
 | lst xs=>obtain⟨_,_,_,_,e⟩:=x;exact⟨_,e⟩
 | tup xs=>obtain⟨_,_,_,p⟩:=x;obtain⟨o,e,_⟩:=p;exact⟨_,e⟩
 | dK kvs=>obtain⟨_,_,_,_,o,_,_,e,_⟩:=x;exact⟨_,e⟩
 | dT kvs=>obtain⟨_,_,_,_,o,_,_,e,_⟩:=x;exact⟨_,e⟩
 | set S n=>obtain⟨o,_,_,_,e,_⟩:=x;exact⟨_,e⟩
 | ins C dx fs=>obtain⟨_,_,_,e,_⟩:=x;exact⟨_,e⟩
 | own y=>obtain⟨_,e⟩:=x;exact⟨_,e⟩
 | xd fs=>obtain⟨_,⟨_,_,_,e,_⟩,_⟩:=x;exact⟨_,e⟩
 | rng lo hi=>obtain⟨_,_,_,e⟩:=x;exact⟨_,e⟩
 | frz ob u=>obtain⟨e,_⟩:=x;exact⟨_,e⟩
 | tbl ps=>exact⟨_,(show h.get? a=some _ from x)⟩
 | met f y=>exact⟨_,(show h.get? a=some _ from x)⟩
 | ext φ=>obtain⟨_,⟨_,e⟩,_⟩:=x;exact⟨_,e⟩
noncomputable def TrD(h base:Heap)(e:Addr)(cls:Value)(dct:Option Addr)(fl:Value):Prop :=
 ∃oe vs T oT ts,h.get? e=some oe/\(oe.cls=cls/\oe.dict=dct)/\oe.data=.fields vs/\vs[1]?=some (.ref T)/\base.get? T=none/\T≠e/\h.get? T=some oT/\oT.data=.fields ts/\ts[3]?=some fl
noncomputable def Fl(base:Heap)(l:List Env)(e:Addr)(cls:Value)(h:Heap):Prop :=
 base.StaysIn h/\base.get? e=none/\h.FunFrames base l/\(TrD h base e cls none .none\/∃oe vs,h.get? e=some oe/\(oe.cls=cls/\oe.dict=none)/\oe.data=.fields vs/\vs[1]?=some .none)
noncomputable def Cov(fs:List Addr)(H':Hp)(h h' base:Heap):Prop:=∀b o,(H' b≠none\/∃u,h.get? b=some u)->b∉fs->h'.get? b=some o->base.get? b=some o
structure XF (P:Program) (w:World) (l:List Env) (H:Hp) (h:Heap) (a:Addr) (cls:Value) (H':Hp) (base h':Heap):Prop where
 un:Un (frs l) [] H H' h h'
 hok:HOk P w H' h'
 fl:Fl base l a cls h'
 cov:Cov (frs l) H' h h' base
 free:H' a=none
 new:h.get? a=none
noncomputable def CX1(P:Program)(w:World):CXT:=fun l H s E e s'=>∃(a:Addr) (cls:Value) (H':Hp) (base:Heap),e=.ref a/\s'.os=s.os/\AllBare s'.gens/\XF P w l H s.heap a cls H' base s'.heap/\E cls (some a) H'
noncomputable def XP(X:Cx)(pins:List (Addr×Obj))(σ:St)(E:XK)(e:Value)(s':Shared):Prop:=∃H s,Inv X pins σ H s/\CX1 X.prog X.w X.stack H s E e s'
end L2
namespace L2
open PySem PySem.Spec PyProof.Rows PySem.Calls
abbrev VEm:List Value:=[.type "ValueError",.type "Exception",.type "BaseException",.type "object"]
end L2
namespace L2
open PySem PySem.Spec PyProof.Rows PySem.Calls LE
structure ExcN (K:Frag) (n:Str):Prop where
 ex:∃c,nsIn K mainGlobals n=some (some (.ref c))/\PySem.W.excIn K c VEm "ValueError.__new__"=true
 pl:∀c,nsIn K mainGlobals n=some (some (.ref c))->findIn K (.ref c) "__getattribute__"=some (some (.builtin "BaseException.__getattribute__"))/\findIn K (.ref c) "__getattr__"=some none/\mroIn K c (.type "BaseException")=some true/\hasDictIn K c=true/\findIn K (.ref c) "__class__"=some (some (.builtin "object.__class__"))/\mroIn K c (.type "object")=some true
structure ExcG (K:Frag):Prop where
 hn:R7 K (.builtin "object.__class__") "__get__"=some (some (.builtin "getset_descriptor.__get__"))
 htk:PySem.W.takesIn K (.builtin "object.__class__")=some true
end L2
namespace LE
open PySem L2 LR
section
variable(K:Frag)(C:Addr)
end
noncomputable def exB(n m:Str):Bool:=n == m || m == "LumpError"
structure IsiN (K:Frag) (R:List Str) (m:Str) (c:Addr):Prop where
 own:∀n∈R,ExcN K n
 g:ExcG K
 k:∀n∈R,∀c',nsIn K mainGlobals n=some (some (.ref c'))->kitOne K (.ref c') (.ref c)=some (exB n m)
 o:kitOne K (.type "NoneType") (.ref c)=some false
end LE
namespace L2
open PySem PySem.Spec PyProof.Rows PySem.Calls LE
end L2
namespace LE
open PySem L2 LR
noncomputable def IsiL(K:Frag)(R:List Str):List Str->List Addr->Prop
 | [],[]=>True
 | m::ms,c::cs=>IsiN K R m c/\IsiL K R ms cs
 | _,_=>False
theorem IsiL.exc(hn:n∈R)(hc:nsIn K mainGlobals n=some (some (.ref c'))):∀{ms:List Str} {cs:List Addr},IsiL K R ms cs->kitAny K (.ref c') (cs.map Value.ref)=some (ms.any (exB n))
 | [],[],_=>rfl
 | m::ms,c::cs,⟨h,t⟩=>by show(match kitOne K (.ref c') (.ref c) with|some true=>some true|some false=>kitAny K (.ref c') (cs.map Value.ref)|none=>none)=_;rw[h.k n hn c' hc,t.exc hn hc,Kb];cases exB n m <;> rfl
theorem IsiL.non:∀{ms:List Str} {cs:List Addr},IsiL K R ms cs->kitAny K (.type "NoneType") (cs.map Value.ref)=some false
 | [],[],_=>rfl
 | m::ms,c::cs,⟨h,t⟩=>by show(match kitOne K (.type "NoneType") (.ref c) with | some true=>some true | some false=>kitAny K (.type "NoneType") (cs.map Value.ref) | none=>none)=_;rw[h.o,t.non]
end LE
namespace L2
open PySem PySem.Spec PyProof.Rows PySem.Calls LE
end L2
namespace LE
open PySem L2 LR
structure AtX (K:Frag) (n:Str) (c:Addr):Prop where
 ns:nsIn K mainGlobals n=some (some (.ref c))
 ok:PySem.W.excIn K c VEm "ValueError.__new__"=true
 ga:findIn K (.ref c) "__getattribute__"=some (some (.builtin "BaseException.__getattribute__"))
 gn:findIn K (.ref c) "__getattr__"=some none
 mb:mroIn K c (.type "BaseException")=some true
 hd:hasDictIn K c=true
 fi:findIn K (.ref c) "__class__"=some (some (.builtin "object.__class__"))
 mr:mroIn K c (.type "object")=some true
theorem AtX.n{n:Str}{c:Addr}(h:AtX K n c):ExcN K n:=⟨⟨c,h.ns,h.ok⟩,fun c' e=>by have:=h.ns.symm.trans e;cases this;exact⟨h.ga,h.gn,h.mb,h.hd,h.fi,h.mr⟩⟩
section
variable(K:Frag)(C:Addr)
end
end LE
namespace L2
open PySem PySem.Spec PyProof.Rows PySem.Calls LE
structure RoomH (k:Nat) (A:Around):Prop where
 dp:A.depth+3*k+5<recursionLimit
 un:A.units+16*k+200<cLine
theorem Room.h(r:Room k A):RoomH k A:=⟨r.dp,r.un⟩
end L2
namespace LE
open PySem L2 LR
section
variable(K:Frag)(C:Addr)
end
end LE
namespace L2
open PySem PySem.Spec PyProof.Rows PySem.Calls
end L2
namespace LE
open PySem L2 LR
noncomputable def lst?:Sl->Option (List D)
 | .bo ds=>some ds
 | .own ds=>some ds
 | .sh (.lst ds)=>some ds
 | _=>none
theorem RR.lst(i:Same H0 H)(r:RR K C Hs H0 H v s)(e:lst? s=some ds):∃l xs,v=.ref l/\H l=some (.lst xs)/\RDL K C H0 xs ds:=by
 cases s with
 | bo es=>cases e;exact r
 | own es=>cases e;obtain⟨l,xs,e,h,_,_,q⟩:=r;exact⟨l,xs,e,h,q⟩
 | sh d =>
  cases d with
  | lst es=>cases e;obtain⟨l,xs,e,h,q⟩:=RD.lstI r;exact⟨l,xs,e,i _ _ h,q⟩
  | _=>cases e
 | _=>cases e
theorem RDL.rev(r:RDL K C H xs ds):RDL K C H xs.reverse ds.reverse:=by
 have key:∀{xs:List V} {ds:List D},RDL K C H xs ds->RDL K C H xs.reverse ds.reverse:=by
  intro xs
  induction xs with
  | nil =>
   intro ds r
   cases ds with
   | nil=>exact .nil
   | cons d ds=>have:=r.1;simp at this
  | cons x xs ih =>
   intro ds r
   cases ds with
   | nil=>have:=r.1;simp at this
   | cons d ds=>rw[KQ,KQ];exact(ih r.tail).snoc r.head
 exact key r
end LE
namespace PySem
abbrev Vr(h:Heap)(z TI TO a:Addr)(f:Bool):Prop :=
 h.get? z=some { cls:=.type "zip",dict:=none,data:=.fields #[rawInt a,.bool f,.bool false,.ref TI,.ref TO],slots:=#[] }
theorem Jd2(gz:Vr s.heap z TI TO a f)(ha:s.heap.get? a=some oa)(h:∀h',Vr h' z TI TO a true->QA z s.heap h'->Q false { s with heap:=h' }):wpAny (model prog w) A (QR (.ref z)) Q E s:=by
 unfold QR;refine Qa (QX gz rfl (x:=rawInt a) rfl ?_);show wpAny _ _ (loadIfAlive (Int.toNat (a:Int)) >>= _) _ _ _;rw[GZ];refine Qa (PySem.W.kdx_alive ha ?_);show wpAny _ _ (field (.ref z) 1 >>= _) _ _ _;refine Qa (QX gz rfl (x:=.bool f) rfl ?_)
 cases f with
 | true=>exact Qe (h _ gz (Xc _ _))
 | false=>exact Qa (Gb gz (by simp) fun h' y e=>Qe (h h' y e))
theorem JhY{Q:Value->Shared->Prop}(D:ZA z TI TO i1 i2 p1 p2)(D1:Draws prog w A i1 p1 n1 P1 S1)(D2:Draws prog w A i2 p2 n2 P2 S2)(gz:Vr s.heap z TI TO a f)(ha:s.heap.get? a=some oa)(gI:IsPair s.heap TI (.ref i1) (.ref i2))
 (st1:S1 k s.heap) (st2:S2 k s.heap) (l1:k<n1) (l2:k<n2)
 (hQ:∀x y h' tk,P1 k x->P2 k y->Vr h' z TI TO a true->S1 (k+1) h'->S2 (k+1) h'->IsPair h' s.heap.objs.size x y->h'.objs.size=s.heap.objs.size+1 ->
  (∀c o,c≠z->c≠i1->c≠i2->s.heap.get? c=some o->h'.get? c=some o)->Q (.ref s.heap.objs.size) { s with heap:=h',toks:=tk }) :
 wpAny (model prog w) A (Builtin.«zip.__next__» ⟨[.ref z],[]⟩) (fun fin s'=>∃v,fin=.done (.ret v)/\Q v s') E s:=by
 obtain⟨hp,g,d,t0,os⟩:=s;have zi1:i1≠z:=fun q=>D.z1 (q▸D.m1)
 have zi2:i2≠z:=fun q=>D.z2 (q▸D.m2)
 show wpAny _ _ (field (.ref z) 2 >>= _) _ _ _;refine Qa (QX gz rfl (x:=.bool false) rfl (show wpAny _ _ (field (.ref z) 3 >>= _) _ _ _ from Qa (QX gz rfl (x:=.ref TI) rfl (Qa (Gx gI rfl ?_)))))
 show wpAny _ _ (QR (.ref z) >>= _) _ _ _;refine Qa (Jd2 gz ha fun k1 y1 e1=>?_)
 replace e1:QA z hp k1:=e1;simp only[GG,if_false];refine Qa ?_;simp only[<- Array.forIn_toList,Ms,MK];refine Qa (Qa (Gn (show wpAny _ _ (Q4 (.ref i1) >>= _) _ _ _ from Qa (D1.item k _ _ _ l1 (D1.frame _ _ _ st1 fun b hb o q=>e1.extBut b o (fun r=>D.z1 (r▸hb)) q) fun x k2 t2 px s2 e2=>Qe ?_))))
 replace e2:QA i1 k1 k2:=e2;refine Qe ?_;have st2':S2 k k2:=D2.frame _ _ _ st2 fun b hb o q=>e2.extBut b o (fun r=>D.x1 (r▸hb)) (e1.extBut b o (fun r=>D.z2 (r▸hb)) q)
 refine Qa (Qa (Gn (show wpAny _ _ (Q4 (.ref i2) >>= _) _ _ _ from Qa (D2.item k _ _ _ l2 st2' fun y k4 t4 py s4 e4=>Qe ?_))))
 replace e4:QA i2 k2 k4:=e4;refine Qe (Qe (Qa (L6 (hsz:=show 2<=sizeLine by decide) (Qe ⟨_,rfl,?_⟩))));have hsz:k4.objs.size=hp.objs.size:=by rw[e4.1,e2.1,e1.1]
 have Z4:Vr k4 z TI TO a true:=e4.extBut _ _ (QP zi2) (e2.extBut _ _ (QP zi1) y1)
 show Q (.ref k4.objs.size) _;rw[hsz];refine hQ x y _ t4 px py (Qf _ Z4) ?_ ?_ ?_ (by rw[Gg,hsz]) fun c o c1 c2 c3 q=>Qf _ (e4.extBut _ _ c3 (e2.extBut _ _ c2 (e1.extBut _ _ c1 q)))
 ·exact D1.frame _ _ _ s2 fun b hb o q=>Qf _ (e4.extBut b o (fun r=>D.x2 (r▸hb)) q)
 ·exact D2.frame _ _ _ s4 fun b hb o q=>Qf _ q
 ·show(k4.push _).get? hp.objs.size=_;rw[<- hsz];exact Qi _ rfl
theorem JkO(D:ZA z TI TO i1 i2 p1 p2)(D1:Draws prog w A i1 p1 n1 P1 S1)(D2:Draws prog w A i2 p2 n2 P2 S2)(gz:Vr s.heap z TI TO a f)(ha:s.heap.get? a=some oa)(gI:IsPair s.heap TI (.ref i1) (.ref i2))(st1:S1 k s.heap)(st2:S2 k s.heap)(hend:k=n1\/(k<n1/\k=n2))(hE:∀h' e tk,(∀c o,c≠z->c≠i1->c≠i2->s.heap.get? c=some o->h'.get? c=some o)->(∃o,h'.get? e=some o/\o.cls=.type "StopIteration")->E (.ref e) { s with heap:=h',toks:=tk }):
 wpAny (model prog w) A (Builtin.«zip.__next__» ⟨[.ref z],[]⟩) Q E s:=by
 obtain⟨hp,g,d,t0,os⟩:=s;show wpAny _ _ (field (.ref z) 2 >>= _) _ _ _;refine Qa (QX gz rfl (x:=.bool false) rfl (show wpAny _ _ (field (.ref z) 3 >>= _) _ _ _ from Qa (QX gz rfl (x:=.ref TI) rfl (Qa (Gx gI rfl ?_)))));show wpAny _ _ (QR (.ref z) >>= _) _ _ _;refine Qa (Jd2 gz ha fun k1 y1 e1=>?_)
 replace e1:QA z hp k1:=e1;simp only[GG,if_false];refine Qa ?_;simp only[<- Array.forIn_toList,Ms,MK];have q1:S1 k k1:=D1.frame _ _ _ st1 fun b hb o q=>e1.extBut b o (fun r=>D.z1 (r▸hb)) q
 rcases hend with rfl|⟨l1,rfl⟩
 ·refine Qa (Qa (Gn (show wpAny _ _ (Q4 (.ref i1) >>= _) _ _ _ from Qa (D1.done _ _ _ q1 fun k2 e e2 he=>?_))))
  replace e2:KF i1 k1 k2:=e2;exact hE k2 e t0 (fun c o c1 c2 _ q=>e2 _ _ c2 (e1.extBut _ _ c1 q)) he
 ·refine Qa (Qa (Gn (show wpAny _ _ (Q4 (.ref i1) >>= _) _ _ _ from Qa (D1.item k _ _ _ l1 q1 fun x k2 t2 px s2 e2=>Qe ?_))))
  replace e2:QA i1 k1 k2:=e2;refine Qe ?_;have st2':S2 k k2:=D2.frame _ _ _ st2 fun b hb o q=>e2.extBut b o (fun r=>D.x1 (r▸hb)) (e1.extBut b o (fun r=>D.z2 (r▸hb)) q)
  refine Qa (Qa (Gn (show wpAny _ _ (Q4 (.ref i2) >>= _) _ _ _ from Qa (D2.done _ _ _ st2' fun k4 e e4 he=>?_))))
  replace e4:KF i2 k2 k4:=e4;exact hE k4 e t2 (fun c o c1 c2 c3 q=>e4 _ _ c3 (e2.extBut _ _ c2 (e1.extBut _ _ c1 q))) he
def LzSt(b1 b2:Bool)(a1 a2 z TI TO i1 i2 S:Addr)(xs ys:Array Value)(i:Nat)(h:Heap):Prop :=
 IsPair h TI (.ref i1) (.ref i2)/\(IsItr b1 h i1 a1 i/\IsSq b1 h a1 xs)/\(IsItr b2 h i2 a2 i/\IsSq b2 h a2 ys) ∧
 ((IsZip h z TI TO .none/\∃u v,IsPair h TO u v)\/∃a f oa,Vr h z TI TO a f/\h.get? a=some oa/\a≠S/\a≠z/\a≠i1/\a≠i2)
theorem IsSq.keep{b:Bool}{h h':Heap}{a:Addr}{xs:Array Value}(q:IsSq b h a xs)(k:∀o,h.get? a=some o->h'.get? a=some o):IsSq b h' a xs:=by
 cases b with
 | true=>obtain⟨o,e,r⟩:=q;exact⟨o,k o e,r⟩
 | false=>obtain⟨o,e,r⟩:=q;exact⟨o,k o e,r⟩
theorem IsItr.keep'(q:IsItr b h j a i)(k:∀o,h.get? j=some o->h'.get? j=some o):IsItr b h' j a i:=by
 cases b with
 | true=>obtain⟨o,e,r⟩:=q;exact⟨o,k o e,r⟩
 | false=>obtain⟨o,e,r⟩:=q;exact⟨o,k o e,r⟩
theorem LzSt.keep{h h':Heap}(x:LzSt b1 b2 a1 a2 z TI TO i1 i2 S xs ys i h)(k:∀b o,b≠S->h.get? b=some o->h'.get? b=some o)(n:S∉[z,TI,TO,i1,i2,a1,a2]):LzSt b1 b2 a1 a2 z TI TO i1 i2 S xs ys i h':=by
 simp only[Qh,Q1,or_false,not_or] at n;obtain⟨n1,n2,n3,n4,n5,n6,n7⟩:=n;obtain⟨x1,x2,x3,x4⟩:=x;refine⟨k _ _ (QP n2) x1,⟨IsItr.keep' x2.1 fun o e=>k _ o (QP n4) e,IsSq.keep x2.2 fun o e=>k _ o (QP n6) e⟩,⟨IsItr.keep' x3.1 fun o e=>k _ o (QP n5) e,IsSq.keep x3.2 fun o e=>k _ o (QP n7) e⟩,?_⟩;rcases x4 with ⟨y1,u,v,y2⟩|⟨a,f,oa,y1,y2,y3⟩
 ·exact .inl ⟨k _ _ (QP n1) y1,u,v,k _ _ (QP n3) y2⟩
 ·exact .inr ⟨a,f,oa,k _ _ (QP n1) y1,k _ _ y3.1 y2,y3⟩
theorem JlJ{Q:Option Value->Shared->Prop}(hh:A.handled=none)(Z:ZA z TI TO i1 i2 [i1,a1] [i2,a2])(st:LzSt b1 b2 a1 a2 z TI TO i1 i2 S xs ys i s.heap)(hS:S<s.heap.objs.size)(l1:i<xs.size)(l2:i<ys.size)
 (hQ:∀u v h' tk,xs[i]?=some u->ys[i]?=some v->LzSt b1 b2 a1 a2 z TI TO i1 i2 S xs ys (i+1) h'->IsPair h' s.heap.objs.size u v->h'.objs.size=s.heap.objs.size+1 ->
  (∀c o,c≠z->c≠TO->c≠i1->c≠i2->s.heap.get? c=some o->h'.get? c=some o)->Q (some (.ref s.heap.objs.size)) { s with heap:=h',toks:=tk }) :
 wpAny (model prog w) A (pyNext (.ref z)) Q E s:=by
 obtain⟨x1,x2,x3,x4⟩:=st
 have ne1:a1≠i1:=fun q=>by
  have:=Z.x1;subst q;rcases x2 with ⟨e1,e2⟩
  cases b1 with
  | true=>obtain⟨o,h1,h2,_⟩:=e1;obtain⟨o',h3,h4,_⟩:=e2;rw[h1] at h3;cases h3;rw[h2] at h4;exact absurd h4 (by decide)
  | false=>obtain⟨o,h1,h2,_⟩:=e1;obtain⟨o',h3,h4,_⟩:=e2;rw[h1] at h3;cases h3;rw[h2] at h4;exact absurd h4 (by decide)
 have ne2:a2≠i2:=fun q=>by
  subst q;rcases x3 with ⟨e1,e2⟩
  cases b2 with
  | true=>obtain⟨o,h1,h2,_⟩:=e1;obtain⟨o',h3,h4,_⟩:=e2;rw[h1] at h3;cases h3;rw[h2] at h4;exact absurd h4 (by decide)
  | false=>obtain⟨o,h1,h2,_⟩:=e1;obtain⟨o',h3,h4,_⟩:=e2;rw[h1] at h3;cases h3;rw[h2] at h4;exact absurd h4 (by decide)
 have hh1:A.in1.handled=none:=hh
 have D1:=Draws.sq (prog:=prog) (w:=w) (b:=b1) (xs:=xs) hh1 i1 ne1
 have D2:=Draws.sq (prog:=prog) (w:=w) (b:=b2) (xs:=ys) hh1 i2 ne2
 have Tt:∀o,s.heap.get? z=some o->o.cls=.type "zip"->s.TypeIs (.ref z) "zip":=fun o e c=>⟨o,e,c⟩
 have i1lt:i1<s.heap.objs.size:=by
  cases b1 with
  | true=>obtain⟨o,h1,_⟩:=x2.1;exact Qj h1
  | false=>obtain⟨o,h1,_⟩:=x2.1;exact Qj h1
 have i2lt:i2<s.heap.objs.size:=by
  cases b2 with
  | true=>obtain⟨o,h1,_⟩:=x3.1;exact Qj h1
  | false=>obtain⟨o,h1,_⟩:=x3.1;exact Qj h1
 rcases x4 with ⟨y1,u0,v0,y2⟩|⟨a,f,oa,y1,y2,y3,y4,y5,y6⟩
 ·have hT:=Tt _ y1 rfl;unfold pyNext;refine Qa (GR (QI (name:=Gj "__next__") hT GN (QO GN hT K5 (Jbd Z D1 D2 y1 x1 y2 x2 x3 l1 l2 fun u v k tk pu pv t1 t2 t3 t4 t5 t6 t7 t8=>Qe ?_) (KP _))));exact hQ u v k tk pu pv ⟨t2,t4,t5,.inr ⟨_,false,_,t1,t6,QY hS,QY (Qj y1),QY i1lt,QY i2lt⟩⟩ t6 t7 t8
 ·have hT:=Tt _ y1 rfl;unfold pyNext;refine Qa (GR (QI (name:=Gj "__next__") hT GN (QO GN hT K5 (JhY Z D1 D2 y1 y2 x1 x2 x3 l1 l2 fun u v k tk pu pv t1 t4 t5 t6 t7 t8=>Qe ?_) (KP _))))
  have ti1:TI≠i1:=fun q=>Z.t1 (by rw[q];simp)
  have ti2:TI≠i2:=fun q=>Z.t2 (by rw[q];simp)
  exact hQ u v k tk pu pv ⟨t8 _ _ Z.a1 ti1 ti2 x1,t4,t5,.inr ⟨a,true,oa,t1,t8 _ _ y4 y5 y6 y2,y3,y4,y5,y6⟩⟩ t6 t7 fun c o c1 _ c3 c4 q=>t8 c o c1 c3 c4 q
theorem JlG{Q:Option Value->Shared->Prop}(hh:A.handled=none)(Z:ZA z TI TO i1 i2 [i1,a1] [i2,a2])(st:LzSt b1 b2 a1 a2 z TI TO i1 i2 S xs ys i s.heap)(hend:i=xs.size\/(i<xs.size/\i=ys.size))
 (hQ:∀h' tk,(∀c o,c≠z->c≠TO->c≠i1->c≠i2->s.heap.get? c=some o->h'.get? c=some o)->Q none { s with heap:=h',toks:=tk }) :
 wpAny (model prog w) A (pyNext (.ref z)) Q E s:=by
 obtain⟨x1,x2,x3,x4⟩:=st
 have ne1:a1≠i1:=fun q=>by
  subst q;rcases x2 with ⟨e1,e2⟩
  cases b1 with
  | true=>obtain⟨o,h1,h2,_⟩:=e1;obtain⟨o',h3,h4,_⟩:=e2;rw[h1] at h3;cases h3;rw[h2] at h4;exact absurd h4 (by decide)
  | false=>obtain⟨o,h1,h2,_⟩:=e1;obtain⟨o',h3,h4,_⟩:=e2;rw[h1] at h3;cases h3;rw[h2] at h4;exact absurd h4 (by decide)
 have ne2:a2≠i2:=fun q=>by
  subst q;rcases x3 with ⟨e1,e2⟩
  cases b2 with
  | true=>obtain⟨o,h1,h2,_⟩:=e1;obtain⟨o',h3,h4,_⟩:=e2;rw[h1] at h3;cases h3;rw[h2] at h4;exact absurd h4 (by decide)
  | false=>obtain⟨o,h1,h2,_⟩:=e1;obtain⟨o',h3,h4,_⟩:=e2;rw[h1] at h3;cases h3;rw[h2] at h4;exact absurd h4 (by decide)
 have hh1:A.in1.handled=none:=hh
 have D1:=Draws.sq (prog:=prog) (w:=w) (b:=b1) (xs:=xs) hh1 i1 ne1
 have D2:=Draws.sq (prog:=prog) (w:=w) (b:=b2) (xs:=ys) hh1 i2 ne2;rcases x4 with ⟨y1,u0,v0,y2⟩|⟨a,f,oa,y1,y2,y3,y4,y5,y6⟩
 ·have hT:s.TypeIs (.ref z) "zip":=⟨_,y1,rfl⟩
  unfold pyNext;refine Qa (GR (QI (name:=Gj "__next__") hT GN (QO GN hT K5 (Jd1 Z D1 D2 y1 x1 y2 x2 x3 hend fun k e tk kk he=>?_) (KP _))));obtain⟨o,ho,hoc⟩:=he;exact Qa (G5 (T:="StopIteration") (b:=true) ⟨o,ho,hoc⟩ K6 (Qe (hQ k tk kk)))
 ·have hT:s.TypeIs (.ref z) "zip":=⟨_,y1,rfl⟩
  unfold pyNext;refine Qa (GR (QI (name:=Gj "__next__") hT GN (QO GN hT K5 (JkO Z D1 D2 y1 y2 x1 x2 x3 hend fun k e tk kk he=>?_) (KP _))));obtain⟨o,ho,hoc⟩:=he;exact Qa (G5 (T:="StopIteration") (b:=true) ⟨o,ho,hoc⟩ K6 (Qe (hQ k tk fun c o c1 _ c3 c4 q=>kk c o c1 c3 c4 q)))
structure LzG (xs ys:Array Value) (lo:Addr) (h:Heap) (as:List Addr):Prop where
 rise:as.Pairwise (·<·)
 above:∀a∈as,lo<a
 pairs:∀(j:Nat) (a:Addr),as[j]?=some a->∃u v,xs[j]?=some u/\ys[j]?=some v/\IsPair h a u v
theorem LzG.there(g:LzG xs ys lo h as)(ha:a∈as):a<h.objs.size:=by obtain⟨j,hj⟩:=Kn.mp ha;obtain⟨_,_,_,_,e⟩:=g.pairs j a hj;exact Qj e
section
variable{prog:Program}{w:World}{A:Around}{s:Shared}{R:Result->Shared->Prop}{b1 b2:Bool}{a1 a2 z TI TO i1 i2 S:Addr}{xs ys:Array Value}
theorem JlL(hh:A.handled=none)(Z:ZA z TI TO i1 i2 [i1,a1] [i2,a2])(nS:S∉[z,TI,TO,i1,i2,a1,a2])(hlo:∀b∈[z,TI,TO,i1,i2],b<S)(n:Nat)(hn:n=min xs.size ys.size)(hz:n<=sizeLine)(res:Value){h₁:Heap}
 (hR:∀h' tk acc c as,(∀b o,b≠S->b≠z->b≠TO->b≠i1->b≠i2->h₁.get? b=some o->h'.get? b=some o)->h'.get? S=some { cls:=.type "list",dict:=none,data:=.seq acc c,slots:=#[] }->as.length=n->LzG xs ys S h' as ->
  acc.toList=as.map Value.ref->R (.ok (.ret res)) { s with heap:=h',toks:=tk }) :
 ∀(k i:Nat) (h:Heap) (tk c:Nat) (acc:Array Value) (as:List Addr),n-i=k->i<=n->LzSt b1 b2 a1 a2 z TI TO i1 i2 S xs ys i h->(∀b o,b≠S->b≠z->b≠TO->b≠i1->b≠i2->h₁.get? b=some o->h.get? b=some o) ->
  h.get? S=some { cls:=.type "list",dict:=none,data:=.seq acc c,slots:=#[] }->acc.toList=as.map Value.ref->as.length=i->LzG xs ys S h as ->
  codeAny (model prog w) A (.builtin "list.extend.loop" ⟨[.ref S,.ref z,res],[]⟩) R { s with heap:=h,toks:=tk }:=by
 have Sz:S≠z:=QY (hlo z (by simp))
 have ST:S≠TO:=QY (hlo TO (by simp))
 have S1:S≠i1:=QY (hlo i1 (by simp))
 have S2:S≠i2:=QY (hlo i2 (by simp))
 have off:∀{b:Addr},S<b->b≠z/\b≠TO/\b≠i1/\b≠i2:=fun {b} h=>⟨QY (GY (hlo z (by simp)) h),QY (GY (hlo TO (by simp)) h),QY (GY (hlo i1 (by simp)) h),QY (GY (hlo i2 (by simp)) h)⟩
 intro k
 induction k with
 | zero =>
  intro i h tk c acc as hk hi hst hkeep hS hacc hal hG;have hin:i=n:=by omega
  refine GO MU ?_;rw[Gu Go _];show wpAny _ A.in1 (pyNext (.ref z) >>= _) _ _ _;refine Qa (JlG (s:={ s with heap:=h,toks:=tk }) (A:=A.in1) hh Z hst (by omega) fun h' tk' he=>?_);refine Qe (hR h' tk' acc c as (fun b o h1 h2 h3 h4 h5 e=>he b o h2 h3 h4 h5 (hkeep b o h1 h2 h3 h4 h5 e)) (he S _ Sz ST S1 S2 hS) (by omega) ⟨hG.rise,hG.above,fun j a hj=>?_⟩ hacc);obtain⟨u,v,e1,e2,e3⟩:=hG.pairs j a hj
  obtain⟨o1,o2,o3,o4⟩:=off (hG.above a (QG hj));exact⟨u,v,e1,e2,he a _ o1 o2 o3 o4 e3⟩
 | succ k ih =>
  intro i h tk c acc as hk hi hst hkeep hS hacc hal hG;have hlt:i<n:=by omega
  have hsz:acc.size=i:=by rw[<- QB,hacc,Qk,hal]
  have hSl:S<h.objs.size:=Qj hS;refine GO MU ?_;rw[Gu Go _]
  show wpAny _ A.in1 (pyNext (.ref z) >>= _) _ _ _;refine Qa (JlJ (s:={ s with heap:=h,toks:=tk }) (A:=A.in1) hh Z hst hSl (by omega) (by omega) fun u v h' tk' pu pv hst' ht hz' hkp=>?_);dsimp only at ht hz' hkp ⊢
  have hS':=hkp S _ Sz ST S1 S2 hS
  have up:∀b o,b≠S->h'.get? b=some o->(h'.update S (G7 (·.push (Value.ref h.objs.size)))).get? b=some o:=fun b o hb e=>(QM _ _ (QP hb)).trans e
  show wpAny _ A.in1 (updateSeq S (·.push (Value.ref h.objs.size)) >>= _) _ _ _;refine Qa ?_;refine GP hS' rfl (Qe ⟨GL Go _,ih (i+1) _ tk' _ (acc.push (Value.ref h.objs.size)) (as++[h.objs.size]) (by omega) hlt (hst'.keep up nS)
   (fun b o h1 h2 h3 h4 h5 e=>up b o h1 (hkp b o h2 h3 h4 h5 (hkeep b o h1 h2 h3 h4 h5 e))) (QT _ hS' rfl) (by rw[MY,hacc,QL];rfl) (by rw[Qx,hal];rfl) ⟨?_,?_,?_⟩⟩) (by rw[hsz];omega) (by show(acc.push (Value.ref h.objs.size)).size<=sizeLine+1;rw[Array.size_push,hsz];omega)
  ·refine Kf.mpr ⟨hG.rise,L0 _ _,fun a ha b hb=>?_⟩;rw[QJ.mp hb];exact hG.there ha
  ·intro a ha;rcases Gd.mp ha with ha|ha
   ·exact hG.above a ha
   ·rw[QJ.mp ha];exact hSl
  ·intro j b hj;rcases Ly j as.length with h1|h1|h1
   ·rw[Q0 h1] at hj;obtain⟨u',v',e1,e2,e3⟩:=hG.pairs j b hj;have hb:=hG.above b (QG hj);obtain⟨o1,o2,o3,o4⟩:=off hb;exact⟨u',v',e1,e2,up b _ (QY hb) (hkp b _ o1 o2 o3 o4 e3)⟩
   ·subst h1;have hb:h.objs.size=b:=by simpa using hj
    subst hb;exact⟨u,v,by rw[hal];exact pu,by rw[hal];exact pv,up _ _ (QY hSl) ht⟩
   ·have hnone:(as++[h.objs.size])[j]?=none:=GC (by rw[Qx,GA];omega);rw[hnone] at hj;cases hj
end
end PySem
namespace PySem
open PySem.Calls PyProof.Rows PyProof.V PySem.Spec
theorem JoK:typeLookup (.type "zip") "__len__"=pure none:=by rw[typeLookup_type,builtinLookup_eq_fast];kernel_rfl
theorem JlK:typeLookup (.type "zip") "__length_hint__"=pure none:=by rw[typeLookup_type,builtinLookup_eq_fast];kernel_rfl
theorem JlH(hT:s.TypeIs (.ref z) "zip")(h:Q true s):wpAny (model prog w) A (G1 (.ref z)) Q E s:=by unfold G1;refine Qa (Kk hT JoK ?_);refine GQ (fun hab=>absurd hab (by decide)) (fun _=>?_);refine GQ (fun hab=>absurd hab (by decide)) (fun _=>?_);refine Qa (Kk hT JlK ?_);exact Qe h
theorem Jht(hh:A.handled=none)(S:Addr)(Z:ZA z TI TO i1 i2 [i1,a1] [i2,a2])(nS:S∉[z,TI,TO,i1,i2,a1,a2])(hlo:∀b∈[z,TI,TO,i1,i2],b<S)(n:Nat)(hn:n=min xs.size ys.size)(hz:n<=sizeLine)(hzip:IsZip s.heap z TI TO .none)(st:LzSt b1 b2 a1 a2 z TI TO i1 i2 S xs ys 0 s.heap)(res:Value)(c₀:Nat)(hS:s.heap.get? S=some { cls:=.type "list",data:=.seq #[] c₀ })(hR:∀h' tk acc c as,(∀b o,b≠S->b≠z->b≠TO->b≠i1->b≠i2->s.heap.get? b=some o->h'.get? b=some o)->h'.get? S=some { cls:=.type "list",dict:=none,data:=.seq acc c,slots:=#[] }->as.length=n->LzG xs ys S h' as ->
  acc.toList=as.map Value.ref->R (.ok (.ret res)) { s with heap:=h',toks:=tk }):
 wpAny (model prog w) A.in1 (Q7 (.ref S) (.ref z) res)
  (fun fin s'=>match fin with|.done f=>R (.ok f) s'|.again c'=>c'.quiet=true/\codeAny (model prog w) A c' R s') (fun e s'=>R (.error e) s') s:=by
 have key:∀(h:Heap) (c₁ tk:Nat),(∀b o,b≠S->s.heap.get? b=some o->h.get? b=some o) ->
  h.get? S=some { cls:=.type "list",data:=.seq #[] c₁ }->codeAny (model prog w) A (.builtin "list.extend.loop" ⟨[.ref S,.ref z,res],[]⟩) R { s with heap:=h,toks:=tk }:=by
  intro h c₁ tk hk hS₁;exact JlL (s:=s) (h₁:=s.heap) hh Z nS hlo n hn hz res hR n 0 h tk c₁ #[] [] (Nat.sub_zero _) (Gr _) (st.keep hk nS) (fun b o hb _ _ _ _ e=>hk b o hb e) hS₁ rfl rfl
   ⟨List.Pairwise.nil,(fun _ ha=>nomatch ha),(fun j a hj=>by simp at hj)⟩
 have hT:s.TypeIs (.ref z) "zip":=⟨_,hzip,rfl⟩
 have hSz:S≠z:=QY (hlo z (by simp));unfold Q7;refine Qa (LC (T:="zip") hT ?_)
 have h1:Kc (.ref S) (.ref z)=false:=by simp[Kc,hSz]
 have h2:(Value.type "zip" == Value.type "list")=false:=by decide
 have h3:(Value.type "zip" == Value.type "tuple")=false:=by decide
 simp only[h1,h2,h3,LO,GG,if_false];refine Qa (Rh hzip ?_);refine Qa (Gn (JlH hT ?_));refine GQ (fun _=>?_) (fun _=>Qe ⟨GL Go _,key _ c₀ _ (fun b o _ e=>e) hS⟩);refine Qa (Kq ?_);refine Qa ?_;show wpAny _ _ (updateSeq S (·.push .none) >>= fun _=>updateSeq S (·.pop)) _ _ _;refine Qa (GP hS rfl ?_);have hS₂:=QT (G7 (·.push Value.none)) hS rfl
 refine GP (hz:=by seq_fits) hS₂ rfl ?_;have hS₃:=QT (G7 (·.pop)) hS₂ rfl;refine Qe ⟨GL Go _,key _ _ _ (fun b o hb e=>?_) hS₃⟩;exact(QM _ _ (QP hb)).trans ((QM _ _ (QP hb)).trans e)
theorem JlI{R:Result->Shared->Prop}(hh:A.handled=none)(S:Addr)(Z:ZA z TI TO i1 i2 [i1,a1] [i2,a2])(nS:S∉[z,TI,TO,i1,i2,a1,a2])(hlo:∀b∈[z,TI,TO,i1,i2],b<S)(n:Nat)(hn:n=min xs.size ys.size)(hz:n<=sizeLine)
 (hzip:IsZip s.heap z TI TO .none) (st:LzSt b1 b2 a1 a2 z TI TO i1 i2 S xs ys 0 s.heap) (hS:s.heap.get? S=some { cls:=.type "list",data:=.seq #[] })
 (hR:∀h' tk acc c as,(∀b o,b≠S->b≠z->b≠TO->b≠i1->b≠i2->s.heap.get? b=some o->h'.get? b=some o)->h'.get? S=some { cls:=.type "list",dict:=none,data:=.seq acc c,slots:=#[] }->as.length=n->LzG xs ys S h' as ->
  acc.toList=as.map Value.ref->R (.ok (.ret .none)) { s with heap:=h',toks:=tk }) :
 wpAny (model prog w) A.in1 (Builtin.«list.__init__» ⟨[.ref S,.ref z],[]⟩)
  (fun fin s'=>match fin with|.done f=>R (.ok f) s'|.again c'=>c'.quiet=true/\codeAny (model prog w) A c' R s') (fun e s'=>R (.error e) s') s:=by
 have hSz:S≠z:=QY (hlo z (by simp))
 show wpAny _ _ (do let old <- Li (.ref S);Rk (.ref S) (fun _=>#[]);letGo old.toList.reverse;Q7 (.ref S) (.ref z) .none) _ _ s;refine Qa ?_;unfold Li;refine Qa (Gx hS rfl (Qe ?_))
 show wpAny _ _ (updateSeq S (fun _=>#[]) >>= fun _=>letGo (#[]:Array Value).toList.reverse >>= fun _=>Q7 (.ref S) (.ref z) .none) _ _ s;refine Qa (GP hS rfl ?_)
 have hS₂:=QT (G7 (fun _=>(#[]:Array Value))) hS rfl
 have oth:∀b o,b≠S->s.heap.get? b=some o->(s.heap.update S (G7 (fun _=>(#[]:Array Value)))).get? b=some o :=
  fun b o hb e=>(QM _ _ (QP hb)).trans e
 refine Qa (KO ?_);exact Jht hh S Z nS hlo n hn hz (oth _ _ hSz.symm hzip) (st.keep oth nS) .none _ hS₂ (fun h' tk acc c as hk hS' hl hG hacc=>hR h' tk acc c as (fun b o hb h1 h2 h3 h4 e=>hk b o hb h1 h2 h3 h4 (oth b o hb e)) hS' hl hG hacc)
theorem JlF{Q:Value->Shared->Prop}(hh:A.handled=none)(Z:ZA z TI TO i1 i2 [i1,a1] [i2,a2])(n:Nat)(hn:n=min xs.size ys.size)(hz:n<=sizeLine)
 (hzip:IsZip s.heap z TI TO .none) (gI:IsPair s.heap TI (.ref i1) (.ref i2)) (gO:IsPair s.heap TO .none .none) (t1:IsItr b1 s.heap i1 a1 0) (t2:IsItr b2 s.heap i2 a2 0) (q1:IsSq b1 s.heap a1 xs) (q2:IsSq b2 s.heap a2 ys)
 (hQ:∀h' tk acc c as,(∀b o,b≠z->b≠TO->b≠i1->b≠i2->s.heap.get? b=some o->h'.get? b=some o)->h'.get? s.heap.objs.size=some { cls:=.type "list",dict:=none,data:=.seq acc c,slots:=#[] }->as.length=n->LzG xs ys s.heap.objs.size h' as ->
  acc.toList=as.map Value.ref->Q (.ref s.heap.objs.size) { s with heap:=h',toks:=tk }) :
 wpAny (model prog w) A (call (.type "list") [.ref z]) Q E s:=by
 refine callType_codes (Q₁:=fun obj s₁=>obj=.ref s.heap.objs.size/\s₁={ s with heap:=s.heap.push { cls:=.type "list",data:=.seq #[] } }) RT (Rl _) Rm
  (code_list_new _ ⟨rfl,rfl⟩) fun obj s₁ h₁=>?_
 obtain⟨rfl,rfl⟩:=h₁;have hS:(s.heap.push { cls:=.type "list",data:=.seq #[] }).get? s.heap.objs.size=some { cls:=.type "list",data:=.seq #[] }:=Qi _ rfl;have up:∀b o,s.heap.get? b=some o->(s.heap.push { cls:=.type "list",data:=.seq #[] }).get? b=some o:=fun b o e=>Qf _ e
 have i1lt:i1<s.heap.objs.size:=by
  cases b1 with
  | true=>obtain⟨o,h1,_⟩:=t1;exact Qj h1
  | false=>obtain⟨o,h1,_⟩:=t1;exact Qj h1
 have i2lt:i2<s.heap.objs.size:=by
  cases b2 with
  | true=>obtain⟨o,h1,_⟩:=t2;exact Qj h1
  | false=>obtain⟨o,h1,_⟩:=t2;exact Qj h1
 have lo:∀b∈[z,TI,TO,i1,i2],b<s.heap.objs.size:=fun b hb=>by
  simp only[Qh,Q1,or_false] at hb;rcases hb with rfl|rfl|rfl|rfl|rfl
  ·exact Qj hzip
  ·exact Qj gI
  ·exact Qj gO
  ·exact i1lt
  ·exact i2lt
 have nS:s.heap.objs.size∉[z,TI,TO,i1,i2,a1,a2]:=fun hm=>by
  simp only[Qh,Q1,or_false] at hm;rcases hm with e|e|e|e|e|e|e
  ·exact absurd (Qj hzip) (by rw[e];exact Q8 _)
  ·exact absurd (Qj gI) (by rw[e];exact Q8 _)
  ·exact absurd (Qj gO) (by rw[e];exact Q8 _)
  ·exact absurd i1lt (by rw[e];exact Q8 _)
  ·exact absurd i2lt (by rw[e];exact Q8 _)
  ·exact absurd q1.lt (by rw[e];exact Q8 _)
  ·exact absurd q2.lt (by rw[e];exact Q8 _)
 refine⟨⟨_,hS,rfl⟩,M8 _ _,JlI (A:=A.in1) (b1:=b1) (b2:=b2) hh _ Z nS lo n hn hz (up _ _ hzip) ⟨up _ _ gI,⟨IsItr.keep' t1 fun o e=>up _ o e,q1.push _⟩,⟨IsItr.keep' t2 fun o e=>up _ o e,q2.push _⟩,.inl ⟨up _ _ hzip,_,_,up _ _ gO⟩⟩ hS (fun h' tk acc c as hk hS' hl hG hacc=>?_)⟩;exact⟨rfl,hQ h' tk acc c as (fun b o h1 h2 h3 h4 e=>hk b o (Qr (Qj e)) h1 h2 h3 h4 (up b o e)) hS' hl hG hacc⟩
end PySem
namespace L2
open PySem PySem.Spec PyProof.Rows
noncomputable def Vn(H:Hp):List Addr->List (V×V)->Hp
 | a::as,kv::kvs=>upd (Vn H as kvs) a (.tup [kv.1,kv.2])
 | _,_=>H
theorem Uf:∀{as:List Addr} {kvs:List (V×V)},b∉as->Vn H as kvs b=H b
 | [],_,_=>rfl
 | _::_,[],_=>rfl
 | a::as,kv::kvs,h=>by rw[Vn,Jh fun z=>h (by rw[z];exact Qd)];exact Uf fun m=>h (Qc _ m)
theorem Za{H:Hp}:∀{as:List Addr} {kvs:List (V×V)} {j:Nat} {a:Addr} {kv:V×V},as.Nodup->as[j]?=some a->kvs[j]?=some kv->Vn H as kvs a=some (.tup [kv.1,kv.2])
 | [],_,_,_,_,_,e,_=>by simp at e
 | _::_,[],_,_,_,_,_,e=>by simp at e
 | b::as,kv'::kvs,0,a,kv,_,e1,e2=>by simp at e1 e2;subst e1 e2;rw[Vn,Jk]
 | b::as,kv'::kvs,j+1,a,kv,hn,e1,e2=>by
  rw[QW] at hn;simp at e1 e2;have hne:a≠b:=fun z=>hn.1 (by rw[<- z];exact QG e1)
  rw[Vn,Jh hne];exact Za hn.2 e1 e2
theorem nm2{x y z:Nat}(h1:x≠y)(h2:x≠z):x∉[y,z]:=by simp[h1,h2]
theorem Jsf(h:b<n):b≠n+4/\b≠n+3/\b≠n/\b≠n+1/\b≠n+2:=by omega
theorem za5{n a1 a2:Nat}(h1:a1<n)(h2:a2<n):ZA (n+4) (n+2) (n+3) n (n+1) [n,a1] [n+1,a2] :=
 ⟨show(n+2:Nat)≠n+4 by omega,show(n+3:Nat)≠n+4 by omega,show(n+2:Nat)≠n+3 by omega,by simp,by simp,
  nm2 (by omega) (by omega),nm2 (by omega) (by omega),nm2 (by omega) (by omega),nm2 (by omega) (by omega),nm2 (by omega) (by omega),nm2 (by omega) (by omega),nm2 (by omega) (by omega),nm2 (by omega) (by omega)⟩
noncomputable def JdT(K:Frag)(ta:TA):TE:=fun σ H Q=>ta σ H fun vs H1=>∃(b1 b2:Bool) (a1 a2:Addr) (xs ys:List V),vs=[.ref a1,.ref a2]/\Sq b1 K H1 a1 xs/\Sq b2 K H1 a2 ys/\(xs.zip ys).length<=sizeLine ∧
 ∀(L:Addr) (as:List Addr),H1 L=none->as.length=(xs.zip ys).length->as.Nodup->L∉as->(∀b∈as,H1 b=none)->Q (.ref L) (upd (Vn H1 as (xs.zip ys)) L (.lst (as.map V.ref)))
theorem Jdu{X:Cx}{K:Frag}{a b:Expr}{ta:TA}{p pos p2 pos2:Pos}(hK:X.K=K)(hc:X.calm=true)(hgl:Gl X "list")(hml:X.mg "list"=none)(hg:Gl X "zip")(hm:X.mg "zip"=none)(ha:PA X [a,b] ta)(hs:starEach [a,b] X.env=[(false,eval a X.env),(false,eval b X.env)]:=by rfl)
 (hs2:starEach [b] X.env=[(false,eval b X.env)]:=by rfl):PE X (.Call (.Name "list" p) [.Call (.Name "zip" p2) [a,b] [] pos2] [] pos) (JdT K ta):=by
 subst hK;intro pins s σ H Q I h;refine Call_ (Y2 I hgl hml UM (Gh ?_ rfl rfl));show wpAny _ _ (spliced ((false,eval (.Call (.Name "zip" p2) [a,b] [] pos2) X.env)::backTo pos (starEach [] X.env))) _ _ s;refine Ko ?_;refine Call_ (Y2 I hg hm Jig (Gh (thn (ha pos2 pins s σ H _ I h) fun us s1 ⟨vs,H1,I1,r1,q1⟩=>?_) (by rw[hs,hs2]) (by rw[hs2];rfl)));obtain⟨b1,b2,a1,a2,xs,ys,e,c1,c2,hz,q⟩:=q1
 subst e
 cases r1 with
 | cons r rr =>
 cases rr with
 | cons r' rr =>
 cases rr;cases r;cases r';obtain⟨its,w1,p1⟩:=c1.heap I1;obtain⟨jts,w2,p2'⟩:=c2.heap I1;have hh:X.A.handled=none:=I1.ok.hd hc;have n1:its.toArray.size=xs.length:=by rw[Qo,w1.length]
 have n2:jts.toArray.size=ys.length:=by rw[Qo,w2.length]
 have hzl:(xs.zip ys).length=min its.toArray.size jts.toArray.size:=by rw[GD,n1,n2]
 refine JaM p1 p2' fun h' t1 t2 t3 t4 t5 kp=>Lv ?_
 have Z:ZA (s1.heap.objs.size+4) (s1.heap.objs.size+2) (s1.heap.objs.size+3) s1.heap.objs.size (s1.heap.objs.size+1) [s1.heap.objs.size,a1] [s1.heap.objs.size+1,a2]:=za5 p1.lt p2'.lt;refine JlF (s:={ s1 with heap:=h' }) hh Z (xs.zip ys).length hzl hz t1 t2 t3 t4 t5 (p1.keep fun o e=>kp _ o e) (p2'.keep fun o e=>kp _ o e) fun h2 tk acc c as hk hS hal hG hacc=>?_
 have hle:s1.heap.objs.size<h'.objs.size:=Ke (Mf _ 4) (Qj t1)
 have hnd:as.Nodup:=hG.rise.imp fun {x y} h=>Qr h
 have hLa:h'.objs.size∉as:=fun m=>absurd (hG.above _ m) (Q8 _)
 have fr:∀b∈as,H1 b=none:=fun b hb=>I1.hok.fresh (GX (GY hle (hG.above b hb)))
 have hne:H1 h'.objs.size=none:=I1.hok.fresh (GX hle);refine⟨.ref h'.objs.size,_,I1.more (t':=tk) (fun b u e=>?_) (fun b hb=>?_) (fun b o hb e=>?_),rfl,q h'.objs.size as hne hal hnd hLa fr⟩
 ·obtain⟨o1,o2,o3,o4,_⟩:=Jsf (Qj e);exact hk b u o1 o2 o3 o4 (kp b u e)
 ·rw[Jh (Qr (GY hb hle))];exact Uf fun m=>absurd (hG.above b m) (Me.mpr (GX (GY hb hle)))
 ·by_cases hL:b=h'.objs.size
  ·subst hL;rw[Jk] at e;cases e;refine⟨by rw[Qk,hal];exact hz,acc.toList,c,?_,?_⟩
   ·rw[hacc]
    have:∀l:List Addr,Vals (l.map V.ref) (l.map Value.ref):=fun l=>by
     induction l with
     | nil=>exact .nil
     | cons x l ih=>exact .cons rfl ih
    exact this as
   ·rw[hS]
  ·rw[Jh hL] at e
   by_cases hm:b∈as
   ·obtain⟨j,hj⟩:=Kn.mp hm;obtain⟨u,v,e1,e2,e3⟩:=hG.pairs j b hj;have hjl:j<(xs.zip ys).length:=by have:=(Qn.mp hj).1;omega
    have hkv:(xs.zip ys)[j]?=some (xs.zip ys)[j]:=Qw hjl
    have hx:xs[j]?=some (xs.zip ys)[j].1:=by rw[List.getElem_zip];exact Qw _
    have hy:ys[j]?=some (xs.zip ys)[j].2:=by rw[List.getElem_zip];exact Qw _
    obtain⟨ux,hux,rux⟩:=w1.get hx;obtain⟨uy,huy,ruy⟩:=w2.get hy
    have eu:u=ux:=by
     have e1':its[j]?=some u:=by simpa using e1
     rw[hux] at e1';exact(QK e1').symm
    have ev:v=uy:=by
     have e2':jts[j]?=some v:=by simpa using e2
     rw[huy] at e2';exact(QK e2').symm
    subst eu ev;rw[Za hnd hj hkv] at e;cases e;exact⟨by show 2<=sizeLine;decide,[u,v],.cons rux (.cons ruy .nil),⟨_,e3,rfl,_,rfl⟩⟩
   ·rw[Uf hm,I1.hok.fresh hb] at e;cases e
end L2
namespace LE
open PySem L2 LR
noncomputable def JiC(as:En->Option (List Sl)):Ev:=fun E=>(as E).bind fun ss=>match ss with
 | [s,t]=>(s.it true).bind fun ds=>(t.it true).bind fun es=>if ds.length<=sizeLine then some (.own (Jcl ds es)) else none
 | _=>none
theorem Ja1(h:∀b∈as,H b=none):Same H (Vn H as kvs):=fun b o e=>by rw[Uf fun m=>by rw[h b m] at e;cases e];exact e
theorem Jf3:∀{as:List Addr} {kvs:List (V×V)} {b:Addr} {o:HO},Vn H as kvs b=some o->H b=some o\/b∈as
 | [],_,_,_,e=>.inl e
 | _::_,[],_,_,e=>.inl e
 | a::as,kv::kvs,b,o,e=>by
  by_cases c:b=a
  ·exact .inr (by rw[c];exact Qd)
  ·rw[Vn,Jh c] at e;exact(Jf3 e).imp id fun m=>Qc _ m
theorem RDL.zips:∀{xs ys:List V} {ds es:List D} {as:List Addr} {H:Hp},as.length=(xs.zip ys).length->(∀(j:Nat) (a:Addr) (x y:V),as[j]?=some a->xs[j]?=some x->ys[j]?=some y->H a=some (.tup [x,y]))->RDL K C H xs ds->RDL K C H ys es->RDL K C H (as.map V.ref) (Jcl ds es)
 | [],ys,ds,es,as,H,h1,_,r,r'=>by
  have:ds=[]:=by
   cases ds with
   | nil=>rfl
   | cons d ds=>have:=r.1;simp at this
  subst this;have:as=[]:=Qy (by simpa using h1);subst this;exact .nil
 | x::xs,[],ds,es,as,H,h1,_,r,r'=>by
  have:es=[]:=by
   cases es with
   | nil=>rfl
   | cons d ds=>have:=r'.1;simp at this
  subst this;have:as=[]:=Qy (by simpa using h1);subst this;cases ds <;> exact .nil
 | x::xs,y::ys,[],es,as,H,h1,_,r,r'=>by have:=r.1;simp at this
 | x::xs,y::ys,d::ds,[],as,H,h1,_,r,r'=>by have:=r'.1;simp at this
 | x::xs,y::ys,d::ds,e::es,[],H,h1,_,r,r'=>by simp at h1
 | x::xs,y::ys,d::ds,e::es,a::as,H,h1,h3,r,r'=>by show RDL K C H (V.ref a::as.map V.ref) (.tup [d,e]::Jcl ds es);exact .cons (.mkT (.of (h3 0 a x y rfl rfl rfl)) (.cons r.head (.cons r'.head .nil))) (RDL.zips (by simpa using h1) (fun j a x y e1 e2 e3=>h3 (j+1) a x y (by simpa using e1) (by simpa using e2) (by simpa using e3)) r.tail r'.tail)
theorem JpX(ha:SA K C t ev):SE K C (JdT K t) (JiC ev):=by
 intro B H0 H σ E r Q I e q;obtain⟨ss,e1,e⟩:=bind_some e;split at e
 ·next s u =>
  obtain⟨ds1,e2,e⟩:=bind_some e;obtain⟨ds2,e3,e⟩:=bind_some e;split at e
  ·next hz =>
   cases e;refine ha B H0 H σ E _ _ I e1 fun vs H1 H1' s1 r1=>?_
   obtain⟨v,w,rfl,ra,rb⟩:=r1.two;have f:=JC (Hs:=H) s1.i;obtain⟨b1,a1,xs,rfl,k1,w1⟩:=Jhd (m:=true) ra s1.i e2;obtain⟨b2,a2,ys,rfl,k2,w2⟩:=Jhd (m:=true) rb s1.i e3;have st0:SStep H1' (JI H H1 H1') (JI H H1 H1') H1':=⟨Same.refl _,Same.refl _,fun _ _ e=>.inl e,f.i⟩
   have s2:=s1.comp f fun _ z=>z
   refine⟨b1,b2,a1,a2,xs,ys,rfl,k1 _ (fun _=>rfl) _ _ st0,k2 _ (fun _=>rfl) _ _ st0,?_,fun L as hL hal hnd hLa hfr=>?_⟩
   ·rw[GD,w1.1];exact Gz (Nat.min_le_left _ _) hz
   have fr0:∀b∈as,JI H H1 H1' b=none:=fun b hb=>Same.free s2.i (hfr b hb)
   have frH:∀b∈as,H b=none:=fun b hb=>Same.free s2.h (hfr b hb)
   have hL0:JI H H1 H1' L=none:=Same.free s2.i hL
   have z0:Same (JI H H1 H1') (Vn (JI H H1 H1') as (xs.zip ys)):=Ja1 fr0
   have zz:Same H1' (Vn H1' as (xs.zip ys)):=Ja1 hfr
   have hLl:Vn H1' as (xs.zip ys) L=none:=by rw[Uf hLa];exact hL
   have ii:Same (Vn (JI H H1 H1') as (xs.zip ys)) (Vn H1' as (xs.zip ys)):=fun b o e=>by
    by_cases hb:b∈as
    ·obtain⟨j,hj⟩:=Kn.mp hb
     have hjl:j<(xs.zip ys).length:=by have:=(Qn.mp hj).1;omega
     have hkv:=Qw hjl;rw[Za hnd hj hkv] at e ⊢;exact e
    ·rw[Uf hb] at e ⊢;exact s2.i b o e
   refine q _ (Vn (JI H H1 H1') as (xs.zip ys)) _ ⟨(s2.h.trans zz).trans (.new hLl),s2.z.trans z0,fun b o e=>?_,ii.trans (.new hLl)⟩ ⟨L,as.map V.ref,rfl,Jk,by rw[Uf hLa];exact hL0,Same.free s2.h hL,?_⟩
   ·rcases Jf3 e with z|z
    ·exact s2.n b o z
    ·exact .inr (.inl (frH b z))
   ·refine RDL.zips hal (fun j a x y j1 j2 j3=>?_) (w1.mono z0) (w2.mono z0);exact Za (kv:=(x,y)) hnd j1 (by rw[LI];exact⟨j2,j3⟩)
  ·cases e
 ·cases e
end LE
namespace L2
open PySem PySem.Spec PyProof.Rows
theorem Jn6(I:Inv X pins σ H s)(e:H a=some (.dK kvs))(ry:RelV (kV k) u)(rz:RelV z r)(l:kvs.length<sizeLine)(h1:∀v w' s',Uj kvs k=some v->Inv X pins σ H s'->RelV v w'->Q w' s')(h2:Uj kvs k=none->∀s',Inv X pins σ (upd H a (.dK (UF kvs k z))) s'->Q r s'):
 wpAny (model X.prog X.w) A (call (.builtin "dict.setdefault") [.ref a,u,r]) Q E s:=by
 obtain⟨hz,hd,vs,rel,dd⟩:=Jnf I.hok e;have hzl:vs.length<=sizeLine:=by rw[<- rel.length];exact hz
 have hl:(UF kvs k z).length<=sizeLine:=by have:=UY kvs k z;omega
 refine call_meetsIn Mt dd.typeIs PySem.F.entry_dict_setdefault (PySem.F.args_dict_setdefault_3 _ _ _) (kt_meets_setdefault (JA X.prog X.w) a (Jc1 ry) hd r) ⟨vs,dd,hzl,fun v hv=>?_,fun hn h' dd' hs=>?_⟩
 ·have rv:=rel.val k;rw[hv] at rv
  cases hk:Uj kvs k with
  | none=>rw[hk] at rv;cases rv
  | some y=>rw[hk] at rv;exact h1 y v _ hk (I.tok _) rv
 ·have rv:=rel.val k;rw[hn] at rv
  have hk:Uj kvs k=none:=by
   cases hk:Uj kvs k with
   | none=>rfl
   | some y=>rw[hk] at rv;cases rv
  refine h2 hk _ ?_;have he:∃q,h'.get? a=some q:=let ⟨q,_,_,hq,_⟩:=dd';⟨q,hq⟩
  exact Jbp I (by rw[e];exact True.intro) hs he (Jiy hl hd (rel.put k rz) dd')
noncomputable def Jcg(td ty tx:TE):TE:=fun σ H Q=>td σ H fun x H1=>∃a,x=.ref a/\IsD H1 a/\ty σ H1 fun y H2=>tx σ H2 fun z H3=>∃kvs k,H3 a=some (.dK kvs)/\y=kV k/\kvs.length<sizeLine ∧
 (∀v,Uj kvs k=some v->Q v H3)/\(Uj kvs k=none->Q z (upd H3 a (.dK (UF kvs k z))))
theorem Jdr(ho:PE X o td)(he:PE X e ty)(hf:PE X f tx)(m:M2 X o "setdefault" apos e f cpos):PE X (.Call (.Attribute o "setdefault" apos) [e,f] [] cpos) (Jcg td ty tx):=by
 intro pins s σ H Q I h;refine wpAny_Call_method m.base m.few m.line Kx Mt PySem.F.type_dict_setdefault (thn (ho pins s σ H _ I h) fun u s1 ⟨x,H1,I1,rx,a,ex,d,q1⟩=>?_);subst ex;obtain rfl:u=Value.ref a:=rx;obtain⟨t1,t2,_⟩:=ZI I1 d;refine⟨t1,t2,?_⟩;rw[m.trees];refine G4 rfl (Mi (Ko (thn (he pins s1 σ H1 _ I1 q1) fun iv s2 ⟨y,H2,I2,ry,q2⟩=>Ko (thn (hf pins s2 σ H2 _ I2 q2) fun fv s3 ⟨z,H3,I3,rz,kvs,k,e1,e2,l,q3,q4⟩=>Lv ?_))))
 subst e2;exact Jn6 I3 e1 ry rz l (fun v w' s' hv I4 rv=>⟨v,H3,I4,rv,q3 v hv⟩) fun hn s' I4=>⟨z,_,I4,rz,q4 hn⟩
end L2
namespace LE
open PySem L2 LR
section
variable(K:Frag)(C:Addr)(j:Nat)
noncomputable def Left(σ:St)(E:En)(σ':St)(E':En):Prop:=σ'[j]?=σ[j]?/\∀(i:Nat) (s:Sl),E'[i]?=some s->Yb s=true->E[i]?=some s/\σ'[i]?=σ[i]?
noncomputable def SGJ(g:TG)(p:Pt):Prop:=∀(B H0 H:Hp) (σ:St) (E E':En) (x:V) (d:D) (Q:St->Hp->Prop),EnvR K C B H0 H σ E->RD K C H0 x d->p.bind d E=some E'->(∀σ',EnvR K C B H0 H σ' E'->Left j σ E σ' E'->Q σ' H)->g x σ H Q
noncomputable def JkT(g:TGs)(p:Pts):Prop:=∀(B H0 H:Hp) (σ:St) (E E':En) (xs:List V) (ds:List D) (Q:St->Hp->Prop),EnvR K C B H0 H σ E->RDL K C H0 xs ds->p.bind ds E=some E'->(∀σ',EnvR K C B H0 H σ' E'->Left j σ E σ' E'->Q σ' H)->g xs σ H Q
end
theorem Left.refl(σ:St)(E:En):Left j σ E σ E:=⟨rfl,fun _ _ e _=>⟨e,rfl⟩⟩
theorem Left.trans(a:Left j σ E σ1 E1)(b:Left j σ1 E1 σ2 E2):Left j σ E σ2 E2 :=
 ⟨b.1.trans a.1,fun i s e o=>by obtain⟨h1,h2⟩:=b.2 i s e o;obtain⟨h3,h4⟩:=a.2 i s h1 o;exact⟨h3,h2.trans h4⟩⟩
theorem JiQ(h:i≠j):SGJ K C j (UU i) (.nm i):=by
 intro B H0 H σ E E' x d Q I r e q;rw[Pt.bind] at e;split at e
 ·cases e;refine q _ (I.setSh (by assumption) r) ⟨by rw[Q3,if_neg h],fun i' s e o=>?_⟩;rw[Q3] at e
  by_cases c:i=i'
  ·rw[if_pos c] at e
   by_cases hl:i<E.length
   ·rw[if_pos hl] at e;have e':Sl.sh d=s:=QK e;rw[<- e'] at o;exact absurd o Qu
   ·rw[if_neg hl] at e;exact absurd e (by simp)
  ·rw[if_neg c] at e;exact⟨e,by rw[Q3,if_neg c]⟩
 ·cases e
theorem Jol:JkT K C j Jls .nil:=by
 intro B H0 H σ E E' xs ds Q I r e q
 cases ds with
 | nil =>
  cases xs with
  | nil=>rw[Pts.bind] at e;cases e;exact⟨rfl,q σ I (.refl σ _)⟩
  | cons _ _=>have:=r.1;simp at this
 | cons _ _=>simp[Pts.bind] at e
theorem Jbz(h:SGJ K C j g p)(hs:JkT K C j gs ps):JkT K C j (JfV g gs) (.cons p ps):=by
 intro B H0 H σ E E' xs ds Q I r e q
 cases ds with
 | nil=>simp[Pts.bind] at e
 | cons d ds =>
  cases xs with
  | nil=>have:=r.1;simp at this
  | cons x xs=>rw[Pts.bind] at e;obtain⟨E1,e1,e2⟩:=bind_some e;exact⟨x,xs,rfl,h B H0 H σ E E1 x d _ I r.head e1 fun σ1 I1 l1=>hs B H0 H σ1 E1 E' xs ds Q I1 r.tail e2 fun σ2 I2 l2=>q σ2 I2 (l1.trans l2)⟩
theorem Jom(hs:JkT K C j gs ps)(hn:ps.len=n):SGJ K C j (Jhb K n gs) (.tp ps):=by
 intro B H0 H σ E E' x d Q I r e q
 cases d with
 | tup ds=>rw[Pt.bind] at e;obtain⟨a,xs,rfl,h,r⟩:=RD.tupI r;exact⟨a,xs,rfl,I.h.seqT h,by rw[r.1];exact(Pts.bind_len e).trans hn,hs B H0 H σ E E' xs ds Q I r e q⟩
 | _=>simp[Pt.bind] at e
theorem EnvR.poke{B H0 H:Hp}{σ:St}{E:En}{a:Addr}{o:HO}(I:EnvR K C B H0 H σ E)(h0:H0 a=none)(hb:B a=none)(ho:∀(i:Nat) (s:Sl),E[i]?=some s->Yb s=true->σ[i]?≠some (some (.ref a))):EnvR K C B H0 (upd H a o) σ E:=by
 have nb:∀{A:Hp},A a=none->Same A H->Same A (upd H a o):=fun {A} n s b o e=>by rw[Jh (Jo e n)];exact s b o e
 refine⟨nb hb I.b,nb h0 I.h,I.len,fun i s e=>?_,I.sep⟩;rcases I.at' i s e with z|⟨v,q1,q2⟩
 ·exact .inl z
 ·refine .inr ⟨v,q1,?_⟩
  cases s with
  | no=>trivial
  | sh d=>exact q2
  | bo es=>exact q2
  | bd ks es=>exact q2
  | bt ks es=>exact q2
  | own es =>
   obtain⟨l',ys,p1,p2,p3⟩:=q2;subst p1;have:l'≠a:=fun z=>ho i _ e rfl (by rw[q1,z])
   exact⟨l',ys,rfl,by rw[Jh this];exact p2,p3⟩
  | od ks es =>
   obtain⟨l',ys,p1,p2,p3⟩:=q2;subst p1;have:l'≠a:=fun z=>ho i _ e rfl (by rw[q1,z])
   exact⟨l',ys,rfl,by rw[Jh this];exact p2,p3⟩
  | ot ks es =>
   obtain⟨l',ys,p1,p2,p3⟩:=q2;subst p1;have:l'≠a:=fun z=>ho i _ e rfl (by rw[q1,z])
   exact⟨l',ys,rfl,by rw[Jh this];exact p2,p3⟩
noncomputable def Jat:List Int->List (List D)->Int->D->List (List D)
 | k::ks,x::xs,n,d=>if k=n then(x++[d])::xs else x::Jat ks xs n d
 | _,xs,_,d=>xs++[[d]]
noncomputable def V0(p:Pt)(ek ev:Ev):List D->En->List Int->List (List D)->Option (En×List Int×List (List D))
 | [],E,ks,dss=>some (E,ks,dss)
 | d::ds,E,ks,dss=>(p.bind d E).bind fun E1=>((ek E1).bind int?).bind fun n=>(ev E1).bind fun s=>s.frz.bind fun dv=>V0 p ek ev ds E1 (Jy ks n) (Jat ks dss n dv)
noncomputable def Jm6(it:En->Option (List D))(p:Pt)(j:Nat)(ek ev:Ev):Es:=fun E=>match E[j]? with
 | some (.od [] [])=>(it E).bind fun ds=>if ds.length<sizeLine then(V0 p ek ev ds (E.set j .no) [] []).bind fun r=>if j<r.1.length then some (.nx (r.1.set j (.od r.2.1 (r.2.2.map .lst)))) else none else none
 | _=>none
theorem Zl:∀{ks:List Int} {ls:List Addr} {n:Int} {a:Addr},look ks ls n=some a->∃m,ls[m]?=some a/\Vy ks n=true/\∀dss:List (List D),dss.length=ls.length->∃ds,dss[m]?=some ds/\∀d,Jat ks dss n d=dss.set m (ds++[d])
 | [],_,_,_,e=>by cases e
 | _::_,[],_,_,e=>by cases e
 | k::ks,l::ls,n,a,e=>by
  simp only[look] at e
  by_cases c:k=n
  ·rw[if_pos c] at e;cases e;refine⟨0,rfl,by unfold Vy;simp[c],fun dss hl=>?_⟩
   cases dss with
   | nil=>simp at hl
   | cons x xs=>exact⟨x,rfl,fun d=>by rw[Jat,if_pos c];rfl⟩
  ·rw[if_neg c] at e;obtain⟨m,h1,h2,h3⟩:=Zl e;refine⟨m+1,by simpa using h1,by unfold Vy at h2 ⊢;rw[Kb,h2,Bool.or_true],fun dss hl=>?_⟩
   cases dss with
   | nil=>simp at hl
   | cons x xs=>obtain⟨ds,g1,g2⟩:=h3 xs (by simpa using hl);exact⟨ds,by simpa using g1,fun d=>by rw[Jat,if_neg c,g2 d];rfl⟩
theorem JaB:∀{ks:List Int} {ls:List Addr} {n:Int},ks.length=ls.length->look ks ls n=none->Vy ks n=false/\∀(dss:List (List D)) (d:D),dss.length=ls.length->Jat ks dss n d=dss++[[d]]
 | [],[],_,_,_=>⟨rfl,fun dss d _=>by cases dss <;> rfl⟩
 | [],_::_,_,h,_=>by simp at h
 | _::_,[],_,h,_=>by simp at h
 | k::ks,l::ls,n,h,e=>by
  simp only[look] at e
  by_cases c:k=n
  ·rw[if_pos c] at e;cases e
  ·rw[if_neg c] at e;obtain⟨h1,h2⟩:=JaB (by simpa using h) e;refine⟨by unfold Vy at h1 ⊢;rw[Kb,h1,decide_eq_false c];rfl,fun dss d hl=>?_⟩
   cases dss with
   | nil=>simp at hl
   | cons x xs=>rw[Jat,if_neg c,h2 xs d (by simpa using hl)];rfl
section
variable(K:Frag)(C:Addr)
structure Grp (B H0 H:Hp) (σ:St) (E:En) (j c:Nat) (ks:List Int) (dss:List (List D)) (l:Addr) (ls:List Addr):Prop where
 at':σ[j]?=some (some (.ref l))
 dict:H l=some (dkO ks (ls.map V.ref))
 l0:H0 l=none
 lb:B l=none
 len:ks.length=ls.length
 len2:dss.length=ls.length
 cnt:ks.length<=c
 lists:∀(m:Nat) (a:Addr) (ds:List D),ls[m]?=some a->dss[m]?=some ds->ds.length<=c/\∃xs,H a=some (.lst xs)/\H0 a=none/\B a=none/\RDL K C H0 xs ds
 nd:(l::ls).Nodup
 own:∀(i:Nat) (s:Sl) (a:Addr),E[i]?=some s->Yb s=true->σ[i]?=some (some (.ref a))->a∉l::ls
end
theorem Grp.there(g:Grp K C B H0 H σ E j c ks dss l ls)(ha:a∈l::ls):∃o,H a=some o/\isT o=false/\H0 a=none/\B a=none:=by
 rcases Qh.mp ha with z|z
 ·subst z;exact⟨_,g.dict,rfl,g.l0,g.lb⟩
 ·obtain⟨m,hm⟩:=Kn.mp z;have hl:m<dss.length:=by rw[g.len2];exact(Qn.mp hm).1
  obtain⟨_,xs,h1,h2,h3,_⟩:=g.lists m a dss[m] hm (Qw hl);exact⟨_,h1,rfl,h2,h3⟩
theorem Grp.off(g:Grp K C B H0 H σ E j c ks dss l ls)(st:Step H H0 H H0' H')(ha:a∈l::ls):H0' a=none:=by
 obtain⟨o,h1,h2,h3,_⟩:=g.there ha
 cases z:H0' a with
 | none=>rfl
 | some u =>
  rcases st.n a u z with y|y|y
  ·rw[h3] at y;cases y
  ·rw[h1] at y;cases y
  ·have:=st.i a u z;rw[st.h a o h1] at this;cases this;rw[h2] at y;cases y
theorem Grp.step(g:Grp K C B H0 H σ E j c ks dss l ls)(st:Step H H0 H H0' H'):Grp K C B H0' H' σ E j c ks dss l ls :=
 ⟨g.at',st.h _ _ g.dict,g.off st Qd,g.lb,g.len,g.len2,g.cnt,fun m a ds e1 e2=>by obtain⟨h0,xs,h1,h2,h3,h4⟩:=g.lists m a ds e1 e2;exact⟨h0,xs,st.h _ _ h1,g.off st (Qc _ (QG e1)),h3,h4.mono st.z⟩,g.nd,g.own⟩
theorem Grp.left(g:Grp K C B H0 H σ E j c ks dss l ls)(f:Left j σ E σ' E'):Grp K C B H0 H σ' E' j c ks dss l ls :=
 ⟨f.1.trans g.at',g.dict,g.l0,g.lb,g.len,g.len2,g.cnt,g.lists,g.nd,fun i s a e o q=>by obtain⟨h1,h2⟩:=f.2 i s e o;exact g.own i s a h1 o (by rw[<- h2];exact q)⟩
theorem Grp.free(g:Grp K C B H0 H σ E j c ks dss l ls)(ha:a∈l::ls):∀(i:Nat) (s:Sl),E[i]?=some s->Yb s=true->σ[i]?≠some (some (.ref a)):=fun i s e o q=>g.own i s a e o q ha
theorem EnvR.fresh(I:EnvR K C B H0 H σ E)(hp:H p=none):∀(i:Nat) (s:Sl),E[i]?=some s->Yb s=true->σ[i]?≠some (some (.ref p)):=fun i s e o q=>by
 rcases I.at' i s e with z|⟨v,q1,q2⟩
 ·subst z;cases o
 ·rw[q1] at q;cases q
  cases s with
  | own es=>obtain⟨l',ys,p1,p2,_⟩:=q2;cases p1;rw[hp] at p2;cases p2
  | od ks es=>obtain⟨l',ys,p1,p2,_⟩:=q2;cases p1;rw[hp] at p2;cases p2
  | ot ks es=>obtain⟨l',ys,p1,p2,_⟩:=q2;cases p1;rw[hp] at p2;cases p2
  | _=>cases o
theorem Vj{α β:Type}(f:α->β):∀(ks:List Int) (vs:List α) (n:Int),look ks (vs.map f) n=(look ks vs n).map f
 | [],_,_=>rfl
 | _::_,[],_=>rfl
 | k::ks,v::vs,n=>by
  rw[Qg];simp only[look];split
  ·rfl
  ·exact Vj f ks vs n
theorem Ji1(hk:SE K C tk ek)(hv:SE K C tv ev)(I:EnvR K C B H0 H σ E)(g:Grp K C B H0 H σ E j c ks dss l ls)(hc:c<sizeLine){s:Sl}(e1:ek E=some (.sh (.int n)))(e2:ev E=some s)(e3:s.frz=some dv){D:Ends}(f:∀H0' H' ls',SStep B H0 H0' H'->EnvR K C B H0' H' σ E->Grp K C B H0' H' σ E j (c+1) (Jy ks n) (Jat ks dss n dv) l ls'->D.nx σ H'):
 Jak (tBM K "list" Wc (Jcg (Wj j) tk (JmZ VO)) (Ur tv VO)) D σ H:=by
 have hkl:=g.len
 have hcn:=g.cnt;refine⟨.ref l,g.at',l,rfl,.inl ⟨_,.inl g.dict⟩,hk B H0 H σ E _ _ I e1 fun y H1 H1' s1 r1=>?_⟩
 have ry:y=.int n:=RD.intI r1;subst ry
 have I1:=I.step s1
 have g1:=g.step s1;refine⟨Gr _,fun p hp=>?_⟩
 have p0:H1 p=none:=Same.free s1.i hp
 have pb:B p=none:=Same.free I1.b hp
 have pn:p∉l::ls:=fun m=>by obtain⟨o,h1,_⟩:=g1.there m;rw[hp] at h1;cases h1
 have I2:EnvR K C B H1 (upd H1' p (.lst [])) σ E:=I1.poke p0 pb (I1.fresh hp)
 have ne:∀{a:Addr},a∈l::ls->a≠p:=fun {a} m z=>pn (z▸m)
 have dl:upd H1' p (.lst []) l=some (dkO ks (ls.map V.ref)):=by rw[Jh (ne Qd)];exact g1.dict
 have ss1:SStep B H0 H1 H1':=s1.ss I.b;refine⟨_,(Sum.inl n:Key),dl,rfl,?_,fun v hv'=>?_,fun hn=>?_⟩
 ·rw[GD,Qk,Qk,hkl,Lh];omega
 ·-- the list is there
  rw[YT,Vj] at hv';obtain⟨a,ha,rfl⟩:=Gk.mp hv';obtain⟨m,m1,m2,m3⟩:=Zl ha;obtain⟨ds,d1,d2⟩:=m3 dss g.len2;have ham:a∈l::ls:=Qc _ (QG m1);obtain⟨hd,xs,x1,x2,x3,x4⟩:=g1.lists m a ds m1 d1;have xa:upd H1' p (.lst []) a=some (.lst xs):=by rw[Jh (ne ham)];exact x1
  refine⟨.inl ⟨rfl,xs,.of xa⟩,?_⟩;refine hv B H1 _ σ E _ _ I2 e2 fun v H3 H3' s3 r3=>?_
  have s4:Step (upd H1' p (.lst [])) H1 (upd H1' p (.lst [])) (JI (upd H1' p (.lst [])) H3 H3') H3':=s3.comp (JC s3.i) fun _ z=>z
  have g2:Grp K C B H1 (upd H1' p (.lst [])) σ E j c ks dss l ls:=⟨g1.at',dl,g1.l0,g1.lb,g1.len,g1.len2,g1.cnt,fun m' a' ds' q1 q2=>by obtain⟨h0,xs',h1,h2⟩:=g1.lists m' a' ds' q1 q2;exact⟨h0,xs',by rw[Jh (ne (Qc _ (QG q1)))];exact h1,h2⟩,g1.nd,g1.own⟩
  have g3:=g2.step s4
  have I3:=I2.step s4
  have ha3:H3' a=some (.lst xs):=s4.h _ _ xa
  have rv:RDL K C (JI (upd H1' p (.lst [])) H3 H3') (xs++[v]) (ds++[dv]):=(x4.mono s4.z).snoc (RR.frz s3.i r3 e3);refine⟨a,xs,v,rfl,rfl,ha3,by rw[x4.1];omega,?_⟩
  have al:a≠l:=fun z=>(QW.mp g.nd).1 (z▸QG m1)
  refine f (JI (upd H1' p (.lst [])) H3 H3') _ ls ?_ (I3.poke (g3.off (.refl I3.h) ham) (g3.there ham).choose_spec.2.2.2 (g3.free ham)) ?_
  ·have sb:SStep B H1 (JI (upd H1' p (.lst [])) H3 H3') H3':=s4.ss I2.b
   have:=ss1.trans sb
   have na:JI (upd H1' p (.lst [])) H3 H3' a=none:=g3.off (.refl I3.h) ham
   have nb:B a=none:=x3;exact⟨fun b o q=>by rw[Jh (Jo q nb)];exact this.b b o q,this.z,this.n,fun b o q=>by rw[Jh (Jo q na)];exact this.i b o q⟩
  ·have hp':Jy ks n=ks:=if_pos m2;rw[hp',d2 dv];refine⟨g3.at',by rw[Jh (QP al)];exact g3.dict,g3.l0,g3.lb,g3.len,by rw[List.length_set];exact g3.len2,MZ g3.cnt,fun m' a' ds' q1 q2=>?_,g3.nd,g3.own⟩;rw[Q3] at q2
   by_cases hm:m=m'
   ·subst hm;rw[m1] at q1;cases q1;rw[if_pos rfl] at q2;split at q2
    ·cases q2;exact⟨by rw[Qx,GA];omega,_,Jk,g3.off (.refl I3.h) ham,x3,rv⟩
    ·cases q2
   ·rw[if_neg hm] at q2;obtain⟨h0,xs',h1,h2⟩:=g3.lists m' a' ds' q1 q2
    have:a'≠a:=fun z=>by subst z;have nd:=(QW.mp g.nd).2;obtain⟨b1,b2⟩:=Qn.mp m1;obtain⟨c1,c2⟩:=Qn.mp q1;exact hm ((List.getElem_inj nd).mp (b2.trans c2.symm))
    exact⟨by omega,xs',by rw[Jh this];exact h1,h2⟩
 ·-- a new list
  rw[YT,Vj] at hn;have hn':look ks ls n=none:=Ru.mp hn;obtain⟨m2,m3⟩:=JaB g.len hn'
  have hkv:UF ((ks.map Sum.inl:List Key).zip (ls.map V.ref)) (Sum.inl n) (.ref p)=((ks++[n]).map Sum.inl:List Key).zip ((ls++[p]).map V.ref):=by rw[JjN _ (by rw[YT,Vj,hn'];rfl),QL,QL,Mq (by rw[Qk,Qk];exact g.len)];rfl
  rw[hkv];have lp:l≠p:=ne Qd;have xp:upd (upd H1' p (.lst [])) l (dkO (ks++[n]) ((ls++[p]).map V.ref)) p=some (.lst []):=by rw[Jh (QP lp),Jk]
  have I2':EnvR K C B H1 (upd (upd H1' p (.lst [])) l (dkO (ks++[n]) ((ls++[p]).map V.ref))) σ E:=I2.poke g1.l0 g1.lb (g1.free Qd)
  suffices key:∀Hn,upd (upd H1' p (.lst [])) l (dkO (ks++[n]) ((ls++[p]).map V.ref))=Hn->Hn p=some (.lst [])->EnvR K C B H1 Hn σ E->(tyV K "list" (.ref p) Hn/\Ur tv VO σ Hn fun xs H2=>Wc (.ref p) xs H2 fun _ H1=>D.nx σ H1) from key _ rfl xp I2'
  clear xp I2';intro Hn hHn xp I2';refine⟨.inl ⟨rfl,[],.of xp⟩,?_⟩;refine hv B H1 Hn σ E _ _ I2' e2 fun v H3 H3' s3 r3=>?_
  have s4:Step Hn H1 Hn (JI Hn H3 H3') H3':=s3.comp (JC s3.i) fun _ z=>z
  have nd':(l::(ls++[p])).Nodup:=by
   rw[<- KG,Lz];refine⟨g.nd,by simp,fun x hx y hy=>?_⟩;have:y=p:=by simpa using hy
   rw[this];exact ne hx
  have g2:Grp K C B H1 Hn σ E j (c+1) (ks++[n]) (dss++[[]]) l (ls++[p]):=⟨g1.at',by rw[<- hHn];exact Jk,g1.l0,g1.lb,by simp[g.len],by simp[g.len2],by simp;omega,fun m' a' ds' q1 q2=>by
   by_cases hm:m'<ls.length
   ·rw[Q0 hm] at q1;rw[Q0 (by rw[g.len2];exact hm)] at q2;obtain⟨h0,xs',h1,h2⟩:=g1.lists m' a' ds' q1 q2;have hal:a'∈ls:=QG q1;exact⟨by omega,xs',by rw[<- hHn,Jh fun z=>(QW.mp g.nd).1 (by rw[<- z];exact hal),Jh (ne (Qc _ hal))];exact h1,h2⟩
   ·have hm1:m'=ls.length:=by have:=(Qn.mp q1).1;simp at this;omega
    subst hm1
    have ea:a'=p:=by
     rw[Ga (Qm _)] at q1
     simpa using q1.symm
    have ed:ds'=[]:=by
     rw[Ga (by rw[g.len2];exact Qm _),g.len2] at q2
     simpa using q2.symm
    subst ea ed;exact⟨Gr _,[],xp,p0,pb,.nil⟩,nd',fun i s a e o q m=>by
     rw[<- KG] at m;rcases Gd.mp m with z|z
     ·exact g1.own i s a e o q z
     ·have:a=p:=by simpa using z
      subst this;exact I1.fresh hp i s e o q⟩
  have g3:=g2.step s4
  have I3:=I2'.step s4
  have pm:p∈l::(ls++[p]):=by simp
  have p3:H3' p=some (.lst []):=s4.h _ _ xp
  have rv:RDL K C (JI Hn H3 H3') [v] [dv]:=.cons (RR.frz s3.i r3 e3) .nil;refine⟨p,[],v,rfl,rfl,p3,by show 0<sizeLine;decide,?_⟩
  have n0:JI Hn H3 H3' p=none:=g3.off (.refl I3.h) pm;refine f (JI Hn H3 H3') _ (ls++[p]) ?_ (I3.poke n0 pb (g3.free pm)) ?_
  ·have sb:SStep B H1 (JI Hn H3 H3') H3':=s4.ss I2'.b
   have:=ss1.trans sb;exact⟨fun b o q=>by rw[Jh (Jo q pb)];exact this.b b o q,this.z,this.n,fun b o q=>by rw[Jh (Jo q n0)];exact this.i b o q⟩
  ·have hp':Jy ks n=ks++[n]:=if_neg (by rw[m2];exact Qu);rw[hp',m3 dss dv g.len2];refine⟨g3.at',by rw[Jh lp];exact g3.dict,g3.l0,g3.lb,g3.len,by simp[g.len2],g3.cnt,fun m' a' ds' q1 q2=>?_,g3.nd,g3.own⟩
   by_cases hm:m'<ls.length
   ·have q2':(dss++[[]])[m']?=some ds':=by rw[Q0 (by rw[g.len2];exact hm)] at q2 ⊢;exact q2
    obtain⟨h0,xs',h1,h2⟩:=g3.lists m' a' ds' q1 q2'
    have:a'≠p:=by rw[Q0 hm] at q1;exact ne (Qc _ (QG q1))
    exact⟨h0,xs',by rw[Jh this];exact h1,h2⟩
   ·have hm1:m'=ls.length:=by have:=(Qn.mp q1).1;simp at this;omega
    subst hm1
    have ea:a'=p:=by
     rw[Ga (Qm _)] at q1
     simpa using q1.symm
    have ed:ds'=[dv]:=by
     rw[Ga (by rw[g.len2];exact Qm _),g.len2] at q2
     simpa using q2.symm
    subst ea ed;exact⟨by simp,[v],Jk,n0,pb,rv⟩
theorem EnvR.unslot(I:EnvR K C B H0 H σ E)(j:Nat):EnvR K C B H0 H σ (E.set j .no):=by
 have get:∀(i:Nat) (s:Sl),(E.set j Sl.no)[i]?=some s->s=.no\/(i≠j/\E[i]?=some s):=fun i s e=>by
  rw[Q3] at e
  by_cases c:j=i
  ·rw[if_pos c] at e
   by_cases hl:j<E.length
   ·rw[if_pos hl] at e;exact .inl (QK e).symm
   ·rw[if_neg hl] at e;exact absurd e (by simp)
  ·rw[if_neg c] at e;exact .inr ⟨fun z=>c z.symm,e⟩
 refine⟨I.b,I.h,by simp[I.len],fun i s e=>?_,fun i k s t v hik e1 e2 o1 o2 e3 e4=>?_⟩
 ·rcases get i s e with z|⟨_,z⟩
  ·exact .inl z
  ·exact I.at' i s z
 ·rcases get i s e1 with z|⟨_,z⟩
  ·subst z;cases o1
  ·rcases get k t e2 with y|⟨_,y⟩
   ·subst y;cases o2
   ·exact I.sep i k s t v hik z y o1 o2 e3 e4
noncomputable def Jha(H0 H:Hp)(ls:List Addr):Hp:=fun a=>if a∈ls then H a else H0 a
theorem Ja8:∀{ls:List Addr} {dss:List (List D)},dss.length=ls.length->(∀(m:Nat) (a:Addr) (ds:List D),ls[m]?=some a->dss[m]?=some ds->∃xs,Hz a=some (.lst xs)/\RDL K C Hz xs ds)->RDL K C Hz (ls.map V.ref) (dss.map .lst)
 | [],[],_,_=>.nil
 | [],_::_,h,_=>by simp at h
 | _::_,[],h,_=>by simp at h
 | a::ls,ds::dss,h,f=>by obtain⟨xs,h1,h2⟩:=f 0 a ds rfl rfl;exact .cons (.mkL h1 h2) (Ja8 (by simpa using h) fun m a ds e1 e2=>f (m+1) a ds (by simpa using e1) (by simpa using e2))
theorem Grp.done(I:EnvR K C B H0 H σ E)(g:Grp K C B H0 H σ E j c ks dss l ls)(hj:j<E.length):SStep B H0 (Jha H0 H ls) H/\EnvR K C B (Jha H0 H ls) H σ (E.set j (.od ks (dss.map .lst))):=by
 have out:∀{a:Addr},a∉ls->Jha H0 H ls a=H0 a:=fun {a} h=>if_neg h
 have inn:∀{a:Addr},a∈ls->Jha H0 H ls a=H a:=fun {a} h=>if_pos h
 have z:Same H0 (Jha H0 H ls):=fun a o e=>by
  by_cases c:a∈ls
  ·rw[inn c];exact I.h a o e
  ·rw[out c];exact e
 have i:Same (Jha H0 H ls) H:=fun a o e=>by
  by_cases c:a∈ls
  ·rw[inn c] at e;exact e
  ·rw[out c] at e;exact I.h a o e
 have ln:l∉ls:=(QW.mp g.nd).1;refine⟨⟨I.b,z,fun a o e=>?_,i⟩,I.b,i,by simp[I.len],fun k s e=>?_,fun k m s t v hkm e1 e2 o1 o2 e3 e4=>?_⟩
 ·by_cases c:a∈ls
  ·exact .inr (.inl (g.there (Qc _ c)).choose_spec.2.2.2)
  ·rw[out c] at e;exact .inl e
 ·rw[Q3] at e
  by_cases c:j=k
  ·subst c;rw[if_pos rfl,if_pos hj] at e;have e':=QK e;subst e';refine .inr ⟨_,g.at',l,ls.map V.ref,rfl,g.dict,by rw[out ln];exact g.l0,g.lb,by rw[Qk,g.len2];exact g.len,Ja8 g.len2 fun m a ds q1 q2=>?_⟩;obtain⟨_,xs,h1,_,_,h4⟩:=g.lists m a ds q1 q2;exact⟨xs,by rw[inn (QG q1)];exact h1,h4.mono z⟩
  ·rw[if_neg c] at e;rcases I.at' k s e with y|⟨v,q1,q2⟩
   ·exact .inl y
   ·refine .inr ⟨v,q1,?_⟩
    cases s with
    | no=>trivial
    | sh d=>exact RD.mono z q2
    | bo es=>obtain⟨l',ys,p1,p2,p3⟩:=q2;exact⟨l',ys,p1,p2,p3.mono z⟩
    | bd ks es=>obtain⟨l',ys,p1,p2,p3,p4⟩:=q2;exact⟨l',ys,p1,p2,p3,p4.mono z⟩
    | bt ks es=>obtain⟨l',ys,p1,p2,p3,p4⟩:=q2;exact⟨l',ys,p1,p2,p3,p4.mono z⟩
    | own es=>obtain⟨l',ys,p1,p2,p3,p4,p5⟩:=q2;subst p1;have:=g.own k _ l' e rfl q1;exact⟨l',ys,rfl,p2,by rw[out fun m=>this (Qc _ m)];exact p3,p4,p5.mono z⟩
    | od ks es=>obtain⟨l',ys,p1,p2,p3,p4,p5,p6⟩:=q2;subst p1;have:=g.own k _ l' e rfl q1;exact⟨l',ys,rfl,p2,by rw[out fun m=>this (Qc _ m)];exact p3,p4,p5,p6.mono z⟩
    | ot ks es=>obtain⟨l',ys,p1,p2,p3,p4,p5,p6⟩:=q2;subst p1;have:=g.own k _ l' e rfl q1;exact⟨l',ys,rfl,p2,by rw[out fun m=>this (Qc _ m)];exact p3,p4,p5,p6.mono z⟩
 ·have get:∀(i:Nat) (s:Sl),(E.set j (Sl.od ks (dss.map .lst)))[i]?=some s->i=j\/(i≠j/\E[i]?=some s):=fun i s e=>by
   rw[Q3] at e
   by_cases c:j=i
   ·exact .inl c.symm
   ·rw[if_neg c] at e;exact .inr ⟨fun z=>c z.symm,e⟩
  rcases get k s e1 with y1|⟨n1,y1⟩
  ·subst y1;rcases get m t e2 with y2|⟨n2,y2⟩
   ·exact hkm y2.symm
   ·rw[g.at'] at e3;have e3':=QK (QK e3);subst e3';exact g.own m t l y2 o2 e4 Qd
  ·rcases get m t e2 with y2|⟨n2,y2⟩
   ·subst y2;rw[g.at'] at e4;have e4':=QK (QK e4);subst e4';exact g.own k s l y1 o1 e3 Qd
   ·exact I.sep k m s t v hkm y1 y2 o1 o2 e3 e4
theorem JrX(hi:SI K C false wi it)(hg:SGJ K C j g p)(hk:SE K C tk ek)(hv:SE K C tv ev):
 SS K C (JmX wi g (Jak (tBM K "list" Wc (Jcg (Wj j) tk (JmZ VO)) (Ur tv VO)))) (Jm6 it p j ek ev):=by
 intro B H0 H σ E o D I e f;unfold Jm6 at e;split at e
 ·next h =>
  obtain⟨ds,e1,e⟩:=bind_some e;split at e
  ·next hz =>
   obtain⟨⟨E',ks,dss⟩,e2,e⟩:=bind_some e;split at e
   ·next hjl =>
    cases e;refine hi B H0 H σ E ds _ I e1 fun J H1 H1' s1 ok=>?_
    rw[if_neg (by simp)] at ok;have I1:=I.step s1;rcases I1.at' j _ h with y|⟨v,h1,l,xs,rfl,hl,hl0,hlb,_,rx⟩
    ·cases y
    have hx:xs=[]:=Qy (by have:=rx.1;simpa using this);subst hx
    have G0:Grp K C B H1 H1' σ (E.set j .no) j 0 [] [] l []:=⟨h1,hl,hl0,hlb,rfl,rfl,Qm _,fun m a ds q=>by simp at q,by simp,fun i s a q o q' m=>by
     rw[Q3] at q
     by_cases c:j=i
     ·rw[if_pos c] at q
      by_cases hl:j<E.length
      ·rw[if_pos hl] at q;have q':=QK q;rw[<- q'] at o;exact absurd o Qu
      ·rw[if_neg hl] at q;exact absurd q (by simp)
     ·rw[if_neg c] at q;have:a=l:=by simpa using m
      subst this;exact I1.sep j i _ s (.ref a) c h q rfl o h1 q'⟩
    refine⟨fun i k σ' H'=>k=ds.length-i/\i<=ds.length/\∃H0' E1 ks1 dss1 l ls,EnvR K C B H0' H' σ' E1/\SStep B H1 H0' H'/\Grp K C B H0' H' σ' E1 j i ks1 dss1 l ls/\V0 p ek ev (ds.drop i) E1 ks1 dss1=some (E',ks,dss),
     ⟨ds.length,by simp,Gr _,H1,E.set j .no,[],[],l,[],I1.unslot j,.refl (I.b.trans s1.h) s1.i,G0,e2⟩,?_⟩
    rintro i k σ' H' ⟨rfl,hi',H0',E1,ks1,dss1,l,ls,I',st,G,er⟩;have stop:=ok H0' H' st
    by_cases hlt:i<ds.length
    ·have hd:ds[i]?=some ds[i]:=by simp[hlt]
     obtain⟨go,yl⟩:=stop.1 i _ hd;refine .inr ⟨go,fun σ2 H2=>∃H0' E1 ks1 dss1 l ls,EnvR K C B H0' H2 σ2 E1/\SStep B H1 H0' H2/\Grp K C B H0' H2 σ2 E1 j (i+1) ks1 dss1 l ls/\V0 p ek ev (ds.drop (i+1)) E1 ks1 dss1=some (E',ks,dss),fun σ2 H2 h=>⟨ds.length-(i+1),by omega,rfl,hlt,h⟩,fun x H2 y=>?_⟩;obtain⟨H02,st2,rx⟩:=yl x H2 y;rw[LJ hlt,V0] at er;obtain⟨E2,b1,er⟩:=bind_some er;obtain⟨n,b2,er⟩:=bind_some er;obtain⟨s,b3,er⟩:=bind_some er
     obtain⟨dv,b4,er⟩:=bind_some er;obtain⟨sn,b5,b6⟩:=bind_some b2;have b7:=UD b6;subst b7;have ss2:SStep B H0' H02 H2:=st2.ss I'.b;refine hg B H02 H2 σ' E1 E2 x _ _ (I'.step st2) rx b1 fun σ2 I2 lf=>?_
     exact Ji1 hk hv I2 ((G.step st2).left lf) (by omega) b5 b3 b4 fun H03 H3 ls' ss I3 G3=>⟨H03,E2,_,_,l,ls',I3,(st.trans ss2).trans ss,G3,er⟩
    ·have hd:ds.drop i=[]:=List.drop_eq_nil_of_le (by omega)
     have hin:i=ds.length:=by omega
     rw[hd,V0] at er;have er':=QK er;cases er';obtain⟨d1,d2⟩:=G.done I' hjl;refine .inl ⟨by rw[hin];exact stop.2,f σ' _ H' (((s1.ss I.b).trans st).trans d1) d2⟩
   ·cases e
  ·cases e
 ·cases e
end LE
namespace L2
open PySem PySem.Spec PyProof.Rows
noncomputable def Y4:List Int->List Int->Bool
 | [],_=>true
 | _::_,[]=>false
 | x::xs,y::ys=>if x=y then Y4 xs ys else decide (x<=y)
theorem Vz(x y:Int)(xs ys:List Int):Y4 (x::xs) (y::ys)=if x=y then Y4 xs ys else decide (x<=y):=rfl
theorem Jj0(A:Around)(s:Shared)(a:Int)(t:Tok)(c:Int)(u:Tok)(prog:Program)(w:World)(E:Value->Shared->Prop)(Q:Value->Shared->Prop)(h:Q (.bool (decide (a<=c))) s) :
 wpAny (model prog w) A (richCompare .LtE (.int a t) (.int c u)) Q E s :=
 (PyProof.Rows.le_int h:wpAny (model prog w) A (compareOp .LtE (.int a t) (.int c u)) Q E s)
section
open PySem.SeqAt
open PySem.AutoSeq1 (wpAny_loadPart')
open PySem.MeetsSeq PySem.MeetsSeq2 PySem.MeetsSeq3
theorem JaA(l b:Addr)(items items2:Array Value)(n n2:Nat)(dd dd2:Option Addr)(sl sl2:Array (Option Value))(ns ms:List Int)(hi:IntsAre items.toList ns)(hj:IntsAre items2.toList ms) :
 Meets (Builtin.«tuple.__le__» ⟨[.ref l,.ref b],[]⟩)
  (fun _ R s=>s.heap.get? l=some { cls:=.type "tuple",dict:=dd,data:=.seq items n,slots:=sl }/\s.heap.get? b=some { cls:=.type "tuple",dict:=dd2,data:=.seq items2 n2,slots:=sl2 } ∧
   R (.ok (.ret (.bool (Y4 ns ms)))) s) :=
 .of_wp fun prog w A R s h=>by
  obtain⟨hp,g,d,tk,os⟩:=s;obtain⟨hl,hb,h⟩:=h;have f2:=AutoSeq1.sub_tuple_tuple;have z1:items.size=ns.length:=by rw[<- hi.length];simp
  have z2:items2.size=ms.length:=by rw[<- hj.length];simp
  wp_walk using Lo hl,Lo hb,wpAny_forIn_list _ (fun rest b s'=>b.1=none/\s'=⟨hp,g,d,tk,os⟩/\∃(vs ws:List Value) (ns' ms':List Int),rest=vs.zip ws ∧
   IntsAre vs ns'/\IntsAre ws ms'/\ns'.length+items2.size=ms'.length+items.size/\R (.ok (.ret (.bool (Y4 ns' ms')))) ⟨hp,g,d,tk,os⟩) _
  case turn =>
   rintro⟨y,x⟩ rest b s' ⟨hb',rfl,vs,ws,ns',ms',hz,hvi,hwi,hlen,hR⟩
   cases hvi with
   | nil=>rw[List.zip_nil_left] at hz;cases hz
   | cons a t hvi' =>
    cases hwi with
    | nil=>rw[List.zip_nil_right] at hz;cases hz
    | cons c u hwi' =>
     rw[ML] at hz
     injection hz with hyx hrest
     injection hyx with hy hx
     subst hy hx;rw[Vz] at hR;simp only[Qq] at hlen;obtain⟨e,he,hiff⟩:=HT.JiF A.in1 ⟨hp,g,d,tk,os⟩ a t c u;refine Qa (he prog w _ _ ?_)
     cases e with
     | true=>rw[if_pos (hiff.mp rfl)] at hR;wp_walk;exact⟨rfl,rfl,_,_,_,_,hrest,hvi',hwi',by omega,hR⟩
     | false=>rw[if_neg (fun q=>absurd (hiff.mpr q) Qu)] at hR;have hri:=Jj0 A.in1 ⟨hp,g,d,tk,os⟩ a t c u prog w;wp_walk using hri;exact⟨_,rfl,by simpa using hR⟩
  case fin =>
   rintro⟨b1,b2⟩ s' ⟨hb',rfl,vs,ws,ns',ms',hz,hvi,hwi,hlen,hR⟩;simp only at hb';subst hb'
   have hv:Y4 ns' ms'=decide (items.size<=items2.size):=by
    cases hvi with
    | nil=>simp only[KM] at hlen;rw[show Y4 [] ms'=true from rfl];exact(decide_eq_true (by omega)).symm
    | cons a t hv =>
     cases hwi with
     | nil=>simp only[KM,Qq] at hlen;rw[show Y4 (_::_) []=false from rfl];exact(decide_eq_false (by omega)).symm
     | cons c u hw=>rw[ML] at hz;cases hz
   rw[hv] at hR;wp_walk;exact⟨_,rfl,by simpa [Builtin.Tuple.tupleCompareSizes] using hR⟩
  case h=>exact⟨rfl,rfl,items.toList,items2.toList,ns,ms,rfl,hi,hj,by omega,h⟩
end
theorem JeI(hl:s.heap.IsTuple l items)(hb:s.heap.IsTuple b items2)(hi:IntsAre items.toList ns)(hj:IntsAre items2.toList ms)(hu:A.units<cLine)(h:Q (.bool (Y4 ns ms)) s):wpAny (model prog w) A (compareOp .LtE (.ref l) (.ref b)) Q E s:=by
 obtain⟨⟨cls,dd,data,sl⟩,ho,hc,n,hd⟩:=id hl;obtain⟨⟨cls2,dd2,data2,sl2⟩,ho2,hc2,n2,hd2⟩:=id hb;simp only at hc hd hc2 hd2;subst hc hd hc2 hd2;exact richCompare_meets_room (op:=.LtE) ⟨_,ho,rfl⟩ ⟨_,ho2,rfl⟩ PySem.F.slot_tuple_le PySem.F.entry_tuple_le (PySem.F.args_tuple_le_2 _ _) (JaA l b items items2 n n2 dd dd2 sl sl2 ns ms hi hj)
  ⟨ho,ho2,show Value.bool (Y4 ns ms)≠Value.notImplemented/\Q (.bool (Y4 ns ms)) s from⟨(fun x=>nomatch x),h⟩⟩ hu
noncomputable def Jrm(K:Frag):R2:=fun x y H Q=>∃a b ns ms,x=.ref a/\y=.ref b/\SqT K H a (ns.map V.int)/\SqT K H b (ms.map V.int)/\Q (.bl (Y4 ns ms)) H
theorem Jo9{X:Cx}{K:Frag}(hK:X.K=K)(hu:X.A.units<cLine):OpR X (compareOp .LtE) (Jrm K):=by subst hK;intro pins s σ H x y v u Q I rx ry h;obtain⟨a,b,ns,ms,rfl,rfl,ha,hb,q⟩:=h;cases rx;cases ry;obtain⟨its,r1,p1,_⟩:=I.tuple ha;obtain⟨its2,r2,p2,_⟩:=I.tuple hb;have i1:IntsAre its.toArray.toList ns:=YN r1;have i2:IntsAre its2.toArray.toList ms:=YN r2;exact JeI p1 p2 i1 i2 hu ⟨.bl (Y4 ns ms),H,I,rfl,q⟩
end L2
namespace LE
open PySem L2 LR
noncomputable def JiI:Sl->Sl->Option Sl
 | .sh (.tup ds),.sh (.tup es)=>(ints? ds).bind fun ns=>(ints? es).map fun ms=>.sh (.bl (Y4 ns ms))
 | _,_=>none
theorem RDL.ints'{H:Hp}:∀{xs:List V} {ns:List Int},RDL K C H xs (ns.map .int)->xs=ns.map V.int
 | [],[],_=>rfl
 | [],_::_,r=>by have:=r.1;simp at this
 | _::_,[],r=>by have:=r.1;simp at this
 | x::xs,n::ns,r=>by have h1:RD K C H x (.int n):=r.head;rw[RD.intI h1,RDL.ints' (ns:=ns) r.tail];rfl
theorem Jq6:OpS K C (Jrm K) JiI:=by
 intro Hs H0 H x y a b c Q i hs ra rb e q;unfold JiI at e;split at e
 ·obtain⟨ns,e1,e⟩:=bind_some e;obtain⟨ms,e2,e⟩:=Gk.mp e;subst e;have h1:=YO e1;have h2:=YO e2;subst h1 h2;obtain⟨p,xs,rfl,s1,r1⟩:=RD.tupI ra;obtain⟨p',ys,rfl,s2,r2⟩:=RD.tupI rb;have z1:=RDL.ints' r1;have z2:=RDL.ints' r2;subst z1 z2;exact⟨p,p',ns,ms,rfl,rfl,i.seqT s1,i.seqT s2,q _ _ _ (.refl i) (.bl _)⟩
 ·cases e
theorem Jlj(a b c d:Int):JiI (.sh (.tup [.int a,.int b])) (.sh (.tup [.int c,.int d]))=some (.sh (.bl (if a=c then decide (b<=d) else decide (a<=c)))):=by
 show some (Sl.sh (.bl (Y4 [a,b] [c,d])))=_;rw[Vz];split
 ·rw[Vz];split
  ·next h=>rw[h];simp[Y4]
  ·rfl
 ·rfl
end LE
namespace L2
open PySem PySem.Spec PyProof.Rows
section
open PySem.SeqAt
open PySem.AutoSeq1 (wpAny_loadPart')
open PySem.MeetsSeq PySem.MeetsSeq2 PySem.MeetsSeq3
end
end L2
namespace LE
open PySem L2 LR
end LE
namespace L2
open PySem PySem.Spec PyProof.Rows
noncomputable def Jnd(i j:Int):Prop:=i.natAbs<=10 ^ 200/\j.natAbs<=10 ^ 200
theorem Jfv(h:i.natAbs<=10 ^ 200):RU i<=2 ^ 20:=by
 unfold RU;split
 ·exact Gr _
 ·next hz =>
  have h0:i.natAbs≠0:=fun z=>hz (by simp;omega)
  have h1:i.natAbs.log2<1000:=by rw[Nat.log2_lt h0];exact Ke h (by decide +kernel)
  have:(1000:Nat)<=2 ^ 20:=by decide +kernel
  omega
theorem Jgg:OpR X (binaryOp .Mult) (rI Jnd fun i j=>.int (i*j)):=opI fun _ _ _ _ _ _ _ hc q=>mul_int q (IntMulOk.of_bits (Jfv hc.1) (Jfv hc.2))
end L2
namespace LE
open PySem L2 LR
noncomputable def YK(a:Int):Bool:=Nat.ble a.natAbs (10 ^ 200)
noncomputable abbrev JfR:=fIc (fun a b=>YK a && YK b) fun a b=>.int (a*b)
theorem JoZ:OpS K C (rI Jnd fun i j=>.int (i*j)) JfR:=Jhy (fun i j h=>by simp only[QU,YK,KC] at h;exact h) fun _ _ _=>.int _
theorem JiJ(h:a.natAbs<=10 ^ 200/\b.natAbs<=10 ^ 200):JfR (.sh (.int a)) (.sh (.int b))=some (.sh (.int (a*b))):=by show(if (YK a && YK b)=true then _ else _)=_;rw[if_pos];rw[QU];exact⟨KC.mpr h.1,KC.mpr h.2⟩
end LE
namespace PySem
open PySem.Calls PyProof.Rows PyProof.V PySem.Spec
theorem JpN:typeLookup (.type "list_reverseiterator") "__len__"=pure none:=by rw[typeLookup_type,builtinLookup_eq_fast];kernel_rfl
theorem Jmz:typeLookup (.type "list_reverseiterator") "__length_hint__"=pure (some (.builtin "list_reverseiterator.__length_hint__")):=by rw[typeLookup_type,builtinLookup_eq_fast];kernel_rfl
section
variable{prog:Program}{w:World}{A:Around}{E:Value->Shared->Prop}{s:Shared}{r a:Addr}{xs:Array Value}{n:Nat}
theorem Jmy(hT:s.TypeIs (.ref r) "list_reverseiterator")(h:Q false s):wpAny (model prog w) A (G1 (.ref r)) Q E s:=by
 unfold G1;refine Qa (Kk hT JpN ?_);refine GQ (fun hab=>absurd hab (by decide)) (fun _=>?_);refine GQ (fun hab=>absurd hab (by decide)) (fun _=>?_);refine Qa (Kk hT Jmz ?_)
 generalize hid:("list_reverseiterator.__length_hint__":String)=id0
 wp_delta
 rw[show splitId id0=some ("list_reverseiterator","__length_hint__") from by subst hid;decide +kernel];subst hid;refine Qa (G5 (T:="list_reverseiterator") (b:=true) hT (by rw[KI];kernel_rfl) ?_);refine GQ (fun hab=>absurd hab (by decide)) (fun _=>?_);refine GQ (fun _=>?_) (fun hab=>absurd (by decide +kernel) hab);refine GQ (fun hab=>absurd hab (by decide +kernel)) (fun _=>?_);exact Qe h
theorem Jj5(hh:A.handled=none)(hn:n=xs.size)(hra:r≠a):Walks prog w A r [r,a] [r] n (fun i v=>xs[n-1-i]?=some v) (fun i h=>h.IsRevIter r a ((n:Int)-1-(i:Int))/\h.IsList a xs) where
 sub:=fun b hb=>by simp only[QJ] at hb;simp[hb]
 frame:=fun i h h' st k=>⟨st.1.at fun o e=>k r (by simp) o e,by obtain⟨o,e,q⟩:=st.2;exact⟨o,k a (by simp) o e,q⟩⟩
 item:=fun i s Q E hi st hQ=>by
  have e:(n:Int)-1-(i:Int)=((n-1-i:Nat):Int):=by omega
  have e2:((n-1-i:Nat):Int)-1=(n:Int)-1-((i+1:Nat):Int):=by omega
  have hx:xs[n-1-i]?=some xs[n-1-i]:=by simp
  obtain⟨s1,s2⟩:=st;rw[e] at s1;refine wpAny_pyNext_rev_item s1 s2 hx fun h' st' sb=>?_
  rw[e2] at st';have kp:∀b o,b∉[r]->s.heap.get? b=some o->h'.get? b=some o:=fun b o hb q=>(sb.2 b (by simpa using hb)).trans q
  refine hQ _ h' s.toks hx ⟨st',?_⟩ kp;obtain⟨o,q1,q2⟩:=s2;exact⟨o,kp a o (by simp;exact QP hra) q1,q2⟩
 done:=fun s Q E st hQ=>by
  have e:(n:Int)-1-(n:Int)=-1:=by omega
  obtain⟨s1,s2⟩:=st;rw[e] at s1;exact wpAny_pyNext_rev_end hh s1 fun h' eb=>hQ h' s.toks fun b o hb q=>eb b o (by simpa using hb) q
 self:=fun i s Q E st h=>LB st.1 h
theorem JhO{R:Result->Shared->Prop}(hh:A.handled=none)(hn:n=xs.size)(hra:r≠a)(hz:n<=sizeLine)(hit:s.heap.IsRevIter r a ((n:Int)-1))(hl:s.heap.IsList a xs)(S:Addr)(hSr:S≠r)(hSa:S≠a)(res:Value)(c₀:Nat)(hS:s.heap.get? S=some { cls:=.type "list",data:=.seq #[] c₀ })
 (hR:∀h' tk acc' c',(∀b o,b≠S->b≠r->s.heap.get? b=some o->h'.get? b=some o)->h'.get? S=some { cls:=.type "list",dict:=none,data:=.seq acc' c',slots:=#[] }->ItemsOf (fun i v=>xs[n-1-i]?=some v) acc' n->R (.ok (.ret res)) { s with heap:=h',toks:=tk }) :
 wpAny (model prog w) A.in1 (Q7 (.ref S) (.ref r) res)
  (fun fin s'=>match fin with|.done f=>R (.ok f) s'|.again c'=>c'.quiet=true/\codeAny (model prog w) A c' R s') (fun e s'=>R (.error e) s') s:=by
 have W:=Jj5 (prog:=prog) (w:=w) (A:=A.in1) (r:=r) (a:=a) hh hn hra
 have hSf:S∉[r,a]:=by simp only[Qh,QF,or_false,not_or];exact⟨hSr,hSa⟩
 have st:s.heap.IsRevIter r a ((n:Int)-1-((0:Nat):Int))/\s.heap.IsList a xs:=⟨by simpa using hit,hl⟩
 have hT:s.TypeIs (.ref r) "list_reverseiterator":=hit.typeIs
 have key:∀(h:Heap) (c₁ tk:Nat),(∀b o,b≠S->s.heap.get? b=some o->h.get? b=some o) ->
  h.get? S=some { cls:=.type "list",data:=.seq #[] c₁ }->codeAny (model prog w) A (.builtin "list.extend.loop" ⟨[.ref S,.ref r,res],[]⟩) R { s with heap:=h,toks:=tk }:=by
  intro h c₁ tk hk hS₁;have hst:=W.frame 0 _ h st fun b hb o e=>hk b o (fun z=>hSf (z▸hb)) e
  refine codeAny_extend_loopS W.toS hz S hSf res n 0 _ #[] c₁ rfl (Gr _) hst hS₁ (ItemsOf.nil _) fun s' acc' c' hm hS' hacc=>?_
  rw[Moved.eq_with hm];refine hR s'.heap s'.toks acc' c' (fun b o hb hbr e=>hm.heap b o (fun hmem=>?_) (hk b o hb e)) hS' hacc;rcases Qh.mp hmem with e'|hmem
  ·exact hb e'
  ·exact hbr (QJ.mp hmem)
 unfold Q7;refine Qa (LC (T:="list_reverseiterator") hT ?_);have h1:Kc (.ref S) (.ref r)=false:=by simp[Kc,hSr]
 have h2:(Value.type "list_reverseiterator" == Value.type "list")=false:=by decide
 have h3:(Value.type "list_reverseiterator" == Value.type "tuple")=false:=by decide
 simp only[h1,h2,h3,LO,GG,if_false];refine Qa (LB hit ?_);refine Qa (Gn (Jmy hT ?_));refine GQ (fun _=>?_) (fun _=>Qe ⟨GL Go _,key _ c₀ _ (fun b o _ e=>e) hS⟩);refine Qa (Kq ?_);refine Qa ?_;show wpAny _ _ (updateSeq S (·.push .none) >>= fun _=>updateSeq S (·.pop)) _ _ _;refine Qa (GP hS rfl ?_);have hS₂:=QT (G7 (·.push Value.none)) hS rfl
 refine GP (hz:=by seq_fits) hS₂ rfl ?_;have hS₃:=QT (G7 (·.pop)) hS₂ rfl;refine Qe ⟨GL Go _,key _ _ _ (fun b o hb e=>?_) hS₃⟩;exact(QM _ _ (QP hb)).trans ((QM _ _ (QP hb)).trans e)
theorem Jmx{Q:Value->Shared->Prop}(hh:A.handled=none)(hn:n=xs.size)(hz:n<=sizeLine)(hit:s.heap.IsRevIter r a ((n:Int)-1))(hl:s.heap.IsList a xs)(hra:r≠a)
 (hQ:∀h' tk acc' c',(∀b o,b≠r->s.heap.get? b=some o->h'.get? b=some o)->h'.get? s.heap.objs.size=some { cls:=.type "list",dict:=none,data:=.seq acc' c',slots:=#[] }->ItemsOf (fun i v=>xs[n-1-i]?=some v) acc' n->Q (.ref s.heap.objs.size) { s with heap:=h',toks:=tk }) :
 wpAny (model prog w) A (call (.type "list") [.ref r]) Q E s:=by
 refine callType_codes (Q₁:=fun obj s₁=>obj=.ref s.heap.objs.size/\s₁={ s with heap:=s.heap.push { cls:=.type "list",data:=.seq #[] } }) RT (Rl _) Rm
  (code_list_new _ ⟨rfl,rfl⟩) fun obj s₁ h₁=>?_
 obtain⟨rfl,rfl⟩:=h₁;have hS:(s.heap.push { cls:=.type "list",data:=.seq #[] }).get? s.heap.objs.size=some { cls:=.type "list",data:=.seq #[] }:=Qi _ rfl;have up:∀b o,s.heap.get? b=some o->(s.heap.push { cls:=.type "list",data:=.seq #[] }).get? b=some o:=fun b o e=>Qf _ e
 have lr:r<s.heap.objs.size:=by obtain⟨o,e,_⟩:=hit;exact Qj e
 have la:a<s.heap.objs.size:=by obtain⟨o,e,_⟩:=hl;exact Qj e
 refine⟨⟨_,hS,rfl⟩,M8 _ _,?_⟩;show wpAny _ _ (do let old <- Li (.ref s.heap.objs.size);Rk (.ref s.heap.objs.size) (fun _=>#[]);letGo old.toList.reverse;Q7 (.ref s.heap.objs.size) (.ref r) .none) _ _ _;refine Qa ?_;unfold Li;refine Qa (Gx hS rfl (Qe ?_));show wpAny _ _ (updateSeq s.heap.objs.size (fun _=>#[]) >>= fun _=>letGo (#[]:Array Value).toList.reverse >>= fun _=>Q7 (.ref s.heap.objs.size) (.ref r) .none) _ _ _
 refine Qa (GP hS rfl ?_);have hS₂:=QT (G7 (fun _=>(#[]:Array Value))) hS rfl
 have oth:∀b o,b≠s.heap.objs.size->s.heap.get? b=some o->((s.heap.push { cls:=.type "list",data:=.seq #[] }).update s.heap.objs.size (G7 (fun _=>(#[]:Array Value)))).get? b=some o :=
  fun b o hb e=>(QM _ _ (QP hb)).trans (up b o e)
 refine Qa (KO ?_);have hl':=hl;obtain⟨ol,q1,q2⟩:=hl';exact JhO (A:=A.in1) hh hn hra hz (hit.at fun o e=>oth _ o (Qr lr) e) ⟨ol,oth _ ol (Qr la) q1,q2⟩ _ (QY lr) (QY la) .none _ hS₂ fun h' tk acc' c' hk hS' hacc=>⟨rfl,hQ h' tk acc' c' (fun b o hb e=>hk b o (Qr (Qj e)) hb (oth b o (Qr (Qj e)) e)) hS' hacc⟩
end
end PySem
namespace L2
open PySem PySem.Spec PyProof.Rows
noncomputable def JdS(K:Frag)(ta:TA):TE:=fun σ H Q=>ta σ H fun vs H1=>∃(a:Addr) (xs:List V),vs=[.ref a]/\SqL K H1 a xs/\∀l,H1 l=none->Q (.ref l) (upd H1 l (.lst xs.reverse))
theorem Vals.rev(h:Vals xs us):Vals xs.reverse us.reverse:=by
 induction h with
 | nil=>exact .nil
 | cons r t ih=>rw[KQ,KQ];exact ih.append (.cons r .nil)
theorem Jdt{X:Cx}{K:Frag}{a:Expr}{ta:TA}{p pos p2 pos2:Pos}(hK:X.K=K)(hc:X.calm=true)(hgl:Gl X "list")(hml:X.mg "list"=none)(hg:Gl X "reversed")(hm:X.mg "reversed"=none)(ha:PA X [a] ta)(hs:starEach [a] X.env=[(false,eval a X.env)]:=by rfl)
:PE X (.Call (.Name "list" p) [.Call (.Name "reversed" p2) [a] [] pos2] [] pos) (JdS K ta):=by
 subst hK;intro pins s σ H Q I h;refine Call_ (Y2 I hgl hml UM (Gh ?_ rfl rfl));show wpAny _ _ (spliced ((false,eval (.Call (.Name "reversed" p2) [a] [] pos2) X.env)::backTo pos (starEach [] X.env))) _ _ s;refine Ko ?_;refine Call_ (Y2 I hg hm WK (Gh (thn (ha pos2 pins s σ H _ I h) fun us s1 ⟨vs,H1,I1,r1,q1⟩=>?_) (by rw[hs];rfl) (by rfl)));obtain⟨a,xs,e,c1,q⟩:=q1;subst e
 cases r1 with
 | cons r rr =>
 cases rr;cases r;obtain⟨its,rv,p1,sz⟩:=I1.list c1;have hl:=rv.length;have hh:X.A.handled=none:=I1.ok.hd hc;have la:a<s1.heap.objs.size:=by obtain⟨o,e,_⟩:=p1.isList;exact Qj e
 refine call_reversed_list (s:=s1) p1.isList (Lv ?_);have up:∀b o,s1.heap.get? b=some o->(s1.heap.push (revObj a ((its.toArray.size:Int)-1))).get? b=some o:=fun b o e=>Qf _ e
 have hl2:(s1.heap.push (revObj a ((its.toArray.size:Int)-1))).IsList a its.toArray:=by obtain⟨o,e,q⟩:=p1.isList;exact⟨o,up _ o e,q⟩
 have nn:its.toArray.size<=sizeLine:=by rw[Qo,<- hl];exact sz
 refine Jmx (s:={ s1 with heap:=s1.heap.push (revObj a ((its.toArray.size:Int)-1)) }) hh (n:=its.toArray.size) rfl nn ⟨_,Qi _ rfl,rfl,rfl⟩ hl2 (QY la) fun h' tk acc c hk hS items=>?_
 have hsz:(s1.heap.push (revObj a ((its.toArray.size:Int)-1))).objs.size=s1.heap.objs.size+1:=by rw[size_push']
 have hne:H1 (s1.heap.push (revObj a ((its.toArray.size:Int)-1))).objs.size=none:=I1.hok.fresh (by rw[hsz];exact Ld _)
 have hacc:acc.toList=its.reverse:=by
  refine Gm fun j=>?_
  by_cases hj:j<its.length
  ·have hj2:j<acc.toList.length:=by rw[QB,items.1,Qo];exact hj
   have e1:=items.2 j acc.toList[j] (by rw[<- GB];simp[hj2]);rw[Qw hj2,RB hj]
   simpa using e1.symm
  ·rw[GC (by rw[QB,items.1,Qo];omega),GC (by rw[KE];omega)]
 refine⟨.ref (s1.heap.push (revObj a ((its.toArray.size:Int)-1))).objs.size,_,I1.laid (t':=tk) (fun b o e=>hk b o (Qr (Qj e)) (up b o e)) (by rw[hsz];exact Ld _) (show ObjOk X.prog X.w _ _ _ (.lst xs.reverse) from⟨by rw[KE];exact sz,acc.toList,c,?_,?_⟩),rfl,q _ hne⟩
 ·rw[hacc];exact rv.rev
 ·exact hS
end L2
namespace LE
open PySem L2 LR
noncomputable def JiB(as:En->Option (List Sl)):Ev:=fun E=>(as E).bind fun ss=>match ss with
 | [s]=>(lst? s).map fun ds=>.own ds.reverse
 | _=>none
theorem JmI(ha:SA K C t ev):SE K C (JdS K t) (JiB ev):=by
 intro B H0 H σ E c Q I e q;obtain⟨ss,e1,e⟩:=bind_some e;split at e
 ·next s =>
  obtain⟨ds,e2,rfl⟩:=map_some e;refine ha B H0 H σ E _ _ I e1 fun vs H1 H1' s1 r1=>?_
  obtain⟨v,rfl,ra⟩:=r1.one;obtain⟨l,xs,rfl,h,r⟩:=RR.lst s1.i ra e2;exact⟨l,xs,rfl,.of h,fun z hz=>YD s1.i s1.h hz r.rev fun v H2 H2' s2 r2=>q v H2 H2' (s1.comp s2 fun _ y=>y) r2⟩
 ·cases e
end LE
namespace L2
open PySem PySem.Spec PyProof.Rows PySem.Calls
end L2
namespace LE
open PySem L2 LR
end LE
namespace L2
open PySem PySem.Spec PyProof.Rows PySem.Calls
end L2
namespace LE
open PySem L2 LR
end LE
namespace L2
open PySem PySem.Spec PyProof.Rows PySem.Calls
end L2
namespace LE
open PySem L2 LR
end LE
namespace PySem
open AutoSeq1 (wpAny_loadPart')
end PySem
namespace L2
open PySem PySem.Spec PyProof.Rows
end L2
namespace LE
open PySem L2 LR
end LE
namespace L2
open PySem PySem.Spec PyProof.Rows PySem.Calls
end L2
namespace LE
open PySem L2 LR
end LE
namespace L2
open PySem PySem.Spec PyProof.Rows
end L2
namespace L2
open PySem PySem.W PyProof.Rows
structure LtO (N:Nat) (lt:Nat->Nat->Bool):Prop where
 tot:∀i j,i<N->j<N->i≠j->lt i j=false->lt j i=true
 asy:∀i j,i<N->j<N->lt i j=true->lt j i=false
 tra:∀i j k,i<N->j<N->k<N->lt i j=true->lt j k=true->lt i k=true
structure Pm (p:Array Nat) (N:Nat):Prop where
 size:p.size=N
 low:∀a,a<N->p.getD a 0<N
 inj:∀a b,a<N->b<N->p.getD a 0=p.getD b 0->a=b
theorem JoX{l:List Nat}(nd:l.Nodup)(h1:a<l.length)(h2:b<l.length)(e:l[a]=l[b]):a=b:=by
 rcases Ly a b with c|c|c
 ·exact absurd e (Gq.mp nd a b h1 h2 c)
 ·exact c
 ·exact absurd e.symm (Gq.mp nd b a h2 h1 c)
theorem Pm.of{p:Array Nat}{N:Nat}(h:p.toList.Perm (Q9 N)):Pm p N:=by
 have hz:p.size=N:=by have:=h.length_eq;simpa using this
 have get:∀a,a<N->p.toList[a]?=some (p.getD a 0):=fun a ha=>by rw[GB,Kl (by omega)];simp[R3,show a<p.size by omega]
 refine⟨hz,fun a ha=>?_,fun a b ha hb e=>?_⟩
 ·have:=h.mem_iff.mp (QG (get a ha))
  simpa using this
 ·have nd:p.toList.Nodup:=h.nodup_iff.mpr List.nodup_range
  have ga:=get a ha
  have gb:=get b hb;rw[e] at ga;obtain⟨h1,e1⟩:=Qn.mp ga;obtain⟨h2,e2⟩:=Qn.mp gb;exact JoX nd h1 h2 (e1.trans e2.symm)
noncomputable def Asc(lt:Nat->Nat->Bool)(p:Array Nat)(m:Nat):Prop:=∀a b,a<b->b<m->lt (p.getD a 0) (p.getD b 0)=true
noncomputable def Dsc(lt:Nat->Nat->Bool)(p:Array Nat)(m:Nat):Prop:=∀a b,a<b->b<m->lt (p.getD b 0) (p.getD a 0)=true
noncomputable def Rt(N:Nat)(lt:Nat->Nat->Bool)(I:Shared->Prop)(cmp:Nat->Nat->(Bool->Shared->Prop)->Shared->Prop):Prop:=∀i j (C:Bool->Shared->Prop) s,I s->i<N->j<N->(∀s',I s'->C (lt i j) s')->cmp i j C s
theorem Jh9(o:LtO N lt)(P:Pm p N)(h1:1<=m)(hm:m<N)(h:Asc lt p m)(e:lt (p.getD m 0) (p.getD (m-1) 0)=false):Asc lt p (m+1):=by
 have last:lt (p.getD (m-1) 0) (p.getD m 0)=true:=o.tot _ _ (P.low m hm) (P.low (m-1) (by omega)) (fun z=>by have:=P.inj m (m-1) hm (by omega) z;omega) e;intro a b ab hb
 by_cases c:b<m
 ·exact h a b ab c
 ·have:b=m:=by omega
  subst this
  by_cases c2:a=b-1
  ·rw[c2];exact last
  ·exact o.tra _ _ _ (P.low a (by omega)) (P.low (b-1) (by omega)) (P.low b hm) (h a (b-1) (by omega) (by omega)) last
theorem Jfn(o:LtO N lt)(R:Rt N lt I cmp)(P:Pm p N):∀(f m:Nat) (s:Shared),I s->1<=m->m+f<=N->Asc lt p m ->
 (∀m' s',I s'->m<=m'->m'<=m+f->Asc lt p m'->(m'=m+f\/lt (p.getD m' 0) (p.getD (m'-1) 0)=true)->Q m' s')->(kas_asc p f m).kasWp cmp Q s
 | 0,m,s,hI,h1,hn,h,q=>q m s hI (Qm _) (Qm _) h (.inl rfl)
 | f+1,m,s,hI,h1,hn,h,q=>by
  refine R _ _ _ s hI (P.low m (by omega)) (P.low (m-1) (by omega)) fun s' hI'=>?_
  cases e:lt (p.getD m 0) (p.getD (m-1) 0) with
  | true=>exact q m s' hI' (Qm _) (by omega) h (.inr e)
  | false=>exact Jfn o R P f (m+1) s' hI' (by omega) (by omega) (Jh9 o P h1 (by omega) h e) fun m' s'' hI'' a b c d=>q m' s'' hI'' (by omega) (by omega) c (d.imp (fun z=>by omega) id)
theorem Jiz(o:LtO N lt)(P:Pm p N)(h1:1<=m)(hm:m<N)(h:Dsc lt p m)(e:lt (p.getD m 0) (p.getD (m-1) 0)=true):Dsc lt p (m+1):=by
 intro a b ab hb
 by_cases c:b<m
 ·exact h a b ab c
 ·have:b=m:=by omega
  subst this
  by_cases c2:a=b-1
  ·rw[c2];exact e
  ·exact o.tra _ _ _ (P.low b hm) (P.low (b-1) (by omega)) (P.low a (by omega)) e (h a (b-1) (by omega) (by omega))
theorem JkL(o:LtO N lt)(R:Rt N lt I cmp)(P:Pm p N):∀(f m:Nat) (s:Shared),I s->2<=m->m+f<=N->Dsc lt p m ->
 (∀m' s',I s'->2<=m'->m'<=N->Dsc lt p m'->Q (p,m',0) s')->(kas_desc f p m 0).kasWp cmp Q s
 | 0,m,s,hI,h1,hn,h,q=>q m s hI h1 (by omega) h
 | f+1,m,s,hI,h1,hn,h,q=>by
  refine R _ _ _ s hI (P.low m (by omega)) (P.low (m-1) (by omega)) fun s' hI'=>?_
  cases e:lt (p.getD m 0) (p.getD (m-1) 0) with
  | true=>exact JkL o R P f (m+1) s' hI' (by omega) (by omega) (Jiz o P (by omega) (by omega) h e) q
  | false =>
   refine R _ _ _ s' hI' (P.low (m-1) (by omega)) (P.low m (by omega)) fun s2 hI2=>?_
   have d:lt (p.getD (m-1) 0) (p.getD m 0)=true:=o.tot _ _ (P.low m (by omega)) (P.low (m-1) (by omega)) (fun z=>by have:=P.inj m (m-1) (by omega) (by omega) z;omega) e;rw[d];exact q m s2 hI2 h1 (by omega) h
theorem Jlt{p q:Array Nat}(h:p[a]?=q[b]?):p.getD a 0=q.getD b 0:=by rw[GH,GH,h]
theorem Jmv(P:Pm p N)(hm:m<=N)(h:Dsc lt p m):Asc lt (kas_rev p 0 m) m:=by
 have g:∀k,k<m->(kas_rev p 0 m).getD k 0=p.getD (m-1-k) 0:=fun k hk=>Jlt (by unfold kas_rev;rw[getElem?_mirror_all (by rw[P.size];exact hm) k];rw[if_pos ⟨by omega,hk⟩];congr 1;omega)
 intro a b ab hb;rw[g a (by omega),g b hb];exact h (m-1-b) (m-1-a) (by omega) (by omega)
theorem JjE(h:p.toList.Perm (Q9 N))(i j:Nat):(kas_rev p i j).toList.Perm (Q9 N):=((mirror_perm p i j _).toList).trans h
theorem Jaq(o:LtO N lt)(R:Rt N lt I cmp)(P:Pm p N)(hk:k<N)(h:Asc lt p k):∀(f l r:Nat) (s:Shared),I s->l<=r->r<=k->r-l<=f->(∀a,a<l->lt (p.getD a 0) (p.getD k 0)=true)->(∀a,r<=a->a<k->lt (p.getD k 0) (p.getD a 0)=true) ->
 (∀l' s',I s'->l'<=k->(∀a,a<l'->lt (p.getD a 0) (p.getD k 0)=true)->(∀a,l'<=a->a<k->lt (p.getD k 0) (p.getD a 0)=true)->Q l' s')->(kas_place p k f l r).kasWp cmp Q s
 | 0,l,r,s,hI,h1,h2,h3,ha,hb,q=>q l s hI (by omega) ha fun a h4 h5=>hb a (by omega) h5
 | f+1,l,r,s,hI,h1,h2,h3,ha,hb,q=>by
  unfold kas_place;split
  ·exact q l s hI (by omega) ha fun a h4 h5=>hb a (by omega) h5
  ·next c =>
   have hmid:(l+r) / 2<r/\l<=(l+r) / 2:=by omega
   refine R _ _ _ s hI (P.low k hk) (P.low _ (by omega)) fun s' hI'=>?_
   cases e:lt (p.getD k 0) (p.getD ((l+r) / 2) 0) with
   | true =>
    refine Jaq o R P hk h f l ((l+r) / 2) s' hI' (by omega) (by omega) (by omega) ha (fun a h4 h5=>?_) q
    by_cases z:a=(l+r) / 2
    ·rw[z];exact e
    ·exact o.tra _ _ _ (P.low k hk) (P.low _ (by omega)) (P.low a (by omega)) e (h _ a (by omega) h5)
   | false =>
    have d:lt (p.getD ((l+r) / 2) 0) (p.getD k 0)=true:=o.tot _ _ (P.low k hk) (P.low _ (by omega)) (fun z=>by have:=P.inj k ((l+r) / 2) hk (by omega) z;omega) e;refine Jaq o R P hk h f ((l+r) / 2+1) r s' hI' (by omega) (by omega) (by omega) (fun a h4=>?_) hb q
    by_cases z:a=(l+r) / 2
    ·rw[z];exact d
    ·exact o.tra _ _ _ (P.low a (by omega)) (P.low _ (by omega)) (P.low k hk) (h a _ (by omega) (by omega)) d
theorem Jmg(P:Pm p N)(hk:k<N)(hl:l<=k)(h:Asc lt p k)(ha:∀a,a<l->lt (p.getD a 0) (p.getD k 0)=true)(hb:∀a,l<=a->a<k->lt (p.getD k 0) (p.getD a 0)=true):Asc lt (bubble p k (k-l)) (k+1):=by
 have g:∀x,x<k+1->(bubble p k (k-l)).getD x 0=if x=l then p.getD k 0 else if l<x then p.getD (x-1) 0 else p.getD x 0:=fun x hx=>by
  have e:=getElem?_bubble (xs:=p) (src:=k) (by rw[P.size];exact hk) (k-l) (by omega) x;rw[show k-(k-l)=l by omega] at e;rw[GH,e]
  by_cases c:x=l
  ·rw[if_pos c,if_pos c,<- GH]
  ·rw[if_neg c,if_neg c]
   by_cases c2:l<x
   ·rw[if_pos ⟨c2,by omega⟩,if_pos c2,<- GH]
   ·rw[if_neg fun z=>c2 z.1,if_neg c2,<- GH]
 intro a b ab hb';rw[g a (by omega),g b hb']
 by_cases c1:a=l
 ·rw[if_pos c1,if_neg (by omega),if_pos (by omega)];exact hb (b-1) (by omega) (by omega)
 ·rw[if_neg c1]
  by_cases c2:l<a
  ·rw[if_pos c2,if_neg (by omega),if_pos (by omega)];exact h (a-1) (b-1) (by omega) (by omega)
  ·rw[if_neg c2]
   by_cases c3:b=l
   ·rw[if_pos c3];exact ha a (by omega)
   ·rw[if_neg c3]
    by_cases c4:l<b
    ·rw[if_pos c4];exact h a (b-1) (by omega) (by omega)
    ·rw[if_neg c4];exact h a b ab (by omega)
theorem JkK(o:LtO N lt)(R:Rt N lt I cmp)(q:∀p s,I s->p.toList.Perm (Q9 N)->Asc lt p N->Q p s):∀(f:Nat) (p:Array Nat) (k:Nat) (s:Shared),I s->p.toList.Perm (Q9 N)->k+f=N->Asc lt p k->(kas_bin f p k).kasWp cmp Q s
 | 0,p,k,s,hI,hp,hk,h=>q p s hI hp (by rw[show N=k by omega];exact h)
 | f+1,p,k,s,hI,hp,hk,h=>by
  have P:=Pm.of hp;unfold kas_bin;rw[LV];refine Jaq o R P (by omega) h k 0 k s hI (by omega) (Qm _) (by omega) (fun a ha=>absurd ha (by omega)) (fun a h1 h2=>absurd h2 (by omega)) fun l s' hI' hl ha hb=>?_
  exact JkK o R q f _ (k+1) s' hI' (((bubble_perm p k _).toList).trans hp) (by omega) (Jmg P (by omega) hl h ha hb)
theorem Jm5(o:LtO N lt)(R:Rt N lt I cmp)(h2:2<=N)(q:∀p s,I s->p.toList.Perm (Q9 N)->Asc lt p N->Q p s)(s:Shared)(hI:I s):(kas_sort N).kasWp cmp Q s:=by
 have hp0:(Kt (Q9 N)).toList.Perm (Q9 N):=List.Perm.refl _
 have P0:=Pm.of hp0
 have one:∀p,Asc lt p 1:=fun p a b h1 h2=>by omega
 have fin:∀(m:Nat) (p:Array Nat) (s:Shared),I s->p.toList.Perm (Q9 N)->1<=m->m<=N->Asc lt p m->(if m<N then kas_bin (N-max m 1) p (max m 1) else KasT.ret p).kasWp cmp Q s:=fun m p s hI hp h1 h3 ha=>by
  split
  ·rw[show max m 1=m by omega];exact JkK o R q _ p m s hI hp (by omega) ha
  ·exact q p s hI hp (by rw[show N=m by omega];exact ha)
 unfold kas_sort;rw[LV];unfold kas_count;rw[LV];refine Jfn o R P0 (N-1) 1 s hI (Qm _) (by omega) (one _) fun m s1 hI1 a b c d=>?_
 split
 ·exact fin m _ s1 hI1 hp0 a (by omega) c
 ·next hne =>
  have hmN:m≠N:=by simpa using hne
  split
  ·next h1 =>
   refine R _ _ _ s1 hI1 (P0.low 0 (by omega)) (P0.low _ (by omega)) fun s2 hI2=>?_
   rw[c 0 (m-1) (by omega) (by omega)];exact fin m _ s2 hI2 hp0 a (by omega) c
  ·next h1 =>
   have m1:m=1:=by omega
   subst m1
   have d2:Dsc lt (Kt (Q9 N)) 2:=fun x y h3 h4=>by
    have:x=0/\y=1:=by omega
    rw[this.1,this.2];exact d.resolve_left (by omega)
   unfold kas_descPart;rw[LV];refine JkL o R P0 _ 2 s1 hI1 (Qm _) (by omega) d2 fun m' s2 hI2 e1 e2 e3=>?_
   show(kas_tail3 m' N (Kt (Q9 N))).kasWp cmp _ s2;unfold kas_tail3;rw[LV]
   have hp1:=JjE hp0 0 m';exact Jfn o R (Pm.of hp1) (N-m') m' s2 hI2 (by omega) (by omega) (Jmv P0 e2 e3) fun m2 s3 hI3 f1 f2 f3 _=>fin m2 _ s3 hI3 hp1 (by omega) (by omega) f3
theorem JgT(h:N<2):Asc lt p N:=fun a b h1 h2=>by omega
theorem Jke(vs:List Value):(Q9 vs.length).map (fun i=>vs.getD i Value.none)=vs:=by
 refine Gm fun i=>?_
 rw[Qp]
 by_cases h:i<vs.length
 ·rw[List.getElem?_range h,Lp,Qw h];simp[h]
 ·rw[GC (by simpa using h),GC (by omega)];rfl
theorem Jna(vs:List Value):((vs.toArray.zip vs.toArray).map (·.2))=vs.toArray:=by
 apply Array.toList_inj.mp
 rw[Array.toList_map,Array.toList_zip];exact List.map_snd_zip (Qm _)
theorem JpZ{a:Addr}{vs:List Value}{n:Nat}{P:PySem.Fin->Shared->Prop}{lt:Nat->Nat->Bool}{κ:SortKind}(ho:s.heap.get? a=some (seqObj "list" vs.toArray n))(h64:vs.length<64)(lo:LtO vs.length lt)
 (kk:2<=vs.length->∀h1:Heap,(∀b ob,b≠a->s.heap.get? b=some ob->h1.get? b=some ob)->wpAny (model prog w) A (keyKind' vs.toArray) (fun k s'=>k=κ/\s'={ s with heap:=h1 }) (fun _ _=>False) { s with heap:=h1 })
 (ask:∀h1:Heap,(∀b ob,b≠a->s.heap.get? b=some ob->h1.get? b=some ob)->Rt vs.length lt (·={ s with heap:=h1 }) (kas_ask prog w A κ vs))
 (h:∀p:Array Nat,p.toList.Perm (Q9 vs.length)->Asc lt p vs.length->P (.done (.ret .none)) { s with heap:=sortedHeap s.heap a vs (Kt (p.toList.map fun i=>vs.getD i Value.none)) }) :
 wpAny (model prog w) A (Builtin.«list.sort» ⟨[.ref a],[]⟩) P E s:=by
 have lta:a<s.heap.objs.size:=Qj ho
 have room:vs.length<=sizeLine:=by rw[sizeLine_eq];omega
 obtain⟨c,hc⟩:∃c,(s.heap.update a (G7 fun _=>(#[]:Array Value))).get? a=some (seqObj "list" #[] c):=⟨_,get?_update_seq ho fun _=>#[]⟩
 have sb:=Gc s.heap a (G7 fun _=>(#[]:Array Value));rw[list_sort_plain];refine Qa (listItems_at ho rfl ?_);refine Qa (listUpdate_at ho rfl ?_ (by rw[Qo];exact room) (Gr _));refine Qa (seqEpoch_at hc rfl ?_);refine Qa (L6 ?_ room);refine Qa (wpAny_newList ?_ (Gr _));refine Gn ?_
 generalize hG:(((s.heap.update a (G7 fun _=>(#[]:Array Value))).push (seqObj "tuple" vs.toArray 0)).push (seqObj "list" #[] 0))=G
 have ga:G.get? a=some (seqObj "list" #[] c):=hG▸Qf _ (Qf _ hc)
 have keep:∀b ob,b≠a->s.heap.get? b=some ob->G.get? b=some ob:=fun b ob hb e=>hG▸Qf _ (Qf _ ((sb.2 b hb).trans e))
 have fin:∀p:Array Nat,p.toList.Perm (Q9 vs.length)->Asc lt p vs.length->P (.done (.ret .none)) { s with heap:=G.update a (G7 fun _=>Kt (p.toList.map fun i=>vs.getD i Value.none)) }:=fun p hp ha=>by have z:=h p hp ha;unfold sortedHeap at z;rw[hG] at z;exact z
 dsimp only
 by_cases two:vs.toArray.size<2
 ·have two':vs.length<2:=by simpa using two
  rw[if_pos two,if_pos two];refine Qa (Qe ?_);rw[StateT.run_pure];refine Qa (Qe ?_);dsimp only;refine Qa (seqEpoch_at ga rfl ?_)
  have ea:(arrOf (SortSt.mk' general' (vs.toArray.zip vs.toArray) #[] 7 none)).map (·.2)=Kt ((Kt (Q9 vs.length)).toList.map fun i=>vs.getD i Value.none):=by show(vs.toArray.zip vs.toArray).map (·.2)=Kt ((Q9 vs.length).map fun i=>vs.getD i Value.none);rw[Jna,Jke]
  rw[ea];refine Qa (listUpdate_at ga rfl ?_ (Gr _) (by simpa using MZ room));simp only[bne_self_eq_false,GG,if_false];exact Qe (fin _ (List.Perm.refl _) (JgT two'))
 ·have two1:¬vs.length<2:=by simpa using two
  have two':2<=vs.length:=by omega
  rw[if_neg two,if_neg two];refine Qa (KU (kk two' G keep) (fun k s0 hk=>?_) fun _ _ x=>x.elim);obtain⟨rfl,rfl⟩:=hk;have tree:(kas_sort vs.length).kasWp (kas_ask prog w A k vs) (fun p s'=>s'={ s with heap:=G }/\p.toList.Perm (Q9 vs.length)/\Asc lt p vs.length) { s with heap:=G }:=Jm5 lo (ask G keep) two' (fun p s' e hp ha=>⟨e,hp,ha⟩) _ rfl;refine Qa (KU (kat_run (ks:=vs) (Q:=fun st' s'=>s'={ s with heap:=G }/\failedOf st'=none/\∃p:Array Nat,(arrOf st').map (·.2)=Kt (p.toList.map fun i=>vs.getD i Value.none)/\p.toList.Perm (Q9 vs.length)/\Asc lt p vs.length) rfl two' h64
   (fun p st' s' _ e f g=>⟨g.1,f,p,kat_snds rfl e,g.2⟩) tree) ?_ fun _ _ e=>e)
  rintro⟨⟨⟩,st'⟩ s' ⟨rfl,hf,p,ep,hp,ha⟩;dsimp only;refine Qa (seqEpoch_at ga rfl ?_);rw[ep];refine Qa (listUpdate_at ga rfl ?_ (Gr _) (by
   rw[Qo,Qk,hp.length_eq,KR];exact MZ room))
  rw[hf];simp only[bne_self_eq_false,GG,if_false];exact Qe (fin p hp ha)
noncomputable abbrev PrI:=Int×Int
noncomputable def Ug(p q:PrI):Bool:=if p.1=q.1 then decide (p.2<q.2) else decide (p.1<q.1)
noncomputable def ltP(ps:List PrI)(i j:Nat):Bool:=Ug (ps.getD i (0,0)) (ps.getD j (0,0))
theorem JqN(nd:ps.Nodup):LtO ps.length (ltP ps):=by
 have inj:∀i j,i<ps.length->j<ps.length->ps.getD i (0,0)=ps.getD j (0,0)->i=j:=fun i j hi hj e=>by
  have gi:ps.getD i (0,0)=ps[i]:=by simp[hi]
  have gj:ps.getD j (0,0)=ps[j]:=by simp[hj]
  rw[gi,gj] at e;rcases Ly i j with c|c|c
  ·exact absurd e (Gq.mp nd i j hi hj c)
  ·exact c
  ·exact absurd e.symm (Gq.mp nd j i hj hi c)
 refine⟨fun i j hi hj ne e=>?_,fun i j hi hj e=>?_,fun i j k hi hj hk e1 e2=>?_⟩
 ·have d:ps.getD i (0,0)≠ps.getD j (0,0):=fun z=>ne (inj i j hi hj z)
  unfold ltP Ug at e ⊢
  generalize ps.getD i (0,0)=p at *
  generalize ps.getD j (0,0)=q at *
  obtain⟨p1,p2⟩:=p;obtain⟨q1,q2⟩:=q;dsimp only at *
  by_cases c:p1=q1
  ·rw[if_pos c,decide_eq_false_iff_not] at e;rw[if_pos c.symm,decide_eq_true_iff];have:p2≠q2:=fun z=>d (by rw[c,z])
   omega
  ·rw[if_neg c,decide_eq_false_iff_not] at e;rw[if_neg fun z=>c z.symm,decide_eq_true_iff];omega
 ·unfold ltP Ug at e ⊢
  by_cases c:(ps.getD i (0,0)).1=(ps.getD j (0,0)).1
  ·rw[if_pos c,decide_eq_true_iff] at e;rw[if_pos c.symm,decide_eq_false_iff_not];omega
  ·rw[if_neg c,decide_eq_true_iff] at e;rw[if_neg fun z=>c z.symm,decide_eq_false_iff_not];omega
 ·unfold ltP Ug at e1 e2 ⊢
  by_cases c1:(ps.getD i (0,0)).1=(ps.getD j (0,0)).1
  ·rw[if_pos c1,decide_eq_true_iff] at e1
   by_cases c2:(ps.getD j (0,0)).1=(ps.getD k (0,0)).1
   ·rw[if_pos c2,decide_eq_true_iff] at e2;rw[if_pos (c1.trans c2),decide_eq_true_iff];omega
   ·rw[if_neg c2,decide_eq_true_iff] at e2;rw[if_neg (by omega),decide_eq_true_iff];omega
  ·rw[if_neg c1,decide_eq_true_iff] at e1
   by_cases c2:(ps.getD j (0,0)).1=(ps.getD k (0,0)).1
   ·rw[if_pos c2,decide_eq_true_iff] at e2;rw[if_neg (by omega),decide_eq_true_iff];omega
   ·rw[if_neg c2,decide_eq_true_iff] at e2;rw[if_neg (by omega),decide_eq_true_iff];omega
noncomputable def TupP(h:Heap)(v:Value)(p:PrI):Prop:=∃a o n t u,v=.ref a/\h.get? a=some o/\o.cls=.type "tuple"/\o.data=.seq #[.int p.1 t,.int p.2 u] n
noncomputable def Jfq(h:Heap)(vs:List Value)(ps:List PrI):Prop:=vs.length=ps.length/\∀(i:Nat) (v:Value) (p:PrI),vs[i]?=some v->ps[i]?=some p->TupP h v p
section
variable{prog:Program}{w:World}{A:Around}{E:Value->Shared->Prop}{s:Shared}
theorem TupP.off(ho:h.get? a=some (seqObj "list" vs n))(keep:∀b ob,b≠a->h.get? b=some ob->h1.get? b=some ob)(t:TupP h v p):TupP h1 v p:=by obtain⟨b,o,m,t,u,rfl,hb,hc,hd⟩:=t;refine⟨b,o,m,t,u,rfl,keep b o (fun e=>?_) hb,hc,hd⟩;subst e;rw[ho] at hb;cases hb;have z:(Value.type "list":Value)=.type "tuple":=hc;exact absurd z (by decide)
theorem Ji7{h:Heap}:∀{vs:List Value} {ps:List PrI},Jfq h vs ps->∃fs,KatTups h vs fs/\fs.length=vs.length/\∀f∈fs,∃i t,f=Value.int i t
 | [],[],_=>⟨[],trivial,rfl,fun f hf=>nomatch hf⟩
 | [],_::_,t=>by cases t.1
 | _::_,[],t=>by cases t.1
 | v::vs,p::ps,t=>by
  obtain⟨fs,k1,k2,k3⟩:=Ji7 (vs:=vs) (ps:=ps) ⟨by have:=t.1;simpa using this,fun i v p h1 h2=>t.2 (i+1) v p (by simpa using h1) (by simpa using h2)⟩;obtain⟨a,o,n,x,y,rfl,ho,hc,hd⟩:=t.2 0 v p rfl rfl;refine⟨.int p.1 x::fs,KatTups.cons ho hc hd rfl k1,by rw[Qq,k2,Qq],fun f hf=>?_⟩;rcases Qh.mp hf with e|e
  ·exact⟨_,_,e⟩
  ·exact k3 f e
theorem JgU(t:Jfq h1 vs ps):Rt vs.length (ltP ps) (·={ s with heap:=h1 }) (kas_ask prog w A (tuples' true) vs):=by
 intro i j C s' e hi hj q;subst e;have q:=q _ rfl;have gi:vs.getD i Value.none=vs[i]:=by simp[hi]
 have gj:vs.getD j Value.none=vs[j]:=by simp[hj]
 have li:i<ps.length:=by rw[<- t.1];exact hi
 have lj:j<ps.length:=by rw[<- t.1];exact hj
 obtain⟨a,oa,n,x1,x2,ea,ha,_,da⟩:=t.2 i vs[i] ps[i] (by simp) (by simp);obtain⟨b,ob,m,y1,y2,eb,hb,_,db⟩:=t.2 j vs[j] ps[j] (by simp) (by simp);have ei:ps.getD i (0,0)=ps[i]:=by simp[li]
 have ej:ps.getD j (0,0)=ps[j]:=by simp[lj]
 unfold ltP Ug at q;rw[ei,ej] at q;unfold kas_ask;rw[gi,gj,ea,eb];refine kat_lt (s:={ s with heap:=h1 }) ha da hb db ?_;refine kat_cons (Ra ?_)
 by_cases c:ps[i].1=ps[j].1
 ·rw[if_pos c] at q;rw[show(ps[i].1 == ps[j].1)=true by simpa using c];refine kat_yes (kat_cons (Ra ?_))
  by_cases d:ps[i].2=ps[j].2
  ·rw[show(ps[i].2 == ps[j].2)=true by simpa using d];refine kat_yes (kat_nil ?_);rw[decide_eq_false (by omega)] at q;exact q
  ·rw[show(ps[i].2 == ps[j].2)=false by simpa using d];exact kat_no (kat_one _ _ (PyProof.Rows.lt_int (show W.BoolBack C (Value.bool (decide (ps[i].snd<ps[j].snd))) _ from q)))
 ·rw[if_neg c] at q;rw[show(ps[i].1 == ps[j].1)=false by simpa using c];exact kat_no (oneLt_int q)
theorem Jff{a:Addr}{vs:List Value}{ps:List PrI}{n:Nat}{P:PySem.Fin->Shared->Prop}(ho:s.heap.get? a=some (seqObj "list" vs.toArray n))(h64:vs.length<64)(t:Jfq s.heap vs ps)(nd:ps.Nodup)
 (h:∀p:Array Nat,p.toList.Perm (Q9 vs.length)->Asc (ltP ps) p vs.length->P (.done (.ret .none)) { s with heap:=sortedHeap s.heap a vs (Kt (p.toList.map fun i=>vs.getD i Value.none)) }) :
 wpAny (model prog w) A (Builtin.«list.sort» ⟨[.ref a],[]⟩) P E s:=by
 have tt:∀h1:Heap,(∀b ob,b≠a->s.heap.get? b=some ob->h1.get? b=some ob)->Jfq h1 vs ps:=fun h1 keep=>⟨t.1,fun i v p e1 e2=>TupP.off ho keep (t.2 i v p e1 e2)⟩
 refine JpZ (κ:=tuples' true) ho h64 (t.1▸JqN nd) (fun h2 h1 keep=>?_) (fun h1 keep=>JgU (tt h1 keep)) h;obtain⟨fs,k1,k2,k3⟩:=Ji7 (tt h1 keep);refine kat_kind (s:={ s with heap:=h1 }) (T:=.type "int") k1 (by omega) (fun v hv=>?_) rfl ⟨rfl,rfl⟩;obtain⟨i,x,rfl⟩:=k3 v hv;exact fun _ _ _ _ _ q=>Qe q
end
end L2
namespace L2
open PySem PySem.Spec PySem.W PyProof.Rows
noncomputable def RawD(h:Heap)(d:Addr)(es:Array DictEntry)(ep:Nat):Prop:=∃o,h.get? d=some o/\o.ExactDict/\o.data=.dict es ep
section
variable{prog:Program}{w:World}{A:Around}{E:Value->Shared->Prop}{s:Shared}{it d v:Addr}{i ep:Nat}{es:Array DictEntry}
theorem RawD.at{h h':Heap}(x:RawD h d es ep)(e:∀o,h.get? d=some o->h'.get? d=some o):RawD h' d es ep:=let ⟨o,ho,r⟩:=x;⟨o,e _ ho,r⟩
theorem RawD.lt{h:Heap}(x:RawD h d es ep):d<h.objs.size:=let ⟨_,ho,_⟩:=x;Qj ho
theorem Jdy(hh:A.handled=none)(hit:s.heap.IsKeyIter it d i es.size ep)(hm:RawD s.heap d es ep)(item:∀e h',es[i]?=some e->h'.IsKeyIter it d (i+1) es.size ep->QA it s.heap h'->Q (some e.key) { s with heap:=h' })(done:es[i]?=none->∀h',KF it s.heap h'->Q none { s with heap:=h' }):wpAny (model prog w) A (pyNext (.ref it)) Q E s:=by
 obtain⟨o,ho,hc,hd⟩:=id hit;obtain⟨od,hod,-,hdd⟩:=id hm;have own:Mu "dict_keyiterator"=false:=by decide
 unfold pyNext;refine Qa (GR (QI (name:=Gj "__next__") hit.typeIs Mv (QO Mv hit.typeIs F.entry_dict_keyiterator_next ?_ (F.args_dict_keyiterator_next_1 _))));refine Qa (Qe (Qa (Qa ?_)))
 first|refine Qa (Le hit.typeIs (Qe ?_))|refine Qa (LP hit.typeIs (Qe ?_))
 refine Qa (RP ho hd ?_);simp only[own,GG,if_false];show wpAny _ _ (if (Value.ref d == Value.none)=true then _ else _) _ _ s;rw[if_neg (show ¬((Value.ref d == Value.none)=true) from Qu)];refine Qa (Qe (Qa (wpAny_dictEntries hod hdd ?_)));rw[if_neg (by simp)];refine Qa (Qe (Qa (wpAny_dictEpoch hod hdd ?_)));rw[if_neg (by simp)];refine Qe ?_;simp only[show ¬((i:Int)<0) from by omega,if_false,GZ]
 cases hx:es[i]? with
 | some e =>
  have hit':(s.heap.update it (LQ (·.setIfInBounds 1 (rawInt ((i:Int)+1))))).IsKeyIter it d (i+1) es.size ep :=
   ⟨_,QT _ ho (Km (Gy hd _)),(Lx ..).trans hc,by rw[Gy hd];simp[rawInt]⟩
  refine Qa ?_
  first|refine Qa (Le hit.typeIs (Qe ?_))|refine Qa (LP hit.typeIs (Qe ?_))
  refine Qa (wpAny_isOneOf_keyiter hit.typeIs ?_);show wpAny _ _ (setField (.ref it) 1 (rawInt ((i:Int)+1)) >>= _) _ _ s;refine Qa (Kg ho hd (by simp) (Qa (Gn ?_)));refine Qa (wpAny_isOneOf_keyiter (s:={ s with heap:=s.heap.update it (LQ (·.setIfInBounds 1 (rawInt ((i:Int)+1)))) }) hit'.typeIs ?_);show wpAny _ _ (pure e.key) _ _ _;exact Qe (Qe ⟨_,rfl,Qe (item e _ hx hit' (Gc ..))⟩)
 | none =>
  refine Qa ?_
  first|refine Qa (Le hit.typeIs (Qe ?_))|refine Qa (LP hit.typeIs (Qe ?_))
  show wpAny _ _ (setField (.ref it) 0 .none >>= _) _ _ s;refine Qa (Kg ho hd (by simp) ?_)
  show wpAny _ _ (newExc (.type "StopIteration") [] >>= _) _ _ _;refine Qa ?_;simp only[newExc,newTuple];refine Qa (QQ ?_ (by size_fits));refine Qa (m:=firstArgMember _ _) (Ku (a:=Value.none) (by first | rfl | (simp only[firstArgMember];rfl)) ?_);refine QQ ?_ (by size_fits);simp only[raiseNew];refine Qa (M5 ?_);rw[show A.in1.handled=none from hh];refine Qa (Qe (RN ?_))
  refine Qa (G5 (T:="StopIteration") (b:=true) ⟨_,Qi _ rfl,rfl⟩ K6 ?_);exact Qe (done hx _ (((Gc ..).extBut.push _).push _))
theorem JjZ(hh:A.handled=none)(I d:Addr)(hne:d≠I)(es:Array DictEntry)(ep:Nat) :
 Walks prog w A I [I,d] [I] es.size (fun i v=>∃e,es[i]?=some e/\e.key=v) (fun i h=>h.IsKeyIter I d i es.size ep/\RawD h d es ep) where
 sub:=fun b hb=>by simp at hb;simp[hb]
 frame:=fun _ _ _ st hk=>⟨st.1.at fun o e=>hk I (by simp) o e,st.2.at fun o e=>hk d (by simp) o e⟩
 item:=fun i s Q E hi st hQ=>by refine Jdy hh st.1 st.2 (fun e h' he hit' hs'=>?_) (fun e=>absurd (Array.getElem?_eq_none_iff.mp e) (by omega));exact hQ e.key h' s.toks ⟨e,he,rfl⟩ ⟨hit',st.2.at fun o x=>hs'.extBut d o hne x⟩ fun b o hb x=>hs'.extBut b o (fun h=>hb (by simp[h])) x
 done:=fun s Q E st hQ=>Jdy hh st.1 st.2 (fun e h' he _ _=>by have:=(MM.mp he).1;omega) fun _ h' he'=>hQ h' s.toks fun b o hb e=>he' b o (fun h=>hb (by simp[h])) e
 self:=fun _ _ _ _ st hQ=>wpAny_pyIter_keyiter st.1 hQ
theorem JjY(hv:KdlKeysView s.heap v d)(hm:RawD s.heap d es ep)(hQ:Q (.ref s.heap.objs.size) { s with heap:=s.heap.push { cls:=.type "dict_keyiterator",data:=.fields #[.ref d,.int 0 0,.int es.size 0,.int ep 0] } }):
 wpAny (model prog w) A (pyIter (.ref v)) Q E s:=by
 obtain⟨ov,hov,hcv,hdv⟩:=id hv;obtain⟨o,ho,hc,hdat⟩:=id hm;have own:Mu "dict_keyiterator"=false:=by decide
 refine L7 hv.typeIs kdl_slot_keys_iter (QO kdl_slot_keys_iter hv.typeIs kdl_entry_keys_iter ?_ (kdl_args_keys_iter _));unfold Builtin.«dict_keys.__iter__»;refine Qa (Qe (Qa ?_));unfold Builtin.Dict_items.dictOf;refine Qa (QX hov hdv (x:=.ref d) rfl (Qe (Qa ?_)));unfold Builtin.Dict_items.newIterator;refine Qa (wpAny_dictEntries ho hdat (Qa (wpAny_dictEpoch ho hdat ?_)));simp only[own,GG,if_false]
 refine QQ (Qe ⟨_,rfl,"dict_keyiterator",_,⟨_,Qi _ rfl,rfl⟩,PySem.F.slot_dict_keyiterator_next.lookup,?_⟩)
 simpa [rawInt] using hQ
theorem Jmj{r:Addr}:KdlSrc prog w "dict_keys" r d es.size (fun i v=>∃e,es[i]?=some e/\e.key=v) (fun h=>KdlKeysView h r d/\RawD h d es ep) where
 type:=fun _ hm=>hm.1.typeIs
 there:=fun _ hm=>⟨let ⟨_,ho,_⟩:=hm.1;Qj ho,hm.2.lt⟩
 keep:=fun _ _ hm hk=>⟨let ⟨o,ho,x⟩:=hm.1;⟨o,hk r (.inl rfl) o ho,x⟩,hm.2.at fun o e=>hk d (.inr rfl) o e⟩
 notList:=by decide
 notTuple:=by decide
 hint:=fun _ _ _ _ hm hq=>kdl_hint_keys hm.1.typeIs hq
 iter:=fun _ s hh hm=>⟨_,_,(fun _ _ hq=>JjY hm.1 hm.2 hq),JjZ hh _ d (Qr hm.2.lt) es ep,⟨⟨_,Qi _ rfl,rfl,rfl⟩,hm.2.at fun o e=>Qf _ e⟩⟩
end
noncomputable def Jhf(p:PrI):List PrI->List PrI
 | []=>[p]
 | q::l=>if Ug q p=true then q::Jhf p l else p::q::l
noncomputable def Jaz:List PrI->List PrI
 | []=>[]
 | p::l=>Jhf p (Jaz l)
theorem Wr(p:PrI):∀l,(Jhf p l).Perm (p::l)
 | []=>.refl _
 | q::l=>by
  unfold Jhf;split
  ·exact((Wr p l).cons q).trans (List.Perm.swap p q l)
  ·exact .refl _
theorem J9:∀l,(Jaz l).Perm l
 | []=>.refl _
 | p::l=>(Wr p _).trans ((J9 l).cons p)
theorem UZ(a b:PrI):Ug a b=true↔a.1<b.1\/(a.1=b.1/\a.2<b.2):=by
 unfold Ug
 by_cases e:a.1=b.1
 ·rw[if_pos e,decide_eq_true_iff];exact⟨fun h=>.inr ⟨e,h⟩,fun h=>h.elim (fun x=>by omega) fun x=>x.2⟩
 ·rw[if_neg e,decide_eq_true_iff];exact⟨fun h=>.inl h,fun h=>h.elim id fun x=>absurd x.1 e⟩
theorem ZM(h:Ug a b=true)(k:Ug b c=true):Ug a c=true:=by rw[UZ] at *;omega
theorem Jjc(a:PrI):Ug a a=false:=by
 cases h:Ug a a with
 | false=>rfl
 | true=>rw[UZ] at h;omega
theorem Jjd(h:Ug a b=false)(ne:a≠b):Ug b a=true:=by
 have n1:¬(a.1<b.1\/(a.1=b.1/\a.2<b.2)):=fun x=>by rw[(UZ a b).mpr x] at h;cases h
 have n2:¬(a.1=b.1/\a.2=b.2):=fun x=>ne (Lm x.1 x.2)
 rw[UZ];omega
theorem JcV(p:PrI):∀l:List PrI,p∉l->l.Pairwise (fun a b=>Ug a b=true)->(Jhf p l).Pairwise (fun a b=>Ug a b=true)
 | [],_,_=>L0 _ _
 | q::l,nm,h=>by
  unfold Jhf;have hq:=Qv.mp h;split
  ·rename_i c;refine Qv.mpr ⟨fun x hx=>?_,JcV p l (fun m=>nm (Qc _ m)) hq.2⟩;rcases Qh.mp ((Wr p l).mem_iff.mp hx) with e|e
   ·rw[e];exact c
   ·exact hq.1 x e
  ·rename_i c;have pq:Ug p q=true:=Jjd (by simpa using c) (fun e=>nm (e▸Qd));refine Qv.mpr ⟨fun x hx=>?_,h⟩;rcases Qh.mp hx with e|e
   ·rw[e];exact pq
   ·exact ZM pq (hq.1 x e)
theorem Jai:∀l:List PrI,l.Nodup->(Jaz l).Pairwise (fun a b=>Ug a b=true)
 | [],_=>List.Pairwise.nil
 | p::l,nd=>JcV p _ (fun m=>(QW.mp nd).1 ((J9 l).mem_iff.mp m)) (Jai l (QW.mp nd).2)
theorem Jcs:∀{a b:List PrI},a.Perm b->a.Pairwise (fun a b=>Ug a b=true)->b.Pairwise (fun a b=>Ug a b=true)->a=b
 | [],b,h,_,_=>(List.nil_perm.mp h).symm
 | x::a,[],h,_,_=>absurd h.length_eq (by simp)
 | x::a,y::b,h,ha,hb=>by
  have hx:=Qv.mp ha
  have hy:=Qv.mp hb
  have e:x=y:=by
   rcases Qh.mp (h.mem_iff.mp Qd) with e|e
   ·exact e
   ·rcases Qh.mp (h.mem_iff.mpr Qd) with e'|e'
    ·exact e'.symm
    ·have:=ZM (hx.1 y e') (hy.1 x e);rw[Jjc] at this;cases this
  subst e;rw[Jcs (R1 h) hx.2 hy.2]
noncomputable abbrev pk(p:PrI):List Key:=LE.dtK p
theorem Jpo(h:pk p=pk q):p=q:=by unfold pk LE.dtK at h;simp at h;exact Lm h.1 h.2
noncomputable def Jkt(td:TE):TE:=fun σ H Q=>td σ H fun x H1=>∃a,x=.ref a/\IsD H1 a/\∀p,H1 p=none->Q (.ref p) (upd H1 p (WX p a))
theorem JjC{X:Cx}{d:Expr}{td:TE}{apos pos:Pos}(hd:PE X d td)(hbase:attributeBase d "keys" X.env (eval d X.env)=eval d X.env:=by rfl)(hline:(apos.endLine == pos.line)=true:=by rfl)
:PE X (.Call (.Attribute d "keys" apos) [] [] pos) (Jkt td):=by
 intro pins s σ H Q I h;refine K3 hbase hline (thn (hd pins s σ H _ I h) fun v s1 ⟨x,H1,I1,r1,a,ex,hD,q⟩=>?_);subst ex;cases r1;obtain⟨t1,t2,y⟩:=ZI I1 hD;refine⟨"dict","dict.keys",Kx,Rv,PySem.F.type_dict_keys,t1,t2,G4 rfl (LN ?_)⟩;refine QO Rv t1 PySem.F.entry_dict_keys ?_ (PySem.F.args_dict_keys_1 _);have hn:H1 s1.heap.objs.size=none:=I1.hok.fresh (Qm _)
 have vw:KdlKeysView (s1.heap.push { cls:=.type "dict_keys",data:=.fields #[.ref a] }) s1.heap.objs.size a:=⟨_,Qi _ rfl,rfl,rfl⟩
 show wpAny _ _ (RV _ _ >>= _) _ _ s1;refine Qa ?_;unfold RV;refine Qa (wpAny_notOrdered_dict t1 (Qe ?_))
 show wpAny _ _ (RE a >>= _) _ _ s1;unfold RE;rw[if_neg (by rw[y];exact Qu)];refine Qa (Qe (Qa (QQ (Qe ⟨_,rfl,?_⟩))));refine⟨.ref s1.heap.objs.size,_,I1.laid (t':=s1.toks) (o:=WX s1.heap.objs.size a) (fun b ob q=>Qf _ q) (Qm _) ⟨vw,⟨_,Qi _ rfl⟩,fun h1 h2 p k=>?_⟩,rfl,q _ hn⟩;obtain⟨o,ho,hc⟩:=p;exact⟨o,k o ho,hc⟩
theorem Jia{ps:List PrI}{p:List Nat}(hp:p.Perm (Q9 ps.length))(ha:∀a b,a<b->b<ps.length->ltP ps (p.getD a 0) (p.getD b 0)=true)(nd:ps.Nodup):(p.map fun i=>ps.getD i (0,0))=Jaz ps:=by
 have hl:p.length=ps.length:=by rw[hp.length_eq,KR]
 refine Jcs ?_ ?_ (Jai ps nd)
 ·refine(hp.map _).trans (List.Perm.trans (.of_eq ?_) (J9 ps).symm);refine Mg (by simp) fun i h1 h2=>?_
  simp[QZ,h2]
 ·refine Gq.mpr fun i j hi hj hij=>?_
  have hj':j<ps.length:=by rw[Qk] at hj;omega
  have:=ha i j hij hj';unfold ltP at this
  have g:∀k,(h:k<p.length)->p.getD k 0=p[k]:=fun k h=>by simp[QZ,h]
  rw[g i (by omega),g j (by omega)] at this
  simpa using this
noncomputable def Jgn:List V->Hp->VK->Prop:=fun xs H Q=>∃r a ps vs,xs=[.ref r]/\H r=some (WX r a)/\Rd H a (LE.dtO ps vs)/\ps.length=vs.length/\ps.length<64 ∧
 (ps.Nodup->∀l (bs:List Addr),H l=none->bs.length=ps.length->(∀(i:Nat) (b:Addr) (p:PrI),bs[i]?=some b->(Jaz ps)[i]?=some p->H b=some (.tup [.int p.1,.int p.2]))->Q (.ref l) (upd H l (.lst (bs.map V.ref))))
theorem KT.get{H:Hp}:∀{kvs:List (List Key×V)} {xs:List (List Key×Addr×Value)},KT H kvs xs->kvs.length=xs.length/\∀(i:Nat) (k:List Key×V) (x:List Key×Addr×Value),kvs[i]?=some k->xs[i]?=some x->k.1=x.1/\H x.2.1=some (.tup (k.1.map kV))
 | _,_,.nil=>⟨rfl,fun i k x e=>by simp at e⟩
 | _,_,.cons h t=>by
  obtain⟨h1,h2⟩:=KT.get t;refine⟨by simp[h1],fun i k x e1 e2=>?_⟩
  cases i with
  | zero=>simp at e1 e2;subst e1 e2;exact⟨h.1,h.2.1⟩
  | succ i=>exact h2 i k x (by simpa using e1) (by simpa using e2)
theorem Jcz(hc:X.calm=true):J3 X (.builtin "sorted") Jgn:=by
 intro pins s σ H xs us Q I r h;obtain⟨p,a,ps,vs0,rfl,ds,hq,hlk,h64,q⟩:=h;obtain⟨u,rfl,rx⟩:=UW r;cases rx;have vw:KdlKeysView s.heap p a:=(show ObjOk X.prog X.w H s.heap p (WX p a) from I.hok p _ ds).1;obtain⟨z,y,ys,kt,o,es,ep,ho,hex,hdat,hes,_,hnd⟩:=Zt I.hok hq;obtain⟨kl,kg⟩:=KT.get kt;have hps:((ps.map pk).zip vs0).length=ps.length:=by rw[GD,Qk,<- hlk,Lh]
 have hyl:ys.length=ps.length:=by rw[<- kl,hps]
 have hsz:es.size=ps.length:=by rw[<- QB,hes,Qk,hyl]
 have hh:X.A.in1.handled=none:=I.ok.hd hc
 have yk:∀(i:Nat) (x:List Key×Addr×Value) (p:PrI),ys[i]?=some x->ps[i]?=some p->x.1=pk p/\H x.2.1=some (.tup [.int p.1,.int p.2]):=fun i x p e1 e2=>by
  have hi:i<ps.length:=(Qn.mp e2).1
  have e3:((ps.map pk).zip vs0)[i]?=some (pk p,vs0[i]):=by rw[LI];exact⟨by rw[Qp,e2];rfl,by simp[hlk▸hi]⟩
  obtain⟨g1,g2⟩:=kg i _ x e3 e1;exact⟨g1.symm,g2⟩
 have nd:ps.Nodup:=by
  have e:ys.map (·.1)=ps.map pk:=by
   refine Gm fun i=>?_
   rw[Qp,Qp]
   by_cases hi:i<ps.length
   ·have h1:ys[i]?=some ys[i]:=Qw (by omega)
    have h2:ps[i]?=some ps[i]:=Qw hi;rw[h1,h2];exact congrArg some (yk i _ _ h1 h2).1
   ·rw[GC (by omega),GC (by omega)];rfl
  rw[e] at hnd;exact List.Pairwise.of_map pk (fun a b h e=>h (congrArg pk e)) hnd
 refine MV kind_sorted plain_sorted entry_sorted (args_sorted1 _) ?_;unfold Builtin.«sorted»;refine Qa (m:=checkCount "sorted" 1 1 _) (Qe ?_);refine Qa (JcD (Jmj (d:=a) (es:=es) (ep:=ep)) hh ⟨vw,o,ho,hex,hdat⟩ (by rw[hsz,sizeLine_eq];omega) fun h' tk acc hk hsz' items=>?_);have hal:acc.toList.length=ps.length:=by rw[QB,items.1,hsz]
 have keyAt:∀(i:Nat) (v:Value),acc.toList[i]?=some v->∃x,ys[i]?=some x/\v=.ref x.2.1:=fun i v e=>by
  obtain⟨en,e1,e2⟩:=items.2 i v (by rw[<- GB];exact e);rw[entry_at hes i] at e1
  cases hy:ys[i]? with
  | none=>rw[hy] at e1;cases e1
  | some x=>rw[hy] at e1;cases e1;exact⟨x,rfl,e2.symm⟩
 refine Qa (wpAny_newList ?_ (by rw[hal,sizeLine_eq];omega));have hoL:(h'.push (seqObj "list" acc.toList.toArray 0)).get? h'.objs.size=some (seqObj "list" acc.toList.toArray 0):=Qi _ rfl;refine Qa (Gn (QO slot_list_sort ⟨_,hoL,rfl⟩ entry_list_sort (Jff (ps:=ps) hoL (by rw[hal];exact h64) ⟨hal,fun i v p e1 e2=>?_⟩ nd fun p hp ha=>⟨_,rfl,?_⟩) (args_list_sort _)))
 ·obtain⟨x,ex,rfl⟩:=keyAt i v e1;obtain⟨_,g2⟩:=yk i x p ex e2;obtain⟨_,its,r2,o2,ho2,hc2,n2,hd2⟩:=(show ObjOk X.prog X.w H s.heap x.2.1 (.tup [.int p.1,.int p.2]) from I.hok _ _ g2)
  cases r2 with
  | cons x1 r3=>cases r3 with
   | cons x2 r4=>cases r4;obtain⟨t1,rfl⟩:=x1;obtain⟨t2,rfl⟩:=x2;exact⟨_,o2,n2,t1,t2,rfl,Qf _ (hk _ _ ho2),hc2,hd2⟩
 ·refine Qe ⟨_,rfl,?_⟩;have perm:p.toList.Perm (Q9 ps.length):=by rw[<- hal];exact hp
  have asc:∀a b,a<b->b<ps.length->ltP ps (p.toList.getD a 0) (p.toList.getD b 0)=true:=fun x y hxy hy=>by
   have:=ha x y hxy (by rw[hal];exact hy)
   have g:∀i,p.toList.getD i 0=p.getD i 0:=fun i=>by rw[QZ,GH,GB]
   rw[g,g];exact this
  have es2:=Jia perm asc nd;obtain⟨e,he⟩:=sortedHeap_at (out:=Kt (p.toList.map fun i=>acc.toList.getD i Value.none)) hoL
  have hle:s.heap.objs.size<=h'.objs.size:=GX hsz'
  have hne:H h'.objs.size=none:=I.hok.fresh hle
  have pl:p.toList.length=ps.length:=by rw[perm.length_eq,KR]
  let bs:List Addr:=p.toList.map fun i=>((ys[i]?).map fun x=>x.2.1).getD 0
  have bl:bs.length=ps.length:=by rw[Qk,pl]
  have low:∀i∈p.toList,i<ps.length:=fun i hi=>by simpa using perm.mem_iff.mp hi
  have rel:Vals (bs.map V.ref) (p.toList.map fun i=>acc.toList.getD i Value.none):=by
   have:∀l:List Nat,(∀i∈l,i<ps.length)->Vals ((l.map fun i=>((ys[i]?).map fun x=>x.2.1).getD 0).map V.ref) (l.map fun i=>acc.toList.getD i Value.none):=by
    intro l hl
    induction l with
    | nil=>exact .nil
    | cons i l ih=>refine .cons ?_ (ih fun j hj=>hl j (Qc _ hj));have hi:=hl i Qd;have ea:acc.toList[i]?=some acc.toList[i]:=Qw (by omega);obtain⟨x,ex,ev⟩:=keyAt i _ ea;show RelV (V.ref (((ys[i]?).map fun x=>x.2.1).getD 0)) (acc.toList.getD i Value.none);rw[QZ,ea,ex,ev];rfl
   exact this _ low
  refine⟨.ref h'.objs.size,_,I.laid (t':=tk) (fun b o x=>?_) hle (show ObjOk X.prog X.w _ _ _ (.lst (bs.map V.ref)) from⟨by rw[Qk,bl,sizeLine_eq];omega,_,e,rel,?_⟩),rfl,q nd _ bs hne bl fun i b pp e1 e2=>?_⟩
  ·have hx:=hk b o x
   have hlt:b<h'.objs.size:=Qj hx;rw[sortedHeap_old (Qr hlt) (by rw[size_push'];exact GK hlt)];exact Qf _ hx
  ·rw[he]
  ·rw[<- es2,Qp] at e2;rw[Qp] at e1
   cases hpi:p.toList[i]? with
   | none=>rw[hpi] at e1;cases e1
   | some j=>rw[hpi] at e1 e2;have hj:=low j (QG hpi);have y1:ys[j]?=some ys[j]:=Qw (by omega);have p1:ps[j]?=some ps[j]:=Qw hj;simp[QZ,y1,p1] at e1 e2;subst e1 e2;exact(yk j _ _ y1 p1).2
noncomputable def Jfj(td ty:TE)(K:Frag):TE:=fun σ H Q=>td σ H fun x H1=>ty σ H1 fun y H2=>∃a b kvs k v,x=.ref a/\y=.ref b/\Rd H2 a (.dT kvs)/\SqT K H2 b (k.map kV)/\Uj kvs k=some v/\Q v H2
theorem Jjz(hu:X.A.units+1<cLine)(ho:PE X o td)(hi:PE X i ty)(hs:JkR i):PE X (.Subscript o i pos) (Jfj td ty X.K):=by
 intro pins s σ H Q I h;refine Jgy MS.lookup hs (thn (ho pins s σ H _ I h) fun u s1 ⟨x,H1,I1,rx,q1⟩=>thn (hi pins s1 σ H1 _ I1 q1) fun iv s2 ⟨y,H2,I2,ry,a,b,kvs,k,v,ex,ey,e,eb,l,q2⟩=>?_);subst ex ey;obtain rfl:u=Value.ref a:=rx;obtain rfl:iv=Value.ref b:=ry;obtain⟨z,hd,xs,rel,dd⟩:=Zt I2.hok e;refine⟨dd.typeIs,?_⟩;obtain⟨w',hw,rw'⟩:=RelO.some_of (v:=v) (o:=(atKey xs k).map (·.2)) (by rw[<- l];exact rel.val k)
 obtain⟨p,hp,hp2⟩:=Gk.mp hw;obtain⟨its,r,⟨ob,h1,h2,n,h3⟩,_⟩:=I2.tuple eb;refine wpAny_getItem_heap (tupleKind_room_in1 hu) ⟨ob,its.toArray,n,h1,h2,h3,by simpa using Ws r⟩ dd hp ?_;rw[hp2];exact⟨v,H2,I2.tok _,rw',q2⟩
theorem JhE{X:Cx}{K:Frag}{o i:Expr}{pos:Pos}{td ty:TE}(hK:X.K=K)(hu:X.A.units+1<cLine)(ho:PE X o td)(hi:PE X i ty)(hs:JkR i):PE X (.Subscript o i pos) (Jfj td ty K):=by subst hK;exact Jjz hu ho hi hs
end L2
namespace LE
open PySem L2 LR
noncomputable def lookP{α:Type}:List (Int×Int)->List α->Int×Int->Option α
 | k::ks,d::ds,n=>if k=n then some d else lookP ks ds n
 | _,_,_=>none
noncomputable def ZD(ks:List (Int×Int))(n:Int×Int):Bool:=ks.any fun k=>decide (k=n)
noncomputable def Up(ks:List (Int×Int))(n:Int×Int):List (Int×Int):=if ZD ks n=true then ks else ks++[n]
noncomputable def setP{α:Type}:List (Int×Int)->List α->Int×Int->α->List α
 | k::ks,d::ds,n,v=>(if k=n then v else d)::setP ks ds n v
 | _,ds,_,_=>ds
noncomputable def putDP{α:Type}(ks:List (Int×Int))(ds:List α)(n:Int×Int)(v:α):List α:=if ZD ks n=true then setP ks ds n v else ds++[v]
theorem JdI{α:Type}:∀(ks:List (Int×Int)) (ds:List α) (n:Int×Int) (v:α),(setP ks ds n v).length=ds.length
 | [],_,_,_=>rfl
 | _::_,[],_,_=>rfl
 | _::ks,_::ds,n,v=>by simp[setP,JdI ks ds n v]
theorem Ja7{α:Type}(ks:List (Int×Int))(ds:List α)(n:Int×Int)(v:α)(h:ks.length=ds.length):(Up ks n).length=(putDP ks ds n v).length:=by unfold Up putDP;split <;> simp[JdI,h]
theorem Jbr(h:dtK p=dtK q):p=q:=Jpo h
theorem VQ:∀(ks:List (Int×Int)) (xs:List V) (n:Int×Int),Uj ((ks.map dtK).zip xs) (dtK n)=lookP ks xs n
 | [],_,_=>rfl
 | _::_,[],_=>rfl
 | k::ks,x::xs,n=>by
  show Uj ((dtK k,x)::(ks.map dtK).zip xs) (dtK n)=_
  by_cases h:k=n
  ·rw[Vb (by rw[h]),lookP,if_pos h]
  ·rw[Va (fun e=>h (Jbr e)),lookP,if_neg h];exact VQ ks xs n
theorem Jcr:∀(ks:List (Int×Int)) (xs:List V) (n:Int×Int),ks.length=xs.length->(((ks.map dtK).zip xs).any fun kv=>decide (kv.1=dtK n))=ZD ks n
 | [],_,_,_=>rfl
 | _::_,[],_,h=>by simp at h
 | k::ks,x::xs,n,h=>by
  show(decide (dtK k=dtK n) || ((ks.map dtK).zip xs).any fun kv=>decide (kv.1=dtK n))=(decide (k=n) || ZD ks n)
  rw[Jcr ks xs n (by simpa using h)];congr 1
  by_cases e:k=n
  ·simp[e]
  ·rw[decide_eq_false e,decide_eq_false fun z=>e (Jbr z)]
theorem Jda:∀(ks:List (Int×Int)) (xs:List V) (n:Int×Int) (v:V),ks.length=xs.length->((ks.map dtK).zip xs).map (fun kv=>if kv.1=dtK n then(kv.1,v) else kv)=(ks.map dtK).zip (setP ks xs n v)
 | [],_,_,_,_=>rfl
 | _::_,[],_,_,h=>by simp at h
 | k::ks,x::xs,n,v,h=>by
  show(if dtK k=dtK n then(dtK k,v) else(dtK k,x))::((ks.map dtK).zip xs).map _=(dtK k,if k=n then v else x)::(ks.map dtK).zip (setP ks xs n v);rw[Jda ks xs n v (by simpa using h)];congr 1
  by_cases e:k=n
  ·rw[if_pos (by rw[e]),if_pos e]
  ·rw[if_neg (fun z=>e (Jbr z)),if_neg e]
theorem JhJ(ks:List (Int×Int))(xs:List V)(n:Int×Int)(v:V)(h:ks.length=xs.length):(HO.dT (UF ((ks.map dtK).zip xs) (dtK n) v))=dtO (Up ks n) (putDP ks xs n v):=by
 unfold dtO UF Up putDP;rw[Jcr ks xs n h];split
 ·rw[Jda ks xs n v h]
 ·rw[QL,Mq (by simpa using h)];rfl
theorem RDL.lookP:∀{ks:List (Int×Int)} {xs:List V} {ds:List D} {n:Int×Int},RDL K C H xs ds->(LE.lookP ks xs n=none/\LE.lookP ks ds n=none)\/∃x d,LE.lookP ks xs n=some x/\LE.lookP ks ds n=some d/\RD K C H x d
 | [],_,_,_,_=>.inl ⟨rfl,rfl⟩
 | _::_,[],[],_,_=>.inl ⟨rfl,rfl⟩
 | _::_,[],_::_,_,h=>by have:=h.1;simp at this
 | _::_,_::_,[],_,h=>by have:=h.1;simp at this
 | k::ks,x::xs,d::ds,n,h=>by
  simp only[LE.lookP]
  by_cases e:k=n
  ·rw[if_pos e,if_pos e];exact .inr ⟨x,d,rfl,rfl,h.head⟩
  ·rw[if_neg e,if_neg e];exact RDL.lookP h.tail
theorem RDL.setP(r:RD K C H v e):∀{ks:List (Int×Int)} {xs:List V} {ds:List D},RDL K C H xs ds->RDL K C H (LE.setP ks xs n v) (LE.setP ks ds n e)
 | [],_,_,h=>h
 | _::_,[],[],h=>h
 | _::_,[],_::_,h=>by have:=h.1;simp at this
 | _::_,_::_,[],h=>by have:=h.1;simp at this
 | k::ks,x::xs,d::ds,h=>by
  simp only[LE.setP];refine .cons ?_ (RDL.setP r h.tail);split
  ·exact r
  ·exact h.head
theorem RDL.putDP{n:Int×Int}{v:V}{e:D}{ks:List (Int×Int)}{xs:List V}{ds:List D}(h:RDL K C H xs ds)(r:RD K C H v e):RDL K C H (LE.putDP ks xs n v) (LE.putDP ks ds n e):=by
 unfold LE.putDP;split
 ·exact RDL.setP r h
 ·exact h.snoc r
noncomputable def Sl.dt:Sl->Option (List (Int×Int)×List D)
 | .bt ks ds=>some (ks,ds)
 | .ot ks ds=>some (ks,ds)
 | _=>none
noncomputable def pr?:Sl->Option (Int×Int)
 | .sh (.tup [.int a,.int b])=>some (a,b)
 | _=>none
noncomputable def Jek:Ev:=fun _=>some (.ot [] [])
noncomputable def Jn9(a k:Ev):Ev:=fun E=>(a E).bind fun s=>s.dt.bind fun p=>((k E).bind pr?).bind fun n=>(lookP p.1 p.2 n).map .sh
noncomputable def Jeo(a:Ev):Ev:=fun E=>(a E).bind fun s=>s.dt.bind fun p=>if p.1.length<64 then some (.own ((Jaz p.1).map prE)) else none
theorem RR.dt(r:RR K C Hs H0 H v s)(e:s.dt=some p):∃l xs,v=.ref l/\H l=some (dtO p.1 xs)/\p.1.length=p.2.length/\RDL K C H0 xs p.2:=by
 cases s with
 | bt ks ds=>cases e;exact r
 | ot ks ds=>cases e;obtain⟨l,xs,h1,h2,_,_,h3⟩:=r;exact⟨l,xs,h1,h2,h3⟩
 | _=>cases e
theorem Jmc(e:pr? s=some n):s=.sh (prE n):=by
 unfold pr? at e;split at e
 ·cases e;rfl
 ·cases e
theorem JmD:SE K C Jkr Jek:=by intro B H0 H σ E r Q I e q;cases e;intro p hp;exact q _ H0 _ ⟨.new hp,Same.refl _,fun _ _ e=>.inl e,I.h.trans (.new hp)⟩ ⟨p,[],rfl,Jk,Same.free I.h hp,hp,rfl,.nil⟩
theorem RD.prI{v:V}{n:Int×Int}(r:RD K C H v (prE n)):∃a,v=.ref a/\SqT K H a ((dtK n).map kV):=by obtain⟨a,xs,e,h,rl⟩:=RD.tupI r;have:xs=[V.int n.1,V.int n.2]:=RDL.ints (ns:=[n.1,n.2]) rl;subst this;exact⟨a,e,h⟩
theorem JrI(ha:SE K C td ed)(hk:SE K C ty ek):SE K C (Jfj td ty K) (Jn9 ed ek):=by
 intro B H0 H σ E r Q I e q;obtain⟨s,e1,e⟩:=bind_some e;obtain⟨p,e2,e⟩:=bind_some e;obtain⟨n,e3,e⟩:=bind_some e;obtain⟨t,e3,e4⟩:=bind_some e3;obtain rfl:=Jmc e4;obtain⟨d,e5,rfl⟩:=map_some e;refine ha B H0 H σ E s _ I e1 fun x H1 H1' s1 r1=>hk B H1 H1' σ E _ _ (I.step s1) e3 fun y H2 H2' s2 r2=>?_
 obtain⟨l,xs,rfl,h,_,rl⟩:=(r1.step s2).dt e2;obtain⟨b,rfl,hb⟩:=RD.prI r2;rcases RDL.lookP (ks:=p.1) (n:=n) rl with ⟨_,z⟩|⟨v,d',z1,z2,z3⟩
 ·rw[z] at e5;cases e5
 ·rw[z2] at e5;cases e5;exact⟨l,b,_,dtK n,v,rfl,rfl,.inl h,s2.i.seqT hb,by rw[VQ];exact z1,q _ _ _ (s1.trans s2) z3⟩
theorem EnvR.slotT{B:Hp}{σ:St}{E:En}{i:Nat}{ks:List (Int×Int)}{ds:List LE.D}(I:EnvR K C B H0 H σ E)(e1:E[i]?=some (.ot ks ds)):∃l xs,σ[i]?=some (some (.ref l))/\H l=some (dtO ks xs)/\H0 l=none/\B l=none/\ks.length=ds.length/\RDL K C H0 xs ds:=by
 rcases I.at' i _ e1 with z|⟨v,h1,l,xs,h2,h3⟩
 ·cases z
 ·subst h2;exact⟨l,xs,h1,h3⟩
noncomputable def JcX:List Sl->Option (Int×Int)
 | [.sh (.int a),.sh (.int b)]=>some (a,b)
 | _=>none
noncomputable def JgR(i:Nat)(ks:En->Option (List Sl))(a:Ev):Es:=fun E=>match E[i]? with
 | some (.ot ps ds)=>(a E).bind fun s=>s.frz.bind fun d=>((ks E).bind JcX).bind fun n=>if ps.length<sizeLine then some (.nx (E.set i (.ot (Up ps n) (putDP ps ds n d)))) else none
 | _=>none
theorem ZG(e:JcX ss=some n):ss=[.sh (.int n.1),.sh (.int n.2)]:=by
 unfold JcX at e;split at e
 ·cases e;rfl
 ·cases e
theorem Jqj(ha:SE K C te ea)(hk:SA K C tk ks):SS K C (Jj9 (Wj i) (Jkx tk) te) (JgR i ks ea):=by
 intro B H0 H σ E o D I e f;unfold JgR at e;split at e
 ·next ps ds h =>
  obtain⟨s,e1,e⟩:=bind_some e;obtain⟨d,e2,e⟩:=bind_some e;obtain⟨n,e3,e⟩:=bind_some e;obtain⟨t,e3,e4⟩:=bind_some e3;obtain rfl:=ZG e4;split at e
  ·next hz =>
   cases e;obtain⟨l,xs,g1,g2,g3,g4,gk,g5⟩:=I.slotT h;refine ha B H0 H σ E _ _ I e1 fun v H1 H1' s1 r1=>?_
   have s2:Step H H0 H (JI H H1 H1') H1':=s1.comp (JC s1.i) fun _ z=>z
   have rv:=RR.frz s1.i r1 e2;refine⟨_,g1,?_⟩;refine hk B _ H1' σ E _ _ (I.step s2) e3 fun ws H3 H3' s3 r3=>?_
   cases r3 with
   | cons a1 r3=>cases r3 with
    | cons a2 r3 =>
     cases r3;rw[RD.intI a1,RD.intI a2];refine⟨show 2<=sizeLine by decide,fun p hp=>?_⟩;have s4:=s2.trans s3;have s5:Step H H0 H H3 (upd H3' p (.tup [.int n.1,.int n.2])):=s4.trans ⟨.new hp,Same.refl _,fun _ _ e=>.inl e,s4.i.trans (.new hp)⟩;have hx:ps.length=xs.length:=gk.trans g5.1.symm;obtain⟨_,n0,nB⟩:=(I.step s5).ownG h rfl g1;have rr:=(g5.mono s5.z).putDP (ks:=ps) (n:=n) (rv.mono s3.z);have m:=(I.step s5).mutG (t':=.ot (Up ps n) (putDP ps ds n d)) (o':=dtO (Up ps n) (putDP ps xs n v)) h rfl rfl g1 ⟨l,_,rfl,Jk,n0,nB,Ja7 _ _ _ _ gk,rr⟩
     refine⟨l,_,rfl,.inr ⟨_,dtK n,p,s5.h _ _ g2,rfl,Jk,?_,rfl⟩,?_⟩
     ·rw[GD,Qk,<- hx,Lh];exact hz
     ·rw[JhJ ps xs n v hx];exact f _ _ _ ⟨m.b,s5.z,(s5.ss I.b).n,m.h⟩ m
  ·cases e
 ·cases e
theorem JmK(ha:SE K C td ed):SE K C (tCB Jgn (Ur (Jkt td) VO)) (Jeo ed):=by
 intro B H0 H σ E r Q I e q;obtain⟨s,e1,e⟩:=bind_some e;obtain⟨p,e2,e⟩:=bind_some e;split at e
 ·next h64 =>
  cases e;refine ha B H0 H σ E s _ I e1 fun x H1 H1' s1 r1=>?_
  obtain⟨l,xs,rfl,h,hk,rl⟩:=r1.dt e2;refine⟨l,rfl,.inr ⟨_,.inl h⟩,fun w hw=>?_⟩;have st:Step H1' H1 H1' H1 (upd H1' w (WX w l)):=⟨.new hw,Same.refl _,fun _ _ e=>.inl e,s1.i.trans (.new hw)⟩
  have s2:=s1.trans st;refine⟨w,l,p.1,xs,rfl,Jk,Rd.put (.inl h) hw,by rw[hk,rl.1],h64,fun nd z bs hz hb hbs=>?_⟩
  have f:=JC (Hs:=H) s2.i
  have r2:RDL K C (JI H H1 (upd H1' w (WX w l))) (bs.map V.ref) ((Jaz p.1).map prE):=by
   refine⟨by rw[Qk,Qk,hb,(J9 p.1).length_eq],fun i x d h1 h2=>?_⟩;rw[Qp] at h1 h2
   cases hbi:bs[i]? with
   | none=>rw[hbi] at h1;cases h1
   | some b =>
    cases hpi:(Jaz p.1)[i]? with
    | none=>rw[hpi] at h2;cases h2
    | some pp=>rw[hbi] at h1;rw[hpi] at h2;cases h1;cases h2;exact .mkT (.inl (.inl (Jby s2.i rfl (hbs i b pp hbi hpi)))) (RDL.ofInts [pp.1,pp.2])
  exact YD f.i s2.h hz r2 fun v H2 H2' s3 r3=>q v H2 H2' ((s2.comp f fun _ y=>y).comp s3 fun _ y=>y) r3
 ·cases e
end LE
namespace L2
open PySem
noncomputable def Ris(xs:Array Nat):Prop:=xs.toList.Pairwise (·<·)
theorem Ris.lt{xs:Array Nat}(r:Ris xs){i j:Nat}(h:i<j)(hj:j<xs.size):xs[i]'(by omega)<xs[j]:=by
 have:=Gq.mp r i j (by simp;omega) (by simpa using hj) h
 simpa using this
theorem Jd8(r:Ris xs)(j:Nat):∀(fuel lo hi:Nat),hi-lo<=fuel->lo<=hi->hi<=xs.size->(∀i,(h:i<xs.size)->i<lo->xs[i]<j)->(∀i,(h:i<xs.size)->hi<=i->j<=xs[i]) ->
 ∃p,Xd xs j fuel lo hi=p/\p<=xs.size/\(∀i,(h:i<xs.size)->i<p->xs[i]<j)/\∀i,(h:i<xs.size)->p<=i->j<=xs[i]
 | 0,lo,hi,hf,h1,h2,ha,hb=>⟨lo,rfl,by omega,ha,fun i hi' hp=>hb i hi' (by omega)⟩
 | fuel+1,lo,hi,hf,h1,h2,ha,hb=>by
  unfold Xd
  by_cases c:lo<hi
  ·rw[if_pos c];have hm:(lo+hi) / 2<xs.size:=by omega
   have e:xs.getD ((lo+hi) / 2) j=xs[(lo+hi) / 2]:=by simp[R3,hm]
   dsimp only;rw[e]
   by_cases d:xs[(lo+hi) / 2]<j
   ·rw[if_pos d];refine Jd8 r j fuel _ _ (by omega) (by omega) h2 (fun i h hi'=>?_) hb;rcases LF i ((lo+hi) / 2) with q|q
    ·exact GY (r.lt q hm) d
    ·have:i=(lo+hi) / 2:=by omega
     subst this;exact d
   ·rw[if_neg d];refine Jd8 r j fuel _ _ (by omega) (by omega) (by omega) ha (fun i h hi'=>?_);rcases LF ((lo+hi) / 2) i with q|q
    ·exact Gz (Me.mp d) (GX (r.lt q h))
    ·have:i=(lo+hi) / 2:=by omega
     subst this;exact Me.mp d
  ·rw[if_neg c];exact⟨lo,rfl,by omega,ha,fun i hi' hp=>hb i hi' (by omega)⟩
theorem bel(r:Ris xs)(j:Nat):Q5 xs j<=xs.size/\(∀i,(h:i<xs.size)->i<Q5 xs j->xs[i]<j)/\∀i,(h:i<xs.size)->Q5 xs j<=i->j<=xs[i]:=by obtain⟨p,e,h1,h2,h3⟩:=Jd8 r j xs.size 0 xs.size (by omega) (by omega) (Qm _) (fun i _ h=>by omega) (fun i h h'=>by omega);have e':Q5 xs j=p:=e;rw[e'];exact⟨h1,h2,h3⟩
theorem Jie(r:Ris xs)(hi:i<xs.size):Q5 xs (xs[i]+1)=i+1:=by
 obtain⟨h1,h2,h3⟩:=bel r (xs[i]+1);rcases Ly (Q5 xs (xs[i]+1)) (i+1) with c|c|c
 ·have:=h3 i hi (by omega);omega
 ·exact c
 ·have l:i+1<xs.size:=by omega
  have:=h2 (i+1) l c
  have:=r.lt (i:=i) (j:=i+1) (GJ i) l;omega
theorem Jif(r:Ris xs):Q5 xs 0=0:=by
 obtain⟨h1,h2,h3⟩:=bel r 0;rcases Nat.eq_zero_or_pos (Q5 xs 0) with c|c
 ·exact c
 ·have:=h2 0 (by omega) c;omega
theorem Jmw(r:Ris xs)(no:xs[Q5 xs j]?≠some j):Ris (SetTable.insertAt xs (Q5 xs j) j):=by
 obtain⟨h1,h2,h3⟩:=bel r j;unfold Ris;rw[SetTable.toList_insertAt];have r':=r;unfold Ris at r';rw[<- List.take_append_drop (Q5 xs j) xs.toList] at r';obtain⟨ra,rb,rc⟩:=Kf.mp r'
 have low:∀x∈xs.toList.take (Q5 xs j),x<j:=fun x hx=>by obtain⟨i,hi,e⟩:=Gs.mp hx;rw[K1,QB] at hi;rw[List.getElem_take,RQ] at e;rw[<- e];exact h2 i (by omega) (by omega)
 have high:∀x∈xs.toList.drop (Q5 xs j),j<x:=fun x hx=>by
  obtain⟨i,hi,e⟩:=Gs.mp hx;rw[K2,QB] at hi;rw[List.getElem_drop,RQ] at e;have g:=h3 (Q5 xs j+i) (by omega) (by omega);rw[e] at g;rcases LF j x with q|q
  ·exact q
  ·exfalso
   have ex:x=j:=by omega
   apply no
   have b0:Q5 xs j<xs.size:=by omega
   rw[Kl b0];have g0:=h3 (Q5 xs j) b0 (Qm _);rcases Nat.eq_zero_or_pos i with z|z
   ·subst z;simp only[Nat.add_zero] at e;rw[e,ex]
   ·have:=r.lt (i:=Q5 xs j) (j:=Q5 xs j+i) (by omega) (by omega);rw[e] at this;omega
 refine Kf.mpr ⟨ra,Qv.mpr ⟨high,rb⟩,fun a ha b hb=>?_⟩;rcases Qh.mp hb with e|e
 ·rw[e];exact low a ha
 ·exact rc a ha b e
noncomputable def Vac(t:SetTable)(j:Nat):Prop:=t.place[Q5 t.place j]?≠some j
theorem JdR(h:∀i,t.slot j≠.live i):Vac t j:=by intro e;refine h (Q5 t.place j) ?_;unfold SetTable.slot;dsimp only;rw[e];simp
theorem JaF(t:SetTable)(p:SetTable.Probe):(t.advance p).dummy=p.dummy:=by unfold SetTable.advance;split <;> rfl
theorem Wz:∀(fuel:Nat) (p:SetTable.Probe) {j:Nat} {d:Option Nat},(∀x,p.dummy=some x->Vac t x)->M0 t hashAt h fuel p=some (.empty j d)->Vac t j/\∀x,d=some x->Vac t x
 | 0,p,j,d,hp,e=>by simp[M0] at e
 | fuel+1,p,j,d,hp,e=>by
  unfold M0 at e;split at e
  ·rename_i c
   injection e with e
   injection e with e1 e2
   subst e1 e2;exact⟨JdR fun i q=>(by rw[c] at q;cases q),hp⟩
  ·rename_i c;refine Wz fuel _ (fun x hx=>?_) e;rw[JaF] at hx
   injection hx with hx
   subst hx;exact JdR fun i q=>by rw[c] at q;cases q
  ·split at e
   ·injection e with e;cases e
   ·exact Wz fuel _ (fun x hx=>hp x (by rwa [JaF] at hx)) e
theorem JiO(e:t.freeSlot h=some (j,b)):Vac t j:=by
 unfold SetTable.freeSlot at e;split at e
 ·rename_i j' d c
  injection e with e
  injection e with e1 _
  unfold SetTable.probe at c;obtain⟨a1,a2⟩:=Wz _ _ (fun x hx=>by simp[SetTable.probeStart] at hx) c
  cases d with
  | none=>simp at e1;subst e1;exact a1
  | some x=>simp at e1;subst e1;exact a2 _ rfl
 ·cases e
noncomputable def TOk(led:Bool)(t:SetTable):Prop:=(t.plain=true->Ris t.place)/\t.led=led
theorem Vl(led:Bool)(t:SetTable)(n:Nat)(h:t.led=led):TOk led (t.standIn n):=⟨fun e=>by simp[SetTable.standIn] at e,h⟩
theorem JkE(h:TOk led t):TOk led { t with plain:=false }:=⟨fun e=>by simp at e,h.2⟩
theorem Jm0(h:TOk led t)(es:Array (Int×Value))(k:Int)(x:Value):TOk led (layNew t es k x).2.1:=by
 unfold layNew;split
 ·rename_i j b c;dsimp only;unfold SetTable.orStandIn;split
  ·exact⟨fun e=>Jmw (h.1 (by simpa [Xe] using e)) (JiO c),by simpa [Xe] using h.2⟩
  ·exact Vl _ _ _ (by simpa [Xe] using h.2)
 ·exact Vl _ _ _ h.2
theorem ZO(g:Nat->Option Nat):∀l:List Nat,((l.filterMap fun j=>(g j).map (j,·)).map (·.1)).Sublist l
 | []=>.slnil
 | j::l=>by
  rw[LM]
  cases h:g j with
  | none=>exact(ZO g l).cons _
  | some k=>exact(ZO g l).cons₂ _
theorem JkF{t:SetTable}{mask f m:Nat}{led plain:Bool}{hs:Array Int}{o:Array Nat}(e:RW mask f m led plain hs=some (t,o)):TOk led t:=by
 unfold RW at e
 cases c:SetTable.layClean mask hs with
 | none=>rw[c] at e;cases e
 | some ow =>
  rw[c] at e;have e':some _=some (t,o):=e
  injection e' with e'
  injection e' with e1 e2
  subst e1;refine⟨fun _=>?_,rfl⟩;show List.Pairwise _ _;refine List.Pairwise.sublist (ZO _ _) ?_;exact List.pairwise_lt_range
theorem JhV(h:TOk led t)(es:Array (Int×Value))(n:Nat):TOk led (relayAll t es n).2.1:=by
 unfold relayAll;split
 ·rename_i t' o c;dsimp only;split
  ·have:=JkF (show RW _ _ _ _ _ _=some (t',o) from c);rw[h.2] at this;exact this
  ·exact Vl _ _ _ h.2
 ·exact Vl _ _ _ h.2
theorem JhU(a b:Nat)(led:Bool):TOk led (.fresh a b led):=⟨fun _=>List.Pairwise.nil,rfl⟩
theorem Zw{α:Type}:∀{l:List α} {i:Nat} (h:i<l.length),(l[i]::l.eraseIdx i).Perm l
 | x::l,0,_=>.refl _
 | x::l,i+1,h=>by have:=Zw (l:=l) (i:=i) (by simpa using h);exact(List.Perm.swap x (l[i]'(by simpa using h)) _).trans (this.cons x)
theorem Jgj{α:Type}(next:Nat->Nat):∀(fuel k:Nat) (left:List α) (out:Array α),left.length=fuel->(Xf next fuel k left out).toList.Perm (out.toList++left)
 | 0,k,left,out,h=>by have:left=[]:=Qy h;subst this;simp[Xf]
 | fuel+1,k,left,out,h=>by
  unfold Xf;have hl:next k % left.length<left.length:=Nat.mod_lt _ (by omega)
  rw[Qw hl];dsimp only;refine(Jgj next fuel (k+1) _ _ (by rw[MN hl];omega)).trans ?_;rw[MY,GF];refine List.Perm.append_left _ ?_;exact(Zw hl)
theorem Ja5{α:Type}(next:Nat->Nat)(xs:Array α):(pickOrder next xs).toList.Perm xs.toList:=by
 have:=Jgj next xs.size 0 xs.toList #[] (by simp)
 simpa [pickOrder] using this
theorem JaS{α:Type}:∀(n:Nat) (xs:List α) (s:Shared) (Q:List α->Shared->Prop),xs.length=n->(∀ys d,ys.Perm xs->Q ys { s with drawn:=d })->wpAny (model prog w) A (drawOrder n xs) Q E s
 | 0,xs,s,Q,hl,h=>by have:xs=[]:=Qy hl;subst this;exact Qe (h [] s.drawn (.refl _))
 | n+1,xs,s,Q,hl,h=>by
  cases xs with
  | nil=>simp at hl
  | cons x xs =>
   show wpAny _ A ((choose .order (x::xs).length) >>= _) Q E s;refine Qa ?_;intro Γ p hΓ;unfold choose;rw[Sem.wp_choose];refine⟨by simp,?_⟩;rw[Sem.wp_pure]
   generalize hi:(model prog w).w.draws Source.order (s.drawn.get Source.order) % (x::xs).length=i
   have hlt:i<(x::xs).length:=by rw[<- hi];exact Nat.mod_lt _ (by simp)
   rw[Qw hlt];show wpAny _ A (drawOrder n ((x::xs).eraseIdx i) >>= _) Q E _;refine Qa (JaS n _ _ _ (by rw[MN hlt];omega) fun ys d hp=>?_);refine Qe (h ((x::xs)[i]::ys) d ?_);exact(hp.cons _).trans (Zw hlt)
end L2
namespace L2
open PySem PyProof.Rows
structure SetS (prog:Program) (w:World) (led:Bool) (h:Heap) (a:Addr) (S:Int->Bool) (n:Nat) (o:Obj) (es:Array (Int×Value)) (ep:Nat) (t:SetTable):Prop where
 got:h.get? a=some o
 ex:o.ExactSet
 data:o.data=.set es ep t
 els:ElemsOf (intKind prog w) es.toList
 mem:∀k,S k=true↔∃e∈es.toList,(intKind prog w).is k e.2=true
 few:es.size<scanBound
 fits:t.fits es.size=true
 size:es.size=n
 tok:TOk led t
noncomputable def SetL(prog:Program)(w:World)(led:Bool)(h:Heap)(a:Addr)(S:Int->Bool)(n:Nat):Prop:=∃o es ep t,SetS prog w led h a S n o es ep t
theorem SetL.move(x:SetL prog w led h a S n)(e:∀o,h.get? a=some o->h'.get? a=some o):SetL prog w led h' a S n :=
 let ⟨o,es,ep,t,z⟩:=x;⟨o,es,ep,t,{ z with got:=e _ z.got }⟩
theorem SetL.as(x:SetL prog w led h a S n)(e:∀k,S k=S' k)(en:n=n'):SetL prog w led h a S' n':=by have:S=S':=funext e;subst this en;exact x
theorem JdL{h:Heap}{o:Obj}{es:Array (Int×Value)}{ep:Nat}{t:SetTable}(ho:h.get? a=some o)(hex:o.ExactSet)(hd:o.data=.set es ep t){es':Array (Int×Value)}{t':SetTable}{S':Int->Bool}
 (h1:ElemsOf (intKind prog w) es'.toList) (h2:∀k,S' k=true↔∃e∈es'.toList,(intKind prog w).is k e.2=true) (h3:es'.size<scanBound) (h4:t'.fits es'.size=true) (h5:TOk led t') :
 SetS prog w led (h.update a (Obj.putSet es' t')) a S' es'.size { o with data:=.set es' (ep+1) t' } es' (ep+1) t' :=
 ⟨(SetOf_store (knd:=intKind prog w) ho hex hd h1 h2 h3 h4).1,hex,rfl,h1,h2,h3,h4,rfl,h5⟩
theorem JdO{g:Bool->Sem Unit}(hg:∀(b:Bool) (s1:Shared) (Q:Unit->Shared->Prop),Q () s1->wpAny (model prog w) A (g b) Q E s1)
 {o:Obj} {es:Array (Int×Value)} {ep:Nat} {t:SetTable} (ho:s.heap.get? a=some o) (hex:o.ExactSet) (hd:o.data=.set es ep t) {es1:Array (Int×Value)} {t2:SetTable} {S':Int->Bool}
 (h1:ElemsOf (intKind prog w) es1.toList) (h2:∀k,S' k=true↔∃e∈es1.toList,(intKind prog w).is k e.2=true) (h3:es1.size<scanBound) (h4:t2.fits es1.size=true) (h5:TOk led t2) {dm:Bool} {R:Option Bool->Shared->Prop}
 (h:∀h',QA a s.heap h'->SetL prog w led h' a S' es1.size->R (some true) { s with heap:=h' }) :
 wpAny (model prog w) A (storeSet a es1 t2 >>= fun _=>if (!dm && t2.tooFull)=true then
  (g (relayAll t2 es1 (La es1.size)).2.2 >>= fun _=>storeSet a (relayAll t2 es1 (La es1.size)).1 (relayAll t2 es1 (La es1.size)).2.1 >>= fun _=>pure (some true))
  else pure (some true)) R E s:=by
 refine Qa (wpAny_storeSet_of ho hd ?_ (fits_of_scanBound h3));have z:=JdL (prog:=prog) (w:=w) ho hex hd h1 h2 h3 h4 h5;have sb:=Gc s.heap a (Obj.putSet es1 t2);split
 ·have hp:=relayAll_perm t2 es1 (La es1.size)
  have hf:=relayAll_fits t2 es1 (La es1.size)
  have hk:=JhV h5 es1 (La es1.size)
  generalize relayAll t2 es1 (La es1.size)=T at hp hf hk ⊢
  obtain⟨es2,t3,gv⟩:=T;dsimp only at hp hf hk ⊢;have sz:es2.size=es1.size:=by rw[<- QB,hp.length_eq,QB]
  refine Qa (hg _ _ _ ?_);refine Qa (wpAny_storeSet_of z.got rfl ?_ (fits_of_scanBound (by rw[sz];exact h3)));have z2:=JdL (prog:=prog) (w:=w) (led:=led) (S':=S') (es':=es2) (t':=t3) z.got hex rfl (h1.perm hp) (fun k=>(h2 k).trans ⟨fun⟨e,he,q⟩=>⟨e,hp.mem_iff.mpr he,q⟩,fun⟨e,he,q⟩=>⟨e,hp.mem_iff.mp he,q⟩⟩) (by rw[sz];exact h3) hf hk;rw[sz] at z2;exact Qe (h _ (sb.trans (Gc _ a _)) ⟨_,_,_,_,z2⟩)
 ·exact Qe (h _ sb ⟨_,_,_,_,z⟩)
theorem JmQ{k:Int}{tk:Tok}{Q:Bool->Shared->Prop}(hS:SetL prog w led s.heap a S n)(room:n+1<scanBound)
 (h:∀h',QA a s.heap h'->SetL prog w led h' a (fun k'=>S k' || decide (k'=k)) (if S k then n else n+1)->Q (!S k) { s with heap:=h' }) :
 wpAny (model prog w) A (setAddHashed a (.int k tk) ((intKind prog w).hash k)) Q E s:=by
 have key:(intKind prog w).is k (.int k tk)=true:=intKind_is _ _ _ _;obtain⟨o,es,ep,t,z⟩:=hS
 have few1:es.size+1<scanBound:=by rw[z.size];exact room
 unfold setAddHashed setAddHashedIn;refine Gn (Qa (G9 z.got z.data z.fits ?_));dsimp only;rw[byScan_of (x:=.int k tk) rfl z.few z.els];simp only[↓reduceIte];unfold setAddByScan;refine Qa (Qa (Kq (Qa (wpAny_setScan_of key z.got z.data z.fits z.els ?_))))
 cases hr:List.findIdx? (fun e=>(intKind prog w).is k e.2) es.toList with
 | some j =>
  dsimp only;obtain⟨hj,hpj,_⟩:=List.findIdx?_eq_some_iff_getElem.mp hr;have yes:S k=true:=(z.mem k).mpr ⟨es.toList[j],Rf hj,hpj⟩;refine Qe (Qe ?_)
  have:=h s.heap (Xc a s.heap) (SetL.as ⟨o,es,ep,t,z⟩ (fun k'=>by
   cases hk:S k' with
   | true=>rfl
   | false =>
    have:k'≠k:=fun e=>by rw[e,yes] at hk;cases hk
    simp[this]) (by rw[yes];rfl))
  rw[yes] at this;exact this
 | none =>
  dsimp only
  have no:S k=false:=by
   cases hk:S k with
   | false=>rfl
   | true=>obtain⟨e,he,hp⟩:=(z.mem k).mp hk;have:=List.findIdx?_eq_none_iff.mp hr e he;rw[hp] at this;cases this
  have hp:=layNew_perm t es ((intKind prog w).hash k) (.int k tk)
  have hf:=layNew_fits t es ((intKind prog w).hash k) (.int k tk)
  have ht:=Jm0 z.tok es ((intKind prog w).hash k) (.int k tk)
  generalize layNew t es ((intKind prog w).hash k) (.int k tk)=L at hp hf ht ⊢
  obtain⟨es1,t1,dm,gv⟩:=L;dsimp only at hp hf ht ⊢;rw[MY] at hp;have e1:ElemsOf (intKind prog w) es1.toList:=(z.els.push key rfl).perm hp;have m1:=mem_push_iff key z.mem hp;have sz1:es1.size=n+1:=by rw[<- QB,hp.length_eq,Qx,QB,z.size];rfl
  have f1:es1.size<scanBound:=by rw[sz1];exact room
  have gw:∀(b:Bool) {s1:Shared} {Q':Unit->Shared->Prop},Q' () s1->wpAny (model prog w) A (match b with | true=>rule "set.scan.the-table-gave-way" | false=>pure ()) Q' E s1:=fun b s1 Q' hq=>by
   cases b
   ·exact Qe hq
   ·exact Kq hq
  refine Qa (gw _ ?_)
  have fin:∀h',QA a s.heap h'->SetL prog w led h' a (fun k'=>S k' || decide (k'=k)) es1.size->Q true { s with heap:=h' }:=by intro h' sb hS';have:=h h' sb;rw[no] at this;rw[sz1] at hS';exact this hS'
  split
  ·refine Qa ?_;rw[hashByValue_scannable 8 (x:=.int k tk) rfl];refine Qe ?_;refine JdO (led:=led) ?_ z.got z.ex z.data e1 m1 f1 ?_ ?_ ?_
   ·intro b s1 Q' hq;cases b <;> first|exact Qe hq|exact Kq hq
   ·split
    ·exact hf
    ·exact SetTable.fits_plain_off hf
   ·split
    ·exact ht
    ·exact JkE ht
   ·intro h' sb hS';dsimp only;exact Qe (fin h' sb hS')
  ·refine Qa (Qe ?_);simp only[↓reduceIte];refine JdO (led:=led) ?_ z.got z.ex z.data e1 m1 f1 hf ht ?_
   ·intro b s1 Q' hq;cases b <;> first|exact Qe hq|exact Kq hq
   ·intro h' sb hS';dsimp only;exact Qe (fin h' sb hS')
section
variable{prog:Program}{w:World}{A:Around}{R:Result->Shared->Prop}{I:Addr}{fp wr:List Addr}{G:Array GenState->Array GenState->Prop}{n:Nat}{P:Nat->Value->Prop}{St:Nat->Shared->Prop}
theorem Jkg{led:Bool}(W:WalksS prog w A.in1 I fp wr G n P St)(a:Addr)(hf:a∉fp)(val:Nat->Int)(hv:∀i v,P i v->∃t,v=.int (val i) t)(hb:n+1<scanBound) :
 ∀(k i:Nat) (s:Shared),n-i=k->i<=n->St i s->SetL prog w led s.heap a (fun k'=>(firstMet val i).any (· == k')) (firstMet val i).length ->
  (∀s',Moved (a::wr) G s s'->SetL prog w led s'.heap a (fun k'=>(firstMet val n).any (· == k')) (firstMet val n).length->R (.ok (.ret .none)) s') ->
  codeAny (model prog w) A (.builtin "set.update.loop" ⟨[.ref a,.ref I],[]⟩) R s:=by
 have hw:a∉wr:=fun h=>hf (W.sub _ h)
 have up:∀b∈wr,b∈a::wr:=fun b hb=>Qc _ hb
 intro k
 induction k with
 | zero =>
  intro i s hk hi st hS hR;obtain rfl:i=n:=by omega
  refine GO Rn ?_;rw[Gu L1 _];show wpAny _ A.in1 (pyNext (.ref I) >>= _) _ _ s;exact Qa (W.done s _ _ st fun s' hm=>Qe (hR s' (hm.mono up) (hS.move fun o e=>hm.heap a _ hw e)))
 | succ k ih =>
  intro i s hk hi st hS hR;have lt:i<n:=by omega
  refine GO Rn ?_;rw[Gu L1 _];show wpAny _ A.in1 (pyNext (.ref I) >>= _) _ _ s;refine Qa (W.item i s _ _ lt st fun v s' hP st' hm=>?_);obtain⟨t,rfl⟩:=hv i v hP;have hS':=hS.move (h':=s'.heap) fun o e=>hm.heap a _ hw e
  show wpAny _ A.in1 (holding [Value.int (val i) t] (setAdd a (.int (val i) t)) >>= _) _ _ s';refine Qa (Gn ?_);unfold setAdd;refine Gn (Qa ((intKind prog w).pyHash (k:=val i) (intKind_is _ _ _ _) ?_))
  have room:(firstMet val i).length+1<scanBound:=by have:=firstMet_length_le val i;omega
  refine JmQ (s:={ s' with toks:=s'.toks+1 }) hS' room fun h' sb hS2=>?_
  have hS3:=hS2.as (S':=fun k'=>(firstMet val (i+1)).any (· == k')) (n':=(firstMet val (i+1)).length) (fun k'=>by rw[firstMet_succ,step_any]) (by rw[firstMet_succ,step_length]);refine Qe ⟨GL L1 _,ih (i+1) _ (by omega) lt (W.frame _ s' _ _ st' (Ld _) fun b hb o e=>?_) hS3 fun s'' hm'' hS''=>?_⟩
  ·rw[sb.2 b (fun h:b=a=>hf (by rw[<- h];exact hb))];exact e
  ·refine hR s'' (Moved.trans W.gtrans ((hm.mono up).then_heap (Ld _) fun b o hb e=>?_) hm'') hS'';rw[sb.2 b (fun h:b=a=>hb (by rw[h];exact Qd))];exact e
end
noncomputable def YJ(w:World):Bool:=!(w.params.followText "set-order")
noncomputable def Uy(led:Bool):Obj:={ cls:=.type "set",dict:=none,data:=.set #[] 0 (.fresh 0 0 led) }
theorem Jkf(led:Bool)(e:h.get? a=some (Uy led)):SetL prog w led h a (fun _=>false) 0 :=
 ⟨_,#[],0,_,e,⟨rfl,rfl,rfl⟩,rfl,fun e he=>by simp at he,fun k=>by simp,by decide,by rfl,rfl,JhU 0 0 led⟩
theorem JdN(a:Value)(h:Q (.ref s.heap.objs.size) { s with heap:=s.heap.push (Uy (YJ w)) }):
 codeAny (model prog w) A (.call (.builtin "set.__new__") ⟨[.type "set",a],[]⟩) (wants Q E) s:=by
 refine codeAny_of_tree ?_;show wpAny _ A.in1 (checkBuiltinCall "set.__new__" ⟨[.type "set",a],[]⟩ >>= fun _=>again (.builtin "set.__new__" ⟨[.type "set",a],[]⟩)) _ _ s;refine Qa (Ku (F.newCall_set_1 a) (Qe ⟨GL F.plain_set_new _,GO F.entry_set_new ?_⟩));rw[Gu F.plain_set_new _];unfold Builtin.«set.__new__» Builtin.Frozenset.newClass;have hsub:=sub_set_self;obtain⟨hp,g,d,tk,os⟩:=s;dsimp only;wp_walk;refine Lb (Qe ?_)
 dsimp only;simp only[newObj];exact Qa (wpAny_alloc (Qe (Qe h)))
theorem Jg3{l:Addr}{items:Array Value}{ns:List Int}{Q:Value->Shared->Prop}(hh:A.handled=none)(hl:s.heap.IsList l items)(hi:IntsAre items.toList ns)(hb:items.size+1<scanBound)
 (h:∀(h':Heap) (tk:Nat),SetL prog w (YJ w) h' s.heap.objs.size (fun k'=>(firstMet (fun i=>ns.getD i 0) items.size).any (· == k')) (firstMet (fun i=>ns.getD i 0) items.size).length ->
  (∀b o,s.heap.get? b=some o->h'.get? b=some o)->Q (.ref s.heap.objs.size) { s with heap:=h',toks:=tk }) :
 wpAny (model prog w) A (call (.type "set") [.ref l]) Q E s:=by
 obtain⟨c,tl,hmro⟩:=Lj.mro;have hmade:=Lj.made;have hsub:=Lj.sub;refine wpAny_call (codeAny_of_tree ?_);show wpAny _ _ (callAny (.type "set") _) _ _ _;refine Qe ⟨Code.quiet_builtin _ (by decide +kernel),GO F.entry_type_call ?_⟩;rw[Around.under_plain (weight_type_call_type "set" [.ref l] []) rfl];have n1:=Lj.notType;have n2:=Lj.canCreate;have n3:=F.typeCall_set_1 (.ref l)
 repeat (any_goals (first|assumption|wp_step))
 refine Lf (JdN (.ref l) (E:=E) (Q:=fun obj s1=>obj=.ref s.heap.objs.size/\s1={ s with heap:=s.heap.push (Uy (YJ w)) }) ⟨rfl,rfl⟩) fun r s1 hr=>?_
 cases r with
 | error e=>exact hr
 | ok fl =>
  cases fl with
  | ret obj =>
   obtain⟨rfl,rfl⟩:=hr;have hS:(s.heap.push (Uy (YJ w))).get? s.heap.objs.size=some (Uy (YJ w)):=Qi _ rfl;have hT:Shared.TypeIs { s with heap:=s.heap.push (Uy (YJ w)) } (.ref s.heap.objs.size) "set":=⟨_,hS,rfl⟩
   have i1:=Lj.init.lookup
   have i2:=Lj.init.bind (.ref s.heap.objs.size)
   repeat (any_goals (first|assumption|wp_step))
   refine Lf (codeAny_call_builtin (R:=wants (fun r s2=>r=.none/\∃h' tk,s2={ s with heap:=h',toks:=tk } ∧
    SetL prog w (YJ w) h' s.heap.objs.size (fun k'=>(firstMet (fun i=>ns.getD i 0) items.size).any (· == k')) (firstMet (fun i=>ns.getD i 0) items.size).length ∧
    (∀b o,s.heap.get? b=some o->h'.get? b=some o)) E) Lj.init.plain F.entry_set_init (check_set_init_1 hT ?_)) fun r2 s2 hr2=>?_
   ·obtain⟨ol,hol,hcl,nl,hdl⟩:=hl;obtain⟨oc,od,oda,osl⟩:=ol;simp only at hcl hdl;subst hcl;subst hdl;have hol':(s.heap.push (Uy (YJ w))).get? l=some { cls:=.type "list",dict:=od,data:=.seq items nl,slots:=osl }:=Qf _ hol;have b1:=F.sub_list_set;have b2:=F.sub_list_frozenset;have b3:(Value.type "list" == Value.type "dict")=false:=by decide
    have hl1:(s.heap.push (Uy (YJ w))).IsList l items:=⟨_,hol',rfl,nl,rfl⟩
    unfold Builtin.«set.__init__» noKeywords Builtin.Frozenset.updateFrom
    generalize hPI:pyIter=PI
    wp_walk
    subst hPI;refine L4 hl1 (Qa (RO ?_));have lS:l<s.heap.objs.size:=Qj hol;have hh3:A.in1.in1.in1.handled=none:=by simp[hh]
    have neI:l≠(s.heap.push (Uy (YJ w))).objs.size:=by rw[Gg];exact Qr (GK lS)
    have off:s.heap.objs.size∉[(s.heap.push (Uy (YJ w))).objs.size,l]:=by rw[Gg];simp only[Qh,QJ,QF,or_false,not_or];exact⟨Qr (GJ _),QY lS⟩
    refine Jkg (led:=YJ w) ((Walks.list hh3 _ l neI items).toS) s.heap.objs.size off (fun i=>ns.getD i 0) (fun i v hv=>IntsAre.int_at hi i v (by rw[GB];exact hv)) hb (items.size-0) 0 _ (by omega) (Gr _)
     ⟨⟨_,Qi _ rfl,rfl,rfl⟩,(hl1.push _)⟩ (Jkf _ (Qf _ hS)) fun s' hm hS'=>?_
    obtain⟨h',g',d',tk',os'⟩:=s';have eg:g'=s.gens:=hm.gens;have ed:d'=s.drawn:=hm.drawn;have eo:os'=s.os:=hm.os;subst eg;subst ed;subst eo;show wpAny _ _ _ _ _ _;refine Qe ?_;show wpAny _ _ (ret Value.none) _ _ _;refine Qe ⟨rfl,h',tk',rfl,hS',fun b o e=>?_⟩;have hb0:=Qj e;refine hm.heap b o ?_ (Qf _ (Qf _ e));rw[Gg];simp only[Qh,QJ,QF,or_false,not_or]
    exact⟨Qr hb0,Qr (GK hb0)⟩
   ·cases r2 with
    | error e=>exact hr2
    | ok fl2 =>
     cases fl2 with
     | ret r =>
      obtain⟨rfl,h',tk,rfl,hS',hk'⟩:=hr2
      repeat (any_goals (first|assumption|wp_step))
      exact h _ _ hS' hk'
     | _=>exact hr2.elim
  | _=>exact hr.elim
end L2
namespace L2
open PySem PyProof.Rows PySem.W
theorem si_slot_next:Slot "set_iterator" "__next__" "set_iterator.__next__" :=
 .of (owner:="set_iterator") (n:="__next__") (by rw[typeLookup_type,builtinLookup_eq_fast];kernel_rfl) (by decide +kernel) (by decide +kernel) (by decide +kernel) (.inl (by decide +kernel)) (by rw[KI];kernel_rfl)
theorem Vq:entryFor table "set_iterator.__next__"=some Builtin.«set_iterator.__next__»:=entryFor_of_tree (by kernel_rfl)
theorem JdQ:Manifest.owners.lookup (String.ofList ['r','o','t','a','r','e','t','i','_','t','e','s'].reverse)=some Manifest.sig_set_iterator:=by kernel_rfl
theorem Wf(a:Value):argsOk "set_iterator.__next__" ⟨[a],[]⟩:=by
 unfold argsOk;rw[signature?_of (id:="set_iterator.__next__") (n:=['_','_','t','x','e','n','_','_']) (o:=['r','o','t','a','r','e','t','i','_','t','e','s']) (by kernel_rfl) JdQ]
 kernel_rfl
theorem Wg:Slot "set_iterator" "__iter__" "set_iterator.__iter__" :=
 .of (owner:="set_iterator") (n:="__iter__") (by rw[typeLookup_type,builtinLookup_eq_fast];kernel_rfl) (by decide +kernel) (by decide +kernel) (by decide +kernel) (.inl (by decide +kernel)) (by rw[KI];kernel_rfl)
theorem Jax:entryFor table "set_iterator.__iter__"=some Builtin.«dict_keyiterator.__iter__»:=entryFor_alias (id':="dict_keyiterator.__iter__") (by kernel_rfl) rfl (by decide +kernel) (by kernel_rfl)
theorem Jcd(a:Value):argsOk "set_iterator.__iter__" ⟨[a],[]⟩:=by
 unfold argsOk;rw[signature?_of (id:="set_iterator.__iter__") (n:=['_','_','r','e','t','i','_','_']) (o:=['r','o','t','a','r','e','t','i','_','t','e','s']) (by kernel_rfl) JdQ]
 kernel_rfl
theorem Jag:entryFor table "set.__iter__"=some Builtin.«frozenset.__iter__»:=entryFor_alias (id':="frozenset.__iter__") (by kernel_rfl) rfl (by decide +kernel) (by kernel_rfl)
noncomputable def SIt(h:Heap)(I d:Addr)(f:Value)(i n ep:Nat):Prop:=∃o,h.get? I=some o/\o.cls=.type "set_iterator"/\o.data=.fields #[f,.int i 0,.ref d,.int n 0,.int ep 0]
section
variable{prog:Program}{w:World}{A:Around}{E:Value->Shared->Prop}{s:Shared}{I d:Addr}{f:Value}{i n ep:Nat}{es:Array (Int×Value)}{t:SetTable}{o:Obj}
theorem SIt.type(x:SIt s.heap I d f i n ep):s.TypeIs (.ref I) "set_iterator":=let ⟨o,ho,hc,_⟩:=x;⟨o,ho,hc⟩
theorem SIt.at{h h':Heap}(x:SIt h I d f i n ep)(e:∀o,h.get? I=some o->h'.get? I=some o):SIt h' I d f i n ep:=let ⟨o,ho,r⟩:=x;⟨o,e _ ho,r⟩
theorem Jgv(hit:SIt s.heap I d f i n ep)(h:Q (.ref I) s):wpAny (model prog w) A (pyIter (.ref I)) Q E s:=by refine L7 hit.type Wg (QO Wg hit.type Jax ?_ (Jcd _));show wpAny _ _ (ret (.ref I)) _ _ s;exact Qe ⟨_,rfl,"set_iterator",_,hit.type,si_slot_next.lookup,h⟩
theorem Jgw{Q:Option Value->Shared->Prop}(hh:A.handled=none){h1:Heap}(hx:∀h',KF I s.heap h'->Q none { s with heap:=h' })(he:KF I s.heap h1) :
 wpAny (model prog w) A.in1 (newExc (.type "StopIteration") [] >>= fun e=>raiseNew e) (fun(fin:Fin) s'=>∃r,fin=.done (.ret r)/\wpAny (model prog w) A (pure (some r)) Q E s') (fun e s'=>wpAny (model prog w) A (isInstance e (.type "StopIteration") >>= fun b=>if b=true then pure none else throw e) Q E s') { s with heap:=h1 }:=by
 refine Qa ?_;simp only[newExc,newTuple];refine Qa (QQ ?_ (by size_fits));refine Qa (m:=firstArgMember _ _) (Ku (a:=Value.none) (by first | rfl | (simp only[firstArgMember];rfl)) ?_);refine QQ ?_ (by size_fits);simp only[raiseNew];refine Qa (M5 ?_);rw[show A.in1.handled=none from hh];refine Qa (Qe (RN ?_));refine Qa (G5 (T:="StopIteration") (b:=true) ⟨_,Qi _ rfl,rfl⟩ K6 ?_)
 exact Qe (hx _ ((he.push _).push _))
theorem Jgu{Q:Option Value->Shared->Prop}{sl:Nat}{r:Option (Value×Nat)}(hh:A.handled=none)(hit:SIt s.heap I d (.int sl 0) i es.size ep)(ho:s.heap.get? d=some o)(hd:o.data=.set es ep t)(hf:t.fits es.size=true)
 (nx:∀(A:Around) (E:Value->Shared->Prop) (Q:Option (Value×Nat)->Shared->Prop),Q r s->wpAny (model prog w) A (setNext d sl i ep) Q E s)
 (item:∀x j h',r=some (x,j)->SIt h' I d (.int j 0) (i+1) es.size ep->QA I s.heap h'->Q (some x) { s with heap:=h' })
 (done:r=none->∀h',KF I s.heap h'->Q none { s with heap:=h' }):wpAny (model prog w) A (pyNext (.ref I)) Q E s:=by
 obtain⟨oi,hoi,hci,hdi⟩:=id hit;unfold pyNext;refine Qa (GR (QI (name:=Gj "__next__") hit.type si_slot_next (QO si_slot_next hit.type Vq ?_ (Wf _))));unfold Builtin.«set_iterator.__next__»;refine Qa (Qe (Qa (RP hoi hdi ?_)));show wpAny _ _ (setEntries d >>= _) _ _ s;refine Qa (My ho hd hf ?_);rw[if_neg (by simp)];show wpAny _ _ (setNext d ((sl:Int).toNat) ((i:Int).toNat) ((ep:Int).toNat) >>= _) _ _ s
 rw[GZ,GZ,GZ];refine Qa (nx _ _ _ ?_)
 cases hr:r with
 | some p =>
  obtain⟨x,j⟩:=p;dsimp only;refine Qa (Kg hoi hdi (by simp) ?_);have h1:=QT (LQ (·.setIfInBounds 0 (rawInt j))) hoi (Km (Gy hdi _));have d1:=Gy hdi (·.setIfInBounds 0 (rawInt j));refine Qa (Kg h1 d1 (by simp) ?_);refine Qe ⟨_,rfl,Qe (item x j _ hr ⟨_,QT _ h1 (Km (Gy d1 _)),?_,?_⟩ ((Gc ..).trans (Gc ..)))⟩
  ·rw[Lx,Lx];exact hci
  ·rw[Gy d1];simp[rawInt]
 | none=>dsimp only;refine Qa (Kg hoi hdi (by simp) ?_);exact Jgw hh (done hr) (Gc ..).extBut
theorem JdP{Q:Option Value->Shared->Prop}{ps:List Nat}{oT:Obj}(hh:A.handled=none)(hit:SIt s.heap I d (.ref T) i es.size ep)(ho:s.heap.get? d=some o)(hd:o.data=.set es ep t)(hf:t.fits es.size=true)(hT:s.heap.get? T=some oT)(hTd:oT.data=.seq (ps.map fun(i:Nat)=>rawInt i).toArray cT)(item:∀p e h',ps[i]?=some p->es[p]?=some e->SIt h' I d (.ref T) (i+1) es.size ep->QA I s.heap h'->Q (some e.2) { s with heap:=h' })(inn:∀p∈ps,p<es.size)(done:ps[i]?=none->∀h',KF I s.heap h'->Q none { s with heap:=h' }):wpAny (model prog w) A (pyNext (.ref I)) Q E s:=by
 obtain⟨oi,hoi,hci,hdi⟩:=id hit;unfold pyNext;refine Qa (GR (QI (name:=Gj "__next__") hit.type si_slot_next (QO si_slot_next hit.type Vq ?_ (Wf _))));unfold Builtin.«set_iterator.__next__»;refine Qa (Qe (Qa (RP hoi hdi ?_)));show wpAny _ _ (setEntries d >>= _) _ _ s;refine Qa (My ho hd hf ?_);rw[if_neg (by simp)];show wpAny _ _ (seqItems? (.ref T) >>= _) _ _ s
 unfold seqItems?;refine Qa (Qa (wpAny_load hT ?_));rw[hTd];refine Qe ?_;dsimp only;rw[GZ];have ee:(ps.map fun(i:Nat)=>rawInt i).toArray[i]?=(ps[i]?).map fun(i:Nat)=>rawInt i:=by simp
 rw[ee]
 cases hp:ps[i]? with
 | some p =>
  have hlt:=inn p (QG hp)
  show wpAny _ _ (setNextDrawn d ((p:Int).toNat) ((ep:Int).toNat) >>= _) _ _ s;rw[GZ,GZ];unfold setNextDrawn;refine Qa (Qa (G9 ho hd hf ?_));dsimp only;rw[if_neg (by simp)];refine Qa (Qe ?_);rw[Kl hlt];dsimp only;refine Qe ?_;refine Qa (Kg hoi hdi (by simp) ?_);refine Qe ⟨_,rfl,Qe (item p es[p] _ hp (Kl hlt) ⟨_,QT _ hoi (Km (Gy hdi _)),?_,?_⟩ (Gc ..))⟩
  ·rw[Lx];exact hci
  ·rw[Gy hdi];simp[rawInt]
 | none =>
  show wpAny _ _ (setField (.ref I) 0 (rawInt 0) >>= _) _ _ s;refine Qa (Kg hoi hdi (by simp) ?_)
  have h1:=QT (LQ (·.setIfInBounds 0 (rawInt 0))) hoi (Km (Gy hdi _))
  have d1:=Gy hdi (·.setIfInBounds 0 (rawInt 0))
  generalize hg:s.heap.update I (LQ (·.setIfInBounds 0 (rawInt 0)))=g at h1
  have sb:QA I s.heap g:=by rw[<- hg];exact Gc ..
  generalize LQ (·.setIfInBounds 0 (rawInt 0)) oi=oj at h1 d1
  refine Qa (Kg (s:={ s with heap:=g }) h1 d1 (by simp) ?_);exact Jgw (s:=s) hh (done hp) (sb.trans (Gc ..)).extBut
noncomputable def SHas(h:Heap)(d:Addr)(es:Array (Int×Value))(ep:Nat)(t:SetTable):Prop:=∃o,h.get? d=some o/\o.ExactSet/\o.data=.set es ep t
theorem SHas.at{h h':Heap}(x:SHas h d es ep t)(e:∀o,h.get? d=some o->h'.get? d=some o):SHas h' d es ep t:=let ⟨o,ho,r⟩:=x;⟨o,e _ ho,r⟩
theorem JmU(bt:w.params.followText "set-order"=true)(hs:SHas s.heap d es ep t)(hf:t.fits es.size=true)(h:Q (((pickOrder (w.params.setOrder d ep) es)[i]?).map fun e=>(e.2,sl)) s):wpAny (model prog w) A (setNext d sl i ep) Q E s:=by
 obtain⟨o,ho,_,hd⟩:=hs;unfold setNext setsByText;refine Qa (G9 ho hd hf (Qa (Qa (Lb (Qe ?_)))));show wpAny _ _ (if w.params.followText "set-order"=true then _ else _) _ _ s;rw[if_pos bt,if_neg (by simp)];refine Qa ?_;unfold setWalk setsByText;refine Qa (G9 ho hd hf (Qa (Qa (Lb (Qe ?_)))));show wpAny _ _ (if w.params.followText "set-order"=true then _ else _) _ _ s
 rw[if_pos bt];exact Qa (Lb (Qe (Qe h)))
noncomputable def Jfd(t:SetTable)(i:Nat):Nat:=if i=0 then 0 else t.place.getD (i-1) 0+1
theorem Jkj(r:Ris t.place)(h:i<=t.place.size):Q5 t.place (Jfd t i)=i:=by
 unfold Jfd
 by_cases c:i=0
 ·rw[if_pos c,c];exact Jif r
 ·rw[if_neg c];have hi:i-1<t.place.size:=by omega
  have e:t.place.getD (i-1) 0=t.place[i-1]:=by simp[R3,hi]
  rw[e,Jie r hi];omega
theorem Jkl(bt:w.params.followText "set-order"=false)(hs:SHas s.heap d es ep t)(hf:t.fits es.size=true)(tok:TOk (YJ w) t)(nd:(!t.plain && decide (es.size>1))=false)(hi:i<=es.size)(h:Q ((es[i]?).map fun e=>(e.2,Jfd t (i+1))) s):wpAny (model prog w) A (setNext d (Jfd t i) i ep) Q E s:=by
 obtain⟨o,ho,_,hd⟩:=hs;have hp:t.place.size=es.size:=by simp only[SetTable.fits,QU,beq_iff_eq] at hf;exact hf.1
 have ris:Ris t.place:=by
  cases c:t.plain with
  | true=>exact tok.1 c
  | false =>
   rw[c] at nd;have z:es.size<=1:=by simpa using nd
   unfold Ris;have:t.place.toList.length<=1:=by rw[QB];omega
   match t.place.toList,this with
   | [],_=>exact .nil
   | [x],_=>exact L0 _ _
 have led:t.led=true:=by rw[tok.2];unfold YJ;rw[bt];rfl
 unfold setNext setsByText;refine Qa (G9 ho hd hf (Qa (Qa (Lb (Qe ?_)))));show wpAny _ _ (if w.params.followText "set-order"=true then _ else _) _ _ s;rw[if_neg (by rw[bt];exact Qu)];show wpAny _ _ (if (!t.plain && decide (es.size>1))=true then _ else _) _ _ s;rw[if_neg (by rw[nd];exact Qu)];refine Qa (m:=if (!t.led && !es.isEmpty)=true then _ else _) ?_;rw[if_neg (by rw[led];simp)]
 refine Qe ?_;dsimp only;rw[Jkj ris (by omega)];refine Qe ?_
 cases c:es[i]? with
 | none=>rw[c] at h;exact h
 | some e =>
  have hlt:i<t.place.size:=by rw[hp];exact(MM.mp c).1
  rw[Kl hlt];rw[c] at h
  have:Jfd t (i+1)=t.place[i]+1:=by unfold Jfd;rw[if_neg (by omega)];simp[R3,hlt]
  rw[Lp,this] at h;exact h
theorem JmS{Q:Value->Shared->Prop}(hh:A.handled=none)(hs:SHas s.heap d es ep t)(hf:t.fits es.size=true)(tok:TOk (YJ w) t)(hz:es.size<=sizeLine)
 (h:∀(I:Addr) (h':Heap) (dr:Drawn) (ys:List Value) (fp:List Addr) (St:Nat->Heap->Prop),ys.Perm (es.toList.map (·.2))->s.heap.objs.size<=I->(∀b o,s.heap.get? b=some o->h'.get? b=some o) ->
  Walks prog w A I fp [I] es.size (fun i v=>ys[i]?=some v) St->St 0 h'->(∀b∈fp,s.heap.objs.size<=b\/b=d)->(∀b∈fp,b<h'.objs.size)->Q (.ref I) { s with heap:=h',drawn:=dr }) :
 wpAny (model prog w) A (pyIter (.ref d)) Q E s:=by
 obtain⟨o,ho,hex,hd⟩:=id hs;have hT:s.TypeIs (.ref d) "set":=⟨o,ho,hex.1⟩
 have dlt:d<s.heap.objs.size:=Qj ho;refine L7 hT F.slot_set_iter (QO F.slot_set_iter hT Jag ?_ (F.args_set_iter_1 _));unfold Builtin.«frozenset.__iter__» Builtin.Frozenset.slot0 Builtin.Frozenset.sizeOf Builtin.Frozenset.addrOf;refine Qa (Qa (Qe (Qe ?_)));refine Qa (Qa (My ho hd hf (Qe ?_)));refine Qa ?_;unfold setDrawn setsByText;refine Qa (G9 ho hd hf (Qa (Qa (Lb (Qe (Qe ?_))))))
 show wpAny _ _ (if (!w.params.followText "set-order" && (!t.plain && decide (es.size>1)))=true then _ else _) _ _ s
 have one:∀(sl:Nat->Nat) (ys:List Value),sl 0=0->ys.Perm (es.toList.map (·.2))->ys.length=es.size ->
  (∀(i:Nat) (s:Shared),i<=es.size->SHas s.heap d es ep t->∀(A:Around) (E:Value->Shared->Prop) (Q:Option (Value×Nat)->Shared->Prop),Q ((ys[i]?).map fun v=>(v,sl (i+1))) s->wpAny (model prog w) A (setNext d (sl i) i ep) Q E s) ->
  Walks prog w A s.heap.objs.size [s.heap.objs.size,d] [s.heap.objs.size] es.size (fun i v=>ys[i]?=some v) (fun i h=>SIt h s.heap.objs.size d (.int (sl i) 0) i es.size ep/\SHas h d es ep t/\i<=es.size):=fun sl ys s0 pm yl nx=>{
  sub:=fun b hb=>by simp at hb;simp[hb]
  frame:=fun i h h' st hk=>⟨st.1.at fun o e=>hk _ (by simp) o e,st.2.1.at fun o e=>hk d (by simp) o e,st.2.2⟩
  item:=fun i s1 Q E hi st hQ=>by
   obtain⟨o1,ho1,_,hd1⟩:=id st.2.1;refine Jgu hh st.1 ho1 hd1 hf (fun A E Q hq=>nx i s1 st.2.2 st.2.1 A E Q hq) (fun x j h' e hit' hs'=>?_) (fun e=>?_)
   ·obtain⟨v,e1,e2⟩:=Gk.mp e;cases e2;exact hQ _ h' s1.toks e1 ⟨hit',st.2.1.at fun o x=>hs'.extBut d o (Qr dlt) x,hi⟩ fun b o hb x=>hs'.extBut b o (fun h=>hb (by simp[h])) x
   ·rw[Ru,LL] at e;omega
  done:=fun s1 Q E st hQ=>by obtain⟨o1,ho1,_,hd1⟩:=id st.2.1;refine Jgu hh st.1 ho1 hd1 hf (fun A E Q hq=>nx _ s1 st.2.2 st.2.1 A E Q hq) (fun x j h' e _ _=>?_) (fun _ h' he=>hQ h' s1.toks fun b o hb e=>he b o (fun h=>hb (by simp[h])) e);obtain⟨v,e1,e2⟩:=Gk.mp e;have:=(Qn.mp e1).1;omega
  self:=fun _ _ _ _ st hQ=>Jgv st.1 hQ }
 have enter:∀(sl:Nat->Nat) (ys:List Value),sl 0=0->ys.Perm (es.toList.map (·.2))->ys.length=es.size ->
  (∀(i:Nat) (s:Shared),i<=es.size->SHas s.heap d es ep t->∀(A:Around) (E:Value->Shared->Prop) (Q:Option (Value×Nat)->Shared->Prop),Q ((ys[i]?).map fun v=>(v,sl (i+1))) s->wpAny (model prog w) A (setNext d (sl i) i ep) Q E s) ->
  Q (.ref s.heap.objs.size) { s with heap:=s.heap.push { cls:=.type "set_iterator",data:=.fields #[.int 0 0,.int 0 0,.ref d,.int es.size 0,.int ep 0] } }:=fun sl ys s0 pm yl nx=>by
  refine h s.heap.objs.size _ s.drawn ys [s.heap.objs.size,d] _ pm (Qm _) (fun b o e=>Qf _ e) (one sl ys s0 pm yl nx) ⟨⟨_,Qi _ rfl,rfl,?_⟩,hs.at fun o e=>Qf _ e,Gr _⟩ (fun b hb=>?_) (fun b hb=>?_)
  ·rw[s0];rfl
  ·rcases Qh.mp hb with e|e
   ·exact .inl (Rp e.symm)
   ·exact .inr (by simpa using e)
  ·rw[Gg];rcases Qh.mp hb with e|e
   ·rw[e];exact GJ _
   ·rw[QJ.mp e];exact GK dlt
 cases bt:w.params.followText "set-order" with
 | true =>
  rw[if_neg (by simp)];refine Qa (Qe ?_);unfold setEpoch;refine Qa (Qa (G9 ho hd hf (Qe ?_)));refine Qa (QQ ?_);refine Qe ⟨_,rfl,"set_iterator",_,⟨_,Qi _ rfl,rfl⟩,si_slot_next.lookup,?_⟩;refine enter (fun _=>0) ((pickOrder (w.params.setOrder d ep) es).toList.map (·.2)) rfl ((Ja5 _ es).map _) (by rw[Qk,(Ja5 _ es).length_eq,QB]) fun i s1 hi hs1 A E Q hq=>JmU bt hs1 hf ?_
  rw[Qp,GB,Kh] at hq;exact hq
 | false =>
  cases dw:(!t.plain && decide (es.size>1)) with
  | false =>
   rw[if_neg (by simp)];refine Qa (Qe ?_);unfold setEpoch;refine Qa (Qa (G9 ho hd hf (Qe ?_)));refine Qa (QQ ?_);refine Qe ⟨_,rfl,"set_iterator",_,⟨_,Qi _ rfl,rfl⟩,si_slot_next.lookup,?_⟩;refine enter (Jfd t) (es.toList.map (·.2)) rfl (.refl _) (by rw[Qk,QB]) fun i s1 hi hs1 A E Q hq=>Jkl bt hs1 hf tok dw hi ?_
   rw[Qp,GB,Kh] at hq;exact hq
  | true =>
   rw[if_pos (by simp)];refine Qa (JaS _ _ _ _ (by rw[KR]) fun ps dr pm=>?_);refine Qa (L6 (items:=ps.map fun(i:Nat)=>rawInt i) ?_ (by rw[Qk,pm.length_eq,KR];exact hz));have hT1:(s.heap.push { cls:=.type "tuple",data:=.seq (ps.map fun(i:Nat)=>rawInt i).toArray }).get? s.heap.objs.size=some { cls:=.type "tuple",data:=.seq (ps.map fun(i:Nat)=>rawInt i).toArray }:=Qi _ rfl
   have ho1:(s.heap.push { cls:=.type "tuple",data:=.seq (ps.map fun(i:Nat)=>rawInt i).toArray }).get? d=some o:=Qf _ ho
   generalize hg:s.heap.push { cls:=.type "tuple",data:=.seq (ps.map fun(i:Nat)=>rawInt i).toArray }=g at hT1 ho1 ⊢
   have gz:g.objs.size=s.heap.objs.size+1:=by rw[<- hg,Gg]
   have gk:∀b o,s.heap.get? b=some o->g.get? b=some o:=fun b o e=>by rw[<- hg];exact Qf _ e
   unfold setEpoch;refine Qa (Qa (G9 (s:={ s with heap:=g,drawn:=dr }) ho1 hd hf (Qe ?_)));refine Qa (QQ ?_);refine Qe ⟨_,rfl,"set_iterator",_,⟨_,Qi _ rfl,rfl⟩,si_slot_next.lookup,?_⟩;have inn:∀p∈ps,p<es.size:=fun p hp=>by simpa using pm.mem_iff.mp hp
   have pl:ps.length=es.size:=by rw[pm.length_eq,KR]
   have dne:d≠g.objs.size:=by rw[gz];exact Qr (GK dlt)
   have tne:s.heap.objs.size≠g.objs.size:=by rw[gz];exact Qr (GJ _)
   refine h g.objs.size _ dr (ps.map fun p=>(es[p]?.map (·.2)).getD Value.none) [g.objs.size,d,s.heap.objs.size] (fun i h=>SIt h g.objs.size d (.ref s.heap.objs.size) i es.size ep/\SHas h d es ep t/\h.get? s.heap.objs.size=some { cls:=.type "tuple",data:=.seq (ps.map fun(i:Nat)=>rawInt i).toArray }) ?_ (by rw[gz];exact Ld _) (fun b o e=>Qf _ (gk b o e)) ?_ ⟨⟨_,Qi _ rfl,rfl,rfl⟩,⟨o,Qf _ ho1,hex,hd⟩,Qf _ hT1⟩ (fun b hb=>?_) (fun b hb=>?_)
   ·refine(pm.map _).trans (.of_eq ?_);refine Mg (by simp) fun i h1 h2=>?_
    have hi:i<es.size:=by simpa using h1
    simp[hi]
   ·exact {
     sub:=fun b hb=>by simp at hb;simp[hb]
     frame:=fun i h h' st hk=>⟨st.1.at fun o e=>hk _ (by simp) o e,st.2.1.at fun o e=>hk d (by simp) o e,hk _ (by simp) _ st.2.2⟩
     item:=fun i s1 Q E hi st hQ=>by
      obtain⟨o1,ho1,_,hd1⟩:=id st.2.1;refine JdP hh st.1 ho1 hd1 hf st.2.2 rfl (fun p e h' e1 e2 hit' hs'=>?_) inn (fun e=>?_)
      ·exact hQ _ h' s1.toks (by rw[Qp,e1];simp[e2]) ⟨hit',st.2.1.at fun o x=>hs'.extBut d o dne x,hs'.extBut _ _ tne st.2.2⟩ fun b o hb x=>hs'.extBut b o (fun h=>hb (by simp[h])) x
      ·rw[LL] at e;omega
     done:=fun s1 Q E st hQ=>by obtain⟨o1,ho1,_,hd1⟩:=id st.2.1;refine JdP hh st.1 ho1 hd1 hf st.2.2 rfl (fun p e h' e1 _ _ _=>?_) inn (fun _ h' he=>hQ h' s1.toks fun b o hb e=>he b o (fun h=>hb (by simp[h])) e);have:=(Qn.mp e1).1;omega
     self:=fun _ _ _ _ st hQ=>Jgv st.1 hQ }
   ·simp only[Qh,QF,or_false] at hb;rcases hb with e|e|e
    ·exact .inl (by rw[e,gz];exact Ld _)
    ·exact .inr e
    ·exact .inl (Rp e.symm)
   ·rw[Gg,gz];simp only[Qh,QF,or_false] at hb;rcases hb with e|e|e
    ·rw[e,gz];exact GJ _
    ·rw[e];exact GK (GK dlt)
    ·rw[e];exact GK (GJ _)
end
end L2
namespace L2
open PySem PyProof.Rows PySem.W PySem.Spec
theorem Ji3{Q:Bool->Shared->Prop}(hT:s.TypeIs (.ref d) "set")(h:Q false s):wpAny (model prog w) A (G1 (.ref d)) Q E s:=by
 unfold G1;refine Qa (Kk hT PySem.F.slot_set_len.lookup ?_)
 generalize hid:("set.__len__":String)=id0
 wp_delta
 rw[show splitId id0=some ("set","__len__") from by subst hid;decide +kernel];subst hid;refine Qa (G5 (T:="set") (b:=true) hT (by rw[KI];kernel_rfl) ?_);refine GQ (fun hab=>absurd hab (by decide)) (fun _=>?_);refine GQ (fun _=>?_) (fun hab=>absurd (by decide +kernel) hab);exact Qa (LC hT (Qe h))
theorem Jfa{R:Result->Shared->Prop}(hh:A.handled=none)(hs:SHas s.heap d es ep t)(hf:t.fits es.size=true)(tok:TOk (YJ w) t)(hz:es.size<=sizeLine)(S:Addr)(ne:S≠d)(res:Value)(hS:s.heap.get? S=some { cls:=.type "list",data:=.seq #[] })
 (hR:∀h' tk dr acc c,(∀b o,b≠S->s.heap.get? b=some o->h'.get? b=some o)->h'.get? S=some { cls:=.type "list",dict:=none,data:=.seq acc c,slots:=#[] }->acc.toList.Perm (es.toList.map (·.2))->R (.ok (.ret res)) { s with heap:=h',toks:=tk,drawn:=dr }) :
 wpAny (model prog w) A.in1 (Q7 (.ref S) (.ref d) res)
  (fun fin s'=>match fin with|.done f=>R (.ok f) s'|.again c'=>c'.quiet=true/\codeAny (model prog w) A c' R s') (fun e s'=>R (.error e) s') s:=by
 obtain⟨o,ho,hex,hd⟩:=id hs;have hT:s.TypeIs (.ref d) "set":=⟨o,ho,hex.1⟩
 have Slt:S<s.heap.objs.size:=Qj hS;unfold Q7;refine Qa (LC (T:="set") hT ?_)
 have h1:Kc (.ref S) (.ref d)=false:=by simp[Kc,ne]
 have h2:(Value.type "set" == Value.type "list")=false:=by decide
 have h3:(Value.type "set" == Value.type "tuple")=false:=by decide
 simp only[h1,h2,h3,LO,GG,if_false];refine Qa (JmS (A:=A.in1) hh hs hf tok hz fun I h' dr ys fp St pm le old W st fpo fpl=>?_);have SI:S∉fp:=fun m=>(fpo S m).elim (fun x=>absurd Slt (Me.mpr x)) fun x=>ne x
 have hS1:=old S _ hS
 have key:∀(g:Heap) (c1 tk:Nat),St 0 g->(∀b o,b≠S->s.heap.get? b=some o->g.get? b=some o)->g.get? S=some { cls:=.type "list",data:=.seq #[] c1 } ->
  codeAny (model prog w) A (.builtin "list.extend.loop" ⟨[.ref S,.ref I,res],[]⟩) R { s with heap:=g,toks:=tk,drawn:=dr }:=by
  intro g c1 tk st1 hk hS2;refine codeAny_extend_loopS W.toS hz S SI res es.size 0 _ #[] c1 rfl (Gr _) st1 hS2 (ItemsOf.nil _) fun s' acc c' hm hS' hacc=>?_
  rw[Moved.eq_with hm];refine hR s'.heap s'.toks dr acc c' (fun b o hb e=>hm.heap b o (fun m=>?_) (hk b o hb e)) hS' ?_
  ·rcases Qh.mp m with e'|m
   ·exact hb e'
   ·rw[QJ] at m;exact absurd (Qj e) (Me.mpr (m▸le))
  ·have yl:ys.length=es.size:=by rw[pm.length_eq,Qk,QB]
   have:acc.toList=ys:=Mg (by rw[QB,hacc.1,yl]) fun i a1 a2=>by have:ys[i]?=some acc.toList[i]:=hacc.2 i acc.toList[i] (by rw[<- GB];exact Qw a1);rw[Qw a2] at this;exact(QK this).symm
   rw[this];exact pm
 refine Qa (Gn (Ji3 (s:={ s with heap:=h',drawn:=dr }) ⟨o,old _ _ ho,hex.1⟩ ?_));refine GQ (fun _=>?_) (fun _=>Qe ⟨GL Go _,key _ _ _ st (fun b o _ e=>old b o e) hS1⟩);refine Qa (Kq (Qa ?_));show wpAny _ _ (updateSeq S (·.push .none) >>= fun _=>updateSeq S (·.pop)) _ _ _;refine Qa (GP hS1 rfl ?_);have hS2:=QT (G7 (·.push Value.none)) hS1 rfl
 refine GP (hz:=by seq_fits) hS2 rfl ?_;have hS3:=QT (G7 (·.pop)) hS2 rfl;refine Qe ⟨GL Go _,key _ _ _ ?_ (fun b o hb e=>?_) hS3⟩
 ·refine W.frame 0 _ _ st fun b hb o e=>?_
  have bS:b≠S:=fun h=>SI (h▸hb)
  exact(QM _ _ (QP bS)).trans ((QM _ _ (QP bS)).trans e)
 ·exact(QM _ _ (QP hb)).trans ((QM _ _ (QP hb)).trans (old b o e))
theorem JdM(hh:A.handled=none)(hs:SHas s.heap d es ep t)(hf:t.fits es.size=true)(tok:TOk (YJ w) t)(hz:es.size<=sizeLine)(h:∀(h':Heap) (tk:Nat) (dr:Drawn) (acc:Array Value),(∀b o,s.heap.get? b=some o->h'.get? b=some o)->s.heap.objs.size<h'.objs.size->acc.toList.Perm (es.toList.map (·.2))->R acc.toList { s with heap:=h',toks:=tk,drawn:=dr }):wpAny (model prog w) A (collect (.ref d)) R E s:=by
 obtain⟨o,ho,hex,hd⟩:=id hs;have dlt:d<s.heap.objs.size:=Qj ho;have old:∀b o,s.heap.get? b=some o->(s.heap.push { cls:=.type "list",data:=.seq ([]:List Value).toArray }).get? b=some o:=fun b o e=>Qf _ e
 unfold collect;refine Qa (RO (GO entry_proto_collect' ?_));rw[Gu MC _];show wpAny _ A.in1 (newList [] >>= fun l=>again (.builtin "list.__iadd__" ⟨[l,.ref d],[]⟩)) _ _ s;refine Qa (QQ (Qe ⟨GL K9 _,GO entry_list_iadd' ?_⟩));rw[Gu K9 _];have at0:(s.heap.push { cls:=.type "list",data:=.seq ([]:List Value).toArray }).get? s.heap.objs.size=some { cls:=.type "list",data:=.seq #[] }:=Qi _ rfl
 have fin:∀(h':Heap) (tk:Nat) (dr:Drawn) (acc:Array Value) (c:Nat),(∀b o,s.heap.get? b=some o->h'.get? b=some o)->h'.get? s.heap.objs.size=some { cls:=.type "list",dict:=none,data:=.seq acc c,slots:=#[] }->acc.toList.Perm (es.toList.map (·.2)) ->
  wpAny (model prog w) A (load s.heap.objs.size >>= fun o=>match o.data with | .seq xs _=>pure xs.toList | _=>unsupported "internal:collect") R E { s with heap:=h',toks:=tk,drawn:=dr }:=fun h' tk dr acc c hk hS hi=>Qa (wpAny_load hS (Qe (h h' tk dr acc hk (Qj hS) hi)))
 have got:=Jfa (prog:=prog) (A:=A) (s:={ s with heap:=s.heap.push { cls:=.type "list",data:=.seq ([]:List Value).toArray } }) (R:=fun q s'=>∃h' tk dr acc c,q=.ok (.ret (.ref s.heap.objs.size))/\s'={ s with heap:=h',toks:=tk,drawn:=dr }/\(∀b o,s.heap.get? b=some o->h'.get? b=some o)/\h'.get? s.heap.objs.size=some { cls:=.type "list",dict:=none,data:=.seq acc c,slots:=#[] }/\acc.toList.Perm (es.toList.map (·.2)))
  hh (hs.at fun o e=>old _ o e) hf tok hz s.heap.objs.size (QY dlt) (.ref s.heap.objs.size) at0 (fun h' tk dr acc c hk hS hi=>⟨h',tk,dr,acc,c,rfl,rfl,fun b o e=>hk b o (Qr (Qj e)) (old b o e),hS,hi⟩)
 refine KU got (fun f s' x=>?_) fun e s' ⟨_,_,_,_,_,z,_⟩=>nomatch z
 cases f with
 | done f=>obtain⟨h',tk,dr,acc,c,e,rfl,hk,hS,hi⟩:=x;cases e;exact fin h' tk dr acc c hk hS hi
 | again c1=>exact⟨x.1,Lf x.2 fun q s2 ⟨h',tk,dr,acc,c,e1,e2,hk,hS,hi⟩=>by subst e1;subst e2;exact fin h' tk dr acc c hk hS hi⟩
noncomputable def fM(ns:List Int):List Int:=firstMet (fun i=>ns.getD i 0) ns.length
theorem JfP(ns:List Int):fM ns=ns.foldl step_dedup []:=by
 unfold fM firstMet;congr 1;refine Mg (by simp) fun i h1 h2=>?_
 simp[QZ,h2]
theorem JcF:∀(ns acc:List Int),acc.Nodup->(ns.foldl step_dedup acc).Nodup
 | [],acc,h=>h
 | n::ns,acc,h=>by
  rw[QS];refine JcF ns _ ?_;unfold step_dedup;split
  ·exact h
  ·rename_i c;refine Lz.mpr ⟨h,by simp,fun a ha b hb=>?_⟩;rw[QJ] at hb;subst hb;intro e;subst e;exact c (Kp.mpr ⟨a,ha,by simp⟩)
theorem Jis:∀(ns acc:List Int) (k:Int),k∈ns.foldl step_dedup acc↔k∈acc\/k∈ns
 | [],acc,k=>by simp
 | n::ns,acc,k=>by
  rw[QS,Jis ns];unfold step_dedup;split
  ·rename_i c;obtain⟨x,hx,e⟩:=Kp.mp c;have:x=n:=by simpa using e
   subst this;simp only[Qh];constructor
   ·exact fun h=>h.elim .inl fun h=>.inr (.inr h)
   ·rintro(h|h|h)
    ·exact .inl h
    ·exact .inl (h▸hx)
    ·exact .inr h
  ·simp only[Gd,Qh,QF,or_false,or_assoc]
theorem JcN(ns:List Int):(fM ns).Nodup:=by rw[JfP];exact JcF ns [] RM
theorem Joj(ns:List Int)(k:Int):k∈fM ns↔k∈ns:=by rw[JfP,Jis];simp
theorem Joi(ns:List Int):(fM ns).length<=ns.length:=firstMet_length_le _ _
theorem WT:∀{a b:List Int},a.Nodup->(∀x∈a,x∈b)->b.length=a.length->b.Perm a
 | [],b,_,_,h=>by have:b=[]:=Qy (by simpa using h);rw[this]
 | x::a,b,nd,sub,h=>by
  have hx:=sub x Qd
  have pb:=List.perm_cons_erase hx;refine pb.trans (List.Perm.cons x ?_)
  have nd':=QW.mp nd;refine WT nd'.2 (fun y hy=>?_) (by rw[List.length_erase_of_mem hx,h];simp);rcases Qh.mp (pb.mem_iff.mp (sub y (Qc _ hy))) with e|e
  ·exact absurd (e▸hy) nd'.1
  ·exact e
theorem JcW:∀{l:List (Int×Value)},ElemsOf (intKind prog w) l->∃ks:List Int,IntsAre (l.map (·.2)) ks
 | [],_=>⟨[],.nil⟩
 | e::l,h=>by obtain⟨ks,r⟩:=JcW h.tail;obtain⟨⟨k,hk,_⟩,_⟩:=h.head;obtain⟨tk,e2⟩:=MW (show RH k e.2=true from hk);refine⟨k::ks,?_⟩;rw[Qg,e2];exact .cons k tk r
theorem JcY:∀{vs:List Value} {ks:List Int},IntsAre vs ks->∀v∈vs,RH x v=true->x∈ks
 | _,_,.nil,v,h,_=>by simp at h
 | _,_,.cons n t r,v,h,e=>by
  rcases Qh.mp h with q|q
  ·subst q;obtain⟨tk,e2⟩:=MW e
   injection e2 with e2
   subst e2;exact Qd
  ·exact Qc _ (JcY r v q e)
theorem Jhg(p:a.Perm b):∀{ks:List Int},IntsAre a ks->∃ks',IntsAre b ks'/\ks'.Perm ks:=by
 induction p with
 | nil=>intro ks r;exact⟨ks,r,.refl _⟩
 | cons x p ih =>
  intro ks r
  cases r with
  | cons n t r=>obtain⟨ks',r',q⟩:=ih r;exact⟨n::ks',.cons n t r',q.cons n⟩
 | swap x y l =>
  intro ks r
  cases r with
  | cons n t r=>cases r with
   | cons m u r=>exact⟨m::n::_,.cons m u (.cons n t r),List.Perm.swap _ _ _⟩
 | trans p q ih1 ih2=>intro ks r;obtain⟨k1,r1,q1⟩:=ih1 r;obtain⟨k2,r2,q2⟩:=ih2 r1;exact⟨k2,r2,q2.trans q1⟩
theorem Jkh(x:SetL prog w led h a (fun k=>(fM ns).any (· == k)) (fM ns).length):
 ∃es ep t ks,SHas h a es ep t/\t.fits es.size=true/\TOk led t/\es.size=(fM ns).length/\IntsAre (es.toList.map (·.2)) ks/\ks.Perm (fM ns):=by
 obtain⟨o,es,ep,t,z⟩:=x;obtain⟨ks,r⟩:=JcW z.els;refine⟨es,ep,t,ks,⟨o,z.got,z.ex,z.data⟩,z.fits,z.tok,z.size,r,?_⟩;refine WT (JcN ns) (fun y hy=>?_) ?_
 ·obtain⟨e,he,hi⟩:=(z.mem y).mp (Kp.mpr ⟨y,hy,by simp⟩);exact JcY r e.2 (QC.mpr ⟨e,he,rfl⟩) hi
 ·have:=RS r;rw[Qk,QB] at this;rw[<- this,z.size]
noncomputable def JmO(X:Cx)(l:Addr)(ns:List Int):HO:=.ext fun h=>SetL X.prog X.w (YJ X.w) h l (fun k=>(fM ns).any (· == k)) (fM ns).length
noncomputable def JnE(X:Cx):List V->Hp->VK->Prop:=fun xs H Q=>∃a ns,xs=[.ref a]/\SqL X.K H a (ns.map V.int)/\ns.length+1<scanBound/\∀l,H l=none->Q (.ref l) (upd H l (JmO X l ns))
noncomputable def Jpy(X:Cx):List V->Hp->VK->Prop:=fun xs H Q=>∃r ns,xs=[.ref r]/\H r=some (JmO X r ns)/\ns.length<64/\∀l,H l=none->Q (.ref l) (upd H l (.lst ((Yd (fM ns)).map V.int)))
theorem Inv.drew{pins:List (Addr×Obj)}{σ:List (Option V)}{H:Hp}{s:Shared}{d:Drawn}(I:Inv X pins σ H s):Inv X pins σ H { s with drawn:=d } :=
 ⟨I.ok,I.os,I.bare,I.base,I.loc,I.cell,I.free,I.freeC,I.pin,I.hok,I.len⟩
theorem Jg4(hc:X.calm=true):J3 X (.type "set") (JnE X):=by
 intro pins s σ H xs us Q I r h;obtain⟨a,ns,rfl,hq,hb,q⟩:=h;obtain⟨u,rfl,rx⟩:=UW r;cases rx;obtain⟨its,r',pl,hz⟩:=I.list hq;have hh:X.A.handled=none:=I.ok.hd hc;have hi:=YN r';have il:its.length=ns.length:=RS hi;have hne:H s.heap.objs.size=none:=I.hok.fresh (Qm _);refine Jg3 (ns:=ns) hh pl.isList hi (by rw[Qo,il];exact hb) fun h' tk hS old=>?_
 have ez:its.toArray.size=ns.length:=by rw[Qo,il]
 rw[ez] at hS;refine⟨.ref s.heap.objs.size,_,I.laid (t':=tk) (o:=JmO X s.heap.objs.size ns) old (Qm _) ⟨hS,?_,fun h1 h2 p k=>p.move k⟩,rfl,q _ hne⟩;obtain⟨o,_,_,_,z⟩:=hS;exact⟨o,z.got⟩
theorem Jeg(hc:X.calm=true):J3 X (.builtin "sorted") (Jpy X):=by
 intro pins s σ H xs us Q I r h;obtain⟨p,ns,rfl,ds,h64,q⟩:=h;obtain⟨u,rfl,rx⟩:=UW r;cases rx;have z:=(show ObjOk X.prog X.w H s.heap p (JmO X p ns) from I.hok p _ ds).1;obtain⟨es,ep,t,ks,hs,hf,tok,sz,ri,pm⟩:=Jkh z;have hh:X.A.in1.handled=none:=I.ok.hd hc;have fl:=Joi ns;have room:∀n:Nat,n<64->n<=sizeLine:=fun n h=>by show n<=16777216;omega
 refine MV kind_sorted plain_sorted entry_sorted (args_sorted1 _) ?_;unfold Builtin.«sorted»;refine Qa (m:=checkCount "sorted" 1 1 _) (Qe ?_);refine Qa (JdM hh hs hf tok (room _ (by omega)) fun h' tk dr acc hk hsz pa=>?_);obtain⟨k2,hI,p2⟩:=Jhg pa.symm ri;have pk:=p2.trans pm;have hal:acc.toList.length=(fM ns).length:=by rw[RS hI,pk.length_eq]
 refine Qa (wpAny_newList ?_ (room _ (by omega)));have hoL:(h'.push (seqObj "list" acc.toList.toArray 0)).get? h'.objs.size=some (seqObj "list" acc.toList.toArray 0):=Qi _ rfl;refine Qa (Gn (QO slot_list_sort ⟨_,hoL,rfl⟩ entry_list_sort (list_sort_tree hoL hI (by omega) fun out ns' a1 a2 a3=>⟨_,rfl,?_⟩) (args_list_sort _)));refine Qe ⟨_,rfl,?_⟩;have e0:ns'=Yd (fM ns):=WH ((a2.trans pk).trans (JH _).symm) a3 (UK _)
 subst e0;obtain⟨e,he⟩:=sortedHeap_at (out:=out) hoL;have hle:s.heap.objs.size<=h'.objs.size:=GX hsz;have hne:H h'.objs.size=none:=I.hok.fresh hle;have hn:((Yd (fM ns)).map V.int).length<=sizeLine:=by rw[Qk,(JH _).length_eq];exact room _ (by omega)
 refine⟨.ref h'.objs.size,_,(I.drew (d:=dr)).laid (t':=tk) (fun b o x=>?_) hle (show ObjOk X.prog X.w _ _ _ (.lst ((Yd (fM ns)).map V.int)) from⟨hn,out.toList,e,UT a1,?_⟩),rfl,q _ hne⟩
 ·have hx:=hk b o x
  have hlt:b<h'.objs.size:=Qj hx;rw[sortedHeap_old (Qr hlt) (by rw[size_push'];exact GK hlt)];exact Qf _ hx
 ·rw[he]
noncomputable def tUp(te:TE):TE:=fun σ H Q=>∃A:VK,te σ H A/\∀x H1,A x H1->Q x H1
theorem Jrf(h:PE X e te):PE X e (tUp te):=by intro pins s σ H Q I ⟨A,h1,h2⟩;exact thn (h pins s σ H A I h1) fun v s1 ⟨x,H1,I1,r1,a⟩=>⟨x,H1,I1,r1,h2 x H1 a⟩
theorem PE.imp(h:PE X e t1)(i:∀σ H Q,t2 σ H Q->t1 σ H Q):PE X e t2:=fun pins s σ H Q I x=>h pins s σ H Q I (i σ H Q x)
noncomputable def Jkw(K:Frag)(te:TE):TE:=fun σ H Q=>te σ H fun x H1=>∃a ns,x=.ref a/\SqL K H1 a (ns.map V.int)/\ns.length<64/\∀l o l',H1 l=none->upd H1 l o l'=none->Q (.ref l') (upd (upd H1 l o) l' (.lst ((Yd (fM ns)).map V.int)))
theorem Jpj(hc:X.calm=true)(hg:Gl X "set")(hm:X.mg "set"=none)(he:PE X e te)(h1:starEach [e] X.env=(false,eval e X.env)::starEach [] X.env:=by rfl):PE X (.Call (.Name "set" p1) [e] [] q1) (tCB (JnE X) (Ur (tUp te) VO)) :=
 UE (Jg4 hc) hg hm (by rfl) (Ja (Jrf he) Jd h1) (he:=h1)
theorem JjD{K:Frag}(hK:X.K=K)(hc:X.calm=true)(hg:Gl X "sorted")(hm:X.mg "sorted"=none)(hg2:Gl X "set")(hm2:X.mg "set"=none)(he:PE X e te)(h1:starEach [e] X.env=(false,eval e X.env)::starEach [] X.env:=by rfl)
 (h2:starEach [Expr.Call (.Name "set" p1) [e] [] q1] X.env=(false,eval (.Call (.Name "set" p1) [e] [] q1) X.env)::starEach [] X.env:=by rfl):PE X (.Call (.Name "sorted" p2) [.Call (.Name "set" p1) [e] [] q1] [] q2) (Jkw K te):=by
 subst hK;refine PE.imp (Jt (Jeg hc) hg hm (by rfl) (Ja (Jpj hc hg2 hm2 he h1) Jd h2) (he:=h2)) fun σ H Q h=>⟨_,h,?_⟩
 rintro x H1 ⟨a,ns,rfl,hq,h64,q⟩;exact⟨a,ns,rfl,hq,by show ns.length+1<4096;omega,fun l hl=>⟨l,ns,rfl,Jk,h64,fun l' hl'=>q l _ l' hl hl'⟩⟩
end L2
namespace LE
open PySem L2 LR
noncomputable def Jen(a:Ev):Ev:=fun E=>(a E).bind fun s=>s.r.bind fun ds=>(ints? ds).bind fun ns=>if ns.length<64 then some (.own ((Yd (fM ns)).map .int)) else none
theorem JmJ(ha:SE K C td ed):SE K C (Jkw K td) (Jen ed):=by
 intro B H0 H σ E r Q I e q;obtain⟨s,e1,e⟩:=bind_some e;obtain⟨ds,e2,e⟩:=bind_some e;obtain⟨ns,e3,e⟩:=bind_some e;split at e
 ·next h64 =>
  cases e;refine ha B H0 H σ E s _ I e1 fun x H1 H1' s1 r1=>?_
  obtain⟨l,ys,rfl,h,r2⟩:=r1.r s1.i e2;rw[YO e3] at r2;have:=r2.ints;subst this;refine⟨l,ns,rfl,h,h64,fun w o l' hw hl'=>?_⟩;have st:Step H1' H1 H1' H1 (upd H1' w o):=⟨.new hw,Same.refl _,fun _ _ e=>.inl e,s1.i.trans (.new hw)⟩
  have s2:=s1.trans st;exact YD s2.i s2.h hl' (JdA _) fun v H2 H2' s3 r3=>q v H2 H2' (s2.comp s3 fun _ y=>y) r3
 ·cases e
end LE
namespace L2
open PySem PyProof.Rows PySem.W PySem.Spec
end L2
namespace LE
open PySem L2 LR
end LE
namespace L2
open PySem PyProof.Rows PySem.W PySem.Spec
noncomputable def Jnc(i j:Int):Prop:=0<j/\j.natAbs<=10 ^ 200
theorem JoH{j:Int}(h:j.natAbs<=10 ^ 200):j.natAbs.log2<9000:=by
 by_cases h0:j.natAbs=0
 ·rw[h0];decide +kernel
 ·have h1:j.natAbs.log2<1000:=by rw[Nat.log2_lt h0];exact Ke h (by decide +kernel)
  omega
theorem Jdp:OpR X (binaryOp .FloorDiv) (rI Jnc fun i j=>.int (i / j)):=opI fun i j _ _ _ _ _ hc q=>by have h1:(0:Int)<j:=hc.1;exact floordiv_int (by omega) (by rw[MH i (by omega)];exact q) (.inl (PyProof.noPylong_of_log2 (JoH hc.2)))
end L2
namespace LE
open PySem L2 LR
noncomputable abbrev JfN:=fIc (fun _ b=>decide (0<b) && YK b) fun a b=>.int (a / b)
theorem JoY:OpS K C (rI Jnc fun i j=>.int (i / j)) JfN:=Jhy (fun i j h=>by simp only[QU,YK,KC,decide_eq_true_eq] at h;exact h) fun _ _ _=>.int _
theorem JiH(h:0<b/\b.natAbs<=10 ^ 200):JfN (.sh (.int a)) (.sh (.int b))=some (.sh (.int (a / b))):=by show(if (decide (0<b) && YK b)=true then _ else _)=_;rw[if_pos];rw[QU];exact⟨decide_eq_true h.1,KC.mpr h.2⟩
end LE
namespace L2
open PySem PyProof.Rows PySem.W PySem.Spec
end L2
namespace LE
open PySem L2 LR
noncomputable def ifB(f:Sl->Sl->Option Sl)(d:D)(ew:Ev)(a b:Es):Es:=fun E=>((ew E).bind fun s=>(f (.sh d) s).bind bool?).bind fun k=>if k=true then a E else b E
noncomputable def JgQ(f:Sl->Sl->Option Sl)(j:Nat)(ek ev ew:Ev)(a b:Es):Es:=fun E=>match E[j]? with
 | some (.od ks ds)=>((ek E).bind int?).bind fun n=>(ev E).bind fun s=>s.frz.bind fun d=>if ks.length<sizeLine then
  match look ks ds n with
  | some d'=>ifB f d' ew a b E
  | none=>ifB f d ew a b (E.set j (.od (Jy ks n) (putDs ks ds n d)))
  else none
 | _=>none
theorem Jqh(ho:OpS K C r f)(hk:SE K C ty ek)(hx:SE K C tx ev)(hw:SE K C tw ew)(ht:SS K C t et)(hu:SS K C u eu):SS K C (JmY (JgG (tOp r (Jcg (Wj j) ty tx) tw)) t u) (JgQ f j ek ev ew et eu):=by
 intro B H0 H σ E o N I e fn;unfold JgQ at e;split at e
 ·next ks ds h =>
  obtain⟨n,e1,e⟩:=bind_some e;obtain⟨t1,e1,e2⟩:=bind_some e1;obtain rfl:=UD e2;obtain⟨sv,e3,e⟩:=bind_some e;obtain⟨d,e4,e⟩:=bind_some e;split at e
  ·next hz =>
   obtain⟨l,xs,g1,g2,g3,g4,gk,g5⟩:=I.slotD h;have hxl:ks.length=xs.length:=gk.trans g5.1.symm;refine⟨_,g1,?_⟩;refine⟨l,rfl,.inl ⟨_,.inl g2⟩,?_⟩;refine hk B H0 H σ E _ _ I e1 fun y H1 H1' s1 r1=>?_
   refine hx B H1 H1' σ E _ _ (I.step s1) e3 fun z H2 H2' s2 r2=>?_
   have s12:=s1.trans s2
   have s3:Step H H0 H (JI H H2 H2') H2':=s12.comp (JC s12.i) fun _ z=>z
   have rv:RD K C (JI H H2 H2') z d:=RR.frz s12.i (r2.weak fun a q=>Same.free s1.h q) e4
   have I3:=I.step s3
   -- what comes behind the value is known
   have tail:∀(E':En) (HA HB:Hp) (v:V) (d':D),EnvR K C B HA HB σ E'->SStep B H0 HA HB->RD K C HA v d'->ifB f d' ew et eu E'=some o ->
    tw σ HB (fun y H4=>r v y H4 fun z H5=>∃k,z=.bl k/\if k=true then t N σ H5 else u N σ H5):=fun E' HA HB v d' J ss rd ee=>by
    unfold ifB at ee;obtain⟨k,ee,e9⟩:=bind_some ee;obtain⟨sw,e7,ee⟩:=bind_some ee;obtain⟨sc,e8,ee⟩:=bind_some ee;have eb:=Uz ee;refine hw B HA HB σ E' sw _ J e7 fun y H4 H4' s4 r4=>?_
    refine ho HB H4 H4' v y (.sh d') sw sc _ s4.i s4.h (rd.mono s4.z) r4 e8 fun z H5 H5' s5 r5=>?_
    rw[eb] at r5;have s45:=s4.comp s5 fun _ z=>z
    refine⟨k,RD.blI r5,?_⟩;have J5:=J.step s45;have fs:SStep B H0 H5 H5':=ss.trans (s45.ss J.b)
    cases k with
    | true=>rw[if_pos rfl] at e9 ⊢;exact ht B H5 H5' σ E' o N J5 e9 (fn.step fs)
    | false=>rw[if_neg (by simp)] at e9 ⊢;exact hu B H5 H5' σ E' o N J5 e9 (fn.step fs)
   have hr:=RDL.look (ks:=ks) (n:=n) (g5.mono s3.z);refine⟨_,Sum.inl n,s12.h _ _ g2,RD.intI r1,?_,fun v hv=>?_,fun hn=>?_⟩
   ·rw[GD,Qk,<- hxl,Lh];exact hz
   ·rw[YT] at hv;rcases hr with ⟨z1,_⟩|⟨v',d',z1,z2,z3⟩
    ·rw[z1] at hv;cases hv
    ·rw[z1] at hv;cases hv;rw[z2] at e;exact tail E _ _ v d' I3 (s3.ss I.b) z3 e
   ·rw[YT] at hn;rcases hr with ⟨_,z2⟩|⟨v',d',z1,z2,z3⟩
    ·rw[z2] at e;obtain⟨_,n0,nB⟩:=I3.ownG h rfl g1;have rr:=(g5.mono s3.z).putDs (ks:=ks) (n:=n) rv;have m:=I3.mutG (t':=.od (Jy ks n) (putDs ks ds n d)) (o':=dkO (Jy ks n) (putDs ks xs n z)) h rfl rfl g1 ⟨l,_,rfl,Jk,n0,nB,Ja6 _ _ _ _ gk,rr⟩;rw[Jdx ks xs n z hxl];exact tail _ _ _ z d m ⟨m.b,s3.z,(s3.ss I.b).n,m.h⟩ rv e
    ·rw[z1] at hn;cases hn
  ·cases e
 ·cases e
noncomputable def Jep(a:Ev)(ks:En->Option (List Sl))(x:Ev):Ev:=fun E=>(a E).bind fun s=>s.dt.bind fun p=>((ks E).bind JcX).bind fun n=>((x E).bind sh?).bind fun d=>some (.sh ((lookP p.1 p.2 n).getD d))
theorem JmL(ha:SE K C td ed)(hk:SA K C tk ks)(hx:SE K C tx ex):SE K C (Jfi td (Jkx tk) tx) (Jep ed ks ex):=by
 intro B H0 H σ E r Q I e q;obtain⟨s,e1,e⟩:=bind_some e;obtain⟨p,e2,e⟩:=bind_some e;obtain⟨n,e3,e⟩:=bind_some e;obtain⟨t,e3,e4⟩:=bind_some e3;obtain rfl:=ZG e4;obtain⟨d,e5,e⟩:=bind_some e;obtain⟨t',e5,e6⟩:=bind_some e5;obtain rfl:=We e6;cases e;refine ha B H0 H σ E s _ I e1 fun x H1 H1' s1 r1=>?_
 obtain⟨l0,xs0,rfl,h0,_,_⟩:=r1.dt e2;refine⟨l0,rfl,.inr ⟨_,.inl h0⟩,hk B H1 H1' σ E _ _ (I.step s1) e3 fun ws H2 H2' s2 r2=>?_⟩
 cases r2 with
 | cons a1 r2=>cases r2 with
  | cons a2 r2 =>
   cases r2;rw[RD.intI a1,RD.intI a2];refine⟨show 2<=sizeLine by decide,fun b hb=>?_⟩;have s0:=s1.trans s2;have s4:Step H H0 H H2 (upd H2' b (.tup [.int n.1,.int n.2])):=s0.trans ⟨.new hb,Same.refl _,fun _ _ e=>.inl e,s0.i.trans (.new hb)⟩;have s5:Step H1' H1 H1' H2 (upd H2' b (.tup [.int n.1,.int n.2])):=s2.trans ⟨.new hb,Same.refl _,fun _ _ e=>.inl e,s0.i.trans (.new hb)⟩;refine hx B H2 _ σ E _ _ (I.step s4) e5 fun z H3 H3' s3 r3=>?_
   obtain⟨l,xs,hl,h,_,rl⟩:=((r1.step s5).step s3).dt e2;cases hl;refine⟨_,.inr ⟨_,dtK n,b,.inl h,rfl,s3.h _ _ Jk,(VQ p.1 xs n).symm⟩,q _ _ _ (s4.trans s3) ?_⟩;rcases RDL.lookP (ks:=p.1) (n:=n) rl with ⟨z1,z2⟩|⟨v,d',z1,z2,z3⟩
   ·rw[z1,z2];exact r3
   ·rw[z1,z2];exact z3
end LE
namespace L2
open PySem PySem.Spec PyProof.Rows
end L2
namespace LE
open PySem L2 LR
theorem JlR{α:Type}{r:α}(h:x.natAbs<=10 ^ 200/\y.natAbs<=10 ^ 200):(if (YK x && YK y)=true then some r else none)=some r:=by rw[if_pos];simp only[QU,YK,KC];exact h
end LE
namespace L2
open PySem PySem.Spec PyProof.Rows
theorem pgN(i:Nat){x:Str}(hN:X.N.Nodup)(hi:X.N[i]?=some x:=by rfl)(hx:Loc X.env.scope x:=by exact Or.inl rfl)(hf:X.fn x=true\/X.env.scope.names.lookup x=some .local:=by exact Or.inr rfl):PG X (.Name x pos) (UU i):=Jr hN hi hx hf
theorem psN(i:Nat){x:Str}{e:Expr}{te:TE}{pos':Pos}(hN:X.N.Nodup)(he:PE X e te)(hi:X.N[i]?=some x:=by rfl)(hx:Loc X.env.scope x:=by exact Or.inl rfl)(hs:swapsWith e (some (.Name x pos')) pos.line X.env=pure false:=by rfl)(hf:X.fn x=true\/X.env.scope.names.lookup x=some .local:=by first|exact .inl rfl|exact .inr rfl|assumption):PS X (.Assign [.Name x pos'] e pos) (Jfh te (UU i)):=Z1 hN hi hx he hs hf
theorem pxK(K:Frag){a b:Expr}{ta tb:TE}(ha:PE X a ta)(hb:PE X b tb)(hK:X.K=K:=by rfl)(hs:Jfp b:=by exact fun _ _=>rfl):PE X (.Subscript a b pos) (tOp (rIx K) ta tb):=Jre (Jlz hK) ha hb hs
theorem piK(K:Frag){tg l:Expr}{tl:TE}(hl:PE X l tl)(hK:X.K=K:=by rfl):PI X tg l (JeC K tl):=Jl9 hK hl
theorem hrM{j k:Nat}{A:Around}(r:Room k A)(h:j<=k:=by decide):Room j A:=r.mono h
end L2
namespace LE
open PySem PyProof.Rows L2 LR
structure PB (P:Program) (w:World) (base:Heap):Prop where
section
variable{P:Program}{w:World}{K:Frag}{mg:Str->Option Value}{base:Heap}{x y q:Str}{st:Stmt}{f:Addr}{fd:FuncData}{k:Nat}{ps:List Str}{sp:Sp}
theorem JE(Z:PB P w base)(F:Fun K x q st f fd)(o:FnOk P w K mg base CX0 k f fd ps sp)(m:mg y=some (.ref f))
 (h:∀(kV doc pm:Value) (an:Option Addr) (cdv ct:Value) (us:List Value),us.length=ps.length->bindArgs (fnOf x q (UO st) (Y7 st) (Ji st) .none kV doc pm an cdv ct) ⟨us,[]⟩=pure (ps.zip us)):Cal P w K mg base y k ps sp:=⟨f,fd,o,m,F.kp,F.binds h⟩
end
section
variable{P:Program}{w:World}{K:Frag}{C:Addr}{mg:Str->Option Value}{base:Heap}{x qual:Str}{st:Stmt}{f:Addr}{fd:FuncData}{N ps:List Str}{k n:Nat}{b:Es}
theorem okE(F:Fun K x qual st f fd)(S:FnScope N ps (Ji st))(hn:n=ps.length)
 (hb:∀(cdv:Value) (A:Around) (outer:List Env) (s:Shared) (H:Hp) (E:XK),Room k (A.deeper (envOfC qual (Ji st) s.heap.objs.size f cdv))->(A.deeper (envOfC qual (Ji st) s.heap.objs.size f cdv)).units+64<cLine ->
  ∃t,PSs (Jeh CX0 P w K mg base N qual (Ji st) f cdv A outer s H E).nox (Y7 st) t/\SS K C t b):FnOk P w K mg base CX0 (k+1) f fd ps (spE K C n (Yo N.length b)) :=
 F.ok S (fun vs H Q E h=>(JmV h).trans hn) fun cdv A outer s H vs Q E hr h=>(hb cdv A outer s H E hr hr.units).elim fun t q=>⟨t,q.1,Jlq q.2 h⟩
end
end LE
namespace L2
open PySem PySem.Spec PyProof.Rows
end L2
namespace LE
open PySem L2 LR
theorem Jk4{α:Type}{r:α}(h:0<y/\y.natAbs<=10 ^ 200):(if (decide (0<y) && YK y)=true then some r else none)=some r:=by rw[if_pos];simp only[QU,YK,KC,decide_eq_true_eq];exact h
end LE
end
open L2 LR
local macro_rules | `(tactic| walk_at "side")=>`(tactic| first | decide | exact⟨by decide,by decide,by decide⟩ | exact⟨by decide,by decide⟩ | (show(0:Int)<_;omega) | (show(0:Int)<_/\_<(1073741824:Int);omega) | exact Or.inl ⟨by omega,by omega⟩ | exact Or.inr ⟨by omega,by omega⟩ | assumption)
local macro_rules | `(tactic| walk_at "rd1")=>`(tactic| with_reducible first | refine JpJ ?_ | refine JpB ?_ | refine JpC ?_ | refine Jmm ?_ | refine Jmr ?_ | refine Jrw ?_ | refine Jmu ?_ | refine JpA ?_ | refine Jml ?_ | refine JpH ?_ | refine Jru ?_ | refine Jgo ?_ | refine LR.Jgq ?_ | refine JpK ?_ | refine Jj2 ?_ | refine Jj1 ?_ | refine Jmn ?_ | refine Jmt ?_ | refine JpM ?_ | refine Jsh ?_ | refine Jrv ?_ | refine Jmk ?_ | refine Jms ?_ | refine Jj3 ?_ | refine Jj4 ?_ | refine Exists.intro _ (And.intro (LR.tru_bl _ _ _) ?_))
local macro_rules | `(tactic| walk_at "rd2")=>`(tactic| first |((with_reducible refine JpL (v:=?vv) ?hx ?_);(case hx=>exact rfl)) | (with_reducible refine Exists.intro _ (And.intro (Eq.refl (V.bl _)) ?_)))
local macro_rules | `(tactic| walk_at "rd")=>`(tactic| repeat (first | walk_at "rd1" | walk_at "rd2"))
noncomputable section
namespace LK
open PySem L2 LR LE
noncomputable def JZ:List Sl->Option Sl:=Yo 2 (Yy (Yr (JcR true (aC (e1 Y1 (Jb 0)) a0)) (.tp (.cons (.nm 0) (.cons (.nm 1) .nil))) yes? (Yz (aC (e2 YA (e2 fIx (Jb 1) (eC (.int 0))) (e2 Vx (e2 Vx (eC (.int 2)) (Jb 2)) (Jb 0))) (aC (e2 YA (e2 fIx (Jb 1) (eC (.int 1))) (Jb 2)) a0))) [none,none,some 1]))
noncomputable def Yn:List Sl->Option Sl:=Yo 2 (Yy (eF Jaw (aC (eU 2 JZ (aC (Jb 0) (aC (Jb 1) a0))) a0)))
noncomputable def Yg:List Sl->Option Sl:=Yo 2 (Yy (eF Jbv (aC (Yr (iE true (e1 Y1 (Jb 0))) (.tp (.cons (.nm 0) (.cons (.nm 1) .nil))) yes? (eF Jlk (aC (eC (.int 0)) (aC (eF Jev (aC (Jb 1) (aC (e2 YX (Jb 2) (Jb 0)) a0))) a0))) [none,none,some 1]) a0)))
noncomputable def YV:List Sl->Option Sl:=Yo 8 (Jn (VS 2 (Vv a0))
 (Jn (Jp 3 (eC (.int 0)))
 (Jn (Vo (JcR false (aC (Jb 1) a0)) (.tp (.cons (.nm 4) (.cons (.nm 5) .nil))) (Jn (Jp 6 (eU 2 Yg (aC (Jb 0) (aC (Jb 5) a0))))
 (Jn (Jp 7 (e2 YX (Jb 6) (Jb 3)))
 (Jn (Jcj 2 (Yz (aC (e2 YX (e2 YA (Jb 5) (e2 Vx (eC (.int 2)) (Jb 4))) (Jb 7)) (aC (e2 YA (Jb 7) (eC (.int 1))) a0))))
 (Jp 3 (Jb 6))))))
 (Uk 2))))
noncomputable def Y9:List Sl->Option Sl:=Yo 5 (Jn (xIf (tB? (e2 fGt (e2 YA (eF Zy (aC (e1 Y1 (Jb 0)) a0)) (eF Jbv (aC (Yr (iE true (Jb 1)) (.tp (.cons (.nm 0) (.cons (.nm 1) .nil))) yes? (Jb 1) [none,none]) a0))) (eC (.int 30)))) Vc Yt)
 (Jn (VS 2 (Yr (iE true (e1 Y1 (Jb 0))) (.tp (.cons (.nm 0) (.cons (.nm 1) .nil))) yes? (e2 YA (Jb 0) (Jb 1)) [none,none]))
 (Jn (Vo (iV 1) (.tp (.cons (.nm 3) (.cons (.nm 4) .nil))) (Jd0 2 (e2 JiK (Vv (aC (Jb 3) a0)) (Jb 4))))
 (Yy (eF Jaw (aC (eU 2 YV (aC (Jb 0) (aC (eF W6 (aC (Jb 2) a0)) a0))) a0))))))
noncomputable def JU:List Sl->Option Sl:=Yo 5 (Jn (Jp 1 (eC .non))
 (Jn (Vo (iV 0) (.tp (.cons (.nm 2) (.cons (.nm 3) (.cons (.nm 4) .nil)))) (Jn (xIf (tOr? (tB? (e2 fLt (Jb 2) (eC (.int 1)))) (tB? (e2 fLt (Jb 4) (eC (.int 1))))) Vc Yt)
 (Jn (xIf (tAnd? (tB? (e2 Vw (Jb 1) (eC .non))) (tB? (e2 JiI (Yz (aC (Jb 2) (aC (Jb 3) a0))) (Jb 1)))) Vc Yt)
 (Jp 1 (Yz (aC (Jb 2) (aC (Jb 3) a0)))))))
 (xIf (tB? (e2 fGt (eF Jbv (aC (Yr (iE true (Jb 0)) (.tp (.cons (.nm 0) (.cons (.nm 1) (.cons (.nm 2) .nil)))) yes? (Jb 2) [none,none,none]) a0)) (eC (.int 30)))) Vc Yt)))
noncomputable def J8:List Sl->Option Sl:=Yo 8 (Jn (JdZ (eU 1 JU (aC (Jb 0) a0)))
 (Jn (VS 1 JaT)
 (Jn (Jm6 (iV 0) (.tp (.cons (.nm 2) (.cons (.nm 3) (.cons (.nm 4) .nil)))) 1 (Jb 2) (Yz (aC (Jb 3) (aC (Jb 4) a0))))
 (Jn (Jp 5 (Jem (Jb 1)))
 (Jn (Jp 6 (eF Jaw (aC (Vv a0) a0)))
 (Jn (Vo (Jon false (aC (JiC (aC (e2 YA (Vv (aC (eC (.int 0)) a0)) (Jb 5)) (aC (Jb 5) a0))) a0)) (.tp (.cons (.nm 7) (.cons (.nm 2) .nil))) (Jp 6 (eU 2 Yn (aC (eU 2 Y9 (aC (Jb 6) (aC (Jg8 (Jb 1) (Jb 2)) a0))) (aC (e2 YX (e2 YX (Jb 2) (Jb 7)) (eC (.int 1))) a0)))))
 (Uk 6)))))))
noncomputable def YW:List Sl->Option Sl:=Yo 2 (Yy (eIf (tB? (e2 fIs (Jb 1) (eC .non))) (Jb 0) (eF Jev (aC (Jb 0) (aC (Jb 1) a0)))))
noncomputable def Yh:List Sl->Option Sl:=Yo 1 (xIf (tAnd? (tB? (e2 Vw (Jb 0) (eC .non))) (tB? (e2 fLt (Jb 0) (eC (.int 1))))) Vc Yt)
noncomputable def Yi:List Sl->Option Sl:=Yo 3 (Jn (JdZ (eU 1 Yh (aC (Jb 1) a0)))
 (Jn (JdZ (eU 1 JU (aC (Jb 0) a0)))
 (Yy (Yr (iE true (Jb 0)) (.tp (.cons (.nm 0) (.cons (.nm 1) (.cons (.nm 2) .nil)))) yes? (Yz (aC (Jb 0) (aC (e2 YA (Jb 1) (e2 JfR (Jb 3) (eU 2 YW (aC (Jb 0) (aC (Jb 4) a0))))) (aC (Jb 2) a0)))) [none,none,none,some 2,some 1]))))
noncomputable def Yl:List Sl->Option Sl:=Yo 5 (Jn (VS 1 (Vv a0))
 (Jn (Vo (iV 0) (.tp (.cons (.nm 2) (.cons (.nm 3) .nil))) (xIf (tAnd? (tTru? (Jb 1)) (tB? (e2 fEq (eF Jbv (aC (e2 fIx (Jb 1) (e1 JcO (eC (.int 1)))) a0)) (Jb 2)))) (Jn (Jm7 1 4 some)
 (Jcj 1 (Yz (aC (e2 fIx (Jb 4) (eC (.int 0))) (aC (e2 YA (e2 fIx (Jb 4) (eC (.int 1))) (Jb 3)) a0))))) (xIf (tB? (e2 fGt (Jb 3) (eC (.int 0)))) (Jcj 1 (Yz (aC (Jb 2) (aC (Jb 3) a0)))) Yt)))
 (Uk 1)))
noncomputable def Ub:List Sl->Option Sl:=Yo 1 (Yy (Yr (Ji4 true (aC (e1 Y1 (Jb 0)) (aC (eSl (e1 Y1 (Jb 0)) (some (eC (.int 1))) none) a0))) (.tp (.cons (.nm 0) (.cons (.nm 1) .nil))) yes? (e2 YX (e2 fIx (Jb 1) (eC (.int 0))) (eF Jbv (aC (Jb 0) a0))) [none,none]))
noncomputable def JR:List Sl->Option Sl:=Yo 1 (Yy (eF JfQ (aC (e2 YA (Yr (iE true (e1 Y1 (Jb 0))) (.tp (.cons (.nm 0) (.cons (.nm 1) .nil))) yes? (Jb 1) [none,none]) (eU 1 Ub (aC (Jb 0) a0))) a0)))
noncomputable def J1:List Sl->Option Sl:=Yo 5 (Jn (Jp 2 (eF Jaw (aC (e1 Y1 (Jb 0)) a0)))
 (Jn (Jp 3 (Jb 1))
 (Jn (Yw (tAnd? (tB? (e2 fGt (Jb 3) (eC (.int 0)))) (tTru? (e1 Y1 (Jb 2)))) (Jn (Jp 4 (eF Jev (aC (Jb 3) (aC (eU 1 JR (aC (Jb 2) a0)) a0))))
 (Jn (Jp 2 (eF Jaw (aC (eU 1 Yl (aC (eU 2 JZ (aC (Jb 2) (aC (e1 JcO (Jb 4)) a0))) a0)) a0)))
 (Jfo (fun i j=>i-j) 3 (Jb 4)))) 1000000)
 (Uk 2))))
noncomputable def YM:List Sl->Option Sl:=Yo 2 (Yy (eF Jlg (aC (Yr (iE true (e1 Y1 (Jb 0))) (.tp (.cons (.nm 0) (.cons (.nm 1) .nil))) yes? (Jei fLe fLt (Jb 0) (Jb 2) (e2 YA (Jb 0) (Jb 1))) [none,none,some 1]) a0)))
noncomputable def Ud:List Sl->Option Sl:=Yo 2 (Yy (eIf (tAnd? (tTru? (eU 2 YM (aC (Jb 0) (aC (e2 YX (Jb 1) (eC (.int 1))) a0)))) (tNot? (tTru? (eU 2 YM (aC (Jb 0) (aC (Jb 1) a0)))))) (eC (.int 1)) (eC (.int 0))))
noncomputable def Ua:List Sl->Option Sl:=Yo 6 (Jn (Jp 1 (eU 2 J1 (aC (Jb 0) (aC (eC (.int 1)) a0))))
 (Jn (VS 2 JaT)
 (Jn (Vo (JcR false (aC (e1 Y1 (Jb 0)) a0)) (.tp (.cons (.nm 3) (.cons (.nm 4) .nil))) (Jn (Jp 5 (e2 YX (e2 YX (eF Jbv (aC (Jb 4) a0)) (eC (.int 1))) (e2 Vx (eC (.int 2)) (Jb 3))))
 (JdY 2 (Jb 5) (e2 YA (Jej (Jb 2) (Jb 5) (eC (.int 0))) (eC (.int 1))))))
 (JgP 2 (Yy (Yr (JeB (Jb 2)) (.tp (.cons (.nm 0) (.cons (.nm 1) .nil))) yes? (Yz (aC (Jb 0) (aC (Jb 1) (aC (eU 2 Ud (aC (Jb 2) (aC (Jb 0) a0))) a0)))) [none,none,some 1]))))))
noncomputable def Yj:List Sl->Option Sl:=Yo 5 (Jn (VS 1 (Vv a0))
 (Jn (Jp 2 (Jb 0))
 (Jn (Jp 3 (eC (.int 0)))
 (Jn (Yw (tTru? (e1 Y1 (Jb 2))) (Jn (Jp 4 (eU 1 JR (aC (Jb 2) a0)))
 (Jn (Jfo (fun i j=>i+j) 3 (Jb 4))
 (Jn (Jp 2 (eU 2 J1 (aC (Jb 2) (aC (e2 YX (Jb 4) (eC (.int 1))) a0))))
 (Jn (Jd0 1 (Yr (iE true (eU 1 Ua (aC (Jb 2) a0))) (.tp (.cons (.nm 0) (.cons (.nm 1) (.cons (.nm 2) .nil)))) (tB? (e2 fGt (Jb 1) (Jb 2))) (Yz (aC (Jb 3) (aC (Jb 0) (aC (e2 YX (Jb 1) (Jb 2)) a0)))) [none,none,none,some 3]))
 (Jp 2 (eU 2 J1 (aC (Jb 2) (aC (eC (.int 1)) a0)))))))) 1000000)
 (Uk 1)))))
noncomputable def UP:List Sl->Option Sl:=Yo 5 (Jn (Jp 2 (eU 1 Yj (aC (Jb 0) a0)))
 (Jn (Vo (iV 1) (.tp (.cons (.nm 3) (.cons (.nm 4) .nil))) (Jp 2 (eU 3 Yi (aC (Jb 2) (aC (Jb 3) (aC (Jb 4) a0))))))
 (Yy (eU 1 J8 (aC (Jb 2) a0)))))
noncomputable def Ym:List Sl->Option Sl:=Yo 1 (Yy (Jn7 (Jel "int" (Jb 0)) (Jn8 (Jel "bool" (Jb 0)))))
noncomputable def JS:List Sl->Option Sl:=Yo 4 (Jn (Jp 1 (eC (.int 0)))
 (Jn (Vo (iV 0) (.tp (.cons (.nm 2) (.cons (.nm 3) .nil))) (Jn (xIf (tOr? (tB? (e2 fIs (Jb 1) (eC .non))) (tOr? (tNot? (tTru? (eU 1 Ym (aC (Jb 3) a0)))) (tB? (e2 fEq (Jb 3) (eC (.int 0)))))) (Yy (eC (.bl false))) Yt)
 (Jn (xIf (tAnd? (tB? (e2 Vw (Jb 2) (eC .non))) (tOr? (tNot? (tTru? (eU 1 Ym (aC (Jb 2) a0)))) (tB? (e2 fLe (Jb 2) (Jb 1))))) (Yy (eC (.bl false))) Yt)
 (Jp 1 (Jb 2)))))
 (Yy (eC (.bl true)))))
noncomputable def Uc:List Sl->Option Sl:=Yo 8 (Jn (VS 1 (Vv a0))
 (Jn (Jp 2 (Yz (aC (eC (.int 0)) (aC (eC (.int 0)) a0))))
 (Jn (Vo (iV 0) (.tp (.cons (.nm 3) (.cons (.nm 4) .nil))) (Jn (Jp 5 (e2 YX (Jb 3) (e2 fIx (Jb 2) (eC (.int 0)))))
 (Jn (Jp 6 (e2 JfN (e2 YX (Jb 4) (e2 fIx (Jb 2) (eC (.int 1)))) (Jb 5)))
 (Jn (Jp 7 (e2 YX (e2 YX (Jb 4) (e2 fIx (Jb 2) (eC (.int 1)))) (e2 JfR (Jb 6) (Jb 5))))
 (Jn (xIf (tB? (e2 fGt (Jb 7) (eC (.int 0)))) (Jcj 1 (Yz (aC (e2 YA (e2 fIx (Jb 2) (eC (.int 0))) (Jb 7)) (aC (e2 YA (Jb 6) (eC (.int 1))) a0)))) Yt)
 (Jn (Jcj 1 (Yz (aC (Jb 3) (aC (Jb 6) a0))))
 (Jp 2 (Yz (aC (Jb 3) (aC (Jb 4) a0))))))))))
 (Uk 1))))
noncomputable def J4:List Sl->Option Sl:=Yo 5 (Jn (VS 1 (Vv a0))
 (Jn (Vo (iE false (eU 1 Yj (aC (Jb 0) a0))) (.tp (.cons (.nm 2) (.cons (.nm 3) (.cons (.nm 4) .nil)))) (Jd0 1 (e2 JiK (Vv (aC (Yz (aC (Jb 2) (aC (Jb 3) a0))) a0)) (Jb 4))))
 (Uk 1)))
noncomputable def UB:List Sl->Option Sl:=Yo 8 (Jn (Jp 2 (eU 1 J4 (aC (Jb 0) a0)))
 (Jn (Jp 3 (eU 1 J4 (aC (Jb 1) a0)))
 (Jn (xIf (tB? (e2 fNe (Yr (iE true (Jb 2)) (.tp (.cons (.nm 0) (.cons (.nm 1) .nil))) yes? (Jb 0) [none,none]) (Yr (iE true (Jb 3)) (.tp (.cons (.nm 0) (.cons (.nm 1) .nil))) yes? (Jb 0) [none,none]))) (Yy (eC .non)) Yt)
 (Jn (VS 4 JaT)
 (Jn (Vo (Ji4 false (aC (Jb 2) (aC (Jb 3) a0))) (.tp (.cons (.nm 5) (.cons (.nm 6) .nil))) (Jn (Jp 7 (e2 YX (e2 fIx (Jb 6) (eC (.int 1))) (e2 fIx (Jb 5) (eC (.int 1)))))
 (JgQ fNe 4 (e2 fIx (Jb 5) (eC (.int 0))) (Jb 7) (Jb 7) (Yy (eC .non)) Yt)))
 (Yy (Jbs (Jb 4))))))))
noncomputable def Um:List Sl->Option Sl:=Yo 5 (Jn (Jp 2 (eU 2 UB (aC (Jb 0) (aC (Jb 1) a0))))
 (Jn (xIf (tB? (e2 fIs (Jb 2) (eC .non))) (Yy (eC .non)) Yt)
 (Jn (Jp 3 (eU 1 Uc (aC (Jb 2) a0)))
 (Jn (VS 4 (Yr (Ji4 true (aC (Jb 3) (aC (eSl (Jb 3) (some (eC (.int 1))) none) a0))) (.tp (.cons (.nm 0) (.cons (.nm 1) .nil))) yes? (Yz (aC (e2 fIx (Jb 0) (eC (.int 0))) (aC (e2 YX (e2 fIx (Jb 0) (eC (.int 1))) (e2 fIx (Jb 1) (eC (.int 1)))) a0))) [none,none]))
 (Jn (Jd0 4 (Yr (iE true (eSl (Jb 3) (some (e1 JcO (eC (.int 1)))) none)) (.tp (.cons (.nm 0) (.cons (.nm 1) .nil))) yes? (Yz (aC (eC .non) (aC (Jb 1) a0))) [none,none]))
 (Yy (Yr (iE true (Jb 4)) (.nm 0) (tB? (e2 fNe (e2 fIx (Jb 0) (eC (.int 1))) (eC (.int 0)))) (Jb 0) [none])))))))
noncomputable def JM:List Sl->Option Sl:=Yo 2 (Jn (xIf (tB? (e2 fLt (Jb 1) (eF Zy (aC (Jb 0) a0)))) (Yy (e2 fIx (Jb 0) (Jb 1))) Yt)
 (Yy (eC (.int 0))))
noncomputable def YC:List Sl->Option Sl:=Yo 7 (Jn (VS 3 JaT)
 (Jn (Vo (iR1 (aC (eF Zy (aC (Jb 1) a0)) a0)) (.nm 4) (Jn (Jp 5 (eU 2 JM (aC (Jb 0) (aC (e2 YA (eC (.int 30)) (Jb 4)) a0))))
 (Jn (Jp 6 (e2 YX (e2 W0 (e2 Jeu (Jb 5) (eC (.int 4))) (e2 YA (e2 Vx (eC (.int 2)) (Jb 2)) (eC (.int 1)))) (Jb 2)))
 (JdY 3 (e2 fIx (Jb 1) (Jb 4)) (e2 fIx (Vv (aC (eC (.int 0)) (aC (e2 YX (e2 W0 (e2 Jeu (Jb 5) (eC (.int 4))) (eC (.int 9))) (eC (.int 4))) (aC (Jb 6) (aC (e2 Vx (e2 fIx (Jb 1) (Jb 4)) (e2 YX (e2 W0 (e2 Jeu (Jb 5) (eC (.int 4))) (eC (.int 7))) (eC (.int 3)))) a0))))) (e2 W0 (Jb 5) (eC (.int 4))))))))
 (Uk 3)))
noncomputable def YB:List Sl->Option Sl:=Yo 7 (Jn (VS 3 Jek)
 (Jn (Vo (iR1 (aC (Jb 1) a0)) (.nm 4) (Jn (Jp 5 (e2 YA (eC (.int 1)) (e2 W0 (eU 2 JM (aC (Jb 0) (aC (e2 YA (eC (.int 2)) (e2 Vx (eC (.int 2)) (Jb 4))) a0))) (Jb 2))))
 (Jn (Jp 6 (e2 YX (e2 W0 (eU 2 JM (aC (Jb 0) (aC (e2 YA (eC (.int 3)) (e2 Vx (eC (.int 2)) (Jb 4))) a0))) (e2 YA (e2 Vx (eC (.int 4)) (Jb 2)) (eC (.int 1)))) (e2 Vx (eC (.int 2)) (Jb 2))))
 (JgR 3 (aC (Jb 5) (aC (Jb 6) a0)) (e2 YA (e2 YA (Jep (Jb 3) (aC (Jb 5) (aC (Jb 6) a0)) (eC (.int 0))) (eC (.int 1))) (e2 W0 (e2 JfN (eU 2 JM (aC (Jb 0) (aC (e2 YA (eC (.int 2)) (e2 Vx (eC (.int 2)) (Jb 4))) a0))) (Jb 2)) (eC (.int 2))))))))
 (Yy (Yr (iE true (Jeo (Jb 3))) (.tp (.cons (.nm 0) (.cons (.nm 1) .nil))) yes? (Yz (aC (Jb 0) (aC (Jb 1) (aC (Jn9 (Jb 2) (Yz (aC (Jb 0) (aC (Jb 1) a0)))) a0)))) [none,none,some 3]))))
noncomputable def Jet:List Sl->Option Sl:=Yo 12 (Jn (Jp 1 (eU 2 JM (aC (Jb 0) (aC (eC (.int 0)) a0))))
 (Jn (Jp 2 (e2 fIx (Vv (aC (eC (.int 4)) (aC (eC (.int 100)) (aC (e2 Jlo (eC (.int 10)) (eC (.int 28))) a0)))) (e2 W0 (e2 Jeu (Jb 1) (eC (.int 13))) (eC (.int 3)))))
 (Jn (Jp 3 (eU 3 YB (aC (Jb 0) (aC (e2 W0 (Jb 1) (eC (.int 13))) (aC (Jb 2) a0)))))
 (Jn (Jp 4 (Jen (Yr (iE true (Jb 3)) (.nm 0) yes? (e2 fIx (Jb 0) (eC (.int 0))) [none])))
 (Jn (Jp 5 (eU 3 YC (aC (Jb 0) (aC (Jb 4) (aC (e2 fIx (Vv (aC (e2 Vx (eC (.int 3)) (Jb 2)) (aC (e2 Jlo (eC (.int 10)) (eC (.int 50))) a0))) (e2 W0 (e2 Jeu (Jb 1) (eC (.int 39))) (eC (.int 2)))) a0)))))
 (Jn (Jp 6 (eU 1 J8 (aC (eF JfO (aC (Jb 3) a0)) a0)))
 (Jn (Jp 7 (eU 1 J8 (aC (Yr (iE true (Jb 3)) (.tp (.cons (.nm 0) (.cons (.nm 1) (.cons (.nm 2) .nil)))) yes? (Yz (aC (Jb 0) (aC (e2 YA (Jb 1) (Jg8 (Jb 3) (Jb 0))) (aC (Jb 2) a0)))) [none,none,none,some 5]) a0)))
 (Jn (Jp 8 (Yz (aC (e1 Y1 (Jb 6)) (aC (e1 Y1 (Jb 7)) a0))))
 (Jn (VS 9 (eU 2 Um (aC (Jb 6) (aC (Jb 7) a0))))
 (Jn (xIf (tNot? (tTru? (Jel "list" (Jb 9)))) (Yy (eC (.bl false))) Yt)
 (Jn (Jcj 9 (Yz (aC (eC (.int 1)) (aC (eC (.int 1)) a0))))
 (Jn (Jp 10 (eU 2 Um (aC (Jb 6) (aC (Jb 7) a0))))
 (Jn (xIf (tOr? (tNot? (tTru? (Jel "list" (Jb 10)))) (tOr? (tB? (e2 fNe (Jb 10) (eSl (Jb 9) none (some (e1 JcO (eC (.int 1))))))) (tB? (e2 fGt (eF Zy (aC (Jb 10) a0)) (e2 Vx (eC (.int 2)) (eF Zy (aC (Jb 4) a0))))))) (Yy (eC (.bl false))) Yt)
 (Jn (Vo (iV 10) (.nm 11) (xIf (tOr? (tNot? (tTru? (Jel "tuple" (Jb 11)))) (tB? (e2 fNe (eF Zy (aC (Jb 11) a0)) (eC (.int 2))))) (Yy (eC (.bl false))) Yt))
 (Jn (xIf (tOr? (tNot? (tTru? (eU 1 JS (aC (Jb 10) a0)))) (tB? (e2 fNe (e1 Y1 (eU 2 UP (aC (Jb 6) (aC (JiB (aC (Jb 10) a0)) a0)))) (e1 Y1 (Jb 7))))) (Yy (eC (.bl false))) Yt)
 (Jn (xIf (tB? (e2 fNe (e2 fEq (Jb 10) (Vv a0)) (e2 fEq (e1 Y1 (Jb 6)) (e1 Y1 (Jb 7))))) (Yy (eC (.bl false))) Yt)
 (Yy (e2 fEq (Jb 8) (Yz (aC (e1 Y1 (Jb 6)) (aC (e1 Y1 (Jb 7)) a0)))))))))))))))))))))
end LK
end
namespace LK
open PySem L2 LR LE
local macro_rules | `(tactic| omega)=>`(tactic| first | lia | omega (config:={}))
local macro_rules | `(tactic| walk_at "sd")=>`(tactic| first | omega (config:={}) | assumption | (simp only[Qx,Qk,KE,Qq,KM,GA];omega (config:={})))
local macro_rules | `(tactic| walk_at "ev")=>`(tactic| simp -implicitDefEqProofs (disch:=walk_at "sd") only[Yo,JmT,Int.reduceToNat,Qq,KM,Nat.reduceAdd,Nat.reduceSub,Nat.reduceLT,Nat.reduceLeDiff,Q8,Nat.zero_lt_succ,Nat.succ_lt_succ_iff,List.reduceReplicate,KG,Kj,Ki,List.set_cons_zero,List.set_cons_succ,List.getElem?_cons_succ,List.getElem?_cons_zero,Qk,KE,List.length_set,QV,Lp,Option.bind_none,Option.map_none,if_true,if_false,ite_true,ite_false,decide_true,decide_false,Bool.not_true,Bool.not_false,Bool.and_true,Bool.true_and,reduceIte,reduceCtorEq,GG,Qg,KN,if_pos,
 Jn,xIf,Yy,Uk,Yt,VS,Jp,JdZ,Jcj,Jd0,Jm7,Jfo,JlR,Jk4,JaT,Jek,JgR,Jn9,Jep,Jeo,Sl.dt,pr?,JcX,Jg8,Jej,JdY,JgP,JeB,Jbs,Jem,Jen,JgQ,ifB,JiC,JiB,lst?,Jlj,Sl.dk,int?,Vo,tB?,tTru?,tAnd?,tOr?,tNot?,Jqb,e2,e1,Jb,eF,eC,aC,a0,eU,Zc,Sl.pass,Yz,Vv,Zz,Sl.frz,Jn7,Jn8,eIf,Jei,sh?,bool?,keep?,Jel,tyN,Jo2,JmM,JmN,Jk8,Jk9,
 JqC,Jlm,JiJ,Jll,Jli,JiH,Jlp,Jln,Jld,Jle,Jlf,Jog,Jof,Joh,JqF,JqE,JqH,JqD,JqG,JfO,Jlk,Jev,Y1,Sl.q,Sl.r,Sl.m,Sl.d,Sl.it,fEq,fNe,Joe,Jod,Joc,Job,fIs,Vw,Jhk,Jhi,Jhl,Jhj,iE,iV,iR1,Yr,V4,Ji4,Jon,JcR,W6,JfQ,ZH,eSl,Zu,fSl,JeE,JoB,JlA,JoD,JoC,Jqq,Jqr,JkS,Jh2,Jr4,eq_self])
noncomputable section
theorem ZP(ns:List Int)(k:Int)(hk:0<=k):JM [.sh (.fz (ns.map .int)),.sh (.int k)]=some (.sh (.int (cell ns k))):=by
 unfold JM;walk_at "ev"
 by_cases h:k<(ns.length:Int)
 ·simp only[h,W2,Jct hk h];walk_at "ev"
 ·simp only[h,Jin h];walk_at "ev"
theorem Good.cons'(g:Good (p::ps)):Good ps:=⟨fun i q e=>g.one (i+1) q (by simpa using e),fun i q r e1 e2=>g.gap (i+1) q r (by simpa using e1) (by simpa using e2)⟩
theorem Good.all(g:Good ps):∀p∈ps,1<=p.2:=fun p hp=>by obtain⟨i,hi,e⟩:=Gs.mp hp;exact g.one i p (by simp[hi,e])
theorem Good.first:∀{ps:List Pr},Good (p::ps)->∀q∈ps,p.1+p.2<q.1
 | [],_,q,hq=>nomatch hq
 | r::ps,g,q,hq=>by
  have h1:=g.gap 0 p r rfl rfl;rcases Qh.mp hq with z|z
  ·rw[z];exact h1
  ·have h2:=Good.first (Good.cons' g) q z
   have h3:=g.one 1 r rfl;omega
theorem Good.pw:∀{ps:List Pr},Good ps->ps.Pairwise fun p q=>p.1+p.2<q.1
 | [],_=>.nil
 | p::ps,g=>.cons (Good.first g) (Good.pw (Good.cons' g))
theorem Jic{α:Type}{xs:List α}{x:α}(h:xs[xs.length-1]?=some x):atI xs (-1)=some x:=by
 have hl:=(Qn.mp h).1;unfold atI ixN;rw[if_neg (by omega),if_pos (by omega)]
 have:((-1:Int)+(xs.length:Int)).toNat=xs.length-1:=by omega
 rw[this];exact h
theorem Zx(p:Pr):fIx (.sh (prE p)) (.sh (.int 0))=some (.sh (.int p.1)):=rfl
theorem Wp(p:Pr):fIx (.sh (prE p)) (.sh (.int 1))=some (.sh (.int p.2)):=rfl
noncomputable def Uo:List Pr->List Int
 | []=>[]
 | [_]=>[]
 | p::q::r=>(q.1-(p.1+p.2))::Uo (q::r)
theorem JaW:∀ps:List Pr,Uo ps=(Ml ps (ps.drop 1)).map fun pq=>pq.2.1-(pq.1.1+pq.1.2)
 | []=>rfl
 | [_]=>rfl
 | p::q::r=>by rw[Uo,JaW (q::r)];rfl
theorem JaV:∀ps:List Pr,(Uo ps).length=ps.length-1
 | []=>rfl
 | [_]=>rfl
 | p::q::r=>by rw[Uo,Qq,JaV (q::r)];simp
theorem JcE{α:Type}(xs:List α):Zr xs (some 1) none=xs.drop 1:=by
 unfold Zr;have e:HT.sIx xs.length 0 (some 1)=min 1 xs.length:=rfl;rw[e,show HT.sIx xs.length xs.length none=xs.length from rfl]
 cases xs with
 | nil=>rfl
 | cons x xs=>simp
theorem JoM(ps:List Pr)(h:ps.length<=1000):Ub [.sh (.row (ps.map prE))]=some (.own ((Uo ps).map .int)):=by
 unfold Ub;walk_at "ev";rw[JcE,<- RX,Zj];walk_at "ev";have hz:(Ml ps (ps.drop 1)).length<=16777216:=by rw[GD];omega
 rw[if_pos hz,JL (g:=fun pq=>D.int (pq.2.1-(pq.1.1+pq.1.2)))]
 ·walk_at "ev";rw[JaW,Qt];rfl
 ·intro pq _;walk_at "ev";rw[Zx];walk_at "ev";rw[Vh (ns:=[pq.1.1,pq.1.2]) rfl];walk_at "ev";simp
theorem Good.mk'(h1:1<=p.2)(h2:∀q,ps[0]?=some q->p.1+p.2<q.1)(g:Good ps):Good (p::ps):=by
 refine⟨fun i q e=>?_,fun i q r e1 e2=>?_⟩
 ·cases i with
  | zero=>simp at e;subst e;exact h1
  | succ i=>exact g.one i q (by simpa using e)
 ·cases i with
  | zero=>simp at e1;subst e1;exact h2 r (by simpa using e2)
  | succ i=>exact g.gap i q r (by simpa using e1) (by simpa using e2)
noncomputable def byF(k:Int)(ps:List Pr):List Pr:=ps.mapIdx fun i p=>(p.1+2*k*(i:Int),p.2+k)
theorem Us(k:Int)(ps:List Pr):(byF k ps).length=ps.length:=by unfold byF;rw[List.length_mapIdx]
theorem Jbi{k:Int}{ps:List Pr}{i:Nat}{x:Pr}(e:(byF k ps)[i]?=some x):∃p,ps[i]?=some p/\x=(p.1+2*k*(i:Int),p.2+k):=by unfold byF at e;rw[QH,Gk] at e;obtain⟨p,h,rfl⟩:=e;exact⟨p,h,rfl⟩
theorem Jcy(a b:Int)(ps:List Pr):byF a (byF b ps)=byF (a+b) ps:=by
 refine Gm fun i=>?_
 unfold byF;rw[QH,QH,QH,Kh]
 cases ps[i]? with
 | none=>rfl
 | some p=>show some (p.1+2*b*(i:Int)+2*a*(i:Int),p.2+b+a)=some (p.1+2*(a+b)*(i:Int),p.2+(a+b));rw[L3,Mm];congr 2 <;> omega
theorem Vg(ps:List Pr):byF 0 ps=ps:=by
 refine Gm fun i=>?_
 unfold byF;rw[QH]
 cases ps[i]? with
 | none=>rfl
 | some p=>simp
structure Wide (c:Int) (ps:List Pr):Prop where
 one:∀(i:Nat) (p:Pr),ps[i]?=some p->c<=p.2
 gap:∀(i:Nat) (p q:Pr),ps[i]?=some p->ps[i+1]?=some q->c<=q.1-(p.1+p.2)
theorem Wide.good(h:1<=c)(w:Wide c ps):Good ps:=⟨fun i p e=>by have:=w.one i p e;omega,fun i p q e1 e2=>by have:=w.gap i p q e1 e2;omega⟩
theorem Wide.bys{c k:Int}{ps:List Pr}(w:Wide c ps):Wide (c+k) (byF k ps):=by
 refine⟨fun i x e=>?_,fun i x y e1 e2=>?_⟩
 ·obtain⟨p,h,rfl⟩:=Jbi e;have:=w.one i p h;dsimp only;omega
 ·obtain⟨p,h1,rfl⟩:=Jbi e1;obtain⟨q,h2,rfl⟩:=Jbi e2;have:=w.gap i p q h1 h2;have em:2*k*((i+1:Nat):Int)=2*k*(i:Int)+2*k:=by rw[Lq,L3];simp
  dsimp only;rw[em];omega
theorem Wide.mono(h:c'<=c)(w:Wide c ps):Wide c' ps:=⟨fun i p e=>by have:=w.one i p e;omega,fun i p q e1 e2=>by have:=w.gap i p q e1 e2;omega⟩
theorem Wide.cons(w:Wide c (p::ps)):Wide c ps:=⟨fun i q e=>w.one (i+1) q (by simpa using e),fun i q r e1 e2=>w.gap (i+1) q r (by simpa using e1) (by simpa using e2)⟩
noncomputable def clF:Pr->List Pr->List Pr
 | cur,[]=>[cur]
 | cur,p::r=>if cur.1+cur.2=p.1 then clF (cur.1,cur.2+p.2) r else if 0<p.2 then cur::clF p r else clF cur r
noncomputable def clN:List Pr->List Pr
 | []=>[]
 | p::r=>if 0<p.2 then clF p r else clN r
theorem Jio:∀(cur:Pr) (r:List Pr),Good (cur::r)->clF cur r=cur::r
 | cur,[],_=>rfl
 | cur,p::r,g=>by
  have h1:=g.gap 0 cur p rfl rfl
  have h2:=g.one 1 p rfl;rw[clF,if_neg (by omega),if_pos (by omega),Jio p r (Good.cons' g)]
theorem Jbn(g:Good ps):clN ps=ps:=by
 cases ps with
 | nil=>rfl
 | cons p r=>rw[clN,if_pos (by have:=g.one 0 p rfl;omega),Jio p r g]
theorem VV:∀(cur:Pr) (r:List Pr),1<=cur.2->Wide 0 r->(∀q,r[0]?=some q->cur.1+cur.2<=q.1)->Good (clF cur r)/\∃q,(clF cur r)[0]?=some q/\q.1=cur.1
 | cur,[],h,_,_=>⟨Good.mk' h (fun q e=>by simp at e) Good.nil,cur,rfl,rfl⟩
 | cur,p::r,h,w,hq=>by
  have h0:=w.one 0 p rfl
  have hb:=hq p rfl
  have nx:∀q,r[0]?=some q->p.1+p.2<=q.1:=fun q e=>by have:=w.gap 0 p q rfl (by simpa using e);omega
  rw[clF];split
  ·next e=>exact VV (cur.1,cur.2+p.2) r (by dsimp only;omega) w.cons fun q e'=>by have:=nx q e';dsimp only;omega
  ·next e =>
   split
   ·next hp=>obtain⟨g,q,e1,e2⟩:=VV p r (by omega) w.cons nx;exact⟨Good.mk' h (fun q' e'=>by rw[e1] at e';cases e';omega) g,cur,rfl,rfl⟩
   ·next hp=>exact VV cur r h w.cons fun q e'=>by have:=nx q e';omega
theorem Zq:∀(ps:List Pr),Wide 0 ps->Good (clN ps)
 | [],_=>Good.nil
 | p::r,w=>by
  rw[clN];split
  ·next h=>exact(VV p r (by omega) w.cons fun q e=>by have:=w.gap 0 p q rfl (by simpa using e);omega).1
  ·exact Zq r w.cons
theorem W4:∀(cur:Pr) (r:List Pr),(clF cur r).length<=r.length+1/\((clF cur r).length=r.length+1->(∀p∈r,0<p.2)/\∀(i:Nat) (p q:Pr),(cur::r)[i]?=some p->(cur::r)[i+1]?=some q->p.1+p.2≠q.1)
 | cur,[]=>⟨Qm _,fun _=>⟨fun p hp=>(by cases hp),fun i p q _ e=>(by simp at e)⟩⟩
 | cur,p::r=>by
  rw[clF,Qq];split
  ·next e=>have ih:=(W4 (cur.1,cur.2+p.2) r).1;exact⟨by omega,fun h=>by omega⟩
  ·next e =>
   split
   ·next hp =>
    obtain⟨i1,i2⟩:=W4 p r;refine⟨by rw[Qq];omega,fun h=>?_⟩;obtain⟨a1,a2⟩:=i2 (by rw[Qq] at h;omega);refine⟨fun q hq=>?_,fun i x y e1 e2=>?_⟩
    ·rcases Qh.mp hq with z|z
     ·rw[z];exact hp
     ·exact a1 q z
    ·cases i with
     | zero=>simp at e1 e2;subst e1 e2;exact e
     | succ i=>exact a2 i x y (by simpa using e1) (by simpa using e2)
   ·have ih:=(W4 cur r).1;exact⟨by omega,fun h=>by omega⟩
theorem VW:∀(ps:List Pr),(clN ps).length<=ps.length/\((clN ps).length=ps.length->(∀p∈ps,0<p.2)/\∀(i:Nat) (p q:Pr),ps[i]?=some p->ps[i+1]?=some q->p.1+p.2≠q.1)
 | []=>⟨Qm _,fun _=>⟨fun p hp=>(by cases hp),fun i p q e=>(by simp at e)⟩⟩
 | p::r=>by
  rw[clN,Qq];split
  ·next hp=>obtain⟨i1,i2⟩:=W4 p r;refine⟨i1,fun h=>?_⟩;obtain⟨a1,a2⟩:=i2 h;exact⟨fun q hq=>(Qh.mp hq).elim (fun z=>z▸hp) (a1 q),a2⟩
  ·have ih:=(VW r).1;exact⟨by omega,fun h=>by omega⟩
noncomputable def thF(ps:List Pr):List Pr:=clN (byF (-1) ps)
noncomputable def thN:Nat->List Pr->List Pr
 | 0,ps=>ps
 | n+1,ps=>thN n (thF ps)
theorem Zi(a b:Nat):∀ps:List Pr,thN (a+b) ps=thN b (thN a ps):=by
 induction a with
 | zero=>intro ps;rw[MD];rfl
 | succ a ih=>intro ps;rw[Nat.succ_add];exact ih (thF ps)
theorem JgK:∀n,thN n []=[]
 | 0=>rfl
 | n+1=>JgK n
theorem J0(g:Good ps):Good (thF ps):=Zq _ (by
 have w:Wide 1 ps:=⟨fun i p e=>g.one i p e,fun i p q e1 e2=>by have:=g.gap i p q e1 e2;omega⟩
 exact w.bys (k:=-1))
theorem Ui:∀(n:Nat) {ps:List Pr},Good ps->Good (thN n ps)
 | 0,_,g=>g
 | n+1,_,g=>Ui n (J0 g)
theorem Jam:∀(n:Nat) {c:Int} {ps:List Pr},Wide c ps->1<=c->((n:Int)<=c)->thN n ps=clN (byF (-(n:Int)) ps)
 | 0,c,ps,w,h1,_=>by show ps=clN (byF (-((0:Nat):Int)) ps);rw[show -((0:Nat):Int)=0 by simp,Vg,Jbn (w.good h1)]
 | n+1,c,ps,w,h1,hn=>by
  show thN n (thF ps)=_
  by_cases h:n=0
  ·subst h;rfl
  ·have w1:Wide (c+-1) (byF (-1) ps):=w.bys
   have e:thF ps=byF (-1) ps:=Jbn (w1.good (by omega));rw[e,Jam n w1 (by omega) (by omega),Jcy];congr 2;omega
theorem Wl{n:Nat}{c:Int}{ps:List Pr}(w:Wide c ps)(h1:1<=c)(h:(n:Int)<c):thN n ps=byF (-(n:Int)) ps:=by rw[Jam n w h1 (by omega),Jbn ((w.bys (k:=-(n:Int))).good (by omega))]
noncomputable def Jh3(c:Int)(ps:List Pr):Prop:=(∃p∈ps,p.2=c)\/∃(i:Nat) (p q:Pr),ps[i]?=some p/\ps[i+1]?=some q/\q.1-(p.1+p.2)=c
theorem Jan(t:Jh3 c ps):(clN (byF (-c) ps)).length<ps.length:=by
 obtain⟨h1,h2⟩:=VW (byF (-c) ps);rw[Us] at h1 h2;rcases LF (clN (byF (-c) ps)).length ps.length with h|h
 ·exact h
 ·obtain⟨a1,a2⟩:=h2 (by omega)
  exfalso
  rcases t with ⟨p,hp,e⟩|⟨i,p,q,e1,e2,e⟩
  ·obtain⟨i,hi,rfl⟩:=Gs.mp hp
   have hx:(byF (-c) ps)[i]?=some (ps[i].1+2*-c*(i:Int),ps[i].2+-c):=by unfold byF;rw[QH,Qw hi];rfl
   have:=a1 _ (QG hx);dsimp only at this;omega
  ·have hx:(byF (-c) ps)[i]?=some (p.1+2*-c*(i:Int),p.2+-c):=by unfold byF;rw[QH,e1];rfl
   have hy:(byF (-c) ps)[i+1]?=some (q.1+2*-c*((i+1:Nat):Int),q.2+-c):=by unfold byF;rw[QH,e2];rfl
   have:=a2 i _ _ hx hy
   have em:2*-c*((i+1:Nat):Int)=2*-c*(i:Int)+2*-c:=by rw[Lq,L3];simp
   dsimp only at this;rw[em] at this;omega
noncomputable def zs(n:Nat):List Int:=QN n 0
noncomputable def os(n:Nat):List Int:=QN n 1
noncomputable def byR:Int->List Pr->List Pr
 | _,[]=>[]
 | c,p::r=>(p.1-c,p.2-1)::byR (c+2) r
theorem Jfy:∀(ps:List Pr) (c:Int),byR c ps=ps.mapIdx fun i p=>(p.1+2*(-1)*(i:Int)-c,p.2+-1)
 | [],c=>rfl
 | p::r,c=>by
  rw[byR,List.mapIdx_cons,Jfy r (c+2)];congr 1
  ·congr 1;simp
  ·refine Gm fun i=>?_
   rw[QH,QH]
   cases r[i]? with
   | none=>rfl
   | some q=>simp only[Lp,Lq];congr 2;omega
theorem Vf(ps:List Pr):byR 0 ps=byF (-1) ps:=by
 rw[Jfy];unfold byF;congr 1
 funext i p
 congr 1;omega
theorem JT(g:Good ps):Wide 1 ps:=⟨fun i p e=>g.one i p e,fun i p q e1 e2=>by have:=g.gap i p q e1 e2;omega⟩
theorem Zp:∀(r:List Pr) (cur:Pr),∃q,(clF cur r)[0]?=some q/\q.1=cur.1
 | [],cur=>⟨cur,rfl,rfl⟩
 | p::r,cur=>by
  rw[clF];split
  ·obtain⟨q,h1,h2⟩:=Zp r (cur.1,cur.2+p.2);exact⟨q,h1,h2⟩
  ·split
   ·exact⟨cur,rfl,rfl⟩
   ·exact Zp r cur
theorem WJ:∀(n:Nat) (ps:List Pr),thN (n+1) ps=thF (thN n ps)
 | 0,ps=>rfl
 | n+1,ps=>by show thN (n+1) (thF ps)=thF (thN n (thF ps));exact WJ n (thF ps)
noncomputable def tkS(x prev pos:Int)(acc:List Pr):List Pr :=
 if x=1/\prev=1 then acc.dropLast++[((acc.getLastD (0,0)).1,(acc.getLastD (0,0)).2+1)] else if x=1 then acc++[(pos,1)] else acc
noncomputable def tk:Int->Int->List Pr->List Int->List Pr
 | _,_,acc,[]=>acc
 | prev,pos,acc,x::r=>tk x (pos+1) (tkS x prev pos acc) r
noncomputable def below(ps:List Pr)(x:Int):Int:=(ps.map fun p=>max 0 (min p.2 (x-p.1))).sum
theorem Jz(p:Pr)(ps:List Pr)(x:Int):below (p::ps) x=max 0 (min p.2 (x-p.1))+below ps x:=by unfold below;rw[Qg,Qz]
theorem Zo{ps:List Pr}{x:Int}(h:∀p∈ps,x<=p.1):below ps x=0:=by
 induction ps with
 | nil=>rfl
 | cons p ps ih=>have h1:=h p Qd;rw[Jz,ih fun q hq=>h q (Qc _ hq)];omega
noncomputable def JN(ps:List Pr)(y:Int):Bool:=ps.any fun p=>decide (p.1<=y) && decide (y<p.1+p.2)
theorem has_iff:JN ps y=true↔∃p∈ps,p.1<=y/\y<p.1+p.2:=by unfold JN;rw[Kp];simp
theorem JbD(h:∀p∈ps,p.1<=y->p.1+p.2<=y):JN ps y=false:=by
 cases e:JN ps y with
 | false=>rfl
 | true=>obtain⟨p,hp,h1,h2⟩:=has_iff.mp e;have:=h p hp h1;omega
theorem JqV{l d:Int}(h0:0<=d)(h1:d<l):max 0 (min l (d+1))=max 0 (min l d)+1:=by rw[Gv (by omega),Gv (by omega),Kr (by omega),Kr h0]
theorem JoQ{l d:Int}(hl:0<=l)(h:d<0\/l<=d):max 0 (min l (d+1))=max 0 (min l d):=by
 rcases h with h|h
 ·rw[Gv (by omega),Gv (by omega),LW (by omega),LW (by omega)]
 ·rw[G2 (by omega),G2 h]
theorem Zn(y:Int):∀{ps:List Pr},Good ps->below ps (y+1)=below ps y+(if JN ps y=true then 1 else 0)
 | [],_=>rfl
 | p::ps,g=>by
  have ih:=Zn y (Good.cons' g)
  have hp:=g.one 0 p rfl;rw[Jz,Jz,ih]
  by_cases h1:p.1<=y/\y<p.1+p.2
  ·have e1:JN (p::ps) y=true:=has_iff.mpr ⟨p,Qd,h1⟩
   have e2:JN ps y=false:=JbD fun q hq hy=>by
    have:=Good.first g q hq
    omega
   rw[e1,e2,if_pos rfl,if_neg (by simp),show y+1-p.1=y-p.1+1 by omega,JqV (show 0<=y-p.1 by omega) (show y-p.1<p.2 by omega)]
   generalize max 0 (min p.2 (y-p.1))=m
   omega
  ·have e1:JN (p::ps) y=JN ps y:=by
    unfold JN;rw[Kb]
    have:(decide (p.1<=y) && decide (y<p.1+p.2))=false:=by
     cases h:(decide (p.1<=y) && decide (y<p.1+p.2)) with
     | false=>rfl
     | true=>rw[QU,decide_eq_true_eq,decide_eq_true_eq] at h;exact absurd h h1
    rw[this,Ks]
   rw[e1,show y+1-p.1=y-p.1+1 by omega,JoQ (show 0<=p.2 by omega) (show y-p.1<0\/p.2<=y-p.1 by omega),M9]
theorem JV(p:Pr)(ps:List Pr)(x:Int):JN (p::ps) x=((decide (p.1<=x) && decide (x<p.1+p.2)) || JN ps x):=by unfold JN;rw[Kb]
theorem Wq{p:Pr}{ps:List Pr}{x:Int}(h1:p.1<=x)(h2:x<p.1+p.2):JN (p::ps) x=true:=has_iff.mpr ⟨p,Qd,h1,h2⟩
theorem JbE(h:p.1+p.2<=x):JN (p::ps) x=JN ps x:=by rw[JV];have:decide (x<p.1+p.2)=false:=decide_eq_false (by omega);rw[this,RK,Ks]
theorem UQ(h:∀p∈ps,x<p.1):JN ps x=false:=JbD fun p hp hx=>by have:=h p hp;omega
theorem JbC:∀{ps qs:List Pr},Good ps->Good qs->(∀x,JN ps x=JN qs x)->ps=qs
 | [],[],_,_,_=>rfl
 | [],q::qs,_,g,h=>by have:=h q.1;rw[Wq (QE _) (by have:=g.one 0 q rfl;omega)] at this;cases this
 | p::ps,[],g,_,h=>by have:=h p.1;rw[Wq (QE _) (by have:=g.one 0 p rfl;omega)] at this;cases this
 | p::ps,q::qs,g,g',h=>by
  have hp:=g.one 0 p rfl
  have hq:=g'.one 0 q rfl
  have le:∀{p:Pr} {ps:List Pr} {x:Int},Good (p::ps)->JN (p::ps) x=true->p.1<=x:=fun {p ps x} g e=>by
   obtain⟨r,hr,h1,h2⟩:=has_iff.mp e;rcases Qh.mp hr with z|z
   ·rw[<- z];exact h1
   ·have:=Good.first g r z
    have:=g.one 0 p rfl;omega
  have e1:p.1=q.1:=by
   have a:=le g' (x:=p.1) (by rw[<- h];exact Wq (QE _) (by omega))
   have b:=le g (x:=q.1) (by rw[h];exact Wq (QE _) (by omega));omega
  have off:∀{p:Pr} {ps:List Pr},Good (p::ps)->JN (p::ps) (p.1+p.2)=false:=fun {p ps} g=>by rw[JbE (QE _)];exact UQ fun z hz=>Good.first g z hz
  have e2:p.2=q.2:=by
   have a:=h (p.1+p.2);rw[off g] at a
   have b:=h (q.1+q.2);rw[off g'] at b
   by_cases c:p.2<q.2
   ·rw[Wq (p:=q) (by omega) (by omega)] at a;cases a
   ·by_cases c':q.2<p.2
    ·rw[Wq (p:=p) (by omega) (by omega)] at b;cases b
    ·omega
  have e:p=q:=Lm e1 e2;subst e;rw[JbC (Good.cons' g) (Good.cons' g') fun x=>?_]
  by_cases c:p.1+p.2<=x
  ·have:=h x
   rwa [JbE c,JbE c] at this
  ·rw[UQ fun z hz=>by have:=Good.first g z hz;omega,UQ fun z hz=>by have:=Good.first g' z hz;omega]
theorem Jhs(a b:Int):a<b\/b<=a:=by omega
theorem Vt{ps:List Pr}(h:∀p∈ps,0<=p.2){x y:Int}(hxy:x<=y):below ps x<=below ps y:=by
 induction ps with
 | nil=>exact QE _
 | cons p r ih =>
  have i:=ih fun q hq=>h q (Qc _ hq)
  rw[Jz,Jz];exact Int.add_le_add (R4.mpr ⟨Mw _ _,L9 (R5.mpr ⟨Ry _ _,L9 (Lc _ _) (by omega)⟩) (Int.le_max_right _ _)⟩) i
theorem UL(g:Good ps):∀n:Nat,below ps (a+(n:Int))<=below ps a+(n:Int)/\((∀y,a<=y->y<a+(n:Int)->JN ps y=true)->below ps (a+(n:Int))=below ps a+(n:Int))/\((∀y,a<=y->y<a+(n:Int)->JN ps y=false)->below ps (a+(n:Int))=below ps a)
 | 0=>by simp
 | n+1=>by
  obtain⟨i1,i2,i3⟩:=UL g (a:=a) n;have e:a+((n+1:Nat):Int)=a+(n:Int)+1:=by omega
  rw[e,Zn (a+(n:Int)) g];refine⟨by split <;> omega,fun h=>?_,fun h=>?_⟩
  ·rw[if_pos (h (a+(n:Int)) (by omega) (by omega)),i2 fun y h1 h2=>h y h1 (by omega)];omega
  ·rw[if_neg (by rw[h (a+(n:Int)) (by omega) (by omega)];simp),i3 fun y h1 h2=>h y h1 (by omega),Ma]
theorem Ve(g:Good ps)(h:x<=y):below ps y<=below ps x+(y-x):=by have:=(UL g (a:=x) (y-x).toNat).1;rw[show x+((y-x).toNat:Int)=y by omega] at this;omega
theorem Jea(g:Good ps)(h:x<=y)(hb:∀z,x<=z->z<y->JN ps z=true):below ps y=below ps x+(y-x):=by
 have:=(UL g (a:=x) (y-x).toNat).2.1 fun z h1 h2=>hb z h1 (by omega (config:={}))
 rw[show x+((y-x).toNat:Int)=y by omega (config:={})] at this;omega (config:={})
theorem Jd9(g:Good ps)(h:x<=y)(hb:∀z,x<=z->z<y->JN ps z=false):below ps y=below ps x:=by
 have:=(UL g (a:=x) (y-x).toNat).2.2 fun z h1 h2=>hb z h1 (by omega (config:={}))
 rw[show x+((y-x).toNat:Int)=y by omega (config:={})] at this;omega (config:={})
noncomputable def edF(ps:List Pr):Nat->Int->List Int->List Pr
 | _,_,[]=>[]
 | i,c,s::r=>(s+2*(i:Int)-(below ps s-c),below ps s-c+1)::edF ps (i+1) (below ps s) r
noncomputable def flF(ps:List Pr):Int->List Int->List Pr
 | _,[]=>[]
 | c,s::r=>(s-(below ps s-c),below ps s-c)::flF ps (below ps s) r
theorem Jnh(ps:List Pr):∀(sp:List Int) (i:Nat) (c:Int),byR (2*(i:Int)) (edF ps i c sp)=flF ps c sp
 | [],_,_=>rfl
 | s::r,i,c=>by
  rw[edF,byR,flF];congr 1
  ·congr 1 <;> dsimp only <;> omega
  ·rw[<- Jnh ps r (i+1) (below ps s)];congr 1
theorem Jeq(ps:List Pr):∀(sp:List Int) (i:Nat) (c:Int),(edF ps i c sp).length=sp.length
 | [],_,_=>rfl
 | s::r,i,c=>by rw[edF,Qq,Qq,Jeq ps r]
theorem JfK(g:Good ps):∀(sp:List Int) (i:Nat) (s0:Int),(s0::sp).Pairwise (·<=·)->Good (edF ps i (below ps s0) sp)
 | [],_,_,_=>Good.nil
 | s::r,i,s0,hs=>by
  obtain⟨h1,h2⟩:=Qv.mp hs;have h3:=h1 s Qd;have m1:=Vt (fun p hp=>by have:=Good.all g p hp;omega) h3;rw[edF];refine Good.mk' (by dsimp only;omega) (fun q e=>?_) (JfK g r (i+1) s h2)
  cases r with
  | nil=>simp[edF] at e
  | cons s' r=>obtain⟨h4,_⟩:=Qv.mp h2;have h5:=h4 s' Qd;have l1:=Ve g h5;simp[edF] at e;subst e;dsimp only;omega
theorem JfT(g:Good ps):∀(sp:List Int) (s0:Int),(s0::sp).Pairwise (·<=·)->Wide 0 (flF ps (below ps s0) sp)
 | [],_,_=>⟨fun i p e=>by simp[flF] at e,fun i p q e=>by simp[flF] at e⟩
 | s::r,s0,hs=>by
  obtain⟨h1,h2⟩:=Qv.mp hs;have h3:=h1 s Qd;have m1:=Vt (fun p hp=>by have:=Good.all g p hp;omega) h3;have ih:=JfT g r s h2;rw[flF];refine⟨fun i p e=>?_,fun i p q e1 e2=>?_⟩
  ·cases i with
   | zero=>simp at e;subst e;dsimp only;omega
   | succ i=>exact ih.one i p (by simpa using e)
  ·cases i with
   | zero =>
    simp at e1;subst e1
    cases r with
    | nil=>simp[flF] at e2
    | cons s' r=>obtain⟨h4,_⟩:=Qv.mp h2;have h5:=h4 s' Qd;have l1:=Ve g h5;simp[flF] at e2;subst e2;dsimp only;omega
   | succ i=>exact ih.gap i p q (by simpa using e1) (by simpa using e2)
theorem JiL(g:Good ps):∀(sp:List Int) (s0:Int),(s0::sp).Pairwise (·<=·)->(∀p∈ps,s0<p.1+p.2->p.1+p.2∈sp) ->
 (∀x,s0<=x->JN (flF ps (below ps s0) sp) x=JN ps x)/\∀x,x<s0->JN (flF ps (below ps s0) sp) x=false
 | [],s0,_,he=>by
  refine⟨fun x hx=>?_,fun x hx=>rfl⟩
  have:JN ps x=false:=JbD fun p hp h1=>by
   rcases Jhs s0 (p.1+p.2) with z|z
   ·cases he p hp z
   ·omega
  rw[this];rfl
 | s::r,s0,hs,he=>by
  obtain⟨h1,h2⟩:=Qv.mp hs;have h3:=h1 s Qd;have hr:∀t∈r,s<=t:=(Qv.mp h2).1
  have lip:=Ve g h3
  obtain⟨i1,i2⟩:=JiL g r s h2 fun p hp h=>by
   rcases Qh.mp (he p hp (by omega)) with z|z
   ·omega
   ·exact z
  have run:∀y,s0<=y->y<s->JN ps y=true->∀z,y<=z->z<s->JN ps z=true:=fun y y1 y2 hy z z1 z2=>by
   obtain⟨p,hp,a1,a2⟩:=has_iff.mp hy
   have:s<=p.1+p.2:=by
    rcases Qh.mp (he p hp (by omega)) with w|w
    ·omega
    ·exact hr _ w
   exact has_iff.mpr ⟨p,hp,by omega,by omega⟩
  rw[flF];refine⟨fun x hx=>?_,fun x hx=>?_⟩
  ·rw[JV];rcases Jhs x s with hxs|hxs
   ·rw[i2 x hxs,LO];dsimp only
    cases hb:JN ps x with
    | true =>
     have f1:=Jea g (x:=x) (y:=s) (by omega) fun z z1 z2=>run x hx hxs hb z z1 z2
     have f2:=Vt (ps:=ps) (fun p hp=>by have:=Good.all g p hp;omega) hx;rw[decide_eq_true (by omega),decide_eq_true (by omega)];rfl
    | false =>
     have f1:=Jd9 g (x:=s0) (y:=x+1) (by omega) fun z z1 z2=>by
      cases hz:JN ps z with
      | false=>rfl
      | true=>have:=run z z1 (by omega) hz x (by omega) hxs;rw[hb] at this;cases this
     have f2:=Ve g (x:=x+1) (y:=s) (by omega);rw[decide_eq_false (by omega)];rfl
   ·rw[i1 x hxs];dsimp only;rw[decide_eq_false (p:=x<_) (by omega),RK,Ks]
  ·rw[JV,i2 x (by omega)];dsimp only;rw[decide_eq_false (by omega)];rfl
theorem JoJ(ps:List Pr)(sp:List Int):∃s0,(∀p∈ps,s0<p.1)/\∀s∈sp,s0<s:=by
 have h1:∃a,∀p∈ps,a<p.1:=by
  induction ps with
  | nil=>exact⟨0,fun p hp=>by cases hp⟩
  | cons p r ih =>
   obtain⟨a,ha⟩:=ih;refine⟨min a (p.1-1),fun q hq=>?_⟩;rcases Qh.mp hq with z|z
   ·subst z;omega (config:={})
   ·have:=ha q z;omega (config:={})
 have h2:∃a,∀s∈sp,a<s:=by
  induction sp with
  | nil=>exact⟨0,fun p hp=>by cases hp⟩
  | cons p r ih =>
   obtain⟨a,ha⟩:=ih;refine⟨min a (p-1),fun q hq=>?_⟩;rcases Qh.mp hq with z|z
   ·subst z;omega (config:={})
   ·have:=ha q z;omega (config:={})
 obtain⟨a,ha⟩:=h1;obtain⟨b,hb⟩:=h2;exact⟨min a b,fun p hp=>by have:=ha p hp;omega (config:={}),fun s hs=>by have:=hb s hs;omega (config:={})⟩
theorem W3(x:Int):∀(r:List Pr) (cur:Pr),(∀p∈r,0<=p.2)->0<=cur.2->JN (clF cur r) x=JN (cur::r) x
 | [],cur,_,_=>rfl
 | p::r,cur,h,hc=>by
  have h0:=h p Qd
  have hr:=fun q hq=>h q (Qc p hq)
  rw[clF];split
  ·next e=>rw[W3 x r _ hr (by dsimp only;omega),JV,JV,JV,<- Mh];congr 1;rw[KB];simp only[LS,QU,decide_eq_true_eq];constructor <;> intro z <;> omega
  ·split
   ·rw[JV,W3 x r p hr h0,<- JV]
   ·rw[W3 x r cur hr hc,JV,JV cur,JV p];rw[show(decide (p.1<=x) && decide (x<p.1+p.2))=false by
     rw[RF];rcases Jhs x p.1 with z|z
     ·exact .inl (decide_eq_false (by omega))
     ·exact .inr (decide_eq_false (by omega)),Ks]
theorem Jbm(x:Int):∀(ps:List Pr),(∀p∈ps,0<=p.2)->JN (clN ps) x=JN ps x
 | [],_=>rfl
 | p::r,h=>by
  have h0:=h p Qd
  have hr:=fun q hq=>h q (Qc p hq)
  rw[clN];split
  ·exact W3 x r p hr h0
  ·rw[Jbm x r hr,JV p];rw[show(decide (p.1<=x) && decide (x<p.1+p.2))=false by
    rw[RF];rcases Jhs x p.1 with z|z
    ·exact .inl (decide_eq_false (by omega))
    ·exact .inr (decide_eq_false (by omega)),Ks]
theorem JkD(g:Good ps)(hs:sp.Pairwise (·<=·))(he:∀p∈ps,p.1+p.2∈sp):Good (edF ps 0 0 sp)/\thF (edF ps 0 0 sp)=ps:=by
 obtain⟨s0,l1,l2⟩:=JoJ ps sp;have hb:below ps s0=0:=Zo fun p hp=>by have:=l1 p hp;omega
 have hs':(s0::sp).Pairwise (·<=·):=Qv.mpr ⟨fun s h=>by have:=l2 s h;omega,hs⟩
 have ge:=JfK g sp 0 s0 hs'
 have wd:=JfT g sp s0 hs';obtain⟨f1,f2⟩:=JiL g sp s0 hs' fun p hp _=>he p hp
 rw[hb] at ge wd f1 f2;refine⟨ge,?_⟩
 have e:thF (edF ps 0 0 sp)=clN (flF ps 0 sp):=by unfold thF;rw[<- Vf,<- Jnh ps sp 0 0];rfl
 refine JbC (J0 ge) g fun x=>?_
 rw[e,Jbm x _ fun p hp=>by obtain⟨i,hi,rfl⟩:=Gs.mp hp;exact wd.one i _ (by simp)]
 rcases Jhs x s0 with z|z
 ·rw[f2 x z,UQ fun p hp=>by have:=l1 p hp;omega]
 ·exact f1 x z
theorem JfL(ps:List Pr):∀(sp:List Int) (i:Nat) (c:Int) (j:Nat) (q:Pr),(edF ps i c sp)[j]?=some q->∃s,sp[j]?=some s/\q.1+q.2-1-2*((i+j:Nat):Int)=s
 | [],_,_,j,q,e=>by simp[edF] at e
 | s::r,i,c,0,q,e=>by simp[edF] at e;subst e;exact⟨s,rfl,by dsimp only;omega⟩
 | s::r,i,c,j+1,q,e=>by obtain⟨s',h1,h2⟩:=JfL ps r (i+1) (below ps s) j q (by simpa [edF] using e);exact⟨s',by simpa using h1,by rw[<- h2];congr 1;omega⟩
noncomputable def Ya:List Pr->Int->List Pr
 | [],s=>[(s,1)]
 | p::r,s=>if p.1=s then(p.1,p.2+1)::r else p::Ya r s
theorem UC(s:Int):∀a:List Pr,(Ya a s).map (·.1)=Jy (a.map (·.1)) s
 | []=>rfl
 | p::r=>by
  have ih:=UC s r;unfold Jy Vy at ih ⊢;rw[Ya,Qg,Kb]
  by_cases h:p.1=s
  ·rw[if_pos h,decide_eq_true h,Xb,if_pos rfl];rfl
  ·rw[if_neg h,decide_eq_false h,Ks,Qg,ih];split <;> rfl
theorem JdH:∀(ks:List Int) (vs:List Int) (s v:Int),s∉ks->setK ks vs s v=vs
 | [],_,_,_,_=>rfl
 | _::_,[],_,_,_=>rfl
 | k::ks,x::vs,s,v,h=>by rw[setK,if_neg fun e=>h (by rw[e];exact Qd),JdH ks vs s v fun m=>h (Qc _ m)]
theorem hasK_mem:Vy ks s=true↔s∈ks:=by
 unfold Vy;rw[Kp];constructor
 ·rintro⟨k,hk,e⟩;rw[decide_eq_true_eq] at e;subst e;exact hk
 ·intro h;exact⟨s,h,decide_eq_true rfl⟩
theorem JaX(s:Int):∀a:List Pr,(a.map (·.1)).Nodup->(Ya a s).map (·.2)=putDs (a.map (·.1)) (a.map (·.2)) s ((look (a.map (·.1)) (a.map (·.2)) s).getD 0+1)
 | [],_=>rfl
 | p::r,hn=>by
  rw[Qg,QW] at hn;have ih:=JaX s r hn.2;rw[Ya,Qg,Qg]
  by_cases h:p.1=s
  ·rw[if_pos h];unfold putDs;rw[if_pos (hasK_mem.mpr (by rw[h];exact Qd)),look,if_pos h,setK,if_pos h,JdH _ _ _ _ (by rw[<- h];exact hn.1)];rfl
  ·rw[if_neg h,Qg,ih,look,if_neg h];unfold putDs
   have e:Vy (p.1::r.map (·.1)) s=Vy (r.map (·.1)) s:=by unfold Vy;rw[Kb,decide_eq_false h,Ks]
   rw[e];split
   ·rw[setK,if_neg h]
   ·rfl
theorem WV(s:Int)(h:ks.Nodup):(Jy ks s).Nodup:=by
 unfold Jy;split
 ·exact h
 ·next c =>
  rw[Lz];refine⟨h,by simp,fun a ha b hb=>?_⟩;have:b=s:=by simpa using hb
  subst this;intro e;subst e;exact c (hasK_mem.mpr ha)
noncomputable def lk(k:Int):List Pr->Int
 | []=>0
 | p::r=>if p.1=k then p.2 else lk k r
theorem Jf4(k s:Int):∀a:List Pr,lk k (Ya a s)=lk k a+(if s=k then 1 else 0)
 | []=>by simp[Ya,lk]
 | p::r=>by
  rw[Ya]
  by_cases h:p.1=s
  ·rw[if_pos h,lk,lk];dsimp only
   by_cases c:p.1=k
   ·rw[if_pos c,if_pos c,if_pos (by omega)]
   ·rw[if_neg c,if_neg c,if_neg (by omega),Ma]
  ·rw[if_neg h,lk,lk,Jf4 k s r]
   by_cases c:p.1=k
   ·rw[if_pos c,if_pos c,if_neg (by omega),Ma]
   ·rw[if_neg c,if_neg c]
theorem JeL(hn:(a.map (·.1)).Nodup)(hp:p∈a):lk p.1 a=p.2:=by
 induction a with
 | nil=>cases hp
 | cons q r ih =>
  rw[Qg,QW] at hn;rw[lk];rcases Qh.mp hp with z|z
  ·subst z;rw[if_pos rfl]
  ·rw[if_neg fun e=>hn.1 (by rw[e];exact QC.mpr ⟨p,z,rfl⟩)];exact ih hn.2 z
noncomputable def Y6(L:List Int):List Pr:=L.foldl Ya []
theorem JfB:∀(L:List Int) (a:List Pr),(a.map (·.1)).Nodup->((L.foldl Ya a).map (·.1)).Nodup/\(∀k,lk k (L.foldl Ya a)=lk k a+(L.count k:Int))/\∀k,k∈(L.foldl Ya a).map (·.1)↔k∈a.map (·.1)\/k∈L
 | [],a,h=>⟨h,fun k=>by simp,fun k=>by simp⟩
 | s::L,a,h=>by
  have hk:=UC s a
  have hn:((Ya a s).map (·.1)).Nodup:=by rw[hk];exact WV s h
  obtain⟨i1,i2,i3⟩:=JfB L (Ya a s) hn;refine⟨i1,fun k=>?_,fun k=>?_⟩
  ·rw[QS,i2 k,Jf4,Gw]
   by_cases c:s=k
   ·rw[if_pos c,if_pos (by simpa using c)];omega
   ·rw[if_neg c,if_neg (by simpa using c)];omega
  ·rw[QS,i3 k,hk];unfold Jy;split
   ·next c =>
    have c':=hasK_mem.mp c;constructor
    ·rintro(z|z)
     ·exact .inl z
     ·exact .inr (Qc _ z)
    ·rintro(z|z)
     ·exact .inl z
     ·rcases Qh.mp z with w|w
      ·subst w;exact .inl c'
      ·exact .inr w
   ·rw[Gd,QJ,Qh,or_assoc]
theorem Jiq(L:List Int):((Y6 L).map (·.1)).Nodup/\(∀p∈Y6 L,p.2=(L.count p.1:Int)/\p.1∈L)/\∀k∈L,(k,(L.count k:Int))∈Y6 L:=by
 obtain⟨i1,i2,i3⟩:=JfB L [] (by simp)
 have v:∀p∈Y6 L,p.2=(L.count p.1:Int):=fun p hp=>by rw[<- JeL i1 hp];have:=i2 p.1;rw[show lk p.1 []=0 from rfl,L5] at this;exact this
 refine⟨i1,fun p hp=>⟨v p hp,?_⟩,fun k hk=>?_⟩
 ·have:=(i3 p.1).mp (QC.mpr ⟨p,hp,rfl⟩)
  simpa using this
 ·obtain⟨p,hp,e⟩:=QC.mp ((i3 k).mpr (.inr hk));subst e;rw[<- v p hp];exact hp
theorem JfC:∀(L:List Int) (a:List Pr),(a.map (·.1)++L).Nodup->L.foldl Ya a=a++L.map fun s=>(s,1)
 | [],a,_=>by simp
 | s::L,a,h=>by
  have e:Ya a s=a++[(s,1)]:=by
   have hs:s∉a.map (·.1):=fun m=>by have:=(Lz.mp h).2.2 s m s Qd;exact this rfl
   clear h
   induction a with
   | nil=>rfl
   | cons p r ih=>rw[Ya,if_neg fun z=>hs (by rw[<- z];exact Qd),ih fun m=>hs (Qc _ m)];rfl
  rw[QS,e,JfC L (a++[(s,1)]) (by simpa using h)];simp
theorem Jc7(ps:List Pr)(x:Int)(h:ps.length<=1000):YM [.sh (.row (ps.map prE)),.sh (.int x)]=some (.sh (.bl (JN ps x))):=by
 unfold YM;walk_at "ev";rw[JL (g:=fun p=>D.bl (decide (p.1<=x) && decide (x<p.1+p.2)))]
 ·walk_at "ev";rw[Jlh (ns:=ps.map fun p=>decide (p.1<=x) && decide (x<p.1+p.2)) (by simp[Sl.q])];walk_at "ev";unfold JN;rw[List.any_map];rfl
 ·intro p hp;simp only[prE];walk_at "ev"
  by_cases c:p.1<=x
  ·simp only[c];walk_at "ev"
  ·simp only[c];walk_at "ev";rfl
theorem JlM(ps:List Pr)(x:Int)(h:ps.length<=1000):Yg [.sh (.row (ps.map prE)),.sh (.int x)]=some (.sh (.int (below ps x))):=by
 unfold Yg;walk_at "ev";rw[JL (g:=fun p=>D.int (max 0 (min p.2 (x-p.1))))]
 ·walk_at "ev";rw[Vh (ns:=ps.map fun p=>max 0 (min p.2 (x-p.1))) (by simp[Sl.q])];walk_at "ev";rfl
 ·intro p hp;simp only[prE];walk_at "ev"
theorem W8{α β:Type}(f:Nat->α->β)(xs:List α):xs.mapIdx f=xs.zipIdx.map fun x=>f x.2 x.1:=by
 refine Gm fun i=>?_
 rw[QH,Qp,KS,Kh];simp;rfl
theorem JqP(ps:List Pr)(k:Int)(h:ps.length<=1000):JZ [.sh (.row (ps.map prE)),.sh (.int k)]=some (.own ((byF k ps).map prE)):=by
 unfold JZ;walk_at "ev";rw[Zv,W8,JL (g:=fun x:Pr×Nat=>prE (x.1.1+2*k*(x.2:Int),x.1.2+k))]
 ·rw[if_pos (by rw[Qk,List.length_zipIdx];omega (config:={}))];walk_at "ev";rw[show ps.zipIdx.map (fun x=>prE (x.1.1+2*k*(x.2:Int),x.1.2+k))=(byF k ps).map prE by unfold byF;rw[W8,Qt];rfl]
 ·intro x hx
  have hx2:x.2<ps.length:=by have:=List.snd_lt_of_mem_zipIdx hx;omega (config:={})
  walk_at "ev";rw[Zx,Wp];walk_at "ev";rfl
theorem Jn2(g:Good ps)(hne:ps≠[]):∃c,(ps.map (·.2)++Uo ps).min?=some c/\1<=c/\Wide c ps/\Jh3 c ps:=by
 cases hm:(ps.map (·.2)++Uo ps).min? with
 | none =>
  rw[List.min?_eq_none_iff] at hm
  cases ps with
  | nil=>exact absurd rfl hne
  | cons p r=>simp at hm
 | some c =>
  obtain⟨h1,h2⟩:=RC.mp hm
  have gg:∀(ps:List Pr) (x:Int),x∈Uo ps->∃(i:Nat) (p q:Pr),ps[i]?=some p/\ps[i+1]?=some q/\q.1-(p.1+p.2)=x:=by
   intro ps
   induction ps with
   | nil=>intro x hx;cases hx
   | cons p r ih =>
    intro x hx
    cases r with
    | nil=>cases hx
    | cons q r =>
     rcases Qh.mp hx with z|z
     ·exact⟨0,p,q,rfl,rfl,z.symm⟩
     ·obtain⟨i,a,b,e1,e2,e3⟩:=ih x z;exact⟨i+1,a,b,by simpa using e1,by simpa using e2,e3⟩
  have gm:∀(ps:List Pr) (i:Nat) (p q:Pr),ps[i]?=some p->ps[i+1]?=some q->q.1-(p.1+p.2)∈Uo ps:=by
   intro ps
   induction ps with
   | nil=>intro i p q e;simp at e
   | cons a r ih =>
    intro i p q e1 e2
    cases r with
    | nil=>simp at e2
    | cons b r =>
     cases i with
     | zero=>simp at e1 e2;subst e1 e2;exact Qd
     | succ i=>exact Qc _ (ih i p q (by simpa using e1) (by simpa using e2))
  have w:Wide c ps:=⟨fun i p e=>h2 _ (LA _ (QC.mpr ⟨p,QG e,rfl⟩)),fun i p q e1 e2=>h2 _ (GI _ (gm ps i p q e1 e2))⟩
  have t:Jh3 c ps:=by
   rcases Gd.mp h1 with z|z
   ·obtain⟨p,hp,e⟩:=QC.mp z;exact .inl ⟨p,hp,e⟩
   ·exact .inr (gg ps c z)
  refine⟨c,rfl,?_,w,t⟩;rcases t with ⟨p,hp,e⟩|⟨i,p,q,e1,e2,e⟩
  ·have:=Good.all g p hp;omega
  ·have:=g.gap i p q e1 e2;omega
theorem Jc8(ps:List Pr)(h:ps.length<=1000):JR [.sh (.row (ps.map prE))]=some (match (ps.map (·.2)++Uo ps).min? with|some c=>.sh (.int c)|none=>.sh .non):=by
 have hgl:=JaV ps;unfold JR;walk_at "ev";rw[JL (g:=fun p=>D.int p.2)]
 ·walk_at "ev";rw[JoM _ h];walk_at "ev";rw[show ps.map (fun p=>D.int p.2)++(Uo ps).map .int=(ps.map (·.2)++Uo ps).map D.int by rw[QL,Qt];rfl];walk_at "ev";cases (ps.map (·.2)++Uo ps).min? <;> rfl
 ·intro p hp;simp only[prE];walk_at "ev"
noncomputable def UN(acc:List Pr)(p:Pr):List Pr:=match acc[acc.length-1]? with
 | some q=>if q.1+q.2=p.1 then acc.dropLast++[(q.1,q.2+p.2)] else if 0<p.2 then acc++[p] else acc
 | none=>if 0<p.2 then acc++[p] else acc
theorem VX:∀(r acc:List Pr) (cur:Pr),r.foldl UN (acc++[cur])=acc++clF cur r
 | [],acc,cur=>rfl
 | p::r,acc,cur=>by
  have e:(acc++[cur])[(acc++[cur]).length-1]?=some cur:=by simp
  have es:UN (acc++[cur]) p=if cur.1+cur.2=p.1 then acc++[(cur.1,cur.2+p.2)] else if 0<p.2 then acc++[cur]++[p] else acc++[cur]:=by unfold UN;rw[e];dsimp only;rw[List.dropLast_concat]
  rw[QS,clF,es];split
  ·exact VX r acc _
  ·split
   ·rw[VX r (acc++[cur]) p,GF];rfl
   ·exact VX r acc cur
theorem JaN:∀ps:List Pr,ps.foldl UN []=clN ps
 | []=>rfl
 | p::r=>by
  rw[QS,clN];show r.foldl UN (if 0<p.2 then []++[p] else [])=_;split
  ·exact VX r [] p
  ·exact JaN r
theorem Jjh(ps:List Pr)(h:ps.length<=1000):Yl [.sh (.lst (ps.map prE))]=some (.own ((clN ps).map prE)):=by
 unfold Yl;walk_at "ev";rw[GM];refine Yk (fun(rest:List Pr) (acc:List Pr) E=>∃j2 j3 j4,E=[.sh (.lst (ps.map prE)),.own (acc.map prE),j2,j3,j4]/\acc.length+rest.length<=1000) UN [] ⟨.no,.no,.no,rfl,by simpa using h⟩ ?_ ?_
 ·rintro p rest acc E ⟨j2,j3,j4,rfl,hz⟩;rw[Qq] at hz;simp only[prE];walk_at "ev"
  cases he:acc[acc.length-1]? with
  | none =>
   have hn:acc=[]:=by
    cases acc with
    | nil=>rfl
    | cons a acc=>simp at he
   subst hn;rw[show(!(([]:List Pr).map prE).isEmpty)=false from rfl];walk_at "ev";have es:UN [] p=if 0<p.2 then [p] else []:=rfl
   rw[es]
   by_cases c:0<p.2
   ·rw[decide_eq_true c,if_pos c];walk_at "ev";exact⟨.sh (.int p.1),.sh (.int p.2),j4,rfl,by simp at hz ⊢;omega⟩
   ·rw[decide_eq_false c,if_neg c];walk_at "ev";exact⟨.sh (.int p.1),.sh (.int p.2),j4,rfl,by simp at hz ⊢;omega⟩
  | some q =>
   have hl0:acc.length-1<acc.length:=(Qn.mp he).1
   have hne:(!(acc.map prE).isEmpty)=true:=by cases acc with|nil=>simp at he|cons _ _=>rfl
   have hgq:(acc.map prE)[acc.length-1]?=some (prE q):=by rw[Qp,he];rfl
   have es:UN acc p=if q.1+q.2=p.1 then acc.dropLast++[(q.1,q.2+p.2)] else if 0<p.2 then acc++[p] else acc:=by unfold UN;rw[he]
   have hdl:acc.dropLast.length=acc.length-1:=RL;rw[hne,W2,Jic he,es];walk_at "ev";rw[Vh (s:=.sh (prE q)) (ns:=[q.1,q.2]) rfl];walk_at "ev";rw[show([q.1,q.2]:List Int).sum=q.1+q.2 by simp]
   by_cases c:q.1+q.2=p.1
   ·rw[decide_eq_true c,if_pos c,hgq];walk_at "ev";rw[<- List.map_dropLast];walk_at "ev";rw[Zx,Wp];walk_at "ev";refine⟨.sh (.int p.1),.sh (.int p.2),.sh (prE q),?_,by rw[Qx,GA];omega⟩;rw[QL];rfl
   ·rw[decide_eq_false c,if_neg c];walk_at "ev"
    by_cases c2:0<p.2
    ·rw[decide_eq_true c2,if_pos c2];walk_at "ev";refine⟨.sh (.int p.1),.sh (.int p.2),j4,?_,by rw[Qx,GA];omega⟩;rw[QL];rfl
    ·rw[decide_eq_false c2,if_neg c2];walk_at "ev";exact⟨.sh (.int p.1),.sh (.int p.2),j4,rfl,by omega⟩
 ·rintro E' ⟨j2,j3,j4,rfl,_⟩;rw[JaN];walk_at "ev"
noncomputable abbrev wC:En->Option Bool:=(tAnd? (tB? (e2 fGt (Jb 3) (eC (.int 0)))) (tTru? (e1 Y1 (Jb 2))))
noncomputable abbrev wB:Es:=(Jn (Jp 4 (eF Jev (aC (Jb 3) (aC (eU 1 JR (aC (Jb 2) a0)) a0)))) (Jn (Jp 2 (eF Jaw (aC (eU 1 Yl (aC (eU 2 JZ (aC (Jb 2) (aC (e1 JcO (Jb 4)) a0))) a0)) a0))) (Jfo (fun i j=>i-j) 3 (Jb 4))))
theorem VR(x y:Sl)(left:List Pr)(n:Nat)(j4:Sl)(fuel:Nat)(h:n=0\/left=[]) :
 ((Yw wC wB (fuel+1) [x,y,.sh (.row (left.map prE)),.sh (.int (n:Int)),j4]).bind (Je9 (Uk 2))).bind Jer=some (.sh (.row ((thN n left).map prE))):=by
 have e:thN n left=left:=by
  rcases h with rfl|rfl
  ·rfl
  ·exact JgK n
 rw[e,Yw]
 have hc:wC [x,y,.sh (.row (left.map prE)),.sh (.int (n:Int)),j4]=some false:=by
  show tAnd? _ _ _=_;walk_at "ev";rcases h with rfl | rfl
  ·rw[show decide ((0:Int)<((0:Nat):Int))=false from rfl];walk_at "ev"
  ·by_cases c:(0:Int)<(n:Int)
   ·rw[decide_eq_true c];walk_at "ev";rfl
   ·rw[decide_eq_false c];walk_at "ev"
 rw[hc];walk_at "ev"
theorem JkJ(x y:Sl):∀(m fuel:Nat) (left:List Pr) (n:Nat) (j4:Sl),Good left->left.length<=m->left.length<=30->m<fuel ->
 ((Yw wC wB fuel [x,y,.sh (.row (left.map prE)),.sh (.int (n:Int)),j4]).bind (Je9 (Uk 2))).bind Jer=some (.sh (.row ((thN n left).map prE))):=by
 intro m
 induction m with
 | zero =>
  intro fuel left n j4 g hm _ hf;obtain⟨f,rfl⟩:∃f,fuel=f+1:=⟨fuel-1,by omega⟩
  exact VR x y left n j4 f (.inr (Qy (by omega)))
 | succ m ih =>
  intro fuel left n j4 g hm h30 hf;obtain⟨f,rfl⟩:∃f,fuel=f+1:=⟨fuel-1,by omega⟩
  by_cases h0:n=0\/left=[]
  ·exact VR x y left n j4 f h0
  ·have hn:n≠0:=fun z=>h0 (.inl z)
   have hl:left≠[]:=fun z=>h0 (.inr z)
   obtain⟨c,hc,c1,w,t⟩:=Jn2 g hl;obtain⟨a,ha⟩:∃a:Nat,(a:Int)=min (n:Int) c:=⟨(min (n:Int) c).toNat,by omega⟩
   have hcl:=Jc8 left (by omega);rw[hc] at hcl
   have et:thN a left=clN (byF (-(a:Int)) left):=Jam a w c1 (by omega)
   have gt:Good (thN a left):=Ui a g
   have lt:=(VW (byF (-(a:Int)) left)).1;rw[Us,<- et] at lt
   have hcond:wC [x,y,.sh (.row (left.map prE)),.sh (.int (n:Int)),j4]=some true:=by
    show tAnd? _ _ _=_;walk_at "ev";rw[decide_eq_true (show(0:Int)<(n:Int) by omega)];walk_at "ev"
    cases left with
    | nil=>exact absurd rfl hl
    | cons _ _=>rfl
   have hbody:wB [x,y,.sh (.row (left.map prE)),.sh (.int (n:Int)),j4]=some (.nx [x,y,.sh (.row ((thN a left).map prE)),.sh (.int ((n-a:Nat):Int)),.sh (.int (a:Int))]):=by show Jn _ _ _=_;walk_at "ev";rw[hcl];walk_at "ev";rw[<- ha,JqP _ _ (by omega)];walk_at "ev";rw[Jjh _ (by rw[Us];omega),<- et];walk_at "ev";rw[VZ rfl gt (by omega)];walk_at "ev";rw[show(n:Int)-(a:Int)=((n-a:Nat):Int) by omega]
   have fin:thN n left=thN (n-a) (thN a left):=by rw[<- Zi];congr 1;omega
   rw[Yw,hcond,QV,if_pos rfl,hbody,QV,fin];dsimp only
   by_cases hac:(a:Int)=c
   ·have fw:=Jan t;rw[<- hac,<- et] at fw;exact ih f _ _ _ gt (by omega) (by omega) (by omega)
   ·obtain⟨f',rfl⟩:∃f',f=f'+1:=⟨f-1,by omega⟩
    exact VR x y _ _ _ f' (.inl (by omega))
theorem Wx(ps:List Pr)(n:Nat)(g:Good ps)(h30:ps.length<=30):J1 [.sh (.row (ps.map prE)),.sh (.int (n:Int))]=some (.sh (.row ((thN n ps).map prE))):=by unfold J1;rw[show ∀(k:Nat) (s:Es) (ss:List Sl),Yo k s ss=Yo k s ss from fun _ _ _=>rfl];have hw:=JkJ (.sh (.row (ps.map prE))) (.sh (.int (n:Int))) 30 1000000 ps n .no g h30 h30 (by decide);walk_at "ev";rw[VZ rfl g h30];walk_at "ev";exact hw
noncomputable abbrev Tr:=Int×Int×Int
noncomputable def trE(t:Tr):D:=.tup [.int t.1,.int t.2.1,.int t.2.2]
noncomputable def owF(left:List Pr)(s:Int):Int:=if JN left (s-1)=true/\JN left s=false then 1 else 0
theorem JoN(ps:List Pr)(s:Int)(h:ps.length<=1000):Ud [.sh (.row (ps.map prE)),.sh (.int s)]=some (.sh (.int (owF ps s))):=by
 unfold Ud owF;walk_at "ev";rw[Jc7 _ _ h];walk_at "ev"
 cases h1:JN ps (s-1) with
 | false=>walk_at "ev";rw[if_neg (by simp)]
 | true =>
  walk_at "ev";rw[Jc7 _ _ h];walk_at "ev"
  cases h2:JN ps s with
  | false=>walk_at "ev";rw[if_pos (by simp)]
  | true=>walk_at "ev";rw[if_neg (by simp)]
theorem Jc4{α β:Type}(f:α->β):∀(ks:List Int) (vs:List α) (n:Int),look ks (vs.map f) n=(look ks vs n).map f
 | [],_,_=>rfl
 | _::_,[],_=>rfl
 | k::ks,v::vs,n=>by
  rw[Qg];simp only[look];split
  ·rfl
  ·exact Jc4 f ks vs n
theorem JdG{α β:Type}(f:α->β):∀(ks:List Int) (vs:List α) (n:Int) (v:α),setK ks (vs.map f) n (f v)=(setK ks vs n v).map f
 | [],_,_,_=>rfl
 | _::_,[],_,_=>rfl
 | k::ks,x::vs,n,v=>by rw[Qg];simp only[setK,Qg];rw[JdG f ks vs n v];split <;> rfl
theorem JhI{α β:Type}(f:α->β)(ks:List Int)(vs:List α)(n:Int)(v:α):putDs ks (vs.map f) n (f v)=(putDs ks vs n v).map f:=by
 unfold putDs;split
 ·exact JdG f ks vs n v
 ·rw[QL];rfl
theorem Jjf(ks:List Int)(vs:List Int)(n z:Int):(look ks (vs.map D.int) n).getD (.int z)=.int ((look ks vs n).getD z):=by rw[Jc4];cases look ks vs n <;> rfl
theorem JcU(a:List Pr)(s:Int):(Ya a s).length<=a.length+1:=by
 induction a with
 | nil=>simp[Ya]
 | cons p r ih =>
  rw[Ya];split
  ·simp
  ·simp only[Qq];omega
theorem Jot(a:List Pr):JbI (a.map (·.1)) ((a.map (·.2)).map D.int)=a.map prE:=by
 unfold JbI
 induction a with
 | nil=>rfl
 | cons p r ih=>simp only[Qg,List.zipWith_cons_cons,ih];rfl
noncomputable def spF(qs:List Pr):List Int:=qs.zipIdx.map fun x=>x.1.1+x.1.2-1-2*(x.2:Int)
noncomputable def JF(qs:List Pr):List Tr:=(Y6 (spF qs)).map fun p=>(p.1,p.2,owF (thF qs) p.1)
theorem Jbo(L:List Int):∀a:List Pr,(L.foldl Ya a).length<=a.length+L.length:=by
 induction L with
 | nil=>intro a;simp
 | cons s L ih=>intro a;have h1:=ih (Ya a s);have h2:=JcU a s;rw[QS,Qq];omega
theorem Jjk(qs:List Pr)(g:Good qs)(h30:qs.length<=30):Ua [.sh (.row (qs.map prE))]=some (.own ((JF qs).map trE)):=by
 have h1:=Wx qs 1 g h30;rw[show((1:Nat):Int)=1 from rfl,show thN 1 qs=thF qs from rfl] at h1
 have hl:=(VW (byF (-1) qs)).1;rw[Us,show clN (byF (-1) qs)=thF qs from rfl] at hl;unfold Ua;walk_at "ev";rw[h1];walk_at "ev";rw[Zv,W8,GM];refine Yk (f:=fun x:Pr×Nat=>D.tup [.int (x.2:Int),prE x.1]) (fun(rest:List (Pr×Nat)) (a:List Pr) E=>∃j3 j4 j5,E=[.sh (.row (qs.map prE)),.sh (.row ((thF qs).map prE)),.od (a.map (·.1)) ((a.map (·.2)).map .int),j3,j4,j5]/\(a.map (·.1)).Nodup/\a.length+rest.length<=30)
  (fun a x=>Ya a (x.1.1+x.1.2-1-2*(x.2:Int))) [] ⟨.no,.no,.no,rfl,by simp,by simpa using h30⟩ ?_ ?_
 ·rintro x rest a E ⟨j3,j4,j5,rfl,hn,hz⟩;rw[Qq] at hz;have hil:=JcU a (x.1.1+x.1.2-1-2*(x.2:Int));walk_at "ev";rw[Vh (s:=.sh (prE x.1)) (ns:=[x.1.1,x.1.2]) rfl];walk_at "ev";rw[show([x.1.1,x.1.2]:List Int).sum=x.1.1+x.1.2 by simp];rw[Jjf];walk_at "ev";rw[JhI,<- UC,<- JaX _ _ hn];refine⟨.sh (.int (x.2:Int)),.sh (prE x.1),_,rfl,?_,by omega⟩;rw[UC];exact WV _ hn
 ·rintro E' ⟨j3,j4,j5,rfl,hn,_⟩
  have ef:qs.zipIdx.foldl (fun a x=>Ya a (x.1.1+x.1.2-1-2*(x.2:Int))) []=Y6 (spF qs):=by unfold Y6 spF;rw[List.foldl_map]
  have hcl:=Jbo (spF qs) []
  have hsl:(spF qs).length=qs.length:=by unfold spF;simp
  rw[ef];walk_at "ev";rw[Jot,JL (g:=fun p=>trE (p.1,p.2,owF (thF qs) p.1))]
  ·rw[if_pos (by rw[Qk];show(Y6 (spF qs)).length<=_;unfold Y6;simp at hcl;omega)];walk_at "ev";unfold JF;rw[Qt];rfl
  ·intro p hp;simp only[prE];walk_at "ev";rw[JoN _ _ (by omega)];walk_at "ev";rfl
theorem JlN(ps:List Pr)(sp:List Int)(hp:ps.length<=1000)(hs:sp.length<=1000):YV [.sh (.row (ps.map prE)),.sh (.lst (sp.map .int))]=some (.own ((edF ps 0 0 sp).map prE)):=by
 unfold YV;walk_at "ev";rw[Zv,W8,GM];refine Yk (f:=fun x:Int×Nat=>D.tup [.int (x.2:Int),.int x.1]) (fun(rest:List (Int×Nat)) (s:List Pr×Int) E=>∃j4 j5 j6 j7,E=[.sh (.row (ps.map prE)),.sh (.lst (sp.map .int)),.own (s.1.map prE),.sh (.int s.2),j4,j5,j6,j7]/\s.1.length+rest.length<=1000)
  (fun s x=>(s.1++[(x.1+2*(x.2:Int)-(below ps x.1-s.2),below ps x.1-s.2+1)],below ps x.1)) ([],0) ⟨.no,.no,.no,.no,rfl,by simpa using hs⟩ ?_ ?_
 ·rintro x rest ⟨acc,c⟩ E ⟨j4,j5,j6,j7,rfl,hz⟩;rw[Qq] at hz;dsimp only at hz ⊢;walk_at "ev";rw[JlM _ _ hp];walk_at "ev";refine⟨.sh (.int (x.2:Int)),.sh (.int x.1),.sh (.int (below ps x.1)),.sh (.int (below ps x.1-c)),?_,by rw[Qx,GA];omega (config:={})⟩;rw[QL];rfl
 ·rintro E' ⟨j4,j5,j6,j7,rfl,_⟩
  have ef:∀(sp:List Int) (i:Nat) (acc:List Pr) (c:Int),((sp.zipIdx i).foldl (fun(s:List Pr×Int) x=>(s.1++[(x.1+2*(x.2:Int)-(below ps x.1-s.2),below ps x.1-s.2+1)],below ps x.1)) (acc,c)).1=acc++edF ps i c sp:=by
   intro sp
   induction sp with
   | nil=>intro i acc c;simp[edF]
   | cons s r ih=>intro i acc c;rw[K4,QS,ih,edF,GF];rfl
  rw[ef,Kj];walk_at "ev"
theorem JlP(ps:List Pr)(n:Nat)(g:Good ps)(h:ps.length<=30):Yn [.sh (.row (ps.map prE)),.sh (.int (n:Int))]=some (.sh (.row ((byF (n:Int) ps).map prE))):=by unfold Yn;walk_at "ev";rw[JqP _ _ (by omega)];walk_at "ev";rw[VZ rfl (((JT g).bys (k:=(n:Int))).good (by omega)) (by rw[Us];exact h)];walk_at "ev"
noncomputable def Jm(ps:List Pr):List Int:=ps.map fun p=>p.1+p.2
noncomputable def Yc(prs:List Pr):List Int:=prs.flatMap fun p=>QN p.2.toNat p.1
theorem JqT(ps prs:List Pr)(g:Good ps)(hn:∀p∈prs,0<=p.2)(h:(ps.length:Int)+(prs.map (·.2)).sum<=30)(hp:ps.length<=30)(hq:prs.length<=30) :
 Y9 [.sh (.row (ps.map prE)),.sh (.lst (prs.map prE))]=some (.sh (.row ((edF ps 0 0 (Yd (Jm ps++Yc prs))).map prE))):=by
 have ml:∀(prs:List Pr),(∀p∈prs,0<=p.2)->((Yc prs).length:Int)=(prs.map (·.2)).sum:=by
  intro prs
  induction prs with
  | nil=>intro _;rfl
  | cons p r ih =>
   intro hn;have h1:=ih fun q hq=>hn q (Qc _ hq)
   have h2:=hn p Qd;unfold Yc at *;rw[Gi,Qx,GW,Qg,Qz];omega
 have hml:=ml prs hn
 have hsl:(Yd (Jm ps++Yc prs)).length=ps.length+(Yc prs).length:=by rw[(JH _).length_eq,Qx];unfold Jm;rw[Qk]
 have ge:=(JkD g (UK (Jm ps++Yc prs)) fun p hp=>(JH _).mem_iff.mpr (LA _ (QC.mpr ⟨p,hp,rfl⟩))).1
 have el:=Jeq ps (Yd (Jm ps++Yc prs)) 0 0;unfold Y9;walk_at "ev";rw[JL (g:=fun p=>D.int p.2)]
 ·walk_at "ev";rw[Vh (ns:=prs.map (·.2)) (by simp[Sl.q])];walk_at "ev";rw[decide_eq_false (by omega)];walk_at "ev";rw[JL (g:=fun p=>D.int (p.1+p.2))]
  ·walk_at "ev";rw[show ps.map (fun p=>D.int (p.1+p.2))=(Jm ps).map D.int by unfold Jm;rw[Qt];rfl,GM];refine Yk (fun(rest:List Pr) (L:List Int) E=>∃j3 j4,E=[.sh (.row (ps.map prE)),.sh (.lst (prs.map prE)),.own (L.map .int),j3,j4]/\(L.length:Int)+(rest.map (·.2)).sum<=30/\∀p∈rest,0<=p.2) (fun L p=>L++QN p.2.toNat p.1) (Jm ps) ⟨.no,.no,rfl,by unfold Jm;rw[Qk];exact h,hn⟩ ?_ ?_
   ·rintro p rest L E ⟨j3,j4,rfl,hz,hr⟩;have h2:=hr p Qd
    have hs:0<=(rest.map (·.2)).sum:=by
     have:=ml rest fun q hq=>hr q (Qc _ hq)
     omega
    rw[Qg,Qz] at hz;simp only[prE];walk_at "ev";rw[JcP (d:=D.int p.1) rfl (JeE ⟨by omega,by omega⟩) (by omega)];walk_at "ev";rw[GW,if_pos (by omega)];refine⟨.sh (.int p.1),.sh (.int p.2),?_,by rw[Qx,GW];omega,fun q hq=>hr q (Qc _ hq)⟩;rw[QL,MO]
   ·rintro E' ⟨j3,j4,rfl,_,_⟩
    have ef:∀(prs:List Pr) (L:List Int),prs.foldl (fun L p=>L++QN p.2.toNat p.1) L=L++Yc prs:=by
     intro prs
     induction prs with
     | nil=>intro L;simp[Yc]
     | cons p r ih=>intro L;rw[QS,ih];unfold Yc;rw[Gi,GF]
    rw[ef];have hlt:(Jm ps++Yc prs).length<64:=by rw[Qx];unfold Jm;rw[Qk];omega
    walk_at "ev";rw[JlN _ _ (by omega) (by omega)];walk_at "ev";rw[VZ rfl ge (by omega)];walk_at "ev"
  ·intro p hp;simp only[prE];walk_at "ev"
 ·intro p hp;simp only[prE];walk_at "ev"
theorem JbZ(g:Good qs)(s:Int):owF qs s=if s∈Jm qs then 1 else 0:=by
 unfold owF
 by_cases c:s∈Jm qs
 ·rw[if_pos c];obtain⟨p,hp,rfl⟩:=QC.mp c;have h1:=Good.all g p hp;rw[if_pos];refine⟨has_iff.mpr ⟨p,hp,by omega,by omega⟩,?_⟩
  cases h:JN qs (p.1+p.2) with
  | false=>rfl
  | true =>
   obtain⟨q,hq,a1,a2⟩:=has_iff.mp h;have pw:=Good.pw g;obtain⟨i,hi,rfl⟩:=Gs.mp hp;obtain⟨j,hj,rfl⟩:=Gs.mp hq;rcases Ly i j with z|z|z
   ·have:=Gq.mp pw i j hi hj z;omega
   ·subst z;omega
   ·have:=Gq.mp pw j i hj hi z;omega
 ·rw[if_neg c,if_neg];rintro⟨h1,h2⟩;obtain⟨p,hp,a1,a2⟩:=has_iff.mp h1;refine c (QC.mpr ⟨p,hp,?_⟩);rcases Jhs s (p.1+p.2) with z|z
  ·rw[has_iff.mpr ⟨p,hp,by omega,z⟩] at h2;cases h2
  ·omega
theorem Jla(g:Good ps):(Jm ps).Pairwise (·<·):=by
 unfold Jm;rw[Mb];refine(Good.pw g).imp_of_mem fun {a b} _ hb h=>?_
 have:=Good.all g b hb;omega
theorem Jbu(g:Good ps):(Jm ps).Nodup:=(Jla g).imp fun {a b} h=>by omega
theorem Jkm(k:Int)(ps:List Pr):spF (byF (k+1) ps)=Jm (byF k ps):=by
 unfold spF Jm;refine Gm fun i=>?_
 rw[Qp,Qp,KS];unfold byF;rw[QH,QH]
 cases ps[i]? with
 | none=>rfl
 | some p =>
  simp only[Lp];congr 1;have e:2*(k+1)*(i:Int)=2*k*(i:Int)+2*(i:Int):=by rw[L3,Mm];simp
  simp only[MD];rw[e];omega
theorem JrL(ps:List Pr)(sp:List Int):spF (edF ps 0 0 sp)=sp:=by
 refine Gm fun i=>?_
 unfold spF;rw[Qp,KS,Kh]
 cases h:(edF ps 0 0 sp)[i]? with
 | none=>rw[LL,Jeq] at h;rw[GC h];rfl
 | some q=>obtain⟨s,h1,h2⟩:=JfL ps sp 0 0 i q h;rw[h1];simp only[Lp,Function.comp];rw[MD] at h2;rw[MD,h2]
theorem JhS(g:Good ps)(n:Nat):JF (byF ((n:Int)+1) ps)=(byF (n:Int) ps).map fun p=>(p.1+p.2,1,1):=by
 have gw:=JT g
 have gn:Good (byF (n:Int) ps):=(gw.bys (k:=(n:Int))).good (by omega)
 have et:thF (byF ((n:Int)+1) ps)=byF (n:Int) ps:=by have:=Wl (n:=1) (gw.bys (k:=(n:Int)+1)) (by omega) (by omega);rw[show thF (byF ((n:Int)+1) ps)=thN 1 (byF ((n:Int)+1) ps) from rfl,this,Jcy];congr 1;omega
 unfold JF Y6;rw[et,Jkm,JfC (Jm (byF (n:Int) ps)) [] (by simpa using Jbu gn),Kj,Qt];unfold Jm;rw[Qt];refine QD fun p hp=>?_
 simp only[Function.comp];rw[JbZ gn,if_pos (show p.1+p.2∈Jm (byF (n:Int) ps) from QC.mpr ⟨p,hp,rfl⟩)]
theorem JaQ:∀{l:List Int} {k:Int},l.Nodup->k∈l->l.count k=1
 | [],_,_,h=>by cases h
 | a::l,k,hn,h=>by
  rw[QW] at hn;rw[Gw]
  by_cases c:a=k
  ·subst c;rw[MP.mpr hn.1];simp
  ·have hm:k∈l:=(Qh.mp h).resolve_left fun z=>c z.symm
   rw[JaQ hn.2 hm];simp[c]
theorem ZF(d:Int):∀(a:List Pr) (s:Int),Ya (a.map fun p=>(p.1-d,p.2)) (s-d)=(Ya a s).map fun p=>(p.1-d,p.2)
 | [],s=>rfl
 | p::r,s=>by
  rw[Qg,Ya,Ya];dsimp only
  by_cases h:p.1=s
  ·rw[if_pos h,if_pos (by omega)];rfl
  ·rw[if_neg h,if_neg (by omega),ZF d r s];rfl
theorem JaO(d:Int):∀(L:List Int) (a:List Pr),(L.map (·-d)).foldl Ya (a.map fun p=>(p.1-d,p.2))=(L.foldl Ya a).map fun p=>(p.1-d,p.2)
 | [],a=>rfl
 | s::L,a=>by rw[Qg,QS,QS,ZF,JaO d L]
theorem Jir:∀(L:List Int) (a:List Pr),(a.map (·.1)).Pairwise (·<·)->(∀k∈a.map (·.1),∀s∈L,k<=s)->L.Pairwise (·<=·)->((L.foldl Ya a).map (·.1)).Pairwise (·<·)
 | [],a,h,_,_=>h
 | s::L,a,h,hk,hL=>by
  obtain⟨l1,l2⟩:=Qv.mp hL;rw[QS];have e:(Ya a s).map (·.1)=Jy (a.map (·.1)) s:=UC s a;refine Jir L (Ya a s) ?_ (fun k hk' t ht=>?_) l2
  ·rw[e];unfold Jy;split
   ·exact h
   ·next c =>
    rw[Kf];refine⟨h,by simp,fun k hk' t ht=>?_⟩;have ht':t=s:=by simpa using ht
    subst ht';have h1:=hk k hk' t Qd;have h2:k≠t:=fun z=>c (hasK_mem.mpr (by rw[<- z];exact hk'))
    omega
  ·rw[e] at hk';unfold Jy at hk';split at hk'
   ·exact hk k hk' t (Qc _ ht)
   ·rcases Gd.mp hk' with z|z
    ·exact hk k z t (Qc _ ht)
    ·have z':k=s:=by simpa using z
     subst z';exact l1 t ht
theorem Jkn:∀{ps:List Pr} (i:Nat),Good ps->((ps.zipIdx i).map fun x=>x.1.1+x.1.2-1-2*(x.2:Int)).Pairwise (·<=·)
 | [],_,_=>.nil
 | [p],i,_=>by simp
 | p::q::r,i,g=>by
  have ih:=Jkn (i+1) (Good.cons' g)
  have h1:=g.gap 0 p q rfl rfl
  have h2:=g.one 1 q rfl;rw[K4,Qg];refine Qv.mpr ⟨fun t ht=>?_,ih⟩;rw[K4,Qg] at ih ht
  have hq:p.1+p.2-1-2*(i:Int)<=q.1+q.2-1-2*((i+1:Nat):Int):=by omega
  rcases Qh.mp ht with z|z
  ·subst z;exact hq
  ·have:=(Qv.mp ih).1 t z;dsimp only at this ⊢;omega
noncomputable def JW(k:Int)(qs:List Pr):List Tr:=((JF qs).filter fun t=>decide (t.2.1>t.2.2)).map fun t=>(k,t.1,t.2.1-t.2.2)
noncomputable def tbN:Nat->Int->List Pr->List Tr
 | 0,_,_=>[]
 | n+1,k,qs=>JW (k+1) qs++tbN n (k+1) (thF qs)
theorem WI:∀(n:Nat) (k:Int),tbN n k []=[]
 | 0,_=>rfl
 | n+1,k=>by rw[tbN,show thF []=[] from rfl,WI n (k+1)];rfl
theorem Jje(g:Good (byF (-1) qs))(k:Int):JW k qs=[]:=by
 have e:qs=byF (((0:Nat):Int)+1) (byF (-1) qs):=by rw[Jcy,show((0:Nat):Int)+1+-1=0 by omega,Vg]
 unfold JW;rw[e,JhS g 0,List.filter_map,Qt,Rw.mpr]
 ·rfl
 ·intro p hp;simp
theorem Jfg(qs:List Pr):(spF qs).length=qs.length:=by unfold spF;simp
theorem JlE(k:Int)(qs:List Pr):(JW k qs).length<=qs.length:=by
 unfold JW JF;rw[Qk];refine Gz (RG _ _) ?_;rw[Qk];have:=Jbo (spF qs) [];rw[Jfg] at this;unfold Y6
 simpa using this
theorem JgI(w:Wide c qs)(c1:1<=c):∀(j m:Nat) (k:Int),((j:Int)<c)->tbN (j+m) k qs=tbN m (k+(j:Int)) (thN j qs):=by
 intro j
 induction j generalizing c qs with
 | zero=>intro m k _;rw[MD];simp[thN]
 | succ j ih=>intro m k hj;have w1:Wide (c+-1) (byF (-1) qs):=w.bys;have g1:Good (byF (-1) qs):=w1.good (by omega);have e:thF qs=byF (-1) qs:=Jbn g1;rw[show j+1+m=(j+m)+1 by omega,tbN,Jje g1,Kj,e,ih w1 (by omega) m (k+1) (by omega)];show _=tbN m (k+((j+1:Nat):Int)) (thN j (thF qs));rw[e];congr 1;omega
theorem JkC(w:Wide c qs)(c1:1<=c)(hne:qs≠[])(j:Nat)(hj:(j:Int)<c):thN j qs≠[]:=by rw[Wl w c1 hj];intro z;have:=Us (-(j:Int)) qs;rw[z] at this;exact hne (Qy this.symm)
theorem JdV(w:Wide c qs)(c1:1<=c)(hne:qs≠[])(hN:thN N qs=[])(k:Int):∃C:Nat,(C:Int)=c/\C<=N/\tbN N k qs=JW (k+c) (thN (C-1) qs)++tbN (N-C) (k+c) (thN C qs)/\thN (N-C) (thN C qs)=[]:=by
 obtain⟨C,hC⟩:∃C:Nat,(C:Int)=c:=⟨c.toNat,by omega⟩
 have hCN:C<=N:=by
  rcases LF N C with z|z
  ·exact absurd hN (JkC w c1 hne N (by omega))
  ·exact z
 refine⟨C,hC,hCN,?_,by rw[<- Zi,show C+(N-C)=N by omega];exact hN⟩;have e:=JgI w c1 (C-1) (N-C+1) k (by omega);rw[show C-1+(N-C+1)=N by omega] at e;rw[e,tbN,<- WJ,show C-1+1=C by omega,show k+((C-1:Nat):Int)+1=k+c by omega]
theorem YY(h:t∈JW k qs):t.1=k:=by obtain⟨u,_,e⟩:=QC.mp h;rw[<- e]
theorem Zh:∀(n:Nat) (k:Int) (qs:List Pr) (t:Tr),t∈tbN n k qs->k<t.1
 | 0,_,_,_,h=>by cases h
 | n+1,k,qs,t,h=>by
  rw[tbN] at h;rcases Gd.mp h with z|z
  ·have:=YY z;omega
  ·have:=Zh n (k+1) (thF qs) t z;omega
theorem Wk:∀(n:Nat) (ps:List Pr),(thN n ps).length<=ps.length
 | 0,ps=>Qm _
 | n+1,ps=>by
  show(thN n (thF ps)).length<=_
  have h1:=Wk n (thF ps)
  have h2:=(VW (byF (-1) ps)).1;rw[Us] at h2
  have h3:(thF ps).length=(clN (byF (-1) ps)).length:=rfl;omega
noncomputable abbrev tbC:En->Option Bool:=(tTru? (e1 Y1 (Jb 2)))
noncomputable abbrev tbB:Es:=(Jn (Jp 4 (eU 1 JR (aC (Jb 2) a0))) (Jn (Jfo (fun i j=>i+j) 3 (Jb 4)) (Jn (Jp 2 (eU 2 J1 (aC (Jb 2) (aC (e2 YX (Jb 4) (eC (.int 1))) a0)))) (Jn (Jd0 1 (Yr (iE true (eU 1 Ua (aC (Jb 2) a0))) (.tp (.cons (.nm 0) (.cons (.nm 1) (.cons (.nm 2) .nil)))) (tB? (e2 fGt (Jb 1) (Jb 2))) (Yz (aC (Jb 3) (aC (Jb 0) (aC (e2 YX (Jb 1) (Jb 2)) a0)))) [none,none,none,some 3])) (Jp 2 (eU 2 J1 (aC (Jb 2) (aC (eC (.int 1)) a0))))))))
theorem JdU(j0 j4:Sl)(acc:List Tr)(k:Int)(fuel:Nat):((Yw tbC tbB (fuel+1) [j0,.own (acc.map trE),.sh (.row (([]:List Pr).map prE)),.sh (.int k),j4]).bind (Je9 (Uk 1))).bind Jer=some (.own (acc.map trE)):=by rw[Yw];have hc:tbC [j0,.own (acc.map trE),.sh (.row (([]:List Pr).map prE)),.sh (.int k),j4]=some false:=rfl;rw[hc];walk_at "ev"
theorem Jqa(j0:Sl):∀(m fuel:Nat) (left:List Pr) (acc:List Tr) (k:Int) (j4:Sl) (N:Nat),Good left->left.length<=m->left.length<=30->m<fuel->thN N left=[]->acc.length+30*left.length<=10000 ->
 ((Yw tbC tbB fuel [j0,.own (acc.map trE),.sh (.row (left.map prE)),.sh (.int k),j4]).bind (Je9 (Uk 1))).bind Jer=some (.own ((acc++tbN N k left).map trE)):=by
 intro m
 induction m with
 | zero =>
  intro fuel left acc k j4 N g hm _ hf _ _;obtain⟨f,rfl⟩:∃f,fuel=f+1:=⟨fuel-1,by omega⟩
  have:left=[]:=Qy (by omega);subst this;rw[JdU,WI,Ki]
 | succ m ih =>
  intro fuel left acc k j4 N g hm h30 hf hN hacc;obtain⟨f,rfl⟩:∃f,fuel=f+1:=⟨fuel-1,by omega⟩
  by_cases h0:left=[]
  ·subst h0;rw[JdU,WI,Ki]
  ·obtain⟨c,hc,c1,w,t⟩:=Jn2 g h0;obtain⟨C,hC,hCN,eT,eN⟩:=JdV w c1 h0 hN k;have hcl:=Jc8 left (by omega);rw[hc] at hcl;have g1:=Ui (C-1) g;have l1:=Wk (C-1) left;have l2:=Wk C left;have fw:=Jan t;rw[<- hC,<- Jam C w c1 (by omega)] at fw;have ll:=JlE (k+c) (thN (C-1) left)
   have hcond:tbC [j0,.own (acc.map trE),.sh (.row (left.map prE)),.sh (.int k),j4]=some true:=by
    walk_at "ev"
    cases left with
    | nil=>exact absurd rfl h0
    | cons _ _=>rfl
   have hth:=Wx (thN (C-1) left) 1 g1 (by omega);rw[show((1:Nat):Int)=1 from rfl,show thN 1 (thN (C-1) left)=thN C left by rw[<- Zi,show C-1+1=C by omega]] at hth
   have hbody:tbB [j0,.own (acc.map trE),.sh (.row (left.map prE)),.sh (.int k),j4]=some (.nx [j0,.own ((acc++JW (k+c) (thN (C-1) left)).map trE),.sh (.row ((thN C left).map prE)),.sh (.int (k+c)),.sh (.int c)]):=by
    walk_at "ev";rw[hcl];walk_at "ev";rw[show c-1=((C-1:Nat):Int) by omega,Wx _ _ g (by omega)];walk_at "ev";rw[Jjk _ g1 (by omega)];walk_at "ev";rw[Jbt (g:=fun t:Tr=>trE (k+c,t.1,t.2.1-t.2.2)) (k:=fun t:Tr=>decide (t.2.1>t.2.2))]
    ·have el:((JF (thN (C-1) left)).filter fun t=>decide (t.2.1>t.2.2)).map (fun t:Tr=>trE (k+c,t.1,t.2.1-t.2.2))=(JW (k+c) (thN (C-1) left)).map trE:=by unfold JW;rw[Qt];rfl
     rw[el]
     have hsl:(JF (thN (C-1) left)).length<=30:=by unfold JF;rw[Qk];have:=Jbo (spF (thN (C-1) left)) [];rw[Jfg] at this;unfold Y6;simp at this;omega
     walk_at "ev";rw[hth];walk_at "ev";rw[<- QL]
    ·intro t ht;simp only[trE];refine⟨?_,fun _=>?_⟩
     ·walk_at "ev"
      first|rfl|done
     ·walk_at "ev"
      first|rfl|done
   rw[Yw,hcond,QV,if_pos rfl,hbody,QV,eT,<- GF];exact ih f _ _ _ _ _ (Ui C g) (by omega) (by omega) (by omega) eN (by rw[Qx];omega)
theorem Jga(ps:List Pr)(N:Nat)(g:Good ps)(h:ps.length<=30)(hN:thN N ps=[]):Yj [.sh (.row (ps.map prE))]=some (.own ((tbN N 0 ps).map trE)):=by have go:=Jqa (.sh (.row (ps.map prE))) 30 1000000 ps [] 0 .no N g h h (by decide) hN (by simp;omega);unfold Yj;walk_at "ev";exact go
theorem W5:∀(cur:Pr) (r:List Pr),(∀p∈r,0<=p.2)->((clF cur r).map (·.2)).sum=cur.2+(r.map (·.2)).sum
 | cur,[],_=>by simp[clF]
 | cur,p::r,h=>by
  have h0:=h p Qd
  have hr:=fun q hq=>h q (Qc p hq)
  rw[clF,Qg,Qz];split
  ·rw[W5 _ r hr];dsimp only;omega
  ·split
   ·rw[Qg,Qz,W5 p r hr]
   ·rw[W5 cur r hr];omega
theorem Jfz:∀(ps:List Pr),(∀p∈ps,0<=p.2)->((clN ps).map (·.2)).sum=(ps.map (·.2)).sum
 | [],_=>rfl
 | p::r,h=>by
  have h0:=h p Qd
  have hr:=fun q hq=>h q (Qc p hq)
  rw[clN,Qg,Qz];split
  ·exact W5 p r hr
  ·rw[Jfz r hr];omega
theorem JnZ(k:Int):∀(ps:List Pr),((byF k ps).map (·.2)).sum=(ps.map (·.2)).sum+k*(ps.length:Int):=by
 intro ps
 have e:(byF k ps).map (·.2)=ps.map fun p=>p.2+k:=by
  refine Gm fun i=>?_
  unfold byF;rw[Qp,QH,Qp,Kh];rfl
 rw[e]
 induction ps with
 | nil=>simp
 | cons p r ih =>
  have ih':=ih (by
   refine Gm fun i=>?_
   unfold byF;rw[Qp,QH,Qp,Kh];rfl)
  rw[Qg,Qz,ih',Qg,Qz,Qq,Lq,L3];simp;omega
theorem Wi:∀{ps:List Pr},(∀p∈ps,1<=p.2)->(ps.length:Int)<=(ps.map (·.2)).sum
 | [],_=>QE _
 | p::ps,h=>by
  have h1:=h p Qd
  have h2:=Wi fun q hq=>h q (Qc _ hq)
  rw[Qg,Qz,Qq];omega
theorem JgJ(g:Good ps):((thF ps).map (·.2)).sum=(ps.map (·.2)).sum-(ps.length:Int):=by
 unfold thF;rw[Jfz,JnZ]
 ·omega
 ·intro x hx;obtain⟨i,hi,rfl⟩:=Gs.mp hx;have e:(byF (-1) ps)[i]?=some (byF (-1) ps)[i]:=by simp
  obtain⟨p,hp,e2⟩:=Jbi e;rw[e2];have:=g.one i p hp;dsimp only;omega
theorem Yq:∀(n:Nat) {ps:List Pr},Good ps->(ps.map (·.2)).sum<=(n:Int)->thN n ps=[]
 | 0,ps,g,h=>by
  have:=Wi (Good.all g)
  show ps=[]
  exact Qy (by omega)
 | n+1,ps,g,h=>by
  show thN n (thF ps)=[]
  refine Yq n (J0 g) ?_;rw[JgJ g]
  by_cases hl:ps.length=0
  ·have:ps=[]:=Qy hl;subst this;simp
  ·omega
theorem JfD:∀(L:List Int) (a:List Pr),((L.foldl Ya a).map (·.2)).sum=(a.map (·.2)).sum+(L.length:Int)
 | [],a=>by simp
 | s::L,a=>by
  have e:∀a:List Pr,((Ya a s).map (·.2)).sum=(a.map (·.2)).sum+1:=fun a=>by
   induction a with
   | nil=>simp[Ya]
   | cons p r ih =>
    rw[Ya];split
    ·simp only[Qg,Qz];omega
    ·simp only[Qg,Qz];omega
  rw[QS,JfD L,e,Qq];omega
theorem JgA{α:Type}:∀(l:List α),(l.map fun _=>(0:Int)).sum=0
 | []=>rfl
 | _::l=>by rw[Qg,Qz,JgA l];rfl
theorem Ji5:∀(M K:List Int),M.Nodup->K.Nodup->(∀x∈M,x∈K)->(K.map fun s=>if s∈M then(1:Int) else 0).sum=(M.length:Int)
 | [],K,_,_,_=>by rw[show(fun s:Int=>if s∈([]:List Int) then(1:Int) else 0)=fun _=>0 from funext fun s=>if_neg (by simp)];exact JgA K
 | m::M,K,hm,hk,h=>by
  obtain⟨h1,h2⟩:=QW.mp hm;have ih:=Ji5 M K h2 hk fun x hx=>h x (Qc _ hx)
  have one:∀K:List Int,K.Nodup->(K.map fun s=>if s∈m::M then(1:Int) else 0).sum=(K.map fun s=>if s∈M then(1:Int) else 0).sum+(if m∈K then 1 else 0):=fun K hk=>by
   induction K with
   | nil=>rfl
   | cons k K ihK =>
    obtain⟨a1,a2⟩:=QW.mp hk;rw[Qg,Qz,Qg,Qz,ihK a2]
    by_cases c:k=m
    ·subst c;rw[if_pos Qd,if_neg h1,if_neg a1,if_pos Qd];omega
    ·have e1:(k∈m::M)=(k∈M):=by simp[c]
     have e2:(m∈k::K)=(m∈K):=by simp[QP c]
     simp only[e1,e2];omega
  rw[one K hk,ih,if_pos (h m Qd),Qq];omega
theorem VY:∀(r:List Pr) (cur:Pr) (e:Int),e∈Jm (clF cur r)->e∈Jm (cur::r)
 | [],_,_,h=>h
 | p::r,cur,e,h=>by
  unfold Jm at h ⊢;rw[clF] at h;split at h
  ·next c =>
   have:=VY r _ e h;unfold Jm at this;simp only[Qg,Qh] at this ⊢;rcases this with z|z
   ·exact .inr (.inl (by omega))
   ·exact .inr (.inr z)
  ·split at h
   ·rw[Qg,Qh] at h;rcases h with z|z
    ·rw[z];simp
    ·have:=VY r p e z;unfold Jm at this;rw[Qg];exact Qc _ this
   ·have:=VY r cur e h;unfold Jm at this;simp only[Qg,Qh] at this ⊢;rcases this with z|z
    ·exact .inl z
    ·exact .inr (.inr z)
theorem JcJ:∀(ps:List Pr) (e:Int),e∈Jm (clN ps)->e∈Jm ps
 | [],_,h=>h
 | p::r,e,h=>by
  rw[clN] at h;split at h
  ·exact VY r p e h
  ·have:=JcJ r e h;unfold Jm at this ⊢;rw[Qg];exact Qc _ this
theorem JfM(h:e∈Jm (thF qs)):e∈spF qs:=by
 have:=JcJ _ e h
 have z:=Jkm (-1) qs;rw[show(-1:Int)+1=0 by omega,Vg] at z;rw[z];exact this
noncomputable def JJ(l:List Tr):Int:=(l.map (·.2.2)).sum
theorem Jbw{α:Type}(f:α->Int)(k:α->Bool):∀(l:List α),(∀x∈l,k x=false->f x=0)->((l.filter k).map f).sum=(l.map f).sum
 | [],_=>rfl
 | x::l,h=>by
  have ih:=Jbw f k l fun y hy=>h y (Qc _ hy)
  rw[Qg,Qz]
  cases c:k x with
  | true=>rw[Kz c,Qg,Qz,ih]
  | false=>rw[Ky (by rw[c];simp),ih,h x Qd c,L5]
theorem JgB{α:Type}(f g:α->Int):∀(l:List α),(l.map fun x=>f x-g x).sum=(l.map f).sum-(l.map g).sum
 | []=>rfl
 | x::l=>by rw[Qg,Qz,Qg,Qz,Qg,Qz,JgB f g l];omega
theorem Jgz{α:Type}(f g:α->Int):∀(l:List α),(l.map fun x=>f x+g x).sum=(l.map f).sum+(l.map g).sum
 | []=>rfl
 | x::l=>by rw[Qg,Qz,Qg,Qz,Qg,Qz,Jgz f g l];omega
theorem JbN(g:Good qs)(k:Int):JJ (JW k qs)=(qs.length:Int)-((thF qs).length:Int):=by
 obtain⟨c1,c2,c3⟩:=Jiq (spF qs);have nd:=Jbu (J0 g);unfold JJ JW;rw[Qt];have e1:(((JF qs).filter fun t=>decide (t.2.1>t.2.2)).map ((fun t:Tr=>t.2.2) ∘ fun t:Tr=>(k,t.1,t.2.1-t.2.2))).sum=(((JF qs).filter fun t=>decide (t.2.1>t.2.2)).map fun t=>t.2.1-t.2.2).sum:=rfl;rw[e1,Jbw]
 ·unfold JF;rw[Qt]
  have e2:((Y6 (spF qs)).map ((fun t:Tr=>t.2.1-t.2.2) ∘ fun p:Pr=>((p.1,p.2,owF (thF qs) p.1):Tr))).sum=((Y6 (spF qs)).map fun p=>p.2-(if p.1∈Jm (thF qs) then(1:Int) else 0)).sum:=by
   congr 1;refine QD fun p _=>?_
   show p.2-owF (thF qs) p.1=_;rw[JbZ (J0 g)]
  rw[e2,JgB];have e3:=JfD (spF qs) [];have e4:=Ji5 (Jm (thF qs)) ((Y6 (spF qs)).map (·.1)) nd c1 fun x hx=>QC.mpr ⟨_,c3 x (JfM hx),rfl⟩
  rw[Qt] at e4;have e5:((Y6 (spF qs)).map fun p=>if p.1∈Jm (thF qs) then(1:Int) else 0).sum=((Jm (thF qs)).length:Int):=e4
  have e6:((Y6 (spF qs)).map (·.2)).sum=((spF qs).length:Int):=by unfold Y6;rw[e3];simp
  rw[e5,e6,Jfg];unfold Jm;rw[Qk]
 ·intro t ht c;unfold JF at ht;obtain⟨p,hp,rfl⟩:=QC.mp ht;obtain⟨v1,v2⟩:=c2 p hp;have:0<(spF qs).count p.1:=MQ.mpr v2;have o:=JbZ (J0 g) p.1;have c':=of_decide_eq_false c;dsimp only at c' ⊢;rw[o] at c' ⊢
  by_cases z:p.1∈Jm (thF qs)
  ·rw[if_pos z] at c' ⊢;omega
  ·rw[if_neg z] at c' ⊢;omega
theorem VP:∀(n:Nat) (k:Int) {qs:List Pr},Good qs->thN n qs=[]->JJ (tbN n k qs)=(qs.length:Int)
 | 0,k,qs,g,h=>by have:qs=[]:=h;subst this;rfl
 | n+1,k,qs,g,h=>by
  have ih:=VP n (k+1) (J0 g) h
  have l:=JbN g (k+1);unfold JJ at *;rw[tbN,QL,Mp,ih,l];omega
theorem JlQ{a b d:Int}(ha:0<=a)(hb:0<=b):max 0 (min (a+b) d)=max 0 (min a d)+max 0 (min b (d-a)):=by
 rcases Lk d a with k|k
 ·rw[Gv (show d<=a+b by omega),Gv k,LW (b:=min b (d-a)) (L9 (Lc _ _) (by omega)),Ma]
 ·rw[G2 k,Kr ha];rcases Lk d (a+b) with m|m
  ·rw[Gv m,Gv (show d-a<=b by omega),Kr (by omega),Kr (by omega)];omega
  ·rw[G2 m,G2 (show b<=d-a by omega),Kr (by omega),Kr hb]
theorem Vd(x:Int):∀(r:List Pr) (cur:Pr),(∀p∈r,0<=p.2)->0<=cur.2->below (clF cur r) x=below (cur::r) x
 | [],cur,_,_=>rfl
 | p::r,cur,h,hc=>by
  have h0:=h p Qd
  have hr:=fun q hq=>h q (Qc p hq)
  rw[clF];split
  ·next e=>rw[Vd x r _ hr (by dsimp only;omega (config:={})),Jz,Jz,Jz];dsimp only;rw[JlQ hc h0,show x-cur.1-cur.2=x-p.1 by omega (config:={}),M9]
  ·split
   ·rw[Jz,Vd x r p hr h0,<- Jz]
   ·rw[Vd x r cur hr hc,Jz,Jz cur,Jz p,show p.2=0 by omega (config:={}),LW (b:=min 0 _) (Ry _ _),L5]
theorem JaG(x:Int):∀(ps:List Pr),(∀p∈ps,0<=p.2)->below (clN ps) x=below ps x
 | [],_=>rfl
 | p::r,h=>by
  have h0:=h p Qd
  have hr:=fun q hq=>h q (Qc p hq)
  rw[clN];split
  ·exact Vd x r p hr h0
  ·rw[JaG x r hr,Jz p];omega (config:={})
theorem Jih:∀(r:List Pr) (c x:Int),Good r->(∀q,r[0]?=some q->x<=q.1-c)->∀p∈byR c r,x<=p.1
 | [],_,_,_,_,_,h=>by cases h
 | q::r,c,x,g,hx,p,h=>by
  have h1:=hx q rfl;rcases Qh.mp h with z|z
  ·rw[z];exact h1
  ·refine Jih r (c+2) x (Good.cons' g) (fun q' e=>?_) p z;have:=g.gap 0 q q' rfl (by simpa using e);have:=g.one 0 q rfl;omega
theorem JfJ(left:List Pr):∀(q:List Pr) (i:Nat) (base:Int),Good q->(∀p,q[0]?=some p->∀x,p.1-2*(i:Int)<=x->below left x=base+below (byR (2*(i:Int)) q) x) ->
 edF left i base ((q.zipIdx i).map fun x=>x.1.1+x.1.2-1-2*(x.2:Int))=q
 | [],_,_,_,_=>rfl
 | p::r,i,base,g,hf=>by
  have h1:=g.one 0 p rfl
  have nx:∀q,r[0]?=some q->p.1+p.2+1<=q.1:=fun q e=>by have:=g.gap 0 p q rfl (by simpa using e);omega
  have hs:=hf p rfl (p.1+p.2-1-2*(i:Int)) (by omega);rw[byR,Jz,Zo (ps:=byR (2*(i:Int)+2) r) (Jih r _ _ (Good.cons' g) fun q e=>by have:=nx q e;omega)] at hs;dsimp only at hs
  have e:below left (p.1+p.2-1-2*(i:Int))=base+(p.2-1):=by omega
  rw[K4,Qg,edF];dsimp only;rw[e,JfJ left r (i+1) (base+(p.2-1)) (Good.cons' g) fun q eq x hx=>?_]
  ·congr 1;exact Lm (by dsimp only;omega) (by dsimp only;omega)
  ·have:=nx q eq;rw[hf p rfl x (by omega),byR,Jz];dsimp only;rw[show 2*((i+1:Nat):Int)=2*(i:Int)+2 by omega];omega
theorem JgV(g:Good q):∀p∈byF (-1) q,0<=p.2:=fun p hp=>by obtain⟨i,hi,rfl⟩:=Gs.mp hp;have w:Wide (1+-1) (byF (-1) q):=(JT g).bys (k:=-1);exact w.one i _ (by simp)
theorem JqB(g:Good q):edF (thF q) 0 0 (spF q)=q:=by
 refine JfJ (thF q) q 0 0 g fun p _ x _=>?_
 unfold thF;rw[JaG x _ (JgV g),L5,show 2*((0:Nat):Int)=0 by simp,Vf]
theorem ZQ(prs:List Pr)(s:Int):((Yc prs).count s:Int)=(prs.map fun p=>if p.1=s then((p.2.toNat:Nat):Int) else 0).sum:=by
 induction prs with
 | nil=>rfl
 | cons p r ih =>
  unfold Yc at *;rw[Gi,Mc,Qg,Qz,<- ih,List.count_replicate];split <;> rename_i c
  ·have c':p.1=s:=by simpa using c
   rw[if_pos c'];omega
  ·have c':¬p.1=s:=by simpa using c
   rw[if_neg c'];omega
theorem Jge(f:Pr->Int)(hn:(a.map (·.1)).Nodup)(s:Int):(a.map fun p=>if p.1=s then f p else 0).sum=if s∈a.map (·.1) then f (s,lk s a) else 0:=by
 induction a with
 | nil=>rfl
 | cons p r ih =>
  rw[Qg,QW] at hn;rw[Qg,Qz,ih hn.2,lk]
  by_cases c:p.1=s
  ·subst c;rw[if_pos rfl,if_pos rfl,if_neg hn.1,if_pos (by simp)];simp
  ·rw[if_neg c,if_neg c,L5];have:(s∈(p::r).map (·.1))=(s∈r.map (·.1)):=by simp[QP c]
   simp only[this]
noncomputable def YI(l:List Tr):List Pr:=l.map fun t=>(t.2.1,t.2.2)
theorem Ja9(g:Good q)(k:Int):Yd (Jm (thF q)++Yc (YI (JW k q)))=spF q:=by
 obtain⟨c1,c2,c3⟩:=Jiq (spF q);have gt:=J0 g;have nd:=Jbu gt;refine List.Perm.eq_of_pairwise (le:=(·<=·)) (fun a b _ _ h1 h2=>by omega) (UK _) (Jkn 0 g) ((JH _).trans (List.perm_iff_count.mpr fun s=>?_));rw[Mc]
 have e1:((Yc (YI (JW k q))).count s:Int)=if s∈spF q then((spF q).count s:Int)-(if s∈Jm (thF q) then 1 else 0) else 0:=by
  rw[ZQ];unfold YI JW;rw[Qt,Qt];refine Eq.trans (show _=(((JF q).filter fun t=>decide (t.2.1>t.2.2)).map fun t=>if t.1=s then(((t.2.1-t.2.2).toNat:Nat):Int) else 0).sum from rfl) ?_;rw[Jbw]
  ·unfold JF;rw[Qt];have f2:((Y6 (spF q)).map ((fun t:Tr=>if t.1=s then(((t.2.1-t.2.2).toNat:Nat):Int) else 0) ∘ fun p:Pr=>((p.1,p.2,owF (thF q) p.1):Tr))).sum=((Y6 (spF q)).map fun p=>if p.1=s then(((p.2-owF (thF q) p.1).toNat:Nat):Int) else 0).sum:=rfl;rw[f2,Jge (fun p=>(((p.2-owF (thF q) p.1).toNat:Nat):Int)) c1];have mm:s∈(Y6 (spF q)).map (·.1)↔s∈spF q:=⟨fun h=>by obtain⟨p,hp,e⟩:=QC.mp h;rw[<- e];exact(c2 p hp).2,fun h=>QC.mpr ⟨_,c3 s h,rfl⟩⟩
   by_cases h:s∈spF q
   ·rw[if_pos (mm.mpr h),if_pos h,JeL c1 (c3 s h) (p:=(s,((spF q).count s:Int)))];dsimp only;rw[JbZ gt];have:0<(spF q).count s:=MQ.mpr h;split <;> omega
   ·rw[if_neg fun z=>h (mm.mp z),if_neg h]
  ·intro t ht c;have c':=of_decide_eq_false c;split
   ·omega
   ·rfl
 have e2:(Jm (thF q)).count s=if s∈Jm (thF q) then 1 else 0:=by
  split
  ·next h=>exact JaQ nd h
  ·next h=>exact MP.mpr h
 rw[e2]
 by_cases h:s∈spF q
 ·rw[if_pos h] at e1;have:0<(spF q).count s:=MQ.mpr h;split at e1 <;> rename_i c
  ·rw[if_pos c];omega
  ·rw[if_neg c];omega
 ·rw[if_neg h] at e1;rw[if_neg fun z=>h (JfM z),MP.mpr h];omega
noncomputable def putF(ps prs:List Pr):List Pr:=edF ps 0 0 (Yd (Jm ps++Yc prs))
theorem JjR(g:Good q)(k:Int):putF (thF q) (YI (JW k q))=q:=by unfold putF;rw[Ja9 g k,JqB g]
noncomputable abbrev Gp:=Int×List Pr
noncomputable def Yu:List Gp->Tr->List Gp
 | [],t=>[(t.1,[(t.2.1,t.2.2)])]
 | g::gs,t=>if g.1=t.1 then(g.1,g.2++[(t.2.1,t.2.2)])::gs else g::Yu gs t
noncomputable def Yf(tb:List Tr):List Gp:=tb.foldl Yu []
theorem JaD(x:Gp):∀(tb:List Tr) (g:List Gp),(∀t∈tb,x.1≠t.1)->tb.foldl Yu (x::g)=x::tb.foldl Yu g
 | [],_,_=>rfl
 | t::tb,g,h=>by rw[QS,Yu,if_neg (h t Qd),QS];exact JaD x tb _ fun u hu=>h u (Qc _ hu)
theorem JaC(k:Int):∀(tb:List Tr) (ps:List Pr),(∀t∈tb,t.1=k)->tb.foldl Yu [(k,ps)]=[(k,ps++YI tb)]
 | [],ps,_=>by simp[YI]
 | t::tb,ps,h=>by rw[QS,Yu,if_pos (h t Qd).symm,JaC k tb _ fun u hu=>h u (Qc _ hu)];simp[YI]
theorem Jlv(k:Int)(a b:List Tr)(ha:a≠[])(h1:∀t∈a,t.1=k)(h2:∀t∈b,k<t.1):Yf (a++b)=(k,YI a)::Yf b:=by
 cases a with
 | nil=>exact absurd rfl ha
 | cons t a=>unfold Yf;rw[List.foldl_append,QS,show Yu [] t=[(k,[(t.2.1,t.2.2)])] by rw[Yu,h1 t Qd],JaC k a _ fun u hu=>h1 u (Qc _ hu),JaD _ b [] fun u hu=>by have:=h2 u hu;dsimp only;omega];simp[YI]
noncomputable def Yp:Int->List Gp->List Pr
 | _,[]=>[]
 | k,g::gs=>byF (g.1-k-1) (putF (Yp g.1 gs) g.2)
noncomputable def OkG:Int->List Gp->Prop
 | _,[]=>True
 | k,g::gs=>k<g.1/\(∀p∈g.2,1<=p.2)/\Good (Yp g.1 gs)/\((Yp g.1 gs).length:Int)+(g.2.map (·.2)).sum<=30/\Good (putF (Yp g.1 gs) g.2)/\(putF (Yp g.1 gs) g.2).length<=30/\OkG g.1 gs
theorem Vi(h:t∈JW k q):1<=t.2.2:=by unfold JW at h;obtain⟨u,hu,e⟩:=QC.mp h;obtain⟨_,c⟩:=Mn.mp hu;have:=of_decide_eq_true c;rw[<- e];dsimp only;omega
theorem Jmd(l:List Tr):((YI l).map (·.2)).sum=JJ l:=by unfold YI JJ;rw[Qt];rfl
theorem Je2:∀(m:Nat) (N:Nat) (k:Int) {ps:List Pr},ps.length<=m->Good ps->ps.length<=30->thN N ps=[]->Yp k (Yf (tbN N k ps))=ps/\OkG k (Yf (tbN N k ps)):=by
 intro m
 induction m with
 | zero=>intro N k ps hm g h30 hN;have:ps=[]:=Qy (by omega);subst this;rw[WI];exact⟨rfl,trivial⟩
 | succ m ih =>
  intro N k ps hm g h30 hN
  by_cases h0:ps=[]
  ·subst h0;rw[WI];exact⟨rfl,trivial⟩
  ·obtain⟨c,hc,c1,w,t⟩:=Jn2 g h0;obtain⟨C,hC,hCN,eT,eN⟩:=JdV w c1 h0 hN k;have g1:=Ui (C-1) g;have l1:=Wk (C-1) ps;have l2:=Wk C ps;have fw:=Jan t;rw[<- hC,<- Jam C w c1 (by omega)] at fw;have eq1:thN C ps=thF (thN (C-1) ps):=by rw[<- WJ,show C-1+1=C by omega]
   have ls:=JbN g1 (k+c);rw[<- eq1] at ls
   have hb:byF (c-1) (thN (C-1) ps)=ps:=by rw[Wl w c1 (by omega),Jcy,show c-1+-((C-1:Nat):Int)=0 by omega,Vg]
   have ll:(thN (C-1) ps).length=ps.length:=by have:=Us (c-1) (thN (C-1) ps);rw[hb] at this;exact this.symm
   have hne:JW (k+c) (thN (C-1) ps)≠[]:=fun z=>by rw[z] at ls;have:(0:Int)=_:=ls;omega
   have gc:=Jlv (k+c) (JW (k+c) (thN (C-1) ps)) (tbN (N-C) (k+c) (thN C ps)) hne (fun u hu=>YY hu) fun u hu=>Zh _ _ _ u hu
   obtain⟨i1,i2⟩:=ih (N-C) (k+c) (ps:=thN C ps) (by omega) (Ui C g) (by omega) eN;have pb:putF (thN C ps) (YI (JW (k+c) (thN (C-1) ps)))=thN (C-1) ps:=by rw[eq1];exact JjR g1 (k+c)
   rw[eT,gc];refine⟨?_,?_⟩
   ·show byF (k+c-k-1) (putF (Yp (k+c) (Yf (tbN (N-C) (k+c) (thN C ps)))) (YI (JW (k+c) (thN (C-1) ps))))=ps;rw[i1,pb,show k+c-k-1=c-1 by omega,hb]
   ·show k<k+c/\(∀p∈YI (JW (k+c) (thN (C-1) ps)),1<=p.2)/\Good (Yp (k+c) (Yf (tbN (N-C) (k+c) (thN C ps))))/\((Yp (k+c) (Yf (tbN (N-C) (k+c) (thN C ps)))).length:Int)+((YI (JW (k+c) (thN (C-1) ps))).map (·.2)).sum<=30/\Good (putF (Yp (k+c) (Yf (tbN (N-C) (k+c) (thN C ps)))) (YI (JW (k+c) (thN (C-1) ps))))/\(putF (Yp (k+c) (Yf (tbN (N-C) (k+c) (thN C ps)))) (YI (JW (k+c) (thN (C-1) ps)))).length<=30/\OkG (k+c) (Yf (tbN (N-C) (k+c) (thN C ps)))
    rw[i1,pb,Jmd];refine⟨by omega,fun p hp=>?_,Ui C g,by omega,g1,by omega,i2⟩;obtain⟨u,hu,e⟩:=QC.mp hp;rw[<- e];exact Vi hu
noncomputable abbrev ctB:Es:=(Jn (xIf (tOr? (tB? (e2 fLt (Jb 2) (eC (.int 1)))) (tB? (e2 fLt (Jb 4) (eC (.int 1))))) Vc Yt) (Jn (xIf (tAnd? (tB? (e2 Vw (Jb 1) (eC .non))) (tB? (e2 JiI (Yz (aC (Jb 2) (aC (Jb 3) a0))) (Jb 1)))) Vc Yt) (Jp 1 (Yz (aC (Jb 2) (aC (Jb 3) a0))))))
noncomputable abbrev ctP:Pt:=(.tp (.cons (.nm 2) (.cons (.nm 3) (.cons (.nm 4) .nil))))
noncomputable abbrev gpP:Pt:=(.tp (.cons (.nm 2) (.cons (.nm 3) (.cons (.nm 4) .nil))))
noncomputable abbrev gpK:Ev:=(Jb 2)
noncomputable abbrev gpV:Ev:=(Yz (aC (Jb 3) (aC (Jb 4) a0)))
noncomputable abbrev roB:Es:=(Jp 6 (eU 2 Yn (aC (eU 2 Y9 (aC (Jb 6) (aC (Jg8 (Jb 1) (Jb 2)) a0))) (aC (e2 YX (e2 YX (Jb 2) (Jb 7)) (eC (.int 1))) a0))))
noncomputable abbrev roP:Pt:=(.tp (.cons (.nm 7) (.cons (.nm 2) .nil)))
noncomputable def Y0:Option Pr->List Tr->Prop
 | _,[]=>True
 | a,t::r=>1<=t.1/\1<=t.2.2/\(∀b,a=some b->b.1<t.1\/(b.1=t.1/\b.2<t.2.1))/\Y0 (some (t.1,t.2.1)) r
noncomputable def ahE:Option Pr->D
 | none=>.non
 | some p=>prE p
theorem JfF(x:Sl):∀(tb:List Tr) (a:Option Pr) (j2 j3 j4:Sl),Y0 a tb->∃E',Ye ctP ctB (tb.map trE) [x,.sh (ahE a),j2,j3,j4]=some (.nx (x::E'))/\E'.length=4
 | [],a,j2,j3,j4,_=>⟨_,rfl,rfl⟩
 | t::r,a,j2,j3,j4,h=>by
  obtain⟨h1,h2,h3,h4⟩:=h;obtain⟨E',ih⟩:=JfF x r (some (t.1,t.2.1)) (.sh (.int t.1)) (.sh (.int t.2.1)) (.sh (.int t.2.2)) h4;refine⟨E',?_,ih.2⟩;rw[Qg,Ye];simp only[trE];walk_at "ev";rw[decide_eq_false (show ¬t.1<1 by omega)];walk_at "ev";rw[decide_eq_false (show ¬t.2.2<1 by omega)];walk_at "ev"
  cases a with
  | none=>simp only[ahE];walk_at "ev";exact ih.1
  | some b =>
   have hb:=h3 b rfl;simp only[ahE,prE];walk_at "ev"
   have e:(if t.1=b.1 then decide (t.2.1<=b.2) else decide (t.1<=b.1))=false:=by
    split
    ·exact decide_eq_false (by omega)
    ·exact decide_eq_false (by omega)
   rw[e];walk_at "ev";exact ih.1
theorem JqQ(tb:List Tr)(h:Y0 none tb)(hs:JJ tb<=30)(hl:tb.length<=30):∃r,JU [.sh (.lst (tb.map trE))]=some r:=by
 obtain⟨E',e,el⟩:=JfF (.sh (.lst (tb.map trE))) tb none .no .no .no h;unfold JU;walk_at "ev";rw[show Ye ctP ctB (tb.map trE) [.sh (.lst (tb.map trE)),.sh .non,.no,.no,.no]=_ from e];walk_at "ev";rw[JL (g:=fun t:Tr=>D.int t.2.2)]
 ·walk_at "ev";rw[Vh (ns:=tb.map (·.2.2)) (by simp[Sl.q])];walk_at "ev";rw[decide_eq_false (show ¬(tb.map (·.2.2)).sum>30 from by unfold JJ at hs;omega (config:={}))];walk_at "ev";exact⟨_,rfl⟩
 ·intro t _;simp only[trE];walk_at "ev"
theorem Jcp:∀(g:List Gp) (t:Tr),(Yu g t).map (·.1)=Jy (g.map (·.1)) t.1
 | [],t=>rfl
 | x::g,t=>by
  have ih:=Jcp g t;unfold Jy Vy at ih ⊢;rw[Yu,Qg,Kb]
  by_cases h:x.1=t.1
  ·rw[if_pos h,decide_eq_true h,Xb,if_pos rfl];rfl
  ·rw[if_neg h,decide_eq_false h,Ks,Qg,ih];split <;> rfl
theorem JaE:∀(g:List Gp) (t:Tr),Jat (g.map (·.1)) (g.map fun x=>x.2.map prE) t.1 (prE (t.2.1,t.2.2))=(Yu g t).map fun x=>x.2.map prE
 | [],t=>rfl
 | x::g,t=>by
  rw[Qg,Qg,Jat,Yu];split
  ·simp
  ·rw[JaE g t];rfl
theorem JqR(x a5 a6 a7:Sl):∀(tb:List Tr) (g:List Gp) (j2 j3 j4:Sl),∃j2' j3' j4',V0 gpP gpK gpV (tb.map trE) [x,.no,j2,j3,j4,a5,a6,a7] (g.map (·.1)) (g.map fun x=>x.2.map prE) =
 some ([x,.no,j2',j3',j4',a5,a6,a7],(tb.foldl Yu g).map (·.1),(tb.foldl Yu g).map fun x=>x.2.map prE)
 | [],g,j2,j3,j4=>⟨j2,j3,j4,rfl⟩
 | t::tb,g,j2,j3,j4=>by obtain⟨a,b,c,ih⟩:=JqR x a5 a6 a7 tb (Yu g t) (.sh (.int t.1)) (.sh (.int t.2.1)) (.sh (.int t.2.2));refine⟨a,b,c,?_⟩;rw[Qg,V0];simp only[trE];walk_at "ev";rw[<- Jcp,show D.tup [D.int t.2.1,D.int t.2.2]=prE (t.2.1,t.2.2) from rfl,JaE];exact ih
theorem Jc5(hb:∀E o,b E=some o->∃E',o=.nx E'):∀{xs ys:List D} {E E1:En},Ye p b xs E=some (.nx E1)->Ye p b (xs++ys) E=Ye p b ys E1
 | [],ys,E,E1,h=>by cases h;rfl
 | x::xs,ys,E,E1,h=>by
  rw[Ye] at h;rw[KG,Ye]
  cases hp:p.bind x E with
  | none=>rw[hp] at h;cases h
  | some E2 =>
   rw[hp,QV] at h;rw[QV]
   cases ho:b E2 with
   | none=>rw[ho] at h;cases h
   | some o=>obtain⟨E3,e⟩:=hb E2 o ho;subst e;rw[ho,QV] at h;rw[QV];exact Jc5 hb h
theorem JmP(i:Nat)(a:Ev):∀E o,Jp i a E=some o->∃E',o=.nx E':=fun E o e=>by
 unfold Jp at e;obtain⟨s,_,e⟩:=bind_some e;obtain⟨d,_,e⟩:=bind_some e;split at e
 ·cases e;exact⟨_,rfl⟩
 ·cases e
noncomputable def zl(k:Int)(gs:List Gp):List Pr:=Ml (k::gs.map (·.1)) (gs.map (·.1))
theorem Jnb(k:Int)(g:Gp)(gs:List Gp):zl k (g::gs)=(k,g.1)::zl g.1 gs:=rfl
theorem Jc3:∀{all:List Gp} {g:Gp},(all.map (·.1)).Nodup->g∈all->look (all.map (·.1)) ((all.map fun x=>x.2.map prE).map D.lst) g.1=some (.lst (g.2.map prE))
 | [],_,_,h=>by cases h
 | x::r,g,hn,h=>by
  rw[Qg,QW] at hn;simp only[Qg,look];rcases Qh.mp h with z|z
  ·subst z;rw[if_pos rfl]
  ·rw[if_neg fun e=>hn.1 (by rw[e];exact QC.mpr ⟨g,z,rfl⟩)];exact Jc3 hn.2 z
theorem JlV{l:List Pr}(h:∀p∈l,1<=p.2):(l.length:Int)<=(l.map (·.2)).sum:=by
 induction l with
 | nil=>exact QE _
 | cons p r ih =>
  have:=ih fun q hq=>h q (Qc _ hq)
  have:=h p Qd;rw[Qg,Qz,Qq];omega
theorem Jgr(x a5:Sl)(j3 j4:Sl)(all:List Gp)(hn:(all.map (·.1)).Nodup):∀(gs:List Gp) (k:Int) (j2 j7:Sl),OkG k gs->(∀g∈gs,g∈all) ->
 ∃j2' j7',Ye roP roB ((zl k gs).reverse.map prE) [x,.od (all.map (·.1)) ((all.map fun x=>x.2.map prE).map D.lst),j2,j3,j4,a5,.sh (.row (([]:List Pr).map prE)),j7]=some (.nx [x,.od (all.map (·.1)) ((all.map fun x=>x.2.map prE).map D.lst),j2',j3,j4,a5,.sh (.row ((Yp k gs).map prE)),j7'])
 | [],k,j2,j7,_,_=>⟨j2,j7,rfl⟩
 | g::gs,k,j2,j7,h,hm=>by
  obtain⟨h1,h2,h3,h4,h5,h6,h7⟩:=h;obtain⟨a,b,ih⟩:=Jgr x a5 j3 j4 all hn gs g.1 j2 j7 h7 fun y hy=>hm y (Qc _ hy)
  have nl:=JlV h2;refine⟨.sh (.int g.1),.sh (.int k),?_⟩;rw[Jnb,KQ,QL,Jc5 (JmP 6 _) ih]
  show Ye roP roB [prE (k,g.1)] _=_;rw[Ye];simp only[prE];walk_at "ev";rw[Jc3 hn (hm g Qd)];walk_at "ev";rw[JqT (Yp g.1 gs) g.2 h3 (fun p hp=>by have:=h2 p hp;omega) h4 (by omega) (by omega)];walk_at "ev";rw[show edF (Yp g.1 gs) 0 0 (Yd (Jm (Yp g.1 gs)++Yc g.2))=putF (Yp g.1 gs) g.2 from rfl,show g.1-k-1=(((g.1-k-1).toNat:Nat):Int) by omega,JlP _ _ h5 h6];walk_at "ev";rw[show(((g.1-k-1).toNat:Nat):Int)=g.1-k-1 by omega]
  rfl
theorem Jgd:∀{gs:List Gp} {k:Int},OkG k gs->(gs.map (·.1)).Pairwise (·<·)/\∀y∈gs.map (·.1),k<y
 | [],_,_=>⟨.nil,fun _ h=>by cases h⟩
 | g::gs,k,h=>by
  obtain⟨h1,_,_,_,_,_,h7⟩:=h;obtain⟨i1,i2⟩:=Jgd h7;refine⟨Qv.mpr ⟨i2,i1⟩,fun y hy=>?_⟩;rcases Qh.mp hy with z|z
  ·rw[z];exact h1
  ·have:=i2 y z;omega
theorem Jco:∀(g:List Gp) (t:Tr),(Yu g t).length<=g.length+1
 | [],t=>Qm _
 | x::g,t=>by
  have:=Jco g t;rw[Yu];split
  ·simp
  ·simp only[Qq];omega
theorem JfZ:∀(tb:List Tr) (g:List Gp),(tb.foldl Yu g).length<=g.length+tb.length
 | [],g=>by simp
 | t::tb,g=>by
  have:=JfZ tb (Yu g t)
  have:=Jco g t;rw[QS,Qq];omega
theorem Jf9(tb:List Tr)(h:Y0 none tb)(hs:JJ tb<=30)(hl:tb.length<=30)(ok:OkG 0 (Yf tb)):J8 [.sh (.lst (tb.map trE))]=some (.sh (.row ((Yp 0 (Yf tb)).map prE))):=by
 obtain⟨r,hr⟩:=JqQ tb h hs hl;obtain⟨kp,_⟩:=Jgd ok;have nd:((Yf tb).map (·.1)).Nodup:=kp.imp fun {a b} h=>by omega
 have gl:=JfZ tb [];rw[show tb.foldl Yu []=Yf tb from rfl,KM] at gl;obtain⟨g2,g3,g4,hg⟩:=JqR (.sh (.lst (tb.map trE))) .no .no .no tb [] .no .no .no;rw[show tb.foldl Yu []=Yf tb from rfl] at hg;obtain⟨r2,r7,hro⟩:=Jgr (.sh (.lst (tb.map trE))) (.sh (.lst (((Yf tb).map (·.1)).map .int))) g3 g4 (Yf tb) nd (Yf tb) 0 g2 .no ok (fun _ h=>h);unfold J8;walk_at "ev";rw[hr];walk_at "ev";unfold Jm6;walk_at "ev";rw[show V0 gpP gpK gpV (tb.map trE) [.sh (.lst (tb.map trE)),.no,.no,.no,.no,.no,.no,.no] [] []=_ from hg]
 walk_at "ev";rw[show Jaw [.own []]=some (.sh (.row (([]:List Pr).map prE))) from VZ (ps:=[]) rfl Good.nil (by simp)];walk_at "ev"
 have hz:Jcl (D.int 0::((Yf tb).map (·.1)).map D.int) (((Yf tb).map (·.1)).map D.int)=(zl 0 (Yf tb)).map prE:=by rw[show D.int 0::((Yf tb).map (·.1)).map D.int=(0::(Yf tb).map (·.1)).map D.int from rfl,Zj];rfl
 rw[hz,<- List.map_reverse];rw[show Ye roP roB ((zl 0 (Yf tb)).reverse.map prE) [.sh (.lst (tb.map trE)),.od ((Yf tb).map (·.1)) (((Yf tb).map fun x=>x.2.map prE).map D.lst),g2,g3,g4,.sh (.lst (((Yf tb).map (·.1)).map .int)),.sh (.row []),.no]=_ from hro];walk_at "ev"
theorem Jfs(K:Int)(rest:List Tr)(hK:1<=K)(hr:∀a',(∀b,a'=some b->b.1<=K)->Y0 a' rest):∀(L:List Tr) (a:Option Pr),(∀t∈L,t.1=K/\1<=t.2.2)->(L.map (·.2.1)).Pairwise (·<·)->(∀b,a=some b->b.1<K\/(b.1=K/\∀t∈L,b.2<t.2.1))->Y0 a (L++rest)
 | [],a,_,_,h=>hr a fun b e=>by rcases h b e with z|z <;> omega
 | t::L,a,h1,h2,h3=>by
  obtain⟨k1,k2⟩:=h1 t Qd;rw[Qg,Qv] at h2;refine⟨by omega,k2,fun b e=>?_,Jfs K rest hK hr L _ (fun u hu=>h1 u (Qc _ hu)) h2.2 fun b e=>?_⟩
  ·rcases h3 b e with z|⟨z,y⟩
   ·exact .inl (by omega)
   ·exact .inr ⟨by omega,y t Qd⟩
  ·cases e;exact .inr ⟨k1,fun u hu=>h2.1 _ (QC.mpr ⟨u,hu,rfl⟩)⟩
theorem V6(g:Good q)(k:Int):((JW k q).map (·.2.1)).Pairwise (·<·):=by
 have h:=Jir (spF q) [] (by simp) (fun _ h=>by simp at h) (Jkn 0 g)
 have e:(JW k q).map (·.2.1)=(((JF q).filter fun t=>decide (t.2.1>t.2.2)).map (·.1)):=by unfold JW;rw[Qt];rfl
 rw[e]
 have e2:(JF q).map (·.1)=(Y6 (spF q)).map (·.1):=by unfold JF;rw[Qt];rfl
 have h':((JF q).map (·.1)).Pairwise (·<·):=by rw[e2];exact h
 rw[Mb] at h' ⊢;exact h'.filter _
theorem Vs:∀(n:Nat) (k:Int) (qs:List Pr) (a:Option Pr),Good qs->0<=k->(∀b,a=some b->b.1<=k)->Y0 a (tbN n k qs)
 | 0,_,_,_,_,_,_=>trivial
 | n+1,k,qs,a,g,hk,ha=>by rw[tbN];refine Jfs (k+1) _ (by omega) (fun a' h=>Vs n (k+1) (thF qs) a' (J0 g) (by omega) h) _ a (fun t ht=>⟨YY ht,Vi ht⟩) (V6 g (k+1)) fun b e=>.inl (by have:=ha b e;omega)
theorem YU:∀{tb:List Tr} {a:Option Pr},Y0 a tb->∀t∈tb,1<=t.1/\1<=t.2.2
 | [],_,_,_,h=>by cases h
 | t::r,a,h,u,hu=>by
  obtain⟨h1,h2,_,h4⟩:=h;rcases Qh.mp hu with z|z
  ·rw[z];exact⟨h1,h2⟩
  ·exact YU h4 u z
theorem JbQ:∀{tb:List Tr},(∀t∈tb,1<=t.2.2)->(tb.length:Int)<=JJ tb/\∀t∈tb,t.2.2<=JJ tb
 | [],_=>⟨QE _,fun _ h=>by cases h⟩
 | t::r,h=>by
  obtain⟨h1,h2⟩:=JbQ fun u hu=>h u (Qc t hu)
  have ht:=h t Qd
  have e:JJ (t::r)=t.2.2+JJ r:=by unfold JJ;rw[Qg,Qz]
  rw[e,Qq];refine⟨by omega,fun u hu=>?_⟩;rcases Qh.mp hu with z|z
  ·rw[z];omega
  ·have:=h2 u z;omega
theorem Jal:∀(n:Nat) (k:Int) {qs:List Pr},Good qs->thN n qs=[]->((tbN n k qs).map fun t=>(t.1-k)*t.2.2).sum=(qs.map (·.2)).sum
 | 0,k,qs,g,h=>by have:qs=[]:=h;subst this;rfl
 | n+1,k,qs,g,h=>by
  have ih:=Jal n (k+1) (J0 g) h
  have l:=JbN g (k+1)
  have s:=VP n (k+1) (J0 g) h
  have ts:=JgJ g;unfold JJ at l s;rw[tbN,QL,Mp]
  have e1:(JW (k+1) qs).map (fun t=>(t.1-k)*t.2.2)=(JW (k+1) qs).map (·.2.2):=QD fun t ht=>by rw[YY ht,show k+1-k=1 by omega,Int.one_mul]
  have e2:(tbN n (k+1) (thF qs)).map (fun t=>(t.1-k)*t.2.2)=(tbN n (k+1) (thF qs)).map fun t=>t.2.2+(t.1-(k+1))*t.2.2:=QD fun t ht=>by rw[show t.1-k=1+(t.1-(k+1)) by omega,Mm,Int.one_mul]
  rw[e1,e2,Jgz,ih,l,s,ts];omega
noncomputable def mvP(d:Int)(ps:List Pr):List Pr:=ps.map fun p=>(p.1-d,p.2)
theorem JqW(d k:Int)(ps:List Pr):byF k (mvP d ps)=mvP d (byF k ps):=by
 refine Gm fun i=>?_
 unfold byF mvP;rw[QH,Qp,Qp,QH,Kh,Kh]
 cases ps[i]? with
 | none=>rfl
 | some p=>exact congrArg some (Lm (by show p.1-d+2*k*(i:Int)=p.1+2*k*(i:Int)-d;omega) rfl)
theorem JbP(d:Int):∀(r:List Pr) (cur:Pr),clF (cur.1-d,cur.2) (mvP d r)=mvP d (clF cur r)
 | [],cur=>rfl
 | p::r,cur=>by
  show clF (cur.1-d,cur.2) ((p.1-d,p.2)::mvP d r)=_;rw[clF,clF];dsimp only
  by_cases h:cur.1+cur.2=p.1
  ·rw[if_pos (by omega),if_pos h];exact JbP d r (cur.1,cur.2+p.2)
  ·rw[if_neg (by omega),if_neg h];split
   ·rw[JbP d r p];rfl
   ·exact JbP d r cur
theorem JeR(d:Int):∀(ps:List Pr),clN (mvP d ps)=mvP d (clN ps)
 | []=>rfl
 | p::r=>by
  show clN ((p.1-d,p.2)::mvP d r)=_;rw[clN,clN];split
  ·exact JbP d r p
  ·exact JeR d r
theorem Jjo(d:Int)(ps:List Pr):thF (mvP d ps)=mvP d (thF ps):=by unfold thF;rw[JqW,JeR]
theorem Jjp(d:Int):∀(n:Nat) (ps:List Pr),thN n (mvP d ps)=mvP d (thN n ps)
 | 0,_=>rfl
 | n+1,ps=>by show thN n (thF (mvP d ps))=mvP d (thN n (thF ps));rw[Jjo,Jjp d n]
theorem JqY(d:Int)(ps:List Pr):spF (mvP d ps)=(spF ps).map (·-d):=by
 refine Gm fun i=>?_
 unfold spF mvP;rw[Qp,Qp,Qp,KS,KS,Qp]
 cases ps[i]? with
 | none=>rfl
 | some p=>exact congrArg some (by show p.1-d+p.2-1-2*((0+i:Nat):Int)=p.1+p.2-1-2*((0+i:Nat):Int)-d;omega)
theorem Jjn(d:Int)(ps:List Pr)(x:Int):JN (mvP d ps) (x-d)=JN ps x:=by
 induction ps with
 | nil=>rfl
 | cons p r ih =>
  show JN ((p.1-d,p.2)::mvP d r) (x-d)=_;rw[JV,JV,ih];dsimp only;congr 2
  ·rw[decide_eq_decide];omega
  ·rw[decide_eq_decide];omega
theorem JqX(d:Int)(ps:List Pr)(x:Int):owF (mvP d ps) (x-d)=owF ps x:=by unfold owF;rw[Jjn,show x-d-1=x-1-d by omega,Jjn]
theorem JoS(d:Int)(L:List Int):Y6 (L.map (·-d))=(Y6 L).map fun p=>(p.1-d,p.2):=by have:=JaO d L [];exact this
theorem JoT(d k:Int)(ps:List Pr):JW k (mvP d ps)=(JW k ps).map fun t=>(t.1,t.2.1-d,t.2.2):=by
 have e:JF (mvP d ps)=(JF ps).map fun t=>(t.1-d,t.2.1,t.2.2):=by
  unfold JF;rw[JqY,JoS,Qt,Qt];refine QD fun p _=>?_
  show(p.1-d,p.2,owF (thF (mvP d ps)) (p.1-d))=(p.1-d,p.2,owF (thF ps) p.1)
  rw[Jjo,JqX]
 unfold JW;rw[e,List.filter_map,Qt,Qt];rfl
theorem Jnv(d:Int):∀(n:Nat) (k:Int) (ps:List Pr),tbN n k (mvP d ps)=(tbN n k ps).map fun t=>(t.1,t.2.1-d,t.2.2)
 | 0,_,_=>rfl
 | n+1,k,ps=>by rw[tbN,tbN,QL,JoT,Jjo,Jnv d n]
theorem JrS{c1 c2 p1 p2 ins s:Int}(e:c1+c2=p1)(hc:0<=c2)(hp:0<=p2)(h0:0<=ins)(h1:ins<=s):∃t u,min c2 (s-ins)=t/\max 0 (ins+t-(p1-c1-c2))=ins+t/\min (ins+t) (p1-c1-c2)=0 ∧
 min p2 (s-(ins+t))=u/\min (c2+p2) (s-ins)=t+u/\0<=t/\t<=c2/\0<=u/\u<=p2/\(t=c2\/u=0):=by
 have z:p1-c1-c2=0:=by omega
 rw[z];rcases Lk c2 (s-ins) with h|h
 ·rw[G2 h];rcases Lk p2 (s-(ins+c2)) with k|k
  ·exact⟨c2,p2,rfl,by omega,by omega,G2 k,by omega,hc,QE _,hp,QE _,.inl rfl⟩
  ·exact⟨c2,s-(ins+c2),rfl,by omega,by omega,Gv k,by omega,hc,QE _,by omega,k,.inl rfl⟩
 ·rw[Gv h];exact⟨s-ins,0,rfl,by omega,by omega,by omega,by omega,by omega,h,QE _,hp,.inr rfl⟩
theorem bare{c1 c2 p1 p2 ins s:Int}(hb:c1+c2<=p1)(hp:p2=0)(hc:0<=c2)(h0:0<=ins)(h1:ins<=s):∃t m w,min c2 (s-ins)=t/\max 0 (ins+t-(p1-c1-c2))=m/\min (ins+t) (p1-c1-c2)=w/\min p2 (s-m)=0/\0<=t/\t<=c2 ∧
 ((m=0/\w=ins+t/\ins+t<=p1-c1-c2)\/(m=ins+t-(p1-c1-c2)/\w=p1-c1-c2/\p1-c1-c2<=ins+t)):=by
 obtain⟨t,ht,t0,t1,t2⟩:∃t,min c2 (s-ins)=t/\0<=t/\t<=c2/\ins+t<=s:=⟨_,rfl,by omega (config:={}),by omega (config:={}),by omega (config:={})⟩
 rw[ht];rcases Lk (ins+t) (p1-c1-c2) with h|h
 ·exact⟨t,0,ins+t,rfl,by omega (config:={}),G2 h,by omega (config:={}),t0,t1,.inl ⟨rfl,rfl,h⟩⟩
 ·exact⟨t,ins+t-(p1-c1-c2),p1-c1-c2,rfl,by omega (config:={}),Gv h,by omega (config:={}),t0,t1,.inr ⟨rfl,rfl,h⟩⟩
noncomputable def goS(s:Int):Int->List Pr->List Pr
 | _,[]=>[]
 | ins,[p]=>[(p.1+min p.2 (s-ins),p.2-min p.2 (s-ins)+(ins+min p.2 (s-ins)))]
 | ins,p::q::r=>(p.1+min p.2 (s-ins),p.2-min p.2 (s-ins)+min (ins+min p.2 (s-ins)) (q.1-p.1-p.2))::goS s (max 0 (ins+min p.2 (s-ins)-(q.1-p.1-p.2))) (q::r)
theorem JX(s ins:Int)(p q:Pr)(r:List Pr):goS s ins (p::q::r)=(p.1+min p.2 (s-ins),p.2-min p.2 (s-ins)+min (ins+min p.2 (s-ins)) (q.1-p.1-p.2))::goS s (max 0 (ins+min p.2 (s-ins)-(q.1-p.1-p.2))) (q::r):=rfl
theorem V3{s:Int}:∀(ps:List Pr) (ins:Int),Good ps->0<=ins->ins<=s-1->Good (goS s ins ps)/\∀q,(goS s ins ps)[0]?=some q->∀p,ps[0]?=some p->q.1=p.1+min p.2 (s-ins)
 | [],_,_,_,_=>⟨Good.nil,fun q e=>by simp[goS] at e⟩
 | [p],ins,g,h0,h1=>by
  have hp:=g.one 0 p rfl;refine⟨Good.mk' ?_ (fun q e=>by simp at e) Good.nil,fun q e p' e'=>?_⟩
  ·dsimp only;omega (config:={})
  ·simp[goS] at e e';subst e';rw[<- e]
 | p::q::r,ins,g,h0,h1=>by
  have hp:=g.one 0 p rfl
  have hq:=g.one 1 q rfl
  have hg:=g.gap 0 p q rfl rfl;obtain⟨t,ht,t0,t2⟩:∃t,min p.2 (s-ins)=t/\1<=t/\ins+t<=s:=⟨_,rfl,R5.mpr ⟨hp,by omega (config:={})⟩,by have:=Lc p.2 (s-ins);omega (config:={})⟩
  have t1:t<=p.2:=by rw[<- ht];exact Ry _ _
  have l1:max 0 (ins+t-(q.1-p.1-p.2))<=s-1:=R4.mpr ⟨by omega (config:={}),by omega (config:={})⟩
  have w0:1<=min (ins+t) (q.1-p.1-p.2):=R5.mpr ⟨by omega (config:={}),by omega (config:={})⟩
  have w1:=Lc (ins+t) (q.1-p.1-p.2);obtain⟨i1,i2⟩:=V3 (s:=s) (q::r) (max 0 (ins+t-(q.1-p.1-p.2))) (Good.cons' g) (Mw _ _) l1
  have u0:1<=min q.2 (s-max 0 (ins+t-(q.1-p.1-p.2))):=R5.mpr ⟨hq,by omega (config:={})⟩;rw[JX,ht]
  have ht':=ht
  clear ht;refine⟨Good.mk' ?_ (fun q' e=>?_) i1,fun q' e p' e'=>?_⟩
  ·dsimp only
   revert w0
   generalize min (ins+t) (q.1-p.1-p.2)=w
   intro w0;omega (config:={})
  ·have i3:=i2 q' e q rfl;dsimp only
   revert w0 w1 u0 i3
   generalize min (ins+t) (q.1-p.1-p.2)=w
   generalize min q.2 _=u
   intro w0 w1 u0 i3;omega (config:={})
  ·simp at e e';subst e';rw[<- e,ht']
theorem JiS(s:Int):∀(ps:List Pr) (ins:Int),(goS s ins ps).length=ps.length
 | [],_=>rfl
 | [p],_=>rfl
 | p::q::r,ins=>by rw[JX,Qq,JiS s (q::r)];rfl
theorem W7:∀(ps:List Pr),Wide 0 ps->goS 0 0 ps=ps
 | [],_=>rfl
 | [p],w=>by
  have hp:=w.one 0 p rfl
  show [(p.1+min p.2 (0-0),p.2-min p.2 (0-0)+(0+min p.2 (0-0)))]=[p]
  congr 1;exact Lm (by dsimp only;omega) (by dsimp only;omega)
 | p::q::r,w=>by
  have hp:=w.one 0 p rfl
  have hg:=w.gap 0 p q rfl rfl;rw[JX,show max 0 (0+min p.2 (0-0)-(q.1-p.1-p.2))=0 by omega,W7 (q::r) w.cons];congr 1;exact Lm (by dsimp only;omega) (by dsimp only;omega)
theorem JiR(s:Int):∀(ps:List Pr) (c ins:Int),Good ps->0<=ins->ins<=s-1->byR c (goS s ins ps)=mvP (-1) (goS (s-1) ins (byR c ps))
 | [],_,_,_,_,_=>rfl
 | [p],c,ins,g,h0,h1=>by
  have hp:=g.one 0 p rfl
  show [(p.1+min p.2 (s-ins)-c,p.2-min p.2 (s-ins)+(ins+min p.2 (s-ins))-1)]=[(p.1-c+min (p.2-1) (s-1-ins) - -1,p.2-1-min (p.2-1) (s-1-ins)+(ins+min (p.2-1) (s-1-ins)))]
  congr 1;exact Lm (by dsimp only;omega) (by dsimp only;omega)
 | p::q::r,c,ins,g,h0,h1=>by
  have hp:=g.one 0 p rfl
  have hg:=g.gap 0 p q rfl rfl
  have hm:min (p.2-1) (s-1-ins)=min p.2 (s-ins)-1:=by omega
  have ht:=Lc p.2 (s-ins)
  revert hm ht
  generalize ht:min p.2 (s-ins)=t
  intro hm h3;have ih:=JiR s (q::r) (c+2) (max 0 (ins+t-(q.1-p.1-p.2))) (Good.cons' g) (Mw _ _) (R4.mpr ⟨by omega,by omega⟩);rw[JX,ht,byR,ih];show _=mvP (-1) (goS (s-1) ins ((p.1-c,p.2-1)::(q.1-(c+2),q.2-1)::byR (c+2+2) r));rw[JX];dsimp only;rw[hm,show q.1-(c+2)-(p.1-c)-(p.2-1)=q.1-p.1-p.2-1 by omega,show ins+(t-1)-(q.1-p.1-p.2-1)=ins+t-(q.1-p.1-p.2) by omega,show min (ins+(t-1)) (q.1-p.1-p.2-1)=min (ins+t) (q.1-p.1-p.2)-1 by omega]
  show _=(p.1-c+(t-1) - -1,p.2-1-(t-1)+(min (ins+t) (q.1-p.1-p.2)-1))::mvP (-1) (goS (s-1) (max 0 (ins+t-(q.1-p.1-p.2))) (byR (c+2) (q::r)));rw[show p.1-c+(t-1) - -1=p.1+t-c by omega,show p.2-1-(t-1)+(min (ins+t) (q.1-p.1-p.2)-1)=p.2-t+min (ins+t) (q.1-p.1-p.2)-1 by omega]
theorem Zb(h:A=B):(A || T)=(B || T):=by rw[h]
noncomputable def inI(a b x:Int):Bool:=decide (a<=x) && decide (x<b)
theorem inI_t:inI a b x=true↔a<=x/\x<b:=by unfold inI;simp
theorem J6(p:Pr)(ps:List Pr)(x:Int):JN (p::ps) x=(inI p.1 (p.1+p.2) x || JN ps x):=JV p ps x
theorem Jlx(h:(a<=x/\x<b)↔(c<=x/\x<d)\/(e<=x/\x<f)):inI a b x=(inI c d x || inI e f x):=by rw[KB,LS,inI_t,inI_t,inI_t];exact h
theorem Jq(p:Pr)(ps:List Pr):Jm (p::ps)=(p.1+p.2)::Jm ps:=rfl
theorem JcT(h:c<=a):inI a c x=false:=by rw[Bool.eq_false_iff];intro z;have:=inI_t.mp z;omega
theorem JcS(h:(c=a/\d=e/\f=b/\c<=d/\e<=f)\/(d<=c/\e=a/\f=b)\/(f<=e/\c=a/\d=b)):inI a b x=(inI c d x || inI e f x):=by
 rcases h with ⟨rfl,rfl,rfl,h1,h2⟩|⟨h1,rfl,rfl⟩|⟨h1,rfl,rfl⟩
 ·exact Jlx (by omega (config:={}))
 ·rw[JcT h1,Ks]
 ·rw[JcT h1,LO]
theorem Jqy{A B C D x:Int}{l:List Int}(h:(A=C/\B=D)\/(A=D/\B=C)):(A::B::l).count x=(C::l).count x+(if D=x then 1 else 0):=by rcases h with ⟨rfl,rfl⟩|⟨rfl,rfl⟩ <;> simp only[Gw,beq_iff_eq] <;> omega
theorem Jnm(e:c1+c2=p1)(hz:t=c2\/u=0)(t1:t<=c2)(hw:0<=p2+w):inI (c1+(t+u)) (c1+(t+u)+(c2+p2-(t+u)+w)) x=(inI (c1+t) (c1+t+(c2-t+0)) x || inI (p1+u) (p1+u+(p2-u+w)) x):=by
 subst e;refine JcS ?_;rcases hz with z|z
 ·exact .inr (.inl ⟨by omega,by omega,by omega⟩)
 ·exact .inl ⟨by omega,by omega,by omega,by omega,by omega⟩
theorem Jni(e:c1+c2=p1)(l:List Int):(c1+t+(c2-t+0))::(p1+u+(p2-u+w))::l=(c1+c2)::(c1+(t+u)+(c2+p2-(t+u)+w))::l:=by rw[show c1+t+(c2-t+0)=c1+c2 by omega,show p1+u+(p2-u+w)=c1+(t+u)+(c2+p2-(t+u)+w) by omega]
theorem Jnn(hp:p2=0)(hk:y=0\/v=p1-c1-c2)(y0:0<=y)(t1:t<=c2)(v0:0<=v):inI (c1+t) (c1+t+(c2-t+(v+y))) x=(inI (c1+t) (c1+t+(c2-t+v)) x || inI (p1+0) (p1+0+(p2-0+y)) x):=by
 refine JcS ?_;rcases hk with z|z
 ·exact .inr (.inr ⟨by omega,rfl,by omega⟩)
 ·exact .inl ⟨rfl,by omega,by omega,by omega,by omega⟩
theorem Jnj{c1 c2 p1 p2 t v y x:Int}{l:List Int}(hp:p2=0)(hk:y=0\/v=p1-c1-c2):((c1+t+(c2-t+v))::(p1+0+(p2-0+y))::l).count x=((c1+t+(c2-t+(v+y)))::l).count x+(if p1=x then 1 else 0):=by
 refine Jqy ?_;rcases hk with z|z
 ·exact .inl ⟨by omega,by omega⟩
 ·exact .inr ⟨by omega,by omega⟩
theorem JbB(s x:Int):∀(r:List Pr) (cur:Pr) (ins:Int),0<=cur.2->Wide 0 r->(∀q,r[0]?=some q->cur.1+cur.2<=q.1)->0<=ins->ins<=s ->
 JN (goS s ins (clF cur r)) x=JN (goS s ins (cur::r)) x/\(Jm (goS s ins (cur::r))).count x+(Jm (clF cur r)).count x=(Jm (goS s ins (clF cur r))).count x+(Jm (cur::r)).count x
 | [],_,_,_,_,_,_,_=>⟨rfl,rfl⟩
 | p::r,cur,ins,hc,w,hq,h0,h1=>by
  have hp:=w.one 0 p rfl
  have hb:=hq p rfl
  have nx:∀q,r[0]?=some q->p.1+p.2<=q.1:=fun q e=>by have:=w.gap 0 p q rfl (by simpa using e);omega (config:={})
  rw[clF];split
  ·next e =>
   obtain⟨i1,i2⟩:=JbB s x r (cur.1,cur.2+p.2) ins (by dsimp only;omega (config:={})) w.cons (fun q e'=>by have:=nx q e';dsimp only;omega (config:={})) h0 h1;obtain⟨t,u,ht,hl,hd,hu,hm,t0,t1,u0,u1,hz⟩:=JrS e hc hp h0 h1
   have e2:Jm (cur::p::r)=(cur.1+cur.2)::Jm ((cur.1,cur.2+p.2)::r):=by rw[Jq,Jq,Jq];dsimp only;rw[show cur.1+(cur.2+p.2)=p.1+p.2 by omega (config:={})]
   cases r with
   | nil =>
    have f1:goS s ins [cur,p]=[(cur.1+t,cur.2-t+0),(p.1+u,p.2-u+(ins+t+u))]:=by rw[JX,ht,hl,hd];show _::[(p.1+min p.2 (s-(ins+t)),p.2-min p.2 (s-(ins+t))+(ins+t+min p.2 (s-(ins+t))))]=_;rw[hu]
    have f2:goS s ins [(cur.1,cur.2+p.2)]=[(cur.1+(t+u),cur.2+p.2-(t+u)+(ins+t+u))]:=by show [(cur.1+min (cur.2+p.2) (s-ins),cur.2+p.2-min (cur.2+p.2) (s-ins)+(ins+min (cur.2+p.2) (s-ins)))]=_;rw[hm,M9 ins]
    clear ht hl hd hu hm;refine⟨?_,?_⟩
    ·rw[i1,f1,f2,J6,J6,J6,<- Mh];exact Zb (Jnm e hz t1 (by omega (config:={})))
    ·have e1:Jm (goS s ins [cur,p])=(cur.1+cur.2)::Jm (goS s ins [(cur.1,cur.2+p.2)]):=by rw[f1,f2,Jq,Jq,Jq];exact Jni e _
     rw[e1,e2,Gw,Gw];omega (config:={})
   | cons q r =>
    have hn:=nx q rfl
    have f1:goS s ins (cur::p::q::r)=(cur.1+t,cur.2-t+0)::(p.1+u,p.2-u+min (ins+t+u) (q.1-p.1-p.2))::goS s (max 0 (ins+t+u-(q.1-p.1-p.2))) (q::r):=by rw[JX,ht,hl,hd,JX,hu]
    have f2:goS s ins ((cur.1,cur.2+p.2)::q::r)=(cur.1+(t+u),cur.2+p.2-(t+u)+min (ins+t+u) (q.1-p.1-p.2))::goS s (max 0 (ins+t+u-(q.1-p.1-p.2))) (q::r):=by rw[JX];dsimp only;rw[hm,show q.1-cur.1-(cur.2+p.2)=q.1-p.1-p.2 by omega (config:={}),show ins+(t+u)=ins+t+u by omega (config:={})]
    clear ht hl hd hu hm;have w0:0<=min (ins+t+u) (q.1-p.1-p.2):=by omega (config:={})
    generalize min (ins+t+u) (q.1-p.1-p.2)=v at w0 f1 f2
    refine⟨?_,?_⟩
    ·rw[i1,f1,f2,J6,J6,J6,<- Mh];exact Zb (Jnm e hz t1 (by omega (config:={})))
    ·have e1:Jm (goS s ins (cur::p::q::r))=(cur.1+cur.2)::Jm (goS s ins ((cur.1,cur.2+p.2)::q::r)):=by rw[f1,f2,Jq,Jq,Jq];exact Jni e _
     rw[e1,e2,Gw,Gw];omega (config:={})
  ·next e =>
   split
   ·next hpp =>
    obtain⟨q',e1,e2⟩:=Zp r p;obtain⟨i1,i2⟩:=JbB s x r p (max 0 (ins+min cur.2 (s-ins)-(p.1-cur.1-cur.2))) (by omega (config:={})) w.cons nx (by omega (config:={})) (by omega (config:={}))
    cases hcl:clF p r with
    | nil=>rw[hcl] at e1;cases e1
    | cons y l =>
     rw[hcl] at e1 i1 i2;have:y=q':=by simpa using e1
     subst this;rw[JX,JX,e2];refine⟨?_,?_⟩
     ·rw[J6,J6,i1]
     ·rw[Jq _ (goS s _ (p::r)),Jq cur (y::l),Jq _ (goS s _ (y::l)),Jq cur (p::r),Gw,Gw,Gw,Gw];omega (config:={})
   ·next hpp =>
    have hp0:p.2=0:=by omega (config:={})
    obtain⟨i1,i2⟩:=JbB s x r cur ins hc w.cons (fun q e'=>by have:=nx q e';omega (config:={})) h0 h1;obtain⟨t,m,v,ht,hl,hd,hu,t0,t1,hz⟩:=bare hb hp0 hc h0 h1;have v0:0<=v:=by rcases hz with ⟨z1,z2,z3⟩|⟨z1,z2,z3⟩ <;> omega (config:={})
    have e2:(Jm (cur::p::r)).count x=(Jm (cur::r)).count x+(if p.1=x then 1 else 0):=by rw[Jq,Jq,Jq];exact Jqy (.inl ⟨rfl,by omega (config:={})⟩)
    cases r with
    | nil =>
     obtain⟨k1,k2,k3⟩:(m+0=0\/v=p.1-cur.1-cur.2)/\ins+t=v+(m+0)/\0<=m+0:=by rcases hz with ⟨z1,z2,z3⟩|⟨z1,z2,z3⟩ <;> omega (config:={})
     have f1:goS s ins [cur,p]=[(cur.1+t,cur.2-t+v),(p.1+0,p.2-0+(m+0))]:=by rw[JX,ht,hl,hd];show _::[(p.1+min p.2 (s-m),p.2-min p.2 (s-m)+(m+min p.2 (s-m)))]=_;rw[hu]
     have f2:goS s ins [cur]=[(cur.1+t,cur.2-t+(v+(m+0)))]:=by show [(cur.1+min cur.2 (s-ins),cur.2-min cur.2 (s-ins)+(ins+min cur.2 (s-ins)))]=_;rw[ht,k2]
     refine⟨?_,?_⟩
     ·rw[i1,f1,f2,J6,J6,J6,<- Mh];exact Zb (Jnn hp0 k1 k3 t1 v0)
     ·rw[show(Jm (goS s ins [cur,p])).count x=(Jm (goS s ins [cur])).count x+(if p.1=x then 1 else 0) by rw[f1,f2,Jq,Jq,Jq];exact Jnj hp0 k1,e2]
      omega (config:={})
    | cons q r =>
     have hn:=nx q rfl
     obtain⟨y,y0,k1,k2,k3,k4⟩:∃y:Int,0<=y/\min (m+0) (q.1-p.1-p.2)=y/\min (ins+t) (q.1-cur.1-cur.2)=v+y/\max 0 (m+0-(q.1-p.1-p.2))=max 0 (ins+t-(q.1-cur.1-cur.2))/\(y=0\/v=p.1-cur.1-cur.2):=by
      rcases hz with ⟨z1,z2,z3⟩|⟨z1,z2,z3⟩
      ·subst z1 z2;exact⟨0,QE _,by omega (config:={}),by omega (config:={}),by omega (config:={}),.inl rfl⟩
      ·subst z1 z2;exact⟨_,by omega (config:={}),rfl,by omega (config:={}),by omega (config:={}),.inr rfl⟩
     have f1:goS s ins (cur::p::q::r)=(cur.1+t,cur.2-t+v)::(p.1+0,p.2-0+y)::goS s (max 0 (ins+t-(q.1-cur.1-cur.2))) (q::r):=by rw[JX,ht,hl,hd,JX,hu,k1,k3]
     have f2:goS s ins (cur::q::r)=(cur.1+t,cur.2-t+(v+y))::goS s (max 0 (ins+t-(q.1-cur.1-cur.2))) (q::r):=by rw[JX,ht,k2]
     refine⟨?_,?_⟩
     ·rw[i1,f1,f2,J6,J6,J6,<- Mh];exact Zb (Jnn hp0 k4 y0 t1 v0)
     ·rw[show(Jm (goS s ins (cur::p::q::r))).count x=(Jm (goS s ins (cur::q::r))).count x+(if p.1=x then 1 else 0) by rw[f1,f2,Jq,Jq,Jq];exact Jnj hp0 k4,e2]
      omega (config:={})
theorem Jey(s x:Int)(hs:0<=s):∀(ps:List Pr),Wide 0 ps->JN (goS s 0 (clN ps)) x=JN (goS s 0 ps) x/\(Jm (goS s 0 ps)).count x+(Jm (clN ps)).count x=(Jm (goS s 0 (clN ps))).count x+(Jm ps).count x
 | [],_=>⟨rfl,rfl⟩
 | p::r,w=>by
  have hp:=w.one 0 p rfl;rw[clN];split
  ·next h=>exact JbB s x r p 0 hp w.cons (fun q e=>by have:=w.gap 0 p q rfl (by simpa using e);omega) (QE _) hs
  ·next h =>
   have hp0:p.2=0:=by omega
   obtain⟨i1,i2⟩:=Jey s x hs r w.cons
   have e:goS s 0 (p::r)=p::goS s 0 r:=by
    cases r with
    | nil =>
     show [(p.1+min p.2 (s-0),p.2-min p.2 (s-0)+(0+min p.2 (s-0)))]=[p]
     congr 1;exact Lm (by dsimp only;omega) (by dsimp only;omega)
    | cons q r=>have:=w.gap 0 p q rfl rfl;rw[JX,show max 0 (0+min p.2 (s-0)-(q.1-p.1-p.2))=0 by omega];congr 1;exact Lm (by dsimp only;omega) (by dsimp only;omega)
   rw[e];refine⟨?_,?_⟩
   ·rw[i1,J6,show inI p.1 (p.1+p.2) x=false by
     cases c:inI p.1 (p.1+p.2) x with
     | false=>rfl
     | true=>rw[inI_t] at c;omega]
    rfl
   ·rw[Jq,Jq p r,Gw,Gw];omega
theorem Jgb(d:Int)(ps:List Pr):Jm (mvP d ps)=(Jm ps).map (·-d):=by unfold Jm mvP;rw[Qt,Qt];exact QD fun p _=>by show p.1-d+p.2=p.1+p.2-d;omega
theorem JlS(w:Wide c (mvP d ps)):Wide c ps:=by refine⟨fun i p e=>w.one i (p.1-d,p.2) (by unfold mvP;rw[Qp,e];rfl),fun i p q e1 e2=>?_⟩;have:=w.gap i (p.1-d,p.2) (q.1-d,q.2) (by unfold mvP;rw[Qp,e1];rfl) (by unfold mvP;rw[Qp,e2];rfl);dsimp only at this;omega
theorem JkB(hs:1<=s)(g:Good ps):thF (goS s 0 ps)=mvP (-1) (goS (s-1) 0 (thF ps)):=by
 have g1:=(V3 (s:=s) ps 0 g (QE _) (by omega)).1
 have e:byF (-1) (goS s 0 ps)=mvP (-1) (goS (s-1) 0 (byF (-1) ps)):=by rw[<- Vf,<- Vf];exact JiR s ps 0 0 g (QE _) (by omega)
 have w1:Wide 0 (goS (s-1) 0 (byF (-1) ps)):=by have:Wide (1+-1) (byF (-1) (goS s 0 ps)):=(JT g1).bys (k:=-1);rw[e] at this;exact JlS this
 have w0:Wide 0 (byF (-1) ps):=by
  have z:Wide (1+-1) (byF (-1) ps):=(JT g).bys (k:=-1)
  rwa [show(1:Int)+-1=0 by decide] at z
 have gt:=J0 g
 have g2:Good (goS (s-1) 0 (thF ps)):=by
  by_cases h:s-1=0
  ·rw[h,W7 _ ((JT gt).mono (by omega))];exact gt
  ·exact(V3 (s:=s-1) (thF ps) 0 gt (QE _) (by omega)).1
 have key:clN (goS (s-1) 0 (byF (-1) ps))=goS (s-1) 0 (thF ps):=by
  refine JbC (Zq _ w1) g2 fun x=>?_
  rw[Jbm x _ fun p hp=>by obtain⟨i,hi,rfl⟩:=Gs.mp hp;exact w1.one i _ (by simp)]
  exact(Jey (s-1) x (by omega) (byF (-1) ps) w0).1.symm
 show clN (byF (-1) (goS s 0 ps))=_;rw[e,JeR,key]
theorem JrM(hs:1<=s)(g:Good ps)(x:Int):(spF (goS s 0 ps)).count (x+1)+(Jm (thF ps)).count x=(Jm (thF (goS s 0 ps))).count (x+1)+(spF ps).count x:=by
 have w0:Wide 0 (byF (-1) ps):=by
  have z:Wide (1+-1) (byF (-1) ps):=(JT g).bys (k:=-1)
  rwa [show(1:Int)+-1=0 by decide] at z
 have e:byF (-1) (goS s 0 ps)=mvP (-1) (goS (s-1) 0 (byF (-1) ps)):=by rw[<- Vf,<- Vf];exact JiR s ps 0 0 g (QE _) (by omega)
 have sb:∀q:List Pr,spF q=Jm (byF (-1) q):=fun q=>by
  have z:=Jkm (-1) q
  rwa [show(-1:Int)+1=0 by omega,Vg] at z
 have cm:∀l:List Int,(l.map (· - -1)).count (x+1)=l.count x:=fun l=>by
  induction l with
  | nil=>rfl
  | cons y l ih =>
   rw[Qg,Gw,Gw,ih];congr 1
   by_cases h:y=x
   ·subst h;simp
   ·rw[if_neg (by simpa using h),if_neg (by simp;omega)]
 have k:=(Jey (s-1) x (by omega) (byF (-1) ps) w0).2;rw[sb,e,Jgb,cm,JkB hs g,Jgb,cm,sb ps];exact k
theorem JeJ:∀{a b:List Pr},(a.map (·.1)).Pairwise (·<·)->(b.map (·.1)).Pairwise (·<·)->(∀p∈a,1<=p.2)->(∀p∈b,1<=p.2)->(∀x,lk x a=lk x b)->a=b
 | [],[],_,_,_,_,_=>rfl
 | [],q::b,_,_,_,h,e=>by
  have:=e q.1;rw[lk,lk,if_pos rfl] at this
  have:=h q Qd;omega
 | p::a,[],_,_,h,_,e=>by
  have:=e p.1;rw[lk,lk,if_pos rfl] at this
  have:=h p Qd;omega
 | p::a,q::b,ha,hb,h1,h2,e=>by
  rw[Qg,Qv] at ha hb
  have out:∀{l:List Pr} {x:Int},(∀y∈l.map (·.1),x<y)->lk x l=0:=fun {l x} h=>by
   induction l with
   | nil=>rfl
   | cons r l ih=>rw[lk,if_neg fun z=>by have:=h r.1 (by simp);omega];exact ih fun y hy=>h y (by rw[Qg];exact Qc _ hy)
  have hp:=h1 p Qd
  have hq:=h2 q Qd
  have ek:p.1=q.1:=by
   rcases Int.lt_trichotomy p.1 q.1 with z|z|z
   ·have:=e p.1;rw[lk,if_pos rfl,lk,if_neg (by omega),out fun y hy=>by have:=hb.1 y hy;omega] at this;omega
   ·exact z
   ·have:=e q.1;rw[lk,if_neg (by omega),lk,if_pos rfl,out fun y hy=>by have:=ha.1 y hy;omega] at this;omega
  have ev:p.2=q.2:=by have:=e p.1;rw[lk,if_pos rfl,lk,if_pos ek.symm] at this;exact this
  have:p=q:=Lm ek ev;subst this;rw[JeJ ha.2 hb.2 (fun r hr=>h1 r (Qc _ hr)) (fun r hr=>h2 r (Qc _ hr)) fun x=>?_]
  have:=e x;rw[lk,lk] at this
  by_cases c:p.1=x
  ·subst c;rw[out ha.1,out hb.1]
  ·rwa [if_neg c,if_neg c] at this
theorem Jf6:∀{a:List Pr} {x:Int},x∉a.map (·.1)->lk x a=0
 | [],_,_=>rfl
 | p::r,x,h=>by rw[lk,if_neg fun z=>h (by rw[<- z];simp)];exact Jf6 fun m=>h (by rw[Qg];exact Qc _ m)
theorem Jf5(hn:(a.map (·.1)).Nodup)(h:∀p∈a,1<=p.2)(x:Int):lk x a=((Yc a).count x:Int):=by
 rw[ZQ,Jge (fun p=>((p.2.toNat:Nat):Int)) hn];split
 ·next m=>obtain⟨p,hp,e⟩:=QC.mp m;subst e;rw[JeL hn hp];have:=h p hp;dsimp only;omega
 ·next m=>exact Jf6 m
theorem Zf(l:List Tr):(YI l).map (·.1)=l.map (·.2.1):=by unfold YI;rw[Qt];rfl
theorem JeK(g:Good q)(k x:Int):lk x (YI (JW k q))+((Jm (thF q)).count x:Int)=((spF q).count x:Int):=by
 have pw:=V6 g k;rw[Jf5 (by rw[Zf];exact pw.imp fun {a b} h=>by omega) fun p hp=>by obtain⟨u,hu,e⟩:=QC.mp hp;rw[<- e];exact Vi hu]
 have:=((JH (Jm (thF q)++Yc (YI (JW k q)))).count_eq x)
 rw[Ja9 g k,Mc] at this;omega
theorem JoG(hs:1<=s)(g:Good ps)(k:Int):JW k (goS s 0 ps)=(JW k ps).map fun t=>(t.1,t.2.1+1,t.2.2):=by
 have g1:=(V3 (s:=s) ps 0 g (QE _) (by omega)).1
 have pr:YI (JW k (goS s 0 ps))=(YI (JW k ps)).map fun p=>(p.1+1,p.2):=by
  have pw:=V6 g k
  have pk:(((YI (JW k ps)).map fun p=>(p.1+1,p.2)).map (·.1))=((JW k ps).map (·.2.1)).map (·+1):=by rw[<- Zf,Qt,Qt];rfl
  refine JeJ (by rw[Zf];exact V6 g1 k) (by
   rw[pk,Mb];exact pw.imp fun {a b} h=>by omega) (fun p hp=>by
   obtain⟨u,hu,e⟩:=QC.mp hp;rw[<- e];exact Vi hu) (fun p hp=>by
   obtain⟨q,hq,e⟩:=QC.mp hp;obtain⟨u,hu,e'⟩:=QC.mp hq;rw[<- e,<- e'];exact Vi hu) fun x=>?_
  have sh:∀a:List Pr,lk x (a.map fun p=>(p.1+1,p.2))=lk (x-1) a:=fun a=>by
   induction a with
   | nil=>rfl
   | cons p r ih =>
    rw[Qg,lk,lk,ih];dsimp only
    by_cases c:p.1+1=x
    ·rw[if_pos c,if_pos (by omega)]
    ·rw[if_neg c,if_neg (by omega)]
  rw[sh];have e1:=JeK g1 k x;have e2:=JeK g k (x-1);have e3:=JrM hs g (x-1);rw[show x-1+1=x by omega] at e3;omega
 have back:∀l:List Tr,(∀t∈l,t.1=k)->l=(YI l).map fun p=>(k,p.1,p.2):=fun l h=>by
  unfold YI;rw[Qt];refine(LG l).symm.trans (QD fun t ht=>?_);show t=(k,t.2.1,t.2.2)
  rw[<- h t ht]
 rw[back (JW k (goS s 0 ps)) fun t ht=>YY ht,pr,Qt]
 conv=>rhs;rw[back (JW k ps) fun t ht=>YY ht]
 rw[Qt];rfl
theorem Jkz:∀(n:Nat) (k s:Int) {ps:List Pr},Good ps->0<=s->tbN n k (goS s 0 ps)=(tbN n k ps).map fun t=>(t.1,t.2.1+min (t.1-k) s,t.2.2)
 | 0,_,_,_,_,_=>rfl
 | n+1,k,s,ps,g,hs=>by
  by_cases h0:s=0
  ·subst h0;rw[W7 ps ((JT g).mono (by omega))];refine(LG _).symm.trans (QD fun t ht=>?_);have:=Zh _ _ _ t ht;show t=(t.1,t.2.1+min (t.1-k) 0,t.2.2)
   rw[show min (t.1-k) 0=0 by omega,Ma]
  ·have h1:1<=s:=by omega
   rw[tbN,tbN,QL,JoG h1 g,JkB h1 g,Jnv,Jkz n (k+1) (s-1) (J0 g) (by omega),Qt];congr 1
   ·refine QD fun t ht=>?_
    rw[YY ht,show min (k+1-k) s=1 by omega]
   ·refine QD fun t ht=>?_
    have:=Zh _ _ _ t ht
    show(t.1,t.2.1+min (t.1-(k+1)) (s-1) - -1,t.2.2)=(t.1,t.2.1+min (t.1-k) s,t.2.2)
    rw[show t.2.1+min (t.1-(k+1)) (s-1) - -1=t.2.1+min (t.1-k) s by omega]
theorem JjJ(k:Int)(l:List Tr)(h:∀t∈l,t.1=k):l=(YI l).map fun p=>(k,p.1,p.2):=by
 unfold YI;rw[Qt];refine(LG l).symm.trans (QD fun t ht=>?_);show t=(k,t.2.1,t.2.2)
 rw[<- h t ht]
theorem JbM(g:Good ps)(hp:∀p∈prs,1<=p.2)(pw:(prs.map (·.1)).Pairwise (·<·))(k:Int):Good (putF ps prs)/\thF (putF ps prs)=ps/\JW k (putF ps prs)=prs.map fun p=>(k,p.1,p.2):=by
 have hs:(Yd (Jm ps++Yc prs)).Pairwise (·<=·):=UK _
 have he:∀p∈ps,p.1+p.2∈Yd (Jm ps++Yc prs):=fun p h=>(JH _).mem_iff.mpr (Gd.mpr (.inl (QC.mpr ⟨p,h,rfl⟩)))
 obtain⟨g1,th⟩:=JkD g hs he;have g1:Good (putF ps prs):=g1;have th:thF (putF ps prs)=ps:=th;refine⟨g1,th,?_⟩;rw[JjJ k (JW k (putF ps prs)) fun t ht=>YY ht];refine congrArg (Lr _) (JeJ (by rw[Zf];exact V6 g1 k) pw (fun p hp=>by obtain⟨u,hu,e⟩:=QC.mp hp;rw[<- e];exact Vi hu) hp fun x=>?_)
 have e1:=JeK g1 k x
 have e2:spF (putF ps prs)=Yd (Jm ps++Yc prs):=JrL _ _;rw[th,e2,(JH _).count_eq x,Mc] at e1
 have e3:=Jf5 (pw.imp fun {a b} h=>by omega) hp (x:=x);omega
theorem JnO(g:Good r)(d:Nat):thN d (byF (d:Int) r)=r:=by have w:=(JT g).bys (k:=(d:Int));rw[Wl w (by omega) (by omega),Jcy,show -(d:Int)+(d:Int)=0 by omega,Vg]
theorem JrP(g:Good r)(d m:Nat)(k:Int):tbN (d+m) k (byF (d:Int) r)=tbN m (k+(d:Int)) r:=by have w:=(JT g).bys (k:=(d:Int));rw[JgI w (by omega) d m k (by omega),JnO g d]
noncomputable def GpR:Int->List Gp->Prop
 | _,[]=>True
 | k,g::gs=>k<g.1/\g.2≠[]/\(∀p∈g.2,1<=p.2)/\(g.2.map (·.1)).Pairwise (·<·)/\GpR g.1 gs
noncomputable def flG(gs:List Gp):List Tr:=gs.flatMap fun g=>g.2.map fun p=>(g.1,p.1,p.2)
theorem UH:∀(gs:List Gp) (k:Int),GpR k gs->Good (Yp k gs)
 | [],_,_=>Good.nil
 | g::gs,k,h=>by obtain⟨h1,h2,h3,h4,h5⟩:=h;have a:=(JbM (UH gs g.1 h5) h3 h4 0).1;exact((JT a).bys (k:=g.1-k-1)).good (by omega)
theorem JgH:∀(gs:List Gp) (k:Int) (N:Nat),GpR k gs->thN N (Yp k gs)=[]->tbN N k (Yp k gs)=flG gs
 | [],k,N,_,_=>WI N k
 | g::gs,k,N,h,hN=>by
  have gk:=UH (g::gs) k h;obtain⟨h1,h2,h3,h4,h5⟩:=h
  have gr:=UH gs g.1 h5;obtain⟨a1,a2,a3⟩:=JbM gr h3 h4 g.1;obtain⟨d,hd⟩:∃d:Nat,(d:Int)=g.1-k-1:=⟨(g.1-k-1).toNat,by omega⟩
  have er:Yp k (g::gs)=byF (d:Int) (putF (Yp g.1 gs) g.2):=by rw[Yp,hd]
  have ne:putF (Yp g.1 gs) g.2≠[]:=fun z=>by rw[z] at a3;have:JW g.1 []=[]:=rfl;rw[this] at a3;exact h2 (List.map_eq_nil_iff.mp a3.symm)
  have neB:byF (d:Int) (putF (Yp g.1 gs) g.2)≠[]:=fun z=>ne (Qy (by rw[<- Us (d:Int),z];rfl))
  rw[er] at hN ⊢
  have hlt:d<N:=by
   rcases LF d N with z|z
   ·exact z
   ·exact absurd hN (JkC ((JT a1).bys (k:=(d:Int))) (by omega) neB N (by omega))
  obtain⟨m,rfl⟩:∃m,N=d+(m+1):=⟨N-d-1,by omega⟩
  rw[Zi,JnO a1 d] at hN;have hN':thN m (Yp g.1 gs)=[]:=by rw[<- a2];exact hN
  rw[JrP a1 d (m+1) k,tbN,a2,show k+(d:Int)+1=g.1 by omega,a3,JgH gs g.1 m h5 hN'];rfl
theorem JfS:∀(gs:List Gp) (t:Tr),(gs.map (·.1)).Pairwise (·<·)->(∀g∈gs,g.1<=t.1)->flG (Yu gs t)=flG gs++[t]
 | [],t,_,_=>rfl
 | g::gs,t,hp,h=>by
  rw[Qg,Qv] at hp;rw[Yu]
  by_cases c:g.1=t.1
  ·rw[if_pos c]
   have e:gs=[]:=by
    cases gs with
    | nil=>rfl
    | cons x xs =>
     have h1:=hp.1 x.1 (QC.mpr ⟨x,Qd,rfl⟩)
     have h2:=h x (Qc _ Qd);omega
   subst e;unfold flG;rw[Gi,Gi,QL,List.flatMap_nil,Ki,Ki,c];rfl
  ·rw[if_neg c];unfold flG;rw[Gi,Gi,GF];exact congrArg _ (JfS gs t hp.2 fun x hx=>h x (Qc _ hx))
theorem Jh4:∀(gs:List Gp) (k:Int) (t:Tr),GpR k gs->k<t.1->1<=t.2.2->(∀g∈gs,g.1<=t.1/\(g.1=t.1->∀p∈g.2,p.1<t.2.1))->GpR k (Yu gs t)
 | [],k,t,_,h1,h2,_=>by rw[Yu];exact⟨h1,by simp,fun p hp=>by rw[QJ.mp hp];exact h2,by simp,trivial⟩
 | g::gs,k,t,h,h1,h2,h3=>by
  obtain⟨a1,a2,a3,a4,a5⟩:=h;obtain⟨b1,b2⟩:=h3 g Qd;rw[Yu]
  by_cases c:g.1=t.1
  ·rw[if_pos c];refine⟨a1,by simp,fun p hp=>?_,?_,a5⟩
   ·rcases Gd.mp hp with z|z
    ·exact a3 p z
    ·rw[QJ.mp z];exact h2
   ·dsimp only;rw[QL,Kf];refine⟨a4,by simp,fun x hx y hy=>?_⟩;obtain⟨p,hp,rfl⟩:=QC.mp hx;simp at hy;subst hy;exact b2 c p hp
  ·rw[if_neg c];exact⟨a1,a2,a3,a4,Jh4 gs g.1 t a5 (by omega) h2 fun x hx=>h3 x (Qc _ hx)⟩
theorem Jcn:∀(gs:List Gp) (t:Tr) (g:Gp),g∈Yu gs t->(∃x∈gs,x.1=g.1/\∀p∈g.2,p∈x.2\/(g.1=t.1/\p.1=t.2.1))\/(g.1=t.1/\∀p∈g.2,p.1=t.2.1)
 | [],t,g,h=>by rw[Yu,QJ] at h;subst h;exact .inr ⟨rfl,fun p hp=>by rw[QJ.mp hp]⟩
 | x::gs,t,g,h=>by
  rw[Yu] at h
  by_cases c:x.1=t.1
  ·rw[if_pos c] at h;rcases Qh.mp h with z|z
   ·subst z;refine .inl ⟨x,Qd,rfl,fun p hp=>?_⟩;rcases Gd.mp hp with y|y
    ·exact .inl y
    ·exact .inr ⟨c,by rw[QJ.mp y]⟩
   ·exact .inl ⟨g,Qc _ z,rfl,fun p hp=>.inl hp⟩
  ·rw[if_neg c] at h;rcases Qh.mp h with z|z
   ·subst z;exact .inl ⟨g,Qd,rfl,fun p hp=>.inl hp⟩
   ·rcases Jcn gs t g z with ⟨y,hy,r⟩|r
    ·exact .inl ⟨y,Qc _ hy,r⟩
    ·exact .inr r
theorem GpR.keys:∀{gs:List Gp} {k:Int},GpR k gs->(gs.map (·.1)).Pairwise (·<·)/\∀g∈gs,k<g.1
 | [],_,_=>⟨List.Pairwise.nil,fun g h=>(QF h).elim⟩
 | g::gs,k,h=>by
  obtain⟨a1,_,_,_,a5⟩:=h;obtain⟨b1,b2⟩:=GpR.keys a5;refine⟨Qv.mpr ⟨fun x hx=>?_,b1⟩,fun x hx=>?_⟩
  ·obtain⟨y,hy,rfl⟩:=QC.mp hx;exact b2 y hy
  ·rcases Qh.mp hx with z|z
   ·rw[z];exact a1
   ·have:=b2 x z;omega
theorem JiM:∀(tb:List Tr) (gs:List Gp) (a:Option Pr),Y0 a tb->GpR 0 gs->(∀g∈gs,∃b,a=some b/\g.1<=b.1/\(g.1=b.1->∀p∈g.2,p.1<=b.2))->GpR 0 (tb.foldl Yu gs)/\flG (tb.foldl Yu gs)=flG gs++tb
 | [],gs,_,_,h,_=>⟨h,by simp⟩
 | t::tb,gs,a,ha,h,hb=>by
  obtain⟨t1,t2,t3,t4⟩:=ha
  have old:∀g∈gs,g.1<=t.1/\(g.1=t.1->∀p∈g.2,p.1<t.2.1):=fun g hg=>by obtain⟨b,e,l1,l2⟩:=hb g hg;have:=t3 b e;refine⟨by omega,fun z p hp=>?_⟩;have:=l2 (by omega) p hp;omega
  have n1:=Jh4 gs 0 t h (by omega) t2 old
  have n2:=JfS gs t h.keys.1 fun g hg=>(old g hg).1
  obtain⟨r1,r2⟩:=JiM tb (Yu gs t) _ t4 n1 fun g hg=>⟨_,rfl,by
   rcases Jcn gs t g hg with ⟨x,hx,e,q⟩|⟨e,q⟩
   ·have o:=old x hx;refine⟨by dsimp only;omega,fun z p hp=>?_⟩;rcases q p hp with y|y
    ·have:=o.2 (e.trans z) p y;dsimp only;omega
    ·dsimp only;omega
   ·exact⟨by dsimp only;omega,fun z p hp=>by have:=q p hp;dsimp only;omega⟩⟩
  rw[QS];refine⟨r1,?_⟩;rw[r2,n2,GF];rfl
theorem JqJ(h:Y0 none tb):GpR 0 (Yf tb)/\flG (Yf tb)=tb:=JiM tb [] none h trivial fun g hg=>(QF hg).elim
theorem Jng(ps:List Pr):∀(sp:List Int) (i:Nat) (c:Int),(edF ps i c sp).length=sp.length
 | [],_,_=>rfl
 | s::r,i,c=>by rw[edF,Qq,Jng ps r,Qq]
theorem JbO:∀(prs:List Pr),(∀p∈prs,1<=p.2)->((Yc prs).length:Int)=(prs.map (·.2)).sum
 | [],_=>rfl
 | p::r,h=>by
  have ih:=JbO r fun x hx=>h x (Qc _ hx)
  have:=h p Qd;unfold Yc at *;rw[Gi,Qx,GW,Qg,Qz,<- ih];omega
theorem JjO(ps prs:List Pr)(h:∀p∈prs,1<=p.2):((putF ps prs).length:Int)=(ps.length:Int)+(prs.map (·.2)).sum:=by unfold putF;rw[Jng,(JH _).length_eq,Qx,<- JbO prs h];unfold Jm;rw[Qk];omega
theorem Jdh(a b:List Tr):JJ (a++b)=JJ a+JJ b:=by unfold JJ;rw[QL,Mp]
theorem Jdi(k:Int)(prs:List Pr):JJ (prs.map fun p=>(k,p.1,p.2))=(prs.map (·.2)).sum:=by unfold JJ;rw[Qt];rfl
theorem Jaa:∀(gs:List Gp) (k:Int),GpR k gs->((Yp k gs).length:Int)=JJ (flG gs)
 | [],_,_=>rfl
 | g::gs,k,h=>by obtain⟨h1,h2,h3,h4,h5⟩:=h;rw[Yp,Us,JjO _ _ h3,Jaa gs g.1 h5];unfold flG;rw[Gi,Jdh,Jdi];omega
theorem Jjs:∀(gs:List Gp) (k:Int),GpR k gs->JJ (flG gs)<=30->OkG k gs
 | [],_,_,_=>trivial
 | g::gs,k,h,hs=>by
  have h':=h;obtain⟨h1,h2,h3,h4,h5⟩:=h
  have gr:=UH gs g.1 h5
  have a:=(JbM gr h3 h4 0).1
  have l:=Jaa gs g.1 h5
  have e:JJ (flG (g::gs))=(g.2.map (·.2)).sum+JJ (flG gs):=by unfold flG;rw[Gi,Jdh,Jdi]
  have pl:=JjO (Yp g.1 gs) g.2 h3
  have m0:=JbO g.2 h3;exact⟨h1,h3,gr,by omega,a,by omega,Jjs gs g.1 h5 (by omega)⟩
theorem UI(h:Y0 none tb)(hs:JJ tb<=30):OkG 0 (Yf tb)/\Good (Yp 0 (Yf tb))/\((Yp 0 (Yf tb)).length:Int)=JJ tb/\∀N,thN N (Yp 0 (Yf tb))=[]->tbN N 0 (Yp 0 (Yf tb))=tb:=by obtain⟨r,e⟩:=JqJ h;refine⟨Jjs _ 0 r (by rw[e];exact hs),UH _ 0 r,by rw[Jaa _ 0 r,e],fun N hN=>?_⟩;rw[JgH _ 0 N r hN,e]
noncomputable def Y5:Option Int->D
 | none=>.non
 | some s=>.int s
noncomputable def OkS(seats:Option Int):Prop:=∀s,seats=some s->1<=s
noncomputable def Sts(seats:Option Int)(s m:Int):Prop:=seats=some s\/(seats=none/\m<=s)
theorem JmW(a g:Int):a-min a g=max 0 (a-g):=by
 rcases Lk a g with h|h
 ·rw[G2 h,LW (by omega),Int.sub_self]
 ·rw[Gv h,Kr (by omega)]
theorem JiU(s:Int):∀(ps:List Pr) (ins:Int),Good ps->0<=ins->ins<=s->((goS s ins ps).map (·.2)).sum=(if ps=[] then 0 else ins)+(ps.map (·.2)).sum
 | [],_,_,_,_=>rfl
 | [p],ins,g,h0,h1=>by simp[goS];omega (config:={})
 | p::q::r,ins,g,h0,h1=>by
  have hp:=g.one 0 p rfl
  have hg:=g.gap 0 p q rfl rfl
  have t2:=Lc p.2 (s-ins)
  have ih:=JiU s (q::r) (max 0 (ins+min p.2 (s-ins)-(q.1-p.1-p.2))) (Good.cons' g) (Mw _ _) (R4.mpr ⟨by omega (config:={}),by omega (config:={})⟩);rw[if_neg (by simp)] at ih
  have e0:((p::q::r).map (·.2)).sum=p.2+((q::r).map (·.2)).sum:=by rw[Qg,Qz]
  have sm:=JmW (ins+min p.2 (s-ins)) (q.1-p.1-p.2);rw[JX,Qg,Qz,ih,e0,if_neg (by simp),<- sm];dsimp only
  generalize min (ins+min p.2 (s-ins)) (q.1-p.1-p.2)=w
  generalize min p.2 (s-ins)=t
  omega (config:={})
theorem JfX(g:Good ps)(hs:0<=s):((goS s 0 ps).map (·.2)).sum=(ps.map (·.2)).sum:=by rw[JiU s ps 0 g (QE _) hs];split <;> omega
theorem JkA:∀(n:Nat) (s:Int) {ps:List Pr},Good ps->0<=s->thN n ps=[]->thN n (goS s 0 ps)=[]
 | 0,s,ps,g,hs,h=>by have:ps=[]:=h;subst this;rfl
 | n+1,s,ps,g,hs,h=>by
  by_cases h0:s=0
  ·subst h0;rw[W7 ps ((JT g).mono (by omega))];exact h
  ·show thN n (thF (goS s 0 ps))=[]
   rw[JkB (by omega) g,Jjp,JkA n (s-1) (J0 g) (by omega) h];rfl
noncomputable def goI(s:Int):Nat->List Pr->List Pr
 | 0,ps=>ps
 | n+1,ps=>goI s n (goS s 0 ps)
theorem JfW(s:Int)(hs:1<=s)(N:Nat):∀(n:Nat) {ps:List Pr},Good ps->thN N ps=[]->Good (goI s n ps)/\(goI s n ps).length=ps.length/\((goI s n ps).map (·.2)).sum=(ps.map (·.2)).sum/\thN N (goI s n ps)=[] ∧
 tbN N 0 (goI s n ps)=(tbN N 0 ps).map fun t=>(t.1,t.2.1+(n:Int)*min t.1 s,t.2.2)
 | 0,ps,g,h=>⟨g,rfl,rfl,h,by
  refine(LG _).symm.trans (QD fun t _=>?_);show t=(t.1,t.2.1+((0:Nat):Int)*min t.1 s,t.2.2)
  simp⟩
 | n+1,ps,g,h=>by
  have g1:=(V3 (s:=s) ps 0 g (QE _) (by omega)).1;obtain⟨a,b,c,d,e⟩:=JfW s hs N n g1 (JkA N s g (by omega) h);refine⟨a,by show(goI s n (goS s 0 ps)).length=_;rw[b,JiS],by show((goI s n (goS s 0 ps)).map (·.2)).sum=_;rw[c,JfX g (by omega)],d,?_⟩
  show tbN N 0 (goI s n (goS s 0 ps))=_;rw[e,Jkz N 0 s g (by omega),Qt];refine QD fun t _=>?_
  show(t.1,t.2.1+min (t.1-0) s+(n:Int)*min t.1 s,t.2.2)=(t.1,t.2.1+((n+1:Nat):Int)*min t.1 s,t.2.2)
  rw[ME,Lq,Mm];congr 2;simp;omega
theorem JrQ(g:Good ps)(hN:thN N ps=[]):∀t∈tbN N 0 ps,t.1<=(ps.map (·.2)).sum:=by
 have bl:=Jal N 0 g hN
 have asc:=Vs N 0 ps none g (QE _) (fun b e=>by cases e)
 have an:=YU asc;rw[<- bl]
 clear bl
 revert an
 generalize tbN N 0 ps=l
 intro an
 have key:∀l:List Tr,(∀t∈l,1<=t.1/\1<=t.2.2)->0<=(l.map fun t=>(t.1-0)*t.2.2).sum/\∀t∈l,t.1<=(l.map fun t=>(t.1-0)*t.2.2).sum:=by
  intro l
  induction l with
  | nil=>exact fun _=>⟨QE _,fun _ h=>by cases h⟩
  | cons u l ih =>
   intro h;obtain⟨i1,i2⟩:=ih fun t ht=>h t (Qc _ ht)
   obtain⟨h1,h2⟩:=h u Qd
   have hm:u.1<=(u.1-0)*u.2.2:=by
    rw[ME];have:=Ka h2 (show 0<=u.1 by omega)
    rwa [Int.mul_one] at this
   rw[Qg,Qz];refine⟨by omega,fun t ht=>?_⟩;rcases Qh.mp ht with z|z
   ·rw[z];omega
   ·have:=i2 t z;omega
 exact(key l an).2
noncomputable def Jfc(seats:Option Int)(x:Int):Int:=match seats with
 | none=>x
 | some s=>min x s
theorem Jgt(h:Sts seats s x):Jfc seats x=min x s:=by
 rcases h with z|⟨z,y⟩
 ·rw[z];rfl
 ·rw[z];show x=_;omega
theorem JqU(seats:Option Int)(x:Int):YW [.sh (.int x),.sh (Y5 seats)]=some (.sh (.int (Jfc seats x))):=by
 unfold YW
 cases seats with
 | none=>simp only[Y5,Jfc];walk_at "ev"
 | some s=>simp only[Y5,Jfc];walk_at "ev"
theorem Jr7(seats:Option Int)(h:OkS seats):∃r,Yh [.sh (Y5 seats)]=some r:=by
 unfold Yh
 cases seats with
 | none=>simp only[Y5];walk_at "ev";exact⟨_,rfl⟩
 | some s=>have:=h s rfl;simp only[Y5];walk_at "ev";rw[decide_eq_false (show ¬s<1 by omega)];walk_at "ev";exact⟨_,rfl⟩
noncomputable def JoI(t:Int):List Pr->List Pr
 | []=>[]
 | h::l=>(h.1-t,h.2+t)::l
noncomputable def bkL(s:Int):List Pr->Int×List Pr
 | []=>(0,[])
 | [q]=>(min q.2 s,[(q.1,q.2-min q.2 s)])
 | q::q2::r =>
  ((bkL s (q2::r)).1-min (bkL s (q2::r)).1 (q2.1-q.1-q.2)+min q.2 (s-((bkL s (q2::r)).1-min (bkL s (q2::r)).1 (q2.1-q.1-q.2))),
    (q.1,q.2-min q.2 (s-((bkL s (q2::r)).1-min (bkL s (q2::r)).1 (q2.1-q.1-q.2))))::JoI (min (bkL s (q2::r)).1 (q2.1-q.1-q.2)) (bkL s (q2::r)).2)
noncomputable def bkS(s:Int)(ps:List Pr):List Pr:=JoI (bkL s ps).1 (bkL s ps).2
theorem Jfw(hs:1<=s):∀(r:List Pr) (q:Pr),Good (q::r)->∃(b x:Int) (tl:List Pr),bkL s (q::r)=(b,(q.1,q.2-x)::tl)/\1<=x/\x<=b/\b<=s/\x<=q.2/\(q.2=x\/b=s) ∧
 tl.length=r.length/\(∀t,1<=t->t<=b->Good ((q.1-t,q.2-x+t)::tl))/\∀t,0<=t->t<=b->goS s (b-t) ((q.1-t,q.2-x+t)::tl)=q::r
 | [],q,g=>by
  have hp:=g.one 0 q rfl;refine⟨min q.2 s,min q.2 s,[],rfl,by omega,by omega,by omega,by omega,by omega,rfl,fun t h1 h2=>Good.mk' (by dsimp only;omega) (fun q e=>by simp at e) Good.nil,fun t h0 h1=>?_⟩
  have e:min (q.2-min q.2 s+t) (s-(min q.2 s-t))=t:=by omega
  simp only[goS];rw[e,show q.1-t+t=q.1 by omega,show q.2-min q.2 s+t-t+(min q.2 s-t+t)=q.2 by omega]
 | q2::r,q,g=>by
  have hp:=g.one 0 q rfl
  have hg:=g.gap 0 q q2 rfl rfl;obtain⟨b2,x2,tl2,e,h1,h2,h3,h4,h5,h6,h7,h8⟩:=Jfw hs r q2 (Good.cons' g)
  obtain⟨d,hd,d1,d2,d3⟩:∃d,min b2 (q2.1-q.1-q.2)=d/\d<=b2/\1<=d/\((d=b2/\b2<=q2.1-q.1-q.2)\/(d=q2.1-q.1-q.2/\q2.1-q.1-q.2<=b2)):=by
   rcases Lk b2 (q2.1-q.1-q.2) with h|h
   ·exact⟨b2,G2 h,QE _,by omega,.inl ⟨rfl,h⟩⟩
   ·exact⟨_,Gv h,h,by omega,.inr ⟨rfl,h⟩⟩
  obtain⟨x,hx,x1,x3,x4⟩:∃x,min q.2 (s-(b2-d))=x/\1<=x/\x<=q.2/\b2-d+x<=s/\(q.2=x\/b2-d+x=s):=by
   rcases Lk q.2 (s-(b2-d)) with h|h
   ·exact⟨_,G2 h,hp,QE _,by omega,.inl rfl⟩
   ·exact⟨_,Gv h,by omega,h,by omega,.inr (by omega)⟩
  have x5:=x4.2;refine⟨b2-d+x,x,(q2.1-d,q2.2-x2+d)::tl2,?_,by omega,by omega,by omega,by omega,by omega,by simp[h6],fun t t1 t2=>Good.mk' (by dsimp only;omega) (fun q' e'=>?_) (h7 d (by omega) (by omega)),fun t t0 t1=>?_⟩
  ·rw[bkL,e];dsimp only;rw[hd,hx];rfl
  ·simp at e';rw[<- e'];dsimp only;omega
  ·rw[JX];dsimp only;have e1:min (q.2-x+t) (s-(b2-d+x-t))=t:=by omega
   rw[e1,show q.1-t+t=q.1 by omega,show b2-d+x-t+t-(q2.1-d-(q.1-t)-(q.2-x+t))=b2-(q2.1-q.1-q.2) by omega,show max 0 (b2-(q2.1-q.1-q.2))=b2-d by omega,h8 d (by omega) (by omega),
    show q.2-x+t-t+min (b2-d+x-t+t) (q2.1-d-(q.1-t)-(q.2-x+t))=q.2 by omega]
theorem JnV(hs:1<=s)(g:Good ps):Good (bkS s ps)/\(bkS s ps).length=ps.length/\goS s 0 (bkS s ps)=ps:=by
 cases ps with
 | nil=>exact⟨Good.nil,rfl,rfl⟩
 | cons q r=>obtain⟨b,x,tl,e,h1,h2,h3,h4,h5,h6,h7,h8⟩:=Jfw hs r q g;have:=h8 b (by omega) (QE _);rw[Int.sub_self] at this;unfold bkS;rw[e];exact⟨h7 b (by omega) (QE _),by simp[JoI,h6],this⟩
theorem goZ{s:Int}(hs:1<=s){N:Nat}{ps:List Pr}(g:Good ps)(hN:(ps.map (·.2)).sum<=(N:Int))(z:Int):∃qs,Good qs/\qs.length=ps.length/\(qs.map (·.2)).sum=(ps.map (·.2)).sum ∧
 tbN N 0 qs=(tbN N 0 ps).map fun t=>(t.1,t.2.1+z*min t.1 s,t.2.2):=by
 by_cases hz:0<=z
 ·obtain⟨n,rfl⟩:∃n:Nat,z=n:=⟨z.toNat,by omega⟩
  obtain⟨a,b,c,_,e⟩:=JfW s hs N n g (Yq N g hN);exact⟨_,a,b,c,e⟩
 ·obtain⟨n,rfl⟩:∃n:Nat,z=-(n:Int):=⟨(-z).toNat,by omega⟩
  clear hz
  induction n with
  | zero=>exact⟨ps,g,rfl,rfl,by refine(LG _).symm.trans (QD fun t _=>?_);show t=(t.1,t.2.1+-((0:Nat):Int)*min t.1 s,t.2.2);simp⟩
  | succ n ih =>
   obtain⟨qs,a,b,c,e⟩:=ih;obtain⟨a1,b1,e1⟩:=JnV hs a;have c1:((bkS s qs).map (·.2)).sum=(qs.map (·.2)).sum:=by rw[<- JfX a1 (show 0<=s by omega),e1]
   refine⟨bkS s qs,a1,b1.trans b,c1.trans c,?_⟩;have tg:=Jkz N 0 s a1 (by omega);rw[e1,e] at tg;have tg2:=congrArg (Lr fun t:Tr=>((t.1,t.2.1-min t.1 s,t.2.2):Tr)) tg;rw[Qt,Qt] at tg2;refine(Eq.trans ?_ tg2.symm).trans (QD fun t _=>?_)
   ·refine(LG _).symm.trans (QD fun t _=>?_);show t=(t.1,t.2.1+min (t.1-0) s-min t.1 s,t.2.2)
    rw[ME,show t.2.1+min t.1 s-min t.1 s=t.2.1 by omega]
   ·show(t.1,t.2.1+-(n:Int)*min t.1 s-min t.1 s,t.2.2)=(t.1,t.2.1+-((n+1:Nat):Int)*min t.1 s,t.2.2)
    congr 2;rw[Int.neg_mul,Int.neg_mul,Lq,Mm];simp;omega
theorem Jjj(tb:List Tr)(seats:Option Int)(s times:Int)(h:Y0 none tb)(hs:JJ tb<=30)(hl:tb.length<=30)(ok:OkS seats)(hm:∀t∈tb,Sts seats s t.1)(hs1:1<=s)(ht:-10 ^ 100<=times/\times<=10 ^ 100)(hb:∀t∈tb,1<=t.1/\t.1<=10 ^ 100) :
 Yi [.sh (.lst (tb.map trE)),.sh (Y5 seats),.sh (.int times)]=some (.own ((tb.map fun t=>((t.1,t.2.1+times*min t.1 s,t.2.2):Tr)).map trE)):=by
 obtain⟨r1,e1⟩:=Jr7 seats ok;obtain⟨r2,e2⟩:=JqQ tb h hs hl;unfold Yi;walk_at "ev";rw[e1];walk_at "ev";rw[e2];walk_at "ev";rw[JL (g:=fun t:Tr=>trE (t.1,t.2.1+times*min t.1 s,t.2.2))]
 ·walk_at "ev";rw[Qt];rfl
 ·intro t mt;have hst:=hm t mt;have hbt:=hb t mt;have hww:times.natAbs<=10 ^ 200/\(min t.1 s).natAbs<=10 ^ 200:=by omega (config:={})
  simp only[trE];walk_at "ev";rw[JqU];rw[Jgt hst];walk_at "ev"
noncomputable abbrev Dd:=Option Int×Int
noncomputable def dE(d:Dd):D:=.tup [Y5 d.1,.int d.2]
theorem JqM:Kd dE 2:=⟨fun d=>by obtain⟨a,b⟩:=d;cases a <;> rfl,fun d=>by obtain⟨a,b⟩:=d;cases a <;> simp[dE,Y5,D.py,D.pyL,Mz,LU],fun a b=>by obtain⟨a1,a2⟩:=a;obtain⟨b1,b2⟩:=b;cases a1 <;> cases b1 <;> simp[dE,Y5,D.py,D.pyL,LX,Ls]⟩
theorem JiE(a b:List Dd):eqA (.lst (a.map dE)) (.lst (b.map dE))=some (decide (a=b)):=(Ji8 JqM).eq (by decide) a b
noncomputable def tot:List Dd->Int->Int
 | [],_=>0
 | d::r,x=>d.2*Jfc d.1 x+tot r x
theorem JgL(x:Int):∀A B:List Dd,tot (A++B) x=tot A x+tot B x
 | [],B=>by simp[tot]
 | a::A,B=>by rw[KG,tot,tot,JgL x A B];omega
theorem JgN(x:Int):∀A:List Dd,tot A.reverse x=tot A x
 | []=>rfl
 | a::A=>by rw[KQ,JgL,JgN x A,tot,tot,tot];omega
noncomputable def OkD(d:Dd):Prop:=OkS d.1/\-10 ^ 100<=d.2/\d.2<=10 ^ 100
structure To (N:Nat) (f:Int->Int) (ps qs:List Pr):Prop where
 g:Good qs
 l:qs.length=ps.length
 s:(qs.map (·.2)).sum=(ps.map (·.2)).sum
 e:tbN N 0 qs=(tbN N 0 ps).map fun t=>(t.1,t.2.1+f t.1,t.2.2)
theorem To.comp(a:To N f ps qs)(b:To N h qs rs):To N (fun x=>f x+h x) ps rs :=
 ⟨b.g,b.l.trans a.l,b.s.trans a.s,by
  rw[b.e,a.e,Qt];refine QD fun t _=>?_
  show(t.1,t.2.1+f t.1+h t.1,t.2.2)=(t.1,t.2.1+(f t.1+h t.1),t.2.2)
  rw[M9]⟩
theorem To.refl(g:Good ps):To N (fun _=>0) ps ps:=⟨g,rfl,rfl,by
 refine(LG _).symm.trans (QD fun t _=>?_);show t=(t.1,t.2.1+0,t.2.2)
 rw[Ma]⟩
theorem To.congr(a:To N f ps qs)(e:∀x,f x=h x):To N h ps qs:=by have:f=h:=funext e;subst this;exact a
theorem Jju{N:Nat}{ps:List Pr}(g:Good ps)(h30:ps.length<=30)(hN:(ps.map (·.2)).sum<=(N:Int))(hb:(ps.map (·.2)).sum<=10 ^ 100)(d:Dd)(ok:OkD d):∃qs,To N (fun x=>d.2*Jfc d.1 x) ps qs ∧
 Yi [.sh (.lst ((tbN N 0 ps).map trE)),.sh (Y5 d.1),.sh (.int d.2)]=some (.own ((tbN N 0 qs).map trE)):=by
 obtain⟨seats,times⟩:=d;obtain⟨oks,t0,t1⟩:=ok;have pos:=Wi (Good.all g);have tN:=Yq N g hN
 obtain⟨s,hs1,hst⟩:∃s:Int,1<=s/\Sts seats s (ps.map (·.2)).sum:=by
  cases seats with
  | none=>exact⟨1+(ps.map (·.2)).sum,by omega,.inr ⟨rfl,by omega⟩⟩
  | some s=>exact⟨s,oks s rfl,.inl rfl⟩
 obtain⟨qs,q1,q2,q3,q4⟩:=goZ hs1 g hN times;have qN:=Yq N q1 (by rw[q3];exact hN);have tl:=JrQ g tN
 have hst':∀t∈tbN N 0 ps,Sts seats s t.1:=fun t ht=>by
  rcases hst with z|⟨z,y⟩
  ·exact .inl z
  ·exact .inr ⟨z,by have:=tl t ht;omega⟩
 have asc:=Vs N 0 ps none g (QE _) (fun b e=>by cases e)
 have ns:=VP N 0 g tN;obtain⟨gl,_⟩:=JbQ fun t ht=>(YU asc t ht).2
 refine⟨qs,⟨q1,q2,q3,?_⟩,?_⟩
 ·rw[q4];refine QD fun t ht=>?_
  show(t.1,t.2.1+times*min t.1 s,t.2.2)=(t.1,t.2.1+times*Jfc seats t.1,t.2.2)
  rw[Jgt (hst' t ht)]
 ·show Yi [_,.sh (Y5 seats),.sh (.int times)]=_;rw[Jjj (tbN N 0 ps) seats s times asc (by omega) (by omega) oks hst' hs1 ⟨t0,t1⟩ (fun t ht=>⟨(YU asc t ht).1,by have:=tl t ht;omega⟩),<- q4]
noncomputable abbrev dnP:Pt:=(.tp (.cons (.nm 3) (.cons (.nm 4) .nil)))
noncomputable abbrev dnB:Es:=(Jp 2 (eU 3 Yi (aC (Jb 2) (aC (Jb 3) (aC (Jb 4) a0)))))
theorem JaR(x y:Sl)(N:Nat):∀(ds:List Dd) {ps:List Pr} (j3 j4:Sl),Good ps->ps.length<=30->(ps.map (·.2)).sum<=(N:Int)->(ps.map (·.2)).sum<=10 ^ 100->(∀d∈ds,OkD d)->∃qs j3' j4',To N (tot ds) ps qs ∧
 Ye dnP dnB (ds.map dE) [x,y,.sh (.lst ((tbN N 0 ps).map trE)),j3,j4]=some (.nx [x,y,.sh (.lst ((tbN N 0 qs).map trE)),j3',j4'])
 | [],ps,j3,j4,g,_,_,_,_=>⟨ps,j3,j4,To.refl g,rfl⟩
 | d::ds,ps,j3,j4,g,h30,hN,hb,ok=>by
  obtain⟨qs,a,e1⟩:=Jju g h30 hN hb d (ok d Qd);obtain⟨rs,j3',j4',b,e2⟩:=JaR x y N ds (ps:=qs) (.sh (Y5 d.1)) (.sh (.int d.2)) a.g (by rw[a.l];exact h30) (by rw[a.s];exact hN) (by rw[a.s];exact hb) fun c hc=>ok c (Qc _ hc)
  refine⟨rs,j3',j4',(a.comp b).congr fun x=>rfl,?_⟩;rw[Qg,Ye];simp only[dE];walk_at "ev";rw[e1];walk_at "ev";exact e2
theorem JoL{N:Nat}{ps:List Pr}(g:Good ps)(h30:ps.length<=30)(hN:(ps.map (·.2)).sum<=(N:Int))(hb:(ps.map (·.2)).sum<=10 ^ 100)(ds:List Dd)(ok:∀d∈ds,OkD d):∃qs,To N (tot ds) ps qs/\UP [.sh (.row (ps.map prE)),.sh (.lst (ds.map dE))]=some (.sh (.row (qs.map prE))):=by
 have tN:=Yq N g hN;obtain⟨qs,j3,j4,a,e⟩:=JaR (.sh (.row (ps.map prE))) (.sh (.lst (ds.map dE))) N ds .no .no g h30 hN hb ok
 have qN:=Yq N a.g (by rw[a.s];exact hN)
 have asc':=Vs N 0 qs none a.g (QE _) (fun b e=>by cases e)
 have ns':=VP N 0 a.g qN
 have l30:qs.length<=30:=by rw[a.l];exact h30
 obtain⟨gl',_⟩:=JbQ fun t ht=>(YU asc' t ht).2
 obtain⟨rt,rk⟩:=Je2 qs.length N 0 (Qm _) a.g l30 qN;refine⟨qs,a,?_⟩;unfold UP;walk_at "ev";rw[Jga ps N g h30 tN];walk_at "ev";rw[e];walk_at "ev";rw[Jf9 (tbN N 0 qs) asc' (by omega) (by omega) rk,rt];walk_at "ev"
noncomputable def apT(tb:List Tr):List Pr:=tb.flatMap fun t=>QN t.2.2.toNat (t.1,t.2.1)
theorem Jh8:∀{r:List Tr} {b:Pr},Y0 (some b) r->∀u∈r,b.1<u.1\/(b.1=u.1/\b.2<u.2.1)
 | [],_,_,_,h=>by cases h
 | t::r,b,h,u,hu=>by
  obtain⟨h1,h2,h3,h4⟩:=h;have h5:=h3 b rfl;rcases Qh.mp hu with z|z
  ·subst z;exact h5
  ·have:=Jh8 h4 u z;dsimp only at this;omega
theorem Jh6{tb:List Tr}{x:Pr}(h:x∈apT tb):∃t∈tb,x=(t.1,t.2.1):=by obtain⟨t,ht,hx⟩:=List.mem_flatMap.mp h;exact⟨t,ht,(MR.mp hx).2⟩
theorem Jd5:∀(tb:List Tr),(∀t∈tb,1<=t.2.2)->((apT tb).length:Int)=JJ tb
 | [],_=>rfl
 | t::tb,h=>by
  have ih:=Jd5 tb fun u hu=>h u (Qc _ hu)
  have h1:=h t Qd;unfold apT JJ at ih ⊢;rw[Gi,Qx,GW,Qg,Qz,<- ih];omega
noncomputable def Jrc(q r:Pr):Prop:=q.1<r.1\/(q.1=r.1/\q.2<=r.2)
theorem Jh7:∀{tb:List Tr} {o:Option Pr},Y0 o tb->(apT tb).Pairwise Jrc
 | [],_,_=>List.Pairwise.nil
 | t::tb,o,h=>by unfold apT;rw[Gi];refine Kf.mpr ⟨List.pairwise_replicate.mpr (.inr (.inr ⟨rfl,QE _⟩)),Jh7 h.2.2.2,fun a ha b hb=>?_⟩;obtain⟨_,rfl⟩:=MR.mp ha;obtain⟨u,hu,rfl⟩:=Jh6 (tb:=tb) hb;have:=Jh8 h.2.2.2 u hu;simp only at this;show t.1<u.1\/(t.1=u.1/\t.2.1<=u.2.1);omega
theorem Jne(f:Int->Int):∀(tb:List Tr),apT (tb.map fun t=>(t.1,t.2.1+f t.1,t.2.2))=(apT tb).map fun q=>(q.1,q.2+f q.1)
 | []=>rfl
 | t::tb=>by have ih:=Jne f tb;unfold apT at ih ⊢;rw[Qg,Gi,Gi,ih,QL,MO]
theorem Jfr:∀(tb:List Tr) (L:List Pr),tb.foldl (fun L t=>L++QN t.2.2.toNat ((t.1,t.2.1):Pr)) L=L++apT tb
 | [],L=>by simp[apT]
 | t::tb,L=>by rw[QS,Jfr tb];unfold apT;rw[Gi,GF]
theorem Jf8(ps:List Pr)(N:Nat)(g:Good ps)(h:ps.length<=30)(hN:thN N ps=[]):J4 [.sh (.row (ps.map prE))]=some (.own ((apT (tbN N 0 ps)).map prE)):=by
 have asc:=Vs N 0 ps none g (QE _) (fun b e=>by cases e)
 have ns:=VP N 0 g hN
 have nm:∀t∈tbN N 0 ps,1<=t.2.2:=fun t ht=>(YU asc t ht).2
 unfold J4;walk_at "ev";rw[Jga ps N g h hN];walk_at "ev";rw[GM];refine Yk (fun(rest:List Tr) (L:List Pr) E=>∃j2 j3 j4,E=[.sh (.row (ps.map prE)),.own (L.map prE),j2,j3,j4]/\(L.length:Int)+JJ rest<=30/\∀t∈rest,1<=t.2.2) (fun L t=>L++QN t.2.2.toNat (t.1,t.2.1)) [] ⟨.no,.no,.no,rfl,by rw[ns];simp;omega,nm⟩ ?_ ?_
 ·rintro t rest L E ⟨j2,j3,j4,rfl,hz,hr⟩;have h1:=hr t Qd
  have hs:0<=JJ rest:=by have:=(JbQ (tb:=rest) fun u hu=>hr u (Qc _ hu)).1;omega
  have hz':(L.length:Int)+(t.2.2+JJ rest)<=30:=by
   have e:JJ (t::rest)=t.2.2+JJ rest:=by unfold JJ;rw[Qg,Qz]
   rw[<- e];exact hz
  simp only[trE];walk_at "ev";rw[JcP (d:=D.tup [.int t.1,.int t.2.1]) rfl (JeE ⟨by omega,by omega⟩) (by omega)];walk_at "ev";rw[GW,if_pos (by omega)];refine⟨.sh (.int t.1),.sh (.int t.2.1),.sh (.int t.2.2),?_,by rw[Qx,GW];omega,fun u hu=>hr u (Qc _ hu)⟩;rw[QL,MO];rfl
 ·rintro E' ⟨j2,j3,j4,rfl,_,_⟩;rw[Jfr,Kj];walk_at "ev"
theorem Jh5(g:Good ps)(hN:thN N ps=[]):(apT (tbN N 0 ps)).length=ps.length:=by
 have asc:=Vs N 0 ps none g (QE _) (fun b e=>by cases e)
 have l1:=Jd5 _ fun t ht=>(YU asc t ht).2
 have ns:=VP N 0 g hN;omega
noncomputable def grF:Int->Int->List Pr->List Pr
 | _,_,[]=>[]
 | a,c,(s,b)::r=>(if 0<(b-c) % (s-a) then [(a+(b-c) % (s-a),(b-c) / (s-a)+1)] else [])++(s,(b-c) / (s-a))::grF s b r
noncomputable def vaF:Int->List Pr->Int->Int
 | _,[],_=>0
 | a,(y,g)::r,x=>g*(min x y-min x a)+vaF y r x
noncomputable def VT:Int->List Pr->Prop
 | _,[]=>True
 | a,(s,_)::r=>a<s/\VT s r
theorem JiZ:∀(l:List Pr) (a c x:Int),VT a l->x<=a->vaF a (grF a c l) x=0
 | [],_,_,_,_,_=>rfl
 | (s,b)::r,a,c,x,h,hx=>by
  obtain⟨h1,h2⟩:=h;have ih:=JiZ r s b x h2 (by omega);have m0:=Mx (b-c) (b:=s-a) (by omega);rw[grF];split
  ·show((b-c) / (s-a)+1)*(min x (a+(b-c) % (s-a))-min x a)+(((b-c) / (s-a))*(min x s-min x (a+(b-c) % (s-a)))+vaF s (grF s b r) x)=0;rw[ih,show min x (a+(b-c) % (s-a))=x by omega,show min x a=x by omega,show min x s=x by omega];simp
  ·show((b-c) / (s-a))*(min x s-min x a)+vaF s (grF s b r) x=0;rw[ih,show min x a=x by omega,show min x s=x by omega];simp
theorem JiY(h:a<s)(hx:s<=x)(r:List Pr):vaF a (grF a c ((s,b)::r)) x=b-c+vaF s (grF s b r) x:=by
 have m0:=Mx (b-c) (b:=s-a) (by omega)
 have m1:=LY (b-c) (b:=s-a) (by omega)
 have dm:=Int.mul_ediv_add_emod (b-c) (s-a);rw[grF];split
 ·show((b-c) / (s-a)+1)*(min x (a+(b-c) % (s-a))-min x a)+(((b-c) / (s-a))*(min x s-min x (a+(b-c) % (s-a)))+vaF s (grF s b r) x)=_;rw[show min x (a+(b-c) % (s-a))=a+(b-c) % (s-a) by omega,show min x a=a by omega,show min x s=s by omega]
  have e1:((b-c) / (s-a)+1)*(a+(b-c) % (s-a)-a)+(b-c) / (s-a)*(s-(a+(b-c) % (s-a)))=(s-a)*((b-c) / (s-a))+(b-c) % (s-a):=by
   generalize (b-c) / (s-a)=g
   generalize (b-c) % (s-a)=o
   rw[show a+o-a=o by omega,Mm,Int.one_mul,Int.mul_sub,L3,Int.sub_mul,Rx s g,Rx a g];omega
  omega
 ·show((b-c) / (s-a))*(min x s-min x a)+vaF s (grF s b r) x=_;rw[show min x a=a by omega,show min x s=s by omega,Rx];omega
theorem Jd6:∀{l:List Pr} {a:Int},VT a l->∀p∈l,a<p.1
 | [],_,_,p,hp=>(QF hp).elim
 | (s,b)::r,a,h,p,hp=>by
  rcases Qh.mp hp with e|e
  ·rw[e];exact h.1
  ·have:=Jd6 h.2 p e
   have:=h.1;omega
theorem Jnp:∀(l:List Pr) (a c:Int),VT a l->∀p∈l,vaF a (grF a c l) p.1=p.2-c
 | [],_,_,_,p,hp=>(QF hp).elim
 | (s,b)::r,a,c,h,p,hp=>by
  obtain⟨h1,h2⟩:=h;rcases Qh.mp hp with e|e
  ·subst e;rw[JiY h1 (QE _),JiZ r s b s h2 (QE _)];simp
  ·have:=Jd6 h2 p e;rw[JiY h1 (by omega),Jnp r s b h2 p e];omega
noncomputable def goP:List Pr->List Dd
 | []=>[]
 | [(_,g)]=>[(none,g)]
 | (y,g)::(y',g')::r=>(some y,g-g')::goP ((y',g')::r)
noncomputable def JeN:Int->List Pr->Int
 | a,[]=>a
 | _,(y,_)::r=>JeN y r
theorem JiV:∀(r:List Pr) (y g x:Int),x<=JeN y r->tot (goP ((y,g)::r)) x=g*min x y+vaF y r x
 | [],y,g,x,h=>by
  have h':x<=y:=h
  show g*x+0=g*min x y+0;rw[show min x y=x by omega]
 | (y',g')::r,y,g,x,h=>by
  have ih:=JiV r y' g' x h;rw[goP,tot,ih]
  show(g-g')*min x y+(g'*min x y'+vaF y' r x)=g*min x y+(g'*(min x y'-min x y)+vaF y' r x)
  rw[Int.sub_mul,Int.mul_sub];omega
theorem Jjg:∀(l:List Pr) (a c:Int),VT a l->∀p∈l,p.1<=JeN a (grF a c l)
 | [],_,_,_,p,hp=>(QF hp).elim
 | (s,b)::r,a,c,h,p,hp=>by
  obtain⟨h1,h2⟩:=h
  have e:JeN a (grF a c ((s,b)::r))=JeN s (grF s b r):=by rw[grF];split <;> rfl
  rw[e];rcases Qh.mp hp with e|e
  ·subst e
   clear hp h1 e
   revert h2
   induction r generalizing s b with
   | nil=>intro _;exact QE _
   | cons q r ih =>
    intro h2;obtain⟨s',b'⟩:=q
    have e:JeN s (grF s b ((s',b')::r))=JeN s' (grF s' b' r):=by rw[grF];split <;> rfl
    rw[e];have:=ih s' b' h2.2;have:=h2.1;show s<=_;simp only at *;omega
  ·exact Jjg r s b h2 p e
theorem Jm4(l:List Pr)(h:VT 0 l):∀p∈l,tot (goP (grF 0 0 l)) p.1=p.2:=fun p hp=>by
 have a:=Jnp l 0 0 h p hp
 have b:=Jjg l 0 0 h p hp
 have c:=Jd6 h p hp
 revert a b
 cases e:grF 0 0 l with
 | nil=>intro a _;simp only[vaF] at a;show 0=p.2;omega
 | cons q r=>obtain⟨y,g⟩:=q;intro a b;rw[JiV r y g p.1 b];simp only[vaF] at a;rw[show min p.1 (0:Int)=0 by omega,ME] at a;omega
theorem JgM(x:Int):∀(l:List Dd),tot (l.filter fun d=>decide (d.2≠0)) x=tot l x
 | []=>rfl
 | d::l=>by
  have ih:=JgM x l
  by_cases c:d.2=0
  ·rw[Ky (by simp[c]),ih,tot,c];simp
  ·rw[Kz (by simp[c]),tot,tot,ih]
theorem JcI(l:List Pr):Ul (.tp (.cons (.nm 0) (.cons (.nm 1) .nil))) yes? (Jb 0) [.no,.no] (l.map prE)=some ((l.map (·.1)).map D.int):=by
 rw[Qt];refine JL fun p _=>?_
 simp only[prE];walk_at "ev";rfl
noncomputable def dkL(l:List Int):List Int:=l.foldl Jy []
theorem Jiv:∀(l ks:List Int),ks.Pairwise (·<·)->l.Pairwise (·<=·)->(∀k∈ks,∀x∈l,k<=x)->(l.foldl Jy ks).Pairwise (·<·)/\∀x,x∈l.foldl Jy ks↔x∈ks\/x∈l
 | [],ks,h,_,_=>⟨h,fun x=>by simp⟩
 | n::l,ks,h,hl,hk=>by
  obtain⟨l1,l2⟩:=Qv.mp hl
  have mem:∀x,x∈Jy ks n↔x∈ks\/x=n:=fun x=>by
   unfold Jy;split
   ·rename_i c;have:=hasK_mem.mp c;exact⟨.inl,fun h=>h.elim id fun e=>e▸this⟩
   ·simp
  have pw:(Jy ks n).Pairwise (·<·):=by
   unfold Jy;split
   ·exact h
   ·rename_i c;refine Kf.mpr ⟨h,by simp,fun a ha b hb=>?_⟩;rw[QJ] at hb;subst hb;have:=hk a ha b Qd;have:a≠b:=fun e=>c (hasK_mem.mpr (e▸ha))
    omega
  obtain⟨i1,i2⟩:=Jiv l (Jy ks n) pw l2 fun k hk' x hx=>by
   rcases(mem k).mp hk' with e|e
   ·exact hk k e x (Qc _ hx)
   ·rw[e];exact l1 x hx
  refine⟨i1,fun x=>?_⟩;rw[QS,i2,mem,Qh,or_assoc]
theorem JeM(f:Int->Int):∀(ks:List Int) (n:Int),look ks ((ks.map f).map D.int) n=if n∈ks then some (.int (f n)) else none
 | [],n=>rfl
 | k::ks,n=>by
  rw[Qg,Qg,look,JeM f ks n]
  by_cases c:k=n
  ·subst c;simp
  ·have c':¬n=k:=fun e=>c e.symm
   simp[c,c']
theorem JnB(f:Int->Int)(h:n∉ks):Jy ks n=ks++[n]/\putDs ks ((ks.map f).map D.int) n (.int (f n))=((ks++[n]).map f).map D.int:=by unfold Jy putDs;rw[if_neg fun z=>h (hasK_mem.mp z),if_neg fun z=>h (hasK_mem.mp z)];exact⟨rfl,by simp⟩
theorem Jnt(f:Int->Int):∀ks:List Int,JbI ks ((ks.map f).map D.int)=ks.map fun k=>prE (k,f k)
 | []=>rfl
 | k::ks=>by have ih:=Jnt f ks;rw[Qg,Qg,Qg,<- ih];rfl
noncomputable def zzE(f:Int->Int)(q:Pr):D:=.tup [prE q,prE (q.1,q.2+f q.1)]
theorem JkP(f:Int->Int):∀(L:List Pr),Ml L (L.map fun q=>((q.1,q.2+f q.1):Pr))=L.map fun q=>(q,((q.1,q.2+f q.1):Pr))
 | []=>rfl
 | q::L=>by rw[Qg,ML,JkP f L,Qg]
theorem JlO(ps qs:List Pr)(N:Nat)(f:Int->Int)(g:Good ps)(h30:ps.length<=30)(hN:(ps.map (·.2)).sum<=(N:Int))(a:To N f ps qs):UB [.sh (.row (ps.map prE)),.sh (.row (qs.map prE))]=some (.own ((dkL ((apT (tbN N 0 ps)).map (·.1))).map fun k=>prE (k,f k))):=by
 have tN:=Yq N g hN
 have qN:=Yq N a.g (by rw[a.s];exact hN)
 have m1:=Jf8 ps N g h30 tN
 have m2:=Jf8 qs N a.g (by rw[a.l];exact h30) qN;rw[a.e,Jne] at m2
 have al:=Jh5 g tN
 revert m1 m2 al
 generalize apT (tbN N 0 ps)=L
 intro m1 m2 al;have s2:(L.map fun q=>((q.1,q.2+f q.1):Pr)).map (·.1)=L.map (·.1):=by rw[Qt];rfl
 unfold UB;walk_at "ev";rw[m1];walk_at "ev";rw[m2];walk_at "ev";rw[JcI,JcI,s2];walk_at "ev";rw[Zj,JkP,Qt,GM];refine Yk (f:=zzE f) (fun(rest:List Pr) (ks:List Int) E=>∃j5 j6 j7,E=[.sh (.row (ps.map prE)),.sh (.row (qs.map prE)),.sh (.lst (L.map prE)),.sh (.lst ((L.map fun q=>((q.1,q.2+f q.1):Pr)).map prE)),.od ks ((ks.map f).map .int),j5,j6,j7]/\ks.length+rest.length<=30) (fun ks q=>Jy ks q.1) [] ⟨.no,.no,.no,rfl,by rw[al];simpa using h30⟩ ?_ ?_
 ·rintro q rest ks E ⟨j5,j6,j7,rfl,hz⟩;rw[Qq] at hz;simp only[zzE];walk_at "ev";rw[Wp,Wp];walk_at "ev";rw[Zx];walk_at "ev";rw[JeM];rw[show q.2+f q.1-q.2=f q.1 by omega]
  by_cases c:q.1∈ks
  ·rw[if_pos c];walk_at "ev";refine⟨.sh (prE q),.sh (prE (q.1,q.2+f q.1)),.sh (.int (f q.1)),?_,?_⟩
   ·have:Jy ks q.1=ks:=by unfold Jy;rw[if_pos (hasK_mem.mpr c)]
    rw[this]
   ·have:Jy ks q.1=ks:=by unfold Jy;rw[if_pos (hasK_mem.mpr c)]
    rw[this];omega
  ·obtain⟨p1,p2⟩:=JnB f c;rw[if_neg c];walk_at "ev";rw[p2];refine⟨.sh (prE q),.sh (prE (q.1,q.2+f q.1)),.sh (.int (f q.1)),?_,?_⟩
   ·rw[p1]
   ·rw[p1,Qx,GA];omega
 ·rintro E' ⟨j5,j6,j7,rfl,hz⟩;have e:L.foldl (fun ks q=>Jy ks q.1) []=dkL (L.map (·.1)):=by unfold dkL;rw[List.foldl_map]
  rw[e];walk_at "ev";rw[Jnt]
theorem Jiu(g d B:Int)(hd:0<d)(h:-B<=g/\g<=B):-B<=g / d/\g / d<=B:=by
 have hB:0<=B:=by omega
 constructor
 ·rw[Int.le_ediv_iff_mul_le hd]
  have:B<=B*d:=by have:=Ka (show(1:Int)<=d by omega) hB;omega
  rw[Int.neg_mul];omega
 ·have:g / d<B+1:=by rw[Int.ediv_lt_iff_lt_mul hd];have:=Ka (show(1:Int)<=d by omega) (show 0<=B+1 by omega);omega
  omega
noncomputable def grB(a c s b:Int):List Pr:=(if 0<(b-c) % (s-a) then [(a+(b-c) % (s-a),(b-c) / (s-a)+1)] else [])++[(s,(b-c) / (s-a))]
theorem JfY:∀(l P:List Pr) (a c:Int),∃a' c',l.foldl (fun(S:List Pr×Int×Int) p=>(S.1++grB S.2.1 S.2.2 p.1 p.2,p.1,p.2)) (P,a,c)=(P++grF a c l,a',c')
 | [],P,a,c=>⟨a,c,by simp[grF]⟩
 | (s,b)::r,P,a,c=>by obtain⟨a',c',e⟩:=JfY r (P++grB a c s b) s b;refine⟨a',c',?_⟩;rw[QS];show R0 _ (P++grB a c s b,s,b) r=_;rw[e,grF];unfold grB;simp
theorem Jhu(l:List Pr)(hl:l.length<=30)(h:VT 0 l)(hb:∀p∈l,p.1<=10 ^ 100/\-10 ^ 100<=p.2/\p.2<=10 ^ 100):Uc [.sh (.lst (l.map prE))]=some (.own ((grF 0 0 l).map prE)):=by
 have big:(10:Int) ^ 100<=((10 ^ 150:Nat):Int):=by decide +kernel
 have big2:4*(10:Nat) ^ 150<=10 ^ 200:=by decide +kernel
 unfold Uc;walk_at "ev";rw[GM];refine Yk (fun(rest:List Pr) (S:List Pr×Int×Int) E=>∃j3 j4 j5 j6 j7,E=[.sh (.lst (l.map prE)),.own (S.1.map prE),.sh (prE (S.2.1,S.2.2)),j3,j4,j5,j6,j7]/\S.1.length+2*rest.length<=100/\VT S.2.1 rest/\(0<=S.2.1/\S.2.1<=10 ^ 100/\-10 ^ 100<=S.2.2/\S.2.2<=10 ^ 100)/\∀p∈rest,p.1<=10 ^ 100/\-10 ^ 100<=p.2/\p.2<=10 ^ 100) (fun S p=>(S.1++grB S.2.1 S.2.2 p.1 p.2,p.1,p.2)) ([],0,0) ⟨.no,.no,.no,.no,.no,rfl,by simp;omega,h,by decide +kernel,hb⟩ ?_ ?_
 ·rintro⟨s,b⟩ rest ⟨P,a,c⟩ E ⟨j3,j4,j5,j6,j7,rfl,hz,hasc,⟨a0,a1,c0,c1⟩,hr⟩;obtain⟨h1,h2⟩:=hasc;obtain⟨b0,b1,b2⟩:=hr (s,b) Qd;simp only at h1 h2 a0 a1 c0 c1 b0 b1 b2 hz ⊢;rw[Qq] at hz;have d1:0<s-a/\(s-a).natAbs<=10 ^ 200:=⟨by omega,by omega⟩
  have q:=Jiu (b-c) (s-a) (2*10 ^ 100) (by omega) (by omega)
  have d2:((b-c) / (s-a)).natAbs<=10 ^ 200/\(s-a).natAbs<=10 ^ 200:=⟨by omega,d1.2⟩
  have em:b-c-(b-c) / (s-a)*(s-a)=(b-c) % (s-a):=by rw[Int.emod_def,Rx]
  simp only[prE];walk_at "ev";have z0:∀x y:D,atI [x,y] 0=some x:=fun _ _=>rfl
  have z1:∀x y:D,atI [x,y] 1=some y:=fun _ _=>rfl
  rw[z0];walk_at "ev";rw[z1];walk_at "ev";rw[z1];walk_at "ev";rw[em]
  by_cases k:0<(b-c) % (s-a)
  ·rw[decide_eq_true k];walk_at "ev";rw[z0];walk_at "ev";refine⟨.sh (.int s),.sh (.int b),.sh (.int (s-a)),.sh (.int ((b-c) / (s-a))),.sh (.int ((b-c) % (s-a))),?_,?_,h2,⟨by omega,by omega,by omega,by omega⟩,fun p hp=>hr p (Qc _ hp)⟩
   ·unfold grB;rw[if_pos k];simp only[QL,Qg,KN,GF,KG,Kj];rfl
   ·unfold grB;rw[if_pos k];simp;omega
  ·rw[decide_eq_false k];walk_at "ev";refine⟨.sh (.int s),.sh (.int b),.sh (.int (s-a)),.sh (.int ((b-c) / (s-a))),.sh (.int ((b-c) % (s-a))),?_,?_,h2,⟨by omega,by omega,by omega,by omega⟩,fun p hp=>hr p (Qc _ hp)⟩
   ·unfold grB;rw[if_neg k];simp only[QL,Qg,KN,GF,KG,Kj];rfl
   ·unfold grB;rw[if_neg k];simp;omega
 ·rintro E' ⟨j3,j4,j5,j6,j7,rfl,_⟩;obtain⟨a',c',e⟩:=JfY l [] 0 0;rw[e,Kj];walk_at "ev"
theorem Jk3{α:Type}(xs:List α):Zr xs (some (-1)) none=xs.drop (xs.length-1):=by unfold Zr;rw[HT.JdB];have e:HT.sIx xs.length 0 (some (-1))=(-1+(xs.length:Int)).toNat:=rfl;rw[e,show(-1+(xs.length:Int)).toNat=xs.length-1 by omega];exact List.take_of_length_le (by simp)
theorem JiW:∀P:List Pr,(Ml P (P.drop 1)).map (fun x=>((some x.1.1,x.1.2-x.2.2):Dd))++(P.drop (P.length-1)).map (fun p=>((none,p.2):Dd))=goP P
 | []=>rfl
 | [(y,g)]=>rfl
 | (y,g)::(y',g')::r=>by have ih:=JiW ((y',g')::r);rw[goP,<- ih];rfl
theorem JeA:∀(l:List Pr) (a c:Int),(grF a c l).length<=2*l.length
 | [],_,_=>Qm _
 | (s,b)::r,a,c=>by have:=JeA r s b;rw[grF];split <;> simp <;> omega
theorem JbA:∀P:List Pr,(goP P).length=P.length
 | []=>rfl
 | [_]=>rfl
 | (y,g)::(y',g')::r=>by rw[goP,Qq,JbA ((y',g')::r)];rfl
noncomputable def wyF(l:List Pr):List Dd:=(goP (grF 0 0 l)).filter fun d=>decide (d.2≠0)
theorem JoO(ps qs:List Pr)(l:List Pr)(hl:l.length<=30)(h:VT 0 l)(hb:∀p∈l,p.1<=10 ^ 100/\-10 ^ 100<=p.2/\p.2<=10 ^ 100)(hm:UB [.sh (.row (ps.map prE)),.sh (.row (qs.map prE))]=some (.own (l.map prE))):Um [.sh (.row (ps.map prE)),.sh (.row (qs.map prE))]=some (.own ((wyF l).map dE)):=by
 have gl:=JeA l 0 0
 have pl:=JbA (grF 0 0 l)
 have mg:=Jhu l hl h hb
 have gz:=JiW (grF 0 0 l);unfold wyF
 revert gl pl mg gz
 generalize grF 0 0 l=P
 intro gl pl mg gz;unfold Um;walk_at "ev";rw[hm];walk_at "ev";rw[mg];walk_at "ev";rw[JcE,<- RX,Zj];walk_at "ev";have hz:(Ml P (P.drop 1)).length<=16777216:=by rw[GD];omega
 rw[if_pos hz,JL (g:=fun x=>dE (some x.1.1,x.1.2-x.2.2))]
 ·walk_at "ev";rw[Jk3,Qk,<- RX];rw[JL (g:=fun p:Pr=>dE (none,p.2))]
  ·walk_at "ev"
   have ez:(Ml P (P.drop 1)).map (fun x=>dE (some x.1.1,x.1.2-x.2.2))++(P.drop (P.length-1)).map (fun p:Pr=>dE (none,p.2))=(goP P).map dE:=by rw[<- gz,QL,Qt,Qt];rfl
   have hd:(P.drop (P.length-1)).length<=16777216:=by rw[K2];omega
   rw[if_pos hd];walk_at "ev";have hs:(Ml P (P.drop 1)).length+(P.drop (P.length-1)).length<=16777216:=by rw[GD,K2,K2];omega
   rw[if_pos hs];walk_at "ev";rw[ez];rw[Jbt (k:=fun d:Dd=>decide (d.2≠0)) (g:=dE)]
   ·walk_at "ev"
   ·intro d _;obtain⟨o,v⟩:=d;have z1:∀x y:D,atI [x,y] 1=some y:=fun _ _=>rfl
    simp only[dE];walk_at "ev";rw[z1];walk_at "ev";simp
  ·intro p _;simp only[prE];walk_at "ev";rfl
 ·intro x _;walk_at "ev";rw[Zx,Wp,Wp];walk_at "ev";rfl
theorem JdJ{α β:Type}(f:α->β):∀(ks:List (Int×Int)) (ds:List α) (n:Int×Int) (v:α),setP ks (ds.map f) n (f v)=(setP ks ds n v).map f
 | [],_,_,_=>rfl
 | _::_,[],_,_=>rfl
 | k::ks,d::ds,n,v=>by
  simp only[setP,Qg,JdJ f ks ds n v]
  by_cases h:k=n
  ·rw[if_pos h,if_pos h]
  ·rw[if_neg h,if_neg h]
theorem JhG{α β:Type}(f:α->β)(ks:List (Int×Int))(ds:List α)(n:Int×Int)(v:α):putDP ks (ds.map f) n (f v)=(putDP ks ds n v).map f:=by
 unfold putDP
 by_cases h:ZD ks n=true
 ·rw[if_pos h,if_pos h,JdJ]
 ·rw[if_neg h,if_neg h,QL];rfl
theorem Wv{α β:Type}(f:α->β):∀(ks:List (Int×Int)) (ds:List α) (n:Int×Int),lookP ks (ds.map f) n=(lookP ks ds n).map f
 | [],_,_=>rfl
 | _::_,[],_=>rfl
 | k::ks,d::ds,n=>by
  simp only[lookP,Qg,Wv f ks ds n]
  by_cases h:k=n
  ·rw[if_pos h,if_pos h];rfl
  ·rw[if_neg h,if_neg h]
theorem VA{α:Type}(d0:α):∀(ks:List (Int×Int)) (vs:List α) (n:Int×Int),n∈ks->ks.length=vs.length->lookP ks vs n=some ((lookP ks vs n).getD d0)
 | [],_,_,h,_=>by cases h
 | _::_,[],_,_,h=>by cases h
 | k::ks,v::vs,n,h,hl=>by
  simp only[lookP]
  by_cases e:k=n
  ·rw[if_pos e];rfl
  ·rw[if_neg e];refine VA d0 ks vs n ?_ (by simpa using hl);rcases Qh.mp h with z|z
   ·exact absurd z.symm e
   ·exact z
theorem JjP(ks:List (Int×Int))(n:Int×Int):(Up ks n).length<=ks.length+1:=by unfold Up;split <;> simp
theorem Jft(f:Int×Int->Int):∀(l:List (Int×Int)) (a:Option Pr),l.Pairwise (fun a b=>Ug a b=true)->(∀p∈l,1<=p.1/\1<=f p)->(∀b,a=some b->∀p∈l,Ug b p=true)->Y0 a (l.map fun p=>(p.1,p.2,f p))
 | [],_,_,_,_=>trivial
 | p::l,a,h,hp,ha=>by
  have q:=Qv.mp h
  have p1:=hp p Qd;refine⟨p1.1,p1.2,fun b e=>(UZ b p).mp (ha b e p Qd),Jft f l _ q.2 (fun x hx=>hp x (Qc _ hx)) fun b e x hx=>?_⟩;cases e;exact q.1 x hx
theorem JhK(h:x∈Up ks n):x∈ks\/x=n:=by
 unfold Up at h
 by_cases c:ZD ks n=true
 ·rw[if_pos c] at h;exact .inl h
 ·rw[if_neg c] at h;rcases Gd.mp h with z|z
  ·exact .inl z
  ·exact .inr (QJ.mp z)
theorem JjQ(h:ks.Nodup):(Up ks n).Nodup:=by
 unfold Up
 by_cases c:ZD ks n=true
 ·rw[if_pos c];exact h
 ·rw[if_neg c];refine Lz.mpr ⟨h,by simp,fun a ha b hb e=>c ?_⟩;rw[QJ.mp hb] at e;unfold ZD;exact Kp.mpr ⟨a,ha,decide_eq_true e⟩
theorem JdK{α:Type}:∀{ks:List (Int×Int)} {ds:List α} {n:Int×Int} {v x:α},x∈setP ks ds n v->x∈ds\/x=v
 | [],_,_,_,_,h=>.inl h
 | _::_,[],_,_,_,h=>.inl h
 | k::ks,d::ds,n,v,x,h=>by
  simp only[setP] at h;rcases Qh.mp h with z|z
  ·by_cases c:k=n
   ·rw[if_pos c] at z;exact .inr z
   ·rw[if_neg c] at z;exact .inl (z▸Qd)
  ·exact(JdK z).imp (Qc _) id
theorem JhH{α:Type}{ds:List α}{v x:α}(h:x∈putDP ks ds n v):x∈ds\/x=v:=by
 unfold putDP at h
 by_cases c:ZD ks n=true
 ·rw[if_pos c] at h;exact JdK h
 ·rw[if_neg c] at h;rcases Gd.mp h with z|z
  ·exact .inl z
  ·exact .inr (QJ.mp z)
theorem Ww{α:Type}:∀{ks:List (Int×Int)} {ds:List α} {n:Int×Int} {x:α},lookP ks ds n=some x->x∈ds
 | [],_,_,_,h=>by cases h
 | _::_,[],_,_,h=>by cases h
 | k::ks,d::ds,n,x,h=>by
  simp only[lookP] at h
  by_cases c:k=n
  ·rw[if_pos c] at h;cases h;exact Qd
  ·rw[if_neg c] at h;exact Qc _ (Ww h)
theorem hasP_iff:ZD ks n=true↔n∈ks:=by unfold ZD;rw[Kp];exact⟨fun⟨x,h,e⟩=>of_decide_eq_true e▸h,fun h=>⟨n,h,decide_eq_true rfl⟩⟩
theorem Jf7{α:Type}:∀{ks:List (Int×Int)} (vs:List α) {n:Int×Int},n∉ks->lookP ks vs n=none
 | [],_,_,_=>rfl
 | _::_,[],_,_=>rfl
 | k::ks,v::vs,n,h=>by rw[lookP,if_neg (show ¬k=n from fun e=>h (e▸Qd))];exact Jf7 vs fun z=>h (Qc _ z)
theorem Jki{α:Type}(w:α):∀{ks:List (Int×Int)} (vs:List α) {n:Int×Int},n∉ks->setP ks vs n w=vs
 | [],_,_,_=>rfl
 | _::_,[],_,_=>rfl
 | k::ks,v::vs,n,h=>by rw[setP,if_neg (show ¬k=n from fun e=>h (e▸Qd)),Jki w vs fun z=>h (Qc _ z)]
theorem Jgs(w:Int):∀{ks:List (Int×Int)} {vs:List Int} {n:Int×Int},ks.Nodup->ks.length=vs.length->n∈ks->(setP ks vs n w).sum+(lookP ks vs n).getD 0=vs.sum+w
 | [],_,_,_,_,h=>(QF h).elim
 | _::_,[],_,_,h,_=>by cases h
 | k::ks,v::vs,n,nd,hl,h=>by
  obtain⟨n1,n2⟩:=QW.mp nd;rw[setP,lookP,Qz,Qz]
  by_cases c:k=n
  ·subst c;rw[if_pos rfl,if_pos rfl,Jki w vs n1];show w+vs.sum+v=_;omega
  ·rw[if_neg c,if_neg c];have ih:=Jgs w n2 (by simpa using hl) ((Qh.mp h).resolve_left fun e=>c e.symm);omega
theorem Jmh(w:Int)(nd:ks.Nodup)(hl:ks.length=vs.length):(putDP ks vs n ((lookP ks vs n).getD 0+w)).sum=vs.sum+w:=by
 unfold putDP
 by_cases c:n∈ks
 ·rw[if_pos (hasP_iff.mpr c)];have:=Jgs ((lookP ks vs n).getD 0+w) nd hl c;omega
 ·rw[if_neg fun z=>c (hasP_iff.mp z),Jf7 vs c];simp
theorem Jc2:∀{ks:List (Int×Int)} {vs:List Int},ks.Nodup->ks.length=vs.length->(ks.map fun p=>(lookP ks vs p).getD 0)=vs
 | [],[],_,_=>rfl
 | [],_::_,_,h=>by cases h
 | _::_,[],_,h=>by cases h
 | k::ks,v::vs,nd,hl=>by
  obtain⟨n1,n2⟩:=QW.mp nd;have ih:=Jc2 n2 (by simpa using hl);rw[Qg];congr 1
  ·rw[lookP,if_pos rfl];rfl
  ·refine Eq.trans (QD fun p hp=>?_) ih;rw[lookP,if_neg (show ¬k=p from fun e=>n1 (e▸hp))]
theorem JjF{α:Type}(f:α->Int){a b:List α}(h:a.Perm b):(a.map f).sum=(b.map f).sum:=by
 induction h with
 | nil=>rfl
 | cons x _ ih=>rw[Qg,Qg,Qz,Qz,ih]
 | swap x y l=>simp only[Qg,Qz];omega
 | trans _ _ h1 h2=>exact h1.trans h2
noncomputable def laW(ns:List Int)(span:Int)(i:Nat):Int:=1+cell ns (2+2*(i:Int)) / span % 2
noncomputable def laP(ns:List Int)(span:Int)(i:Nat):Int×Int:=(1+cell ns (2+2*(i:Int)) % span,cell ns (3+2*(i:Int)) % (4*span+1)-2*span)
noncomputable def laS(ns:List Int)(span:Int):Nat->List (Int×Int)×List Int
 | 0=>([],[])
 | i+1=>(Up (laS ns span i).1 (laP ns span i),putDP (laS ns span i).1 (laS ns span i).2 (laP ns span i) ((lookP (laS ns span i).1 (laS ns span i).2 (laP ns span i)).getD 0+laW ns span i))
noncomputable def laT(ns:List Int)(span:Int)(n:Nat):List Tr:=(Jaz (laS ns span n).1).map fun p=>(p.1,p.2,(lookP (laS ns span n).1 (laS ns span n).2 p).getD 0)
theorem JbK(ns:List Int)(hs:0<span):∀i,((laS ns span i).1.length=(laS ns span i).2.length/\(laS ns span i).1.length<=i)/\(laS ns span i).1.Nodup/\(laS ns span i).2.sum<=2*(i:Int)/\(∀p∈(laS ns span i).1,1<=p.1/\p.1<=span)/\∀v∈(laS ns span i).2,1<=v
 | 0=>⟨⟨rfl,Qm _⟩,RM,QE _,fun p h=>(QF h).elim,fun p h=>(QF h).elim⟩
 | i+1=>by
  obtain⟨⟨l1,l2⟩,h1,h2,h3,h4⟩:=JbK ns hs i;have:=JjP (laS ns span i).1 (laP ns span i);have w:1<=laW ns span i/\laW ns span i<=2:=by unfold laW;omega
  simp only[laS];refine⟨⟨Ja7 _ _ _ _ l1,by omega⟩,JjQ h1,?_,fun p h=>?_,fun v h=>?_⟩
  ·rw[Jmh _ h1 l1];omega
  ·rcases JhK h with z|z
   ·exact h3 p z
   ·subst z;have b:=Mx (cell ns (2+2*(i:Int))) (show span≠0 by omega);have c:=LY (cell ns (2+2*(i:Int))) hs;unfold laP;exact⟨by dsimp only;omega,by dsimp only;omega⟩
  ·rcases JhH h with z|z
   ·exact h4 v z
   ·subst z
    cases e:lookP (laS ns span i).1 (laS ns span i).2 (laP ns span i) with
    | none=>show 1<=0+laW ns span i;omega
    | some x=>have:=h4 x (Ww e);show 1<=x+laW ns span i;omega
theorem JoE(ns:List Int)(hs:0<span)(n:Nat):Y0 none (laT ns span n)/\JJ (laT ns span n)<=2*(n:Int)/\(laT ns span n).length<=n/\∀t∈laT ns span n,1<=t.1/\t.1<=span:=by
 obtain⟨⟨l1,l2⟩,h1,h2,h3,h4⟩:=JbK ns hs n;unfold laT;refine⟨Jft _ _ _ (Jai _ h1) (fun p hp=>?_) (fun b e=>nomatch e),?_,by rw[Qk,(J9 _).length_eq];exact l2,fun t ht=>?_⟩
 ·have m:=(J9 _).mem_iff.mp hp;exact⟨(h3 p m).1,h4 _ (Ww (VA 0 _ _ p m l1))⟩
 ·unfold JJ;rw[Qt];refine L9 (Int.le_of_eq ?_) h2;refine(JjF _ (J9 _)).trans ?_;exact congrArg List.sum (Jc2 h1 l1)
 ·obtain⟨p,hp,rfl⟩:=QC.mp ht;exact h3 p ((J9 _).mem_iff.mp hp)
theorem JqS(ns:List Int)(many span:Int)(h0:0<=many)(h8:many<=12)(hs:0<span/\span.natAbs<=10 ^ 200) :
 YB [.sh (.fz (ns.map .int)),.sh (.int many),.sh (.int span)]=some (.own ((laT ns span many.toNat).map trE)):=by
 have hs1:=hs.1;unfold YB;walk_at "ev";rw[Jrx,GM];refine Jc6 (fun i E=>∃j5 j6 j7,E=[.sh (.fz (ns.map .int)),.sh (.int many),.sh (.int span),.ot (laS ns span i).1 ((laS ns span i).2.map .int),j5,j6,j7]) ⟨.no,.no,.no,rfl⟩ ?_ ?_
 ·rintro i E hi ⟨j5,j6,j7,rfl⟩;obtain⟨⟨l1,l2⟩,_⟩:=JbK ns hs1 i;have gd:∀(ks:List (Int×Int)) (vs:List Int) n,(lookP ks (vs.map D.int) n).getD (.int 0)=.int ((lookP ks vs n).getD 0):=fun ks vs n=>by rw[Wv];cases lookP ks vs n <;> rfl
  walk_at "ev";rw[ZP _ _ (by omega)];walk_at "ev";rw[ZP _ _ (by omega)];walk_at "ev";rw[gd];walk_at "ev";rw[ZP _ _ (by omega)];walk_at "ev";rw[show ∀z:Int,z+1+cell ns (2+2*(i:Int)) / span % 2=z+laW ns span i from fun z=>by unfold laW;omega,JhG];exact⟨_,_,_,rfl⟩
 ·rintro E' ⟨j5,j6,j7,rfl⟩;obtain⟨⟨h1,h2⟩,_⟩:=JbK ns hs1 many.toNat;have hsz:(Jaz (laS ns span many.toNat).1).length<=16:=by rw[(J9 _).length_eq];omega
  walk_at "ev";rw[JL (f:=prE) (g:=fun p=>trE (p.1,p.2,(lookP (laS ns span many.toNat).1 (laS ns span many.toNat).2 p).getD 0))]
  ·walk_at "ev";unfold laT;rw[Qt];rfl
  ·intro k hk;unfold prE;walk_at "ev";rw[Wv,VA 0 _ _ k ((J9 _).mem_iff.mp hk) h1];walk_at "ev";rfl
theorem Jd7(f:Int->Int):∀(T:List Tr) (a:Option Pr),Y0 a T->Y0 (a.map fun b=>(b.1,b.2+f b.1)) (T.map fun t=>(t.1,t.2.1+f t.1,t.2.2))
 | [],_,_=>trivial
 | t::T,a,h=>by
  obtain⟨h1,h2,h3,h4⟩:=h;refine⟨h1,h2,fun b e=>?_,Jd7 f T _ h4⟩
  cases a with
  | none=>cases e
  | some c =>
   cases e;rcases h3 c rfl with z|⟨z,y⟩
   ·exact .inl z
   ·refine .inr ⟨z,?_⟩;show c.2+f c.1<t.2.1+f t.1;rw[z];omega
noncomputable def WY(T:List Tr):Int:=(T.map fun t=>(t.1-0)*t.2.2).sum
noncomputable def rwT(T:List Tr):List Pr:=Yp 0 (Yf T)
theorem Jb6(h:Y0 none T)(hs:JJ T<=30):((rwT T).map (·.2)).sum=WY T:=by
 obtain⟨_,g,_,e⟩:=UI h hs;have p:0<=((rwT T).map (·.2)).sum:=by have:=Wi (Good.all g);unfold rwT;omega
 have n:=Yq ((rwT T).map fun p:Pr=>p.2).sum.toNat g (by unfold rwT at p ⊢;omega)
 have b:=Jal _ 0 g n;rw[e _ n] at b;exact b.symm
theorem Jj8(h:Y0 none T)(hs:JJ T<=30):tbN (WY T).toNat 0 (rwT T)=T/\Good (rwT T)/\((rwT T).map (·.2)).sum<=((WY T).toNat:Int)/\(rwT T).length<=30:=by
 obtain⟨_,g,l,e⟩:=UI h hs;have p:0<=((rwT T).map (·.2)).sum:=by have:=Wi (Good.all g);unfold rwT;omega
 have s:=Jb6 h hs
 have q:((rwT T).map (·.2)).sum<=((WY T).toNat:Int):=by omega
 exact⟨e _ (Yq _ g q),g,q,by unfold rwT;omega⟩
theorem JrR(h:Y0 none T)(hs:JJ T<=30)(f:Int->Int):To (WY T).toNat f (rwT T) (rwT (T.map fun t=>(t.1,t.2.1+f t.1,t.2.2))):=by
 have h':=Jd7 f T none h
 have hn:JJ (T.map fun t=>((t.1,t.2.1+f t.1,t.2.2):Tr))=JJ T:=by unfold JJ;rw[Qt];rfl
 have hs':JJ (T.map fun t=>((t.1,t.2.1+f t.1,t.2.2):Tr))<=30:=by omega
 have hb:WY (T.map fun t=>((t.1,t.2.1+f t.1,t.2.2):Tr))=WY T:=by unfold WY;rw[Qt];rfl
 obtain⟨a1,a2,a3,a4⟩:=Jj8 h hs;obtain⟨b1,b2,b3,b4⟩:=Jj8 h' hs';obtain⟨_,_,l1,_⟩:=UI h hs;obtain⟨_,_,l2,_⟩:=UI h' hs';rw[hb] at b1;refine⟨b2,?_,?_,?_⟩
 ·unfold rwT;omega
 ·rw[Jb6 h hs,<- hb];exact Jb6 h' hs'
 ·rw[b1,a1]
theorem To.uniq2{N:Nat}{f h:Int->Int}{ps qs rs:List Pr}(hp:ps.length<=30)(hN:(ps.map (·.2)).sum<=(N:Int))(a:To N f ps qs)(b:To N h ps rs)(hf:∀t∈tbN N 0 ps,f t.1=h t.1):qs=rs:=by
 have t1:=Yq N a.g (by rw[a.s];exact hN)
 have t2:=Yq N b.g (by rw[b.s];exact hN)
 have r1:=(Je2 qs.length N 0 (Qm _) a.g (by rw[a.l];exact hp) t1).1
 have r2:=(Je2 rs.length N 0 (Qm _) b.g (by rw[b.l];exact hp) t2).1;rw[<- r1,<- r2,a.e,b.e,QD fun t ht=>by rw[hf t ht]]
theorem To.off(a:To N f ps qs)(b:To N h ps qs):∀t∈tbN N 0 ps,f t.1=h t.1:=by
 have e:=a.e.symm.trans b.e;intro t ht
 have:=List.map_inj_left.mp e t ht
 injection this with _ z
 injection z with z _
 omega
theorem Jix:∀(l ks:List Int),(l.foldl Jy ks).length<=ks.length+l.length
 | [],ks=>Qm _
 | x::l,ks=>by
  have:=Jix l (Jy ks x)
  have:(Jy ks x).length<=ks.length+1:=by unfold Jy;split <;> simp
  rw[QS,Qq];omega
theorem Jib{f:Int->Int}:∀{ks:List Int} {a:Int},ks.Pairwise (·<·)->(∀k∈ks,a<k)->VT a (ks.map fun k=>(k,f k))
 | [],_,_,_=>trivial
 | k::ks,a,h,ha=>⟨ha k Qd,Jib (Qv.mp h).2 (Qv.mp h).1⟩
noncomputable def szT(T:List Tr):List Int:=dkL ((apT T).map (·.1))
theorem Jko(h:Y0 none T)(hs:JJ T<=30):(szT T).Pairwise (·<·)/\(∀x,x∈szT T↔∃t∈T,t.1=x)/\(szT T).length<=30:=by
 have nm:∀t∈T,1<=t.2.2:=fun t ht=>(YU h t ht).2
 have o:((apT T).map (·.1)).Pairwise (·<=·):=Mb.mpr ((Jh7 h).imp fun {a b} z=>by unfold Jrc at z;omega);obtain⟨a,b⟩:=Jiv ((apT T).map (·.1)) [] List.Pairwise.nil o (fun k hk=>(QF hk).elim);refine⟨a,fun x=>?_,?_⟩
 ·rw[show(x∈szT T)=(x∈((apT T).map (·.1)).foldl Jy []) from rfl,b];constructor
  ·rintro(z|z)
   ·exact(QF z).elim
   ·obtain⟨q,hq,rfl⟩:=QC.mp z;obtain⟨t,ht,rfl⟩:=Jh6 hq;exact⟨t,ht,rfl⟩
  ·rintro⟨t,ht,rfl⟩;have:=nm t ht;exact .inr (QC.mpr ⟨(t.1,t.2.1),List.mem_flatMap.mpr ⟨t,ht,MR.mpr ⟨by omega,rfl⟩⟩,rfl⟩)
 ·have l:=Jix ((apT T).map (·.1)) []
  have:=Jd5 T nm;rw[Qk] at l;unfold szT dkL;simp only[KM] at l;omega
theorem Jnq(B:Int):∀(l:List Pr) (a c:Int),VT a l->0<=a->(-B<=c/\c<=B)->(∀p∈l,-B<=p.2/\p.2<=B)->∀q∈grF a c l,1<=q.1/\-(2*B+1)<=q.2/\q.2<=2*B+1
 | [],_,_,_,_,_,_,q,hq=>(QF hq).elim
 | (s,b)::r,a,c,h,ha,hc,hl,q,hq=>by
  obtain⟨h1,h2⟩:=h;have hb:-B<=b/\b<=B:=hl (s,b) Qd;have d:=Jiu (b-c) (s-a) (2*B) (by omega) (by omega);rw[grF] at hq;rcases Gd.mp hq with z|z
  ·split at z
   ·rw[QJ] at z;subst z;exact⟨by dsimp only;omega,by dsimp only;omega,by dsimp only;omega⟩
   ·exact(QF z).elim
  ·rcases Qh.mp z with z|z
   ·subst z;exact⟨by dsimp only;omega,by dsimp only;omega,by dsimp only;omega⟩
   ·exact Jnq B r s b h2 (by omega) hb (fun p hp=>hl p (Qc _ hp)) q z
theorem Jno(M:Int):∀(P:List Pr),(∀q∈P,1<=q.1/\-M<=q.2/\q.2<=M)->∀d∈goP P,OkS d.1/\-(2*M)<=d.2/\d.2<=2*M
 | [],_,d,hd=>(QF hd).elim
 | [(y,g)],h,d,hd=>by have:=h (y,g) Qd;rw[goP,QJ] at hd;subst hd;refine⟨fun s e=>(nomatch e),?_,?_⟩ <;> dsimp only at*<;> omega
 | (y,g)::(y',g')::r,h,d,hd=>by
  have h1:=h (y,g) Qd
  have h2:=h (y',g') (Qc _ Qd);rw[goP] at hd;rcases Qh.mp hd with z|z
  ·subst z;refine⟨fun s e=>?_,?_,?_⟩
   ·cases e;exact h1.1
   ·dsimp only at *;omega
   ·dsimp only at *;omega
  ·exact Jno M ((y',g')::r) (fun q hq=>h q (Qc _ hq)) d z
theorem Ji0:∀(l:List Pr) (a:Int),(∀p∈l,p.2=0)->∀q∈grF a 0 l,q.2=0
 | [],_,_,q,hq=>(QF hq).elim
 | (s,b)::r,a,hl,q,hq=>by
  have hb:b=0:=hl (s,b) Qd;subst hb;rw[grF] at hq;rcases Gd.mp hq with z|z
  ·rw[if_neg (by simp)] at z;exact(QF z).elim
  ·rcases Qh.mp z with z|z
   ·subst z;simp
   ·exact Ji0 r s (fun p hp=>hl p (Qc _ hp)) q z
theorem JiT:∀(P:List Pr),(∀q∈P,q.2=0)->∀d∈goP P,d.2=0
 | [],_,d,hd=>(QF hd).elim
 | [(y,g)],h,d,hd=>by have:=h (y,g) Qd;rw[goP,QJ] at hd;subst hd;exact this
 | (y,g)::(y',g')::r,h,d,hd=>by
  have h1:=h (y,g) Qd
  have h2:=h (y',g') (Qc _ Qd);rw[goP] at hd;rcases Qh.mp hd with z|z
  ·subst z;dsimp only at *;omega
  ·exact JiT ((y',g')::r) (fun q hq=>h q (Qc _ hq)) d z
theorem Jqe(h:∀p∈l,p.2=0):wyF l=[]:=by
 unfold wyF;refine Rw.mpr fun d hd=>?_
 have:=JiT _ (Ji0 l 0 h) d hd;simp[this]
noncomputable def okW:Option Int->List Dd->Prop
 | _,[]=>True
 | l,d::r=>(∃a,l=some a/\∀s,d.1=some s->a<s)/\d.2≠0/\okW d.1 r
theorem JiX:∀(l:List Pr) (a c:Int),VT a l->VT a (grF a c l)
 | [],_,_,_=>trivial
 | (s,b)::r,a,c,h=>by
  obtain⟨h1,h2⟩:=h;have m1:=LY (b-c) (b:=s-a) (by omega);have ih:=JiX r s b h2;rw[grF];split
  ·rename_i k;exact⟨by omega,by omega,ih⟩
  ·exact⟨h1,ih⟩
theorem Jez:∀(P:List Pr) (a a':Int),VT a P->a'<=a->okW (some a') ((goP P).filter fun d=>decide (d.2≠0))
 | [],_,_,_,_=>trivial
 | [(y,g)],a,a',h,ha=>by
  rw[goP]
  by_cases c:g=0
  ·rw[Ky (by simp[c])];trivial
  ·rw[Kz (by simp[c])];exact⟨⟨a',rfl,fun s e=>nomatch e⟩,c,trivial⟩
 | (y,g)::(y',g')::r,a,a',h,ha=>by
  obtain⟨h1,h2⟩:=h;rw[goP]
  by_cases c:g-g'=0
  ·rw[Ky (by simp[c])];exact Jez ((y',g')::r) y a' h2 (by omega)
  ·rw[Kz (by simp[c])];refine⟨⟨a',rfl,fun s e=>?_⟩,c,Jez ((y',g')::r) y y h2 (QE _)⟩;cases e;omega
theorem JhT{N:Nat}{f:Int->Int}{ps qs:List Pr}(g:Good ps)(h30:ps.length<=30)(hN:(ps.map (·.2)).sum<=(N:Int))(a:To N f ps qs)(hB:∀t∈tbN N 0 ps,t.1<=10 ^ 40/\-10 ^ 60<=f t.1/\f t.1<=10 ^ 60) :
 ∃W:List Dd,Um [.sh (.row (ps.map prE)),.sh (.row (qs.map prE))]=some (.own (W.map dE))/\W.length<=60/\(∀d∈W,OkD d)/\(∀t∈tbN N 0 ps,tot W t.1=f t.1)/\((∀t∈tbN N 0 ps,f t.1=0)->W=[])/\W.length<=2*(szT (tbN N 0 ps)).length/\okW (some 0) W:=by
 have tN:=Yq N g hN
 have asc:=Vs N 0 ps none g (QE _) (fun b e=>by cases e)
 have ns:=VP N 0 g tN
 have mv:=JlO ps qs N f g h30 hN a;obtain⟨s1,s2,s3⟩:=Jko asc (by omega);rw[show(dkL ((apT (tbN N 0 ps)).map (·.1))).map (fun k=>prE (k,f k))=((szT (tbN N 0 ps)).map fun k=>((k,f k):Pr)).map prE by rw[Qt];rfl] at mv
 have p1:∀k∈szT (tbN N 0 ps),0<k:=fun k hk=>by obtain⟨t,ht,rfl⟩:=(s2 k).mp hk;have:=(YU asc t ht).1;omega
 have ap:=Jib (f:=f) s1 p1
 have hl:((szT (tbN N 0 ps)).map fun k=>((k,f k):Pr)).length<=30:=by rw[Qk];exact s3
 have hb:∀p∈(szT (tbN N 0 ps)).map fun k=>((k,f k):Pr),p.1<=10 ^ 40/\-10 ^ 60<=p.2/\p.2<=10 ^ 60:=fun p hp=>by obtain⟨k,hk,rfl⟩:=QC.mp hp;obtain⟨t,ht,rfl⟩:=(s2 k).mp hk;exact hB t ht
 have mw:=JoO ps qs _ hl ap (fun p hp=>by have:=hb p hp;omega) mv
 have lw:(wyF ((szT (tbN N 0 ps)).map fun k=>((k,f k):Pr))).length<=2*(szT (tbN N 0 ps)).length:=by unfold wyF;refine Gz (RG _ _) ?_;have:=JeA ((szT (tbN N 0 ps)).map fun k=>((k,f k):Pr)) 0 0;rw[Qk] at this;rw[JbA];exact this
 refine⟨_,mw,by omega,fun d hd=>?_,fun t ht=>?_,fun h0=>?_,lw,Jez _ 0 0 (JiX _ 0 0 ap) (QE _)⟩
 ·unfold wyF at hd;have b:=Jno _ _ (Jnq (10 ^ 60) _ 0 0 ap (QE _) (by omega) fun p hp=>(hb p hp).2) d (Mn.mp hd).1;exact⟨b.1,by omega,by omega⟩
 ·unfold wyF;rw[JgM];exact Jm4 _ ap (t.1,f t.1) (QC.mpr ⟨t.1,(s2 _).mpr ⟨t,ht,rfl⟩,rfl⟩)
 ·refine Jqe fun p hp=>?_
  obtain⟨k,hk,rfl⟩:=QC.mp hp;obtain⟨t,ht,rfl⟩:=(s2 k).mp hk;exact h0 t ht
theorem JnC:∀{a b:List Int},a.Pairwise (·<·)->b.Pairwise (·<·)->(∀x,x∈a↔x∈b)->a=b
 | [],[],_,_,_=>rfl
 | [],y::b,_,_,h=>(QF ((h y).mpr Qd)).elim
 | x::a,[],_,_,h=>(QF ((h x).mp Qd)).elim
 | x::a,y::b,ha,hb,h=>by
  obtain⟨a1,a2⟩:=Qv.mp ha;obtain⟨b1,b2⟩:=Qv.mp hb
  have e:x=y:=by
   rcases Qh.mp ((h x).mp Qd) with z|z
   ·exact z
   ·rcases Qh.mp ((h y).mpr Qd) with w|w
    ·exact w.symm
    ·have:=a1 y w;have:=b1 x z;omega
  subst e;rw[JnC a2 b2 fun z=>?_];constructor
  ·intro hz;rcases Qh.mp ((h z).mp (Qc _ hz)) with w|w
   ·have:=a1 z hz;omega
   ·exact w
  ·intro hz;rcases Qh.mp ((h z).mpr (Qc _ hz)) with w|w
   ·have:=b1 z hz;omega
   ·exact w
theorem Jp1(xs:List Int):(Yd (fM xs)).Pairwise (·<·):=by have nd:=(JH (fM xs)).nodup_iff.mpr (JcN xs);exact((UK (fM xs)).and nd).imp fun {a b} h=>by have:=h.1;have:=h.2;omega
theorem Jp2(h:Y0 none T)(hs:JJ T<=30):Yd (fM (T.map (·.1)))=szT T:=by
 obtain⟨s1,s2,_⟩:=Jko h hs;refine JnC (Jp1 _) s1 fun x=>?_
 rw[(JH _).mem_iff,Joj,s2,QC]
noncomputable def lmV(ns:List Int)(reach:Int)(k:Nat)(x:Int):Int:=ZY [0,cell ns (30+(k:Int)) / 4 % 9-4,cell ns (30+(k:Int)) / 4 % (2*reach+1)-reach,x*(cell ns (30+(k:Int)) / 4 % 7-3)] (cell ns (30+(k:Int)) % 4)
noncomputable def lmF(ns:List Int)(reach:Int)(ks:List Int)(x:Int):Int:=lmV ns reach (ks.idxOf x) x
theorem JoF(ns:List Int)(k:Nat)(hr:0<=reach/\reach<=10 ^ 50)(hx:1<=x/\x<=10 ^ 28):-10 ^ 55<=lmV ns reach k x/\lmV ns reach k x<=10 ^ 55:=by
 unfold lmV
 generalize cell ns (30+(k:Int))=c
 refine ZZ (P:=fun z=>-10 ^ 55<=z/\z<=10 ^ 55) (by omega) (by show _<(4:Int);omega) ?_;have b:=Mx (c / 4) (show 2*reach+1≠0 by omega);have d:=LY (c / 4) (show 0<2*reach+1 by omega)
 have m1:x*(c / 4 % 7-3)<=10 ^ 28*3:=by refine L9 (Ka (show c / 4 % 7-3<=3 by omega) (by omega)) ?_;omega
 have m0:-(10 ^ 28*3)<=x*(c / 4 % 7-3):=by refine L9 ?_ (Ka (show -3<=c / 4 % 7-3 by omega) (by omega));omega
 intro z hz;simp only[Qh,QF,or_false] at hz;rcases hz with rfl|rfl|rfl|rfl
 ·decide +kernel
 ·omega
 ·omega
 ·omega
theorem Jji(ns ks:List Int)(reach:Int)(hk:ks.Nodup)(hl:ks.length<=30)(hr:0<=reach):YC [.sh (.fz (ns.map .int)),.sh (.lst (ks.map .int)),.sh (.int reach)]=some (.od ks ((ks.map (lmF ns reach ks)).map .int)):=by
 unfold YC;walk_at "ev";rw[Jrx,GM];refine Jc6 (fun i E=>∃j4 j5 j6,E=[.sh (.fz (ns.map .int)),.sh (.lst (ks.map .int)),.sh (.int reach),.od (ks.take i) (((ks.take i).map (lmF ns reach ks)).map .int),j4,j5,j6]) ⟨.no,.no,.no,rfl⟩ ?_ ?_
 ·rintro i E hi ⟨j4,j5,j6,rfl⟩;have hi':i<ks.length:=by omega
  have ge:atI (ks.map D.int) (i:Int)=some (.int ks[i]):=by rw[W2,Jcu hi'];rfl
  have nm:ks[i]∉ks.take i:=fun z=>by obtain⟨j,hj,e⟩:=List.mem_take_iff_getElem.mp z;exact Gq.mp hk j i (by omega) hi' (by omega) e
  have fe:lmF ns reach ks ks[i]=lmV ns reach i ks[i]:=by unfold lmF;rw[List.Nodup.idxOf_getElem hk]
  obtain⟨p1,p2⟩:=JnB (lmF ns reach ks) nm;have ap:=Zm (l:=[0,cell ns (30+(i:Int)) / 4 % 9-4,cell ns (30+(i:Int)) / 4 % (2*reach+1)-reach,ks[i]*(cell ns (30+(i:Int)) / 4 % 7-3)]) (k:=cell ns (30+(i:Int)) % 4) (by omega) (by show _<(4:Int);omega);simp only[Qg,KN] at ap;walk_at "ev";rw[ZP _ _ (by omega)];walk_at "ev";rw[ge];walk_at "ev";rw[ap];walk_at "ev";have fe':ZY [0,cell ns (30+(i:Int)) / 4 % 9-4,cell ns (30+(i:Int)) / 4 % (2*reach+1)-reach,ks[i]*(cell ns (30+(i:Int)) / 4 % 7-3)] (cell ns (30+(i:Int)) % 4)=lmF ns reach ks ks[i]:=fe.symm
  have tl:(ks.take i).length<16777216:=by rw[K1];omega
  try erw [if_pos tl]
  rw[fe',p2,p1,List.take_append_getElem];exact⟨_,_,_,rfl⟩
 ·rintro E' ⟨j4,j5,j6,rfl⟩;rw[show((ks.length:Int)).toNat=ks.length by omega,Rg];walk_at "ev"
theorem JoP(v:Int):Ym [.sh (.int v)]=some (.sh (.bl true)):=by
 unfold Ym;walk_at "ev"
 try rfl
theorem JqO(W:List Dd)(h:okW (some 0) W):JS [.sh (.lst (W.map dE))]=some (.sh (.bl true)):=by
 unfold JS;walk_at "ev";rw[GM];refine Yk (fun(rest:List Dd) (_:Unit) E=>∃l j2 j3,E=[.sh (.lst (W.map dE)),.sh (Y5 l),j2,j3]/\okW l rest) (fun _ _=>()) () ⟨some 0,.no,.no,rfl,h⟩ ?_ ?_
 ·rintro⟨o,v⟩ rest _ E ⟨l,j2,j3,rfl,⟨a,rfl,ha⟩,nz,ok⟩;simp only at nz ha ok
  cases o with
  | none=>simp only[dE,Y5];walk_at "ev";rw[JoP];walk_at "ev";rw[decide_eq_false nz];walk_at "ev";exact⟨none,.sh .non,.sh (.int v),rfl,ok⟩
  | some s=>have lt:=ha s rfl;simp only[dE,Y5];walk_at "ev";rw[JoP];walk_at "ev";rw[decide_eq_false nz];walk_at "ev";rw[JoP];walk_at "ev";rw[decide_eq_false (show ¬s<=a by omega)];walk_at "ev";exact⟨some s,.sh (.int s),.sh (.int v),rfl,ok⟩
 ·rintro E' ⟨l,j2,j3,rfl,_⟩;walk_at "ev"
theorem Jid(M:Int):∀(T:List Tr),(∀t∈T,1<=t.1/\t.1<=M)->(∀t∈T,1<=t.2.2)->WY T<=M*JJ T
 | [],_,_=>by unfold WY JJ;simp
 | t::T,h,k=>by
  have ih:=Jid M T (fun u hu=>h u (Qc _ hu)) (fun u hu=>k u (Qc _ hu))
  have a:=h t Qd
  have b:=k t Qd
  have m:=Int.mul_le_mul_of_nonneg_right a.2 (show 0<=t.2.2 by omega);unfold WY JJ at ih ⊢;rw[Qg,Qz,Qg,Qz,L3,ME];omega
theorem Jrt(h:Y0 none T)(hs:JJ T<=30)(hl:T.length<=30):J8 [.sh (.lst (T.map trE))]=some (.sh (.row ((rwT T).map prE))):=Jf9 T h hs hl (UI h hs).1
theorem Jsg(h:Y0 none T)(hs:JJ T<=30)(hl:T.length<=30)(f:Int->Int):J8 [.sh (.lst ((T.map fun t=>((t.1,t.2.1+f t.1,t.2.2):Tr)).map trE))]=some (.sh (.row ((rwT (T.map fun t=>(t.1,t.2.1+f t.1,t.2.2))).map prE))) :=
 Jrt (Jd7 f T none h) (by unfold JJ at hs ⊢;rw[Qt];exact hs) (by rw[Qk];exact hl)
theorem Jk5{N:Nat}{f:Int->Int}{ps qs:List Pr}(g:Good ps)(h30:ps.length<=30)(hN:(ps.map (·.2)).sum<=(N:Int))(hb:(ps.map (·.2)).sum<=10 ^ 100)(a:To N f ps qs){W:List Dd}(ok:∀d∈W,OkD d)(hf:∀t∈tbN N 0 ps,tot W t.1=f t.1):UP [.sh (.row (ps.map prE)),.sh (.lst (W.map dE))]=some (.sh (.row (qs.map prE))):=by obtain⟨rs,b,e⟩:=JoL g h30 hN hb W ok;rw[e,b.uniq2 h30 hN a hf]
theorem Jn3{N:Nat}{f:Int->Int}{ps qs:List Pr}(g:Good ps)(h30:ps.length<=30)(hN:(ps.map (·.2)).sum<=(N:Int))(hb:(ps.map (·.2)).sum<=10 ^ 100)(t1:To N f ps qs)
 (hB:∀t∈tbN N 0 ps,t.1<=10 ^ 40/\(-10 ^ 55<=f t.1/\f t.1<=10 ^ 55)) :
 ∃W:List Dd,Um [.sh (.row (ps.map prE)),.sh (.row (qs.map prE))]=some (.own (W.map dE))/\W.length<=60/\W.length<=2*(szT (tbN N 0 ps)).length/\JS [.sh (.lst (W.map dE))]=some (.sh (.bl true)) ∧
  UP [.sh (.row (ps.map prE)),.sh (.lst (W.reverse.map dE))]=some (.sh (.row (qs.map prE)))/\(W=[]↔ps=qs):=by
 obtain⟨W,e1,l1,o1,f1,z1,l2,a1⟩:=JhT g h30 hN t1 fun t ht=>by have:=hB t ht;omega
 refine⟨W,e1,l1,l2,JqO W a1,Jk5 g h30 hN hb t1 (fun d hd=>o1 d (List.mem_reverse.mp hd)) (fun t ht=>by rw[JgN];exact f1 t ht),fun e=>?_,fun e=>?_⟩
 ·subst e;exact(To.refl g).uniq2 h30 hN t1 fun t ht=>f1 t ht
 ·subst e;exact z1 fun t ht=>(t1.off (To.refl g)) t ht
theorem Jk6(T:List Tr):Ul (.nm 0) yes? (e2 fIx (Jb 0) (eC (.int 0))) [.no] (T.map trE)=some ((T.map (·.1)).map D.int):=by
 rw[Qt];refine JL fun t _=>?_
 have z:∀x y w:D,atI [x,y,w] 0=some x:=fun _ _ _=>rfl
 simp only[trE];walk_at "ev";rw[z];walk_at "ev";rfl
theorem Jn4{α:Type}(xs:List α)(x:α):Zr (xs++[x]) none (some (-1))=xs:=by unfold Zr;rw[HT.JdB];have e:HT.sIx (xs++[x]).length (xs++[x]).length (some (-1))=(-1+((xs++[x]).length:Int)).toNat:=rfl;rw[e,Qx,GA,List.drop_zero,show(-1+((xs.length+1:Nat):Int)).toNat-0=xs.length by omega,List.take_left]
theorem law_true(ns:List Int)(hn:ns.length<=63):Jet [.sh (.fz (ns.map .int))]=some (.sh (.bl true)):=by
 have a3:=Zm (l:=[4,100,10 ^ 28]) (k:=cell ns 0 / 13 % 3) (by omega) (by show _<(3:Int);omega);simp only[Qg,KN] at a3
 have hr:0<ZY [4,100,10 ^ 28] (cell ns 0 / 13 % 3)/\ZY [4,100,10 ^ 28] (cell ns 0 / 13 % 3)<=10 ^ 28:=ZZ (P:=fun x=>0<x/\x<=10 ^ 28) (by omega) (by show _<(3:Int);omega) (by decide)
 revert a3 hr
 generalize ZY [4,100,10 ^ 28] (cell ns 0 / 13 % 3)=span
 intro a3 hr;have a2:=Zm (l:=[3*span,10 ^ 50]) (k:=cell ns 0 / 39 % 2) (by omega) (by show _<(2:Int);omega);simp only[Qg,KN] at a2
 have hc:0<=ZY [3*span,10 ^ 50] (cell ns 0 / 39 % 2)/\ZY [3*span,10 ^ 50] (cell ns 0 / 39 % 2)<=10 ^ 50:=ZZ (P:=fun x=>0<=x/\x<=10 ^ 50) (by omega) (by show _<(2:Int);omega) (by
  intro x hx;simp only[Qh,QF,or_false] at hx;omega)
 revert a2 hc
 generalize ZY [3*span,10 ^ 50] (cell ns 0 / 39 % 2)=reach
 intro a2 hc;have dr:=JqS ns (cell ns 0 % 13) span (by omega) (by omega) ⟨hr.1,by omega⟩;obtain⟨asc,nsm,len,sz⟩:=JoE ns hr.1 (cell ns 0 % 13).toNat
 revert dr asc nsm len sz
 generalize laT ns span (cell ns 0 % 13).toNat=T
 intro dr asc nsm len sz;have n30:JJ T<=30:=by omega
 have l30:T.length<=30:=by omega
 have es:=Jp2 asc n30;obtain⟨s1,s2,s3⟩:=Jko asc n30
 have nd:(szT T).Nodup:=s1.imp fun {a b} h=>by omega
 have ml:=Jji ns (szT T) reach nd s3 hc.1
 have b1:∀t∈T,-10 ^ 55<=lmF ns reach (szT T) t.1/\lmF ns reach (szT T) t.1<=10 ^ 55:=fun t ht=>JoF ns _ hc ⟨(sz t ht).1,by have:=(sz t ht).2;omega⟩
 revert ml b1
 generalize lmF ns reach (szT T)=f
 intro ml b1;have r0:=Jrt asc n30 l30;have r1:=Jsg asc n30 l30 f;have t1:=JrR asc n30 f;obtain⟨e0,g0,h0,k0⟩:=Jj8 asc n30
 have hb:((rwT T).map (·.2)).sum<=10 ^ 100:=by rw[Jb6 asc n30];have:=Jid (10 ^ 28) T (fun t ht=>by have:=sz t ht;omega) (fun t ht=>(YU asc t ht).2);omega
 have hB:∀t∈tbN (WY T).toNat 0 (rwT T),t.1<=10 ^ 40/\(-10 ^ 55<=f t.1/\f t.1<=10 ^ 55):=fun t ht=>by rw[e0] at ht;have:=sz t ht;exact⟨by omega,b1 t ht⟩
 obtain⟨W,w1,l1,l2,ma,d1,iff⟩:=Jn3 g0 k0 h0 hb t1 hB;rw[e0] at l2
 have ec:Ul (.tp (.cons (.nm 0) (.cons (.nm 1) (.cons (.nm 2) .nil)))) yes? (Yz (aC (Jb 0) (aC (e2 YA (Jb 1) (Jg8 (Jb 3) (Jb 0))) (aC (Jb 2) a0)))) [.no,.no,.no,.sh (.dct (szT T) (((szT T).map f).map .int))] (T.map trE)=some ((T.map fun t=>((t.1,t.2.1+f t.1,t.2.2):Tr)).map trE):=by
  rw[show(T.map fun t=>((t.1,t.2.1+f t.1,t.2.2):Tr)).map trE=T.map fun t=>trE (t.1,t.2.1+f t.1,t.2.2) by rw[Qt];rfl];refine JL fun t ht=>?_
  have hm:=(s2 t.1).mpr ⟨t,ht,rfl⟩;simp only[trE];walk_at "ev";rw[JeM,if_pos hm];walk_at "ev"
 clear e0 h0 hb hB t1 b1 sz asc nsm
 revert r0 r1 w1 l2 ma d1 iff ec ml s3 es
 generalize szT T=ks
 generalize rwT (T.map fun t=>(t.1,t.2.1+f t.1,t.2.2))=qs
 generalize rwT T=ps
 generalize (T.map fun t=>((t.1,t.2.1+f t.1,t.2.2):Tr))=T1
 intro es s3 ml r0 r1 w1 l2 ma d1 iff ec;unfold Jet;walk_at "ev";rw[ZP _ _ (by decide)];walk_at "ev";rw[a3];walk_at "ev";rw[dr];walk_at "ev";rw[Jk6];walk_at "ev";rw[a2];walk_at "ev";rw[es,ml];walk_at "ev";rw[r0];walk_at "ev";rw[ec];walk_at "ev";rw[r1];walk_at "ev";rw[w1];walk_at "ev";rw[w1];walk_at "ev";rw[Jn4,JiE,decide_eq_true rfl];walk_at "ev";rw[decide_eq_false (show ¬2*(ks.length:Int)<(W.length:Int) by omega)];walk_at "ev"
 rw[GM];refine Yk (fun(rest:List Dd) (_:Unit) E=>∃j11,E=[Sl.sh (D.fz (Lr D.int ns)),Sl.sh (D.int (cell ns 0)),Sl.sh (D.int span),
  Sl.sh (D.lst (Lr trE T)),Sl.sh (D.lst (Lr D.int ks)),
  Sl.sh (D.dct ks (Lr D.int (Lr f ks))),Sl.sh (D.row (Lr prE ps)),
  Sl.sh (D.row (Lr prE qs)),Sl.sh (D.tup [D.tup (Lr prE ps),D.tup (Lr prE qs)]),
  Sl.own (Lr dE W++[D.tup [D.int 1,D.int 1]]),Sl.sh (D.lst (Lr dE W)),j11]) (fun _ _=>()) () ⟨.no,rfl⟩ ?_ ?_
 ·rintro⟨o,v⟩ rest _ E ⟨j11,rfl⟩;simp only[dE];walk_at "ev";exact⟨_,rfl⟩
 ·rintro E' ⟨j11,rfl⟩;walk_at "ev";rw[ma];walk_at "ev";rw[<- List.map_reverse,d1];walk_at "ev";have e1:eqA (.lst (W.map dE)) (.lst [])=some (decide (ps=qs)):=(JiE W []).trans (congrArg some (decide_eq_decide.mpr iff));have e2:eqA (.tup [.tup (ps.map prE),.tup (qs.map prE)]) (.tup [.tup (ps.map prE),.tup (qs.map prE)])=some true:=((JeH (JeH Jnu)).eq (by decide) [ps,qs] [ps,qs]).trans (by rw[decide_eq_true rfl]);rw[e1];walk_at "ev";rw[e2];walk_at "ev"
end
end LK
noncomputable section
namespace LK
open PySem L2 LR LE
local macro_rules | `(tactic| walk_at "s")=>`(tactic| repeat' first | rfl | assumption | with_reducible apply Uq | with_reducible apply YS | with_reducible apply JmH | with_reducible apply Vp | with_reducible apply Jkc | with_reducible apply Jar | with_reducible apply Jok | with_reducible apply Jew | with_reducible apply Jck | with_reducible apply Jb7 | with_reducible apply JrZ | with_reducible apply Jnk | with_reducible apply Jnl | with_reducible apply JpW | with_reducible apply Jsb | with_reducible apply Jnz | with_reducible apply JnI | with_reducible apply Jsi | with_reducible apply Jrz | with_reducible apply Jjr | with_reducible apply JpR | with_reducible apply Jsm | with_reducible apply Jqi | with_reducible apply JrK | with_reducible apply JrA | with_reducible apply Jq8 | with_reducible apply JnP | with_reducible apply JnQ | with_reducible apply Jkd | with_reducible apply JrF | with_reducible apply JrJ | with_reducible apply Jq7 | with_reducible apply Jsj | with_reducible apply JrH | with_reducible apply Jr9 | with_reducible apply Jse | with_reducible apply JrC | with_reducible apply JpV | with_reducible apply JkN | with_reducible apply Jqu | with_reducible apply Jqx | with_reducible apply JpU | with_reducible apply JrU | with_reducible apply Jq5 | with_reducible apply Jr8 | with_reducible apply Jsd | with_reducible apply JrE | with_reducible apply Jm8 | with_reducible apply Jpc | with_reducible apply Jpd | with_reducible apply JnH | with_reducible apply Jsk | with_reducible apply Jsl | with_reducible apply JrT | with_reducible apply JrW | with_reducible apply Jqw | with_reducible apply Jsa | with_reducible apply JlW | with_reducible apply Jka | with_reducible apply JmE | with_reducible apply JpT | with_reducible apply Jja | with_reducible apply JoY | with_reducible apply Jsc | with_reducible apply JoZ | with_reducible apply Jq9 | with_reducible apply Jra | with_reducible apply JrB | with_reducible apply JrD | with_reducible apply JrV | with_reducible apply Jqf | with_reducible apply JkM | with_reducible apply Jm9 | with_reducible apply Jqt | with_reducible apply Jn0 | with_reducible apply Jqv | with_reducible apply Jn1 | with_reducible apply Jii | with_reducible apply Ji9 | with_reducible apply JlB | with_reducible apply Jhq | with_reducible apply Jq6 | with_reducible apply Jry | with_reducible apply JmB | with_reducible apply JmC | with_reducible apply JmD | with_reducible apply JnG | with_reducible apply Jkb | with_reducible apply JmF | with_reducible apply JrG | with_reducible apply JmI | with_reducible apply JmJ | with_reducible apply JmK | with_reducible apply JmL | with_reducible apply JrI | with_reducible apply Jqg | with_reducible apply Jqh | with_reducible apply JrY | with_reducible apply Jqj)
noncomputable def top(i:Nat):Stmt:=PySem.Challenge.pw_lumprow_k62_ways_between_rows.main.body.getD i (.Pass ⟨0,0,0,0⟩)
noncomputable abbrev YH:Stmt:=top 9
noncomputable abbrev VI:Stmt:=Jlw (top 8) 0
noncomputable abbrev U2:Stmt:=top 18
noncomputable abbrev U8:Stmt:=top 21
noncomputable abbrev Uu:Stmt:=top 11
noncomputable abbrev VJ:Stmt:=top 25
noncomputable abbrev Jab:Stmt:=top 24
noncomputable abbrev Uw:Stmt:=top 29
noncomputable abbrev Jac:Stmt:=top 30
noncomputable abbrev VM:Stmt:=top 15
noncomputable abbrev Uv:Stmt:=top 14
noncomputable abbrev WF:Stmt:=top 37
noncomputable abbrev U3:Stmt:=top 19
noncomputable abbrev WC:Stmt:=top 12
noncomputable abbrev U4:Stmt:=top 17
noncomputable abbrev WG:Stmt:=top 20
noncomputable abbrev WB:Stmt:=top 10
noncomputable abbrev WE:Stmt:=top 23
noncomputable abbrev Jad:Stmt:=top 22
noncomputable abbrev VN:Stmt:=top 28
noncomputable abbrev Je3:Stmt:=top 38
noncomputable abbrev U7:Stmt:=top 41
noncomputable abbrev Y3:Stmt:=top 44
noncomputable abbrev WD:Stmt:=top 34
noncomputable abbrev Ux:Stmt:=top 31
noncomputable abbrev Jb8:Stmt:=top 33
noncomputable abbrev Je4:Stmt:=top 35
noncomputable abbrev VL:Stmt:=top 40
noncomputable abbrev U6:Stmt:=top 43
noncomputable abbrev U5:Stmt:=top 42
noncomputable abbrev Wd:Stmt:=top 45
local macro_rules | `(tactic| walk_at "c")=>`(tactic| exact⟨rfl,rfl,rfl,by decide +kernel,rfl,by decide +kernel,by decide +kernel⟩)
theorem Jhx:(["begin","length"]:List Str).Nodup:=by decide +kernel
theorem Jq1:(["ahead","stretch","layers"]:List Str).Nodup:=by decide +kernel
theorem JlT:(["begin","length","place"]:List Str).Nodup:=by decide +kernel
theorem Jq2:(["spot","number"]:List Str).Nodup:=by decide +kernel
theorem JoU:(["size","spot","number"]:List Str).Nodup:=by decide +kernel
theorem JoV:(["size","spot","number","times","seats"]:List Str).Nodup:=by decide +kernel
theorem Jq3:(["left","right"]:List Str).Nodup:=by decide +kernel
theorem Jq4:(["spot","number","left"]:List Str).Nodup:=by decide +kernel
theorem JoW:(["spot","pairs","owed","size"]:List Str).Nodup:=by decide +kernel
theorem Jgc:(["size","spot"]:List Str).Nodup:=by decide +kernel
theorem Jnw:(["here","behind"]:List Str).Nodup:=by decide +kernel
theorem Jnx:(["size","growth"]:List Str).Nodup:=by decide +kernel
theorem JqZ:(["pair"]:List Str).Nodup:=by decide +kernel
theorem Jny:(["size","spot","marks"]:List Str).Nodup:=by decide +kernel
theorem Jq0:(["lump"]:List Str).Nodup:=by decide +kernel
theorem Jjq:(["size","spot","number","shifts"]:List Str).Nodup:=by decide +kernel
theorem sc_check_stretches:FnScope ["stretches","behind","begin","length"] ["stretches"] (Ji YH):=by walk_at "c"
theorem VE(F:Fun K "check_stretches" "check_stretches" YH f fd):FnOk P w K mg base CX0 1 f fd ["stretches"] (Jcf K):=by
 refine F.ok sc_check_stretches (fun vs H Q E h=>?_) (fun cdv A outer s H vs Q E hr h=>?_)
 ·obtain⟨v,ps,rfl,_⟩:=h;rfl
 ·obtain⟨v,ps,rfl,⟨a,vs,rfl,hq,hp⟩,g,q⟩:=h;have hu:=hr.units;refine⟨_,(Jc (psN 1 sc_check_stretches.nd YF)
   (Jg (Yv Ge rfl (piK K (pv 0)) (Ju (K:=K) (n:=2) rfl rfl (Je (Jr (i:=2) sc_check_stretches.nd rfl (.inl rfl)) (Je (Jr (i:=3) sc_check_stretches.nd rfl (.inl rfl)) Jv)) rfl rfl) (Jc (Ys (Js Ja3 (pv 3) Jf (Jx _)) (Jg YZ) JK)
   (Jc (Ys (PW.pt (VH (Js V8 (pv 1) YF (Jx _)) (UR (Js Jjv (pv 2) (pv 1) (Jx _))))) (Jg YZ) JK)
   (Jg (psN 1 sc_check_stretches.nd (Jl (Jgf (K:=K) rfl) (pv 2) (pv 3))))))))),?_⟩
  walk_at "rd";refine JhM (H1:=H) (a:=a) (xs:=vs) (fun R r=>⟨_,rfl,r⟩) hq
   (fun i σ' H'=>∃vb vl,σ'=[some (.ref a),some (Jfu ps i),vb,vl]/\H'=H) ⟨none,none,rfl,rfl⟩ (fun i σ' H' ⟨_,_,_,e⟩=>e▸Same.refl _) ?_ ?_
  ·rintro i x σ' H' hi ⟨vb,vl,rfl,rfl⟩;obtain⟨p,b,e1,rfl,sp⟩:=hp.at hi;refine Jgp sp rfl ?_;walk_at "rd";refine ifd (fun hlt=>absurd (g.one i p e1) (by omega)) (fun _=>?_);walk_at "rd"
   cases i with
   | zero=>refine ifF rfl ?_;refine ifF rfl ?_;walk_at "rd";exact⟨_,_,by rw[UX e1];rfl,rfl⟩
   | succ j =>
    obtain⟨q1,e2⟩:∃q1,ps[j]?=some q1:=⟨ps[j]'(by have:=(Qn.mp e1).1;omega),by have:=(Qn.mp e1).1;simp[show j<ps.length by omega]⟩
    rw[UX e2];refine ifT rfl ?_;walk_at "rd";refine ifd (fun hle=>absurd (g.gap j q1 p e2 e1) (by omega)) (fun _=>?_);walk_at "rd";exact⟨_,_,by rw[UX e1];rfl,rfl⟩
  ·rintro σ' H' ⟨vb,vl,rfl,rfl⟩;exact q _ (Same.refl _)
theorem JdC:FnScope ["self","stretches"] ["self","stretches"] (Ji VI):=by walk_at "c"
theorem Jdk(F:Fun K "__init__" "Row.__init__" VI f fd)(qG:mg "tuple"=none)(qt:mg "len"=none)(qd:GV mg "MOST_STRETCHES" (.int 30))(qi:Cal P w K mg base "check_stretches" 1 ["stretches"] (Jcf K))(T:RowC K C):FnOk P w K mg base CX0 2 f fd ["self","stretches"] (U9 C K):=by
 refine F.ok JdC (fun vs H Q E h=>?_) (fun cdv A outer s H vs Q E hr h=>?_)
 ·obtain⟨x,dx,v,ps,rfl,_⟩:=h;rfl
 ·obtain⟨x,dx,v,ps,rfl,hx,⟨a,vs,rfl,hq,hp⟩,g,hl,q⟩:=h;have hu:=hr.units;refine⟨_,(Jc (Ys (Js WR (Jt (YL (K:=K) rfl) rfl qt Vu (Ja (pv 1) Jd)) (ZW rfl qd) (Jx _)) (Jg YZ) JK)
   (Jc (J7 (Jj qi (hrM hr) rfl (Ja (pv 1) Jd)))
   (Jg (Jme (K:=K) rfl (pv 0) (UE (JcA (K:=K) rfl) rfl qG Jcx (Ja (JY (N':=["begin","length"]) (imp:=[none,none]) rfl (piK K (pv 1)) (WZ rfl rfl) (fun _ _ _ _=>(Ju (K:=K) (n:=2) rfl rfl (Je (pgN 0 Jhx) (Je (pgN 1 Jhx) Jv)) rfl rfl)) (fun _ _ _ _=>JG) (fun _ _ _ _=>(JP (Ja (pv 0) (Ja (pv 1) Jd))))) Jd)) rfl)))),?_⟩
  have hn:=hp.len;walk_at "rd";refine Jdz hq ?_;walk_at "rd";refine ifd (fun hgt=>absurd hl (by omega)) (fun _=>?_);walk_at "rd";refine Jip ⟨a,vs,rfl,hq,hp⟩ g fun H1 s1=>?_
  walk_at "rd";refine Je0 (H1:=H1) (a:=a) (xs:=vs) (fun R r=>⟨_,rfl,r⟩) (hq.imp s1.seq s1.seqT) (GX (JhR (by omega)))
   (fun i ys σ' H'=>∃vb vl,σ'=[vb,vl]/\Same H1 H'/\Prs K H' ys (ps.take i)) ⟨none,none,rfl,Same.refl _,by rw[List.take_zero];exact RepL.nil⟩
   (fun i ys σ' H' ⟨_,_,_,_,r⟩=>by have:=r.len;rw[this,K1];omega) (fun i ys σ' H' ⟨_,_,_,s',_⟩=>s') ?_ ?_
  ·rintro i ys y σ' H' hi ⟨vb,vl,rfl,s',r⟩;obtain⟨p,b,e1,rfl,sp⟩:=Prs.at (K:=K) (ps:=ps) (RepL.mono (s1.trans s') hp) hi;refine Jgp sp rfl ?_;walk_at "rd";refine ifT rfl ?_;walk_at "rd";refine JnT sz2 fun t H2 nt s2 ht=>?_
   refine⟨_,_,rfl,s'.trans s2,?_⟩;rw[List.take_add_one,e1];exact Prs.snoc (RepL.mono s2 r) (Jmb ht)
  ·rintro ys σ' H' ⟨vb,vl,rfl,s',r⟩ l H2 nl s2 hl2;walk_at "rd";refine JhN (.of hl2) fun t H3 nt s3 ht=>?_
   walk_at "rd";have sA:Same H H3:=((s1.trans s').trans s2).trans s3;refine⟨x,C,dx,[],rfl,sA _ _ hx,T.cl,T.ns,by decide,?_⟩;rw[hn,Rg] at r;have r3:Prs K H3 ys ps:=RepL.mono (s2.trans s3) r;have ntx:t≠x:=Ja2 ht (sA _ _ hx) (by intro z;cases z);refine q _ t ys (sA.ex_trans SameEx.upd) (by rw[JjM];exact Jk) (by rw[Jh ntx];exact ht) ?_;exact Prs.monoIns SameEx.upd (sA _ _ hx) r3
theorem Jb9:FnScope ["row","layers"] ["row","layers"] (Ji U2):=by walk_at "c"
theorem JbR{f:Addr}{fd:FuncData}(F:Fun K "by_layers" "by_layers" U2 f fd)(qe:mg "enumerate"=none)(T:RowC K C):FnOk P w K mg base CX0 1 f fd ["row","layers"] (spE K C 2 JZ) :=
 okE F Jb9 rfl fun _ _ _ _ _ _ hr hu=>⟨_,(Jg (Jw (JY (N':=["ahead","stretch","layers"]) (imp:=[none,none,some 1]) rfl (ZX (K:=K) rfl rfl qe (Ja (JQ (K:=K) rfl (pv 0) rfl) Jd)) (Jcv (own:=["ahead","stretch"]) (fr:=[("layers",1)]) rfl rfl rfl ⟨rfl,trivial⟩ rfl ⟨⟨rfl,rfl,rfl⟩,trivial⟩) (fun _ _ _ _=>(Ju (K:=K) (n:=2) rfl rfl (Je (pgN 0 Jq1) (Je (pgN 1 Jq1) Jv)) rfl rfl)) (fun _ _ _ _=>JG) (fun _ _ _ _=>(JP (Ja (Jl (JD (K:=K) rfl) (pxK K (pv 1) Jf) (Jl YR (Jl YR Jf (pv 2)) (pv 0))) (Ja (Jl (JD (K:=K) rfl) (pxK K (pv 1) Jf) (pv 2)) Jd))))))),by walk_at "s"⟩
theorem Jcc:FnScope ["row","layers"] ["row","layers"] (Ji U8):=by walk_at "c"
theorem JbX{f:Addr}{fd:FuncData}(F:Fun K "thickened" "thickened" U8 f fd)(qy:CalM P w K mg base "Row" C 2 ["self","stretches"] (U9 C K))(qg:Cal P w K mg base "by_layers" 1 ["row","layers"] (spE K C 2 JZ)):FnOk P w K mg base CX0 4 f fd ["row","layers"] (spE K C 2 Yn) :=
 okE F Jcc rfl fun _ _ _ _ _ _ hr hu=>⟨_,(Jg (Jw (U0 qy (hrM hr) rfl (Ja (Jj qg (hrM hr) rfl (Ja (pv 0) (Ja (pv 1) Jd))) Jd)))),by walk_at "s"⟩
theorem Jae:FnScope ["row","place"] ["row","place"] (Ji Uu):=by walk_at "c"
theorem ZR{f:Addr}{fd:FuncData}(F:Fun K "balls_below" "balls_below" Uu f fd)(qk:mg "sum"=none)(wb:mg "max"=none)(qC:mg "min"=none)(T:RowC K C):FnOk P w K mg base CX0 1 f fd ["row","place"] (spE K C 2 Yg) :=
 okE F Jae rfl fun _ _ _ _ _ _ hr hu=>⟨_,(Jg (Jw (Jt (Y8 (K:=K) rfl rfl) rfl qk Wn (Ja (JY (N':=["begin","length","place"]) (imp:=[none,none,some 1]) rfl (piK K (JQ (K:=K) rfl (pv 0) rfl)) (Jcv (own:=["begin","length"]) (fr:=[("place",1)]) rfl rfl rfl ⟨rfl,trivial⟩ rfl ⟨⟨rfl,rfl,rfl⟩,trivial⟩) (fun _ _ _ _=>(Ju (K:=K) (n:=2) rfl rfl (Je (pgN 0 JlT) (Je (pgN 1 JlT) Jv)) rfl rfl)) (fun _ _ _ _=>JG) (fun _ _ _ _=>(Jt (Jg0 rfl) rfl wb JnY (Ja Jf (Ja (Jt (Wo rfl) rfl qC Jbh (Ja (pv 1) (Ja (Jl J2 (pv 2) (pv 0)) Jd))) Jd))))) Jd)))),by walk_at "s"⟩
theorem sc_ended_at:FnScope ["row","spots","stretches","counted","ahead","spot","below","balls"] ["row","spots"] (Ji VJ):=by walk_at "c"
theorem Jdl{f:Addr}{fd:FuncData}(F:Fun K "ended_at" "ended_at" VJ f fd)(qe:mg "enumerate"=none)(qw:Cal P w K mg base "balls_below" 1 ["row","place"] (spE K C 2 Yg)):FnOk P w K mg base CX0 2 f fd ["row","spots"] (spE K C 2 YV) :=
 okE F sc_ended_at rfl fun _ _ _ _ _ _ hr hu=>⟨_,(Jc (psN 2 sc_ended_at.nd (YE Jd))
  (Jc (psN 3 sc_ended_at.nd Jf)
  (Jc (Yv Ge rfl (ZX (K:=K) rfl rfl qe (Ja (pv 1) Jd)) (Ju (K:=K) (n:=2) rfl rfl (Je (Jr (i:=4) sc_ended_at.nd rfl (.inl rfl)) (Je (Jr (i:=5) sc_ended_at.nd rfl (.inl rfl)) Jv)) rfl rfl) (Jc (psN 6 sc_ended_at.nd (Jj qw (hrM hr) rfl (Ja (pv 0) (Ja (pv 5) Jd))))
  (Jc (psN 7 sc_ended_at.nd (Jl J2 (pv 6) (pv 3)))
  (Jc (J7 (Uh (K:=K) rfl Q6 GS GU YQ (pv 2) (Ja (JP (Ja (Jl J2 (Jl (JD (K:=K) rfl) (pv 5) (Jl YR Jf (pv 4))) (pv 7)) (Ja (Jl (JD (K:=K) rfl) (pv 7) Jf) Jd))) Jd)))
  (Jg (psN 3 sc_ended_at.nd (pv 6)))))))
  (Jg (Jw (pv 2)))))),by walk_at "s"⟩
theorem sc_put_in:FnScope ["row","pairs","spots","spot","number"] ["row","pairs"] (Ji Jab):=by walk_at "c"
theorem JhA{f:Addr}{fd:FuncData}(F:Fun K "put_in" "put_in" Jab f fd)(qj:mg "sorted"=none)(qt:mg "len"=none)(qk:mg "sum"=none)(qd:GV mg "MOST_STRETCHES" (.int 30))(qy:CalM P w K mg base "Row" C 2 ["self","stretches"] (U9 C K))(qJ:Cal P w K mg base "ended_at" 2 ["row","spots"] (spE K C 2 YV))(T:RowC K C):FnOk P w K mg base CX0 4 f fd ["row","pairs"] (spE K C 2 Y9) :=
 okE F sc_put_in rfl fun _ _ _ _ _ _ hr hu=>⟨_,(Jc (Ys (Js WR (Jl (JD (K:=K) rfl) (Jt (YL (K:=K) rfl) rfl qt Vu (Ja (JQ (K:=K) rfl (pv 0) rfl) Jd)) (Jt (Y8 (K:=K) rfl rfl) rfl qk Wn (Ja (JY (N':=["spot","number"]) (imp:=[none,none]) rfl (piK K (pv 1)) (WZ rfl rfl) (fun _ _ _ _=>(Ju (K:=K) (n:=2) rfl rfl (Je (pgN 0 Jq2) (Je (pgN 1 Jq2) Jv)) rfl rfl)) (fun _ _ _ _=>JG) (fun _ _ _ _=>(pv 1))) Jd))) (ZW rfl qd) (Jx _)) (Jg YZ) JK)
  (Jc (Z3 (i:=2) (N':=["begin","length"]) (imp:=[none,none]) sc_put_in.nd rfl (.inl rfl) rfl (piK K (JQ (K:=K) rfl (pv 0) rfl)) (WZ rfl rfl) (fun _ _ _ _=>(Ju (K:=K) (n:=2) rfl rfl (Je (pgN 0 Jhx) (Je (pgN 1 Jhx) Jv)) rfl rfl)) (fun _ _ _ _=>JG) (fun _ _ _ _=>(Jl (JD (K:=K) rfl) (pv 0) (pv 1))) rfl (.inl rfl))
  (Jc (Yv Ge rfl (piK K (pv 1)) (Ju (K:=K) (n:=2) rfl rfl (Je (Jr (i:=3) sc_put_in.nd rfl (.inl rfl)) (Je (Jr (i:=4) sc_put_in.nd rfl (.inl rfl)) Jv)) rfl rfl) (Jg (J7 (Uh (K:=K) rfl Q6 KZ K0 Vk (pv 2) (Ja (Jl Jjx (YE (Ja (pv 3) Jd)) (pv 4)) Jd)))))
  (Jg (Jw (U0 qy (hrM hr) rfl (Ja (Jj qJ (hrM hr) rfl (Ja (pv 0) (Ja (Jt (Jbk (K:=K) rfl rfl) rfl qj JaL (Ja (pv 2) Jd)) Jd))) Jd))))))),by walk_at "s"⟩
theorem sc_check_table:FnScope ["table","ahead","size","spot","number"] ["table"] (Ji Uw):=by walk_at "c"
theorem ZT{f:Addr}{fd:FuncData}(F:Fun K "check_table" "check_table" Uw f fd)(qk:mg "sum"=none)(qz:GV mg "MOST_LUMPS" (.int 30)):FnOk P w K mg base CX0 1 f fd ["table"] (spE K C 1 JU) :=
 okE F sc_check_table rfl fun _ _ _ _ _ _ hr hu=>⟨_,(Jc (psN 1 sc_check_table.nd YF)
  (Jc (Yv Ge rfl (piK K (pv 0)) (Ju (K:=K) (n:=3) rfl rfl (Je (Jr (i:=2) sc_check_table.nd rfl (.inl rfl)) (Je (Jr (i:=3) sc_check_table.nd rfl (.inl rfl)) (Je (Jr (i:=4) sc_check_table.nd rfl (.inl rfl)) Jv))) rfl rfl) (Jc (Ys (PW.pt (WW (Js Ja3 (pv 2) Jf (Jx _)) (WA (Js Ja3 (pv 4) Jf (Jx _))))) (Jg YZ) JK)
  (Jc (Ys (PW.pt (VH (Js V8 (pv 1) YF (Jx _)) (UR (Js (Jo9 (K:=K) rfl (Ke (Mf _ 64) hu)) (JP (Ja (pv 2) (Ja (pv 3) Jd))) (pv 1) (Jx _))))) (Jg YZ) JK)
  (Jg (psN 1 sc_check_table.nd (JP (Ja (pv 2) (Ja (pv 3) Jd))))))))
  (Jg (Ys (Js WR (Jt (Y8 (K:=K) rfl rfl) rfl qk Wn (Ja (JY (N':=["size","spot","number"]) (imp:=[none,none,none]) rfl (piK K (pv 0)) (WZ rfl rfl) (fun _ _ _ _=>(Ju (K:=K) (n:=3) rfl rfl (Je (pgN 0 JoU) (Je (pgN 1 JoU) (Je (pgN 2 JoU) Jv))) rfl rfl)) (fun _ _ _ _=>JG) (fun _ _ _ _=>(pv 2))) Jd)) (ZW rfl qz) (Jx _)) (Jg YZ) JK)))),by walk_at "s"⟩
theorem sc_row_of:FnScope ["table","lumps","size","spot","number","sizes","row","lesser"] ["table"] (Ji Jac):=by walk_at "c"
theorem JhB{f:Addr}{fd:FuncData}(F:Fun K "row_of" "row_of" Jac f fd)(ql:mg "reversed"=none)(qm:mg "list"=none)(qD:mg "zip"=none)(qE:Cal P w K mg base "thickened" 4 ["row","layers"] (spE K C 2 Yn))(qS:Cal P w K mg base "put_in" 4 ["row","pairs"] (spE K C 2 Y9))(qy:CalM P w K mg base "Row" C 2 ["self","stretches"] (U9 C K))(qf:Cal P w K mg base "check_table" 1 ["table"] (spE K C 1 JU)):FnOk P w K mg base CX0 5 f fd ["table"] (spE K C 1 J8) :=
 okE F sc_row_of rfl fun _ _ _ _ _ _ hr hu=>⟨_,(Jc (J7 (Jj qf (hrM hr) rfl (Ja (pv 0) Jd)))
  (Jc (psN 1 sc_row_of.nd Wa)
  (Jc (Yv Ge rfl (piK K (pv 0)) (Ju (K:=K) (n:=3) rfl rfl (Je (Jr (i:=2) sc_row_of.nd rfl (.inl rfl)) (Je (Jr (i:=3) sc_row_of.nd rfl (.inl rfl)) (Je (Jr (i:=4) sc_row_of.nd rfl (.inl rfl)) Jv))) rfl rfl) (Jg (J7 (Uh (K:=K) rfl Q6 GS GU YQ (Jdr (pv 1) (pv 2) (YE Jd) ⟨rfl,rfl,rfl,rfl⟩) (Ja (JP (Ja (pv 3) (Ja (pv 4) Jd))) Jd)))))
  (Jc (psN 5 sc_row_of.nd (UE (Jec rfl) rfl qm UM (Ja (pv 1) Jd)))
  (Jc (psN 6 sc_row_of.nd (U0 qy (hrM hr) rfl (Ja (YE Jd) Jd)))
  (Jc (Yv Ge rfl (Jl8 (K:=K) rfl rfl ql (Ja (Jdu (K:=K) rfl rfl rfl qm rfl qD (Ja (Jl (JD (K:=K) rfl) (YE (Ja Jf Jd)) (pv 5)) (Ja (pv 5) Jd))) Jd)) (Ju (K:=K) (n:=2) rfl rfl (Je (Jr (i:=7) sc_row_of.nd rfl (.inl rfl)) (Je (Jr (i:=2) sc_row_of.nd rfl (.inl rfl)) Jv)) rfl rfl) (Jg (psN 6 sc_row_of.nd (Jj qE (hrM hr) rfl (Ja (Jj qS (hrM hr) rfl (Ja (pv 6) (Ja (Jgh (WN hr) (pv 1) (pv 2) (fun _ _=>rfl)) Jd))) (Ja (Jl J2 (Jl J2 (pv 2) (pv 7)) Jf) Jd))))))
  (Jg (Jw (pv 6))))))))),(Jar (JkM (Jb7 (YS (Uq 0) Vp)))
  (Jar (JnQ Jka)
  (Jar (JrX (JrC 0) (Jom (Jbz (JiQ (by decide)) (Jbz (JiQ (by decide)) (Jbz (JiQ (by decide)) Jol))) rfl) (Uq 2) (JnI (YS (Uq 3) (YS (Uq 4) Vp))))
  (Jar (Jck (JmG (Uq 1)))
  (Jar (Jck (JnH (YS (Jkd Vp) Vp)))
  (Jar (JnP (JpS (YS (JpX (YS (JmH Jnz (Jkd (YS Jkc Vp)) (Uq 5)) (YS (Uq 5) Vp))) Vp)) (Jnl (Jew (Jok 7) (Jew (Jok 2) Jnk)) rfl) (Jck (Jb7 (YS (Jb7 (YS (Uq 6) (YS (JnG (Uq 1) (Uq 2)) Vp))) (YS (JmH Jjr (JmH Jjr (Uq 2) (Uq 7)) Jkc) Vp)))))
  JkN))))))⟩
theorem JdE:FnScope ["size","seats"] ["size","seats"] (Ji VM):=by walk_at "c"
theorem Jdn{f:Addr}{fd:FuncData}(F:Fun K "share_of" "share_of" VM f fd)(qC:mg "min"=none):FnOk P w K mg base CX0 1 f fd ["size","seats"] (spE K C 2 YW) :=
 okE F JdE rfl fun _ _ _ _ _ _ hr hu=>⟨_,(Jg (Jw (Jds (Js JbY (pv 1) YF (Jx _)) (pv 0) (Jt (Wo rfl) rfl qC Jbh (Ja (pv 0) (Ja (pv 1) Jd)))))),by walk_at "s"⟩
theorem Jaf:FnScope ["seats"] ["seats"] (Ji Uv):=by walk_at "c"
theorem ZS{f:Addr}{fd:FuncData}(F:Fun K "check_seats" "check_seats" Uv f fd) :FnOk P w K mg base CX0 1 f fd ["seats"] (spE K C 1 Yh) :=
 okE F Jaf rfl fun _ _ _ _ _ _ hr hu=>⟨_,(Jg (Ys (PW.pt (VH (Js V8 (pv 0) YF (Jx _)) (UR (Js Ja3 (pv 0) Jf (Jx _))))) (Jg YZ) JK)),by walk_at "s"⟩
theorem Je8:FnScope ["table","seats","times"] ["table","seats","times"] (Ji WF):=by walk_at "c"
theorem JeW{f:Addr}{fd:FuncData}(F:Fun K "shifted" "shifted" WF f fd)(qK:Cal P w K mg base "share_of" 1 ["size","seats"] (spE K C 2 YW))(qf:Cal P w K mg base "check_table" 1 ["table"] (spE K C 1 JU))(qx:Cal P w K mg base "check_seats" 1 ["seats"] (spE K C 1 Yh)):FnOk P w K mg base CX0 2 f fd ["table","seats","times"] (spE K C 3 Yi) :=
 okE F Je8 rfl fun _ _ _ _ _ _ hr hu=>⟨_,(Jc (J7 (Jj qx (hrM hr) rfl (Ja (pv 1) Jd)))
  (Jc (J7 (Jj qf (hrM hr) rfl (Ja (pv 0) Jd)))
  (Jg (Jw (JY (N':=["size","spot","number","times","seats"]) (imp:=[none,none,none,some 2,some 1]) rfl (piK K (pv 0)) (Jcv (own:=["size","spot","number"]) (fr:=[("times",2),("seats",1)]) rfl rfl rfl ⟨rfl,rfl,trivial⟩ rfl ⟨⟨rfl,rfl,rfl⟩,⟨rfl,rfl,rfl⟩,trivial⟩) (fun _ _ _ _=>(Ju (K:=K) (n:=3) rfl rfl (Je (pgN 0 JoV) (Je (pgN 1 JoV) (Je (pgN 2 JoV) Jv))) rfl rfl)) (fun _ _ _ _=>JG) (fun _ _ _ _=>(JP (Ja (pv 0) (Ja (Jl (JD (K:=K) rfl) (pv 1) (Jl Jgg (pv 3) (Jj qK (hrM hr) rfl (Ja (pv 0) (Ja (pv 4) Jd))))) (Ja (pv 2) Jd)))))))))),by walk_at "s"⟩
theorem sc_closed_up:FnScope ["pairs","stretches","begin","length","ahead"] ["pairs"] (Ji U3):=by walk_at "c"
theorem JbS{f:Addr}{fd:FuncData}(F:Fun K "closed_up" "closed_up" U3 f fd)(qk:mg "sum"=none):FnOk P w K mg base CX0 1 f fd ["pairs"] (spE K C 1 Yl) :=
 okE F sc_closed_up rfl fun _ _ _ _ _ _ hr hu=>⟨_,(Jc (psN 1 sc_closed_up.nd (YE Jd))
  (Jc (Yv Ge rfl (piK K (pv 0)) (Ju (K:=K) (n:=2) rfl rfl (Je (Jr (i:=2) sc_closed_up.nd rfl (.inl rfl)) (Je (Jr (i:=3) sc_closed_up.nd rfl (.inl rfl)) Jv)) rfl rfl) (Jg (Ys (PW.pt (VH (YG (K:=K) rfl (pv 1) (fun _=>rfl)) (UR (Js (ZV (K:=K) rfl hu) (Jt (Y8 (K:=K) rfl rfl) rfl qk Wn (Ja (pxK K (pv 1) (Jgi Jci Jf)) Jd)) (pv 2) (Jx _))))) (Jc (psN 4 sc_closed_up.nd (Jl3 (K:=K) rfl Q6 PySem.F.slot_list_pop PySem.F.type_list_pop JoR (pv 1)))
  (Jg (J7 (Uh (K:=K) rfl Q6 GS GU YQ (pv 1) (Ja (JP (Ja (pxK K (pv 4) Jf) (Ja (Jl (JD (K:=K) rfl) (pxK K (pv 4) Jf) (pv 3)) Jd))) Jd))))) (Jg (Ys (Js WR (pv 3) Jf (Jx _)) (Jg (J7 (Uh (K:=K) rfl Q6 GS GU YQ (pv 1) (Ja (JP (Ja (pv 2) (Ja (pv 3) Jd))) Jd)))) JK)))))
  (Jg (Jw (pv 1))))),by walk_at "s"⟩
theorem Je6:FnScope ["row"] ["row"] (Ji WC):=by walk_at "c"
theorem JeT{f:Addr}{fd:FuncData}(F:Fun K "gaps_of" "gaps_of" WC f fd)(qk:mg "sum"=none)(qD:mg "zip"=none)(T:RowC K C):FnOk P w K mg base CX0 1 f fd ["row"] (spE K C 1 Ub) :=
 okE F Je6 rfl fun _ _ _ _ _ _ hr hu=>⟨_,(Jg (Jw (JY (N':=["left","right"]) (imp:=[none,none]) rfl (Jb1 (K:=K) rfl rfl qD (Ja (JQ (K:=K) rfl (pv 0) rfl) (Ja (Wb (Zg (K:=K) rfl) (JQ (K:=K) rfl (pv 0) rfl) (Ze Jf) Zd) Jd))) (WZ rfl rfl) (fun _ _ _ _=>(Ju (K:=K) (n:=2) rfl rfl (Je (pgN 0 Jq3) (Je (pgN 1 Jq3) Jv)) rfl rfl)) (fun _ _ _ _=>JG) (fun _ _ _ _=>(Jl J2 (pxK K (pv 1) Jf) (Jt (Y8 (K:=K) rfl rfl) rfl qk Wn (Ja (pv 0) Jd))))))),by walk_at "s"⟩
theorem Jca:FnScope ["row"] ["row"] (Ji U4):=by walk_at "c"
theorem JbT{f:Addr}{fd:FuncData}(F:Fun K "closes_at" "closes_at" U4 f fd)(qC:mg "min"=none)(qL:Cal P w K mg base "gaps_of" 1 ["row"] (spE K C 1 Ub))(T:RowC K C):FnOk P w K mg base CX0 2 f fd ["row"] (spE K C 1 JR) :=
 okE F Jca rfl fun _ _ _ _ _ _ hr hu=>⟨_,(Jg (Jw (JhD (Jef (K:=K) rfl rfl) rfl qC Jbh (Ja (Jl (JD (K:=K) rfl) (JY (N':=["begin","length"]) (imp:=[none,none]) rfl (piK K (JQ (K:=K) rfl (pv 0) rfl)) (WZ rfl rfl) (fun _ _ _ _=>(Ju (K:=K) (n:=2) rfl rfl (Je (pgN 0 Jhx) (Je (pgN 1 Jhx) Jv)) rfl rfl)) (fun _ _ _ _=>JG) (fun _ _ _ _=>(pv 1))) (Jj qL (hrM hr) rfl (Ja (pv 0) Jd))) Jd) YF))),by walk_at "s"⟩
theorem sc_thinned:FnScope ["row","layers","left","still","at_once"] ["row","layers"] (Ji WG):=by walk_at "c"
theorem JeX{f:Addr}{fd:FuncData}(F:Fun K "thinned" "thinned" WG f fd)(qC:mg "min"=none)(qy:CalM P w K mg base "Row" C 2 ["self","stretches"] (U9 C K))(qF:Cal P w K mg base "closed_up" 1 ["pairs"] (spE K C 1 Yl))(qg:Cal P w K mg base "by_layers" 1 ["row","layers"] (spE K C 2 JZ))(qh:Cal P w K mg base "closes_at" 2 ["row"] (spE K C 1 JR))(T:RowC K C):FnOk P w K mg base CX0 4 f fd ["row","layers"] (spE K C 2 J1) :=
 okE F sc_thinned rfl fun _ _ _ _ _ _ hr hu=>⟨_,(Jc (psN 2 sc_thinned.nd (U0 qy (hrM hr) rfl (Ja (JQ (K:=K) rfl (pv 0) rfl) Jd)))
  (Jc (psN 3 sc_thinned.nd (pv 1))
  (Jc (Jdw Ge (PW.pt (VH (Js WR (pv 3) Jf (Jx _)) (UR (YG (K:=K) rfl (JQ (K:=K) rfl (pv 2) rfl) (fun _=>rfl))))) (Jc (psN 4 sc_thinned.nd (Jt (Wo rfl) rfl qC Jbh (Ja (pv 3) (Ja (Jj qh (hrM hr) rfl (Ja (pv 2) Jd)) Jd))))
  (Jc (psN 2 sc_thinned.nd (U0 qy (hrM hr) rfl (Ja (Jj qF (hrM hr) rfl (Ja (Jj qg (hrM hr) rfl (Ja (pv 2) (Ja (Jgi Jci (pv 4)) Jd))) Jd)) Jd)))
  (Jg (JjK (i:=3) sc_thinned.nd rfl (.inl rfl) (pv 4) Jop)))))
  (Jg (Jw (pv 2)))))),by walk_at "s"⟩
theorem Je5:FnScope ["row","place"] ["row","place"] (Ji WB):=by walk_at "c"
theorem JeS{f:Addr}{fd:FuncData}(F:Fun K "ball_at" "ball_at" WB f fd)(wc:mg "any"=none)(T:RowC K C):FnOk P w K mg base CX0 1 f fd ["row","place"] (spE K C 2 YM) :=
 okE F Je5 rfl fun _ _ _ _ _ _ hr hu=>⟨_,(Jg (Jw (Jt (JgW (K:=K) rfl rfl) rfl wc JnW (Ja (JY (N':=["begin","length","place"]) (imp:=[none,none,some 1]) rfl (piK K (JQ (K:=K) rfl (pv 0) rfl)) (Jcv (own:=["begin","length"]) (fr:=[("place",1)]) rfl rfl rfl ⟨rfl,trivial⟩ rfl ⟨⟨rfl,rfl,rfl⟩,trivial⟩) (fun _ _ _ _=>(Ju (K:=K) (n:=2) rfl rfl (Je (pgN 0 JlT) (Je (pgN 1 JlT) Jv)) rfl rfl)) (fun _ _ _ _=>JG) (fun _ _ _ _=>(Jjy Jjv Ja3 (pv 0) (pv 2) (Jl (JD (K:=K) rfl) (pv 0) (pv 1))))) Jd)))),by walk_at "s"⟩
theorem Je7:FnScope ["left","spot"] ["left","spot"] (Ji WE):=by walk_at "c"
theorem JeV{f:Addr}{fd:FuncData}(F:Fun K "owed_at" "owed_at" WE f fd)(qH:Cal P w K mg base "ball_at" 1 ["row","place"] (spE K C 2 YM)):FnOk P w K mg base CX0 2 f fd ["left","spot"] (spE K C 2 Ud) :=
 okE F Je7 rfl fun _ _ _ _ _ _ hr hu=>⟨_,(Jg (Jw (Jds (PW.pt (VH (YG (K:=K) rfl (Jj qH (hrM hr) rfl (Ja (pv 0) (Ja (Jl J2 (pv 1) Jf) Jd))) (fun _=>rfl)) (UR (VG (YG (K:=K) rfl (Jj qH (hrM hr) rfl (Ja (pv 0) (Ja (pv 1) Jd))) (fun _=>rfl)))))) Jf Jf))),by walk_at "s"⟩
theorem sc_struck:FnScope ["row","left","pairs","ahead","stretch","spot"] ["row"] (Ji Jad):=by walk_at "c"
theorem JhC{f:Addr}{fd:FuncData}(F:Fun K "struck" "struck" Jad f fd)(qe:mg "enumerate"=none)(qk:mg "sum"=none)(qM:Cal P w K mg base "owed_at" 2 ["left","spot"] (spE K C 2 Ud))(qo:Cal P w K mg base "thinned" 4 ["row","layers"] (spE K C 2 J1))(T:RowC K C):FnOk P w K mg base CX0 5 f fd ["row"] (spE K C 1 Ua) :=
 okE F sc_struck rfl fun _ _ _ _ _ _ hr hu=>⟨_,(Jc (Z1 (i:=1) sc_struck.nd rfl (.inr rfl) (Jj qo (hrM hr) rfl (Ja (pv 0) (Ja Jf Jd))))
  (Jc (psN 2 sc_struck.nd Wa)
  (Jc (Yv Ge rfl (ZX (K:=K) rfl rfl qe (Ja (JQ (K:=K) rfl (pv 0) rfl) Jd)) (Ju (K:=K) (n:=2) rfl rfl (Je (Jr (i:=3) sc_struck.nd rfl (.inl rfl)) (Je (Jr (i:=4) sc_struck.nd rfl (.inl rfl)) Jv)) rfl rfl) (Jc (psN 5 sc_struck.nd (Jl J2 (Jl J2 (Jt (Y8 (K:=K) rfl rfl) rfl qk Wn (Ja (pv 4) Jd)) Jf) (Jl YR Jf (pv 3))))
  (Jg (Jb2 (WN hr) (pv 2) (pv 5) (Jl (JD (K:=K) rfl) (Jdq (WN hr) (pv 2) (pv 5) Jf ⟨rfl,rfl,rfl,rfl⟩) Jf) rfl))))
  (Jg (Jmf 2 (Jw (JY (N':=["spot","number","left"]) (imp:=[none,none,some 1]) rfl (JjG (pv 2)) (Jcv (own:=["spot","number"]) (fr:=[("left",1)]) rfl rfl rfl ⟨rfl,trivial⟩ rfl ⟨⟨rfl,rfl,rfl⟩,trivial⟩) (fun _ _ _ _=>(Ju (K:=K) (n:=2) rfl rfl (Je (pgN 0 Jq4) (Je (pgN 1 Jq4) Jv)) rfl rfl)) (fun _ _ _ _=>JG) (fun _ _ _ _=>(JP (Ja (pv 0) (Ja (pv 1) (Ja (Jj qM (hrM hr) rfl (Ja (pv 2) (Ja (pv 0) Jd))) Jd)))))))))))),by walk_at "s"⟩
theorem sc_table_of:FnScope ["row","table","left","size","layers"] ["row"] (Ji VN):=by walk_at "c"
theorem Jdo{f:Addr}{fd:FuncData}(F:Fun K "table_of" "table_of" VN f fd)(qo:Cal P w K mg base "thinned" 4 ["row","layers"] (spE K C 2 J1))(qT:Cal P w K mg base "struck" 5 ["row"] (spE K C 1 Ua))(qh:Cal P w K mg base "closes_at" 2 ["row"] (spE K C 1 JR))(T:RowC K C):FnOk P w K mg base CX0 6 f fd ["row"] (spE K C 1 Yj) :=
 okE F sc_table_of rfl fun _ _ _ _ _ _ hr hu=>⟨_,(Jc (psN 1 sc_table_of.nd (YE Jd))
  (Jc (psN 2 sc_table_of.nd (pv 0))
  (Jc (Z1 (i:=3) sc_table_of.nd rfl (.inr rfl) Jf)
  (Jc (Jdw Ge (YG (K:=K) rfl (JQ (K:=K) rfl (pv 2) rfl) (fun _=>rfl)) (Jc (psN 4 sc_table_of.nd (Jj qh (hrM hr) rfl (Ja (pv 2) Jd)))
  (Jc (JjK (i:=3) sc_table_of.nd rfl (.inr rfl) (pv 4) Joo)
  (Jc (psN 2 sc_table_of.nd (Jj qo (hrM hr) rfl (Ja (pv 2) (Ja (Jl J2 (pv 4) Jf) Jd))))
  (Jc (J7 (Uh (K:=K) rfl Q6 KZ K0 Vk (pv 1) (Ja (JY (N':=["spot","pairs","owed","size"]) (imp:=[none,none,none,some 3]) rfl (piK K (Jj qT (hrM hr) rfl (Ja (pv 2) Jd))) (Jcv (own:=["spot","pairs","owed"]) (fr:=[("size",3)]) rfl rfl rfl ⟨rfl,trivial⟩ rfl ⟨⟨rfl,rfl,rfl⟩,trivial⟩) (fun _ _ _ _=>(Ju (K:=K) (n:=3) rfl rfl (Je (pgN 0 JoW) (Je (pgN 1 JoW) (Je (pgN 2 JoW) Jv))) rfl rfl)) (fun _ _ _ _=>(Jdv (Js WR (pv 1) (pv 2) (Jx _)))) (fun _ _ _ _=>(JP (Ja (pv 3) (Ja (pv 0) (Ja (Jl J2 (pv 1) (pv 2)) Jd)))))) Jd)))
  (Jg (psN 2 sc_table_of.nd (Jj qo (hrM hr) rfl (Ja (pv 2) (Ja Jf Jd))))))))))
  (Jg (Jw (pv 1))))))),by walk_at "s"⟩
theorem sc_done:FnScope ["row","deeds","table","seats","times"] ["row","deeds"] (Ji Je3):=by walk_at "c"
theorem JlY{f:Addr}{fd:FuncData}(F:Fun K "done" "done" Je3 f fd)(qv:Cal P w K mg base "row_of" 5 ["table"] (spE K C 1 J8))(qO:Cal P w K mg base "shifted" 2 ["table","seats","times"] (spE K C 3 Yi))(qp:Cal P w K mg base "table_of" 6 ["row"] (spE K C 1 Yj)):FnOk P w K mg base CX0 7 f fd ["row","deeds"] (spE K C 2 UP) :=
 okE F sc_done rfl fun _ _ _ _ _ _ hr hu=>⟨_,(Jc (psN 2 sc_done.nd (Jj qp (hrM hr) rfl (Ja (pv 0) Jd)))
  (Jc (Yv Ge rfl (piK K (pv 1)) (Ju (K:=K) (n:=2) rfl rfl (Je (Jr (i:=3) sc_done.nd rfl (.inl rfl)) (Je (Jr (i:=4) sc_done.nd rfl (.inl rfl)) Jv)) rfl rfl) (Jg (psN 2 sc_done.nd (Jj qO (hrM hr) rfl (Ja (pv 2) (Ja (pv 3) (Ja (pv 4) Jd)))))))
  (Jg (Jw (Jj qv (hrM hr) rfl (Ja (pv 2) Jd)))))),by walk_at "s"⟩
theorem Jcb:FnScope ["found"] ["found"] (Ji U7):=by walk_at "c"
theorem JbW{f:Addr}{fd:FuncData}(F:Fun K "_law_whole" "_law_whole" U7 f fd)(qb:mg "isinstance"=none)(q5:mg "bool"=none)(we:mg "int"=none):FnOk P w K mg base CX0 1 f fd ["found"] (spE K C 1 Ym) :=
 okE F Jcb rfl fun _ _ _ _ _ _ hr hu=>⟨_,(Jg (Jw (Jpe (Jt (UA (K:=K) rfl) rfl qb Yx (Ja (pv 0) (Ja (V9 (v:=V.ty "int") rfl we JnX rfl) Jd))) (Jpi (Jph (Jt (UA (K:=K) rfl) rfl qb Yx (Ja (pv 0) (Ja (V9 (v:=V.ty "bool") rfl q5 Jk0 rfl) Jd)))))))),by walk_at "s"⟩
theorem sc_law_ascending:FnScope ["found","last","seats","goings"] ["found"] (Ji Y3):=by walk_at "c"
theorem Wy{f:Addr}{fd:FuncData}(F:Fun K "_law_ascending" "_law_ascending" Y3 f fd)(qu:Cal P w K mg base "_law_whole" 1 ["found"] (spE K C 1 Ym)):FnOk P w K mg base CX0 2 f fd ["found"] (spE K C 1 JS) :=
 okE F sc_law_ascending rfl fun _ _ _ _ _ _ hr hu=>⟨_,(Jc (psN 1 sc_law_ascending.nd Jf)
  (Jc (Yv Ge rfl (piK K (pv 0)) (Ju (K:=K) (n:=2) rfl rfl (Je (Jr (i:=2) sc_law_ascending.nd rfl (.inl rfl)) (Je (Jr (i:=3) sc_law_ascending.nd rfl (.inl rfl)) Jv)) rfl rfl) (Jc (Ys (PW.pt (WW (Js JbY (pv 1) YF (Jx _)) (WW (VG (YG (K:=K) rfl (Jj qu (hrM hr) rfl (Ja (pv 3) Jd)) (fun _=>rfl))) (WA (Js (ZV (K:=K) rfl hu) (pv 3) Jf (Jx _)))))) (Jg (Jw WS)) JK)
  (Jc (Ys (PW.pt (VH (Js V8 (pv 2) YF (Jx _)) (UR (PW.pt (WW (VG (YG (K:=K) rfl (Jj qu (hrM hr) rfl (Ja (pv 2) Jd)) (fun _=>rfl))) (WA (Js Jjv (pv 2) (pv 1) (Jx _)))))))) (Jg (Jw WS)) JK)
  (Jg (psN 1 sc_law_ascending.nd (pv 2))))))
  (Jg (Jw WS)))),by walk_at "s"⟩
theorem sc_growths:FnScope ["told","pairs","ahead","size","by","steps","growth","over"] ["told"] (Ji WD):=by walk_at "c"
theorem JeU{f:Addr}{fd:FuncData}(F:Fun K "growths" "growths" WD f fd) :FnOk P w K mg base CX0 1 f fd ["told"] (spE K C 1 Uc) :=
 okE F sc_growths rfl fun _ _ _ _ _ _ hr hu=>⟨_,(Jc (psN 1 sc_growths.nd (YE Jd))
  (Jc (psN 2 sc_growths.nd (JP (Ja Jf (Ja Jf Jd))))
  (Jc (Yv Ge rfl (piK K (pv 0)) (Ju (K:=K) (n:=2) rfl rfl (Je (Jr (i:=3) sc_growths.nd rfl (.inl rfl)) (Je (Jr (i:=4) sc_growths.nd rfl (.inl rfl)) Jv)) rfl rfl) (Jc (psN 5 sc_growths.nd (Jl J2 (pv 3) (pxK K (pv 2) Jf)))
  (Jc (psN 6 sc_growths.nd (Jl Jdp (Jl J2 (pv 4) (pxK K (pv 2) Jf)) (pv 5)))
  (Jc (psN 7 sc_growths.nd (Jl J2 (Jl J2 (pv 4) (pxK K (pv 2) Jf)) (Jl Jgg (pv 6) (pv 5))))
  (Jc (Ys (Js WR (pv 7) Jf (Jx _)) (Jg (J7 (Uh (K:=K) rfl Q6 GS GU YQ (pv 1) (Ja (JP (Ja (Jl (JD (K:=K) rfl) (pxK K (pv 2) Jf) (pv 7)) (Ja (Jl (JD (K:=K) rfl) (pv 6) Jf) Jd))) Jd)))) JK)
  (Jc (J7 (Uh (K:=K) rfl Q6 GS GU YQ (pv 1) (Ja (JP (Ja (pv 3) (Ja (pv 6) Jd))) Jd)))
  (Jg (psN 2 sc_growths.nd (JP (Ja (pv 3) (Ja (pv 4) Jd)))))))))))
  (Jg (Jw (pv 1)))))),by walk_at "s"⟩
theorem sc_lumps_apart:FnScope ["row","lumps","size","spot","number"] ["row"] (Ji Ux):=by walk_at "c"
theorem ZU{f:Addr}{fd:FuncData}(F:Fun K "lumps_apart" "lumps_apart" Ux f fd)(qp:Cal P w K mg base "table_of" 6 ["row"] (spE K C 1 Yj)):FnOk P w K mg base CX0 7 f fd ["row"] (spE K C 1 J4) :=
 okE F sc_lumps_apart rfl fun _ _ _ _ _ _ hr hu=>⟨_,(Jc (psN 1 sc_lumps_apart.nd (YE Jd))
  (Jc (Yv Ge rfl (piK K (Jj qp (hrM hr) rfl (Ja (pv 0) Jd))) (Ju (K:=K) (n:=3) rfl rfl (Je (Jr (i:=2) sc_lumps_apart.nd rfl (.inl rfl)) (Je (Jr (i:=3) sc_lumps_apart.nd rfl (.inl rfl)) (Je (Jr (i:=4) sc_lumps_apart.nd rfl (.inl rfl)) Jv))) rfl rfl) (Jg (J7 (Uh (K:=K) rfl Q6 KZ K0 Vk (pv 1) (Ja (Jl Jjx (YE (Ja (JP (Ja (pv 2) (Ja (pv 3) Jd))) Jd)) (pv 4)) Jd)))))
  (Jg (Jw (pv 1))))),by walk_at "s"⟩
theorem sc_moves:FnScope ["one","two","here","there","told","begun","led","by"] ["one","two"] (Ji Jb8):=by walk_at "c"
theorem Jjt{f:Addr}{fd:FuncData}(F:Fun K "moves" "moves" Jb8 f fd)(qm:mg "list"=none)(qD:mg "zip"=none)(qr:Cal P w K mg base "lumps_apart" 7 ["row"] (spE K C 1 J4)):FnOk P w K mg base CX0 8 f fd ["one","two"] (spE K C 2 UB) :=
 okE F sc_moves rfl fun _ _ _ _ _ _ hr hu=>⟨_,(Jc (psN 2 sc_moves.nd (Jj qr (hrM hr) rfl (Ja (pv 0) Jd)))
  (Jc (psN 3 sc_moves.nd (Jj qr (hrM hr) rfl (Ja (pv 1) Jd)))
  (Jc (Ys (Js (VF (K:=K) rfl hu) (JY (N':=["size","spot"]) (imp:=[none,none]) rfl (piK K (pv 2)) (WZ rfl rfl) (fun _ _ _ _=>(Ju (K:=K) (n:=2) rfl rfl (Je (pgN 0 Jgc) (Je (pgN 1 Jgc) Jv)) rfl rfl)) (fun _ _ _ _=>JG) (fun _ _ _ _=>(pv 0))) (JY (N':=["size","spot"]) (imp:=[none,none]) rfl (piK K (pv 3)) (WZ rfl rfl) (fun _ _ _ _=>(Ju (K:=K) (n:=2) rfl rfl (Je (pgN 0 Jgc) (Je (pgN 1 Jgc) Jv)) rfl rfl)) (fun _ _ _ _=>JG) (fun _ _ _ _=>(pv 0))) (Jx _)) (Jg (Jw YF)) JK)
  (Jc (psN 4 sc_moves.nd Wa)
  (Jc (Yv Ge rfl (Jb1 (K:=K) rfl rfl qD (Ja (pv 2) (Ja (pv 3) Jd))) (Ju (K:=K) (n:=2) rfl rfl (Je (Jr (i:=5) sc_moves.nd rfl (.inl rfl)) (Je (Jr (i:=6) sc_moves.nd rfl (.inl rfl)) Jv)) rfl rfl) (Jc (psN 7 sc_moves.nd (Jl J2 (pxK K (pv 6) Jf) (pxK K (pv 5) Jf)))
  (Jg (Ys (Js (VF (K:=K) rfl hu) (Jdr (pv 4) (pxK K (pv 5) Jf) (pv 7) ⟨rfl,rfl,rfl,rfl⟩) (pv 7) (Jx _)) (Jg (Jw YF)) JK))))
  (Jg (Jw (UE (Jeb rfl) rfl qm UM (Ja (JjB (pv 4)) Jd))))))))),by walk_at "s"⟩
theorem sc_ways:FnScope ["one","two","told","pairs","goings"] ["one","two"] (Ji Je4):=by walk_at "c"
theorem JlZ{f:Addr}{fd:FuncData}(F:Fun K "ways" "ways" Je4 f fd)(qD:mg "zip"=none)(qP:Cal P w K mg base "growths" 1 ["told"] (spE K C 1 Uc))(qU:Cal P w K mg base "moves" 8 ["one","two"] (spE K C 2 UB)):FnOk P w K mg base CX0 9 f fd ["one","two"] (spE K C 2 Um) :=
 okE F sc_ways rfl fun _ _ _ _ _ _ hr hu=>⟨_,(Jc (psN 2 sc_ways.nd (Jj qU (hrM hr) rfl (Ja (pv 0) (Ja (pv 1) Jd))))
  (Jc (Ys (Js JbY (pv 2) YF (Jx _)) (Jg (Jw YF)) JK)
  (Jc (psN 3 sc_ways.nd (Jj qP (hrM hr) rfl (Ja (pv 2) Jd)))
  (Jc (Z3 (i:=4) (N':=["here","behind"]) (imp:=[none,none]) sc_ways.nd rfl (.inl rfl) rfl (Jb1 (K:=K) rfl rfl qD (Ja (pv 3) (Ja (Wb (Zg (K:=K) rfl) (pv 3) (Ze Jf) Zd) Jd))) (WZ rfl rfl) (fun _ _ _ _=>(Ju (K:=K) (n:=2) rfl rfl (Je (pgN 0 Jnw) (Je (pgN 1 Jnw) Jv)) rfl rfl)) (fun _ _ _ _=>JG) (fun _ _ _ _=>(JP (Ja (pxK K (pv 0) Jf) (Ja (Jl J2 (pxK K (pv 0) Jf) (pxK K (pv 1) Jf)) Jd)))) rfl (.inl rfl))
  (Jc (J7 (Uh (K:=K) rfl Q6 KZ K0 Vk (pv 4) (Ja (JY (N':=["size","growth"]) (imp:=[none,none]) rfl (piK K (Wb (Zg (K:=K) rfl) (pv 3) (Ze (Jgi Jci Jf)) Zd)) (WZ rfl rfl) (fun _ _ _ _=>(Ju (K:=K) (n:=2) rfl rfl (Je (pgN 0 Jnx) (Je (pgN 1 Jnx) Jv)) rfl rfl)) (fun _ _ _ _=>JG) (fun _ _ _ _=>(JP (Ja YF (Ja (pv 1) Jd))))) Jd)))
  (Jg (Jw (JY (N':=["pair"]) (imp:=[none]) rfl (piK K (pv 4)) (WZ rfl rfl) (fun _ _ _ _=>(pgN 0 JqZ)) (fun _ _ _ _=>(Jdv (Js (VF (K:=K) rfl hu) (pxK K (pv 0) Jf) Jf (Jx _)))) (fun _ _ _ _=>(pv 0)))))))))),by walk_at "s"⟩
theorem JdD:FnScope ["script","k"] ["script","k"] (Ji VL):=by walk_at "c"
theorem Jdm{f:Addr}{fd:FuncData}(F:Fun K "_law_cell" "_law_cell" VL f fd)(qt:mg "len"=none):FnOk P w K mg base CX0 1 f fd ["script","k"] (spE K C 2 JM) :=
 okE F JdD rfl fun _ _ _ _ _ _ hr hu=>⟨_,(Jc (Ys (Js Ja3 (pv 1) (Jt (YL (K:=K) rfl) rfl qt Vu (Ja (pv 0) Jd)) (Jx _)) (Jg (Jw (pxK K (pv 0) (pv 1)))) JK)
  (Jg (Jw Jf))),by walk_at "s"⟩
theorem sc_law_moves:FnScope ["script","sizes","reach","told","k","cell","far"] ["script","sizes","reach"] (Ji U6):=by walk_at "c"
theorem JbV{f:Addr}{fd:FuncData}(F:Fun K "_law_moves" "_law_moves" U6 f fd)(qI:mg "range"=none)(qt:mg "len"=none)(qa:Cal P w K mg base "_law_cell" 1 ["script","k"] (spE K C 2 JM)):FnOk P w K mg base CX0 2 f fd ["script","sizes","reach"] (spE K C 3 YC) :=
 okE F sc_law_moves rfl fun _ _ _ _ _ _ hr hu=>⟨_,(Jc (psN 3 sc_law_moves.nd Wa)
  (Jc (Yv Ge rfl (Ja4 rfl qI (Ja (Jt (YL (K:=K) rfl) rfl qt Vu (Ja (pv 1) Jd)) Jd)) (Jr (i:=4) sc_law_moves.nd rfl (.inl rfl)) (Jc (psN 5 sc_law_moves.nd (Jj qa (hrM hr) rfl (Ja (pv 0) (Ja (Jl (JD (K:=K) rfl) Jf (pv 4)) Jd))))
  (Jc (psN 6 sc_law_moves.nd (Jl J2 (Jl Ut (Jl V7 (pv 5) Jf) (Jl (JD (K:=K) rfl) (Jl YR Jf (pv 2)) Jf)) (pv 2)))
  (Jg (Jb2 (WN hr) (pv 3) (pxK K (pv 1) (pv 4)) (pxK K (YE (Ja Jf (Ja (Jl J2 (Jl Ut (Jl V7 (pv 5) Jf) Jf) Jf) (Ja (pv 6) (Ja (Jl YR (pxK K (pv 1) (pv 4)) (Jl J2 (Jl Ut (Jl V7 (pv 5) Jf) Jf) Jf)) Jd))))) (Jl Ut (pv 5) Jf)) rfl)))))
  (Jg (Jw (pv 3))))),by walk_at "s"⟩
theorem sc_law_lumps:FnScope ["script","many","span","marks","k","size","spot"] ["script","many","span"] (Ji U5):=by walk_at "c"
theorem JbU{f:Addr}{fd:FuncData}(F:Fun K "_law_lumps" "_law_lumps" U5 f fd)(qj:mg "sorted"=none)(qI:mg "range"=none)(qa:Cal P w K mg base "_law_cell" 1 ["script","k"] (spE K C 2 JM)):FnOk P w K mg base CX0 2 f fd ["script","many","span"] (spE K C 3 YB) :=
 okE F sc_law_lumps rfl fun _ _ _ _ _ _ hr hu=>⟨_,(Jc (Z1 (i:=3) sc_law_lumps.nd rfl (.inr rfl) JjA)
  (Jc (Yv Ge rfl (Ja4 rfl qI (Ja (pv 1) Jd)) (Jr (i:=4) sc_law_lumps.nd rfl (.inl rfl)) (Jc (psN 5 sc_law_lumps.nd (Jl (JD (K:=K) rfl) Jf (Jl Ut (Jj qa (hrM hr) rfl (Ja (pv 0) (Ja (Jl (JD (K:=K) rfl) Jf (Jl YR Jf (pv 4))) Jd))) (pv 2))))
  (Jc (psN 6 sc_law_lumps.nd (Jl J2 (Jl Ut (Jj qa (hrM hr) rfl (Ja (pv 0) (Ja (Jl (JD (K:=K) rfl) Jf (Jl YR Jf (pv 4))) Jd))) (Jl (JD (K:=K) rfl) (Jl YR Jf (pv 2)) Jf)) (Jl YR Jf (pv 2))))
  (Jg (Jb2 (WN hr) (pv 3) (JP (Ja (pv 5) (Ja (pv 6) Jd))) (Jl (JD (K:=K) rfl) (Jl (JD (K:=K) rfl) (Jdq (WN hr) (pv 3) (JP (Ja (pv 5) (Ja (pv 6) Jd))) Jf ⟨rfl,rfl,rfl,rfl⟩) Jf) (Jl Ut (Jl Jdp (Jj qa (hrM hr) rfl (Ja (pv 0) (Ja (Jl (JD (K:=K) rfl) Jf (Jl YR Jf (pv 4))) Jd))) (pv 2)) Jf)) rfl)))))
  (Jg (Jw (JY (N':=["size","spot","marks"]) (imp:=[none,none,some 3]) rfl (piK K (Jt (Jcz rfl) rfl qj JaL (Ja (JjC (pv 3)) Jd))) (Jcv (own:=["size","spot"]) (fr:=[("marks",3)]) rfl rfl rfl ⟨rfl,trivial⟩ rfl ⟨⟨rfl,rfl,rfl⟩,trivial⟩) (fun _ _ _ _=>(Ju (K:=K) (n:=2) rfl rfl (Je (pgN 0 Jny) (Je (pgN 1 Jny) Jv)) rfl rfl)) (fun _ _ _ _=>JG) (fun _ _ _ _=>(JP (Ja (pv 0) (Ja (pv 1) (Ja (JhE (K:=K) rfl (WN hr) (pv 2) (JP (Ja (pv 0) (Ja (pv 1) Jd))) (fun _ _=>rfl)) Jd)))))))))),by walk_at "s"⟩
theorem sc_law:FnScope ["script","first","span","lumps","sizes","shifts","one","two","kept","told","found","pair"] ["script"] (Ji Wd):=by walk_at "c"
theorem Jo3{f:Addr}{fd:FuncData}(F:Fun K "law" "law" Wd f fd)(qm:mg "list"=none)(ql:mg "reversed"=none)(qt:mg "len"=none)(qb:mg "isinstance"=none)(qG:mg "tuple"=none)(qj:mg "sorted"=none)(wf:mg "set"=none)(q9:Cal P w K mg base "done" 7 ["row","deeds"] (spE K C 2 UP))(qq:Cal P w K mg base "_law_ascending" 2 ["found"] (spE K C 1 JS))(qV:Cal P w K mg base "ways" 9 ["one","two"] (spE K C 2 Um))(qv:Cal P w K mg base "row_of" 5 ["table"] (spE K C 1 J8))(qA:Cal P w K mg base "_law_moves" 2 ["script","sizes","reach"] (spE K C 3 YC))(qB:Cal P w K mg base "_law_lumps" 2 ["script","many","span"] (spE K C 3 YB))(qa:Cal P w K mg base "_law_cell" 1 ["script","k"] (spE K C 2 JM))(T:RowC K C):FnOk P w K mg base CX0 10 f fd ["script"] (spE K C 1 Jet) :=
 okE F sc_law rfl fun _ _ _ _ _ _ hr hu=>⟨_,(Jc (psN 1 sc_law.nd (Jj qa (hrM hr) rfl (Ja (pv 0) (Ja Jf Jd))))
  (Jc (psN 2 sc_law.nd (pxK K (YE (Ja Jf (Ja Jf (Ja (Jl Jjw Jf Jf) Jd)))) (Jl Ut (Jl V7 (pv 1) Jf) Jf)))
  (Jc (psN 3 sc_law.nd (Jj qB (hrM hr) rfl (Ja (pv 0) (Ja (Jl Ut (pv 1) Jf) (Ja (pv 2) Jd)))))
  (Jc (psN 4 sc_law.nd (JjD (K:=K) rfl rfl rfl qj rfl wf (JY (N':=["lump"]) (imp:=[none]) rfl (piK K (pv 3)) (WZ rfl rfl) (fun _ _ _ _=>(pgN 0 Jq0)) (fun _ _ _ _=>JG) (fun _ _ _ _=>(pxK K (pv 0) Jf)))))
  (Jc (Z1 (i:=5) sc_law.nd rfl (.inr rfl) (Jj qA (hrM hr) rfl (Ja (pv 0) (Ja (pv 4) (Ja (pxK K (YE (Ja (Jl YR Jf (pv 2)) (Ja (Jl Jjw Jf Jf) Jd))) (Jl Ut (Jl V7 (pv 1) Jf) Jf)) Jd)))))
  (Jc (psN 6 sc_law.nd (Jj qv (hrM hr) rfl (Ja (UE (Jed (K:=K) rfl) rfl qm UM (Ja (pv 3) Jd)) Jd)))
  (Jc (psN 7 sc_law.nd (Jj qv (hrM hr) rfl (Ja (JY (N':=["size","spot","number","shifts"]) (imp:=[none,none,none,some 5]) rfl (piK K (pv 3)) (Jcv (own:=["size","spot","number"]) (fr:=[("shifts",5)]) rfl rfl rfl ⟨rfl,trivial⟩ rfl ⟨⟨rfl,rfl,rfl⟩,trivial⟩) (fun _ _ _ _=>(Ju (K:=K) (n:=3) rfl rfl (Je (pgN 0 Jjq) (Je (pgN 1 Jjq) (Je (pgN 2 Jjq) Jv))) rfl rfl)) (fun _ _ _ _=>JG) (fun _ _ _ _=>(JP (Ja (pv 0) (Ja (Jl (JD (K:=K) rfl) (pv 1) (Jgh (WN hr) (pv 3) (pv 0) (fun _ _=>rfl))) (Ja (pv 2) Jd)))))) Jd)))
  (Jc (psN 8 sc_law.nd (JP (Ja (JQ (K:=K) rfl (pv 6) rfl) (Ja (JQ (K:=K) rfl (pv 7) rfl) Jd))))
  (Jc (psN 9 sc_law.nd (Jj qV (hrM hr) rfl (Ja (pv 6) (Ja (pv 7) Jd))))
  (Jc (Ys (VG (YG (K:=K) rfl (Jt (UA (K:=K) rfl) rfl qb Yx (Ja (pv 9) (Ja (V9 (v:=V.ty "list") rfl qm UM rfl) Jd))) (fun _=>rfl))) (Jg (Jw WS)) JK)
  (Jc (J7 (Uh (K:=K) rfl Q6 GS GU YQ (pv 9) (Ja (JP (Ja Jf (Ja Jf Jd))) Jd)))
  (Jc (psN 10 sc_law.nd (Jj qV (hrM hr) rfl (Ja (pv 6) (Ja (pv 7) Jd))))
  (Jc (Ys (PW.pt (WW (VG (YG (K:=K) rfl (Jt (UA (K:=K) rfl) rfl qb Yx (Ja (pv 10) (Ja (V9 (v:=V.ty "list") rfl qm UM rfl) Jd))) (fun _=>rfl))) (WW (Js (VF (K:=K) rfl hu) (pv 10) (Wb (Zg (K:=K) rfl) (pv 9) Zd (Ze (Jgi Jci Jf))) (Jx _)) (WA (Js WR (Jt (YL (K:=K) rfl) rfl qt Vu (Ja (pv 10) Jd)) (Jl YR Jf (Jt (YL (K:=K) rfl) rfl qt Vu (Ja (pv 4) Jd))) (Jx _)))))) (Jg (Jw WS)) JK)
  (Jc (Yv Ge rfl (piK K (pv 10)) (Jr (i:=11) sc_law.nd rfl (.inl rfl)) (Jg (Ys (PW.pt (WW (VG (YG (K:=K) rfl (Jt (UA (K:=K) rfl) rfl qb Yx (Ja (pv 11) (Ja (V9 (v:=V.ty "tuple") rfl qG Jcx rfl) Jd))) (fun _=>rfl))) (WA (Js (VF (K:=K) rfl hu) (Jt (YL (K:=K) rfl) rfl qt Vu (Ja (pv 11) Jd)) Jf (Jx _))))) (Jg (Jw WS)) JK)))
  (Jc (Ys (PW.pt (WW (VG (YG (K:=K) rfl (Jj qq (hrM hr) rfl (Ja (pv 10) Jd)) (fun _=>rfl))) (WA (Js (VF (K:=K) rfl hu) (JQ (K:=K) rfl (Jj q9 (hrM hr) rfl (Ja (pv 6) (Ja (Jdt (K:=K) rfl rfl rfl qm rfl ql (Ja (pv 10) Jd)) Jd))) rfl) (JQ (K:=K) rfl (pv 7) rfl) (Jx _))))) (Jg (Jw WS)) JK)
  (Jc (Ys (Js (VF (K:=K) rfl hu) (Jb0 (ZV (K:=K) rfl hu) (pv 10) (YE Jd) (Jx _)) (Jb0 (ZV (K:=K) rfl hu) (JQ (K:=K) rfl (pv 6) rfl) (JQ (K:=K) rfl (pv 7) rfl) (Jx _)) (Jx _)) (Jg (Jw WS)) JK)
  (Jg (Jw (Jb0 (ZV (K:=K) rfl hu) (pv 8) (JP (Ja (JQ (K:=K) rfl (pv 6) rfl) (Ja (JQ (K:=K) rfl (pv 7) rfl) Jd))) (Jx _)))))))))))))))))))),by walk_at "s"⟩
theorem vl1{α:Type}{us:List α}(h:us.length=1):∃a,us=[a]:=match us,h with|[a],_=>⟨a,rfl⟩
theorem vl2{α:Type}{us:List α}(h:us.length=2):∃a b,us=[a,b]:=match us,h with|[a,b],_=>⟨a,b,rfl⟩
theorem vl3{α:Type}{us:List α}(h:us.length=3):∃a b c,us=[a,b,c]:=match us,h with|[a,b,c],_=>⟨a,b,c,rfl⟩
local macro_rules | `(tactic| walk_at "b")=>`(tactic| (intro _ _ _ _ _ _ us hl;first | (obtain⟨_,e⟩:=vl1 hl;subst e;rfl) | (obtain⟨_,_,e⟩:=vl2 hl;subst e;rfl) | (obtain⟨_,_,_,e⟩:=vl3 hl;subst e;rfl)))
theorem all_mk{l:PySem.W.OpenLaw}{K:Frag}{h:Heap}{mg:Str->Option Value}(X:K.In h)(G:h.Ns mainGlobals mg)(hfa:mg "law"=some (.ref fa))(aC:nsIn K mainGlobals "Row"=some (some (.ref C)))(a1:nsIn K mainGlobals "check_stretches"=some (some (.ref f1)))(F1:Fun K "check_stretches" "check_stretches" YH f1 d1)(a2:findIn K (.ref C) "__init__"=some (some (.ref f2)))(i2:PySem.W.isFn K (.ref f2)=true)(F2:Fun K "__init__" "Row.__init__" VI f2 d2)(a3:nsIn K mainGlobals "by_layers"=some (some (.ref f3)))(F3:Fun K "by_layers" "by_layers" U2 f3 d3)(a4:nsIn K mainGlobals "thickened"=some (some (.ref f4)))(F4:Fun K "thickened" "thickened" U8 f4 d4)(a5:nsIn K mainGlobals "balls_below"=some (some (.ref f5)))(F5:Fun K "balls_below" "balls_below" Uu f5 d5)(a6:nsIn K mainGlobals "ended_at"=some (some (.ref f6)))(F6:Fun K "ended_at" "ended_at" VJ f6 d6)(a7:nsIn K mainGlobals "put_in"=some (some (.ref f7)))(F7:Fun K "put_in" "put_in" Jab f7 d7)(a8:nsIn K mainGlobals "check_table"=some (some (.ref f8)))(F8:Fun K "check_table" "check_table" Uw f8 d8)(a9:nsIn K mainGlobals "row_of"=some (some (.ref f9)))(F9:Fun K "row_of" "row_of" Jac f9 d9)(a10:nsIn K mainGlobals "share_of"=some (some (.ref f10)))(F10:Fun K "share_of" "share_of" VM f10 d10)(a11:nsIn K mainGlobals "check_seats"=some (some (.ref f11)))(F11:Fun K "check_seats" "check_seats" Uv f11 d11)(a12:nsIn K mainGlobals "shifted"=some (some (.ref f12)))(F12:Fun K "shifted" "shifted" WF f12 d12)(a13:nsIn K mainGlobals "closed_up"=some (some (.ref f13)))(F13:Fun K "closed_up" "closed_up" U3 f13 d13)(a14:nsIn K mainGlobals "gaps_of"=some (some (.ref f14)))(F14:Fun K "gaps_of" "gaps_of" WC f14 d14)(a15:nsIn K mainGlobals "closes_at"=some (some (.ref f15)))(F15:Fun K "closes_at" "closes_at" U4 f15 d15)(a16:nsIn K mainGlobals "thinned"=some (some (.ref f16)))(F16:Fun K "thinned" "thinned" WG f16 d16)(a17:nsIn K mainGlobals "ball_at"=some (some (.ref f17)))(F17:Fun K "ball_at" "ball_at" WB f17 d17)(a18:nsIn K mainGlobals "owed_at"=some (some (.ref f18)))(F18:Fun K "owed_at" "owed_at" WE f18 d18)(a19:nsIn K mainGlobals "struck"=some (some (.ref f19)))(F19:Fun K "struck" "struck" Jad f19 d19)(a20:nsIn K mainGlobals "table_of"=some (some (.ref f20)))(F20:Fun K "table_of" "table_of" VN f20 d20)(a21:nsIn K mainGlobals "done"=some (some (.ref f21)))(F21:Fun K "done" "done" Je3 f21 d21)(a22:nsIn K mainGlobals "_law_whole"=some (some (.ref f22)))(F22:Fun K "_law_whole" "_law_whole" U7 f22 d22)(a23:nsIn K mainGlobals "_law_ascending"=some (some (.ref f23)))(F23:Fun K "_law_ascending" "_law_ascending" Y3 f23 d23)(a24:nsIn K mainGlobals "growths"=some (some (.ref f24)))(F24:Fun K "growths" "growths" WD f24 d24)(a25:nsIn K mainGlobals "lumps_apart"=some (some (.ref f25)))(F25:Fun K "lumps_apart" "lumps_apart" Ux f25 d25)(a26:nsIn K mainGlobals "moves"=some (some (.ref f26)))(F26:Fun K "moves" "moves" Jb8 f26 d26)(a27:nsIn K mainGlobals "ways"=some (some (.ref f27)))(F27:Fun K "ways" "ways" Je4 f27 d27)(a28:nsIn K mainGlobals "_law_cell"=some (some (.ref f28)))(F28:Fun K "_law_cell" "_law_cell" VL f28 d28)(a29:nsIn K mainGlobals "_law_moves"=some (some (.ref f29)))(F29:Fun K "_law_moves" "_law_moves" U6 f29 d29)(a30:nsIn K mainGlobals "_law_lumps"=some (some (.ref f30)))(F30:Fun K "_law_lumps" "_law_lumps" U5 f30 d30)(a31:nsIn K mainGlobals "law"=some (some (.ref f31)))(l31:K.lookup f31=some ⟨oc31,od31,.func (fnOf "law" "law" (UO Wd) (Y7 Wd) (Ji Wd) .none kV31 dc31 pm31 an31 cd31 ct31),sl31⟩)(c31:codeIn K cd31 "law"=true)(k31:keepIn K (.ref f31)=true)(pg:plainGet K C Str.empty=true)(hd:hasDictIn K C=true)(po:plainOver K C=true)(sa:findIn K (.ref C) "__setattr__"=some (some (.builtin "object.__setattr__")))(mk:makesIn K C=true)(kc:keepIn K (.ref C)=true)(nS:findIn K (.ref C) "stretches"=some none)(wj:nsIn K mainGlobals "tuple"=some none)(wn:nsIn K mainGlobals "len"=some none)(qZ:nsIn K mainGlobals "enumerate"=some none)(wo:nsIn K mainGlobals "sum"=some none)(wp:nsIn K mainGlobals "max"=some none)(wq:nsIn K mainGlobals "min"=some none)(wg:nsIn K mainGlobals "sorted"=some none)(wa:nsIn K mainGlobals "reversed"=some none)(wl:nsIn K mainGlobals "list"=some none)(wt:nsIn K mainGlobals "zip"=some none)(wu:nsIn K mainGlobals "any"=some none)(qX:nsIn K mainGlobals "isinstance"=some none)(wm:nsIn K mainGlobals "bool"=some none)(wv:nsIn K mainGlobals "int"=some none)(wk:nsIn K mainGlobals "range"=some none)(ww:nsIn K mainGlobals "set"=some none)(qR:nsIn K mainGlobals "MOST_STRETCHES"=some (some (.int 30 qQ)))(qY:nsIn K mainGlobals "MOST_LUMPS"=some (some (.int 30 qW))):∃fd:FuncData,(∀(s:Shared) (v:Value),BindsTo s fd ⟨[v],[]⟩ [("script",v)])/\∀base:Heap,K.In base->base.Ns mainGlobals mg->FnOk l.prog w K mg base CX0 10 fa fd ["script"] (Jgx K):=by
 have e:=hfa.symm.trans (mg_of X G a31);cases e
 have T:RowC K C:=⟨⟨pg,hd,po,sa⟩,nS⟩
 have wx:=mg_of X G aC
 have qG:=mg_none_of X G wj
 have qt:=mg_none_of X G wn
 have qe:=mg_none_of X G qZ
 have qk:=mg_none_of X G wo
 have wb:=mg_none_of X G wp
 have qC:=mg_none_of X G wq
 have qj:=mg_none_of X G wg
 have ql:=mg_none_of X G wa
 have qm:=mg_none_of X G wl
 have qD:=mg_none_of X G wt
 have wc:=mg_none_of X G wu
 have qb:=mg_none_of X G qX
 have q5:=mg_none_of X G wm
 have we:=mg_none_of X G wv
 have qI:=mg_none_of X G wk
 have wf:=mg_none_of X G ww
 have qd:GV mg "MOST_STRETCHES" (.int 30):=⟨_,mg_of X G qR,⟨_,rfl⟩⟩
 have qz:GV mg "MOST_LUMPS" (.int 30):=⟨_,mg_of X G qY,⟨_,rfl⟩⟩
 have F31:=JiP (st:=Wd) l31 c31 k31;refine⟨fnOf "law" "law" (UO Wd) (Y7 Wd) (Ji Wd) .none kV31 dc31 pm31 an31 cd31 ct31,fun s v=>.of_eq rfl,fun base _ _=>?_⟩
 have Z:PB l.prog w base:=⟨⟩
 have qi:=JE Z F1 (VE F1 ) (mg_of X G a1) (by walk_at "b")
 have qy:CalM l.prog w K mg base "Row" C 2 ["self","stretches"] (U9 C K):=⟨f2,_,⟨mk,a2,i2,kc⟩,Jdk F2 qG qt qd qi T,wx,F2.binds (by walk_at "b")⟩
 have qg:=JE Z F3 (JbR (C:=C) F3 qe T) (mg_of X G a3) (by walk_at "b")
 have qE:=JE Z F4 (JbX (C:=C) F4 qy qg) (mg_of X G a4) (by walk_at "b")
 have qw:=JE Z F5 (ZR (C:=C) F5 qk wb qC T) (mg_of X G a5) (by walk_at "b")
 have qJ:=JE Z F6 (Jdl (C:=C) F6 qe qw) (mg_of X G a6) (by walk_at "b")
 have qS:=JE Z F7 (JhA (C:=C) F7 qj qt qk qd qy qJ T) (mg_of X G a7) (by walk_at "b")
 have qf:=JE Z F8 (ZT (C:=C) F8 qk qz) (mg_of X G a8) (by walk_at "b")
 have qv:=JE Z F9 (JhB (C:=C) F9 ql qm qD qE qS qy qf) (mg_of X G a9) (by walk_at "b")
 have qK:=JE Z F10 (Jdn (C:=C) F10 qC) (mg_of X G a10) (by walk_at "b")
 have qx:=JE Z F11 (ZS (C:=C) F11 ) (mg_of X G a11) (by walk_at "b")
 have qO:=JE Z F12 (JeW (C:=C) F12 qK qf qx) (mg_of X G a12) (by walk_at "b")
 have qF:=JE Z F13 (JbS (C:=C) F13 qk) (mg_of X G a13) (by walk_at "b")
 have qL:=JE Z F14 (JeT (C:=C) F14 qk qD T) (mg_of X G a14) (by walk_at "b")
 have qh:=JE Z F15 (JbT (C:=C) F15 qC qL T) (mg_of X G a15) (by walk_at "b")
 have qo:=JE Z F16 (JeX (C:=C) F16 qC qy qF qg qh T) (mg_of X G a16) (by walk_at "b")
 have qH:=JE Z F17 (JeS (C:=C) F17 wc T) (mg_of X G a17) (by walk_at "b")
 have qM:=JE Z F18 (JeV (C:=C) F18 qH) (mg_of X G a18) (by walk_at "b")
 have qT:=JE Z F19 (JhC (C:=C) F19 qe qk qM qo T) (mg_of X G a19) (by walk_at "b")
 have qp:=JE Z F20 (Jdo (C:=C) F20 qo qT qh T) (mg_of X G a20) (by walk_at "b")
 have q9:=JE Z F21 (JlY (C:=C) F21 qv qO qp) (mg_of X G a21) (by walk_at "b")
 have qu:=JE Z F22 (JbW (C:=C) F22 qb q5 we) (mg_of X G a22) (by walk_at "b")
 have qq:=JE Z F23 (Wy (C:=C) F23 qu) (mg_of X G a23) (by walk_at "b")
 have qP:=JE Z F24 (JeU (C:=C) F24 ) (mg_of X G a24) (by walk_at "b")
 have qr:=JE Z F25 (ZU (C:=C) F25 qp) (mg_of X G a25) (by walk_at "b")
 have qU:=JE Z F26 (Jjt (C:=C) F26 qm qD qr) (mg_of X G a26) (by walk_at "b")
 have qV:=JE Z F27 (JlZ (C:=C) F27 qD qP qU) (mg_of X G a27) (by walk_at "b")
 have qa:=JE Z F28 (Jdm (C:=C) F28 qt) (mg_of X G a28) (by walk_at "b")
 have qA:=JE Z F29 (JbV (C:=C) F29 qI qt qa) (mg_of X G a29) (by walk_at "b")
 have qB:=JE Z F30 (JbU (C:=C) F30 qj qI qa) (mg_of X G a30) (by walk_at "b");exact JlC (Jo3 (C:=C) F31 qm ql qt qb qG qj wf q9 qq qV qv qA qB qa T) law_true
theorem walk{l:PySem.W.OpenLaw}{XP:(Str->Option Value)->Heap->Prop}{YP:World->Heap->Prop}{d:DefRec}{K:Params->Frag}(hn:l.most=some 63)(hdf:d.params.defaults=[])(hY:∀(w:World) (h:Heap),YP w h->(K w.params).In h)(F:∀(w:World) (mg:Str->Option Value) (fa:Addr) (h:Heap),(K w.params).In h->h.Ns mainGlobals mg->mg d.name=some (.ref fa) ->
  ∃fd:FuncData,(∀(s:Shared) (u:Value),BindsTo s fd ⟨[u],[]⟩ [("script",u)])/\∀base:Heap,(K w.params).In base->base.Ns mainGlobals mg->FnOk l.prog w (K w.params) mg base CX0 10 fa fd ["script"] (Jgx (K w.params))):
 PySem.W.WalkO q loose XP YP l.row.toRowW d [] (fun f vs=>PySem.call f vs) :=
 L2.Jm3 (n:=63) (k:=10) (x:="script") (CX:=fun _=>CX0) (sp:=fun w=>Jgx (K w.params)) hn (by decide) hdf ⟨rfl,by decide,by decide⟩ hY F (fun _ _ a ns hl _ hS=>⟨a,ns,rfl,hS,hl,fun _=>rfl⟩) fun _ _ _ _ _ z=>z
end LK
end
namespace PySem.W.Fast
theorem tw11490625960899962664:True:=⟨⟩
theorem tw5650066539892475582:True:=⟨⟩
theorem tw8300529794479158002:True:=⟨⟩
theorem tw13358271969323503533:True:=⟨⟩
theorem tw682546519984548098:True:=⟨⟩
theorem tw16949728898759079322:True:=⟨⟩
theorem tw1809624638043997980:True:=⟨⟩
theorem tw16657733089504384600:True:=⟨⟩
theorem tw15192022539610349630:True:=⟨⟩
theorem tw14950124524870425272:True:=⟨⟩
theorem tw11410639639832837637:True:=⟨⟩
theorem tw4961653046401170258:True:=⟨⟩
theorem tw17282408163443395933:True:=⟨⟩
theorem tw5788754065455200580:True:=⟨⟩
theorem tw10521789020099372606:True:=⟨⟩
theorem tw15072841833038971728:True:=⟨⟩
theorem tw1404682050971443352:True:=⟨⟩
theorem tw15044541310147792591:True:=⟨⟩
theorem tw12540826578541022583:True:=⟨⟩
theorem tw3347703108421530402:True:=⟨⟩
theorem tw12902377847544907552:True:=⟨⟩
theorem tw1676324149283260756:True:=⟨⟩
theorem tw4962665878540821437:True:=⟨⟩
theorem tw8227245544321988158:True:=⟨⟩
theorem tw18094022905955036250:True:=⟨⟩
theorem tw1121939891847570766:True:=⟨⟩
theorem tw11045201351072223055:True:=⟨⟩
theorem tw18218625249434933357:True:=⟨⟩
theorem tw10804600150585929927:True:=⟨⟩
theorem tw15163360235549398628:True:=⟨⟩
theorem tw2439262108978914970:True:=⟨⟩
theorem tw16117042927790483371:True:=⟨⟩
theorem tw4055720752423484178:True:=⟨⟩
theorem tw16051523065437259877:True:=⟨⟩
theorem tw3867431584053076550:True:=⟨⟩
theorem tw5006633053828018676:True:=⟨⟩
theorem tw7538643460517319142:True:=⟨⟩
theorem tw810729911918354017:True:=⟨⟩
theorem tw18145053648496583102:True:=⟨⟩
theorem tw7070079644674086251:True:=⟨⟩
theorem tw5537676331823974003:True:=⟨⟩
theorem tw12399955431751718936:True:=⟨⟩
theorem tw14316848859434642996:True:=⟨⟩
theorem tw4079436921779825047:True:=⟨⟩
theorem tw3295287606846927499:True:=⟨⟩
theorem tw16010206986215001919:True:=⟨⟩
theorem tw12498636814793854304:True:=⟨⟩
theorem tw2336001464382246036:True:=⟨⟩
theorem tw11279013580294349711:True:=⟨⟩
theorem tw11967255273128587857:True:=⟨⟩
theorem tw12987992739334475344:True:=⟨⟩
theorem tw17118167680903162797:True:=⟨⟩
theorem tw6802775407797439429:True:=⟨⟩
theorem tw14235652579670462822:True:=⟨⟩
theorem tw11151851544027988817:True:=⟨⟩
theorem tw4725300666660113045:True:=⟨⟩
theorem tw4042137737474136069:True:=⟨⟩
theorem tw2869968276535830279:True:=⟨⟩
theorem tw11726221768512295824:True:=⟨⟩
theorem tw6822477258968276067:True:=⟨⟩
theorem tw14594264107676086125:True:=⟨⟩
theorem tw10951325706254490599:True:=⟨⟩
theorem tw4339486307621560178:True:=⟨⟩
theorem tw463479245018946251:True:=⟨⟩
theorem tw11275172396523470532:True:=⟨⟩
theorem tw12526407064887293418:True:=⟨⟩
theorem tw1789953856066194217:True:=⟨⟩
theorem tw18170501800792730443:True:=⟨⟩
theorem tw10608899648069958934:True:=⟨⟩
theorem tw13996905116991439069:True:=⟨⟩
theorem tw3981152366358241004:True:=⟨⟩
theorem tw4052458992750277964:True:=⟨⟩
theorem tw5066241699922803024:True:=⟨⟩
theorem tw2884826836250402418:True:=⟨⟩
theorem tw16498077726187320543:True:=⟨⟩
theorem tw13655731561171327212:True:=⟨⟩
theorem tw13212075796643287779:True:=⟨⟩
theorem tw8349581158887095975:True:=⟨⟩
theorem tw3305449969614973530:True:=⟨⟩
theorem tw5965105735578486154:True:=⟨⟩
theorem tw6796029625339238430:True:=⟨⟩
theorem tw17978681667900334498:True:=⟨⟩
theorem tw3990848857680600520:True:=⟨⟩
theorem tw4100066395215346619:True:=⟨⟩
theorem tw7530476213011566218:True:=⟨⟩
theorem tw1377842807782934106:True:=⟨⟩
theorem tw12582576917964293379:True:=⟨⟩
theorem tw6855221373305542903:True:=⟨⟩
theorem tw16484342920536947157:True:=⟨⟩
theorem tw2888506412458350408:True:=⟨⟩
theorem tw11706522823634357756:True:=⟨⟩
theorem tw9010721791109026368:True:=⟨⟩
theorem tw10209164331667995886:True:=⟨⟩
theorem tw15221847550933823340:True:=⟨⟩
theorem tw14504310144643413336:True:=⟨⟩
theorem tw978708716908661646:True:=⟨⟩
theorem tw5358496649455942301:True:=⟨⟩
theorem tw12593236422029028005:True:=⟨⟩
theorem tw1012853105834217364:True:=⟨⟩
theorem tw15351022879651389899:True:=⟨⟩
theorem tw5326705067450647563:True:=⟨⟩
theorem tw2081159236260959316:True:=⟨⟩
theorem tw12295626577639893702:True:=⟨⟩
theorem tw9429150286301051881:True:=⟨⟩
theorem tw17933041558442715129:True:=⟨⟩
theorem tw5920787863582654200:True:=⟨⟩
theorem tw9502936253143838045:True:=⟨⟩
theorem tw10435985000121145869:True:=⟨⟩
theorem tw17676878229124230548:True:=⟨⟩
theorem tw283326359193252705:True:=⟨⟩
theorem tw11405269435330478715:True:=⟨⟩
end PySem.W.Fast
open PySem PySem.W PyProof.Rows
set_option maxRecDepth 100000 in
set_option maxHeartbeats 0 in
theorem PySem.Challenge.cw_lumprow_k62_ways_between_rows_holds : PySem.Challenge.rw_lumprow_k62_ways_between_rows.Holds := by
 w_on; o_law; k_head; (case hw => w_witness2)
 k_fill
 refine LK.walk (l := PySem.Challenge.rw_lumprow_k62_ways_between_rows) rfl rfl (fun w h Y => PySem.W.kIn_of Y) ?F
 case F =>
  intro w mg fa h KX G hmg; apply LK.all_mk KX G hmg; all_goals first | exact L2.JiP (by k_is) (by k_is) (by k_is) | k_is
