import PyProof.Rows.All
import Wide.All
import OpenK.AllK
import Wide.FinOn
import Lean
import PyProof.EqAt
import PyProof.EqKinds
import PyProof.TupleCall
import PySem.Challenge.RW_lumprow_k63_no_ways
open Array renaming length_toList→QN,getElem?_toList→GN,getD_eq_getD_getElem?→GZ,getElem?_eq_getElem→Kw,getElem?_eq_some_iff→M1,toList_push→Rc,getElem_toList→R6,getD→Xk
open Bool renaming false_ne_true→Qx,and_eq_true→Q6,false_eq_true→G7,eq_iff_iff→KF,false_or→KL,or_eq_true→MD,false_and→MT,and_false→MY,or_false→Rk,and_eq_false_iff→RU,true_and→Xe,true_or→Xq
open False renaming elim→KE
open Int renaming toNat_natCast→Gu,le_refl→GK,mul_le_mul_of_nonneg_left→Li,emod_nonneg→Ly,min_eq_right→LP,emod_lt_of_pos→L6,mul_add→My,natCast_add→MJ,mul_comm→MQ,fdiv_eq_ediv_of_nonneg→MV,zero_add→RH,le_trans→RL,min_eq_left→RP,mul_ediv_add_emod→RV,add_mul→R8,add_zero→Xy
open List renaming mem_cons_self→Qc,mem_cons_of_mem→Qd,map_cons→Qf,mem_cons→Qk,length_map→Qm,getElem?_eq_some_iff→Qq,length_cons→Qr,size_toArray→Qu,length_append→Qv,getElem?_map→Qw,getElem?_eq_getElem→Qy,eq_nil_of_length_eq_zero→QA,pairwise_cons→QB,mem_map→QC,map_append→QF,sum_cons→QG,mem_of_getElem?→QI,map_map→QJ,replicate→QM,mem_singleton→QP,not_mem_nil→QR,getD_eq_getElem?_getD→QV,nodup_cons→QY,getElem?_mapIdx→QZ,length_singleton→Q0,append_assoc→Q2,filter_cons_of_pos→Q7,getElem?_set→Ga,getElem?_append_left→Gc,mem_append→Gd,range→Ge,flatMap_cons→Gf,append_nil→Gi,foldl_cons→Gj,nil_append→Gk,getElem?_append_right→Gs,mem_nil_iff→GB,cons_append→GF,length_zip→GG,replicate_succ→GH,length_replicate→GM,getElem?_eq_none→GO,map_congr_left→GQ,pairwise_iff_getElem→GR,length_nil→GS,mem_iff_getElem→GU,ext_getElem?→GX,mem_append_right→G1,filter_cons_of_neg→G4,all_eq_true→Ka,map_nil→Ke,any_cons→Km,mem_append_left→Ko,pairwise_append→Kq,length_range→Ks,mem_filter→Kt,mem_iff_getElem?→Ky,any_eq_true→Kz,toArray→KA,flatten_cons→KC,count_append→KY,length_drop→K6,map_replicate→Ln,count_eq_zero→Lo,filter_eq_nil_iff→Lp,mem_replicate→Lq,of_mem_zip→Lr,find?_cons→Ls,zip→Lu,length_filter_le→LB,nodup_append→LG,range'→LI,length_eraseIdx_of_lt→LJ,length_take→LL,getElem_mem→LM,zipIdx_cons→LN,getElem?_zip_eq_some→LS,drop_eq_getElem_cons→LU,getElem?_eq_none_iff→LV,filterMap_cons→LW,length_reverse→LY,map_eq_nil_iff→LZ,set_cons_zero→L4,set_cons_succ→L5,lookup→L7,eraseIdx_cons_succ→L8,pairwise_singleton→L9,nodup_nil→Me,pairwise_map→Mi,take_of_length_le→Mj,eraseIdxIfInBounds_toArray→Ml,getElem?_zipWith→Mn,ext_getElem→Mq,range_eq_range'→Mv,reduceReplicate→Mx,getElem?_zipIdx→Mz,sum_append→MB,zip_append→MC,forIn_cons→MF,length_zipWith→MK,mem_range→MR,forIn_nil→MZ,zip_cons_cons→M0,count_pos_iff→M3,count_replicate_self→M8,getElem?_replicate→Rp,range'_succ→Rs,getElem?_cons_succ→Ry,getElem?_cons_zero→Rz,getElem?_set_self→RA,zipWith_cons_cons→RM,map_id'→RN,dropLast_eq_take→RQ,min?_eq_some_iff→RS,getElem?_set_ne→R0,length_dropLast→R1,map_drop→Xf,foldl→Xi,zipWith→Xr
open List.Perm renaming cons_inv→Xj
open List.cons renaming inj→Lz
open Nat renaming le_refl→Qp,ne_of_lt→QD,ne_of_gt→Gh,lt_of_lt_of_le→Gn,lt_irrefl→Gr,le_trans→Gy,zero_le→GP,lt_succ_self→G2,lt_succ_of_lt→G5,le_of_lt→Kc,lt_trans→Kf,lt_of_le_of_lt→Kn,ble_eq→K2,min_self→Ll,lt_trichotomy→LF,le_succ→LH,lt_or_ge→LO,not_lt→Mo,le_add_right→Mp,reduceAdd→Ms,zero_add→MP,le_succ_of_le→Re,le_of_eq→RB,reduceSub→Xd,reduceLT→Xx
open Ne renaming symm→Q3
open Option renaming bind_some→QK,map_eq_some_iff→GD,bind_assoc→Kh,map_map→KP,map_some→Lx,isSome_iff_exists→Ri,map_eq_none_iff→RJ
open Option.some renaming inj→QQ
open Prod renaming ext→Mt
open PyProof.Rows renaming slot_tuple_getitem→Gx,callWith_type1→GY
open PyProof.Rows.F renaming plain_set_update_loop→Ma,entry_set_update_loop→Rx
open PyProof.Rows.IntsAre renaming length→R7
open PySem renaming wpAny_bind→Qa,Value→Qe,wpAny_pure→Qg,Shared→Qi,Addr→Qj,sizeLine→Qt,Program→Qz,wpAny_callSpecial?_slot→QO,Around→QS,World→QT,wpAny_call_entry→QU,wpAny_newObj_type→QW,Heap→Q1,FuncData→Q4,wpAny_field→Q5,wpAny_setField_rec→Gv,Expr→GA,wpAny_holding→GI,wpAny_seqItems→GW,codeAny_builtin→G9,wpAny_attempt→Kb,plainId_quiet→Ki,wpAny_setState_of→Kl,wpAny_isInstance→Kp,wpAny_setField→Kr,wpAny_updateSeq→Ku,Stmt→Kv,wpAny_of_eq→KB,wpAny_rule→KH,mem_of_lookup→KI,wpAny_passesOwn→KR,wpAny_specialOf→KS,wpAny_truthy_bool→KU,wpAny_mono→KZ,wpAny_Call_method0_late→K7,isSubtype_stop→K9,isSubtype_type→La,wpAny_askSetting→Lf,wpAny_letGo→Lg,wpAny_typeNameOfWhole_keyiter→Lh,codeAny_mono→Lj,wpAny_Call_Name_kw→Lk,wpAny_loadPart'→Lv,wpAny_ite_split→Lw,evalArgs_none→LX,wpAny_typeNameOf_keyiter→L0,wpAny_pyIter_list→Mb,wpAny_typeOf→Md,wpAny_newTuple→Mf,wpAny_pyIter_slot→Mg,wpAny_tryCatch→Mh,wpAny_updateSeq_pair→Mw,wpAny_execs_nil→MA,wpAny_setEntries_of→ML,wpAny_pyIter_tuple→MU,Scope→Ra,Result→Rh,wpAny_handled→Rl,wpAny_onRaise→Rm,wpAny_eqBool_int→Ro,wpAny_pyIter_zip→Ru,wpAny_throw→R3,wpAny_runValue→R4,wpAny_fieldsOf→R5,Keyword→R9,Within→Xl
open PySem.Around renaming under_plainId→GJ,under→Xo
open PySem.Builtin.Builtins renaming bindParams→MN
open PySem.Builtin.Dict renaming showsAll→RT,noArgs→Xb
open PySem.Builtin.Dict_items renaming ownsTuple→MH
open PySem.Builtin.Int renaming intBits→Xa
open PySem.Builtin.List renaming listExtendWith→Kg,listLengthHint→KJ,listTooLong→K1,listSameRef→K3,listItems→RI
open PySem.Builtin.Slice renaming slicePlaces→KQ,sliceAdjust→LQ,sliceApplied→MW
open PySem.Builtin.SmallTypes renaming ownedTupleIsFree→QX,nextOf→Go,ownedTupleHandOut→Kk
open PySem.Builtin.Tuple renaming tupleExact→K0,tupleItemsOf→MX
open PySem.Calls renaming callWith_builtin→Kj,spliced_cons→KN,spliced_nil→Mc,evalArgs_plain→Mu,Name_function_global→MS,call_function_entry→M7
open PySem.Code renaming isFrame→Xp
open PySem.F renaming plainAttrs_list→QL,slot_list_append→Q8,type_list_append→Q9,plain_extend_loop→G6,slot_zip_next→G8,plainAttrs_dict→KD,slot_tuple_iterator_next→KO,args_zip_next_1→KW,slot_list_extend→K4,type_list_extend→K5,entry_zip_next→K8,plain_min_loop→Lb,slot_dict_items→Lc,plain_list_iadd→Ld,called_set→Lm,slot_enumerate_next→LA,slot_dict_get→Mm,args_tuple_iterator_next_1→ME,slot_dict_setdefault→MG,slot_dict_keyiterator_next→MI,entry_tuple_iterator_next→MM,plain_proto_collect→MO,slot_dict_getitem→M4,args_dict_items_1→M5,entry_extend_loop→M6,args_tuple_add_2→Rj,entry_dict_items→Rn,entry_tuple_add→Rq,args_dict_get_3→Rr,args_enumerate_next_1→Rv,type_dict_items→Rw,slot_tuple_add→RE,entry_dict_get→RF,slot_dict_keys→RK,slot_list_pop→RW,type_list_pop→RX
open PySem.Heap renaming get?_push_of_some→Qh,get?_push_size→Qn,lt_size→Qo,SameBut→QH,get?_update_other→Gb,get?_update_self→Gg,size_push→Gz,ExtBut→KM,get?_push_ne→Rb
open PySem.Heap.ExtBut renaming push→Xz
open PySem.Heap.SameBut renaming update→Gw,refl→Xs
open PySem.Obj renaming data_mapFields→GL,isFreed_of_fields→Kx,mapSeq→KG,cls_mapFields→LD,mapFields→L1
open PySem.Paired renaming length→Rg
open PySem.PassesOwn renaming never→Gm
open PySem.PyData renaming canLayAll0→LC,eqvAll→Mr,eqv→RG,depthAll→RO
open PySem.SetTable renaming below→Gq,grown→Le,laid→Xc,put→Xu
open PySem.SetTable.below renaming go→Xt
open PySem.SetTable.probe renaming go→Rf
open PySem.Shared renaming heap→XA
open PySem.Str renaming ofString→GC
open PySem.Value renaming isInt_shape→M9,isInt→RY
open PySem.W renaming Frag→QE,cellsFrom_some→RC,kitx_tuple→Xg,callWith_K→Xh,specialIn→Xm,kitx_dict→Xn
open PySem.W.KasT renaming kasWp_bind→L3
open PySem.pickOrder renaming go→Xw
open Sum.inl renaming inj→RZ
set_option Elab.async false
set_option linter.all false
set_option maxRecDepth 100000
set_option maxHeartbeats 4000000
open PySem.W (instObj methodObj Frag lookIn plainGet hasDictIn findIn plainOver takerIn makesIn emptyDict mroIn kitOne kia_one kitx_list keepIn fnOf codeIn nsIn KdlKeysView kitAny mg_of mg_none_of)
noncomputable section
namespace L2
open PySem PySem.Spec PyProof.Rows
noncomputable abbrev Key:=Sum Int Str
noncomputable def WX:Key->Qe->Bool
 | .inl k,v=>RY k v
 | .inr x,v=>Value.isStrOf x v
noncomputable def JrQ(w:QT):Key->Int
 | .inl k=>hashInt k
 | .inr x=>hashStr w x
theorem JS:∀{k:Key} {v:Qe},WX k v=true->(∃i t,k=Sum.inl i/\v=Value.int i t)\/(∃x t,k=Sum.inr x/\v=Value.str x t)
 | .inl i,v,h=>by obtain⟨t,e⟩:=M9 (k:=i) (v:=v) h;exact .inl ⟨i,t,rfl,e⟩
 | .inr x,v,h=>by obtain⟨t,e⟩:=Value.isStrOf_shape (x:=x) (v:=v) h;exact .inr ⟨x,t,rfl,e⟩
def Jhu(i:Int)(t:Tok):WX (.inl i) (.int i t)=true:=by simp[WX,RY]
def Jhv(x:Str)(t:Tok):WX (.inr x) (.str x t)=true:=by simp[WX,Value.isStrOf]
def Jod(a b:Int):decide ((Sum.inl a:Key)=Sum.inl b)=(a == b):=by
 by_cases e:a=b
 ·subst e;simp
 ·have h:¬(Sum.inl a:Key)=Sum.inl b:=fun q=>e (RZ q)
  rw[decide_eq_false h];exact(beq_eq_false_iff_ne.mpr e).symm
def Jog(a b:Str):decide ((Sum.inr a:Key)=Sum.inr b)=decide (a=b):=by
 by_cases e:a=b
 ·subst e;simp
 ·have h:¬(Sum.inr a:Key)=Sum.inr b:=fun q=>e (Sum.inr.inj q)
  rw[decide_eq_false h,decide_eq_false e]
def Joe(a:Int)(b:Str):decide ((Sum.inl a:Key)=Sum.inr b)=false:=decide_eq_false (fun q=>nomatch q)
def Jof(a:Str)(b:Int):decide ((Sum.inr a:Key)=Sum.inl b)=false:=decide_eq_false (fun q=>nomatch q)
noncomputable def JH(prog:Qz)(w:QT):PySem.KeyKind prog w Key where
 is:=WX
 hash:=JrQ w
 inj:=fun v a b ha hb=>by
  rcases JS ha with ⟨i,t,rfl,rfl⟩|⟨x,t,rfl,rfl⟩
  ·rcases JS hb with ⟨j,u,rfl,e⟩|⟨y,u,rfl,e⟩
   ·injection e with e1 _;rw[e1]
   ·exact nomatch e
  ·rcases JS hb with ⟨j,u,rfl,e⟩|⟨y,u,rfl,e⟩
   ·exact nomatch e
   ·injection e with e1 _;rw[e1]
 byValue:=fun k v h=>by rcases JS h with ⟨i,t,rfl,rfl⟩|⟨x,t,rfl,rfl⟩ <;> rfl
 pyHash:=fun hv h=>by
  rcases JS hv with ⟨i,t,rfl,rfl⟩|⟨x,t,rfl,rfl⟩
  ·exact wpAny_pyHash_int h
  ·exact wpAny_pyHash_str h
 eqBool:=fun hu hv h=>by
  rcases JS hu with ⟨i,t,rfl,rfl⟩|⟨x,t,rfl,rfl⟩
  ·rcases JS hv with ⟨j,u,rfl,rfl⟩|⟨y,u,rfl,rfl⟩
   ·rw[Jod] at h;exact Ro h
   ·rw[Joe] at h;exact SeqAt.EqAt.int_str i t y u _ _ _ _ h
  ·rcases JS hv with ⟨j,u,rfl,rfl⟩|⟨y,u,rfl,rfl⟩
   ·rw[Jof] at h;exact SeqAt.EqAt.str_int x t j u _ _ _ _ h
   ·rw[Jog] at h;exact wpAny_eqBool_str h
 «strs»:=fun k x t v h=>by
  rcases JS h with ⟨i,u,rfl,e⟩|⟨y,u,rfl,e⟩
  ·exact nomatch e
  ·injection e with e1 _
   subst e1;cases v <;> rfl
def Jdp(prog:Qz)(w:QT)(i:Int)(t:Tok):(JH prog w).is (.inl i) (.int i t)=true:=Jhu i t
def Jdq(prog:Qz)(w:QT)(x:Str)(t:Tok):(JH prog w).is (.inr x) (.str x t)=true:=Jhv x t
inductive V where
 | non|bl (b:Bool)|int (i:Int)|str (x:Str)|byt (b:Array UInt8)|flt (b:UInt64)|ref (a:Qj)|ty (n:String)
 deriving DecidableEq
noncomputable def RelV:V->Qe->Prop
 | .non,u=>u=Value.none
 | .bl b,u=>u=Value.bool b
 | .int i,u=>∃t,u=Value.int i t
 | .str x,u=>∃t,u=Value.str x t
 | .byt b,u=>∃t,u=Value.bytes b t
 | .flt b,u=>∃t,u=Value.float b t
 | .ref a,u=>u=Value.ref a
 | .ty n,u=>u=Value.type n
noncomputable abbrev Vals:List V->List Qe->Prop:=Paired RelV
def Vals.length(r:Vals xs us):xs.length=us.length:=Rg r
theorem Vals.get:∀{xs:List V} {us:List Qe} {i:Nat} {x:V},Vals xs us->xs[i]?=some x->∃u,us[i]?=some u/\RelV x u
 | _,_,_,_,.nil,e=>by simp at e
 | _,_,0,_,.cons r _,e=>by simp at e;subst e;exact⟨_,rfl,r⟩
 | _,_,i+1,x,.cons _ t,e=>by obtain⟨u,h1,h2⟩:=Vals.get (i:=i) (x:=x) t (by simpa using e);exact⟨u,by simpa using h1,h2⟩
theorem Vals.append:∀{xs ys:List V} {us ws:List Qe},Vals xs us->Vals ys ws->Vals (xs++ys) (us++ws)
 | _,_,_,_,.nil,s=>s
 | _,_,_,_,.cons r t,s=>.cons r (Vals.append t s)
theorem Vals.take:∀{xs:List V} {us:List Qe} (n:Nat),Vals xs us->Vals (xs.take n) (us.take n)
 | _,_,0,_=>.nil
 | _,_,_+1,.nil=>.nil
 | _,_,n+1,.cons r t=>.cons r (Vals.take n t)
theorem Vals.drop:∀{xs:List V} {us:List Qe} (n:Nat),Vals xs us->Vals (xs.drop n) (us.drop n)
 | _,_,0,r=>r
 | _,_,_+1,.nil=>.nil
 | _,_,n+1,.cons _ t=>Vals.drop n t
noncomputable def RelO:Option V->Option Qe->Prop
 | some v,some u=>RelV v u
 | none,none=>True
 | _,_=>False
noncomputable def KV{κ:Type}:List (κ×V)->List (κ×Qe)->Prop:=Paired fun(p:κ×V) (q:κ×Qe)=>p.1=q.1/\RelV p.2 q.2
noncomputable def kV:Key->V
 | .inl i=>.int i
 | .inr x=>.str x
inductive HO where
 | lst (xs:List V)
 | tup (xs:List V)
 | dK (kvs:List (Key×V))|dT (kvs:List (List Key×V))
 | set (S:Int->Bool) (n:Nat)
 | ins (C dx:Qj) (fs:List (Str×V))
 | own (x:Qj)
 | xd (fs:List (Str×V))
 | met (f x:Qj)
 | rng (lo hi:Int)
 | frz (o:Obj) (u:HO)
 | tbl (ps:Array Qe)
 | ext (φ:Q1->Prop)
noncomputable abbrev Hp:=Qj->Option HO
noncomputable def upd(H:Hp)(a:Qj)(o:HO):Hp:=fun b=>if b=a then some o else H b
def Jn:upd H a o a=some o:=by unfold upd;rw[if_pos rfl]
def Ji(h:b≠a):upd H a o b=H b:=by unfold upd;rw[if_neg h]
def Jbf{H:Hp}{a b:Qj}{o u:HO}(h:H a=some o)(h':H b=some u)(d:o≠u):a≠b:=by intro e;subst e;rw[h] at h';exact d (QQ h')
def Jq{H:Hp}{a b:Qj}{o:HO}(h:H a=some o)(h':H b=none):a≠b:=by intro e;subst e;rw[h] at h';cases h'
section
variable(P:Qz)(w:QT)
noncomputable def ObjOk(H:Hp)(h:Q1)(a:Qj):HO->Prop
 | .lst xs=>xs.length<=Qt/\∃(its:List Qe) (n:Nat),Vals xs its/\h.get? a=some { cls:=.type "list",data:=.seq its.toArray n }
 | .tup xs=>xs.length<=Qt/\∃its:List Qe,Vals xs its/\IsTup h a its.toArray
 | .dK kvs=>kvs.length<=Qt/\(a == sysModules)=false/\∃vs,KV kvs vs/\h.DictOf (JH P w) a vs
 | .dT kvs=>kvs.length<=Qt/\(a == sysModules)=false/\∃xs:List (List Key×Qj×Qe),
  Paired (fun(p:List Key×V) (q:List Key×Qj×Qe)=>p.1=q.1/\H q.2.1=some (.tup (p.1.map kV))/\RelV p.2 q.2.2) kvs xs ∧
  ∃o es ep,h.get? a=some o/\o.ExactDict/\o.data=.dict es ep/\es.toList=xs.map (entryOfKey (tupleKind (JH P w)))/\(xs.map (·.1)).Nodup
 | .set S n=>h.SetOf (intKind P w) a S n
 | .ins C dx fs=>H dx=some (.own a)/\fs.length<=1000/\dx≠a/\h.get? a=some (instObj C dx) ∧
  ∃mA,h.Ns1 dx mA/\(∀f,RelO (fs.lookup f) (mA f))/\Xl mA (fs.map (·.1))
 | .own _=>∃o,h.get? a=some o
 | .xd fs=>∃mA,h.Ns1 a mA/\∀f,RelO (fs.lookup f) (mA f)
 | .rng lo hi=>∃t u v,h.get? a=some { cls:=.type "range",data:=.fields #[.int lo t,.int hi u,.int 1 v] }
 | .frz o u=>h.get? a=some o/\ObjOk H h a u
 | .tbl ps=>h.get? a=some { cls:=.none,data:=.fields ps }
 | .met f x=>h.get? a=some (methodObj (.ref f) (.ref x))
 | .ext φ=>φ h/\(∃o,h.get? a=some o)/\∀h1 h2:Q1,φ h1->(∀o,h1.get? a=some o->h2.get? a=some o)->φ h2
noncomputable def HOk(H:Hp)(h:Q1):Prop:=∀a o,H a=some o->ObjOk P w H h a o
end
def ObjOk.lt(x:ObjOk P w H h a o):a<h.objs.size:=by
 cases o with
 | lst xs=>obtain⟨_,_,_,_,e⟩:=x;exact Qo e
 | tup xs=>obtain⟨_,_,_,p⟩:=x;exact p.lt
 | dK kvs=>obtain⟨_,_,_,_,o,_,_,e,_⟩:=x;exact Qo e
 | dT kvs=>obtain⟨_,_,_,_,o,_,_,e,_⟩:=x;exact Qo e
 | set S n=>obtain⟨o,_,_,_,e,_⟩:=x;exact Qo e
 | ins C dx fs=>obtain⟨_,_,_,e,_⟩:=x;exact Qo e
 | own y=>obtain⟨_,e⟩:=x;exact Qo e
 | xd fs=>obtain⟨_,⟨_,_,_,e,_⟩,_⟩:=x;exact Qo e
 | rng lo hi=>obtain⟨_,_,_,e⟩:=x;exact Qo e
 | frz ob u=>obtain⟨e,_⟩:=x;exact Qo e
 | tbl ps=>exact Qo (show h.get? a=some _ from x)
 | met f y=>exact Qo (show h.get? a=some _ from x)
 | ext φ=>obtain⟨_,⟨_,e⟩,_⟩:=x;exact Qo e
theorem Paired.mapP{α β:Type}{F G:α->β->Prop}:∀{l₁:List α} {l₂:List β},Paired F l₁ l₂->(∀a b,F a b->G a b)->Paired G l₁ l₂
 | _,_,.nil,_=>.nil
 | _,_,.cons r t,f=>.cons (f _ _ r) (Paired.mapP t f)
def ObjOk.stay(x:ObjOk P w H h a o)(k:∀b u,(b=a\/H b=some (.own a))->h.get? b=some u->h'.get? b=some u)
 (ho:∀b,H b=some (.own a)->H' b=some (.own a)) (ht:∀b xs,H b=some (.tup xs)->H' b=some (.tup xs)):ObjOk P w H' h' a o:=by
 induction o with
 | lst xs=>obtain⟨z,its,n,r,e⟩:=x;exact⟨z,its,n,r,k _ _ (.inl rfl) e⟩
 | tup xs=>obtain⟨z,its,r,ob,e,c⟩:=x;exact⟨z,its,r,ob,k _ _ (.inl rfl) e,c⟩
 | dK kvs=>obtain⟨z,y,vs,r,ob,es,ep,e,c⟩:=x;exact⟨z,y,vs,r,ob,es,ep,k _ _ (.inl rfl) e,c⟩
 | dT kvs=>obtain⟨z,y,xs,r,ob,es,ep,e,c⟩:=x;exact⟨z,y,xs,Paired.mapP r fun p q z=>⟨z.1,ht _ _ z.2.1,z.2.2⟩,ob,es,ep,k _ _ (.inl rfl) e,c⟩
 | set S n=>obtain⟨ob,es,ep,t,e,c⟩:=x;exact⟨ob,es,ep,t,k _ _ (.inl rfl) e,c⟩
 | ins C dx fs=>obtain⟨d,z,ne,e,mA,⟨od,es,ep,e2,c⟩,r⟩:=x;exact⟨ho _ d,z,ne,k _ _ (.inl rfl) e,mA,⟨od,es,ep,k _ _ (.inr d) e2,c⟩,r⟩
 | own y=>obtain⟨ob,e⟩:=x;exact⟨ob,k _ _ (.inl rfl) e⟩
 | xd fs=>obtain⟨mA,⟨od,es,ep,e,c⟩,r⟩:=x;exact⟨mA,⟨od,es,ep,k _ _ (.inl rfl) e,c⟩,r⟩
 | rng lo hi=>obtain⟨t,u,v,e⟩:=x;exact⟨t,u,v,k _ _ (.inl rfl) e⟩
 | frz ob u ih=>obtain⟨e,q⟩:=x;exact⟨k _ _ (.inl rfl) e,ih q⟩
 | tbl ps =>
  have e:h.get? a=some { cls:=.none,data:=.fields ps }:=x
  show h'.get? a=some { cls:=.none,data:=.fields ps };exact k a _ (.inl rfl) e
 | met f y =>
  have e:h.get? a=some (methodObj (.ref f) (.ref y)):=x
  show h'.get? a=some (methodObj (.ref f) (.ref y));exact k a _ (.inl rfl) e
 | ext φ=>obtain⟨p,⟨o,e⟩,st⟩:=x;exact⟨st _ _ p fun o q=>k _ _ (.inl rfl) q,⟨o,k _ _ (.inl rfl) e⟩,st⟩
def HOk.lt(x:HOk P w H h)(e:H a=some o):a<h.objs.size:=(x a o e).lt
def HOk.fresh(x:HOk P w H h)(e:h.objs.size<=a):H a=none:=by
 cases q:H a with
 | none=>rfl
 | some u=>exact absurd (Gn (x.lt q) e) (Gr _)
def HOk.kept(x:HOk P w H h)(k:∀b u,h.get? b=some u->h'.get? b=some u):HOk P w H h':=fun a o e=>(x a o e).stay (fun b u _ q=>k b u q) (fun _ q=>q) fun _ _ q=>q
def HOk.laid(x:HOk P w H h)(k:∀b u,h.get? b=some u->h'.get? b=some u)(hp:h.objs.size<=a)(new:ObjOk P w (upd H a o) h' a o):HOk P w (upd H a o) h':=fun b u e=>by
 have hn:=x.fresh hp
 by_cases hb:b=a
 ·subst hb;rw[Jn] at e;cases e;exact new
 ·rw[Ji hb] at e;exact(x b u e).stay (fun c v _ q=>k c v q) (fun c q=>by rw[Ji (Jq q hn)];exact q) fun c xs q=>by rw[Ji (Jq q hn)];exact q
noncomputable def Rd(H:Hp)(a:Qj)(u:HO):Prop:=H a=some u\/∃o,H a=some (.frz o u)
def Rd.ok(r:Rd H a u)(x:HOk P w H h):ObjOk P w H h a u:=by
 rcases r with r|⟨o,r⟩
 ·exact x a u r
 ·obtain⟨_,q⟩:=x a _ r;exact q
noncomputable def Mut:Option HO->Prop
 | some (.lst _)=>True
 | some (.dK _)=>True
 | some (.dT _)=>True
 | some (.set _ _)=>True
 | some (.ins _ _ _)=>True
 | some (.ext _)=>True
 | _=>False
def HOk.write(ok:HOk P w H h)(mu:Mut (H x))(he:e=x\/H e=some (.own x))(k:∀b u,b≠e->h.get? b=some u->h'.get? b=some u)(heo:∃u,h'.get? e=some u)
 (new:ObjOk P w (upd H x o') h' x o'):HOk P w (upd H x o') h':=fun b u q=>by
 have nown:∀c y,H c=some (.own y)->c≠x:=fun c y r z=>by subst z;rw[r] at mu;exact mu
 have ntup:∀c xs,H c=some (.tup xs)->c≠x:=fun c xs r z=>by subst z;rw[r] at mu;exact mu
 by_cases hb:b=x
 ·subst hb;rw[Jn] at q;cases q;exact new
 ·rw[Ji hb] at q
  by_cases hbe:b=e
  ·have q':H b=some (.own x):=by
    rcases he with z|z
    ·exact absurd (hbe.trans z) hb
    ·rw[hbe];exact z
   rw[q] at q';cases q';obtain⟨v,hv⟩:=heo;exact⟨v,by rw[hbe];exact hv⟩
  ·refine(ok b u q).stay (fun c v hc r=>k c v ?_ r) (fun c r=>by rw[Ji (nown c b r)];exact r) fun c xs r=>by rw[Ji (ntup c xs r)];exact r
   rcases hc with rfl|hc
   ·exact hbe
   ·rintro rfl;rcases he with z|z
    ·exact nown c b hc z
    ·rw[hc] at z;cases z;exact hb rfl
structure Un (fs ex:List Qj) (H H':Hp) (h h':Q1):Prop where
 keep:∀b o,h.get? b=some o->H b=none->b∉fs->b∉ex->h'.get? b=some o
 slot:∀b o,h.get? b=some o->H b=none->b∈fs->b∉ex->∃sl,h'.get? b=some { o with slots:=sl }
 free:∀b o,h.get? b=some o->H b=none->b∉ex->H' b=none
 there:∀b o,h.get? b=some o->b∉ex->∃o',h'.get? b=some o'
 tups:∀b xs,H b=some (.tup xs)->H' b=some (.tup xs)
 frzs:∀b o u,H b=some (.frz o u)->H' b=some (.frz o u)
 tbls:∀b ps,H b=some (.tbl ps)->∃more,H' b=some (.tbl (ps++more))
section
variable{fs fs' ex ex':List Qj}{H H1 H2:Hp}{h h1 h2 h':Q1}{a x e:Qj}{o:HO}
def Un.any(u:Un fs ex H H1 h h1)(q:h.get? b=some ob)(n:H b=none)(hx:b∉ex):∃sl,h1.get? b=some { ob with slots:=sl }:=by
 by_cases hb:b∈fs
 ·exact u.slot b ob q n hb hx
 ·exact⟨ob.slots,u.keep b ob q n hb hx⟩
def Un.kept(k:∀b u,h.get? b=some u->h'.get? b=some u):Un fs ex H H h h' :=
 ⟨fun b ob q _ _ _=>k b ob q,fun b ob q _ _ _=>⟨ob.slots,k b ob q⟩,fun _ _ _ n _=>n,fun b ob q _=>⟨ob,k b ob q⟩,fun _ _ q=>q,fun _ _ _ q=>q,fun _ ps q=>⟨#[],by rw[q];simp⟩⟩
def Un.refl:Un fs ex H H h h:=Un.kept fun _ _ q=>q
def Un.laid(k:∀b u,h.get? b=some u->h'.get? b=some u)(hp:h.objs.size<=a)(hn:H a=none):Un fs ex H (upd H a o) h h' where
 keep:=fun b u q _ _ _=>k b u q
 slot:=fun b u q _ _ _=>⟨u.slots,k b u q⟩
 free:=fun b u q n _=>by rw[Ji (QD (Gn (Qo q) hp))];exact n
 there:=fun b u q _=>⟨u,k b u q⟩
 tups:=fun b xs q=>by rw[Ji (Jq q hn)];exact q
 frzs:=fun b u xs q=>by rw[Ji (Jq q hn)];exact q
 tbls:=fun b ps q=>⟨#[],by rw[Ji (Jq q hn),q];simp⟩
def Un.write(mu:Mut (H x))(he:e=x\/H e=some (.own x))(k:∀b u,b≠e->h.get? b=some u->h'.get? b=some u)(heo:∃u,h'.get? e=some u):Un fs ex H (upd H x o) h h':=by
 have hx:∀b,H b=none->b≠x:=fun b n z=>by subst z;rw[n] at mu;exact mu
 have hb:∀b,H b=none->b≠e:=fun b n z=>by
  subst z;rcases he with r|r
  ·exact hx b n r
  ·rw[n] at r;cases r
 have hm:∀b u,H b=some u->¬Mut (some u)->b≠x:=fun b u q nm z=>by subst z;rw[q] at mu;exact nm mu
 refine⟨fun b u q n _ _=>k b u (hb b n) q,fun b u q n _ _=>⟨u.slots,k b u (hb b n) q⟩,fun b u q n _=>by rw[Ji (hx b n)];exact n,fun b u q _=>?_,
  fun b xs q=>by rw[Ji (hm b _ q fun z=>z)];exact q,fun b u xs q=>by rw[Ji (hm b _ q fun z=>z)];exact q,fun b ps q=>⟨#[],by rw[Ji (hm b _ q fun z=>z),q];simp⟩⟩
 by_cases hbe:b=e
 ·subst hbe;exact heo
 ·exact⟨u,k b u hbe q⟩
end
noncomputable def trk(h:Q1)(H:Hp):List Qj:=(Ge h.objs.size).filter fun a=>(H a).isSome
noncomputable def Jb1(h:Q1)(H:Hp):Q1:=PySem.W.hideAll h (trk h H)
def Jhl(h:Q1)(H:Hp):(Jb1 h H).objs.size=h.objs.size:=PySem.W.hideAll_size _ _
def Ji4(e:h.get? b=some o)(n:H b=none):(Jb1 h H).get? b=some o :=
 PySem.W.hideAll_get _ e fun hm=>by have q:(H b).isSome=true:=(Kt.mp hm).2;rw[n] at q;simp at q
def JlP(e:(Jb1 h H).get? b=some o):h.get? b=some o/\H b=none:=by
 have e':h.get? b=some o:=PySem.W.of_hideAll (trk h H) e;refine⟨e',?_⟩
 cases q:H b with
 | none=>rfl
 | some x =>
  have hm:b∈trk h H:=Kt.mpr ⟨MR.mpr (Qo e'),by simp[q]⟩
  have z:(Jb1 h H).get? b=none:=PySem.W.hideAll_none (trk h H) hm;rw[z] at e;cases e
noncomputable def JkR(g h:Q1)(L:Qj):List (Qj×Obj):=(Ge h.objs.size).filterMap fun a=>if a=L\/(g.get? a).isSome=true then none else(h.get? a).map fun o=>(a,o)
noncomputable def rest(g h:Q1)(L d:Qj):List (Qj×Obj):=(JkR g h L).filter fun p=>decide (p.1≠d)
structure Mod (K:QE) (mg:Str->Option Qe) (base:Q1):Prop where
 kin:K.In base
 glob:base.Ns mainGlobals mg
 blt:∃mb,base.Ns builtinsNs mb/\∀x:Str,x≠"__name__"->mb x=bootBuiltins x
 nolimit:base.NoLimit
structure Cx where
 prog:Qz
 w:QT
 K:QE
 mg:Str->Option Qe
 base:Q1
 A:QS
 N:List Str
 s₀:Qi
 H₀:Hp
 env:Env
 outer:List Env
 stack:List Env
 ex:List Qj
 fn:Str->Bool
 calm:Bool
 pn:List (Qj×Obj)
 xe:Qe->Qi->Prop
noncomputable def frs(l:List Env):List Qj:=l.filterMap (·.frame)
noncomputable abbrev Cx.fs(X:Cx):List Qj:=frs X.outer
noncomputable def Vis(sc:Ra)(x:Str):Prop:=sc.names.lookup x=some .local\/sc.names.lookup x=some .cell\/sc.names.lookup x=some .free
noncomputable def Loc(sc:Ra)(x:Str):Prop:=sc.names.lookup x=some .local\/sc.names.lookup x=some .cell
noncomputable def JrK(env:Env)(h:Q1)(m:Str->Option Qe)(x:Str)(u:Qe):Prop :=
 (env.kindOf x=some .local/\m x=some u)\/((env.kindOf x=some .cell\/env.kindOf x=some .free)/\∃c,env.cells.lookup x=some c/\h.IsCell c (some u))
structure Cx.Ok (X:Cx):Prop where
 mod:Mod X.K X.mg X.base
 kind:X.env.scope.kind=.function
 glob:X.env.globals=mainGlobals
 blt:X.env.builtins=builtinsNs
 above:X.s₀.heap.objs.size<=X.env.locals
 inj:∀x y c,X.env.cells.lookup x=some c->X.env.cells.lookup y=some c->x=y
 has:∀x,(X.env.kindOf x=some .cell\/X.env.kindOf x=some .free)->∃c,X.env.cells.lookup x=some c
 cab:∀x c,X.fn x=true->X.env.cells.lookup x=some c->X.s₀.heap.objs.size<=c
 hd:X.calm=true->X.A.handled=none
 frames:X.A.frames=some X.stack
 stk:X.stack=X.outer\/(X.stack=X.env::X.outer/\X.env.frame=some X.env.locals)
 exf:∀b∈X.ex,b≠X.env.locals/\∀x c,X.env.cells.lookup x=some c->c≠b
 bs:∀b o,X.base.get? b=some o->X.s₀.heap.get? b=some o/\X.H₀ b=none
 bsz:X.base.objs.size<=X.s₀.heap.objs.size
 noex:∀b o,X.base.get? b=some o->b∉X.ex
 exfs:∀b∈X.ex,b∉X.fs
 funs:X.s₀.heap.FunFrames X.base X.outer
 frf:∀b∈X.fs,X.H₀ b=none
structure Inv (X:Cx) (pins:List (Qj×Obj)) (σ:List (Option V)) (H:Hp) (s:Qi):Prop where
 ok:X.Ok
 os:s.os=X.s₀.os
 bare:AllBare s.gens
 base:Un X.fs X.ex X.H₀ H X.s₀.heap s.heap
 loc:∃m,s.heap.Ns X.env.locals m/\∀(i:Nat) (x:Str) (v:V),X.N[i]?=some x->σ[i]?=some (some v)->Vis X.env.scope x->∃u,RelV v u/\JrK X.env s.heap m x u
 cell:∀x c,X.env.cells.lookup x=some c->∃v,s.heap.IsCell c v
 free:H X.env.locals=none
 freeC:∀x c,X.env.cells.lookup x=some c->H c=none
 pin:∀p∈X.pn++pins,s.heap.get? p.1=some p.2/\H p.1=none/\p.1≠X.env.locals/\p.1∉X.fs/\∀v,p.2.data≠.cell v
 hok:HOk X.prog X.w H s.heap
 len:σ.length=X.N.length
section
variable{X:Cx}{pins:List (Qj×Obj)}{σ:List (Option V)}{H H':Hp}{s:Qi}{h':Q1}
def Cx.Ok.nofr(ok:X.Ok)(e:X.base.get? b=some o):b∉X.fs:=fun hb=>by have:=(ok.funs.mem hb).1;rw[e] at this;cases this
def Inv.bs(I:Inv X pins σ H s):∀b o,X.base.get? b=some o->s.heap.get? b=some o/\H b=none:=fun b o e=>⟨I.base.keep b o (I.ok.bs b o e).1 (I.ok.bs b o e).2 (I.ok.nofr e) (I.ok.noex b o e),I.base.free b o (I.ok.bs b o e).1 (I.ok.bs b o e).2 (I.ok.noex b o e)⟩
def Inv.bk(I:Inv X pins σ H s):∀b o,X.base.get? b=some o->s.heap.get? b=some o:=fun b o e=>(I.bs b o e).1
def Inv.mod(I:Inv X pins σ H s):Mod X.K X.mg X.base:=I.ok.mod
def Inv.kIn(I:Inv X pins σ H s):X.K.In s.heap:=I.ok.mod.kin.keeps I.bk
def Inv.nolimit(I:Inv X pins σ H s):s.heap.NoLimit:=I.ok.mod.nolimit.keeps I.bk
def Inv.fr(I:Inv X pins σ H s):∃m,Fr X.base X.env.locals s.heap m :=
 let ⟨m,hn,_⟩:=I.loc
 ⟨m,hn,I.bk,Gy I.ok.bsz I.ok.above⟩
def Inv.lt(I:Inv X pins σ H s):X.env.locals<s.heap.objs.size:=let ⟨_,hn,_⟩:=I.loc;hn.lt
def Inv.sz(I:Inv X pins σ H s):X.s₀.heap.objs.size<=s.heap.objs.size:=Gy I.ok.above (Kc I.lt)
def Inv.nofs(I:Inv X pins σ H s){a:Qj}(h:s.heap.objs.size<=a):a∉X.fs:=fun hb=>by obtain⟨_,o,ho,_⟩:=I.ok.funs.mem hb;exact absurd (Gn (Qo ho) (Gy I.sz h)) (Gr _)
def Inv.cne(I:Inv X pins σ H s):∀x c,X.env.cells.lookup x=some c->c≠X.env.locals:=fun x c e z=>by obtain⟨v,o,ho,hd⟩:=I.cell x c e;obtain⟨m,⟨o',es,ep,ho',hd',_⟩,_⟩:=I.loc;rw[z,ho'] at ho;cases ho;rw[hd'] at hd;cases hd
def Inv.funs(I:Inv X pins σ H s):s.heap.FunFrames X.base X.outer:=by
 have all:∀(l:List Env),(∀b∈frs l,b∈X.fs)->X.s₀.heap.FunFrames X.base l->s.heap.FunFrames X.base l:=by
  intro l
  induction l with
  | nil=>intro _ _;trivial
  | cons env r ih =>
   intro hs hl;obtain⟨hk,⟨L,o,hf,hn,ho,hd⟩,hr⟩:=hl;have hL:L∈X.fs:=hs L (by unfold frs;rw[LW,hf];exact Qc);obtain⟨sl,e⟩:=I.base.slot L o ho (I.ok.frf L hL) hL fun z=>I.ok.exfs L z hL
   exact⟨hk,⟨L,_,hf,hn,e,hd⟩,ih (fun b hb=>hs b (by unfold frs;rw[LW,hf];exact Qd _ hb)) hr⟩
 exact all X.outer (fun _ hb=>hb) I.ok.funs
def Inv.stack(I:Inv X pins σ H s):s.heap.FunFrames X.base X.stack:=by
 rcases I.ok.stk with e|⟨e,hf⟩
 ·rw[e];exact I.funs
 ·rw[e];obtain⟨m,hn,_⟩:=I.loc;refine .cons (by rw[I.ok.kind];decide) hf hn ?_ I.funs;exact Heap.get?_none_of_le (Gy I.ok.bsz I.ok.above)
def Inv.stkSub(I:Inv X pins σ H s):∀b∈frs X.stack,b∈X.env.locals::X.fs:=fun b hb=>by
 rcases I.ok.stk with e|⟨e,hf⟩
 ·rw[e] at hb;exact Qd _ hb
 ·rw[e] at hb;unfold frs at hb;rw[LW,hf] at hb;exact hb
def Inv.stkFree(I:Inv X pins σ H s):∀b∈frs X.stack,H b=none:=fun b hb=>by
 rcases Qk.mp (I.stkSub b hb) with e|hb
 ·rw[e];exact I.free
 ·obtain⟨_,o,ho,_⟩:=I.ok.funs.mem hb;exact I.base.free b o ho (I.ok.frf b hb) fun z=>I.ok.exfs b z hb
def Inv.step{g':Array GenState}{t':Nat}{d':Drawn}{ch:List Qj}(I:Inv X pins σ H s)
 (hch:∀b∈ch,(b∈X.ex\/X.s₀.heap.objs.size<=b)/\b≠X.env.locals/\(∀x c,X.env.cells.lookup x=some c->c≠b)/\∀p∈X.pn++pins,p.1≠b)
 (keep:∀b o,b≠X.env.locals->b∉X.fs->b∉ch->s.heap.get? b=some o->H b=none->h'.get? b=some o)
 (slot:∀b o,b≠X.env.locals->b∈X.fs->b∉ch->s.heap.get? b=some o->H b=none->∃sl,h'.get? b=some { o with slots:=sl }) (free:∀b o,b∉ch->s.heap.get? b=some o->H b=none->H' b=none)
 (there:∀b o,b∉ch->s.heap.get? b=some o->∃o',h'.get? b=some o')
 (tups:∀b xs,H b=some (.tup xs)->H' b=some (.tup xs)) (frzs:∀b o u,H b=some (.frz o u)->H' b=some (.frz o u)) (tbls:∀b ps,H b=some (.tbl ps)->∃more,H' b=some (.tbl (ps++more)))
 (ns:∀m,s.heap.Ns X.env.locals m->h'.Ns X.env.locals m) (hok:HOk X.prog X.w H' h') (hg:AllBare g') :
 Inv X pins σ H' { s with heap:=h',gens:=g',drawn:=d',toks:=t' }:=by
 have neL:∀b o,X.s₀.heap.get? b=some o->b≠X.env.locals:=fun b o e=>QD (Gn (Qo e) I.ok.above)
 have neC:∀b o,X.s₀.heap.get? b=some o->b∉X.ex->b∉ch:=fun b o e hx hb=>by
  rcases(hch b hb).1 with z|z
  ·exact hx z
  ·exact absurd (Gn (Qo e) z) (Gr _)
 have cellK:∀x c,X.env.cells.lookup x=some c->∀v,s.heap.IsCell c v->h'.IsCell c v:=fun x c e v ⟨o,ho,hd⟩=>by
  have nch:c∉ch:=fun z=>(hch c z).2.2.1 x c e rfl
  by_cases hc:c∈X.fs
  ·obtain⟨sl,q⟩:=slot c o (I.cne x c e) hc nch ho (I.freeC x c e);exact⟨_,q,hd⟩
  ·exact⟨o,keep c o (I.cne x c e) hc nch ho (I.freeC x c e),hd⟩
 refine⟨I.ok,I.os,hg,⟨fun b o e n hb hx=>?_,fun b o e n hb hx=>?_,fun b o e n hx=>?_,fun b o e hx=>?_,fun b xs e=>tups b xs (I.base.tups b xs e),fun b o xs e=>frzs b o xs (I.base.frzs b o xs e),fun b ps e=>?_⟩,?_,fun x c e=>?_,?_,fun x c e=>?_,fun p hp=>?_,hok,I.len⟩
 ·exact keep b o (neL b o e) hb (neC b o e hx) (I.base.keep b o e n hb hx) (I.base.free b o e n hx)
 ·obtain⟨sl,e1⟩:=I.base.slot b o e n hb hx;obtain⟨sl',e2⟩:=slot b _ (neL b o e) hb (neC b o e hx) e1 (I.base.free b o e n hx);exact⟨sl',e2⟩
 ·obtain⟨o',e1⟩:=I.base.there b o e hx;exact free b o' (neC b o e hx) e1 (I.base.free b o e n hx)
 ·obtain⟨o',e1⟩:=I.base.there b o e hx;exact there b o' (neC b o e hx) e1
 ·obtain⟨m1,e1⟩:=I.base.tbls b ps e;obtain⟨m2,e2⟩:=tbls b _ e1;exact⟨m1++m2,by rw[e2,Array.append_assoc]⟩
 ·obtain⟨m,hn,hl⟩:=I.loc;refine⟨m,ns m hn,fun i x v e1 e2 e3=>?_⟩;obtain⟨u,r,l⟩:=hl i x v e1 e2 e3;refine⟨u,r,?_⟩;rcases l with l|⟨k,c,e,z⟩
  ·exact .inl l
  ·exact .inr ⟨k,c,e,cellK x c e _ z⟩
 ·obtain⟨v,z⟩:=I.cell x c e;exact⟨v,cellK x c e v z⟩
 ·obtain⟨m,⟨o,_,_,ho,_⟩,_⟩:=I.loc;exact free _ o (fun z=>(hch _ z).2.1 rfl) ho I.free
 ·obtain⟨v,o,ho,hd⟩:=I.cell x c e;exact free c o (fun z=>(hch c z).2.2.1 x c e rfl) ho (I.freeC x c e)
 ·obtain⟨e,n,ne,nf,d⟩:=I.pin p hp;have nch:p.1∉ch:=fun z=>(hch p.1 z).2.2.2 p hp rfl
  exact⟨keep p.1 p.2 ne nf nch e n,free p.1 p.2 nch e n,ne,nf,d⟩
def Inv.un(I:Inv X pins σ H s)(u:Un X.fs [] H H' s.heap h')(hok:HOk X.prog X.w H' h'):Inv X pins σ H' { s with heap:=h',toks:=t' }:=by
 obtain⟨m,⟨o,es,ep,ho,r⟩,_⟩:=id I.loc;obtain⟨sl,hL⟩:=u.any ho I.free (by simp);exact I.step (g':=s.gens) (d':=s.drawn) (ch:=[]) (fun _ z=>nomatch z) (fun b o _ hb _ e n=>u.keep b o e n hb (by simp)) (fun b o _ hb _ e n=>u.slot b o e n hb (by simp)) (fun b o _ e n=>u.free b o e n (by simp)) (fun b o _ e=>u.there b o e (by simp)) u.tups u.frzs u.tbls (fun m' hm=>by obtain⟨o',es',ep',ho',r'⟩:=hm;rw[ho] at ho';cases ho';exact⟨_,es',ep',hL,r'⟩) hok I.bare
def Inv.call(I:Inv X pins σ H s)(u:Un (frs X.stack) ch H H' s.heap h')(hok:HOk X.prog X.w H' h')(hg:AllBare g')(hch:∀b∈ch,(b∈X.ex\/X.s₀.heap.objs.size<=b)/\b≠X.env.locals/\(∀x c,X.env.cells.lookup x=some c->c≠b)/\∀p∈X.pn++pins,p.1≠b):
 Inv X pins σ H' { s with heap:=h',gens:=g',drawn:=d',toks:=t' }:=by
 obtain⟨m,⟨o,es,ep,ho,r⟩,_⟩:=id I.loc;obtain⟨sl,hL⟩:=u.any ho I.free fun z=>(hch _ z).2.1 rfl
 exact I.step (ch:=ch) hch (fun b o hL hb hc e n=>u.keep b o e n (fun z=>(Qk.mp (I.stkSub b z)).elim hL hb) hc) (fun b o _ _ hc e n=>u.any e n hc) (fun b o hc e n=>u.free b o e n hc) (fun b o hc e=>u.there b o e hc) u.tups u.frzs u.tbls (fun m' hm=>by obtain⟨o',es',ep',ho',r'⟩:=hm;rw[ho] at ho';cases ho';exact⟨_,es',ep',hL,r'⟩) hok hg
def Inv.turned(I:Inv X pins σ H s)(k:∀b o,b≠it->s.heap.get? b=some o->h'.get? b=some o)(hn:H it=none)(hL:it≠X.env.locals)(h1:it∈X.ex\/X.s₀.heap.objs.size<=it)(h2:∀x c,X.env.cells.lookup x=some c->c≠it)(h3:∀p∈X.pn++pins,p.1≠it):Inv X pins σ H { s with heap:=h',toks:=t' }:=by
 have nit:∀b u,H b=some u->b≠it:=fun b u e z=>by rw[z,hn] at e;cases e
 refine I.step (g':=s.gens) (d':=s.drawn) (ch:=[it]) (fun b hb=>?_) (fun b o _ _ hc e _=>k b o (fun z=>hc (by simp[z])) e) (fun b o _ _ hc e _=>⟨o.slots,k b o (fun z=>hc (by simp[z])) e⟩) (fun _ _ _ _ n=>n)
  (fun b o hc e=>⟨o,k b o (fun z=>hc (by simp[z])) e⟩) (fun _ _ e=>e) (fun _ _ _ e=>e) (fun b ps e=>⟨#[],by rw[e];simp⟩) (fun m hm=>?_) (fun b u e=>?_) I.bare
 ·have e:b=it:=by simpa using hb
  subst e;exact⟨h1,hL,h2,h3⟩
 ·obtain⟨o,es,ep,ho,r⟩:=hm;exact⟨o,es,ep,k _ o (Q3 hL) ho,r⟩
 ·refine(I.hok b u e).stay (fun c v hc q=>k c v ?_ q) (fun _ q=>q) fun _ _ q=>q
  rcases hc with z|z
  ·rw[z];exact nit b u e
  ·exact nit c _ z
def Inv.tok(I:Inv X pins σ H s)(t:Nat):Inv X pins σ H { s with toks:=t }:=I.un (h':=s.heap) (t':=t) Un.refl I.hok
def Inv.kept(I:Inv X pins σ H s)(k:∀b u,s.heap.get? b=some u->h'.get? b=some u):Inv X pins σ H { s with heap:=h',toks:=t' }:=I.un (Un.kept k) (I.hok.kept k)
def Inv.laid{a:Qj}{o:HO}{t':Nat}(I:Inv X pins σ H s)(k:∀b u,s.heap.get? b=some u->h'.get? b=some u)(hp:s.heap.objs.size<=a)(new:ObjOk X.prog X.w (upd H a o) h' a o) :
 Inv X pins σ (upd H a o) { s with heap:=h',toks:=t' }:=I.un (Un.laid k hp (I.hok.fresh hp)) (I.hok.laid k hp new)
def Inv.write{x e:Qj}{o:HO}{t':Nat}(I:Inv X pins σ H s)(mu:Mut (H x))(he:e=x\/H e=some (.own x))(k:∀b u,b≠e->s.heap.get? b=some u->h'.get? b=some u)(heo:∃u,h'.get? e=some u)
 (new:ObjOk X.prog X.w (upd H x o) h' x o):Inv X pins σ (upd H x o) { s with heap:=h',toks:=t' }:=I.un (Un.write mu he k heo) (I.hok.write mu he k heo new)
def Inv.pins_of(I:Inv X pins σ H s)(h:∀p∈pins',s.heap.get? p.1=some p.2/\H p.1=none/\p.1≠X.env.locals/\p.1∉X.fs/\∀v,p.2.data≠.cell v):Inv X pins' σ H s :=
 ⟨I.ok,I.os,I.bare,I.base,I.loc,I.cell,I.free,I.freeC,fun p hp=>(Gd.mp hp).elim (fun z=>I.pin p (Ko _ z)) (h p),I.hok,I.len⟩
def Jdr{N:List Str}(hN:N.Nodup){i j:Nat}{x:Str}(a:N[i]?=some x)(b:N[j]?=some x):i=j:=by obtain⟨h1,e1⟩:=Qq.mp a;obtain⟨h2,e2⟩:=Qq.mp b;exact(List.getElem_inj hN).mp (e1.trans e2.symm)
def Jbn{M:Model}{A:QS}{E:Qe->Qi->Prop}{i:Nat}{x:Str}{v:V}{u:Qe}{Q:Unit->Qi->Prop}(I:Inv X pins σ H s)(hN:X.N.Nodup)(hi:X.N[i]?=some x)(hx:Loc X.env.scope x)(r:RelV v u)
 (h:∀s',Inv X pins (σ.set i (some v)) H s'->(∃a,QH a s.heap s'.heap/\(a=X.env.locals\/X.env.cells.lookup x=some a))->Q () s') (hf:X.fn x=true\/X.env.scope.names.lookup x=some .local:=by first|exact .inl rfl|exact .inr rfl|assumption):wpAny M A (storeName X.env x u) Q E s:=by
 obtain⟨m,hn,hl⟩:=id I.loc;have hcls:(X.env.scope.kind == .class || (X.env.scope.kind == .module && X.env.locals != X.env.globals))=false:=by rw[I.ok.kind];rfl
 have hiσ:i<σ.length:=by rw[I.len];exact(Qq.mp hi).1
 have cne:=I.cne
 have tracked:∀{a:Qj} {h':Q1},(∃o,s.heap.get? a=some o/\H a=none)->QH a s.heap h'->HOk X.prog X.w H h':=fun {a h'} ha hs b ob e=>by
  obtain⟨_,_,hfree⟩:=ha;refine(I.hok b ob e).stay (fun c w' hc q=>(hs.2 c ?_).trans q) (fun _ q=>q) fun _ _ q=>q
  rintro rfl;rcases hc with rfl|hc
  ·rw[hfree] at e;cases e
  ·rw[hfree] at hc;cases hc
 rcases hx with hk|hk
 ·refine wpAny_storeName_local hk hn (fun h' hn' hs=>?_) hcls;obtain⟨oL,_,_,hoL,_⟩:=id hn;refine h _ ⟨I.ok,I.os,I.bare,⟨fun b o e n hb hx=>?_,fun b o e n hb hx=>?_,I.base.free,fun b o e hx=>?_,I.base.tups,I.base.frzs,I.base.tbls⟩,⟨_,hn',fun j y v' e1 e2 e3=>?_⟩,fun y c e=>?_,I.free,I.freeC,fun p hp=>?_,tracked ⟨oL,hoL,I.free⟩ hs,by simpa using I.len⟩ ⟨_,hs,.inl rfl⟩
  ·exact(hs.2 b (QD (Gn (Qo e) I.ok.above))).trans (I.base.keep b o e n hb hx)
  ·obtain⟨sl,e1⟩:=I.base.slot b o e n hb hx;exact⟨sl,(hs.2 b (QD (Gn (Qo e) I.ok.above))).trans e1⟩
  ·obtain⟨o',e1⟩:=I.base.there b o e hx;exact⟨o',(hs.2 b (QD (Gn (Qo e) I.ok.above))).trans e1⟩
  ·by_cases hj:j=i
   ·subst hj;rw[hi] at e1;cases e1;rw[RA hiσ] at e2;cases e2;exact⟨u,r,.inl ⟨hk,by simp⟩⟩
   ·rw[R0 (Q3 hj)] at e2;obtain⟨u',r',q⟩:=hl j y v' e1 e2 e3;refine⟨u',r',?_⟩;rcases q with ⟨k,e⟩|⟨k,c,e,z⟩
    ·refine .inl ⟨k,?_⟩;have:y≠x:=fun e=>hj (Jdr hN e1 (e▸hi))
     simp[this,e]
    ·exact .inr ⟨k,c,e,z.sameBut hs (cne y c e)⟩
  ·obtain⟨w',z⟩:=I.cell y c e;exact⟨w',z.sameBut hs (cne y c e)⟩
  ·obtain⟨e,n,ne,nf,d⟩:=I.pin p hp;exact⟨(hs.2 p.1 ne).trans e,n,ne,nf,d⟩
 ·have hfn:X.fn x=true:=by
   rcases hf with z|z
   ·exact z
   ·rw[z] at hk;cases hk
  obtain⟨c,hc⟩:=I.ok.has x (.inl hk);obtain⟨w',z⟩:=I.cell x c hc;refine wpAny_storeName_cell I.ok.kind hk hc z (fun h' hc' hs=>?_);obtain⟨oc,hoc,hocd⟩:=id z;refine h { s with heap:=h' } ⟨I.ok,I.os,I.bare,⟨fun b o e n hb hx=>?_,fun b o e n hb hx=>?_,I.base.free,fun b o e hx=>?_,I.base.tups,I.base.frzs,I.base.tbls⟩,⟨m,hn.sameBut hs (Q3 (cne x c hc)),fun j y v' e1 e2 e3=>?_⟩,fun y c' e=>?_,I.free,I.freeC,fun p hp=>?_,tracked ⟨oc,hoc,I.freeC x c hc⟩ hs,by simpa using I.len⟩ ⟨c,hs,.inr hc⟩
  ·exact(hs.2 b (QD (Gn (Qo e) (I.ok.cab x c hfn hc)))).trans (I.base.keep b o e n hb hx)
  ·obtain⟨sl,e1⟩:=I.base.slot b o e n hb hx;exact⟨sl,(hs.2 b (QD (Gn (Qo e) (I.ok.cab x c hfn hc)))).trans e1⟩
  ·obtain⟨o',e1⟩:=I.base.there b o e hx;exact⟨o',(hs.2 b (QD (Gn (Qo e) (I.ok.cab x c hfn hc)))).trans e1⟩
  ·by_cases hj:j=i
   ·subst hj;rw[hi] at e1;cases e1;rw[RA hiσ] at e2;cases e2;exact⟨u,r,.inr ⟨.inl hk,c,hc,hc'⟩⟩
   ·rw[R0 (Q3 hj)] at e2;obtain⟨u',r',q⟩:=hl j y v' e1 e2 e3;refine⟨u',r',?_⟩;rcases q with q|⟨k,c',e,z'⟩
    ·exact .inl q
    ·refine .inr ⟨k,c',e,z'.sameBut hs ?_⟩;rintro rfl;exact hj (Jdr hN e1 (I.ok.inj _ _ _ e hc▸hi))
  ·by_cases hcc:c'=c
   ·subst hcc;exact⟨_,hc'⟩
   ·obtain⟨w2,z2⟩:=I.cell y c' e;exact⟨w2,z2.sameBut hs hcc⟩
  ·obtain⟨e,n,ne,nf,d⟩:=I.pin p hp;refine⟨(hs.2 p.1 ?_).trans e,n,ne,nf,d⟩;intro q;rw[q,hoc] at e;have q':oc=p.2:=QQ e;exact d w' (by rw[<- q'];exact hocd)
def Jaz{M:Model}{A:QS}{E:Qe->Qi->Prop}{i:Nat}{x:Str}{v:V}{u:Qe}{Q:Unit->Qi->Prop}(I:Inv X pins σ H s)(hN:X.N.Nodup)(hi:X.N[i]?=some x)(hx:Loc X.env.scope x)(r:RelV v u)
 (h:∀s',Inv X pins (σ.set i (some v)) H s'->Q () s') (hf:X.fn x=true\/X.env.scope.names.lookup x=some .local:=by first|exact .inl rfl|exact .inr rfl|assumption):wpAny M A (storeName X.env x u) Q E s :=
 Jbn I hN hi hx r (fun s' I' _=>h s' I') hf
def Inv.call'(I:Inv X pins σ H s)(ho:s'.os=s.os)(u:Un (frs X.stack) ch H H' s.heap s'.heap)(hok:HOk X.prog X.w H' s'.heap)(hg:AllBare s'.gens)(hch:∀b∈ch,(b∈X.ex\/X.s₀.heap.objs.size<=b)/\b≠X.env.locals/\(∀x c,X.env.cells.lookup x=some c->c≠b)/\∀p∈X.pn++pins,p.1≠b):Inv X pins σ H' s':=by
 obtain⟨h',g',d',t',o'⟩:=s';have e:o'=s.os:=ho;subst e;exact I.call (g':=g') (t':=t') (d':=d') u hok hg hch
end
noncomputable abbrev XK:=Qe->Option Qj->Hp->Prop
noncomputable abbrev St:=List (Option V)
noncomputable abbrev VK:=V->Hp->Prop
noncomputable abbrev TE:=St->Hp->VK->Prop
noncomputable abbrev TT:=St->Hp->(Bool->Hp->Prop)->Prop
noncomputable abbrev TA:=St->Hp->(List V->Hp->Prop)->Prop
structure Ends where
 nx:St->Hp->Prop
 rt:VK
 bk:St->Hp->Prop:=fun _ _=>False
 ct:St->Hp->Prop:=fun _ _=>False
noncomputable abbrev TS:=Ends->St->Hp->Prop
noncomputable def EP(X:Cx)(pins:List (Qj×Obj))(σ:St)(Q:VK)(u:Qe)(s':Qi):Prop:=∃v H',Inv X pins σ H' s'/\RelV v u/\Q v H'
noncomputable def TP(X:Cx)(pins:List (Qj×Obj))(σ:St)(Q:Bool->Hp->Prop)(b:Bool)(s':Qi):Prop:=∃H',Inv X pins σ H' s'/\Q b H'
noncomputable def AP(X:Cx)(pins:List (Qj×Obj))(σ:St)(Q:List V->Hp->Prop)(us:List Qe)(s':Qi):Prop:=∃vs H',Inv X pins σ H' s'/\Vals vs us/\Q vs H'
noncomputable def SP(X:Cx)(pins:List (Qj×Obj))(D:Ends)(f:Flow)(s':Qi):Prop :=
 match f with
 | .next=>∃σ' H',Inv X pins σ' H' s'/\D.nx σ' H'
 | .brk=>∃σ' H',Inv X pins σ' H' s'/\D.bk σ' H'
 | .cont=>∃σ' H',Inv X pins σ' H' s'/\D.ct σ' H'
 | .ret u=>∃v σ' H',Inv X pins σ' H' s'/\RelV v u/\D.rt v H'
noncomputable def PE(X:Cx)(e:GA)(t:TE):Prop :=
 ∀(pins:List (Qj×Obj)) (s:Qi) (σ:St) (H:Hp) (Q:VK),Inv X pins σ H s->t σ H Q->wpAny (model X.prog X.w) X.A (eval e X.env) (EP X pins σ Q) X.xe s
noncomputable def PT(X:Cx)(e:GA)(t:TT):Prop :=
 ∀(pins:List (Qj×Obj)) (s:Qi) (σ:St) (H:Hp) (Q:Bool->Hp->Prop),Inv X pins σ H s->t σ H Q->wpAny (model X.prog X.w) X.A (isTrue e X.env (eval e X.env)) (TP X pins σ Q) X.xe s
noncomputable def PW(X:Cx)(e:GA)(t:TT):Prop :=
 ∀(whole:Sem Qe) (pins:List (Qj×Obj)) (s:Qi) (σ:St) (H:Hp) (Q:Bool->Hp->Prop),Inv X pins σ H s->t σ H Q->wpAny (model X.prog X.w) X.A (isTrue e X.env whole) (TP X pins σ Q) X.xe s
def PW.pt(h:PW X e t):PT X e t:=h _
noncomputable def PA(X:Cx)(es:List GA)(t:TA):Prop :=
 ∀(pos:Pos) (pins:List (Qj×Obj)) (s:Qi) (σ:St) (H:Hp) (Q:List V->Hp->Prop),Inv X pins σ H s->t σ H Q->wpAny (model X.prog X.w) X.A (spliced (backTo pos (starEach es X.env))) (AP X pins σ Q) X.xe s
noncomputable def PS(X:Cx)(st:Kv)(t:TS):Prop :=
 ∀(pins:List (Qj×Obj)) (s:Qi) (σ:St) (H:Hp) (D:Ends),Inv X pins σ H s->t D σ H->wpAny (model X.prog X.w) X.A (exec st X.env) (SP X pins D) X.xe s
noncomputable def PSs(X:Cx)(st:List Kv)(t:TS):Prop :=
 ∀(pins:List (Qj×Obj)) (s:Qi) (σ:St) (H:Hp) (D:Ends),Inv X pins σ H s->t D σ H->wpAny (model X.prog X.w) X.A (execs st X.env) (SP X pins D) X.xe s
def thn{α:Type}{t:Sem α}{Q Q':α->Qi->Prop}(h:wpAny M A t Q E s)(hQ:∀a s,Q a s->Q' a s):wpAny M A t Q' E s:=KZ h hQ fun _ _ x=>x
section
variable{X:Cx}
noncomputable def V2(i:Nat):TE:=fun σ H Q=>∃v,σ[i]?=some (some v)/\Q v H
noncomputable def tC(v:V):TE:=fun _ H Q=>Q v H
def JoY{i:Nat}{x:Str}{pos:Pos}(hN:X.N[i]?=some x)(hv:Vis X.env.scope x)(hd:(x == ("__debug__":Str))=false:=by decide)(hcd:(x == ("__classdict__":Str))=false:=by decide):PE X (.Name x pos) (V2 i):=by
 intro pins s σ H Q I h;obtain⟨v,e,h⟩:=h;obtain⟨m,hn,hl⟩:=I.loc;obtain⟨u,r,l⟩:=hl i x v hN e hv;have fin:EP X pins σ Q u s:=⟨v,H,I,r,h⟩
 rcases l with ⟨hk,hm⟩|⟨hk,c,hc,hcell⟩
 ·exact wpAny_Name (wpAny_loadName_local I.ok.kind hk hn hm fin) hd
 ·rcases hk with hk|hk
  ·exact wpAny_Name (wpAny_loadName_cell I.ok.kind hk hc hcell fin) hd
  ·exact wpAny_Name (wpAny_loadName_free I.ok.kind hk hc hcell fin hcd) hd
def Jf{i j pos}:PE X (.Constant (.int i) j pos) (tC (.int i)):=fun _ _ _ H _ I h=>wpAny_Constant_int ⟨.int i,H,I.tok _,⟨_,rfl⟩,h⟩
def Jbh{b j pos}:PE X (.Constant (.bool b) j pos) (tC (.bl b)):=fun _ _ _ H _ I h=>Constant_bool ⟨.bl b,H,I,rfl,h⟩
def J6{j pos}:PE X (.Constant .none j pos) (tC .non):=fun _ _ _ H _ I h=>Constant_none ⟨.non,H,I,rfl,h⟩
noncomputable def Gl(X:Cx)(x:Str):Prop:=X.env.kindOf x=some .globalImplicit
def Jb8{E:Qe->Qi->Prop}{pins:List (Qj×Obj)}{s:Qi}{σ:St}{H:Hp}{x:Str}{u:Qe}{pos:Pos}{Q:Qe->Qi->Prop}(I:Inv X pins σ H s)(hg:Gl X x)(hm:X.mg x=some u)(h:Q u s)
 (hd:(x == ("__debug__":Str))=false:=by decide):wpAny (model X.prog X.w) X.A (eval (.Name x pos) X.env) Q E s :=
 MS I.ok.kind hg (Calls.loadGlobal_global (by rw[I.ok.glob];exact I.mod.glob.keeps I.bk) hm h) hd
def Uv{E:Qe->Qi->Prop}{pins:List (Qj×Obj)}{s:Qi}{σ:St}{H:Hp}{x:Str}{u:Qe}{pos:Pos}{Q:Qe->Qi->Prop}(I:Inv X pins σ H s)(hg:Gl X x)(hm:X.mg x=none)(hv:bootBuiltins x=some u)(h:Q u s)
 (hn:x≠"__name__":=by decide) (hd:(x == ("__debug__":Str))=false:=by decide):wpAny (model X.prog X.w) X.A (eval (.Name x pos) X.env) Q E s:=by
 obtain⟨mb,h1,h2⟩:=I.mod.blt;exact MS I.ok.kind hg (Calls.loadGlobal_builtin (by rw[I.ok.glob];exact I.mod.glob.keeps I.bk) hm (by rw[I.ok.blt];exact h1.keeps I.bk) ((h2 x hn).trans hv) h) hd
def JlX{x:Str}{v:V}{u:Qe}{pos:Pos}(hg:Gl X x)(hm:X.mg x=some u)(r:RelV v u)(hd:(x == ("__debug__":Str))=false:=by decide):PE X (.Name x pos) (tC v) :=
 fun _ _ _ H _ I h=>Jb8 I hg hm ⟨v,H,I,r,h⟩ hd
def Jgg{x:Str}{v:V}{u:Qe}{pos:Pos}(hg:Gl X x)(hm:X.mg x=none)(hv:bootBuiltins x=some u)(r:RelV v u)(hn:x≠"__name__":=by decide)(hd:(x == ("__debug__":Str))=false:=by decide):PE X (.Name x pos) (tC v) :=
 fun _ _ _ H _ I h=>Uv I hg hm hv ⟨v,H,I,r,h⟩ hn hd
variable{a b:GA}{ta tb:TE}{pos:Pos}
variable{tA tB':TT}{rest:List GA}
noncomputable def JpL(t u:TT):TT:=fun σ H Q=>t σ H fun c H1=>if c=true then u σ H1 Q else Q false H1
noncomputable def tOr(t u:TT):TT:=fun σ H Q=>t σ H fun c H1=>if c=true then Q true H1 else u σ H1 Q
noncomputable def Jry(t:TT):TT:=fun σ H Q=>t σ H fun c H1=>Q (!c) H1
def VB(ha:PT X a tA):PW X (.BoolOp .And [a] pos) tA:=by
 intro wh pins s σ H Q I h;refine isTrue_and (thn (ha pins s σ H Q I h) fun c s1 e=>?_)
 cases c with
 | true=>exact isTrue_and_nil e
 | false=>exact e
def Je2(ha:PT X a tA):PW X (.BoolOp .Or [a] pos) tA:=by
 intro wh pins s σ H Q I h;refine isTrue_or (thn (ha pins s σ H Q I h) fun c s1 e=>?_)
 cases c with
 | false=>exact isTrue_or_nil e
 | true=>exact e
def WK(ha:PT X a tA)(hb:PW X (.BoolOp .And (b::rest) pos) tB'):PW X (.BoolOp .And (a::b::rest) pos) (JpL tA tB'):=by
 intro wh pins s σ H Q I h;refine isTrue_and (thn (ha pins s σ H _ I h) fun c s1 ⟨H1,I1,q1⟩=>?_)
 cases c with
 | true=>exact hb wh pins s1 σ H1 Q I1 q1
 | false=>exact⟨H1,I1,q1⟩
def JjM(ha:PT X a tA)(hb:PW X (.BoolOp .Or (b::rest) pos) tB'):PW X (.BoolOp .Or (a::b::rest) pos) (tOr tA tB'):=by
 intro wh pins s σ H Q I h;refine isTrue_or (thn (ha pins s σ H _ I h) fun c s1 ⟨H1,I1,q1⟩=>?_)
 cases c with
 | true=>exact⟨H1,I1,q1⟩
 | false=>exact hb wh pins s1 σ H1 Q I1 q1
def Jo6(ha:PT X a tA):PT X (.UnaryOp .Not a pos) (Jry tA):=by intro pins s σ H Q I h;exact isTrue_not (ha pins s σ H (fun c H1=>Q (!c) H1) I h)
noncomputable def Jnz(ta tb:TE):TE:=fun σ H Q=>ta σ H fun x H1=>∃c,x=.bl c/\if c=true then tb σ H1 Q else Q (.bl false) H1
def Jjy{op}(h:PE X a t):PE X (.BoolOp op [a] pos) t:=fun pins s σ H Q I hw=>BoolOp_one (h pins s σ H Q I hw)
def Jju(ha:PE X a ta)(hb:PE X (.BoolOp .And (b::rest) pos) tb):PE X (.BoolOp .And (a::b::rest) pos) (Jnz ta tb):=by
 intro pins s σ H Q I h;refine BoolOp_and (thn (ha pins s σ H _ I h) fun v s1 ⟨x,H1,I1,r1,q1⟩=>?_);obtain⟨c,rfl,q1⟩:=q1;cases r1;refine KU ?_
 cases c with
 | true=>exact hb pins s1 σ H1 Q I1 q1
 | false=>exact⟨.bl false,H1,I1,rfl,q1⟩
noncomputable def tIf(t:TT)(ta tb:TE):TE:=fun σ H Q=>t σ H fun c H1=>if c=true then ta σ H1 Q else tb σ H1 Q
def Jah(hc:PT X c tA)(ha:PE X a ta)(hb:PE X b tb):PE X (.IfExp c a b pos) (tIf tA ta tb):=by
 intro pins s σ H Q I h;refine wpAny_IfExp (thn (hc pins s σ H _ I h) fun d s1 ⟨H1,I1,q1⟩=>?_)
 cases d with
 | true=>exact ha pins s1 σ H1 Q I1 q1
 | false=>exact hb pins s1 σ H1 Q I1 q1
end
noncomputable def SqL(K:QE)(H:Hp)(a:Qj)(xs:List V):Prop :=
 Rd H a (.lst xs) ∨
  ∃(o:Obj) (its:Array Qe) (n:Nat),K.lookup a=some o/\o.cls=.type "list"/\o.dict=none/\o.data=.seq its n/\its.size<=Qt/\Vals xs its.toList
noncomputable def SqT(K:QE)(H:Hp)(a:Qj)(xs:List V):Prop :=
 Rd H a (.tup xs) ∨
  ∃(o:Obj) (its:Array Qe) (n:Nat),K.lookup a=some o/\o.cls=.type "tuple"/\o.data=.seq its n/\its.size<=Qt/\Vals xs its.toList
noncomputable def JrN:Qe->Option V
 | .none=>some .non
 | .bool b=>some (.bl b)
 | .int i _=>some (.int i)
 | .str x _=>some (.str x)
 | .bytes b _=>some (.byt b)
 | .float b _=>some (.flt b)
 | .ref a=>some (.ref a)
 | .type n=>some (.ty n)
 | _=>none
def RelV.abs(r:RelV x u):JrN u=some x:=by
 cases x with
 | non=>cases r;rfl
 | bl _=>cases r;rfl
 | int _=>obtain⟨t,rfl⟩:=r;rfl
 | str _=>obtain⟨t,rfl⟩:=r;rfl
 | byt _=>obtain⟨t,rfl⟩:=r;rfl
 | flt _=>obtain⟨t,rfl⟩:=r;rfl
 | ref _=>cases r;rfl
 | ty _=>cases r;rfl
def RelV.inj(r:RelV x u)(q:RelV y u):x=y:=QQ (r.abs.symm.trans q.abs)
theorem Vals.inj:∀{xs ys:List V} {us:List Qe},Vals xs us->Vals ys us->xs=ys
 | _,_,_,.nil,.nil=>rfl
 | _,_,_,.cons r t,.cons r' t'=>by rw[r.inj r',Vals.inj t t']
def SqL.of{K:QE}(h:H a=some (.lst xs)):SqL K H a xs:=.inl (.inl h)
def SqT.of{K:QE}(h:H a=some (.tup xs)):SqT K H a xs:=.inl (.inl h)
def Inv.list(I:Inv X pins σ H s)(h:SqL X.K H a xs):∃its:List Qe,Vals xs its/\PlainL s.heap a its.toArray/\xs.length<=Qt:=by
 rcases h with h|⟨o,its,n,hk,hc,hd,hs,hz,r⟩
 ·obtain⟨z,its,n,r,e⟩:=h.ok I.hok;exact⟨its,r,⟨_,n,e,rfl,rfl,rfl⟩,z⟩
 ·refine⟨its.toList,r,⟨o,n,I.kIn a o hk,hc,hd,by simpa using hs⟩,?_⟩;have e:=r.length;simp only[QN] at e;omega
def Inv.tuple(I:Inv X pins σ H s)(h:SqT X.K H a xs):∃its:List Qe,Vals xs its/\IsTup s.heap a its.toArray/\xs.length<=Qt:=by
 rcases h with h|⟨o,its,n,hk,hc,hs,hz,r⟩
 ·obtain⟨z,its,r,p⟩:=h.ok I.hok;exact⟨its,r,p,z⟩
 ·refine⟨its.toList,r,⟨o,I.kIn a o hk,hc,n,by simpa using hs⟩,?_⟩;have e:=r.length;simp only[QN] at e;omega
def Inv.list_inj(I:Inv X pins σ H s)(h:SqL X.K H a xs)(h':SqL X.K H a ys):xs=ys:=by
 obtain⟨its,r,⟨o,n,e,_,_,d⟩,_⟩:=I.list h;obtain⟨its',r',⟨o',n',e',_,_,d'⟩,_⟩:=I.list h';rw[e] at e';cases e';rw[d] at d'
 injection d' with d1 _
 have:its=its':=by simpa using congrArg Array.toList d1
 subst this;exact r.inj r'
def Inv.tuple_inj(I:Inv X pins σ H s)(h:SqT X.K H a xs)(h':SqT X.K H a ys):xs=ys:=by
 obtain⟨its,r,⟨o,e,_,n,d⟩,_⟩:=I.tuple h;obtain⟨its',r',⟨o',e',_,n',d'⟩,_⟩:=I.tuple h';rw[e] at e';cases e';rw[d] at d'
 injection d' with d1 _
 have:its=its':=by simpa using congrArg Array.toList d1
 subst this;exact r.inj r'
noncomputable abbrev Cx.wish(X:Cx)(E:Qe->Qi->Prop):Cx:={ X with xe:=E }
noncomputable abbrev Cx.nox(X:Cx):Cx:=X.wish fun _ _=>False
def Cx.Ok.wish{X:Cx}(ok:X.Ok)(E:Qe->Qi->Prop):(X.wish E).Ok :=
 ⟨ok.mod,ok.kind,ok.glob,ok.blt,ok.above,ok.inj,ok.has,ok.cab,ok.hd,ok.frames,ok.stk,ok.exf,ok.bs,ok.bsz,ok.noex,ok.exfs,ok.funs,ok.frf⟩
def Cx.Ok.unwish{X:Cx}{E:Qe->Qi->Prop}(ok:(X.wish E).Ok):X.Ok :=
 ⟨ok.mod,ok.kind,ok.glob,ok.blt,ok.above,ok.inj,ok.has,ok.cab,ok.hd,ok.frames,ok.stk,ok.exf,ok.bs,ok.bsz,ok.noex,ok.exfs,ok.funs,ok.frf⟩
def Inv.wish(I:Inv X pins σ H s)(E:Qe->Qi->Prop):Inv (X.wish E) pins σ H s:=⟨I.ok.wish E,I.os,I.bare,I.base,I.loc,I.cell,I.free,I.freeC,I.pin,I.hok,I.len⟩
def Inv.unwish(I:Inv (X.wish E) pins σ H s):Inv X pins σ H s:=⟨I.ok.unwish,I.os,I.bare,I.base,I.loc,I.cell,I.free,I.freeC,I.pin,I.hok,I.len⟩
def SP.unwish(h:SP (X.wish E) pins D f s'):SP X pins D f s':=by
 cases f with
 | next=>obtain⟨σ',H',I,q⟩:=h;exact⟨σ',H',I.unwish,q⟩
 | brk=>obtain⟨σ',H',I,q⟩:=h;exact⟨σ',H',I.unwish,q⟩
 | cont=>obtain⟨σ',H',I,q⟩:=h;exact⟨σ',H',I.unwish,q⟩
 | ret u=>obtain⟨v,σ',H',I,r,q⟩:=h;exact⟨v,σ',H',I.unwish,r,q⟩
def PSs.nox{st:List Kv}{t:TS}(h:PSs X.nox st t):PSs X st t:=fun pins s σ H D I hw=>KZ (h pins s σ H D (I.wish _) hw) (fun _ _ q=>q.unwish) fun _ _ z=>KE z
section
variable{X:Cx}{st:Kv}{rest:List Kv}{t u:TS}{e:GA}{te:TE}{pos:Pos}
noncomputable def Jkq:TS:=fun D σ H=>D.nx σ H
noncomputable def JpP(t u:TS):TS:=fun D σ H=>t { D with nx:=u D } σ H
def Jy:PSs X [] Jkq:=fun _ _ σ H _ I h=>MA ⟨σ,H,I,h⟩
def Jc(h1:PS X st t)(h2:PSs X rest u):PSs X (st::rest) (JpP t u):=by
 intro pins s σ H D I h;refine wpAny_execs_cons (thn (h1 pins s σ H { D with nx:=u D } I h) fun f s1 q=>?_)
 cases f with
 | next=>obtain⟨σ',H',I',q⟩:=q;exact h2 pins s1 σ' H' D I' q
 | ret v=>exact q
 | brk=>exact q
 | cont=>exact q
def Jg(h1:PS X st t):PSs X [st] t:=by
 intro pins s σ H D I h;refine wpAny_execs_cons (thn (h1 pins s σ H D I h) fun f s1 q=>?_)
 cases f with
 | next=>exact MA q
 | ret v=>exact q
 | brk=>exact q
 | cont=>exact q
def Inv.quiet{pins:List (Qj×Obj)}{σ:St}{H:Hp}{s:Qi}(I:Inv X pins σ H s):interactive X.env=false:=by simp[interactive,I.ok.kind]
noncomputable def W4(te:TE):TS:=fun D σ H=>te σ H fun _ H1=>D.nx σ H1
def JQ(he:PE X e te)(hs:swapsWith e none pos.line X.env=pure false:=by rfl):PS X (.Expr e pos) (W4 te):=by intro pins s σ H D I h;exact wpAny_Expr_any (thn (he pins s σ H _ I h) fun v s1 ⟨x,H1,I1,r1,q1⟩=>⟨σ,H1,I1,q1⟩) I.quiet hs
noncomputable def JpO(te:TE):TS:=fun D σ H=>te σ H D.rt
def Jx(he:PE X e te):PS X (.Return (some e) pos) (JpO te):=by intro pins s σ H D I h;exact wpAny_Return_some (thn (he pins s σ H _ I h) fun v s1 ⟨x,H1,I1,r1,q1⟩=>⟨x,σ,H1,I1,r1,q1⟩)
noncomputable def JmJ(c:TT)(t u:TS):TS:=fun D σ H=>c σ H fun b H1=>if b=true then t D σ H1 else u D σ H1
def J1(hc:PT X c tc)(ha:PSs X a t)(hb:PSs X b u):PS X (.If c a b pos) (JmJ tc t u):=by
 intro pins s σ H D I h;refine wpAny_If (thn (hc pins s σ H _ I h) fun d s1 ⟨H1,I1,q1⟩=>?_)
 cases d with
 | true=>exact ha pins s1 σ H1 D I1 q1
 | false=>exact hb pins s1 σ H1 D I1 q1
noncomputable def Jkp:TS:=fun _ _ _=>False
def YY:PS X st Jkp:=fun _ _ _ _ _ _ h=>h.elim
end
noncomputable abbrev TG:=V->St->Hp->(St->Hp->Prop)->Prop
noncomputable abbrev TGs:=List V->St->Hp->(St->Hp->Prop)->Prop
noncomputable def PG(X:Cx)(target:GA)(t:TG):Prop :=
 ∀(pins:List (Qj×Obj)) (s:Qi) (σ:St) (H:Hp) (v:V) (u:Qe) (Q:St->Hp->Prop),Inv X pins σ H s->RelV v u->t v σ H Q ->
  wpAny (model X.prog X.w) X.A (assign target X.env u) (fun _ s'=>∃σ' H',Inv X pins σ' H' s'/\Q σ' H') X.xe s
noncomputable def PGs(X:Cx)(ts:List GA)(t:TGs):Prop :=
 ∀(pins:List (Qj×Obj)) (s:Qi) (σ:St) (H:Hp) (vs:List V) (us:List Qe) (Q:St->Hp->Prop),Inv X pins σ H s->Vals vs us->t vs σ H Q ->
  wpAny (model X.prog X.w) X.A (assignInOrder ((assignEach ts X.env).map (·.2)) us) (fun _ s'=>∃σ' H',Inv X pins σ' H' s'/\Q σ' H') X.xe s
noncomputable abbrev TIp:=V->V->Hp->VK->Prop
noncomputable def PIp(X:Cx)(op:Operator)(t:TIp):Prop :=
 ∀(pins:List (Qj×Obj)) (s:Qi) (σ:St) (H:Hp) (x y:V) (v u:Qe) (Q:VK),Inv X pins σ H s->RelV x v->RelV y u->t x y H Q ->
  wpAny (model X.prog X.w) X.A (inplaceOp op v u) (EP X pins σ Q) X.xe s
noncomputable def U1(i:Nat):TG:=fun v σ H Q=>Q (σ.set i (some v)) H
def Jo{i:Nat}{x:Str}(hN:X.N.Nodup)(hi:X.N[i]?=some x)(hx:Loc X.env.scope x)(hf:X.fn x=true\/X.env.scope.names.lookup x=some .local:=by first|exact .inl rfl|exact .inr rfl|assumption):PG X (.Name x pos) (U1 i):=by intro pins s σ H v u Q I r h;exact wpAny_assign_Name (Jaz I hN hi hx r (fun s' I'=>⟨_,H,I',h⟩) hf)
noncomputable def Jlm:TGs:=fun vs σ H Q=>vs=[]/\Q σ H
noncomputable def JfX(t:TG)(u:TGs):TGs:=fun vs σ H Q=>∃v r,vs=v::r/\t v σ H fun σ' H'=>u r σ' H' Q
def Ju:PGs X [] Jlm:=by intro pins s σ H vs us Q I r h;obtain⟨e,h⟩:=h;subst e;cases r;exact assignInOrder_nil ⟨σ,H,I,h⟩
def Je{e:GA}{es:List GA}{t:TG}{u:TGs}(h1:PG X e t)(h2:PGs X es u)
 (hs:(assignEach (e::es) X.env).map (·.2)=assign e X.env::(assignEach es X.env).map (·.2):=by rfl):PGs X (e::es) (JfX t u):=by
 intro pins s σ H vs us Q I r h;obtain⟨v,vr,e1,h⟩:=h;subst e1
 cases r with
 | cons r rr=>rw[hs];refine assignInOrder_cons (thn (h1 pins s σ H _ _ _ I r h) fun _ s1 ⟨σ1,H1,I1,q1⟩=>?_);exact h2 pins s1 σ1 H1 _ _ Q I1 rr q1
noncomputable def Jhi(K:QE)(n:Nat)(t:TGs):TG:=fun v σ H Q=>∃a xs,v=.ref a/\SqT K H a xs/\xs.length=n/\t xs σ H Q
def JoZ(hc:X.calm=true)(h:PGs X es t)(hn:(assignEach es X.env).length=n:=by rfl)(hst:(assignEach es X.env).findIdx? (·.1)=none:=by rfl):PG X (.Tuple es k pos) (Jhi X.K n t):=by
 intro pins s σ H v u Q I r hw;obtain⟨a,xs,e1,hq,hl,hw⟩:=hw;subst e1;cases r;obtain⟨its,rv,ht,hz⟩:=I.tuple hq;refine assign_Tuple_tuple (I.ok.hd hc) ht (by simp[hn,<- hl,rv.length]) hst fun h' hx=>?_
 have I1:Inv X pins σ H { s with heap:=h' }:=I.kept (t':=s.toks) fun b o e=>hx b o (QD (Qo e)) e
 exact h pins _ σ H xs _ Q I1 (by simpa using rv) hw
noncomputable def JcD(te:TE)(g:TG):TS:=fun D σ H=>te σ H fun x H1=>g x σ H1 D.nx
def Jo4{tg e:GA}{te:TE}{g:TG}(he:PE X e te)(hg:PG X tg g)(hs:swapsWithSole [tg] e pos.line X.env=pure false:=by rfl)(hw:swappedStores [tg] e X.env=pure none:=by rfl)
 (h1:(assignEach [tg] X.env).map (·.2)=[assign tg X.env]:=by rfl):PS X (.Assign [tg] e pos) (JcD te g):=by
 intro pins s σ H D I h;refine wpAny_Assign_stores (thn (he pins s σ H _ I h) fun v s1 ⟨x,H1,I1,r1,q1⟩=>?_) hs hw;rw[h1];exact thn (hg pins s1 σ H1 x v _ I1 r1 q1) fun _ s2 q=>q
def UW{i:Nat}{x:Str}{e:GA}{te:TE}{pos':Pos}(hN:X.N.Nodup)(hi:X.N[i]?=some x)(hx:Loc X.env.scope x)(he:PE X e te)(hs:swapsWith e (some (.Name x pos')) pos.line X.env=pure false:=by rfl)(hf:X.fn x=true\/X.env.scope.names.lookup x=some .local:=by first|exact .inl rfl|exact .inr rfl|assumption) :
 PS X (.Assign [.Name x pos'] e pos) (JcD te (U1 i)):=by
 intro pins s σ H D I h;refine wpAny_Assign_Name (thn (he pins s σ H _ I h) fun v s1 ⟨y,H1,I1,r1,q1⟩=>?_) hs;exact Jaz I1 hN hi hx r1 (fun s2 I2=>⟨_,H1,I2,q1⟩) hf
noncomputable def Jrx(i:Nat)(te:TE)(ti:TIp):TS:=fun D σ H=>∃x,σ[i]?=some (some x)/\te σ H fun y H1=>ti x y H1 fun z H2=>D.nx (σ.set i (some z)) H2
def JjH{i:Nat}{x:Str}{e:GA}{te:TE}{op:Operator}{ti:TIp}{pos':Pos}(hN:X.N.Nodup)(hi:X.N[i]?=some x)(hx:Loc X.env.scope x)(he:PE X e te)(ho:PIp X op ti)(hf:X.fn x=true\/X.env.scope.names.lookup x=some .local:=by first|exact .inl rfl|exact .inr rfl|assumption) :
 PS X (.AugAssign (.Name x pos') op e pos) (Jrx i te ti):=by
 intro pins s σ H D I h;obtain⟨v,e1,h⟩:=h;obtain⟨m,hn,hl⟩:=I.loc;have vis:Vis X.env.scope x:=by rcases hx with k|k;exact .inl k;exact .inr (.inl k)
 obtain⟨u,r,l⟩:=hl i x v hi e1 vis;refine wpAny_AugAssign_Name ?_
 have go:wpAny (model X.prog X.w) X.A (eval e X.env) (fun w s₂=>wpAny (model X.prog X.w) X.A (inplaceOp op u w) (fun r s₃=>wpAny (model X.prog X.w) X.A (storeName X.env x r) (fun _=>SP X pins D .next) X.xe s₃) X.xe s₂) X.xe s:=by
  refine thn (he pins s σ H _ I h) fun w s1 ⟨y,H1,I1,r1,q1⟩=>?_
  refine thn (ho pins s1 σ H1 v y u w _ I1 r r1 q1) fun z s2 ⟨zv,H2,I2,r2,q2⟩=>?_
  exact Jaz I2 hN hi hx r2 (fun s3 I3=>⟨_,H2,I3,q2⟩) hf
 rcases l with ⟨hk,hm⟩|⟨hk,c,hc,hcell⟩
 ·exact wpAny_loadName_local I.ok.kind hk hn hm go
 ·rcases hk with hk|hk
  ·exact wpAny_loadName_cell I.ok.kind hk hc hcell go
  ·rcases hx with k|k
   ·have:X.env.scope.names.lookup x=some .free:=hk;rw[k] at this;cases this
   ·have:X.env.scope.names.lookup x=some .free:=hk;rw[k] at this;cases this
noncomputable def ipI(f:Int->Int->Int):TIp:=fun x y H Q=>∃i j,x=.int i/\y=.int j/\Q (.int (f i j)) H
def Jn3:PIp X .Add (ipI fun i j=>i+j):=by intro pins s σ H x y v u Q I r1 r2 h;obtain⟨i,j,e1,e2,q⟩:=h;subst e1;subst e2;obtain⟨t,rfl⟩:=r1;obtain⟨t',rfl⟩:=r2;exact iadd_int ⟨.int _,H,I.tok _,⟨_,rfl⟩,q⟩
def Jn4:PIp X .Sub (ipI fun i j=>i-j):=by intro pins s σ H x y v u Q I r1 r2 h;obtain⟨i,j,e1,e2,q⟩:=h;subst e1;subst e2;obtain⟨t,rfl⟩:=r1;obtain⟨t',rfl⟩:=r2;exact isub_int ⟨.int _,H,I.tok _,⟨_,rfl⟩,q⟩
noncomputable def Jkt(c:TT)(tb:TS):TS:=fun D σ H=>∃W:Nat->St->Hp->Prop,(∃m,W m σ H)/\∀m σ H,W m σ H ->
 c σ H fun b H1=>if b=true then ∃N:St->Hp->Prop,(∀σ' H',N σ' H'->∃m',m'<m/\W m' σ' H')/\tb { D with nx:=N,ct:=N,bk:=D.nx } σ H1 else D.nx σ H1
def JdF(hp:PassesOwn (model X.prog X.w) X.A X.env X.xe)(hc:PT X c tc)(hb:PSs X body tb):PS X (.While c body [] pos) (Jkt tc tb):=by
 intro pins s σ H D I h;obtain⟨W,⟨m0,w0⟩,turn⟩:=h;refine wpAny_While (codeAny_whileLoop (fun n s'=>∃σ' H',Inv X pins σ' H' s'/\W n σ' H') ?_ m0 ⟨σ,H,I,w0⟩);rintro n s1 ⟨σ1,H1,I1,w1⟩;refine KR hp (thn (hc pins s1 σ1 H1 _ I1 (turn n σ1 H1 w1)) fun b s2 ⟨H2,I2,q2⟩=>?_)
 cases b with
 | true =>
  obtain⟨N,hN,q2⟩:=q2;rw[if_pos rfl];refine KR hp (thn (hb pins s2 σ1 H2 _ I2 q2) fun f s3 q3=>?_)
  cases f with
  | next=>obtain⟨σ3,H3,I3,n3⟩:=q3;obtain⟨m',hm,w3⟩:=hN σ3 H3 n3;exact⟨m',hm,σ3,H3,I3,w3⟩
  | cont=>obtain⟨σ3,H3,I3,n3⟩:=q3;obtain⟨m',hm,w3⟩:=hN σ3 H3 n3;exact⟨m',hm,σ3,H3,I3,w3⟩
  | brk=>exact q3
  | ret v=>exact q3
 | false=>rw[if_neg Qx];exact MA ⟨σ1,H2,I2,q2⟩
structure It where
 go:Nat->Hp->Prop
 yld:Nat->Hp->V->Hp->Prop
 stop:Nat->Hp->Prop
noncomputable def FpOk(X:Cx)(pins:List (Qj×Obj))(H:Hp)(b:Qj):Prop :=
 H b=none/\b≠X.env.locals/\b∉X.fs/\(b∈X.ex\/X.s₀.heap.objs.size<=b)/\(∀x c,X.env.cells.lookup x=some c->c≠b)/\∀p∈X.pn++pins,p.1≠b
def Inv.fpOk{X:Cx}{pins:List (Qj×Obj)}{σ:St}{H H':Hp}{s:Qi}{b:Qj}(I:Inv X pins σ H s)(hb:s.heap.objs.size<=b)(hn:H' b=none):FpOk X pins H' b:=by
 refine⟨hn,Gh (Gn I.lt hb),I.nofs hb,.inr (Gy I.sz hb),fun x c e z=>?_,fun p hp z=>?_⟩
 ·obtain⟨v,q⟩:=I.cell x c e;exact absurd (Gn q.lt (by rw[z];exact hb)) (Gr _)
 ·exact absurd (Gn (Qo (I.pin p hp).1) (by rw[z];exact hb)) (Gr _)
structure Turn (P:Qz) (w:QT) (K:QE) (tg:GA) (J:It) (fp:List Qj) (it:Qj) (tn:Nat->Q1->Prop):Prop where
 mem:it∈fp
 obj:∀i h,tn i h->∀b∈fp,∃o,h.get? b=some o/\∀v,o.data≠.cell v
 keep:∀i h h',tn i h->(∀b∈fp,∀o,h.get? b=some o->h'.get? b=some o)->tn i h'
 item:∀(X:Cx),X.prog=P->X.w=w->X.K=K->X.calm=true->∀(i:Nat) (pins:List (Qj×Obj)) (s:Qi) (σ:St) (H:Hp) (E:Qe->Qi->Prop),Inv X pins σ H s->(∀b∈fp,FpOk X pins H b)->tn i s.heap->J.go i H ->
  wpAny (model P w) X.A (pyNext (.ref it)) (fun r s1=>∃u,r=some u ∧
   wpAny (model P w) X.A (letOwnedTupleGo tg (.ref it) u) (fun _ s2=>∃x H',Inv X pins σ H' s2/\RelV x u/\J.yld i H x H'/\tn (i+1) s2.heap/\∀b∈fp,H' b=none) E s1) E s
 done:∀(X:Cx),X.prog=P->X.w=w->X.K=K->X.calm=true->∀(i:Nat) (pins:List (Qj×Obj)) (s:Qi) (σ:St) (H:Hp) (E:Qe->Qi->Prop),Inv X pins σ H s->(∀b∈fp,FpOk X pins H b)->tn i s.heap->J.stop i H ->
  wpAny (model P w) X.A (pyNext (.ref it)) (fun r s1=>r=none/\Inv X pins σ H s1) E s
 self:∀(A:QS) (i:Nat) (s:Qi) (Q:Qe->Qi->Prop) (E:Qe->Qi->Prop),tn i s.heap->Q (.ref it) s->wpAny (model P w) A (pyIter (.ref it)) Q E s
noncomputable abbrev TI:=St->Hp->(It->Hp->Prop)->Prop
noncomputable def PIE(X:Cx)(pins:List (Qj×Obj))(σ:St)(tg:GA)(R:It->Hp->Prop)(itv:Qe)(s2:Qi):Prop :=
 ∃(it:Qj) (fp:List Qj) (tn:Nat->Q1->Prop) (J:It) (H':Hp),itv=.ref it/\Inv X pins σ H' s2/\Turn X.prog X.w X.K tg J fp it tn/\tn 0 s2.heap/\(∀b∈fp,FpOk X pins H' b)/\R J H'
noncomputable def PI(X:Cx)(tg iter:GA)(wi:TI):Prop :=
 ∀(pins:List (Qj×Obj)) (s:Qi) (σ:St) (H:Hp) (R:It->Hp->Prop),Inv X pins σ H s->wi σ H R ->
  wpAny (model X.prog X.w) X.A (eval iter X.env) (fun v s1=>wpAny (model X.prog X.w) X.A (pyIter v) (PIE X pins σ tg R) X.xe s1) X.xe s
def Jc6{M:Model}{A:QS}{E:Qe->Qi->Prop}{s:Qi}{tg:GA}{it:Qj}{u:Qe}{o:Obj}{n:String}{vs:Array Qe}{Q:Unit->Qi->Prop}(ho:s.heap.get? it=some o)(hc:o.cls=.type n)(hd:o.data=.fields vs)
 (hn:["enumerate","zip","dict_itemiterator","dict_reverseitemiterator","odict_iterator","itertools.zip_longest","itertools.pairwise"].contains n=false) (hQ:Q () s):wpAny M A (letOwnedTupleGo tg (.ref it) u) Q E s:=by
 unfold letOwnedTupleGo;cases tg <;> first
  | exact Qg hQ
  | (cases u <;> first
   | exact Qg hQ
   | (refine Qa (wpAny_load ho ?_)
      rw[hc,hd];show wpAny M A (if (["enumerate","zip","dict_itemiterator","dict_reverseitemiterator","odict_iterator","itertools.zip_longest","itertools.pairwise"].contains n && vs[0]? == some (rawInt _))=true then _ else _) Q E s;rw[if_neg (by intro h;rw[hn,MT] at h;cases h)];exact Qg hQ))
noncomputable def Itl(K:QE)(a:Qj):It :=
 ⟨fun i H=>∃xs x,SqL K H a xs/\xs[i]?=some x,fun i H x H'=>H'=H/\∀xs,SqL K H a xs->xs[i]?=some x,fun i H=>∃xs,SqL K H a xs/\xs.length<=i⟩
noncomputable def Itt(K:QE)(a:Qj):It :=
 ⟨fun i H=>∃xs x,SqT K H a xs/\xs[i]?=some x,fun i H x H'=>H'=H/\∀xs,SqT K H a xs->xs[i]?=some x,fun i H=>∃xs,SqT K H a xs/\xs.length<=i⟩
noncomputable def Itr(lo:Int)(n:Nat):It:=⟨fun i _=>i<n,fun i H x H'=>H'=H/\x=.int (lo+i),fun i _=>n<=i⟩
def Jh0{P:Qz}{w:QT}{K:QE}{tg:GA}(a it:Qj):Turn P w K tg (Itl K a) [it] it (fun i h=>h.IsListIter it a i) where
 mem:=by simp
 obj:=fun i h st b hb=>by
  have e:b=it:=by simpa using hb
  subst e;obtain⟨o,e,c,d⟩:=st;exact⟨o,e,fun v z=>by rw[d] at z;cases z⟩
 keep:=fun i h h' st k=>st.at fun o e=>k it (by simp) o e
 item:=by
  intro X hP hw hK hc i pins s σ H E I hf st hg;subst hP hw hK;obtain⟨xs,x,hq,hx⟩:=hg;obtain⟨its,rv,p,hz⟩:=I.list hq;obtain⟨u,hu,ru⟩:=rv.get hx;obtain⟨f0,f1,f2,f3,f4,f5⟩:=hf it (by simp);refine wpAny_pyNext_list_item st p.isList (x:=u) (by simpa using hu) fun h' st' sb=>?_
  have I1:Inv X pins σ H { s with heap:=h' }:=I.turned (t':=s.toks) (fun b o hb e=>(sb.2 b hb).trans e) f0 f1 f3 f4 f5;obtain⟨o,e,c,d⟩:=id st';exact⟨u,rfl,Jc6 (s:={ s with heap:=h' }) e c d (by decide) ⟨x,H,I1,ru,⟨rfl,fun ys hy=>by rw[I.list_inj hy hq];exact hx⟩,st',fun b hb=>(hf b hb).1⟩⟩
 done:=by intro X hP hw hK hc i pins s σ H E I hf st hg;subst hP hw hK;obtain⟨xs,hq,hx⟩:=hg;obtain⟨its,rv,p,hz⟩:=I.list hq;obtain⟨f0,f1,f2,f3,f4,f5⟩:=hf it (by simp);have hl:=rv.length;exact wpAny_pyNext_list_end (I.ok.hd hc) st p.isList (by simp;omega) fun h' eb=>⟨rfl,I.turned (t':=s.toks) (fun b o hb e=>eb b o hb e) f0 f1 f3 f4 f5⟩
 self:=fun _ _ _ _ _ st h=>wpAny_pyIter_listiter st h
def Jfn{P:Qz}{w:QT}{K:QE}{tg:GA}(a it:Qj):Turn P w K tg (Itt K a) [it] it (fun i h=>h.IsTupleIter it a i) where
 mem:=by simp
 obj:=fun i h st b hb=>by
  have e:b=it:=by simpa using hb
  subst e;obtain⟨o,e,c,d⟩:=st;exact⟨o,e,fun v z=>by rw[d] at z;cases z⟩
 keep:=fun i h h' st k=>st.at fun o e=>k it (by simp) o e
 item:=by
  intro X hP hw hK hc i pins s σ H E I hf st hg;subst hP hw hK;obtain⟨xs,x,hq,hx⟩:=hg;obtain⟨its,rv,p,hz⟩:=I.tuple hq;obtain⟨u,hu,ru⟩:=rv.get hx;obtain⟨f0,f1,f2,f3,f4,f5⟩:=hf it (by simp);refine wpAny_pyNext_tuple_item st (show s.heap.IsTuple a its.toArray from p) (x:=u) (by simpa using hu) fun h' st' sb=>?_
  have I1:Inv X pins σ H { s with heap:=h' }:=I.turned (t':=s.toks) (fun b o hb e=>(sb.2 b hb).trans e) f0 f1 f3 f4 f5;obtain⟨o,e,c,d⟩:=id st';exact⟨u,rfl,Jc6 (s:={ s with heap:=h' }) e c d (by decide) ⟨x,H,I1,ru,⟨rfl,fun ys hy=>by rw[I.tuple_inj hy hq];exact hx⟩,st',fun b hb=>(hf b hb).1⟩⟩
 done:=by intro X hP hw hK hc i pins s σ H E I hf st hg;subst hP hw hK;obtain⟨xs,hq,hx⟩:=hg;obtain⟨its,rv,p,hz⟩:=I.tuple hq;obtain⟨f0,f1,f2,f3,f4,f5⟩:=hf it (by simp);have hl:=rv.length;exact wpAny_pyNext_tuple_end (I.ok.hd hc) st (show s.heap.IsTuple a its.toArray from p) (by simp;omega) fun h' eb=>⟨rfl,I.turned (t':=s.toks) (fun b o hb e=>eb b o hb e) f0 f1 f3 f4 f5⟩
 self:=fun _ _ _ _ _ st h=>wpAny_pyIter_tupleiter st h
def Jfm{P:Qz}{w:QT}{K:QE}{tg:GA}(it:Qj)(lo:Int)(n:Nat):Turn P w K tg (Itr lo n) [it] it (fun i h=>IsRangeIter h it (lo+(i:Nat)*1) ((n:Int)-(i:Nat)) 1) where
 mem:=by simp
 obj:=fun i h st b hb=>by
  have e:b=it:=by simpa using hb
  subst e;exact⟨_,st,fun v z=>by have z':Data.fields _=Data.cell v:=z;cases z'⟩
 keep:=fun i h h' st k=>k it (by simp) _ st
 item:=by
  intro X hP hw hK hc i pins s σ H E I hf st hg;subst hP hw hK;obtain⟨f0,f1,f2,f3,f4,f5⟩:=hf it (by simp);have W:=Walks.range (prog:=X.prog) (w:=X.w) (I.ok.hd hc) it lo 1 n;refine W.item i s _ _ hg st fun v h' tk hv st' kk=>?_
  obtain⟨t,rfl⟩:=hv;have I1:Inv X pins σ H { s with heap:=h',toks:=tk }:=I.turned (fun b o hb e=>kk b o (by simpa using hb) e) f0 f1 f3 f4 f5;refine⟨_,rfl,Jc6 (s:={ s with heap:=h',toks:=tk }) (n:="range_iterator") st' rfl rfl (by decide) ⟨.int (lo+i),H,I1,⟨t,?_⟩,⟨rfl,rfl⟩,st',fun b hb=>(hf b hb).1⟩⟩;rw[Int.mul_one]
 done:=by intro X hP hw hK hc i pins s σ H E I hf st hg;subst hP hw hK;obtain⟨f0,f1,f2,f3,f4,f5⟩:=hf it (by simp);exact wpAny_pyNext_range_end (I.ok.hd hc) st (by have:n<=i:=hg;omega) fun h' eb=>⟨rfl,I.turned (t':=s.toks) (fun b o hb e=>eb b o hb e) f0 f1 f3 f4 f5⟩
 self:=fun _ _ _ _ _ st h=>wpAny_pyIter_rangeiter st h
noncomputable def Jnb(K:QE)(tl:TE):TI:=fun σ H R=>tl σ H fun x H1=>∃a,x=.ref a/\(∃xs,SqL K H1 a xs)/\R (Itl K a) H1
noncomputable def Jqv(K:QE)(tl:TE):TI:=fun σ H R=>tl σ H fun x H1=>∃a,x=.ref a/\(∃xs,SqT K H1 a xs)/\R (Itt K a) H1
def Jl0(hl:PE X l tl):PI X tg l (Jnb X.K tl):=by
 intro pins s σ H R I h;refine thn (hl pins s σ H _ I h) fun v s1 ⟨x,H1,I1,r1,q1⟩=>?_
 obtain⟨a,e,⟨xs,hq⟩,q⟩:=q1;subst e;cases r1;obtain⟨its,rv,p,hz⟩:=I1.list hq;refine Mb p.isList ?_;refine⟨s1.heap.objs.size,[s1.heap.objs.size],_,_,H1,rfl,I1.kept (t':=s1.toks) fun b o e=>Qh _ e,Jh0 a _,⟨_,Qn _ rfl,rfl,rfl⟩,fun b hb=>?_,q⟩;have e:b=s1.heap.objs.size:=by simpa using hb
 subst e;exact I1.fpOk (Qp _) (I1.hok.fresh (Qp _))
def Jo1(hl:PE X l tl):PI X tg l (Jqv X.K tl):=by
 intro pins s σ H R I h;refine thn (hl pins s σ H _ I h) fun v s1 ⟨x,H1,I1,r1,q1⟩=>?_
 obtain⟨a,e,⟨xs,hq⟩,q⟩:=q1;subst e;cases r1;obtain⟨its,rv,p,hz⟩:=I1.tuple hq;refine MU (show s1.heap.IsTuple a its.toArray from p) ?_;refine⟨s1.heap.objs.size,[s1.heap.objs.size],_,_,H1,rfl,I1.kept (t':=s1.toks) fun b o e=>Qh _ e,Jfn a _,⟨_,Qn _ rfl,rfl,rfl⟩,fun b hb=>?_,q⟩;have e:b=s1.heap.objs.size:=by simpa using hb
 subst e;exact I1.fpOk (Qp _) (I1.hok.fresh (Qp _))
def JjT{pins:List (Qj×Obj)}{σ:St}{H:Hp}{s:Qi}{R:It->Hp->Prop}{E:Qe->Qi->Prop}{lo hi:Int}{t u v:Tok}{tk:Nat}(I:Inv X pins σ H s)(h1:-(2 ^ 62)<=lo)(h2:lo<2 ^ 62)(h3:-(2 ^ 62)<=hi)(h4:hi<2 ^ 62)
 (q:R (Itr lo (hi-lo).toNat) H):wpAny (model X.prog X.w) X.A (pyIter (.ref s.heap.objs.size)) (PIE X pins σ tg R) E { s with heap:=s.heap.push { cls:=.type "range",data:=.fields #[.int lo t,.int hi u,.int 1 v] },toks:=tk }:=by
 refine wpAny_pyIter_range (IsRange.new ..) (small_one h1 h2 h3 h4) ?_;have I1:Inv X pins σ H { s with heap:=s.heap.push { cls:=.type "range",data:=.fields #[.int lo t,.int hi u,.int 1 v] },toks:=tk }:=I.kept fun b o e=>Qh _ e
 refine⟨(s.heap.push { cls:=.type "range",data:=.fields #[.int lo t,.int hi u,.int 1 v] }).objs.size,[(s.heap.push { cls:=.type "range",data:=.fields #[.int lo t,.int hi u,.int 1 v] }).objs.size],_,_,H,rfl,
  I1.kept (t':=tk) fun b o e=>Qh _ e,Jfm _ lo (hi-lo).toNat,?_,fun b hb=>?_,q⟩
 ·have e1:lo+((0:Nat):Int)*1=lo:=by simp
  have e2:(((hi-lo).toNat:Nat):Int)-((0:Nat):Int)=Builtin.Range.rangeSize lo hi 1:=by rw[rangeSize_one];split <;> omega
  show IsRangeIter _ _ (lo+((0:Nat):Int)*1) ((((hi-lo).toNat:Nat):Int)-((0:Nat):Int)) 1;rw[e1,e2];exact Qn _ rfl
 ·have e:b=(s.heap.push { cls:=.type "range",data:=.fields #[.int lo t,.int hi u,.int 1 v] }).objs.size:=by simpa using hb
  subst e;exact I1.fpOk (Qp _) (I1.hok.fresh (Qp _))
noncomputable def Jnc(ta:TA):TI:=fun σ H R=>ta σ H fun vs H1=>∃j:Int,vs=[.int j]/\-(2 ^ 62)<=j/\j<2 ^ 62/\R (Itr 0 j.toNat) H1
def WH{a:GA}{ta:TA}{p pos:Pos}(hg:Gl X "range")(hm:X.mg "range"=none)(ha:PA X [a] ta)(hs:starEach [a] X.env=[(false,eval a X.env)]:=by rfl):PI X tg (.Call (.Name "range" p) [a] [] pos) (Jnc ta):=by
 intro pins s σ H R I h;refine Call_ (Uv I hg hm boot_range (GY (thn (ha pos pins s σ H _ I h) fun us s1 ⟨vs,H1,I1,r1,q1⟩=>?_) hs rfl));obtain⟨j,e,q1,q2,q⟩:=q1;subst e
 cases r1 with
 | cons r rr=>cases rr;obtain⟨t,rfl⟩:=r;exact call_range_1 (JjT I1 (by omega) (by omega) q1 q2 (by simpa using q))
noncomputable def JmI(wi:TI)(g:TG)(tb:TS):TS:=fun D σ H=>wi σ H fun J H1=>∃W:Nat->Nat->St->Hp->Prop,(∃m,W 0 m σ H1)/\∀i m σ H,W i m σ H ->
 (J.stop i H/\D.nx σ H)\/(J.go i H/\∃N:St->Hp->Prop,(∀σ' H',N σ' H'->∃m',m'<m/\W (i+1) m' σ' H')/\∀x H',J.yld i H x H'->g x σ H' fun σ2 H2=>tb { D with nx:=N,ct:=N,bk:=D.nx } σ2 H2)
noncomputable def Jak(fp:List Qj)(h:Q1):List (Qj×Obj):=fp.filterMap fun b=>(h.get? b).map fun o=>(b,o)
def VU(hb:b∈fp)(e:h.get? b=some o):(b,o)∈Jak fp h:=List.mem_filterMap.mpr ⟨b,hb,by rw[e];rfl⟩
def JhE(hp:p∈Jak fp h):p.1∈fp/\h.get? p.1=some p.2:=by
 obtain⟨b,hb,e⟩:=List.mem_filterMap.mp hp
 cases q:h.get? b with
 | none=>rw[q] at e;cases e
 | some o=>rw[q] at e;have e':(b,o)=p:=QQ e;subst e';exact⟨hb,q⟩
def Inv.pinned{pins:List (Qj×Obj)}{σ:St}{H:Hp}{s:Qi}{fp:List Qj}(I:Inv X pins σ H s)(hf:∀b∈fp,FpOk X pins H b)(ho:∀b∈fp,∃o,s.heap.get? b=some o/\∀v,o.data≠.cell v):Inv X (pins++Jak fp s.heap) σ H s :=
 I.pins_of fun p hp=>(Gd.mp hp).elim (fun z=>I.pin p (G1 _ z)) fun z=>by obtain⟨hb,e⟩:=JhE z;obtain⟨f0,f1,f2,_⟩:=hf p.1 hb;obtain⟨o,e',d⟩:=ho p.1 hb;rw[e] at e';cases e';exact⟨e,f0,f1,f2,d⟩
def Inv.unpinned{pins pl:List (Qj×Obj)}{σ:St}{H:Hp}{s:Qi}(I:Inv X (pins++pl) σ H s):Inv X pins σ H s:=I.pins_of fun p hp=>I.pin p (G1 _ (Ko _ hp))
def Yo{iter:GA}{body:List Kv}{wi:TI}{g:TG}{tb:TS}{pos:Pos}(hp:PassesOwn (model X.prog X.w) X.A X.env X.xe)(hc:X.calm=true)(hi:PI X tg iter wi)(hg:PG X tg g)(hb:PSs X body tb)
 (hs:∀x,foldedSetIterable iter X.env x=pure x:=by intro _;rfl):PS X (.For tg iter body [] pos) (JmI wi g tb):=by
 intro pins s σ H D I h;refine wpAny_For (thn (hi pins s σ H _ I h) fun v s1 h1=>thn h1 fun itv s2 h2=>?_) hs;obtain⟨it,fp,tn,J,H2,e,I2,T,st2,f2,W,⟨m0,w0⟩,turn⟩:=h2;subst e
 -- what stays true of the iterator's objects through the loop
 have stat:∀{H':Hp},(∀b∈fp,H' b=none)->∀b∈fp,FpOk X pins H' b:=fun hn b hb=>⟨hn b hb,(f2 b hb).2⟩
 refine codeAny_forLoop_any (fun n s'=>∃i σ' H',Inv X pins σ' H' s'/\tn i s'.heap/\(∀b∈fp,H' b=none)/\W i n σ' H') ?_ m0 ⟨0,σ,H2,I2,st2,fun b hb=>(f2 b hb).1,w0⟩;rintro n s3 ⟨i,σ3,H3,I3,st3,fr3,w3⟩;rcases turn i n σ3 H3 w3 with ⟨stop,qn⟩|⟨go,N,hN,step⟩
 ·refine KR hp (thn (T.done X rfl rfl rfl hc i pins s3 σ3 H3 X.xe I3 (stat fr3) st3 stop) fun r s4 ⟨hr,I4⟩=>?_);subst hr;exact MA ⟨σ3,H3,I4,qn⟩
 ·refine KR hp (thn (T.item X rfl rfl rfl hc i pins s3 σ3 H3 X.xe I3 (stat fr3) st3 go) fun r s4 ⟨u,hr,h4⟩=>?_);subst hr;refine KR hp (thn h4 fun _ s5 ⟨x,H5,I5,r5,y5,st5,fr5⟩=>?_);have I5':=I5.pinned (stat fr5) (T.obj _ _ st5);refine KR hp (thn (hg _ s5 σ3 H5 x u _ I5' r5 (step x H5 y5)) fun _ s6 ⟨σ6,H6,I6,q6⟩=>?_);refine KR hp (thn (hb _ s6 σ6 H6 _ I6 q6) fun f s7 q7=>?_)
  have again:∀{σ7:St} {H7:Hp},Inv X (pins++Jak fp s5.heap) σ7 H7 s7->N σ7 H7->∃m,m<n/\∃i σ' H',Inv X pins σ' H' s7/\tn i s7.heap/\(∀b∈fp,H' b=none)/\W i m σ' H':=fun {σ7 H7} I7 n7=>by obtain⟨m',hm,w7⟩:=hN σ7 H7 n7;refine⟨m',hm,i+1,σ7,H7,I7.unpinned,T.keep _ _ _ st5 fun b hb o e=>(I7.pin (b,o) (G1 _ (G1 _ (VU hb e)))).1,fun b hb=>?_,w7⟩;obtain⟨o,e,d⟩:=T.obj _ _ st5 b hb;exact(I7.pin (b,o) (G1 _ (G1 _ (VU hb e)))).2.1
  cases f with
  | next=>obtain⟨σ7,H7,I7,n7⟩:=q7;exact again I7 n7
  | cont=>obtain⟨σ7,H7,I7,n7⟩:=q7;exact again I7 n7
  | brk=>obtain⟨σ7,H7,I7,q7⟩:=q7;exact⟨σ7,H7,I7.unpinned,q7⟩
  | ret v=>obtain⟨x7,σ7,H7,I7,r7,q7⟩:=q7;exact⟨x7,σ7,H7,I7.unpinned,r7,q7⟩
def JiT{K:QE}{a:Qj}{xs:List V}{g:TG}{tb:TS}{D:Ends}{σ:St}{H:Hp}(Pv:Nat->St->Hp->Prop)(h0:Pv 0 σ H)(hl:∀i σ H,i<=xs.length->Pv i σ H->SqL K H a xs)
 (hs:∀i x σ H,xs[i]?=some x->Pv i σ H->g x σ H fun σ2 H2=>tb { D with nx:=Pv (i+1),ct:=Pv (i+1),bk:=D.nx } σ2 H2) (hd:∀σ H,Pv xs.length σ H->D.nx σ H) :
 ∃W:Nat->Nat->St->Hp->Prop,(∃m,W 0 m σ H)/\∀i m σ H,W i m σ H ->
  ((Itl K a).stop i H/\D.nx σ H)\/((Itl K a).go i H/\∃N:St->Hp->Prop,(∀σ' H',N σ' H'->∃m',m'<m/\W (i+1) m' σ' H')/\∀x H',(Itl K a).yld i H x H'->g x σ H' fun σ2 H2=>tb { D with nx:=N,ct:=N,bk:=D.nx } σ2 H2):=by
 refine⟨fun i m σ H=>m=xs.length-i/\i<=xs.length/\Pv i σ H,⟨xs.length,by simp,GP _,h0⟩,?_⟩;rintro i m σ H ⟨rfl,hi,p⟩;have q:=hl i σ H hi p
 by_cases hlt:i<xs.length
 ·refine .inr ⟨⟨xs,xs[i],q,by simp[hlt]⟩,Pv (i+1),fun σ' H' p'=>⟨xs.length-(i+1),by omega,rfl,hlt,p'⟩,fun x H' y=>?_⟩;obtain⟨e,y⟩:=y;subst e;exact hs i x σ _ (y xs q) p
 ·have e:i=xs.length:=by omega
  subst e;exact .inl ⟨⟨xs,q,Qp _⟩,hd σ H p⟩
def Jlk{K:QE}{a:Qj}{xs:List V}{g:TG}{tb:TS}{D:Ends}{σ:St}{H:Hp}(Pv:Nat->St->Hp->Prop)(h0:Pv 0 σ H)(hl:∀i σ H,i<=xs.length->Pv i σ H->SqT K H a xs)
 (hs:∀i x σ H,xs[i]?=some x->Pv i σ H->g x σ H fun σ2 H2=>tb { D with nx:=Pv (i+1),ct:=Pv (i+1),bk:=D.nx } σ2 H2) (hd:∀σ H,Pv xs.length σ H->D.nx σ H) :
 ∃W:Nat->Nat->St->Hp->Prop,(∃m,W 0 m σ H)/\∀i m σ H,W i m σ H ->
  ((Itt K a).stop i H/\D.nx σ H)\/((Itt K a).go i H/\∃N:St->Hp->Prop,(∀σ' H',N σ' H'->∃m',m'<m/\W (i+1) m' σ' H')/\∀x H',(Itt K a).yld i H x H'->g x σ H' fun σ2 H2=>tb { D with nx:=N,ct:=N,bk:=D.nx } σ2 H2):=by
 refine⟨fun i m σ H=>m=xs.length-i/\i<=xs.length/\Pv i σ H,⟨xs.length,by simp,GP _,h0⟩,?_⟩;rintro i m σ H ⟨rfl,hi,p⟩;have q:=hl i σ H hi p
 by_cases hlt:i<xs.length
 ·refine .inr ⟨⟨xs,xs[i],q,by simp[hlt]⟩,Pv (i+1),fun σ' H' p'=>⟨xs.length-(i+1),by omega,rfl,hlt,p'⟩,fun x H' y=>?_⟩;obtain⟨e,y⟩:=y;subst e;exact hs i x σ _ (y xs q) p
 ·have e:i=xs.length:=by omega
  subst e;exact .inl ⟨⟨xs,q,Qp _⟩,hd σ H p⟩
noncomputable abbrev R2:=V->V->Hp->VK->Prop
noncomputable def OpR(X:Cx)(f:Qe->Qe->Sem Qe)(r:R2):Prop :=
 ∀(pins:List (Qj×Obj)) (s:Qi) (σ:St) (H:Hp) (x y:V) (v u:Qe) (Q:VK),Inv X pins σ H s->RelV x v->RelV y u->r x y H Q ->
  wpAny (model X.prog X.w) X.A (f v u) (EP X pins σ Q) X.xe s
noncomputable def UnR(X:Cx)(f:Qe->Sem Qe)(r:V->Hp->VK->Prop):Prop :=
 ∀(pins:List (Qj×Obj)) (s:Qi) (σ:St) (H:Hp) (x:V) (v:Qe) (Q:VK),Inv X pins σ H s->RelV x v->r x H Q ->
  wpAny (model X.prog X.w) X.A (f v) (EP X pins σ Q) X.xe s
noncomputable def J0(X:Cx)(f:Qe)(r:List V->Hp->VK->Prop):Prop :=
 ∀(pins:List (Qj×Obj)) (s:Qi) (σ:St) (H:Hp) (xs:List V) (us:List Qe) (Q:VK),Inv X pins σ H s->Vals xs us->r xs H Q ->
  wpAny (model X.prog X.w) X.A (call f us) (EP X pins σ Q) X.xe s
noncomputable def JrM(X:Cx)(r:V->Hp->(Bool->Hp->Prop)->Prop):Prop :=
 ∀(pins:List (Qj×Obj)) (s:Qi) (σ:St) (H:Hp) (x:V) (v:Qe) (Q:Bool->Hp->Prop),Inv X pins σ H s->RelV x v->r x H Q ->
  wpAny (model X.prog X.w) X.A (truthy v) (TP X pins σ Q) X.xe s
noncomputable def tOp(r:R2)(ta tb:TE):TE:=fun σ H Q=>ta σ H fun x H1=>tb σ H1 fun y H2=>r x y H2 Q
noncomputable def tUn(r:V->Hp->VK->Prop)(ta:TE):TE:=fun σ H Q=>ta σ H fun x H1=>r x H1 Q
noncomputable def rI(C:Int->Int->Prop)(g:Int->Int->V):R2:=fun x y H Q=>∃i j,x=.int i/\y=.int j/\C i j/\Q (g i j) H
noncomputable def rI0(g:Int->Int->V):R2:=fun x y H Q=>∃i j,x=.int i/\y=.int j/\Q (g i j) H
noncomputable def rU(g:Int->V):V->Hp->VK->Prop:=fun x H Q=>∃i,x=.int i/\Q (g i) H
def JnK(ha:PE X a ta)(hb:PE X b tb){pins:List (Qj×Obj)}{s:Qi}{σ:St}{H:Hp}{R:V->V->Hp->Prop}(I:Inv X pins σ H s)
 (h:ta σ H fun x H1=>tb σ H1 fun y H2=>R x y H2) {Q:Qe->Qi->Prop} {f:Qe->Qe->Sem Qe}
 (hf:∀v u s2 x y H2,Inv X pins σ H2 s2->RelV x v->RelV y u->R x y H2->wpAny (model X.prog X.w) X.A (f v u) Q X.xe s2) :
 wpAny (model X.prog X.w) X.A (eval a X.env) (fun v s₁=>wpAny (model X.prog X.w) X.A (eval b X.env) (fun u s₂=>wpAny (model X.prog X.w) X.A (f v u) Q X.xe s₂) X.xe s₁) X.xe s:=by
 refine thn (ha pins s σ H _ I h) fun v s1 ⟨x,H1,I1,r1,q1⟩=>?_
 refine thn (hb pins s1 σ H1 _ I1 q1) fun u s2 ⟨y,H2,I2,r2,q2⟩=>?_
 exact hf v u s2 x y H2 I2 r1 r2 q2
def Jl(ho:OpR X (binaryOp op) r)(ha:PE X a ta)(hb:PE X b tb):PE X (.BinOp a op b pos) (tOp r ta tb):=by intro pins s σ H Q I h;exact wpAny_BinOp (JnK ha hb I h fun v u s2 x y H2 I2 rx ry q=>ho pins s2 σ H2 x y v u Q I2 rx ry q)
def JjA(ho:UnR X (unaryOp op) r)(ha:PE X a ta):PE X (.UnaryOp op a pos) (tUn r ta):=by intro pins s σ H Q I h;exact UnaryOp_ (thn (ha pins s σ H _ I h) fun v s1 ⟨x,H1,I1,r1,q1⟩=>ho pins s1 σ H1 x v Q I1 r1 q1)
def opI{f:Qe->Qe->Sem Qe}{C:Int->Int->Prop}{g:Int->Int->Int}
 (rule:∀(i j:Int) (t u:Tok) (s:Qi) (Q:Qe->Qi->Prop) (E:Qe->Qi->Prop),C i j->Q (.int (g i j) s.toks) { s with toks:=s.toks+1 }->wpAny (model X.prog X.w) X.A (f (.int i t) (.int j u)) Q E s) :
 OpR X f (rI C fun i j=>.int (g i j)):=by
 intro pins s σ H x y v u Q I rx ry h;obtain⟨i,j,rfl,rfl,hc,q⟩:=h;obtain⟨t,rfl⟩:=rx;obtain⟨t',rfl⟩:=ry;exact rule i j t t' s _ _ hc ⟨.int (g i j),H,I.tok _,⟨_,rfl⟩,q⟩
def JqX{f:Qe->Qe->Sem Qe}{g:Int->Int->Int}
 (rule:∀(i j:Int) (t u:Tok) (s:Qi) (Q:Qe->Qi->Prop) (E:Qe->Qi->Prop),Q (.int (g i j) s.toks) { s with toks:=s.toks+1 }->wpAny (model X.prog X.w) X.A (f (.int i t) (.int j u)) Q E s) :
 OpR X f (rI0 fun i j=>.int (g i j)):=by
 intro pins s σ H x y v u Q I rx ry h;obtain⟨i,j,rfl,rfl,q⟩:=h;obtain⟨t,rfl⟩:=rx;obtain⟨t',rfl⟩:=ry;exact rule i j t t' s _ _ ⟨.int (g i j),H,I.tok _,⟨_,rfl⟩,q⟩
def JoK{f:Qe->Qe->Sem Qe}{g:Int->Int->Bool}
 (rule:∀(i j:Int) (t u:Tok) (s:Qi) (Q:Qe->Qi->Prop) (E:Qe->Qi->Prop),Q (.bool (g i j)) s->wpAny (model X.prog X.w) X.A (f (.int i t) (.int j u)) Q E s) :
 OpR X f (rI0 fun i j=>.bl (g i j)):=by
 intro pins s σ H x y v u Q I rx ry h;obtain⟨i,j,rfl,rfl,q⟩:=h;obtain⟨t,rfl⟩:=rx;obtain⟨t',rfl⟩:=ry;exact rule i j t t' s _ _ ⟨.bl (g i j),H,I,rfl,q⟩
noncomputable def Jp4(i j:Int):Prop:=0<j/\j<1073741824
noncomputable def Jp5(i j:Int):Prop:=0<=j/\j<=1000000/\i.natAbs<2 ^ 64
noncomputable def CMul(i j:Int):Prop:=(-(2 ^ 64)<i/\i<2 ^ 64)\/(-(2 ^ 64)<j/\j<2 ^ 64)
def CMul.ok(h:CMul i j):IntMulOk i j:=by
 rcases h with ⟨h1,h2⟩|⟨h1,h2⟩
 ·exact .of_left (intBits_le_64 h1 h2)
 ·exact .of_right (intBits_le_64 h1 h2)
def op_add:OpR X (binaryOp .Add) (rI0 fun i j=>.int (i+j)):=JqX fun _ _ _ _ _ _ _ q=>add_int q
def Yb:OpR X (binaryOp .Sub) (rI0 fun i j=>.int (i-j)):=JqX fun _ _ _ _ _ _ _ q=>sub_int q
def Uw:OpR X (binaryOp .Mult) (rI CMul fun i j=>.int (i*j)):=opI fun _ _ _ _ _ _ _ hc q=>mul_int q hc.ok
def Vz:OpR X (binaryOp .FloorDiv) (rI Jp4 fun i j=>.int (i / j)):=opI fun i j _ _ _ _ _ hc q=>by
 have h1:(0:Int)<j:=hc.1
 have h2:j<1073741824:=hc.2;exact floordiv_int (by omega) (by rw[MV i (by omega)];exact q) (.inl (PyProof.noPylong_small (by omega)))
def Y3:OpR X (binaryOp .Mod) (rI (fun _ j=>0<j) fun i j=>.int (i % j)):=opI fun i j _ _ _ _ _ hc q=>by have h1:(0:Int)<j:=hc;exact mod_int' (by omega) (by rw[Int.fmod_eq_emod_of_nonneg i (by omega)];exact q)
def JoS:OpR X (binaryOp .Pow) (rI Jp5 fun i j=>.int (i ^ j.toNat)):=opI fun _ _ _ _ _ _ _ hc q=>pow_int_small hc.1 hc.2.1 hc.2.2 q
def unI{f:Qe->Sem Qe}{g:Int->Int}
 (rule:∀(i:Int) (t:Tok) (s:Qi) (Q:Qe->Qi->Prop) (E:Qe->Qi->Prop),Q (.int (g i) s.toks) { s with toks:=s.toks+1 }->wpAny (model X.prog X.w) X.A (f (.int i t)) Q E s) :
 UnR X f (rU fun i=>.int (g i)):=by
 intro pins s σ H x v Q I rx h;obtain⟨i,rfl,q⟩:=h;obtain⟨t,rfl⟩:=rx;exact rule i t s _ _ ⟨.int (g i),H,I.tok _,⟨_,rfl⟩,q⟩
def Jfo:UnR X (unaryOp .USub) (rU fun i=>.int (-i)):=unI fun _ _ _ _ _ q=>neg_int q
noncomputable def JpG:V->V->Bool
 | .non,.non=>true|.non,.int _=>true|.int _,.non=>true|.non,.bl _=>true|.bl _,.non=>true|.non,.str _=>true|.str _,.non=>true
 | .int _,.int _=>true|.bl _,.bl _=>true|.str _,.str _=>true|.byt _,.byt _=>true
 | .int _,.str _=>true|.str _,.int _=>true|.bl _,.str _=>true|.str _,.bl _=>true
 | _,_=>false
noncomputable def rEq:R2:=fun x y H Q=>JpG x y=true/\Q (.bl (decide (x=y))) H
noncomputable def rNe:R2:=fun x y H Q=>JpG x y=true/\Q (.bl (!decide (x=y))) H
def JfJ:decide (V.int i=V.int j)=(i == j):=by rw[KF];simp
def Jix:decide (V.bl i=V.bl j)=(i == j):=by rw[KF];simp
def JfK:decide (V.str i=V.str j)=(i == j):=by rw[KF];simp
def JfI:decide (V.byt i=V.byt j)=(i.toList == j.toList):=by rw[KF];cases i;cases j;simp
def JI{pins:List (Qj×Obj)}{σ:St}{H:Hp}{s:Qi}{Q:VK}{k k':Bool}(I:Inv X pins σ H s)(q:Q (.bl k) H)(e:k=k'):EP X pins σ Q (.bool k') s:=by subst e;exact⟨.bl k,H,I,rfl,q⟩
def op_eq:OpR X (compareOp .Eq) rEq:=by
 intro pins s σ H x y v u Q I rx ry h;obtain⟨hs,q⟩:=h
 cases x with
 | non =>
  cases rx
  cases y with
  | non=>cases ry;exact PySem.EqNone.eq_none_none (JI I q (by simp))
  | bl j=>cases ry;exact PySem.EqNone.eq_none_bool (JI I q (by simp))
  | int j=>obtain⟨t',rfl⟩:=ry;exact PySem.EqNone.eq_none_int (JI I q (by simp))
  | str j=>obtain⟨t',rfl⟩:=ry;exact PySem.EqNone.eq_none_str (JI I q (by simp))
  | _=>exact absurd (show false=true from hs) Qx
 | bl i =>
  cases rx
  cases y with
  | non=>cases ry;exact PySem.EqNone.eq_bool_none (JI I q (by simp))
  | bl j=>cases ry;exact eq_bool (JI I q Jix)
  | str j=>obtain⟨t',rfl⟩:=ry;exact PySem.EqMixed.eq_bool_str (JI I q (by simp))
  | _=>exact absurd (show false=true from hs) Qx
 | int i =>
  obtain⟨t,rfl⟩:=rx
  cases y with
  | non=>cases ry;exact PySem.EqNone.eq_int_none (JI I q (by simp))
  | int j=>obtain⟨t',rfl⟩:=ry;exact eq_int (JI I q JfJ)
  | str j=>obtain⟨t',rfl⟩:=ry;exact PySem.EqMixed.eq_int_str (JI I q (by simp))
  | _=>exact absurd (show false=true from hs) Qx
 | str i =>
  obtain⟨t,rfl⟩:=rx
  cases y with
  | non=>cases ry;exact PySem.EqNone.eq_str_none (JI I q (by simp))
  | bl j=>cases ry;exact PySem.EqMixed.eq_str_bool (JI I q (by simp))
  | int j=>obtain⟨t',rfl⟩:=ry;exact PySem.EqMixed.eq_str_int (JI I q (by simp))
  | str j=>obtain⟨t',rfl⟩:=ry;exact eq_str (JI I q JfK)
  | _=>exact absurd (show false=true from hs) Qx
 | byt i =>
  obtain⟨t,rfl⟩:=rx
  cases y with
  | byt j=>obtain⟨t',rfl⟩:=ry;exact PySem.W.eq_bytes (JI I q JfI)
  | _=>exact absurd (show false=true from hs) Qx
 | _=>cases y <;> exact absurd (show false=true from hs) Qx
def op_ne:OpR X (compareOp .NotEq) rNe:=by
 intro pins s σ H x y v u Q I rx ry h;obtain⟨hs,q⟩:=h
 cases x with
 | non =>
  cases rx
  cases y with
  | non=>cases ry;exact PySem.EqNone.ne_none_none (JI I q (by simp))
  | bl j=>cases ry;exact PySem.EqNone.ne_none_bool (JI I q (by simp))
  | int j=>obtain⟨t',rfl⟩:=ry;exact PySem.EqNone.ne_none_int (JI I q (by simp))
  | str j=>obtain⟨t',rfl⟩:=ry;exact PySem.EqNone.ne_none_str (JI I q (by simp))
  | _=>exact absurd (show false=true from hs) Qx
 | bl i =>
  cases rx
  cases y with
  | non=>cases ry;exact PySem.EqNone.ne_bool_none (JI I q (by simp))
  | bl j=>cases ry;exact ne_bool (JI I q (congrArg not Jix))
  | str j=>obtain⟨t',rfl⟩:=ry;exact PySem.EqMixed.ne_bool_str (JI I q (by simp))
  | _=>exact absurd (show false=true from hs) Qx
 | int i =>
  obtain⟨t,rfl⟩:=rx
  cases y with
  | non=>cases ry;exact PySem.EqNone.ne_int_none (JI I q (by simp))
  | int j=>obtain⟨t',rfl⟩:=ry;exact ne_int (JI I q (congrArg not JfJ))
  | str j=>obtain⟨t',rfl⟩:=ry;exact PySem.EqMixed.ne_int_str (JI I q (by simp))
  | _=>exact absurd (show false=true from hs) Qx
 | str i =>
  obtain⟨t,rfl⟩:=rx
  cases y with
  | non=>cases ry;exact PySem.EqNone.ne_str_none (JI I q (by simp))
  | bl j=>cases ry;exact PySem.EqMixed.ne_str_bool (JI I q (by simp))
  | int j=>obtain⟨t',rfl⟩:=ry;exact PySem.EqMixed.ne_str_int (JI I q (by simp))
  | str j=>obtain⟨t',rfl⟩:=ry;exact ne_str (JI I q (congrArg not JfK))
  | _=>exact absurd (show false=true from hs) Qx
 | byt i =>
  obtain⟨t,rfl⟩:=rx
  cases y with
  | byt j=>obtain⟨t',rfl⟩:=ry;exact PySem.W.ne_bytes (JI I q (congrArg not JfI))
  | _=>exact absurd (show false=true from hs) Qx
 | _=>cases y <;> exact absurd (show false=true from hs) Qx
def Jae:OpR X (compareOp .Lt) (rI0 fun i j=>.bl (decide (i<j))):=JoK fun _ _ _ _ _ _ _ q=>lt_int q
def Jnl:OpR X (compareOp .LtE) (rI0 fun i j=>.bl (decide (i<=j))):=JoK fun _ _ _ _ _ _ _ q=>le_int q
def VJ:OpR X (compareOp .Gt) (rI0 fun i j=>.bl (decide (j<i))):=JoK fun _ _ _ _ _ _ _ q=>gt_int q
def JoO:OpR X (compareOp .Is) (fun x y H Q=>y=.non/\Q (.bl (decide (x=.non))) H):=by
 intro pins s σ H x y v u Q I rx ry h;obtain⟨rfl,q⟩:=h;cases ry;refine is_none_gen (JI I q ?_);cases x <;> first
  | (cases rx;rfl)
  | (obtain⟨t,rfl⟩:=rx;rfl)
def JlT:OpR X (compareOp .IsNot) (fun x y H Q=>y=.non/\Q (.bl (!decide (x=.non))) H):=by
 intro pins s σ H x y v u Q I rx ry h;obtain⟨rfl,q⟩:=h;cases ry;refine isnot_none_gen (JI I q ?_);cases x <;> first
  | (cases rx;rfl)
  | (obtain⟨t,rfl⟩:=rx;rfl)
def OpR.or(h:OpR X f r)(h':OpR X f r'):OpR X f (fun x y H Q=>r x y H Q\/r' x y H Q):=by
 intro pins s σ H x y v u Q I rx ry q;rcases q with q|q
 ·exact h pins s σ H x y v u Q I rx ry q
 ·exact h' pins s σ H x y v u Q I rx ry q
def Js(b:GA){op:CmpOp}(h:op≠.In:=by decide)(h2:op≠.NotIn:=by decide):behindInMarks op b=false:=by
 have e1:(op == CmpOp.In)=false:=by cases op <;> first|rfl|exact absurd rfl h
 have e2:(op == CmpOp.NotIn)=false:=by cases op <;> first|rfl|exact absurd rfl h2
 cases b <;> simp[behindInMarks,e1,e2]
def Jco(ho:OpR X (compareOp op) r)(ha:PE X a ta)(hb:PE X b tb)(hm:behindInMarks op b=false):PE X (.Compare a [op] [b] pos) (tOp r ta tb):=by intro pins s σ H Q I h;exact wpAny_Compare1 (JnK ha hb I h fun v u s2 x y H2 I2 rx ry q=>ho pins s2 σ H2 x y v u Q I2 rx ry q) hm
noncomputable def JgK(t:TE):TT:=fun σ H Q=>t σ H fun x H'=>∃k,x=.bl k/\Q k H'
def Jp(ho:OpR X (compareOp op) r)(ha:PE X a ta)(hb:PE X b tb)(hm:behindInMarks op b=false):PT X (.Compare a [op] [b] pos) (JgK (tOp r ta tb)):=by
 intro pins s σ H Q I h;refine wpAny_isTrue_Compare1 (thn (ha pins s σ H _ I h) fun v s1 ⟨x,H1,I1,r1,q1⟩=>thn (hb pins s1 σ H1 _ I1 q1) fun u s2 ⟨y,H2,I2,r2,q2⟩=>thn (ho pins s2 σ H2 x y v u _ I2 r1 r2 q2) fun c s3 ⟨z,H3,I3,r3,k,e,q3⟩=>?_) hm
 subst e;cases r3;exact KU ⟨H3,I3,q3⟩
noncomputable def Jkk(r r':R2)(ta tb tc:TE):TE:=fun σ H Q=>ta σ H fun x H1=>tb σ H1 fun y H2=>r x y H2 fun z H3=>∃k,z=.bl k ∧
 (if k=true then tc σ H3 fun w' H4=>r' y w' H4 Q else Q (.bl false) H3)
def Jjv{op op':CmpOp}{r r':R2}(ho:OpR X (compareOp op) r)(ho':OpR X (compareOp op') r')(ha:PE X a ta)(hb:PE X b tb)(hc:PE X c tc)
 (hm:lastMarks [op,op'] [b,c]=false:=by with_unfolding_all rfl):PE X (.Compare a [op,op'] [b,c] pos) (Jkk r r' ta tb tc):=by
 intro pins s σ H Q I h;refine Compare_chain (thn (ha pins s σ H _ I h) fun v s1 ⟨x,H1,I1,r1,q1⟩=>chain_link (thn (hb pins s1 σ H1 _ I1 q1) fun u s2 ⟨y,H2,I2,r2,q2⟩=>thn (ho pins s2 σ H2 x y v u _ I2 r1 r2 q2) fun d s3 ⟨z,H3,I3,r3,k,e,q3⟩=>?_)) hm
 subst e;cases r3;refine KU ?_
 cases k with
 | false=>exact ite_ff ⟨.bl false,H3,I3,rfl,q3⟩
 | true=>exact ite_tt (chain_last (thn (hc pins s3 σ H3 _ I3 q3) fun w' s4 ⟨z',H4,I4,r4,q4⟩=>ho' pins s4 σ H4 y z' u w' Q I4 r2 r4 q4))
noncomputable def JkQ(K:QE)(x:V)(H:Hp)(k:Bool):Prop :=
 match x with
 | .non=>k=false
 | .bl b=>k=b
 | .int i=>k=(i != 0)
 | .str y=>y.length<=Qt/\k=((y.length:Int) != 0)
 | .byt y=>y.size<=Qt/\k=((y.size:Int) != 0)
 | .ref p=>(∃xs,SqL K H p xs/\k=!xs.isEmpty)\/(∃xs,SqT K H p xs/\k=!xs.isEmpty)\/∃kvs,H p=some (.dK kvs)/\k=!kvs.isEmpty
 | _=>False
def JeK{κ:Type}{kvs:List (κ×V)}{vs:List (κ×Qe)}(r:KV kvs vs):(!vs.isEmpty)=!kvs.isEmpty:=by cases r <;> rfl
def ZT(r:Vals xs its):(!its.toArray.isEmpty)=!xs.isEmpty:=by cases r <;> simp
def WD:(Qt:Nat)<2 ^ 63:=by rw[sizeLine_eq];decide
def JpV:JrM X (fun x H Q=>∃k,JkQ X.K x H k/\Q k H):=by
 intro pins s σ H x v Q I rx h;obtain⟨k,e,q⟩:=h;have hl:=WD;have hs:Qt=16777216:=sizeLine_eq
 cases x with
 | non=>cases rx;have e':k=false:=e;subst e';exact truthy_none ⟨H,I,q⟩
 | bl b=>cases rx;have e':k=b:=e;subst e';exact KU ⟨H,I,q⟩
 | int i=>obtain⟨t,rfl⟩:=rx;have e':k=(i != 0):=e;subst e';exact PySem.P.truthy_int ⟨H,I,q⟩
 | str y=>obtain⟨t,rfl⟩:=rx;obtain⟨hy,e'⟩:y.length<=Qt/\k=((y.length:Int) != 0):=e;subst e';exact PySem.P.truthy_str (by omega) ⟨H,I.tok _,q⟩
 | byt y=>obtain⟨t,rfl⟩:=rx;obtain⟨hy,e'⟩:y.size<=Qt/\k=((y.size:Int) != 0):=e;subst e';exact PySem.W.truthy_bytes (by omega) ⟨H,I.tok _,q⟩
 | ref p =>
  cases rx;have e':(∃xs,SqL X.K H p xs/\k=!xs.isEmpty)\/(∃xs,SqT X.K H p xs/\k=!xs.isEmpty)\/∃kvs,H p=some (.dK kvs)/\k=!kvs.isEmpty:=e
  rcases e' with ⟨xs,hx,e'⟩|⟨xs,hx,e'⟩|⟨kvs,hx,e'⟩
  ·subst e';obtain⟨its,r,pl,hz⟩:=I.list hx;have hlen:=r.length;exact wpAny_truthy_list pl.isList (by simp only[Qu];omega) ⟨H,I.tok _,by rw[ZT r];exact q⟩
  ·subst e';obtain⟨its,r,pl,hz⟩:=I.tuple hx;have hlen:=r.length;exact truthy_tuple pl (by simp only[Qu];omega) ⟨H,I.tok _,by rw[ZT r];exact q⟩
  ·subst e';obtain⟨hz,hS,vs,r,m⟩:kvs.length<=Qt/\(p == sysModules)=false/\∃vs,KV kvs vs/\s.heap.DictOf (JH X.prog X.w) p vs:=I.hok p _ hx
   have hlen:kvs.length=vs.length:=Rg r;exact wpAny_truthy_dict hS m (by omega) ⟨H,I.tok _,by rw[JeK r];exact q⟩
 | _=>exact(show False from e).elim
def JjI(ha:PE X a ta)(he:∀whole,isTrue a X.env whole=(do let v <- whole;standAt a.pos;holding [v] (truthy v))) :
 PT X a (fun σ H Q=>ta σ H fun x H'=>∃k,JkQ X.K x H' k/\Q k H'):=by
 intro pins s σ H Q I h;exact isTrue_plain (thn (ha pins s σ H _ I h) fun v s1 ⟨x,H1,I1,r1,q1⟩=>JpV pins s1 σ H1 x v Q I1 r1 q1) (he _)
def op_add_str:OpR X (binaryOp .Add) (fun x y H Q=>∃i j,x=.str i/\y=.str j/\i.length+j.length<=Qt/\Q (.str (i++j)) H):=by intro pins s σ H x y v u Q I rx ry h;obtain⟨i,j,rfl,rfl,hz,q⟩:=h;obtain⟨t,rfl⟩:=rx;obtain⟨t',rfl⟩:=ry;exact add_str (fun t' tk=>⟨.str (i++j),H,I.tok _,⟨_,rfl⟩,q⟩) hz
def Uo(r:Vals [x] us):∃u,us=[u]/\RelV x u:=by
 cases r with
 | cons r1 r2=>cases r2;exact⟨_,rfl,r1⟩
def JkB(r:Vals [x,y] us):∃u w',us=[u,w']/\RelV x u/\RelV y w':=by
 cases r with
 | cons r1 r2 =>
  cases r2 with
  | cons r3 r4=>cases r4;exact⟨_,_,rfl,r1,r3⟩
def Jg5(hc:X.calm=true):J0 X (.builtin "max") (fun xs H Q=>∃i j,xs=[.int i,.int j]/\Q (.int (if j>i then j else i)) H):=by
 intro pins s σ H xs us Q I r h;obtain⟨i,j,rfl,q⟩:=h;obtain⟨u,w',rfl,⟨t,rfl⟩,⟨t',rfl⟩⟩:=JkB r;refine max_two_ints (I.ok.hd hc) fun h' tk k=>⟨_,H,I.kept k,?_,q⟩
 by_cases hj:j>i
 ·rw[if_pos hj,if_pos hj];exact⟨_,rfl⟩
 ·rw[if_neg hj,if_neg hj];exact⟨_,rfl⟩
def Jg6(hc:X.calm=true):J0 X (.builtin "min") (fun xs H Q=>∃i j,xs=[.int i,.int j]/\Q (.int (if j<i then j else i)) H):=by
 intro pins s σ H xs us Q I r h;obtain⟨i,j,rfl,q⟩:=h;obtain⟨u,w',rfl,⟨t,rfl⟩,⟨t',rfl⟩⟩:=JkB r;refine min_two_ints (I.ok.hd hc) fun h' tk k=>⟨_,H,I.kept k,?_,q⟩
 by_cases hj:j<i
 ·rw[if_pos hj,if_pos hj];exact⟨_,rfl⟩
 ·rw[if_neg hj,if_neg hj];exact⟨_,rfl⟩
noncomputable def Jp9(K:QE)(x:V)(H:Hp)(n:Nat):Prop :=
 match x with
 | .str y=>y.length<=Qt/\n=y.length
 | .byt y=>y.size<=Qt/\n=y.size
 | .ref p=>(∃xs,SqL K H p xs/\n=xs.length)\/∃xs,SqT K H p xs/\n=xs.length
 | _=>False
def Jiq:J0 X (.builtin "len") (fun xs H Q=>∃x n,xs=[x]/\Jp9 X.K x H n/\Q (.int n) H):=by
 intro pins s σ H xs us Q I r h;obtain⟨x,n,rfl,e,q⟩:=h;obtain⟨u,rfl,rx⟩:=Uo r;have hl:=WD;have hs:Qt=16777216:=sizeLine_eq
 cases x with
 | str y=>obtain⟨t,rfl⟩:=rx;obtain⟨hy,e'⟩:y.length<=Qt/\n=y.length:=e;subst e';exact len_str (by omega) ⟨.int _,H,I.tok _,⟨_,rfl⟩,q⟩
 | byt y=>obtain⟨t,rfl⟩:=rx;obtain⟨hy,e'⟩:y.size<=Qt/\n=y.size:=e;subst e';exact PySem.W.len_bytes (by omega) ⟨.int _,H,I.tok _,⟨_,rfl⟩,q⟩
 | ref p =>
  cases rx;have e':(∃xs,SqL X.K H p xs/\n=xs.length)\/∃xs,SqT X.K H p xs/\n=xs.length:=e
  rcases e' with ⟨xs,hx,e'⟩|⟨xs,hx,e'⟩
  ·subst e';obtain⟨its,r',pl,hz⟩:=I.list hx;have hlen:=r'.length;exact Calls.call_len_list pl.isList (by simp only[Qu];omega) ⟨.int xs.length,H,I.tok _,⟨_,by simp only[Qu];rw[hlen]⟩,q⟩
  ·subst e';obtain⟨its,r',pl,hz⟩:=I.tuple hx;have hlen:=r'.length;exact len_tuple pl (by simp only[Qu];omega) ⟨.int xs.length,H,I.tok _,⟨_,by simp only[Qu];rw[hlen]⟩,q⟩
 | _=>exact(show False from e).elim
structure ObjM (h:Q1) (x dx C:Qj) (mA:Str->Option Qe):Prop where
 obj:h.get? x=some (instObj C dx)
 ns:h.Ns1 dx mA
 ne:dx≠x
def Jhw{h:Q1}{mA:Str->Option Qe}(n:h.Ns1 dx mA):∃od,h.get? dx=some od/\∀name,lookIn name od=some (mA name):=by
 obtain⟨o,es,ep,ho,hd,hk,_,hm⟩:=n;refine⟨o,ho,fun name=>?_⟩;have e:=hm name;unfold nsFind findBy at e;rw[<- Array.find?_toList] at e;unfold lookIn;rw[hd];dsimp only;split
 ·rename_i y q;rw[q] at e;exact congrArg some e
 ·rename_i q;rw[q] at e
  have a:es.toList.any (·.refKey)=false:=by rw[List.any_eq_false];intro y hy;obtain⟨z,t,hkey⟩:=hk y (Array.mem_toList_iff.mp hy);simp[DictEntry.refKey,hkey]
  have a':¬es.toList.any (·.refKey)=true:=by rw[a];exact Qx
  rw[if_neg a'];exact congrArg some e
def ObjM.look{h:Q1}{x dx C:Qj}{mA:Str->Option Qe}(I:ObjM h x dx C mA):∃od,PySem.W.InstAt h x (instObj C dx) C (some od)/\∀name,lookIn name od=some (mA name) :=
 let ⟨od,ho,hl⟩:=Jhw I.ns
 ⟨od,⟨I.obj,rfl,rfl,ho⟩,hl⟩
section
variable{prog:Qz}{w:QT}{A:QS}{E:Qe->Qi->Prop}{s:Qi}{K:QE}{x dx C f:Qj}{mA:Str->Option Qe}{name:Str}{v:Qe}
def Jlo(X:K.In s.heap)(I:ObjM s.heap x dx C mA)(hg:plainGet K C name=true)(hh:hasDictIn K C=true)(ha:findIn K (.ref C) name=some none)(hv:mA name=some v)(hv':PySem.W.handedIn v=true)(h:Q v { s with toks:=s.toks+1 }):
 wpAny (model prog w) A (getAttr (.ref x) name expr) Q E s:=by
 obtain⟨od,J,hl⟩:=I.look;exact PySem.W.get_value X J (PySem.W.plainGet_of hg).1 (PySem.W.findObj_own hh ha rfl (by rw[hl,hv])) hv' h
def JmE(X:K.In s.heap)(I:ObjM s.heap x dx C mA)(hs:findIn K (.ref C) "__setattr__"=some (some (.builtin "object.__setattr__")))(hp:plainOver K C=true)(ht:takerIn K C name=some none)(hh:hasDictIn K C=true)(hw:Xl mA ns)(hsz:ns.length<=Qt)(h:∀h',ObjM h' x dx C (fun y=>if y=name then some v else mA y)->QH dx s.heap h'->Q () { s with heap:=h',toks:=s.toks+2 }):
 wpAny (model prog w) A (setAttr (.ref x) name v) Q E s:=by
 obtain⟨od,J,hl⟩:=I.look;refine PySem.W.set_plain X J hs (PySem.W.osa_open (s:={ s with toks:=s.toks+1 }) (r:=none) X J hp ht fun b=>?_);obtain⟨cd,hc,hd'⟩:=PySem.W.any_some hh;have hx:s.heap.get? x=some ⟨.ref C,some dx,.plain,#[]⟩:=I.obj;refine Qa (Qg (Qa (Qa (wpAny_loadPart hx (Qa (PySem.W.Looks.here (s:={ s with toks:=s.toks+1 }) (PySem.W.looks_clsIn X hc) ?_))))));rw[hd'];refine Qg (a:=some dx) (Qa (Qg (Qa ?_)))
 refine wpAny_nsSet1 (s:={ s with toks:=s.toks+1 }) I.ns fun h' hn2 hs2=>?_
 obtain⟨oD,esD,epD,hoD,hdD,hcD⟩:=hn2.count (PySem.Within.cons name v hw);refine Qa (wpAny_lookBehind hoD (by rw[hdD];exact pastItsLine_dict (Gy hcD (by rw[Qr];omega))) ?_);exact Qg (h _ ⟨(hs2.2 _ (Q3 I.ne)).trans I.obj,hn2,I.ne⟩ hs2)
def Jjm{R:Rh->Qi->Prop}{vs:List Qe}{kw:List (Str×Qe)}(X:K.In s.heap)(hm:makesIn K C=true)
 (hi:findIn K (.ref C) "__init__"=some (some (.ref f))) (hf:PySem.W.typeIn K (.ref f)=some (.type "function"))
 (h:codeAny (model prog w) (A.under (.builtin "type.__call__" ⟨.ref C::vs,kw⟩)) (.call (.ref f) ⟨.ref (s.heap.objs.size+1)::vs,kw⟩) (PySem.W.InitBack (s.heap.objs.size+1) R)
  { s with heap:=(s.heap.push emptyDict).push (instObj C s.heap.objs.size) }) :
 codeAny (model prog w) A (.call (.ref C) ⟨vs,kw⟩) R s:=by
 obtain⟨hh,g,d,t,os⟩:=s;exact PySem.W.make_core (PySem.W.makes_of X hm) (PySem.W.looks_findIn X hi) (fun self=>PySem.W.bind_fn X self hf) (.inl rfl) h
end
noncomputable def putF(f:Str)(v:V):List (Str×V)->List (Str×V)
 | []=>[(f,v)]
 | (g,x)::r=>if g=f then(g,v)::r else(g,x)::putF f v r
theorem WZ(f g:Str)(v:V):∀fs:List (Str×V),(putF f v fs).lookup g=if g=f then some v else fs.lookup g
 | []=>by
  show L7 g [(f,v)]=_
  by_cases h:g=f
  ·have hb:(g == f)=true:=beq_iff_eq.mpr h;simp only[L7,hb,if_pos h]
  ·have hb:(g == f)=false:=beq_eq_false_iff_ne.mpr h;simp only[L7,hb,if_neg h]
 | (k,x)::r=>by
  have ih:=WZ f g v r;rw[show putF f v ((k,x)::r)=(if k=f then(k,v)::r else(k,x)::putF f v r) from rfl]
  by_cases hk:k=f
  ·rw[if_pos hk]
   by_cases h:g=k
   ·have hb:(g == k)=true:=beq_iff_eq.mpr h;simp only[L7,hb,if_pos (h.trans hk)]
   ·have hb:(g == k)=false:=beq_eq_false_iff_ne.mpr h;simp only[L7,hb,if_neg (fun e:g=f=>h (e.trans hk.symm))]
  ·rw[if_neg hk]
   by_cases h:g=k
   ·have hb:(g == k)=true:=beq_iff_eq.mpr h;simp only[L7,hb,if_neg (fun e:g=f=>hk (h.symm.trans e))]
   ·have hb:(g == k)=false:=beq_eq_false_iff_ne.mpr h;simp only[L7,hb];exact ih
theorem WC(f:Str)(v:V):∀fs:List (Str×V),f∈(putF f v fs).map (·.1)/\∀g,g∈fs.map (·.1)->g∈(putF f v fs).map (·.1)
 | []=>⟨by simp[putF],fun g h=>by simp at h⟩
 | (k,x)::r=>by
  obtain⟨i1,i2⟩:=WC f v r;rw[show putF f v ((k,x)::r)=(if k=f then(k,v)::r else(k,x)::putF f v r) from rfl]
  by_cases hk:k=f
  ·rw[if_pos hk];subst hk;exact⟨by simp,fun g h=>by simpa using h⟩
  ·rw[if_neg hk];refine⟨?_,fun g h=>?_⟩
   ·rw[Qf];exact Qd _ i1
   ·rw[Qf] at h ⊢;rcases Qk.mp h with e|e
    ·exact Qk.mpr (.inl e)
    ·exact Qd _ (i2 g e)
theorem WY(f:Str)(v:V):∀fs:List (Str×V),(putF f v fs).length<=fs.length+1
 | []=>by simp[putF]
 | (k,x)::r=>by
  have ih:=WY f v r;rw[show putF f v ((k,x)::r)=(if k=f then(k,v)::r else(k,x)::putF f v r) from rfl]
  by_cases hk:k=f
  ·rw[if_pos hk,Qr,Qr];omega
  ·rw[if_neg hk,Qr,Qr];omega
def RelO.some_of{v:V}{o:Option Qe}(r:RelO (some v) o):∃u,o=some u/\RelV v u:=by
 cases o with
 | none=>exact(show False from r).elim
 | some u=>exact⟨u,rfl,r⟩
def Jhj(r:RelV v u):PySem.W.handedIn u=true:=by
 cases v with
 | non=>cases (show u=Value.none from r);rfl
 | bl b=>cases (show u=Value.bool b from r);rfl
 | int i=>obtain⟨t,e⟩:=(show ∃t,u=Value.int i t from r);cases e;rfl
 | str x=>obtain⟨t,e⟩:=(show ∃t,u=Value.str x t from r);cases e;rfl
 | byt b=>obtain⟨t,e⟩:=(show ∃t,u=Value.bytes b t from r);cases e;rfl
 | flt b=>obtain⟨t,e⟩:=(show ∃t,u=Value.float b t from r);cases e;rfl
 | ref a=>cases (show u=Value.ref a from r);rfl
 | ty n=>cases (show u=Value.type n from r);rfl
def Jb4(hok:HOk P w H h)(e:H a=some (.ins C dx fs)):∃mA,ObjM h a dx C mA/\(∀f,RelO (fs.lookup f) (mA f))/\Xl mA (fs.map (·.1))/\fs.length<=1000/\H dx=some (.own a):=by
 obtain⟨d,z,ne,ob,mA,n,r,q⟩:=(show ObjOk P w H h a (.ins C dx fs) from hok a _ e)
 exact⟨mA,⟨ob,n,ne⟩,r,q,z,d⟩
structure Cls (K:QE) (C:Qj):Prop where
 pg:plainGet K C Str.empty=true
 hd:hasDictIn K C=true
 po:plainOver K C=true
 sa:findIn K (.ref C) "__setattr__"=some (some (.builtin "object.__setattr__"))
def Cls.get{K:QE}{C:Qj}(c:Cls K C)(f:Str):plainGet K C f=true:=c.pg
noncomputable def NoAttr(K:QE)(C:Qj)(f:Str):Prop:=findIn K (.ref C) f=some none
def NoAttr.taker{K:QE}{C:Qj}{f:Str}(n:NoAttr K C f):takerIn K C f=some none:=by unfold takerIn;rw[show findIn K (.ref C) f=some none from n];rfl
def JeF(I:Inv X pins σ H s)(e:H a=some (.ins C dx fs))(c:Cls X.K C)(n:NoAttr X.K C f)(l:fs.lookup f=some v)(h:∀u s',Inv X pins σ H s'->RelV v u->Q u s'):wpAny (model X.prog X.w) A (getAttr (.ref a) f b) Q E s:=by
 obtain⟨mA,O,r,_,_,_⟩:=Jb4 I.hok e;obtain⟨u,hu,ru⟩:=RelO.some_of (v:=v) (o:=mA f) (by rw[<- l];exact r f);exact Jlo I.kIn O (c.get f) c.hd n hu (Jhj ru) (h u _ (I.tok _) ru)
def Jfd(I:Inv X pins σ H s)(e:H a=some (.ins C dx fs))(c:Cls X.K C)(n:NoAttr X.K C f)(hl:fs.length<1000)(ry:RelV y u)(h:∀s',Inv X pins σ (upd H a (.ins C dx (putF f y fs))) s'->Q () s'):wpAny (model X.prog X.w) A (setAttr (.ref a) f u) Q E s:=by
 obtain⟨mA,O,r,wi,_,ho⟩:=Jb4 I.hok e;have hz:(fs.map (·.1)).length<=Qt:=by rw[Qm,sizeLine_eq];omega
 refine JmE I.kIn O c.sa c.po n.taker c.hd wi hz fun h' O' sb=>h _ ?_
 have hd:∃o,h'.get? dx=some o:=let ⟨o,_,_,e',_⟩:=O'.ns;⟨o,e'⟩
 refine I.write (x:=a) (e:=dx) (by rw[e];exact True.intro) (.inr ho) (fun b q hb z=>(sb.2 b hb).trans z) hd ?_;refine⟨by rw[Ji O.ne];exact ho,?_,O.ne,O'.obj,_,O'.ns,fun g=>?_,fun g hg=>?_⟩
 ·have:=WY f y fs;omega
 ·show RelO ((putF f y fs).lookup g) (if g=f then some u else mA g);rw[WZ]
  by_cases q:g=f
  ·rw[if_pos q,if_pos q];exact ry
  ·rw[if_neg q,if_neg q];exact r g
 ·by_cases q:g=f
  ·rw[q];exact(WC f y fs).1
  ·refine(WC f y fs).2 g (wi g fun z=>hg ?_);show(if g=f then some u else mA g)=none;rw[if_neg q];exact z
def Inv.made(I:Inv X pins σ H s):Inv X pins σ (upd (upd H s.heap.objs.size (.own (s.heap.objs.size+1))) (s.heap.objs.size+1) (.ins C s.heap.objs.size []))
 { s with heap:=(s.heap.push emptyDict).push (instObj C s.heap.objs.size) }:=by
 have e1:(s.heap.push emptyDict).get? s.heap.objs.size=some emptyDict:=Qn s.heap rfl
 have e2:((s.heap.push emptyDict).push (instObj C s.heap.objs.size)).get? (s.heap.objs.size+1)=some (instObj C s.heap.objs.size):=by
  have:=Qn (s.heap.push emptyDict) (o:=instObj C s.heap.objs.size) rfl
  rwa [Gz] at this
 have e3:(s.heap.push emptyDict).Ns s.heap.objs.size (fun _=>none):=⟨emptyDict,#[],_,e1,rfl,(fun e he=>absurd he (by simp)),fun _=>rfl⟩
 have I1:=I.laid (a:=s.heap.objs.size) (o:=.own (s.heap.objs.size+1)) (h':=s.heap.push emptyDict) (t':=s.toks) (fun b u q=>Qh _ q) (Qp _) ⟨_,e1⟩;refine I1.laid (a:=s.heap.objs.size+1) (o:=.ins C s.heap.objs.size []) (t':=s.toks) (fun b u q=>Qh _ q) (RB (Gz _ _)) ?_
 have ne:s.heap.objs.size≠s.heap.objs.size+1:=QD (G2 _);refine⟨by rw[Ji ne,Jn],GP _,ne,e2,fun _=>none,(Heap.Ns1.of_empty e3).at fun o q=>Qh _ q,fun _=>True.intro,fun y hy=>absurd rfl hy⟩
def JkS(hb:attributeBase e f env (eval e env)=eval e env)(h:wpAny (model prog w) A (eval e env) (fun o s₁=>wpAny (model prog w) A (getAttr o f true) Q E s₁) E s):wpAny (model prog w) A (eval (.Attribute e f pos) env) Q E s :=
 Attribute_any_ h (by rw[arm_eval_Attribute,hb])
noncomputable def JpN(K:QE)(ta:TE)(f:Str):TE:=fun σ H Q=>ta σ H fun x H1=>∃a C dx fs v,x=.ref a/\H1 a=some (.ins C dx fs)/\Cls K C/\NoAttr K C f/\fs.lookup f=some v/\Q v H1
noncomputable def Jpv(K:QE)(ta tv:TE)(f:Str):TS:=fun D σ H=>tv σ H fun y H1=>ta σ H1 fun x H2=>∃a C dx fs,x=.ref a/\H2 a=some (.ins C dx fs)/\Cls K C/\NoAttr K C f/\fs.length<1000 ∧
 D.nx σ (upd H2 a (.ins C dx (putF f y fs)))
def JoX(he:PE X e ta)(hb:attributeBase e f X.env (eval e X.env)=eval e X.env):PE X (.Attribute e f pos) (JpN X.K ta f):=by intro pins s σ H Q I h;refine JkS hb (thn (he pins s σ H _ I h) fun u s1 ⟨x,H1,I1,rx,a,C,dx,fs,v,ex,ea,c,n,l,q⟩=>?_);subst ex;obtain rfl:u=Value.ref a:=rx;exact JeF I1 ea c n l fun u' s2 I2 ru=>⟨v,H1,I2,ru,q⟩
def Jo5(ha:PE X o ta)(hv:PE X value tv)(hs:swapsWith value (some (.Attribute o f pos')) pos.line X.env=pure false):PS X (.Assign [.Attribute o f pos'] value pos) (Jpv X.K ta tv f):=by intro pins s σ H D I h;refine plainObj_wpAny_Assign_Attribute (thn (hv pins s σ H _ I h) fun u s1 ⟨y,H1,I1,ry,q⟩=>thn (ha pins s1 σ H1 _ I1 q) fun ov s2 ⟨x,H2,I2,rx,a,C,dx,fs,ex,ea,c,n,l,q2⟩=>?_) hs;subst ex;obtain rfl:ov=Value.ref a:=rx;exact Jfd I2 ea c n l ry fun s3 I3=>⟨σ,_,I3,q2⟩
inductive TyOf (K:QE) (H:Hp):V->Qe->Prop where
 | non:TyOf K H .non (.type "NoneType")
 | bl (x:Bool):TyOf K H (.bl x) (.type "bool")
 | int (i:Int):TyOf K H (.int i) (.type "int")
 | str (x:Str):TyOf K H (.str x) (.type "str")
 | flt (x:UInt64):TyOf K H (.flt x) (.type "float")
 | lst {a:Qj} {xs:List V} (e:H a=some (.lst xs)):TyOf K H (.ref a) (.type "list")
 | frz {a:Qj} {o:Obj} {xs:List V} (e:H a=some (.frz o (.lst xs))):TyOf K H (.ref a) (.type "list")
 | tup {a:Qj} {xs:List V} (e:H a=some (.tup xs)):TyOf K H (.ref a) (.type "tuple")
 | dK {a:Qj} {kvs:List (Key×V)} (e:H a=some (.dK kvs)):TyOf K H (.ref a) (.type "dict")
 | dT {a:Qj} {kvs:List (List Key×V)} (e:H a=some (.dT kvs)):TyOf K H (.ref a) (.type "dict")
 | ins {a C dx:Qj} {fs:List (Str×V)} (e:H a=some (.ins C dx fs)) (cl:Cls K C) (ha:findIn K (.ref C) "__class__"=some (some (.builtin "object.__class__")))
  (hn:Xm K (.builtin "object.__class__") "__get__"=some (some (.builtin "getset_descriptor.__get__"))) (htk:PySem.W.takesIn K (.builtin "object.__class__")=some true)
  (hm:mroIn K C (.type "object")=some true):TyOf K H (.ref a) (.ref C)
def Jht(I:Inv X pins σ H s)(rx:RelV x u)(ty:TyOf X.K H x t)(e:kitOne X.K t c=some b)(h:∀tk,Q (.bool b) { s with toks:=tk }):
 wpAny (model X.prog X.w) A (call (.builtin "isinstance") [u,c]) Q E s:=by
 cases ty with
 | non=>cases (show u=Value.none from rx);exact kia_one PySem.W.kitx_none I.kIn True.intro e (fun z=>nomatch z) h
 | bl y=>cases (show u=Value.bool y from rx);exact kia_one PySem.W.kitx_bool I.kIn True.intro e (fun z=>nomatch z) h
 | int i=>obtain⟨t,q⟩:=(show ∃t,u=Value.int i t from rx);cases q;exact kia_one PySem.W.kitx_int I.kIn True.intro e (fun z=>nomatch z) h
 | str y=>obtain⟨t,q⟩:=(show ∃t,u=Value.str y t from rx);cases q;exact kia_one PySem.W.kitx_str I.kIn True.intro e (fun z=>nomatch z) h
 | flt y=>obtain⟨t,q⟩:=(show ∃t,u=Value.float y t from rx);cases q;exact kia_one PySem.W.kitx_float I.kIn True.intro e (fun z=>nomatch z) h
 | @lst a xs ea =>
  cases (show u=Value.ref a from rx);obtain⟨_,_,n,_,h1⟩:=(show ObjOk X.prog X.w H s.heap a (.lst xs) from I.hok a _ ea)
  exact kia_one kitx_list I.kIn ⟨_,h1,rfl⟩ e (fun z=>nomatch z) h
 | @frz a ob xs ea =>
  cases (show u=Value.ref a from rx);obtain⟨_,_,_,n,_,h1⟩:=(show ObjOk X.prog X.w H s.heap a (.frz ob (.lst xs)) from I.hok a _ ea)
  exact kia_one kitx_list I.kIn ⟨_,h1,rfl⟩ e (fun z=>nomatch z) h
 | @tup a xs ea =>
  cases (show u=Value.ref a from rx);obtain⟨_,_,_,p⟩:=(show ObjOk X.prog X.w H s.heap a (.tup xs) from I.hok a _ ea)
  obtain⟨o,h1,h2,_⟩:=p;exact kia_one Xg I.kIn ⟨o,h1,h2⟩ e (fun z=>nomatch z) h
 | @dK a kvs ea =>
  cases (show u=Value.ref a from rx);obtain⟨_,_,vs,_,p⟩:=(show ObjOk X.prog X.w H s.heap a (.dK kvs) from I.hok a _ ea)
  obtain⟨o,es,ep,h1,h2,_⟩:=p;exact kia_one Xn I.kIn ⟨o,h1,h2.1⟩ e (fun z=>nomatch z) h
 | @dT a kvs ea =>
  cases (show u=Value.ref a from rx);obtain⟨_,_,xs,_,o,es,ep,h1,h2,_⟩:=(show ObjOk X.prog X.w H s.heap a (.dT kvs) from I.hok a _ ea)
  exact kia_one Xn I.kIn ⟨o,h1,h2.1⟩ e (fun z=>nomatch z) h
 | @ins a C dx fs ea cl ha hn htk hm=>cases (show u=Value.ref a from rx);obtain⟨mA,O,_⟩:=Jb4 I.hok ea;obtain⟨od,J,_⟩:=O.look;exact kia_one (PySem.W.kitx_own (cl.get _) cl.hd ha hn htk hm) I.kIn J e (fun z=>nomatch z) h
structure Room (k:Nat) (A:QS):Prop where
 hd:A.handled=none
 dp:A.depth+3*k+5<recursionLimit
 un:A.units+16*k+200<cLine
def Room.mono(r:Room k A)(h:j<=k):Room j A:=⟨r.hd,by have:=r.dp;omega,by have:=r.un;omega⟩
def Room.deeper(r:Room (k+1) A)(env:Env):Room k (A.deeper env) :=
 ⟨r.hd,by have:=r.dp;show A.depth+1+3*k+5<_;omega,by have:=r.un;show A.units+3+16*k+200<_;omega⟩
def JeQ{A:QS}:(A.under (.builtin "type.__call__" ⟨.ref C::us,kw⟩)).depth=A.depth+1:=by first | rfl | simp[Xo,Code.weight,Code.isCreation,Code.isGuard,Code.isCaller,Code.frames,Xp,guardIds]
def JeR{A:QS}:(A.under (.builtin "type.__call__" ⟨.ref C::us,kw⟩)).units=A.units+1:=by first | rfl | simp[Xo,Code.cUnits,Code.frames,Xp]
def Room.make(r:Room (k+1) A)(C:Qj)(us:List Qe)(kw:List (Str×Qe)):Room k (A.under (.builtin "type.__call__" ⟨.ref C::us,kw⟩)) :=
 ⟨r.hd,by have:=r.dp;rw[JeQ];omega,by have:=r.un;rw[JeR];omega⟩
def Room.depth(r:Room k A):A.depth<recursionLimit:=by have:=r.dp;omega
def Room.units(r:Room k A):A.units+64<cLine:=by have:=r.un;omega
noncomputable def Vo:TA:=fun _ H Q=>Q [] H
noncomputable def Y5(ta:TE)(tr:TA):TA:=fun σ H Q=>ta σ H fun x H1=>tr σ H1 fun xs H2=>Q (x::xs) H2
def Jd:PA X [] Vo:=fun _ _ _ _ H Q I h=>Mc ⟨[],H,I,.nil,h⟩
def Ja(ha:PE X e te)(hr:PA X es t)(hs:starEach (e::es) X.env=(false,eval e X.env)::starEach es X.env:=by rfl):PA X (e::es) (Y5 te t):=by intro pos pins s σ H Q I h;rw[hs];show wpAny _ _ (spliced ((false,eval e X.env)::backTo pos (starEach es X.env))) _ _ s;refine KN (thn (ha pins s σ H _ I h) fun u s1 ⟨x,H1,I1,r1,q1⟩=>?_);exact thn (hr pos pins s1 σ H1 _ I1 q1) fun us s2 ⟨xs,H2,I2,r2,q2⟩=>⟨x::xs,H2,I2,.cons r1 r2,q2⟩
noncomputable def Jks(t:TA):TE:=fun σ H Q=>t σ H fun xs H1=>xs.length<=Qt/\∀p,H1 p=none->Q (.ref p) (upd H1 p (.tup xs))
noncomputable def JmK(t:TA):TE:=fun σ H Q=>t σ H fun xs H1=>xs.length<=Qt/\∀p,H1 p=none->Q (.ref p) (upd H1 p (.lst xs))
def JG{x1}(h:PA X es t):PE X (.Tuple es x1 pos) (Jks t):=by intro pins s σ H Q I hq;refine wpAny_Tuple_spliced (thn (h pos pins s σ H _ I hq) fun us s1 ⟨xs,H1,I1,r,z,q⟩=>⟨by rw[<- r.length];exact z,?_⟩);have hf:H1 s1.heap.objs.size=none:=I1.hok.fresh (Qp _);refine⟨.ref s1.heap.objs.size,upd H1 s1.heap.objs.size (.tup xs),I1.laid (t':=s1.toks) (fun b u e=>Qh _ e) (Qp _) ?_,rfl,q _ hf⟩;exact⟨z,us,r,⟨_,Qn _ rfl,rfl,_,rfl⟩⟩
def YA(h:PA X es t):PE X (.List es pos) (JmK t):=by intro pins s σ H Q I hq;refine wpAny_List_spliced (thn (h pos pins s σ H _ I hq) fun us s1 ⟨xs,H1,I1,r,z,q⟩=>⟨by rw[<- r.length];exact z,?_⟩);have hf:H1 s1.heap.objs.size=none:=I1.hok.fresh (Qp _);refine⟨.ref s1.heap.objs.size,upd H1 s1.heap.objs.size (.lst xs),I1.laid (t':=s1.toks) (fun b u e=>Qh _ e) (Qp _) ?_,rfl,q _ hf⟩;exact⟨z,us,0,r,Qn _ rfl⟩
noncomputable abbrev Sp:=List V->Hp->VK->XK->Prop
noncomputable abbrev CXT:=List Env->Hp->Qi->XK->Qe->Qi->Prop
structure Env0 (P:Qz) (w:QT) (K:QE) (mg:Str->Option Qe) (base:Q1) (A:QS) (outer:List Env) (s:Qi) (H:Hp):Prop where
 frames:A.frames=some outer
 mod:Mod K mg base
 bs:∀b o,base.get? b=some o->s.heap.get? b=some o/\H b=none
 bsz:base.objs.size<=s.heap.objs.size
 funs:s.heap.FunFrames base outer
 frf:∀b∈frs outer,H b=none
 hok:HOk P w H s.heap
 bare:AllBare s.gens
noncomputable def CE(outer:List Env)(P:Qz)(w:QT)(H:Hp)(s:Qi)(Q:VK)(u:Qe)(s':Qi):Prop :=
 ∃v H',s'.os=s.os/\AllBare s'.gens/\Un (frs outer) [] H H' s.heap s'.heap/\HOk P w H' s'.heap/\RelV v u/\Q v H'
noncomputable def CR(CX:CXT)(outer:List Env)(P:Qz)(w:QT)(H:Hp)(s:Qi)(Q:VK)(E:XK)(r:Rh)(s':Qi):Prop :=
 match r with
 | .ok (.ret u)=>CE outer P w H s Q u s'
 | .ok _=>False
 | .error e=>CX outer H s E e s'
structure FnOk (P:Qz) (w:QT) (K:QE) (mg:Str->Option Qe) (base:Q1) (CX:CXT) (k:Nat) (f:Qj) (fd:Q4) (ps:List Str) (sp:Sp):Prop where
 len:∀vs H Q E,sp vs H Q E->vs.length=ps.length
 run:∀(A:QS) (outer:List Env) (s:Qi) (H:Hp) (args:Args) (us:List Qe) (vs:List V) (Q:VK) (E:XK),Room k A->Env0 P w K mg base A outer s H->BindsTo s fd args (ps.zip us)->Vals vs us->sp vs H Q E ->
  codeAny (model P w) A (.call (.ref f) args) (CR CX outer P w H s Q E) s
def FnOk.imp{P:Qz}{w:QT}{K:QE}{mg:Str->Option Qe}{base:Q1}{CX:CXT}{k:Nat}{f:Qj}{fd:Q4}{ps:List Str}{sp sp':Sp}(F:FnOk P w K mg base CX k f fd ps sp)
 (h:∀vs H Q E,sp' vs H Q E->sp vs H Q E):FnOk P w K mg base CX k f fd ps sp' :=
 ⟨fun vs H Q E q=>F.len vs H Q E (h _ _ _ _ q),fun A outer s H args us vs Q E hr he hb hv hs=>F.run A outer s H args us vs Q E hr he hb hv (h _ _ _ _ hs)⟩
def Env0.make{P:Qz}{w:QT}{K:QE}{mg:Str->Option Qe}{base:Q1}{A:QS}{outer:List Env}{s:Qi}{H:Hp}(e:Env0 P w K mg base A outer s H)(C:Qj)(us:List Qe)(kw:List (Str×Qe)) :
 Env0 P w K mg base (A.under (.builtin "type.__call__" ⟨.ref C::us,kw⟩)) outer s H:=⟨by first | exact e.frames | (simpa [Xo,Code.envs,Xp,pushEnvs] using e.frames),e.mod,e.bs,e.bsz,e.funs,e.frf,e.hok,e.bare⟩
def Inv.env0(I:Inv X pins σ H s):Env0 X.prog X.w X.K X.mg X.base X.A X.stack s H :=
 ⟨I.ok.frames,I.ok.mod,I.bs,Gy I.ok.bsz I.sz,I.stack,I.stkFree,I.hok,I.bare⟩
def Inv.after(I:Inv X pins σ H s)(h:CE X.stack X.prog X.w H s Q u s'):EP X pins σ Q u s':=by obtain⟨v,H',os,bare,un,hok,r,q⟩:=h;obtain⟨hh,g,d,t,os'⟩:=s';obtain rfl:os'=s.os:=os;exact⟨v,H',I.call (h':=hh) (g':=g) (d':=d) (t':=t) (ch:=[]) un hok bare (fun b z=>absurd z (by simp)),r,q⟩
noncomputable def JgG(sp:Sp)(dvs:List V)(E:XK)(t:TA):TE:=fun σ H Q=>t σ H fun vs H1=>sp (vs++dvs) H1 Q E
noncomputable def JgI(C:Qj)(sp:Sp)(dvs:List V)(E:XK)(t:TA):TE:=fun σ H Q=>t σ H fun vs H1=>∀x dx,H1 x=none->H1 dx=none->dx≠x ->
 sp (.ref x::(vs++dvs)) (upd (upd H1 dx (.own x)) x (.ins C dx [])) (fun v H2=>v=.non/\Q (.ref x) H2) E
noncomputable def Binds(K:QE)(fd:Q4)(ps:List Str)(ds:List Qe):Prop :=
 ∀(s:Qi) (us:List Qe),K.In s.heap->(us++ds).length=ps.length->BindsTo s fd ⟨us,[]⟩ (ps.zip (us++ds))
def Binds.all{K:QE}{fd:Q4}{ps:List Str}(h:∀us:List Qe,us.length=ps.length->bindArgs fd ⟨us,[]⟩=pure (ps.zip us)):Binds K fd ps []:=fun s us _ hl=>by rw[Gi] at hl ⊢;exact .of_eq (h us hl)
noncomputable def Zs(CX:CXT)(X:Cx)(E:XK):Prop:=∀(pins:List (Qj×Obj)) (σ:St) (H:Hp) (s:Qi) (e:Qe) (s':Qi),Inv X pins σ H s->CX X.stack H s E e s'->X.xe e s'
def Jpu{pins:List (Qj×Obj)}{σ:St}{H:Hp}{s:Qi}{Q:VK}{us:List Qe}{vs:List V}(F:FnOk X.prog X.w X.K X.mg X.base CX k f fd ps sp)(hr:Room k X.A)(hb:Binds X.K fd ps ds)(hd:Vals dvs ds)(hx:Zs CX X E)
 (I:Inv X pins σ H s) (r:Vals vs us) (h:sp (vs++dvs) H Q E):wpAny (model X.prog X.w) X.A (call (.ref f) us) (EP X pins σ Q) X.xe s:=by
 have r2:Vals (vs++dvs) (us++ds):=r.append hd
 have hl:(us++ds).length=ps.length:=by rw[<- r2.length];exact F.len _ _ _ _ h
 refine wpAny_call (Lj (F.run X.A X.stack s H ⟨us,[]⟩ (us++ds) (vs++dvs) Q E hr I.env0 (hb s us I.kIn hl) r2 h) fun r s' hq=>?_)
 cases r with
 | error e=>exact hx pins σ H s e s' I hq
 | ok fl =>
  cases fl with
  | ret u=>exact I.after hq
  | next=>exact KE hq
  | brk=>exact KE hq
  | cont=>exact KE hq
def JlV(F:FnOk X.prog X.w X.K X.mg X.base CX k f fd ps sp)(hr:Room k X.A)(hg:Gl X x)(hm:X.mg x=some (.ref f))(hk:keepIn X.K (.ref f)=true)(hb:Binds X.K fd ps ds)(hd:Vals dvs ds)(hx:Zs CX X E)
 (ha:PA X (e::es) t) (hdb:(x == ("__debug__":Str))=false:=by decide) (he:starEach (e::es) X.env=(false,eval e X.env)::starEach es X.env:=by rfl) (hpl:(backTo pos (starEach es X.env)).any (·.1)=false:=by rfl) :
 PE X (.Call (.Name x p) (e::es) [] pos) (JgG sp dvs E t):=by
 intro pins s σ H Q I h;refine Lk (Jb8 I hg hm ?_ hdb);refine Xh (h₀:=X.base) I.ok.mod.kin hk (thn (ha pos pins s σ H _ I h) fun us s1 ⟨vs,H1,I1,r,q⟩=>⟨I1.kIn,?_⟩) he hpl;exact Jpu F hr hb hd hx I1 r q
structure Mk (K:QE) (C f:Qj):Prop where
 makes:makesIn K C=true
 init:findIn K (.ref C) "__init__"=some (some (.ref f))
 fn:PySem.W.isFn K (.ref f)=true
 kp:keepIn K (.ref C)=true
def Jj2{pins:List (Qj×Obj)}{σ:St}{H:Hp}{s:Qi}{Q:VK}{us:List Qe}{vs:List V}(M:Mk X.K C f)(F:FnOk X.prog X.w X.K X.mg X.base CX k f fd ps sp)(hr:Room (k+1) X.A)(hb:Binds X.K fd ps ds)(hd:Vals dvs ds)
 (hx:Zs CX X E) (I:Inv X pins σ H s) (r:Vals vs us)
 (h:∀x dx,H x=none->H dx=none->dx≠x->sp (.ref x::(vs++dvs)) (upd (upd H dx (.own x)) x (.ins C dx [])) (fun v H2=>v=.non/\Q (.ref x) H2) E) :
 wpAny (model X.prog X.w) X.A (call (.ref C) us) (EP X pins σ Q) X.xe s:=by
 have hq:=h (s.heap.objs.size+1) s.heap.objs.size (I.hok.fresh (LH _)) (I.hok.fresh (Qp _)) (QD (G2 _))
 have I2:=Inv.made (C:=C) I
 have r2:Vals (V.ref (s.heap.objs.size+1)::(vs++dvs)) (Value.ref (s.heap.objs.size+1)::(us++ds)):=.cons rfl (r.append hd)
 have hl:(Value.ref (s.heap.objs.size+1)::us++ds).length=ps.length:=by have e:=r2.length;rw[F.len _ _ _ _ hq] at e;exact e.symm
 refine wpAny_call (Jjm (f:=f) I.kIn M.makes M.init (beq_iff_eq.mp M.fn) (Lj (F.run _ X.stack _ _ ⟨Value.ref (s.heap.objs.size+1)::us,[]⟩ (Value.ref (s.heap.objs.size+1)::(us++ds)) _ _ E (hr.make C us [])
  (I2.env0.make C us []) (hb _ (Value.ref (s.heap.objs.size+1)::us) I2.kIn hl) r2 hq) fun r s' hq'=>?_))
 cases r with
 | error e=>exact hx pins σ _ _ e s' I2 hq'
 | ok fl =>
  cases fl with
  | ret u=>obtain⟨v,H',I3,rv,ev,q3⟩:=I2.after hq';subst ev;exact⟨rv,⟨V.ref (s.heap.objs.size+1),H',I3,rfl,q3⟩⟩
  | next=>exact KE hq'
  | brk=>exact KE hq'
  | cont=>exact KE hq'
def JlZ(M:Mk X.K C f)(F:FnOk X.prog X.w X.K X.mg X.base CX k f fd ps sp)(hr:Room (k+1) X.A)(hg:Gl X x)(hm:X.mg x=some (.ref C))(hb:Binds X.K fd ps ds)(hd:Vals dvs ds)(hx:Zs CX X E)
 (ha:PA X (e::es) t) (hdb:(x == ("__debug__":Str))=false:=by decide) (he:starEach (e::es) X.env=(false,eval e X.env)::starEach es X.env:=by rfl) (hpl:(backTo pos (starEach es X.env)).any (·.1)=false:=by rfl) :
 PE X (.Call (.Name x p) (e::es) [] pos) (JgI C sp dvs E t):=by
 intro pins s σ H Q I h;refine Lk (Jb8 I hg hm ?_ hdb);refine Xh (h₀:=X.base) I.ok.mod.kin M.kp (thn (ha pos pins s σ H _ I h) fun us s1 ⟨vs,H1,I1,r,q⟩=>⟨I1.kIn,?_⟩) he hpl;exact Jj2 M F hr hb hd hx I1 r q
structure FnScope (N P:List Str) (sc:Ra):Prop where
 kind:sc.kind=.function
 co:sc.isCoroutine=false
 gen:sc.isGenerator=false
 nd:N.Nodup
 pre:N.take P.length=P
 par:∀x∈P,sc.names.lookup x=some .local\/sc.names.lookup x=some .cell
 nofree:∀y∈sc.names,y.2≠.free
theorem JaW{kindOf:Str->Option NameKind}:∀{binds:List (Str×Qe)} {m:Str->Option Qe},(∀v,(x,v)∉binds)->bindL kindOf binds m x=m x
 | [],_,_=>rfl
 | (n,v)::r,m,h=>by
  unfold bindL;rw[JaW fun w hw=>h w (Qd _ hw)];split
  ·have:x≠n:=by rintro rfl;exact h v Qc
   simp[this]
  ·rfl
theorem JaU{kindOf:Str->Option NameKind}:∀{binds:List (Str×Qe)} {m:Str->Option Qe},(∀v,(x,v)∉binds)->bindC kindOf binds m x=m x
 | [],_,_=>rfl
 | (n,v)::r,m,h=>by
  unfold bindC;rw[JaU fun w hw=>h w (Qd _ hw)];split
  ·rfl
  ·have:x≠n:=by rintro rfl;exact h v Qc
   simp[this]
theorem JaV{kindOf:Str->Option NameKind}{x:Str}{v:Qe}:∀{P:List Str} {vs:List Qe} {i:Nat} {m:Str->Option Qe},P.Nodup->P[i]?=some x->vs[i]?=some v->kindOf x=some .local ->
 bindL kindOf (P.zip vs) m x=some v
 | [],_,_,_,_,h,_,_=>by simp at h
 | _::_,[],_,_,_,_,h,_=>by simp at h
 | p::P,w::vs,0,m,nd,h1,h2,hk=>by simp at h1 h2;subst h1;subst h2;show bindL kindOf ((p,w)::P.zip vs) m p=_;unfold bindL;rw[JaW fun v hv=>(QY.mp nd).1 (Lr hv).1,if_pos hk];simp
 | p::P,w::vs,i+1,m,nd,h1,h2,hk=>by show bindL kindOf ((p,w)::P.zip vs) m x=_;unfold bindL;exact JaV (i:=i) (QY.mp nd).2 (by simpa using h1) (by simpa using h2) hk
theorem JaT{kindOf:Str->Option NameKind}{x:Str}{v:Qe}:∀{P:List Str} {vs:List Qe} {i:Nat} {m:Str->Option Qe},P.Nodup->P[i]?=some x->vs[i]?=some v->kindOf x≠some .local ->
 bindC kindOf (P.zip vs) m x=some v
 | [],_,_,_,_,h,_,_=>by simp at h
 | _::_,[],_,_,_,_,h,_=>by simp at h
 | p::P,w::vs,0,m,nd,h1,h2,hk=>by simp at h1 h2;subst h1;subst h2;show bindC kindOf ((p,w)::P.zip vs) m p=_;unfold bindC;rw[JaU fun v hv=>(QY.mp nd).1 (Lr hv).1,if_neg hk];simp
 | p::P,w::vs,i+1,m,nd,h1,h2,hk=>by show bindC kindOf ((p,w)::P.zip vs) m x=_;unfold bindC;exact JaT (i:=i) (QY.mp nd).2 (by simpa using h1) (by simpa using h2) hk
noncomputable def U2(N:List Str)(vs:List V):St:=vs.map some++QM (N.length-vs.length) none
noncomputable def Jes(CX:CXT)(P:Qz)(w:QT)(K:QE)(mg:Str->Option Qe)(base:Q1)(N:List Str)(qual:Str)(scope:Ra)(f:Qj)(cd:Qe)(A:QS)(outer:List Env)(s:Qi)(H:Hp)(E:XK):Cx where
 prog:=P
 w:=w
 K:=K
 mg:=mg
 base:=base
 A:=A.deeper (envOfC qual scope s.heap.objs.size f cd)
 N:=N
 s₀:=s
 H₀:=H
 env:=envOfC qual scope s.heap.objs.size f cd
 outer:=outer
 stack:=envOfC qual scope s.heap.objs.size f cd::outer
 ex:=[]
 calm:=true
 fn:=fun _=>true
 pn:=[]
 xe:=fun e s'=>wpAny (model P w) (A.deeper (envOfC qual scope s.heap.objs.size f cd)) (leaving (envOfC qual scope s.heap.objs.size f cd) e) (fun _ s''=>CX outer H s E e s'') (fun e' s''=>CX outer H s E e' s'') s'
def JcW{sc:Ra}{n:Nat}{x:Str}(h:sc.names.lookup x=some .cell):∃c,(cellsFrom n sc.names []).lookup x=some c:=by have q:=RC sc.names n [] (.inl h);exact Ri.mp q
def Jho{CX:CXT}{P:Qz}{w:QT}{K:QE}{mg:Str->Option Qe}{base:Q1}{N ps:List Str}{qual:Str}{scope:Ra}{f:Qj}{cd:Qe}{A:QS}{outer:List Env}{s s1:Qi}{H:Hp}{E:XK}{us:List Qe}{vs:List V}
 (S:FnScope N ps scope) (hd:A.handled=none) (e0:Env0 P w K mg base A outer s H) (hl:vs.length=ps.length) (r:Vals vs us)
 (x:InCallC s s.heap.objs.size (bindL (envOfC qual scope s.heap.objs.size f cd).kindOf (ps.zip us) fun _=>none) (cellsFrom (s.heap.objs.size+1) scope.names []) (bindC (envOfC qual scope s.heap.objs.size f cd).kindOf (ps.zip us) fun _=>none) s1) :
 Inv (Jes CX P w K mg base N qual scope f cd A outer s H E) [] (U2 N vs) H s1:=by
 have hpl:ps.length<=N.length:=by have:=congrArg List.length S.pre;rw[LL] at this;omega
 obtain⟨h1,tk,rfl,hk⟩:=x.done;have noA:∀b:Qj,b∉(Jes CX P w K mg base N qual scope f cd A outer s H E).ex:=fun b z=>absurd (show b∈([]:List Qj) from z) (by simp)
 refine⟨⟨e0.mod,S.kind,rfl,rfl,Qp _,fun y z c h1 h2=>?_,fun y hy=>?_,fun y c _ h=>?_,fun _=>hd,Around.frames_deeper e0.frames,.inr ⟨rfl,rfl⟩,fun b z=>absurd z (noA b),e0.bs,e0.bsz,fun b _ _=>noA b,fun b z=>absurd z (noA b),e0.funs,e0.frf⟩,
  rfl,e0.bare,Un.kept hk,⟨_,x.toInCall.ns,fun i y v h1 h2 h3=>?_⟩,fun y c h=>⟨_,x.cell y c h⟩,e0.hok.fresh (Qp _),fun y c h=>?_,fun p hp=>absurd (show p∈([]:List (Qj×Obj)) from hp) (by simp),e0.hok.kept hk,?_⟩
 ·exact name_of_addr x.apart (KI h1) (KI h2)
 ·have hy:scope.names.lookup y=some .cell\/scope.names.lookup y=some .free:=hy;rcases hy with hy|hy
  ·exact JcW hy
  ·exact absurd rfl (S.nofree _ (KI hy))
 ·exact Kc (x.above y c (KI h))
 ·have hi:i<vs.length:=by
   unfold U2 at h2
   by_cases hi:i<vs.length
   ·exact hi
   ·rw[Gs (by simpa using hi)] at h2;rw[Rp] at h2;split at h2 <;> cases h2
  have ha:vs[i]?=some v:=by
   unfold U2 at h2;rw[Gc (by simpa using hi),Qw] at h2
   cases e:vs[i]? with
   | none=>rw[e] at h2;cases h2
   | some a=>rw[e] at h2;cases h2;rfl
  obtain⟨u,hu,rv⟩:=r.get ha
  have hp:ps[i]?=some y:=by rw[<- S.pre,List.getElem?_take_of_lt (by omega)];exact h1
  have ndP:ps.Nodup:=by rw[<- S.pre];exact S.nd.sublist (List.take_sublist _ _)
  refine⟨u,rv,?_⟩;rcases S.par y (QI hp) with k|k
  ·exact .inl ⟨k,JaV ndP hp hu k⟩
  ·obtain⟨c,e⟩:=JcW (n:=s.heap.objs.size+1) k;refine .inr ⟨.inl k,c,e,?_⟩;have q:=x.cell y c e;rw[JaT ndP hp hu (by show scope.names.lookup y≠_;rw[k];decide)] at q;exact q
 ·exact e0.hok.fresh (Kc (x.above y c (KI h)))
 ·unfold U2;show _=N.length;rw[Qv,Qm,GM];omega
def Jqs{CX:CXT}{P:Qz}{w:QT}{K:QE}{mg:Str->Option Qe}{base:Q1}{k:Nat}{f:Qj}{name qual:Str}{params:Arguments}{body:List Kv}{scope:Ra}{dV kV doc pm cdv ct oc:Qe}{an od:Option Qj}
 {osl:Array (Option Qe)} {N ps:List Str} {sp:Sp} (lk:K.lookup f=some ⟨oc,od,.func (fnOf name qual params body scope dV kV doc pm an cdv ct),osl⟩) (hcd:codeIn K cdv qual=true) (S:FnScope N ps scope)
 (len:∀vs H Q E,sp vs H Q E->vs.length=ps.length)
 (hbody:∀(A:QS) (outer:List Env) (s:Qi) (H:Hp) (vs:List V) (Q:VK) (E:XK),Room k (A.deeper (envOfC qual scope s.heap.objs.size f cdv))->sp vs H Q E ->
  ∃t,PSs (Jes CX P w K mg base N qual scope f cdv A outer s H E) body t/\t { nx:=fun _ H'=>Q .non H',rt:=Q } (U2 N vs) H) :
 FnOk P w K mg base CX (k+1) f (fnOf name qual params body scope dV kV doc pm an cdv ct) ps sp:=by
 refine⟨len,fun A outer s H args us vs Q E hr e0 hb r hsp=>?_⟩;have hl:=len _ _ _ _ hsp;have KX:K.In s.heap:=e0.mod.kin.keeps fun b o e=>(e0.bs b o e).1
 have lim:s.heap.NoLimit:=e0.mod.nolimit.keeps fun b o e=>(e0.bs b o e).1
 have hkind:∀y∈ps.zip us,scope.names.lookup y.1=some .local\/(scope.names.lookup y.1=some .cell/\((cellsFrom (s.heap.objs.size+1) scope.names []).lookup y.1).isSome=true):=fun⟨n,v⟩ hy=>by
  rcases S.par n (Lr hy).1 with q|q
  ·exact .inl q
  ·exact .inr ⟨q,RC _ _ _ (.inl q)⟩
 refine codeAny_call_function hr.depth (KX _ _ lk) rfl S.co S.gen rfl (PySem.W.codeRec_of KX hcd) (hb _ _ _ _ ?_);refine wpAny_newFunctionEnv_cells S.kind hkind fun env he s1 x=>?_
 subst he;refine⟨lim.keeps x.toInCall.keep,codeAny_func ?_⟩;obtain⟨t,ht,hq⟩:=hbody A outer s H vs Q E (hr.deeper _) hsp;have I:Inv (Jes CX P w K mg base N qual scope f cdv A outer s H E) [] (U2 N vs) H s1:=Jho S hr.hd e0 hl r x;refine KZ (ht [] s1 (U2 N vs) H _ I hq) (fun fl s' hs=>?_) fun e s' hs=>hs
 have fin:∀{σ':St} {H':Hp} {v:V} {u:Qe},Inv (Jes CX P w K mg base N qual scope f cdv A outer s H E) [] σ' H' s'->RelV v u->Q v H'->CE outer P w H s Q u s' :=
  fun {σ' H' v u} J rv q=>⟨v,H',J.os,J.bare,J.base,J.hok,rv,q⟩
 cases fl with
 | ret u=>obtain⟨v,σ',H',J,rv,q⟩:=hs;exact fin J rv q
 | next=>obtain⟨σ',H',J,q⟩:=hs;exact fin (v:=V.non) (u:=Value.none) J rfl q
 | brk=>obtain⟨_,_,_,q⟩:=hs;exact KE q
 | cont=>obtain⟨_,_,_,q⟩:=hs;exact KE q
section
variable{X:Cx}{x:Str}{p pos:Pos}{e:GA}{es:List GA}{t:TA}{id T:String}{r:List V->Hp->VK->Prop}
noncomputable def tCB(r:List V->Hp->VK->Prop)(t:TA):TE:=fun σ H Q=>t σ H fun vs H1=>r vs H1 Q
def Jr(hc:J0 X (.builtin id) r)(hg:Gl X x)(hm:X.mg x=none)(hv:bootBuiltins x=some (.builtin id))(ha:PA X (e::es) t)(hn:x≠"__name__":=by decide)(hdb:(x == ("__debug__":Str))=false:=by decide)
 (he:starEach (e::es) X.env=(false,eval e X.env)::starEach es X.env:=by rfl) (hpl:(backTo pos (starEach es X.env)).any (·.1)=false:=by rfl):PE X (.Call (.Name x p) (e::es) [] pos) (tCB r t):=by
 intro pins s σ H Q I h;refine Lk (Uv I hg hm hv ?_ hn hdb);exact PyProof.Rows.callWith_builtin1 (thn (ha pos pins s σ H _ I h) fun us s1 ⟨vs,H1,I1,r1,q1⟩=>hc pins s1 σ H1 vs us Q I1 r1 q1) he hpl
def UI(hc:J0 X (.type T) r)(hg:Gl X x)(hm:X.mg x=none)(hv:bootBuiltins x=some (.type T))(ha:PA X (e::es) t)(hn:x≠"__name__":=by decide)(hdb:(x == ("__debug__":Str))=false:=by decide)
 (he:starEach (e::es) X.env=(false,eval e X.env)::starEach es X.env:=by rfl) (hpl:(backTo pos (starEach es X.env)).any (·.1)=false:=by rfl):PE X (.Call (.Name x p) (e::es) [] pos) (tCB r t):=by
 intro pins s σ H Q I h;refine Lk (Uv I hg hm hv ?_ hn hdb);exact GY (thn (ha pos pins s σ H _ I h) fun us s1 ⟨vs,H1,I1,r1,q1⟩=>hc pins s1 σ H1 vs us Q I1 r1 q1) he hpl
end
end L2
namespace HT
open PySem PyProof.Rows
def JiJ(A:QS)(s:Qi)(a:Int)(t:Tok)(c:Int)(u:Tok):∃e,SeqAt.EqAt A s (.int a t) (.int c u) e/\(e=true↔a=c) :=
 ⟨(a == c),SeqAt.EqAt.int_int a t c u,by simp⟩
section
open PySem.SeqAt
open PySem.AutoSeq1 (wpAny_loadPart')
open PySem.MeetsSeq PySem.MeetsSeq2 PySem.MeetsSeq3
end
def JkX(ht:IsTup s.heap t vs.toArray)(hb:IsTup s.heap b ws.toArray)(hv:vs≠[])(h1:ws=[]->Q (.ref t) s)(h2:ws≠[]->Q (.ref s.heap.objs.size) { s with heap:=s.heap.push { cls:=.type "tuple",data:=.seq (vs++ws).toArray } })(hsz:vs.length+ws.length<=Qt):wpAny (model prog w) A (binaryOp .Add (.ref t) (.ref b)) Q E s:=by
 obtain⟨⟨cls,dd,data,sl⟩,ho,hc,n,hd⟩:=id ht;obtain⟨⟨cls2,dd2,data2,sl2⟩,ho2,hc2,n2,hd2⟩:=id hb;simp only at hc hd hc2 hd2;subst hc hd hc2 hd2;have e:vs.toArray++ws.toArray=(vs++ws).toArray:=by simp
 by_cases hw:ws=[]
 ·exact concat_meets ⟨_,ho,rfl⟩ ⟨_,ho2,rfl⟩ noFill_tuple_add seq_tuple_add RE Rq (Rj _ _)
   (tuple_addW1 t b vs.toArray ws.toArray n n2 dd dd2 sl sl2 (by simpa using hv) (by simp[hw])) ⟨ho,ho2,h1 hw⟩
 ·refine concat_meets ⟨_,ho,rfl⟩ ⟨_,ho2,rfl⟩ noFill_tuple_add seq_tuple_add RE Rq (Rj _ _)
   (tuple_addW2 t b vs.toArray ws.toArray n n2 dd dd2 sl sl2 (by simpa using hv) (by simpa using hw) (by rw[Qu,Qu];exact hsz)) ⟨ho,ho2,?_⟩
  rw[e];exact h2 hw
noncomputable def sIx(n d:Nat):Option Int->Nat
 | none=>d
 | some v=>if v<0 then(v+(n:Int)).toNat else min v.toNat n
def JdL(n d:Nat):sIx n d none=d:=rfl
def Jmp(n d k:Nat):sIx n d (some (k:Int))=min k n:=by show(if (k:Int)<0 then((k:Int)+(n:Int)).toNat else min (k:Int).toNat n)=min k n;rw[if_neg (by omega),Gu]
def Jpw(n d:Nat)(hd:d<=n)(o:Option Int):sIx n d o<=n:=by
 cases o with
 | none=>exact hd
 | some v =>
  show(if v<0 then(v+(n:Int)).toNat else min v.toNat n)<=n
  by_cases hv:v<0
  ·rw[if_pos hv];omega
  ·rw[if_neg hv];exact Nat.min_le_right _ _
def JfD(v:Int)(n d:Nat):(if v<0 then max (v+(n:Int)) 0 else min v (n:Int))=((sIx n d (some v):Nat):Int):=by
 show(if v<0 then max (v+(n:Int)) 0 else min v (n:Int))=(((if v<0 then(v+(n:Int)).toNat else min v.toNat n):Nat):Int)
 by_cases hv:v<0
 ·simp only[if_pos hv];omega
 ·simp only[if_neg hv];omega
def Jee(lo hi:Option Int)(n:Nat):LQ lo hi 1 (n:Int)=(((sIx n 0 lo:Nat):Int),((sIx n n hi:Nat):Int)):=by
 have h1:¬((1:Int)<0):=by omega
 unfold LQ;simp only[h1,if_false];refine Mt ?_ ?_
 ·cases lo with
  | none=>rfl
  | some v=>exact JfD v n 0
 ·cases hi with
  | none=>rfl
  | some v=>exact JfD v n n
def Je1(i j:Nat):KQ (i:Int) (j:Int) 1=j-i:=by
 unfold KQ;have h1:(1:Int)>0:=by omega
 simp only[h1,if_true,Int.ediv_one];split <;> omega
def Jaw(p:IsPart v o)(h:Q o s):wpAny (model prog w) A (Builtin.Slice.slicePartIndex v) Q E s:=by
 cases p with
 | none=>exact slicePart_none h
 | int i t=>exact slicePart_int h
def UM{sl:Qj}{vl vu:Qe}{lo hi:Option Int}{n:Nat}{Q:Int×Int×Nat->Qi->Prop}(hs:s.heap.IsSliceOf sl vl vu .none)(pl:IsPart vl lo)(pu:IsPart vu hi)
 (h:Q (((sIx n 0 lo:Nat):Int),1,sIx n n hi-sIx n 0 lo) s):wpAny (model prog w) A (MW (.ref sl) (pure (n:Int))) Q E s:=by
 obtain⟨os,hos,hcs,hds⟩:=id hs;unfold MW Builtin.Slice.sliceFields;refine Qa (Qa (Q5 hos hds (x:=vl) rfl (Qa (Q5 hos hds (x:=vu) rfl (Qa (Q5 hos hds (x:=.none) rfl (Qg ?_)))))));refine Qa (slicePart_none ?_);show wpAny _ _ (if ((1:Int) == 0)=true then _ else _) _ _ s;rw[if_neg (by decide)];refine Qa (Jaw pl (Qa (Jaw pu (Qa (Qg ?_)))))
 show wpAny _ _ (match LQ lo hi 1 (n:Int) with|(lo,hi)=>pure (lo,(1:Int),KQ lo hi 1)) _ _ s;rw[Jee lo hi n]
 show wpAny _ _ (pure (((sIx n 0 lo:Nat):Int),(1:Int),KQ ((sIx n 0 lo:Nat):Int) ((sIx n n hi:Nat):Int) 1)) _ _ s;rw[Je1];exact Qg h
def JjE(xs:Array Qe)(i k:Nat):((Ge k).filterMap fun(m:Nat)=>xs[((i:Int)+(m:Int)*1).toNat]?).toArray=((xs.toList.drop i).take k).toArray:=by
 have e:(fun(m:Nat)=>xs[((i:Int)+(m:Int)*1).toNat]?)=fun m=>xs[i+m]?:=by
  funext m
  have:((i:Int)+(m:Int)*1).toNat=i+m:=by omega
  rw[this]
 rw[e];have:=pick_run xs i k;rw[List.filterMap_map] at this;have e2:((fun x=>xs[x]?) ∘ fun x=>i+x)=fun m=>xs[i+m]?:=rfl
 rw[e2] at this;rw[this]
def Wb{t sl:Qj}{items:Array Qe}{vl vu:Qe}{lo hi:Option Int}{Q:Qe->Qi->Prop}(ht:IsTup s.heap t items)(hs:s.heap.IsSliceOf sl vl vu .none)(pl:IsPart vl lo)(pu:IsPart vu hi)
 (hw:¬(sIx items.size 0 lo=0/\sIx items.size items.size hi=items.size))
 (h:Q (.ref s.heap.objs.size) { s with heap:=s.heap.push { cls:=.type "tuple",data:=.seq ((items.toList.drop (sIx items.size 0 lo)).take (sIx items.size items.size hi-sIx items.size 0 lo)).toArray } })
 (hsz:items.size<=Qt):wpAny (model prog w) A (getItem (.ref t) (.ref sl)) Q E s:=by
 have htake:sizeOk (.seq ((items.toList.drop (sIx items.size 0 lo)).take (sIx items.size items.size hi-sIx items.size 0 lo)).toArray):=by show((items.toList.drop (sIx items.size 0 lo)).take (sIx items.size items.size hi-sIx items.size 0 lo)).toArray.size<=Qt;rw[Qu,LL,K6,QN];omega
 have hj:sIx items.size items.size hi<=items.size:=Jpw _ _ (Qp _) hi;obtain⟨os,hos,hcs,hds⟩:=id hs
 have hTs:s.TypeIs (.ref sl) "slice":=⟨os,hos,hcs⟩
 unfold getItem
 try with_reducible refine GI ?_
 first|refine Qa (Qg ?_)|skip
 refine Qa (wpAny_sequenceKey ht.typeIs (by decide) ?_);refine Qa (QO (name:=GC "__getitem__") ht.typeIs Gx
  (QU Gx ht.typeIs entry_tuple_getitem ?_ (args_tuple_getitem _ _)))
 show wpAny _ _ (MX (.ref t) >>= _) _ _ s;refine Qa (tupleItemsOf_ ht ?_);refine Qa (Md hTs ?_);rw[if_pos (by decide)];refine Qa (UM hs pl pu ?_)
 have hno:¬((((sIx items.size 0 lo:Nat):Int) == 0 && (1:Int) == 1 && (sIx items.size items.size hi-sIx items.size 0 lo) == items.size)=true):=by intro q;rw[Q6,Q6] at q;have q1:((sIx items.size 0 lo:Nat):Int)=0:=eq_of_beq q.1.1;have q2:sIx items.size items.size hi-sIx items.size 0 lo=items.size:=eq_of_beq q.2;exact hw ⟨by omega,by omega⟩
 show wpAny _ _ (if (((sIx items.size 0 lo:Nat):Int) == 0 && (1:Int) == 1 && (sIx items.size items.size hi-sIx items.size 0 lo) == items.size)=true then _ else _) _ _ s;rw[if_neg hno,JjE]
 first
  | exact Qa (m:=K0 _) (QW (Qg ⟨_,rfl,Qg h⟩) htake)
  | exact Qa (m:=K0 _) (QW (Qa (Qg (Qg ⟨_,rfl,Qg h⟩))) htake)
  | exact Qa (Qa (m:=K0 _) (QW (Qg (Qg ⟨_,rfl,Qg h⟩)) htake))
  | exact Qa (Qa (m:=K0 _) (QW (Qg ⟨_,rfl,Qg h⟩) htake))
end HT
namespace L2
open PySem PySem.Spec PyProof.Rows
noncomputable abbrev TO:=St->Hp->(Option Int->Hp->Prop)->Prop
noncomputable def PO(X:Cx)(e:Option GA)(t:TO):Prop :=
 ∀(pins:List (Qj×Obj)) (s:Qi) (σ:St) (H:Hp) (Q:Option Int->Hp->Prop),Inv X pins σ H s->t σ H Q ->
  wpAny (model X.prog X.w) X.A (evalPart e X.env) (fun u s'=>∃o H',Inv X pins σ H' s'/\IsPart u o/\Q o H') X.xe s
noncomputable def JgJ:TO:=fun _ H Q=>Q none H
noncomputable def JnD(t:TE):TO:=fun σ H Q=>t σ H fun x H1=>∃i,x=.int i/\Q (some i) H1
def YR:∀{us:List Qe},Vals (ns.map V.int) us->IntsAre us ns:=by
 induction ns with
 | nil=>intro us r;rw[Ke] at r;cases r;exact .nil
 | cons n ns ih =>
  intro us r;rw[Qf] at r
  cases r with
  | cons r1 r2=>obtain⟨t,e⟩:=r1;subst e;exact .cons n t (ih r2)
section
variable{X:Cx}{e:GA}{te:TE}{lo hi:Option GA}{tl th:TO}{pos p2:Pos}
def Zk:PO X none JgJ:=by intro pins s σ H Q I h;rw[evalPart_none];exact Qg ⟨none,H,I,.none,h⟩
def Zl(h:PE X e te):PO X (some e) (JnD te):=by
 intro pins s σ H Q I hw;rw[evalPart_some];refine thn (h pins s σ H _ I hw) fun u s1 ⟨x,H1,I1,r1,q1⟩=>?_
 obtain⟨i,rfl,q⟩:=q1;obtain⟨t,rfl⟩:=r1;exact⟨some i,H1,I1,.int i t,q⟩
noncomputable def SlR(X:Cx)(r:V->Option Int->Option Int->Hp->VK->Prop):Prop :=
 ∀(pins:List (Qj×Obj)) (s:Qi) (σ:St) (H:Hp) (x:V) (v vl vu:Qe) (lo hi:Option Int) (sl:Qj) (Q:VK),Inv X pins σ H s->RelV x v->s.heap.IsSliceOf sl vl vu .none->IsPart vl lo->IsPart vu hi->r x lo hi H Q ->
  ∃T id,typeLookup (.type T) "__getitem__"=pure (some (.builtin id))/\s.TypeIs v T/\wpAny (model X.prog X.w) X.A (getItem v (.ref sl)) (EP X pins σ Q) X.xe s
def SlR.or(h:SlR X r)(h':SlR X r'):SlR X (fun x lo hi H Q=>r x lo hi H Q\/r' x lo hi H Q):=by
 intro pins s σ H x v vl vu lo hi sl Q I rx hs pl pu q;rcases q with q|q
 ·exact h pins s σ H x v vl vu lo hi sl Q I rx hs pl pu q
 ·exact h' pins s σ H x v vl vu lo hi sl Q I rx hs pl pu q
noncomputable def tSl(r:V->Option Int->Option Int->Hp->VK->Prop)(te:TE)(tl th:TO):TE:=fun σ H Q=>te σ H fun x H1=>tl σ H1 fun l H2=>th σ H2 fun u H3=>r x l u H3 Q
def Wj(hr:SlR X r)(he:PE X e te)(hl:PO X lo tl)(hu:PO X hi th):PE X (.Subscript e (.Slice lo hi none p2) pos) (tSl r te tl th):=by
 intro pins s σ H Q I h;refine Subscript_ (thn (he pins s σ H _ I h) fun v s1 ⟨x,H1,I1,r1,q1⟩=>?_);refine wpAny_Slice (thn (hl pins s1 σ H1 _ I1 q1) fun vl s2 ⟨l,H2,I2,pl,q2⟩=>thn (hu pins s2 σ H2 _ I2 q2) fun vu s3 ⟨u,H3,I3,pu,q3⟩=>?_);rw[evalPart_none];refine Qg ?_;have I4:Inv X pins σ H3 { s3 with heap:=s3.heap.push { cls:=.type "slice",data:=.fields #[vl,vu,.none] } }:=I3.kept (t':=s3.toks) fun b ob q=>Qh _ q
 obtain⟨T,id,hT,ht,hg⟩:=hr pins { s3 with heap:=s3.heap.push { cls:=.type "slice",data:=.fields #[vl,vu,.none] } } σ H3 x v vl vu l u s3.heap.objs.size Q I4 r1 (Heap.IsSliceOf.new ..) pl pu q3;show wpAny (model X.prog X.w) X.A (subscriptTail e (.Slice lo hi none p2) v (.ref s3.heap.objs.size)) (EP X pins σ Q) X.xe { s3 with heap:=s3.heap.push { cls:=.type "slice",data:=.fields #[vl,vu,.none] } };exact tail_any (ops:=[.ref s3.heap.objs.size,v]) ht hT hg (by with_unfolding_all rfl)
noncomputable def JaK(xs:List V)(lo hi:Option Int):List V:=(xs.drop (HT.sIx xs.length 0 lo)).take (HT.sIx xs.length xs.length hi-HT.sIx xs.length 0 lo)
def WU(xs:List V)(lo hi:Option Int):(JaK xs lo hi).length<=xs.length:=by unfold JaK;rw[LL,K6];omega
noncomputable def Jrd(K:QE):V->Option Int->Option Int->Hp->VK->Prop:=fun x lo hi H Q=>∃a xs,x=.ref a/\SqT K H a xs ∧
 ¬(HT.sIx xs.length 0 lo=0/\HT.sIx xs.length xs.length hi=xs.length)/\∀p,H p=none->Q (.ref p) (upd H p (.tup (JaK xs lo hi)))
def sl_tup:SlR X (Jrd X.K):=by
 intro pins s σ H x v vl vu lo hi sl Q I rx hs pl pu h;obtain⟨a,xs,rfl,hx,hw,q⟩:=h;cases rx;obtain⟨its,r,ht,hz⟩:=I.tuple hx;have hlen:its.toArray.size=xs.length:=by rw[Qu];exact r.length.symm
 refine⟨"tuple",_,Gx.lookup,ht.typeIs,?_⟩;refine HT.Wb ht hs pl pu (by rw[hlen];exact hw) ?_ (by rw[hlen];exact hz);rw[hlen];refine⟨.ref s.heap.objs.size,_,I.laid (t':=s.toks) (o:=.tup (JaK xs lo hi)) (fun b ob q=>Qh _ q) (Qp _) ?_,rfl,q _ (I.hok.fresh (Qp _))⟩;exact⟨Gy (WU xs lo hi) hz,_,(r.drop (HT.sIx xs.length 0 lo)).take (HT.sIx xs.length xs.length hi-HT.sIx xs.length 0 lo),IsTup.new _ _⟩
noncomputable def Jnp(K:QE):R2:=fun x y H Q=>∃a b xs ys,x=.ref a/\y=.ref b/\SqT K H a xs/\SqT K H b ys/\xs≠[]/\xs.length+ys.length<=Qt ∧
 (ys=[]->Q (.ref a) H)/\(ys≠[]->∀p,H p=none->Q (.ref p) (upd H p (.tup (xs++ys))))
def Vals.nil_iff(r:Vals xs us):us=[]↔xs=[]:=by
 cases r with
 | nil=>simp
 | cons _ _=>simp
def JlS:OpR X (binaryOp .Add) (Jnp X.K):=by
 intro pins s σ H x y v u Q I rx ry h;obtain⟨a,b,xs,ys,rfl,rfl,ha,hb,hx,hz,q1,q2⟩:=h;cases rx;cases ry;obtain⟨its,r1,p1,_⟩:=I.tuple ha;obtain⟨its2,r2,p2,_⟩:=I.tuple hb;refine HT.JkX p1 p2 (fun z=>hx (r1.nil_iff.mp z)) (fun z=>⟨.ref a,H,I,rfl,q1 (r2.nil_iff.mp z)⟩) (fun z=>?_) (by rw[<- r1.length,<- r2.length];exact hz);refine⟨.ref s.heap.objs.size,_,I.laid (t':=s.toks) (o:=.tup (xs++ys)) (fun b ob q=>Qh _ q) (Qp _) ?_,rfl,q2 (fun w=>z (r2.nil_iff.mpr w)) _ (I.hok.fresh (Qp _))⟩
 exact⟨by rw[Qv];exact hz,_,r1.append r2,IsTup.new _ _⟩
end
noncomputable def ixN(n:Nat)(i:Int):Option Nat:=if 0<=i then(if i<n then some i.toNat else none) else if -(n:Int)<=i then some (i+n).toNat else none
noncomputable def atI{α:Type}(xs:List α)(i:Int):Option α:=(ixN xs.length i).bind fun j=>xs[j]?
def Jlq(h:ixN n i=some j):seqIndex? i n=some j/\j<n/\-(n:Int)<=i/\i<n:=by
 unfold ixN at h
 by_cases h0:0<=i
 ·rw[if_pos h0] at h
  by_cases h1:i<n
  ·rw[if_pos h1] at h;have e:i.toNat=j:=QQ h;exact⟨by rw[seqIndex_of h0 h1,e],by omega,by omega,h1⟩
  ·rw[if_neg h1] at h;cases h
 ·rw[if_neg h0] at h
  by_cases h1:-(n:Int)<=i
  ·rw[if_pos h1] at h;have e:(i+n).toNat=j:=QQ h;exact⟨by rw[seqIndex_neg (by omega) h1,e],by omega,h1,by omega⟩
  ·rw[if_neg h1] at h;cases h
def JbA{α:Type}{xs:List α}{v:α}(h:atI xs i=some v):∃j,seqIndex? i xs.length=some j/\xs[j]?=some v/\j<xs.length/\-(xs.length:Int)<=i/\i<xs.length:=by
 unfold atI at h
 cases e:ixN xs.length i with
 | none=>rw[e] at h;cases h
 | some j=>rw[e] at h;obtain⟨h1,h2,h3,h4⟩:=Jlq e;exact⟨j,h1,h,h2,h3,h4⟩
noncomputable def Jfr(b:GA):Prop:=∀o i,subscripted b false o i=operate [o,i] (getItem o i)
noncomputable def IxR(X:Cx)(r:R2):Prop :=
 ∀(value slice:GA) (pins:List (Qj×Obj)) (s:Qi) (σ:St) (H:Hp) (x y:V) (v u:Qe) (Q:VK),Inv X pins σ H s->RelV x v->RelV y u->r x y H Q ->
  subscripted slice false v u=operate [v,u] (getItem v u)->wpAny (model X.prog X.w) X.A (subscriptTail value slice v u) (EP X pins σ Q) X.xe s
noncomputable def MtR(X:Cx)(id:String)(r:V->List V->Hp->VK->Prop):Prop :=
 ∀(pins:List (Qj×Obj)) (s:Qi) (σ:St) (H:Hp) (x:V) (xs:List V) (v:Qe) (us:List Qe) (Q:VK),Inv X pins σ H s->RelV x v->Vals xs us->r x xs H Q ->
  wpAny (model X.prog X.w) X.A (call (.builtin id) (v::us)) (EP X pins σ Q) X.xe s
section
variable{X:Cx}{a b:GA}{ta tb:TE}{pos:Pos}
def IxR.or(h:IxR X r)(h':IxR X r'):IxR X (fun x y H Q=>r x y H Q\/r' x y H Q):=by
 intro value slice pins s σ H x y v u Q I rx ry q hs;rcases q with q|q
 ·exact h value slice pins s σ H x y v u Q I rx ry q hs
 ·exact h' value slice pins s σ H x y v u Q I rx ry q hs
def JqZ(hr:IxR X r)(ha:PE X a ta)(hb:PE X b tb)(hs:Jfr b):PE X (.Subscript a b pos) (tOp r ta tb):=by intro pins s σ H Q I h;exact Subscript_ (JnK ha hb I h fun v u s2 x y H2 I2 rx ry q=>hr a b pins s2 σ H2 x y v u Q I2 rx ry q (hs _ _))
noncomputable def Jq4(K:QE):R2:=fun x y H Q=>∃p xs i v,x=.ref p/\y=.int i/\SqL K H p xs/\atI xs i=some v/\Q v H
noncomputable def Jq6(K:QE):R2:=fun x y H Q=>∃p xs i v,x=.ref p/\y=.int i/\SqT K H p xs/\atI xs i=some v/\Q v H
noncomputable def Jq5:R2:=fun x y H Q=>∃z i c,x=.str z/\y=.int i/\z.length<=Qt/\atI z.cps.toList i=some c/\Q (.str ⟨#[c]⟩) H
def ix_list:IxR X (Jq4 X.K):=by
 intro value slice pins s σ H x y v u Q I rx ry h hs;obtain⟨p,xs,i,z,rfl,rfl,hq,he,q⟩:=h;cases rx;obtain⟨t,rfl⟩:=ry;obtain⟨its,r,pl,hz⟩:=I.list hq;obtain⟨j,h1,h2,h3,h4,h5⟩:=JbA he;obtain⟨w,ew,rw'⟩:=r.get h2;have hl:=r.length;have hn:=WD;have fin:EP X pins σ Q w s:=⟨z,H,I,rw',q⟩
 by_cases h0:0<=i
 ·have hj:i.toNat=j:=by rw[seqIndex_of h0 h5] at h1;exact QQ h1
  exact item_listR pl.isList h0 (by omega) (by rw[hj];simpa using ew) fin hs
 ·have hj:(i+(its.toArray.size:Int)).toNat=j:=by rw[seqIndex_neg (by omega) h4] at h1;rw[Qu,<- hl];exact QQ h1
  exact subscriptTail_builtinR (x:=w) pl.isList.typeIs slot_list_getitem.lookup
   (wpAny_getItem_list_neg (Q:=fun r s'=>r=w/\EP X pins σ Q r s') pl.isList (by omega) (by rw[Qu] <;> omega) (by omega) (by rw[hj];simpa using ew) ⟨rfl,fin⟩) hs
def ix_tup:IxR X (Jq6 X.K):=by
 intro value slice pins s σ H x y v u Q I rx ry h hs;obtain⟨p,xs,i,z,rfl,rfl,hq,he,q⟩:=h;cases rx;obtain⟨t,rfl⟩:=ry;obtain⟨its,r,pl,hz⟩:=I.tuple hq;obtain⟨j,h1,h2,h3,h4,h5⟩:=JbA he;obtain⟨w,ew,rw'⟩:=r.get h2;have hl:=r.length;have hn:=WD;have fin:EP X pins σ Q w s:=⟨z,H,I,rw',q⟩
 exact subscriptTail_builtinR (x:=w) pl.typeIs slot_tuple_getitem.lookup
  (getItem_tuple (j:=j) (Q:=fun r s'=>r=w/\EP X pins σ Q r s') pl (by omega) (by omega) (by rw[Qu,<- hl];exact h1) (by simpa using ew) ⟨rfl,fin⟩) hs
def Joa:IxR X Jq5:=by
 intro value slice pins s σ H x y v u Q I rx ry h hs;obtain⟨z,i,c,rfl,rfl,hz,he,q⟩:=h;obtain⟨t,rfl⟩:=rx;obtain⟨t',rfl⟩:=ry;obtain⟨j,h1,h2,h3,h4,h5⟩:=JbA he;have hl:z.cps.toList.length=z.length:=by simp[Str.length]
 rw[hl] at h1 h4 h5;have hn:=WD;exact tail_any (typeIs_str s z t) slot_str_getitem.lookup (getItem_str (c:=c) (by
  have e1:decide (i < -(2 ^ 63:Int))=false:=decide_eq_false (by omega)
  have e2:decide (i ≥ 2 ^ 63)=false:=decide_eq_false (by omega);rw[e1,e2,Rk]) (by rw[h1];simpa using h2) ⟨.str ⟨#[c]⟩,H,I.tok _,⟨_,rfl⟩,q⟩) hs
noncomputable def rIx(K:QE):R2:=fun x y H Q=>Jq4 K x y H Q\/Jq6 K x y H Q\/Jq5 x y H Q
def Jn9:IxR X (rIx X.K):=ix_list.or (ix_tup.or Joa)
def JcB(lo hi:Option Int)(n:Nat):(sliceBounds lo hi none n).1=((HT.sIx n 0 lo:Nat):Int)/\(sliceBounds lo hi none n).2.1=((HT.sIx n n hi:Nat):Int)/\(sliceBounds lo hi none n).2.2=1:=by
 refine⟨?_,?_,rfl⟩
 ·cases lo with
  | none=>simp[sliceBounds,HT.sIx]
  | some i =>
   simp only[sliceBounds,HT.sIx,Option.getD_none,show(1:Int)>0 by decide,if_true]
   by_cases h:i<0
   ·simp only[h,if_true] <;> omega
   ·simp only[h,if_false] <;> omega
 ·cases hi with
  | none=>simp[sliceBounds,HT.sIx]
  | some i =>
   simp only[sliceBounds,HT.sIx,Option.getD_none,show(1:Int)>0 by decide,if_true]
   by_cases h:i<0
   ·simp only[h,if_true] <;> omega
   ·simp only[h,if_false] <;> omega
def JaN(its:List Qe)(lo hi:Option Int):slicePick its.toArray lo hi none=((its.drop (HT.sIx its.length 0 lo)).take (HT.sIx its.length its.length hi-HT.sIx its.length 0 lo)).toArray:=by obtain⟨h1,h2,h3⟩:=JcB lo hi its.toArray.size;unfold slicePick;rw[h1,h2,h3];simp only[sliceRange_one,pick_run,Qu] <;> rfl
noncomputable def Jrc(K:QE):V->Option Int->Option Int->Hp->VK->Prop:=fun x lo hi H Q=>∃a xs,x=.ref a/\SqL K H a xs/\∀p,H p=none->Q (.ref p) (upd H p (.lst (JaK xs lo hi)))
def sl_list:SlR X (Jrc X.K):=by
 intro pins s σ H x v vl vu lo hi sl Q I rx hs pl pu h;obtain⟨a,xs,rfl,hx,q⟩:=h;cases rx;obtain⟨its,r,ht,hz⟩:=I.list hx;have hlen:=r.length;refine⟨"list",_,slot_list_getitem.lookup,ht.isList.typeIs,?_⟩;refine wpAny_getItem_list_slice ht.isList hs pl pu .none (by simp) ?_ (by rw[Qu] <;> omega);rw[JaN,<- hlen];refine⟨.ref s.heap.objs.size,_,I.laid (t':=s.toks) (o:=.lst (JaK xs lo hi)) (fun b ob q=>Qh _ q) (Qp _) ?_,rfl,q _ (I.hok.fresh (Qp _))⟩
 exact⟨Gy (WU xs lo hi) hz,_,0,(r.drop (HT.sIx xs.length 0 lo)).take (HT.sIx xs.length xs.length hi-HT.sIx xs.length 0 lo),Qn _ rfl⟩
def JbG:J0 X (.type "list") (fun xs H Q=>∃p ys,xs=[.ref p]/\(SqL X.K H p ys\/SqT X.K H p ys)/\∀l,H l=none->Q (.ref l) (upd H l (.lst ys))):=by
 intro pins s σ H xs us Q I r h;obtain⟨p,ys,rfl,hq,q⟩:=h;obtain⟨u,rfl,rx⟩:=Uo r;cases rx
 have fin:∀(its:List Qe),Vals ys its->ys.length<=Qt->∀(h':Q1) (c':Nat),(∀b o',s.heap.get? b=some o'->h'.get? b=some o') ->
  h'.get? s.heap.objs.size=some { cls:=.type "list",dict:=none,data:=.seq its.toArray c',slots:=#[] }->EP X pins σ Q (.ref s.heap.objs.size) { s with heap:=h' }:=fun its r' hz h' c' kp e =>
  ⟨.ref s.heap.objs.size,_,I.laid (t':=s.toks) kp (Qp _) (show ObjOk X.prog X.w _ h' _ (.lst ys) from⟨hz,its,c',r',e⟩),rfl,q _ (I.hok.fresh (Qp _))⟩
 rcases hq with hq|hq
 ·obtain⟨its,r',pl,hz⟩:=I.list hq;have hlen:=r'.length;obtain⟨o,ho,hc,n,hd⟩:=pl.isList;exact call_list_seq p (.inl rfl) ho hc hd (fun h' c' kp e=>fin its r' hz h' c' kp e) (by simp only[Qu] <;> omega)
 ·obtain⟨its,r',pl,hz⟩:=I.tuple hq;have hlen:=r'.length;obtain⟨o,ho,hc,n,hd⟩:=pl;exact call_list_seq p (.inr rfl) ho hc hd (fun h' c' kp e=>fin its r' hz h' c' kp e) (by simp only[Qu] <;> omega)
def JaJ:J0 X (.type "tuple") (fun xs H Q=>∃p ys,xs=[.ref p]/\((SqL X.K H p ys/\∀l,H l=none->Q (.ref l) (upd H l (.tup ys)))\/(SqT X.K H p ys/\Q (.ref p) H))):=by
 intro pins s σ H xs us Q I r h;obtain⟨p,ys,rfl,h⟩:=h;obtain⟨u,rfl,rx⟩:=Uo r;cases rx;rcases h with ⟨hq,q⟩|⟨hq,q⟩
 ·obtain⟨its,r',pl,hz⟩:=I.list hq;have hlen:=r'.length;refine call_tuple_list pl.isList (fun h' kp=>?_) (by simp only[Qu] <;> omega);have I1:Inv X pins σ H { s with heap:=h' }:=I.kept (t':=s.toks) kp
  have I2:Inv X pins σ (upd H h'.objs.size (.tup ys)) { s with heap:=h'.push { cls:=.type "tuple",data:=.seq its.toArray } } :=
   I1.laid (t':=s.toks) (fun b o e=>Qh _ e) (Qp _) (show ObjOk X.prog X.w _ _ _ (.tup ys) from⟨hz,its,r',IsTup.new _ _⟩)
  exact⟨.ref h'.objs.size,_,I2,rfl,q _ (I1.hok.fresh (Qp _))⟩
 ·obtain⟨its,r',pl,hz⟩:=I.tuple hq;exact call_tuple_same pl ⟨.ref p,H,I,rfl,q⟩
noncomputable def tyV(K:QE)(T:String)(x:V)(H:Hp):Prop:=match x with
 | .str _=>T="str"
 | .int _=>T="int"
 | .ref p=>(T="list"/\∃xs,SqL K H p xs)\/(T="tuple"/\∃o,K.lookup p=some o/\o.cls=.type "tuple"/\o.dict=none) ∨
  (T="dict"/\((∃kvs,H p=some (.dK kvs))\/∃kvs,H p=some (.dT kvs)))\/(T="set"/\∃S n,H p=some (.set S n))
 | _=>False
def JkA{pins:List (Qj×Obj)}{σ:St}{H:Hp}{s:Qi}{T:String}{x:V}{v:Qe}(I:Inv X pins σ H s)(r:RelV x v)(ty:tyV X.K T x H) :
 s.TypeIs v T/\∀a,v=.ref a->∃ob,s.heap.get? a=some ob/\ob.dict=none:=by
 cases x with
 | str z=>obtain⟨t,rfl⟩:=r;cases (show T="str" from ty);exact⟨typeIs_str s z t,fun _ e=>nomatch e⟩
 | int i=>obtain⟨t,rfl⟩:=r;cases (show T="int" from ty);exact⟨typeIs_int s i t,fun _ e=>nomatch e⟩
 | ref p =>
  cases r;rcases ty with ⟨rfl,xs,hq⟩|⟨rfl,o,hk,hc,hd⟩|⟨rfl,hk⟩|⟨rfl,S,n,hk⟩
  ·obtain⟨its,_,pl,_⟩:=I.list hq;refine⟨pl.isList.typeIs,fun a e=>?_⟩;cases e;obtain⟨o,n,e,c,hd,_⟩:=pl;exact⟨o,e,hd⟩
  ·refine⟨⟨o,I.kIn p o hk,hc⟩,fun a e=>?_⟩;cases e;exact⟨o,I.kIn _ o hk,hd⟩
  ·have z:∃o,s.heap.get? p=some o/\o.ExactDict:=by
    rcases hk with ⟨kvs,hk⟩|⟨kvs,hk⟩
    ·obtain⟨_,_,_,_,o,_,_,e,ex,_⟩:=I.hok p _ hk;exact⟨o,e,ex⟩
    ·obtain⟨_,_,_,_,o,_,_,e,ex,_⟩:=I.hok p _ hk;exact⟨o,e,ex⟩
   obtain⟨o,e,ex⟩:=z;refine⟨⟨o,e,ex.1⟩,fun a e2=>?_⟩;cases e2;exact⟨o,e,ex.2.1⟩
  ·obtain⟨o,_,_,_,e,ex,_⟩:=I.hok p _ hk;refine⟨⟨o,e,ex.1⟩,fun a e2=>?_⟩;cases e2;exact⟨o,e,ex.2.1⟩
 | _=>exact KE ty
noncomputable def JpM(K:QE)(T:String)(r:V->List V->Hp->VK->Prop)(to:TE):TE:=fun σ H Q=>to σ H fun x H1=>tyV K T x H1/\r x [] H1 Q
noncomputable def tBM(K:QE)(T:String)(r:V->List V->Hp->VK->Prop)(to:TE)(t:TA):TE:=fun σ H Q=>to σ H fun x H1=>tyV K T x H1/\t σ H1 fun xs H2=>r x xs H2 Q
variable{o e:GA}{es:List GA}{to:TE}{t:TA}{name:Str}{apos cpos:Pos}{T id:String}{r:V->List V->Hp->VK->Prop}
def JoW(pa:PlainAttrs T)(slot:Slot T name id)(hty:typeOf (.builtin id)=pure (.type "method_descriptor"))(hm:MtR X id r)(ho:PE X o to)
 (hbase:attributeBase o name X.env (eval o X.env)=eval o X.env:=by rfl) (hline:(apos.endLine == cpos.line)=true:=by rfl):PE X (.Call (.Attribute o name apos) [] [] cpos) (JpM X.K T r to):=by
 intro pins s σ H Q I h;refine K7 hbase hline (thn (ho pins s σ H _ I h) fun v s1 ⟨x,H1,I1,r1,ty,q1⟩=>?_);obtain⟨h1,h2⟩:=JkA I1 r1 ty;exact⟨T,id,pa,slot,hty,h1,h2,Kj rfl (LX (hm pins s1 σ H1 x [] v [] Q I1 r1 .nil q1))⟩
def JqY(pa:PlainAttrs T)(slot:Slot T name id)(hty:typeOf (.builtin id)=pure (.type "method_descriptor"))(hm:MtR X id r)(ho:PE X o to)(ha:PA X (e::es) t)
 (hbase:attributeBase o name X.env (eval o X.env)=eval o X.env:=by rfl)
 (hfew:((backTo cpos (starEach (e::es) X.env)).all (fun x=>!x.1) && (backToKw cpos (keywordEach [] X.env)).all (fun x=>x.1.isSome)
  && decide ((e::es).length+([]:List R9).length+(if ([]:List R9).isEmpty then 0 else 1)<30))=true:=by rfl)
 (hline:(apos.endLine == cpos.line)=true:=by rfl) (hs:starEach (e::es) X.env=(false,eval e X.env)::starEach es X.env:=by rfl) (hplain:(backTo cpos (starEach es X.env)).any (·.1)=false:=by rfl) :
 PE X (.Call (.Attribute o name apos) (e::es) [] cpos) (tBM X.K T r to t):=by
 intro pins s σ H Q I h;refine wpAny_Call_method_late hbase hfew hline rfl (thn (ho pins s σ H _ I h) fun v s1 ⟨x,H1,I1,r1,ty,q1⟩=>?_);obtain⟨h1,h2⟩:=JkA I1 r1 ty;refine⟨T,id,pa,slot,hty,h1,h2,?_⟩;have hA:=ha cpos pins s1 σ H1 _ I1 q1;rw[hs] at hA ⊢;refine Kj (by show(false || (backTo cpos (starEach es X.env)).any (·.1))=false;rw[hplain] <;> rfl) (Mu ?_);exact thn hA fun us s2 ⟨vs,H2,I2,r2,q2⟩=>hm pins s2 σ H2 x vs v us Q I2 r1 r2 q2
/- xs.append(e),list.index on a module's tuple .. are MtR facts of 06m -/
end
noncomputable def MtM(X:Cx)(id:String)(r:V->List V->Hp->VK->Prop):Prop :=
 ∀(pins:List (Qj×Obj)) (s:Qi) (σ:St) (H:Hp) (x:V) (xs:List V) (v:Qe) (us:List Qe) (Q:VK),Inv X pins σ H s->RelV x v->Vals xs us->r x xs H Q ->
  wpAny (model X.prog X.w) X.A (call (.builtin id) (v::us)) (EP X pins σ Q) X.xe s
theorem Vals.one:∀{x:V} {us:List Qe},Vals [x] us->∃u,us=[u]/\RelV x u
 | _,_,.cons r .nil=>⟨_,rfl,r⟩
theorem Vals.zero:∀{us:List Qe},Vals [] us->us=[]
 | _,.nil=>rfl
def Vals.dropLast(h:Vals xs us):Vals xs.dropLast us.dropLast:=by
 induction h with
 | nil=>exact .nil
 | cons r t ih =>
  cases t with
  | nil=>exact .nil
  | cons q t'=>exact .cons r ih
theorem Vals.eraseIdx:∀{xs:List V} {us:List Qe} (i:Nat),Vals xs us->Vals (xs.eraseIdx i) (us.eraseIdx i)
 | _,_,_,.nil=>.nil
 | _,_,0,.cons _ t=>t
 | _,_,i+1,.cons r t=>.cons r (Vals.eraseIdx i t)
theorem Vals.rep(h:Vals xs us):∀k:Nat,Vals (QM k xs).flatten (QM k us).flatten
 | 0=>.nil
 | k+1=>by rw[GH,GH,KC,KC];exact Vals.append h (Vals.rep h k)
def JeA{α:Type}(l:List α):l.eraseIdx (l.length-1)=l.dropLast:=by
 induction l with
 | nil=>rfl
 | cons a r ih =>
  cases r with
  | nil=>rfl
  | cons b r =>
   have e:(a::b::r).length-1=((b::r).length-1)+1:=by
    have h1:(a::b::r).length=r.length+2:=rfl
    have h2:(b::r).length=r.length+1:=rfl;omega
   rw[e,L8,ih]
   all_goals rfl
theorem Jbe{α:Type}:∀(l:List α) (i:Nat),(l.eraseIdx i).length<=l.length
 | [],_=>Qp _
 | _::_,0=>LH _
 | _::r,i+1=>Nat.succ_le_succ (Jbe r i)
theorem Ja7(its:List Qe):∀(k:Nat) (acc:List Qe),
 Xi (fun x1 x2=>x1++x2) acc.toArray (QM k its.toArray)=(acc++(QM k its).flatten).toArray
 | 0,acc=>by simp
 | k+1,acc=>by
  have e:acc.toArray++its.toArray=(acc++its).toArray:=by simp
  have e2:(acc++its)++(QM k its).flatten=acc++(QM (k+1) its).flatten:=by rw[GH,KC,Q2]
  rw[<- e2,<- Ja7 its k (acc++its),<- e,GH,Gj]
def Inv.lset{its its':List Qe}{f:Array Qe->Array Qe}(I:Inv X pins σ H s)(hH:H l=some (.lst xs))(e:s.heap.get? l=some { cls:=.type "list",data:=.seq its.toArray n })(hf:f its.toArray=its'.toArray)(hv:Vals ys its')(hz:ys.length<=Qt):
 Inv X pins σ (upd H l (.lst ys)) { s with heap:=s.heap.update l (KG f),toks:=t' }:=by
 have q:=PySem.IsL.update e f;rw[hf] at q;refine I.write (x:=l) (e:=l) (by rw[hH];exact trivial) (.inl rfl) (fun b' u hb hu=>(Gb s.heap (KG f) (Q3 hb)).trans hu) ⟨_,q⟩ ?_;exact⟨hz,its',_,hv,q⟩
def Inv.lnew(I:Inv X pins σ H s)(hv:Vals ys its)(hz:ys.length<=Qt):
 Inv X pins σ (upd H s.heap.objs.size (.lst ys)) { s with heap:=s.heap.push { cls:=.type "list",data:=.seq its.toArray },toks:=t' } :=
 I.laid (fun _ _ q=>Qh _ q) (Qp _) ⟨hz,its,0,hv,Qn _ rfl⟩
def Inv.fresh(I:Inv X pins σ H s):H s.heap.objs.size=none:=I.hok.fresh (Qp _)
def Inv.lstM(I:Inv X pins σ H s)(hH:H l=some (.lst xs)):xs.length<=Qt/\∃(its:List Qe) (n:Nat),Vals xs its/\xs.length=its.length/\s.heap.get? l=some { cls:=.type "list",data:=.seq its.toArray n }:=by obtain⟨z,its,n,r,e⟩:=I.hok l _ hH;exact⟨z,its,n,r,r.length,e⟩
def Jds(h:n<=Qt):K1 n=false:=by unfold K1;exact decide_eq_false (by omega)
noncomputable def Wk:V->List V->Hp->VK->Prop:=fun x vs H Q=>∃l xs y,x=.ref l/\vs=[y]/\H l=some (.lst xs)/\xs.length<Qt/\Q .non (upd H l (.lst (xs++[y])))
def J2:MtM X "list.append" Wk:=by intro pins s σ H x vs v us Q I rx rv h;obtain⟨l,xs,y,rfl,rfl,hH,hz,q⟩:=h;cases rx;obtain⟨u,rfl,ru⟩:=rv.one;obtain⟨z,its,n,r,hl,e⟩:=I.lstM hH;refine call_meets F.slot_list_append ⟨_,e,rfl⟩ F.entry_list_append (F.args_list_append_2 _ _) (PySem.list_append l its.toArray n u (by rw[Qu];omega)) ⟨e,?_⟩;refine⟨.non,_,I.lset (its':=its++[u]) hH e (by simp) (r.append (.cons ru .nil)) ?_,rfl,q⟩;rw[Qv,Q0];omega
noncomputable def Jgm:V->List V->Hp->VK->Prop:=fun x vs H Q=>∃l b xs zs,x=.ref l/\vs=[.ref b]/\H l=some (.lst xs)/\H b=some (.lst zs)/\xs.length+zs.length<=Qt/\Q .non (upd H l (.lst (xs++zs)))
def Vy:MtM X "list.extend" Jgm:=by
 intro pins s σ H x vs v us Q I rx rv h;obtain⟨l,b,xs,zs,rfl,rfl,hH,hB,hz,q⟩:=h;cases rx;obtain⟨u,rfl,ru⟩:=rv.one;cases ru;obtain⟨z,its,n,r,hl,e⟩:=I.lstM hH;obtain⟨z2,its2,n2,r2,hl2,e2⟩:=I.lstM hB;have hsz:its.toArray.size+its2.toArray.size<=Qt:=by rw[Qu,Qu];omega
 have hlong:¬(!its.toArray.isEmpty && K1 (its.toArray.size+its2.toArray.size))=true:=by rw[Jds hsz,MY];exact Qx
 refine call_meets F.slot_list_extend ⟨_,e,rfl⟩ F.entry_list_extend (F.args_list_extend_2 _ _)
  (AutoSeq1.list_extend_list_list_0 l its.toArray n b its2.toArray n2 hlong (by rw[Qu];omega) (by omega)) ⟨e,e2,?_⟩
 refine⟨.non,_,I.lset (its':=its++its2) hH e (by simp) (r.append r2) ?_,rfl,q⟩;rw[Qv];omega
noncomputable def Jra:V->List V->Hp->VK->Prop:=fun x vs H Q=>∃l xs y,x=.ref l/\vs=[]/\H l=some (.lst xs)/\xs[xs.length-1]?=some y/\Q y (upd H l (.lst xs.dropLast))
def Jox:MtM X "list.pop" Jra:=by
 intro pins s σ H x vs v us Q I rx rv h;obtain⟨l,xs,y,rfl,rfl,hH,hy,q⟩:=h;cases rx;have hus:=rv.zero;subst hus;obtain⟨z,its,n,r,hl,e⟩:=I.lstM hH;obtain⟨u,hu,ru⟩:=r.get hy
 have hy':its.toArray[its.toArray.size-1]?=some u:=by show its.toArray[its.length-1]?=some u;rw[<- GN,<- hl];exact hu
 refine call_meets F.slot_list_pop ⟨_,e,rfl⟩ F.entry_list_pop (F.args_list_pop_1 _) (MeetsSeq.list_pop_last l its.toArray n u hy' (by rw[Qu];omega)) ⟨e,?_⟩;refine⟨y,_,I.lset (its':=its.dropLast) hH e ?_ r.dropLast ?_,ru,q⟩
 ·show its.toArray.eraseIdxIfInBounds (its.toArray.size-1)=its.dropLast.toArray;rw[Qu,Ml,JeA]
 ·rw[R1];omega
noncomputable def JjS:V->List V->Hp->VK->Prop:=fun x vs H Q=>∃l xs i k y,x=.ref l/\vs=[.int i]/\H l=some (.lst xs)/\-(2 ^ 63)<=i/\i<2 ^ 63/\seqIndex? i xs.length=some k/\xs[k]?=some y/\Q y (upd H l (.lst (xs.eraseIdx k)))
def Jjo:MtM X "list.pop" JjS:=by
 intro pins s σ H x vs v us Q I rx rv h;obtain⟨l,xs,i,k,y,rfl,rfl,hH,h1,h2,hk,hy,q⟩:=h;cases rx;obtain⟨u,rfl,ru⟩:=rv.one;obtain⟨t,rfl⟩:=ru;obtain⟨z,its,n,r,hl,e⟩:=I.lstM hH;obtain⟨w,hw,rw'⟩:=r.get hy;refine call_meets F.slot_list_pop ⟨_,e,rfl⟩ F.entry_list_pop (F.args_list_pop_2 _ _)
  (MeetsSeq.list_pop_at l its.toArray n i t k w (fitsIndex_both h1 h2) (by rw[Qu,<- hl];exact hk) (by rw[<- GN];exact hw) (by rw[Qu];omega)) ⟨e,?_⟩
 refine⟨y,_,I.lset (its':=its.eraseIdx k) hH e ?_ (r.eraseIdx k) ?_,rw',q⟩
 ·show its.toArray.eraseIdxIfInBounds k=(its.eraseIdx k).toArray;rw[Ml]
 ·have:=Jbe xs k;omega
noncomputable def Jq1:R2:=fun x y H Q=>∃l b xs zs,x=.ref l/\y=.ref b/\H l=some (.lst xs)/\H b=some (.lst zs)/\xs.length+zs.length<=Qt/\∀p,H p=none->Q (.ref p) (upd H p (.lst (xs++zs)))
def JoL:OpR X (binaryOp .Add) Jq1:=by
 intro pins s σ H x y v u Q I rx ry h;obtain⟨l,b,xs,zs,rfl,rfl,hH,hB,hz,q⟩:=h;cases rx;cases ry;obtain⟨z,its,n,r,hl,e⟩:=I.lstM hH;obtain⟨z2,its2,n2,r2,hl2,e2⟩:=I.lstM hB;refine PySem.P.add_list e e2 ?_ (by rw[Qu,Qu];omega);have ea:its.toArray++its2.toArray=(its++its2).toArray:=by simp
 rw[ea];exact⟨.ref _,_,I.lnew (t':=s.toks) (r.append r2) (by rw[Qv];omega),rfl,q _ I.fresh⟩
noncomputable def Jrb:R2:=fun x y H Q=>∃l k xs,x=.ref l/\y=.int k/\H l=some (.lst xs)/\-(2 ^ 63)<=k/\k<2 ^ 63/\xs.length*k.toNat<=Qt ∧
 ∀p,H p=none->Q (.ref p) (upd H p (.lst (QM k.toNat xs).flatten))
def Jlt{α:Type}(xs:List α)(k:Nat):(QM k xs).flatten.length=k*xs.length:=by
 induction k with
 | zero=>simp
 | succ k ih=>rw[GH,KC,Qv,ih,Nat.succ_mul,Nat.add_comm]
def Je0:OpR X (binaryOp .Mult) Jrb:=by
 intro pins s σ H x y v u Q I rx ry h;obtain⟨l,k,xs,rfl,rfl,hH,h1,h2,hz,q⟩:=h;cases rx;obtain⟨t,rfl⟩:=ry;obtain⟨z,its,n,r,hl,e⟩:=I.lstM hH;have hlen:its.toArray.size*k.toNat<=Qt:=by rw[Qu,<- hl];exact hz
 have hcap:¬its.toArray.size*k.toNat>(2 ^ 63-1) / 8:=by
  have:(Qt:Nat)<=(2 ^ 63-1) / 8:=by decide
  omega
 have hfit:¬(!Builtin.List.listFitsIndex k)=true:=by rw[fitsIndex_both h1 h2];exact Qx
 have hlong:¬K1 (its.toArray.size*k.toNat)=true:=by rw[Jds hlen];exact Qx
 have hnew:Xi (fun x1 x2=>x1++x2) #[] (QM (if its.toArray.isEmpty=true then 0 else k.toNat) its.toArray)=(QM k.toNat its).flatten.toArray:=by
  have f0:∀m:Nat,Xi (fun x1 x2=>x1++x2) #[] (QM m its.toArray)=(QM m its).flatten.toArray:=fun m=>by have:=Ja7 its m [];rw[Gk] at this;exact this
  rw[f0]
  cases its with
  | nil=>simp
  | cons a r'=>rw[if_neg (by simp)]
 refine wpAny_binaryOp_repeat_ref (T:="list") (U:="int") (by decide) ⟨_,e,rfl⟩ (fun s'=>typeIs_int s' k t) noFill_list_mul F.fills_int_mul F.slot_int_rmul repeat_list F.slot_int_index.lookup
  (call_meets F.slot_int_rmul (typeIs_int s k t) F.entry_int_rmul (F.args_int_rmul_2 _ _) (int___rmul___int_list k t l its.toArray n)
   ⟨e,rfl,⟨_,e,rfl⟩,call_meets F.slot_list_mul ⟨_,e,rfl⟩ F.entry_list_mul (F.args_list_mul_2 _ _) (AutoListH.list___mul___list_int_3 l its.toArray n k t hfit hcap hlong) ⟨e,?_⟩⟩)
 rw[hnew];exact⟨.ref _,_,I.lnew (t':=s.toks) (r.rep k.toNat) (by rw[Jlt,Nat.mul_comm];exact hz),rfl,q _ I.fresh⟩
end L2
namespace Att
open PySem PySem.W PySem.Calls PyProof.Rows
def W7:∀(ns:List Int) (vs:List Qe),WellAll P h vs (ns.map WData.int)->IntsAre vs ns:=by
 intro ns
 induction ns with
 | nil=>intro vs w;rw[Ke] at w;cases w;exact .nil
 | cons n ns ih =>
  intro vs w;rw[Qf] at w
  cases w with
  | cons a b=>cases a;exact .cons _ _ (ih _ b)
def JhT{l:OpenLaw}(hn:l.most=some n){h:Q1}(hpre:l.row.toRowW.claim.pre args=true)(hwl:WellAll P h vals args):
 ∃a vs ns,vals=[Value.ref a]/\args=[WData.list (ns.map WData.int)]/\h.get? a=some { cls:=.type "list",data:=.seq vs.toArray }/\IntsAre vs ns/\ns.length<=n:=by
 have hsh:WShape.hasAll [] args [.list .int]=true:=(pre_splitW hpre).1
 have hc:l.pre.holds [] { args:=args }=true:=(pre_splitW hpre).2;obtain⟨d,r,rfl,h1,h2⟩:=hasAllW_cons hsh;obtain rfl:=hasAllW_nil h2;obtain⟨xs,rfl,h3⟩:=hasW_list h1;obtain⟨ns,rfl⟩:=items_int h3
 have hlen:ns.length<=n:=by
  unfold OpenLaw.pre at hc
  have h4:(WTm.not (.lt (.lit (.int (n:Int))) (.len (.arg 0)))).holds [] { args:=[.list (ns.map .int)] }=true:=by have h4:=(holds_andW hc).1;rw[hn] at h4;exact h4
  have h5:=condW_of h4 (w_not (w_lt w_lit (w_len_list (w_arg rfl))));rw[Qm] at h5;refine Nat.le_of_not_lt fun q=>?_
  have q':(n:Int)<((ns.length:Nat):Int):=by omega
  first
   | (rw[decide_eq_true q'] at h5;exact absurd h5 (by decide))
   | (simp at h5;omega)
 cases hwl with
 | cons w1 w2 =>
  cases w2
  cases w1 with
  | list ho hall=>exact⟨_,_,ns,rfl,rfl,ho,W7 ns _ hall,hlen⟩
def JhL(l:OpenLaw)(args:List WData):l.row.toRowW.claim.post args (.bool true) args=true :=
 postW_of (r:=l.row.toRowW) (X:=(true == true))
  (show WShape.has [] (.bool true) .bool=true by first|rfl|decide|simp[WShape.has,WShape.arms,WShape.armsAll])
  (show(WTm.eq .res (.lit (.bool true))).value [] { args:=args,res:=some (.bool true),after:=args }=some (.bool (true == true)) from w_eq_bool (w_res rfl) w_lit) rfl
def attach_call{l:OpenLaw}{XP:(Str->Option Qe)->Q1->Prop}{YP:QT->Q1->Prop}{d:DefRec}(hn:l.most=some n)(hdf:d.params.defaults=[])(call:∀(w:QT) (s₀ s₁:Qi) (mg mb:Str->Option Qe) (fa:Qj) (o:Obj) (pm cd doc:Qe) (a:Qj) (vs:List Qe) (ns:List Int),
  Ground q loose [] XP w s₀ mg mb s₁.heap->YP w s₁.heap ->
  s₁.heap.get? fa=some o->o.data=.func (docDef d.name d.params d.body d.scope pm cd doc)->s₁.heap.CodeRec cd d.name->mg d.name=some (.ref fa) ->
  s₁.heap.get? a=some { cls:=.type "list",data:=.seq vs.toArray }->IntsAre vs ns->ns.length<=n->s₁.gens=#[] ->
  codeAny (model l.prog w) callerA (.call (.ref fa) ⟨[.ref a],[]⟩) (fun r s'=>r=.ok (.ret (.bool true))/\OldK s₁.heap s'.heap/\s'.os=s₁.os/\AllBare s'.gens) s₁):
 WalkO q loose XP YP l.row.toRowW d [] (fun f vs=>PySem.call f vs):=by
 intro w s₀ s₁ mg mb G Y fa o pm cd doc dV kV ho hd hcd hD hmg hg args vals as hpre hlay hrd hwl hlo;obtain rfl:dV=.none:=Dflts.none hD hdf;obtain rfl:kV=.none:=Dflts.noKw hD;obtain⟨a,vs,ns,rfl,rfl,hobj,hints,hlen⟩:=JhT hn hpre hwl;refine enter_call (Lj (call w s₀ s₁ mg mb fa o pm cd doc a vs ns G Y ho (fd_plain hd) hcd hmg hobj hints hlen hg) fun r s' hq=>?_);obtain⟨rfl,h2,h3,h4⟩:=hq;exact⟨.inl ⟨.bool true,.bool true,[],rfl,fun _=>rfl,.bool true,JhL l _,fun _=>⟨List.Pairwise.nil,fun _ hm=>(nomatch hm)⟩⟩,h2,h3,h4⟩
end Att
namespace L2
open PySem PySem.Spec PyProof.Rows
theorem Jbr:∀{vs:List Qe} {ns:List Int},IntsAre vs ns->Vals (ns.map V.int) vs
 | _,_,.nil=>.nil
 | _,_,.cons n t h=>.cons ⟨t,rfl⟩ (Jbr h)
noncomputable def JnI(H:Hp):Prop:=∀b,H b=none\/∃o xs,H b=some (.frz o (.lst xs))
def Jjb{K:QE}{mg mb:Str->Option Qe}{s₁:Qi}{vs:List Qe}{ns:List Int}(KX:K.In s₁.heap)(hns:s₁.heap.Ns mainGlobals mg)(hb:s₁.heap.Ns builtinsNs mb)(hbb:∀x:Str,x≠"__name__"->mb x=bootBuiltins x)(hlim:s₁.heap.NoLimit)(hg:s₁.gens=#[])(ha:s₁.heap.get? a=some { cls:=.type "list",data:=.seq vs.toArray })(hi:IntsAre vs ns)(hl:ns.length<=Qt)(hr:Room k callerA)(F:∀base:Q1,K.In base->base.Ns mainGlobals mg->FnOk P w K mg base CX k fa fd [x] sp)(hbind:∀(s:Qi) (u:Qe),BindsTo s fd ⟨[u],[]⟩ [(x,u)])(hsp:∀H:Hp,JnI H->SqL K H a (ns.map V.int)->sp [.ref a] H (fun v _=>v=.bl true) fun _ _ _=>False)(hCX:∀H e s',CX [] H s₁ (fun _ _ _=>False) e s'->False):
 codeAny (model P w) callerA (.call (.ref fa) ⟨[.ref a],[]⟩) (fun r s'=>r=.ok (.ret (.bool true))/\OldK s₁.heap s'.heap/\s'.os=s₁.os/\AllBare s'.gens) s₁:=by
 have rv:=Jbr hi
 have lenV:=hi.length
 -- from an abstract heap in which nothing but the script may be tracked
 have core:∀H:Hp,JnI H->SqL K H a (ns.map V.int)->HOk P w H s₁.heap->(∀b,H b≠none->b=a)->(H a≠none->K.lookup a=none) ->
  codeAny (model P w) callerA (.call (.ref fa) ⟨[.ref a],[]⟩) (fun r s'=>r=.ok (.ret (.bool true))/\OldK s₁.heap s'.heap/\s'.os=s₁.os/\AllBare s'.gens) s₁:=by
  intro H hO hS hok hA hK;have base_of:∀{b:Qj} {o:Obj},s₁.heap.get? b=some o->H b=none->(Jb1 s₁.heap H).get? b=some o:=fun e n=>Ji4 e n
  have noA:∀{b:Qj} {o:Obj} {es:Array DictEntry} {ep:Nat},s₁.heap.get? b=some o->o.data=.dict es ep->H b=none:=fun {b o es ep} e d=>by
   cases q:H b with
   | none=>rfl
   | some u =>
    have e':b=a:=hA b (by rw[q];simp);subst e';rw[ha] at e;cases e
    have d':Data.seq vs.toArray _=Data.dict es ep:=d;cases d'
  have nsK:∀{b:Qj} {m:Str->Option Qe},s₁.heap.Ns b m->(Jb1 s₁.heap H).Ns b m:=fun {b m} ⟨o,es,ep,e,d,r⟩=>⟨o,es,ep,base_of e (noA e d),d,r⟩
  have hKb:K.In (Jb1 s₁.heap H):=fun b o e=>base_of (KX b o e) (by
   cases q:H b with
   | none=>rfl
   | some u=>have e':b=a:=hA b (by rw[q];simp);subst e';rw[hK (by rw[q];simp)] at e;cases e)
  have hM:Mod K mg (Jb1 s₁.heap H):=⟨hKb,nsK hns,⟨mb,nsK hb,hbb⟩,let ⟨mc,h1,h2⟩:=hlim;⟨mc,nsK h1,h2⟩⟩
  have e0:Env0 P w K mg (Jb1 s₁.heap H) callerA [] s₁ H:=⟨rfl,hM,fun b o e=>JlP e,RB (Jhl _ _),trivial,fun b hb=>absurd (show b∈([]:List Qj) from hb) (by simp),hok,.of_eq hg⟩
  refine Lj ((F _ hKb (nsK hns)).run callerA [] s₁ H ⟨[.ref a],[]⟩ [.ref a] [.ref a] _ _ hr e0 (hbind s₁ (.ref a)) (.cons rfl .nil) (hsp H hO hS)) fun r s' h=>?_
  cases r with
  | error e=>exact(hCX H e s' h).elim
  | ok fl =>
   cases fl with
   | next=>exact KE h
   | brk=>exact KE h
   | cont=>exact KE h
   | ret u =>
    obtain⟨v,H',os,bare,un,hok',r',q⟩:=h;have q':v=.bl true:=q;subst q';obtain rfl:u=Value.bool true:=r';refine⟨rfl,OldK.of_keep fun b o e=>?_,os,bare⟩
    cases q:H b with
    | none=>exact un.keep b o e q (by intro z;exact absurd (show b∈([]:List Qj) from z) (by simp)) (by simp)
    | some u =>
     rcases hO b with z|⟨ob,xs,z⟩
     ·rw[q] at z;cases z
     ·have z2:=un.frzs b ob _ z;obtain⟨e1,_⟩:=hok b _ z;obtain⟨e2,_⟩:=hok' b _ z2;rw[e] at e1;cases e1;exact e2
 cases hk:K.lookup a with
 | some o =>
  -- the script is one of the module's own objects
  have e:=KX a o hk;rw[ha] at e;cases e;refine core (fun _=>none) (fun _=>.inl rfl) (.inr ⟨_,vs.toArray,_,hk,rfl,rfl,rfl,by rw[Qu,lenV];exact hl,by simpa using rv⟩) (fun b u z=>by have z':(none:Option HO)=some u:=z;cases z') (fun b z=>absurd rfl z) fun z=>absurd rfl z
 | none =>
  refine core (fun b=>if b=a then some (.frz { cls:=.type "list",data:=.seq vs.toArray } (.lst (ns.map V.int))) else none) (fun b=>?_) (.inl (.inr ⟨{ cls:=.type "list",data:=.seq vs.toArray },if_pos rfl⟩)) (fun b u z=>?_) (fun b z=>?_) fun _=>hk
  ·by_cases hb:b=a
   ·exact .inr ⟨_,_,if_pos hb⟩
   ·exact .inl (if_neg hb)
  ·by_cases hb:b=a
   ·have z':=(if_pos hb).symm.trans z;cases z';subst hb;exact⟨ha,by rw[Qm];exact hl,vs,_,rv,ha⟩
   ·have z':=(if_neg hb).symm.trans z;cases z'
  ·by_cases hb:b=a
   ·exact hb
   ·exact absurd (if_neg hb) z
def JmO{l:PySem.W.OpenLaw}{n k:Nat}{q:Qz}{loose:List Str}{XP:(Str->Option Qe)->Q1->Prop}{YP:QT->Q1->Prop}{d:DefRec}{K:Params->QE}{CX:QT->CXT}{sp:QT->Sp}{x:Str}
 (hn:l.most=some n) (hn2:n<=Qt) (hdf:d.params.defaults=[]) (hr:Room k callerA)
 (hY:∀(w:QT) (h:Q1),YP w h->(K w.params).In h)
 (F:∀(w:QT) (mg:Str->Option Qe) (fa:Qj) (h:Q1),(K w.params).In h->h.Ns mainGlobals mg->mg d.name=some (.ref fa) ->
  ∃fd:Q4,(∀(s:Qi) (u:Qe),BindsTo s fd ⟨[u],[]⟩ [(x,u)]) ∧
   ∀base:Q1,(K w.params).In base->base.Ns mainGlobals mg->FnOk l.prog w (K w.params) mg base (CX w) k fa fd [x] (sp w))
 (hsp:∀(w:QT) (H:Hp) (a:Qj) (ns:List Int),ns.length<=n->JnI H->SqL (K w.params) H a (ns.map V.int)->sp w [.ref a] H (fun v _=>v=.bl true) fun _ _ _=>False)
 (hCX:∀(w:QT) (H:Hp) (s:Qi) (e:Qe) (s':Qi),CX w [] H s (fun _ _ _=>False) e s'->False) :
 PySem.W.WalkO q loose XP YP l.row.toRowW d [] (fun f vs=>PySem.call f vs):=by
 refine Att.attach_call hn hdf fun w s₀ s₁ mg mb fa o pm cd doc a vs ns G Y ho hd hcd hmg hobj hints hlen hg=>?_
 have KX:=hY w _ Y;obtain⟨fd,hb,hF⟩:=F w mg fa _ KX G.T.g hmg;exact Jjb KX G.T.g G.T.b G.T.builtins G.T.nolimit hg hobj hints (Gy hlen hn2) hr hF hb (fun H hO hS=>hsp w H a ns hlen hO hS) fun H e s'=>hCX w H s₁ e s'
noncomputable def Jlp(s:Kv)(j:Nat):Kv:=match s with
 | .ClassDef _ _ _ body _ _ _ _ _ _ _=>body.getD j (.Pass ⟨0,0,0,0⟩)
 | _=>.Pass ⟨0,0,0,0⟩
noncomputable def US(s:Kv):Arguments:=match s with
 | .FunctionDef _ a _ _ _ _ _ _ _ _=>a
 | _=>{ posonlyargs:=[],args:=[],vararg:=none,kwonlyargs:=[],kw_defaults:=[],kwarg:=none,defaults:=[] }
noncomputable def Y7(s:Kv):List Kv:=match s with
 | .FunctionDef _ _ b _ _ _ _ _ _ _=>b
 | _=>[]
noncomputable def Jk(s:Kv):Ra:=match s with
 | .FunctionDef _ _ _ _ _ _ sc _ _ _=>sc
 | _=>{ kind:=.function,names:=[],isGenerator:=false,isCoroutine:=false }
noncomputable abbrev CX0:CXT:=fun _ _ _ _ _ _=>False
noncomputable abbrev E0:XK:=fun _ _ _=>False
def Jnm:Zs CX0 X E0:=fun _ _ _ _ _ _ _ h=>h.elim
structure Fun (K:QE) (x qual:Str) (st:Kv) (f:Qj) (fd:Q4):Prop where
 ex:∃(oc:Qe) (od:Option Qj) (kV doc pm:Qe) (an:Option Qj) (cdv ct:Qe) (osl:Array (Option Qe)),
  fd=fnOf x qual (US st) (Y7 st) (Jk st) .none kV doc pm an cdv ct/\K.lookup f=some ⟨oc,od,.func fd,osl⟩/\codeIn K cdv qual=true
 kp:keepIn K (.ref f)=true
section
variable{P:Qz}{w:QT}{K:QE}{mg:Str->Option Qe}{base:Q1}
def Fun.ok{x qual:Str}{st:Kv}{f:Qj}{fd:Q4}{N ps:List Str}{k:Nat}{sp:Sp}(F:Fun K x qual st f fd)(S:FnScope N ps (Jk st))(len:∀vs H Q E,sp vs H Q E->vs.length=ps.length)
 (hbody:∀(cdv:Qe) (A:QS) (outer:List Env) (s:Qi) (H:Hp) (vs:List V) (Q:VK) (E:XK),Room k (A.deeper (envOfC qual (Jk st) s.heap.objs.size f cdv))->sp vs H Q E ->
  ∃t,PSs (Jes CX0 P w K mg base N qual (Jk st) f cdv A outer s H E).nox (Y7 st) t/\t { nx:=fun _ H'=>Q .non H',rt:=Q } (U2 N vs) H):FnOk P w K mg base CX0 (k+1) f fd ps sp:=by
 obtain⟨oc,od,kV,doc,pm,an,cdv,ct,osl,rfl,lk,hcd⟩:=F.ex;refine Jqs lk hcd S len fun A outer s H vs Q E hr hsp=>?_
 obtain⟨t,h,q⟩:=hbody cdv A outer s H vs Q E hr hsp;exact⟨t,h.nox,q⟩
def Fun.binds{x qual:Str}{st:Kv}{f:Qj}{fd:Q4}{ps:List Str}(F:Fun K x qual st f fd)
 (h:∀(kV doc pm:Qe) (an:Option Qj) (cdv ct:Qe) (us:List Qe),us.length=ps.length->bindArgs (fnOf x qual (US st) (Y7 st) (Jk st) .none kV doc pm an cdv ct) ⟨us,[]⟩=pure (ps.zip us)):Binds K fd ps []:=by
 obtain⟨oc,od,kV,doc,pm,an,cdv,ct,osl,rfl,lk,hcd⟩:=F.ex;exact .all (h kV doc pm an cdv ct)
def JiV{x qual:Str}{st:Kv}{f:Qj}{oc:Qe}{od an:Option Qj}{osl:Array (Option Qe)}{kV doc pm cdv ct:Qe}(l:K.lookup f=some ⟨oc,od,.func (fnOf x qual (US st) (Y7 st) (Jk st) .none kV doc pm an cdv ct),osl⟩)
 (c:codeIn K cdv qual=true) (k:keepIn K (.ref f)=true):Fun K x qual st f (fnOf x qual (US st) (Y7 st) (Jk st) .none kV doc pm an cdv ct):=⟨⟨oc,od,kV,doc,pm,an,cdv,ct,osl,rfl,l,c⟩,k⟩
end
def U9(hr:Room k A):A.units+1<cLine:=Kn (Nat.add_le_add_left (by decide:1<=64) _) hr.units
def JhV(h:n<=1000):n<Qt:=Kn h (by decide)
def pv(i:Nat){x:Str}{pos:Pos}(hN:X.N[i]?=some x:=by rfl)(hv:Vis X.env.scope x:=by first | exact Or.inl rfl | exact Or.inr (.inl rfl) | exact Or.inr (.inr rfl))(hd:(x == ("__debug__":Str))=false:=by decide)
 (hcd:(x == ("__classdict__":Str))=false:=by decide):PE X (.Name x pos) (V2 i):=JoY hN hv hd hcd
noncomputable def Same(H H':Hp):Prop:=∀b o,H b=some o->H' b=some o
def Same.refl(H:Hp):Same H H:=fun _ _ h=>h
def Same.trans(a:Same H H1)(b:Same H1 H2):Same H H2:=fun c o h=>b c o (a c o h)
def Same.free(e:Same H H')(h:H' l=Option.none):H l=Option.none:=by
 cases q:H l with
 | none=>rfl
 | some o=>rw[e l o q] at h;cases h
def Same.seq{K:QE}{H H':Hp}{a:Qj}{xs:List V}(e:Same H H')(h:SqL K H a xs):SqL K H' a xs:=by
 rcases h with (h|⟨o,h⟩)|h
 ·exact .inl (.inl (e _ _ h))
 ·exact .inl (.inr ⟨o,e _ _ h⟩)
 ·exact .inr h
section
variable{κ:Type}[DecidableEq κ]
noncomputable def Um(kvs:List (κ×V))(k:κ):Option V:=(kvs.find? fun kv=>decide (kv.1=k)).map (·.2)
noncomputable def UJ(kvs:List (κ×V))(k:κ)(v:V):List (κ×V) :=
 if (kvs.any fun kv=>decide (kv.1=k))=true then kvs.map (fun kv=>if kv.1=k then(kv.1,v) else kv) else kvs++[(k,v)]
def Vq{p:κ×V}{r:List (κ×V)}{k:κ}(e:p.1=k):Um (p::r) k=some p.2:=by simp[Um,Ls,e]
def Vp{p:κ×V}{r:List (κ×V)}{k:κ}(e:¬p.1=k):Um (p::r) k=Um r k:=by simp[Um,Ls,e]
theorem JaD(k:κ):∀kvs:List (κ×V),(kvs.any fun kv=>decide (kv.1=k))=(Um kvs k).isSome
 | []=>rfl
 | p::r=>by
  rw[Km]
  by_cases e:p.1=k
  ·simp only[Vq e,decide_eq_true e,Xq,Option.isSome_some]
  ·rw[Vp e,decide_eq_false e,KL];exact JaD k r
def Va(kvs:List (κ×V))(k:κ)(v:V):(UJ kvs k v).length<=kvs.length+1:=by
 unfold UJ;split
 ·rw[Qm];omega
 ·rw[Qv,Qr,GS];omega
def JjK{kvs:List (κ×V)}{k:κ}(v:V)(h:Um kvs k=none):UJ kvs k v=kvs++[(k,v)]:=by unfold UJ;rw[JaD,h];exact if_neg (by decide)
def RelO.isSome_eq(r:RelO o u):o.isSome=u.isSome:=by
 cases o with
 | none=>cases u with
  | none=>rfl
  | some _=>exact(show False from r).elim
 | some _=>cases u with
  | none=>exact(show False from r).elim
  | some _=>rfl
def RelO.getD(r:RelO o u)(rd:RelV d d'):RelV (o.getD d) (u.getD d'):=by
 cases o with
 | none=>cases u with
  | none=>exact rd
  | some _=>exact(show False from r).elim
 | some _=>cases u with
  | none=>exact(show False from r).elim
  | some _=>exact r
def KV.val{kvs:List (κ×V)}{vs:List (κ×Qe)}(r:KV kvs vs)(k:κ):RelO (Um kvs k) (valueAt vs k):=by
 unfold KV at r
 induction r with
 | nil=>exact True.intro
 | @cons p q ps qs h t ih =>
  obtain⟨h1,h2⟩:=h
  by_cases e:p.1=k
  ·have e':q.1=k:=h1.symm.trans e
   have b:valueAt (q::qs) k=some q.2:=by simp[valueAt,Ls,e']
   rw[Vq e,b];exact h2
  ·have e':¬q.1=k:=fun z=>e (h1.trans z)
   have b:valueAt (q::qs) k=valueAt qs k:=by simp[valueAt,Ls,e']
   rw[Vp e,b];exact ih
def KV.any{kvs:List (κ×V)}{vs:List (κ×Qe)}(r:KV kvs vs)(k:κ):(kvs.any fun kv=>decide (kv.1=k))=vs.any fun kv=>decide (kv.1=k):=by
 unfold KV at r
 induction r with
 | nil=>rfl
 | cons h t ih=>rw[Km,Km,ih,h.1]
def KV.repl{kvs:List (κ×V)}{vs:List (κ×Qe)}(r:KV kvs vs)(k:κ){y:V}{u:Qe}(ry:RelV y u) :
 KV (kvs.map fun kv=>if kv.1=k then(kv.1,y) else kv) (vs.map fun kv=>if kv.1=k then(kv.1,u) else kv):=by
 unfold KV at r ⊢
 induction r with
 | nil=>exact .nil
 | @cons p q ps qs h t ih =>
  rw[Qf,Qf];refine .cons ?_ ih;obtain⟨h1,h2⟩:=h
  by_cases e:p.1=k
  ·rw[if_pos e,if_pos (h1.symm.trans e)];exact⟨h1,ry⟩
  ·rw[if_neg e,if_neg (fun z=>e (h1.trans z))];exact⟨h1,h2⟩
def KV.put{kvs:List (κ×V)}{vs:List (κ×Qe)}(r:KV kvs vs)(k:κ){y:V}{u:Qe}(ry:RelV y u):KV (UJ kvs k y) (stored vs k u):=by
 unfold UJ stored;rw[r.any k]
 by_cases e:(vs.any fun kv=>decide (kv.1=k))=true
 ·rw[if_pos e,if_pos e];exact r.repl k ry
 ·rw[if_neg e,if_neg e];exact Paired.snoc r ⟨rfl,ry⟩
def KV.length{kvs:List (κ×V)}{vs:List (κ×Qe)}(r:KV kvs vs):kvs.length=vs.length:=Rg r
end
def Jdf(r:RelV (kV k) u):(JH P w).is k u=true:=by
 cases k with
 | inl i=>obtain⟨t,e⟩:=(show ∃t,u=Value.int i t from r);subst e;exact Jdp P w i t
 | inr x=>obtain⟨t,e⟩:=(show ∃t,u=Value.str x t from r);subst e;exact Jdq P w x t
theorem WA:∀{ks:List Key} {us:List Qe},Vals (ks.map kV) us->ItemsAre (JH P w) ks us
 | [],_,r=>by rw[Ke] at r;cases r;exact .nil
 | k::ks,_,r=>by
  rw[Qf] at r
  cases r with
  | cons h t=>exact .cons (Jdf h) (WA t)
noncomputable abbrev KT(H:Hp):List (List Key×V)->List (List Key×Qj×Qe)->Prop:=Paired fun p q=>p.1=q.1/\H q.2.1=some (.tup (p.1.map kV))/\RelV p.2 q.2.2
def KT.val(r:KT H kvs xs)(k:List Key):RelO (Um kvs k) ((atKey xs k).map (·.2)):=by
 induction r with
 | nil=>exact True.intro
 | @cons p q ps qs h t ih =>
  obtain⟨h1,_,h2⟩:=h
  by_cases e:p.1=k
  ·have e':q.1=k:=h1.symm.trans e
   have b:atKey (q::qs) k=some q.2:=by simp[atKey,Ls,e']
   rw[Vq e,b];exact h2
  ·have e':¬q.1=k:=fun z=>e (h1.trans z)
   have b:atKey (q::qs) k=atKey qs k:=by simp[atKey,Ls,e']
   rw[Vp e,b];exact ih
def KT.repl(r:KT H kvs xs)(k:List Key)(ry:RelV y u):
 KT H (kvs.map fun kv=>if kv.1=k then(kv.1,y) else kv) (xs.map (putAt k u)):=by
 induction r with
 | nil=>exact .nil
 | @cons p q ps qs h t ih =>
  rw[Qf,Qf];refine .cons ?_ ih;obtain⟨h1,h2,h3⟩:=h;unfold putAt
  by_cases e:p.1=k
  ·rw[if_pos e,if_pos (h1.symm.trans e)];exact⟨h1,h2,ry⟩
  ·rw[if_neg e,if_neg (fun z=>e (h1.trans z))];exact⟨h1,h2,h3⟩
def KT.put(r:KT H kvs xs)(k:List Key)(hb:H b=some (.tup (k.map kV)))(ry:RelV y u):
 KT H (UJ kvs k y) (storedH xs k b u):=by
 have e:(kvs.any fun kv=>decide (kv.1=k))=(atKey xs k).isSome:=by rw[JaD,(r.val k).isSome_eq,Option.isSome_map]
 unfold UJ storedH;rw[e]
 by_cases q:(atKey xs k).isSome=true
 ·rw[if_pos q,if_pos q];exact r.repl k ry
 ·rw[if_neg q,if_neg q];exact Paired.snoc r ⟨rfl,hb,ry⟩
def KT.keeps(r:KT H kvs xs)(ht:∀b ys,H b=some (.tup ys)->H' b=some (.tup ys)):KT H' kvs xs :=
 Paired.mapP r fun _ _ z=>⟨z.1,ht _ _ z.2.1,z.2.2⟩
def Jns(ok:HOk P w H h)(e:Rd H a u):ObjOk P w H h a u:=e.ok ok
def Ja3(ok:HOk P w H h)(e:Rd H a (.dK kvs)):kvs.length<=Qt/\(a == sysModules)=false/\∃vs,KV kvs vs/\h.DictOf (JH P w) a vs :=
 show ObjOk P w H h a (.dK kvs) from Jns ok e
def Jm2(ok:HOk P w H h)(e:H a=some (.dK kvs)):kvs.length<=Qt/\(a == sysModules)=false/\∃vs,KV kvs vs/\h.DictOf (JH P w) a vs:=Ja3 ok (.inl e)
def Jb6(ok:HOk P w H h)(e:H a=some (.tup (ks.map kV))):(tupleKind (JH P w)).is h ks a:=by
 obtain⟨_,its,r,o,h1,h2,n,h3⟩:=(show ObjOk P w H h a (.tup (ks.map kV)) from ok a _ e)
 exact⟨o,its.toArray,n,h1,h2,h3,by simpa using WA r⟩
def ZB(ok:HOk P w H h)(e:Rd H a (.dT kvs)):kvs.length<=Qt/\(a == sysModules)=false ∧
 ∃xs,KT H kvs xs/\h.DictOfH (tupleKind (JH P w)) a xs:=by
 obtain⟨z,y,xs,r,o,es,ep,h1,h2,h3,h4,h5⟩:=(show ObjOk P w H h a (.dT kvs) from Jns ok e)
 refine⟨z,y,xs,r,o,es,ep,h1,h2,h3,h4,fun x hx=>?_,h5⟩
 have all:∀{l:List (List Key×V)} {m:List (List Key×Qj×Qe)},KT H l m->∀x∈m,(tupleKind (JH P w)).is h x.1 x.2.1:=by
  intro l m q
  induction q with
  | nil=>intro x hx;exact nomatch hx
  | @cons p q ps qs hq t ih =>
   intro x hx;rcases Qk.mp hx with e|hx
   ·subst e;exact Jb6 ok (by rw[<- hq.1];exact hq.2.1)
   ·exact ih x hx
 exact all r x hx
def Jql(ok:HOk P w H h)(e:H a=some (.dT kvs)):kvs.length<=Qt/\(a == sysModules)=false ∧
 ∃xs,KT H kvs xs/\h.DictOfH (tupleKind (JH P w)) a xs:=ZB ok (.inl e)
noncomputable def JgV(H:Hp)(a:Qj)(y:V)(r:Option V):Prop :=
 (∃kvs k,Rd H a (.dK kvs)/\y=kV k/\r=Um kvs k)\/∃kvs k b,Rd H a (.dT kvs)/\y=.ref b/\H b=some (.tup (k.map kV))/\r=Um kvs k
noncomputable def Jp7(H:Hp)(a:Qj)(y v:V)(H':Hp):Prop :=
 (∃kvs k,H a=some (.dK kvs)/\y=kV k/\kvs.length<Qt/\H'=upd H a (.dK (UJ kvs k v))) ∨
 ∃kvs k b,H a=some (.dT kvs)/\y=.ref b/\H b=some (.tup (k.map kV))/\kvs.length<Qt/\H'=upd H a (.dT (UJ kvs k v))
def Inv.big(I:Inv X pins σ H s):sysModules<s.heap.objs.size:=by have h:mainGlobals<s.heap.objs.size:=(I.mod.glob.keeps I.bk).lt;exact Kf (by decide) h
def Jhb(hu:A.units+1<cLine)(I:Inv X pins σ H s)(g:JgV H a y (some v))(ry:RelV y u)(h:∀w' s',Inv X pins σ H s'->RelV v w'->Q w' s'):
 wpAny (model X.prog X.w) A (getItem (.ref a) u) Q E s:=by
 rcases g with ⟨kvs,k,e,ey,l⟩|⟨kvs,k,b,e,ey,eb,l⟩
 ·subst ey;obtain⟨z,hd,vs,rel,dd⟩:=Ja3 I.hok e;obtain⟨w',hw,rw'⟩:=RelO.some_of (v:=v) (o:=valueAt vs k) (by rw[l];exact rel.val k);exact wpAny_getItem_of (Jdf ry) dd.mapOf hw (h w' _ (I.tok _) rw')
 ·subst ey;cases (show u=Value.ref b from ry);obtain⟨z,hd,xs,rel,dd⟩:=ZB I.hok e;obtain⟨w',hw,rw'⟩:=RelO.some_of (v:=v) (o:=(atKey xs k).map (·.2)) (by rw[l];exact rel.val k);obtain⟨p,hp,hp2⟩:=GD.mp hw;refine wpAny_getItem_heap (tupleKind_room_in1 hu) (Jb6 I.hok eb) dd hp ?_;rw[hp2];exact h w' _ (I.tok _) rw'
def JbM(I:Inv X pins σ H s)(mu:Mut (H a))(hs:QH a s.heap h')(he:∃q,h'.get? a=some q)(new:ObjOk X.prog X.w (upd H a ob) h' a ob):
 Inv X pins σ (upd H a ob) { s with heap:=h',toks:=t' } :=
 I.write (x:=a) (e:=a) mu (.inl rfl) (fun b q hb z=>(hs.2 b hb).trans z) he new
def JiC(z:kvs.length<=Qt)(hd:(a == sysModules)=false)(rel:KV kvs vs)(dd:h'.DictOf (JH P w) a vs):
 ObjOk P w H' h' a (.dK kvs):=⟨z,hd,vs,rel,dd⟩
def Jhc(hu:A.units+1<cLine)(I:Inv X pins σ H s)(g:Jp7 H a y v H')(ry:RelV y u)(rv:RelV v r)(h:∀s',Inv X pins σ H' s'->Q () s'):
 wpAny (model X.prog X.w) A (setItem (.ref a) u r) Q E s:=by
 rcases g with ⟨kvs,k,e,ey,l,eH⟩|⟨kvs,k,b,e,ey,eb,l,eH⟩
 ·subst ey eH;obtain⟨z,hd,vs,rel,dd⟩:=Jm2 I.hok e;have hz:vs.length<=Qt:=by rw[<- rel.length];exact z
  have hl:(UJ kvs k v).length<=Qt:=by have:=Va kvs k v;omega
  refine wpAny_setItem_pairs (hsz:=hz) (Jdf ry) dd fun h' dd' hs=>h _ ?_
  have he:∃q,h'.get? a=some q:=let ⟨q,_,_,hq,_⟩:=dd';⟨q,hq⟩
  exact JbM I (by rw[e];exact True.intro) hs he (JiC hl hd (rel.put k rv) dd')
 ·subst ey eH;cases (show u=Value.ref b from ry);obtain⟨z,hd,xs,rel,dd⟩:=Jql I.hok e;have hz:xs.length<=Qt:=by rw[<- Rg rel];exact z
  have hl:(UJ kvs k v).length<=Qt:=by have:=Va kvs k v;omega
  refine wpAny_setItem_heap (hsz:=hz) (tupleKind_room_in1 hu) (Jb6 I.hok eb) dd fun h' dd' hs=>h _ ?_
  obtain⟨q,es,ep,hq,h2,h3,h4,_,h5⟩:=dd';refine JbM I (by rw[e];exact True.intro) hs ⟨q,hq⟩ ⟨hl,hd,_,(rel.put k eb rv).keeps fun c ys ec=>?_,q,es,ep,hq,h2,h3,h4,h5⟩;rw[Ji (Jbf ec e (fun z=>nomatch z))];exact ec
noncomputable def JkM(i:GA):Prop:=∀ov iv,subscripted i false ov iv=operate [ov,iv] (getItem ov iv)
def JgB{prog:Qz}{w:QT}{A:QS}{E:Qe->Qi->Prop}{s:Qi}{env:Env}{value slice:GA}{pos:Pos}{T id:String}{Q:Qe->Qi->Prop}
 (hl:typeLookup (.type T) "__getitem__"=pure (some (.builtin id))) (hs:JkM slice)
 (h:wpAny (model prog w) A (eval value env) (fun o s₁=>wpAny (model prog w) A (eval slice env) (fun i s₂=>s₂.TypeIs o T/\wpAny (model prog w) A (getItem o i) Q E s₂) E s₁) E s) :
 wpAny (model prog w) A (eval (.Subscript value slice pos) env) Q E s:=by
 refine Subscript_ (KZ h (fun o s₁ h₁=>KZ h₁ (fun i s₂ h₂=>?_) fun _ _ x=>x) fun _ _ x=>x);obtain⟨hT,h₂⟩:=h₂;unfold subscriptTail;refine Qa ?_;rw[getitemInPython_of_ne hT.not_modules];refine Qa (KS hT hl ?_)
 have fin:wpAny (model prog w) A (subscripted slice false o i) (fun r s₃=>wpAny (model prog w) A (letTemporaryGo value o r >>= fun _=>pure r) Q E s₃) E s₂:=by rw[hs o i];exact wpAny_operating (KZ h₂ (fun r s₃ h₃=>Qa (wpAny_letTemporaryGo (Qg h₃))) fun _ _ x=>x)
 first
  | exact Qg (Qa fin)
  | exact Qa (Qg (Qa fin))
  | exact Qa fin
def Jc1{X:Cx}{pins:List (Qj×Obj)}{σ:St}{H:Hp}{s:Qi}{a:Qj}{y:V}{o:Option V}(I:Inv X pins σ H s)(g:JgV H a y o):s.TypeIs (.ref a) "dict":=by
 rcases g with ⟨kvs,k,e,_,_⟩|⟨kvs,k,b,e,_,_,_⟩
 ·obtain⟨_,_,vs,_,dd⟩:=Ja3 I.hok e;exact dd.typeIs
 ·obtain⟨_,_,xs,_,dd⟩:=ZB I.hok e;exact dd.typeIs
noncomputable def JnA(td ty:TE):TE:=fun σ H Q=>td σ H fun x H1=>ty σ H1 fun y H2=>∃a v,x=.ref a/\JgV H2 a y (some v)/\Q v H2
noncomputable def Jj4(td ty tv:TE):TS:=fun D σ H=>tv σ H fun v H1=>td σ H1 fun x H2=>ty σ H2 fun y H3=>∃a H4,x=.ref a/\Jp7 H3 a y v H4/\D.nx σ H4
def JlW(hu:X.A.units+1<cLine)(ho:PE X o td)(hi:PE X i ty)(hs:JkM i):PE X (.Subscript o i pos) (JnA td ty):=by intro pins s σ H Q I h;refine JgB M4.lookup hs (thn (ho pins s σ H _ I h) fun u s1 ⟨x,H1,I1,rx,q1⟩=>thn (hi pins s1 σ H1 _ I1 q1) fun iv s2 ⟨y,H2,I2,ry,a,v,ex,g,q2⟩=>?_);subst ex;obtain rfl:u=Value.ref a:=rx;exact⟨Jc1 I2 g,Jhb hu I2 g ry fun w' s3 I3 rw'=>⟨v,H2,I3,rw',q2⟩⟩
def Zm(hu:X.A.units+1<cLine)(ho:PE X o td)(hi:PE X i ty)(hv:PE X value tv)(hs:swapsWith value (some (.Subscript o i pos')) pos.line X.env=pure false) :
 PS X (.Assign [.Subscript o i pos'] value pos) (Jj4 td ty tv):=by
 intro pins s σ H D I h;refine wpAny_Assign_Subscript (thn (hv pins s σ H _ I h) fun r s1 ⟨v,H1,I1,rv,q1⟩=>thn (ho pins s1 σ H1 _ I1 q1) fun u s2 ⟨x,H2,I2,rx,q2⟩=>thn (hi pins s2 σ H2 _ I2 q2) fun iv s3 ⟨y,H3,I3,ry,a,H4,ex,g,q3⟩=>?_) hs;subst ex;obtain rfl:u=Value.ref a:=rx;exact Jhc hu I3 g ry rv fun s4 I4=>⟨σ,H4,I4,q3⟩
def JiA(h:Q1)(hb:sysModules<h.objs.size):ObjOk P w H (h.push { cls:=.type "dict",data:=.dict #[] }) h.objs.size (.dK []) :=
 ⟨GP _,beq_eq_false_iff_ne.mpr (Q3 (QD hb)),[],.nil,Heap.DictOf.new h⟩
def JiE(h:Q1)(hb:sysModules<h.objs.size):ObjOk P w H (h.push { cls:=.type "dict",data:=.dict #[] }) h.objs.size (.dT []) :=
 ⟨GP _,beq_eq_false_iff_ne.mpr (Q3 (QD hb)),[],.nil,_,#[],0,Qn _ rfl,⟨rfl,rfl,rfl⟩,rfl,rfl,Me⟩
noncomputable def Jkl:TE:=fun _ H Q=>∀p,H p=none->Q (.ref p) (upd H p (.dK []))
noncomputable def Jkm:TE:=fun _ H Q=>∀p,H p=none->Q (.ref p) (upd H p (.dT []))
def Wi:PE X (.Dict [] [] pos) Jkl:=fun pins s σ H Q I h=>wpAny_Dict_empty ⟨.ref s.heap.objs.size,_,I.laid (a:=s.heap.objs.size) (o:=.dK []) (t':=s.toks) (fun _ _ q=>Qh _ q) (Qp _) (JiA s.heap I.big),rfl,h _ (I.hok.fresh (Qp _))⟩
def Jdz:PE X (.Dict [] [] pos) Jkm:=fun pins s σ H Q I h=>wpAny_Dict_empty ⟨.ref s.heap.objs.size,_,I.laid (a:=s.heap.objs.size) (o:=.dT []) (t':=s.toks) (fun _ _ q=>Qh _ q) (Qp _) (JiE s.heap I.big),rfl,h _ (I.hok.fresh (Qp _))⟩
structure M2 (X:Cx) (o:GA) (m:Str) (apos:Pos) (e f:GA) (cpos:Pos):Prop where
 base:attributeBase o m X.env (eval o X.env)=eval o X.env
 few:((backTo cpos (starEach [e,f] X.env)).all (fun x=>!x.1) && (backToKw cpos (keywordEach [] X.env)).all (fun x=>x.1.isSome)
  && decide (([e,f]:List GA).length+([]:List R9).length+(if ([]:List R9).isEmpty then 0 else 1)<30))=true
 line:(apos.endLine == cpos.line)=true
 trees:backTo cpos (starEach [e,f] X.env)=[(false,eval e X.env),(false,eval f X.env)]
noncomputable def IsD(H:Hp)(a:Qj):Prop:=(∃kvs,Rd H a (.dK kvs))\/∃kvs,Rd H a (.dT kvs)
def ZS{X:Cx}{pins:List (Qj×Obj)}{σ:St}{H:Hp}{s:Qi}{a:Qj}(I:Inv X pins σ H s)(d:IsD H a) :
 s.TypeIs (.ref a) "dict"/\(∀b,Value.ref a=.ref b->∃ob,s.heap.get? b=some ob/\ob.dict=none)/\(a == sysModules)=false:=by
 rcases d with ⟨kvs,e⟩|⟨kvs,e⟩
 ·obtain⟨_,hd,vs,_,dd⟩:=Ja3 I.hok e;refine⟨dd.typeIs,fun b q=>?_,hd⟩;cases q;obtain⟨ob,_,_,h1,h2,_⟩:=dd;exact⟨ob,h1,h2.2.1⟩
 ·obtain⟨_,hd,xs,_,dd⟩:=ZB I.hok e;refine⟨dd.typeIs,fun b q=>?_,hd⟩;cases q;obtain⟨ob,_,_,h1,h2,_⟩:=dd;exact⟨ob,h1,h2.2.1⟩
def JnQ(hu:A.units+1<cLine)(I:Inv X pins σ H s)(g:JgV H a y o)(ry:RelV y u)(rd:RelV d r)(h:∀w' s',Inv X pins σ H s'->RelV (o.getD d) w'->Q w' s'):
 wpAny (model X.prog X.w) A (call (.builtin "dict.get") [.ref a,u,r]) Q E s:=by
 rcases g with ⟨kvs,k,e,ey,l⟩|⟨kvs,k,b,e,ey,eb,l⟩
 ·subst ey;obtain⟨z,hd,vs,rel,dd⟩:=Ja3 I.hok e;refine call_meetsIn Mm dd.typeIs RF (Rr _ _ _) (meets_dict_get_default (JH X.prog X.w) a (Jdf ry) hd r) ⟨_,dd.mapOf,h _ _ (I.tok _) ?_⟩;rw[l];exact(rel.val k).getD rd
 ·subst ey;cases (show u=Value.ref b from ry);obtain⟨z,hd,xs,rel,dd⟩:=ZB I.hok e;refine call_meetsIn Mm dd.typeIs RF (Rr _ _ _) (meetsH_dict_get_default (tupleKind (JH X.prog X.w)) a b hd r) ⟨tupleKind_room_in1 hu,k,xs,Jb6 I.hok eb,dd,h _ _ (I.tok _) ?_⟩;rw[l];exact(rel.val k).getD rd
noncomputable def Jfj(td ty tx:TE):TE:=fun σ H Q=>td σ H fun x H1=>∃a,x=.ref a/\IsD H1 a/\ty σ H1 fun y H2=>tx σ H2 fun z H3=>∃o,JgV H3 a y o/\Q (o.getD z) H3
def Jaf(hu:X.A.units+1<cLine)(ho:PE X o td)(he:PE X e ty)(hf:PE X f tx)(m:M2 X o "get" apos e f cpos):PE X (.Call (.Attribute o "get" apos) [e,f] [] cpos) (Jfj td ty tx):=by
 intro pins s σ H Q I h;refine wpAny_Call_method m.base m.few m.line KD Mm PySem.F.type_dict_get (thn (ho pins s σ H _ I h) fun u s1 ⟨x,H1,I1,rx,a,ex,d,q1⟩=>?_);subst ex;obtain rfl:u=Value.ref a:=rx;obtain⟨t1,t2,_⟩:=ZS I1 d;refine⟨t1,t2,?_⟩;rw[m.trees];refine Kj rfl (Mu (KN (thn (he pins s1 σ H1 _ I1 q1) fun iv s2 ⟨y,H2,I2,ry,q2⟩=>KN (thn (hf pins s2 σ H2 _ I2 q2) fun fv s3 ⟨z,H3,I3,rz,ov,g,q3⟩=>Mc ?_))))
 exact JnQ hu I3 g ry rz fun w' s4 I4 rw'=>⟨_,H3,I4,rw',q3⟩
noncomputable def Jh5(X:Cx)(ifs:List GA)(t:TT):Prop :=
 ∀(pins:List (Qj×Obj)) (s:Qi) (σ:St) (H:Hp) (Q:Bool->Hp->Prop),Inv X pins σ H s->t σ H Q ->
  wpAny (model X.prog X.w) X.A (forIn ifs true fun c r=>if r=true then do let ok <- isTrue c X.env (eval c X.env);pure (ForInStep.yield ok) else pure (ForInStep.yield r)) (TP X pins σ Q) X.xe s
noncomputable def JpR:TT:=fun _ H Q=>Q true H
def JL:Jh5 X [] JpR:=fun _ _ _ H _ I h=>wpAny_tests_nil ⟨H,I,h⟩
def Jaj(h:PT X c t):Jh5 X [c] t:=fun pins s σ H Q I q=>wpAny_tests_one (h pins s σ H Q I q)
noncomputable def blk(X:Cx)(sc:Ra)(cl:List (Str×Qj))(N':List Str)(C:Qj)(s:Qi)(H:Hp)(fp:List Qj):Cx where
 prog:=X.prog
 w:=X.w
 K:=X.K
 mg:=X.mg
 base:=X.base
 A:=X.A
 N:=N'
 s₀:=s
 H₀:=H
 env:=compEnvC sc cl C X.env
 outer:=X.stack
 stack:=X.stack
 ex:=fp
 fn:=fun _=>false
 calm:=X.calm
 pn:=[]
 xe:=fun _ _=>False
noncomputable def ZP(imp:List (Option Nat))(σ:St):St:=imp.map fun o=>match o with
 | none=>none
 | some k=>(σ[k]?).join
structure Blk (X:Cx) (sc:Ra) (cl:List (Str×Qj)) (N':List Str) (imp:List (Option Nat)):Prop where
 clos:closureFor sc X.env=pure cl
 kind:sc.kind=.function
 nocell:∀y∈sc.names,y.2≠.cell
 names:∀y∈sc.names,y.2=.local->sc.names.lookup y.1=some .local
 sub:∀p∈cl,X.env.cells.lookup p.1=some p.2
 has:∀y∈(relabel sc X.env).names,(y.2=.cell\/y.2=.free)->(cl.lookup y.1).isSome=true
 len:imp.length=N'.length
 im:∀p∈imp.zip N',∀k,p.1=some k->X.N[k]?=some p.2/\(X.env.scope.names.lookup p.2=some .cell\/X.env.scope.names.lookup p.2=some .free)/\((relabel sc X.env).names.lookup p.2=some .cell\/(relabel sc X.env).names.lookup p.2=some .free)
noncomputable def JgH(wi:TI)(g:TG)(tt:TT)(te:TE)(imp:List (Option Nat)):TE:=fun σ H Q=>wi σ H fun J H1=>∃W:Nat->Nat->List V->St->Hp->Prop,(∃m,W 0 m [] (ZP imp σ) H1)/\∀i m ys σ' H',W i m ys σ' H' ->
 (J.stop i H'/\ys.length<=Qt/\∀D,H' D=none->Q (.ref D) (upd H' D (.lst ys))) ∨
 (J.go i H'/\ys.length<Qt/\∃N:List V->St->Hp->Prop,(∀ys' σ2 H2,N ys' σ2 H2->∃m',m'<m/\W (i+1) m' ys' σ2 H2) ∧
  ∀x H2,J.yld i H' x H2->g x σ' H2 fun σ2 H3=>tt σ2 H3 fun b H4=>if b=true then te σ2 H4 fun y H5=>N (ys++[y]) σ2 H5 else N ys σ2 H4)
def HOk.sameBut{C:Qj}(x:HOk P w H h)(hC:H C=none)(k:∀b o,b≠C->h.get? b=some o->h'.get? b=some o):HOk P w H h':=fun a o e =>
 (x a o e).stay (fun b u hb q=>k b u (by
  rintro rfl;rcases hb with z|z
  ·rw[<- z,hC] at e;cases e
  ·rw[hC] at z;cases z) q) (fun _ q=>q) fun _ _ q=>q
def HOk.track(x:HOk P w H h)(hD:H D=none)(new:ObjOk P w (upd H D o) h D o):HOk P w (upd H D o) h:=fun b u e=>by
 by_cases hb:b=D
 ·subst hb;rw[Jn] at e;cases e;exact new
 ·rw[Ji hb] at e;exact(x b u e).stay (fun c v _ q=>q) (fun c q=>by rw[Ji (Jq q hD)];exact q) fun c xs q=>by rw[Ji (Jq q hD)];exact q
def VS{α:Type}{c:α}:∀{l:List (Str×α)},l.lookup x=some c->(x,c)∈l:=fun h=>KI h
def Blk.subL(B:Blk X sc cl N' imp):∀x c,cl.lookup x=some c->X.env.cells.lookup x=some c:=fun x c e=>B.sub (x,c) (VS e)
def JkU{pins:List (Qj×Obj)}{σ:St}{H:Hp}{s:Qi}{fp:List Qj}{h₁:Q1}{C:Qj}(B:Blk X sc cl N' imp)(I:Inv X pins σ H s)(hf:∀b∈fp,FpOk X pins H b)(hfo:∀b∈fp,∃o,s.heap.get? b=some o)
 (hC:s.heap.objs.size<C) (old:∀b o,s.heap.get? b=some o->h₁.get? b=some o) (ns:h₁.Ns C fun _=>none) :
 Inv (blk X sc cl N' C s H fp) [] (ZP imp σ) H { s with heap:=h₁,toks:=s.toks }:=by
 have hlt:∀b∈fp,b<s.heap.objs.size:=fun b hb=>let ⟨_,e⟩:=hfo b hb;Qo e
 have clt:∀x c,X.env.cells.lookup x=some c->c<s.heap.objs.size:=fun x c e=>let ⟨_,q⟩:=I.cell x c e;q.lt
 have ok:(blk X sc cl N' C s H fp).Ok:={
  mod:=I.ok.mod
  kind:=B.kind
  glob:=I.ok.glob
  blt:=I.ok.blt
  above:=Kc hC
  inj:=fun x y c h1 h2=>I.ok.inj x y c (B.subL x c h1) (B.subL y c h2)
  has:=fun x hx=>by
   have hx':(relabel sc X.env).names.lookup x=some .cell\/(relabel sc X.env).names.lookup x=some .free:=hx
   have:(cl.lookup x).isSome=true:=by
    rcases hx' with z|z
    ·exact B.has (x,.cell) (VS z) (.inl rfl)
    ·exact B.has (x,.free) (VS z) (.inr rfl)
   exact Ri.mp this
  cab:=fun x c z=>nomatch z
  hd:=I.ok.hd
  frames:=I.ok.frames
  stk:=.inl rfl
  exf:=fun b hb=>⟨QD (Kf (hlt b hb) hC),fun x c e=>(hf b hb).2.2.2.2.1 x c (B.subL x c e)⟩
  bs:=I.bs
  bsz:=Gy I.ok.bsz I.sz
  noex:=fun b o e hb=>by
   rcases(hf b hb).2.2.2.1 with z|z
   ·exact I.ok.noex b o e z
   ·exact absurd (Gn (Qo e) (Gy I.ok.bsz z)) (Gr _)
  exfs:=fun b hb z=>by
   rcases Qk.mp (I.stkSub b z) with q|q
   ·exact(hf b hb).2.1 q
   ·exact(hf b hb).2.2.1 q
  funs:=I.stack
  frf:=I.stkFree }
 refine⟨ok,rfl,I.bare,Un.kept old,⟨_,ns,fun i x v h1 h2 h3=>?_⟩,fun x c e=>?_,I.hok.fresh (Kc hC),fun x c e=>I.freeC x c (B.subL x c e),fun p hp=>absurd (show p∈([]:List (Qj×Obj)) from hp) (by simp),I.hok.kept old,?_⟩
 ·have h1':N'[i]?=some x:=h1
  have h2':(imp.map fun o=>match o with|none=>none|some k=>(σ[k]?).join)[i]?=some (some v):=h2;rw[Qw] at h2'
  cases e:imp[i]? with
  | none=>rw[e] at h2';cases h2'
  | some q =>
   rw[e] at h2'
   cases q with
   | none=>cases h2'
   | some k =>
    have h2'':(σ[k]?).join=some v:=QQ h2'
    have hk:σ[k]?=some (some v):=by
     cases e':σ[k]? with
     | none=>rw[e'] at h2'';cases h2''
     | some z=>rw[e'] at h2'';cases z with
      | none=>cases h2''
      | some z=>cases h2'';rfl
    have hm:(some k,x)∈imp.zip N':=by refine QI (i:=i) ?_;rw[LS];exact⟨e,h1'⟩
    obtain⟨b1,b2,b3⟩:=B.im _ hm k rfl;obtain⟨m,hn,hl⟩:=I.loc;obtain⟨u,r,l⟩:=hl k x v b1 hk (b2.elim (fun z=>.inr (.inl z)) fun z=>.inr (.inr z));refine⟨u,r,.inr ⟨b3,?_⟩⟩
    have hc:∃c,X.env.cells.lookup x=some c/\s.heap.IsCell c (some u):=by
     rcases l with ⟨z,_⟩|⟨_,z⟩
     ·have z':X.env.scope.names.lookup x=some .local:=z;rcases b2 with y|y <;> rw[y] at z' <;> cases z'
     ·exact z
    obtain⟨c,hc,oc,ho,hd⟩:=hc;obtain⟨c',hc'⟩:=ok.has x b3;have e2:=B.subL x c' hc';rw[hc] at e2;cases e2;exact⟨c,hc',oc,old c oc ho,hd⟩
 ·obtain⟨v,o,ho,hd⟩:=I.cell x c (B.subL x c e);exact⟨v,o,old c o ho,hd⟩
 ·show(imp.map _).length=N'.length;rw[Qm];exact B.len
def JkT{pins pn:List (Qj×Obj)}{σ σ':St}{H2 H':Hp}{s2 s4:Qi}{fp:List Qj}{C D:Qj}{Cs:Qj}{ys:List V}{its:List Qe}{k:Nat}{h':Q1}(I2:Inv X pins σ H2 s2)(f2:∀b∈fp,FpOk X pins H2 b)
 (I5:Inv (blk X sc cl N' C s2 H2 fp) pn σ' H' s4) (hC:s2.heap.objs.size<C) (hD:H' D=none) (hDs:s2.heap.objs.size<=D) (hDC:D≠C) (eD:s4.heap.get? D=some { cls:=.type "list",data:=.seq its.toArray k })
 (rv:Vals ys its) (hz:ys.length<=Qt) (hsb:QH C s4.heap h'):Inv X pins σ (upd H' D (.lst ys)) { s4 with heap:=h' }:=by
 have U:Un (frs X.stack) fp H2 H' s2.heap s4.heap:=I5.base
 have kk:∀b o,b≠C->s4.heap.get? b=some o->h'.get? b=some o:=hsb.extBut
 have hC':H' C=none:=I5.free
 have ok1:HOk X.prog X.w H' h':=HOk.sameBut (C:=C) I5.hok hC' kk
 have ok2:HOk X.prog X.w (upd H' D (.lst ys)) h':=ok1.track hD ⟨hz,its,k,rv,kk _ _ hDC eD⟩
 have lt:∀b o,s2.heap.get? b=some o->b≠C/\b≠D:=fun b o e=>⟨QD (Kf (Qo e) hC),QD (Gn (Qo e) hDs)⟩
 refine I2.call' (s':={ s4 with heap:=h' }) (ch:=fp) I5.os ⟨fun b o e n hb hx=>kk b o (lt b o e).1 (U.keep b o e n hb hx),fun b o e n hb hx=>?_,fun b o e n hx=>?_,fun b o e hx=>?_,fun b xs e=>?_,fun b o u e=>?_,fun b ps e=>?_⟩ ok2 I5.bare
  fun b hb=>⟨(f2 b hb).2.2.2.1,(f2 b hb).2.1,(f2 b hb).2.2.2.2.1,(f2 b hb).2.2.2.2.2⟩
 ·obtain⟨sl,q⟩:=U.slot b o e n hb hx;exact⟨sl,kk b _ (lt b o e).1 q⟩
 ·rw[Ji (lt b o e).2];exact U.free b o e n hx
 ·obtain⟨o',q⟩:=U.there b o e hx;exact⟨o',kk b o' (lt b o e).1 q⟩
 ·have q:=U.tups b xs e;rw[Ji (Jq q hD)];exact q
 ·have q:=U.frzs b o u e;rw[Ji (Jq q hD)];exact q
 ·obtain⟨more,q⟩:=U.tbls b ps e;exact⟨more,by rw[Ji (Jq q hD)];exact q⟩
noncomputable def Jp6(g:TG)(tt:TT)(te:TE)(imp:List (Option Nat))(σ:St)(Q:VK)(J:It)(H1:Hp):Prop:=∃W:Nat->Nat->List V->St->Hp->Prop,(∃m,W 0 m [] (ZP imp σ) H1)/\∀i m ys σ' H',W i m ys σ' H' ->
 (J.stop i H'/\ys.length<=Qt/\∀D,H' D=none->Q (.ref D) (upd H' D (.lst ys))) ∨
 (J.go i H'/\ys.length<Qt/\∃N:List V->St->Hp->Prop,(∀ys' σ2 H2,N ys' σ2 H2->∃m',m'<m/\W (i+1) m' ys' σ2 H2) ∧
  ∀x H2,J.yld i H' x H2->g x σ' H2 fun σ2 H3=>tt σ2 H3 fun b H4=>if b=true then te σ2 H4 fun y H5=>N (ys++[y]) σ2 H5 else N ys σ2 H4)
def Ja1{pins:List (Qj×Obj)}{σ:St}{Q:VK}{itv:Qe}{s2:Qi}{RR:Qe->Qj->Rh->Qi->Prop}{E:Qe->Qi->Prop}(hc:X.calm=true)(B:Blk X sc cl N' imp)
 (hg:∀C s H fp,PG (blk X sc cl N' C s H fp) tg g) (ht:∀C s H fp,Jh5 (blk X sc cl N' C s H fp) ifs tt) (he:∀C s H fp,PE (blk X sc cl N' C s H fp) elt te)
 (h2:PIE X pins σ tg (Jp6 g tt te imp σ Q) itv s2)
 (fin:∀(C D:Qj) (s4:Qi) (H':Hp) (ys:List V) (m:Str->Option Qe),s2.heap.objs.size<C->s4.heap.Ns C m->H' C=none->(∀h',QH C s4.heap h'->Inv X pins σ H' { s4 with heap:=h' })->Q (.ref D) H'->RR (.ref D) C (.ok .next) s4) :
 wpAny (model X.prog X.w) X.A (newList []) (fun acc s₃=>wpAny (model X.prog X.w) X.A (newFunctionEnv sc X.env.globals cl [] X.env.qual none .none (some X.env)) (fun cenv s₄=>codeAny (model X.prog X.w) X.A (.compStart (.ListComp elt [⟨tg,iter,ifs,0⟩] sc pos) 0 itv acc { cenv with scope:=relabel sc X.env }) (RR acc cenv.locals) s₄) E s₃) E s2:=by
 obtain⟨it,fp,tn,J,H2,e,I2,T,st2,f2,W,⟨m0,w0⟩,turn⟩:=h2;subst e;refine QW (wpAny_newFunctionEnv B.nocell (by intro y hy;simp at hy) (fun h₁ hns₁ hsb₁=>?_) B.kind);dsimp only at hns₁ hsb₁ ⊢
 generalize hG:s2.heap.push { cls:=.type "list",dict:=none,data:=.seq ([]:List Qe).toArray }=G at hns₁ hsb₁ ⊢
 have hCs:G.objs.size=s2.heap.objs.size+1:=by rw[<- hG,Gz]
 have hC:s2.heap.objs.size<G.objs.size:=by rw[hCs];exact G2 _
 have below:∀b,b<s2.heap.objs.size->b≠G.objs.size:=fun b hb=>QD (Kf hb hC)
 have old:∀b o,s2.heap.get? b=some o->h₁.get? b=some o:=fun b o e=>hsb₁.extBut b o (below b (Qo e)) (Qh _ (hG▸Qh _ e))
 have hD1:h₁.get? s2.heap.objs.size=some { cls:=.type "list",data:=.seq ([]:List Qe).toArray }:=hsb₁.extBut _ _ (QD hC) (Qh _ (hG▸Qn _ rfl))
 have fpo:∀b∈fp,∃o,s2.heap.get? b=some o:=fun b hb=>let ⟨o,e,_⟩:=T.obj 0 _ st2 b hb;⟨o,e⟩
 have I4:=JkU B I2 f2 fpo hC old (show h₁.Ns G.objs.size fun _=>none from hns₁)
 -- the records of the block: the list that grows,the iterator's
 have stD:∀{H':Hp} {pn:List (Qj×Obj)},(∀b∈s2.heap.objs.size::fp,H' b=none)->(∀p∈pn,p.1∉s2.heap.objs.size::fp)->∀b∈s2.heap.objs.size::fp,FpOk (blk X sc cl N' G.objs.size s2 H2 fp) pn H' b:=fun {H' pn} hn hp b hb=>by
  have hp':∀p∈([]++pn:List (Qj×Obj)),p.1≠b:=fun p z q=>hp p (by simpa using z) (q▸hb)
  rcases Qk.mp hb with z|z
  ·subst z;refine⟨hn _ hb,QD hC,fun q=>?_,.inr (Qp _),fun x c e q=>?_,hp'⟩
   ·rcases Qk.mp (I2.stkSub _ q) with q|q
    ·exact absurd I2.lt (by rw[<- q];exact Gr _)
    ·exact I2.nofs (Qp _) q
   ·obtain⟨v,qc⟩:=I2.cell x c (B.subL x c e);exact absurd qc.lt (by rw[q];exact Gr _)
  ·refine⟨hn _ hb,below b (let ⟨_,e⟩:=fpo b z;Qo e),fun q=>?_,.inl z,fun x c e=>(f2 b z).2.2.2.2.1 x c (B.subL x c e),hp'⟩;rcases Qk.mp (I2.stkSub b q) with q|q
   ·exact(f2 b z).2.1 q
   ·exact(f2 b z).2.2.1 q
 have nDf:s2.heap.objs.size∉fp:=fun z=>let ⟨_,e⟩:=fpo _ z;absurd (Qo e) (Gr _)
 have loop:codeAny (model X.prog X.w) X.A (.compLoop (.ListComp elt [⟨tg,iter,ifs,0⟩] sc pos) 0 (.ref it) (.ref s2.heap.objs.size) (compEnvC sc cl G.objs.size X.env))
  (RR (.ref s2.heap.objs.size) G.objs.size) { s2 with heap:=h₁,toks:=s2.toks }:=by
  refine codeAny_loop rfl (fun n s'=>∃i ys its k σ' H',Inv (blk X sc cl N' G.objs.size s2 H2 fp) [] σ' H' s'/\tn i s'.heap/\(∀b∈s2.heap.objs.size::fp,H' b=none)/\Vals ys its/\s'.heap.get? s2.heap.objs.size=some { cls:=.type "list",data:=.seq its.toArray k }/\W i n ys σ' H') ?_ m0
   ⟨0,[],[],0,_,H2,I4,T.keep _ _ _ st2 (fun b _ o e=>old b o e),fun b hb=>?_,.nil,hD1,w0⟩
  ·rintro n s3 ⟨i,ys,its,k,σ3,H3,I3,st3,fr3,rv3,hD3,w3⟩;have fr3':∀b∈fp,FpOk (blk X sc cl N' G.objs.size s2 H2 fp) [] H3 b:=fun b hb=>stD (pn:=[]) fr3 (fun p z=>nomatch z) b (Qd _ hb)
   show wpAny _ X.A ((compTurn (.ListComp elt [⟨tg,iter,ifs,0⟩] sc pos) 0 (.ref it) (.ref s2.heap.objs.size) (compEnvC sc cl G.objs.size X.env)).onRaise (fun x=>do noteFrame x (compEnvC sc cl G.objs.size X.env);theTreesLotGoes x)) _ _ s3;refine wpAny_noted (wpAny_noRaise ?_);rw[compTurn_list];refine Qa (wpAny_standAt (Qa ?_))
   have fD:=stD (pn:=[]) fr3 (fun p z=>nomatch z) s2.heap.objs.size Qc
   have hDH:H3 s2.heap.objs.size=none:=fr3 _ Qc
   have I3p:Inv (blk X sc cl N' G.objs.size s2 H2 fp) [(s2.heap.objs.size,{ cls:=.type "list",data:=.seq its.toArray k })] σ3 H3 s3:=I3.pins_of fun p hp=>by
    have e:p=(s2.heap.objs.size,{ cls:=.type "list",data:=.seq its.toArray k }):=by simpa using hp
    subst e;exact⟨hD3,hDH,fD.2.1,fD.2.2.1,fun v z=>by cases z⟩
   have pfp:∀p∈[(s2.heap.objs.size,({ cls:=.type "list",data:=.seq its.toArray k }:Obj))],p.1∉fp:=fun p hp=>by
    have e:p=(s2.heap.objs.size,{ cls:=.type "list",data:=.seq its.toArray k }):=by simpa using hp
    subst e;exact nDf
   have fpP:∀{H':Hp},(∀b∈fp,H' b=none)->∀b∈fp,FpOk (blk X sc cl N' G.objs.size s2 H2 fp) [(s2.heap.objs.size,({ cls:=.type "list",data:=.seq its.toArray k }:Obj))] H' b:=fun {H'} hn b hb =>
    have f:=stD (pn:=[]) fr3 (fun p z=>nomatch z) b (Qd _ hb)
    ⟨hn b hb,f.2.1,f.2.2.1,f.2.2.2.1,f.2.2.2.2.1,fun p hp q=>pfp p ((Gd.mp hp).elim (fun z=>nomatch (show p∈([]:List (Qj×Obj)) from z)) id) (q▸hb)⟩
   rcases turn i n ys σ3 H3 w3 with ⟨stop,hz,q⟩|⟨go,hz,N,hN,step⟩
   ·refine thn (T.done (blk X sc cl N' G.objs.size s2 H2 fp) rfl rfl rfl hc i _ s3 σ3 H3 _ I3p (fpP fun b hb=>fr3 b (Qd _ hb)) st3 stop) fun r s4 ⟨hr,I5⟩=>?_
    subst hr;refine Qg ?_;obtain⟨m,hn,_⟩:=I5.loc;have eD:=(I5.pin (s2.heap.objs.size,{ cls:=.type "list",data:=.seq its.toArray k }) (by simp)).1;have hCf:H3 G.objs.size=none:=I5.free;exact fin G.objs.size s2.heap.objs.size s4 _ ys m hC hn (by rw[Ji (Gh hC)];exact hCf) (fun h' hsb=>JkT (Cs:=0) I2 f2 I5 hC hDH (Qp _) (QD hC) eD rv3 hz hsb) (q _ hDH)
   ·refine thn (T.item (blk X sc cl N' G.objs.size s2 H2 fp) rfl rfl rfl hc i _ s3 σ3 H3 _ I3p (fpP fun b hb=>fr3 b (Qd _ hb)) st3 go) fun r s4 ⟨u,hr,h4⟩=>?_
    subst hr;refine Qa (thn h4 fun _ s5 ⟨x,H5,I5,r5,y5,st5,fr5⟩=>?_);have I5':=I5.pinned (fpP fr5) (T.obj _ _ st5);refine Qa (thn (hg G.objs.size s2 H2 fp _ s5 σ3 H5 x u _ I5' r5 (step x H5 y5)) fun _ s6 ⟨σ6,H6,I6,q6⟩=>?_);refine Qa (thn (ht G.objs.size s2 H2 fp _ s6 σ6 H6 _ I6 q6) fun ok s7 ⟨H7,I7,q7⟩=>?_)
    -- what stays of the records
    have recs:∀{σ':St} {H':Hp} {s':Qi},Inv (blk X sc cl N' G.objs.size s2 H2 fp) ([(s2.heap.objs.size,({ cls:=.type "list",data:=.seq its.toArray k }:Obj))]++Jak fp s5.heap) σ' H' s' ->
     tn (i+1) s'.heap/\(∀b∈s2.heap.objs.size::fp,H' b=none)/\s'.heap.get? s2.heap.objs.size=some { cls:=.type "list",data:=.seq its.toArray k }:=fun {σ' H' s'} I'=>by
     have pd:=I'.pin (s2.heap.objs.size,{ cls:=.type "list",data:=.seq its.toArray k }) (by simp)
     have pf:∀b∈fp,∀o,s5.heap.get? b=some o->s'.heap.get? b=some o/\H' b=none:=fun b hb o e=>by have z:=I'.pin (b,o) (G1 _ (G1 _ (VU hb e)));exact⟨z.1,z.2.1⟩
     refine⟨T.keep _ _ _ st5 fun b hb o e=>(pf b hb o e).1,fun b hb=>?_,pd.1⟩;rcases Qk.mp hb with z|z
     ·subst z;exact pd.2.1
     ·obtain⟨o,e,d⟩:=T.obj _ _ st5 b z;exact(pf b z o e).2
    cases ok with
    | false=>obtain⟨m',hm,w7⟩:=hN _ _ _ (show N ys σ6 H7 from by simpa using q7);obtain⟨r1,r2,r3⟩:=recs I7;exact Qg ⟨rfl,m',hm,i+1,ys,its,k,σ6,H7,I7.pins_of (fun p hp=>nomatch hp),r1,r2,rv3,r3,w7⟩
    | true =>
     have q7':te σ6 H7 fun y H5=>N (ys++[y]) σ6 H5:=by simpa using q7
     refine Qa (Qa (thn (he G.objs.size s2 H2 fp _ s7 σ6 H7 _ I7 q7') fun y s8 ⟨y8,H8,I8,ry,q8⟩=>Qa ?_));obtain⟨r1,r2,r3⟩:=recs I8;have hl:=rv3.length;refine wpAny_list_append_plain (hsz:=by rw[Qu];omega) ⟨k,r3⟩ fun h9 ⟨k9,hl9⟩ hs9=>Qg (Qg ?_)
     have hD8:H8 s2.heap.objs.size=none:=r2 _ Qc
     have f8:=stD (pn:=[]) r2 (fun p z=>nomatch z) s2.heap.objs.size Qc
     have I8':Inv (blk X sc cl N' G.objs.size s2 H2 fp) [] σ6 H8 s8:=I8.pins_of (fun p hp=>nomatch hp)
     have I9:Inv (blk X sc cl N' G.objs.size s2 H2 fp) [] σ6 H8 { s8 with heap:=h9 }:=I8'.turned (t':=s8.toks) (it:=s2.heap.objs.size) (fun b o hb e=>hs9.extBut b o hb e) hD8 f8.2.1 f8.2.2.2.1 f8.2.2.2.2.1 f8.2.2.2.2.2;obtain⟨m',hm,w8⟩:=hN _ _ _ q8;refine⟨rfl,m',hm,i+1,ys++[y8],its++[y],k9,σ6,H8,I9,?_,r2,rv3.append (.cons ry .nil),?_,w8⟩
     ·exact T.keep _ _ _ r1 fun b hb o e=>hs9.extBut b o (fun z=>nDf (z▸hb)) e
     ·rw[hl9];simp
  ·rcases Qk.mp hb with z|z
   ·subst z;exact I2.hok.fresh (Qp _)
   ·exact(f2 b z).1
 exact codeAny_compStart_list loop (T.self _ 0 _ _ _ (T.keep _ _ _ st2 fun b _ o e=>old b o e) loop)
def JV(hc:X.calm=true)(hi:PI X tg iter wi)(B:Blk X sc cl N' imp)
 (hg:∀C s H fp,PG (blk X sc cl N' C s H fp) tg g) (ht:∀C s H fp,Jh5 (blk X sc cl N' C s H fp) ifs tt) (he:∀C s H fp,PE (blk X sc cl N' C s H fp) elt te)
 (hs:∀x,foldedSetIterable iter X.env x=pure x:=by intro _;rfl):PE X (.ListComp elt [⟨tg,iter,ifs,0⟩] sc pos) (JgH wi g tt te imp):=by
 intro pins s σ H Q I h;rw[eval_ListComp];refine wpAny_comprehension_free (use:=none) rfl hs B.clos B.kind B.names (thn (hi pins s σ H _ I h) fun v s1 h1=>thn h1 fun itv s2 h2=>?_);refine Ja1 (RR:=fun acc C=>compPost (model X.prog X.w) X.A X.xe none (EP X pins σ Q) acc C) hc B hg ht he h2 fun C D s4 H' ys m hC hn hCf hI q=>?_
 exact⟨m,hn,fun h' hsb=>⟨.ref D,H',hI h' hsb,rfl,q⟩⟩
def Jal{i:Nat}{x:Str}{pos' spos:Pos}(hN:X.N.Nodup)(hx1:X.N[i]?=some x)(hx2:Loc X.env.scope x)(hc:X.calm=true)(hi:PI X tg iter wi)(B:Blk X sc cl N' imp)
 (hg:∀C s H fp,PG (blk X sc cl N' C s H fp) tg g) (ht:∀C s H fp,Jh5 (blk X sc cl N' C s H fp) ifs tt) (he:∀C s H fp,PE (blk X sc cl N' C s H fp) elt te)
 (hsw:swapsWith (.ListComp elt [⟨tg,iter,ifs,0⟩] sc pos) (some (.Name x pos')) spos.line X.env=pure true) (hf:X.fn x=true\/X.env.scope.names.lookup x=some .local)
 (hs:∀x,foldedSetIterable iter X.env x=pure x:=by intro _;rfl):PS X (.Assign [.Name x pos'] (.ListComp elt [⟨tg,iter,ifs,0⟩] sc pos) spos) (JcD (JgH wi g tt te imp) (U1 i)):=by
 intro pins s σ H D I h;rw[exec_Assign_Name_used _ _ _ _ hsw];refine Qa (wpAny_standAt (Qa ?_));show wpAny _ X.A (do let _ <- comprehension (.ListComp elt [⟨tg,iter,ifs,0⟩] sc pos) sc X.env _ (newList []) false (eval iter X.env) (some (assign (.Name x pos') X.env))) _ _ s;refine Qa (KZ (wpAny_comprehension_free (use:=some (assign (.Name x pos') X.env)) (Q:=fun _ s'=>SP X pins D .next s') rfl hs B.clos B.kind B.names
  (thn (hi pins s σ H _ I h) fun v s1 h1=>thn h1 fun itv s2 h2=>?_)) (fun _ s' hq=>Qg (Qg hq)) fun _ _ e=>e)
 refine Ja1 (Q:=fun y H1=>U1 i y σ H1 D.nx) (RR:=fun acc C=>compPost (model X.prog X.w) X.A X.xe (some (assign (.Name x pos') X.env)) (fun _ s'=>SP X pins D .next s') acc C) hc B hg ht he h2 fun C Dl s4 H' ys m hC hn hCf hI q=>?_
 obtain⟨it,fp,tn,J,H2,e,I2,_⟩:=h2;have I4:Inv X pins σ H' s4:=hI s4.heap (.refl ..);have neC:X.env.locals≠C:=QD (Kf I2.lt hC)
 have neCc:∀y c,X.env.cells.lookup y=some c->c≠C:=fun y c e=>by obtain⟨v,qc⟩:=I2.cell y c e;exact QD (Kf qc.lt hC)
 show wpAny _ X.A (assign (.Name x pos') X.env (.ref Dl)) _ _ s4;refine wpAny_assign_Name (Jbn I4 hN hx1 hx2 (v:=.ref Dl) rfl (fun s5 I5 ⟨c0,hs5,hc0⟩=>?_) hf)
 have ne0:C≠c0:=by
  rcases hc0 with z|z
  ·rw[z];exact Q3 neC
  ·exact Q3 (neCc _ _ z)
 refine⟨m,hn.sameBut hs5 ne0,fun h' hsb=>⟨_,H',?_,q⟩⟩;refine I5.turned (t':=s5.toks) (it:=C) (fun b o hb e=>hsb.extBut b o hb e) hCf (Q3 neC) (.inr (Kc (Kn I2.sz hC))) neCc fun p hp z=>?_
 have:=Qo (I2.pin p hp).1;rw[z] at this;exact absurd (Kf this hC) (Gr _)
inductive Rep (K:QE) (H:Hp):V->PyData->Prop
 | non:Rep K H .non .none
 | bl (b:Bool):Rep K H (.bl b) (.bool b)
 | int (i:Int):Rep K H (.int i) (.int i)
 | str (x:Str):Rep K H (.str x) (.str x)
 | tup {a:Qj} {xs:List V} {ds:List PyData}:SqT K H a xs->xs.length=ds.length->(∀(i:Nat) (x:V) (d:PyData),xs[i]?=some x->ds[i]?=some d->Rep K H x d)->Rep K H (.ref a) (.tuple ds)
 | lst {a:Qj} {xs:List V} {ds:List PyData}:SqL K H a xs->xs.length=ds.length->(∀(i:Nat) (x:V) (d:PyData),xs[i]?=some x->ds[i]?=some d->Rep K H x d)->Rep K H (.ref a) (.list ds)
noncomputable def RepL(K:QE)(H:Hp)(xs:List V)(ds:List PyData):Prop :=
 xs.length=ds.length/\∀(i:Nat) (x:V) (d:PyData),xs[i]?=some x->ds[i]?=some d->Rep K H x d
section
variable{K:QE}{H H':Hp}
def RepL.nil:RepL K H [] []:=⟨rfl,fun i x d e=>by simp at e⟩
def RepL.cons(h:Rep K H x d)(r:RepL K H xs ds):RepL K H (x::xs) (d::ds):=by
 refine⟨by simp[r.1],fun i y e h1 h2=>?_⟩
 cases i with
 | zero=>simp at h1 h2;subst h1 h2;exact h
 | succ i=>exact r.2 i y e (by simpa using h1) (by simpa using h2)
def RepL.append(r:RepL K H xs ds)(q:RepL K H ys es):RepL K H (xs++ys) (ds++es):=by
 refine⟨by simp[r.1,q.1],fun i x d h1 h2=>?_⟩
 by_cases hi:i<xs.length
 ·rw[Gc hi] at h1;rw[Gc (by rw[<- r.1];exact hi)] at h2;exact r.2 i x d h1 h2
 ·rw[Gs (by omega)] at h1;rw[Gs (by rw[<- r.1];omega)] at h2;rw[<- r.1] at h2;exact q.2 _ x d h1 h2
def RepL.snoc(r:RepL K H xs ds)(h:Rep K H x d):RepL K H (xs++[x]) (ds++[d]):=r.append (.cons h .nil)
def RepL.get'{xs:List V}{ds:List PyData}{i:Nat}{x:V}(r:RepL K H xs ds)(e:xs[i]?=some x):∃d,ds[i]?=some d/\Rep K H x d:=by
 have hi:=(Qq.mp e).1
 have hx:i<ds.length:=by rw[<- r.1];exact hi
 exact⟨ds[i],by simp[hx],r.2 i x _ e (by simp[hx])⟩
def Rep.tupL(h:SqT K H a xs)(r:RepL K H xs ds):Rep K H (.ref a) (.tuple ds):=.tup h r.1 r.2
def Rep.lstL(h:SqL K H a xs)(r:RepL K H xs ds):Rep K H (.ref a) (.list ds):=.lst h r.1 r.2
def Rep.tupI(r:Rep K H v (.tuple ds)):∃a xs,v=.ref a/\SqT K H a xs/\RepL K H xs ds:=by
 cases r with
 | tup h l q=>exact⟨_,_,rfl,h,l,q⟩
def Rep.intI(r:Rep K H v (.int i)):v=.int i:=by cases r;rfl
def Same.seqT(e:Same H H')(h:SqT K H a xs):SqT K H' a xs:=by
 rcases h with (h|⟨o,h⟩)|h
 ·exact .inl (.inl (e _ _ h))
 ·exact .inl (.inr ⟨o,e _ _ h⟩)
 ·exact .inr h
def Rep.mono(e:Same H H')(r:Rep K H v d):Rep K H' v d:=by
 induction r with
 | non=>exact .non
 | bl b=>exact .bl b
 | int i=>exact .int i
 | str x=>exact .str x
 | tup h l _ ih=>exact .tup (e.seqT h) l ih
 | lst h l _ ih=>exact .lst (e.seq h) l ih
def RepL.mono(e:Same H H')(r:RepL K H xs ds):RepL K H' xs ds:=⟨r.1,fun i x d h1 h2=>(r.2 i x d h1 h2).mono e⟩
noncomputable def SameEx(l:Qj)(H H':Hp):Prop:=∀b o,b≠l->H b=some o->H' b=some o
def SameEx.upd{l:Qj}{o:HO}:SameEx l H (upd H l o):=fun b o' hb e=>by rw[Ji hb];exact e
def Same.ex(s:Same H0 H)(hn:H0 l=none)(e:SameEx l H H'):Same H0 H':=fun b o h=>e b o (Jq h hn) (s b o h)
def Same.new(hn:H p=none):Same H (upd H p o):=fun b o' e=>by rw[Ji (Jq e hn)];exact e
def SameEx.sqT(e:SameEx l H H')(hl:H l=some (.lst ys))(h:SqT K H a xs):SqT K H' a xs:=by
 rcases h with (h|⟨o,h⟩)|h
 ·exact .inl (.inl (e _ _ (Jbf h hl (by intro z;cases z)) h))
 ·exact .inl (.inr ⟨o,e _ _ (Jbf h hl (by intro z;cases z)) h⟩)
 ·exact .inr h
def Same.ex_trans(s:Same H H')(e:SameEx l H' H2):SameEx l H H2:=fun b o hb h=>e b o hb (s b o h)
end
theorem Vals.get':∀{xs:List V} {us:List Qe} {i:Nat} {u:Qe},Vals xs us->us[i]?=some u->∃x,xs[i]?=some x/\RelV x u
 | _,_,_,_,.nil,e=>by simp at e
 | _,_,0,_,.cons r _,e=>by simp at e;subst e;exact⟨_,rfl,r⟩
 | _,_,i+1,u,.cons _ t,e=>by obtain⟨x,h1,h2⟩:=Vals.get' (i:=i) (u:=u) t (by simpa using e);exact⟨x,by simpa using h1,h2⟩
theorem Ve{h:Q1}:∀(us:List Qe) (ds:List PyData),us.length=ds.length->(∀(i:Nat) (u:Qe) (d:PyData),us[i]?=some u->ds[i]?=some d->∃as,Reads h u d as)->∃as,ReadsAll h us ds as
 | [],[],_,_=>⟨_,.nil⟩
 | [],_::_,e,_=>by simp at e
 | _::_,[],e,_=>by simp at e
 | u::us,d::ds,e,f=>by
  obtain⟨as,h1⟩:=f 0 u d rfl rfl;obtain⟨bs,h2⟩:=Ve us ds (by simpa using e) fun i v c q1 q2=>f (i+1) v c (by simpa using q1) (by simpa using q2)
  exact⟨_,.cons h1 h2⟩
def Rep.reads(I:Inv X pins σ H s)(r:Rep X.K H v d):∀u,RelV v u->∃as,Reads s.heap u d as:=by
 induction r with
 | non=>intro u r;cases r;exact⟨_,.none⟩
 | bl b=>intro u r;cases r;exact⟨_,.bool b⟩
 | int i=>intro u r;obtain⟨t,rfl⟩:=r;exact⟨_,.int i t⟩
 | str x=>intro u r;obtain⟨t,rfl⟩:=r;exact⟨_,.str x t⟩
 | tup h l _ ih =>
  intro u r;cases r;obtain⟨its,rv,p,hz⟩:=I.tuple h;obtain⟨o,ho,hc,n,hd⟩:=p
  obtain⟨as,q⟩:=Ve (h:=s.heap) its _ (rv.length.symm.trans l) fun i u d h1 h2=>by obtain⟨x,e1,e2⟩:=rv.get' h1;exact ih i x d e1 h2 u e2
  exact⟨_,.tuple ho hc hd q⟩
 | lst h l _ ih =>
  intro u r;cases r;obtain⟨its,rv,p,hz⟩:=I.list h;obtain⟨o,ho,hc,n,hd⟩:=p.isList
  obtain⟨as,q⟩:=Ve (h:=s.heap) its _ (rv.length.symm.trans l) fun i u d h1 h2=>by obtain⟨x,e1,e2⟩:=rv.get' h1;exact ih i x d e1 h2 u e2
  exact⟨_,.list ho hc hd q⟩
noncomputable def Jgl(K:QE):R2:=fun x y H Q=>rI0 (fun i j=>.int (i+j)) x y H Q\/(∃i j,x=.str i/\y=.str j/\i.length+j.length<=Qt/\Q (.str (i++j)) H)\/Jq1 x y H Q
def JlR:OpR X (binaryOp .Add) (Jgl X.K):=op_add.or (op_add_str.or JoL)
noncomputable def Jq2(K:QE):R2:=fun x y H Q=>∃d e,Rep K H x d/\Rep K H y e/\d.canLay0=true/\e.canLay0=true/\min d.depth e.depth<=60/\Q (.bl (RG d e)) H
noncomputable def Jq9(K:QE):R2:=fun x y H Q=>∃d e,Rep K H x d/\Rep K H y e/\d.canLay0=true/\e.canLay0=true/\min d.depth e.depth<=60/\Q (.bl (!PyData.eqv d e)) H
def JoN(hu:X.A.units+64<cLine):OpR X (compareOp .Eq) (Jq2 X.K):=by intro pins s σ H x y v u Q I rx ry h;obtain⟨d,e,h1,h2,c1,c2,hd,q⟩:=h;obtain⟨as,r1⟩:=h1.reads I v rx;obtain⟨bs,r2⟩:=h2.reads I u ry;exact SeqAt.compareEq_reads r1 r2 c1 c2 (by omega) ⟨.bl _,H,I,rfl,q⟩
def JoR(hu:X.A.units+64<cLine):OpR X (compareOp .NotEq) (Jq9 X.K):=by intro pins s σ H x y v u Q I rx ry h;obtain⟨d,e,h1,h2,c1,c2,hd,q⟩:=h;obtain⟨as,r1⟩:=h1.reads I v rx;obtain⟨bs,r2⟩:=h2.reads I u ry;exact SeqAt.compareNe_reads r1 r2 c1 c2 (by omega) ⟨.bl _,H,I,rfl,q⟩
noncomputable def Jpa(K:QE):R2:=fun x y H Q=>rEq x y H Q\/Jq2 K x y H Q
noncomputable def Jpd(K:QE):R2:=fun x y H Q=>rNe x y H Q\/Jq9 K x y H Q
def JoM(hu:X.A.units+64<cLine):OpR X (compareOp .Eq) (Jpa X.K):=op_eq.or (JoN hu)
def JoQ(hu:X.A.units+64<cLine):OpR X (compareOp .NotEq) (Jpd X.K):=op_ne.or (JoR hu)
noncomputable def Je3(K:QE):List V->Hp->VK->Prop:=fun xs H Q=>∃x n,xs=[x]/\Jp9 K x H n/\Q (.int n) H
def Jg3:J0 X (.builtin "len") (Je3 X.K):=Jiq
noncomputable def Jan(K:QE):List V->Hp->VK->Prop:=fun xs H Q=>∃p ys,xs=[.ref p]/\((SqL K H p ys/\∀l,H l=none->Q (.ref l) (upd H l (.tup ys)))\/(SqT K H p ys/\Q (.ref p) H))
def JcU:J0 X (.type "tuple") (Jan X.K):=JaJ
noncomputable def Jcr(K:QE):List V->Hp->VK->Prop:=fun xs H Q=>∃p ys,xs=[.ref p]/\(SqL K H p ys\/SqT K H p ys)/\∀l,H l=none->Q (.ref l) (upd H l (.lst ys))
def Jeo:J0 X (.type "list") (Jcr X.K):=JbG
inductive TyS (K:QE) (H:Hp):V->Qe->Prop where
 | of {x:V} {t:Qe} (h:TyOf K H x t):TyS K H x t
 | sqT {a:Qj} {xs:List V} (h:SqT K H a xs):TyS K H (.ref a) (.type "tuple")
 | sqL {a:Qj} {xs:List V} (h:SqL K H a xs):TyS K H (.ref a) (.type "list")
def JeL{pins:List (Qj×Obj)}{σ:St}{H:Hp}{s:Qi}{A:QS}{E:Qe->Qi->Prop}{Q:Qe->Qi->Prop}{c:Qe}{b:Bool}{x:V}{u t:Qe}(I:Inv X pins σ H s)(rx:RelV x u)(ty:TyS X.K H x t)(e:kitOne X.K t c=some b)(h:∀tk,Q (.bool b) { s with toks:=tk }) :
 wpAny (model X.prog X.w) A (call (.builtin "isinstance") [u,c]) Q E s:=by
 cases ty with
 | of z=>exact Jht I rx z e h
 | @sqT a xs z=>cases (show u=Value.ref a from rx);obtain⟨its,_,p,_⟩:=I.tuple z;obtain⟨o,h1,h2,_⟩:=p;exact kia_one Xg I.kIn ⟨o,h1,h2⟩ e (fun z=>nomatch z) h
 | @sqL a xs z=>cases (show u=Value.ref a from rx);obtain⟨its,_,p,_⟩:=I.list z;obtain⟨o,h1,h2,_⟩:=p.isList;exact kia_one kitx_list I.kIn ⟨o,h1,h2⟩ e (fun z=>nomatch z) h
noncomputable def Jl9(K:QE):List V->Hp->VK->Prop:=fun vs H Q=>∃x c t tc b,vs=[x,c]/\TyS K H x t/\(∀u,RelV c u->u=tc)/\kitOne K t tc=some b/\Q (.bl b) H
def Jip:J0 X (.builtin "isinstance") (Jl9 X.K):=by intro pins s σ H xs us Q I r h;obtain⟨x,c,t,tc,b,rfl,ty,hc,e,q⟩:=h;obtain⟨u,w',rfl,r1,r2⟩:=JkB r;cases hc w' r2;exact JeL I r1 ty e fun tk=>⟨.bl b,H,I.tok tk,rfl,q⟩
noncomputable def Jq3:R2:=fun x y H Q=>y=.non/\Q (.bl (decide (x=.non))) H
noncomputable def JjR:R2:=fun x y H Q=>y=.non/\Q (.bl (!decide (x=.non))) H
def Wh:OpR X (compareOp .Is) Jq3:=JoO
def UH:OpR X (compareOp .IsNot) JjR:=JlT
noncomputable def Jpb:List V->Hp->VK->Prop:=fun xs H Q=>∃i j,xs=[.int i,.int j]/\Q (.int (if j>i then j else i)) H
noncomputable def Jpc:List V->Hp->VK->Prop:=fun xs H Q=>∃i j,xs=[.int i,.int j]/\Q (.int (if j<i then j else i)) H
def JaY(hc:X.calm=true):J0 X (.builtin "max") Jpb:=Jg5 hc
def Vv(hc:X.calm=true):J0 X (.builtin "min") Jpc:=Jg6 hc
noncomputable def JpQ(K:QE)(ta:TE):TT:=fun σ H Q=>ta σ H fun x H1=>∃k,JkQ K x H1 k/\Q k H1
def Jo7(ha:PE X a ta)(he:∀whole,isTrue a X.env whole=(do let v <- whole;standAt a.pos;holding [v] (truthy v))):PT X a (JpQ X.K ta):=JjI ha he
noncomputable def GV(mg:Str->Option Qe)(x:Str)(v:V):Prop:=∃u,mg x=some u/\RelV v u
def Jag{x:Str}{v:V}{pos:Pos}(hg:Gl X x)(hm:GV X.mg x v)(hd:(x == ("__debug__":Str))=false:=by decide):PE X (.Name x pos) (tC v):=by obtain⟨u,h1,h2⟩:=hm;exact JlX hg h1 h2 hd
def UP:bootBuiltins "len"=some (.builtin "len"):=by decide +kernel
def VH:bootBuiltins "isinstance"=some (.builtin "isinstance"):=by decide +kernel
def Jik:bootBuiltins "max"=some (.builtin "max"):=by decide +kernel
def Zx:bootBuiltins "min"=some (.builtin "min"):=by decide +kernel
def Ww:bootBuiltins "sum"=some (.builtin "sum"):=by decide +kernel
def JnM:bootBuiltins "any"=some (.builtin "any"):=by decide +kernel
def JnL:bootBuiltins "all"=some (.builtin "all"):=by decide +kernel
def Wv:bootBuiltins "sorted"=some (.builtin "sorted"):=by decide +kernel
def Vu:bootBuiltins "list"=some (.type "list"):=by decide +kernel
def Jil:bootBuiltins "tuple"=some (.type "tuple"):=by decide +kernel
def Jim:bootBuiltins "zip"=some (.type "zip"):=by decide +kernel
def JbE:bootBuiltins "enumerate"=some (.type "enumerate"):=by decide +kernel
def JcS:bootBuiltins "reversed"=some (.type "reversed"):=by decide +kernel
structure Cal (P:Qz) (w:QT) (K:QE) (mg:Str->Option Qe) (base:Q1) (x:Str) (k:Nat) (ps:List Str) (sp:Sp):Prop where
 ex:∃(f:Qj) (fd:Q4),FnOk P w K mg base CX0 k f fd ps sp/\mg x=some (.ref f)/\keepIn K (.ref f)=true/\Binds K fd ps []
structure CalM (P:Qz) (w:QT) (K:QE) (mg:Str->Option Qe) (base:Q1) (x:Str) (C:Qj) (k:Nat) (ps:List Str) (sp:Sp):Prop where
 ex:∃(f:Qj) (fd:Q4),Mk K C f/\FnOk P w K mg base CX0 k f fd ps sp/\mg x=some (.ref C)/\Binds K fd ps []
def Jj(c:Cal X.prog X.w X.K X.mg X.base x k ps sp)(hr:Room k X.A)(hg:Gl X x)(ha:PA X (e::es) t)(hdb:(x == ("__debug__":Str))=false:=by decide)
 (he:starEach (e::es) X.env=(false,eval e X.env)::starEach es X.env:=by rfl) (hpl:(backTo pos (starEach es X.env)).any (·.1)=false:=by rfl):PE X (.Call (.Name x p) (e::es) [] pos) (JgG sp [] E0 t):=by
 obtain⟨f,fd,F,h1,h2,h3⟩:=c.ex;exact JlV F hr hg h1 h2 h3 .nil Jnm ha hdb he hpl
def Vc(c:CalM X.prog X.w X.K X.mg X.base x C k ps sp)(hr:Room (k+1) X.A)(hg:Gl X x)(ha:PA X (e::es) t)(hdb:(x == ("__debug__":Str))=false:=by decide)
 (he:starEach (e::es) X.env=(false,eval e X.env)::starEach es X.env:=by rfl) (hpl:(backTo pos (starEach es X.env)).any (·.1)=false:=by rfl):PE X (.Call (.Name x p) (e::es) [] pos) (JgI C sp [] E0 t):=by
 obtain⟨f,fd,M,F,h1,h3⟩:=c.ex;exact JlZ M F hr hg h1 h3 .nil Jnm ha hdb he hpl
noncomputable def JeI(K:QE)(tl:TE):TI:=fun σ H R=>Jnb K tl σ H R\/Jqv K tl σ H R
def Jo0(hl:PE X l tl):PI X tg l (JeI X.K tl):=by
 intro pins s σ H R I h;rcases h with h|h
 ·exact Jl0 hl pins s σ H R I h
 ·exact Jo1 hl pins s σ H R I h
def Wu(h1:sc.kind=.function)(h2:(sc.names.all (fun y=>y.2 != .free && y.2 != .cell && (y.2 != .local || sc.names.lookup y.1 == some .local)) && imp.all (·.isNone) && (imp.length == N'.length))=true):Blk X sc [] N' imp:=by
 simp only[Q6,Ka] at h2;obtain⟨⟨h2,h3⟩,h4⟩:=h2
 have nofree:∀y∈sc.names,y.2≠.free:=fun y hy=>by
  have:=(h2 y hy).1.1
  simpa using this
 have nocell:∀y∈sc.names,y.2≠.cell:=fun y hy=>by
  have:=(h2 y hy).1.2
  simpa using this
 refine⟨closureFor_none nofree,h1,nocell,fun y hy hl=>?_,(fun p hp=>nomatch hp),fun y hy hk=>?_,by simpa using h4,fun p hp k e=>?_⟩
 ·have:=(h2 y hy).2;rw[hl] at this
  simpa using this
 ·have:(relabel sc X.env).names=sc.names:=by
   unfold relabel;refine map_eq_self fun x hx=>?_
   obtain⟨n,q⟩:=x;have:(q == NameKind.free)=false:=by simpa using nofree _ hx
   simp[this]
  rw[this] at hy;rcases hk with z|z
  ·exact absurd z (nocell y hy)
  ·exact absurd z (nofree y hy)
 ·have:=h3 p.1 (Lr hp).1;rw[e] at this;cases this
section
variable{K:QE}{σ:St}{H H1:Hp}{Q:VK}{i:Nat}{v:V}{ta tb te:TE}{r:R2}{D:Ends}{t u:TS}{c:TT}
def Jps(h:σ[i]?=some (some v))(q:Q v H):V2 i σ H Q:=⟨v,h,q⟩
def Jr1(q:Q v H):tC v σ H Q:=q
def Jri(q:ta σ H fun x H1=>tb σ H1 fun y H2=>r x y H2 Q):tOp r ta tb σ H Q:=q
def Jrh(q:Q (g a b) H):rI0 g (.int a) (.int b) H Q:=⟨a,b,rfl,rfl,q⟩
def Jmb(q:Q (.int (a+b)) H):Jgl K (.int a) (.int b) H Q:=.inl ⟨a,b,rfl,rfl,q⟩
def Jmj(q:Q (.bl (!decide (x=.non))) H):JjR x .non H Q:=⟨rfl,q⟩
def JjZ(q:Q (.int (max a b)) H):Jpb [.int a,.int b] H Q:=⟨a,b,rfl,by
 have e:(if b>a then b else a)=max a b:=by rw[Int.max_def];split <;> split <;> omega
 rw[e];exact q⟩
def Jj0(q:Q (.int (min a b)) H):Jpc [.int a,.int b] H Q:=⟨a,b,rfl,by
 have e:(if b<a then b else a)=min a b:=by rw[Int.min_def];split <;> split <;> omega
 rw[e];exact q⟩
def Jml(q:te σ H fun x H'=>∃k,x=.bl k/\Qb k H'):JgK te σ H Qb:=q
def Jph(q:c σ H fun b H1=>if b=true then c' σ H1 Qb else Qb false H1):JpL c c' σ H Qb:=q
def Jpq(q:t { D with nx:=u D } σ H):JpP t u D σ H:=q
def Jpi(q:te σ H fun x H1=>g x σ H1 D.nx):JcD te g D σ H:=q
def JjY(q:Qs (σ.set i (some v)) H):U1 i v σ H Qs:=q
def Jpj(q:c σ H fun b H1=>if b=true then t D σ H1 else u D σ H1):JmJ c t u D σ H:=q
def Jmd(q:te σ H fun _ H1=>D.nx σ H1):W4 te D σ H:=q
def Jmi(q:D.nx σ H):Jkq D σ H:=q
def Jmc(q:ta σ H fun x H1=>tr σ H1 fun xs H2=>Ql (x::xs) H2):Y5 ta tr σ H Ql:=q
def Jpo(q:Ql [] H):Vo σ H Ql:=q
def Jrg{r:List V->Hp->VK->Prop}(q:ts σ H fun vs H1=>r vs H1 Q):tCB r ts σ H Q:=q
def Jgo(q:ts σ H fun vs H1=>sp vs H1 Q E):JgG sp [] E ts σ H Q:=by
 have e:(fun vs H1=>sp (vs++[]) H1 Q E)=fun vs H1=>sp vs H1 Q E:=by funext vs H1;rw[Gi]
 show ts σ H fun vs H1=>sp (vs++[]) H1 Q E
 rw[e];exact q
noncomputable def Jh3(xs:List V)(H:Hp)(Q:VK):Prop:=xs.length<=Qt/\∀p,H p=none->Q (.ref p) (upd H p (.tup xs))
def Jpr(q:ts σ H fun xs H1=>Jh3 xs H1 Q):Jks ts σ H Q:=q
def JnJ(hl:xs.length<=Qt)(q:∀p H',H p=none->Same H H'->H' p=some (.tup xs)->Q (.ref p) H'):Jh3 xs H Q:=⟨hl,fun p hp=>q p _ hp (.new hp) Jn⟩
def Jmf(h:SqL K H a xs)(q:Q (.int xs.length) H):Je3 K [.ref a] H Q:=⟨_,_,rfl,.inl ⟨xs,h,rfl⟩,q⟩
def Jmh(h:SqT K H a xs)(q:Q (.int xs.length) H):Je3 K [.ref a] H Q:=⟨_,_,rfl,.inr ⟨xs,h,rfl⟩,q⟩
def Jmg(h:x.length<=Qt)(q:Q (.int x.length) H):Je3 K [.str x] H Q:=⟨_,_,rfl,⟨h,rfl⟩,q⟩
def JhR(h:SqL K H a xs)(q:∀p H',H p=none->Same H H'->H' p=some (.tup xs)->Q (.ref p) H'):Jan K [.ref a] H Q:=⟨a,xs,rfl,.inl ⟨h,fun p hp=>q p _ hp (.new hp) Jn⟩⟩
def Jpl(h:SqL K H a xs)(e:atI xs j=some v)(q:Q v H):rIx K (.ref a) (.int j) H Q:=.inl ⟨a,xs,j,v,rfl,rfl,h,e,q⟩
def Jpn(h:SqT K H a xs)(e:atI xs j=some v)(q:Q v H):rIx K (.ref a) (.int j) H Q:=.inr (.inl ⟨a,xs,j,v,rfl,rfl,h,e,q⟩)
def Jpm{z:Str}{j:Int}{c:Nat}(hz:z.length<=Qt)(e:atI z.cps.toList j=some c)(q:Q (.str ⟨#[c]⟩) H):rIx K (.str z) (.int j) H Q:=.inr (.inr ⟨z,j,c,rfl,rfl,hz,e,q⟩)
def Jpk{x:V}{n:String}{t:Qe}{b:Bool}(ty:TyS K H x t)(e:kitOne K t (.type n)=some b)(q:Q (.bl b) H):Jl9 K [x,.ty n] H Q:=⟨x,_,t,_,b,rfl,ty,fun _ r=>r,e,q⟩
def Jgp(h:SqT K H a xs)(hl:xs.length=n)(q:ts xs σ H Qs):Jhi K n ts (.ref a) σ H Qs:=⟨a,xs,rfl,h,hl,q⟩
def JjX{t:TG}{u:TGs}{x:V}{xs:List V}{Qs:St->Hp->Prop}(q:t x σ H fun σ' H'=>u xs σ' H' Qs):JfX t u (x::xs) σ H Qs:=⟨x,xs,rfl,q⟩
def Jme(q:Qs σ H):Jlm [] σ H Qs:=⟨rfl,q⟩
def Jmk(q:tv σ H fun y H1=>ta σ H1 fun x H2=>∃a C dx fs,x=.ref a/\H2 a=some (.ins C dx fs)/\Cls K C/\NoAttr K C f/\fs.length<1000/\D.nx σ (upd H2 a (.ins C dx (putF f y fs)))):Jpv K ta tv f D σ H:=q
def Jpt(q:Qb true H):JpR σ H Qb:=q
def ifd{c A B:Prop}[Decidable c](h1:c->A)(h2:¬c->B):if decide c=true then A else B:=by
 by_cases h:c
 ·rw[if_pos (decide_eq_true h)];exact h1 h
 ·rw[if_neg (by simpa using h)];exact h2 h
def ifT{A B:Prop}(e:b=true)(h:A):if b=true then A else B:=by rw[if_pos e];exact h
def ifF{A B:Prop}(e:b=false)(h:B):if b=true then A else B:=by rw[if_neg (by rw[e];exact Qx)];exact h
def JhQ{tl:TE}{g:TG}{a:Qj}{xs:List V}(hx:∀R:VK,R (.ref a) H1->tl σ H R)(hq:SqL K H1 a xs\/SqT K H1 a xs)(Pv:Nat->St->Hp->Prop)(h0:Pv 0 σ H1)(hS:∀i σ' H',Pv i σ' H'->Same H1 H')
 (hs:∀i x σ' H',xs[i]?=some x->Pv i σ' H'->g x σ' H' fun σ2 H2=>t { D with nx:=Pv (i+1),ct:=Pv (i+1),bk:=D.nx } σ2 H2) (hd:∀σ' H',Pv xs.length σ' H'->D.nx σ' H'):JmI (JeI K tl) g t D σ H:=by
 rcases hq with hq|hq
 ·exact .inl (hx _ ⟨a,rfl,⟨xs,hq⟩,JiT (xs:=xs) Pv h0 (fun i σ' H' _ p=>(hS i σ' H' p).seq hq) hs hd⟩)
 ·exact .inr (hx _ ⟨a,rfl,⟨xs,hq⟩,Jlk (xs:=xs) Pv h0 (fun i σ' H' _ p=>(hS i σ' H' p).seqT hq) hs hd⟩)
def JfH{J:It}{g:TG}{tt:TT}{imp:List (Option Nat)}{n:Nat}(hn:n<=Qt)(Pv:Nat->List V->St->Hp->Prop)(h0:Pv 0 [] (ZP imp σ) H1)(hy:∀i ys σ' H',Pv i ys σ' H'->ys.length<=i)
 (hstop:∀ys σ' H',Pv n ys σ' H'->J.stop n H') (hgo:∀i ys σ' H',i<n->Pv i ys σ' H'->J.go i H')
 (hs:∀i ys x σ' H' H2,i<n->J.yld i H' x H2->Pv i ys σ' H'->g x σ' H2 fun σ2 H3=>tt σ2 H3 fun b H4=>if b=true then te σ2 H4 fun y H5=>Pv (i+1) (ys++[y]) σ2 H5 else Pv (i+1) ys σ2 H4)
 (hd:∀ys σ' H',Pv n ys σ' H'->∀p H2,H' p=none->Same H' H2->H2 p=some (.lst ys)->Q (.ref p) H2) :
 ∃W:Nat->Nat->List V->St->Hp->Prop,(∃m,W 0 m [] (ZP imp σ) H1)/\∀i m ys σ' H',W i m ys σ' H' ->
  (J.stop i H'/\ys.length<=Qt/\∀D,H' D=none->Q (.ref D) (upd H' D (.lst ys))) ∨
  (J.go i H'/\ys.length<Qt/\∃N:List V->St->Hp->Prop,(∀ys' σ2 H2,N ys' σ2 H2->∃m',m'<m/\W (i+1) m' ys' σ2 H2) ∧
   ∀x H2,J.yld i H' x H2->g x σ' H2 fun σ2 H3=>tt σ2 H3 fun b H4=>if b=true then te σ2 H4 fun y H5=>N (ys++[y]) σ2 H5 else N ys σ2 H4):=by
 refine⟨fun i m ys σ' H'=>m=n-i/\i<=n/\Pv i ys σ' H',⟨n,by simp,GP _,h0⟩,?_⟩;rintro i m ys σ' H' ⟨rfl,hi,p⟩;have hl:=hy i ys σ' H' p
 by_cases hlt:i<n
 ·exact .inr ⟨hgo i ys σ' H' hlt p,by omega,fun ys' σ2 H2=>Pv (i+1) ys' σ2 H2,fun ys' σ2 H2 p'=>⟨n-(i+1),by omega,rfl,hlt,p'⟩,fun x H2 y=>hs i ys x σ' H' H2 hlt y p⟩
 ·have e:i=n:=by omega
  subst e;exact .inl ⟨hstop ys σ' H' p,by omega,fun q hq=>hd ys σ' H' p q _ hq (.new hq) Jn⟩
def Je4{tl:TE}{g:TG}{tt:TT}{imp:List (Option Nat)}{a:Qj}{xs:List V}(hx:∀R:VK,R (.ref a) H1->tl σ H R)(hq:SqL K H1 a xs\/SqT K H1 a xs)(hn:xs.length<=Qt)(Pv:Nat->List V->St->Hp->Prop)
 (h0:Pv 0 [] (ZP imp σ) H1) (hy:∀i ys σ' H',Pv i ys σ' H'->ys.length<=i) (hS:∀i ys σ' H',Pv i ys σ' H'->Same H1 H')
 (hs:∀i ys x σ' H',xs[i]?=some x->Pv i ys σ' H'->g x σ' H' fun σ2 H3=>tt σ2 H3 fun b H4=>if b=true then te σ2 H4 fun y H5=>Pv (i+1) (ys++[y]) σ2 H5 else Pv (i+1) ys σ2 H4)
 (hd:∀ys σ' H',Pv xs.length ys σ' H'->∀p H2,H' p=none->Same H' H2->H2 p=some (.lst ys)->Q (.ref p) H2):JgH (JeI K tl) g tt te imp σ H Q:=by
 rcases hq with hq|hq
 ·refine .inl (hx _ ⟨a,rfl,⟨xs,hq⟩,JfH (n:=xs.length) hn Pv h0 hy (fun ys σ' H' p=>⟨xs,(hS _ _ _ _ p).seq hq,Qp _⟩) (fun i ys σ' H' hi p=>⟨xs,xs[i],(hS _ _ _ _ p).seq hq,by simp[hi]⟩) (fun i ys x σ' H' H2 hi y p=>?_) hd⟩);obtain⟨e,y⟩:=y;subst e;exact hs i ys x σ' _ (y xs ((hS _ _ _ _ p).seq hq)) p
 ·refine .inr (hx _ ⟨a,rfl,⟨xs,hq⟩,JfH (n:=xs.length) hn Pv h0 hy (fun ys σ' H' p=>⟨xs,(hS _ _ _ _ p).seqT hq,Qp _⟩) (fun i ys σ' H' hi p=>⟨xs,xs[i],(hS _ _ _ _ p).seqT hq,by simp[hi]⟩) (fun i ys x σ' H' H2 hi y p=>?_) hd⟩);obtain⟨e,y⟩:=y;subst e;exact hs i ys x σ' _ (y xs ((hS _ _ _ _ p).seqT hq)) p
end
section
variable{X:Cx}{K:QE}{pos:Pos}
def Jge(hK:X.K=K):OpR X (binaryOp .Add) (Jgl K):=hK▸JlR
def UV(hK:X.K=K)(hu:X.A.units+64<cLine):OpR X (compareOp .Eq) (Jpa K):=hK▸JoM hu
def VW(hK:X.K=K)(hu:X.A.units+64<cLine):OpR X (compareOp .NotEq) (Jpd K):=hK▸JoQ hu
def YH(hK:X.K=K):J0 X (.builtin "len") (Je3 K):=hK▸Jg3
def JcT(hK:X.K=K):J0 X (.type "tuple") (Jan K):=hK▸JcU
def Jen(hK:X.K=K):J0 X (.type "list") (Jcr K):=hK▸Jeo
def JaX(hK:X.K=K):J0 X (.builtin "isinstance") (Jl9 K):=hK▸Jip
def Jlr(hK:X.K=K):IxR X (rIx K):=hK▸Jn9
def YF{e:GA}{ta:TE}{f:Str}(hK:X.K=K)(he:PE X e ta)(hb:attributeBase e f X.env (eval e X.env)=eval e X.env):PE X (.Attribute e f pos) (JpN K ta f):=hK▸JoX he hb
def Jl6{o value:GA}{f:Str}{pos':Pos}{ta tv:TE}(hK:X.K=K)(ha:PE X o ta)(hv:PE X value tv)(hs:swapsWith value (some (.Attribute o f pos')) pos.line X.env=pure false):PS X (.Assign [.Attribute o f pos'] value pos) (Jpv K ta tv f):=hK▸Jo5 ha hv hs
def Jl2(hK:X.K=K)(hl:PE X l tl):PI X tg l (JeI K tl):=hK▸Jo0 hl
def Jt{es:List GA}{k:Nat}{t:TGs}{n:Nat}(hK:X.K=K)(hc:X.calm=true)(h:PGs X es t)(hn:(assignEach es X.env).length=n)(hst:(assignEach es X.env).findIdx? (·.1)=none):PG X (.Tuple es k pos) (Jhi K n t):=hK▸JoZ hc h hn hst
def UX{a:GA}{ta:TE}(hK:X.K=K)(ha:PE X a ta)(he:∀whole,isTrue a X.env whole=(do let v <- whole;standAt a.pos;holding [v] (truthy v))):PT X a (JpQ K ta):=hK▸Jo7 ha he
def Yn{o e:GA}{es:List GA}{to:TE}{t:TA}{name:Str}{apos cpos:Pos}{T id:String}{r:V->List V->Hp->VK->Prop}(hK:X.K=K)(pa:PlainAttrs T)(slot:Slot T name id)(hty:typeOf (.builtin id)=pure (.type "method_descriptor"))(hm:MtR X id r)(ho:PE X o to)(ha:PA X (e::es) t)
 (hbase:attributeBase o name X.env (eval o X.env)=eval o X.env:=by rfl)
 (hfew:((backTo cpos (starEach (e::es) X.env)).all (fun x=>!x.1) && (backToKw cpos (keywordEach [] X.env)).all (fun x=>x.1.isSome)
  && decide ((e::es).length+([]:List R9).length+(if ([]:List R9).isEmpty then 0 else 1)<30))=true:=by rfl)
 (hline:(apos.endLine == cpos.line)=true:=by rfl) (hs:starEach (e::es) X.env=(false,eval e X.env)::starEach es X.env:=by rfl) (hplain:(backTo cpos (starEach es X.env)).any (·.1)=false:=by rfl) :
 PE X (.Call (.Attribute o name apos) (e::es) [] cpos) (tBM K T r to t):=hK▸JqY pa slot hty hm ho ha hbase hfew hline hs hplain
def JlU{o:GA}{to:TE}{name:Str}{apos cpos:Pos}{T id:String}{r:V->List V->Hp->VK->Prop}(hK:X.K=K)(pa:PlainAttrs T)(slot:Slot T name id)(hty:typeOf (.builtin id)=pure (.type "method_descriptor"))(hm:MtR X id r)(ho:PE X o to)
 (hbase:attributeBase o name X.env (eval o X.env)=eval o X.env:=by rfl) (hline:(apos.endLine == cpos.line)=true:=by rfl):PE X (.Call (.Attribute o name apos) [] [] cpos) (JpM K T r to):=hK▸JoW pa slot hty hm ho hbase hline
end
end L2
namespace LR
open PySem L2
def sz2{a b:V}:[a,b].length<=Qt:=by show 2<=Qt;decide
noncomputable abbrev Pr:=Int×Int
noncomputable def prD(p:Pr):PyData:=.tuple [.int p.1,.int p.2]
def Jl3(r:Rep K H v (prD p)):∃a,v=.ref a/\SqT K H a [.int p.1,.int p.2]:=by
 obtain⟨a,xs,rfl,h,l,q⟩:=r.tupI
 match xs,l,q,h with
 | [x,y],_,q,h =>
  have e1:=(q 0 x (.int p.1) rfl rfl).intI
  have e2:=(q 1 y (.int p.2) rfl rfl).intI;subst e1 e2;exact⟨a,rfl,h⟩
def JjF(h:SqT K H a [.int b,.int n]):Rep K H (.ref a) (prD (b,n)):=.tupL h (.cons (.int b) (.cons (.int n) .nil))
def Jl4(h:H a=some (.tup [.int b,.int n])):Rep K H (.ref a) (prD (b,n)):=JjF (.of h)
noncomputable abbrev Prs(K:QE)(H:Hp)(vs:List V)(ps:List Pr):Prop:=RepL K H vs (ps.map prD)
def Prs.len(r:Prs K H vs ps):vs.length=ps.length:=by have:=r.1;rwa [Qm] at this
def Prs.at{vs:List V}{ps:List Pr}{i:Nat}{v:V}(r:Prs K H vs ps)(e:vs[i]?=some v):∃p a,ps[i]?=some p/\v=.ref a/\SqT K H a [.int p.1,.int p.2]:=by
 obtain⟨d,h1,h2⟩:=r.get' e;rw[Qw] at h1
 cases hp:ps[i]? with
 | none=>rw[hp] at h1;cases h1
 | some p=>rw[hp] at h1;cases h1;obtain⟨a,e1,e2⟩:=Jl3 h2;exact⟨p,a,rfl,e1,e2⟩
def Prs.snoc(r:Prs K H vs ps)(h:Rep K H v (prD p)):Prs K H (vs++[v]) (ps++[p]):=by show RepL K H _ _;rw[QF];exact RepL.snoc r h
noncomputable def JkP(K:QE)(H:Hp)(v:V)(ps:List Pr):Prop:=∃a vs,v=.ref a/\(SqL K H a vs\/SqT K H a vs)/\Prs K H vs ps
structure Good (ps:List Pr):Prop where
 one:∀(i:Nat) (p:Pr),ps[i]?=some p->1<=p.2
 gap:∀(i:Nat) (p q:Pr),ps[i]?=some p->ps[i+1]?=some q->p.1+p.2<q.1
def Good.nil:Good []:=⟨fun i p e=>by simp at e,fun i p q e=>by simp at e⟩
noncomputable def Je5(t:Qj):List (Str×V):=[("stretches",.ref t)]
noncomputable def Jqb(C:Qj)(K:QE)(H:Hp)(v:V)(ps:List Pr):Prop :=
 ∃x dx t ts,v=.ref x/\H x=some (.ins C dx (Je5 t))/\H t=some (.tup ts)/\Prs K H ts ps
structure RowC (K:QE) (C:Qj):Prop where
 cl:Cls K C
 ns:NoAttr K C "stretches"
def JhS(t:Qj):(Je5 t).lookup ("stretches":Str)=some (.ref t):=by
 unfold Je5;rw[List.lookup_cons];have:(("stretches":Str) == ("stretches":Str))=true:=by decide +kernel
 rw[this]
def JjJ(t:Qj):putF "stretches" (.ref t) []=Je5 t:=rfl
noncomputable def JcC(K:QE):Sp:=fun vs H Q _=>∃v ps,vs=[v]/\JkP K H v ps/\Good ps/\∀H',Same H H'->Q .non H'
noncomputable def Vn(C:Qj)(K:QE):Sp:=fun vs H Q _=>∃x dx v ps,vs=[.ref x,v]/\H x=some (.ins C dx [])/\JkP K H v ps/\Good ps/\ps.length<=30 ∧
 ∀H' t ts,SameEx x H H'->H' x=some (.ins C dx (Je5 t))->H' t=some (.tup ts)->Prs K H' ts ps->Q .non H'
noncomputable def Jh4(C:Qj)(sp:Sp)(E:XK)(vs:List V)(H1:Hp)(Q:VK):Prop:=∀x dx,H1 x=none->H1 dx=none->dx≠x ->
 sp (.ref x::vs) (upd (upd H1 dx (.own x)) x (.ins C dx [])) (fun v H2=>v=.non/\Q (.ref x) H2) E
def Jgq(q:ts σ H fun vs H1=>Jh4 C sp E vs H1 Q):JgI C sp [] E ts σ H Q:=by
 have e:(fun vs H1=>Jh4 C sp E vs H1 Q)=fun vs H1=>∀x dx,H1 x=none->H1 dx=none->dx≠x->sp (.ref x::(vs++[])) (upd (upd H1 dx (.own x)) x (.ins C dx [])) (fun v H2=>v=.non/\Q (.ref x) H2) E:=by funext vs H1;rw[Gi];rfl
 show ts σ H _;rw[<- e];exact q
def Jpp(h:JkP K H v ps)(g:Good ps)(hl:ps.length<=30)(q:∀x H',H x=none->Same H H'->Jqb C K H' (.ref x) ps->Q (.ref x) H'):Jh4 C (Vn C K) E [v] H Q:=by
 intro x dx nx ndx nex
 have s0:Same H (upd (upd H dx (.own x)) x (.ins C dx [])):=fun b o e=>by rw[Ji (Jq e nx),Ji (Jq e ndx)];exact e
 obtain⟨a,vs,rfl,hq,hp⟩:=h;refine⟨x,dx,_,ps,rfl,Jn,⟨a,vs,rfl,hq.imp s0.seq s0.seqT,RepL.mono s0 hp⟩,g,hl,fun H' t ts e h1 h2 h3=>⟨rfl,q x H' nx (fun b o h=>e b o (Jq h nx) (s0 b o h)) ⟨x,dx,t,ts,rfl,h1,h2,h3⟩⟩⟩
noncomputable def cell(ns:List Int)(k:Int):Int:=ns.getD k.toNat 0
def Jir(h:¬k<(ns.length:Int)):cell ns k=0:=by unfold cell;rw[QV,GO (by omega)];rfl
noncomputable def JhK(l:List Int)(k:Int):Int:=l.getD k.toNat 0
def JjD{l:List Int}{k:Int}{P:Int->Prop}(h0:0<=k)(h1:k<(l.length:Int))(h:∀x∈l,P x):P (JhK l k):=by
 unfold JhK;have:k.toNat<l.length:=by omega
 rw[QV,Qy this];exact h _ (LM this)
noncomputable def Jfx(ps:List Pr):Nat->V
 | 0=>.non
 | i+1=>match ps[i]? with
  | some p=>.int (p.1+p.2)
  | none=>.non
def U4(e:ps[i]?=some p):Jfx ps (i+1)=.int (p.1+p.2):=by show(match ps[i]? with|some p=>V.int (p.1+p.2)|none=>V.non)=_;rw[e]
def Jit(h:JkP K H v ps)(g:Good ps)(q:∀H',Same H H'->Q .non H'):JcC K [v] H Q E:=⟨v,ps,rfl,h,g,q⟩
def JdJ(h:SqL K H a xs\/SqT K H a xs)(q:Q (.int xs.length) H):Je3 K [.ref a] H Q:=by
 rcases h with h|h
 ·exact Jmf h q
 ·exact Jmh h q
def SameEx.sqT'(e:SameEx x H H')(hx:H x=some (.ins C dx fs))(h:SqT K H a xs):SqT K H' a xs:=by
 rcases h with (h|⟨o,h⟩)|h
 ·exact .inl (.inl (e _ _ (Jbf h hx (by intro z;cases z)) h))
 ·exact .inl (.inr ⟨o,e _ _ (Jbf h hx (by intro z;cases z)) h⟩)
 ·exact .inr h
def Prs.monoIns(e:SameEx x H H')(hx:H x=some (.ins C dx fs))(r:Prs K H vs ps):Prs K H' vs ps:=by refine⟨r.1,fun i v d h1 h2=>?_⟩;obtain⟨p,a,e1,e2,e3⟩:=r.at h1;rw[Qw,e1] at h2;cases h2;subst e2;exact JjF (SameEx.sqT' e hx e3)
noncomputable def Jgx(K:QE):Sp:=fun vs H Q _=>∃(a:Qj) (ns:List Int),vs=[.ref a]/\SqL K H a (ns.map V.int)/\ns.length<=63/\∀H',Q (.bl true) H'
end LR
namespace L2
open PySem PySem.Spec PyProof.Rows
def WB(hh:A'.handled=none)(I:Inv X pins σ H s)(hq:SqL X.K H a vs\/SqT X.K H a vs)(h:∀(its:List Qe) (J:Qj) (fp wr:List Qj) (Sx:Nat->Q1->Prop) (s2:Qi),Vals vs its->Walks X.prog X.w A' J fp wr its.toArray.size (fun i v=>its.toArray[i]?=some v) Sx->Sx 0 s2.heap->(∀b∈fp,b<s2.heap.objs.size) ->
  (∀h' tk,(∀b o,b∉wr->s2.heap.get? b=some o->h'.get? b=some o)->Inv X pins σ H { s2 with heap:=h',toks:=tk })->Q (.ref J) s2):wpAny (model X.prog X.w) A' (pyIter (.ref a)) Q E s:=by
 have nin:∀b o,s.heap.get? b=some o->b∉[s.heap.objs.size]:=fun b o e z=>by
  have:b=s.heap.objs.size:=by simpa using z
  exact absurd (Qo e) (by rw[this];exact Gr _)
 rcases hq with hq|hq
 ·obtain⟨its,rv,p,hz⟩:=I.list hq;have hlt:a<s.heap.objs.size:=by obtain⟨_,e,_⟩:=p.isList;exact Qo e
  refine Mb p.isList ?_;refine h its _ _ _ _ _ rv (Walks.list hh _ a (QD hlt) its.toArray) ⟨⟨_,Qn _ rfl,rfl,rfl⟩,p.isList.push _⟩ (fun b hb=>?_) fun h' tk hk=>I.kept fun b o e=>hk b o (nin b o e) (Qh _ e)
  show b<(s.heap.push _).objs.size;rw[Gz];rcases Qk.mp hb with z|z
  ·rw[z];exact G2 _
  ·have:b=a:=by simpa using z
   rw[this];exact G5 hlt
 ·obtain⟨its,rv,p,hz⟩:=I.tuple hq;have ht:s.heap.IsTuple a its.toArray:=p;have hlt:a<s.heap.objs.size:=by obtain⟨_,e,_⟩:=ht;exact Qo e
  refine MU ht ?_;refine h its _ _ _ _ _ rv (Walks.tuple hh _ a (QD hlt) its.toArray) ⟨⟨_,Qn _ rfl,rfl,rfl⟩,?_⟩ (fun b hb=>?_) fun h' tk hk=>I.kept fun b o e=>hk b o (nin b o e) (Qh _ e)
  ·obtain⟨o,e,c⟩:=ht;exact⟨o,Qh _ e,c⟩
  ·show b<(s.heap.push _).objs.size;rw[Gz];rcases Qk.mp hb with z|z
   ·rw[z];exact G2 _
   ·have:b=a:=by simpa using z
    rw[this];exact G5 hlt
theorem W3(l:List Int):∀j,j<=l.length->preSum (fun i=>l.getD i 0) j=(l.take j).sum
 | 0,_=>by simp[preSum]
 | j+1,h=>by
  rw[preSum,W3 l j (by omega)];have hj:j<l.length:=by omega
  rw[List.take_add_one,MB];simp[hj]
section
variable{X:Cx}
noncomputable def Jpg(K:QE):List V->Hp->VK->Prop:=fun xs H Q=>∃(a:Qj) (ns:List Int),xs=[.ref a]/\(SqL K H a (ns.map V.int)\/SqT K H a (ns.map V.int))/\Q (.int ns.sum) H
def Jha(hc:X.calm=true):J0 X (.builtin "sum") (Jpg X.K):=by
 intro pins s σ H xs us Q I r h;obtain⟨a,ns,rfl,hq,q⟩:=h;obtain⟨u,rfl,rx⟩:=Uo r;cases rx;refine call_sum_walkG (WB (A':=X.A.in1) (I.ok.hd hc) I hq fun its J fp wr Sx s2 rv W st hfp hI=>?_);have hi:=YR rv;have hl:=rv.length;rw[Qm] at hl;refine⟨J,fp,wr,_,_,Sx,fun i=>ns.getD i 0,rfl,W,st,hfp,fun i v e=>?_,fun h' tk t' hk=>?_⟩
 ·have e':its[i]?=some v:=by simpa using e
  obtain⟨x,e1,e2⟩:=rv.get' e';rw[Qw] at e1
  cases hn:ns[i]? with
  | none=>rw[hn] at e1;cases e1
  | some n=>rw[hn] at e1;cases e1;obtain⟨t,rfl⟩:=e2;exact⟨t,by simp[QV,hn]⟩
 ·refine⟨.int ns.sum,H,hI h' tk hk,⟨t',?_⟩,q⟩;rw[show its.toArray.size=ns.length by simp[hl],W3 ns _ (Qp _),List.take_length]
noncomputable def Jo9(K:QE):List V->Hp->VK->Prop:=fun xs H Q=>∃(a:Qj) (bs:List Bool),xs=[.ref a]/\(SqL K H a (bs.map V.bl)\/SqT K H a (bs.map V.bl))/\Q (.bl (bs.any id)) H
noncomputable def Jo8(K:QE):List V->Hp->VK->Prop:=fun xs H Q=>∃(a:Qj) (bs:List Bool),xs=[.ref a]/\(SqL K H a (bs.map V.bl)\/SqT K H a (bs.map V.bl))/\Q (.bl (bs.all id)) H
def JhP(bs:List Bool):(Ge bs.length).any (fun i=>bs.getD i false)=bs.any id:=by
 rw[KF];simp only[Kz,MR,id];constructor
 ·rintro⟨i,hi,e⟩;simp[QV,hi] at e;exact⟨bs[i],LM hi,e⟩
 ·rintro⟨b,hb,rfl⟩;obtain⟨i,hi,e⟩:=GU.mp hb;exact⟨i,hi,by simp[QV,hi,e]⟩
def JhO(bs:List Bool):(Ge bs.length).all (fun i=>bs.getD i false)=bs.all id:=by
 rw[KF];simp only[Ka,MR,id];constructor
 ·intro h b hb;obtain⟨i,hi,e⟩:=GU.mp hb;have:=h i hi;simp[QV,hi] at this;rw[<- e];exact this
 ·intro h i hi;simp[QV,hi];exact h _ (LM hi)
def W5{bs:List Bool}{its:List Qe}(rv:Vals (bs.map V.bl) its):TruthOf X.prog X.w A (fun i v=>its.toArray[i]?=some v) (fun i=>bs.getD i false):=by
 intro i v s Q E e q;have e':its[i]?=some v:=by simpa using e
 obtain⟨x,e1,e2⟩:=rv.get' e';rw[Qw] at e1
 cases hn:bs[i]? with
 | none=>rw[hn] at e1;cases e1
 | some n =>
  rw[hn] at e1;cases e1;cases e2;have:bs.getD i false=n:=by simp[QV,hn]
  have q':Q (bs.getD i false) s:=q;rw[this] at q';exact KU q'
def Jg1(hc:X.calm=true):J0 X (.builtin "any") (Jo9 X.K):=by intro pins s σ H xs us Q I r h;obtain⟨a,bs,rfl,hq,q⟩:=h;obtain⟨u,rfl,rx⟩:=Uo r;cases rx;refine call_any_walk (WB (A':=X.A.in1) (I.ok.hd hc) I hq fun its J fp wr Sx s2 rv W st hfp hI=>?_);have hl:=rv.length;rw[Qm] at hl;refine⟨J,fp,wr,_,_,Sx,_,rfl,W,st,W5 rv,fun h' tk hk=>⟨.bl _,H,hI h' tk hk,rfl,?_⟩⟩;rw[show its.toArray.size=bs.length by simp[hl],JhP];exact q
def JgZ(hc:X.calm=true):J0 X (.builtin "all") (Jo8 X.K):=by intro pins s σ H xs us Q I r h;obtain⟨a,bs,rfl,hq,q⟩:=h;obtain⟨u,rfl,rx⟩:=Uo r;cases rx;refine call_all_walk (WB (A':=X.A.in1) (I.ok.hd hc) I hq fun its J fp wr Sx s2 rv W st hfp hI=>?_);have hl:=rv.length;rw[Qm] at hl;refine⟨J,fp,wr,_,_,Sx,_,rfl,W,st,W5 rv,fun h' tk hk=>⟨.bl _,H,hI h' tk hk,rfl,?_⟩⟩;rw[show its.toArray.size=bs.length by simp[hl],JhO];exact q
end
section
variable{X:Cx}{K:QE}
def Y8(hK:X.K=K)(hc:X.calm=true):J0 X (.builtin "sum") (Jpg K):=hK▸Jha hc
def Jg0(hK:X.K=K)(hc:X.calm=true):J0 X (.builtin "any") (Jo9 K):=hK▸Jg1 hc
def JgY(hK:X.K=K)(hc:X.calm=true):J0 X (.builtin "all") (Jo8 K):=hK▸JgZ hc
end
noncomputable def AllP{α:Type}(P:α->Prop):List α->Prop
 | []=>True
 | x::xs=>P x/\AllP P xs
theorem AllP.mem{α:Type}{P:α->Prop}:∀{l:List α},AllP P l->∀x∈l,P x
 | [],_,x,hx=>nomatch hx
 | y::l,h,x,hx=>by
  rcases Qk.mp hx with z|z
  ·rw[z];exact h.1
  ·exact AllP.mem h.2 x z
def VT{cl:List (Str×Qj)}(h:cl.any (fun p=>p.1 == x)=true):(cl.lookup x).isSome=true:=by
 induction cl with
 | nil=>simp at h
 | cons p cl ih =>
  obtain⟨n,a⟩:=p;rw[List.lookup_cons]
  by_cases e:x == n
  ·rw[e];rfl
  ·have e':(x == n)=false:=by simpa using e
   rw[e'];rw[Km] at h;rcases Bool.or_eq_true_iff.mp h with z|z
   ·have:n=x:=eq_of_beq z;rw[this] at e';simp at e'
   ·exact ih z
def JbC{X:Cx}{sc:Ra}{cl:List (Str×Qj)}{own:List Str}{fr:List (Str×Nat)}(h1:sc.kind=.function)(h2:closureFor sc X.env=pure cl)
 (h3:(sc.names.all fun y=>y.2 != .cell && (y.2 != .local || sc.names.lookup y.1 == some .local))=true) (h4:AllP (fun p=>X.env.cells.lookup p.1=some p.2) cl)
 (h5:((relabel sc X.env).names.all fun y=>(y.2 != .cell && y.2 != .free) || cl.any (fun p=>p.1 == y.1))=true)
 (h6:AllP (fun p=>X.N[p.2]?=some p.1/\X.env.scope.names.lookup p.1=some .cell/\(relabel sc X.env).names.lookup p.1=some .cell) fr) :
 Blk X sc cl (own++fr.map (·.1)) (own.map (fun _=>none)++fr.map (fun p=>some p.2)):=by
 simp only[Ka,Q6] at h3;simp only[Ka] at h5;refine⟨h2,h1,fun y hy=>?_,fun y hy hl=>?_,AllP.mem h4,fun y hy hk=>?_,by simp,fun p hp k e=>?_⟩
 ·have:=(h3 y hy).1
  simpa using this
 ·have:=(h3 y hy).2;rw[hl] at this
  simpa using this
 ·have:=h5 y hy;rcases Bool.or_eq_true_iff.mp this with z|z
  ·rcases hk with q|q
   ·rw[q] at z;simp at z
   ·rw[q] at z;simp at z
  ·exact VT z
 ·rw[MC (by simp)] at hp;rcases Gd.mp hp with z|z
  ·have:=(Lr z).1;obtain⟨_,_,q⟩:=QC.mp this;rw[<- q] at e;cases e
  ·rw[List.zip_map_left] at z;obtain⟨q,hq,eq⟩:=QC.mp z
   have hz:q.1∈fr/\q.1.1=q.2:=by
    clear h6 e eq z hp;rw[List.zip_map_right] at hq;obtain⟨q',hq',eq'⟩:=QC.mp hq
    have:q'.1=q'.2:=by
     clear eq' hq
     induction fr with
     | nil=>cases hq'
     | cons x fr ih =>
      rcases Qk.mp hq' with z|z
      ·rw[z]
      ·exact ih z
    rw[<- eq'];exact⟨(Lr hq').1,by show q'.1.1=q'.2.1;rw[this]⟩
   obtain⟨a1,a2,a3⟩:=AllP.mem h6 q.1 hz.1;rw[<- eq] at e ⊢;have ek:q.1.2=k:=by simpa using e
   subst ek;rw[hz.2] at a1 a2 a3;exact⟨a1,.inl a2,.inl a3⟩
end L2
namespace LR
open PySem L2
noncomputable def Small(i:Int):Prop:=i.natAbs.log2<1920
def Small.of{i:Int}(h:i.natAbs<2 ^ 1920):Small i:=by
 unfold Small
 by_cases h0:i.natAbs=0
 ·rw[h0];decide
 ·exact(Nat.log2_lt h0).mpr h
def Small.le(h1:-(10 ^ 100)<=i)(h2:i<=10 ^ 100):Small i:=Small.of (by
 have h3:i.natAbs<=10 ^ 100:=by omega
 exact Kn h3 (by decide +kernel))
end LR
namespace LE
open PySem L2 LR
inductive D where
 | non|bl (b:Bool)|int (i:Int)|str (x:Str)|tup (l:List D)|lst (l:List D)|fz (l:List D)|row (l:List D)|dct (ks:List Int) (l:List D)|dfz (ks:List Int) (l:List D)|exc (n:Str)
noncomputable def dkO(ks:List Int)(xs:List V):HO:=.dK ((ks.map Sum.inl).zip xs)
noncomputable def dtK(p:Int×Int):List Key:=[Sum.inl p.1,Sum.inl p.2]
noncomputable def dtO(ps:List (Int×Int))(xs:List V):HO:=.dT ((ps.map dtK).zip xs)
noncomputable def XO(a:Qj)(c:Qe):HO:=.ext fun h=>∃o,h.get? a=some o/\o.cls=c/\PySem.W.notCls o=true/\o.dict=none
section
variable(K:QE)(C:Qj)
inductive RD (H:Hp):V->D->Prop
 | non:RD H .non .non
 | bl (b:Bool):RD H (.bl b) (.bl b)
 | int (i:Int):RD H (.int i) (.int i)
 | str (x:Str):RD H (.str x) (.str x)
 | tup {a:Qj} {xs:List V} {ds:List D}:SqT K H a xs->xs.length=ds.length->(∀(i:Nat) (x:V) (d:D),xs[i]?=some x->ds[i]?=some d->RD H x d)->RD H (.ref a) (.tup ds)
 | lst {a:Qj} {xs:List V} {ds:List D}:H a=some (.lst xs)->xs.length=ds.length->(∀(i:Nat) (x:V) (d:D),xs[i]?=some x->ds[i]?=some d->RD H x d)->RD H (.ref a) (.lst ds)
 | fz {a:Qj} {xs:List V} {ds:List D}:SqL K H a xs->xs.length=ds.length->(∀(i:Nat) (x:V) (d:D),xs[i]?=some x->ds[i]?=some d->RD H x d)->RD H (.ref a) (.fz ds)
 | row {x dx t:Qj} {ts:List V} {ds:List D}:H x=some (.ins C dx (Je5 t))->SqT K H t ts->ts.length=ds.length->(∀(i:Nat) (x:V) (d:D),ts[i]?=some x->ds[i]?=some d->RD H x d)->RD H (.ref x) (.row ds)
 | dct {a:Qj} {ks:List Int} {xs:List V} {ds:List D}:H a=some (dkO ks xs)->ks.length=ds.length->xs.length=ds.length->(∀(i:Nat) (x:V) (d:D),xs[i]?=some x->ds[i]?=some d->RD H x d)->RD H (.ref a) (.dct ks ds)
 | dfz {a:Qj} {ks:List Int} {xs:List V} {ds:List D} {o:Obj}:H a=some (.frz o (dkO ks xs))->ks.length=ds.length->xs.length=ds.length->(∀(i:Nat) (x:V) (d:D),xs[i]?=some x->ds[i]?=some d->RD H x d)->RD H (.ref a) (.dfz ks ds)
 | exc {a c:Qj} {n:Str}:H a=some (XO a (.ref c))->nsIn K mainGlobals n=some (some (.ref c))->RD H (.ref a) (.exc n)
noncomputable def RDL(H:Hp)(xs:List V)(ds:List D):Prop:=xs.length=ds.length/\∀(i:Nat) (x:V) (d:D),xs[i]?=some x->ds[i]?=some d->RD K C H x d
end
def RD.mono(e:Same H H')(r:RD K C H v d):RD K C H' v d:=by
 induction r with
 | non=>exact .non
 | bl b=>exact .bl b
 | int i=>exact .int i
 | str x=>exact .str x
 | tup h l _ ih=>exact .tup (e.seqT h) l ih
 | lst h l _ ih=>exact .lst (e _ _ h) l ih
 | fz h l _ ih=>exact .fz (e.seq h) l ih
 | row h1 h2 l _ ih=>exact .row (e _ _ h1) (e.seqT h2) l ih
 | dct h1 h2 l _ ih=>exact .dct (e _ _ h1) h2 l ih
 | dfz h1 h2 l _ ih=>exact .dfz (e _ _ h1) h2 l ih
 | exc h1 h2=>exact .exc (e _ _ h1) h2
def RDL.mono(e:Same H H')(r:RDL K C H xs ds):RDL K C H' xs ds:=⟨r.1,fun i x d h1 h2=>(r.2 i x d h1 h2).mono e⟩
def RDL.nil:RDL K C H [] []:=⟨rfl,fun i x d e=>by simp at e⟩
def RDL.cons(h:RD K C H x d)(r:RDL K C H xs ds):RDL K C H (x::xs) (d::ds):=by
 refine⟨by simp[r.1],fun i y e h1 h2=>?_⟩
 cases i with
 | zero=>simp at h1 h2;subst h1 h2;exact h
 | succ i=>exact r.2 i y e (by simpa using h1) (by simpa using h2)
def RDL.append(r:RDL K C H xs ds)(q:RDL K C H ys es):RDL K C H (xs++ys) (ds++es):=by
 refine⟨by simp[r.1,q.1],fun i x d h1 h2=>?_⟩
 by_cases hi:i<xs.length
 ·rw[Gc hi] at h1;rw[Gc (by rw[<- r.1];exact hi)] at h2;exact r.2 i x d h1 h2
 ·rw[Gs (by omega)] at h1;rw[Gs (by rw[<- r.1];omega)] at h2;rw[<- r.1] at h2;exact q.2 _ x d h1 h2
def RDL.snoc(r:RDL K C H xs ds)(h:RD K C H x d):RDL K C H (xs++[x]) (ds++[d]):=r.append (.cons h .nil)
def RDL.get{xs:List V}{ds:List D}{i:Nat}{d:D}(r:RDL K C H xs ds)(e:ds[i]?=some d):∃x,xs[i]?=some x/\RD K C H x d:=by
 have hi:=(Qq.mp e).1
 have hx:i<xs.length:=by rw[r.1];exact hi
 exact⟨xs[i],by simp[hx],r.2 i _ d (by simp[hx]) e⟩
def RDL.head(r:RDL K C H (x::xs) (d::ds)):RD K C H x d:=r.2 0 x d rfl rfl
def RDL.tail(r:RDL K C H (x::xs) (d::ds)):RDL K C H xs ds:=⟨by have:=r.1;simpa using this,fun i y e h1 h2=>r.2 (i+1) y e (by simpa using h1) (by simpa using h2)⟩
def RDL.take(n:Nat)(r:RDL K C H xs ds):RDL K C H (xs.take n) (ds.take n):=by
 refine⟨by simp[r.1],fun i x d h1 h2=>?_⟩;rw[List.getElem?_take] at h1 h2;split at h1
 ·rw[if_pos (by assumption)] at h2;exact r.2 i x d h1 h2
 ·cases h1
def RDL.drop(n:Nat)(r:RDL K C H xs ds):RDL K C H (xs.drop n) (ds.drop n):=by refine⟨by simp[r.1],fun i x d h1 h2=>?_⟩;rw[List.getElem?_drop] at h1 h2;exact r.2 _ x d h1 h2
theorem RDL.ints:∀{xs:List V} {ns:List Int},RDL K C H xs (ns.map D.int)->xs=ns.map V.int
 | [],[],_=>rfl
 | [],_::_,r=>by have:=r.1;simp at this
 | _::_,[],r=>by have:=r.1;simp at this
 | x::xs,n::ns,r=>by have h:=r.head;cases h;rw[RDL.ints r.tail];rfl
theorem RDL.ofInts:∀(ns:List Int),RDL K C H (ns.map V.int) (ns.map D.int)
 | []=>.nil
 | n::ns=>.cons (.int n) (RDL.ofInts ns)
theorem RDL.bls:∀{xs:List V} {ns:List Bool},RDL K C H xs (ns.map D.bl)->xs=ns.map V.bl
 | [],[],_=>rfl
 | [],_::_,r=>by have:=r.1;simp at this
 | _::_,[],r=>by have:=r.1;simp at this
 | x::xs,n::ns,r=>by have h:=r.head;cases h;rw[RDL.bls r.tail];rfl
theorem RDL.strs:∀{xs:List V} {ns:List Str},RDL K C H xs (ns.map D.str)->xs=ns.map V.str
 | [],[],_=>rfl
 | [],_::_,r=>by have:=r.1;simp at this
 | _::_,[],r=>by have:=r.1;simp at this
 | x::xs,n::ns,r=>by have h:=r.head;cases h;rw[RDL.strs r.tail];rfl
def RD.mkT(h:SqT K H a xs)(r:RDL K C H xs ds):RD K C H (.ref a) (.tup ds):=.tup h r.1 r.2
def RD.mkL(h:H a=some (.lst xs))(r:RDL K C H xs ds):RD K C H (.ref a) (.lst ds):=.lst h r.1 r.2
def RD.mkF(h:SqL K H a xs)(r:RDL K C H xs ds):RD K C H (.ref a) (.fz ds):=.fz h r.1 r.2
def RD.tupI(r:RD K C H v (.tup ds)):∃a xs,v=.ref a/\SqT K H a xs/\RDL K C H xs ds:=by
 cases r with
 | tup h l q=>exact⟨_,_,rfl,h,l,q⟩
def RD.lstI(r:RD K C H v (.lst ds)):∃a xs,v=.ref a/\H a=some (.lst xs)/\RDL K C H xs ds:=by
 cases r with
 | lst h l q=>exact⟨_,_,rfl,h,l,q⟩
def RD.fzI(r:RD K C H v (.fz ds)):∃a xs,v=.ref a/\SqL K H a xs/\RDL K C H xs ds:=by
 cases r with
 | fz h l q=>exact⟨_,_,rfl,h,l,q⟩
def RD.rowI(r:RD K C H v (.row ds)):∃x dx t ts,v=.ref x/\H x=some (.ins C dx (Je5 t))/\SqT K H t ts/\RDL K C H ts ds:=by
 cases r with
 | row h1 h2 l q=>exact⟨_,_,_,_,rfl,h1,h2,l,q⟩
def RD.mkD(h:H a=some (dkO ks xs))(hk:ks.length=ds.length)(r:RDL K C H xs ds):RD K C H (.ref a) (.dct ks ds):=.dct h hk r.1 r.2
def RD.dctI(r:RD K C H v (.dct ks ds)):∃a xs,v=.ref a/\H a=some (dkO ks xs)/\ks.length=ds.length/\RDL K C H xs ds:=by
 cases r with
 | dct h hk l q=>exact⟨_,_,rfl,h,hk,l,q⟩
def RD.mkZ(h:H a=some (.frz o (dkO ks xs)))(hk:ks.length=ds.length)(r:RDL K C H xs ds):RD K C H (.ref a) (.dfz ks ds):=.dfz h hk r.1 r.2
def RD.dfzI(r:RD K C H v (.dfz ks ds)):∃a xs o,v=.ref a/\H a=some (.frz o (dkO ks xs))/\ks.length=ds.length/\RDL K C H xs ds:=by
 cases r with
 | dfz h hk l q=>exact⟨_,_,_,rfl,h,hk,l,q⟩
def RD.intI(r:RD K C H v (.int i)):v=.int i:=by cases r;rfl
def RD.strI(r:RD K C H v (.str i)):v=.str i:=by cases r;rfl
def RD.blI(r:RD K C H v (.bl i)):v=.bl i:=by cases r;rfl
def RD.nonI(r:RD K C H v .non):v=.non:=by cases r;rfl
mutual
noncomputable def D.py:D->PyData
 | .non=>.none
 | .bl b=>.bool b
 | .int i=>.int i
 | .str x=>.str x
 | .tup l=>.tuple (D.pyL l)
 | .lst l=>.list (D.pyL l)
 | .fz l=>.list (D.pyL l)
 | .row _=>.dict []
 | .dct _ _=>.dict []
 | .dfz _ _=>.dict []
 | .exc _=>.dict []
noncomputable def D.pyL:List D->List PyData
 | []=>[]
 | d::ds=>d.py::D.pyL ds
end
theorem Jgk:∀ds:List D,D.pyL ds=ds.map D.py
 | []=>rfl
 | d::ds=>by rw[D.pyL,Jgk ds];rfl
theorem ZV:∀{ds:List PyData},LC ds=true->∀d∈ds,d.canLay0=true
 | [],_,d,hd=>nomatch hd
 | x::ds,h,d,hd=>by
  have h':(PyData.canLay0 x && LC ds)=true:=h;rw[Q6] at h';rcases Qk.mp hd with z|z
  ·rw[z];exact h'.1
  ·exact ZV h'.2 d z
def RD.rep(r:RD K C H v d):d.py.canLay0=true->Rep K H v d.py:=by
 have all:∀{xs:List V} {ds:List D},xs.length=ds.length->(∀(i:Nat) (x:V) (d:D),xs[i]?=some x->ds[i]?=some d->d.py.canLay0=true->Rep K H x d.py)->LC (D.pyL ds)=true->RepL K H xs (D.pyL ds):=by
  intro xs ds l ih hc;rw[Jgk] at hc ⊢;refine⟨by simpa using l,fun i x d h1 h2=>?_⟩;rw[Qw] at h2
  cases e:ds[i]? with
  | none=>rw[e] at h2;cases h2
  | some q=>rw[e] at h2;cases h2;exact ih i x q h1 e (ZV hc _ (QC.mpr ⟨q,QI e,rfl⟩))
 induction r with
 | non=>intro _;exact .non
 | bl b=>intro _;exact .bl b
 | int i=>intro _;exact .int i
 | str x=>intro _;exact .str x
 | tup h l _ ih=>intro hc;exact .tupL h (all l ih hc)
 | lst h l _ ih=>intro hc;exact .lstL (.of h) (all l ih hc)
 | fz h l _ ih=>intro hc;exact .lstL h (all l ih hc)
 | row h1 h2 l _ ih=>intro hc;cases hc
 | dct h1 h2 l _ ih=>intro hc;cases hc
 | dfz h1 h2 l _ ih=>intro hc;cases hc
 | exc h1 h2=>intro hc;cases hc
inductive Sl where
 | no|sh (d:D)|bo (ds:List D)|own (ds:List D)|bd (ks:List Int) (ds:List D)|od (ks:List Int) (ds:List D)|bt (ps:List (Int×Int)) (ds:List D)|ot (ps:List (Int×Int)) (ds:List D)
noncomputable def Yj:Sl->Bool
 | .own _=>true
 | .od _ _=>true
 | .ot _ _=>true
 | _=>false
noncomputable def Jn5:Sl->Bool
 | .bo _=>true
 | .bd _ _=>true
 | .bt _ _=>true
 | _=>false
section
variable(K:QE)(C:Qj)
noncomputable def RR(Hs H0 H:Hp)(v:V):Sl->Prop
 | .no=>False
 | .sh d=>RD K C H0 v d
 | .bo ds=>∃l xs,v=.ref l/\H l=some (.lst xs)/\RDL K C H0 xs ds
 | .own ds=>∃l xs,v=.ref l/\H l=some (.lst xs)/\H0 l=none/\Hs l=none/\RDL K C H0 xs ds
 | .bd ks ds=>∃l xs,v=.ref l/\H l=some (dkO ks xs)/\ks.length=ds.length/\RDL K C H0 xs ds
 | .bt ks ds=>∃l xs,v=.ref l/\H l=some (dtO ks xs)/\ks.length=ds.length/\RDL K C H0 xs ds
 | .od ks ds=>∃l xs,v=.ref l/\H l=some (dkO ks xs)/\H0 l=none/\Hs l=none/\ks.length=ds.length/\RDL K C H0 xs ds
 | .ot ks ds=>∃l xs,v=.ref l/\H l=some (dtO ks xs)/\H0 l=none/\Hs l=none/\ks.length=ds.length/\RDL K C H0 xs ds
noncomputable def RSl(B H0 H:Hp)(v:V):Sl->Prop
 | .no=>True
 | .sh d=>RD K C H0 v d
 | .bo ds=>∃l xs,v=.ref l/\B l=some (.lst xs)/\RDL K C H0 xs ds
 | .own ds=>∃l xs,v=.ref l/\H l=some (.lst xs)/\H0 l=none/\B l=none/\RDL K C H0 xs ds
 | .bd ks ds=>∃l xs,v=.ref l/\B l=some (dkO ks xs)/\ks.length=ds.length/\RDL K C H0 xs ds
 | .bt ks ds=>∃l xs,v=.ref l/\B l=some (dtO ks xs)/\ks.length=ds.length/\RDL K C H0 xs ds
 | .od ks ds=>∃l xs,v=.ref l/\H l=some (dkO ks xs)/\H0 l=none/\B l=none/\ks.length=ds.length/\RDL K C H0 xs ds
 | .ot ks ds=>∃l xs,v=.ref l/\H l=some (dtO ks xs)/\H0 l=none/\B l=none/\ks.length=ds.length/\RDL K C H0 xs ds
structure EnvR (B H0 H:Hp) (σ:St) (E:List Sl):Prop where
 b:Same B H
 h:Same H0 H
 len:σ.length=E.length
 at':∀(i:Nat) (s:Sl),E[i]?=some s->s=.no\/∃v,σ[i]?=some (some v)/\RSl K C B H0 H v s
 sep:∀(i j:Nat) (s t:Sl) (v:V),i≠j->E[i]?=some s->E[j]?=some t->Yj s=true->Yj t=true->σ[i]?=some (some v)->σ[j]?≠some (some v)
end
noncomputable def isT:HO->Bool
 | .tup _=>true
 | .frz _ (.tup _)=>true
 | _=>false
structure Step (Hs H0 H H0' H':Hp):Prop where
 h:Same H H'
 z:Same H0 H0'
 n:∀a o,H0' a=some o->H0 a=some o\/Hs a=none\/isT o=true
 i:Same H0' H'
structure SStep (B H0 H0' H':Hp):Prop where
 b:Same B H'
 z:Same H0 H0'
 n:∀a o,H0' a=some o->H0 a=some o\/B a=none\/isT o=true
 i:Same H0' H'
def Step.refl(i:Same H0 H):Step Hs H0 H H0 H:=⟨Same.refl _,Same.refl _,fun _ _ e=>.inl e,i⟩
def Step.comp(s1:Step Hs H0 H H0' H')(s2:Step Hs' H0' H' H0'' H'')(w:∀a,Hs' a=none->Hs a=none):Step Hs H0 H H0'' H'' :=
 ⟨s1.h.trans s2.h,s1.z.trans s2.z,fun a o e=>(s2.n a o e).elim (fun q=>s1.n a o q) fun q=>.inr (q.imp (w a) id),s2.i⟩
def Step.trans(s1:Step H H0 H H0' H')(s2:Step H' H0' H' H0'' H''):Step H H0 H H0'' H'':=s1.comp s2 fun _ q=>Same.free s1.h q
def Step.ss(b:Same B H)(s:Step H H0 H H0' H'):SStep B H0 H0' H':=⟨b.trans s.h,s.z,fun a o e=>(s.n a o e).imp id fun q=>q.imp (fun q=>Same.free b q) id,s.i⟩
def SStep.refl(b:Same B H)(i:Same H0 H):SStep B H0 H0 H:=⟨b,Same.refl _,fun _ _ e=>.inl e,i⟩
def SStep.trans(s1:SStep B H0 H0' H')(s2:SStep B H0' H0'' H''):SStep B H0 H0'' H'':=⟨s2.b,s1.z.trans s2.z,fun a o e=>(s2.n a o e).elim (fun q=>s1.n a o q) .inr,s2.i⟩
def RR.step(r:RR K C Hs H0 H v s)(st:Step H H0 H H0' H'):RR K C Hs H0' H' v s:=by
 cases s with
 | no=>exact r
 | sh d=>exact RD.mono st.z r
 | bo ds=>obtain⟨l,xs,e,h,q⟩:=r;exact⟨l,xs,e,st.h _ _ h,q.mono st.z⟩
 | bd ks ds=>obtain⟨l,xs,e,h,hk,q⟩:=r;exact⟨l,xs,e,st.h _ _ h,hk,q.mono st.z⟩
 | bt ks ds=>obtain⟨l,xs,e,h,hk,q⟩:=r;exact⟨l,xs,e,st.h _ _ h,hk,q.mono st.z⟩
 | own ds =>
  obtain⟨l,xs,e,h,n,m,q⟩:=r;refine⟨l,xs,e,st.h _ _ h,?_,m,q.mono st.z⟩
  cases z:H0' l with
  | none=>rfl
  | some o =>
   rcases st.n l o z with y|y|y
   ·rw[n] at y;cases y
   ·rw[h] at y;cases y
   ·have:=st.i l o z;rw[st.h _ _ h] at this;cases this;cases y
 | od ks ds =>
  obtain⟨l,xs,e,h,n,m,hk,q⟩:=r;refine⟨l,xs,e,st.h _ _ h,?_,m,hk,q.mono st.z⟩
  cases z:H0' l with
  | none=>rfl
  | some o =>
   rcases st.n l o z with y|y|y
   ·rw[n] at y;cases y
   ·rw[h] at y;cases y
   ·have:=st.i l o z;rw[st.h _ _ h] at this;cases this;cases y
 | ot ks ds =>
  obtain⟨l,xs,e,h,n,m,hk,q⟩:=r;refine⟨l,xs,e,st.h _ _ h,?_,m,hk,q.mono st.z⟩
  cases z:H0' l with
  | none=>rfl
  | some o =>
   rcases st.n l o z with y|y|y
   ·rw[n] at y;cases y
   ·rw[h] at y;cases y
   ·have:=st.i l o z;rw[st.h _ _ h] at this;cases this;cases y
def RR.weak(r:RR K C Hs' H0 H v s)(w:∀a,Hs' a=none->Hs a=none):RR K C Hs H0 H v s:=by
 cases s with
 | own ds=>obtain⟨l,xs,e,h,n,m,q⟩:=r;exact⟨l,xs,e,h,n,w _ m,q⟩
 | od ks ds=>obtain⟨l,xs,e,h,n,m,q⟩:=r;exact⟨l,xs,e,h,n,w _ m,q⟩
 | ot ks ds=>obtain⟨l,xs,e,h,n,m,q⟩:=r;exact⟨l,xs,e,h,n,w _ m,q⟩
 | _=>exact r
def RSl.owned(r:RSl K C B H0 H v s)(o:Yj s=true):∃l,v=.ref l/\H l≠none/\H0 l=none/\B l=none:=by
 cases s with
 | own ds=>obtain⟨l,xs,e,h,n,m,q⟩:=r;exact⟨l,e,(by rw[h];intro z;cases z),n,m⟩
 | od ks ds=>obtain⟨l,xs,e,h,n,m,q⟩:=r;exact⟨l,e,(by rw[h];intro z;cases z),n,m⟩
 | ot ks ds=>obtain⟨l,xs,e,h,n,m,q⟩:=r;exact⟨l,e,(by rw[h];intro z;cases z),n,m⟩
 | _=>cases o
def RR.owned(r:RR K C Hs H0 H v s)(o:Yj s=true):∃l,v=.ref l/\H l≠none/\H0 l=none/\Hs l=none:=by
 cases s with
 | own ds=>obtain⟨l,xs,e,h,n,m,q⟩:=r;exact⟨l,e,(by rw[h];intro z;cases z),n,m⟩
 | od ks ds=>obtain⟨l,xs,e,h,n,m,q⟩:=r;exact⟨l,e,(by rw[h];intro z;cases z),n,m⟩
 | ot ks ds=>obtain⟨l,xs,e,h,n,m,q⟩:=r;exact⟨l,e,(by rw[h];intro z;cases z),n,m⟩
 | _=>cases o
def EnvR.step(I:EnvR K C B H0 H σ E)(st:Step H H0 H H0' H'):EnvR K C B H0' H' σ E:=by
 refine⟨I.b.trans st.h,st.i,I.len,fun i s e=>?_,I.sep⟩;rcases I.at' i s e with z|⟨v,h1,h2⟩
 ·exact .inl z
 ·refine .inr ⟨v,h1,?_⟩
  cases s with
  | no=>trivial
  | sh d=>exact RD.mono st.z h2
  | bo ds=>obtain⟨l,xs,e,h,q⟩:=h2;exact⟨l,xs,e,h,q.mono st.z⟩
  | own ds=>exact RR.step (Hs:=B) (s:=.own ds) h2 st
  | bd ks ds=>obtain⟨l,xs,e,h,hk,q⟩:=h2;exact⟨l,xs,e,h,hk,q.mono st.z⟩
  | bt ks ds=>obtain⟨l,xs,e,h,hk,q⟩:=h2;exact⟨l,xs,e,h,hk,q.mono st.z⟩
  | od ks ds=>exact RR.step (Hs:=B) (s:=.od ks ds) h2 st
  | ot ks ds=>exact RR.step (Hs:=B) (s:=.ot ks ds) h2 st
def EnvR.sub(I:EnvR K C B H0 H σ E)(hl:E'.length=E.length)(h:∀(i:Nat) (s:Sl),E'[i]?=some s->s=.no\/E[i]?=some s):EnvR K C B H0 H σ E':=by
 refine⟨I.b,I.h,I.len.trans hl.symm,fun i s e=>?_,fun i j s t v hij e1 e2 o1 o2=>?_⟩
 ·rcases h i s e with z|z
  ·exact .inl z
  ·exact I.at' i s z
 ·rcases h i _ e1 with z|z
  ·subst z;cases o1
  ·rcases h j _ e2 with y|y
   ·subst y;cases o2
   ·exact I.sep i j s t v hij z y o1 o2
def EnvR.put(I:EnvR K C B H0 H σ E)(hi:i<E.length)(hB:∀a,Hs a=none->B a=none)(hf:∀(j:Nat) (t:Sl) (l:Qj),E[j]?=some t->Yj t=true->σ[j]?=some (some (.ref l))->Hs l≠none)(r:RR K C Hs H0 H v s)(hb:Jn5 s=false):EnvR K C B H0 H (σ.set i (some v)) (E.set i s):=by
 refine⟨I.b,I.h,by simp[I.len],fun j t e=>?_,fun j k s1 s2 u hjk e1 e2 o1 o2 e3 e4=>?_⟩
 ·rw[Ga] at e
  by_cases hj:i=j
  ·subst hj;rw[if_pos rfl,if_pos hi] at e;cases e;refine .inr ⟨v,by rw[Ga];simp[I.len,hi],?_⟩
   cases s with
   | no=>trivial
   | sh d=>exact r
   | bo ds=>cases hb
   | own ds=>obtain⟨l,xs,e,h,n,m,q⟩:=r;exact⟨l,xs,e,h,n,hB _ m,q⟩
   | bd ks ds=>cases hb
   | bt ks ds=>cases hb
   | od ks ds=>obtain⟨l,xs,e,h,n,m,q⟩:=r;exact⟨l,xs,e,h,n,hB _ m,q⟩
   | ot ks ds=>obtain⟨l,xs,e,h,n,m,q⟩:=r;exact⟨l,xs,e,h,n,hB _ m,q⟩
  ·rw[if_neg hj] at e;rcases I.at' j t e with z|⟨u,h1,h2⟩
   ·exact .inl z
   ·exact .inr ⟨u,by rw[Ga,if_neg hj];exact h1,h2⟩
 ·rw[Ga] at e1 e2 e3 e4
  by_cases hj:i=j
  ·subst hj;rw[if_neg hjk] at e2 e4;rw[if_pos rfl,if_pos hi] at e1;rw[if_pos rfl,if_pos (by rw[I.len];exact hi)] at e3;cases e3;cases e1;obtain⟨l,e,_,_,m⟩:=r.owned o1;subst e;exact hf k _ l e2 o2 e4 m
  ·rw[if_neg hj] at e1 e3
   by_cases hk:i=k
   ·subst hk;rw[if_pos rfl,if_pos hi] at e2;rw[if_pos rfl,if_pos (by rw[I.len];exact hi)] at e4;cases e2;have e4':v=u:=QQ (QQ e4);subst e4';obtain⟨l,e,_,_,m⟩:=r.owned o2;subst e;exact hf j _ l e1 o1 e3 m
   ·rw[if_neg hk] at e2 e4;exact I.sep j k _ _ u hjk e1 e2 o1 o2 e3 e4
def EnvR.ownG(I:EnvR K C B H0 H σ E){j:Nat}{t:Sl}{l:Qj}(e1:E[j]?=some t)(ho:Yj t=true)(e2:σ[j]?=some (some (.ref l))):H l≠none/\H0 l=none/\B l=none:=by
 rcases I.at' j _ e1 with z|⟨v,h1,h2⟩
 ·subst z;cases ho
 ·rw[e2] at h1;cases h1;obtain⟨l',e,h⟩:=h2.owned ho;cases e;exact h
def EnvR.put'{H1 H01:Hp}(I:EnvR K C B H0 H σ E)(st:Step H H0 H H01 H1){i:Nat}(hi:i<E.length)(r:RR K C H H01 H1 v s)(hb:Jn5 s=false):EnvR K C B H01 H1 (σ.set i (some v)) (E.set i s) :=
 (I.step st).put hi (fun a q=>Same.free I.b q) (fun j t l e1 o1 e2=>(I.ownG e1 o1 e2).1) r hb
noncomputable def Jf1:Option HO->Option HO
 | some o=>if isT o=true then some o else none
 | none=>none
noncomputable def JN(Hs H0 H:Hp):Hp:=fun a=>match H0 a with
 | some o=>some o
 | none=>match Hs a with
  | none=>H a
  | some _=>Jf1 (H a)
def ZU(e:Jf1 o=some u):o=some u/\isT u=true:=by
 cases o with
 | none=>cases e
 | some w =>
  unfold Jf1 at e;dsimp only at e;split at e
  ·cases e;exact⟨rfl,by assumption⟩
  ·cases e
def JF(i:Same H0 H):Step Hs H0 H (JN Hs H0 H) H:=by
 refine⟨Same.refl _,fun a o e=>by unfold JN;rw[e],fun a o e=>?_,fun a o e=>?_⟩
 ·unfold JN at e
  cases h:H0 a with
  | some u=>rw[h] at e;exact .inl e
  | none =>
   rw[h] at e
   cases h2:Hs a with
   | none=>exact .inr (.inl rfl)
   | some u=>rw[h2] at e;exact .inr (.inr (ZU e).2)
 ·unfold JN at e
  cases h:H0 a with
  | some u=>rw[h] at e;cases e;exact i a _ h
  | none =>
   rw[h] at e
   cases h2:Hs a with
   | none=>rw[h2] at e;exact e
   | some u=>rw[h2] at e;exact(ZU e).1
def JbU(i:Same H0 H)(n:Hs a=none)(h:H a=some o):JN Hs H0 H a=some o:=by
 unfold JN
 cases z:H0 a with
 | some u=>rw[i a u z] at h;exact h
 | none=>dsimp only;rw[n];exact h
def JbV(i:Same H0 H)(n:isT o=true)(h:H a=some o):JN Hs H0 H a=some o:=by
 unfold JN
 cases z:H0 a with
 | some u=>rw[i a u z] at h;exact h
 | none =>
  dsimp only
  cases y:Hs a with
  | none=>exact h
  | some u=>dsimp only;rw[h];unfold Jf1;dsimp only;rw[if_pos n]
def JfW(i:Same H0 H)(h:SqT K H a xs):SqT K (JN Hs H0 H) a xs:=by
 rcases h with (h|⟨o,h⟩)|h
 ·exact .inl (.inl (JbV i rfl h))
 ·exact .inl (.inr ⟨o,JbV i rfl h⟩)
 ·exact .inr h
noncomputable def Sl.frz:Sl->Option D
 | .sh d=>some d
 | .own ds=>some (.lst ds)
 | .od ks ds=>some (.dct ks ds)
 | _=>none
def RR.frz{d:D}(i:Same H0 H)(r:RR K C Hs H0 H v s)(e:s.frz=some d):RD K C (JN Hs H0 H) v d:=by
 have st:Step Hs H0 H (JN Hs H0 H) H:=JF i
 cases s with
 | no=>cases e
 | sh d'=>cases e;exact RD.mono st.z r
 | bo ds=>cases e
 | own ds=>cases e;obtain⟨l,xs,e,h,n,m,q⟩:=r;subst e;exact .mkL (JbU i m h) (q.mono st.z)
 | bd ks ds=>cases e
 | bt ks ds=>cases e
 | od ks ds=>cases e;obtain⟨l,xs,e,h,n,m,hk,q⟩:=r;subst e;exact .mkD (JbU i m h) hk (q.mono st.z)
 | ot ks ds=>cases e
end LE
namespace LE
open PySem L2 LR
noncomputable abbrev En:=List Sl
noncomputable abbrev Ev:=En->Option Sl
section
variable(K:QE)(C:Qj)
noncomputable def SE(te:TE)(ev:Ev):Prop:=∀(B H0 H:Hp) (σ:St) (E:En) (r:Sl) (Q:VK),EnvR K C B H0 H σ E->ev E=some r ->
 (∀v H0' H',Step H H0 H H0' H'->RR K C H H0' H' v r->Q v H')->te σ H Q
noncomputable def ST(t:TT)(ev:En->Option Bool):Prop:=∀(B H0 H:Hp) (σ:St) (E:En) (r:Bool) (Q:Bool->Hp->Prop),EnvR K C B H0 H σ E->ev E=some r ->
 (∀H0' H',Step H H0 H H0' H'->Q r H')->t σ H Q
inductive RRL (Hs H0 H:Hp):List V->List Sl->Prop
 | nil:RRL Hs H0 H [] []
 | cons {v:V} {s:Sl} {vs:List V} {ss:List Sl}:RR K C Hs H0 H v s->RRL Hs H0 H vs ss->RRL Hs H0 H (v::vs) (s::ss)
noncomputable def SA(t:TA)(ev:En->Option (List Sl)):Prop:=∀(B H0 H:Hp) (σ:St) (E:En) (r:List Sl) (Q:List V->Hp->Prop),EnvR K C B H0 H σ E->ev E=some r ->
 (∀vs H0' H',Step H H0 H H0' H'->RRL K C H H0' H' vs r->Q vs H')->t σ H Q
noncomputable def OpS(r:R2)(f:Sl->Sl->Option Sl):Prop:=∀(Hs H0 H:Hp) (x y:V) (a b c:Sl) (Q:VK),Same H0 H->Same Hs H->RR K C Hs H0 H x a->RR K C Hs H0 H y b->f a b=some c ->
 (∀v H0' H',Step Hs H0 H H0' H'->RR K C Hs H0' H' v c->Q v H')->r x y H Q
noncomputable def UnS(r:V->Hp->VK->Prop)(f:Sl->Option Sl):Prop:=∀(Hs H0 H:Hp) (x:V) (a c:Sl) (Q:VK),Same H0 H->Same Hs H->RR K C Hs H0 H x a->f a=some c ->
 (∀v H0' H',Step Hs H0 H H0' H'->RR K C Hs H0' H' v c->Q v H')->r x H Q
noncomputable def VG(r:List V->Hp->VK->Prop)(f:List Sl->Option Sl):Prop:=∀(Hs H0 H:Hp) (xs:List V) (as:List Sl) (c:Sl) (Q:VK),Same H0 H->Same Hs H->RRL K C Hs H0 H xs as->f as=some c ->
 (∀v H0' H',Step Hs H0 H H0' H'->RR K C Hs H0' H' v c->Q v H')->r xs H Q
end
noncomputable def Jb(i:Nat):Ev:=fun E=>match E[i]? with
 | some (.sh d)=>some (.sh d)
 | some (.bo ds)=>some (.bo ds)
 | some (.own ds)=>some (.bo ds)
 | some (.bd ks ds)=>some (.bd ks ds)
 | some (.od ks ds)=>some (.bd ks ds)
 | some (.bt ks ds)=>some (.bt ks ds)
 | some (.ot ks ds)=>some (.bt ks ds)
 | _=>none
noncomputable def eC(d:D):Ev:=fun _=>some (.sh d)
noncomputable def e2(f:Sl->Sl->Option Sl)(a b:Ev):Ev:=fun E=>(a E).bind fun x=>(b E).bind fun y=>f x y
noncomputable def e1(f:Sl->Option Sl)(a:Ev):Ev:=fun E=>(a E).bind f
noncomputable def a0:En->Option (List Sl):=fun _=>some []
noncomputable def aC(a:Ev)(as:En->Option (List Sl)):En->Option (List Sl):=fun E=>(a E).bind fun x=>(as E).bind fun xs=>some (x::xs)
noncomputable def eF(f:List Sl->Option Sl)(as:En->Option (List Sl)):Ev:=fun E=>(as E).bind f
noncomputable def bool?:Sl->Option Bool
 | .sh (.bl b)=>some b
 | _=>none
noncomputable def Jhd(a b:Ev):Ev:=fun E=>((a E).bind bool?).bind fun k=>if k=true then b E else some (.sh (.bl false))
noncomputable def eIf(c:En->Option Bool)(a b:Ev):Ev:=fun E=>(c E).bind fun k=>if k=true then a E else b E
noncomputable def sh?:Sl->Option D
 | .sh d=>some d
 | _=>none
noncomputable def Jeu(f g:Sl->Sl->Option Sl)(a b c:Ev):Ev:=fun E=>((a E).bind sh?).bind fun x=>((b E).bind sh?).bind fun y=>((f (.sh x) (.sh y)).bind bool?).bind fun k=>if k=true then((c E).bind sh?).bind fun z=>g (.sh y) (.sh z) else some (.sh (.bl false))
noncomputable def tB?(a:Ev):En->Option Bool:=fun E=>(a E).bind bool?
noncomputable def tAnd?(a b:En->Option Bool):En->Option Bool:=fun E=>(a E).bind fun k=>if k=true then b E else some false
noncomputable def tOr?(a b:En->Option Bool):En->Option Bool:=fun E=>(a E).bind fun k=>if k=true then some true else b E
noncomputable def tNot?(a:En->Option Bool):En->Option Bool:=fun E=>(a E).bind fun k=>some (!k)
def bind_some{α β:Type}{x:Option α}{f:α->Option β}{b:β}(e:x.bind f=some b):∃a,x=some a/\f a=some b:=by
 cases x with
 | none=>cases e
 | some a=>exact⟨a,rfl,e⟩
def Vt(e:bool? s=some b):s=.sh (.bl b):=by
 cases s with
 | sh d=>cases d with
  | bl x=>cases e;rfl
  | _=>cases e
 | _=>cases e
def Ut(i:Nat):SE K C (V2 i) (Jb i):=by
 intro B H0 H σ E r Q I e q;unfold Jb at e
 cases h:E[i]? with
 | none=>rw[h] at e;cases e
 | some s =>
  rw[h] at e;rcases I.at' i s h with z|⟨v,h1,h2⟩
  ·subst z;cases e
  ·refine⟨v,h1,q v H0 H (.refl I.h) ?_⟩
   cases s with
   | no=>cases e
   | sh d=>cases e;exact h2
   | bo ds=>cases e;obtain⟨l,xs,e,hl,r⟩:=h2;exact⟨l,xs,e,I.b _ _ hl,r⟩
   | own ds=>cases e;obtain⟨l,xs,e,hl,_,_,r⟩:=h2;exact⟨l,xs,e,hl,r⟩
   | bd ks ds=>cases e;obtain⟨l,xs,e,hl,r⟩:=h2;exact⟨l,xs,e,I.b _ _ hl,r⟩
   | bt ks ds=>cases e;obtain⟨l,xs,e,hl,r⟩:=h2;exact⟨l,xs,e,I.b _ _ hl,r⟩
   | od ks ds=>cases e;obtain⟨l,xs,e,hl,_,_,r⟩:=h2;exact⟨l,xs,e,hl,r⟩
   | ot ks ds=>cases e;obtain⟨l,xs,e,hl,_,_,r⟩:=h2;exact⟨l,xs,e,hl,r⟩
def Jrr:SE K C (tC .non) (eC .non):=fun _ _ _ _ _ _ _ I e q=>by cases e;exact q _ _ _ (.refl I.h) .non
def Jr3:SE K C (tC (.bl b)) (eC (.bl b)):=fun _ _ _ _ _ _ _ I e q=>by cases e;exact q _ _ _ (.refl I.h) (.bl b)
def Jj7:SE K C (tC (.int i)) (eC (.int i)):=fun _ _ _ _ _ _ _ I e q=>by cases e;exact q _ _ _ (.refl I.h) (.int i)
def Jmw(ho:OpS K C r f)(ha:SE K C ta ea)(hb:SE K C tb eb):SE K C (tOp r ta tb) (e2 f ea eb):=by
 intro B H0 H σ E c Q I e q;obtain⟨a,e1,e⟩:=bind_some e;obtain⟨b,e2,e⟩:=bind_some e;exact ha B H0 H σ E a _ I e1 fun x H1 H1' s1 r1=>hb B H1 H1' σ E b _ (I.step s1) e2 fun y H2 H2' s2 r2=>ho H H2 H2' x y a b c Q s2.i (s1.h.trans s2.h) (r1.step s2) (r2.weak fun a q=>Same.free s1.h q) e fun v H3 H3' s3 r3=>q v H3 H3' ((s1.trans s2).comp s3 fun _ z=>z) r3
def Jr5(ho:UnS K C r f)(ha:SE K C ta ea):SE K C (tUn r ta) (e1 f ea):=by intro B H0 H σ E c Q I e q;obtain⟨a,e1,e⟩:=bind_some e;exact ha B H0 H σ E a _ I e1 fun x H1 H1' s1 r1=>ho H H1 H1' x a c Q s1.i s1.h r1 e fun v H3 H3' s3 r3=>q v H3 H3' (s1.comp s3 fun _ z=>z) r3
def VL:SA K C Vo a0:=fun _ _ _ _ _ _ _ I e q=>by cases e;exact q _ _ _ (.refl I.h) .nil
def RRL.weak(r:RRL K C Hs' H0 H vs ss)(w:∀a,Hs' a=none->Hs a=none):RRL K C Hs H0 H vs ss:=by
 induction r with
 | nil=>exact .nil
 | cons h _ ih=>exact .cons (h.weak w) ih
def YT(ha:SE K C ta ea)(hr:SA K C tr er):SA K C (Y5 ta tr) (aC ea er):=by
 intro B H0 H σ E c Q I e q;obtain⟨a,e1,e⟩:=bind_some e;obtain⟨b,e2,e⟩:=bind_some e;cases e;exact ha B H0 H σ E a _ I e1 fun x H1 H1' s1 r1=>hr B H1 H1' σ E b _ (I.step s1) e2 fun y H2 H2' s2 r2=>q _ H2 H2' (s1.trans s2) (.cons (r1.step s2) (r2.weak fun a q=>Same.free s1.h q))
def Jr2(hc:VG K C r f)(ha:SA K C t ev):SE K C (tCB r t) (eF f ev):=by intro B H0 H σ E c Q I e q;obtain⟨a,e1,e⟩:=bind_some e;exact ha B H0 H σ E a _ I e1 fun x H1 H1' s1 r1=>hc H H1 H1' x a c Q s1.i s1.h r1 e fun v H3 H3' s3 r3=>q v H3 H3' (s1.comp s3 fun _ z=>z) r3
def Jrj(ha:SE K C ta ea)(hb:SE K C tb eb):SE K C (Jnz ta tb) (Jhd ea eb):=by
 intro B H0 H σ E c Q I e q;obtain⟨k,e1,e⟩:=bind_some e;obtain⟨a,e0,e1⟩:=bind_some e1;refine ha B H0 H σ E a _ I e0 fun x H1 H1' s1 r1=>?_
 rw[Vt e1] at r1;refine⟨k,RD.blI r1,?_⟩
 cases k with
 | true=>exact hb B H1 H1' σ E c Q (I.step s1) e fun y H2 H2' s2 r2=>q y H2 H2' (s1.trans s2) (r2.weak fun a q=>Same.free s1.h q)
 | false=>cases e;exact q _ _ _ s1 (RD.bl false)
def Jrp(hc:ST K C c cv)(ha:SE K C ta ea)(hb:SE K C tb eb):SE K C (tIf c ta tb) (eIf cv ea eb):=by
 intro B H0 H σ E r Q I e q;obtain⟨k,e1,e⟩:=bind_some e;refine hc B H0 H σ E k _ I e1 fun H1 H1' s1=>?_
 cases k with
 | true=>exact ha B H1 H1' σ E r Q (I.step s1) e fun y H2 H2' s2 r2=>q y H2 H2' (s1.trans s2) (r2.weak fun a q=>Same.free s1.h q)
 | false=>exact hb B H1 H1' σ E r Q (I.step s1) e fun y H2 H2' s2 r2=>q y H2 H2' (s1.trans s2) (r2.weak fun a q=>Same.free s1.h q)
def Wm(e:sh? s=some d):s=.sh d:=by
 cases s with
 | sh d'=>cases e;rfl
 | _=>cases e
def Jmq(ho:OpS K C r f)(ho':OpS K C r' g)(ha:SE K C ta ea)(hb:SE K C tb eb)(hc:SE K C tc ec):SE K C (Jkk r r' ta tb tc) (Jeu f g ea eb ec):=by
 intro B H0 H σ E c Q I e q;obtain⟨a,e1,e⟩:=bind_some e;obtain⟨a',e1,f1⟩:=bind_some e1;obtain rfl:=Wm f1;obtain⟨b,e2,e⟩:=bind_some e;obtain⟨b',e2,f2⟩:=bind_some e2;obtain rfl:=Wm f2;obtain⟨k,e3,e⟩:=bind_some e;obtain⟨z,e4,e3⟩:=bind_some e3;refine ha B H0 H σ E _ _ I e1 fun x H1 H1' s1 r1=>hb B H1 H1' σ E _ _ (I.step s1) e2 fun y H2 H2' s2 r2=>?_
 have x2:RD K C H2 x a:=RD.mono s2.z r1
 have y2:RD K C H2 y b:=r2;refine ho H2' H2 H2' x y (.sh a) (.sh b) z _ s2.i (Same.refl _) x2 y2 e4 fun w H3 H3' s3 r3=>?_
 rw[Vt e3] at r3;have s13:=(s1.trans s2).trans s3;refine⟨k,RD.blI r3,?_⟩
 cases k with
 | false=>cases e;exact q _ _ _ s13 (RD.bl false)
 | true =>
  obtain⟨d,e5,e⟩:=bind_some e;obtain⟨d',e5,f5⟩:=bind_some e5;obtain rfl:=Wm f5;refine hc B H3 H3' σ E _ _ (I.step s13) e5 fun u H4 H4' s4 r4=>?_
  exact ho' H H4 H4' y u (.sh b) (.sh d) c Q s4.i (s13.h.trans s4.h) (RD.mono (s3.z.trans s4.z) y2) (show RD K C H4 u d from r4) e fun v H5 H5' s5 r5=>q v H5 H5' ((s13.trans s4).comp s5 fun _ z=>z) r5
def JpE(ha:SE K C te ea):ST K C (JgK te) (tB? ea):=by
 intro B H0 H σ E k Q I e q;obtain⟨a,e1,e⟩:=bind_some e;refine ha B H0 H σ E a _ I e1 fun x H1 H1' s1 r1=>?_
 rw[Vt e] at r1;exact⟨k,RD.blI r1,q _ _ s1⟩
def JpC(hc:ST K C c ev)(hd:ST K C d ew):ST K C (JpL c d) (tAnd? ev ew):=by
 intro B H0 H σ E k Q I e q;obtain⟨a,e1,e⟩:=bind_some e;refine hc B H0 H σ E a _ I e1 fun H1 H1' s1=>?_
 cases a with
 | true=>exact hd B H1 H1' σ E k Q (I.step s1) e fun H2 H2' s2=>q H2 H2' (s1.trans s2)
 | false=>cases e;exact q _ _ s1
def Jrs(hc:ST K C c ev)(hd:ST K C d ew):ST K C (tOr c d) (tOr? ev ew):=by
 intro B H0 H σ E k Q I e q;obtain⟨a,e1,e⟩:=bind_some e;refine hc B H0 H σ E a _ I e1 fun H1 H1' s1=>?_
 cases a with
 | false=>exact hd B H1 H1' σ E k Q (I.step s1) e fun H2 H2' s2=>q H2 H2' (s1.trans s2)
 | true=>cases e;exact q _ _ s1
def JpD(hc:ST K C c ev):ST K C (Jry c) (tNot? ev):=by intro B H0 H σ E k Q I e q;obtain⟨a,e1,e⟩:=bind_some e;cases e;exact hc B H0 H σ E a _ I e1 fun H1 H1' s1=>q _ _ s1
noncomputable def Sl.m:Sl->Option (List D)
 | .sh (.lst ds)=>some ds
 | .bo ds=>some ds
 | .own ds=>some ds
 | _=>none
noncomputable def Sl.r:Sl->Option (List D)
 | .sh (.lst ds)=>some ds
 | .sh (.fz ds)=>some ds
 | .bo ds=>some ds
 | .own ds=>some ds
 | _=>none
noncomputable def Sl.q:Sl->Option (List D)
 | .sh (.lst ds)=>some ds
 | .sh (.fz ds)=>some ds
 | .sh (.tup ds)=>some ds
 | .bo ds=>some ds
 | .own ds=>some ds
 | _=>none
noncomputable def Sl.d:Sl->Option D
 | .sh d=>some d
 | .bo ds=>some (.lst ds)
 | .own ds=>some (.lst ds)
 | .bd ks ds=>some (.dct ks ds)
 | .od ks ds=>some (.dct ks ds)
 | .bt _ _=>none
 | .ot _ _=>none
 | .no=>none
def RR.m(r:RR K C Hs H0 H v s)(i:Same H0 H)(e:s.m=some ds):∃l xs,v=.ref l/\H l=some (.lst xs)/\RDL K C H0 xs ds:=by
 cases s with
 | no=>cases e
 | bo es=>cases e;exact r
 | own es=>cases e;obtain⟨l,xs,h1,h2,_,_,h3⟩:=r;exact⟨l,xs,h1,h2,h3⟩
 | bd _ _=>cases e
 | bt _ _=>cases e
 | od _ _=>cases e
 | ot _ _=>cases e
 | sh d=>cases d with
  | lst es=>cases e;obtain⟨l,xs,h1,h2,h3⟩:=RD.lstI r;exact⟨l,xs,h1,i _ _ h2,h3⟩
  | _=>cases e
def RR.r(r:RR K C Hs H0 H v s)(i:Same H0 H)(e:s.r=some ds):∃l xs,v=.ref l/\SqL K H l xs/\RDL K C H0 xs ds:=by
 cases s with
 | no=>cases e
 | bo es=>cases e;obtain⟨l,xs,h1,h2,h3⟩:=r;exact⟨l,xs,h1,.of h2,h3⟩
 | own es=>cases e;obtain⟨l,xs,h1,h2,_,_,h3⟩:=r;exact⟨l,xs,h1,.of h2,h3⟩
 | bd _ _=>cases e
 | bt _ _=>cases e
 | od _ _=>cases e
 | ot _ _=>cases e
 | sh d=>cases d with
  | lst es=>cases e;obtain⟨l,xs,h1,h2,h3⟩:=RD.lstI r;exact⟨l,xs,h1,.of (i _ _ h2),h3⟩
  | fz es=>cases e;obtain⟨l,xs,h1,h2,h3⟩:=RD.fzI r;exact⟨l,xs,h1,i.seq h2,h3⟩
  | _=>cases e
def RR.q(r:RR K C Hs H0 H v s)(i:Same H0 H)(e:s.q=some ds):∃l xs,v=.ref l/\(SqL K H l xs\/SqT K H l xs)/\RDL K C H0 xs ds:=by
 cases s with
 | no=>cases e
 | bo es=>cases e;obtain⟨l,xs,h1,h2,h3⟩:=r;exact⟨l,xs,h1,.inl (.of h2),h3⟩
 | own es=>cases e;obtain⟨l,xs,h1,h2,_,_,h3⟩:=r;exact⟨l,xs,h1,.inl (.of h2),h3⟩
 | bd _ _=>cases e
 | bt _ _=>cases e
 | od _ _=>cases e
 | ot _ _=>cases e
 | sh d=>cases d with
  | lst es=>cases e;obtain⟨l,xs,h1,h2,h3⟩:=RD.lstI r;exact⟨l,xs,h1,.inl (.of (i _ _ h2)),h3⟩
  | fz es=>cases e;obtain⟨l,xs,h1,h2,h3⟩:=RD.fzI r;exact⟨l,xs,h1,.inl (i.seq h2),h3⟩
  | tup es=>cases e;obtain⟨l,xs,h1,h2,h3⟩:=RD.tupI r;exact⟨l,xs,h1,.inr (i.seqT h2),h3⟩
  | _=>cases e
def RR.dat(r:RR K C Hs H0 H v s)(i:Same H0 H)(e:s.d=some d):RD K C H v d:=by
 cases s with
 | no=>cases e
 | bo es=>cases e;obtain⟨l,xs,h1,h2,h3⟩:=r;subst h1;exact .mkL h2 (h3.mono i)
 | own es=>cases e;obtain⟨l,xs,h1,h2,_,_,h3⟩:=r;subst h1;exact .mkL h2 (h3.mono i)
 | bd _ _=>cases e;obtain⟨l,xs,h1,h2,hk,h3⟩:=r;subst h1;exact .mkD h2 hk (h3.mono i)
 | bt _ _=>cases e
 | od _ _=>cases e;obtain⟨l,xs,h1,h2,_,_,hk,h3⟩:=r;subst h1;exact .mkD h2 hk (h3.mono i)
 | ot _ _=>cases e
 | sh d'=>cases e;exact RD.mono i r
def YV{p:Qj}{xs:List V}{Q:VK}(i:Same H0 H)(hs:Same Hs H)(hp:H p=none)(r:RDL K C H0 xs ds)(q:∀v H0' H',Step Hs H0 H H0' H'->RR K C Hs H0' H' v (.own ds)->Q v H'):Q (.ref p) (upd H p (.lst xs)) :=
 q _ H0 _ ⟨.new hp,Same.refl _,fun _ _ e=>.inl e,i.trans (.new hp)⟩ ⟨p,xs,rfl,Jn,Same.free i hp,Same.free hs hp,r⟩
def JcI{p:Qj}{xs:List V}{Q:VK}(i:Same H0 H)(hs:Same Hs H)(hp:H p=none)(r:RDL K C H0 xs ds)(q:∀v H0' H',Step Hs H0 H H0' H'->RR K C Hs H0' H' v (.sh (.tup ds))->Q v H'):Q (.ref p) (upd H p (.tup xs)):=by
 have h0:H0 p=none:=Same.free i hp;refine q _ (upd H0 p (.tup xs)) _ ⟨.new hp,.new h0,fun a o e=>?_,fun a o e=>?_⟩ ?_
 ·by_cases h:a=p
  ·subst h;exact .inr (.inl (Same.free hs hp))
  ·rw[Ji h] at e;exact .inl e
 ·by_cases h:a=p
  ·subst h;rw[Jn] at e ⊢;exact e
  ·rw[Ji h] at e ⊢;exact i a o e
 ·exact RD.mkT (.of Jn) (r.mono (.new h0))
noncomputable def fI(g:Int->Int->D):Sl->Sl->Option Sl
 | .sh (.int a),.sh (.int b)=>some (.sh (g a b))
 | _,_=>none
noncomputable def fIc(c:Int->Int->Bool)(g:Int->Int->D):Sl->Sl->Option Sl
 | .sh (.int a),.sh (.int b)=>if c a b=true then some (.sh (g a b)) else none
 | _,_=>none
noncomputable def Jhf(x y:Sl):Option Sl:=x.m.bind fun a=>y.m.bind fun b=>if a.length+b.length<=Qt then some (.own (a++b)) else none
noncomputable def JR:Sl->Sl->Option Sl
 | .sh (.int a),.sh (.int b)=>some (.sh (.int (a+b)))
 | .sh (.str a),.sh (.str b)=>if a.length+b.length<=Qt then some (.sh (.str (a++b))) else none
 | .sh (.tup a),.sh (.tup b)=>if a.isEmpty=false/\b.isEmpty=false/\a.length+b.length<=Qt then some (.sh (.tup (a++b))) else none
 | .sh (.lst a),y=>Jhf (.sh (.lst a)) y
 | .bo a,y=>Jhf (.bo a) y
 | .own a,y=>Jhf (.own a) y
 | _,_=>none
noncomputable abbrev Yz:=fI fun a b=>.int (a-b)
noncomputable abbrev fLt:=fI fun a b=>.bl (decide (a<b))
noncomputable abbrev fLe:=fI fun a b=>.bl (decide (a<=b))
noncomputable abbrev fGt:=fI fun a b=>.bl (decide (b<a))
noncomputable def Wp(a:Int):Bool:=Nat.ble a.natAbs 18446744073709551615
def UY:Wp a=true↔-18446744073709551616<a/\a<18446744073709551616:=by unfold Wp;rw[K2];omega
noncomputable def Jff(a:Int):Bool:=Nat.ble a.natAbs 1073741823 && decide (0<a)
def smallP_ok:Jff a=true↔0<a/\a<1073741824:=by unfold Jff;rw[Q6,K2,decide_eq_true_eq];omega
noncomputable abbrev VP:=fIc (fun a b=>Wp a || Wp b) fun a b=>.int (a*b)
noncomputable abbrev YC:=fIc (fun _ b=>decide (0<b)) fun a b=>.int (a % b)
noncomputable abbrev Uu:=fIc (fun _ b=>Jff b) fun a b=>.int (a / b)
noncomputable abbrev JiQ:=fIc (fun a b=>decide (0<=b) && Nat.ble b.natAbs 1000000 && Wp a) fun a b=>.int (a ^ b.toNat)
noncomputable def JeC:Sl->Option Sl
 | .sh (.int a)=>some (.sh (.int (-a)))
 | _=>none
noncomputable def eqD(d e:D):Option Bool:=if (d.py.canLay0 && e.py.canLay0 && decide (min d.py.depth e.py.depth<=60))=true then some (RG d.py e.py) else none
noncomputable def eqA:D->D->Option Bool
 | .int a,.int b=>some (decide (a=b))
 | .str a,.str b=>some (decide (a=b))
 | .bl a,.bl b=>some (decide (a=b))
 | .non,.non=>some true
 | .non,.int _=>some false
 | .int _,.non=>some false
 | .non,.str _=>some false
 | .str _,.non=>some false
 | .non,.bl _=>some false
 | .bl _,.non=>some false
 | .int _,.str _=>some false
 | .str _,.int _=>some false
 | d,e=>eqD d e
noncomputable def fEq(x y:Sl):Option Sl:=x.d.bind fun d=>y.d.bind fun e=>(eqA d e).map fun k=>.sh (.bl k)
noncomputable def fNe(x y:Sl):Option Sl:=x.d.bind fun d=>y.d.bind fun e=>(eqA d e).map fun k=>.sh (.bl (!k))
noncomputable def D.isNon:D->Bool
 | .non=>true
 | _=>false
noncomputable def fIs:Sl->Sl->Option Sl
 | x,.sh .non=>x.d.map fun d=>.sh (.bl d.isNon)
 | _,_=>none
noncomputable def YQ:Sl->Sl->Option Sl
 | x,.sh .non=>x.d.map fun d=>.sh (.bl (!d.isNon))
 | _,_=>none
noncomputable def fIx:Sl->Sl->Option Sl
 | .sh (.str z),.sh (.int i)=>if z.length<=Qt then(atI z.cps.toList i).map fun c=>.sh (.str ⟨#[c]⟩) else none
 | x,.sh (.int i)=>x.q.bind fun ds=>(atI ds i).map .sh
 | _,_=>none
def o_I(h:∀i j H,RD K C H (g i j) (g' i j)):OpS K C (rI0 g) (fI g'):=by
 intro Hs H0 H x y a b c Q i hs ra rb e q;unfold fI at e;split at e
 ·cases e;exact⟨_,_,RD.intI ra,RD.intI rb,q _ _ _ (.refl i) (h _ _ _)⟩
 ·cases e
def JhD(hp:∀i j,c' i j=true->P i j)(h:∀i j H,RD K C H (g i j) (g' i j)):OpS K C (rI P g) (fIc c' g'):=by
 intro Hs H0 H x y a b c Q i hs ra rb e q;unfold fIc at e;split at e
 ·split at e
  ·cases e;exact⟨_,_,RD.intI ra,RD.intI rb,hp _ _ (by assumption),q _ _ _ (.refl i) (h _ _ _)⟩
  ·cases e
 ·cases e
def Jjr:OpS K C (rI0 fun i j=>.int (i-j)) Yz:=o_I fun _ _ _=>.int _
def JrX:OpS K C (rI0 fun i j=>.bl (decide (i<j))) fLt:=o_I fun _ _ _=>.bl _
def JrW:OpS K C (rI0 fun i j=>.bl (decide (i<=j))) fLe:=o_I fun _ _ _=>.bl _
def JrT:OpS K C (rI0 fun i j=>.bl (decide (j<i))) fGt:=o_I fun _ _ _=>.bl _
def JqU:OpS K C (rI CMul fun i j=>.int (i*j)) VP:=JhD (fun i j h=>by simp only[MD,UY] at h;exact h) fun _ _ _=>.int _
def JqT:OpS K C (rI (fun _ j=>0<j) fun i j=>.int (i % j)) YC:=JhD (fun i j h=>by simpa using h) fun _ _ _=>.int _
def JqR:OpS K C (rI Jp4 fun i j=>.int (i / j)) Uu:=JhD (fun i j h=>smallP_ok.mp h) fun _ _ _=>.int _
def JqV:OpS K C (rI Jp5 fun i j=>.int (i ^ j.toNat)) JiQ:=JhD (fun i j h=>by simp only[Q6,decide_eq_true_eq,K2,UY] at h;refine⟨h.1.1,by omega,?_⟩;show i.natAbs<18446744073709551616;omega) fun _ _ _=>.int _
def JrB:UnS K C (rU fun i=>.int (-i)) JeC:=by
 intro Hs H0 H x a c Q i hs ra e q;unfold JeC at e;split at e
 ·cases e;exact⟨_,RD.intI ra,q _ _ _ (.refl i) (RD.int _)⟩
 ·cases e
noncomputable def JjN(K:QE):R2:=fun x y H Q=>Jgl K x y H Q\/Jnp K x y H Q
def Jz{X:Cx}(hK:X.K=K):OpR X (binaryOp .Add) (JjN K):=(Jge hK).or (hK▸JlS)
def Jnk:OpS K C (JjN K) JR:=by
 intro Hs H0 H x y a b c Q i hs ra rb e q
 have cat:∀{a b:Sl},RR K C Hs H0 H x a->RR K C Hs H0 H y b->Jhf a b=some c->JjN K x y H Q:=by
  intro a b ra rb e;obtain⟨xs,e1,e⟩:=bind_some e;obtain⟨ys,e2,e⟩:=bind_some e;split at e
  ·next hz=>cases e;obtain⟨l,us,rfl,h1,r1⟩:=ra.m i e1;obtain⟨l',ws,rfl,h2,r2⟩:=rb.m i e2;exact .inl (.inr (.inr ⟨l,l',us,ws,rfl,rfl,h1,h2,by rw[r1.1,r2.1];exact hz,fun p hp=>YV i hs hp (r1.append r2) q⟩))
  ·cases e
 unfold JR at e;split at e
 ·cases e;exact .inl (.inl ⟨_,_,RD.intI ra,RD.intI rb,q _ _ _ (.refl i) (RD.int _)⟩)
 ·split at e
  ·cases e;exact .inl (.inr (.inl ⟨_,_,RD.strI ra,RD.strI rb,by assumption,q _ _ _ (.refl i) (RD.str _)⟩))
  ·cases e
 ·split at e
  ·next hz =>
   cases e;obtain⟨l,us,rfl,h1,r1⟩:=RD.tupI ra;obtain⟨l',ws,rfl,h2,r2⟩:=RD.tupI rb;have n1:us≠[]:=by rintro rfl;have:=r1.1;have z:=hz.1;simp at this;rw[QA this.symm] at z;cases z
   have n2:ws≠[]:=by rintro rfl;have:=r2.1;have z:=hz.2.1;simp at this;rw[QA this.symm] at z;cases z
   exact .inr ⟨l,l',us,ws,rfl,rfl,i.seqT h1,i.seqT h2,n1,by rw[r1.1,r2.1];exact hz.2.2,fun z=>absurd z n2,fun _ p hp=>JcI i hs hp (r1.append r2) q⟩
  ·cases e
 ·exact cat ra rb e
 ·exact cat ra rb e
 ·exact cat ra rb e
 ·cases e
def Jc5(h:eqD d e=some k):d.py.canLay0=true/\e.py.canLay0=true/\min d.py.depth e.py.depth<=60/\k=RG d.py e.py:=by
 unfold eqD at h;split at h
 ·next z=>cases h;simp only[Q6,decide_eq_true_eq] at z;exact⟨z.1.1,z.1.2,z.2,rfl⟩
 ·cases h
def map_some{α β:Type}{x:Option α}{f:α->β}{b:β}(e:x.map f=some b):∃a,x=some a/\f a=b:=by
 cases x with
 | none=>cases e
 | some a=>cases e;exact⟨a,rfl,rfl⟩
def Jc4(h:eqA d e=some k)(rx:RD K C H x d)(ry:RD K C H y e):(JpG x y=true/\decide (x=y)=k)\/eqD d e=some k:=by
 unfold eqA at h;split at h
 ·cases h;rw[RD.intI rx,RD.intI ry];exact .inl ⟨rfl,by simp⟩
 ·cases h;rw[RD.strI rx,RD.strI ry];exact .inl ⟨rfl,by simp⟩
 ·cases h;rw[RD.blI rx,RD.blI ry];exact .inl ⟨rfl,by simp⟩
 ·cases h;rw[RD.nonI rx,RD.nonI ry];exact .inl ⟨rfl,by simp⟩
 ·cases h;rw[RD.nonI rx,RD.intI ry];exact .inl ⟨rfl,by simp⟩
 ·cases h;rw[RD.intI rx,RD.nonI ry];exact .inl ⟨rfl,by simp⟩
 ·cases h;rw[RD.nonI rx,RD.strI ry];exact .inl ⟨rfl,by simp⟩
 ·cases h;rw[RD.strI rx,RD.nonI ry];exact .inl ⟨rfl,by simp⟩
 ·cases h;rw[RD.nonI rx,RD.blI ry];exact .inl ⟨rfl,by simp⟩
 ·cases h;rw[RD.blI rx,RD.nonI ry];exact .inl ⟨rfl,by simp⟩
 ·cases h;rw[RD.intI rx,RD.strI ry];exact .inl ⟨rfl,by simp⟩
 ·cases h;rw[RD.strI rx,RD.intI ry];exact .inl ⟨rfl,by simp⟩
 ·exact .inr h
def JrS:OpS K C (Jpa K) fEq:=by
 intro Hs H0 H x y a b c Q i hs ra rb e q;obtain⟨d,e1,e⟩:=bind_some e;obtain⟨d',e2,e⟩:=bind_some e;obtain⟨k,e3,rfl⟩:=map_some e;have r1:=ra.dat i e1;have r2:=rb.dat i e2;rcases Jc4 e3 r1 r2 with ⟨h1,h2⟩|h
 ·exact .inl ⟨h1,by rw[h2];exact q _ _ _ (.refl i) (RD.bl _)⟩
 ·obtain⟨h1,h2,h3,rfl⟩:=Jc5 h;exact .inr ⟨_,_,r1.rep h1,r2.rep h2,h1,h2,h3,q _ _ _ (.refl i) (RD.bl _)⟩
def JrY:OpS K C (Jpd K) fNe:=by
 intro Hs H0 H x y a b c Q i hs ra rb e q;obtain⟨d,e1,e⟩:=bind_some e;obtain⟨d',e2,e⟩:=bind_some e;obtain⟨k,e3,rfl⟩:=map_some e;have r1:=ra.dat i e1;have r2:=rb.dat i e2;rcases Jc4 e3 r1 r2 with ⟨h1,h2⟩|h
 ·exact .inl ⟨h1,by rw[h2];exact q _ _ _ (.refl i) (RD.bl _)⟩
 ·obtain⟨h1,h2,h3,rfl⟩:=Jc5 h;exact .inr ⟨_,_,r1.rep h1,r2.rep h2,h1,h2,h3,q _ _ _ (.refl i) (RD.bl _)⟩
def Jde(r:RD K C H x d):decide (x=.non)=d.isNon:=by cases r <;> simp[D.isNon]
def JrU:OpS K C Jq3 fIs:=by
 intro Hs H0 H x y a b c Q i hs ra rb e q;unfold fIs at e;split at e
 ·obtain⟨d,e1,rfl⟩:=map_some e;refine⟨RD.nonI rb,?_⟩;rw[Jde (ra.dat i e1)];exact q _ _ _ (.refl i) (RD.bl _)
 ·cases e
def JlO:OpS K C JjR YQ:=by
 intro Hs H0 H x y a b c Q i hs ra rb e q;unfold YQ at e;split at e
 ·obtain⟨d,e1,rfl⟩:=map_some e;refine⟨RD.nonI rb,?_⟩;rw[Jde (ra.dat i e1)];exact q _ _ _ (.refl i) (RD.bl _)
 ·cases e
def RDL.atI(r:RDL K C H xs ds)(e:L2.atI ds i=some d):∃x,L2.atI xs i=some x/\RD K C H x d:=by unfold L2.atI at e ⊢;rw[r.1];obtain⟨j,e1,e⟩:=bind_some e;obtain⟨x,e2,r2⟩:=r.get e;exact⟨x,by rw[e1];exact e2,r2⟩
def JrV:OpS K C (rIx K) fIx:=by
 intro Hs H0 H x y a b c Q i hs ra rb e q;unfold fIx at e;split at e
 ·split at e
  ·obtain⟨z,e1,rfl⟩:=map_some e;rw[RD.strI ra,RD.intI rb];exact Jpm (by assumption) e1 (q _ _ _ (.refl i) (RD.str _))
  ·cases e
 ·obtain⟨ds,e1,e⟩:=bind_some e;obtain⟨d,e2,rfl⟩:=map_some e;obtain⟨l,xs,rfl,h,r⟩:=ra.q i e1;obtain⟨v,e3,r3⟩:=r.atI e2;rw[RD.intI rb];rcases h with h|h
  ·exact Jpl h e3 (q _ _ _ (.refl i) r3)
  ·exact Jpn h e3 (q _ _ _ (.refl i) r3)
 ·cases e
noncomputable def ZL:List Sl->Option (List D)
 | []=>some []
 | s::ss=>s.frz.bind fun d=>(ZL ss).bind fun ds=>some (d::ds)
noncomputable def J9(as:En->Option (List Sl)):Ev:=fun E=>(as E).bind fun ss=>(ZL ss).bind fun ds=>if ds.length<=100 then some (.sh (.tup ds)) else none
noncomputable def Y1(as:En->Option (List Sl)):Ev:=fun E=>(as E).bind fun ss=>(ZL ss).bind fun ds=>if ds.length<=100 then some (.own ds) else none
def RRL.frz{vs:List V}{ss:List Sl}(i:Same H0 H)(r:RRL K C Hs H0 H vs ss):∀{ds:List D},ZL ss=some ds->RDL K C (JN Hs H0 H) vs ds:=by
 induction r with
 | nil=>intro ds e;cases e;exact .nil
 | cons h _ ih=>intro ds e;obtain⟨d,e1,e⟩:=bind_some e;obtain⟨ds',e2,e⟩:=bind_some e;cases e;exact .cons (h.frz i e1) (ih e2)
def Jnv(ha:SA K C t ev):SE K C (Jks t) (J9 ev):=by
 intro B H0 H σ E c Q I e q;obtain⟨ss,e1,e⟩:=bind_some e;obtain⟨ds,e2,e⟩:=bind_some e;split at e
 ·next hl =>
  cases e;refine ha B H0 H σ E ss _ I e1 fun vs H1 H1' s1 r1=>?_
  have f:=JF (Hs:=H) s1.i
  have r2:=r1.frz s1.i e2;exact⟨by rw[r2.1];exact Gy hl (by decide),fun p hp=>JcI f.i s1.h hp r2 fun v H2 H2' s2 r2=>q v H2 H2' ((s1.comp f fun _ z=>z).comp s2 fun _ z=>z) r2⟩
 ·cases e
def Jj8(ha:SA K C t ev):SE K C (JmK t) (Y1 ev):=by
 intro B H0 H σ E c Q I e q;obtain⟨ss,e1,e⟩:=bind_some e;obtain⟨ds,e2,e⟩:=bind_some e;split at e
 ·next hl =>
  cases e;refine ha B H0 H σ E ss _ I e1 fun vs H1 H1' s1 r1=>?_
  have f:=JF (Hs:=H) s1.i
  have r2:=r1.frz s1.i e2;exact⟨by rw[r2.1];exact Gy hl (by decide),fun p hp=>YV f.i s1.h hp r2 fun v H2 H2' s2 r2=>q v H2 H2' ((s1.comp f fun _ z=>z).comp s2 fun _ z=>z) r2⟩
 ·cases e
noncomputable def Sl.pass:Sl->Option Sl
 | .sh d=>some (.sh d)
 | .own ds=>some (.sh (.lst ds))
 | .bo ds=>some (.bo ds)
 | .bd ks ds=>some (.bd ks ds)
 | .od ks ds=>some (.sh (.dct ks ds))
 | .bt _ _=>none
 | .ot _ _=>none
 | .no=>none
noncomputable def Zj:List Sl->Option (List Sl)
 | []=>some []
 | s::ss=>s.pass.bind fun d=>(Zj ss).bind fun ds=>some (d::ds)
noncomputable def spE(K:QE)(C:Qj)(n:Nat)(f:List Sl->Option Sl):Sp:=fun vs H Q _=>∃H0 as r,Same H0 H/\RRL K C H H0 H vs as/\as.all (fun s=>!Yj s)=true/\as.length=n/\f as=some r ∧
 ∀v H0' H',Step H H0 H H0' H'->RR K C H H0' H' v r->Q v H'
noncomputable def eU(n:Nat)(f:List Sl->Option Sl)(as:En->Option (List Sl)):Ev:=fun E=>(as E).bind fun ss=>(Zj ss).bind fun bs=>if bs.length=n then f bs else none
def RRL.len(r:RRL K C Hs H0 H vs ss):vs.length=ss.length:=by
 induction r with
 | nil=>rfl
 | cons _ _ ih=>simp[ih]
def JmH(h:spE K C n f vs H Q E):vs.length=n:=by obtain⟨H0,as,r,_,h1,_,h2,_⟩:=h;rw[h1.len];exact h2
def RR.pass(i:Same H0 H)(r:RR K C Hs H0 H v s)(e:s.pass=some s'):RR K C H (JN Hs H0 H) H v s'/\Yj s'=false:=by
 have st:Step Hs H0 H (JN Hs H0 H) H:=JF i
 cases s with
 | no=>cases e
 | sh d=>cases e;exact⟨RD.mono st.z r,rfl⟩
 | own ds=>cases e;exact⟨RR.frz (s:=.own ds) i r rfl,rfl⟩
 | bo ds=>cases e;obtain⟨l,xs,h1,h2,h3⟩:=r;exact⟨⟨l,xs,h1,h2,h3.mono st.z⟩,rfl⟩
 | od ks ds=>cases e;exact⟨RR.frz (s:=.od ks ds) i r rfl,rfl⟩
 | ot ks ds=>cases e
 | bd ks ds=>cases e;obtain⟨l,xs,h1,h2,hk,h3⟩:=r;exact⟨⟨l,xs,h1,h2,hk,h3.mono st.z⟩,rfl⟩
 | bt ks ds=>cases e
def RRL.pass(i:Same H0 H)(r:RRL K C Hs H0 H vs ss):∀{bs:List Sl},Zj ss=some bs->RRL K C H (JN Hs H0 H) H vs bs/\bs.all (fun s=>!Yj s)=true:=by
 induction r with
 | nil=>intro bs e;cases e;exact⟨.nil,rfl⟩
 | cons h _ ih=>intro bs e;obtain⟨d,e1,e⟩:=bind_some e;obtain⟨ds',e2,e⟩:=bind_some e;cases e;obtain⟨h1,h2⟩:=h.pass i e1;obtain⟨h3,h4⟩:=ih e2;exact⟨.cons h1 h3,by rw[List.all_cons,h2,h4];rfl⟩
def Jcv(ha:SA K C t ev):SE K C (JgG (spE K C n f) [] X t) (eU n f ev):=by
 intro B H0 H σ E c Q I e q;obtain⟨ss,e1,e⟩:=bind_some e;obtain⟨bs,e2,e⟩:=bind_some e;split at e
 ·next hl=>refine Jgo (ha B H0 H σ E ss _ I e1 fun vs H1 H1' s1 r1=>?_);obtain⟨h1,h2⟩:=r1.pass s1.i e2;have f:=JF (Hs:=H) s1.i;exact⟨_,bs,c,f.i,h1,h2,hl,e,fun v H2 H2' s2 r2=>q v H2 H2' ((s1.comp f fun _ z=>z).comp s2 fun a z=>Same.free s1.h z) (r2.weak fun a z=>Same.free s1.h z)⟩
 ·cases e
noncomputable def prE(p:Pr):D:=.tup [.int p.1,.int p.2]
noncomputable def JpW:D->Option Pr
 | .tup [.int a,.int b]=>some (a,b)
 | _=>none
noncomputable def Jd8:List D->Option (List Pr)
 | []=>some []
 | d::ds=>(JpW d).bind fun p=>(Jd8 ds).bind fun ps=>some (p::ps)
theorem Jbq:∀ps:List Pr,Jd8 (ps.map prE)=some ps
 | []=>rfl
 | p::ps=>by rw[Qf,Jd8,Jbq ps];rfl
def Jh1(e:JpW d=some p):d=prE p:=by
 unfold JpW at e;split at e
 ·cases e;rfl
 ·cases e
theorem JaC:∀{ds:List D} {ps:List Pr},Jd8 ds=some ps->ds=ps.map prE
 | [],_,e=>by cases e;rfl
 | d::ds,_,e=>by obtain⟨p,e1,e⟩:=bind_some e;obtain⟨ps,e2,e⟩:=bind_some e;cases e;rw[Jh1 e1,JaC e2];rfl
noncomputable def WW:List Pr->Bool
 | []=>true
 | [p]=>decide (1<=p.2)
 | p::q::r=>decide (1<=p.2) && decide (p.1+p.2<q.1) && WW (q::r)
theorem ZM:∀{ps:List Pr},WW ps=true->Good ps
 | [],_=>.nil
 | [p],h=>⟨fun i q e=>by
  cases i with
  | zero=>simp at e;subst e;simpa [WW] using h
  | succ i=>simp at e,fun i q r e1 e2=>by simp at e2⟩
 | p::q::r,h=>by
  simp only[WW,Q6,decide_eq_true_eq] at h;have g:=ZM h.2;refine⟨fun i x e=>?_,fun i x y e1 e2=>?_⟩
  ·cases i with
   | zero=>simp at e;subst e;exact h.1.1
   | succ i=>exact g.one i x (by simpa using e)
  ·cases i with
   | zero=>simp at e1 e2;subst e1 e2;exact h.1.2
   | succ i=>exact g.gap i x y (by simpa using e1) (by simpa using e2)
theorem ZN:∀{ps:List Pr},Good ps->WW ps=true
 | [],_=>rfl
 | [p],g=>by simpa [WW] using g.one 0 p rfl
 | p::q::r,g=>by
  have g':Good (q::r):=⟨fun i x e=>g.one (i+1) x (by simpa using e),fun i x y e1 e2=>g.gap (i+1) x y (by simpa using e1) (by simpa using e2)⟩
  simp only[WW,Q6,decide_eq_true_eq];exact⟨⟨g.one 0 p rfl,g.gap 0 p q rfl rfl⟩,ZN g'⟩
noncomputable def ZK:List Sl->Option Sl
 | [s]=>s.q.bind fun ds=>(Jd8 ds).bind fun ps=>if (WW ps && decide (ps.length<=30))=true then some (.sh (.row ds)) else none
 | _=>none
noncomputable def U6:Sl->Option Sl
 | .sh (.row ds)=>some (.sh (.tup ds))
 | _=>none
def Jo3(r:RDL K C H xs (ps.map prE)):Prs K H xs ps:=by
 refine⟨by rw[r.1];simp,fun i x d h1 h2=>?_⟩;rw[Qw] at h2
 cases e:ps[i]? with
 | none=>rw[e] at h2;cases h2
 | some p=>rw[e] at h2;cases h2;have h:=r.2 i x (prE p) h1 (by rw[Qw,e];rfl);exact RD.rep h rfl
def JoG{xs:List V}{ps:List Pr}(i:Same H0 H)(r:Prs K H xs ps):RDL K C (JN Hs H0 H) xs (ps.map prE):=by refine⟨by rw[r.len];simp,fun j x d h1 h2=>?_⟩;obtain⟨p,a,e1,e2,e3⟩:=r.at h1;rw[Qw,e1] at h2;cases h2;subst e2;exact .mkT (JfW i e3) (.cons (.int _) (.cons (.int _) .nil))
def Jnu(ha:SA K C t ev):SE K C (JgI C (Vn C K) [] X t) (eF ZK ev):=by
 intro B H0 H σ E c Q I e q;obtain⟨ss,e1,e⟩:=bind_some e;refine LR.Jgq (ha B H0 H σ E ss _ I e1 fun vs H1 H1' s1 r1=>?_);unfold ZK at e;split at e
 ·next s =>
  cases r1 with
  | cons r1 r1' =>
   cases r1';obtain⟨ds,e2,e⟩:=bind_some e;obtain⟨ps,e3,e⟩:=bind_some e;split at e
   ·next hg =>
    cases e;simp only[Q6,decide_eq_true_eq] at hg;have e4:=JaC e3;subst e4;obtain⟨l,xs,rfl,hq,r⟩:=r1.q s1.i e2;refine Jpp ⟨l,xs,rfl,hq,Jo3 (r.mono s1.i)⟩ (ZM hg.1) hg.2 fun x H2 nx s2 R=>?_
    obtain⟨x',dx,t',ts,ex,hx,ht,hp⟩:=R;cases ex;have i2:Same H1 H2:=s1.i.trans s2;have f:=JF (Hs:=H) i2;refine q _ (JN H H1 H2) H2 ⟨s1.h.trans s2,s1.z.trans f.z,fun a o e=>(f.n a o e).elim (fun z=>s1.n a o z) .inr,f.i⟩ ?_;have ts':=JoG (Hs:=H) (C:=C) i2 hp;exact .row (JbU i2 (Same.free s1.h nx) hx) (JfW i2 (.of ht)) ts'.1 ts'.2
   ·cases e
 ·cases e
def Jrl(T:RowC K C)(ha:SE K C ta ea):SE K C (JpN K ta "stretches") (e1 U6 ea):=by
 intro B H0 H σ E c Q I e q;obtain⟨a,e1,e⟩:=bind_some e;refine ha B H0 H σ E a _ I e1 fun x H1 H1' s1 r1=>?_
 unfold U6 at e;split at e
 ·cases e;obtain⟨x',dx,t',ts,rfl,hx,ht,hp⟩:=RD.rowI r1;exact⟨x',C,dx,_,_,rfl,s1.i _ _ hx,T.cl,T.ns,JhS t',q _ _ _ s1 (RD.mkT ht hp)⟩
 ·cases e
noncomputable def ints?:List D->Option (List Int)
 | []=>some []
 | .int i::ds=>(ints? ds).map (i::·)
 | _::_=>none
noncomputable def bls?:List D->Option (List Bool)
 | []=>some []
 | .bl i::ds=>(bls? ds).map (i::·)
 | _::_=>none
theorem ZR:∀ns:List Int,ints? (ns.map .int)=some ns
 | []=>rfl
 | n::ns=>by rw[Qf,ints?,ZR ns];rfl
theorem JbD:∀ns:List Bool,bls? (ns.map .bl)=some ns
 | []=>rfl
 | n::ns=>by rw[Qf,bls?,JbD ns];rfl
theorem YI:∀{ds:List D} {ns:List Int},ints? ds=some ns->ds=ns.map .int
 | [],_,e=>by cases e;rfl
 | .int i::ds,_,e=>by obtain⟨ns,e1,e2⟩:=map_some (show(ints? ds).map (i::·)=_ from e);rw[<- e2,YI e1];rfl
 | .non::_,_,e|.bl _::_,_,e|.str _::_,_,e|.tup _::_,_,e|.lst _::_,_,e|.fz _::_,_,e|.row _::_,_,e=>by cases e
theorem Zw:∀{ds:List D} {ns:List Bool},bls? ds=some ns->ds=ns.map .bl
 | [],_,e=>by cases e;rfl
 | .bl i::ds,_,e=>by obtain⟨ns,e1,e2⟩:=map_some (show(bls? ds).map (i::·)=_ from e);rw[<- e2,Zw e1];rfl
 | .non::_,_,e|.int _::_,_,e|.str _::_,_,e|.tup _::_,_,e|.lst _::_,_,e|.fz _::_,_,e|.row _::_,_,e=>by cases e
noncomputable def U8:List Sl->Option Sl
 | [.sh (.str x)]=>if x.length<=Qt then some (.sh (.int x.length)) else none
 | [s]=>s.q.map fun ds=>.sh (.int ds.length)
 | _=>none
noncomputable def Ja6:List Sl->Option Sl
 | [s]=>s.q.map fun ds=>.own ds
 | _=>none
noncomputable def JbS:List Sl->Option Sl
 | [s]=>s.q.bind fun ds=>(ints? ds).map fun ns=>.sh (.int ns.sum)
 | _=>none
noncomputable def Jlb:List Sl->Option Sl
 | [s]=>s.q.bind fun ds=>(bls? ds).map fun ns=>.sh (.bl (ns.any id))
 | _=>none
noncomputable def Jk9:List Sl->Option Sl
 | [s]=>s.q.bind fun ds=>(bls? ds).map fun ns=>.sh (.bl (ns.all id))
 | _=>none
noncomputable def Jhg:List Sl->Option Sl
 | [.sh (.int a),.sh (.int b)]=>some (.sh (.int (max a b)))
 | _=>none
noncomputable def JaL:List Sl->Option Sl
 | [.sh (.int a),.sh (.int b)]=>some (.sh (.int (min a b)))
 | _=>none
def RRL.one(r:RRL K C Hs H0 H vs [s]):∃v,vs=[v]/\RR K C Hs H0 H v s:=by
 cases r with
 | cons h t=>cases t;exact⟨_,rfl,h⟩
def RRL.two(r:RRL K C Hs H0 H vs [s,t]):∃v w,vs=[v,w]/\RR K C Hs H0 H v s/\RR K C Hs H0 H w t:=by
 cases r with
 | cons h r=>cases r with
  | cons h' r=>cases r;exact⟨_,_,rfl,h,h'⟩
def Jqe:VG K C (Je3 K) U8:=by
 intro Hs H0 H xs as c Q i hs r e q;unfold U8 at e;split at e
 ·split at e
  ·cases e;obtain⟨v,rfl,r0⟩:=r.one;rw[RD.strI r0];exact Jmg (by assumption) (q _ _ _ (.refl i) (RD.int _))
  ·cases e
 ·obtain⟨v,rfl,r0⟩:=r.one;obtain⟨ds,e1,rfl⟩:=map_some e;obtain⟨l,xs,rfl,h,r1⟩:=r0.q i e1;have z:=q (.int ds.length) _ _ (.refl i) (RD.int _);rw[<- r1.1] at z;exact JdJ h z
 ·cases e
def JnO:VG K C (Jcr K) Ja6:=by
 intro Hs H0 H xs as c Q i hs r e q;unfold Ja6 at e;split at e
 ·obtain⟨v,rfl,r0⟩:=r.one;obtain⟨ds,e1,rfl⟩:=map_some e;obtain⟨l,ys,rfl,h,r1⟩:=r0.q i e1;exact⟨l,ys,rfl,h,fun p hp=>YV i hs hp r1 q⟩
 ·cases e
def Jqh:VG K C (Jpg K) JbS:=by
 intro Hs H0 H xs as c Q i hs r e q;unfold JbS at e;split at e
 ·obtain⟨v,rfl,r0⟩:=r.one;obtain⟨ds,e1,e⟩:=bind_some e;obtain⟨ns,e2,rfl⟩:=map_some e;obtain⟨l,ys,rfl,h,r1⟩:=r0.q i e1;rw[YI e2] at r1;have:=r1.ints;subst this;exact⟨l,ns,rfl,h,q _ _ _ (.refl i) (RD.int _)⟩
 ·cases e
def Jqd:VG K C (Jo9 K) Jlb:=by
 intro Hs H0 H xs as c Q i hs r e q;unfold Jlb at e;split at e
 ·obtain⟨v,rfl,r0⟩:=r.one;obtain⟨ds,e1,e⟩:=bind_some e;obtain⟨ns,e2,rfl⟩:=map_some e;obtain⟨l,ys,rfl,h,r1⟩:=r0.q i e1;rw[Zw e2] at r1;have:=r1.bls;subst this;exact⟨l,ns,rfl,h,q _ _ _ (.refl i) (RD.bl _)⟩
 ·cases e
def Jqc:VG K C (Jo8 K) Jk9:=by
 intro Hs H0 H xs as c Q i hs r e q;unfold Jk9 at e;split at e
 ·obtain⟨v,rfl,r0⟩:=r.one;obtain⟨ds,e1,e⟩:=bind_some e;obtain⟨ns,e2,rfl⟩:=map_some e;obtain⟨l,ys,rfl,h,r1⟩:=r0.q i e1;rw[Zw e2] at r1;have:=r1.bls;subst this;exact⟨l,ns,rfl,h,q _ _ _ (.refl i) (RD.bl _)⟩
 ·cases e
def Jqf:VG K C Jpb Jhg:=by
 intro Hs H0 H xs as c Q i hs r e q;unfold Jhg at e;split at e
 ·cases e;obtain⟨v,w,rfl,r1,r2⟩:=r.two;rw[RD.intI r1,RD.intI r2];exact JjZ (q _ _ _ (.refl i) (RD.int _))
 ·cases e
def Jqg:VG K C Jpc JaL:=by
 intro Hs H0 H xs as c Q i hs r e q;unfold JaL at e;split at e
 ·cases e;obtain⟨v,w,rfl,r1,r2⟩:=r.two;rw[RD.intI r1,RD.intI r2];exact Jj0 (q _ _ _ (.refl i) (RD.int _))
 ·cases e
noncomputable def JpU:Sl->Option Bool
 | .sh .non=>some false
 | .sh (.bl b)=>some b
 | .sh (.int i)=>some (i != 0)
 | .sh (.str y)=>if y.length<=Qt then some ((y.length:Int) != 0) else none
 | s=>s.q.map fun ds=>!ds.isEmpty
noncomputable def tTru?(a:Ev):En->Option Bool:=fun E=>(a E).bind JpU
noncomputable def tyN:D->Option String
 | .non=>some "NoneType"
 | .bl _=>some "bool"
 | .int _=>some "int"
 | .str _=>some "str"
 | .tup _=>some "tuple"
 | .lst _=>some "list"
 | .fz _=>some "list"
 | .row _=>none
 | .dct _ _=>none
 | .dfz _ _=>none
 | .exc _=>none
noncomputable def Joh(t n:String):Bool:=t == n || (t == "bool" && n == "int")
noncomputable def Jhe(n:String)(a:Ev):Ev:=fun E=>(a E).bind fun s=>s.d.bind fun d=>(tyN d).map fun t=>.sh (.bl (Joh t n))
def RDL.empty(r:RDL K C H xs ds):xs.isEmpty=ds.isEmpty:=by cases xs <;> cases ds <;> first|rfl|(have:=r.1;simp at this)
def Jru(ha:SE K C te ea):ST K C (JpQ K te) (tTru? ea):=by
 intro B H0 H σ E k Q I e q;obtain⟨a,e1,e⟩:=bind_some e;refine ha B H0 H σ E a _ I e1 fun x H1 H1' s1 r1=>?_
 have seq:∀{a:Sl},RR K C H H1 H1' x a->a.q.map (fun ds=>!ds.isEmpty)=some k->∃k',JkQ K x H1' k'/\Q k' H1':=fun {a} r1 e=>by
  obtain⟨ds,e2,rfl⟩:=map_some e;obtain⟨l,xs,rfl,h,r⟩:=r1.q s1.i e2;have z:=q _ _ s1;rw[<- r.empty] at z;rcases h with h|h
  ·exact⟨_,.inl ⟨xs,h,rfl⟩,z⟩
  ·exact⟨_,.inr (.inl ⟨xs,h,rfl⟩),z⟩
 unfold JpU at e;split at e
 ·cases e;rw[RD.nonI r1];exact⟨_,rfl,q _ _ s1⟩
 ·cases e;rw[RD.blI r1];exact⟨_,rfl,q _ _ s1⟩
 ·cases e;rw[RD.intI r1];exact⟨_,rfl,q _ _ s1⟩
 ·split at e
  ·cases e;rw[RD.strI r1];exact⟨_,⟨by assumption,rfl⟩,q _ _ s1⟩
  ·cases e
 ·exact seq r1 e
def RD.ty(r:RD K C H x d)(e:tyN d=some t):TyS K H x (.type t):=by
 cases r with
 | non=>cases e;exact .of .non
 | bl b=>cases e;exact .of (.bl b)
 | int i=>cases e;exact .of (.int i)
 | str i=>cases e;exact .of (.str i)
 | tup h _ _=>cases e;exact .sqT h
 | lst h _ _=>cases e;exact .sqL (.of h)
 | fz h _ _=>cases e;exact .sqL h
 | row _ _ _ _=>cases e
 | dct _ _ _ _=>cases e
 | dfz _ _ _ _=>cases e
 | exc _ _=>cases e
noncomputable def JmZ(K:QE)(n:String):Prop:=∀t∈["NoneType","bool","int","str","tuple","list"],kitOne K (.type t) (.type n)=some (Joh t n)
def JmN(e:tyN d=some t):t∈["NoneType","bool","int","str","tuple","list"]:=by cases d <;> cases e <;> simp
def Jrq(hk:JmZ K n)(ha:SE K C te ea):SE K C (tCB (Jl9 K) (Y5 te (Y5 (tC (.ty n)) Vo))) (Jhe n ea):=by
 intro B H0 H σ E c Q I e q;obtain⟨a,e1,e⟩:=bind_some e;obtain⟨d,e2,e⟩:=bind_some e;obtain⟨t,e3,rfl⟩:=map_some e;refine ha B H0 H σ E a _ I e1 fun x H1 H1' s1 r1=>?_
 exact Jpk (RD.ty (r1.dat s1.i e2) e3) (hk t (JmN e3)) (q _ _ _ s1 (RD.bl _))
def Jja:JmZ K "list":=fun t ht=>by simp only[Qk,GB,or_false] at ht;rcases ht with rfl | rfl | rfl | rfl | rfl | rfl <;> kernel_rfl
mutual
inductive Pt where
 | nm (i:Nat)
 | tp (l:Pts)
inductive Pts where
 | nil
 | cons (p:Pt) (l:Pts)
end
mutual
noncomputable def Pt.bind:Pt->D->En->Option En
 | .nm i,d,E=>if i<E.length then some (E.set i (.sh d)) else none
 | .tp l,.tup ds,E=>l.bind ds E
 | .tp _,_,_=>none
noncomputable def Pts.bind:Pts->List D->En->Option En
 | .nil,[],E=>some E
 | .cons p l,d::ds,E=>(p.bind d E).bind fun E'=>l.bind ds E'
 | _,_,_=>none
end
mutual
noncomputable def Pt.slots:Pt->List Nat
 | .nm i=>[i]
 | .tp l=>l.slots
noncomputable def Pts.slots:Pts->List Nat
 | .nil=>[]
 | .cons p l=>p.slots++l.slots
end
mutual
theorem Pt.keep:∀{p:Pt} {d:D} {E E':En},p.bind d E=some E'->E'.length=E.length/\∀i,i∉p.slots->E'[i]?=E[i]?
 | .nm i,d,E,E',e=>by
  unfold Pt.bind at e;split at e
  ·cases e;refine⟨by simp,fun j hj=>?_⟩;rw[Ga,if_neg];intro z;exact hj (by simp[Pt.slots,z])
  ·cases e
 | .tp l,d,E,E',e=>by
  cases d with
  | tup ds=>exact Pts.keep (p:=l) (ds:=ds) (by simpa [Pt.bind] using e)
  | _=>simp[Pt.bind] at e
theorem Pts.keep:∀{p:Pts} {ds:List D} {E E':En},p.bind ds E=some E'->E'.length=E.length/\∀i,i∉p.slots->E'[i]?=E[i]?
 | .nil,[],E,E',e=>by simp[Pts.bind] at e;subst e;exact⟨rfl,fun _ _=>rfl⟩
 | .nil,_::_,_,_,e=>by simp[Pts.bind] at e
 | .cons _ _,[],_,_,e=>by simp[Pts.bind] at e
 | .cons p l,d::ds,E,E',e=>by rw[Pts.bind] at e;obtain⟨E1,e1,e2⟩:=bind_some e;obtain⟨h1,h2⟩:=Pt.keep e1;obtain⟨h3,h4⟩:=Pts.keep e2;refine⟨h3.trans h1,fun i hi=>?_⟩;simp[Pts.slots] at hi;rw[h4 i hi.2,h2 i hi.1]
end
section
variable(K:QE)(C:Qj)
noncomputable def SG(g:TG)(p:Pt):Prop:=∀(B H0 H:Hp) (σ:St) (E E':En) (x:V) (d:D) (Q:St->Hp->Prop),EnvR K C B H0 H σ E->RD K C H0 x d->p.bind d E=some E'->(∀σ',EnvR K C B H0 H σ' E'->Q σ' H)->g x σ H Q
noncomputable def SGs(g:TGs)(p:Pts):Prop:=∀(B H0 H:Hp) (σ:St) (E E':En) (xs:List V) (ds:List D) (Q:St->Hp->Prop),EnvR K C B H0 H σ E->RDL K C H0 xs ds->p.bind ds E=some E'->(∀σ',EnvR K C B H0 H σ' E'->Q σ' H)->g xs σ H Q
end
def EnvR.setSh{σ:St}{E:En}(I:EnvR K C B H0 H σ E)(hi:i<E.length)(r:RD K C H0 v d):EnvR K C B H0 H (σ.set i (some v)) (E.set i (.sh d)) :=
 I.put' (s:=.sh d) (.refl I.h) hi r rfl
def JnY(i:Nat):SG K C (U1 i) (.nm i):=by
 intro B H0 H σ E E' x d Q I r e q;rw[Pt.bind] at e;split at e
 ·cases e;exact q _ (I.setSh (by assumption) r)
 ·cases e
def Jm6:SGs K C Jlm .nil:=by
 intro B H0 H σ E E' xs ds Q I r e q
 cases ds with
 | nil =>
  cases xs with
  | nil=>rw[Pts.bind] at e;cases e;exact⟨rfl,q σ I⟩
  | cons _ _=>have:=r.1;simp at this
 | cons _ _=>simp[Pts.bind] at e
def JeE(h:SG K C g p)(hs:SGs K C gs ps):SGs K C (JfX g gs) (.cons p ps):=by
 intro B H0 H σ E E' xs ds Q I r e q
 cases ds with
 | nil=>simp[Pts.bind] at e
 | cons d ds =>
  cases xs with
  | nil=>have:=r.1;simp at this
  | cons x xs=>rw[Pts.bind] at e;obtain⟨E1,e1,e2⟩:=bind_some e;exact⟨x,xs,rfl,h B H0 H σ E E1 x d _ I r.head e1 fun σ1 I1=>hs B H0 H σ1 E1 E' xs ds Q I1 r.tail e2 q⟩
def JrP(hn:∀(ds:List D) (E E':En),ps.bind ds E=some E'->ds.length=n)(hs:SGs K C gs ps):SG K C (Jhi K n gs) (.tp ps):=by
 intro B H0 H σ E E' x d Q I r e q
 cases d with
 | tup ds=>rw[Pt.bind] at e;obtain⟨a,xs,rfl,h,r⟩:=RD.tupI r;exact⟨a,xs,rfl,I.h.seqT h,by rw[r.1];exact hn ds E E' e,hs B H0 H σ E E' xs ds Q I r e q⟩
 | _=>simp[Pt.bind] at e
noncomputable def Pts.len:Pts->Nat
 | .nil=>0
 | .cons _ l=>l.len+1
theorem Pts.bind_len:∀{ps:Pts} {ds:List D} {E E':En},ps.bind ds E=some E'->ds.length=ps.len
 | .nil,[],_,_,_=>rfl
 | .nil,_::_,_,_,e=>by simp[Pts.bind] at e
 | .cons _ _,[],_,_,e=>by simp[Pts.bind] at e
 | .cons p l,d::ds,E,E',e=>by rw[Pts.bind] at e;obtain⟨E1,e1,e2⟩:=bind_some e;rw[Qr,Pts.bind_len e2];rfl
def Jm7(hs:SGs K C gs ps)(hn:ps.len=n):SG K C (Jhi K n gs) (.tp ps):=JrP (fun _ _ _ e=>(Pts.bind_len e).trans hn) hs
section
variable(K:QE)(C:Qj)
noncomputable def JkL(A:Hp)(J:It)(ds:List D)(H0:Hp):Prop:=∀H0' H',SStep A H0 H0' H'->(∀(i:Nat) (d:D),ds[i]?=some d->J.go i H'/\∀x H2,J.yld i H' x H2->∃H02,Step H' H0' H' H02 H2/\RD K C H02 x d)/\J.stop ds.length H'
noncomputable def SI(m:Bool)(wi:TI)(ev:En->Option (List D)):Prop:=∀(B H0 H:Hp) (σ:St) (E:En) (ds:List D) (R:It->Hp->Prop),EnvR K C B H0 H σ E->ev E=some ds ->
 (∀J H0' H',Step H H0 H H0' H'->JkL K C (if m=true then H' else B) J ds H0'->R J H')->wi σ H R
end
noncomputable def Sl.it(m:Bool):Sl->Option (List D)
 | .bo ds=>if m=true then some ds else none
 | s=>s.q
noncomputable def iE(m:Bool)(a:Ev):En->Option (List D):=fun E=>(a E).bind (Sl.it m)
noncomputable def iV(i:Nat):En->Option (List D):=fun E=>match E[i]? with
 | some (.bo ds)=>some ds
 | some (.sh d)=>(Sl.sh d).q
 | _=>none
noncomputable def rng(lo:Int)(n:Nat):List D:=(Ge n).map fun(i:Nat)=>.int (lo+(i:Int))
noncomputable def JeJ(a:Int):Bool:=Nat.ble a.natAbs 4611686018427387903
noncomputable def iR1(as:En->Option (List Sl)):En->Option (List D):=fun E=>(as E).bind fun ss=>match ss with
 | [.sh (.int n)]=>if JeJ n=true then some (rng 0 n.toNat) else none
 | _=>none
def Wd(hd:∀H0' H',SStep A H0 H0' H'->SqL K H' a xs)(r:RDL K C H0 xs ds):JkL K C A (Itl K a) ds H0:=by intro H0' H' st;have hq:=hd H0' H' st;refine⟨fun i d e=>?_,⟨xs,hq,by rw[r.1];exact Qp _⟩⟩;obtain⟨x,e1,r1⟩:=r.get e;refine⟨⟨xs,x,hq,e1⟩,fun y H2 ⟨e2,e3⟩=>?_⟩;subst e2;have:=e3 xs hq;rw[e1] at this;cases this;exact⟨H0',.refl st.i,r1.mono st.z⟩
def Jn7(hd:∀H0' H',SStep A H0 H0' H'->SqT K H' a xs)(r:RDL K C H0 xs ds):JkL K C A (Itt K a) ds H0:=by intro H0' H' st;have hq:=hd H0' H' st;refine⟨fun i d e=>?_,⟨xs,hq,by rw[r.1];exact Qp _⟩⟩;obtain⟨x,e1,r1⟩:=r.get e;refine⟨⟨xs,x,hq,e1⟩,fun y H2 ⟨e2,e3⟩=>?_⟩;subst e2;have:=e3 xs hq;rw[e1] at this;cases this;exact⟨H0',.refl st.i,r1.mono st.z⟩
def Jrm(ha:SE K C te ea):SI K C m (JeI K te) (iE m ea):=by
 intro B H0 H σ E ds R I e q;obtain⟨s,e1,e⟩:=bind_some e
 cases s with
 | no=>cases e
 | bd _ _=>cases e
 | bt _ _=>cases e
 | od _ _=>cases e
 | ot _ _=>cases e
 | bo es =>
  unfold Sl.it at e;dsimp only at e;split at e
  ·next hm=>cases e;refine .inl (ha B H0 H σ E _ _ I e1 fun x H1 H1' s1 r1=>?_);obtain⟨l,xs,rfl,h,r⟩:=r1;refine⟨l,rfl,⟨xs,.of h⟩,q _ _ _ s1 ?_⟩;rw[if_pos hm];exact Wd (fun H0' H' st=>.of (st.b _ _ h)) r
  ·cases e
 | own es=>cases (show some es=some ds from e);refine .inl (ha B H0 H σ E _ _ I e1 fun x H1 H1' s1 r1=>?_);have f:=JF (Hs:=H) s1.i;have r2:=RR.frz s1.i r1 rfl;obtain⟨l,xs,rfl,h,r⟩:=RD.lstI r2;exact⟨l,rfl,⟨xs,.of (f.i _ _ h)⟩,q _ _ _ (s1.comp f fun _ z=>z) (Wd (fun H0' H' st=>.of (st.i _ _ (st.z _ _ h))) r)⟩
 | sh d =>
  cases d with
  | lst es=>cases (show some es=some ds from e);refine .inl (ha B H0 H σ E _ _ I e1 fun x H1 H1' s1 r1=>?_);obtain⟨l,xs,rfl,h,r⟩:=RD.lstI r1;exact⟨l,rfl,⟨xs,.of (s1.i _ _ h)⟩,q _ _ _ s1 (Wd (fun H0' H' st=>.of (st.i _ _ (st.z _ _ h))) r)⟩
  | fz es=>cases (show some es=some ds from e);refine .inl (ha B H0 H σ E _ _ I e1 fun x H1 H1' s1 r1=>?_);obtain⟨l,xs,rfl,h,r⟩:=RD.fzI r1;exact⟨l,rfl,⟨xs,s1.i.seq h⟩,q _ _ _ s1 (Wd (fun H0' H' st=>(st.z.trans st.i).seq h) r)⟩
  | tup es=>cases (show some es=some ds from e);refine .inr (ha B H0 H σ E _ _ I e1 fun x H1 H1' s1 r1=>?_);obtain⟨l,xs,rfl,h,r⟩:=RD.tupI r1;exact⟨l,rfl,⟨xs,s1.i.seqT h⟩,q _ _ _ s1 (Jn7 (fun H0' H' st=>(st.z.trans st.i).seqT h) r)⟩
  | _=>cases (show none=some ds from e)
def Jro(i:Nat):SI K C false (JeI K (V2 i)) (iV i):=by
 intro B H0 H σ E ds R I e q;unfold iV at e;split at e
 ·next es h =>
  cases e;rcases I.at' i _ h with z|⟨v,h1,h2⟩
  ·cases z
  ·obtain⟨l,xs,rfl,hl,r⟩:=h2;refine .inl ⟨_,h1,l,rfl,⟨xs,.of (I.b _ _ hl)⟩,q _ _ _ (.refl I.h) (Wd (fun H0' H' st=>.of (st.b _ _ hl)) r)⟩
 ·next d h=>refine Jrm (m:=false) (ea:=Jb i) (Ut i) B H0 H σ E ds R I ?_ q;show(Jb i E).bind _=_;unfold Jb;rw[h];exact e
 ·cases e
def Jmo(e:(rng lo n)[i]?=some d):i<n/\d=.int (lo+(i:Int)):=by
 unfold rng at e;rw[Qw] at e
 cases h:(Ge n)[i]? with
 | none=>rw[h] at e;cases e
 | some j=>rw[h] at e;cases e;obtain⟨h1,h2⟩:=Qq.mp h;simp at h1 h2;subst h2;exact⟨h1,rfl⟩
def Jn6:JkL K C A (Itr lo n) (rng lo n) H0:=by intro H0' H' st;refine⟨fun i d e=>?_,by show n<=_;simp[rng]⟩;obtain⟨h1,rfl⟩:=Jmo e;refine⟨h1,fun x H2 ⟨e1,e2⟩=>?_⟩;subst e1 e2;exact⟨H0',.refl st.i,.int _⟩
def Jb2(h:JeJ a=true):-(2 ^ 62)<=a/\a<2 ^ 62:=by unfold JeJ at h;rw[K2] at h;omega
def Jrn(ha:SA K C t ev):SI K C m (Jnc t) (iR1 ev):=by
 intro B H0 H σ E ds R I e q;obtain⟨ss,e1,e⟩:=bind_some e;split at e
 ·split at e
  ·next hn =>
   cases e;refine ha B H0 H σ E _ _ I e1 fun vs H1 H1' s1 r1=>?_
   obtain⟨v,rfl,r⟩:=r1.one;rw[RD.intI r];exact⟨_,rfl,(Jb2 hn).1,(Jb2 hn).2,q _ _ _ s1 Jn6⟩
  ·cases e
 ·cases e
noncomputable def yes?:En->Option Bool:=fun _=>some true
noncomputable def Wc(imp:List (Option Nat))(E:En):En:=imp.map fun o=>match o with
 | none=>.no
 | some k=>match E[k]? with
  | some (.own ds)=>.bo ds
  | some (.od ks ds)=>.bd ks ds
  | some (.ot ks ds)=>.bt ks ds
  | some s=>s
  | none=>.no
noncomputable def Ur(p:Pt)(c:En->Option Bool)(a:Ev)(E1:En):List D->Option (List D)
 | []=>some []
 | d::ds=>(p.bind d E1).bind fun E2=>(c E2).bind fun k=>if k=true then(a E2).bind fun s=>s.frz.bind fun y=>(Ur p c a E1 ds).bind fun ys=>some (y::ys) else Ur p c a E1 ds
noncomputable def Yi(it:En->Option (List D))(p:Pt)(c:En->Option Bool)(a:Ev)(imp:List (Option Nat)):Ev:=fun E=>(it E).bind fun ds=>if ds.length<=Qt then(Ur p c a (Wc imp E) ds).map .own else none
def Jrv:ST K C JpR yes?:=fun _ _ _ _ _ _ _ I e q=>by cases e;exact q _ _ (.refl I.h)
def Jk5{B H0 H:Hp}{σ:St}{E:En}{imp:List (Option Nat)}(I:EnvR K C B H0 H σ E):EnvR K C H H0 H (ZP imp σ) (Wc imp E):=by
 have get:∀(i:Nat) (s:Sl),(Wc imp E)[i]?=some s->s=.no\/∃v,(ZP imp σ)[i]?=some (some v)/\RSl K C H H0 H v s/\Yj s=false:=fun i s e=>by
  unfold Wc at e;unfold ZP;rw[Qw] at e ⊢
  cases h:imp[i]? with
  | none=>rw[h] at e;cases e
  | some o =>
   rw[h] at e
   cases o with
   | none=>cases e;exact .inl rfl
   | some k =>
    have e':(match E[k]? with|some (.own ds)=>Sl.bo ds|some (.od ks ds)=>Sl.bd ks ds|some (.ot ks ds)=>Sl.bt ks ds|some s=>s|none=>.no)=s:=QQ e
    cases hE:E[k]? with
    | none=>rw[hE] at e';exact .inl e'.symm
    | some s' =>
     rw[hE] at e';rcases I.at' k s' hE with z|⟨v,h1,h2⟩
     ·subst z;exact .inl e'.symm
     ·have g:(σ[k]?).join=some v:=by rw[h1];rfl
      cases s' with
      | no=>exact .inl e'.symm
      | sh d=>dsimp only at e';subst e';exact .inr ⟨v,by show some ((σ[k]?).join)=_;rw[g],h2,rfl⟩
      | bo ds=>dsimp only at e';subst e';obtain⟨l,xs,q1,q2,q3⟩:=h2;exact .inr ⟨v,by show some ((σ[k]?).join)=_;rw[g],⟨l,xs,q1,I.b _ _ q2,q3⟩,rfl⟩
      | own ds=>dsimp only at e';subst e';obtain⟨l,xs,q1,q2,_,_,q3⟩:=h2;exact .inr ⟨v,by show some ((σ[k]?).join)=_;rw[g],⟨l,xs,q1,q2,q3⟩,rfl⟩
      | bd ks ds=>dsimp only at e';subst e';obtain⟨l,xs,q1,q2,q3⟩:=h2;exact .inr ⟨v,by show some ((σ[k]?).join)=_;rw[g],⟨l,xs,q1,I.b _ _ q2,q3⟩,rfl⟩
      | bt ks ds=>dsimp only at e';subst e';obtain⟨l,xs,q1,q2,q3⟩:=h2;exact .inr ⟨v,by show some ((σ[k]?).join)=_;rw[g],⟨l,xs,q1,I.b _ _ q2,q3⟩,rfl⟩
      | od ks ds=>dsimp only at e';subst e';obtain⟨l,xs,q1,q2,_,_,q3⟩:=h2;exact .inr ⟨v,by show some ((σ[k]?).join)=_;rw[g],⟨l,xs,q1,q2,q3⟩,rfl⟩
      | ot ks ds=>dsimp only at e';subst e';obtain⟨l,xs,q1,q2,_,_,q3⟩:=h2;exact .inr ⟨v,by show some ((σ[k]?).join)=_;rw[g],⟨l,xs,q1,q2,q3⟩,rfl⟩
 refine⟨Same.refl _,I.h,by simp[ZP,Wc],fun i s e=>?_,fun i j s t v hij e1 e2 o1 o2=>?_⟩
 ·rcases get i s e with z|⟨v,h1,h2,_⟩
  ·exact .inl z
  ·exact .inr ⟨v,h1,h2⟩
 ·rcases get i _ e1 with z|⟨v,h1,h2,h3⟩
  ·subst z;cases o1
  ·rw[h3] at o1;cases o1
def Jpx(hi:SI K C true wi it)(hg:SG K C g p)(hc:ST K C tt c)(ha:SE K C te a)(hp:(p.slots.all fun i=>match imp[i]? with|some none=>true|_=>false)=true):SE K C (JgH wi g tt te imp) (Yi it p c a imp):=by
 intro B H0 H σ E r Q I e q;obtain⟨ds,e1,e⟩:=bind_some e;split at e
 ·next hl =>
  obtain⟨es,e2,rfl⟩:=map_some e;refine hi B H0 H σ E ds _ I e1 fun J H1 H1' s1 ok=>?_
  rw[if_pos rfl] at ok;have I1:EnvR K C H1' H1 H1' (ZP imp σ) (Wc imp E):=Jk5 (I.step s1)
  -- the loop: what was gathered,what comes
  refine⟨fun i m ys σ' H'=>m=ds.length-i/\i<=ds.length/\∃H0' gs rs,EnvR K C H1' H0' H' σ' (Wc imp E)/\Step H1' H1 H1' H0' H'/\RDL K C H0' ys gs/\Ur p c a (Wc imp E) (ds.drop i)=some rs/\es=gs++rs/\gs.length<=i,
   ⟨ds.length,by simp,GP _,H1,[],es,I1,.refl s1.i,.nil,e2,rfl,Qp _⟩,?_⟩
  rintro i m ys σ' H' ⟨rfl,hi',H0',gs,rs,I',st,rys,er,ees,hgl⟩;have stop:=ok H0' H' ⟨st.h,st.z,st.n,st.i⟩
  by_cases hlt:i<ds.length
  ·have hd:ds[i]?=some ds[i]:=by simp[hlt]
   obtain⟨go,yl⟩:=stop.1 i _ hd;refine .inr ⟨go,by rw[rys.1];omega,fun ys' σ2 H2=>∃H02 gs rs,EnvR K C H1' H02 H2 σ2 (Wc imp E)/\Step H1' H1 H1' H02 H2/\RDL K C H02 ys' gs/\Ur p c a (Wc imp E) (ds.drop (i+1))=some rs/\es=gs++rs/\gs.length<=i+1,
    fun ys' σ2 H2 h=>⟨ds.length-(i+1),by omega,rfl,hlt,h⟩,fun x H2 y=>?_⟩
   obtain⟨H02,st2,rx⟩:=yl x H2 y;rw[LU hlt,Ur] at er;obtain⟨E2,b1,er⟩:=bind_some er;obtain⟨k,b2,er⟩:=bind_some er;refine hg H1' H02 H2 σ' (Wc imp E) E2 x _ _ (I'.step st2) rx b1 fun σ2 I2=>?_
   have back:∀{H03 H3:Hp},EnvR K C H1' H03 H3 σ2 E2->EnvR K C H1' H03 H3 σ2 (Wc imp E):=fun {H03 H3} J=>by
    obtain⟨k1,k2⟩:=Pt.keep b1;refine J.sub k1.symm fun j s ej=>?_
    by_cases hj:j∈p.slots
    ·have:=Ka.mp hp j hj
     have ej':=ej;unfold Wc at ej';rw[Qw] at ej'
     cases hm:imp[j]? with
     | none=>rw[hm] at this;cases this
     | some o =>
      rw[hm] at this ej'
      cases o with
      | none=>cases ej';exact .inl rfl
      | some _=>cases this
    ·exact .inr (by rw[k2 j hj];exact ej)
   refine hc H1' H02 H2 σ2 E2 k _ I2 b2 fun H03 H3 st3=>?_
   have st13:Step H1' H1 H1' H03 H3:=(st.trans st2).trans st3
   cases k with
   | false=>rw[if_neg (by simp)];rw[if_neg (by simp)] at er;exact⟨H03,gs,rs,back (I2.step st3),st13,rys.mono (st2.z.trans st3.z),er,ees,by omega⟩
   | true =>
    rw[if_pos rfl];rw[if_pos rfl] at er;obtain⟨s,b3,er⟩:=bind_some er;obtain⟨y',b4,er⟩:=bind_some er;obtain⟨ws,b5,er⟩:=bind_some er;cases er;refine ha H1' H03 H3 σ2 E2 s _ (I2.step st3) b3 fun v H04 H4 st4 r4=>?_
    have f:=JF (Hs:=H3) st4.i
    have st5:Step H3 H03 H3 (JN H3 H04 H4) H4:=st4.comp f fun _ z=>z
    exact⟨_,gs++[y'],ws,back ((I2.step st3).step st5),st13.trans st5,(rys.mono ((st2.z.trans st3.z).trans st5.z)).snoc (RR.frz st4.i r4 b4),b5,by rw[ees,Q2];rfl,by rw[Qv];simp;exact hgl⟩
  ·have e3:i=ds.length:=by omega
   subst e3;refine .inl ⟨stop.2,by rw[rys.1];omega,fun p hp=>?_⟩;rw[List.drop_length,Ur] at er;cases er;rw[Gi] at ees;subst ees;exact YV (Hs:=H) st.i (s1.h.trans st.h) hp rys fun v H2 H2' s2 r2=>q v H2 H2' ((s1.trans st).comp s2 fun _ z=>z) r2
 ·cases e
end LE
namespace LE
open PySem L2 LR
inductive Out where
 | nx (E:En)|rt (r:Sl)|bk (E:En)|ct (E:En)
noncomputable abbrev Es:=En->Option Out
section
variable(K:QE)(C:Qj)
noncomputable def Fin(B H0:Hp)(D:Ends):Out->Prop
 | .nx E=>∀σ' H0' H',SStep B H0 H0' H'->EnvR K C B H0' H' σ' E->D.nx σ' H'
 | .bk E=>∀σ' H0' H',SStep B H0 H0' H'->EnvR K C B H0' H' σ' E->D.bk σ' H'
 | .ct E=>∀σ' H0' H',SStep B H0 H0' H'->EnvR K C B H0' H' σ' E->D.ct σ' H'
 | .rt r=>∀v H0' H',SStep B H0 H0' H'->RR K C B H0' H' v r->D.rt v H'
noncomputable def SS(ts:TS)(ev:Es):Prop:=∀(B H0 H:Hp) (σ:St) (E:En) (o:Out) (D:Ends),EnvR K C B H0 H σ E->ev E=some o->Fin K C B H0 D o->ts D σ H
end
noncomputable def JB:Es:=fun E=>some (.nx E)
noncomputable def Jfb(b:Es):Out->Option Out
 | .nx E=>b E
 | .rt r=>some (.rt r)
 | .bk E=>some (.bk E)
 | .ct E=>some (.ct E)
noncomputable def Jh(a b:Es):Es:=fun E=>(a E).bind (Jfb b)
noncomputable def xIf(c:En->Option Bool)(a b:Es):Es:=fun E=>(c E).bind fun k=>if k=true then a E else b E
noncomputable def keep?:Sl->Option Sl
 | .sh d=>some (.sh d)
 | .own ds=>some (.own ds)
 | .od ks ds=>some (.od ks ds)
 | .ot ks ds=>some (.ot ks ds)
 | _=>none
noncomputable def Y0(i:Nat)(a:Ev):Es:=fun E=>(a E).bind fun s=>(keep? s).bind fun s=>if i<E.length then some (.nx (E.set i s)) else none
noncomputable def Jm(i:Nat)(a:Ev):Es:=fun E=>(a E).bind fun s=>s.frz.bind fun d=>if i<E.length then some (.nx (E.set i (.sh d))) else none
noncomputable def JkF(p:Pt)(a:Ev):Es:=fun E=>(a E).bind fun s=>s.frz.bind fun d=>(p.bind d E).map .nx
noncomputable def JgR(a:Ev):Es:=fun E=>(a E).map fun _=>.nx E
noncomputable def Yh(a:Ev):Es:=fun E=>(a E).bind fun s=>(keep? s).map .rt
noncomputable def Y6(i:Nat):Es:=fun E=>match E[i]? with
 | some (.sh d)=>some (.rt (.sh d))
 | some (.own ds)=>some (.rt (.own ds))
 | some (.od ks ds)=>some (.rt (.od ks ds))
 | _=>none
noncomputable def Vr:Es:=fun _=>none
noncomputable def YZ(i:Nat)(a:Ev):Es:=fun E=>match E[i]? with
 | some (.own ds)=>(a E).bind fun s=>s.frz.bind fun d=>if ds.length<Qt then some (.nx (E.set i (.own (ds++[d])))) else none
 | _=>none
noncomputable def Jd9(i:Nat)(a:Ev):Es:=fun E=>match E[i]? with
 | some (.own ds)=>(a E).bind fun s=>s.m.bind fun es=>if ds.length+es.length<=Qt then some (.nx (E.set i (.own (ds++es)))) else none
 | _=>none
noncomputable def JmS(i j:Nat)(f:Sl->Option Sl):Es:=fun E=>match E[i]? with
 | some (.own ds)=>(ds[ds.length-1]?).bind fun d=>(f (.sh d)).bind fun s=>(sh? s).bind fun d'=>if j<E.length then some (.nx ((E.set i (.own ds.dropLast)).set j (.sh d'))) else none
 | _=>none
noncomputable def Jfq(f:Int->Int->Int)(i:Nat)(a:Ev):Es:=fun E=>match E[i]? with
 | some (.sh (.int x))=>(a E).bind fun s=>match s with
  | .sh (.int y)=>some (.nx (E.set i (.sh (.int (f x y)))))
  | _=>none
 | _=>none
noncomputable def Jll(i:Nat)(E:En):En:=match E[i]? with
 | some (.own ds)=>E.set i (.sh (.lst ds))
 | some (.od ks ds)=>E.set i (.sh (.dct ks ds))
 | _=>E
noncomputable def JmR(i:Nat)(a:Es):Es:=fun E=>a (Jll i E)
noncomputable def JD(p:Pt)(b:Es):List D->Es
 | [],E=>some (.nx E)
 | d::ds,E=>(p.bind d E).bind fun E1=>(b E1).bind fun o=>match o with
  | .nx E2=>JD p b ds E2
  | .ct E2=>JD p b ds E2
  | .bk E2=>some (.nx E2)
  | .rt r=>some (.rt r)
noncomputable def UD(it:En->Option (List D))(p:Pt)(b:Es):Es:=fun E=>(it E).bind fun ds=>JD p b ds E
noncomputable def YB(c:En->Option Bool)(b:Es):Nat->Es
 | 0,_=>none
 | n+1,E=>(c E).bind fun k=>if k=true then(b E).bind fun o=>match o with
  | .nx E2=>YB c b n E2
  | .ct E2=>YB c b n E2
  | .bk E2=>some (.nx E2)
  | .rt r=>some (.rt r)
  else some (.nx E)
section
variable{K:QE}{C:Qj}{B H0 H H0' H':Hp}{σ:St}{E:En}{D:Ends}{o:Out}{te:TE}{ea:Ev}{t u:TS}{et eu:Es}
def Fin.step(st:SStep B H0 H0' H')(f:Fin K C B H0 D o):Fin K C B H0' D o:=by
 cases o with
 | nx E=>exact fun σ' H1 H1' s1 I=>f σ' H1 H1' (st.trans s1) I
 | bk E=>exact fun σ' H1 H1' s1 I=>f σ' H1 H1' (st.trans s1) I
 | ct E=>exact fun σ' H1 H1' s1 I=>f σ' H1 H1' (st.trans s1) I
 | rt r=>exact fun v H1 H1' s1 I=>f v H1 H1' (st.trans s1) I
def EnvR.ss(I:EnvR K C B H0 H σ E):SStep B H0 H0 H:=.refl I.b I.h
def Jp1:SS K C Jkq JB:=fun _ _ _ _ _ _ _ I e f=>by cases e;exact f _ _ _ I.ss I
def JmT:SS K C Jkp Vr:=fun _ _ _ _ _ _ _ _ e _=>by cases e
def JaG(ht:SS K C t et)(hu:SS K C u eu):SS K C (JpP t u) (Jh et eu):=by
 intro B H0 H σ E o D I e f;obtain⟨o1,e1,e⟩:=bind_some e;refine ht B H0 H σ E o1 _ I e1 ?_
 cases o1 with
 | nx E1=>exact fun σ1 H1 H1' s1 I1=>hu B H1 H1' σ1 E1 o D I1 e (f.step s1)
 | bk E1=>cases e;exact f
 | ct E1=>cases e;exact f
 | rt r=>cases e;exact f
def Jr6(hc:ST K C c ec)(ht:SS K C t et)(hu:SS K C u eu):SS K C (JmJ c t u) (xIf ec et eu):=by
 intro B H0 H σ E o D I e f;obtain⟨k,e1,e⟩:=bind_some e;refine hc B H0 H σ E k _ I e1 fun H1 H1' s1=>?_
 cases k with
 | true=>rw[if_pos rfl];exact ht B H1 H1' σ E o D (I.step s1) e (f.step (s1.ss I.b))
 | false=>rw[if_neg (by simp)];exact hu B H1 H1' σ E o D (I.step s1) e (f.step (s1.ss I.b))
def Jbb(e:keep? s=some r):s=r/\Jn5 r=false:=by cases s <;> cases e <;> exact⟨rfl,rfl⟩
def JnG(ha:SE K C te ea):SS K C (JcD te (U1 i)) (Y0 i ea):=by
 intro B H0 H σ E o D I e f;obtain⟨s,e1,e⟩:=bind_some e;obtain⟨s',e2,e⟩:=bind_some e;obtain⟨rfl,hb⟩:=Jbb e2;split at e
 ·cases e;exact ha B H0 H σ E _ _ I e1 fun v H1 H1' s1 r1=>f _ _ _ (s1.ss I.b) (I.put' s1 (by assumption) r1 hb)
 ·cases e
def JcJ(ha:SE K C te ea):SS K C (JcD te (U1 i)) (Jm i ea):=by
 intro B H0 H σ E o D I e f;obtain⟨s,e1,e⟩:=bind_some e;obtain⟨d,e2,e⟩:=bind_some e;split at e
 ·cases e;refine ha B H0 H σ E _ _ I e1 fun v H1 H1' s1 r1=>?_
  have s2:Step H H0 H (JN H H1 H1') H1':=s1.comp (JF s1.i) fun _ z=>z
  exact f _ _ _ (s2.ss I.b) ((I.step s2).setSh (by assumption) (RR.frz s1.i r1 e2))
 ·cases e
def JrD(ha:SE K C te ea)(hg:SG K C g p):SS K C (JcD te g) (JkF p ea):=by
 intro B H0 H σ E o D I e f;obtain⟨s,e1,e⟩:=bind_some e;obtain⟨d,e2,e⟩:=bind_some e;obtain⟨E',e3,rfl⟩:=map_some e;refine ha B H0 H σ E _ _ I e1 fun v H1 H1' s1 r1=>?_
 have s2:Step H H0 H (JN H H1 H1') H1':=s1.comp (JF s1.i) fun _ z=>z
 exact hg B _ H1' σ E E' v d _ (I.step s2) (RR.frz s1.i r1 e2) e3 fun σ' I'=>f _ _ _ (s2.ss I.b) I'
def JkH(ha:SE K C te ea):SS K C (W4 te) (JgR ea):=by intro B H0 H σ E o D I e f;obtain⟨s,e1,rfl⟩:=map_some e;exact ha B H0 H σ E _ _ I e1 fun v H1 H1' s1 r1=>f _ _ _ (s1.ss I.b) (I.step s1)
def JrJ(ha:SE K C te ea):SS K C (JpO te) (Yh ea):=by intro B H0 H σ E o D I e f;obtain⟨s,e1,e⟩:=bind_some e;obtain⟨s',e2,rfl⟩:=map_some e;obtain⟨rfl,hb⟩:=Jbb e2;exact ha B H0 H σ E _ _ I e1 fun v H1 H1' s1 r1=>f _ _ _ (s1.ss I.b) (r1.weak fun a z=>Same.free I.b z)
def JkI:SS K C (JpO (V2 i)) (Y6 i):=by
 intro B H0 H σ E o D I e f;unfold Y6 at e;split at e
 ·next d h =>
  cases e;rcases I.at' i _ h with z|⟨v,h1,h2⟩
  ·cases z
  ·exact⟨v,h1,f _ _ _ I.ss h2⟩
 ·next d h =>
  cases e;rcases I.at' i _ h with z|⟨v,h1,h2⟩
  ·cases z
  ·exact⟨v,h1,f _ _ _ I.ss h2⟩
 ·next d h =>
  cases e;rcases I.at' i _ h with z|⟨v,h1,h2⟩
  ·cases z
  ·exact⟨v,h1,f _ _ _ I.ss h2⟩
 ·cases e
def EnvR.mutG{i:Nat}{l:Qj}{t t':Sl}{o':HO}(I:EnvR K C B H0 H σ E)(e1:E[i]?=some t)(ho:Yj t=true)(ho':Yj t'=true)(e2:σ[i]?=some (some (.ref l)))(r:RSl K C B H0 (upd H l o') (.ref l) t') :
 EnvR K C B H0 (upd H l o') σ (E.set i t'):=by
 obtain⟨h1,h2,h3⟩:=I.ownG e1 ho e2;have hi:i<E.length:=(Qq.mp e1).1;have nb:∀{A:Hp},A l=none->Same A H->Same A (upd H l o'):=fun {A} n s a o e=>by rw[Ji (Jq e n)];exact s a o e
 refine⟨nb h3 I.b,nb h2 I.h,by simp[I.len],fun j s e=>?_,fun j k s1 s2 v hjk a1 a2 p1 p2 a3=>?_⟩
 ·rw[Ga] at e
  by_cases hj:i=j
  ·subst hj;rw[if_pos rfl,if_pos hi] at e;cases e;exact .inr ⟨_,e2,r⟩
  ·rw[if_neg hj] at e;rcases I.at' j s e with z|⟨v,q1,q2⟩
   ·exact .inl z
   ·refine .inr ⟨v,q1,?_⟩
    cases s with
    | no=>trivial
    | sh d=>exact q2
    | bo es=>exact q2
    | bd ks es=>exact q2
    | bt ks es=>exact q2
    | own es =>
     obtain⟨l',ys,p1,p2,p3,p4,p5⟩:=q2;subst p1;have:l'≠l:=fun z=>by subst z;exact I.sep i j t _ (.ref l') hj e1 e ho rfl e2 q1
     exact⟨l',ys,rfl,by rw[Ji this];exact p2,p3,p4,p5⟩
    | od ks es =>
     obtain⟨l',ys,p1,p2,p3,p4,p5⟩:=q2;subst p1;have:l'≠l:=fun z=>by subst z;exact I.sep i j t _ (.ref l') hj e1 e ho rfl e2 q1
     exact⟨l',ys,rfl,by rw[Ji this];exact p2,p3,p4,p5⟩
    | ot ks es =>
     obtain⟨l',ys,p1,p2,p3,p4,p5⟩:=q2;subst p1;have:l'≠l:=fun z=>by subst z;exact I.sep i j t _ (.ref l') hj e1 e ho rfl e2 q1
     exact⟨l',ys,rfl,by rw[Ji this];exact p2,p3,p4,p5⟩
 ·have own:∀{j:Nat} {u:Sl},(E.set i t')[j]?=some u->Yj u=true->∃g,E[j]?=some g/\Yj g=true:=fun {j u} a w=>by
   rw[Ga] at a
   by_cases hj:i=j
   ·subst hj;exact⟨t,e1,ho⟩
   ·rw[if_neg hj] at a;exact⟨_,a,w⟩
  obtain⟨g1,b1,c1⟩:=own a1 p1;obtain⟨g2,b2,c2⟩:=own a2 p2;exact I.sep j k g1 g2 v hjk b1 b2 c1 c2 a3
def EnvR.mut{i:Nat}{l:Qj}{ds ds':List LE.D}{xs xs':List V}(I:EnvR K C B H0 H σ E)(e1:E[i]?=some (.own ds))(e2:σ[i]?=some (some (.ref l)))(r:RDL K C H0 xs' ds') :
 EnvR K C B H0 (upd H l (.lst xs')) σ (E.set i (.own ds')):=by
 obtain⟨_,h2,h3⟩:=I.ownG e1 rfl e2;exact I.mutG (t':=.own ds') e1 rfl rfl e2 ⟨l,xs',rfl,Jn,h2,h3,r⟩
def EnvR.slot{i:Nat}{ds:List LE.D}(I:EnvR K C B H0 H σ E)(e1:E[i]?=some (.own ds)):∃l xs,σ[i]?=some (some (.ref l))/\H l=some (.lst xs)/\H0 l=none/\B l=none/\RDL K C H0 xs ds:=by
 rcases I.at' i _ e1 with z|⟨v,h1,l,xs,rfl,h2,h3,h4,h5⟩
 ·cases z
 ·exact⟨l,xs,h1,h2,h3,h4,h5⟩
def JrC(ha:SE K C te ea):SS K C (W4 (tBM K "list" Wk (V2 i) (Y5 te Vo))) (YZ i ea):=by
 intro B H0 H σ E o D I e f;unfold YZ at e;split at e
 ·next ds h =>
  obtain⟨s,e1,e⟩:=bind_some e;obtain⟨d,e2,e⟩:=bind_some e;split at e
  ·next hz =>
   cases e;obtain⟨l,xs,g1,g2,g3,g4,g5⟩:=I.slot h;refine⟨_,g1,.inl ⟨rfl,_,.of g2⟩,?_⟩;refine ha B H0 H σ E _ _ I e1 fun v H1 H1' s1 r1=>?_
   have s2:Step H H0 H (JN H H1 H1') H1':=s1.comp (JF s1.i) fun _ z=>z
   have I2:=I.step s2
   have m:=I2.mut (xs:=xs) h g1 ((g5.mono s2.z).snoc (RR.frz s1.i r1 e2));exact⟨l,xs,v,rfl,rfl,s2.h _ _ g2,by rw[g5.1];exact hz,f _ _ _ ⟨m.b,s2.z,(s2.ss I.b).n,m.h⟩ m⟩
  ·cases e
 ·cases e
def JrF(ha:SE K C te ea):SS K C (W4 (tBM K "list" Jgm (V2 i) (Y5 te Vo))) (Jd9 i ea):=by
 intro B H0 H σ E o D I e f;unfold Jd9 at e;split at e
 ·next ds h =>
  obtain⟨s,e1,e⟩:=bind_some e;obtain⟨es,e2,e⟩:=bind_some e;split at e
  ·next hz =>
   cases e;obtain⟨l,xs,g1,g2,g3,g4,g5⟩:=I.slot h;refine⟨_,g1,.inl ⟨rfl,_,.of g2⟩,?_⟩;refine ha B H0 H σ E _ _ I e1 fun v H1 H1' s1 r1=>?_
   have I2:=I.step s1;obtain⟨l',ys,rfl,k1,k2⟩:=r1.m s1.i e2
   have m:=I2.mut (xs:=xs) h g1 ((g5.mono s1.z).append k2);exact⟨l,l',xs,ys,rfl,rfl,s1.h _ _ g2,k1,by rw[g5.1,k2.1];exact hz,f _ _ _ ⟨m.b,s1.z,(s1.ss I.b).n,m.h⟩ m⟩
  ·cases e
 ·cases e
def JrI:SS K C (JcD (JpM K "list" Jra (V2 i)) (U1 j)) (JmS i j some):=by
 intro B H0 H σ E o D I e f;unfold JmS at e;split at e
 ·next ds h =>
  obtain⟨d,e1,e⟩:=bind_some e;obtain⟨s,e2,e⟩:=bind_some e;cases e2;obtain⟨d',e3,e⟩:=bind_some e;cases e3;split at e
  ·next hj =>
   cases e;obtain⟨l,xs,g1,g2,g3,g4,g5⟩:=I.slot h;rw[<- g5.1] at e1;obtain⟨y,e4,r4⟩:=g5.get e1;have hd:RDL K C H0 xs.dropLast ds.dropLast:=by rw[RQ,RQ,g5.1];exact g5.take _
   have m:=I.mut (xs:=xs) h g1 hd;refine⟨_,g1,.inl ⟨rfl,_,.of g2⟩,l,xs,y,rfl,rfl,g2,e4,?_⟩;exact f _ _ _ ⟨m.b,Same.refl _,fun _ _ e=>.inl e,m.h⟩ (m.setSh (by simpa using hj) r4)
  ·cases e
 ·cases e
def JrE(ha:SE K C te ea):SS K C (Jrx i te (ipI g)) (Jfq g i ea):=by
 intro B H0 H σ E o D I e f;unfold Jfq at e;split at e
 ·next x h =>
  obtain⟨s,e1,e⟩:=bind_some e;split at e
  ·cases e;rcases I.at' i _ h with z|⟨v,h1,h2⟩
   ·cases z
   ·have hi:i<E.length:=(Qq.mp h).1;refine⟨v,h1,ha B H0 H σ E _ _ I e1 fun w H1 H1' s1 r1=>⟨_,_,RD.intI h2,RD.intI r1,f _ _ _ (s1.ss I.b) ((I.step s1).setSh hi (.int _))⟩⟩
  ·cases e
 ·cases e
def EnvR.slotD{i:Nat}{ks:List Int}{ds:List LE.D}(I:EnvR K C B H0 H σ E)(e1:E[i]?=some (.od ks ds)):∃l xs,σ[i]?=some (some (.ref l))/\H l=some (dkO ks xs)/\H0 l=none/\B l=none/\ks.length=ds.length/\RDL K C H0 xs ds:=by
 rcases I.at' i _ e1 with z|⟨v,h1,l,xs,rfl,h2,h3,h4,h5⟩
 ·cases z
 ·exact⟨l,xs,h1,h2,h3,h4,h5⟩
def EnvR.frzG(I:EnvR K C B H0 H σ E){i:Nat}{t:Sl}{l:Qj}{o:HO}{d:LE.D}(h:E[i]?=some t)(ho:Yj t=true)(g1:σ[i]?=some (some (.ref l)))(g2:H l=some o)(g5:∀H1,Same H0 H1->H1 l=some o->RD K C H1 (.ref l) d):∃H0',SStep B H0 H0' H/\EnvR K C B H0' H σ (E.set i (.sh d)):=by
 obtain⟨_,g3,g4⟩:=I.ownG h ho g1;have hi:i<E.length:=(Qq.mp h).1;have s0:Same H0 (upd H0 l o):=.new g3
 have s1:Same (upd H0 l o) H:=fun a o e=>by
  by_cases ha:a=l
  ·subst ha;rw[Jn] at e;cases e;exact g2
  ·rw[Ji ha] at e;exact I.h a o e
 refine⟨upd H0 l o,⟨I.b,s0,fun a o e=>?_,s1⟩,I.b,s1,by simp[I.len],fun j s e=>?_,fun j k u1 u2 v hjk a1 a2 w1 w2 a3=>?_⟩
 ·by_cases ha:a=l
  ·subst ha;exact .inr (.inl g4)
  ·rw[Ji ha] at e;exact .inl e
 ·rw[Ga] at e
  by_cases hj:i=j
  ·subst hj;rw[if_pos rfl,if_pos hi] at e;cases e;exact .inr ⟨_,g1,g5 _ s0 Jn⟩
  ·rw[if_neg hj] at e;rcases I.at' j s e with z|⟨v,q1,q2⟩
   ·exact .inl z
   ·refine .inr ⟨v,q1,?_⟩
    cases s with
    | no=>trivial
    | sh d=>exact RD.mono s0 q2
    | bo es=>obtain⟨l',ys,p1,p2,p3⟩:=q2;exact⟨l',ys,p1,p2,p3.mono s0⟩
    | bd ks es=>obtain⟨l',ys,p1,p2,hk,p3⟩:=q2;exact⟨l',ys,p1,p2,hk,p3.mono s0⟩
    | bt ks es=>obtain⟨l',ys,p1,p2,hk,p3⟩:=q2;exact⟨l',ys,p1,p2,hk,p3.mono s0⟩
    | own es =>
     obtain⟨l',ys,p1,p2,p3,p4,p5⟩:=q2;subst p1;have:l'≠l:=fun z=>by subst z;exact I.sep i j t _ (.ref l') hj h e ho rfl g1 q1
     exact⟨l',ys,rfl,p2,by rw[Ji this];exact p3,p4,p5.mono s0⟩
    | od ks es =>
     obtain⟨l',ys,p1,p2,p3,p4,hk,p5⟩:=q2;subst p1;have:l'≠l:=fun z=>by subst z;exact I.sep i j t _ (.ref l') hj h e ho rfl g1 q1
     exact⟨l',ys,rfl,p2,by rw[Ji this];exact p3,p4,hk,p5.mono s0⟩
    | ot ks es =>
     obtain⟨l',ys,p1,p2,p3,p4,hk,p5⟩:=q2;subst p1;have:l'≠l:=fun z=>by subst z;exact I.sep i j t _ (.ref l') hj h e ho rfl g1 q1
     exact⟨l',ys,rfl,p2,by rw[Ji this];exact p3,p4,hk,p5.mono s0⟩
 ·have own:∀{j:Nat} {u:Sl},(E.set i (.sh d))[j]?=some u->Yj u=true->E[j]?=some u:=fun {j u} a w=>by
   rw[Ga] at a
   by_cases hj:i=j
   ·subst hj;rw[if_pos rfl,if_pos hi] at a;cases a;cases w
   ·rw[if_neg hj] at a;exact a
  exact I.sep j k u1 u2 v hjk (own a1 w1) (own a2 w2) w1 w2 a3
def EnvR.frz(I:EnvR K C B H0 H σ E)(i:Nat):∃H0',SStep B H0 H0' H/\EnvR K C B H0' H σ (Jll i E):=by
 unfold Jll;split
 ·next ds h=>obtain⟨l,xs,g1,g2,g3,g4,g5⟩:=I.slot h;exact I.frzG h rfl g1 g2 fun H1 s0 hl=>.mkL hl (g5.mono s0)
 ·next ks ds h=>obtain⟨l,xs,g1,g2,g3,g4,hk,g5⟩:=I.slotD h;exact I.frzG h rfl g1 g2 fun H1 s0 hl=>.mkD hl hk (g5.mono s0)
 ·exact⟨H0,I.ss,I⟩
def JrG(i:Nat)(ht:SS K C t et):SS K C t (JmR i et):=by intro B H0 H σ E o D I e f;obtain⟨H0',s,I'⟩:=I.frz i;exact ht B H0' H σ _ o D I' e (f.step s)
def JnF(hi:SI K C false wi it)(hg:SG K C g p)(ht:SS K C t et):SS K C (JmI wi g t) (UD it p et):=by
 intro B H0 H σ E o D I e f;obtain⟨ds,e1,e⟩:=bind_some e;refine hi B H0 H σ E ds _ I e1 fun J H1 H1' s1 ok=>?_
 rw[if_neg (by simp)] at ok;refine⟨fun i m σ' H'=>m=ds.length-i/\i<=ds.length/\∃H0' E',EnvR K C B H0' H' σ' E'/\SStep B H1 H0' H'/\JD p et (ds.drop i) E'=some o,
  ⟨ds.length,by simp,GP _,H1,E,I.step s1,.refl (I.b.trans s1.h) s1.i,e⟩,?_⟩
 rintro i m σ' H' ⟨rfl,hi',H0',E',I',st,er⟩;have stop:=ok H0' H' st;have f':Fin K C B H0' D o:=(f.step (s1.ss I.b)).step st
 by_cases hlt:i<ds.length
 ·have hd:ds[i]?=some ds[i]:=by simp[hlt]
  obtain⟨go,yl⟩:=stop.1 i _ hd;refine .inr ⟨go,fun σ2 H2=>∃H02 E2,EnvR K C B H02 H2 σ2 E2/\SStep B H1 H02 H2/\JD p et (ds.drop (i+1)) E2=some o,fun σ2 H2 h=>⟨ds.length-(i+1),by omega,rfl,hlt,h⟩,fun x H2 y=>?_⟩;obtain⟨H02,st2,rx⟩:=yl x H2 y;rw[LU hlt,JD] at er;obtain⟨E1,b1,er⟩:=bind_some er;obtain⟨o1,b2,er⟩:=bind_some er;have ss2:SStep B H0' H02 H2:=st2.ss I'.b;refine hg B H02 H2 σ' E' E1 x _ _ (I'.step st2) rx b1 fun σ2 I2=>?_
  refine ht B H02 H2 σ2 E1 o1 _ I2 b2 ?_
  cases o1 with
  | nx E2=>exact fun σ3 H3 H3' s3 I3=>⟨H3,E2,I3,(st.trans ss2).trans s3,er⟩
  | ct E2=>exact fun σ3 H3 H3' s3 I3=>⟨H3,E2,I3,(st.trans ss2).trans s3,er⟩
  | bk E2=>cases er;exact f'.step ss2
  | rt r=>cases er;exact f'.step ss2
 ·have e3:i=ds.length:=by omega
  subst e3;rw[List.drop_length,JD] at er;cases er;exact .inl ⟨stop.2,f' _ _ _ I'.ss I'⟩
def JmU(hc:ST K C c ec)(ht:SS K C t et):SS K C (Jkt c t) (YB ec et n):=by
 intro B H0 H σ E o D I e f;refine⟨fun m σ' H'=>∃H0' E',EnvR K C B H0' H' σ' E'/\SStep B H0 H0' H'/\YB ec et m E'=some o,⟨n,H0,E,I,I.ss,e⟩,?_⟩;rintro m σ' H' ⟨H0',E',I',st,er⟩
 cases m with
 | zero=>cases er
 | succ m =>
  rw[YB] at er;obtain⟨k,b1,er⟩:=bind_some er;refine hc B H0' H' σ' E' k _ I' b1 fun H1 H1' s1=>?_
  have f':Fin K C B H1 D o:=(f.step st).step (s1.ss I'.b)
  cases k with
  | false=>rw[if_neg (by simp)] at er ⊢;cases er;exact f' _ _ _ (I'.step s1).ss (I'.step s1)
  | true =>
   rw[if_pos rfl] at er ⊢;obtain⟨o1,b2,er⟩:=bind_some er;refine⟨fun σ2 H2=>∃H02 E2,EnvR K C B H02 H2 σ2 E2/\SStep B H0 H02 H2/\YB ec et m E2=some o,fun σ2 H2 h=>⟨m,G2 _,h⟩,?_⟩;have st1:=st.trans (s1.ss I'.b);refine ht B H1 H1' σ' E' o1 _ (I'.step s1) b2 ?_
   cases o1 with
   | nx E2=>exact fun σ3 H3 H3' s3 I3=>⟨H3,E2,I3,st1.trans s3,er⟩
   | ct E2=>exact fun σ3 H3 H3' s3 I3=>⟨H3,E2,I3,st1.trans s3,er⟩
   | bk E2=>cases er;exact f'
   | rt r=>cases er;exact f'
end
noncomputable def Jez:Out->Option Sl
 | .nx _=>some (.sh .non)
 | .rt r=>some r
 | .bk _=>none
 | .ct _=>none
noncomputable def Yr(N:Nat)(b:Es):List Sl->Option Sl:=fun as=>(b (as++QM (N-as.length) .no)).bind Jez
theorem RRL.get{Hs H0 H:Hp}:∀{vs:List V} {ss:List Sl} {i:Nat} {s:Sl},RRL K C Hs H0 H vs ss->ss[i]?=some s->∃v,vs[i]?=some v/\RR K C Hs H0 H v s
 | _,_,_,_,.nil,e=>by simp at e
 | _,_,0,_,.cons h _,e=>by simp at e;subst e;exact⟨_,rfl,h⟩
 | _,_,i+1,s,.cons _ t,e=>by obtain⟨v,h1,h2⟩:=RRL.get (i:=i) (s:=s) t (by simpa using e);exact⟨v,by simpa using h1,h2⟩
def Jlj(hb:SS K C ts b)(h:spE K C n (Yr N.length b) vs H Q E):ts { nx:=fun _ H'=>Q .non H',rt:=Q } (L2.U2 N vs) H:=by
 obtain⟨H0,as,r,i,ra,ho,hl,e,q⟩:=h;have lens:=ra.len
 have noOwn:∀(j:Nat) (s:Sl),as[j]?=some s->Yj s=false:=fun j s e=>by
  have:=Ka.mp ho s (QI e)
  simpa using this
 have get:∀(j:Nat) (s:Sl),(as++QM (N.length-as.length) Sl.no)[j]?=some s->s=.no\/as[j]?=some s:=fun j s e=>by
  by_cases hj:j<as.length
  ·rw[Gc hj] at e;exact .inr e
  ·rw[Gs (by omega),Rp] at e;split at e
   ·cases e;exact .inl rfl
   ·cases e
 have I:EnvR K C H H0 H (L2.U2 N vs) (as++QM (N.length-as.length) .no):=by
  refine⟨Same.refl _,i,by simp[L2.U2,lens],fun j s e=>?_,fun j k s1 s2 v hjk e1 e2 w1 w2=>?_⟩
  ·rcases get j s e with z|z
   ·exact .inl z
   ·obtain⟨v,h1,h2⟩:=ra.get z;refine .inr ⟨v,?_,?_⟩
    ·unfold L2.U2;rw[Gc (by have:=(Qq.mp h1).1;simpa using this),Qw,h1];rfl
    ·cases s with
     | no=>trivial
     | sh d=>exact h2
     | bo ds=>exact h2
     | own ds=>exact absurd (noOwn j _ z) (by simp[Yj])
     | bd ks ds=>exact h2
     | bt ks ds=>exact h2
     | od ks ds=>exact absurd (noOwn j _ z) (by simp[Yj])
     | ot ks ds=>exact absurd (noOwn j _ z) (by simp[Yj])
  ·rcases get j _ e1 with z|z
   ·subst z;cases w1
   ·rw[noOwn j _ z] at w1;cases w1
 obtain⟨o,e1,e⟩:=bind_some e;refine hb H H0 H _ _ o _ I e1 ?_
 cases o with
 | nx E1=>cases e;exact fun σ' H1 H1' s1 I1=>q _ H1 H1' ⟨s1.b,s1.z,s1.n,s1.i⟩ RD.non
 | rt r'=>cases e;exact fun v H1 H1' s1 r1=>q v H1 H1' ⟨s1.b,s1.z,s1.n,s1.i⟩ r1
 | bk _=>cases e
 | ct _=>cases e
def Jls(F:FnOk P w K mg base CX0 k f fd ps (spE K C 1 ev))(h:∀ns:List Int,ns.length<=63->ev [.sh (.fz (ns.map .int))]=some (.sh (.bl true))):FnOk P w K mg base CX0 k f fd ps (Jgx K) :=
 F.imp fun vs H Q E ⟨a,ns,e,hS,hl,q⟩=>by subst e;exact⟨H,[.sh (.fz (ns.map .int))],_,Same.refl _,.cons (show RD K C H _ _ from RD.mkF hS (RDL.ofInts ns)) .nil,rfl,rfl,h ns hl,fun v H0' H' _ r=>by rw[RD.blI r];exact q H'⟩
end LE
namespace L2
open PySem PySem.Spec PyProof.Rows
end L2
namespace LE
open PySem L2 LR
noncomputable def okS(P:En->Prop):Option Out->Prop
 | some (.nx E)=>P E
 | some (.ct E)=>P E
 | _=>False
def JoH:okS P (some (.nx E))=P E:=rfl
def Z3(h:okS P o):∃E,(o=some (.nx E)\/o=some (.ct E))/\P E:=by
 unfold okS at h;split at h
 ·exact⟨_,.inl rfl,h⟩
 ·exact⟨_,.inr rfl,h⟩
 ·exact h.elim
theorem YJ{γ α β:Type}{p:Pt}{b:Es}{f:α->D}{k:Out->Option γ}{r:Option γ}(R:List α->β->En->Prop)(g:β->α->β):∀{as:List α} {E:En} (s:β) (h0:R as s E)
 (h:∀a as s E,R (a::as) s E->okS (R as (g s a)) ((p.bind (f a) E).bind b)) (fin:∀E',R [] (as.foldl g s) E'->k (.nx E')=r),(JD p b (as.map f) E).bind k=r
 | [],E,s,h0,_,fin=>fin E h0
 | a::as,E,s,h0,h,fin=>by
  obtain⟨E2,e2,r2⟩:=Z3 (h a as s E h0);have ih:=YJ (k:=k) (r:=r) R g (as:=as) (E:=E2) (g s a) r2 h fin;rw[Qf,JD]
  cases hp:p.bind (f a) E with
  | none=>rw[hp] at e2;rcases e2 with e2|e2 <;> cases e2
  | some E1=>rw[hp,QK] at e2;rw[QK];rcases e2 with e2|e2 <;> (rw[e2,QK];exact ih)
def Jjh{γ:Type}{k:Out->Option γ}{r:Option γ}(R:Nat->En->Prop)(h0:R 0 E)(h:∀i E,i<n->R i E->okS (R (i+1)) ((p.bind (f i) E).bind b))(fin:∀E',R n E'->k (.nx E')=r):(JD p b ((Ge n).map f) E).bind k=r:=by
 refine YJ (fun(as:List Nat) (i:Nat) E=>i+as.length=n/\as=LI i as.length/\R i E) (fun i _=>i+1) 0 ⟨by simp,by simp[Mv],h0⟩ (fun a as i E ⟨hk,e,q⟩=>?_) fun E' ⟨hk,_,q⟩=>?_
 ·rw[Qr,Rs] at e;have e1:a=i:=(Lz e).1;subst e1;obtain⟨E2,e2,r2⟩:=Z3 (h a E (by rw[Qr] at hk;omega) q);have fin2:(a+1)+as.length=n/\as=LI (a+1) as.length/\R (a+1) E2:=⟨by rw[Qr] at hk;omega,(Lz e).2,r2⟩
  rcases e2 with e2|e2 <;> (rw[e2];exact fin2)
 ·have e3:(Ge n).foldl (fun i _=>i+1) 0=n:=by simpa using hk
  rw[e3] at q;exact fin E' q
theorem JM{α:Type}{p:Pt}{a:Ev}{E1:En}{f g:α->D}:∀{xs:List α},(∀x∈xs,((p.bind (f x) E1).bind a).bind Sl.frz=some (g x))->Ur p yes? a E1 (xs.map f)=some (xs.map g)
 | [],_=>rfl
 | x::xs,h=>by have h1:=h x Qc;obtain⟨s,e1,e2⟩:=bind_some h1;obtain⟨E2,e3,e4⟩:=bind_some e1;rw[Qf,Ur,e3];simp only[QK,yes?,if_true,e4,e2];rw[JM fun y hy=>h y (Qd _ hy)];rfl
theorem Zd{α:Type}{p:Pt}{c:En->Option Bool}{a:Ev}{E1:En}{f g:α->D}{k:α->Bool}:∀{xs:List α},(∀x∈xs,(p.bind (f x) E1).bind c=some (k x)/\(k x=true->((p.bind (f x) E1).bind a).bind Sl.frz=some (g x)))->Ur p c a E1 (xs.map f)=some ((xs.filter k).map g)
 | [],_=>rfl
 | x::xs,h=>by
  obtain⟨h1,h2⟩:=h x Qc;obtain⟨E2,e3,e4⟩:=bind_some h1;have ih:=Zd (xs:=xs) (fun y hy=>h y (Qd _ hy));rw[Qf,Ur,e3];simp only[QK,e4]
  cases hk:k x with
  | false=>rw[if_neg (by simp),ih,G4 (by simp[hk])]
  | true=>obtain⟨s,e1,e2⟩:=bind_some (h2 hk);rw[e3,QK] at e1;rw[if_pos rfl,e1];simp only[QK,e2];rw[ih,Q7 hk];rfl
def Jj1(n:Nat):rng 0 n=(Ge n).map fun i=>.int (i:Int):=by unfold rng;exact GQ fun i _=>by rw[RH]
def Jgw:Qt=16777216:=rfl
def Uq{α β:Type}(f:α->β)(xs:List α)(i:Int):atI (xs.map f) i=(atI xs i).map f:=by
 unfold atI;rw[Qm]
 cases ixN xs.length i with
 | none=>rfl
 | some j=>simp
def U3{α:Type}{xs:List α}(h:k<xs.length):atI xs (k:Int)=some xs[k]:=by unfold atI ixN;rw[if_pos (by omega),if_pos (by omega)];simp[h]
def JcQ(h0:0<=k)(h:k<(ns.length:Int)):atI ns k=some (cell ns k):=by
 obtain⟨j,rfl⟩:=Int.eq_ofNat_of_zero_le h0;have hj:j<ns.length:=by omega
 rw[U3 hj];simp[cell,hj]
def Jih{l:List Int}{k:Int}(h0:0<=k)(h1:k<(l.length:Int)):atI (l.map D.int) k=some (.int (JhK l k)):=by rw[Uq,JcQ h0 h1];rfl
structure Kd {α:Type} (f:α->D) (n:Nat):Prop where
 lay:∀a,(f a).py.canLay0=true
 dep:∀a,(f a).py.depth<=n
 eqv:∀a b,RG (f a).py (f b).py=true↔a=b
def Kd.eq{α:Type}[DecidableEq α]{f:α->D}{n:Nat}(k:Kd f n)(h:n<=60)(a b:α):eqD (f a) (f b)=some (decide (a=b)):=by unfold eqD;have:=k.dep a;rw[k.lay a,k.lay b,if_pos (by simp;omega)];congr 1;rw[KF,k.eqv];simp
def Job:Kd D.int 1:=⟨fun _=>rfl,fun _=>by simp[D.py,PyData.depth],fun a b=>by show(a == b)=true↔_;simp⟩
def JeM{α:Type}{f:α->D}(k:Kd f n):(∀xs:List α,LC (D.pyL (xs.map f))=true)/\(∀xs:List α,RO (D.pyL (xs.map f))<=n)/\∀xs ys:List α,Mr (D.pyL (xs.map f)) (D.pyL (ys.map f))=true↔xs=ys:=by
 refine⟨fun xs=>?_,fun xs=>?_,fun xs=>?_⟩
 ·induction xs with
  | nil=>rfl
  | cons x xs ih=>show(PyData.canLay0 _ && LC _)=true;rw[k.lay,ih];rfl
 ·induction xs with
  | nil=>simp[D.pyL,RO]
  | cons x xs ih=>have:=k.dep x;simp only[Qf,D.pyL,RO];omega
 ·induction xs with
  | nil=>intro ys;cases ys with
   | nil=>simp[D.pyL,Mr]
   | cons y ys=>simp[D.pyL,Mr]
  | cons x xs ih=>intro ys;cases ys with
   | nil=>simp[D.pyL,Mr]
   | cons y ys=>simp only[Qf,D.pyL,Mr,Q6,k.eqv,ih,List.cons.injEq]
def Joc{α:Type}{f:α->D}(k:Kd f n):Kd (fun xs:List α=>D.lst (xs.map f)) (n+1) :=
 ⟨fun xs=>(JeM k).1 xs,fun xs=>by have:=(JeM k).2.1 xs;simp only[D.py,PyData.depth];omega,fun xs ys=>by simp only[D.py,RG];exact(JeM k).2.2 xs ys⟩
def JiK(a b:List Int):eqD (.lst (a.map .int)) (.lst (b.map .int))=some (decide (a=b)):=(Joc Job).eq (by decide) a b
def Vw{s:Sl}{ps:List Pr}(e:s.q=some (ps.map prE))(g:Good ps)(h:ps.length<=30):ZK [s]=some (.sh (.row (ps.map prE))):=by show(s.q.bind _)=_;rw[e,QK,Jbq,QK,ZN g,if_pos (by simp[h])]
def JmA:Jfb B (.nx E)=B E:=rfl
def JmB:Jfb B (.rt r)=some (.rt r):=rfl
def Jk2:Jez (.nx E)=some (.sh .non):=rfl
def Jk3:Jez (.rt r)=some r:=rfl
def Jqm:fI g (.sh (.int a)) (.sh (.int b))=some (.sh (g a b)):=rfl
def Jlg(h:(-18446744073709551616<a/\a<18446744073709551616)\/(-18446744073709551616<b/\b<18446744073709551616)):VP (.sh (.int a)) (.sh (.int b))=some (.sh (.int (a*b))):=by show(if _ then _ else _)=_;rw[if_pos];simp only[MD,UY];exact h
def Jlf(h:0<b):YC (.sh (.int a)) (.sh (.int b))=some (.sh (.int (a % b))):=by show(if _ then _ else _)=_;rw[if_pos (by simpa using h)]
def Jld(h:0<b/\b<1073741824):Uu (.sh (.int a)) (.sh (.int b))=some (.sh (.int (a / b))):=by show(if _ then _ else _)=_;rw[if_pos (smallP_ok.mpr h)]
def Jli(h:0<=b/\b<=1000000/\-1000<a/\a<1000):JiQ (.sh (.int a)) (.sh (.int b))=some (.sh (.int (a ^ b.toNat))):=by show(if _ then _ else _)=_;rw[if_pos];simp only[Q6,decide_eq_true_eq,K2,UY];omega
def Jlh:JeC (.sh (.int a))=some (.sh (.int (-a))):=rfl
def Jk6:JR (.sh (.int a)) (.sh (.int b))=some (.sh (.int (a+b))):=rfl
def Jer(h1:p.m=some xs)(h2:q.m=some ys)(h:xs.length+ys.length<=16777216):Jhf p q=some (.own (xs++ys)):=by unfold Jhf;rw[h1,h2];exact if_pos h
def Jk7(h:xs.length+ys.length<=16777216):JR (.own xs) (.own ys)=some (.own (xs++ys)):=Jer rfl rfl h
def Jk8(h:xs.length+ys.length<=16777216):JR (.own xs) (.sh (.lst ys))=some (.own (xs++ys)):=Jer rfl rfl h
def JfP(h:xs.length+ys.length<=16777216):JR (.sh (.lst xs)) (.own ys)=some (.own (xs++ys)):=Jer rfl rfl h
def JnW:U8 [.sh (.lst xs)]=some (.sh (.int xs.length)):=rfl
def JnV:U8 [.sh (.fz xs)]=some (.sh (.int xs.length)):=rfl
def JnX:U8 [.sh (.tup xs)]=some (.sh (.int xs.length)):=rfl
def JnU:U8 [.bo xs]=some (.sh (.int xs.length)):=rfl
def Jqp:fIx (.sh (.lst xs)) (.sh (.int a))=(atI xs a).map .sh:=rfl
def Jqo:fIx (.sh (.fz xs)) (.sh (.int a))=(atI xs a).map .sh:=rfl
def Jqr:fIx (.sh (.tup xs)) (.sh (.int a))=(atI xs a).map .sh:=rfl
def Jqn:fIx (.bo xs) (.sh (.int a))=(atI xs a).map .sh:=rfl
def Jqq:fIx (.own xs) (.sh (.int a))=(atI xs a).map .sh:=rfl
def JiI:eqA (.int a) (.int b)=some (decide (a=b)):=rfl
def JnT(p q:List Int):eqA (.lst (p.map .int)) (.lst (q.map .int))=some (decide (p=q)):=JiK p q
def Jb3(h:-4611686018427387904<a/\a<4611686018427387904):JeJ a=true:=by unfold JeJ;rw[K2];omega
def UT{s:Sl}{ns:List Int}(e:s.q=some (ns.map .int)):JbS [s]=some (.sh (.int ns.sum)):=by show(s.q.bind _)=_;rw[e,QK,ZR];rfl
def Jlc{s:Sl}{ns:List Bool}(e:s.q=some (ns.map .bl)):Jlb [s]=some (.sh (.bl (ns.any id))):=by show(s.q.bind _)=_;rw[e,QK,JbD];rfl
def Jla{s:Sl}{ns:List Bool}(e:s.q=some (ns.map .bl)):Jk9 [s]=some (.sh (.bl (ns.all id))):=by show(s.q.bind _)=_;rw[e,QK,JbD];rfl
def Jh6:(Pt.nm i).bind d E=if i<E.length then some (E.set i (.sh d)) else none:=by rw[Pt.bind]
def Jqa:(Pt.tp l).bind (.tup xs) E=l.bind xs E:=by rw[Pt.bind]
def JkN:Pts.nil.bind [] E=some E:=by rw[Pts.bind]
def Jh7:(Pts.cons q l).bind (d::xs) E=(q.bind d E).bind fun E'=>l.bind xs E':=by rw[Pts.bind]
def JrO:((0:Nat):Int)=0:=rfl
def Jhr:D.isNon .non=true:=rfl
def Jhp:D.isNon (.int a)=false:=rfl
def Jhs:D.isNon (.tup xs)=false:=rfl
def Jhq:D.isNon (.lst xs)=false:=rfl
def Joi:Joh "list" "list"=true:=by decide
end LE
namespace HT
open PySem PySem.Spec PyProof.Rows
def Wa{t sl:Qj}{items:Array Qe}{vl vu:Qe}{lo hi:Option Int}{Q:Qe->Qi->Prop}(ht:IsTup s.heap t items)(hs:s.heap.IsSliceOf sl vl vu .none)(pl:IsPart vl lo)(pu:IsPart vu hi)
 (hw:sIx items.size 0 lo=0/\sIx items.size items.size hi=items.size) (h:Q (.ref t) s):wpAny (model prog w) A (getItem (.ref t) (.ref sl)) Q E s:=by
 obtain⟨os,hos,hcs,hds⟩:=id hs;have hTs:s.TypeIs (.ref sl) "slice":=⟨os,hos,hcs⟩
 unfold getItem
 try with_reducible refine GI ?_
 first|refine Qa (Qg ?_)|skip
 refine Qa (wpAny_sequenceKey ht.typeIs (by decide) ?_);refine Qa (QO (name:=GC "__getitem__") ht.typeIs Gx
  (QU Gx ht.typeIs entry_tuple_getitem ?_ (args_tuple_getitem _ _)))
 show wpAny _ _ (MX (.ref t) >>= _) _ _ s;refine Qa (tupleItemsOf_ ht ?_);refine Qa (Md hTs ?_);rw[if_pos (by decide)];refine Qa (UM hs pl pu ?_)
 have yes:(((sIx items.size 0 lo:Nat):Int) == 0 && (1:Int) == 1 && (sIx items.size items.size hi-sIx items.size 0 lo) == items.size)=true:=by rw[hw.1,hw.2];simp
 show wpAny _ _ (if (((sIx items.size 0 lo:Nat):Int) == 0 && (1:Int) == 1 && (sIx items.size items.size hi-sIx items.size 0 lo) == items.size)=true then _ else _) _ _ s;rw[if_pos yes];unfold Builtin.Tuple.tupleIsExact;refine Qa (Qa (Md ht.typeIs (Qg ?_)));rw[if_pos (by decide)];refine Qa (KH ?_);exact Qg ⟨_,rfl,Qg h⟩
end HT
namespace L2
open PySem PySem.Spec PyProof.Rows
section
variable{X:Cx}{K:QE}
noncomputable def Jre(K:QE):V->Option Int->Option Int->Hp->VK->Prop:=fun x lo hi H Q=>∃a xs,x=.ref a/\SqT K H a xs/\(HT.sIx xs.length 0 lo=0/\HT.sIx xs.length xs.length hi=xs.length)/\Q (.ref a) H
def Jke:SlR X (Jre X.K):=by
 intro pins s σ H x v vl vu lo hi sl Q I rx hs pl pu h;obtain⟨a,xs,rfl,hx,hw,q⟩:=h;cases rx;obtain⟨its,r,ht,hz⟩:=I.tuple hx;have hlen:its.toArray.size=xs.length:=by rw[Qu];exact r.length.symm
 refine⟨"tuple",_,Gx.lookup,ht.typeIs,?_⟩;exact HT.Wa ht hs pl pu (by rw[hlen];exact hw) ⟨.ref a,H,I,rfl,q⟩
noncomputable def Jpe(K:QE):V->Option Int->Option Int->Hp->VK->Prop:=fun x lo hi H Q=>Jrc K x lo hi H Q\/Jrd K x lo hi H Q\/Jre K x lo hi H Q
def Zn(hK:X.K=K):SlR X (Jpe K):=by subst hK;exact sl_list.or (sl_tup.or Jke)
end
end L2
namespace LE
open PySem L2 LR
noncomputable def Zy{α:Type}(xs:List α)(lo hi:Option Int):List α:=(xs.drop (HT.sIx xs.length 0 lo)).take (HT.sIx xs.length xs.length hi-HT.sIx xs.length 0 lo)
noncomputable def fSl(s:Sl)(lo hi:Option Int):Option Sl:=match s with
 | .sh (.tup ds)=>some (.sh (.tup (Zy ds lo hi)))
 | s=>s.r.map fun ds=>.own (Zy ds lo hi)
noncomputable def ZD(o:Option Ev):En->Option (Option Int):=fun E=>match o with
 | none=>some none
 | some a=>(a E).bind fun s=>match s with
  | .sh (.int i)=>some (some i)
  | _=>none
noncomputable def eSl(a:Ev)(lo hi:Option Ev):Ev:=fun E=>(a E).bind fun s=>(ZD lo E).bind fun l=>(ZD hi E).bind fun h=>fSl s l h
noncomputable def SP'(K:QE)(C:Qj)(t:TO)(ev:En->Option (Option Int)):Prop:=∀(B H0 H:Hp) (σ:St) (E:En) (r:Option Int) (Q:Option Int->Hp->Prop),EnvR K C B H0 H σ E->ev E=some r ->
 (∀H0' H',Step H H0 H H0' H'->Q r H')->t σ H Q
def JoU:SP' K C JgJ (ZD none):=fun _ _ _ _ _ _ _ I e q=>by cases e;exact q _ _ (.refl I.h)
def JoV(ha:SE K C te ea):SP' K C (JnD te) (ZD (some ea)):=by
 intro B H0 H σ E r Q I e q;obtain⟨s,e1,e⟩:=bind_some e;split at e
 ·cases e;exact ha B H0 H σ E _ _ I e1 fun x H1 H1' s1 r1=>⟨_,RD.intI r1,q _ _ s1⟩
 ·cases e
def RDL.cut{H:Hp}{xs:List V}{ds:List D}{lo hi:Option Int}(r:RDL K C H xs ds):RDL K C H (JaK xs lo hi) (Zy ds lo hi):=by unfold JaK Zy;rw[r.1];exact(r.drop _).take _
def Jr4(ha:SE K C te ea)(hl:SP' K C tl (ZD el))(hh:SP' K C th (ZD eh)):SE K C (tSl (Jpe K) te tl th) (eSl ea el eh):=by
 intro B H0 H σ E c Q I e q;obtain⟨s,e1,e⟩:=bind_some e;obtain⟨l,e2,e⟩:=bind_some e;obtain⟨h,e3,e⟩:=bind_some e;refine ha B H0 H σ E _ _ I e1 fun x H1 H1' s1 r1=>hl B H1 H1' σ E l _ (I.step s1) e2 fun H2 H2' s2=>hh B H2 H2' σ E h _ (I.step (s1.trans s2)) e3 fun H3 H3' s3=>?_
 have s13:=(s1.trans s2).trans s3
 have r3:=(r1.step s2).step s3
 have lst:∀{ds:List D},s.r=some ds->c=.own (Zy ds l h)->Jpe K x l h H3' Q:=fun {ds} er ec=>by subst ec;obtain⟨a,xs,rfl,hq,r⟩:=r3.r s13.i er;exact .inl ⟨a,xs,rfl,hq,fun p hp=>YV s13.i s13.h hp r.cut fun v H4 H4' s4 r4=>q v H4 H4' (s13.comp s4 fun _ z=>z) r4⟩
 unfold fSl at e;split at e
 ·cases e;obtain⟨a,xs,rfl,hq,r⟩:=RD.tupI r3
  by_cases hw:HT.sIx xs.length 0 l=0/\HT.sIx xs.length xs.length h=xs.length
  ·refine .inr (.inr ⟨a,xs,rfl,s13.i.seqT hq,hw,q _ _ _ s13 ?_⟩);have e5:JaK xs l h=xs:=by unfold JaK;rw[hw.1,hw.2];simp
   have r5:=r.cut (lo:=l) (hi:=h);rw[e5] at r5;exact RD.mkT hq r5
  ·exact .inr (.inl ⟨a,xs,rfl,s13.i.seqT hq,hw,fun p hp=>JcI s13.i s13.h hp r.cut fun v H4 H4' s4 r4=>q v H4 H4' (s13.comp s4 fun _ z=>z) r4⟩)
 ·obtain⟨ds,e4,e5⟩:=map_some e;exact lst e4 e5.symm
end LE
namespace PySem
section
variable{prog:Qz}{w:QT}{A:QS}
def Draws.tup(hh:A.handled=none)(j a:Qj)(ne:a≠j)(xs:Array Qe):Draws prog w A j [j,a] xs.size (fun i v=>xs[i]?=some v) (fun i h=>h.IsTupleIter j a i/\h.IsTuple a xs) where
 live:=fun _ _ q=>let ⟨o,ho,_⟩:=q.1;⟨o,ho⟩
 frame:=fun _ _ _ q k=>⟨q.1.at fun o e=>k j (by simp) o e,q.2.at fun o e=>k a (by simp) o e⟩
 item:=fun i s Q E hi q hQ=>by
  obtain⟨o,ho,hc,hd⟩:=id q.1;obtain⟨ol,hol,_,nl,hdl⟩:=id q.2;have hx:xs[i]?=some xs[i]:=by simp[hi]
  unfold Go;refine Qa (QO (name:=GC "__next__") q.1.typeIs KO (QU KO q.1.typeIs MM ?_ (ME _)));show wpAny _ _ (field (.ref j) 0 >>= _) _ _ s;refine Qa (Q5 ho hd (x:=.ref a) rfl ?_);show wpAny _ _ (if (Value.ref a == Value.none)=true then _ else _) _ _ s;rw[if_neg (show ¬((Value.ref a == Value.none)=true) from Qx)]
  show wpAny _ _ (field (.ref j) 1 >>= _) _ _ s;refine Qa (Q5 ho hd (x:=.int i 0) rfl (show wpAny _ _ (seqItems? (.ref a) >>= _) _ _ s from Qa (GW hol hdl ?_)));simp only[Gu,hx];refine Qa (Kr ho hd (by simp) (Qg ⟨xs[i],rfl,Qg (hQ _ _ s.toks hx ⟨⟨_,Gg _ ho (Kx (GL hd _)),(LD ..).trans hc,?_⟩,q.2.extBut (Gw ..).extBut ne⟩ (Gw ..))⟩))
  rw[GL hd];simp[rawInt]
 done:=fun s Q E q hE=>by
  obtain⟨o,ho,hc,hd⟩:=id q.1;obtain⟨ol,hol,_,nl,hdl⟩:=id q.2;have hx:xs[xs.size]?=none:=by simp
  unfold Go;refine Qa (QO (name:=GC "__next__") q.1.typeIs KO (QU KO q.1.typeIs MM ?_ (ME _)));show wpAny _ _ (field (.ref j) 0 >>= _) _ _ s;refine Qa (Q5 ho hd (x:=.ref a) rfl ?_);show wpAny _ _ (if (Value.ref a == Value.none)=true then _ else _) _ _ s;rw[if_neg (show ¬((Value.ref a == Value.none)=true) from Qx)]
  show wpAny _ _ (field (.ref j) 1 >>= _) _ _ s;refine Qa (Q5 ho hd (x:=.int xs.size 0) rfl (show wpAny _ _ (seqItems? (.ref a) >>= _) _ _ s from Qa (GW hol hdl ?_)));simp only[Gu,hx];refine Qa (KH (Qa (Kr ho hd (by simp) (show wpAny _ _ (newExc (.type "StopIteration") [] >>= _) _ _ _ from Qa ?_))));simp only[newExc,newTuple];refine Qa (QW (Qa (m:=firstArgMember _ _) (KB (a:=Value.none) (by first | rfl | (simp only[firstArgMember];rfl)) (QW ?_ (by size_fits)))) (by size_fits))
  simp only[raiseNew];refine Qa (Rl ?_)
  first|rw[show A.in1.handled=none from hh]|rw[hh]
  refine Qa (Qg (R3 ?_));exact hE _ _ (((Gw ..).extBut.push _).push _) ⟨_,Qn _ rfl,rfl⟩
end
structure ZA (z TI TO i1 i2:Qj) (p1 p2:List Qj):Prop where
 a1:TI≠z
 a2:TO≠z
 a3:TI≠TO
 m1:i1∈p1
 m2:i2∈p2
 z1:z∉p1
 z2:z∉p2
 t1:TI∉p1
 t2:TI∉p2
 o1:TO∉p1
 o2:TO∉p2
 x1:i1∉p2
 x2:i2∉p1
def Jbu{Q:Qe->Qi->Prop}(D:ZA z TI TO i1 i2 p1 p2)(D1:Draws prog w A i1 p1 n1 P1 S1)(D2:Draws prog w A i2 p2 n2 P2 S2)(gz:IsZip s.heap z TI TO .none)(gI:IsPair s.heap TI (.ref i1) (.ref i2))(gO:IsPair s.heap TO a b)(st1:S1 k s.heap)(st2:S2 k s.heap)(l1:k<n1)(l2:k<n2)(hQ:∀x y h' tk,P1 k x->P2 k y->IsZip h' z TI TO (rawInt s.heap.objs.size)->IsPair h' TI (.ref i1) (.ref i2)->IsPair h' TO x y->S1 (k+1) h'->S2 (k+1) h'->IsPair h' s.heap.objs.size x y->h'.objs.size=s.heap.objs.size+1 ->
  (∀c o,c≠z->c≠TO->c≠i1->c≠i2->s.heap.get? c=some o->h'.get? c=some o)->Q (.ref s.heap.objs.size) { s with heap:=h',toks:=tk }):
 wpAny (model prog w) A (Builtin.«zip.__next__» ⟨[.ref z],[]⟩) (fun fin s'=>∃v,fin=.done (.ret v)/\Q v s') E s:=by
 obtain⟨hp,g,d,t0,os⟩:=s;have zi1:i1≠z:=fun q=>D.z1 (q▸D.m1)
 have zi2:i2≠z:=fun q=>D.z2 (q▸D.m2)
 have oi1:i1≠TO:=fun q=>D.o1 (q▸D.m1)
 have oi2:i2≠TO:=fun q=>D.o2 (q▸D.m2)
 have ii1:i1≠TI:=fun q=>D.t1 (q▸D.m1)
 have ii2:i2≠TI:=fun q=>D.t2 (q▸D.m2)
 have i12:i1≠i2:=fun q=>D.x1 (q▸D.m2)
 show wpAny _ _ (field (.ref z) 2 >>= _) _ _ _;refine Qa (Q5 gz rfl (x:=.bool false) rfl (show wpAny _ _ (field (.ref z) 3 >>= _) _ _ _ from Qa (Q5 gz rfl (x:=.ref TI) rfl (Qa (GW gI rfl ?_)))))
 show wpAny _ _ (QX (.ref z) >>= _) _ _ _;refine Qa ?_;unfold QX;refine Qa (Q5 gz rfl (x:=.none) rfl (Qg ?_));simp only[if_true];refine Qa (KH (Qa (Q5 gz rfl (x:=.ref TO) rfl (Qa (Gv gz (by simp) fun k1 y1 e1=>?_)))))
 replace y1:IsZip k1 z TI TO .ellipsis:=y1
 replace e1:QH z hp k1:=e1;refine Qa ?_;simp only[LN,List.zipIdx_nil,MF,MZ];refine Qa (Qa (Rm (show wpAny _ _ (Go (.ref i1) >>= _) _ _ _ from Qa (D1.item k _ _ _ l1 (D1.frame _ _ _ st1 fun b hb o q=>e1.extBut b o (fun r=>D.z1 (r▸hb)) q) fun x k2 t2 px s2 e2=>Qg ?_))))
 replace e2:QH i1 k1 k2:=e2;have O2:IsPair k2 TO a b:=e2.extBut _ _ (Q3 oi1) (e1.extBut _ _ D.a2 gO);refine Qa (GW (s:=⟨k2,g,d,t2,os⟩) O2 rfl (Qa (Mw (s:=⟨k2,g,d,t2,os⟩) O2 fun k3 O3 e3=>?_)))
 replace O3:IsPair k3 TO x b:=O3
 replace e3:QH TO k2 k3:=e3;refine Qa (Lg (Qg ?_));have st2':S2 k k3:=D2.frame _ _ _ st2 fun b hb o q=>e3.extBut b o (fun r=>D.o2 (r▸hb)) (e2.extBut b o (fun r=>D.x1 (r▸hb)) (e1.extBut b o (fun r=>D.z2 (r▸hb)) q))
 refine Qa (Qa (Rm (show wpAny _ _ (Go (.ref i2) >>= _) _ _ _ from Qa (D2.item k _ _ _ l2 st2' fun y k4 t4 py s4 e4=>Qg ?_))))
 replace e4:QH i2 k3 k4:=e4;have O4:IsPair k4 TO x b:=e4.extBut _ _ (Q3 oi2) O3;refine Qa (GW (s:=⟨k4,g,d,t4,os⟩) O4 rfl (Qa (Mw (s:=⟨k4,g,d,t4,os⟩) O4 fun k5 O5 e5=>?_)))
 replace O5:IsPair k5 TO x y:=O5
 replace e5:QH TO k4 k5:=e5;refine Qa (Lg (Qg (Qg (Qa (GW (s:=⟨k5,g,d,t4,os⟩) O5 rfl (Qa (Mf ?_)))))));have hsz:k5.objs.size=hp.objs.size:=by rw[e5.1,e4.1,e3.1,e2.1,e1.1]
 have Z5:IsZip k5 z TI TO .ellipsis:=e5.extBut _ _ (Q3 D.a2) (e4.extBut _ _ (Q3 zi2) (e3.extBut _ _ (Q3 D.a2) (e2.extBut _ _ (Q3 zi1) y1)))
 have keep5:∀c o,c≠z->c≠TO->c≠i1->c≠i2->hp.get? c=some o->k5.get? c=some o:=fun c o c1 c2 c3 c4 q=>e5.extBut _ _ c2 (e4.extBut _ _ c4 (e3.extBut _ _ c2 (e2.extBut _ _ c3 (e1.extBut _ _ c1 q))))
 have T1:S1 (k+1) k5:=D1.frame _ _ _ s2 fun b hb o q=>e5.extBut b o (fun r=>D.o1 (r▸hb)) (e4.extBut b o (fun r=>D.x2 (r▸hb)) (e3.extBut b o (fun r=>D.o1 (r▸hb)) q))
 have T2:S2 (k+1) k5:=D2.frame _ _ _ s4 fun b hb o q=>e5.extBut b o (fun r=>D.o2 (r▸hb)) q
 have zlt:z<k5.objs.size:=Qo Z5
 show wpAny _ _ (Kk (.ref z) (.ref k5.objs.size) >>= _) _ _ _;refine Qa ?_;unfold Kk
 have Z6:IsZip (k5.push { cls:=.type "tuple",data:=.seq #[x,y] }) z TI TO .ellipsis:=Qh _ Z5;refine Qa (Gv Z6 (by simp) fun k7 Z7 e7=>?_)
 replace Z7:IsZip k7 z TI TO (rawInt k5.objs.size):=Z7
 replace e7:QH z (k5.push { cls:=.type "tuple",data:=.seq #[x,y] }) k7:=e7;refine Gv Z7 (by simp) fun k8 Z8 e8=>?_
 replace Z8:IsZip k8 z TI TO (rawInt k5.objs.size):=Z8
 replace e8:QH z k7 k8:=e8;have up:∀c o,c≠z->k5.get? c=some o->k8.get? c=some o:=fun c o c1 q=>e8.extBut _ _ c1 (e7.extBut _ _ c1 (Qh _ q))
 have N8:IsPair k8 k5.objs.size x y:=e8.extBut _ _ (Gh zlt) (e7.extBut _ _ (Gh zlt) (Qn _ rfl))
 have z8:k8.objs.size=k5.objs.size+1:=by rw[e8.1,e7.1,Gz]
 rw[hsz] at Z8 N8 z8;refine Qg ⟨_,rfl,?_⟩;show Q (.ref k5.objs.size) _;rw[hsz];refine hQ x y k8 t4 px py Z8 (up _ _ D.a1 (keep5 _ _ D.a1 D.a3 (Q3 ii1) (Q3 ii2) gI)) (up _ _ D.a2 O5) ?_ ?_ N8 z8 fun c o c1 c2 c3 c4 q=>up c o c1 (keep5 c o c1 c2 c3 c4 q)
 ·exact D1.frame _ _ _ T1 fun b hb o q=>up b o (fun r=>D.z1 (r▸hb)) q
 ·exact D2.frame _ _ _ T2 fun b hb o q=>up b o (fun r=>D.z2 (r▸hb)) q
def Jeb(D:ZA z TI TO i1 i2 p1 p2)(D1:Draws prog w A i1 p1 n1 P1 S1)(D2:Draws prog w A i2 p2 n2 P2 S2)(gz:IsZip s.heap z TI TO .none)(gI:IsPair s.heap TI (.ref i1) (.ref i2))(gO:IsPair s.heap TO a b)(st1:S1 k s.heap)(st2:S2 k s.heap)(hend:k=n1\/(k<n1/\k=n2))(hE:∀h' e tk,(∀c o,c≠z->c≠TO->c≠i1->c≠i2->s.heap.get? c=some o->h'.get? c=some o)->(∃o,h'.get? e=some o/\o.cls=.type "StopIteration")->E (.ref e) { s with heap:=h',toks:=tk }):
 wpAny (model prog w) A (Builtin.«zip.__next__» ⟨[.ref z],[]⟩) Q E s:=by
 obtain⟨hp,g,d,t0,os⟩:=s;have zi1:i1≠z:=fun q=>D.z1 (q▸D.m1)
 have zi2:i2≠z:=fun q=>D.z2 (q▸D.m2)
 have oi1:i1≠TO:=fun q=>D.o1 (q▸D.m1)
 show wpAny _ _ (field (.ref z) 2 >>= _) _ _ _;refine Qa (Q5 gz rfl (x:=.bool false) rfl (show wpAny _ _ (field (.ref z) 3 >>= _) _ _ _ from Qa (Q5 gz rfl (x:=.ref TI) rfl (Qa (GW gI rfl ?_)))))
 show wpAny _ _ (QX (.ref z) >>= _) _ _ _;refine Qa ?_;unfold QX;refine Qa (Q5 gz rfl (x:=.none) rfl (Qg ?_));simp only[if_true];refine Qa (KH (Qa (Q5 gz rfl (x:=.ref TO) rfl (Qa (Gv gz (by simp) fun k1 y1 e1=>?_)))))
 replace y1:IsZip k1 z TI TO .ellipsis:=y1
 replace e1:QH z hp k1:=e1;refine Qa ?_;simp only[LN,List.zipIdx_nil,MF,MZ];refine Qa (Qa (Rm (show wpAny _ _ (Go (.ref i1) >>= _) _ _ _ from Qa ?_)));have q1:S1 k k1:=D1.frame _ _ _ st1 fun b hb o q=>e1.extBut b o (fun r=>D.z1 (r▸hb)) q
 rcases hend with rfl|⟨l1,rfl⟩
 ·refine D1.done _ _ _ q1 fun k2 e e2 he=>?_
  replace e2:KM i1 k1 k2:=e2;obtain⟨oe,hoe,hce⟩:=he;have Z2:IsZip k2 z TI TO .ellipsis:=e2 _ _ (Q3 zi1) y1;have ez:e≠z:=fun q=>by subst q;rw[Z2] at hoe;cases hoe;simp at hce
  exact Gv Z2 (by simp) fun k3 _ e3=>hE k3 e t0 (fun c o c1 _ c3 _ q=>e3.extBut _ _ c1 (e2 _ _ c3 (e1.extBut _ _ c1 q))) ⟨oe,e3.extBut _ _ ez hoe,hce⟩
 ·refine D1.item k _ _ _ l1 q1 fun x k2 t2 px s2 e2=>Qg ?_
  replace e2:QH i1 k1 k2:=e2;have O2:IsPair k2 TO a b:=e2.extBut _ _ (Q3 oi1) (e1.extBut _ _ D.a2 gO);refine Qa (GW (s:=⟨k2,g,d,t2,os⟩) O2 rfl (Qa (Mw (s:=⟨k2,g,d,t2,os⟩) O2 fun k3 O3 e3=>?_)))
  replace e3:QH TO k2 k3:=e3;refine Qa (Lg (Qg ?_));have st2':S2 k k3:=D2.frame _ _ _ st2 fun b hb o q=>e3.extBut b o (fun r=>D.o2 (r▸hb)) (e2.extBut b o (fun r=>D.x1 (r▸hb)) (e1.extBut b o (fun r=>D.z2 (r▸hb)) q))
  refine Qa (Qa (Rm (show wpAny _ _ (Go (.ref i2) >>= _) _ _ _ from Qa (D2.done _ _ _ st2' fun k4 e e4 he=>?_))))
  replace e4:KM i2 k3 k4:=e4;obtain⟨oe,hoe,hce⟩:=he;have Z4:IsZip k4 z TI TO .ellipsis:=e4 _ _ (Q3 zi2) (e3.extBut _ _ (Q3 D.a2) (e2.extBut _ _ (Q3 zi1) y1));have ez:e≠z:=fun q=>by subst q;rw[Z4] at hoe;cases hoe;simp at hce
  exact Gv Z4 (by simp) fun k5 _ e5=>hE k5 e t2 (fun c o c1 c2 c3 c4 q=>e5.extBut _ _ c1 (e4 _ _ c4 (e3.extBut _ _ c2 (e2.extBut _ _ c3 (e1.extBut _ _ c1 q))))) ⟨oe,e5.extBut _ _ ez hoe,hce⟩
def IsSq(b:Bool)(h:Q1)(a:Qj)(xs:Array Qe):Prop:=match b with
 | true=>h.IsTuple a xs
 | false=>h.IsList a xs
def IsItr(b:Bool)(h:Q1)(j a:Qj)(i:Nat):Prop:=match b with
 | true=>h.IsTupleIter j a i
 | false=>h.IsListIter j a i
def itO(b:Bool)(a:Qj):Obj:=match b with
 | true=>{ cls:=.type "tuple_iterator",data:=.fields #[.ref a,.int 0 0] }
 | false=>{ cls:=.type "list_iterator",data:=.fields #[.ref a,.int 0 0] }
def IsSq.push(q:IsSq b h a xs)(o:Obj):IsSq b (h.push o) a xs:=by
 cases b with
 | true=>exact Heap.IsTuple.push q o
 | false=>exact Heap.IsList.push q o
def IsSq.lt{h:Q1}(q:IsSq b h a xs):a<h.objs.size:=by
 cases b with
 | true=>obtain⟨o,e,_⟩:=q;exact Qo e
 | false=>obtain⟨o,e,_⟩:=q;exact Qo e
def IsItr.new(e:h.get? a1=some (itO b a)):IsItr b h a1 a 0:=by
 cases b with
 | true=>exact⟨_,e,rfl,rfl⟩
 | false=>exact⟨_,e,rfl,rfl⟩
def UK(q:IsSq b s.heap a xs)(h:Q (.ref s.heap.objs.size) { s with heap:=s.heap.push (itO b a) }):wpAny (model prog w) A (pyIter (.ref a)) Q E s:=by
 cases b with
 | true=>exact MU q h
 | false=>exact Mb q h
def Draws.sq(hh:A.handled=none)(j:Qj)(ne:a≠j):Draws prog w A j [j,a] xs.size (fun i v=>xs[i]?=some v) (fun i h=>IsItr b h j a i/\IsSq b h a xs):=by
 cases b with
 | true=>exact Draws.tup hh j a ne xs
 | false=>exact Draws.list hh j a ne xs
abbrev zP1(h:Q1)(b1:Bool)(a1:Qj):Q1:=h.push (itO b1 a1)
abbrev zP2(h:Q1)(b1 b2:Bool)(a1 a2:Qj):Q1:=(zP1 h b1 a1).push (itO b2 a2)
abbrev zP3(h:Q1)(b1 b2:Bool)(a1 a2:Qj):Q1:=(zP2 h b1 b2 a1 a2).push { cls:=.type "tuple",data:=.seq #[.ref h.objs.size,.ref (zP1 h b1 a1).objs.size] }
abbrev zP4(h:Q1)(b1 b2:Bool)(a1 a2:Qj):Q1:=(zP3 h b1 b2 a1 a2).push { cls:=.type "tuple",data:=.seq #[.none,.none] }
abbrev zP5(h:Q1)(b1 b2:Bool)(a1 a2:Qj):Q1:=(zP4 h b1 b2 a1 a2).push { cls:=.type "zip",data:=.fields #[.none,.bool false,.bool false,.ref (zP2 h b1 b2 a1 a2).objs.size,.ref (zP3 h b1 b2 a1 a2).objs.size] }
def JeS(b1 b2:Bool)(a1 a2:Qj)(xs ys:Array Qe):Meets (Builtin.«zip.__new__» ⟨[.type "zip",.ref a1,.ref a2],[]⟩) (fun _ R s=>IsSq b1 s.heap a1 xs/\IsSq b2 s.heap a2 ys ∧
 R (.ok (.ret (.ref (zP4 s.heap b1 b2 a1 a2).objs.size))) { s with heap:=zP5 s.heap b1 b2 a1 a2 }) :=
 .of_wp fun prog w A R s h=>by obtain⟨hp,g,d,tk,os⟩:=s;obtain⟨q1,q2,h⟩:=h;have hsub:=sub_zip;have r1:IsSq b1 (XA ⟨hp,g,d,tk,os⟩) a1 xs:=q1;have r2:IsSq b2 (XA ⟨hp.push (itO b1 a1),g,d,tk,os⟩) a2 ys:=IsSq.push q2 _;wp_walk using UK r1,UK r2;exact⟨_,rfl,h⟩
def JaZ(q1:IsSq b1 s.heap a1 xs)(q2:IsSq b2 s.heap a2 ys)(h:∀h',IsZip h' (s.heap.objs.size+4) (s.heap.objs.size+2) (s.heap.objs.size+3) .none->IsPair h' (s.heap.objs.size+2) (.ref s.heap.objs.size) (.ref (s.heap.objs.size+1))->IsPair h' (s.heap.objs.size+3) .none .none ->
  IsItr b1 h' s.heap.objs.size a1 0->IsItr b2 h' (s.heap.objs.size+1) a2 0->(∀c o,s.heap.get? c=some o->h'.get? c=some o)->Q (.ref (s.heap.objs.size+4)) { s with heap:=h' }):
 wpAny (model prog w) A (call (.type "zip") [.ref a1,.ref a2]) Q E s:=by
 refine callType_new F.called_zip (by decide) (F.typeCall_zip_2 _ _) (F.newCall_zip_2 _ _) (fun obj=>F.args_object_init_3 obj _ _) F.entry_zip_new (JeS b1 b2 a1 a2 xs ys) ⟨q1,q2,?_⟩;have z1:(zP1 s.heap b1 a1).objs.size=s.heap.objs.size+1:=Gz ..;have z2:(zP2 s.heap b1 b2 a1 a2).objs.size=s.heap.objs.size+2:=by rw[Gz,z1]
 have z3:(zP3 s.heap b1 b2 a1 a2).objs.size=s.heap.objs.size+3:=by rw[Gz,z2]
 have z4:(zP4 s.heap b1 b2 a1 a2).objs.size=s.heap.objs.size+4:=by rw[Gz,z3]
 have up:∀{k:Q1} {c:Qj} {o u:Obj},k.get? c=some o->(k.push u).get? c=some o:=fun q=>Qh _ q
 have fi1:(itO b1 a1).isFreed=false:=by cases b1 <;> rfl
 have fi2:(itO b2 a2).isFreed=false:=by cases b2 <;> rfl
 have g5:(zP5 s.heap b1 b2 a1 a2).get? (zP4 s.heap b1 b2 a1 a2).objs.size=some _:=Qn _ rfl
 have g4:(zP5 s.heap b1 b2 a1 a2).get? (zP3 s.heap b1 b2 a1 a2).objs.size=some _:=up (Qn _ rfl)
 have g3:(zP5 s.heap b1 b2 a1 a2).get? (zP2 s.heap b1 b2 a1 a2).objs.size=some _:=up (up (Qn _ rfl))
 have g2:(zP5 s.heap b1 b2 a1 a2).get? (zP1 s.heap b1 a1).objs.size=some _:=up (up (up (Qn _ fi2)))
 have g1:(zP5 s.heap b1 b2 a1 a2).get? s.heap.objs.size=some _:=up (up (up (up (Qn _ fi1))))
 show _/\_;rw[z2,z3,z4] at g5;rw[z1,z2] at g3;rw[z3] at g4;rw[z1] at g2;rw[z4];exact⟨⟨_,g5,rfl⟩,h _ g5 g3 g4 (.new g1) (.new g2) fun c o q=>up (up (up (up (up q))))⟩
end PySem
namespace L2
open PySem PySem.Spec PyProof.Rows
def Inv.turnedL{t':Nat}{fp:List Qj}(I:Inv X pins σ H s)(k:∀b o,b∉fp->s.heap.get? b=some o->h'.get? b=some o)(hf:∀b∈fp,FpOk X pins H b):Inv X pins σ H { s with heap:=h',toks:=t' }:=by
 have nit:∀b u,H b=some u->b∉fp:=fun b u e z=>by rw[(hf b z).1] at e;cases e
 refine I.step (g':=s.gens) (d':=s.drawn) (ch:=fp) (fun b hb=>?_) (fun b o _ _ hc e _=>k b o hc e) (fun b o _ _ hc e _=>⟨o.slots,k b o hc e⟩) (fun _ _ _ _ n=>n)
  (fun b o hc e=>⟨o,k b o hc e⟩) (fun _ _ e=>e) (fun _ _ _ e=>e) (fun b ps e=>⟨#[],by rw[e];simp⟩) (fun m hm=>?_) (fun b u e=>?_) I.bare
 ·obtain⟨f0,f1,f2,f3,f4,f5⟩:=hf b hb;exact⟨f3,f1,f4,f5⟩
 ·obtain⟨o,es,ep,ho,r⟩:=hm;exact⟨o,es,ep,k _ o (fun z=>(hf _ z).2.1 rfl) ho,r⟩
 ·refine(I.hok b u e).stay (fun c v hc q=>k c v ?_ q) (fun _ q=>q) fun _ _ q=>q
  rcases hc with z|z
  ·rw[z];exact nit b u e
  ·exact nit c _ z
noncomputable def Sq(b:Bool)(K:QE)(H:Hp)(a:Qj)(xs:List V):Prop:=match b with
 | true=>SqT K H a xs
 | false=>SqL K H a xs
def Sq.heap(I:Inv X pins σ H s)(q:Sq b X.K H a xs):∃its:List Qe,Vals xs its/\IsSq b s.heap a its.toArray:=by
 cases b with
 | true=>obtain⟨its,r,p,_⟩:=I.tuple q;exact⟨its,r,p⟩
 | false=>obtain⟨its,r,p,_⟩:=I.list q;exact⟨its,r,p.isList⟩
def Sq.inj(I:Inv X pins σ H s)(q:Sq b X.K H a xs)(q':Sq b X.K H a ys):xs=ys:=by
 cases b with
 | true=>exact I.tuple_inj q q'
 | false=>exact I.list_inj q q'
def FpOk.off(I:Inv X pins σ H s)(q:Sq b X.K H a xs)(f:FpOk X pins H c):a≠c:=by
 intro e;subst e;have own:∀{o:HO},H a=some o->False:=fun h=>by rw[f.1] at h;cases h
 have mod:∀{o:Obj},X.K.lookup a=some o->False:=fun {o} h=>by
  have hb:=I.ok.mod.kin a o h;rcases f.2.2.2.1 with z|z
  ·exact I.ok.noex a o hb z
  ·exact absurd (Qo hb) (Mo.mpr (Gy I.ok.bsz z))
 cases b with
 | true =>
  rcases q with (h|⟨o,h⟩)|⟨o,its,n,h,_⟩
  ·exact own h
  ·exact own h
  ·exact mod h
 | false =>
  rcases q with (h|⟨o,h⟩)|⟨o,its,n,h,_⟩
  ·exact own h
  ·exact own h
  ·exact mod h
noncomputable def Itz(K:QE)(b1 b2:Bool)(a1 a2:Qj):It :=
 ⟨fun i H=>∃xs ys x y,Sq b1 K H a1 xs/\Sq b2 K H a2 ys/\xs[i]?=some x/\ys[i]?=some y,
  fun i H x H'=>∃p u v,x=.ref p/\H p=none/\H'=upd H p (.tup [u,v])/\∀xs ys,Sq b1 K H a1 xs->Sq b2 K H a2 ys->xs[i]?=some u/\ys[i]?=some v,
  fun i H=>∃xs ys,Sq b1 K H a1 xs/\Sq b2 K H a2 ys/\i=min xs.length ys.length⟩
noncomputable def ZSt(b1 b2:Bool)(a1 a2 z TI TO i1 i2:Qj)(i:Nat)(h:Q1):Prop:=IsZip h z TI TO .none/\IsPair h TI (.ref i1) (.ref i2)/\(∃a b,IsPair h TO a b)/\IsItr b1 h i1 a1 i/\IsItr b2 h i2 a2 i
def IsItr.keep{b:Bool}{h h':Q1}{j a:Qj}{i:Nat}(q:IsItr b h j a i)(k:∀o,h.get? j=some o->h'.get? j=some o):IsItr b h' j a i:=by
 cases b with
 | true=>obtain⟨o,e,r⟩:=q;exact⟨o,k o e,r⟩
 | false=>obtain⟨o,e,r⟩:=q;exact⟨o,k o e,r⟩
def IsItr.obj{b:Bool}{h:Q1}{j a:Qj}{i:Nat}(q:IsItr b h j a i):∃o,h.get? j=some o/\∀v,o.data≠.cell v:=by
 cases b with
 | true=>obtain⟨o,e,_,d⟩:=q;exact⟨o,e,fun v z=>by rw[d] at z;cases z⟩
 | false=>obtain⟨o,e,_,d⟩:=q;exact⟨o,e,fun v z=>by rw[d] at z;cases z⟩
def JnH{X:Cx}{pins:List (Qj×Obj)}{σ:St}{H:Hp}{s:Qi}{b1 b2:Bool}{a1 a2 z TI TO i1 i2:Qj}{xs ys:List V}(I:Inv X pins σ H s)(q1:Sq b1 X.K H a1 xs)(q2:Sq b2 X.K H a2 ys)(hf:∀b∈[z,TI,TO,i1,i2],FpOk X pins H b)
 (nd:[z,TI,TO,i1,i2].Nodup):ZA z TI TO i1 i2 [i1,a1] [i2,a2]:=by
 have o1:∀c∈[z,TI,TO,i1,i2],a1≠c:=fun c hc=>FpOk.off I q1 (hf c hc)
 have o2:∀c∈[z,TI,TO,i1,i2],a2≠c:=fun c hc=>FpOk.off I q2 (hf c hc)
 simp only[QY,Qk,GB,or_false,not_or] at nd;obtain⟨⟨n1,n2,n3,n4⟩,⟨n5,n6,n7⟩,⟨n8,n9⟩,n10,_⟩:=nd;have c1:=o1 z (by simp);have c2:=o1 TI (by simp);have c3:=o1 TO (by simp);have c4:=o1 i2 (by simp);have d1:=o2 z (by simp);have d2:=o2 TI (by simp);have d3:=o2 TO (by simp);have d4:=o2 i1 (by simp);refine⟨Q3 n1,Q3 n2,n5,by simp,by simp,?_,?_,?_,?_,?_,?_,?_,?_⟩ <;> simp only[Qk,GB,or_false,not_or]
 ·exact⟨n3,Q3 c1⟩
 ·exact⟨n4,Q3 d1⟩
 ·exact⟨n6,Q3 c2⟩
 ·exact⟨n7,Q3 d2⟩
 ·exact⟨n8,Q3 c3⟩
 ·exact⟨n9,Q3 d3⟩
 ·exact⟨n10,Q3 d4⟩
 ·exact⟨Q3 n10,Q3 c4⟩
def Jkz{P:Qz}{w:QT}{K:QE}{elts:List GA}{kk:Nat}{pos:Pos}(b1 b2:Bool)(a1 a2 z TI TO i1 i2:Qj)(nd:[z,TI,TO,i1,i2].Nodup) :
 Turn P w K (.Tuple elts kk pos) (Itz K b1 b2 a1 a2) [z,TI,TO,i1,i2] z (ZSt b1 b2 a1 a2 z TI TO i1 i2) where
 mem:=by simp
 obj:=fun i h st b hb=>by
  obtain⟨s1,s2,⟨u,v,s3⟩,s4,s5⟩:=st;simp only[Qk,GB,or_false] at hb;rcases hb with rfl|rfl|rfl|rfl|rfl
  ·exact⟨_,s1,fun v z=>nomatch (show Data.fields _=Data.cell v from z)⟩
  ·exact⟨_,s2,fun v z=>nomatch (show Data.seq _ _=Data.cell v from z)⟩
  ·exact⟨_,s3,fun v z=>nomatch (show Data.seq _ _=Data.cell v from z)⟩
  ·exact IsItr.obj (b:=b1) s4
  ·exact IsItr.obj (b:=b2) s5
 keep:=fun i h h' st k=>by obtain⟨s1,s2,⟨u,v,s3⟩,s4,s5⟩:=st;exact⟨k z (by simp) _ s1,k TI (by simp) _ s2,⟨u,v,k TO (by simp) _ s3⟩,IsItr.keep (b:=b1) s4 fun o e=>k i1 (by simp) o e,IsItr.keep (b:=b2) s5 fun o e=>k i2 (by simp) o e⟩
 item:=by
  intro X hP hw hK hc i pins s σ H E I hf st hg;subst hP hw hK;obtain⟨xs,ys,x,y,q1,q2,e1,e2⟩:=hg;obtain⟨its,r1,p1⟩:=q1.heap I;obtain⟨jts,r2,p2⟩:=q2.heap I;obtain⟨s1,s2,⟨u0,v0,s3⟩,s4,s5⟩:=st;have Z:=JnH I q1 q2 hf nd;have hh:X.A.in1.handled=none:=I.ok.hd hc;have ne1:a1≠i1:=FpOk.off I q1 (hf i1 (by simp));have ne2:a2≠i2:=FpOk.off I q2 (hf i2 (by simp));have D1:=Draws.sq (prog:=X.prog) (w:=X.w) (b:=b1) (xs:=its.toArray) hh i1 ne1
  have D2:=Draws.sq (prog:=X.prog) (w:=X.w) (b:=b2) (xs:=jts.toArray) hh i2 ne2
  have hT:s.TypeIs (.ref z) "zip":=⟨_,s1,rfl⟩
  have l1:i<its.toArray.size:=by have:=(Qq.mp e1).1;rw[Qu,<- r1.length];exact this
  have l2:i<jts.toArray.size:=by have:=(Qq.mp e2).1;rw[Qu,<- r2.length];exact this
  unfold pyNext;refine Qa (Kb (QO (name:=GC "__next__") hT G8 (QU G8 hT K8 (Jbu Z D1 D2 s1 s2 s3 ⟨s4,p1⟩ ⟨s5,p2⟩ l1 l2 fun u v k tk pu pv t1 t2 t3 t4 t5 t6 t7 t8=>Qg ?_) (KW _))));refine⟨_,rfl,wpAny_letOwnedTupleGo_zip (s:={ s with heap:=k,toks:=tk }) t1 fun k2 t9 e9=>?_⟩
  replace e9:QH z k k2:=e9;obtain⟨ux,hx1,rx⟩:=r1.get e1;obtain⟨uy,hy1,ry⟩:=r2.get e2
  have eu:u=ux:=by
   have pu':its[i]?=some u:=by simpa using pu
   rw[hx1] at pu';exact(QQ pu').symm
  have ev:v=uy:=by
   have pv':jts[i]?=some v:=by simpa using pv
   rw[hy1] at pv';exact(QQ pv').symm
  subst eu ev
  have zlt:∀b∈[z,TI,TO,i1,i2],b<s.heap.objs.size:=fun b hb=>by
   simp only[Qk,GB,or_false] at hb;rcases hb with rfl|rfl|rfl|rfl|rfl
   ·exact Qo s1
   ·exact Qo s2
   ·exact Qo s3
   ·obtain⟨_,e,_⟩:=IsItr.obj (b:=b1) s4;exact Qo e
   ·obtain⟨_,e,_⟩:=IsItr.obj (b:=b2) s5;exact Qo e
  have nz:s.heap.objs.size≠z:=Gh (zlt z (by simp))
  -- the pair is laid,then the private objects turn
  have I1:Inv X pins σ (upd H s.heap.objs.size (.tup [x,y])) { s with heap:=s.heap.push { cls:=.type "tuple",data:=.seq #[u,v] },toks:=s.toks } :=
   I.laid (o:=.tup [x,y]) (fun b ob q=>Qh _ q) (Qp _) ⟨by show 2<=Qt;decide,[u,v],.cons rx (.cons ry .nil),⟨_,Qn _ rfl,rfl,_,rfl⟩⟩
  have hf1:∀b∈[z,TI,TO,i1,i2],FpOk X pins (upd H s.heap.objs.size (.tup [x,y])) b:=fun b hb=>⟨by rw[Ji (QD (zlt b hb))];exact(hf b hb).1,(hf b hb).2⟩
  have I2:Inv X pins σ (upd H s.heap.objs.size (.tup [x,y])) { s with heap:=k2,toks:=tk }:=Inv.turnedL (s:={ s with heap:=s.heap.push { cls:=.type "tuple",data:=.seq #[u,v] },toks:=s.toks }) I1 (fun b o hb q=>by
   simp only[Qk,GB,or_false,not_or] at hb;refine e9.extBut b o hb.1 ?_
   by_cases hbs:b=s.heap.objs.size
   ·subst hbs;have q':(s.heap.push { cls:=.type "tuple",data:=.seq #[u,v] }).get? s.heap.objs.size=some o:=q;rw[Qn _ rfl] at q';cases q';exact t6
   ·have q':s.heap.get? b=some o:=by have q2:(s.heap.push { cls:=.type "tuple",data:=.seq #[u,v] }).get? b=some o:=q;exact(Rb s.heap b _ hbs).symm.trans q2
    exact t8 b o hb.1 hb.2.2.1 hb.2.2.2.1 hb.2.2.2.2 q') hf1
  refine⟨.ref s.heap.objs.size,_,I2,rfl,⟨_,x,y,rfl,I.hok.fresh (Qp _),rfl,fun xs' ys' h1 h2=>?_⟩,⟨t9,e9.extBut _ _ Z.a1 t2,⟨_,_,e9.extBut _ _ Z.a2 t3⟩,?_,?_⟩,fun b hb=>(hf1 b hb).1⟩
  ·rw[Sq.inj I h1 q1,Sq.inj I h2 q2];exact⟨e1,e2⟩
  ·exact IsItr.keep (b:=b1) t4.1 fun o e=>e9.extBut _ _ (fun q=>Z.z1 (q▸Z.m1)) e
  ·exact IsItr.keep (b:=b2) t5.1 fun o e=>e9.extBut _ _ (fun q=>Z.z2 (q▸Z.m2)) e
 done:=by
  intro X hP hw hK hc i pins s σ H E I hf st hg;subst hP hw hK;obtain⟨xs,ys,q1,q2,ei⟩:=hg;obtain⟨its,r1,p1⟩:=q1.heap I;obtain⟨jts,r2,p2⟩:=q2.heap I;obtain⟨s1,s2,⟨u0,v0,s3⟩,s4,s5⟩:=st;have Z:=JnH I q1 q2 hf nd;have hh:X.A.in1.handled=none:=I.ok.hd hc;have D1:=Draws.sq (prog:=X.prog) (w:=X.w) (b:=b1) (xs:=its.toArray) hh i1 (FpOk.off I q1 (hf i1 (by simp)));have D2:=Draws.sq (prog:=X.prog) (w:=X.w) (b:=b2) (xs:=jts.toArray) hh i2 (FpOk.off I q2 (hf i2 (by simp)))
  have hT:s.TypeIs (.ref z) "zip":=⟨_,s1,rfl⟩
  have n1:its.toArray.size=xs.length:=by rw[Qu,r1.length]
  have n2:jts.toArray.size=ys.length:=by rw[Qu,r2.length]
  unfold pyNext;refine Qa (Kb (QO (name:=GC "__next__") hT G8 (QU G8 hT K8 (Jeb Z D1 D2 s1 s2 s3 ⟨s4,p1⟩ ⟨s5,p2⟩ (by omega) fun k e tk kk he=>?_) (KW _))));obtain⟨o,ho,hoc⟩:=he;refine Qa (Kp (T:="StopIteration") (b:=true) ⟨o,ho,hoc⟩ K9 (Qg ⟨rfl,?_⟩));exact I.turnedL (fun b o hb q=>by simp only[Qk,GB,or_false,not_or] at hb;exact kk b o hb.1 hb.2.2.1 hb.2.2.2.1 hb.2.2.2.2 q) hf
 self:=fun _ _ _ _ _ st h=>Ru st.1 h
noncomputable def iZp(K:QE)(ta:TA):TI:=fun σ H R=>ta σ H fun vs H1=>∃(b1 b2:Bool) (a1 a2:Qj) (xs ys:List V),vs=[.ref a1,.ref a2]/\Sq b1 K H1 a1 xs/\Sq b2 K H1 a2 ys/\R (Itz K b1 b2 a1 a2) H1
def Jcp{X:Cx}{K:QE}{elts:List GA}{kk:Nat}{tpos:Pos}{a b:GA}{ta:TA}{p pos:Pos}(hK:X.K=K)(hg:Gl X "zip")(hm:X.mg "zip"=none)(ha:PA X [a,b] ta)(hs:starEach [a,b] X.env=[(false,eval a X.env),(false,eval b X.env)]:=by rfl)
 (hs2:starEach [b] X.env=[(false,eval b X.env)]:=by rfl):PI X (.Tuple elts kk tpos) (.Call (.Name "zip" p) [a,b] [] pos) (iZp K ta):=by
 subst hK;intro pins s σ H R I h;refine Call_ (Uv I hg hm Jim (GY (thn (ha pos pins s σ H _ I h) fun us s1 ⟨vs,H1,I1,r1,q1⟩=>?_) (by rw[hs,hs2]) (by rw[hs2];rfl)));obtain⟨b1,b2,a1,a2,xs,ys,e,c1,c2,q⟩:=q1;subst e
 cases r1 with
 | cons r rr =>
 cases rr with
 | cons r' rr =>
 cases rr;cases r;cases r';obtain⟨its,w1,p1⟩:=c1.heap I1;obtain⟨jts,w2,p2⟩:=c2.heap I1;refine JaZ p1 p2 fun h' t1 t2 t3 t4 t5 kp=>Ru t1 ?_
 refine⟨_,[s1.heap.objs.size+4,s1.heap.objs.size+2,s1.heap.objs.size+3,s1.heap.objs.size,s1.heap.objs.size+1],_,_,H1,rfl,I1.kept (t':=s1.toks) kp,Jkz b1 b2 a1 a2 _ _ _ _ _ (by simp),⟨t1,t2,⟨_,_,t3⟩,t4,t5⟩,fun b hb=>?_,q⟩
 have hle:s1.heap.objs.size<=b:=by simp only[Qk,GB,or_false] at hb;rcases hb with rfl|rfl|rfl|rfl|rfl <;> first|exact Qp _|exact Mp _ _
 exact I1.fpOk hle (I1.hok.fresh hle)
end L2
namespace LE
open PySem L2 LR
noncomputable def JaP(ds es:List D):List D:=Xr (fun a b=>.tup [a,b]) ds es
noncomputable def Ji6(m:Bool)(as:En->Option (List Sl)):En->Option (List D):=fun E=>(as E).bind fun ss=>match ss with
 | [s,t]=>(s.it m).bind fun ds=>(t.it m).bind fun es=>some (JaP ds es)
 | _=>none
def Jhk{H H1 H1':Hp}{v:V}{s:Sl}{ds:List D}(r:RR K C H H1 H1' v s)(i:Same H1 H1')(e:s.it m=some ds) :
 ∃(b:Bool) (a:Qj) (xs:List V),v=.ref a/\(∀A,(m=true->A=H1')->∀H0' H',SStep A (JN H H1 H1') H0' H'->Sq b K H' a xs)/\RDL K C (JN H H1 H1') xs ds:=by
 have f:=JF (Hs:=H) i
 have shared:∀{d:D},RD K C (JN H H1 H1') v d->(Sl.sh d).q=some ds->∃(b:Bool) (a:Qj) (xs:List V),v=.ref a/\(∀A,(m=true->A=H1')->∀H0' H',SStep A (JN H H1 H1') H0' H'->Sq b K H' a xs)/\RDL K C (JN H H1 H1') xs ds:=fun {d} r e=>by
  cases d with
  | lst es=>cases e;obtain⟨l,xs,h1,h2,h3⟩:=RD.lstI r;exact⟨false,l,xs,h1,fun A _ H0' H' st=>SqL.of (st.i _ _ (st.z _ _ h2)),h3⟩
  | fz es=>cases e;obtain⟨l,xs,h1,h2,h3⟩:=RD.fzI r;exact⟨false,l,xs,h1,fun A _ H0' H' st=>(st.z.trans st.i).seq h2,h3⟩
  | tup es=>cases e;obtain⟨l,xs,h1,h2,h3⟩:=RD.tupI r;exact⟨true,l,xs,h1,fun A _ H0' H' st=>(st.z.trans st.i).seqT h2,h3⟩
  | _=>cases e
 cases s with
 | no=>cases e
 | sh d=>exact shared (RD.mono f.z r) e
 | own es=>exact shared (RR.frz (s:=.own es) i r rfl) e
 | bd _ _=>cases e
 | bt _ _=>cases e
 | od _ _=>cases e
 | ot _ _=>cases e
 | bo es =>
  unfold Sl.it at e;dsimp only at e;split at e
  ·next hm=>cases e;obtain⟨l,xs,h1,h2,h3⟩:=r;refine⟨false,l,xs,h1,fun A hA H0' H' st=>?_,h3.mono f.z⟩;have:=hA hm;subst this;exact SqL.of (st.b _ _ h2)
  ·cases e
def Jpz(ha:SA K C t ev):SI K C m (iZp K t) (Ji6 m ev):=by
 intro B H0 H σ E ds R I e q;obtain⟨ss,e1,e⟩:=bind_some e;split at e
 ·next s u =>
  obtain⟨ds1,e2,e⟩:=bind_some e;obtain⟨ds2,e3,e⟩:=bind_some e;cases e;refine ha B H0 H σ E _ _ I e1 fun vs H1 H1' s1 r1=>?_
  obtain⟨v,w,rfl,ra,rb⟩:=r1.two;have f:=JF (Hs:=H) s1.i;obtain⟨b1,a1,xs,rfl,k1,w1⟩:=Jhk ra s1.i e2;obtain⟨b2,a2,ys,rfl,k2,w2⟩:=Jhk rb s1.i e3;have hA:m=true->(if m=true then H1' else B)=H1':=fun h=>if_pos h
  have sA:Same (if m=true then H1' else B) H1':=by
   split
   ·exact Same.refl _
   ·exact I.b.trans s1.h
  have st0:SStep (if m=true then H1' else B) (JN H H1 H1') (JN H H1 H1') H1':=⟨sA,Same.refl _,fun _ _ e=>.inl e,f.i⟩
  refine⟨b1,b2,a1,a2,xs,ys,rfl,k1 _ hA _ _ st0,k2 _ hA _ _ st0,q _ _ _ (s1.comp f fun _ z=>z) ?_⟩;intro H0' H' st;have q1:=k1 _ hA _ _ st;have q2:=k2 _ hA _ _ st;refine⟨fun i d e=>?_,⟨xs,ys,q1,q2,by unfold JaP;rw[MK,w1.1,w2.1]⟩⟩;unfold JaP at e;rw[Mn] at e
  cases g1:ds1[i]? with
  | none=>rw[g1] at e;cases e
  | some d1 =>
   cases g2:ds2[i]? with
   | none=>rw[g1,g2] at e;cases e
   | some d2 =>
    rw[g1,g2] at e;cases e;obtain⟨x,x1,x2⟩:=w1.get g1;obtain⟨y,y1,y2⟩:=w2.get g2;refine⟨⟨xs,ys,x,y,q1,q2,x1,y1⟩,?_⟩;rintro z H2 ⟨p,u',v',rfl,hp,rfl,hv⟩;obtain⟨h1,h2⟩:=hv xs ys q1 q2;rw[x1] at h1;cases h1;rw[y1] at h2;cases h2;have h0:H0' p=none:=Same.free st.i hp;refine⟨upd H0' p (.tup [x,y]),⟨.new hp,.new h0,fun a o e=>?_,fun a o e=>?_⟩,?_⟩
    ·by_cases h:a=p
     ·subst h;exact .inr (.inl hp)
     ·rw[Ji h] at e;exact .inl e
    ·by_cases h:a=p
     ·subst h;rw[Jn] at e ⊢;exact e
     ·rw[Ji h] at e ⊢;exact st.i a o e
    ·exact .mkT (.of Jn) (.cons (x2.mono (st.z.trans (.new h0))) (.cons (y2.mono (st.z.trans (.new h0))) .nil))
 ·cases e
def VD{α β:Type}(f:α->D)(g:β->D)(xs:List α)(ys:List β):JaP (xs.map f) (ys.map g)=(Lu xs ys).map fun p=>.tup [f p.1,g p.2]:=by
 unfold JaP
 induction xs generalizing ys with
 | nil=>rfl
 | cons x xs ih=>cases ys with
  | nil=>rfl
  | cons y ys=>simp[ih]
end LE
namespace PySem
namespace F
def Jj3:Manifest.owners.lookup (String.ofList ['d','e','s','r','e','v','e','r'].reverse)=some Manifest.sig_reversed:=by kernel_rfl
def Jcu:Slot "reversed" "__init__" "object.__init__" :=
 .of (owner:="object") (n:="__init__") (by rw[typeLookup_type,builtinLookup_eq_fast];kernel_rfl) (by decide +kernel) (by decide +kernel) (by decide +kernel) (by first | exact .inl (by decide +kernel) | exact .inr (by decide +kernel)) (by rw[La];kernel_rfl)
def rv_slot_next:Slot "reversed" "__next__" "reversed.__next__" :=
 .of (owner:="reversed") (n:="__next__") (by rw[typeLookup_type,builtinLookup_eq_fast];kernel_rfl) (by decide +kernel) (by decide +kernel) (by decide +kernel) (by first | exact .inl (by decide +kernel) | exact .inr (by decide +kernel)) (by rw[La];kernel_rfl)
def rv_slot_iter:Slot "reversed" "__iter__" "reversed.__iter__" :=
 .of (owner:="reversed") (n:="__iter__") (by rw[typeLookup_type,builtinLookup_eq_fast];kernel_rfl) (by decide +kernel) (by decide +kernel) (by decide +kernel) (by first | exact .inl (by decide +kernel) | exact .inr (by decide +kernel)) (by rw[La];kernel_rfl)
def rv_args_next(a:Qe):argsOk "reversed.__next__" ⟨[a],[]⟩:=by unfold argsOk;rw[signature?_of (id:="reversed.__next__") (n:=['_','_','t','x','e','n','_','_']) (o:=['d','e','s','r','e','v','e','r']) (by kernel_rfl) Jj3];kernel_rfl
def rv_args_iter(a:Qe):argsOk "reversed.__iter__" ⟨[a],[]⟩:=by unfold argsOk;rw[signature?_of (id:="reversed.__iter__") (n:=['_','_','r','e','t','i','_','_']) (o:=['d','e','s','r','e','v','e','r']) (by kernel_rfl) Jj3];kernel_rfl
def rv_entry_next:entryFor table "reversed.__next__"=some Builtin.«reversed.__next__»:=entryFor_of_tree (by kernel_rfl)
def rv_entry_iter:entryFor table "reversed.__iter__"=some Builtin.«dict_keyiterator.__iter__» :=
 entryFor_alias (id':="dict_keyiterator.__iter__") (by kernel_rfl) (by first | rfl | decide +kernel | (unfold String.splitOn;simp +decide [String.splitOnAux])) (by decide +kernel) (by kernel_rfl)
def rv_called:TypeCalled "reversed" "reversed.__new__" "object.__init__" :=
 ⟨by decide +kernel,by decide +kernel,⟨_,_,mro_reversed⟩,made_reversed,by decide +kernel,sub_reversed_self,Jcu⟩
def rv_tuple_none:typeLookup (.type "tuple") "__reversed__"=pure none:=by rw[typeLookup_type,builtinLookup_eq_fast];kernel_rfl
def rv_tuple_dict:isSubtype (.type "tuple") (.type "dict")=pure false:=by rw[La];kernel_rfl
end F
abbrev Jed(h:Q1)(r a:Qj)(i:Int):Prop:=h.get? r=some { cls:=.type "reversed",dict:=none,data:=.fields #[.ref a,rawInt i],slots:=#[] }
def Jjn(a:Qj)(xs:Array Qe):Meets (Builtin.«reversed.__new__» ⟨[.type "reversed",.ref a],[]⟩) (fun _ R s=>s.heap.IsTuple a xs/\(xs.size:Int)<2 ^ 63 ∧
 R (.ok (.ret (.ref s.heap.objs.size))) { s with heap:=s.heap.push { cls:=.type "reversed",data:=.fields #[.ref a,rawInt ((xs.size:Int)-1)] },toks:=s.toks+1+1 }) :=
 .of_wp fun prog w A R s h=>by
  obtain⟨hp,g,d,tk,os⟩:=s;obtain⟨q1,q2,h⟩:=h;have hT:(⟨hp,g,d,tk,os⟩:Qi).TypeIs (.ref a) "tuple":=q1.typeIs;unfold Builtin.«reversed.__new__»;refine Qa (KB (newClass_reversed _) ?_)
  try dsimp only
  refine Qa (KB (a:=()) (by first|rfl|kernel_rfl) ?_);refine Qa (KB (a:=()) (by first|rfl|kernel_rfl) ?_)
  try dsimp only
  refine Qa (KS hT F.rv_tuple_none ?_)
  try dsimp only
  refine Qa ?_;refine Qa (m:=isInstance (.ref a) (.type "dict")) (Kp hT F.rv_tuple_dict ?_);refine Qa (KS hT Gx.lookup ?_);refine Qg ?_;refine Qa (PyProof.Rows.len_tuple (s:=⟨hp,g,d,tk,os⟩) q1 q2 ?_);refine Qa (KB (a:=some (xs.size:Int)) rfl ?_)
  try dsimp only
  refine Qa ?_;show wpAny _ _ (newObj (.type "reversed") (.fields #[.ref a,rawInt ((xs.size:Int)-1)])) _ _ _;exact QW (Qg ⟨_,rfl,h⟩) (by size_fits)
def JkW{Q:Qe->Qi->Prop}(q1:s.heap.IsTuple a xs)(q2:(xs.size:Int)<2 ^ 63)
 (h:∀h' tk,Jed h' s.heap.objs.size a ((xs.size:Int)-1)->(∀c o,s.heap.get? c=some o->h'.get? c=some o)->Q (.ref s.heap.objs.size) { s with heap:=h',toks:=tk }) :
 wpAny (model prog w) A (call (.type "reversed") [.ref a]) Q E s:=by
 refine callType_new F.rv_called (by decide) (F.typeCall_reversed_1 _) (F.newCall_reversed_1 _) (fun obj=>F.args_object_init_2 obj _) F.entry_reversed_new (Jjn a xs) ⟨q1,q2,?_⟩;exact⟨⟨_,Qn _ rfl,rfl⟩,h _ _ (Qn _ rfl) fun c o q=>Qh _ q⟩
def JlL{i:Nat}{x:Qe}{Q:Option Qe->Qi->Prop}(hit:Jed s.heap r a (i:Int))(hl:s.heap.IsTuple a xs)(hb:(i:Int)<2 ^ 63)(hx:xs[i]?=some x)
 (hQ:∀h' tk,Jed h' r a ((i:Int)-1)->QH r s.heap h'->Q (some x) { s with heap:=h',toks:=tk }):wpAny (model prog w) A (pyNext (.ref r)) Q E s:=by
 have hT:s.TypeIs (.ref r) "reversed":=⟨_,hit,rfl⟩
 have hi:i<xs.size:=by
  by_cases z:i<xs.size
  ·exact z
  ·rw[Array.getElem?_eq_none (by omega)] at hx;cases hx
 unfold pyNext;refine Qa (Kb (QO (name:=GC "__next__") hT F.rv_slot_next
  (QU F.rv_slot_next hT F.rv_entry_next ?_ (F.rv_args_next _))))
 unfold Builtin.«reversed.__next__»;refine Qa (KB (a:=(Value.ref r,[])) rfl ?_)
 try dsimp only
 refine Qa (Q5 hit rfl (x:=.ref a) rfl ?_);refine Qa (Q5 hit rfl (x:=rawInt (i:Int)) rfl ?_);show wpAny _ _ (if (i:Int)<0 then _ else _) _ _ s;rw[if_neg (by omega)];show wpAny _ _ (specialOf (.ref a) _ >>= _) _ _ s;refine Qa (KS hl.typeIs Gx.lookup ?_);show wpAny _ _ (mkInt (i:Int) >>= _) _ _ s;refine Qa (wpAny_mkInt ?_);refine Qa (Kb (PyProof.Rows.getItem_tuple (s:={ s with toks:=s.toks+1 }) hl (by omega) hb (j:=i) (by simp[seqIndex?];omega) hx ?_))
 show wpAny _ _ (field (.ref r) 1 >>= _) _ _ _;refine Qa (Q5 hit rfl (x:=rawInt (i:Int)) rfl ?_)
 show wpAny _ _ (setField (.ref r) 1 (rawInt ((i:Int)-1)) >>= _) _ _ _;refine Qa (Gv hit (by simp) fun k1 y1 e1=>?_);exact Qg ⟨x,rfl,Qg (hQ k1 _ y1 e1)⟩
def JnS{Q:Option Qe->Qi->Prop}(hh:A.handled=none)(hit:Jed s.heap r a (-1))
 (hQ:∀h',KM r s.heap h'->Q none { s with heap:=h' }):wpAny (model prog w) A (pyNext (.ref r)) Q E s:=by
 have hT:s.TypeIs (.ref r) "reversed":=⟨_,hit,rfl⟩
 unfold pyNext;refine Qa (Kb (QO (name:=GC "__next__") hT F.rv_slot_next
  (QU F.rv_slot_next hT F.rv_entry_next ?_ (F.rv_args_next _))))
 unfold Builtin.«reversed.__next__»;refine Qa (KB (a:=(Value.ref r,[])) rfl ?_)
 try dsimp only
 refine Qa (Q5 hit rfl (x:=.ref a) rfl ?_);refine Qa (Q5 hit rfl (x:=rawInt (-1)) rfl ?_);show wpAny _ _ (if (-1:Int)<0 then _ else _) _ _ s;rw[if_pos (by decide)];refine Qa (KH ?_);refine Qa ?_;refine Qa (m:=setField (.ref r) 1 (rawInt (-1))) (Gv hit (by simp) fun k1 y1 e1=>?_);refine Gv (s:={ s with heap:=k1 }) y1 (by simp) fun k2 y2 e2=>?_
 refine Qa ?_;show wpAny _ _ (newExc (.type "StopIteration") [] >>= _) _ _ _;refine Qa ?_;simp only[newExc,newTuple];refine Qa (QW ?_ (by size_fits));refine Qa (m:=firstArgMember _ _) (KB (a:=Value.none) (by first | rfl | (simp only[firstArgMember];rfl)) ?_);refine QW ?_ (by size_fits);simp only[raiseNew];refine Qa (Rl ?_)
 first|rw[show A.in1.handled=none from hh]|rw[hh]
 refine Qa (Qg (R3 ?_));refine Qa (Kp (T:="StopIteration") (b:=true) ⟨_,Qn _ rfl,rfl⟩ K9 ?_)
 replace e1:QH r s.heap k1:=e1
 replace e2:QH r k1 k2:=e2;refine Qg (hQ _ ?_);exact(Xz (Xz (fun b o hb q=>e2.extBut b o hb (e1.extBut b o hb q)) _) _)
def Jf0{i:Int}{Q:Qe->Qi->Prop}(hit:Jed s.heap r a i)(h:Q (.ref r) s):wpAny (model prog w) A (pyIter (.ref r)) Q E s:=by
 have hT:s.TypeIs (.ref r) "reversed":=⟨_,hit,rfl⟩
 refine Mg hT F.rv_slot_iter (QU F.rv_slot_iter hT F.rv_entry_iter ?_ (F.rv_args_iter _));show wpAny _ _ (ret (.ref r)) _ _ s;exact Qg ⟨_,rfl,"reversed",_,hT,F.rv_slot_next.lookup,h⟩
end PySem
namespace L2
open PySem PySem.Spec PyProof.Rows
noncomputable def Itv(K:QE)(b:Bool)(a:Qj)(n:Nat):It :=
 ⟨fun i H=>i<n/\∃xs,Sq b K H a xs/\xs.length=n,fun i H x H'=>H'=H/\∀xs,Sq b K H a xs->xs[n-1-i]?=some x,fun i _=>i=n⟩
noncomputable def JrL(b:Bool)(r a:Qj)(i:Int)(h:Q1):Prop:=match b with
 | true=>Jed h r a i
 | false=>h.IsRevIter r a i
def JgQ{P:Qz}{w:QT}{K:QE}{tg:GA}(b:Bool)(a r:Qj)(n:Nat)(hn:n<=Qt):Turn P w K tg (Itv K b a n) [r] r (fun i h=>JrL b r a ((n:Int)-1-(i:Int)) h) where
 mem:=by simp
 obj:=fun i h st c hc=>by
  have e:c=r:=by simpa using hc
  subst e
  cases b with
  | true=>exact⟨_,st,fun v z=>nomatch (show Data.fields _=Data.cell v from z)⟩
  | false=>obtain⟨o,e,_,d⟩:=st;exact⟨o,e,fun v z=>by rw[d] at z;cases z⟩
 keep:=fun i h h' st k=>by
  cases b with
  | true=>exact k r (by simp) _ st
  | false=>exact Heap.IsRevIter.at st fun o e=>k r (by simp) o e
 item:=by
  intro X hP hw hK hc i pins s σ H E I hf st hg;subst hP hw hK;obtain⟨hi,xs,hq,hlen⟩:=hg;obtain⟨f0,f1,f2,f3,f4,f5⟩:=hf r (by simp);obtain⟨its,rv,p⟩:=hq.heap I;obtain⟨x,hx⟩:∃x,xs[n-1-i]?=some x:=⟨xs[n-1-i]'(by omega),by simp⟩
  obtain⟨u,hu,ru⟩:=rv.get hx;have e:(n:Int)-1-(i:Int)=((n-1-i:Nat):Int):=by omega
  have e2:((n-1-i:Nat):Int)-1=(n:Int)-1-((i+1:Nat):Int):=by omega
  rw[e] at st;have hz:Qt<2 ^ 63:=by decide
  cases b with
  | true =>
   refine JlL (s:=s) st p (by omega) (x:=u) (by simpa using hu) fun h' tk st' sb=>?_
   replace sb:QH r s.heap h':=sb;have I1:Inv X pins σ H { s with heap:=h',toks:=tk }:=I.turned (fun b o hb e=>(sb.2 b hb).trans e) f0 f1 f3 f4 f5;rw[e2] at st';exact⟨u,rfl,Jc6 (s:={ s with heap:=h',toks:=tk }) st' rfl rfl (by decide) ⟨x,H,I1,ru,⟨rfl,fun ys hy=>by rw[Sq.inj I hy hq];exact hx⟩,st',fun b hb=>(hf b hb).1⟩⟩
  | false =>
   refine wpAny_pyNext_rev_item (s:=s) st p (x:=u) (by simpa using hu) fun h' st' sb=>?_
   have I1:Inv X pins σ H { s with heap:=h' }:=I.turned (t':=s.toks) (fun b o hb e=>(sb.2 b hb).trans e) f0 f1 f3 f4 f5;rw[e2] at st';obtain⟨o,eo,co,d⟩:=id st';exact⟨u,rfl,Jc6 (s:={ s with heap:=h' }) eo co d (by decide) ⟨x,H,I1,ru,⟨rfl,fun ys hy=>by rw[Sq.inj I hy hq];exact hx⟩,st',fun b hb=>(hf b hb).1⟩⟩
 done:=by
  intro X hP hw hK hc i pins s σ H E I hf st hg;subst hP hw hK;obtain⟨f0,f1,f2,f3,f4,f5⟩:=hf r (by simp)
  replace hg:i=n:=hg;have e:(n:Int)-1-(i:Int)=-1:=by omega
  rw[e] at st
  cases b with
  | true=>exact JnS (s:=s) (a:=a) (I.ok.hd hc) st fun h' eb=>⟨rfl,I.turned (t':=s.toks) (fun b o hb e=>eb b o hb e) f0 f1 f3 f4 f5⟩
  | false=>exact wpAny_pyNext_rev_end (s:=s) (I.ok.hd hc) st fun h' eb=>⟨rfl,I.turned (t':=s.toks) (fun b o hb e=>eb b o hb e) f0 f1 f3 f4 f5⟩
 self:=fun _ i s _ _ st h=>by
  cases b with
  | true=>exact Jf0 (s:=s) st h
  | false=>exact wpAny_pyIter_revIter (s:=s) st h
noncomputable def iRv(K:QE)(ta:TA):TI:=fun σ H R=>ta σ H fun vs H1=>∃(b:Bool) (a:Qj) (xs:List V),vs=[.ref a]/\Sq b K H1 a xs/\R (Itv K b a xs.length) H1
def Jl1{X:Cx}{K:QE}{tg:GA}{a:GA}{ta:TA}{p pos:Pos}(hK:X.K=K)(hg:Gl X "reversed")(hm:X.mg "reversed"=none)(ha:PA X [a] ta)(hs:starEach [a] X.env=[(false,eval a X.env)]:=by rfl)
:PI X tg (.Call (.Name "reversed" p) [a] [] pos) (iRv K ta):=by
 subst hK;intro pins s σ H R I h;refine Call_ (Uv I hg hm JcS (GY (thn (ha pos pins s σ H _ I h) fun us s1 ⟨vs,H1,I1,r1,q1⟩=>?_) (by rw[hs];rfl) (by rfl)));obtain⟨b,a,xs,e,c1,q⟩:=q1;subst e
 cases r1 with
 | cons r rr =>
 cases rr;cases r
 have fresh:∀c∈[s1.heap.objs.size],FpOk X pins H1 c:=fun c hc=>by
  have e:c=s1.heap.objs.size:=by simpa using hc
  subst e;exact I1.fpOk (Qp _) (I1.hok.fresh (Qp _))
 have hz:Qt<2 ^ 63:=by decide
 cases b with
 | true =>
  obtain⟨its,rv,p1,sz⟩:=I1.tuple c1;have hl:=rv.length;refine JkW (s:=s1) (xs:=its.toArray) p1 (by rw[Qu];omega) fun h' tk t1 kp=>Jf0 (s:={ s1 with heap:=h',toks:=tk }) t1 ?_
  refine⟨_,[s1.heap.objs.size],_,_,H1,rfl,I1.kept (t':=tk) kp,JgQ true a _ xs.length sz,?_,fresh,q⟩;show Jed h' s1.heap.objs.size a _;have e:(its.toArray.size:Int)-1=(xs.length:Int)-1-((0:Nat):Int):=by rw[Qu,<- hl];simp
  rw[<- e];exact t1
 | false =>
  obtain⟨its,rv,p1,sz⟩:=I1.list c1;have hl:=rv.length;refine call_reversed_list (s:=s1) p1.isList (wpAny_pyIter_revIter (l:=a) (i:=((its.toArray.size:Int)-1)) ⟨_,Qn _ rfl,rfl,rfl⟩ ?_);refine⟨_,[s1.heap.objs.size],_,_,H1,rfl,I1.kept (t':=s1.toks) fun b o e=>Qh _ e,JgQ false a _ xs.length sz,?_,fresh,q⟩;refine⟨_,Qn _ rfl,rfl,?_⟩;have e:(its.toArray.size:Int)-1=(xs.length:Int)-1-((0:Nat):Int):=by rw[Qu,<- hl];simp
  rw[e];rfl
end L2
namespace LE
open PySem L2 LR
noncomputable def Jn2(m:Bool)(as:En->Option (List Sl)):En->Option (List D):=fun E=>(as E).bind fun ss=>match ss with
 | [s]=>(s.it m).map List.reverse
 | _=>none
def Jpy(ha:SA K C t ev):SI K C m (iRv K t) (Jn2 m ev):=by
 intro B H0 H σ E ds R I e q;obtain⟨ss,e1,e⟩:=bind_some e;split at e
 ·next s =>
  obtain⟨ds1,e2,e⟩:=GD.mp e;subst e;refine ha B H0 H σ E _ _ I e1 fun vs H1 H1' s1 r1=>?_
  obtain⟨v,rfl,ra⟩:=r1.one;have f:=JF (Hs:=H) s1.i;obtain⟨b1,a1,xs,rfl,k1,w1⟩:=Jhk ra s1.i e2;have hA:m=true->(if m=true then H1' else B)=H1':=fun h=>if_pos h
  have sA:Same (if m=true then H1' else B) H1':=by
   split
   ·exact Same.refl _
   ·exact I.b.trans s1.h
  have st0:SStep (if m=true then H1' else B) (JN H H1 H1') (JN H H1 H1') H1':=⟨sA,Same.refl _,fun _ _ e=>.inl e,f.i⟩
  refine⟨b1,a1,xs,rfl,k1 _ hA _ _ st0,q _ _ _ (s1.comp f fun _ z=>z) ?_⟩;intro H0' H' st;have q1:=k1 _ hA _ _ st;refine⟨fun i d e=>?_,by rw[LY,w1.1];rfl⟩;have hi:i<ds1.length:=by have:=(Qq.mp e).1;rwa [LY] at this
  rw[List.getElem?_reverse hi,<- w1.1] at e;obtain⟨x,x1,x2⟩:=w1.get e;refine⟨⟨by rw[w1.1];exact hi,xs,q1,rfl⟩,?_⟩;rintro z H2 ⟨rfl,hv⟩;have h1:=hv xs q1;rw[x1] at h1;cases h1;exact⟨H0',.refl st.i,x2.mono st.z⟩
 ·cases e
end LE
namespace PySem
open AutoSeq1 (wpAny_loadPart')
abbrev enO(it:Qj):Obj:={ cls:=.type "enumerate",data:=.fields #[.none,.bool false,.ref it,rawInt 0,.none,.none] }
def JhA(b:Bool)(a:Qj)(xs:Array Qe):Meets (Builtin.«enumerate.__new__» ⟨[.type "enumerate",.ref a],[]⟩) (fun _ R s=>IsSq b s.heap a xs ∧
 R (.ok (.ret (.ref (s.heap.push (itO b a)).objs.size))) { s with heap:=(s.heap.push (itO b a)).push (enO s.heap.objs.size) }) :=
 .of_wp fun prog w A R s h=>by
  obtain⟨hp,g,d,tk,os⟩:=s;obtain⟨q,h⟩:=h;have hsub:=sub_enumerate;have r:IsSq b (XA ⟨hp,g,d,tk,os⟩) a xs:=q
  obtain⟨o,hl⟩:∃o,hp.get? a=some o:=by
   cases b with
   | true=>obtain⟨o,e,_⟩:=q;exact⟨o,e⟩
   | false=>obtain⟨o,e,_⟩:=q;exact⟨o,e⟩
  wp_walk using Lv hl
  refine wpAny_stack_any fun st=>Qg ?_
  split
  ·rename_i c _ _ _ _ _;cases (c == Value.type "enumerate")
   ·wp_walk using Lv hl,UK r
    exact⟨_,rfl,h⟩
   ·wp_walk using Lv hl,UK r
    exact⟨_,rfl,h⟩
  ·wp_walk using Lv hl,UK r
   exact⟨_,rfl,h⟩
def Jio(q:IsSq b s.heap a xs)(h:∀h',IsEnum h' (s.heap.objs.size+1) s.heap.objs.size 0 .none->IsItr b h' s.heap.objs.size a 0->(∀c o,s.heap.get? c=some o->h'.get? c=some o)->Q (.ref (s.heap.objs.size+1)) { s with heap:=h' }):
 wpAny (model prog w) A (call (.type "enumerate") [.ref a]) Q E s:=by
 refine callType_new F.called_enumerate (by decide) (F.typeCall_enumerate_1 _) (F.newCall_enumerate_1 _) (fun obj=>F.args_object_init_2 obj _) F.entry_enumerate_new (JhA b a xs) ⟨q,?_⟩;have hz:(s.heap.push (itO b a)).objs.size=s.heap.objs.size+1:=Gz ..;have fi:(itO b a).isFreed=false:=by cases b <;> rfl
 have g2:((s.heap.push (itO b a)).push (enO s.heap.objs.size)).get? (s.heap.push (itO b a)).objs.size=some _:=Qn _ rfl
 have g1:((s.heap.push (itO b a)).push (enO s.heap.objs.size)).get? s.heap.objs.size=some _:=Qh _ (Qn _ fi)
 show _/\_;rw[hz] at g2;rw[hz];exact⟨⟨_,g2,rfl⟩,h _ g2 (.new g1) fun c o x=>Qh _ (Qh _ x)⟩
def JiH{p:List Qj}{n i:Nat}{P:Nat->Qe->Prop}{S:Nat->Q1->Prop}{old:Qe}{Q:Qe->Qi->Prop}(D:Draws prog w A it p n P S)(he:IsEnum s.heap e it i old)(st:S i s.heap)(hi:i<n)(hne:e∉p)(him:it∈p)
 (hQ:∀x h' tk t,P i x->IsEnumOut h' e it ((i:Int)+1) x s.heap.objs.size->S (i+1) h'->h'.get? s.heap.objs.size=some { cls:=.type "tuple",data:=.seq #[.int i t,x] }->h'.objs.size=s.heap.objs.size+1 ->
  (∀c o,c≠e->c≠it->s.heap.get? c=some o->h'.get? c=some o)->Q (.ref s.heap.objs.size) { s with heap:=h',toks:=tk }) :
 wpAny (model prog w) A (Builtin.«enumerate.__next__» ⟨[.ref e],[]⟩) (fun fin s'=>∃v,fin=.done (.ret v)/\Q v s') E s:=by
 obtain⟨hp,g,d,tk,os⟩:=s;have ne:e≠it:=fun q=>hne (q▸him)
 show wpAny _ _ (field (.ref e) 2 >>= _) _ _ _;refine Qa (Q5 he rfl (x:=.ref it) rfl (Qa (D.item i _ _ _ hi st fun x k1 t1 px s1 e1=>?_)))
 replace e1:QH it hp k1:=e1;have E1:IsEnum k1 e it i old:=(e1.2 e ne).trans he;refine Qa (Q5 (s:=⟨k1,g,d,t1,os⟩) E1 rfl (x:=rawInt i) rfl ?_);show wpAny _ _ (field (.ref e) 4 >>= _) _ _ ⟨k1,g,d,t1,os⟩;refine Qa (Q5 (s:=⟨k1,g,d,t1,os⟩) E1 rfl (x:=.none) rfl ?_);show wpAny _ _ (mkInt i >>= _) _ _ ⟨k1,g,d,t1,os⟩;refine Qa (wpAny_mkInt ?_);show wpAny _ _ (setField (.ref e) 3 (rawInt ((i:Int)+1)) >>= _) _ _ ⟨k1,g,d,t1+1,os⟩
 refine Qa (Gv E1 (by simp) fun k2 E2 e2=>?_)
 replace e2:QH e k1 k2:=e2
 replace E2:IsEnum k2 e it ((i:Int)+1) old:=E2;show wpAny _ _ (setField (.ref e) 4 .none >>= _) _ _ ⟨k2,g,d,t1+1,os⟩;refine Qa (Gv E2 (by simp) fun k3 E3 e3=>?_)
 replace e3:QH e k2 k3:=e3
 replace E3:IsEnum k3 e it ((i:Int)+1) old:=E3;show wpAny _ _ (newTuple [.int i t1,x] >>= _) _ _ ⟨k3,g,d,t1+1,os⟩;refine Qa (Mf ?_);have hsz:k3.objs.size=hp.objs.size:=by rw[e3.1,e2.1,e1.1]
 have elt:e<hp.objs.size:=Qo he
 have E4:IsEnum (k3.push { cls:=.type "tuple",data:=.seq #[.int i t1,x] }) e it ((i:Int)+1) old:=Qh _ E3
 have T4:(k3.push { cls:=.type "tuple",data:=.seq #[.int i t1,x] }).get? hp.objs.size=some { cls:=.type "tuple",data:=.seq #[.int i t1,x] }:=by rw[<- hsz];exact Qn _ rfl
 have z4:(k3.push { cls:=.type "tuple",data:=.seq #[.int i t1,x] }).objs.size=hp.objs.size+1:=by rw[Gz,hsz]
 have kp:∀c o,c≠e->k1.get? c=some o->(k3.push { cls:=.type "tuple",data:=.seq #[.int i t1,x] }).get? c=some o:=fun c o c1 q=>Qh _ (e3.extBut c o c1 (e2.extBut c o c1 q))
 show wpAny _ _ (QX (.ref e) >>= _) _ _ ⟨k3.push { cls:=.type "tuple",data:=.seq #[.int i t1,x] },g,d,t1+1,os⟩;rw[hsz]
 generalize k3.push { cls:=.type "tuple",data:=.seq #[.int i t1,x] }=k4 at E4 T4 z4 kp ⊢
 refine Qa ?_;unfold QX;refine Qa (Q5 (s:=⟨k4,g,d,t1+1,os⟩) E4 rfl (x:=.none) rfl (Qg ?_));simp only[if_true];refine Qa (KH (Qa (Q5 (s:=⟨k4,g,d,t1+1,os⟩) E4 rfl (x:=old) rfl (Qa (Gv E4 (by simp) fun k5 E5 e5=>?_)))))
 replace e5:QH e k4 k5:=e5
 replace E5:IsEnum k5 e it ((i:Int)+1) x:=E5;show wpAny _ _ (Kk (.ref e) (.ref hp.objs.size) >>= _) _ _ ⟨k5,g,d,t1+1,os⟩;refine Qa ?_;unfold Kk;refine Qa (Gv E5 (by simp) fun k6 E6 e6=>?_)
 replace e6:QH e k5 k6:=e6
 replace E6:IsEnumOut k6 e it ((i:Int)+1) x hp.objs.size:=E6;refine Gv E6 (by simp) fun k7 E7 e7=>?_
 replace e7:QH e k6 k7:=e7
 replace E7:IsEnumOut k7 e it ((i:Int)+1) x hp.objs.size:=E7;have up:∀c o,c≠e->k4.get? c=some o->k7.get? c=some o:=fun c o c1 q=>e7.extBut c o c1 (e6.extBut c o c1 (e5.extBut c o c1 q))
 refine Qa (Lg (Qg ⟨_,rfl,hQ x k7 (t1+1) t1 px E7 ?_ (up _ _ (Gh elt) T4) (by rw[e7.1,e6.1,e5.1,z4]) fun c o c1 c2 q=>up c o c1 (kp c o c1 (e1.extBut c o c2 q))⟩));exact D.frame _ _ _ s1 fun c hc o q=>up c o (fun z=>hne (z▸hc)) (kp c o (fun z=>hne (z▸hc)) q)
def Jk1(D:Draws prog w A it p n P S)(he:IsEnum s.heap e it n old)(st:S n s.heap)(hE:∀h' x tk,KM it s.heap h'->(∃o,h'.get? x=some o/\o.cls=.type "StopIteration")->E (.ref x) { s with heap:=h',toks:=tk }):
 wpAny (model prog w) A (Builtin.«enumerate.__next__» ⟨[.ref e],[]⟩) Q E s:=by
 show wpAny _ _ (field (.ref e) 2 >>= _) _ _ _;refine Qa (Q5 he rfl (x:=.ref it) rfl (Qa (D.done _ _ _ st fun k1 x e1 hx=>?_)));exact hE k1 x s.toks e1 hx
end PySem
namespace L2
open PySem PySem.Spec PyProof.Rows
noncomputable def Ite(K:QE)(b:Bool)(a:Qj):It :=
 ⟨fun i H=>∃xs x,Sq b K H a xs/\xs[i]?=some x,
  fun i H x H'=>∃p v,x=.ref p/\H p=none/\H'=upd H p (.tup [.int i,v])/\∀xs,Sq b K H a xs->xs[i]?=some v,
  fun i H=>∃xs,Sq b K H a xs/\i=xs.length⟩
def JmM{P:Qz}{w:QT}{K:QE}{elts:List GA}{kk:Nat}{pos:Pos}(b:Bool)(a e it:Qj)(ne:e≠it) :
 Turn P w K (.Tuple elts kk pos) (Ite K b a) [e,it] e (fun i h=>(∃old,IsEnum h e it i old)/\IsItr b h it a i) where
 mem:=by simp
 obj:=fun i h st c hc=>by
  obtain⟨⟨old,s1⟩,s2⟩:=st;simp only[Qk,GB,or_false] at hc;rcases hc with rfl|rfl
  ·exact⟨_,s1,fun v z=>nomatch (show Data.fields _=Data.cell v from z)⟩
  ·exact IsItr.obj (b:=b) s2
 keep:=fun i h h' st k=>by obtain⟨⟨old,s1⟩,s2⟩:=st;exact⟨⟨old,k e (by simp) _ s1⟩,IsItr.keep (b:=b) s2 fun o q=>k it (by simp) o q⟩
 item:=by
  intro X hP hw hK hc i pins s σ H E I hf st hg;subst hP hw hK;obtain⟨xs,x,q1,e1⟩:=hg;obtain⟨its,r1,p1⟩:=q1.heap I;obtain⟨⟨old,s1⟩,s2⟩:=st;have hh:X.A.in1.handled=none:=I.ok.hd hc;have ne1:a≠it:=FpOk.off I q1 (hf it (by simp));have ne2:a≠e:=FpOk.off I q1 (hf e (by simp));have D1:=Draws.sq (prog:=X.prog) (w:=X.w) (b:=b) (xs:=its.toArray) hh it ne1;have hT:s.TypeIs (.ref e) "enumerate":=⟨_,s1,rfl⟩
  have l1:i<its.toArray.size:=by have:=(Qq.mp e1).1;rw[Qu,<- r1.length];exact this
  unfold pyNext;refine Qa (Kb (QO (name:=GC "__next__") hT LA (QU LA hT F.entry_enumerate_next
   (JiH D1 s1 ⟨s2,p1⟩ l1 (by simp[ne,Q3 ne2]) (by simp) fun u k tk t pu t1 t2 t3 t4 t5=>Qg ?_) (Rv _))))
  refine⟨_,rfl,wpAny_letOwnedTupleGo_enum (s:={ s with heap:=k,toks:=tk }) t1 fun k2 t9 e9=>?_⟩
  replace e9:QH e k k2:=e9;obtain⟨ux,hx1,rx⟩:=r1.get e1
  have eu:u=ux:=by
   have pu':its[i]?=some u:=by simpa using pu
   rw[hx1] at pu';exact(QQ pu').symm
  subst eu
  have elt:∀c∈[e,it],c<s.heap.objs.size:=fun c hc=>by
   simp only[Qk,GB,or_false] at hc;rcases hc with rfl|rfl
   ·exact Qo s1
   ·obtain⟨_,q,_⟩:=IsItr.obj (b:=b) s2;exact Qo q
  have ri:RelV (.int i) (.int i t):=⟨t,rfl⟩
  have I1:Inv X pins σ (upd H s.heap.objs.size (.tup [.int i,x])) { s with heap:=s.heap.push { cls:=.type "tuple",data:=.seq #[.int i t,u] },toks:=s.toks } :=
   I.laid (o:=.tup [.int i,x]) (fun c ob q=>Qh _ q) (Qp _) ⟨by show 2<=Qt;decide,[.int i t,u],.cons ri (.cons rx .nil),⟨_,Qn _ rfl,rfl,_,rfl⟩⟩
  have hf1:∀c∈[e,it],FpOk X pins (upd H s.heap.objs.size (.tup [.int i,x])) c:=fun c hc=>⟨by rw[Ji (QD (elt c hc))];exact(hf c hc).1,(hf c hc).2⟩
  have I2:Inv X pins σ (upd H s.heap.objs.size (.tup [.int i,x])) { s with heap:=k2,toks:=tk }:=Inv.turnedL (s:={ s with heap:=s.heap.push { cls:=.type "tuple",data:=.seq #[.int i t,u] },toks:=s.toks }) I1 (fun c o hc q=>by
   simp only[Qk,GB,or_false,not_or] at hc;refine e9.extBut c o hc.1 ?_
   by_cases hcs:c=s.heap.objs.size
   ·subst hcs;have q':(s.heap.push { cls:=.type "tuple",data:=.seq #[.int i t,u] }).get? s.heap.objs.size=some o:=q;rw[Qn _ rfl] at q';cases q';exact t3
   ·have q':s.heap.get? c=some o:=by have q2:(s.heap.push { cls:=.type "tuple",data:=.seq #[.int i t,u] }).get? c=some o:=q;exact(Rb s.heap c _ hcs).symm.trans q2
    exact t5 c o hc.1 hc.2 q') hf1
  refine⟨.ref s.heap.objs.size,_,I2,rfl,⟨_,x,rfl,I.hok.fresh (Qp _),rfl,fun xs' h1=>?_⟩,⟨⟨u,?_⟩,?_⟩,fun c hc=>(hf1 c hc).1⟩
  ·rw[Sq.inj I h1 q1];exact e1
  ·have ei:((i+1:Nat):Int)=(i:Int)+1:=by omega
   rw[ei];exact t9
  ·exact IsItr.keep (b:=b) t2.1 fun o q=>e9.extBut _ _ (Q3 ne) q
 done:=by
  intro X hP hw hK hc i pins s σ H E I hf st hg;subst hP hw hK;obtain⟨xs,q1,ei⟩:=hg;obtain⟨its,r1,p1⟩:=q1.heap I;obtain⟨⟨old,s1⟩,s2⟩:=st;have hh:X.A.in1.handled=none:=I.ok.hd hc;have D1:=Draws.sq (prog:=X.prog) (w:=X.w) (b:=b) (xs:=its.toArray) hh it (FpOk.off I q1 (hf it (by simp)));have hT:s.TypeIs (.ref e) "enumerate":=⟨_,s1,rfl⟩
  have n1:i=its.toArray.size:=by rw[Qu,<- r1.length];exact ei
  subst n1;unfold pyNext;refine Qa (Kb (QO (name:=GC "__next__") hT LA (QU LA hT F.entry_enumerate_next (Jk1 D1 s1 ⟨s2,p1⟩ fun k x tk kk he=>?_) (Rv _))));obtain⟨o,ho,hoc⟩:=he;refine Qa (Kp (T:="StopIteration") (b:=true) ⟨o,ho,hoc⟩ K9 (Qg ⟨rfl,?_⟩));exact I.turnedL (fun c o hc q=>by simp only[Qk,GB,or_false,not_or] at hc;exact kk c o hc.2 q) hf
 self:=fun _ _ _ _ _ st h=>by obtain⟨⟨old,s1⟩,_⟩:=st;exact wpAny_pyIter_enum s1 h
noncomputable def iEn(K:QE)(ta:TA):TI:=fun σ H R=>ta σ H fun vs H1=>∃(b:Bool) (a:Qj) (xs:List V),vs=[.ref a]/\Sq b K H1 a xs/\R (Ite K b a) H1
def Jai{X:Cx}{K:QE}{elts:List GA}{kk:Nat}{tpos:Pos}{a:GA}{ta:TA}{p pos:Pos}(hK:X.K=K)(hg:Gl X "enumerate")(hm:X.mg "enumerate"=none)(ha:PA X [a] ta)(hs:starEach [a] X.env=[(false,eval a X.env)]:=by rfl)
:PI X (.Tuple elts kk tpos) (.Call (.Name "enumerate" p) [a] [] pos) (iEn K ta):=by
 subst hK;intro pins s σ H R I h;refine Call_ (Uv I hg hm JbE (GY (thn (ha pos pins s σ H _ I h) fun us s1 ⟨vs,H1,I1,r1,q1⟩=>?_) (by rw[hs];rfl) (by rfl)));obtain⟨b,a,xs,e,c1,q⟩:=q1;subst e
 cases r1 with
 | cons r rr =>
 cases rr;cases r;obtain⟨its,w1,p1⟩:=c1.heap I1;refine Jio p1 fun h' t1 t2 kp=>wpAny_pyIter_enum t1 ?_
 refine⟨_,[s1.heap.objs.size+1,s1.heap.objs.size],_,_,H1,rfl,I1.kept (t':=s1.toks) kp,JmM b a _ _ (by simp),⟨⟨_,t1⟩,t2⟩,fun c hc=>?_,q⟩
 have hle:s1.heap.objs.size<=c:=by simp only[Qk,GB,or_false] at hc;rcases hc with rfl|rfl <;> first|exact Qp _|exact Mp _ _
 exact I1.fpOk hle (I1.hok.fresh hle)
end L2
namespace LE
open PySem L2 LR
noncomputable def Jc3(ds:List D):List D:=ds.mapIdx fun i d=>.tup [.int i,d]
noncomputable def Jc7(m:Bool)(as:En->Option (List Sl)):En->Option (List D):=fun E=>(as E).bind fun ss=>match ss with
 | [s]=>(s.it m).map Jc3
 | _=>none
def Jmt(ha:SA K C t ev):SI K C m (iEn K t) (Jc7 m ev):=by
 intro B H0 H σ E ds R I e q;obtain⟨ss,e1,e⟩:=bind_some e;split at e
 ·next s =>
  obtain⟨ds1,e2,e⟩:=GD.mp e;subst e;refine ha B H0 H σ E _ _ I e1 fun vs H1 H1' s1 r1=>?_
  obtain⟨v,rfl,ra⟩:=r1.one;have f:=JF (Hs:=H) s1.i;obtain⟨b1,a1,xs,rfl,k1,w1⟩:=Jhk ra s1.i e2;have hA:m=true->(if m=true then H1' else B)=H1':=fun h=>if_pos h
  have sA:Same (if m=true then H1' else B) H1':=by
   split
   ·exact Same.refl _
   ·exact I.b.trans s1.h
  have st0:SStep (if m=true then H1' else B) (JN H H1 H1') (JN H H1 H1') H1':=⟨sA,Same.refl _,fun _ _ e=>.inl e,f.i⟩
  refine⟨b1,a1,xs,rfl,k1 _ hA _ _ st0,q _ _ _ (s1.comp f fun _ z=>z) ?_⟩;intro H0' H' st;have q1:=k1 _ hA _ _ st;refine⟨fun i d e=>?_,⟨xs,q1,by unfold Jc3;rw[List.length_mapIdx,w1.1]⟩⟩;unfold Jc3 at e;rw[QZ] at e;obtain⟨d1,g1,e⟩:=GD.mp e;subst e;obtain⟨x,x1,x2⟩:=w1.get g1;refine⟨⟨xs,x,q1,x1⟩,?_⟩;rintro z H2 ⟨p,v',rfl,hp,rfl,hv⟩;have h1:=hv xs q1;rw[x1] at h1;cases h1;have h0:H0' p=none:=Same.free st.i hp
  refine⟨upd H0' p (.tup [.int i,x]),⟨.new hp,.new h0,fun a o e=>?_,fun a o e=>?_⟩,?_⟩
  ·by_cases h:a=p
   ·subst h;exact .inr (.inl hp)
   ·rw[Ji h] at e;exact .inl e
  ·by_cases h:a=p
   ·subst h;rw[Jn] at e ⊢;exact e
   ·rw[Ji h] at e ⊢;exact st.i a o e
  ·exact .mkT (.of Jn) (.cons (.int _) (.cons (x2.mono (st.z.trans (.new h0))) .nil))
 ·cases e
def ZF{α:Type}(f:α->D)(xs:List α):Jc3 (xs.map f)=xs.mapIdx fun i x=>.tup [.int i,f x]:=by
 unfold Jc3;refine GX fun i=>?_
 rw[QZ,QZ,Qw,KP];rfl
end LE
namespace L2
open PySem PySem.Spec PyProof.Rows
noncomputable def Yq(ns:List Int):List Int:=ns.mergeSort (fun a b=>decide (a<=b))
def JO(ns:List Int):(Yq ns).Perm ns:=List.mergeSort_perm _ _
def UN(ns:List Int):(Yq ns).Pairwise (·<=·):=by have h:=List.pairwise_mergeSort (le:=fun a b:Int=>decide (a<=b)) (by intro a b c h1 h2;simp only[decide_eq_true_eq] at *;omega) (by intro a b;simp only[MD,decide_eq_true_eq];omega) ns;exact h.imp fun {a b} h=>by simpa using h
theorem WR:∀{xs ys:List Int},xs.Perm ys->xs.Pairwise (·<=·)->ys.Pairwise (·<=·)->xs=ys
 | [],ys,p,_,_=>by rw[List.Perm.nil_eq p]
 | x::xs,ys,p,h1,h2=>by
  cases ys with
  | nil=>exact absurd p.symm (by simp)
  | cons y ys =>
   obtain⟨a1,a2⟩:=QB.mp h1;obtain⟨b1,b2⟩:=QB.mp h2
   have e:x=y:=by
    have hx:x∈y::ys:=p.mem_iff.mp Qc
    have hy:y∈x::xs:=p.mem_iff.mpr Qc;rcases Qk.mp hx with z|z
    ·exact z
    ·rcases Qk.mp hy with w|w
     ·exact w.symm
     ·have:=a1 y w
      have:=b1 x z;omega
   subst e;rw[WR (Xj p) a2 b2]
noncomputable def Jcs(K:QE):List V->Hp->VK->Prop:=fun xs H Q=>∃(a:Qj) (ns:List Int),xs=[.ref a]/\SqL K H a (ns.map V.int)/\ns.length<64/\∀l,H l=none->Q (.ref l) (upd H l (.lst ((Yq ns).map V.int)))
def U0:∀{ns:List Int} {us:List Qe},IntsAre us ns->Vals (ns.map V.int) us:=by
 intro ns us h
 induction h with
 | nil=>exact .nil
 | cons _ _ _ ih=>exact .cons ⟨_,rfl⟩ ih
def JbI:J0 X (.builtin "sorted") (Jcs X.K):=by
 intro pins s σ H xs us Q I r h;obtain⟨p,ns,rfl,hq,hl,q⟩:=h;obtain⟨u,rfl,rx⟩:=Uo r;cases rx;obtain⟨its,r',pl,hz⟩:=I.list hq;have hlen:=r'.length;rw[Qm] at hlen hz;refine sorted_ints pl.isList (YR r') (by omega) fun out ns' a1 a2 a3=>?_
 have es:ns'=Yq ns:=WR (a2.trans (JO ns).symm) a3 (UN ns);subst es;obtain⟨e,he⟩:=sortedAll_at s.heap its out
 have hn:((Yq ns).map V.int).length<=Qt:=by rw[Qm,(JO ns).length_eq];exact hz
 have hne:H (s.heap.objs.size+1)=none:=I.hok.fresh (LH _);refine⟨.ref (s.heap.objs.size+1),_,I.laid (t':=s.toks) (fun b o x=>sortedAll_old x) (LH _) (show ObjOk X.prog X.w _ _ _ (.lst ((Yq ns).map V.int)) from⟨hn,out.toList,e,U0 a1,?_⟩),rfl,q _ hne⟩;rw[he]
def JbH{X:Cx}{K:QE}(hK:X.K=K)(hc:X.calm=true):J0 X (.builtin "sorted") (Jcs K):=hK▸JbI
end L2
namespace LE
open PySem L2 LR
noncomputable def Zf:List Sl->Option Sl
 | [s]=>s.r.bind fun ds=>(ints? ds).bind fun ns=>if ns.length<64 then some (.own ((Yq ns).map .int)) else none
 | _=>none
def JdK(ns:List Int):RDL K C H (ns.map V.int) (ns.map D.int):=by refine⟨by simp,fun i x d h1 h2=>?_⟩;rw[Qw] at h1 h2;obtain⟨n,e,rfl⟩:=GD.mp h1;rw[e] at h2;cases h2;exact .int n
def Jin:VG K C (Jcs K) Zf:=by
 intro Hs H0 H xs as c Q i hs r e q;unfold Zf at e;split at e
 ·obtain⟨v,rfl,r0⟩:=r.one;obtain⟨ds,e1,e⟩:=bind_some e;obtain⟨ns,e2,e⟩:=bind_some e;split at e
  ·next hn=>cases e;obtain⟨l,ys,rfl,h,r1⟩:=r0.r i e1;rw[YI e2] at r1;have:=r1.ints;subst this;exact⟨l,ns,rfl,h,hn,fun p hp=>YV i hs hp (JdK _) q⟩
  ·cases e
 ·cases e
end LE
namespace PySem
namespace F
end F
end PySem
namespace L2
open PySem PySem.Spec PyProof.Rows
end L2
namespace LE
open PySem L2 LR
end LE
namespace PySem
namespace F
end F
end PySem
namespace L2
open PySem PySem.Spec PyProof.Rows
end L2
namespace LE
open PySem L2 LR
end LE
namespace L2
open PySem PySem.Spec PyProof.Rows
noncomputable def Jbv(X:Cx)(f:Qe)(nm:Str)(z:V)(r:List V->Hp->VK->Prop):Prop :=
 ∀(pins:List (Qj×Obj)) (s:Qi) (σ:St) (H:Hp) (xs:List V) (us:List Qe) (w:Qe) (Q:VK),Inv X pins σ H s->Vals xs us->RelV z w->r xs H Q->wpAny (model X.prog X.w) X.A (call f us [(nm,w)]) (EP X pins σ Q) X.xe s
def JhJ{X:Cx}{id:String}{nm x:Str}{z:V}{r:List V->Hp->VK->Prop}{e ek:GA}{es:List GA}{t:TA}{p pos kpos:Pos}(hc:Jbv X (.builtin id) nm z r)(hg:Gl X x)(hm:X.mg x=none)(hv:bootBuiltins x=some (.builtin id))(ha:PA X (e::es) t)(hk:PE X ek (tC z))
 (hn:x≠"__name__":=by decide) (hdb:(x == ("__debug__":Str))=false:=by decide)
 (he:backTo pos (starEach (e::es) X.env)=(false,eval e X.env)::backTo pos (starEach es X.env):=by rfl) (hpl:(backTo pos (starEach (e::es) X.env)).any (·.1)=false:=by rfl):PE X (.Call (.Name x p) (e::es) [⟨some nm,ek,kpos⟩] pos) (tCB r t):=by
 intro pins s σ H Q I h;refine Lk (Uv I hg hm hv ?_ hn hdb);refine callWith_kw (thn (ha pos pins s σ H _ I h) fun us s1 ⟨vs,H1,I1,r1,q1⟩=>?_) he hpl rfl rfl;refine kws_cons (thn (hk pins s1 σ H1 (fun v H2=>v=z/\r vs H2 Q) I1 ⟨rfl,q1⟩) fun w s2 ⟨v,H2,I2,rz,e2,q2⟩=>kws_nil ?_);subst e2;exact hc pins s2 σ H2 vs us w Q I2 r1 rz q2
end L2
namespace LE
open PySem L2 LR
end LE
namespace PySem
def Jdn(a v:Qe):argsOk "min" ⟨[a],[(GC "default",v)]⟩:=by unfold argsOk;kernel_rfl
def JhB(W:Walks prog w A.in1 I fp wr n P St)(bt:Nat->Nat->Bool)(cm:CmpOf prog w A.in1 .Lt P bt)(S:Qj)(nS:S∉fp)(d:Qe) :
 ∀(k j:Nat) (s:Qi) (c:Nat) (arr:Array Qe),n-j=k->j<=n->St j s.heap->((j=0/\arr=#[])\/∃vb,0<j/\arr=#[vb,vb]/\P (argBest bt (j-1)) vb) ->
 s.heap.get? S=some { cls:=.type "list",dict:=none,data:=.seq arr c,slots:=#[] } ->
 (n=0->∀h' tk,(∀b o,b∉wr->b≠S->s.heap.get? b=some o->h'.get? b=some o)->R (.ok (.ret d)) { s with heap:=h',toks:=tk }) ->
 (0<n->∀v h' tk,P (argBest bt (n-1)) v->(∀b o,b∉wr->b≠S->s.heap.get? b=some o->h'.get? b=some o)->R (.ok (.ret v)) { s with heap:=h',toks:=tk }) ->
 codeAny (model prog w) A (.builtin "min.loop" ⟨[.ref I,.none,.ref S],[(GC "default",d)]⟩) R s:=by
 have nW:S∉wr:=fun h=>nS (W.sub _ h)
 have nm:(toString "min"++toString ".loop":String)="min.loop":=by decide
 intro k
 induction k with
 | zero =>
  intro j s c arr hk hj st best hS h0 h1;have ej:j=n:=by omega
  subst ej;refine G9 F.entry_min_loop ?_;rw[GJ Lb _];rcases best with ⟨e0,rfl⟩|⟨vb,jp,rfl,pb⟩
  ·show wpAny _ A.in1 (seqItems? (.ref S) >>= _) _ _ s;refine Qa (GW hS rfl (show wpAny _ A.in1 (tryCatch (pyNext (.ref I)) _ >>= _) _ _ s from Qa (Mh (W.done s _ _ st fun h' tk hk'=>?_))));exact Qa (KH (Qg (h0 e0 h' tk fun b o b1 _ e=>hk' b o b1 e)))
  ·show wpAny _ A.in1 (seqItems? (.ref S) >>= _) _ _ s;refine Qa (GW hS rfl (show wpAny _ A.in1 (tryCatch (pyNext (.ref I)) _ >>= _) _ _ s from Qa (Mh (W.done s _ _ st fun h' tk hk'=>?_))))
   have hS':=hk' S _ nW hS
   show wpAny _ A.in1 (updateSeq S (fun _=>#[]) >>= _) _ _ _;refine Qa (Ku hS' rfl (Qa (Lg (Qg ?_))));exact h1 jp vb _ tk pb fun b o b1 b2 e=>(Gb _ _ (Q3 b2)).trans (hk' b o b1 e)
 | succ k ih =>
  intro j s c arr hk hj st best hS h0 h1;have lt:j<n:=by omega
  refine G9 F.entry_min_loop ?_;rw[GJ Lb _];have nz:n=0->∀{s':Qi} h' tk,(∀b o,b∉wr->b≠S->s'.heap.get? b=some o->h'.get? b=some o)->R (.ok (.ret d)) { s' with heap:=h',toks:=tk }:=fun z=>absurd z (by omega)
  rcases best with ⟨e0,rfl⟩|⟨vb,jp,rfl,pb⟩
  ·subst e0;show wpAny _ A.in1 (seqItems? (.ref S) >>= _) _ _ s;refine Qa (GW hS rfl (show wpAny _ A.in1 (tryCatch (pyNext (.ref I)) _ >>= _) _ _ s from Qa (Mh (W.item 0 s _ _ lt st fun v h' tk pv st' hk'=>?_))));have hS':=hk' S _ nW hS;show wpAny _ A.in1 (updateSeq S (fun _=>#[v,v]) >>= _) _ _ _;refine Qa (Ku hS' rfl ?_);rw[nm];refine Qg ⟨Ki Lb _,ih 1 _ _ _ (by omega) (by omega) (W.frame _ _ _ st' fun b bf o e=>?_) (.inr ⟨v,by omega,rfl,pv⟩) (Gg _ hS' rfl) (fun z=>nz z) fun np v' h2 t2 pv' k2=>?_⟩
   ·exact(Gb _ _ (fun h:S=b=>nS (by rw[h];exact bf))).trans e
   ·exact h1 np v' h2 t2 pv' fun b o b1 b2 e=>k2 b o b1 b2 ((Gb _ _ (Q3 b2)).trans (hk' b o b1 e))
  ·show wpAny _ A.in1 (seqItems? (.ref S) >>= _) _ _ s;refine Qa (GW hS rfl (show wpAny _ A.in1 (tryCatch (pyNext (.ref I)) _ >>= _) _ _ s from Qa (Mh (W.item j s _ _ lt st fun v h' tk pv st' hk'=>?_))))
   have hS':=hk' S _ nW hS
   have ea:argBest bt j=if bt j (argBest bt (j-1))=true then j else argBest bt (j-1):=by
    obtain⟨i,rfl⟩:∃i,j=i+1:=⟨j-1,by omega⟩
    rfl
   show wpAny _ A.in1 (tryCatch (holding [v,v] (richCompare .Lt v vb >>= _)) _ >>= _) _ _ _;refine Qa (Mh (GI (Qa (cm j (argBest bt (j-1)) v vb _ _ _ pv pb (Qa (GI (KU (Qa (Lg (Qg ?_))))))))))
   cases hb:bt j (argBest bt (j-1)) with
   | true =>
    simp only[if_true];refine Qa (Ku hS' rfl (Qa (Lg ?_)));rw[nm];refine Qg ⟨Ki Lb _,ih (j+1) _ _ _ (by omega) (by omega) (W.frame _ _ _ st' fun b bf o e=>?_) (.inr ⟨v,by omega,rfl,?_⟩) (Gg _ hS' rfl) (fun z=>nz z) fun np v' h2 t2 pv' k2=>?_⟩
    ·exact(Gb _ _ (fun h:S=b=>nS (by rw[h];exact bf))).trans e
    ·rw[Nat.add_sub_cancel,ea,hb,if_pos rfl];exact pv
    ·exact h1 np v' h2 t2 pv' fun b o b1 b2 e=>k2 b o b1 b2 ((Gb _ _ (Q3 b2)).trans (hk' b o b1 e))
   | false =>
    simp only[G7,if_false];refine Qa (Lg ?_);rw[nm];refine Qg ⟨Ki Lb _,ih (j+1) _ c _ (by omega) (by omega) st' (.inr ⟨vb,by omega,rfl,?_⟩) hS' (fun z=>nz z) fun np v' h2 t2 pv' k2=>?_⟩
    ·rw[Nat.add_sub_cancel,ea,hb,if_neg Qx];exact pb
    ·exact h1 np v' h2 t2 pv' fun b o b1 b2 e=>k2 b o b1 b2 (hk' b o b1 e)
def Jdo(hh:A.handled=none)(hl:s.heap.IsList l (intItems xs))(h0:xs.size=0->∀h' tk,(∀b o,s.heap.get? b=some o->h'.get? b=some o)->Q d { s with heap:=h',toks:=tk })(h1:0<xs.size->∀v h' tk,(intItems xs)[argBest (fun i j=>decide (numAt xs i<numAt xs j)) (xs.size-1)]?=some v->(∀b o,s.heap.get? b=some o->h'.get? b=some o)->Q v { s with heap:=h',toks:=tk }):
 wpAny (model prog w) A (call (.builtin "min") [.ref l] [(GC "default",d)]) Q E s:=by
 have nm:(toString "min"++toString ".loop":String)="min.loop":=by decide
 have sz:(intItems xs).size=xs.size:=by simp[intItems]
 refine PyProof.Rows.kmk_tree F.kind_min F.plain_min F.entry_min (Jdn _ _) ?_;show wpAny _ A.in1 (MN "min" ["key","default"] 0 ⟨[],[(GC "default",d)]⟩ >>= _) _ _ s;refine Qa (KB (show MN "min" ["key","default"] 0 ⟨[],[(GC "default",d)]⟩=pure [none,some d] from rfl) ?_);refine Qa (Qg ?_);refine Qa (iter_intList hl fun s₂ e st hfp hlI=>?_);subst e;refine Qa (QW ?_)
 rw[nm];have W:=Walks.list (prog:=prog) (w:=w) (A:=A.in1) hh _ l hlI (intItems xs);have fpS:(s.heap.push { cls:=.type "list_iterator",data:=.fields #[.ref l,.int 0 0] }).objs.size∉[s.heap.objs.size,l]:=fun hm=>Gr _ (hfp _ hm)
 refine Qg ⟨Ki Lb _,JhB W (fun i j=>decide (numAt xs i<numAt xs j)) (CmpOf.ints_lt (numAt xs) (fun _ _=>intItems_at)) _ fpS d _ 0 _ _ #[] rfl (GP _) (W.frame _ _ _ st fun b _ o e=>Qh _ e) (.inl ⟨rfl,rfl⟩) (Qn _ rfl) (fun z h' tk k=>?_) fun z v h' tk pv k=>?_⟩
 ·exact h0 (by rw[<- sz];exact z) h' tk (old_kept fun b o b1 e=>k b o b1 (QD (Qo e)) (Qh _ e))
 ·exact h1 (by rw[<- sz];exact z) v h' tk (by rw[sz] at pv;exact pv) (old_kept fun b o b1 e=>k b o b1 (QD (Qo e)) (Qh _ e))
end PySem
namespace L2
open PySem PySem.Spec PyProof.Rows
noncomputable def JjQ(K:QE):List V->Hp->VK->Prop:=fun xs H Q=>∃(a:Qj) (ns:List Int),xs=[.ref a]/\SqL K H a (ns.map V.int)/\(ns=[]->Q .non H)/\∀M,M∈ns->(∀b,b∈ns->M<=b)->Q (.int M) H
def Jg7(hc:X.calm=true):Jbv X (.builtin "min") "default" .non (JjQ X.K):=by
 intro pins s σ H xs us w Q I r rz h;obtain⟨a,ns,rfl,hq,q0,q⟩:=h;obtain⟨u,rfl,rx⟩:=Uo r;cases rx;cases rz;obtain⟨its,rv,p,hz⟩:=I.list hq;have hi:=YR rv;have hl:=p.isList;obtain⟨xs,e⟩:=hi.allInts.items;have hns:ns=xs.toList.map (·.1):=by rw[<- hi.numsOf,<- nums_intItems,<- e]
 rw[e] at hl;refine Jdo (I.ok.hd hc) hl (fun z h' tk hk=>?_) fun z v h' tk hv hk=>?_
 ·refine⟨.non,H,I.kept hk,rfl,q0 ?_⟩;rw[hns];exact QA (by rw[Qm,QN];exact z)
 ·obtain⟨t,rfl⟩:=intItems_at hv;obtain⟨h1,h2⟩:=argBest_lt (numAt xs) (xs.size-1);refine⟨.int _,H,I.kept hk,⟨t,rfl⟩,q _ ?_ fun a ha=>?_⟩
  ·rw[hns,numAt_eq];exact getD_mem (by rw[Qm,QN];omega)
  ·rw[hns] at ha;obtain⟨j,hj,rfl⟩:=mem_getD ha;rw[Qm,QN] at hj;rw[<- numAt_eq];exact h2 j (by omega)
def Jep{X:Cx}{K:QE}(hK:X.K=K)(hc:X.calm=true):Jbv X (.builtin "min") "default" .non (JjQ K):=hK▸Jg7 hc
end L2
namespace LE
open PySem L2 LR
noncomputable def JfR:List Sl->Option Sl
 | [s]=>s.r.bind fun ds=>(ints? ds).map fun ns=>match ns.min? with
  | some m=>.sh (.int m)
  | none=>.sh .non
 | _=>none
def JnP:VG K C (JjQ K) JfR:=by
 intro Hs H0 H xs as c Q i hs r e q;unfold JfR at e;split at e
 ·obtain⟨v,rfl,r0⟩:=r.one;obtain⟨ds,e1,e⟩:=bind_some e;obtain⟨ns,e2,rfl⟩:=map_some e;obtain⟨l,ys,rfl,h,r1⟩:=r0.r i e1;rw[YI e2] at r1;have:=r1.ints;subst this;refine⟨l,ns,rfl,h,fun z=>?_,fun M hM hb=>?_⟩
  ·subst z;exact q _ _ _ (.refl i) RD.non
  ·have hm:ns.min?=some M:=RS.mpr ⟨hM,hb⟩;rw[hm] at q;exact q _ _ _ (.refl i) (RD.int _)
 ·cases e
noncomputable def look{α:Type}:List Int->List α->Int->Option α
 | k::ks,d::ds,n=>if k=n then some d else look ks ds n
 | _,_,_=>none
noncomputable def VQ(ks:List Int)(n:Int):Bool:=ks.any fun k=>decide (k=n)
noncomputable def Jv(ks:List Int)(n:Int):List Int:=if VQ ks n=true then ks else ks++[n]
noncomputable def setK{α:Type}:List Int->List α->Int->α->List α
 | k::ks,d::ds,n,v=>(if k=n then v else d)::setK ks ds n v
 | _,ds,_,_=>ds
noncomputable def putDs{α:Type}(ks:List Int)(ds:List α)(n:Int)(v:α):List α:=if VQ ks n=true then setK ks ds n v else ds++[v]
theorem JdP{α:Type}(n:Int)(v:α):∀(ks:List Int) (ds:List α),(setK ks ds n v).length=ds.length
 | [],_=>rfl
 | _::_,[]=>rfl
 | _::ks,_::ds=>by simp[setK,JdP n v ks ds]
def Jbl{α:Type}(ks:List Int)(ds:List α)(n:Int)(v:α)(h:ks.length=ds.length):(Jv ks n).length=(putDs ks ds n v).length:=by unfold Jv putDs;split <;> simp[JdP,h]
theorem YU:∀(ks:List Int) (xs:List V) (n:Int),Um ((ks.map Sum.inl:List Key).zip xs) (Sum.inl n)=look ks xs n
 | [],_,_=>rfl
 | _::_,[],_=>rfl
 | k::ks,x::xs,n=>by
  show Um (((Sum.inl k:Key),x)::(ks.map Sum.inl:List Key).zip xs) (Sum.inl n)=_
  by_cases h:k=n
  ·rw[Vq (by rw[h]),look,if_pos h]
  ·rw[Vp (fun e=>h (RZ e)),look,if_neg h];exact YU ks xs n
theorem JcN:∀(ks:List Int) (xs:List V) (n:Int),ks.length=xs.length->(((ks.map Sum.inl:List Key).zip xs).any fun kv=>decide (kv.1=(Sum.inl n:Key)))=VQ ks n
 | [],_,_,_=>rfl
 | _::_,[],_,h=>by simp at h
 | k::ks,x::xs,n,h=>by
  show(decide ((Sum.inl k:Key)=Sum.inl n) || ((ks.map Sum.inl:List Key).zip xs).any _)=(decide (k=n) || ks.any _)
  rw[JcN ks xs n (by simpa using h)];congr 1
  by_cases e:k=n
  ·subst e;simp
  ·rw[decide_eq_false e,decide_eq_false fun z=>e (RZ z)]
theorem Jdl:∀(ks:List Int) (xs:List V) (n:Int) (v:V),ks.length=xs.length->(((ks.map Sum.inl:List Key).zip xs).map fun kv=>if kv.1=(Sum.inl n:Key) then(kv.1,v) else kv)=(ks.map Sum.inl:List Key).zip (setK ks xs n v)
 | [],_,_,_,_=>rfl
 | _::_,[],_,_,h=>by simp at h
 | k::ks,x::xs,n,v,h=>by
  show(if (Sum.inl k:Key)=Sum.inl n then((Sum.inl k:Key),v) else(Sum.inl k,x))::((ks.map Sum.inl:List Key).zip xs).map _=(Sum.inl k,if k=n then v else x)::(ks.map Sum.inl:List Key).zip (setK ks xs n v);rw[Jdl ks xs n v (by simpa using h)];congr 1
  by_cases e:k=n
  ·subst e;simp
  ·rw[if_neg e,if_neg fun z=>e (RZ z)]
def JdG(ks:List Int)(xs:List V)(n:Int)(v:V)(h:ks.length=xs.length):(HO.dK (UJ ((ks.map Sum.inl:List Key).zip xs) (Sum.inl n) v))=dkO (Jv ks n) (putDs ks xs n v):=by
 unfold dkO UJ Jv putDs;rw[JcN ks xs n h];split
 ·rw[Jdl ks xs n v h]
 ·rw[QF,MC (by simpa using h)];rfl
theorem RDL.look:∀{ks:List Int} {xs:List V} {ds:List D} {n:Int},RDL K C H xs ds->(LE.look ks xs n=none/\LE.look ks ds n=none)\/∃x d,LE.look ks xs n=some x/\LE.look ks ds n=some d/\RD K C H x d
 | [],_,_,_,_=>.inl ⟨rfl,rfl⟩
 | _::_,[],[],_,_=>.inl ⟨rfl,rfl⟩
 | _::_,[],_::_,_,h=>by have:=h.1;simp at this
 | _::_,_::_,[],_,h=>by have:=h.1;simp at this
 | k::ks,x::xs,d::ds,n,h=>by
  simp only[LE.look]
  by_cases e:k=n
  ·rw[if_pos e,if_pos e];exact .inr ⟨x,d,rfl,rfl,h.head⟩
  ·rw[if_neg e,if_neg e];exact RDL.look h.tail
theorem RDL.setK(r:RD K C H v e):∀{ks:List Int} {xs:List V} {ds:List D},RDL K C H xs ds->RDL K C H (LE.setK ks xs n v) (LE.setK ks ds n e)
 | [],_,_,h=>h
 | _::_,[],[],_=>.nil
 | _::_,[],_::_,h=>by have:=h.1;simp at this
 | _::_,_::_,[],h=>by have:=h.1;simp at this
 | k::ks,x::xs,d::ds,h=>by
  simp only[LE.setK];refine .cons ?_ (RDL.setK r h.tail);split
  ·exact r
  ·exact h.head
def RDL.putDs{n:Int}{v:V}{e:D}{ks:List Int}{xs:List V}{ds:List D}(h:RDL K C H xs ds)(r:RD K C H v e):RDL K C H (LE.putDs ks xs n v) (LE.putDs ks ds n e):=by
 unfold LE.putDs;split
 ·exact RDL.setK r h
 ·exact h.snoc r
def JoF{p:Qj}{ks:List Int}{xs:List V}{ds:List D}{Q:VK}(i:Same H0 H)(hs:Same Hs H)(hp:H p=none)(hk:ks.length=ds.length)(r:RDL K C H0 xs ds)(q:∀v H0' H',Step Hs H0 H H0' H'->RR K C Hs H0' H' v (.od ks ds)->Q v H'):Q (.ref p) (upd H p (dkO ks xs)) :=
 q _ H0 _ ⟨.new hp,Same.refl _,fun _ _ e=>.inl e,i.trans (.new hp)⟩ ⟨p,xs,rfl,Jn,Same.free i hp,Same.free hs hp,hk,r⟩
noncomputable def Sl.dk:Sl->Option (List Int×List D)
 | .sh (.dct ks ds)=>some (ks,ds)
 | .sh (.dfz ks ds)=>some (ks,ds)
 | .bd ks ds=>some (ks,ds)
 | .od ks ds=>some (ks,ds)
 | _=>none
noncomputable def int?:Sl->Option Int
 | .sh (.int i)=>some i
 | _=>none
noncomputable def Ja5:Ev:=fun _=>some (.od [] [])
noncomputable def JkZ(a k:Ev):Ev:=fun E=>(a E).bind fun s=>s.dk.bind fun p=>((k E).bind int?).bind fun n=>(look p.1 p.2 n).map .sh
noncomputable def Jev(a k x:Ev):Ev:=fun E=>(a E).bind fun s=>s.dk.bind fun p=>((k E).bind int?).bind fun n=>((x E).bind sh?).bind fun d=>some (.sh ((look p.1 p.2 n).getD d))
noncomputable def Jbs(i:Nat)(k a:Ev):Es:=fun E=>match E[i]? with
 | some (.od ks ds)=>(a E).bind fun s=>s.frz.bind fun d=>((k E).bind int?).bind fun n=>if ks.length<Qt then some (.nx (E.set i (.od (Jv ks n) (putDs ks ds n d)))) else none
 | _=>none
def Uh(e:int? s=some n):s=.sh (.int n):=by
 cases s with
 | sh d=>cases d with
  | int i=>cases e;rfl
  | _=>cases e
 | _=>cases e
def RR.dk(r:RR K C Hs H0 H v s)(i:Same H0 H)(e:s.dk=some p):∃l xs,v=.ref l/\Rd H l (dkO p.1 xs)/\p.1.length=p.2.length/\RDL K C H0 xs p.2:=by
 cases s with
 | bd ks ds=>cases e;obtain⟨l,xs,h1,h2,h3⟩:=r;exact⟨l,xs,h1,.inl h2,h3⟩
 | od ks ds=>cases e;obtain⟨l,xs,h1,h2,_,_,h3⟩:=r;exact⟨l,xs,h1,.inl h2,h3⟩
 | bt _ _=>cases e
 | ot _ _=>cases e
 | sh d=>cases d with
  | dct ks ds=>cases e;obtain⟨l,xs,h1,h2,h3⟩:=RD.dctI r;exact⟨l,xs,h1,.inl (i _ _ h2),h3⟩
  | dfz ks ds=>cases e;obtain⟨l,xs,o,h1,h2,h3⟩:=RD.dfzI r;exact⟨l,xs,h1,.inr ⟨o,i _ _ h2⟩,h3⟩
  | _=>cases e
 | _=>cases e
def Jqk(h:Rd H l (dkO ks xs)):JgV H l (.int n) (look ks xs n):=.inl ⟨_,Sum.inl n,h,rfl,(YU ks xs n).symm⟩
def Jj5:SE K C Jkl Ja5:=by intro B H0 H σ E r Q I e q;cases e;intro p hp;exact JoF (ks:=[]) (xs:=[]) (Hs:=H) I.h (Same.refl _) hp rfl .nil q
def Jrk(ha:SE K C td ed)(hk:SE K C ty ek):SE K C (JnA td ty) (JkZ ed ek):=by
 intro B H0 H σ E r Q I e q;obtain⟨s,e1,e⟩:=bind_some e;obtain⟨p,e2,e⟩:=bind_some e;obtain⟨n,e3,e⟩:=bind_some e;obtain⟨t,e3,e4⟩:=bind_some e3;obtain rfl:=Uh e4;obtain⟨d,e5,rfl⟩:=map_some e;refine ha B H0 H σ E s _ I e1 fun x H1 H1' s1 r1=>hk B H1 H1' σ E _ _ (I.step s1) e3 fun y H2 H2' s2 r2=>?_
 obtain⟨l,xs,rfl,h,_,rl⟩:=(r1.step s2).dk s2.i e2;rw[RD.intI r2];rcases RDL.look (ks:=p.1) (n:=n) rl with ⟨_,z⟩|⟨v,d',z1,z2,z3⟩
 ·rw[z] at e5;cases e5
 ·rw[z2] at e5;cases e5;exact⟨l,v,rfl,z1▸Jqk h,q _ _ _ (s1.trans s2) z3⟩
def Jmr(ha:SE K C td ed)(hk:SE K C ty ek)(hx:SE K C tx ex):SE K C (Jfj td ty tx) (Jev ed ek ex):=by
 intro B H0 H σ E r Q I e q;obtain⟨s,e1,e⟩:=bind_some e;obtain⟨p,e2,e⟩:=bind_some e;obtain⟨n,e3,e⟩:=bind_some e;obtain⟨t,e3,e4⟩:=bind_some e3;obtain rfl:=Uh e4;obtain⟨d,e5,e⟩:=bind_some e;obtain⟨t',e5,e6⟩:=bind_some e5;obtain rfl:=Wm e6;cases e;refine ha B H0 H σ E s _ I e1 fun x H1 H1' s1 r1=>?_
 obtain⟨l0,xs0,rfl,h0,_,_⟩:=r1.dk s1.i e2;refine⟨l0,rfl,.inl ⟨_,h0⟩,hk B H1 H1' σ E _ _ (I.step s1) e3 fun y H2 H2' s2 r2=>hx B H2 H2' σ E _ _ ((I.step s1).step s2) e5 fun z H3 H3' s3 r3=>?_⟩;obtain⟨l,xs,hl,h,_,rl⟩:=((r1.step s2).step s3).dk s3.i e2;cases hl;rw[RD.intI r2];refine⟨_,Jqk h,q _ _ _ ((s1.trans s2).trans s3) ?_⟩;rcases RDL.look (ks:=p.1) (n:=n) rl with ⟨z1,z2⟩|⟨v,d',z1,z2,z3⟩
 ·rw[z1,z2];exact r3
 ·rw[z1,z2];exact z3
def JpY(ha:SE K C te ea)(hk:SE K C ty ek):SS K C (Jj4 (V2 i) ty te) (Jbs i ek ea):=by
 intro B H0 H σ E o D I e f;unfold Jbs at e;split at e
 ·next ks ds h =>
  obtain⟨s,e1,e⟩:=bind_some e;obtain⟨d,e2,e⟩:=bind_some e;obtain⟨n,e3,e⟩:=bind_some e;obtain⟨t,e3,e4⟩:=bind_some e3;obtain rfl:=Uh e4;split at e
  ·next hz =>
   cases e;obtain⟨l,xs,g1,g2,g3,g4,gk,g5⟩:=I.slotD h;refine ha B H0 H σ E _ _ I e1 fun v H1 H1' s1 r1=>?_
   have s2:Step H H0 H (JN H H1 H1') H1':=s1.comp (JF s1.i) fun _ z=>z
   have rv:=RR.frz s1.i r1 e2;refine⟨_,g1,?_⟩;refine hk B _ H1' σ E _ _ (I.step s2) e3 fun w H3 H3' s3 r3=>?_
   have s4:=s2.trans s3
   have hx:ks.length=xs.length:=gk.trans g5.1.symm;obtain⟨_,n0,nB⟩:=(I.step s4).ownG h rfl g1
   have rr:=(g5.mono s4.z).putDs (ks:=ks) (n:=n) (rv.mono s3.z)
   have m:=(I.step s4).mutG (t':=.od (Jv ks n) (putDs ks ds n d)) (o':=dkO (Jv ks n) (putDs ks xs n v)) h rfl rfl g1 ⟨l,_,rfl,Jn,n0,nB,Jbl _ _ _ _ gk,rr⟩;rw[RD.intI r3];refine⟨l,_,rfl,.inl ⟨_,Sum.inl n,s4.h _ _ g2,rfl,?_,rfl⟩,?_⟩
   ·rw[GG,Qm,<- hx,Ll];exact hz
   ·rw[JdG ks xs n v hx];exact f _ _ _ ⟨m.b,s4.z,(s4.ss I.b).n,m.h⟩ m
  ·cases e
 ·cases e
noncomputable def JeD(x y:Sl):Option Sl:=x.m.bind fun ds=>(int? y).bind fun k=>if JeJ k=true/\ds.length*k.toNat<=Qt then some (.own (QM k.toNat ds).flatten) else none
theorem RDL.rep(r:RDL K C H xs ds):∀k:Nat,RDL K C H (QM k xs).flatten (QM k ds).flatten
 | 0=>.nil
 | k+1=>by rw[GH,GH,KC,KC];exact r.append (RDL.rep r k)
def JqW:OpS K C Jrb JeD:=by
 intro Hs H0 H x y a b c Q i hs ra rb e q;obtain⟨ds,e1,e⟩:=bind_some e;obtain⟨k,e2,e3⟩:=bind_some e;have hb:=Uh e2;subst hb;split at e3
 ·next hz=>cases e3;obtain⟨l,us,rfl,h1,r1⟩:=ra.m i e1;obtain⟨b1,b2⟩:=Jb2 hz.1;exact⟨l,k,us,rfl,RD.intI rb,h1,by omega,by omega,by rw[r1.1];exact hz.2,fun p hp=>YV i hs hp (r1.rep k.toNat) q⟩
 ·cases e3
def ZJ{d:D}{s:Sl}{k:Int}(e:s.m=some [d])(h1:JeJ k=true)(h2:k.toNat<=16777216):JeD s (.sh (.int k))=some (.own (QM k.toNat d)):=by
 unfold JeD;rw[e,QK];show(some k).bind _=_;rw[QK,if_pos ⟨h1,by rw[Q0,Nat.one_mul];exact h2⟩];congr 2
 generalize k.toNat=n
 induction n with
 | zero=>rfl
 | succ n ih=>rw[GH,KC,ih];rfl
end LE
namespace L2
open PySem PySem.Spec PyProof.Rows
noncomputable def JnB(i:Nat)(t:TS):TS:=fun D σ H=>∃a kvs,σ[i]?=some (some (.ref a))/\H a=some (.dK kvs)/\∀o,t D σ (upd H a (.frz o (.dK kvs)))
def Inv.freeze{X:Cx}{pins:List (Qj×Obj)}{σ:St}{H:Hp}{s:Qi}{a:Qj}{kvs:List (Key×V)}(I:Inv X pins σ H s)(e:H a=some (.dK kvs)):∃o,Inv X pins σ (upd H a (.frz o (.dK kvs))) s:=by
 obtain⟨z,y,vs,r,ob,es,ep,e1,c⟩:=(show ObjOk X.prog X.w H s.heap a (.dK kvs) from I.hok a _ e)
 have:=I.write (x:=a) (e:=a) (o:=.frz ob (.dK kvs)) (h':=s.heap) (t':=s.toks) (by rw[e];trivial) (.inl rfl) (fun b u _ q=>q) ⟨ob,e1⟩ ⟨e1,z,y,vs,r,ob,es,ep,e1,c⟩;exact⟨ob,this⟩
def Jl7{X:Cx}{st:Kv}{t:TS}(i:Nat)(h:PS X st t):PS X st (JnB i t):=by intro pins s σ H D I ⟨a,kvs,e1,e2,q⟩;obtain⟨o,I'⟩:=I.freeze e2;exact h pins s σ _ D I' (q o)
noncomputable def Itd(a:Qj)(o:Obj)(kvs:List (Key×V)):It :=
 ⟨fun i H=>H a=some (.frz o (.dK kvs))/\∃p,kvs[i]?=some p,
  fun i H x H'=>∃t k v,x=.ref t/\H t=none/\kvs[i]?=some (k,v)/\H'=upd H t (.tup [kV k,v]),
  fun i H=>H a=some (.frz o (.dK kvs))/\i=kvs.length⟩
def Ji8(h:(JH P w).is k u=true):RelV (kV k) u:=by
 rcases JS (show WX k u=true from h) with ⟨i,t,rfl,rfl⟩|⟨x,t,rfl,rfl⟩
 ·exact⟨t,rfl⟩
 ·exact⟨t,rfl⟩
theorem KV.get{κ:Type}:∀{kvs:List (κ×V)} {vs:List (κ×Qe)} {i:Nat} {p:κ×V},KV kvs vs->kvs[i]?=some p->∃u,vs[i]?=some (p.1,u)/\RelV p.2 u
 | _,_,0,p,.cons h _,e=>by simp at e;subst e;obtain⟨h1,h2⟩:=h;rename_i q _ _;exact⟨_,by simp;exact Mt h1.symm rfl,h2⟩
 | _,_,i+1,p,.cons _ t,e=>by obtain⟨u,h1,h2⟩:=KV.get (i:=i) t (by simpa using e);exact⟨u,by simpa using h1,h2⟩
 | _,_,_,_,.nil,e=>by simp at e
def Zz{X:Cx}{pins:List (Qj×Obj)}{σ:St}{H:Hp}{s:Qi}{a:Qj}{o:Obj}{kvs:List (Key×V)}{es:Array DictEntry}{ep:Nat}(I:Inv X pins σ H s)(h:H a=some (.frz o (.dK kvs)))(hd:o.data=.dict es ep) :
 ∃vs,KV kvs vs/\s.heap.DictAt (JH X.prog X.w) a vs ep/\(a == sysModules)=false:=by
 obtain⟨e0,z,y,vs,r,ob,es',ep',e1,c1,c2,c3⟩:=(show ObjOk X.prog X.w H s.heap a (.frz o (.dK kvs)) from I.hok a _ h)
 rw[e0] at e1;cases e1;rw[hd] at c2;cases c2;exact⟨vs,r,⟨o,es,e0,c1,hd,c3⟩,y⟩
def Jfl{P:Qz}{w:QT}{K:QE}{elts:List GA}{kk:Nat}{pos:Pos}(a it:Qj)(o:Obj)(kvs:List (Key×V))(es:Array DictEntry)(ep:Nat)(hd:o.data=.dict es ep) :
 Turn P w K (.Tuple elts kk pos) (Itd a o kvs) [it] it (fun i h=>∃ok ov,IsItemIter h it a i kvs.length ep ok ov) where
 mem:=by simp
 obj:=fun i h st c hc=>by
  obtain⟨ok,ov,s1⟩:=st;have hc':c=it:=by simpa using hc
  subst hc';exact⟨_,s1,fun v z=>nomatch (show Data.fields _=Data.cell v from z)⟩
 keep:=fun i h h' st k=>by obtain⟨ok,ov,s1⟩:=st;exact⟨ok,ov,k it (by simp) _ s1⟩
 item:=by
  intro X hP hw hK hc i pins s σ H E I hf st hg;subst hP hw hK;obtain⟨hH,⟨k,v⟩,e1⟩:=hg;obtain⟨vs,r,dd,_⟩:=Zz I hH hd;obtain⟨ok,ov,s1⟩:=st;obtain⟨u,hu,ru⟩:=r.get e1;have hl:kvs.length=vs.length:=KV.length r;rw[hl] at s1;refine wpAny_pyNext_items_item s1 dd hu fun key h' hk hit' ht hz hkeep=>?_
  refine⟨_,rfl,wpAny_letOwnedTupleGo_items (s:={ s with heap:=h' }) hit' fun k2 t9 e9=>?_⟩
  replace e9:QH it h' k2:=e9;have elt:it<s.heap.objs.size:=Qo s1
  have I1:Inv X pins σ (upd H s.heap.objs.size (.tup [kV k,v])) { s with heap:=s.heap.push { cls:=.type "tuple",data:=.seq #[key,u] },toks:=s.toks } :=
   I.laid (o:=.tup [kV k,v]) (fun c ob q=>Qh _ q) (Qp _) ⟨by show 2<=Qt;decide,[key,u],.cons (Ji8 hk) (.cons ru .nil),⟨_,Qn _ rfl,rfl,_,rfl⟩⟩
  have hf1:∀c∈[it],FpOk X pins (upd H s.heap.objs.size (.tup [kV k,v])) c:=fun c hc=>by
   have hc':c=it:=by simpa using hc
   subst hc';exact⟨by rw[Ji (QD elt)];exact(hf c hc).1,(hf c hc).2⟩
  have I2:Inv X pins σ (upd H s.heap.objs.size (.tup [kV k,v])) { s with heap:=k2,toks:=s.toks }:=Inv.turnedL (s:={ s with heap:=s.heap.push { cls:=.type "tuple",data:=.seq #[key,u] },toks:=s.toks }) I1 (fun c ob hc q=>by
   have hc':c≠it:=fun z=>hc (by simp[z])
   refine e9.extBut c ob hc' ?_
   by_cases hcs:c=s.heap.objs.size
   ·subst hcs;have q':(s.heap.push { cls:=.type "tuple",data:=.seq #[key,u] }).get? s.heap.objs.size=some ob:=q;rw[Qn _ rfl] at q';cases q';exact ht
   ·have q':s.heap.get? c=some ob:=by have q2:(s.heap.push { cls:=.type "tuple",data:=.seq #[key,u] }).get? c=some ob:=q;exact(Rb s.heap c _ hcs).symm.trans q2
    exact hkeep c ob hc' q') hf1
  refine⟨.ref s.heap.objs.size,_,I2,rfl,⟨_,k,v,rfl,I.hok.fresh (Qp _),e1,rfl⟩,⟨key,u,?_⟩,fun c hc=>(hf1 c hc).1⟩
  ·rw[hl];exact t9
 done:=by
  intro X hP hw hK hc i pins s σ H E I hf st hg;subst hP hw hK;obtain⟨hH,ei⟩:=hg;obtain⟨vs,r,dd,_⟩:=Zz I hH hd;obtain⟨ok,ov,s1⟩:=st;have hl:kvs.length=vs.length:=KV.length r;have hh:X.A.handled=none:=I.ok.hd hc;rw[hl] at s1;refine wpAny_pyNext_items_end hh s1 dd (GO (by omega)) fun h' he=>⟨rfl,?_⟩
  exact I.turnedL (fun c ob hc q=>he c ob (fun z=>hc (by simp[z])) q) hf
 self:=fun _ _ _ _ _ st h=>by obtain⟨ok,ov,s1⟩:=st;exact PySem.W.kcp_self s1 h
noncomputable def Jqu(td:TE):TI:=fun σ H R=>td σ H fun x H1=>∃a o kvs,x=.ref a/\H1 a=some (.frz o (.dK kvs))/\R (Itd a o kvs) H1
def JjC{X:Cx}{elts:List GA}{kk:Nat}{tpos:Pos}{d:GA}{td:TE}{apos pos:Pos}(hd:PE X d td)(hbase:attributeBase d "items" X.env (eval d X.env)=eval d X.env:=by rfl)(hline:(apos.endLine == pos.line)=true:=by rfl)
:PI X (.Tuple elts kk tpos) (.Call (.Attribute d "items" apos) [] [] pos) (Jqu td):=by
 intro pins s σ H R I h;refine K7 hbase hline (thn (hd pins s σ H _ I h) fun v s1 ⟨x,H1,I1,r1,a,o,kvs,ex,hH,q⟩=>?_);subst ex;cases r1;obtain⟨t1,t2,_⟩:=ZS I1 (.inl ⟨kvs,.inr ⟨o,hH⟩⟩);have hO:=(show ObjOk X.prog X.w H1 s1.heap a (.frz o (.dK kvs)) from I1.hok a _ hH)
 obtain⟨e0,z,y,vs,r,ob,es,ep,e1,c1,c2,c3⟩:=hO;rw[e0] at e1;cases e1;have dd:s1.heap.DictAt (JH X.prog X.w) a vs ep:=⟨o,es,e0,c1,c2,c3⟩
 have hl:kvs.length=vs.length:=KV.length r;refine⟨"dict","dict.items",KD,Lc,Rw,t1,t2,Kj rfl (LX ?_)⟩;refine call_meetsIn Lc t1 Rn (M5 _) (meets_dict_items (JH X.prog X.w) a y) ⟨⟨vs,dd.dictOf⟩,?_⟩
 have I2:Inv X pins σ H1 { s1 with heap:=s1.heap.push { cls:=.type "dict_items",data:=.fields #[.ref a] },toks:=s1.toks }:=I1.kept fun b ob q=>Qh _ q
 refine wpAny_pyIter_items (s:={ s1 with heap:=s1.heap.push { cls:=.type "dict_items",data:=.fields #[.ref a] } }) (d:=a) (kvs:=vs) (ep:=ep) (knd:=JH X.prog X.w) ⟨_,Qn _ rfl,rfl,rfl⟩ (dd.push _) ?_;refine⟨_,[(s1.heap.push { cls:=.type "dict_items",data:=.fields #[.ref a] }).objs.size],_,_,H1,rfl,I2.kept (t':=s1.toks) fun b ob q=>Qh _ q,Jfl a _ o kvs es ep c2,⟨.none,.none,?_⟩,fun c hc=>?_,q⟩
 ·rw[hl];exact Qn _ rfl
 ·have hc':c=(s1.heap.push { cls:=.type "dict_items",data:=.fields #[.ref a] }).objs.size:=by simpa using hc
  subst hc';exact I2.fpOk (Qp _) (I2.hok.fresh (Qp _))
end L2
namespace LE
open PySem L2 LR
noncomputable def JgS(i:Nat)(b:Es):Es:=fun E=>match E[i]? with
 | some (.od ks ds)=>b (E.set i (.sh (.dfz ks ds)))
 | _=>none
noncomputable def Jb5:List Int->List D->List D:=Xr fun k d=>.tup [.int k,d]
noncomputable def JeH(a:Ev):En->Option (List D):=fun E=>(a E).bind fun s=>match s with
 | .sh (.dfz ks ds)=>some (Jb5 ks ds)
 | _=>none
def JpZ(i:Nat)(ht:SS K C t et):SS K C (JnB i t) (JgS i et):=by
 intro B H0 H σ E o D I e f;unfold JgS at e;split at e
 ·next ks ds h =>
  obtain⟨l,xs,g1,g2,g3,g4,gk,g5⟩:=I.slotD h;refine⟨l,_,g1,g2,fun ob=>?_⟩;have hi:i<E.length:=(Qq.mp h).1;have s0:Same H0 (upd H0 l (.frz ob (dkO ks xs))):=.new g3;have nb:∀{A:Hp},A l=none->Same A H->Same A (upd H l (.frz ob (dkO ks xs))):=fun {A} n s a o e=>by rw[Ji (Jq e n)];exact s a o e
  have s1:Same (upd H0 l (.frz ob (dkO ks xs))) (upd H l (.frz ob (dkO ks xs))):=fun a o e=>by
   by_cases ha:a=l
   ·subst ha;rw[Jn] at e ⊢;exact e
   ·rw[Ji ha] at e ⊢;exact I.h a o e
  have st:SStep B H0 (upd H0 l (.frz ob (dkO ks xs))) (upd H l (.frz ob (dkO ks xs))):=⟨nb g4 I.b,s0,fun a o e=>by
   by_cases ha:a=l
   ·subst ha;exact .inr (.inl g4)
   ·rw[Ji ha] at e;exact .inl e,s1⟩
  refine ht B _ _ σ _ o D ⟨nb g4 I.b,s1,by simp[I.len],fun j s e=>?_,fun j k u1 u2 v hjk a1 a2 w1 w2 a3=>?_⟩ e (f.step st)
  ·rw[Ga] at e
   by_cases hj:i=j
   ·subst hj;rw[if_pos rfl,if_pos hi] at e;cases e;exact .inr ⟨_,g1,.mkZ Jn gk (g5.mono s0)⟩
   ·rw[if_neg hj] at e;rcases I.at' j s e with z|⟨v,q1,q2⟩
    ·exact .inl z
    ·refine .inr ⟨v,q1,?_⟩
     cases s with
     | no=>trivial
     | sh d=>exact RD.mono s0 q2
     | bo es=>obtain⟨l',ys,p1,p2,p3⟩:=q2;exact⟨l',ys,p1,p2,p3.mono s0⟩
     | bd ks es=>obtain⟨l',ys,p1,p2,hk,p3⟩:=q2;exact⟨l',ys,p1,p2,hk,p3.mono s0⟩
     | bt ks es=>obtain⟨l',ys,p1,p2,hk,p3⟩:=q2;exact⟨l',ys,p1,p2,hk,p3.mono s0⟩
     | own es =>
      obtain⟨l',ys,p1,p2,p3,p4,p5⟩:=q2;subst p1;have:l'≠l:=fun z=>by subst z;exact I.sep i j _ _ (.ref l') hj h e rfl rfl g1 q1
      exact⟨l',ys,rfl,by rw[Ji this];exact p2,by rw[Ji this];exact p3,p4,p5.mono s0⟩
     | od ks es =>
      obtain⟨l',ys,p1,p2,p3,p4,hk,p5⟩:=q2;subst p1;have:l'≠l:=fun z=>by subst z;exact I.sep i j _ _ (.ref l') hj h e rfl rfl g1 q1
      exact⟨l',ys,rfl,by rw[Ji this];exact p2,by rw[Ji this];exact p3,p4,hk,p5.mono s0⟩
     | ot ks es =>
      obtain⟨l',ys,p1,p2,p3,p4,hk,p5⟩:=q2;subst p1;have:l'≠l:=fun z=>by subst z;exact I.sep i j _ _ (.ref l') hj h e rfl rfl g1 q1
      exact⟨l',ys,rfl,by rw[Ji this];exact p2,by rw[Ji this];exact p3,p4,hk,p5.mono s0⟩
  ·have own:∀{j:Nat} {u:Sl},(E.set i (.sh (.dfz ks ds)))[j]?=some u->Yj u=true->E[j]?=some u:=fun {j u} a w=>by
    rw[Ga] at a
    by_cases hj:i=j
    ·subst hj;rw[if_pos rfl,if_pos hi] at a;cases a;cases w
    ·rw[if_neg hj] at a;exact a
   exact I.sep j k u1 u2 v hjk (own a1 w1) (own a2 w2) w1 w2 a3
 ·cases e
theorem JaH:∀(ks:List Int) (xs:List V) (i:Nat),((ks.map Sum.inl:List Key).zip xs)[i]?=(match ks[i]?,xs[i]? with|some k,some x=>some ((Sum.inl k:Key),x)|_,_=>none)
 | [],xs,i=>by simp
 | k::ks,[],i=>by cases h:(k::ks)[i]? <;> simp_all
 | k::ks,x::xs,0=>by simp
 | k::ks,x::xs,i+1=>by simpa using JaH ks xs i
def Jj6(ha:SE K C td ed):SI K C m (Jqu td) (JeH ed):=by
 intro B H0 H σ E ds R I e q;obtain⟨s,e1,e⟩:=bind_some e;split at e
 ·next ks es =>
  cases e;refine ha B H0 H σ E _ _ I e1 fun x H1 H1' s1 r1=>?_
  obtain⟨l,xs,o,rfl,h,hk,rl⟩:=RD.dfzI r1;refine⟨l,o,_,rfl,s1.i _ _ h,q _ _ _ s1 ?_⟩
  have sA:Same (if m=true then H1' else B) H1':=by
   split
   ·exact Same.refl _
   ·exact I.b.trans s1.h
  intro H0' H' st;have hl:H' l=some (.frz o (dkO ks xs)):=st.i _ _ (st.z _ _ h);refine⟨fun i d e=>?_,⟨hl,?_⟩⟩
  ·unfold Jb5 at e;rw[Mn] at e
   cases hki:ks[i]? with
   | none=>rw[hki] at e;cases e
   | some k =>
    cases hdi:es[i]? with
    | none=>rw[hki,hdi] at e;cases e
    | some d' =>
     rw[hki,hdi] at e;cases e;obtain⟨x,hx,rx⟩:=rl.get hdi;have hz:((ks.map Sum.inl:List Key).zip xs)[i]?=some (Sum.inl k,x):=by rw[JaH,hki,hx]
     refine⟨⟨hl,_,hz⟩,?_⟩;rintro z H2 ⟨p,k',v',rfl,hp,hv,rfl⟩;rw[hz] at hv;cases hv;have h0:H0' p=none:=Same.free st.i hp;refine⟨upd H0' p (.tup [.int k,x]),⟨.new hp,.new h0,fun a o e=>?_,fun a o e=>?_⟩,?_⟩
     ·by_cases h:a=p
      ·subst h;exact .inr (.inl hp)
      ·rw[Ji h] at e;exact .inl e
     ·by_cases h:a=p
      ·subst h;rw[Jn] at e ⊢;exact e
      ·rw[Ji h] at e ⊢;exact st.i a o e
     ·exact .mkT (.of Jn) (.cons (.int _) (.cons (rx.mono (st.z.trans (.new h0))) .nil))
  ·unfold Jb5;rw[MK,GG,Qm,rl.1]
 ·cases e
end LE
namespace L2
open PySem PySem.Spec PyProof.Rows
noncomputable def W6(p a:Qj):HO:=.ext fun h=>KdlKeysView h p a
def JbN{X:Cx}{pins:List (Qj×Obj)}{σ:St}{H:Hp}{s:Qi}{a:Qj}{kvs:List (Key×V)}(I:Inv X pins σ H s)(h:Rd H a (.dK kvs)) :
 ∃vs ep,KV kvs vs/\s.heap.DictAt (JH X.prog X.w) a vs ep/\(a == sysModules)=false/\kvs.length<=Qt:=by
 obtain⟨z,y,vs,r,ob,es,ep,e1,c⟩:=(show ObjOk X.prog X.w H s.heap a (.dK kvs) from h.ok I.hok)
 exact⟨vs,ep,r,⟨ob,es,e1,c⟩,y,z⟩
noncomputable def Jp8(H:Hp)(r a:Qj):Prop:=r=a\/H r=some (W6 r a)
def JpJ{X:Cx}{pins:List (Qj×Obj)}{σ:St}{H:Hp}{s:Qi}{r a:Qj}{kvs:List (Key×V)}(I:Inv X pins σ H s)(d:Jp8 H r a)(h:Rd H a (.dK kvs)) :
 ∃vs T OK,KV kvs vs/\PySem.W.KdlSrc X.prog X.w T r a vs.length (fun i v=>∃k x,vs[i]?=some (k,x)/\(JH X.prog X.w).is k v=true) OK/\OK s.heap/\vs.length<=Qt:=by
 obtain⟨vs,ep,rl,dd,y,z⟩:=JbN I h;rw[KV.length rl] at z;rcases d with e|e
 ·subst e;exact⟨vs,_,_,rl,PySem.W.kdl_dict (ep:=ep) y,dd,z⟩
 ·have vw:KdlKeysView s.heap r a:=(show ObjOk X.prog X.w H s.heap r (W6 r a) from I.hok r _ e).1;exact⟨vs,_,_,rl,PySem.W.kdl_keys (ep:=ep),⟨vw,dd⟩,z⟩
theorem Jdd{P:Qz}{w:QT}:∀{ks:List Int} {xs:List V} {vs:List (Key×Qe)} {acc:List Qe},ks.length=xs.length->KV ((ks.map Sum.inl:List Key).zip xs) vs->acc.length=vs.length ->
 (∀(j:Nat) (v:Qe),acc[j]?=some v->∃k x,vs[j]?=some (k,x)/\(JH P w).is k v=true)->IntsAre acc ks
 | [],[],_,acc,_,r,hl,_=>by
  cases r
  cases acc with
  | nil=>exact .nil
  | cons _ _=>simp at hl
 | [],_::_,_,_,h,_,_,_=>by simp at h
 | _::_,[],_,_,h,_,_,_=>by simp at h
 | k::ks,x::xs,vs,acc,h,r,hl,hv=>by
  cases r with
  | cons r1 r2 =>
   cases acc with
   | nil=>simp at hl
   | cons u acc =>
    obtain⟨k',x',e1,e2⟩:=hv 0 u rfl;simp at e1;obtain⟨r1a,r1b⟩:=r1;subst e1;have ek:k'=Sum.inl k:=r1a.symm;subst ek;rcases JS (show WX (Sum.inl k) u=true from e2) with ⟨i,t,e,rfl⟩|⟨y,t,e,_⟩
    ·cases e;exact .cons k t (Jdd (by simpa using h) r2 (by simpa using hl) fun j v e=>hv (j+1) v (by simpa using e))
    ·cases e
def JcY(K:PySem.W.KdlSrc prog w T r d n P OK)(hh:A.handled=none)(hok:OK s.heap)(hn:n<=Qt)(h:∀(h':Q1) (tk:Nat) (acc:Array Qe),(∀b o,s.heap.get? b=some o->h'.get? b=some o)->s.heap.objs.size<h'.objs.size->ItemsOf P acc n->R acc.toList { s with heap:=h',toks:=tk }):wpAny (model prog w) A (collect (.ref r)) R E s:=by
 obtain⟨k1,k2⟩:=K.there _ hok;have old:∀b o,s.heap.get? b=some o->(s.heap.push { cls:=.type "list",data:=.seq ([]:List Qe).toArray }).get? b=some o:=fun b o e=>Qh _ e
 unfold collect;refine Qa (R4 (G9 entry_proto_collect' ?_));rw[GJ MO _];show wpAny _ A.in1 (newList [] >>= fun l=>again (.builtin "list.__iadd__" ⟨[l,.ref r],[]⟩)) _ _ s;refine Qa (QW (Qg ⟨Ki Ld _,G9 entry_list_iadd' ?_⟩));rw[GJ Ld _];have at0:(s.heap.push { cls:=.type "list",data:=.seq ([]:List Qe).toArray }).get? s.heap.objs.size=some { cls:=.type "list",data:=.seq #[] }:=Qn _ rfl
 have fin:∀(h':Q1) (tk:Nat) (acc:Array Qe) (c:Nat),(∀b o,s.heap.get? b=some o->h'.get? b=some o)->h'.get? s.heap.objs.size=some { cls:=.type "list",dict:=none,data:=.seq acc c,slots:=#[] }->ItemsOf P acc n ->
  wpAny (model prog w) A (load s.heap.objs.size >>= fun o=>match o.data with | .seq xs _=>pure xs.toList | _=>unsupported "internal:collect") R E { s with heap:=h',toks:=tk }:=fun h' tk acc c hk hS hi=>Qa (wpAny_load hS (Qg (h h' tk acc hk (Qo hS) hi)))
 have got:=PySem.W.kdl_extend (A:=A) (s:={ s with heap:=s.heap.push { cls:=.type "list",data:=.seq ([]:List Qe).toArray } }) (R:=fun q s'=>∃h' tk acc c,q=.ok (.ret (.ref s.heap.objs.size))/\s'={ s with heap:=h',toks:=tk }/\(∀b o,s.heap.get? b=some o->h'.get? b=some o)/\h'.get? s.heap.objs.size=some { cls:=.type "list",dict:=none,data:=.seq acc c,slots:=#[] }/\ItemsOf P acc n) K hh (K.keep _ _ hok fun b _ o e=>old b o e) s.heap.objs.size (Gh k1) (Gh k2) (.ref s.heap.objs.size) 0 at0 (fun h' tk acc c hk hS hi=>⟨h',tk,acc,c,rfl,rfl,fun b o e=>hk b o (QD (Qo e)) (old b o e),hS,hi⟩) hn
 refine KZ got (fun f s' x=>?_) fun e s' ⟨_,_,_,_,z,_⟩=>nomatch z
 cases f with
 | done f=>obtain⟨h',tk,acc,c,e,rfl,hk,hS,hi⟩:=x;cases e;exact fin h' tk acc c hk hS hi
 | again c1=>exact⟨x.1,Lj x.2 fun q s2 ⟨h',tk,acc,c,e1,e2,hk,hS,hi⟩=>by subst e1;subst e2;exact fin h' tk acc c hk hS hi⟩
noncomputable def JjP:List V->Hp->VK->Prop:=fun xs H Q=>∃(r a:Qj) (ks:List Int) (vs:List V),xs=[.ref r]/\Jp8 H r a/\Rd H a (.dK ((ks.map Sum.inl:List Key).zip vs))/\ks.length=vs.length/\∀l,H l=none->Q (.ref l) (upd H l (.lst (ks.map V.int)))
def Jem(hc:X.calm=true):J0 X (.type "list") JjP:=by
 intro pins s σ H xs us Q I r h;obtain⟨p,a,ks,vs0,rfl,ds,hq,hlk,q⟩:=h;obtain⟨u,rfl,rx⟩:=Uo r;cases rx;obtain⟨vs,T,OK,rl,K,ok,hz⟩:=JpJ I ds hq;have hh:X.A.handled=none:=I.ok.hd hc
 have hl:vs.length=ks.length:=by have:=KV.length rl;rw[GG,Qm,<- hlk,Ll] at this;exact this.symm
 refine PySem.W.kdl_call K hh ok hz fun h' tk acc c' hk hS items=>?_
 have hI:IntsAre acc.toList ks:=Jdd (P:=X.prog) (w:=X.w) hlk rl (by rw[QN,items.1]) fun j v e=>items.2 j v (by rw[<- GN];exact e)
 have hne:H s.heap.objs.size=none:=I.hok.fresh (Qp _);refine⟨.ref s.heap.objs.size,_,I.laid (t':=tk) hk (Qp _) (show ObjOk X.prog X.w _ _ _ (.lst (ks.map V.int)) from⟨by rw[Qm,<- hl];exact hz,acc.toList,c',U0 hI,?_⟩),rfl,q _ hne⟩;rw[hS]
end L2
namespace LE
open PySem L2 LR
noncomputable def Jew(a:Ev):Ev:=fun E=>(a E).bind fun s=>s.dk.bind fun p=>some (.own (p.1.map .int))
def Rd.put(h:Rd H l o)(hp:H p=none):Rd (upd H p u) l o:=by
 rcases h with h|⟨ob,h⟩
 ·exact .inl (by rw[Ji (Jq h hp)];exact h)
 ·exact .inr ⟨ob,by rw[Ji (Jq h hp)];exact h⟩
def Jmv(ha:SE K C td ed):SE K C (tCB JjP (Y5 td Vo)) (Jew ed):=by
 intro B H0 H σ E r Q I e q;obtain⟨s,e1,e⟩:=bind_some e;obtain⟨p,e2,e⟩:=bind_some e;cases e;refine ha B H0 H σ E s _ I e1 fun x H1 H1' s1 r1=>?_
 obtain⟨l,xs,rfl,h,hk,rl⟩:=r1.dk s1.i e2;exact⟨l,l,p.1,xs,rfl,.inl rfl,h,by rw[hk,rl.1],fun z hz=>YV s1.i s1.h hz (RDL.ofInts _) fun v H2 H2' s2 r2=>q v H2 H2' (s1.comp s2 fun _ y=>y) r2⟩
end LE
namespace L2
open PySem PySem.Spec PyProof.Rows
def Inv.more{X:Cx}{pins:List (Qj×Obj)}{σ:St}{H H':Hp}{s:Qi}{h':Q1}{t':Nat}(I:Inv X pins σ H s)(k:∀b u,s.heap.get? b=some u->h'.get? b=some u)(hx:∀b,b<s.heap.objs.size->H' b=H b)
 (new:∀b o,s.heap.objs.size<=b->H' b=some o->ObjOk X.prog X.w H' h' b o):Inv X pins σ H' { s with heap:=h',toks:=t' }:=by
 have old:∀b o,H b=some o->H' b=some o:=fun b o e=>by rw[hx b (I.hok.lt e)];exact e
 refine I.un ⟨fun b u q _ _ _=>k b u q,fun b u q _ _ _=>⟨u.slots,k b u q⟩,fun b u q n _=>by rw[hx b (Qo q)];exact n,fun b u q _=>⟨u,k b u q⟩,fun b xs q=>old b _ q,fun b u xs q=>old b _ q,fun b ps q=>⟨#[],by rw[old b _ q];simp⟩⟩ fun b o e=>?_
 rcases LO b s.heap.objs.size with z|z
 ·rw[hx b z] at e;exact(I.hok b o e).stay (fun c u _ q=>k c u q) (fun c q=>old c _ q) fun c xs q=>old c _ q
 ·exact new b o z e
noncomputable def Ws(p a:Qj):HO:=.ext fun h=>h.IsItemsView p a
noncomputable def Jkn(td:TE):TE:=fun σ H Q=>td σ H fun x H1=>∃a kvs,x=.ref a/\Rd H1 a (.dK kvs)/\∀p,H1 p=none->Q (.ref p) (upd H1 p (Ws p a))
def Jjx{X:Cx}{d:GA}{td:TE}{apos pos:Pos}(hd:PE X d td)(hbase:attributeBase d "items" X.env (eval d X.env)=eval d X.env:=by rfl)(hline:(apos.endLine == pos.line)=true:=by rfl)
:PE X (.Call (.Attribute d "items" apos) [] [] pos) (Jkn td):=by
 intro pins s σ H Q I h;refine K7 hbase hline (thn (hd pins s σ H _ I h) fun v s1 ⟨x,H1,I1,r1,a,kvs,ex,hH,q⟩=>?_);subst ex;cases r1;obtain⟨t1,t2,_⟩:=ZS I1 (.inl ⟨kvs,hH⟩);obtain⟨vs,ep,r,dd,y,_⟩:=JbN I1 hH;refine⟨"dict","dict.items",KD,Lc,Rw,t1,t2,Kj rfl (LX ?_)⟩;refine call_meetsIn Lc t1 Rn (M5 _) (meets_dict_items (JH X.prog X.w) a y) ⟨⟨vs,dd.dictOf⟩,?_⟩
 have hn:H1 s1.heap.objs.size=none:=I1.hok.fresh (Qp _)
 have vw:(s1.heap.push { cls:=.type "dict_items",data:=.fields #[.ref a] }).IsItemsView s1.heap.objs.size a:=⟨_,Qn _ rfl,rfl,rfl⟩
 refine⟨.ref s1.heap.objs.size,_,I1.laid (t':=s1.toks) (o:=Ws s1.heap.objs.size a) (fun b ob q=>Qh _ q) (Qp _) ⟨vw,⟨_,Qn _ rfl⟩,fun h1 h2 p k=>?_⟩,rfl,q _ hn⟩;obtain⟨o,ho,hc⟩:=p;exact⟨o,k o ho,hc⟩
noncomputable def VE(H:Hp):List Qj->List (Key×V)->Hp
 | a::as,kv::kvs=>upd (VE H as kvs) a (.tup [kV kv.1,kv.2])
 | _,_=>H
theorem Ui:∀{as:List Qj} {kvs:List (Key×V)},b∉as->VE H as kvs b=H b
 | [],_,_=>rfl
 | _::_,[],_=>rfl
 | a::as,kv::kvs,h=>by rw[VE,Ji fun z=>h (by rw[z];exact Qc)];exact Ui fun m=>h (Qd _ m)
theorem Zh:∀{as:List Qj} {kvs:List (Key×V)} {j:Nat} {a:Qj} {kv:Key×V},as.Nodup->as[j]?=some a->kvs[j]?=some kv->VE H as kvs a=some (.tup [kV kv.1,kv.2])
 | [],_,_,_,_,_,e,_=>by simp at e
 | _::_,[],_,_,_,_,_,e=>by simp at e
 | b::as,kv'::kvs,0,a,kv,_,e1,e2=>by simp at e1 e2;subst e1 e2;rw[VE,Jn]
 | b::as,kv'::kvs,j+1,a,kv,hn,e1,e2=>by
  rw[QY] at hn;simp at e1 e2;have hne:a≠b:=fun z=>hn.1 (by rw[<- z];exact QI e1)
  rw[VE,Ji hne];exact Zh hn.2 e1 e2
noncomputable def JjO:List V->Hp->VK->Prop:=fun xs H Q=>∃(r a:Qj) (kvs:List (Key×V)),xs=[.ref r]/\H r=some (Ws r a)/\Rd H a (.dK kvs) ∧
 ∀(L:Qj) (as:List Qj),H L=none->as.length=kvs.length->as.Nodup->L∉as->(∀b∈as,H b=none)->Q (.ref L) (upd (VE H as kvs) L (.lst (as.map V.ref)))
def Jel(hc:X.calm=true):J0 X (.type "list") JjO:=by
 intro pins s σ H xs us Q I r h;obtain⟨p,a,kvs,rfl,hv,hq,q⟩:=h;obtain⟨u,rfl,rx⟩:=Uo r;cases rx;obtain⟨vs,ep,rl,dd,_,hz⟩:=JbN I hq;have hl:kvs.length=vs.length:=KV.length rl;have vw:s.heap.IsItemsView p a:=(show ObjOk X.prog X.w H s.heap p (Ws p a) from I.hok p _ hv).1;have hh:X.A.handled=none:=I.ok.hd hc;refine PySem.W.kdx_call hh vw dd (by rw[<- hl];exact hz) fun h' tk acc c as hk hS hal hG hacc=>?_
 have hnd:as.Nodup:=hG.rise.imp fun {x y} h=>QD h
 have hLa:s.heap.objs.size∉as:=fun m=>absurd (hG.above _ m) (Gr _)
 have fr:∀b∈as,H b=none:=fun b hb=>I.hok.fresh (Kc (hG.above b hb))
 have hne:H s.heap.objs.size=none:=I.hok.fresh (Qp _)
 have hsize:as.length<=Qt:=by rw[hal,<- hl];exact hz
 refine⟨.ref s.heap.objs.size,_,I.more (t':=tk) hk (fun b hb=>?_) (fun b o hb e=>?_),rfl,q s.heap.objs.size as hne (by rw[hal,hl]) hnd hLa fr⟩
 ·rw[Ji (QD hb)];exact Ui fun m=>absurd (hG.above b m) (Mo.mpr (Kc hb))
 ·by_cases hL:b=s.heap.objs.size
  ·subst hL;rw[Jn] at e;cases e;refine⟨by rw[Qm];exact hsize,acc.toList,c,?_,?_⟩
   ·rw[hacc]
    have:∀l:List Qj,Vals (l.map V.ref) (l.map Value.ref):=fun l=>by
     induction l with
     | nil=>exact .nil
     | cons x l ih=>exact .cons rfl ih
    exact this as
   ·rw[hS]
  ·rw[Ji hL] at e
   by_cases hm:b∈as
   ·obtain⟨j,hj⟩:=Ky.mp hm;obtain⟨key,k,x,e1,e2,e3⟩:=hG.pairs j b hj;have hjl:j<kvs.length:=by have:=(Qq.mp e1).1;omega
    have hkv:kvs[j]?=some kvs[j]:=Qy hjl;obtain⟨u,hu,ru⟩:=rl.get hkv;rw[e1] at hu;cases hu;rw[Zh hnd hj hkv] at e;cases e;exact⟨by show 2<=Qt;decide,[key,x],.cons (Ji8 e2) (.cons ru .nil),⟨_,e3,rfl,_,rfl⟩⟩
   ·rw[Ui hm,I.hok.fresh hb] at e;cases e
end L2
namespace LE
open PySem L2 LR
noncomputable def JbP(a:Ev):Ev:=fun E=>(a E).bind fun s=>s.dk.bind fun p=>some (.own (Jb5 p.1 p.2))
def Jbc(h:∀b∈as,H b=none):Same H (VE H as kvs):=fun b o e=>by rw[Ui fun m=>by rw[h b m] at e;cases e];exact e
theorem Jf3:∀{as:List Qj} {kvs:List (Key×V)} {b:Qj} {o:HO},VE H as kvs b=some o->H b=some o\/b∈as
 | [],_,_,_,e=>.inl e
 | _::_,[],_,_,e=>.inl e
 | a::as,kv::kvs,b,o,e=>by
  by_cases c:b=a
  ·exact .inr (by rw[c];exact Qc)
  ·rw[VE,Ji c] at e;exact(Jf3 e).imp id fun m=>Qd _ m
theorem RDL.items:∀{ks:List Int} {xs:List V} {ds:List D} {as:List Qj} {H:Hp},ks.length=ds.length->as.length=ks.length->(∀(j:Nat) (a:Qj) (k:Int) (x:V),as[j]?=some a->ks[j]?=some k->xs[j]?=some x->H a=some (.tup [.int k,x]))->RDL K C H xs ds->RDL K C H (as.map V.ref) (Jb5 ks ds)
 | [],[],[],[],_,_,_,_,_=>.nil
 | [],_,_,a::as,_,_,h,_,_=>by simp at h
 | [],_,d::ds,_,_,h,_,_,_=>by simp at h
 | k::ks,_,[],_,_,h,_,_,_=>by simp at h
 | k::ks,_,_,[],_,_,h,_,_=>by simp at h
 | [],x::xs,[],[],_,_,_,_,h=>by have:=h.1;simp at this
 | k::ks,[],d::ds,a::as,_,_,_,_,h=>by have:=h.1;simp at this
 | k::ks,x::xs,d::ds,a::as,H,h1,h2,h3,h4=>by show RDL K C H (V.ref a::as.map V.ref) (.tup [.int k,d]::Jb5 ks ds);refine .cons (.mkT (.of (h3 0 a k x rfl rfl rfl)) (.cons (.int k) (.cons h4.head .nil))) (RDL.items (by simpa using h1) (by simpa using h2) (fun j a k x e1 e2 e3=>h3 (j+1) a k x (by simpa using e1) (by simpa using e2) (by simpa using e3)) h4.tail)
def Jmu(ha:SE K C td ed):SE K C (tCB JjO (Y5 (Jkn td) Vo)) (JbP ed):=by
 intro B H0 H σ E r Q I e q;obtain⟨s,e1,e⟩:=bind_some e;obtain⟨p,e2,e⟩:=bind_some e;cases e;refine ha B H0 H σ E s _ I e1 fun x H1 H1' s1 r1=>?_
 obtain⟨l,xs,rfl,h,hk,rl⟩:=r1.dk s1.i e2;refine⟨l,_,rfl,h,fun w hw=>?_⟩;have st:Step H1' H1 H1' H1 (upd H1' w (Ws w l)):=⟨.new hw,Same.refl _,fun _ _ e=>.inl e,s1.i.trans (.new hw)⟩
 have s2:=s1.trans st;refine⟨w,l,_,rfl,Jn,Rd.put h hw,fun L as hL hal hnd hLa hfr=>?_⟩;rw[GG,Qm,rl.1,hk,Ll] at hal
 have fr0:∀b∈as,H1 b=none:=fun b hb=>Same.free s2.i (hfr b hb)
 have frH:∀b∈as,H b=none:=fun b hb=>Same.free s2.h (hfr b hb)
 have hL0:H1 L=none:=Same.free s2.i hL
 have z0:Same H1 (VE H1 as ((p.1.map Sum.inl:List Key).zip xs)):=Jbc fr0
 have zz:Same (upd H1' w (Ws w l)) (VE (upd H1' w (Ws w l)) as ((p.1.map Sum.inl:List Key).zip xs)):=Jbc hfr
 have hLl:VE (upd H1' w (Ws w l)) as ((p.1.map Sum.inl:List Key).zip xs) L=none:=by rw[Ui hLa];exact hL
 have ii:Same (VE H1 as ((p.1.map Sum.inl:List Key).zip xs)) (VE (upd H1' w (Ws w l)) as ((p.1.map Sum.inl:List Key).zip xs)):=fun b o e=>by
  by_cases hb:b∈as
  ·obtain⟨j,hj⟩:=Ky.mp hb
   have hjl:j<((p.1.map Sum.inl:List Key).zip xs).length:=by rw[GG,Qm,rl.1,hk,Ll];have:=(Qq.mp hj).1;omega
   have hkv:=Qy hjl;rw[Zh hnd hj hkv] at e ⊢;exact e
  ·rw[Ui hb] at e ⊢;exact s2.i b o e
 refine q _ (VE H1 as ((p.1.map Sum.inl:List Key).zip xs)) _ ⟨(s2.h.trans zz).trans (.new hLl),s2.z.trans z0,fun b o e=>?_,ii.trans (.new hLl)⟩ ⟨L,as.map V.ref,rfl,Jn,by rw[Ui hLa];exact hL0,Same.free s2.h hL,?_⟩
 ·rcases Jf3 e with z|z
  ·exact s2.n b o z
  ·exact .inr (.inl (frH b z))
 ·refine RDL.items (xs:=xs) hk (by rw[hal,hk]) (fun j a k x j1 j2 j3=>?_) (rl.mono z0);exact Zh hnd j1 (by rw[JaH,j2,j3])
end LE
namespace L2
open PySem PySem.Spec PyProof.Rows
def ObjOk.there(x:ObjOk P w H h a o):∃u,h.get? a=some u:=by
 cases o with
 | lst xs=>obtain⟨_,_,_,_,e⟩:=x;exact⟨_,e⟩
 | tup xs=>obtain⟨_,_,_,p⟩:=x;obtain⟨o,e,_⟩:=p;exact⟨_,e⟩
 | dK kvs=>obtain⟨_,_,_,_,o,_,_,e,_⟩:=x;exact⟨_,e⟩
 | dT kvs=>obtain⟨_,_,_,_,o,_,_,e,_⟩:=x;exact⟨_,e⟩
 | set S n=>obtain⟨o,_,_,_,e,_⟩:=x;exact⟨_,e⟩
 | ins C dx fs=>obtain⟨_,_,_,e,_⟩:=x;exact⟨_,e⟩
 | own y=>obtain⟨_,e⟩:=x;exact⟨_,e⟩
 | xd fs=>obtain⟨_,⟨_,_,_,e,_⟩,_⟩:=x;exact⟨_,e⟩
 | rng lo hi=>obtain⟨_,_,_,e⟩:=x;exact⟨_,e⟩
 | frz ob u=>obtain⟨e,_⟩:=x;exact⟨_,e⟩
 | tbl ps=>exact⟨_,(show h.get? a=some _ from x)⟩
 | met f y=>exact⟨_,(show h.get? a=some _ from x)⟩
 | ext φ=>obtain⟨_,⟨_,e⟩,_⟩:=x;exact⟨_,e⟩
noncomputable def TrD(h base:Q1)(e:Qj)(cls:Qe)(dct:Option Qj)(fl:Qe):Prop :=
 ∃oe vs T oT ts,h.get? e=some oe/\(oe.cls=cls/\oe.dict=dct)/\oe.data=.fields vs/\vs[1]?=some (.ref T)/\base.get? T=none/\T≠e/\h.get? T=some oT/\oT.data=.fields ts/\ts[3]?=some fl
noncomputable def Fl(base:Q1)(l:List Env)(e:Qj)(cls:Qe)(h:Q1):Prop :=
 base.StaysIn h/\base.get? e=none/\h.FunFrames base l/\(TrD h base e cls none .none\/∃oe vs,h.get? e=some oe/\(oe.cls=cls/\oe.dict=none)/\oe.data=.fields vs/\vs[1]?=some .none)
noncomputable def Cov(fs:List Qj)(H':Hp)(h h' base:Q1):Prop:=∀b o,(H' b≠none\/∃u,h.get? b=some u)->b∉fs->h'.get? b=some o->base.get? b=some o
structure XF (P:Qz) (w:QT) (l:List Env) (H:Hp) (h:Q1) (a:Qj) (cls:Qe) (H':Hp) (base h':Q1):Prop where
 un:Un (frs l) [] H H' h h'
 hok:HOk P w H' h'
 fl:Fl base l a cls h'
 cov:Cov (frs l) H' h h' base
 free:H' a=none
 new:h.get? a=none
noncomputable def CX1(P:Qz)(w:QT):CXT:=fun l H s E e s'=>∃(a:Qj) (cls:Qe) (H':Hp) (base:Q1),e=.ref a/\s'.os=s.os/\AllBare s'.gens/\XF P w l H s.heap a cls H' base s'.heap/\E cls (some a) H'
noncomputable def XP(X:Cx)(pins:List (Qj×Obj))(σ:St)(E:XK)(e:Qe)(s':Qi):Prop:=∃H s,Inv X pins σ H s/\CX1 X.prog X.w X.stack H s E e s'
end L2
namespace L2
open PySem PySem.Spec PyProof.Rows PySem.Calls
abbrev VEm:List Qe:=[.type "ValueError",.type "Exception",.type "BaseException",.type "object"]
end L2
namespace L2
open PySem PySem.Spec PyProof.Rows PySem.Calls LE
structure ExcN (K:QE) (n:Str):Prop where
 ex:∃c,nsIn K mainGlobals n=some (some (.ref c))/\PySem.W.excIn K c VEm "ValueError.__new__"=true
 pl:∀c,nsIn K mainGlobals n=some (some (.ref c))->findIn K (.ref c) "__getattribute__"=some (some (.builtin "BaseException.__getattribute__"))/\findIn K (.ref c) "__getattr__"=some none/\mroIn K c (.type "BaseException")=some true/\hasDictIn K c=true/\findIn K (.ref c) "__class__"=some (some (.builtin "object.__class__"))/\mroIn K c (.type "object")=some true
structure ExcG (K:QE):Prop where
 hn:Xm K (.builtin "object.__class__") "__get__"=some (some (.builtin "getset_descriptor.__get__"))
 htk:PySem.W.takesIn K (.builtin "object.__class__")=some true
end L2
namespace LE
open PySem L2 LR
section
variable(K:QE)(C:Qj)
end
noncomputable def exB(n m:Str):Bool:=n == m || m == "LumpError"
structure IsiN (K:QE) (R:List Str) (m:Str) (c:Qj):Prop where
 own:∀n∈R,ExcN K n
 g:ExcG K
 k:∀n∈R,∀c',nsIn K mainGlobals n=some (some (.ref c'))->kitOne K (.ref c') (.ref c)=some (exB n m)
 o:kitOne K (.type "NoneType") (.ref c)=some false
end LE
namespace L2
open PySem PySem.Spec PyProof.Rows PySem.Calls LE
end L2
namespace LE
open PySem L2 LR
noncomputable def IsiL(K:QE)(R:List Str):List Str->List Qj->Prop
 | [],[]=>True
 | m::ms,c::cs=>IsiN K R m c/\IsiL K R ms cs
 | _,_=>False
theorem IsiL.exc(hn:n∈R)(hc:nsIn K mainGlobals n=some (some (.ref c'))):∀{ms:List Str} {cs:List Qj},IsiL K R ms cs->kitAny K (.ref c') (cs.map Value.ref)=some (ms.any (exB n))
 | [],[],_=>rfl
 | m::ms,c::cs,⟨h,t⟩=>by show(match kitOne K (.ref c') (.ref c) with|some true=>some true|some false=>kitAny K (.ref c') (cs.map Value.ref)|none=>none)=_;rw[h.k n hn c' hc,t.exc hn hc,Km];cases exB n m <;> rfl
theorem IsiL.non:∀{ms:List Str} {cs:List Qj},IsiL K R ms cs->kitAny K (.type "NoneType") (cs.map Value.ref)=some false
 | [],[],_=>rfl
 | m::ms,c::cs,⟨h,t⟩=>by show(match kitOne K (.type "NoneType") (.ref c) with | some true=>some true | some false=>kitAny K (.type "NoneType") (cs.map Value.ref) | none=>none)=_;rw[h.o,t.non]
end LE
namespace L2
open PySem PySem.Spec PyProof.Rows PySem.Calls LE
end L2
namespace LE
open PySem L2 LR
structure AtX (K:QE) (n:Str) (c:Qj):Prop where
 ns:nsIn K mainGlobals n=some (some (.ref c))
 ok:PySem.W.excIn K c VEm "ValueError.__new__"=true
 ga:findIn K (.ref c) "__getattribute__"=some (some (.builtin "BaseException.__getattribute__"))
 gn:findIn K (.ref c) "__getattr__"=some none
 mb:mroIn K c (.type "BaseException")=some true
 hd:hasDictIn K c=true
 fi:findIn K (.ref c) "__class__"=some (some (.builtin "object.__class__"))
 mr:mroIn K c (.type "object")=some true
def AtX.n{n:Str}{c:Qj}(h:AtX K n c):ExcN K n:=⟨⟨c,h.ns,h.ok⟩,fun c' e=>by have:=h.ns.symm.trans e;cases this;exact⟨h.ga,h.gn,h.mb,h.hd,h.fi,h.mr⟩⟩
section
variable(K:QE)(C:Qj)
end
end LE
namespace L2
open PySem PySem.Spec PyProof.Rows PySem.Calls LE
structure RoomH (k:Nat) (A:QS):Prop where
 dp:A.depth+3*k+5<recursionLimit
 un:A.units+16*k+200<cLine
def Room.h(r:Room k A):RoomH k A:=⟨r.dp,r.un⟩
end L2
namespace LE
open PySem L2 LR
section
variable(K:QE)(C:Qj)
end
end LE
namespace L2
open PySem PySem.Spec PyProof.Rows PySem.Calls
end L2
namespace LE
open PySem L2 LR
end LE
namespace PySem
abbrev VN(h:Q1)(z TI TO a:Qj)(f:Bool):Prop :=
 h.get? z=some { cls:=.type "zip",dict:=none,data:=.fields #[rawInt a,.bool f,.bool false,.ref TI,.ref TO],slots:=#[] }
def Jec(gz:VN s.heap z TI TO a f)(ha:s.heap.get? a=some oa)(h:∀h',VN h' z TI TO a true->QH z s.heap h'->Q false { s with heap:=h' }):wpAny (model prog w) A (QX (.ref z)) Q E s:=by
 unfold QX;refine Qa (Q5 gz rfl (x:=rawInt a) rfl ?_);show wpAny _ _ (loadIfAlive (Int.toNat (a:Int)) >>= _) _ _ _;rw[Gu];refine Qa (PySem.W.kdx_alive ha ?_);show wpAny _ _ (field (.ref z) 1 >>= _) _ _ _;refine Qa (Q5 gz rfl (x:=.bool f) rfl ?_)
 cases f with
 | true=>exact Qg (h _ gz (Xs _ _))
 | false=>exact Qa (Gv gz (by simp) fun h' y e=>Qg (h h' y e))
def Jh2{Q:Qe->Qi->Prop}(D:ZA z TI TO i1 i2 p1 p2)(D1:Draws prog w A i1 p1 n1 P1 S1)(D2:Draws prog w A i2 p2 n2 P2 S2)(gz:VN s.heap z TI TO a f)(ha:s.heap.get? a=some oa)(gI:IsPair s.heap TI (.ref i1) (.ref i2))
 (st1:S1 k s.heap) (st2:S2 k s.heap) (l1:k<n1) (l2:k<n2)
 (hQ:∀x y h' tk,P1 k x->P2 k y->VN h' z TI TO a true->S1 (k+1) h'->S2 (k+1) h'->IsPair h' s.heap.objs.size x y->h'.objs.size=s.heap.objs.size+1 ->
  (∀c o,c≠z->c≠i1->c≠i2->s.heap.get? c=some o->h'.get? c=some o)->Q (.ref s.heap.objs.size) { s with heap:=h',toks:=tk }) :
 wpAny (model prog w) A (Builtin.«zip.__next__» ⟨[.ref z],[]⟩) (fun fin s'=>∃v,fin=.done (.ret v)/\Q v s') E s:=by
 obtain⟨hp,g,d,t0,os⟩:=s;have zi1:i1≠z:=fun q=>D.z1 (q▸D.m1)
 have zi2:i2≠z:=fun q=>D.z2 (q▸D.m2)
 show wpAny _ _ (field (.ref z) 2 >>= _) _ _ _;refine Qa (Q5 gz rfl (x:=.bool false) rfl (show wpAny _ _ (field (.ref z) 3 >>= _) _ _ _ from Qa (Q5 gz rfl (x:=.ref TI) rfl (Qa (GW gI rfl ?_)))))
 show wpAny _ _ (QX (.ref z) >>= _) _ _ _;refine Qa (Jec gz ha fun k1 y1 e1=>?_)
 replace e1:QH z hp k1:=e1;simp only[G7,if_false];refine Qa ?_;simp only[<- Array.forIn_toList,MF,MZ];refine Qa (Qa (GI (show wpAny _ _ (Go (.ref i1) >>= _) _ _ _ from Qa (D1.item k _ _ _ l1 (D1.frame _ _ _ st1 fun b hb o q=>e1.extBut b o (fun r=>D.z1 (r▸hb)) q) fun x k2 t2 px s2 e2=>Qg ?_))))
 replace e2:QH i1 k1 k2:=e2;refine Qg ?_;have st2':S2 k k2:=D2.frame _ _ _ st2 fun b hb o q=>e2.extBut b o (fun r=>D.x1 (r▸hb)) (e1.extBut b o (fun r=>D.z2 (r▸hb)) q)
 refine Qa (Qa (GI (show wpAny _ _ (Go (.ref i2) >>= _) _ _ _ from Qa (D2.item k _ _ _ l2 st2' fun y k4 t4 py s4 e4=>Qg ?_))))
 replace e4:QH i2 k2 k4:=e4;refine Qg (Qg (Qa (Mf (hsz:=show 2<=Qt by decide) (Qg ⟨_,rfl,?_⟩))));have hsz:k4.objs.size=hp.objs.size:=by rw[e4.1,e2.1,e1.1]
 have Z4:VN k4 z TI TO a true:=e4.extBut _ _ (Q3 zi2) (e2.extBut _ _ (Q3 zi1) y1)
 show Q (.ref k4.objs.size) _;rw[hsz];refine hQ x y _ t4 px py (Qh _ Z4) ?_ ?_ ?_ (by rw[Gz,hsz]) fun c o c1 c2 c3 q=>Qh _ (e4.extBut _ _ c3 (e2.extBut _ _ c2 (e1.extBut _ _ c1 q)))
 ·exact D1.frame _ _ _ s2 fun b hb o q=>Qh _ (e4.extBut b o (fun r=>D.x2 (r▸hb)) q)
 ·exact D2.frame _ _ _ s4 fun b hb o q=>Qh _ q
 ·show(k4.push _).get? hp.objs.size=_;rw[<- hsz];exact Qn _ rfl
def JkJ(D:ZA z TI TO i1 i2 p1 p2)(D1:Draws prog w A i1 p1 n1 P1 S1)(D2:Draws prog w A i2 p2 n2 P2 S2)(gz:VN s.heap z TI TO a f)(ha:s.heap.get? a=some oa)(gI:IsPair s.heap TI (.ref i1) (.ref i2))(st1:S1 k s.heap)(st2:S2 k s.heap)(hend:k=n1\/(k<n1/\k=n2))(hE:∀h' e tk,(∀c o,c≠z->c≠i1->c≠i2->s.heap.get? c=some o->h'.get? c=some o)->(∃o,h'.get? e=some o/\o.cls=.type "StopIteration")->E (.ref e) { s with heap:=h',toks:=tk }):
 wpAny (model prog w) A (Builtin.«zip.__next__» ⟨[.ref z],[]⟩) Q E s:=by
 obtain⟨hp,g,d,t0,os⟩:=s;show wpAny _ _ (field (.ref z) 2 >>= _) _ _ _;refine Qa (Q5 gz rfl (x:=.bool false) rfl (show wpAny _ _ (field (.ref z) 3 >>= _) _ _ _ from Qa (Q5 gz rfl (x:=.ref TI) rfl (Qa (GW gI rfl ?_)))));show wpAny _ _ (QX (.ref z) >>= _) _ _ _;refine Qa (Jec gz ha fun k1 y1 e1=>?_)
 replace e1:QH z hp k1:=e1;simp only[G7,if_false];refine Qa ?_;simp only[<- Array.forIn_toList,MF,MZ];have q1:S1 k k1:=D1.frame _ _ _ st1 fun b hb o q=>e1.extBut b o (fun r=>D.z1 (r▸hb)) q
 rcases hend with rfl|⟨l1,rfl⟩
 ·refine Qa (Qa (GI (show wpAny _ _ (Go (.ref i1) >>= _) _ _ _ from Qa (D1.done _ _ _ q1 fun k2 e e2 he=>?_))))
  replace e2:KM i1 k1 k2:=e2;exact hE k2 e t0 (fun c o c1 c2 _ q=>e2 _ _ c2 (e1.extBut _ _ c1 q)) he
 ·refine Qa (Qa (GI (show wpAny _ _ (Go (.ref i1) >>= _) _ _ _ from Qa (D1.item k _ _ _ l1 q1 fun x k2 t2 px s2 e2=>Qg ?_))))
  replace e2:QH i1 k1 k2:=e2;refine Qg ?_;have st2':S2 k k2:=D2.frame _ _ _ st2 fun b hb o q=>e2.extBut b o (fun r=>D.x1 (r▸hb)) (e1.extBut b o (fun r=>D.z2 (r▸hb)) q)
  refine Qa (Qa (GI (show wpAny _ _ (Go (.ref i2) >>= _) _ _ _ from Qa (D2.done _ _ _ st2' fun k4 e e4 he=>?_))))
  replace e4:KM i2 k2 k4:=e4;exact hE k4 e t2 (fun c o c1 c2 c3 q=>e4 _ _ c3 (e2.extBut _ _ c2 (e1.extBut _ _ c1 q))) he
def LzSt(b1 b2:Bool)(a1 a2 z TI TO i1 i2 S:Qj)(xs ys:Array Qe)(i:Nat)(h:Q1):Prop :=
 IsPair h TI (.ref i1) (.ref i2)/\(IsItr b1 h i1 a1 i/\IsSq b1 h a1 xs)/\(IsItr b2 h i2 a2 i/\IsSq b2 h a2 ys) ∧
 ((IsZip h z TI TO .none/\∃u v,IsPair h TO u v)\/∃a f oa,VN h z TI TO a f/\h.get? a=some oa/\a≠S/\a≠z/\a≠i1/\a≠i2)
def IsSq.keep{b:Bool}{h h':Q1}{a:Qj}{xs:Array Qe}(q:IsSq b h a xs)(k:∀o,h.get? a=some o->h'.get? a=some o):IsSq b h' a xs:=by
 cases b with
 | true=>obtain⟨o,e,r⟩:=q;exact⟨o,k o e,r⟩
 | false=>obtain⟨o,e,r⟩:=q;exact⟨o,k o e,r⟩
def IsItr.keep'(q:IsItr b h j a i)(k:∀o,h.get? j=some o->h'.get? j=some o):IsItr b h' j a i:=by
 cases b with
 | true=>obtain⟨o,e,r⟩:=q;exact⟨o,k o e,r⟩
 | false=>obtain⟨o,e,r⟩:=q;exact⟨o,k o e,r⟩
def LzSt.keep{h h':Q1}(x:LzSt b1 b2 a1 a2 z TI TO i1 i2 S xs ys i h)(k:∀b o,b≠S->h.get? b=some o->h'.get? b=some o)(n:S∉[z,TI,TO,i1,i2,a1,a2]):LzSt b1 b2 a1 a2 z TI TO i1 i2 S xs ys i h':=by
 simp only[Qk,GB,or_false,not_or] at n;obtain⟨n1,n2,n3,n4,n5,n6,n7⟩:=n;obtain⟨x1,x2,x3,x4⟩:=x;refine⟨k _ _ (Q3 n2) x1,⟨IsItr.keep' x2.1 fun o e=>k _ o (Q3 n4) e,IsSq.keep x2.2 fun o e=>k _ o (Q3 n6) e⟩,⟨IsItr.keep' x3.1 fun o e=>k _ o (Q3 n5) e,IsSq.keep x3.2 fun o e=>k _ o (Q3 n7) e⟩,?_⟩;rcases x4 with ⟨y1,u,v,y2⟩|⟨a,f,oa,y1,y2,y3⟩
 ·exact .inl ⟨k _ _ (Q3 n1) y1,u,v,k _ _ (Q3 n3) y2⟩
 ·exact .inr ⟨a,f,oa,k _ _ (Q3 n1) y1,k _ _ y3.1 y2,y3⟩
def Jlz{Q:Option Qe->Qi->Prop}(hh:A.handled=none)(Z:ZA z TI TO i1 i2 [i1,a1] [i2,a2])(st:LzSt b1 b2 a1 a2 z TI TO i1 i2 S xs ys i s.heap)(hS:S<s.heap.objs.size)(l1:i<xs.size)(l2:i<ys.size)
 (hQ:∀u v h' tk,xs[i]?=some u->ys[i]?=some v->LzSt b1 b2 a1 a2 z TI TO i1 i2 S xs ys (i+1) h'->IsPair h' s.heap.objs.size u v->h'.objs.size=s.heap.objs.size+1 ->
  (∀c o,c≠z->c≠TO->c≠i1->c≠i2->s.heap.get? c=some o->h'.get? c=some o)->Q (some (.ref s.heap.objs.size)) { s with heap:=h',toks:=tk }) :
 wpAny (model prog w) A (pyNext (.ref z)) Q E s:=by
 obtain⟨x1,x2,x3,x4⟩:=st
 have ne1:a1≠i1:=fun q=>by
  have:=Z.x1;subst q;rcases x2 with ⟨e1,e2⟩
  cases b1 with
  | true=>obtain⟨o,h1,h2,_⟩:=e1;obtain⟨o',h3,h4,_⟩:=e2;rw[h1] at h3;cases h3;rw[h2] at h4;exact absurd h4 (by decide)
  | false=>obtain⟨o,h1,h2,_⟩:=e1;obtain⟨o',h3,h4,_⟩:=e2;rw[h1] at h3;cases h3;rw[h2] at h4;exact absurd h4 (by decide)
 have ne2:a2≠i2:=fun q=>by
  subst q;rcases x3 with ⟨e1,e2⟩
  cases b2 with
  | true=>obtain⟨o,h1,h2,_⟩:=e1;obtain⟨o',h3,h4,_⟩:=e2;rw[h1] at h3;cases h3;rw[h2] at h4;exact absurd h4 (by decide)
  | false=>obtain⟨o,h1,h2,_⟩:=e1;obtain⟨o',h3,h4,_⟩:=e2;rw[h1] at h3;cases h3;rw[h2] at h4;exact absurd h4 (by decide)
 have hh1:A.in1.handled=none:=hh
 have D1:=Draws.sq (prog:=prog) (w:=w) (b:=b1) (xs:=xs) hh1 i1 ne1
 have D2:=Draws.sq (prog:=prog) (w:=w) (b:=b2) (xs:=ys) hh1 i2 ne2
 have Tt:∀o,s.heap.get? z=some o->o.cls=.type "zip"->s.TypeIs (.ref z) "zip":=fun o e c=>⟨o,e,c⟩
 have i1lt:i1<s.heap.objs.size:=by
  cases b1 with
  | true=>obtain⟨o,h1,_⟩:=x2.1;exact Qo h1
  | false=>obtain⟨o,h1,_⟩:=x2.1;exact Qo h1
 have i2lt:i2<s.heap.objs.size:=by
  cases b2 with
  | true=>obtain⟨o,h1,_⟩:=x3.1;exact Qo h1
  | false=>obtain⟨o,h1,_⟩:=x3.1;exact Qo h1
 rcases x4 with ⟨y1,u0,v0,y2⟩|⟨a,f,oa,y1,y2,y3,y4,y5,y6⟩
 ·have hT:=Tt _ y1 rfl;unfold pyNext;refine Qa (Kb (QO (name:=GC "__next__") hT G8 (QU G8 hT K8 (Jbu Z D1 D2 y1 x1 y2 x2 x3 l1 l2 fun u v k tk pu pv t1 t2 t3 t4 t5 t6 t7 t8=>Qg ?_) (KW _))));exact hQ u v k tk pu pv ⟨t2,t4,t5,.inr ⟨_,false,_,t1,t6,Gh hS,Gh (Qo y1),Gh i1lt,Gh i2lt⟩⟩ t6 t7 t8
 ·have hT:=Tt _ y1 rfl;unfold pyNext;refine Qa (Kb (QO (name:=GC "__next__") hT G8 (QU G8 hT K8 (Jh2 Z D1 D2 y1 y2 x1 x2 x3 l1 l2 fun u v k tk pu pv t1 t4 t5 t6 t7 t8=>Qg ?_) (KW _))))
  have ti1:TI≠i1:=fun q=>Z.t1 (by rw[q];simp)
  have ti2:TI≠i2:=fun q=>Z.t2 (by rw[q];simp)
  exact hQ u v k tk pu pv ⟨t8 _ _ Z.a1 ti1 ti2 x1,t4,t5,.inr ⟨a,true,oa,t1,t8 _ _ y4 y5 y6 y2,y3,y4,y5,y6⟩⟩ t6 t7 fun c o c1 _ c3 c4 q=>t8 c o c1 c3 c4 q
def Jlw{Q:Option Qe->Qi->Prop}(hh:A.handled=none)(Z:ZA z TI TO i1 i2 [i1,a1] [i2,a2])(st:LzSt b1 b2 a1 a2 z TI TO i1 i2 S xs ys i s.heap)(hend:i=xs.size\/(i<xs.size/\i=ys.size))
 (hQ:∀h' tk,(∀c o,c≠z->c≠TO->c≠i1->c≠i2->s.heap.get? c=some o->h'.get? c=some o)->Q none { s with heap:=h',toks:=tk }) :
 wpAny (model prog w) A (pyNext (.ref z)) Q E s:=by
 obtain⟨x1,x2,x3,x4⟩:=st
 have ne1:a1≠i1:=fun q=>by
  subst q;rcases x2 with ⟨e1,e2⟩
  cases b1 with
  | true=>obtain⟨o,h1,h2,_⟩:=e1;obtain⟨o',h3,h4,_⟩:=e2;rw[h1] at h3;cases h3;rw[h2] at h4;exact absurd h4 (by decide)
  | false=>obtain⟨o,h1,h2,_⟩:=e1;obtain⟨o',h3,h4,_⟩:=e2;rw[h1] at h3;cases h3;rw[h2] at h4;exact absurd h4 (by decide)
 have ne2:a2≠i2:=fun q=>by
  subst q;rcases x3 with ⟨e1,e2⟩
  cases b2 with
  | true=>obtain⟨o,h1,h2,_⟩:=e1;obtain⟨o',h3,h4,_⟩:=e2;rw[h1] at h3;cases h3;rw[h2] at h4;exact absurd h4 (by decide)
  | false=>obtain⟨o,h1,h2,_⟩:=e1;obtain⟨o',h3,h4,_⟩:=e2;rw[h1] at h3;cases h3;rw[h2] at h4;exact absurd h4 (by decide)
 have hh1:A.in1.handled=none:=hh
 have D1:=Draws.sq (prog:=prog) (w:=w) (b:=b1) (xs:=xs) hh1 i1 ne1
 have D2:=Draws.sq (prog:=prog) (w:=w) (b:=b2) (xs:=ys) hh1 i2 ne2;rcases x4 with ⟨y1,u0,v0,y2⟩|⟨a,f,oa,y1,y2,y3,y4,y5,y6⟩
 ·have hT:s.TypeIs (.ref z) "zip":=⟨_,y1,rfl⟩
  unfold pyNext;refine Qa (Kb (QO (name:=GC "__next__") hT G8 (QU G8 hT K8 (Jeb Z D1 D2 y1 x1 y2 x2 x3 hend fun k e tk kk he=>?_) (KW _))));obtain⟨o,ho,hoc⟩:=he;exact Qa (Kp (T:="StopIteration") (b:=true) ⟨o,ho,hoc⟩ K9 (Qg (hQ k tk kk)))
 ·have hT:s.TypeIs (.ref z) "zip":=⟨_,y1,rfl⟩
  unfold pyNext;refine Qa (Kb (QO (name:=GC "__next__") hT G8 (QU G8 hT K8 (JkJ Z D1 D2 y1 y2 x1 x2 x3 hend fun k e tk kk he=>?_) (KW _))));obtain⟨o,ho,hoc⟩:=he;exact Qa (Kp (T:="StopIteration") (b:=true) ⟨o,ho,hoc⟩ K9 (Qg (hQ k tk fun c o c1 _ c3 c4 q=>kk c o c1 c3 c4 q)))
structure LzG (xs ys:Array Qe) (lo:Qj) (h:Q1) (as:List Qj):Prop where
 rise:as.Pairwise (·<·)
 above:∀a∈as,lo<a
 pairs:∀(j:Nat) (a:Qj),as[j]?=some a->∃u v,xs[j]?=some u/\ys[j]?=some v/\IsPair h a u v
def LzG.there(g:LzG xs ys lo h as)(ha:a∈as):a<h.objs.size:=by obtain⟨j,hj⟩:=Ky.mp ha;obtain⟨_,_,_,_,e⟩:=g.pairs j a hj;exact Qo e
section
variable{prog:Qz}{w:QT}{A:QS}{s:Qi}{R:Rh->Qi->Prop}{b1 b2:Bool}{a1 a2 z TI TO i1 i2 S:Qj}{xs ys:Array Qe}
def JlB(hh:A.handled=none)(Z:ZA z TI TO i1 i2 [i1,a1] [i2,a2])(nS:S∉[z,TI,TO,i1,i2,a1,a2])(hlo:∀b∈[z,TI,TO,i1,i2],b<S)(n:Nat)(hn:n=min xs.size ys.size)(hz:n<=Qt)(res:Qe){h₁:Q1}
 (hR:∀h' tk acc c as,(∀b o,b≠S->b≠z->b≠TO->b≠i1->b≠i2->h₁.get? b=some o->h'.get? b=some o)->h'.get? S=some { cls:=.type "list",dict:=none,data:=.seq acc c,slots:=#[] }->as.length=n->LzG xs ys S h' as ->
  acc.toList=as.map Value.ref->R (.ok (.ret res)) { s with heap:=h',toks:=tk }) :
 ∀(k i:Nat) (h:Q1) (tk c:Nat) (acc:Array Qe) (as:List Qj),n-i=k->i<=n->LzSt b1 b2 a1 a2 z TI TO i1 i2 S xs ys i h->(∀b o,b≠S->b≠z->b≠TO->b≠i1->b≠i2->h₁.get? b=some o->h.get? b=some o) ->
  h.get? S=some { cls:=.type "list",dict:=none,data:=.seq acc c,slots:=#[] }->acc.toList=as.map Value.ref->as.length=i->LzG xs ys S h as ->
  codeAny (model prog w) A (.builtin "list.extend.loop" ⟨[.ref S,.ref z,res],[]⟩) R { s with heap:=h,toks:=tk }:=by
 have Sz:S≠z:=Gh (hlo z (by simp))
 have ST:S≠TO:=Gh (hlo TO (by simp))
 have S1:S≠i1:=Gh (hlo i1 (by simp))
 have S2:S≠i2:=Gh (hlo i2 (by simp))
 have off:∀{b:Qj},S<b->b≠z/\b≠TO/\b≠i1/\b≠i2:=fun {b} h=>⟨Gh (Kf (hlo z (by simp)) h),Gh (Kf (hlo TO (by simp)) h),Gh (Kf (hlo i1 (by simp)) h),Gh (Kf (hlo i2 (by simp)) h)⟩
 intro k
 induction k with
 | zero =>
  intro i h tk c acc as hk hi hst hkeep hS hacc hal hG;have hin:i=n:=by omega
  refine G9 M6 ?_;rw[GJ G6 _];show wpAny _ A.in1 (pyNext (.ref z) >>= _) _ _ _;refine Qa (Jlw (s:={ s with heap:=h,toks:=tk }) (A:=A.in1) hh Z hst (by omega) fun h' tk' he=>?_);refine Qg (hR h' tk' acc c as (fun b o h1 h2 h3 h4 h5 e=>he b o h2 h3 h4 h5 (hkeep b o h1 h2 h3 h4 h5 e)) (he S _ Sz ST S1 S2 hS) (by omega) ⟨hG.rise,hG.above,fun j a hj=>?_⟩ hacc);obtain⟨u,v,e1,e2,e3⟩:=hG.pairs j a hj
  obtain⟨o1,o2,o3,o4⟩:=off (hG.above a (QI hj));exact⟨u,v,e1,e2,he a _ o1 o2 o3 o4 e3⟩
 | succ k ih =>
  intro i h tk c acc as hk hi hst hkeep hS hacc hal hG;have hlt:i<n:=by omega
  have hsz:acc.size=i:=by rw[<- QN,hacc,Qm,hal]
  have hSl:S<h.objs.size:=Qo hS;refine G9 M6 ?_;rw[GJ G6 _]
  show wpAny _ A.in1 (pyNext (.ref z) >>= _) _ _ _;refine Qa (Jlz (s:={ s with heap:=h,toks:=tk }) (A:=A.in1) hh Z hst hSl (by omega) (by omega) fun u v h' tk' pu pv hst' ht hz' hkp=>?_);dsimp only at ht hz' hkp ⊢
  have hS':=hkp S _ Sz ST S1 S2 hS
  have up:∀b o,b≠S->h'.get? b=some o->(h'.update S (KG (·.push (Value.ref h.objs.size)))).get? b=some o:=fun b o hb e=>(Gb _ _ (Q3 hb)).trans e
  show wpAny _ A.in1 (updateSeq S (·.push (Value.ref h.objs.size)) >>= _) _ _ _;refine Qa ?_;refine Ku hS' rfl (Qg ⟨Ki G6 _,ih (i+1) _ tk' _ (acc.push (Value.ref h.objs.size)) (as++[h.objs.size]) (by omega) hlt (hst'.keep up nS)
   (fun b o h1 h2 h3 h4 h5 e=>up b o h1 (hkp b o h2 h3 h4 h5 (hkeep b o h1 h2 h3 h4 h5 e))) (Gg _ hS' rfl) (by rw[Rc,hacc,QF];rfl) (by rw[Qv,hal];rfl) ⟨?_,?_,?_⟩⟩) (by rw[hsz];omega) (by show(acc.push (Value.ref h.objs.size)).size<=Qt+1;rw[Array.size_push,hsz];omega)
  ·refine Kq.mpr ⟨hG.rise,L9 _ _,fun a ha b hb=>?_⟩;rw[QP.mp hb];exact hG.there ha
  ·intro a ha;rcases Gd.mp ha with ha|ha
   ·exact hG.above a ha
   ·rw[QP.mp ha];exact hSl
  ·intro j b hj;rcases LF j as.length with h1|h1|h1
   ·rw[Gc h1] at hj;obtain⟨u',v',e1,e2,e3⟩:=hG.pairs j b hj;have hb:=hG.above b (QI hj);obtain⟨o1,o2,o3,o4⟩:=off hb;exact⟨u',v',e1,e2,up b _ (Gh hb) (hkp b _ o1 o2 o3 o4 e3)⟩
   ·subst h1;have hb:h.objs.size=b:=by simpa using hj
    subst hb;exact⟨u,v,by rw[hal];exact pu,by rw[hal];exact pv,up _ _ (Gh hSl) ht⟩
   ·have hnone:(as++[h.objs.size])[j]?=none:=GO (by rw[Qv,Q0];omega);rw[hnone] at hj;cases hj
end
end PySem
namespace PySem
open PySem.Calls PyProof.Rows PyProof.V PySem.Spec
def Joq:typeLookup (.type "zip") "__len__"=pure none:=by rw[typeLookup_type,builtinLookup_eq_fast];kernel_rfl
def JlA:typeLookup (.type "zip") "__length_hint__"=pure none:=by rw[typeLookup_type,builtinLookup_eq_fast];kernel_rfl
def Jlx(hT:s.TypeIs (.ref z) "zip")(h:Q true s):wpAny (model prog w) A (KJ (.ref z)) Q E s:=by unfold KJ;refine Qa (KS hT Joq ?_);refine Lw (fun hab=>absurd hab (by decide)) (fun _=>?_);refine Lw (fun hab=>absurd hab (by decide)) (fun _=>?_);refine Qa (KS hT JlA ?_);exact Qg h
def Jhy(hh:A.handled=none)(S:Qj)(Z:ZA z TI TO i1 i2 [i1,a1] [i2,a2])(nS:S∉[z,TI,TO,i1,i2,a1,a2])(hlo:∀b∈[z,TI,TO,i1,i2],b<S)(n:Nat)(hn:n=min xs.size ys.size)(hz:n<=Qt)(hzip:IsZip s.heap z TI TO .none)(st:LzSt b1 b2 a1 a2 z TI TO i1 i2 S xs ys 0 s.heap)(res:Qe)(c₀:Nat)(hS:s.heap.get? S=some { cls:=.type "list",data:=.seq #[] c₀ })(hR:∀h' tk acc c as,(∀b o,b≠S->b≠z->b≠TO->b≠i1->b≠i2->s.heap.get? b=some o->h'.get? b=some o)->h'.get? S=some { cls:=.type "list",dict:=none,data:=.seq acc c,slots:=#[] }->as.length=n->LzG xs ys S h' as ->
  acc.toList=as.map Value.ref->R (.ok (.ret res)) { s with heap:=h',toks:=tk }):
 wpAny (model prog w) A.in1 (Kg (.ref S) (.ref z) res)
  (fun fin s'=>match fin with|.done f=>R (.ok f) s'|.again c'=>c'.quiet=true/\codeAny (model prog w) A c' R s') (fun e s'=>R (.error e) s') s:=by
 have key:∀(h:Q1) (c₁ tk:Nat),(∀b o,b≠S->s.heap.get? b=some o->h.get? b=some o) ->
  h.get? S=some { cls:=.type "list",data:=.seq #[] c₁ }->codeAny (model prog w) A (.builtin "list.extend.loop" ⟨[.ref S,.ref z,res],[]⟩) R { s with heap:=h,toks:=tk }:=by
  intro h c₁ tk hk hS₁;exact JlB (s:=s) (h₁:=s.heap) hh Z nS hlo n hn hz res hR n 0 h tk c₁ #[] [] (Nat.sub_zero _) (GP _) (st.keep hk nS) (fun b o hb _ _ _ _ e=>hk b o hb e) hS₁ rfl rfl
   ⟨List.Pairwise.nil,(fun _ ha=>nomatch ha),(fun j a hj=>by simp at hj)⟩
 have hT:s.TypeIs (.ref z) "zip":=⟨_,hzip,rfl⟩
 have hSz:S≠z:=Gh (hlo z (by simp));unfold Kg;refine Qa (Md (T:="zip") hT ?_)
 have h1:K3 (.ref S) (.ref z)=false:=by simp[K3,hSz]
 have h2:(Value.type "zip" == Value.type "list")=false:=by decide
 have h3:(Value.type "zip" == Value.type "tuple")=false:=by decide
 simp only[h1,h2,h3,Rk,G7,if_false];refine Qa (Ru hzip ?_);refine Qa (GI (Jlx hT ?_));refine Lw (fun _=>?_) (fun _=>Qg ⟨Ki G6 _,key _ c₀ _ (fun b o _ e=>e) hS⟩);refine Qa (KH ?_);refine Qa ?_;show wpAny _ _ (updateSeq S (·.push .none) >>= fun _=>updateSeq S (·.pop)) _ _ _;refine Qa (Ku hS rfl ?_);have hS₂:=Gg (KG (·.push Value.none)) hS rfl
 refine Ku (hz:=by seq_fits) hS₂ rfl ?_;have hS₃:=Gg (KG (·.pop)) hS₂ rfl;refine Qg ⟨Ki G6 _,key _ _ _ (fun b o hb e=>?_) hS₃⟩;exact(Gb _ _ (Q3 hb)).trans ((Gb _ _ (Q3 hb)).trans e)
def Jly{R:Rh->Qi->Prop}(hh:A.handled=none)(S:Qj)(Z:ZA z TI TO i1 i2 [i1,a1] [i2,a2])(nS:S∉[z,TI,TO,i1,i2,a1,a2])(hlo:∀b∈[z,TI,TO,i1,i2],b<S)(n:Nat)(hn:n=min xs.size ys.size)(hz:n<=Qt)
 (hzip:IsZip s.heap z TI TO .none) (st:LzSt b1 b2 a1 a2 z TI TO i1 i2 S xs ys 0 s.heap) (hS:s.heap.get? S=some { cls:=.type "list",data:=.seq #[] })
 (hR:∀h' tk acc c as,(∀b o,b≠S->b≠z->b≠TO->b≠i1->b≠i2->s.heap.get? b=some o->h'.get? b=some o)->h'.get? S=some { cls:=.type "list",dict:=none,data:=.seq acc c,slots:=#[] }->as.length=n->LzG xs ys S h' as ->
  acc.toList=as.map Value.ref->R (.ok (.ret .none)) { s with heap:=h',toks:=tk }) :
 wpAny (model prog w) A.in1 (Builtin.«list.__init__» ⟨[.ref S,.ref z],[]⟩)
  (fun fin s'=>match fin with|.done f=>R (.ok f) s'|.again c'=>c'.quiet=true/\codeAny (model prog w) A c' R s') (fun e s'=>R (.error e) s') s:=by
 have hSz:S≠z:=Gh (hlo z (by simp))
 show wpAny _ _ (do let old <- RI (.ref S);Builtin.List.listUpdate (.ref S) (fun _=>#[]);letGo old.toList.reverse;Kg (.ref S) (.ref z) .none) _ _ s;refine Qa ?_;unfold RI;refine Qa (GW hS rfl (Qg ?_))
 show wpAny _ _ (updateSeq S (fun _=>#[]) >>= fun _=>letGo (#[]:Array Qe).toList.reverse >>= fun _=>Kg (.ref S) (.ref z) .none) _ _ s;refine Qa (Ku hS rfl ?_)
 have hS₂:=Gg (KG (fun _=>(#[]:Array Qe))) hS rfl
 have oth:∀b o,b≠S->s.heap.get? b=some o->(s.heap.update S (KG (fun _=>(#[]:Array Qe)))).get? b=some o :=
  fun b o hb e=>(Gb _ _ (Q3 hb)).trans e
 refine Qa (Lg ?_);exact Jhy hh S Z nS hlo n hn hz (oth _ _ hSz.symm hzip) (st.keep oth nS) .none _ hS₂ (fun h' tk acc c as hk hS' hl hG hacc=>hR h' tk acc c as (fun b o hb h1 h2 h3 h4 e=>hk b o hb h1 h2 h3 h4 (oth b o hb e)) hS' hl hG hacc)
def Jlv{Q:Qe->Qi->Prop}(hh:A.handled=none)(Z:ZA z TI TO i1 i2 [i1,a1] [i2,a2])(n:Nat)(hn:n=min xs.size ys.size)(hz:n<=Qt)
 (hzip:IsZip s.heap z TI TO .none) (gI:IsPair s.heap TI (.ref i1) (.ref i2)) (gO:IsPair s.heap TO .none .none) (t1:IsItr b1 s.heap i1 a1 0) (t2:IsItr b2 s.heap i2 a2 0) (q1:IsSq b1 s.heap a1 xs) (q2:IsSq b2 s.heap a2 ys)
 (hQ:∀h' tk acc c as,(∀b o,b≠z->b≠TO->b≠i1->b≠i2->s.heap.get? b=some o->h'.get? b=some o)->h'.get? s.heap.objs.size=some { cls:=.type "list",dict:=none,data:=.seq acc c,slots:=#[] }->as.length=n->LzG xs ys s.heap.objs.size h' as ->
  acc.toList=as.map Value.ref->Q (.ref s.heap.objs.size) { s with heap:=h',toks:=tk }) :
 wpAny (model prog w) A (call (.type "list") [.ref z]) Q E s:=by
 refine callType_codes (Q₁:=fun obj s₁=>obj=.ref s.heap.objs.size/\s₁={ s with heap:=s.heap.push { cls:=.type "list",data:=.seq #[] } }) PySem.F.called_list (PySem.F.typeCall_list_1 _) PySem.F.entry_list_init
  (code_list_new _ ⟨rfl,rfl⟩) fun obj s₁ h₁=>?_
 obtain⟨rfl,rfl⟩:=h₁;have hS:(s.heap.push { cls:=.type "list",data:=.seq #[] }).get? s.heap.objs.size=some { cls:=.type "list",data:=.seq #[] }:=Qn _ rfl;have up:∀b o,s.heap.get? b=some o->(s.heap.push { cls:=.type "list",data:=.seq #[] }).get? b=some o:=fun b o e=>Qh _ e
 have i1lt:i1<s.heap.objs.size:=by
  cases b1 with
  | true=>obtain⟨o,h1,_⟩:=t1;exact Qo h1
  | false=>obtain⟨o,h1,_⟩:=t1;exact Qo h1
 have i2lt:i2<s.heap.objs.size:=by
  cases b2 with
  | true=>obtain⟨o,h1,_⟩:=t2;exact Qo h1
  | false=>obtain⟨o,h1,_⟩:=t2;exact Qo h1
 have lo:∀b∈[z,TI,TO,i1,i2],b<s.heap.objs.size:=fun b hb=>by
  simp only[Qk,GB,or_false] at hb;rcases hb with rfl|rfl|rfl|rfl|rfl
  ·exact Qo hzip
  ·exact Qo gI
  ·exact Qo gO
  ·exact i1lt
  ·exact i2lt
 have nS:s.heap.objs.size∉[z,TI,TO,i1,i2,a1,a2]:=fun hm=>by
  simp only[Qk,GB,or_false] at hm;rcases hm with e|e|e|e|e|e|e
  ·exact absurd (Qo hzip) (by rw[e];exact Gr _)
  ·exact absurd (Qo gI) (by rw[e];exact Gr _)
  ·exact absurd (Qo gO) (by rw[e];exact Gr _)
  ·exact absurd i1lt (by rw[e];exact Gr _)
  ·exact absurd i2lt (by rw[e];exact Gr _)
  ·exact absurd q1.lt (by rw[e];exact Gr _)
  ·exact absurd q2.lt (by rw[e];exact Gr _)
 refine⟨⟨_,hS,rfl⟩,PySem.F.args_list_init_2 _ _,Jly (A:=A.in1) (b1:=b1) (b2:=b2) hh _ Z nS lo n hn hz (up _ _ hzip) ⟨up _ _ gI,⟨IsItr.keep' t1 fun o e=>up _ o e,q1.push _⟩,⟨IsItr.keep' t2 fun o e=>up _ o e,q2.push _⟩,.inl ⟨up _ _ hzip,_,_,up _ _ gO⟩⟩ hS (fun h' tk acc c as hk hS' hl hG hacc=>?_)⟩;exact⟨rfl,hQ h' tk acc c as (fun b o h1 h2 h3 h4 e=>hk b o (QD (Qo e)) h1 h2 h3 h4 (up b o e)) hS' hl hG hacc⟩
end PySem
namespace L2
open PySem PySem.Spec PyProof.Rows
noncomputable def VF(H:Hp):List Qj->List (V×V)->Hp
 | a::as,kv::kvs=>upd (VF H as kvs) a (.tup [kv.1,kv.2])
 | _,_=>H
theorem Uj:∀{as:List Qj} {kvs:List (V×V)},b∉as->VF H as kvs b=H b
 | [],_,_=>rfl
 | _::_,[],_=>rfl
 | a::as,kv::kvs,h=>by rw[VF,Ji fun z=>h (by rw[z];exact Qc)];exact Uj fun m=>h (Qd _ m)
theorem Zi{H:Hp}:∀{as:List Qj} {kvs:List (V×V)} {j:Nat} {a:Qj} {kv:V×V},as.Nodup->as[j]?=some a->kvs[j]?=some kv->VF H as kvs a=some (.tup [kv.1,kv.2])
 | [],_,_,_,_,_,e,_=>by simp at e
 | _::_,[],_,_,_,_,_,e=>by simp at e
 | b::as,kv'::kvs,0,a,kv,_,e1,e2=>by simp at e1 e2;subst e1 e2;rw[VF,Jn]
 | b::as,kv'::kvs,j+1,a,kv,hn,e1,e2=>by
  rw[QY] at hn;simp at e1 e2;have hne:a≠b:=fun z=>hn.1 (by rw[<- z];exact QI e1)
  rw[VF,Ji hne];exact Zi hn.2 e1 e2
def nm2{x y z:Nat}(h1:x≠y)(h2:x≠z):x∉[y,z]:=by simp[h1,h2]
def JrZ(h:b<n):b≠n+4/\b≠n+3/\b≠n/\b≠n+1/\b≠n+2:=by omega
def za5{n a1 a2:Nat}(h1:a1<n)(h2:a2<n):ZA (n+4) (n+2) (n+3) n (n+1) [n,a1] [n+1,a2] :=
 ⟨show(n+2:Nat)≠n+4 by omega,show(n+3:Nat)≠n+4 by omega,show(n+2:Nat)≠n+3 by omega,by simp,by simp,
  nm2 (by omega) (by omega),nm2 (by omega) (by omega),nm2 (by omega) (by omega),nm2 (by omega) (by omega),nm2 (by omega) (by omega),nm2 (by omega) (by omega),nm2 (by omega) (by omega),nm2 (by omega) (by omega)⟩
noncomputable def Jd3(K:QE)(ta:TA):TE:=fun σ H Q=>ta σ H fun vs H1=>∃(b1 b2:Bool) (a1 a2:Qj) (xs ys:List V),vs=[.ref a1,.ref a2]/\Sq b1 K H1 a1 xs/\Sq b2 K H1 a2 ys/\(xs.zip ys).length<=Qt ∧
 ∀(L:Qj) (as:List Qj),H1 L=none->as.length=(xs.zip ys).length->as.Nodup->L∉as->(∀b∈as,H1 b=none)->Q (.ref L) (upd (VF H1 as (xs.zip ys)) L (.lst (as.map V.ref)))
def JdC{X:Cx}{K:QE}{a b:GA}{ta:TA}{p pos p2 pos2:Pos}(hK:X.K=K)(hc:X.calm=true)(hgl:Gl X "list")(hml:X.mg "list"=none)(hg:Gl X "zip")(hm:X.mg "zip"=none)(ha:PA X [a,b] ta)(hs:starEach [a,b] X.env=[(false,eval a X.env),(false,eval b X.env)]:=by rfl)
 (hs2:starEach [b] X.env=[(false,eval b X.env)]:=by rfl):PE X (.Call (.Name "list" p) [.Call (.Name "zip" p2) [a,b] [] pos2] [] pos) (Jd3 K ta):=by
 subst hK;intro pins s σ H Q I h;refine Call_ (Uv I hgl hml Vu (GY ?_ rfl rfl));show wpAny _ _ (spliced ((false,eval (.Call (.Name "zip" p2) [a,b] [] pos2) X.env)::backTo pos (starEach [] X.env))) _ _ s;refine KN ?_;refine Call_ (Uv I hg hm Jim (GY (thn (ha pos2 pins s σ H _ I h) fun us s1 ⟨vs,H1,I1,r1,q1⟩=>?_) (by rw[hs,hs2]) (by rw[hs2];rfl)));obtain⟨b1,b2,a1,a2,xs,ys,e,c1,c2,hz,q⟩:=q1
 subst e
 cases r1 with
 | cons r rr =>
 cases rr with
 | cons r' rr =>
 cases rr;cases r;cases r';obtain⟨its,w1,p1⟩:=c1.heap I1;obtain⟨jts,w2,p2'⟩:=c2.heap I1;have hh:X.A.handled=none:=I1.ok.hd hc;have n1:its.toArray.size=xs.length:=by rw[Qu,w1.length]
 have n2:jts.toArray.size=ys.length:=by rw[Qu,w2.length]
 have hzl:(xs.zip ys).length=min its.toArray.size jts.toArray.size:=by rw[GG,n1,n2]
 refine JaZ p1 p2' fun h' t1 t2 t3 t4 t5 kp=>Mc ?_
 have Z:ZA (s1.heap.objs.size+4) (s1.heap.objs.size+2) (s1.heap.objs.size+3) s1.heap.objs.size (s1.heap.objs.size+1) [s1.heap.objs.size,a1] [s1.heap.objs.size+1,a2]:=za5 p1.lt p2'.lt;refine Jlv (s:={ s1 with heap:=h' }) hh Z (xs.zip ys).length hzl hz t1 t2 t3 t4 t5 (p1.keep fun o e=>kp _ o e) (p2'.keep fun o e=>kp _ o e) fun h2 tk acc c as hk hS hal hG hacc=>?_
 have hle:s1.heap.objs.size<h'.objs.size:=Kn (Mp _ 4) (Qo t1)
 have hnd:as.Nodup:=hG.rise.imp fun {x y} h=>QD h
 have hLa:h'.objs.size∉as:=fun m=>absurd (hG.above _ m) (Gr _)
 have fr:∀b∈as,H1 b=none:=fun b hb=>I1.hok.fresh (Kc (Kf hle (hG.above b hb)))
 have hne:H1 h'.objs.size=none:=I1.hok.fresh (Kc hle);refine⟨.ref h'.objs.size,_,I1.more (t':=tk) (fun b u e=>?_) (fun b hb=>?_) (fun b o hb e=>?_),rfl,q h'.objs.size as hne hal hnd hLa fr⟩
 ·obtain⟨o1,o2,o3,o4,_⟩:=JrZ (Qo e);exact hk b u o1 o2 o3 o4 (kp b u e)
 ·rw[Ji (QD (Kf hb hle))];exact Uj fun m=>absurd (hG.above b m) (Mo.mpr (Kc (Kf hb hle)))
 ·by_cases hL:b=h'.objs.size
  ·subst hL;rw[Jn] at e;cases e;refine⟨by rw[Qm,hal];exact hz,acc.toList,c,?_,?_⟩
   ·rw[hacc]
    have:∀l:List Qj,Vals (l.map V.ref) (l.map Value.ref):=fun l=>by
     induction l with
     | nil=>exact .nil
     | cons x l ih=>exact .cons rfl ih
    exact this as
   ·rw[hS]
  ·rw[Ji hL] at e
   by_cases hm:b∈as
   ·obtain⟨j,hj⟩:=Ky.mp hm;obtain⟨u,v,e1,e2,e3⟩:=hG.pairs j b hj;have hjl:j<(xs.zip ys).length:=by have:=(Qq.mp hj).1;omega
    have hkv:(xs.zip ys)[j]?=some (xs.zip ys)[j]:=Qy hjl
    have hx:xs[j]?=some (xs.zip ys)[j].1:=by rw[List.getElem_zip];exact Qy _
    have hy:ys[j]?=some (xs.zip ys)[j].2:=by rw[List.getElem_zip];exact Qy _
    obtain⟨ux,hux,rux⟩:=w1.get hx;obtain⟨uy,huy,ruy⟩:=w2.get hy
    have eu:u=ux:=by
     have e1':its[j]?=some u:=by simpa using e1
     rw[hux] at e1';exact(QQ e1').symm
    have ev:v=uy:=by
     have e2':jts[j]?=some v:=by simpa using e2
     rw[huy] at e2';exact(QQ e2').symm
    subst eu ev;rw[Zi hnd hj hkv] at e;cases e;exact⟨by show 2<=Qt;decide,[u,v],.cons rux (.cons ruy .nil),⟨_,e3,rfl,_,rfl⟩⟩
   ·rw[Uj hm,I1.hok.fresh hb] at e;cases e
end L2
namespace LE
open PySem L2 LR
noncomputable def JiG(as:En->Option (List Sl)):Ev:=fun E=>(as E).bind fun ss=>match ss with
 | [s,t]=>(s.it true).bind fun ds=>(t.it true).bind fun es=>if ds.length<=Qt then some (.own (JaP ds es)) else none
 | _=>none
def Jbd(h:∀b∈as,H b=none):Same H (VF H as kvs):=fun b o e=>by rw[Uj fun m=>by rw[h b m] at e;cases e];exact e
theorem Jf4:∀{as:List Qj} {kvs:List (V×V)} {b:Qj} {o:HO},VF H as kvs b=some o->H b=some o\/b∈as
 | [],_,_,_,e=>.inl e
 | _::_,[],_,_,e=>.inl e
 | a::as,kv::kvs,b,o,e=>by
  by_cases c:b=a
  ·exact .inr (by rw[c];exact Qc)
  ·rw[VF,Ji c] at e;exact(Jf4 e).imp id fun m=>Qd _ m
theorem RDL.zips:∀{xs ys:List V} {ds es:List D} {as:List Qj} {H:Hp},as.length=(xs.zip ys).length->(∀(j:Nat) (a:Qj) (x y:V),as[j]?=some a->xs[j]?=some x->ys[j]?=some y->H a=some (.tup [x,y]))->RDL K C H xs ds->RDL K C H ys es->RDL K C H (as.map V.ref) (JaP ds es)
 | [],ys,ds,es,as,H,h1,_,r,r'=>by
  have:ds=[]:=by
   cases ds with
   | nil=>rfl
   | cons d ds=>have:=r.1;simp at this
  subst this;have:as=[]:=QA (by simpa using h1);subst this;exact .nil
 | x::xs,[],ds,es,as,H,h1,_,r,r'=>by
  have:es=[]:=by
   cases es with
   | nil=>rfl
   | cons d ds=>have:=r'.1;simp at this
  subst this;have:as=[]:=QA (by simpa using h1);subst this;cases ds <;> exact .nil
 | x::xs,y::ys,[],es,as,H,h1,_,r,r'=>by have:=r.1;simp at this
 | x::xs,y::ys,d::ds,[],as,H,h1,_,r,r'=>by have:=r'.1;simp at this
 | x::xs,y::ys,d::ds,e::es,[],H,h1,_,r,r'=>by simp at h1
 | x::xs,y::ys,d::ds,e::es,a::as,H,h1,h3,r,r'=>by show RDL K C H (V.ref a::as.map V.ref) (.tup [d,e]::JaP ds es);exact .cons (.mkT (.of (h3 0 a x y rfl rfl rfl)) (.cons r.head (.cons r'.head .nil))) (RDL.zips (by simpa using h1) (fun j a x y e1 e2 e3=>h3 (j+1) a x y (by simpa using e1) (by simpa using e2) (by simpa using e3)) r.tail r'.tail)
def JpF(ha:SA K C t ev):SE K C (Jd3 K t) (JiG ev):=by
 intro B H0 H σ E r Q I e q;obtain⟨ss,e1,e⟩:=bind_some e;split at e
 ·next s u =>
  obtain⟨ds1,e2,e⟩:=bind_some e;obtain⟨ds2,e3,e⟩:=bind_some e;split at e
  ·next hz =>
   cases e;refine ha B H0 H σ E _ _ I e1 fun vs H1 H1' s1 r1=>?_
   obtain⟨v,w,rfl,ra,rb⟩:=r1.two;have f:=JF (Hs:=H) s1.i;obtain⟨b1,a1,xs,rfl,k1,w1⟩:=Jhk (m:=true) ra s1.i e2;obtain⟨b2,a2,ys,rfl,k2,w2⟩:=Jhk (m:=true) rb s1.i e3;have st0:SStep H1' (JN H H1 H1') (JN H H1 H1') H1':=⟨Same.refl _,Same.refl _,fun _ _ e=>.inl e,f.i⟩
   have s2:=s1.comp f fun _ z=>z
   refine⟨b1,b2,a1,a2,xs,ys,rfl,k1 _ (fun _=>rfl) _ _ st0,k2 _ (fun _=>rfl) _ _ st0,?_,fun L as hL hal hnd hLa hfr=>?_⟩
   ·rw[GG,w1.1];exact Gy (Nat.min_le_left _ _) hz
   have fr0:∀b∈as,JN H H1 H1' b=none:=fun b hb=>Same.free s2.i (hfr b hb)
   have frH:∀b∈as,H b=none:=fun b hb=>Same.free s2.h (hfr b hb)
   have hL0:JN H H1 H1' L=none:=Same.free s2.i hL
   have z0:Same (JN H H1 H1') (VF (JN H H1 H1') as (xs.zip ys)):=Jbd fr0
   have zz:Same H1' (VF H1' as (xs.zip ys)):=Jbd hfr
   have hLl:VF H1' as (xs.zip ys) L=none:=by rw[Uj hLa];exact hL
   have ii:Same (VF (JN H H1 H1') as (xs.zip ys)) (VF H1' as (xs.zip ys)):=fun b o e=>by
    by_cases hb:b∈as
    ·obtain⟨j,hj⟩:=Ky.mp hb
     have hjl:j<(xs.zip ys).length:=by have:=(Qq.mp hj).1;omega
     have hkv:=Qy hjl;rw[Zi hnd hj hkv] at e ⊢;exact e
    ·rw[Uj hb] at e ⊢;exact s2.i b o e
   refine q _ (VF (JN H H1 H1') as (xs.zip ys)) _ ⟨(s2.h.trans zz).trans (.new hLl),s2.z.trans z0,fun b o e=>?_,ii.trans (.new hLl)⟩ ⟨L,as.map V.ref,rfl,Jn,by rw[Uj hLa];exact hL0,Same.free s2.h hL,?_⟩
   ·rcases Jf4 e with z|z
    ·exact s2.n b o z
    ·exact .inr (.inl (frH b z))
   ·refine RDL.zips hal (fun j a x y j1 j2 j3=>?_) (w1.mono z0) (w2.mono z0);exact Zi (kv:=(x,y)) hnd j1 (by rw[LS];exact⟨j2,j3⟩)
  ·cases e
 ·cases e
end LE
namespace L2
open PySem PySem.Spec PyProof.Rows
def JnR(I:Inv X pins σ H s)(e:H a=some (.dK kvs))(ry:RelV (kV k) u)(rz:RelV z r)(l:kvs.length<Qt)(h1:∀v w' s',Um kvs k=some v->Inv X pins σ H s'->RelV v w'->Q w' s')(h2:Um kvs k=none->∀s',Inv X pins σ (upd H a (.dK (UJ kvs k z))) s'->Q r s'):
 wpAny (model X.prog X.w) A (call (.builtin "dict.setdefault") [.ref a,u,r]) Q E s:=by
 obtain⟨hz,hd,vs,rel,dd⟩:=Jm2 I.hok e;have hzl:vs.length<=Qt:=by rw[<- rel.length];exact hz
 have hl:(UJ kvs k z).length<=Qt:=by have:=Va kvs k z;omega
 refine call_meetsIn MG dd.typeIs PySem.F.entry_dict_setdefault (PySem.F.args_dict_setdefault_3 _ _ _) (kt_meets_setdefault (JH X.prog X.w) a (Jdf ry) hd r) ⟨vs,dd,hzl,fun v hv=>?_,fun hn h' dd' hs=>?_⟩
 ·have rv:=rel.val k;rw[hv] at rv
  cases hk:Um kvs k with
  | none=>rw[hk] at rv;cases rv
  | some y=>rw[hk] at rv;exact h1 y v _ hk (I.tok _) rv
 ·have rv:=rel.val k;rw[hn] at rv
  have hk:Um kvs k=none:=by
   cases hk:Um kvs k with
   | none=>rfl
   | some y=>rw[hk] at rv;cases rv
  refine h2 hk _ ?_;have he:∃q,h'.get? a=some q:=let ⟨q,_,_,hq,_⟩:=dd';⟨q,hq⟩
  exact JbM I (by rw[e];exact True.intro) hs he (JiC hl hd (rel.put k rz) dd')
noncomputable def JcE(td ty tx:TE):TE:=fun σ H Q=>td σ H fun x H1=>∃a,x=.ref a/\IsD H1 a/\ty σ H1 fun y H2=>tx σ H2 fun z H3=>∃kvs k,H3 a=some (.dK kvs)/\y=kV k/\kvs.length<Qt ∧
 (∀v,Um kvs k=some v->Q v H3)/\(Um kvs k=none->Q z (upd H3 a (.dK (UJ kvs k z))))
def JdA(ho:PE X o td)(he:PE X e ty)(hf:PE X f tx)(m:M2 X o "setdefault" apos e f cpos):PE X (.Call (.Attribute o "setdefault" apos) [e,f] [] cpos) (JcE td ty tx):=by
 intro pins s σ H Q I h;refine wpAny_Call_method m.base m.few m.line KD MG PySem.F.type_dict_setdefault (thn (ho pins s σ H _ I h) fun u s1 ⟨x,H1,I1,rx,a,ex,d,q1⟩=>?_);subst ex;obtain rfl:u=Value.ref a:=rx;obtain⟨t1,t2,_⟩:=ZS I1 d;refine⟨t1,t2,?_⟩;rw[m.trees];refine Kj rfl (Mu (KN (thn (he pins s1 σ H1 _ I1 q1) fun iv s2 ⟨y,H2,I2,ry,q2⟩=>KN (thn (hf pins s2 σ H2 _ I2 q2) fun fv s3 ⟨z,H3,I3,rz,kvs,k,e1,e2,l,q3,q4⟩=>Mc ?_))))
 subst e2;exact JnR I3 e1 ry rz l (fun v w' s' hv I4 rv=>⟨v,H3,I4,rv,q3 v hv⟩) fun hn s' I4=>⟨z,_,I4,rz,q4 hn⟩
end L2
namespace LE
open PySem L2 LR
section
variable(K:QE)(C:Qj)(j:Nat)
noncomputable def Left(σ:St)(E:En)(σ':St)(E':En):Prop:=σ'[j]?=σ[j]?/\∀(i:Nat) (s:Sl),E'[i]?=some s->Yj s=true->E[i]?=some s/\σ'[i]?=σ[i]?
noncomputable def SGJ(g:TG)(p:Pt):Prop:=∀(B H0 H:Hp) (σ:St) (E E':En) (x:V) (d:D) (Q:St->Hp->Prop),EnvR K C B H0 H σ E->RD K C H0 x d->p.bind d E=some E'->(∀σ',EnvR K C B H0 H σ' E'->Left j σ E σ' E'->Q σ' H)->g x σ H Q
noncomputable def JkO(g:TGs)(p:Pts):Prop:=∀(B H0 H:Hp) (σ:St) (E E':En) (xs:List V) (ds:List D) (Q:St->Hp->Prop),EnvR K C B H0 H σ E->RDL K C H0 xs ds->p.bind ds E=some E'->(∀σ',EnvR K C B H0 H σ' E'->Left j σ E σ' E'->Q σ' H)->g xs σ H Q
end
def Left.refl(σ:St)(E:En):Left j σ E σ E:=⟨rfl,fun _ _ e _=>⟨e,rfl⟩⟩
def Left.trans(a:Left j σ E σ1 E1)(b:Left j σ1 E1 σ2 E2):Left j σ E σ2 E2 :=
 ⟨b.1.trans a.1,fun i s e o=>by obtain⟨h1,h2⟩:=b.2 i s e o;obtain⟨h3,h4⟩:=a.2 i s h1 o;exact⟨h3,h2.trans h4⟩⟩
def JiW(h:i≠j):SGJ K C j (U1 i) (.nm i):=by
 intro B H0 H σ E E' x d Q I r e q;rw[Pt.bind] at e;split at e
 ·cases e;refine q _ (I.setSh (by assumption) r) ⟨by rw[Ga,if_neg h],fun i' s e o=>?_⟩;rw[Ga] at e
  by_cases c:i=i'
  ·rw[if_pos c] at e
   by_cases hl:i<E.length
   ·rw[if_pos hl] at e;have e':Sl.sh d=s:=QQ e;rw[<- e'] at o;exact absurd o Qx
   ·rw[if_neg hl] at e;exact absurd e (by simp)
  ·rw[if_neg c] at e;exact⟨e,by rw[Ga,if_neg c]⟩
 ·cases e
def JnZ:JkO K C j Jlm .nil:=by
 intro B H0 H σ E E' xs ds Q I r e q
 cases ds with
 | nil =>
  cases xs with
  | nil=>rw[Pts.bind] at e;cases e;exact⟨rfl,q σ I (.refl σ _)⟩
  | cons _ _=>have:=r.1;simp at this
 | cons _ _=>simp[Pts.bind] at e
def JbW(h:SGJ K C j g p)(hs:JkO K C j gs ps):JkO K C j (JfX g gs) (.cons p ps):=by
 intro B H0 H σ E E' xs ds Q I r e q
 cases ds with
 | nil=>simp[Pts.bind] at e
 | cons d ds =>
  cases xs with
  | nil=>have:=r.1;simp at this
  | cons x xs=>rw[Pts.bind] at e;obtain⟨E1,e1,e2⟩:=bind_some e;exact⟨x,xs,rfl,h B H0 H σ E E1 x d _ I r.head e1 fun σ1 I1 l1=>hs B H0 H σ1 E1 E' xs ds Q I1 r.tail e2 fun σ2 I2 l2=>q σ2 I2 (l1.trans l2)⟩
def Jn0(hs:JkO K C j gs ps)(hn:ps.len=n):SGJ K C j (Jhi K n gs) (.tp ps):=by
 intro B H0 H σ E E' x d Q I r e q
 cases d with
 | tup ds=>rw[Pt.bind] at e;obtain⟨a,xs,rfl,h,r⟩:=RD.tupI r;exact⟨a,xs,rfl,I.h.seqT h,by rw[r.1];exact(Pts.bind_len e).trans hn,hs B H0 H σ E E' xs ds Q I r e q⟩
 | _=>simp[Pt.bind] at e
def EnvR.poke{B H0 H:Hp}{σ:St}{E:En}{a:Qj}{o:HO}(I:EnvR K C B H0 H σ E)(h0:H0 a=none)(hb:B a=none)(ho:∀(i:Nat) (s:Sl),E[i]?=some s->Yj s=true->σ[i]?≠some (some (.ref a))):EnvR K C B H0 (upd H a o) σ E:=by
 have nb:∀{A:Hp},A a=none->Same A H->Same A (upd H a o):=fun {A} n s b o e=>by rw[Ji (Jq e n)];exact s b o e
 refine⟨nb hb I.b,nb h0 I.h,I.len,fun i s e=>?_,I.sep⟩;rcases I.at' i s e with z|⟨v,q1,q2⟩
 ·exact .inl z
 ·refine .inr ⟨v,q1,?_⟩
  cases s with
  | no=>trivial
  | sh d=>exact q2
  | bo es=>exact q2
  | bd ks es=>exact q2
  | bt ks es=>exact q2
  | own es =>
   obtain⟨l',ys,p1,p2,p3⟩:=q2;subst p1;have:l'≠a:=fun z=>ho i _ e rfl (by rw[q1,z])
   exact⟨l',ys,rfl,by rw[Ji this];exact p2,p3⟩
  | od ks es =>
   obtain⟨l',ys,p1,p2,p3⟩:=q2;subst p1;have:l'≠a:=fun z=>ho i _ e rfl (by rw[q1,z])
   exact⟨l',ys,rfl,by rw[Ji this];exact p2,p3⟩
  | ot ks es =>
   obtain⟨l',ys,p1,p2,p3⟩:=q2;subst p1;have:l'≠a:=fun z=>ho i _ e rfl (by rw[q1,z])
   exact⟨l',ys,rfl,by rw[Ji this];exact p2,p3⟩
noncomputable def JaI:List Int->List (List D)->Int->D->List (List D)
 | k::ks,x::xs,n,d=>if k=n then(x++[d])::xs else x::JaI ks xs n d
 | _,xs,_,d=>xs++[[d]]
noncomputable def VI(p:Pt)(ek ev:Ev):List D->En->List Int->List (List D)->Option (En×List Int×List (List D))
 | [],E,ks,dss=>some (E,ks,dss)
 | d::ds,E,ks,dss=>(p.bind d E).bind fun E1=>((ek E1).bind int?).bind fun n=>(ev E1).bind fun s=>s.frz.bind fun dv=>VI p ek ev ds E1 (Jv ks n) (JaI ks dss n dv)
noncomputable def JkG(it:En->Option (List D))(p:Pt)(j:Nat)(ek ev:Ev):Es:=fun E=>match E[j]? with
 | some (.od [] [])=>(it E).bind fun ds=>if ds.length<Qt then(VI p ek ev ds (E.set j .no) [] []).bind fun r=>if j<r.1.length then some (.nx (r.1.set j (.od r.2.1 (r.2.2.map .lst)))) else none else none
 | _=>none
theorem Zt:∀{ks:List Int} {ls:List Qj} {n:Int} {a:Qj},look ks ls n=some a->∃m,ls[m]?=some a/\VQ ks n=true/\∀dss:List (List D),dss.length=ls.length->∃ds,dss[m]?=some ds/\∀d,JaI ks dss n d=dss.set m (ds++[d])
 | [],_,_,_,e=>by cases e
 | _::_,[],_,_,e=>by cases e
 | k::ks,l::ls,n,a,e=>by
  simp only[look] at e
  by_cases c:k=n
  ·rw[if_pos c] at e;cases e;refine⟨0,rfl,by unfold VQ;simp[c],fun dss hl=>?_⟩
   cases dss with
   | nil=>simp at hl
   | cons x xs=>exact⟨x,rfl,fun d=>by rw[JaI,if_pos c];rfl⟩
  ·rw[if_neg c] at e;obtain⟨m,h1,h2,h3⟩:=Zt e;refine⟨m+1,by simpa using h1,by unfold VQ at h2 ⊢;rw[Km,h2,Bool.or_true],fun dss hl=>?_⟩
   cases dss with
   | nil=>simp at hl
   | cons x xs=>obtain⟨ds,g1,g2⟩:=h3 xs (by simpa using hl);exact⟨ds,by simpa using g1,fun d=>by rw[JaI,if_neg c,g2 d];rfl⟩
theorem JaQ:∀{ks:List Int} {ls:List Qj} {n:Int},ks.length=ls.length->look ks ls n=none->VQ ks n=false/\∀(dss:List (List D)) (d:D),dss.length=ls.length->JaI ks dss n d=dss++[[d]]
 | [],[],_,_,_=>⟨rfl,fun dss d _=>by cases dss <;> rfl⟩
 | [],_::_,_,h,_=>by simp at h
 | _::_,[],_,h,_=>by simp at h
 | k::ks,l::ls,n,h,e=>by
  simp only[look] at e
  by_cases c:k=n
  ·rw[if_pos c] at e;cases e
  ·rw[if_neg c] at e;obtain⟨h1,h2⟩:=JaQ (by simpa using h) e;refine⟨by unfold VQ at h1 ⊢;rw[Km,h1,decide_eq_false c];rfl,fun dss d hl=>?_⟩
   cases dss with
   | nil=>simp at hl
   | cons x xs=>rw[JaI,if_neg c,h2 xs d (by simpa using hl)];rfl
section
variable(K:QE)(C:Qj)
structure Grp (B H0 H:Hp) (σ:St) (E:En) (j c:Nat) (ks:List Int) (dss:List (List D)) (l:Qj) (ls:List Qj):Prop where
 at':σ[j]?=some (some (.ref l))
 dict:H l=some (dkO ks (ls.map V.ref))
 l0:H0 l=none
 lb:B l=none
 len:ks.length=ls.length
 len2:dss.length=ls.length
 cnt:ks.length<=c
 lists:∀(m:Nat) (a:Qj) (ds:List D),ls[m]?=some a->dss[m]?=some ds->ds.length<=c/\∃xs,H a=some (.lst xs)/\H0 a=none/\B a=none/\RDL K C H0 xs ds
 nd:(l::ls).Nodup
 own:∀(i:Nat) (s:Sl) (a:Qj),E[i]?=some s->Yj s=true->σ[i]?=some (some (.ref a))->a∉l::ls
end
def Grp.there(g:Grp K C B H0 H σ E j c ks dss l ls)(ha:a∈l::ls):∃o,H a=some o/\isT o=false/\H0 a=none/\B a=none:=by
 rcases Qk.mp ha with z|z
 ·subst z;exact⟨_,g.dict,rfl,g.l0,g.lb⟩
 ·obtain⟨m,hm⟩:=Ky.mp z;have hl:m<dss.length:=by rw[g.len2];exact(Qq.mp hm).1
  obtain⟨_,xs,h1,h2,h3,_⟩:=g.lists m a dss[m] hm (Qy hl);exact⟨_,h1,rfl,h2,h3⟩
def Grp.off(g:Grp K C B H0 H σ E j c ks dss l ls)(st:Step H H0 H H0' H')(ha:a∈l::ls):H0' a=none:=by
 obtain⟨o,h1,h2,h3,_⟩:=g.there ha
 cases z:H0' a with
 | none=>rfl
 | some u =>
  rcases st.n a u z with y|y|y
  ·rw[h3] at y;cases y
  ·rw[h1] at y;cases y
  ·have:=st.i a u z;rw[st.h a o h1] at this;cases this;rw[h2] at y;cases y
def Grp.step(g:Grp K C B H0 H σ E j c ks dss l ls)(st:Step H H0 H H0' H'):Grp K C B H0' H' σ E j c ks dss l ls :=
 ⟨g.at',st.h _ _ g.dict,g.off st Qc,g.lb,g.len,g.len2,g.cnt,fun m a ds e1 e2=>by obtain⟨h0,xs,h1,h2,h3,h4⟩:=g.lists m a ds e1 e2;exact⟨h0,xs,st.h _ _ h1,g.off st (Qd _ (QI e1)),h3,h4.mono st.z⟩,g.nd,g.own⟩
def Grp.left(g:Grp K C B H0 H σ E j c ks dss l ls)(f:Left j σ E σ' E'):Grp K C B H0 H σ' E' j c ks dss l ls :=
 ⟨f.1.trans g.at',g.dict,g.l0,g.lb,g.len,g.len2,g.cnt,g.lists,g.nd,fun i s a e o q=>by obtain⟨h1,h2⟩:=f.2 i s e o;exact g.own i s a h1 o (by rw[<- h2];exact q)⟩
def Grp.free(g:Grp K C B H0 H σ E j c ks dss l ls)(ha:a∈l::ls):∀(i:Nat) (s:Sl),E[i]?=some s->Yj s=true->σ[i]?≠some (some (.ref a)):=fun i s e o q=>g.own i s a e o q ha
def EnvR.fresh(I:EnvR K C B H0 H σ E)(hp:H p=none):∀(i:Nat) (s:Sl),E[i]?=some s->Yj s=true->σ[i]?≠some (some (.ref p)):=fun i s e o q=>by
 rcases I.at' i s e with z|⟨v,q1,q2⟩
 ·subst z;cases o
 ·rw[q1] at q;cases q
  cases s with
  | own es=>obtain⟨l',ys,p1,p2,_⟩:=q2;cases p1;rw[hp] at p2;cases p2
  | od ks es=>obtain⟨l',ys,p1,p2,_⟩:=q2;cases p1;rw[hp] at p2;cases p2
  | ot ks es=>obtain⟨l',ys,p1,p2,_⟩:=q2;cases p1;rw[hp] at p2;cases p2
  | _=>cases o
theorem Vx{α β:Type}(f:α->β):∀(ks:List Int) (vs:List α) (n:Int),look ks (vs.map f) n=(look ks vs n).map f
 | [],_,_=>rfl
 | _::_,[],_=>rfl
 | k::ks,v::vs,n=>by
  rw[Qf];simp only[look];split
  ·rfl
  ·exact Vx f ks vs n
def Ji3(hk:SE K C tk ek)(hv:SE K C tv ev)(I:EnvR K C B H0 H σ E)(g:Grp K C B H0 H σ E j c ks dss l ls)(hc:c<Qt){s:Sl}(e1:ek E=some (.sh (.int n)))(e2:ev E=some s)(e3:s.frz=some dv){D:Ends}(f:∀H0' H' ls',SStep B H0 H0' H'->EnvR K C B H0' H' σ E->Grp K C B H0' H' σ E j (c+1) (Jv ks n) (JaI ks dss n dv) l ls'->D.nx σ H'):
 W4 (tBM K "list" Wk (JcE (V2 j) tk (JmK Vo)) (Y5 tv Vo)) D σ H:=by
 have hkl:=g.len
 have hcn:=g.cnt;refine⟨.ref l,g.at',l,rfl,.inl ⟨_,.inl g.dict⟩,hk B H0 H σ E _ _ I e1 fun y H1 H1' s1 r1=>?_⟩
 have ry:y=.int n:=RD.intI r1;subst ry
 have I1:=I.step s1
 have g1:=g.step s1;refine⟨GP _,fun p hp=>?_⟩
 have p0:H1 p=none:=Same.free s1.i hp
 have pb:B p=none:=Same.free I1.b hp
 have pn:p∉l::ls:=fun m=>by obtain⟨o,h1,_⟩:=g1.there m;rw[hp] at h1;cases h1
 have I2:EnvR K C B H1 (upd H1' p (.lst [])) σ E:=I1.poke p0 pb (I1.fresh hp)
 have ne:∀{a:Qj},a∈l::ls->a≠p:=fun {a} m z=>pn (z▸m)
 have dl:upd H1' p (.lst []) l=some (dkO ks (ls.map V.ref)):=by rw[Ji (ne Qc)];exact g1.dict
 have ss1:SStep B H0 H1 H1':=s1.ss I.b;refine⟨_,(Sum.inl n:Key),dl,rfl,?_,fun v hv'=>?_,fun hn=>?_⟩
 ·rw[GG,Qm,Qm,hkl,Ll];omega
 ·-- the list is there
  rw[YU,Vx] at hv';obtain⟨a,ha,rfl⟩:=GD.mp hv';obtain⟨m,m1,m2,m3⟩:=Zt ha;obtain⟨ds,d1,d2⟩:=m3 dss g.len2;have ham:a∈l::ls:=Qd _ (QI m1);obtain⟨hd,xs,x1,x2,x3,x4⟩:=g1.lists m a ds m1 d1;have xa:upd H1' p (.lst []) a=some (.lst xs):=by rw[Ji (ne ham)];exact x1
  refine⟨.inl ⟨rfl,xs,.of xa⟩,?_⟩;refine hv B H1 _ σ E _ _ I2 e2 fun v H3 H3' s3 r3=>?_
  have s4:Step (upd H1' p (.lst [])) H1 (upd H1' p (.lst [])) (JN (upd H1' p (.lst [])) H3 H3') H3':=s3.comp (JF s3.i) fun _ z=>z
  have g2:Grp K C B H1 (upd H1' p (.lst [])) σ E j c ks dss l ls:=⟨g1.at',dl,g1.l0,g1.lb,g1.len,g1.len2,g1.cnt,fun m' a' ds' q1 q2=>by obtain⟨h0,xs',h1,h2⟩:=g1.lists m' a' ds' q1 q2;exact⟨h0,xs',by rw[Ji (ne (Qd _ (QI q1)))];exact h1,h2⟩,g1.nd,g1.own⟩
  have g3:=g2.step s4
  have I3:=I2.step s4
  have ha3:H3' a=some (.lst xs):=s4.h _ _ xa
  have rv:RDL K C (JN (upd H1' p (.lst [])) H3 H3') (xs++[v]) (ds++[dv]):=(x4.mono s4.z).snoc (RR.frz s3.i r3 e3);refine⟨a,xs,v,rfl,rfl,ha3,by rw[x4.1];omega,?_⟩
  have al:a≠l:=fun z=>(QY.mp g.nd).1 (z▸QI m1)
  refine f (JN (upd H1' p (.lst [])) H3 H3') _ ls ?_ (I3.poke (g3.off (.refl I3.h) ham) (g3.there ham).choose_spec.2.2.2 (g3.free ham)) ?_
  ·have sb:SStep B H1 (JN (upd H1' p (.lst [])) H3 H3') H3':=s4.ss I2.b
   have:=ss1.trans sb
   have na:JN (upd H1' p (.lst [])) H3 H3' a=none:=g3.off (.refl I3.h) ham
   have nb:B a=none:=x3;exact⟨fun b o q=>by rw[Ji (Jq q nb)];exact this.b b o q,this.z,this.n,fun b o q=>by rw[Ji (Jq q na)];exact this.i b o q⟩
  ·have hp':Jv ks n=ks:=if_pos m2;rw[hp',d2 dv];refine⟨g3.at',by rw[Ji (Q3 al)];exact g3.dict,g3.l0,g3.lb,g3.len,by rw[List.length_set];exact g3.len2,Re g3.cnt,fun m' a' ds' q1 q2=>?_,g3.nd,g3.own⟩;rw[Ga] at q2
   by_cases hm:m=m'
   ·subst hm;rw[m1] at q1;cases q1;rw[if_pos rfl] at q2;split at q2
    ·cases q2;exact⟨by rw[Qv,Q0];omega,_,Jn,g3.off (.refl I3.h) ham,x3,rv⟩
    ·cases q2
   ·rw[if_neg hm] at q2;obtain⟨h0,xs',h1,h2⟩:=g3.lists m' a' ds' q1 q2
    have:a'≠a:=fun z=>by subst z;have nd:=(QY.mp g.nd).2;obtain⟨b1,b2⟩:=Qq.mp m1;obtain⟨c1,c2⟩:=Qq.mp q1;exact hm ((List.getElem_inj nd).mp (b2.trans c2.symm))
    exact⟨by omega,xs',by rw[Ji this];exact h1,h2⟩
 ·-- a new list
  rw[YU,Vx] at hn;have hn':look ks ls n=none:=RJ.mp hn;obtain⟨m2,m3⟩:=JaQ g.len hn'
  have hkv:UJ ((ks.map Sum.inl:List Key).zip (ls.map V.ref)) (Sum.inl n) (.ref p)=((ks++[n]).map Sum.inl:List Key).zip ((ls++[p]).map V.ref):=by rw[JjK _ (by rw[YU,Vx,hn'];rfl),QF,QF,MC (by rw[Qm,Qm];exact g.len)];rfl
  rw[hkv];have lp:l≠p:=ne Qc;have xp:upd (upd H1' p (.lst [])) l (dkO (ks++[n]) ((ls++[p]).map V.ref)) p=some (.lst []):=by rw[Ji (Q3 lp),Jn]
  have I2':EnvR K C B H1 (upd (upd H1' p (.lst [])) l (dkO (ks++[n]) ((ls++[p]).map V.ref))) σ E:=I2.poke g1.l0 g1.lb (g1.free Qc)
  suffices key:∀Hn,upd (upd H1' p (.lst [])) l (dkO (ks++[n]) ((ls++[p]).map V.ref))=Hn->Hn p=some (.lst [])->EnvR K C B H1 Hn σ E->(tyV K "list" (.ref p) Hn/\Y5 tv Vo σ Hn fun xs H2=>Wk (.ref p) xs H2 fun _ H1=>D.nx σ H1) from key _ rfl xp I2'
  clear xp I2';intro Hn hHn xp I2';refine⟨.inl ⟨rfl,[],.of xp⟩,?_⟩;refine hv B H1 Hn σ E _ _ I2' e2 fun v H3 H3' s3 r3=>?_
  have s4:Step Hn H1 Hn (JN Hn H3 H3') H3':=s3.comp (JF s3.i) fun _ z=>z
  have nd':(l::(ls++[p])).Nodup:=by
   rw[<- GF,LG];refine⟨g.nd,by simp,fun x hx y hy=>?_⟩;have:y=p:=by simpa using hy
   rw[this];exact ne hx
  have g2:Grp K C B H1 Hn σ E j (c+1) (ks++[n]) (dss++[[]]) l (ls++[p]):=⟨g1.at',by rw[<- hHn];exact Jn,g1.l0,g1.lb,by simp[g.len],by simp[g.len2],by simp;omega,fun m' a' ds' q1 q2=>by
   by_cases hm:m'<ls.length
   ·rw[Gc hm] at q1;rw[Gc (by rw[g.len2];exact hm)] at q2;obtain⟨h0,xs',h1,h2⟩:=g1.lists m' a' ds' q1 q2;have hal:a'∈ls:=QI q1;exact⟨by omega,xs',by rw[<- hHn,Ji fun z=>(QY.mp g.nd).1 (by rw[<- z];exact hal),Ji (ne (Qd _ hal))];exact h1,h2⟩
   ·have hm1:m'=ls.length:=by have:=(Qq.mp q1).1;simp at this;omega
    subst hm1
    have ea:a'=p:=by
     rw[Gs (Qp _)] at q1
     simpa using q1.symm
    have ed:ds'=[]:=by
     rw[Gs (by rw[g.len2];exact Qp _),g.len2] at q2
     simpa using q2.symm
    subst ea ed;exact⟨GP _,[],xp,p0,pb,.nil⟩,nd',fun i s a e o q m=>by
     rw[<- GF] at m;rcases Gd.mp m with z|z
     ·exact g1.own i s a e o q z
     ·have:a=p:=by simpa using z
      subst this;exact I1.fresh hp i s e o q⟩
  have g3:=g2.step s4
  have I3:=I2'.step s4
  have pm:p∈l::(ls++[p]):=by simp
  have p3:H3' p=some (.lst []):=s4.h _ _ xp
  have rv:RDL K C (JN Hn H3 H3') [v] [dv]:=.cons (RR.frz s3.i r3 e3) .nil;refine⟨p,[],v,rfl,rfl,p3,by show 0<Qt;decide,?_⟩
  have n0:JN Hn H3 H3' p=none:=g3.off (.refl I3.h) pm;refine f (JN Hn H3 H3') _ (ls++[p]) ?_ (I3.poke n0 pb (g3.free pm)) ?_
  ·have sb:SStep B H1 (JN Hn H3 H3') H3':=s4.ss I2'.b
   have:=ss1.trans sb;exact⟨fun b o q=>by rw[Ji (Jq q pb)];exact this.b b o q,this.z,this.n,fun b o q=>by rw[Ji (Jq q n0)];exact this.i b o q⟩
  ·have hp':Jv ks n=ks++[n]:=if_neg (by rw[m2];exact Qx);rw[hp',m3 dss dv g.len2];refine⟨g3.at',by rw[Ji lp];exact g3.dict,g3.l0,g3.lb,g3.len,by simp[g.len2],g3.cnt,fun m' a' ds' q1 q2=>?_,g3.nd,g3.own⟩
   by_cases hm:m'<ls.length
   ·have q2':(dss++[[]])[m']?=some ds':=by rw[Gc (by rw[g.len2];exact hm)] at q2 ⊢;exact q2
    obtain⟨h0,xs',h1,h2⟩:=g3.lists m' a' ds' q1 q2'
    have:a'≠p:=by rw[Gc hm] at q1;exact ne (Qd _ (QI q1))
    exact⟨h0,xs',by rw[Ji this];exact h1,h2⟩
   ·have hm1:m'=ls.length:=by have:=(Qq.mp q1).1;simp at this;omega
    subst hm1
    have ea:a'=p:=by
     rw[Gs (Qp _)] at q1
     simpa using q1.symm
    have ed:ds'=[dv]:=by
     rw[Gs (by rw[g.len2];exact Qp _),g.len2] at q2
     simpa using q2.symm
    subst ea ed;exact⟨by simp,[v],Jn,n0,pb,rv⟩
def EnvR.unslot(I:EnvR K C B H0 H σ E)(j:Nat):EnvR K C B H0 H σ (E.set j .no):=by
 have get:∀(i:Nat) (s:Sl),(E.set j Sl.no)[i]?=some s->s=.no\/(i≠j/\E[i]?=some s):=fun i s e=>by
  rw[Ga] at e
  by_cases c:j=i
  ·rw[if_pos c] at e
   by_cases hl:j<E.length
   ·rw[if_pos hl] at e;exact .inl (QQ e).symm
   ·rw[if_neg hl] at e;exact absurd e (by simp)
  ·rw[if_neg c] at e;exact .inr ⟨fun z=>c z.symm,e⟩
 refine⟨I.b,I.h,by simp[I.len],fun i s e=>?_,fun i k s t v hik e1 e2 o1 o2 e3 e4=>?_⟩
 ·rcases get i s e with z|⟨_,z⟩
  ·exact .inl z
  ·exact I.at' i s z
 ·rcases get i s e1 with z|⟨_,z⟩
  ·subst z;cases o1
  ·rcases get k t e2 with y|⟨_,y⟩
   ·subst y;cases o2
   ·exact I.sep i k s t v hik z y o1 o2 e3 e4
noncomputable def Jhh(H0 H:Hp)(ls:List Qj):Hp:=fun a=>if a∈ls then H a else H0 a
theorem Jbm:∀{ls:List Qj} {dss:List (List D)},dss.length=ls.length->(∀(m:Nat) (a:Qj) (ds:List D),ls[m]?=some a->dss[m]?=some ds->∃xs,Hz a=some (.lst xs)/\RDL K C Hz xs ds)->RDL K C Hz (ls.map V.ref) (dss.map .lst)
 | [],[],_,_=>.nil
 | [],_::_,h,_=>by simp at h
 | _::_,[],h,_=>by simp at h
 | a::ls,ds::dss,h,f=>by obtain⟨xs,h1,h2⟩:=f 0 a ds rfl rfl;exact .cons (.mkL h1 h2) (Jbm (by simpa using h) fun m a ds e1 e2=>f (m+1) a ds (by simpa using e1) (by simpa using e2))
def Grp.done(I:EnvR K C B H0 H σ E)(g:Grp K C B H0 H σ E j c ks dss l ls)(hj:j<E.length):SStep B H0 (Jhh H0 H ls) H/\EnvR K C B (Jhh H0 H ls) H σ (E.set j (.od ks (dss.map .lst))):=by
 have out:∀{a:Qj},a∉ls->Jhh H0 H ls a=H0 a:=fun {a} h=>if_neg h
 have inn:∀{a:Qj},a∈ls->Jhh H0 H ls a=H a:=fun {a} h=>if_pos h
 have z:Same H0 (Jhh H0 H ls):=fun a o e=>by
  by_cases c:a∈ls
  ·rw[inn c];exact I.h a o e
  ·rw[out c];exact e
 have i:Same (Jhh H0 H ls) H:=fun a o e=>by
  by_cases c:a∈ls
  ·rw[inn c] at e;exact e
  ·rw[out c] at e;exact I.h a o e
 have ln:l∉ls:=(QY.mp g.nd).1;refine⟨⟨I.b,z,fun a o e=>?_,i⟩,I.b,i,by simp[I.len],fun k s e=>?_,fun k m s t v hkm e1 e2 o1 o2 e3 e4=>?_⟩
 ·by_cases c:a∈ls
  ·exact .inr (.inl (g.there (Qd _ c)).choose_spec.2.2.2)
  ·rw[out c] at e;exact .inl e
 ·rw[Ga] at e
  by_cases c:j=k
  ·subst c;rw[if_pos rfl,if_pos hj] at e;have e':=QQ e;subst e';refine .inr ⟨_,g.at',l,ls.map V.ref,rfl,g.dict,by rw[out ln];exact g.l0,g.lb,by rw[Qm,g.len2];exact g.len,Jbm g.len2 fun m a ds q1 q2=>?_⟩;obtain⟨_,xs,h1,_,_,h4⟩:=g.lists m a ds q1 q2;exact⟨xs,by rw[inn (QI q1)];exact h1,h4.mono z⟩
  ·rw[if_neg c] at e;rcases I.at' k s e with y|⟨v,q1,q2⟩
   ·exact .inl y
   ·refine .inr ⟨v,q1,?_⟩
    cases s with
    | no=>trivial
    | sh d=>exact RD.mono z q2
    | bo es=>obtain⟨l',ys,p1,p2,p3⟩:=q2;exact⟨l',ys,p1,p2,p3.mono z⟩
    | bd ks es=>obtain⟨l',ys,p1,p2,p3,p4⟩:=q2;exact⟨l',ys,p1,p2,p3,p4.mono z⟩
    | bt ks es=>obtain⟨l',ys,p1,p2,p3,p4⟩:=q2;exact⟨l',ys,p1,p2,p3,p4.mono z⟩
    | own es=>obtain⟨l',ys,p1,p2,p3,p4,p5⟩:=q2;subst p1;have:=g.own k _ l' e rfl q1;exact⟨l',ys,rfl,p2,by rw[out fun m=>this (Qd _ m)];exact p3,p4,p5.mono z⟩
    | od ks es=>obtain⟨l',ys,p1,p2,p3,p4,p5,p6⟩:=q2;subst p1;have:=g.own k _ l' e rfl q1;exact⟨l',ys,rfl,p2,by rw[out fun m=>this (Qd _ m)];exact p3,p4,p5,p6.mono z⟩
    | ot ks es=>obtain⟨l',ys,p1,p2,p3,p4,p5,p6⟩:=q2;subst p1;have:=g.own k _ l' e rfl q1;exact⟨l',ys,rfl,p2,by rw[out fun m=>this (Qd _ m)];exact p3,p4,p5,p6.mono z⟩
 ·have get:∀(i:Nat) (s:Sl),(E.set j (Sl.od ks (dss.map .lst)))[i]?=some s->i=j\/(i≠j/\E[i]?=some s):=fun i s e=>by
   rw[Ga] at e
   by_cases c:j=i
   ·exact .inl c.symm
   ·rw[if_neg c] at e;exact .inr ⟨fun z=>c z.symm,e⟩
  rcases get k s e1 with y1|⟨n1,y1⟩
  ·subst y1;rcases get m t e2 with y2|⟨n2,y2⟩
   ·exact hkm y2.symm
   ·rw[g.at'] at e3;have e3':=QQ (QQ e3);subst e3';exact g.own m t l y2 o2 e4 Qc
  ·rcases get m t e2 with y2|⟨n2,y2⟩
   ·subst y2;rw[g.at'] at e4;have e4':=QQ (QQ e4);subst e4';exact g.own k s l y1 o1 e3 Qc
   ·exact I.sep k m s t v hkm y1 y2 o1 o2 e3 e4
def JrH(hi:SI K C false wi it)(hg:SGJ K C j g p)(hk:SE K C tk ek)(hv:SE K C tv ev):
 SS K C (JmI wi g (W4 (tBM K "list" Wk (JcE (V2 j) tk (JmK Vo)) (Y5 tv Vo)))) (JkG it p j ek ev):=by
 intro B H0 H σ E o D I e f;unfold JkG at e;split at e
 ·next h =>
  obtain⟨ds,e1,e⟩:=bind_some e;split at e
  ·next hz =>
   obtain⟨⟨E',ks,dss⟩,e2,e⟩:=bind_some e;split at e
   ·next hjl =>
    cases e;refine hi B H0 H σ E ds _ I e1 fun J H1 H1' s1 ok=>?_
    rw[if_neg (by simp)] at ok;have I1:=I.step s1;rcases I1.at' j _ h with y|⟨v,h1,l,xs,rfl,hl,hl0,hlb,_,rx⟩
    ·cases y
    have hx:xs=[]:=QA (by have:=rx.1;simpa using this);subst hx
    have G0:Grp K C B H1 H1' σ (E.set j .no) j 0 [] [] l []:=⟨h1,hl,hl0,hlb,rfl,rfl,Qp _,fun m a ds q=>by simp at q,by simp,fun i s a q o q' m=>by
     rw[Ga] at q
     by_cases c:j=i
     ·rw[if_pos c] at q
      by_cases hl:j<E.length
      ·rw[if_pos hl] at q;have q':=QQ q;rw[<- q'] at o;exact absurd o Qx
      ·rw[if_neg hl] at q;exact absurd q (by simp)
     ·rw[if_neg c] at q;have:a=l:=by simpa using m
      subst this;exact I1.sep j i _ s (.ref a) c h q rfl o h1 q'⟩
    refine⟨fun i k σ' H'=>k=ds.length-i/\i<=ds.length/\∃H0' E1 ks1 dss1 l ls,EnvR K C B H0' H' σ' E1/\SStep B H1 H0' H'/\Grp K C B H0' H' σ' E1 j i ks1 dss1 l ls/\VI p ek ev (ds.drop i) E1 ks1 dss1=some (E',ks,dss),
     ⟨ds.length,by simp,GP _,H1,E.set j .no,[],[],l,[],I1.unslot j,.refl (I.b.trans s1.h) s1.i,G0,e2⟩,?_⟩
    rintro i k σ' H' ⟨rfl,hi',H0',E1,ks1,dss1,l,ls,I',st,G,er⟩;have stop:=ok H0' H' st
    by_cases hlt:i<ds.length
    ·have hd:ds[i]?=some ds[i]:=by simp[hlt]
     obtain⟨go,yl⟩:=stop.1 i _ hd;refine .inr ⟨go,fun σ2 H2=>∃H0' E1 ks1 dss1 l ls,EnvR K C B H0' H2 σ2 E1/\SStep B H1 H0' H2/\Grp K C B H0' H2 σ2 E1 j (i+1) ks1 dss1 l ls/\VI p ek ev (ds.drop (i+1)) E1 ks1 dss1=some (E',ks,dss),fun σ2 H2 h=>⟨ds.length-(i+1),by omega,rfl,hlt,h⟩,fun x H2 y=>?_⟩;obtain⟨H02,st2,rx⟩:=yl x H2 y;rw[LU hlt,VI] at er;obtain⟨E2,b1,er⟩:=bind_some er;obtain⟨n,b2,er⟩:=bind_some er;obtain⟨s,b3,er⟩:=bind_some er
     obtain⟨dv,b4,er⟩:=bind_some er;obtain⟨sn,b5,b6⟩:=bind_some b2;have b7:=Uh b6;subst b7;have ss2:SStep B H0' H02 H2:=st2.ss I'.b;refine hg B H02 H2 σ' E1 E2 x _ _ (I'.step st2) rx b1 fun σ2 I2 lf=>?_
     exact Ji3 hk hv I2 ((G.step st2).left lf) (by omega) b5 b3 b4 fun H03 H3 ls' ss I3 G3=>⟨H03,E2,_,_,l,ls',I3,(st.trans ss2).trans ss,G3,er⟩
    ·have hd:ds.drop i=[]:=List.drop_eq_nil_of_le (by omega)
     have hin:i=ds.length:=by omega
     rw[hd,VI] at er;have er':=QQ er;cases er';obtain⟨d1,d2⟩:=G.done I' hjl;refine .inl ⟨by rw[hin];exact stop.2,f σ' _ H' (((s1.ss I.b).trans st).trans d1) d2⟩
   ·cases e
  ·cases e
 ·cases e
end LE
namespace L2
open PySem PySem.Spec PyProof.Rows
noncomputable def Y4:List Int->List Int->Bool
 | [],_=>true
 | _::_,[]=>false
 | x::xs,y::ys=>if x=y then Y4 xs ys else decide (x<=y)
def VR(x y:Int)(xs ys:List Int):Y4 (x::xs) (y::ys)=if x=y then Y4 xs ys else decide (x<=y):=rfl
def JjW(A:QS)(s:Qi)(a:Int)(t:Tok)(c:Int)(u:Tok)(prog:Qz)(w:QT)(E:Qe->Qi->Prop)(Q:Qe->Qi->Prop)(h:Q (.bool (decide (a<=c))) s) :
 wpAny (model prog w) A (richCompare .LtE (.int a t) (.int c u)) Q E s :=
 (PyProof.Rows.le_int h:wpAny (model prog w) A (compareOp .LtE (.int a t) (.int c u)) Q E s)
section
open PySem.SeqAt
open PySem.AutoSeq1 (wpAny_loadPart')
open PySem.MeetsSeq PySem.MeetsSeq2 PySem.MeetsSeq3
def JaO(l b:Qj)(items items2:Array Qe)(n n2:Nat)(dd dd2:Option Qj)(sl sl2:Array (Option Qe))(ns ms:List Int)(hi:IntsAre items.toList ns)(hj:IntsAre items2.toList ms) :
 Meets (Builtin.«tuple.__le__» ⟨[.ref l,.ref b],[]⟩)
  (fun _ R s=>s.heap.get? l=some { cls:=.type "tuple",dict:=dd,data:=.seq items n,slots:=sl }/\s.heap.get? b=some { cls:=.type "tuple",dict:=dd2,data:=.seq items2 n2,slots:=sl2 } ∧
   R (.ok (.ret (.bool (Y4 ns ms)))) s) :=
 .of_wp fun prog w A R s h=>by
  obtain⟨hp,g,d,tk,os⟩:=s;obtain⟨hl,hb,h⟩:=h;have f2:=AutoSeq1.sub_tuple_tuple;have z1:items.size=ns.length:=by rw[<- hi.length];simp
  have z2:items2.size=ms.length:=by rw[<- hj.length];simp
  wp_walk using Lv hl,Lv hb,wpAny_forIn_list _ (fun rest b s'=>b.1=none/\s'=⟨hp,g,d,tk,os⟩/\∃(vs ws:List Qe) (ns' ms':List Int),rest=vs.zip ws ∧
   IntsAre vs ns'/\IntsAre ws ms'/\ns'.length+items2.size=ms'.length+items.size/\R (.ok (.ret (.bool (Y4 ns' ms')))) ⟨hp,g,d,tk,os⟩) _
  case turn =>
   rintro⟨y,x⟩ rest b s' ⟨hb',rfl,vs,ws,ns',ms',hz,hvi,hwi,hlen,hR⟩
   cases hvi with
   | nil=>rw[List.zip_nil_left] at hz;cases hz
   | cons a t hvi' =>
    cases hwi with
    | nil=>rw[List.zip_nil_right] at hz;cases hz
    | cons c u hwi' =>
     rw[M0] at hz
     injection hz with hyx hrest
     injection hyx with hy hx
     subst hy hx;rw[VR] at hR;simp only[Qr] at hlen;obtain⟨e,he,hiff⟩:=HT.JiJ A.in1 ⟨hp,g,d,tk,os⟩ a t c u;refine Qa (he prog w _ _ ?_)
     cases e with
     | true=>rw[if_pos (hiff.mp rfl)] at hR;wp_walk;exact⟨rfl,rfl,_,_,_,_,hrest,hvi',hwi',by omega,hR⟩
     | false=>rw[if_neg (fun q=>absurd (hiff.mpr q) Qx)] at hR;have hri:=JjW A.in1 ⟨hp,g,d,tk,os⟩ a t c u prog w;wp_walk using hri;exact⟨_,rfl,by simpa using hR⟩
  case fin =>
   rintro⟨b1,b2⟩ s' ⟨hb',rfl,vs,ws,ns',ms',hz,hvi,hwi,hlen,hR⟩;simp only at hb';subst hb'
   have hv:Y4 ns' ms'=decide (items.size<=items2.size):=by
    cases hvi with
    | nil=>simp only[GS] at hlen;rw[show Y4 [] ms'=true from rfl];exact(decide_eq_true (by omega)).symm
    | cons a t hv =>
     cases hwi with
     | nil=>simp only[GS,Qr] at hlen;rw[show Y4 (_::_) []=false from rfl];exact(decide_eq_false (by omega)).symm
     | cons c u hw=>rw[M0] at hz;cases hz
   rw[hv] at hR;wp_walk;exact⟨_,rfl,by simpa [Builtin.Tuple.tupleCompareSizes] using hR⟩
  case h=>exact⟨rfl,rfl,items.toList,items2.toList,ns,ms,rfl,hi,hj,by omega,h⟩
end
def JeN(hl:s.heap.IsTuple l items)(hb:s.heap.IsTuple b items2)(hi:IntsAre items.toList ns)(hj:IntsAre items2.toList ms)(hu:A.units<cLine)(h:Q (.bool (Y4 ns ms)) s):wpAny (model prog w) A (compareOp .LtE (.ref l) (.ref b)) Q E s:=by
 obtain⟨⟨cls,dd,data,sl⟩,ho,hc,n,hd⟩:=id hl;obtain⟨⟨cls2,dd2,data2,sl2⟩,ho2,hc2,n2,hd2⟩:=id hb;simp only at hc hd hc2 hd2;subst hc hd hc2 hd2;exact richCompare_meets_room (op:=.LtE) ⟨_,ho,rfl⟩ ⟨_,ho2,rfl⟩ PySem.F.slot_tuple_le PySem.F.entry_tuple_le (PySem.F.args_tuple_le_2 _ _) (JaO l b items items2 n n2 dd dd2 sl sl2 ns ms hi hj)
  ⟨ho,ho2,show Value.bool (Y4 ns ms)≠Value.notImplemented/\Q (.bool (Y4 ns ms)) s from⟨(fun x=>nomatch x),h⟩⟩ hu
noncomputable def Jq7(K:QE):R2:=fun x y H Q=>∃a b ns ms,x=.ref a/\y=.ref b/\SqT K H a (ns.map V.int)/\SqT K H b (ms.map V.int)/\Q (.bl (Y4 ns ms)) H
def JoP{X:Cx}{K:QE}(hK:X.K=K)(hu:X.A.units<cLine):OpR X (compareOp .LtE) (Jq7 K):=by subst hK;intro pins s σ H x y v u Q I rx ry h;obtain⟨a,b,ns,ms,rfl,rfl,ha,hb,q⟩:=h;cases rx;cases ry;obtain⟨its,r1,p1,_⟩:=I.tuple ha;obtain⟨its2,r2,p2,_⟩:=I.tuple hb;have i1:IntsAre its.toArray.toList ns:=YR r1;have i2:IntsAre its2.toArray.toList ms:=YR r2;exact JeN p1 p2 i1 i2 hu ⟨.bl (Y4 ns ms),H,I,rfl,q⟩
end L2
namespace LE
open PySem L2 LR
noncomputable def JiN:Sl->Sl->Option Sl
 | .sh (.tup ds),.sh (.tup es)=>(ints? ds).bind fun ns=>(ints? es).map fun ms=>.sh (.bl (Y4 ns ms))
 | _,_=>none
theorem RDL.ints'{H:Hp}:∀{xs:List V} {ns:List Int},RDL K C H xs (ns.map .int)->xs=ns.map V.int
 | [],[],_=>rfl
 | [],_::_,r=>by have:=r.1;simp at this
 | _::_,[],r=>by have:=r.1;simp at this
 | x::xs,n::ns,r=>by have h1:RD K C H x (.int n):=r.head;rw[RD.intI h1,RDL.ints' (ns:=ns) r.tail];rfl
def JqS:OpS K C (Jq7 K) JiN:=by
 intro Hs H0 H x y a b c Q i hs ra rb e q;unfold JiN at e;split at e
 ·obtain⟨ns,e1,e⟩:=bind_some e;obtain⟨ms,e2,e⟩:=GD.mp e;subst e;have h1:=YI e1;have h2:=YI e2;subst h1 h2;obtain⟨p,xs,rfl,s1,r1⟩:=RD.tupI ra;obtain⟨p',ys,rfl,s2,r2⟩:=RD.tupI rb;have z1:=RDL.ints' r1;have z2:=RDL.ints' r2;subst z1 z2;exact⟨p,p',ns,ms,rfl,rfl,i.seqT s1,i.seqT s2,q _ _ _ (.refl i) (.bl _)⟩
 ·cases e
def Jle(a b c d:Int):JiN (.sh (.tup [.int a,.int b])) (.sh (.tup [.int c,.int d]))=some (.sh (.bl (if a=c then decide (b<=d) else decide (a<=c)))):=by
 show some (Sl.sh (.bl (Y4 [a,b] [c,d])))=_;rw[VR];split
 ·rw[VR];split
  ·next h=>rw[h];simp[Y4]
  ·rfl
 ·rfl
end LE
namespace L2
open PySem PySem.Spec PyProof.Rows
section
open PySem.SeqAt
open PySem.AutoSeq1 (wpAny_loadPart')
open PySem.MeetsSeq PySem.MeetsSeq2 PySem.MeetsSeq3
end
end L2
namespace LE
open PySem L2 LR
end LE
namespace L2
open PySem PySem.Spec PyProof.Rows
noncomputable def JmY(i j:Int):Prop:=i.natAbs<=10 ^ 200/\j.natAbs<=10 ^ 200
def Jfy(h:i.natAbs<=10 ^ 200):Xa i<=2 ^ 20:=by
 unfold Xa;split
 ·exact GP _
 ·next hz =>
  have h0:i.natAbs≠0:=fun z=>hz (by simp;omega)
  have h1:i.natAbs.log2<1000:=by rw[Nat.log2_lt h0];exact Kn h (by decide +kernel)
  have:(1000:Nat)<=2 ^ 20:=by decide +kernel
  omega
def Jgf:OpR X (binaryOp .Mult) (rI JmY fun i j=>.int (i*j)):=opI fun _ _ _ _ _ _ _ hc q=>mul_int q (IntMulOk.of_bits (Jfy hc.1) (Jfy hc.2))
end L2
namespace LE
open PySem L2 LR
noncomputable def U5(a:Int):Bool:=Nat.ble a.natAbs (10 ^ 200)
noncomputable abbrev JfS:=fIc (fun a b=>U5 a && U5 b) fun a b=>.int (a*b)
def JoE:OpS K C (rI JmY fun i j=>.int (i*j)) JfS:=JhD (fun i j h=>by simp only[Q6,U5,K2] at h;exact h) fun _ _ _=>.int _
def JiP(h:a.natAbs<=10 ^ 200/\b.natAbs<=10 ^ 200):JfS (.sh (.int a)) (.sh (.int b))=some (.sh (.int (a*b))):=by show(if (U5 a && U5 b)=true then _ else _)=_;rw[if_pos];rw[Q6];exact⟨K2.mpr h.1,K2.mpr h.2⟩
end LE
namespace PySem
open PySem.Calls PyProof.Rows PyProof.V PySem.Spec
end PySem
namespace L2
open PySem PySem.Spec PyProof.Rows
end L2
namespace LE
open PySem L2 LR
end LE
namespace L2
open PySem PySem.Spec PyProof.Rows PySem.Calls
end L2
namespace LE
open PySem L2 LR
end LE
namespace L2
open PySem PySem.Spec PyProof.Rows PySem.Calls
end L2
namespace LE
open PySem L2 LR
end LE
namespace L2
open PySem PySem.Spec PyProof.Rows PySem.Calls
end L2
namespace LE
open PySem L2 LR
end LE
namespace PySem
open AutoSeq1 (wpAny_loadPart')
end PySem
namespace L2
open PySem PySem.Spec PyProof.Rows
end L2
namespace LE
open PySem L2 LR
end LE
namespace L2
open PySem PySem.Spec PyProof.Rows PySem.Calls
end L2
namespace LE
open PySem L2 LR
end LE
namespace L2
open PySem PySem.Spec PyProof.Rows
end L2
namespace L2
open PySem PySem.W PyProof.Rows
structure LtO (N:Nat) (lt:Nat->Nat->Bool):Prop where
 tot:∀i j,i<N->j<N->i≠j->lt i j=false->lt j i=true
 asy:∀i j,i<N->j<N->lt i j=true->lt j i=false
 tra:∀i j k,i<N->j<N->k<N->lt i j=true->lt j k=true->lt i k=true
structure Pm (p:Array Nat) (N:Nat):Prop where
 size:p.size=N
 low:∀a,a<N->p.getD a 0<N
 inj:∀a b,a<N->b<N->p.getD a 0=p.getD b 0->a=b
def JoB{l:List Nat}(nd:l.Nodup)(h1:a<l.length)(h2:b<l.length)(e:l[a]=l[b]):a=b:=by
 rcases LF a b with c|c|c
 ·exact absurd e (GR.mp nd a b h1 h2 c)
 ·exact c
 ·exact absurd e.symm (GR.mp nd b a h2 h1 c)
def Pm.of{p:Array Nat}{N:Nat}(h:p.toList.Perm (Ge N)):Pm p N:=by
 have hz:p.size=N:=by have:=h.length_eq;simpa using this
 have get:∀a,a<N->p.toList[a]?=some (p.getD a 0):=fun a ha=>by rw[GN,Kw (by omega)];simp[Xk,show a<p.size by omega]
 refine⟨hz,fun a ha=>?_,fun a b ha hb e=>?_⟩
 ·have:=h.mem_iff.mp (QI (get a ha))
  simpa using this
 ·have nd:p.toList.Nodup:=h.nodup_iff.mpr List.nodup_range
  have ga:=get a ha
  have gb:=get b hb;rw[e] at ga;obtain⟨h1,e1⟩:=Qq.mp ga;obtain⟨h2,e2⟩:=Qq.mp gb;exact JoB nd h1 h2 (e1.trans e2.symm)
noncomputable def Asc(lt:Nat->Nat->Bool)(p:Array Nat)(m:Nat):Prop:=∀a b,a<b->b<m->lt (p.getD a 0) (p.getD b 0)=true
noncomputable def Dsc(lt:Nat->Nat->Bool)(p:Array Nat)(m:Nat):Prop:=∀a b,a<b->b<m->lt (p.getD b 0) (p.getD a 0)=true
noncomputable def Rt(N:Nat)(lt:Nat->Nat->Bool)(I:Qi->Prop)(cmp:Nat->Nat->(Bool->Qi->Prop)->Qi->Prop):Prop:=∀i j (C:Bool->Qi->Prop) s,I s->i<N->j<N->(∀s',I s'->C (lt i j) s')->cmp i j C s
def Jid(o:LtO N lt)(P:Pm p N)(h1:1<=m)(hm:m<N)(h:Asc lt p m)(e:lt (p.getD m 0) (p.getD (m-1) 0)=false):Asc lt p (m+1):=by
 have last:lt (p.getD (m-1) 0) (p.getD m 0)=true:=o.tot _ _ (P.low m hm) (P.low (m-1) (by omega)) (fun z=>by have:=P.inj m (m-1) hm (by omega) z;omega) e;intro a b ab hb
 by_cases c:b<m
 ·exact h a b ab c
 ·have:b=m:=by omega
  subst this
  by_cases c2:a=b-1
  ·rw[c2];exact last
  ·exact o.tra _ _ _ (P.low a (by omega)) (P.low (b-1) (by omega)) (P.low b hm) (h a (b-1) (by omega) (by omega)) last
theorem Jfp(o:LtO N lt)(R:Rt N lt I cmp)(P:Pm p N):∀(f m:Nat) (s:Qi),I s->1<=m->m+f<=N->Asc lt p m ->
 (∀m' s',I s'->m<=m'->m'<=m+f->Asc lt p m'->(m'=m+f\/lt (p.getD m' 0) (p.getD (m'-1) 0)=true)->Q m' s')->(kas_asc p f m).kasWp cmp Q s
 | 0,m,s,hI,h1,hn,h,q=>q m s hI (Qp _) (Qp _) h (.inl rfl)
 | f+1,m,s,hI,h1,hn,h,q=>by
  refine R _ _ _ s hI (P.low m (by omega)) (P.low (m-1) (by omega)) fun s' hI'=>?_
  cases e:lt (p.getD m 0) (p.getD (m-1) 0) with
  | true=>exact q m s' hI' (Qp _) (by omega) h (.inr e)
  | false=>exact Jfp o R P f (m+1) s' hI' (by omega) (by omega) (Jid o P h1 (by omega) h e) fun m' s'' hI'' a b c d=>q m' s'' hI'' (by omega) (by omega) c (d.imp (fun z=>by omega) id)
def JiD(o:LtO N lt)(P:Pm p N)(h1:1<=m)(hm:m<N)(h:Dsc lt p m)(e:lt (p.getD m 0) (p.getD (m-1) 0)=true):Dsc lt p (m+1):=by
 intro a b ab hb
 by_cases c:b<m
 ·exact h a b ab c
 ·have:b=m:=by omega
  subst this
  by_cases c2:a=b-1
  ·rw[c2];exact e
  ·exact o.tra _ _ _ (P.low b hm) (P.low (b-1) (by omega)) (P.low a (by omega)) e (h a (b-1) (by omega) (by omega))
theorem JkE(o:LtO N lt)(R:Rt N lt I cmp)(P:Pm p N):∀(f m:Nat) (s:Qi),I s->2<=m->m+f<=N->Dsc lt p m ->
 (∀m' s',I s'->2<=m'->m'<=N->Dsc lt p m'->Q (p,m',0) s')->(kas_desc f p m 0).kasWp cmp Q s
 | 0,m,s,hI,h1,hn,h,q=>q m s hI h1 (by omega) h
 | f+1,m,s,hI,h1,hn,h,q=>by
  refine R _ _ _ s hI (P.low m (by omega)) (P.low (m-1) (by omega)) fun s' hI'=>?_
  cases e:lt (p.getD m 0) (p.getD (m-1) 0) with
  | true=>exact JkE o R P f (m+1) s' hI' (by omega) (by omega) (JiD o P (by omega) (by omega) h e) q
  | false =>
   refine R _ _ _ s' hI' (P.low (m-1) (by omega)) (P.low m (by omega)) fun s2 hI2=>?_
   have d:lt (p.getD (m-1) 0) (p.getD m 0)=true:=o.tot _ _ (P.low m (by omega)) (P.low (m-1) (by omega)) (fun z=>by have:=P.inj m (m-1) (by omega) (by omega) z;omega) e;rw[d];exact q m s2 hI2 h1 (by omega) h
def Jln{p q:Array Nat}(h:p[a]?=q[b]?):p.getD a 0=q.getD b 0:=by rw[GZ,GZ,h]
def Jmm(P:Pm p N)(hm:m<=N)(h:Dsc lt p m):Asc lt (kas_rev p 0 m) m:=by
 have g:∀k,k<m->(kas_rev p 0 m).getD k 0=p.getD (m-1-k) 0:=fun k hk=>Jln (by unfold kas_rev;rw[getElem?_mirror_all (by rw[P.size];exact hm) k];rw[if_pos ⟨by omega,hk⟩];congr 1;omega)
 intro a b ab hb;rw[g a (by omega),g b hb];exact h (m-1-b) (m-1-a) (by omega) (by omega)
def JjB(h:p.toList.Perm (Ge N))(i j:Nat):(kas_rev p i j).toList.Perm (Ge N):=((mirror_perm p i j _).toList).trans h
theorem JaE(o:LtO N lt)(R:Rt N lt I cmp)(P:Pm p N)(hk:k<N)(h:Asc lt p k):∀(f l r:Nat) (s:Qi),I s->l<=r->r<=k->r-l<=f->(∀a,a<l->lt (p.getD a 0) (p.getD k 0)=true)->(∀a,r<=a->a<k->lt (p.getD k 0) (p.getD a 0)=true) ->
 (∀l' s',I s'->l'<=k->(∀a,a<l'->lt (p.getD a 0) (p.getD k 0)=true)->(∀a,l'<=a->a<k->lt (p.getD k 0) (p.getD a 0)=true)->Q l' s')->(kas_place p k f l r).kasWp cmp Q s
 | 0,l,r,s,hI,h1,h2,h3,ha,hb,q=>q l s hI (by omega) ha fun a h4 h5=>hb a (by omega) h5
 | f+1,l,r,s,hI,h1,h2,h3,ha,hb,q=>by
  unfold kas_place;split
  ·exact q l s hI (by omega) ha fun a h4 h5=>hb a (by omega) h5
  ·next c =>
   have hmid:(l+r) / 2<r/\l<=(l+r) / 2:=by omega
   refine R _ _ _ s hI (P.low k hk) (P.low _ (by omega)) fun s' hI'=>?_
   cases e:lt (p.getD k 0) (p.getD ((l+r) / 2) 0) with
   | true =>
    refine JaE o R P hk h f l ((l+r) / 2) s' hI' (by omega) (by omega) (by omega) ha (fun a h4 h5=>?_) q
    by_cases z:a=(l+r) / 2
    ·rw[z];exact e
    ·exact o.tra _ _ _ (P.low k hk) (P.low _ (by omega)) (P.low a (by omega)) e (h _ a (by omega) h5)
   | false =>
    have d:lt (p.getD ((l+r) / 2) 0) (p.getD k 0)=true:=o.tot _ _ (P.low k hk) (P.low _ (by omega)) (fun z=>by have:=P.inj k ((l+r) / 2) hk (by omega) z;omega) e;refine JaE o R P hk h f ((l+r) / 2+1) r s' hI' (by omega) (by omega) (by omega) (fun a h4=>?_) hb q
    by_cases z:a=(l+r) / 2
    ·rw[z];exact d
    ·exact o.tra _ _ _ (P.low a (by omega)) (P.low _ (by omega)) (P.low k hk) (h a _ (by omega) (by omega)) d
def Jl8(P:Pm p N)(hk:k<N)(hl:l<=k)(h:Asc lt p k)(ha:∀a,a<l->lt (p.getD a 0) (p.getD k 0)=true)(hb:∀a,l<=a->a<k->lt (p.getD k 0) (p.getD a 0)=true):Asc lt (bubble p k (k-l)) (k+1):=by
 have g:∀x,x<k+1->(bubble p k (k-l)).getD x 0=if x=l then p.getD k 0 else if l<x then p.getD (x-1) 0 else p.getD x 0:=fun x hx=>by
  have e:=getElem?_bubble (xs:=p) (src:=k) (by rw[P.size];exact hk) (k-l) (by omega) x;rw[show k-(k-l)=l by omega] at e;rw[GZ,e]
  by_cases c:x=l
  ·rw[if_pos c,if_pos c,<- GZ]
  ·rw[if_neg c,if_neg c]
   by_cases c2:l<x
   ·rw[if_pos ⟨c2,by omega⟩,if_pos c2,<- GZ]
   ·rw[if_neg fun z=>c2 z.1,if_neg c2,<- GZ]
 intro a b ab hb';rw[g a (by omega),g b hb']
 by_cases c1:a=l
 ·rw[if_pos c1,if_neg (by omega),if_pos (by omega)];exact hb (b-1) (by omega) (by omega)
 ·rw[if_neg c1]
  by_cases c2:l<a
  ·rw[if_pos c2,if_neg (by omega),if_pos (by omega)];exact h (a-1) (b-1) (by omega) (by omega)
  ·rw[if_neg c2]
   by_cases c3:b=l
   ·rw[if_pos c3];exact ha a (by omega)
   ·rw[if_neg c3]
    by_cases c4:l<b
    ·rw[if_pos c4];exact h a (b-1) (by omega) (by omega)
    ·rw[if_neg c4];exact h a b ab (by omega)
theorem JkD(o:LtO N lt)(R:Rt N lt I cmp)(q:∀p s,I s->p.toList.Perm (Ge N)->Asc lt p N->Q p s):∀(f:Nat) (p:Array Nat) (k:Nat) (s:Qi),I s->p.toList.Perm (Ge N)->k+f=N->Asc lt p k->(kas_bin f p k).kasWp cmp Q s
 | 0,p,k,s,hI,hp,hk,h=>q p s hI hp (by rw[show N=k by omega];exact h)
 | f+1,p,k,s,hI,hp,hk,h=>by
  have P:=Pm.of hp;unfold kas_bin;rw[L3];refine JaE o R P (by omega) h k 0 k s hI (by omega) (Qp _) (by omega) (fun a ha=>absurd ha (by omega)) (fun a h1 h2=>absurd h2 (by omega)) fun l s' hI' hl ha hb=>?_
  exact JkD o R q f _ (k+1) s' hI' (((bubble_perm p k _).toList).trans hp) (by omega) (Jl8 P (by omega) hl h ha hb)
def JmQ(o:LtO N lt)(R:Rt N lt I cmp)(h2:2<=N)(q:∀p s,I s->p.toList.Perm (Ge N)->Asc lt p N->Q p s)(s:Qi)(hI:I s):(kas_sort N).kasWp cmp Q s:=by
 have hp0:(KA (Ge N)).toList.Perm (Ge N):=List.Perm.refl _
 have P0:=Pm.of hp0
 have one:∀p,Asc lt p 1:=fun p a b h1 h2=>by omega
 have fin:∀(m:Nat) (p:Array Nat) (s:Qi),I s->p.toList.Perm (Ge N)->1<=m->m<=N->Asc lt p m->(if m<N then kas_bin (N-max m 1) p (max m 1) else KasT.ret p).kasWp cmp Q s:=fun m p s hI hp h1 h3 ha=>by
  split
  ·rw[show max m 1=m by omega];exact JkD o R q _ p m s hI hp (by omega) ha
  ·exact q p s hI hp (by rw[show N=m by omega];exact ha)
 unfold kas_sort;rw[L3];unfold kas_count;rw[L3];refine Jfp o R P0 (N-1) 1 s hI (Qp _) (by omega) (one _) fun m s1 hI1 a b c d=>?_
 split
 ·exact fin m _ s1 hI1 hp0 a (by omega) c
 ·next hne =>
  have hmN:m≠N:=by simpa using hne
  split
  ·next h1 =>
   refine R _ _ _ s1 hI1 (P0.low 0 (by omega)) (P0.low _ (by omega)) fun s2 hI2=>?_
   rw[c 0 (m-1) (by omega) (by omega)];exact fin m _ s2 hI2 hp0 a (by omega) c
  ·next h1 =>
   have m1:m=1:=by omega
   subst m1
   have d2:Dsc lt (KA (Ge N)) 2:=fun x y h3 h4=>by
    have:x=0/\y=1:=by omega
    rw[this.1,this.2];exact d.resolve_left (by omega)
   unfold kas_descPart;rw[L3];refine JkE o R P0 _ 2 s1 hI1 (Qp _) (by omega) d2 fun m' s2 hI2 e1 e2 e3=>?_
   show(kas_tail3 m' N (KA (Ge N))).kasWp cmp _ s2;unfold kas_tail3;rw[L3]
   have hp1:=JjB hp0 0 m';exact Jfp o R (Pm.of hp1) (N-m') m' s2 hI2 (by omega) (by omega) (Jmm P0 e2 e3) fun m2 s3 hI3 f1 f2 f3 _=>fin m2 _ s3 hI3 hp1 (by omega) (by omega) f3
def JgW(h:N<2):Asc lt p N:=fun a b h1 h2=>by omega
def Jj9(vs:List Qe):(Ge vs.length).map (fun i=>vs.getD i Value.none)=vs:=by
 refine GX fun i=>?_
 rw[Qw]
 by_cases h:i<vs.length
 ·rw[List.getElem?_range h,Lx,Qy h];simp[h]
 ·rw[GO (by simpa using h),GO (by omega)];rfl
def JmV(vs:List Qe):((vs.toArray.zip vs.toArray).map (·.2))=vs.toArray:=by
 apply Array.toList_inj.mp
 rw[Array.toList_map,Array.toList_zip];exact List.map_snd_zip (Qp _)
def JpH{a:Qj}{vs:List Qe}{n:Nat}{P:PySem.Fin->Qi->Prop}{lt:Nat->Nat->Bool}{κ:SortKind}(ho:s.heap.get? a=some (seqObj "list" vs.toArray n))(h64:vs.length<64)(lo:LtO vs.length lt)
 (kk:2<=vs.length->∀h1:Q1,(∀b ob,b≠a->s.heap.get? b=some ob->h1.get? b=some ob)->wpAny (model prog w) A (keyKind' vs.toArray) (fun k s'=>k=κ/\s'={ s with heap:=h1 }) (fun _ _=>False) { s with heap:=h1 })
 (ask:∀h1:Q1,(∀b ob,b≠a->s.heap.get? b=some ob->h1.get? b=some ob)->Rt vs.length lt (·={ s with heap:=h1 }) (kas_ask prog w A κ vs))
 (h:∀p:Array Nat,p.toList.Perm (Ge vs.length)->Asc lt p vs.length->P (.done (.ret .none)) { s with heap:=sortedHeap s.heap a vs (KA (p.toList.map fun i=>vs.getD i Value.none)) }) :
 wpAny (model prog w) A (Builtin.«list.sort» ⟨[.ref a],[]⟩) P E s:=by
 have lta:a<s.heap.objs.size:=Qo ho
 have room:vs.length<=Qt:=by rw[sizeLine_eq];omega
 obtain⟨c,hc⟩:∃c,(s.heap.update a (KG fun _=>(#[]:Array Qe))).get? a=some (seqObj "list" #[] c):=⟨_,get?_update_seq ho fun _=>#[]⟩
 have sb:=Gw s.heap a (KG fun _=>(#[]:Array Qe));rw[list_sort_plain];refine Qa (listItems_at ho rfl ?_);refine Qa (listUpdate_at ho rfl ?_ (by rw[Qu];exact room) (GP _));refine Qa (seqEpoch_at hc rfl ?_);refine Qa (Mf ?_ room);refine Qa (wpAny_newList ?_ (GP _));refine GI ?_
 generalize hG:(((s.heap.update a (KG fun _=>(#[]:Array Qe))).push (seqObj "tuple" vs.toArray 0)).push (seqObj "list" #[] 0))=G
 have ga:G.get? a=some (seqObj "list" #[] c):=hG▸Qh _ (Qh _ hc)
 have keep:∀b ob,b≠a->s.heap.get? b=some ob->G.get? b=some ob:=fun b ob hb e=>hG▸Qh _ (Qh _ ((sb.2 b hb).trans e))
 have fin:∀p:Array Nat,p.toList.Perm (Ge vs.length)->Asc lt p vs.length->P (.done (.ret .none)) { s with heap:=G.update a (KG fun _=>KA (p.toList.map fun i=>vs.getD i Value.none)) }:=fun p hp ha=>by have z:=h p hp ha;unfold sortedHeap at z;rw[hG] at z;exact z
 dsimp only
 by_cases two:vs.toArray.size<2
 ·have two':vs.length<2:=by simpa using two
  rw[if_pos two,if_pos two];refine Qa (Qg ?_);rw[StateT.run_pure];refine Qa (Qg ?_);dsimp only;refine Qa (seqEpoch_at ga rfl ?_)
  have ea:(arrOf (SortSt.mk' general' (vs.toArray.zip vs.toArray) #[] 7 none)).map (·.2)=KA ((KA (Ge vs.length)).toList.map fun i=>vs.getD i Value.none):=by show(vs.toArray.zip vs.toArray).map (·.2)=KA ((Ge vs.length).map fun i=>vs.getD i Value.none);rw[JmV,Jj9]
  rw[ea];refine Qa (listUpdate_at ga rfl ?_ (GP _) (by simpa using Re room));simp only[bne_self_eq_false,G7,if_false];exact Qg (fin _ (List.Perm.refl _) (JgW two'))
 ·have two1:¬vs.length<2:=by simpa using two
  have two':2<=vs.length:=by omega
  rw[if_neg two,if_neg two];refine Qa (KZ (kk two' G keep) (fun k s0 hk=>?_) fun _ _ x=>x.elim);obtain⟨rfl,rfl⟩:=hk;have tree:(kas_sort vs.length).kasWp (kas_ask prog w A k vs) (fun p s'=>s'={ s with heap:=G }/\p.toList.Perm (Ge vs.length)/\Asc lt p vs.length) { s with heap:=G }:=JmQ lo (ask G keep) two' (fun p s' e hp ha=>⟨e,hp,ha⟩) _ rfl;refine Qa (KZ (kat_run (ks:=vs) (Q:=fun st' s'=>s'={ s with heap:=G }/\failedOf st'=none/\∃p:Array Nat,(arrOf st').map (·.2)=KA (p.toList.map fun i=>vs.getD i Value.none)/\p.toList.Perm (Ge vs.length)/\Asc lt p vs.length) rfl two' h64
   (fun p st' s' _ e f g=>⟨g.1,f,p,kat_snds rfl e,g.2⟩) tree) ?_ fun _ _ e=>e)
  rintro⟨⟨⟩,st'⟩ s' ⟨rfl,hf,p,ep,hp,ha⟩;dsimp only;refine Qa (seqEpoch_at ga rfl ?_);rw[ep];refine Qa (listUpdate_at ga rfl ?_ (GP _) (by
   rw[Qu,Qm,hp.length_eq,Ks];exact Re room))
  rw[hf];simp only[bne_self_eq_false,G7,if_false];exact Qg (fin p hp ha)
noncomputable abbrev PrI:=Int×Int
noncomputable def Uk(p q:PrI):Bool:=if p.1=q.1 then decide (p.2<q.2) else decide (p.1<q.1)
noncomputable def ltP(ps:List PrI)(i j:Nat):Bool:=Uk (ps.getD i (0,0)) (ps.getD j (0,0))
def Jqw(nd:ps.Nodup):LtO ps.length (ltP ps):=by
 have inj:∀i j,i<ps.length->j<ps.length->ps.getD i (0,0)=ps.getD j (0,0)->i=j:=fun i j hi hj e=>by
  have gi:ps.getD i (0,0)=ps[i]:=by simp[hi]
  have gj:ps.getD j (0,0)=ps[j]:=by simp[hj]
  rw[gi,gj] at e;rcases LF i j with c|c|c
  ·exact absurd e (GR.mp nd i j hi hj c)
  ·exact c
  ·exact absurd e.symm (GR.mp nd j i hj hi c)
 refine⟨fun i j hi hj ne e=>?_,fun i j hi hj e=>?_,fun i j k hi hj hk e1 e2=>?_⟩
 ·have d:ps.getD i (0,0)≠ps.getD j (0,0):=fun z=>ne (inj i j hi hj z)
  unfold ltP Uk at e ⊢
  generalize ps.getD i (0,0)=p at *
  generalize ps.getD j (0,0)=q at *
  obtain⟨p1,p2⟩:=p;obtain⟨q1,q2⟩:=q;dsimp only at *
  by_cases c:p1=q1
  ·rw[if_pos c,decide_eq_false_iff_not] at e;rw[if_pos c.symm,decide_eq_true_iff];have:p2≠q2:=fun z=>d (by rw[c,z])
   omega
  ·rw[if_neg c,decide_eq_false_iff_not] at e;rw[if_neg fun z=>c z.symm,decide_eq_true_iff];omega
 ·unfold ltP Uk at e ⊢
  by_cases c:(ps.getD i (0,0)).1=(ps.getD j (0,0)).1
  ·rw[if_pos c,decide_eq_true_iff] at e;rw[if_pos c.symm,decide_eq_false_iff_not];omega
  ·rw[if_neg c,decide_eq_true_iff] at e;rw[if_neg fun z=>c z.symm,decide_eq_false_iff_not];omega
 ·unfold ltP Uk at e1 e2 ⊢
  by_cases c1:(ps.getD i (0,0)).1=(ps.getD j (0,0)).1
  ·rw[if_pos c1,decide_eq_true_iff] at e1
   by_cases c2:(ps.getD j (0,0)).1=(ps.getD k (0,0)).1
   ·rw[if_pos c2,decide_eq_true_iff] at e2;rw[if_pos (c1.trans c2),decide_eq_true_iff];omega
   ·rw[if_neg c2,decide_eq_true_iff] at e2;rw[if_neg (by omega),decide_eq_true_iff];omega
  ·rw[if_neg c1,decide_eq_true_iff] at e1
   by_cases c2:(ps.getD j (0,0)).1=(ps.getD k (0,0)).1
   ·rw[if_pos c2,decide_eq_true_iff] at e2;rw[if_neg (by omega),decide_eq_true_iff];omega
   ·rw[if_neg c2,decide_eq_true_iff] at e2;rw[if_neg (by omega),decide_eq_true_iff];omega
noncomputable def TupP(h:Q1)(v:Qe)(p:PrI):Prop:=∃a o n t u,v=.ref a/\h.get? a=some o/\o.cls=.type "tuple"/\o.data=.seq #[.int p.1 t,.int p.2 u] n
noncomputable def Jfs(h:Q1)(vs:List Qe)(ps:List PrI):Prop:=vs.length=ps.length/\∀(i:Nat) (v:Qe) (p:PrI),vs[i]?=some v->ps[i]?=some p->TupP h v p
section
variable{prog:Qz}{w:QT}{A:QS}{E:Qe->Qi->Prop}{s:Qi}
def TupP.off(ho:h.get? a=some (seqObj "list" vs n))(keep:∀b ob,b≠a->h.get? b=some ob->h1.get? b=some ob)(t:TupP h v p):TupP h1 v p:=by obtain⟨b,o,m,t,u,rfl,hb,hc,hd⟩:=t;refine⟨b,o,m,t,u,rfl,keep b o (fun e=>?_) hb,hc,hd⟩;subst e;rw[ho] at hb;cases hb;have z:(Value.type "list":Qe)=.type "tuple":=hc;exact absurd z (by decide)
theorem Ji9{h:Q1}:∀{vs:List Qe} {ps:List PrI},Jfs h vs ps->∃fs,KatTups h vs fs/\fs.length=vs.length/\∀f∈fs,∃i t,f=Value.int i t
 | [],[],_=>⟨[],trivial,rfl,fun f hf=>nomatch hf⟩
 | [],_::_,t=>by cases t.1
 | _::_,[],t=>by cases t.1
 | v::vs,p::ps,t=>by
  obtain⟨fs,k1,k2,k3⟩:=Ji9 (vs:=vs) (ps:=ps) ⟨by have:=t.1;simpa using this,fun i v p h1 h2=>t.2 (i+1) v p (by simpa using h1) (by simpa using h2)⟩;obtain⟨a,o,n,x,y,rfl,ho,hc,hd⟩:=t.2 0 v p rfl rfl;refine⟨.int p.1 x::fs,KatTups.cons ho hc hd rfl k1,by rw[Qr,k2,Qr],fun f hf=>?_⟩;rcases Qk.mp hf with e|e
  ·exact⟨_,_,e⟩
  ·exact k3 f e
def JgX(t:Jfs h1 vs ps):Rt vs.length (ltP ps) (·={ s with heap:=h1 }) (kas_ask prog w A (tuples' true) vs):=by
 intro i j C s' e hi hj q;subst e;have q:=q _ rfl;have gi:vs.getD i Value.none=vs[i]:=by simp[hi]
 have gj:vs.getD j Value.none=vs[j]:=by simp[hj]
 have li:i<ps.length:=by rw[<- t.1];exact hi
 have lj:j<ps.length:=by rw[<- t.1];exact hj
 obtain⟨a,oa,n,x1,x2,ea,ha,_,da⟩:=t.2 i vs[i] ps[i] (by simp) (by simp);obtain⟨b,ob,m,y1,y2,eb,hb,_,db⟩:=t.2 j vs[j] ps[j] (by simp) (by simp);have ei:ps.getD i (0,0)=ps[i]:=by simp[li]
 have ej:ps.getD j (0,0)=ps[j]:=by simp[lj]
 unfold ltP Uk at q;rw[ei,ej] at q;unfold kas_ask;rw[gi,gj,ea,eb];refine kat_lt (s:={ s with heap:=h1 }) ha da hb db ?_;refine kat_cons (Ro ?_)
 by_cases c:ps[i].1=ps[j].1
 ·rw[if_pos c] at q;rw[show(ps[i].1 == ps[j].1)=true by simpa using c];refine kat_yes (kat_cons (Ro ?_))
  by_cases d:ps[i].2=ps[j].2
  ·rw[show(ps[i].2 == ps[j].2)=true by simpa using d];refine kat_yes (kat_nil ?_);rw[decide_eq_false (by omega)] at q;exact q
  ·rw[show(ps[i].2 == ps[j].2)=false by simpa using d];exact kat_no (kat_one _ _ (PyProof.Rows.lt_int (show W.BoolBack C (Value.bool (decide (ps[i].snd<ps[j].snd))) _ from q)))
 ·rw[if_neg c] at q;rw[show(ps[i].1 == ps[j].1)=false by simpa using c];exact kat_no (oneLt_int q)
def Jfg{a:Qj}{vs:List Qe}{ps:List PrI}{n:Nat}{P:PySem.Fin->Qi->Prop}(ho:s.heap.get? a=some (seqObj "list" vs.toArray n))(h64:vs.length<64)(t:Jfs s.heap vs ps)(nd:ps.Nodup)
 (h:∀p:Array Nat,p.toList.Perm (Ge vs.length)->Asc (ltP ps) p vs.length->P (.done (.ret .none)) { s with heap:=sortedHeap s.heap a vs (KA (p.toList.map fun i=>vs.getD i Value.none)) }) :
 wpAny (model prog w) A (Builtin.«list.sort» ⟨[.ref a],[]⟩) P E s:=by
 have tt:∀h1:Q1,(∀b ob,b≠a->s.heap.get? b=some ob->h1.get? b=some ob)->Jfs h1 vs ps:=fun h1 keep=>⟨t.1,fun i v p e1 e2=>TupP.off ho keep (t.2 i v p e1 e2)⟩
 refine JpH (κ:=tuples' true) ho h64 (t.1▸Jqw nd) (fun h2 h1 keep=>?_) (fun h1 keep=>JgX (tt h1 keep)) h;obtain⟨fs,k1,k2,k3⟩:=Ji9 (tt h1 keep);refine kat_kind (s:={ s with heap:=h1 }) (T:=.type "int") k1 (by omega) (fun v hv=>?_) rfl ⟨rfl,rfl⟩;obtain⟨i,x,rfl⟩:=k3 v hv;exact fun _ _ _ _ _ q=>Qg q
end
end L2
namespace L2
open PySem PySem.Spec PySem.W PyProof.Rows
noncomputable def RawD(h:Q1)(d:Qj)(es:Array DictEntry)(ep:Nat):Prop:=∃o,h.get? d=some o/\o.ExactDict/\o.data=.dict es ep
section
variable{prog:Qz}{w:QT}{A:QS}{E:Qe->Qi->Prop}{s:Qi}{it d v:Qj}{i ep:Nat}{es:Array DictEntry}
def RawD.at{h h':Q1}(x:RawD h d es ep)(e:∀o,h.get? d=some o->h'.get? d=some o):RawD h' d es ep:=let ⟨o,ho,r⟩:=x;⟨o,e _ ho,r⟩
def RawD.lt{h:Q1}(x:RawD h d es ep):d<h.objs.size:=let ⟨_,ho,_⟩:=x;Qo ho
def JdI(hh:A.handled=none)(hit:s.heap.IsKeyIter it d i es.size ep)(hm:RawD s.heap d es ep)(item:∀e h',es[i]?=some e->h'.IsKeyIter it d (i+1) es.size ep->QH it s.heap h'->Q (some e.key) { s with heap:=h' })(done:es[i]?=none->∀h',KM it s.heap h'->Q none { s with heap:=h' }):wpAny (model prog w) A (pyNext (.ref it)) Q E s:=by
 obtain⟨o,ho,hc,hd⟩:=id hit;obtain⟨od,hod,-,hdd⟩:=id hm;have own:MH "dict_keyiterator"=false:=by decide
 unfold pyNext;refine Qa (Kb (QO (name:=GC "__next__") hit.typeIs MI (QU MI hit.typeIs F.entry_dict_keyiterator_next ?_ (F.args_dict_keyiterator_next_1 _))));refine Qa (Qg (Qa (Qa ?_)))
 first|refine Qa (Lh hit.typeIs (Qg ?_))|refine Qa (L0 hit.typeIs (Qg ?_))
 refine Qa (R5 ho hd ?_);simp only[own,G7,if_false];show wpAny _ _ (if (Value.ref d == Value.none)=true then _ else _) _ _ s;rw[if_neg (show ¬((Value.ref d == Value.none)=true) from Qx)];refine Qa (Qg (Qa (wpAny_dictEntries hod hdd ?_)));rw[if_neg (by simp)];refine Qa (Qg (Qa (wpAny_dictEpoch hod hdd ?_)));rw[if_neg (by simp)];refine Qg ?_;simp only[show ¬((i:Int)<0) from by omega,if_false,Gu]
 cases hx:es[i]? with
 | some e =>
  have hit':(s.heap.update it (L1 (·.setIfInBounds 1 (rawInt ((i:Int)+1))))).IsKeyIter it d (i+1) es.size ep :=
   ⟨_,Gg _ ho (Kx (GL hd _)),(LD ..).trans hc,by rw[GL hd];simp[rawInt]⟩
  refine Qa ?_
  first|refine Qa (Lh hit.typeIs (Qg ?_))|refine Qa (L0 hit.typeIs (Qg ?_))
  refine Qa (wpAny_isOneOf_keyiter hit.typeIs ?_);show wpAny _ _ (setField (.ref it) 1 (rawInt ((i:Int)+1)) >>= _) _ _ s;refine Qa (Kr ho hd (by simp) (Qa (GI ?_)));refine Qa (wpAny_isOneOf_keyiter (s:={ s with heap:=s.heap.update it (L1 (·.setIfInBounds 1 (rawInt ((i:Int)+1)))) }) hit'.typeIs ?_);show wpAny _ _ (pure e.key) _ _ _;exact Qg (Qg ⟨_,rfl,Qg (item e _ hx hit' (Gw ..))⟩)
 | none =>
  refine Qa ?_
  first|refine Qa (Lh hit.typeIs (Qg ?_))|refine Qa (L0 hit.typeIs (Qg ?_))
  show wpAny _ _ (setField (.ref it) 0 .none >>= _) _ _ s;refine Qa (Kr ho hd (by simp) ?_)
  show wpAny _ _ (newExc (.type "StopIteration") [] >>= _) _ _ _;refine Qa ?_;simp only[newExc,newTuple];refine Qa (QW ?_ (by size_fits));refine Qa (m:=firstArgMember _ _) (KB (a:=Value.none) (by first | rfl | (simp only[firstArgMember];rfl)) ?_);refine QW ?_ (by size_fits);simp only[raiseNew];refine Qa (Rl ?_);rw[show A.in1.handled=none from hh];refine Qa (Qg (R3 ?_))
  refine Qa (Kp (T:="StopIteration") (b:=true) ⟨_,Qn _ rfl,rfl⟩ K9 ?_);exact Qg (done hx _ (((Gw ..).extBut.push _).push _))
def JjV(hh:A.handled=none)(I d:Qj)(hne:d≠I)(es:Array DictEntry)(ep:Nat) :
 Walks prog w A I [I,d] [I] es.size (fun i v=>∃e,es[i]?=some e/\e.key=v) (fun i h=>h.IsKeyIter I d i es.size ep/\RawD h d es ep) where
 sub:=fun b hb=>by simp at hb;simp[hb]
 frame:=fun _ _ _ st hk=>⟨st.1.at fun o e=>hk I (by simp) o e,st.2.at fun o e=>hk d (by simp) o e⟩
 item:=fun i s Q E hi st hQ=>by refine JdI hh st.1 st.2 (fun e h' he hit' hs'=>?_) (fun e=>absurd (Array.getElem?_eq_none_iff.mp e) (by omega));exact hQ e.key h' s.toks ⟨e,he,rfl⟩ ⟨hit',st.2.at fun o x=>hs'.extBut d o hne x⟩ fun b o hb x=>hs'.extBut b o (fun h=>hb (by simp[h])) x
 done:=fun s Q E st hQ=>JdI hh st.1 st.2 (fun e h' he _ _=>by have:=(M1.mp he).1;omega) fun _ h' he'=>hQ h' s.toks fun b o hb e=>he' b o (fun h=>hb (by simp[h])) e
 self:=fun _ _ _ _ st hQ=>wpAny_pyIter_keyiter st.1 hQ
def JjU(hv:KdlKeysView s.heap v d)(hm:RawD s.heap d es ep)(hQ:Q (.ref s.heap.objs.size) { s with heap:=s.heap.push { cls:=.type "dict_keyiterator",data:=.fields #[.ref d,.int 0 0,.int es.size 0,.int ep 0] } }):
 wpAny (model prog w) A (pyIter (.ref v)) Q E s:=by
 obtain⟨ov,hov,hcv,hdv⟩:=id hv;obtain⟨o,ho,hc,hdat⟩:=id hm;have own:MH "dict_keyiterator"=false:=by decide
 refine Mg hv.typeIs kdl_slot_keys_iter (QU kdl_slot_keys_iter hv.typeIs kdl_entry_keys_iter ?_ (kdl_args_keys_iter _));unfold Builtin.«dict_keys.__iter__»;refine Qa (Qg (Qa ?_));unfold Builtin.Dict_items.dictOf;refine Qa (Q5 hov hdv (x:=.ref d) rfl (Qg (Qa ?_)));unfold Builtin.Dict_items.newIterator;refine Qa (wpAny_dictEntries ho hdat (Qa (wpAny_dictEpoch ho hdat ?_)));simp only[own,G7,if_false]
 refine QW (Qg ⟨_,rfl,"dict_keyiterator",_,⟨_,Qn _ rfl,rfl⟩,PySem.F.slot_dict_keyiterator_next.lookup,?_⟩)
 simpa [rawInt] using hQ
def Jma{r:Qj}:KdlSrc prog w "dict_keys" r d es.size (fun i v=>∃e,es[i]?=some e/\e.key=v) (fun h=>KdlKeysView h r d/\RawD h d es ep) where
 type:=fun _ hm=>hm.1.typeIs
 there:=fun _ hm=>⟨let ⟨_,ho,_⟩:=hm.1;Qo ho,hm.2.lt⟩
 keep:=fun _ _ hm hk=>⟨let ⟨o,ho,x⟩:=hm.1;⟨o,hk r (.inl rfl) o ho,x⟩,hm.2.at fun o e=>hk d (.inr rfl) o e⟩
 notList:=by decide
 notTuple:=by decide
 hint:=fun _ _ _ _ hm hq=>kdl_hint_keys hm.1.typeIs hq
 iter:=fun _ s hh hm=>⟨_,_,(fun _ _ hq=>JjU hm.1 hm.2 hq),JjV hh _ d (QD hm.2.lt) es ep,⟨⟨_,Qn _ rfl,rfl,rfl⟩,hm.2.at fun o e=>Qh _ e⟩⟩
end
noncomputable def Jhm(p:PrI):List PrI->List PrI
 | []=>[p]
 | q::l=>if Uk q p=true then q::Jhm p l else p::q::l
noncomputable def W8:List PrI->List PrI
 | []=>[]
 | p::l=>Jhm p (W8 l)
theorem Wz(p:PrI):∀l,(Jhm p l).Perm (p::l)
 | []=>.refl _
 | q::l=>by
  unfold Jhm;split
  ·exact((Wz p l).cons q).trans (List.Perm.swap p q l)
  ·exact .refl _
theorem JE:∀l,(W8 l).Perm l
 | []=>.refl _
 | p::l=>(Wz p _).trans ((JE l).cons p)
def Vb(a b:PrI):Uk a b=true↔a.1<b.1\/(a.1=b.1/\a.2<b.2):=by
 unfold Uk
 by_cases e:a.1=b.1
 ·rw[if_pos e,decide_eq_true_iff];exact⟨fun h=>.inr ⟨e,h⟩,fun h=>h.elim (fun x=>by omega) fun x=>x.2⟩
 ·rw[if_neg e,decide_eq_true_iff];exact⟨fun h=>.inl h,fun h=>h.elim id fun x=>absurd x.1 e⟩
def ZW(h:Uk a b=true)(k:Uk b c=true):Uk a c=true:=by rw[Vb] at *;omega
def Jjc(a:PrI):Uk a a=false:=by
 cases h:Uk a a with
 | false=>rfl
 | true=>rw[Vb] at h;omega
def Jjd(h:Uk a b=false)(ne:a≠b):Uk b a=true:=by
 have n1:¬(a.1<b.1\/(a.1=b.1/\a.2<b.2)):=fun x=>by rw[(Vb a b).mpr x] at h;cases h
 have n2:¬(a.1=b.1/\a.2=b.2):=fun x=>ne (Mt x.1 x.2)
 rw[Vb];omega
theorem Jc9(p:PrI):∀l:List PrI,p∉l->l.Pairwise (fun a b=>Uk a b=true)->(Jhm p l).Pairwise (fun a b=>Uk a b=true)
 | [],_,_=>L9 _ _
 | q::l,nm,h=>by
  unfold Jhm;have hq:=QB.mp h;split
  ·rename_i c;refine QB.mpr ⟨fun x hx=>?_,Jc9 p l (fun m=>nm (Qd _ m)) hq.2⟩;rcases Qk.mp ((Wz p l).mem_iff.mp hx) with e|e
   ·rw[e];exact c
   ·exact hq.1 x e
  ·rename_i c;have pq:Uk p q=true:=Jjd (by simpa using c) (fun e=>nm (e▸Qc));refine QB.mpr ⟨fun x hx=>?_,h⟩;rcases Qk.mp hx with e|e
   ·rw[e];exact pq
   ·exact ZW pq (hq.1 x e)
theorem Wq:∀l:List PrI,l.Nodup->(W8 l).Pairwise (fun a b=>Uk a b=true)
 | [],_=>List.Pairwise.nil
 | p::l,nd=>Jc9 p _ (fun m=>(QY.mp nd).1 ((JE l).mem_iff.mp m)) (Wq l (QY.mp nd).2)
theorem JcP:∀{a b:List PrI},a.Perm b->a.Pairwise (fun a b=>Uk a b=true)->b.Pairwise (fun a b=>Uk a b=true)->a=b
 | [],b,h,_,_=>(List.nil_perm.mp h).symm
 | x::a,[],h,_,_=>absurd h.length_eq (by simp)
 | x::a,y::b,h,ha,hb=>by
  have hx:=QB.mp ha
  have hy:=QB.mp hb
  have e:x=y:=by
   rcases Qk.mp (h.mem_iff.mp Qc) with e|e
   ·exact e
   ·rcases Qk.mp (h.mem_iff.mpr Qc) with e'|e'
    ·exact e'.symm
    ·have:=ZW (hx.1 y e') (hy.1 x e);rw[Jjc] at this;cases this
  subst e;rw[JcP (Xj h) hx.2 hy.2]
noncomputable abbrev pk(p:PrI):List Key:=LE.dtK p
def Jo2(h:pk p=pk q):p=q:=by unfold pk LE.dtK at h;simp at h;exact Mt h.1 h.2
noncomputable def Jko(td:TE):TE:=fun σ H Q=>td σ H fun x H1=>∃a,x=.ref a/\IsD H1 a/\∀p,H1 p=none->Q (.ref p) (upd H1 p (W6 p a))
def JdB{X:Cx}{d:GA}{td:TE}{apos pos:Pos}(hd:PE X d td)(hbase:attributeBase d "keys" X.env (eval d X.env)=eval d X.env:=by rfl)(hline:(apos.endLine == pos.line)=true:=by rfl)
:PE X (.Call (.Attribute d "keys" apos) [] [] pos) (Jko td):=by
 intro pins s σ H Q I h;refine K7 hbase hline (thn (hd pins s σ H _ I h) fun v s1 ⟨x,H1,I1,r1,a,ex,hD,q⟩=>?_);subst ex;cases r1;obtain⟨t1,t2,y⟩:=ZS I1 hD;refine⟨"dict","dict.keys",KD,RK,PySem.F.type_dict_keys,t1,t2,Kj rfl (LX ?_)⟩;refine QU RK t1 PySem.F.entry_dict_keys ?_ (PySem.F.args_dict_keys_1 _);have hn:H1 s1.heap.objs.size=none:=I1.hok.fresh (Qp _)
 have vw:KdlKeysView (s1.heap.push { cls:=.type "dict_keys",data:=.fields #[.ref a] }) s1.heap.objs.size a:=⟨_,Qn _ rfl,rfl,rfl⟩
 show wpAny _ _ (Xb _ _ >>= _) _ _ s1;refine Qa ?_;unfold Xb;refine Qa (wpAny_notOrdered_dict t1 (Qg ?_))
 show wpAny _ _ (RT a >>= _) _ _ s1;unfold RT;rw[if_neg (by rw[y];exact Qx)];refine Qa (Qg (Qa (QW (Qg ⟨_,rfl,?_⟩))));refine⟨.ref s1.heap.objs.size,_,I1.laid (t':=s1.toks) (o:=W6 s1.heap.objs.size a) (fun b ob q=>Qh _ q) (Qp _) ⟨vw,⟨_,Qn _ rfl⟩,fun h1 h2 p k=>?_⟩,rfl,q _ hn⟩;obtain⟨o,ho,hc⟩:=p;exact⟨o,k o ho,hc⟩
def Jie{ps:List PrI}{p:List Nat}(hp:p.Perm (Ge ps.length))(ha:∀a b,a<b->b<ps.length->ltP ps (p.getD a 0) (p.getD b 0)=true)(nd:ps.Nodup):(p.map fun i=>ps.getD i (0,0))=W8 ps:=by
 have hl:p.length=ps.length:=by rw[hp.length_eq,Ks]
 refine JcP ?_ ?_ (Wq ps nd)
 ·refine(hp.map _).trans (List.Perm.trans (.of_eq ?_) (JE ps).symm);refine Mq (by simp) fun i h1 h2=>?_
  simp[QV,h2]
 ·refine GR.mpr fun i j hi hj hij=>?_
  have hj':j<ps.length:=by rw[Qm] at hj;omega
  have:=ha i j hij hj';unfold ltP at this
  have g:∀k,(h:k<p.length)->p.getD k 0=p[k]:=fun k h=>by simp[QV,h]
  rw[g i (by omega),g j (by omega)] at this
  simpa using this
noncomputable def Jgn:List V->Hp->VK->Prop:=fun xs H Q=>∃r a ps vs,xs=[.ref r]/\H r=some (W6 r a)/\Rd H a (LE.dtO ps vs)/\ps.length=vs.length/\ps.length<64 ∧
 (ps.Nodup->∀l (bs:List Qj),H l=none->bs.length=ps.length->(∀(i:Nat) (b:Qj) (p:PrI),bs[i]?=some b->(W8 ps)[i]?=some p->H b=some (.tup [.int p.1,.int p.2]))->Q (.ref l) (upd H l (.lst (bs.map V.ref))))
theorem KT.get{H:Hp}:∀{kvs:List (List Key×V)} {xs:List (List Key×Qj×Qe)},KT H kvs xs->kvs.length=xs.length/\∀(i:Nat) (k:List Key×V) (x:List Key×Qj×Qe),kvs[i]?=some k->xs[i]?=some x->k.1=x.1/\H x.2.1=some (.tup (k.1.map kV))
 | _,_,.nil=>⟨rfl,fun i k x e=>by simp at e⟩
 | _,_,.cons h t=>by
  obtain⟨h1,h2⟩:=KT.get t;refine⟨by simp[h1],fun i k x e1 e2=>?_⟩
  cases i with
  | zero=>simp at e1 e2;subst e1 e2;exact⟨h.1,h.2.1⟩
  | succ i=>exact h2 i k x (by simpa using e1) (by simpa using e2)
def WT(hc:X.calm=true):J0 X (.builtin "sorted") Jgn:=by
 intro pins s σ H xs us Q I r h;obtain⟨p,a,ps,vs0,rfl,ds,hq,hlk,h64,q⟩:=h;obtain⟨u,rfl,rx⟩:=Uo r;cases rx;have vw:KdlKeysView s.heap p a:=(show ObjOk X.prog X.w H s.heap p (W6 p a) from I.hok p _ ds).1;obtain⟨z,y,ys,kt,o,es,ep,ho,hex,hdat,hes,_,hnd⟩:=ZB I.hok hq;obtain⟨kl,kg⟩:=KT.get kt;have hps:((ps.map pk).zip vs0).length=ps.length:=by rw[GG,Qm,<- hlk,Ll]
 have hyl:ys.length=ps.length:=by rw[<- kl,hps]
 have hsz:es.size=ps.length:=by rw[<- QN,hes,Qm,hyl]
 have hh:X.A.in1.handled=none:=I.ok.hd hc
 have yk:∀(i:Nat) (x:List Key×Qj×Qe) (p:PrI),ys[i]?=some x->ps[i]?=some p->x.1=pk p/\H x.2.1=some (.tup [.int p.1,.int p.2]):=fun i x p e1 e2=>by
  have hi:i<ps.length:=(Qq.mp e2).1
  have e3:((ps.map pk).zip vs0)[i]?=some (pk p,vs0[i]):=by rw[LS];exact⟨by rw[Qw,e2];rfl,by simp[hlk▸hi]⟩
  obtain⟨g1,g2⟩:=kg i _ x e3 e1;exact⟨g1.symm,g2⟩
 have nd:ps.Nodup:=by
  have e:ys.map (·.1)=ps.map pk:=by
   refine GX fun i=>?_
   rw[Qw,Qw]
   by_cases hi:i<ps.length
   ·have h1:ys[i]?=some ys[i]:=Qy (by omega)
    have h2:ps[i]?=some ps[i]:=Qy hi;rw[h1,h2];exact congrArg some (yk i _ _ h1 h2).1
   ·rw[GO (by omega),GO (by omega)];rfl
  rw[e] at hnd;exact List.Pairwise.of_map pk (fun a b h e=>h (congrArg pk e)) hnd
 refine M7 kind_sorted plain_sorted entry_sorted (args_sorted1 _) ?_;unfold Builtin.«sorted»;refine Qa (m:=checkCount "sorted" 1 1 _) (Qg ?_);refine Qa (JcY (Jma (d:=a) (es:=es) (ep:=ep)) hh ⟨vw,o,ho,hex,hdat⟩ (by rw[hsz,sizeLine_eq];omega) fun h' tk acc hk hsz' items=>?_);have hal:acc.toList.length=ps.length:=by rw[QN,items.1,hsz]
 have keyAt:∀(i:Nat) (v:Qe),acc.toList[i]?=some v->∃x,ys[i]?=some x/\v=.ref x.2.1:=fun i v e=>by
  obtain⟨en,e1,e2⟩:=items.2 i v (by rw[<- GN];exact e);rw[entry_at hes i] at e1
  cases hy:ys[i]? with
  | none=>rw[hy] at e1;cases e1
  | some x=>rw[hy] at e1;cases e1;exact⟨x,rfl,e2.symm⟩
 refine Qa (wpAny_newList ?_ (by rw[hal,sizeLine_eq];omega));have hoL:(h'.push (seqObj "list" acc.toList.toArray 0)).get? h'.objs.size=some (seqObj "list" acc.toList.toArray 0):=Qn _ rfl;refine Qa (GI (QU slot_list_sort ⟨_,hoL,rfl⟩ entry_list_sort (Jfg (ps:=ps) hoL (by rw[hal];exact h64) ⟨hal,fun i v p e1 e2=>?_⟩ nd fun p hp ha=>⟨_,rfl,?_⟩) (args_list_sort _)))
 ·obtain⟨x,ex,rfl⟩:=keyAt i v e1;obtain⟨_,g2⟩:=yk i x p ex e2;obtain⟨_,its,r2,o2,ho2,hc2,n2,hd2⟩:=(show ObjOk X.prog X.w H s.heap x.2.1 (.tup [.int p.1,.int p.2]) from I.hok _ _ g2)
  cases r2 with
  | cons x1 r3=>cases r3 with
   | cons x2 r4=>cases r4;obtain⟨t1,rfl⟩:=x1;obtain⟨t2,rfl⟩:=x2;exact⟨_,o2,n2,t1,t2,rfl,Qh _ (hk _ _ ho2),hc2,hd2⟩
 ·refine Qg ⟨_,rfl,?_⟩;have perm:p.toList.Perm (Ge ps.length):=by rw[<- hal];exact hp
  have asc:∀a b,a<b->b<ps.length->ltP ps (p.toList.getD a 0) (p.toList.getD b 0)=true:=fun x y hxy hy=>by
   have:=ha x y hxy (by rw[hal];exact hy)
   have g:∀i,p.toList.getD i 0=p.getD i 0:=fun i=>by rw[QV,GZ,GN]
   rw[g,g];exact this
  have es2:=Jie perm asc nd;obtain⟨e,he⟩:=sortedHeap_at (out:=KA (p.toList.map fun i=>acc.toList.getD i Value.none)) hoL
  have hle:s.heap.objs.size<=h'.objs.size:=Kc hsz'
  have hne:H h'.objs.size=none:=I.hok.fresh hle
  have pl:p.toList.length=ps.length:=by rw[perm.length_eq,Ks]
  let bs:List Qj:=p.toList.map fun i=>((ys[i]?).map fun x=>x.2.1).getD 0
  have bl:bs.length=ps.length:=by rw[Qm,pl]
  have low:∀i∈p.toList,i<ps.length:=fun i hi=>by simpa using perm.mem_iff.mp hi
  have rel:Vals (bs.map V.ref) (p.toList.map fun i=>acc.toList.getD i Value.none):=by
   have:∀l:List Nat,(∀i∈l,i<ps.length)->Vals ((l.map fun i=>((ys[i]?).map fun x=>x.2.1).getD 0).map V.ref) (l.map fun i=>acc.toList.getD i Value.none):=by
    intro l hl
    induction l with
    | nil=>exact .nil
    | cons i l ih=>refine .cons ?_ (ih fun j hj=>hl j (Qd _ hj));have hi:=hl i Qc;have ea:acc.toList[i]?=some acc.toList[i]:=Qy (by omega);obtain⟨x,ex,ev⟩:=keyAt i _ ea;show RelV (V.ref (((ys[i]?).map fun x=>x.2.1).getD 0)) (acc.toList.getD i Value.none);rw[QV,ea,ex,ev];rfl
   exact this _ low
  refine⟨.ref h'.objs.size,_,I.laid (t':=tk) (fun b o x=>?_) hle (show ObjOk X.prog X.w _ _ _ (.lst (bs.map V.ref)) from⟨by rw[Qm,bl,sizeLine_eq];omega,_,e,rel,?_⟩),rfl,q nd _ bs hne bl fun i b pp e1 e2=>?_⟩
  ·have hx:=hk b o x
   have hlt:b<h'.objs.size:=Qo hx;rw[sortedHeap_old (QD hlt) (by rw[size_push'];exact G5 hlt)];exact Qh _ hx
  ·rw[he]
  ·rw[<- es2,Qw] at e2;rw[Qw] at e1
   cases hpi:p.toList[i]? with
   | none=>rw[hpi] at e1;cases e1
   | some j=>rw[hpi] at e1 e2;have hj:=low j (QI hpi);have y1:ys[j]?=some ys[j]:=Qy (by omega);have p1:ps[j]?=some ps[j]:=Qy hj;simp[QV,y1,p1] at e1 e2;subst e1 e2;exact(yk j _ _ y1 p1).2
noncomputable def Jfk(td ty:TE)(K:QE):TE:=fun σ H Q=>td σ H fun x H1=>ty σ H1 fun y H2=>∃a b kvs k v,x=.ref a/\y=.ref b/\Rd H2 a (.dT kvs)/\SqT K H2 b (k.map kV)/\Um kvs k=some v/\Q v H2
def Jjw(hu:X.A.units+1<cLine)(ho:PE X o td)(hi:PE X i ty)(hs:JkM i):PE X (.Subscript o i pos) (Jfk td ty X.K):=by
 intro pins s σ H Q I h;refine JgB M4.lookup hs (thn (ho pins s σ H _ I h) fun u s1 ⟨x,H1,I1,rx,q1⟩=>thn (hi pins s1 σ H1 _ I1 q1) fun iv s2 ⟨y,H2,I2,ry,a,b,kvs,k,v,ex,ey,e,eb,l,q2⟩=>?_);subst ex ey;obtain rfl:u=Value.ref a:=rx;obtain rfl:iv=Value.ref b:=ry;obtain⟨z,hd,xs,rel,dd⟩:=ZB I2.hok e;refine⟨dd.typeIs,?_⟩;obtain⟨w',hw,rw'⟩:=RelO.some_of (v:=v) (o:=(atKey xs k).map (·.2)) (by rw[<- l];exact rel.val k)
 obtain⟨p,hp,hp2⟩:=GD.mp hw;obtain⟨its,r,⟨ob,h1,h2,n,h3⟩,_⟩:=I2.tuple eb;refine wpAny_getItem_heap (tupleKind_room_in1 hu) ⟨ob,its.toArray,n,h1,h2,h3,by simpa using WA r⟩ dd hp ?_;rw[hp2];exact⟨v,H2,I2.tok _,rw',q2⟩
def WG{X:Cx}{K:QE}{o i:GA}{pos:Pos}{td ty:TE}(hK:X.K=K)(hu:X.A.units+1<cLine)(ho:PE X o td)(hi:PE X i ty)(hs:JkM i):PE X (.Subscript o i pos) (Jfk td ty K):=by subst hK;exact Jjw hu ho hi hs
end L2
namespace LE
open PySem L2 LR
noncomputable def lookP{α:Type}:List (Int×Int)->List α->Int×Int->Option α
 | k::ks,d::ds,n=>if k=n then some d else lookP ks ds n
 | _,_,_=>none
noncomputable def ZO(ks:List (Int×Int))(n:Int×Int):Bool:=ks.any fun k=>decide (k=n)
noncomputable def YD(ks:List (Int×Int))(n:Int×Int):List (Int×Int):=if ZO ks n=true then ks else ks++[n]
noncomputable def setP{α:Type}:List (Int×Int)->List α->Int×Int->α->List α
 | k::ks,d::ds,n,v=>(if k=n then v else d)::setP ks ds n v
 | _,ds,_,_=>ds
noncomputable def putDP{α:Type}(ks:List (Int×Int))(ds:List α)(n:Int×Int)(v:α):List α:=if ZO ks n=true then setP ks ds n v else ds++[v]
theorem JdS{α:Type}:∀(ks:List (Int×Int)) (ds:List α) (n:Int×Int) (v:α),(setP ks ds n v).length=ds.length
 | [],_,_,_=>rfl
 | _::_,[],_,_=>rfl
 | _::ks,_::ds,n,v=>by simp[setP,JdS ks ds n v]
def VA{α:Type}(ks:List (Int×Int))(ds:List α)(n:Int×Int)(v:α)(h:ks.length=ds.length):(YD ks n).length=(putDP ks ds n v).length:=by unfold YD putDP;split <;> simp[JdS,h]
def JbO(h:dtK p=dtK q):p=q:=Jo2 h
theorem V3:∀(ks:List (Int×Int)) (xs:List V) (n:Int×Int),Um ((ks.map dtK).zip xs) (dtK n)=lookP ks xs n
 | [],_,_=>rfl
 | _::_,[],_=>rfl
 | k::ks,x::xs,n=>by
  show Um ((dtK k,x)::(ks.map dtK).zip xs) (dtK n)=_
  by_cases h:k=n
  ·rw[Vq (by rw[h]),lookP,if_pos h]
  ·rw[Vp (fun e=>h (JbO e)),lookP,if_neg h];exact V3 ks xs n
theorem JcO:∀(ks:List (Int×Int)) (xs:List V) (n:Int×Int),ks.length=xs.length->(((ks.map dtK).zip xs).any fun kv=>decide (kv.1=dtK n))=ZO ks n
 | [],_,_,_=>rfl
 | _::_,[],_,h=>by simp at h
 | k::ks,x::xs,n,h=>by
  show(decide (dtK k=dtK n) || ((ks.map dtK).zip xs).any fun kv=>decide (kv.1=dtK n))=(decide (k=n) || ZO ks n)
  rw[JcO ks xs n (by simpa using h)];congr 1
  by_cases e:k=n
  ·simp[e]
  ·rw[decide_eq_false e,decide_eq_false fun z=>e (JbO z)]
theorem Jdm:∀(ks:List (Int×Int)) (xs:List V) (n:Int×Int) (v:V),ks.length=xs.length->((ks.map dtK).zip xs).map (fun kv=>if kv.1=dtK n then(kv.1,v) else kv)=(ks.map dtK).zip (setP ks xs n v)
 | [],_,_,_,_=>rfl
 | _::_,[],_,_,h=>by simp at h
 | k::ks,x::xs,n,v,h=>by
  show(if dtK k=dtK n then(dtK k,v) else(dtK k,x))::((ks.map dtK).zip xs).map _=(dtK k,if k=n then v else x)::(ks.map dtK).zip (setP ks xs n v);rw[Jdm ks xs n v (by simpa using h)];congr 1
  by_cases e:k=n
  ·rw[if_pos (by rw[e]),if_pos e]
  ·rw[if_neg (fun z=>e (JbO z)),if_neg e]
def JhN(ks:List (Int×Int))(xs:List V)(n:Int×Int)(v:V)(h:ks.length=xs.length):(HO.dT (UJ ((ks.map dtK).zip xs) (dtK n) v))=dtO (YD ks n) (putDP ks xs n v):=by
 unfold dtO UJ YD putDP;rw[JcO ks xs n h];split
 ·rw[Jdm ks xs n v h]
 ·rw[QF,MC (by simpa using h)];rfl
theorem RDL.lookP:∀{ks:List (Int×Int)} {xs:List V} {ds:List D} {n:Int×Int},RDL K C H xs ds->(LE.lookP ks xs n=none/\LE.lookP ks ds n=none)\/∃x d,LE.lookP ks xs n=some x/\LE.lookP ks ds n=some d/\RD K C H x d
 | [],_,_,_,_=>.inl ⟨rfl,rfl⟩
 | _::_,[],[],_,_=>.inl ⟨rfl,rfl⟩
 | _::_,[],_::_,_,h=>by have:=h.1;simp at this
 | _::_,_::_,[],_,h=>by have:=h.1;simp at this
 | k::ks,x::xs,d::ds,n,h=>by
  simp only[LE.lookP]
  by_cases e:k=n
  ·rw[if_pos e,if_pos e];exact .inr ⟨x,d,rfl,rfl,h.head⟩
  ·rw[if_neg e,if_neg e];exact RDL.lookP h.tail
theorem RDL.setP(r:RD K C H v e):∀{ks:List (Int×Int)} {xs:List V} {ds:List D},RDL K C H xs ds->RDL K C H (LE.setP ks xs n v) (LE.setP ks ds n e)
 | [],_,_,h=>h
 | _::_,[],[],h=>h
 | _::_,[],_::_,h=>by have:=h.1;simp at this
 | _::_,_::_,[],h=>by have:=h.1;simp at this
 | k::ks,x::xs,d::ds,h=>by
  simp only[LE.setP];refine .cons ?_ (RDL.setP r h.tail);split
  ·exact r
  ·exact h.head
def RDL.putDP{n:Int×Int}{v:V}{e:D}{ks:List (Int×Int)}{xs:List V}{ds:List D}(h:RDL K C H xs ds)(r:RD K C H v e):RDL K C H (LE.putDP ks xs n v) (LE.putDP ks ds n e):=by
 unfold LE.putDP;split
 ·exact RDL.setP r h
 ·exact h.snoc r
noncomputable def Sl.dt:Sl->Option (List (Int×Int)×List D)
 | .bt ks ds=>some (ks,ds)
 | .ot ks ds=>some (ks,ds)
 | _=>none
noncomputable def pr?:Sl->Option (Int×Int)
 | .sh (.tup [.int a,.int b])=>some (a,b)
 | _=>none
noncomputable def ZC:Ev:=fun _=>some (.ot [] [])
noncomputable def Jex(a k:Ev):Ev:=fun E=>(a E).bind fun s=>s.dt.bind fun p=>((k E).bind pr?).bind fun n=>(lookP p.1 p.2 n).map .sh
noncomputable def ZE(a:Ev):Ev:=fun E=>(a E).bind fun s=>s.dt.bind fun p=>if p.1.length<64 then some (.own ((W8 p.1).map prE)) else none
def RR.dt(r:RR K C Hs H0 H v s)(e:s.dt=some p):∃l xs,v=.ref l/\H l=some (dtO p.1 xs)/\p.1.length=p.2.length/\RDL K C H0 xs p.2:=by
 cases s with
 | bt ks ds=>cases e;exact r
 | ot ks ds=>cases e;obtain⟨l,xs,h1,h2,_,_,h3⟩:=r;exact⟨l,xs,h1,h2,h3⟩
 | _=>cases e
def Jl5(e:pr? s=some n):s=.sh (prE n):=by
 unfold pr? at e;split at e
 ·cases e;rfl
 ·cases e
def Jms:SE K C Jkm ZC:=by intro B H0 H σ E r Q I e q;cases e;intro p hp;exact q _ H0 _ ⟨.new hp,Same.refl _,fun _ _ e=>.inl e,I.h.trans (.new hp)⟩ ⟨p,[],rfl,Jn,Same.free I.h hp,hp,rfl,.nil⟩
def RD.prI{v:V}{n:Int×Int}(r:RD K C H v (prE n)):∃a,v=.ref a/\SqT K H a ((dtK n).map kV):=by obtain⟨a,xs,e,h,rl⟩:=RD.tupI r;have:xs=[V.int n.1,V.int n.2]:=RDL.ints (ns:=[n.1,n.2]) rl;subst this;exact⟨a,e,h⟩
def Jrt(ha:SE K C td ed)(hk:SE K C ty ek):SE K C (Jfk td ty K) (Jex ed ek):=by
 intro B H0 H σ E r Q I e q;obtain⟨s,e1,e⟩:=bind_some e;obtain⟨p,e2,e⟩:=bind_some e;obtain⟨n,e3,e⟩:=bind_some e;obtain⟨t,e3,e4⟩:=bind_some e3;obtain rfl:=Jl5 e4;obtain⟨d,e5,rfl⟩:=map_some e;refine ha B H0 H σ E s _ I e1 fun x H1 H1' s1 r1=>hk B H1 H1' σ E _ _ (I.step s1) e3 fun y H2 H2' s2 r2=>?_
 obtain⟨l,xs,rfl,h,_,rl⟩:=(r1.step s2).dt e2;obtain⟨b,rfl,hb⟩:=RD.prI r2;rcases RDL.lookP (ks:=p.1) (n:=n) rl with ⟨_,z⟩|⟨v,d',z1,z2,z3⟩
 ·rw[z] at e5;cases e5
 ·rw[z2] at e5;cases e5;exact⟨l,b,_,dtK n,v,rfl,rfl,.inl h,s2.i.seqT hb,by rw[V3];exact z1,q _ _ _ (s1.trans s2) z3⟩
def EnvR.slotT{B:Hp}{σ:St}{E:En}{i:Nat}{ks:List (Int×Int)}{ds:List LE.D}(I:EnvR K C B H0 H σ E)(e1:E[i]?=some (.ot ks ds)):∃l xs,σ[i]?=some (some (.ref l))/\H l=some (dtO ks xs)/\H0 l=none/\B l=none/\ks.length=ds.length/\RDL K C H0 xs ds:=by
 rcases I.at' i _ e1 with z|⟨v,h1,l,xs,h2,h3⟩
 ·cases z
 ·subst h2;exact⟨l,xs,h1,h3⟩
noncomputable def Jdb:List Sl->Option (Int×Int)
 | [.sh (.int a),.sh (.int b)]=>some (a,b)
 | _=>none
noncomputable def JaF(i:Nat)(ks:En->Option (List Sl))(a:Ev):Es:=fun E=>match E[i]? with
 | some (.ot ps ds)=>(a E).bind fun s=>s.frz.bind fun d=>((ks E).bind Jdb).bind fun n=>if ps.length<Qt then some (.nx (E.set i (.ot (YD ps n) (putDP ps ds n d)))) else none
 | _=>none
def ZQ(e:Jdb ss=some n):ss=[.sh (.int n.1),.sh (.int n.2)]:=by
 unfold Jdb at e;split at e
 ·cases e;rfl
 ·cases e
def Jp3(ha:SE K C te ea)(hk:SA K C tk ks):SS K C (Jj4 (V2 i) (Jks tk) te) (JaF i ks ea):=by
 intro B H0 H σ E o D I e f;unfold JaF at e;split at e
 ·next ps ds h =>
  obtain⟨s,e1,e⟩:=bind_some e;obtain⟨d,e2,e⟩:=bind_some e;obtain⟨n,e3,e⟩:=bind_some e;obtain⟨t,e3,e4⟩:=bind_some e3;obtain rfl:=ZQ e4;split at e
  ·next hz =>
   cases e;obtain⟨l,xs,g1,g2,g3,g4,gk,g5⟩:=I.slotT h;refine ha B H0 H σ E _ _ I e1 fun v H1 H1' s1 r1=>?_
   have s2:Step H H0 H (JN H H1 H1') H1':=s1.comp (JF s1.i) fun _ z=>z
   have rv:=RR.frz s1.i r1 e2;refine⟨_,g1,?_⟩;refine hk B _ H1' σ E _ _ (I.step s2) e3 fun ws H3 H3' s3 r3=>?_
   cases r3 with
   | cons a1 r3=>cases r3 with
    | cons a2 r3 =>
     cases r3;rw[RD.intI a1,RD.intI a2];refine⟨show 2<=Qt by decide,fun p hp=>?_⟩;have s4:=s2.trans s3;have s5:Step H H0 H H3 (upd H3' p (.tup [.int n.1,.int n.2])):=s4.trans ⟨.new hp,Same.refl _,fun _ _ e=>.inl e,s4.i.trans (.new hp)⟩;have hx:ps.length=xs.length:=gk.trans g5.1.symm;obtain⟨_,n0,nB⟩:=(I.step s5).ownG h rfl g1;have rr:=(g5.mono s5.z).putDP (ks:=ps) (n:=n) (rv.mono s3.z);have m:=(I.step s5).mutG (t':=.ot (YD ps n) (putDP ps ds n d)) (o':=dtO (YD ps n) (putDP ps xs n v)) h rfl rfl g1 ⟨l,_,rfl,Jn,n0,nB,VA _ _ _ _ gk,rr⟩
     refine⟨l,_,rfl,.inr ⟨_,dtK n,p,s5.h _ _ g2,rfl,Jn,?_,rfl⟩,?_⟩
     ·rw[GG,Qm,<- hx,Ll];exact hz
     ·rw[JhN ps xs n v hx];exact f _ _ _ ⟨m.b,s5.z,(s5.ss I.b).n,m.h⟩ m
  ·cases e
 ·cases e
def Jmy(ha:SE K C td ed):SE K C (tCB Jgn (Y5 (Jko td) Vo)) (ZE ed):=by
 intro B H0 H σ E r Q I e q;obtain⟨s,e1,e⟩:=bind_some e;obtain⟨p,e2,e⟩:=bind_some e;split at e
 ·next h64 =>
  cases e;refine ha B H0 H σ E s _ I e1 fun x H1 H1' s1 r1=>?_
  obtain⟨l,xs,rfl,h,hk,rl⟩:=r1.dt e2;refine⟨l,rfl,.inr ⟨_,.inl h⟩,fun w hw=>?_⟩;have st:Step H1' H1 H1' H1 (upd H1' w (W6 w l)):=⟨.new hw,Same.refl _,fun _ _ e=>.inl e,s1.i.trans (.new hw)⟩
  have s2:=s1.trans st;refine⟨w,l,p.1,xs,rfl,Jn,Rd.put (.inl h) hw,by rw[hk,rl.1],h64,fun nd z bs hz hb hbs=>?_⟩
  have f:=JF (Hs:=H) s2.i
  have r2:RDL K C (JN H H1 (upd H1' w (W6 w l))) (bs.map V.ref) ((W8 p.1).map prE):=by
   refine⟨by rw[Qm,Qm,hb,(JE p.1).length_eq],fun i x d h1 h2=>?_⟩;rw[Qw] at h1 h2
   cases hbi:bs[i]? with
   | none=>rw[hbi] at h1;cases h1
   | some b =>
    cases hpi:(W8 p.1)[i]? with
    | none=>rw[hpi] at h2;cases h2
    | some pp=>rw[hbi] at h1;rw[hpi] at h2;cases h1;cases h2;exact .mkT (.inl (.inl (JbV s2.i rfl (hbs i b pp hbi hpi)))) (RDL.ofInts [pp.1,pp.2])
  exact YV f.i s2.h hz r2 fun v H2 H2' s3 r3=>q v H2 H2' ((s2.comp f fun _ y=>y).comp s3 fun _ y=>y) r3
 ·cases e
noncomputable def Jbt(i:Nat)(a:Ev):Es:=fun E=>match E[i]? with
 | some (.own ds)=>((a E).bind int?).bind fun z=>if 0<=z/\z<(ds.length:Int)/\ds.length<=1000 then some (.nx (E.set i (.own (ds.eraseIdx z.toNat)))) else none
 | _=>none
theorem RDL.eraseIdx:∀{xs:List V} {ds:List D} (k:Nat),RDL K C H xs ds->RDL K C H (xs.eraseIdx k) (ds.eraseIdx k)
 | [],[],_,h=>by simpa using h
 | [],_::_,_,h=>by have:=h.1;simp at this
 | _::_,[],_,h=>by have:=h.1;simp at this
 | x::xs,d::ds,0,h=>by simpa using h.tail
 | x::xs,d::ds,k+1,h=>by rw[L8,L8];exact .cons h.head (RDL.eraseIdx k h.tail)
def Jp2(ha:SE K C te ea):SS K C (W4 (tBM K "list" JjS (V2 i) (Y5 te Vo))) (Jbt i ea):=by
 intro B H0 H σ E o D I e f;unfold Jbt at e;split at e
 ·next ds h =>
  obtain⟨z,e1,e⟩:=bind_some e;obtain⟨t,e1,e2⟩:=bind_some e1;obtain rfl:=Uh e2;split at e
  ·next hz =>
   cases e;obtain⟨l,xs,g1,g2,g3,g4,g5⟩:=I.slot h;refine⟨_,g1,.inl ⟨rfl,_,.of g2⟩,?_⟩;refine ha B H0 H σ E _ _ I e1 fun v H1 H1' s1 r1=>?_
   have I2:=I.step s1;rw[RD.intI r1]
   have hl:xs.length=ds.length:=g5.1
   have hi:z.toNat<xs.length:=by omega
   have m:=I2.mut (xs:=xs.eraseIdx z.toNat) h g1 ((g5.mono s1.z).eraseIdx z.toNat);refine⟨l,xs,z,z.toNat,xs[z.toNat],rfl,rfl,s1.h _ _ g2,by omega,by omega,?_,Qy hi,f _ _ _ ⟨m.b,s1.z,(s1.ss I.b).n,m.h⟩ m⟩;unfold seqIndex?
   have n0:¬z<0:=by omega
   have n1:(decide (0<=z) && decide (z<(xs.length:Int)))=true:=by rw[decide_eq_true (by omega),decide_eq_true (by omega)];rfl
   simp only[n0,if_false,n1,if_true]
  ·cases e
 ·cases e
end LE
namespace L2
open PySem
noncomputable def Ris(xs:Array Nat):Prop:=xs.toList.Pairwise (·<·)
def Ris.lt{xs:Array Nat}(r:Ris xs){i j:Nat}(h:i<j)(hj:j<xs.size):xs[i]'(by omega)<xs[j]:=by
 have:=GR.mp r i j (by simp;omega) (by simpa using hj) h
 simpa using this
theorem Jeh(r:Ris xs)(j:Nat):∀(fuel lo hi:Nat),hi-lo<=fuel->lo<=hi->hi<=xs.size->(∀i,(h:i<xs.size)->i<lo->xs[i]<j)->(∀i,(h:i<xs.size)->hi<=i->j<=xs[i]) ->
 ∃p,Xt xs j fuel lo hi=p/\p<=xs.size/\(∀i,(h:i<xs.size)->i<p->xs[i]<j)/\∀i,(h:i<xs.size)->p<=i->j<=xs[i]
 | 0,lo,hi,hf,h1,h2,ha,hb=>⟨lo,rfl,by omega,ha,fun i hi' hp=>hb i hi' (by omega)⟩
 | fuel+1,lo,hi,hf,h1,h2,ha,hb=>by
  unfold Xt
  by_cases c:lo<hi
  ·rw[if_pos c];have hm:(lo+hi) / 2<xs.size:=by omega
   have e:xs.getD ((lo+hi) / 2) j=xs[(lo+hi) / 2]:=by simp[Xk,hm]
   dsimp only;rw[e]
   by_cases d:xs[(lo+hi) / 2]<j
   ·rw[if_pos d];refine Jeh r j fuel _ _ (by omega) (by omega) h2 (fun i h hi'=>?_) hb;rcases LO i ((lo+hi) / 2) with q|q
    ·exact Kf (r.lt q hm) d
    ·have:i=(lo+hi) / 2:=by omega
     subst this;exact d
   ·rw[if_neg d];refine Jeh r j fuel _ _ (by omega) (by omega) (by omega) ha (fun i h hi'=>?_);rcases LO ((lo+hi) / 2) i with q|q
    ·exact Gy (Mo.mp d) (Kc (r.lt q h))
    ·have:i=(lo+hi) / 2:=by omega
     subst this;exact Mo.mp d
  ·rw[if_neg c];exact⟨lo,rfl,by omega,ha,fun i hi' hp=>hb i hi' (by omega)⟩
def bel(r:Ris xs)(j:Nat):Gq xs j<=xs.size/\(∀i,(h:i<xs.size)->i<Gq xs j->xs[i]<j)/\∀i,(h:i<xs.size)->Gq xs j<=i->j<=xs[i]:=by obtain⟨p,e,h1,h2,h3⟩:=Jeh r j xs.size 0 xs.size (by omega) (by omega) (Qp _) (fun i _ h=>by omega) (fun i h h'=>by omega);have e':Gq xs j=p:=e;rw[e'];exact⟨h1,h2,h3⟩
def Jii(r:Ris xs)(hi:i<xs.size):Gq xs (xs[i]+1)=i+1:=by
 obtain⟨h1,h2,h3⟩:=bel r (xs[i]+1);rcases LF (Gq xs (xs[i]+1)) (i+1) with c|c|c
 ·have:=h3 i hi (by omega);omega
 ·exact c
 ·have l:i+1<xs.size:=by omega
  have:=h2 (i+1) l c
  have:=r.lt (i:=i) (j:=i+1) (G2 i) l;omega
def Jij(r:Ris xs):Gq xs 0=0:=by
 obtain⟨h1,h2,h3⟩:=bel r 0;rcases Nat.eq_zero_or_pos (Gq xs 0) with c|c
 ·exact c
 ·have:=h2 0 (by omega) c;omega
def Jmn(r:Ris xs)(no:xs[Gq xs j]?≠some j):Ris (SetTable.insertAt xs (Gq xs j) j):=by
 obtain⟨h1,h2,h3⟩:=bel r j;unfold Ris;rw[SetTable.toList_insertAt];have r':=r;unfold Ris at r';rw[<- List.take_append_drop (Gq xs j) xs.toList] at r';obtain⟨ra,rb,rc⟩:=Kq.mp r'
 have low:∀x∈xs.toList.take (Gq xs j),x<j:=fun x hx=>by obtain⟨i,hi,e⟩:=GU.mp hx;rw[LL,QN] at hi;rw[List.getElem_take,R6] at e;rw[<- e];exact h2 i (by omega) (by omega)
 have high:∀x∈xs.toList.drop (Gq xs j),j<x:=fun x hx=>by
  obtain⟨i,hi,e⟩:=GU.mp hx;rw[K6,QN] at hi;rw[List.getElem_drop,R6] at e;have g:=h3 (Gq xs j+i) (by omega) (by omega);rw[e] at g;rcases LO j x with q|q
  ·exact q
  ·exfalso
   have ex:x=j:=by omega
   apply no
   have b0:Gq xs j<xs.size:=by omega
   rw[Kw b0];have g0:=h3 (Gq xs j) b0 (Qp _);rcases Nat.eq_zero_or_pos i with z|z
   ·subst z;simp only[Nat.add_zero] at e;rw[e,ex]
   ·have:=r.lt (i:=Gq xs j) (j:=Gq xs j+i) (by omega) (by omega);rw[e] at this;omega
 refine Kq.mpr ⟨ra,QB.mpr ⟨high,rb⟩,fun a ha b hb=>?_⟩;rcases Qk.mp hb with e|e
 ·rw[e];exact low a ha
 ·exact rc a ha b e
noncomputable def Vac(t:SetTable)(j:Nat):Prop:=t.place[Gq t.place j]?≠some j
def Jd2(h:∀i,t.slot j≠.live i):Vac t j:=by intro e;refine h (Gq t.place j) ?_;unfold SetTable.slot;dsimp only;rw[e];simp
def JaS(t:SetTable)(p:SetTable.Probe):(t.advance p).dummy=p.dummy:=by unfold SetTable.advance;split <;> rfl
theorem WI:∀(fuel:Nat) (p:SetTable.Probe) {j:Nat} {d:Option Nat},(∀x,p.dummy=some x->Vac t x)->Rf t hashAt h fuel p=some (.empty j d)->Vac t j/\∀x,d=some x->Vac t x
 | 0,p,j,d,hp,e=>by simp[Rf] at e
 | fuel+1,p,j,d,hp,e=>by
  unfold Rf at e;split at e
  ·rename_i c
   injection e with e
   injection e with e1 e2
   subst e1 e2;exact⟨Jd2 fun i q=>(by rw[c] at q;cases q),hp⟩
  ·rename_i c;refine WI fuel _ (fun x hx=>?_) e;rw[JaS] at hx
   injection hx with hx
   subst hx;exact Jd2 fun i q=>by rw[c] at q;cases q
  ·split at e
   ·injection e with e;cases e
   ·exact WI fuel _ (fun x hx=>hp x (by rwa [JaS] at hx)) e
def JiU(e:t.freeSlot h=some (j,b)):Vac t j:=by
 unfold SetTable.freeSlot at e;split at e
 ·rename_i j' d c
  injection e with e
  injection e with e1 _
  unfold SetTable.probe at c;obtain⟨a1,a2⟩:=WI _ _ (fun x hx=>by simp[SetTable.probeStart] at hx) c
  cases d with
  | none=>simp at e1;subst e1;exact a1
  | some x=>simp at e1;subst e1;exact a2 _ rfl
 ·cases e
noncomputable def TOk(led:Bool)(t:SetTable):Prop:=(t.plain=true->Ris t.place)/\t.led=led
def VC(led:Bool)(t:SetTable)(n:Nat)(h:t.led=led):TOk led (t.standIn n):=⟨fun e=>by simp[SetTable.standIn] at e,h⟩
def Jkx(h:TOk led t):TOk led { t with plain:=false }:=⟨fun e=>by simp at e,h.2⟩
def JmL(h:TOk led t)(es:Array (Int×Qe))(k:Int)(x:Qe):TOk led (layNew t es k x).2.1:=by
 unfold layNew;split
 ·rename_i j b c;dsimp only;unfold SetTable.orStandIn;split
  ·exact⟨fun e=>Jmn (h.1 (by simpa [Xu] using e)) (JiU c),by simpa [Xu] using h.2⟩
  ·exact VC _ _ _ (by simpa [Xu] using h.2)
 ·exact VC _ _ _ h.2
theorem ZX(g:Nat->Option Nat):∀l:List Nat,((l.filterMap fun j=>(g j).map (j,·)).map (·.1)).Sublist l
 | []=>.slnil
 | j::l=>by
  rw[LW]
  cases h:g j with
  | none=>exact(ZX g l).cons _
  | some k=>exact(ZX g l).cons₂ _
def Jky{t:SetTable}{mask f m:Nat}{led plain:Bool}{hs:Array Int}{o:Array Nat}(e:Xc mask f m led plain hs=some (t,o)):TOk led t:=by
 unfold Xc at e
 cases c:SetTable.layClean mask hs with
 | none=>rw[c] at e;cases e
 | some ow =>
  rw[c] at e;have e':some _=some (t,o):=e
  injection e' with e'
  injection e' with e1 e2
  subst e1;refine⟨fun _=>?_,rfl⟩;show List.Pairwise _ _;refine List.Pairwise.sublist (ZX _ _) ?_;exact List.pairwise_lt_range
def JhZ(h:TOk led t)(es:Array (Int×Qe))(n:Nat):TOk led (relayAll t es n).2.1:=by
 unfold relayAll;split
 ·rename_i t' o c;dsimp only;split
  ·have:=Jky (show Xc _ _ _ _ _ _=some (t',o) from c);rw[h.2] at this;exact this
  ·exact VC _ _ _ h.2
 ·exact VC _ _ _ h.2
def JhY(a b:Nat)(led:Bool):TOk led (.fresh a b led):=⟨fun _=>List.Pairwise.nil,rfl⟩
theorem ZG{α:Type}:∀{l:List α} {i:Nat} (h:i<l.length),(l[i]::l.eraseIdx i).Perm l
 | x::l,0,_=>.refl _
 | x::l,i+1,h=>by have:=ZG (l:=l) (i:=i) (by simpa using h);exact(List.Perm.swap x (l[i]'(by simpa using h)) _).trans (this.cons x)
theorem Jgh{α:Type}(next:Nat->Nat):∀(fuel k:Nat) (left:List α) (out:Array α),left.length=fuel->(Xw next fuel k left out).toList.Perm (out.toList++left)
 | 0,k,left,out,h=>by have:left=[]:=QA h;subst this;simp[Xw]
 | fuel+1,k,left,out,h=>by
  unfold Xw;have hl:next k % left.length<left.length:=Nat.mod_lt _ (by omega)
  rw[Qy hl];dsimp only;refine(Jgh next fuel (k+1) _ _ (by rw[LJ hl];omega)).trans ?_;rw[Rc,Q2];refine List.Perm.append_left _ ?_;exact(ZG hl)
def Jbi{α:Type}(next:Nat->Nat)(xs:Array α):(pickOrder next xs).toList.Perm xs.toList:=by
 have:=Jgh next xs.size 0 xs.toList #[] (by simp)
 simpa [pickOrder] using this
theorem Ja4{α:Type}:∀(n:Nat) (xs:List α) (s:Qi) (Q:List α->Qi->Prop),xs.length=n->(∀ys d,ys.Perm xs->Q ys { s with drawn:=d })->wpAny (model prog w) A (drawOrder n xs) Q E s
 | 0,xs,s,Q,hl,h=>by have:xs=[]:=QA hl;subst this;exact Qg (h [] s.drawn (.refl _))
 | n+1,xs,s,Q,hl,h=>by
  cases xs with
  | nil=>simp at hl
  | cons x xs =>
   show wpAny _ A ((choose .order (x::xs).length) >>= _) Q E s;refine Qa ?_;intro Γ p hΓ;unfold choose;rw[Sem.wp_choose];refine⟨by simp,?_⟩;rw[Sem.wp_pure]
   generalize hi:(model prog w).w.draws Source.order (s.drawn.get Source.order) % (x::xs).length=i
   have hlt:i<(x::xs).length:=by rw[<- hi];exact Nat.mod_lt _ (by simp)
   rw[Qy hlt];show wpAny _ A (drawOrder n ((x::xs).eraseIdx i) >>= _) Q E _;refine Qa (Ja4 n _ _ _ (by rw[LJ hlt];omega) fun ys d hp=>?_);refine Qg (h ((x::xs)[i]::ys) d ?_);exact(hp.cons _).trans (ZG hlt)
end L2
namespace L2
open PySem PyProof.Rows
structure SetS (prog:Qz) (w:QT) (led:Bool) (h:Q1) (a:Qj) (S:Int->Bool) (n:Nat) (o:Obj) (es:Array (Int×Qe)) (ep:Nat) (t:SetTable):Prop where
 got:h.get? a=some o
 ex:o.ExactSet
 data:o.data=.set es ep t
 els:ElemsOf (intKind prog w) es.toList
 mem:∀k,S k=true↔∃e∈es.toList,(intKind prog w).is k e.2=true
 few:es.size<scanBound
 fits:t.fits es.size=true
 size:es.size=n
 tok:TOk led t
noncomputable def SetL(prog:Qz)(w:QT)(led:Bool)(h:Q1)(a:Qj)(S:Int->Bool)(n:Nat):Prop:=∃o es ep t,SetS prog w led h a S n o es ep t
def SetL.move(x:SetL prog w led h a S n)(e:∀o,h.get? a=some o->h'.get? a=some o):SetL prog w led h' a S n :=
 let ⟨o,es,ep,t,z⟩:=x;⟨o,es,ep,t,{ z with got:=e _ z.got }⟩
def SetL.as(x:SetL prog w led h a S n)(e:∀k,S k=S' k)(en:n=n'):SetL prog w led h a S' n':=by have:S=S':=funext e;subst this en;exact x
def JdV{h:Q1}{o:Obj}{es:Array (Int×Qe)}{ep:Nat}{t:SetTable}(ho:h.get? a=some o)(hex:o.ExactSet)(hd:o.data=.set es ep t){es':Array (Int×Qe)}{t':SetTable}{S':Int->Bool}
 (h1:ElemsOf (intKind prog w) es'.toList) (h2:∀k,S' k=true↔∃e∈es'.toList,(intKind prog w).is k e.2=true) (h3:es'.size<scanBound) (h4:t'.fits es'.size=true) (h5:TOk led t') :
 SetS prog w led (h.update a (Obj.putSet es' t')) a S' es'.size { o with data:=.set es' (ep+1) t' } es' (ep+1) t' :=
 ⟨(SetOf_store (knd:=intKind prog w) ho hex hd h1 h2 h3 h4).1,hex,rfl,h1,h2,h3,h4,rfl,h5⟩
def JdZ{g:Bool->Sem Unit}(hg:∀(b:Bool) (s1:Qi) (Q:Unit->Qi->Prop),Q () s1->wpAny (model prog w) A (g b) Q E s1)
 {o:Obj} {es:Array (Int×Qe)} {ep:Nat} {t:SetTable} (ho:s.heap.get? a=some o) (hex:o.ExactSet) (hd:o.data=.set es ep t) {es1:Array (Int×Qe)} {t2:SetTable} {S':Int->Bool}
 (h1:ElemsOf (intKind prog w) es1.toList) (h2:∀k,S' k=true↔∃e∈es1.toList,(intKind prog w).is k e.2=true) (h3:es1.size<scanBound) (h4:t2.fits es1.size=true) (h5:TOk led t2) {dm:Bool} {R:Option Bool->Qi->Prop}
 (h:∀h',QH a s.heap h'->SetL prog w led h' a S' es1.size->R (some true) { s with heap:=h' }) :
 wpAny (model prog w) A (storeSet a es1 t2 >>= fun _=>if (!dm && t2.tooFull)=true then
  (g (relayAll t2 es1 (Le es1.size)).2.2 >>= fun _=>storeSet a (relayAll t2 es1 (Le es1.size)).1 (relayAll t2 es1 (Le es1.size)).2.1 >>= fun _=>pure (some true))
  else pure (some true)) R E s:=by
 refine Qa (wpAny_storeSet_of ho hd ?_ (fits_of_scanBound h3));have z:=JdV (prog:=prog) (w:=w) ho hex hd h1 h2 h3 h4 h5;have sb:=Gw s.heap a (Obj.putSet es1 t2);split
 ·have hp:=relayAll_perm t2 es1 (Le es1.size)
  have hf:=relayAll_fits t2 es1 (Le es1.size)
  have hk:=JhZ h5 es1 (Le es1.size)
  generalize relayAll t2 es1 (Le es1.size)=T at hp hf hk ⊢
  obtain⟨es2,t3,gv⟩:=T;dsimp only at hp hf hk ⊢;have sz:es2.size=es1.size:=by rw[<- QN,hp.length_eq,QN]
  refine Qa (hg _ _ _ ?_);refine Qa (wpAny_storeSet_of z.got rfl ?_ (fits_of_scanBound (by rw[sz];exact h3)));have z2:=JdV (prog:=prog) (w:=w) (led:=led) (S':=S') (es':=es2) (t':=t3) z.got hex rfl (h1.perm hp) (fun k=>(h2 k).trans ⟨fun⟨e,he,q⟩=>⟨e,hp.mem_iff.mpr he,q⟩,fun⟨e,he,q⟩=>⟨e,hp.mem_iff.mp he,q⟩⟩) (by rw[sz];exact h3) hf hk;rw[sz] at z2;exact Qg (h _ (sb.trans (Gw _ a _)) ⟨_,_,_,_,z2⟩)
 ·exact Qg (h _ sb ⟨_,_,_,_,z⟩)
def JmD{k:Int}{tk:Tok}{Q:Bool->Qi->Prop}(hS:SetL prog w led s.heap a S n)(room:n+1<scanBound)
 (h:∀h',QH a s.heap h'->SetL prog w led h' a (fun k'=>S k' || decide (k'=k)) (if S k then n else n+1)->Q (!S k) { s with heap:=h' }) :
 wpAny (model prog w) A (setAddHashed a (.int k tk) ((intKind prog w).hash k)) Q E s:=by
 have key:(intKind prog w).is k (.int k tk)=true:=intKind_is _ _ _ _;obtain⟨o,es,ep,t,z⟩:=hS
 have few1:es.size+1<scanBound:=by rw[z.size];exact room
 unfold setAddHashed setAddHashedIn;refine GI (Qa (Kl z.got z.data z.fits ?_));dsimp only;rw[byScan_of (x:=.int k tk) rfl z.few z.els];simp only[↓reduceIte];unfold setAddByScan;refine Qa (Qa (KH (Qa (wpAny_setScan_of key z.got z.data z.fits z.els ?_))))
 cases hr:List.findIdx? (fun e=>(intKind prog w).is k e.2) es.toList with
 | some j =>
  dsimp only;obtain⟨hj,hpj,_⟩:=List.findIdx?_eq_some_iff_getElem.mp hr;have yes:S k=true:=(z.mem k).mpr ⟨es.toList[j],LM hj,hpj⟩;refine Qg (Qg ?_)
  have:=h s.heap (Xs a s.heap) (SetL.as ⟨o,es,ep,t,z⟩ (fun k'=>by
   cases hk:S k' with
   | true=>rfl
   | false =>
    have:k'≠k:=fun e=>by rw[e,yes] at hk;cases hk
    simp[this]) (by rw[yes];rfl))
  rw[yes] at this;exact this
 | none =>
  dsimp only
  have no:S k=false:=by
   cases hk:S k with
   | false=>rfl
   | true=>obtain⟨e,he,hp⟩:=(z.mem k).mp hk;have:=List.findIdx?_eq_none_iff.mp hr e he;rw[hp] at this;cases this
  have hp:=layNew_perm t es ((intKind prog w).hash k) (.int k tk)
  have hf:=layNew_fits t es ((intKind prog w).hash k) (.int k tk)
  have ht:=JmL z.tok es ((intKind prog w).hash k) (.int k tk)
  generalize layNew t es ((intKind prog w).hash k) (.int k tk)=L at hp hf ht ⊢
  obtain⟨es1,t1,dm,gv⟩:=L;dsimp only at hp hf ht ⊢;rw[Rc] at hp;have e1:ElemsOf (intKind prog w) es1.toList:=(z.els.push key rfl).perm hp;have m1:=mem_push_iff key z.mem hp;have sz1:es1.size=n+1:=by rw[<- QN,hp.length_eq,Qv,QN,z.size];rfl
  have f1:es1.size<scanBound:=by rw[sz1];exact room
  have gw:∀(b:Bool) {s1:Qi} {Q':Unit->Qi->Prop},Q' () s1->wpAny (model prog w) A (match b with | true=>rule "set.scan.the-table-gave-way" | false=>pure ()) Q' E s1:=fun b s1 Q' hq=>by
   cases b
   ·exact Qg hq
   ·exact KH hq
  refine Qa (gw _ ?_)
  have fin:∀h',QH a s.heap h'->SetL prog w led h' a (fun k'=>S k' || decide (k'=k)) es1.size->Q true { s with heap:=h' }:=by intro h' sb hS';have:=h h' sb;rw[no] at this;rw[sz1] at hS';exact this hS'
  split
  ·refine Qa ?_;rw[hashByValue_scannable 8 (x:=.int k tk) rfl];refine Qg ?_;refine JdZ (led:=led) ?_ z.got z.ex z.data e1 m1 f1 ?_ ?_ ?_
   ·intro b s1 Q' hq;cases b <;> first|exact Qg hq|exact KH hq
   ·split
    ·exact hf
    ·exact SetTable.fits_plain_off hf
   ·split
    ·exact ht
    ·exact Jkx ht
   ·intro h' sb hS';dsimp only;exact Qg (fin h' sb hS')
  ·refine Qa (Qg ?_);simp only[↓reduceIte];refine JdZ (led:=led) ?_ z.got z.ex z.data e1 m1 f1 hf ht ?_
   ·intro b s1 Q' hq;cases b <;> first|exact Qg hq|exact KH hq
   ·intro h' sb hS';dsimp only;exact Qg (fin h' sb hS')
section
variable{prog:Qz}{w:QT}{A:QS}{R:Rh->Qi->Prop}{I:Qj}{fp wr:List Qj}{G:Array GenState->Array GenState->Prop}{n:Nat}{P:Nat->Qe->Prop}{St:Nat->Qi->Prop}
def Jkb{led:Bool}(W:WalksS prog w A.in1 I fp wr G n P St)(a:Qj)(hf:a∉fp)(val:Nat->Int)(hv:∀i v,P i v->∃t,v=.int (val i) t)(hb:n+1<scanBound) :
 ∀(k i:Nat) (s:Qi),n-i=k->i<=n->St i s->SetL prog w led s.heap a (fun k'=>(firstMet val i).any (· == k')) (firstMet val i).length ->
  (∀s',Moved (a::wr) G s s'->SetL prog w led s'.heap a (fun k'=>(firstMet val n).any (· == k')) (firstMet val n).length->R (.ok (.ret .none)) s') ->
  codeAny (model prog w) A (.builtin "set.update.loop" ⟨[.ref a,.ref I],[]⟩) R s:=by
 have hw:a∉wr:=fun h=>hf (W.sub _ h)
 have up:∀b∈wr,b∈a::wr:=fun b hb=>Qd _ hb
 intro k
 induction k with
 | zero =>
  intro i s hk hi st hS hR;obtain rfl:i=n:=by omega
  refine G9 Rx ?_;rw[GJ Ma _];show wpAny _ A.in1 (pyNext (.ref I) >>= _) _ _ s;exact Qa (W.done s _ _ st fun s' hm=>Qg (hR s' (hm.mono up) (hS.move fun o e=>hm.heap a _ hw e)))
 | succ k ih =>
  intro i s hk hi st hS hR;have lt:i<n:=by omega
  refine G9 Rx ?_;rw[GJ Ma _];show wpAny _ A.in1 (pyNext (.ref I) >>= _) _ _ s;refine Qa (W.item i s _ _ lt st fun v s' hP st' hm=>?_);obtain⟨t,rfl⟩:=hv i v hP;have hS':=hS.move (h':=s'.heap) fun o e=>hm.heap a _ hw e
  show wpAny _ A.in1 (holding [Value.int (val i) t] (setAdd a (.int (val i) t)) >>= _) _ _ s';refine Qa (GI ?_);unfold setAdd;refine GI (Qa ((intKind prog w).pyHash (k:=val i) (intKind_is _ _ _ _) ?_))
  have room:(firstMet val i).length+1<scanBound:=by have:=firstMet_length_le val i;omega
  refine JmD (s:={ s' with toks:=s'.toks+1 }) hS' room fun h' sb hS2=>?_
  have hS3:=hS2.as (S':=fun k'=>(firstMet val (i+1)).any (· == k')) (n':=(firstMet val (i+1)).length) (fun k'=>by rw[firstMet_succ,step_any]) (by rw[firstMet_succ,step_length]);refine Qg ⟨Ki Ma _,ih (i+1) _ (by omega) lt (W.frame _ s' _ _ st' (LH _) fun b hb o e=>?_) hS3 fun s'' hm'' hS''=>?_⟩
  ·rw[sb.2 b (fun h:b=a=>hf (by rw[<- h];exact hb))];exact e
  ·refine hR s'' (Moved.trans W.gtrans ((hm.mono up).then_heap (LH _) fun b o hb e=>?_) hm'') hS'';rw[sb.2 b (fun h:b=a=>hb (by rw[h];exact Qc))];exact e
end
noncomputable def YN(w:QT):Bool:=!(w.params.followText "set-order")
noncomputable def UC(led:Bool):Obj:={ cls:=.type "set",dict:=none,data:=.set #[] 0 (.fresh 0 0 led) }
def Jka(led:Bool)(e:h.get? a=some (UC led)):SetL prog w led h a (fun _=>false) 0 :=
 ⟨_,#[],0,_,e,⟨rfl,rfl,rfl⟩,rfl,fun e he=>by simp at he,fun k=>by simp,by decide,by rfl,rfl,JhY 0 0 led⟩
def JdY(a:Qe)(h:Q (.ref s.heap.objs.size) { s with heap:=s.heap.push (UC (YN w)) }):
 codeAny (model prog w) A (.call (.builtin "set.__new__") ⟨[.type "set",a],[]⟩) (wants Q E) s:=by
 refine codeAny_of_tree ?_;show wpAny _ A.in1 (checkBuiltinCall "set.__new__" ⟨[.type "set",a],[]⟩ >>= fun _=>again (.builtin "set.__new__" ⟨[.type "set",a],[]⟩)) _ _ s;refine Qa (KB (F.newCall_set_1 a) (Qg ⟨Ki F.plain_set_new _,G9 F.entry_set_new ?_⟩));rw[GJ F.plain_set_new _];unfold Builtin.«set.__new__» Builtin.Frozenset.newClass;have hsub:=sub_set_self;obtain⟨hp,g,d,tk,os⟩:=s;dsimp only;wp_walk;refine Lf (Qg ?_)
 dsimp only;simp only[newObj];exact Qa (wpAny_alloc (Qg (Qg h)))
def Jg8{l:Qj}{items:Array Qe}{ns:List Int}{Q:Qe->Qi->Prop}(hh:A.handled=none)(hl:s.heap.IsList l items)(hi:IntsAre items.toList ns)(hb:items.size+1<scanBound)
 (h:∀(h':Q1) (tk:Nat),SetL prog w (YN w) h' s.heap.objs.size (fun k'=>(firstMet (fun i=>ns.getD i 0) items.size).any (· == k')) (firstMet (fun i=>ns.getD i 0) items.size).length ->
  (∀b o,s.heap.get? b=some o->h'.get? b=some o)->Q (.ref s.heap.objs.size) { s with heap:=h',toks:=tk }) :
 wpAny (model prog w) A (call (.type "set") [.ref l]) Q E s:=by
 obtain⟨c,tl,hmro⟩:=Lm.mro;have hmade:=Lm.made;have hsub:=Lm.sub;refine wpAny_call (codeAny_of_tree ?_);show wpAny _ _ (callAny (.type "set") _) _ _ _;refine Qg ⟨Code.quiet_builtin _ (by decide +kernel),G9 F.entry_type_call ?_⟩;rw[Around.under_plain (weight_type_call_type "set" [.ref l] []) rfl];have n1:=Lm.notType;have n2:=Lm.canCreate;have n3:=F.typeCall_set_1 (.ref l)
 repeat (any_goals (first|assumption|wp_step))
 refine Lj (JdY (.ref l) (E:=E) (Q:=fun obj s1=>obj=.ref s.heap.objs.size/\s1={ s with heap:=s.heap.push (UC (YN w)) }) ⟨rfl,rfl⟩) fun r s1 hr=>?_
 cases r with
 | error e=>exact hr
 | ok fl =>
  cases fl with
  | ret obj =>
   obtain⟨rfl,rfl⟩:=hr;have hS:(s.heap.push (UC (YN w))).get? s.heap.objs.size=some (UC (YN w)):=Qn _ rfl;have hT:Shared.TypeIs { s with heap:=s.heap.push (UC (YN w)) } (.ref s.heap.objs.size) "set":=⟨_,hS,rfl⟩
   have i1:=Lm.init.lookup
   have i2:=Lm.init.bind (.ref s.heap.objs.size)
   repeat (any_goals (first|assumption|wp_step))
   refine Lj (codeAny_call_builtin (R:=wants (fun r s2=>r=.none/\∃h' tk,s2={ s with heap:=h',toks:=tk } ∧
    SetL prog w (YN w) h' s.heap.objs.size (fun k'=>(firstMet (fun i=>ns.getD i 0) items.size).any (· == k')) (firstMet (fun i=>ns.getD i 0) items.size).length ∧
    (∀b o,s.heap.get? b=some o->h'.get? b=some o)) E) Lm.init.plain F.entry_set_init (check_set_init_1 hT ?_)) fun r2 s2 hr2=>?_
   ·obtain⟨ol,hol,hcl,nl,hdl⟩:=hl;obtain⟨oc,od,oda,osl⟩:=ol;simp only at hcl hdl;subst hcl;subst hdl;have hol':(s.heap.push (UC (YN w))).get? l=some { cls:=.type "list",dict:=od,data:=.seq items nl,slots:=osl }:=Qh _ hol;have b1:=F.sub_list_set;have b2:=F.sub_list_frozenset;have b3:(Value.type "list" == Value.type "dict")=false:=by decide
    have hl1:(s.heap.push (UC (YN w))).IsList l items:=⟨_,hol',rfl,nl,rfl⟩
    unfold Builtin.«set.__init__» noKeywords Builtin.Frozenset.updateFrom
    generalize hPI:pyIter=PI
    wp_walk
    subst hPI;refine Mb hl1 (Qa (R4 ?_));have lS:l<s.heap.objs.size:=Qo hol;have hh3:A.in1.in1.in1.handled=none:=by simp[hh]
    have neI:l≠(s.heap.push (UC (YN w))).objs.size:=by rw[Gz];exact QD (G5 lS)
    have off:s.heap.objs.size∉[(s.heap.push (UC (YN w))).objs.size,l]:=by rw[Gz];simp only[Qk,QP,QR,or_false,not_or];exact⟨QD (G2 _),Gh lS⟩
    refine Jkb (led:=YN w) ((Walks.list hh3 _ l neI items).toS) s.heap.objs.size off (fun i=>ns.getD i 0) (fun i v hv=>IntsAre.int_at hi i v (by rw[GN];exact hv)) hb (items.size-0) 0 _ (by omega) (GP _)
     ⟨⟨_,Qn _ rfl,rfl,rfl⟩,(hl1.push _)⟩ (Jka _ (Qh _ hS)) fun s' hm hS'=>?_
    obtain⟨h',g',d',tk',os'⟩:=s';have eg:g'=s.gens:=hm.gens;have ed:d'=s.drawn:=hm.drawn;have eo:os'=s.os:=hm.os;subst eg;subst ed;subst eo;show wpAny _ _ _ _ _ _;refine Qg ?_;show wpAny _ _ (ret Value.none) _ _ _;refine Qg ⟨rfl,h',tk',rfl,hS',fun b o e=>?_⟩;have hb0:=Qo e;refine hm.heap b o ?_ (Qh _ (Qh _ e));rw[Gz];simp only[Qk,QP,QR,or_false,not_or]
    exact⟨QD hb0,QD (G5 hb0)⟩
   ·cases r2 with
    | error e=>exact hr2
    | ok fl2 =>
     cases fl2 with
     | ret r =>
      obtain⟨rfl,h',tk,rfl,hS',hk'⟩:=hr2
      repeat (any_goals (first|assumption|wp_step))
      exact h _ _ hS' hk'
     | _=>exact hr2.elim
  | _=>exact hr.elim
end L2
namespace L2
open PySem PyProof.Rows PySem.W
def si_slot_next:Slot "set_iterator" "__next__" "set_iterator.__next__" :=
 .of (owner:="set_iterator") (n:="__next__") (by rw[typeLookup_type,builtinLookup_eq_fast];kernel_rfl) (by decide +kernel) (by decide +kernel) (by decide +kernel) (.inl (by decide +kernel)) (by rw[La];kernel_rfl)
def VM:entryFor table "set_iterator.__next__"=some Builtin.«set_iterator.__next__»:=entryFor_of_tree (by kernel_rfl)
def Jd1:Manifest.owners.lookup (String.ofList ['r','o','t','a','r','e','t','i','_','t','e','s'].reverse)=some Manifest.sig_set_iterator:=by kernel_rfl
def Wn(a:Qe):argsOk "set_iterator.__next__" ⟨[a],[]⟩:=by
 unfold argsOk;rw[signature?_of (id:="set_iterator.__next__") (n:=['_','_','t','x','e','n','_','_']) (o:=['r','o','t','a','r','e','t','i','_','t','e','s']) (by kernel_rfl) Jd1]
 kernel_rfl
def Wo:Slot "set_iterator" "__iter__" "set_iterator.__iter__" :=
 .of (owner:="set_iterator") (n:="__iter__") (by rw[typeLookup_type,builtinLookup_eq_fast];kernel_rfl) (by decide +kernel) (by decide +kernel) (by decide +kernel) (.inl (by decide +kernel)) (by rw[La];kernel_rfl)
def JaM:entryFor table "set_iterator.__iter__"=some Builtin.«dict_keyiterator.__iter__»:=entryFor_alias (id':="dict_keyiterator.__iter__") (by kernel_rfl) rfl (by decide +kernel) (by kernel_rfl)
def JcA(a:Qe):argsOk "set_iterator.__iter__" ⟨[a],[]⟩:=by
 unfold argsOk;rw[signature?_of (id:="set_iterator.__iter__") (n:=['_','_','r','e','t','i','_','_']) (o:=['r','o','t','a','r','e','t','i','_','t','e','s']) (by kernel_rfl) Jd1]
 kernel_rfl
def Jav:entryFor table "set.__iter__"=some Builtin.«frozenset.__iter__»:=entryFor_alias (id':="frozenset.__iter__") (by kernel_rfl) rfl (by decide +kernel) (by kernel_rfl)
noncomputable def SIt(h:Q1)(I d:Qj)(f:Qe)(i n ep:Nat):Prop:=∃o,h.get? I=some o/\o.cls=.type "set_iterator"/\o.data=.fields #[f,.int i 0,.ref d,.int n 0,.int ep 0]
section
variable{prog:Qz}{w:QT}{A:QS}{E:Qe->Qi->Prop}{s:Qi}{I d:Qj}{f:Qe}{i n ep:Nat}{es:Array (Int×Qe)}{t:SetTable}{o:Obj}
def SIt.type(x:SIt s.heap I d f i n ep):s.TypeIs (.ref I) "set_iterator":=let ⟨o,ho,hc,_⟩:=x;⟨o,ho,hc⟩
def SIt.at{h h':Q1}(x:SIt h I d f i n ep)(e:∀o,h.get? I=some o->h'.get? I=some o):SIt h' I d f i n ep:=let ⟨o,ho,r⟩:=x;⟨o,e _ ho,r⟩
def Jgu(hit:SIt s.heap I d f i n ep)(h:Q (.ref I) s):wpAny (model prog w) A (pyIter (.ref I)) Q E s:=by refine Mg hit.type Wo (QU Wo hit.type JaM ?_ (JcA _));show wpAny _ _ (ret (.ref I)) _ _ s;exact Qg ⟨_,rfl,"set_iterator",_,hit.type,si_slot_next.lookup,h⟩
def Jgv{Q:Option Qe->Qi->Prop}(hh:A.handled=none){h1:Q1}(hx:∀h',KM I s.heap h'->Q none { s with heap:=h' })(he:KM I s.heap h1) :
 wpAny (model prog w) A.in1 (newExc (.type "StopIteration") [] >>= fun e=>raiseNew e) (fun(fin:Fin) s'=>∃r,fin=.done (.ret r)/\wpAny (model prog w) A (pure (some r)) Q E s') (fun e s'=>wpAny (model prog w) A (isInstance e (.type "StopIteration") >>= fun b=>if b=true then pure none else throw e) Q E s') { s with heap:=h1 }:=by
 refine Qa ?_;simp only[newExc,newTuple];refine Qa (QW ?_ (by size_fits));refine Qa (m:=firstArgMember _ _) (KB (a:=Value.none) (by first | rfl | (simp only[firstArgMember];rfl)) ?_);refine QW ?_ (by size_fits);simp only[raiseNew];refine Qa (Rl ?_);rw[show A.in1.handled=none from hh];refine Qa (Qg (R3 ?_));refine Qa (Kp (T:="StopIteration") (b:=true) ⟨_,Qn _ rfl,rfl⟩ K9 ?_)
 exact Qg (hx _ ((he.push _).push _))
def Jgt{Q:Option Qe->Qi->Prop}{sl:Nat}{r:Option (Qe×Nat)}(hh:A.handled=none)(hit:SIt s.heap I d (.int sl 0) i es.size ep)(ho:s.heap.get? d=some o)(hd:o.data=.set es ep t)(hf:t.fits es.size=true)
 (nx:∀(A:QS) (E:Qe->Qi->Prop) (Q:Option (Qe×Nat)->Qi->Prop),Q r s->wpAny (model prog w) A (setNext d sl i ep) Q E s)
 (item:∀x j h',r=some (x,j)->SIt h' I d (.int j 0) (i+1) es.size ep->QH I s.heap h'->Q (some x) { s with heap:=h' })
 (done:r=none->∀h',KM I s.heap h'->Q none { s with heap:=h' }):wpAny (model prog w) A (pyNext (.ref I)) Q E s:=by
 obtain⟨oi,hoi,hci,hdi⟩:=id hit;unfold pyNext;refine Qa (Kb (QO (name:=GC "__next__") hit.type si_slot_next (QU si_slot_next hit.type VM ?_ (Wn _))));unfold Builtin.«set_iterator.__next__»;refine Qa (Qg (Qa (R5 hoi hdi ?_)));show wpAny _ _ (setEntries d >>= _) _ _ s;refine Qa (ML ho hd hf ?_);rw[if_neg (by simp)];show wpAny _ _ (setNext d ((sl:Int).toNat) ((i:Int).toNat) ((ep:Int).toNat) >>= _) _ _ s
 rw[Gu,Gu,Gu];refine Qa (nx _ _ _ ?_)
 cases hr:r with
 | some p =>
  obtain⟨x,j⟩:=p;dsimp only;refine Qa (Kr hoi hdi (by simp) ?_);have h1:=Gg (L1 (·.setIfInBounds 0 (rawInt j))) hoi (Kx (GL hdi _));have d1:=GL hdi (·.setIfInBounds 0 (rawInt j));refine Qa (Kr h1 d1 (by simp) ?_);refine Qg ⟨_,rfl,Qg (item x j _ hr ⟨_,Gg _ h1 (Kx (GL d1 _)),?_,?_⟩ ((Gw ..).trans (Gw ..)))⟩
  ·rw[LD,LD];exact hci
  ·rw[GL d1];simp[rawInt]
 | none=>dsimp only;refine Qa (Kr hoi hdi (by simp) ?_);exact Jgv hh (done hr) (Gw ..).extBut
def Jd0{Q:Option Qe->Qi->Prop}{ps:List Nat}{oT:Obj}(hh:A.handled=none)(hit:SIt s.heap I d (.ref T) i es.size ep)(ho:s.heap.get? d=some o)(hd:o.data=.set es ep t)(hf:t.fits es.size=true)(hT:s.heap.get? T=some oT)(hTd:oT.data=.seq (ps.map fun(i:Nat)=>rawInt i).toArray cT)(item:∀p e h',ps[i]?=some p->es[p]?=some e->SIt h' I d (.ref T) (i+1) es.size ep->QH I s.heap h'->Q (some e.2) { s with heap:=h' })(inn:∀p∈ps,p<es.size)(done:ps[i]?=none->∀h',KM I s.heap h'->Q none { s with heap:=h' }):wpAny (model prog w) A (pyNext (.ref I)) Q E s:=by
 obtain⟨oi,hoi,hci,hdi⟩:=id hit;unfold pyNext;refine Qa (Kb (QO (name:=GC "__next__") hit.type si_slot_next (QU si_slot_next hit.type VM ?_ (Wn _))));unfold Builtin.«set_iterator.__next__»;refine Qa (Qg (Qa (R5 hoi hdi ?_)));show wpAny _ _ (setEntries d >>= _) _ _ s;refine Qa (ML ho hd hf ?_);rw[if_neg (by simp)];show wpAny _ _ (seqItems? (.ref T) >>= _) _ _ s
 unfold seqItems?;refine Qa (Qa (wpAny_load hT ?_));rw[hTd];refine Qg ?_;dsimp only;rw[Gu];have ee:(ps.map fun(i:Nat)=>rawInt i).toArray[i]?=(ps[i]?).map fun(i:Nat)=>rawInt i:=by simp
 rw[ee]
 cases hp:ps[i]? with
 | some p =>
  have hlt:=inn p (QI hp)
  show wpAny _ _ (setNextDrawn d ((p:Int).toNat) ((ep:Int).toNat) >>= _) _ _ s;rw[Gu,Gu];unfold setNextDrawn;refine Qa (Qa (Kl ho hd hf ?_));dsimp only;rw[if_neg (by simp)];refine Qa (Qg ?_);rw[Kw hlt];dsimp only;refine Qg ?_;refine Qa (Kr hoi hdi (by simp) ?_);refine Qg ⟨_,rfl,Qg (item p es[p] _ hp (Kw hlt) ⟨_,Gg _ hoi (Kx (GL hdi _)),?_,?_⟩ (Gw ..))⟩
  ·rw[LD];exact hci
  ·rw[GL hdi];simp[rawInt]
 | none =>
  show wpAny _ _ (setField (.ref I) 0 (rawInt 0) >>= _) _ _ s;refine Qa (Kr hoi hdi (by simp) ?_)
  have h1:=Gg (L1 (·.setIfInBounds 0 (rawInt 0))) hoi (Kx (GL hdi _))
  have d1:=GL hdi (·.setIfInBounds 0 (rawInt 0))
  generalize hg:s.heap.update I (L1 (·.setIfInBounds 0 (rawInt 0)))=g at h1
  have sb:QH I s.heap g:=by rw[<- hg];exact Gw ..
  generalize L1 (·.setIfInBounds 0 (rawInt 0)) oi=oj at h1 d1
  refine Qa (Kr (s:={ s with heap:=g }) h1 d1 (by simp) ?_);exact Jgv (s:=s) hh (done hp) (sb.trans (Gw ..)).extBut
noncomputable def SHas(h:Q1)(d:Qj)(es:Array (Int×Qe))(ep:Nat)(t:SetTable):Prop:=∃o,h.get? d=some o/\o.ExactSet/\o.data=.set es ep t
def SHas.at{h h':Q1}(x:SHas h d es ep t)(e:∀o,h.get? d=some o->h'.get? d=some o):SHas h' d es ep t:=let ⟨o,ho,r⟩:=x;⟨o,e _ ho,r⟩
def JmG(bt:w.params.followText "set-order"=true)(hs:SHas s.heap d es ep t)(hf:t.fits es.size=true)(h:Q (((pickOrder (w.params.setOrder d ep) es)[i]?).map fun e=>(e.2,sl)) s):wpAny (model prog w) A (setNext d sl i ep) Q E s:=by
 obtain⟨o,ho,_,hd⟩:=hs;unfold setNext setsByText;refine Qa (Kl ho hd hf (Qa (Qa (Lf (Qg ?_)))));show wpAny _ _ (if w.params.followText "set-order"=true then _ else _) _ _ s;rw[if_pos bt,if_neg (by simp)];refine Qa ?_;unfold setWalk setsByText;refine Qa (Kl ho hd hf (Qa (Qa (Lf (Qg ?_)))));show wpAny _ _ (if w.params.followText "set-order"=true then _ else _) _ _ s
 rw[if_pos bt];exact Qa (Lf (Qg (Qg h)))
noncomputable def Jfe(t:SetTable)(i:Nat):Nat:=if i=0 then 0 else t.place.getD (i-1) 0+1
def Jkd(r:Ris t.place)(h:i<=t.place.size):Gq t.place (Jfe t i)=i:=by
 unfold Jfe
 by_cases c:i=0
 ·rw[if_pos c,c];exact Jij r
 ·rw[if_neg c];have hi:i-1<t.place.size:=by omega
  have e:t.place.getD (i-1) 0=t.place[i-1]:=by simp[Xk,hi]
  rw[e,Jii r hi];omega
def Jkf(bt:w.params.followText "set-order"=false)(hs:SHas s.heap d es ep t)(hf:t.fits es.size=true)(tok:TOk (YN w) t)(nd:(!t.plain && decide (es.size>1))=false)(hi:i<=es.size)(h:Q ((es[i]?).map fun e=>(e.2,Jfe t (i+1))) s):wpAny (model prog w) A (setNext d (Jfe t i) i ep) Q E s:=by
 obtain⟨o,ho,_,hd⟩:=hs;have hp:t.place.size=es.size:=by simp only[SetTable.fits,Q6,beq_iff_eq] at hf;exact hf.1
 have ris:Ris t.place:=by
  cases c:t.plain with
  | true=>exact tok.1 c
  | false =>
   rw[c] at nd;have z:es.size<=1:=by simpa using nd
   unfold Ris;have:t.place.toList.length<=1:=by rw[QN];omega
   match t.place.toList,this with
   | [],_=>exact .nil
   | [x],_=>exact L9 _ _
 have led:t.led=true:=by rw[tok.2];unfold YN;rw[bt];rfl
 unfold setNext setsByText;refine Qa (Kl ho hd hf (Qa (Qa (Lf (Qg ?_)))));show wpAny _ _ (if w.params.followText "set-order"=true then _ else _) _ _ s;rw[if_neg (by rw[bt];exact Qx)];show wpAny _ _ (if (!t.plain && decide (es.size>1))=true then _ else _) _ _ s;rw[if_neg (by rw[nd];exact Qx)];refine Qa (m:=if (!t.led && !es.isEmpty)=true then _ else _) ?_;rw[if_neg (by rw[led];simp)]
 refine Qg ?_;dsimp only;rw[Jkd ris (by omega)];refine Qg ?_
 cases c:es[i]? with
 | none=>rw[c] at h;exact h
 | some e =>
  have hlt:i<t.place.size:=by rw[hp];exact(M1.mp c).1
  rw[Kw hlt];rw[c] at h
  have:Jfe t (i+1)=t.place[i]+1:=by unfold Jfe;rw[if_neg (by omega)];simp[Xk,hlt]
  rw[Lx,this] at h;exact h
def JmF{Q:Qe->Qi->Prop}(hh:A.handled=none)(hs:SHas s.heap d es ep t)(hf:t.fits es.size=true)(tok:TOk (YN w) t)(hz:es.size<=Qt)
 (h:∀(I:Qj) (h':Q1) (dr:Drawn) (ys:List Qe) (fp:List Qj) (St:Nat->Q1->Prop),ys.Perm (es.toList.map (·.2))->s.heap.objs.size<=I->(∀b o,s.heap.get? b=some o->h'.get? b=some o) ->
  Walks prog w A I fp [I] es.size (fun i v=>ys[i]?=some v) St->St 0 h'->(∀b∈fp,s.heap.objs.size<=b\/b=d)->(∀b∈fp,b<h'.objs.size)->Q (.ref I) { s with heap:=h',drawn:=dr }) :
 wpAny (model prog w) A (pyIter (.ref d)) Q E s:=by
 obtain⟨o,ho,hex,hd⟩:=id hs;have hT:s.TypeIs (.ref d) "set":=⟨o,ho,hex.1⟩
 have dlt:d<s.heap.objs.size:=Qo ho;refine Mg hT F.slot_set_iter (QU F.slot_set_iter hT Jav ?_ (F.args_set_iter_1 _));unfold Builtin.«frozenset.__iter__» Builtin.Frozenset.slot0 Builtin.Frozenset.sizeOf Builtin.Frozenset.addrOf;refine Qa (Qa (Qg (Qg ?_)));refine Qa (Qa (ML ho hd hf (Qg ?_)));refine Qa ?_;unfold setDrawn setsByText;refine Qa (Kl ho hd hf (Qa (Qa (Lf (Qg (Qg ?_))))))
 show wpAny _ _ (if (!w.params.followText "set-order" && (!t.plain && decide (es.size>1)))=true then _ else _) _ _ s
 have one:∀(sl:Nat->Nat) (ys:List Qe),sl 0=0->ys.Perm (es.toList.map (·.2))->ys.length=es.size ->
  (∀(i:Nat) (s:Qi),i<=es.size->SHas s.heap d es ep t->∀(A:QS) (E:Qe->Qi->Prop) (Q:Option (Qe×Nat)->Qi->Prop),Q ((ys[i]?).map fun v=>(v,sl (i+1))) s->wpAny (model prog w) A (setNext d (sl i) i ep) Q E s) ->
  Walks prog w A s.heap.objs.size [s.heap.objs.size,d] [s.heap.objs.size] es.size (fun i v=>ys[i]?=some v) (fun i h=>SIt h s.heap.objs.size d (.int (sl i) 0) i es.size ep/\SHas h d es ep t/\i<=es.size):=fun sl ys s0 pm yl nx=>{
  sub:=fun b hb=>by simp at hb;simp[hb]
  frame:=fun i h h' st hk=>⟨st.1.at fun o e=>hk _ (by simp) o e,st.2.1.at fun o e=>hk d (by simp) o e,st.2.2⟩
  item:=fun i s1 Q E hi st hQ=>by
   obtain⟨o1,ho1,_,hd1⟩:=id st.2.1;refine Jgt hh st.1 ho1 hd1 hf (fun A E Q hq=>nx i s1 st.2.2 st.2.1 A E Q hq) (fun x j h' e hit' hs'=>?_) (fun e=>?_)
   ·obtain⟨v,e1,e2⟩:=GD.mp e;cases e2;exact hQ _ h' s1.toks e1 ⟨hit',st.2.1.at fun o x=>hs'.extBut d o (QD dlt) x,hi⟩ fun b o hb x=>hs'.extBut b o (fun h=>hb (by simp[h])) x
   ·rw[RJ,LV] at e;omega
  done:=fun s1 Q E st hQ=>by obtain⟨o1,ho1,_,hd1⟩:=id st.2.1;refine Jgt hh st.1 ho1 hd1 hf (fun A E Q hq=>nx _ s1 st.2.2 st.2.1 A E Q hq) (fun x j h' e _ _=>?_) (fun _ h' he=>hQ h' s1.toks fun b o hb e=>he b o (fun h=>hb (by simp[h])) e);obtain⟨v,e1,e2⟩:=GD.mp e;have:=(Qq.mp e1).1;omega
  self:=fun _ _ _ _ st hQ=>Jgu st.1 hQ }
 have enter:∀(sl:Nat->Nat) (ys:List Qe),sl 0=0->ys.Perm (es.toList.map (·.2))->ys.length=es.size ->
  (∀(i:Nat) (s:Qi),i<=es.size->SHas s.heap d es ep t->∀(A:QS) (E:Qe->Qi->Prop) (Q:Option (Qe×Nat)->Qi->Prop),Q ((ys[i]?).map fun v=>(v,sl (i+1))) s->wpAny (model prog w) A (setNext d (sl i) i ep) Q E s) ->
  Q (.ref s.heap.objs.size) { s with heap:=s.heap.push { cls:=.type "set_iterator",data:=.fields #[.int 0 0,.int 0 0,.ref d,.int es.size 0,.int ep 0] } }:=fun sl ys s0 pm yl nx=>by
  refine h s.heap.objs.size _ s.drawn ys [s.heap.objs.size,d] _ pm (Qp _) (fun b o e=>Qh _ e) (one sl ys s0 pm yl nx) ⟨⟨_,Qn _ rfl,rfl,?_⟩,hs.at fun o e=>Qh _ e,GP _⟩ (fun b hb=>?_) (fun b hb=>?_)
  ·rw[s0];rfl
  ·rcases Qk.mp hb with e|e
   ·exact .inl (RB e.symm)
   ·exact .inr (by simpa using e)
  ·rw[Gz];rcases Qk.mp hb with e|e
   ·rw[e];exact G2 _
   ·rw[QP.mp e];exact G5 dlt
 cases bt:w.params.followText "set-order" with
 | true =>
  rw[if_neg (by simp)];refine Qa (Qg ?_);unfold setEpoch;refine Qa (Qa (Kl ho hd hf (Qg ?_)));refine Qa (QW ?_);refine Qg ⟨_,rfl,"set_iterator",_,⟨_,Qn _ rfl,rfl⟩,si_slot_next.lookup,?_⟩;refine enter (fun _=>0) ((pickOrder (w.params.setOrder d ep) es).toList.map (·.2)) rfl ((Jbi _ es).map _) (by rw[Qm,(Jbi _ es).length_eq,QN]) fun i s1 hi hs1 A E Q hq=>JmG bt hs1 hf ?_
  rw[Qw,GN,KP] at hq;exact hq
 | false =>
  cases dw:(!t.plain && decide (es.size>1)) with
  | false =>
   rw[if_neg (by simp)];refine Qa (Qg ?_);unfold setEpoch;refine Qa (Qa (Kl ho hd hf (Qg ?_)));refine Qa (QW ?_);refine Qg ⟨_,rfl,"set_iterator",_,⟨_,Qn _ rfl,rfl⟩,si_slot_next.lookup,?_⟩;refine enter (Jfe t) (es.toList.map (·.2)) rfl (.refl _) (by rw[Qm,QN]) fun i s1 hi hs1 A E Q hq=>Jkf bt hs1 hf tok dw hi ?_
   rw[Qw,GN,KP] at hq;exact hq
  | true =>
   rw[if_pos (by simp)];refine Qa (Ja4 _ _ _ _ (by rw[Ks]) fun ps dr pm=>?_);refine Qa (Mf (items:=ps.map fun(i:Nat)=>rawInt i) ?_ (by rw[Qm,pm.length_eq,Ks];exact hz));have hT1:(s.heap.push { cls:=.type "tuple",data:=.seq (ps.map fun(i:Nat)=>rawInt i).toArray }).get? s.heap.objs.size=some { cls:=.type "tuple",data:=.seq (ps.map fun(i:Nat)=>rawInt i).toArray }:=Qn _ rfl
   have ho1:(s.heap.push { cls:=.type "tuple",data:=.seq (ps.map fun(i:Nat)=>rawInt i).toArray }).get? d=some o:=Qh _ ho
   generalize hg:s.heap.push { cls:=.type "tuple",data:=.seq (ps.map fun(i:Nat)=>rawInt i).toArray }=g at hT1 ho1 ⊢
   have gz:g.objs.size=s.heap.objs.size+1:=by rw[<- hg,Gz]
   have gk:∀b o,s.heap.get? b=some o->g.get? b=some o:=fun b o e=>by rw[<- hg];exact Qh _ e
   unfold setEpoch;refine Qa (Qa (Kl (s:={ s with heap:=g,drawn:=dr }) ho1 hd hf (Qg ?_)));refine Qa (QW ?_);refine Qg ⟨_,rfl,"set_iterator",_,⟨_,Qn _ rfl,rfl⟩,si_slot_next.lookup,?_⟩;have inn:∀p∈ps,p<es.size:=fun p hp=>by simpa using pm.mem_iff.mp hp
   have pl:ps.length=es.size:=by rw[pm.length_eq,Ks]
   have dne:d≠g.objs.size:=by rw[gz];exact QD (G5 dlt)
   have tne:s.heap.objs.size≠g.objs.size:=by rw[gz];exact QD (G2 _)
   refine h g.objs.size _ dr (ps.map fun p=>(es[p]?.map (·.2)).getD Value.none) [g.objs.size,d,s.heap.objs.size] (fun i h=>SIt h g.objs.size d (.ref s.heap.objs.size) i es.size ep/\SHas h d es ep t/\h.get? s.heap.objs.size=some { cls:=.type "tuple",data:=.seq (ps.map fun(i:Nat)=>rawInt i).toArray }) ?_ (by rw[gz];exact LH _) (fun b o e=>Qh _ (gk b o e)) ?_ ⟨⟨_,Qn _ rfl,rfl,rfl⟩,⟨o,Qh _ ho1,hex,hd⟩,Qh _ hT1⟩ (fun b hb=>?_) (fun b hb=>?_)
   ·refine(pm.map _).trans (.of_eq ?_);refine Mq (by simp) fun i h1 h2=>?_
    have hi:i<es.size:=by simpa using h1
    simp[hi]
   ·exact {
     sub:=fun b hb=>by simp at hb;simp[hb]
     frame:=fun i h h' st hk=>⟨st.1.at fun o e=>hk _ (by simp) o e,st.2.1.at fun o e=>hk d (by simp) o e,hk _ (by simp) _ st.2.2⟩
     item:=fun i s1 Q E hi st hQ=>by
      obtain⟨o1,ho1,_,hd1⟩:=id st.2.1;refine Jd0 hh st.1 ho1 hd1 hf st.2.2 rfl (fun p e h' e1 e2 hit' hs'=>?_) inn (fun e=>?_)
      ·exact hQ _ h' s1.toks (by rw[Qw,e1];simp[e2]) ⟨hit',st.2.1.at fun o x=>hs'.extBut d o dne x,hs'.extBut _ _ tne st.2.2⟩ fun b o hb x=>hs'.extBut b o (fun h=>hb (by simp[h])) x
      ·rw[LV] at e;omega
     done:=fun s1 Q E st hQ=>by obtain⟨o1,ho1,_,hd1⟩:=id st.2.1;refine Jd0 hh st.1 ho1 hd1 hf st.2.2 rfl (fun p e h' e1 _ _ _=>?_) inn (fun _ h' he=>hQ h' s1.toks fun b o hb e=>he b o (fun h=>hb (by simp[h])) e);have:=(Qq.mp e1).1;omega
     self:=fun _ _ _ _ st hQ=>Jgu st.1 hQ }
   ·simp only[Qk,QR,or_false] at hb;rcases hb with e|e|e
    ·exact .inl (by rw[e,gz];exact LH _)
    ·exact .inr e
    ·exact .inl (RB e.symm)
   ·rw[Gz,gz];simp only[Qk,QR,or_false] at hb;rcases hb with e|e|e
    ·rw[e,gz];exact G2 _
    ·rw[e];exact G5 (G5 dlt)
    ·rw[e];exact G5 (G2 _)
end
end L2
namespace L2
open PySem PyProof.Rows PySem.W PySem.Spec
def Ji5{Q:Bool->Qi->Prop}(hT:s.TypeIs (.ref d) "set")(h:Q false s):wpAny (model prog w) A (KJ (.ref d)) Q E s:=by
 unfold KJ;refine Qa (KS hT PySem.F.slot_set_len.lookup ?_)
 generalize hid:("set.__len__":String)=id0
 wp_delta
 rw[show splitId id0=some ("set","__len__") from by subst hid;decide +kernel];subst hid;refine Qa (Kp (T:="set") (b:=true) hT (by rw[La];kernel_rfl) ?_);refine Lw (fun hab=>absurd hab (by decide)) (fun _=>?_);refine Lw (fun _=>?_) (fun hab=>absurd (by decide +kernel) hab);exact Qa (Md hT (Qg h))
def Jfc{R:Rh->Qi->Prop}(hh:A.handled=none)(hs:SHas s.heap d es ep t)(hf:t.fits es.size=true)(tok:TOk (YN w) t)(hz:es.size<=Qt)(S:Qj)(ne:S≠d)(res:Qe)(hS:s.heap.get? S=some { cls:=.type "list",data:=.seq #[] })
 (hR:∀h' tk dr acc c,(∀b o,b≠S->s.heap.get? b=some o->h'.get? b=some o)->h'.get? S=some { cls:=.type "list",dict:=none,data:=.seq acc c,slots:=#[] }->acc.toList.Perm (es.toList.map (·.2))->R (.ok (.ret res)) { s with heap:=h',toks:=tk,drawn:=dr }) :
 wpAny (model prog w) A.in1 (Kg (.ref S) (.ref d) res)
  (fun fin s'=>match fin with|.done f=>R (.ok f) s'|.again c'=>c'.quiet=true/\codeAny (model prog w) A c' R s') (fun e s'=>R (.error e) s') s:=by
 obtain⟨o,ho,hex,hd⟩:=id hs;have hT:s.TypeIs (.ref d) "set":=⟨o,ho,hex.1⟩
 have Slt:S<s.heap.objs.size:=Qo hS;unfold Kg;refine Qa (Md (T:="set") hT ?_)
 have h1:K3 (.ref S) (.ref d)=false:=by simp[K3,ne]
 have h2:(Value.type "set" == Value.type "list")=false:=by decide
 have h3:(Value.type "set" == Value.type "tuple")=false:=by decide
 simp only[h1,h2,h3,Rk,G7,if_false];refine Qa (JmF (A:=A.in1) hh hs hf tok hz fun I h' dr ys fp St pm le old W st fpo fpl=>?_);have SI:S∉fp:=fun m=>(fpo S m).elim (fun x=>absurd Slt (Mo.mpr x)) fun x=>ne x
 have hS1:=old S _ hS
 have key:∀(g:Q1) (c1 tk:Nat),St 0 g->(∀b o,b≠S->s.heap.get? b=some o->g.get? b=some o)->g.get? S=some { cls:=.type "list",data:=.seq #[] c1 } ->
  codeAny (model prog w) A (.builtin "list.extend.loop" ⟨[.ref S,.ref I,res],[]⟩) R { s with heap:=g,toks:=tk,drawn:=dr }:=by
  intro g c1 tk st1 hk hS2;refine codeAny_extend_loopS W.toS hz S SI res es.size 0 _ #[] c1 rfl (GP _) st1 hS2 (ItemsOf.nil _) fun s' acc c' hm hS' hacc=>?_
  rw[Moved.eq_with hm];refine hR s'.heap s'.toks dr acc c' (fun b o hb e=>hm.heap b o (fun m=>?_) (hk b o hb e)) hS' ?_
  ·rcases Qk.mp m with e'|m
   ·exact hb e'
   ·rw[QP] at m;exact absurd (Qo e) (Mo.mpr (m▸le))
  ·have yl:ys.length=es.size:=by rw[pm.length_eq,Qm,QN]
   have:acc.toList=ys:=Mq (by rw[QN,hacc.1,yl]) fun i a1 a2=>by have:ys[i]?=some acc.toList[i]:=hacc.2 i acc.toList[i] (by rw[<- GN];exact Qy a1);rw[Qy a2] at this;exact(QQ this).symm
   rw[this];exact pm
 refine Qa (GI (Ji5 (s:={ s with heap:=h',drawn:=dr }) ⟨o,old _ _ ho,hex.1⟩ ?_));refine Lw (fun _=>?_) (fun _=>Qg ⟨Ki G6 _,key _ _ _ st (fun b o _ e=>old b o e) hS1⟩);refine Qa (KH (Qa ?_));show wpAny _ _ (updateSeq S (·.push .none) >>= fun _=>updateSeq S (·.pop)) _ _ _;refine Qa (Ku hS1 rfl ?_);have hS2:=Gg (KG (·.push Value.none)) hS1 rfl
 refine Ku (hz:=by seq_fits) hS2 rfl ?_;have hS3:=Gg (KG (·.pop)) hS2 rfl;refine Qg ⟨Ki G6 _,key _ _ _ ?_ (fun b o hb e=>?_) hS3⟩
 ·refine W.frame 0 _ _ st fun b hb o e=>?_
  have bS:b≠S:=fun h=>SI (h▸hb)
  exact(Gb _ _ (Q3 bS)).trans ((Gb _ _ (Q3 bS)).trans e)
 ·exact(Gb _ _ (Q3 hb)).trans ((Gb _ _ (Q3 hb)).trans (old b o e))
def JdW(hh:A.handled=none)(hs:SHas s.heap d es ep t)(hf:t.fits es.size=true)(tok:TOk (YN w) t)(hz:es.size<=Qt)(h:∀(h':Q1) (tk:Nat) (dr:Drawn) (acc:Array Qe),(∀b o,s.heap.get? b=some o->h'.get? b=some o)->s.heap.objs.size<h'.objs.size->acc.toList.Perm (es.toList.map (·.2))->R acc.toList { s with heap:=h',toks:=tk,drawn:=dr }):wpAny (model prog w) A (collect (.ref d)) R E s:=by
 obtain⟨o,ho,hex,hd⟩:=id hs;have dlt:d<s.heap.objs.size:=Qo ho;have old:∀b o,s.heap.get? b=some o->(s.heap.push { cls:=.type "list",data:=.seq ([]:List Qe).toArray }).get? b=some o:=fun b o e=>Qh _ e
 unfold collect;refine Qa (R4 (G9 entry_proto_collect' ?_));rw[GJ MO _];show wpAny _ A.in1 (newList [] >>= fun l=>again (.builtin "list.__iadd__" ⟨[l,.ref d],[]⟩)) _ _ s;refine Qa (QW (Qg ⟨Ki Ld _,G9 entry_list_iadd' ?_⟩));rw[GJ Ld _];have at0:(s.heap.push { cls:=.type "list",data:=.seq ([]:List Qe).toArray }).get? s.heap.objs.size=some { cls:=.type "list",data:=.seq #[] }:=Qn _ rfl
 have fin:∀(h':Q1) (tk:Nat) (dr:Drawn) (acc:Array Qe) (c:Nat),(∀b o,s.heap.get? b=some o->h'.get? b=some o)->h'.get? s.heap.objs.size=some { cls:=.type "list",dict:=none,data:=.seq acc c,slots:=#[] }->acc.toList.Perm (es.toList.map (·.2)) ->
  wpAny (model prog w) A (load s.heap.objs.size >>= fun o=>match o.data with | .seq xs _=>pure xs.toList | _=>unsupported "internal:collect") R E { s with heap:=h',toks:=tk,drawn:=dr }:=fun h' tk dr acc c hk hS hi=>Qa (wpAny_load hS (Qg (h h' tk dr acc hk (Qo hS) hi)))
 have got:=Jfc (prog:=prog) (A:=A) (s:={ s with heap:=s.heap.push { cls:=.type "list",data:=.seq ([]:List Qe).toArray } }) (R:=fun q s'=>∃h' tk dr acc c,q=.ok (.ret (.ref s.heap.objs.size))/\s'={ s with heap:=h',toks:=tk,drawn:=dr }/\(∀b o,s.heap.get? b=some o->h'.get? b=some o)/\h'.get? s.heap.objs.size=some { cls:=.type "list",dict:=none,data:=.seq acc c,slots:=#[] }/\acc.toList.Perm (es.toList.map (·.2)))
  hh (hs.at fun o e=>old _ o e) hf tok hz s.heap.objs.size (Gh dlt) (.ref s.heap.objs.size) at0 (fun h' tk dr acc c hk hS hi=>⟨h',tk,dr,acc,c,rfl,rfl,fun b o e=>hk b o (QD (Qo e)) (old b o e),hS,hi⟩)
 refine KZ got (fun f s' x=>?_) fun e s' ⟨_,_,_,_,_,z,_⟩=>nomatch z
 cases f with
 | done f=>obtain⟨h',tk,dr,acc,c,e,rfl,hk,hS,hi⟩:=x;cases e;exact fin h' tk dr acc c hk hS hi
 | again c1=>exact⟨x.1,Lj x.2 fun q s2 ⟨h',tk,dr,acc,c,e1,e2,hk,hS,hi⟩=>by subst e1;subst e2;exact fin h' tk dr acc c hk hS hi⟩
noncomputable def fM(ns:List Int):List Int:=firstMet (fun i=>ns.getD i 0) ns.length
def JfQ(ns:List Int):fM ns=ns.foldl step_dedup []:=by
 unfold fM firstMet;congr 1;refine Mq (by simp) fun i h1 h2=>?_
 simp[QV,h2]
theorem Jc0:∀(ns acc:List Int),acc.Nodup->(ns.foldl step_dedup acc).Nodup
 | [],acc,h=>h
 | n::ns,acc,h=>by
  rw[Gj];refine Jc0 ns _ ?_;unfold step_dedup;split
  ·exact h
  ·rename_i c;refine LG.mpr ⟨h,by simp,fun a ha b hb=>?_⟩;rw[QP] at hb;subst hb;intro e;subst e;exact c (Kz.mpr ⟨a,ha,by simp⟩)
theorem Jiw:∀(ns acc:List Int) (k:Int),k∈ns.foldl step_dedup acc↔k∈acc\/k∈ns
 | [],acc,k=>by simp
 | n::ns,acc,k=>by
  rw[Gj,Jiw ns];unfold step_dedup;split
  ·rename_i c;obtain⟨x,hx,e⟩:=Kz.mp c;have:x=n:=by simpa using e
   subst this;simp only[Qk];constructor
   ·exact fun h=>h.elim .inl fun h=>.inr (.inr h)
   ·rintro(h|h|h)
    ·exact .inl h
    ·exact .inl (h▸hx)
    ·exact .inr h
  ·simp only[Gd,Qk,QR,or_false,or_assoc]
def ZI(ns:List Int):(fM ns).Nodup:=by rw[JfQ];exact Jc0 ns [] Me
def ZH(ns:List Int)(k:Int):k∈fM ns↔k∈ns:=by rw[JfQ,Jiw];simp
def JiO(ns:List Int):(fM ns).length<=ns.length:=firstMet_length_le _ _
theorem W0:∀{a b:List Int},a.Nodup->(∀x∈a,x∈b)->b.length=a.length->b.Perm a
 | [],b,_,_,h=>by have:b=[]:=QA (by simpa using h);rw[this]
 | x::a,b,nd,sub,h=>by
  have hx:=sub x Qc
  have pb:=List.perm_cons_erase hx;refine pb.trans (List.Perm.cons x ?_)
  have nd':=QY.mp nd;refine W0 nd'.2 (fun y hy=>?_) (by rw[List.length_erase_of_mem hx,h];simp);rcases Qk.mp (pb.mem_iff.mp (sub y (Qd _ hy))) with e|e
  ·exact absurd (e▸hy) nd'.1
  ·exact e
theorem Jda:∀{l:List (Int×Qe)},ElemsOf (intKind prog w) l->∃ks:List Int,IntsAre (l.map (·.2)) ks
 | [],_=>⟨[],.nil⟩
 | e::l,h=>by obtain⟨ks,r⟩:=Jda h.tail;obtain⟨⟨k,hk,_⟩,_⟩:=h.head;obtain⟨tk,e2⟩:=M9 (show RY k e.2=true from hk);refine⟨k::ks,?_⟩;rw[Qf,e2];exact .cons k tk r
theorem Jdc:∀{vs:List Qe} {ks:List Int},IntsAre vs ks->∀v∈vs,RY x v=true->x∈ks
 | _,_,.nil,v,h,_=>by simp at h
 | _,_,.cons n t r,v,h,e=>by
  rcases Qk.mp h with q|q
  ·subst q;obtain⟨tk,e2⟩:=M9 e
   injection e2 with e2
   subst e2;exact Qc
  ·exact Qd _ (Jdc r v q e)
def Jhn(p:a.Perm b):∀{ks:List Int},IntsAre a ks->∃ks',IntsAre b ks'/\ks'.Perm ks:=by
 induction p with
 | nil=>intro ks r;exact⟨ks,r,.refl _⟩
 | cons x p ih =>
  intro ks r
  cases r with
  | cons n t r=>obtain⟨ks',r',q⟩:=ih r;exact⟨n::ks',.cons n t r',q.cons n⟩
 | swap x y l =>
  intro ks r
  cases r with
  | cons n t r=>cases r with
   | cons m u r=>exact⟨m::n::_,.cons m u (.cons n t r),List.Perm.swap _ _ _⟩
 | trans p q ih1 ih2=>intro ks r;obtain⟨k1,r1,q1⟩:=ih1 r;obtain⟨k2,r2,q2⟩:=ih2 r1;exact⟨k2,r2,q2.trans q1⟩
def JdX(x:SetL prog w led h a (fun k=>(fM ns).any (· == k)) (fM ns).length):
 ∃es ep t ks,SHas h a es ep t/\t.fits es.size=true/\TOk led t/\es.size=(fM ns).length/\IntsAre (es.toList.map (·.2)) ks/\ks.Perm (fM ns):=by
 obtain⟨o,es,ep,t,z⟩:=x;obtain⟨ks,r⟩:=Jda z.els;refine⟨es,ep,t,ks,⟨o,z.got,z.ex,z.data⟩,z.fits,z.tok,z.size,r,?_⟩;refine W0 (ZI ns) (fun y hy=>?_) ?_
 ·obtain⟨e,he,hi⟩:=(z.mem y).mp (Kz.mpr ⟨y,hy,by simp⟩);exact Jdc r e.2 (QC.mpr ⟨e,he,rfl⟩) hi
 ·have:=R7 r;rw[Qm,QN] at this;rw[<- this,z.size]
noncomputable def JhU(X:Cx)(l:Qj)(ns:List Int):HO:=.ext fun h=>SetL X.prog X.w (YN X.w) h l (fun k=>(fM ns).any (· == k)) (fM ns).length
noncomputable def Jnr(X:Cx):List V->Hp->VK->Prop:=fun xs H Q=>∃a ns,xs=[.ref a]/\SqL X.K H a (ns.map V.int)/\ns.length+1<scanBound/\∀l,H l=none->Q (.ref l) (upd H l (JhU X l ns))
noncomputable def Jpf(X:Cx):List V->Hp->VK->Prop:=fun xs H Q=>∃r ns,xs=[.ref r]/\H r=some (JhU X r ns)/\ns.length<64/\∀l,H l=none->Q (.ref l) (upd H l (.lst ((Yq (fM ns)).map V.int)))
noncomputable def Jq8(X:Cx):List V->Hp->VK->Prop:=fun xs H Q=>∃r ns,xs=[.ref r]/\H r=some (JhU X r ns)/\ns.length<64/\Q (.int ((fM ns).length:Nat)) H
def Inv.drew{pins:List (Qj×Obj)}{σ:List (Option V)}{H:Hp}{s:Qi}{d:Drawn}(I:Inv X pins σ H s):Inv X pins σ H { s with drawn:=d } :=
 ⟨I.ok,I.os,I.bare,I.base,I.loc,I.cell,I.free,I.freeC,I.pin,I.hok,I.len⟩
def Jg9(hc:X.calm=true):J0 X (.type "set") (Jnr X):=by
 intro pins s σ H xs us Q I r h;obtain⟨a,ns,rfl,hq,hb,q⟩:=h;obtain⟨u,rfl,rx⟩:=Uo r;cases rx;obtain⟨its,r',pl,hz⟩:=I.list hq;have hh:X.A.handled=none:=I.ok.hd hc;have hi:=YR r';have il:its.length=ns.length:=R7 hi;have hne:H s.heap.objs.size=none:=I.hok.fresh (Qp _);refine Jg8 (ns:=ns) hh pl.isList hi (by rw[Qu,il];exact hb) fun h' tk hS old=>?_
 have ez:its.toArray.size=ns.length:=by rw[Qu,il]
 rw[ez] at hS;refine⟨.ref s.heap.objs.size,_,I.laid (t':=tk) (o:=JhU X s.heap.objs.size ns) old (Qp _) ⟨hS,?_,fun h1 h2 p k=>p.move k⟩,rfl,q _ hne⟩;obtain⟨o,_,_,_,z⟩:=hS;exact⟨o,z.got⟩
def Jeq(hc:X.calm=true):J0 X (.builtin "sorted") (Jpf X):=by
 intro pins s σ H xs us Q I r h;obtain⟨p,ns,rfl,ds,h64,q⟩:=h;obtain⟨u,rfl,rx⟩:=Uo r;cases rx;have z:=(show ObjOk X.prog X.w H s.heap p (JhU X p ns) from I.hok p _ ds).1;obtain⟨es,ep,t,ks,hs,hf,tok,sz,ri,pm⟩:=JdX z;have hh:X.A.in1.handled=none:=I.ok.hd hc;have fl:=JiO ns;have room:∀n:Nat,n<64->n<=Qt:=fun n h=>by show n<=16777216;omega
 refine M7 kind_sorted plain_sorted entry_sorted (args_sorted1 _) ?_;unfold Builtin.«sorted»;refine Qa (m:=checkCount "sorted" 1 1 _) (Qg ?_);refine Qa (JdW hh hs hf tok (room _ (by omega)) fun h' tk dr acc hk hsz pa=>?_);obtain⟨k2,hI,p2⟩:=Jhn pa.symm ri;have pk:=p2.trans pm;have hal:acc.toList.length=(fM ns).length:=by rw[R7 hI,pk.length_eq]
 refine Qa (wpAny_newList ?_ (room _ (by omega)));have hoL:(h'.push (seqObj "list" acc.toList.toArray 0)).get? h'.objs.size=some (seqObj "list" acc.toList.toArray 0):=Qn _ rfl;refine Qa (GI (QU slot_list_sort ⟨_,hoL,rfl⟩ entry_list_sort (list_sort_tree hoL hI (by omega) fun out ns' a1 a2 a3=>⟨_,rfl,?_⟩) (args_list_sort _)));refine Qg ⟨_,rfl,?_⟩;have e0:ns'=Yq (fM ns):=WR ((a2.trans pk).trans (JO _).symm) a3 (UN _)
 subst e0;obtain⟨e,he⟩:=sortedHeap_at (out:=out) hoL;have hle:s.heap.objs.size<=h'.objs.size:=Kc hsz;have hne:H h'.objs.size=none:=I.hok.fresh hle;have hn:((Yq (fM ns)).map V.int).length<=Qt:=by rw[Qm,(JO _).length_eq];exact room _ (by omega)
 refine⟨.ref h'.objs.size,_,(I.drew (d:=dr)).laid (t':=tk) (fun b o x=>?_) hle (show ObjOk X.prog X.w _ _ _ (.lst ((Yq (fM ns)).map V.int)) from⟨hn,out.toList,e,U0 a1,?_⟩),rfl,q _ hne⟩
 ·have hx:=hk b o x
  have hlt:b<h'.objs.size:=Qo hx;rw[sortedHeap_old (QD hlt) (by rw[size_push'];exact G5 hlt)];exact Qh _ hx
 ·rw[he]
def Jg4:J0 X (.builtin "len") (Jq8 X):=by intro pins s σ H xs us Q I r h;obtain⟨p,ns,rfl,ds,h64,q⟩:=h;obtain⟨u,rfl,rx⟩:=Uo r;cases rx;have z:=(show ObjOk X.prog X.w H s.heap p (JhU X p ns) from I.hok p _ ds).1;obtain⟨es,ep,t,ks,⟨o,ho,hex,hd⟩,hf,tok,sz,ri,pm⟩:=JdX z;have fl:=JiO ns;refine call_len_set ho hex hd hf (by rw[sz];omega) ?_;exact⟨.int ((fM ns).length:Nat),H,⟨I.ok,I.os,I.bare,I.base,I.loc,I.cell,I.free,I.freeC,I.pin,I.hok,I.len⟩,⟨_,by rw[sz]⟩,q⟩
noncomputable def tUp(te:TE):TE:=fun σ H Q=>∃A:VK,te σ H A/\∀x H1,A x H1->Q x H1
def Jq0(h:PE X e te):PE X e (tUp te):=by intro pins s σ H Q I ⟨A,h1,h2⟩;exact thn (h pins s σ H A I h1) fun v s1 ⟨x,H1,I1,r1,a⟩=>⟨x,H1,I1,r1,h2 x H1 a⟩
def PE.imp(h:PE X e t1)(i:∀σ H Q,t2 σ H Q->t1 σ H Q):PE X e t2:=fun pins s σ H Q I x=>h pins s σ H Q I (i σ H Q x)
noncomputable def Jkr(K:QE)(te:TE):TE:=fun σ H Q=>te σ H fun x H1=>∃a ns,x=.ref a/\SqL K H1 a (ns.map V.int)/\ns.length<64/\∀l o l',H1 l=none->upd H1 l o l'=none->Q (.ref l') (upd (upd H1 l o) l' (.lst ((Yq (fM ns)).map V.int)))
noncomputable def JnC(K:QE)(te:TE):TE:=fun σ H Q=>te σ H fun x H1=>∃a ns,x=.ref a/\SqL K H1 a (ns.map V.int)/\ns.length<64/\∀l o,H1 l=none->Q (.int ((fM ns).length:Nat)) (upd H1 l o)
def Jjz(hc:X.calm=true)(hg:Gl X "set")(hm:X.mg "set"=none)(he:PE X e te)(h1:starEach [e] X.env=(false,eval e X.env)::starEach [] X.env:=by rfl):PE X (.Call (.Name "set" p1) [e] [] q1) (tCB (Jnr X) (Y5 (tUp te) Vo)) :=
 UI (Jg9 hc) hg hm (by rfl) (Ja (Jq0 he) Jd h1) (he:=h1)
def JdD{K:QE}(hK:X.K=K)(hc:X.calm=true)(hg:Gl X "sorted")(hm:X.mg "sorted"=none)(hg2:Gl X "set")(hm2:X.mg "set"=none)(he:PE X e te)(h1:starEach [e] X.env=(false,eval e X.env)::starEach [] X.env:=by rfl)
 (h2:starEach [Expr.Call (.Name "set" p1) [e] [] q1] X.env=(false,eval (.Call (.Name "set" p1) [e] [] q1) X.env)::starEach [] X.env:=by rfl):PE X (.Call (.Name "sorted" p2) [.Call (.Name "set" p1) [e] [] q1] [] q2) (Jkr K te):=by
 subst hK;refine PE.imp (Jr (Jeq hc) hg hm (by rfl) (Ja (Jjz hc hg2 hm2 he h1) Jd h2) (he:=h2)) fun σ H Q h=>⟨_,h,?_⟩
 rintro x H1 ⟨a,ns,rfl,hq,h64,q⟩;exact⟨a,ns,rfl,hq,by show ns.length+1<4096;omega,fun l hl=>⟨l,ns,rfl,Jn,h64,fun l' hl'=>q l _ l' hl hl'⟩⟩
def JlY{K:QE}(hK:X.K=K)(hc:X.calm=true)(hg:Gl X "len")(hm:X.mg "len"=none)(hg2:Gl X "set")(hm2:X.mg "set"=none)(he:PE X e te)(h1:starEach [e] X.env=(false,eval e X.env)::starEach [] X.env:=by rfl)
 (h2:starEach [Expr.Call (.Name "set" p1) [e] [] q1] X.env=(false,eval (.Call (.Name "set" p1) [e] [] q1) X.env)::starEach [] X.env:=by rfl):PE X (.Call (.Name "len" p2) [.Call (.Name "set" p1) [e] [] q1] [] q2) (JnC K te):=by
 subst hK;refine PE.imp (Jr Jg4 hg hm (by rfl) (Ja (Jjz hc hg2 hm2 he h1) Jd h2) (he:=h2)) fun σ H Q h=>⟨_,h,?_⟩
 rintro x H1 ⟨a,ns,rfl,hq,h64,q⟩;exact⟨a,ns,rfl,hq,by show ns.length+1<4096;omega,fun l hl=>⟨l,ns,rfl,Jn,h64,q l _ hl⟩⟩
end L2
namespace LE
open PySem L2 LR
noncomputable def JbQ(a:Ev):Ev:=fun E=>(a E).bind fun s=>s.r.bind fun ds=>(ints? ds).bind fun ns=>if ns.length<64 then some (.own ((Yq (fM ns)).map .int)) else none
noncomputable def JfL(a:Ev):Ev:=fun E=>(a E).bind fun s=>s.r.bind fun ds=>(ints? ds).bind fun ns=>if ns.length<64 then some (.sh (.int ((fM ns).length:Nat))) else none
def Jmx(ha:SE K C td ed):SE K C (Jkr K td) (JbQ ed):=by
 intro B H0 H σ E r Q I e q;obtain⟨s,e1,e⟩:=bind_some e;obtain⟨ds,e2,e⟩:=bind_some e;obtain⟨ns,e3,e⟩:=bind_some e;split at e
 ·next h64 =>
  cases e;refine ha B H0 H σ E s _ I e1 fun x H1 H1' s1 r1=>?_
  obtain⟨l,ys,rfl,h,r2⟩:=r1.r s1.i e2;rw[YI e3] at r2;have:=r2.ints;subst this;refine⟨l,ns,rfl,h,h64,fun w o l' hw hl'=>?_⟩;have st:Step H1' H1 H1' H1 (upd H1' w o):=⟨.new hw,Same.refl _,fun _ _ e=>.inl e,s1.i.trans (.new hw)⟩
  have s2:=s1.trans st;exact YV s2.i s2.h hl' (JdK _) fun v H2 H2' s3 r3=>q v H2 H2' (s2.comp s3 fun _ y=>y) r3
 ·cases e
def JpB(ha:SE K C td ed):SE K C (JnC K td) (JfL ed):=by
 intro B H0 H σ E r Q I e q;obtain⟨s,e1,e⟩:=bind_some e;obtain⟨ds,e2,e⟩:=bind_some e;obtain⟨ns,e3,e⟩:=bind_some e;split at e
 ·next h64 =>
  cases e;refine ha B H0 H σ E s _ I e1 fun x H1 H1' s1 r1=>?_
  obtain⟨l,ys,rfl,h,r2⟩:=r1.r s1.i e2;rw[YI e3] at r2;have:=r2.ints;subst this;refine⟨l,ns,rfl,h,h64,fun w o hw=>?_⟩;have st:Step H1' H1 H1' H1 (upd H1' w o):=⟨.new hw,Same.refl _,fun _ _ e=>.inl e,s1.i.trans (.new hw)⟩
  have s2:=s1.trans st;exact q _ _ _ s2 (RD.int _)
 ·cases e
end LE
namespace L2
open PySem PyProof.Rows PySem.W PySem.Spec
end L2
namespace LE
open PySem L2 LR
end LE
namespace L2
open PySem PyProof.Rows PySem.W PySem.Spec
noncomputable def JmX(i j:Int):Prop:=0<j/\j.natAbs<=10 ^ 200
def Joo{j:Int}(h:j.natAbs<=10 ^ 200):j.natAbs.log2<9000:=by
 by_cases h0:j.natAbs=0
 ·rw[h0];decide +kernel
 ·have h1:j.natAbs.log2<1000:=by rw[Nat.log2_lt h0];exact Kn h (by decide +kernel)
  omega
def Wg:OpR X (binaryOp .FloorDiv) (rI JmX fun i j=>.int (i / j)):=opI fun i j _ _ _ _ _ hc q=>by have h1:(0:Int)<j:=hc.1;exact floordiv_int (by omega) (by rw[MV i (by omega)];exact q) (.inl (PyProof.noPylong_of_log2 (Joo hc.2)))
end L2
namespace LE
open PySem L2 LR
noncomputable abbrev WV:=fIc (fun _ b=>decide (0<b) && U5 b) fun a b=>.int (a / b)
def JoD:OpS K C (rI JmX fun i j=>.int (i / j)) WV:=JhD (fun i j h=>by simp only[Q6,U5,K2,decide_eq_true_eq] at h;exact h) fun _ _ _=>.int _
def JiM(h:0<b/\b.natAbs<=10 ^ 200):WV (.sh (.int a)) (.sh (.int b))=some (.sh (.int (a / b))):=by show(if (decide (0<b) && U5 b)=true then _ else _)=_;rw[if_pos];rw[Q6];exact⟨decide_eq_true h.1,K2.mpr h.2⟩
end LE
namespace L2
open PySem PyProof.Rows PySem.W PySem.Spec
end L2
namespace LE
open PySem L2 LR
noncomputable def ifB(f:Sl->Sl->Option Sl)(d:D)(ew:Ev)(a b:Es):Es:=fun E=>((ew E).bind fun s=>(f (.sh d) s).bind bool?).bind fun k=>if k=true then a E else b E
noncomputable def Jea(f:Sl->Sl->Option Sl)(j:Nat)(ek ev ew:Ev)(a b:Es):Es:=fun E=>match E[j]? with
 | some (.od ks ds)=>((ek E).bind int?).bind fun n=>(ev E).bind fun s=>s.frz.bind fun d=>if ks.length<Qt then
  match look ks ds n with
  | some d'=>ifB f d' ew a b E
  | none=>ifB f d ew a b (E.set j (.od (Jv ks n) (putDs ks ds n d)))
  else none
 | _=>none
def Jp0(ho:OpS K C r f)(hk:SE K C ty ek)(hx:SE K C tx ev)(hw:SE K C tw ew)(ht:SS K C t et)(hu:SS K C u eu):SS K C (JmJ (JgK (tOp r (JcE (V2 j) ty tx) tw)) t u) (Jea f j ek ev ew et eu):=by
 intro B H0 H σ E o N I e fn;unfold Jea at e;split at e
 ·next ks ds h =>
  obtain⟨n,e1,e⟩:=bind_some e;obtain⟨t1,e1,e2⟩:=bind_some e1;obtain rfl:=Uh e2;obtain⟨sv,e3,e⟩:=bind_some e;obtain⟨d,e4,e⟩:=bind_some e;split at e
  ·next hz =>
   obtain⟨l,xs,g1,g2,g3,g4,gk,g5⟩:=I.slotD h;have hxl:ks.length=xs.length:=gk.trans g5.1.symm;refine⟨_,g1,?_⟩;refine⟨l,rfl,.inl ⟨_,.inl g2⟩,?_⟩;refine hk B H0 H σ E _ _ I e1 fun y H1 H1' s1 r1=>?_
   refine hx B H1 H1' σ E _ _ (I.step s1) e3 fun z H2 H2' s2 r2=>?_
   have s12:=s1.trans s2
   have s3:Step H H0 H (JN H H2 H2') H2':=s12.comp (JF s12.i) fun _ z=>z
   have rv:RD K C (JN H H2 H2') z d:=RR.frz s12.i (r2.weak fun a q=>Same.free s1.h q) e4
   have I3:=I.step s3
   -- what comes behind the value is known
   have tail:∀(E':En) (HA HB:Hp) (v:V) (d':D),EnvR K C B HA HB σ E'->SStep B H0 HA HB->RD K C HA v d'->ifB f d' ew et eu E'=some o ->
    tw σ HB (fun y H4=>r v y H4 fun z H5=>∃k,z=.bl k/\if k=true then t N σ H5 else u N σ H5):=fun E' HA HB v d' J ss rd ee=>by
    unfold ifB at ee;obtain⟨k,ee,e9⟩:=bind_some ee;obtain⟨sw,e7,ee⟩:=bind_some ee;obtain⟨sc,e8,ee⟩:=bind_some ee;have eb:=Vt ee;refine hw B HA HB σ E' sw _ J e7 fun y H4 H4' s4 r4=>?_
    refine ho HB H4 H4' v y (.sh d') sw sc _ s4.i s4.h (rd.mono s4.z) r4 e8 fun z H5 H5' s5 r5=>?_
    rw[eb] at r5;have s45:=s4.comp s5 fun _ z=>z
    refine⟨k,RD.blI r5,?_⟩;have J5:=J.step s45;have fs:SStep B H0 H5 H5':=ss.trans (s45.ss J.b)
    cases k with
    | true=>rw[if_pos rfl] at e9 ⊢;exact ht B H5 H5' σ E' o N J5 e9 (fn.step fs)
    | false=>rw[if_neg (by simp)] at e9 ⊢;exact hu B H5 H5' σ E' o N J5 e9 (fn.step fs)
   have hr:=RDL.look (ks:=ks) (n:=n) (g5.mono s3.z);refine⟨_,Sum.inl n,s12.h _ _ g2,RD.intI r1,?_,fun v hv=>?_,fun hn=>?_⟩
   ·rw[GG,Qm,<- hxl,Ll];exact hz
   ·rw[YU] at hv;rcases hr with ⟨z1,_⟩|⟨v',d',z1,z2,z3⟩
    ·rw[z1] at hv;cases hv
    ·rw[z1] at hv;cases hv;rw[z2] at e;exact tail E _ _ v d' I3 (s3.ss I.b) z3 e
   ·rw[YU] at hn;rcases hr with ⟨_,z2⟩|⟨v',d',z1,z2,z3⟩
    ·rw[z2] at e;obtain⟨_,n0,nB⟩:=I3.ownG h rfl g1;have rr:=(g5.mono s3.z).putDs (ks:=ks) (n:=n) rv;have m:=I3.mutG (t':=.od (Jv ks n) (putDs ks ds n d)) (o':=dkO (Jv ks n) (putDs ks xs n z)) h rfl rfl g1 ⟨l,_,rfl,Jn,n0,nB,Jbl _ _ _ _ gk,rr⟩;rw[JdG ks xs n z hxl];exact tail _ _ _ z d m ⟨m.b,s3.z,(s3.ss I.b).n,m.h⟩ rv e
    ·rw[z1] at hn;cases hn
  ·cases e
 ·cases e
noncomputable def Wx(a:Ev)(ks:En->Option (List Sl))(x:Ev):Ev:=fun E=>(a E).bind fun s=>s.dt.bind fun p=>((ks E).bind Jdb).bind fun n=>((x E).bind sh?).bind fun d=>some (.sh ((lookP p.1 p.2 n).getD d))
def Jmz(ha:SE K C td ed)(hk:SA K C tk ks)(hx:SE K C tx ex):SE K C (Jfj td (Jks tk) tx) (Wx ed ks ex):=by
 intro B H0 H σ E r Q I e q;obtain⟨s,e1,e⟩:=bind_some e;obtain⟨p,e2,e⟩:=bind_some e;obtain⟨n,e3,e⟩:=bind_some e;obtain⟨t,e3,e4⟩:=bind_some e3;obtain rfl:=ZQ e4;obtain⟨d,e5,e⟩:=bind_some e;obtain⟨t',e5,e6⟩:=bind_some e5;obtain rfl:=Wm e6;cases e;refine ha B H0 H σ E s _ I e1 fun x H1 H1' s1 r1=>?_
 obtain⟨l0,xs0,rfl,h0,_,_⟩:=r1.dt e2;refine⟨l0,rfl,.inr ⟨_,.inl h0⟩,hk B H1 H1' σ E _ _ (I.step s1) e3 fun ws H2 H2' s2 r2=>?_⟩
 cases r2 with
 | cons a1 r2=>cases r2 with
  | cons a2 r2 =>
   cases r2;rw[RD.intI a1,RD.intI a2];refine⟨show 2<=Qt by decide,fun b hb=>?_⟩;have s0:=s1.trans s2;have s4:Step H H0 H H2 (upd H2' b (.tup [.int n.1,.int n.2])):=s0.trans ⟨.new hb,Same.refl _,fun _ _ e=>.inl e,s0.i.trans (.new hb)⟩;have s5:Step H1' H1 H1' H2 (upd H2' b (.tup [.int n.1,.int n.2])):=s2.trans ⟨.new hb,Same.refl _,fun _ _ e=>.inl e,s0.i.trans (.new hb)⟩;refine hx B H2 _ σ E _ _ (I.step s4) e5 fun z H3 H3' s3 r3=>?_
   obtain⟨l,xs,hl,h,_,rl⟩:=((r1.step s5).step s3).dt e2;cases hl;refine⟨_,.inr ⟨_,dtK n,b,.inl h,rfl,s3.h _ _ Jn,(V3 p.1 xs n).symm⟩,q _ _ _ (s4.trans s3) ?_⟩;rcases RDL.lookP (ks:=p.1) (n:=n) rl with ⟨z1,z2⟩|⟨v,d',z1,z2,z3⟩
   ·rw[z1,z2];exact r3
   ·rw[z1,z2];exact z3
end LE
namespace L2
open PySem PySem.Spec PyProof.Rows
end L2
namespace LE
open PySem L2 LR
end LE
namespace L2
open PySem PySem.Spec PyProof.Rows
def pgN(i:Nat){x:Str}(hN:X.N.Nodup)(hi:X.N[i]?=some x:=by rfl)(hx:Loc X.env.scope x:=by exact Or.inl rfl)(hf:X.fn x=true\/X.env.scope.names.lookup x=some .local:=by exact Or.inr rfl):PG X (.Name x pos) (U1 i):=Jo hN hi hx hf
def psN(i:Nat){x:Str}{e:GA}{te:TE}{pos':Pos}(hN:X.N.Nodup)(he:PE X e te)(hi:X.N[i]?=some x:=by rfl)(hx:Loc X.env.scope x:=by exact Or.inl rfl)(hs:swapsWith e (some (.Name x pos')) pos.line X.env=pure false:=by rfl)(hf:X.fn x=true\/X.env.scope.names.lookup x=some .local:=by first|exact .inl rfl|exact .inr rfl|assumption):PS X (.Assign [.Name x pos'] e pos) (JcD te (U1 i)):=UW hN hi hx he hs hf
def pxK(K:QE){a b:GA}{ta tb:TE}(ha:PE X a ta)(hb:PE X b tb)(hK:X.K=K:=by rfl)(hs:Jfr b:=by exact fun _ _=>rfl):PE X (.Subscript a b pos) (tOp (rIx K) ta tb):=JqZ (Jlr hK) ha hb hs
def piK(K:QE){tg l:GA}{tl:TE}(hl:PE X l tl)(hK:X.K=K:=by rfl):PI X tg l (JeI K tl):=Jl2 hK hl
def hrM{j k:Nat}{A:QS}(r:Room k A)(h:j<=k:=by decide):Room j A:=r.mono h
end L2
namespace LE
open PySem PyProof.Rows L2 LR
structure PB (P:Qz) (w:QT) (base:Q1):Prop where
section
variable{P:Qz}{w:QT}{K:QE}{mg:Str->Option Qe}{base:Q1}{x y q:Str}{st:Kv}{f:Qj}{fd:Q4}{k:Nat}{ps:List Str}{sp:Sp}
def JJ(Z:PB P w base)(F:Fun K x q st f fd)(o:FnOk P w K mg base CX0 k f fd ps sp)(m:mg y=some (.ref f))
 (h:∀(kV doc pm:Qe) (an:Option Qj) (cdv ct:Qe) (us:List Qe),us.length=ps.length->bindArgs (fnOf x q (US st) (Y7 st) (Jk st) .none kV doc pm an cdv ct) ⟨us,[]⟩=pure (ps.zip us)):Cal P w K mg base y k ps sp:=⟨f,fd,o,m,F.kp,F.binds h⟩
end
section
variable{P:Qz}{w:QT}{K:QE}{C:Qj}{mg:Str->Option Qe}{base:Q1}{x qual:Str}{st:Kv}{f:Qj}{fd:Q4}{N ps:List Str}{k n:Nat}{b:Es}
def okE(F:Fun K x qual st f fd)(S:FnScope N ps (Jk st))(hn:n=ps.length)
 (hb:∀(cdv:Qe) (A:QS) (outer:List Env) (s:Qi) (H:Hp) (E:XK),Room k (A.deeper (envOfC qual (Jk st) s.heap.objs.size f cdv))->(A.deeper (envOfC qual (Jk st) s.heap.objs.size f cdv)).units+64<cLine ->
  ∃t,PSs (Jes CX0 P w K mg base N qual (Jk st) f cdv A outer s H E).nox (Y7 st) t/\SS K C t b):FnOk P w K mg base CX0 (k+1) f fd ps (spE K C n (Yr N.length b)) :=
 F.ok S (fun vs H Q E h=>(JmH h).trans hn) fun cdv A outer s H vs Q E hr h=>(hb cdv A outer s H E hr hr.units).elim fun t q=>⟨t,q.1,Jlj q.2 h⟩
end
end LE
namespace L2
open PySem PySem.Spec PyProof.Rows
end L2
namespace LE
open PySem L2 LR
end LE
namespace L2
open PySem PySem.Spec PyProof.Rows
noncomputable def Jnq:List V->Hp->VK->Prop:=fun xs H Q=>∃l kvs,xs=[.ref l]/\Rd H l (.dK kvs)/\Q (.int kvs.length) H
def Jg2:J0 X (.builtin "len") Jnq:=by intro pins s σ H xs us Q I r h;obtain⟨l,kvs,rfl,e,q⟩:=h;obtain⟨u,rfl,rx⟩:=Uo r;cases rx;obtain⟨hl,hs,vs,kv,hd⟩:=Ja3 I.hok e;have hz:=kv.length;have h63:=WD;refine PySem.call_len_dict hs hd (by omega) ?_;rw[<- hz];exact⟨.int _,H,(I.tok _).tok _,⟨_,rfl⟩,q⟩
end L2
namespace LE
open PySem L2 LR
noncomputable def JiF(a:Ev):Ev:=fun E=>(a E).bind fun s=>s.dk.bind fun p=>some (.sh (.int (p.1.length:Nat)))
def JpA(ha:SE K C td ed):SE K C (tCB Jnq (Y5 td Vo)) (JiF ed):=by
 intro B H0 H σ E r Q I e q;obtain⟨s,e1,e⟩:=bind_some e;obtain⟨p,e2,e⟩:=bind_some e;cases e;refine ha B H0 H σ E _ _ I e1 fun x H2 H2' s2 r2=>?_
 obtain⟨l,xs,rfl,h,hl,rl⟩:=r2.dk s2.i e2;refine⟨l,_,rfl,h,?_⟩;have hx:xs.length=p.2.length:=rl.1;rw[show(((p.1.map Sum.inl).zip xs).length)=p.1.length by rw[GG,Qm];omega];exact q _ _ _ s2 (RD.int _)
end LE
end
open L2 LR
local macro_rules | `(tactic| walk_at "side")=>`(tactic| first | decide | exact⟨by decide,by decide,by decide⟩ | exact⟨by decide,by decide⟩ | (show(0:Int)<_;omega) | (show(0:Int)<_/\_<(1073741824:Int);omega) | exact Or.inl ⟨by omega,by omega⟩ | exact Or.inr ⟨by omega,by omega⟩ | assumption)
local macro_rules | `(tactic| walk_at "rd1")=>`(tactic| with_reducible first | refine Jpq ?_ | refine Jpi ?_ | refine Jpj ?_ | refine Jmd ?_ | refine Jmi ?_ | refine Jri ?_ | refine Jml ?_ | refine Jph ?_ | refine Jmc ?_ | refine Jpo ?_ | refine Jrg ?_ | refine Jgo ?_ | refine LR.Jgq ?_ | refine Jpr ?_ | refine JjY ?_ | refine JjX ?_ | refine Jme ?_ | refine Jmk ?_ | refine Jpt ?_ | refine Jr1 ?_ | refine Jrh ?_ | refine Jmb ?_ | refine Jmj ?_ | refine JjZ ?_ | refine Jj0 ?_ | refine Exists.intro _ (And.intro (LR.tru_bl _ _ _) ?_))
local macro_rules | `(tactic| walk_at "rd2")=>`(tactic| first |((with_reducible refine Jps (v:=?vv) ?hx ?_);(case hx=>exact rfl)) | (with_reducible refine Exists.intro _ (And.intro (Eq.refl (V.bl _)) ?_)))
local macro_rules | `(tactic| walk_at "rd")=>`(tactic| repeat (first | walk_at "rd1" | walk_at "rd2"))
noncomputable section
namespace LK
open PySem L2 LR LE
noncomputable def Uf:List Sl->Option Sl:=Yr 8 (Jh (Y0 1 (Y1 a0))
 (Jh (Jm 2 (J9 (aC (eC (.int 0)) (aC (eC (.int 0)) a0))))
 (Jh (UD (iV 0) (.tp (.cons (.nm 3) (.cons (.nm 4) .nil))) (Jh (Jm 5 (e2 Yz (Jb 3) (e2 fIx (Jb 2) (eC (.int 0)))))
 (Jh (Jm 6 (e2 WV (e2 Yz (Jb 4) (e2 fIx (Jb 2) (eC (.int 1)))) (Jb 5)))
 (Jh (Jm 7 (e2 Yz (e2 Yz (Jb 4) (e2 fIx (Jb 2) (eC (.int 1)))) (e2 JfS (Jb 6) (Jb 5))))
 (Jh (xIf (tB? (e2 fGt (Jb 7) (eC (.int 0)))) (YZ 1 (J9 (aC (e2 JR (e2 fIx (Jb 2) (eC (.int 0))) (Jb 7)) (aC (e2 JR (Jb 6) (eC (.int 1))) a0)))) JB)
 (Jh (YZ 1 (J9 (aC (Jb 3) (aC (Jb 6) a0))))
 (Jm 2 (J9 (aC (Jb 3) (aC (Jb 4) a0))))))))))
 (Y6 1))))
noncomputable def Yx:List Sl->Option Sl:=Yr 5 (Jh (Y0 1 (Y1 a0))
 (Jh (UD (iV 0) (.tp (.cons (.nm 2) (.cons (.nm 3) .nil))) (xIf (tAnd? (tTru? (Jb 1)) (tB? (e2 fEq (eF JbS (aC (e2 fIx (Jb 1) (e1 JeC (eC (.int 1)))) a0)) (Jb 2)))) (Jh (JmS 1 4 some)
 (YZ 1 (J9 (aC (e2 fIx (Jb 4) (eC (.int 0))) (aC (e2 JR (e2 fIx (Jb 4) (eC (.int 1))) (Jb 3)) a0))))) (xIf (tB? (e2 fGt (Jb 3) (eC (.int 0)))) (YZ 1 (J9 (aC (Jb 2) (aC (Jb 3) a0)))) JB)))
 (Y6 1)))
noncomputable def Yc:List Sl->Option Sl:=Yr 2 (Yh (Yi (Jc7 true (aC (e1 U6 (Jb 0)) a0)) (.tp (.cons (.nm 0) (.cons (.nm 1) .nil))) yes? (J9 (aC (e2 JR (e2 fIx (Jb 1) (eC (.int 0))) (e2 VP (e2 VP (eC (.int 2)) (Jb 2)) (Jb 0))) (aC (e2 JR (e2 fIx (Jb 1) (eC (.int 1))) (Jb 2)) a0))) [none,none,some 1]))
noncomputable def Ue:List Sl->Option Sl:=Yr 1 (Yh (Yi (Ji6 true (aC (e1 U6 (Jb 0)) (aC (eSl (e1 U6 (Jb 0)) (some (eC (.int 1))) none) a0))) (.tp (.cons (.nm 0) (.cons (.nm 1) .nil))) yes? (e2 Yz (e2 fIx (Jb 1) (eC (.int 0))) (eF JbS (aC (Jb 0) a0))) [none,none]))
noncomputable def JX:List Sl->Option Sl:=Yr 1 (Yh (eF JfR (aC (e2 JR (Yi (iE true (e1 U6 (Jb 0))) (.tp (.cons (.nm 0) (.cons (.nm 1) .nil))) yes? (Jb 1) [none,none]) (eU 1 Ue (aC (Jb 0) a0))) a0)))
noncomputable def Ye:List Sl->Option Sl:=Yr 5 (Jh (Jm 2 (eF ZK (aC (e1 U6 (Jb 0)) a0)))
 (Jh (Jm 3 (Jb 1))
 (Jh (YB (tAnd? (tB? (e2 fGt (Jb 3) (eC (.int 0)))) (tTru? (e1 U6 (Jb 2)))) (Jh (Jm 4 (eF JaL (aC (Jb 3) (aC (eU 1 JX (aC (Jb 2) a0)) a0))))
 (Jh (Jm 2 (eF ZK (aC (eU 1 Yx (aC (eU 2 Yc (aC (Jb 2) (aC (e1 JeC (Jb 4)) a0))) a0)) a0)))
 (Jfq (fun i j=>i-j) 3 (Jb 4)))) 1000000)
 (Y6 2))))
noncomputable def YO:List Sl->Option Sl:=Yr 2 (Yh (eF Jlb (aC (Yi (iE true (e1 U6 (Jb 0))) (.tp (.cons (.nm 0) (.cons (.nm 1) .nil))) yes? (Jeu fLe fLt (Jb 0) (Jb 2) (e2 JR (Jb 0) (Jb 1))) [none,none,some 1]) a0)))
noncomputable def Ug:List Sl->Option Sl:=Yr 2 (Yh (eIf (tAnd? (tTru? (eU 2 YO (aC (Jb 0) (aC (e2 Yz (Jb 1) (eC (.int 1))) a0)))) (tNot? (tTru? (eU 2 YO (aC (Jb 0) (aC (Jb 1) a0)))))) (eC (.int 1)) (eC (.int 0))))
noncomputable def Ua:List Sl->Option Sl:=Yr 6 (Jh (Jm 1 (eU 2 Ye (aC (Jb 0) (aC (eC (.int 1)) a0))))
 (Jh (Y0 2 Ja5)
 (Jh (UD (Jc7 false (aC (e1 U6 (Jb 0)) a0)) (.tp (.cons (.nm 3) (.cons (.nm 4) .nil))) (Jh (Jm 5 (e2 Yz (e2 Yz (eF JbS (aC (Jb 4) a0)) (eC (.int 1))) (e2 VP (eC (.int 2)) (Jb 3))))
 (Jbs 2 (Jb 5) (e2 JR (Jev (Jb 2) (Jb 5) (eC (.int 0))) (eC (.int 1))))))
 (JgS 2 (Yh (Yi (JeH (Jb 2)) (.tp (.cons (.nm 0) (.cons (.nm 1) .nil))) yes? (J9 (aC (Jb 0) (aC (Jb 1) (aC (eU 2 Ug (aC (Jb 2) (aC (Jb 0) a0))) a0)))) [none,none,some 1]))))))
noncomputable def YX:List Sl->Option Sl:=Yr 5 (Jh (Y0 1 (Y1 a0))
 (Jh (Jm 2 (Jb 0))
 (Jh (Jm 3 (eC (.int 0)))
 (Jh (YB (tTru? (e1 U6 (Jb 2))) (Jh (Jm 4 (eU 1 JX (aC (Jb 2) a0)))
 (Jh (Jfq (fun i j=>i+j) 3 (Jb 4))
 (Jh (Jm 2 (eU 2 Ye (aC (Jb 2) (aC (e2 Yz (Jb 4) (eC (.int 1))) a0))))
 (Jh (Jd9 1 (Yi (iE true (eU 1 Ua (aC (Jb 2) a0))) (.tp (.cons (.nm 0) (.cons (.nm 1) (.cons (.nm 2) .nil)))) (tB? (e2 fGt (Jb 1) (Jb 2))) (J9 (aC (Jb 3) (aC (Jb 0) (aC (e2 Yz (Jb 1) (Jb 2)) a0)))) [none,none,none,some 3]))
 (Jm 2 (eU 2 Ye (aC (Jb 2) (aC (eC (.int 1)) a0)))))))) 1000000)
 (Y6 1)))))
noncomputable def JK:List Sl->Option Sl:=Yr 5 (Jh (Y0 1 (Y1 a0))
 (Jh (UD (iE false (eU 1 YX (aC (Jb 0) a0))) (.tp (.cons (.nm 2) (.cons (.nm 3) (.cons (.nm 4) .nil)))) (Jd9 1 (e2 JeD (Y1 (aC (J9 (aC (Jb 2) (aC (Jb 3) a0))) a0)) (Jb 4))))
 (Y6 1)))
noncomputable def Yg:List Sl->Option Sl:=Yr 8 (Jh (Jm 2 (eU 1 JK (aC (Jb 0) a0)))
 (Jh (Jm 3 (eU 1 JK (aC (Jb 1) a0)))
 (Jh (xIf (tB? (e2 fNe (Yi (iE true (Jb 2)) (.tp (.cons (.nm 0) (.cons (.nm 1) .nil))) yes? (Jb 0) [none,none]) (Yi (iE true (Jb 3)) (.tp (.cons (.nm 0) (.cons (.nm 1) .nil))) yes? (Jb 0) [none,none]))) (Yh (eC .non)) JB)
 (Jh (Y0 4 Ja5)
 (Jh (UD (Ji6 false (aC (Jb 2) (aC (Jb 3) a0))) (.tp (.cons (.nm 5) (.cons (.nm 6) .nil))) (Jh (Jm 7 (e2 Yz (e2 fIx (Jb 6) (eC (.int 1))) (e2 fIx (Jb 5) (eC (.int 1)))))
 (Jea fNe 4 (e2 fIx (Jb 5) (eC (.int 0))) (Jb 7) (Jb 7) (Yh (eC .non)) JB)))
 (Yh (JbP (Jb 4))))))))
noncomputable def J8:List Sl->Option Sl:=Yr 5 (Jh (Jm 2 (eU 2 Yg (aC (Jb 0) (aC (Jb 1) a0))))
 (Jh (xIf (tB? (e2 fIs (Jb 2) (eC .non))) (Yh (eC .non)) JB)
 (Jh (Jm 3 (eU 1 Uf (aC (Jb 2) a0)))
 (Jh (Y0 4 (Yi (Ji6 true (aC (Jb 3) (aC (eSl (Jb 3) (some (eC (.int 1))) none) a0))) (.tp (.cons (.nm 0) (.cons (.nm 1) .nil))) yes? (J9 (aC (e2 fIx (Jb 0) (eC (.int 0))) (aC (e2 Yz (e2 fIx (Jb 0) (eC (.int 1))) (e2 fIx (Jb 1) (eC (.int 1)))) a0))) [none,none]))
 (Jh (Jd9 4 (Yi (iE true (eSl (Jb 3) (some (e1 JeC (eC (.int 1)))) none)) (.tp (.cons (.nm 0) (.cons (.nm 1) .nil))) yes? (J9 (aC (eC .non) (aC (Jb 1) a0))) [none,none]))
 (Yh (Yi (iE true (Jb 4)) (.nm 0) (tB? (e2 fNe (e2 fIx (Jb 0) (eC (.int 1))) (eC (.int 0)))) (Jb 0) [none])))))))
noncomputable def Yv:List Sl->Option Sl:=Yr 2 (Yh (eIf (tB? (e2 fIs (Jb 1) (eC .non))) (Jb 0) (eF JaL (aC (Jb 0) (aC (Jb 1) a0)))))
noncomputable def Yt:List Sl->Option Sl:=Yr 1 (xIf (tAnd? (tB? (e2 YQ (Jb 0) (eC .non))) (tB? (e2 fLt (Jb 0) (eC (.int 1))))) Vr JB)
noncomputable def JT:List Sl->Option Sl:=Yr 7 (Jh (JgR (eU 1 Yt (aC (Jb 2) a0)))
 (Jh (Jm 3 (eU 2 Yg (aC (Jb 0) (aC (Jb 1) a0))))
 (Jh (xIf (tB? (e2 fIs (Jb 3) (eC .non))) (Yh (eC .non)) JB)
 (Jh (Jm 4 (eC (.int 0)))
 (Jh (UD (iE false (eSl (Jb 3) none (some (eC (.int 1))))) (.tp (.cons (.nm 5) (.cons (.nm 6) .nil))) (Jm 4 (e2 WV (Jb 6) (eU 2 Yv (aC (Jb 5) (aC (Jb 2) a0))))))
 (Yh (eIf (tTru? (eF Jk9 (aC (Yi (iE true (Jb 3)) (.tp (.cons (.nm 0) (.cons (.nm 1) .nil))) yes? (e2 fEq (Jb 1) (e2 JfS (Jb 2) (eU 2 Yv (aC (Jb 0) (aC (Jb 3) a0))))) [none,none,some 4,some 2]) a0))) (Jb 4) (eC .non))))))))
noncomputable def JY:List Sl->Option Sl:=Yr 8 (Jh (Jm 3 (eC (.int 0)))
 (Jh (Y0 4 Ja5)
 (Jh (UD (iR1 (aC (eF U8 (aC (Jb 0) a0)) a0)) (.nm 5) (Jh (Jm 6 (e2 fIx (e2 fIx (Jb 0) (Jb 5)) (eC (.int 0))))
 (Jh (xIf (tB? (e2 YQ (Jb 2) (eC .non))) (Jm 6 (eF JaL (aC (Jb 6) (aC (Jb 2) a0)))) JB)
 (Jh (Jm 7 (e2 Yz (e2 fIx (e2 fIx (Jb 1) (Jb 5)) (eC (.int 1))) (e2 fIx (e2 fIx (Jb 0) (Jb 5)) (eC (.int 1)))))
 (Jh (xIf (tB? (e2 fNe (e2 YC (Jb 7) (Jb 6)) (eC (.int 0)))) (Yh (eC .non)) JB)
 (Jh (Jm 3 (e2 WV (Jb 7) (Jb 6)))
 (Jbs 4 (Jb 3) (eC (.bl true)))))))))
 (Jh (xIf (tB? (e2 fGt (JiF (Jb 4)) (eC (.int 1)))) (Yh (eC .non)) JB)
 (Y6 3)))))
noncomputable def Yy:List Sl->Option Sl:=Yr 2 (Yh (eF ZK (aC (eU 2 Yc (aC (Jb 0) (aC (Jb 1) a0))) a0)))
noncomputable def Ys:List Sl->Option Sl:=Yr 2 (Yh (eF JbS (aC (Yi (iE true (e1 U6 (Jb 0))) (.tp (.cons (.nm 0) (.cons (.nm 1) .nil))) yes? (eF Jhg (aC (eC (.int 0)) (aC (eF JaL (aC (Jb 1) (aC (e2 Yz (Jb 2) (Jb 0)) a0))) a0))) [none,none,some 1]) a0)))
noncomputable def YW:List Sl->Option Sl:=Yr 8 (Jh (Y0 2 (Y1 a0))
 (Jh (Jm 3 (eC (.int 0)))
 (Jh (UD (Jc7 false (aC (Jb 1) a0)) (.tp (.cons (.nm 4) (.cons (.nm 5) .nil))) (Jh (Jm 6 (eU 2 Ys (aC (Jb 0) (aC (Jb 5) a0))))
 (Jh (Jm 7 (e2 Yz (Jb 6) (Jb 3)))
 (Jh (YZ 2 (J9 (aC (e2 Yz (e2 JR (Jb 5) (e2 VP (eC (.int 2)) (Jb 4))) (Jb 7)) (aC (e2 JR (Jb 7) (eC (.int 1))) a0))))
 (Jm 3 (Jb 6))))))
 (Y6 2))))
noncomputable def Y9:List Sl->Option Sl:=Yr 5 (Jh (xIf (tB? (e2 fGt (e2 JR (eF U8 (aC (e1 U6 (Jb 0)) a0)) (eF JbS (aC (Yi (iE true (Jb 1)) (.tp (.cons (.nm 0) (.cons (.nm 1) .nil))) yes? (Jb 1) [none,none]) a0))) (eC (.int 30)))) Vr JB)
 (Jh (Y0 2 (Yi (iE true (e1 U6 (Jb 0))) (.tp (.cons (.nm 0) (.cons (.nm 1) .nil))) yes? (e2 JR (Jb 0) (Jb 1)) [none,none]))
 (Jh (UD (iV 1) (.tp (.cons (.nm 3) (.cons (.nm 4) .nil))) (Jd9 2 (e2 JeD (Y1 (aC (Jb 3) a0)) (Jb 4))))
 (Yh (eF ZK (aC (eU 2 YW (aC (Jb 0) (aC (eF Zf (aC (Jb 2) a0)) a0))) a0))))))
noncomputable def J3:List Sl->Option Sl:=Yr 5 (Jh (Jm 1 (eC .non))
 (Jh (UD (iV 0) (.tp (.cons (.nm 2) (.cons (.nm 3) (.cons (.nm 4) .nil)))) (Jh (xIf (tOr? (tB? (e2 fLt (Jb 2) (eC (.int 1)))) (tB? (e2 fLt (Jb 4) (eC (.int 1))))) Vr JB)
 (Jh (xIf (tAnd? (tB? (e2 YQ (Jb 1) (eC .non))) (tB? (e2 JiN (J9 (aC (Jb 2) (aC (Jb 3) a0))) (Jb 1)))) Vr JB)
 (Jm 1 (J9 (aC (Jb 2) (aC (Jb 3) a0)))))))
 (xIf (tB? (e2 fGt (eF JbS (aC (Yi (iE true (Jb 0)) (.tp (.cons (.nm 0) (.cons (.nm 1) (.cons (.nm 2) .nil)))) yes? (Jb 2) [none,none,none]) a0)) (eC (.int 30)))) Vr JB)))
noncomputable def JU:List Sl->Option Sl:=Yr 8 (Jh (JgR (eU 1 J3 (aC (Jb 0) a0)))
 (Jh (Y0 1 Ja5)
 (Jh (JkG (iV 0) (.tp (.cons (.nm 2) (.cons (.nm 3) (.cons (.nm 4) .nil)))) 1 (Jb 2) (J9 (aC (Jb 3) (aC (Jb 4) a0))))
 (Jh (Jm 5 (Jew (Jb 1)))
 (Jh (Jm 6 (eF ZK (aC (Y1 a0) a0)))
 (Jh (UD (Jn2 false (aC (JiG (aC (e2 JR (Y1 (aC (eC (.int 0)) a0)) (Jb 5)) (aC (Jb 5) a0))) a0)) (.tp (.cons (.nm 7) (.cons (.nm 2) .nil))) (Jm 6 (eU 2 Yy (aC (eU 2 Y9 (aC (Jb 6) (aC (JkZ (Jb 1) (Jb 2)) a0))) (aC (e2 Yz (e2 Yz (Jb 2) (Jb 7)) (eC (.int 1))) a0)))))
 (Y6 6)))))))
noncomputable def JP:List Sl->Option Sl:=Yr 6 (Jh (Jm 2 (Y1 a0))
 (Jh (UD (iV 0) (.tp (.cons (.nm 3) (.cons (.nm 4) (.cons (.nm 5) .nil)))) (xIf (tB? (e2 fEq (Jb 3) (Jb 1))) (Jm 2 (e2 JR (Jb 2) (e2 JeD (Y1 (aC (Jb 4) a0)) (Jb 5)))) JB))
 (Y6 2)))
noncomputable def Yu:List Sl->Option Sl:=Yr 6 (Jh (Jm 2 (JbQ (Yi (iE true (Jb 0)) (.nm 0) yes? (e2 fIx (Jb 0) (eC (.int 0))) [none])))
 (Jh (xIf (tB? (e2 fNe (Jb 2) (JbQ (Yi (iE true (Jb 1)) (.nm 0) yes? (e2 fIx (Jb 0) (eC (.int 0))) [none])))) (Yh (eC (.bl false))) JB)
 (Jh (UD (iV 2) (.nm 3) (Jh (Jm 4 (eU 2 JP (aC (Jb 0) (aC (Jb 3) a0))))
 (Jh (Jm 5 (eU 2 JP (aC (Jb 1) (aC (Jb 3) a0))))
 (xIf (tOr? (tB? (e2 fNe (eF U8 (aC (Jb 4) a0)) (eF U8 (aC (Jb 5) a0)))) (tB? (e2 fGt (JfL (Yi (iR1 (aC (eF U8 (aC (Jb 4) a0)) a0)) (.nm 0) yes? (e2 Yz (e2 fIx (Jb 1) (Jb 0)) (e2 fIx (Jb 2) (Jb 0))) [none,some 5,some 4])) (eC (.int 1))))) (Yh (eC (.bl false))) JB))))
 (Yh (eC (.bl true))))))
noncomputable def J4:List Sl->Option Sl:=Yr 8 (Jh (Y0 3 (eF Ja6 (aC (Jb 0) a0)))
 (Jh (JkF (.tp (.cons (.nm 4) (.cons (.nm 5) (.cons (.nm 6) .nil)))) (e2 fIx (Jb 3) (Jb 2)))
 (Jh (Jbt 3 (Jb 2))
 (Jh (xIf (tB? (e2 fEq (Jb 1) (eC (.int 1)))) (YZ 3 (J9 (aC (e2 JR (Jb 4) (eC (.int 1))) (aC (Jb 5) (aC (Jb 6) a0))))) JB)
 (Jh (xIf (tB? (e2 fEq (Jb 1) (eC (.int 2)))) (YZ 3 (J9 (aC (eF Jhg (aC (eC (.int 1)) (aC (e2 Yz (Jb 4) (eC (.int 1))) a0))) (aC (Jb 5) (aC (Jb 6) a0))))) JB)
 (Jh (xIf (tB? (e2 fEq (Jb 1) (eC (.int 3)))) (YZ 3 (J9 (aC (Jb 4) (aC (e2 JR (Jb 5) (eC (.int 1))) (aC (Jb 6) a0))))) JB)
 (Jh (xIf (tB? (e2 fEq (Jb 1) (eC (.int 4)))) (YZ 3 (J9 (aC (Jb 4) (aC (Jb 5) (aC (e2 JR (Jb 6) (eC (.int 1))) a0))))) JB)
 (Jh (xIf (tB? (e2 fEq (Jb 1) (eC (.int 6)))) (Jh (YZ 3 (J9 (aC (Jb 4) (aC (e2 JR (Jb 5) (eC (.int 1))) (aC (eC (.int 1)) a0)))))
 (YZ 3 (J9 (aC (Jb 4) (aC (Jb 5) (aC (e2 Yz (Jb 6) (eC (.int 1))) a0)))))) JB)
 (Jh (Y0 7 ZC)
 (Jh (JmR 3 (UD (iV 3) (.tp (.cons (.nm 4) (.cons (.nm 5) (.cons (.nm 6) .nil)))) (JaF 7 (aC (Jb 4) (aC (Jb 5) a0)) (e2 JR (Wx (Jb 7) (aC (Jb 4) (aC (Jb 5) a0)) (eC (.int 0))) (Jb 6)))))
 (Yh (Yi (iE true (ZE (Jb 7))) (.tp (.cons (.nm 0) (.cons (.nm 1) .nil))) (tB? (e2 fGt (Jex (Jb 2) (J9 (aC (Jb 0) (aC (Jb 1) a0)))) (eC (.int 0)))) (J9 (aC (Jb 0) (aC (Jb 1) (aC (Jex (Jb 2) (J9 (aC (Jb 0) (aC (Jb 1) a0)))) a0)))) [none,none,some 7]))))))))))))
noncomputable def JA:List Sl->Option Sl:=Yr 2 (Jh (xIf (tB? (e2 fLt (Jb 1) (eF U8 (aC (Jb 0) a0)))) (Yh (e2 fIx (Jb 0) (Jb 1))) JB)
 (Yh (eC (.int 0))))
noncomputable def Yk:List Sl->Option Sl:=Yr 7 (Jh (Y0 3 ZC)
 (Jh (UD (iR1 (aC (Jb 1) a0)) (.nm 4) (Jh (Jm 5 (e2 JR (eC (.int 1)) (e2 YC (eU 2 JA (aC (Jb 0) (aC (e2 JR (eC (.int 2)) (e2 VP (eC (.int 2)) (Jb 4))) a0))) (Jb 2))))
 (Jh (Jm 6 (e2 Yz (e2 YC (eU 2 JA (aC (Jb 0) (aC (e2 JR (eC (.int 3)) (e2 VP (eC (.int 2)) (Jb 4))) a0))) (e2 JR (e2 VP (eC (.int 4)) (Jb 2)) (eC (.int 1)))) (e2 VP (eC (.int 2)) (Jb 2))))
 (JaF 3 (aC (Jb 5) (aC (Jb 6) a0)) (e2 JR (e2 JR (Wx (Jb 3) (aC (Jb 5) (aC (Jb 6) a0)) (eC (.int 0))) (eC (.int 1))) (e2 YC (e2 WV (eU 2 JA (aC (Jb 0) (aC (e2 JR (eC (.int 2)) (e2 VP (eC (.int 2)) (Jb 4))) a0))) (Jb 2)) (eC (.int 2))))))))
 (Yh (Yi (iE true (ZE (Jb 3))) (.tp (.cons (.nm 0) (.cons (.nm 1) .nil))) yes? (J9 (aC (Jb 0) (aC (Jb 1) (aC (Jex (Jb 2) (J9 (aC (Jb 0) (aC (Jb 1) a0)))) a0)))) [none,none,some 3]))))
noncomputable def JeB:List Sl->Option Sl:=Yr 13 (Jh (Jm 1 (eU 2 JA (aC (Jb 0) (aC (eC (.int 0)) a0))))
 (Jh (Jm 2 (e2 fIx (Y1 (aC (eC (.int 4)) (aC (eC (.int 100)) (aC (e2 JiQ (eC (.int 10)) (eC (.int 28))) a0)))) (e2 YC (e2 Uu (Jb 1) (eC (.int 12))) (eC (.int 3)))))
 (Jh (Jm 3 (eU 3 Yk (aC (Jb 0) (aC (e2 JR (eC (.int 1)) (e2 YC (Jb 1) (eC (.int 12)))) (aC (Jb 2) a0)))))
 (Jh (Y0 4 (Y1 a0))
 (Jh (UD (iV 3) (.tp (.cons (.nm 5) (.cons (.nm 6) (.cons (.nm 7) .nil)))) (YZ 4 (J9 (aC (Jb 5) (aC (e2 JR (e2 JR (Jb 6) (e2 VP (Jb 5) (e2 YC (e2 Uu (Jb 1) (eC (.int 36))) (eC (.int 5))))) (e2 YC (e2 Uu (Jb 1) (eC (.int 180))) (eC (.int 3)))) (aC (Jb 7) a0))))))
 (Jh (Jm 8 (e2 YC (eU 2 JA (aC (Jb 0) (aC (eC (.int 1)) a0))) (eC (.int 9))))
 (Jh (xIf (tB? (e2 fEq (Jb 8) (eC (.int 8)))) (Y0 4 (Y1 a0)) JB)
 (Jh (xIf (tB? (e2 fLt (Jb 8) (eC (.int 7)))) (Y0 4 (eU 3 J4 (aC (Jb 4) (aC (Jb 8) (aC (e2 YC (e2 Uu (eU 2 JA (aC (Jb 0) (aC (eC (.int 1)) a0))) (eC (.int 9))) (eF U8 (aC (Jb 4) a0))) a0))))) JB)
 (Jh (Jm 9 (eU 2 Yu (aC (Jb 3) (aC (Jb 4) a0))))
 (Jh (Jm 10 (eU 1 JU (aC (Jb 3) a0)))
 (Jh (Jm 11 (eU 1 JU (aC (Jb 4) a0)))
 (Jh (Jm 12 (e2 fIx (Y1 (aC (eC .non) (aC (eC (.int 1)) (aC (eC (.int 2)) (aC (e2 JR (eC (.int 1)) (e2 YC (e2 Uu (Jb 1) (eC (.int 7))) (Jb 2))) a0))))) (e2 YC (e2 Uu (Jb 1) (eC (.int 540))) (eC (.int 4)))))
 (Jh (xIf (tTru? (Jb 9)) (Jh (xIf (tB? (e2 fNe (eU 3 JT (aC (Jb 10) (aC (Jb 11) (aC (Jb 12) a0)))) (eU 3 JY (aC (Jb 3) (aC (Jb 4) (aC (Jb 12) a0)))))) (Yh (eC (.bl false))) JB)
 (Yh (Jhd (Jhe "list" (eU 2 J8 (aC (Jb 10) (aC (Jb 11) a0)))) (Jhe "list" (eU 2 J8 (aC (Jb 11) (aC (Jb 10) a0))))))) JB)
 (Jh (xIf (tOr? (tB? (e2 YQ (eU 3 JT (aC (Jb 10) (aC (Jb 11) (aC (Jb 12) a0)))) (eC .non))) (tB? (e2 YQ (eU 3 JT (aC (Jb 11) (aC (Jb 10) (aC (Jb 12) a0)))) (eC .non)))) (Yh (eC (.bl false))) JB)
 (Yh (Jhd (e2 fIs (eU 2 J8 (aC (Jb 10) (aC (Jb 11) a0))) (eC .non)) (e2 fIs (eU 2 J8 (aC (Jb 11) (aC (Jb 10) a0))) (eC .non))))))))))))))))))
end LK
end
namespace LK
open PySem L2 LR LE
local macro_rules | `(tactic| omega)=>`(tactic| first | lia | omega (config:={}))
local macro_rules | `(tactic| walk_at "sd")=>`(tactic| first | omega (config:={}) | assumption | (simp only[Qv,Qm,LY,Qr,GS,Q0];omega (config:={})))
local macro_rules | `(tactic| walk_at "ev")=>`(tactic| simp -implicitDefEqProofs (disch:=walk_at "sd") only[Yr,Jgw,Int.reduceToNat,Qr,GS,Ms,Xd,Xx,Nat.reduceLeDiff,Gr,Nat.zero_lt_succ,Nat.succ_lt_succ_iff,Mx,GF,Gk,Gi,L4,L5,Ry,Rz,Qm,LY,List.length_set,QK,Lx,Option.bind_none,Option.map_none,if_true,if_false,ite_true,ite_false,decide_true,decide_false,Bool.not_true,Bool.not_false,Bool.and_true,Xe,reduceIte,reduceCtorEq,G7,Qf,Ke,if_pos,
 Jh,xIf,Yh,Y6,JB,Y0,Jm,JkF,JgR,YZ,Jd9,JmS,Jbt,Jfq,Ja5,ZC,JaF,Jex,Wx,ZE,Sl.dt,pr?,Jdb,JkZ,Jev,Jbs,JgS,JeH,JbP,Jew,JbQ,JfL,JiF,Jea,ifB,JiG,Jle,Sl.dk,int?,JmR,Jll,UD,tB?,tTru?,tAnd?,tOr?,tNot?,JpU,e2,e1,Jb,eF,eC,aC,a0,eU,Zj,Sl.pass,J9,Y1,ZL,Sl.frz,Jhd,eIf,Jeu,sh?,bool?,keep?,Jhe,tyN,JoH,JmA,JmB,Jk2,Jk3,
 Jqm,Jlg,JiP,Jlf,Jld,JiM,Jli,Jlh,Jk6,Jk7,Jk8,JfP,JnW,JnV,JnX,JnU,Jqp,Jqo,Jqr,Jqn,Jqq,Ja6,Jhg,JaL,U6,Sl.q,Sl.r,Sl.m,Sl.d,Sl.it,fEq,fNe,JiI,JnT,fIs,YQ,Jhr,Jhp,Jhs,Jhq,iE,iV,iR1,Yi,Wc,Ji6,Jn2,Jc7,Zf,JfR,ZR,eSl,ZD,fSl,Jb3,Joi,Jh6,Jqa,JkN,Jh7,JrO,eq_self])
noncomputable section
def WE(ns:List Int)(k:Int)(hk:0<=k):JA [.sh (.fz (ns.map .int)),.sh (.int k)]=some (.sh (.int (cell ns k))):=by
 unfold JA;walk_at "ev"
 by_cases h:k<(ns.length:Int)
 ·simp only[h,Uq,JcQ hk h];walk_at "ev"
 ·simp only[h,Jir h];walk_at "ev"
def Good.cons'(g:Good (p::ps)):Good ps:=⟨fun i q e=>g.one (i+1) q (by simpa using e),fun i q r e1 e2=>g.gap (i+1) q r (by simpa using e1) (by simpa using e2)⟩
def Good.all(g:Good ps):∀p∈ps,1<=p.2:=fun p hp=>by obtain⟨i,hi,e⟩:=GU.mp hp;exact g.one i p (by simp[hi,e])
theorem Good.first:∀{ps:List Pr},Good (p::ps)->∀q∈ps,p.1+p.2<q.1
 | [],_,q,hq=>nomatch hq
 | r::ps,g,q,hq=>by
  have h1:=g.gap 0 p r rfl rfl;rcases Qk.mp hq with z|z
  ·rw[z];exact h1
  ·have h2:=Good.first (Good.cons' g) q z
   have h3:=g.one 1 r rfl;omega
theorem Good.pw:∀{ps:List Pr},Good ps->ps.Pairwise fun p q=>p.1+p.2<q.1
 | [],_=>.nil
 | p::ps,g=>.cons (Good.first g) (Good.pw (Good.cons' g))
def Jig{α:Type}{xs:List α}{x:α}(h:xs[xs.length-1]?=some x):atI xs (-1)=some x:=by
 have hl:=(Qq.mp h).1;unfold atI ixN;rw[if_neg (by omega),if_pos (by omega)]
 have:((-1:Int)+(xs.length:Int)).toNat=xs.length-1:=by omega
 rw[this];exact h
def U7(p:Pr):fIx (.sh (prE p)) (.sh (.int 0))=some (.sh (.int p.1)):=rfl
def Y2(p:Pr):fIx (.sh (prE p)) (.sh (.int 1))=some (.sh (.int p.2)):=rfl
noncomputable def Us:List Pr->List Int
 | []=>[]
 | [_]=>[]
 | p::q::r=>(q.1-(p.1+p.2))::Us (q::r)
theorem Ja9:∀ps:List Pr,Us ps=(Lu ps (ps.drop 1)).map fun pq=>pq.2.1-(pq.1.1+pq.1.2)
 | []=>rfl
 | [_]=>rfl
 | p::q::r=>by rw[Us,Ja9 (q::r)];rfl
theorem Ja8:∀ps:List Pr,(Us ps).length=ps.length-1
 | []=>rfl
 | [_]=>rfl
 | p::q::r=>by rw[Us,Qr,Ja8 (q::r)];simp
def JcZ{α:Type}(xs:List α):Zy xs (some 1) none=xs.drop 1:=by
 unfold Zy;have e:HT.sIx xs.length 0 (some 1)=min 1 xs.length:=rfl;rw[e,show HT.sIx xs.length xs.length none=xs.length from rfl]
 cases xs with
 | nil=>rfl
 | cons x xs=>simp
def Jor(ps:List Pr)(h:ps.length<=1000):Ue [.sh (.row (ps.map prE))]=some (.own ((Us ps).map .int)):=by
 unfold Ue;walk_at "ev";rw[JcZ,<- Xf,VD];walk_at "ev";have hz:(Lu ps (ps.drop 1)).length<=16777216:=by rw[GG];omega
 rw[if_pos hz,JM (g:=fun pq=>D.int (pq.2.1-(pq.1.1+pq.1.2)))]
 ·walk_at "ev";rw[Ja9,QJ];rfl
 ·intro pq _;walk_at "ev";rw[U7];walk_at "ev";rw[UT (ns:=[pq.1.1,pq.1.2]) rfl];walk_at "ev";simp
def JcR{α:Type}{xs:List α}{k:Nat}{x:α}(h:xs[k]?=some x):atI xs (k:Int)=some x:=by obtain⟨h1,h2⟩:=Qq.mp h;rw[U3 h1,h2]
def Good.mk'(h1:1<=p.2)(h2:∀q,ps[0]?=some q->p.1+p.2<q.1)(g:Good ps):Good (p::ps):=by
 refine⟨fun i q e=>?_,fun i q r e1 e2=>?_⟩
 ·cases i with
  | zero=>simp at e;subst e;exact h1
  | succ i=>exact g.one i q (by simpa using e)
 ·cases i with
  | zero=>simp at e1;subst e1;exact h2 r (by simpa using e2)
  | succ i=>exact g.gap i q r (by simpa using e1) (by simpa using e2)
noncomputable def byF(k:Int)(ps:List Pr):List Pr:=ps.mapIdx fun i p=>(p.1+2*k*(i:Int),p.2+k)
def UQ(k:Int)(ps:List Pr):(byF k ps).length=ps.length:=by unfold byF;rw[List.length_mapIdx]
def JbF{k:Int}{ps:List Pr}{i:Nat}{x:Pr}(e:(byF k ps)[i]?=some x):∃p,ps[i]?=some p/\x=(p.1+2*k*(i:Int),p.2+k):=by unfold byF at e;rw[QZ,GD] at e;obtain⟨p,h,rfl⟩:=e;exact⟨p,h,rfl⟩
def JfA(a b:Int)(ps:List Pr):byF a (byF b ps)=byF (a+b) ps:=by
 refine GX fun i=>?_
 unfold byF;rw[QZ,QZ,QZ,KP]
 cases ps[i]? with
 | none=>rfl
 | some p=>show some (p.1+2*b*(i:Int)+2*a*(i:Int),p.2+b+a)=some (p.1+2*(a+b)*(i:Int),p.2+(a+b));rw[My,R8];congr 2 <;> omega
def W9(ps:List Pr):byF 0 ps=ps:=by
 refine GX fun i=>?_
 unfold byF;rw[QZ]
 cases ps[i]? with
 | none=>rfl
 | some p=>simp
structure Wide (c:Int) (ps:List Pr):Prop where
 one:∀(i:Nat) (p:Pr),ps[i]?=some p->c<=p.2
 gap:∀(i:Nat) (p q:Pr),ps[i]?=some p->ps[i+1]?=some q->c<=q.1-(p.1+p.2)
def Wide.good(h:1<=c)(w:Wide c ps):Good ps:=⟨fun i p e=>by have:=w.one i p e;omega,fun i p q e1 e2=>by have:=w.gap i p q e1 e2;omega⟩
def Wide.bys{c k:Int}{ps:List Pr}(w:Wide c ps):Wide (c+k) (byF k ps):=by
 refine⟨fun i x e=>?_,fun i x y e1 e2=>?_⟩
 ·obtain⟨p,h,rfl⟩:=JbF e;have:=w.one i p h;dsimp only;omega
 ·obtain⟨p,h1,rfl⟩:=JbF e1;obtain⟨q,h2,rfl⟩:=JbF e2;have:=w.gap i p q h1 h2;have em:2*k*((i+1:Nat):Int)=2*k*(i:Int)+2*k:=by rw[MJ,My];simp
  dsimp only;rw[em];omega
def Wide.cons(w:Wide c (p::ps)):Wide c ps:=⟨fun i q e=>w.one (i+1) q (by simpa using e),fun i q r e1 e2=>w.gap (i+1) q r (by simpa using e1) (by simpa using e2)⟩
noncomputable def clF:Pr->List Pr->List Pr
 | cur,[]=>[cur]
 | cur,p::r=>if cur.1+cur.2=p.1 then clF (cur.1,cur.2+p.2) r else if 0<p.2 then cur::clF p r else clF cur r
noncomputable def clN:List Pr->List Pr
 | []=>[]
 | p::r=>if 0<p.2 then clF p r else clN r
theorem Jis:∀(cur:Pr) (r:List Pr),Good (cur::r)->clF cur r=cur::r
 | cur,[],_=>rfl
 | cur,p::r,g=>by
  have h1:=g.gap 0 cur p rfl rfl
  have h2:=g.one 1 p rfl;rw[clF,if_neg (by omega),if_pos (by omega),Jis p r (Good.cons' g)]
def JbJ(g:Good ps):clN ps=ps:=by
 cases ps with
 | nil=>rfl
 | cons p r=>rw[clN,if_pos (by have:=g.one 0 p rfl;omega),Jis p r g]
theorem V5:∀(cur:Pr) (r:List Pr),1<=cur.2->Wide 0 r->(∀q,r[0]?=some q->cur.1+cur.2<=q.1)->Good (clF cur r)/\∃q,(clF cur r)[0]?=some q/\q.1=cur.1
 | cur,[],h,_,_=>⟨Good.mk' h (fun q e=>by simp at e) Good.nil,cur,rfl,rfl⟩
 | cur,p::r,h,w,hq=>by
  have h0:=w.one 0 p rfl
  have hb:=hq p rfl
  have nx:∀q,r[0]?=some q->p.1+p.2<=q.1:=fun q e=>by have:=w.gap 0 p q rfl (by simpa using e);omega
  rw[clF];split
  ·next e=>exact V5 (cur.1,cur.2+p.2) r (by dsimp only;omega) w.cons fun q e'=>by have:=nx q e';dsimp only;omega
  ·next e =>
   split
   ·next hp=>obtain⟨g,q,e1,e2⟩:=V5 p r (by omega) w.cons nx;exact⟨Good.mk' h (fun q' e'=>by rw[e1] at e';cases e';omega) g,cur,rfl,rfl⟩
   ·next hp=>exact V5 cur r h w.cons fun q e'=>by have:=nx q e';omega
theorem JcX:∀(ps:List Pr),Wide 0 ps->Good (clN ps)
 | [],_=>Good.nil
 | p::r,w=>by
  rw[clN];split
  ·next h=>exact(V5 p r (by omega) w.cons fun q e=>by have:=w.gap 0 p q rfl (by simpa using e);omega).1
  ·exact JcX r w.cons
theorem Zb:∀(cur:Pr) (r:List Pr),(clF cur r).length<=r.length+1/\((clF cur r).length=r.length+1->(∀p∈r,0<p.2)/\∀(i:Nat) (p q:Pr),(cur::r)[i]?=some p->(cur::r)[i+1]?=some q->p.1+p.2≠q.1)
 | cur,[]=>⟨Qp _,fun _=>⟨fun p hp=>(by cases hp),fun i p q _ e=>(by simp at e)⟩⟩
 | cur,p::r=>by
  rw[clF,Qr];split
  ·next e=>have ih:=(Zb (cur.1,cur.2+p.2) r).1;exact⟨by omega,fun h=>by omega⟩
  ·next e =>
   split
   ·next hp =>
    obtain⟨i1,i2⟩:=Zb p r;refine⟨by rw[Qr];omega,fun h=>?_⟩;obtain⟨a1,a2⟩:=i2 (by rw[Qr] at h;omega);refine⟨fun q hq=>?_,fun i x y e1 e2=>?_⟩
    ·rcases Qk.mp hq with z|z
     ·rw[z];exact hp
     ·exact a1 q z
    ·cases i with
     | zero=>simp at e1 e2;subst e1 e2;exact e
     | succ i=>exact a2 i x y (by simpa using e1) (by simpa using e2)
   ·have ih:=(Zb cur r).1;exact⟨by omega,fun h=>by omega⟩
theorem V6:∀(ps:List Pr),(clN ps).length<=ps.length/\((clN ps).length=ps.length->(∀p∈ps,0<p.2)/\∀(i:Nat) (p q:Pr),ps[i]?=some p->ps[i+1]?=some q->p.1+p.2≠q.1)
 | []=>⟨Qp _,fun _=>⟨fun p hp=>(by cases hp),fun i p q e=>(by simp at e)⟩⟩
 | p::r=>by
  rw[clN,Qr];split
  ·next hp=>obtain⟨i1,i2⟩:=Zb p r;refine⟨i1,fun h=>?_⟩;obtain⟨a1,a2⟩:=i2 h;exact⟨fun q hq=>(Qk.mp hq).elim (fun z=>z▸hp) (a1 q),a2⟩
  ·have ih:=(V6 r).1;exact⟨by omega,fun h=>by omega⟩
noncomputable def thF(ps:List Pr):List Pr:=clN (byF (-1) ps)
noncomputable def thN:Nat->List Pr->List Pr
 | 0,ps=>ps
 | n+1,ps=>thN n (thF ps)
def Zq(a b:Nat):∀ps:List Pr,thN (a+b) ps=thN b (thN a ps):=by
 induction a with
 | zero=>intro ps;rw[MP];rfl
 | succ a ih=>intro ps;rw[Nat.succ_add];exact ih (thF ps)
theorem JgO:∀n,thN n []=[]
 | 0=>rfl
 | n+1=>JgO n
def Yw(g:Good ps):Good (thF ps):=JcX _ (by
 have w:Wide 1 ps:=⟨fun i p e=>g.one i p e,fun i p q e1 e2=>by have:=g.gap i p q e1 e2;omega⟩
 exact w.bys (k:=-1))
theorem Wr:∀(n:Nat) {ps:List Pr},Good ps->Good (thN n ps)
 | 0,_,g=>g
 | n+1,_,g=>Wr n (Yw g)
theorem JcG:∀(n:Nat) {c:Int} {ps:List Pr},Wide c ps->1<=c->((n:Int)<=c)->thN n ps=clN (byF (-(n:Int)) ps)
 | 0,c,ps,w,h1,_=>by show ps=clN (byF (-((0:Nat):Int)) ps);rw[show -((0:Nat):Int)=0 by simp,W9,JbJ (w.good h1)]
 | n+1,c,ps,w,h1,hn=>by
  show thN n (thF ps)=_
  by_cases h:n=0
  ·subst h;rfl
  ·have w1:Wide (c+-1) (byF (-1) ps):=w.bys
   have e:thF ps=byF (-1) ps:=JbJ (w1.good (by omega));rw[e,JcG n w1 (by omega) (by omega),JfA];congr 2;omega
def JaB{n:Nat}{c:Int}{ps:List Pr}(w:Wide c ps)(h1:1<=c)(h:(n:Int)<c):thN n ps=byF (-(n:Int)) ps:=by rw[JcG n w h1 (by omega),JbJ ((w.bys (k:=-(n:Int))).good (by omega))]
noncomputable def Jh8(c:Int)(ps:List Pr):Prop:=(∃p∈ps,p.2=c)\/∃(i:Nat) (p q:Pr),ps[i]?=some p/\ps[i+1]?=some q/\q.1-(p.1+p.2)=c
def Jd6(t:Jh8 c ps):(clN (byF (-c) ps)).length<ps.length:=by
 obtain⟨h1,h2⟩:=V6 (byF (-c) ps);rw[UQ] at h1 h2;rcases LO (clN (byF (-c) ps)).length ps.length with h|h
 ·exact h
 ·obtain⟨a1,a2⟩:=h2 (by omega)
  exfalso
  rcases t with ⟨p,hp,e⟩|⟨i,p,q,e1,e2,e⟩
  ·obtain⟨i,hi,rfl⟩:=GU.mp hp
   have hx:(byF (-c) ps)[i]?=some (ps[i].1+2*-c*(i:Int),ps[i].2+-c):=by unfold byF;rw[QZ,Qy hi];rfl
   have:=a1 _ (QI hx);dsimp only at this;omega
  ·have hx:(byF (-c) ps)[i]?=some (p.1+2*-c*(i:Int),p.2+-c):=by unfold byF;rw[QZ,e1];rfl
   have hy:(byF (-c) ps)[i+1]?=some (q.1+2*-c*((i+1:Nat):Int),q.2+-c):=by unfold byF;rw[QZ,e2];rfl
   have:=a2 i _ _ hx hy
   have em:2*-c*((i+1:Nat):Int)=2*-c*(i:Int)+2*-c:=by rw[MJ,My];simp
   dsimp only at this;rw[em] at this;omega
noncomputable def zs(n:Nat):List Int:=QM n 0
noncomputable def os(n:Nat):List Int:=QM n 1
noncomputable def byR:Int->List Pr->List Pr
 | _,[]=>[]
 | c,p::r=>(p.1-c,p.2-1)::byR (c+2) r
theorem Jfz:∀(ps:List Pr) (c:Int),byR c ps=ps.mapIdx fun i p=>(p.1+2*(-1)*(i:Int)-c,p.2+-1)
 | [],c=>rfl
 | p::r,c=>by
  rw[byR,List.mapIdx_cons,Jfz r (c+2)];congr 1
  ·congr 1;simp
  ·refine GX fun i=>?_
   rw[QZ,QZ]
   cases r[i]? with
   | none=>rfl
   | some q=>simp only[Lx,MJ];congr 2;omega
def JkV(ps:List Pr):byR 0 ps=byF (-1) ps:=by
 rw[Jfz];unfold byF;congr 1
 funext i p
 congr 1;omega
def Ub(g:Good ps):Wide 1 ps:=⟨fun i p e=>g.one i p e,fun i p q e1 e2=>by have:=g.gap i p q e1 e2;omega⟩
theorem Jbp:∀(n:Nat) (ps:List Pr),thN (n+1) ps=thF (thN n ps)
 | 0,ps=>rfl
 | n+1,ps=>by show thN (n+1) (thF ps)=thF (thN n (thF ps));exact Jbp n (thF ps)
noncomputable def tkS(x prev pos:Int)(acc:List Pr):List Pr :=
 if x=1/\prev=1 then acc.dropLast++[((acc.getLastD (0,0)).1,(acc.getLastD (0,0)).2+1)] else if x=1 then acc++[(pos,1)] else acc
noncomputable def tk:Int->Int->List Pr->List Int->List Pr
 | _,_,acc,[]=>acc
 | prev,pos,acc,x::r=>tk x (pos+1) (tkS x prev pos acc) r
noncomputable def below(ps:List Pr)(x:Int):Int:=(ps.map fun p=>max 0 (min p.2 (x-p.1))).sum
def Ud(p:Pr)(ps:List Pr)(x:Int):below (p::ps) x=max 0 (min p.2 (x-p.1))+below ps x:=by unfold below;rw[Qf,QG]
def Jek(h:∀p∈ps,x<=p.1):below ps x=0:=by
 induction ps with
 | nil=>rfl
 | cons p ps ih=>have h1:=h p Qc;rw[Ud,ih fun q hq=>h q (Qd _ hq)];omega
noncomputable def Yd(ps:List Pr)(y:Int):Bool:=ps.any fun p=>decide (p.1<=y) && decide (y<p.1+p.2)
def has_iff:Yd ps y=true↔∃p∈ps,p.1<=y/\y<p.1+p.2:=by unfold Yd;rw[Kz];simp
def JbZ(h:∀p∈ps,p.1<=y->p.1+p.2<=y):Yd ps y=false:=by
 cases e:Yd ps y with
 | false=>rfl
 | true=>obtain⟨p,hp,h1,h2⟩:=has_iff.mp e;have:=h p hp h1;omega
def JqJ{l d:Int}(h0:0<=d)(h1:d<l):max 0 (min l (d+1))=max 0 (min l d)+1:=by rw[LP (by omega),LP (by omega),Int.max_eq_right (by omega),Int.max_eq_right h0]
def Jow{l d:Int}(hl:0<=l)(h:d<0\/l<=d):max 0 (min l (d+1))=max 0 (min l d):=by
 rcases h with h|h
 ·rw[LP (by omega),LP (by omega),Int.max_eq_left (by omega),Int.max_eq_left (by omega)]
 ·rw[RP (by omega),RP h]
theorem Zv(y:Int):∀{ps:List Pr},Good ps->below ps (y+1)=below ps y+(if Yd ps y=true then 1 else 0)
 | [],_=>rfl
 | p::ps,g=>by
  have ih:=Zv y (Good.cons' g)
  have hp:=g.one 0 p rfl;rw[Ud,Ud,ih]
  by_cases h1:p.1<=y/\y<p.1+p.2
  ·have e1:Yd (p::ps) y=true:=has_iff.mpr ⟨p,Qc,h1⟩
   have e2:Yd ps y=false:=JbZ fun q hq hy=>by
    have:=Good.first g q hq
    omega
   rw[e1,e2,if_pos rfl,if_neg (by simp),show y+1-p.1=y-p.1+1 by omega,JqJ (show 0<=y-p.1 by omega) (show y-p.1<p.2 by omega)]
   generalize max 0 (min p.2 (y-p.1))=m
   omega
  ·have e1:Yd (p::ps) y=Yd ps y:=by
    unfold Yd;rw[Km]
    have:(decide (p.1<=y) && decide (y<p.1+p.2))=false:=by
     cases h:(decide (p.1<=y) && decide (y<p.1+p.2)) with
     | false=>rfl
     | true=>rw[Q6,decide_eq_true_eq,decide_eq_true_eq] at h;exact absurd h h1
    rw[this,KL]
   rw[e1,show y+1-p.1=y-p.1+1 by omega,Jow (show 0<=p.2 by omega) (show y-p.1<0\/p.2<=y-p.1 by omega),Int.add_assoc]
def Ym(p:Pr)(ps:List Pr)(x:Int):Yd (p::ps) x=((decide (p.1<=x) && decide (x<p.1+p.2)) || Yd ps x):=by unfold Yd;rw[Km]
def Wy{p:Pr}{ps:List Pr}{x:Int}(h1:p.1<=x)(h2:x<p.1+p.2):Yd (p::ps) x=true:=has_iff.mpr ⟨p,Qc,h1,h2⟩
def Jb0(h:p.1+p.2<=x):Yd (p::ps) x=Yd ps x:=by rw[Ym];have:decide (x<p.1+p.2)=false:=decide_eq_false (by omega);rw[this,MY,KL]
def UU(h:∀p∈ps,x<p.1):Yd ps x=false:=JbZ fun p hp hx=>by have:=h p hp;omega
theorem JfZ:∀{ps qs:List Pr},Good ps->Good qs->(∀x,Yd ps x=Yd qs x)->ps=qs
 | [],[],_,_,_=>rfl
 | [],q::qs,_,g,h=>by have:=h q.1;rw[Wy (GK _) (by have:=g.one 0 q rfl;omega)] at this;cases this
 | p::ps,[],g,_,h=>by have:=h p.1;rw[Wy (GK _) (by have:=g.one 0 p rfl;omega)] at this;cases this
 | p::ps,q::qs,g,g',h=>by
  have hp:=g.one 0 p rfl
  have hq:=g'.one 0 q rfl
  have le:∀{p:Pr} {ps:List Pr} {x:Int},Good (p::ps)->Yd (p::ps) x=true->p.1<=x:=fun {p ps x} g e=>by
   obtain⟨r,hr,h1,h2⟩:=has_iff.mp e;rcases Qk.mp hr with z|z
   ·rw[<- z];exact h1
   ·have:=Good.first g r z
    have:=g.one 0 p rfl;omega
  have e1:p.1=q.1:=by
   have a:=le g' (x:=p.1) (by rw[<- h];exact Wy (GK _) (by omega))
   have b:=le g (x:=q.1) (by rw[h];exact Wy (GK _) (by omega));omega
  have off:∀{p:Pr} {ps:List Pr},Good (p::ps)->Yd (p::ps) (p.1+p.2)=false:=fun {p ps} g=>by rw[Jb0 (GK _)];exact UU fun z hz=>Good.first g z hz
  have e2:p.2=q.2:=by
   have a:=h (p.1+p.2);rw[off g] at a
   have b:=h (q.1+q.2);rw[off g'] at b
   by_cases c:p.2<q.2
   ·rw[Wy (p:=q) (by omega) (by omega)] at a;cases a
   ·by_cases c':q.2<p.2
    ·rw[Wy (p:=p) (by omega) (by omega)] at b;cases b
    ·omega
  have e:p=q:=Mt e1 e2;subst e;rw[JfZ (Good.cons' g) (Good.cons' g') fun x=>?_]
  by_cases c:p.1+p.2<=x
  ·have:=h x
   rwa [Jb0 c,Jb0 c] at this
  ·rw[UU fun z hz=>by have:=Good.first g z hz;omega,UU fun z hz=>by have:=Good.first g' z hz;omega]
def Jhx(a b:Int):a<b\/b<=a:=by omega
def VO{ps:List Pr}(h:∀p∈ps,0<=p.2){x y:Int}(hxy:x<=y):below ps x<=below ps y:=by
 induction ps with
 | nil=>exact GK _
 | cons p r ih =>
  have i:=ih fun q hq=>h q (Qd _ hq)
  rw[Ud,Ud];exact Int.add_le_add (Int.max_le.mpr ⟨Int.le_max_left _ _,RL (Int.le_min.mpr ⟨Int.min_le_left _ _,RL (Int.min_le_right _ _) (by omega)⟩) (Int.le_max_right _ _)⟩) i
theorem UO(g:Good ps):∀n:Nat,below ps (a+(n:Int))<=below ps a+(n:Int)/\((∀y,a<=y->y<a+(n:Int)->Yd ps y=true)->below ps (a+(n:Int))=below ps a+(n:Int))/\((∀y,a<=y->y<a+(n:Int)->Yd ps y=false)->below ps (a+(n:Int))=below ps a)
 | 0=>by simp
 | n+1=>by
  obtain⟨i1,i2,i3⟩:=UO g (a:=a) n;have e:a+((n+1:Nat):Int)=a+(n:Int)+1:=by omega
  rw[e,Zv (a+(n:Int)) g];refine⟨by split <;> omega,fun h=>?_,fun h=>?_⟩
  ·rw[if_pos (h (a+(n:Int)) (by omega) (by omega)),i2 fun y h1 h2=>h y h1 (by omega)];omega
  ·rw[if_neg (by rw[h (a+(n:Int)) (by omega) (by omega)];simp),i3 fun y h1 h2=>h y h1 (by omega),Xy]
def Vs(g:Good ps)(h:x<=y):below ps y<=below ps x+(y-x):=by have:=(UO g (a:=x) (y-x).toNat).1;rw[show x+((y-x).toNat:Int)=y by omega] at this;omega
def Jej(g:Good ps)(h:x<=y)(hb:∀z,x<=z->z<y->Yd ps z=true):below ps y=below ps x+(y-x):=by
 have:=(UO g (a:=x) (y-x).toNat).2.1 fun z h1 h2=>hb z h1 (by omega (config:={}))
 rw[show x+((y-x).toNat:Int)=y by omega (config:={})] at this;omega (config:={})
def Jei(g:Good ps)(h:x<=y)(hb:∀z,x<=z->z<y->Yd ps z=false):below ps y=below ps x:=by
 have:=(UO g (a:=x) (y-x).toNat).2.2 fun z h1 h2=>hb z h1 (by omega (config:={}))
 rw[show x+((y-x).toNat:Int)=y by omega (config:={})] at this;omega (config:={})
noncomputable def edF(ps:List Pr):Nat->Int->List Int->List Pr
 | _,_,[]=>[]
 | i,c,s::r=>(s+2*(i:Int)-(below ps s-c),below ps s-c+1)::edF ps (i+1) (below ps s) r
noncomputable def flF(ps:List Pr):Int->List Int->List Pr
 | _,[]=>[]
 | c,s::r=>(s-(below ps s-c),below ps s-c)::flF ps (below ps s) r
theorem Jm4(ps:List Pr):∀(sp:List Int) (i:Nat) (c:Int),byR (2*(i:Int)) (edF ps i c sp)=flF ps c sp
 | [],_,_=>rfl
 | s::r,i,c=>by
  rw[edF,byR,flF];congr 1
  ·congr 1 <;> dsimp only <;> omega
  ·rw[<- Jm4 ps r (i+1) (below ps s)];congr 1
theorem Jey(ps:List Pr):∀(sp:List Int) (i:Nat) (c:Int),(edF ps i c sp).length=sp.length
 | [],_,_=>rfl
 | s::r,i,c=>by rw[edF,Qr,Qr,Jey ps r]
theorem JfM(g:Good ps):∀(sp:List Int) (i:Nat) (s0:Int),(s0::sp).Pairwise (·<=·)->Good (edF ps i (below ps s0) sp)
 | [],_,_,_=>Good.nil
 | s::r,i,s0,hs=>by
  obtain⟨h1,h2⟩:=QB.mp hs;have h3:=h1 s Qc;have m1:=VO (fun p hp=>by have:=Good.all g p hp;omega) h3;rw[edF];refine Good.mk' (by dsimp only;omega) (fun q e=>?_) (JfM g r (i+1) s h2)
  cases r with
  | nil=>simp[edF] at e
  | cons s' r=>obtain⟨h4,_⟩:=QB.mp h2;have h5:=h4 s' Qc;have l1:=Vs g h5;simp[edF] at e;subst e;dsimp only;omega
theorem JfU(g:Good ps):∀(sp:List Int) (s0:Int),(s0::sp).Pairwise (·<=·)->Wide 0 (flF ps (below ps s0) sp)
 | [],_,_=>⟨fun i p e=>by simp[flF] at e,fun i p q e=>by simp[flF] at e⟩
 | s::r,s0,hs=>by
  obtain⟨h1,h2⟩:=QB.mp hs;have h3:=h1 s Qc;have m1:=VO (fun p hp=>by have:=Good.all g p hp;omega) h3;have ih:=JfU g r s h2;rw[flF];refine⟨fun i p e=>?_,fun i p q e1 e2=>?_⟩
  ·cases i with
   | zero=>simp at e;subst e;dsimp only;omega
   | succ i=>exact ih.one i p (by simpa using e)
  ·cases i with
   | zero =>
    simp at e1;subst e1
    cases r with
    | nil=>simp[flF] at e2
    | cons s' r=>obtain⟨h4,_⟩:=QB.mp h2;have h5:=h4 s' Qc;have l1:=Vs g h5;simp[flF] at e2;subst e2;dsimp only;omega
   | succ i=>exact ih.gap i p q (by simpa using e1) (by simpa using e2)
theorem JiR(g:Good ps):∀(sp:List Int) (s0:Int),(s0::sp).Pairwise (·<=·)->(∀p∈ps,s0<p.1+p.2->p.1+p.2∈sp) ->
 (∀x,s0<=x->Yd (flF ps (below ps s0) sp) x=Yd ps x)/\∀x,x<s0->Yd (flF ps (below ps s0) sp) x=false
 | [],s0,_,he=>by
  refine⟨fun x hx=>?_,fun x hx=>rfl⟩
  have:Yd ps x=false:=JbZ fun p hp h1=>by
   rcases Jhx s0 (p.1+p.2) with z|z
   ·cases he p hp z
   ·omega
  rw[this];rfl
 | s::r,s0,hs,he=>by
  obtain⟨h1,h2⟩:=QB.mp hs;have h3:=h1 s Qc;have hr:∀t∈r,s<=t:=(QB.mp h2).1
  have lip:=Vs g h3
  obtain⟨i1,i2⟩:=JiR g r s h2 fun p hp h=>by
   rcases Qk.mp (he p hp (by omega)) with z|z
   ·omega
   ·exact z
  have run:∀y,s0<=y->y<s->Yd ps y=true->∀z,y<=z->z<s->Yd ps z=true:=fun y y1 y2 hy z z1 z2=>by
   obtain⟨p,hp,a1,a2⟩:=has_iff.mp hy
   have:s<=p.1+p.2:=by
    rcases Qk.mp (he p hp (by omega)) with w|w
    ·omega
    ·exact hr _ w
   exact has_iff.mpr ⟨p,hp,by omega,by omega⟩
  rw[flF];refine⟨fun x hx=>?_,fun x hx=>?_⟩
  ·rw[Ym];rcases Jhx x s with hxs|hxs
   ·rw[i2 x hxs,Rk];dsimp only
    cases hb:Yd ps x with
    | true =>
     have f1:=Jej g (x:=x) (y:=s) (by omega) fun z z1 z2=>run x hx hxs hb z z1 z2
     have f2:=VO (ps:=ps) (fun p hp=>by have:=Good.all g p hp;omega) hx;rw[decide_eq_true (by omega),decide_eq_true (by omega)];rfl
    | false =>
     have f1:=Jei g (x:=s0) (y:=x+1) (by omega) fun z z1 z2=>by
      cases hz:Yd ps z with
      | false=>rfl
      | true=>have:=run z z1 (by omega) hz x (by omega) hxs;rw[hb] at this;cases this
     have f2:=Vs g (x:=x+1) (y:=s) (by omega);rw[decide_eq_false (by omega)];rfl
   ·rw[i1 x hxs];dsimp only;rw[decide_eq_false (p:=x<_) (by omega),MY,KL]
  ·rw[Ym,i2 x (by omega)];dsimp only;rw[decide_eq_false (by omega)];rfl
def Jop(ps:List Pr)(sp:List Int):∃s0,(∀p∈ps,s0<p.1)/\∀s∈sp,s0<s:=by
 have h1:∃a,∀p∈ps,a<p.1:=by
  induction ps with
  | nil=>exact⟨0,fun p hp=>by cases hp⟩
  | cons p r ih =>
   obtain⟨a,ha⟩:=ih;refine⟨min a (p.1-1),fun q hq=>?_⟩;rcases Qk.mp hq with z|z
   ·subst z;omega (config:={})
   ·have:=ha q z;omega (config:={})
 have h2:∃a,∀s∈sp,a<s:=by
  induction sp with
  | nil=>exact⟨0,fun p hp=>by cases hp⟩
  | cons p r ih =>
   obtain⟨a,ha⟩:=ih;refine⟨min a (p-1),fun q hq=>?_⟩;rcases Qk.mp hq with z|z
   ·subst z;omega (config:={})
   ·have:=ha q z;omega (config:={})
 obtain⟨a,ha⟩:=h1;obtain⟨b,hb⟩:=h2;exact⟨min a b,fun p hp=>by have:=ha p hp;omega (config:={}),fun s hs=>by have:=hb s hs;omega (config:={})⟩
theorem Za(x:Int):∀(r:List Pr) (cur:Pr),(∀p∈r,0<=p.2)->0<=cur.2->Yd (clF cur r) x=Yd (cur::r) x
 | [],cur,_,_=>rfl
 | p::r,cur,h,hc=>by
  have h0:=h p Qc
  have hr:=fun q hq=>h q (Qd p hq)
  rw[clF];split
  ·next e=>rw[Za x r _ hr (by dsimp only;omega),Ym,Ym,Ym,<- Bool.or_assoc];congr 1;rw[KF];simp only[MD,Q6,decide_eq_true_eq];constructor <;> intro z <;> omega
  ·split
   ·rw[Ym,Za x r p hr h0,<- Ym]
   ·rw[Za x r cur hr hc,Ym,Ym cur,Ym p];rw[show(decide (p.1<=x) && decide (x<p.1+p.2))=false by
     rw[RU];rcases Jhx x p.1 with z|z
     ·exact .inl (decide_eq_false (by omega))
     ·exact .inr (decide_eq_false (by omega)),KL]
theorem JfB(x:Int):∀(ps:List Pr),(∀p∈ps,0<=p.2)->Yd (clN ps) x=Yd ps x
 | [],_=>rfl
 | p::r,h=>by
  have h0:=h p Qc
  have hr:=fun q hq=>h q (Qd p hq)
  rw[clN];split
  ·exact Za x r p hr h0
  ·rw[JfB x r hr,Ym p];rw[show(decide (p.1<=x) && decide (x<p.1+p.2))=false by
    rw[RU];rcases Jhx x p.1 with z|z
    ·exact .inl (decide_eq_false (by omega))
    ·exact .inr (decide_eq_false (by omega)),KL]
def Jkw(g:Good ps)(hs:sp.Pairwise (·<=·))(he:∀p∈ps,p.1+p.2∈sp):Good (edF ps 0 0 sp)/\thF (edF ps 0 0 sp)=ps:=by
 obtain⟨s0,l1,l2⟩:=Jop ps sp;have hb:below ps s0=0:=Jek fun p hp=>by have:=l1 p hp;omega
 have hs':(s0::sp).Pairwise (·<=·):=QB.mpr ⟨fun s h=>by have:=l2 s h;omega,hs⟩
 have ge:=JfM g sp 0 s0 hs'
 have wd:=JfU g sp s0 hs';obtain⟨f1,f2⟩:=JiR g sp s0 hs' fun p hp _=>he p hp
 rw[hb] at ge wd f1 f2;refine⟨ge,?_⟩
 have e:thF (edF ps 0 0 sp)=clN (flF ps 0 sp):=by unfold thF;rw[<- JkV,<- Jm4 ps sp 0 0];rfl
 refine JfZ (Yw ge) g fun x=>?_
 rw[e,JfB x _ fun p hp=>by obtain⟨i,hi,rfl⟩:=GU.mp hp;exact wd.one i _ (by simp)]
 rcases Jhx x s0 with z|z
 ·rw[f2 x z,UU fun p hp=>by have:=l1 p hp;omega]
 ·exact f1 x z
theorem JfN(ps:List Pr):∀(sp:List Int) (i:Nat) (c:Int) (j:Nat) (q:Pr),(edF ps i c sp)[j]?=some q->∃s,sp[j]?=some s/\q.1+q.2-1-2*((i+j:Nat):Int)=s
 | [],_,_,j,q,e=>by simp[edF] at e
 | s::r,i,c,0,q,e=>by simp[edF] at e;subst e;exact⟨s,rfl,by dsimp only;omega⟩
 | s::r,i,c,j+1,q,e=>by obtain⟨s',h1,h2⟩:=JfN ps r (i+1) (below ps s) j q (by simpa [edF] using e);exact⟨s',by simpa using h1,by rw[<- h2];congr 1;omega⟩
noncomputable def YG:List Pr->Int->List Pr
 | [],s=>[(s,1)]
 | p::r,s=>if p.1=s then(p.1,p.2+1)::r else p::YG r s
theorem UE(s:Int):∀a:List Pr,(YG a s).map (·.1)=Jv (a.map (·.1)) s
 | []=>rfl
 | p::r=>by
  have ih:=UE s r;unfold Jv VQ at ih ⊢;rw[YG,Qf,Km]
  by_cases h:p.1=s
  ·rw[if_pos h,decide_eq_true h,Xq,if_pos rfl];rfl
  ·rw[if_neg h,decide_eq_false h,KL,Qf,ih];split <;> rfl
theorem JdR:∀(ks:List Int) (vs:List Int) (s v:Int),s∉ks->setK ks vs s v=vs
 | [],_,_,_,_=>rfl
 | _::_,[],_,_,_=>rfl
 | k::ks,x::vs,s,v,h=>by rw[setK,if_neg fun e=>h (by rw[e];exact Qc),JdR ks vs s v fun m=>h (Qd _ m)]
def hasK_mem:VQ ks s=true↔s∈ks:=by
 unfold VQ;rw[Kz];constructor
 ·rintro⟨k,hk,e⟩;rw[decide_eq_true_eq] at e;subst e;exact hk
 ·intro h;exact⟨s,h,decide_eq_true rfl⟩
theorem Jba(s:Int):∀a:List Pr,(a.map (·.1)).Nodup->(YG a s).map (·.2)=putDs (a.map (·.1)) (a.map (·.2)) s ((look (a.map (·.1)) (a.map (·.2)) s).getD 0+1)
 | [],_=>rfl
 | p::r,hn=>by
  rw[Qf,QY] at hn;have ih:=Jba s r hn.2;rw[YG,Qf,Qf]
  by_cases h:p.1=s
  ·rw[if_pos h];unfold putDs;rw[if_pos (hasK_mem.mpr (by rw[h];exact Qc)),look,if_pos h,setK,if_pos h,JdR _ _ _ _ (by rw[<- h];exact hn.1)];rfl
  ·rw[if_neg h,Qf,ih,look,if_neg h];unfold putDs
   have e:VQ (p.1::r.map (·.1)) s=VQ (r.map (·.1)) s:=by unfold VQ;rw[Km,decide_eq_false h,KL]
   rw[e];split
   ·rw[setK,if_neg h]
   ·rfl
def Vd(s:Int)(h:ks.Nodup):(Jv ks s).Nodup:=by
 unfold Jv;split
 ·exact h
 ·next c =>
  rw[LG];refine⟨h,by simp,fun a ha b hb=>?_⟩;have:b=s:=by simpa using hb
  subst this;intro e;subst e;exact c (hasK_mem.mpr ha)
noncomputable def lk(k:Int):List Pr->Int
 | []=>0
 | p::r=>if p.1=k then p.2 else lk k r
theorem Jf5(k s:Int):∀a:List Pr,lk k (YG a s)=lk k a+(if s=k then 1 else 0)
 | []=>by simp[YG,lk]
 | p::r=>by
  rw[YG]
  by_cases h:p.1=s
  ·rw[if_pos h,lk,lk];dsimp only
   by_cases c:p.1=k
   ·rw[if_pos c,if_pos c,if_pos (by omega)]
   ·rw[if_neg c,if_neg c,if_neg (by omega),Xy]
  ·rw[if_neg h,lk,lk,Jf5 k s r]
   by_cases c:p.1=k
   ·rw[if_pos c,if_pos c,if_neg (by omega),Xy]
   ·rw[if_neg c,if_neg c]
def JeO(hn:(a.map (·.1)).Nodup)(hp:p∈a):lk p.1 a=p.2:=by
 induction a with
 | nil=>cases hp
 | cons q r ih =>
  rw[Qf,QY] at hn;rw[lk];rcases Qk.mp hp with z|z
  ·subst z;rw[if_pos rfl]
  ·rw[if_neg fun e=>hn.1 (by rw[e];exact QC.mpr ⟨p,z,rfl⟩)];exact ih hn.2 z
noncomputable def Up(L:List Int):List Pr:=L.foldl YG []
theorem JfE:∀(L:List Int) (a:List Pr),(a.map (·.1)).Nodup->((L.foldl YG a).map (·.1)).Nodup/\(∀k,lk k (L.foldl YG a)=lk k a+(L.count k:Int))/\∀k,k∈(L.foldl YG a).map (·.1)↔k∈a.map (·.1)\/k∈L
 | [],a,h=>⟨h,fun k=>by simp,fun k=>by simp⟩
 | s::L,a,h=>by
  have hk:=UE s a
  have hn:((YG a s).map (·.1)).Nodup:=by rw[hk];exact Vd s h
  obtain⟨i1,i2,i3⟩:=JfE L (YG a s) hn;refine⟨i1,fun k=>?_,fun k=>?_⟩
  ·rw[Gj,i2 k,Jf5,List.count_cons]
   by_cases c:s=k
   ·rw[if_pos c,if_pos (by simpa using c)];omega
   ·rw[if_neg c,if_neg (by simpa using c)];omega
  ·rw[Gj,i3 k,hk];unfold Jv;split
   ·next c =>
    have c':=hasK_mem.mp c;constructor
    ·rintro(z|z)
     ·exact .inl z
     ·exact .inr (Qd _ z)
    ·rintro(z|z)
     ·exact .inl z
     ·rcases Qk.mp z with w|w
      ·subst w;exact .inl c'
      ·exact .inr w
   ·rw[Gd,QP,Qk,or_assoc]
def Jiu(L:List Int):((Up L).map (·.1)).Nodup/\(∀p∈Up L,p.2=(L.count p.1:Int)/\p.1∈L)/\∀k∈L,(k,(L.count k:Int))∈Up L:=by
 obtain⟨i1,i2,i3⟩:=JfE L [] (by simp)
 have v:∀p∈Up L,p.2=(L.count p.1:Int):=fun p hp=>by rw[<- JeO i1 hp];have:=i2 p.1;rw[show lk p.1 []=0 from rfl,RH] at this;exact this
 refine⟨i1,fun p hp=>⟨v p hp,?_⟩,fun k hk=>?_⟩
 ·have:=(i3 p.1).mp (QC.mpr ⟨p,hp,rfl⟩)
  simpa using this
 ·obtain⟨p,hp,e⟩:=QC.mp ((i3 k).mpr (.inr hk));subst e;rw[<- v p hp];exact hp
theorem JfF:∀(L:List Int) (a:List Pr),(a.map (·.1)++L).Nodup->L.foldl YG a=a++L.map fun s=>(s,1)
 | [],a,_=>by simp
 | s::L,a,h=>by
  have e:YG a s=a++[(s,1)]:=by
   have hs:s∉a.map (·.1):=fun m=>by have:=(LG.mp h).2.2 s m s Qc;exact this rfl
   clear h
   induction a with
   | nil=>rfl
   | cons p r ih=>rw[YG,if_neg fun z=>hs (by rw[<- z];exact Qc),ih fun m=>hs (Qd _ m)];rfl
  rw[Gj,e,JfF L (a++[(s,1)]) (by simpa using h)];simp
def Jdj(ps:List Pr)(x:Int)(h:ps.length<=1000):YO [.sh (.row (ps.map prE)),.sh (.int x)]=some (.sh (.bl (Yd ps x))):=by
 unfold YO;walk_at "ev";rw[JM (g:=fun p=>D.bl (decide (p.1<=x) && decide (x<p.1+p.2)))]
 ·walk_at "ev";rw[Jlc (ns:=ps.map fun p=>decide (p.1<=x) && decide (x<p.1+p.2)) (by simp[Sl.q])];walk_at "ev";unfold Yd;rw[List.any_map];rfl
 ·intro p hp;simp only[prE];walk_at "ev"
  by_cases c:p.1<=x
  ·simp only[c];walk_at "ev"
  ·simp only[c];walk_at "ev";rfl
def JlD(ps:List Pr)(x:Int)(h:ps.length<=1000):Ys [.sh (.row (ps.map prE)),.sh (.int x)]=some (.sh (.int (below ps x))):=by
 unfold Ys;walk_at "ev";rw[JM (g:=fun p=>D.int (max 0 (min p.2 (x-p.1))))]
 ·walk_at "ev";rw[UT (ns:=ps.map fun p=>max 0 (min p.2 (x-p.1))) (by simp[Sl.q])];walk_at "ev";rfl
 ·intro p hp;simp only[prE];walk_at "ev"
def Zg{α β:Type}(f:Nat->α->β)(xs:List α):xs.mapIdx f=xs.zipIdx.map fun x=>f x.2 x.1:=by
 refine GX fun i=>?_
 rw[QZ,Qw,Mz,KP];simp;rfl
def Jqx(ps:List Pr)(k:Int)(h:ps.length<=1000):Yc [.sh (.row (ps.map prE)),.sh (.int k)]=some (.own ((byF k ps).map prE)):=by
 unfold Yc;walk_at "ev";rw[ZF,Zg,JM (g:=fun x:Pr×Nat=>prE (x.1.1+2*k*(x.2:Int),x.1.2+k))]
 ·rw[if_pos (by rw[Qm,List.length_zipIdx];omega (config:={}))];walk_at "ev";rw[show ps.zipIdx.map (fun x=>prE (x.1.1+2*k*(x.2:Int),x.1.2+k))=(byF k ps).map prE by unfold byF;rw[Zg,QJ];rfl]
 ·intro x hx
  have hx2:x.2<ps.length:=by have:=List.snd_lt_of_mem_zipIdx hx;omega (config:={})
  walk_at "ev";rw[U7,Y2];walk_at "ev";rfl
def Jqi(g:Good ps)(hne:ps≠[]):∃c,(ps.map (·.2)++Us ps).min?=some c/\1<=c/\Wide c ps/\Jh8 c ps:=by
 cases hm:(ps.map (·.2)++Us ps).min? with
 | none =>
  rw[List.min?_eq_none_iff] at hm
  cases ps with
  | nil=>exact absurd rfl hne
  | cons p r=>simp at hm
 | some c =>
  obtain⟨h1,h2⟩:=RS.mp hm
  have gg:∀(ps:List Pr) (x:Int),x∈Us ps->∃(i:Nat) (p q:Pr),ps[i]?=some p/\ps[i+1]?=some q/\q.1-(p.1+p.2)=x:=by
   intro ps
   induction ps with
   | nil=>intro x hx;cases hx
   | cons p r ih =>
    intro x hx
    cases r with
    | nil=>cases hx
    | cons q r =>
     rcases Qk.mp hx with z|z
     ·exact⟨0,p,q,rfl,rfl,z.symm⟩
     ·obtain⟨i,a,b,e1,e2,e3⟩:=ih x z;exact⟨i+1,a,b,by simpa using e1,by simpa using e2,e3⟩
  have gm:∀(ps:List Pr) (i:Nat) (p q:Pr),ps[i]?=some p->ps[i+1]?=some q->q.1-(p.1+p.2)∈Us ps:=by
   intro ps
   induction ps with
   | nil=>intro i p q e;simp at e
   | cons a r ih =>
    intro i p q e1 e2
    cases r with
    | nil=>simp at e2
    | cons b r =>
     cases i with
     | zero=>simp at e1 e2;subst e1 e2;exact Qc
     | succ i=>exact Qd _ (ih i p q (by simpa using e1) (by simpa using e2))
  have w:Wide c ps:=⟨fun i p e=>h2 _ (Ko _ (QC.mpr ⟨p,QI e,rfl⟩)),fun i p q e1 e2=>h2 _ (G1 _ (gm ps i p q e1 e2))⟩
  have t:Jh8 c ps:=by
   rcases Gd.mp h1 with z|z
   ·obtain⟨p,hp,e⟩:=QC.mp z;exact .inl ⟨p,hp,e⟩
   ·exact .inr (gg ps c z)
  refine⟨c,rfl,?_,w,t⟩;rcases t with ⟨p,hp,e⟩|⟨i,p,q,e1,e2,e⟩
  ·have:=Good.all g p hp;omega
  ·have:=g.gap i p q e1 e2;omega
def Jdk(ps:List Pr)(h:ps.length<=1000):JX [.sh (.row (ps.map prE))]=some (match (ps.map (·.2)++Us ps).min? with|some c=>.sh (.int c)|none=>.sh .non):=by
 have hgl:=Ja8 ps;unfold JX;walk_at "ev";rw[JM (g:=fun p=>D.int p.2)]
 ·walk_at "ev";rw[Jor _ h];walk_at "ev";rw[show ps.map (fun p=>D.int p.2)++(Us ps).map .int=(ps.map (·.2)++Us ps).map D.int by rw[QF,QJ];rfl];walk_at "ev";cases (ps.map (·.2)++Us ps).min? <;> rfl
 ·intro p hp;simp only[prE];walk_at "ev"
noncomputable def UR(acc:List Pr)(p:Pr):List Pr:=match acc[acc.length-1]? with
 | some q=>if q.1+q.2=p.1 then acc.dropLast++[(q.1,q.2+p.2)] else if 0<p.2 then acc++[p] else acc
 | none=>if 0<p.2 then acc++[p] else acc
theorem V7:∀(r acc:List Pr) (cur:Pr),r.foldl UR (acc++[cur])=acc++clF cur r
 | [],acc,cur=>rfl
 | p::r,acc,cur=>by
  have e:(acc++[cur])[(acc++[cur]).length-1]?=some cur:=by simp
  have es:UR (acc++[cur]) p=if cur.1+cur.2=p.1 then acc++[(cur.1,cur.2+p.2)] else if 0<p.2 then acc++[cur]++[p] else acc++[cur]:=by unfold UR;rw[e];dsimp only;rw[List.dropLast_concat]
  rw[Gj,clF,es];split
  ·exact V7 r acc _
  ·split
   ·rw[V7 r (acc++[cur]) p,Q2];rfl
   ·exact V7 r acc cur
theorem Ja0:∀ps:List Pr,ps.foldl UR []=clN ps
 | []=>rfl
 | p::r=>by
  rw[Gj,clN];show r.foldl UR (if 0<p.2 then []++[p] else [])=_;split
  ·exact V7 r [] p
  ·exact Ja0 r
def Jjj(ps:List Pr)(h:ps.length<=1000):Yx [.sh (.lst (ps.map prE))]=some (.own ((clN ps).map prE)):=by
 unfold Yx;walk_at "ev";rw[Kh];refine YJ (fun(rest:List Pr) (acc:List Pr) E=>∃j2 j3 j4,E=[.sh (.lst (ps.map prE)),.own (acc.map prE),j2,j3,j4]/\acc.length+rest.length<=1000) UR [] ⟨.no,.no,.no,rfl,by simpa using h⟩ ?_ ?_
 ·rintro p rest acc E ⟨j2,j3,j4,rfl,hz⟩;rw[Qr] at hz;simp only[prE];walk_at "ev"
  cases he:acc[acc.length-1]? with
  | none =>
   have hn:acc=[]:=by
    cases acc with
    | nil=>rfl
    | cons a acc=>simp at he
   subst hn;rw[show(!(([]:List Pr).map prE).isEmpty)=false from rfl];walk_at "ev";have es:UR [] p=if 0<p.2 then [p] else []:=rfl
   rw[es]
   by_cases c:0<p.2
   ·rw[decide_eq_true c,if_pos c];walk_at "ev";exact⟨.sh (.int p.1),.sh (.int p.2),j4,rfl,by simp at hz ⊢;omega⟩
   ·rw[decide_eq_false c,if_neg c];walk_at "ev";exact⟨.sh (.int p.1),.sh (.int p.2),j4,rfl,by simp at hz ⊢;omega⟩
  | some q =>
   have hl0:acc.length-1<acc.length:=(Qq.mp he).1
   have hne:(!(acc.map prE).isEmpty)=true:=by cases acc with|nil=>simp at he|cons _ _=>rfl
   have hgq:(acc.map prE)[acc.length-1]?=some (prE q):=by rw[Qw,he];rfl
   have es:UR acc p=if q.1+q.2=p.1 then acc.dropLast++[(q.1,q.2+p.2)] else if 0<p.2 then acc++[p] else acc:=by unfold UR;rw[he]
   have hdl:acc.dropLast.length=acc.length-1:=R1;rw[hne,Uq,Jig he,es];walk_at "ev";rw[UT (s:=.sh (prE q)) (ns:=[q.1,q.2]) rfl];walk_at "ev";rw[show([q.1,q.2]:List Int).sum=q.1+q.2 by simp]
   by_cases c:q.1+q.2=p.1
   ·rw[decide_eq_true c,if_pos c,hgq];walk_at "ev";rw[<- List.map_dropLast];walk_at "ev";rw[U7,Y2];walk_at "ev";refine⟨.sh (.int p.1),.sh (.int p.2),.sh (prE q),?_,by rw[Qv,Q0];omega⟩;rw[QF];rfl
   ·rw[decide_eq_false c,if_neg c];walk_at "ev"
    by_cases c2:0<p.2
    ·rw[decide_eq_true c2,if_pos c2];walk_at "ev";refine⟨.sh (.int p.1),.sh (.int p.2),j4,?_,by rw[Qv,Q0];omega⟩;rw[QF];rfl
    ·rw[decide_eq_false c2,if_neg c2];walk_at "ev";exact⟨.sh (.int p.1),.sh (.int p.2),j4,rfl,by omega⟩
 ·rintro E' ⟨j2,j3,j4,rfl,_⟩;rw[Ja0];walk_at "ev"
noncomputable abbrev wC:En->Option Bool:=(tAnd? (tB? (e2 fGt (Jb 3) (eC (.int 0)))) (tTru? (e1 U6 (Jb 2))))
noncomputable abbrev wB:Es:=(Jh (Jm 4 (eF JaL (aC (Jb 3) (aC (eU 1 JX (aC (Jb 2) a0)) a0)))) (Jh (Jm 2 (eF ZK (aC (eU 1 Yx (aC (eU 2 Yc (aC (Jb 2) (aC (e1 JeC (Jb 4)) a0))) a0)) a0))) (Jfq (fun i j=>i-j) 3 (Jb 4))))
def V4(x y:Sl)(left:List Pr)(n:Nat)(j4:Sl)(fuel:Nat)(h:n=0\/left=[]) :
 ((YB wC wB (fuel+1) [x,y,.sh (.row (left.map prE)),.sh (.int (n:Int)),j4]).bind (Jfb (Y6 2))).bind Jez=some (.sh (.row ((thN n left).map prE))):=by
 have e:thN n left=left:=by
  rcases h with rfl|rfl
  ·rfl
  ·exact JgO n
 rw[e,YB]
 have hc:wC [x,y,.sh (.row (left.map prE)),.sh (.int (n:Int)),j4]=some false:=by
  show tAnd? _ _ _=_;walk_at "ev";rcases h with rfl | rfl
  ·rw[show decide ((0:Int)<((0:Nat):Int))=false from rfl];walk_at "ev"
  ·by_cases c:(0:Int)<(n:Int)
   ·rw[decide_eq_true c];walk_at "ev";rfl
   ·rw[decide_eq_false c];walk_at "ev"
 rw[hc];walk_at "ev"
def JkC(x y:Sl):∀(m fuel:Nat) (left:List Pr) (n:Nat) (j4:Sl),Good left->left.length<=m->left.length<=30->m<fuel ->
 ((YB wC wB fuel [x,y,.sh (.row (left.map prE)),.sh (.int (n:Int)),j4]).bind (Jfb (Y6 2))).bind Jez=some (.sh (.row ((thN n left).map prE))):=by
 intro m
 induction m with
 | zero =>
  intro fuel left n j4 g hm _ hf;obtain⟨f,rfl⟩:∃f,fuel=f+1:=⟨fuel-1,by omega⟩
  exact V4 x y left n j4 f (.inr (QA (by omega)))
 | succ m ih =>
  intro fuel left n j4 g hm h30 hf;obtain⟨f,rfl⟩:∃f,fuel=f+1:=⟨fuel-1,by omega⟩
  by_cases h0:n=0\/left=[]
  ·exact V4 x y left n j4 f h0
  ·have hn:n≠0:=fun z=>h0 (.inl z)
   have hl:left≠[]:=fun z=>h0 (.inr z)
   obtain⟨c,hc,c1,w,t⟩:=Jqi g hl;obtain⟨a,ha⟩:∃a:Nat,(a:Int)=min (n:Int) c:=⟨(min (n:Int) c).toNat,by omega⟩
   have hcl:=Jdk left (by omega);rw[hc] at hcl
   have et:thN a left=clN (byF (-(a:Int)) left):=JcG a w c1 (by omega)
   have gt:Good (thN a left):=Wr a g
   have lt:=(V6 (byF (-(a:Int)) left)).1;rw[UQ,<- et] at lt
   have hcond:wC [x,y,.sh (.row (left.map prE)),.sh (.int (n:Int)),j4]=some true:=by
    show tAnd? _ _ _=_;walk_at "ev";rw[decide_eq_true (show(0:Int)<(n:Int) by omega)];walk_at "ev"
    cases left with
    | nil=>exact absurd rfl hl
    | cons _ _=>rfl
   have hbody:wB [x,y,.sh (.row (left.map prE)),.sh (.int (n:Int)),j4]=some (.nx [x,y,.sh (.row ((thN a left).map prE)),.sh (.int ((n-a:Nat):Int)),.sh (.int (a:Int))]):=by show Jh _ _ _=_;walk_at "ev";rw[hcl];walk_at "ev";rw[<- ha,Jqx _ _ (by omega)];walk_at "ev";rw[Jjj _ (by rw[UQ];omega),<- et];walk_at "ev";rw[Vw rfl gt (by omega)];walk_at "ev";rw[show(n:Int)-(a:Int)=((n-a:Nat):Int) by omega]
   have fin:thN n left=thN (n-a) (thN a left):=by rw[<- Zq];congr 1;omega
   rw[YB,hcond,QK,if_pos rfl,hbody,QK,fin];dsimp only
   by_cases hac:(a:Int)=c
   ·have fw:=Jd6 t;rw[<- hac,<- et] at fw;exact ih f _ _ _ gt (by omega) (by omega) (by omega)
   ·obtain⟨f',rfl⟩:∃f',f=f'+1:=⟨f-1,by omega⟩
    exact V4 x y _ _ _ f' (.inl (by omega))
def WF(ps:List Pr)(n:Nat)(g:Good ps)(h30:ps.length<=30):Ye [.sh (.row (ps.map prE)),.sh (.int (n:Int))]=some (.sh (.row ((thN n ps).map prE))):=by unfold Ye;rw[show ∀(k:Nat) (s:Es) (ss:List Sl),Yr k s ss=Yr k s ss from fun _ _ _=>rfl];have hw:=JkC (.sh (.row (ps.map prE))) (.sh (.int (n:Int))) 30 1000000 ps n .no g h30 h30 (by decide);walk_at "ev";rw[Vw rfl g h30];walk_at "ev";exact hw
noncomputable abbrev Tr:=Int×Int×Int
noncomputable def trE(t:Tr):D:=.tup [.int t.1,.int t.2.1,.int t.2.2]
noncomputable def owF(left:List Pr)(s:Int):Int:=if Yd left (s-1)=true/\Yd left s=false then 1 else 0
def Jot(ps:List Pr)(s:Int)(h:ps.length<=1000):Ug [.sh (.row (ps.map prE)),.sh (.int s)]=some (.sh (.int (owF ps s))):=by
 unfold Ug owF;walk_at "ev";rw[Jdj _ _ h];walk_at "ev"
 cases h1:Yd ps (s-1) with
 | false=>walk_at "ev";rw[if_neg (by simp)]
 | true =>
  walk_at "ev";rw[Jdj _ _ h];walk_at "ev"
  cases h2:Yd ps s with
  | false=>walk_at "ev";rw[if_pos (by simp)]
  | true=>walk_at "ev";rw[if_neg (by simp)]
theorem Jdh{α β:Type}(f:α->β):∀(ks:List Int) (vs:List α) (n:Int),look ks (vs.map f) n=(look ks vs n).map f
 | [],_,_=>rfl
 | _::_,[],_=>rfl
 | k::ks,v::vs,n=>by
  rw[Qf];simp only[look];split
  ·rfl
  ·exact Jdh f ks vs n
theorem JdQ{α β:Type}(f:α->β):∀(ks:List Int) (vs:List α) (n:Int) (v:α),setK ks (vs.map f) n (f v)=(setK ks vs n v).map f
 | [],_,_,_=>rfl
 | _::_,[],_,_=>rfl
 | k::ks,x::vs,n,v=>by rw[Qf];simp only[setK,Qf];rw[JdQ f ks vs n v];split <;> rfl
def JhM{α β:Type}(f:α->β)(ks:List Int)(vs:List α)(n:Int)(v:α):putDs ks (vs.map f) n (f v)=(putDs ks vs n v).map f:=by
 unfold putDs;split
 ·exact JdQ f ks vs n v
 ·rw[QF];rfl
def Jjg(ks:List Int)(vs:List Int)(n z:Int):(look ks (vs.map D.int) n).getD (.int z)=.int ((look ks vs n).getD z):=by rw[Jdh];cases look ks vs n <;> rfl
def Jc8(a:List Pr)(s:Int):(YG a s).length<=a.length+1:=by
 induction a with
 | nil=>simp[YG]
 | cons p r ih =>
  rw[YG];split
  ·simp
  ·simp only[Qr];omega
def Jn8(a:List Pr):Jb5 (a.map (·.1)) ((a.map (·.2)).map D.int)=a.map prE:=by
 unfold Jb5
 induction a with
 | nil=>rfl
 | cons p r ih=>simp only[Qf,RM,ih];rfl
noncomputable def spF(qs:List Pr):List Int:=qs.zipIdx.map fun x=>x.1.1+x.1.2-1-2*(x.2:Int)
noncomputable def JZ(qs:List Pr):List Tr:=(Up (spF qs)).map fun p=>(p.1,p.2,owF (thF qs) p.1)
def JbK(L:List Int):∀a:List Pr,(L.foldl YG a).length<=a.length+L.length:=by
 induction L with
 | nil=>intro a;simp
 | cons s L ih=>intro a;have h1:=ih (YG a s);have h2:=Jc8 a s;rw[Gj,Qr];omega
def Jjl(qs:List Pr)(g:Good qs)(h30:qs.length<=30):Ua [.sh (.row (qs.map prE))]=some (.own ((JZ qs).map trE)):=by
 have h1:=WF qs 1 g h30;rw[show((1:Nat):Int)=1 from rfl,show thN 1 qs=thF qs from rfl] at h1
 have hl:=(V6 (byF (-1) qs)).1;rw[UQ,show clN (byF (-1) qs)=thF qs from rfl] at hl;unfold Ua;walk_at "ev";rw[h1];walk_at "ev";rw[ZF,Zg,Kh];refine YJ (f:=fun x:Pr×Nat=>D.tup [.int (x.2:Int),prE x.1]) (fun(rest:List (Pr×Nat)) (a:List Pr) E=>∃j3 j4 j5,E=[.sh (.row (qs.map prE)),.sh (.row ((thF qs).map prE)),.od (a.map (·.1)) ((a.map (·.2)).map .int),j3,j4,j5]/\(a.map (·.1)).Nodup/\a.length+rest.length<=30)
  (fun a x=>YG a (x.1.1+x.1.2-1-2*(x.2:Int))) [] ⟨.no,.no,.no,rfl,by simp,by simpa using h30⟩ ?_ ?_
 ·rintro x rest a E ⟨j3,j4,j5,rfl,hn,hz⟩;rw[Qr] at hz;have hil:=Jc8 a (x.1.1+x.1.2-1-2*(x.2:Int));walk_at "ev";rw[UT (s:=.sh (prE x.1)) (ns:=[x.1.1,x.1.2]) rfl];walk_at "ev";rw[show([x.1.1,x.1.2]:List Int).sum=x.1.1+x.1.2 by simp];rw[Jjg];walk_at "ev";rw[JhM,<- UE,<- Jba _ _ hn];refine⟨.sh (.int (x.2:Int)),.sh (prE x.1),_,rfl,?_,by omega⟩;rw[UE];exact Vd _ hn
 ·rintro E' ⟨j3,j4,j5,rfl,hn,_⟩
  have ef:qs.zipIdx.foldl (fun a x=>YG a (x.1.1+x.1.2-1-2*(x.2:Int))) []=Up (spF qs):=by unfold Up spF;rw[List.foldl_map]
  have hcl:=JbK (spF qs) []
  have hsl:(spF qs).length=qs.length:=by unfold spF;simp
  rw[ef];walk_at "ev";rw[Jn8,JM (g:=fun p=>trE (p.1,p.2,owF (thF qs) p.1))]
  ·rw[if_pos (by rw[Qm];show(Up (spF qs)).length<=_;unfold Up;simp at hcl;omega)];walk_at "ev";unfold JZ;rw[QJ];rfl
  ·intro p hp;simp only[prE];walk_at "ev";rw[Jot _ _ (by omega)];walk_at "ev";rfl
def JlE(ps:List Pr)(sp:List Int)(hp:ps.length<=1000)(hs:sp.length<=1000):YW [.sh (.row (ps.map prE)),.sh (.lst (sp.map .int))]=some (.own ((edF ps 0 0 sp).map prE)):=by
 unfold YW;walk_at "ev";rw[ZF,Zg,Kh];refine YJ (f:=fun x:Int×Nat=>D.tup [.int (x.2:Int),.int x.1]) (fun(rest:List (Int×Nat)) (s:List Pr×Int) E=>∃j4 j5 j6 j7,E=[.sh (.row (ps.map prE)),.sh (.lst (sp.map .int)),.own (s.1.map prE),.sh (.int s.2),j4,j5,j6,j7]/\s.1.length+rest.length<=1000)
  (fun s x=>(s.1++[(x.1+2*(x.2:Int)-(below ps x.1-s.2),below ps x.1-s.2+1)],below ps x.1)) ([],0) ⟨.no,.no,.no,.no,rfl,by simpa using hs⟩ ?_ ?_
 ·rintro x rest ⟨acc,c⟩ E ⟨j4,j5,j6,j7,rfl,hz⟩;rw[Qr] at hz;dsimp only at hz ⊢;walk_at "ev";rw[JlD _ _ hp];walk_at "ev";refine⟨.sh (.int (x.2:Int)),.sh (.int x.1),.sh (.int (below ps x.1)),.sh (.int (below ps x.1-c)),?_,by rw[Qv,Q0];omega (config:={})⟩;rw[QF];rfl
 ·rintro E' ⟨j4,j5,j6,j7,rfl,_⟩
  have ef:∀(sp:List Int) (i:Nat) (acc:List Pr) (c:Int),((sp.zipIdx i).foldl (fun(s:List Pr×Int) x=>(s.1++[(x.1+2*(x.2:Int)-(below ps x.1-s.2),below ps x.1-s.2+1)],below ps x.1)) (acc,c)).1=acc++edF ps i c sp:=by
   intro sp
   induction sp with
   | nil=>intro i acc c;simp[edF]
   | cons s r ih=>intro i acc c;rw[LN,Gj,ih,edF,Q2];rfl
  rw[ef,Gk];walk_at "ev"
def JlH(ps:List Pr)(n:Nat)(g:Good ps)(h:ps.length<=30):Yy [.sh (.row (ps.map prE)),.sh (.int (n:Int))]=some (.sh (.row ((byF (n:Int) ps).map prE))):=by unfold Yy;walk_at "ev";rw[Jqx _ _ (by omega)];walk_at "ev";rw[Vw rfl (((Ub g).bys (k:=(n:Int))).good (by omega)) (by rw[UQ];exact h)];walk_at "ev"
noncomputable def JC(ps:List Pr):List Int:=ps.map fun p=>p.1+p.2
noncomputable def Yp(prs:List Pr):List Int:=prs.flatMap fun p=>QM p.2.toNat p.1
def JqE(ps prs:List Pr)(g:Good ps)(hn:∀p∈prs,0<=p.2)(h:(ps.length:Int)+(prs.map (·.2)).sum<=30)(hp:ps.length<=30)(hq:prs.length<=30) :
 Y9 [.sh (.row (ps.map prE)),.sh (.lst (prs.map prE))]=some (.sh (.row ((edF ps 0 0 (Yq (JC ps++Yp prs))).map prE))):=by
 have ml:∀(prs:List Pr),(∀p∈prs,0<=p.2)->((Yp prs).length:Int)=(prs.map (·.2)).sum:=by
  intro prs
  induction prs with
  | nil=>intro _;rfl
  | cons p r ih =>
   intro hn;have h1:=ih fun q hq=>hn q (Qd _ hq)
   have h2:=hn p Qc;unfold Yp at *;rw[Gf,Qv,GM,Qf,QG];omega
 have hml:=ml prs hn
 have hsl:(Yq (JC ps++Yp prs)).length=ps.length+(Yp prs).length:=by rw[(JO _).length_eq,Qv];unfold JC;rw[Qm]
 have ge:=(Jkw g (UN (JC ps++Yp prs)) fun p hp=>(JO _).mem_iff.mpr (Ko _ (QC.mpr ⟨p,hp,rfl⟩))).1
 have el:=Jey ps (Yq (JC ps++Yp prs)) 0 0;unfold Y9;walk_at "ev";rw[JM (g:=fun p=>D.int p.2)]
 ·walk_at "ev";rw[UT (ns:=prs.map (·.2)) (by simp[Sl.q])];walk_at "ev";rw[decide_eq_false (by omega)];walk_at "ev";rw[JM (g:=fun p=>D.int (p.1+p.2))]
  ·walk_at "ev";rw[show ps.map (fun p=>D.int (p.1+p.2))=(JC ps).map D.int by unfold JC;rw[QJ];rfl,Kh];refine YJ (fun(rest:List Pr) (L:List Int) E=>∃j3 j4,E=[.sh (.row (ps.map prE)),.sh (.lst (prs.map prE)),.own (L.map .int),j3,j4]/\(L.length:Int)+(rest.map (·.2)).sum<=30/\∀p∈rest,0<=p.2) (fun L p=>L++QM p.2.toNat p.1) (JC ps) ⟨.no,.no,rfl,by unfold JC;rw[Qm];exact h,hn⟩ ?_ ?_
   ·rintro p rest L E ⟨j3,j4,rfl,hz,hr⟩;have h2:=hr p Qc
    have hs:0<=(rest.map (·.2)).sum:=by
     have:=ml rest fun q hq=>hr q (Qd _ hq)
     omega
    rw[Qf,QG] at hz;simp only[prE];walk_at "ev";rw[ZJ (d:=D.int p.1) rfl (Jb3 ⟨by omega,by omega⟩) (by omega)];walk_at "ev";rw[GM,if_pos (by omega)];refine⟨.sh (.int p.1),.sh (.int p.2),?_,by rw[Qv,GM];omega,fun q hq=>hr q (Qd _ hq)⟩;rw[QF,Ln]
   ·rintro E' ⟨j3,j4,rfl,_,_⟩
    have ef:∀(prs:List Pr) (L:List Int),prs.foldl (fun L p=>L++QM p.2.toNat p.1) L=L++Yp prs:=by
     intro prs
     induction prs with
     | nil=>intro L;simp[Yp]
     | cons p r ih=>intro L;rw[Gj,ih];unfold Yp;rw[Gf,Q2]
    rw[ef];have hlt:(JC ps++Yp prs).length<64:=by rw[Qv];unfold JC;rw[Qm];omega
    walk_at "ev";rw[JlE _ _ (by omega) (by omega)];walk_at "ev";rw[Vw rfl ge (by omega)];walk_at "ev"
  ·intro p hp;simp only[prE];walk_at "ev"
 ·intro p hp;simp only[prE];walk_at "ev"
def Jcn(g:Good qs)(s:Int):owF qs s=if s∈JC qs then 1 else 0:=by
 unfold owF
 by_cases c:s∈JC qs
 ·rw[if_pos c];obtain⟨p,hp,rfl⟩:=QC.mp c;have h1:=Good.all g p hp;rw[if_pos];refine⟨has_iff.mpr ⟨p,hp,by omega,by omega⟩,?_⟩
  cases h:Yd qs (p.1+p.2) with
  | false=>rfl
  | true =>
   obtain⟨q,hq,a1,a2⟩:=has_iff.mp h;have pw:=Good.pw g;obtain⟨i,hi,rfl⟩:=GU.mp hp;obtain⟨j,hj,rfl⟩:=GU.mp hq;rcases LF i j with z|z|z
   ·have:=GR.mp pw i j hi hj z;omega
   ·subst z;omega
   ·have:=GR.mp pw j i hj hi z;omega
 ·rw[if_neg c,if_neg];rintro⟨h1,h2⟩;obtain⟨p,hp,a1,a2⟩:=has_iff.mp h1;refine c (QC.mpr ⟨p,hp,?_⟩);rcases Jhx s (p.1+p.2) with z|z
  ·rw[has_iff.mpr ⟨p,hp,by omega,z⟩] at h2;cases h2
  ·omega
def Jk4(g:Good ps):(JC ps).Pairwise (·<·):=by
 unfold JC;rw[Mi];refine(Good.pw g).imp_of_mem fun {a b} _ hb h=>?_
 have:=Good.all g b hb;omega
def JbR(g:Good ps):(JC ps).Nodup:=(Jk4 g).imp fun {a b} h=>by omega
def Jny(k:Int)(ps:List Pr):spF (byF (k+1) ps)=JC (byF k ps):=by
 unfold spF JC;refine GX fun i=>?_
 rw[Qw,Qw,Mz];unfold byF;rw[QZ,QZ]
 cases ps[i]? with
 | none=>rfl
 | some p =>
  simp only[Lx];congr 1;have e:2*(k+1)*(i:Int)=2*k*(i:Int)+2*(i:Int):=by rw[My,R8];simp
  simp only[MP];rw[e];omega
def Jrw(ps:List Pr)(sp:List Int):spF (edF ps 0 0 sp)=sp:=by
 refine GX fun i=>?_
 unfold spF;rw[Qw,Mz,KP]
 cases h:(edF ps 0 0 sp)[i]? with
 | none=>rw[LV,Jey] at h;rw[GO h];rfl
 | some q=>obtain⟨s,h1,h2⟩:=JfN ps sp 0 0 i q h;rw[h1];simp only[Lx,Function.comp];rw[MP] at h2;rw[MP,h2]
def JhX(g:Good ps)(n:Nat):JZ (byF ((n:Int)+1) ps)=(byF (n:Int) ps).map fun p=>(p.1+p.2,1,1):=by
 have gw:=Ub g
 have gn:Good (byF (n:Int) ps):=(gw.bys (k:=(n:Int))).good (by omega)
 have et:thF (byF ((n:Int)+1) ps)=byF (n:Int) ps:=by have:=JaB (n:=1) (gw.bys (k:=(n:Int)+1)) (by omega) (by omega);rw[show thF (byF ((n:Int)+1) ps)=thN 1 (byF ((n:Int)+1) ps) from rfl,this,JfA];congr 1;omega
 unfold JZ Up;rw[et,Jny,JfF (JC (byF (n:Int) ps)) [] (by simpa using JbR gn),Gk,QJ];unfold JC;rw[QJ];refine GQ fun p hp=>?_
 simp only[Function.comp];rw[Jcn gn,if_pos (show p.1+p.2∈JC (byF (n:Int) ps) from QC.mpr ⟨p,hp,rfl⟩)]
theorem Ja2:∀{l:List Int} {k:Int},l.Nodup->k∈l->l.count k=1
 | [],_,_,h=>by cases h
 | a::l,k,hn,h=>by
  rw[QY] at hn;rw[List.count_cons]
  by_cases c:a=k
  ·subst c;rw[Lo.mpr hn.1];simp
  ·have hm:k∈l:=(Qk.mp h).resolve_left fun z=>c z.symm
   rw[Ja2 hn.2 hm];simp[c]
theorem Jiv:∀(L:List Int) (a:List Pr),(a.map (·.1)).Pairwise (·<·)->(∀k∈a.map (·.1),∀s∈L,k<=s)->L.Pairwise (·<=·)->((L.foldl YG a).map (·.1)).Pairwise (·<·)
 | [],a,h,_,_=>h
 | s::L,a,h,hk,hL=>by
  obtain⟨l1,l2⟩:=QB.mp hL;rw[Gj];have e:(YG a s).map (·.1)=Jv (a.map (·.1)) s:=UE s a;refine Jiv L (YG a s) ?_ (fun k hk' t ht=>?_) l2
  ·rw[e];unfold Jv;split
   ·exact h
   ·next c =>
    rw[Kq];refine⟨h,by simp,fun k hk' t ht=>?_⟩;have ht':t=s:=by simpa using ht
    subst ht';have h1:=hk k hk' t Qc;have h2:k≠t:=fun z=>c (hasK_mem.mpr (by rw[<- z];exact hk'))
    omega
  ·rw[e] at hk';unfold Jv at hk';split at hk'
   ·exact hk k hk' t (Qd _ ht)
   ·rcases Gd.mp hk' with z|z
    ·exact hk k z t (Qd _ ht)
    ·have z':k=s:=by simpa using z
     subst z';exact l1 t ht
theorem Jkg:∀{ps:List Pr} (i:Nat),Good ps->((ps.zipIdx i).map fun x=>x.1.1+x.1.2-1-2*(x.2:Int)).Pairwise (·<=·)
 | [],_,_=>.nil
 | [p],i,_=>by simp
 | p::q::r,i,g=>by
  have ih:=Jkg (i+1) (Good.cons' g)
  have h1:=g.gap 0 p q rfl rfl
  have h2:=g.one 1 q rfl;rw[LN,Qf];refine QB.mpr ⟨fun t ht=>?_,ih⟩;rw[LN,Qf] at ih ht
  have hq:p.1+p.2-1-2*(i:Int)<=q.1+q.2-1-2*((i+1:Nat):Int):=by omega
  rcases Qk.mp ht with z|z
  ·subst z;exact hq
  ·have:=(QB.mp ih).1 t z;dsimp only at this ⊢;omega
noncomputable def YS(k:Int)(qs:List Pr):List Tr:=((JZ qs).filter fun t=>decide (t.2.1>t.2.2)).map fun t=>(k,t.1,t.2.1-t.2.2)
noncomputable def tbN:Nat->Int->List Pr->List Tr
 | 0,_,_=>[]
 | n+1,k,qs=>YS (k+1) qs++tbN n (k+1) (thF qs)
theorem JcF:∀(n:Nat) (k:Int),tbN n k []=[]
 | 0,_=>rfl
 | n+1,k=>by rw[tbN,show thF []=[] from rfl,JcF n (k+1)];rfl
def Jjf(g:Good (byF (-1) qs))(k:Int):YS k qs=[]:=by
 have e:qs=byF (((0:Nat):Int)+1) (byF (-1) qs):=by rw[JfA,show((0:Nat):Int)+1+-1=0 by omega,W9]
 unfold YS;rw[e,JhX g 0,List.filter_map,QJ,Lp.mpr]
 ·rfl
 ·intro p hp;simp
def Jfi(qs:List Pr):(spF qs).length=qs.length:=by unfold spF;simp
def Jlu(k:Int)(qs:List Pr):(YS k qs).length<=qs.length:=by
 unfold YS JZ;rw[Qm];refine Gy (LB _ _) ?_;rw[Qm];have:=JbK (spF qs) [];rw[Jfi] at this;unfold Up
 simpa using this
def JgM(w:Wide c qs)(c1:1<=c):∀(j m:Nat) (k:Int),((j:Int)<c)->tbN (j+m) k qs=tbN m (k+(j:Int)) (thN j qs):=by
 intro j
 induction j generalizing c qs with
 | zero=>intro m k _;rw[MP];simp[thN]
 | succ j ih=>intro m k hj;have w1:Wide (c+-1) (byF (-1) qs):=w.bys;have g1:Good (byF (-1) qs):=w1.good (by omega);have e:thF qs=byF (-1) qs:=JbJ g1;rw[show j+1+m=(j+m)+1 by omega,tbN,Jjf g1,Gk,e,ih w1 (by omega) m (k+1) (by omega)];show _=tbN m (k+((j+1:Nat):Int)) (thN j (thF qs));rw[e];congr 1;omega
def Jkv(w:Wide c qs)(c1:1<=c)(hne:qs≠[])(j:Nat)(hj:(j:Int)<c):thN j qs≠[]:=by rw[JaB w c1 hj];intro z;have:=UQ (-(j:Int)) qs;rw[z] at this;exact hne (QA this.symm)
def Jku(w:Wide c qs)(c1:1<=c)(hne:qs≠[])(hN:thN N qs=[])(k:Int):∃C:Nat,(C:Int)=c/\C<=N/\tbN N k qs=YS (k+c) (thN (C-1) qs)++tbN (N-C) (k+c) (thN C qs)/\thN (N-C) (thN C qs)=[]:=by
 obtain⟨C,hC⟩:∃C:Nat,(C:Int)=c:=⟨c.toNat,by omega⟩
 have hCN:C<=N:=by
  rcases LO N C with z|z
  ·exact absurd hN (Jkv w c1 hne N (by omega))
  ·exact z
 refine⟨C,hC,hCN,?_,by rw[<- Zq,show C+(N-C)=N by omega];exact hN⟩;have e:=JgM w c1 (C-1) (N-C+1) k (by omega);rw[show C-1+(N-C+1)=N by omega] at e;rw[e,tbN,<- Jbp,show C-1+1=C by omega,show k+((C-1:Nat):Int)+1=k+c by omega]
def ZY(h:t∈YS k qs):t.1=k:=by obtain⟨u,_,e⟩:=QC.mp h;rw[<- e]
theorem JcH:∀(n:Nat) (ps:List Pr),(thN n ps).length<=ps.length
 | 0,ps=>Qp _
 | n+1,ps=>by
  show(thN n (thF ps)).length<=_
  have h1:=JcH n (thF ps)
  have h2:=(V6 (byF (-1) ps)).1;rw[UQ] at h2
  have h3:(thF ps).length=(clN (byF (-1) ps)).length:=rfl;omega
noncomputable abbrev tbC:En->Option Bool:=(tTru? (e1 U6 (Jb 2)))
noncomputable abbrev tbB:Es:=(Jh (Jm 4 (eU 1 JX (aC (Jb 2) a0))) (Jh (Jfq (fun i j=>i+j) 3 (Jb 4)) (Jh (Jm 2 (eU 2 Ye (aC (Jb 2) (aC (e2 Yz (Jb 4) (eC (.int 1))) a0)))) (Jh (Jd9 1 (Yi (iE true (eU 1 Ua (aC (Jb 2) a0))) (.tp (.cons (.nm 0) (.cons (.nm 1) (.cons (.nm 2) .nil)))) (tB? (e2 fGt (Jb 1) (Jb 2))) (J9 (aC (Jb 3) (aC (Jb 0) (aC (e2 Yz (Jb 1) (Jb 2)) a0)))) [none,none,none,some 3])) (Jm 2 (eU 2 Ye (aC (Jb 2) (aC (eC (.int 1)) a0))))))))
def Jd4(j0 j4:Sl)(acc:List Tr)(k:Int)(fuel:Nat):((YB tbC tbB (fuel+1) [j0,.own (acc.map trE),.sh (.row (([]:List Pr).map prE)),.sh (.int k),j4]).bind (Jfb (Y6 1))).bind Jez=some (.own (acc.map trE)):=by rw[YB];have hc:tbC [j0,.own (acc.map trE),.sh (.row (([]:List Pr).map prE)),.sh (.int k),j4]=some false:=rfl;rw[hc];walk_at "ev"
def JpS(j0:Sl):∀(m fuel:Nat) (left:List Pr) (acc:List Tr) (k:Int) (j4:Sl) (N:Nat),Good left->left.length<=m->left.length<=30->m<fuel->thN N left=[]->acc.length+30*left.length<=10000 ->
 ((YB tbC tbB fuel [j0,.own (acc.map trE),.sh (.row (left.map prE)),.sh (.int k),j4]).bind (Jfb (Y6 1))).bind Jez=some (.own ((acc++tbN N k left).map trE)):=by
 intro m
 induction m with
 | zero =>
  intro fuel left acc k j4 N g hm _ hf _ _;obtain⟨f,rfl⟩:∃f,fuel=f+1:=⟨fuel-1,by omega⟩
  have:left=[]:=QA (by omega);subst this;rw[Jd4,JcF,Gi]
 | succ m ih =>
  intro fuel left acc k j4 N g hm h30 hf hN hacc;obtain⟨f,rfl⟩:∃f,fuel=f+1:=⟨fuel-1,by omega⟩
  by_cases h0:left=[]
  ·subst h0;rw[Jd4,JcF,Gi]
  ·obtain⟨c,hc,c1,w,t⟩:=Jqi g h0;obtain⟨C,hC,hCN,eT,eN⟩:=Jku w c1 h0 hN k;have hcl:=Jdk left (by omega);rw[hc] at hcl;have g1:=Wr (C-1) g;have l1:=JcH (C-1) left;have l2:=JcH C left;have fw:=Jd6 t;rw[<- hC,<- JcG C w c1 (by omega)] at fw;have ll:=Jlu (k+c) (thN (C-1) left)
   have hcond:tbC [j0,.own (acc.map trE),.sh (.row (left.map prE)),.sh (.int k),j4]=some true:=by
    walk_at "ev"
    cases left with
    | nil=>exact absurd rfl h0
    | cons _ _=>rfl
   have hth:=WF (thN (C-1) left) 1 g1 (by omega);rw[show((1:Nat):Int)=1 from rfl,show thN 1 (thN (C-1) left)=thN C left by rw[<- Zq,show C-1+1=C by omega]] at hth
   have hbody:tbB [j0,.own (acc.map trE),.sh (.row (left.map prE)),.sh (.int k),j4]=some (.nx [j0,.own ((acc++YS (k+c) (thN (C-1) left)).map trE),.sh (.row ((thN C left).map prE)),.sh (.int (k+c)),.sh (.int c)]):=by
    walk_at "ev";rw[hcl];walk_at "ev";rw[show c-1=((C-1:Nat):Int) by omega,WF _ _ g (by omega)];walk_at "ev";rw[Jjl _ g1 (by omega)];walk_at "ev";rw[Zd (g:=fun t:Tr=>trE (k+c,t.1,t.2.1-t.2.2)) (k:=fun t:Tr=>decide (t.2.1>t.2.2))]
    ·have el:((JZ (thN (C-1) left)).filter fun t=>decide (t.2.1>t.2.2)).map (fun t:Tr=>trE (k+c,t.1,t.2.1-t.2.2))=(YS (k+c) (thN (C-1) left)).map trE:=by unfold YS;rw[QJ];rfl
     rw[el]
     have hsl:(JZ (thN (C-1) left)).length<=30:=by unfold JZ;rw[Qm];have:=JbK (spF (thN (C-1) left)) [];rw[Jfi] at this;unfold Up;simp at this;omega
     walk_at "ev";rw[hth];walk_at "ev";rw[<- QF]
    ·intro t ht;simp only[trE];refine⟨?_,fun _=>?_⟩
     ·walk_at "ev"
      first|rfl|done
     ·walk_at "ev"
      first|rfl|done
   rw[YB,hcond,QK,if_pos rfl,hbody,QK,eT,<- Q2];exact ih f _ _ _ _ _ (Wr C g) (by omega) (by omega) (by omega) eN (by rw[Qv];omega)
def JlG(ps:List Pr)(N:Nat)(g:Good ps)(h:ps.length<=30)(hN:thN N ps=[]):YX [.sh (.row (ps.map prE))]=some (.own ((tbN N 0 ps).map trE)):=by have go:=JpS (.sh (.row (ps.map prE))) 30 1000000 ps [] 0 .no N g h h (by decide) hN (by simp;omega);unfold YX;walk_at "ev";exact go
theorem Zc:∀(cur:Pr) (r:List Pr),(∀p∈r,0<=p.2)->((clF cur r).map (·.2)).sum=cur.2+(r.map (·.2)).sum
 | cur,[],_=>by simp[clF]
 | cur,p::r,h=>by
  have h0:=h p Qc
  have hr:=fun q hq=>h q (Qd p hq)
  rw[clF,Qf,QG];split
  ·rw[Zc _ r hr];dsimp only;omega
  ·split
   ·rw[Qf,QG,Zc p r hr]
   ·rw[Zc cur r hr];omega
theorem JfC:∀(ps:List Pr),(∀p∈ps,0<=p.2)->((clN ps).map (·.2)).sum=(ps.map (·.2)).sum
 | [],_=>rfl
 | p::r,h=>by
  have h0:=h p Qc
  have hr:=fun q hq=>h q (Qd p hq)
  rw[clN,Qf,QG];split
  ·exact Zc p r hr
  ·rw[JfC r hr];omega
def JnN(k:Int):∀(ps:List Pr),((byF k ps).map (·.2)).sum=(ps.map (·.2)).sum+k*(ps.length:Int):=by
 intro ps
 have e:(byF k ps).map (·.2)=ps.map fun p=>p.2+k:=by
  refine GX fun i=>?_
  unfold byF;rw[Qw,QZ,Qw,KP];rfl
 rw[e]
 induction ps with
 | nil=>simp
 | cons p r ih =>
  have ih':=ih (by
   refine GX fun i=>?_
   unfold byF;rw[Qw,QZ,Qw,KP];rfl)
  rw[Qf,QG,ih',Qf,QG,Qr,MJ,My];simp;omega
theorem Zp:∀{ps:List Pr},(∀p∈ps,1<=p.2)->(ps.length:Int)<=(ps.map (·.2)).sum
 | [],_=>GK _
 | p::ps,h=>by
  have h1:=h p Qc
  have h2:=Zp fun q hq=>h q (Qd _ hq)
  rw[Qf,QG,Qr];omega
def JgN(g:Good ps):((thF ps).map (·.2)).sum=(ps.map (·.2)).sum-(ps.length:Int):=by
 unfold thF;rw[JfC,JnN]
 ·omega
 ·intro x hx;obtain⟨i,hi,rfl⟩:=GU.mp hx;have e:(byF (-1) ps)[i]?=some (byF (-1) ps)[i]:=by simp
  obtain⟨p,hp,e2⟩:=JbF e;rw[e2];have:=g.one i p hp;dsimp only;omega
theorem UZ:∀(n:Nat) {ps:List Pr},Good ps->(ps.map (·.2)).sum<=(n:Int)->thN n ps=[]
 | 0,ps,g,h=>by
  have:=Zp (Good.all g)
  show ps=[]
  exact QA (by omega)
 | n+1,ps,g,h=>by
  show thN n (thF ps)=[]
  refine UZ n (Yw g) ?_;rw[JgN g]
  by_cases hl:ps.length=0
  ·have:ps=[]:=QA hl;subst this;simp
  ·omega
theorem JfG:∀(L:List Int) (a:List Pr),((L.foldl YG a).map (·.2)).sum=(a.map (·.2)).sum+(L.length:Int)
 | [],a=>by simp
 | s::L,a=>by
  have e:∀a:List Pr,((YG a s).map (·.2)).sum=(a.map (·.2)).sum+1:=fun a=>by
   induction a with
   | nil=>simp[YG]
   | cons p r ih =>
    rw[YG];split
    ·simp only[Qf,QG];omega
    ·simp only[Qf,QG];omega
  rw[Gj,JfG L,e,Qr];omega
theorem JgE{α:Type}:∀(l:List α),(l.map fun _=>(0:Int)).sum=0
 | []=>rfl
 | _::l=>by rw[Qf,QG,JgE l];rfl
theorem Ji7:∀(M K:List Int),M.Nodup->K.Nodup->(∀x∈M,x∈K)->(K.map fun s=>if s∈M then(1:Int) else 0).sum=(M.length:Int)
 | [],K,_,_,_=>by rw[show(fun s:Int=>if s∈([]:List Int) then(1:Int) else 0)=fun _=>0 from funext fun s=>if_neg (by simp)];exact JgE K
 | m::M,K,hm,hk,h=>by
  obtain⟨h1,h2⟩:=QY.mp hm;have ih:=Ji7 M K h2 hk fun x hx=>h x (Qd _ hx)
  have one:∀K:List Int,K.Nodup->(K.map fun s=>if s∈m::M then(1:Int) else 0).sum=(K.map fun s=>if s∈M then(1:Int) else 0).sum+(if m∈K then 1 else 0):=fun K hk=>by
   induction K with
   | nil=>rfl
   | cons k K ihK =>
    obtain⟨a1,a2⟩:=QY.mp hk;rw[Qf,QG,Qf,QG,ihK a2]
    by_cases c:k=m
    ·subst c;rw[if_pos Qc,if_neg h1,if_neg a1,if_pos Qc];omega
    ·have e1:(k∈m::M)=(k∈M):=by simp[c]
     have e2:(m∈k::K)=(m∈K):=by simp[Q3 c]
     simp only[e1,e2];omega
  rw[one K hk,ih,if_pos (h m Qc),Qr];omega
theorem V9:∀(r:List Pr) (cur:Pr) (e:Int),e∈JC (clF cur r)->e∈JC (cur::r)
 | [],_,_,h=>h
 | p::r,cur,e,h=>by
  unfold JC at h ⊢;rw[clF] at h;split at h
  ·next c =>
   have:=V9 r _ e h;unfold JC at this;simp only[Qf,Qk] at this ⊢;rcases this with z|z
   ·exact .inr (.inl (by omega))
   ·exact .inr (.inr z)
  ·split at h
   ·rw[Qf,Qk] at h;rcases h with z|z
    ·rw[z];simp
    ·have:=V9 r p e z;unfold JC at this;rw[Qf];exact Qd _ this
   ·have:=V9 r cur e h;unfold JC at this;simp only[Qf,Qk] at this ⊢;rcases this with z|z
    ·exact .inl z
    ·exact .inr (.inr z)
theorem Jc2:∀(ps:List Pr) (e:Int),e∈JC (clN ps)->e∈JC ps
 | [],_,h=>h
 | p::r,e,h=>by
  rw[clN] at h;split at h
  ·exact V9 r p e h
  ·have:=Jc2 r e h;unfold JC at this ⊢;rw[Qf];exact Qd _ this
def JfO(h:e∈JC (thF qs)):e∈spF qs:=by
 have:=Jc2 _ e h
 have z:=Jny (-1) qs;rw[show(-1:Int)+1=0 by omega,W9] at z;rw[z];exact this
noncomputable def Jw(l:List Tr):Int:=(l.map (·.2.2)).sum
theorem JbT{α:Type}(f:α->Int)(k:α->Bool):∀(l:List α),(∀x∈l,k x=false->f x=0)->((l.filter k).map f).sum=(l.map f).sum
 | [],_=>rfl
 | x::l,h=>by
  have ih:=JbT f k l fun y hy=>h y (Qd _ hy)
  rw[Qf,QG]
  cases c:k x with
  | true=>rw[Q7 c,Qf,QG,ih]
  | false=>rw[G4 (by rw[c];simp),ih,h x Qc c,RH]
theorem JgF{α:Type}(f g:α->Int):∀(l:List α),(l.map fun x=>f x-g x).sum=(l.map f).sum-(l.map g).sum
 | []=>rfl
 | x::l=>by rw[Qf,QG,Qf,QG,Qf,QG,JgF f g l];omega
theorem JgC{α:Type}(f g:α->Int):∀(l:List α),(l.map fun x=>f x+g x).sum=(l.map f).sum+(l.map g).sum
 | []=>rfl
 | x::l=>by rw[Qf,QG,Qf,QG,Qf,QG,JgC f g l];omega
def Jf8(g:Good qs)(k:Int):Jw (YS k qs)=(qs.length:Int)-((thF qs).length:Int):=by
 obtain⟨c1,c2,c3⟩:=Jiu (spF qs);have nd:=JbR (Yw g);unfold Jw YS;rw[QJ];have e1:(((JZ qs).filter fun t=>decide (t.2.1>t.2.2)).map ((fun t:Tr=>t.2.2) ∘ fun t:Tr=>(k,t.1,t.2.1-t.2.2))).sum=(((JZ qs).filter fun t=>decide (t.2.1>t.2.2)).map fun t=>t.2.1-t.2.2).sum:=rfl;rw[e1,JbT]
 ·unfold JZ;rw[QJ]
  have e2:((Up (spF qs)).map ((fun t:Tr=>t.2.1-t.2.2) ∘ fun p:Pr=>((p.1,p.2,owF (thF qs) p.1):Tr))).sum=((Up (spF qs)).map fun p=>p.2-(if p.1∈JC (thF qs) then(1:Int) else 0)).sum:=by
   congr 1;refine GQ fun p _=>?_
   show p.2-owF (thF qs) p.1=_;rw[Jcn (Yw g)]
  rw[e2,JgF];have e3:=JfG (spF qs) [];have e4:=Ji7 (JC (thF qs)) ((Up (spF qs)).map (·.1)) nd c1 fun x hx=>QC.mpr ⟨_,c3 x (JfO hx),rfl⟩
  rw[QJ] at e4;have e5:((Up (spF qs)).map fun p=>if p.1∈JC (thF qs) then(1:Int) else 0).sum=((JC (thF qs)).length:Int):=e4
  have e6:((Up (spF qs)).map (·.2)).sum=((spF qs).length:Int):=by unfold Up;rw[e3];simp
  rw[e5,e6,Jfi];unfold JC;rw[Qm]
 ·intro t ht c;unfold JZ at ht;obtain⟨p,hp,rfl⟩:=QC.mp ht;obtain⟨v1,v2⟩:=c2 p hp;have:0<(spF qs).count p.1:=M3.mpr v2;have o:=Jcn (Yw g) p.1;have c':=of_decide_eq_false c;dsimp only at c' ⊢;rw[o] at c' ⊢
  by_cases z:p.1∈JC (thF qs)
  ·rw[if_pos z] at c' ⊢;omega
  ·rw[if_neg z] at c' ⊢;omega
theorem JaA:∀(n:Nat) (k:Int) {qs:List Pr},Good qs->thN n qs=[]->Jw (tbN n k qs)=(qs.length:Int)
 | 0,k,qs,g,h=>by have:qs=[]:=h;subst this;rfl
 | n+1,k,qs,g,h=>by
  have ih:=JaA n (k+1) (Yw g) h
  have l:=Jf8 g (k+1);unfold Jw at *;rw[tbN,QF,MB,ih,l];omega
theorem Jcc{α β:Type}{p:Pt}{b:Es}{f:α->D}(R:List α->β->En->Prop)(g:β->α->β):∀{as:List α} {E:En} (s:β) (h0:R as s E)
 (h:∀a as s E,R (a::as) s E->okS (R as (g s a)) ((p.bind (f a) E).bind b)),∃E',R [] (as.foldl g s) E'/\JD p b (as.map f) E=some (.nx E')
 | [],E,s,h0,_=>⟨E,h0,rfl⟩
 | a::as,E,s,h0,h=>by
  obtain⟨E2,e2,r2⟩:=Z3 (h a as s E h0);obtain⟨E',h1,h2⟩:=Jcc R g (as:=as) (E:=E2) (g s a) r2 h;refine⟨E',h1,?_⟩;rw[Qf,JD]
  cases hp:p.bind (f a) E with
  | none=>rw[hp] at e2;rcases e2 with e2|e2 <;> cases e2
  | some E1=>rw[hp,QK] at e2;rw[QK];rcases e2 with e2|e2 <;> (rw[e2,QK];exact h2)
def Z1(prs:List Pr)(s:Int):((Yp prs).count s:Int)=(prs.map fun p=>if p.1=s then((p.2.toNat:Nat):Int) else 0).sum:=by
 induction prs with
 | nil=>rfl
 | cons p r ih =>
  unfold Yp at *;rw[Gf,KY,Qf,QG,<- ih,List.count_replicate];split <;> rename_i c
  ·have c':p.1=s:=by simpa using c
   rw[if_pos c'];omega
  ·have c':¬p.1=s:=by simpa using c
   rw[if_neg c'];omega
def Jgd(f:Pr->Int)(hn:(a.map (·.1)).Nodup)(s:Int):(a.map fun p=>if p.1=s then f p else 0).sum=if s∈a.map (·.1) then f (s,lk s a) else 0:=by
 induction a with
 | nil=>rfl
 | cons p r ih =>
  rw[Qf,QY] at hn;rw[Qf,QG,ih hn.2,lk]
  by_cases c:p.1=s
  ·subst c;rw[if_pos rfl,if_pos rfl,if_neg hn.1,if_pos (by simp)];simp
  ·rw[if_neg c,if_neg c,RH];have:(s∈(p::r).map (·.1))=(s∈r.map (·.1)):=by simp[Q3 c]
   simp only[this]
noncomputable def Jcq(l:List Tr):List Pr:=l.map fun t=>(t.2.1,t.2.2)
def JhW(g:Good q)(k:Int):Yq (JC (thF q)++Yp (Jcq (YS k q)))=spF q:=by
 obtain⟨c1,c2,c3⟩:=Jiu (spF q);have gt:=Yw g;have nd:=JbR gt;refine List.Perm.eq_of_pairwise (le:=(·<=·)) (fun a b _ _ h1 h2=>by omega) (UN _) (Jkg 0 g) ((JO _).trans (List.perm_iff_count.mpr fun s=>?_));rw[KY]
 have e1:((Yp (Jcq (YS k q))).count s:Int)=if s∈spF q then((spF q).count s:Int)-(if s∈JC (thF q) then 1 else 0) else 0:=by
  rw[Z1];unfold Jcq YS;rw[QJ,QJ];refine Eq.trans (show _=(((JZ q).filter fun t=>decide (t.2.1>t.2.2)).map fun t=>if t.1=s then(((t.2.1-t.2.2).toNat:Nat):Int) else 0).sum from rfl) ?_;rw[JbT]
  ·unfold JZ;rw[QJ];have f2:((Up (spF q)).map ((fun t:Tr=>if t.1=s then(((t.2.1-t.2.2).toNat:Nat):Int) else 0) ∘ fun p:Pr=>((p.1,p.2,owF (thF q) p.1):Tr))).sum=((Up (spF q)).map fun p=>if p.1=s then(((p.2-owF (thF q) p.1).toNat:Nat):Int) else 0).sum:=rfl;rw[f2,Jgd (fun p=>(((p.2-owF (thF q) p.1).toNat:Nat):Int)) c1];have mm:s∈(Up (spF q)).map (·.1)↔s∈spF q:=⟨fun h=>by obtain⟨p,hp,e⟩:=QC.mp h;rw[<- e];exact(c2 p hp).2,fun h=>QC.mpr ⟨_,c3 s h,rfl⟩⟩
   by_cases h:s∈spF q
   ·rw[if_pos (mm.mpr h),if_pos h,JeO c1 (c3 s h) (p:=(s,((spF q).count s:Int)))];dsimp only;rw[Jcn gt];have:0<(spF q).count s:=M3.mpr h;split <;> omega
   ·rw[if_neg fun z=>h (mm.mp z),if_neg h]
  ·intro t ht c;have c':=of_decide_eq_false c;split
   ·omega
   ·rfl
 have e2:(JC (thF q)).count s=if s∈JC (thF q) then 1 else 0:=by
  split
  ·next h=>exact Ja2 nd h
  ·next h=>exact Lo.mpr h
 rw[e2]
 by_cases h:s∈spF q
 ·rw[if_pos h] at e1;have:0<(spF q).count s:=M3.mpr h;split at e1 <;> rename_i c
  ·rw[if_pos c];omega
  ·rw[if_neg c];omega
 ·rw[if_neg h] at e1;rw[if_neg fun z=>h (JfO z),Lo.mpr h];omega
noncomputable def putF(ps prs:List Pr):List Pr:=edF ps 0 0 (Yq (JC ps++Yp prs))
noncomputable abbrev Gp:=Int×List Pr
noncomputable def YM:List Gp->Tr->List Gp
 | [],t=>[(t.1,[(t.2.1,t.2.2)])]
 | g::gs,t=>if g.1=t.1 then(g.1,g.2++[(t.2.1,t.2.2)])::gs else g::YM gs t
noncomputable def Yf(tb:List Tr):List Gp:=tb.foldl YM []
noncomputable def YK:Int->List Gp->List Pr
 | _,[]=>[]
 | k,g::gs=>byF (g.1-k-1) (putF (YK g.1 gs) g.2)
noncomputable def OkG:Int->List Gp->Prop
 | _,[]=>True
 | k,g::gs=>k<g.1/\(∀p∈g.2,1<=p.2)/\Good (YK g.1 gs)/\((YK g.1 gs).length:Int)+(g.2.map (·.2)).sum<=30/\Good (putF (YK g.1 gs) g.2)/\(putF (YK g.1 gs) g.2).length<=30/\OkG g.1 gs
def Jca(h:t∈YS k q):1<=t.2.2:=by unfold YS at h;obtain⟨u,hu,e⟩:=QC.mp h;obtain⟨_,c⟩:=Kt.mp hu;have:=of_decide_eq_true c;rw[<- e];dsimp only;omega
noncomputable abbrev ctB:Es:=(Jh (xIf (tOr? (tB? (e2 fLt (Jb 2) (eC (.int 1)))) (tB? (e2 fLt (Jb 4) (eC (.int 1))))) Vr JB) (Jh (xIf (tAnd? (tB? (e2 YQ (Jb 1) (eC .non))) (tB? (e2 JiN (J9 (aC (Jb 2) (aC (Jb 3) a0))) (Jb 1)))) Vr JB) (Jm 1 (J9 (aC (Jb 2) (aC (Jb 3) a0))))))
noncomputable abbrev ctP:Pt:=(.tp (.cons (.nm 2) (.cons (.nm 3) (.cons (.nm 4) .nil))))
noncomputable abbrev gpP:Pt:=(.tp (.cons (.nm 2) (.cons (.nm 3) (.cons (.nm 4) .nil))))
noncomputable abbrev gpK:Ev:=(Jb 2)
noncomputable abbrev gpV:Ev:=(J9 (aC (Jb 3) (aC (Jb 4) a0)))
noncomputable abbrev roB:Es:=(Jm 6 (eU 2 Yy (aC (eU 2 Y9 (aC (Jb 6) (aC (JkZ (Jb 1) (Jb 2)) a0))) (aC (e2 Yz (e2 Yz (Jb 2) (Jb 7)) (eC (.int 1))) a0))))
noncomputable abbrev roP:Pt:=(.tp (.cons (.nm 7) (.cons (.nm 2) .nil)))
noncomputable def Yl:Option Pr->List Tr->Prop
 | _,[]=>True
 | a,t::r=>1<=t.1/\1<=t.2.2/\(∀b,a=some b->b.1<t.1\/(b.1=t.1/\b.2<t.2.1))/\Yl (some (t.1,t.2.1)) r
noncomputable def ahE:Option Pr->D
 | none=>.non
 | some p=>prE p
theorem JbL(x:Sl):∀(tb:List Tr) (a:Option Pr) (j2 j3 j4:Sl),Yl a tb->∃E',JD ctP ctB (tb.map trE) [x,.sh (ahE a),j2,j3,j4]=some (.nx (x::E'))/\E'.length=4
 | [],a,j2,j3,j4,_=>⟨_,rfl,rfl⟩
 | t::r,a,j2,j3,j4,h=>by
  obtain⟨h1,h2,h3,h4⟩:=h;obtain⟨E',ih⟩:=JbL x r (some (t.1,t.2.1)) (.sh (.int t.1)) (.sh (.int t.2.1)) (.sh (.int t.2.2)) h4;refine⟨E',?_,ih.2⟩;rw[Qf,JD];simp only[trE];walk_at "ev";rw[decide_eq_false (show ¬t.1<1 by omega)];walk_at "ev";rw[decide_eq_false (show ¬t.2.2<1 by omega)];walk_at "ev"
  cases a with
  | none=>simp only[ahE];walk_at "ev";exact ih.1
  | some b =>
   have hb:=h3 b rfl;simp only[ahE,prE];walk_at "ev"
   have e:(if t.1=b.1 then decide (t.2.1<=b.2) else decide (t.1<=b.1))=false:=by
    split
    ·exact decide_eq_false (by omega)
    ·exact decide_eq_false (by omega)
   rw[e];walk_at "ev";exact ih.1
def JrR(tb:List Tr)(h:Yl none tb)(hs:Jw tb<=30)(hl:tb.length<=30):∃r,J3 [.sh (.lst (tb.map trE))]=some r:=by
 obtain⟨E',e,el⟩:=JbL (.sh (.lst (tb.map trE))) tb none .no .no .no h;unfold J3;walk_at "ev";rw[show JD ctP ctB (tb.map trE) [.sh (.lst (tb.map trE)),.sh .non,.no,.no,.no]=_ from e];walk_at "ev";rw[JM (g:=fun t:Tr=>D.int t.2.2)]
 ·walk_at "ev";rw[UT (ns:=tb.map (·.2.2)) (by simp[Sl.q])];walk_at "ev";rw[decide_eq_false (show ¬(tb.map (·.2.2)).sum>30 from by unfold Jw at hs;omega (config:={}))];walk_at "ev";exact⟨_,rfl⟩
 ·intro t _;simp only[trE];walk_at "ev"
theorem JcM:∀(g:List Gp) (t:Tr),(YM g t).map (·.1)=Jv (g.map (·.1)) t.1
 | [],t=>rfl
 | x::g,t=>by
  have ih:=JcM g t;unfold Jv VQ at ih ⊢;rw[YM,Qf,Km]
  by_cases h:x.1=t.1
  ·rw[if_pos h,decide_eq_true h,Xq,if_pos rfl];rfl
  ·rw[if_neg h,decide_eq_false h,KL,Qf,ih];split <;> rfl
theorem JaR:∀(g:List Gp) (t:Tr),JaI (g.map (·.1)) (g.map fun x=>x.2.map prE) t.1 (prE (t.2.1,t.2.2))=(YM g t).map fun x=>x.2.map prE
 | [],t=>rfl
 | x::g,t=>by
  rw[Qf,Qf,JaI,YM];split
  ·simp
  ·rw[JaR g t];rfl
theorem Jos(x a5 a6 a7:Sl):∀(tb:List Tr) (g:List Gp) (j2 j3 j4:Sl),∃j2' j3' j4',VI gpP gpK gpV (tb.map trE) [x,.no,j2,j3,j4,a5,a6,a7] (g.map (·.1)) (g.map fun x=>x.2.map prE) =
 some ([x,.no,j2',j3',j4',a5,a6,a7],(tb.foldl YM g).map (·.1),(tb.foldl YM g).map fun x=>x.2.map prE)
 | [],g,j2,j3,j4=>⟨j2,j3,j4,rfl⟩
 | t::tb,g,j2,j3,j4=>by obtain⟨a,b,c,ih⟩:=Jos x a5 a6 a7 tb (YM g t) (.sh (.int t.1)) (.sh (.int t.2.1)) (.sh (.int t.2.2));refine⟨a,b,c,?_⟩;rw[Qf,VI];simp only[trE];walk_at "ev";rw[<- JcM,show D.tup [D.int t.2.1,D.int t.2.2]=prE (t.2.1,t.2.2) from rfl,JaR];exact ih
theorem Jdi(hb:∀E o,b E=some o->∃E',o=.nx E'):∀{xs ys:List D} {E E1:En},JD p b xs E=some (.nx E1)->JD p b (xs++ys) E=JD p b ys E1
 | [],ys,E,E1,h=>by cases h;rfl
 | x::xs,ys,E,E1,h=>by
  rw[JD] at h;rw[GF,JD]
  cases hp:p.bind x E with
  | none=>rw[hp] at h;cases h
  | some E2 =>
   rw[hp,QK] at h;rw[QK]
   cases ho:b E2 with
   | none=>rw[ho] at h;cases h
   | some o=>obtain⟨E3,e⟩:=hb E2 o ho;subst e;rw[ho,QK] at h;rw[QK];exact Jdi hb h
def JmC(i:Nat)(a:Ev):∀E o,Jm i a E=some o->∃E',o=.nx E':=fun E o e=>by
 unfold Jm at e;obtain⟨s,_,e⟩:=bind_some e;obtain⟨d,_,e⟩:=bind_some e;split at e
 ·cases e;exact⟨_,rfl⟩
 ·cases e
noncomputable def zl(k:Int)(gs:List Gp):List Pr:=Lu (k::gs.map (·.1)) (gs.map (·.1))
def JmW(k:Int)(g:Gp)(gs:List Gp):zl k (g::gs)=(k,g.1)::zl g.1 gs:=rfl
theorem Jdg:∀{all:List Gp} {g:Gp},(all.map (·.1)).Nodup->g∈all->look (all.map (·.1)) ((all.map fun x=>x.2.map prE).map D.lst) g.1=some (.lst (g.2.map prE))
 | [],_,_,h=>by cases h
 | x::r,g,hn,h=>by
  rw[Qf,QY] at hn;simp only[Qf,look];rcases Qk.mp h with z|z
  ·subst z;rw[if_pos rfl]
  ·rw[if_neg fun e=>hn.1 (by rw[e];exact QC.mpr ⟨g,z,rfl⟩)];exact Jdg hn.2 z
def JlN{l:List Pr}(h:∀p∈l,1<=p.2):(l.length:Int)<=(l.map (·.2)).sum:=by
 induction l with
 | nil=>exact GK _
 | cons p r ih =>
  have:=ih fun q hq=>h q (Qd _ hq)
  have:=h p Qc;rw[Qf,QG,Qr];omega
theorem Jct(x a5:Sl)(j3 j4:Sl)(all:List Gp)(hn:(all.map (·.1)).Nodup):∀(gs:List Gp) (k:Int) (j2 j7:Sl),OkG k gs->(∀g∈gs,g∈all) ->
 ∃j2' j7',JD roP roB ((zl k gs).reverse.map prE) [x,.od (all.map (·.1)) ((all.map fun x=>x.2.map prE).map D.lst),j2,j3,j4,a5,.sh (.row (([]:List Pr).map prE)),j7]=some (.nx [x,.od (all.map (·.1)) ((all.map fun x=>x.2.map prE).map D.lst),j2',j3,j4,a5,.sh (.row ((YK k gs).map prE)),j7'])
 | [],k,j2,j7,_,_=>⟨j2,j7,rfl⟩
 | g::gs,k,j2,j7,h,hm=>by
  obtain⟨h1,h2,h3,h4,h5,h6,h7⟩:=h;obtain⟨a,b,ih⟩:=Jct x a5 j3 j4 all hn gs g.1 j2 j7 h7 fun y hy=>hm y (Qd _ hy)
  have nl:=JlN h2;refine⟨.sh (.int g.1),.sh (.int k),?_⟩;rw[JmW,List.reverse_cons,QF,Jdi (JmC 6 _) ih]
  show JD roP roB [prE (k,g.1)] _=_;rw[JD];simp only[prE];walk_at "ev";rw[Jdg hn (hm g Qc)];walk_at "ev";rw[JqE (YK g.1 gs) g.2 h3 (fun p hp=>by have:=h2 p hp;omega) h4 (by omega) (by omega)];walk_at "ev";rw[show edF (YK g.1 gs) 0 0 (Yq (JC (YK g.1 gs)++Yp g.2))=putF (YK g.1 gs) g.2 from rfl,show g.1-k-1=(((g.1-k-1).toNat:Nat):Int) by omega,JlH _ _ h5 h6];walk_at "ev";rw[show(((g.1-k-1).toNat:Nat):Int)=g.1-k-1 by omega]
  rfl
theorem Jci:∀{gs:List Gp} {k:Int},OkG k gs->(gs.map (·.1)).Pairwise (·<·)/\∀y∈gs.map (·.1),k<y
 | [],_,_=>⟨.nil,fun _ h=>by cases h⟩
 | g::gs,k,h=>by
  obtain⟨h1,_,_,_,_,_,h7⟩:=h;obtain⟨i1,i2⟩:=Jci h7;refine⟨QB.mpr ⟨i2,i1⟩,fun y hy=>?_⟩;rcases Qk.mp hy with z|z
  ·rw[z];exact h1
  ·have:=i2 y z;omega
theorem JcL:∀(g:List Gp) (t:Tr),(YM g t).length<=g.length+1
 | [],t=>Qp _
 | x::g,t=>by
  have:=JcL g t;rw[YM];split
  ·simp
  ·simp only[Qr];omega
theorem JbY:∀(tb:List Tr) (g:List Gp),(tb.foldl YM g).length<=g.length+tb.length
 | [],g=>by simp
 | t::tb,g=>by
  have:=JbY tb (YM g t)
  have:=JcL g t;rw[Gj,Qr];omega
def JlF(tb:List Tr)(h:Yl none tb)(hs:Jw tb<=30)(hl:tb.length<=30)(ok:OkG 0 (Yf tb)):JU [.sh (.lst (tb.map trE))]=some (.sh (.row ((YK 0 (Yf tb)).map prE))):=by
 obtain⟨r,hr⟩:=JrR tb h hs hl;obtain⟨kp,_⟩:=Jci ok;have nd:((Yf tb).map (·.1)).Nodup:=kp.imp fun {a b} h=>by omega
 have gl:=JbY tb [];rw[show tb.foldl YM []=Yf tb from rfl,GS] at gl;obtain⟨g2,g3,g4,hg⟩:=Jos (.sh (.lst (tb.map trE))) .no .no .no tb [] .no .no .no;rw[show tb.foldl YM []=Yf tb from rfl] at hg;obtain⟨r2,r7,hro⟩:=Jct (.sh (.lst (tb.map trE))) (.sh (.lst (((Yf tb).map (·.1)).map .int))) g3 g4 (Yf tb) nd (Yf tb) 0 g2 .no ok (fun _ h=>h);unfold JU;walk_at "ev";rw[hr];walk_at "ev";unfold JkG;walk_at "ev";rw[show VI gpP gpK gpV (tb.map trE) [.sh (.lst (tb.map trE)),.no,.no,.no,.no,.no,.no,.no] [] []=_ from hg]
 walk_at "ev";rw[show ZK [.own []]=some (.sh (.row (([]:List Pr).map prE))) from Vw (ps:=[]) rfl Good.nil (by simp)];walk_at "ev"
 have hz:JaP (D.int 0::((Yf tb).map (·.1)).map D.int) (((Yf tb).map (·.1)).map D.int)=(zl 0 (Yf tb)).map prE:=by rw[show D.int 0::((Yf tb).map (·.1)).map D.int=(0::(Yf tb).map (·.1)).map D.int from rfl,VD];rfl
 rw[hz,<- List.map_reverse];rw[show JD roP roB ((zl 0 (Yf tb)).reverse.map prE) [.sh (.lst (tb.map trE)),.od ((Yf tb).map (·.1)) (((Yf tb).map fun x=>x.2.map prE).map D.lst),g2,g3,g4,.sh (.lst (((Yf tb).map (·.1)).map .int)),.sh (.row []),.no]=_ from hro];walk_at "ev"
theorem Jfw(K:Int)(rest:List Tr)(hK:1<=K)(hr:∀a',(∀b,a'=some b->b.1<=K)->Yl a' rest):∀(L:List Tr) (a:Option Pr),(∀t∈L,t.1=K/\1<=t.2.2)->(L.map (·.2.1)).Pairwise (·<·)->(∀b,a=some b->b.1<K\/(b.1=K/\∀t∈L,b.2<t.2.1))->Yl a (L++rest)
 | [],a,_,_,h=>hr a fun b e=>by rcases h b e with z|z <;> omega
 | t::L,a,h1,h2,h3=>by
  obtain⟨k1,k2⟩:=h1 t Qc;rw[Qf,QB] at h2;refine⟨by omega,k2,fun b e=>?_,Jfw K rest hK hr L _ (fun u hu=>h1 u (Qd _ hu)) h2.2 fun b e=>?_⟩
  ·rcases h3 b e with z|⟨z,y⟩
   ·exact .inl (by omega)
   ·exact .inr ⟨by omega,y t Qc⟩
  ·cases e;exact .inr ⟨k1,fun u hu=>h2.1 _ (QC.mpr ⟨u,hu,rfl⟩)⟩
def Jb9(g:Good q)(k:Int):((YS k q).map (·.2.1)).Pairwise (·<·):=by
 have h:=Jiv (spF q) [] (by simp) (fun _ h=>by simp at h) (Jkg 0 g)
 have e:(YS k q).map (·.2.1)=(((JZ q).filter fun t=>decide (t.2.1>t.2.2)).map (·.1)):=by unfold YS;rw[QJ];rfl
 rw[e]
 have e2:(JZ q).map (·.1)=(Up (spF q)).map (·.1):=by unfold JZ;rw[QJ];rfl
 have h':((JZ q).map (·.1)).Pairwise (·<·):=by rw[e2];exact h
 rw[Mi] at h' ⊢;exact h'.filter _
theorem Jbz:∀(n:Nat) (k:Int) (qs:List Pr) (a:Option Pr),Good qs->0<=k->(∀b,a=some b->b.1<=k)->Yl a (tbN n k qs)
 | 0,_,_,_,_,_,_=>trivial
 | n+1,k,qs,a,g,hk,ha=>by rw[tbN];refine Jfw (k+1) _ (by omega) (fun a' h=>Jbz n (k+1) (thF qs) a' (Yw g) (by omega) h) _ a (fun t ht=>⟨ZY ht,Jca ht⟩) (Jb9 g (k+1)) fun b e=>.inl (by have:=ha b e;omega)
theorem YE:∀{tb:List Tr} {a:Option Pr},Yl a tb->∀t∈tb,1<=t.1/\1<=t.2.2
 | [],_,_,_,h=>by cases h
 | t::r,a,h,u,hu=>by
  obtain⟨h1,h2,_,h4⟩:=h;rcases Qk.mp hu with z|z
  ·rw[z];exact⟨h1,h2⟩
  ·exact YE h4 u z
theorem JeT:∀{tb:List Tr},(∀t∈tb,1<=t.2.2)->(tb.length:Int)<=Jw tb/\∀t∈tb,t.2.2<=Jw tb
 | [],_=>⟨GK _,fun _ h=>by cases h⟩
 | t::r,h=>by
  obtain⟨h1,h2⟩:=JeT fun u hu=>h u (Qd t hu)
  have ht:=h t Qc
  have e:Jw (t::r)=t.2.2+Jw r:=by unfold Jw;rw[Qf,QG]
  rw[e,Qr];refine⟨by omega,fun u hu=>?_⟩;rcases Qk.mp hu with z|z
  ·rw[z];omega
  ·have:=h2 u z;omega
theorem Jd5:∀(n:Nat) (k:Int) {qs:List Pr},Good qs->thN n qs=[]->((tbN n k qs).map fun t=>(t.1-k)*t.2.2).sum=(qs.map (·.2)).sum
 | 0,k,qs,g,h=>by have:qs=[]:=h;subst this;rfl
 | n+1,k,qs,g,h=>by
  have ih:=Jd5 n (k+1) (Yw g) h
  have l:=Jf8 g (k+1)
  have s:=JaA n (k+1) (Yw g) h
  have ts:=JgN g;unfold Jw at l s;rw[tbN,QF,MB]
  have e1:(YS (k+1) qs).map (fun t=>(t.1-k)*t.2.2)=(YS (k+1) qs).map (·.2.2):=GQ fun t ht=>by rw[ZY ht,show k+1-k=1 by omega,Int.one_mul]
  have e2:(tbN n (k+1) (thF qs)).map (fun t=>(t.1-k)*t.2.2)=(tbN n (k+1) (thF qs)).map fun t=>t.2.2+(t.1-(k+1))*t.2.2:=GQ fun t ht=>by rw[show t.1-k=1+(t.1-(k+1)) by omega,R8,Int.one_mul]
  rw[e1,e2,JgC,ih,l,s,ts];omega
def bare{c1 c2 p1 p2 ins s:Int}(hb:c1+c2<=p1)(hp:p2=0)(hc:0<=c2)(h0:0<=ins)(h1:ins<=s):∃t m w,min c2 (s-ins)=t/\max 0 (ins+t-(p1-c1-c2))=m/\min (ins+t) (p1-c1-c2)=w/\min p2 (s-m)=0/\0<=t/\t<=c2 ∧
 ((m=0/\w=ins+t/\ins+t<=p1-c1-c2)\/(m=ins+t-(p1-c1-c2)/\w=p1-c1-c2/\p1-c1-c2<=ins+t)):=by
 obtain⟨t,ht,t0,t1,t2⟩:∃t,min c2 (s-ins)=t/\0<=t/\t<=c2/\ins+t<=s:=⟨_,rfl,by omega (config:={}),by omega (config:={}),by omega (config:={})⟩
 rw[ht];rcases Int.le_total (ins+t) (p1-c1-c2) with h|h
 ·exact⟨t,0,ins+t,rfl,by omega (config:={}),RP h,by omega (config:={}),t0,t1,.inl ⟨rfl,rfl,h⟩⟩
 ·exact⟨t,ins+t-(p1-c1-c2),p1-c1-c2,rfl,by omega (config:={}),LP h,by omega (config:={}),t0,t1,.inr ⟨rfl,rfl,h⟩⟩
theorem Jje:∀{a b:List Pr},(a.map (·.1)).Pairwise (·<·)->(b.map (·.1)).Pairwise (·<·)->(∀p∈a,1<=p.2)->(∀p∈b,1<=p.2)->(∀x,lk x a=lk x b)->a=b
 | [],[],_,_,_,_,_=>rfl
 | [],q::b,_,_,_,h,e=>by
  have:=e q.1;rw[lk,lk,if_pos rfl] at this
  have:=h q Qc;omega
 | p::a,[],_,_,h,_,e=>by
  have:=e p.1;rw[lk,lk,if_pos rfl] at this
  have:=h p Qc;omega
 | p::a,q::b,ha,hb,h1,h2,e=>by
  rw[Qf,QB] at ha hb
  have out:∀{l:List Pr} {x:Int},(∀y∈l.map (·.1),x<y)->lk x l=0:=fun {l x} h=>by
   induction l with
   | nil=>rfl
   | cons r l ih=>rw[lk,if_neg fun z=>by have:=h r.1 (by simp);omega];exact ih fun y hy=>h y (by rw[Qf];exact Qd _ hy)
  have hp:=h1 p Qc
  have hq:=h2 q Qc
  have ek:p.1=q.1:=by
   rcases Int.lt_trichotomy p.1 q.1 with z|z|z
   ·have:=e p.1;rw[lk,if_pos rfl,lk,if_neg (by omega),out fun y hy=>by have:=hb.1 y hy;omega] at this;omega
   ·exact z
   ·have:=e q.1;rw[lk,if_neg (by omega),lk,if_pos rfl,out fun y hy=>by have:=ha.1 y hy;omega] at this;omega
  have ev:p.2=q.2:=by have:=e p.1;rw[lk,if_pos rfl,lk,if_pos ek.symm] at this;exact this
  have:p=q:=Mt ek ev;subst this;rw[Jje ha.2 hb.2 (fun r hr=>h1 r (Qd _ hr)) (fun r hr=>h2 r (Qd _ hr)) fun x=>?_]
  have:=e x;rw[lk,lk] at this
  by_cases c:p.1=x
  ·subst c;rw[out ha.1,out hb.1]
  ·rwa [if_neg c,if_neg c] at this
theorem Jf7:∀{a:List Pr} {x:Int},x∉a.map (·.1)->lk x a=0
 | [],_,_=>rfl
 | p::r,x,h=>by rw[lk,if_neg fun z=>h (by rw[<- z];simp)];exact Jf7 fun m=>h (by rw[Qf];exact Qd _ m)
def Jf6(hn:(a.map (·.1)).Nodup)(h:∀p∈a,1<=p.2)(x:Int):lk x a=((Yp a).count x:Int):=by
 rw[Z1,Jgd (fun p=>((p.2.toNat:Nat):Int)) hn];split
 ·next m=>obtain⟨p,hp,e⟩:=QC.mp m;subst e;rw[JeO hn hp];have:=h p hp;dsimp only;omega
 ·next m=>exact Jf7 m
def Jgi(l:List Tr):(Jcq l).map (·.1)=l.map (·.2.1):=by unfold Jcq;rw[QJ];rfl
def Jon(g:Good q)(k x:Int):lk x (Jcq (YS k q))+((JC (thF q)).count x:Int)=((spF q).count x:Int):=by
 have pw:=Jb9 g k;rw[Jf6 (by rw[Jgi];exact pw.imp fun {a b} h=>by omega) fun p hp=>by obtain⟨u,hu,e⟩:=QC.mp hp;rw[<- e];exact Jca hu]
 have:=((JO (JC (thF q)++Yp (Jcq (YS k q)))).count_eq x)
 rw[JhW g k,KY] at this;omega
def JjG(k:Int)(l:List Tr)(h:∀t∈l,t.1=k):l=(Jcq l).map fun p=>(k,p.1,p.2):=by
 unfold Jcq;rw[QJ];refine(RN l).symm.trans (GQ fun t ht=>?_);show t=(k,t.2.1,t.2.2)
 rw[<- h t ht]
def Jcb(g:Good ps)(hp:∀p∈prs,1<=p.2)(pw:(prs.map (·.1)).Pairwise (·<·))(k:Int):Good (putF ps prs)/\thF (putF ps prs)=ps/\YS k (putF ps prs)=prs.map fun p=>(k,p.1,p.2):=by
 have hs:(Yq (JC ps++Yp prs)).Pairwise (·<=·):=UN _
 have he:∀p∈ps,p.1+p.2∈Yq (JC ps++Yp prs):=fun p h=>(JO _).mem_iff.mpr (Gd.mpr (.inl (QC.mpr ⟨p,h,rfl⟩)))
 obtain⟨g1,th⟩:=Jkw g hs he;have g1:Good (putF ps prs):=g1;have th:thF (putF ps prs)=ps:=th;refine⟨g1,th,?_⟩;rw[JjG k (YS k (putF ps prs)) fun t ht=>ZY ht];refine congrArg (List.map _) (Jje (by rw[Jgi];exact Jb9 g1 k) pw (fun p hp=>by obtain⟨u,hu,e⟩:=QC.mp hp;rw[<- e];exact Jca hu) hp fun x=>?_)
 have e1:=Jon g1 k x
 have e2:spF (putF ps prs)=Yq (JC ps++Yp prs):=Jrw _ _;rw[th,e2,(JO _).count_eq x,KY] at e1
 have e3:=Jf6 (pw.imp fun {a b} h=>by omega) hp (x:=x);omega
def JnE(g:Good r)(d:Nat):thN d (byF (d:Int) r)=r:=by have w:=(Ub g).bys (k:=(d:Int));rw[JaB w (by omega) (by omega),JfA,show -(d:Int)+(d:Int)=0 by omega,W9]
def Jrz(g:Good r)(d m:Nat)(k:Int):tbN (d+m) k (byF (d:Int) r)=tbN m (k+(d:Int)) r:=by have w:=(Ub g).bys (k:=(d:Int));rw[JgM w (by omega) d m k (by omega),JnE g d]
noncomputable def GpR:Int->List Gp->Prop
 | _,[]=>True
 | k,g::gs=>k<g.1/\g.2≠[]/\(∀p∈g.2,1<=p.2)/\(g.2.map (·.1)).Pairwise (·<·)/\GpR g.1 gs
noncomputable def flG(gs:List Gp):List Tr:=gs.flatMap fun g=>g.2.map fun p=>(g.1,p.1,p.2)
theorem UL:∀(gs:List Gp) (k:Int),GpR k gs->Good (YK k gs)
 | [],_,_=>Good.nil
 | g::gs,k,h=>by obtain⟨h1,h2,h3,h4,h5⟩:=h;have a:=(Jcb (UL gs g.1 h5) h3 h4 0).1;exact((Ub a).bys (k:=g.1-k-1)).good (by omega)
theorem JgL:∀(gs:List Gp) (k:Int) (N:Nat),GpR k gs->thN N (YK k gs)=[]->tbN N k (YK k gs)=flG gs
 | [],k,N,_,_=>JcF N k
 | g::gs,k,N,h,hN=>by
  have gk:=UL (g::gs) k h;obtain⟨h1,h2,h3,h4,h5⟩:=h
  have gr:=UL gs g.1 h5;obtain⟨a1,a2,a3⟩:=Jcb gr h3 h4 g.1;obtain⟨d,hd⟩:∃d:Nat,(d:Int)=g.1-k-1:=⟨(g.1-k-1).toNat,by omega⟩
  have er:YK k (g::gs)=byF (d:Int) (putF (YK g.1 gs) g.2):=by rw[YK,hd]
  have ne:putF (YK g.1 gs) g.2≠[]:=fun z=>by rw[z] at a3;have:YS g.1 []=[]:=rfl;rw[this] at a3;exact h2 (LZ.mp a3.symm)
  have neB:byF (d:Int) (putF (YK g.1 gs) g.2)≠[]:=fun z=>ne (QA (by rw[<- UQ (d:Int),z];rfl))
  rw[er] at hN ⊢
  have hlt:d<N:=by
   rcases LO d N with z|z
   ·exact z
   ·exact absurd hN (Jkv ((Ub a1).bys (k:=(d:Int))) (by omega) neB N (by omega))
  obtain⟨m,rfl⟩:∃m,N=d+(m+1):=⟨N-d-1,by omega⟩
  rw[Zq,JnE a1 d] at hN;have hN':thN m (YK g.1 gs)=[]:=by rw[<- a2];exact hN
  rw[Jrz a1 d (m+1) k,tbN,a2,show k+(d:Int)+1=g.1 by omega,a3,JgL gs g.1 m h5 hN'];rfl
theorem JfT:∀(gs:List Gp) (t:Tr),(gs.map (·.1)).Pairwise (·<·)->(∀g∈gs,g.1<=t.1)->flG (YM gs t)=flG gs++[t]
 | [],t,_,_=>rfl
 | g::gs,t,hp,h=>by
  rw[Qf,QB] at hp;rw[YM]
  by_cases c:g.1=t.1
  ·rw[if_pos c]
   have e:gs=[]:=by
    cases gs with
    | nil=>rfl
    | cons x xs =>
     have h1:=hp.1 x.1 (QC.mpr ⟨x,Qc,rfl⟩)
     have h2:=h x (Qd _ Qc);omega
   subst e;unfold flG;rw[Gf,Gf,QF,List.flatMap_nil,Gi,Gi,c];rfl
  ·rw[if_neg c];unfold flG;rw[Gf,Gf,Q2];exact congrArg _ (JfT gs t hp.2 fun x hx=>h x (Qd _ hx))
theorem Jh9:∀(gs:List Gp) (k:Int) (t:Tr),GpR k gs->k<t.1->1<=t.2.2->(∀g∈gs,g.1<=t.1/\(g.1=t.1->∀p∈g.2,p.1<t.2.1))->GpR k (YM gs t)
 | [],k,t,_,h1,h2,_=>by rw[YM];exact⟨h1,by simp,fun p hp=>by rw[QP.mp hp];exact h2,by simp,trivial⟩
 | g::gs,k,t,h,h1,h2,h3=>by
  obtain⟨a1,a2,a3,a4,a5⟩:=h;obtain⟨b1,b2⟩:=h3 g Qc;rw[YM]
  by_cases c:g.1=t.1
  ·rw[if_pos c];refine⟨a1,by simp,fun p hp=>?_,?_,a5⟩
   ·rcases Gd.mp hp with z|z
    ·exact a3 p z
    ·rw[QP.mp z];exact h2
   ·dsimp only;rw[QF,Kq];refine⟨a4,by simp,fun x hx y hy=>?_⟩;obtain⟨p,hp,rfl⟩:=QC.mp hx;simp at hy;subst hy;exact b2 c p hp
  ·rw[if_neg c];exact⟨a1,a2,a3,a4,Jh9 gs g.1 t a5 (by omega) h2 fun x hx=>h3 x (Qd _ hx)⟩
theorem JcK:∀(gs:List Gp) (t:Tr) (g:Gp),g∈YM gs t->(∃x∈gs,x.1=g.1/\∀p∈g.2,p∈x.2\/(g.1=t.1/\p.1=t.2.1))\/(g.1=t.1/\∀p∈g.2,p.1=t.2.1)
 | [],t,g,h=>by rw[YM,QP] at h;subst h;exact .inr ⟨rfl,fun p hp=>by rw[QP.mp hp]⟩
 | x::gs,t,g,h=>by
  rw[YM] at h
  by_cases c:x.1=t.1
  ·rw[if_pos c] at h;rcases Qk.mp h with z|z
   ·subst z;refine .inl ⟨x,Qc,rfl,fun p hp=>?_⟩;rcases Gd.mp hp with y|y
    ·exact .inl y
    ·exact .inr ⟨c,by rw[QP.mp y]⟩
   ·exact .inl ⟨g,Qd _ z,rfl,fun p hp=>.inl hp⟩
  ·rw[if_neg c] at h;rcases Qk.mp h with z|z
   ·subst z;exact .inl ⟨g,Qc,rfl,fun p hp=>.inl hp⟩
   ·rcases JcK gs t g z with ⟨y,hy,r⟩|r
    ·exact .inl ⟨y,Qd _ hy,r⟩
    ·exact .inr r
theorem GpR.keys:∀{gs:List Gp} {k:Int},GpR k gs->(gs.map (·.1)).Pairwise (·<·)/\∀g∈gs,k<g.1
 | [],_,_=>⟨List.Pairwise.nil,fun g h=>(QR h).elim⟩
 | g::gs,k,h=>by
  obtain⟨a1,_,_,_,a5⟩:=h;obtain⟨b1,b2⟩:=GpR.keys a5;refine⟨QB.mpr ⟨fun x hx=>?_,b1⟩,fun x hx=>?_⟩
  ·obtain⟨y,hy,rfl⟩:=QC.mp hx;exact b2 y hy
  ·rcases Qk.mp hx with z|z
   ·rw[z];exact a1
   ·have:=b2 x z;omega
theorem JiS:∀(tb:List Tr) (gs:List Gp) (a:Option Pr),Yl a tb->GpR 0 gs->(∀g∈gs,∃b,a=some b/\g.1<=b.1/\(g.1=b.1->∀p∈g.2,p.1<=b.2))->GpR 0 (tb.foldl YM gs)/\flG (tb.foldl YM gs)=flG gs++tb
 | [],gs,_,_,h,_=>⟨h,by simp⟩
 | t::tb,gs,a,ha,h,hb=>by
  obtain⟨t1,t2,t3,t4⟩:=ha
  have old:∀g∈gs,g.1<=t.1/\(g.1=t.1->∀p∈g.2,p.1<t.2.1):=fun g hg=>by obtain⟨b,e,l1,l2⟩:=hb g hg;have:=t3 b e;refine⟨by omega,fun z p hp=>?_⟩;have:=l2 (by omega) p hp;omega
  have n1:=Jh9 gs 0 t h (by omega) t2 old
  have n2:=JfT gs t h.keys.1 fun g hg=>(old g hg).1
  obtain⟨r1,r2⟩:=JiS tb (YM gs t) _ t4 n1 fun g hg=>⟨_,rfl,by
   rcases JcK gs t g hg with ⟨x,hx,e,q⟩|⟨e,q⟩
   ·have o:=old x hx;refine⟨by dsimp only;omega,fun z p hp=>?_⟩;rcases q p hp with y|y
    ·have:=o.2 (e.trans z) p y;dsimp only;omega
    ·dsimp only;omega
   ·exact⟨by dsimp only;omega,fun z p hp=>by have:=q p hp;dsimp only;omega⟩⟩
  rw[Gj];refine⟨r1,?_⟩;rw[r2,n2,Q2];rfl
def Jqt(h:Yl none tb):GpR 0 (Yf tb)/\flG (Yf tb)=tb:=JiS tb [] none h trivial fun g hg=>(QR hg).elim
theorem Jm3(ps:List Pr):∀(sp:List Int) (i:Nat) (c:Int),(edF ps i c sp).length=sp.length
 | [],_,_=>rfl
 | s::r,i,c=>by rw[edF,Qr,Jm3 ps r,Qr]
theorem Jce:∀(prs:List Pr),(∀p∈prs,1<=p.2)->((Yp prs).length:Int)=(prs.map (·.2)).sum
 | [],_=>rfl
 | p::r,h=>by
  have ih:=Jce r fun x hx=>h x (Qd _ hx)
  have:=h p Qc;unfold Yp at *;rw[Gf,Qv,GM,Qf,QG,<- ih];omega
def JjL(ps prs:List Pr)(h:∀p∈prs,1<=p.2):((putF ps prs).length:Int)=(ps.length:Int)+(prs.map (·.2)).sum:=by unfold putF;rw[Jm3,(JO _).length_eq,Qv,<- Jce prs h];unfold JC;rw[Qm];omega
def We(a b:List Tr):Jw (a++b)=Jw a+Jw b:=by unfold Jw;rw[QF,MB]
def Jdt(k:Int)(prs:List Pr):Jw (prs.map fun p=>(k,p.1,p.2))=(prs.map (·.2)).sum:=by unfold Jw;rw[QJ];rfl
theorem Jao:∀(gs:List Gp) (k:Int),GpR k gs->((YK k gs).length:Int)=Jw (flG gs)
 | [],_,_=>rfl
 | g::gs,k,h=>by obtain⟨h1,h2,h3,h4,h5⟩:=h;rw[YK,UQ,JjL _ _ h3,Jao gs g.1 h5];unfold flG;rw[Gf,We,Jdt];omega
theorem Jjs:∀(gs:List Gp) (k:Int),GpR k gs->Jw (flG gs)<=30->OkG k gs
 | [],_,_,_=>trivial
 | g::gs,k,h,hs=>by
  have h':=h;obtain⟨h1,h2,h3,h4,h5⟩:=h
  have gr:=UL gs g.1 h5
  have a:=(Jcb gr h3 h4 0).1
  have l:=Jao gs g.1 h5
  have e:Jw (flG (g::gs))=(g.2.map (·.2)).sum+Jw (flG gs):=by unfold flG;rw[Gf,We,Jdt]
  have pl:=JjL (YK g.1 gs) g.2 h3
  have m0:=Jce g.2 h3;exact⟨h1,h3,gr,by omega,a,by omega,Jjs gs g.1 h5 (by omega)⟩
def Uc(h:Yl none tb)(hs:Jw tb<=30):OkG 0 (Yf tb)/\Good (YK 0 (Yf tb))/\((YK 0 (Yf tb)).length:Int)=Jw tb/\∀N,thN N (YK 0 (Yf tb))=[]->tbN N 0 (YK 0 (Yf tb))=tb:=by obtain⟨r,e⟩:=Jqt h;refine⟨Jjs _ 0 r (by rw[e];exact hs),UL _ 0 r,by rw[Jao _ 0 r,e],fun N hN=>?_⟩;rw[JgL _ 0 N r hN,e]
noncomputable def J7:Option Int->D
 | none=>.non
 | some s=>.int s
noncomputable def OkS(seats:Option Int):Prop:=∀s,seats=some s->1<=s
noncomputable def JW(seats:Option Int)(x:Int):Int:=match seats with
 | none=>x
 | some s=>min x s
def Jne(seats:Option Int)(x:Int):Yv [.sh (.int x),.sh (J7 seats)]=some (.sh (.int (JW seats x))):=by
 unfold Yv
 cases seats with
 | none=>simp only[J7,JW];walk_at "ev"
 | some s=>simp only[J7,JW];walk_at "ev"
def Jqz(seats:Option Int)(h:OkS seats):∃r,Yt [.sh (J7 seats)]=some r:=by
 unfold Yt
 cases seats with
 | none=>simp only[J7];walk_at "ev";exact⟨_,rfl⟩
 | some s=>have:=h s rfl;simp only[J7];walk_at "ev";rw[decide_eq_false (show ¬s<1 by omega)];walk_at "ev";exact⟨_,rfl⟩
noncomputable abbrev Dd:=Option Int×Int
noncomputable def dE(d:Dd):D:=.tup [J7 d.1,.int d.2]
noncomputable def tot:List Dd->Int->Int
 | [],_=>0
 | d::r,x=>d.2*JW d.1 x+tot r x
noncomputable def OkD(d:Dd):Prop:=OkS d.1/\-10 ^ 100<=d.2/\d.2<=10 ^ 100
structure To (N:Nat) (f:Int->Int) (ps qs:List Pr):Prop where
 g:Good qs
 l:qs.length=ps.length
 s:(qs.map (·.2)).sum=(ps.map (·.2)).sum
 e:tbN N 0 qs=(tbN N 0 ps).map fun t=>(t.1,t.2.1+f t.1,t.2.2)
def To.congr(a:To N f ps qs)(e:∀x,f x=h x):To N h ps qs:=by have:f=h:=funext e;subst this;exact a
noncomputable def apT(tb:List Tr):List Pr:=tb.flatMap fun t=>QM t.2.2.toNat (t.1,t.2.1)
theorem Jbw:∀{r:List Tr} {b:Pr},Yl (some b) r->∀u∈r,b.1<u.1\/(b.1=u.1/\b.2<u.2.1)
 | [],_,_,_,h=>by cases h
 | t::r,b,h,u,hu=>by
  obtain⟨h1,h2,h3,h4⟩:=h;have h5:=h3 b rfl;rcases Qk.mp hu with z|z
  ·subst z;exact h5
  ·have:=Jbw h4 u z;dsimp only at this;omega
def Zu{tb:List Tr}{x:Pr}(h:x∈apT tb):∃t∈tb,x=(t.1,t.2.1):=by obtain⟨t,ht,hx⟩:=List.mem_flatMap.mp h;exact⟨t,ht,(Lq.mp hx).2⟩
theorem Wt:∀(tb:List Tr),(∀t∈tb,1<=t.2.2)->((apT tb).length:Int)=Jw tb
 | [],_=>rfl
 | t::tb,h=>by
  have ih:=Wt tb fun u hu=>h u (Qd _ hu)
  have h1:=h t Qc;unfold apT Jw at ih ⊢;rw[Gf,Qv,GM,Qf,QG,<- ih];omega
noncomputable def JoT(q r:Pr):Prop:=q.1<r.1\/(q.1=r.1/\q.2<=r.2)
theorem Jef:∀{tb:List Tr} {o:Option Pr},Yl o tb->(apT tb).Pairwise JoT
 | [],_,_=>List.Pairwise.nil
 | t::tb,o,h=>by unfold apT;rw[Gf];refine Kq.mpr ⟨List.pairwise_replicate.mpr (.inr (.inr ⟨rfl,GK _⟩)),Jef h.2.2.2,fun a ha b hb=>?_⟩;obtain⟨_,rfl⟩:=Lq.mp ha;obtain⟨u,hu,rfl⟩:=Zu (tb:=tb) hb;have:=Jbw h.2.2.2 u hu;simp only at this;show t.1<u.1\/(t.1=u.1/\t.2.1<=u.2.1);omega
theorem Jic(f:Int->Int):∀(tb:List Tr),apT (tb.map fun t=>(t.1,t.2.1+f t.1,t.2.2))=(apT tb).map fun q=>(q.1,q.2+f q.1)
 | []=>rfl
 | t::tb=>by have ih:=Jic f tb;unfold apT at ih ⊢;rw[Qf,Gf,Gf,ih,QF,Ln]
theorem Jfv:∀(tb:List Tr) (L:List Pr),tb.foldl (fun L t=>L++QM t.2.2.toNat ((t.1,t.2.1):Pr)) L=L++apT tb
 | [],L=>by simp[apT]
 | t::tb,L=>by rw[Gj,Jfv tb];unfold apT;rw[Gf,Q2]
def Jcd(ps:List Pr)(N:Nat)(g:Good ps)(h:ps.length<=30)(hN:thN N ps=[]):JK [.sh (.row (ps.map prE))]=some (.own ((apT (tbN N 0 ps)).map prE)):=by
 have asc:=Jbz N 0 ps none g (GK _) (fun b e=>by cases e)
 have ns:=JaA N 0 g hN
 have nm:∀t∈tbN N 0 ps,1<=t.2.2:=fun t ht=>(YE asc t ht).2
 unfold JK;walk_at "ev";rw[JlG ps N g h hN];walk_at "ev";rw[Kh];refine YJ (fun(rest:List Tr) (L:List Pr) E=>∃j2 j3 j4,E=[.sh (.row (ps.map prE)),.own (L.map prE),j2,j3,j4]/\(L.length:Int)+Jw rest<=30/\∀t∈rest,1<=t.2.2) (fun L t=>L++QM t.2.2.toNat (t.1,t.2.1)) [] ⟨.no,.no,.no,rfl,by rw[ns];simp;omega,nm⟩ ?_ ?_
 ·rintro t rest L E ⟨j2,j3,j4,rfl,hz,hr⟩;have h1:=hr t Qc
  have hs:0<=Jw rest:=by have:=(JeT (tb:=rest) fun u hu=>hr u (Qd _ hu)).1;omega
  have hz':(L.length:Int)+(t.2.2+Jw rest)<=30:=by
   have e:Jw (t::rest)=t.2.2+Jw rest:=by unfold Jw;rw[Qf,QG]
   rw[<- e];exact hz
  simp only[trE];walk_at "ev";rw[ZJ (d:=D.tup [.int t.1,.int t.2.1]) rfl (Jb3 ⟨by omega,by omega⟩) (by omega)];walk_at "ev";rw[GM,if_pos (by omega)];refine⟨.sh (.int t.1),.sh (.int t.2.1),.sh (.int t.2.2),?_,by rw[Qv,GM];omega,fun u hu=>hr u (Qd _ hu)⟩;rw[QF,Ln];rfl
 ·rintro E' ⟨j2,j3,j4,rfl,_,_⟩;rw[Jfv,Gk];walk_at "ev"
def Jib(g:Good ps)(hN:thN N ps=[]):(apT (tbN N 0 ps)).length=ps.length:=by
 have asc:=Jbz N 0 ps none g (GK _) (fun b e=>by cases e)
 have l1:=Wt _ fun t ht=>(YE asc t ht).2
 have ns:=JaA N 0 g hN;omega
noncomputable def grF:Int->Int->List Pr->List Pr
 | _,_,[]=>[]
 | a,c,(s,b)::r=>(if 0<(b-c) % (s-a) then [(a+(b-c) % (s-a),(b-c) / (s-a)+1)] else [])++(s,(b-c) / (s-a))::grF s b r
noncomputable def vaF:Int->List Pr->Int->Int
 | _,[],_=>0
 | a,(y,g)::r,x=>g*(min x y-min x a)+vaF y r x
noncomputable def Zr:Int->List Pr->Prop
 | _,[]=>True
 | a,(s,_)::r=>a<s/\Zr s r
theorem Ji1:∀(l:List Pr) (a c x:Int),Zr a l->x<=a->vaF a (grF a c l) x=0
 | [],_,_,_,_,_=>rfl
 | (s,b)::r,a,c,x,h,hx=>by
  obtain⟨h1,h2⟩:=h;have ih:=Ji1 r s b x h2 (by omega);have m0:=Ly (b-c) (b:=s-a) (by omega);rw[grF];split
  ·show((b-c) / (s-a)+1)*(min x (a+(b-c) % (s-a))-min x a)+(((b-c) / (s-a))*(min x s-min x (a+(b-c) % (s-a)))+vaF s (grF s b r) x)=0;rw[ih,show min x (a+(b-c) % (s-a))=x by omega,show min x a=x by omega,show min x s=x by omega];simp
  ·show((b-c) / (s-a))*(min x s-min x a)+vaF s (grF s b r) x=0;rw[ih,show min x a=x by omega,show min x s=x by omega];simp
def Ji0(h:a<s)(hx:s<=x)(r:List Pr):vaF a (grF a c ((s,b)::r)) x=b-c+vaF s (grF s b r) x:=by
 have m0:=Ly (b-c) (b:=s-a) (by omega)
 have m1:=L6 (b-c) (b:=s-a) (by omega)
 have dm:=RV (b-c) (s-a);rw[grF];split
 ·show((b-c) / (s-a)+1)*(min x (a+(b-c) % (s-a))-min x a)+(((b-c) / (s-a))*(min x s-min x (a+(b-c) % (s-a)))+vaF s (grF s b r) x)=_;rw[show min x (a+(b-c) % (s-a))=a+(b-c) % (s-a) by omega,show min x a=a by omega,show min x s=s by omega]
  have e1:((b-c) / (s-a)+1)*(a+(b-c) % (s-a)-a)+(b-c) / (s-a)*(s-(a+(b-c) % (s-a)))=(s-a)*((b-c) / (s-a))+(b-c) % (s-a):=by
   generalize (b-c) / (s-a)=g
   generalize (b-c) % (s-a)=o
   rw[show a+o-a=o by omega,R8,Int.one_mul,Int.mul_sub,My,Int.sub_mul,MQ s g,MQ a g];omega
  omega
 ·show((b-c) / (s-a))*(min x s-min x a)+vaF s (grF s b r) x=_;rw[show min x a=a by omega,show min x s=s by omega,MQ];omega
theorem Jeg:∀{l:List Pr} {a:Int},Zr a l->∀p∈l,a<p.1
 | [],_,_,p,hp=>(QR hp).elim
 | (s,b)::r,a,h,p,hp=>by
  rcases Qk.mp hp with e|e
  ·rw[e];exact h.1
  ·have:=Jeg h.2 p e
   have:=h.1;omega
theorem Jm9:∀(l:List Pr) (a c:Int),Zr a l->∀p∈l,vaF a (grF a c l) p.1=p.2-c
 | [],_,_,_,p,hp=>(QR hp).elim
 | (s,b)::r,a,c,h,p,hp=>by
  obtain⟨h1,h2⟩:=h;rcases Qk.mp hp with e|e
  ·subst e;rw[Ji0 h1 (GK _),Ji1 r s b s h2 (GK _)];simp
  ·have:=Jeg h2 p e;rw[Ji0 h1 (by omega),Jm9 r s b h2 p e];omega
noncomputable def goP:List Pr->List Dd
 | []=>[]
 | [(_,g)]=>[(none,g)]
 | (y,g)::(y',g')::r=>(some y,g-g')::goP ((y',g')::r)
noncomputable def JeP:Int->List Pr->Int
 | a,[]=>a
 | _,(y,_)::r=>JeP y r
theorem JiY:∀(r:List Pr) (y g x:Int),x<=JeP y r->tot (goP ((y,g)::r)) x=g*min x y+vaF y r x
 | [],y,g,x,h=>by
  have h':x<=y:=h
  show g*x+0=g*min x y+0;rw[show min x y=x by omega]
 | (y',g')::r,y,g,x,h=>by
  have ih:=JiY r y' g' x h;rw[goP,tot,ih]
  show(g-g')*min x y+(g'*min x y'+vaF y' r x)=g*min x y+(g'*(min x y'-min x y)+vaF y' r x)
  rw[Int.sub_mul,Int.mul_sub];omega
theorem Jji:∀(l:List Pr) (a c:Int),Zr a l->∀p∈l,p.1<=JeP a (grF a c l)
 | [],_,_,_,p,hp=>(QR hp).elim
 | (s,b)::r,a,c,h,p,hp=>by
  obtain⟨h1,h2⟩:=h
  have e:JeP a (grF a c ((s,b)::r))=JeP s (grF s b r):=by rw[grF];split <;> rfl
  rw[e];rcases Qk.mp hp with e|e
  ·subst e
   clear hp h1 e
   revert h2
   induction r generalizing s b with
   | nil=>intro _;exact GK _
   | cons q r ih =>
    intro h2;obtain⟨s',b'⟩:=q
    have e:JeP s (grF s b ((s',b')::r))=JeP s' (grF s' b' r):=by rw[grF];split <;> rfl
    rw[e];have:=ih s' b' h2.2;have:=h2.1;show s<=_;simp only at *;omega
  ·exact Jji r s b h2 p e
def JmP(l:List Pr)(h:Zr 0 l):∀p∈l,tot (goP (grF 0 0 l)) p.1=p.2:=fun p hp=>by
 have a:=Jm9 l 0 0 h p hp
 have b:=Jji l 0 0 h p hp
 have c:=Jeg h p hp
 revert a b
 cases e:grF 0 0 l with
 | nil=>intro a _;simp only[vaF] at a;show 0=p.2;omega
 | cons q r=>obtain⟨y,g⟩:=q;intro a b;rw[JiY r y g p.1 b];simp only[vaF] at a;rw[show min p.1 (0:Int)=0 by omega,Int.sub_zero] at a;omega
theorem JgP(x:Int):∀(l:List Dd),tot (l.filter fun d=>decide (d.2≠0)) x=tot l x
 | []=>rfl
 | d::l=>by
  have ih:=JgP x l
  by_cases c:d.2=0
  ·rw[G4 (by simp[c]),ih,tot,c];simp
  ·rw[Q7 (by simp[c]),tot,tot,ih]
def V8(l:List Pr):Ur (.tp (.cons (.nm 0) (.cons (.nm 1) .nil))) yes? (Jb 0) [.no,.no] (l.map prE)=some ((l.map (·.1)).map D.int):=by
 rw[QJ];refine JM fun p _=>?_
 simp only[prE];walk_at "ev";rfl
noncomputable def dkL(l:List Int):List Int:=l.foldl Jv []
theorem Jiz:∀(l ks:List Int),ks.Pairwise (·<·)->l.Pairwise (·<=·)->(∀k∈ks,∀x∈l,k<=x)->(l.foldl Jv ks).Pairwise (·<·)/\∀x,x∈l.foldl Jv ks↔x∈ks\/x∈l
 | [],ks,h,_,_=>⟨h,fun x=>by simp⟩
 | n::l,ks,h,hl,hk=>by
  obtain⟨l1,l2⟩:=QB.mp hl
  have mem:∀x,x∈Jv ks n↔x∈ks\/x=n:=fun x=>by
   unfold Jv;split
   ·rename_i c;have:=hasK_mem.mp c;exact⟨.inl,fun h=>h.elim id fun e=>e▸this⟩
   ·simp
  have pw:(Jv ks n).Pairwise (·<·):=by
   unfold Jv;split
   ·exact h
   ·rename_i c;refine Kq.mpr ⟨h,by simp,fun a ha b hb=>?_⟩;rw[QP] at hb;subst hb;have:=hk a ha b Qc;have:a≠b:=fun e=>c (hasK_mem.mpr (e▸ha))
    omega
  obtain⟨i1,i2⟩:=Jiz l (Jv ks n) pw l2 fun k hk' x hx=>by
   rcases(mem k).mp hk' with e|e
   ·exact hk k e x (Qd _ hx)
   ·rw[e];exact l1 x hx
  refine⟨i1,fun x=>?_⟩;rw[Gj,i2,mem,Qk,or_assoc]
theorem Z0(f:Int->Int):∀(ks:List Int) (n:Int),look ks ((ks.map f).map D.int) n=if n∈ks then some (.int (f n)) else none
 | [],n=>rfl
 | k::ks,n=>by
  rw[Qf,Qf,look,Z0 f ks n]
  by_cases c:k=n
  ·subst c;simp
  ·have c':¬n=k:=fun e=>c e.symm
   simp[c,c']
def Jnn(f:Int->Int)(h:n∉ks):Jv ks n=ks++[n]/\putDs ks ((ks.map f).map D.int) n (.int (f n))=((ks++[n]).map f).map D.int:=by unfold Jv putDs;rw[if_neg fun z=>h (hasK_mem.mp z),if_neg fun z=>h (hasK_mem.mp z)];exact⟨rfl,by simp⟩
theorem Jnd(f:Int->Int):∀ks:List Int,Jb5 ks ((ks.map f).map D.int)=ks.map fun k=>prE (k,f k)
 | []=>rfl
 | k::ks=>by have ih:=Jnd f ks;rw[Qf,Qf,Qf,<- ih];rfl
noncomputable def zzE(f:Int->Int)(q:Pr):D:=.tup [prE q,prE (q.1,q.2+f q.1)]
theorem JkK(f:Int->Int):∀(L:List Pr),Lu L (L.map fun q=>((q.1,q.2+f q.1):Pr))=L.map fun q=>(q,((q.1,q.2+f q.1):Pr))
 | []=>rfl
 | q::L=>by rw[Qf,M0,JkK f L,Qf]
def Jga(ps qs:List Pr)(N:Nat)(f:Int->Int)(g:Good ps)(h30:ps.length<=30)(hN:(ps.map (·.2)).sum<=(N:Int))(a:To N f ps qs):Yg [.sh (.row (ps.map prE)),.sh (.row (qs.map prE))]=some (.own ((dkL ((apT (tbN N 0 ps)).map (·.1))).map fun k=>prE (k,f k))):=by
 have tN:=UZ N g hN
 have qN:=UZ N a.g (by rw[a.s];exact hN)
 have m1:=Jcd ps N g h30 tN
 have m2:=Jcd qs N a.g (by rw[a.l];exact h30) qN;rw[a.e,Jic] at m2
 have al:=Jib g tN
 revert m1 m2 al
 generalize apT (tbN N 0 ps)=L
 intro m1 m2 al;have s2:(L.map fun q=>((q.1,q.2+f q.1):Pr)).map (·.1)=L.map (·.1):=by rw[QJ];rfl
 unfold Yg;walk_at "ev";rw[m1];walk_at "ev";rw[m2];walk_at "ev";rw[V8,V8,s2];walk_at "ev";rw[VD,JkK,QJ,Kh];refine YJ (f:=zzE f) (fun(rest:List Pr) (ks:List Int) E=>∃j5 j6 j7,E=[.sh (.row (ps.map prE)),.sh (.row (qs.map prE)),.sh (.lst (L.map prE)),.sh (.lst ((L.map fun q=>((q.1,q.2+f q.1):Pr)).map prE)),.od ks ((ks.map f).map .int),j5,j6,j7]/\ks.length+rest.length<=30) (fun ks q=>Jv ks q.1) [] ⟨.no,.no,.no,rfl,by rw[al];simpa using h30⟩ ?_ ?_
 ·rintro q rest ks E ⟨j5,j6,j7,rfl,hz⟩;rw[Qr] at hz;simp only[zzE];walk_at "ev";rw[Y2,Y2];walk_at "ev";rw[U7];walk_at "ev";rw[Z0];rw[show q.2+f q.1-q.2=f q.1 by omega]
  by_cases c:q.1∈ks
  ·rw[if_pos c];walk_at "ev";refine⟨.sh (prE q),.sh (prE (q.1,q.2+f q.1)),.sh (.int (f q.1)),?_,?_⟩
   ·have:Jv ks q.1=ks:=by unfold Jv;rw[if_pos (hasK_mem.mpr c)]
    rw[this]
   ·have:Jv ks q.1=ks:=by unfold Jv;rw[if_pos (hasK_mem.mpr c)]
    rw[this];omega
  ·obtain⟨p1,p2⟩:=Jnn f c;rw[if_neg c];walk_at "ev";rw[p2];refine⟨.sh (prE q),.sh (prE (q.1,q.2+f q.1)),.sh (.int (f q.1)),?_,?_⟩
   ·rw[p1]
   ·rw[p1,Qv,Q0];omega
 ·rintro E' ⟨j5,j6,j7,rfl,hz⟩;have e:L.foldl (fun ks q=>Jv ks q.1) []=dkL (L.map (·.1)):=by unfold dkL;rw[List.foldl_map]
  rw[e];walk_at "ev";rw[Jnd]
def Jet(g d B:Int)(hd:0<d)(h:-B<=g/\g<=B):-B<=g / d/\g / d<=B:=by
 have hB:0<=B:=by omega
 constructor
 ·rw[Int.le_ediv_iff_mul_le hd]
  have:B<=B*d:=by have:=Li (show(1:Int)<=d by omega) hB;omega
  rw[Int.neg_mul];omega
 ·have:g / d<B+1:=by rw[Int.ediv_lt_iff_lt_mul hd];have:=Li (show(1:Int)<=d by omega) (show 0<=B+1 by omega);omega
  omega
noncomputable def grB(a c s b:Int):List Pr:=(if 0<(b-c) % (s-a) then [(a+(b-c) % (s-a),(b-c) / (s-a)+1)] else [])++[(s,(b-c) / (s-a))]
theorem JfY:∀(l P:List Pr) (a c:Int),∃a' c',l.foldl (fun(S:List Pr×Int×Int) p=>(S.1++grB S.2.1 S.2.2 p.1 p.2,p.1,p.2)) (P,a,c)=(P++grF a c l,a',c')
 | [],P,a,c=>⟨a,c,by simp[grF]⟩
 | (s,b)::r,P,a,c=>by obtain⟨a',c',e⟩:=JfY r (P++grB a c s b) s b;refine⟨a',c',?_⟩;rw[Gj];show Xi _ (P++grB a c s b,s,b) r=_;rw[e,grF];unfold grB;simp
def Jhz(l:List Pr)(hl:l.length<=30)(h:Zr 0 l)(hb:∀p∈l,p.1<=10 ^ 100/\-10 ^ 100<=p.2/\p.2<=10 ^ 100):Uf [.sh (.lst (l.map prE))]=some (.own ((grF 0 0 l).map prE)):=by
 have big:(10:Int) ^ 100<=((10 ^ 150:Nat):Int):=by decide +kernel
 have big2:4*(10:Nat) ^ 150<=10 ^ 200:=by decide +kernel
 unfold Uf;walk_at "ev";rw[Kh];refine YJ (fun(rest:List Pr) (S:List Pr×Int×Int) E=>∃j3 j4 j5 j6 j7,E=[.sh (.lst (l.map prE)),.own (S.1.map prE),.sh (prE (S.2.1,S.2.2)),j3,j4,j5,j6,j7]/\S.1.length+2*rest.length<=100/\Zr S.2.1 rest/\(0<=S.2.1/\S.2.1<=10 ^ 100/\-10 ^ 100<=S.2.2/\S.2.2<=10 ^ 100)/\∀p∈rest,p.1<=10 ^ 100/\-10 ^ 100<=p.2/\p.2<=10 ^ 100) (fun S p=>(S.1++grB S.2.1 S.2.2 p.1 p.2,p.1,p.2)) ([],0,0) ⟨.no,.no,.no,.no,.no,rfl,by simp;omega,h,by decide +kernel,hb⟩ ?_ ?_
 ·rintro⟨s,b⟩ rest ⟨P,a,c⟩ E ⟨j3,j4,j5,j6,j7,rfl,hz,hasc,⟨a0,a1,c0,c1⟩,hr⟩;obtain⟨h1,h2⟩:=hasc;obtain⟨b0,b1,b2⟩:=hr (s,b) Qc;simp only at h1 h2 a0 a1 c0 c1 b0 b1 b2 hz ⊢;rw[Qr] at hz;have d1:0<s-a/\(s-a).natAbs<=10 ^ 200:=⟨by omega,by omega⟩
  have q:=Jet (b-c) (s-a) (2*10 ^ 100) (by omega) (by omega)
  have d2:((b-c) / (s-a)).natAbs<=10 ^ 200/\(s-a).natAbs<=10 ^ 200:=⟨by omega,d1.2⟩
  have em:b-c-(b-c) / (s-a)*(s-a)=(b-c) % (s-a):=by rw[Int.emod_def,MQ]
  simp only[prE];walk_at "ev";have z0:∀x y:D,atI [x,y] 0=some x:=fun _ _=>rfl
  have z1:∀x y:D,atI [x,y] 1=some y:=fun _ _=>rfl
  rw[z0];walk_at "ev";rw[z1];walk_at "ev";rw[z1];walk_at "ev";rw[em]
  by_cases k:0<(b-c) % (s-a)
  ·rw[decide_eq_true k];walk_at "ev";rw[z0];walk_at "ev";refine⟨.sh (.int s),.sh (.int b),.sh (.int (s-a)),.sh (.int ((b-c) / (s-a))),.sh (.int ((b-c) % (s-a))),?_,?_,h2,⟨by omega,by omega,by omega,by omega⟩,fun p hp=>hr p (Qd _ hp)⟩
   ·unfold grB;rw[if_pos k];simp only[QF,Qf,Ke,Q2,GF,Gk];rfl
   ·unfold grB;rw[if_pos k];simp;omega
  ·rw[decide_eq_false k];walk_at "ev";refine⟨.sh (.int s),.sh (.int b),.sh (.int (s-a)),.sh (.int ((b-c) / (s-a))),.sh (.int ((b-c) % (s-a))),?_,?_,h2,⟨by omega,by omega,by omega,by omega⟩,fun p hp=>hr p (Qd _ hp)⟩
   ·unfold grB;rw[if_neg k];simp only[QF,Qf,Ke,Q2,GF,Gk];rfl
   ·unfold grB;rw[if_neg k];simp;omega
 ·rintro E' ⟨j3,j4,j5,j6,j7,rfl,_⟩;obtain⟨a',c',e⟩:=JfY l [] 0 0;rw[e,Gk];walk_at "ev"
def JkY{α:Type}(xs:List α):Zy xs (some (-1)) none=xs.drop (xs.length-1):=by unfold Zy;rw[HT.JdL];have e:HT.sIx xs.length 0 (some (-1))=(-1+(xs.length:Int)).toNat:=rfl;rw[e,show(-1+(xs.length:Int)).toNat=xs.length-1 by omega];exact Mj (by simp)
theorem JiZ:∀P:List Pr,(Lu P (P.drop 1)).map (fun x=>((some x.1.1,x.1.2-x.2.2):Dd))++(P.drop (P.length-1)).map (fun p=>((none,p.2):Dd))=goP P
 | []=>rfl
 | [(y,g)]=>rfl
 | (y,g)::(y',g')::r=>by have ih:=JiZ ((y',g')::r);rw[goP,<- ih];rfl
theorem JeG:∀(l:List Pr) (a c:Int),(grF a c l).length<=2*l.length
 | [],_,_=>Qp _
 | (s,b)::r,a,c=>by have:=JeG r s b;rw[grF];split <;> simp <;> omega
theorem JbX:∀P:List Pr,(goP P).length=P.length
 | []=>rfl
 | [_]=>rfl
 | (y,g)::(y',g')::r=>by rw[goP,Qr,JbX ((y',g')::r)];rfl
noncomputable def wyF(l:List Pr):List Dd:=(goP (grF 0 0 l)).filter fun d=>decide (d.2≠0)
def Jou(ps qs:List Pr)(l:List Pr)(hl:l.length<=30)(h:Zr 0 l)(hb:∀p∈l,p.1<=10 ^ 100/\-10 ^ 100<=p.2/\p.2<=10 ^ 100)(hm:Yg [.sh (.row (ps.map prE)),.sh (.row (qs.map prE))]=some (.own (l.map prE))):J8 [.sh (.row (ps.map prE)),.sh (.row (qs.map prE))]=some (.own ((wyF l).map dE)):=by
 have gl:=JeG l 0 0
 have pl:=JbX (grF 0 0 l)
 have mg:=Jhz l hl h hb
 have gz:=JiZ (grF 0 0 l);unfold wyF
 revert gl pl mg gz
 generalize grF 0 0 l=P
 intro gl pl mg gz;unfold J8;walk_at "ev";rw[hm];walk_at "ev";rw[mg];walk_at "ev";rw[JcZ,<- Xf,VD];walk_at "ev";have hz:(Lu P (P.drop 1)).length<=16777216:=by rw[GG];omega
 rw[if_pos hz,JM (g:=fun x=>dE (some x.1.1,x.1.2-x.2.2))]
 ·walk_at "ev";rw[JkY,Qm,<- Xf];rw[JM (g:=fun p:Pr=>dE (none,p.2))]
  ·walk_at "ev"
   have ez:(Lu P (P.drop 1)).map (fun x=>dE (some x.1.1,x.1.2-x.2.2))++(P.drop (P.length-1)).map (fun p:Pr=>dE (none,p.2))=(goP P).map dE:=by rw[<- gz,QF,QJ,QJ];rfl
   have hd:(P.drop (P.length-1)).length<=16777216:=by rw[K6];omega
   rw[if_pos hd];walk_at "ev";have hs:(Lu P (P.drop 1)).length+(P.drop (P.length-1)).length<=16777216:=by rw[GG,K6,K6];omega
   rw[if_pos hs];walk_at "ev";rw[ez];rw[Zd (k:=fun d:Dd=>decide (d.2≠0)) (g:=dE)]
   ·walk_at "ev"
   ·intro d _;obtain⟨o,v⟩:=d;have z1:∀x y:D,atI [x,y] 1=some y:=fun _ _=>rfl
    simp only[dE];walk_at "ev";rw[z1];walk_at "ev";simp
  ·intro p _;simp only[prE];walk_at "ev";rfl
 ·intro x _;walk_at "ev";rw[U7,Y2,Y2];walk_at "ev";rfl
theorem JdT{α β:Type}(f:α->β):∀(ks:List (Int×Int)) (ds:List α) (n:Int×Int) (v:α),setP ks (ds.map f) n (f v)=(setP ks ds n v).map f
 | [],_,_,_=>rfl
 | _::_,[],_,_=>rfl
 | k::ks,d::ds,n,v=>by
  simp only[setP,Qf,JdT f ks ds n v]
  by_cases h:k=n
  ·rw[if_pos h,if_pos h]
  ·rw[if_neg h,if_neg h]
def Jbj{α β:Type}(f:α->β)(ks:List (Int×Int))(ds:List α)(n:Int×Int)(v:α):putDP ks (ds.map f) n (f v)=(putDP ks ds n v).map f:=by
 unfold putDP
 by_cases h:ZO ks n=true
 ·rw[if_pos h,if_pos h,JdT]
 ·rw[if_neg h,if_neg h,QF];rfl
theorem UF{α β:Type}(f:α->β):∀(ks:List (Int×Int)) (ds:List α) (n:Int×Int),lookP ks (ds.map f) n=(lookP ks ds n).map f
 | [],_,_=>rfl
 | _::_,[],_=>rfl
 | k::ks,d::ds,n=>by
  simp only[lookP,Qf,UF f ks ds n]
  by_cases h:k=n
  ·rw[if_pos h,if_pos h];rfl
  ·rw[if_neg h,if_neg h]
theorem Ul{α:Type}(d0:α):∀(ks:List (Int×Int)) (vs:List α) (n:Int×Int),n∈ks->ks.length=vs.length->lookP ks vs n=some ((lookP ks vs n).getD d0)
 | [],_,_,h,_=>by cases h
 | _::_,[],_,_,h=>by cases h
 | k::ks,v::vs,n,h,hl=>by
  simp only[lookP]
  by_cases e:k=n
  ·rw[if_pos e];rfl
  ·rw[if_neg e];refine Ul d0 ks vs n ?_ (by simpa using hl);rcases Qk.mp h with z|z
   ·exact absurd z.symm e
   ·exact z
def Jam(ks:List (Int×Int))(n:Int×Int):(YD ks n).length<=ks.length+1:=by unfold YD;split <;> simp
theorem Jbx(f:Int×Int->Int):∀(l:List (Int×Int)) (a:Option Pr),l.Pairwise (fun a b=>Uk a b=true)->(∀p∈l,1<=p.1/\1<=f p)->(∀b,a=some b->∀p∈l,Uk b p=true)->Yl a (l.map fun p=>(p.1,p.2,f p))
 | [],_,_,_,_=>trivial
 | p::l,a,h,hp,ha=>by
  have q:=QB.mp h
  have p1:=hp p Qc;refine⟨p1.1,p1.2,fun b e=>(Vb b p).mp (ha b e p Qc),Jbx f l _ q.2 (fun x hx=>hp x (Qd _ hx)) fun b e x hx=>?_⟩;cases e;exact q.1 x hx
def WJ(h:x∈YD ks n):x∈ks\/x=n:=by
 unfold YD at h
 by_cases c:ZO ks n=true
 ·rw[if_pos c] at h;exact .inl h
 ·rw[if_neg c] at h;rcases Gd.mp h with z|z
  ·exact .inl z
  ·exact .inr (QP.mp z)
def JdH(h:ks.Nodup):(YD ks n).Nodup:=by
 unfold YD
 by_cases c:ZO ks n=true
 ·rw[if_pos c];exact h
 ·rw[if_neg c];refine LG.mpr ⟨h,by simp,fun a ha b hb e=>c ?_⟩;rw[QP.mp hb] at e;unfold ZO;exact Kz.mpr ⟨a,ha,decide_eq_true e⟩
theorem JdU{α:Type}:∀{ks:List (Int×Int)} {ds:List α} {n:Int×Int} {v x:α},x∈setP ks ds n v->x∈ds\/x=v
 | [],_,_,_,_,h=>.inl h
 | _::_,[],_,_,_,h=>.inl h
 | k::ks,d::ds,n,v,x,h=>by
  simp only[setP] at h;rcases Qk.mp h with z|z
  ·by_cases c:k=n
   ·rw[if_pos c] at z;exact .inr z
   ·rw[if_neg c] at z;exact .inl (z▸Qc)
  ·exact(JdU z).imp (Qd _) id
def Jbk{α:Type}{ds:List α}{v x:α}(h:x∈putDP ks ds n v):x∈ds\/x=v:=by
 unfold putDP at h
 by_cases c:ZO ks n=true
 ·rw[if_pos c] at h;exact JdU h
 ·rw[if_neg c] at h;rcases Gd.mp h with z|z
  ·exact .inl z
  ·exact .inr (QP.mp z)
theorem UG{α:Type}:∀{ks:List (Int×Int)} {ds:List α} {n:Int×Int} {x:α},lookP ks ds n=some x->x∈ds
 | [],_,_,_,h=>by cases h
 | _::_,[],_,_,h=>by cases h
 | k::ks,d::ds,n,x,h=>by
  simp only[lookP] at h
  by_cases c:k=n
  ·rw[if_pos c] at h;cases h;exact Qc
  ·rw[if_neg c] at h;exact Qd _ (UG h)
def hasP_iff:ZO ks n=true↔n∈ks:=by unfold ZO;rw[Kz];exact⟨fun⟨x,h,e⟩=>of_decide_eq_true e▸h,fun h=>⟨n,h,decide_eq_true rfl⟩⟩
theorem Jf9{α:Type}:∀{ks:List (Int×Int)} (vs:List α) {n:Int×Int},n∉ks->lookP ks vs n=none
 | [],_,_,_=>rfl
 | _::_,[],_,_=>rfl
 | k::ks,v::vs,n,h=>by rw[lookP,if_neg (show ¬k=n from fun e=>h (e▸Qc))];exact Jf9 vs fun z=>h (Qd _ z)
theorem Jkc{α:Type}(w:α):∀{ks:List (Int×Int)} (vs:List α) {n:Int×Int},n∉ks->setP ks vs n w=vs
 | [],_,_,_=>rfl
 | _::_,[],_,_=>rfl
 | k::ks,v::vs,n,h=>by rw[setP,if_neg (show ¬k=n from fun e=>h (e▸Qc)),Jkc w vs fun z=>h (Qd _ z)]
theorem Jgs(w:Int):∀{ks:List (Int×Int)} {vs:List Int} {n:Int×Int},ks.Nodup->ks.length=vs.length->n∈ks->(setP ks vs n w).sum+(lookP ks vs n).getD 0=vs.sum+w
 | [],_,_,_,_,h=>(QR h).elim
 | _::_,[],_,_,h,_=>by cases h
 | k::ks,v::vs,n,nd,hl,h=>by
  obtain⟨n1,n2⟩:=QY.mp nd;rw[setP,lookP,QG,QG]
  by_cases c:k=n
  ·subst c;rw[if_pos rfl,if_pos rfl,Jkc w vs n1];show w+vs.sum+v=_;omega
  ·rw[if_neg c,if_neg c];have ih:=Jgs w n2 (by simpa using hl) ((Qk.mp h).resolve_left fun e=>c e.symm);omega
def Jgj(w:Int)(nd:ks.Nodup)(hl:ks.length=vs.length):(putDP ks vs n ((lookP ks vs n).getD 0+w)).sum=vs.sum+w:=by
 unfold putDP
 by_cases c:n∈ks
 ·rw[if_pos (hasP_iff.mpr c)];have:=Jgs ((lookP ks vs n).getD 0+w) nd hl c;omega
 ·rw[if_neg fun z=>c (hasP_iff.mp z),Jf9 vs c];simp
theorem ZZ:∀{ks:List (Int×Int)} {vs:List Int},ks.Nodup->ks.length=vs.length->(ks.map fun p=>(lookP ks vs p).getD 0)=vs
 | [],[],_,_=>rfl
 | [],_::_,_,h=>by cases h
 | _::_,[],_,h=>by cases h
 | k::ks,v::vs,nd,hl=>by
  obtain⟨n1,n2⟩:=QY.mp nd;have ih:=ZZ n2 (by simpa using hl);rw[Qf];congr 1
  ·rw[lookP,if_pos rfl];rfl
  ·refine Eq.trans (GQ fun p hp=>?_) ih;rw[lookP,if_neg (show ¬k=p from fun e=>n1 (e▸hp))]
def JdE{α:Type}(f:α->Int){a b:List α}(h:a.Perm b):(a.map f).sum=(b.map f).sum:=by
 induction h with
 | nil=>rfl
 | cons x _ ih=>rw[Qf,Qf,QG,QG,ih]
 | swap x y l=>simp only[Qf,QG];omega
 | trans _ _ h1 h2=>exact h1.trans h2
noncomputable def laW(ns:List Int)(span:Int)(i:Nat):Int:=1+cell ns (2+2*(i:Int)) / span % 2
noncomputable def laP(ns:List Int)(span:Int)(i:Nat):Int×Int:=(1+cell ns (2+2*(i:Int)) % span,cell ns (3+2*(i:Int)) % (4*span+1)-2*span)
noncomputable def laS(ns:List Int)(span:Int):Nat->List (Int×Int)×List Int
 | 0=>([],[])
 | i+1=>(YD (laS ns span i).1 (laP ns span i),putDP (laS ns span i).1 (laS ns span i).2 (laP ns span i) ((lookP (laS ns span i).1 (laS ns span i).2 (laP ns span i)).getD 0+laW ns span i))
noncomputable def laT(ns:List Int)(span:Int)(n:Nat):List Tr:=(W8 (laS ns span n).1).map fun p=>(p.1,p.2,(lookP (laS ns span n).1 (laS ns span n).2 p).getD 0)
theorem Jb7(ns:List Int)(hs:0<span):∀i,((laS ns span i).1.length=(laS ns span i).2.length/\(laS ns span i).1.length<=i)/\(laS ns span i).1.Nodup/\(laS ns span i).2.sum<=2*(i:Int)/\(∀p∈(laS ns span i).1,1<=p.1/\p.1<=span)/\∀v∈(laS ns span i).2,1<=v
 | 0=>⟨⟨rfl,Qp _⟩,Me,GK _,fun p h=>(QR h).elim,fun p h=>(QR h).elim⟩
 | i+1=>by
  obtain⟨⟨l1,l2⟩,h1,h2,h3,h4⟩:=Jb7 ns hs i;have:=Jam (laS ns span i).1 (laP ns span i);have w:1<=laW ns span i/\laW ns span i<=2:=by unfold laW;omega
  simp only[laS];refine⟨⟨VA _ _ _ _ l1,by omega⟩,JdH h1,?_,fun p h=>?_,fun v h=>?_⟩
  ·rw[Jgj _ h1 l1];omega
  ·rcases WJ h with z|z
   ·exact h3 p z
   ·subst z;have b:=Ly (cell ns (2+2*(i:Int))) (show span≠0 by omega);have c:=L6 (cell ns (2+2*(i:Int))) hs;unfold laP;exact⟨by dsimp only;omega,by dsimp only;omega⟩
  ·rcases Jbk h with z|z
   ·exact h4 v z
   ·subst z
    cases e:lookP (laS ns span i).1 (laS ns span i).2 (laP ns span i) with
    | none=>show 1<=0+laW ns span i;omega
    | some x=>have:=h4 x (UG e);show 1<=x+laW ns span i;omega
def Joj(ns:List Int)(hs:0<span)(n:Nat):Yl none (laT ns span n)/\Jw (laT ns span n)<=2*(n:Int)/\(laT ns span n).length<=n/\∀t∈laT ns span n,1<=t.1/\t.1<=span:=by
 obtain⟨⟨l1,l2⟩,h1,h2,h3,h4⟩:=Jb7 ns hs n;unfold laT;refine⟨Jbx _ _ _ (Wq _ h1) (fun p hp=>?_) (fun b e=>nomatch e),?_,by rw[Qm,(JE _).length_eq];exact l2,fun t ht=>?_⟩
 ·have m:=(JE _).mem_iff.mp hp;exact⟨(h3 p m).1,h4 _ (UG (Ul 0 _ _ p m l1))⟩
 ·unfold Jw;rw[QJ];refine RL (Int.le_of_eq ?_) h2;refine(JdE _ (JE _)).trans ?_;exact congrArg List.sum (ZZ h1 l1)
 ·obtain⟨p,hp,rfl⟩:=QC.mp ht;exact h3 p ((JE _).mem_iff.mp hp)
def JqB(ns:List Int)(many span:Int)(h0:0<=many)(h8:many<=12)(hs:0<span/\span.natAbs<=10 ^ 200) :
 Yk [.sh (.fz (ns.map .int)),.sh (.int many),.sh (.int span)]=some (.own ((laT ns span many.toNat).map trE)):=by
 have hs1:=hs.1;unfold Yk;walk_at "ev";rw[Jj1,Kh];refine Jjh (fun i E=>∃j5 j6 j7,E=[.sh (.fz (ns.map .int)),.sh (.int many),.sh (.int span),.ot (laS ns span i).1 ((laS ns span i).2.map .int),j5,j6,j7]) ⟨.no,.no,.no,rfl⟩ ?_ ?_
 ·rintro i E hi ⟨j5,j6,j7,rfl⟩;obtain⟨⟨l1,l2⟩,_⟩:=Jb7 ns hs1 i;have gd:∀(ks:List (Int×Int)) (vs:List Int) n,(lookP ks (vs.map D.int) n).getD (.int 0)=.int ((lookP ks vs n).getD 0):=fun ks vs n=>by rw[UF];cases lookP ks vs n <;> rfl
  walk_at "ev";rw[WE _ _ (by omega)];walk_at "ev";rw[WE _ _ (by omega)];walk_at "ev";rw[gd];walk_at "ev";rw[WE _ _ (by omega)];walk_at "ev";rw[show ∀z:Int,z+1+cell ns (2+2*(i:Int)) / span % 2=z+laW ns span i from fun z=>by unfold laW;omega,Jbj];exact⟨_,_,_,rfl⟩
 ·rintro E' ⟨j5,j6,j7,rfl⟩;obtain⟨⟨h1,h2⟩,_⟩:=Jb7 ns hs1 many.toNat;have hsz:(W8 (laS ns span many.toNat).1).length<=16:=by rw[(JE _).length_eq];omega
  walk_at "ev";rw[JM (f:=prE) (g:=fun p=>trE (p.1,p.2,(lookP (laS ns span many.toNat).1 (laS ns span many.toNat).2 p).getD 0))]
  ·walk_at "ev";unfold laT;rw[QJ];rfl
  ·intro k hk;unfold prE;walk_at "ev";rw[UF,Ul 0 _ _ k ((JE _).mem_iff.mp hk) h1];walk_at "ev";rfl
theorem Jby(f:Int->Int):∀(T:List Tr) (a:Option Pr),Yl a T->Yl (a.map fun b=>(b.1,b.2+f b.1)) (T.map fun t=>(t.1,t.2.1+f t.1,t.2.2))
 | [],_,_=>trivial
 | t::T,a,h=>by
  obtain⟨h1,h2,h3,h4⟩:=h;refine⟨h1,h2,fun b e=>?_,Jby f T _ h4⟩
  cases a with
  | none=>cases e
  | some c =>
   cases e;rcases h3 c rfl with z|⟨z,y⟩
   ·exact .inl z
   ·refine .inr ⟨z,?_⟩;show c.2+f c.1<t.2.1+f t.1;rw[z];omega
noncomputable def JbB(T:List Tr):Int:=(T.map fun t=>(t.1-0)*t.2.2).sum
noncomputable def rwT(T:List Tr):List Pr:=YK 0 (Yf T)
def Je6(h:Yl none T)(hs:Jw T<=30):((rwT T).map (·.2)).sum=JbB T:=by
 obtain⟨_,g,_,e⟩:=Uc h hs;have p:0<=((rwT T).map (·.2)).sum:=by have:=Zp (Good.all g);unfold rwT;omega
 have n:=UZ ((rwT T).map fun p:Pr=>p.2).sum.toNat g (by unfold rwT at p ⊢;omega)
 have b:=Jd5 _ 0 g n;rw[e _ n] at b;exact b.symm
def Jgr(h:Yl none T)(hs:Jw T<=30):tbN (JbB T).toNat 0 (rwT T)=T/\Good (rwT T)/\((rwT T).map (·.2)).sum<=((JbB T).toNat:Int)/\(rwT T).length<=30:=by
 obtain⟨_,g,l,e⟩:=Uc h hs;have p:0<=((rwT T).map (·.2)).sum:=by have:=Zp (Good.all g);unfold rwT;omega
 have s:=Je6 h hs
 have q:((rwT T).map (·.2)).sum<=((JbB T).toNat:Int):=by omega
 exact⟨e _ (UZ _ g q),g,q,by unfold rwT;omega⟩
def JrA(h:Yl none T)(hs:Jw T<=30)(f:Int->Int):To (JbB T).toNat f (rwT T) (rwT (T.map fun t=>(t.1,t.2.1+f t.1,t.2.2))):=by
 have h':=Jby f T none h
 have hn:Jw (T.map fun t=>((t.1,t.2.1+f t.1,t.2.2):Tr))=Jw T:=by unfold Jw;rw[QJ];rfl
 have hs':Jw (T.map fun t=>((t.1,t.2.1+f t.1,t.2.2):Tr))<=30:=by omega
 have hb:JbB (T.map fun t=>((t.1,t.2.1+f t.1,t.2.2):Tr))=JbB T:=by unfold JbB;rw[QJ];rfl
 obtain⟨a1,a2,a3,a4⟩:=Jgr h hs;obtain⟨b1,b2,b3,b4⟩:=Jgr h' hs';obtain⟨_,_,l1,_⟩:=Uc h hs;obtain⟨_,_,l2,_⟩:=Uc h' hs';rw[hb] at b1;refine⟨b2,?_,?_,?_⟩
 ·unfold rwT;omega
 ·rw[Je6 h hs,<- hb];exact Je6 h' hs'
 ·rw[b1,a1]
def To.neg(g:Good ps)(a:To N f ps qs):To N (fun x=>-f x) qs ps:=⟨g,a.l.symm,a.s.symm,by
 rw[a.e,QJ];refine(RN _).symm.trans (GQ fun t _=>?_);show t=(t.1,t.2.1+f t.1+-f t.1,t.2.2)
 rw[show t.2.1+f t.1+-f t.1=t.2.1 by omega]⟩
theorem JiB:∀(l ks:List Int),(l.foldl Jv ks).length<=ks.length+l.length
 | [],ks=>Qp _
 | x::l,ks=>by
  have:=JiB l (Jv ks x)
  have:(Jv ks x).length<=ks.length+1:=by unfold Jv;split <;> simp
  rw[Gj,Qr];omega
theorem Jif{f:Int->Int}:∀{ks:List Int} {a:Int},ks.Pairwise (·<·)->(∀k∈ks,a<k)->Zr a (ks.map fun k=>(k,f k))
 | [],_,_,_=>trivial
 | k::ks,a,h,ha=>⟨ha k Qc,Jif (QB.mp h).2 (QB.mp h).1⟩
noncomputable def szT(T:List Tr):List Int:=dkL ((apT T).map (·.1))
def Jbo(h:Yl none T)(hs:Jw T<=30):(szT T).Pairwise (·<·)/\(∀x,x∈szT T↔∃t∈T,t.1=x)/\(szT T).length<=30:=by
 have nm:∀t∈T,1<=t.2.2:=fun t ht=>(YE h t ht).2
 have o:((apT T).map (·.1)).Pairwise (·<=·):=Mi.mpr ((Jef h).imp fun {a b} z=>by unfold JoT at z;omega);obtain⟨a,b⟩:=Jiz ((apT T).map (·.1)) [] List.Pairwise.nil o (fun k hk=>(QR hk).elim);refine⟨a,fun x=>?_,?_⟩
 ·rw[show(x∈szT T)=(x∈((apT T).map (·.1)).foldl Jv []) from rfl,b];constructor
  ·rintro(z|z)
   ·exact(QR z).elim
   ·obtain⟨q,hq,rfl⟩:=QC.mp z;obtain⟨t,ht,rfl⟩:=Zu hq;exact⟨t,ht,rfl⟩
  ·rintro⟨t,ht,rfl⟩;have:=nm t ht;exact .inr (QC.mpr ⟨(t.1,t.2.1),List.mem_flatMap.mpr ⟨t,ht,Lq.mpr ⟨by omega,rfl⟩⟩,rfl⟩)
 ·have l:=JiB ((apT T).map (·.1)) []
  have:=Wt T nm;rw[Qm] at l;unfold szT dkL;simp only[GS] at l;omega
theorem Jna(B:Int):∀(l:List Pr) (a c:Int),Zr a l->0<=a->(-B<=c/\c<=B)->(∀p∈l,-B<=p.2/\p.2<=B)->∀q∈grF a c l,1<=q.1/\-(2*B+1)<=q.2/\q.2<=2*B+1
 | [],_,_,_,_,_,_,q,hq=>(QR hq).elim
 | (s,b)::r,a,c,h,ha,hc,hl,q,hq=>by
  obtain⟨h1,h2⟩:=h;have hb:-B<=b/\b<=B:=hl (s,b) Qc;have d:=Jet (b-c) (s-a) (2*B) (by omega) (by omega);rw[grF] at hq;rcases Gd.mp hq with z|z
  ·split at z
   ·rw[QP] at z;subst z;exact⟨by dsimp only;omega,by dsimp only;omega,by dsimp only;omega⟩
   ·exact(QR z).elim
  ·rcases Qk.mp z with z|z
   ·subst z;exact⟨by dsimp only;omega,by dsimp only;omega,by dsimp only;omega⟩
   ·exact Jna B r s b h2 (by omega) hb (fun p hp=>hl p (Qd _ hp)) q z
theorem Jm8(M:Int):∀(P:List Pr),(∀q∈P,1<=q.1/\-M<=q.2/\q.2<=M)->∀d∈goP P,OkS d.1/\-(2*M)<=d.2/\d.2<=2*M
 | [],_,d,hd=>(QR hd).elim
 | [(y,g)],h,d,hd=>by have:=h (y,g) Qc;rw[goP,QP] at hd;subst hd;refine⟨fun s e=>(nomatch e),?_,?_⟩ <;> dsimp only at*<;> omega
 | (y,g)::(y',g')::r,h,d,hd=>by
  have h1:=h (y,g) Qc
  have h2:=h (y',g') (Qd _ Qc);rw[goP] at hd;rcases Qk.mp hd with z|z
  ·subst z;refine⟨fun s e=>?_,?_,?_⟩
   ·cases e;exact h1.1
   ·dsimp only at *;omega
   ·dsimp only at *;omega
  ·exact Jm8 M ((y',g')::r) (fun q hq=>h q (Qd _ hq)) d z
theorem Ji2:∀(l:List Pr) (a:Int),(∀p∈l,p.2=0)->∀q∈grF a 0 l,q.2=0
 | [],_,_,q,hq=>(QR hq).elim
 | (s,b)::r,a,hl,q,hq=>by
  have hb:b=0:=hl (s,b) Qc;subst hb;rw[grF] at hq;rcases Gd.mp hq with z|z
  ·rw[if_neg (by simp)] at z;exact(QR z).elim
  ·rcases Qk.mp z with z|z
   ·subst z;simp
   ·exact Ji2 r s (fun p hp=>hl p (Qd _ hp)) q z
theorem JiX:∀(P:List Pr),(∀q∈P,q.2=0)->∀d∈goP P,d.2=0
 | [],_,d,hd=>(QR hd).elim
 | [(y,g)],h,d,hd=>by have:=h (y,g) Qc;rw[goP,QP] at hd;subst hd;exact this
 | (y,g)::(y',g')::r,h,d,hd=>by
  have h1:=h (y,g) Qc
  have h2:=h (y',g') (Qd _ Qc);rw[goP] at hd;rcases Qk.mp hd with z|z
  ·subst z;dsimp only at *;omega
  ·exact JiX ((y',g')::r) (fun q hq=>h q (Qd _ hq)) d z
def JpX(h:∀p∈l,p.2=0):wyF l=[]:=by
 unfold wyF;refine Lp.mpr fun d hd=>?_
 have:=JiX _ (Ji2 l 0 h) d hd;simp[this]
def Jd7{N:Nat}{f:Int->Int}{ps qs:List Pr}(g:Good ps)(h30:ps.length<=30)(hN:(ps.map (·.2)).sum<=(N:Int))(a:To N f ps qs)(hB:∀t∈tbN N 0 ps,t.1<=10 ^ 40/\-10 ^ 60<=f t.1/\f t.1<=10 ^ 60) :
 ∃W:List Dd,J8 [.sh (.row (ps.map prE)),.sh (.row (qs.map prE))]=some (.own (W.map dE))/\W.length<=60/\(∀d∈W,OkD d)/\(∀t∈tbN N 0 ps,tot W t.1=f t.1)/\((∀t∈tbN N 0 ps,f t.1=0)->W=[]):=by
 have tN:=UZ N g hN
 have asc:=Jbz N 0 ps none g (GK _) (fun b e=>by cases e)
 have ns:=JaA N 0 g tN
 have mv:=Jga ps qs N f g h30 hN a;obtain⟨s1,s2,s3⟩:=Jbo asc (by omega);rw[show(dkL ((apT (tbN N 0 ps)).map (·.1))).map (fun k=>prE (k,f k))=((szT (tbN N 0 ps)).map fun k=>((k,f k):Pr)).map prE by rw[QJ];rfl] at mv
 have p1:∀k∈szT (tbN N 0 ps),0<k:=fun k hk=>by obtain⟨t,ht,rfl⟩:=(s2 k).mp hk;have:=(YE asc t ht).1;omega
 have ap:=Jif (f:=f) s1 p1
 have hl:((szT (tbN N 0 ps)).map fun k=>((k,f k):Pr)).length<=30:=by rw[Qm];exact s3
 have hb:∀p∈(szT (tbN N 0 ps)).map fun k=>((k,f k):Pr),p.1<=10 ^ 40/\-10 ^ 60<=p.2/\p.2<=10 ^ 60:=fun p hp=>by obtain⟨k,hk,rfl⟩:=QC.mp hp;obtain⟨t,ht,rfl⟩:=(s2 k).mp hk;exact hB t ht
 have mw:=Jou ps qs _ hl ap (fun p hp=>by have:=hb p hp;omega) mv;refine⟨_,mw,?_,fun d hd=>?_,fun t ht=>?_,fun h0=>?_⟩
 ·unfold wyF;refine Gy (LB _ _) ?_;have:=JeG ((szT (tbN N 0 ps)).map fun k=>((k,f k):Pr)) 0 0;rw[JbX];omega
 ·unfold wyF at hd;have b:=Jm8 _ _ (Jna (10 ^ 60) _ 0 0 ap (GK _) (by omega) fun p hp=>(hb p hp).2) d (Kt.mp hd).1;exact⟨b.1,by omega,by omega⟩
 ·unfold wyF;rw[JgP];exact JmP _ ap (t.1,f t.1) (QC.mpr ⟨t.1,(s2 _).mpr ⟨t,ht,rfl⟩,rfl⟩)
 ·refine JpX fun p hp=>?_
  obtain⟨k,hk,rfl⟩:=QC.mp hp;obtain⟨t,ht,rfl⟩:=(s2 k).mp hk;exact h0 t ht
theorem Jno:∀{a b:List Int},a.Pairwise (·<·)->b.Pairwise (·<·)->(∀x,x∈a↔x∈b)->a=b
 | [],[],_,_,_=>rfl
 | [],y::b,_,_,h=>(QR ((h y).mpr Qc)).elim
 | x::a,[],_,_,h=>(QR ((h x).mp Qc)).elim
 | x::a,y::b,ha,hb,h=>by
  obtain⟨a1,a2⟩:=QB.mp ha;obtain⟨b1,b2⟩:=QB.mp hb
  have e:x=y:=by
   rcases Qk.mp ((h x).mp Qc) with z|z
   ·exact z
   ·rcases Qk.mp ((h y).mpr Qc) with w|w
    ·exact w.symm
    ·have:=a1 y w;have:=b1 x z;omega
  subst e;rw[Jno a2 b2 fun z=>?_];constructor
  ·intro hz;rcases Qk.mp ((h z).mp (Qd _ hz)) with w|w
   ·have:=a1 z hz;omega
   ·exact w
  ·intro hz;rcases Qk.mp ((h z).mpr (Qd _ hz)) with w|w
   ·have:=b1 z hz;omega
   ·exact w
def JpK(xs:List Int):(Yq (fM xs)).Pairwise (·<·):=by have nd:=(JO (fM xs)).nodup_iff.mpr (ZI xs);exact((UN (fM xs)).and nd).imp fun {a b} h=>by have:=h.1;have:=h.2;omega
def Jki(h:Yl none T)(hs:Jw T<=30):Yq (fM (T.map (·.1)))=szT T:=by
 obtain⟨s1,s2,_⟩:=Jbo h hs;refine Jno (JpK _) s1 fun x=>?_
 rw[(JO _).mem_iff,ZH,s2,QC]
def JqA(tb:List Tr)(h:Yl none tb)(hs:Jw tb<=30)(hl:tb.length<=30):∃r,J3 [.bo (tb.map trE)]=some r:=by
 obtain⟨E',e,el⟩:=JbL (.bo (tb.map trE)) tb none .no .no .no h;unfold J3;walk_at "ev";rw[show JD ctP ctB (tb.map trE) [.bo (tb.map trE),.sh .non,.no,.no,.no]=_ from e];walk_at "ev";rw[JM (g:=fun t:Tr=>D.int t.2.2)]
 ·walk_at "ev";rw[UT (ns:=tb.map (·.2.2)) (by simp[Sl.q])];walk_at "ev";rw[decide_eq_false (show ¬(tb.map (·.2.2)).sum>30 from by unfold Jw at hs;omega)];walk_at "ev";exact⟨_,rfl⟩
 ·intro t _;simp only[trE];walk_at "ev"
def Jjk(tb:List Tr)(h:Yl none tb)(hs:Jw tb<=30)(hl:tb.length<=30)(ok:OkG 0 (Yf tb)):JU [.bo (tb.map trE)]=some (.sh (.row ((YK 0 (Yf tb)).map prE))):=by
 obtain⟨r,hr⟩:=JqA tb h hs hl;obtain⟨kp,_⟩:=Jci ok;have nd:((Yf tb).map (·.1)).Nodup:=kp.imp fun {a b} h=>by omega
 have gl:=JbY tb [];rw[show tb.foldl YM []=Yf tb from rfl,GS] at gl;obtain⟨g2,g3,g4,hg⟩:=Jos (.bo (tb.map trE)) .no .no .no tb [] .no .no .no;rw[show tb.foldl YM []=Yf tb from rfl] at hg;obtain⟨r2,r7,hro⟩:=Jct (.bo (tb.map trE)) (.sh (.lst (((Yf tb).map (·.1)).map .int))) g3 g4 (Yf tb) nd (Yf tb) 0 g2 .no ok (fun _ h=>h);unfold JU;walk_at "ev";rw[hr];walk_at "ev";unfold JkG;walk_at "ev";rw[show VI gpP gpK gpV (tb.map trE) [.bo (tb.map trE),.no,.no,.no,.no,.no,.no,.no] [] []=_ from hg]
 walk_at "ev";rw[show ZK [.own []]=some (.sh (.row (([]:List Pr).map prE))) from Vw (ps:=[]) rfl Good.nil (by simp)];walk_at "ev"
 have hz:JaP (D.int 0::((Yf tb).map (·.1)).map D.int) (((Yf tb).map (·.1)).map D.int)=(zl 0 (Yf tb)).map prE:=by rw[show D.int 0::((Yf tb).map (·.1)).map D.int=(0::(Yf tb).map (·.1)).map D.int from rfl,VD];rfl
 rw[hz,<- List.map_reverse];rw[show JD roP roB ((zl 0 (Yf tb)).reverse.map prE) [.bo (tb.map trE),.od ((Yf tb).map (·.1)) (((Yf tb).map fun x=>x.2.map prE).map D.lst),g2,g3,g4,.sh (.lst (((Yf tb).map (·.1)).map .int)),.sh (.row []),.no]=_ from hro];walk_at "ev"
noncomputable def MvP(A B:List Pr):Prop:=∃f:Int->Int,B=A.map fun q=>((q.1,q.2+f q.1):Pr)
def Joz(h:MvP A B):MvP B A:=by
 obtain⟨f,rfl⟩:=h;refine⟨fun x=>-f x,?_⟩;rw[QJ];refine(RN _).symm.trans (GQ fun q _=>?_);show q=(q.1,q.2+f q.1+-f q.1)
 rw[show q.2+f q.1+-f q.1=q.2 by omega]
theorem Jia:∀{T U:List Tr} {a b:Option Pr},Yl a T->Yl b U->apT T=apT U->T=U
 | [],[],_,_,_,_,_=>rfl
 | [],u::U,_,_,_,hu,e=>by
  have:=hu.2.1;obtain⟨n,hn⟩:∃n,u.2.2.toNat=n+1:=⟨u.2.2.toNat-1,by omega⟩
  unfold apT at e;rw[Gf,hn,GH] at e;cases e
 | t::T,[],_,_,ht,_,e=>by
  have:=ht.2.1;obtain⟨n,hn⟩:∃n,t.2.2.toNat=n+1:=⟨t.2.2.toNat-1,by omega⟩
  unfold apT at e;rw[Gf,hn,GH] at e;cases e
 | t::T,u::U,_,_,ht,hu,e=>by
  obtain⟨_,t2,_,t4⟩:=ht;obtain⟨_,u2,_,u4⟩:=hu;have e':QM t.2.2.toNat (t.1,t.2.1)++apT T=QM u.2.2.toNat (u.1,u.2.1)++apT U:=e
  have hd:((t.1,t.2.1):Pr)=(u.1,u.2.1):=by
   obtain⟨n,hn⟩:∃n,t.2.2.toNat=n+1:=⟨t.2.2.toNat-1,by omega⟩
   obtain⟨m,hm⟩:∃m,u.2.2.toNat=m+1:=⟨u.2.2.toNat-1,by omega⟩
   rw[hn,hm,GH,GH] at e';exact(Lz e').1
  have nt:((t.1,t.2.1):Pr)∉apT T:=fun h=>by
   obtain⟨v,hv,q⟩:=Zu h;have:=Jbw t4 v hv
   injection q with q1 q2
   simp only at this;omega
  have nu:((t.1,t.2.1):Pr)∉apT U:=fun h=>by
   obtain⟨v,hv,q⟩:=Zu h;have:=Jbw u4 v hv;rw[hd] at q
   injection q with q1 q2
   simp only at this;omega
  have cn:=congrArg (List.count ((t.1,t.2.1):Pr)) e';rw[KY,KY,<- hd,M8,M8,Lo.mpr nt,Lo.mpr nu] at cn
  have num:t.2.2=u.2.2:=by omega
  rw[num,hd] at e';have tl:=List.append_cancel_left e'
  injection hd with h1 h2
  rw[Jia t4 u4 tl];congr 1;exact Mt h1 (Mt h2 num)
theorem JgA:∀{A B:List Pr},(A.map (·.1)).Pairwise (·<=·)->(B.map (·.1)).Pairwise (·<=·)->(∀x,A.filter (fun q=>decide (q.1=x))=B.filter (fun q=>decide (q.1=x)))->A=B
 | [],[],_,_,_=>rfl
 | [],b::B,_,_,h=>by have:=h b.1;rw[Q7 (by simp)] at this;cases this
 | a::A,[],_,_,h=>by have:=h a.1;rw[Q7 (by simp)] at this;cases this
 | a::A,b::B,ha,hb,h=>by
  rw[Qf,QB] at ha hb
  have ab:b.1<=a.1:=by
   have e:=h a.1;rw[Q7 (by simp)] at e
   have m:a∈(b::B).filter (fun q=>decide (q.1=a.1)):=by rw[<- e];exact Qc
   rcases Qk.mp (Kt.mp m).1 with z|z
   ·rw[z];exact GK _
   ·exact hb.1 _ (QC.mpr ⟨a,z,rfl⟩)
  have ba:a.1<=b.1:=by
   have e:=h b.1;rw[Q7 (a:=b) (by simp)] at e
   have m:b∈(a::A).filter (fun q=>decide (q.1=b.1)):=by rw[e];exact Qc
   rcases Qk.mp (Kt.mp m).1 with z|z
   ·rw[z];exact GK _
   ·exact ha.1 _ (QC.mpr ⟨b,z,rfl⟩)
  have k:a.1=b.1:=by omega
  have e0:=h a.1;rw[Q7 (by simp),Q7 (a:=b) (by simp[k])] at e0
  have e:=(Lz e0).1;subst e;rw[JgA ha.2 hb.2 fun x=>?_]
  by_cases c:a.1=x
  ·have:=h x;rw[Q7 (by simp[c]),Q7 (by simp[c])] at this;exact(Lz this).2
  ·have:=h x;rw[G4 (by simp[c]),G4 (by simp[c])] at this;exact this
def Jm0(h:Yl none T):((apT T).map (·.1)).Pairwise (·<=·):=Mi.mpr ((Jef h).imp fun {a b} z=>by unfold JoT at z;omega)
noncomputable def spX(x:Int)(A:List Pr):List Int:=(A.filter fun q=>decide (q.1=x)).map (·.2)
def JfV(x:Int)(A:List Pr):A.filter (fun q=>decide (q.1=x))=(spX x A).map fun y=>(x,y):=by
 unfold spX;rw[QJ];refine(RN _).symm.trans (GQ fun q hq=>?_);have:=of_decide_eq_true (Kt.mp hq).2;show q=(x,q.2)
 rw[<- this]
theorem Jfh(f:Int->Int)(x:Int):∀A:List Pr,spX x (A.map fun q=>((q.1,q.2+f q.1):Pr))=(spX x A).map (·+f x)
 | []=>rfl
 | q::A=>by
  have ih:=Jfh f x A;unfold spX at ih ⊢;rw[Qf]
  by_cases c:q.1=x
  ·rw[Q7 (by simp[c]),Q7 (by simp[c]),Qf,Qf,Qf,ih,c]
  ·rw[G4 (by simp[c]),G4 (by simp[c]),ih]
noncomputable def smB:List Int->Bool
 | []=>true
 | a::l=>l.all fun b=>decide (b=a)
noncomputable def dfX(a b:List Int):List Int:=Xr (fun x y=>y-x) a b
theorem Jiy(c:Int):∀a:List Int,dfX a (a.map (·+c))=a.map fun _=>c
 | []=>rfl
 | x::a=>by have ih:=Jiy c a;unfold dfX at ih ⊢;rw[Qf,RM,ih,Qf,show x+c-x=c by omega]
theorem Jm1{c:Int}:∀{a b:List Int},a.length=b.length->(∀d∈dfX a b,d=c)->b=a.map (·+c)
 | [],[],_,_=>rfl
 | [],_::_,h,_=>by cases h
 | _::_,[],h,_=>by cases h
 | x::a,y::b,hl,h=>by have h1:=h (y-x) Qc;rw[Qf,Jm1 (c:=c) (by simpa using hl) fun d hd=>h d (Qd _ hd),show x+c=y by omega]
def Jnw(h:smB l=true):∃c,∀d∈l,d=c:=by
 cases l with
 | nil=>exact⟨0,fun d hd=>by cases hd⟩
 | cons a l =>
  refine⟨a,fun d hd=>?_⟩;rcases Qk.mp hd with e|e
  ·exact e
  ·exact of_decide_eq_true (Ka.mp h d e)
def Jnx{l:List Int}{c:Int}(h:∀d∈l,d=c):smB l=true:=by
 cases l with
 | nil=>rfl
 | cons a l=>exact Ka.mpr fun d hd=>decide_eq_true ((h d (Qd _ hd)).trans (h a Qc).symm)
noncomputable def okX(A B:List Pr)(x:Int):Bool:=decide ((spX x A).length=(spX x B).length) && smB (dfX (spX x A) (spX x B))
def Joy(pa:(A.map (·.1)).Pairwise (·<=·))(pb:(B.map (·.1)).Pairwise (·<=·)):MvP A B↔∀x,okX A B x=true:=by
 constructor
 ·rintro⟨f,rfl⟩ x;unfold okX;rw[Jfh,Jiy,Qm,decide_eq_true rfl,Xe];exact Jnx (c:=f x) fun d hd=>by obtain⟨_,_,rfl⟩:=QC.mp hd;rfl
 ·intro h
  have hc:∀x,∃c,spX x B=(spX x A).map (·+c):=fun x=>by have:=h x;unfold okX at this;rw[Q6] at this;obtain⟨c,hc⟩:=Jnw this.2;exact⟨c,Jm1 (of_decide_eq_true this.1) hc⟩
  obtain⟨f,hf⟩:∃f:Int->Int,∀x,spX x B=(spX x A).map (·+f x):=⟨fun x=>Classical.choose (hc x),fun x=>Classical.choose_spec (hc x)⟩
  refine⟨f,JgA pb ?_ fun x=>?_⟩
  ·rw[QJ];exact pa
  ·rw[JfV,JfV,Jfh,hf]
noncomputable abbrev mvB:Es:=(Jh (Jm 7 (e2 Yz (e2 fIx (Jb 6) (eC (.int 1))) (e2 fIx (Jb 5) (eC (.int 1))))) (Jea fNe 4 (e2 fIx (Jb 5) (eC (.int 0))) (Jb 7) (Jb 7) (Yh (eC .non)) JB))
noncomputable abbrev JlI:Pt:=(.tp (.cons (.nm 5) (.cons (.nm 6) .nil)))
noncomputable def zzP(x:Pr×Pr):D:=.tup [prE x.1,prE x.2]
theorem Jgb(r1 r2 l1 l2:Sl):∀(rest:List (Pr×Pr)) (ks:List Int) (f:Int->Int) (j5 j6 j7:Sl),(∀p∈rest,p.1.1=p.2.1)->ks.length+rest.length<=30 ->
 JD JlI mvB (rest.map zzP) [r1,r2,l1,l2,.od ks ((ks.map f).map .int),j5,j6,j7]=some (.rt (.sh .non))\/∃f':Int->Int,(∀k∈ks,f' k=f k)/\∀p∈rest,p.2.2=p.1.2+f' p.1.1
 | [],ks,f,_,_,_,_,_=>.inr ⟨f,fun _ _=>rfl,fun p hp=>by cases hp⟩
 | p::rest,ks,f,j5,j6,j7,he,hz=>by
  rw[Qr] at hz;have e1:=he p Qc
  have step:∀(f':Int->Int),(∀k∈ks,f' k=f k)->p.2.2-p.1.2=f' p.1.1->∃ks',(∀k∈ks,k∈ks')/\p.1.1∈ks'/\ks'.length+rest.length<=30/\JD JlI mvB ((p::rest).map zzP) [r1,r2,l1,l2,.od ks ((ks.map f).map .int),j5,j6,j7]=JD JlI mvB (rest.map zzP) [r1,r2,l1,l2,.od ks' ((ks'.map f').map .int),.sh (prE p.1),.sh (prE p.2),.sh (.int (p.2.2-p.1.2))]:=by
   intro f' hf' hb;have em:ks.map f=ks.map f':=GQ fun k hk=>(hf' k hk).symm
   by_cases c:p.1.1∈ks
   ·refine⟨ks,fun _ h=>h,c,by omega,?_⟩;rw[em,Qf,JD];simp only[zzP];walk_at "ev";rw[Y2,Y2];walk_at "ev";rw[U7];walk_at "ev";rw[Z0,if_pos c,hb];walk_at "ev"
   ·obtain⟨q1,q2⟩:=Jnn f' c;refine⟨ks++[p.1.1],fun k h=>Ko _ h,by simp,by rw[Qv,Q0];omega,?_⟩;rw[em,Qf,JD];simp only[zzP];walk_at "ev";rw[Y2,Y2];walk_at "ev";rw[U7];walk_at "ev";rw[Z0,if_neg c,hb];walk_at "ev";rw[q2,q1]
  by_cases c:p.1.1∈ks/\f p.1.1≠p.2.2-p.1.2
  ·left
   rw[Qf,JD];simp only[zzP];walk_at "ev";rw[Y2,Y2];walk_at "ev";rw[U7];walk_at "ev";rw[Z0,if_pos c.1];walk_at "ev";rw[decide_eq_false c.2];walk_at "ev"
  ·let f':Int->Int:=fun k=>if k=p.1.1 then p.2.2-p.1.2 else f k
   have h1:∀k∈ks,f' k=f k:=fun k hk=>by
    show(if k=p.1.1 then p.2.2-p.1.2 else f k)=f k;split
    ·rename_i e;subst e
     false_or_by_contra
     rename_i q;exact c ⟨hk,fun z=>q z.symm⟩
    ·rfl
   have h2:p.2.2-p.1.2=f' p.1.1:=by show _=if p.1.1=p.1.1 then _ else _;rw[if_pos rfl]
   obtain⟨ks',s1,s2,s3,s4⟩:=step f' h1 h2;rcases Jgb r1 r2 l1 l2 rest ks' f' (.sh (prE p.1)) (.sh (prE p.2)) (.sh (.int (p.2.2-p.1.2))) (fun q hq=>he q (Qd _ hq)) s3 with z|⟨g,g1,g2⟩
   ·left
    rw[s4,z]
   ·right
    refine⟨g,fun k hk=>(g1 k (s1 k hk)).trans (h1 k hk),fun q hq=>?_⟩;rcases Qk.mp hq with e|e
    ·subst e;have:=g1 q.1.1 s2;omega
    ·exact g2 q e
theorem JgU:∀{A B:List Pr} {f:Int->Int},A.map (·.1)=B.map (·.1)->(∀p∈Lu A B,p.2.2=p.1.2+f p.1.1)->B=A.map fun q=>((q.1,q.2+f q.1):Pr)
 | [],[],_,_,_=>rfl
 | [],_::_,_,h,_=>by cases h
 | _::_,[],_,h,_=>by cases h
 | a::A,b::B,f,h,hp=>by rw[Qf,Qf] at h;obtain⟨h1,h2⟩:=Lz h;have e:=hp (a,b) Qc;rw[Qf,<- JgU (f:=f) h2 fun p hp'=>hp p (Qd _ hp')];congr 1;exact Mt h1.symm e
theorem JgT:∀{A B:List Pr},A.map (·.1)=B.map (·.1)->∀p∈Lu A B,p.1.1=p.2.1
 | [],_,_,p,hp=>by cases hp
 | _::_,[],h,_,_=>by cases h
 | a::A,b::B,h,p,hp=>by
  rw[Qf,Qf] at h;obtain⟨h1,h2⟩:=Lz h;rcases Qk.mp hp with e|e
  ·subst e;exact h1
  ·exact JgT h2 p e
def Jjq(ps qs A B:List Pr)(m1:JK [.sh (.row (ps.map prE))]=some (.own (A.map prE)))(m2:JK [.sh (.row (qs.map prE))]=some (.own (B.map prE)))(hA:A.length<=30)(hB:B.length<=30)(h:¬MvP A B):Yg [.sh (.row (ps.map prE)),.sh (.row (qs.map prE))]=some (.sh .non):=by
 unfold Yg;walk_at "ev";rw[m1];walk_at "ev";rw[m2];walk_at "ev";rw[V8,V8];walk_at "ev"
 by_cases e:A.map (·.1)=B.map (·.1)
 ·rw[decide_eq_true e];walk_at "ev";rw[VD];rcases Jgb (.sh (.row (ps.map prE))) (.sh (.row (qs.map prE))) (.sh (.lst (A.map prE))) (.sh (.lst (B.map prE))) (Lu A B) [] (fun _=>0) .no .no .no (JgT e) (by rw[GG];simp;omega) with z | ⟨f,_,g2⟩
  ·rw[show JD JlI mvB ((Lu A B).map fun p=>D.tup [prE p.1,prE p.2]) [.sh (.row (ps.map prE)),.sh (.row (qs.map prE)),.sh (.lst (A.map prE)),.sh (.lst (B.map prE)),.od [] [],.no,.no,.no]=_ from z];walk_at "ev"
  ·exact(h ⟨f,JgU e g2⟩).elim
 ·rw[decide_eq_false e];walk_at "ev"
def JlM(ps qs:List Pr)(h:Yg [.sh (.row (ps.map prE)),.sh (.row (qs.map prE))]=some (.sh .non)):J8 [.sh (.row (ps.map prE)),.sh (.row (qs.map prE))]=some (.sh .non):=by unfold J8;walk_at "ev";rw[h];walk_at "ev"
def JoC(ps qs:List Pr)(seats:Option Int)(ok:OkS seats)(h:Yg [.sh (.row (ps.map prE)),.sh (.row (qs.map prE))]=some (.sh .non)):JT [.sh (.row (ps.map prE)),.sh (.row (qs.map prE)),.sh (J7 seats)]=some (.sh .non):=by obtain⟨r,hr⟩:=Jqz seats ok;unfold JT;walk_at "ev";rw[hr];walk_at "ev";rw[h];walk_at "ev"
def Jgz(k:Int)(t:Tr)(T:List Tr):spX k (apT (t::T))=(if t.1=k then QM t.2.2.toNat t.2.1 else [])++spX k (apT T):=by
 unfold spX apT;rw[Gf,List.filter_append,QF];congr 1
 by_cases c:t.1=k
 ·rw[if_pos c,List.filter_eq_self.mpr fun q hq=>by rw[(Lq.mp hq).2];simp[c],Ln]
 ·rw[if_neg c,Lp.mpr fun q hq=>by rw[(Lq.mp hq).2];simp[c]];rfl
theorem Zo(x:Sl)(k:Int):∀(T:List Tr) (S:List Int) (j3 j4 j5:Sl),(∀t∈T,1<=t.2.2)->(S.length:Int)+Jw T<=1000->∃j3' j4' j5',JD (.tp (.cons (.nm 3) (.cons (.nm 4) (.cons (.nm 5) .nil)))) (xIf (tB? (e2 fEq (Jb 3) (Jb 1))) (Jm 2 (e2 JR (Jb 2) (e2 JeD (Y1 (aC (Jb 4) a0)) (Jb 5)))) JB) (T.map trE) [x,.sh (.int k),.sh (.lst (S.map .int)),j3,j4,j5]=some (.nx [x,.sh (.int k),.sh (.lst ((S++spX k (apT T)).map .int)),j3',j4',j5'])
 | [],S,j3,j4,j5,_,_=>⟨j3,j4,j5,by rw[show spX k (apT [])=[] from rfl,Gi];rfl⟩
 | t::T,S,j3,j4,j5,h,hz=>by
  have h1:=h t Qc
  have hs:0<=Jw T:=by have:=(JeT (tb:=T) fun u hu=>h u (Qd _ hu)).1;omega
  have e:Jw (t::T)=t.2.2+Jw T:=by unfold Jw;rw[Qf,QG]
  rw[e] at hz
  by_cases c:t.1=k
  ·obtain⟨a,b,d,ih⟩:=Zo x k T (S++QM t.2.2.toNat t.2.1) (.sh (.int t.1)) (.sh (.int t.2.1)) (.sh (.int t.2.2)) (fun u hu=>h u (Qd _ hu)) (by rw[Qv,GM];omega);refine⟨a,b,d,?_⟩;rw[Qf,JD];simp only[trE];walk_at "ev";rw[decide_eq_true c];walk_at "ev";rw[ZJ (d:=D.int t.2.1) rfl (Jb3 ⟨by omega,by omega⟩) (by omega)];walk_at "ev";rw[JfP (by rw[Qm,GM];show _<=16777216;omega)]
   walk_at "ev";rw[Jgz,if_pos c,<- Q2,<- ih,QF,Ln]
  ·obtain⟨a,b,d,ih⟩:=Zo x k T S (.sh (.int t.1)) (.sh (.int t.2.1)) (.sh (.int t.2.2)) (fun u hu=>h u (Qd _ hu)) (by omega);refine⟨a,b,d,?_⟩;rw[Qf,JD];simp only[trE];walk_at "ev";rw[decide_eq_false c];walk_at "ev";rw[Jgz,if_neg c,Gk];exact ih
def JqF(T:List Tr)(k:Int)(h:Yl none T)(hn:Jw T<=30):JP [.sh (.lst (T.map trE)),.sh (.int k)]=some (.sh (.lst ((spX k (apT T)).map .int))):=by obtain⟨a,b,d,e⟩:=Zo (.sh (.lst (T.map trE))) k T [] .no .no .no (fun t ht=>(YE h t ht).2) (by simp;omega);unfold JP;walk_at "ev";rw[show([]:List D)=([]:List Int).map D.int from rfl,e];walk_at "ev"
def JqG(T:List Tr)(k:Int)(h:Yl none T)(hn:Jw T<=30):JP [.bo (T.map trE),.sh (.int k)]=some (.sh (.lst ((spX k (apT T)).map .int))):=by obtain⟨a,b,d,e⟩:=Zo (.bo (T.map trE)) k T [] .no .no .no (fun t ht=>(YE h t ht).2) (by simp;omega);unfold JP;walk_at "ev";rw[show([]:List D)=([]:List Int).map D.int from rfl,e];walk_at "ev"
def Jm5(l:List Int):(fM l).length<=1↔smB l=true:=by
 constructor
 ·intro h
  cases l with
  | nil=>rfl
  | cons a l =>
   have ma:a∈fM (a::l):=(ZH _ _).mpr Qc
   cases hf:fM (a::l) with
   | nil=>rw[hf] at ma;cases ma
   | cons b r =>
    rw[hf,Qr] at h;have hr:r=[]:=QA (by omega);subst hr
    have all:∀d∈a::l,d=b:=fun d hd=>by
     have:=(ZH _ _).mpr hd;rw[hf] at this
     simpa using this
    exact Jnx all
 ·intro h;obtain⟨c,hc⟩:=Jnw h;have nd:=ZI l
  cases hf:fM l with
  | nil=>simp
  | cons a r =>
   cases r with
   | nil=>simp
   | cons b r=>rw[hf] at nd;have m1:a∈l:=(ZH _ _).mp (by rw[hf];exact Qc);have m2:b∈l:=(ZH _ _).mp (by rw[hf];exact Qd _ Qc);have:=hc a m1;have:=hc b m2;rw[QY] at nd;exact(nd.1 (by rw[show a=b by omega];exact Qc)).elim
def Jk0(a b:List Int)(h:a.length=b.length):Ur (.nm 0) yes? (e2 Yz (e2 fIx (Jb 1) (Jb 0)) (e2 fIx (Jb 2) (Jb 0))) [.no,.sh (.lst (b.map .int)),.sh (.lst (a.map .int))] ((Ge a.length).map fun i:Nat=>D.int (i:Int))=some ((dfX a b).map D.int):=by
 rw[show(dfX a b).map D.int=(Ge a.length).map fun i:Nat=>D.int (b.getD i 0-a.getD i 0) by
  refine GX fun i=>?_
  rw[Qw,Qw];unfold dfX;rw[Mn]
  by_cases c:i<a.length
  ·rw[Qy c,Qy (show i<b.length by omega),List.getElem?_range c];simp[c,show i<b.length by omega]
  ·rw[GO (by omega),GO (l:=Ge a.length) (by rw[Ks];omega)];rfl]
 refine JM fun i hi=>?_
 have c:=MR.mp hi
 have ga:atI (a.map D.int) (i:Int)=some (.int (a.getD i 0)):=by rw[Uq,U3 c];simp[c]
 have gb:atI (b.map D.int) (i:Int)=some (.int (b.getD i 0)):=by rw[Uq,U3 (show i<b.length by omega)];simp[show i<b.length by omega]
 walk_at "ev";rw[ga,gb];walk_at "ev"
def Jgy(k:Int)(A:List Pr):(spX k A).length<=A.length:=by unfold spX;rw[Qm];exact LB _ _
theorem JcV(T U:List Tr)(hT:Yl none T)(nT:Jw T<=30)(hU:Yl none U)(nU:Jw U<=30)(x2:Sl):∀(rest:List Int) (j3 j4 j5:Sl),∃j3' j4' j5',JD (.nm 3) (Jh (Jm 4 (eU 2 JP (aC (Jb 0) (aC (Jb 3) a0)))) (Jh (Jm 5 (eU 2 JP (aC (Jb 1) (aC (Jb 3) a0)))) (xIf (tOr? (tB? (e2 fNe (eF U8 (aC (Jb 4) a0)) (eF U8 (aC (Jb 5) a0)))) (tB? (e2 fGt (JfL (Yi (iR1 (aC (eF U8 (aC (Jb 4) a0)) a0)) (.nm 0) yes? (e2 Yz (e2 fIx (Jb 1) (Jb 0)) (e2 fIx (Jb 2) (Jb 0))) [none,some 5,some 4])) (eC (.int 1))))) (Yh (eC (.bl false))) JB))) (rest.map .int) [.sh (.lst (T.map trE)),.bo (U.map trE),x2,j3,j4,j5]=some (if (rest.all fun x=>okX (apT T) (apT U) x)=true then .nx [.sh (.lst (T.map trE)),.bo (U.map trE),x2,j3',j4',j5'] else .rt (.sh (.bl false)))
 | [],j3,j4,j5=>⟨j3,j4,j5,rfl⟩
 | x::rest,j3,j4,j5=>by
  have lT:(apT T).length<=30:=by have:=Wt T fun t ht=>(YE hT t ht).2;omega
  have lU:(apT U).length<=30:=by have:=Wt U fun t ht=>(YE hU t ht).2;omega
  have l1:=Jgy x (apT T)
  have l2:=Jgy x (apT U);obtain⟨a,b,d,ih⟩:=JcV T U hT nT hU nU x2 rest (.sh (.int x)) (.sh (.lst ((spX x (apT T)).map .int))) (.sh (.lst ((spX x (apT U)).map .int)));refine⟨a,b,d,?_⟩;rw[Qf,JD,List.all_cons];walk_at "ev";rw[JqF T x hT nT];walk_at "ev";rw[JqG U x hU nU];walk_at "ev"
  by_cases c1:(spX x (apT T)).length=(spX x (apT U)).length
  ·have c1':((spX x (apT T)).length:Int)=((spX x (apT U)).length:Int):=by omega
   have dl:(dfX (spX x (apT T)) (spX x (apT U))).length<=30:=by unfold dfX;rw[MK];omega
   rw[decide_eq_true c1'];walk_at "ev";rw[Jj1,Gu,Jk0 _ _ c1];walk_at "ev";rw[Ks];walk_at "ev"
   by_cases c2:(fM (dfX (spX x (apT T)) (spX x (apT U)))).length<=1
   ·rw[decide_eq_false (show ¬(1:Int)<((fM (dfX (spX x (apT T)) (spX x (apT U)))).length:Int) by omega)];walk_at "ev";rw[ih,show okX (apT T) (apT U) x=true by unfold okX;rw[decide_eq_true c1,(Jm5 _).mp c2];rfl,Xe]
   ·rw[decide_eq_true (show(1:Int)<((fM (dfX (spX x (apT T)) (spX x (apT U)))).length:Int) by omega)];walk_at "ev";rw[show okX (apT T) (apT U) x=false by
     unfold okX
     cases hs:smB (dfX (spX x (apT T)) (spX x (apT U))) with
     | true=>exact(c2 ((Jm5 _).mpr hs)).elim
     | false=>rw[MY],MT,if_neg Qx]
  ·have c1':¬((spX x (apT T)).length:Int)=((spX x (apT U)).length:Int):=by omega
   rw[decide_eq_false c1'];walk_at "ev";rw[show okX (apT T) (apT U) x=false by unfold okX;rw[decide_eq_false c1,MT],MT,if_neg Qx]
def Ze(T:List Tr):Ur (.nm 0) yes? (e2 fIx (Jb 0) (eC (.int 0))) [.no] (T.map trE)=some ((T.map (·.1)).map D.int):=by
 rw[QJ];refine JM fun t _=>?_
 have z:∀x y w:D,atI [x,y,w] 0=some x:=fun _ _ _=>rfl
 simp only[trE];walk_at "ev";rw[z];walk_at "ev";rfl
def Jkj(h:Yl none T)(hn:Jw T<=30)(hx:x∉szT T):spX x (apT T)=[]:=by
 obtain⟨_,s2,_⟩:=Jbo h hn;unfold spX;rw[LZ,Lp];intro q hq;obtain⟨t,ht,rfl⟩:=Zu hq;have:¬t.1=x:=fun e=>hx ((s2 x).mpr ⟨t,ht,e⟩)
 simp[this]
def Jqy(T U:List Tr)(hT:Yl none T)(nT:Jw T<=30)(lT:T.length<=30)(hU:Yl none U)(nU:Jw U<=30)(lU:U.length<=30):∃b:Bool,Yu [.sh (.lst (T.map trE)),.bo (U.map trE)]=some (.sh (.bl b))/\(b=true↔MvP (apT T) (apT U)):=by
 have eT:=Jki hT nT
 have eU:=Jki hU nU;obtain⟨t1,t2,t3⟩:=Jbo hT nT;obtain⟨u1,u2,u3⟩:=Jbo hU nU
 have iff:=Joy (Jm0 hT) (Jm0 hU)
 by_cases c:szT T=szT U
 ·obtain⟨a,b,d,lp⟩:=JcV T U hT nT hU nU (.sh (.lst ((szT T).map .int))) (szT T) .no .no .no;refine⟨(szT T).all fun x=>okX (apT T) (apT U) x,?_,?_⟩
  ·unfold Yu;walk_at "ev";rw[Ze];walk_at "ev";rw[Ze];walk_at "ev";rw[eT,eU,decide_eq_true c];walk_at "ev";rw[lp]
   cases hb:(szT T).all fun x=>okX (apT T) (apT U) x with
   | true=>rw[if_pos rfl];walk_at "ev"
   | false=>rw[if_neg Qx];walk_at "ev"
  ·rw[iff,Ka];constructor
   ·intro h x
    by_cases m:x∈szT T
    ·exact h x m
    ·unfold okX;rw[Jkj hT nT m,Jkj hU nU (c▸m)];rfl
   ·exact fun h x _=>h x
 ·refine⟨false,?_,?_⟩
  ·unfold Yu;walk_at "ev";rw[Ze];walk_at "ev";rw[Ze];walk_at "ev";rw[eT,eU,decide_eq_false c];walk_at "ev"
  ·constructor
   ·intro h;cases h
   ·rintro⟨f,e⟩;refine(c ?_).elim;unfold szT;rw[e,QJ];rfl
noncomputable def ldT(seats:Option Int):List Pr->Int
 | []=>0
 | p::_=>p.2 / JW seats p.1
noncomputable def ldA(seats:Option Int)(l:List Pr):Bool:=l.all fun p=>decide (p.2=ldT seats l*JW seats p.1)
noncomputable def ldD(seats:Option Int)(l:List Pr):D:=if ldA seats l then .int (ldT seats l) else .non
def Vm(ok:OkS seats)(h:1<=x):1<=JW seats x/\JW seats x<=x:=by
 cases seats with
 | none=>exact⟨h,GK _⟩
 | some s=>have:=ok s rfl;show 1<=min x s/\min x s<=x;omega
def Jqj(l:List Pr):Zy (l.map prE) none (some 1)=(l.take 1).map prE:=by
 unfold Zy;rw[HT.JdL,show(1:Int)=((1:Nat):Int) from rfl,HT.Jmp,List.drop_zero,Nat.sub_zero,Qm,List.map_take]
 by_cases h:l.length<=1
 ·rw[Nat.min_eq_right h,Mj (by simp),Mj (by simpa using h)]
 ·rw[Nat.min_eq_left (by omega)]
def JqC(ps qs l:List Pr)(seats:Option Int)(ok:OkS seats)(hl:l.length<=30)(hp:∀p∈l,1<=p.1/\p.1<=10 ^ 60/\-10 ^ 60<=p.2/\p.2<=10 ^ 60)(hm:Yg [.sh (.row (ps.map prE)),.sh (.row (qs.map prE))]=some (.own (l.map prE))) :
 JT [.sh (.row (ps.map prE)),.sh (.row (qs.map prE)),.sh (J7 seats)]=some (.sh (ldD seats l)):=by
 have big:(10:Nat) ^ 60<=10 ^ 200:=by decide +kernel
 obtain⟨r,hr⟩:=Jqz seats ok;unfold JT;walk_at "ev";rw[hr];walk_at "ev";rw[hm];walk_at "ev";rw[Jqj,Kh]
 have key:∃k5 k6,((JD (.tp (.cons (.nm 5) (.cons (.nm 6) .nil))) (Jm 4 (e2 WV (Jb 6) (eU 2 Yv (aC (Jb 5) (aC (Jb 2) a0))))) ((l.take 1).map prE) [.sh (.row (ps.map prE)),.sh (.row (qs.map prE)),.sh (J7 seats),.sh (.lst (l.map prE)),.sh (.int 0),.no,.no]))=some (.nx [.sh (.row (ps.map prE)),.sh (.row (qs.map prE)),.sh (J7 seats),.sh (.lst (l.map prE)),.sh (.int (ldT seats l)),k5,k6]):=by
  cases l with
  | nil=>exact⟨.no,.no,rfl⟩
  | cons p r =>
   refine⟨.sh (.int p.1),.sh (.int p.2),?_⟩;have hb:=hp p Qc;have sb:=Vm ok hb.1;have d1:0<JW seats p.1/\(JW seats p.1).natAbs<=10 ^ 200:=⟨by omega,by omega⟩
   rw[show(p::r).take 1=[p] from rfl,Qf,Ke,JD];simp only[prE];walk_at "ev";rw[Jne];walk_at "ev";rw[JD];rfl
 obtain⟨k5,k6,key⟩:=key;rw[key];walk_at "ev"
 have tb:∀p∈l,-10 ^ 60<=ldT seats l/\ldT seats l<=10 ^ 60:=fun p hpm=>by
  cases l with
  | nil=>cases hpm
  | cons p r =>
   have hb:=hp p Qc
   have sb:=Vm ok hb.1;exact Jet _ _ _ (by omega) hb.2.2
 rw[JM (g:=fun p:Pr=>D.bl (decide (p.2=ldT seats l*JW seats p.1)))]
 ·walk_at "ev";rw[Jla (ns:=l.map fun p=>decide (p.2=ldT seats l*JW seats p.1)) (by simp[Sl.q])];walk_at "ev";rw[List.all_map];show _=some (Sl.sh (if ldA seats l then _ else _));unfold ldA;rw[show(id ∘ fun p:Pr=>decide (p.2=ldT seats l*JW seats p.1))=fun p:Pr=>decide (p.2=ldT seats l*JW seats p.1) from rfl];cases (l.all fun p:Pr=>decide (p.2=ldT seats l*JW seats p.1)) <;> walk_at "ev"
 ·intro p hpm;have b1:=tb p hpm;have hb:=hp p hpm;have sb:=Vm ok hb.1;have d2:(ldT seats l).natAbs<=10 ^ 200/\(JW seats p.1).natAbs<=10 ^ 200:=⟨by omega,by omega⟩
  simp only[prE];walk_at "ev";rw[Jne];walk_at "ev"
def Jom(h:ldA seats l=true):∀p∈l,p.2=ldT seats l*JW seats p.1:=fun p hp=>of_decide_eq_true (Ka.mp h p hp)
def Jol(ok:OkS seats)(hp:∀p∈l,1<=p.1)(h:∀p∈l,p.2=z*JW seats p.1)(hl:l≠[]):ldD seats l=.int z:=by
 have e:ldT seats l=z:=by
  cases l with
  | nil=>exact(hl rfl).elim
  | cons q r =>
   have h1:=h q Qc
   have sb:=Vm ok (hp q Qc)
   show q.2 / JW seats q.1=z;rw[h1,Int.mul_ediv_cancel _ (by omega)]
 unfold ldD ldA;rw[e,if_pos];exact Ka.mpr fun p hpm=>decide_eq_true (h p hpm)
noncomputable abbrev mvT(f:Int->Int)(T:List Tr):List Tr:=T.map fun t=>(t.1,t.2.1+f t.1,t.2.2)
noncomputable abbrev alB:Es:=(Jh (Jm 6 (e2 fIx (e2 fIx (Jb 0) (Jb 5)) (eC (.int 0)))) (Jh (xIf (tB? (e2 YQ (Jb 2) (eC .non))) (Jm 6 (eF JaL (aC (Jb 6) (aC (Jb 2) a0)))) JB) (Jh (Jm 7 (e2 Yz (e2 fIx (e2 fIx (Jb 1) (Jb 5)) (eC (.int 1))) (e2 fIx (e2 fIx (Jb 0) (Jb 5)) (eC (.int 1))))) (Jh (xIf (tB? (e2 fNe (e2 YC (Jb 7) (Jb 6)) (eC (.int 0)))) (Yh (eC .non)) JB) (Jh (Jm 3 (e2 WV (Jb 7) (Jb 6))) (Jbs 4 (Jb 3) (eC (.bl true))))))))
def ix3(x y z:D):atI [x,y,z] 0=some x/\atI [x,y,z] 1=some y:=⟨rfl,rfl⟩
def Jfu(T:List Tr)(f:Int->Int){seats:Option Int}(ok:OkS seats)(hs:∀t∈T,1<=t.1/\t.1<=10 ^ 60){i:Nat}{t:Tr}(hi:T[i]?=some t)(z:Int)(ks:List Int)(ds:List D)(hk:ks.length<=1000)(j6 j7:Sl) :
 alB [.sh (.lst (T.map trE)),.bo ((mvT f T).map trE),.sh (J7 seats),.sh (.int z),.od ks ds,.sh (.int (i:Int)),j6,j7]=some (if f t.1 % JW seats t.1=0 then .nx [.sh (.lst (T.map trE)),.bo ((mvT f T).map trE),.sh (J7 seats),.sh (.int (f t.1 / JW seats t.1)),.od (Jv ks (f t.1 / JW seats t.1)) (putDs ks ds (f t.1 / JW seats t.1) (.bl true)),.sh (.int (i:Int)),.sh (.int (JW seats t.1)),.sh (.int (f t.1))] else .rt (.sh .non)):=by
 have big:(10:Nat) ^ 60<=10 ^ 200:=by decide +kernel
 have m:t∈T:=QI hi
 have sz:=hs t m
 have sb:=Vm ok sz.1
 have d1:0<JW seats t.1/\(JW seats t.1).natAbs<=10 ^ 200:=⟨by omega,by omega⟩
 have p1:0<JW seats t.1:=d1.1
 have g1:atI (T.map trE) (i:Int)=some (trE t):=by rw[Uq,JcR hi];rfl
 have g2:atI ((mvT f T).map trE) (i:Int)=some (trE (t.1,t.2.1+f t.1,t.2.2)):=by rw[QJ,Uq,JcR hi];rfl
 have st:∀(R:Es),Jh (xIf (tB? (e2 YQ (Jb 2) (eC .non))) (Jm 6 (eF JaL (aC (Jb 6) (aC (Jb 2) a0)))) JB) R [.sh (.lst (T.map trE)),.bo ((mvT f T).map trE),.sh (J7 seats),.sh (.int z),.od ks ds,.sh (.int (i:Int)),.sh (.int t.1),j7]=R [.sh (.lst (T.map trE)),.bo ((mvT f T).map trE),.sh (J7 seats),.sh (.int z),.od ks ds,.sh (.int (i:Int)),.sh (.int (JW seats t.1)),j7]:=by
  intro R
  cases seats with
  | none=>simp only[J7];walk_at "ev";rfl
  | some s=>simp only[J7];walk_at "ev";rfl
 have s0:∀(R:Es),Jh (Jm 6 (e2 fIx (e2 fIx (Jb 0) (Jb 5)) (eC (.int 0)))) R [.sh (.lst (T.map trE)),.bo ((mvT f T).map trE),.sh (J7 seats),.sh (.int z),.od ks ds,.sh (.int (i:Int)),j6,j7]=R [.sh (.lst (T.map trE)),.bo ((mvT f T).map trE),.sh (J7 seats),.sh (.int z),.od ks ds,.sh (.int (i:Int)),.sh (.int t.1),j7]:=by intro R;walk_at "ev";rw[g1];simp only[trE];walk_at "ev";rw[(ix3 _ _ _).1];walk_at "ev"
 unfold alB;rw[s0,st];walk_at "ev";rw[g2,g1];simp only[trE];walk_at "ev";rw[(ix3 _ _ _).2,(ix3 _ _ _).2];walk_at "ev";rw[show t.2.1+f t.1-t.2.1=f t.1 by omega]
 by_cases c:f t.1 % JW seats t.1=0
 ·rw[if_pos c,decide_eq_true c];walk_at "ev"
 ·rw[if_neg c,decide_eq_false c];walk_at "ev"
theorem Jft(T:List Tr)(f:Int->Int)(ok:OkS seats)(hs:∀t∈T,1<=t.1/\t.1<=10 ^ 60)(hl:T.length<=30):∀(rest pre:List Tr) (z:Int) (ks:List Int) (ds:List D) (j5 j6 j7:Sl),T=pre++rest->ks.length<=pre.length ->
 JD (.nm 5) alB ((LI pre.length rest.length).map fun i:Nat=>D.int (i:Int)) [.sh (.lst (T.map trE)),.bo ((mvT f T).map trE),.sh (J7 seats),.sh (.int z),.od ks ds,j5,j6,j7]=some (.rt (.sh .non)) ∨
 ∃(z':Int) (ks':List Int) (ds':List D) (k5 k6 k7:Sl),JD (.nm 5) alB ((LI pre.length rest.length).map fun i:Nat=>D.int (i:Int)) [.sh (.lst (T.map trE)),.bo ((mvT f T).map trE),.sh (J7 seats),.sh (.int z),.od ks ds,j5,j6,j7]=some (.nx [.sh (.lst (T.map trE)),.bo ((mvT f T).map trE),.sh (J7 seats),.sh (.int z'),.od ks' ds',k5,k6,k7])/\(∀k∈ks,k∈ks')/\(∀t∈rest,∃q∈ks',f t.1=q*JW seats t.1)/\(rest=[]->z'=z)/\(rest≠[]->z'∈ks')/\(ks.Nodup->ks'.Nodup)/\∀k∈ks',k∈ks\/∃t∈rest,k=f t.1 / JW seats t.1
 | [],pre,z,ks,ds,j5,j6,j7,_,_=>.inr ⟨z,ks,ds,j5,j6,j7,rfl,fun _ h=>h,fun t ht=>(by cases ht),fun _=>rfl,fun h=>(h rfl).elim,fun h=>h,fun k hk=>.inl hk⟩
 | t::rest,pre,z,ks,ds,j5,j6,j7,hT,hk=>by
  have hi:T[pre.length]?=some t:=by rw[hT];simp
  have tl:pre.length<=30:=by rw[hT,Qv] at hl;omega
  have st:=Jfu T f ok hs hi z ks ds (by omega) j6 j7
  have e0:∀X,JD (.nm 5) alB ((LI pre.length (t::rest).length).map fun i:Nat=>D.int (i:Int)) [.sh (.lst (T.map trE)),.bo ((mvT f T).map trE),.sh (J7 seats),.sh (.int z),.od ks ds,j5,j6,j7]=X↔((alB [.sh (.lst (T.map trE)),.bo ((mvT f T).map trE),.sh (J7 seats),.sh (.int z),.od ks ds,.sh (.int (pre.length:Int)),j6,j7]).bind fun o=>match o with
   | .nx E2=>JD (.nm 5) alB ((LI (pre.length+1) rest.length).map fun i:Nat=>D.int (i:Int)) E2
   | .ct E2=>JD (.nm 5) alB ((LI (pre.length+1) rest.length).map fun i:Nat=>D.int (i:Int)) E2
   | .bk E2=>some (.nx E2)
   | .rt r=>some (.rt r))=X:=by
   intro X;rw[Qr,Rs,Qf,JD,Jh6];simp only[Qr,GS,Ms,Xx,if_true,L5,L4,QK] <;> exact Iff.rfl
  by_cases c:f t.1 % JW seats t.1=0
  ·rw[if_pos c] at st;have sb:=Vm ok (hs t (QI hi)).1
   have qe:f t.1=f t.1 / JW seats t.1*JW seats t.1:=by have:=RV (f t.1) (JW seats t.1);rw[MQ];omega
   have km:∀k,(k∈ks\/k=f t.1 / JW seats t.1)->k∈Jv ks (f t.1 / JW seats t.1):=fun k h=>by
    unfold Jv;split
    ·rename_i hh;rcases h with z|z
     ·exact z
     ·rw[z];exact hasK_mem.mp hh
    ·rcases h with z|z
     ·exact Ko _ z
     ·rw[z];simp
   have kl:(Jv ks (f t.1 / JW seats t.1)).length<=ks.length+1:=by unfold Jv;split <;> simp
   rcases Jft T f ok hs hl rest (pre++[t]) (f t.1 / JW seats t.1) (Jv ks (f t.1 / JW seats t.1)) (putDs ks ds (f t.1 / JW seats t.1) (.bl true)) (.sh (.int (pre.length:Int))) (.sh (.int (JW seats t.1))) (.sh (.int (f t.1))) (by rw[hT];simp) (by rw[Qv,Q0];exact Gy kl (by omega)) with z1|⟨z',ks',ds',k5,k6,k7,e1,m1,m2,m3,m4,m5,m6⟩
   ·left
    rw[e0,st];rw[Qv,Q0] at z1;exact z1
   ·right
    refine⟨z',ks',ds',k5,k6,k7,?_,fun k hk'=>m1 k (km k (.inl hk')),fun u hu=>?_,fun h=>(by cases h),fun _=>?_,fun nd=>m5 (Vd _ nd),fun k hk'=>?_⟩
    ·rw[e0,st];rw[Qv,Q0] at e1;exact e1
    ·rcases Qk.mp hu with e|e
     ·subst e;exact⟨_,m1 _ (km _ (.inr rfl)),qe⟩
     ·exact m2 u e
    ·by_cases r0:rest=[]
     ·rw[m3 r0];exact m1 _ (km _ (.inr rfl))
     ·exact m4 r0
    ·rcases m6 k hk' with q|⟨u,hu,q⟩
     ·unfold Jv at q;split at q
      ·exact .inl q
      ·rcases Gd.mp q with q|q
       ·exact .inl q
       ·rw[QP] at q;exact .inr ⟨t,Qc,q⟩
     ·exact .inr ⟨u,Qd _ hu,q⟩
  ·rw[if_neg c] at st
   left
   rw[e0,st];rfl
def JlC(T:List Tr)(f:Int->Int)(ok:OkS seats)(hs:∀t∈T,1<=t.1/\t.1<=10 ^ 60)(hl:T.length<=30)(hT:T≠[]):∃d:D,JY [.sh (.lst (T.map trE)),.bo ((mvT f T).map trE),.sh (J7 seats)]=some (.sh d)/\((∃z,d=.int z/\∀t∈T,f t.1=z*JW seats t.1)\/(d=.non/\¬∃z:Int,∀t∈T,f t.1=z*JW seats t.1)):=by
 have st:=Jft T f ok hs hl T [] 0 [] [] .no .no .no rfl (Qp _);rw[GS,<- Mv] at st;rcases st with z1|⟨z',ks',ds',k5,k6,k7,e1,_,m2,_,m4,m5,m6⟩
 ·by_cases ex:∃z:Int,∀t∈T,f t.1=z*JW seats t.1
  ·obtain⟨z,hz⟩:=ex
   exfalso
   have key:∀(rest pre:List Tr) (y:Int) (ks:List Int) (ds:List D) (j5 j6 j7:Sl),T=pre++rest->ks.length<=pre.length->JD (.nm 5) alB ((LI pre.length rest.length).map fun i:Nat=>D.int (i:Int)) [.sh (.lst (T.map trE)),.bo ((mvT f T).map trE),.sh (J7 seats),.sh (.int y),.od ks ds,j5,j6,j7]≠some (.rt (.sh .non)):=by
    intro rest
    induction rest with
    | nil=>intro pre y ks ds j5 j6 j7 _ _ h;cases h
    | cons t rest ih =>
     intro pre y ks ds j5 j6 j7 hT' hk h;have hi:T[pre.length]?=some t:=by rw[hT'];simp
     have tl:pre.length<=30:=by rw[hT',Qv] at hl;omega
     have st:=Jfu T f ok hs hi y ks ds (by omega) j6 j7
     have m:=QI hi
     have sb:=Vm ok (hs t m).1
     have c:f t.1 % JW seats t.1=0:=by rw[hz t m,Int.mul_emod_left]
     rw[if_pos c] at st;rw[Qr,Rs,Qf,JD,Jh6] at h;simp only[Qr,GS,Ms,Xx,if_true,L5,L4,QK] at h;rw[st] at h;have kl:(Jv ks (f t.1 / JW seats t.1)).length<=ks.length+1:=by unfold Jv;split <;> simp
     have:=ih (pre++[t]) (f t.1 / JW seats t.1) (Jv ks (f t.1 / JW seats t.1)) (putDs ks ds (f t.1 / JW seats t.1) (.bl true)) (.sh (.int (pre.length:Int))) (.sh (.int (JW seats t.1))) (.sh (.int (f t.1))) (by rw[hT'];simp) (by rw[Qv,Q0];exact Gy kl (by omega));rw[Qv,Q0] at this;exact this h
   have:=key T [] 0 [] [] .no .no .no rfl (Qp _);rw[GS,<- Mv] at this;exact this z1
  ·refine⟨.non,?_,.inr ⟨rfl,ex⟩⟩;unfold JY;walk_at "ev";rw[Jj1,Gu,z1];walk_at "ev"
 ·have zm:=m4 hT
  by_cases c:ks'.length<=1
  ·have all:∀k∈ks',k=z':=fun k hk=>by
    cases ks' with
    | nil=>cases hk
    | cons a r =>
     have hr:r=[]:=QA (by rw[Qr] at c;omega);subst hr
     have h1:k=a:=by simpa using hk
     have h2:z'=a:=by simpa using zm
     omega
   refine⟨.int z',?_,.inl ⟨z',rfl,fun t ht=>?_⟩⟩
   ·unfold JY;walk_at "ev";rw[Jj1,Gu,e1];walk_at "ev";rw[decide_eq_false (show ¬(1:Int)<(ks'.length:Int) by omega)];walk_at "ev"
   ·obtain⟨q,hq,e⟩:=m2 t ht;rw[all q hq] at e;exact e
  ·refine⟨.non,?_,.inr ⟨rfl,?_⟩⟩
   ·unfold JY;walk_at "ev";rw[Jj1,Gu,e1];walk_at "ev";rw[decide_eq_true (show(1:Int)<(ks'.length:Int) by omega)];walk_at "ev"
   ·rintro⟨z,hz⟩
    have all:∀k∈ks',k=z:=fun k hk=>by
     rcases m6 k hk with q|⟨u,hu,q⟩
     ·cases q
     ·have sb:=Vm ok (hs u hu).1;rw[q,hz u hu,Int.mul_ediv_cancel _ (by omega)]
    have nd:=m5 Me
    cases ks' with
    | nil=>exact c (by simp)
    | cons a r =>
     cases r with
     | nil=>exact c (by simp)
     | cons b r =>
      have h1:=all a Qc
      have h2:=all b (Qd _ Qc);rw[QY] at nd;exact nd.1 (by rw[h1,<- h2];exact Qc)
noncomputable def stM(S:List (Int×Int)×List Int)(t:Tr):List (Int×Int)×List Int:=(YD S.1 (t.1,t.2.1),putDP S.1 S.2 (t.1,t.2.1) ((lookP S.1 S.2 (t.1,t.2.1)).getD 0+t.2.2))
noncomputable def maS(W:List Tr):List (Int×Int)×List Int:=W.foldl stM ([],[])
structure MaI (W:List Tr) (S:List (Int×Int)×List Int):Prop where
 l:S.1.length=S.2.length
 le:S.1.length<=W.length
 nd:S.1.Nodup
 sm:S.2.sum=Jw W
 ky:∀p∈S.1,∃t∈W,p=(t.1,t.2.1)
 vl:∀v∈S.2,0<=v
theorem Jnf:∀(W pre:List Tr) (S:List (Int×Int)×List Int),(∀t∈W,0<=t.2.2)->MaI pre S->MaI (pre++W) (W.foldl stM S)
 | [],pre,S,_,h=>by rw[Gi];exact h
 | t::W,pre,S,hW,h=>by
  have h0:=hW t Qc
  have ih:=Jnf W (pre++[t]) (stM S t) (fun u hu=>hW u (Qd _ hu)) ⟨VA _ _ _ _ h.l,by
   have:=Jam S.1 (t.1,t.2.1)
   have:=h.le;rw[Qv,Q0]
   show(YD S.1 _).length<=_;omega,JdH h.nd,by
   show(putDP S.1 S.2 _ _).sum=_;rw[Jgj _ h.nd h.l,h.sm,We];unfold Jw;simp,fun p hp=>by
   rcases WJ hp with z|z
   ·obtain⟨u,hu,e⟩:=h.ky p z;exact⟨u,Ko _ hu,e⟩
   ·exact⟨t,by simp,z⟩,fun v hv=>by
   rcases Jbk hv with z|z
   ·exact h.vl v z
   ·rw[z]
    cases e:lookP S.1 S.2 (t.1,t.2.1) with
    | none=>show 0<=0+t.2.2;omega
    | some x=>have:=h.vl x (UG e);show 0<=x+t.2.2;omega⟩
  rw[Q2] at ih;exact ih
def Jng(W:List Tr)(h:∀t∈W,0<=t.2.2):MaI W (maS W):=Jnf W [] ([],[]) h ⟨rfl,Qp _,Me,rfl,fun p hp=>(by cases hp),fun v hv=>(by cases hv)⟩
noncomputable def nuM(W:List Tr)(p:Int×Int):Int:=(lookP (maS W).1 (maS W).2 p).getD 0
noncomputable def maT(W:List Tr):List Tr:=((W8 (maS W).1).filter fun p=>decide (0<nuM W p)).map fun p=>(p.1,p.2,nuM W p)
theorem JgD{α:Type}(f:α->Int)(k:α->Bool):∀l:List α,(∀a∈l,0<=f a)->((l.filter k).map f).sum<=(l.map f).sum
 | [],_=>GK _
 | a::l,h=>by
  have ih:=JgD f k l fun b hb=>h b (Qd _ hb)
  have h0:=h a Qc;rw[Qf,QG]
  by_cases c:k a=true
  ·rw[Q7 c,Qf,QG];omega
  ·rw[G4 c];omega
def Jov(W:List Tr)(h:∀t∈W,0<=t.2.2)(hs:∀t∈W,1<=t.1):Yl none (maT W)/\Jw (maT W)<=Jw W/\(maT W).length<=W.length/\∀t∈maT W,∃u∈W,t.1=u.1/\t.2.1=u.2.1:=by
 have m:=Jng W h
 have nn:∀p∈(maS W).1,0<=nuM W p:=fun p hp=>m.vl _ (UG (Ul 0 _ _ p hp m.l))
 unfold maT;refine⟨Jbx _ _ _ ((Wq _ m.nd).filter _) (fun p hp=>?_) (fun b e=>nomatch e),?_,?_,fun t ht=>?_⟩
 ·obtain⟨a,b⟩:=Kt.mp hp;obtain⟨t,ht,e⟩:=m.ky p ((JE _).mem_iff.mp a);have:=of_decide_eq_true b;have:=hs t ht;rw[e] at *;exact⟨by dsimp only;omega,by omega⟩
 ·unfold Jw;rw[QJ];refine RL (JgD (nuM W) _ _ fun p hp=>nn p ((JE _).mem_iff.mp hp)) (Int.le_of_eq ?_);refine(JdE _ (JE _)).trans ?_;refine Eq.trans ?_ m.sm;exact congrArg List.sum (ZZ m.nd m.l)
 ·rw[Qm];refine Gy (LB _ _) ?_;rw[(JE _).length_eq];exact m.le
 ·obtain⟨p,hp,rfl⟩:=QC.mp ht;obtain⟨t,ht,e⟩:=m.ky p ((JE _).mem_iff.mp (Kt.mp hp).1);exact⟨t,ht,by rw[e],by rw[e]⟩
def Jkh(W:List Tr)(h:∀t∈W,0<=t.2.2)(hl:W.length<=20)(u0 u1 u2 u4 u5 u6:Sl):(Jh (Y0 7 ZC) (Jh (JmR 3 (UD (iV 3) (.tp (.cons (.nm 4) (.cons (.nm 5) (.cons (.nm 6) .nil)))) (JaF 7 (aC (Jb 4) (aC (Jb 5) a0)) (e2 JR (Wx (Jb 7) (aC (Jb 4) (aC (Jb 5) a0)) (eC (.int 0))) (Jb 6))))) (Yh (Yi (iE true (ZE (Jb 7))) (.tp (.cons (.nm 0) (.cons (.nm 1) .nil))) (tB? (e2 fGt (Jex (Jb 2) (J9 (aC (Jb 0) (aC (Jb 1) a0)))) (eC (.int 0)))) (J9 (aC (Jb 0) (aC (Jb 1) (aC (Jex (Jb 2) (J9 (aC (Jb 0) (aC (Jb 1) a0)))) a0)))) [none,none,some 7])))) [u0,u1,u2,.own (W.map trE),u4,u5,u6,.no]=some (.rt (.own ((maT W).map trE))):=by
 have gd:∀(ks:List (Int×Int)) (vs:List Int) n,(lookP ks (vs.map D.int) n).getD (.int 0)=.int ((lookP ks vs n).getD 0):=fun ks vs n=>by rw[UF];cases lookP ks vs n <;> rfl
 obtain⟨E',hR,he⟩:=Jcc (p:=.tp (.cons (.nm 4) (.cons (.nm 5) (.cons (.nm 6) .nil)))) (b:=(JaF 7 (aC (Jb 4) (aC (Jb 5) a0)) (e2 JR (Wx (Jb 7) (aC (Jb 4) (aC (Jb 5) a0)) (eC (.int 0))) (Jb 6)))) (f:=trE) (as:=W) (E:=[u0,u1,u2,.sh (.lst (W.map trE)),u4,u5,u6,.ot [] []]) (fun(rest:List Tr) (S:List (Int×Int)×List Int) E=>∃j4 j5 j6,E=[u0,u1,u2,.sh (.lst (W.map trE)),j4,j5,j6,.ot S.1 (S.2.map .int)]/\S.1.length=S.2.length/\S.1.length+rest.length<=20) stM ([],[]) ⟨u4,u5,u6,rfl,rfl,by simpa using hl⟩ (by rintro t rest S E ⟨j4,j5,j6,rfl,h1,h2⟩;rw[Qr] at h2;have:=Jam S.1 (t.1,t.2.1);simp only[trE];walk_at "ev";rw[gd];walk_at "ev";rw[Jbj];exact⟨_,_,_,rfl,VA _ _ _ _ h1,by show(YD S.1 _).length+_<=_;omega⟩)
 obtain⟨j4,j5,j6,rfl,h1,h2⟩:=hR;have m:=Jng W h;have sz:(W8 (maS W).1).length<=20:=by rw[(JE _).length_eq];exact Gy m.le hl
 have ee:W.foldl stM ([],[])=maS W:=rfl;rw[ee] at he h1 h2;walk_at "ev";rw[he];walk_at "ev";rw[Zd (f:=prE) (k:=fun p=>decide (0<nuM W p)) (g:=fun p=>trE (p.1,p.2,nuM W p))]
 ·walk_at "ev";unfold maT;rw[QJ];rfl
 ·intro p hp;have hk:=(JE _).mem_iff.mp hp
  have lk:lookP (maS W).1 ((maS W).2.map D.int) p=some (.int (nuM W p)):=by rw[UF,Ul 0 _ _ p hk m.l];rfl
  refine⟨?_,fun _=>?_⟩
  ·unfold prE;walk_at "ev";rw[lk];walk_at "ev"
  ·unfold prE;walk_at "ev";rw[lk];walk_at "ev";rfl
structure OkU (T:List Tr):Prop where
 asc:Yl none T
 n30:Jw T<=30
 l30:T.length<=30
 sz:∀t∈T,1<=t.1/\t.1<=10 ^ 30
 sp:∀t∈T,-10 ^ 31<=t.2.1/\t.2.1<=10 ^ 31
structure OkW (W:List Tr):Prop where
 num:∀t∈W,0<=t.2.2
 len:W.length<=20
 sm:Jw W<=30
 sz:∀t∈W,1<=t.1/\t.1<=10 ^ 30
 sp:∀t∈W,-10 ^ 31<=t.2.1/\t.2.1<=10 ^ 31
def JoI(w:OkW W):OkU (maT W):=by
 obtain⟨a,b,c,d⟩:=Jov W w.num fun t ht=>(w.sz t ht).1
 have:=w.len
 have:=w.sm;exact⟨a,by omega,by omega,fun t ht=>by obtain⟨u,hu,e,_⟩:=d t ht;rw[e];exact w.sz u hu,fun t ht=>by obtain⟨u,hu,_,e⟩:=d t ht;rw[e];exact w.sp u hu⟩
theorem JiL{α β:Type}(f:α->β):∀(l:List α) (k:Nat),(l.map f).eraseIdx k=(l.eraseIdx k).map f
 | [],_=>rfl
 | _::_,0=>rfl
 | a::l,k+1=>by show f a::(l.map f).eraseIdx k=f a::(l.eraseIdx k).map f;rw[JiL f l k]
theorem Jbg:∀(U:List Tr) (k:Nat) (t:Tr),U[k]?=some t->Jw (U.eraseIdx k)+t.2.2=Jw U
 | [],k,t,h=>by simp at h
 | u::U,0,t,h=>by
  have e:u=t:=by simpa using h
  subst e;show Jw U+_=_;unfold Jw;rw[Qf,QG];omega
 | u::U,k+1,t,h=>by
  have ih:=Jbg U k t (by simpa using h)
  show Jw (u::U.eraseIdx k)+_=_;unfold Jw at ih ⊢;rw[Qf,QG,Qf,QG];omega
def Wf(h:OkW E)(hl:E.length+X.length<=20)(hn:∀t∈X,0<=t.2.2)(hm:Jw E+Jw X<=30)(hs:∀t∈X,(1<=t.1/\t.1<=10 ^ 30)/\-10 ^ 31<=t.2.1/\t.2.1<=10 ^ 31):OkW (E++X):=by
 refine⟨fun t ht=>?_,by rw[Qv];exact hl,by rw[We];exact hm,fun t ht=>?_,fun t ht=>?_⟩
 ·rcases Gd.mp ht with z|z
  ·exact h.num t z
  ·exact hn t z
 ·rcases Gd.mp ht with z|z
  ·exact h.sz t z
  ·exact(hs t z).1
 ·rcases Gd.mp ht with z|z
  ·exact h.sp t z
  ·exact(hs t z).2
def Ya(j w:Int)(h:¬w=j)(S T:Es)(u0 u2 u3 u4 u5 u6 u7:Sl):Jh (xIf (tB? (e2 fEq (Jb 1) (eC (.int j)))) S JB) T [u0,.sh (.int w),u2,u3,u4,u5,u6,u7]=T [u0,.sh (.int w),u2,u3,u4,u5,u6,u7]:=by walk_at "ev";rw[decide_eq_false h];walk_at "ev"
def Jay(j:Int)(S T:Es)(u0 u2 u3 u4 u5 u6 u7:Sl):Jh (xIf (tB? (e2 fEq (Jb 1) (eC (.int j)))) S JB) T [u0,.sh (.int j),u2,u3,u4,u5,u6,u7]=Jh S T [u0,.sh (.int j),u2,u3,u4,u5,u6,u7]:=by walk_at "ev"
def Jax(U:List Tr)(w:Int)(k:Nat)(hk:k<U.length)(cg:(0:Int)<=(k:Int)/\(k:Int)<((U.map trE).length:Int)/\(U.map trE).length<=1000)(em:(U.map trE).eraseIdx k=(U.eraseIdx k).map trE)(ga:atI (U.map trE) (k:Int)=some (trE U[k]))(T:Es):(Jh (Y0 3 (eF Ja6 (aC (Jb 0) a0))) (Jh (JkF (.tp (.cons (.nm 4) (.cons (.nm 5) (.cons (.nm 6) .nil)))) (e2 fIx (Jb 3) (Jb 2))) (Jh (Jbt 3 (Jb 2)) T))) [.bo (U.map trE),.sh (.int w),.sh (.int (k:Int)),.no,.no,.no,.no,.no]=T [.bo (U.map trE),.sh (.int w),.sh (.int (k:Int)),.own ((U.eraseIdx k).map trE),.sh (.int U[k].1),.sh (.int U[k].2.1),.sh (.int U[k].2.2),.no]:=by
 walk_at "ev";rw[ga];simp only[trE];walk_at "ev";rw[Qm] at cg
 try rw[if_pos cg]
 try walk_at "ev"
 try rw[Gu]
 try rw[em]
 try walk_at "ev"
 try rw[if_pos cg]
 try walk_at "ev"
def WS(d:D)(hA:A.length<=1000)(T:Es)(h:(t [u0,u1,u2,.own A,u4,u5,u6,u7])=some (.sh d)):Jh (YZ 3 t) T [u0,u1,u2,.own A,u4,u5,u6,u7]=T [u0,u1,u2,.own (A++[d]),u4,u5,u6,u7]:=by unfold Jh YZ;simp only[Ry,Rz,h,QK,Sl.frz,L5,L4];rw[if_pos (by rw[Jgw];omega)];rfl
def JpI(a b T:Es)(E:En):Jh (Jh a b) T E=Jh a (Jh b T) E:=by
 unfold Jh;rw[Kh];congr 1
 funext o
 cases o <;> rfl
def JqH(U:List Tr)(w:Int)(hw:0<=w/\w<=6)(k:Nat)(hk:k<U.length)(hU:Yl none U)(hl:U.length<=14)(hn:Jw U<=26)(hs:∀t∈U,(1<=t.1/\t.1<=10 ^ 29)/\-10 ^ 30<=t.2.1/\t.2.1<=10 ^ 30):∃V:List Tr,OkU V/\J4 [.bo (U.map trE),.sh (.int w),.sh (.int (k:Int))]=some (.own (V.map trE)):=by
 have hg:U[k]?=some U[k]:=Qy hk
 have ga:atI (U.map trE) (k:Int)=some (trE U[k]):=by rw[Uq,U3 hk];rfl
 have ne:=Jbg U k U[k] hg
 have tm:=LM hk
 have tn:=(YE hU _ tm).2
 have ts:=hs _ tm
 have le:(U.eraseIdx k).length=U.length-1:=LJ hk
 have sub:∀t∈U.eraseIdx k,t∈U:=fun t ht=>List.mem_of_mem_eraseIdx ht
 have oE:OkW (U.eraseIdx k):=⟨fun t ht=>by have:=(YE hU t (sub t ht)).2;omega,by omega,by omega,fun t ht=>by have:=hs t (sub t ht);omega,fun t ht=>by have:=hs t (sub t ht);omega⟩
 have em:(U.map trE).eraseIdx k=(U.eraseIdx k).map trE:=JiL trE U k
 have cg:(0:Int)<=(k:Int)/\(k:Int)<((U.map trE).length:Int)/\(U.map trE).length<=1000:=by rw[Qm];omega
 have fin:∀(X:List Tr),OkW (U.eraseIdx k++X)->(∀T:Es,(Jh (Y0 3 (eF Ja6 (aC (Jb 0) a0))) (Jh (JkF (.tp (.cons (.nm 4) (.cons (.nm 5) (.cons (.nm 6) .nil)))) (e2 fIx (Jb 3) (Jb 2))) (Jh (Jbt 3 (Jb 2)) (Jh (xIf (tB? (e2 fEq (Jb 1) (eC (.int 1)))) (YZ 3 (J9 (aC (e2 JR (Jb 4) (eC (.int 1))) (aC (Jb 5) (aC (Jb 6) a0))))) JB) (Jh (xIf (tB? (e2 fEq (Jb 1) (eC (.int 2)))) (YZ 3 (J9 (aC (eF Jhg (aC (eC (.int 1)) (aC (e2 Yz (Jb 4) (eC (.int 1))) a0))) (aC (Jb 5) (aC (Jb 6) a0))))) JB) (Jh (xIf (tB? (e2 fEq (Jb 1) (eC (.int 3)))) (YZ 3 (J9 (aC (Jb 4) (aC (e2 JR (Jb 5) (eC (.int 1))) (aC (Jb 6) a0))))) JB) (Jh (xIf (tB? (e2 fEq (Jb 1) (eC (.int 4)))) (YZ 3 (J9 (aC (Jb 4) (aC (Jb 5) (aC (e2 JR (Jb 6) (eC (.int 1))) a0))))) JB) (Jh (xIf (tB? (e2 fEq (Jb 1) (eC (.int 6)))) (Jh (YZ 3 (J9 (aC (Jb 4) (aC (e2 JR (Jb 5) (eC (.int 1))) (aC (eC (.int 1)) a0))))) (YZ 3 (J9 (aC (Jb 4) (aC (Jb 5) (aC (e2 Yz (Jb 6) (eC (.int 1))) a0)))))) JB) T)))))))) [.bo (U.map trE),.sh (.int w),.sh (.int (k:Int)),.no,.no,.no,.no,.no]=T [.bo (U.map trE),.sh (.int w),.sh (.int (k:Int)),.own ((U.eraseIdx k++X).map trE),.sh (.int U[k].1),.sh (.int U[k].2.1),.sh (.int U[k].2.2),.no])->∃V:List Tr,OkU V/\J4 [.bo (U.map trE),.sh (.int w),.sh (.int (k:Int))]=some (.own (V.map trE)):=fun X oW hh=>by refine⟨maT (U.eraseIdx k++X),JoI oW,?_⟩;unfold J4;simp only[Yr,Qr,GS,Ms,Xd,Mx,GF,Gk];rw[hh,Jkh _ oW.num oW.len];rfl
 have one:∀(a b c:Int),Jw [((a,b,c):Tr)]=c:=fun a b c=>by unfold Jw;simp
 have mem1:∀{P:Tr->Prop} {x:Tr},P x->∀t∈[x],P t:=fun h t ht=>by rw[QP] at ht;rw[ht];exact h
 have w7:w=0\/w=1\/w=2\/w=3\/w=4\/w=5\/w=6:=by omega
 rcases w7 with rfl|rfl|rfl|rfl|rfl|rfl|rfl
 ·refine fin [] ?_ fun T=>?_
  ·rw[Gi];exact oE
  ·rw[Jax U 0 k hk cg em ga];rw[Ya 1 0 (by decide)];rw[Ya 2 0 (by decide)];rw[Ya 3 0 (by decide)];rw[Ya 4 0 (by decide)];rw[Ya 6 0 (by decide)];simp only[QF,Q2,GF,Gk,Qf,Ke,Gi,trE]
 ·refine fin [(U[k].1+1,U[k].2.1,U[k].2.2)] ?_ fun T=>?_
  ·refine Wf oE (by rw[le];simp;omega) (mem1 (by dsimp only;omega)) (by rw[one];omega) (mem1 (by dsimp only;omega))
  ·rw[Jax U 1 k hk cg em ga];rw[Jay 1,WS (.tup [.int (U[k].1+1),.int U[k].2.1,.int U[k].2.2]) (by rw[Qm,le];omega) _ rfl];rw[Ya 2 1 (by decide)];rw[Ya 3 1 (by decide)];rw[Ya 4 1 (by decide)];rw[Ya 6 1 (by decide)];simp only[QF,Q2,GF,Gk,Qf,Ke,Gi,trE]
 ·refine fin [(max 1 (U[k].1-1),U[k].2.1,U[k].2.2)] ?_ fun T=>?_
  ·refine Wf oE (by rw[le];simp;omega) (mem1 (by dsimp only;omega)) (by rw[one];omega) (mem1 (by dsimp only;omega))
  ·rw[Jax U 2 k hk cg em ga];rw[Ya 1 2 (by decide)];rw[Jay 2,WS (.tup [.int (max 1 (U[k].1-1)),.int U[k].2.1,.int U[k].2.2]) (by rw[Qm,le];omega) _ rfl];rw[Ya 3 2 (by decide)];rw[Ya 4 2 (by decide)];rw[Ya 6 2 (by decide)];simp only[QF,Q2,GF,Gk,Qf,Ke,Gi,trE]
 ·refine fin [(U[k].1,U[k].2.1+1,U[k].2.2)] ?_ fun T=>?_
  ·refine Wf oE (by rw[le];simp;omega) (mem1 (by dsimp only;omega)) (by rw[one];omega) (mem1 (by dsimp only;omega))
  ·rw[Jax U 3 k hk cg em ga];rw[Ya 1 3 (by decide)];rw[Ya 2 3 (by decide)];rw[Jay 3,WS (.tup [.int U[k].1,.int (U[k].2.1+1),.int U[k].2.2]) (by rw[Qm,le];omega) _ rfl];rw[Ya 4 3 (by decide)];rw[Ya 6 3 (by decide)];simp only[QF,Q2,GF,Gk,Qf,Ke,Gi,trE]
 ·refine fin [(U[k].1,U[k].2.1,U[k].2.2+1)] ?_ fun T=>?_
  ·refine Wf oE (by rw[le];simp;omega) (mem1 (by dsimp only;omega)) (by rw[one];omega) (mem1 (by dsimp only;omega))
  ·rw[Jax U 4 k hk cg em ga];rw[Ya 1 4 (by decide)];rw[Ya 2 4 (by decide)];rw[Ya 3 4 (by decide)];rw[Jay 4,WS (.tup [.int U[k].1,.int U[k].2.1,.int (U[k].2.2+1)]) (by rw[Qm,le];omega) _ rfl];rw[Ya 6 4 (by decide)];simp only[QF,Q2,GF,Gk,Qf,Ke,Gi,trE]
 ·refine fin [] ?_ fun T=>?_
  ·rw[Gi];exact oE
  ·rw[Jax U 5 k hk cg em ga];rw[Ya 1 5 (by decide)];rw[Ya 2 5 (by decide)];rw[Ya 3 5 (by decide)];rw[Ya 4 5 (by decide)];rw[Ya 6 5 (by decide)];simp only[QF,Q2,GF,Gk,Qf,Ke,Gi,trE]
 ·refine fin [(U[k].1,U[k].2.1+1,1),(U[k].1,U[k].2.1,U[k].2.2-1)] ?_ fun T=>?_
  ·refine Wf oE (by rw[le];simp;omega) (fun t ht=>?_) (by unfold Jw at ne hn ⊢;simp;omega) (fun t ht=>?_)
   ·simp only[Qk,QR,or_false] at ht;rcases ht with rfl|rfl <;> dsimp only <;> omega
   ·simp only[Qk,QR,or_false] at ht;rcases ht with rfl|rfl <;> dsimp only <;> omega
  ·rw[Jax U 6 k hk cg em ga];rw[Ya 1 6 (by decide)];rw[Ya 2 6 (by decide)];rw[Ya 3 6 (by decide)];rw[Ya 4 6 (by decide)];rw[Jay 6,JpI,WS (.tup [.int U[k].1,.int (U[k].2.1+1),.int 1]) (by rw[Qm,le];omega) _ rfl,WS (.tup [.int U[k].1,.int U[k].2.1,.int (U[k].2.2-1)]) (by rw[Qv,Qm,le];simp;omega) _ rfl];simp only[QF,Q2,GF,Gk,Qf,Ke,Gi,trE]
theorem Jf2(ns:List Int)(span:Int):∀i,∀p∈(laS ns span i).1,∃j,p=laP ns span j
 | 0,p,hp=>by cases hp
 | i+1,p,hp=>by
  rcases WJ (show p∈YD (laS ns span i).1 (laP ns span i) from hp) with z|z
  ·exact Jf2 ns span i p z
  ·exact⟨i,z⟩
def Jok(ns:List Int)(hs:0<span)(n:Nat):∀t∈laT ns span n,-(2*span)<=t.2.1/\t.2.1<=2*span:=fun t ht=>by unfold laT at ht;obtain⟨p,hp,rfl⟩:=QC.mp ht;obtain⟨j,e⟩:=Jf2 ns span n p ((JE _).mem_iff.mp hp);have b:=Ly (cell ns (3+2*(j:Int))) (show 4*span+1≠0 by omega);have c:=L6 (cell ns (3+2*(j:Int))) (show 0<4*span+1 by omega);rw[e];unfold laP;dsimp only;omega
def Jnt(o:OkU T):Good (rwT T)/\(rwT T).length<=30/\JK [.sh (.row ((rwT T).map prE))]=some (.own ((apT T).map prE))/\(apT T).length<=30:=by
 obtain⟨z0,g0,h0,k0⟩:=Jgr o.asc o.n30;have tN:=UZ _ g0 h0;have ma:=Jcd (rwT T) _ g0 k0 tN;rw[z0] at ma;have al:=Wt T fun t ht=>(YE o.asc t ht).2
 have:=o.n30;exact⟨g0,k0,ma,by omega⟩
def JqD(o:OkU T)(p:OkU U)(h:¬MvP (apT T) (apT U))(ok:OkS seats):JT [.sh (.row ((rwT T).map prE)),.sh (.row ((rwT U).map prE)),.sh (J7 seats)]=some (.sh .non)/\J8 [.sh (.row ((rwT T).map prE)),.sh (.row ((rwT U).map prE))]=some (.sh .non):=by obtain⟨_,_,a1,a2⟩:=Jnt o;obtain⟨_,_,b1,b2⟩:=Jnt p;have nm:=Jjq _ _ _ _ a1 b1 a2 b2 h;exact⟨JoC _ _ seats ok nm,JlM _ _ nm⟩
def Jr0(o:OkU T):JU [.sh (.lst (T.map trE))]=some (.sh (.row ((rwT T).map prE))):=JlF T o.asc o.n30 o.l30 (Uc o.asc o.n30).1
def Jrf(o:OkU T):JU [.bo (T.map trE)]=some (.sh (.row ((rwT T).map prE))):=Jjk T o.asc o.n30 o.l30 (Uc o.asc o.n30).1
def JqI(o:OkU T)(p:OkU U)(h:MvP (apT T) (apT U))(hT:T≠[])(ok:OkS seats):∃d:D,JT [.sh (.row ((rwT T).map prE)),.sh (.row ((rwT U).map prE)),.sh (J7 seats)]=some (.sh d)/\JY [.sh (.lst (T.map trE)),.bo (U.map trE),.sh (J7 seats)]=some (.sh d)/\((∃z,d=.int z)\/d=.non)/\(∃W:List Dd,W.length<=60/\J8 [.sh (.row ((rwT T).map prE)),.sh (.row ((rwT U).map prE))]=some (.own (W.map dE)))/\∃W:List Dd,W.length<=60/\J8 [.sh (.row ((rwT U).map prE)),.sh (.row ((rwT T).map prE))]=some (.own (W.map dE)):=by
 obtain⟨f,e⟩:=h;have eU:U=mvT f T:=Jia p.asc (Jby f T none o.asc) (by rw[e,Jic]);subst eU
 have fb:∀t∈T,-10 ^ 32<=f t.1/\f t.1<=10 ^ 32:=fun t ht=>by
  have a:=o.sp t ht
  have b:=p.sp (t.1,t.2.1+f t.1,t.2.2) (QC.mpr ⟨t,ht,rfl⟩);simp only at b;omega
 have t1:=JrA o.asc o.n30 f;obtain⟨z0,g0,h0,k0⟩:=Jgr o.asc o.n30;obtain⟨s1,s2,s3⟩:=Jbo o.asc o.n30
 have mv:=Jga (rwT T) (rwT (mvT f T)) _ f g0 k0 h0 t1;rw[z0,show(dkL ((apT T).map (·.1))).map (fun k=>prE (k,f k))=((szT T).map fun k=>((k,f k):Pr)).map prE by rw[QJ];rfl] at mv
 have hp:∀q∈(szT T).map fun k=>((k,f k):Pr),1<=q.1/\q.1<=10 ^ 60/\-10 ^ 60<=q.2/\q.2<=10 ^ 60:=fun q hq=>by obtain⟨k,hk,rfl⟩:=QC.mp hq;obtain⟨t,ht,rfl⟩:=(s2 k).mp hk;have:=fb t ht;have:=o.sz t ht;dsimp only;omega
 have ml:=JqC _ _ _ seats ok (by rw[Qm];exact s3) hp mv;obtain⟨d,al,hd⟩:=JlC T f ok (fun t ht=>by have:=o.sz t ht;omega) o.l30 hT
 have sz:((szT T).map fun k=>((k,f k):Pr))≠[]:=fun q=>by
  rw[LZ] at q
  cases T with
  | nil=>exact hT rfl
  | cons t r=>have:=(s2 t.1).mpr ⟨t,Qc,rfl⟩;rw[q] at this;cases this
 have ed:ldD seats ((szT T).map fun k=>((k,f k):Pr))=d:=by
  rcases hd with ⟨z,rfl,hz⟩|⟨rfl,hz⟩
  ·refine Jol ok (fun q hq=>(hp q hq).1) (fun q hq=>?_) sz;obtain⟨k,hk,rfl⟩:=QC.mp hq;obtain⟨t,ht,rfl⟩:=(s2 k).mp hk;exact hz t ht
  ·unfold ldD
   cases hA:ldA seats ((szT T).map fun k=>((k,f k):Pr)) with
   | false=>rfl
   | true=>exact(hz ⟨_,fun t ht=>Jom hA (t.1,f t.1) (QC.mpr ⟨t.1,(s2 _).mpr ⟨t,ht,rfl⟩,rfl⟩)⟩).elim
 have hB:∀t∈tbN (JbB T).toNat 0 (rwT T),t.1<=10 ^ 40/\-10 ^ 60<=f t.1/\f t.1<=10 ^ 60:=fun t ht=>by rw[z0] at ht;have:=fb t ht;have:=o.sz t ht;omega
 obtain⟨W1,w1,l1,_⟩:=Jd7 g0 k0 h0 t1 hB;have t2:=t1.neg g0
 obtain⟨W2,w2,l2,_⟩:=Jd7 t1.g (by rw[t1.l];exact k0) (by rw[t1.s];exact h0) t2 fun t ht=>by rw[t1.e] at ht;obtain⟨u,hu,rfl⟩:=QC.mp ht;have:=hB u hu;dsimp only;omega
 refine⟨d,by rw[ml,ed],al,?_,⟨W1,l1,w1⟩,⟨W2,l2,w2⟩⟩;rcases hd with ⟨z,h,_⟩|⟨h,_⟩
 ·exact .inl ⟨z,h⟩
 ·exact .inr h
def JpT(o:OkU T)(p:OkU U)(hT:T≠[])(c0 span:Int)(hs:0<span)(u0 u5 u6 u7 u8:Sl):(Jh (Jm 9 (eU 2 Yu (aC (Jb 3) (aC (Jb 4) a0)))) (Jh (Jm 10 (eU 1 JU (aC (Jb 3) a0))) (Jh (Jm 11 (eU 1 JU (aC (Jb 4) a0))) (Jh (Jm 12 (e2 fIx (Y1 (aC (eC .non) (aC (eC (.int 1)) (aC (eC (.int 2)) (aC (e2 JR (eC (.int 1)) (e2 YC (e2 Uu (Jb 1) (eC (.int 7))) (Jb 2))) a0))))) (e2 YC (e2 Uu (Jb 1) (eC (.int 540))) (eC (.int 4))))) (Jh (xIf (tTru? (Jb 9)) (Jh (xIf (tB? (e2 fNe (eU 3 JT (aC (Jb 10) (aC (Jb 11) (aC (Jb 12) a0)))) (eU 3 JY (aC (Jb 3) (aC (Jb 4) (aC (Jb 12) a0)))))) (Yh (eC (.bl false))) JB) (Yh (Jhd (Jhe "list" (eU 2 J8 (aC (Jb 10) (aC (Jb 11) a0)))) (Jhe "list" (eU 2 J8 (aC (Jb 11) (aC (Jb 10) a0))))))) JB) (Jh (xIf (tOr? (tB? (e2 YQ (eU 3 JT (aC (Jb 10) (aC (Jb 11) (aC (Jb 12) a0)))) (eC .non))) (tB? (e2 YQ (eU 3 JT (aC (Jb 11) (aC (Jb 10) (aC (Jb 12) a0)))) (eC .non)))) (Yh (eC (.bl false))) JB) (Yh (Jhd (e2 fIs (eU 2 J8 (aC (Jb 10) (aC (Jb 11) a0))) (eC .non)) (e2 fIs (eU 2 J8 (aC (Jb 11) (aC (Jb 10) a0))) (eC .non)))))))))) [u0,.sh (.int c0),.sh (.int span),.sh (.lst (T.map trE)),.own (U.map trE),u5,u6,u7,u8,.no,.no,.no,.no]=some (.rt (.sh (.bl true))):=by
 obtain⟨b,cn,iff⟩:=Jqy T U o.asc o.n30 o.l30 p.asc p.n30 p.l30;have ra:=Jr0 o;have rb:=Jrf p
 obtain⟨seats,ok,a4⟩:∃s,OkS s/\atI [D.non,.int 1,.int 2,.int (1+c0 / 7 % span)] (c0 / 540 % 4)=some (J7 s):=by
  have m0:=Ly (c0 / 7) (b:=span) (by omega)
  have h4:c0 / 540 % 4=0\/c0 / 540 % 4=1\/c0 / 540 % 4=2\/c0 / 540 % 4=3:=by omega
  rcases h4 with h|h|h|h <;> rw[h]
  ·exact⟨none,fun s e=>(by cases e),rfl⟩
  ·exact⟨some 1,fun s e=>by cases e;omega,rfl⟩
  ·exact⟨some 2,fun s e=>by cases e;omega,rfl⟩
  ·exact⟨some (1+c0 / 7 % span),fun s e=>by cases e;omega,rfl⟩
 have hh:∀T':Es,(Jh (Jm 9 (eU 2 Yu (aC (Jb 3) (aC (Jb 4) a0)))) (Jh (Jm 10 (eU 1 JU (aC (Jb 3) a0))) (Jh (Jm 11 (eU 1 JU (aC (Jb 4) a0))) (Jh (Jm 12 (e2 fIx (Y1 (aC (eC .non) (aC (eC (.int 1)) (aC (eC (.int 2)) (aC (e2 JR (eC (.int 1)) (e2 YC (e2 Uu (Jb 1) (eC (.int 7))) (Jb 2))) a0))))) (e2 YC (e2 Uu (Jb 1) (eC (.int 540))) (eC (.int 4))))) T')))) [u0,.sh (.int c0),.sh (.int span),.sh (.lst (T.map trE)),.own (U.map trE),u5,u6,u7,u8,.no,.no,.no,.no]=T' [u0,.sh (.int c0),.sh (.int span),.sh (.lst (T.map trE)),.own (U.map trE),u5,u6,u7,u8,.sh (.bl b),.sh (.row ((rwT T).map prE)),.sh (.row ((rwT U).map prE)),.sh (J7 seats)]:=fun T'=>by walk_at "ev";rw[cn];walk_at "ev";rw[ra];walk_at "ev";rw[rb];walk_at "ev";rw[a4];walk_at "ev"
 rw[hh]
 clear hh
 cases b with
 | true =>
  obtain⟨d,y1,y2,y3,⟨W1,l1,w1⟩,W2,l2,w2⟩:=JqI o p (iff.mp rfl) hT ok
  have de:eqA d d=some true:=by
   rcases y3 with ⟨z,rfl⟩|rfl
   ·rw[JiI,decide_eq_true rfl]
   ·rfl
  walk_at "ev";rw[y1];walk_at "ev";rw[y2];walk_at "ev";rw[de];walk_at "ev";rw[w1];walk_at "ev";rw[w2];walk_at "ev"
 | false =>
  have n1:¬MvP (apT T) (apT U):=fun h=>by cases iff.mpr h
  have n2:¬MvP (apT U) (apT T):=fun h=>n1 (Joz h)
  obtain⟨x1,x2⟩:=JqD o p n1 ok;obtain⟨x3,x4⟩:=JqD p o n2 ok;walk_at "ev";rw[x1];walk_at "ev";rw[x3];walk_at "ev";rw[x2];walk_at "ev";rw[x4];walk_at "ev"
def Jn1(ns:List Int):∃(T U:List Tr) (span:Int) (j5 j6 j7 j8:Sl),OkU T/\OkU U/\T≠[]/\0<span/\∀T':Es,(Jh (Jm 1 (eU 2 JA (aC (Jb 0) (aC (eC (.int 0)) a0)))) (Jh (Jm 2 (e2 fIx (Y1 (aC (eC (.int 4)) (aC (eC (.int 100)) (aC (e2 JiQ (eC (.int 10)) (eC (.int 28))) a0)))) (e2 YC (e2 Uu (Jb 1) (eC (.int 12))) (eC (.int 3))))) (Jh (Jm 3 (eU 3 Yk (aC (Jb 0) (aC (e2 JR (eC (.int 1)) (e2 YC (Jb 1) (eC (.int 12)))) (aC (Jb 2) a0))))) (Jh (Y0 4 (Y1 a0)) (Jh (UD (iV 3) (.tp (.cons (.nm 5) (.cons (.nm 6) (.cons (.nm 7) .nil)))) (YZ 4 (J9 (aC (Jb 5) (aC (e2 JR (e2 JR (Jb 6) (e2 VP (Jb 5) (e2 YC (e2 Uu (Jb 1) (eC (.int 36))) (eC (.int 5))))) (e2 YC (e2 Uu (Jb 1) (eC (.int 180))) (eC (.int 3)))) (aC (Jb 7) a0)))))) (Jh (Jm 8 (e2 YC (eU 2 JA (aC (Jb 0) (aC (eC (.int 1)) a0))) (eC (.int 9)))) (Jh (xIf (tB? (e2 fEq (Jb 8) (eC (.int 8)))) (Y0 4 (Y1 a0)) JB) (Jh (xIf (tB? (e2 fLt (Jb 8) (eC (.int 7)))) (Y0 4 (eU 3 J4 (aC (Jb 4) (aC (Jb 8) (aC (e2 YC (e2 Uu (eU 2 JA (aC (Jb 0) (aC (eC (.int 1)) a0))) (eC (.int 9))) (eF U8 (aC (Jb 4) a0))) a0))))) JB) T')))))))) [.sh (.fz (ns.map .int)),.no,.no,.no,.no,.no,.no,.no,.no,.no,.no,.no,.no]=T' [.sh (.fz (ns.map .int)),.sh (.int (cell ns 0)),.sh (.int span),.sh (.lst (T.map trE)),.own (U.map trE),j5,j6,j7,j8,.no,.no,.no,.no]:=by
 have a3:=Jih (l:=[4,100,10 ^ 28]) (k:=cell ns 0 / 12 % 3) (by omega) (by show _<(3:Int);omega);simp only[Qf,Ke] at a3
 have hr:0<JhK [4,100,10 ^ 28] (cell ns 0 / 12 % 3)/\JhK [4,100,10 ^ 28] (cell ns 0 / 12 % 3)<=10 ^ 28:=JjD (P:=fun x=>0<x/\x<=10 ^ 28) (by omega) (by show _<(3:Int);omega) (by decide)
 revert a3 hr
 generalize JhK [4,100,10 ^ 28] (cell ns 0 / 12 % 3)=span
 intro a3 hr;have dr:=JqB ns (1+cell ns 0 % 12) span (by omega) (by omega) ⟨hr.1,by omega⟩;obtain⟨asc,nsm,len,sz⟩:=Joj ns hr.1 (1+cell ns 0 % 12).toNat;have spt:=Jok ns hr.1 (1+cell ns 0 % 12).toNat
 have ne:laT ns span (1+cell ns 0 % 12).toNat≠[]:=by
  obtain⟨m,hm⟩:∃m,(1+cell ns 0 % 12).toNat=m+1:=⟨(cell ns 0 % 12).toNat,by omega⟩
  rw[hm];unfold laT;intro q;rw[LZ] at q;have:=(JE (laS ns span (m+1)).1).length_eq;rw[q] at this;have e:(laS ns span (m+1)).1=YD (laS ns span m).1 (laP ns span m):=rfl;rw[e] at this;have z:YD (laS ns span m).1 (laP ns span m)=[]:=QA this.symm;unfold YD at z;split at z
  ·rename_i hh;rw[z] at hh;cases hh
  ·simp at z
 revert dr asc nsm len sz spt ne
 generalize laT ns span (1+cell ns 0 % 12).toNat=T
 intro dr asc nsm len sz spt ne;have o:OkU T:=⟨asc,by omega,by omega,fun t ht=>by have:=sz t ht;omega,fun t ht=>by have:=spt t ht;omega⟩
 obtain⟨g,hg⟩:∃g:Int->Int,∀x,g x=x*(cell ns 0 / 36 % 5)+cell ns 0 / 180 % 3:=⟨_,fun x=>rfl⟩
 have gb:∀t∈T,0<=g t.1/\g t.1<=5*10 ^ 28:=fun t ht=>by
  have s:=sz t ht
  have m1:t.1*(cell ns 0 / 36 % 5)<=t.1*4:=Li (by omega) (by omega)
  have m0:0<=t.1*(cell ns 0 / 36 % 5):=Int.mul_nonneg (by omega) (by omega);rw[hg];omega
 have hV:Yl none (mvT g T):=Jby g T none asc
 have nV:Jw (mvT g T)=Jw T:=by unfold Jw;rw[QJ];rfl
 have lV:(mvT g T).length=T.length:=Qm ..
 have sV:∀t∈mvT g T,(1<=t.1/\t.1<=10 ^ 29)/\-10 ^ 30<=t.2.1/\t.2.1<=10 ^ 30:=fun t ht=>by obtain⟨u,hu,rfl⟩:=QC.mp ht;have:=sz u hu;have:=spt u hu;have:=gb u hu;dsimp only;omega
 have lc:0<((mvT g T).length:Int):=by
  rw[lV]
  cases T with
  | nil=>exact(ne rfl).elim
  | cons _ _=>rw[Qr];omega
 obtain⟨E',hR,he⟩:=Jcc (p:=.tp (.cons (.nm 5) (.cons (.nm 6) (.cons (.nm 7) .nil)))) (b:=(YZ 4 (J9 (aC (Jb 5) (aC (e2 JR (e2 JR (Jb 6) (e2 VP (Jb 5) (e2 YC (e2 Uu (Jb 1) (eC (.int 36))) (eC (.int 5))))) (e2 YC (e2 Uu (Jb 1) (eC (.int 180))) (eC (.int 3)))) (aC (Jb 7) a0)))))) (f:=trE) (as:=T) (E:=[.sh (.fz (ns.map .int)),.sh (.int (cell ns 0)),.sh (.int span),.sh (.lst (T.map trE)),.own [],.no,.no,.no,.no,.no,.no,.no,.no]) (fun(rest:List Tr) (S:List Tr) E=>∃j5 j6 j7,E=[.sh (.fz (ns.map .int)),.sh (.int (cell ns 0)),.sh (.int span),.sh (.lst (T.map trE)),.own (S.map trE),j5,j6,j7,.no,.no,.no,.no,.no]/\S.length+rest.length<=30) (fun S t=>S++[((t.1,t.2.1+g t.1,t.2.2):Tr)]) [] ⟨.no,.no,.no,rfl,by simpa using o.l30⟩ (by rintro⟨x,y,z⟩ rest S E ⟨j5,j6,j7,rfl,hz⟩;rw[Qr] at hz;simp only[trE];walk_at "ev";refine⟨.sh (.int x),.sh (.int y),.sh (.int z),?_,by rw[Qv,Q0];omega⟩;rw[QF,hg,show y+(x*(cell ns 0 / 36 % 5)+cell ns 0 / 180 % 3)=y+x*(cell ns 0 / 36 % 5)+cell ns 0 / 180 % 3 by omega];rfl)
 obtain⟨j5,j6,j7,rfl,_⟩:=hR
 have fe:T.foldl (fun S t=>S++[((t.1,t.2.1+g t.1,t.2.2):Tr)]) []=mvT g T:=by
  have:∀(l S:List Tr),l.foldl (fun S t=>S++[((t.1,t.2.1+g t.1,t.2.2):Tr)]) S=S++mvT g l:=by
   intro l
   induction l with
   | nil=>intro S;simp
   | cons a l ih=>intro S;rw[Gj,ih];simp
  rw[this,Gk]
 rw[fe] at he
 have hh:∀T':Es,(Jh (Jm 1 (eU 2 JA (aC (Jb 0) (aC (eC (.int 0)) a0)))) (Jh (Jm 2 (e2 fIx (Y1 (aC (eC (.int 4)) (aC (eC (.int 100)) (aC (e2 JiQ (eC (.int 10)) (eC (.int 28))) a0)))) (e2 YC (e2 Uu (Jb 1) (eC (.int 12))) (eC (.int 3))))) (Jh (Jm 3 (eU 3 Yk (aC (Jb 0) (aC (e2 JR (eC (.int 1)) (e2 YC (Jb 1) (eC (.int 12)))) (aC (Jb 2) a0))))) (Jh (Y0 4 (Y1 a0)) (Jh (UD (iV 3) (.tp (.cons (.nm 5) (.cons (.nm 6) (.cons (.nm 7) .nil)))) (YZ 4 (J9 (aC (Jb 5) (aC (e2 JR (e2 JR (Jb 6) (e2 VP (Jb 5) (e2 YC (e2 Uu (Jb 1) (eC (.int 36))) (eC (.int 5))))) (e2 YC (e2 Uu (Jb 1) (eC (.int 180))) (eC (.int 3)))) (aC (Jb 7) a0)))))) (Jh (Jm 8 (e2 YC (eU 2 JA (aC (Jb 0) (aC (eC (.int 1)) a0))) (eC (.int 9)))) T')))))) [.sh (.fz (ns.map .int)),.no,.no,.no,.no,.no,.no,.no,.no,.no,.no,.no,.no]=T' [.sh (.fz (ns.map .int)),.sh (.int (cell ns 0)),.sh (.int span),.sh (.lst (T.map trE)),.own ((mvT g T).map trE),j5,j6,j7,.sh (.int (cell ns 1 % 9)),.no,.no,.no,.no]:=fun T'=>by walk_at "ev";rw[WE _ _ (by decide)];walk_at "ev";rw[a3];walk_at "ev";rw[dr];walk_at "ev";rw[he];walk_at "ev";rw[WE _ _ (by decide)];walk_at "ev"
 by_cases c8:cell ns 1 % 9=8
 ·refine⟨T,[],span,j5,j6,j7,.sh (.int (cell ns 1 % 9)),o,⟨trivial,by unfold Jw;simp,by simp,fun t ht=>(by cases ht),fun t ht=>(by cases ht)⟩,ne,hr.1,fun T'=>?_⟩;rw[hh];walk_at "ev";rw[decide_eq_true c8];walk_at "ev";rw[decide_eq_false (show ¬cell ns 1 % 9<7 by omega)];walk_at "ev"
 ·by_cases c7:cell ns 1 % 9<7
  ·have i0:=Ly (cell ns 1 / 9) (b:=((mvT g T).length:Int)) (by omega)
   have i1:=L6 (cell ns 1 / 9) lc;obtain⟨k,hk⟩:∃k:Nat,cell ns 1 / 9 % ((mvT g T).length:Int)=(k:Int):=⟨(cell ns 1 / 9 % ((mvT g T).length:Int)).toNat,by omega⟩
   obtain⟨V,oV,ev⟩:=JqH (mvT g T) (cell ns 1 % 9) (by omega) k (by omega) hV (by omega) (by omega) sV;refine⟨T,V,span,j5,j6,j7,.sh (.int (cell ns 1 % 9)),o,oV,ne,hr.1,fun T'=>?_⟩;have lc':0<(((mvT g T).map trE).length:Int):=by rw[Qm];exact lc
   rw[hh];walk_at "ev";rw[decide_eq_false c8];walk_at "ev";rw[decide_eq_true c7];walk_at "ev";rw[WE _ _ (by decide)];walk_at "ev"
   try rw[lV] at hk
   rw[hk];rw[ev];walk_at "ev"
  ·refine⟨T,mvT g T,span,j5,j6,j7,.sh (.int (cell ns 1 % 9)),o,⟨hV,by omega,by omega,fun t ht=>by have:=sV t ht;omega,fun t ht=>by have:=sV t ht;omega⟩,ne,hr.1,fun T'=>?_⟩;rw[hh];walk_at "ev";rw[decide_eq_false c8];walk_at "ev";rw[decide_eq_false c7];walk_at "ev"
def law_true(ns:List Int)(hn:ns.length<=63):JeB [.sh (.fz (ns.map .int))]=some (.sh (.bl true)):=by obtain⟨T,U,span,j5,j6,j7,j8,o,p,ne,hs,hh⟩:=Jn1 ns;unfold JeB;simp only[Yr,Qr,GS,Ms,Xd,Mx,GF,Gk];rw[hh,JpT o p ne _ _ hs];rfl
end
end LK
noncomputable section
namespace LK
open PySem L2 LR LE
local macro_rules | `(tactic| walk_at "s")=>`(tactic| repeat' first | rfl | assumption | with_reducible apply Ut | with_reducible apply YT | with_reducible apply Jmw | with_reducible apply VL | with_reducible apply Jj7 | with_reducible apply JaG | with_reducible apply JnY | with_reducible apply JeE | with_reducible apply JcJ | with_reducible apply Jcv | with_reducible apply JpE | with_reducible apply JrV | with_reducible apply Jm6 | with_reducible apply Jm7 | with_reducible apply JrJ | with_reducible apply Jnk | with_reducible apply Jr6 | with_reducible apply Jp1 | with_reducible apply Jnv | with_reducible apply Jr2 | with_reducible apply Jpx | with_reducible apply Jjr | with_reducible apply Jrr | with_reducible apply Jrm | with_reducible apply Jrv | with_reducible apply JnG | with_reducible apply JnF | with_reducible apply Jj8 | with_reducible apply JqT | with_reducible apply Jrl | with_reducible apply JrC | with_reducible apply JqU | with_reducible apply JrS | with_reducible apply JrT | with_reducible apply Jro | with_reducible apply JkI | with_reducible apply Jqe | with_reducible apply JrY | with_reducible apply Jru | with_reducible apply Jqh | with_reducible apply JqR | with_reducible apply JrX | with_reducible apply Jr3 | with_reducible apply JrU | with_reducible apply JlO | with_reducible apply JpC | with_reducible apply JmT | with_reducible apply Jqg | with_reducible apply JoD | with_reducible apply JoU | with_reducible apply JoV | with_reducible apply Jnu | with_reducible apply Jr4 | with_reducible apply JrF | with_reducible apply JqW | with_reducible apply Jj5 | with_reducible apply Jmt | with_reducible apply Jrn | with_reducible apply Jpz | with_reducible apply Jrp | with_reducible apply Jrs | with_reducible apply Jrt | with_reducible apply Jr5 | with_reducible apply JrB | with_reducible apply Jqf | with_reducible apply Jja | with_reducible apply JoE | with_reducible apply Jrj | with_reducible apply Jms | with_reducible apply Jrq | with_reducible apply Jmx | with_reducible apply Jmy | with_reducible apply Jmz | with_reducible apply JrE | with_reducible apply JpY | with_reducible apply Jp3 | with_reducible apply JmU | with_reducible apply Jqc | with_reducible apply Jqd | with_reducible apply JnO | with_reducible apply JnP | with_reducible apply Jin | with_reducible apply JrW | with_reducible apply JqS | with_reducible apply JqV | with_reducible apply Jmq | with_reducible apply Jmr | with_reducible apply Jj6 | with_reducible apply Jmu | with_reducible apply JpA | with_reducible apply JpB | with_reducible apply JpD | with_reducible apply JrD | with_reducible apply JkH | with_reducible apply JrG | with_reducible apply JpZ | with_reducible apply Jp0 | with_reducible apply JrI | with_reducible apply Jp2)
noncomputable def top(i:Nat):Kv:=PySem.Challenge.pw_lumprow_k63_no_ways.main.body.getD i (.Pass ⟨0,0,0,0⟩)
noncomputable abbrev WN:Kv:=top 34
noncomputable abbrev YL:Kv:=top 9
noncomputable abbrev VX:Kv:=Jlp (top 8) 0
noncomputable abbrev Vg:Kv:=top 19
noncomputable abbrev Vf:Kv:=top 18
noncomputable abbrev WM:Kv:=top 12
noncomputable abbrev Vh:Kv:=top 17
noncomputable abbrev WQ:Kv:=top 20
noncomputable abbrev WL:Kv:=top 10
noncomputable abbrev WP:Kv:=top 23
noncomputable abbrev Jas:Kv:=top 22
noncomputable abbrev V1:Kv:=top 28
noncomputable abbrev UB:Kv:=top 31
noncomputable abbrev Jcw:Kv:=top 33
noncomputable abbrev Je7:Kv:=top 35
noncomputable abbrev V0:Kv:=top 15
noncomputable abbrev Uy:Kv:=top 14
noncomputable abbrev Jap:Kv:=top 36
noncomputable abbrev Vi:Kv:=top 43
noncomputable abbrev Vl:Kv:=top 21
noncomputable abbrev Ux:Kv:=top 11
noncomputable abbrev VY:Kv:=top 25
noncomputable abbrev Jaq:Kv:=top 24
noncomputable abbrev Uz:Kv:=top 29
noncomputable abbrev Jar:Kv:=top 30
noncomputable abbrev Vk:Kv:=top 41
noncomputable abbrev WO:Kv:=top 42
noncomputable abbrev UA:Kv:=top 40
noncomputable abbrev VZ:Kv:=top 38
noncomputable abbrev Vj:Kv:=top 39
noncomputable abbrev Wl:Kv:=top 44
local macro_rules | `(tactic| walk_at "c")=>`(tactic| exact⟨rfl,rfl,rfl,by decide +kernel,rfl,by decide +kernel,by decide +kernel⟩)
def JhC:(["begin","length"]:List Str).Nodup:=by decide +kernel
def JqM:(["ahead","stretch","layers"]:List Str).Nodup:=by decide +kernel
def JqN:(["left","right"]:List Str).Nodup:=by decide +kernel
def JlJ:(["begin","length","place"]:List Str).Nodup:=by decide +kernel
def JqO:(["spot","number","left"]:List Str).Nodup:=by decide +kernel
def JoA:(["spot","pairs","owed","size"]:List Str).Nodup:=by decide +kernel
def JlK:(["size","spot"]:List Str).Nodup:=by decide +kernel
def JqP:(["here","behind"]:List Str).Nodup:=by decide +kernel
def JqQ:(["size","growth"]:List Str).Nodup:=by decide +kernel
def JqK:(["pair"]:List Str).Nodup:=by decide +kernel
def Jnh:(["size","by","times","seats"]:List Str).Nodup:=by decide +kernel
def Jni:(["spot","number"]:List Str).Nodup:=by decide +kernel
def Jjp:(["size","spot","number"]:List Str).Nodup:=by decide +kernel
def Jnj:(["lump"]:List Str).Nodup:=by decide +kernel
def JqL:(["k","two","one"]:List Str).Nodup:=by decide +kernel
def Jgc:(["size","spot","marks"]:List Str).Nodup:=by decide +kernel
def sc_growths:FnScope ["told","pairs","ahead","size","by","steps","growth","over"] ["told"] (Jk WN):=by walk_at "c"
def JeW{f:Qj}{fd:Q4}(F:Fun K "growths" "growths" WN f fd) :FnOk P w K mg base CX0 1 f fd ["told"] (spE K C 1 Uf) :=
 okE F sc_growths rfl fun _ _ _ _ _ _ hr hu=>⟨_,(Jc (psN 1 sc_growths.nd (YA Jd))
  (Jc (psN 2 sc_growths.nd (JG (Ja Jf (Ja Jf Jd))))
  (Jc (Yo Gm rfl (piK K (pv 0)) (Jt (K:=K) (n:=2) rfl rfl (Je (Jo (i:=3) sc_growths.nd rfl (.inl rfl)) (Je (Jo (i:=4) sc_growths.nd rfl (.inl rfl)) Ju)) rfl rfl) (Jc (psN 5 sc_growths.nd (Jl Yb (pv 3) (pxK K (pv 2) Jf)))
  (Jc (psN 6 sc_growths.nd (Jl Wg (Jl Yb (pv 4) (pxK K (pv 2) Jf)) (pv 5)))
  (Jc (psN 7 sc_growths.nd (Jl Yb (Jl Yb (pv 4) (pxK K (pv 2) Jf)) (Jl Jgf (pv 6) (pv 5))))
  (Jc (J1 (Jp VJ (pv 7) Jf (Js _)) (Jg (JQ (Yn (K:=K) rfl QL Q8 Q9 J2 (pv 1) (Ja (JG (Ja (Jl (Jz (K:=K) rfl) (pxK K (pv 2) Jf) (pv 7)) (Ja (Jl (Jz (K:=K) rfl) (pv 6) Jf) Jd))) Jd)))) Jy)
  (Jc (JQ (Yn (K:=K) rfl QL Q8 Q9 J2 (pv 1) (Ja (JG (Ja (pv 3) (Ja (pv 6) Jd))) Jd)))
  (Jg (psN 2 sc_growths.nd (JG (Ja (pv 3) (Ja (pv 4) Jd)))))))))))
  (Jg (Jx (pv 1)))))),by walk_at "s"⟩
def sc_check_stretches:FnScope ["stretches","behind","begin","length"] ["stretches"] (Jk YL):=by walk_at "c"
def VV(F:Fun K "check_stretches" "check_stretches" YL f fd):FnOk P w K mg base CX0 1 f fd ["stretches"] (JcC K):=by
 refine F.ok sc_check_stretches (fun vs H Q E h=>?_) (fun cdv A outer s H vs Q E hr h=>?_)
 ·obtain⟨v,ps,rfl,_⟩:=h;rfl
 ·obtain⟨v,ps,rfl,⟨a,vs,rfl,hq,hp⟩,g,q⟩:=h;have hu:=hr.units;refine⟨_,(Jc (psN 1 sc_check_stretches.nd J6)
   (Jg (Yo Gm rfl (piK K (pv 0)) (Jt (K:=K) (n:=2) rfl rfl (Je (Jo (i:=2) sc_check_stretches.nd rfl (.inl rfl)) (Je (Jo (i:=3) sc_check_stretches.nd rfl (.inl rfl)) Ju)) rfl rfl) (Jc (J1 (Jp Jae (pv 3) Jf (Js _)) (Jg YY) Jy)
   (Jc (J1 (PW.pt (WK (Jp UH (pv 1) J6 (Js _)) (VB (Jp Jnl (pv 2) (pv 1) (Js _))))) (Jg YY) Jy)
   (Jg (psN 1 sc_check_stretches.nd (Jl (Jge (K:=K) rfl) (pv 2) (pv 3))))))))),?_⟩
  walk_at "rd";refine JhQ (H1:=H) (a:=a) (xs:=vs) (fun R r=>⟨_,rfl,r⟩) hq
   (fun i σ' H'=>∃vb vl,σ'=[some (.ref a),some (Jfx ps i),vb,vl]/\H'=H) ⟨none,none,rfl,rfl⟩ (fun i σ' H' ⟨_,_,_,e⟩=>e▸Same.refl _) ?_ ?_
  ·rintro i x σ' H' hi ⟨vb,vl,rfl,rfl⟩;obtain⟨p,b,e1,rfl,sp⟩:=hp.at hi;refine Jgp sp rfl ?_;walk_at "rd";refine ifd (fun hlt=>absurd (g.one i p e1) (by omega)) (fun _=>?_);walk_at "rd"
   cases i with
   | zero=>refine ifF rfl ?_;refine ifF rfl ?_;walk_at "rd";exact⟨_,_,by rw[U4 e1];rfl,rfl⟩
   | succ j =>
    obtain⟨q1,e2⟩:∃q1,ps[j]?=some q1:=⟨ps[j]'(by have:=(Qq.mp e1).1;omega),by have:=(Qq.mp e1).1;simp[show j<ps.length by omega]⟩
    rw[U4 e2];refine ifT rfl ?_;walk_at "rd";refine ifd (fun hle=>absurd (g.gap j q1 p e2 e1) (by omega)) (fun _=>?_);walk_at "rd";exact⟨_,_,by rw[U4 e1];rfl,rfl⟩
  ·rintro σ' H' ⟨vb,vl,rfl,rfl⟩;exact q _ (Same.refl _)
def JdM:FnScope ["self","stretches"] ["self","stretches"] (Jk VX):=by walk_at "c"
def Jdu(F:Fun K "__init__" "Row.__init__" VX f fd)(qY:mg "tuple"=none)(qg:mg "len"=none)(qb:GV mg "MOST_STRETCHES" (.int 30))(qj:Cal P w K mg base "check_stretches" 1 ["stretches"] (JcC K))(T:RowC K C):FnOk P w K mg base CX0 2 f fd ["self","stretches"] (Vn C K):=by
 refine F.ok JdM (fun vs H Q E h=>?_) (fun cdv A outer s H vs Q E hr h=>?_)
 ·obtain⟨x,dx,v,ps,rfl,_⟩:=h;rfl
 ·obtain⟨x,dx,v,ps,rfl,hx,⟨a,vs,rfl,hq,hp⟩,g,hl,q⟩:=h;have hu:=hr.units;refine⟨_,(Jc (J1 (Jp VJ (Jr (YH (K:=K) rfl) rfl qg UP (Ja (pv 1) Jd)) (Jag rfl qb) (Js _)) (Jg YY) Jy)
   (Jc (JQ (Jj qj (hrM hr) rfl (Ja (pv 1) Jd)))
   (Jg (Jl6 (K:=K) rfl (pv 0) (UI (JcT (K:=K) rfl) rfl qY Jil (Ja (JV (N':=["begin","length"]) (imp:=[none,none]) rfl (piK K (pv 1)) (Wu rfl rfl) (fun _ _ _ _=>(Jt (K:=K) (n:=2) rfl rfl (Je (pgN 0 JhC) (Je (pgN 1 JhC) Ju)) rfl rfl)) (fun _ _ _ _=>JL) (fun _ _ _ _=>(JG (Ja (pv 0) (Ja (pv 1) Jd))))) Jd)) rfl)))),?_⟩
  have hn:=hp.len;walk_at "rd";refine JdJ hq ?_;walk_at "rd";refine ifd (fun hgt=>absurd hl (by omega)) (fun _=>?_);walk_at "rd";refine Jit ⟨a,vs,rfl,hq,hp⟩ g fun H1 s1=>?_
  walk_at "rd";refine Je4 (H1:=H1) (a:=a) (xs:=vs) (fun R r=>⟨_,rfl,r⟩) (hq.imp s1.seq s1.seqT) (Kc (JhV (by omega)))
   (fun i ys σ' H'=>∃vb vl,σ'=[vb,vl]/\Same H1 H'/\Prs K H' ys (ps.take i)) ⟨none,none,rfl,Same.refl _,by rw[List.take_zero];exact RepL.nil⟩
   (fun i ys σ' H' ⟨_,_,_,_,r⟩=>by have:=r.len;rw[this,LL];omega) (fun i ys σ' H' ⟨_,_,_,s',_⟩=>s') ?_ ?_
  ·rintro i ys y σ' H' hi ⟨vb,vl,rfl,s',r⟩;obtain⟨p,b,e1,rfl,sp⟩:=Prs.at (K:=K) (ps:=ps) (RepL.mono (s1.trans s') hp) hi;refine Jgp sp rfl ?_;walk_at "rd";refine ifT rfl ?_;walk_at "rd";refine JnJ sz2 fun t H2 nt s2 ht=>?_
   refine⟨_,_,rfl,s'.trans s2,?_⟩;rw[List.take_add_one,e1];exact Prs.snoc (RepL.mono s2 r) (Jl4 ht)
  ·rintro ys σ' H' ⟨vb,vl,rfl,s',r⟩ l H2 nl s2 hl2;walk_at "rd";refine JhR (.of hl2) fun t H3 nt s3 ht=>?_
   walk_at "rd";have sA:Same H H3:=((s1.trans s').trans s2).trans s3;refine⟨x,C,dx,[],rfl,sA _ _ hx,T.cl,T.ns,by decide,?_⟩;rw[hn,List.take_length] at r;have r3:Prs K H3 ys ps:=RepL.mono (s2.trans s3) r;have ntx:t≠x:=Jbf ht (sA _ _ hx) (by intro z;cases z);refine q _ t ys (sA.ex_trans SameEx.upd) (by rw[JjJ];exact Jn) (by rw[Ji ntx];exact ht) ?_;exact Prs.monoIns SameEx.upd (sA _ _ hx) r3
def sc_closed_up:FnScope ["pairs","stretches","begin","length","ahead"] ["pairs"] (Jk Vg):=by walk_at "c"
def Jcg{f:Qj}{fd:Q4}(F:Fun K "closed_up" "closed_up" Vg f fd)(ql:mg "sum"=none):FnOk P w K mg base CX0 1 f fd ["pairs"] (spE K C 1 Yx) :=
 okE F sc_closed_up rfl fun _ _ _ _ _ _ hr hu=>⟨_,(Jc (psN 1 sc_closed_up.nd (YA Jd))
  (Jc (Yo Gm rfl (piK K (pv 0)) (Jt (K:=K) (n:=2) rfl rfl (Je (Jo (i:=2) sc_closed_up.nd rfl (.inl rfl)) (Je (Jo (i:=3) sc_closed_up.nd rfl (.inl rfl)) Ju)) rfl rfl) (Jg (J1 (PW.pt (WK (UX (K:=K) rfl (pv 1) (fun _=>rfl)) (VB (Jp (UV (K:=K) rfl hu) (Jr (Y8 (K:=K) rfl rfl) rfl ql Ww (Ja (pxK K (pv 1) (JjA Jfo Jf)) Jd)) (pv 2) (Js _))))) (Jc (psN 4 sc_closed_up.nd (JlU (K:=K) rfl QL RW RX Jox (pv 1)))
  (Jg (JQ (Yn (K:=K) rfl QL Q8 Q9 J2 (pv 1) (Ja (JG (Ja (pxK K (pv 4) Jf) (Ja (Jl (Jz (K:=K) rfl) (pxK K (pv 4) Jf) (pv 3)) Jd))) Jd))))) (Jg (J1 (Jp VJ (pv 3) Jf (Js _)) (Jg (JQ (Yn (K:=K) rfl QL Q8 Q9 J2 (pv 1) (Ja (JG (Ja (pv 2) (Ja (pv 3) Jd))) Jd)))) Jy)))))
  (Jg (Jx (pv 1))))),by walk_at "s"⟩
def Jcx:FnScope ["row","layers"] ["row","layers"] (Jk Vf):=by walk_at "c"
def Jcf{f:Qj}{fd:Q4}(F:Fun K "by_layers" "by_layers" Vf f fd)(qd:mg "enumerate"=none)(T:RowC K C):FnOk P w K mg base CX0 1 f fd ["row","layers"] (spE K C 2 Yc) :=
 okE F Jcx rfl fun _ _ _ _ _ _ hr hu=>⟨_,(Jg (Jx (JV (N':=["ahead","stretch","layers"]) (imp:=[none,none,some 1]) rfl (Jai (K:=K) rfl rfl qd (Ja (YF (K:=K) rfl (pv 0) rfl) Jd)) (JbC (own:=["ahead","stretch"]) (fr:=[("layers",1)]) rfl rfl rfl ⟨rfl,trivial⟩ rfl ⟨⟨rfl,rfl,rfl⟩,trivial⟩) (fun _ _ _ _=>(Jt (K:=K) (n:=2) rfl rfl (Je (pgN 0 JqM) (Je (pgN 1 JqM) Ju)) rfl rfl)) (fun _ _ _ _=>JL) (fun _ _ _ _=>(JG (Ja (Jl (Jz (K:=K) rfl) (pxK K (pv 1) Jf) (Jl Uw (Jl Uw Jf (pv 2)) (pv 0))) (Ja (Jl (Jz (K:=K) rfl) (pxK K (pv 1) Jf) (pv 2)) Jd))))))),by walk_at "s"⟩
def Je9:FnScope ["row"] ["row"] (Jk WM):=by walk_at "c"
def JeV{f:Qj}{fd:Q4}(F:Fun K "gaps_of" "gaps_of" WM f fd)(ql:mg "sum"=none)(qD:mg "zip"=none)(T:RowC K C):FnOk P w K mg base CX0 1 f fd ["row"] (spE K C 1 Ue) :=
 okE F Je9 rfl fun _ _ _ _ _ _ hr hu=>⟨_,(Jg (Jx (JV (N':=["left","right"]) (imp:=[none,none]) rfl (Jcp (K:=K) rfl rfl qD (Ja (YF (K:=K) rfl (pv 0) rfl) (Ja (Wj (Zn (K:=K) rfl) (YF (K:=K) rfl (pv 0) rfl) (Zl Jf) Zk) Jd))) (Wu rfl rfl) (fun _ _ _ _=>(Jt (K:=K) (n:=2) rfl rfl (Je (pgN 0 JqN) (Je (pgN 1 JqN) Ju)) rfl rfl)) (fun _ _ _ _=>JL) (fun _ _ _ _=>(Jl Yb (pxK K (pv 1) Jf) (Jr (Y8 (K:=K) rfl rfl) rfl ql Ww (Ja (pv 0) Jd))))))),by walk_at "s"⟩
def Jcy:FnScope ["row"] ["row"] (Jk Vh):=by walk_at "c"
def Jch{f:Qj}{fd:Q4}(F:Fun K "closes_at" "closes_at" Vh f fd)(qt:mg "min"=none)(qP:Cal P w K mg base "gaps_of" 1 ["row"] (spE K C 1 Ue))(T:RowC K C):FnOk P w K mg base CX0 2 f fd ["row"] (spE K C 1 JX) :=
 okE F Jcy rfl fun _ _ _ _ _ _ hr hu=>⟨_,(Jg (Jx (JhJ (Jep (K:=K) rfl rfl) rfl qt Zx (Ja (Jl (Jz (K:=K) rfl) (JV (N':=["begin","length"]) (imp:=[none,none]) rfl (piK K (YF (K:=K) rfl (pv 0) rfl)) (Wu rfl rfl) (fun _ _ _ _=>(Jt (K:=K) (n:=2) rfl rfl (Je (pgN 0 JhC) (Je (pgN 1 JhC) Ju)) rfl rfl)) (fun _ _ _ _=>JL) (fun _ _ _ _=>(pv 1))) (Jj qP (hrM hr) rfl (Ja (pv 0) Jd))) Jd) J6))),by walk_at "s"⟩
def sc_thinned:FnScope ["row","layers","left","still","at_once"] ["row","layers"] (Jk WQ):=by walk_at "c"
def JeZ{f:Qj}{fd:Q4}(F:Fun K "thinned" "thinned" WQ f fd)(qt:mg "min"=none)(qy:CalM P w K mg base "Row" C 2 ["self","stretches"] (Vn C K))(qE:Cal P w K mg base "closed_up" 1 ["pairs"] (spE K C 1 Yx))(qh:Cal P w K mg base "by_layers" 1 ["row","layers"] (spE K C 2 Yc))(qi:Cal P w K mg base "closes_at" 2 ["row"] (spE K C 1 JX))(T:RowC K C):FnOk P w K mg base CX0 4 f fd ["row","layers"] (spE K C 2 Ye) :=
 okE F sc_thinned rfl fun _ _ _ _ _ _ hr hu=>⟨_,(Jc (psN 2 sc_thinned.nd (Vc qy (hrM hr) rfl (Ja (YF (K:=K) rfl (pv 0) rfl) Jd)))
  (Jc (psN 3 sc_thinned.nd (pv 1))
  (Jc (JdF Gm (PW.pt (WK (Jp VJ (pv 3) Jf (Js _)) (VB (UX (K:=K) rfl (YF (K:=K) rfl (pv 2) rfl) (fun _=>rfl))))) (Jc (psN 4 sc_thinned.nd (Jr (Vv rfl) rfl qt Zx (Ja (pv 3) (Ja (Jj qi (hrM hr) rfl (Ja (pv 2) Jd)) Jd))))
  (Jc (psN 2 sc_thinned.nd (Vc qy (hrM hr) rfl (Ja (Jj qE (hrM hr) rfl (Ja (Jj qh (hrM hr) rfl (Ja (pv 2) (Ja (JjA Jfo (pv 4)) Jd))) Jd)) Jd)))
  (Jg (JjH (i:=3) sc_thinned.nd rfl (.inl rfl) (pv 4) Jn4)))))
  (Jg (Jx (pv 2)))))),by walk_at "s"⟩
def Je8:FnScope ["row","place"] ["row","place"] (Jk WL):=by walk_at "c"
def JeU{f:Qj}{fd:Q4}(F:Fun K "ball_at" "ball_at" WL f fd)(we:mg "any"=none)(T:RowC K C):FnOk P w K mg base CX0 1 f fd ["row","place"] (spE K C 2 YO) :=
 okE F Je8 rfl fun _ _ _ _ _ _ hr hu=>⟨_,(Jg (Jx (Jr (Jg0 (K:=K) rfl rfl) rfl we JnM (Ja (JV (N':=["begin","length","place"]) (imp:=[none,none,some 1]) rfl (piK K (YF (K:=K) rfl (pv 0) rfl)) (JbC (own:=["begin","length"]) (fr:=[("place",1)]) rfl rfl rfl ⟨rfl,trivial⟩ rfl ⟨⟨rfl,rfl,rfl⟩,trivial⟩) (fun _ _ _ _=>(Jt (K:=K) (n:=2) rfl rfl (Je (pgN 0 JlJ) (Je (pgN 1 JlJ) Ju)) rfl rfl)) (fun _ _ _ _=>JL) (fun _ _ _ _=>(Jjv Jnl Jae (pv 0) (pv 2) (Jl (Jz (K:=K) rfl) (pv 0) (pv 1))))) Jd)))),by walk_at "s"⟩
def Jfa:FnScope ["left","spot"] ["left","spot"] (Jk WP):=by walk_at "c"
def JeY{f:Qj}{fd:Q4}(F:Fun K "owed_at" "owed_at" WP f fd)(qH:Cal P w K mg base "ball_at" 1 ["row","place"] (spE K C 2 YO)):FnOk P w K mg base CX0 2 f fd ["left","spot"] (spE K C 2 Ug) :=
 okE F Jfa rfl fun _ _ _ _ _ _ hr hu=>⟨_,(Jg (Jx (Jah (PW.pt (WK (UX (K:=K) rfl (Jj qH (hrM hr) rfl (Ja (pv 0) (Ja (Jl Yb (pv 1) Jf) Jd))) (fun _=>rfl)) (VB (Jo6 (UX (K:=K) rfl (Jj qH (hrM hr) rfl (Ja (pv 0) (Ja (pv 1) Jd))) (fun _=>rfl)))))) Jf Jf))),by walk_at "s"⟩
def sc_struck:FnScope ["row","left","pairs","ahead","stretch","spot"] ["row"] (Jk Jas):=by walk_at "c"
def JhI{f:Qj}{fd:Q4}(F:Fun K "struck" "struck" Jas f fd)(qd:mg "enumerate"=none)(ql:mg "sum"=none)(qQ:Cal P w K mg base "owed_at" 2 ["left","spot"] (spE K C 2 Ug))(qm:Cal P w K mg base "thinned" 4 ["row","layers"] (spE K C 2 Ye))(T:RowC K C):FnOk P w K mg base CX0 5 f fd ["row"] (spE K C 1 Ua) :=
 okE F sc_struck rfl fun _ _ _ _ _ _ hr hu=>⟨_,(Jc (UW (i:=1) sc_struck.nd rfl (.inr rfl) (Jj qm (hrM hr) rfl (Ja (pv 0) (Ja Jf Jd))))
  (Jc (psN 2 sc_struck.nd Wi)
  (Jc (Yo Gm rfl (Jai (K:=K) rfl rfl qd (Ja (YF (K:=K) rfl (pv 0) rfl) Jd)) (Jt (K:=K) (n:=2) rfl rfl (Je (Jo (i:=3) sc_struck.nd rfl (.inl rfl)) (Je (Jo (i:=4) sc_struck.nd rfl (.inl rfl)) Ju)) rfl rfl) (Jc (psN 5 sc_struck.nd (Jl Yb (Jl Yb (Jr (Y8 (K:=K) rfl rfl) rfl ql Ww (Ja (pv 4) Jd)) Jf) (Jl Uw Jf (pv 3))))
  (Jg (Zm (U9 hr) (pv 2) (pv 5) (Jl (Jz (K:=K) rfl) (Jaf (U9 hr) (pv 2) (pv 5) Jf ⟨rfl,rfl,rfl,rfl⟩) Jf) rfl))))
  (Jg (Jl7 2 (Jx (JV (N':=["spot","number","left"]) (imp:=[none,none,some 1]) rfl (JjC (pv 2)) (JbC (own:=["spot","number"]) (fr:=[("left",1)]) rfl rfl rfl ⟨rfl,trivial⟩ rfl ⟨⟨rfl,rfl,rfl⟩,trivial⟩) (fun _ _ _ _=>(Jt (K:=K) (n:=2) rfl rfl (Je (pgN 0 JqO) (Je (pgN 1 JqO) Ju)) rfl rfl)) (fun _ _ _ _=>JL) (fun _ _ _ _=>(JG (Ja (pv 0) (Ja (pv 1) (Ja (Jj qQ (hrM hr) rfl (Ja (pv 2) (Ja (pv 0) Jd))) Jd)))))))))))),by walk_at "s"⟩
def sc_table_of:FnScope ["row","table","left","size","layers"] ["row"] (Jk V1):=by walk_at "c"
def Jdy{f:Qj}{fd:Q4}(F:Fun K "table_of" "table_of" V1 f fd)(qm:Cal P w K mg base "thinned" 4 ["row","layers"] (spE K C 2 Ye))(qV:Cal P w K mg base "struck" 5 ["row"] (spE K C 1 Ua))(qi:Cal P w K mg base "closes_at" 2 ["row"] (spE K C 1 JX))(T:RowC K C):FnOk P w K mg base CX0 6 f fd ["row"] (spE K C 1 YX) :=
 okE F sc_table_of rfl fun _ _ _ _ _ _ hr hu=>⟨_,(Jc (psN 1 sc_table_of.nd (YA Jd))
  (Jc (psN 2 sc_table_of.nd (pv 0))
  (Jc (UW (i:=3) sc_table_of.nd rfl (.inr rfl) Jf)
  (Jc (JdF Gm (UX (K:=K) rfl (YF (K:=K) rfl (pv 2) rfl) (fun _=>rfl)) (Jc (psN 4 sc_table_of.nd (Jj qi (hrM hr) rfl (Ja (pv 2) Jd)))
  (Jc (JjH (i:=3) sc_table_of.nd rfl (.inr rfl) (pv 4) Jn3)
  (Jc (psN 2 sc_table_of.nd (Jj qm (hrM hr) rfl (Ja (pv 2) (Ja (Jl Yb (pv 4) Jf) Jd))))
  (Jc (JQ (Yn (K:=K) rfl QL K4 K5 Vy (pv 1) (Ja (JV (N':=["spot","pairs","owed","size"]) (imp:=[none,none,none,some 3]) rfl (piK K (Jj qV (hrM hr) rfl (Ja (pv 2) Jd))) (JbC (own:=["spot","pairs","owed"]) (fr:=[("size",3)]) rfl rfl rfl ⟨rfl,trivial⟩ rfl ⟨⟨rfl,rfl,rfl⟩,trivial⟩) (fun _ _ _ _=>(Jt (K:=K) (n:=3) rfl rfl (Je (pgN 0 JoA) (Je (pgN 1 JoA) (Je (pgN 2 JoA) Ju))) rfl rfl)) (fun _ _ _ _=>(Jaj (Jp VJ (pv 1) (pv 2) (Js _)))) (fun _ _ _ _=>(JG (Ja (pv 3) (Ja (pv 0) (Ja (Jl Yb (pv 1) (pv 2)) Jd)))))) Jd)))
  (Jg (psN 2 sc_table_of.nd (Jj qm (hrM hr) rfl (Ja (pv 2) (Ja Jf Jd))))))))))
  (Jg (Jx (pv 1))))))),by walk_at "s"⟩
def sc_lumps_apart:FnScope ["row","lumps","size","spot","number"] ["row"] (Jk UB):=by walk_at "c"
def Jad{f:Qj}{fd:Q4}(F:Fun K "lumps_apart" "lumps_apart" UB f fd)(qJ:Cal P w K mg base "table_of" 6 ["row"] (spE K C 1 YX)):FnOk P w K mg base CX0 7 f fd ["row"] (spE K C 1 JK) :=
 okE F sc_lumps_apart rfl fun _ _ _ _ _ _ hr hu=>⟨_,(Jc (psN 1 sc_lumps_apart.nd (YA Jd))
  (Jc (Yo Gm rfl (piK K (Jj qJ (hrM hr) rfl (Ja (pv 0) Jd))) (Jt (K:=K) (n:=3) rfl rfl (Je (Jo (i:=2) sc_lumps_apart.nd rfl (.inl rfl)) (Je (Jo (i:=3) sc_lumps_apart.nd rfl (.inl rfl)) (Je (Jo (i:=4) sc_lumps_apart.nd rfl (.inl rfl)) Ju))) rfl rfl) (Jg (JQ (Yn (K:=K) rfl QL K4 K5 Vy (pv 1) (Ja (Jl Je0 (YA (Ja (JG (Ja (pv 2) (Ja (pv 3) Jd))) Jd)) (pv 4)) Jd)))))
  (Jg (Jx (pv 1))))),by walk_at "s"⟩
def sc_moves:FnScope ["one","two","here","there","told","begun","led","by"] ["one","two"] (Jk Jcw):=by walk_at "c"
def Jjt{f:Qj}{fd:Q4}(F:Fun K "moves" "moves" Jcw f fd)(qk:mg "list"=none)(qD:mg "zip"=none)(qo:Cal P w K mg base "lumps_apart" 7 ["row"] (spE K C 1 JK)):FnOk P w K mg base CX0 8 f fd ["one","two"] (spE K C 2 Yg) :=
 okE F sc_moves rfl fun _ _ _ _ _ _ hr hu=>⟨_,(Jc (psN 2 sc_moves.nd (Jj qo (hrM hr) rfl (Ja (pv 0) Jd)))
  (Jc (psN 3 sc_moves.nd (Jj qo (hrM hr) rfl (Ja (pv 1) Jd)))
  (Jc (J1 (Jp (VW (K:=K) rfl hu) (JV (N':=["size","spot"]) (imp:=[none,none]) rfl (piK K (pv 2)) (Wu rfl rfl) (fun _ _ _ _=>(Jt (K:=K) (n:=2) rfl rfl (Je (pgN 0 JlK) (Je (pgN 1 JlK) Ju)) rfl rfl)) (fun _ _ _ _=>JL) (fun _ _ _ _=>(pv 0))) (JV (N':=["size","spot"]) (imp:=[none,none]) rfl (piK K (pv 3)) (Wu rfl rfl) (fun _ _ _ _=>(Jt (K:=K) (n:=2) rfl rfl (Je (pgN 0 JlK) (Je (pgN 1 JlK) Ju)) rfl rfl)) (fun _ _ _ _=>JL) (fun _ _ _ _=>(pv 0))) (Js _)) (Jg (Jx J6)) Jy)
  (Jc (psN 4 sc_moves.nd Wi)
  (Jc (Yo Gm rfl (Jcp (K:=K) rfl rfl qD (Ja (pv 2) (Ja (pv 3) Jd))) (Jt (K:=K) (n:=2) rfl rfl (Je (Jo (i:=5) sc_moves.nd rfl (.inl rfl)) (Je (Jo (i:=6) sc_moves.nd rfl (.inl rfl)) Ju)) rfl rfl) (Jc (psN 7 sc_moves.nd (Jl Yb (pxK K (pv 6) Jf) (pxK K (pv 5) Jf)))
  (Jg (J1 (Jp (VW (K:=K) rfl hu) (JdA (pv 4) (pxK K (pv 5) Jf) (pv 7) ⟨rfl,rfl,rfl,rfl⟩) (pv 7) (Js _)) (Jg (Jx J6)) Jy))))
  (Jg (Jx (UI (Jel rfl) rfl qk Vu (Ja (Jjx (pv 4)) Jd))))))))),by walk_at "s"⟩
def sc_ways:FnScope ["one","two","told","pairs","goings"] ["one","two"] (Jk Je7):=by walk_at "c"
def JlQ{f:Qj}{fd:Q4}(F:Fun K "ways" "ways" Je7 f fd)(qD:mg "zip"=none)(qR:Cal P w K mg base "growths" 1 ["told"] (spE K C 1 Uf))(qI:Cal P w K mg base "moves" 8 ["one","two"] (spE K C 2 Yg)):FnOk P w K mg base CX0 9 f fd ["one","two"] (spE K C 2 J8) :=
 okE F sc_ways rfl fun _ _ _ _ _ _ hr hu=>⟨_,(Jc (psN 2 sc_ways.nd (Jj qI (hrM hr) rfl (Ja (pv 0) (Ja (pv 1) Jd))))
  (Jc (J1 (Jp Wh (pv 2) J6 (Js _)) (Jg (Jx J6)) Jy)
  (Jc (psN 3 sc_ways.nd (Jj qR (hrM hr) rfl (Ja (pv 2) Jd)))
  (Jc (Jal (i:=4) (N':=["here","behind"]) (imp:=[none,none]) sc_ways.nd rfl (.inl rfl) rfl (Jcp (K:=K) rfl rfl qD (Ja (pv 3) (Ja (Wj (Zn (K:=K) rfl) (pv 3) (Zl Jf) Zk) Jd))) (Wu rfl rfl) (fun _ _ _ _=>(Jt (K:=K) (n:=2) rfl rfl (Je (pgN 0 JqP) (Je (pgN 1 JqP) Ju)) rfl rfl)) (fun _ _ _ _=>JL) (fun _ _ _ _=>(JG (Ja (pxK K (pv 0) Jf) (Ja (Jl Yb (pxK K (pv 0) Jf) (pxK K (pv 1) Jf)) Jd)))) rfl (.inl rfl))
  (Jc (JQ (Yn (K:=K) rfl QL K4 K5 Vy (pv 4) (Ja (JV (N':=["size","growth"]) (imp:=[none,none]) rfl (piK K (Wj (Zn (K:=K) rfl) (pv 3) (Zl (JjA Jfo Jf)) Zk)) (Wu rfl rfl) (fun _ _ _ _=>(Jt (K:=K) (n:=2) rfl rfl (Je (pgN 0 JqQ) (Je (pgN 1 JqQ) Ju)) rfl rfl)) (fun _ _ _ _=>JL) (fun _ _ _ _=>(JG (Ja J6 (Ja (pv 1) Jd))))) Jd)))
  (Jg (Jx (JV (N':=["pair"]) (imp:=[none]) rfl (piK K (pv 4)) (Wu rfl rfl) (fun _ _ _ _=>(pgN 0 JqK)) (fun _ _ _ _=>(Jaj (Jp (VW (K:=K) rfl hu) (pxK K (pv 0) Jf) Jf (Js _)))) (fun _ _ _ _=>(pv 0)))))))))),by walk_at "s"⟩
def JdO:FnScope ["size","seats"] ["size","seats"] (Jk V0):=by walk_at "c"
def Jdx{f:Qj}{fd:Q4}(F:Fun K "share_of" "share_of" V0 f fd)(qt:mg "min"=none):FnOk P w K mg base CX0 1 f fd ["size","seats"] (spE K C 2 Yv) :=
 okE F JdO rfl fun _ _ _ _ _ _ hr hu=>⟨_,(Jg (Jx (Jah (Jp Wh (pv 1) J6 (Js _)) (pv 0) (Jr (Vv rfl) rfl qt Zx (Ja (pv 0) (Ja (pv 1) Jd)))))),by walk_at "s"⟩
def Jau:FnScope ["seats"] ["seats"] (Jk Uy):=by walk_at "c"
def Jaa{f:Qj}{fd:Q4}(F:Fun K "check_seats" "check_seats" Uy f fd) :FnOk P w K mg base CX0 1 f fd ["seats"] (spE K C 1 Yt) :=
 okE F Jau rfl fun _ _ _ _ _ _ hr hu=>⟨_,(Jg (J1 (PW.pt (WK (Jp UH (pv 0) J6 (Js _)) (VB (Jp Jae (pv 0) Jf (Js _))))) (Jg YY) Jy)),by walk_at "s"⟩
def sc_led_by:FnScope ["one","two","seats","told","times","size","by"] ["one","two","seats"] (Jk Jap):=by walk_at "c"
def JhF{f:Qj}{fd:Q4}(F:Fun K "led_by" "led_by" Jap f fd)(wf:mg "all"=none)(qz:Cal P w K mg base "share_of" 1 ["size","seats"] (spE K C 2 Yv))(qI:Cal P w K mg base "moves" 8 ["one","two"] (spE K C 2 Yg))(qv:Cal P w K mg base "check_seats" 1 ["seats"] (spE K C 1 Yt)):FnOk P w K mg base CX0 9 f fd ["one","two","seats"] (spE K C 3 JT) :=
 okE F sc_led_by rfl fun _ _ _ _ _ _ hr hu=>⟨_,(Jc (JQ (Jj qv (hrM hr) rfl (Ja (pv 2) Jd)))
  (Jc (psN 3 sc_led_by.nd (Jj qI (hrM hr) rfl (Ja (pv 0) (Ja (pv 1) Jd))))
  (Jc (J1 (Jp Wh (pv 3) J6 (Js _)) (Jg (Jx J6)) Jy)
  (Jc (UW (i:=4) sc_led_by.nd rfl (.inr rfl) Jf)
  (Jc (Yo Gm rfl (piK K (Wj (Zn (K:=K) rfl) (pv 3) Zk (Zl Jf))) (Jt (K:=K) (n:=2) rfl rfl (Je (Jo (i:=5) sc_led_by.nd rfl (.inl rfl)) (Je (Jo (i:=6) sc_led_by.nd rfl (.inl rfl)) Ju)) rfl rfl) (Jg (UW (i:=4) sc_led_by.nd rfl (.inr rfl) (Jl Wg (pv 6) (Jj qz (hrM hr) rfl (Ja (pv 5) (Ja (pv 2) Jd)))))))
  (Jg (Jx (Jah (UX (K:=K) rfl (Jr (JgY (K:=K) rfl rfl) rfl wf JnL (Ja (JV (N':=["size","by","times","seats"]) (imp:=[none,none,some 4,some 2]) rfl (piK K (pv 3)) (JbC (own:=["size","by"]) (fr:=[("times",4),("seats",2)]) rfl rfl rfl ⟨rfl,rfl,trivial⟩ rfl ⟨⟨rfl,rfl,rfl⟩,⟨rfl,rfl,rfl⟩,trivial⟩) (fun _ _ _ _=>(Jt (K:=K) (n:=2) rfl rfl (Je (pgN 0 Jnh) (Je (pgN 1 Jnh) Ju)) rfl rfl)) (fun _ _ _ _=>JL) (fun _ _ _ _=>(Jco (UV (K:=K) rfl hu) (pv 1) (Jl Jgf (pv 2) (Jj qz (hrM hr) rfl (Ja (pv 0) (Ja (pv 3) Jd)))) (Js _)))) Jd)) (fun _=>rfl)) (pv 4) J6)))))))),by walk_at "s"⟩
def sc_law_alone:FnScope ["lumps","others","seats","found","told","k","step","move"] ["lumps","others","seats"] (Jk Vi):=by walk_at "c"
def Jcj{f:Qj}{fd:Q4}(F:Fun K "_law_alone" "_law_alone" Vi f fd)(qg:mg "len"=none)(qp:mg "range"=none)(qt:mg "min"=none):FnOk P w K mg base CX0 1 f fd ["lumps","others","seats"] (spE K C 3 JY) :=
 okE F sc_law_alone rfl fun _ _ _ _ _ _ hr hu=>⟨_,(Jc (psN 3 sc_law_alone.nd Jf)
  (Jc (psN 4 sc_law_alone.nd Wi)
  (Jc (Yo Gm rfl (WH rfl qp (Ja (Jr (YH (K:=K) rfl) rfl qg UP (Ja (pv 0) Jd)) Jd)) (Jo (i:=5) sc_law_alone.nd rfl (.inl rfl)) (Jc (psN 6 sc_law_alone.nd (pxK K (pxK K (pv 0) (pv 5)) Jf))
  (Jc (J1 (Jp UH (pv 2) J6 (Js _)) (Jg (psN 6 sc_law_alone.nd (Jr (Vv rfl) rfl qt Zx (Ja (pv 6) (Ja (pv 2) Jd))))) Jy)
  (Jc (psN 7 sc_law_alone.nd (Jl Yb (pxK K (pxK K (pv 1) (pv 5)) Jf) (pxK K (pxK K (pv 0) (pv 5)) Jf)))
  (Jc (J1 (Jp (VW (K:=K) rfl hu) (Jl Y3 (pv 7) (pv 6)) Jf (Js _)) (Jg (Jx J6)) Jy)
  (Jc (psN 3 sc_law_alone.nd (Jl Wg (pv 7) (pv 6)))
  (Jg (Zm (U9 hr) (pv 4) (pv 3) Jbh rfl))))))))
  (Jc (J1 (Jp VJ (Jr Jg2 rfl qg UP (Ja (pv 4) Jd)) Jf (Js _)) (Jg (Jx J6)) Jy)
  (Jg (Jx (pv 3))))))),by walk_at "s"⟩
def Jcz:FnScope ["row","layers"] ["row","layers"] (Jk Vl):=by walk_at "c"
def Jcm{f:Qj}{fd:Q4}(F:Fun K "thickened" "thickened" Vl f fd)(qy:CalM P w K mg base "Row" C 2 ["self","stretches"] (Vn C K))(qh:Cal P w K mg base "by_layers" 1 ["row","layers"] (spE K C 2 Yc)):FnOk P w K mg base CX0 4 f fd ["row","layers"] (spE K C 2 Yy) :=
 okE F Jcz rfl fun _ _ _ _ _ _ hr hu=>⟨_,(Jg (Jx (Vc qy (hrM hr) rfl (Ja (Jj qh (hrM hr) rfl (Ja (pv 0) (Ja (pv 1) Jd))) Jd)))),by walk_at "s"⟩
def Jat:FnScope ["row","place"] ["row","place"] (Jk Ux):=by walk_at "c"
def Z9{f:Qj}{fd:Q4}(F:Fun K "balls_below" "balls_below" Ux f fd)(ql:mg "sum"=none)(qX:mg "max"=none)(qt:mg "min"=none)(T:RowC K C):FnOk P w K mg base CX0 1 f fd ["row","place"] (spE K C 2 Ys) :=
 okE F Jat rfl fun _ _ _ _ _ _ hr hu=>⟨_,(Jg (Jx (Jr (Y8 (K:=K) rfl rfl) rfl ql Ww (Ja (JV (N':=["begin","length","place"]) (imp:=[none,none,some 1]) rfl (piK K (YF (K:=K) rfl (pv 0) rfl)) (JbC (own:=["begin","length"]) (fr:=[("place",1)]) rfl rfl rfl ⟨rfl,trivial⟩ rfl ⟨⟨rfl,rfl,rfl⟩,trivial⟩) (fun _ _ _ _=>(Jt (K:=K) (n:=2) rfl rfl (Je (pgN 0 JlJ) (Je (pgN 1 JlJ) Ju)) rfl rfl)) (fun _ _ _ _=>JL) (fun _ _ _ _=>(Jr (JaY rfl) rfl qX Jik (Ja Jf (Ja (Jr (Vv rfl) rfl qt Zx (Ja (pv 1) (Ja (Jl Yb (pv 2) (pv 0)) Jd))) Jd))))) Jd)))),by walk_at "s"⟩
def sc_ended_at:FnScope ["row","spots","stretches","counted","ahead","spot","below","balls"] ["row","spots"] (Jk VY):=by walk_at "c"
def Jdv{f:Qj}{fd:Q4}(F:Fun K "ended_at" "ended_at" VY f fd)(qd:mg "enumerate"=none)(qw:Cal P w K mg base "balls_below" 1 ["row","place"] (spE K C 2 Ys)):FnOk P w K mg base CX0 2 f fd ["row","spots"] (spE K C 2 YW) :=
 okE F sc_ended_at rfl fun _ _ _ _ _ _ hr hu=>⟨_,(Jc (psN 2 sc_ended_at.nd (YA Jd))
  (Jc (psN 3 sc_ended_at.nd Jf)
  (Jc (Yo Gm rfl (Jai (K:=K) rfl rfl qd (Ja (pv 1) Jd)) (Jt (K:=K) (n:=2) rfl rfl (Je (Jo (i:=4) sc_ended_at.nd rfl (.inl rfl)) (Je (Jo (i:=5) sc_ended_at.nd rfl (.inl rfl)) Ju)) rfl rfl) (Jc (psN 6 sc_ended_at.nd (Jj qw (hrM hr) rfl (Ja (pv 0) (Ja (pv 5) Jd))))
  (Jc (psN 7 sc_ended_at.nd (Jl Yb (pv 6) (pv 3)))
  (Jc (JQ (Yn (K:=K) rfl QL Q8 Q9 J2 (pv 2) (Ja (JG (Ja (Jl Yb (Jl (Jz (K:=K) rfl) (pv 5) (Jl Uw Jf (pv 4))) (pv 7)) (Ja (Jl (Jz (K:=K) rfl) (pv 7) Jf) Jd))) Jd)))
  (Jg (psN 3 sc_ended_at.nd (pv 6)))))))
  (Jg (Jx (pv 2)))))),by walk_at "s"⟩
def sc_put_in:FnScope ["row","pairs","spots","spot","number"] ["row","pairs"] (Jk Jaq):=by walk_at "c"
def JhG{f:Qj}{fd:Q4}(F:Fun K "put_in" "put_in" Jaq f fd)(qf:mg "sorted"=none)(qg:mg "len"=none)(ql:mg "sum"=none)(qb:GV mg "MOST_STRETCHES" (.int 30))(qy:CalM P w K mg base "Row" C 2 ["self","stretches"] (Vn C K))(qK:Cal P w K mg base "ended_at" 2 ["row","spots"] (spE K C 2 YW))(T:RowC K C):FnOk P w K mg base CX0 4 f fd ["row","pairs"] (spE K C 2 Y9) :=
 okE F sc_put_in rfl fun _ _ _ _ _ _ hr hu=>⟨_,(Jc (J1 (Jp VJ (Jl (Jz (K:=K) rfl) (Jr (YH (K:=K) rfl) rfl qg UP (Ja (YF (K:=K) rfl (pv 0) rfl) Jd)) (Jr (Y8 (K:=K) rfl rfl) rfl ql Ww (Ja (JV (N':=["spot","number"]) (imp:=[none,none]) rfl (piK K (pv 1)) (Wu rfl rfl) (fun _ _ _ _=>(Jt (K:=K) (n:=2) rfl rfl (Je (pgN 0 Jni) (Je (pgN 1 Jni) Ju)) rfl rfl)) (fun _ _ _ _=>JL) (fun _ _ _ _=>(pv 1))) Jd))) (Jag rfl qb) (Js _)) (Jg YY) Jy)
  (Jc (Jal (i:=2) (N':=["begin","length"]) (imp:=[none,none]) sc_put_in.nd rfl (.inl rfl) rfl (piK K (YF (K:=K) rfl (pv 0) rfl)) (Wu rfl rfl) (fun _ _ _ _=>(Jt (K:=K) (n:=2) rfl rfl (Je (pgN 0 JhC) (Je (pgN 1 JhC) Ju)) rfl rfl)) (fun _ _ _ _=>JL) (fun _ _ _ _=>(Jl (Jz (K:=K) rfl) (pv 0) (pv 1))) rfl (.inl rfl))
  (Jc (Yo Gm rfl (piK K (pv 1)) (Jt (K:=K) (n:=2) rfl rfl (Je (Jo (i:=3) sc_put_in.nd rfl (.inl rfl)) (Je (Jo (i:=4) sc_put_in.nd rfl (.inl rfl)) Ju)) rfl rfl) (Jg (JQ (Yn (K:=K) rfl QL K4 K5 Vy (pv 2) (Ja (Jl Je0 (YA (Ja (pv 3) Jd)) (pv 4)) Jd)))))
  (Jg (Jx (Vc qy (hrM hr) rfl (Ja (Jj qK (hrM hr) rfl (Ja (pv 0) (Ja (Jr (JbH (K:=K) rfl rfl) rfl qf Wv (Ja (pv 2) Jd)) Jd))) Jd))))))),by walk_at "s"⟩
def sc_check_table:FnScope ["table","ahead","size","spot","number"] ["table"] (Jk Uz):=by walk_at "c"
def Jab{f:Qj}{fd:Q4}(F:Fun K "check_table" "check_table" Uz f fd)(ql:mg "sum"=none)(qA:GV mg "MOST_LUMPS" (.int 30)):FnOk P w K mg base CX0 1 f fd ["table"] (spE K C 1 J3) :=
 okE F sc_check_table rfl fun _ _ _ _ _ _ hr hu=>⟨_,(Jc (psN 1 sc_check_table.nd J6)
  (Jc (Yo Gm rfl (piK K (pv 0)) (Jt (K:=K) (n:=3) rfl rfl (Je (Jo (i:=2) sc_check_table.nd rfl (.inl rfl)) (Je (Jo (i:=3) sc_check_table.nd rfl (.inl rfl)) (Je (Jo (i:=4) sc_check_table.nd rfl (.inl rfl)) Ju))) rfl rfl) (Jc (J1 (PW.pt (JjM (Jp Jae (pv 2) Jf (Js _)) (Je2 (Jp Jae (pv 4) Jf (Js _))))) (Jg YY) Jy)
  (Jc (J1 (PW.pt (WK (Jp UH (pv 1) J6 (Js _)) (VB (Jp (JoP (K:=K) rfl (Kn (Mp _ 64) hu)) (JG (Ja (pv 2) (Ja (pv 3) Jd))) (pv 1) (Js _))))) (Jg YY) Jy)
  (Jg (psN 1 sc_check_table.nd (JG (Ja (pv 2) (Ja (pv 3) Jd))))))))
  (Jg (J1 (Jp VJ (Jr (Y8 (K:=K) rfl rfl) rfl ql Ww (Ja (JV (N':=["size","spot","number"]) (imp:=[none,none,none]) rfl (piK K (pv 0)) (Wu rfl rfl) (fun _ _ _ _=>(Jt (K:=K) (n:=3) rfl rfl (Je (pgN 0 Jjp) (Je (pgN 1 Jjp) (Je (pgN 2 Jjp) Ju))) rfl rfl)) (fun _ _ _ _=>JL) (fun _ _ _ _=>(pv 2))) Jd)) (Jag rfl qA) (Js _)) (Jg YY) Jy)))),by walk_at "s"⟩
def sc_row_of:FnScope ["table","lumps","size","spot","number","sizes","row","lesser"] ["table"] (Jk Jar):=by walk_at "c"
def JhH{f:Qj}{fd:Q4}(F:Fun K "row_of" "row_of" Jar f fd)(qL:mg "reversed"=none)(qk:mg "list"=none)(qD:mg "zip"=none)(qF:Cal P w K mg base "thickened" 4 ["row","layers"] (spE K C 2 Yy))(qW:Cal P w K mg base "put_in" 4 ["row","pairs"] (spE K C 2 Y9))(qy:CalM P w K mg base "Row" C 2 ["self","stretches"] (Vn C K))(qx:Cal P w K mg base "check_table" 1 ["table"] (spE K C 1 J3)):FnOk P w K mg base CX0 5 f fd ["table"] (spE K C 1 JU) :=
 okE F sc_row_of rfl fun _ _ _ _ _ _ hr hu=>⟨_,(Jc (JQ (Jj qx (hrM hr) rfl (Ja (pv 0) Jd)))
  (Jc (psN 1 sc_row_of.nd Wi)
  (Jc (Yo Gm rfl (piK K (pv 0)) (Jt (K:=K) (n:=3) rfl rfl (Je (Jo (i:=2) sc_row_of.nd rfl (.inl rfl)) (Je (Jo (i:=3) sc_row_of.nd rfl (.inl rfl)) (Je (Jo (i:=4) sc_row_of.nd rfl (.inl rfl)) Ju))) rfl rfl) (Jg (JQ (Yn (K:=K) rfl QL Q8 Q9 J2 (JdA (pv 1) (pv 2) (YA Jd) ⟨rfl,rfl,rfl,rfl⟩) (Ja (JG (Ja (pv 3) (Ja (pv 4) Jd))) Jd)))))
  (Jc (psN 5 sc_row_of.nd (UI (Jem rfl) rfl qk Vu (Ja (pv 1) Jd)))
  (Jc (psN 6 sc_row_of.nd (Vc qy (hrM hr) rfl (Ja (YA Jd) Jd)))
  (Jc (Yo Gm rfl (Jl1 (K:=K) rfl rfl qL (Ja (JdC (K:=K) rfl rfl rfl qk rfl qD (Ja (Jl (Jz (K:=K) rfl) (YA (Ja Jf Jd)) (pv 5)) (Ja (pv 5) Jd))) Jd)) (Jt (K:=K) (n:=2) rfl rfl (Je (Jo (i:=7) sc_row_of.nd rfl (.inl rfl)) (Je (Jo (i:=2) sc_row_of.nd rfl (.inl rfl)) Ju)) rfl rfl) (Jg (psN 6 sc_row_of.nd (Jj qF (hrM hr) rfl (Ja (Jj qW (hrM hr) rfl (Ja (pv 6) (Ja (JlW (U9 hr) (pv 1) (pv 2) (fun _ _=>rfl)) Jd))) (Ja (Jl Yb (Jl Yb (pv 2) (pv 7)) Jf) Jd))))))
  (Jg (Jx (pv 6))))))))),(JaG (JkH (Jcv (YT (Ut 0) VL)))
  (JaG (JnG Jj5)
  (JaG (JrH (Jro 0) (Jn0 (JbW (JiW (by decide)) (JbW (JiW (by decide)) (JbW (JiW (by decide)) JnZ))) rfl) (Ut 2) (Jnv (YT (Ut 3) (YT (Ut 4) VL))))
  (JaG (JcJ (Jmv (Ut 1)))
  (JaG (JcJ (Jnu (YT (Jj8 VL) VL)))
  (JaG (JnF (Jpy (YT (JpF (YT (Jmw Jnk (Jj8 (YT Jj7 VL)) (Ut 5)) (YT (Ut 5) VL))) VL)) (Jm7 (JeE (JnY 7) (JeE (JnY 2) Jm6)) rfl) (JcJ (Jcv (YT (Jcv (YT (Ut 6) (YT (Jrk (Ut 1) (Ut 2)) VL))) (YT (Jmw Jjr (Jmw Jjr (Ut 2) (Ut 7)) Jj7) VL)))))
  JkI))))))⟩
def sc_law_spots:FnScope ["lumps","size","found","other","spot","number"] ["lumps","size"] (Jk Vk):=by walk_at "c"
def Jcl{f:Qj}{fd:Q4}(F:Fun K "_law_spots" "_law_spots" Vk f fd) :FnOk P w K mg base CX0 1 f fd ["lumps","size"] (spE K C 2 JP) :=
 okE F sc_law_spots rfl fun _ _ _ _ _ _ hr hu=>⟨_,(Jc (psN 2 sc_law_spots.nd (YA Jd))
  (Jc (Yo Gm rfl (piK K (pv 0)) (Jt (K:=K) (n:=3) rfl rfl (Je (Jo (i:=3) sc_law_spots.nd rfl (.inl rfl)) (Je (Jo (i:=4) sc_law_spots.nd rfl (.inl rfl)) (Je (Jo (i:=5) sc_law_spots.nd rfl (.inl rfl)) Ju))) rfl rfl) (Jg (J1 (Jp (UV (K:=K) rfl hu) (pv 3) (pv 1) (Js _)) (Jg (psN 2 sc_law_spots.nd (Jl (Jz (K:=K) rfl) (pv 2) (Jl Je0 (YA (Ja (pv 4) Jd)) (pv 5))))) Jy)))
  (Jg (Jx (pv 2))))),by walk_at "s"⟩
def sc_law_can:FnScope ["lumps","others","sizes","size","one","two"] ["lumps","others"] (Jk WO):=by walk_at "c"
def JeX{f:Qj}{fd:Q4}(F:Fun K "_law_can" "_law_can" WO f fd)(qg:mg "len"=none)(wa:mg "set"=none)(qp:mg "range"=none)(qf:mg "sorted"=none)(qq:Cal P w K mg base "_law_spots" 1 ["lumps","size"] (spE K C 2 JP)):FnOk P w K mg base CX0 2 f fd ["lumps","others"] (spE K C 2 Yu) :=
 okE F sc_law_can rfl fun _ _ _ _ _ _ hr hu=>⟨_,(Jc (psN 2 sc_law_can.nd (JdD (K:=K) rfl rfl rfl qf rfl wa (JV (N':=["lump"]) (imp:=[none]) rfl (piK K (pv 0)) (Wu rfl rfl) (fun _ _ _ _=>(pgN 0 Jnj)) (fun _ _ _ _=>JL) (fun _ _ _ _=>(pxK K (pv 0) Jf)))))
  (Jc (J1 (Jp (VW (K:=K) rfl hu) (pv 2) (JdD (K:=K) rfl rfl rfl qf rfl wa (JV (N':=["lump"]) (imp:=[none]) rfl (piK K (pv 1)) (Wu rfl rfl) (fun _ _ _ _=>(pgN 0 Jnj)) (fun _ _ _ _=>JL) (fun _ _ _ _=>(pxK K (pv 0) Jf)))) (Js _)) (Jg (Jx Jbh)) Jy)
  (Jc (Yo Gm rfl (piK K (pv 2)) (Jo (i:=3) sc_law_can.nd rfl (.inl rfl)) (Jc (UW (i:=4) sc_law_can.nd rfl (.inr rfl) (Jj qq (hrM hr) rfl (Ja (pv 0) (Ja (pv 3) Jd))))
  (Jc (UW (i:=5) sc_law_can.nd rfl (.inr rfl) (Jj qq (hrM hr) rfl (Ja (pv 1) (Ja (pv 3) Jd))))
  (Jg (J1 (PW.pt (JjM (Jp (VW (K:=K) rfl hu) (Jr (YH (K:=K) rfl) rfl qg UP (Ja (pv 4) Jd)) (Jr (YH (K:=K) rfl) rfl qg UP (Ja (pv 5) Jd)) (Js _)) (Je2 (Jp VJ (JlY (K:=K) rfl rfl rfl qg rfl wa (JV (N':=["k","two","one"]) (imp:=[none,some 5,some 4]) rfl (WH rfl qp (Ja (Jr (YH (K:=K) rfl) rfl qg UP (Ja (pv 4) Jd)) Jd)) (JbC (own:=["k"]) (fr:=[("two",5),("one",4)]) rfl rfl rfl ⟨rfl,rfl,trivial⟩ rfl ⟨⟨rfl,rfl,rfl⟩,⟨rfl,rfl,rfl⟩,trivial⟩) (fun _ _ _ _=>(pgN 0 JqL)) (fun _ _ _ _=>JL) (fun _ _ _ _=>(Jl Yb (pxK K (pv 1) (pv 0)) (pxK K (pv 2) (pv 0)))))) Jf (Js _))))) (Jg (Jx Jbh)) Jy)))))
  (Jg (Jx Jbh))))),by walk_at "s"⟩
def sc_law_spoiled:FnScope ["lumps","way","at","some","size","spot","number","marks"] ["lumps","way","at"] (Jk UA):=by walk_at "c"
def Jac{f:Qj}{fd:Q4}(F:Fun K "_law_spoiled" "_law_spoiled" UA f fd)(qf:mg "sorted"=none)(qX:mg "max"=none)(qk:mg "list"=none):FnOk P w K mg base CX0 1 f fd ["lumps","way","at"] (spE K C 3 J4) :=
 okE F sc_law_spoiled rfl fun _ _ _ _ _ _ hr hu=>⟨_,(Jc (psN 3 sc_law_spoiled.nd (UI (Jen (K:=K) rfl) rfl qk Vu (Ja (pv 0) Jd)))
  (Jc (Jo4 (pxK K (pv 3) (pv 2)) (Jt (K:=K) (n:=3) rfl rfl (Je (Jo (i:=4) sc_law_spoiled.nd rfl (.inl rfl)) (Je (Jo (i:=5) sc_law_spoiled.nd rfl (.inl rfl)) (Je (Jo (i:=6) sc_law_spoiled.nd rfl (.inl rfl)) Ju))) rfl rfl))
  (Jc (JQ (Yn (K:=K) rfl QL RW RX Jjo (pv 3) (Ja (pv 2) Jd)))
  (Jc (J1 (Jp (UV (K:=K) rfl hu) (pv 1) Jf (Js _)) (Jg (JQ (Yn (K:=K) rfl QL Q8 Q9 J2 (pv 3) (Ja (JG (Ja (Jl (Jz (K:=K) rfl) (pv 4) Jf) (Ja (pv 5) (Ja (pv 6) Jd)))) Jd)))) Jy)
  (Jc (J1 (Jp (UV (K:=K) rfl hu) (pv 1) Jf (Js _)) (Jg (JQ (Yn (K:=K) rfl QL Q8 Q9 J2 (pv 3) (Ja (JG (Ja (Jr (JaY rfl) rfl qX Jik (Ja Jf (Ja (Jl Yb (pv 4) Jf) Jd))) (Ja (pv 5) (Ja (pv 6) Jd)))) Jd)))) Jy)
  (Jc (J1 (Jp (UV (K:=K) rfl hu) (pv 1) Jf (Js _)) (Jg (JQ (Yn (K:=K) rfl QL Q8 Q9 J2 (pv 3) (Ja (JG (Ja (pv 4) (Ja (Jl (Jz (K:=K) rfl) (pv 5) Jf) (Ja (pv 6) Jd)))) Jd)))) Jy)
  (Jc (J1 (Jp (UV (K:=K) rfl hu) (pv 1) Jf (Js _)) (Jg (JQ (Yn (K:=K) rfl QL Q8 Q9 J2 (pv 3) (Ja (JG (Ja (pv 4) (Ja (pv 5) (Ja (Jl (Jz (K:=K) rfl) (pv 6) Jf) Jd)))) Jd)))) Jy)
  (Jc (J1 (Jp (UV (K:=K) rfl hu) (pv 1) Jf (Js _)) (Jc (JQ (Yn (K:=K) rfl QL Q8 Q9 J2 (pv 3) (Ja (JG (Ja (pv 4) (Ja (Jl (Jz (K:=K) rfl) (pv 5) Jf) (Ja Jf Jd)))) Jd)))
  (Jg (JQ (Yn (K:=K) rfl QL Q8 Q9 J2 (pv 3) (Ja (JG (Ja (pv 4) (Ja (pv 5) (Ja (Jl Yb (pv 6) Jf) Jd)))) Jd))))) Jy)
  (Jc (UW (i:=7) sc_law_spoiled.nd rfl (.inr rfl) Jdz)
  (Jc (Yo Gm rfl (piK K (pv 3)) (Jt (K:=K) (n:=3) rfl rfl (Je (Jo (i:=4) sc_law_spoiled.nd rfl (.inl rfl)) (Je (Jo (i:=5) sc_law_spoiled.nd rfl (.inl rfl)) (Je (Jo (i:=6) sc_law_spoiled.nd rfl (.inl rfl)) Ju))) rfl rfl) (Jg (Zm (U9 hr) (pv 7) (JG (Ja (pv 4) (Ja (pv 5) Jd))) (Jl (Jz (K:=K) rfl) (Jaf (U9 hr) (pv 7) (JG (Ja (pv 4) (Ja (pv 5) Jd))) Jf ⟨rfl,rfl,rfl,rfl⟩) (pv 6)) rfl)))
  (Jg (Jx (JV (N':=["size","spot","marks"]) (imp:=[none,none,some 7]) rfl (piK K (Jr (WT rfl) rfl qf Wv (Ja (JdB (pv 7)) Jd))) (JbC (own:=["size","spot"]) (fr:=[("marks",7)]) rfl rfl rfl ⟨rfl,trivial⟩ rfl ⟨⟨rfl,rfl,rfl⟩,trivial⟩) (fun _ _ _ _=>(Jt (K:=K) (n:=2) rfl rfl (Je (pgN 0 Jgc) (Je (pgN 1 Jgc) Ju)) rfl rfl)) (fun _ _ _ _=>(Jaj (Jp VJ (WG (K:=K) rfl (U9 hr) (pv 2) (JG (Ja (pv 0) (Ja (pv 1) Jd))) (fun _ _=>rfl)) Jf (Js _)))) (fun _ _ _ _=>(JG (Ja (pv 0) (Ja (pv 1) (Ja (WG (K:=K) rfl (U9 hr) (pv 2) (JG (Ja (pv 0) (Ja (pv 1) Jd))) (fun _ _=>rfl)) Jd)))))))))))))))))),by walk_at "s"⟩
def JdN:FnScope ["script","k"] ["script","k"] (Jk VZ):=by walk_at "c"
def Jdw{f:Qj}{fd:Q4}(F:Fun K "_law_cell" "_law_cell" VZ f fd)(qg:mg "len"=none):FnOk P w K mg base CX0 1 f fd ["script","k"] (spE K C 2 JA) :=
 okE F JdN rfl fun _ _ _ _ _ _ hr hu=>⟨_,(Jc (J1 (Jp Jae (pv 1) (Jr (YH (K:=K) rfl) rfl qg UP (Ja (pv 0) Jd)) (Js _)) (Jg (Jx (pxK K (pv 0) (pv 1)))) Jy)
  (Jg (Jx Jf))),by walk_at "s"⟩
def sc_law_lumps:FnScope ["script","many","span","marks","k","size","spot"] ["script","many","span"] (Jk Vj):=by walk_at "c"
def Jck{f:Qj}{fd:Q4}(F:Fun K "_law_lumps" "_law_lumps" Vj f fd)(qf:mg "sorted"=none)(qp:mg "range"=none)(qa:Cal P w K mg base "_law_cell" 1 ["script","k"] (spE K C 2 JA)):FnOk P w K mg base CX0 2 f fd ["script","many","span"] (spE K C 3 Yk) :=
 okE F sc_law_lumps rfl fun _ _ _ _ _ _ hr hu=>⟨_,(Jc (UW (i:=3) sc_law_lumps.nd rfl (.inr rfl) Jdz)
  (Jc (Yo Gm rfl (WH rfl qp (Ja (pv 1) Jd)) (Jo (i:=4) sc_law_lumps.nd rfl (.inl rfl)) (Jc (psN 5 sc_law_lumps.nd (Jl (Jz (K:=K) rfl) Jf (Jl Y3 (Jj qa (hrM hr) rfl (Ja (pv 0) (Ja (Jl (Jz (K:=K) rfl) Jf (Jl Uw Jf (pv 4))) Jd))) (pv 2))))
  (Jc (psN 6 sc_law_lumps.nd (Jl Yb (Jl Y3 (Jj qa (hrM hr) rfl (Ja (pv 0) (Ja (Jl (Jz (K:=K) rfl) Jf (Jl Uw Jf (pv 4))) Jd))) (Jl (Jz (K:=K) rfl) (Jl Uw Jf (pv 2)) Jf)) (Jl Uw Jf (pv 2))))
  (Jg (Zm (U9 hr) (pv 3) (JG (Ja (pv 5) (Ja (pv 6) Jd))) (Jl (Jz (K:=K) rfl) (Jl (Jz (K:=K) rfl) (Jaf (U9 hr) (pv 3) (JG (Ja (pv 5) (Ja (pv 6) Jd))) Jf ⟨rfl,rfl,rfl,rfl⟩) Jf) (Jl Y3 (Jl Wg (Jj qa (hrM hr) rfl (Ja (pv 0) (Ja (Jl (Jz (K:=K) rfl) Jf (Jl Uw Jf (pv 4))) Jd))) (pv 2)) Jf)) rfl)))))
  (Jg (Jx (JV (N':=["size","spot","marks"]) (imp:=[none,none,some 3]) rfl (piK K (Jr (WT rfl) rfl qf Wv (Ja (JdB (pv 3)) Jd))) (JbC (own:=["size","spot"]) (fr:=[("marks",3)]) rfl rfl rfl ⟨rfl,trivial⟩ rfl ⟨⟨rfl,rfl,rfl⟩,trivial⟩) (fun _ _ _ _=>(Jt (K:=K) (n:=2) rfl rfl (Je (pgN 0 Jgc) (Je (pgN 1 Jgc) Ju)) rfl rfl)) (fun _ _ _ _=>JL) (fun _ _ _ _=>(JG (Ja (pv 0) (Ja (pv 1) (Ja (WG (K:=K) rfl (U9 hr) (pv 2) (JG (Ja (pv 0) (Ja (pv 1) Jd))) (fun _ _=>rfl)) Jd)))))))))),by walk_at "s"⟩
def sc_law:FnScope ["script","first","span","lumps","others","size","spot","number","way","due","one","two","seats"] ["script"] (Jk Wl):=by walk_at "c"
def JoJ{f:Qj}{fd:Q4}(F:Fun K "law" "law" Wl f fd)(qr:mg "isinstance"=none)(qk:mg "list"=none)(qg:mg "len"=none)(qS:Cal P w K mg base "ways" 9 ["one","two"] (spE K C 2 J8))(qG:Cal P w K mg base "led_by" 9 ["one","two","seats"] (spE K C 3 JT))(qB:Cal P w K mg base "_law_alone" 1 ["lumps","others","seats"] (spE K C 3 JY))(qO:Cal P w K mg base "row_of" 5 ["table"] (spE K C 1 JU))(qM:Cal P w K mg base "_law_can" 2 ["lumps","others"] (spE K C 2 Yu))(qu:Cal P w K mg base "_law_spoiled" 1 ["lumps","way","at"] (spE K C 3 J4))(qa:Cal P w K mg base "_law_cell" 1 ["script","k"] (spE K C 2 JA))(qC:Cal P w K mg base "_law_lumps" 2 ["script","many","span"] (spE K C 3 Yk)):FnOk P w K mg base CX0 10 f fd ["script"] (spE K C 1 JeB) :=
 okE F sc_law rfl fun _ _ _ _ _ _ hr hu=>⟨_,(Jc (psN 1 sc_law.nd (Jj qa (hrM hr) rfl (Ja (pv 0) (Ja Jf Jd))))
  (Jc (psN 2 sc_law.nd (pxK K (YA (Ja Jf (Ja Jf (Ja (Jl JoS Jf Jf) Jd)))) (Jl Y3 (Jl Vz (pv 1) Jf) Jf)))
  (Jc (psN 3 sc_law.nd (Jj qC (hrM hr) rfl (Ja (pv 0) (Ja (Jl (Jz (K:=K) rfl) Jf (Jl Y3 (pv 1) Jf)) (Ja (pv 2) Jd)))))
  (Jc (psN 4 sc_law.nd (YA Jd))
  (Jc (Yo Gm rfl (piK K (pv 3)) (Jt (K:=K) (n:=3) rfl rfl (Je (Jo (i:=5) sc_law.nd rfl (.inl rfl)) (Je (Jo (i:=6) sc_law.nd rfl (.inl rfl)) (Je (Jo (i:=7) sc_law.nd rfl (.inl rfl)) Ju))) rfl rfl) (Jg (JQ (Yn (K:=K) rfl QL Q8 Q9 J2 (pv 4) (Ja (JG (Ja (pv 5) (Ja (Jl (Jz (K:=K) rfl) (Jl (Jz (K:=K) rfl) (pv 6) (Jl Uw (pv 5) (Jl Y3 (Jl Vz (pv 1) Jf) Jf))) (Jl Y3 (Jl Vz (pv 1) Jf) Jf)) (Ja (pv 7) Jd)))) Jd)))))
  (Jc (psN 8 sc_law.nd (Jl Y3 (Jj qa (hrM hr) rfl (Ja (pv 0) (Ja Jf Jd))) Jf))
  (Jc (J1 (Jp (UV (K:=K) rfl hu) (pv 8) Jf (Js _)) (Jg (psN 4 sc_law.nd (YA Jd))) Jy)
  (Jc (J1 (Jp Jae (pv 8) Jf (Js _)) (Jg (psN 4 sc_law.nd (Jj qu (hrM hr) rfl (Ja (pv 4) (Ja (pv 8) (Ja (Jl Y3 (Jl Vz (Jj qa (hrM hr) rfl (Ja (pv 0) (Ja Jf Jd))) Jf) (Jr (YH (K:=K) rfl) rfl qg UP (Ja (pv 4) Jd))) Jd)))))) Jy)
  (Jc (psN 9 sc_law.nd (Jj qM (hrM hr) rfl (Ja (pv 3) (Ja (pv 4) Jd))))
  (Jc (psN 10 sc_law.nd (Jj qO (hrM hr) rfl (Ja (pv 3) Jd)))
  (Jc (psN 11 sc_law.nd (Jj qO (hrM hr) rfl (Ja (pv 4) Jd)))
  (Jc (psN 12 sc_law.nd (pxK K (YA (Ja J6 (Ja Jf (Ja Jf (Ja (Jl (Jz (K:=K) rfl) Jf (Jl Y3 (Jl Vz (pv 1) Jf) (pv 2))) Jd))))) (Jl Y3 (Jl Vz (pv 1) Jf) Jf)))
  (Jc (J1 (UX (K:=K) rfl (pv 9) (fun _=>rfl)) (Jc (J1 (Jp (VW (K:=K) rfl hu) (Jj qG (hrM hr) rfl (Ja (pv 10) (Ja (pv 11) (Ja (pv 12) Jd)))) (Jj qB (hrM hr) rfl (Ja (pv 3) (Ja (pv 4) (Ja (pv 12) Jd)))) (Js _)) (Jg (Jx Jbh)) Jy)
  (Jg (Jx (Jju (Jr (JaX (K:=K) rfl) rfl qr VH (Ja (Jj qS (hrM hr) rfl (Ja (pv 10) (Ja (pv 11) Jd))) (Ja (Jgg (v:=V.ty "list") rfl qk Vu rfl) Jd))) (Jjy (Jr (JaX (K:=K) rfl) rfl qr VH (Ja (Jj qS (hrM hr) rfl (Ja (pv 11) (Ja (pv 10) Jd))) (Ja (Jgg (v:=V.ty "list") rfl qk Vu rfl) Jd)))))))) Jy)
  (Jc (J1 (PW.pt (JjM (Jp UH (Jj qG (hrM hr) rfl (Ja (pv 10) (Ja (pv 11) (Ja (pv 12) Jd)))) J6 (Js _)) (Je2 (Jp UH (Jj qG (hrM hr) rfl (Ja (pv 11) (Ja (pv 10) (Ja (pv 12) Jd)))) J6 (Js _))))) (Jg (Jx Jbh)) Jy)
  (Jg (Jx (Jju (Jco Wh (Jj qS (hrM hr) rfl (Ja (pv 10) (Ja (pv 11) Jd))) J6 (Js _)) (Jjy (Jco Wh (Jj qS (hrM hr) rfl (Ja (pv 11) (Ja (pv 10) Jd))) J6 (Js _)))))))))))))))))))),by walk_at "s"⟩
def vl1{α:Type}{us:List α}(h:us.length=1):∃a,us=[a]:=match us,h with|[a],_=>⟨a,rfl⟩
def vl2{α:Type}{us:List α}(h:us.length=2):∃a b,us=[a,b]:=match us,h with|[a,b],_=>⟨a,b,rfl⟩
def vl3{α:Type}{us:List α}(h:us.length=3):∃a b c,us=[a,b,c]:=match us,h with|[a,b,c],_=>⟨a,b,c,rfl⟩
local macro_rules | `(tactic| walk_at "b")=>`(tactic| (intro _ _ _ _ _ _ us hl;first | (obtain⟨_,e⟩:=vl1 hl;subst e;rfl) | (obtain⟨_,_,e⟩:=vl2 hl;subst e;rfl) | (obtain⟨_,_,_,e⟩:=vl3 hl;subst e;rfl)))
def all_mk{l:PySem.W.OpenLaw}{K:QE}{h:Q1}{mg:Str->Option Qe}(X:K.In h)(G:h.Ns mainGlobals mg)(hfa:mg "law"=some (.ref fa))(aC:nsIn K mainGlobals "Row"=some (some (.ref C)))(a1:nsIn K mainGlobals "growths"=some (some (.ref f1)))(F1:Fun K "growths" "growths" WN f1 d1)(a2:nsIn K mainGlobals "check_stretches"=some (some (.ref f2)))(F2:Fun K "check_stretches" "check_stretches" YL f2 d2)(a3:findIn K (.ref C) "__init__"=some (some (.ref f3)))(i3:PySem.W.isFn K (.ref f3)=true)(F3:Fun K "__init__" "Row.__init__" VX f3 d3)(a4:nsIn K mainGlobals "closed_up"=some (some (.ref f4)))(F4:Fun K "closed_up" "closed_up" Vg f4 d4)(a5:nsIn K mainGlobals "by_layers"=some (some (.ref f5)))(F5:Fun K "by_layers" "by_layers" Vf f5 d5)(a6:nsIn K mainGlobals "gaps_of"=some (some (.ref f6)))(F6:Fun K "gaps_of" "gaps_of" WM f6 d6)(a7:nsIn K mainGlobals "closes_at"=some (some (.ref f7)))(F7:Fun K "closes_at" "closes_at" Vh f7 d7)(a8:nsIn K mainGlobals "thinned"=some (some (.ref f8)))(F8:Fun K "thinned" "thinned" WQ f8 d8)(a9:nsIn K mainGlobals "ball_at"=some (some (.ref f9)))(F9:Fun K "ball_at" "ball_at" WL f9 d9)(a10:nsIn K mainGlobals "owed_at"=some (some (.ref f10)))(F10:Fun K "owed_at" "owed_at" WP f10 d10)(a11:nsIn K mainGlobals "struck"=some (some (.ref f11)))(F11:Fun K "struck" "struck" Jas f11 d11)(a12:nsIn K mainGlobals "table_of"=some (some (.ref f12)))(F12:Fun K "table_of" "table_of" V1 f12 d12)(a13:nsIn K mainGlobals "lumps_apart"=some (some (.ref f13)))(F13:Fun K "lumps_apart" "lumps_apart" UB f13 d13)(a14:nsIn K mainGlobals "moves"=some (some (.ref f14)))(F14:Fun K "moves" "moves" Jcw f14 d14)(a15:nsIn K mainGlobals "ways"=some (some (.ref f15)))(F15:Fun K "ways" "ways" Je7 f15 d15)(a16:nsIn K mainGlobals "share_of"=some (some (.ref f16)))(F16:Fun K "share_of" "share_of" V0 f16 d16)(a17:nsIn K mainGlobals "check_seats"=some (some (.ref f17)))(F17:Fun K "check_seats" "check_seats" Uy f17 d17)(a18:nsIn K mainGlobals "led_by"=some (some (.ref f18)))(F18:Fun K "led_by" "led_by" Jap f18 d18)(a19:nsIn K mainGlobals "_law_alone"=some (some (.ref f19)))(F19:Fun K "_law_alone" "_law_alone" Vi f19 d19)(a20:nsIn K mainGlobals "thickened"=some (some (.ref f20)))(F20:Fun K "thickened" "thickened" Vl f20 d20)(a21:nsIn K mainGlobals "balls_below"=some (some (.ref f21)))(F21:Fun K "balls_below" "balls_below" Ux f21 d21)(a22:nsIn K mainGlobals "ended_at"=some (some (.ref f22)))(F22:Fun K "ended_at" "ended_at" VY f22 d22)(a23:nsIn K mainGlobals "put_in"=some (some (.ref f23)))(F23:Fun K "put_in" "put_in" Jaq f23 d23)(a24:nsIn K mainGlobals "check_table"=some (some (.ref f24)))(F24:Fun K "check_table" "check_table" Uz f24 d24)(a25:nsIn K mainGlobals "row_of"=some (some (.ref f25)))(F25:Fun K "row_of" "row_of" Jar f25 d25)(a26:nsIn K mainGlobals "_law_spots"=some (some (.ref f26)))(F26:Fun K "_law_spots" "_law_spots" Vk f26 d26)(a27:nsIn K mainGlobals "_law_can"=some (some (.ref f27)))(F27:Fun K "_law_can" "_law_can" WO f27 d27)(a28:nsIn K mainGlobals "_law_spoiled"=some (some (.ref f28)))(F28:Fun K "_law_spoiled" "_law_spoiled" UA f28 d28)(a29:nsIn K mainGlobals "_law_cell"=some (some (.ref f29)))(F29:Fun K "_law_cell" "_law_cell" VZ f29 d29)(a30:nsIn K mainGlobals "_law_lumps"=some (some (.ref f30)))(F30:Fun K "_law_lumps" "_law_lumps" Vj f30 d30)(a31:nsIn K mainGlobals "law"=some (some (.ref f31)))(l31:K.lookup f31=some ⟨oc31,od31,.func (fnOf "law" "law" (US Wl) (Y7 Wl) (Jk Wl) .none kV31 dc31 pm31 an31 cd31 ct31),sl31⟩)(c31:codeIn K cd31 "law"=true)(k31:keepIn K (.ref f31)=true)(pg:plainGet K C Str.empty=true)(hd:hasDictIn K C=true)(po:plainOver K C=true)(sa:findIn K (.ref C) "__setattr__"=some (some (.builtin "object.__setattr__")))(mk:makesIn K C=true)(kc:keepIn K (.ref C)=true)(nS:findIn K (.ref C) "stretches"=some none)(wj:nsIn K mainGlobals "tuple"=some none)(wm:nsIn K mainGlobals "len"=some none)(wn:nsIn K mainGlobals "sum"=some none)(wb:nsIn K mainGlobals "enumerate"=some none)(wo:nsIn K mainGlobals "zip"=some none)(wp:nsIn K mainGlobals "min"=some none)(wq:nsIn K mainGlobals "any"=some none)(wl:nsIn K mainGlobals "list"=some none)(wt:nsIn K mainGlobals "all"=some none)(wk:nsIn K mainGlobals "range"=some none)(wu:nsIn K mainGlobals "max"=some none)(wg:nsIn K mainGlobals "sorted"=some none)(wc:nsIn K mainGlobals "reversed"=some none)(wv:nsIn K mainGlobals "set"=some none)(q5:nsIn K mainGlobals "isinstance"=some none)(qU:nsIn K mainGlobals "MOST_STRETCHES"=some (some (.int 30 qT)))(q9:nsIn K mainGlobals "MOST_LUMPS"=some (some (.int 30 qZ))):∃fd:Q4,(∀(s:Qi) (v:Qe),BindsTo s fd ⟨[v],[]⟩ [("script",v)])/\∀base:Q1,K.In base->base.Ns mainGlobals mg->FnOk l.prog w K mg base CX0 10 fa fd ["script"] (Jgx K):=by
 have e:=hfa.symm.trans (mg_of X G a31);cases e
 have T:RowC K C:=⟨⟨pg,hd,po,sa⟩,nS⟩
 have ww:=mg_of X G aC
 have qY:=mg_none_of X G wj
 have qg:=mg_none_of X G wm
 have ql:=mg_none_of X G wn
 have qd:=mg_none_of X G wb
 have qD:=mg_none_of X G wo
 have qt:=mg_none_of X G wp
 have we:=mg_none_of X G wq
 have qk:=mg_none_of X G wl
 have wf:=mg_none_of X G wt
 have qp:=mg_none_of X G wk
 have qX:=mg_none_of X G wu
 have qf:=mg_none_of X G wg
 have qL:=mg_none_of X G wc
 have wa:=mg_none_of X G wv
 have qr:=mg_none_of X G q5
 have qb:GV mg "MOST_STRETCHES" (.int 30):=⟨_,mg_of X G qU,⟨_,rfl⟩⟩
 have qA:GV mg "MOST_LUMPS" (.int 30):=⟨_,mg_of X G q9,⟨_,rfl⟩⟩
 have F31:=JiV (st:=Wl) l31 c31 k31;refine⟨fnOf "law" "law" (US Wl) (Y7 Wl) (Jk Wl) .none kV31 dc31 pm31 an31 cd31 ct31,fun s v=>.of_eq rfl,fun base _ _=>?_⟩
 have Z:PB l.prog w base:=⟨⟩
 have qR:=JJ Z F1 (JeW (C:=C) F1 ) (mg_of X G a1) (by walk_at "b")
 have qj:=JJ Z F2 (VV F2 ) (mg_of X G a2) (by walk_at "b")
 have qy:CalM l.prog w K mg base "Row" C 2 ["self","stretches"] (Vn C K):=⟨f3,_,⟨mk,a3,i3,kc⟩,Jdu F3 qY qg qb qj T,ww,F3.binds (by walk_at "b")⟩
 have qE:=JJ Z F4 (Jcg (C:=C) F4 ql) (mg_of X G a4) (by walk_at "b")
 have qh:=JJ Z F5 (Jcf (C:=C) F5 qd T) (mg_of X G a5) (by walk_at "b")
 have qP:=JJ Z F6 (JeV (C:=C) F6 ql qD T) (mg_of X G a6) (by walk_at "b")
 have qi:=JJ Z F7 (Jch (C:=C) F7 qt qP T) (mg_of X G a7) (by walk_at "b")
 have qm:=JJ Z F8 (JeZ (C:=C) F8 qt qy qE qh qi T) (mg_of X G a8) (by walk_at "b")
 have qH:=JJ Z F9 (JeU (C:=C) F9 we T) (mg_of X G a9) (by walk_at "b")
 have qQ:=JJ Z F10 (JeY (C:=C) F10 qH) (mg_of X G a10) (by walk_at "b")
 have qV:=JJ Z F11 (JhI (C:=C) F11 qd ql qQ qm T) (mg_of X G a11) (by walk_at "b")
 have qJ:=JJ Z F12 (Jdy (C:=C) F12 qm qV qi T) (mg_of X G a12) (by walk_at "b")
 have qo:=JJ Z F13 (Jad (C:=C) F13 qJ) (mg_of X G a13) (by walk_at "b")
 have qI:=JJ Z F14 (Jjt (C:=C) F14 qk qD qo) (mg_of X G a14) (by walk_at "b")
 have qS:=JJ Z F15 (JlQ (C:=C) F15 qD qR qI) (mg_of X G a15) (by walk_at "b")
 have qz:=JJ Z F16 (Jdx (C:=C) F16 qt) (mg_of X G a16) (by walk_at "b")
 have qv:=JJ Z F17 (Jaa (C:=C) F17 ) (mg_of X G a17) (by walk_at "b")
 have qG:=JJ Z F18 (JhF (C:=C) F18 wf qz qI qv) (mg_of X G a18) (by walk_at "b")
 have qB:=JJ Z F19 (Jcj (C:=C) F19 qg qp qt) (mg_of X G a19) (by walk_at "b")
 have qF:=JJ Z F20 (Jcm (C:=C) F20 qy qh) (mg_of X G a20) (by walk_at "b")
 have qw:=JJ Z F21 (Z9 (C:=C) F21 ql qX qt T) (mg_of X G a21) (by walk_at "b")
 have qK:=JJ Z F22 (Jdv (C:=C) F22 qd qw) (mg_of X G a22) (by walk_at "b")
 have qW:=JJ Z F23 (JhG (C:=C) F23 qf qg ql qb qy qK T) (mg_of X G a23) (by walk_at "b")
 have qx:=JJ Z F24 (Jab (C:=C) F24 ql qA) (mg_of X G a24) (by walk_at "b")
 have qO:=JJ Z F25 (JhH (C:=C) F25 qL qk qD qF qW qy qx) (mg_of X G a25) (by walk_at "b")
 have qq:=JJ Z F26 (Jcl (C:=C) F26 ) (mg_of X G a26) (by walk_at "b")
 have qM:=JJ Z F27 (JeX (C:=C) F27 qg wa qp qf qq) (mg_of X G a27) (by walk_at "b")
 have qu:=JJ Z F28 (Jac (C:=C) F28 qf qX qk) (mg_of X G a28) (by walk_at "b")
 have qa:=JJ Z F29 (Jdw (C:=C) F29 qg) (mg_of X G a29) (by walk_at "b")
 have qC:=JJ Z F30 (Jck (C:=C) F30 qf qp qa) (mg_of X G a30) (by walk_at "b");exact Jls (JoJ (C:=C) F31 qr qk qg qS qG qB qO qM qu qa qC) law_true
def walk{l:PySem.W.OpenLaw}{XP:(Str->Option Qe)->Q1->Prop}{YP:QT->Q1->Prop}{d:DefRec}{K:Params->QE}(hn:l.most=some 63)(hdf:d.params.defaults=[])(hY:∀(w:QT) (h:Q1),YP w h->(K w.params).In h)(F:∀(w:QT) (mg:Str->Option Qe) (fa:Qj) (h:Q1),(K w.params).In h->h.Ns mainGlobals mg->mg d.name=some (.ref fa) ->
  ∃fd:Q4,(∀(s:Qi) (u:Qe),BindsTo s fd ⟨[u],[]⟩ [("script",u)])/\∀base:Q1,(K w.params).In base->base.Ns mainGlobals mg->FnOk l.prog w (K w.params) mg base CX0 10 fa fd ["script"] (Jgx (K w.params))):
 PySem.W.WalkO q loose XP YP l.row.toRowW d [] (fun f vs=>PySem.call f vs) :=
 L2.JmO (n:=63) (k:=10) (x:="script") (CX:=fun _=>CX0) (sp:=fun w=>Jgx (K w.params)) hn (by decide) hdf ⟨rfl,by decide,by decide⟩ hY F (fun _ _ a ns hl _ hS=>⟨a,ns,rfl,hS,hl,fun _=>rfl⟩) fun _ _ _ _ _ z=>z
end LK
end
namespace PySem.W.Fast
theorem tw4932598076334504126:True:=⟨⟩
theorem tw10552953007623383610:True:=⟨⟩
theorem tw13609836034738521561:True:=⟨⟩
theorem tw7429014892332502339:True:=⟨⟩
theorem tw17127050457437056177:True:=⟨⟩
theorem tw6827526001262377516:True:=⟨⟩
theorem tw4275612605566810122:True:=⟨⟩
theorem tw9320127398570707310:True:=⟨⟩
theorem tw6962842301540923816:True:=⟨⟩
theorem tw876515950567941780:True:=⟨⟩
theorem tw15589744559428979443:True:=⟨⟩
theorem tw10127746020685190379:True:=⟨⟩
theorem tw4745920159017078810:True:=⟨⟩
theorem tw11714255935160588418:True:=⟨⟩
theorem tw13197679297144259310:True:=⟨⟩
theorem tw11519878697186513832:True:=⟨⟩
theorem tw3248437832606859204:True:=⟨⟩
theorem tw104282466987667254:True:=⟨⟩
theorem tw1301596513658908083:True:=⟨⟩
theorem tw237985191202129710:True:=⟨⟩
theorem tw1621888350864174989:True:=⟨⟩
theorem tw16921325402391185633:True:=⟨⟩
theorem tw7106904447237833068:True:=⟨⟩
theorem tw16099730083642728292:True:=⟨⟩
theorem tw185926700213345798:True:=⟨⟩
theorem tw17958920724509567122:True:=⟨⟩
theorem tw6928154641962002089:True:=⟨⟩
theorem tw8054592845022864296:True:=⟨⟩
theorem tw15408071290840906604:True:=⟨⟩
theorem tw13359545164022226232:True:=⟨⟩
theorem tw17597194453538791009:True:=⟨⟩
theorem tw11585939835035989123:True:=⟨⟩
theorem tw6294538621260353929:True:=⟨⟩
theorem tw5311419794613949986:True:=⟨⟩
theorem tw2316637429039322501:True:=⟨⟩
theorem tw5033274036300262188:True:=⟨⟩
theorem tw7812285411901856581:True:=⟨⟩
theorem tw13084264538150214868:True:=⟨⟩
theorem tw14560530250195230539:True:=⟨⟩
theorem tw6890141024207748389:True:=⟨⟩
theorem tw6998826599605515498:True:=⟨⟩
theorem tw17890507562922157362:True:=⟨⟩
theorem tw5772030239837318146:True:=⟨⟩
theorem tw7627144519371482624:True:=⟨⟩
theorem tw6477756778839347023:True:=⟨⟩
theorem tw14286160132093300776:True:=⟨⟩
theorem tw12937518027890485678:True:=⟨⟩
theorem tw3746104532757010162:True:=⟨⟩
theorem tw6242077433505041241:True:=⟨⟩
theorem tw4088179759381664721:True:=⟨⟩
theorem tw17919851078600694214:True:=⟨⟩
theorem tw2096824471837160786:True:=⟨⟩
theorem tw16743115508519949345:True:=⟨⟩
theorem tw16410583923371153599:True:=⟨⟩
theorem tw6600906788802645558:True:=⟨⟩
theorem tw10583946155388381507:True:=⟨⟩
theorem tw12938844942332346667:True:=⟨⟩
theorem tw10258334682541696640:True:=⟨⟩
theorem tw11413782227743156671:True:=⟨⟩
theorem tw1028400736574114427:True:=⟨⟩
theorem tw12437095593843278571:True:=⟨⟩
theorem tw4846776693778729206:True:=⟨⟩
theorem tw7486339132356184963:True:=⟨⟩
theorem tw9761752862320412457:True:=⟨⟩
theorem tw4735508356071350196:True:=⟨⟩
theorem tw6708318338381339365:True:=⟨⟩
theorem tw15013236865806665986:True:=⟨⟩
theorem tw8188866561853415763:True:=⟨⟩
theorem tw16482477713654422524:True:=⟨⟩
theorem tw5551714959900254183:True:=⟨⟩
theorem tw6020590006190281829:True:=⟨⟩
theorem tw13998012092750374771:True:=⟨⟩
theorem tw15559147165310291770:True:=⟨⟩
theorem tw8381052169367012226:True:=⟨⟩
theorem tw18036700485763252901:True:=⟨⟩
theorem tw11335942177918852788:True:=⟨⟩
theorem tw12858031851816035697:True:=⟨⟩
theorem tw3749042157496158925:True:=⟨⟩
theorem tw6010600178709443689:True:=⟨⟩
theorem tw17429640417441655117:True:=⟨⟩
theorem tw7541402006436439404:True:=⟨⟩
theorem tw15943629200612507548:True:=⟨⟩
theorem tw15153790916788631780:True:=⟨⟩
theorem tw5944283686703460190:True:=⟨⟩
theorem tw13610850620151230293:True:=⟨⟩
theorem tw16709527015289178268:True:=⟨⟩
theorem tw18159527825058667696:True:=⟨⟩
theorem tw7823090652599598573:True:=⟨⟩
theorem tw18132801211925434041:True:=⟨⟩
theorem tw15874685339828017979:True:=⟨⟩
theorem tw13510110702870691294:True:=⟨⟩
theorem tw5867419257553007832:True:=⟨⟩
theorem tw3261312631452567462:True:=⟨⟩
theorem tw7040809157088367594:True:=⟨⟩
theorem tw439193851287724122:True:=⟨⟩
theorem tw14098139603598138878:True:=⟨⟩
theorem tw7285447367027670126:True:=⟨⟩
theorem tw5353048701883349240:True:=⟨⟩
theorem tw7423559811091761931:True:=⟨⟩
theorem tw18143110872509588389:True:=⟨⟩
theorem tw11203489204502885266:True:=⟨⟩
theorem tw12969044845816362469:True:=⟨⟩
theorem tw3323219230844106834:True:=⟨⟩
theorem tw5349895745944259168:True:=⟨⟩
theorem tw5019216559438655271:True:=⟨⟩
theorem tw1495393000390289335:True:=⟨⟩
theorem tw4118305722519692686:True:=⟨⟩
theorem tw16351477406616398579:True:=⟨⟩
theorem tw14180552498031831971:True:=⟨⟩
theorem tw11517753512690680402:True:=⟨⟩
theorem tw3728364824382776399:True:=⟨⟩
theorem tw7342882949371839125:True:=⟨⟩
theorem tw5482125889537047248:True:=⟨⟩
theorem tw17573069829628435097:True:=⟨⟩
theorem tw2314288897678413279:True:=⟨⟩
theorem tw12580986828523864860:True:=⟨⟩
theorem tw8712239944816626943:True:=⟨⟩
theorem tw1393123488558936755:True:=⟨⟩
theorem tw1111909682867956147:True:=⟨⟩
theorem tw8213394284545298335:True:=⟨⟩
theorem tw10749026207024545000:True:=⟨⟩
theorem tw4841764365589709270:True:=⟨⟩
theorem tw13689884023887489143:True:=⟨⟩
theorem tw9605738900372296033:True:=⟨⟩
theorem tw6964142351939164877:True:=⟨⟩
theorem tw11162186683387260091:True:=⟨⟩
theorem tw6492133219765914008:True:=⟨⟩
theorem tw11288501688307406922:True:=⟨⟩
theorem tw17520154306179198602:True:=⟨⟩
theorem tw14937966496293183104:True:=⟨⟩
theorem tw16093200508980714630:True:=⟨⟩
theorem tw10780646838479658304:True:=⟨⟩
theorem tw8842591338313119730:True:=⟨⟩
theorem tw14976017072787688247:True:=⟨⟩
theorem tw16713089871138134944:True:=⟨⟩
theorem tw2522813474167585536:True:=⟨⟩
theorem tw11758994796919537026:True:=⟨⟩
theorem tw17738571898222776793:True:=⟨⟩
theorem tw7358703640892211156:True:=⟨⟩
theorem tw13736188390398243716:True:=⟨⟩
theorem tw5420160389120210765:True:=⟨⟩
theorem tw10664853952380854913:True:=⟨⟩
theorem tw9286398778502201581:True:=⟨⟩
theorem tw1077809769182348157:True:=⟨⟩
theorem tw18365295423015098048:True:=⟨⟩
theorem tw645587546693943596:True:=⟨⟩
theorem tw16532034283943009998:True:=⟨⟩
theorem tw5751994839579264890:True:=⟨⟩
theorem tw17876773035106285189:True:=⟨⟩
theorem tw790674755177950785:True:=⟨⟩
theorem tw2972416776410979378:True:=⟨⟩
theorem tw1700712056212316360:True:=⟨⟩
theorem tw9949466485124084289:True:=⟨⟩
theorem tw6860967887735172529:True:=⟨⟩
theorem tw15935656469265217643:True:=⟨⟩
end PySem.W.Fast
open PySem PySem.W PyProof.Rows
set_option maxRecDepth 100000 in
set_option maxHeartbeats 0 in
theorem PySem.Challenge.cw_lumprow_k63_no_ways_holds : PySem.Challenge.rw_lumprow_k63_no_ways.Holds := by
 w_on; o_law; k_head; (case hw => w_witness2)
 k_fill
 refine LK.walk (l := PySem.Challenge.rw_lumprow_k63_no_ways) rfl rfl (fun w h Y => PySem.W.kIn_of Y) ?F
 case F =>
  intro w mg fa h KX G hmg; apply LK.all_mk KX G hmg; all_goals first | exact L2.JiV (by k_is) (by k_is) (by k_is) | k_is
