import PyProof.Rows.All
import Wide.All
import OpenK.AllK
import Wide.FinOn
import Lean
import PyProof.EqAt
import PyProof.EqKinds
import PyProof.TupleCall
import PySem.Challenge.RW_lumprow_k53_delays
open Array renaming length_toList→QM,getElem?_toList→GW,getD_eq_getD_getElem?→GX,getElem?_eq_getElem→Kl,getD→Mw,getElem_toList→RK
open Bool renaming false_ne_true→QD,and_eq_true→QX,false_or→Ko,eq_iff_iff→Kt,false_eq_true→KC,or_eq_true→LA,or_assoc→LZ,true_or→Ra,and_eq_false_iff→Ru,or_false→RP
open False renaming elim→Gw
open Int renaming le_refl→QK,toNat_natCast→G4,mul_add→K4,zero_add→K6,natCast_add→La,min_eq_right→LX,min_le_right→LY,emod_nonneg→L4,min_eq_left→L9,le_total→Rg,le_max_left→Ro,add_assoc→RS,max_le→RX,add_zero→R8
open List renaming mem_cons_of_mem→Qf,map_cons→Qg,mem_cons_self→Qh,mem_cons→Qk,getElem?_eq_some_iff→Qm,getElem?_map→Qo,length_map→Qq,size_toArray→Qu,length_cons→Qv,sum_cons→Qy,length_append→Qz,replicate→QA,getElem?_append_right→QE,getElem?_eq_getElem→QG,getElem?_mapIdx→QH,getElem?_append_left→QI,mem_of_getElem?→QJ,mem_map→QN,map_map→QO,pairwise_cons→QP,range→QS,eq_nil_of_length_eq_zero→QU,getElem?_set→QW,map_append→Q0,toArray→Q3,nil_append→Q4,nodup_cons→Q6,mem_nil_iff→Q9,filter_cons_of_neg→Ga,foldl_cons→Gd,getD_eq_getElem?_getD→Gf,append_assoc→Gh,length_singleton→Gi,ext_getElem?→Go,count_cons→Gp,cons_append→Gu,mem_iff_getElem→Gv,mem_append_right→Gz,length_replicate→GB,map_congr_left→GD,mem_append→GF,append_nil→GG,filter_cons_of_pos→GI,pairwise_iff_getElem→GK,mem_singleton→GN,any_cons→GP,not_mem_nil→GQ,replicate_succ→GU,getElem?_eq_none→G7,filter_append→Kb,pairwise_append→Kc,filter_eq_nil_iff→Kg,flatMap_cons→Kh,filterMap_cons→Ki,length_zip→Kk,any_eq_true→Km,flatten_cons→Kr,getElem?_cons_succ→Ks,of_mem_zip→Ku,length_take→Kx,mem_filter→KF,reverse_cons→KJ,length_range→KM,zip→KW,map_nil→K5,map_replicate→K8,find?_cons→K9,mem_iff_getElem?→Ld,length_filter_le→Le,nodup_append→Lg,pairwise_map→Lh,lookup→Li,getElem?_zipIdx→Ll,all_eq_true→Lo,zipIdx_cons→Lp,drop_eq_getElem_cons→Lr,eq_of_mem_replicate→Ly,length_nil→Lz,count_eq_zero→LD,count_pos_iff→LF,mem_replicate→LG,eraseIdx_cons_succ→LI,getElem?_cons_zero→LM,count_append→LS,mem_append_left→L0,length_reverse→Ma,length_eraseIdx_of_lt→Mx,nodup_nil→My,getElem?_eq_none_iff→MC,snd_lt_of_mem_zipIdx→ME,getElem?_replicate→MR,length_drop→MT,getElem_mem→MW,pairwise_singleton→M0,ext_getElem→M3,mapIdx_cons→M4,pairwise_replicate→M5,mem_flatMap→M6,getElem?_set_self→M7,pairwise_lt_range→Rf,sum_append→Rh,zip_append→Ri,forIn_cons→Rj,filter_map→Rn,getElem?_reverse→Rp,dropLast_eq_take→Rq,getElem?_zipWith→Rr,min?_eq_some_iff→Rs,mem_range→Rx,getElem?_set_ne→Ry,length→Rz,length_dropLast→RC,forIn_nil→RF,getElem_toArray→RJ,reduceReplicate→RM,count_replicate→RN
open List.Perm renaming cons_inv→RW
open Nat renaming le_refl→Qr,ne_of_lt→QB,lt_of_lt_of_le→QZ,le_trans→Gb,lt_succ_of_lt→Gn,zero_le→GA,lt_succ_self→GH,lt_irrefl→GO,le_of_lt→GZ,ne_of_gt→Kn,lt_or_ge→KL,ble_eq→Lk,le_of_eq→Ln,not_lt→LC,le_succ→LH,le_succ_of_le→LQ,lt_trans→Md,min_self→Mg,sub_self→Ml,zero_add→Mm,lt_of_le_of_lt→Mt,lt_trichotomy→MI,ble→R4
open Ne renaming symm→Q2
open Option renaming bind_some→QV,map_eq_some_iff→GL,bind_assoc→G6,map_map→Kf,map_some→KH,isSome_iff_exists→Lv,getD_none→MU
open Option.some renaming inj→QT
open Prod renaming ext→Lw
open PyProof.Rows renaming slot_tuple_getitem→Gy,callWith_type1→Kw,entry_list_sort→Rk,slot_list_sort→RI
open PyProof.Rows.F renaming plain_set_update_loop→LL,entry_set_update_loop→MZ
open PyProof.Rows.IntsAre renaming length→Mv
open PySem renaming wpAny_bind→Qa,Value→Qc,Addr→Qd,Shared→Qe,wpAny_pure→Qj,sizeLine→Qt,Program→Qw,Around→QC,World→QF,Heap→QL,FuncData→QR,Expr→Q7,wpAny_newObj_type→Gc,wpAny_callSpecial?_slot→Gg,wpAny_call_entry→Gm,wpAny_field→Gs,wpAny_setField_rec→Gx,wpAny_seqItems→GY,wpAny_setState_of→G5,wpAny_holding→G8,codeAny_builtin→G9,wpAny_mono→Ka,Stmt→Kj,plainId_quiet→Kp,wpAny_truthy_bool→Kq,mem_of_lookup→Kv,wpAny_Call_Name_kw→Ky,wpAny_rule→Kz,wpAny_setField→KB,wpAny_passesOwn→KG,codeAny_mono→KI,wpAny_Call_method0_late→KS,wpAny_askSetting→K2,wpAny_letGo→K3,wpAny_attempt→Lb,wpAny_newFunctionEnv_cells→Lj,evalArgs_none→Ls,Scope→Lu,wpAny_updateSeq→LB,wpAny_pyIter_list→LN,wpAny_tryCatch→LP,wpAny_isInstance→LW,wpAny_updateSeq_pair→L1,wpAny_execs_nil→L3,wpAny_loadPart'→L8,wpAny_setEntries_of→Mb,wpAny_typeOf→Mc,Arguments→Mn,wpAny_pyIter_tuple→Mp,wpAny_newTuple→Mu,Keyword→MG,wpAny_onRaise→MM,wpAny_newList→MO,Result→M8,wpAny_ite_split→Rl,wpAny_of_eq→RE,isSubtype_stop→RG,wpAny_runValue→RH,isSubtype_type→RL,Within→RY
open PySem.Around renaming under_plainId→GJ,frames_deeper→RA,under→R0
open PySem.Builtin.Builtins renaming bindParams→Mf
open PySem.Builtin.List renaming listTooLong→KO,listLengthHint→Mi,listExtendWith→Mj,listSameRef→MQ
open PySem.Builtin.Slice renaming slicePlaces→KE,sliceAdjust→Lq,sliceApplied→Mr
open PySem.Builtin.SmallTypes renaming ownedTupleIsFree→Gk,nextOf→G1,ownedTupleHandOut→G2
open PySem.Builtin.Tuple renaming tupleExact→KN,tupleItemsOf→Ms
open PySem.Calls renaming callWith_builtin→Ke,Name_function_global→Mo,spliced_cons→Mq,call_function_entry→MB,evalArgs_plain→RB
open PySem.Code renaming isFrame→R1
open PySem.F renaming plainAttrs_list→QY,slot_list_append→GR,type_list_append→GS,slot_tuple_iterator_next→KA,slot_list_extend→KQ,type_list_extend→KR,plainAttrs_dict→KU,plain_min_loop→KY,slot_dict_items→KZ,plain_list_iadd→K0,called_set→K7,slot_enumerate_next→Lc,slot_dict_get→LU,args_tuple_iterator_next_1→L6,slot_zip_next→L7,entry_tuple_iterator_next→Me,plain_proto_collect→Mh,args_dict_items_1→MA,plain_extend_loop→MD,args_tuple_add_2→ML,entry_dict_items→MN,entry_tuple_add→MS,args_dict_get_3→MV,args_enumerate_next_1→MX,type_dict_items→MY,slot_tuple_add→M9,entry_dict_get→Rb,slot_dict_keys→Re
open PySem.Heap renaming get?_push_of_some→Qi,get?_push_size→Qn,lt_size→Qp,SameBut→QQ,get?_update_other→Q8,size_push→Ge,get?_update_self→GC,ExtBut→LJ,get?_push_ne→MH
open PySem.Heap.SameBut renaming update→Q1
open PySem.Obj renaming mapSeq→Gq,data_mapFields→GM,isFreed_of_fields→KD,cls_mapFields→LO,mapFields→MP
open PySem.Paired renaming length→MK
open PySem.PassesOwn renaming never→Gj
open PySem.PyData renaming canLayAll0→Lf,eqvAll→Lx,eqv→LV,depthAll→L5,depth→Rc
open PySem.SetTable renaming below→Q5,grown→K1,laid→RQ,put→R6
open PySem.SetTable.below renaming go→R5
open PySem.SetTable.probe renaming go→MJ
open PySem.Shared renaming heap→R9
open PySem.Str renaming ofString→Gr
open PySem.Value renaming isInt_shape→MF,isInt→Rv
open PySem.W renaming Frag→Qx,codeHd_of_K→RO,kitx_tuple→RT,callWith_K→RU,codeRec_of→RV,kitx_dict→RZ
open PySem.W.KasT renaming kasWp→Mz,kasWp_bind→Rm
open PySem.pickOrder renaming go→R7
open Sum.inl renaming inj→Rw
set_option Elab.async false
set_option linter.all false
set_option maxRecDepth 100000
set_option maxHeartbeats 4000000
open PySem.W (instObj methodObj Frag lookIn plainGet hasDictIn findIn plainOver takerIn makesIn emptyDict specialIn isFn keepIn takesIn mroIn kitOne kia_one kitx_list cellsFrom_some fnOf codeIn nsIn codeHdIn KdlKeysView kitAny kla_obj kla_fn mg_of mg_none_of)
noncomputable section
namespace L2
open PySem PySem.Spec PyProof.Rows

noncomputable abbrev Key:=Sum Int Str
noncomputable def Wl:Key->Qc->Bool
 | .inl k,v=>Rv k v
 | .inr x,v=>Value.isStrOf x v
noncomputable def JqM(w:QF):Key->Int
 | .inl k=>hashInt k
 | .inr x=>hashStr w x
theorem JF:∀{k:Key} {v:Qc},Wl k v=true->(∃i t,k=Sum.inl i/\v=Value.int i t)\/(∃x t,k=Sum.inr x/\v=Value.str x t)
 | .inl i,v,h=>by obtain⟨t,e⟩:=MF (k:=i) (v:=v) h;exact .inl ⟨i,t,rfl,e⟩
 | .inr x,v,h=>by obtain⟨t,e⟩:=Value.isStrOf_shape (x:=x) (v:=v) h;exact .inr ⟨x,t,rfl,e⟩
theorem Jgq(i:Int)(t:Tok):Wl (.inl i) (.int i t)=true:=by simp[Wl,Rv]
theorem Jgr(x:Str)(t:Tok):Wl (.inr x) (.str x t)=true:=by simp[Wl,Value.isStrOf]
theorem Jm8(a b:Int):decide ((Sum.inl a:Key)=Sum.inl b)=(a == b):=by
 by_cases e:a=b
 ·subst e;simp
 ·have h:¬(Sum.inl a:Key)=Sum.inl b:=fun q=>e (Rw q)
  rw[decide_eq_false h];exact(beq_eq_false_iff_ne.mpr e).symm
theorem Jnb(a b:Str):decide ((Sum.inr a:Key)=Sum.inr b)=decide (a=b):=by
 by_cases e:a=b
 ·subst e;simp
 ·have h:¬(Sum.inr a:Key)=Sum.inr b:=fun q=>e (Sum.inr.inj q)
  rw[decide_eq_false h,decide_eq_false e]
theorem Jm9(a:Int)(b:Str):decide ((Sum.inl a:Key)=Sum.inr b)=false:=decide_eq_false (fun q=>nomatch q)
theorem Jna(a:Str)(b:Int):decide ((Sum.inr a:Key)=Sum.inl b)=false:=decide_eq_false (fun q=>nomatch q)

noncomputable def Jv(prog:Qw)(w:QF):PySem.KeyKind prog w Key where
 is:=Wl
 hash:=JqM w
 inj:=fun v a b ha hb=>by
  rcases JF ha with ⟨i,t,rfl,rfl⟩|⟨x,t,rfl,rfl⟩
  ·rcases JF hb with ⟨j,u,rfl,e⟩|⟨y,u,rfl,e⟩
   ·injection e with e1 _;rw[e1]
   ·exact nomatch e
  ·rcases JF hb with ⟨j,u,rfl,e⟩|⟨y,u,rfl,e⟩
   ·exact nomatch e
   ·injection e with e1 _;rw[e1]
 byValue:=fun k v h=>by rcases JF h with ⟨i,t,rfl,rfl⟩|⟨x,t,rfl,rfl⟩ <;> rfl
 pyHash:=fun hv h=>by
  rcases JF hv with ⟨i,t,rfl,rfl⟩|⟨x,t,rfl,rfl⟩
  ·exact wpAny_pyHash_int h
  ·exact wpAny_pyHash_str h
 eqBool:=fun hu hv h=>by
  rcases JF hu with ⟨i,t,rfl,rfl⟩|⟨x,t,rfl,rfl⟩
  ·rcases JF hv with ⟨j,u,rfl,rfl⟩|⟨y,u,rfl,rfl⟩
   ·rw[Jm8] at h;exact wpAny_eqBool_int h
   ·rw[Jm9] at h;exact SeqAt.EqAt.int_str i t y u _ _ _ _ h
  ·rcases JF hv with ⟨j,u,rfl,rfl⟩|⟨y,u,rfl,rfl⟩
   ·rw[Jna] at h;exact SeqAt.EqAt.str_int x t j u _ _ _ _ h
   ·rw[Jnb] at h;exact wpAny_eqBool_str h
 «strs»:=fun k x t v h=>by
  rcases JF h with ⟨i,u,rfl,e⟩|⟨y,u,rfl,e⟩
  ·exact nomatch e
  ·injection e with e1 _
   subst e1;cases v <;> rfl

theorem JcD(prog:Qw)(w:QF)(i:Int)(t:Tok):(Jv prog w).is (.inl i) (.int i t)=true:=Jgq i t
theorem JcE(prog:Qw)(w:QF)(x:Str)(t:Tok):(Jv prog w).is (.inr x) (.str x t)=true:=Jgr x t
end L2

namespace L2
open PySem PySem.Spec PyProof.Rows

inductive V where
 | non|bl (b:Bool)|int (i:Int)|str (x:Str)|byt (b:Array UInt8)|flt (b:UInt64)|ref (a:Qd)|ty (n:String)
 deriving DecidableEq

noncomputable def RelV:V->Qc->Prop
 | .non,u=>u=Value.none
 | .bl b,u=>u=Value.bool b
 | .int i,u=>∃t,u=Value.int i t
 | .str x,u=>∃t,u=Value.str x t
 | .byt b,u=>∃t,u=Value.bytes b t
 | .flt b,u=>∃t,u=Value.float b t
 | .ref a,u=>u=Value.ref a
 | .ty n,u=>u=Value.type n

noncomputable abbrev Vals:List V->List Qc->Prop:=Paired RelV
theorem Vals.length{xs:List V}{us:List Qc}(r:Vals xs us):xs.length=us.length:=MK r
theorem Vals.get:∀{xs:List V} {us:List Qc} {i:Nat} {x:V},Vals xs us->xs[i]?=some x->∃u,us[i]?=some u/\RelV x u
 | _,_,_,_,.nil,e=>by simp at e
 | _,_,0,_,.cons r _,e=>by simp at e;subst e;exact⟨_,rfl,r⟩
 | _,_,i+1,x,.cons _ t,e=>by obtain⟨u,h1,h2⟩:=Vals.get (i:=i) (x:=x) t (by simpa using e);exact⟨u,by simpa using h1,h2⟩
theorem Vals.set{x:V}{u:Qc}(r:RelV x u):∀{xs:List V} {us:List Qc} (i:Nat),Vals xs us->Vals (xs.set i x) (us.set i u)
 | _,_,_,.nil=>.nil
 | _,_,0,.cons _ t=>.cons r t
 | _,_,i+1,.cons q t=>.cons q (Vals.set r i t)
theorem Vals.append:∀{xs ys:List V} {us ws:List Qc},Vals xs us->Vals ys ws->Vals (xs++ys) (us++ws)
 | _,_,_,_,.nil,s=>s
 | _,_,_,_,.cons r t,s=>.cons r (Vals.append t s)
theorem Vals.take:∀{xs:List V} {us:List Qc} (n:Nat),Vals xs us->Vals (xs.take n) (us.take n)
 | _,_,0,_=>.nil
 | _,_,_+1,.nil=>.nil
 | _,_,n+1,.cons r t=>.cons r (Vals.take n t)
theorem Vals.drop:∀{xs:List V} {us:List Qc} (n:Nat),Vals xs us->Vals (xs.drop n) (us.drop n)
 | _,_,0,r=>r
 | _,_,_+1,.nil=>.nil
 | _,_,n+1,.cons _ t=>Vals.drop n t
noncomputable def RelO:Option V->Option Qc->Prop
 | some v,some u=>RelV v u
 | none,none=>True
 | _,_=>False
noncomputable def KV{κ:Type}:List (κ×V)->List (κ×Qc)->Prop:=Paired fun(p:κ×V) (q:κ×Qc)=>p.1=q.1/\RelV p.2 q.2

noncomputable def kV:Key->V
 | .inl i=>.int i
 | .inr x=>.str x

inductive HO where
 | lst (xs:List V)
 | tup (xs:List V)
 | dK (kvs:List (Key×V))|dT (kvs:List (List Key×V))
 | set (S:Int->Bool) (n:Nat)
 | ins (C dx:Qd) (fs:List (Str×V))
 | own (x:Qd)
 | xd (fs:List (Str×V))
 | met (f x:Qd)
 | rng (lo hi:Int)
 | frz (o:Obj) (u:HO)
 | tbl (ps:Array Qc) (l c:Nat) (q:Str)
 | ext (φ:QL->Prop)

noncomputable abbrev Hp:=Qd->Option HO
noncomputable def upd(H:Hp)(a:Qd)(o:HO):Hp:=fun b=>if b=a then some o else H b
theorem Jk{H:Hp}{a:Qd}{o:HO}:upd H a o a=some o:=by unfold upd;rw[if_pos rfl]
theorem Je{H:Hp}{a b:Qd}{o:HO}(h:b≠a):upd H a o b=H b:=by unfold upd;rw[if_neg h]
theorem JaF{H:Hp}{a b:Qd}{o u:HO}(h:H a=some o)(h':H b=some u)(d:o≠u):a≠b:=by intro e;subst e;rw[h] at h';exact d (QT h')
theorem Jo{H:Hp}{a b:Qd}{o:HO}(h:H a=some o)(h':H b=none):a≠b:=by intro e;subst e;rw[h] at h';cases h'

section
variable(P:Qw)(w:QF)
noncomputable def ObjOk(H:Hp)(h:QL)(a:Qd):HO->Prop
 | .lst xs=>xs.length<=Qt/\∃(its:List Qc) (n:Nat),Vals xs its/\h.get? a=some { cls:=.type "list",data:=.seq its.toArray n }
 | .tup xs=>xs.length<=Qt/\∃its:List Qc,Vals xs its/\IsTup h a its.toArray
 | .dK kvs=>kvs.length<=Qt/\(a == sysModules)=false/\∃vs,KV kvs vs/\h.DictOf (Jv P w) a vs
 | .dT kvs=>kvs.length<=Qt/\(a == sysModules)=false/\∃xs:List (List Key×Qd×Qc),
  Paired (fun(p:List Key×V) (q:List Key×Qd×Qc)=>p.1=q.1/\H q.2.1=some (.tup (p.1.map kV))/\RelV p.2 q.2.2) kvs xs ∧
  ∃o es ep,h.get? a=some o/\o.ExactDict/\o.data=.dict es ep/\es.toList=xs.map (entryOfKey (tupleKind (Jv P w)))/\(xs.map (·.1)).Nodup
 | .set S n=>h.SetOf (intKind P w) a S n
 | .ins C dx fs=>H dx=some (.own a)/\fs.length<=1000/\dx≠a/\h.get? a=some (instObj C dx) ∧
  ∃mA,h.Ns1 dx mA/\(∀f,RelO (fs.lookup f) (mA f))/\RY mA (fs.map (·.1))
 | .own _=>∃o,h.get? a=some o
 | .xd fs=>∃mA,h.Ns1 a mA/\∀f,RelO (fs.lookup f) (mA f)
 | .rng lo hi=>∃t u v,h.get? a=some { cls:=.type "range",data:=.fields #[.int lo t,.int hi u,.int 1 v] }
 | .frz o u=>h.get? a=some o/\ObjOk H h a u
 | .tbl ps l c q=>h.get? a=some { cls:=.none,data:=.fields ps }\/∃y,H y=some (.own a)/\y≠a/\h.get? a=some { cls:=.none,data:=.fields (ps++#[rawInt l,rawInt c,.ref y]) }/\h.CodeRec (.ref y) q
 | .met f x=>h.get? a=some (methodObj (.ref f) (.ref x))
 | .ext φ=>φ h/\(∃o,h.get? a=some o)/\∀h1 h2:QL,φ h1->(∀o,h1.get? a=some o->h2.get? a=some o)->φ h2
noncomputable def HOk(H:Hp)(h:QL):Prop:=∀a o,H a=some o->ObjOk P w H h a o
end

section
variable{P:Qw}{w:QF}{H H':Hp}{h h':QL}{a:Qd}{o:HO}
theorem ObjOk.lt(x:ObjOk P w H h a o):a<h.objs.size:=by
 cases o with
 | lst xs=>obtain⟨_,_,_,_,e⟩:=x;exact Qp e
 | tup xs=>obtain⟨_,_,_,p⟩:=x;exact p.lt
 | dK kvs=>obtain⟨_,_,_,_,o,_,_,e,_⟩:=x;exact Qp e
 | dT kvs=>obtain⟨_,_,_,_,o,_,_,e,_⟩:=x;exact Qp e
 | set S n=>obtain⟨o,_,_,_,e,_⟩:=x;exact Qp e
 | ins C dx fs=>obtain⟨_,_,_,e,_⟩:=x;exact Qp e
 | own y=>obtain⟨_,e⟩:=x;exact Qp e
 | xd fs=>obtain⟨_,⟨_,_,_,e,_⟩,_⟩:=x;exact Qp e
 | rng lo hi=>obtain⟨_,_,_,e⟩:=x;exact Qp e
 | frz ob u=>obtain⟨e,_⟩:=x;exact Qp e
 | tbl ps l c q =>
  rcases x with e|⟨_,_,_,e,_⟩
  ·exact Qp e
  ·exact Qp e
 | met f y=>exact Qp (show h.get? a=some _ from x)
 | ext φ=>obtain⟨_,⟨_,e⟩,_⟩:=x;exact Qp e
theorem Paired.mapP{α β:Type}{F G:α->β->Prop}:∀{l₁:List α} {l₂:List β},Paired F l₁ l₂->(∀a b,F a b->G a b)->Paired G l₁ l₂
 | _,_,.nil,_=>.nil
 | _,_,.cons r t,f=>.cons (f _ _ r) (Paired.mapP t f)
theorem ObjOk.stay(x:ObjOk P w H h a o)(k:∀b u,(b=a\/H b=some (.own a))->h.get? b=some u->h'.get? b=some u)
 (ho:∀b,H b=some (.own a)->H' b=some (.own a)) (ht:∀b xs,H b=some (.tup xs)->H' b=some (.tup xs)):ObjOk P w H' h' a o:=by
 induction o with
 | lst xs=>obtain⟨z,its,n,r,e⟩:=x;exact⟨z,its,n,r,k _ _ (.inl rfl) e⟩
 | tup xs=>obtain⟨z,its,r,ob,e,c⟩:=x;exact⟨z,its,r,ob,k _ _ (.inl rfl) e,c⟩
 | dK kvs=>obtain⟨z,y,vs,r,ob,es,ep,e,c⟩:=x;exact⟨z,y,vs,r,ob,es,ep,k _ _ (.inl rfl) e,c⟩
 | dT kvs=>obtain⟨z,y,xs,r,ob,es,ep,e,c⟩:=x;exact⟨z,y,xs,Paired.mapP r fun p q z=>⟨z.1,ht _ _ z.2.1,z.2.2⟩,ob,es,ep,k _ _ (.inl rfl) e,c⟩
 | set S n=>obtain⟨ob,es,ep,t,e,c⟩:=x;exact⟨ob,es,ep,t,k _ _ (.inl rfl) e,c⟩
 | ins C dx fs=>obtain⟨d,z,ne,e,mA,⟨od,es,ep,e2,c⟩,r⟩:=x;exact⟨ho _ d,z,ne,k _ _ (.inl rfl) e,mA,⟨od,es,ep,k _ _ (.inr d) e2,c⟩,r⟩
 | own y=>obtain⟨ob,e⟩:=x;exact⟨ob,k _ _ (.inl rfl) e⟩
 | xd fs=>obtain⟨mA,⟨od,es,ep,e,c⟩,r⟩:=x;exact⟨mA,⟨od,es,ep,k _ _ (.inl rfl) e,c⟩,r⟩
 | rng lo hi=>obtain⟨t,u,v,e⟩:=x;exact⟨t,u,v,k _ _ (.inl rfl) e⟩
 | frz ob u ih=>obtain⟨e,q⟩:=x;exact⟨k _ _ (.inl rfl) e,ih q⟩
 | tbl ps l c q =>
  rcases x with e|⟨y,d,ne,e,y',oc,vs,t,z,e2,r⟩
  ·exact .inl (k a _ (.inl rfl) e)
  ·cases z;exact .inr ⟨y,ho _ d,ne,k a _ (.inl rfl) e,y,oc,vs,t,rfl,k _ _ (.inr d) e2,r⟩
 | met f y =>
  have e:h.get? a=some (methodObj (.ref f) (.ref y)):=x
  show h'.get? a=some (methodObj (.ref f) (.ref y));exact k a _ (.inl rfl) e
 | ext φ=>obtain⟨p,⟨o,e⟩,st⟩:=x;exact⟨st _ _ p fun o q=>k _ _ (.inl rfl) q,⟨o,k _ _ (.inl rfl) e⟩,st⟩
theorem HOk.lt(x:HOk P w H h)(e:H a=some o):a<h.objs.size:=(x a o e).lt
theorem HOk.fresh(x:HOk P w H h)(e:h.objs.size<=a):H a=none:=by
 cases q:H a with
 | none=>rfl
 | some u=>exact absurd (QZ (x.lt q) e) (GO _)
theorem HOk.kept(x:HOk P w H h)(k:∀b u,h.get? b=some u->h'.get? b=some u):HOk P w H h':=fun a o e=>(x a o e).stay (fun b u _ q=>k b u q) (fun _ q=>q) fun _ _ q=>q
theorem HOk.laid(x:HOk P w H h)(k:∀b u,h.get? b=some u->h'.get? b=some u)(hp:h.objs.size<=a)(new:ObjOk P w (upd H a o) h' a o):HOk P w (upd H a o) h':=fun b u e=>by
 have hn:=x.fresh hp
 by_cases hb:b=a
 ·subst hb;rw[Jk] at e;cases e;exact new
 ·rw[Je hb] at e;exact(x b u e).stay (fun c v _ q=>k c v q) (fun c q=>by rw[Je (Jo q hn)];exact q) fun c xs q=>by rw[Je (Jo q hn)];exact q
end

noncomputable def Rd(H:Hp)(a:Qd)(u:HO):Prop:=H a=some u\/∃o,H a=some (.frz o u)
theorem Rd.of{H:Hp}{a:Qd}{u:HO}(h:H a=some u):Rd H a u:=.inl h
theorem Rd.ok{P:Qw}{w:QF}{H:Hp}{h:QL}{a:Qd}{u:HO}(r:Rd H a u)(x:HOk P w H h):ObjOk P w H h a u:=by
 rcases r with r|⟨o,r⟩
 ·exact x a u r
 ·obtain⟨_,q⟩:=x a _ r;exact q
noncomputable def Mut:Option HO->Prop
 | some (.lst _)=>True
 | some (.dK _)=>True
 | some (.dT _)=>True
 | some (.set _ _)=>True
 | some (.ins _ _ _)=>True
 | some (.ext _)=>True
 | _=>False
section
variable{P:Qw}{w:QF}{H:Hp}{h h':QL}{x e:Qd}{o':HO}
theorem HOk.write(ok:HOk P w H h)(mu:Mut (H x))(he:e=x\/H e=some (.own x))(k:∀b u,b≠e->h.get? b=some u->h'.get? b=some u)(heo:∃u,h'.get? e=some u)
 (new:ObjOk P w (upd H x o') h' x o'):HOk P w (upd H x o') h':=fun b u q=>by
 have nown:∀c y,H c=some (.own y)->c≠x:=fun c y r z=>by subst z;rw[r] at mu;exact mu
 have ntup:∀c xs,H c=some (.tup xs)->c≠x:=fun c xs r z=>by subst z;rw[r] at mu;exact mu
 by_cases hb:b=x
 ·subst hb;rw[Jk] at q;cases q;exact new
 ·rw[Je hb] at q
  by_cases hbe:b=e
  ·have q':H b=some (.own x):=by
    rcases he with z|z
    ·exact absurd (hbe.trans z) hb
    ·rw[hbe];exact z
   rw[q] at q';cases q';obtain⟨v,hv⟩:=heo;exact⟨v,by rw[hbe];exact hv⟩
  ·refine(ok b u q).stay (fun c v hc r=>k c v ?_ r) (fun c r=>by rw[Je (nown c b r)];exact r) fun c xs r=>by rw[Je (ntup c xs r)];exact r
   rcases hc with rfl|hc
   ·exact hbe
   ·rintro rfl;rcases he with z|z
    ·exact nown c b hc z
    ·rw[hc] at z;cases z;exact hb rfl
end

structure Un (fs ex:List Qd) (H H':Hp) (h h':QL):Prop where
 keep:∀b o,h.get? b=some o->H b=none->b∉fs->b∉ex->h'.get? b=some o
 slot:∀b o,h.get? b=some o->H b=none->b∈fs->b∉ex->∃sl,h'.get? b=some { o with slots:=sl }
 free:∀b o,h.get? b=some o->H b=none->b∉ex->H' b=none
 there:∀b o,h.get? b=some o->b∉ex->∃o',h'.get? b=some o'
 tups:∀b xs,H b=some (.tup xs)->H' b=some (.tup xs)
 frzs:∀b o u,H b=some (.frz o u)->H' b=some (.frz o u)
 tbls:∀b ps l c q,H b=some (.tbl ps l c q)->H' b=some (.tbl ps l c q)
section
variable{fs fs' ex ex':List Qd}{H H1 H2:Hp}{h h1 h2 h':QL}{a x e:Qd}{o:HO}
theorem Un.any(u:Un fs ex H H1 h h1){b:Qd}{ob:Obj}(q:h.get? b=some ob)(n:H b=none)(hx:b∉ex):∃sl,h1.get? b=some { ob with slots:=sl }:=by
 by_cases hb:b∈fs
 ·exact u.slot b ob q n hb hx
 ·exact⟨ob.slots,u.keep b ob q n hb hx⟩
theorem Un.trans(a:Un fs ex H H1 h h1)(b:Un fs ex H1 H2 h1 h2):Un fs ex H H2 h h2 where
 keep:=fun c ob q n hc hx=>b.keep c ob (a.keep c ob q n hc hx) (a.free c ob q n hx) hc hx
 slot:=fun c ob q n hc hx=>by obtain⟨sl,e1⟩:=a.slot c ob q n hc hx;obtain⟨sl',e2⟩:=b.slot c _ e1 (a.free c ob q n hx) hc hx;exact⟨sl',e2⟩
 free:=fun c ob q n hx=>by obtain⟨o',e1⟩:=a.there c ob q hx;exact b.free c o' e1 (a.free c ob q n hx) hx
 there:=fun c ob q hx=>by obtain⟨o',e1⟩:=a.there c ob q hx;exact b.there c o' e1 hx
 tups:=fun c xs q=>b.tups c xs (a.tups c xs q)
 frzs:=fun c ob xs q=>b.frzs c ob xs (a.frzs c ob xs q)
 tbls:=fun c ps l k z q=>b.tbls c ps l k z (a.tbls c ps l k z q)
theorem Un.kept(k:∀b u,h.get? b=some u->h'.get? b=some u):Un fs ex H H h h' :=
 ⟨fun b ob q _ _ _=>k b ob q,fun b ob q _ _ _=>⟨ob.slots,k b ob q⟩,fun _ _ _ n _=>n,fun b ob q _=>⟨ob,k b ob q⟩,fun _ _ q=>q,fun _ _ _ q=>q,fun _ _ _ _ _ q=>q⟩
theorem Un.refl:Un fs ex H H h h:=Un.kept fun _ _ q=>q
theorem Un.laid(k:∀b u,h.get? b=some u->h'.get? b=some u)(hp:h.objs.size<=a)(hn:H a=none):Un fs ex H (upd H a o) h h' where
 keep:=fun b u q _ _ _=>k b u q
 slot:=fun b u q _ _ _=>⟨u.slots,k b u q⟩
 free:=fun b u q n _=>by rw[Je (QB (QZ (Qp q) hp))];exact n
 there:=fun b u q _=>⟨u,k b u q⟩
 tups:=fun b xs q=>by rw[Je (Jo q hn)];exact q
 frzs:=fun b u xs q=>by rw[Je (Jo q hn)];exact q
 tbls:=fun b ps l c z q=>by rw[Je (Jo q hn)];exact q
theorem Un.write(mu:Mut (H x))(he:e=x\/H e=some (.own x))(k:∀b u,b≠e->h.get? b=some u->h'.get? b=some u)(heo:∃u,h'.get? e=some u):Un fs ex H (upd H x o) h h':=by
 have hx:∀b,H b=none->b≠x:=fun b n z=>by subst z;rw[n] at mu;exact mu
 have hb:∀b,H b=none->b≠e:=fun b n z=>by
  subst z;rcases he with r|r
  ·exact hx b n r
  ·rw[n] at r;cases r
 have hm:∀b u,H b=some u->¬Mut (some u)->b≠x:=fun b u q nm z=>by subst z;rw[q] at mu;exact nm mu
 refine⟨fun b u q n _ _=>k b u (hb b n) q,fun b u q n _ _=>⟨u.slots,k b u (hb b n) q⟩,fun b u q n _=>by rw[Je (hx b n)];exact n,fun b u q _=>?_,
  fun b xs q=>by rw[Je (hm b _ q fun z=>z)];exact q,fun b u xs q=>by rw[Je (hm b _ q fun z=>z)];exact q,fun b ps l c z q=>by rw[Je (hm b _ q fun z=>z)];exact q⟩
 by_cases hbe:b=e
 ·subst hbe;exact heo
 ·exact⟨u,k b u hbe q⟩
theorem Un.mono(u:Un fs ex H H1 h h1)(hs:∀b∈fs,b∈fs')(hx:∀b∈ex,b∈ex'):Un fs' ex' H H1 h h1 :=
 ⟨fun b ob q n hb he=>u.keep b ob q n (fun z=>hb (hs b z)) fun z=>he (hx b z),fun _ _ q n _ he=>u.any q n fun z=>he (hx _ z),fun b ob q n he=>u.free b ob q n fun z=>he (hx b z),fun b ob q he=>u.there b ob q fun z=>he (hx b z),u.tups,u.frzs,u.tbls⟩
end

noncomputable def trk(h:QL)(H:Hp):List Qd:=(QS h.objs.size).filter fun a=>(H a).isSome
noncomputable def ZY(h:QL)(H:Hp):QL:=PySem.W.hideAll h (trk h H)
theorem Jgh(h:QL)(H:Hp):(ZY h H).objs.size=h.objs.size:=PySem.W.hideAll_size _ _
theorem JhK{h:QL}{H:Hp}{b:Qd}{o:Obj}(e:h.get? b=some o)(n:H b=none):(ZY h H).get? b=some o :=
 PySem.W.hideAll_get _ e fun hm=>by have q:(H b).isSome=true:=(KF.mp hm).2;rw[n] at q;simp at q
theorem JkD{h:QL}{H:Hp}{b:Qd}{o:Obj}(e:(ZY h H).get? b=some o):h.get? b=some o/\H b=none:=by
 have e':h.get? b=some o:=PySem.W.of_hideAll (trk h H) e;refine⟨e',?_⟩
 cases q:H b with
 | none=>rfl
 | some x =>
  have hm:b∈trk h H:=KF.mpr ⟨Rx.mpr (Qp e'),by simp[q]⟩
  have z:(ZY h H).get? b=none:=PySem.W.hideAll_none (trk h H) hm;rw[z] at e;cases e

noncomputable def Jjv(g h:QL)(L:Qd):List (Qd×Obj):=(QS h.objs.size).filterMap fun a=>if a=L\/(g.get? a).isSome=true then none else(h.get? a).map fun o=>(a,o)
noncomputable def rest(g h:QL)(L d:Qd):List (Qd×Obj):=(Jjv g h L).filter fun p=>decide (p.1≠d)
end L2

namespace L2
open PySem PySem.Spec PyProof.Rows

structure Mod (K:Qx) (mg:Str->Option Qc) (base:QL):Prop where
 kin:K.In base
 glob:base.Ns mainGlobals mg
 blt:∃mb,base.Ns builtinsNs mb/\∀x:Str,x≠"__name__"->mb x=bootBuiltins x
 nolimit:base.NoLimit

structure Cx where
 prog:Qw
 w:QF
 K:Qx
 mg:Str->Option Qc
 base:QL
 A:QC
 N:List Str
 s₀:Qe
 H₀:Hp
 env:Env
 outer:List Env
 stack:List Env
 ex:List Qd
 fn:Str->Bool
 calm:Bool
 pn:List (Qd×Obj)
 xe:Qc->Qe->Prop
noncomputable def frs(l:List Env):List Qd:=l.filterMap (·.frame)
noncomputable abbrev Cx.fs(X:Cx):List Qd:=frs X.outer

noncomputable def Vis(sc:Lu)(x:Str):Prop:=sc.names.lookup x=some .local\/sc.names.lookup x=some .cell\/sc.names.lookup x=some .free
noncomputable def Loc(sc:Lu)(x:Str):Prop:=sc.names.lookup x=some .local\/sc.names.lookup x=some .cell
noncomputable def JqA(env:Env)(h:QL)(m:Str->Option Qc)(x:Str)(u:Qc):Prop :=
 (env.kindOf x=some .local/\m x=some u)\/((env.kindOf x=some .cell\/env.kindOf x=some .free)/\∃c,env.cells.lookup x=some c/\h.IsCell c (some u))

structure Cx.Ok (X:Cx):Prop where
 mod:Mod X.K X.mg X.base
 kind:X.env.scope.kind=.function
 glob:X.env.globals=mainGlobals
 blt:X.env.builtins=builtinsNs
 above:X.s₀.heap.objs.size<=X.env.locals
 inj:∀x y c,X.env.cells.lookup x=some c->X.env.cells.lookup y=some c->x=y
 has:∀x,(X.env.kindOf x=some .cell\/X.env.kindOf x=some .free)->∃c,X.env.cells.lookup x=some c
 cab:∀x c,X.fn x=true->X.env.cells.lookup x=some c->X.s₀.heap.objs.size<=c
 hd:X.calm=true->X.A.handled=none
 frames:X.A.frames=some X.stack
 stk:X.stack=X.outer\/(X.stack=X.env::X.outer/\X.env.frame=some X.env.locals)
 exf:∀b∈X.ex,b≠X.env.locals/\∀x c,X.env.cells.lookup x=some c->c≠b
 bs:∀b o,X.base.get? b=some o->X.s₀.heap.get? b=some o/\X.H₀ b=none
 bsz:X.base.objs.size<=X.s₀.heap.objs.size
 noex:∀b o,X.base.get? b=some o->b∉X.ex
 exfs:∀b∈X.ex,b∉X.fs
 funs:X.s₀.heap.FunFrames X.base X.outer
 frf:∀b∈X.fs,X.H₀ b=none

structure Inv (X:Cx) (pins:List (Qd×Obj)) (σ:List (Option V)) (H:Hp) (s:Qe):Prop where
 ok:X.Ok
 os:s.os=X.s₀.os
 bare:AllBare s.gens
 base:Un X.fs X.ex X.H₀ H X.s₀.heap s.heap
 loc:∃m,s.heap.Ns X.env.locals m/\∀(i:Nat) (x:Str) (v:V),X.N[i]?=some x->σ[i]?=some (some v)->Vis X.env.scope x->∃u,RelV v u/\JqA X.env s.heap m x u
 cell:∀x c,X.env.cells.lookup x=some c->∃v,s.heap.IsCell c v
 free:H X.env.locals=none
 freeC:∀x c,X.env.cells.lookup x=some c->H c=none
 pin:∀p∈X.pn++pins,s.heap.get? p.1=some p.2/\H p.1=none/\p.1≠X.env.locals/\p.1∉X.fs/\∀v,p.2.data≠.cell v
 hok:HOk X.prog X.w H s.heap
 len:σ.length=X.N.length

section
variable{X:Cx}{pins:List (Qd×Obj)}{σ:List (Option V)}{H H':Hp}{s:Qe}{h':QL}

theorem Cx.Ok.nofr(ok:X.Ok){b:Qd}{o:Obj}(e:X.base.get? b=some o):b∉X.fs:=fun hb=>by have:=(ok.funs.mem hb).1;rw[e] at this;cases this
theorem Inv.bs(I:Inv X pins σ H s):∀b o,X.base.get? b=some o->s.heap.get? b=some o/\H b=none:=fun b o e=>⟨I.base.keep b o (I.ok.bs b o e).1 (I.ok.bs b o e).2 (I.ok.nofr e) (I.ok.noex b o e),I.base.free b o (I.ok.bs b o e).1 (I.ok.bs b o e).2 (I.ok.noex b o e)⟩
theorem Inv.bk(I:Inv X pins σ H s):∀b o,X.base.get? b=some o->s.heap.get? b=some o:=fun b o e=>(I.bs b o e).1
theorem Inv.mod(I:Inv X pins σ H s):Mod X.K X.mg X.base:=I.ok.mod
theorem Inv.kIn(I:Inv X pins σ H s):X.K.In s.heap:=I.ok.mod.kin.keeps I.bk
theorem Inv.nolimit(I:Inv X pins σ H s):s.heap.NoLimit:=I.ok.mod.nolimit.keeps I.bk
theorem Inv.fr(I:Inv X pins σ H s):∃m,Fr X.base X.env.locals s.heap m :=
 let ⟨m,hn,_⟩:=I.loc
 ⟨m,hn,I.bk,Gb I.ok.bsz I.ok.above⟩
theorem Inv.lt(I:Inv X pins σ H s):X.env.locals<s.heap.objs.size:=let ⟨_,hn,_⟩:=I.loc;hn.lt
theorem Inv.sz(I:Inv X pins σ H s):X.s₀.heap.objs.size<=s.heap.objs.size:=Gb I.ok.above (GZ I.lt)
theorem Inv.nofs(I:Inv X pins σ H s){a:Qd}(h:s.heap.objs.size<=a):a∉X.fs:=fun hb=>by obtain⟨_,o,ho,_⟩:=I.ok.funs.mem hb;exact absurd (QZ (Qp ho) (Gb I.sz h)) (GO _)
theorem Inv.cne(I:Inv X pins σ H s):∀x c,X.env.cells.lookup x=some c->c≠X.env.locals:=fun x c e z=>by obtain⟨v,o,ho,hd⟩:=I.cell x c e;obtain⟨m,⟨o',es,ep,ho',hd',_⟩,_⟩:=I.loc;rw[z,ho'] at ho;cases ho;rw[hd'] at hd;cases hd
theorem Inv.funs(I:Inv X pins σ H s):s.heap.FunFrames X.base X.outer:=by
 have all:∀(l:List Env),(∀b∈frs l,b∈X.fs)->X.s₀.heap.FunFrames X.base l->s.heap.FunFrames X.base l:=by
  intro l
  induction l with
  | nil=>intro _ _;trivial
  | cons env r ih =>
   intro hs hl;obtain⟨hk,⟨L,o,hf,hn,ho,hd⟩,hr⟩:=hl;have hL:L∈X.fs:=hs L (by unfold frs;rw[Ki,hf];exact Qh);obtain⟨sl,e⟩:=I.base.slot L o ho (I.ok.frf L hL) hL fun z=>I.ok.exfs L z hL
   exact⟨hk,⟨L,_,hf,hn,e,hd⟩,ih (fun b hb=>hs b (by unfold frs;rw[Ki,hf];exact Qf _ hb)) hr⟩
 exact all X.outer (fun _ hb=>hb) I.ok.funs

theorem Inv.stack(I:Inv X pins σ H s):s.heap.FunFrames X.base X.stack:=by
 rcases I.ok.stk with e|⟨e,hf⟩
 ·rw[e];exact I.funs
 ·rw[e];obtain⟨m,hn,_⟩:=I.loc;refine .cons (by rw[I.ok.kind];decide) hf hn ?_ I.funs;exact Heap.get?_none_of_le (Gb I.ok.bsz I.ok.above)
theorem Inv.stkSub(I:Inv X pins σ H s):∀b∈frs X.stack,b∈X.env.locals::X.fs:=fun b hb=>by
 rcases I.ok.stk with e|⟨e,hf⟩
 ·rw[e] at hb;exact Qf _ hb
 ·rw[e] at hb;unfold frs at hb;rw[Ki,hf] at hb;exact hb
theorem Inv.stkFree(I:Inv X pins σ H s):∀b∈frs X.stack,H b=none:=fun b hb=>by
 rcases Qk.mp (I.stkSub b hb) with e|hb
 ·rw[e];exact I.free
 ·obtain⟨_,o,ho,_⟩:=I.ok.funs.mem hb;exact I.base.free b o ho (I.ok.frf b hb) fun z=>I.ok.exfs b z hb

theorem Inv.step{g':Array GenState}{t':Nat}{d':Drawn}{ch:List Qd}(I:Inv X pins σ H s)
 (hch:∀b∈ch,(b∈X.ex\/X.s₀.heap.objs.size<=b)/\b≠X.env.locals/\(∀x c,X.env.cells.lookup x=some c->c≠b)/\∀p∈X.pn++pins,p.1≠b)
 (keep:∀b o,b≠X.env.locals->b∉X.fs->b∉ch->s.heap.get? b=some o->H b=none->h'.get? b=some o)
 (slot:∀b o,b≠X.env.locals->b∈X.fs->b∉ch->s.heap.get? b=some o->H b=none->∃sl,h'.get? b=some { o with slots:=sl }) (free:∀b o,b∉ch->s.heap.get? b=some o->H b=none->H' b=none)
 (there:∀b o,b∉ch->s.heap.get? b=some o->∃o',h'.get? b=some o')
 (tups:∀b xs,H b=some (.tup xs)->H' b=some (.tup xs)) (frzs:∀b o u,H b=some (.frz o u)->H' b=some (.frz o u)) (tbls:∀b ps l c q,H b=some (.tbl ps l c q)->H' b=some (.tbl ps l c q))
 (ns:∀m,s.heap.Ns X.env.locals m->h'.Ns X.env.locals m) (hok:HOk X.prog X.w H' h') (hg:AllBare g') :
 Inv X pins σ H' { s with heap:=h',gens:=g',drawn:=d',toks:=t' }:=by
 have neL:∀b o,X.s₀.heap.get? b=some o->b≠X.env.locals:=fun b o e=>QB (QZ (Qp e) I.ok.above)
 have neC:∀b o,X.s₀.heap.get? b=some o->b∉X.ex->b∉ch:=fun b o e hx hb=>by
  rcases(hch b hb).1 with z|z
  ·exact hx z
  ·exact absurd (QZ (Qp e) z) (GO _)
 have cellK:∀x c,X.env.cells.lookup x=some c->∀v,s.heap.IsCell c v->h'.IsCell c v:=fun x c e v ⟨o,ho,hd⟩=>by
  have nch:c∉ch:=fun z=>(hch c z).2.2.1 x c e rfl
  by_cases hc:c∈X.fs
  ·obtain⟨sl,q⟩:=slot c o (I.cne x c e) hc nch ho (I.freeC x c e);exact⟨_,q,hd⟩
  ·exact⟨o,keep c o (I.cne x c e) hc nch ho (I.freeC x c e),hd⟩
 refine⟨I.ok,I.os,hg,⟨fun b o e n hb hx=>?_,fun b o e n hb hx=>?_,fun b o e n hx=>?_,fun b o e hx=>?_,fun b xs e=>tups b xs (I.base.tups b xs e),fun b o xs e=>frzs b o xs (I.base.frzs b o xs e),fun b ps l c z e=>tbls b ps l c z (I.base.tbls b ps l c z e)⟩,?_,fun x c e=>?_,?_,fun x c e=>?_,fun p hp=>?_,hok,I.len⟩
 ·exact keep b o (neL b o e) hb (neC b o e hx) (I.base.keep b o e n hb hx) (I.base.free b o e n hx)
 ·obtain⟨sl,e1⟩:=I.base.slot b o e n hb hx;obtain⟨sl',e2⟩:=slot b _ (neL b o e) hb (neC b o e hx) e1 (I.base.free b o e n hx);exact⟨sl',e2⟩
 ·obtain⟨o',e1⟩:=I.base.there b o e hx;exact free b o' (neC b o e hx) e1 (I.base.free b o e n hx)
 ·obtain⟨o',e1⟩:=I.base.there b o e hx;exact there b o' (neC b o e hx) e1
 ·obtain⟨m,hn,hl⟩:=I.loc;refine⟨m,ns m hn,fun i x v e1 e2 e3=>?_⟩;obtain⟨u,r,l⟩:=hl i x v e1 e2 e3;refine⟨u,r,?_⟩;rcases l with l|⟨k,c,e,z⟩
  ·exact .inl l
  ·exact .inr ⟨k,c,e,cellK x c e _ z⟩
 ·obtain⟨v,z⟩:=I.cell x c e;exact⟨v,cellK x c e v z⟩
 ·obtain⟨m,⟨o,_,_,ho,_⟩,_⟩:=I.loc;exact free _ o (fun z=>(hch _ z).2.1 rfl) ho I.free
 ·obtain⟨v,o,ho,hd⟩:=I.cell x c e;exact free c o (fun z=>(hch c z).2.2.1 x c e rfl) ho (I.freeC x c e)
 ·obtain⟨e,n,ne,nf,d⟩:=I.pin p hp;have nch:p.1∉ch:=fun z=>(hch p.1 z).2.2.2 p hp rfl
  exact⟨keep p.1 p.2 ne nf nch e n,free p.1 p.2 nch e n,ne,nf,d⟩
theorem Inv.un{t':Nat}(I:Inv X pins σ H s)(u:Un X.fs [] H H' s.heap h')(hok:HOk X.prog X.w H' h'):Inv X pins σ H' { s with heap:=h',toks:=t' }:=by
 obtain⟨m,⟨o,es,ep,ho,r⟩,_⟩:=id I.loc;obtain⟨sl,hL⟩:=u.any ho I.free (by simp);exact I.step (g':=s.gens) (d':=s.drawn) (ch:=[]) (fun _ z=>nomatch z) (fun b o _ hb _ e n=>u.keep b o e n hb (by simp)) (fun b o _ hb _ e n=>u.slot b o e n hb (by simp)) (fun b o _ e n=>u.free b o e n (by simp)) (fun b o _ e=>u.there b o e (by simp)) u.tups u.frzs u.tbls (fun m' hm=>by obtain⟨o',es',ep',ho',r'⟩:=hm;rw[ho] at ho';cases ho';exact⟨_,es',ep',hL,r'⟩) hok I.bare
theorem Inv.call{g':Array GenState}{t':Nat}{d':Drawn}{ch:List Qd}(I:Inv X pins σ H s)(u:Un (frs X.stack) ch H H' s.heap h')(hok:HOk X.prog X.w H' h')(hg:AllBare g')
 (hch:∀b∈ch,(b∈X.ex\/X.s₀.heap.objs.size<=b)/\b≠X.env.locals/\(∀x c,X.env.cells.lookup x=some c->c≠b)/\∀p∈X.pn++pins,p.1≠b) :
 Inv X pins σ H' { s with heap:=h',gens:=g',drawn:=d',toks:=t' }:=by
 obtain⟨m,⟨o,es,ep,ho,r⟩,_⟩:=id I.loc;obtain⟨sl,hL⟩:=u.any ho I.free fun z=>(hch _ z).2.1 rfl
 exact I.step (ch:=ch) hch (fun b o hL hb hc e n=>u.keep b o e n (fun z=>(Qk.mp (I.stkSub b z)).elim hL hb) hc) (fun b o _ _ hc e n=>u.any e n hc) (fun b o hc e n=>u.free b o e n hc) (fun b o hc e=>u.there b o e hc) u.tups u.frzs u.tbls (fun m' hm=>by obtain⟨o',es',ep',ho',r'⟩:=hm;rw[ho] at ho';cases ho';exact⟨_,es',ep',hL,r'⟩) hok hg
theorem Inv.turned{t':Nat}{it:Qd}(I:Inv X pins σ H s)(k:∀b o,b≠it->s.heap.get? b=some o->h'.get? b=some o)(hn:H it=none)(hL:it≠X.env.locals)
 (h1:it∈X.ex\/X.s₀.heap.objs.size<=it) (h2:∀x c,X.env.cells.lookup x=some c->c≠it) (h3:∀p∈X.pn++pins,p.1≠it):Inv X pins σ H { s with heap:=h',toks:=t' }:=by
 have nit:∀b u,H b=some u->b≠it:=fun b u e z=>by rw[z,hn] at e;cases e
 refine I.step (g':=s.gens) (d':=s.drawn) (ch:=[it]) (fun b hb=>?_) (fun b o _ _ hc e _=>k b o (fun z=>hc (by simp[z])) e) (fun b o _ _ hc e _=>⟨o.slots,k b o (fun z=>hc (by simp[z])) e⟩) (fun _ _ _ _ n=>n)
  (fun b o hc e=>⟨o,k b o (fun z=>hc (by simp[z])) e⟩) (fun _ _ e=>e) (fun _ _ _ e=>e) (fun _ _ _ _ _ e=>e) (fun m hm=>?_) (fun b u e=>?_) I.bare
 ·have e:b=it:=by simpa using hb
  subst e;exact⟨h1,hL,h2,h3⟩
 ·obtain⟨o,es,ep,ho,r⟩:=hm;exact⟨o,es,ep,k _ o (Q2 hL) ho,r⟩
 ·refine(I.hok b u e).stay (fun c v hc q=>k c v ?_ q) (fun _ q=>q) fun _ _ q=>q
  rcases hc with z|z
  ·rw[z];exact nit b u e
  ·exact nit c _ z
theorem Inv.tok(I:Inv X pins σ H s)(t:Nat):Inv X pins σ H { s with toks:=t }:=I.un (h':=s.heap) (t':=t) Un.refl I.hok
theorem Inv.kept{t':Nat}(I:Inv X pins σ H s)(k:∀b u,s.heap.get? b=some u->h'.get? b=some u):Inv X pins σ H { s with heap:=h',toks:=t' }:=I.un (Un.kept k) (I.hok.kept k)
theorem Inv.laid{a:Qd}{o:HO}{t':Nat}(I:Inv X pins σ H s)(k:∀b u,s.heap.get? b=some u->h'.get? b=some u)(hp:s.heap.objs.size<=a)(new:ObjOk X.prog X.w (upd H a o) h' a o) :
 Inv X pins σ (upd H a o) { s with heap:=h',toks:=t' }:=I.un (Un.laid k hp (I.hok.fresh hp)) (I.hok.laid k hp new)
theorem Inv.write{x e:Qd}{o:HO}{t':Nat}(I:Inv X pins σ H s)(mu:Mut (H x))(he:e=x\/H e=some (.own x))(k:∀b u,b≠e->s.heap.get? b=some u->h'.get? b=some u)(heo:∃u,h'.get? e=some u)
 (new:ObjOk X.prog X.w (upd H x o) h' x o):Inv X pins σ (upd H x o) { s with heap:=h',toks:=t' }:=I.un (Un.write mu he k heo) (I.hok.write mu he k heo new)
theorem Inv.weak{σ':List (Option V)}(I:Inv X pins σ H s)(hl:σ'.length=σ.length)(w:∀(i:Nat) v,σ'[i]?=some (some v)->σ[i]?=some (some v)):Inv X pins σ' H s :=
 ⟨I.ok,I.os,I.bare,I.base,let ⟨m,hn,hl'⟩:=I.loc;⟨m,hn,fun i x v e1 e2 e3=>hl' i x v e1 (w i v e2) e3⟩,I.cell,I.free,I.freeC,I.pin,I.hok,hl.trans I.len⟩
theorem Inv.pins_of{pins':List (Qd×Obj)}(I:Inv X pins σ H s)(h:∀p∈pins',s.heap.get? p.1=some p.2/\H p.1=none/\p.1≠X.env.locals/\p.1∉X.fs/\∀v,p.2.data≠.cell v):Inv X pins' σ H s :=
 ⟨I.ok,I.os,I.bare,I.base,I.loc,I.cell,I.free,I.freeC,fun p hp=>(GF.mp hp).elim (fun z=>I.pin p (L0 _ z)) (h p),I.hok,I.len⟩

theorem JcG{N:List Str}(hN:N.Nodup){i j:Nat}{x:Str}(a:N[i]?=some x)(b:N[j]?=some x):i=j:=by obtain⟨h1,e1⟩:=Qm.mp a;obtain⟨h2,e2⟩:=Qm.mp b;exact(List.getElem_inj hN).mp (e1.trans e2.symm)

theorem JgO{M:Model}{A:QC}{E:Qc->Qe->Prop}{i:Nat}{x:Str}{v:V}{u:Qc}{Q:Unit->Qe->Prop}(I:Inv X pins σ H s)(hN:X.N.Nodup)(hi:X.N[i]?=some x)(hx:Loc X.env.scope x)(r:RelV v u)
 (h:∀s',Inv X pins (σ.set i (some v)) H s'->(∃a,QQ a s.heap s'.heap/\(a=X.env.locals\/X.env.cells.lookup x=some a))->Q () s') (hf:X.fn x=true\/X.env.scope.names.lookup x=some .local:=by first|exact .inl rfl|exact .inr rfl|assumption):wpAny M A (storeName X.env x u) Q E s:=by
 obtain⟨m,hn,hl⟩:=id I.loc;have hcls:(X.env.scope.kind == .class || (X.env.scope.kind == .module && X.env.locals != X.env.globals))=false:=by rw[I.ok.kind];rfl
 have hiσ:i<σ.length:=by rw[I.len];exact(Qm.mp hi).1
 have cne:=I.cne
 have tracked:∀{a:Qd} {h':QL},(∃o,s.heap.get? a=some o/\H a=none)->QQ a s.heap h'->HOk X.prog X.w H h':=fun {a h'} ha hs b ob e=>by
  obtain⟨_,_,hfree⟩:=ha;refine(I.hok b ob e).stay (fun c w' hc q=>(hs.2 c ?_).trans q) (fun _ q=>q) fun _ _ q=>q
  rintro rfl;rcases hc with rfl|hc
  ·rw[hfree] at e;cases e
  ·rw[hfree] at hc;cases hc
 rcases hx with hk|hk
 ·refine wpAny_storeName_local hk hn (fun h' hn' hs=>?_) hcls;obtain⟨oL,_,_,hoL,_⟩:=id hn;refine h _ ⟨I.ok,I.os,I.bare,⟨fun b o e n hb hx=>?_,fun b o e n hb hx=>?_,I.base.free,fun b o e hx=>?_,I.base.tups,I.base.frzs,I.base.tbls⟩,⟨_,hn',fun j y v' e1 e2 e3=>?_⟩,fun y c e=>?_,I.free,I.freeC,fun p hp=>?_,tracked ⟨oL,hoL,I.free⟩ hs,by simpa using I.len⟩ ⟨_,hs,.inl rfl⟩
  ·exact(hs.2 b (QB (QZ (Qp e) I.ok.above))).trans (I.base.keep b o e n hb hx)
  ·obtain⟨sl,e1⟩:=I.base.slot b o e n hb hx;exact⟨sl,(hs.2 b (QB (QZ (Qp e) I.ok.above))).trans e1⟩
  ·obtain⟨o',e1⟩:=I.base.there b o e hx;exact⟨o',(hs.2 b (QB (QZ (Qp e) I.ok.above))).trans e1⟩
  ·by_cases hj:j=i
   ·subst hj;rw[hi] at e1;cases e1;rw[M7 hiσ] at e2;cases e2;exact⟨u,r,.inl ⟨hk,by simp⟩⟩
   ·rw[Ry (Q2 hj)] at e2;obtain⟨u',r',q⟩:=hl j y v' e1 e2 e3;refine⟨u',r',?_⟩;rcases q with ⟨k,e⟩|⟨k,c,e,z⟩
    ·refine .inl ⟨k,?_⟩;have:y≠x:=fun e=>hj (JcG hN e1 (e▸hi))
     simp[this,e]
    ·exact .inr ⟨k,c,e,z.sameBut hs (cne y c e)⟩
  ·obtain⟨w',z⟩:=I.cell y c e;exact⟨w',z.sameBut hs (cne y c e)⟩
  ·obtain⟨e,n,ne,nf,d⟩:=I.pin p hp;exact⟨(hs.2 p.1 ne).trans e,n,ne,nf,d⟩
 ·have hfn:X.fn x=true:=by
   rcases hf with z|z
   ·exact z
   ·rw[z] at hk;cases hk
  obtain⟨c,hc⟩:=I.ok.has x (.inl hk);obtain⟨w',z⟩:=I.cell x c hc;refine wpAny_storeName_cell I.ok.kind hk hc z (fun h' hc' hs=>?_);obtain⟨oc,hoc,hocd⟩:=id z;refine h { s with heap:=h' } ⟨I.ok,I.os,I.bare,⟨fun b o e n hb hx=>?_,fun b o e n hb hx=>?_,I.base.free,fun b o e hx=>?_,I.base.tups,I.base.frzs,I.base.tbls⟩,⟨m,hn.sameBut hs (Q2 (cne x c hc)),fun j y v' e1 e2 e3=>?_⟩,fun y c' e=>?_,I.free,I.freeC,fun p hp=>?_,tracked ⟨oc,hoc,I.freeC x c hc⟩ hs,by simpa using I.len⟩ ⟨c,hs,.inr hc⟩
  ·exact(hs.2 b (QB (QZ (Qp e) (I.ok.cab x c hfn hc)))).trans (I.base.keep b o e n hb hx)
  ·obtain⟨sl,e1⟩:=I.base.slot b o e n hb hx;exact⟨sl,(hs.2 b (QB (QZ (Qp e) (I.ok.cab x c hfn hc)))).trans e1⟩
  ·obtain⟨o',e1⟩:=I.base.there b o e hx;exact⟨o',(hs.2 b (QB (QZ (Qp e) (I.ok.cab x c hfn hc)))).trans e1⟩
  ·by_cases hj:j=i
   ·subst hj;rw[hi] at e1;cases e1;rw[M7 hiσ] at e2;cases e2;exact⟨u,r,.inr ⟨.inl hk,c,hc,hc'⟩⟩
   ·rw[Ry (Q2 hj)] at e2;obtain⟨u',r',q⟩:=hl j y v' e1 e2 e3;refine⟨u',r',?_⟩;rcases q with q|⟨k,c',e,z'⟩
    ·exact .inl q
    ·refine .inr ⟨k,c',e,z'.sameBut hs ?_⟩;rintro rfl;exact hj (JcG hN e1 (I.ok.inj _ _ _ e hc▸hi))
  ·by_cases hcc:c'=c
   ·subst hcc;exact⟨_,hc'⟩
   ·obtain⟨w2,z2⟩:=I.cell y c' e;exact⟨w2,z2.sameBut hs hcc⟩
  ·obtain⟨e,n,ne,nf,d⟩:=I.pin p hp;refine⟨(hs.2 p.1 ?_).trans e,n,ne,nf,d⟩;intro q;rw[q,hoc] at e;have q':oc=p.2:=QT e;exact d w' (by rw[<- q'];exact hocd)
theorem ZN{M:Model}{A:QC}{E:Qc->Qe->Prop}{i:Nat}{x:Str}{v:V}{u:Qc}{Q:Unit->Qe->Prop}(I:Inv X pins σ H s)(hN:X.N.Nodup)(hi:X.N[i]?=some x)(hx:Loc X.env.scope x)(r:RelV v u)
 (h:∀s',Inv X pins (σ.set i (some v)) H s'->Q () s') (hf:X.fn x=true\/X.env.scope.names.lookup x=some .local:=by first|exact .inl rfl|exact .inr rfl|assumption):wpAny M A (storeName X.env x u) Q E s :=
 JgO I hN hi hx r (fun s' I' _=>h s' I') hf
theorem Inv.call'{s':Qe}{ch:List Qd}(I:Inv X pins σ H s)(ho:s'.os=s.os)(u:Un (frs X.stack) ch H H' s.heap s'.heap)(hok:HOk X.prog X.w H' s'.heap)(hg:AllBare s'.gens)
 (hch:∀b∈ch,(b∈X.ex\/X.s₀.heap.objs.size<=b)/\b≠X.env.locals/\(∀x c,X.env.cells.lookup x=some c->c≠b)/\∀p∈X.pn++pins,p.1≠b):Inv X pins σ H' s':=by
 obtain⟨h',g',d',t',o'⟩:=s';have e:o'=s.os:=ho;subst e;exact I.call (g':=g') (t':=t') (d':=d') u hok hg hch
end

noncomputable abbrev XK:=Qc->Option Qd->Hp->Prop
noncomputable abbrev St:=List (Option V)
noncomputable abbrev VK:=V->Hp->Prop
noncomputable abbrev TE:=St->Hp->VK->Prop
noncomputable abbrev TT:=St->Hp->(Bool->Hp->Prop)->Prop
noncomputable abbrev TA:=St->Hp->(List V->Hp->Prop)->Prop
structure Ends where
 nx:St->Hp->Prop
 rt:VK
 bk:St->Hp->Prop:=fun _ _=>False
 ct:St->Hp->Prop:=fun _ _=>False
noncomputable abbrev TS:=Ends->St->Hp->Prop

noncomputable def EP(X:Cx)(pins:List (Qd×Obj))(σ:St)(Q:VK)(u:Qc)(s':Qe):Prop:=∃v H',Inv X pins σ H' s'/\RelV v u/\Q v H'
noncomputable def TP(X:Cx)(pins:List (Qd×Obj))(σ:St)(Q:Bool->Hp->Prop)(b:Bool)(s':Qe):Prop:=∃H',Inv X pins σ H' s'/\Q b H'
noncomputable def AP(X:Cx)(pins:List (Qd×Obj))(σ:St)(Q:List V->Hp->Prop)(us:List Qc)(s':Qe):Prop:=∃vs H',Inv X pins σ H' s'/\Vals vs us/\Q vs H'
noncomputable def SP(X:Cx)(pins:List (Qd×Obj))(D:Ends)(f:Flow)(s':Qe):Prop :=
 match f with
 | .next=>∃σ' H',Inv X pins σ' H' s'/\D.nx σ' H'
 | .brk=>∃σ' H',Inv X pins σ' H' s'/\D.bk σ' H'
 | .cont=>∃σ' H',Inv X pins σ' H' s'/\D.ct σ' H'
 | .ret u=>∃v σ' H',Inv X pins σ' H' s'/\RelV v u/\D.rt v H'

noncomputable def PE(X:Cx)(e:Q7)(t:TE):Prop :=
 ∀(pins:List (Qd×Obj)) (s:Qe) (σ:St) (H:Hp) (Q:VK),Inv X pins σ H s->t σ H Q->wpAny (model X.prog X.w) X.A (eval e X.env) (EP X pins σ Q) X.xe s
noncomputable def PT(X:Cx)(e:Q7)(t:TT):Prop :=
 ∀(pins:List (Qd×Obj)) (s:Qe) (σ:St) (H:Hp) (Q:Bool->Hp->Prop),Inv X pins σ H s->t σ H Q->wpAny (model X.prog X.w) X.A (isTrue e X.env (eval e X.env)) (TP X pins σ Q) X.xe s
noncomputable def PW(X:Cx)(e:Q7)(t:TT):Prop :=
 ∀(whole:Sem Qc) (pins:List (Qd×Obj)) (s:Qe) (σ:St) (H:Hp) (Q:Bool->Hp->Prop),Inv X pins σ H s->t σ H Q->wpAny (model X.prog X.w) X.A (isTrue e X.env whole) (TP X pins σ Q) X.xe s
theorem PW.pt{X:Cx}{e:Q7}{t:TT}(h:PW X e t):PT X e t:=h _
noncomputable def PA(X:Cx)(es:List Q7)(t:TA):Prop :=
 ∀(pos:Pos) (pins:List (Qd×Obj)) (s:Qe) (σ:St) (H:Hp) (Q:List V->Hp->Prop),Inv X pins σ H s->t σ H Q->wpAny (model X.prog X.w) X.A (spliced (backTo pos (starEach es X.env))) (AP X pins σ Q) X.xe s
noncomputable def PS(X:Cx)(st:Kj)(t:TS):Prop :=
 ∀(pins:List (Qd×Obj)) (s:Qe) (σ:St) (H:Hp) (D:Ends),Inv X pins σ H s->t D σ H->wpAny (model X.prog X.w) X.A (exec st X.env) (SP X pins D) X.xe s
noncomputable def PSs(X:Cx)(st:List Kj)(t:TS):Prop :=
 ∀(pins:List (Qd×Obj)) (s:Qe) (σ:St) (H:Hp) (D:Ends),Inv X pins σ H s->t D σ H->wpAny (model X.prog X.w) X.A (execs st X.env) (SP X pins D) X.xe s
theorem thn{α:Type}{t:Sem α}{Q Q':α->Qe->Prop}{M:Model}{A:QC}{E:Qc->Qe->Prop}{s:Qe}(h:wpAny M A t Q E s)(hQ:∀a s,Q a s->Q' a s):wpAny M A t Q' E s:=Ka h hQ fun _ _ x=>x
end L2

namespace L2
open PySem PySem.Spec PyProof.Rows
section
variable{X:Cx}

noncomputable def Y2(i:Nat):TE:=fun σ H Q=>∃v,σ[i]?=some (some v)/\Q v H
noncomputable def tC(v:V):TE:=fun _ H Q=>Q v H
theorem Jil{i:Nat}{x:Str}{pos:Pos}(hN:X.N[i]?=some x)(hv:Vis X.env.scope x)(hd:(x == ("__debug__":Str))=false:=by decide)(hcd:(x == ("__classdict__":Str))=false:=by decide):PE X (.Name x pos) (Y2 i):=by
 intro pins s σ H Q I h;obtain⟨v,e,h⟩:=h;obtain⟨m,hn,hl⟩:=I.loc;obtain⟨u,r,l⟩:=hl i x v hN e hv;have fin:EP X pins σ Q u s:=⟨v,H,I,r,h⟩
 rcases l with ⟨hk,hm⟩|⟨hk,c,hc,hcell⟩
 ·exact wpAny_Name (wpAny_loadName_local I.ok.kind hk hn hm fin) hd
 ·rcases hk with hk|hk
  ·exact wpAny_Name (wpAny_loadName_cell I.ok.kind hk hc hcell fin) hd
  ·exact wpAny_Name (wpAny_loadName_free I.ok.kind hk hc hcell fin hcd) hd
theorem Jh{i j pos}:PE X (.Constant (.int i) j pos) (tC (.int i)):=fun _ _ _ H _ I h=>wpAny_Constant_int ⟨.int i,H,I.tok _,⟨_,rfl⟩,h⟩
theorem VD{b j pos}:PE X (.Constant (.bool b) j pos) (tC (.bl b)):=fun _ _ _ H _ I h=>Constant_bool ⟨.bl b,H,I,rfl,h⟩
theorem Wa{j pos}:PE X (.Constant .none j pos) (tC .non):=fun _ _ _ H _ I h=>Constant_none ⟨.non,H,I,rfl,h⟩
noncomputable def Gl(X:Cx)(x:Str):Prop:=X.env.kindOf x=some .globalImplicit
theorem Jbk{E:Qc->Qe->Prop}{pins:List (Qd×Obj)}{s:Qe}{σ:St}{H:Hp}{x:Str}{u:Qc}{pos:Pos}{Q:Qc->Qe->Prop}(I:Inv X pins σ H s)(hg:Gl X x)(hm:X.mg x=some u)(h:Q u s)
 (hd:(x == ("__debug__":Str))=false:=by decide):wpAny (model X.prog X.w) X.A (eval (.Name x pos) X.env) Q E s :=
 Mo I.ok.kind hg (Calls.loadGlobal_global (by rw[I.ok.glob];exact I.mod.glob.keeps I.bk) hm h) hd
theorem UJ{E:Qc->Qe->Prop}{pins:List (Qd×Obj)}{s:Qe}{σ:St}{H:Hp}{x:Str}{u:Qc}{pos:Pos}{Q:Qc->Qe->Prop}(I:Inv X pins σ H s)(hg:Gl X x)(hm:X.mg x=none)(hv:bootBuiltins x=some u)(h:Q u s)
 (hn:x≠"__name__":=by decide) (hd:(x == ("__debug__":Str))=false:=by decide):wpAny (model X.prog X.w) X.A (eval (.Name x pos) X.env) Q E s:=by
 obtain⟨mb,h1,h2⟩:=I.mod.blt;exact Mo I.ok.kind hg (Calls.loadGlobal_builtin (by rw[I.ok.glob];exact I.mod.glob.keeps I.bk) hm (by rw[I.ok.blt];exact h1.keeps I.bk) ((h2 x hn).trans hv) h) hd
theorem JkL{x:Str}{v:V}{u:Qc}{pos:Pos}(hg:Gl X x)(hm:X.mg x=some u)(r:RelV v u)(hd:(x == ("__debug__":Str))=false:=by decide):PE X (.Name x pos) (tC v) :=
 fun _ _ _ H _ I h=>Jbk I hg hm ⟨v,H,I,r,h⟩ hd
theorem WK{x:Str}{v:V}{u:Qc}{pos:Pos}(hg:Gl X x)(hm:X.mg x=none)(hv:bootBuiltins x=some u)(r:RelV v u)(hn:x≠"__name__":=by decide)(hd:(x == ("__debug__":Str))=false:=by decide):PE X (.Name x pos) (tC v) :=
 fun _ _ _ H _ I h=>UJ I hg hm hv ⟨v,H,I,r,h⟩ hn hd

variable{a b:Q7}{ta tb:TE}{pos:Pos}
noncomputable def PC(X:Cx)(op:CmpOp)(a b:Q7)(t:TE):Prop :=
 ∀(pins:List (Qd×Obj)) (s:Qe) (σ:St) (H:Hp) (Q:VK),Inv X pins σ H s->t σ H Q ->
  wpAny (model X.prog X.w) X.A (eval a X.env) (fun v s₁=>wpAny (model X.prog X.w) X.A (eval b X.env) (fun u s₂=>wpAny (model X.prog X.w) X.A (compareOp op v u) (EP X pins σ Q) X.xe s₂) X.xe s₁) X.xe s
theorem Jib(b:Q7){op:CmpOp}(h:op≠.In)(h2:op≠.NotIn):behindInMarks op b=false:=by
 have e1:(op == CmpOp.In)=false:=by cases op <;> first|rfl|exact absurd rfl h
 have e2:(op == CmpOp.NotIn)=false:=by cases op <;> first|rfl|exact absurd rfl h2
 cases b <;> simp[behindInMarks,e1,e2]
noncomputable def tB(t:TE):TT:=fun σ H Q=>t σ H fun x H1=>∃c,x=.bl c/\Q c H1
theorem JnQ{op:CmpOp}{t:TE}(h:PC X op a b t)(h1:behindInMarks op b=false:=by first|exact Jib _ (by decide) (by decide)|rfl):PT X (.Compare a [op] [b] pos) (tB t):=by intro pins s σ H Q I hw;refine wpAny_isTrue_Compare1 (thn (h pins s σ H _ I hw) fun v s1 h1=>thn h1 fun u s2 h2=>thn h2 fun c s3 ⟨x,H1,I1,r1,q1⟩=>?_) h1;obtain⟨d,rfl,q⟩:=q1;cases r1;exact Kq ⟨H1,I1,q⟩
variable{tA tB':TT}{rest:List Q7}
noncomputable def JoC(t u:TT):TT:=fun σ H Q=>t σ H fun c H1=>if c=true then u σ H1 Q else Q false H1
noncomputable def tOr(t u:TT):TT:=fun σ H Q=>t σ H fun c H1=>if c=true then Q true H1 else u σ H1 Q
noncomputable def JoD(t:TT):TT:=fun σ H Q=>t σ H fun c H1=>Q (!c) H1
theorem VH(ha:PT X a tA):PW X (.BoolOp .And [a] pos) tA:=by
 intro wh pins s σ H Q I h;refine isTrue_and (thn (ha pins s σ H Q I h) fun c s1 e=>?_)
 cases c with
 | true=>exact isTrue_and_nil e
 | false=>exact e
theorem ZG(ha:PT X a tA):PW X (.BoolOp .Or [a] pos) tA:=by
 intro wh pins s σ H Q I h;refine isTrue_or (thn (ha pins s σ H Q I h) fun c s1 e=>?_)
 cases c with
 | false=>exact isTrue_or_nil e
 | true=>exact e
theorem ZF(ha:PT X a tA)(hb:PW X (.BoolOp .And (b::rest) pos) tB'):PW X (.BoolOp .And (a::b::rest) pos) (JoC tA tB'):=by
 intro wh pins s σ H Q I h;refine isTrue_and (thn (ha pins s σ H _ I h) fun c s1 ⟨H1,I1,q1⟩=>?_)
 cases c with
 | true=>exact hb wh pins s1 σ H1 Q I1 q1
 | false=>exact⟨H1,I1,q1⟩
theorem JcU(ha:PT X a tA)(hb:PW X (.BoolOp .Or (b::rest) pos) tB'):PW X (.BoolOp .Or (a::b::rest) pos) (tOr tA tB'):=by
 intro wh pins s σ H Q I h;refine isTrue_or (thn (ha pins s σ H _ I h) fun c s1 ⟨H1,I1,q1⟩=>?_)
 cases c with
 | true=>exact⟨H1,I1,q1⟩
 | false=>exact hb wh pins s1 σ H1 Q I1 q1
theorem ZE(ha:PT X a tA):PT X (.UnaryOp .Not a pos) (JoD tA):=by intro pins s σ H Q I h;exact isTrue_not (ha pins s σ H (fun c H1=>Q (!c) H1) I h)
noncomputable def JiZ(ta tb:TE):TE:=fun σ H Q=>ta σ H fun x H1=>∃c,x=.bl c/\if c=true then tb σ H1 Q else Q (.bl false) H1
noncomputable def Jq8(ta tb:TE):TE:=fun σ H Q=>ta σ H fun x H1=>∃c,x=.bl c/\if c=true then Q (.bl true) H1 else tb σ H1 Q
noncomputable def Jqr(ta:TE):TE:=fun σ H Q=>ta σ H fun x H1=>∃c,x=.bl c/\Q (.bl (!c)) H1
theorem JnJ{op}{t:TE}(h:PE X a t):PE X (.BoolOp op [a] pos) t:=fun pins s σ H Q I hw=>BoolOp_one (h pins s σ H Q I hw)
theorem JnG(ha:PE X a ta)(hb:PE X (.BoolOp .And (b::rest) pos) tb):PE X (.BoolOp .And (a::b::rest) pos) (JiZ ta tb):=by
 intro pins s σ H Q I h;refine BoolOp_and (thn (ha pins s σ H _ I h) fun v s1 ⟨x,H1,I1,r1,q1⟩=>?_);obtain⟨c,rfl,q1⟩:=q1;cases r1;refine Kq ?_
 cases c with
 | true=>exact hb pins s1 σ H1 Q I1 q1
 | false=>exact⟨.bl false,H1,I1,rfl,q1⟩
noncomputable def tIf(t:TT)(ta tb:TE):TE:=fun σ H Q=>t σ H fun c H1=>if c=true then ta σ H1 Q else tb σ H1 Q
theorem JcQ{c:Q7}(hc:PT X c tA)(ha:PE X a ta)(hb:PE X b tb):PE X (.IfExp c a b pos) (tIf tA ta tb):=by
 intro pins s σ H Q I h;refine wpAny_IfExp (thn (hc pins s σ H _ I h) fun d s1 ⟨H1,I1,q1⟩=>?_)
 cases d with
 | true=>exact ha pins s1 σ H1 Q I1 q1
 | false=>exact hb pins s1 σ H1 Q I1 q1
end
end L2

namespace L2
open PySem PySem.Spec PyProof.Rows

noncomputable def SqL(K:Qx)(H:Hp)(a:Qd)(xs:List V):Prop :=
 Rd H a (.lst xs) ∨
  ∃(o:Obj) (its:Array Qc) (n:Nat),K.lookup a=some o/\o.cls=.type "list"/\o.dict=none/\o.data=.seq its n/\its.size<=Qt/\Vals xs its.toList
noncomputable def SqT(K:Qx)(H:Hp)(a:Qd)(xs:List V):Prop :=
 Rd H a (.tup xs) ∨
  ∃(o:Obj) (its:Array Qc) (n:Nat),K.lookup a=some o/\o.cls=.type "tuple"/\o.data=.seq its n/\its.size<=Qt/\Vals xs its.toList
noncomputable def JqC:Qc->Option V
 | .none=>some .non
 | .bool b=>some (.bl b)
 | .int i _=>some (.int i)
 | .str x _=>some (.str x)
 | .bytes b _=>some (.byt b)
 | .float b _=>some (.flt b)
 | .ref a=>some (.ref a)
 | .type n=>some (.ty n)
 | _=>none
theorem RelV.abs{x:V}{u:Qc}(r:RelV x u):JqC u=some x:=by
 cases x with
 | non=>cases r;rfl
 | bl _=>cases r;rfl
 | int _=>obtain⟨t,rfl⟩:=r;rfl
 | str _=>obtain⟨t,rfl⟩:=r;rfl
 | byt _=>obtain⟨t,rfl⟩:=r;rfl
 | flt _=>obtain⟨t,rfl⟩:=r;rfl
 | ref _=>cases r;rfl
 | ty _=>cases r;rfl
theorem RelV.inj{x y:V}{u:Qc}(r:RelV x u)(q:RelV y u):x=y:=QT (r.abs.symm.trans q.abs)
theorem Vals.inj:∀{xs ys:List V} {us:List Qc},Vals xs us->Vals ys us->xs=ys
 | _,_,_,.nil,.nil=>rfl
 | _,_,_,.cons r t,.cons r' t'=>by rw[r.inj r',Vals.inj t t']
section
variable{X:Cx}{pins:List (Qd×Obj)}{σ:St}{H:Hp}{s:Qe}{a:Qd}{xs ys:List V}
theorem SqL.of{K:Qx}(h:H a=some (.lst xs)):SqL K H a xs:=.inl (.inl h)
theorem SqT.of{K:Qx}(h:H a=some (.tup xs)):SqT K H a xs:=.inl (.inl h)
theorem Inv.list(I:Inv X pins σ H s)(h:SqL X.K H a xs):∃its:List Qc,Vals xs its/\PlainL s.heap a its.toArray/\xs.length<=Qt:=by
 rcases h with h|⟨o,its,n,hk,hc,hd,hs,hz,r⟩
 ·obtain⟨z,its,n,r,e⟩:=h.ok I.hok;exact⟨its,r,⟨_,n,e,rfl,rfl,rfl⟩,z⟩
 ·refine⟨its.toList,r,⟨o,n,I.kIn a o hk,hc,hd,by simpa using hs⟩,?_⟩;have e:=r.length;simp only[QM] at e;omega
theorem Inv.tuple(I:Inv X pins σ H s)(h:SqT X.K H a xs):∃its:List Qc,Vals xs its/\IsTup s.heap a its.toArray/\xs.length<=Qt:=by
 rcases h with h|⟨o,its,n,hk,hc,hs,hz,r⟩
 ·obtain⟨z,its,r,p⟩:=h.ok I.hok;exact⟨its,r,p,z⟩
 ·refine⟨its.toList,r,⟨o,I.kIn a o hk,hc,n,by simpa using hs⟩,?_⟩;have e:=r.length;simp only[QM] at e;omega
theorem Inv.list_inj(I:Inv X pins σ H s)(h:SqL X.K H a xs)(h':SqL X.K H a ys):xs=ys:=by
 obtain⟨its,r,⟨o,n,e,_,_,d⟩,_⟩:=I.list h;obtain⟨its',r',⟨o',n',e',_,_,d'⟩,_⟩:=I.list h';rw[e] at e';cases e';rw[d] at d'
 injection d' with d1 _
 have:its=its':=by simpa using congrArg Array.toList d1
 subst this;exact r.inj r'
theorem Inv.tuple_inj(I:Inv X pins σ H s)(h:SqT X.K H a xs)(h':SqT X.K H a ys):xs=ys:=by
 obtain⟨its,r,⟨o,e,_,n,d⟩,_⟩:=I.tuple h;obtain⟨its',r',⟨o',e',_,n',d'⟩,_⟩:=I.tuple h';rw[e] at e';cases e';rw[d] at d'
 injection d' with d1 _
 have:its=its':=by simpa using congrArg Array.toList d1
 subst this;exact r.inj r'
end

noncomputable abbrev Cx.wish(X:Cx)(E:Qc->Qe->Prop):Cx:={ X with xe:=E }
noncomputable abbrev Cx.nox(X:Cx):Cx:=X.wish fun _ _=>False
theorem Cx.Ok.wish{X:Cx}(ok:X.Ok)(E:Qc->Qe->Prop):(X.wish E).Ok :=
 ⟨ok.mod,ok.kind,ok.glob,ok.blt,ok.above,ok.inj,ok.has,ok.cab,ok.hd,ok.frames,ok.stk,ok.exf,ok.bs,ok.bsz,ok.noex,ok.exfs,ok.funs,ok.frf⟩
theorem Cx.Ok.unwish{X:Cx}{E:Qc->Qe->Prop}(ok:(X.wish E).Ok):X.Ok :=
 ⟨ok.mod,ok.kind,ok.glob,ok.blt,ok.above,ok.inj,ok.has,ok.cab,ok.hd,ok.frames,ok.stk,ok.exf,ok.bs,ok.bsz,ok.noex,ok.exfs,ok.funs,ok.frf⟩
section
variable{X:Cx}{pins:List (Qd×Obj)}{σ:St}{H:Hp}{s:Qe}{E:Qc->Qe->Prop}
theorem Inv.wish(I:Inv X pins σ H s)(E:Qc->Qe->Prop):Inv (X.wish E) pins σ H s:=⟨I.ok.wish E,I.os,I.bare,I.base,I.loc,I.cell,I.free,I.freeC,I.pin,I.hok,I.len⟩
theorem Inv.unwish(I:Inv (X.wish E) pins σ H s):Inv X pins σ H s:=⟨I.ok.unwish,I.os,I.bare,I.base,I.loc,I.cell,I.free,I.freeC,I.pin,I.hok,I.len⟩
theorem SP.unwish{D:Ends}{f:Flow}{s':Qe}(h:SP (X.wish E) pins D f s'):SP X pins D f s':=by
 cases f with
 | next=>obtain⟨σ',H',I,q⟩:=h;exact⟨σ',H',I.unwish,q⟩
 | brk=>obtain⟨σ',H',I,q⟩:=h;exact⟨σ',H',I.unwish,q⟩
 | cont=>obtain⟨σ',H',I,q⟩:=h;exact⟨σ',H',I.unwish,q⟩
 | ret u=>obtain⟨v,σ',H',I,r,q⟩:=h;exact⟨v,σ',H',I.unwish,r,q⟩
theorem PE.nox{e:Q7}{t:TE}(h:PE X.nox e t):PE X e t:=fun pins s σ H Q I hw=>Ka (h pins s σ H Q (I.wish _) hw) (fun _ _ ⟨v,H',I',r,q⟩=>⟨v,H',I'.unwish,r,q⟩) fun _ _ z=>Gw z
theorem PT.nox{e:Q7}{t:TT}(h:PT X.nox e t):PT X e t:=fun pins s σ H Q I hw=>Ka (h pins s σ H Q (I.wish _) hw) (fun _ _ ⟨H',I',q⟩=>⟨H',I'.unwish,q⟩) fun _ _ z=>Gw z
theorem PSs.nox{st:List Kj}{t:TS}(h:PSs X.nox st t):PSs X st t:=fun pins s σ H D I hw=>Ka (h pins s σ H D (I.wish _) hw) (fun _ _ q=>q.unwish) fun _ _ z=>Gw z
end

section
variable{X:Cx}{st:Kj}{rest:List Kj}{t u:TS}{e:Q7}{te:TE}{pos:Pos}
noncomputable def JfH:TS:=fun D σ H=>D.nx σ H
noncomputable def JlK(t u:TS):TS:=fun D σ H=>t { D with nx:=u D } σ H
theorem J4:PSs X [] JfH:=fun _ _ σ H _ I h=>L3 ⟨σ,H,I,h⟩
theorem Jd(h1:PS X st t)(h2:PSs X rest u):PSs X (st::rest) (JlK t u):=by
 intro pins s σ H D I h;refine wpAny_execs_cons (thn (h1 pins s σ H { D with nx:=u D } I h) fun f s1 q=>?_)
 cases f with
 | next=>obtain⟨σ',H',I',q⟩:=q;exact h2 pins s1 σ' H' D I' q
 | ret v=>exact q
 | brk=>exact q
 | cont=>exact q
theorem Jf(h1:PS X st t):PSs X [st] t:=by
 intro pins s σ H D I h;refine wpAny_execs_cons (thn (h1 pins s σ H D I h) fun f s1 q=>?_)
 cases f with
 | next=>exact L3 q
 | ret v=>exact q
 | brk=>exact q
 | cont=>exact q
theorem Inv.quiet{pins:List (Qd×Obj)}{σ:St}{H:Hp}{s:Qe}(I:Inv X pins σ H s):interactive X.env=false:=by simp[interactive,I.ok.kind]
noncomputable def Wr(te:TE):TS:=fun D σ H=>te σ H fun _ H1=>D.nx σ H1
theorem Ya(he:PE X e te)(hs:swapsWith e none pos.line X.env=pure false:=by rfl):PS X (.Expr e pos) (Wr te):=by intro pins s σ H D I h;exact wpAny_Expr_any (thn (he pins s σ H _ I h) fun v s1 ⟨x,H1,I1,r1,q1⟩=>⟨σ,H1,I1,q1⟩) I.quiet hs
noncomputable def JlJ(te:TE):TS:=fun D σ H=>te σ H D.rt
theorem Jy(he:PE X e te):PS X (.Return (some e) pos) (JlJ te):=by intro pins s σ H D I h;exact wpAny_Return_some (thn (he pins s σ H _ I h) fun v s1 ⟨x,H1,I1,r1,q1⟩=>⟨x,σ,H1,I1,r1,q1⟩)
noncomputable def JlH(c:TT)(t u:TS):TS:=fun D σ H=>c σ H fun b H1=>if b=true then t D σ H1 else u D σ H1
theorem YK{c:Q7}{a b:List Kj}{tc:TT}(hc:PT X c tc)(ha:PSs X a t)(hb:PSs X b u):PS X (.If c a b pos) (JlH tc t u):=by
 intro pins s σ H D I h;refine wpAny_If (thn (hc pins s σ H _ I h) fun d s1 ⟨H1,I1,q1⟩=>?_)
 cases d with
 | true=>exact ha pins s1 σ H1 D I1 q1
 | false=>exact hb pins s1 σ H1 D I1 q1
noncomputable def Ji4:TS:=fun _ _ _=>False
theorem VG:PS X st Ji4:=fun _ _ _ _ _ _ h=>h.elim
end

noncomputable abbrev TG:=V->St->Hp->(St->Hp->Prop)->Prop
noncomputable abbrev TGs:=List V->St->Hp->(St->Hp->Prop)->Prop
noncomputable def PG(X:Cx)(target:Q7)(t:TG):Prop :=
 ∀(pins:List (Qd×Obj)) (s:Qe) (σ:St) (H:Hp) (v:V) (u:Qc) (Q:St->Hp->Prop),Inv X pins σ H s->RelV v u->t v σ H Q ->
  wpAny (model X.prog X.w) X.A (assign target X.env u) (fun _ s'=>∃σ' H',Inv X pins σ' H' s'/\Q σ' H') X.xe s
noncomputable def PGs(X:Cx)(ts:List Q7)(t:TGs):Prop :=
 ∀(pins:List (Qd×Obj)) (s:Qe) (σ:St) (H:Hp) (vs:List V) (us:List Qc) (Q:St->Hp->Prop),Inv X pins σ H s->Vals vs us->t vs σ H Q ->
  wpAny (model X.prog X.w) X.A (assignInOrder ((assignEach ts X.env).map (·.2)) us) (fun _ s'=>∃σ' H',Inv X pins σ' H' s'/\Q σ' H') X.xe s
noncomputable abbrev Jo4:=V->V->V->Hp->(Hp->Prop)->Prop
noncomputable abbrev TIp:=V->V->Hp->VK->Prop
noncomputable def PIp(X:Cx)(op:Operator)(t:TIp):Prop :=
 ∀(pins:List (Qd×Obj)) (s:Qe) (σ:St) (H:Hp) (x y:V) (v u:Qc) (Q:VK),Inv X pins σ H s->RelV x v->RelV y u->t x y H Q ->
  wpAny (model X.prog X.w) X.A (inplaceOp op v u) (EP X pins σ Q) X.xe s
section
variable{X:Cx}{pos:Pos}
noncomputable def U7(i:Nat):TG:=fun v σ H Q=>Q (σ.set i (some v)) H
theorem Jt{i:Nat}{x:Str}(hN:X.N.Nodup)(hi:X.N[i]?=some x)(hx:Loc X.env.scope x)(hf:X.fn x=true\/X.env.scope.names.lookup x=some .local:=by first|exact .inl rfl|exact .inr rfl|assumption):PG X (.Name x pos) (U7 i):=by intro pins s σ H v u Q I r h;exact wpAny_assign_Name (ZN I hN hi hx r (fun s' I'=>⟨_,H,I',h⟩) hf)
noncomputable def Jkc:TGs:=fun vs σ H Q=>vs=[]/\Q σ H
noncomputable def JeT(t:TG)(u:TGs):TGs:=fun vs σ H Q=>∃v r,vs=v::r/\t v σ H fun σ' H'=>u r σ' H' Q
theorem JH:PGs X [] Jkc:=by intro pins s σ H vs us Q I r h;obtain⟨e,h⟩:=h;subst e;cases r;exact assignInOrder_nil ⟨σ,H,I,h⟩
theorem Ji{e:Q7}{es:List Q7}{t:TG}{u:TGs}(h1:PG X e t)(h2:PGs X es u)
 (hs:(assignEach (e::es) X.env).map (·.2)=assign e X.env::(assignEach es X.env).map (·.2):=by rfl):PGs X (e::es) (JeT t u):=by
 intro pins s σ H vs us Q I r h;obtain⟨v,vr,e1,h⟩:=h;subst e1
 cases r with
 | cons r rr=>rw[hs];refine assignInOrder_cons (thn (h1 pins s σ H _ _ _ I r h) fun _ s1 ⟨σ1,H1,I1,q1⟩=>?_);exact h2 pins s1 σ1 H1 _ _ Q I1 rr q1
noncomputable def Jgd(K:Qx)(n:Nat)(t:TGs):TG:=fun v σ H Q=>∃a xs,v=.ref a/\SqT K H a xs/\xs.length=n/\t xs σ H Q
theorem JnL{es:List Q7}{k:Nat}{t:TGs}{n:Nat}(hc:X.calm=true)(h:PGs X es t)
 (hn:(assignEach es X.env).length=n:=by rfl) (hst:(assignEach es X.env).findIdx? (·.1)=none:=by rfl):PG X (.Tuple es k pos) (Jgd X.K n t):=by
 intro pins s σ H v u Q I r hw;obtain⟨a,xs,e1,hq,hl,hw⟩:=hw;subst e1;cases r;obtain⟨its,rv,ht,hz⟩:=I.tuple hq;refine assign_Tuple_tuple (I.ok.hd hc) ht (by simp[hn,<- hl,rv.length]) hst fun h' hx=>?_
 have I1:Inv X pins σ H { s with heap:=h' }:=I.kept (t':=s.toks) fun b o e=>hx b o (QB (Qp e)) e
 exact h pins _ σ H xs _ Q I1 (by simpa using rv) hw
noncomputable def JqJ(to ti:TE)(t:Jo4):TG:=fun v σ H Q=>to σ H fun o H1=>ti σ H1 fun i H2=>t o i v H2 fun H3=>Q σ H3
noncomputable def JgQ(te:TE)(g:TG):TS:=fun D σ H=>te σ H fun x H1=>g x σ H1 D.nx
theorem JbC{i:Nat}{x:Str}{e:Q7}{te:TE}{pos':Pos}(hN:X.N.Nodup)(hi:X.N[i]?=some x)(hx:Loc X.env.scope x)(he:PE X e te)(hs:swapsWith e (some (.Name x pos')) pos.line X.env=pure false:=by rfl)(hf:X.fn x=true\/X.env.scope.names.lookup x=some .local:=by first|exact .inl rfl|exact .inr rfl|assumption) :
 PS X (.Assign [.Name x pos'] e pos) (JgQ te (U7 i)):=by
 intro pins s σ H D I h;refine wpAny_Assign_Name (thn (he pins s σ H _ I h) fun v s1 ⟨y,H1,I1,r1,q1⟩=>?_) hs;exact ZN I1 hN hi hx r1 (fun s2 I2=>⟨_,H1,I2,q1⟩) hf
noncomputable def Jqq(i:Nat)(te:TE)(ti:TIp):TS:=fun D σ H=>∃x,σ[i]?=some (some x)/\te σ H fun y H1=>ti x y H1 fun z H2=>D.nx (σ.set i (some z)) H2
theorem ZD{i:Nat}{x:Str}{e:Q7}{te:TE}{op:Operator}{ti:TIp}{pos':Pos}(hN:X.N.Nodup)(hi:X.N[i]?=some x)(hx:Loc X.env.scope x)(he:PE X e te)(ho:PIp X op ti)(hf:X.fn x=true\/X.env.scope.names.lookup x=some .local:=by first|exact .inl rfl|exact .inr rfl|assumption) :
 PS X (.AugAssign (.Name x pos') op e pos) (Jqq i te ti):=by
 intro pins s σ H D I h;obtain⟨v,e1,h⟩:=h;obtain⟨m,hn,hl⟩:=I.loc;have vis:Vis X.env.scope x:=by rcases hx with k|k;exact .inl k;exact .inr (.inl k)
 obtain⟨u,r,l⟩:=hl i x v hi e1 vis;refine wpAny_AugAssign_Name ?_
 have go:wpAny (model X.prog X.w) X.A (eval e X.env) (fun w s₂=>wpAny (model X.prog X.w) X.A (inplaceOp op u w) (fun r s₃=>wpAny (model X.prog X.w) X.A (storeName X.env x r) (fun _=>SP X pins D .next) X.xe s₃) X.xe s₂) X.xe s:=by
  refine thn (he pins s σ H _ I h) fun w s1 ⟨y,H1,I1,r1,q1⟩=>?_
  refine thn (ho pins s1 σ H1 v y u w _ I1 r r1 q1) fun z s2 ⟨zv,H2,I2,r2,q2⟩=>?_
  exact ZN I2 hN hi hx r2 (fun s3 I3=>⟨_,H2,I3,q2⟩) hf
 rcases l with ⟨hk,hm⟩|⟨hk,c,hc,hcell⟩
 ·exact wpAny_loadName_local I.ok.kind hk hn hm go
 ·rcases hk with hk|hk
  ·exact wpAny_loadName_cell I.ok.kind hk hc hcell go
  ·rcases hx with k|k
   ·have:X.env.scope.names.lookup x=some .free:=hk;rw[k] at this;cases this
   ·have:X.env.scope.names.lookup x=some .free:=hk;rw[k] at this;cases this
noncomputable def ipI(f:Int->Int->Int):TIp:=fun x y H Q=>∃i j,x=.int i/\y=.int j/\Q (.int (f i j)) H
theorem JdH:PIp X .Add (ipI fun i j=>i+j):=by intro pins s σ H x y v u Q I r1 r2 h;obtain⟨i,j,e1,e2,q⟩:=h;subst e1;subst e2;obtain⟨t,rfl⟩:=r1;obtain⟨t',rfl⟩:=r2;exact iadd_int ⟨.int _,H,I.tok _,⟨_,rfl⟩,q⟩
theorem JhN:PIp X .Sub (ipI fun i j=>i-j):=by intro pins s σ H x y v u Q I r1 r2 h;obtain⟨i,j,e1,e2,q⟩:=h;subst e1;subst e2;obtain⟨t,rfl⟩:=r1;obtain⟨t',rfl⟩:=r2;exact isub_int ⟨.int _,H,I.tok _,⟨_,rfl⟩,q⟩
end

section
variable{X:Cx}{pos:Pos}
noncomputable def Ji7(c:TT)(tb:TS):TS:=fun D σ H=>∃W:Nat->St->Hp->Prop,(∃m,W m σ H)/\∀m σ H,W m σ H ->
 c σ H fun b H1=>if b=true then ∃N:St->Hp->Prop,(∀σ' H',N σ' H'->∃m',m'<m/\W m' σ' H')/\tb { D with nx:=N,ct:=N,bk:=D.nx } σ H1 else D.nx σ H1
theorem JcT{c:Q7}{body:List Kj}{tc:TT}{tb:TS}(hp:PassesOwn (model X.prog X.w) X.A X.env X.xe)(hc:PT X c tc)(hb:PSs X body tb):PS X (.While c body [] pos) (Ji7 tc tb):=by
 intro pins s σ H D I h;obtain⟨W,⟨m0,w0⟩,turn⟩:=h;refine wpAny_While (codeAny_whileLoop (fun n s'=>∃σ' H',Inv X pins σ' H' s'/\W n σ' H') ?_ m0 ⟨σ,H,I,w0⟩);rintro n s1 ⟨σ1,H1,I1,w1⟩;refine KG hp (thn (hc pins s1 σ1 H1 _ I1 (turn n σ1 H1 w1)) fun b s2 ⟨H2,I2,q2⟩=>?_)
 cases b with
 | true =>
  obtain⟨N,hN,q2⟩:=q2;rw[if_pos rfl];refine KG hp (thn (hb pins s2 σ1 H2 _ I2 q2) fun f s3 q3=>?_)
  cases f with
  | next=>obtain⟨σ3,H3,I3,n3⟩:=q3;obtain⟨m',hm,w3⟩:=hN σ3 H3 n3;exact⟨m',hm,σ3,H3,I3,w3⟩
  | cont=>obtain⟨σ3,H3,I3,n3⟩:=q3;obtain⟨m',hm,w3⟩:=hN σ3 H3 n3;exact⟨m',hm,σ3,H3,I3,w3⟩
  | brk=>exact q3
  | ret v=>exact q3
 | false=>rw[if_neg QD];exact L3 ⟨σ1,H2,I2,q2⟩
end

structure It where
 go:Nat->Hp->Prop
 yld:Nat->Hp->V->Hp->Prop
 stop:Nat->Hp->Prop
noncomputable def FpOk(X:Cx)(pins:List (Qd×Obj))(H:Hp)(b:Qd):Prop :=
 H b=none/\b≠X.env.locals/\b∉X.fs/\(b∈X.ex\/X.s₀.heap.objs.size<=b)/\(∀x c,X.env.cells.lookup x=some c->c≠b)/\∀p∈X.pn++pins,p.1≠b
theorem Inv.fpOk{X:Cx}{pins:List (Qd×Obj)}{σ:St}{H H':Hp}{s:Qe}{b:Qd}(I:Inv X pins σ H s)(hb:s.heap.objs.size<=b)(hn:H' b=none):FpOk X pins H' b:=by
 refine⟨hn,Kn (QZ I.lt hb),I.nofs hb,.inr (Gb I.sz hb),fun x c e z=>?_,fun p hp z=>?_⟩
 ·obtain⟨v,q⟩:=I.cell x c e;exact absurd (QZ q.lt (by rw[z];exact hb)) (GO _)
 ·exact absurd (QZ (Qp (I.pin p hp).1) (by rw[z];exact hb)) (GO _)
structure Turn (P:Qw) (w:QF) (K:Qx) (tg:Q7) (J:It) (fp:List Qd) (it:Qd) (tn:Nat->QL->Prop):Prop where
 mem:it∈fp
 obj:∀i h,tn i h->∀b∈fp,∃o,h.get? b=some o/\∀v,o.data≠.cell v
 keep:∀i h h',tn i h->(∀b∈fp,∀o,h.get? b=some o->h'.get? b=some o)->tn i h'
 item:∀(X:Cx),X.prog=P->X.w=w->X.K=K->X.calm=true->∀(i:Nat) (pins:List (Qd×Obj)) (s:Qe) (σ:St) (H:Hp) (E:Qc->Qe->Prop),Inv X pins σ H s->(∀b∈fp,FpOk X pins H b)->tn i s.heap->J.go i H ->
  wpAny (model P w) X.A (pyNext (.ref it)) (fun r s1=>∃u,r=some u ∧
   wpAny (model P w) X.A (letOwnedTupleGo tg (.ref it) u) (fun _ s2=>∃x H',Inv X pins σ H' s2/\RelV x u/\J.yld i H x H'/\tn (i+1) s2.heap/\∀b∈fp,H' b=none) E s1) E s
 done:∀(X:Cx),X.prog=P->X.w=w->X.K=K->X.calm=true->∀(i:Nat) (pins:List (Qd×Obj)) (s:Qe) (σ:St) (H:Hp) (E:Qc->Qe->Prop),Inv X pins σ H s->(∀b∈fp,FpOk X pins H b)->tn i s.heap->J.stop i H ->
  wpAny (model P w) X.A (pyNext (.ref it)) (fun r s1=>r=none/\Inv X pins σ H s1) E s
 self:∀(A:QC) (i:Nat) (s:Qe) (Q:Qc->Qe->Prop) (E:Qc->Qe->Prop),tn i s.heap->Q (.ref it) s->wpAny (model P w) A (pyIter (.ref it)) Q E s
noncomputable abbrev TI:=St->Hp->(It->Hp->Prop)->Prop
noncomputable def PIE(X:Cx)(pins:List (Qd×Obj))(σ:St)(tg:Q7)(R:It->Hp->Prop)(itv:Qc)(s2:Qe):Prop :=
 ∃(it:Qd) (fp:List Qd) (tn:Nat->QL->Prop) (J:It) (H':Hp),itv=.ref it/\Inv X pins σ H' s2/\Turn X.prog X.w X.K tg J fp it tn/\tn 0 s2.heap/\(∀b∈fp,FpOk X pins H' b)/\R J H'
noncomputable def PI(X:Cx)(tg iter:Q7)(wi:TI):Prop :=
 ∀(pins:List (Qd×Obj)) (s:Qe) (σ:St) (H:Hp) (R:It->Hp->Prop),Inv X pins σ H s->wi σ H R ->
  wpAny (model X.prog X.w) X.A (eval iter X.env) (fun v s1=>wpAny (model X.prog X.w) X.A (pyIter v) (PIE X pins σ tg R) X.xe s1) X.xe s

theorem JhH{M:Model}{A:QC}{E:Qc->Qe->Prop}{s:Qe}{tg:Q7}{it:Qd}{u:Qc}{o:Obj}{n:String}{vs:Array Qc}{Q:Unit->Qe->Prop}(ho:s.heap.get? it=some o)(hc:o.cls=.type n)(hd:o.data=.fields vs)
 (hn:["enumerate","zip","dict_itemiterator","dict_reverseitemiterator","odict_iterator","itertools.zip_longest","itertools.pairwise"].contains n=false) (hQ:Q () s):wpAny M A (letOwnedTupleGo tg (.ref it) u) Q E s:=by
 unfold letOwnedTupleGo;cases tg <;> first
  | exact Qj hQ
  | (cases u <;> first
   | exact Qj hQ
   | (refine Qa (wpAny_load ho ?_)
      rw[hc,hd];show wpAny M A (if (["enumerate","zip","dict_itemiterator","dict_reverseitemiterator","odict_iterator","itertools.zip_longest","itertools.pairwise"].contains n && vs[0]? == some (rawInt _))=true then _ else _) Q E s;rw[if_neg (by intro h;rw[hn,Bool.false_and] at h;cases h)];exact Qj hQ))

noncomputable def Itl(K:Qx)(a:Qd):It :=
 ⟨fun i H=>∃xs x,SqL K H a xs/\xs[i]?=some x,fun i H x H'=>H'=H/\∀xs,SqL K H a xs->xs[i]?=some x,fun i H=>∃xs,SqL K H a xs/\xs.length<=i⟩
noncomputable def Itt(K:Qx)(a:Qd):It :=
 ⟨fun i H=>∃xs x,SqT K H a xs/\xs[i]?=some x,fun i H x H'=>H'=H/\∀xs,SqT K H a xs->xs[i]?=some x,fun i H=>∃xs,SqT K H a xs/\xs.length<=i⟩
noncomputable def Itr(lo:Int)(n:Nat):It:=⟨fun i _=>i<n,fun i H x H'=>H'=H/\x=.int (lo+i),fun i _=>n<=i⟩
theorem JgT{P:Qw}{w:QF}{K:Qx}{tg:Q7}(a it:Qd):Turn P w K tg (Itl K a) [it] it (fun i h=>h.IsListIter it a i) where
 mem:=by simp
 obj:=fun i h st b hb=>by
  have e:b=it:=by simpa using hb
  subst e;obtain⟨o,e,c,d⟩:=st;exact⟨o,e,fun v z=>by rw[d] at z;cases z⟩
 keep:=fun i h h' st k=>st.at fun o e=>k it (by simp) o e
 item:=by
  intro X hP hw hK hc i pins s σ H E I hf st hg;subst hP hw hK;obtain⟨xs,x,hq,hx⟩:=hg;obtain⟨its,rv,p,hz⟩:=I.list hq;obtain⟨u,hu,ru⟩:=rv.get hx;obtain⟨f0,f1,f2,f3,f4,f5⟩:=hf it (by simp);refine wpAny_pyNext_list_item st p.isList (x:=u) (by simpa using hu) fun h' st' sb=>?_
  have I1:Inv X pins σ H { s with heap:=h' }:=I.turned (t':=s.toks) (fun b o hb e=>(sb.2 b hb).trans e) f0 f1 f3 f4 f5;obtain⟨o,e,c,d⟩:=id st';exact⟨u,rfl,JhH (s:={ s with heap:=h' }) e c d (by decide) ⟨x,H,I1,ru,⟨rfl,fun ys hy=>by rw[I.list_inj hy hq];exact hx⟩,st',fun b hb=>(hf b hb).1⟩⟩
 done:=by intro X hP hw hK hc i pins s σ H E I hf st hg;subst hP hw hK;obtain⟨xs,hq,hx⟩:=hg;obtain⟨its,rv,p,hz⟩:=I.list hq;obtain⟨f0,f1,f2,f3,f4,f5⟩:=hf it (by simp);have hl:=rv.length;exact wpAny_pyNext_list_end (I.ok.hd hc) st p.isList (by simp;omega) fun h' eb=>⟨rfl,I.turned (t':=s.toks) (fun b o hb e=>eb b o hb e) f0 f1 f3 f4 f5⟩
 self:=fun _ _ _ _ _ st h=>wpAny_pyIter_listiter st h
theorem Jej{P:Qw}{w:QF}{K:Qx}{tg:Q7}(a it:Qd):Turn P w K tg (Itt K a) [it] it (fun i h=>h.IsTupleIter it a i) where
 mem:=by simp
 obj:=fun i h st b hb=>by
  have e:b=it:=by simpa using hb
  subst e;obtain⟨o,e,c,d⟩:=st;exact⟨o,e,fun v z=>by rw[d] at z;cases z⟩
 keep:=fun i h h' st k=>st.at fun o e=>k it (by simp) o e
 item:=by
  intro X hP hw hK hc i pins s σ H E I hf st hg;subst hP hw hK;obtain⟨xs,x,hq,hx⟩:=hg;obtain⟨its,rv,p,hz⟩:=I.tuple hq;obtain⟨u,hu,ru⟩:=rv.get hx;obtain⟨f0,f1,f2,f3,f4,f5⟩:=hf it (by simp);refine wpAny_pyNext_tuple_item st (show s.heap.IsTuple a its.toArray from p) (x:=u) (by simpa using hu) fun h' st' sb=>?_
  have I1:Inv X pins σ H { s with heap:=h' }:=I.turned (t':=s.toks) (fun b o hb e=>(sb.2 b hb).trans e) f0 f1 f3 f4 f5;obtain⟨o,e,c,d⟩:=id st';exact⟨u,rfl,JhH (s:={ s with heap:=h' }) e c d (by decide) ⟨x,H,I1,ru,⟨rfl,fun ys hy=>by rw[I.tuple_inj hy hq];exact hx⟩,st',fun b hb=>(hf b hb).1⟩⟩
 done:=by intro X hP hw hK hc i pins s σ H E I hf st hg;subst hP hw hK;obtain⟨xs,hq,hx⟩:=hg;obtain⟨its,rv,p,hz⟩:=I.tuple hq;obtain⟨f0,f1,f2,f3,f4,f5⟩:=hf it (by simp);have hl:=rv.length;exact wpAny_pyNext_tuple_end (I.ok.hd hc) st (show s.heap.IsTuple a its.toArray from p) (by simp;omega) fun h' eb=>⟨rfl,I.turned (t':=s.toks) (fun b o hb e=>eb b o hb e) f0 f1 f3 f4 f5⟩
 self:=fun _ _ _ _ _ st h=>wpAny_pyIter_tupleiter st h
theorem Jei{P:Qw}{w:QF}{K:Qx}{tg:Q7}(it:Qd)(lo:Int)(n:Nat):Turn P w K tg (Itr lo n) [it] it (fun i h=>IsRangeIter h it (lo+(i:Nat)*1) ((n:Int)-(i:Nat)) 1) where
 mem:=by simp
 obj:=fun i h st b hb=>by
  have e:b=it:=by simpa using hb
  subst e;exact⟨_,st,fun v z=>by have z':Data.fields _=Data.cell v:=z;cases z'⟩
 keep:=fun i h h' st k=>k it (by simp) _ st
 item:=by
  intro X hP hw hK hc i pins s σ H E I hf st hg;subst hP hw hK;obtain⟨f0,f1,f2,f3,f4,f5⟩:=hf it (by simp);have W:=Walks.range (prog:=X.prog) (w:=X.w) (I.ok.hd hc) it lo 1 n;refine W.item i s _ _ hg st fun v h' tk hv st' kk=>?_
  obtain⟨t,rfl⟩:=hv;have I1:Inv X pins σ H { s with heap:=h',toks:=tk }:=I.turned (fun b o hb e=>kk b o (by simpa using hb) e) f0 f1 f3 f4 f5;refine⟨_,rfl,JhH (s:={ s with heap:=h',toks:=tk }) (n:="range_iterator") st' rfl rfl (by decide) ⟨.int (lo+i),H,I1,⟨t,?_⟩,⟨rfl,rfl⟩,st',fun b hb=>(hf b hb).1⟩⟩;rw[Int.mul_one]
 done:=by intro X hP hw hK hc i pins s σ H E I hf st hg;subst hP hw hK;obtain⟨f0,f1,f2,f3,f4,f5⟩:=hf it (by simp);exact wpAny_pyNext_range_end (I.ok.hd hc) st (by have:n<=i:=hg;omega) fun h' eb=>⟨rfl,I.turned (t':=s.toks) (fun b o hb e=>eb b o hb e) f0 f1 f3 f4 f5⟩
 self:=fun _ _ _ _ _ st h=>wpAny_pyIter_rangeiter st h
end L2

namespace L2
open PySem PySem.Spec PyProof.Rows
section
variable{X:Cx}{tg:Q7}
noncomputable def Jl5(K:Qx)(tl:TE):TI:=fun σ H R=>tl σ H fun x H1=>∃a,x=.ref a/\(∃xs,SqL K H1 a xs)/\R (Itl K a) H1
noncomputable def Jpp(K:Qx)(tl:TE):TI:=fun σ H R=>tl σ H fun x H1=>∃a,x=.ref a/\(∃xs,SqT K H1 a xs)/\R (Itt K a) H1
theorem JkO{l:Q7}{tl:TE}(hl:PE X l tl):PI X tg l (Jl5 X.K tl):=by
 intro pins s σ H R I h;refine thn (hl pins s σ H _ I h) fun v s1 ⟨x,H1,I1,r1,q1⟩=>?_
 obtain⟨a,e,⟨xs,hq⟩,q⟩:=q1;subst e;cases r1;obtain⟨its,rv,p,hz⟩:=I1.list hq;refine LN p.isList ?_;refine⟨s1.heap.objs.size,[s1.heap.objs.size],_,_,H1,rfl,I1.kept (t':=s1.toks) fun b o e=>Qi _ e,JgT a _,⟨_,Qn _ rfl,rfl,rfl⟩,fun b hb=>?_,q⟩;have e:b=s1.heap.objs.size:=by simpa using hb
 subst e;exact I1.fpOk (Qr _) (I1.hok.fresh (Qr _))
theorem JnN{l:Q7}{tl:TE}(hl:PE X l tl):PI X tg l (Jpp X.K tl):=by
 intro pins s σ H R I h;refine thn (hl pins s σ H _ I h) fun v s1 ⟨x,H1,I1,r1,q1⟩=>?_
 obtain⟨a,e,⟨xs,hq⟩,q⟩:=q1;subst e;cases r1;obtain⟨its,rv,p,hz⟩:=I1.tuple hq;refine Mp (show s1.heap.IsTuple a its.toArray from p) ?_;refine⟨s1.heap.objs.size,[s1.heap.objs.size],_,_,H1,rfl,I1.kept (t':=s1.toks) fun b o e=>Qi _ e,Jej a _,⟨_,Qn _ rfl,rfl,rfl⟩,fun b hb=>?_,q⟩;have e:b=s1.heap.objs.size:=by simpa using hb
 subst e;exact I1.fpOk (Qr _) (I1.hok.fresh (Qr _))
theorem JiD{pins:List (Qd×Obj)}{σ:St}{H:Hp}{s:Qe}{R:It->Hp->Prop}{E:Qc->Qe->Prop}{lo hi:Int}{t u v:Tok}{tk:Nat}(I:Inv X pins σ H s)(h1:-(2 ^ 62)<=lo)(h2:lo<2 ^ 62)(h3:-(2 ^ 62)<=hi)(h4:hi<2 ^ 62)
 (q:R (Itr lo (hi-lo).toNat) H):wpAny (model X.prog X.w) X.A (pyIter (.ref s.heap.objs.size)) (PIE X pins σ tg R) E { s with heap:=s.heap.push { cls:=.type "range",data:=.fields #[.int lo t,.int hi u,.int 1 v] },toks:=tk }:=by
 refine wpAny_pyIter_range (IsRange.new ..) (small_one h1 h2 h3 h4) ?_;have I1:Inv X pins σ H { s with heap:=s.heap.push { cls:=.type "range",data:=.fields #[.int lo t,.int hi u,.int 1 v] },toks:=tk }:=I.kept fun b o e=>Qi _ e
 refine⟨(s.heap.push { cls:=.type "range",data:=.fields #[.int lo t,.int hi u,.int 1 v] }).objs.size,[(s.heap.push { cls:=.type "range",data:=.fields #[.int lo t,.int hi u,.int 1 v] }).objs.size],_,_,H,rfl,
  I1.kept (t':=tk) fun b o e=>Qi _ e,Jei _ lo (hi-lo).toNat,?_,fun b hb=>?_,q⟩
 ·have e1:lo+((0:Nat):Int)*1=lo:=by simp
  have e2:(((hi-lo).toNat:Nat):Int)-((0:Nat):Int)=Builtin.Range.rangeSize lo hi 1:=by rw[rangeSize_one];split <;> omega
  show IsRangeIter _ _ (lo+((0:Nat):Int)*1) ((((hi-lo).toNat:Nat):Int)-((0:Nat):Int)) 1;rw[e1,e2];exact Qn _ rfl
 ·have e:b=(s.heap.push { cls:=.type "range",data:=.fields #[.int lo t,.int hi u,.int 1 v] }).objs.size:=by simpa using hb
  subst e;exact I1.fpOk (Qr _) (I1.hok.fresh (Qr _))
noncomputable def Jl6(ta:TA):TI:=fun σ H R=>ta σ H fun vs H1=>∃j:Int,vs=[.int j]/\-(2 ^ 62)<=j/\j<2 ^ 62/\R (Itr 0 j.toNat) H1
theorem JaG{a:Q7}{ta:TA}{p pos:Pos}(hg:Gl X "range")(hm:X.mg "range"=none)(ha:PA X [a] ta)(hs:starEach [a] X.env=[(false,eval a X.env)]:=by rfl):PI X tg (.Call (.Name "range" p) [a] [] pos) (Jl6 ta):=by
 intro pins s σ H R I h;refine Call_ (UJ I hg hm boot_range (Kw (thn (ha pos pins s σ H _ I h) fun us s1 ⟨vs,H1,I1,r1,q1⟩=>?_) hs rfl));obtain⟨j,e,q1,q2,q⟩:=q1;subst e
 cases r1 with
 | cons r rr=>cases rr;obtain⟨t,rfl⟩:=r;exact call_range_1 (JiD I1 (by omega) (by omega) q1 q2 (by simpa using q))
noncomputable def JlG(wi:TI)(g:TG)(tb:TS):TS:=fun D σ H=>wi σ H fun J H1=>∃W:Nat->Nat->St->Hp->Prop,(∃m,W 0 m σ H1)/\∀i m σ H,W i m σ H ->
 (J.stop i H/\D.nx σ H)\/(J.go i H/\∃N:St->Hp->Prop,(∀σ' H',N σ' H'->∃m',m'<m/\W (i+1) m' σ' H')/\∀x H',J.yld i H x H'->g x σ H' fun σ2 H2=>tb { D with nx:=N,ct:=N,bk:=D.nx } σ2 H2)
noncomputable def ZC(fp:List Qd)(h:QL):List (Qd×Obj):=fp.filterMap fun b=>(h.get? b).map fun o=>(b,o)
theorem Vd{fp:List Qd}{h:QL}{b:Qd}{o:Obj}(hb:b∈fp)(e:h.get? b=some o):(b,o)∈ZC fp h:=List.mem_filterMap.mpr ⟨b,hb,by rw[e];rfl⟩
theorem Jgz{fp:List Qd}{h:QL}{p:Qd×Obj}(hp:p∈ZC fp h):p.1∈fp/\h.get? p.1=some p.2:=by
 obtain⟨b,hb,e⟩:=List.mem_filterMap.mp hp
 cases q:h.get? b with
 | none=>rw[q] at e;cases e
 | some o=>rw[q] at e;have e':(b,o)=p:=QT e;subst e';exact⟨hb,q⟩
theorem Inv.pinned{pins:List (Qd×Obj)}{σ:St}{H:Hp}{s:Qe}{fp:List Qd}(I:Inv X pins σ H s)(hf:∀b∈fp,FpOk X pins H b)(ho:∀b∈fp,∃o,s.heap.get? b=some o/\∀v,o.data≠.cell v):Inv X (pins++ZC fp s.heap) σ H s :=
 I.pins_of fun p hp=>(GF.mp hp).elim (fun z=>I.pin p (Gz _ z)) fun z=>by obtain⟨hb,e⟩:=Jgz z;obtain⟨f0,f1,f2,_⟩:=hf p.1 hb;obtain⟨o,e',d⟩:=ho p.1 hb;rw[e] at e';cases e';exact⟨e,f0,f1,f2,d⟩
theorem Inv.unpinned{pins pl:List (Qd×Obj)}{σ:St}{H:Hp}{s:Qe}(I:Inv X (pins++pl) σ H s):Inv X pins σ H s:=I.pins_of fun p hp=>I.pin p (Gz _ (L0 _ hp))
theorem YA{iter:Q7}{body:List Kj}{wi:TI}{g:TG}{tb:TS}{pos:Pos}(hp:PassesOwn (model X.prog X.w) X.A X.env X.xe)(hc:X.calm=true)(hi:PI X tg iter wi)(hg:PG X tg g)(hb:PSs X body tb)
 (hs:∀x,foldedSetIterable iter X.env x=pure x:=by intro _;rfl):PS X (.For tg iter body [] pos) (JlG wi g tb):=by
 intro pins s σ H D I h;refine wpAny_For (thn (hi pins s σ H _ I h) fun v s1 h1=>thn h1 fun itv s2 h2=>?_) hs;obtain⟨it,fp,tn,J,H2,e,I2,T,st2,f2,W,⟨m0,w0⟩,turn⟩:=h2;subst e
 -- what stays true of the iterator's objects through the loop
 have stat:∀{H':Hp},(∀b∈fp,H' b=none)->∀b∈fp,FpOk X pins H' b:=fun hn b hb=>⟨hn b hb,(f2 b hb).2⟩
 refine codeAny_forLoop_any (fun n s'=>∃i σ' H',Inv X pins σ' H' s'/\tn i s'.heap/\(∀b∈fp,H' b=none)/\W i n σ' H') ?_ m0 ⟨0,σ,H2,I2,st2,fun b hb=>(f2 b hb).1,w0⟩;rintro n s3 ⟨i,σ3,H3,I3,st3,fr3,w3⟩;rcases turn i n σ3 H3 w3 with ⟨stop,qn⟩|⟨go,N,hN,step⟩
 ·refine KG hp (thn (T.done X rfl rfl rfl hc i pins s3 σ3 H3 X.xe I3 (stat fr3) st3 stop) fun r s4 ⟨hr,I4⟩=>?_);subst hr;exact L3 ⟨σ3,H3,I4,qn⟩
 ·refine KG hp (thn (T.item X rfl rfl rfl hc i pins s3 σ3 H3 X.xe I3 (stat fr3) st3 go) fun r s4 ⟨u,hr,h4⟩=>?_);subst hr;refine KG hp (thn h4 fun _ s5 ⟨x,H5,I5,r5,y5,st5,fr5⟩=>?_);have I5':=I5.pinned (stat fr5) (T.obj _ _ st5);refine KG hp (thn (hg _ s5 σ3 H5 x u _ I5' r5 (step x H5 y5)) fun _ s6 ⟨σ6,H6,I6,q6⟩=>?_);refine KG hp (thn (hb _ s6 σ6 H6 _ I6 q6) fun f s7 q7=>?_)
  have again:∀{σ7:St} {H7:Hp},Inv X (pins++ZC fp s5.heap) σ7 H7 s7->N σ7 H7->∃m,m<n/\∃i σ' H',Inv X pins σ' H' s7/\tn i s7.heap/\(∀b∈fp,H' b=none)/\W i m σ' H':=fun {σ7 H7} I7 n7=>by obtain⟨m',hm,w7⟩:=hN σ7 H7 n7;refine⟨m',hm,i+1,σ7,H7,I7.unpinned,T.keep _ _ _ st5 fun b hb o e=>(I7.pin (b,o) (Gz _ (Gz _ (Vd hb e)))).1,fun b hb=>?_,w7⟩;obtain⟨o,e,d⟩:=T.obj _ _ st5 b hb;exact(I7.pin (b,o) (Gz _ (Gz _ (Vd hb e)))).2.1
  cases f with
  | next=>obtain⟨σ7,H7,I7,n7⟩:=q7;exact again I7 n7
  | cont=>obtain⟨σ7,H7,I7,n7⟩:=q7;exact again I7 n7
  | brk=>obtain⟨σ7,H7,I7,q7⟩:=q7;exact⟨σ7,H7,I7.unpinned,q7⟩
  | ret v=>obtain⟨x7,σ7,H7,I7,r7,q7⟩:=q7;exact⟨x7,σ7,H7,I7.unpinned,r7,q7⟩
end

theorem JhB{K:Qx}{a:Qd}{xs:List V}{g:TG}{tb:TS}{D:Ends}{σ:St}{H:Hp}(Pv:Nat->St->Hp->Prop)(h0:Pv 0 σ H)(hl:∀i σ H,i<=xs.length->Pv i σ H->SqL K H a xs)
 (hs:∀i x σ H,xs[i]?=some x->Pv i σ H->g x σ H fun σ2 H2=>tb { D with nx:=Pv (i+1),ct:=Pv (i+1),bk:=D.nx } σ2 H2) (hd:∀σ H,Pv xs.length σ H->D.nx σ H) :
 ∃W:Nat->Nat->St->Hp->Prop,(∃m,W 0 m σ H)/\∀i m σ H,W i m σ H ->
  ((Itl K a).stop i H/\D.nx σ H)\/((Itl K a).go i H/\∃N:St->Hp->Prop,(∀σ' H',N σ' H'->∃m',m'<m/\W (i+1) m' σ' H')/\∀x H',(Itl K a).yld i H x H'->g x σ H' fun σ2 H2=>tb { D with nx:=N,ct:=N,bk:=D.nx } σ2 H2):=by
 refine⟨fun i m σ H=>m=xs.length-i/\i<=xs.length/\Pv i σ H,⟨xs.length,by simp,GA _,h0⟩,?_⟩;rintro i m σ H ⟨rfl,hi,p⟩;have q:=hl i σ H hi p
 by_cases hlt:i<xs.length
 ·refine .inr ⟨⟨xs,xs[i],q,by simp[hlt]⟩,Pv (i+1),fun σ' H' p'=>⟨xs.length-(i+1),by omega,rfl,hlt,p'⟩,fun x H' y=>?_⟩;obtain⟨e,y⟩:=y;subst e;exact hs i x σ _ (y xs q) p
 ·have e:i=xs.length:=by omega
  subst e;exact .inl ⟨⟨xs,q,Qr _⟩,hd σ H p⟩
theorem Jkb{K:Qx}{a:Qd}{xs:List V}{g:TG}{tb:TS}{D:Ends}{σ:St}{H:Hp}(Pv:Nat->St->Hp->Prop)(h0:Pv 0 σ H)(hl:∀i σ H,i<=xs.length->Pv i σ H->SqT K H a xs)
 (hs:∀i x σ H,xs[i]?=some x->Pv i σ H->g x σ H fun σ2 H2=>tb { D with nx:=Pv (i+1),ct:=Pv (i+1),bk:=D.nx } σ2 H2) (hd:∀σ H,Pv xs.length σ H->D.nx σ H) :
 ∃W:Nat->Nat->St->Hp->Prop,(∃m,W 0 m σ H)/\∀i m σ H,W i m σ H ->
  ((Itt K a).stop i H/\D.nx σ H)\/((Itt K a).go i H/\∃N:St->Hp->Prop,(∀σ' H',N σ' H'->∃m',m'<m/\W (i+1) m' σ' H')/\∀x H',(Itt K a).yld i H x H'->g x σ H' fun σ2 H2=>tb { D with nx:=N,ct:=N,bk:=D.nx } σ2 H2):=by
 refine⟨fun i m σ H=>m=xs.length-i/\i<=xs.length/\Pv i σ H,⟨xs.length,by simp,GA _,h0⟩,?_⟩;rintro i m σ H ⟨rfl,hi,p⟩;have q:=hl i σ H hi p
 by_cases hlt:i<xs.length
 ·refine .inr ⟨⟨xs,xs[i],q,by simp[hlt]⟩,Pv (i+1),fun σ' H' p'=>⟨xs.length-(i+1),by omega,rfl,hlt,p'⟩,fun x H' y=>?_⟩;obtain⟨e,y⟩:=y;subst e;exact hs i x σ _ (y xs q) p
 ·have e:i=xs.length:=by omega
  subst e;exact .inl ⟨⟨xs,q,Qr _⟩,hd σ H p⟩
end L2

namespace L2
open PySem PySem.Spec PyProof.Rows

noncomputable abbrev R2:=V->V->Hp->VK->Prop
noncomputable def OpR(X:Cx)(f:Qc->Qc->Sem Qc)(r:R2):Prop :=
 ∀(pins:List (Qd×Obj)) (s:Qe) (σ:St) (H:Hp) (x y:V) (v u:Qc) (Q:VK),Inv X pins σ H s->RelV x v->RelV y u->r x y H Q ->
  wpAny (model X.prog X.w) X.A (f v u) (EP X pins σ Q) X.xe s
noncomputable def UnR(X:Cx)(f:Qc->Sem Qc)(r:V->Hp->VK->Prop):Prop :=
 ∀(pins:List (Qd×Obj)) (s:Qe) (σ:St) (H:Hp) (x:V) (v:Qc) (Q:VK),Inv X pins σ H s->RelV x v->r x H Q ->
  wpAny (model X.prog X.w) X.A (f v) (EP X pins σ Q) X.xe s
noncomputable def CallR(X:Cx)(f:Qc)(r:List V->Hp->VK->Prop):Prop :=
 ∀(pins:List (Qd×Obj)) (s:Qe) (σ:St) (H:Hp) (xs:List V) (us:List Qc) (Q:VK),Inv X pins σ H s->Vals xs us->r xs H Q ->
  wpAny (model X.prog X.w) X.A (call f us) (EP X pins σ Q) X.xe s
noncomputable def JqB(X:Cx)(r:V->Hp->(Bool->Hp->Prop)->Prop):Prop :=
 ∀(pins:List (Qd×Obj)) (s:Qe) (σ:St) (H:Hp) (x:V) (v:Qc) (Q:Bool->Hp->Prop),Inv X pins σ H s->RelV x v->r x H Q ->
  wpAny (model X.prog X.w) X.A (truthy v) (TP X pins σ Q) X.xe s

noncomputable def tOp(r:R2)(ta tb:TE):TE:=fun σ H Q=>ta σ H fun x H1=>tb σ H1 fun y H2=>r x y H2 Q
noncomputable def tUn(r:V->Hp->VK->Prop)(ta:TE):TE:=fun σ H Q=>ta σ H fun x H1=>r x H1 Q
noncomputable def rI(C:Int->Int->Prop)(g:Int->Int->V):R2:=fun x y H Q=>∃i j,x=.int i/\y=.int j/\C i j/\Q (g i j) H
noncomputable def rI0(g:Int->Int->V):R2:=fun x y H Q=>∃i j,x=.int i/\y=.int j/\Q (g i j) H
noncomputable def rU(g:Int->V):V->Hp->VK->Prop:=fun x H Q=>∃i,x=.int i/\Q (g i) H

section
variable{X:Cx}{a b c:Q7}{ta tb tc:TE}{pos:Pos}

theorem Jmw(ha:PE X a ta)(hb:PE X b tb){pins:List (Qd×Obj)}{s:Qe}{σ:St}{H:Hp}{R:V->V->Hp->Prop}(I:Inv X pins σ H s)
 (h:ta σ H fun x H1=>tb σ H1 fun y H2=>R x y H2) {Q:Qc->Qe->Prop} {f:Qc->Qc->Sem Qc}
 (hf:∀v u s2 x y H2,Inv X pins σ H2 s2->RelV x v->RelV y u->R x y H2->wpAny (model X.prog X.w) X.A (f v u) Q X.xe s2) :
 wpAny (model X.prog X.w) X.A (eval a X.env) (fun v s₁=>wpAny (model X.prog X.w) X.A (eval b X.env) (fun u s₂=>wpAny (model X.prog X.w) X.A (f v u) Q X.xe s₂) X.xe s₁) X.xe s:=by
 refine thn (ha pins s σ H _ I h) fun v s1 ⟨x,H1,I1,r1,q1⟩=>?_
 refine thn (hb pins s1 σ H1 _ I1 q1) fun u s2 ⟨y,H2,I2,r2,q2⟩=>?_
 exact hf v u s2 x y H2 I2 r1 r2 q2

theorem Jm{op:Operator}{r:R2}(ho:OpR X (binaryOp op) r)(ha:PE X a ta)(hb:PE X b tb):PE X (.BinOp a op b pos) (tOp r ta tb):=by intro pins s σ H Q I h;exact wpAny_BinOp (Jmw ha hb I h fun v u s2 x y H2 I2 rx ry q=>ho pins s2 σ H2 x y v u Q I2 rx ry q)
theorem Jik{op:UnaryOp}{r:V->Hp->VK->Prop}(ho:UnR X (unaryOp op) r)(ha:PE X a ta):PE X (.UnaryOp op a pos) (tUn r ta):=by intro pins s σ H Q I h;exact UnaryOp_ (thn (ha pins s σ H _ I h) fun v s1 ⟨x,H1,I1,r1,q1⟩=>ho pins s1 σ H1 x v Q I1 r1 q1)
theorem opI{f:Qc->Qc->Sem Qc}{C:Int->Int->Prop}{g:Int->Int->Int}
 (rule:∀(i j:Int) (t u:Tok) (s:Qe) (Q:Qc->Qe->Prop) (E:Qc->Qe->Prop),C i j->Q (.int (g i j) s.toks) { s with toks:=s.toks+1 }->wpAny (model X.prog X.w) X.A (f (.int i t) (.int j u)) Q E s) :
 OpR X f (rI C fun i j=>.int (g i j)):=by
 intro pins s σ H x y v u Q I rx ry h;obtain⟨i,j,rfl,rfl,hc,q⟩:=h;obtain⟨t,rfl⟩:=rx;obtain⟨t',rfl⟩:=ry;exact rule i j t t' s _ _ hc ⟨.int (g i j),H,I.tok _,⟨_,rfl⟩,q⟩
theorem JpI{f:Qc->Qc->Sem Qc}{g:Int->Int->Int}
 (rule:∀(i j:Int) (t u:Tok) (s:Qe) (Q:Qc->Qe->Prop) (E:Qc->Qe->Prop),Q (.int (g i j) s.toks) { s with toks:=s.toks+1 }->wpAny (model X.prog X.w) X.A (f (.int i t) (.int j u)) Q E s) :
 OpR X f (rI0 fun i j=>.int (g i j)):=by
 intro pins s σ H x y v u Q I rx ry h;obtain⟨i,j,rfl,rfl,q⟩:=h;obtain⟨t,rfl⟩:=rx;obtain⟨t',rfl⟩:=ry;exact rule i j t t' s _ _ ⟨.int (g i j),H,I.tok _,⟨_,rfl⟩,q⟩
theorem JkF{f:Qc->Qc->Sem Qc}{g:Int->Int->Bool}
 (rule:∀(i j:Int) (t u:Tok) (s:Qe) (Q:Qc->Qe->Prop) (E:Qc->Qe->Prop),Q (.bool (g i j)) s->wpAny (model X.prog X.w) X.A (f (.int i t) (.int j u)) Q E s) :
 OpR X f (rI0 fun i j=>.bl (g i j)):=by
 intro pins s σ H x y v u Q I rx ry h;obtain⟨i,j,rfl,rfl,q⟩:=h;obtain⟨t,rfl⟩:=rx;obtain⟨t',rfl⟩:=ry;exact rule i j t t' s _ _ ⟨.bl (g i j),H,I,rfl,q⟩

noncomputable def JoW(i j:Int):Prop:=0<j/\j<1073741824
noncomputable def JoX(i j:Int):Prop:=0<=j/\j<=1000000/\i.natAbs<2 ^ 64
noncomputable def CMul(i j:Int):Prop:=(-(2 ^ 64)<i/\i<2 ^ 64)\/(-(2 ^ 64)<j/\j<2 ^ 64)
theorem CMul.ok{i j:Int}(h:CMul i j):IntMulOk i j:=by
 rcases h with ⟨h1,h2⟩|⟨h1,h2⟩
 ·exact .of_left (intBits_le_64 h1 h2)
 ·exact .of_right (intBits_le_64 h1 h2)
theorem op_add:OpR X (binaryOp .Add) (rI0 fun i j=>.int (i+j)):=JpI fun _ _ _ _ _ _ _ q=>add_int q
theorem Yy:OpR X (binaryOp .Sub) (rI0 fun i j=>.int (i-j)):=JpI fun _ _ _ _ _ _ _ q=>sub_int q
theorem Ym:OpR X (binaryOp .Mult) (rI CMul fun i j=>.int (i*j)):=opI fun _ _ _ _ _ _ _ hc q=>mul_int q hc.ok
theorem Jbx:OpR X (binaryOp .FloorDiv) (rI JoW fun i j=>.int (i / j)):=opI fun i j _ _ _ _ _ hc q=>by
 have h1:(0:Int)<j:=hc.1
 have h2:j<1073741824:=hc.2;exact floordiv_int (by omega) (by rw[Int.fdiv_eq_ediv_of_nonneg i (by omega)];exact q) (.inl (PyProof.noPylong_small (by omega)))
theorem UL:OpR X (binaryOp .Mod) (rI (fun _ j=>0<j) fun i j=>.int (i % j)):=opI fun i j _ _ _ _ _ hc q=>by have h1:(0:Int)<j:=hc;exact mod_int' (by omega) (by rw[Int.fmod_eq_emod_of_nonneg i (by omega)];exact q)
theorem Jie:OpR X (binaryOp .Pow) (rI JoX fun i j=>.int (i ^ j.toNat)):=opI fun _ _ _ _ _ _ _ hc q=>pow_int_small hc.1 hc.2.1 hc.2.2 q
theorem unI{f:Qc->Sem Qc}{g:Int->Int}
 (rule:∀(i:Int) (t:Tok) (s:Qe) (Q:Qc->Qe->Prop) (E:Qc->Qe->Prop),Q (.int (g i) s.toks) { s with toks:=s.toks+1 }->wpAny (model X.prog X.w) X.A (f (.int i t)) Q E s) :
 UnR X f (rU fun i=>.int (g i)):=by
 intro pins s σ H x v Q I rx h;obtain⟨i,rfl,q⟩:=h;obtain⟨t,rfl⟩:=rx;exact rule i t s _ _ ⟨.int (g i),H,I.tok _,⟨_,rfl⟩,q⟩
theorem Jek:UnR X (unaryOp .USub) (rU fun i=>.int (-i)):=unI fun _ _ _ _ _ q=>neg_int q
end

noncomputable def Joy:V->V->Bool
 | .non,.non=>true|.non,.int _=>true|.int _,.non=>true|.non,.bl _=>true|.bl _,.non=>true|.non,.str _=>true|.str _,.non=>true
 | .int _,.int _=>true|.bl _,.bl _=>true|.str _,.str _=>true|.byt _,.byt _=>true
 | .int _,.str _=>true|.str _,.int _=>true|.bl _,.str _=>true|.str _,.bl _=>true
 | _,_=>false
noncomputable def rEq:R2:=fun x y H Q=>Joy x y=true/\Q (.bl (decide (x=y))) H
noncomputable def rNe:R2:=fun x y H Q=>Joy x y=true/\Q (.bl (!decide (x=y))) H

theorem JeF{i j:Int}:decide (V.int i=V.int j)=(i == j):=by rw[Kt];simp
theorem Jhr{i j:Bool}:decide (V.bl i=V.bl j)=(i == j):=by rw[Kt];simp
theorem JeG{i j:Str}:decide (V.str i=V.str j)=(i == j):=by rw[Kt];simp
theorem JeE{i j:Array UInt8}:decide (V.byt i=V.byt j)=(i.toList == j.toList):=by rw[Kt];cases i;cases j;simp

section
variable{X:Cx}{a b c:Q7}{ta tb tc:TE}{pos:Pos}
theorem Jx{pins:List (Qd×Obj)}{σ:St}{H:Hp}{s:Qe}{Q:VK}{k k':Bool}(I:Inv X pins σ H s)(q:Q (.bl k) H)(e:k=k'):EP X pins σ Q (.bool k') s:=by subst e;exact⟨.bl k,H,I,rfl,q⟩
theorem op_eq:OpR X (compareOp .Eq) rEq:=by
 intro pins s σ H x y v u Q I rx ry h;obtain⟨hs,q⟩:=h
 cases x with
 | non =>
  cases rx
  cases y with
  | non=>cases ry;exact PySem.EqNone.eq_none_none (Jx I q (by simp))
  | bl j=>cases ry;exact PySem.EqNone.eq_none_bool (Jx I q (by simp))
  | int j=>obtain⟨t',rfl⟩:=ry;exact PySem.EqNone.eq_none_int (Jx I q (by simp))
  | str j=>obtain⟨t',rfl⟩:=ry;exact PySem.EqNone.eq_none_str (Jx I q (by simp))
  | _=>exact absurd (show false=true from hs) QD
 | bl i =>
  cases rx
  cases y with
  | non=>cases ry;exact PySem.EqNone.eq_bool_none (Jx I q (by simp))
  | bl j=>cases ry;exact eq_bool (Jx I q Jhr)
  | str j=>obtain⟨t',rfl⟩:=ry;exact PySem.EqMixed.eq_bool_str (Jx I q (by simp))
  | _=>exact absurd (show false=true from hs) QD
 | int i =>
  obtain⟨t,rfl⟩:=rx
  cases y with
  | non=>cases ry;exact PySem.EqNone.eq_int_none (Jx I q (by simp))
  | int j=>obtain⟨t',rfl⟩:=ry;exact eq_int (Jx I q JeF)
  | str j=>obtain⟨t',rfl⟩:=ry;exact PySem.EqMixed.eq_int_str (Jx I q (by simp))
  | _=>exact absurd (show false=true from hs) QD
 | str i =>
  obtain⟨t,rfl⟩:=rx
  cases y with
  | non=>cases ry;exact PySem.EqNone.eq_str_none (Jx I q (by simp))
  | bl j=>cases ry;exact PySem.EqMixed.eq_str_bool (Jx I q (by simp))
  | int j=>obtain⟨t',rfl⟩:=ry;exact PySem.EqMixed.eq_str_int (Jx I q (by simp))
  | str j=>obtain⟨t',rfl⟩:=ry;exact eq_str (Jx I q JeG)
  | _=>exact absurd (show false=true from hs) QD
 | byt i =>
  obtain⟨t,rfl⟩:=rx
  cases y with
  | byt j=>obtain⟨t',rfl⟩:=ry;exact PySem.W.eq_bytes (Jx I q JeE)
  | _=>exact absurd (show false=true from hs) QD
 | _=>cases y <;> exact absurd (show false=true from hs) QD
theorem op_ne:OpR X (compareOp .NotEq) rNe:=by
 intro pins s σ H x y v u Q I rx ry h;obtain⟨hs,q⟩:=h
 cases x with
 | non =>
  cases rx
  cases y with
  | non=>cases ry;exact PySem.EqNone.ne_none_none (Jx I q (by simp))
  | bl j=>cases ry;exact PySem.EqNone.ne_none_bool (Jx I q (by simp))
  | int j=>obtain⟨t',rfl⟩:=ry;exact PySem.EqNone.ne_none_int (Jx I q (by simp))
  | str j=>obtain⟨t',rfl⟩:=ry;exact PySem.EqNone.ne_none_str (Jx I q (by simp))
  | _=>exact absurd (show false=true from hs) QD
 | bl i =>
  cases rx
  cases y with
  | non=>cases ry;exact PySem.EqNone.ne_bool_none (Jx I q (by simp))
  | bl j=>cases ry;exact ne_bool (Jx I q (congrArg not Jhr))
  | str j=>obtain⟨t',rfl⟩:=ry;exact PySem.EqMixed.ne_bool_str (Jx I q (by simp))
  | _=>exact absurd (show false=true from hs) QD
 | int i =>
  obtain⟨t,rfl⟩:=rx
  cases y with
  | non=>cases ry;exact PySem.EqNone.ne_int_none (Jx I q (by simp))
  | int j=>obtain⟨t',rfl⟩:=ry;exact ne_int (Jx I q (congrArg not JeF))
  | str j=>obtain⟨t',rfl⟩:=ry;exact PySem.EqMixed.ne_int_str (Jx I q (by simp))
  | _=>exact absurd (show false=true from hs) QD
 | str i =>
  obtain⟨t,rfl⟩:=rx
  cases y with
  | non=>cases ry;exact PySem.EqNone.ne_str_none (Jx I q (by simp))
  | bl j=>cases ry;exact PySem.EqMixed.ne_str_bool (Jx I q (by simp))
  | int j=>obtain⟨t',rfl⟩:=ry;exact PySem.EqMixed.ne_str_int (Jx I q (by simp))
  | str j=>obtain⟨t',rfl⟩:=ry;exact ne_str (Jx I q (congrArg not JeG))
  | _=>exact absurd (show false=true from hs) QD
 | byt i =>
  obtain⟨t,rfl⟩:=rx
  cases y with
  | byt j=>obtain⟨t',rfl⟩:=ry;exact PySem.W.ne_bytes (Jx I q (congrArg not JeE))
  | _=>exact absurd (show false=true from hs) QD
 | _=>cases y <;> exact absurd (show false=true from hs) QD

theorem JcN:OpR X (compareOp .Lt) (rI0 fun i j=>.bl (decide (i<j))):=JkF fun _ _ _ _ _ _ _ q=>lt_int q
theorem Jmd:OpR X (compareOp .LtE) (rI0 fun i j=>.bl (decide (i<=j))):=JkF fun _ _ _ _ _ _ _ q=>le_int q
theorem JcM:OpR X (compareOp .Gt) (rI0 fun i j=>.bl (decide (j<i))):=JkF fun _ _ _ _ _ _ _ q=>gt_int q
theorem Jmc:OpR X (compareOp .GtE) (rI0 fun i j=>.bl (decide (j<=i))):=JkF fun _ _ _ _ _ _ _ q=>ge_int q
theorem JnB:OpR X (compareOp .Is) (fun x y H Q=>y=.non/\Q (.bl (decide (x=.non))) H):=by
 intro pins s σ H x y v u Q I rx ry h;obtain⟨rfl,q⟩:=h;cases ry;refine is_none_gen (Jx I q ?_);cases x <;> first
  | (cases rx;rfl)
  | (obtain⟨t,rfl⟩:=rx;rfl)
theorem JkJ:OpR X (compareOp .IsNot) (fun x y H Q=>y=.non/\Q (.bl (!decide (x=.non))) H):=by
 intro pins s σ H x y v u Q I rx ry h;obtain⟨rfl,q⟩:=h;cases ry;refine isnot_none_gen (Jx I q ?_);cases x <;> first
  | (cases rx;rfl)
  | (obtain⟨t,rfl⟩:=rx;rfl)

theorem OpR.or{f:Qc->Qc->Sem Qc}{r r':R2}(h:OpR X f r)(h':OpR X f r'):OpR X f (fun x y H Q=>r x y H Q\/r' x y H Q):=by
 intro pins s σ H x y v u Q I rx ry q;rcases q with q|q
 ·exact h pins s σ H x y v u Q I rx ry q
 ·exact h' pins s σ H x y v u Q I rx ry q

theorem JK(b:Q7){op:CmpOp}(h:op≠.In:=by decide)(h2:op≠.NotIn:=by decide):behindInMarks op b=false:=by
 have e1:(op == CmpOp.In)=false:=by cases op <;> first|rfl|exact absurd rfl h
 have e2:(op == CmpOp.NotIn)=false:=by cases op <;> first|rfl|exact absurd rfl h2
 cases b <;> simp[behindInMarks,e1,e2]
theorem Jfh{op:CmpOp}{r:R2}(ho:OpR X (compareOp op) r)(ha:PE X a ta)(hb:PE X b tb)(hm:behindInMarks op b=false):PE X (.Compare a [op] [b] pos) (tOp r ta tb):=by intro pins s σ H Q I h;exact wpAny_Compare1 (Jmw ha hb I h fun v u s2 x y H2 I2 rx ry q=>ho pins s2 σ H2 x y v u Q I2 rx ry q) hm
noncomputable def Ji6(t:TE):TT:=fun σ H Q=>t σ H fun x H'=>∃k,x=.bl k/\Q k H'
theorem JC{op:CmpOp}{r:R2}(ho:OpR X (compareOp op) r)(ha:PE X a ta)(hb:PE X b tb)(hm:behindInMarks op b=false):PT X (.Compare a [op] [b] pos) (Ji6 (tOp r ta tb)):=by
 intro pins s σ H Q I h;refine wpAny_isTrue_Compare1 (thn (ha pins s σ H _ I h) fun v s1 ⟨x,H1,I1,r1,q1⟩=>thn (hb pins s1 σ H1 _ I1 q1) fun u s2 ⟨y,H2,I2,r2,q2⟩=>thn (ho pins s2 σ H2 x y v u _ I2 r1 r2 q2) fun c s3 ⟨z,H3,I3,r3,k,e,q3⟩=>?_) hm
 subst e;cases r3;exact Kq ⟨H3,I3,q3⟩
noncomputable def Jef(r r':R2)(ta tb tc:TE):TE:=fun σ H Q=>ta σ H fun x H1=>tb σ H1 fun y H2=>r x y H2 fun z H3=>∃k,z=.bl k ∧
 (if k=true then tc σ H3 fun w' H4=>r' y w' H4 Q else Q (.bl false) H3)
theorem Jif{op op':CmpOp}{r r':R2}(ho:OpR X (compareOp op) r)(ho':OpR X (compareOp op') r')(ha:PE X a ta)(hb:PE X b tb)(hc:PE X c tc)
 (hm:lastMarks [op,op'] [b,c]=false:=by with_unfolding_all rfl):PE X (.Compare a [op,op'] [b,c] pos) (Jef r r' ta tb tc):=by
 intro pins s σ H Q I h;refine Compare_chain (thn (ha pins s σ H _ I h) fun v s1 ⟨x,H1,I1,r1,q1⟩=>chain_link (thn (hb pins s1 σ H1 _ I1 q1) fun u s2 ⟨y,H2,I2,r2,q2⟩=>thn (ho pins s2 σ H2 x y v u _ I2 r1 r2 q2) fun d s3 ⟨z,H3,I3,r3,k,e,q3⟩=>?_)) hm
 subst e;cases r3;refine Kq ?_
 cases k with
 | false=>exact ite_ff ⟨.bl false,H3,I3,rfl,q3⟩
 | true=>exact ite_tt (chain_last (thn (hc pins s3 σ H3 _ I3 q3) fun w' s4 ⟨z',H4,I4,r4,q4⟩=>ho' pins s4 σ H4 y z' u w' Q I4 r2 r4 q4))
noncomputable def JfP(K:Qx)(x:V)(H:Hp)(k:Bool):Prop :=
 match x with
 | .non=>k=false
 | .bl b=>k=b
 | .int i=>k=(i != 0)
 | .str y=>y.length<=Qt/\k=((y.length:Int) != 0)
 | .byt y=>y.size<=Qt/\k=((y.size:Int) != 0)
 | .ref p=>(∃xs,SqL K H p xs/\k=!xs.isEmpty)\/(∃xs,SqT K H p xs/\k=!xs.isEmpty)\/∃kvs,H p=some (.dK kvs)/\k=!kvs.isEmpty
 | _=>False
theorem JdI{κ:Type}{kvs:List (κ×V)}{vs:List (κ×Qc)}(r:KV kvs vs):(!vs.isEmpty)=!kvs.isEmpty:=by cases r <;> rfl
theorem Zf{xs:List V}{its:List Qc}(r:Vals xs its):(!its.toArray.isEmpty)=!xs.isEmpty:=by cases r <;> simp
theorem Zk:(Qt:Nat)<2 ^ 63:=by rw[sizeLine_eq];decide
theorem JoM:JqB X (fun x H Q=>∃k,JfP X.K x H k/\Q k H):=by
 intro pins s σ H x v Q I rx h;obtain⟨k,e,q⟩:=h;have hl:=Zk;have hs:Qt=16777216:=sizeLine_eq
 cases x with
 | non=>cases rx;have e':k=false:=e;subst e';exact truthy_none ⟨H,I,q⟩
 | bl b=>cases rx;have e':k=b:=e;subst e';exact Kq ⟨H,I,q⟩
 | int i=>obtain⟨t,rfl⟩:=rx;have e':k=(i != 0):=e;subst e';exact PySem.P.truthy_int ⟨H,I,q⟩
 | str y=>obtain⟨t,rfl⟩:=rx;obtain⟨hy,e'⟩:y.length<=Qt/\k=((y.length:Int) != 0):=e;subst e';exact PySem.P.truthy_str (by omega) ⟨H,I.tok _,q⟩
 | byt y=>obtain⟨t,rfl⟩:=rx;obtain⟨hy,e'⟩:y.size<=Qt/\k=((y.size:Int) != 0):=e;subst e';exact PySem.W.truthy_bytes (by omega) ⟨H,I.tok _,q⟩
 | ref p =>
  cases rx;have e':(∃xs,SqL X.K H p xs/\k=!xs.isEmpty)\/(∃xs,SqT X.K H p xs/\k=!xs.isEmpty)\/∃kvs,H p=some (.dK kvs)/\k=!kvs.isEmpty:=e
  rcases e' with ⟨xs,hx,e'⟩|⟨xs,hx,e'⟩|⟨kvs,hx,e'⟩
  ·subst e';obtain⟨its,r,pl,hz⟩:=I.list hx;have hlen:=r.length;exact wpAny_truthy_list pl.isList (by simp only[Qu];omega) ⟨H,I.tok _,by rw[Zf r];exact q⟩
  ·subst e';obtain⟨its,r,pl,hz⟩:=I.tuple hx;have hlen:=r.length;exact truthy_tuple pl (by simp only[Qu];omega) ⟨H,I.tok _,by rw[Zf r];exact q⟩
  ·subst e';obtain⟨hz,hS,vs,r,m⟩:kvs.length<=Qt/\(p == sysModules)=false/\∃vs,KV kvs vs/\s.heap.DictOf (Jv X.prog X.w) p vs:=I.hok p _ hx
   have hlen:kvs.length=vs.length:=MK r;exact wpAny_truthy_dict hS m (by omega) ⟨H,I.tok _,by rw[JdI r];exact q⟩
 | _=>exact(show False from e).elim
theorem Jiq(ha:PE X a ta)(he:∀whole,isTrue a X.env whole=(do let v <- whole;standAt a.pos;holding [v] (truthy v))) :
 PT X a (fun σ H Q=>ta σ H fun x H'=>∃k,JfP X.K x H' k/\Q k H'):=by
 intro pins s σ H Q I h;exact isTrue_plain (thn (ha pins s σ H _ I h) fun v s1 ⟨x,H1,I1,r1,q1⟩=>JoM pins s1 σ H1 x v Q I1 r1 q1) (he _)

theorem op_add_str:OpR X (binaryOp .Add) (fun x y H Q=>∃i j,x=.str i/\y=.str j/\i.length+j.length<=Qt/\Q (.str (i++j)) H):=by intro pins s σ H x y v u Q I rx ry h;obtain⟨i,j,rfl,rfl,hz,q⟩:=h;obtain⟨t,rfl⟩:=rx;obtain⟨t',rfl⟩:=ry;exact add_str (fun t' tk=>⟨.str (i++j),H,I.tok _,⟨_,rfl⟩,q⟩) hz
theorem U9{x:V}{us:List Qc}(r:Vals [x] us):∃u,us=[u]/\RelV x u:=by
 cases r with
 | cons r1 r2=>cases r2;exact⟨_,rfl,r1⟩
theorem Jmp{x y:V}{us:List Qc}(r:Vals [x,y] us):∃u w',us=[u,w']/\RelV x u/\RelV y w':=by
 cases r with
 | cons r1 r2 =>
  cases r2 with
  | cons r3 r4=>cases r4;exact⟨_,_,rfl,r1,r3⟩
theorem JfX(hc:X.calm=true):CallR X (.builtin "min") (fun xs H Q=>∃i j,xs=[.int i,.int j]/\Q (.int (if j<i then j else i)) H):=by
 intro pins s σ H xs us Q I r h;obtain⟨i,j,rfl,q⟩:=h;obtain⟨u,w',rfl,⟨t,rfl⟩,⟨t',rfl⟩⟩:=Jmp r;refine min_two_ints (I.ok.hd hc) fun h' tk k=>⟨_,H,I.kept k,?_,q⟩
 by_cases hj:j<i
 ·rw[if_pos hj,if_pos hj];exact⟨_,rfl⟩
 ·rw[if_neg hj,if_neg hj];exact⟨_,rfl⟩
noncomputable def Jo0(K:Qx)(x:V)(H:Hp)(n:Nat):Prop :=
 match x with
 | .str y=>y.length<=Qt/\n=y.length
 | .byt y=>y.size<=Qt/\n=y.size
 | .ref p=>(∃xs,SqL K H p xs/\n=xs.length)\/∃xs,SqT K H p xs/\n=xs.length
 | _=>False
theorem Jhg:CallR X (.builtin "len") (fun xs H Q=>∃x n,xs=[x]/\Jo0 X.K x H n/\Q (.int n) H):=by
 intro pins s σ H xs us Q I r h;obtain⟨x,n,rfl,e,q⟩:=h;obtain⟨u,rfl,rx⟩:=U9 r;have hl:=Zk;have hs:Qt=16777216:=sizeLine_eq
 cases x with
 | str y=>obtain⟨t,rfl⟩:=rx;obtain⟨hy,e'⟩:y.length<=Qt/\n=y.length:=e;subst e';exact len_str (by omega) ⟨.int _,H,I.tok _,⟨_,rfl⟩,q⟩
 | byt y=>obtain⟨t,rfl⟩:=rx;obtain⟨hy,e'⟩:y.size<=Qt/\n=y.size:=e;subst e';exact PySem.W.len_bytes (by omega) ⟨.int _,H,I.tok _,⟨_,rfl⟩,q⟩
 | ref p =>
  cases rx;have e':(∃xs,SqL X.K H p xs/\n=xs.length)\/∃xs,SqT X.K H p xs/\n=xs.length:=e
  rcases e' with ⟨xs,hx,e'⟩|⟨xs,hx,e'⟩
  ·subst e';obtain⟨its,r',pl,hz⟩:=I.list hx;have hlen:=r'.length;exact Calls.call_len_list pl.isList (by simp only[Qu];omega) ⟨.int xs.length,H,I.tok _,⟨_,by simp only[Qu];rw[hlen]⟩,q⟩
  ·subst e';obtain⟨its,r',pl,hz⟩:=I.tuple hx;have hlen:=r'.length;exact len_tuple pl (by simp only[Qu];omega) ⟨.int xs.length,H,I.tok _,⟨_,by simp only[Qu];rw[hlen]⟩,q⟩
 | _=>exact(show False from e).elim
end
end L2

namespace L2
open PySem PySem.Spec PyProof.Rows

structure ObjM (h:QL) (x dx C:Qd) (mA:Str->Option Qc):Prop where
 obj:h.get? x=some (instObj C dx)
 ns:h.Ns1 dx mA
 ne:dx≠x

theorem Jgu{h:QL}{dx:Qd}{mA:Str->Option Qc}(n:h.Ns1 dx mA):∃od,h.get? dx=some od/\∀name,lookIn name od=some (mA name):=by
 obtain⟨o,es,ep,ho,hd,hk,_,hm⟩:=n;refine⟨o,ho,fun name=>?_⟩;have e:=hm name;unfold nsFind findBy at e;rw[<- Array.find?_toList] at e;unfold lookIn;rw[hd];dsimp only;split
 ·rename_i y q;rw[q] at e;exact congrArg some e
 ·rename_i q;rw[q] at e
  have a:es.toList.any (·.refKey)=false:=by rw[List.any_eq_false];intro y hy;obtain⟨z,t,hkey⟩:=hk y (Array.mem_toList_iff.mp hy);simp[DictEntry.refKey,hkey]
  have a':¬es.toList.any (·.refKey)=true:=by rw[a];exact QD
  rw[if_neg a'];exact congrArg some e

theorem ObjM.look{h:QL}{x dx C:Qd}{mA:Str->Option Qc}(I:ObjM h x dx C mA):∃od,PySem.W.InstAt h x (instObj C dx) C (some od)/\∀name,lookIn name od=some (mA name) :=
 let ⟨od,ho,hl⟩:=Jgu I.ns
 ⟨od,⟨I.obj,rfl,rfl,ho⟩,hl⟩

section
variable{prog:Qw}{w:QF}{A:QC}{E:Qc->Qe->Prop}{s:Qe}{K:Qx}{x dx C f:Qd}{mA:Str->Option Qc}{name:Str}{v:Qc}

theorem Jke{expr:Bool}{Q:Qc->Qe->Prop}(X:K.In s.heap)(I:ObjM s.heap x dx C mA)(hg:plainGet K C name=true)(hh:hasDictIn K C=true)
 (ha:findIn K (.ref C) name=some none) (hv:mA name=some v) (hv':PySem.W.handedIn v=true) (h:Q v { s with toks:=s.toks+1 }) :
 wpAny (model prog w) A (getAttr (.ref x) name expr) Q E s:=by
 obtain⟨od,J,hl⟩:=I.look;exact PySem.W.get_value X J (PySem.W.plainGet_of hg).1 (PySem.W.findObj_own hh ha rfl (by rw[hl,hv])) hv' h

theorem Jlu{ns:List Str}{Q:Unit->Qe->Prop}(X:K.In s.heap)(I:ObjM s.heap x dx C mA)
 (hs:findIn K (.ref C) "__setattr__"=some (some (.builtin "object.__setattr__"))) (hp:plainOver K C=true) (ht:takerIn K C name=some none) (hh:hasDictIn K C=true)
 (hw:RY mA ns) (hsz:ns.length<=Qt)
 (h:∀h',ObjM h' x dx C (fun y=>if y=name then some v else mA y)->QQ dx s.heap h'->Q () { s with heap:=h',toks:=s.toks+2 }) :
 wpAny (model prog w) A (setAttr (.ref x) name v) Q E s:=by
 obtain⟨od,J,hl⟩:=I.look;refine PySem.W.set_plain X J hs (PySem.W.osa_open (s:={ s with toks:=s.toks+1 }) (r:=none) X J hp ht fun b=>?_);obtain⟨cd,hc,hd'⟩:=PySem.W.any_some hh;have hx:s.heap.get? x=some ⟨.ref C,some dx,.plain,#[]⟩:=I.obj;refine Qa (Qj (Qa (Qa (wpAny_loadPart hx (Qa (PySem.W.Looks.here (s:={ s with toks:=s.toks+1 }) (PySem.W.looks_clsIn X hc) ?_))))));rw[hd'];refine Qj (a:=some dx) (Qa (Qj (Qa ?_)))
 refine wpAny_nsSet1 (s:={ s with toks:=s.toks+1 }) I.ns fun h' hn2 hs2=>?_
 obtain⟨oD,esD,epD,hoD,hdD,hcD⟩:=hn2.count (PySem.Within.cons name v hw);refine Qa (wpAny_lookBehind hoD (by rw[hdD];exact pastItsLine_dict (Gb hcD (by rw[Qv];omega))) ?_);exact Qj (h _ ⟨(hs2.2 _ (Q2 I.ne)).trans I.obj,hn2,I.ne⟩ hs2)

theorem Jh8{R:M8->Qe->Prop}{vs:List Qc}{kw:List (Str×Qc)}(X:K.In s.heap)(hm:makesIn K C=true)
 (hi:findIn K (.ref C) "__init__"=some (some (.ref f))) (hf:PySem.W.typeIn K (.ref f)=some (.type "function"))
 (h:codeAny (model prog w) (A.under (.builtin "type.__call__" ⟨.ref C::vs,kw⟩)) (.call (.ref f) ⟨.ref (s.heap.objs.size+1)::vs,kw⟩) (PySem.W.InitBack (s.heap.objs.size+1) R)
  { s with heap:=(s.heap.push emptyDict).push (instObj C s.heap.objs.size) }) :
 codeAny (model prog w) A (.call (.ref C) ⟨vs,kw⟩) R s:=by
 obtain⟨hh,g,d,t,os⟩:=s;exact PySem.W.make_core (PySem.W.makes_of X hm) (PySem.W.looks_findIn X hi) (fun self=>PySem.W.bind_fn X self hf) (.inl rfl) h
end

noncomputable def putF(f:Str)(v:V):List (Str×V)->List (Str×V)
 | []=>[(f,v)]
 | (g,x)::r=>if g=f then(g,v)::r else(g,x)::putF f v r
theorem Wo(f g:Str)(v:V):∀fs:List (Str×V),(putF f v fs).lookup g=if g=f then some v else fs.lookup g
 | []=>by
  show Li g [(f,v)]=_
  by_cases h:g=f
  ·have hb:(g == f)=true:=beq_iff_eq.mpr h;simp only[Li,hb,if_pos h]
  ·have hb:(g == f)=false:=beq_eq_false_iff_ne.mpr h;simp only[Li,hb,if_neg h]
 | (k,x)::r=>by
  have ih:=Wo f g v r;rw[show putF f v ((k,x)::r)=(if k=f then(k,v)::r else(k,x)::putF f v r) from rfl]
  by_cases hk:k=f
  ·rw[if_pos hk]
   by_cases h:g=k
   ·have hb:(g == k)=true:=beq_iff_eq.mpr h;simp only[Li,hb,if_pos (h.trans hk)]
   ·have hb:(g == k)=false:=beq_eq_false_iff_ne.mpr h;simp only[Li,hb,if_neg (fun e:g=f=>h (e.trans hk.symm))]
  ·rw[if_neg hk]
   by_cases h:g=k
   ·have hb:(g == k)=true:=beq_iff_eq.mpr h;simp only[Li,hb,if_neg (fun e:g=f=>hk (h.symm.trans e))]
   ·have hb:(g == k)=false:=beq_eq_false_iff_ne.mpr h;simp only[Li,hb];exact ih
theorem V7(f:Str)(v:V):∀fs:List (Str×V),f∈(putF f v fs).map (·.1)/\∀g,g∈fs.map (·.1)->g∈(putF f v fs).map (·.1)
 | []=>⟨by simp[putF],fun g h=>by simp at h⟩
 | (k,x)::r=>by
  obtain⟨i1,i2⟩:=V7 f v r;rw[show putF f v ((k,x)::r)=(if k=f then(k,v)::r else(k,x)::putF f v r) from rfl]
  by_cases hk:k=f
  ·rw[if_pos hk];subst hk;exact⟨by simp,fun g h=>by simpa using h⟩
  ·rw[if_neg hk];refine⟨?_,fun g h=>?_⟩
   ·rw[Qg];exact Qf _ i1
   ·rw[Qg] at h ⊢;rcases Qk.mp h with e|e
    ·exact Qk.mpr (.inl e)
    ·exact Qf _ (i2 g e)
theorem Wm(f:Str)(v:V):∀fs:List (Str×V),(putF f v fs).length<=fs.length+1
 | []=>by simp[putF]
 | (k,x)::r=>by
  have ih:=Wm f v r;rw[show putF f v ((k,x)::r)=(if k=f then(k,v)::r else(k,x)::putF f v r) from rfl]
  by_cases hk:k=f
  ·rw[if_pos hk,Qv,Qv];omega
  ·rw[if_neg hk,Qv,Qv];omega

theorem RelO.some_of{v:V}{o:Option Qc}(r:RelO (some v) o):∃u,o=some u/\RelV v u:=by
 cases o with
 | none=>exact(show False from r).elim
 | some u=>exact⟨u,rfl,r⟩
theorem Jgg{v:V}{u:Qc}(r:RelV v u):PySem.W.handedIn u=true:=by
 cases v with
 | non=>cases (show u=Value.none from r);rfl
 | bl b=>cases (show u=Value.bool b from r);rfl
 | int i=>obtain⟨t,e⟩:=(show ∃t,u=Value.int i t from r);cases e;rfl
 | str x=>obtain⟨t,e⟩:=(show ∃t,u=Value.str x t from r);cases e;rfl
 | byt b=>obtain⟨t,e⟩:=(show ∃t,u=Value.bytes b t from r);cases e;rfl
 | flt b=>obtain⟨t,e⟩:=(show ∃t,u=Value.float b t from r);cases e;rfl
 | ref a=>cases (show u=Value.ref a from r);rfl
 | ty n=>cases (show u=Value.type n from r);rfl

section
variable{P:Qw}{w:QF}{H H':Hp}{h h':QL}{a C dx:Qd}{fs fs':List (Str×V)}
theorem Jbi(hok:HOk P w H h)(e:H a=some (.ins C dx fs)):∃mA,ObjM h a dx C mA/\(∀f,RelO (fs.lookup f) (mA f))/\RY mA (fs.map (·.1))/\fs.length<=1000/\H dx=some (.own a):=by
 obtain⟨d,z,ne,ob,mA,n,r,q⟩:=(show ObjOk P w H h a (.ins C dx fs) from hok a _ e)
 exact⟨mA,⟨ob,n,ne⟩,r,q,z,d⟩
end

structure Cls (K:Qx) (C:Qd):Prop where
 pg:plainGet K C Str.empty=true
 hd:hasDictIn K C=true
 po:plainOver K C=true
 sa:findIn K (.ref C) "__setattr__"=some (some (.builtin "object.__setattr__"))
theorem Cls.get{K:Qx}{C:Qd}(c:Cls K C)(f:Str):plainGet K C f=true:=c.pg
noncomputable def NoAttr(K:Qx)(C:Qd)(f:Str):Prop:=findIn K (.ref C) f=some none
theorem NoAttr.taker{K:Qx}{C:Qd}{f:Str}(n:NoAttr K C f):takerIn K C f=some none:=by unfold takerIn;rw[show findIn K (.ref C) f=some none from n];rfl
structure Con (K:Qx) (C:Qd) (f:Str) (v:V) (u:Qc):Prop where
 at_:findIn K (.ref C) f=some (some u)
 rel:RelV v u
 get:specialIn K u "__get__"=some none
 cp:PySem.W.copiedNames.contains f=false
structure Meth (K:Qx) (C:Qd) (m:Str) (f:Qd):Prop where
 at_:findIn K (.ref C) m=some (some (.ref f))
 fn:isFn K (.ref f)=true
 kp:keepIn K (.ref f)=true

section
variable{X:Cx}{pins:List (Qd×Obj)}{σ:St}{H:Hp}{s:Qe}{a C dx:Qd}{fs:List (Str×V)}{f:Str}{v:V}{A:QC}{E:Qc->Qe->Prop}

theorem JdC{b:Bool}{Q:Qc->Qe->Prop}(I:Inv X pins σ H s)(e:H a=some (.ins C dx fs))(c:Cls X.K C)(n:NoAttr X.K C f)(l:fs.lookup f=some v)
 (h:∀u s',Inv X pins σ H s'->RelV v u->Q u s'):wpAny (model X.prog X.w) A (getAttr (.ref a) f b) Q E s:=by
 obtain⟨mA,O,r,_,_,_⟩:=Jbi I.hok e;obtain⟨u,hu,ru⟩:=RelO.some_of (v:=v) (o:=mA f) (by rw[<- l];exact r f);exact Jke I.kIn O (c.get f) c.hd n hu (Jgg ru) (h u _ (I.tok _) ru)

theorem Jeb{y:V}{u:Qc}{Q:Unit->Qe->Prop}(I:Inv X pins σ H s)(e:H a=some (.ins C dx fs))(c:Cls X.K C)(n:NoAttr X.K C f)(hl:fs.length<1000)(ry:RelV y u)
 (h:∀s',Inv X pins σ (upd H a (.ins C dx (putF f y fs))) s'->Q () s'):wpAny (model X.prog X.w) A (setAttr (.ref a) f u) Q E s:=by
 obtain⟨mA,O,r,wi,_,ho⟩:=Jbi I.hok e;have hz:(fs.map (·.1)).length<=Qt:=by rw[Qq,sizeLine_eq];omega
 refine Jlu I.kIn O c.sa c.po n.taker c.hd wi hz fun h' O' sb=>h _ ?_
 have hd:∃o,h'.get? dx=some o:=let ⟨o,_,_,e',_⟩:=O'.ns;⟨o,e'⟩
 refine I.write (x:=a) (e:=dx) (by rw[e];exact True.intro) (.inr ho) (fun b q hb z=>(sb.2 b hb).trans z) hd ?_;refine⟨by rw[Je O.ne];exact ho,?_,O.ne,O'.obj,_,O'.ns,fun g=>?_,fun g hg=>?_⟩
 ·have:=Wm f y fs;omega
 ·show RelO ((putF f y fs).lookup g) (if g=f then some u else mA g);rw[Wo]
  by_cases q:g=f
  ·rw[if_pos q,if_pos q];exact ry
  ·rw[if_neg q,if_neg q];exact r g
 ·by_cases q:g=f
  ·rw[q];exact(V7 f y fs).1
  ·refine(V7 f y fs).2 g (wi g fun z=>hg ?_);show(if g=f then some u else mA g)=none;rw[if_neg q];exact z

theorem Inv.made(I:Inv X pins σ H s):Inv X pins σ (upd (upd H s.heap.objs.size (.own (s.heap.objs.size+1))) (s.heap.objs.size+1) (.ins C s.heap.objs.size []))
 { s with heap:=(s.heap.push emptyDict).push (instObj C s.heap.objs.size) }:=by
 have e1:(s.heap.push emptyDict).get? s.heap.objs.size=some emptyDict:=Qn s.heap rfl
 have e2:((s.heap.push emptyDict).push (instObj C s.heap.objs.size)).get? (s.heap.objs.size+1)=some (instObj C s.heap.objs.size):=by
  have:=Qn (s.heap.push emptyDict) (o:=instObj C s.heap.objs.size) rfl
  rwa [Ge] at this
 have e3:(s.heap.push emptyDict).Ns s.heap.objs.size (fun _=>none):=⟨emptyDict,#[],_,e1,rfl,(fun e he=>absurd he (by simp)),fun _=>rfl⟩
 have I1:=I.laid (a:=s.heap.objs.size) (o:=.own (s.heap.objs.size+1)) (h':=s.heap.push emptyDict) (t':=s.toks) (fun b u q=>Qi _ q) (Qr _) ⟨_,e1⟩;refine I1.laid (a:=s.heap.objs.size+1) (o:=.ins C s.heap.objs.size []) (t':=s.toks) (fun b u q=>Qi _ q) (Ln (Ge _ _)) ?_
 have ne:s.heap.objs.size≠s.heap.objs.size+1:=QB (GH _);refine⟨by rw[Je ne,Jk],GA _,ne,e2,fun _=>none,(Heap.Ns1.of_empty e3).at fun o q=>Qi _ q,fun _=>True.intro,fun y hy=>absurd rfl hy⟩

theorem Jjw{prog:Qw}{w:QF}{env:Env}{e:Q7}{f:Str}{pos:Pos}{s:Qe}{Q:Qc->Qe->Prop}(hb:attributeBase e f env (eval e env)=eval e env)
 (h:wpAny (model prog w) A (eval e env) (fun o s₁=>wpAny (model prog w) A (getAttr o f true) Q E s₁) E s):wpAny (model prog w) A (eval (.Attribute e f pos) env) Q E s :=
 Attribute_any_ h (by rw[arm_eval_Attribute,hb])
end

noncomputable def JlF(K:Qx)(ta:TE)(f:Str):TE:=fun σ H Q=>ta σ H fun x H1=>∃a C dx fs v,x=.ref a/\H1 a=some (.ins C dx fs)/\Cls K C/\NoAttr K C f/\fs.lookup f=some v/\Q v H1
noncomputable def Jop(K:Qx)(ta tv:TE)(f:Str):TS:=fun D σ H=>tv σ H fun y H1=>ta σ H1 fun x H2=>∃a C dx fs,x=.ref a/\H2 a=some (.ins C dx fs)/\Cls K C/\NoAttr K C f/\fs.length<1000 ∧
 D.nx σ (upd H2 a (.ins C dx (putF f y fs)))
section
variable{X:Cx}{o e value:Q7}{f:Str}{pos pos' tpos:Pos}{ta tv:TE}
theorem JnI(he:PE X e ta)(hb:attributeBase e f X.env (eval e X.env)=eval e X.env):PE X (.Attribute e f pos) (JlF X.K ta f):=by intro pins s σ H Q I h;refine Jjw hb (thn (he pins s σ H _ I h) fun u s1 ⟨x,H1,I1,rx,a,C,dx,fs,v,ex,ea,c,n,l,q⟩=>?_);subst ex;obtain rfl:u=Value.ref a:=rx;exact JdC I1 ea c n l fun u' s2 I2 ru=>⟨v,H1,I2,ru,q⟩
theorem JnP(ha:PE X o ta)(hv:PE X value tv)(hs:swapsWith value (some (.Attribute o f pos')) pos.line X.env=pure false):PS X (.Assign [.Attribute o f pos'] value pos) (Jop X.K ta tv f):=by intro pins s σ H D I h;refine plainObj_wpAny_Assign_Attribute (thn (hv pins s σ H _ I h) fun u s1 ⟨y,H1,I1,ry,q⟩=>thn (ha pins s1 σ H1 _ I1 q) fun ov s2 ⟨x,H2,I2,rx,a,C,dx,fs,ex,ea,c,n,l,q2⟩=>?_) hs;subst ex;obtain rfl:ov=Value.ref a:=rx;exact Jeb I2 ea c n l ry fun s3 I3=>⟨σ,_,I3,q2⟩
end

section
variable{X:Cx}{pins:List (Qd×Obj)}{σ:St}{H:Hp}{s:Qe}{A:QC}{E:Qc->Qe->Prop}{Q:Qc->Qe->Prop}{c:Qc}{b:Bool}
inductive TyOf (K:Qx) (H:Hp):V->Qc->Prop where
 | non:TyOf K H .non (.type "NoneType")
 | bl (x:Bool):TyOf K H (.bl x) (.type "bool")
 | int (i:Int):TyOf K H (.int i) (.type "int")
 | str (x:Str):TyOf K H (.str x) (.type "str")
 | flt (x:UInt64):TyOf K H (.flt x) (.type "float")
 | lst {a:Qd} {xs:List V} (e:H a=some (.lst xs)):TyOf K H (.ref a) (.type "list")
 | frz {a:Qd} {o:Obj} {xs:List V} (e:H a=some (.frz o (.lst xs))):TyOf K H (.ref a) (.type "list")
 | tup {a:Qd} {xs:List V} (e:H a=some (.tup xs)):TyOf K H (.ref a) (.type "tuple")
 | dK {a:Qd} {kvs:List (Key×V)} (e:H a=some (.dK kvs)):TyOf K H (.ref a) (.type "dict")
 | dT {a:Qd} {kvs:List (List Key×V)} (e:H a=some (.dT kvs)):TyOf K H (.ref a) (.type "dict")
 | ins {a C dx:Qd} {fs:List (Str×V)} (e:H a=some (.ins C dx fs)) (cl:Cls K C) (ha:findIn K (.ref C) "__class__"=some (some (.builtin "object.__class__")))
  (hn:specialIn K (.builtin "object.__class__") "__get__"=some (some (.builtin "getset_descriptor.__get__"))) (htk:takesIn K (.builtin "object.__class__")=some true)
  (hm:mroIn K C (.type "object")=some true):TyOf K H (.ref a) (.ref C)
theorem Jgp{x:V}{u t:Qc}(I:Inv X pins σ H s)(rx:RelV x u)(ty:TyOf X.K H x t)(e:kitOne X.K t c=some b)(h:∀tk,Q (.bool b) { s with toks:=tk }) :
 wpAny (model X.prog X.w) A (call (.builtin "isinstance") [u,c]) Q E s:=by
 cases ty with
 | non=>cases (show u=Value.none from rx);exact kia_one PySem.W.kitx_none I.kIn True.intro e (fun z=>nomatch z) h
 | bl y=>cases (show u=Value.bool y from rx);exact kia_one PySem.W.kitx_bool I.kIn True.intro e (fun z=>nomatch z) h
 | int i=>obtain⟨t,q⟩:=(show ∃t,u=Value.int i t from rx);cases q;exact kia_one PySem.W.kitx_int I.kIn True.intro e (fun z=>nomatch z) h
 | str y=>obtain⟨t,q⟩:=(show ∃t,u=Value.str y t from rx);cases q;exact kia_one PySem.W.kitx_str I.kIn True.intro e (fun z=>nomatch z) h
 | flt y=>obtain⟨t,q⟩:=(show ∃t,u=Value.float y t from rx);cases q;exact kia_one PySem.W.kitx_float I.kIn True.intro e (fun z=>nomatch z) h
 | @lst a xs ea =>
  cases (show u=Value.ref a from rx);obtain⟨_,_,n,_,h1⟩:=(show ObjOk X.prog X.w H s.heap a (.lst xs) from I.hok a _ ea)
  exact kia_one kitx_list I.kIn ⟨_,h1,rfl⟩ e (fun z=>nomatch z) h
 | @frz a ob xs ea =>
  cases (show u=Value.ref a from rx);obtain⟨_,_,_,n,_,h1⟩:=(show ObjOk X.prog X.w H s.heap a (.frz ob (.lst xs)) from I.hok a _ ea)
  exact kia_one kitx_list I.kIn ⟨_,h1,rfl⟩ e (fun z=>nomatch z) h
 | @tup a xs ea =>
  cases (show u=Value.ref a from rx);obtain⟨_,_,_,p⟩:=(show ObjOk X.prog X.w H s.heap a (.tup xs) from I.hok a _ ea)
  obtain⟨o,h1,h2,_⟩:=p;exact kia_one RT I.kIn ⟨o,h1,h2⟩ e (fun z=>nomatch z) h
 | @dK a kvs ea =>
  cases (show u=Value.ref a from rx);obtain⟨_,_,vs,_,p⟩:=(show ObjOk X.prog X.w H s.heap a (.dK kvs) from I.hok a _ ea)
  obtain⟨o,es,ep,h1,h2,_⟩:=p;exact kia_one RZ I.kIn ⟨o,h1,h2.1⟩ e (fun z=>nomatch z) h
 | @dT a kvs ea =>
  cases (show u=Value.ref a from rx);obtain⟨_,_,xs,_,o,es,ep,h1,h2,_⟩:=(show ObjOk X.prog X.w H s.heap a (.dT kvs) from I.hok a _ ea)
  exact kia_one RZ I.kIn ⟨o,h1,h2.1⟩ e (fun z=>nomatch z) h
 | @ins a C dx fs ea cl ha hn htk hm=>cases (show u=Value.ref a from rx);obtain⟨mA,O,_⟩:=Jbi I.hok ea;obtain⟨od,J,_⟩:=O.look;exact kia_one (PySem.W.kitx_own (cl.get _) cl.hd ha hn htk hm) I.kIn J e (fun z=>nomatch z) h
end
end L2

namespace L2
open PySem PySem.Spec PyProof.Rows

structure Room (k:Nat) (A:QC):Prop where
 hd:A.handled=none
 dp:A.depth+3*k+5<recursionLimit
 un:A.units+16*k+200<cLine
theorem Room.mono{j k:Nat}{A:QC}(r:Room k A)(h:j<=k):Room j A:=⟨r.hd,by have:=r.dp;omega,by have:=r.un;omega⟩
theorem Room.deeper{k:Nat}{A:QC}(r:Room (k+1) A)(env:Env):Room k (A.deeper env) :=
 ⟨r.hd,by have:=r.dp;show A.depth+1+3*k+5<_;omega,by have:=r.un;show A.units+3+16*k+200<_;omega⟩
theorem Room.in1{k:Nat}{A:QC}(r:Room (k+1) A):Room k A.in1 :=
 ⟨r.hd,by have:=r.dp;show A.depth+3*k+5<_;omega,by have:=r.un;show A.units+1+16*k+200<_;omega⟩
theorem JdP{A:QC}{C:Qd}{us:List Qc}{kw:List (Str×Qc)}:(A.under (.builtin "type.__call__" ⟨.ref C::us,kw⟩)).depth=A.depth+1:=by first | rfl | simp[R0,Code.weight,Code.isCreation,Code.isGuard,Code.isCaller,Code.frames,R1,guardIds]
theorem JdQ{A:QC}{C:Qd}{us:List Qc}{kw:List (Str×Qc)}:(A.under (.builtin "type.__call__" ⟨.ref C::us,kw⟩)).units=A.units+1:=by first | rfl | simp[R0,Code.cUnits,Code.frames,R1]
theorem Room.make{k:Nat}{A:QC}(r:Room (k+1) A)(C:Qd)(us:List Qc)(kw:List (Str×Qc)):Room k (A.under (.builtin "type.__call__" ⟨.ref C::us,kw⟩)) :=
 ⟨r.hd,by have:=r.dp;rw[JdP];omega,by have:=r.un;rw[JdQ];omega⟩
theorem Room.depth{k:Nat}{A:QC}(r:Room k A):A.depth<recursionLimit:=by have:=r.dp;omega
theorem Room.units{k:Nat}{A:QC}(r:Room k A):A.units+64<cLine:=by have:=r.un;omega
noncomputable def Vl:TA:=fun _ H Q=>Q [] H
noncomputable def Y0(ta:TE)(tr:TA):TA:=fun σ H Q=>ta σ H fun x H1=>tr σ H1 fun xs H2=>Q (x::xs) H2
section
variable{X:Cx}{e:Q7}{es:List Q7}{te:TE}{t:TA}{pos:Pos}
theorem Jc:PA X [] Vl:=fun _ _ _ _ H Q I h=>Calls.spliced_nil ⟨[],H,I,.nil,h⟩
theorem Jb(ha:PE X e te)(hr:PA X es t)(hs:starEach (e::es) X.env=(false,eval e X.env)::starEach es X.env:=by rfl):PA X (e::es) (Y0 te t):=by intro pos pins s σ H Q I h;rw[hs];show wpAny _ _ (spliced ((false,eval e X.env)::backTo pos (starEach es X.env))) _ _ s;refine Mq (thn (ha pins s σ H _ I h) fun u s1 ⟨x,H1,I1,r1,q1⟩=>?_);exact thn (hr pos pins s1 σ H1 _ I1 q1) fun us s2 ⟨xs,H2,I2,r2,q2⟩=>⟨x::xs,H2,I2,.cons r1 r2,q2⟩

noncomputable def JoE(t:TA):TE:=fun σ H Q=>t σ H fun xs H1=>xs.length<=Qt/\∀p,H1 p=none->Q (.ref p) (upd H1 p (.tup xs))
noncomputable def JlI(t:TA):TE:=fun σ H Q=>t σ H fun xs H1=>xs.length<=Qt/\∀p,H1 p=none->Q (.ref p) (upd H1 p (.lst xs))
theorem Yv{x1}(h:PA X es t):PE X (.Tuple es x1 pos) (JoE t):=by intro pins s σ H Q I hq;refine wpAny_Tuple_spliced (thn (h pos pins s σ H _ I hq) fun us s1 ⟨xs,H1,I1,r,z,q⟩=>⟨by rw[<- r.length];exact z,?_⟩);have hf:H1 s1.heap.objs.size=none:=I1.hok.fresh (Qr _);refine⟨.ref s1.heap.objs.size,upd H1 s1.heap.objs.size (.tup xs),I1.laid (t':=s1.toks) (fun b u e=>Qi _ e) (Qr _) ?_,rfl,q _ hf⟩;exact⟨z,us,r,⟨_,Qn _ rfl,rfl,_,rfl⟩⟩
theorem Yu(h:PA X es t):PE X (.List es pos) (JlI t):=by intro pins s σ H Q I hq;refine wpAny_List_spliced (thn (h pos pins s σ H _ I hq) fun us s1 ⟨xs,H1,I1,r,z,q⟩=>⟨by rw[<- r.length];exact z,?_⟩);have hf:H1 s1.heap.objs.size=none:=I1.hok.fresh (Qr _);refine⟨.ref s1.heap.objs.size,upd H1 s1.heap.objs.size (.lst xs),I1.laid (t':=s1.toks) (fun b u e=>Qi _ e) (Qr _) ?_,rfl,q _ hf⟩;exact⟨z,us,0,r,Qn _ rfl⟩
end

noncomputable abbrev Sp:=List V->Hp->VK->XK->Prop
noncomputable abbrev CXT:=List Env->Hp->Qe->XK->Qc->Qe->Prop

structure Env0 (P:Qw) (w:QF) (K:Qx) (mg:Str->Option Qc) (base:QL) (A:QC) (outer:List Env) (s:Qe) (H:Hp):Prop where
 frames:A.frames=some outer
 mod:Mod K mg base
 bs:∀b o,base.get? b=some o->s.heap.get? b=some o/\H b=none
 bsz:base.objs.size<=s.heap.objs.size
 funs:s.heap.FunFrames base outer
 frf:∀b∈frs outer,H b=none
 hok:HOk P w H s.heap
 bare:AllBare s.gens
noncomputable def CE(outer:List Env)(P:Qw)(w:QF)(H:Hp)(s:Qe)(Q:VK)(u:Qc)(s':Qe):Prop :=
 ∃v H',s'.os=s.os/\AllBare s'.gens/\Un (frs outer) [] H H' s.heap s'.heap/\HOk P w H' s'.heap/\RelV v u/\Q v H'
noncomputable def CR(CX:CXT)(outer:List Env)(P:Qw)(w:QF)(H:Hp)(s:Qe)(Q:VK)(E:XK)(r:M8)(s':Qe):Prop :=
 match r with
 | .ok (.ret u)=>CE outer P w H s Q u s'
 | .ok _=>False
 | .error e=>CX outer H s E e s'
structure FnOk (P:Qw) (w:QF) (K:Qx) (mg:Str->Option Qc) (base:QL) (CX:CXT) (k:Nat) (f:Qd) (fd:QR) (ps:List Str) (sp:Sp):Prop where
 len:∀vs H Q E,sp vs H Q E->vs.length=ps.length
 run:∀(A:QC) (outer:List Env) (s:Qe) (H:Hp) (args:Args) (us:List Qc) (vs:List V) (Q:VK) (E:XK),Room k A->Env0 P w K mg base A outer s H->BindsTo s fd args (ps.zip us)->Vals vs us->sp vs H Q E ->
  codeAny (model P w) A (.call (.ref f) args) (CR CX outer P w H s Q E) s
theorem FnOk.mono{P:Qw}{w:QF}{K:Qx}{mg:Str->Option Qc}{base:QL}{CX:CXT}{j k:Nat}{f:Qd}{fd:QR}{ps:List Str}{sp:Sp}(F:FnOk P w K mg base CX j f fd ps sp)(h:j<=k) :
 FnOk P w K mg base CX k f fd ps sp:=⟨F.len,fun A outer s H args us vs Q E hr=>F.run A outer s H args us vs Q E (hr.mono h)⟩
theorem FnOk.imp{P:Qw}{w:QF}{K:Qx}{mg:Str->Option Qc}{base:QL}{CX:CXT}{k:Nat}{f:Qd}{fd:QR}{ps:List Str}{sp sp':Sp}(F:FnOk P w K mg base CX k f fd ps sp)
 (h:∀vs H Q E,sp' vs H Q E->sp vs H Q E):FnOk P w K mg base CX k f fd ps sp' :=
 ⟨fun vs H Q E q=>F.len vs H Q E (h _ _ _ _ q),fun A outer s H args us vs Q E hr he hb hv hs=>F.run A outer s H args us vs Q E hr he hb hv (h _ _ _ _ hs)⟩

theorem Env0.make{P:Qw}{w:QF}{K:Qx}{mg:Str->Option Qc}{base:QL}{A:QC}{outer:List Env}{s:Qe}{H:Hp}(e:Env0 P w K mg base A outer s H)(C:Qd)(us:List Qc)(kw:List (Str×Qc)) :
 Env0 P w K mg base (A.under (.builtin "type.__call__" ⟨.ref C::us,kw⟩)) outer s H:=⟨by first | exact e.frames | (simpa [R0,Code.envs,R1,pushEnvs] using e.frames),e.mod,e.bs,e.bsz,e.funs,e.frf,e.hok,e.bare⟩
theorem Env0.in1{P:Qw}{w:QF}{K:Qx}{mg:Str->Option Qc}{base:QL}{A:QC}{outer:List Env}{s:Qe}{H:Hp}(e:Env0 P w K mg base A outer s H) :
 Env0 P w K mg base A.in1 outer s H:=⟨e.frames,e.mod,e.bs,e.bsz,e.funs,e.frf,e.hok,e.bare⟩

section
variable{X:Cx}{pins:List (Qd×Obj)}{σ:St}{H:Hp}{s s':Qe}
theorem Inv.env0(I:Inv X pins σ H s):Env0 X.prog X.w X.K X.mg X.base X.A X.stack s H :=
 ⟨I.ok.frames,I.ok.mod,I.bs,Gb I.ok.bsz I.sz,I.stack,I.stkFree,I.hok,I.bare⟩
theorem Inv.after{Q:VK}{u:Qc}(I:Inv X pins σ H s)(h:CE X.stack X.prog X.w H s Q u s'):EP X pins σ Q u s':=by obtain⟨v,H',os,bare,un,hok,r,q⟩:=h;obtain⟨hh,g,d,t,os'⟩:=s';obtain rfl:os'=s.os:=os;exact⟨v,H',I.call (h':=hh) (g':=g) (d':=d) (t':=t) (ch:=[]) un hok bare (fun b z=>absurd z (by simp)),r,q⟩
end

noncomputable def JfD(sp:Sp)(dvs:List V)(E:XK)(t:TA):TE:=fun σ H Q=>t σ H fun vs H1=>sp (vs++dvs) H1 Q E
noncomputable def JfG(C:Qd)(sp:Sp)(dvs:List V)(E:XK)(t:TA):TE:=fun σ H Q=>t σ H fun vs H1=>∀x dx,H1 x=none->H1 dx=none->dx≠x ->
 sp (.ref x::(vs++dvs)) (upd (upd H1 dx (.own x)) x (.ins C dx [])) (fun v H2=>v=.non/\Q (.ref x) H2) E

noncomputable def Binds(K:Qx)(fd:QR)(ps:List Str)(ds:List Qc):Prop :=
 ∀(s:Qe) (us:List Qc),K.In s.heap->(us++ds).length=ps.length->BindsTo s fd ⟨us,[]⟩ (ps.zip (us++ds))
theorem Binds.all{K:Qx}{fd:QR}{ps:List Str}(h:∀us:List Qc,us.length=ps.length->bindArgs fd ⟨us,[]⟩=pure (ps.zip us)):Binds K fd ps []:=fun s us _ hl=>by rw[GG] at hl ⊢;exact .of_eq (h us hl)

noncomputable def WQ(CX:CXT)(X:Cx)(E:XK):Prop:=∀(pins:List (Qd×Obj)) (σ:St) (H:Hp) (s:Qe) (e:Qc) (s':Qe),Inv X pins σ H s->CX X.stack H s E e s'->X.xe e s'

section
variable{X:Cx}{CX:CXT}{k:Nat}{f C:Qd}{fd:QR}{ps:List Str}{sp:Sp}{dvs:List V}{ds:List Qc}{E:XK}{x m:Str}{p pos apos:Pos}{e o:Q7}{es:List Q7}{ta:TE}{t:TA}

theorem Joo{pins:List (Qd×Obj)}{σ:St}{H:Hp}{s:Qe}{Q:VK}{us:List Qc}{vs:List V}(F:FnOk X.prog X.w X.K X.mg X.base CX k f fd ps sp)(hr:Room k X.A)(hb:Binds X.K fd ps ds)(hd:Vals dvs ds)(hx:WQ CX X E)
 (I:Inv X pins σ H s) (r:Vals vs us) (h:sp (vs++dvs) H Q E):wpAny (model X.prog X.w) X.A (call (.ref f) us) (EP X pins σ Q) X.xe s:=by
 have r2:Vals (vs++dvs) (us++ds):=r.append hd
 have hl:(us++ds).length=ps.length:=by rw[<- r2.length];exact F.len _ _ _ _ h
 refine wpAny_call (KI (F.run X.A X.stack s H ⟨us,[]⟩ (us++ds) (vs++dvs) Q E hr I.env0 (hb s us I.kIn hl) r2 h) fun r s' hq=>?_)
 cases r with
 | error e=>exact hx pins σ H s e s' I hq
 | ok fl =>
  cases fl with
  | ret u=>exact I.after hq
  | next=>exact Gw hq
  | brk=>exact Gw hq
  | cont=>exact Gw hq

theorem JkK(F:FnOk X.prog X.w X.K X.mg X.base CX k f fd ps sp)(hr:Room k X.A)(hg:Gl X x)(hm:X.mg x=some (.ref f))(hk:keepIn X.K (.ref f)=true)(hb:Binds X.K fd ps ds)(hd:Vals dvs ds)(hx:WQ CX X E)
 (ha:PA X (e::es) t) (hdb:(x == ("__debug__":Str))=false:=by decide) (he:starEach (e::es) X.env=(false,eval e X.env)::starEach es X.env:=by rfl) (hpl:(backTo pos (starEach es X.env)).any (·.1)=false:=by rfl) :
 PE X (.Call (.Name x p) (e::es) [] pos) (JfD sp dvs E t):=by
 intro pins s σ H Q I h;refine Ky (Jbk I hg hm ?_ hdb);refine RU (h₀:=X.base) I.ok.mod.kin hk (thn (ha pos pins s σ H _ I h) fun us s1 ⟨vs,H1,I1,r,q⟩=>⟨I1.kIn,?_⟩) he hpl;exact Joo F hr hb hd hx I1 r q
structure Mk (K:Qx) (C f:Qd):Prop where
 makes:makesIn K C=true
 init:findIn K (.ref C) "__init__"=some (some (.ref f))
 fn:isFn K (.ref f)=true
 kp:keepIn K (.ref C)=true

theorem JiJ{pins:List (Qd×Obj)}{σ:St}{H:Hp}{s:Qe}{Q:VK}{us:List Qc}{vs:List V}(M:Mk X.K C f)(F:FnOk X.prog X.w X.K X.mg X.base CX k f fd ps sp)(hr:Room (k+1) X.A)(hb:Binds X.K fd ps ds)(hd:Vals dvs ds)
 (hx:WQ CX X E) (I:Inv X pins σ H s) (r:Vals vs us)
 (h:∀x dx,H x=none->H dx=none->dx≠x->sp (.ref x::(vs++dvs)) (upd (upd H dx (.own x)) x (.ins C dx [])) (fun v H2=>v=.non/\Q (.ref x) H2) E) :
 wpAny (model X.prog X.w) X.A (call (.ref C) us) (EP X pins σ Q) X.xe s:=by
 have hq:=h (s.heap.objs.size+1) s.heap.objs.size (I.hok.fresh (LH _)) (I.hok.fresh (Qr _)) (QB (GH _))
 have I2:=Inv.made (C:=C) I
 have r2:Vals (V.ref (s.heap.objs.size+1)::(vs++dvs)) (Value.ref (s.heap.objs.size+1)::(us++ds)):=.cons rfl (r.append hd)
 have hl:(Value.ref (s.heap.objs.size+1)::us++ds).length=ps.length:=by have e:=r2.length;rw[F.len _ _ _ _ hq] at e;exact e.symm
 refine wpAny_call (Jh8 (f:=f) I.kIn M.makes M.init (beq_iff_eq.mp M.fn) (KI (F.run _ X.stack _ _ ⟨Value.ref (s.heap.objs.size+1)::us,[]⟩ (Value.ref (s.heap.objs.size+1)::(us++ds)) _ _ E (hr.make C us [])
  (I2.env0.make C us []) (hb _ (Value.ref (s.heap.objs.size+1)::us) I2.kIn hl) r2 hq) fun r s' hq'=>?_))
 cases r with
 | error e=>exact hx pins σ _ _ e s' I2 hq'
 | ok fl =>
  cases fl with
  | ret u=>obtain⟨v,H',I3,rv,ev,q3⟩:=I2.after hq';subst ev;exact⟨rv,⟨V.ref (s.heap.objs.size+1),H',I3,rfl,q3⟩⟩
  | next=>exact Gw hq'
  | brk=>exact Gw hq'
  | cont=>exact Gw hq'
theorem JkM(M:Mk X.K C f)(F:FnOk X.prog X.w X.K X.mg X.base CX k f fd ps sp)(hr:Room (k+1) X.A)(hg:Gl X x)(hm:X.mg x=some (.ref C))(hb:Binds X.K fd ps ds)(hd:Vals dvs ds)(hx:WQ CX X E)
 (ha:PA X (e::es) t) (hdb:(x == ("__debug__":Str))=false:=by decide) (he:starEach (e::es) X.env=(false,eval e X.env)::starEach es X.env:=by rfl) (hpl:(backTo pos (starEach es X.env)).any (·.1)=false:=by rfl) :
 PE X (.Call (.Name x p) (e::es) [] pos) (JfG C sp dvs E t):=by
 intro pins s σ H Q I h;refine Ky (Jbk I hg hm ?_ hdb);refine RU (h₀:=X.base) I.ok.mod.kin M.kp (thn (ha pos pins s σ H _ I h) fun us s1 ⟨vs,H1,I1,r,q⟩=>⟨I1.kIn,?_⟩) he hpl;exact JiJ M F hr hb hd hx I1 r q
end

section
variable{X:Cx}{CX:CXT}{k:Nat}{f C:Qd}{fd:QR}{ps ks:List Str}{sp:Sp}{E:XK}{x m:Str}{p pos apos kpos:Pos}{e o:Q7}{es:List Q7}{kws:List MG}{te ta:TE}{t tk:TA}{nm:Option Str}
structure KBinds (K:Qx) (fd:QR) (ps ks:List Str) (g:List Qc->List Qc->List Qc) (gV:List V->List V->List V):Prop where
 to:∀(s:Qe) (us ws:List Qc),K.In s.heap->(g us ws).length=ps.length->BindsTo s fd ⟨us,ks.zip ws⟩ (ps.zip (g us ws))
 rel:∀{vs:List V} {us:List Qc} {zs:List V} {ws:List Qc},Vals vs us->Vals zs ws->Vals (gV vs zs) (g us ws)
variable{g:List Qc->List Qc->List Qc}{gV:List V->List V->List V}
end

structure FnScope (N P:List Str) (sc:Lu):Prop where
 kind:sc.kind=.function
 co:sc.isCoroutine=false
 gen:sc.isGenerator=false
 nd:N.Nodup
 pre:N.take P.length=P
 par:∀x∈P,sc.names.lookup x=some .local\/sc.names.lookup x=some .cell
 nofree:∀y∈sc.names,y.2≠.free

theorem Jai{kindOf:Str->Option NameKind}{x:Str}:∀{binds:List (Str×Qc)} {m:Str->Option Qc},(∀v,(x,v)∉binds)->bindL kindOf binds m x=m x
 | [],_,_=>rfl
 | (n,v)::r,m,h=>by
  unfold bindL;rw[Jai fun w hw=>h w (Qf _ hw)];split
  ·have:x≠n:=by rintro rfl;exact h v Qh
   simp[this]
  ·rfl
theorem Jag{kindOf:Str->Option NameKind}{x:Str}:∀{binds:List (Str×Qc)} {m:Str->Option Qc},(∀v,(x,v)∉binds)->bindC kindOf binds m x=m x
 | [],_,_=>rfl
 | (n,v)::r,m,h=>by
  unfold bindC;rw[Jag fun w hw=>h w (Qf _ hw)];split
  ·rfl
  ·have:x≠n:=by rintro rfl;exact h v Qh
   simp[this]
theorem Jah{kindOf:Str->Option NameKind}{x:Str}{v:Qc}:∀{P:List Str} {vs:List Qc} {i:Nat} {m:Str->Option Qc},P.Nodup->P[i]?=some x->vs[i]?=some v->kindOf x=some .local ->
 bindL kindOf (P.zip vs) m x=some v
 | [],_,_,_,_,h,_,_=>by simp at h
 | _::_,[],_,_,_,_,h,_=>by simp at h
 | p::P,w::vs,0,m,nd,h1,h2,hk=>by simp at h1 h2;subst h1;subst h2;show bindL kindOf ((p,w)::P.zip vs) m p=_;unfold bindL;rw[Jai fun v hv=>(Q6.mp nd).1 (Ku hv).1,if_pos hk];simp
 | p::P,w::vs,i+1,m,nd,h1,h2,hk=>by show bindL kindOf ((p,w)::P.zip vs) m x=_;unfold bindL;exact Jah (i:=i) (Q6.mp nd).2 (by simpa using h1) (by simpa using h2) hk
theorem Jaf{kindOf:Str->Option NameKind}{x:Str}{v:Qc}:∀{P:List Str} {vs:List Qc} {i:Nat} {m:Str->Option Qc},P.Nodup->P[i]?=some x->vs[i]?=some v->kindOf x≠some .local ->
 bindC kindOf (P.zip vs) m x=some v
 | [],_,_,_,_,h,_,_=>by simp at h
 | _::_,[],_,_,_,_,h,_=>by simp at h
 | p::P,w::vs,0,m,nd,h1,h2,hk=>by simp at h1 h2;subst h1;subst h2;show bindC kindOf ((p,w)::P.zip vs) m p=_;unfold bindC;rw[Jag fun v hv=>(Q6.mp nd).1 (Ku hv).1,if_neg hk];simp
 | p::P,w::vs,i+1,m,nd,h1,h2,hk=>by show bindC kindOf ((p,w)::P.zip vs) m x=_;unfold bindC;exact Jaf (i:=i) (Q6.mp nd).2 (by simpa using h1) (by simpa using h2) hk

noncomputable def Yq(N:List Str)(vs:List V):St:=vs.map some++QA (N.length-vs.length) none

noncomputable def VX(CX:CXT)(P:Qw)(w:QF)(K:Qx)(mg:Str->Option Qc)(base:QL)(N:List Str)(qual:Str)(scope:Lu)(f:Qd)(cd:Qc)(A:QC)(outer:List Env)(s:Qe)(H:Hp)(E:XK):Cx where
 prog:=P
 w:=w
 K:=K
 mg:=mg
 base:=base
 A:=A.deeper (envOfC qual scope s.heap.objs.size f cd)
 N:=N
 s₀:=s
 H₀:=H
 env:=envOfC qual scope s.heap.objs.size f cd
 outer:=outer
 stack:=envOfC qual scope s.heap.objs.size f cd::outer
 ex:=[]
 calm:=true
 fn:=fun _=>true
 pn:=[]
 xe:=fun e s'=>wpAny (model P w) (A.deeper (envOfC qual scope s.heap.objs.size f cd)) (leaving (envOfC qual scope s.heap.objs.size f cd) e) (fun _ s''=>CX outer H s E e s'') (fun e' s''=>CX outer H s E e' s'') s'

theorem Jb7{sc:Lu}{n:Nat}{x:Str}(h:sc.names.lookup x=some .cell):∃c,(cellsFrom n sc.names []).lookup x=some c:=by have q:=cellsFrom_some sc.names n [] (.inl h);exact Lv.mp q

theorem V5{CX:CXT}{P:Qw}{w:QF}{K:Qx}{mg:Str->Option Qc}{base:QL}{N ps:List Str}{qual:Str}{scope:Lu}{f:Qd}{cd:Qc}{A:QC}{outer:List Env}{s s1:Qe}{H:Hp}{E:XK}{us:List Qc}{vs:List V}
 (S:FnScope N ps scope) (hd:A.handled=none) (e0:Env0 P w K mg base A outer s H) (hl:vs.length=ps.length) (r:Vals vs us)
 (x:InCallC s s.heap.objs.size (bindL (envOfC qual scope s.heap.objs.size f cd).kindOf (ps.zip us) fun _=>none) (cellsFrom (s.heap.objs.size+1) scope.names []) (bindC (envOfC qual scope s.heap.objs.size f cd).kindOf (ps.zip us) fun _=>none) s1) :
 Inv (VX CX P w K mg base N qual scope f cd A outer s H E) [] (Yq N vs) H s1:=by
 have hpl:ps.length<=N.length:=by have:=congrArg Rz S.pre;rw[Kx] at this;omega
 obtain⟨h1,tk,rfl,hk⟩:=x.done;have noA:∀b:Qd,b∉(VX CX P w K mg base N qual scope f cd A outer s H E).ex:=fun b z=>absurd (show b∈([]:List Qd) from z) (by simp)
 refine⟨⟨e0.mod,S.kind,rfl,rfl,Qr _,fun y z c h1 h2=>?_,fun y hy=>?_,fun y c _ h=>?_,fun _=>hd,RA e0.frames,.inr ⟨rfl,rfl⟩,fun b z=>absurd z (noA b),e0.bs,e0.bsz,fun b _ _=>noA b,fun b z=>absurd z (noA b),e0.funs,e0.frf⟩,
  rfl,e0.bare,Un.kept hk,⟨_,x.toInCall.ns,fun i y v h1 h2 h3=>?_⟩,fun y c h=>⟨_,x.cell y c h⟩,e0.hok.fresh (Qr _),fun y c h=>?_,fun p hp=>absurd (show p∈([]:List (Qd×Obj)) from hp) (by simp),e0.hok.kept hk,?_⟩
 ·exact name_of_addr x.apart (Kv h1) (Kv h2)
 ·have hy:scope.names.lookup y=some .cell\/scope.names.lookup y=some .free:=hy;rcases hy with hy|hy
  ·exact Jb7 hy
  ·exact absurd rfl (S.nofree _ (Kv hy))
 ·exact GZ (x.above y c (Kv h))
 ·have hi:i<vs.length:=by
   unfold Yq at h2
   by_cases hi:i<vs.length
   ·exact hi
   ·rw[QE (by simpa using hi)] at h2;rw[MR] at h2;split at h2 <;> cases h2
  have ha:vs[i]?=some v:=by
   unfold Yq at h2;rw[QI (by simpa using hi),Qo] at h2
   cases e:vs[i]? with
   | none=>rw[e] at h2;cases h2
   | some a=>rw[e] at h2;cases h2;rfl
  obtain⟨u,hu,rv⟩:=r.get ha
  have hp:ps[i]?=some y:=by rw[<- S.pre,List.getElem?_take_of_lt (by omega)];exact h1
  have ndP:ps.Nodup:=by rw[<- S.pre];exact S.nd.sublist (List.take_sublist _ _)
  refine⟨u,rv,?_⟩;rcases S.par y (QJ hp) with k|k
  ·exact .inl ⟨k,Jah ndP hp hu k⟩
  ·obtain⟨c,e⟩:=Jb7 (n:=s.heap.objs.size+1) k;refine .inr ⟨.inl k,c,e,?_⟩;have q:=x.cell y c e;rw[Jaf ndP hp hu (by show scope.names.lookup y≠_;rw[k];decide)] at q;exact q
 ·exact e0.hok.fresh (GZ (x.above y c (Kv h)))
 ·unfold Yq;show _=N.length;rw[Qz,Qq,GB];omega

theorem Jl0{CX:CXT}{P:Qw}{w:QF}{K:Qx}{mg:Str->Option Qc}{base:QL}{k:Nat}{f:Qd}{name qual:Str}{params:Mn}{body:List Kj}{scope:Lu}{dV kV doc pm cdv ct oc:Qc}{an od:Option Qd}
 {osl:Array (Option Qc)} {N ps:List Str} {sp:Sp} (lk:K.lookup f=some ⟨oc,od,.func (fnOf name qual params body scope dV kV doc pm an cdv ct),osl⟩) (hcd:codeIn K cdv qual=true) (S:FnScope N ps scope)
 (len:∀vs H Q E,sp vs H Q E->vs.length=ps.length)
 (hbody:∀(A:QC) (outer:List Env) (s:Qe) (H:Hp) (vs:List V) (Q:VK) (E:XK),Room k (A.deeper (envOfC qual scope s.heap.objs.size f cdv))->sp vs H Q E ->
  ∃t,PSs (VX CX P w K mg base N qual scope f cdv A outer s H E) body t/\t { nx:=fun _ H'=>Q .non H',rt:=Q } (Yq N vs) H) :
 FnOk P w K mg base CX (k+1) f (fnOf name qual params body scope dV kV doc pm an cdv ct) ps sp:=by
 refine⟨len,fun A outer s H args us vs Q E hr e0 hb r hsp=>?_⟩;have hl:=len _ _ _ _ hsp;have KX:K.In s.heap:=e0.mod.kin.keeps fun b o e=>(e0.bs b o e).1
 have lim:s.heap.NoLimit:=e0.mod.nolimit.keeps fun b o e=>(e0.bs b o e).1
 have hkind:∀y∈ps.zip us,scope.names.lookup y.1=some .local\/(scope.names.lookup y.1=some .cell/\((cellsFrom (s.heap.objs.size+1) scope.names []).lookup y.1).isSome=true):=fun⟨n,v⟩ hy=>by
  rcases S.par n (Ku hy).1 with q|q
  ·exact .inl q
  ·exact .inr ⟨q,cellsFrom_some _ _ _ (.inl q)⟩
 refine codeAny_call_function hr.depth (KX _ _ lk) rfl S.co S.gen rfl (RV KX hcd) (hb _ _ _ _ ?_);refine Lj S.kind hkind fun env he s1 x=>?_
 subst he;refine⟨lim.keeps x.toInCall.keep,codeAny_func ?_⟩;obtain⟨t,ht,hq⟩:=hbody A outer s H vs Q E (hr.deeper _) hsp;have I:Inv (VX CX P w K mg base N qual scope f cdv A outer s H E) [] (Yq N vs) H s1:=V5 S hr.hd e0 hl r x;refine Ka (ht [] s1 (Yq N vs) H _ I hq) (fun fl s' hs=>?_) fun e s' hs=>hs
 have fin:∀{σ':St} {H':Hp} {v:V} {u:Qc},Inv (VX CX P w K mg base N qual scope f cdv A outer s H E) [] σ' H' s'->RelV v u->Q v H'->CE outer P w H s Q u s' :=
  fun {σ' H' v u} J rv q=>⟨v,H',J.os,J.bare,J.base,J.hok,rv,q⟩
 cases fl with
 | ret u=>obtain⟨v,σ',H',J,rv,q⟩:=hs;exact fin J rv q
 | next=>obtain⟨σ',H',J,q⟩:=hs;exact fin (v:=V.non) (u:=Value.none) J rfl q
 | brk=>obtain⟨_,_,_,q⟩:=hs;exact Gw q
 | cont=>obtain⟨_,_,_,q⟩:=hs;exact Gw q
end L2

namespace L2
open PySem PySem.Spec PyProof.Rows
section
variable{X:Cx}{x:Str}{p pos:Pos}{e:Q7}{es:List Q7}{t:TA}{id T:String}{r:List V->Hp->VK->Prop}

noncomputable def tCB(r:List V->Hp->VK->Prop)(t:TA):TE:=fun σ H Q=>t σ H fun vs H1=>r vs H1 Q
theorem Jr(hc:CallR X (.builtin id) r)(hg:Gl X x)(hm:X.mg x=none)(hv:bootBuiltins x=some (.builtin id))(ha:PA X (e::es) t)(hn:x≠"__name__":=by decide)(hdb:(x == ("__debug__":Str))=false:=by decide)
 (he:starEach (e::es) X.env=(false,eval e X.env)::starEach es X.env:=by rfl) (hpl:(backTo pos (starEach es X.env)).any (·.1)=false:=by rfl):PE X (.Call (.Name x p) (e::es) [] pos) (tCB r t):=by
 intro pins s σ H Q I h;refine Ky (UJ I hg hm hv ?_ hn hdb);exact PyProof.Rows.callWith_builtin1 (thn (ha pos pins s σ H _ I h) fun us s1 ⟨vs,H1,I1,r1,q1⟩=>hc pins s1 σ H1 vs us Q I1 r1 q1) he hpl
theorem U1(hc:CallR X (.type T) r)(hg:Gl X x)(hm:X.mg x=none)(hv:bootBuiltins x=some (.type T))(ha:PA X (e::es) t)(hn:x≠"__name__":=by decide)(hdb:(x == ("__debug__":Str))=false:=by decide)
 (he:starEach (e::es) X.env=(false,eval e X.env)::starEach es X.env:=by rfl) (hpl:(backTo pos (starEach es X.env)).any (·.1)=false:=by rfl):PE X (.Call (.Name x p) (e::es) [] pos) (tCB r t):=by
 intro pins s σ H Q I h;refine Ky (UJ I hg hm hv ?_ hn hdb);exact Kw (thn (ha pos pins s σ H _ I h) fun us s1 ⟨vs,H1,I1,r1,q1⟩=>hc pins s1 σ H1 vs us Q I1 r1 q1) he hpl
end
end L2

namespace HT
open PySem PyProof.Rows

section
open PySem.SeqAt
open PySem.AutoSeq1 (wpAny_loadPart')
open PySem.MeetsSeq PySem.MeetsSeq2 PySem.MeetsSeq3

end

section
variable{prog:Qw}{w:QF}{A:QC}{E:Qc->Qe->Prop}{s:Qe}

theorem JjB{t b:Qd}{vs ws:List Qc}{Q:Qc->Qe->Prop}(ht:IsTup s.heap t vs.toArray)(hb:IsTup s.heap b ws.toArray)(hv:vs≠[])
 (h1:ws=[]->Q (.ref t) s) (h2:ws≠[]->Q (.ref s.heap.objs.size) { s with heap:=s.heap.push { cls:=.type "tuple",data:=.seq (vs++ws).toArray } })
 (hsz:vs.length+ws.length<=Qt):wpAny (model prog w) A (binaryOp .Add (.ref t) (.ref b)) Q E s:=by
 obtain⟨⟨cls,dd,data,sl⟩,ho,hc,n,hd⟩:=id ht;obtain⟨⟨cls2,dd2,data2,sl2⟩,ho2,hc2,n2,hd2⟩:=id hb;simp only at hc hd hc2 hd2;subst hc hd hc2 hd2;have e:vs.toArray++ws.toArray=(vs++ws).toArray:=by simp
 by_cases hw:ws=[]
 ·exact concat_meets ⟨_,ho,rfl⟩ ⟨_,ho2,rfl⟩ noFill_tuple_add seq_tuple_add M9 MS (ML _ _)
   (tuple_addW1 t b vs.toArray ws.toArray n n2 dd dd2 sl sl2 (by simpa using hv) (by simp[hw])) ⟨ho,ho2,h1 hw⟩
 ·refine concat_meets ⟨_,ho,rfl⟩ ⟨_,ho2,rfl⟩ noFill_tuple_add seq_tuple_add M9 MS (ML _ _)
   (tuple_addW2 t b vs.toArray ws.toArray n n2 dd dd2 sl sl2 (by simpa using hv) (by simpa using hw) (by rw[Qu,Qu];exact hsz)) ⟨ho,ho2,?_⟩
  rw[e];exact h2 hw

noncomputable def sIx(n d:Nat):Option Int->Nat
 | none=>d
 | some v=>if v<0 then(v+(n:Int)).toNat else min v.toNat n
theorem Joq(n d:Nat)(hd:d<=n)(o:Option Int):sIx n d o<=n:=by
 cases o with
 | none=>exact hd
 | some v =>
  show(if v<0 then(v+(n:Int)).toNat else min v.toNat n)<=n
  by_cases hv:v<0
  ·rw[if_pos hv];omega
  ·rw[if_neg hv];exact Nat.min_le_right _ _
theorem Jey(v:Int)(n d:Nat):(if v<0 then max (v+(n:Int)) 0 else min v (n:Int))=((sIx n d (some v):Nat):Int):=by
 show(if v<0 then max (v+(n:Int)) 0 else min v (n:Int))=(((if v<0 then(v+(n:Int)).toNat else min v.toNat n):Nat):Int)
 by_cases hv:v<0
 ·simp only[if_pos hv];omega
 ·simp only[if_neg hv];omega
theorem Jdi(lo hi:Option Int)(n:Nat):Lq lo hi 1 (n:Int)=(((sIx n 0 lo:Nat):Int),((sIx n n hi:Nat):Int)):=by
 have h1:¬((1:Int)<0):=by omega
 unfold Lq;simp only[h1,if_false];refine Lw ?_ ?_
 ·cases lo with
  | none=>rfl
  | some v=>exact Jey v n 0
 ·cases hi with
  | none=>rfl
  | some v=>exact Jey v n n
theorem Jd2(i j:Nat):KE (i:Int) (j:Int) 1=j-i:=by
 unfold KE;have h1:(1:Int)>0:=by omega
 simp only[h1,if_true,Int.ediv_one];split <;> omega
theorem ZM{v:Qc}{o:Option Int}{Q:Option Int->Qe->Prop}(p:IsPart v o)(h:Q o s):wpAny (model prog w) A (Builtin.Slice.slicePartIndex v) Q E s:=by
 cases p with
 | none=>exact slicePart_none h
 | int i t=>exact slicePart_int h
theorem Uk{sl:Qd}{vl vu:Qc}{lo hi:Option Int}{n:Nat}{Q:Int×Int×Nat->Qe->Prop}(hs:s.heap.IsSliceOf sl vl vu .none)(pl:IsPart vl lo)(pu:IsPart vu hi)
 (h:Q (((sIx n 0 lo:Nat):Int),1,sIx n n hi-sIx n 0 lo) s):wpAny (model prog w) A (Mr (.ref sl) (pure (n:Int))) Q E s:=by
 obtain⟨os,hos,hcs,hds⟩:=id hs;unfold Mr Builtin.Slice.sliceFields;refine Qa (Qa (Gs hos hds (x:=vl) rfl (Qa (Gs hos hds (x:=vu) rfl (Qa (Gs hos hds (x:=.none) rfl (Qj ?_)))))));refine Qa (slicePart_none ?_);show wpAny _ _ (if ((1:Int) == 0)=true then _ else _) _ _ s;rw[if_neg (by decide)];refine Qa (ZM pl (Qa (ZM pu (Qa (Qj ?_)))))
 show wpAny _ _ (match Lq lo hi 1 (n:Int) with|(lo,hi)=>pure (lo,(1:Int),KE lo hi 1)) _ _ s;rw[Jdi lo hi n]
 show wpAny _ _ (pure (((sIx n 0 lo:Nat):Int),(1:Int),KE ((sIx n 0 lo:Nat):Int) ((sIx n n hi:Nat):Int) 1)) _ _ s;rw[Jd2];exact Qj h
theorem Jio(xs:Array Qc)(i k:Nat):((QS k).filterMap fun(m:Nat)=>xs[((i:Int)+(m:Int)*1).toNat]?).toArray=((xs.toList.drop i).take k).toArray:=by
 have e:(fun(m:Nat)=>xs[((i:Int)+(m:Int)*1).toNat]?)=fun m=>xs[i+m]?:=by
  funext m
  have:((i:Int)+(m:Int)*1).toNat=i+m:=by omega
  rw[this]
 rw[e];have:=pick_run xs i k;rw[List.filterMap_map] at this;have e2:((fun x=>xs[x]?) ∘ fun x=>i+x)=fun m=>xs[i+m]?:=rfl
 rw[e2] at this;rw[this]

theorem VA{t sl:Qd}{items:Array Qc}{vl vu:Qc}{lo hi:Option Int}{Q:Qc->Qe->Prop}(ht:IsTup s.heap t items)(hs:s.heap.IsSliceOf sl vl vu .none)(pl:IsPart vl lo)(pu:IsPart vu hi)
 (hw:¬(sIx items.size 0 lo=0/\sIx items.size items.size hi=items.size))
 (h:Q (.ref s.heap.objs.size) { s with heap:=s.heap.push { cls:=.type "tuple",data:=.seq ((items.toList.drop (sIx items.size 0 lo)).take (sIx items.size items.size hi-sIx items.size 0 lo)).toArray } })
 (hsz:items.size<=Qt):wpAny (model prog w) A (getItem (.ref t) (.ref sl)) Q E s:=by
 have htake:sizeOk (.seq ((items.toList.drop (sIx items.size 0 lo)).take (sIx items.size items.size hi-sIx items.size 0 lo)).toArray):=by show((items.toList.drop (sIx items.size 0 lo)).take (sIx items.size items.size hi-sIx items.size 0 lo)).toArray.size<=Qt;rw[Qu,Kx,MT,QM];omega
 have hj:sIx items.size items.size hi<=items.size:=Joq _ _ (Qr _) hi;obtain⟨os,hos,hcs,hds⟩:=id hs
 have hTs:s.TypeIs (.ref sl) "slice":=⟨os,hos,hcs⟩
 unfold getItem
 try with_reducible refine G8 ?_
 first|refine Qa (Qj ?_)|skip
 refine Qa (wpAny_sequenceKey ht.typeIs (by decide) ?_);refine Qa (Gg (name:=Gr "__getitem__") ht.typeIs Gy
  (Gm Gy ht.typeIs entry_tuple_getitem ?_ (args_tuple_getitem _ _)))
 show wpAny _ _ (Ms (.ref t) >>= _) _ _ s;refine Qa (tupleItemsOf_ ht ?_);refine Qa (Mc hTs ?_);rw[if_pos (by decide)];refine Qa (Uk hs pl pu ?_)
 have hno:¬((((sIx items.size 0 lo:Nat):Int) == 0 && (1:Int) == 1 && (sIx items.size items.size hi-sIx items.size 0 lo) == items.size)=true):=by intro q;rw[QX,QX] at q;have q1:((sIx items.size 0 lo:Nat):Int)=0:=eq_of_beq q.1.1;have q2:sIx items.size items.size hi-sIx items.size 0 lo=items.size:=eq_of_beq q.2;exact hw ⟨by omega,by omega⟩
 show wpAny _ _ (if (((sIx items.size 0 lo:Nat):Int) == 0 && (1:Int) == 1 && (sIx items.size items.size hi-sIx items.size 0 lo) == items.size)=true then _ else _) _ _ s;rw[if_neg hno,Jio]
 first
  | exact Qa (m:=KN _) (Gc (Qj ⟨_,rfl,Qj h⟩) htake)
  | exact Qa (m:=KN _) (Gc (Qa (Qj (Qj ⟨_,rfl,Qj h⟩))) htake)
  | exact Qa (Qa (m:=KN _) (Gc (Qj (Qj ⟨_,rfl,Qj h⟩)) htake))
  | exact Qa (Qa (m:=KN _) (Gc (Qj ⟨_,rfl,Qj h⟩) htake))
end
end HT

namespace L2
open PySem PySem.Spec PyProof.Rows

noncomputable abbrev TO:=St->Hp->(Option Int->Hp->Prop)->Prop
noncomputable def PO(X:Cx)(e:Option Q7)(t:TO):Prop :=
 ∀(pins:List (Qd×Obj)) (s:Qe) (σ:St) (H:Hp) (Q:Option Int->Hp->Prop),Inv X pins σ H s->t σ H Q ->
  wpAny (model X.prog X.w) X.A (evalPart e X.env) (fun u s'=>∃o H',Inv X pins σ H' s'/\IsPart u o/\Q o H') X.xe s
noncomputable def JfI:TO:=fun _ H Q=>Q none H
noncomputable def Jmm(t:TE):TO:=fun σ H Q=>t σ H fun x H1=>∃i,x=.int i/\Q (some i) H1

theorem Uu{ns:List Int}:∀{us:List Qc},Vals (ns.map V.int) us->IntsAre us ns:=by
 induction ns with
 | nil=>intro us r;rw[K5] at r;cases r;exact .nil
 | cons n ns ih =>
  intro us r;rw[Qg] at r
  cases r with
  | cons r1 r2=>obtain⟨t,e⟩:=r1;subst e;exact .cons n t (ih r2)

section
variable{X:Cx}{e:Q7}{te:TE}{lo hi:Option Q7}{tl th:TO}{pos p2:Pos}

theorem JkQ:PO X none JfI:=by intro pins s σ H Q I h;rw[evalPart_none];exact Qj ⟨none,H,I,.none,h⟩
theorem JkR(h:PE X e te):PO X (some e) (Jmm te):=by
 intro pins s σ H Q I hw;rw[evalPart_some];refine thn (h pins s σ H _ I hw) fun u s1 ⟨x,H1,I1,r1,q1⟩=>?_
 obtain⟨i,rfl,q⟩:=q1;obtain⟨t,rfl⟩:=r1;exact⟨some i,H1,I1,.int i t,q⟩

noncomputable def SlR(X:Cx)(r:V->Option Int->Option Int->Hp->VK->Prop):Prop :=
 ∀(pins:List (Qd×Obj)) (s:Qe) (σ:St) (H:Hp) (x:V) (v vl vu:Qc) (lo hi:Option Int) (sl:Qd) (Q:VK),Inv X pins σ H s->RelV x v->s.heap.IsSliceOf sl vl vu .none->IsPart vl lo->IsPart vu hi->r x lo hi H Q ->
  ∃T id,typeLookup (.type T) "__getitem__"=pure (some (.builtin id))/\s.TypeIs v T/\wpAny (model X.prog X.w) X.A (getItem v (.ref sl)) (EP X pins σ Q) X.xe s
theorem SlR.or{r r':V->Option Int->Option Int->Hp->VK->Prop}(h:SlR X r)(h':SlR X r'):SlR X (fun x lo hi H Q=>r x lo hi H Q\/r' x lo hi H Q):=by
 intro pins s σ H x v vl vu lo hi sl Q I rx hs pl pu q;rcases q with q|q
 ·exact h pins s σ H x v vl vu lo hi sl Q I rx hs pl pu q
 ·exact h' pins s σ H x v vl vu lo hi sl Q I rx hs pl pu q
noncomputable def tSl(r:V->Option Int->Option Int->Hp->VK->Prop)(te:TE)(tl th:TO):TE:=fun σ H Q=>te σ H fun x H1=>tl σ H1 fun l H2=>th σ H2 fun u H3=>r x l u H3 Q
theorem Jii{r:V->Option Int->Option Int->Hp->VK->Prop}(hr:SlR X r)(he:PE X e te)(hl:PO X lo tl)(hu:PO X hi th):PE X (.Subscript e (.Slice lo hi none p2) pos) (tSl r te tl th):=by
 intro pins s σ H Q I h;refine Subscript_ (thn (he pins s σ H _ I h) fun v s1 ⟨x,H1,I1,r1,q1⟩=>?_);refine wpAny_Slice (thn (hl pins s1 σ H1 _ I1 q1) fun vl s2 ⟨l,H2,I2,pl,q2⟩=>thn (hu pins s2 σ H2 _ I2 q2) fun vu s3 ⟨u,H3,I3,pu,q3⟩=>?_);rw[evalPart_none];refine Qj ?_;have I4:Inv X pins σ H3 { s3 with heap:=s3.heap.push { cls:=.type "slice",data:=.fields #[vl,vu,.none] } }:=I3.kept (t':=s3.toks) fun b ob q=>Qi _ q
 obtain⟨T,id,hT,ht,hg⟩:=hr pins { s3 with heap:=s3.heap.push { cls:=.type "slice",data:=.fields #[vl,vu,.none] } } σ H3 x v vl vu l u s3.heap.objs.size Q I4 r1 (Heap.IsSliceOf.new ..) pl pu q3;show wpAny (model X.prog X.w) X.A (subscriptTail e (.Slice lo hi none p2) v (.ref s3.heap.objs.size)) (EP X pins σ Q) X.xe { s3 with heap:=s3.heap.push { cls:=.type "slice",data:=.fields #[vl,vu,.none] } };exact tail_any (ops:=[.ref s3.heap.objs.size,v]) ht hT hg (by with_unfolding_all rfl)

noncomputable def ZW(xs:List V)(lo hi:Option Int):List V:=(xs.drop (HT.sIx xs.length 0 lo)).take (HT.sIx xs.length xs.length hi-HT.sIx xs.length 0 lo)
theorem Wj(xs:List V)(lo hi:Option Int):(ZW xs lo hi).length<=xs.length:=by unfold ZW;rw[Kx,MT];omega
noncomputable def JpW(K:Qx):V->Option Int->Option Int->Hp->VK->Prop:=fun x lo hi H Q=>∃a xs,x=.ref a/\SqT K H a xs ∧
 ¬(HT.sIx xs.length 0 lo=0/\HT.sIx xs.length xs.length hi=xs.length)/\∀p,H p=none->Q (.ref p) (upd H p (.tup (ZW xs lo hi)))
theorem sl_tup:SlR X (JpW X.K):=by
 intro pins s σ H x v vl vu lo hi sl Q I rx hs pl pu h;obtain⟨a,xs,rfl,hx,hw,q⟩:=h;cases rx;obtain⟨its,r,ht,hz⟩:=I.tuple hx;have hlen:its.toArray.size=xs.length:=by rw[Qu];exact r.length.symm
 refine⟨"tuple",_,Gy.lookup,ht.typeIs,?_⟩;refine HT.VA ht hs pl pu (by rw[hlen];exact hw) ?_ (by rw[hlen];exact hz);rw[hlen];refine⟨.ref s.heap.objs.size,_,I.laid (t':=s.toks) (o:=.tup (ZW xs lo hi)) (fun b ob q=>Qi _ q) (Qr _) ?_,rfl,q _ (I.hok.fresh (Qr _))⟩;exact⟨Gb (Wj xs lo hi) hz,_,(r.drop (HT.sIx xs.length 0 lo)).take (HT.sIx xs.length xs.length hi-HT.sIx xs.length 0 lo),IsTup.new _ _⟩

noncomputable def Jmg(K:Qx):R2:=fun x y H Q=>∃a b xs ys,x=.ref a/\y=.ref b/\SqT K H a xs/\SqT K H b ys/\xs≠[]/\xs.length+ys.length<=Qt ∧
 (ys=[]->Q (.ref a) H)/\(ys≠[]->∀p,H p=none->Q (.ref p) (upd H p (.tup (xs++ys))))
theorem Vals.nil_iff{xs:List V}{us:List Qc}(r:Vals xs us):us=[]↔xs=[]:=by
 cases r with
 | nil=>simp
 | cons _ _=>simp
theorem JkH:OpR X (binaryOp .Add) (Jmg X.K):=by
 intro pins s σ H x y v u Q I rx ry h;obtain⟨a,b,xs,ys,rfl,rfl,ha,hb,hx,hz,q1,q2⟩:=h;cases rx;cases ry;obtain⟨its,r1,p1,_⟩:=I.tuple ha;obtain⟨its2,r2,p2,_⟩:=I.tuple hb;refine HT.JjB p1 p2 (fun z=>hx (r1.nil_iff.mp z)) (fun z=>⟨.ref a,H,I,rfl,q1 (r2.nil_iff.mp z)⟩) (fun z=>?_) (by rw[<- r1.length,<- r2.length];exact hz);refine⟨.ref s.heap.objs.size,_,I.laid (t':=s.toks) (o:=.tup (xs++ys)) (fun b ob q=>Qi _ q) (Qr _) ?_,rfl,q2 (fun w=>z (r2.nil_iff.mpr w)) _ (I.hok.fresh (Qr _))⟩
 exact⟨by rw[Qz];exact hz,_,r1.append r2,IsTup.new _ _⟩
end
end L2

namespace L2
open PySem PySem.Spec PyProof.Rows

noncomputable def ixN(n:Nat)(i:Int):Option Nat:=if 0<=i then(if i<n then some i.toNat else none) else if -(n:Int)<=i then some (i+n).toNat else none
noncomputable def atI{α:Type}(xs:List α)(i:Int):Option α:=(ixN xs.length i).bind fun j=>xs[j]?
theorem Jkl{n:Nat}{i:Int}{j:Nat}(h:ixN n i=some j):seqIndex? i n=some j/\j<n/\-(n:Int)<=i/\i<n:=by
 unfold ixN at h
 by_cases h0:0<=i
 ·rw[if_pos h0] at h
  by_cases h1:i<n
  ·rw[if_pos h1] at h;have e:i.toNat=j:=QT h;exact⟨by rw[seqIndex_of h0 h1,e],by omega,by omega,h1⟩
  ·rw[if_neg h1] at h;cases h
 ·rw[if_neg h0] at h
  by_cases h1:-(n:Int)<=i
  ·rw[if_pos h1] at h;have e:(i+n).toNat=j:=QT h;exact⟨by rw[seqIndex_neg (by omega) h1,e],by omega,h1,by omega⟩
  ·rw[if_neg h1] at h;cases h
theorem JaT{α:Type}{xs:List α}{i:Int}{v:α}(h:atI xs i=some v):∃j,seqIndex? i xs.length=some j/\xs[j]?=some v/\j<xs.length/\-(xs.length:Int)<=i/\i<xs.length:=by
 unfold atI at h
 cases e:ixN xs.length i with
 | none=>rw[e] at h;cases h
 | some j=>rw[e] at h;obtain⟨h1,h2,h3,h4⟩:=Jkl e;exact⟨j,h1,h,h2,h3,h4⟩
noncomputable def Jem(b:Q7):Prop:=∀o i,subscripted b false o i=operate [o,i] (getItem o i)
noncomputable def IxR(X:Cx)(r:R2):Prop :=
 ∀(value slice:Q7) (pins:List (Qd×Obj)) (s:Qe) (σ:St) (H:Hp) (x y:V) (v u:Qc) (Q:VK),Inv X pins σ H s->RelV x v->RelV y u->r x y H Q ->
  subscripted slice false v u=operate [v,u] (getItem v u)->wpAny (model X.prog X.w) X.A (subscriptTail value slice v u) (EP X pins σ Q) X.xe s
noncomputable def MtR(X:Cx)(id:String)(r:V->List V->Hp->VK->Prop):Prop :=
 ∀(pins:List (Qd×Obj)) (s:Qe) (σ:St) (H:Hp) (x:V) (xs:List V) (v:Qc) (us:List Qc) (Q:VK),Inv X pins σ H s->RelV x v->Vals xs us->r x xs H Q ->
  wpAny (model X.prog X.w) X.A (call (.builtin id) (v::us)) (EP X pins σ Q) X.xe s
section
variable{X:Cx}{a b:Q7}{ta tb:TE}{pos:Pos}
theorem IxR.or{r r':R2}(h:IxR X r)(h':IxR X r'):IxR X (fun x y H Q=>r x y H Q\/r' x y H Q):=by
 intro value slice pins s σ H x y v u Q I rx ry q hs;rcases q with q|q
 ·exact h value slice pins s σ H x y v u Q I rx ry q hs
 ·exact h' value slice pins s σ H x y v u Q I rx ry q hs
theorem MtR.or{id:String}{r r':V->List V->Hp->VK->Prop}(h:MtR X id r)(h':MtR X id r'):MtR X id (fun x xs H Q=>r x xs H Q\/r' x xs H Q):=by
 intro pins s σ H x xs v us Q I rx rs q;rcases q with q|q
 ·exact h pins s σ H x xs v us Q I rx rs q
 ·exact h' pins s σ H x xs v us Q I rx rs q
theorem Jmf{r:R2}(hr:IxR X r)(ha:PE X a ta)(hb:PE X b tb)(hs:Jem b):PE X (.Subscript a b pos) (tOp r ta tb):=by intro pins s σ H Q I h;exact Subscript_ (Jmw ha hb I h fun v u s2 x y H2 I2 rx ry q=>hr a b pins s2 σ H2 x y v u Q I2 rx ry q (hs _ _))

noncomputable def JpP(K:Qx):R2:=fun x y H Q=>∃p xs i v,x=.ref p/\y=.int i/\SqL K H p xs/\atI xs i=some v/\Q v H
noncomputable def JpR(K:Qx):R2:=fun x y H Q=>∃p xs i v,x=.ref p/\y=.int i/\SqT K H p xs/\atI xs i=some v/\Q v H
noncomputable def JpQ:R2:=fun x y H Q=>∃z i c,x=.str z/\y=.int i/\z.length<=Qt/\atI z.cps.toList i=some c/\Q (.str ⟨#[c]⟩) H
theorem ix_list:IxR X (JpP X.K):=by
 intro value slice pins s σ H x y v u Q I rx ry h hs;obtain⟨p,xs,i,z,rfl,rfl,hq,he,q⟩:=h;cases rx;obtain⟨t,rfl⟩:=ry;obtain⟨its,r,pl,hz⟩:=I.list hq;obtain⟨j,h1,h2,h3,h4,h5⟩:=JaT he;obtain⟨w,ew,rw'⟩:=r.get h2;have hl:=r.length;have hn:=Zk;have fin:EP X pins σ Q w s:=⟨z,H,I,rw',q⟩
 by_cases h0:0<=i
 ·have hj:i.toNat=j:=by rw[seqIndex_of h0 h5] at h1;exact QT h1
  exact item_listR pl.isList h0 (by omega) (by rw[hj];simpa using ew) fin hs
 ·have hj:(i+(its.toArray.size:Int)).toNat=j:=by rw[seqIndex_neg (by omega) h4] at h1;rw[Qu,<- hl];exact QT h1
  exact subscriptTail_builtinR (x:=w) pl.isList.typeIs slot_list_getitem.lookup
   (wpAny_getItem_list_neg (Q:=fun r s'=>r=w/\EP X pins σ Q r s') pl.isList (by omega) (by rw[Qu] <;> omega) (by omega) (by rw[hj];simpa using ew) ⟨rfl,fin⟩) hs
theorem ix_tup:IxR X (JpR X.K):=by
 intro value slice pins s σ H x y v u Q I rx ry h hs;obtain⟨p,xs,i,z,rfl,rfl,hq,he,q⟩:=h;cases rx;obtain⟨t,rfl⟩:=ry;obtain⟨its,r,pl,hz⟩:=I.tuple hq;obtain⟨j,h1,h2,h3,h4,h5⟩:=JaT he;obtain⟨w,ew,rw'⟩:=r.get h2;have hl:=r.length;have hn:=Zk;have fin:EP X pins σ Q w s:=⟨z,H,I,rw',q⟩
 exact subscriptTail_builtinR (x:=w) pl.typeIs slot_tuple_getitem.lookup
  (getItem_tuple (j:=j) (Q:=fun r s'=>r=w/\EP X pins σ Q r s') pl (by omega) (by omega) (by rw[Qu,<- hl];exact h1) (by simpa using ew) ⟨rfl,fin⟩) hs
theorem Jm5:IxR X JpQ:=by
 intro value slice pins s σ H x y v u Q I rx ry h hs;obtain⟨z,i,c,rfl,rfl,hz,he,q⟩:=h;obtain⟨t,rfl⟩:=rx;obtain⟨t',rfl⟩:=ry;obtain⟨j,h1,h2,h3,h4,h5⟩:=JaT he;have hl:z.cps.toList.length=z.length:=by simp[Str.length]
 rw[hl] at h1 h4 h5;have hn:=Zk;exact tail_any (typeIs_str s z t) slot_str_getitem.lookup (getItem_str (c:=c) (by
  have e1:decide (i < -(2 ^ 63:Int))=false:=decide_eq_false (by omega)
  have e2:decide (i ≥ 2 ^ 63)=false:=decide_eq_false (by omega);rw[e1,e2,RP]) (by rw[h1];simpa using h2) ⟨.str ⟨#[c]⟩,H,I.tok _,⟨_,rfl⟩,q⟩) hs
noncomputable def rIx(K:Qx):R2:=fun x y H Q=>JpP K x y H Q\/JpR K x y H Q\/JpQ x y H Q
theorem JhR:IxR X (rIx X.K):=ix_list.or (ix_tup.or Jm5)

theorem Inv.lst{pins:List (Qd×Obj)}{σ:St}{H:Hp}{s:Qe}{p:Qd}{xs:List V}(I:Inv X pins σ H s)(h:H p=some (.lst xs)) :
 ∃(its:List Qc) (n:Nat),Vals xs its/\s.heap.get? p=some { cls:=.type "list",data:=.seq its.toArray n }/\xs.length<=Qt:=by
 obtain⟨z,its,n,r,e⟩:=I.hok p _ h;exact⟨its,n,r,e,z⟩
theorem JbI(lo hi:Option Int)(n:Nat):(sliceBounds lo hi none n).1=((HT.sIx n 0 lo:Nat):Int)/\(sliceBounds lo hi none n).2.1=((HT.sIx n n hi:Nat):Int)/\(sliceBounds lo hi none n).2.2=1:=by
 refine⟨?_,?_,rfl⟩
 ·cases lo with
  | none=>simp[sliceBounds,HT.sIx]
  | some i =>
   simp only[sliceBounds,HT.sIx,MU,show(1:Int)>0 by decide,if_true]
   by_cases h:i<0
   ·simp only[h,if_true] <;> omega
   ·simp only[h,if_false] <;> omega
 ·cases hi with
  | none=>simp[sliceBounds,HT.sIx]
  | some i =>
   simp only[sliceBounds,HT.sIx,MU,show(1:Int)>0 by decide,if_true]
   by_cases h:i<0
   ·simp only[h,if_true] <;> omega
   ·simp only[h,if_false] <;> omega
theorem Z3(its:List Qc)(lo hi:Option Int):slicePick its.toArray lo hi none=((its.drop (HT.sIx its.length 0 lo)).take (HT.sIx its.length its.length hi-HT.sIx its.length 0 lo)).toArray:=by obtain⟨h1,h2,h3⟩:=JbI lo hi its.toArray.size;unfold slicePick;rw[h1,h2,h3];simp only[sliceRange_one,pick_run,Qu] <;> rfl
noncomputable def JpV(K:Qx):V->Option Int->Option Int->Hp->VK->Prop:=fun x lo hi H Q=>∃a xs,x=.ref a/\SqL K H a xs/\∀p,H p=none->Q (.ref p) (upd H p (.lst (ZW xs lo hi)))
theorem sl_list:SlR X (JpV X.K):=by
 intro pins s σ H x v vl vu lo hi sl Q I rx hs pl pu h;obtain⟨a,xs,rfl,hx,q⟩:=h;cases rx;obtain⟨its,r,ht,hz⟩:=I.list hx;have hlen:=r.length;refine⟨"list",_,slot_list_getitem.lookup,ht.isList.typeIs,?_⟩;refine wpAny_getItem_list_slice ht.isList hs pl pu .none (by simp) ?_ (by rw[Qu] <;> omega);rw[Z3,<- hlen];refine⟨.ref s.heap.objs.size,_,I.laid (t':=s.toks) (o:=.lst (ZW xs lo hi)) (fun b ob q=>Qi _ q) (Qr _) ?_,rfl,q _ (I.hok.fresh (Qr _))⟩
 exact⟨Gb (Wj xs lo hi) hz,_,0,(r.drop (HT.sIx xs.length 0 lo)).take (HT.sIx xs.length xs.length hi-HT.sIx xs.length 0 lo),Qn _ rfl⟩

theorem CallR.or{f:Qc}{r r':List V->Hp->VK->Prop}(h:CallR X f r)(h':CallR X f r'):CallR X f (fun xs H Q=>r xs H Q\/r' xs H Q):=by
 intro pins s σ H xs us Q I rs q;rcases q with q|q
 ·exact h pins s σ H xs us Q I rs q
 ·exact h' pins s σ H xs us Q I rs q
theorem ZV:CallR X (.type "tuple") (fun xs H Q=>∃p ys,xs=[.ref p]/\((SqL X.K H p ys/\∀l,H l=none->Q (.ref l) (upd H l (.tup ys)))\/(SqT X.K H p ys/\Q (.ref p) H))):=by
 intro pins s σ H xs us Q I r h;obtain⟨p,ys,rfl,h⟩:=h;obtain⟨u,rfl,rx⟩:=U9 r;cases rx;rcases h with ⟨hq,q⟩|⟨hq,q⟩
 ·obtain⟨its,r',pl,hz⟩:=I.list hq;have hlen:=r'.length;refine call_tuple_list pl.isList (fun h' kp=>?_) (by simp only[Qu] <;> omega);have I1:Inv X pins σ H { s with heap:=h' }:=I.kept (t':=s.toks) kp
  have I2:Inv X pins σ (upd H h'.objs.size (.tup ys)) { s with heap:=h'.push { cls:=.type "tuple",data:=.seq its.toArray } } :=
   I1.laid (t':=s.toks) (fun b o e=>Qi _ e) (Qr _) (show ObjOk X.prog X.w _ _ _ (.tup ys) from⟨hz,its,r',IsTup.new _ _⟩)
  exact⟨.ref h'.objs.size,_,I2,rfl,q _ (I1.hok.fresh (Qr _))⟩
 ·obtain⟨its,r',pl,hz⟩:=I.tuple hq;exact call_tuple_same pl ⟨.ref p,H,I,rfl,q⟩

noncomputable def tyV(K:Qx)(T:String)(x:V)(H:Hp):Prop:=match x with
 | .str _=>T="str"
 | .int _=>T="int"
 | .ref p=>(T="list"/\∃xs,SqL K H p xs)\/(T="tuple"/\∃o,K.lookup p=some o/\o.cls=.type "tuple"/\o.dict=none) ∨
  (T="dict"/\((∃kvs,H p=some (.dK kvs))\/∃kvs,H p=some (.dT kvs)))\/(T="set"/\∃S n,H p=some (.set S n))
 | _=>False
theorem Jje{pins:List (Qd×Obj)}{σ:St}{H:Hp}{s:Qe}{T:String}{x:V}{v:Qc}(I:Inv X pins σ H s)(r:RelV x v)(ty:tyV X.K T x H) :
 s.TypeIs v T/\∀a,v=.ref a->∃ob,s.heap.get? a=some ob/\ob.dict=none:=by
 cases x with
 | str z=>obtain⟨t,rfl⟩:=r;cases (show T="str" from ty);exact⟨typeIs_str s z t,fun _ e=>nomatch e⟩
 | int i=>obtain⟨t,rfl⟩:=r;cases (show T="int" from ty);exact⟨typeIs_int s i t,fun _ e=>nomatch e⟩
 | ref p =>
  cases r;rcases ty with ⟨rfl,xs,hq⟩|⟨rfl,o,hk,hc,hd⟩|⟨rfl,hk⟩|⟨rfl,S,n,hk⟩
  ·obtain⟨its,_,pl,_⟩:=I.list hq;refine⟨pl.isList.typeIs,fun a e=>?_⟩;cases e;obtain⟨o,n,e,c,hd,_⟩:=pl;exact⟨o,e,hd⟩
  ·refine⟨⟨o,I.kIn p o hk,hc⟩,fun a e=>?_⟩;cases e;exact⟨o,I.kIn _ o hk,hd⟩
  ·have z:∃o,s.heap.get? p=some o/\o.ExactDict:=by
    rcases hk with ⟨kvs,hk⟩|⟨kvs,hk⟩
    ·obtain⟨_,_,_,_,o,_,_,e,ex,_⟩:=I.hok p _ hk;exact⟨o,e,ex⟩
    ·obtain⟨_,_,_,_,o,_,_,e,ex,_⟩:=I.hok p _ hk;exact⟨o,e,ex⟩
   obtain⟨o,e,ex⟩:=z;refine⟨⟨o,e,ex.1⟩,fun a e2=>?_⟩;cases e2;exact⟨o,e,ex.2.1⟩
  ·obtain⟨o,_,_,_,e,ex,_⟩:=I.hok p _ hk;refine⟨⟨o,e,ex.1⟩,fun a e2=>?_⟩;cases e2;exact⟨o,e,ex.2.1⟩
 | _=>exact Gw ty
noncomputable def JlE(K:Qx)(T:String)(r:V->List V->Hp->VK->Prop)(to:TE):TE:=fun σ H Q=>to σ H fun x H1=>tyV K T x H1/\r x [] H1 Q
noncomputable def tBM(K:Qx)(T:String)(r:V->List V->Hp->VK->Prop)(to:TE)(t:TA):TE:=fun σ H Q=>to σ H fun x H1=>tyV K T x H1/\t σ H1 fun xs H2=>r x xs H2 Q
variable{o e:Q7}{es:List Q7}{to:TE}{t:TA}{name:Str}{apos cpos:Pos}{T id:String}{r:V->List V->Hp->VK->Prop}
theorem JnH(pa:PlainAttrs T)(slot:Slot T name id)(hty:typeOf (.builtin id)=pure (.type "method_descriptor"))(hm:MtR X id r)(ho:PE X o to)
 (hbase:attributeBase o name X.env (eval o X.env)=eval o X.env:=by rfl) (hline:(apos.endLine == cpos.line)=true:=by rfl):PE X (.Call (.Attribute o name apos) [] [] cpos) (JlE X.K T r to):=by
 intro pins s σ H Q I h;refine KS hbase hline (thn (ho pins s σ H _ I h) fun v s1 ⟨x,H1,I1,r1,ty,q1⟩=>?_);obtain⟨h1,h2⟩:=Jje I1 r1 ty;exact⟨T,id,pa,slot,hty,h1,h2,Ke rfl (Ls (hm pins s1 σ H1 x [] v [] Q I1 r1 .nil q1))⟩
theorem JpL(pa:PlainAttrs T)(slot:Slot T name id)(hty:typeOf (.builtin id)=pure (.type "method_descriptor"))(hm:MtR X id r)(ho:PE X o to)(ha:PA X (e::es) t)
 (hbase:attributeBase o name X.env (eval o X.env)=eval o X.env:=by rfl)
 (hfew:((backTo cpos (starEach (e::es) X.env)).all (fun x=>!x.1) && (backToKw cpos (keywordEach [] X.env)).all (fun x=>x.1.isSome)
  && decide ((e::es).length+([]:List MG).length+(if ([]:List MG).isEmpty then 0 else 1)<30))=true:=by rfl)
 (hline:(apos.endLine == cpos.line)=true:=by rfl) (hs:starEach (e::es) X.env=(false,eval e X.env)::starEach es X.env:=by rfl) (hplain:(backTo cpos (starEach es X.env)).any (·.1)=false:=by rfl) :
 PE X (.Call (.Attribute o name apos) (e::es) [] cpos) (tBM X.K T r to t):=by
 intro pins s σ H Q I h;refine wpAny_Call_method_late hbase hfew hline rfl (thn (ho pins s σ H _ I h) fun v s1 ⟨x,H1,I1,r1,ty,q1⟩=>?_);obtain⟨h1,h2⟩:=Jje I1 r1 ty;refine⟨T,id,pa,slot,hty,h1,h2,?_⟩;have hA:=ha cpos pins s1 σ H1 _ I1 q1;rw[hs] at hA ⊢;refine Ke (by show(false || (backTo cpos (starEach es X.env)).any (·.1))=false;rw[hplain] <;> rfl) (RB ?_);exact thn hA fun us s2 ⟨vs,H2,I2,r2,q2⟩=>hm pins s2 σ H2 x vs v us Q I2 r1 r2 q2
/- xs.append(e),list.index on a module's tuple .. are MtR facts of 06m -/
end
end L2

namespace L2
open PySem PySem.Spec PyProof.Rows

noncomputable def MtM(X:Cx)(id:String)(r:V->List V->Hp->VK->Prop):Prop :=
 ∀(pins:List (Qd×Obj)) (s:Qe) (σ:St) (H:Hp) (x:V) (xs:List V) (v:Qc) (us:List Qc) (Q:VK),Inv X pins σ H s->RelV x v->Vals xs us->r x xs H Q ->
  wpAny (model X.prog X.w) X.A (call (.builtin id) (v::us)) (EP X pins σ Q) X.xe s

theorem Vals.one:∀{x:V} {us:List Qc},Vals [x] us->∃u,us=[u]/\RelV x u
 | _,_,.cons r .nil=>⟨_,rfl,r⟩
theorem Vals.two:∀{x y:V} {us:List Qc},Vals [x,y] us->∃u v,us=[u,v]/\RelV x u/\RelV y v
 | _,_,_,.cons r (.cons q .nil)=>⟨_,_,rfl,r,q⟩
theorem Vals.zero:∀{us:List Qc},Vals [] us->us=[]
 | _,.nil=>rfl
theorem Vals.dropLast{xs:List V}{us:List Qc}(h:Vals xs us):Vals xs.dropLast us.dropLast:=by
 induction h with
 | nil=>exact .nil
 | cons r t ih =>
  cases t with
  | nil=>exact .nil
  | cons q t'=>exact .cons r ih
theorem Vals.eraseIdx:∀{xs:List V} {us:List Qc} (i:Nat),Vals xs us->Vals (xs.eraseIdx i) (us.eraseIdx i)
 | _,_,_,.nil=>.nil
 | _,_,0,.cons _ t=>t
 | _,_,i+1,.cons r t=>.cons r (Vals.eraseIdx i t)
theorem Vals.reverse{xs:List V}{us:List Qc}(h:Vals xs us):Vals xs.reverse us.reverse:=by
 induction h with
 | nil=>exact .nil
 | cons r t ih=>rw[KJ,KJ];exact Vals.append ih (.cons r .nil)
theorem Vals.rep{xs:List V}{us:List Qc}(h:Vals xs us):∀k:Nat,Vals (QA k xs).flatten (QA k us).flatten
 | 0=>.nil
 | k+1=>by rw[GU,GU,Kr,Kr];exact Vals.append h (Vals.rep h k)
theorem Jdw{α:Type}(l:List α):l.eraseIdx (l.length-1)=l.dropLast:=by
 induction l with
 | nil=>rfl
 | cons a r ih =>
  cases r with
  | nil=>rfl
  | cons b r =>
   have e:(a::b::r).length-1=((b::r).length-1)+1:=by
    have h1:(a::b::r).length=r.length+2:=rfl
    have h2:(b::r).length=r.length+1:=rfl;omega
   rw[e,LI,ih]
   all_goals rfl
theorem Jaq(its:List Qc):∀(k:Nat) (acc:List Qc),
 List.foldl (fun x1 x2=>x1++x2) acc.toArray (QA k its.toArray)=(acc++(QA k its).flatten).toArray
 | 0,acc=>by simp
 | k+1,acc=>by
  have e:acc.toArray++its.toArray=(acc++its).toArray:=by simp
  have e2:(acc++its)++(QA k its).flatten=acc++(QA (k+1) its).flatten:=by rw[GU,Kr,Gh]
  rw[<- e2,<- Jaq its k (acc++its),<- e,GU,Gd]

section
variable{X:Cx}{pins:List (Qd×Obj)}{σ:St}{H:Hp}{s:Qe}{l b:Qd}{xs ys zs:List V}

theorem Inv.lset{its its':List Qc}{n:Nat}{f:Array Qc->Array Qc}{t':Nat}(I:Inv X pins σ H s)(hH:H l=some (.lst xs))
 (e:s.heap.get? l=some { cls:=.type "list",data:=.seq its.toArray n }) (hf:f its.toArray=its'.toArray) (hv:Vals ys its') (hz:ys.length<=Qt) :
 Inv X pins σ (upd H l (.lst ys)) { s with heap:=s.heap.update l (Gq f),toks:=t' }:=by
 have q:=PySem.IsL.update e f;rw[hf] at q;refine I.write (x:=l) (e:=l) (by rw[hH];exact trivial) (.inl rfl) (fun b' u hb hu=>(Q8 s.heap (Gq f) (Q2 hb)).trans hu) ⟨_,q⟩ ?_;exact⟨hz,its',_,hv,q⟩
theorem Inv.lnew{its:List Qc}{t':Nat}(I:Inv X pins σ H s)(hv:Vals ys its)(hz:ys.length<=Qt) :
 Inv X pins σ (upd H s.heap.objs.size (.lst ys)) { s with heap:=s.heap.push { cls:=.type "list",data:=.seq its.toArray },toks:=t' } :=
 I.laid (fun _ _ q=>Qi _ q) (Qr _) ⟨hz,its,0,hv,Qn _ rfl⟩
theorem Inv.fresh(I:Inv X pins σ H s):H s.heap.objs.size=none:=I.hok.fresh (Qr _)
theorem Inv.lstM(I:Inv X pins σ H s)(hH:H l=some (.lst xs)):xs.length<=Qt/\∃(its:List Qc) (n:Nat),Vals xs its/\xs.length=its.length/\s.heap.get? l=some { cls:=.type "list",data:=.seq its.toArray n }:=by obtain⟨z,its,n,r,e⟩:=I.hok l _ hH;exact⟨z,its,n,r,r.length,e⟩

theorem JcH{n:Nat}(h:n<=Qt):KO n=false:=by unfold KO;exact decide_eq_false (by omega)
end

section
variable{X:Cx}

noncomputable def VI:V->List V->Hp->VK->Prop:=fun x vs H Q=>∃l xs y,x=.ref l/\vs=[y]/\H l=some (.lst xs)/\xs.length<Qt/\Q .non (upd H l (.lst (xs++[y])))
theorem YF:MtM X "list.append" VI:=by intro pins s σ H x vs v us Q I rx rv h;obtain⟨l,xs,y,rfl,rfl,hH,hz,q⟩:=h;cases rx;obtain⟨u,rfl,ru⟩:=rv.one;obtain⟨z,its,n,r,hl,e⟩:=I.lstM hH;refine call_meets F.slot_list_append ⟨_,e,rfl⟩ F.entry_list_append (F.args_list_append_2 _ _) (PySem.list_append l its.toArray n u (by rw[Qu];omega)) ⟨e,?_⟩;refine⟨.non,_,I.lset (its':=its++[u]) hH e (by simp) (r.append (.cons ru .nil)) ?_,rfl,q⟩;rw[Qz,Gi];omega

noncomputable def Jfn:V->List V->Hp->VK->Prop:=fun x vs H Q=>∃l b xs zs,x=.ref l/\vs=[.ref b]/\H l=some (.lst xs)/\H b=some (.lst zs)/\xs.length+zs.length<=Qt/\Q .non (upd H l (.lst (xs++zs)))
theorem U0:MtM X "list.extend" Jfn:=by
 intro pins s σ H x vs v us Q I rx rv h;obtain⟨l,b,xs,zs,rfl,rfl,hH,hB,hz,q⟩:=h;cases rx;obtain⟨u,rfl,ru⟩:=rv.one;cases ru;obtain⟨z,its,n,r,hl,e⟩:=I.lstM hH;obtain⟨z2,its2,n2,r2,hl2,e2⟩:=I.lstM hB;have hsz:its.toArray.size+its2.toArray.size<=Qt:=by rw[Qu,Qu];omega
 have hlong:¬(!its.toArray.isEmpty && KO (its.toArray.size+its2.toArray.size))=true:=by rw[JcH hsz,Bool.and_false];exact QD
 refine call_meets F.slot_list_extend ⟨_,e,rfl⟩ F.entry_list_extend (F.args_list_extend_2 _ _)
  (AutoSeq1.list_extend_list_list_0 l its.toArray n b its2.toArray n2 hlong (by rw[Qu];omega) (by omega)) ⟨e,e2,?_⟩
 refine⟨.non,_,I.lset (its':=its++its2) hH e (by simp) (r.append r2) ?_,rfl,q⟩;rw[Qz];omega

noncomputable def JpT:V->List V->Hp->VK->Prop:=fun x vs H Q=>∃l xs y,x=.ref l/\vs=[]/\H l=some (.lst xs)/\xs[xs.length-1]?=some y/\Q y (upd H l (.lst xs.dropLast))
theorem Jno:MtM X "list.pop" JpT:=by
 intro pins s σ H x vs v us Q I rx rv h;obtain⟨l,xs,y,rfl,rfl,hH,hy,q⟩:=h;cases rx;have hus:=rv.zero;subst hus;obtain⟨z,its,n,r,hl,e⟩:=I.lstM hH;obtain⟨u,hu,ru⟩:=r.get hy
 have hy':its.toArray[its.toArray.size-1]?=some u:=by show its.toArray[its.length-1]?=some u;rw[<- GW,<- hl];exact hu
 refine call_meets F.slot_list_pop ⟨_,e,rfl⟩ F.entry_list_pop (F.args_list_pop_1 _) (MeetsSeq.list_pop_last l its.toArray n u hy' (by rw[Qu];omega)) ⟨e,?_⟩;refine⟨y,_,I.lset (its':=its.dropLast) hH e ?_ r.dropLast ?_,ru,q⟩
 ·show its.toArray.eraseIdxIfInBounds (its.toArray.size-1)=its.dropLast.toArray;rw[Qu,List.eraseIdxIfInBounds_toArray,Jdw]
 ·rw[RC];omega

noncomputable def JcV:V->List V->Hp->VK->Prop:=fun x vs H Q=>∃l xs,x=.ref l/\vs=[]/\H l=some (.lst xs)/\Q .non (upd H l (.lst xs.reverse))
theorem JdS:MtM X "list.reverse" JcV:=by intro pins s σ H x vs v us Q I rx rv h;obtain⟨l,xs,rfl,rfl,hH,q⟩:=h;cases rx;have hus:=rv.zero;subst hus;obtain⟨z,its,n,r,hl,e⟩:=I.lstM hH;refine call_meets F.slot_list_reverse ⟨_,e,rfl⟩ F.entry_list_reverse (F.args_list_reverse_1 _) (AutoSeq1.list_reverse_list_0 l its.toArray n (by rw[Qu];omega)) ⟨e,?_⟩;refine⟨.non,_,I.lset (its':=its.reverse) hH e (by simp) r.reverse ?_,rfl,q⟩;rw[Ma];omega

noncomputable def JpN:R2:=fun x y H Q=>∃l b xs zs,x=.ref l/\y=.ref b/\H l=some (.lst xs)/\H b=some (.lst zs)/\xs.length+zs.length<=Qt/\∀p,H p=none->Q (.ref p) (upd H p (.lst (xs++zs)))
theorem Jny:OpR X (binaryOp .Add) JpN:=by
 intro pins s σ H x y v u Q I rx ry h;obtain⟨l,b,xs,zs,rfl,rfl,hH,hB,hz,q⟩:=h;cases rx;cases ry;obtain⟨z,its,n,r,hl,e⟩:=I.lstM hH;obtain⟨z2,its2,n2,r2,hl2,e2⟩:=I.lstM hB;refine PySem.P.add_list e e2 ?_ (by rw[Qu,Qu];omega);have ea:its.toArray++its2.toArray=(its++its2).toArray:=by simp
 rw[ea];exact⟨.ref _,_,I.lnew (t':=s.toks) (r.append r2) (by rw[Qz];omega),rfl,q _ I.fresh⟩
noncomputable def JpU:R2:=fun x y H Q=>∃l k xs,x=.ref l/\y=.int k/\H l=some (.lst xs)/\-(2 ^ 63)<=k/\k<2 ^ 63/\xs.length*k.toNat<=Qt ∧
 ∀p,H p=none->Q (.ref p) (upd H p (.lst (QA k.toNat xs).flatten))
theorem Jkr{α:Type}(xs:List α)(k:Nat):(QA k xs).flatten.length=k*xs.length:=by
 induction k with
 | zero=>simp
 | succ k ih=>rw[GU,Kr,Qz,ih,Nat.succ_mul,Nat.add_comm]
theorem JdZ:OpR X (binaryOp .Mult) JpU:=by
 intro pins s σ H x y v u Q I rx ry h;obtain⟨l,k,xs,rfl,rfl,hH,h1,h2,hz,q⟩:=h;cases rx;obtain⟨t,rfl⟩:=ry;obtain⟨z,its,n,r,hl,e⟩:=I.lstM hH;have hlen:its.toArray.size*k.toNat<=Qt:=by rw[Qu,<- hl];exact hz
 have hcap:¬its.toArray.size*k.toNat>(2 ^ 63-1) / 8:=by
  have:(Qt:Nat)<=(2 ^ 63-1) / 8:=by decide
  omega
 have hfit:¬(!Builtin.List.listFitsIndex k)=true:=by rw[fitsIndex_both h1 h2];exact QD
 have hlong:¬KO (its.toArray.size*k.toNat)=true:=by rw[JcH hlen];exact QD
 have hnew:List.foldl (fun x1 x2=>x1++x2) #[] (QA (if its.toArray.isEmpty=true then 0 else k.toNat) its.toArray)=(QA k.toNat its).flatten.toArray:=by
  have f0:∀m:Nat,List.foldl (fun x1 x2=>x1++x2) #[] (QA m its.toArray)=(QA m its).flatten.toArray:=fun m=>by have:=Jaq its m [];rw[Q4] at this;exact this
  rw[f0]
  cases its with
  | nil=>simp
  | cons a r'=>rw[if_neg (by simp)]
 refine wpAny_binaryOp_repeat_ref (T:="list") (U:="int") (by decide) ⟨_,e,rfl⟩ (fun s'=>typeIs_int s' k t) noFill_list_mul F.fills_int_mul F.slot_int_rmul repeat_list F.slot_int_index.lookup
  (call_meets F.slot_int_rmul (typeIs_int s k t) F.entry_int_rmul (F.args_int_rmul_2 _ _) (int___rmul___int_list k t l its.toArray n)
   ⟨e,rfl,⟨_,e,rfl⟩,call_meets F.slot_list_mul ⟨_,e,rfl⟩ F.entry_list_mul (F.args_list_mul_2 _ _) (AutoListH.list___mul___list_int_3 l its.toArray n k t hfit hcap hlong) ⟨e,?_⟩⟩)
 rw[hnew];exact⟨.ref _,_,I.lnew (t':=s.toks) (r.rep k.toNat) (by rw[Jkr,Nat.mul_comm];exact hz),rfl,q _ I.fresh⟩

end

section
variable{prog:Qw}{w:QF}{A:QC}{E:Qc->Qe->Prop}{s:Qe}
end

section
variable{X:Cx}
end
end L2

namespace Att
open PySem PySem.W PySem.Calls PyProof.Rows

theorem Ws{P:Params}{h:QL}:∀(ns:List Int) (vs:List Qc),WellAll P h vs (ns.map WData.int)->IntsAre vs ns:=by
 intro ns
 induction ns with
 | nil=>intro vs w;rw[K5] at w;cases w;exact .nil
 | cons n ns ih =>
  intro vs w;rw[Qg] at w
  cases w with
  | cons a b=>cases a;exact .cons _ _ (ih _ b)

theorem JgL{l:OpenLaw}{n:Nat}(hn:l.most=some n){P:Params}{h:QL}{args:List WData}{vals:List Qc}
 (hpre:l.row.toRowW.claim.pre args=true) (hwl:WellAll P h vals args) :
 ∃a vs ns,vals=[Value.ref a]/\args=[WData.list (ns.map WData.int)]/\h.get? a=some { cls:=.type "list",data:=.seq vs.toArray }/\IntsAre vs ns/\ns.length<=n:=by
 have hsh:WShape.hasAll [] args [.list .int]=true:=(pre_splitW hpre).1
 have hc:l.pre.holds [] { args:=args }=true:=(pre_splitW hpre).2;obtain⟨d,r,rfl,h1,h2⟩:=hasAllW_cons hsh;obtain rfl:=hasAllW_nil h2;obtain⟨xs,rfl,h3⟩:=hasW_list h1;obtain⟨ns,rfl⟩:=items_int h3
 have hlen:ns.length<=n:=by
  unfold OpenLaw.pre at hc
  have h4:(WTm.not (.lt (.lit (.int (n:Int))) (.len (.arg 0)))).holds [] { args:=[.list (ns.map .int)] }=true:=by have h4:=(holds_andW hc).1;rw[hn] at h4;exact h4
  have h5:=condW_of h4 (w_not (w_lt w_lit (w_len_list (w_arg rfl))));rw[Qq] at h5;refine Nat.le_of_not_lt fun q=>?_
  have q':(n:Int)<((ns.length:Nat):Int):=by omega
  first
   | (rw[decide_eq_true q'] at h5;exact absurd h5 (by decide))
   | (simp at h5;omega)
 cases hwl with
 | cons w1 w2 =>
  cases w2
  cases w1 with
  | list ho hall=>exact⟨_,_,ns,rfl,rfl,ho,Ws ns _ hall,hlen⟩

theorem JgE(l:OpenLaw)(args:List WData):l.row.toRowW.claim.post args (.bool true) args=true :=
 postW_of (r:=l.row.toRowW) (X:=(true == true))
  (show WShape.has [] (.bool true) .bool=true by first|rfl|decide|simp[WShape.has,WShape.arms,WShape.armsAll])
  (show(WTm.eq .res (.lit (.bool true))).value [] { args:=args,res:=some (.bool true),after:=args }=some (.bool (true == true)) from w_eq_bool (w_res rfl) w_lit) rfl

theorem attach_call{l:OpenLaw}{n:Nat}{q:Qw}{loose:List Str}{XP:(Str->Option Qc)->QL->Prop}{YP:QF->QL->Prop}{d:DefRec}
 (hn:l.most=some n) (hdf:d.params.defaults=[])
 (call:∀(w:QF) (s₀ s₁:Qe) (mg mb:Str->Option Qc) (fa:Qd) (o:Obj) (pm cd doc:Qc) (a:Qd) (vs:List Qc) (ns:List Int),
  Ground q loose [] XP w s₀ mg mb s₁.heap->YP w s₁.heap ->
  s₁.heap.get? fa=some o->o.data=.func (docDef d.name d.params d.body d.scope pm cd doc)->s₁.heap.CodeRec cd d.name->mg d.name=some (.ref fa) ->
  s₁.heap.get? a=some { cls:=.type "list",data:=.seq vs.toArray }->IntsAre vs ns->ns.length<=n->s₁.gens=#[] ->
  codeAny (model l.prog w) callerA (.call (.ref fa) ⟨[.ref a],[]⟩) (fun r s'=>r=.ok (.ret (.bool true))/\OldK s₁.heap s'.heap/\s'.os=s₁.os/\AllBare s'.gens) s₁) :
 WalkO q loose XP YP l.row.toRowW d [] (fun f vs=>PySem.call f vs):=by
 intro w s₀ s₁ mg mb G Y fa o pm cd doc dV kV ho hd hcd hD hmg hg args vals as hpre hlay hrd hwl hlo;obtain rfl:dV=.none:=Dflts.none hD hdf;obtain rfl:kV=.none:=Dflts.noKw hD;obtain⟨a,vs,ns,rfl,rfl,hobj,hints,hlen⟩:=JgL hn hpre hwl;refine enter_call (KI (call w s₀ s₁ mg mb fa o pm cd doc a vs ns G Y ho (fd_plain hd) hcd hmg hobj hints hlen hg) fun r s' hq=>?_);obtain⟨rfl,h2,h3,h4⟩:=hq;exact⟨.inl ⟨.bool true,.bool true,[],rfl,fun _=>rfl,.bool true,JgE l _,fun _=>⟨List.Pairwise.nil,fun _ hm=>(nomatch hm)⟩⟩,h2,h3,h4⟩

section
variable{prog:Qw}{w:QF}{A:QC}{E:Qc->Qe->Prop}{s:Qe}{K:Qx}

end
end Att

namespace L2
open PySem PySem.Spec PyProof.Rows

theorem JaO:∀{vs:List Qc} {ns:List Int},IntsAre vs ns->Vals (ns.map V.int) vs
 | _,_,.nil=>.nil
 | _,_,.cons n t h=>.cons ⟨t,rfl⟩ (JaO h)

end L2

namespace L2
open PySem PySem.Spec PyProof.Rows

end L2

namespace L2
open PySem PySem.Spec PyProof.Rows

noncomputable def Jkj(s:Kj)(j:Nat):Kj:=match s with
 | .ClassDef _ _ _ body _ _ _ _ _ _ _=>body.getD j (.Pass ⟨0,0,0,0⟩)
 | _=>.Pass ⟨0,0,0,0⟩
noncomputable def Ur(s:Kj):Mn:=match s with
 | .FunctionDef _ a _ _ _ _ _ _ _ _=>a
 | _=>{ posonlyargs:=[],args:=[],vararg:=none,kwonlyargs:=[],kw_defaults:=[],kwarg:=none,defaults:=[] }
noncomputable def Yr(s:Kj):List Kj:=match s with
 | .FunctionDef _ _ b _ _ _ _ _ _ _=>b
 | _=>[]
noncomputable def Jg(s:Kj):Lu:=match s with
 | .FunctionDef _ _ _ _ _ _ sc _ _ _=>sc
 | _=>{ kind:=.function,names:=[],isGenerator:=false,isCoroutine:=false }

noncomputable abbrev CX0:CXT:=fun _ _ _ _ _ _=>False
noncomputable abbrev E0:XK:=fun _ _ _=>False
theorem Jme{X:Cx}:WQ CX0 X E0:=fun _ _ _ _ _ _ _ h=>h.elim

structure Fun (K:Qx) (x qual:Str) (st:Kj) (f:Qd) (fd:QR):Prop where
 ex:∃(oc:Qc) (od:Option Qd) (kV doc pm:Qc) (an:Option Qd) (cdv ct:Qc) (osl:Array (Option Qc)),
  fd=fnOf x qual (Ur st) (Yr st) (Jg st) .none kV doc pm an cdv ct/\K.lookup f=some ⟨oc,od,.func fd,osl⟩/\codeIn K cdv qual=true
 kp:keepIn K (.ref f)=true
section
variable{P:Qw}{w:QF}{K:Qx}{mg:Str->Option Qc}{base:QL}
theorem Fun.ok{x qual:Str}{st:Kj}{f:Qd}{fd:QR}{N ps:List Str}{k:Nat}{sp:Sp}(F:Fun K x qual st f fd)(S:FnScope N ps (Jg st))(len:∀vs H Q E,sp vs H Q E->vs.length=ps.length)
 (hbody:∀(cdv:Qc) (A:QC) (outer:List Env) (s:Qe) (H:Hp) (vs:List V) (Q:VK) (E:XK),Room k (A.deeper (envOfC qual (Jg st) s.heap.objs.size f cdv))->sp vs H Q E ->
  ∃t,PSs (VX CX0 P w K mg base N qual (Jg st) f cdv A outer s H E).nox (Yr st) t/\t { nx:=fun _ H'=>Q .non H',rt:=Q } (Yq N vs) H):FnOk P w K mg base CX0 (k+1) f fd ps sp:=by
 obtain⟨oc,od,kV,doc,pm,an,cdv,ct,osl,rfl,lk,hcd⟩:=F.ex;refine Jl0 lk hcd S len fun A outer s H vs Q E hr hsp=>?_
 obtain⟨t,h,q⟩:=hbody cdv A outer s H vs Q E hr hsp;exact⟨t,h.nox,q⟩
theorem Fun.binds{x qual:Str}{st:Kj}{f:Qd}{fd:QR}{ps:List Str}(F:Fun K x qual st f fd)
 (h:∀(kV doc pm:Qc) (an:Option Qd) (cdv ct:Qc) (us:List Qc),us.length=ps.length->bindArgs (fnOf x qual (Ur st) (Yr st) (Jg st) .none kV doc pm an cdv ct) ⟨us,[]⟩=pure (ps.zip us)):Binds K fd ps []:=by
 obtain⟨oc,od,kV,doc,pm,an,cdv,ct,osl,rfl,lk,hcd⟩:=F.ex;exact .all (h kV doc pm an cdv ct)
theorem JhD{x qual:Str}{st:Kj}{f:Qd}{oc:Qc}{od an:Option Qd}{osl:Array (Option Qc)}{kV doc pm cdv ct:Qc}(l:K.lookup f=some ⟨oc,od,.func (fnOf x qual (Ur st) (Yr st) (Jg st) .none kV doc pm an cdv ct),osl⟩)
 (c:codeIn K cdv qual=true) (k:keepIn K (.ref f)=true):Fun K x qual st f (fnOf x qual (Ur st) (Yr st) (Jg st) .none kV doc pm an cdv ct):=⟨⟨oc,od,kV,doc,pm,an,cdv,ct,osl,rfl,l,c⟩,k⟩
end
theorem UI{A:QC}{k:Nat}(hr:Room k A):A.units+1<cLine:=Mt (Nat.add_le_add_left (by decide:1<=64) _) hr.units
theorem JgM{n:Nat}(h:n<=1000):n<Qt:=Mt h (by decide)

section
variable{X:Cx}
theorem pv(i:Nat){x:Str}{pos:Pos}(hN:X.N[i]?=some x:=by rfl)(hv:Vis X.env.scope x:=by first | exact Or.inl rfl | exact Or.inr (.inl rfl) | exact Or.inr (.inr rfl))(hd:(x == ("__debug__":Str))=false:=by decide)
 (hcd:(x == ("__classdict__":Str))=false:=by decide):PE X (.Name x pos) (Y2 i):=Jil hN hv hd hcd
end

noncomputable def Same(H H':Hp):Prop:=∀b o,H b=some o->H' b=some o
theorem Same.refl(H:Hp):Same H H:=fun _ _ h=>h
theorem Same.trans{H H1 H2:Hp}(a:Same H H1)(b:Same H1 H2):Same H H2:=fun c o h=>b c o (a c o h)
theorem Same.free{H H':Hp}(e:Same H H'){l:Qd}(h:H' l=Option.none):H l=Option.none:=by
 cases q:H l with
 | none=>rfl
 | some o=>rw[e l o q] at h;cases h
theorem Same.seq{K:Qx}{H H':Hp}{a:Qd}{xs:List V}(e:Same H H')(h:SqL K H a xs):SqL K H' a xs:=by
 rcases h with (h|⟨o,h⟩)|h
 ·exact .inl (.inl (e _ _ h))
 ·exact .inl (.inr ⟨o,e _ _ h⟩)
 ·exact .inr h

end L2

namespace L2
open PySem PySem.Spec PyProof.Rows

section
variable{κ:Type}[DecidableEq κ]
noncomputable def Vn(kvs:List (κ×V))(k:κ):Option V:=(kvs.find? fun kv=>decide (kv.1=k)).map (·.2)
noncomputable def UM(kvs:List (κ×V))(k:κ)(v:V):List (κ×V) :=
 if (kvs.any fun kv=>decide (kv.1=k))=true then kvs.map (fun kv=>if kv.1=k then(kv.1,v) else kv) else kvs++[(k,v)]
noncomputable def JlW(kvs:List (κ×V))(k:κ):List (κ×V):=kvs.filter fun kv=>decide (kv.1≠k)

theorem VR{p:κ×V}{r:List (κ×V)}{k:κ}(e:p.1=k):Vn (p::r) k=some p.2:=by simp[Vn,K9,e]
theorem VQ{p:κ×V}{r:List (κ×V)}{k:κ}(e:¬p.1=k):Vn (p::r) k=Vn r k:=by simp[Vn,K9,e]
theorem ZQ(k:κ):∀kvs:List (κ×V),(kvs.any fun kv=>decide (kv.1=k))=(Vn kvs k).isSome
 | []=>rfl
 | p::r=>by
  rw[GP]
  by_cases e:p.1=k
  ·simp only[VR e,decide_eq_true e,Ra,Option.isSome_some]
  ·rw[VQ e,decide_eq_false e,Ko];exact ZQ k r
theorem Wn(kvs:List (κ×V))(k:κ)(v:V):(UM kvs k v).length<=kvs.length+1:=by
 unfold UM;split
 ·rw[Qq];omega
 ·rw[Qz,Qv,Lz];omega
theorem Jis{kvs:List (κ×V)}{k:κ}(v:V)(h:Vn kvs k=none):UM kvs k v=kvs++[(k,v)]:=by unfold UM;rw[ZQ,h];exact if_neg (by decide)

theorem RelO.isSome_eq{o:Option V}{u:Option Qc}(r:RelO o u):o.isSome=u.isSome:=by
 cases o with
 | none=>cases u with
  | none=>rfl
  | some _=>exact(show False from r).elim
 | some _=>cases u with
  | none=>exact(show False from r).elim
  | some _=>rfl
theorem RelO.getD{o:Option V}{u:Option Qc}{d:V}{d':Qc}(r:RelO o u)(rd:RelV d d'):RelV (o.getD d) (u.getD d'):=by
 cases o with
 | none=>cases u with
  | none=>exact rd
  | some _=>exact(show False from r).elim
 | some _=>cases u with
  | none=>exact(show False from r).elim
  | some _=>exact r

theorem KV.val{kvs:List (κ×V)}{vs:List (κ×Qc)}(r:KV kvs vs)(k:κ):RelO (Vn kvs k) (valueAt vs k):=by
 unfold KV at r
 induction r with
 | nil=>exact True.intro
 | @cons p q ps qs h t ih =>
  obtain⟨h1,h2⟩:=h
  by_cases e:p.1=k
  ·have e':q.1=k:=h1.symm.trans e
   have b:valueAt (q::qs) k=some q.2:=by simp[valueAt,K9,e']
   rw[VR e,b];exact h2
  ·have e':¬q.1=k:=fun z=>e (h1.trans z)
   have b:valueAt (q::qs) k=valueAt qs k:=by simp[valueAt,K9,e']
   rw[VQ e,b];exact ih
theorem KV.any{kvs:List (κ×V)}{vs:List (κ×Qc)}(r:KV kvs vs)(k:κ):(kvs.any fun kv=>decide (kv.1=k))=vs.any fun kv=>decide (kv.1=k):=by
 unfold KV at r
 induction r with
 | nil=>rfl
 | cons h t ih=>rw[GP,GP,ih,h.1]
theorem KV.repl{kvs:List (κ×V)}{vs:List (κ×Qc)}(r:KV kvs vs)(k:κ){y:V}{u:Qc}(ry:RelV y u) :
 KV (kvs.map fun kv=>if kv.1=k then(kv.1,y) else kv) (vs.map fun kv=>if kv.1=k then(kv.1,u) else kv):=by
 unfold KV at r ⊢
 induction r with
 | nil=>exact .nil
 | @cons p q ps qs h t ih =>
  rw[Qg,Qg];refine .cons ?_ ih;obtain⟨h1,h2⟩:=h
  by_cases e:p.1=k
  ·rw[if_pos e,if_pos (h1.symm.trans e)];exact⟨h1,ry⟩
  ·rw[if_neg e,if_neg (fun z=>e (h1.trans z))];exact⟨h1,h2⟩
theorem KV.put{kvs:List (κ×V)}{vs:List (κ×Qc)}(r:KV kvs vs)(k:κ){y:V}{u:Qc}(ry:RelV y u):KV (UM kvs k y) (stored vs k u):=by
 unfold UM stored;rw[r.any k]
 by_cases e:(vs.any fun kv=>decide (kv.1=k))=true
 ·rw[if_pos e,if_pos e];exact r.repl k ry
 ·rw[if_neg e,if_neg e];exact Paired.snoc r ⟨rfl,ry⟩
theorem KV.drop{kvs:List (κ×V)}{vs:List (κ×Qc)}(r:KV kvs vs)(k:κ):KV (JlW kvs k) (without vs k):=by
 unfold KV at r ⊢;unfold JlW without
 induction r with
 | nil=>exact .nil
 | @cons p q ps qs h t ih =>
  obtain⟨h1,h2⟩:=h;rw[List.filter_cons,List.filter_cons]
  by_cases e:p.1=k
  ·have a:¬decide (p.1≠k)=true:=by simp[e]
   have b:¬decide (q.1≠k)=true:=by simp[h1.symm.trans e]
   rw[if_neg a,if_neg b];exact ih
  ·have e':¬q.1=k:=fun z=>e (h1.trans z)
   have a:decide (p.1≠k)=true:=by simp[e]
   have b:decide (q.1≠k)=true:=by simp[e']
   rw[if_pos a,if_pos b];exact .cons ⟨h1,h2⟩ ih
theorem KV.keys{kvs:List (κ×V)}{vs:List (κ×Qc)}(r:KV kvs vs):kvs.map (·.1)=vs.map (·.1):=by
 unfold KV at r
 induction r with
 | nil=>rfl
 | cons h t ih=>rw[Qg,Qg,ih,h.1]
theorem KV.length{kvs:List (κ×V)}{vs:List (κ×Qc)}(r:KV kvs vs):kvs.length=vs.length:=MK r
end

theorem Jcq{P:Qw}{w:QF}{k:Key}{u:Qc}(r:RelV (kV k) u):(Jv P w).is k u=true:=by
 cases k with
 | inl i=>obtain⟨t,e⟩:=(show ∃t,u=Value.int i t from r);subst e;exact JcD P w i t
 | inr x=>obtain⟨t,e⟩:=(show ∃t,u=Value.str x t from r);subst e;exact JcE P w x t
theorem Jav{P:Qw}{w:QF}:∀{ks:List Key} {us:List Qc},Vals (ks.map kV) us->ItemsAre (Jv P w) ks us
 | [],_,r=>by rw[K5] at r;cases r;exact .nil
 | k::ks,_,r=>by
  rw[Qg] at r
  cases r with
  | cons h t=>exact .cons (Jcq h) (Jav t)

noncomputable abbrev KT(H:Hp):List (List Key×V)->List (List Key×Qd×Qc)->Prop:=Paired fun p q=>p.1=q.1/\H q.2.1=some (.tup (p.1.map kV))/\RelV p.2 q.2.2
theorem KT.val{H:Hp}{kvs:List (List Key×V)}{xs:List (List Key×Qd×Qc)}(r:KT H kvs xs)(k:List Key):RelO (Vn kvs k) ((atKey xs k).map (·.2)):=by
 induction r with
 | nil=>exact True.intro
 | @cons p q ps qs h t ih =>
  obtain⟨h1,_,h2⟩:=h
  by_cases e:p.1=k
  ·have e':q.1=k:=h1.symm.trans e
   have b:atKey (q::qs) k=some q.2:=by simp[atKey,K9,e']
   rw[VR e,b];exact h2
  ·have e':¬q.1=k:=fun z=>e (h1.trans z)
   have b:atKey (q::qs) k=atKey qs k:=by simp[atKey,K9,e']
   rw[VQ e,b];exact ih
theorem KT.repl{H:Hp}{kvs:List (List Key×V)}{xs:List (List Key×Qd×Qc)}(r:KT H kvs xs)(k:List Key){y:V}{u:Qc}(ry:RelV y u) :
 KT H (kvs.map fun kv=>if kv.1=k then(kv.1,y) else kv) (xs.map (putAt k u)):=by
 induction r with
 | nil=>exact .nil
 | @cons p q ps qs h t ih =>
  rw[Qg,Qg];refine .cons ?_ ih;obtain⟨h1,h2,h3⟩:=h;unfold putAt
  by_cases e:p.1=k
  ·rw[if_pos e,if_pos (h1.symm.trans e)];exact⟨h1,h2,ry⟩
  ·rw[if_neg e,if_neg (fun z=>e (h1.trans z))];exact⟨h1,h2,h3⟩
theorem KT.put{H:Hp}{kvs:List (List Key×V)}{xs:List (List Key×Qd×Qc)}(r:KT H kvs xs)(k:List Key){b:Qd}{y:V}{u:Qc}(hb:H b=some (.tup (k.map kV)))(ry:RelV y u) :
 KT H (UM kvs k y) (storedH xs k b u):=by
 have e:(kvs.any fun kv=>decide (kv.1=k))=(atKey xs k).isSome:=by rw[ZQ,(r.val k).isSome_eq,Option.isSome_map]
 unfold UM storedH;rw[e]
 by_cases q:(atKey xs k).isSome=true
 ·rw[if_pos q,if_pos q];exact r.repl k ry
 ·rw[if_neg q,if_neg q];exact Paired.snoc r ⟨rfl,hb,ry⟩
theorem KT.keeps{H H':Hp}{kvs:List (List Key×V)}{xs:List (List Key×Qd×Qc)}(r:KT H kvs xs)(ht:∀b ys,H b=some (.tup ys)->H' b=some (.tup ys)):KT H' kvs xs :=
 Paired.mapP r fun _ _ z=>⟨z.1,ht _ _ z.2.1,z.2.2⟩

section
variable{P:Qw}{w:QF}{H:Hp}{h:QL}{a:Qd}
theorem Jmi{u:HO}(ok:HOk P w H h)(e:Rd H a u):ObjOk P w H h a u:=e.ok ok
theorem Jam{kvs:List (Key×V)}(ok:HOk P w H h)(e:Rd H a (.dK kvs)):kvs.length<=Qt/\(a == sysModules)=false/\∃vs,KV kvs vs/\h.DictOf (Jv P w) a vs :=
 show ObjOk P w H h a (.dK kvs) from Jmi ok e
theorem Jpc{kvs:List (Key×V)}(ok:HOk P w H h)(e:H a=some (.dK kvs)):kvs.length<=Qt/\(a == sysModules)=false/\∃vs,KV kvs vs/\h.DictOf (Jv P w) a vs:=Jam ok (.inl e)
theorem Zh{ks:List Key}(ok:HOk P w H h)(e:H a=some (.tup (ks.map kV))):(tupleKind (Jv P w)).is h ks a:=by
 obtain⟨_,its,r,o,h1,h2,n,h3⟩:=(show ObjOk P w H h a (.tup (ks.map kV)) from ok a _ e)
 exact⟨o,its.toArray,n,h1,h2,h3,by simpa using Jav r⟩
theorem Jao{kvs:List (List Key×V)}(ok:HOk P w H h)(e:Rd H a (.dT kvs)):kvs.length<=Qt/\(a == sysModules)=false ∧
 ∃xs,KT H kvs xs/\h.DictOfH (tupleKind (Jv P w)) a xs:=by
 obtain⟨z,y,xs,r,o,es,ep,h1,h2,h3,h4,h5⟩:=(show ObjOk P w H h a (.dT kvs) from Jmi ok e)
 refine⟨z,y,xs,r,o,es,ep,h1,h2,h3,h4,fun x hx=>?_,h5⟩
 have all:∀{l:List (List Key×V)} {m:List (List Key×Qd×Qc)},KT H l m->∀x∈m,(tupleKind (Jv P w)).is h x.1 x.2.1:=by
  intro l m q
  induction q with
  | nil=>intro x hx;exact nomatch hx
  | @cons p q ps qs hq t ih =>
   intro x hx;rcases Qk.mp hx with e|hx
   ·subst e;exact Zh ok (by rw[<- hq.1];exact hq.2.1)
   ·exact ih x hx
 exact all r x hx
theorem Jpd{kvs:List (List Key×V)}(ok:HOk P w H h)(e:H a=some (.dT kvs)):kvs.length<=Qt/\(a == sysModules)=false ∧
 ∃xs,KT H kvs xs/\h.DictOfH (tupleKind (Jv P w)) a xs:=Jao ok (.inl e)
end

noncomputable def DGet(H:Hp)(a:Qd)(y:V)(r:Option V):Prop :=
 (∃kvs k,Rd H a (.dK kvs)/\y=kV k/\r=Vn kvs k)\/∃kvs k b,Rd H a (.dT kvs)/\y=.ref b/\H b=some (.tup (k.map kV))/\r=Vn kvs k
noncomputable def DPut(H:Hp)(a:Qd)(y v:V)(H':Hp):Prop :=
 (∃kvs k,H a=some (.dK kvs)/\y=kV k/\kvs.length<Qt/\H'=upd H a (.dK (UM kvs k v))) ∨
 ∃kvs k b,H a=some (.dT kvs)/\y=.ref b/\H b=some (.tup (k.map kV))/\kvs.length<Qt/\H'=upd H a (.dT (UM kvs k v))
theorem DGet.k{H:Hp}{a:Qd}{kvs:List (Key×V)}{k:Key}(e:H a=some (.dK kvs)):DGet H a (kV k) (Vn kvs k):=.inl ⟨kvs,k,.inl e,rfl,rfl⟩
theorem DGet.t{H:Hp}{a b:Qd}{kvs:List (List Key×V)}{k:List Key}(e:H a=some (.dT kvs))(eb:H b=some (.tup (k.map kV))):DGet H a (.ref b) (Vn kvs k):=.inr ⟨kvs,k,b,.inl e,rfl,eb,rfl⟩
theorem DPut.k{H:Hp}{a:Qd}{kvs:List (Key×V)}{k:Key}{v:V}(e:H a=some (.dK kvs))(hl:kvs.length<Qt):DPut H a (kV k) v (upd H a (.dK (UM kvs k v))):=.inl ⟨kvs,k,e,rfl,hl,rfl⟩
theorem DPut.t{H:Hp}{a b:Qd}{kvs:List (List Key×V)}{k:List Key}{v:V}(e:H a=some (.dT kvs))(eb:H b=some (.tup (k.map kV)))(hl:kvs.length<Qt) :
 DPut H a (.ref b) v (upd H a (.dT (UM kvs k v))):=.inr ⟨kvs,k,b,e,rfl,eb,hl,rfl⟩

section
variable{X:Cx}{pins:List (Qd×Obj)}{σ:St}{H:Hp}{s:Qe}{a:Qd}{y v:V}{u r:Qc}{o:Option V}{A:QC}{E:Qc->Qe->Prop}

theorem Inv.big(I:Inv X pins σ H s):sysModules<s.heap.objs.size:=by have h:mainGlobals<s.heap.objs.size:=(I.mod.glob.keeps I.bk).lt;exact Md (by decide) h

theorem Jf5{Q:Qc->Qe->Prop}(hu:A.units+1<cLine)(I:Inv X pins σ H s)(g:DGet H a y (some v))(ry:RelV y u)(h:∀w' s',Inv X pins σ H s'->RelV v w'->Q w' s') :
 wpAny (model X.prog X.w) A (getItem (.ref a) u) Q E s:=by
 rcases g with ⟨kvs,k,e,ey,l⟩|⟨kvs,k,b,e,ey,eb,l⟩
 ·subst ey;obtain⟨z,hd,vs,rel,dd⟩:=Jam I.hok e;obtain⟨w',hw,rw'⟩:=RelO.some_of (v:=v) (o:=valueAt vs k) (by rw[l];exact rel.val k);exact wpAny_getItem_of (Jcq ry) dd.mapOf hw (h w' _ (I.tok _) rw')
 ·subst ey;cases (show u=Value.ref b from ry);obtain⟨z,hd,xs,rel,dd⟩:=Jao I.hok e;obtain⟨w',hw,rw'⟩:=RelO.some_of (v:=v) (o:=(atKey xs k).map (·.2)) (by rw[l];exact rel.val k);obtain⟨p,hp,hp2⟩:=GL.mp hw;refine wpAny_getItem_heap (tupleKind_room_in1 hu) (Zh I.hok eb) dd hp ?_;rw[hp2];exact h w' _ (I.tok _) rw'
theorem JjD{Q:Qc->Qe->Prop}(hu:A.units+1<cLine)(I:Inv X pins σ H s)(g:DGet H a y o)(ry:RelV y u)(h:∀s',Inv X pins σ H s'->Q (.bool (!o.isSome)) s') :
 wpAny (model X.prog X.w) A (compareOp .NotIn u (.ref a)) Q E s:=by
 rcases g with ⟨kvs,k,e,ey,l⟩|⟨kvs,k,b,e,ey,eb,l⟩
 ·subst ey;obtain⟨z,hd,vs,rel,dd⟩:=Jam I.hok e;refine wpAny_notIn_of (Jcq ry) hd dd.mapOf ?_;rw[<- (rel.val k).isSome_eq,<- l];exact h _ (I.tok _)
 ·subst ey;cases (show u=Value.ref b from ry);obtain⟨z,hd,xs,rel,dd⟩:=Jao I.hok e;refine wpAny_notIn_heap (tupleKind_room_in1 hu) (Zh I.hok eb) hd dd ?_;have q:=(rel.val k).isSome_eq;rw[Option.isSome_map] at q;rw[<- q,<- l];exact h _ (I.tok _)
theorem JeD{h':QL}{t':Nat}{ob:HO}(I:Inv X pins σ H s)(mu:Mut (H a))(hs:QQ a s.heap h')(he:∃q,h'.get? a=some q)(new:ObjOk X.prog X.w (upd H a ob) h' a ob) :
 Inv X pins σ (upd H a ob) { s with heap:=h',toks:=t' } :=
 I.write (x:=a) (e:=a) mu (.inl rfl) (fun b q hb z=>(hs.2 b hb).trans z) he new
theorem JmD{P:Qw}{w:QF}{H':Hp}{h':QL}{kvs:List (Key×V)}{vs:List (Key×Qc)}(z:kvs.length<=Qt)(hd:(a == sysModules)=false)(rel:KV kvs vs)(dd:h'.DictOf (Jv P w) a vs) :
 ObjOk P w H' h' a (.dK kvs):=⟨z,hd,vs,rel,dd⟩
theorem Jf6{H':Hp}{Q:Unit->Qe->Prop}(hu:A.units+1<cLine)(I:Inv X pins σ H s)(g:DPut H a y v H')(ry:RelV y u)(rv:RelV v r)(h:∀s',Inv X pins σ H' s'->Q () s') :
 wpAny (model X.prog X.w) A (setItem (.ref a) u r) Q E s:=by
 rcases g with ⟨kvs,k,e,ey,l,eH⟩|⟨kvs,k,b,e,ey,eb,l,eH⟩
 ·subst ey eH;obtain⟨z,hd,vs,rel,dd⟩:=Jpc I.hok e;have hz:vs.length<=Qt:=by rw[<- rel.length];exact z
  have hl:(UM kvs k v).length<=Qt:=by have:=Wn kvs k v;omega
  refine wpAny_setItem_pairs (hsz:=hz) (Jcq ry) dd fun h' dd' hs=>h _ ?_
  have he:∃q,h'.get? a=some q:=let ⟨q,_,_,hq,_⟩:=dd';⟨q,hq⟩
  exact JeD I (by rw[e];exact True.intro) hs he (JmD hl hd (rel.put k rv) dd')
 ·subst ey eH;cases (show u=Value.ref b from ry);obtain⟨z,hd,xs,rel,dd⟩:=Jpd I.hok e;have hz:xs.length<=Qt:=by rw[<- MK rel];exact z
  have hl:(UM kvs k v).length<=Qt:=by have:=Wn kvs k v;omega
  refine wpAny_setItem_heap (hsz:=hz) (tupleKind_room_in1 hu) (Zh I.hok eb) dd fun h' dd' hs=>h _ ?_
  obtain⟨q,es,ep,hq,h2,h3,h4,_,h5⟩:=dd';refine JeD I (by rw[e];exact True.intro) hs ⟨q,hq⟩ ⟨hl,hd,_,(rel.put k eb rv).keeps fun c ys ec=>?_,q,es,ep,hq,h2,h3,h4,h5⟩;rw[Je (JaF ec e (fun z=>nomatch z))];exact ec
end

section
variable{X:Cx}{pins:List (Qd×Obj)}{σ:St}{H:Hp}{s:Qe}{a:Qd}{kvs:List (Key×V)}{k:Key}{u:Qc}{A:QC}{E:Qc->Qe->Prop}
end

noncomputable def Jo1(i:Q7):Prop:=∀ov iv,subscripted i false ov iv=operate [ov,iv] (getItem ov iv)
theorem JlC{prog:Qw}{w:QF}{A:QC}{E:Qc->Qe->Prop}{s:Qe}{env:Env}{value slice:Q7}{pos:Pos}{T id:String}{Q:Qc->Qe->Prop}
 (hl:typeLookup (.type T) "__getitem__"=pure (some (.builtin id))) (hs:Jo1 slice)
 (h:wpAny (model prog w) A (eval value env) (fun o s₁=>wpAny (model prog w) A (eval slice env) (fun i s₂=>s₂.TypeIs o T/\wpAny (model prog w) A (getItem o i) Q E s₂) E s₁) E s) :
 wpAny (model prog w) A (eval (.Subscript value slice pos) env) Q E s:=by
 refine Subscript_ (Ka h (fun o s₁ h₁=>Ka h₁ (fun i s₂ h₂=>?_) fun _ _ x=>x) fun _ _ x=>x);obtain⟨hT,h₂⟩:=h₂;unfold subscriptTail;refine Qa ?_;rw[getitemInPython_of_ne hT.not_modules];refine Qa (wpAny_specialOf hT hl ?_)
 have fin:wpAny (model prog w) A (subscripted slice false o i) (fun r s₃=>wpAny (model prog w) A (letTemporaryGo value o r >>= fun _=>pure r) Q E s₃) E s₂:=by rw[hs o i];exact wpAny_operating (Ka h₂ (fun r s₃ h₃=>Qa (wpAny_letTemporaryGo (Qj h₃))) fun _ _ x=>x)
 first
  | exact Qj (Qa fin)
  | exact Qa (Qj (Qa fin))
  | exact Qa fin

theorem Jca{X:Cx}{pins:List (Qd×Obj)}{σ:St}{H:Hp}{s:Qe}{a:Qd}{y:V}{o:Option V}(I:Inv X pins σ H s)(g:DGet H a y o):s.TypeIs (.ref a) "dict":=by
 rcases g with ⟨kvs,k,e,_,_⟩|⟨kvs,k,b,e,_,_,_⟩
 ·obtain⟨_,_,vs,_,dd⟩:=Jam I.hok e;exact dd.typeIs
 ·obtain⟨_,_,xs,_,dd⟩:=Jao I.hok e;exact dd.typeIs
noncomputable def JfE(td ty:TE):TE:=fun σ H Q=>td σ H fun x H1=>ty σ H1 fun y H2=>∃a v,x=.ref a/\DGet H2 a y (some v)/\Q v H2
noncomputable def JfF(ty td:TE):TE:=fun σ H Q=>ty σ H fun y H1=>td σ H1 fun x H2=>∃a o,x=.ref a/\DGet H2 a y o/\Q (.bl (!o.isSome)) H2
noncomputable def JiK(td ty tv:TE):TS:=fun D σ H=>tv σ H fun v H1=>td σ H1 fun x H2=>ty σ H2 fun y H3=>∃a H4,x=.ref a/\DPut H3 a y v H4/\D.nx σ H4
section
variable{X:Cx}{o i e value:Q7}{pos pos' tpos:Pos}{td ty tv:TE}
theorem VE(hu:X.A.units+1<cLine)(ho:PE X o td)(hi:PE X i ty)(hs:Jo1 i):PE X (.Subscript o i pos) (JfE td ty):=by intro pins s σ H Q I h;refine JlC PySem.F.slot_dict_getitem.lookup hs (thn (ho pins s σ H _ I h) fun u s1 ⟨x,H1,I1,rx,q1⟩=>thn (hi pins s1 σ H1 _ I1 q1) fun iv s2 ⟨y,H2,I2,ry,a,v,ex,g,q2⟩=>?_);subst ex;obtain rfl:u=Value.ref a:=rx;exact⟨Jca I2 g,Jf5 hu I2 g ry fun w' s3 I3 rw'=>⟨v,H2,I3,rw',q2⟩⟩
theorem JgC(hu:X.A.units+1<cLine)(hi:PE X i ty)(ho:PE X o td):PC X .NotIn i o (JfF ty td):=by
 intro pins s σ H Q I h;refine thn (hi pins s σ H _ I h) fun iv s1 ⟨y,H1,I1,ry,q1⟩=>thn (ho pins s1 σ H1 _ I1 q1) fun u s2 ⟨x,H2,I2,rx,a,ov,ex,g,q2⟩=>?_
 subst ex;obtain rfl:u=Value.ref a:=rx;exact JjD hu I2 g ry fun s3 I3=>⟨.bl (!ov.isSome),H2,I3,rfl,q2⟩
theorem JbB(hu:X.A.units+1<cLine)(ho:PE X o td)(hi:PE X i ty)(hv:PE X value tv)(hs:swapsWith value (some (.Subscript o i pos')) pos.line X.env=pure false) :
 PS X (.Assign [.Subscript o i pos'] value pos) (JiK td ty tv):=by
 intro pins s σ H D I h;refine wpAny_Assign_Subscript (thn (hv pins s σ H _ I h) fun r s1 ⟨v,H1,I1,rv,q1⟩=>thn (ho pins s1 σ H1 _ I1 q1) fun u s2 ⟨x,H2,I2,rx,q2⟩=>thn (hi pins s2 σ H2 _ I2 q2) fun iv s3 ⟨y,H3,I3,ry,a,H4,ex,g,q3⟩=>?_) hs;subst ex;obtain rfl:u=Value.ref a:=rx;exact Jf6 hu I3 g ry rv fun s4 I4=>⟨σ,H4,I4,q3⟩
end

theorem Jht{P:Qw}{w:QF}{H:Hp}(h:QL)(hb:sysModules<h.objs.size):ObjOk P w H (h.push { cls:=.type "dict",data:=.dict #[] }) h.objs.size (.dK []) :=
 ⟨GA _,beq_eq_false_iff_ne.mpr (Q2 (QB hb)),[],.nil,Heap.DictOf.new h⟩
noncomputable def Ji2:TE:=fun _ H Q=>∀p,H p=none->Q (.ref p) (upd H p (.dK []))
section
variable{X:Cx}{pos:Pos}
theorem Zw:PE X (.Dict [] [] pos) Ji2:=fun pins s σ H Q I h=>wpAny_Dict_empty ⟨.ref s.heap.objs.size,_,I.laid (a:=s.heap.objs.size) (o:=.dK []) (t':=s.toks) (fun _ _ q=>Qi _ q) (Qr _) (Jht s.heap I.big),rfl,h _ (I.hok.fresh (Qr _))⟩
end

structure M1 (X:Cx) (o:Q7) (m:Str) (apos:Pos) (e:Q7) (cpos:Pos):Prop where
 base:attributeBase o m X.env (eval o X.env)=eval o X.env
 few:((backTo cpos (starEach [e] X.env)).all (fun x=>!x.1) && (backToKw cpos (keywordEach [] X.env)).all (fun x=>x.1.isSome)
  && decide (([e]:List Q7).length+([]:List MG).length+(if ([]:List MG).isEmpty then 0 else 1)<30))=true
 line:(apos.endLine == cpos.line)=true
 trees:backTo cpos (starEach [e] X.env)=[(false,eval e X.env)]
structure M2 (X:Cx) (o:Q7) (m:Str) (apos:Pos) (e f:Q7) (cpos:Pos):Prop where
 base:attributeBase o m X.env (eval o X.env)=eval o X.env
 few:((backTo cpos (starEach [e,f] X.env)).all (fun x=>!x.1) && (backToKw cpos (keywordEach [] X.env)).all (fun x=>x.1.isSome)
  && decide (([e,f]:List Q7).length+([]:List MG).length+(if ([]:List MG).isEmpty then 0 else 1)<30))=true
 line:(apos.endLine == cpos.line)=true
 trees:backTo cpos (starEach [e,f] X.env)=[(false,eval e X.env),(false,eval f X.env)]

noncomputable def IsD(H:Hp)(a:Qd):Prop:=(∃kvs,Rd H a (.dK kvs))\/∃kvs,Rd H a (.dT kvs)
theorem Jbj{X:Cx}{pins:List (Qd×Obj)}{σ:St}{H:Hp}{s:Qe}{a:Qd}(I:Inv X pins σ H s)(d:IsD H a) :
 s.TypeIs (.ref a) "dict"/\(∀b,Value.ref a=.ref b->∃ob,s.heap.get? b=some ob/\ob.dict=none)/\(a == sysModules)=false:=by
 rcases d with ⟨kvs,e⟩|⟨kvs,e⟩
 ·obtain⟨_,hd,vs,_,dd⟩:=Jam I.hok e;refine⟨dd.typeIs,fun b q=>?_,hd⟩;cases q;obtain⟨ob,_,_,h1,h2,_⟩:=dd;exact⟨ob,h1,h2.2.1⟩
 ·obtain⟨_,hd,xs,_,dd⟩:=Jao I.hok e;refine⟨dd.typeIs,fun b q=>?_,hd⟩;cases q;obtain⟨ob,_,_,h1,h2,_⟩:=dd;exact⟨ob,h1,h2.2.1⟩

section
variable{X:Cx}{pins:List (Qd×Obj)}{σ:St}{H:Hp}{s:Qe}{a:Qd}{y d:V}{u r:Qc}{o:Option V}{A:QC}{E:Qc->Qe->Prop}
theorem JmC{Q:Qc->Qe->Prop}(hu:A.units+1<cLine)(I:Inv X pins σ H s)(g:DGet H a y o)(ry:RelV y u)(rd:RelV d r)(h:∀w' s',Inv X pins σ H s'->RelV (o.getD d) w'->Q w' s') :
 wpAny (model X.prog X.w) A (call (.builtin "dict.get") [.ref a,u,r]) Q E s:=by
 rcases g with ⟨kvs,k,e,ey,l⟩|⟨kvs,k,b,e,ey,eb,l⟩
 ·subst ey;obtain⟨z,hd,vs,rel,dd⟩:=Jam I.hok e;refine call_meetsIn LU dd.typeIs Rb (MV _ _ _) (meets_dict_get_default (Jv X.prog X.w) a (Jcq ry) hd r) ⟨_,dd.mapOf,h _ _ (I.tok _) ?_⟩;rw[l];exact(rel.val k).getD rd
 ·subst ey;cases (show u=Value.ref b from ry);obtain⟨z,hd,xs,rel,dd⟩:=Jao I.hok e;refine call_meetsIn LU dd.typeIs Rb (MV _ _ _) (meetsH_dict_get_default (tupleKind (Jv X.prog X.w)) a b hd r) ⟨tupleKind_room_in1 hu,k,xs,Zh I.hok eb,dd,h _ _ (I.tok _) ?_⟩;rw[l];exact(rel.val k).getD rd
end

noncomputable def Ji1(td ty tx:TE):TE:=fun σ H Q=>td σ H fun x H1=>∃a,x=.ref a/\IsD H1 a/\ty σ H1 fun y H2=>tx σ H2 fun z H3=>∃o,DGet H3 a y o/\Q (o.getD z) H3
section
variable{X:Cx}{o e f:Q7}{apos cpos:Pos}{td ty tx:TE}
theorem JcP(hu:X.A.units+1<cLine)(ho:PE X o td)(he:PE X e ty)(hf:PE X f tx)(m:M2 X o "get" apos e f cpos):PE X (.Call (.Attribute o "get" apos) [e,f] [] cpos) (Ji1 td ty tx):=by
 intro pins s σ H Q I h;refine wpAny_Call_method m.base m.few m.line KU LU PySem.F.type_dict_get (thn (ho pins s σ H _ I h) fun u s1 ⟨x,H1,I1,rx,a,ex,d,q1⟩=>?_);subst ex;obtain rfl:u=Value.ref a:=rx;obtain⟨t1,t2,_⟩:=Jbj I1 d;refine⟨t1,t2,?_⟩;rw[m.trees];refine Ke rfl (RB (Mq (thn (he pins s1 σ H1 _ I1 q1) fun iv s2 ⟨y,H2,I2,ry,q2⟩=>Mq (thn (hf pins s2 σ H2 _ I2 q2) fun fv s3 ⟨z,H3,I3,rz,ov,g,q3⟩=>Calls.spliced_nil ?_))))
 exact JmC hu I3 g ry rz fun w' s4 I4 rw'=>⟨_,H3,I4,rw',q3⟩
end

section
variable{X:Cx}{pins:List (Qd×Obj)}{σ:St}{H:Hp}{s:Qe}{a:Qd}{kvs:List (Key×V)}{A:QC}{E:Qc->Qe->Prop}
end

section
variable{X:Cx}{pins:List (Qd×Obj)}{σ:St}{H:Hp}{s:Qe}{a:Qd}{y:V}{u:Qc}{A:QC}{E:Qc->Qe->Prop}
end
end L2
namespace L2
open PySem PySem.Spec PyProof.Rows

noncomputable def Jjr(X:Cx)(ifs:List Q7)(t:TT):Prop :=
 ∀(pins:List (Qd×Obj)) (s:Qe) (σ:St) (H:Hp) (Q:Bool->Hp->Prop),Inv X pins σ H s->t σ H Q ->
  wpAny (model X.prog X.w) X.A (forIn ifs true fun c r=>if r=true then do let ok <- isTrue c X.env (eval c X.env);pure (ForInStep.yield ok) else pure (ForInStep.yield r)) (TP X pins σ Q) X.xe s
noncomputable def JoF:TT:=fun _ H Q=>Q true H
theorem Yz{X:Cx}:Jjr X [] JoF:=fun _ _ _ H _ I h=>wpAny_tests_nil ⟨H,I,h⟩
theorem Zz{X:Cx}{c:Q7}{t:TT}(h:PT X c t):Jjr X [c] t:=fun pins s σ H Q I q=>wpAny_tests_one (h pins s σ H Q I q)

noncomputable def blk(X:Cx)(sc:Lu)(cl:List (Str×Qd))(N':List Str)(C:Qd)(s:Qe)(H:Hp)(fp:List Qd):Cx where
 prog:=X.prog
 w:=X.w
 K:=X.K
 mg:=X.mg
 base:=X.base
 A:=X.A
 N:=N'
 s₀:=s
 H₀:=H
 env:=compEnvC sc cl C X.env
 outer:=X.stack
 stack:=X.stack
 ex:=fp
 fn:=fun _=>false
 calm:=X.calm
 pn:=[]
 xe:=fun _ _=>False

noncomputable def Zc(imp:List (Option Nat))(σ:St):St:=imp.map fun o=>match o with
 | none=>none
 | some k=>(σ[k]?).join

structure Blk (X:Cx) (sc:Lu) (cl:List (Str×Qd)) (N':List Str) (imp:List (Option Nat)):Prop where
 clos:closureFor sc X.env=pure cl
 kind:sc.kind=.function
 nocell:∀y∈sc.names,y.2≠.cell
 names:∀y∈sc.names,y.2=.local->sc.names.lookup y.1=some .local
 sub:∀p∈cl,X.env.cells.lookup p.1=some p.2
 has:∀y∈(relabel sc X.env).names,(y.2=.cell\/y.2=.free)->(cl.lookup y.1).isSome=true
 len:imp.length=N'.length
 im:∀p∈imp.zip N',∀k,p.1=some k->X.N[k]?=some p.2/\(X.env.scope.names.lookup p.2=some .cell\/X.env.scope.names.lookup p.2=some .free)/\((relabel sc X.env).names.lookup p.2=some .cell\/(relabel sc X.env).names.lookup p.2=some .free)

noncomputable def Ji0(wi:TI)(g:TG)(tt:TT)(te:TE)(imp:List (Option Nat)):TE:=fun σ H Q=>wi σ H fun J H1=>∃W:Nat->Nat->List V->St->Hp->Prop,(∃m,W 0 m [] (Zc imp σ) H1)/\∀i m ys σ' H',W i m ys σ' H' ->
 (J.stop i H'/\ys.length<=Qt/\∀D,H' D=none->Q (.ref D) (upd H' D (.lst ys))) ∨
 (J.go i H'/\ys.length<Qt/\∃N:List V->St->Hp->Prop,(∀ys' σ2 H2,N ys' σ2 H2->∃m',m'<m/\W (i+1) m' ys' σ2 H2) ∧
  ∀x H2,J.yld i H' x H2->g x σ' H2 fun σ2 H3=>tt σ2 H3 fun b H4=>if b=true then te σ2 H4 fun y H5=>N (ys++[y]) σ2 H5 else N ys σ2 H4)

section
variable{P:Qw}{w:QF}{H:Hp}{h h':QL}
theorem HOk.sameBut{C:Qd}(x:HOk P w H h)(hC:H C=none)(k:∀b o,b≠C->h.get? b=some o->h'.get? b=some o):HOk P w H h':=fun a o e =>
 (x a o e).stay (fun b u hb q=>k b u (by
  rintro rfl;rcases hb with z|z
  ·rw[<- z,hC] at e;cases e
  ·rw[hC] at z;cases z) q) (fun _ q=>q) fun _ _ q=>q
theorem HOk.track{D:Qd}{o:HO}(x:HOk P w H h)(hD:H D=none)(new:ObjOk P w (upd H D o) h D o):HOk P w (upd H D o) h:=fun b u e=>by
 by_cases hb:b=D
 ·subst hb;rw[Jk] at e;cases e;exact new
 ·rw[Je hb] at e;exact(x b u e).stay (fun c v _ q=>q) (fun c q=>by rw[Je (Jo q hD)];exact q) fun c xs q=>by rw[Je (Jo q hD)];exact q
end

theorem Uv{α:Type}{x:Str}{c:α}:∀{l:List (Str×α)},l.lookup x=some c->(x,c)∈l:=fun h=>Kv h

section
variable{X:Cx}{tg iter elt:Q7}{ifs:List Q7}{sc:Lu}{cl:List (Str×Qd)}{N':List Str}{imp:List (Option Nat)}{pos:Pos}{wi:TI}{g:TG}{tt:TT}{te:TE}

theorem Blk.subL(B:Blk X sc cl N' imp):∀x c,cl.lookup x=some c->X.env.cells.lookup x=some c:=fun x c e=>B.sub (x,c) (Uv e)

theorem Jjy{pins:List (Qd×Obj)}{σ:St}{H:Hp}{s:Qe}{fp:List Qd}{h₁:QL}{C:Qd}(B:Blk X sc cl N' imp)(I:Inv X pins σ H s)(hf:∀b∈fp,FpOk X pins H b)(hfo:∀b∈fp,∃o,s.heap.get? b=some o)
 (hC:s.heap.objs.size<C) (old:∀b o,s.heap.get? b=some o->h₁.get? b=some o) (ns:h₁.Ns C fun _=>none) :
 Inv (blk X sc cl N' C s H fp) [] (Zc imp σ) H { s with heap:=h₁,toks:=s.toks }:=by
 have hlt:∀b∈fp,b<s.heap.objs.size:=fun b hb=>let ⟨_,e⟩:=hfo b hb;Qp e
 have clt:∀x c,X.env.cells.lookup x=some c->c<s.heap.objs.size:=fun x c e=>let ⟨_,q⟩:=I.cell x c e;q.lt
 have ok:(blk X sc cl N' C s H fp).Ok:={
  mod:=I.ok.mod
  kind:=B.kind
  glob:=I.ok.glob
  blt:=I.ok.blt
  above:=GZ hC
  inj:=fun x y c h1 h2=>I.ok.inj x y c (B.subL x c h1) (B.subL y c h2)
  has:=fun x hx=>by
   have hx':(relabel sc X.env).names.lookup x=some .cell\/(relabel sc X.env).names.lookup x=some .free:=hx
   have:(cl.lookup x).isSome=true:=by
    rcases hx' with z|z
    ·exact B.has (x,.cell) (Uv z) (.inl rfl)
    ·exact B.has (x,.free) (Uv z) (.inr rfl)
   exact Lv.mp this
  cab:=fun x c z=>nomatch z
  hd:=I.ok.hd
  frames:=I.ok.frames
  stk:=.inl rfl
  exf:=fun b hb=>⟨QB (Md (hlt b hb) hC),fun x c e=>(hf b hb).2.2.2.2.1 x c (B.subL x c e)⟩
  bs:=I.bs
  bsz:=Gb I.ok.bsz I.sz
  noex:=fun b o e hb=>by
   rcases(hf b hb).2.2.2.1 with z|z
   ·exact I.ok.noex b o e z
   ·exact absurd (QZ (Qp e) (Gb I.ok.bsz z)) (GO _)
  exfs:=fun b hb z=>by
   rcases Qk.mp (I.stkSub b z) with q|q
   ·exact(hf b hb).2.1 q
   ·exact(hf b hb).2.2.1 q
  funs:=I.stack
  frf:=I.stkFree }
 refine⟨ok,rfl,I.bare,Un.kept old,⟨_,ns,fun i x v h1 h2 h3=>?_⟩,fun x c e=>?_,I.hok.fresh (GZ hC),fun x c e=>I.freeC x c (B.subL x c e),fun p hp=>absurd (show p∈([]:List (Qd×Obj)) from hp) (by simp),I.hok.kept old,?_⟩
 ·have h1':N'[i]?=some x:=h1
  have h2':(imp.map fun o=>match o with|none=>none|some k=>(σ[k]?).join)[i]?=some (some v):=h2;rw[Qo] at h2'
  cases e:imp[i]? with
  | none=>rw[e] at h2';cases h2'
  | some q =>
   rw[e] at h2'
   cases q with
   | none=>cases h2'
   | some k =>
    have h2'':(σ[k]?).join=some v:=QT h2'
    have hk:σ[k]?=some (some v):=by
     cases e':σ[k]? with
     | none=>rw[e'] at h2'';cases h2''
     | some z=>rw[e'] at h2'';cases z with
      | none=>cases h2''
      | some z=>cases h2'';rfl
    have hm:(some k,x)∈imp.zip N':=by refine QJ (i:=i) ?_;rw[List.getElem?_zip_eq_some];exact⟨e,h1'⟩
    obtain⟨b1,b2,b3⟩:=B.im _ hm k rfl;obtain⟨m,hn,hl⟩:=I.loc;obtain⟨u,r,l⟩:=hl k x v b1 hk (b2.elim (fun z=>.inr (.inl z)) fun z=>.inr (.inr z));refine⟨u,r,.inr ⟨b3,?_⟩⟩
    have hc:∃c,X.env.cells.lookup x=some c/\s.heap.IsCell c (some u):=by
     rcases l with ⟨z,_⟩|⟨_,z⟩
     ·have z':X.env.scope.names.lookup x=some .local:=z;rcases b2 with y|y <;> rw[y] at z' <;> cases z'
     ·exact z
    obtain⟨c,hc,oc,ho,hd⟩:=hc;obtain⟨c',hc'⟩:=ok.has x b3;have e2:=B.subL x c' hc';rw[hc] at e2;cases e2;exact⟨c,hc',oc,old c oc ho,hd⟩
 ·obtain⟨v,o,ho,hd⟩:=I.cell x c (B.subL x c e);exact⟨v,o,old c o ho,hd⟩
 ·show(imp.map _).length=N'.length;rw[Qq];exact B.len

theorem Jjx{pins pn:List (Qd×Obj)}{σ σ':St}{H2 H':Hp}{s2 s4:Qe}{fp:List Qd}{C D:Qd}{Cs:Qd}{ys:List V}{its:List Qc}{k:Nat}{h':QL}(I2:Inv X pins σ H2 s2)(f2:∀b∈fp,FpOk X pins H2 b)
 (I5:Inv (blk X sc cl N' C s2 H2 fp) pn σ' H' s4) (hC:s2.heap.objs.size<C) (hD:H' D=none) (hDs:s2.heap.objs.size<=D) (hDC:D≠C) (eD:s4.heap.get? D=some { cls:=.type "list",data:=.seq its.toArray k })
 (rv:Vals ys its) (hz:ys.length<=Qt) (hsb:QQ C s4.heap h'):Inv X pins σ (upd H' D (.lst ys)) { s4 with heap:=h' }:=by
 have U:Un (frs X.stack) fp H2 H' s2.heap s4.heap:=I5.base
 have kk:∀b o,b≠C->s4.heap.get? b=some o->h'.get? b=some o:=hsb.extBut
 have hC':H' C=none:=I5.free
 have ok1:HOk X.prog X.w H' h':=HOk.sameBut (C:=C) I5.hok hC' kk
 have ok2:HOk X.prog X.w (upd H' D (.lst ys)) h':=ok1.track hD ⟨hz,its,k,rv,kk _ _ hDC eD⟩
 have lt:∀b o,s2.heap.get? b=some o->b≠C/\b≠D:=fun b o e=>⟨QB (Md (Qp e) hC),QB (QZ (Qp e) hDs)⟩
 refine I2.call' (s':={ s4 with heap:=h' }) (ch:=fp) I5.os ⟨fun b o e n hb hx=>kk b o (lt b o e).1 (U.keep b o e n hb hx),fun b o e n hb hx=>?_,fun b o e n hx=>?_,fun b o e hx=>?_,fun b xs e=>?_,fun b o u e=>?_,fun b ps l c z e=>?_⟩ ok2 I5.bare
  fun b hb=>⟨(f2 b hb).2.2.2.1,(f2 b hb).2.1,(f2 b hb).2.2.2.2.1,(f2 b hb).2.2.2.2.2⟩
 ·obtain⟨sl,q⟩:=U.slot b o e n hb hx;exact⟨sl,kk b _ (lt b o e).1 q⟩
 ·rw[Je (lt b o e).2];exact U.free b o e n hx
 ·obtain⟨o',q⟩:=U.there b o e hx;exact⟨o',kk b o' (lt b o e).1 q⟩
 ·have q:=U.tups b xs e;rw[Je (Jo q hD)];exact q
 ·have q:=U.frzs b o u e;rw[Je (Jo q hD)];exact q
 ·have q:=U.tbls b ps l c z e;rw[Je (Jo q hD)];exact q

noncomputable def JoY(g:TG)(tt:TT)(te:TE)(imp:List (Option Nat))(σ:St)(Q:VK)(J:It)(H1:Hp):Prop:=∃W:Nat->Nat->List V->St->Hp->Prop,(∃m,W 0 m [] (Zc imp σ) H1)/\∀i m ys σ' H',W i m ys σ' H' ->
 (J.stop i H'/\ys.length<=Qt/\∀D,H' D=none->Q (.ref D) (upd H' D (.lst ys))) ∨
 (J.go i H'/\ys.length<Qt/\∃N:List V->St->Hp->Prop,(∀ys' σ2 H2,N ys' σ2 H2->∃m',m'<m/\W (i+1) m' ys' σ2 H2) ∧
  ∀x H2,J.yld i H' x H2->g x σ' H2 fun σ2 H3=>tt σ2 H3 fun b H4=>if b=true then te σ2 H4 fun y H5=>N (ys++[y]) σ2 H5 else N ys σ2 H4)
theorem Jf4{pins:List (Qd×Obj)}{σ:St}{Q:VK}{itv:Qc}{s2:Qe}{RR:Qc->Qd->M8->Qe->Prop}{E:Qc->Qe->Prop}(hc:X.calm=true)(B:Blk X sc cl N' imp)
 (hg:∀C s H fp,PG (blk X sc cl N' C s H fp) tg g) (ht:∀C s H fp,Jjr (blk X sc cl N' C s H fp) ifs tt) (he:∀C s H fp,PE (blk X sc cl N' C s H fp) elt te)
 (h2:PIE X pins σ tg (JoY g tt te imp σ Q) itv s2)
 (fin:∀(C D:Qd) (s4:Qe) (H':Hp) (ys:List V) (m:Str->Option Qc),s2.heap.objs.size<C->s4.heap.Ns C m->H' C=none->(∀h',QQ C s4.heap h'->Inv X pins σ H' { s4 with heap:=h' })->Q (.ref D) H'->RR (.ref D) C (.ok .next) s4) :
 wpAny (model X.prog X.w) X.A (newList []) (fun acc s₃=>wpAny (model X.prog X.w) X.A (newFunctionEnv sc X.env.globals cl [] X.env.qual none .none (some X.env)) (fun cenv s₄=>codeAny (model X.prog X.w) X.A (.compStart (.ListComp elt [⟨tg,iter,ifs,0⟩] sc pos) 0 itv acc { cenv with scope:=relabel sc X.env }) (RR acc cenv.locals) s₄) E s₃) E s2:=by
 obtain⟨it,fp,tn,J,H2,e,I2,T,st2,f2,W,⟨m0,w0⟩,turn⟩:=h2;subst e;refine Gc (wpAny_newFunctionEnv B.nocell (by intro y hy;simp at hy) (fun h₁ hns₁ hsb₁=>?_) B.kind);dsimp only at hns₁ hsb₁ ⊢
 generalize hG:s2.heap.push { cls:=.type "list",dict:=none,data:=.seq ([]:List Qc).toArray }=G at hns₁ hsb₁ ⊢
 have hCs:G.objs.size=s2.heap.objs.size+1:=by rw[<- hG,Ge]
 have hC:s2.heap.objs.size<G.objs.size:=by rw[hCs];exact GH _
 have below:∀b,b<s2.heap.objs.size->b≠G.objs.size:=fun b hb=>QB (Md hb hC)
 have old:∀b o,s2.heap.get? b=some o->h₁.get? b=some o:=fun b o e=>hsb₁.extBut b o (below b (Qp e)) (Qi _ (hG▸Qi _ e))
 have hD1:h₁.get? s2.heap.objs.size=some { cls:=.type "list",data:=.seq ([]:List Qc).toArray }:=hsb₁.extBut _ _ (QB hC) (Qi _ (hG▸Qn _ rfl))
 have fpo:∀b∈fp,∃o,s2.heap.get? b=some o:=fun b hb=>let ⟨o,e,_⟩:=T.obj 0 _ st2 b hb;⟨o,e⟩
 have I4:=Jjy B I2 f2 fpo hC old (show h₁.Ns G.objs.size fun _=>none from hns₁)
 -- the records of the block: the list that grows,the iterator's
 have stD:∀{H':Hp} {pn:List (Qd×Obj)},(∀b∈s2.heap.objs.size::fp,H' b=none)->(∀p∈pn,p.1∉s2.heap.objs.size::fp)->∀b∈s2.heap.objs.size::fp,FpOk (blk X sc cl N' G.objs.size s2 H2 fp) pn H' b:=fun {H' pn} hn hp b hb=>by
  have hp':∀p∈([]++pn:List (Qd×Obj)),p.1≠b:=fun p z q=>hp p (by simpa using z) (q▸hb)
  rcases Qk.mp hb with z|z
  ·subst z;refine⟨hn _ hb,QB hC,fun q=>?_,.inr (Qr _),fun x c e q=>?_,hp'⟩
   ·rcases Qk.mp (I2.stkSub _ q) with q|q
    ·exact absurd I2.lt (by rw[<- q];exact GO _)
    ·exact I2.nofs (Qr _) q
   ·obtain⟨v,qc⟩:=I2.cell x c (B.subL x c e);exact absurd qc.lt (by rw[q];exact GO _)
  ·refine⟨hn _ hb,below b (let ⟨_,e⟩:=fpo b z;Qp e),fun q=>?_,.inl z,fun x c e=>(f2 b z).2.2.2.2.1 x c (B.subL x c e),hp'⟩;rcases Qk.mp (I2.stkSub b q) with q|q
   ·exact(f2 b z).2.1 q
   ·exact(f2 b z).2.2.1 q
 have nDf:s2.heap.objs.size∉fp:=fun z=>let ⟨_,e⟩:=fpo _ z;absurd (Qp e) (GO _)
 have loop:codeAny (model X.prog X.w) X.A (.compLoop (.ListComp elt [⟨tg,iter,ifs,0⟩] sc pos) 0 (.ref it) (.ref s2.heap.objs.size) (compEnvC sc cl G.objs.size X.env))
  (RR (.ref s2.heap.objs.size) G.objs.size) { s2 with heap:=h₁,toks:=s2.toks }:=by
  refine codeAny_loop rfl (fun n s'=>∃i ys its k σ' H',Inv (blk X sc cl N' G.objs.size s2 H2 fp) [] σ' H' s'/\tn i s'.heap/\(∀b∈s2.heap.objs.size::fp,H' b=none)/\Vals ys its/\s'.heap.get? s2.heap.objs.size=some { cls:=.type "list",data:=.seq its.toArray k }/\W i n ys σ' H') ?_ m0
   ⟨0,[],[],0,_,H2,I4,T.keep _ _ _ st2 (fun b _ o e=>old b o e),fun b hb=>?_,.nil,hD1,w0⟩
  ·rintro n s3 ⟨i,ys,its,k,σ3,H3,I3,st3,fr3,rv3,hD3,w3⟩;have fr3':∀b∈fp,FpOk (blk X sc cl N' G.objs.size s2 H2 fp) [] H3 b:=fun b hb=>stD (pn:=[]) fr3 (fun p z=>nomatch z) b (Qf _ hb)
   show wpAny _ X.A ((compTurn (.ListComp elt [⟨tg,iter,ifs,0⟩] sc pos) 0 (.ref it) (.ref s2.heap.objs.size) (compEnvC sc cl G.objs.size X.env)).onRaise (fun x=>do noteFrame x (compEnvC sc cl G.objs.size X.env);theTreesLotGoes x)) _ _ s3;refine wpAny_noted (wpAny_noRaise ?_);rw[compTurn_list];refine Qa (wpAny_standAt (Qa ?_))
   have fD:=stD (pn:=[]) fr3 (fun p z=>nomatch z) s2.heap.objs.size Qh
   have hDH:H3 s2.heap.objs.size=none:=fr3 _ Qh
   have I3p:Inv (blk X sc cl N' G.objs.size s2 H2 fp) [(s2.heap.objs.size,{ cls:=.type "list",data:=.seq its.toArray k })] σ3 H3 s3:=I3.pins_of fun p hp=>by
    have e:p=(s2.heap.objs.size,{ cls:=.type "list",data:=.seq its.toArray k }):=by simpa using hp
    subst e;exact⟨hD3,hDH,fD.2.1,fD.2.2.1,fun v z=>by cases z⟩
   have pfp:∀p∈[(s2.heap.objs.size,({ cls:=.type "list",data:=.seq its.toArray k }:Obj))],p.1∉fp:=fun p hp=>by
    have e:p=(s2.heap.objs.size,{ cls:=.type "list",data:=.seq its.toArray k }):=by simpa using hp
    subst e;exact nDf
   have fpP:∀{H':Hp},(∀b∈fp,H' b=none)->∀b∈fp,FpOk (blk X sc cl N' G.objs.size s2 H2 fp) [(s2.heap.objs.size,({ cls:=.type "list",data:=.seq its.toArray k }:Obj))] H' b:=fun {H'} hn b hb =>
    have f:=stD (pn:=[]) fr3 (fun p z=>nomatch z) b (Qf _ hb)
    ⟨hn b hb,f.2.1,f.2.2.1,f.2.2.2.1,f.2.2.2.2.1,fun p hp q=>pfp p ((GF.mp hp).elim (fun z=>nomatch (show p∈([]:List (Qd×Obj)) from z)) id) (q▸hb)⟩
   rcases turn i n ys σ3 H3 w3 with ⟨stop,hz,q⟩|⟨go,hz,N,hN,step⟩
   ·refine thn (T.done (blk X sc cl N' G.objs.size s2 H2 fp) rfl rfl rfl hc i _ s3 σ3 H3 _ I3p (fpP fun b hb=>fr3 b (Qf _ hb)) st3 stop) fun r s4 ⟨hr,I5⟩=>?_
    subst hr;refine Qj ?_;obtain⟨m,hn,_⟩:=I5.loc;have eD:=(I5.pin (s2.heap.objs.size,{ cls:=.type "list",data:=.seq its.toArray k }) (by simp)).1;have hCf:H3 G.objs.size=none:=I5.free;exact fin G.objs.size s2.heap.objs.size s4 _ ys m hC hn (by rw[Je (Kn hC)];exact hCf) (fun h' hsb=>Jjx (Cs:=0) I2 f2 I5 hC hDH (Qr _) (QB hC) eD rv3 hz hsb) (q _ hDH)
   ·refine thn (T.item (blk X sc cl N' G.objs.size s2 H2 fp) rfl rfl rfl hc i _ s3 σ3 H3 _ I3p (fpP fun b hb=>fr3 b (Qf _ hb)) st3 go) fun r s4 ⟨u,hr,h4⟩=>?_
    subst hr;refine Qa (thn h4 fun _ s5 ⟨x,H5,I5,r5,y5,st5,fr5⟩=>?_);have I5':=I5.pinned (fpP fr5) (T.obj _ _ st5);refine Qa (thn (hg G.objs.size s2 H2 fp _ s5 σ3 H5 x u _ I5' r5 (step x H5 y5)) fun _ s6 ⟨σ6,H6,I6,q6⟩=>?_);refine Qa (thn (ht G.objs.size s2 H2 fp _ s6 σ6 H6 _ I6 q6) fun ok s7 ⟨H7,I7,q7⟩=>?_)
    -- what stays of the records
    have recs:∀{σ':St} {H':Hp} {s':Qe},Inv (blk X sc cl N' G.objs.size s2 H2 fp) ([(s2.heap.objs.size,({ cls:=.type "list",data:=.seq its.toArray k }:Obj))]++ZC fp s5.heap) σ' H' s' ->
     tn (i+1) s'.heap/\(∀b∈s2.heap.objs.size::fp,H' b=none)/\s'.heap.get? s2.heap.objs.size=some { cls:=.type "list",data:=.seq its.toArray k }:=fun {σ' H' s'} I'=>by
     have pd:=I'.pin (s2.heap.objs.size,{ cls:=.type "list",data:=.seq its.toArray k }) (by simp)
     have pf:∀b∈fp,∀o,s5.heap.get? b=some o->s'.heap.get? b=some o/\H' b=none:=fun b hb o e=>by have z:=I'.pin (b,o) (Gz _ (Gz _ (Vd hb e)));exact⟨z.1,z.2.1⟩
     refine⟨T.keep _ _ _ st5 fun b hb o e=>(pf b hb o e).1,fun b hb=>?_,pd.1⟩;rcases Qk.mp hb with z|z
     ·subst z;exact pd.2.1
     ·obtain⟨o,e,d⟩:=T.obj _ _ st5 b z;exact(pf b z o e).2
    cases ok with
    | false=>obtain⟨m',hm,w7⟩:=hN _ _ _ (show N ys σ6 H7 from by simpa using q7);obtain⟨r1,r2,r3⟩:=recs I7;exact Qj ⟨rfl,m',hm,i+1,ys,its,k,σ6,H7,I7.pins_of (fun p hp=>nomatch hp),r1,r2,rv3,r3,w7⟩
    | true =>
     have q7':te σ6 H7 fun y H5=>N (ys++[y]) σ6 H5:=by simpa using q7
     refine Qa (Qa (thn (he G.objs.size s2 H2 fp _ s7 σ6 H7 _ I7 q7') fun y s8 ⟨y8,H8,I8,ry,q8⟩=>Qa ?_));obtain⟨r1,r2,r3⟩:=recs I8;have hl:=rv3.length;refine wpAny_list_append_plain (hsz:=by rw[Qu];omega) ⟨k,r3⟩ fun h9 ⟨k9,hl9⟩ hs9=>Qj (Qj ?_)
     have hD8:H8 s2.heap.objs.size=none:=r2 _ Qh
     have f8:=stD (pn:=[]) r2 (fun p z=>nomatch z) s2.heap.objs.size Qh
     have I8':Inv (blk X sc cl N' G.objs.size s2 H2 fp) [] σ6 H8 s8:=I8.pins_of (fun p hp=>nomatch hp)
     have I9:Inv (blk X sc cl N' G.objs.size s2 H2 fp) [] σ6 H8 { s8 with heap:=h9 }:=I8'.turned (t':=s8.toks) (it:=s2.heap.objs.size) (fun b o hb e=>hs9.extBut b o hb e) hD8 f8.2.1 f8.2.2.2.1 f8.2.2.2.2.1 f8.2.2.2.2.2;obtain⟨m',hm,w8⟩:=hN _ _ _ q8;refine⟨rfl,m',hm,i+1,ys++[y8],its++[y],k9,σ6,H8,I9,?_,r2,rv3.append (.cons ry .nil),?_,w8⟩
     ·exact T.keep _ _ _ r1 fun b hb o e=>hs9.extBut b o (fun z=>nDf (z▸hb)) e
     ·rw[hl9];simp
  ·rcases Qk.mp hb with z|z
   ·subst z;exact I2.hok.fresh (Qr _)
   ·exact(f2 b z).1
 exact codeAny_compStart_list loop (T.self _ 0 _ _ _ (T.keep _ _ _ st2 fun b _ o e=>old b o e) loop)

theorem Ys(hc:X.calm=true)(hi:PI X tg iter wi)(B:Blk X sc cl N' imp)
 (hg:∀C s H fp,PG (blk X sc cl N' C s H fp) tg g) (ht:∀C s H fp,Jjr (blk X sc cl N' C s H fp) ifs tt) (he:∀C s H fp,PE (blk X sc cl N' C s H fp) elt te)
 (hs:∀x,foldedSetIterable iter X.env x=pure x:=by intro _;rfl):PE X (.ListComp elt [⟨tg,iter,ifs,0⟩] sc pos) (Ji0 wi g tt te imp):=by
 intro pins s σ H Q I h;rw[eval_ListComp];refine wpAny_comprehension_free (use:=none) rfl hs B.clos B.kind B.names (thn (hi pins s σ H _ I h) fun v s1 h1=>thn h1 fun itv s2 h2=>?_);refine Jf4 (RR:=fun acc C=>compPost (model X.prog X.w) X.A X.xe none (EP X pins σ Q) acc C) hc B hg ht he h2 fun C D s4 H' ys m hC hn hCf hI q=>?_
 exact⟨m,hn,fun h' hsb=>⟨.ref D,H',hI h' hsb,rfl,q⟩⟩
end
end L2

namespace L2
open PySem PySem.Spec PyProof.Rows

inductive Rep (K:Qx) (H:Hp):V->PyData->Prop
 | non:Rep K H .non .none
 | bl (b:Bool):Rep K H (.bl b) (.bool b)
 | int (i:Int):Rep K H (.int i) (.int i)
 | str (x:Str):Rep K H (.str x) (.str x)
 | tup {a:Qd} {xs:List V} {ds:List PyData}:SqT K H a xs->xs.length=ds.length->(∀(i:Nat) (x:V) (d:PyData),xs[i]?=some x->ds[i]?=some d->Rep K H x d)->Rep K H (.ref a) (.tuple ds)
 | lst {a:Qd} {xs:List V} {ds:List PyData}:SqL K H a xs->xs.length=ds.length->(∀(i:Nat) (x:V) (d:PyData),xs[i]?=some x->ds[i]?=some d->Rep K H x d)->Rep K H (.ref a) (.list ds)

noncomputable def RepL(K:Qx)(H:Hp)(xs:List V)(ds:List PyData):Prop :=
 xs.length=ds.length/\∀(i:Nat) (x:V) (d:PyData),xs[i]?=some x->ds[i]?=some d->Rep K H x d

section
variable{K:Qx}{H H':Hp}
theorem RepL.nil:RepL K H [] []:=⟨rfl,fun i x d e=>by simp at e⟩
theorem RepL.cons{x:V}{d:PyData}{xs:List V}{ds:List PyData}(h:Rep K H x d)(r:RepL K H xs ds):RepL K H (x::xs) (d::ds):=by
 refine⟨by simp[r.1],fun i y e h1 h2=>?_⟩
 cases i with
 | zero=>simp at h1 h2;subst h1 h2;exact h
 | succ i=>exact r.2 i y e (by simpa using h1) (by simpa using h2)
theorem RepL.append{xs ys:List V}{ds es:List PyData}(r:RepL K H xs ds)(q:RepL K H ys es):RepL K H (xs++ys) (ds++es):=by
 refine⟨by simp[r.1,q.1],fun i x d h1 h2=>?_⟩
 by_cases hi:i<xs.length
 ·rw[QI hi] at h1;rw[QI (by rw[<- r.1];exact hi)] at h2;exact r.2 i x d h1 h2
 ·rw[QE (by omega)] at h1;rw[QE (by rw[<- r.1];omega)] at h2;rw[<- r.1] at h2;exact q.2 _ x d h1 h2
theorem RepL.snoc{xs:List V}{ds:List PyData}{x:V}{d:PyData}(r:RepL K H xs ds)(h:Rep K H x d):RepL K H (xs++[x]) (ds++[d]):=r.append (.cons h .nil)
theorem RepL.get{xs:List V}{ds:List PyData}{i:Nat}{d:PyData}(r:RepL K H xs ds)(e:ds[i]?=some d):∃x,xs[i]?=some x/\Rep K H x d:=by
 have hi:=(Qm.mp e).1
 have hx:i<xs.length:=by rw[r.1];exact hi
 exact⟨xs[i],by simp[hx],r.2 i _ d (by simp[hx]) e⟩
theorem RepL.get'{xs:List V}{ds:List PyData}{i:Nat}{x:V}(r:RepL K H xs ds)(e:xs[i]?=some x):∃d,ds[i]?=some d/\Rep K H x d:=by
 have hi:=(Qm.mp e).1
 have hx:i<ds.length:=by rw[<- r.1];exact hi
 exact⟨ds[i],by simp[hx],r.2 i x _ e (by simp[hx])⟩
theorem Rep.tupL{a:Qd}{xs:List V}{ds:List PyData}(h:SqT K H a xs)(r:RepL K H xs ds):Rep K H (.ref a) (.tuple ds):=.tup h r.1 r.2
theorem Rep.lstL{a:Qd}{xs:List V}{ds:List PyData}(h:SqL K H a xs)(r:RepL K H xs ds):Rep K H (.ref a) (.list ds):=.lst h r.1 r.2
theorem Rep.tupI{v:V}{ds:List PyData}(r:Rep K H v (.tuple ds)):∃a xs,v=.ref a/\SqT K H a xs/\RepL K H xs ds:=by
 cases r with
 | tup h l q=>exact⟨_,_,rfl,h,l,q⟩
theorem Rep.lstI{v:V}{ds:List PyData}(r:Rep K H v (.list ds)):∃a xs,v=.ref a/\SqL K H a xs/\RepL K H xs ds:=by
 cases r with
 | lst h l q=>exact⟨_,_,rfl,h,l,q⟩
theorem Rep.intI{v:V}{i:Int}(r:Rep K H v (.int i)):v=.int i:=by cases r;rfl
theorem Rep.strI{v:V}{i:Str}(r:Rep K H v (.str i)):v=.str i:=by cases r;rfl
theorem Rep.blI{v:V}{i:Bool}(r:Rep K H v (.bool i)):v=.bl i:=by cases r;rfl
theorem Same.seqT{a:Qd}{xs:List V}(e:Same H H')(h:SqT K H a xs):SqT K H' a xs:=by
 rcases h with (h|⟨o,h⟩)|h
 ·exact .inl (.inl (e _ _ h))
 ·exact .inl (.inr ⟨o,e _ _ h⟩)
 ·exact .inr h
theorem Rep.mono{v:V}{d:PyData}(e:Same H H')(r:Rep K H v d):Rep K H' v d:=by
 induction r with
 | non=>exact .non
 | bl b=>exact .bl b
 | int i=>exact .int i
 | str x=>exact .str x
 | tup h l _ ih=>exact .tup (e.seqT h) l ih
 | lst h l _ ih=>exact .lst (e.seq h) l ih
theorem RepL.mono{xs:List V}{ds:List PyData}(e:Same H H')(r:RepL K H xs ds):RepL K H' xs ds:=⟨r.1,fun i x d h1 h2=>(r.2 i x d h1 h2).mono e⟩

noncomputable def SameEx(l:Qd)(H H':Hp):Prop:=∀b o,b≠l->H b=some o->H' b=some o
theorem SameEx.upd{l:Qd}{o:HO}:SameEx l H (upd H l o):=fun b o' hb e=>by rw[Je hb];exact e
theorem Same.ex{H0:Hp}{l:Qd}(s:Same H0 H)(hn:H0 l=none)(e:SameEx l H H'):Same H0 H':=fun b o h=>e b o (Jo h hn) (s b o h)
theorem Same.new{p:Qd}{o:HO}(hn:H p=none):Same H (upd H p o):=fun b o' e=>by rw[Je (Jo e hn)];exact e
theorem SameEx.sqT{l a:Qd}{ys xs:List V}(e:SameEx l H H')(hl:H l=some (.lst ys))(h:SqT K H a xs):SqT K H' a xs:=by
 rcases h with (h|⟨o,h⟩)|h
 ·exact .inl (.inl (e _ _ (JaF h hl (by intro z;cases z)) h))
 ·exact .inl (.inr ⟨o,e _ _ (JaF h hl (by intro z;cases z)) h⟩)
 ·exact .inr h
theorem Same.ex_trans{l:Qd}{H2:Hp}(s:Same H H')(e:SameEx l H' H2):SameEx l H H2:=fun b o hb h=>e b o hb (s b o h)
inductive NoLst:PyData->Prop
 | non:NoLst .none
 | bl (b:Bool):NoLst (.bool b)
 | int (i:Int):NoLst (.int i)
 | str (x:Str):NoLst (.str x)
 | tup {ds:List PyData}:(∀d∈ds,NoLst d)->NoLst (.tuple ds)
end

theorem Vals.get':∀{xs:List V} {us:List Qc} {i:Nat} {u:Qc},Vals xs us->us[i]?=some u->∃x,xs[i]?=some x/\RelV x u
 | _,_,_,_,.nil,e=>by simp at e
 | _,_,0,_,.cons r _,e=>by simp at e;subst e;exact⟨_,rfl,r⟩
 | _,_,i+1,u,.cons _ t,e=>by obtain⟨x,h1,h2⟩:=Vals.get' (i:=i) (u:=u) t (by simpa using e);exact⟨x,by simpa using h1,h2⟩
theorem UP{h:QL}:∀(us:List Qc) (ds:List PyData),us.length=ds.length->(∀(i:Nat) (u:Qc) (d:PyData),us[i]?=some u->ds[i]?=some d->∃as,Reads h u d as)->∃as,ReadsAll h us ds as
 | [],[],_,_=>⟨_,.nil⟩
 | [],_::_,e,_=>by simp at e
 | _::_,[],e,_=>by simp at e
 | u::us,d::ds,e,f=>by
  obtain⟨as,h1⟩:=f 0 u d rfl rfl;obtain⟨bs,h2⟩:=UP us ds (by simpa using e) fun i v c q1 q2=>f (i+1) v c (by simpa using q1) (by simpa using q2)
  exact⟨_,.cons h1 h2⟩
section
variable{X:Cx}{pins:List (Qd×Obj)}{σ:St}{H:Hp}{s:Qe}
theorem Rep.reads{v:V}{d:PyData}(I:Inv X pins σ H s)(r:Rep X.K H v d):∀u,RelV v u->∃as,Reads s.heap u d as:=by
 induction r with
 | non=>intro u r;cases r;exact⟨_,.none⟩
 | bl b=>intro u r;cases r;exact⟨_,.bool b⟩
 | int i=>intro u r;obtain⟨t,rfl⟩:=r;exact⟨_,.int i t⟩
 | str x=>intro u r;obtain⟨t,rfl⟩:=r;exact⟨_,.str x t⟩
 | tup h l _ ih =>
  intro u r;cases r;obtain⟨its,rv,p,hz⟩:=I.tuple h;obtain⟨o,ho,hc,n,hd⟩:=p
  obtain⟨as,q⟩:=UP (h:=s.heap) its _ (rv.length.symm.trans l) fun i u d h1 h2=>by obtain⟨x,e1,e2⟩:=rv.get' h1;exact ih i x d e1 h2 u e2
  exact⟨_,.tuple ho hc hd q⟩
 | lst h l _ ih =>
  intro u r;cases r;obtain⟨its,rv,p,hz⟩:=I.list h;obtain⟨o,ho,hc,n,hd⟩:=p.isList
  obtain⟨as,q⟩:=UP (h:=s.heap) its _ (rv.length.symm.trans l) fun i u d h1 h2=>by obtain⟨x,e1,e2⟩:=rv.get' h1;exact ih i x d e1 h2 u e2
  exact⟨_,.list ho hc hd q⟩
end

section
variable{X:Cx}
noncomputable def Jfm(K:Qx):R2:=fun x y H Q=>rI0 (fun i j=>.int (i+j)) x y H Q\/(∃i j,x=.str i/\y=.str j/\i.length+j.length<=Qt/\Q (.str (i++j)) H)\/JpN x y H Q
theorem JkG:OpR X (binaryOp .Add) (Jfm X.K):=op_add.or (op_add_str.or Jny)
noncomputable def JpO(K:Qx):R2:=fun x y H Q=>∃d e,Rep K H x d/\Rep K H y e/\d.canLay0=true/\e.canLay0=true/\min d.depth e.depth<=60/\Q (.bl (LV d e)) H
noncomputable def JpS(K:Qx):R2:=fun x y H Q=>∃d e,Rep K H x d/\Rep K H y e/\d.canLay0=true/\e.canLay0=true/\min d.depth e.depth<=60/\Q (.bl (!PyData.eqv d e)) H
theorem JnA(hu:X.A.units+64<cLine):OpR X (compareOp .Eq) (JpO X.K):=by intro pins s σ H x y v u Q I rx ry h;obtain⟨d,e,h1,h2,c1,c2,hd,q⟩:=h;obtain⟨as,r1⟩:=h1.reads I v rx;obtain⟨bs,r2⟩:=h2.reads I u ry;exact SeqAt.compareEq_reads r1 r2 c1 c2 (by omega) ⟨.bl _,H,I,rfl,q⟩
theorem JnD(hu:X.A.units+64<cLine):OpR X (compareOp .NotEq) (JpS X.K):=by intro pins s σ H x y v u Q I rx ry h;obtain⟨d,e,h1,h2,c1,c2,hd,q⟩:=h;obtain⟨as,r1⟩:=h1.reads I v rx;obtain⟨bs,r2⟩:=h2.reads I u ry;exact SeqAt.compareNe_reads r1 r2 c1 c2 (by omega) ⟨.bl _,H,I,rfl,q⟩
noncomputable def Jix(K:Qx):R2:=fun x y H Q=>rEq x y H Q\/JpO K x y H Q
noncomputable def JiA(K:Qx):R2:=fun x y H Q=>rNe x y H Q\/JpS K x y H Q
theorem Jnz(hu:X.A.units+64<cLine):OpR X (compareOp .Eq) (Jix X.K):=op_eq.or (JnA hu)
theorem JnC(hu:X.A.units+64<cLine):OpR X (compareOp .NotEq) (JiA X.K):=op_ne.or (JnD hu)
noncomputable def Jd3(K:Qx):List V->Hp->VK->Prop:=fun xs H Q=>∃x n,xs=[x]/\Jo0 K x H n/\Q (.int n) H
theorem JfW:CallR X (.builtin "len") (Jd3 X.K):=Jhg
noncomputable def UO(K:Qx):List V->Hp->VK->Prop:=fun xs H Q=>∃p ys,xs=[.ref p]/\((SqL K H p ys/\∀l,H l=none->Q (.ref l) (upd H l (.tup ys)))\/(SqT K H p ys/\Q (.ref p) H))
theorem Jb6:CallR X (.type "tuple") (UO X.K):=ZV
inductive TyS (K:Qx) (H:Hp):V->Qc->Prop where
 | of {x:V} {t:Qc} (h:TyOf K H x t):TyS K H x t
 | sqT {a:Qd} {xs:List V} (h:SqT K H a xs):TyS K H (.ref a) (.type "tuple")
 | sqL {a:Qd} {xs:List V} (h:SqL K H a xs):TyS K H (.ref a) (.type "list")
theorem JdJ{pins:List (Qd×Obj)}{σ:St}{H:Hp}{s:Qe}{A:QC}{E:Qc->Qe->Prop}{Q:Qc->Qe->Prop}{c:Qc}{b:Bool}{x:V}{u t:Qc}(I:Inv X pins σ H s)(rx:RelV x u)(ty:TyS X.K H x t)(e:kitOne X.K t c=some b)(h:∀tk,Q (.bool b) { s with toks:=tk }) :
 wpAny (model X.prog X.w) A (call (.builtin "isinstance") [u,c]) Q E s:=by
 cases ty with
 | of z=>exact Jgp I rx z e h
 | @sqT a xs z=>cases (show u=Value.ref a from rx);obtain⟨its,_,p,_⟩:=I.tuple z;obtain⟨o,h1,h2,_⟩:=p;exact kia_one RT I.kIn ⟨o,h1,h2⟩ e (fun z=>nomatch z) h
 | @sqL a xs z=>cases (show u=Value.ref a from rx);obtain⟨its,_,p,_⟩:=I.list z;obtain⟨o,h1,h2,_⟩:=p.isList;exact kia_one kitx_list I.kIn ⟨o,h1,h2⟩ e (fun z=>nomatch z) h
noncomputable def JkX(K:Qx):List V->Hp->VK->Prop:=fun vs H Q=>∃x c t tc b,vs=[x,c]/\TyS K H x t/\(∀u,RelV c u->u=tc)/\kitOne K t tc=some b/\Q (.bl b) H
theorem Jhf:CallR X (.builtin "isinstance") (JkX X.K):=by intro pins s σ H xs us Q I r h;obtain⟨x,c,t,tc,b,rfl,ty,hc,e,q⟩:=h;obtain⟨u,w',rfl,r1,r2⟩:=Jmp r;cases hc w' r2;exact JdJ I r1 ty e fun tk=>⟨.bl b,H,I.tok tk,rfl,q⟩
noncomputable def JnU:R2:=fun x y H Q=>y=.non/\Q (.bl (decide (x=.non))) H
noncomputable def JiB:R2:=fun x y H Q=>y=.non/\Q (.bl (!decide (x=.non))) H
theorem JkI:OpR X (compareOp .Is) JnU:=JnB
theorem JcO:OpR X (compareOp .IsNot) JiB:=JkJ
noncomputable def JqX:List V->Hp->VK->Prop:=fun xs H Q=>∃i j,xs=[.int i,.int j]/\Q (.int (if j>i then j else i)) H
noncomputable def JnV:List V->Hp->VK->Prop:=fun xs H Q=>∃i j,xs=[.int i,.int j]/\Q (.int (if j<i then j else i)) H
theorem VW(hc:X.calm=true):CallR X (.builtin "min") JnV:=JfX hc
noncomputable def JlL(K:Qx)(ta:TE):TT:=fun σ H Q=>ta σ H fun x H1=>∃k,JfP K x H1 k/\Q k H1
theorem JnR{a:Q7}{ta:TE}(ha:PE X a ta)(he:∀whole,isTrue a X.env whole=(do let v <- whole;standAt a.pos;holding [v] (truthy v))):PT X a (JlL X.K ta):=Jiq ha he
noncomputable def GV(mg:Str->Option Qc)(x:Str)(v:V):Prop:=∃u,mg x=some u/\RelV v u
theorem Jig{x:Str}{v:V}{pos:Pos}(hg:Gl X x)(hm:GV X.mg x v)(hd:(x == ("__debug__":Str))=false:=by decide):PE X (.Name x pos) (tC v):=by obtain⟨u,h1,h2⟩:=hm;exact JkL hg h1 h2 hd
end
theorem Y6:bootBuiltins "len"=some (.builtin "len"):=by decide +kernel
theorem YG:bootBuiltins "isinstance"=some (.builtin "isinstance"):=by decide +kernel
theorem JaW:bootBuiltins "min"=some (.builtin "min"):=by decide +kernel
theorem WU:bootBuiltins "sum"=some (.builtin "sum"):=by decide +kernel
theorem Jmx:bootBuiltins "any"=some (.builtin "any"):=by decide +kernel
theorem VV:bootBuiltins "sorted"=some (.builtin "sorted"):=by decide +kernel
theorem Jmy:bootBuiltins "int"=some (.type "int"):=by decide +kernel
theorem Jjz:bootBuiltins "bool"=some (.type "bool"):=by decide +kernel
theorem Jeu:bootBuiltins "list"=some (.type "list"):=by decide +kernel
theorem WV:bootBuiltins "tuple"=some (.type "tuple"):=by decide +kernel
theorem Jmz:bootBuiltins "zip"=some (.type "zip"):=by decide +kernel
theorem JaV:bootBuiltins "enumerate"=some (.type "enumerate"):=by decide +kernel
structure Cal (P:Qw) (w:QF) (K:Qx) (mg:Str->Option Qc) (base:QL) (x:Str) (k:Nat) (ps:List Str) (sp:Sp):Prop where
 ex:∃(f:Qd) (fd:QR),FnOk P w K mg base CX0 k f fd ps sp/\mg x=some (.ref f)/\keepIn K (.ref f)=true/\Binds K fd ps []
structure CalM (P:Qw) (w:QF) (K:Qx) (mg:Str->Option Qc) (base:QL) (x:Str) (C:Qd) (k:Nat) (ps:List Str) (sp:Sp):Prop where
 ex:∃(f:Qd) (fd:QR),Mk K C f/\FnOk P w K mg base CX0 k f fd ps sp/\mg x=some (.ref C)/\Binds K fd ps []
section
variable{X:Cx}{k:Nat}{C:Qd}{ps:List Str}{sp:Sp}{x:Str}{p pos:Pos}{e:Q7}{es:List Q7}{t:TA}
theorem Jl(c:Cal X.prog X.w X.K X.mg X.base x k ps sp)(hr:Room k X.A)(hg:Gl X x)(ha:PA X (e::es) t)(hdb:(x == ("__debug__":Str))=false:=by decide)
 (he:starEach (e::es) X.env=(false,eval e X.env)::starEach es X.env:=by rfl) (hpl:(backTo pos (starEach es X.env)).any (·.1)=false:=by rfl):PE X (.Call (.Name x p) (e::es) [] pos) (JfD sp [] E0 t):=by
 obtain⟨f,fd,F,h1,h2,h3⟩:=c.ex;exact JkK F hr hg h1 h2 h3 .nil Jme ha hdb he hpl
theorem VF(c:CalM X.prog X.w X.K X.mg X.base x C k ps sp)(hr:Room (k+1) X.A)(hg:Gl X x)(ha:PA X (e::es) t)(hdb:(x == ("__debug__":Str))=false:=by decide)
 (he:starEach (e::es) X.env=(false,eval e X.env)::starEach es X.env:=by rfl) (hpl:(backTo pos (starEach es X.env)).any (·.1)=false:=by rfl):PE X (.Call (.Name x p) (e::es) [] pos) (JfG C sp [] E0 t):=by
 obtain⟨f,fd,M,F,h1,h3⟩:=c.ex;exact JkM M F hr hg h1 h3 .nil Jme ha hdb he hpl
end

noncomputable def JdF(K:Qx)(tl:TE):TI:=fun σ H R=>Jl5 K tl σ H R\/Jpp K tl σ H R
theorem JnM{X:Cx}{tg l:Q7}{tl:TE}(hl:PE X l tl):PI X tg l (JdF X.K tl):=by
 intro pins s σ H R I h;rcases h with h|h
 ·exact JkO hl pins s σ H R I h
 ·exact JnN hl pins s σ H R I h

theorem JfS{X:Cx}{sc:Lu}{N':List Str}{imp:List (Option Nat)}(h1:sc.kind=.function)
 (h2:(sc.names.all (fun y=>y.2 != .free && y.2 != .cell && (y.2 != .local || sc.names.lookup y.1 == some .local)) && imp.all (·.isNone) && (imp.length == N'.length))=true):Blk X sc [] N' imp:=by
 simp only[QX,Lo] at h2;obtain⟨⟨h2,h3⟩,h4⟩:=h2
 have nofree:∀y∈sc.names,y.2≠.free:=fun y hy=>by
  have:=(h2 y hy).1.1
  simpa using this
 have nocell:∀y∈sc.names,y.2≠.cell:=fun y hy=>by
  have:=(h2 y hy).1.2
  simpa using this
 refine⟨closureFor_none nofree,h1,nocell,fun y hy hl=>?_,(fun p hp=>nomatch hp),fun y hy hk=>?_,by simpa using h4,fun p hp k e=>?_⟩
 ·have:=(h2 y hy).2;rw[hl] at this
  simpa using this
 ·have:(relabel sc X.env).names=sc.names:=by
   unfold relabel;refine map_eq_self fun x hx=>?_
   obtain⟨n,q⟩:=x;have:(q == NameKind.free)=false:=by simpa using nofree _ hx
   simp[this]
  rw[this] at hy;rcases hk with z|z
  ·exact absurd z (nocell y hy)
  ·exact absurd z (nofree y hy)
 ·have:=h3 p.1 (Ku hp).1;rw[e] at this;cases this

section
variable{K:Qx}{σ:St}{H H1:Hp}{Q:VK}{i:Nat}{v:V}{ta tb te:TE}{r:R2}{D:Ends}{t u:TS}{c:TT}
theorem Jom(h:σ[i]?=some (some v))(q:Q v H):Y2 i σ H Q:=⟨v,h,q⟩
theorem JqY(q:Q v H):tC v σ H Q:=q
theorem Jp1(q:ta σ H fun x H1=>tb σ H1 fun y H2=>r x y H2 Q):tOp r ta tb σ H Q:=q
theorem Jp4{r:V->Hp->VK->Prop}(q:ta σ H fun x H1=>r x H1 Q):tUn r ta σ H Q:=q
theorem JpZ{g:Int->Int->V}{a b:Int}(q:Q (g a b) H):rI0 g (.int a) (.int b) H Q:=⟨a,b,rfl,rfl,q⟩
theorem JqZ{C:Int->Int->Prop}{g:Int->Int->V}{a b:Int}(h:C a b)(q:Q (g a b) H):rI C g (.int a) (.int b) H Q:=⟨a,b,rfl,rfl,h,q⟩
theorem Jq0{g:Int->V}{a:Int}(q:Q (g a) H):rU g (.int a) H Q:=⟨a,rfl,q⟩
theorem JkY{a b:Int}(q:Q (.int (a+b)) H):Jfm K (.int a) (.int b) H Q:=.inl ⟨a,b,rfl,rfl,q⟩
theorem Jn1{a b:Int}(q:Q (.bl (decide (a=b))) H):Jix K (.int a) (.int b) H Q:=.inl ⟨rfl,by
 have:decide (V.int a=V.int b)=decide (a=b):=by simp
 rw[this];exact q⟩
theorem Jod{a b:Int}(q:Q (.bl (!decide (a=b))) H):JiA K (.int a) (.int b) H Q:=.inl ⟨rfl,by
 have:decide (V.int a=V.int b)=decide (a=b):=by simp
 rw[this];exact q⟩
theorem Jn2{a b:Str}(q:Q (.bl (decide (a=b))) H):Jix K (.str a) (.str b) H Q:=.inl ⟨rfl,by
 have:decide (V.str a=V.str b)=decide (a=b):=by simp
 rw[this];exact q⟩
theorem Joe{a b:Str}(q:Q (.bl (!decide (a=b))) H):JiA K (.str a) (.str b) H Q:=.inl ⟨rfl,by
 have:decide (V.str a=V.str b)=decide (a=b):=by simp
 rw[this];exact q⟩
theorem Jn6{x:V}(q:Q (.bl (decide (x=.non))) H):JnU x .non H Q:=⟨rfl,q⟩
theorem Jk8{x:V}(q:Q (.bl (!decide (x=.non))) H):JiB x .non H Q:=⟨rfl,q⟩
theorem Joc{a b:Int}(q:Q (.int (max a b)) H):JqX [.int a,.int b] H Q:=⟨a,b,rfl,by
 have e:(if b>a then b else a)=max a b:=by rw[Int.max_def];split <;> split <;> omega
 rw[e];exact q⟩
theorem JiH{a b:Int}(q:Q (.int (min a b)) H):JnV [.int a,.int b] H Q:=⟨a,b,rfl,by
 have e:(if b<a then b else a)=min a b:=by rw[Int.min_def];split <;> split <;> omega
 rw[e];exact q⟩
theorem Jlc{Qb:Bool->Hp->Prop}(q:ta σ H fun x H1=>∃k,JfP K x H1 k/\Qb k H1):JlL K ta σ H Qb:=q
theorem Jn3{f:Str}(q:ta σ H fun x H1=>∃a C dx fs v,x=.ref a/\H1 a=some (.ins C dx fs)/\Cls K C/\NoAttr K C f/\fs.lookup f=some v/\Q v H1):JlF K ta f σ H Q:=q
theorem Jlb{Qb:Bool->Hp->Prop}(q:te σ H fun x H'=>∃k,x=.bl k/\Qb k H'):Ji6 te σ H Qb:=q
theorem Jp3{Qb:Bool->Hp->Prop}(q:te σ H fun x H'=>∃k,x=.bl k/\Qb k H'):tB te σ H Qb:=q
theorem JnZ{c':TT}{Qb:Bool->Hp->Prop}(q:c σ H fun b H1=>if b=true then c' σ H1 Qb else Qb false H1):JoC c c' σ H Qb:=q
theorem Jp2{c':TT}{Qb:Bool->Hp->Prop}(q:c σ H fun b H1=>if b=true then Qb true H1 else c' σ H1 Qb):tOr c c' σ H Qb:=q
theorem Jog{Qb:Bool->Hp->Prop}(q:c σ H fun b H1=>Qb (!b) H1):JoD c σ H Qb:=q
theorem Jk9(q:te σ H fun x H1=>∃b,x=.bl b/\Q (.bl (!b)) H1):Jqr te σ H Q:=q
theorem JkZ(q:ta σ H fun x H1=>∃b,x=.bl b/\if b=true then tb σ H1 Q else Q (.bl false) H1):JiZ ta tb σ H Q:=q
theorem Joh(q:ta σ H fun x H1=>∃b,x=.bl b/\if b=true then Q (.bl true) H1 else tb σ H1 Q):Jq8 ta tb σ H Q:=q
theorem Jn4(q:c σ H fun b H1=>if b=true then ta σ H1 Q else tb σ H1 Q):tIf c ta tb σ H Q:=q
theorem Jok(q:t { D with nx:=u D } σ H):JlK t u D σ H:=q
theorem Jn0{g:TG}(q:te σ H fun x H1=>g x σ H1 D.nx):JgQ te g D σ H:=q
theorem JiG{Qs:St->Hp->Prop}(q:Qs (σ.set i (some v)) H):U7 i v σ H Qs:=q
theorem Jn5(q:c σ H fun b H1=>if b=true then t D σ H1 else u D σ H1):JlH c t u D σ H:=q
theorem Joi(q:te σ H D.rt):JlJ te D σ H:=q
theorem Jk1(q:te σ H fun _ H1=>D.nx σ H1):Wr te D σ H:=q
theorem Jk7(q:D.nx σ H):JfH D σ H:=q
theorem Jk0{tr:TA}{Ql:List V->Hp->Prop}(q:ta σ H fun x H1=>tr σ H1 fun xs H2=>Ql (x::xs) H2):Y0 ta tr σ H Ql:=q
theorem Jof{Ql:List V->Hp->Prop}(q:Ql [] H):Vl σ H Ql:=q
theorem JpY{r:List V->Hp->VK->Prop}{ts:TA}(q:ts σ H fun vs H1=>r vs H1 Q):tCB r ts σ H Q:=q
theorem Jfp{sp:Sp}{E:XK}{ts:TA}(q:ts σ H fun vs H1=>sp vs H1 Q E):JfD sp [] E ts σ H Q:=by
 have e:(fun vs H1=>sp (vs++[]) H1 Q E)=fun vs H1=>sp vs H1 Q E:=by funext vs H1;rw[GG]
 show ts σ H fun vs H1=>sp (vs++[]) H1 Q E
 rw[e];exact q
noncomputable def JgY(xs:List V)(H:Hp)(Q:VK):Prop:=xs.length<=Qt/\∀p,H p=none->Q (.ref p) (upd H p (.tup xs))
noncomputable def Jms(xs:List V)(H:Hp)(Q:VK):Prop:=xs.length<=Qt/\∀p,H p=none->Q (.ref p) (upd H p (.lst xs))
theorem Jol{ts:TA}(q:ts σ H fun xs H1=>JgY xs H1 Q):JoE ts σ H Q:=q
theorem Job{ts:TA}(q:ts σ H fun xs H1=>Jms xs H1 Q):JlI ts σ H Q:=q
theorem Jmv{xs:List V}(hl:xs.length<=Qt)(q:∀p H',H p=none->Same H H'->H' p=some (.tup xs)->Q (.ref p) H'):JgY xs H Q:=⟨hl,fun p hp=>q p _ hp (.new hp) Jk⟩
theorem Jk4{a:Qd}{xs:List V}(h:SqL K H a xs)(q:Q (.int xs.length) H):Jd3 K [.ref a] H Q:=⟨_,_,rfl,.inl ⟨xs,h,rfl⟩,q⟩
theorem Jk6{a:Qd}{xs:List V}(h:SqT K H a xs)(q:Q (.int xs.length) H):Jd3 K [.ref a] H Q:=⟨_,_,rfl,.inr ⟨xs,h,rfl⟩,q⟩
theorem Jk5{x:Str}(h:x.length<=Qt)(q:Q (.int x.length) H):Jd3 K [.str x] H Q:=⟨_,_,rfl,⟨h,rfl⟩,q⟩
theorem JgI{a:Qd}{xs:List V}(h:SqL K H a xs)(q:∀p H',H p=none->Same H H'->H' p=some (.tup xs)->Q (.ref p) H'):UO K [.ref a] H Q:=⟨a,xs,rfl,.inl ⟨h,fun p hp=>q p _ hp (.new hp) Jk⟩⟩
theorem Jn8{a:Qd}{xs:List V}{j:Int}{v:V}(h:SqL K H a xs)(e:atI xs j=some v)(q:Q v H):rIx K (.ref a) (.int j) H Q:=.inl ⟨a,xs,j,v,rfl,rfl,h,e,q⟩
theorem Joa{a:Qd}{xs:List V}{j:Int}{v:V}(h:SqT K H a xs)(e:atI xs j=some v)(q:Q v H):rIx K (.ref a) (.int j) H Q:=.inr (.inl ⟨a,xs,j,v,rfl,rfl,h,e,q⟩)
theorem Jn9{z:Str}{j:Int}{c:Nat}(hz:z.length<=Qt)(e:atI z.cps.toList j=some c)(q:Q (.str ⟨#[c]⟩) H):rIx K (.str z) (.int j) H Q:=.inr (.inr ⟨z,j,c,rfl,rfl,hz,e,q⟩)
theorem Jn7{x:V}{n:String}{t:Qc}{b:Bool}(ty:TyS K H x t)(e:kitOne K t (.type n)=some b)(q:Q (.bl b) H):JkX K [x,.ty n] H Q:=⟨x,_,t,_,b,rfl,ty,fun _ r=>r,e,q⟩
theorem Jp0{T:String}{rm:V->List V->Hp->VK->Prop}{to:TE}{ts:TA}(q:to σ H fun x H1=>tyV K T x H1/\ts σ H1 fun xs H2=>rm x xs H2 Q):tBM K T rm to ts σ H Q:=q
theorem Jk3{to ti:TE}{ts:Jo4}{Qs:St->Hp->Prop}(q:to σ H fun o H1=>ti σ H1 fun i H2=>ts o i v H2 fun H3=>Qs σ H3):JqJ to ti ts v σ H Qs:=q
theorem Jfq{a:Qd}{xs:List V}{n:Nat}{ts:TGs}{Qs:St->Hp->Prop}(h:SqT K H a xs)(hl:xs.length=n)(q:ts xs σ H Qs):Jgd K n ts (.ref a) σ H Qs:=⟨a,xs,rfl,h,hl,q⟩
theorem JiF{t:TG}{u:TGs}{x:V}{xs:List V}{Qs:St->Hp->Prop}(q:t x σ H fun σ' H'=>u xs σ' H' Qs):JeT t u (x::xs) σ H Qs:=⟨x,xs,rfl,q⟩
theorem Jk2{Qs:St->Hp->Prop}(q:Qs σ H):Jkc [] σ H Qs:=⟨rfl,q⟩
theorem Jla{f:Str}{tv:TE}(q:tv σ H fun y H1=>ta σ H1 fun x H2=>∃a C dx fs,x=.ref a/\H2 a=some (.ins C dx fs)/\Cls K C/\NoAttr K C f/\fs.length<1000/\D.nx σ (upd H2 a (.ins C dx (putF f y fs)))):Jop K ta tv f D σ H:=q
theorem JiE{r':R2}{tc:TE}(q:ta σ H fun x H1=>tb σ H1 fun y H2=>r x y H2 fun z H3=>∃k,z=.bl k/\(if k=true then tc σ H3 fun w' H4=>r' y w' H4 Q else Q (.bl false) H3)):Jef r r' ta tb tc σ H Q:=q
theorem Jon{Qb:Bool->Hp->Prop}(q:Qb true H):JoF σ H Qb:=q
theorem ifd{c A B:Prop}[Decidable c](h1:c->A)(h2:¬c->B):if decide c=true then A else B:=by
 by_cases h:c
 ·rw[if_pos (decide_eq_true h)];exact h1 h
 ·rw[if_neg (by simpa using h)];exact h2 h
theorem ifT{b:Bool}{A B:Prop}(e:b=true)(h:A):if b=true then A else B:=by rw[if_pos e];exact h
theorem ifF{b:Bool}{A B:Prop}(e:b=false)(h:B):if b=true then A else B:=by rw[if_neg (by rw[e];exact QD)];exact h

theorem JgH{tl:TE}{g:TG}{a:Qd}{xs:List V}(hx:∀R:VK,R (.ref a) H1->tl σ H R)(hq:SqL K H1 a xs\/SqT K H1 a xs)(Pv:Nat->St->Hp->Prop)(h0:Pv 0 σ H1)(hS:∀i σ' H',Pv i σ' H'->Same H1 H')
 (hs:∀i x σ' H',xs[i]?=some x->Pv i σ' H'->g x σ' H' fun σ2 H2=>t { D with nx:=Pv (i+1),ct:=Pv (i+1),bk:=D.nx } σ2 H2) (hd:∀σ' H',Pv xs.length σ' H'->D.nx σ' H'):JlG (JdF K tl) g t D σ H:=by
 rcases hq with hq|hq
 ·exact .inl (hx _ ⟨a,rfl,⟨xs,hq⟩,JhB (xs:=xs) Pv h0 (fun i σ' H' _ p=>(hS i σ' H' p).seq hq) hs hd⟩)
 ·exact .inr (hx _ ⟨a,rfl,⟨xs,hq⟩,Jkb (xs:=xs) Pv h0 (fun i σ' H' _ p=>(hS i σ' H' p).seqT hq) hs hd⟩)
theorem JeC{J:It}{g:TG}{tt:TT}{imp:List (Option Nat)}{n:Nat}(hn:n<=Qt)(Pv:Nat->List V->St->Hp->Prop)(h0:Pv 0 [] (Zc imp σ) H1)(hy:∀i ys σ' H',Pv i ys σ' H'->ys.length<=i)
 (hstop:∀ys σ' H',Pv n ys σ' H'->J.stop n H') (hgo:∀i ys σ' H',i<n->Pv i ys σ' H'->J.go i H')
 (hs:∀i ys x σ' H' H2,i<n->J.yld i H' x H2->Pv i ys σ' H'->g x σ' H2 fun σ2 H3=>tt σ2 H3 fun b H4=>if b=true then te σ2 H4 fun y H5=>Pv (i+1) (ys++[y]) σ2 H5 else Pv (i+1) ys σ2 H4)
 (hd:∀ys σ' H',Pv n ys σ' H'->∀p H2,H' p=none->Same H' H2->H2 p=some (.lst ys)->Q (.ref p) H2) :
 ∃W:Nat->Nat->List V->St->Hp->Prop,(∃m,W 0 m [] (Zc imp σ) H1)/\∀i m ys σ' H',W i m ys σ' H' ->
  (J.stop i H'/\ys.length<=Qt/\∀D,H' D=none->Q (.ref D) (upd H' D (.lst ys))) ∨
  (J.go i H'/\ys.length<Qt/\∃N:List V->St->Hp->Prop,(∀ys' σ2 H2,N ys' σ2 H2->∃m',m'<m/\W (i+1) m' ys' σ2 H2) ∧
   ∀x H2,J.yld i H' x H2->g x σ' H2 fun σ2 H3=>tt σ2 H3 fun b H4=>if b=true then te σ2 H4 fun y H5=>N (ys++[y]) σ2 H5 else N ys σ2 H4):=by
 refine⟨fun i m ys σ' H'=>m=n-i/\i<=n/\Pv i ys σ' H',⟨n,by simp,GA _,h0⟩,?_⟩;rintro i m ys σ' H' ⟨rfl,hi,p⟩;have hl:=hy i ys σ' H' p
 by_cases hlt:i<n
 ·exact .inr ⟨hgo i ys σ' H' hlt p,by omega,fun ys' σ2 H2=>Pv (i+1) ys' σ2 H2,fun ys' σ2 H2 p'=>⟨n-(i+1),by omega,rfl,hlt,p'⟩,fun x H2 y=>hs i ys x σ' H' H2 hlt y p⟩
 ·have e:i=n:=by omega
  subst e;exact .inl ⟨hstop ys σ' H' p,by omega,fun q hq=>hd ys σ' H' p q _ hq (.new hq) Jk⟩
theorem Jd4{tl:TE}{g:TG}{tt:TT}{imp:List (Option Nat)}{a:Qd}{xs:List V}(hx:∀R:VK,R (.ref a) H1->tl σ H R)(hq:SqL K H1 a xs\/SqT K H1 a xs)(hn:xs.length<=Qt)(Pv:Nat->List V->St->Hp->Prop)
 (h0:Pv 0 [] (Zc imp σ) H1) (hy:∀i ys σ' H',Pv i ys σ' H'->ys.length<=i) (hS:∀i ys σ' H',Pv i ys σ' H'->Same H1 H')
 (hs:∀i ys x σ' H',xs[i]?=some x->Pv i ys σ' H'->g x σ' H' fun σ2 H3=>tt σ2 H3 fun b H4=>if b=true then te σ2 H4 fun y H5=>Pv (i+1) (ys++[y]) σ2 H5 else Pv (i+1) ys σ2 H4)
 (hd:∀ys σ' H',Pv xs.length ys σ' H'->∀p H2,H' p=none->Same H' H2->H2 p=some (.lst ys)->Q (.ref p) H2):Ji0 (JdF K tl) g tt te imp σ H Q:=by
 rcases hq with hq|hq
 ·refine .inl (hx _ ⟨a,rfl,⟨xs,hq⟩,JeC (n:=xs.length) hn Pv h0 hy (fun ys σ' H' p=>⟨xs,(hS _ _ _ _ p).seq hq,Qr _⟩) (fun i ys σ' H' hi p=>⟨xs,xs[i],(hS _ _ _ _ p).seq hq,by simp[hi]⟩) (fun i ys x σ' H' H2 hi y p=>?_) hd⟩);obtain⟨e,y⟩:=y;subst e;exact hs i ys x σ' _ (y xs ((hS _ _ _ _ p).seq hq)) p
 ·refine .inr (hx _ ⟨a,rfl,⟨xs,hq⟩,JeC (n:=xs.length) hn Pv h0 hy (fun ys σ' H' p=>⟨xs,(hS _ _ _ _ p).seqT hq,Qr _⟩) (fun i ys σ' H' hi p=>⟨xs,xs[i],(hS _ _ _ _ p).seqT hq,by simp[hi]⟩) (fun i ys x σ' H' H2 hi y p=>?_) hd⟩);obtain⟨e,y⟩:=y;subst e;exact hs i ys x σ' _ (y xs ((hS _ _ _ _ p).seqT hq)) p
end
end L2
namespace L2
open PySem PySem.Spec PyProof.Rows
section
variable{X:Cx}{K:Qx}{pos:Pos}
theorem Jff(hK:X.K=K):OpR X (binaryOp .Add) (Jfm K):=hK▸JkG
theorem JdY(hK:X.K=K)(hu:X.A.units+64<cLine):OpR X (compareOp .Eq) (Jix K):=hK▸Jnz hu
theorem V9(hK:X.K=K)(hu:X.A.units+64<cLine):OpR X (compareOp .NotEq) (JiA K):=hK▸JnC hu
theorem J6(hK:X.K=K):CallR X (.builtin "len") (Jd3 K):=hK▸JfW
theorem Wi(hK:X.K=K):CallR X (.type "tuple") (UO K):=hK▸Jb6
theorem UX(hK:X.K=K):CallR X (.builtin "isinstance") (JkX K):=hK▸Jhf
theorem Jkm(hK:X.K=K):IxR X (rIx K):=hK▸JhR
theorem Yk{e:Q7}{ta:TE}{f:Str}(hK:X.K=K)(he:PE X e ta)(hb:attributeBase e f X.env (eval e X.env)=eval e X.env):PE X (.Attribute e f pos) (JlF K ta f):=hK▸JnI he hb
theorem JkU{o value:Q7}{f:Str}{pos':Pos}{ta tv:TE}(hK:X.K=K)(ha:PE X o ta)(hv:PE X value tv)(hs:swapsWith value (some (.Attribute o f pos')) pos.line X.env=pure false):PS X (.Assign [.Attribute o f pos'] value pos) (Jop K ta tv f):=hK▸JnP ha hv hs
theorem JkP{tg l:Q7}{tl:TE}(hK:X.K=K)(hl:PE X l tl):PI X tg l (JdF K tl):=hK▸JnM hl
theorem JG{es:List Q7}{k:Nat}{t:TGs}{n:Nat}(hK:X.K=K)(hc:X.calm=true)(h:PGs X es t)(hn:(assignEach es X.env).length=n)(hst:(assignEach es X.env).findIdx? (·.1)=none):PG X (.Tuple es k pos) (Jgd K n t):=hK▸JnL hc h hn hst
theorem YH{a:Q7}{ta:TE}(hK:X.K=K)(ha:PE X a ta)(he:∀whole,isTrue a X.env whole=(do let v <- whole;standAt a.pos;holding [v] (truthy v))):PT X a (JlL K ta):=hK▸JnR ha he
theorem YJ{o e:Q7}{es:List Q7}{to:TE}{t:TA}{name:Str}{apos cpos:Pos}{T id:String}{r:V->List V->Hp->VK->Prop}(hK:X.K=K)(pa:PlainAttrs T)(slot:Slot T name id)(hty:typeOf (.builtin id)=pure (.type "method_descriptor"))(hm:MtR X id r)(ho:PE X o to)(ha:PA X (e::es) t)
 (hbase:attributeBase o name X.env (eval o X.env)=eval o X.env:=by rfl)
 (hfew:((backTo cpos (starEach (e::es) X.env)).all (fun x=>!x.1) && (backToKw cpos (keywordEach [] X.env)).all (fun x=>x.1.isSome)
  && decide ((e::es).length+([]:List MG).length+(if ([]:List MG).isEmpty then 0 else 1)<30))=true:=by rfl)
 (hline:(apos.endLine == cpos.line)=true:=by rfl) (hs:starEach (e::es) X.env=(false,eval e X.env)::starEach es X.env:=by rfl) (hplain:(backTo cpos (starEach es X.env)).any (·.1)=false:=by rfl) :
 PE X (.Call (.Attribute o name apos) (e::es) [] cpos) (tBM K T r to t):=hK▸JpL pa slot hty hm ho ha hbase hfew hline hs hplain
theorem Jfg{o:Q7}{to:TE}{name:Str}{apos cpos:Pos}{T id:String}{r:V->List V->Hp->VK->Prop}(hK:X.K=K)(pa:PlainAttrs T)(slot:Slot T name id)(hty:typeOf (.builtin id)=pure (.type "method_descriptor"))(hm:MtR X id r)(ho:PE X o to)
 (hbase:attributeBase o name X.env (eval o X.env)=eval o X.env:=by rfl) (hline:(apos.endLine == cpos.line)=true:=by rfl):PE X (.Call (.Attribute o name apos) [] [] cpos) (JlE K T r to):=hK▸JnH pa slot hty hm ho hbase hline
end
end L2

namespace LR
open PySem L2

theorem sz2{a b:V}:[a,b].length<=Qt:=by show 2<=Qt;decide
theorem JoL(K:Qx)(H:Hp)(k:Bool):JfP K (.bl k) H k:=rfl
noncomputable abbrev Pr:=Int×Int
noncomputable def prD(p:Pr):PyData:=.tuple [.int p.1,.int p.2]
section
variable{K:Qx}{H H':Hp}
theorem JkS{v:V}{p:Pr}(r:Rep K H v (prD p)):∃a,v=.ref a/\SqT K H a [.int p.1,.int p.2]:=by
 obtain⟨a,xs,rfl,h,l,q⟩:=r.tupI
 match xs,l,q,h with
 | [x,y],_,q,h =>
  have e1:=(q 0 x (.int p.1) rfl rfl).intI
  have e2:=(q 1 y (.int p.2) rfl rfl).intI;subst e1 e2;exact⟨a,rfl,h⟩
theorem Jip{a:Qd}{b n:Int}(h:SqT K H a [.int b,.int n]):Rep K H (.ref a) (prD (b,n)):=.tupL h (.cons (.int b) (.cons (.int n) .nil))
theorem JkT{a:Qd}{b n:Int}(h:H a=some (.tup [.int b,.int n])):Rep K H (.ref a) (prD (b,n)):=Jip (.of h)
noncomputable abbrev Prs(K:Qx)(H:Hp)(vs:List V)(ps:List Pr):Prop:=RepL K H vs (ps.map prD)
theorem Prs.len{vs:List V}{ps:List Pr}(r:Prs K H vs ps):vs.length=ps.length:=by have:=r.1;rwa [Qq] at this
theorem Prs.at{vs:List V}{ps:List Pr}{i:Nat}{v:V}(r:Prs K H vs ps)(e:vs[i]?=some v):∃p a,ps[i]?=some p/\v=.ref a/\SqT K H a [.int p.1,.int p.2]:=by
 obtain⟨d,h1,h2⟩:=r.get' e;rw[Qo] at h1
 cases hp:ps[i]? with
 | none=>rw[hp] at h1;cases h1
 | some p=>rw[hp] at h1;cases h1;obtain⟨a,e1,e2⟩:=JkS h2;exact⟨p,a,rfl,e1,e2⟩
theorem Prs.snoc{vs:List V}{ps:List Pr}{v:V}{p:Pr}(r:Prs K H vs ps)(h:Rep K H v (prD p)):Prs K H (vs++[v]) (ps++[p]):=by show RepL K H _ _;rw[Q0];exact RepL.snoc r h
noncomputable def Jju(K:Qx)(H:Hp)(v:V)(ps:List Pr):Prop:=∃a vs,v=.ref a/\(SqL K H a vs\/SqT K H a vs)/\Prs K H vs ps
end

structure Good (ps:List Pr):Prop where
 one:∀(i:Nat) (p:Pr),ps[i]?=some p->1<=p.2
 gap:∀(i:Nat) (p q:Pr),ps[i]?=some p->ps[i+1]?=some q->p.1+p.2<q.1
theorem Good.nil:Good []:=⟨fun i p e=>by simp at e,fun i p q e=>by simp at e⟩
theorem Good.snoc{ps:List Pr}{p:Pr}(g:Good ps)(h1:1<=p.2)(h2:∀q,ps[ps.length-1]?=some q->q.1+q.2<p.1):Good (ps++[p]):=by
 refine⟨fun i q e=>?_,fun i q r e1 e2=>?_⟩
 ·by_cases hi:i<ps.length
  ·rw[QI hi] at e;exact g.one i q e
  ·rw[QE (by omega)] at e;obtain⟨h3,h4⟩:=Qm.mp e;have:i-ps.length=0:=by simp at h3;omega
   rw[this] at e;simp at e;subst e;exact h1
 ·by_cases hi:i+1<ps.length
  ·rw[QI (by omega)] at e1;rw[QI hi] at e2;exact g.gap i q r e1 e2
  ·rw[QE (by omega)] at e2;obtain⟨h3,h4⟩:=Qm.mp e2;have h5:i+1-ps.length=0:=by simp at h3;omega
   rw[h5] at e2;simp at e2;subst e2;have h6:i=ps.length-1:=by omega
   have h7:i<ps.length:=by omega
   rw[QI h7] at e1;rw[h6] at e1;exact h2 q e1

noncomputable def Jd5(t:Qd):List (Str×V):=[("stretches",.ref t)]
noncomputable def RowAt(C:Qd)(K:Qx)(H:Hp)(v:V)(ps:List Pr):Prop :=
 ∃x dx t ts,v=.ref x/\H x=some (.ins C dx (Jd5 t))/\H t=some (.tup ts)/\Prs K H ts ps
theorem RowAt.mono{C:Qd}{K:Qx}{H H':Hp}{v:V}{ps:List Pr}(e:Same H H')(r:RowAt C K H v ps):RowAt C K H' v ps:=by obtain⟨x,dx,t,ts,h0,h1,h2,h3⟩:=r;exact⟨x,dx,t,ts,h0,e _ _ h1,e _ _ h2,RepL.mono e h3⟩
structure RowC (K:Qx) (C:Qd):Prop where
 cl:Cls K C
 ns:NoAttr K C "stretches"
theorem JgJ(t:Qd):(Jd5 t).lookup ("stretches":Str)=some (.ref t):=by
 unfold Jd5;rw[List.lookup_cons];have:(("stretches":Str) == ("stretches":Str))=true:=by decide +kernel
 rw[this]
theorem Jir(t:Qd):putF "stretches" (.ref t) []=Jd5 t:=rfl

noncomputable def JbK(K:Qx):Sp:=fun vs H Q _=>∃v ps,vs=[v]/\Jju K H v ps/\Good ps/\∀H',Same H H'->Q .non H'
noncomputable def Vk(C:Qd)(K:Qx):Sp:=fun vs H Q _=>∃x dx v ps,vs=[.ref x,v]/\H x=some (.ins C dx [])/\Jju K H v ps/\Good ps/\ps.length<=30 ∧
 ∀H' t ts,SameEx x H H'->H' x=some (.ins C dx (Jd5 t))->H' t=some (.tup ts)->Prs K H' ts ps->Q .non H'
noncomputable def Jg0(C:Qd)(sp:Sp)(E:XK)(vs:List V)(H1:Hp)(Q:VK):Prop:=∀x dx,H1 x=none->H1 dx=none->dx≠x ->
 sp (.ref x::vs) (upd (upd H1 dx (.own x)) x (.ins C dx [])) (fun v H2=>v=.non/\Q (.ref x) H2) E
theorem Jfr{C:Qd}{sp:Sp}{E:XK}{ts:TA}{σ:St}{H:Hp}{Q:VK}(q:ts σ H fun vs H1=>Jg0 C sp E vs H1 Q):JfG C sp [] E ts σ H Q:=by
 have e:(fun vs H1=>Jg0 C sp E vs H1 Q)=fun vs H1=>∀x dx,H1 x=none->H1 dx=none->dx≠x->sp (.ref x::(vs++[])) (upd (upd H1 dx (.own x)) x (.ins C dx [])) (fun v H2=>v=.non/\Q (.ref x) H2) E:=by funext vs H1;rw[GG];rfl
 show ts σ H _;rw[<- e];exact q
theorem Joj{C:Qd}{K:Qx}{H:Hp}{Q:VK}{v:V}{ps:List Pr}{E:XK}(h:Jju K H v ps)(g:Good ps)(hl:ps.length<=30)(q:∀x H',H x=none->Same H H'->RowAt C K H' (.ref x) ps->Q (.ref x) H'):Jg0 C (Vk C K) E [v] H Q:=by
 intro x dx nx ndx nex
 have s0:Same H (upd (upd H dx (.own x)) x (.ins C dx [])):=fun b o e=>by rw[Je (Jo e nx),Je (Jo e ndx)];exact e
 obtain⟨a,vs,rfl,hq,hp⟩:=h;refine⟨x,dx,_,ps,rfl,Jk,⟨a,vs,rfl,hq.imp s0.seq s0.seqT,RepL.mono s0 hp⟩,g,hl,fun H' t ts e h1 h2 h3=>⟨rfl,q x H' nx (fun b o h=>e b o (Jo h nx) (s0 b o h)) ⟨x,dx,t,ts,rfl,h1,h2,h3⟩⟩⟩

noncomputable def cell(ns:List Int)(k:Int):Int:=ns.getD k.toNat 0
end LR

namespace LR
open PySem L2

theorem Jhh{ns:List Int}{k:Int}(h:¬k<(ns.length:Int)):cell ns k=0:=by unfold cell;rw[Gf,G7 (by omega)];rfl
noncomputable def spr(ns:List Int)(at' span p0:Int):Nat->Int×List Pr
 | 0=>(p0,[])
 | i+1=>((spr ns at' span p0 i).1+(1+cell ns (at'+1+2*i) % span)+1+cell ns (at'+2+2*i) % span,(spr ns at' span p0 i).2++[((spr ns at' span p0 i).1,1+cell ns (at'+1+2*i) % span)])
theorem U2(ns:List Int)(at' span p0:Int):∀i,(spr ns at' span p0 i).2.length=i
 | 0=>rfl
 | i+1=>by show(_++[_]).length=_;rw[Qz,U2 ns at' span p0 i];rfl
theorem Jc8(ns:List Int)(at' span p0:Int)(hs:0<span):∀i,Good (spr ns at' span p0 i).2/\∀q,(spr ns at' span p0 i).2[i-1]?=some q->q.1+q.2<(spr ns at' span p0 i).1
 | 0=>⟨Good.nil,fun q e=>by simp[spr] at e⟩
 | i+1=>by
  obtain⟨g,h⟩:=Jc8 ns at' span p0 hs i;have m1:=L4 (cell ns (at'+1+2*i)) (b:=span) (by omega);have m2:=L4 (cell ns (at'+2+2*i)) (b:=span) (by omega);refine⟨g.snoc (by show 1<=1+_;omega) (by rw[U2];exact h),fun q e=>?_⟩;have e':((spr ns at' span p0 i).2++[((spr ns at' span p0 i).1,1+cell ns (at'+1+2*i) % span)])[i]?=some q:=e;rw[QE (by rw[U2];exact Qr _),U2] at e'
  simp at e';subst e';show _+(1+_)<_+(1+_)+1+_;omega
noncomputable def Jd1(l:List Int)(k:Int):Int:=l.getD k.toNat 0
theorem Jin{l:List Int}{k:Int}{P:Int->Prop}(h0:0<=k)(h1:k<(l.length:Int))(h:∀x∈l,P x):P (Jd1 l k):=by
 unfold Jd1;have:k.toNat<l.length:=by omega
 rw[Gf,QG this];exact h _ (MW this)
noncomputable def Jer(ps:List Pr):Nat->V
 | 0=>.non
 | i+1=>match ps[i]? with
  | some p=>.int (p.1+p.2)
  | none=>.non
theorem UD{ps:List Pr}{i:Nat}{p:Pr}(e:ps[i]?=some p):Jer ps (i+1)=.int (p.1+p.2):=by show(match ps[i]? with|some p=>V.int (p.1+p.2)|none=>V.non)=_;rw[e]
theorem Jhj{K:Qx}{v:V}{ps:List Pr}{H:Hp}{Q:VK}{E:XK}(h:Jju K H v ps)(g:Good ps)(q:∀H',Same H H'->Q .non H'):JbK K [v] H Q E:=⟨v,ps,rfl,h,g,q⟩
theorem JcW{K:Qx}{a:Qd}{xs:List V}{H:Hp}{Q:VK}(h:SqL K H a xs\/SqT K H a xs)(q:Q (.int xs.length) H):Jd3 K [.ref a] H Q:=by
 rcases h with h|h
 ·exact Jk4 h q
 ·exact Jk6 h q
theorem SameEx.sqT'{K:Qx}{H H':Hp}{x a C dx:Qd}{fs:List (Str×V)}{xs:List V}(e:SameEx x H H')(hx:H x=some (.ins C dx fs))(h:SqT K H a xs):SqT K H' a xs:=by
 rcases h with (h|⟨o,h⟩)|h
 ·exact .inl (.inl (e _ _ (JaF h hx (by intro z;cases z)) h))
 ·exact .inl (.inr ⟨o,e _ _ (JaF h hx (by intro z;cases z)) h⟩)
 ·exact .inr h
theorem Prs.monoIns{K:Qx}{H H':Hp}{x C dx:Qd}{fs:List (Str×V)}{vs:List V}{ps:List Pr}(e:SameEx x H H')(hx:H x=some (.ins C dx fs))(r:Prs K H vs ps):Prs K H' vs ps:=by refine⟨r.1,fun i v d h1 h2=>?_⟩;obtain⟨p,a,e1,e2,e3⟩:=r.at h1;rw[Qo,e1] at h2;cases h2;subst e2;exact Jip (SameEx.sqT' e hx e3)
noncomputable def Jqo(K:Qx):Sp:=fun vs H Q _=>∃(a:Qd) (ns:List Int),vs=[.ref a]/\SqL K H a (ns.map V.int)/\ns.length<=63/\∀H',Q (.bl true) H'
end LR
namespace LR
open PySem L2
end LR

namespace L2
open PySem PySem.Spec PyProof.Rows

section
variable{X:Cx}{pins:List (Qd×Obj)}{σ:St}{H:Hp}{s:Qe}
theorem Jaw{A':QC}{E:Qc->Qe->Prop}{Q:Qc->Qe->Prop}{a:Qd}{vs:List V}(hh:A'.handled=none)(I:Inv X pins σ H s)(hq:SqL X.K H a vs\/SqT X.K H a vs)
 (h:∀(its:List Qc) (J:Qd) (fp wr:List Qd) (Sx:Nat->QL->Prop) (s2:Qe),Vals vs its->Walks X.prog X.w A' J fp wr its.toArray.size (fun i v=>its.toArray[i]?=some v) Sx->Sx 0 s2.heap->(∀b∈fp,b<s2.heap.objs.size) ->
  (∀h' tk,(∀b o,b∉wr->s2.heap.get? b=some o->h'.get? b=some o)->Inv X pins σ H { s2 with heap:=h',toks:=tk })->Q (.ref J) s2):wpAny (model X.prog X.w) A' (pyIter (.ref a)) Q E s:=by
 have nin:∀b o,s.heap.get? b=some o->b∉[s.heap.objs.size]:=fun b o e z=>by
  have:b=s.heap.objs.size:=by simpa using z
  exact absurd (Qp e) (by rw[this];exact GO _)
 rcases hq with hq|hq
 ·obtain⟨its,rv,p,hz⟩:=I.list hq;have hlt:a<s.heap.objs.size:=by obtain⟨_,e,_⟩:=p.isList;exact Qp e
  refine LN p.isList ?_;refine h its _ _ _ _ _ rv (Walks.list hh _ a (QB hlt) its.toArray) ⟨⟨_,Qn _ rfl,rfl,rfl⟩,p.isList.push _⟩ (fun b hb=>?_) fun h' tk hk=>I.kept fun b o e=>hk b o (nin b o e) (Qi _ e)
  show b<(s.heap.push _).objs.size;rw[Ge];rcases Qk.mp hb with z|z
  ·rw[z];exact GH _
  ·have:b=a:=by simpa using z
   rw[this];exact Gn hlt
 ·obtain⟨its,rv,p,hz⟩:=I.tuple hq;have ht:s.heap.IsTuple a its.toArray:=p;have hlt:a<s.heap.objs.size:=by obtain⟨_,e,_⟩:=ht;exact Qp e
  refine Mp ht ?_;refine h its _ _ _ _ _ rv (Walks.tuple hh _ a (QB hlt) its.toArray) ⟨⟨_,Qn _ rfl,rfl,rfl⟩,?_⟩ (fun b hb=>?_) fun h' tk hk=>I.kept fun b o e=>hk b o (nin b o e) (Qi _ e)
  ·obtain⟨o,e,c⟩:=ht;exact⟨o,Qi _ e,c⟩
  ·show b<(s.heap.push _).objs.size;rw[Ge];rcases Qk.mp hb with z|z
   ·rw[z];exact GH _
   ·have:b=a:=by simpa using z
    rw[this];exact Gn hlt
end

theorem Wq(l:List Int):∀j,j<=l.length->preSum (fun i=>l.getD i 0) j=(l.take j).sum
 | 0,_=>by simp[preSum]
 | j+1,h=>by
  rw[preSum,Wq l j (by omega)];have hj:j<l.length:=by omega
  rw[List.take_add_one,Rh];simp[hj]
section
variable{X:Cx}
noncomputable def JnY(K:Qx):List V->Hp->VK->Prop:=fun xs H Q=>∃(a:Qd) (ns:List Int),xs=[.ref a]/\(SqL K H a (ns.map V.int)\/SqT K H a (ns.map V.int))/\Q (.int ns.sum) H
theorem Jf1(hc:X.calm=true):CallR X (.builtin "sum") (JnY X.K):=by
 intro pins s σ H xs us Q I r h;obtain⟨a,ns,rfl,hq,q⟩:=h;obtain⟨u,rfl,rx⟩:=U9 r;cases rx;refine call_sum_walkG (Jaw (A':=X.A.in1) (I.ok.hd hc) I hq fun its J fp wr Sx s2 rv W st hfp hI=>?_);have hi:=Uu rv;have hl:=rv.length;rw[Qq] at hl;refine⟨J,fp,wr,_,_,Sx,fun i=>ns.getD i 0,rfl,W,st,hfp,fun i v e=>?_,fun h' tk t' hk=>?_⟩
 ·have e':its[i]?=some v:=by simpa using e
  obtain⟨x,e1,e2⟩:=rv.get' e';rw[Qo] at e1
  cases hn:ns[i]? with
  | none=>rw[hn] at e1;cases e1
  | some n=>rw[hn] at e1;cases e1;obtain⟨t,rfl⟩:=e2;exact⟨t,by simp[Gf,hn]⟩
 ·refine⟨.int ns.sum,H,hI h' tk hk,⟨t',?_⟩,q⟩;rw[show its.toArray.size=ns.length by simp[hl],Wq ns _ (Qr _),List.take_length]
noncomputable def JnT(K:Qx):List V->Hp->VK->Prop:=fun xs H Q=>∃(a:Qd) (bs:List Bool),xs=[.ref a]/\(SqL K H a (bs.map V.bl)\/SqT K H a (bs.map V.bl))/\Q (.bl (bs.any id)) H
theorem JgG(bs:List Bool):(QS bs.length).any (fun i=>bs.getD i false)=bs.any id:=by
 rw[Kt];simp only[Km,Rx,id];constructor
 ·rintro⟨i,hi,e⟩;simp[Gf,hi] at e;exact⟨bs[i],MW hi,e⟩
 ·rintro⟨b,hb,rfl⟩;obtain⟨i,hi,e⟩:=Gv.mp hb;exact⟨i,hi,by simp[Gf,hi,e]⟩
theorem Jde{A:QC}{bs:List Bool}{its:List Qc}(rv:Vals (bs.map V.bl) its):TruthOf X.prog X.w A (fun i v=>its.toArray[i]?=some v) (fun i=>bs.getD i false):=by
 intro i v s Q E e q;have e':its[i]?=some v:=by simpa using e
 obtain⟨x,e1,e2⟩:=rv.get' e';rw[Qo] at e1
 cases hn:bs[i]? with
 | none=>rw[hn] at e1;cases e1
 | some n =>
  rw[hn] at e1;cases e1;cases e2;have:bs.getD i false=n:=by simp[Gf,hn]
  have q':Q (bs.getD i false) s:=q;rw[this] at q';exact Kq q'
theorem JfV(hc:X.calm=true):CallR X (.builtin "any") (JnT X.K):=by intro pins s σ H xs us Q I r h;obtain⟨a,bs,rfl,hq,q⟩:=h;obtain⟨u,rfl,rx⟩:=U9 r;cases rx;refine call_any_walk (Jaw (A':=X.A.in1) (I.ok.hd hc) I hq fun its J fp wr Sx s2 rv W st hfp hI=>?_);have hl:=rv.length;rw[Qq] at hl;refine⟨J,fp,wr,_,_,Sx,_,rfl,W,st,Jde rv,fun h' tk hk=>⟨.bl _,H,hI h' tk hk,rfl,?_⟩⟩;rw[show its.toArray.size=bs.length by simp[hl],JgG];exact q
noncomputable def strI(i:Int):Str:=(toString i:String)
end
section
variable{X:Cx}{K:Qx}
theorem Uc(hK:X.K=K)(hc:X.calm=true):CallR X (.builtin "sum") (JnY K):=hK▸Jf1 hc
theorem JfU(hK:X.K=K)(hc:X.calm=true):CallR X (.builtin "any") (JnT K):=hK▸JfV hc
end
section
variable{K:Qx}{H:Hp}{Q:VK}
end
end L2
namespace L2
open PySem PySem.Spec PyProof.Rows
noncomputable def AllP{α:Type}(P:α->Prop):List α->Prop
 | []=>True
 | x::xs=>P x/\AllP P xs
theorem AllP.mem{α:Type}{P:α->Prop}:∀{l:List α},AllP P l->∀x∈l,P x
 | [],_,x,hx=>nomatch hx
 | y::l,h,x,hx=>by
  rcases Qk.mp hx with z|z
  ·rw[z];exact h.1
  ·exact AllP.mem h.2 x z
theorem Vc{cl:List (Str×Qd)}{x:Str}(h:cl.any (fun p=>p.1 == x)=true):(cl.lookup x).isSome=true:=by
 induction cl with
 | nil=>simp at h
 | cons p cl ih =>
  obtain⟨n,a⟩:=p;rw[List.lookup_cons]
  by_cases e:x == n
  ·rw[e];rfl
  ·have e':(x == n)=false:=by simpa using e
   rw[e'];rw[GP] at h;rcases Bool.or_eq_true_iff.mp h with z|z
   ·have:n=x:=eq_of_beq z;rw[this] at e';simp at e'
   ·exact ih z
theorem JfT{X:Cx}{sc:Lu}{cl:List (Str×Qd)}{own:List Str}{fr:List (Str×Nat)}(h1:sc.kind=.function)(h2:closureFor sc X.env=pure cl)
 (h3:(sc.names.all fun y=>y.2 != .cell && (y.2 != .local || sc.names.lookup y.1 == some .local))=true) (h4:AllP (fun p=>X.env.cells.lookup p.1=some p.2) cl)
 (h5:((relabel sc X.env).names.all fun y=>(y.2 != .cell && y.2 != .free) || cl.any (fun p=>p.1 == y.1))=true)
 (h6:AllP (fun p=>X.N[p.2]?=some p.1/\X.env.scope.names.lookup p.1=some .cell/\(relabel sc X.env).names.lookup p.1=some .cell) fr) :
 Blk X sc cl (own++fr.map (·.1)) (own.map (fun _=>none)++fr.map (fun p=>some p.2)):=by
 simp only[Lo,QX] at h3;simp only[Lo] at h5;refine⟨h2,h1,fun y hy=>?_,fun y hy hl=>?_,AllP.mem h4,fun y hy hk=>?_,by simp,fun p hp k e=>?_⟩
 ·have:=(h3 y hy).1
  simpa using this
 ·have:=(h3 y hy).2;rw[hl] at this
  simpa using this
 ·have:=h5 y hy;rcases Bool.or_eq_true_iff.mp this with z|z
  ·rcases hk with q|q
   ·rw[q] at z;simp at z
   ·rw[q] at z;simp at z
  ·exact Vc z
 ·rw[Ri (by simp)] at hp;rcases GF.mp hp with z|z
  ·have:=(Ku z).1;obtain⟨_,_,q⟩:=QN.mp this;rw[<- q] at e;cases e
  ·rw[List.zip_map_left] at z;obtain⟨q,hq,eq⟩:=QN.mp z
   have hz:q.1∈fr/\q.1.1=q.2:=by
    clear h6 e eq z hp;rw[List.zip_map_right] at hq;obtain⟨q',hq',eq'⟩:=QN.mp hq
    have:q'.1=q'.2:=by
     clear eq' hq
     induction fr with
     | nil=>cases hq'
     | cons x fr ih =>
      rcases Qk.mp hq' with z|z
      ·rw[z]
      ·exact ih z
    rw[<- eq'];exact⟨(Ku hq').1,by show q'.1.1=q'.2.1;rw[this]⟩
   obtain⟨a1,a2,a3⟩:=AllP.mem h6 q.1 hz.1;rw[<- eq] at e ⊢;have ek:q.1.2=k:=by simpa using e
   subst ek;rw[hz.2] at a1 a2 a3;exact⟨a1,.inl a2,.inl a3⟩
end L2

namespace LR
open PySem L2

noncomputable def Small(i:Int):Prop:=i.natAbs.log2<1920
theorem Small.of{i:Int}(h:i.natAbs<2 ^ 1920):Small i:=by
 unfold Small
 by_cases h0:i.natAbs=0
 ·rw[h0];decide
 ·exact(Nat.log2_lt h0).mpr h
theorem Small.le{i:Int}(h1:-(10 ^ 100)<=i)(h2:i<=10 ^ 100):Small i:=Small.of (by
 have h3:i.natAbs<=10 ^ 100:=by omega
 exact Mt h3 (by decide +kernel))
end LR

namespace LE
open PySem L2 LR

structure Xm where
 n:Str
 k:Option Int
instance:Coe Str Xm:=⟨fun s=>⟨s,none⟩⟩
noncomputable def Jf3:Qc->Qc
 | .int i _=>.ref i.toNat
 | v=>v
noncomputable def Jhk:Qc->Option Qd
 | .int _ t=>some t
 | _=>none
inductive D where
 | non|bl (b:Bool)|int (i:Int)|str (x:Str)|tup (l:List D)|lst (l:List D)|fz (l:List D)|row (l:List D)|dct (ks:List Int) (l:List D)|dfz (ks:List Int) (l:List D)|exc (n:Xm)
noncomputable def dkO(ks:List Int)(xs:List V):HO:=.dK ((ks.map Sum.inl).zip xs)
noncomputable def dtK(p:Int×Int):List Key:=[Sum.inl p.1,Sum.inl p.2]
noncomputable def dtO(ps:List (Int×Int))(xs:List V):HO:=.dT ((ps.map dtK).zip xs)
noncomputable def XO(a:Qd)(c:Qc):HO:=.ext fun h=>∃o,h.get? a=some o/\o.cls=Jf3 c/\PySem.W.notCls o=true/\o.dict=Jhk c
noncomputable def XC(K:Qx)(n:Xm)(c:Qc)(H:Hp):Prop:=∃a:Nat,nsIn K mainGlobals n.n=some (some (.ref a))/\match n.k with
 | none=>c=.ref a
 | some k=>∃t,c=.int a t/\H t=some (.xd [("at",.int k)])
theorem XC.mono{K:Qx}{n:Xm}{c:Qc}{H H':Hp}(e:Same H H')(x:XC K n c H):XC K n c H':=by
 obtain⟨a,h1,h2⟩:=x;refine⟨a,h1,?_⟩
 cases z:n.k with
 | none=>rw[z] at h2;exact h2
 | some k=>rw[z] at h2;obtain⟨t,h3,h4⟩:=h2;exact⟨t,h3,e _ _ h4⟩
theorem XC.cls{K:Qx}{n:Xm}{c:Qc}{H:Hp}(x:XC K n c H):∃a,nsIn K mainGlobals n.n=some (some (.ref a))/\Jf3 c=.ref a:=by
 obtain⟨a,h1,h2⟩:=x;refine⟨a,h1,?_⟩
 cases z:n.k with
 | none=>rw[z] at h2;cases h2;rfl
 | some k=>rw[z] at h2;obtain⟨t,h3,h4⟩:=h2;cases h3;rfl
noncomputable def XdO(c:Qc)(H:Hp):Prop:=match Jhk c with
 | none=>True
 | some t=>∃fs,H t=some (.xd fs)
theorem XC.xd{K:Qx}{n:Xm}{c:Qc}{H:Hp}(x:XC K n c H):XdO c H:=by
 obtain⟨a,h1,h2⟩:=x
 cases z:n.k with
 | none=>rw[z] at h2;cases h2;exact True.intro
 | some k=>rw[z] at h2;obtain⟨t,h3,h4⟩:=h2;cases h3;exact⟨_,h4⟩

section
variable(K:Qx)(C:Qd)
inductive RD (H:Hp):V->D->Prop
 | non:RD H .non .non
 | bl (b:Bool):RD H (.bl b) (.bl b)
 | int (i:Int):RD H (.int i) (.int i)
 | str (x:Str):RD H (.str x) (.str x)
 | tup {a:Qd} {xs:List V} {ds:List D}:SqT K H a xs->xs.length=ds.length->(∀(i:Nat) (x:V) (d:D),xs[i]?=some x->ds[i]?=some d->RD H x d)->RD H (.ref a) (.tup ds)
 | lst {a:Qd} {xs:List V} {ds:List D}:H a=some (.lst xs)->xs.length=ds.length->(∀(i:Nat) (x:V) (d:D),xs[i]?=some x->ds[i]?=some d->RD H x d)->RD H (.ref a) (.lst ds)
 | fz {a:Qd} {xs:List V} {ds:List D}:SqL K H a xs->xs.length=ds.length->(∀(i:Nat) (x:V) (d:D),xs[i]?=some x->ds[i]?=some d->RD H x d)->RD H (.ref a) (.fz ds)
 | row {x dx t:Qd} {ts:List V} {ds:List D}:H x=some (.ins C dx (Jd5 t))->SqT K H t ts->ts.length=ds.length->(∀(i:Nat) (x:V) (d:D),ts[i]?=some x->ds[i]?=some d->RD H x d)->RD H (.ref x) (.row ds)
 | dct {a:Qd} {ks:List Int} {xs:List V} {ds:List D}:H a=some (dkO ks xs)->ks.length=ds.length->xs.length=ds.length->(∀(i:Nat) (x:V) (d:D),xs[i]?=some x->ds[i]?=some d->RD H x d)->RD H (.ref a) (.dct ks ds)
 | dfz {a:Qd} {ks:List Int} {xs:List V} {ds:List D} {o:Obj}:H a=some (.frz o (dkO ks xs))->ks.length=ds.length->xs.length=ds.length->(∀(i:Nat) (x:V) (d:D),xs[i]?=some x->ds[i]?=some d->RD H x d)->RD H (.ref a) (.dfz ks ds)
 | exc {a:Qd} {c:Qc} {n:Xm}:H a=some (XO a c)->XC K n c H->RD H (.ref a) (.exc n)
noncomputable def RDL(H:Hp)(xs:List V)(ds:List D):Prop:=xs.length=ds.length/\∀(i:Nat) (x:V) (d:D),xs[i]?=some x->ds[i]?=some d->RD K C H x d
end

section
variable{K:Qx}{C:Qd}{H H':Hp}
theorem RD.mono{v:V}{d:D}(e:Same H H')(r:RD K C H v d):RD K C H' v d:=by
 induction r with
 | non=>exact .non
 | bl b=>exact .bl b
 | int i=>exact .int i
 | str x=>exact .str x
 | tup h l _ ih=>exact .tup (e.seqT h) l ih
 | lst h l _ ih=>exact .lst (e _ _ h) l ih
 | fz h l _ ih=>exact .fz (e.seq h) l ih
 | row h1 h2 l _ ih=>exact .row (e _ _ h1) (e.seqT h2) l ih
 | dct h1 h2 l _ ih=>exact .dct (e _ _ h1) h2 l ih
 | dfz h1 h2 l _ ih=>exact .dfz (e _ _ h1) h2 l ih
 | exc h1 h2=>exact .exc (e _ _ h1) (h2.mono e)
theorem RDL.mono{xs:List V}{ds:List D}(e:Same H H')(r:RDL K C H xs ds):RDL K C H' xs ds:=⟨r.1,fun i x d h1 h2=>(r.2 i x d h1 h2).mono e⟩
theorem RDL.nil:RDL K C H [] []:=⟨rfl,fun i x d e=>by simp at e⟩
theorem RDL.cons{x:V}{d:D}{xs:List V}{ds:List D}(h:RD K C H x d)(r:RDL K C H xs ds):RDL K C H (x::xs) (d::ds):=by
 refine⟨by simp[r.1],fun i y e h1 h2=>?_⟩
 cases i with
 | zero=>simp at h1 h2;subst h1 h2;exact h
 | succ i=>exact r.2 i y e (by simpa using h1) (by simpa using h2)
theorem RDL.append{xs ys:List V}{ds es:List D}(r:RDL K C H xs ds)(q:RDL K C H ys es):RDL K C H (xs++ys) (ds++es):=by
 refine⟨by simp[r.1,q.1],fun i x d h1 h2=>?_⟩
 by_cases hi:i<xs.length
 ·rw[QI hi] at h1;rw[QI (by rw[<- r.1];exact hi)] at h2;exact r.2 i x d h1 h2
 ·rw[QE (by omega)] at h1;rw[QE (by rw[<- r.1];omega)] at h2;rw[<- r.1] at h2;exact q.2 _ x d h1 h2
theorem RDL.snoc{xs:List V}{ds:List D}{x:V}{d:D}(r:RDL K C H xs ds)(h:RD K C H x d):RDL K C H (xs++[x]) (ds++[d]):=r.append (.cons h .nil)
theorem RDL.get{xs:List V}{ds:List D}{i:Nat}{d:D}(r:RDL K C H xs ds)(e:ds[i]?=some d):∃x,xs[i]?=some x/\RD K C H x d:=by
 have hi:=(Qm.mp e).1
 have hx:i<xs.length:=by rw[r.1];exact hi
 exact⟨xs[i],by simp[hx],r.2 i _ d (by simp[hx]) e⟩
theorem RDL.get'{xs:List V}{ds:List D}{i:Nat}{x:V}(r:RDL K C H xs ds)(e:xs[i]?=some x):∃d,ds[i]?=some d/\RD K C H x d:=by
 have hi:=(Qm.mp e).1
 have hx:i<ds.length:=by rw[<- r.1];exact hi
 exact⟨ds[i],by simp[hx],r.2 i x _ e (by simp[hx])⟩
theorem RDL.head{x:V}{xs:List V}{d:D}{ds:List D}(r:RDL K C H (x::xs) (d::ds)):RD K C H x d:=r.2 0 x d rfl rfl
theorem RDL.tail{x:V}{xs:List V}{d:D}{ds:List D}(r:RDL K C H (x::xs) (d::ds)):RDL K C H xs ds:=⟨by have:=r.1;simpa using this,fun i y e h1 h2=>r.2 (i+1) y e (by simpa using h1) (by simpa using h2)⟩
theorem RDL.take{xs:List V}{ds:List D}(n:Nat)(r:RDL K C H xs ds):RDL K C H (xs.take n) (ds.take n):=by
 refine⟨by simp[r.1],fun i x d h1 h2=>?_⟩;rw[List.getElem?_take] at h1 h2;split at h1
 ·rw[if_pos (by assumption)] at h2;exact r.2 i x d h1 h2
 ·cases h1
theorem RDL.drop{xs:List V}{ds:List D}(n:Nat)(r:RDL K C H xs ds):RDL K C H (xs.drop n) (ds.drop n):=by refine⟨by simp[r.1],fun i x d h1 h2=>?_⟩;rw[List.getElem?_drop] at h1 h2;exact r.2 _ x d h1 h2
theorem RDL.set{xs:List V}{ds:List D}{v:V}{e:D}(n:Nat)(r:RDL K C H xs ds)(h:RD K C H v e):RDL K C H (xs.set n v) (ds.set n e):=by
 refine⟨by simp[r.1],fun i x d h1 h2=>?_⟩;rw[QW] at h1 h2;split at h1
 ·rw[if_pos (by assumption)] at h2;split at h1
  ·rw[if_pos (by rw[<- r.1];assumption)] at h2;cases h1;cases h2;exact h
  ·cases h1
 ·rw[if_neg (by assumption)] at h2;exact r.2 i x d h1 h2
theorem RDL.reverse{xs:List V}{ds:List D}(r:RDL K C H xs ds):RDL K C H xs.reverse ds.reverse:=by
 refine⟨by simp[r.1],fun i x d h1 h2=>?_⟩;have hi:i<xs.length:=by have:=(Qm.mp h1).1;simpa using this
 rw[Rp hi] at h1;rw[Rp (by rw[<- r.1];exact hi)] at h2;rw[<- r.1] at h2;exact r.2 _ x d h1 h2
theorem RDL.ints:∀{xs:List V} {ns:List Int},RDL K C H xs (ns.map D.int)->xs=ns.map V.int
 | [],[],_=>rfl
 | [],_::_,r=>by have:=r.1;simp at this
 | _::_,[],r=>by have:=r.1;simp at this
 | x::xs,n::ns,r=>by have h:=r.head;cases h;rw[RDL.ints r.tail];rfl
theorem RDL.ofInts:∀(ns:List Int),RDL K C H (ns.map V.int) (ns.map D.int)
 | []=>.nil
 | n::ns=>.cons (.int n) (RDL.ofInts ns)
theorem RDL.bls:∀{xs:List V} {ns:List Bool},RDL K C H xs (ns.map D.bl)->xs=ns.map V.bl
 | [],[],_=>rfl
 | [],_::_,r=>by have:=r.1;simp at this
 | _::_,[],r=>by have:=r.1;simp at this
 | x::xs,n::ns,r=>by have h:=r.head;cases h;rw[RDL.bls r.tail];rfl
theorem RDL.strs:∀{xs:List V} {ns:List Str},RDL K C H xs (ns.map D.str)->xs=ns.map V.str
 | [],[],_=>rfl
 | [],_::_,r=>by have:=r.1;simp at this
 | _::_,[],r=>by have:=r.1;simp at this
 | x::xs,n::ns,r=>by have h:=r.head;cases h;rw[RDL.strs r.tail];rfl
theorem RD.mkT{a:Qd}{xs:List V}{ds:List D}(h:SqT K H a xs)(r:RDL K C H xs ds):RD K C H (.ref a) (.tup ds):=.tup h r.1 r.2
theorem RD.mkL{a:Qd}{xs:List V}{ds:List D}(h:H a=some (.lst xs))(r:RDL K C H xs ds):RD K C H (.ref a) (.lst ds):=.lst h r.1 r.2
theorem RD.mkF{a:Qd}{xs:List V}{ds:List D}(h:SqL K H a xs)(r:RDL K C H xs ds):RD K C H (.ref a) (.fz ds):=.fz h r.1 r.2
theorem RD.tupI{v:V}{ds:List D}(r:RD K C H v (.tup ds)):∃a xs,v=.ref a/\SqT K H a xs/\RDL K C H xs ds:=by
 cases r with
 | tup h l q=>exact⟨_,_,rfl,h,l,q⟩
theorem RD.lstI{v:V}{ds:List D}(r:RD K C H v (.lst ds)):∃a xs,v=.ref a/\H a=some (.lst xs)/\RDL K C H xs ds:=by
 cases r with
 | lst h l q=>exact⟨_,_,rfl,h,l,q⟩
theorem RD.fzI{v:V}{ds:List D}(r:RD K C H v (.fz ds)):∃a xs,v=.ref a/\SqL K H a xs/\RDL K C H xs ds:=by
 cases r with
 | fz h l q=>exact⟨_,_,rfl,h,l,q⟩
theorem RD.rowI{v:V}{ds:List D}(r:RD K C H v (.row ds)):∃x dx t ts,v=.ref x/\H x=some (.ins C dx (Jd5 t))/\SqT K H t ts/\RDL K C H ts ds:=by
 cases r with
 | row h1 h2 l q=>exact⟨_,_,_,_,rfl,h1,h2,l,q⟩
theorem RD.mkD{a:Qd}{ks:List Int}{xs:List V}{ds:List D}(h:H a=some (dkO ks xs))(hk:ks.length=ds.length)(r:RDL K C H xs ds):RD K C H (.ref a) (.dct ks ds):=.dct h hk r.1 r.2
theorem RD.dctI{v:V}{ks:List Int}{ds:List D}(r:RD K C H v (.dct ks ds)):∃a xs,v=.ref a/\H a=some (dkO ks xs)/\ks.length=ds.length/\RDL K C H xs ds:=by
 cases r with
 | dct h hk l q=>exact⟨_,_,rfl,h,hk,l,q⟩
theorem RD.mkZ{a:Qd}{ks:List Int}{xs:List V}{ds:List D}{o:Obj}(h:H a=some (.frz o (dkO ks xs)))(hk:ks.length=ds.length)(r:RDL K C H xs ds):RD K C H (.ref a) (.dfz ks ds):=.dfz h hk r.1 r.2
theorem RD.dfzI{v:V}{ks:List Int}{ds:List D}(r:RD K C H v (.dfz ks ds)):∃a xs o,v=.ref a/\H a=some (.frz o (dkO ks xs))/\ks.length=ds.length/\RDL K C H xs ds:=by
 cases r with
 | dfz h hk l q=>exact⟨_,_,_,rfl,h,hk,l,q⟩
theorem RD.intI{v:V}{i:Int}(r:RD K C H v (.int i)):v=.int i:=by cases r;rfl
theorem RD.strI{v:V}{i:Str}(r:RD K C H v (.str i)):v=.str i:=by cases r;rfl
theorem RD.blI{v:V}{i:Bool}(r:RD K C H v (.bl i)):v=.bl i:=by cases r;rfl
theorem RD.nonI{v:V}(r:RD K C H v .non):v=.non:=by cases r;rfl
end

mutual
noncomputable def D.py:D->PyData
 | .non=>.none
 | .bl b=>.bool b
 | .int i=>.int i
 | .str x=>.str x
 | .tup l=>.tuple (D.pyL l)
 | .lst l=>.list (D.pyL l)
 | .fz l=>.list (D.pyL l)
 | .row _=>.dict []
 | .dct _ _=>.dict []
 | .dfz _ _=>.dict []
 | .exc _=>.dict []
noncomputable def D.pyL:List D->List PyData
 | []=>[]
 | d::ds=>d.py::D.pyL ds
end
theorem Jfl:∀ds:List D,D.pyL ds=ds.map D.py
 | []=>rfl
 | d::ds=>by rw[D.pyL,Jfl ds];rfl
theorem Zi:∀{ds:List PyData},Lf ds=true->∀d∈ds,d.canLay0=true
 | [],_,d,hd=>nomatch hd
 | x::ds,h,d,hd=>by
  have h':(PyData.canLay0 x && Lf ds)=true:=h;rw[QX] at h';rcases Qk.mp hd with z|z
  ·rw[z];exact h'.1
  ·exact Zi h'.2 d z
theorem RD.rep{K:Qx}{C:Qd}{H:Hp}{v:V}{d:D}(r:RD K C H v d):d.py.canLay0=true->Rep K H v d.py:=by
 have all:∀{xs:List V} {ds:List D},xs.length=ds.length->(∀(i:Nat) (x:V) (d:D),xs[i]?=some x->ds[i]?=some d->d.py.canLay0=true->Rep K H x d.py)->Lf (D.pyL ds)=true->RepL K H xs (D.pyL ds):=by
  intro xs ds l ih hc;rw[Jfl] at hc ⊢;refine⟨by simpa using l,fun i x d h1 h2=>?_⟩;rw[Qo] at h2
  cases e:ds[i]? with
  | none=>rw[e] at h2;cases h2
  | some q=>rw[e] at h2;cases h2;exact ih i x q h1 e (Zi hc _ (QN.mpr ⟨q,QJ e,rfl⟩))
 induction r with
 | non=>intro _;exact .non
 | bl b=>intro _;exact .bl b
 | int i=>intro _;exact .int i
 | str x=>intro _;exact .str x
 | tup h l _ ih=>intro hc;exact .tupL h (all l ih hc)
 | lst h l _ ih=>intro hc;exact .lstL (.of h) (all l ih hc)
 | fz h l _ ih=>intro hc;exact .lstL h (all l ih hc)
 | row h1 h2 l _ ih=>intro hc;cases hc
 | dct h1 h2 l _ ih=>intro hc;cases hc
 | dfz h1 h2 l _ ih=>intro hc;cases hc
 | exc h1 h2=>intro hc;cases hc

inductive Sl where
 | no|sh (d:D)|bo (ds:List D)|own (ds:List D)|bd (ks:List Int) (ds:List D)|od (ks:List Int) (ds:List D)|bt (ps:List (Int×Int)) (ds:List D)|ot (ps:List (Int×Int)) (ds:List D)
noncomputable def JO:Sl->Bool
 | .own _=>true
 | .od _ _=>true
 | .ot _ _=>true
 | _=>false
noncomputable def Jm0:Sl->Bool
 | .bo _=>true
 | .bd _ _=>true
 | .bt _ _=>true
 | _=>false

noncomputable def JdK:List Kj->Option (Nat×Nat)
 | .Assign _ (.Call _ _ [⟨_,.Lambda _ _ _ pos,_⟩] _) _::_=>some (pos.line,pos.col)
 | _=>none
noncomputable def JfJ(K:Qx)(fd:QR):Option (Qd×HO):=match fd.code,fd.body with
 | .ref c,.stmts b=>(match K.lookup c with
  | some ⟨_,_,.fields vs,_⟩=>(match (vs[11]?:Option Qc),JdK b with
   | some (.ref P),some (l,k)=>if codeHdIn K c P=true then some (P,.tbl #[] l k (fd.qualname++".<locals>."++"<lambda>")) else none
   | _,_=>none)
  | _=>none)
 | _,_=>none
noncomputable def Y1(K:Qx):Option (Qd×HO):=match nsIn K mainGlobals "early_lines" with
 | some (some (.ref f))=>(match K.lookup f with
  | some ⟨_,_,.func fd,_⟩=>JfJ K fd
  | _=>none)
 | _=>none
structure LamC (K:Qx) (qual:Str) (l k:Nat) (cdv:Qc):Prop where
 ex:∃P c,cdv=.ref c/\codeHdIn K c P=true/\Y1 K=some (P,.tbl #[] l k (qual++".<locals>."++"<lambda>"))
theorem Jkp{K:Qx}{name qual:Str}{params:Mn}{body:List Kj}{scope:Lu}{dV kV doc pm cdv ct oc:Qc}{an od:Option Qd}{osl:Array (Option Qc)}{f:Qd}{l k:Nat}(a:nsIn K mainGlobals "early_lines"=some (some (.ref f)))
 (lk:K.lookup f=some ⟨oc,od,.func (fnOf name qual params body scope dV kV doc pm an cdv ct),osl⟩) (hs:(Y1 K).isSome=true) (hp:JdK body=some (l,k)):LamC K qual l k cdv:=by
 have e:Y1 K=JfJ K (fnOf name qual params body scope dV kV doc pm an cdv ct):=by unfold Y1;rw[a];dsimp only;rw[lk]
 rw[e] at hs;have e2:=e;unfold JfJ at hs e2;dsimp only at hs e2
 cases cdv with
 | ref c =>
  dsimp only at hs e2;rw[hp] at hs e2;split at hs
  ·next vs _ hk =>
   rw[hk] at e2;dsimp only at e2;split at hs
   ·next P l' k' h11 hlk =>
    rw[h11] at e2;cases hlk;dsimp only at e2;split at hs
    ·next hh=>rw[if_pos hh] at e2;exact⟨P,c,rfl,hh,e2⟩
    ·cases hs
   ·cases hs
  ·cases hs
 | _=>cases hs
noncomputable def TabK(K:Qx)(H:Hp):Prop:=∀P t,Y1 K=some (P,t)->H P=some t
theorem TabK.mono{K:Qx}{B H:Hp}(h:TabK K B)(s:∀a o,B a=some o->H a=some o):TabK K H:=fun P t e=>s P t (h P t e)
theorem TabK.no{K:Qx}{H:Hp}(h:Y1 K=none):TabK K H:=fun P t e=>by rw[h] at e;cases e
section
variable(K:Qx)(C:Qd)
noncomputable def RR(Hs H0 H:Hp)(v:V):Sl->Prop
 | .no=>False
 | .sh d=>RD K C H0 v d
 | .bo ds=>∃l xs,v=.ref l/\H l=some (.lst xs)/\RDL K C H0 xs ds
 | .own ds=>∃l xs,v=.ref l/\H l=some (.lst xs)/\H0 l=none/\Hs l=none/\RDL K C H0 xs ds
 | .bd ks ds=>∃l xs,v=.ref l/\H l=some (dkO ks xs)/\ks.length=ds.length/\RDL K C H0 xs ds
 | .bt ks ds=>∃l xs,v=.ref l/\H l=some (dtO ks xs)/\ks.length=ds.length/\RDL K C H0 xs ds
 | .od ks ds=>∃l xs,v=.ref l/\H l=some (dkO ks xs)/\H0 l=none/\Hs l=none/\ks.length=ds.length/\RDL K C H0 xs ds
 | .ot ks ds=>∃l xs,v=.ref l/\H l=some (dtO ks xs)/\H0 l=none/\Hs l=none/\ks.length=ds.length/\RDL K C H0 xs ds
noncomputable def RSl(B H0 H:Hp)(v:V):Sl->Prop
 | .no=>True
 | .sh d=>RD K C H0 v d
 | .bo ds=>∃l xs,v=.ref l/\B l=some (.lst xs)/\RDL K C H0 xs ds
 | .own ds=>∃l xs,v=.ref l/\H l=some (.lst xs)/\H0 l=none/\B l=none/\RDL K C H0 xs ds
 | .bd ks ds=>∃l xs,v=.ref l/\B l=some (dkO ks xs)/\ks.length=ds.length/\RDL K C H0 xs ds
 | .bt ks ds=>∃l xs,v=.ref l/\B l=some (dtO ks xs)/\ks.length=ds.length/\RDL K C H0 xs ds
 | .od ks ds=>∃l xs,v=.ref l/\H l=some (dkO ks xs)/\H0 l=none/\B l=none/\ks.length=ds.length/\RDL K C H0 xs ds
 | .ot ks ds=>∃l xs,v=.ref l/\H l=some (dtO ks xs)/\H0 l=none/\B l=none/\ks.length=ds.length/\RDL K C H0 xs ds
structure EnvR (B H0 H:Hp) (σ:St) (E:List Sl):Prop where
 b:Same B H
 h:Same H0 H
 len:σ.length=E.length
 at':∀(i:Nat) (s:Sl),E[i]?=some s->s=.no\/∃v,σ[i]?=some (some v)/\RSl K C B H0 H v s
 sep:∀(i j:Nat) (s t:Sl) (v:V),i≠j->E[i]?=some s->E[j]?=some t->JO s=true->JO t=true->σ[i]?=some (some v)->σ[j]?≠some (some v)
 t:TabK K B
end
noncomputable def isT:HO->Bool
 | .tup _=>true
 | .frz _ (.tup _)=>true
 | _=>false
structure Step (Hs H0 H H0' H':Hp):Prop where
 h:Same H H'
 z:Same H0 H0'
 n:∀a o,H0' a=some o->H0 a=some o\/Hs a=none\/isT o=true
 i:Same H0' H'
structure SStep (B H0 H0' H':Hp):Prop where
 b:Same B H'
 z:Same H0 H0'
 n:∀a o,H0' a=some o->H0 a=some o\/B a=none\/isT o=true
 i:Same H0' H'

section
variable{K:Qx}{C:Qd}{B Hs H0 H H0' H' H0'' H'':Hp}{σ:St}{E:List Sl}{v:V}{s:Sl}
theorem Step.refl(i:Same H0 H):Step Hs H0 H H0 H:=⟨Same.refl _,Same.refl _,fun _ _ e=>.inl e,i⟩
theorem Step.comp{Hs':Hp}(s1:Step Hs H0 H H0' H')(s2:Step Hs' H0' H' H0'' H'')(w:∀a,Hs' a=none->Hs a=none):Step Hs H0 H H0'' H'' :=
 ⟨s1.h.trans s2.h,s1.z.trans s2.z,fun a o e=>(s2.n a o e).elim (fun q=>s1.n a o q) fun q=>.inr (q.imp (w a) id),s2.i⟩
theorem Step.trans(s1:Step H H0 H H0' H')(s2:Step H' H0' H' H0'' H''):Step H H0 H H0'' H'':=s1.comp s2 fun _ q=>Same.free s1.h q
theorem Step.ss(b:Same B H)(s:Step H H0 H H0' H'):SStep B H0 H0' H':=⟨b.trans s.h,s.z,fun a o e=>(s.n a o e).imp id fun q=>q.imp (fun q=>Same.free b q) id,s.i⟩
theorem SStep.refl(b:Same B H)(i:Same H0 H):SStep B H0 H0 H:=⟨b,Same.refl _,fun _ _ e=>.inl e,i⟩
theorem SStep.trans(s1:SStep B H0 H0' H')(s2:SStep B H0' H0'' H''):SStep B H0 H0'' H'':=⟨s2.b,s1.z.trans s2.z,fun a o e=>(s2.n a o e).elim (fun q=>s1.n a o q) .inr,s2.i⟩
theorem RR.step(r:RR K C Hs H0 H v s)(st:Step H H0 H H0' H'):RR K C Hs H0' H' v s:=by
 cases s with
 | no=>exact r
 | sh d=>exact RD.mono st.z r
 | bo ds=>obtain⟨l,xs,e,h,q⟩:=r;exact⟨l,xs,e,st.h _ _ h,q.mono st.z⟩
 | bd ks ds=>obtain⟨l,xs,e,h,hk,q⟩:=r;exact⟨l,xs,e,st.h _ _ h,hk,q.mono st.z⟩
 | bt ks ds=>obtain⟨l,xs,e,h,hk,q⟩:=r;exact⟨l,xs,e,st.h _ _ h,hk,q.mono st.z⟩
 | own ds =>
  obtain⟨l,xs,e,h,n,m,q⟩:=r;refine⟨l,xs,e,st.h _ _ h,?_,m,q.mono st.z⟩
  cases z:H0' l with
  | none=>rfl
  | some o =>
   rcases st.n l o z with y|y|y
   ·rw[n] at y;cases y
   ·rw[h] at y;cases y
   ·have:=st.i l o z;rw[st.h _ _ h] at this;cases this;cases y
 | od ks ds =>
  obtain⟨l,xs,e,h,n,m,hk,q⟩:=r;refine⟨l,xs,e,st.h _ _ h,?_,m,hk,q.mono st.z⟩
  cases z:H0' l with
  | none=>rfl
  | some o =>
   rcases st.n l o z with y|y|y
   ·rw[n] at y;cases y
   ·rw[h] at y;cases y
   ·have:=st.i l o z;rw[st.h _ _ h] at this;cases this;cases y
 | ot ks ds =>
  obtain⟨l,xs,e,h,n,m,hk,q⟩:=r;refine⟨l,xs,e,st.h _ _ h,?_,m,hk,q.mono st.z⟩
  cases z:H0' l with
  | none=>rfl
  | some o =>
   rcases st.n l o z with y|y|y
   ·rw[n] at y;cases y
   ·rw[h] at y;cases y
   ·have:=st.i l o z;rw[st.h _ _ h] at this;cases this;cases y
theorem RR.weak{Hs':Hp}(r:RR K C Hs' H0 H v s)(w:∀a,Hs' a=none->Hs a=none):RR K C Hs H0 H v s:=by
 cases s with
 | own ds=>obtain⟨l,xs,e,h,n,m,q⟩:=r;exact⟨l,xs,e,h,n,w _ m,q⟩
 | od ks ds=>obtain⟨l,xs,e,h,n,m,q⟩:=r;exact⟨l,xs,e,h,n,w _ m,q⟩
 | ot ks ds=>obtain⟨l,xs,e,h,n,m,q⟩:=r;exact⟨l,xs,e,h,n,w _ m,q⟩
 | _=>exact r
theorem RSl.owned(r:RSl K C B H0 H v s)(o:JO s=true):∃l,v=.ref l/\H l≠none/\H0 l=none/\B l=none:=by
 cases s with
 | own ds=>obtain⟨l,xs,e,h,n,m,q⟩:=r;exact⟨l,e,(by rw[h];intro z;cases z),n,m⟩
 | od ks ds=>obtain⟨l,xs,e,h,n,m,q⟩:=r;exact⟨l,e,(by rw[h];intro z;cases z),n,m⟩
 | ot ks ds=>obtain⟨l,xs,e,h,n,m,q⟩:=r;exact⟨l,e,(by rw[h];intro z;cases z),n,m⟩
 | _=>cases o
theorem RR.owned(r:RR K C Hs H0 H v s)(o:JO s=true):∃l,v=.ref l/\H l≠none/\H0 l=none/\Hs l=none:=by
 cases s with
 | own ds=>obtain⟨l,xs,e,h,n,m,q⟩:=r;exact⟨l,e,(by rw[h];intro z;cases z),n,m⟩
 | od ks ds=>obtain⟨l,xs,e,h,n,m,q⟩:=r;exact⟨l,e,(by rw[h];intro z;cases z),n,m⟩
 | ot ks ds=>obtain⟨l,xs,e,h,n,m,q⟩:=r;exact⟨l,e,(by rw[h];intro z;cases z),n,m⟩
 | _=>cases o
theorem EnvR.step(I:EnvR K C B H0 H σ E)(st:Step H H0 H H0' H'):EnvR K C B H0' H' σ E:=by
 refine⟨I.b.trans st.h,st.i,I.len,fun i s e=>?_,I.sep,I.t⟩;rcases I.at' i s e with z|⟨v,h1,h2⟩
 ·exact .inl z
 ·refine .inr ⟨v,h1,?_⟩
  cases s with
  | no=>trivial
  | sh d=>exact RD.mono st.z h2
  | bo ds=>obtain⟨l,xs,e,h,q⟩:=h2;exact⟨l,xs,e,h,q.mono st.z⟩
  | own ds=>exact RR.step (Hs:=B) (s:=.own ds) h2 st
  | bd ks ds=>obtain⟨l,xs,e,h,hk,q⟩:=h2;exact⟨l,xs,e,h,hk,q.mono st.z⟩
  | bt ks ds=>obtain⟨l,xs,e,h,hk,q⟩:=h2;exact⟨l,xs,e,h,hk,q.mono st.z⟩
  | od ks ds=>exact RR.step (Hs:=B) (s:=.od ks ds) h2 st
  | ot ks ds=>exact RR.step (Hs:=B) (s:=.ot ks ds) h2 st
theorem EnvR.sub{E':List Sl}(I:EnvR K C B H0 H σ E)(hl:E'.length=E.length)(h:∀(i:Nat) (s:Sl),E'[i]?=some s->s=.no\/E[i]?=some s):EnvR K C B H0 H σ E':=by
 refine⟨I.b,I.h,I.len.trans hl.symm,fun i s e=>?_,fun i j s t v hij e1 e2 o1 o2=>?_,I.t⟩
 ·rcases h i s e with z|z
  ·exact .inl z
  ·exact I.at' i s z
 ·rcases h i _ e1 with z|z
  ·subst z;cases o1
  ·rcases h j _ e2 with y|y
   ·subst y;cases o2
   ·exact I.sep i j s t v hij z y o1 o2
theorem EnvR.put(I:EnvR K C B H0 H σ E){i:Nat}(hi:i<E.length){Hs:Hp}(hB:∀a,Hs a=none->B a=none)(hf:∀(j:Nat) (t:Sl) (l:Qd),E[j]?=some t->JO t=true->σ[j]?=some (some (.ref l))->Hs l≠none)(r:RR K C Hs H0 H v s)(hb:Jm0 s=false):EnvR K C B H0 H (σ.set i (some v)) (E.set i s):=by
 refine⟨I.b,I.h,by simp[I.len],fun j t e=>?_,fun j k s1 s2 u hjk e1 e2 o1 o2 e3 e4=>?_,I.t⟩
 ·rw[QW] at e
  by_cases hj:i=j
  ·subst hj;rw[if_pos rfl,if_pos hi] at e;cases e;refine .inr ⟨v,by rw[QW];simp[I.len,hi],?_⟩
   cases s with
   | no=>trivial
   | sh d=>exact r
   | bo ds=>cases hb
   | own ds=>obtain⟨l,xs,e,h,n,m,q⟩:=r;exact⟨l,xs,e,h,n,hB _ m,q⟩
   | bd ks ds=>cases hb
   | bt ks ds=>cases hb
   | od ks ds=>obtain⟨l,xs,e,h,n,m,q⟩:=r;exact⟨l,xs,e,h,n,hB _ m,q⟩
   | ot ks ds=>obtain⟨l,xs,e,h,n,m,q⟩:=r;exact⟨l,xs,e,h,n,hB _ m,q⟩
  ·rw[if_neg hj] at e;rcases I.at' j t e with z|⟨u,h1,h2⟩
   ·exact .inl z
   ·exact .inr ⟨u,by rw[QW,if_neg hj];exact h1,h2⟩
 ·rw[QW] at e1 e2 e3 e4
  by_cases hj:i=j
  ·subst hj;rw[if_neg hjk] at e2 e4;rw[if_pos rfl,if_pos hi] at e1;rw[if_pos rfl,if_pos (by rw[I.len];exact hi)] at e3;cases e3;cases e1;obtain⟨l,e,_,_,m⟩:=r.owned o1;subst e;exact hf k _ l e2 o2 e4 m
  ·rw[if_neg hj] at e1 e3
   by_cases hk:i=k
   ·subst hk;rw[if_pos rfl,if_pos hi] at e2;rw[if_pos rfl,if_pos (by rw[I.len];exact hi)] at e4;cases e2;have e4':v=u:=QT (QT e4);subst e4';obtain⟨l,e,_,_,m⟩:=r.owned o2;subst e;exact hf j _ l e1 o1 e3 m
   ·rw[if_neg hk] at e2 e4;exact I.sep j k _ _ u hjk e1 e2 o1 o2 e3 e4
theorem EnvR.ownG(I:EnvR K C B H0 H σ E){j:Nat}{t:Sl}{l:Qd}(e1:E[j]?=some t)(ho:JO t=true)(e2:σ[j]?=some (some (.ref l))):H l≠none/\H0 l=none/\B l=none:=by
 rcases I.at' j _ e1 with z|⟨v,h1,h2⟩
 ·subst z;cases ho
 ·rw[e2] at h1;cases h1;obtain⟨l',e,h⟩:=h2.owned ho;cases e;exact h
theorem EnvR.put'{H1 H01:Hp}(I:EnvR K C B H0 H σ E)(st:Step H H0 H H01 H1){i:Nat}(hi:i<E.length)(r:RR K C H H01 H1 v s)(hb:Jm0 s=false):EnvR K C B H01 H1 (σ.set i (some v)) (E.set i s) :=
 (I.step st).put hi (fun a q=>Same.free I.b q) (fun j t l e1 o1 e2=>(I.ownG e1 o1 e2).1) r hb
noncomputable def Je2:Option HO->Option HO
 | some o=>if isT o=true then some o else none
 | none=>none
noncomputable def Ye(Hs H0 H:Hp):Hp:=fun a=>match H0 a with
 | some o=>some o
 | none=>match Hs a with
  | none=>H a
  | some _=>Je2 (H a)
theorem Zg{o:Option HO}{u:HO}(e:Je2 o=some u):o=some u/\isT u=true:=by
 cases o with
 | none=>cases e
 | some w =>
  unfold Je2 at e;dsimp only at e;split at e
  ·cases e;exact⟨rfl,by assumption⟩
  ·cases e
theorem JN(i:Same H0 H):Step Hs H0 H (Ye Hs H0 H) H:=by
 refine⟨Same.refl _,fun a o e=>by unfold Ye;rw[e],fun a o e=>?_,fun a o e=>?_⟩
 ·unfold Ye at e
  cases h:H0 a with
  | some u=>rw[h] at e;exact .inl e
  | none =>
   rw[h] at e
   cases h2:Hs a with
   | none=>exact .inr (.inl rfl)
   | some u=>rw[h2] at e;exact .inr (.inr (Zg e).2)
 ·unfold Ye at e
  cases h:H0 a with
  | some u=>rw[h] at e;cases e;exact i a _ h
  | none =>
   rw[h] at e
   cases h2:Hs a with
   | none=>rw[h2] at e;exact e
   | some u=>rw[h2] at e;exact(Zg e).1
theorem Jbb{a:Qd}{o:HO}(i:Same H0 H)(n:Hs a=none)(h:H a=some o):Ye Hs H0 H a=some o:=by
 unfold Ye
 cases z:H0 a with
 | some u=>rw[i a u z] at h;exact h
 | none=>dsimp only;rw[n];exact h
theorem JeR{a:Qd}{o:HO}(i:Same H0 H)(n:isT o=true)(h:H a=some o):Ye Hs H0 H a=some o:=by
 unfold Ye
 cases z:H0 a with
 | some u=>rw[i a u z] at h;exact h
 | none =>
  dsimp only
  cases y:Hs a with
  | none=>exact h
  | some u=>dsimp only;rw[h];unfold Je2;dsimp only;rw[if_pos n]
theorem JeQ{a:Qd}{xs:List V}(i:Same H0 H)(h:SqT K H a xs):SqT K (Ye Hs H0 H) a xs:=by
 rcases h with (h|⟨o,h⟩)|h
 ·exact .inl (.inl (JeR i rfl h))
 ·exact .inl (.inr ⟨o,JeR i rfl h⟩)
 ·exact .inr h
noncomputable def Sl.frz:Sl->Option D
 | .sh d=>some d
 | .own ds=>some (.lst ds)
 | .od ks ds=>some (.dct ks ds)
 | _=>none
theorem RR.frz{d:D}(i:Same H0 H)(r:RR K C Hs H0 H v s)(e:s.frz=some d):RD K C (Ye Hs H0 H) v d:=by
 have st:Step Hs H0 H (Ye Hs H0 H) H:=JN i
 cases s with
 | no=>cases e
 | sh d'=>cases e;exact RD.mono st.z r
 | bo ds=>cases e
 | own ds=>cases e;obtain⟨l,xs,e,h,n,m,q⟩:=r;subst e;exact .mkL (Jbb i m h) (q.mono st.z)
 | bd ks ds=>cases e
 | bt ks ds=>cases e
 | od ks ds=>cases e;obtain⟨l,xs,e,h,n,m,hk,q⟩:=r;subst e;exact .mkD (Jbb i m h) hk (q.mono st.z)
 | ot ks ds=>cases e
end
end LE

namespace LE
open PySem L2 LR

noncomputable abbrev En:=List Sl
noncomputable abbrev Ev:=En->Option Sl
section
variable(K:Qx)(C:Qd)
noncomputable def SE(te:TE)(ev:Ev):Prop:=∀(B H0 H:Hp) (σ:St) (E:En) (r:Sl) (Q:VK),EnvR K C B H0 H σ E->ev E=some r ->
 (∀v H0' H',Step H H0 H H0' H'->RR K C H H0' H' v r->Q v H')->te σ H Q
noncomputable def ST(t:TT)(ev:En->Option Bool):Prop:=∀(B H0 H:Hp) (σ:St) (E:En) (r:Bool) (Q:Bool->Hp->Prop),EnvR K C B H0 H σ E->ev E=some r ->
 (∀H0' H',Step H H0 H H0' H'->Q r H')->t σ H Q
inductive RRL (Hs H0 H:Hp):List V->List Sl->Prop
 | nil:RRL Hs H0 H [] []
 | cons {v:V} {s:Sl} {vs:List V} {ss:List Sl}:RR K C Hs H0 H v s->RRL Hs H0 H vs ss->RRL Hs H0 H (v::vs) (s::ss)
noncomputable def SA(t:TA)(ev:En->Option (List Sl)):Prop:=∀(B H0 H:Hp) (σ:St) (E:En) (r:List Sl) (Q:List V->Hp->Prop),EnvR K C B H0 H σ E->ev E=some r ->
 (∀vs H0' H',Step H H0 H H0' H'->RRL K C H H0' H' vs r->Q vs H')->t σ H Q
noncomputable def OpS(r:R2)(f:Sl->Sl->Option Sl):Prop:=∀(Hs H0 H:Hp) (x y:V) (a b c:Sl) (Q:VK),Same H0 H->Same Hs H->RR K C Hs H0 H x a->RR K C Hs H0 H y b->f a b=some c ->
 (∀v H0' H',Step Hs H0 H H0' H'->RR K C Hs H0' H' v c->Q v H')->r x y H Q
noncomputable def UnS(r:V->Hp->VK->Prop)(f:Sl->Option Sl):Prop:=∀(Hs H0 H:Hp) (x:V) (a c:Sl) (Q:VK),Same H0 H->Same Hs H->RR K C Hs H0 H x a->f a=some c ->
 (∀v H0' H',Step Hs H0 H H0' H'->RR K C Hs H0' H' v c->Q v H')->r x H Q
noncomputable def WP(r:List V->Hp->VK->Prop)(f:List Sl->Option Sl):Prop:=∀(Hs H0 H:Hp) (xs:List V) (as:List Sl) (c:Sl) (Q:VK),Same H0 H->Same Hs H->RRL K C Hs H0 H xs as->f as=some c ->
 (∀v H0' H',Step Hs H0 H H0' H'->RR K C Hs H0' H' v c->Q v H')->r xs H Q
end

noncomputable def Ja(i:Nat):Ev:=fun E=>match E[i]? with
 | some (.sh d)=>some (.sh d)
 | some (.bo ds)=>some (.bo ds)
 | some (.own ds)=>some (.bo ds)
 | some (.bd ks ds)=>some (.bd ks ds)
 | some (.od ks ds)=>some (.bd ks ds)
 | some (.bt ks ds)=>some (.bt ks ds)
 | some (.ot ks ds)=>some (.bt ks ds)
 | _=>none
noncomputable def eC(d:D):Ev:=fun _=>some (.sh d)
noncomputable def e2(f:Sl->Sl->Option Sl)(a b:Ev):Ev:=fun E=>(a E).bind fun x=>(b E).bind fun y=>f x y
noncomputable def e1(f:Sl->Option Sl)(a:Ev):Ev:=fun E=>(a E).bind f
noncomputable def a0:En->Option (List Sl):=fun _=>some []
noncomputable def aC(a:Ev)(as:En->Option (List Sl)):En->Option (List Sl):=fun E=>(a E).bind fun x=>(as E).bind fun xs=>some (x::xs)
noncomputable def eF(f:List Sl->Option Sl)(as:En->Option (List Sl)):Ev:=fun E=>(as E).bind f
noncomputable def bool?:Sl->Option Bool
 | .sh (.bl b)=>some b
 | _=>none
noncomputable def JjG(a b:Ev):Ev:=fun E=>((a E).bind bool?).bind fun k=>if k=true then b E else some (.sh (.bl false))
noncomputable def eIf(c:En->Option Bool)(a b:Ev):Ev:=fun E=>(c E).bind fun k=>if k=true then a E else b E
noncomputable def sh?:Sl->Option D
 | .sh d=>some d
 | _=>none
noncomputable def Jdr(f g:Sl->Sl->Option Sl)(a b c:Ev):Ev:=fun E=>((a E).bind sh?).bind fun x=>((b E).bind sh?).bind fun y=>((f (.sh x) (.sh y)).bind bool?).bind fun k=>if k=true then((c E).bind sh?).bind fun z=>g (.sh y) (.sh z) else some (.sh (.bl false))
noncomputable def tB?(a:Ev):En->Option Bool:=fun E=>(a E).bind bool?
noncomputable def tAnd?(a b:En->Option Bool):En->Option Bool:=fun E=>(a E).bind fun k=>if k=true then b E else some false
noncomputable def tOr?(a b:En->Option Bool):En->Option Bool:=fun E=>(a E).bind fun k=>if k=true then some true else b E
noncomputable def tNot?(a:En->Option Bool):En->Option Bool:=fun E=>(a E).bind fun k=>some (!k)

section
variable{K:Qx}{C:Qd}
theorem bind_some{α β:Type}{x:Option α}{f:α->Option β}{b:β}(e:x.bind f=some b):∃a,x=some a/\f a=some b:=by
 cases x with
 | none=>cases e
 | some a=>exact⟨a,rfl,e⟩
theorem VU{s:Sl}{b:Bool}(e:bool? s=some b):s=.sh (.bl b):=by
 cases s with
 | sh d=>cases d with
  | bl x=>cases e;rfl
  | _=>cases e
 | _=>cases e
variable{ta tb tc te:TE}{ea eb ec:Ev}
theorem JiO(i:Nat):SE K C (Y2 i) (Ja i):=by
 intro B H0 H σ E r Q I e q;unfold Ja at e
 cases h:E[i]? with
 | none=>rw[h] at e;cases e
 | some s =>
  rw[h] at e;rcases I.at' i s h with z|⟨v,h1,h2⟩
  ·subst z;cases e
  ·refine⟨v,h1,q v H0 H (.refl I.h) ?_⟩
   cases s with
   | no=>cases e
   | sh d=>cases e;exact h2
   | bo ds=>cases e;obtain⟨l,xs,e,hl,r⟩:=h2;exact⟨l,xs,e,I.b _ _ hl,r⟩
   | own ds=>cases e;obtain⟨l,xs,e,hl,_,_,r⟩:=h2;exact⟨l,xs,e,hl,r⟩
   | bd ks ds=>cases e;obtain⟨l,xs,e,hl,r⟩:=h2;exact⟨l,xs,e,I.b _ _ hl,r⟩
   | bt ks ds=>cases e;obtain⟨l,xs,e,hl,r⟩:=h2;exact⟨l,xs,e,I.b _ _ hl,r⟩
   | od ks ds=>cases e;obtain⟨l,xs,e,hl,_,_,r⟩:=h2;exact⟨l,xs,e,hl,r⟩
   | ot ks ds=>cases e;obtain⟨l,xs,e,hl,_,_,r⟩:=h2;exact⟨l,xs,e,hl,r⟩
theorem Jqg:SE K C (tC .non) (eC .non):=fun _ _ _ _ _ _ _ I e q=>by cases e;exact q _ _ _ (.refl I.h) .non
theorem Jq3{b:Bool}:SE K C (tC (.bl b)) (eC (.bl b)):=fun _ _ _ _ _ _ _ I e q=>by cases e;exact q _ _ _ (.refl I.h) (.bl b)
theorem Jqc{i:Int}:SE K C (tC (.int i)) (eC (.int i)):=fun _ _ _ _ _ _ _ I e q=>by cases e;exact q _ _ _ (.refl I.h) (.int i)
theorem Jq5{r:R2}{f:Sl->Sl->Option Sl}(ho:OpS K C r f)(ha:SE K C ta ea)(hb:SE K C tb eb):SE K C (tOp r ta tb) (e2 f ea eb):=by
 intro B H0 H σ E c Q I e q;obtain⟨a,e1,e⟩:=bind_some e;obtain⟨b,e2,e⟩:=bind_some e;exact ha B H0 H σ E a _ I e1 fun x H1 H1' s1 r1=>hb B H1 H1' σ E b _ (I.step s1) e2 fun y H2 H2' s2 r2=>ho H H2 H2' x y a b c Q s2.i (s1.h.trans s2.h) (r1.step s2) (r2.weak fun a q=>Same.free s1.h q) e fun v H3 H3' s3 r3=>q v H3 H3' ((s1.trans s2).comp s3 fun _ z=>z) r3
theorem Jq7{r:V->Hp->VK->Prop}{f:Sl->Option Sl}(ho:UnS K C r f)(ha:SE K C ta ea):SE K C (tUn r ta) (e1 f ea):=by intro B H0 H σ E c Q I e q;obtain⟨a,e1,e⟩:=bind_some e;exact ha B H0 H σ E a _ I e1 fun x H1 H1' s1 r1=>ho H H1 H1' x a c Q s1.i s1.h r1 e fun v H3 H3' s3 r3=>q v H3 H3' (s1.comp s3 fun _ z=>z) r3
theorem Jqf:SA K C Vl a0:=fun _ _ _ _ _ _ _ I e q=>by cases e;exact q _ _ _ (.refl I.h) .nil
theorem RRL.step{Hs H0 H H0' H':Hp}{vs:List V}{ss:List Sl}(r:RRL K C Hs H0 H vs ss)(st:Step H H0 H H0' H'):RRL K C Hs H0' H' vs ss:=by
 induction r with
 | nil=>exact .nil
 | cons h _ ih=>exact .cons (h.step st) ih
theorem RRL.weak{Hs Hs' H0 H:Hp}{vs:List V}{ss:List Sl}(r:RRL K C Hs' H0 H vs ss)(w:∀a,Hs' a=none->Hs a=none):RRL K C Hs H0 H vs ss:=by
 induction r with
 | nil=>exact .nil
 | cons h _ ih=>exact .cons (h.weak w) ih
theorem Jot{tr:TA}{er:En->Option (List Sl)}(ha:SE K C ta ea)(hr:SA K C tr er):SA K C (Y0 ta tr) (aC ea er):=by
 intro B H0 H σ E c Q I e q;obtain⟨a,e1,e⟩:=bind_some e;obtain⟨b,e2,e⟩:=bind_some e;cases e;exact ha B H0 H σ E a _ I e1 fun x H1 H1' s1 r1=>hr B H1 H1' σ E b _ (I.step s1) e2 fun y H2 H2' s2 r2=>q _ H2 H2' (s1.trans s2) (.cons (r1.step s2) (r2.weak fun a q=>Same.free s1.h q))
theorem Jq2{r:List V->Hp->VK->Prop}{t:TA}{ev:En->Option (List Sl)}{f:List Sl->Option Sl}(hc:WP K C r f)(ha:SA K C t ev):SE K C (tCB r t) (eF f ev):=by intro B H0 H σ E c Q I e q;obtain⟨a,e1,e⟩:=bind_some e;exact ha B H0 H σ E a _ I e1 fun x H1 H1' s1 r1=>hc H H1 H1' x a c Q s1.i s1.h r1 e fun v H3 H3' s3 r3=>q v H3 H3' (s1.comp s3 fun _ z=>z) r3
theorem Jp5(ha:SE K C ta ea)(hb:SE K C tb eb):SE K C (JiZ ta tb) (JjG ea eb):=by
 intro B H0 H σ E c Q I e q;obtain⟨k,e1,e⟩:=bind_some e;obtain⟨a,e0,e1⟩:=bind_some e1;refine ha B H0 H σ E a _ I e0 fun x H1 H1' s1 r1=>?_
 rw[VU e1] at r1;refine⟨k,RD.blI r1,?_⟩
 cases k with
 | true=>exact hb B H1 H1' σ E c Q (I.step s1) e fun y H2 H2' s2 r2=>q y H2 H2' (s1.trans s2) (r2.weak fun a q=>Same.free s1.h q)
 | false=>cases e;exact q _ _ _ s1 (RD.bl false)
theorem Jqb{c:TT}{cv:En->Option Bool}(hc:ST K C c cv)(ha:SE K C ta ea)(hb:SE K C tb eb):SE K C (tIf c ta tb) (eIf cv ea eb):=by
 intro B H0 H σ E r Q I e q;obtain⟨k,e1,e⟩:=bind_some e;refine hc B H0 H σ E k _ I e1 fun H1 H1' s1=>?_
 cases k with
 | true=>exact ha B H1 H1' σ E r Q (I.step s1) e fun y H2 H2' s2 r2=>q y H2 H2' (s1.trans s2) (r2.weak fun a q=>Same.free s1.h q)
 | false=>exact hb B H1 H1' σ E r Q (I.step s1) e fun y H2 H2' s2 r2=>q y H2 H2' (s1.trans s2) (r2.weak fun a q=>Same.free s1.h q)
theorem WL{s:Sl}{d:D}(e:sh? s=some d):s=.sh d:=by
 cases s with
 | sh d'=>cases e;rfl
 | _=>cases e
theorem Jlh{r r':R2}{f g:Sl->Sl->Option Sl}(ho:OpS K C r f)(ho':OpS K C r' g)(ha:SE K C ta ea)(hb:SE K C tb eb)(hc:SE K C tc ec):SE K C (Jef r r' ta tb tc) (Jdr f g ea eb ec):=by
 intro B H0 H σ E c Q I e q;obtain⟨a,e1,e⟩:=bind_some e;obtain⟨a',e1,f1⟩:=bind_some e1;obtain rfl:=WL f1;obtain⟨b,e2,e⟩:=bind_some e;obtain⟨b',e2,f2⟩:=bind_some e2;obtain rfl:=WL f2;obtain⟨k,e3,e⟩:=bind_some e;obtain⟨z,e4,e3⟩:=bind_some e3;refine ha B H0 H σ E _ _ I e1 fun x H1 H1' s1 r1=>hb B H1 H1' σ E _ _ (I.step s1) e2 fun y H2 H2' s2 r2=>?_
 have x2:RD K C H2 x a:=RD.mono s2.z r1
 have y2:RD K C H2 y b:=r2;refine ho H2' H2 H2' x y (.sh a) (.sh b) z _ s2.i (Same.refl _) x2 y2 e4 fun w H3 H3' s3 r3=>?_
 rw[VU e3] at r3;have s13:=(s1.trans s2).trans s3;refine⟨k,RD.blI r3,?_⟩
 cases k with
 | false=>cases e;exact q _ _ _ s13 (RD.bl false)
 | true =>
  obtain⟨d,e5,e⟩:=bind_some e;obtain⟨d',e5,f5⟩:=bind_some e5;obtain rfl:=WL f5;refine hc B H3 H3' σ E _ _ (I.step s13) e5 fun u H4 H4' s4 r4=>?_
  exact ho' H H4 H4' y u (.sh b) (.sh d) c Q s4.i (s13.h.trans s4.h) (RD.mono (s3.z.trans s4.z) y2) (show RD K C H4 u d from r4) e fun v H5 H5' s5 r5=>q v H5 H5' ((s13.trans s4).comp s5 fun _ z=>z) r5

theorem Jox(ha:SE K C te ea):ST K C (Ji6 te) (tB? ea):=by
 intro B H0 H σ E k Q I e q;obtain⟨a,e1,e⟩:=bind_some e;refine ha B H0 H σ E a _ I e1 fun x H1 H1' s1 r1=>?_
 rw[VU e] at r1;exact⟨k,RD.blI r1,q _ _ s1⟩
theorem Jov{c d:TT}{ev ew:En->Option Bool}(hc:ST K C c ev)(hd:ST K C d ew):ST K C (JoC c d) (tAnd? ev ew):=by
 intro B H0 H σ E k Q I e q;obtain⟨a,e1,e⟩:=bind_some e;refine hc B H0 H σ E a _ I e1 fun H1 H1' s1=>?_
 cases a with
 | true=>exact hd B H1 H1' σ E k Q (I.step s1) e fun H2 H2' s2=>q H2 H2' (s1.trans s2)
 | false=>cases e;exact q _ _ s1
theorem Jqi{c d:TT}{ev ew:En->Option Bool}(hc:ST K C c ev)(hd:ST K C d ew):ST K C (tOr c d) (tOr? ev ew):=by
 intro B H0 H σ E k Q I e q;obtain⟨a,e1,e⟩:=bind_some e;refine hc B H0 H σ E a _ I e1 fun H1 H1' s1=>?_
 cases a with
 | false=>exact hd B H1 H1' σ E k Q (I.step s1) e fun H2 H2' s2=>q H2 H2' (s1.trans s2)
 | true=>cases e;exact q _ _ s1
theorem Jow{c:TT}{ev:En->Option Bool}(hc:ST K C c ev):ST K C (JoD c) (tNot? ev):=by intro B H0 H σ E k Q I e q;obtain⟨a,e1,e⟩:=bind_some e;cases e;exact hc B H0 H σ E a _ I e1 fun H1 H1' s1=>q _ _ s1
end

noncomputable def Sl.m:Sl->Option (List D)
 | .sh (.lst ds)=>some ds
 | .bo ds=>some ds
 | .own ds=>some ds
 | _=>none
noncomputable def Sl.r:Sl->Option (List D)
 | .sh (.lst ds)=>some ds
 | .sh (.fz ds)=>some ds
 | .bo ds=>some ds
 | .own ds=>some ds
 | _=>none
noncomputable def Sl.q:Sl->Option (List D)
 | .sh (.lst ds)=>some ds
 | .sh (.fz ds)=>some ds
 | .sh (.tup ds)=>some ds
 | .bo ds=>some ds
 | .own ds=>some ds
 | _=>none
noncomputable def Sl.d:Sl->Option D
 | .sh d=>some d
 | .bo ds=>some (.lst ds)
 | .own ds=>some (.lst ds)
 | .bd ks ds=>some (.dct ks ds)
 | .od ks ds=>some (.dct ks ds)
 | .bt _ _=>none
 | .ot _ _=>none
 | .no=>none
section
variable{K:Qx}{C:Qd}{Hs H0 H:Hp}{v:V}{s:Sl}{ds:List D}{d:D}
theorem RR.m(r:RR K C Hs H0 H v s)(i:Same H0 H)(e:s.m=some ds):∃l xs,v=.ref l/\H l=some (.lst xs)/\RDL K C H0 xs ds:=by
 cases s with
 | no=>cases e
 | bo es=>cases e;exact r
 | own es=>cases e;obtain⟨l,xs,h1,h2,_,_,h3⟩:=r;exact⟨l,xs,h1,h2,h3⟩
 | bd _ _=>cases e
 | bt _ _=>cases e
 | od _ _=>cases e
 | ot _ _=>cases e
 | sh d=>cases d with
  | lst es=>cases e;obtain⟨l,xs,h1,h2,h3⟩:=RD.lstI r;exact⟨l,xs,h1,i _ _ h2,h3⟩
  | _=>cases e
theorem RR.r(r:RR K C Hs H0 H v s)(i:Same H0 H)(e:s.r=some ds):∃l xs,v=.ref l/\SqL K H l xs/\RDL K C H0 xs ds:=by
 cases s with
 | no=>cases e
 | bo es=>cases e;obtain⟨l,xs,h1,h2,h3⟩:=r;exact⟨l,xs,h1,.of h2,h3⟩
 | own es=>cases e;obtain⟨l,xs,h1,h2,_,_,h3⟩:=r;exact⟨l,xs,h1,.of h2,h3⟩
 | bd _ _=>cases e
 | bt _ _=>cases e
 | od _ _=>cases e
 | ot _ _=>cases e
 | sh d=>cases d with
  | lst es=>cases e;obtain⟨l,xs,h1,h2,h3⟩:=RD.lstI r;exact⟨l,xs,h1,.of (i _ _ h2),h3⟩
  | fz es=>cases e;obtain⟨l,xs,h1,h2,h3⟩:=RD.fzI r;exact⟨l,xs,h1,i.seq h2,h3⟩
  | _=>cases e
theorem RR.q(r:RR K C Hs H0 H v s)(i:Same H0 H)(e:s.q=some ds):∃l xs,v=.ref l/\(SqL K H l xs\/SqT K H l xs)/\RDL K C H0 xs ds:=by
 cases s with
 | no=>cases e
 | bo es=>cases e;obtain⟨l,xs,h1,h2,h3⟩:=r;exact⟨l,xs,h1,.inl (.of h2),h3⟩
 | own es=>cases e;obtain⟨l,xs,h1,h2,_,_,h3⟩:=r;exact⟨l,xs,h1,.inl (.of h2),h3⟩
 | bd _ _=>cases e
 | bt _ _=>cases e
 | od _ _=>cases e
 | ot _ _=>cases e
 | sh d=>cases d with
  | lst es=>cases e;obtain⟨l,xs,h1,h2,h3⟩:=RD.lstI r;exact⟨l,xs,h1,.inl (.of (i _ _ h2)),h3⟩
  | fz es=>cases e;obtain⟨l,xs,h1,h2,h3⟩:=RD.fzI r;exact⟨l,xs,h1,.inl (i.seq h2),h3⟩
  | tup es=>cases e;obtain⟨l,xs,h1,h2,h3⟩:=RD.tupI r;exact⟨l,xs,h1,.inr (i.seqT h2),h3⟩
  | _=>cases e
theorem RR.dat(r:RR K C Hs H0 H v s)(i:Same H0 H)(e:s.d=some d):RD K C H v d:=by
 cases s with
 | no=>cases e
 | bo es=>cases e;obtain⟨l,xs,h1,h2,h3⟩:=r;subst h1;exact .mkL h2 (h3.mono i)
 | own es=>cases e;obtain⟨l,xs,h1,h2,_,_,h3⟩:=r;subst h1;exact .mkL h2 (h3.mono i)
 | bd _ _=>cases e;obtain⟨l,xs,h1,h2,hk,h3⟩:=r;subst h1;exact .mkD h2 hk (h3.mono i)
 | bt _ _=>cases e
 | od _ _=>cases e;obtain⟨l,xs,h1,h2,_,_,hk,h3⟩:=r;subst h1;exact .mkD h2 hk (h3.mono i)
 | ot _ _=>cases e
 | sh d'=>cases e;exact RD.mono i r
theorem Y4{p:Qd}{xs:List V}{Q:VK}(i:Same H0 H)(hs:Same Hs H)(hp:H p=none)(r:RDL K C H0 xs ds)(q:∀v H0' H',Step Hs H0 H H0' H'->RR K C Hs H0' H' v (.own ds)->Q v H'):Q (.ref p) (upd H p (.lst xs)) :=
 q _ H0 _ ⟨.new hp,Same.refl _,fun _ _ e=>.inl e,i.trans (.new hp)⟩ ⟨p,xs,rfl,Jk,Same.free i hp,Same.free hs hp,r⟩
theorem WM{p:Qd}{xs:List V}{Q:VK}(i:Same H0 H)(hs:Same Hs H)(hp:H p=none)(r:RDL K C H0 xs ds)(q:∀v H0' H',Step Hs H0 H H0' H'->RR K C Hs H0' H' v (.sh (.tup ds))->Q v H'):Q (.ref p) (upd H p (.tup xs)):=by
 have h0:H0 p=none:=Same.free i hp;refine q _ (upd H0 p (.tup xs)) _ ⟨.new hp,.new h0,fun a o e=>?_,fun a o e=>?_⟩ ?_
 ·by_cases h:a=p
  ·subst h;exact .inr (.inl (Same.free hs hp))
  ·rw[Je h] at e;exact .inl e
 ·by_cases h:a=p
  ·subst h;rw[Jk] at e ⊢;exact e
  ·rw[Je h] at e ⊢;exact i a o e
 ·exact RD.mkT (.of Jk) (r.mono (.new h0))
end

noncomputable def fI(g:Int->Int->D):Sl->Sl->Option Sl
 | .sh (.int a),.sh (.int b)=>some (.sh (g a b))
 | _,_=>none
noncomputable def fIc(c:Int->Int->Bool)(g:Int->Int->D):Sl->Sl->Option Sl
 | .sh (.int a),.sh (.int b)=>if c a b=true then some (.sh (g a b)) else none
 | _,_=>none
noncomputable def Jf9(x y:Sl):Option Sl:=x.m.bind fun a=>y.m.bind fun b=>if a.length+b.length<=Qt then some (.own (a++b)) else none
noncomputable def JT:Sl->Sl->Option Sl
 | .sh (.int a),.sh (.int b)=>some (.sh (.int (a+b)))
 | .sh (.str a),.sh (.str b)=>if a.length+b.length<=Qt then some (.sh (.str (a++b))) else none
 | .sh (.tup a),.sh (.tup b)=>if a.isEmpty=false/\b.isEmpty=false/\a.length+b.length<=Qt then some (.sh (.tup (a++b))) else none
 | .sh (.lst a),y=>Jf9 (.sh (.lst a)) y
 | .bo a,y=>Jf9 (.bo a) y
 | .own a,y=>Jf9 (.own a) y
 | _,_=>none
noncomputable abbrev Yo:=fI fun a b=>.int (a-b)
noncomputable abbrev fLt:=fI fun a b=>.bl (decide (a<b))
noncomputable abbrev fLe:=fI fun a b=>.bl (decide (a<=b))
noncomputable abbrev fGt:=fI fun a b=>.bl (decide (b<a))
noncomputable abbrev fGe:=fI fun a b=>.bl (decide (b<=a))
noncomputable def VO(a:Int):Bool:=R4 a.natAbs 18446744073709551615
theorem Ux{a:Int}:VO a=true↔-18446744073709551616<a/\a<18446744073709551616:=by unfold VO;rw[Lk];omega
noncomputable def JbJ(a:Int):Bool:=R4 a.natAbs 1073741823 && decide (0<a)
theorem smallP_ok{a:Int}:JbJ a=true↔0<a/\a<1073741824:=by unfold JbJ;rw[QX,Lk,decide_eq_true_eq];omega
noncomputable abbrev Yl:=fIc (fun a b=>VO a || VO b) fun a b=>.int (a*b)
noncomputable abbrev UG:=fIc (fun _ b=>decide (0<b)) fun a b=>.int (a % b)
noncomputable abbrev Ja4:=fIc (fun _ b=>JbJ b) fun a b=>.int (a / b)
noncomputable abbrev Jdz:=fIc (fun a b=>decide (0<=b) && R4 b.natAbs 1000000 && VO a) fun a b=>.int (a ^ b.toNat)
noncomputable def Jga:Sl->Option Sl
 | .sh (.int a)=>some (.sh (.int (-a)))
 | _=>none
noncomputable def eqD(d e:D):Option Bool:=if (d.py.canLay0 && e.py.canLay0 && decide (min d.py.depth e.py.depth<=60))=true then some (LV d.py e.py) else none
noncomputable def eqA:D->D->Option Bool
 | .int a,.int b=>some (decide (a=b))
 | .str a,.str b=>some (decide (a=b))
 | .bl a,.bl b=>some (decide (a=b))
 | .non,.non=>some true
 | .non,.int _=>some false
 | .int _,.non=>some false
 | .non,.str _=>some false
 | .str _,.non=>some false
 | .non,.bl _=>some false
 | .bl _,.non=>some false
 | .int _,.str _=>some false
 | .str _,.int _=>some false
 | d,e=>eqD d e
noncomputable def fEq(x y:Sl):Option Sl:=x.d.bind fun d=>y.d.bind fun e=>(eqA d e).map fun k=>.sh (.bl k)
noncomputable def fNe(x y:Sl):Option Sl:=x.d.bind fun d=>y.d.bind fun e=>(eqA d e).map fun k=>.sh (.bl (!k))
noncomputable def D.isNon:D->Bool
 | .non=>true
 | _=>false
noncomputable def fIs:Sl->Sl->Option Sl
 | x,.sh .non=>x.d.map fun d=>.sh (.bl d.isNon)
 | _,_=>none
noncomputable def Ja5:Sl->Sl->Option Sl
 | x,.sh .non=>x.d.map fun d=>.sh (.bl (!d.isNon))
 | _,_=>none
noncomputable def fIx:Sl->Sl->Option Sl
 | .sh (.str z),.sh (.int i)=>if z.length<=Qt then(atI z.cps.toList i).map fun c=>.sh (.str ⟨#[c]⟩) else none
 | x,.sh (.int i)=>x.q.bind fun ds=>(atI ds i).map .sh
 | _,_=>none
section
variable{K:Qx}{C:Qd}
theorem o_I{g:Int->Int->V}{g':Int->Int->D}(h:∀i j H,RD K C H (g i j) (g' i j)):OpS K C (rI0 g) (fI g'):=by
 intro Hs H0 H x y a b c Q i hs ra rb e q;unfold fI at e;split at e
 ·cases e;exact⟨_,_,RD.intI ra,RD.intI rb,q _ _ _ (.refl i) (h _ _ _)⟩
 ·cases e
theorem JkB{P:Int->Int->Prop}{c':Int->Int->Bool}{g:Int->Int->V}{g':Int->Int->D}(hp:∀i j,c' i j=true->P i j)(h:∀i j H,RD K C H (g i j) (g' i j)):OpS K C (rI P g) (fIc c' g'):=by
 intro Hs H0 H x y a b c Q i hs ra rb e q;unfold fIc at e;split at e
 ·split at e
  ·cases e;exact⟨_,_,RD.intI ra,RD.intI rb,hp _ _ (by assumption),q _ _ _ (.refl i) (h _ _ _)⟩
  ·cases e
 ·cases e
theorem JpH:OpS K C (rI0 fun i j=>.int (i-j)) Yo:=o_I fun _ _ _=>.int _
theorem JqU:OpS K C (rI0 fun i j=>.bl (decide (i<j))) fLt:=o_I fun _ _ _=>.bl _
theorem JqT:OpS K C (rI0 fun i j=>.bl (decide (i<=j))) fLe:=o_I fun _ _ _=>.bl _
theorem JqQ:OpS K C (rI0 fun i j=>.bl (decide (j<i))) fGt:=o_I fun _ _ _=>.bl _
theorem JqP:OpS K C (rI0 fun i j=>.bl (decide (j<=i))) fGe:=o_I fun _ _ _=>.bl _
theorem JpE:OpS K C (rI CMul fun i j=>.int (i*j)) Yl:=JkB (fun i j h=>by simp only[LA,Ux] at h;exact h) fun _ _ _=>.int _
theorem JpD:OpS K C (rI (fun _ j=>0<j) fun i j=>.int (i % j)) UG:=JkB (fun i j h=>by simpa using h) fun _ _ _=>.int _
theorem JpC:OpS K C (rI JoW fun i j=>.int (i / j)) Ja4:=JkB (fun i j h=>smallP_ok.mp h) fun _ _ _=>.int _
theorem JpF:OpS K C (rI JoX fun i j=>.int (i ^ j.toNat)) Jdz:=JkB (fun i j h=>by simp only[QX,decide_eq_true_eq,Lk,Ux] at h;refine⟨h.1.1,by omega,?_⟩;show i.natAbs<18446744073709551616;omega) fun _ _ _=>.int _
theorem Jqt:UnS K C (rU fun i=>.int (-i)) Jga:=by
 intro Hs H0 H x a c Q i hs ra e q;unfold Jga at e;split at e
 ·cases e;exact⟨_,RD.intI ra,q _ _ _ (.refl i) (RD.int _)⟩
 ·cases e
noncomputable def Jiw(K:Qx):R2:=fun x y H Q=>Jfm K x y H Q\/Jmg K x y H Q
theorem Jw{X:Cx}(hK:X.K=K):OpR X (binaryOp .Add) (Jiw K):=(Jff hK).or (hK▸JkH)
theorem JpB:OpS K C (Jiw K) JT:=by
 intro Hs H0 H x y a b c Q i hs ra rb e q
 have cat:∀{a b:Sl},RR K C Hs H0 H x a->RR K C Hs H0 H y b->Jf9 a b=some c->Jiw K x y H Q:=by
  intro a b ra rb e;obtain⟨xs,e1,e⟩:=bind_some e;obtain⟨ys,e2,e⟩:=bind_some e;split at e
  ·next hz=>cases e;obtain⟨l,us,rfl,h1,r1⟩:=ra.m i e1;obtain⟨l',ws,rfl,h2,r2⟩:=rb.m i e2;exact .inl (.inr (.inr ⟨l,l',us,ws,rfl,rfl,h1,h2,by rw[r1.1,r2.1];exact hz,fun p hp=>Y4 i hs hp (r1.append r2) q⟩))
  ·cases e
 unfold JT at e;split at e
 ·cases e;exact .inl (.inl ⟨_,_,RD.intI ra,RD.intI rb,q _ _ _ (.refl i) (RD.int _)⟩)
 ·split at e
  ·cases e;exact .inl (.inr (.inl ⟨_,_,RD.strI ra,RD.strI rb,by assumption,q _ _ _ (.refl i) (RD.str _)⟩))
  ·cases e
 ·split at e
  ·next hz =>
   cases e;obtain⟨l,us,rfl,h1,r1⟩:=RD.tupI ra;obtain⟨l',ws,rfl,h2,r2⟩:=RD.tupI rb;have n1:us≠[]:=by rintro rfl;have:=r1.1;have z:=hz.1;simp at this;rw[QU this.symm] at z;cases z
   have n2:ws≠[]:=by rintro rfl;have:=r2.1;have z:=hz.2.1;simp at this;rw[QU this.symm] at z;cases z
   exact .inr ⟨l,l',us,ws,rfl,rfl,i.seqT h1,i.seqT h2,n1,by rw[r1.1,r2.1];exact hz.2.2,fun z=>absurd z n2,fun _ p hp=>WM i hs hp (r1.append r2) q⟩
  ·cases e
 ·exact cat ra rb e
 ·exact cat ra rb e
 ·exact cat ra rb e
 ·cases e
theorem Jcf{d e:D}{k:Bool}(h:eqD d e=some k):d.py.canLay0=true/\e.py.canLay0=true/\min d.py.depth e.py.depth<=60/\k=LV d.py e.py:=by
 unfold eqD at h;split at h
 ·next z=>cases h;simp only[QX,decide_eq_true_eq] at z;exact⟨z.1.1,z.1.2,z.2,rfl⟩
 ·cases h
theorem map_some{α β:Type}{x:Option α}{f:α->β}{b:β}(e:x.map f=some b):∃a,x=some a/\f a=b:=by
 cases x with
 | none=>cases e
 | some a=>cases e;exact⟨a,rfl,rfl⟩
theorem Jce{H:Hp}{x y:V}{d e:D}{k:Bool}(h:eqA d e=some k)(rx:RD K C H x d)(ry:RD K C H y e):(Joy x y=true/\decide (x=y)=k)\/eqD d e=some k:=by
 unfold eqA at h;split at h
 ·cases h;rw[RD.intI rx,RD.intI ry];exact .inl ⟨rfl,by simp⟩
 ·cases h;rw[RD.strI rx,RD.strI ry];exact .inl ⟨rfl,by simp⟩
 ·cases h;rw[RD.blI rx,RD.blI ry];exact .inl ⟨rfl,by simp⟩
 ·cases h;rw[RD.nonI rx,RD.nonI ry];exact .inl ⟨rfl,by simp⟩
 ·cases h;rw[RD.nonI rx,RD.intI ry];exact .inl ⟨rfl,by simp⟩
 ·cases h;rw[RD.intI rx,RD.nonI ry];exact .inl ⟨rfl,by simp⟩
 ·cases h;rw[RD.nonI rx,RD.strI ry];exact .inl ⟨rfl,by simp⟩
 ·cases h;rw[RD.strI rx,RD.nonI ry];exact .inl ⟨rfl,by simp⟩
 ·cases h;rw[RD.nonI rx,RD.blI ry];exact .inl ⟨rfl,by simp⟩
 ·cases h;rw[RD.blI rx,RD.nonI ry];exact .inl ⟨rfl,by simp⟩
 ·cases h;rw[RD.intI rx,RD.strI ry];exact .inl ⟨rfl,by simp⟩
 ·cases h;rw[RD.strI rx,RD.intI ry];exact .inl ⟨rfl,by simp⟩
 ·exact .inr h
theorem JqO:OpS K C (Jix K) fEq:=by
 intro Hs H0 H x y a b c Q i hs ra rb e q;obtain⟨d,e1,e⟩:=bind_some e;obtain⟨d',e2,e⟩:=bind_some e;obtain⟨k,e3,rfl⟩:=map_some e;have r1:=ra.dat i e1;have r2:=rb.dat i e2;rcases Jce e3 r1 r2 with ⟨h1,h2⟩|h
 ·exact .inl ⟨h1,by rw[h2];exact q _ _ _ (.refl i) (RD.bl _)⟩
 ·obtain⟨h1,h2,h3,rfl⟩:=Jcf h;exact .inr ⟨_,_,r1.rep h1,r2.rep h2,h1,h2,h3,q _ _ _ (.refl i) (RD.bl _)⟩
theorem JqV:OpS K C (JiA K) fNe:=by
 intro Hs H0 H x y a b c Q i hs ra rb e q;obtain⟨d,e1,e⟩:=bind_some e;obtain⟨d',e2,e⟩:=bind_some e;obtain⟨k,e3,rfl⟩:=map_some e;have r1:=ra.dat i e1;have r2:=rb.dat i e2;rcases Jce e3 r1 r2 with ⟨h1,h2⟩|h
 ·exact .inl ⟨h1,by rw[h2];exact q _ _ _ (.refl i) (RD.bl _)⟩
 ·obtain⟨h1,h2,h3,rfl⟩:=Jcf h;exact .inr ⟨_,_,r1.rep h1,r2.rep h2,h1,h2,h3,q _ _ _ (.refl i) (RD.bl _)⟩
theorem Jco{H:Hp}{x:V}{d:D}(r:RD K C H x d):decide (x=.non)=d.isNon:=by cases r <;> simp[D.isNon]
theorem JqR:OpS K C JnU fIs:=by
 intro Hs H0 H x y a b c Q i hs ra rb e q;unfold fIs at e;split at e
 ·obtain⟨d,e1,rfl⟩:=map_some e;refine⟨RD.nonI rb,?_⟩;rw[Jco (ra.dat i e1)];exact q _ _ _ (.refl i) (RD.bl _)
 ·cases e
theorem JkC:OpS K C JiB Ja5:=by
 intro Hs H0 H x y a b c Q i hs ra rb e q;unfold Ja5 at e;split at e
 ·obtain⟨d,e1,rfl⟩:=map_some e;refine⟨RD.nonI rb,?_⟩;rw[Jco (ra.dat i e1)];exact q _ _ _ (.refl i) (RD.bl _)
 ·cases e
theorem RDL.atI{H:Hp}{xs:List V}{ds:List D}{i:Int}{d:D}(r:RDL K C H xs ds)(e:L2.atI ds i=some d):∃x,L2.atI xs i=some x/\RD K C H x d:=by unfold L2.atI at e ⊢;rw[r.1];obtain⟨j,e1,e⟩:=bind_some e;obtain⟨x,e2,r2⟩:=r.get e;exact⟨x,by rw[e1];exact e2,r2⟩
theorem JqS:OpS K C (rIx K) fIx:=by
 intro Hs H0 H x y a b c Q i hs ra rb e q;unfold fIx at e;split at e
 ·split at e
  ·obtain⟨z,e1,rfl⟩:=map_some e;rw[RD.strI ra,RD.intI rb];exact Jn9 (by assumption) e1 (q _ _ _ (.refl i) (RD.str _))
  ·cases e
 ·obtain⟨ds,e1,e⟩:=bind_some e;obtain⟨d,e2,rfl⟩:=map_some e;obtain⟨l,xs,rfl,h,r⟩:=ra.q i e1;obtain⟨v,e3,r3⟩:=r.atI e2;rw[RD.intI rb];rcases h with h|h
  ·exact Jn8 h e3 (q _ _ _ (.refl i) r3)
  ·exact Joa h e3 (q _ _ _ (.refl i) r3)
 ·cases e
end
end LE

namespace LE
open PySem L2 LR

noncomputable def W8:List Sl->Option (List D)
 | []=>some []
 | s::ss=>s.frz.bind fun d=>(W8 ss).bind fun ds=>some (d::ds)
noncomputable def YQ(as:En->Option (List Sl)):Ev:=fun E=>(as E).bind fun ss=>(W8 ss).bind fun ds=>if ds.length<=100 then some (.sh (.tup ds)) else none
noncomputable def YO(as:En->Option (List Sl)):Ev:=fun E=>(as E).bind fun ss=>(W8 ss).bind fun ds=>if ds.length<=100 then some (.own ds) else none
section
variable{K:Qx}{C:Qd}{t:TA}{ev:En->Option (List Sl)}{Hs H0 H:Hp}{ta te:TE}{ea:Ev}
theorem RRL.frz{vs:List V}{ss:List Sl}(i:Same H0 H)(r:RRL K C Hs H0 H vs ss):∀{ds:List D},W8 ss=some ds->RDL K C (Ye Hs H0 H) vs ds:=by
 induction r with
 | nil=>intro ds e;cases e;exact .nil
 | cons h _ ih=>intro ds e;obtain⟨d,e1,e⟩:=bind_some e;obtain⟨ds',e2,e⟩:=bind_some e;cases e;exact .cons (h.frz i e1) (ih e2)
theorem Jqk(ha:SA K C t ev):SE K C (JoE t) (YQ ev):=by
 intro B H0 H σ E c Q I e q;obtain⟨ss,e1,e⟩:=bind_some e;obtain⟨ds,e2,e⟩:=bind_some e;split at e
 ·next hl =>
  cases e;refine ha B H0 H σ E ss _ I e1 fun vs H1 H1' s1 r1=>?_
  have f:=JN (Hs:=H) s1.i
  have r2:=r1.frz s1.i e2;exact⟨by rw[r2.1];exact Gb hl (by decide),fun p hp=>WM f.i s1.h hp r2 fun v H2 H2' s2 r2=>q v H2 H2' ((s1.comp f fun _ z=>z).comp s2 fun _ z=>z) r2⟩
 ·cases e
theorem Jqe(ha:SA K C t ev):SE K C (JlI t) (YO ev):=by
 intro B H0 H σ E c Q I e q;obtain⟨ss,e1,e⟩:=bind_some e;obtain⟨ds,e2,e⟩:=bind_some e;split at e
 ·next hl =>
  cases e;refine ha B H0 H σ E ss _ I e1 fun vs H1 H1' s1 r1=>?_
  have f:=JN (Hs:=H) s1.i
  have r2:=r1.frz s1.i e2;exact⟨by rw[r2.1];exact Gb hl (by decide),fun p hp=>Y4 f.i s1.h hp r2 fun v H2 H2' s2 r2=>q v H2 H2' ((s1.comp f fun _ z=>z).comp s2 fun _ z=>z) r2⟩
 ·cases e

noncomputable def Sl.pass:Sl->Option Sl
 | .sh d=>some (.sh d)
 | .own ds=>some (.sh (.lst ds))
 | .bo ds=>some (.bo ds)
 | .bd ks ds=>some (.bd ks ds)
 | .od ks ds=>some (.sh (.dct ks ds))
 | .bt _ _=>none
 | .ot _ _=>none
 | .no=>none
end
noncomputable def WJ:List Sl->Option (List Sl)
 | []=>some []
 | s::ss=>s.pass.bind fun d=>(WJ ss).bind fun ds=>some (d::ds)
noncomputable def spE(K:Qx)(C:Qd)(n:Nat)(f:List Sl->Option Sl):Sp:=fun vs H Q _=>TabK K H/\∃H0 as r,Same H0 H/\RRL K C H H0 H vs as/\as.all (fun s=>!JO s)=true/\as.length=n/\f as=some r ∧
 ∀v H0' H',Step H H0 H H0' H'->RR K C H H0' H' v r->Q v H'
noncomputable def eU(n:Nat)(f:List Sl->Option Sl)(as:En->Option (List Sl)):Ev:=fun E=>(as E).bind fun ss=>(WJ ss).bind fun bs=>if bs.length=n then f bs else none
section
variable{K:Qx}{C:Qd}{t:TA}{ev:En->Option (List Sl)}{Hs H0 H:Hp}{ta te:TE}{ea:Ev}
theorem RRL.len{vs:List V}{ss:List Sl}(r:RRL K C Hs H0 H vs ss):vs.length=ss.length:=by
 induction r with
 | nil=>rfl
 | cons _ _ ih=>simp[ih]
theorem Jfy{n:Nat}{f:List Sl->Option Sl}{vs:List V}{Q:VK}{E:XK}(h:spE K C n f vs H Q E):vs.length=n:=by obtain⟨_,H0,as,r,_,h1,_,h2,_⟩:=h;rw[h1.len];exact h2
theorem RR.pass{v:V}{s s':Sl}(i:Same H0 H)(r:RR K C Hs H0 H v s)(e:s.pass=some s'):RR K C H (Ye Hs H0 H) H v s'/\JO s'=false:=by
 have st:Step Hs H0 H (Ye Hs H0 H) H:=JN i
 cases s with
 | no=>cases e
 | sh d=>cases e;exact⟨RD.mono st.z r,rfl⟩
 | own ds=>cases e;exact⟨RR.frz (s:=.own ds) i r rfl,rfl⟩
 | bo ds=>cases e;obtain⟨l,xs,h1,h2,h3⟩:=r;exact⟨⟨l,xs,h1,h2,h3.mono st.z⟩,rfl⟩
 | od ks ds=>cases e;exact⟨RR.frz (s:=.od ks ds) i r rfl,rfl⟩
 | ot ks ds=>cases e
 | bd ks ds=>cases e;obtain⟨l,xs,h1,h2,hk,h3⟩:=r;exact⟨⟨l,xs,h1,h2,hk,h3.mono st.z⟩,rfl⟩
 | bt ks ds=>cases e
theorem RRL.pass{vs:List V}{ss:List Sl}(i:Same H0 H)(r:RRL K C Hs H0 H vs ss):∀{bs:List Sl},WJ ss=some bs->RRL K C H (Ye Hs H0 H) H vs bs/\bs.all (fun s=>!JO s)=true:=by
 induction r with
 | nil=>intro bs e;cases e;exact⟨.nil,rfl⟩
 | cons h _ ih=>intro bs e;obtain⟨d,e1,e⟩:=bind_some e;obtain⟨ds',e2,e⟩:=bind_some e;cases e;obtain⟨h1,h2⟩:=h.pass i e1;obtain⟨h3,h4⟩:=ih e2;exact⟨.cons h1 h3,by rw[List.all_cons,h2,h4];rfl⟩
theorem Jor{n:Nat}{f:List Sl->Option Sl}{X:XK}(ha:SA K C t ev):SE K C (JfD (spE K C n f) [] X t) (eU n f ev):=by
 intro B H0 H σ E c Q I e q;obtain⟨ss,e1,e⟩:=bind_some e;obtain⟨bs,e2,e⟩:=bind_some e;split at e
 ·next hl=>refine Jfp (ha B H0 H σ E ss _ I e1 fun vs H1 H1' s1 r1=>?_);obtain⟨h1,h2⟩:=r1.pass s1.i e2;have f:=JN (Hs:=H) s1.i;exact⟨I.t.mono (I.b.trans s1.h),_,bs,c,f.i,h1,h2,hl,e,fun v H2 H2' s2 r2=>q v H2 H2' ((s1.comp f fun _ z=>z).comp s2 fun a z=>Same.free s1.h z) (r2.weak fun a z=>Same.free s1.h z)⟩
 ·cases e

noncomputable def prE(p:Pr):D:=.tup [.int p.1,.int p.2]
noncomputable def JoO:D->Option Pr
 | .tup [.int a,.int b]=>some (a,b)
 | _=>none
noncomputable def Jdf:List D->Option (List Pr)
 | []=>some []
 | d::ds=>(JoO d).bind fun p=>(Jdf ds).bind fun ps=>some (p::ps)
end
theorem JaN:∀ps:List Pr,Jdf (ps.map prE)=some ps
 | []=>rfl
 | p::ps=>by rw[Qg,Jdf,JaN ps];rfl
theorem JgU{d:D}{p:Pr}(e:JoO d=some p):d=prE p:=by
 unfold JoO at e;split at e
 ·cases e;rfl
 ·cases e
theorem ZP:∀{ds:List D} {ps:List Pr},Jdf ds=some ps->ds=ps.map prE
 | [],_,e=>by cases e;rfl
 | d::ds,_,e=>by obtain⟨p,e1,e⟩:=bind_some e;obtain⟨ps,e2,e⟩:=bind_some e;cases e;rw[JgU e1,ZP e2];rfl
noncomputable def Wk:List Pr->Bool
 | []=>true
 | [p]=>decide (1<=p.2)
 | p::q::r=>decide (1<=p.2) && decide (p.1+p.2<q.1) && Wk (q::r)
theorem Za:∀{ps:List Pr},Wk ps=true->Good ps
 | [],_=>.nil
 | [p],h=>⟨fun i q e=>by
  cases i with
  | zero=>simp at e;subst e;simpa [Wk] using h
  | succ i=>simp at e,fun i q r e1 e2=>by simp at e2⟩
 | p::q::r,h=>by
  simp only[Wk,QX,decide_eq_true_eq] at h;have g:=Za h.2;refine⟨fun i x e=>?_,fun i x y e1 e2=>?_⟩
  ·cases i with
   | zero=>simp at e;subst e;exact h.1.1
   | succ i=>exact g.one i x (by simpa using e)
  ·cases i with
   | zero=>simp at e1 e2;subst e1 e2;exact h.1.2
   | succ i=>exact g.gap i x y (by simpa using e1) (by simpa using e2)
theorem Zb:∀{ps:List Pr},Good ps->Wk ps=true
 | [],_=>rfl
 | [p],g=>by simpa [Wk] using g.one 0 p rfl
 | p::q::r,g=>by
  have g':Good (q::r):=⟨fun i x e=>g.one (i+1) x (by simpa using e),fun i x y e1 e2=>g.gap (i+1) x y (by simpa using e1) (by simpa using e2)⟩
  simp only[Wk,QX,decide_eq_true_eq];exact⟨⟨g.one 0 p rfl,g.gap 0 p q rfl rfl⟩,Zb g'⟩
noncomputable def ZX:List Sl->Option Sl
 | [s]=>s.q.bind fun ds=>(Jdf ds).bind fun ps=>if (Wk ps && decide (ps.length<=30))=true then some (.sh (.row ds)) else none
 | _=>none
noncomputable def Us:Sl->Option Sl
 | .sh (.row ds)=>some (.sh (.tup ds))
 | _=>none
section
variable{K:Qx}{C:Qd}{t:TA}{ev:En->Option (List Sl)}{Hs H0 H:Hp}{ta te:TE}{ea:Ev}
theorem JnO{xs:List V}{ps:List Pr}(r:RDL K C H xs (ps.map prE)):Prs K H xs ps:=by
 refine⟨by rw[r.1];simp,fun i x d h1 h2=>?_⟩;rw[Qo] at h2
 cases e:ps[i]? with
 | none=>rw[e] at h2;cases h2
 | some p=>rw[e] at h2;cases h2;have h:=r.2 i x (prE p) h1 (by rw[Qo,e];rfl);exact RD.rep h rfl
theorem Jnu{xs:List V}{ps:List Pr}(i:Same H0 H)(r:Prs K H xs ps):RDL K C (Ye Hs H0 H) xs (ps.map prE):=by refine⟨by rw[r.len];simp,fun j x d h1 h2=>?_⟩;obtain⟨p,a,e1,e2,e3⟩:=r.at h1;rw[Qo,e1] at h2;cases h2;subst e2;exact .mkT (JeQ i e3) (.cons (.int _) (.cons (.int _) .nil))
theorem Jqh{X:XK}(ha:SA K C t ev):SE K C (JfG C (Vk C K) [] X t) (eF ZX ev):=by
 intro B H0 H σ E c Q I e q;obtain⟨ss,e1,e⟩:=bind_some e;refine LR.Jfr (ha B H0 H σ E ss _ I e1 fun vs H1 H1' s1 r1=>?_);unfold ZX at e;split at e
 ·next s =>
  cases r1 with
  | cons r1 r1' =>
   cases r1';obtain⟨ds,e2,e⟩:=bind_some e;obtain⟨ps,e3,e⟩:=bind_some e;split at e
   ·next hg =>
    cases e;simp only[QX,decide_eq_true_eq] at hg;have e4:=ZP e3;subst e4;obtain⟨l,xs,rfl,hq,r⟩:=r1.q s1.i e2;refine Joj ⟨l,xs,rfl,hq,JnO (r.mono s1.i)⟩ (Za hg.1) hg.2 fun x H2 nx s2 R=>?_
    obtain⟨x',dx,t',ts,ex,hx,ht,hp⟩:=R;cases ex;have i2:Same H1 H2:=s1.i.trans s2;have f:=JN (Hs:=H) i2;refine q _ (Ye H H1 H2) H2 ⟨s1.h.trans s2,s1.z.trans f.z,fun a o e=>(f.n a o e).elim (fun z=>s1.n a o z) .inr,f.i⟩ ?_;have ts':=Jnu (Hs:=H) (C:=C) i2 hp;exact .row (Jbb i2 (Same.free s1.h nx) hx) (JeQ i2 (.of ht)) ts'.1 ts'.2
   ·cases e
 ·cases e
theorem Jp7{K:Qx}{C:Qd}{ta:TE}{ea:Ev}(T:RowC K C)(ha:SE K C ta ea):SE K C (JlF K ta "stretches") (e1 Us ea):=by
 intro B H0 H σ E c Q I e q;obtain⟨a,e1,e⟩:=bind_some e;refine ha B H0 H σ E a _ I e1 fun x H1 H1' s1 r1=>?_
 unfold Us at e;split at e
 ·cases e;obtain⟨x',dx,t',ts,rfl,hx,ht,hp⟩:=RD.rowI r1;exact⟨x',C,dx,_,_,rfl,s1.i _ _ hx,T.cl,T.ns,JgJ t',q _ _ _ s1 (RD.mkT ht hp)⟩
 ·cases e

noncomputable def ints?:List D->Option (List Int)
 | []=>some []
 | .int i::ds=>(ints? ds).map (i::·)
 | _::_=>none
noncomputable def bls?:List D->Option (List Bool)
 | []=>some []
 | .bl i::ds=>(bls? ds).map (i::·)
 | _::_=>none
end
theorem Ze:∀ns:List Int,ints? (ns.map .int)=some ns
 | []=>rfl
 | n::ns=>by rw[Qg,ints?,Ze ns];rfl
theorem Jet:∀ns:List Bool,bls? (ns.map .bl)=some ns
 | []=>rfl
 | n::ns=>by rw[Qg,bls?,Jet ns];rfl
theorem Uh:∀{ds:List D} {ns:List Int},ints? ds=some ns->ds=ns.map .int
 | [],_,e=>by cases e;rfl
 | .int i::ds,_,e=>by obtain⟨ns,e1,e2⟩:=map_some (show(ints? ds).map (i::·)=_ from e);rw[<- e2,Uh e1];rfl
 | .non::_,_,e|.bl _::_,_,e|.str _::_,_,e|.tup _::_,_,e|.lst _::_,_,e|.fz _::_,_,e|.row _::_,_,e=>by cases e
theorem Jb5:∀{ds:List D} {ns:List Bool},bls? ds=some ns->ds=ns.map .bl
 | [],_,e=>by cases e;rfl
 | .bl i::ds,_,e=>by obtain⟨ns,e1,e2⟩:=map_some (show(bls? ds).map (i::·)=_ from e);rw[<- e2,Jb5 e1];rfl
 | .non::_,_,e|.int _::_,_,e|.str _::_,_,e|.tup _::_,_,e|.lst _::_,_,e|.fz _::_,_,e|.row _::_,_,e=>by cases e
noncomputable def Yd:List Sl->Option Sl
 | [.sh (.str x)]=>if x.length<=Qt then some (.sh (.int x.length)) else none
 | [s]=>s.q.map fun ds=>.sh (.int ds.length)
 | _=>none
noncomputable def W5:List Sl->Option Sl
 | [s]=>s.q.map fun ds=>.sh (.tup ds)
 | _=>none
noncomputable def V0:List Sl->Option Sl
 | [s]=>s.q.bind fun ds=>(ints? ds).map fun ns=>.sh (.int ns.sum)
 | _=>none
noncomputable def Jj1:List Sl->Option Sl
 | [s]=>s.q.bind fun ds=>(bls? ds).map fun ns=>.sh (.bl (ns.any id))
 | _=>none
noncomputable def Jdy:List Sl->Option Sl
 | [.sh (.int a),.sh (.int b)]=>some (.sh (.int (min a b)))
 | _=>none
section
variable{K:Qx}{C:Qd}{Hs H0 H:Hp}
theorem RRL.one{vs:List V}{s:Sl}(r:RRL K C Hs H0 H vs [s]):∃v,vs=[v]/\RR K C Hs H0 H v s:=by
 cases r with
 | cons h t=>cases t;exact⟨_,rfl,h⟩
theorem RRL.two{vs:List V}{s t:Sl}(r:RRL K C Hs H0 H vs [s,t]):∃v w,vs=[v,w]/\RR K C Hs H0 H v s/\RR K C Hs H0 H w t:=by
 cases r with
 | cons h r=>cases r with
  | cons h' r=>cases r;exact⟨_,_,rfl,h,h'⟩
theorem Jo7:WP K C (Jd3 K) Yd:=by
 intro Hs H0 H xs as c Q i hs r e q;unfold Yd at e;split at e
 ·split at e
  ·cases e;obtain⟨v,rfl,r0⟩:=r.one;rw[RD.strI r0];exact Jk5 (by assumption) (q _ _ _ (.refl i) (RD.int _))
  ·cases e
 ·obtain⟨v,rfl,r0⟩:=r.one;obtain⟨ds,e1,rfl⟩:=map_some e;obtain⟨l,xs,rfl,h,r1⟩:=r0.q i e1;have z:=q (.int ds.length) _ _ (.refl i) (RD.int _);rw[<- r1.1] at z;exact JcW h z
 ·cases e
theorem JjA:WP K C (UO K) W5:=by
 intro Hs H0 H xs as c Q i hs r e q;unfold W5 at e;split at e
 ·obtain⟨v,rfl,r0⟩:=r.one;obtain⟨ds,e1,rfl⟩:=map_some e;rename_i s
  have lst:∀{l:Qd} {ys:List V},v=.ref l->SqL K H l ys->RDL K C H0 ys ds->UO K [v] H Q:=fun {l ys} ev h r2=>by subst ev;exact⟨l,ys,rfl,.inl ⟨h,fun p hp=>WM i hs hp r2 q⟩⟩
  cases s with
  | no=>cases e1
  | bo es=>cases e1;obtain⟨l,ys,h1,h2,h3⟩:=r0;exact lst h1 (.of h2) h3
  | own es=>cases e1;obtain⟨l,ys,h1,h2,_,_,h3⟩:=r0;exact lst h1 (.of h2) h3
  | bd _ _=>cases e1
  | bt _ _=>cases e1
  | od _ _=>cases e1
  | ot _ _=>cases e1
  | sh d=>cases d with
   | lst es=>cases e1;obtain⟨l,ys,h1,h2,h3⟩:=RD.lstI r0;exact lst h1 (.of (i _ _ h2)) h3
   | fz es=>cases e1;obtain⟨l,ys,h1,h2,h3⟩:=RD.fzI r0;exact lst h1 (i.seq h2) h3
   | tup es=>cases e1;obtain⟨l,ys,rfl,h2,h3⟩:=RD.tupI r0;exact⟨l,ys,rfl,.inr ⟨i.seqT h2,q _ _ _ (.refl i) r0⟩⟩
   | _=>cases e1
 ·cases e
theorem Jo9:WP K C (JnY K) V0:=by
 intro Hs H0 H xs as c Q i hs r e q;unfold V0 at e;split at e
 ·obtain⟨v,rfl,r0⟩:=r.one;obtain⟨ds,e1,e⟩:=bind_some e;obtain⟨ns,e2,rfl⟩:=map_some e;obtain⟨l,ys,rfl,h,r1⟩:=r0.q i e1;rw[Uh e2] at r1;have:=r1.ints;subst this;exact⟨l,ns,rfl,h,q _ _ _ (.refl i) (RD.int _)⟩
 ·cases e
theorem Jo6:WP K C (JnT K) Jj1:=by
 intro Hs H0 H xs as c Q i hs r e q;unfold Jj1 at e;split at e
 ·obtain⟨v,rfl,r0⟩:=r.one;obtain⟨ds,e1,e⟩:=bind_some e;obtain⟨ns,e2,rfl⟩:=map_some e;obtain⟨l,ys,rfl,h,r1⟩:=r0.q i e1;rw[Jb5 e2] at r1;have:=r1.bls;subst this;exact⟨l,ns,rfl,h,q _ _ _ (.refl i) (RD.bl _)⟩
 ·cases e
theorem Jo8:WP K C JnV Jdy:=by
 intro Hs H0 H xs as c Q i hs r e q;unfold Jdy at e;split at e
 ·cases e;obtain⟨v,w,rfl,r1,r2⟩:=r.two;rw[RD.intI r1,RD.intI r2];exact JiH (q _ _ _ (.refl i) (RD.int _))
 ·cases e
end

noncomputable def JoK:Sl->Option Bool
 | .sh .non=>some false
 | .sh (.bl b)=>some b
 | .sh (.int i)=>some (i != 0)
 | .sh (.str y)=>if y.length<=Qt then some ((y.length:Int) != 0) else none
 | s=>s.q.map fun ds=>!ds.isEmpty
noncomputable def tTru?(a:Ev):En->Option Bool:=fun E=>(a E).bind JoK
noncomputable def tyN:D->Option String
 | .non=>some "NoneType"
 | .bl _=>some "bool"
 | .int _=>some "int"
 | .str _=>some "str"
 | .tup _=>some "tuple"
 | .lst _=>some "list"
 | .fz _=>some "list"
 | .row _=>none
 | .dct _ _=>none
 | .dfz _ _=>none
 | .exc _=>none
noncomputable def Jcr(t n:String):Bool:=t == n || (t == "bool" && n == "int")
noncomputable def Jf7(n:String)(a:Ev):Ev:=fun E=>(a E).bind fun s=>s.d.bind fun d=>(tyN d).map fun t=>.sh (.bl (Jcr t n))
noncomputable def D.isRow:D->Bool
 | .row _=>true
 | _=>false
section
variable{K:Qx}{C:Qd}{Hs H0 H:Hp}{te:TE}{ea:Ev}
theorem RDL.empty{xs:List V}{ds:List D}(r:RDL K C H xs ds):xs.isEmpty=ds.isEmpty:=by cases xs <;> cases ds <;> first|rfl|(have:=r.1;simp at this)
theorem Jqj(ha:SE K C te ea):ST K C (JlL K te) (tTru? ea):=by
 intro B H0 H σ E k Q I e q;obtain⟨a,e1,e⟩:=bind_some e;refine ha B H0 H σ E a _ I e1 fun x H1 H1' s1 r1=>?_
 have seq:∀{a:Sl},RR K C H H1 H1' x a->a.q.map (fun ds=>!ds.isEmpty)=some k->∃k',JfP K x H1' k'/\Q k' H1':=fun {a} r1 e=>by
  obtain⟨ds,e2,rfl⟩:=map_some e;obtain⟨l,xs,rfl,h,r⟩:=r1.q s1.i e2;have z:=q _ _ s1;rw[<- r.empty] at z;rcases h with h|h
  ·exact⟨_,.inl ⟨xs,h,rfl⟩,z⟩
  ·exact⟨_,.inr (.inl ⟨xs,h,rfl⟩),z⟩
 unfold JoK at e;split at e
 ·cases e;rw[RD.nonI r1];exact⟨_,rfl,q _ _ s1⟩
 ·cases e;rw[RD.blI r1];exact⟨_,rfl,q _ _ s1⟩
 ·cases e;rw[RD.intI r1];exact⟨_,rfl,q _ _ s1⟩
 ·split at e
  ·cases e;rw[RD.strI r1];exact⟨_,⟨by assumption,rfl⟩,q _ _ s1⟩
  ·cases e
 ·exact seq r1 e
theorem RD.ty{x:V}{d:D}{t:String}(r:RD K C H x d)(e:tyN d=some t):TyS K H x (.type t):=by
 cases r with
 | non=>cases e;exact .of .non
 | bl b=>cases e;exact .of (.bl b)
 | int i=>cases e;exact .of (.int i)
 | str i=>cases e;exact .of (.str i)
 | tup h _ _=>cases e;exact .sqT h
 | lst h _ _=>cases e;exact .sqL (.of h)
 | fz h _ _=>cases e;exact .sqL h
 | row _ _ _ _=>cases e
 | dct _ _ _ _=>cases e
 | dfz _ _ _ _=>cases e
 | exc _ _=>cases e
noncomputable def JbY(K:Qx)(n:String):Prop:=∀t∈["NoneType","bool","int","str","tuple","list"],kitOne K (.type t) (.type n)=some (Jcr t n)
theorem JlQ{d:D}{t:String}(e:tyN d=some t):t∈["NoneType","bool","int","str","tuple","list"]:=by cases d <;> cases e <;> simp
theorem Jqd{n:String}(hk:JbY K n)(ha:SE K C te ea):SE K C (tCB (JkX K) (Y0 te (Y0 (tC (.ty n)) Vl))) (Jf7 n ea):=by
 intro B H0 H σ E c Q I e q;obtain⟨a,e1,e⟩:=bind_some e;obtain⟨d,e2,e⟩:=bind_some e;obtain⟨t,e3,rfl⟩:=map_some e;refine ha B H0 H σ E a _ I e1 fun x H1 H1' s1 r1=>?_
 exact Jn7 (RD.ty (r1.dat s1.i e2) e3) (hk t (JlQ e3)) (q _ _ _ s1 (RD.bl _))
end
theorem Jko{K:Qx}:JbY K "int":=fun t ht=>by simp only[Qk,Q9,or_false] at ht;rcases ht with rfl | rfl | rfl | rfl | rfl | rfl <;> kernel_rfl
theorem JhV{K:Qx}:JbY K "bool":=fun t ht=>by simp only[Qk,Q9,or_false] at ht;rcases ht with rfl | rfl | rfl | rfl | rfl | rfl <;> kernel_rfl
theorem Jgs{K:Qx}:JbY K "tuple":=fun t ht=>by simp only[Qk,Q9,or_false] at ht;rcases ht with rfl | rfl | rfl | rfl | rfl | rfl <;> kernel_rfl
theorem JhW{K:Qx}:JbY K "list":=fun t ht=>by simp only[Qk,Q9,or_false] at ht;rcases ht with rfl | rfl | rfl | rfl | rfl | rfl <;> kernel_rfl
end LE

namespace LE
open PySem L2 LR

mutual
inductive Pt where
 | nm (i:Nat)
 | tp (l:Pts)
inductive Pts where
 | nil
 | cons (p:Pt) (l:Pts)
end
mutual
noncomputable def Pt.bind:Pt->D->En->Option En
 | .nm i,d,E=>if i<E.length then some (E.set i (.sh d)) else none
 | .tp l,.tup ds,E=>l.bind ds E
 | .tp _,_,_=>none
noncomputable def Pts.bind:Pts->List D->En->Option En
 | .nil,[],E=>some E
 | .cons p l,d::ds,E=>(p.bind d E).bind fun E'=>l.bind ds E'
 | _,_,_=>none
end
mutual
noncomputable def Pt.slots:Pt->List Nat
 | .nm i=>[i]
 | .tp l=>l.slots
noncomputable def Pts.slots:Pts->List Nat
 | .nil=>[]
 | .cons p l=>p.slots++l.slots
end
mutual
theorem Pt.keep:∀{p:Pt} {d:D} {E E':En},p.bind d E=some E'->E'.length=E.length/\∀i,i∉p.slots->E'[i]?=E[i]?
 | .nm i,d,E,E',e=>by
  unfold Pt.bind at e;split at e
  ·cases e;refine⟨by simp,fun j hj=>?_⟩;rw[QW,if_neg];intro z;exact hj (by simp[Pt.slots,z])
  ·cases e
 | .tp l,d,E,E',e=>by
  cases d with
  | tup ds=>exact Pts.keep (p:=l) (ds:=ds) (by simpa [Pt.bind] using e)
  | _=>simp[Pt.bind] at e
theorem Pts.keep:∀{p:Pts} {ds:List D} {E E':En},p.bind ds E=some E'->E'.length=E.length/\∀i,i∉p.slots->E'[i]?=E[i]?
 | .nil,[],E,E',e=>by simp[Pts.bind] at e;subst e;exact⟨rfl,fun _ _=>rfl⟩
 | .nil,_::_,_,_,e=>by simp[Pts.bind] at e
 | .cons _ _,[],_,_,e=>by simp[Pts.bind] at e
 | .cons p l,d::ds,E,E',e=>by rw[Pts.bind] at e;obtain⟨E1,e1,e2⟩:=bind_some e;obtain⟨h1,h2⟩:=Pt.keep e1;obtain⟨h3,h4⟩:=Pts.keep e2;refine⟨h3.trans h1,fun i hi=>?_⟩;simp[Pts.slots] at hi;rw[h4 i hi.2,h2 i hi.1]
end
section
variable(K:Qx)(C:Qd)
noncomputable def SG(g:TG)(p:Pt):Prop:=∀(B H0 H:Hp) (σ:St) (E E':En) (x:V) (d:D) (Q:St->Hp->Prop),EnvR K C B H0 H σ E->RD K C H0 x d->p.bind d E=some E'->(∀σ',EnvR K C B H0 H σ' E'->Q σ' H)->g x σ H Q
noncomputable def SGs(g:TGs)(p:Pts):Prop:=∀(B H0 H:Hp) (σ:St) (E E':En) (xs:List V) (ds:List D) (Q:St->Hp->Prop),EnvR K C B H0 H σ E->RDL K C H0 xs ds->p.bind ds E=some E'->(∀σ',EnvR K C B H0 H σ' E'->Q σ' H)->g xs σ H Q
end
section
variable{K:Qx}{C:Qd}
theorem EnvR.setSh{B H0 H:Hp}{σ:St}{E:En}{i:Nat}{v:V}{d:D}(I:EnvR K C B H0 H σ E)(hi:i<E.length)(r:RD K C H0 v d):EnvR K C B H0 H (σ.set i (some v)) (E.set i (.sh d)) :=
 I.put' (s:=.sh d) (.refl I.h) hi r rfl
theorem JqK(i:Nat):SG K C (U7 i) (.nm i):=by
 intro B H0 H σ E E' x d Q I r e q;rw[Pt.bind] at e;split at e
 ·cases e;exact q _ (I.setSh (by assumption) r)
 ·cases e
theorem Jpm:SGs K C Jkc .nil:=by
 intro B H0 H σ E E' xs ds Q I r e q
 cases ds with
 | nil =>
  cases xs with
  | nil=>rw[Pts.bind] at e;cases e;exact⟨rfl,q σ I⟩
  | cons _ _=>have:=r.1;simp at this
 | cons _ _=>simp[Pts.bind] at e
theorem JmT{g:TG}{gs:TGs}{p:Pt}{ps:Pts}(h:SG K C g p)(hs:SGs K C gs ps):SGs K C (JeT g gs) (.cons p ps):=by
 intro B H0 H σ E E' xs ds Q I r e q
 cases ds with
 | nil=>simp[Pts.bind] at e
 | cons d ds =>
  cases xs with
  | nil=>have:=r.1;simp at this
  | cons x xs=>rw[Pts.bind] at e;obtain⟨E1,e1,e2⟩:=bind_some e;exact⟨x,xs,rfl,h B H0 H σ E E1 x d _ I r.head e1 fun σ1 I1=>hs B H0 H σ1 E1 E' xs ds Q I1 r.tail e2 q⟩
theorem JqL{n:Nat}{gs:TGs}{ps:Pts}(hn:∀(ds:List D) (E E':En),ps.bind ds E=some E'->ds.length=n)(hs:SGs K C gs ps):SG K C (Jgd K n gs) (.tp ps):=by
 intro B H0 H σ E E' x d Q I r e q
 cases d with
 | tup ds=>rw[Pt.bind] at e;obtain⟨a,xs,rfl,h,r⟩:=RD.tupI r;exact⟨a,xs,rfl,I.h.seqT h,by rw[r.1];exact hn ds E E' e,hs B H0 H σ E E' xs ds Q I r e q⟩
 | _=>simp[Pt.bind] at e
noncomputable def Pts.len:Pts->Nat
 | .nil=>0
 | .cons _ l=>l.len+1
theorem Pts.bind_len:∀{ps:Pts} {ds:List D} {E E':En},ps.bind ds E=some E'->ds.length=ps.len
 | .nil,[],_,_,_=>rfl
 | .nil,_::_,_,_,e=>by simp[Pts.bind] at e
 | .cons _ _,[],_,_,e=>by simp[Pts.bind] at e
 | .cons p l,d::ds,E,E',e=>by rw[Pts.bind] at e;obtain⟨E1,e1,e2⟩:=bind_some e;rw[Qv,Pts.bind_len e2];rfl
theorem Jpn{n:Nat}{gs:TGs}{ps:Pts}(hs:SGs K C gs ps)(hn:ps.len=n):SG K C (Jgd K n gs) (.tp ps):=JqL (fun _ _ _ e=>(Pts.bind_len e).trans hn) hs
end

section
variable(K:Qx)(C:Qd)
noncomputable def Jjq(A:Hp)(J:It)(ds:List D)(H0:Hp):Prop:=∀H0' H',SStep A H0 H0' H'->(∀(i:Nat) (d:D),ds[i]?=some d->J.go i H'/\∀x H2,J.yld i H' x H2->∃H02,Step H' H0' H' H02 H2/\RD K C H02 x d)/\J.stop ds.length H'
noncomputable def SI(m:Bool)(wi:TI)(ev:En->Option (List D)):Prop:=∀(B H0 H:Hp) (σ:St) (E:En) (ds:List D) (R:It->Hp->Prop),EnvR K C B H0 H σ E->ev E=some ds ->
 (∀J H0' H',Step H H0 H H0' H'->Jjq K C (if m=true then H' else B) J ds H0'->R J H')->wi σ H R
end
noncomputable def Sl.it(m:Bool):Sl->Option (List D)
 | .bo ds=>if m=true then some ds else none
 | s=>s.q
noncomputable def iE(m:Bool)(a:Ev):En->Option (List D):=fun E=>(a E).bind (Sl.it m)
noncomputable def iV(i:Nat):En->Option (List D):=fun E=>match E[i]? with
 | some (.bo ds)=>some ds
 | some (.sh d)=>(Sl.sh d).q
 | _=>none
noncomputable def rng(lo:Int)(n:Nat):List D:=(QS n).map fun(i:Nat)=>.int (lo+(i:Int))
noncomputable def JdG(a:Int):Bool:=R4 a.natAbs 4611686018427387903
noncomputable def iR1(as:En->Option (List Sl)):En->Option (List D):=fun E=>(as E).bind fun ss=>match ss with
 | [.sh (.int n)]=>if JdG n=true then some (rng 0 n.toNat) else none
 | _=>none
section
variable{K:Qx}{C:Qd}{te:TE}{ea:Ev}{m:Bool}
theorem VC{A H0:Hp}{a:Qd}{xs:List V}{ds:List D}(hd:∀H0' H',SStep A H0 H0' H'->SqL K H' a xs)(r:RDL K C H0 xs ds):Jjq K C A (Itl K a) ds H0:=by intro H0' H' st;have hq:=hd H0' H' st;refine⟨fun i d e=>?_,⟨xs,hq,by rw[r.1];exact Qr _⟩⟩;obtain⟨x,e1,r1⟩:=r.get e;refine⟨⟨xs,x,hq,e1⟩,fun y H2 ⟨e2,e3⟩=>?_⟩;subst e2;have:=e3 xs hq;rw[e1] at this;cases this;exact⟨H0',.refl st.i,r1.mono st.z⟩
theorem Jm3{A H0:Hp}{a:Qd}{xs:List V}{ds:List D}(hd:∀H0' H',SStep A H0 H0' H'->SqT K H' a xs)(r:RDL K C H0 xs ds):Jjq K C A (Itt K a) ds H0:=by intro H0' H' st;have hq:=hd H0' H' st;refine⟨fun i d e=>?_,⟨xs,hq,by rw[r.1];exact Qr _⟩⟩;obtain⟨x,e1,r1⟩:=r.get e;refine⟨⟨xs,x,hq,e1⟩,fun y H2 ⟨e2,e3⟩=>?_⟩;subst e2;have:=e3 xs hq;rw[e1] at this;cases this;exact⟨H0',.refl st.i,r1.mono st.z⟩
theorem Jp8(ha:SE K C te ea):SI K C m (JdF K te) (iE m ea):=by
 intro B H0 H σ E ds R I e q;obtain⟨s,e1,e⟩:=bind_some e
 cases s with
 | no=>cases e
 | bd _ _=>cases e
 | bt _ _=>cases e
 | od _ _=>cases e
 | ot _ _=>cases e
 | bo es =>
  unfold Sl.it at e;dsimp only at e;split at e
  ·next hm=>cases e;refine .inl (ha B H0 H σ E _ _ I e1 fun x H1 H1' s1 r1=>?_);obtain⟨l,xs,rfl,h,r⟩:=r1;refine⟨l,rfl,⟨xs,.of h⟩,q _ _ _ s1 ?_⟩;rw[if_pos hm];exact VC (fun H0' H' st=>.of (st.b _ _ h)) r
  ·cases e
 | own es=>cases (show some es=some ds from e);refine .inl (ha B H0 H σ E _ _ I e1 fun x H1 H1' s1 r1=>?_);have f:=JN (Hs:=H) s1.i;have r2:=RR.frz s1.i r1 rfl;obtain⟨l,xs,rfl,h,r⟩:=RD.lstI r2;exact⟨l,rfl,⟨xs,.of (f.i _ _ h)⟩,q _ _ _ (s1.comp f fun _ z=>z) (VC (fun H0' H' st=>.of (st.i _ _ (st.z _ _ h))) r)⟩
 | sh d =>
  cases d with
  | lst es=>cases (show some es=some ds from e);refine .inl (ha B H0 H σ E _ _ I e1 fun x H1 H1' s1 r1=>?_);obtain⟨l,xs,rfl,h,r⟩:=RD.lstI r1;exact⟨l,rfl,⟨xs,.of (s1.i _ _ h)⟩,q _ _ _ s1 (VC (fun H0' H' st=>.of (st.i _ _ (st.z _ _ h))) r)⟩
  | fz es=>cases (show some es=some ds from e);refine .inl (ha B H0 H σ E _ _ I e1 fun x H1 H1' s1 r1=>?_);obtain⟨l,xs,rfl,h,r⟩:=RD.fzI r1;exact⟨l,rfl,⟨xs,s1.i.seq h⟩,q _ _ _ s1 (VC (fun H0' H' st=>(st.z.trans st.i).seq h) r)⟩
  | tup es=>cases (show some es=some ds from e);refine .inr (ha B H0 H σ E _ _ I e1 fun x H1 H1' s1 r1=>?_);obtain⟨l,xs,rfl,h,r⟩:=RD.tupI r1;exact⟨l,rfl,⟨xs,s1.i.seqT h⟩,q _ _ _ s1 (Jm3 (fun H0' H' st=>(st.z.trans st.i).seqT h) r)⟩
  | _=>cases (show none=some ds from e)
theorem Jqa(i:Nat):SI K C false (JdF K (Y2 i)) (iV i):=by
 intro B H0 H σ E ds R I e q;unfold iV at e;split at e
 ·next es h =>
  cases e;rcases I.at' i _ h with z|⟨v,h1,h2⟩
  ·cases z
  ·obtain⟨l,xs,rfl,hl,r⟩:=h2;refine .inl ⟨_,h1,l,rfl,⟨xs,.of (I.b _ _ hl)⟩,q _ _ _ (.refl I.h) (VC (fun H0' H' st=>.of (st.b _ _ hl)) r)⟩
 ·next d h=>refine Jp8 (m:=false) (ea:=Ja i) (JiO i) B H0 H σ E ds R I ?_ q;show(Ja i E).bind _=_;unfold Ja;rw[h];exact e
 ·cases e
theorem Jlg{lo:Int}{n i:Nat}{d:D}(e:(rng lo n)[i]?=some d):i<n/\d=.int (lo+(i:Int)):=by
 unfold rng at e;rw[Qo] at e
 cases h:(QS n)[i]? with
 | none=>rw[h] at e;cases e
 | some j=>rw[h] at e;cases e;obtain⟨h1,h2⟩:=Qm.mp h;simp at h1 h2;subst h2;exact⟨h1,rfl⟩
theorem Jm2{A H0:Hp}{lo:Int}{n:Nat}:Jjq K C A (Itr lo n) (rng lo n) H0:=by intro H0' H' st;refine⟨fun i d e=>?_,by show n<=_;simp[rng]⟩;obtain⟨h1,rfl⟩:=Jlg e;refine⟨h1,fun x H2 ⟨e1,e2⟩=>?_⟩;subst e1 e2;exact⟨H0',.refl st.i,.int _⟩
theorem Jbf{a:Int}(h:JdG a=true):-(2 ^ 62)<=a/\a<2 ^ 62:=by unfold JdG at h;rw[Lk] at h;omega
theorem Jp9{t:TA}{ev:En->Option (List Sl)}(ha:SA K C t ev):SI K C m (Jl6 t) (iR1 ev):=by
 intro B H0 H σ E ds R I e q;obtain⟨ss,e1,e⟩:=bind_some e;split at e
 ·split at e
  ·next hn =>
   cases e;refine ha B H0 H σ E _ _ I e1 fun vs H1 H1' s1 r1=>?_
   obtain⟨v,rfl,r⟩:=r1.one;rw[RD.intI r];exact⟨_,rfl,(Jbf hn).1,(Jbf hn).2,q _ _ _ s1 Jm2⟩
  ·cases e
 ·cases e
end

noncomputable def yes?:En->Option Bool:=fun _=>some true
noncomputable def VB(imp:List (Option Nat))(E:En):En:=imp.map fun o=>match o with
 | none=>.no
 | some k=>match E[k]? with
  | some (.own ds)=>.bo ds
  | some (.od ks ds)=>.bd ks ds
  | some (.ot ks ds)=>.bt ks ds
  | some s=>s
  | none=>.no
noncomputable def Ud(p:Pt)(c:En->Option Bool)(a:Ev)(E1:En):List D->Option (List D)
 | []=>some []
 | d::ds=>(p.bind d E1).bind fun E2=>(c E2).bind fun k=>if k=true then(a E2).bind fun s=>s.frz.bind fun y=>(Ud p c a E1 ds).bind fun ys=>some (y::ys) else Ud p c a E1 ds
noncomputable def J9(it:En->Option (List D))(p:Pt)(c:En->Option Bool)(a:Ev)(imp:List (Option Nat)):Ev:=fun E=>(it E).bind fun ds=>if ds.length<=Qt then(Ud p c a (VB imp E) ds).map .own else none
section
variable{K:Qx}{C:Qd}
theorem Jql:ST K C JoF yes?:=fun _ _ _ _ _ _ _ I e q=>by cases e;exact q _ _ (.refl I.h)
theorem JjL{B H0 H:Hp}{σ:St}{E:En}{imp:List (Option Nat)}(I:EnvR K C B H0 H σ E):EnvR K C H H0 H (Zc imp σ) (VB imp E):=by
 have get:∀(i:Nat) (s:Sl),(VB imp E)[i]?=some s->s=.no\/∃v,(Zc imp σ)[i]?=some (some v)/\RSl K C H H0 H v s/\JO s=false:=fun i s e=>by
  unfold VB at e;unfold Zc;rw[Qo] at e ⊢
  cases h:imp[i]? with
  | none=>rw[h] at e;cases e
  | some o =>
   rw[h] at e
   cases o with
   | none=>cases e;exact .inl rfl
   | some k =>
    have e':(match E[k]? with|some (.own ds)=>Sl.bo ds|some (.od ks ds)=>Sl.bd ks ds|some (.ot ks ds)=>Sl.bt ks ds|some s=>s|none=>.no)=s:=QT e
    cases hE:E[k]? with
    | none=>rw[hE] at e';exact .inl e'.symm
    | some s' =>
     rw[hE] at e';rcases I.at' k s' hE with z|⟨v,h1,h2⟩
     ·subst z;exact .inl e'.symm
     ·have g:(σ[k]?).join=some v:=by rw[h1];rfl
      cases s' with
      | no=>exact .inl e'.symm
      | sh d=>dsimp only at e';subst e';exact .inr ⟨v,by show some ((σ[k]?).join)=_;rw[g],h2,rfl⟩
      | bo ds=>dsimp only at e';subst e';obtain⟨l,xs,q1,q2,q3⟩:=h2;exact .inr ⟨v,by show some ((σ[k]?).join)=_;rw[g],⟨l,xs,q1,I.b _ _ q2,q3⟩,rfl⟩
      | own ds=>dsimp only at e';subst e';obtain⟨l,xs,q1,q2,_,_,q3⟩:=h2;exact .inr ⟨v,by show some ((σ[k]?).join)=_;rw[g],⟨l,xs,q1,q2,q3⟩,rfl⟩
      | bd ks ds=>dsimp only at e';subst e';obtain⟨l,xs,q1,q2,q3⟩:=h2;exact .inr ⟨v,by show some ((σ[k]?).join)=_;rw[g],⟨l,xs,q1,I.b _ _ q2,q3⟩,rfl⟩
      | bt ks ds=>dsimp only at e';subst e';obtain⟨l,xs,q1,q2,q3⟩:=h2;exact .inr ⟨v,by show some ((σ[k]?).join)=_;rw[g],⟨l,xs,q1,I.b _ _ q2,q3⟩,rfl⟩
      | od ks ds=>dsimp only at e';subst e';obtain⟨l,xs,q1,q2,_,_,q3⟩:=h2;exact .inr ⟨v,by show some ((σ[k]?).join)=_;rw[g],⟨l,xs,q1,q2,q3⟩,rfl⟩
      | ot ks ds=>dsimp only at e';subst e';obtain⟨l,xs,q1,q2,_,_,q3⟩:=h2;exact .inr ⟨v,by show some ((σ[k]?).join)=_;rw[g],⟨l,xs,q1,q2,q3⟩,rfl⟩
 refine⟨Same.refl _,I.h,by simp[Zc,VB],fun i s e=>?_,fun i j s t v hij e1 e2 o1 o2=>?_,I.t.mono I.b⟩
 ·rcases get i s e with z|⟨v,h1,h2,_⟩
  ·exact .inl z
  ·exact .inr ⟨v,h1,h2⟩
 ·rcases get i _ e1 with z|⟨v,h1,h2,h3⟩
  ·subst z;cases o1
  ·rw[h3] at o1;cases o1
theorem Jos{wi:TI}{g:TG}{tt:TT}{te:TE}{imp:List (Option Nat)}{it:En->Option (List D)}{p:Pt}{c:En->Option Bool}{a:Ev}(hi:SI K C true wi it)(hg:SG K C g p)(hc:ST K C tt c)(ha:SE K C te a)
 (hp:(p.slots.all fun i=>match imp[i]? with|some none=>true|_=>false)=true):SE K C (Ji0 wi g tt te imp) (J9 it p c a imp):=by
 intro B H0 H σ E r Q I e q;obtain⟨ds,e1,e⟩:=bind_some e;split at e
 ·next hl =>
  obtain⟨es,e2,rfl⟩:=map_some e;refine hi B H0 H σ E ds _ I e1 fun J H1 H1' s1 ok=>?_
  rw[if_pos rfl] at ok;have I1:EnvR K C H1' H1 H1' (Zc imp σ) (VB imp E):=JjL (I.step s1)
  -- the loop: what was gathered,what comes
  refine⟨fun i m ys σ' H'=>m=ds.length-i/\i<=ds.length/\∃H0' gs rs,EnvR K C H1' H0' H' σ' (VB imp E)/\Step H1' H1 H1' H0' H'/\RDL K C H0' ys gs/\Ud p c a (VB imp E) (ds.drop i)=some rs/\es=gs++rs/\gs.length<=i,
   ⟨ds.length,by simp,GA _,H1,[],es,I1,.refl s1.i,.nil,e2,rfl,Qr _⟩,?_⟩
  rintro i m ys σ' H' ⟨rfl,hi',H0',gs,rs,I',st,rys,er,ees,hgl⟩;have stop:=ok H0' H' ⟨st.h,st.z,st.n,st.i⟩
  by_cases hlt:i<ds.length
  ·have hd:ds[i]?=some ds[i]:=by simp[hlt]
   obtain⟨go,yl⟩:=stop.1 i _ hd;refine .inr ⟨go,by rw[rys.1];omega,fun ys' σ2 H2=>∃H02 gs rs,EnvR K C H1' H02 H2 σ2 (VB imp E)/\Step H1' H1 H1' H02 H2/\RDL K C H02 ys' gs/\Ud p c a (VB imp E) (ds.drop (i+1))=some rs/\es=gs++rs/\gs.length<=i+1,
    fun ys' σ2 H2 h=>⟨ds.length-(i+1),by omega,rfl,hlt,h⟩,fun x H2 y=>?_⟩
   obtain⟨H02,st2,rx⟩:=yl x H2 y;rw[Lr hlt,Ud] at er;obtain⟨E2,b1,er⟩:=bind_some er;obtain⟨k,b2,er⟩:=bind_some er;refine hg H1' H02 H2 σ' (VB imp E) E2 x _ _ (I'.step st2) rx b1 fun σ2 I2=>?_
   have back:∀{H03 H3:Hp},EnvR K C H1' H03 H3 σ2 E2->EnvR K C H1' H03 H3 σ2 (VB imp E):=fun {H03 H3} J=>by
    obtain⟨k1,k2⟩:=Pt.keep b1;refine J.sub k1.symm fun j s ej=>?_
    by_cases hj:j∈p.slots
    ·have:=Lo.mp hp j hj
     have ej':=ej;unfold VB at ej';rw[Qo] at ej'
     cases hm:imp[j]? with
     | none=>rw[hm] at this;cases this
     | some o =>
      rw[hm] at this ej'
      cases o with
      | none=>cases ej';exact .inl rfl
      | some _=>cases this
    ·exact .inr (by rw[k2 j hj];exact ej)
   refine hc H1' H02 H2 σ2 E2 k _ I2 b2 fun H03 H3 st3=>?_
   have st13:Step H1' H1 H1' H03 H3:=(st.trans st2).trans st3
   cases k with
   | false=>rw[if_neg (by simp)];rw[if_neg (by simp)] at er;exact⟨H03,gs,rs,back (I2.step st3),st13,rys.mono (st2.z.trans st3.z),er,ees,by omega⟩
   | true =>
    rw[if_pos rfl];rw[if_pos rfl] at er;obtain⟨s,b3,er⟩:=bind_some er;obtain⟨y',b4,er⟩:=bind_some er;obtain⟨ws,b5,er⟩:=bind_some er;cases er;refine ha H1' H03 H3 σ2 E2 s _ (I2.step st3) b3 fun v H04 H4 st4 r4=>?_
    have f:=JN (Hs:=H3) st4.i
    have st5:Step H3 H03 H3 (Ye H3 H04 H4) H4:=st4.comp f fun _ z=>z
    exact⟨_,gs++[y'],ws,back ((I2.step st3).step st5),st13.trans st5,(rys.mono ((st2.z.trans st3.z).trans st5.z)).snoc (RR.frz st4.i r4 b4),b5,by rw[ees,Gh];rfl,by rw[Qz];simp;exact hgl⟩
  ·have e3:i=ds.length:=by omega
   subst e3;refine .inl ⟨stop.2,by rw[rys.1];omega,fun p hp=>?_⟩;rw[List.drop_length,Ud] at er;cases er;rw[GG] at ees;subst ees;exact Y4 (Hs:=H) st.i (s1.h.trans st.h) hp rys fun v H2 H2' s2 r2=>q v H2 H2' ((s1.trans st).comp s2 fun _ z=>z) r2
 ·cases e
end
end LE

namespace LE
open PySem L2 LR

inductive Out where
 | nx (E:En)|rt (r:Sl)|bk (E:En)|ct (E:En)
noncomputable abbrev Es:=En->Option Out
section
variable(K:Qx)(C:Qd)
noncomputable def Fin(B H0:Hp)(D:Ends):Out->Prop
 | .nx E=>∀σ' H0' H',SStep B H0 H0' H'->EnvR K C B H0' H' σ' E->D.nx σ' H'
 | .bk E=>∀σ' H0' H',SStep B H0 H0' H'->EnvR K C B H0' H' σ' E->D.bk σ' H'
 | .ct E=>∀σ' H0' H',SStep B H0 H0' H'->EnvR K C B H0' H' σ' E->D.ct σ' H'
 | .rt r=>∀v H0' H',SStep B H0 H0' H'->RR K C B H0' H' v r->D.rt v H'
noncomputable def SS(ts:TS)(ev:Es):Prop:=∀(B H0 H:Hp) (σ:St) (E:En) (o:Out) (D:Ends),EnvR K C B H0 H σ E->ev E=some o->Fin K C B H0 D o->ts D σ H
end
noncomputable def JP:Es:=fun E=>some (.nx E)
noncomputable def JbG(b:Es):Out->Option Out
 | .nx E=>b E
 | .rt r=>some (.rt r)
 | .bk E=>some (.bk E)
 | .ct E=>some (.ct E)
noncomputable def Jj(a b:Es):Es:=fun E=>(a E).bind (JbG b)
noncomputable def xIf(c:En->Option Bool)(a b:Es):Es:=fun E=>(c E).bind fun k=>if k=true then a E else b E
noncomputable def keep?:Sl->Option Sl
 | .sh d=>some (.sh d)
 | .own ds=>some (.own ds)
 | .od ks ds=>some (.od ks ds)
 | .ot ks ds=>some (.ot ks ds)
 | _=>none
noncomputable def UA(i:Nat)(a:Ev):Es:=fun E=>(a E).bind fun s=>(keep? s).bind fun s=>if i<E.length then some (.nx (E.set i s)) else none
noncomputable def Jn(i:Nat)(a:Ev):Es:=fun E=>(a E).bind fun s=>s.frz.bind fun d=>if i<E.length then some (.nx (E.set i (.sh d))) else none
noncomputable def Jjk(a:Ev):Es:=fun E=>(a E).map fun _=>.nx E
noncomputable def JU(a:Ev):Es:=fun E=>(a E).bind fun s=>(keep? s).map .rt
noncomputable def YL(i:Nat):Es:=fun E=>match E[i]? with
 | some (.sh d)=>some (.rt (.sh d))
 | some (.own ds)=>some (.rt (.own ds))
 | some (.od ks ds)=>some (.rt (.od ks ds))
 | _=>none
noncomputable def Jjl:Es:=fun _=>none
noncomputable def ZR(i:Nat)(a:Ev):Es:=fun E=>match E[i]? with
 | some (.own ds)=>(a E).bind fun s=>s.frz.bind fun d=>if ds.length<Qt then some (.nx (E.set i (.own (ds++[d])))) else none
 | _=>none
noncomputable def ZS(i:Nat)(a:Ev):Es:=fun E=>match E[i]? with
 | some (.own ds)=>(a E).bind fun s=>s.m.bind fun es=>if ds.length+es.length<=Qt then some (.nx (E.set i (.own (ds++es)))) else none
 | _=>none
noncomputable def JlT(i j:Nat)(f:Sl->Option Sl):Es:=fun E=>match E[i]? with
 | some (.own ds)=>(ds[ds.length-1]?).bind fun d=>(f (.sh d)).bind fun s=>(sh? s).bind fun d'=>if j<E.length then some (.nx ((E.set i (.own ds.dropLast)).set j (.sh d'))) else none
 | _=>none
noncomputable def Z9(f:Int->Int->Int)(i:Nat)(a:Ev):Es:=fun E=>match E[i]? with
 | some (.sh (.int x))=>(a E).bind fun s=>match s with
  | .sh (.int y)=>some (.nx (E.set i (.sh (.int (f x y)))))
  | _=>none
 | _=>none
noncomputable def JmS(i:Nat)(E:En):En:=match E[i]? with
 | some (.own ds)=>E.set i (.sh (.lst ds))
 | some (.od ks ds)=>E.set i (.sh (.dct ks ds))
 | _=>E
noncomputable def Y5(p:Pt)(b:Es):List D->Es
 | [],E=>some (.nx E)
 | d::ds,E=>(p.bind d E).bind fun E1=>(b E1).bind fun o=>match o with
  | .nx E2=>Y5 p b ds E2
  | .ct E2=>Y5 p b ds E2
  | .bk E2=>some (.nx E2)
  | .rt r=>some (.rt r)
noncomputable def U6(it:En->Option (List D))(p:Pt)(b:Es):Es:=fun E=>(it E).bind fun ds=>Y5 p b ds E
noncomputable def Yn(c:En->Option Bool)(b:Es):Nat->Es
 | 0,_=>none
 | n+1,E=>(c E).bind fun k=>if k=true then(b E).bind fun o=>match o with
  | .nx E2=>Yn c b n E2
  | .ct E2=>Yn c b n E2
  | .bk E2=>some (.nx E2)
  | .rt r=>some (.rt r)
  else some (.nx E)
section
variable{K:Qx}{C:Qd}{B H0 H H0' H':Hp}{σ:St}{E:En}{D:Ends}{o:Out}{te:TE}{ea:Ev}{t u:TS}{et eu:Es}
theorem Fin.step(st:SStep B H0 H0' H')(f:Fin K C B H0 D o):Fin K C B H0' D o:=by
 cases o with
 | nx E=>exact fun σ' H1 H1' s1 I=>f σ' H1 H1' (st.trans s1) I
 | bk E=>exact fun σ' H1 H1' s1 I=>f σ' H1 H1' (st.trans s1) I
 | ct E=>exact fun σ' H1 H1' s1 I=>f σ' H1 H1' (st.trans s1) I
 | rt r=>exact fun v H1 H1' s1 I=>f v H1 H1' (st.trans s1) I
theorem EnvR.ss(I:EnvR K C B H0 H σ E):SStep B H0 H0 H:=.refl I.b I.h
theorem JoT:SS K C JfH JP:=fun _ _ _ _ _ _ _ I e f=>by cases e;exact f _ _ _ I.ss I
theorem JlU:SS K C Ji4 Jjl:=fun _ _ _ _ _ _ _ _ e _=>by cases e
theorem Jjn(ht:SS K C t et)(hu:SS K C u eu):SS K C (JlK t u) (Jj et eu):=by
 intro B H0 H σ E o D I e f;obtain⟨o1,e1,e⟩:=bind_some e;refine ht B H0 H σ E o1 _ I e1 ?_
 cases o1 with
 | nx E1=>exact fun σ1 H1 H1' s1 I1=>hu B H1 H1' σ1 E1 o D I1 e (f.step s1)
 | bk E1=>cases e;exact f
 | ct E1=>cases e;exact f
 | rt r=>cases e;exact f
theorem Jq9{c:TT}{ec:En->Option Bool}(hc:ST K C c ec)(ht:SS K C t et)(hu:SS K C u eu):SS K C (JlH c t u) (xIf ec et eu):=by
 intro B H0 H σ E o D I e f;obtain⟨k,e1,e⟩:=bind_some e;refine hc B H0 H σ E k _ I e1 fun H1 H1' s1=>?_
 cases k with
 | true=>rw[if_pos rfl];exact ht B H1 H1' σ E o D (I.step s1) e (f.step (s1.ss I.b))
 | false=>rw[if_neg (by simp)];exact hu B H1 H1' σ E o D (I.step s1) e (f.step (s1.ss I.b))
theorem Jax{s r:Sl}(e:keep? s=some r):s=r/\Jm0 r=false:=by cases s <;> cases e <;> exact⟨rfl,rfl⟩
theorem Jmq{i:Nat}(ha:SE K C te ea):SS K C (JgQ te (U7 i)) (UA i ea):=by
 intro B H0 H σ E o D I e f;obtain⟨s,e1,e⟩:=bind_some e;obtain⟨s',e2,e⟩:=bind_some e;obtain⟨rfl,hb⟩:=Jax e2;split at e
 ·cases e;exact ha B H0 H σ E _ _ I e1 fun v H1 H1' s1 r1=>f _ _ _ (s1.ss I.b) (I.put' s1 (by assumption) r1 hb)
 ·cases e
theorem JoV{i:Nat}(ha:SE K C te ea):SS K C (JgQ te (U7 i)) (Jn i ea):=by
 intro B H0 H σ E o D I e f;obtain⟨s,e1,e⟩:=bind_some e;obtain⟨d,e2,e⟩:=bind_some e;split at e
 ·cases e;refine ha B H0 H σ E _ _ I e1 fun v H1 H1' s1 r1=>?_
  have s2:Step H H0 H (Ye H H1 H1') H1':=s1.comp (JN s1.i) fun _ z=>z
  exact f _ _ _ (s2.ss I.b) ((I.step s2).setSh (by assumption) (RR.frz s1.i r1 e2))
 ·cases e
theorem JoQ(ha:SE K C te ea):SS K C (Wr te) (Jjk ea):=by intro B H0 H σ E o D I e f;obtain⟨s,e1,rfl⟩:=map_some e;exact ha B H0 H σ E _ _ I e1 fun v H1 H1' s1 r1=>f _ _ _ (s1.ss I.b) (I.step s1)
theorem Jqz(ha:SE K C te ea):SS K C (JlJ te) (JU ea):=by intro B H0 H σ E o D I e f;obtain⟨s,e1,e⟩:=bind_some e;obtain⟨s',e2,rfl⟩:=map_some e;obtain⟨rfl,hb⟩:=Jax e2;exact ha B H0 H σ E _ _ I e1 fun v H1 H1' s1 r1=>f _ _ _ (s1.ss I.b) (r1.weak fun a z=>Same.free I.b z)
theorem Jjm{i:Nat}:SS K C (JlJ (Y2 i)) (YL i):=by
 intro B H0 H σ E o D I e f;unfold YL at e;split at e
 ·next d h =>
  cases e;rcases I.at' i _ h with z|⟨v,h1,h2⟩
  ·cases z
  ·exact⟨v,h1,f _ _ _ I.ss h2⟩
 ·next d h =>
  cases e;rcases I.at' i _ h with z|⟨v,h1,h2⟩
  ·cases z
  ·exact⟨v,h1,f _ _ _ I.ss h2⟩
 ·next d h =>
  cases e;rcases I.at' i _ h with z|⟨v,h1,h2⟩
  ·cases z
  ·exact⟨v,h1,f _ _ _ I.ss h2⟩
 ·cases e
theorem EnvR.mutG{i:Nat}{l:Qd}{t t':Sl}{o':HO}(I:EnvR K C B H0 H σ E)(e1:E[i]?=some t)(ho:JO t=true)(ho':JO t'=true)(e2:σ[i]?=some (some (.ref l)))(r:RSl K C B H0 (upd H l o') (.ref l) t') :
 EnvR K C B H0 (upd H l o') σ (E.set i t'):=by
 obtain⟨h1,h2,h3⟩:=I.ownG e1 ho e2;have hi:i<E.length:=(Qm.mp e1).1;have nb:∀{A:Hp},A l=none->Same A H->Same A (upd H l o'):=fun {A} n s a o e=>by rw[Je (Jo e n)];exact s a o e
 refine⟨nb h3 I.b,nb h2 I.h,by simp[I.len],fun j s e=>?_,fun j k s1 s2 v hjk a1 a2 p1 p2 a3=>?_,I.t⟩
 ·rw[QW] at e
  by_cases hj:i=j
  ·subst hj;rw[if_pos rfl,if_pos hi] at e;cases e;exact .inr ⟨_,e2,r⟩
  ·rw[if_neg hj] at e;rcases I.at' j s e with z|⟨v,q1,q2⟩
   ·exact .inl z
   ·refine .inr ⟨v,q1,?_⟩
    cases s with
    | no=>trivial
    | sh d=>exact q2
    | bo es=>exact q2
    | bd ks es=>exact q2
    | bt ks es=>exact q2
    | own es =>
     obtain⟨l',ys,p1,p2,p3,p4,p5⟩:=q2;subst p1;have:l'≠l:=fun z=>by subst z;exact I.sep i j t _ (.ref l') hj e1 e ho rfl e2 q1
     exact⟨l',ys,rfl,by rw[Je this];exact p2,p3,p4,p5⟩
    | od ks es =>
     obtain⟨l',ys,p1,p2,p3,p4,p5⟩:=q2;subst p1;have:l'≠l:=fun z=>by subst z;exact I.sep i j t _ (.ref l') hj e1 e ho rfl e2 q1
     exact⟨l',ys,rfl,by rw[Je this];exact p2,p3,p4,p5⟩
    | ot ks es =>
     obtain⟨l',ys,p1,p2,p3,p4,p5⟩:=q2;subst p1;have:l'≠l:=fun z=>by subst z;exact I.sep i j t _ (.ref l') hj e1 e ho rfl e2 q1
     exact⟨l',ys,rfl,by rw[Je this];exact p2,p3,p4,p5⟩
 ·have own:∀{j:Nat} {u:Sl},(E.set i t')[j]?=some u->JO u=true->∃g,E[j]?=some g/\JO g=true:=fun {j u} a w=>by
   rw[QW] at a
   by_cases hj:i=j
   ·subst hj;exact⟨t,e1,ho⟩
   ·rw[if_neg hj] at a;exact⟨_,a,w⟩
  obtain⟨g1,b1,c1⟩:=own a1 p1;obtain⟨g2,b2,c2⟩:=own a2 p2;exact I.sep j k g1 g2 v hjk b1 b2 c1 c2 a3
theorem EnvR.mut{i:Nat}{l:Qd}{ds ds':List LE.D}{xs xs':List V}(I:EnvR K C B H0 H σ E)(e1:E[i]?=some (.own ds))(e2:σ[i]?=some (some (.ref l)))(r:RDL K C H0 xs' ds') :
 EnvR K C B H0 (upd H l (.lst xs')) σ (E.set i (.own ds')):=by
 obtain⟨_,h2,h3⟩:=I.ownG e1 rfl e2;exact I.mutG (t':=.own ds') e1 rfl rfl e2 ⟨l,xs',rfl,Jk,h2,h3,r⟩
theorem EnvR.slot{i:Nat}{ds:List LE.D}(I:EnvR K C B H0 H σ E)(e1:E[i]?=some (.own ds)):∃l xs,σ[i]?=some (some (.ref l))/\H l=some (.lst xs)/\H0 l=none/\B l=none/\RDL K C H0 xs ds:=by
 rcases I.at' i _ e1 with z|⟨v,h1,l,xs,rfl,h2,h3,h4,h5⟩
 ·cases z
 ·exact⟨l,xs,h1,h2,h3,h4,h5⟩
theorem Jqu{i:Nat}(ha:SE K C te ea):SS K C (Wr (tBM K "list" VI (Y2 i) (Y0 te Vl))) (ZR i ea):=by
 intro B H0 H σ E o D I e f;unfold ZR at e;split at e
 ·next ds h =>
  obtain⟨s,e1,e⟩:=bind_some e;obtain⟨d,e2,e⟩:=bind_some e;split at e
  ·next hz =>
   cases e;obtain⟨l,xs,g1,g2,g3,g4,g5⟩:=I.slot h;refine⟨_,g1,.inl ⟨rfl,_,.of g2⟩,?_⟩;refine ha B H0 H σ E _ _ I e1 fun v H1 H1' s1 r1=>?_
   have s2:Step H H0 H (Ye H H1 H1') H1':=s1.comp (JN s1.i) fun _ z=>z
   have I2:=I.step s2
   have m:=I2.mut (xs:=xs) h g1 ((g5.mono s2.z).snoc (RR.frz s1.i r1 e2));exact⟨l,xs,v,rfl,rfl,s2.h _ _ g2,by rw[g5.1];exact hz,f _ _ _ ⟨m.b,s2.z,(s2.ss I.b).n,m.h⟩ m⟩
  ·cases e
 ·cases e
theorem Jqw{i:Nat}(ha:SE K C te ea):SS K C (Wr (tBM K "list" Jfn (Y2 i) (Y0 te Vl))) (ZS i ea):=by
 intro B H0 H σ E o D I e f;unfold ZS at e;split at e
 ·next ds h =>
  obtain⟨s,e1,e⟩:=bind_some e;obtain⟨es,e2,e⟩:=bind_some e;split at e
  ·next hz =>
   cases e;obtain⟨l,xs,g1,g2,g3,g4,g5⟩:=I.slot h;refine⟨_,g1,.inl ⟨rfl,_,.of g2⟩,?_⟩;refine ha B H0 H σ E _ _ I e1 fun v H1 H1' s1 r1=>?_
   have I2:=I.step s1;obtain⟨l',ys,rfl,k1,k2⟩:=r1.m s1.i e2
   have m:=I2.mut (xs:=xs) h g1 ((g5.mono s1.z).append k2);exact⟨l,l',xs,ys,rfl,rfl,s1.h _ _ g2,k1,by rw[g5.1,k2.1];exact hz,f _ _ _ ⟨m.b,s1.z,(s1.ss I.b).n,m.h⟩ m⟩
  ·cases e
 ·cases e
theorem Jqy{i j:Nat}:SS K C (JgQ (JlE K "list" JpT (Y2 i)) (U7 j)) (JlT i j some):=by
 intro B H0 H σ E o D I e f;unfold JlT at e;split at e
 ·next ds h =>
  obtain⟨d,e1,e⟩:=bind_some e;obtain⟨s,e2,e⟩:=bind_some e;cases e2;obtain⟨d',e3,e⟩:=bind_some e;cases e3;split at e
  ·next hj =>
   cases e;obtain⟨l,xs,g1,g2,g3,g4,g5⟩:=I.slot h;rw[<- g5.1] at e1;obtain⟨y,e4,r4⟩:=g5.get e1;have hd:RDL K C H0 xs.dropLast ds.dropLast:=by rw[Rq,Rq,g5.1];exact g5.take _
   have m:=I.mut (xs:=xs) h g1 hd;refine⟨_,g1,.inl ⟨rfl,_,.of g2⟩,l,xs,y,rfl,rfl,g2,e4,?_⟩;exact f _ _ _ ⟨m.b,Same.refl _,fun _ _ e=>.inl e,m.h⟩ (m.setSh (by simpa using hj) r4)
  ·cases e
 ·cases e
theorem Jqv{i:Nat}{g:Int->Int->Int}(ha:SE K C te ea):SS K C (Jqq i te (ipI g)) (Z9 g i ea):=by
 intro B H0 H σ E o D I e f;unfold Z9 at e;split at e
 ·next x h =>
  obtain⟨s,e1,e⟩:=bind_some e;split at e
  ·cases e;rcases I.at' i _ h with z|⟨v,h1,h2⟩
   ·cases z
   ·have hi:i<E.length:=(Qm.mp h).1;refine⟨v,h1,ha B H0 H σ E _ _ I e1 fun w H1 H1' s1 r1=>⟨_,_,RD.intI h2,RD.intI r1,f _ _ _ (s1.ss I.b) ((I.step s1).setSh hi (.int _))⟩⟩
  ·cases e
 ·cases e
theorem EnvR.slotD{i:Nat}{ks:List Int}{ds:List LE.D}(I:EnvR K C B H0 H σ E)(e1:E[i]?=some (.od ks ds)):∃l xs,σ[i]?=some (some (.ref l))/\H l=some (dkO ks xs)/\H0 l=none/\B l=none/\ks.length=ds.length/\RDL K C H0 xs ds:=by
 rcases I.at' i _ e1 with z|⟨v,h1,l,xs,rfl,h2,h3,h4,h5⟩
 ·cases z
 ·exact⟨l,xs,h1,h2,h3,h4,h5⟩
theorem EnvR.frzG(I:EnvR K C B H0 H σ E){i:Nat}{t:Sl}{l:Qd}{o:HO}{d:LE.D}(h:E[i]?=some t)(ho:JO t=true)(g1:σ[i]?=some (some (.ref l)))(g2:H l=some o)(g5:∀H1,Same H0 H1->H1 l=some o->RD K C H1 (.ref l) d):∃H0',SStep B H0 H0' H/\EnvR K C B H0' H σ (E.set i (.sh d)):=by
 obtain⟨_,g3,g4⟩:=I.ownG h ho g1;have hi:i<E.length:=(Qm.mp h).1;have s0:Same H0 (upd H0 l o):=.new g3
 have s1:Same (upd H0 l o) H:=fun a o e=>by
  by_cases ha:a=l
  ·subst ha;rw[Jk] at e;cases e;exact g2
  ·rw[Je ha] at e;exact I.h a o e
 refine⟨upd H0 l o,⟨I.b,s0,fun a o e=>?_,s1⟩,I.b,s1,by simp[I.len],fun j s e=>?_,fun j k u1 u2 v hjk a1 a2 w1 w2 a3=>?_,I.t⟩
 ·by_cases ha:a=l
  ·subst ha;exact .inr (.inl g4)
  ·rw[Je ha] at e;exact .inl e
 ·rw[QW] at e
  by_cases hj:i=j
  ·subst hj;rw[if_pos rfl,if_pos hi] at e;cases e;exact .inr ⟨_,g1,g5 _ s0 Jk⟩
  ·rw[if_neg hj] at e;rcases I.at' j s e with z|⟨v,q1,q2⟩
   ·exact .inl z
   ·refine .inr ⟨v,q1,?_⟩
    cases s with
    | no=>trivial
    | sh d=>exact RD.mono s0 q2
    | bo es=>obtain⟨l',ys,p1,p2,p3⟩:=q2;exact⟨l',ys,p1,p2,p3.mono s0⟩
    | bd ks es=>obtain⟨l',ys,p1,p2,hk,p3⟩:=q2;exact⟨l',ys,p1,p2,hk,p3.mono s0⟩
    | bt ks es=>obtain⟨l',ys,p1,p2,hk,p3⟩:=q2;exact⟨l',ys,p1,p2,hk,p3.mono s0⟩
    | own es =>
     obtain⟨l',ys,p1,p2,p3,p4,p5⟩:=q2;subst p1;have:l'≠l:=fun z=>by subst z;exact I.sep i j t _ (.ref l') hj h e ho rfl g1 q1
     exact⟨l',ys,rfl,p2,by rw[Je this];exact p3,p4,p5.mono s0⟩
    | od ks es =>
     obtain⟨l',ys,p1,p2,p3,p4,hk,p5⟩:=q2;subst p1;have:l'≠l:=fun z=>by subst z;exact I.sep i j t _ (.ref l') hj h e ho rfl g1 q1
     exact⟨l',ys,rfl,p2,by rw[Je this];exact p3,p4,hk,p5.mono s0⟩
    | ot ks es =>
     obtain⟨l',ys,p1,p2,p3,p4,hk,p5⟩:=q2;subst p1;have:l'≠l:=fun z=>by subst z;exact I.sep i j t _ (.ref l') hj h e ho rfl g1 q1
     exact⟨l',ys,rfl,p2,by rw[Je this];exact p3,p4,hk,p5.mono s0⟩
 ·have own:∀{j:Nat} {u:Sl},(E.set i (.sh d))[j]?=some u->JO u=true->E[j]?=some u:=fun {j u} a w=>by
   rw[QW] at a
   by_cases hj:i=j
   ·subst hj;rw[if_pos rfl,if_pos hi] at a;cases a;cases w
   ·rw[if_neg hj] at a;exact a
  exact I.sep j k u1 u2 v hjk (own a1 w1) (own a2 w2) w1 w2 a3
theorem EnvR.frz(I:EnvR K C B H0 H σ E)(i:Nat):∃H0',SStep B H0 H0' H/\EnvR K C B H0' H σ (JmS i E):=by
 unfold JmS;split
 ·next ds h=>obtain⟨l,xs,g1,g2,g3,g4,g5⟩:=I.slot h;exact I.frzG h rfl g1 g2 fun H1 s0 hl=>.mkL hl (g5.mono s0)
 ·next ks ds h=>obtain⟨l,xs,g1,g2,g3,g4,hk,g5⟩:=I.slotD h;exact I.frzG h rfl g1 g2 fun H1 s0 hl=>.mkD hl hk (g5.mono s0)
 ·exact⟨H0,I.ss,I⟩
theorem Jqx{wi:TI}{g:TG}{it:En->Option (List LE.D)}{p:Pt}(hi:SI K C false wi it)(hg:SG K C g p)(ht:SS K C t et):SS K C (JlG wi g t) (U6 it p et):=by
 intro B H0 H σ E o D I e f;obtain⟨ds,e1,e⟩:=bind_some e;refine hi B H0 H σ E ds _ I e1 fun J H1 H1' s1 ok=>?_
 rw[if_neg (by simp)] at ok;refine⟨fun i m σ' H'=>m=ds.length-i/\i<=ds.length/\∃H0' E',EnvR K C B H0' H' σ' E'/\SStep B H1 H0' H'/\Y5 p et (ds.drop i) E'=some o,
  ⟨ds.length,by simp,GA _,H1,E,I.step s1,.refl (I.b.trans s1.h) s1.i,e⟩,?_⟩
 rintro i m σ' H' ⟨rfl,hi',H0',E',I',st,er⟩;have stop:=ok H0' H' st;have f':Fin K C B H0' D o:=(f.step (s1.ss I.b)).step st
 by_cases hlt:i<ds.length
 ·have hd:ds[i]?=some ds[i]:=by simp[hlt]
  obtain⟨go,yl⟩:=stop.1 i _ hd;refine .inr ⟨go,fun σ2 H2=>∃H02 E2,EnvR K C B H02 H2 σ2 E2/\SStep B H1 H02 H2/\Y5 p et (ds.drop (i+1)) E2=some o,fun σ2 H2 h=>⟨ds.length-(i+1),by omega,rfl,hlt,h⟩,fun x H2 y=>?_⟩;obtain⟨H02,st2,rx⟩:=yl x H2 y;rw[Lr hlt,Y5] at er;obtain⟨E1,b1,er⟩:=bind_some er;obtain⟨o1,b2,er⟩:=bind_some er;have ss2:SStep B H0' H02 H2:=st2.ss I'.b;refine hg B H02 H2 σ' E' E1 x _ _ (I'.step st2) rx b1 fun σ2 I2=>?_
  refine ht B H02 H2 σ2 E1 o1 _ I2 b2 ?_
  cases o1 with
  | nx E2=>exact fun σ3 H3 H3' s3 I3=>⟨H3,E2,I3,(st.trans ss2).trans s3,er⟩
  | ct E2=>exact fun σ3 H3 H3' s3 I3=>⟨H3,E2,I3,(st.trans ss2).trans s3,er⟩
  | bk E2=>cases er;exact f'.step ss2
  | rt r=>cases er;exact f'.step ss2
 ·have e3:i=ds.length:=by omega
  subst e3;rw[List.drop_length,Y5] at er;cases er;exact .inl ⟨stop.2,f' _ _ _ I'.ss I'⟩
theorem JlV{c:TT}{ec:En->Option Bool}{n:Nat}(hc:ST K C c ec)(ht:SS K C t et):SS K C (Ji7 c t) (Yn ec et n):=by
 intro B H0 H σ E o D I e f;refine⟨fun m σ' H'=>∃H0' E',EnvR K C B H0' H' σ' E'/\SStep B H0 H0' H'/\Yn ec et m E'=some o,⟨n,H0,E,I,I.ss,e⟩,?_⟩;rintro m σ' H' ⟨H0',E',I',st,er⟩
 cases m with
 | zero=>cases er
 | succ m =>
  rw[Yn] at er;obtain⟨k,b1,er⟩:=bind_some er;refine hc B H0' H' σ' E' k _ I' b1 fun H1 H1' s1=>?_
  have f':Fin K C B H1 D o:=(f.step st).step (s1.ss I'.b)
  cases k with
  | false=>rw[if_neg (by simp)] at er ⊢;cases er;exact f' _ _ _ (I'.step s1).ss (I'.step s1)
  | true =>
   rw[if_pos rfl] at er ⊢;obtain⟨o1,b2,er⟩:=bind_some er;refine⟨fun σ2 H2=>∃H02 E2,EnvR K C B H02 H2 σ2 E2/\SStep B H0 H02 H2/\Yn ec et m E2=some o,fun σ2 H2 h=>⟨m,GH _,h⟩,?_⟩;have st1:=st.trans (s1.ss I'.b);refine ht B H1 H1' σ' E' o1 _ (I'.step s1) b2 ?_
   cases o1 with
   | nx E2=>exact fun σ3 H3 H3' s3 I3=>⟨H3,E2,I3,st1.trans s3,er⟩
   | ct E2=>exact fun σ3 H3 H3' s3 I3=>⟨H3,E2,I3,st1.trans s3,er⟩
   | bk E2=>cases er;exact f'
   | rt r=>cases er;exact f'
end

noncomputable def Jds:Out->Option Sl
 | .nx _=>some (.sh .non)
 | .rt r=>some r
 | .bk _=>none
 | .ct _=>none
noncomputable def Yw(N:Nat)(b:Es):List Sl->Option Sl:=fun as=>(b (as++QA (N-as.length) .no)).bind Jds
section
variable{K:Qx}{C:Qd}
theorem RRL.get{Hs H0 H:Hp}:∀{vs:List V} {ss:List Sl} {i:Nat} {s:Sl},RRL K C Hs H0 H vs ss->ss[i]?=some s->∃v,vs[i]?=some v/\RR K C Hs H0 H v s
 | _,_,_,_,.nil,e=>by simp at e
 | _,_,0,_,.cons h _,e=>by simp at e;subst e;exact⟨_,rfl,h⟩
 | _,_,i+1,s,.cons _ t,e=>by obtain⟨v,h1,h2⟩:=RRL.get (i:=i) (s:=s) t (by simpa using e);exact⟨v,by simpa using h1,h2⟩
theorem JeP{N:List Str}{n:Nat}{b:Es}{ts:TS}{vs:List V}{H:Hp}{Q:VK}{E:XK}(hb:SS K C ts b)(h:spE K C n (Yw N.length b) vs H Q E):ts { nx:=fun _ H'=>Q .non H',rt:=Q } (L2.Yq N vs) H:=by
 obtain⟨tb,H0,as,r,i,ra,ho,hl,e,q⟩:=h;have lens:=ra.len
 have noOwn:∀(j:Nat) (s:Sl),as[j]?=some s->JO s=false:=fun j s e=>by
  have:=Lo.mp ho s (QJ e)
  simpa using this
 have get:∀(j:Nat) (s:Sl),(as++QA (N.length-as.length) Sl.no)[j]?=some s->s=.no\/as[j]?=some s:=fun j s e=>by
  by_cases hj:j<as.length
  ·rw[QI hj] at e;exact .inr e
  ·rw[QE (by omega),MR] at e;split at e
   ·cases e;exact .inl rfl
   ·cases e
 have I:EnvR K C H H0 H (L2.Yq N vs) (as++QA (N.length-as.length) .no):=by
  refine⟨Same.refl _,i,by simp[L2.Yq,lens],fun j s e=>?_,fun j k s1 s2 v hjk e1 e2 w1 w2=>?_,tb⟩
  ·rcases get j s e with z|z
   ·exact .inl z
   ·obtain⟨v,h1,h2⟩:=ra.get z;refine .inr ⟨v,?_,?_⟩
    ·unfold L2.Yq;rw[QI (by have:=(Qm.mp h1).1;simpa using this),Qo,h1];rfl
    ·cases s with
     | no=>trivial
     | sh d=>exact h2
     | bo ds=>exact h2
     | own ds=>exact absurd (noOwn j _ z) (by simp[JO])
     | bd ks ds=>exact h2
     | bt ks ds=>exact h2
     | od ks ds=>exact absurd (noOwn j _ z) (by simp[JO])
     | ot ks ds=>exact absurd (noOwn j _ z) (by simp[JO])
  ·rcases get j _ e1 with z|z
   ·subst z;cases w1
   ·rw[noOwn j _ z] at w1;cases w1
 obtain⟨o,e1,e⟩:=bind_some e;refine hb H H0 H _ _ o _ I e1 ?_
 cases o with
 | nx E1=>cases e;exact fun σ' H1 H1' s1 I1=>q _ H1 H1' ⟨s1.b,s1.z,s1.n,s1.i⟩ RD.non
 | rt r'=>cases e;exact fun v H1 H1' s1 r1=>q v H1 H1' ⟨s1.b,s1.z,s1.n,s1.i⟩ r1
 | bk _=>cases e
 | ct _=>cases e
structure RowK (K:Qx) (C:Qd):Prop where
 t:RowC K C
 k1:findIn K (.ref C) "__class__"=some (some (.builtin "object.__class__"))
 k2:specialIn K (.builtin "object.__class__") "__get__"=some (some (.builtin "getset_descriptor.__get__"))
 k3:takesIn K (.builtin "object.__class__")=some true
 k4:mroIn K C (.type "object")=some true
end
end LE

namespace L2
open PySem PySem.Spec PyProof.Rows
end L2
namespace LE
open PySem L2 LR
noncomputable def JmY(a:Int):Bool:=R4 a.natAbs 1152921504606846975
theorem in60_ok{a:Int}:JmY a=true↔-1152921504606846976<a/\a<1152921504606846976:=by unfold JmY;rw[Lk];omega
section
variable{K:Qx}{C:Qd}{m:Bool}
noncomputable def str?:Sl->Option Str
 | .sh (.str z)=>some z
 | _=>none
end
end LE

namespace LE
open PySem L2 LR
noncomputable def okS(P:En->Prop):Option Out->Prop
 | some (.nx E)=>P E
 | some (.ct E)=>P E
 | _=>False
theorem Jnw{P:En->Prop}{E:En}:okS P (some (.nx E))=P E:=rfl
theorem Jnv{P:En->Prop}{E:En}:okS P (some (.ct E))=P E:=rfl
theorem Zr{P:En->Prop}{o:Option Out}(h:okS P o):∃E,(o=some (.nx E)\/o=some (.ct E))/\P E:=by
 unfold okS at h;split at h
 ·exact⟨_,.inl rfl,h⟩
 ·exact⟨_,.inr rfl,h⟩
 ·exact h.elim
theorem Yp{γ α β:Type}{p:Pt}{b:Es}{f:α->D}{k:Out->Option γ}{r:Option γ}(R:List α->β->En->Prop)(g:β->α->β):∀{as:List α} {E:En} (s:β) (h0:R as s E)
 (h:∀a as s E,R (a::as) s E->okS (R as (g s a)) ((p.bind (f a) E).bind b)) (fin:∀E',R [] (as.foldl g s) E'->k (.nx E')=r),(Y5 p b (as.map f) E).bind k=r
 | [],E,s,h0,_,fin=>fin E h0
 | a::as,E,s,h0,h,fin=>by
  obtain⟨E2,e2,r2⟩:=Zr (h a as s E h0);have ih:=Yp (k:=k) (r:=r) R g (as:=as) (E:=E2) (g s a) r2 h fin;rw[Qg,Y5]
  cases hp:p.bind (f a) E with
  | none=>rw[hp] at e2;rcases e2 with e2|e2 <;> cases e2
  | some E1=>rw[hp,QV] at e2;rw[QV];rcases e2 with e2|e2 <;> (rw[e2,QV];exact ih)
theorem Jh2{γ:Type}{p:Pt}{b:Es}{f:Nat->D}{n:Nat}{E:En}{k:Out->Option γ}{r:Option γ}(R:Nat->En->Prop)(h0:R 0 E)
 (h:∀i E,i<n->R i E->okS (R (i+1)) ((p.bind (f i) E).bind b)) (fin:∀E',R n E'->k (.nx E')=r):(Y5 p b ((QS n).map f) E).bind k=r:=by
 refine Yp (fun(as:List Nat) (i:Nat) E=>i+as.length=n/\as=List.range' i as.length/\R i E) (fun i _=>i+1) 0 ⟨by simp,by simp[List.range_eq_range'],h0⟩ (fun a as i E ⟨hk,e,q⟩=>?_) fun E' ⟨hk,_,q⟩=>?_
 ·rw[Qv,List.range'_succ] at e;have e1:a=i:=(List.cons.inj e).1;subst e1;obtain⟨E2,e2,r2⟩:=Zr (h a E (by rw[Qv] at hk;omega) q);have fin2:(a+1)+as.length=n/\as=List.range' (a+1) as.length/\R (a+1) E2:=⟨by rw[Qv] at hk;omega,(List.cons.inj e).2,r2⟩
  rcases e2 with e2|e2 <;> (rw[e2];exact fin2)
 ·have e3:(QS n).foldl (fun i _=>i+1) 0=n:=by simpa using hk
  rw[e3] at q;exact fin E' q
theorem Yx{α:Type}{p:Pt}{a:Ev}{E1:En}{f g:α->D}:∀{xs:List α},(∀x∈xs,((p.bind (f x) E1).bind a).bind Sl.frz=some (g x))->Ud p yes? a E1 (xs.map f)=some (xs.map g)
 | [],_=>rfl
 | x::xs,h=>by have h1:=h x Qh;obtain⟨s,e1,e2⟩:=bind_some h1;obtain⟨E2,e3,e4⟩:=bind_some e1;rw[Qg,Ud,e3];simp only[QV,yes?,if_true,e4,e2];rw[Yx fun y hy=>h y (Qf _ hy)];rfl
theorem WB{α:Type}{p:Pt}{c:En->Option Bool}{a:Ev}{E1:En}{f g:α->D}{k:α->Bool}:∀{xs:List α},(∀x∈xs,(p.bind (f x) E1).bind c=some (k x)/\(k x=true->((p.bind (f x) E1).bind a).bind Sl.frz=some (g x)))->Ud p c a E1 (xs.map f)=some ((xs.filter k).map g)
 | [],_=>rfl
 | x::xs,h=>by
  obtain⟨h1,h2⟩:=h x Qh;obtain⟨E2,e3,e4⟩:=bind_some h1;have ih:=WB (xs:=xs) (fun y hy=>h y (Qf _ hy));rw[Qg,Ud,e3];simp only[QV,e4]
  cases hk:k x with
  | false=>rw[if_neg (by simp),ih,Ga (by simp[hk])]
  | true=>obtain⟨s,e1,e2⟩:=bind_some (h2 hk);rw[e3,QV] at e1;rw[if_pos rfl,e1];simp only[QV,e2];rw[ih,GI hk];rfl
theorem Jq1(n:Nat):rng 0 n=(QS n).map fun i=>.int (i:Int):=by unfold rng;exact GD fun i _=>by rw[K6]
theorem Jfw:Qt=16777216:=rfl
theorem JaU{α β:Type}(f:α->β)(xs:List α)(i:Int):atI (xs.map f) i=(atI xs i).map f:=by
 unfold atI;rw[Qq]
 cases ixN xs.length i with
 | none=>rfl
 | some j=>simp
theorem Jb4{α:Type}{xs:List α}{k:Nat}(h:k<xs.length):atI xs (k:Int)=some xs[k]:=by unfold atI ixN;rw[if_pos (by omega),if_pos (by omega)];simp[h]
theorem Jb3{ns:List Int}{k:Int}(h0:0<=k)(h:k<(ns.length:Int)):atI ns k=some (cell ns k):=by
 obtain⟨j,rfl⟩:=Int.eq_ofNat_of_zero_le h0;have hj:j<ns.length:=by omega
 rw[Jb4 hj];simp[cell,hj]
theorem Jha{l:List Int}{k:Int}(h0:0<=k)(h1:k<(l.length:Int)):atI (l.map D.int) k=some (.int (Jd1 l k)):=by rw[JaU,Jb3 h0 h1];rfl
structure Kd {α:Type} (f:α->D) (n:Nat):Prop where
 lay:∀a,(f a).py.canLay0=true
 dep:∀a,(f a).py.depth<=n
 eqv:∀a b,LV (f a).py (f b).py=true↔a=b
theorem Kd.eq{α:Type}[DecidableEq α]{f:α->D}{n:Nat}(k:Kd f n)(h:n<=60)(a b:α):eqD (f a) (f b)=some (decide (a=b)):=by unfold eqD;have:=k.dep a;rw[k.lay a,k.lay b,if_pos (by simp;omega)];congr 1;rw[Kt,k.eqv];simp
theorem Jm6:Kd D.int 1:=⟨fun _=>rfl,fun _=>by simp[D.py,Rc],fun a b=>by show(a == b)=true↔_;simp⟩
theorem V6{α:Type}{f:α->D}{n:Nat}(k:Kd f n):(∀xs:List α,Lf (D.pyL (xs.map f))=true)/\(∀xs:List α,L5 (D.pyL (xs.map f))<=n)/\∀xs ys:List α,Lx (D.pyL (xs.map f)) (D.pyL (ys.map f))=true↔xs=ys:=by
 refine⟨fun xs=>?_,fun xs=>?_,fun xs=>?_⟩
 ·induction xs with
  | nil=>rfl
  | cons x xs ih=>show(PyData.canLay0 _ && Lf _)=true;rw[k.lay,ih];rfl
 ·induction xs with
  | nil=>simp[D.pyL,L5]
  | cons x xs ih=>have:=k.dep x;simp only[Qg,D.pyL,L5];omega
 ·induction xs with
  | nil=>intro ys;cases ys with
   | nil=>simp[D.pyL,Lx]
   | cons y ys=>simp[D.pyL,Lx]
  | cons x xs ih=>intro ys;cases ys with
   | nil=>simp[D.pyL,Lx]
   | cons y ys=>simp only[Qg,D.pyL,Lx,QX,k.eqv,ih,List.cons.injEq]
theorem JhU{α:Type}{f:α->D}{n:Nat}(k:Kd f n):Kd (fun xs:List α=>D.lst (xs.map f)) (n+1) :=
 ⟨fun xs=>(V6 k).1 xs,fun xs=>by have:=(V6 k).2.1 xs;simp only[D.py,Rc];omega,fun xs ys=>by simp only[D.py,LV];exact(V6 k).2.2 xs ys⟩
theorem Jm7{α:Type}{f:α->D}{n:Nat}(k:Kd f n):Kd (fun xs:List α=>D.tup (xs.map f)) (n+1) :=
 ⟨fun xs=>(V6 k).1 xs,fun xs=>by have:=(V6 k).2.1 xs;simp only[D.py,Rc];omega,fun xs ys=>by simp only[D.py,LV];exact(V6 k).2.2 xs ys⟩
theorem kd_pr:Kd prE 2:=⟨fun _=>rfl,fun _=>by simp[prE,D.py,D.pyL,Rc,L5],fun a b=>by obtain⟨a1,a2⟩:=a;obtain⟨b1,b2⟩:=b;simp[prE,D.py,D.pyL,LV,Lx]⟩
theorem JmK(a b:Pr):eqD (prE a) (prE b)=some (decide (a=b)):=kd_pr.eq (by decide) a b
theorem JjM(a b:List Pr):eqD (.lst (a.map prE)) (.lst (b.map prE))=some (decide (a=b)):=(JhU kd_pr).eq (by decide) a b
theorem JjN(a b:List Pr):eqD (.tup (a.map prE)) (.tup (b.map prE))=some (decide (a=b)):=(Jm7 kd_pr).eq (by decide) a b
theorem Jhx(a b:List Int):eqD (.lst (a.map .int)) (.lst (b.map .int))=some (decide (a=b)):=(JhU Jm6).eq (by decide) a b
theorem WC{s:Sl}{ps:List Pr}(e:s.q=some (ps.map prE))(g:Good ps)(h:ps.length<=30):ZX [s]=some (.sh (.row (ps.map prE))):=by show(s.q.bind _)=_;rw[e,QV,JaN,QV,Zb g,if_pos (by simp[h])]
section
variable{a b:Int}{xs ys:List D}{d:D}{x y:Str}{E:En}{B:Es}{r:Sl}
theorem Jlq:JbG B (.nx E)=B E:=rfl
theorem Jlr:JbG B (.rt r)=some (.rt r):=rfl
theorem Jlo:JbG B (.bk E)=some (.bk E):=rfl
theorem Jlp:JbG B (.ct E)=some (.ct E):=rfl
theorem JjI:Jds (.nx E)=some (.sh .non):=rfl
theorem JjJ:Jds (.rt r)=some r:=rfl
theorem Jpf{g:Int->Int->D}:fI g (.sh (.int a)) (.sh (.int b))=some (.sh (g a b)):=rfl
theorem Jj6(h:(-18446744073709551616<a/\a<18446744073709551616)\/(-18446744073709551616<b/\b<18446744073709551616)):Yl (.sh (.int a)) (.sh (.int b))=some (.sh (.int (a*b))):=by show(if _ then _ else _)=_;rw[if_pos];simp only[LA,Ux];exact h
theorem Jj5(h:0<b):UG (.sh (.int a)) (.sh (.int b))=some (.sh (.int (a % b))):=by show(if _ then _ else _)=_;rw[if_pos (by simpa using h)]
theorem Jj3(h:0<b/\b<1073741824):Ja4 (.sh (.int a)) (.sh (.int b))=some (.sh (.int (a / b))):=by show(if _ then _ else _)=_;rw[if_pos (smallP_ok.mpr h)]
theorem Jj8(h:0<=b/\b<=1000000/\-1000<a/\a<1000):Jdz (.sh (.int a)) (.sh (.int b))=some (.sh (.int (a ^ b.toNat))):=by show(if _ then _ else _)=_;rw[if_pos];simp only[QX,decide_eq_true_eq,Lk,Ux];omega
theorem Jj7:Jga (.sh (.int a))=some (.sh (.int (-a))):=rfl
theorem JjS:JT (.sh (.int a)) (.sh (.int b))=some (.sh (.int (a+b))):=rfl
theorem JjZ(h:x.length+y.length<=16777216):JT (.sh (.str x)) (.sh (.str y))=some (.sh (.str (x++y))):=if_pos h
theorem Uo{p q:Sl}(h1:p.m=some xs)(h2:q.m=some ys)(h:xs.length+ys.length<=16777216):Jf9 p q=some (.own (xs++ys)):=by unfold Jf9;rw[h1,h2];exact if_pos h
theorem JjW(h:xs.length+ys.length<=16777216):JT (.own xs) (.own ys)=some (.own (xs++ys)):=Uo rfl rfl h
theorem JjV(h:xs.length+ys.length<=16777216):JT (.own xs) (.bo ys)=some (.own (xs++ys)):=Uo rfl rfl h
theorem JjQ(h:xs.length+ys.length<=16777216):JT (.bo xs) (.own ys)=some (.own (xs++ys)):=Uo rfl rfl h
theorem JjP(h:xs.length+ys.length<=16777216):JT (.bo xs) (.bo ys)=some (.own (xs++ys)):=Uo rfl rfl h
theorem JjX(h:xs.length+ys.length<=16777216):JT (.own xs) (.sh (.lst ys))=some (.own (xs++ys)):=Uo rfl rfl h
theorem JjY(h:xs.length+ys.length<=16777216):JT (.sh (.lst xs)) (.own ys)=some (.own (xs++ys)):=Uo rfl rfl h
theorem JjT(h:xs.length+ys.length<=16777216):JT (.sh (.lst xs)) (.bo ys)=some (.own (xs++ys)):=Uo rfl rfl h
theorem JjR(h:xs.length+ys.length<=16777216):JT (.bo xs) (.sh (.lst ys))=some (.own (xs++ys)):=Uo rfl rfl h
theorem JjU(h:xs.length+ys.length<=16777216):JT (.sh (.lst xs)) (.sh (.lst ys))=some (.own (xs++ys)):=Uo rfl rfl h
theorem JmP(h:x.length<=16777216):Yd [.sh (.str x)]=some (.sh (.int x.length)):=if_pos h
theorem JmN:Yd [.sh (.lst xs)]=some (.sh (.int xs.length)):=rfl
theorem JmM:Yd [.sh (.fz xs)]=some (.sh (.int xs.length)):=rfl
theorem JmQ:Yd [.sh (.tup xs)]=some (.sh (.int xs.length)):=rfl
theorem JmL:Yd [.bo xs]=some (.sh (.int xs.length)):=rfl
theorem JmO:Yd [.own xs]=some (.sh (.int xs.length)):=rfl
theorem Jpi:fIx (.sh (.lst xs)) (.sh (.int a))=(atI xs a).map .sh:=rfl
theorem Jph:fIx (.sh (.fz xs)) (.sh (.int a))=(atI xs a).map .sh:=rfl
theorem Jpk:fIx (.sh (.tup xs)) (.sh (.int a))=(atI xs a).map .sh:=rfl
theorem Jpg:fIx (.bo xs) (.sh (.int a))=(atI xs a).map .sh:=rfl
theorem Jpj:fIx (.own xs) (.sh (.int a))=(atI xs a).map .sh:=rfl
theorem JmI:eqA (.int a) (.int b)=some (decide (a=b)):=rfl
theorem JmJ:eqA (.str x) (.str y)=some (decide (x=y)):=rfl
theorem JmH{p q:Bool}:eqA (.bl p) (.bl q)=some (decide (p=q)):=rfl
theorem Jhw(p q:Pr):eqA (prE p) (prE q)=some (decide (p=q)):=JmK p q
theorem JmF(p q:List Pr):eqA (.lst (p.map prE)) (.lst (q.map prE))=some (decide (p=q)):=JjM p q
theorem JmG(p q:List Pr):eqA (.tup (p.map prE)) (.tup (q.map prE))=some (decide (p=q)):=JjN p q
theorem JmE(p q:List Int):eqA (.lst (p.map .int)) (.lst (q.map .int))=some (decide (p=q)):=Jhx p q
theorem Jbg(h:-4611686018427387904<a/\a<4611686018427387904):JdG a=true:=by unfold JdG;rw[Lk];omega
theorem JmZ(h:-1152921504606846976<a/\a<1152921504606846976):JmY a=true:=in60_ok.mpr h
theorem JiV(h:0<a/\a<1073741824):JbJ a=true:=smallP_ok.mpr h
theorem Vx{s:Sl}{ns:List Int}(e:s.q=some (ns.map .int)):V0 [s]=some (.sh (.int ns.sum)):=by show(s.q.bind _)=_;rw[e,QV,Ze];rfl
theorem Jj2{s:Sl}{ns:List Bool}(e:s.q=some (ns.map .bl)):Jj1 [s]=some (.sh (.bl (ns.any id))):=by show(s.q.bind _)=_;rw[e,QV,Jet];rfl
theorem Jo2{i:Nat}:(Pt.nm i).bind d E=if i<E.length then some (E.set i (.sh d)) else none:=by rw[Pt.bind]
theorem Jo3{l:Pts}:(Pt.tp l).bind (.tup xs) E=l.bind xs E:=by rw[Pt.bind]
theorem Jjs:Pts.nil.bind [] E=some E:=by rw[Pts.bind]
theorem Jg1{q:Pt}{l:Pts}:(Pts.cons q l).bind (d::xs) E=(q.bind d E).bind fun E'=>l.bind xs E':=by rw[Pts.bind]
theorem JqD:((0:Nat):Int)=0:=rfl
theorem JqE:((1:Nat):Int)=1:=rfl
theorem JqF:((2:Nat):Int)=2:=rfl
theorem JqG:((3:Nat):Int)=3:=rfl
theorem JqH:((4:Nat):Int)=4:=rfl
theorem Jgl:D.isNon .non=true:=rfl
theorem Jgj:D.isNon (.int a)=false:=rfl
theorem JhO{k:Bool}:D.isNon (.bl k)=false:=rfl
theorem Jgn:D.isNon (.str x)=false:=rfl
theorem Jgo:D.isNon (.tup xs)=false:=rfl
theorem Jgk:D.isNon (.lst xs)=false:=rfl
theorem JhP:D.isNon (.fz xs)=false:=rfl
theorem Jgm:D.isNon (.row xs)=false:=rfl
theorem Jnd:Jcr "int" "int"=true:=by decide
theorem Jkn:Jcr "int" "bool"=false:=by decide
theorem Jnc:Jcr "bool" "bool"=true:=by decide
theorem Jng:Jcr "tuple" "tuple"=true:=by decide
theorem Jne:Jcr "list" "list"=true:=by decide
theorem Jnf:Jcr "str" "str"=true:=by decide
end
end LE

namespace HT
open PySem PySem.Spec PyProof.Rows
section
variable{prog:Qw}{w:QF}{A:QC}{E:Qc->Qe->Prop}{s:Qe}
theorem Vz{t sl:Qd}{items:Array Qc}{vl vu:Qc}{lo hi:Option Int}{Q:Qc->Qe->Prop}(ht:IsTup s.heap t items)(hs:s.heap.IsSliceOf sl vl vu .none)(pl:IsPart vl lo)(pu:IsPart vu hi)
 (hw:sIx items.size 0 lo=0/\sIx items.size items.size hi=items.size) (h:Q (.ref t) s):wpAny (model prog w) A (getItem (.ref t) (.ref sl)) Q E s:=by
 obtain⟨os,hos,hcs,hds⟩:=id hs;have hTs:s.TypeIs (.ref sl) "slice":=⟨os,hos,hcs⟩
 unfold getItem
 try with_reducible refine G8 ?_
 first|refine Qa (Qj ?_)|skip
 refine Qa (wpAny_sequenceKey ht.typeIs (by decide) ?_);refine Qa (Gg (name:=Gr "__getitem__") ht.typeIs Gy
  (Gm Gy ht.typeIs entry_tuple_getitem ?_ (args_tuple_getitem _ _)))
 show wpAny _ _ (Ms (.ref t) >>= _) _ _ s;refine Qa (tupleItemsOf_ ht ?_);refine Qa (Mc hTs ?_);rw[if_pos (by decide)];refine Qa (Uk hs pl pu ?_)
 have yes:(((sIx items.size 0 lo:Nat):Int) == 0 && (1:Int) == 1 && (sIx items.size items.size hi-sIx items.size 0 lo) == items.size)=true:=by rw[hw.1,hw.2];simp
 show wpAny _ _ (if (((sIx items.size 0 lo:Nat):Int) == 0 && (1:Int) == 1 && (sIx items.size items.size hi-sIx items.size 0 lo) == items.size)=true then _ else _) _ _ s;rw[if_pos yes];unfold Builtin.Tuple.tupleIsExact;refine Qa (Qa (Mc ht.typeIs (Qj ?_)));rw[if_pos (by decide)];refine Qa (Kz ?_);exact Qj ⟨_,rfl,Qj h⟩
end
end HT
namespace L2
open PySem PySem.Spec PyProof.Rows
section
variable{X:Cx}{K:Qx}
noncomputable def JpX(K:Qx):V->Option Int->Option Int->Hp->VK->Prop:=fun x lo hi H Q=>∃a xs,x=.ref a/\SqT K H a xs/\(HT.sIx xs.length 0 lo=0/\HT.sIx xs.length xs.length hi=xs.length)/\Q (.ref a) H
theorem JiU:SlR X (JpX X.K):=by
 intro pins s σ H x v vl vu lo hi sl Q I rx hs pl pu h;obtain⟨a,xs,rfl,hx,hw,q⟩:=h;cases rx;obtain⟨its,r,ht,hz⟩:=I.tuple hx;have hlen:its.toArray.size=xs.length:=by rw[Qu];exact r.length.symm
 refine⟨"tuple",_,Gy.lookup,ht.typeIs,?_⟩;exact HT.Vz ht hs pl pu (by rw[hlen];exact hw) ⟨.ref a,H,I,rfl,q⟩
noncomputable def JnW(K:Qx):V->Option Int->Option Int->Hp->VK->Prop:=fun x lo hi H Q=>JpV K x lo hi H Q\/JpW K x lo hi H Q\/JpX K x lo hi H Q
theorem Jlw(hK:X.K=K):SlR X (JnW K):=by subst hK;exact sl_list.or (sl_tup.or JiU)
end
end L2
namespace LE
open PySem L2 LR
noncomputable def Jdq{α:Type}(xs:List α)(lo hi:Option Int):List α:=(xs.drop (HT.sIx xs.length 0 lo)).take (HT.sIx xs.length xs.length hi-HT.sIx xs.length 0 lo)
noncomputable def fSl(s:Sl)(lo hi:Option Int):Option Sl:=match s with
 | .sh (.tup ds)=>some (.sh (.tup (Jdq ds lo hi)))
 | s=>s.r.map fun ds=>.own (Jdq ds lo hi)
noncomputable def W1(o:Option Ev):En->Option (Option Int):=fun E=>match o with
 | none=>some none
 | some a=>(a E).bind fun s=>match s with
  | .sh (.int i)=>some (some i)
  | _=>none
noncomputable def eSl(a:Ev)(lo hi:Option Ev):Ev:=fun E=>(a E).bind fun s=>(W1 lo E).bind fun l=>(W1 hi E).bind fun h=>fSl s l h
section
variable{K:Qx}{C:Qd}{te:TE}{ea:Ev}{tl th:TO}{el eh:Option Ev}
noncomputable def SP'(K:Qx)(C:Qd)(t:TO)(ev:En->Option (Option Int)):Prop:=∀(B H0 H:Hp) (σ:St) (E:En) (r:Option Int) (Q:Option Int->Hp->Prop),EnvR K C B H0 H σ E->ev E=some r ->
 (∀H0' H',Step H H0 H H0' H'->Q r H')->t σ H Q
theorem JnE:SP' K C JfI (W1 none):=fun _ _ _ _ _ _ _ I e q=>by cases e;exact q _ _ (.refl I.h)
theorem JnF(ha:SE K C te ea):SP' K C (Jmm te) (W1 (some ea)):=by
 intro B H0 H σ E r Q I e q;obtain⟨s,e1,e⟩:=bind_some e;split at e
 ·cases e;exact ha B H0 H σ E _ _ I e1 fun x H1 H1' s1 r1=>⟨_,RD.intI r1,q _ _ s1⟩
 ·cases e
theorem RDL.cut{H:Hp}{xs:List V}{ds:List D}{lo hi:Option Int}(r:RDL K C H xs ds):RDL K C H (ZW xs lo hi) (Jdq ds lo hi):=by unfold ZW Jdq;rw[r.1];exact(r.drop _).take _
theorem Jq6(ha:SE K C te ea)(hl:SP' K C tl (W1 el))(hh:SP' K C th (W1 eh)):SE K C (tSl (JnW K) te tl th) (eSl ea el eh):=by
 intro B H0 H σ E c Q I e q;obtain⟨s,e1,e⟩:=bind_some e;obtain⟨l,e2,e⟩:=bind_some e;obtain⟨h,e3,e⟩:=bind_some e;refine ha B H0 H σ E _ _ I e1 fun x H1 H1' s1 r1=>hl B H1 H1' σ E l _ (I.step s1) e2 fun H2 H2' s2=>hh B H2 H2' σ E h _ (I.step (s1.trans s2)) e3 fun H3 H3' s3=>?_
 have s13:=(s1.trans s2).trans s3
 have r3:=(r1.step s2).step s3
 have lst:∀{ds:List D},s.r=some ds->c=.own (Jdq ds l h)->JnW K x l h H3' Q:=fun {ds} er ec=>by subst ec;obtain⟨a,xs,rfl,hq,r⟩:=r3.r s13.i er;exact .inl ⟨a,xs,rfl,hq,fun p hp=>Y4 s13.i s13.h hp r.cut fun v H4 H4' s4 r4=>q v H4 H4' (s13.comp s4 fun _ z=>z) r4⟩
 unfold fSl at e;split at e
 ·cases e;obtain⟨a,xs,rfl,hq,r⟩:=RD.tupI r3
  by_cases hw:HT.sIx xs.length 0 l=0/\HT.sIx xs.length xs.length h=xs.length
  ·refine .inr (.inr ⟨a,xs,rfl,s13.i.seqT hq,hw,q _ _ _ s13 ?_⟩);have e5:ZW xs l h=xs:=by unfold ZW;rw[hw.1,hw.2];simp
   have r5:=r.cut (lo:=l) (hi:=h);rw[e5] at r5;exact RD.mkT hq r5
  ·exact .inr (.inl ⟨a,xs,rfl,s13.i.seqT hq,hw,fun p hp=>WM s13.i s13.h hp r.cut fun v H4 H4' s4 r4=>q v H4 H4' (s13.comp s4 fun _ z=>z) r4⟩)
 ·obtain⟨ds,e4,e5⟩:=map_some e;exact lst e4 e5.symm
end
end LE

namespace PySem
section
variable{prog:Qw}{w:QF}{A:QC}
theorem Draws.tup(hh:A.handled=none)(j a:Qd)(ne:a≠j)(xs:Array Qc):Draws prog w A j [j,a] xs.size (fun i v=>xs[i]?=some v) (fun i h=>h.IsTupleIter j a i/\h.IsTuple a xs) where
 live:=fun _ _ q=>let ⟨o,ho,_⟩:=q.1;⟨o,ho⟩
 frame:=fun _ _ _ q k=>⟨q.1.at fun o e=>k j (by simp) o e,q.2.at fun o e=>k a (by simp) o e⟩
 item:=fun i s Q E hi q hQ=>by
  obtain⟨o,ho,hc,hd⟩:=id q.1;obtain⟨ol,hol,_,nl,hdl⟩:=id q.2;have hx:xs[i]?=some xs[i]:=by simp[hi]
  unfold G1;refine Qa (Gg (name:=Gr "__next__") q.1.typeIs KA (Gm KA q.1.typeIs Me ?_ (L6 _)));show wpAny _ _ (field (.ref j) 0 >>= _) _ _ s;refine Qa (Gs ho hd (x:=.ref a) rfl ?_);show wpAny _ _ (if (Value.ref a == Value.none)=true then _ else _) _ _ s;rw[if_neg (show ¬((Value.ref a == Value.none)=true) from QD)]
  show wpAny _ _ (field (.ref j) 1 >>= _) _ _ s;refine Qa (Gs ho hd (x:=.int i 0) rfl (show wpAny _ _ (seqItems? (.ref a) >>= _) _ _ s from Qa (GY hol hdl ?_)));simp only[G4,hx];refine Qa (KB ho hd (by simp) (Qj ⟨xs[i],rfl,Qj (hQ _ _ s.toks hx ⟨⟨_,GC _ ho (KD (GM hd _)),(LO ..).trans hc,?_⟩,q.2.extBut (Q1 ..).extBut ne⟩ (Q1 ..))⟩))
  rw[GM hd];simp[rawInt]
 done:=fun s Q E q hE=>by
  obtain⟨o,ho,hc,hd⟩:=id q.1;obtain⟨ol,hol,_,nl,hdl⟩:=id q.2;have hx:xs[xs.size]?=none:=by simp
  unfold G1;refine Qa (Gg (name:=Gr "__next__") q.1.typeIs KA (Gm KA q.1.typeIs Me ?_ (L6 _)));show wpAny _ _ (field (.ref j) 0 >>= _) _ _ s;refine Qa (Gs ho hd (x:=.ref a) rfl ?_);show wpAny _ _ (if (Value.ref a == Value.none)=true then _ else _) _ _ s;rw[if_neg (show ¬((Value.ref a == Value.none)=true) from QD)]
  show wpAny _ _ (field (.ref j) 1 >>= _) _ _ s;refine Qa (Gs ho hd (x:=.int xs.size 0) rfl (show wpAny _ _ (seqItems? (.ref a) >>= _) _ _ s from Qa (GY hol hdl ?_)));simp only[G4,hx];refine Qa (Kz (Qa (KB ho hd (by simp) (show wpAny _ _ (newExc (.type "StopIteration") [] >>= _) _ _ _ from Qa ?_))));simp only[newExc,newTuple];refine Qa (Gc (Qa (m:=firstArgMember _ _) (RE (a:=Value.none) (by first | rfl | (simp only[firstArgMember];rfl)) (Gc ?_ (by size_fits)))) (by size_fits))
  simp only[raiseNew];refine Qa (wpAny_handled ?_)
  first|rw[show A.in1.handled=none from hh]|rw[hh]
  refine Qa (Qj (wpAny_throw ?_));exact hE _ _ (((Q1 ..).extBut.push _).push _) ⟨_,Qn _ rfl,rfl⟩
end

structure ZA (z TI TO i1 i2:Qd) (p1 p2:List Qd):Prop where
 a1:TI≠z
 a2:TO≠z
 a3:TI≠TO
 m1:i1∈p1
 m2:i2∈p2
 z1:z∉p1
 z2:z∉p2
 t1:TI∉p1
 t2:TI∉p2
 o1:TO∉p1
 o2:TO∉p2
 x1:i1∉p2
 x2:i2∉p1
section
variable{prog:Qw}{w:QF}{A:QC}{E:Qc->Qe->Prop}{s:Qe}{z TI TO i1 i2:Qd}{p1 p2:List Qd}{n1 n2 k:Nat}{P1 P2:Nat->Qc->Prop}{S1 S2:Nat->QL->Prop}
theorem JgX{a b:Qc}{Q:Qc->Qe->Prop}(D:ZA z TI TO i1 i2 p1 p2)(D1:Draws prog w A i1 p1 n1 P1 S1)(D2:Draws prog w A i2 p2 n2 P2 S2)(gz:IsZip s.heap z TI TO .none)(gI:IsPair s.heap TI (.ref i1) (.ref i2))(gO:IsPair s.heap TO a b)
 (st1:S1 k s.heap) (st2:S2 k s.heap) (l1:k<n1) (l2:k<n2)
 (hQ:∀x y h' tk,P1 k x->P2 k y->IsZip h' z TI TO (rawInt s.heap.objs.size)->IsPair h' TI (.ref i1) (.ref i2)->IsPair h' TO x y->S1 (k+1) h'->S2 (k+1) h'->IsPair h' s.heap.objs.size x y->h'.objs.size=s.heap.objs.size+1 ->
  (∀c o,c≠z->c≠TO->c≠i1->c≠i2->s.heap.get? c=some o->h'.get? c=some o)->Q (.ref s.heap.objs.size) { s with heap:=h',toks:=tk }) :
 wpAny (model prog w) A (Builtin.«zip.__next__» ⟨[.ref z],[]⟩) (fun fin s'=>∃v,fin=.done (.ret v)/\Q v s') E s:=by
 obtain⟨hp,g,d,t0,os⟩:=s;have zi1:i1≠z:=fun q=>D.z1 (q▸D.m1)
 have zi2:i2≠z:=fun q=>D.z2 (q▸D.m2)
 have oi1:i1≠TO:=fun q=>D.o1 (q▸D.m1)
 have oi2:i2≠TO:=fun q=>D.o2 (q▸D.m2)
 have ii1:i1≠TI:=fun q=>D.t1 (q▸D.m1)
 have ii2:i2≠TI:=fun q=>D.t2 (q▸D.m2)
 have i12:i1≠i2:=fun q=>D.x1 (q▸D.m2)
 show wpAny _ _ (field (.ref z) 2 >>= _) _ _ _;refine Qa (Gs gz rfl (x:=.bool false) rfl (show wpAny _ _ (field (.ref z) 3 >>= _) _ _ _ from Qa (Gs gz rfl (x:=.ref TI) rfl (Qa (GY gI rfl ?_)))))
 show wpAny _ _ (Gk (.ref z) >>= _) _ _ _;refine Qa ?_;unfold Gk;refine Qa (Gs gz rfl (x:=.none) rfl (Qj ?_));simp only[if_true];refine Qa (Kz (Qa (Gs gz rfl (x:=.ref TO) rfl (Qa (Gx gz (by simp) fun k1 y1 e1=>?_)))))
 replace y1:IsZip k1 z TI TO .ellipsis:=y1
 replace e1:QQ z hp k1:=e1;refine Qa ?_;simp only[Lp,List.zipIdx_nil,Rj,RF];refine Qa (Qa (MM (show wpAny _ _ (G1 (.ref i1) >>= _) _ _ _ from Qa (D1.item k _ _ _ l1 (D1.frame _ _ _ st1 fun b hb o q=>e1.extBut b o (fun r=>D.z1 (r▸hb)) q) fun x k2 t2 px s2 e2=>Qj ?_))))
 replace e2:QQ i1 k1 k2:=e2;have O2:IsPair k2 TO a b:=e2.extBut _ _ (Q2 oi1) (e1.extBut _ _ D.a2 gO);refine Qa (GY (s:=⟨k2,g,d,t2,os⟩) O2 rfl (Qa (L1 (s:=⟨k2,g,d,t2,os⟩) O2 fun k3 O3 e3=>?_)))
 replace O3:IsPair k3 TO x b:=O3
 replace e3:QQ TO k2 k3:=e3;refine Qa (K3 (Qj ?_));have st2':S2 k k3:=D2.frame _ _ _ st2 fun b hb o q=>e3.extBut b o (fun r=>D.o2 (r▸hb)) (e2.extBut b o (fun r=>D.x1 (r▸hb)) (e1.extBut b o (fun r=>D.z2 (r▸hb)) q))
 refine Qa (Qa (MM (show wpAny _ _ (G1 (.ref i2) >>= _) _ _ _ from Qa (D2.item k _ _ _ l2 st2' fun y k4 t4 py s4 e4=>Qj ?_))))
 replace e4:QQ i2 k3 k4:=e4;have O4:IsPair k4 TO x b:=e4.extBut _ _ (Q2 oi2) O3;refine Qa (GY (s:=⟨k4,g,d,t4,os⟩) O4 rfl (Qa (L1 (s:=⟨k4,g,d,t4,os⟩) O4 fun k5 O5 e5=>?_)))
 replace O5:IsPair k5 TO x y:=O5
 replace e5:QQ TO k4 k5:=e5;refine Qa (K3 (Qj (Qj (Qa (GY (s:=⟨k5,g,d,t4,os⟩) O5 rfl (Qa (Mu ?_)))))));have hsz:k5.objs.size=hp.objs.size:=by rw[e5.1,e4.1,e3.1,e2.1,e1.1]
 have Z5:IsZip k5 z TI TO .ellipsis:=e5.extBut _ _ (Q2 D.a2) (e4.extBut _ _ (Q2 zi2) (e3.extBut _ _ (Q2 D.a2) (e2.extBut _ _ (Q2 zi1) y1)))
 have keep5:∀c o,c≠z->c≠TO->c≠i1->c≠i2->hp.get? c=some o->k5.get? c=some o:=fun c o c1 c2 c3 c4 q=>e5.extBut _ _ c2 (e4.extBut _ _ c4 (e3.extBut _ _ c2 (e2.extBut _ _ c3 (e1.extBut _ _ c1 q))))
 have T1:S1 (k+1) k5:=D1.frame _ _ _ s2 fun b hb o q=>e5.extBut b o (fun r=>D.o1 (r▸hb)) (e4.extBut b o (fun r=>D.x2 (r▸hb)) (e3.extBut b o (fun r=>D.o1 (r▸hb)) q))
 have T2:S2 (k+1) k5:=D2.frame _ _ _ s4 fun b hb o q=>e5.extBut b o (fun r=>D.o2 (r▸hb)) q
 have zlt:z<k5.objs.size:=Qp Z5
 show wpAny _ _ (G2 (.ref z) (.ref k5.objs.size) >>= _) _ _ _;refine Qa ?_;unfold G2
 have Z6:IsZip (k5.push { cls:=.type "tuple",data:=.seq #[x,y] }) z TI TO .ellipsis:=Qi _ Z5;refine Qa (Gx Z6 (by simp) fun k7 Z7 e7=>?_)
 replace Z7:IsZip k7 z TI TO (rawInt k5.objs.size):=Z7
 replace e7:QQ z (k5.push { cls:=.type "tuple",data:=.seq #[x,y] }) k7:=e7;refine Gx Z7 (by simp) fun k8 Z8 e8=>?_
 replace Z8:IsZip k8 z TI TO (rawInt k5.objs.size):=Z8
 replace e8:QQ z k7 k8:=e8;have up:∀c o,c≠z->k5.get? c=some o->k8.get? c=some o:=fun c o c1 q=>e8.extBut _ _ c1 (e7.extBut _ _ c1 (Qi _ q))
 have N8:IsPair k8 k5.objs.size x y:=e8.extBut _ _ (Kn zlt) (e7.extBut _ _ (Kn zlt) (Qn _ rfl))
 have z8:k8.objs.size=k5.objs.size+1:=by rw[e8.1,e7.1,Ge]
 rw[hsz] at Z8 N8 z8;refine Qj ⟨_,rfl,?_⟩;show Q (.ref k5.objs.size) _;rw[hsz];refine hQ x y k8 t4 px py Z8 (up _ _ D.a1 (keep5 _ _ D.a1 D.a3 (Q2 ii1) (Q2 ii2) gI)) (up _ _ D.a2 O5) ?_ ?_ N8 z8 fun c o c1 c2 c3 c4 q=>up c o c1 (keep5 c o c1 c2 c3 c4 q)
 ·exact D1.frame _ _ _ T1 fun b hb o q=>up b o (fun r=>D.z1 (r▸hb)) q
 ·exact D2.frame _ _ _ T2 fun b hb o q=>up b o (fun r=>D.z2 (r▸hb)) q
theorem Jjp{a b:Qc}{Q:Fin->Qe->Prop}(D:ZA z TI TO i1 i2 p1 p2)(D1:Draws prog w A i1 p1 n1 P1 S1)(D2:Draws prog w A i2 p2 n2 P2 S2)(gz:IsZip s.heap z TI TO .none)(gI:IsPair s.heap TI (.ref i1) (.ref i2))(gO:IsPair s.heap TO a b)
 (st1:S1 k s.heap) (st2:S2 k s.heap) (hend:k=n1\/(k<n1/\k=n2))
 (hE:∀h' e tk,(∀c o,c≠z->c≠TO->c≠i1->c≠i2->s.heap.get? c=some o->h'.get? c=some o)->(∃o,h'.get? e=some o/\o.cls=.type "StopIteration")->E (.ref e) { s with heap:=h',toks:=tk }) :
 wpAny (model prog w) A (Builtin.«zip.__next__» ⟨[.ref z],[]⟩) Q E s:=by
 obtain⟨hp,g,d,t0,os⟩:=s;have zi1:i1≠z:=fun q=>D.z1 (q▸D.m1)
 have zi2:i2≠z:=fun q=>D.z2 (q▸D.m2)
 have oi1:i1≠TO:=fun q=>D.o1 (q▸D.m1)
 show wpAny _ _ (field (.ref z) 2 >>= _) _ _ _;refine Qa (Gs gz rfl (x:=.bool false) rfl (show wpAny _ _ (field (.ref z) 3 >>= _) _ _ _ from Qa (Gs gz rfl (x:=.ref TI) rfl (Qa (GY gI rfl ?_)))))
 show wpAny _ _ (Gk (.ref z) >>= _) _ _ _;refine Qa ?_;unfold Gk;refine Qa (Gs gz rfl (x:=.none) rfl (Qj ?_));simp only[if_true];refine Qa (Kz (Qa (Gs gz rfl (x:=.ref TO) rfl (Qa (Gx gz (by simp) fun k1 y1 e1=>?_)))))
 replace y1:IsZip k1 z TI TO .ellipsis:=y1
 replace e1:QQ z hp k1:=e1;refine Qa ?_;simp only[Lp,List.zipIdx_nil,Rj,RF];refine Qa (Qa (MM (show wpAny _ _ (G1 (.ref i1) >>= _) _ _ _ from Qa ?_)));have q1:S1 k k1:=D1.frame _ _ _ st1 fun b hb o q=>e1.extBut b o (fun r=>D.z1 (r▸hb)) q
 rcases hend with rfl|⟨l1,rfl⟩
 ·refine D1.done _ _ _ q1 fun k2 e e2 he=>?_
  replace e2:LJ i1 k1 k2:=e2;obtain⟨oe,hoe,hce⟩:=he;have Z2:IsZip k2 z TI TO .ellipsis:=e2 _ _ (Q2 zi1) y1;have ez:e≠z:=fun q=>by subst q;rw[Z2] at hoe;cases hoe;simp at hce
  exact Gx Z2 (by simp) fun k3 _ e3=>hE k3 e t0 (fun c o c1 _ c3 _ q=>e3.extBut _ _ c1 (e2 _ _ c3 (e1.extBut _ _ c1 q))) ⟨oe,e3.extBut _ _ ez hoe,hce⟩
 ·refine D1.item k _ _ _ l1 q1 fun x k2 t2 px s2 e2=>Qj ?_
  replace e2:QQ i1 k1 k2:=e2;have O2:IsPair k2 TO a b:=e2.extBut _ _ (Q2 oi1) (e1.extBut _ _ D.a2 gO);refine Qa (GY (s:=⟨k2,g,d,t2,os⟩) O2 rfl (Qa (L1 (s:=⟨k2,g,d,t2,os⟩) O2 fun k3 O3 e3=>?_)))
  replace e3:QQ TO k2 k3:=e3;refine Qa (K3 (Qj ?_));have st2':S2 k k3:=D2.frame _ _ _ st2 fun b hb o q=>e3.extBut b o (fun r=>D.o2 (r▸hb)) (e2.extBut b o (fun r=>D.x1 (r▸hb)) (e1.extBut b o (fun r=>D.z2 (r▸hb)) q))
  refine Qa (Qa (MM (show wpAny _ _ (G1 (.ref i2) >>= _) _ _ _ from Qa (D2.done _ _ _ st2' fun k4 e e4 he=>?_))))
  replace e4:LJ i2 k3 k4:=e4;obtain⟨oe,hoe,hce⟩:=he;have Z4:IsZip k4 z TI TO .ellipsis:=e4 _ _ (Q2 zi2) (e3.extBut _ _ (Q2 D.a2) (e2.extBut _ _ (Q2 zi1) y1));have ez:e≠z:=fun q=>by subst q;rw[Z4] at hoe;cases hoe;simp at hce
  exact Gx Z4 (by simp) fun k5 _ e5=>hE k5 e t2 (fun c o c1 c2 c3 c4 q=>e5.extBut _ _ c1 (e4 _ _ c4 (e3.extBut _ _ c2 (e2.extBut _ _ c3 (e1.extBut _ _ c1 q))))) ⟨oe,e5.extBut _ _ ez hoe,hce⟩
end
end PySem

namespace PySem
def IsSq(b:Bool)(h:QL)(a:Qd)(xs:Array Qc):Prop:=match b with
 | true=>h.IsTuple a xs
 | false=>h.IsList a xs
def IsItr(b:Bool)(h:QL)(j a:Qd)(i:Nat):Prop:=match b with
 | true=>h.IsTupleIter j a i
 | false=>h.IsListIter j a i
def itO(b:Bool)(a:Qd):Obj:=match b with
 | true=>{ cls:=.type "tuple_iterator",data:=.fields #[.ref a,.int 0 0] }
 | false=>{ cls:=.type "list_iterator",data:=.fields #[.ref a,.int 0 0] }
section
variable{prog:Qw}{w:QF}{A:QC}{E:Qc->Qe->Prop}{s:Qe}{b b1 b2:Bool}{a a1 a2:Qd}{xs ys:Array Qc}
theorem IsSq.push{h:QL}(q:IsSq b h a xs)(o:Obj):IsSq b (h.push o) a xs:=by
 cases b with
 | true=>exact Heap.IsTuple.push q o
 | false=>exact Heap.IsList.push q o
theorem IsSq.lt{h:QL}(q:IsSq b h a xs):a<h.objs.size:=by
 cases b with
 | true=>obtain⟨o,e,_⟩:=q;exact Qp e
 | false=>obtain⟨o,e,_⟩:=q;exact Qp e
theorem IsItr.new{h:QL}(e:h.get? a1=some (itO b a)):IsItr b h a1 a 0:=by
 cases b with
 | true=>exact⟨_,e,rfl,rfl⟩
 | false=>exact⟨_,e,rfl,rfl⟩
theorem Uj{Q:Qc->Qe->Prop}(q:IsSq b s.heap a xs)(h:Q (.ref s.heap.objs.size) { s with heap:=s.heap.push (itO b a) }):wpAny (model prog w) A (pyIter (.ref a)) Q E s:=by
 cases b with
 | true=>exact Mp q h
 | false=>exact LN q h
theorem Draws.sq(hh:A.handled=none)(j:Qd)(ne:a≠j):Draws prog w A j [j,a] xs.size (fun i v=>xs[i]?=some v) (fun i h=>IsItr b h j a i/\IsSq b h a xs):=by
 cases b with
 | true=>exact Draws.tup hh j a ne xs
 | false=>exact Draws.list hh j a ne xs
abbrev zP1(h:QL)(b1:Bool)(a1:Qd):QL:=h.push (itO b1 a1)
abbrev zP2(h:QL)(b1 b2:Bool)(a1 a2:Qd):QL:=(zP1 h b1 a1).push (itO b2 a2)
abbrev zP3(h:QL)(b1 b2:Bool)(a1 a2:Qd):QL:=(zP2 h b1 b2 a1 a2).push { cls:=.type "tuple",data:=.seq #[.ref h.objs.size,.ref (zP1 h b1 a1).objs.size] }
abbrev zP4(h:QL)(b1 b2:Bool)(a1 a2:Qd):QL:=(zP3 h b1 b2 a1 a2).push { cls:=.type "tuple",data:=.seq #[.none,.none] }
abbrev zP5(h:QL)(b1 b2:Bool)(a1 a2:Qd):QL:=(zP4 h b1 b2 a1 a2).push { cls:=.type "zip",data:=.fields #[.none,.bool false,.bool false,.ref (zP2 h b1 b2 a1 a2).objs.size,.ref (zP3 h b1 b2 a1 a2).objs.size] }
theorem JdR(b1 b2:Bool)(a1 a2:Qd)(xs ys:Array Qc):Meets (Builtin.«zip.__new__» ⟨[.type "zip",.ref a1,.ref a2],[]⟩) (fun _ R s=>IsSq b1 s.heap a1 xs/\IsSq b2 s.heap a2 ys ∧
 R (.ok (.ret (.ref (zP4 s.heap b1 b2 a1 a2).objs.size))) { s with heap:=zP5 s.heap b1 b2 a1 a2 }) :=
 .of_wp fun prog w A R s h=>by obtain⟨hp,g,d,tk,os⟩:=s;obtain⟨q1,q2,h⟩:=h;have hsub:=sub_zip;have r1:IsSq b1 (R9 ⟨hp,g,d,tk,os⟩) a1 xs:=q1;have r2:IsSq b2 (R9 ⟨hp.push (itO b1 a1),g,d,tk,os⟩) a2 ys:=IsSq.push q2 _;wp_walk using Uj r1,Uj r2;exact⟨_,rfl,h⟩
theorem Jf2{Q:Qc->Qe->Prop}(q1:IsSq b1 s.heap a1 xs)(q2:IsSq b2 s.heap a2 ys)
 (h:∀h',IsZip h' (s.heap.objs.size+4) (s.heap.objs.size+2) (s.heap.objs.size+3) .none->IsPair h' (s.heap.objs.size+2) (.ref s.heap.objs.size) (.ref (s.heap.objs.size+1))->IsPair h' (s.heap.objs.size+3) .none .none ->
  IsItr b1 h' s.heap.objs.size a1 0->IsItr b2 h' (s.heap.objs.size+1) a2 0->(∀c o,s.heap.get? c=some o->h'.get? c=some o)->Q (.ref (s.heap.objs.size+4)) { s with heap:=h' }) :
 wpAny (model prog w) A (call (.type "zip") [.ref a1,.ref a2]) Q E s:=by
 refine callType_new F.called_zip (by decide) (F.typeCall_zip_2 _ _) (F.newCall_zip_2 _ _) (fun obj=>F.args_object_init_3 obj _ _) F.entry_zip_new (JdR b1 b2 a1 a2 xs ys) ⟨q1,q2,?_⟩;have z1:(zP1 s.heap b1 a1).objs.size=s.heap.objs.size+1:=Ge ..;have z2:(zP2 s.heap b1 b2 a1 a2).objs.size=s.heap.objs.size+2:=by rw[Ge,z1]
 have z3:(zP3 s.heap b1 b2 a1 a2).objs.size=s.heap.objs.size+3:=by rw[Ge,z2]
 have z4:(zP4 s.heap b1 b2 a1 a2).objs.size=s.heap.objs.size+4:=by rw[Ge,z3]
 have up:∀{k:QL} {c:Qd} {o u:Obj},k.get? c=some o->(k.push u).get? c=some o:=fun q=>Qi _ q
 have fi1:(itO b1 a1).isFreed=false:=by cases b1 <;> rfl
 have fi2:(itO b2 a2).isFreed=false:=by cases b2 <;> rfl
 have g5:(zP5 s.heap b1 b2 a1 a2).get? (zP4 s.heap b1 b2 a1 a2).objs.size=some _:=Qn _ rfl
 have g4:(zP5 s.heap b1 b2 a1 a2).get? (zP3 s.heap b1 b2 a1 a2).objs.size=some _:=up (Qn _ rfl)
 have g3:(zP5 s.heap b1 b2 a1 a2).get? (zP2 s.heap b1 b2 a1 a2).objs.size=some _:=up (up (Qn _ rfl))
 have g2:(zP5 s.heap b1 b2 a1 a2).get? (zP1 s.heap b1 a1).objs.size=some _:=up (up (up (Qn _ fi2)))
 have g1:(zP5 s.heap b1 b2 a1 a2).get? s.heap.objs.size=some _:=up (up (up (up (Qn _ fi1))))
 show _/\_;rw[z2,z3,z4] at g5;rw[z1,z2] at g3;rw[z3] at g4;rw[z1] at g2;rw[z4];exact⟨⟨_,g5,rfl⟩,h _ g5 g3 g4 (.new g1) (.new g2) fun c o q=>up (up (up (up (up q))))⟩
end
end PySem

namespace L2
open PySem PySem.Spec PyProof.Rows
section
variable{X:Cx}{pins:List (Qd×Obj)}{σ:St}{H:Hp}{s:Qe}{h':QL}
theorem Inv.turnedL{t':Nat}{fp:List Qd}(I:Inv X pins σ H s)(k:∀b o,b∉fp->s.heap.get? b=some o->h'.get? b=some o)(hf:∀b∈fp,FpOk X pins H b):Inv X pins σ H { s with heap:=h',toks:=t' }:=by
 have nit:∀b u,H b=some u->b∉fp:=fun b u e z=>by rw[(hf b z).1] at e;cases e
 refine I.step (g':=s.gens) (d':=s.drawn) (ch:=fp) (fun b hb=>?_) (fun b o _ _ hc e _=>k b o hc e) (fun b o _ _ hc e _=>⟨o.slots,k b o hc e⟩) (fun _ _ _ _ n=>n)
  (fun b o hc e=>⟨o,k b o hc e⟩) (fun _ _ e=>e) (fun _ _ _ e=>e) (fun _ _ _ _ _ e=>e) (fun m hm=>?_) (fun b u e=>?_) I.bare
 ·obtain⟨f0,f1,f2,f3,f4,f5⟩:=hf b hb;exact⟨f3,f1,f4,f5⟩
 ·obtain⟨o,es,ep,ho,r⟩:=hm;exact⟨o,es,ep,k _ o (fun z=>(hf _ z).2.1 rfl) ho,r⟩
 ·refine(I.hok b u e).stay (fun c v hc q=>k c v ?_ q) (fun _ q=>q) fun _ _ q=>q
  rcases hc with z|z
  ·rw[z];exact nit b u e
  ·exact nit c _ z
noncomputable def Sq(b:Bool)(K:Qx)(H:Hp)(a:Qd)(xs:List V):Prop:=match b with
 | true=>SqT K H a xs
 | false=>SqL K H a xs
theorem Sq.heap{b:Bool}{a:Qd}{xs:List V}(I:Inv X pins σ H s)(q:Sq b X.K H a xs):∃its:List Qc,Vals xs its/\IsSq b s.heap a its.toArray:=by
 cases b with
 | true=>obtain⟨its,r,p,_⟩:=I.tuple q;exact⟨its,r,p⟩
 | false=>obtain⟨its,r,p,_⟩:=I.list q;exact⟨its,r,p.isList⟩
theorem Sq.inj{b:Bool}{a:Qd}{xs ys:List V}(I:Inv X pins σ H s)(q:Sq b X.K H a xs)(q':Sq b X.K H a ys):xs=ys:=by
 cases b with
 | true=>exact I.tuple_inj q q'
 | false=>exact I.list_inj q q'
theorem FpOk.off{b:Bool}{a c:Qd}{xs:List V}(I:Inv X pins σ H s)(q:Sq b X.K H a xs)(f:FpOk X pins H c):a≠c:=by
 intro e;subst e;have own:∀{o:HO},H a=some o->False:=fun h=>by rw[f.1] at h;cases h
 have mod:∀{o:Obj},X.K.lookup a=some o->False:=fun {o} h=>by
  have hb:=I.ok.mod.kin a o h;rcases f.2.2.2.1 with z|z
  ·exact I.ok.noex a o hb z
  ·exact absurd (Qp hb) (LC.mpr (Gb I.ok.bsz z))
 cases b with
 | true =>
  rcases q with (h|⟨o,h⟩)|⟨o,its,n,h,_⟩
  ·exact own h
  ·exact own h
  ·exact mod h
 | false =>
  rcases q with (h|⟨o,h⟩)|⟨o,its,n,h,_⟩
  ·exact own h
  ·exact own h
  ·exact mod h
noncomputable def Itz(K:Qx)(b1 b2:Bool)(a1 a2:Qd):It :=
 ⟨fun i H=>∃xs ys x y,Sq b1 K H a1 xs/\Sq b2 K H a2 ys/\xs[i]?=some x/\ys[i]?=some y,
  fun i H x H'=>∃p u v,x=.ref p/\H p=none/\H'=upd H p (.tup [u,v])/\∀xs ys,Sq b1 K H a1 xs->Sq b2 K H a2 ys->xs[i]?=some u/\ys[i]?=some v,
  fun i H=>∃xs ys,Sq b1 K H a1 xs/\Sq b2 K H a2 ys/\i=min xs.length ys.length⟩
noncomputable def ZSt(b1 b2:Bool)(a1 a2 z TI TO i1 i2:Qd)(i:Nat)(h:QL):Prop:=IsZip h z TI TO .none/\IsPair h TI (.ref i1) (.ref i2)/\(∃a b,IsPair h TO a b)/\IsItr b1 h i1 a1 i/\IsItr b2 h i2 a2 i
theorem IsItr.keep{b:Bool}{h h':QL}{j a:Qd}{i:Nat}(q:IsItr b h j a i)(k:∀o,h.get? j=some o->h'.get? j=some o):IsItr b h' j a i:=by
 cases b with
 | true=>obtain⟨o,e,r⟩:=q;exact⟨o,k o e,r⟩
 | false=>obtain⟨o,e,r⟩:=q;exact⟨o,k o e,r⟩
theorem IsItr.obj{b:Bool}{h:QL}{j a:Qd}{i:Nat}(q:IsItr b h j a i):∃o,h.get? j=some o/\∀v,o.data≠.cell v:=by
 cases b with
 | true=>obtain⟨o,e,_,d⟩:=q;exact⟨o,e,fun v z=>by rw[d] at z;cases z⟩
 | false=>obtain⟨o,e,_,d⟩:=q;exact⟨o,e,fun v z=>by rw[d] at z;cases z⟩
end
theorem Jmr{X:Cx}{pins:List (Qd×Obj)}{σ:St}{H:Hp}{s:Qe}{b1 b2:Bool}{a1 a2 z TI TO i1 i2:Qd}{xs ys:List V}(I:Inv X pins σ H s)(q1:Sq b1 X.K H a1 xs)(q2:Sq b2 X.K H a2 ys)(hf:∀b∈[z,TI,TO,i1,i2],FpOk X pins H b)
 (nd:[z,TI,TO,i1,i2].Nodup):ZA z TI TO i1 i2 [i1,a1] [i2,a2]:=by
 have o1:∀c∈[z,TI,TO,i1,i2],a1≠c:=fun c hc=>FpOk.off I q1 (hf c hc)
 have o2:∀c∈[z,TI,TO,i1,i2],a2≠c:=fun c hc=>FpOk.off I q2 (hf c hc)
 simp only[Q6,Qk,Q9,or_false,not_or] at nd;obtain⟨⟨n1,n2,n3,n4⟩,⟨n5,n6,n7⟩,⟨n8,n9⟩,n10,_⟩:=nd;have c1:=o1 z (by simp);have c2:=o1 TI (by simp);have c3:=o1 TO (by simp);have c4:=o1 i2 (by simp);have d1:=o2 z (by simp);have d2:=o2 TI (by simp);have d3:=o2 TO (by simp);have d4:=o2 i1 (by simp);refine⟨Q2 n1,Q2 n2,n5,by simp,by simp,?_,?_,?_,?_,?_,?_,?_,?_⟩ <;> simp only[Qk,Q9,or_false,not_or]
 ·exact⟨n3,Q2 c1⟩
 ·exact⟨n4,Q2 d1⟩
 ·exact⟨n6,Q2 c2⟩
 ·exact⟨n7,Q2 d2⟩
 ·exact⟨n8,Q2 c3⟩
 ·exact⟨n9,Q2 d3⟩
 ·exact⟨n10,Q2 d4⟩
 ·exact⟨Q2 n10,Q2 c4⟩
theorem Jjd{P:Qw}{w:QF}{K:Qx}{elts:List Q7}{kk:Nat}{pos:Pos}(b1 b2:Bool)(a1 a2 z TI TO i1 i2:Qd)(nd:[z,TI,TO,i1,i2].Nodup) :
 Turn P w K (.Tuple elts kk pos) (Itz K b1 b2 a1 a2) [z,TI,TO,i1,i2] z (ZSt b1 b2 a1 a2 z TI TO i1 i2) where
 mem:=by simp
 obj:=fun i h st b hb=>by
  obtain⟨s1,s2,⟨u,v,s3⟩,s4,s5⟩:=st;simp only[Qk,Q9,or_false] at hb;rcases hb with rfl|rfl|rfl|rfl|rfl
  ·exact⟨_,s1,fun v z=>nomatch (show Data.fields _=Data.cell v from z)⟩
  ·exact⟨_,s2,fun v z=>nomatch (show Data.seq _ _=Data.cell v from z)⟩
  ·exact⟨_,s3,fun v z=>nomatch (show Data.seq _ _=Data.cell v from z)⟩
  ·exact IsItr.obj (b:=b1) s4
  ·exact IsItr.obj (b:=b2) s5
 keep:=fun i h h' st k=>by obtain⟨s1,s2,⟨u,v,s3⟩,s4,s5⟩:=st;exact⟨k z (by simp) _ s1,k TI (by simp) _ s2,⟨u,v,k TO (by simp) _ s3⟩,IsItr.keep (b:=b1) s4 fun o e=>k i1 (by simp) o e,IsItr.keep (b:=b2) s5 fun o e=>k i2 (by simp) o e⟩
 item:=by
  intro X hP hw hK hc i pins s σ H E I hf st hg;subst hP hw hK;obtain⟨xs,ys,x,y,q1,q2,e1,e2⟩:=hg;obtain⟨its,r1,p1⟩:=q1.heap I;obtain⟨jts,r2,p2⟩:=q2.heap I;obtain⟨s1,s2,⟨u0,v0,s3⟩,s4,s5⟩:=st;have Z:=Jmr I q1 q2 hf nd;have hh:X.A.in1.handled=none:=I.ok.hd hc;have ne1:a1≠i1:=FpOk.off I q1 (hf i1 (by simp));have ne2:a2≠i2:=FpOk.off I q2 (hf i2 (by simp));have D1:=Draws.sq (prog:=X.prog) (w:=X.w) (b:=b1) (xs:=its.toArray) hh i1 ne1
  have D2:=Draws.sq (prog:=X.prog) (w:=X.w) (b:=b2) (xs:=jts.toArray) hh i2 ne2
  have hT:s.TypeIs (.ref z) "zip":=⟨_,s1,rfl⟩
  have l1:i<its.toArray.size:=by have:=(Qm.mp e1).1;rw[Qu,<- r1.length];exact this
  have l2:i<jts.toArray.size:=by have:=(Qm.mp e2).1;rw[Qu,<- r2.length];exact this
  unfold pyNext;refine Qa (Lb (Gg (name:=Gr "__next__") hT L7 (Gm L7 hT F.entry_zip_next (JgX Z D1 D2 s1 s2 s3 ⟨s4,p1⟩ ⟨s5,p2⟩ l1 l2 fun u v k tk pu pv t1 t2 t3 t4 t5 t6 t7 t8=>Qj ?_) (F.args_zip_next_1 _))));refine⟨_,rfl,wpAny_letOwnedTupleGo_zip (s:={ s with heap:=k,toks:=tk }) t1 fun k2 t9 e9=>?_⟩
  replace e9:QQ z k k2:=e9;obtain⟨ux,hx1,rx⟩:=r1.get e1;obtain⟨uy,hy1,ry⟩:=r2.get e2
  have eu:u=ux:=by
   have pu':its[i]?=some u:=by simpa using pu
   rw[hx1] at pu';exact(QT pu').symm
  have ev:v=uy:=by
   have pv':jts[i]?=some v:=by simpa using pv
   rw[hy1] at pv';exact(QT pv').symm
  subst eu ev
  have zlt:∀b∈[z,TI,TO,i1,i2],b<s.heap.objs.size:=fun b hb=>by
   simp only[Qk,Q9,or_false] at hb;rcases hb with rfl|rfl|rfl|rfl|rfl
   ·exact Qp s1
   ·exact Qp s2
   ·exact Qp s3
   ·obtain⟨_,e,_⟩:=IsItr.obj (b:=b1) s4;exact Qp e
   ·obtain⟨_,e,_⟩:=IsItr.obj (b:=b2) s5;exact Qp e
  have nz:s.heap.objs.size≠z:=Kn (zlt z (by simp))
  -- the pair is laid,then the private objects turn
  have I1:Inv X pins σ (upd H s.heap.objs.size (.tup [x,y])) { s with heap:=s.heap.push { cls:=.type "tuple",data:=.seq #[u,v] },toks:=s.toks } :=
   I.laid (o:=.tup [x,y]) (fun b ob q=>Qi _ q) (Qr _) ⟨by show 2<=Qt;decide,[u,v],.cons rx (.cons ry .nil),⟨_,Qn _ rfl,rfl,_,rfl⟩⟩
  have hf1:∀b∈[z,TI,TO,i1,i2],FpOk X pins (upd H s.heap.objs.size (.tup [x,y])) b:=fun b hb=>⟨by rw[Je (QB (zlt b hb))];exact(hf b hb).1,(hf b hb).2⟩
  have I2:Inv X pins σ (upd H s.heap.objs.size (.tup [x,y])) { s with heap:=k2,toks:=tk }:=Inv.turnedL (s:={ s with heap:=s.heap.push { cls:=.type "tuple",data:=.seq #[u,v] },toks:=s.toks }) I1 (fun b o hb q=>by
   simp only[Qk,Q9,or_false,not_or] at hb;refine e9.extBut b o hb.1 ?_
   by_cases hbs:b=s.heap.objs.size
   ·subst hbs;have q':(s.heap.push { cls:=.type "tuple",data:=.seq #[u,v] }).get? s.heap.objs.size=some o:=q;rw[Qn _ rfl] at q';cases q';exact t6
   ·have q':s.heap.get? b=some o:=by have q2:(s.heap.push { cls:=.type "tuple",data:=.seq #[u,v] }).get? b=some o:=q;exact(MH s.heap b _ hbs).symm.trans q2
    exact t8 b o hb.1 hb.2.2.1 hb.2.2.2.1 hb.2.2.2.2 q') hf1
  refine⟨.ref s.heap.objs.size,_,I2,rfl,⟨_,x,y,rfl,I.hok.fresh (Qr _),rfl,fun xs' ys' h1 h2=>?_⟩,⟨t9,e9.extBut _ _ Z.a1 t2,⟨_,_,e9.extBut _ _ Z.a2 t3⟩,?_,?_⟩,fun b hb=>(hf1 b hb).1⟩
  ·rw[Sq.inj I h1 q1,Sq.inj I h2 q2];exact⟨e1,e2⟩
  ·exact IsItr.keep (b:=b1) t4.1 fun o e=>e9.extBut _ _ (fun q=>Z.z1 (q▸Z.m1)) e
  ·exact IsItr.keep (b:=b2) t5.1 fun o e=>e9.extBut _ _ (fun q=>Z.z2 (q▸Z.m2)) e
 done:=by
  intro X hP hw hK hc i pins s σ H E I hf st hg;subst hP hw hK;obtain⟨xs,ys,q1,q2,ei⟩:=hg;obtain⟨its,r1,p1⟩:=q1.heap I;obtain⟨jts,r2,p2⟩:=q2.heap I;obtain⟨s1,s2,⟨u0,v0,s3⟩,s4,s5⟩:=st;have Z:=Jmr I q1 q2 hf nd;have hh:X.A.in1.handled=none:=I.ok.hd hc;have D1:=Draws.sq (prog:=X.prog) (w:=X.w) (b:=b1) (xs:=its.toArray) hh i1 (FpOk.off I q1 (hf i1 (by simp)));have D2:=Draws.sq (prog:=X.prog) (w:=X.w) (b:=b2) (xs:=jts.toArray) hh i2 (FpOk.off I q2 (hf i2 (by simp)))
  have hT:s.TypeIs (.ref z) "zip":=⟨_,s1,rfl⟩
  have n1:its.toArray.size=xs.length:=by rw[Qu,r1.length]
  have n2:jts.toArray.size=ys.length:=by rw[Qu,r2.length]
  unfold pyNext;refine Qa (Lb (Gg (name:=Gr "__next__") hT L7 (Gm L7 hT F.entry_zip_next (Jjp Z D1 D2 s1 s2 s3 ⟨s4,p1⟩ ⟨s5,p2⟩ (by omega) fun k e tk kk he=>?_) (F.args_zip_next_1 _))));obtain⟨o,ho,hoc⟩:=he;refine Qa (LW (T:="StopIteration") (b:=true) ⟨o,ho,hoc⟩ RG (Qj ⟨rfl,?_⟩));exact I.turnedL (fun b o hb q=>by simp only[Qk,Q9,or_false,not_or] at hb;exact kk b o hb.1 hb.2.2.1 hb.2.2.2.1 hb.2.2.2.2 q) hf
 self:=fun _ _ _ _ _ st h=>wpAny_pyIter_zip st.1 h
noncomputable def iZp(K:Qx)(ta:TA):TI:=fun σ H R=>ta σ H fun vs H1=>∃(b1 b2:Bool) (a1 a2:Qd) (xs ys:List V),vs=[.ref a1,.ref a2]/\Sq b1 K H1 a1 xs/\Sq b2 K H1 a2 ys/\R (Itz K b1 b2 a1 a2) H1
theorem Jfj{X:Cx}{K:Qx}{elts:List Q7}{kk:Nat}{tpos:Pos}{a b:Q7}{ta:TA}{p pos:Pos}(hK:X.K=K)(hg:Gl X "zip")(hm:X.mg "zip"=none)(ha:PA X [a,b] ta)(hs:starEach [a,b] X.env=[(false,eval a X.env),(false,eval b X.env)]:=by rfl)
 (hs2:starEach [b] X.env=[(false,eval b X.env)]:=by rfl):PI X (.Tuple elts kk tpos) (.Call (.Name "zip" p) [a,b] [] pos) (iZp K ta):=by
 subst hK;intro pins s σ H R I h;refine Call_ (UJ I hg hm Jmz (Kw (thn (ha pos pins s σ H _ I h) fun us s1 ⟨vs,H1,I1,r1,q1⟩=>?_) (by rw[hs,hs2]) (by rw[hs2];rfl)));obtain⟨b1,b2,a1,a2,xs,ys,e,c1,c2,q⟩:=q1;subst e
 cases r1 with
 | cons r rr =>
 cases rr with
 | cons r' rr =>
 cases rr;cases r;cases r';obtain⟨its,w1,p1⟩:=c1.heap I1;obtain⟨jts,w2,p2⟩:=c2.heap I1;refine Jf2 p1 p2 fun h' t1 t2 t3 t4 t5 kp=>wpAny_pyIter_zip t1 ?_
 refine⟨_,[s1.heap.objs.size+4,s1.heap.objs.size+2,s1.heap.objs.size+3,s1.heap.objs.size,s1.heap.objs.size+1],_,_,H1,rfl,I1.kept (t':=s1.toks) kp,Jjd b1 b2 a1 a2 _ _ _ _ _ (by simp),⟨t1,t2,⟨_,_,t3⟩,t4,t5⟩,fun b hb=>?_,q⟩
 have hle:s1.heap.objs.size<=b:=by simp only[Qk,Q9,or_false] at hb;rcases hb with rfl|rfl|rfl|rfl|rfl <;> first|exact Qr _|exact Nat.le_add_right _ _
 exact I1.fpOk hle (I1.hok.fresh hle)
end L2

namespace LE
open PySem L2 LR
noncomputable def Jjo(ds es:List D):List D:=List.zipWith (fun a b=>.tup [a,b]) ds es
noncomputable def Jkh(m:Bool)(as:En->Option (List Sl)):En->Option (List D):=fun E=>(as E).bind fun ss=>match ss with
 | [s,t]=>(s.it m).bind fun ds=>(t.it m).bind fun es=>some (Jjo ds es)
 | _=>none
section
variable{K:Qx}{C:Qd}{m:Bool}
theorem JmX{H H1 H1':Hp}{v:V}{s:Sl}{ds:List D}(r:RR K C H H1 H1' v s)(i:Same H1 H1')(e:s.it m=some ds) :
 ∃(b:Bool) (a:Qd) (xs:List V),v=.ref a/\(∀A,(m=true->A=H1')->∀H0' H',SStep A (Ye H H1 H1') H0' H'->Sq b K H' a xs)/\RDL K C (Ye H H1 H1') xs ds:=by
 have f:=JN (Hs:=H) i
 have shared:∀{d:D},RD K C (Ye H H1 H1') v d->(Sl.sh d).q=some ds->∃(b:Bool) (a:Qd) (xs:List V),v=.ref a/\(∀A,(m=true->A=H1')->∀H0' H',SStep A (Ye H H1 H1') H0' H'->Sq b K H' a xs)/\RDL K C (Ye H H1 H1') xs ds:=fun {d} r e=>by
  cases d with
  | lst es=>cases e;obtain⟨l,xs,h1,h2,h3⟩:=RD.lstI r;exact⟨false,l,xs,h1,fun A _ H0' H' st=>SqL.of (st.i _ _ (st.z _ _ h2)),h3⟩
  | fz es=>cases e;obtain⟨l,xs,h1,h2,h3⟩:=RD.fzI r;exact⟨false,l,xs,h1,fun A _ H0' H' st=>(st.z.trans st.i).seq h2,h3⟩
  | tup es=>cases e;obtain⟨l,xs,h1,h2,h3⟩:=RD.tupI r;exact⟨true,l,xs,h1,fun A _ H0' H' st=>(st.z.trans st.i).seqT h2,h3⟩
  | _=>cases e
 cases s with
 | no=>cases e
 | sh d=>exact shared (RD.mono f.z r) e
 | own es=>exact shared (RR.frz (s:=.own es) i r rfl) e
 | bd _ _=>cases e
 | bt _ _=>cases e
 | od _ _=>cases e
 | ot _ _=>cases e
 | bo es =>
  unfold Sl.it at e;dsimp only at e;split at e
  ·next hm=>cases e;obtain⟨l,xs,h1,h2,h3⟩:=r;refine⟨false,l,xs,h1,fun A hA H0' H' st=>?_,h3.mono f.z⟩;have:=hA hm;subst this;exact SqL.of (st.b _ _ h2)
  ·cases e
theorem Jou{t:TA}{ev:En->Option (List Sl)}(ha:SA K C t ev):SI K C m (iZp K t) (Jkh m ev):=by
 intro B H0 H σ E ds R I e q;obtain⟨ss,e1,e⟩:=bind_some e;split at e
 ·next s u =>
  obtain⟨ds1,e2,e⟩:=bind_some e;obtain⟨ds2,e3,e⟩:=bind_some e;cases e;refine ha B H0 H σ E _ _ I e1 fun vs H1 H1' s1 r1=>?_
  obtain⟨v,w,rfl,ra,rb⟩:=r1.two;have f:=JN (Hs:=H) s1.i;obtain⟨b1,a1,xs,rfl,k1,w1⟩:=JmX ra s1.i e2;obtain⟨b2,a2,ys,rfl,k2,w2⟩:=JmX rb s1.i e3;have hA:m=true->(if m=true then H1' else B)=H1':=fun h=>if_pos h
  have sA:Same (if m=true then H1' else B) H1':=by
   split
   ·exact Same.refl _
   ·exact I.b.trans s1.h
  have st0:SStep (if m=true then H1' else B) (Ye H H1 H1') (Ye H H1 H1') H1':=⟨sA,Same.refl _,fun _ _ e=>.inl e,f.i⟩
  refine⟨b1,b2,a1,a2,xs,ys,rfl,k1 _ hA _ _ st0,k2 _ hA _ _ st0,q _ _ _ (s1.comp f fun _ z=>z) ?_⟩;intro H0' H' st;have q1:=k1 _ hA _ _ st;have q2:=k2 _ hA _ _ st;refine⟨fun i d e=>?_,⟨xs,ys,q1,q2,by unfold Jjo;rw[List.length_zipWith,w1.1,w2.1]⟩⟩;unfold Jjo at e;rw[Rr] at e
  cases g1:ds1[i]? with
  | none=>rw[g1] at e;cases e
  | some d1 =>
   cases g2:ds2[i]? with
   | none=>rw[g1,g2] at e;cases e
   | some d2 =>
    rw[g1,g2] at e;cases e;obtain⟨x,x1,x2⟩:=w1.get g1;obtain⟨y,y1,y2⟩:=w2.get g2;refine⟨⟨xs,ys,x,y,q1,q2,x1,y1⟩,?_⟩;rintro z H2 ⟨p,u',v',rfl,hp,rfl,hv⟩;obtain⟨h1,h2⟩:=hv xs ys q1 q2;rw[x1] at h1;cases h1;rw[y1] at h2;cases h2;have h0:H0' p=none:=Same.free st.i hp;refine⟨upd H0' p (.tup [x,y]),⟨.new hp,.new h0,fun a o e=>?_,fun a o e=>?_⟩,?_⟩
    ·by_cases h:a=p
     ·subst h;exact .inr (.inl hp)
     ·rw[Je h] at e;exact .inl e
    ·by_cases h:a=p
     ·subst h;rw[Jk] at e ⊢;exact e
     ·rw[Je h] at e ⊢;exact st.i a o e
    ·exact .mkT (.of Jk) (.cons (x2.mono (st.z.trans (.new h0))) (.cons (y2.mono (st.z.trans (.new h0))) .nil))
 ·cases e
theorem JfO{α β:Type}(f:α->D)(g:β->D)(xs:List α)(ys:List β):Jjo (xs.map f) (ys.map g)=(KW xs ys).map fun p=>.tup [f p.1,g p.2]:=by
 unfold Jjo
 induction xs generalizing ys with
 | nil=>rfl
 | cons x xs ih=>cases ys with
  | nil=>rfl
  | cons y ys=>simp[ih]
end
end LE

namespace PySem
namespace F
end F
section
variable{prog:Qw}{w:QF}{A:QC}{E:Qc->Qe->Prop}{s:Qe}{a r:Qd}{xs:Array Qc}
end
end PySem
namespace L2
open PySem PySem.Spec PyProof.Rows
end L2
namespace LE
open PySem L2 LR
section
variable{K:Qx}{C:Qd}{m:Bool}
end
end LE

namespace PySem
open AutoSeq1 (wpAny_loadPart')
abbrev enO(it:Qd):Obj:={ cls:=.type "enumerate",data:=.fields #[.none,.bool false,.ref it,rawInt 0,.none,.none] }
theorem Jgv(b:Bool)(a:Qd)(xs:Array Qc):Meets (Builtin.«enumerate.__new__» ⟨[.type "enumerate",.ref a],[]⟩) (fun _ R s=>IsSq b s.heap a xs ∧
 R (.ok (.ret (.ref (s.heap.push (itO b a)).objs.size))) { s with heap:=(s.heap.push (itO b a)).push (enO s.heap.objs.size) }) :=
 .of_wp fun prog w A R s h=>by
  obtain⟨hp,g,d,tk,os⟩:=s;obtain⟨q,h⟩:=h;have hsub:=sub_enumerate;have r:IsSq b (R9 ⟨hp,g,d,tk,os⟩) a xs:=q
  obtain⟨o,hl⟩:∃o,hp.get? a=some o:=by
   cases b with
   | true=>obtain⟨o,e,_⟩:=q;exact⟨o,e⟩
   | false=>obtain⟨o,e,_⟩:=q;exact⟨o,e⟩
  wp_walk using L8 hl
  refine wpAny_stack_any fun st=>Qj ?_
  split
  ·rename_i c _ _ _ _ _;cases (c == Value.type "enumerate")
   ·wp_walk using L8 hl,Uj r
    exact⟨_,rfl,h⟩
   ·wp_walk using L8 hl,Uj r
    exact⟨_,rfl,h⟩
  ·wp_walk using L8 hl,Uj r
   exact⟨_,rfl,h⟩
section
variable{prog:Qw}{w:QF}{A:QC}{E:Qc->Qe->Prop}{s:Qe}{b:Bool}{a e it:Qd}{xs:Array Qc}
theorem Jhe{Q:Qc->Qe->Prop}(q:IsSq b s.heap a xs)
 (h:∀h',IsEnum h' (s.heap.objs.size+1) s.heap.objs.size 0 .none->IsItr b h' s.heap.objs.size a 0->(∀c o,s.heap.get? c=some o->h'.get? c=some o)->Q (.ref (s.heap.objs.size+1)) { s with heap:=h' }) :
 wpAny (model prog w) A (call (.type "enumerate") [.ref a]) Q E s:=by
 refine callType_new F.called_enumerate (by decide) (F.typeCall_enumerate_1 _) (F.newCall_enumerate_1 _) (fun obj=>F.args_object_init_2 obj _) F.entry_enumerate_new (Jgv b a xs) ⟨q,?_⟩;have hz:(s.heap.push (itO b a)).objs.size=s.heap.objs.size+1:=Ge ..;have fi:(itO b a).isFreed=false:=by cases b <;> rfl
 have g2:((s.heap.push (itO b a)).push (enO s.heap.objs.size)).get? (s.heap.push (itO b a)).objs.size=some _:=Qn _ rfl
 have g1:((s.heap.push (itO b a)).push (enO s.heap.objs.size)).get? s.heap.objs.size=some _:=Qi _ (Qn _ fi)
 show _/\_;rw[hz] at g2;rw[hz];exact⟨⟨_,g2,rfl⟩,h _ g2 (.new g1) fun c o x=>Qi _ (Qi _ x)⟩
theorem Jhv{p:List Qd}{n i:Nat}{P:Nat->Qc->Prop}{S:Nat->QL->Prop}{old:Qc}{Q:Qc->Qe->Prop}(D:Draws prog w A it p n P S)(he:IsEnum s.heap e it i old)(st:S i s.heap)(hi:i<n)(hne:e∉p)(him:it∈p)
 (hQ:∀x h' tk t,P i x->IsEnumOut h' e it ((i:Int)+1) x s.heap.objs.size->S (i+1) h'->h'.get? s.heap.objs.size=some { cls:=.type "tuple",data:=.seq #[.int i t,x] }->h'.objs.size=s.heap.objs.size+1 ->
  (∀c o,c≠e->c≠it->s.heap.get? c=some o->h'.get? c=some o)->Q (.ref s.heap.objs.size) { s with heap:=h',toks:=tk }) :
 wpAny (model prog w) A (Builtin.«enumerate.__next__» ⟨[.ref e],[]⟩) (fun fin s'=>∃v,fin=.done (.ret v)/\Q v s') E s:=by
 obtain⟨hp,g,d,tk,os⟩:=s;have ne:e≠it:=fun q=>hne (q▸him)
 show wpAny _ _ (field (.ref e) 2 >>= _) _ _ _;refine Qa (Gs he rfl (x:=.ref it) rfl (Qa (D.item i _ _ _ hi st fun x k1 t1 px s1 e1=>?_)))
 replace e1:QQ it hp k1:=e1;have E1:IsEnum k1 e it i old:=(e1.2 e ne).trans he;refine Qa (Gs (s:=⟨k1,g,d,t1,os⟩) E1 rfl (x:=rawInt i) rfl ?_);show wpAny _ _ (field (.ref e) 4 >>= _) _ _ ⟨k1,g,d,t1,os⟩;refine Qa (Gs (s:=⟨k1,g,d,t1,os⟩) E1 rfl (x:=.none) rfl ?_);show wpAny _ _ (mkInt i >>= _) _ _ ⟨k1,g,d,t1,os⟩;refine Qa (wpAny_mkInt ?_);show wpAny _ _ (setField (.ref e) 3 (rawInt ((i:Int)+1)) >>= _) _ _ ⟨k1,g,d,t1+1,os⟩
 refine Qa (Gx E1 (by simp) fun k2 E2 e2=>?_)
 replace e2:QQ e k1 k2:=e2
 replace E2:IsEnum k2 e it ((i:Int)+1) old:=E2;show wpAny _ _ (setField (.ref e) 4 .none >>= _) _ _ ⟨k2,g,d,t1+1,os⟩;refine Qa (Gx E2 (by simp) fun k3 E3 e3=>?_)
 replace e3:QQ e k2 k3:=e3
 replace E3:IsEnum k3 e it ((i:Int)+1) old:=E3;show wpAny _ _ (newTuple [.int i t1,x] >>= _) _ _ ⟨k3,g,d,t1+1,os⟩;refine Qa (Mu ?_);have hsz:k3.objs.size=hp.objs.size:=by rw[e3.1,e2.1,e1.1]
 have elt:e<hp.objs.size:=Qp he
 have E4:IsEnum (k3.push { cls:=.type "tuple",data:=.seq #[.int i t1,x] }) e it ((i:Int)+1) old:=Qi _ E3
 have T4:(k3.push { cls:=.type "tuple",data:=.seq #[.int i t1,x] }).get? hp.objs.size=some { cls:=.type "tuple",data:=.seq #[.int i t1,x] }:=by rw[<- hsz];exact Qn _ rfl
 have z4:(k3.push { cls:=.type "tuple",data:=.seq #[.int i t1,x] }).objs.size=hp.objs.size+1:=by rw[Ge,hsz]
 have kp:∀c o,c≠e->k1.get? c=some o->(k3.push { cls:=.type "tuple",data:=.seq #[.int i t1,x] }).get? c=some o:=fun c o c1 q=>Qi _ (e3.extBut c o c1 (e2.extBut c o c1 q))
 show wpAny _ _ (Gk (.ref e) >>= _) _ _ ⟨k3.push { cls:=.type "tuple",data:=.seq #[.int i t1,x] },g,d,t1+1,os⟩;rw[hsz]
 generalize k3.push { cls:=.type "tuple",data:=.seq #[.int i t1,x] }=k4 at E4 T4 z4 kp ⊢
 refine Qa ?_;unfold Gk;refine Qa (Gs (s:=⟨k4,g,d,t1+1,os⟩) E4 rfl (x:=.none) rfl (Qj ?_));simp only[if_true];refine Qa (Kz (Qa (Gs (s:=⟨k4,g,d,t1+1,os⟩) E4 rfl (x:=old) rfl (Qa (Gx E4 (by simp) fun k5 E5 e5=>?_)))))
 replace e5:QQ e k4 k5:=e5
 replace E5:IsEnum k5 e it ((i:Int)+1) x:=E5;show wpAny _ _ (G2 (.ref e) (.ref hp.objs.size) >>= _) _ _ ⟨k5,g,d,t1+1,os⟩;refine Qa ?_;unfold G2;refine Qa (Gx E5 (by simp) fun k6 E6 e6=>?_)
 replace e6:QQ e k5 k6:=e6
 replace E6:IsEnumOut k6 e it ((i:Int)+1) x hp.objs.size:=E6;refine Gx E6 (by simp) fun k7 E7 e7=>?_
 replace e7:QQ e k6 k7:=e7
 replace E7:IsEnumOut k7 e it ((i:Int)+1) x hp.objs.size:=E7;have up:∀c o,c≠e->k4.get? c=some o->k7.get? c=some o:=fun c o c1 q=>e7.extBut c o c1 (e6.extBut c o c1 (e5.extBut c o c1 q))
 refine Qa (K3 (Qj ⟨_,rfl,hQ x k7 (t1+1) t1 px E7 ?_ (up _ _ (Kn elt) T4) (by rw[e7.1,e6.1,e5.1,z4]) fun c o c1 c2 q=>up c o c1 (kp c o c1 (e1.extBut c o c2 q))⟩));exact D.frame _ _ _ s1 fun c hc o q=>up c o (fun z=>hne (z▸hc)) (kp c o (fun z=>hne (z▸hc)) q)
theorem JjH{p:List Qd}{n:Nat}{P:Nat->Qc->Prop}{S:Nat->QL->Prop}{old:Qc}{Q:Fin->Qe->Prop}(D:Draws prog w A it p n P S)(he:IsEnum s.heap e it n old)(st:S n s.heap)
 (hE:∀h' x tk,LJ it s.heap h'->(∃o,h'.get? x=some o/\o.cls=.type "StopIteration")->E (.ref x) { s with heap:=h',toks:=tk }) :
 wpAny (model prog w) A (Builtin.«enumerate.__next__» ⟨[.ref e],[]⟩) Q E s:=by
 show wpAny _ _ (field (.ref e) 2 >>= _) _ _ _;refine Qa (Gs he rfl (x:=.ref it) rfl (Qa (D.done _ _ _ st fun k1 x e1 hx=>?_)));exact hE k1 x s.toks e1 hx
end
end PySem
namespace L2
open PySem PySem.Spec PyProof.Rows
noncomputable def Ite(K:Qx)(b:Bool)(a:Qd):It :=
 ⟨fun i H=>∃xs x,Sq b K H a xs/\xs[i]?=some x,
  fun i H x H'=>∃p v,x=.ref p/\H p=none/\H'=upd H p (.tup [.int i,v])/\∀xs,Sq b K H a xs->xs[i]?=some v,
  fun i H=>∃xs,Sq b K H a xs/\i=xs.length⟩
theorem JlP{P:Qw}{w:QF}{K:Qx}{elts:List Q7}{kk:Nat}{pos:Pos}(b:Bool)(a e it:Qd)(ne:e≠it) :
 Turn P w K (.Tuple elts kk pos) (Ite K b a) [e,it] e (fun i h=>(∃old,IsEnum h e it i old)/\IsItr b h it a i) where
 mem:=by simp
 obj:=fun i h st c hc=>by
  obtain⟨⟨old,s1⟩,s2⟩:=st;simp only[Qk,Q9,or_false] at hc;rcases hc with rfl|rfl
  ·exact⟨_,s1,fun v z=>nomatch (show Data.fields _=Data.cell v from z)⟩
  ·exact IsItr.obj (b:=b) s2
 keep:=fun i h h' st k=>by obtain⟨⟨old,s1⟩,s2⟩:=st;exact⟨⟨old,k e (by simp) _ s1⟩,IsItr.keep (b:=b) s2 fun o q=>k it (by simp) o q⟩
 item:=by
  intro X hP hw hK hc i pins s σ H E I hf st hg;subst hP hw hK;obtain⟨xs,x,q1,e1⟩:=hg;obtain⟨its,r1,p1⟩:=q1.heap I;obtain⟨⟨old,s1⟩,s2⟩:=st;have hh:X.A.in1.handled=none:=I.ok.hd hc;have ne1:a≠it:=FpOk.off I q1 (hf it (by simp));have ne2:a≠e:=FpOk.off I q1 (hf e (by simp));have D1:=Draws.sq (prog:=X.prog) (w:=X.w) (b:=b) (xs:=its.toArray) hh it ne1;have hT:s.TypeIs (.ref e) "enumerate":=⟨_,s1,rfl⟩
  have l1:i<its.toArray.size:=by have:=(Qm.mp e1).1;rw[Qu,<- r1.length];exact this
  unfold pyNext;refine Qa (Lb (Gg (name:=Gr "__next__") hT Lc (Gm Lc hT F.entry_enumerate_next
   (Jhv D1 s1 ⟨s2,p1⟩ l1 (by simp[ne,Q2 ne2]) (by simp) fun u k tk t pu t1 t2 t3 t4 t5=>Qj ?_) (MX _))))
  refine⟨_,rfl,wpAny_letOwnedTupleGo_enum (s:={ s with heap:=k,toks:=tk }) t1 fun k2 t9 e9=>?_⟩
  replace e9:QQ e k k2:=e9;obtain⟨ux,hx1,rx⟩:=r1.get e1
  have eu:u=ux:=by
   have pu':its[i]?=some u:=by simpa using pu
   rw[hx1] at pu';exact(QT pu').symm
  subst eu
  have elt:∀c∈[e,it],c<s.heap.objs.size:=fun c hc=>by
   simp only[Qk,Q9,or_false] at hc;rcases hc with rfl|rfl
   ·exact Qp s1
   ·obtain⟨_,q,_⟩:=IsItr.obj (b:=b) s2;exact Qp q
  have ri:RelV (.int i) (.int i t):=⟨t,rfl⟩
  have I1:Inv X pins σ (upd H s.heap.objs.size (.tup [.int i,x])) { s with heap:=s.heap.push { cls:=.type "tuple",data:=.seq #[.int i t,u] },toks:=s.toks } :=
   I.laid (o:=.tup [.int i,x]) (fun c ob q=>Qi _ q) (Qr _) ⟨by show 2<=Qt;decide,[.int i t,u],.cons ri (.cons rx .nil),⟨_,Qn _ rfl,rfl,_,rfl⟩⟩
  have hf1:∀c∈[e,it],FpOk X pins (upd H s.heap.objs.size (.tup [.int i,x])) c:=fun c hc=>⟨by rw[Je (QB (elt c hc))];exact(hf c hc).1,(hf c hc).2⟩
  have I2:Inv X pins σ (upd H s.heap.objs.size (.tup [.int i,x])) { s with heap:=k2,toks:=tk }:=Inv.turnedL (s:={ s with heap:=s.heap.push { cls:=.type "tuple",data:=.seq #[.int i t,u] },toks:=s.toks }) I1 (fun c o hc q=>by
   simp only[Qk,Q9,or_false,not_or] at hc;refine e9.extBut c o hc.1 ?_
   by_cases hcs:c=s.heap.objs.size
   ·subst hcs;have q':(s.heap.push { cls:=.type "tuple",data:=.seq #[.int i t,u] }).get? s.heap.objs.size=some o:=q;rw[Qn _ rfl] at q';cases q';exact t3
   ·have q':s.heap.get? c=some o:=by have q2:(s.heap.push { cls:=.type "tuple",data:=.seq #[.int i t,u] }).get? c=some o:=q;exact(MH s.heap c _ hcs).symm.trans q2
    exact t5 c o hc.1 hc.2 q') hf1
  refine⟨.ref s.heap.objs.size,_,I2,rfl,⟨_,x,rfl,I.hok.fresh (Qr _),rfl,fun xs' h1=>?_⟩,⟨⟨u,?_⟩,?_⟩,fun c hc=>(hf1 c hc).1⟩
  ·rw[Sq.inj I h1 q1];exact e1
  ·have ei:((i+1:Nat):Int)=(i:Int)+1:=by omega
   rw[ei];exact t9
  ·exact IsItr.keep (b:=b) t2.1 fun o q=>e9.extBut _ _ (Q2 ne) q
 done:=by
  intro X hP hw hK hc i pins s σ H E I hf st hg;subst hP hw hK;obtain⟨xs,q1,ei⟩:=hg;obtain⟨its,r1,p1⟩:=q1.heap I;obtain⟨⟨old,s1⟩,s2⟩:=st;have hh:X.A.in1.handled=none:=I.ok.hd hc;have D1:=Draws.sq (prog:=X.prog) (w:=X.w) (b:=b) (xs:=its.toArray) hh it (FpOk.off I q1 (hf it (by simp)));have hT:s.TypeIs (.ref e) "enumerate":=⟨_,s1,rfl⟩
  have n1:i=its.toArray.size:=by rw[Qu,<- r1.length];exact ei
  subst n1;unfold pyNext;refine Qa (Lb (Gg (name:=Gr "__next__") hT Lc (Gm Lc hT F.entry_enumerate_next (JjH D1 s1 ⟨s2,p1⟩ fun k x tk kk he=>?_) (MX _))));obtain⟨o,ho,hoc⟩:=he;refine Qa (LW (T:="StopIteration") (b:=true) ⟨o,ho,hoc⟩ RG (Qj ⟨rfl,?_⟩));exact I.turnedL (fun c o hc q=>by simp only[Qk,Q9,or_false,not_or] at hc;exact kk c o hc.2 q) hf
 self:=fun _ _ _ _ _ st h=>by obtain⟨⟨old,s1⟩,_⟩:=st;exact wpAny_pyIter_enum s1 h
noncomputable def iEn(K:Qx)(ta:TA):TI:=fun σ H R=>ta σ H fun vs H1=>∃(b:Bool) (a:Qd) (xs:List V),vs=[.ref a]/\Sq b K H1 a xs/\R (Ite K b a) H1
theorem Zy{X:Cx}{K:Qx}{elts:List Q7}{kk:Nat}{tpos:Pos}{a:Q7}{ta:TA}{p pos:Pos}(hK:X.K=K)(hg:Gl X "enumerate")(hm:X.mg "enumerate"=none)(ha:PA X [a] ta)(hs:starEach [a] X.env=[(false,eval a X.env)]:=by rfl)
:PI X (.Tuple elts kk tpos) (.Call (.Name "enumerate" p) [a] [] pos) (iEn K ta):=by
 subst hK;intro pins s σ H R I h;refine Call_ (UJ I hg hm JaV (Kw (thn (ha pos pins s σ H _ I h) fun us s1 ⟨vs,H1,I1,r1,q1⟩=>?_) (by rw[hs];rfl) (by rfl)));obtain⟨b,a,xs,e,c1,q⟩:=q1;subst e
 cases r1 with
 | cons r rr =>
 cases rr;cases r;obtain⟨its,w1,p1⟩:=c1.heap I1;refine Jhe p1 fun h' t1 t2 kp=>wpAny_pyIter_enum t1 ?_
 refine⟨_,[s1.heap.objs.size+1,s1.heap.objs.size],_,_,H1,rfl,I1.kept (t':=s1.toks) kp,JlP b a _ _ (by simp),⟨⟨_,t1⟩,t2⟩,fun c hc=>?_,q⟩
 have hle:s1.heap.objs.size<=c:=by simp only[Qk,Q9,or_false] at hc;rcases hc with rfl|rfl <;> first|exact Qr _|exact Nat.le_add_right _ _
 exact I1.fpOk hle (I1.hok.fresh hle)
end L2
namespace LE
open PySem L2 LR
noncomputable def Jcd(ds:List D):List D:=ds.mapIdx fun i d=>.tup [.int i,d]
noncomputable def Jcg(m:Bool)(as:En->Option (List Sl)):En->Option (List D):=fun E=>(as E).bind fun ss=>match ss with
 | [s]=>(s.it m).map Jcd
 | _=>none
section
variable{K:Qx}{C:Qd}{m:Bool}
theorem Jlj{t:TA}{ev:En->Option (List Sl)}(ha:SA K C t ev):SI K C m (iEn K t) (Jcg m ev):=by
 intro B H0 H σ E ds R I e q;obtain⟨ss,e1,e⟩:=bind_some e;split at e
 ·next s =>
  obtain⟨ds1,e2,e⟩:=GL.mp e;subst e;refine ha B H0 H σ E _ _ I e1 fun vs H1 H1' s1 r1=>?_
  obtain⟨v,rfl,ra⟩:=r1.one;have f:=JN (Hs:=H) s1.i;obtain⟨b1,a1,xs,rfl,k1,w1⟩:=JmX ra s1.i e2;have hA:m=true->(if m=true then H1' else B)=H1':=fun h=>if_pos h
  have sA:Same (if m=true then H1' else B) H1':=by
   split
   ·exact Same.refl _
   ·exact I.b.trans s1.h
  have st0:SStep (if m=true then H1' else B) (Ye H H1 H1') (Ye H H1 H1') H1':=⟨sA,Same.refl _,fun _ _ e=>.inl e,f.i⟩
  refine⟨b1,a1,xs,rfl,k1 _ hA _ _ st0,q _ _ _ (s1.comp f fun _ z=>z) ?_⟩;intro H0' H' st;have q1:=k1 _ hA _ _ st;refine⟨fun i d e=>?_,⟨xs,q1,by unfold Jcd;rw[List.length_mapIdx,w1.1]⟩⟩;unfold Jcd at e;rw[QH] at e;obtain⟨d1,g1,e⟩:=GL.mp e;subst e;obtain⟨x,x1,x2⟩:=w1.get g1;refine⟨⟨xs,x,q1,x1⟩,?_⟩;rintro z H2 ⟨p,v',rfl,hp,rfl,hv⟩;have h1:=hv xs q1;rw[x1] at h1;cases h1;have h0:H0' p=none:=Same.free st.i hp
  refine⟨upd H0' p (.tup [.int i,x]),⟨.new hp,.new h0,fun a o e=>?_,fun a o e=>?_⟩,?_⟩
  ·by_cases h:a=p
   ·subst h;exact .inr (.inl hp)
   ·rw[Je h] at e;exact .inl e
  ·by_cases h:a=p
   ·subst h;rw[Jk] at e ⊢;exact e
   ·rw[Je h] at e ⊢;exact st.i a o e
  ·exact .mkT (.of Jk) (.cons (.int _) (.cons (x2.mono (st.z.trans (.new h0))) .nil))
 ·cases e
theorem W2{α:Type}(f:α->D)(xs:List α):Jcd (xs.map f)=xs.mapIdx fun i x=>.tup [.int i,f x]:=by
 unfold Jcd;refine Go fun i=>?_
 rw[QH,QH,Qo,Kf];rfl
end
end LE

namespace L2
open PySem PySem.Spec PyProof.Rows
noncomputable def J1(ns:List Int):List Int:=ns.mergeSort (fun a b=>decide (a<=b))
theorem JB(ns:List Int):(J1 ns).Perm ns:=List.mergeSort_perm _ _
theorem Ul(ns:List Int):(J1 ns).Pairwise (·<=·):=by have h:=List.pairwise_mergeSort (le:=fun a b:Int=>decide (a<=b)) (by intro a b c h1 h2;simp only[decide_eq_true_eq] at *;omega) (by intro a b;simp only[LA,decide_eq_true_eq];omega) ns;exact h.imp fun {a b} h=>by simpa using h
theorem Um:∀{xs ys:List Int},xs.Perm ys->xs.Pairwise (·<=·)->ys.Pairwise (·<=·)->xs=ys
 | [],ys,p,_,_=>by rw[List.Perm.nil_eq p]
 | x::xs,ys,p,h1,h2=>by
  cases ys with
  | nil=>exact absurd p.symm (by simp)
  | cons y ys =>
   obtain⟨a1,a2⟩:=QP.mp h1;obtain⟨b1,b2⟩:=QP.mp h2
   have e:x=y:=by
    have hx:x∈y::ys:=p.mem_iff.mp Qh
    have hy:y∈x::xs:=p.mem_iff.mpr Qh;rcases Qk.mp hx with z|z
    ·exact z
    ·rcases Qk.mp hy with w|w
     ·exact w.symm
     ·have:=a1 y w
      have:=b1 x z;omega
   subst e;rw[Um (RW p) a2 b2]
theorem VS:∀{ns:List Int} {us:List Qc},IntsAre us ns->Vals (ns.map V.int) us:=by
 intro ns us h
 induction h with
 | nil=>exact .nil
 | cons _ _ _ ih=>exact .cons ⟨_,rfl⟩ ih
section
variable{X:Cx}
end
end L2
namespace LE
open PySem L2 LR
section
variable{K:Qx}{C:Qd}
theorem JiI{H:Hp}(ns:List Int):RDL K C H (ns.map V.int) (ns.map D.int):=by refine⟨by simp,fun i x d h1 h2=>?_⟩;rw[Qo] at h1 h2;obtain⟨n,e,rfl⟩:=GL.mp h1;rw[e] at h2;cases h2;exact .int n
end
end LE

namespace PySem
namespace F
end F
section
variable{prog:Qw}{w:QF}{A:QC}{E:Qc->Qe->Prop}{s:Qe}{l:Qd}{lo hi:Int}{t u v:Tok}
end
end PySem
namespace L2
open PySem PySem.Spec PyProof.Rows
end L2
namespace LE
open PySem L2 LR
section
variable{K:Qx}{C:Qd}{m:Bool}
end
end LE

namespace PySem
namespace F
end F
structure ZB (z TI TO i1 i2 i3:Qd) (p1 p2 p3:List Qd):Prop where
 a1:TI≠z
 a2:TO≠z
 a3:TI≠TO
 m1:i1∈p1
 m2:i2∈p2
 m3:i3∈p3
 z1:z∉p1
 z2:z∉p2
 z3:z∉p3
 t1:TI∉p1
 t2:TI∉p2
 t3:TI∉p3
 o1:TO∉p1
 o2:TO∉p2
 o3:TO∉p3
 x12:i1∉p2
 x13:i1∉p3
 x21:i2∉p1
 x23:i2∉p3
 x31:i3∉p1
 x32:i3∉p2
section
variable{prog:Qw}{w:QF}{A:QC}{E:Qc->Qe->Prop}{s:Qe}{z TI TO i1 i2 i3:Qd}{p1 p2 p3:List Qd}{n1 n2 n3 k:Nat}{P1 P2 P3:Nat->Qc->Prop}{S1 S2 S3:Nat->QL->Prop}
end
end PySem

namespace PySem
section
variable{prog:Qw}{w:QF}{A:QC}{E:Qc->Qe->Prop}{s:Qe}{b1 b2 b3:Bool}{a1 a2 a3:Qd}{xs ys zs:Array Qc}
end
end PySem
namespace L2
open PySem PySem.Spec PyProof.Rows
end L2
namespace LE
open PySem L2 LR
section
variable{K:Qx}{C:Qd}{m:Bool}
end
end LE

namespace L2
open PySem PySem.Spec PyProof.Rows
noncomputable def JaR(X:Cx)(f:Qc)(nm:Str)(z:V)(r:List V->Hp->VK->Prop):Prop :=
 ∀(pins:List (Qd×Obj)) (s:Qe) (σ:St) (H:Hp) (xs:List V) (us:List Qc) (w:Qc) (Q:VK),Inv X pins σ H s->Vals xs us->RelV z w->r xs H Q->wpAny (model X.prog X.w) X.A (call f us [(nm,w)]) (EP X pins σ Q) X.xe s
theorem JgD{X:Cx}{id:String}{nm x:Str}{z:V}{r:List V->Hp->VK->Prop}{e ek:Q7}{es:List Q7}{t:TA}{p pos kpos:Pos}(hc:JaR X (.builtin id) nm z r)(hg:Gl X x)(hm:X.mg x=none)(hv:bootBuiltins x=some (.builtin id))(ha:PA X (e::es) t)(hk:PE X ek (tC z))
 (hn:x≠"__name__":=by decide) (hdb:(x == ("__debug__":Str))=false:=by decide)
 (he:backTo pos (starEach (e::es) X.env)=(false,eval e X.env)::backTo pos (starEach es X.env):=by rfl) (hpl:(backTo pos (starEach (e::es) X.env)).any (·.1)=false:=by rfl):PE X (.Call (.Name x p) (e::es) [⟨some nm,ek,kpos⟩] pos) (tCB r t):=by
 intro pins s σ H Q I h;refine Ky (UJ I hg hm hv ?_ hn hdb);refine callWith_kw (thn (ha pos pins s σ H _ I h) fun us s1 ⟨vs,H1,I1,r1,q1⟩=>?_) he hpl rfl rfl;refine kws_cons (thn (hk pins s1 σ H1 (fun v H2=>v=z/\r vs H2 Q) I1 ⟨rfl,q1⟩) fun w s2 ⟨v,H2,I2,rz,e2,q2⟩=>kws_nil ?_);subst e2;exact hc pins s2 σ H2 vs us w Q I2 r1 rz q2
section
variable{X:Cx}
end
end L2
namespace LE
open PySem L2 LR
section
variable{K:Qx}{C:Qd}
end
end LE

namespace PySem

theorem JcB(a v:Qc):argsOk "min" ⟨[a],[(Gr "default",v)]⟩:=by unfold argsOk;kernel_rfl
section
variable{prog:Qw}{w:QF}{A:QC}{R:M8->Qe->Prop}{I:Qd}{fp wr:List Qd}{n:Nat}{P:Nat->Qc->Prop}{St:Nat->QL->Prop}
theorem Jgw(W:Walks prog w A.in1 I fp wr n P St)(bt:Nat->Nat->Bool)(cm:CmpOf prog w A.in1 .Lt P bt)(S:Qd)(nS:S∉fp)(d:Qc) :
 ∀(k j:Nat) (s:Qe) (c:Nat) (arr:Array Qc),n-j=k->j<=n->St j s.heap->((j=0/\arr=#[])\/∃vb,0<j/\arr=#[vb,vb]/\P (argBest bt (j-1)) vb) ->
 s.heap.get? S=some { cls:=.type "list",dict:=none,data:=.seq arr c,slots:=#[] } ->
 (n=0->∀h' tk,(∀b o,b∉wr->b≠S->s.heap.get? b=some o->h'.get? b=some o)->R (.ok (.ret d)) { s with heap:=h',toks:=tk }) ->
 (0<n->∀v h' tk,P (argBest bt (n-1)) v->(∀b o,b∉wr->b≠S->s.heap.get? b=some o->h'.get? b=some o)->R (.ok (.ret v)) { s with heap:=h',toks:=tk }) ->
 codeAny (model prog w) A (.builtin "min.loop" ⟨[.ref I,.none,.ref S],[(Gr "default",d)]⟩) R s:=by
 have nW:S∉wr:=fun h=>nS (W.sub _ h)
 have nm:(toString "min"++toString ".loop":String)="min.loop":=by decide
 intro k
 induction k with
 | zero =>
  intro j s c arr hk hj st best hS h0 h1;have ej:j=n:=by omega
  subst ej;refine G9 F.entry_min_loop ?_;rw[GJ KY _];rcases best with ⟨e0,rfl⟩|⟨vb,jp,rfl,pb⟩
  ·show wpAny _ A.in1 (seqItems? (.ref S) >>= _) _ _ s;refine Qa (GY hS rfl (show wpAny _ A.in1 (tryCatch (pyNext (.ref I)) _ >>= _) _ _ s from Qa (LP (W.done s _ _ st fun h' tk hk'=>?_))));exact Qa (Kz (Qj (h0 e0 h' tk fun b o b1 _ e=>hk' b o b1 e)))
  ·show wpAny _ A.in1 (seqItems? (.ref S) >>= _) _ _ s;refine Qa (GY hS rfl (show wpAny _ A.in1 (tryCatch (pyNext (.ref I)) _ >>= _) _ _ s from Qa (LP (W.done s _ _ st fun h' tk hk'=>?_))))
   have hS':=hk' S _ nW hS
   show wpAny _ A.in1 (updateSeq S (fun _=>#[]) >>= _) _ _ _;refine Qa (LB hS' rfl (Qa (K3 (Qj ?_))));exact h1 jp vb _ tk pb fun b o b1 b2 e=>(Q8 _ _ (Q2 b2)).trans (hk' b o b1 e)
 | succ k ih =>
  intro j s c arr hk hj st best hS h0 h1;have lt:j<n:=by omega
  refine G9 F.entry_min_loop ?_;rw[GJ KY _];have nz:n=0->∀{s':Qe} h' tk,(∀b o,b∉wr->b≠S->s'.heap.get? b=some o->h'.get? b=some o)->R (.ok (.ret d)) { s' with heap:=h',toks:=tk }:=fun z=>absurd z (by omega)
  rcases best with ⟨e0,rfl⟩|⟨vb,jp,rfl,pb⟩
  ·subst e0;show wpAny _ A.in1 (seqItems? (.ref S) >>= _) _ _ s;refine Qa (GY hS rfl (show wpAny _ A.in1 (tryCatch (pyNext (.ref I)) _ >>= _) _ _ s from Qa (LP (W.item 0 s _ _ lt st fun v h' tk pv st' hk'=>?_))));have hS':=hk' S _ nW hS;show wpAny _ A.in1 (updateSeq S (fun _=>#[v,v]) >>= _) _ _ _;refine Qa (LB hS' rfl ?_);rw[nm];refine Qj ⟨Kp KY _,ih 1 _ _ _ (by omega) (by omega) (W.frame _ _ _ st' fun b bf o e=>?_) (.inr ⟨v,by omega,rfl,pv⟩) (GC _ hS' rfl) (fun z=>nz z) fun np v' h2 t2 pv' k2=>?_⟩
   ·exact(Q8 _ _ (fun h:S=b=>nS (by rw[h];exact bf))).trans e
   ·exact h1 np v' h2 t2 pv' fun b o b1 b2 e=>k2 b o b1 b2 ((Q8 _ _ (Q2 b2)).trans (hk' b o b1 e))
  ·show wpAny _ A.in1 (seqItems? (.ref S) >>= _) _ _ s;refine Qa (GY hS rfl (show wpAny _ A.in1 (tryCatch (pyNext (.ref I)) _ >>= _) _ _ s from Qa (LP (W.item j s _ _ lt st fun v h' tk pv st' hk'=>?_))))
   have hS':=hk' S _ nW hS
   have ea:argBest bt j=if bt j (argBest bt (j-1))=true then j else argBest bt (j-1):=by
    obtain⟨i,rfl⟩:∃i,j=i+1:=⟨j-1,by omega⟩
    rfl
   show wpAny _ A.in1 (tryCatch (holding [v,v] (richCompare .Lt v vb >>= _)) _ >>= _) _ _ _;refine Qa (LP (G8 (Qa (cm j (argBest bt (j-1)) v vb _ _ _ pv pb (Qa (G8 (Kq (Qa (K3 (Qj ?_))))))))))
   cases hb:bt j (argBest bt (j-1)) with
   | true =>
    simp only[if_true];refine Qa (LB hS' rfl (Qa (K3 ?_)));rw[nm];refine Qj ⟨Kp KY _,ih (j+1) _ _ _ (by omega) (by omega) (W.frame _ _ _ st' fun b bf o e=>?_) (.inr ⟨v,by omega,rfl,?_⟩) (GC _ hS' rfl) (fun z=>nz z) fun np v' h2 t2 pv' k2=>?_⟩
    ·exact(Q8 _ _ (fun h:S=b=>nS (by rw[h];exact bf))).trans e
    ·rw[Nat.add_sub_cancel,ea,hb,if_pos rfl];exact pv
    ·exact h1 np v' h2 t2 pv' fun b o b1 b2 e=>k2 b o b1 b2 ((Q8 _ _ (Q2 b2)).trans (hk' b o b1 e))
   | false =>
    simp only[KC,if_false];refine Qa (K3 ?_);rw[nm];refine Qj ⟨Kp KY _,ih (j+1) _ c _ (by omega) (by omega) st' (.inr ⟨vb,by omega,rfl,?_⟩) hS' (fun z=>nz z) fun np v' h2 t2 pv' k2=>?_⟩
    ·rw[Nat.add_sub_cancel,ea,hb,if_neg QD];exact pb
    ·exact h1 np v' h2 t2 pv' fun b o b1 b2 e=>k2 b o b1 b2 (hk' b o b1 e)
end
section
variable{prog:Qw}{w:QF}{A:QC}{E:Qc->Qe->Prop}{s:Qe}{l:Qd}{xs:Array (Int×Tok)}
theorem JcC{d:Qc}{Q:Qc->Qe->Prop}(hh:A.handled=none)(hl:s.heap.IsList l (intItems xs))(h0:xs.size=0->∀h' tk,(∀b o,s.heap.get? b=some o->h'.get? b=some o)->Q d { s with heap:=h',toks:=tk })
 (h1:0<xs.size->∀v h' tk,(intItems xs)[argBest (fun i j=>decide (numAt xs i<numAt xs j)) (xs.size-1)]?=some v->(∀b o,s.heap.get? b=some o->h'.get? b=some o)->Q v { s with heap:=h',toks:=tk }) :
 wpAny (model prog w) A (call (.builtin "min") [.ref l] [(Gr "default",d)]) Q E s:=by
 have nm:(toString "min"++toString ".loop":String)="min.loop":=by decide
 have sz:(intItems xs).size=xs.size:=by simp[intItems]
 refine PyProof.Rows.kmk_tree F.kind_min F.plain_min F.entry_min (JcB _ _) ?_;show wpAny _ A.in1 (Mf "min" ["key","default"] 0 ⟨[],[(Gr "default",d)]⟩ >>= _) _ _ s;refine Qa (RE (show Mf "min" ["key","default"] 0 ⟨[],[(Gr "default",d)]⟩=pure [none,some d] from rfl) ?_);refine Qa (Qj ?_);refine Qa (iter_intList hl fun s₂ e st hfp hlI=>?_);subst e;refine Qa (Gc ?_)
 rw[nm];have W:=Walks.list (prog:=prog) (w:=w) (A:=A.in1) hh _ l hlI (intItems xs);have fpS:(s.heap.push { cls:=.type "list_iterator",data:=.fields #[.ref l,.int 0 0] }).objs.size∉[s.heap.objs.size,l]:=fun hm=>GO _ (hfp _ hm)
 refine Qj ⟨Kp KY _,Jgw W (fun i j=>decide (numAt xs i<numAt xs j)) (CmpOf.ints_lt (numAt xs) (fun _ _=>intItems_at)) _ fpS d _ 0 _ _ #[] rfl (GA _) (W.frame _ _ _ st fun b _ o e=>Qi _ e) (.inl ⟨rfl,rfl⟩) (Qn _ rfl) (fun z h' tk k=>?_) fun z v h' tk pv k=>?_⟩
 ·exact h0 (by rw[<- sz];exact z) h' tk (old_kept fun b o b1 e=>k b o b1 (QB (Qp e)) (Qi _ e))
 ·exact h1 (by rw[<- sz];exact z) v h' tk (by rw[sz] at pv;exact pv) (old_kept fun b o b1 e=>k b o b1 (QB (Qp e)) (Qi _ e))
end

section
variable{prog:Qw}{w:QF}{A:QC}{R:M8->Qe->Prop}{I:Qd}{fp wr:List Qd}{n:Nat}{P:Nat->Qc->Prop}{St:Nat->QL->Prop}
end
section
variable{prog:Qw}{w:QF}{A:QC}{E:Qc->Qe->Prop}{s:Qe}{l:Qd}{xs:Array (Int×Tok)}
end

end PySem

namespace L2
open PySem PySem.Spec PyProof.Rows

section
variable{X:Cx}
noncomputable def Jiz(K:Qx):List V->Hp->VK->Prop:=fun xs H Q=>∃(a:Qd) (ns:List Int),xs=[.ref a]/\SqL K H a (ns.map V.int)/\(ns=[]->Q .non H)/\∀M,M∈ns->(∀b,b∈ns->M<=b)->Q (.int M) H
theorem JfY(hc:X.calm=true):JaR X (.builtin "min") "default" .non (Jiz X.K):=by
 intro pins s σ H xs us w Q I r rz h;obtain⟨a,ns,rfl,hq,q0,q⟩:=h;obtain⟨u,rfl,rx⟩:=U9 r;cases rx;cases rz;obtain⟨its,rv,p,hz⟩:=I.list hq;have hi:=Uu rv;have hl:=p.isList;obtain⟨xs,e⟩:=hi.allInts.items;have hns:ns=xs.toList.map (·.1):=by rw[<- hi.numsOf,<- nums_intItems,<- e]
 rw[e] at hl;refine JcC (I.ok.hd hc) hl (fun z h' tk hk=>?_) fun z v h' tk hv hk=>?_
 ·refine⟨.non,H,I.kept hk,rfl,q0 ?_⟩;rw[hns];exact QU (by rw[Qq,QM];exact z)
 ·obtain⟨t,rfl⟩:=intItems_at hv;obtain⟨h1,h2⟩:=argBest_lt (numAt xs) (xs.size-1);refine⟨.int _,H,I.kept hk,⟨t,rfl⟩,q _ ?_ fun a ha=>?_⟩
  ·rw[hns,numAt_eq];exact getD_mem (by rw[Qq,QM];omega)
  ·rw[hns] at ha;obtain⟨j,hj,rfl⟩:=mem_getD ha;rw[Qq,QM] at hj;rw[<- numAt_eq];exact h2 j (by omega)
end
theorem Jdo{X:Cx}{K:Qx}(hK:X.K=K)(hc:X.calm=true):JaR X (.builtin "min") "default" .non (Jiz K):=hK▸JfY hc

section
variable{X:Cx}
end
end L2
namespace LE
open PySem L2 LR

noncomputable def JeK:List Sl->Option Sl
 | [s]=>s.r.bind fun ds=>(ints? ds).map fun ns=>match ns.min? with
  | some m=>.sh (.int m)
  | none=>.sh .non
 | _=>none
theorem JmB{K:Qx}{C:Qd}:WP K C (Jiz K) JeK:=by
 intro Hs H0 H xs as c Q i hs r e q;unfold JeK at e;split at e
 ·obtain⟨v,rfl,r0⟩:=r.one;obtain⟨ds,e1,e⟩:=bind_some e;obtain⟨ns,e2,rfl⟩:=map_some e;obtain⟨l,ys,rfl,h,r1⟩:=r0.r i e1;rw[Uh e2] at r1;have:=r1.ints;subst this;refine⟨l,ns,rfl,h,fun z=>?_,fun M hM hb=>?_⟩
  ·subst z;exact q _ _ _ (.refl i) RD.non
  ·have hm:ns.min?=some M:=Rs.mpr ⟨hM,hb⟩;rw[hm] at q;exact q _ _ _ (.refl i) (RD.int _)
 ·cases e

end LE

namespace LE
open PySem L2 LR

noncomputable def look{α:Type}:List Int->List α->Int->Option α
 | k::ks,d::ds,n=>if k=n then some d else look ks ds n
 | _,_,_=>none
noncomputable def YW(ks:List Int)(n:Int):Bool:=ks.any fun k=>decide (k=n)
noncomputable def Jz(ks:List Int)(n:Int):List Int:=if YW ks n=true then ks else ks++[n]
noncomputable def setK{α:Type}:List Int->List α->Int->α->List α
 | k::ks,d::ds,n,v=>(if k=n then v else d)::setK ks ds n v
 | _,ds,_,_=>ds
noncomputable def putDs{α:Type}(ks:List Int)(ds:List α)(n:Int)(v:α):List α:=if YW ks n=true then setK ks ds n v else ds++[v]
theorem JcZ{α:Type}(n:Int)(v:α):∀(ks:List Int) (ds:List α),(setK ks ds n v).length=ds.length
 | [],_=>rfl
 | _::_,[]=>rfl
 | _::ks,_::ds=>by simp[setK,JcZ n v ks ds]
theorem JgF{α:Type}(ks:List Int)(ds:List α)(n:Int)(v:α)(h:ks.length=ds.length):(Jz ks n).length=(putDs ks ds n v).length:=by unfold Jz putDs;split <;> simp[JcZ,h]
theorem Wh:∀(ks:List Int) (xs:List V) (n:Int),Vn ((ks.map Sum.inl:List Key).zip xs) (Sum.inl n)=look ks xs n
 | [],_,_=>rfl
 | _::_,[],_=>rfl
 | k::ks,x::xs,n=>by
  show Vn (((Sum.inl k:Key),x)::(ks.map Sum.inl:List Key).zip xs) (Sum.inl n)=_
  by_cases h:k=n
  ·rw[VR (by rw[h]),look,if_pos h]
  ·rw[VQ (fun e=>h (Rw e)),look,if_neg h];exact Wh ks xs n
theorem Jb2:∀(ks:List Int) (xs:List V) (n:Int),ks.length=xs.length->(((ks.map Sum.inl:List Key).zip xs).any fun kv=>decide (kv.1=(Sum.inl n:Key)))=YW ks n
 | [],_,_,_=>rfl
 | _::_,[],_,h=>by simp at h
 | k::ks,x::xs,n,h=>by
  show(decide ((Sum.inl k:Key)=Sum.inl n) || ((ks.map Sum.inl:List Key).zip xs).any _)=(decide (k=n) || ks.any _)
  rw[Jb2 ks xs n (by simpa using h)];congr 1
  by_cases e:k=n
  ·subst e;simp
  ·rw[decide_eq_false e,decide_eq_false fun z=>e (Rw z)]
theorem JcA:∀(ks:List Int) (xs:List V) (n:Int) (v:V),ks.length=xs.length->(((ks.map Sum.inl:List Key).zip xs).map fun kv=>if kv.1=(Sum.inl n:Key) then(kv.1,v) else kv)=(ks.map Sum.inl:List Key).zip (setK ks xs n v)
 | [],_,_,_,_=>rfl
 | _::_,[],_,_,h=>by simp at h
 | k::ks,x::xs,n,v,h=>by
  show(if (Sum.inl k:Key)=Sum.inl n then((Sum.inl k:Key),v) else(Sum.inl k,x))::((ks.map Sum.inl:List Key).zip xs).map _=(Sum.inl k,if k=n then v else x)::(ks.map Sum.inl:List Key).zip (setK ks xs n v);rw[JcA ks xs n v (by simpa using h)];congr 1
  by_cases e:k=n
  ·subst e;simp
  ·rw[if_neg e,if_neg fun z=>e (Rw z)]
theorem Jit(ks:List Int)(xs:List V)(n:Int)(v:V)(h:ks.length=xs.length):(HO.dK (UM ((ks.map Sum.inl:List Key).zip xs) (Sum.inl n) v))=dkO (Jz ks n) (putDs ks xs n v):=by
 unfold dkO UM Jz putDs;rw[Jb2 ks xs n h];split
 ·rw[JcA ks xs n v h]
 ·rw[Q0,Ri (by simpa using h)];rfl
section
variable{K:Qx}{C:Qd}{Hs H0 H:Hp}
theorem RDL.look:∀{ks:List Int} {xs:List V} {ds:List D} {n:Int},RDL K C H xs ds->(LE.look ks xs n=none/\LE.look ks ds n=none)\/∃x d,LE.look ks xs n=some x/\LE.look ks ds n=some d/\RD K C H x d
 | [],_,_,_,_=>.inl ⟨rfl,rfl⟩
 | _::_,[],[],_,_=>.inl ⟨rfl,rfl⟩
 | _::_,[],_::_,_,h=>by have:=h.1;simp at this
 | _::_,_::_,[],_,h=>by have:=h.1;simp at this
 | k::ks,x::xs,d::ds,n,h=>by
  simp only[LE.look]
  by_cases e:k=n
  ·rw[if_pos e,if_pos e];exact .inr ⟨x,d,rfl,rfl,h.head⟩
  ·rw[if_neg e,if_neg e];exact RDL.look h.tail
theorem RDL.setK{n:Int}{v:V}{e:D}(r:RD K C H v e):∀{ks:List Int} {xs:List V} {ds:List D},RDL K C H xs ds->RDL K C H (LE.setK ks xs n v) (LE.setK ks ds n e)
 | [],_,_,h=>h
 | _::_,[],[],_=>.nil
 | _::_,[],_::_,h=>by have:=h.1;simp at this
 | _::_,_::_,[],h=>by have:=h.1;simp at this
 | k::ks,x::xs,d::ds,h=>by
  simp only[LE.setK];refine .cons ?_ (RDL.setK r h.tail);split
  ·exact r
  ·exact h.head
theorem RDL.putDs{n:Int}{v:V}{e:D}{ks:List Int}{xs:List V}{ds:List D}(h:RDL K C H xs ds)(r:RD K C H v e):RDL K C H (LE.putDs ks xs n v) (LE.putDs ks ds n e):=by
 unfold LE.putDs;split
 ·exact RDL.setK r h
 ·exact h.snoc r
theorem Jnt{p:Qd}{ks:List Int}{xs:List V}{ds:List D}{Q:VK}(i:Same H0 H)(hs:Same Hs H)(hp:H p=none)(hk:ks.length=ds.length)(r:RDL K C H0 xs ds)(q:∀v H0' H',Step Hs H0 H H0' H'->RR K C Hs H0' H' v (.od ks ds)->Q v H'):Q (.ref p) (upd H p (dkO ks xs)) :=
 q _ H0 _ ⟨.new hp,Same.refl _,fun _ _ e=>.inl e,i.trans (.new hp)⟩ ⟨p,xs,rfl,Jk,Same.free i hp,Same.free hs hp,hk,r⟩
end
noncomputable def Sl.dk:Sl->Option (List Int×List D)
 | .sh (.dct ks ds)=>some (ks,ds)
 | .sh (.dfz ks ds)=>some (ks,ds)
 | .bd ks ds=>some (ks,ds)
 | .od ks ds=>some (ks,ds)
 | _=>none
noncomputable def int?:Sl->Option Int
 | .sh (.int i)=>some i
 | _=>none
noncomputable def Jcb:Ev:=fun _=>some (.od [] [])
noncomputable def YI(a k:Ev):Ev:=fun E=>(a E).bind fun s=>s.dk.bind fun p=>((k E).bind int?).bind fun n=>(look p.1 p.2 n).map .sh
noncomputable def Ja1(a k x:Ev):Ev:=fun E=>(a E).bind fun s=>s.dk.bind fun p=>((k E).bind int?).bind fun n=>((x E).bind sh?).bind fun d=>some (.sh ((look p.1 p.2 n).getD d))
noncomputable def Jdh(i:Nat)(k a:Ev):Es:=fun E=>match E[i]? with
 | some (.od ks ds)=>(a E).bind fun s=>s.frz.bind fun d=>((k E).bind int?).bind fun n=>if ks.length<Qt then some (.nx (E.set i (.od (Jz ks n) (putDs ks ds n d)))) else none
 | _=>none
section
variable{K:Qx}{C:Qd}{Hs H0 H:Hp}{td ty tx te:TE}{ed ek ex ea:Ev}
theorem Ug{s:Sl}{n:Int}(e:int? s=some n):s=.sh (.int n):=by
 cases s with
 | sh d=>cases d with
  | int i=>cases e;rfl
  | _=>cases e
 | _=>cases e
theorem RR.dk{v:V}{s:Sl}{p:List Int×List D}(r:RR K C Hs H0 H v s)(i:Same H0 H)(e:s.dk=some p):∃l xs,v=.ref l/\Rd H l (dkO p.1 xs)/\p.1.length=p.2.length/\RDL K C H0 xs p.2:=by
 cases s with
 | bd ks ds=>cases e;obtain⟨l,xs,h1,h2,h3⟩:=r;exact⟨l,xs,h1,.inl h2,h3⟩
 | od ks ds=>cases e;obtain⟨l,xs,h1,h2,_,_,h3⟩:=r;exact⟨l,xs,h1,.inl h2,h3⟩
 | bt _ _=>cases e
 | ot _ _=>cases e
 | sh d=>cases d with
  | dct ks ds=>cases e;obtain⟨l,xs,h1,h2,h3⟩:=RD.dctI r;exact⟨l,xs,h1,.inl (i _ _ h2),h3⟩
  | dfz ks ds=>cases e;obtain⟨l,xs,o,h1,h2,h3⟩:=RD.dfzI r;exact⟨l,xs,h1,.inr ⟨o,i _ _ h2⟩,h3⟩
  | _=>cases e
 | _=>cases e
theorem Jhs{l:Qd}{ks:List Int}{xs:List V}{n:Int}(h:Rd H l (dkO ks xs)):DGet H l (.int n) (look ks xs n):=.inl ⟨_,Sum.inl n,h,rfl,(Wh ks xs n).symm⟩
theorem JiL:SE K C Ji2 Jcb:=by intro B H0 H σ E r Q I e q;cases e;intro p hp;exact Jnt (ks:=[]) (xs:=[]) (Hs:=H) I.h (Same.refl _) hp rfl .nil q
theorem Jp6(ha:SE K C td ed)(hk:SE K C ty ek):SE K C (JfE td ty) (YI ed ek):=by
 intro B H0 H σ E r Q I e q;obtain⟨s,e1,e⟩:=bind_some e;obtain⟨p,e2,e⟩:=bind_some e;obtain⟨n,e3,e⟩:=bind_some e;obtain⟨t,e3,e4⟩:=bind_some e3;obtain rfl:=Ug e4;obtain⟨d,e5,rfl⟩:=map_some e;refine ha B H0 H σ E s _ I e1 fun x H1 H1' s1 r1=>hk B H1 H1' σ E _ _ (I.step s1) e3 fun y H2 H2' s2 r2=>?_
 obtain⟨l,xs,rfl,h,_,rl⟩:=(r1.step s2).dk s2.i e2;rw[RD.intI r2];rcases RDL.look (ks:=p.1) (n:=n) rl with ⟨_,z⟩|⟨v,d',z1,z2,z3⟩
 ·rw[z] at e5;cases e5
 ·rw[z2] at e5;cases e5;exact⟨l,v,rfl,z1▸Jhs h,q _ _ _ (s1.trans s2) z3⟩
theorem Jli(ha:SE K C td ed)(hk:SE K C ty ek)(hx:SE K C tx ex):SE K C (Ji1 td ty tx) (Ja1 ed ek ex):=by
 intro B H0 H σ E r Q I e q;obtain⟨s,e1,e⟩:=bind_some e;obtain⟨p,e2,e⟩:=bind_some e;obtain⟨n,e3,e⟩:=bind_some e;obtain⟨t,e3,e4⟩:=bind_some e3;obtain rfl:=Ug e4;obtain⟨d,e5,e⟩:=bind_some e;obtain⟨t',e5,e6⟩:=bind_some e5;obtain rfl:=WL e6;cases e;refine ha B H0 H σ E s _ I e1 fun x H1 H1' s1 r1=>?_
 obtain⟨l0,xs0,rfl,h0,_,_⟩:=r1.dk s1.i e2;refine⟨l0,rfl,.inl ⟨_,h0⟩,hk B H1 H1' σ E _ _ (I.step s1) e3 fun y H2 H2' s2 r2=>hx B H2 H2' σ E _ _ ((I.step s1).step s2) e5 fun z H3 H3' s3 r3=>?_⟩;obtain⟨l,xs,hl,h,_,rl⟩:=((r1.step s2).step s3).dk s3.i e2;cases hl;rw[RD.intI r2];refine⟨_,Jhs h,q _ _ _ ((s1.trans s2).trans s3) ?_⟩;rcases RDL.look (ks:=p.1) (n:=n) rl with ⟨z1,z2⟩|⟨v,d',z1,z2,z3⟩
 ·rw[z1,z2];exact r3
 ·rw[z1,z2];exact z3
theorem JoP{i:Nat}(ha:SE K C te ea)(hk:SE K C ty ek):SS K C (JiK (Y2 i) ty te) (Jdh i ek ea):=by
 intro B H0 H σ E o D I e f;unfold Jdh at e;split at e
 ·next ks ds h =>
  obtain⟨s,e1,e⟩:=bind_some e;obtain⟨d,e2,e⟩:=bind_some e;obtain⟨n,e3,e⟩:=bind_some e;obtain⟨t,e3,e4⟩:=bind_some e3;obtain rfl:=Ug e4;split at e
  ·next hz =>
   cases e;obtain⟨l,xs,g1,g2,g3,g4,gk,g5⟩:=I.slotD h;refine ha B H0 H σ E _ _ I e1 fun v H1 H1' s1 r1=>?_
   have s2:Step H H0 H (Ye H H1 H1') H1':=s1.comp (JN s1.i) fun _ z=>z
   have rv:=RR.frz s1.i r1 e2;refine⟨_,g1,?_⟩;refine hk B _ H1' σ E _ _ (I.step s2) e3 fun w H3 H3' s3 r3=>?_
   have s4:=s2.trans s3
   have hx:ks.length=xs.length:=gk.trans g5.1.symm;obtain⟨_,n0,nB⟩:=(I.step s4).ownG h rfl g1
   have rr:=(g5.mono s4.z).putDs (ks:=ks) (n:=n) (rv.mono s3.z)
   have m:=(I.step s4).mutG (t':=.od (Jz ks n) (putDs ks ds n d)) (o':=dkO (Jz ks n) (putDs ks xs n v)) h rfl rfl g1 ⟨l,_,rfl,Jk,n0,nB,JgF _ _ _ _ gk,rr⟩;rw[RD.intI r3];refine⟨l,_,rfl,.inl ⟨_,Sum.inl n,s4.h _ _ g2,rfl,?_,rfl⟩,?_⟩
   ·rw[Kk,Qq,<- hx,Mg];exact hz
   ·rw[Jit ks xs n v hx];exact f _ _ _ ⟨m.b,s4.z,(s4.ss I.b).n,m.h⟩ m
  ·cases e
 ·cases e
end

noncomputable def Ja8(x y:Sl):Option Sl:=x.m.bind fun ds=>(int? y).bind fun k=>if JdG k=true/\ds.length*k.toNat<=Qt then some (.own (QA k.toNat ds).flatten) else none
section
variable{K:Qx}{C:Qd}{H:Hp}
theorem RDL.rep{xs:List V}{ds:List D}(r:RDL K C H xs ds):∀k:Nat,RDL K C H (QA k xs).flatten (QA k ds).flatten
 | 0=>.nil
 | k+1=>by rw[GU,GU,Kr,Kr];exact r.append (RDL.rep r k)
theorem JpG:OpS K C JpU Ja8:=by
 intro Hs H0 H x y a b c Q i hs ra rb e q;obtain⟨ds,e1,e⟩:=bind_some e;obtain⟨k,e2,e3⟩:=bind_some e;have hb:=Ug e2;subst hb;split at e3
 ·next hz=>cases e3;obtain⟨l,us,rfl,h1,r1⟩:=ra.m i e1;obtain⟨b1,b2⟩:=Jbf hz.1;exact⟨l,k,us,rfl,RD.intI rb,h1,by omega,by omega,by rw[r1.1];exact hz.2,fun p hp=>Y4 i hs hp (r1.rep k.toNat) q⟩
 ·cases e3
end
theorem W4{d:D}{s:Sl}{k:Int}(e:s.m=some [d])(h1:JdG k=true)(h2:k.toNat<=16777216):Ja8 s (.sh (.int k))=some (.own (QA k.toNat d)):=by
 unfold Ja8;rw[e,QV];show(some k).bind _=_;rw[QV,if_pos ⟨h1,by rw[Gi,Nat.one_mul];exact h2⟩];congr 2
 generalize k.toNat=n
 induction n with
 | zero=>rfl
 | succ n ih=>rw[GU,Kr,ih];rfl
end LE

namespace L2
open PySem PySem.Spec PyProof.Rows
noncomputable def Jmj(i:Nat)(t:TS):TS:=fun D σ H=>∃a kvs,σ[i]?=some (some (.ref a))/\H a=some (.dK kvs)/\∀o,t D σ (upd H a (.frz o (.dK kvs)))
theorem Inv.freeze{X:Cx}{pins:List (Qd×Obj)}{σ:St}{H:Hp}{s:Qe}{a:Qd}{kvs:List (Key×V)}(I:Inv X pins σ H s)(e:H a=some (.dK kvs)):∃o,Inv X pins σ (upd H a (.frz o (.dK kvs))) s:=by
 obtain⟨z,y,vs,r,ob,es,ep,e1,c⟩:=(show ObjOk X.prog X.w H s.heap a (.dK kvs) from I.hok a _ e)
 have:=I.write (x:=a) (e:=a) (o:=.frz ob (.dK kvs)) (h':=s.heap) (t':=s.toks) (by rw[e];trivial) (.inl rfl) (fun b u _ q=>q) ⟨ob,e1⟩ ⟨e1,z,y,vs,r,ob,es,ep,e1,c⟩;exact⟨ob,this⟩
theorem JkV{X:Cx}{st:Kj}{t:TS}(i:Nat)(h:PS X st t):PS X st (Jmj i t):=by intro pins s σ H D I ⟨a,kvs,e1,e2,q⟩;obtain⟨o,I'⟩:=I.freeze e2;exact h pins s σ _ D I' (q o)
noncomputable def Itd(a:Qd)(o:Obj)(kvs:List (Key×V)):It :=
 ⟨fun i H=>H a=some (.frz o (.dK kvs))/\∃p,kvs[i]?=some p,
  fun i H x H'=>∃t k v,x=.ref t/\H t=none/\kvs[i]?=some (k,v)/\H'=upd H t (.tup [kV k,v]),
  fun i H=>H a=some (.frz o (.dK kvs))/\i=kvs.length⟩
theorem JhT{P:Qw}{w:QF}{k:Key}{u:Qc}(h:(Jv P w).is k u=true):RelV (kV k) u:=by
 rcases JF (show Wl k u=true from h) with ⟨i,t,rfl,rfl⟩|⟨x,t,rfl,rfl⟩
 ·exact⟨t,rfl⟩
 ·exact⟨t,rfl⟩
theorem KV.get{κ:Type}:∀{kvs:List (κ×V)} {vs:List (κ×Qc)} {i:Nat} {p:κ×V},KV kvs vs->kvs[i]?=some p->∃u,vs[i]?=some (p.1,u)/\RelV p.2 u
 | _,_,0,p,.cons h _,e=>by simp at e;subst e;obtain⟨h1,h2⟩:=h;rename_i q _ _;exact⟨_,by simp;exact Lw h1.symm rfl,h2⟩
 | _,_,i+1,p,.cons _ t,e=>by obtain⟨u,h1,h2⟩:=KV.get (i:=i) t (by simpa using e);exact⟨u,by simpa using h1,h2⟩
 | _,_,_,_,.nil,e=>by simp at e
theorem W0{X:Cx}{pins:List (Qd×Obj)}{σ:St}{H:Hp}{s:Qe}{a:Qd}{o:Obj}{kvs:List (Key×V)}{es:Array DictEntry}{ep:Nat}(I:Inv X pins σ H s)(h:H a=some (.frz o (.dK kvs)))(hd:o.data=.dict es ep) :
 ∃vs,KV kvs vs/\s.heap.DictAt (Jv X.prog X.w) a vs ep/\(a == sysModules)=false:=by
 obtain⟨e0,z,y,vs,r,ob,es',ep',e1,c1,c2,c3⟩:=(show ObjOk X.prog X.w H s.heap a (.frz o (.dK kvs)) from I.hok a _ h)
 rw[e0] at e1;cases e1;rw[hd] at c2;cases c2;exact⟨vs,r,⟨o,es,e0,c1,hd,c3⟩,y⟩
theorem Jeh{P:Qw}{w:QF}{K:Qx}{elts:List Q7}{kk:Nat}{pos:Pos}(a it:Qd)(o:Obj)(kvs:List (Key×V))(es:Array DictEntry)(ep:Nat)(hd:o.data=.dict es ep) :
 Turn P w K (.Tuple elts kk pos) (Itd a o kvs) [it] it (fun i h=>∃ok ov,IsItemIter h it a i kvs.length ep ok ov) where
 mem:=by simp
 obj:=fun i h st c hc=>by
  obtain⟨ok,ov,s1⟩:=st;have hc':c=it:=by simpa using hc
  subst hc';exact⟨_,s1,fun v z=>nomatch (show Data.fields _=Data.cell v from z)⟩
 keep:=fun i h h' st k=>by obtain⟨ok,ov,s1⟩:=st;exact⟨ok,ov,k it (by simp) _ s1⟩
 item:=by
  intro X hP hw hK hc i pins s σ H E I hf st hg;subst hP hw hK;obtain⟨hH,⟨k,v⟩,e1⟩:=hg;obtain⟨vs,r,dd,_⟩:=W0 I hH hd;obtain⟨ok,ov,s1⟩:=st;obtain⟨u,hu,ru⟩:=r.get e1;have hl:kvs.length=vs.length:=KV.length r;rw[hl] at s1;refine wpAny_pyNext_items_item s1 dd hu fun key h' hk hit' ht hz hkeep=>?_
  refine⟨_,rfl,wpAny_letOwnedTupleGo_items (s:={ s with heap:=h' }) hit' fun k2 t9 e9=>?_⟩
  replace e9:QQ it h' k2:=e9;have elt:it<s.heap.objs.size:=Qp s1
  have I1:Inv X pins σ (upd H s.heap.objs.size (.tup [kV k,v])) { s with heap:=s.heap.push { cls:=.type "tuple",data:=.seq #[key,u] },toks:=s.toks } :=
   I.laid (o:=.tup [kV k,v]) (fun c ob q=>Qi _ q) (Qr _) ⟨by show 2<=Qt;decide,[key,u],.cons (JhT hk) (.cons ru .nil),⟨_,Qn _ rfl,rfl,_,rfl⟩⟩
  have hf1:∀c∈[it],FpOk X pins (upd H s.heap.objs.size (.tup [kV k,v])) c:=fun c hc=>by
   have hc':c=it:=by simpa using hc
   subst hc';exact⟨by rw[Je (QB elt)];exact(hf c hc).1,(hf c hc).2⟩
  have I2:Inv X pins σ (upd H s.heap.objs.size (.tup [kV k,v])) { s with heap:=k2,toks:=s.toks }:=Inv.turnedL (s:={ s with heap:=s.heap.push { cls:=.type "tuple",data:=.seq #[key,u] },toks:=s.toks }) I1 (fun c ob hc q=>by
   have hc':c≠it:=fun z=>hc (by simp[z])
   refine e9.extBut c ob hc' ?_
   by_cases hcs:c=s.heap.objs.size
   ·subst hcs;have q':(s.heap.push { cls:=.type "tuple",data:=.seq #[key,u] }).get? s.heap.objs.size=some ob:=q;rw[Qn _ rfl] at q';cases q';exact ht
   ·have q':s.heap.get? c=some ob:=by have q2:(s.heap.push { cls:=.type "tuple",data:=.seq #[key,u] }).get? c=some ob:=q;exact(MH s.heap c _ hcs).symm.trans q2
    exact hkeep c ob hc' q') hf1
  refine⟨.ref s.heap.objs.size,_,I2,rfl,⟨_,k,v,rfl,I.hok.fresh (Qr _),e1,rfl⟩,⟨key,u,?_⟩,fun c hc=>(hf1 c hc).1⟩
  ·rw[hl];exact t9
 done:=by
  intro X hP hw hK hc i pins s σ H E I hf st hg;subst hP hw hK;obtain⟨hH,ei⟩:=hg;obtain⟨vs,r,dd,_⟩:=W0 I hH hd;obtain⟨ok,ov,s1⟩:=st;have hl:kvs.length=vs.length:=KV.length r;have hh:X.A.handled=none:=I.ok.hd hc;rw[hl] at s1;refine wpAny_pyNext_items_end hh s1 dd (G7 (by omega)) fun h' he=>⟨rfl,?_⟩
  exact I.turnedL (fun c ob hc q=>he c ob (fun z=>hc (by simp[z])) q) hf
 self:=fun _ _ _ _ _ st h=>by obtain⟨ok,ov,s1⟩:=st;exact PySem.W.kcp_self s1 h
noncomputable def Jpo(td:TE):TI:=fun σ H R=>td σ H fun x H1=>∃a o kvs,x=.ref a/\H1 a=some (.frz o (.dK kvs))/\R (Itd a o kvs) H1
theorem Jim{X:Cx}{elts:List Q7}{kk:Nat}{tpos:Pos}{d:Q7}{td:TE}{apos pos:Pos}(hd:PE X d td)(hbase:attributeBase d "items" X.env (eval d X.env)=eval d X.env:=by rfl)(hline:(apos.endLine == pos.line)=true:=by rfl)
:PI X (.Tuple elts kk tpos) (.Call (.Attribute d "items" apos) [] [] pos) (Jpo td):=by
 intro pins s σ H R I h;refine KS hbase hline (thn (hd pins s σ H _ I h) fun v s1 ⟨x,H1,I1,r1,a,o,kvs,ex,hH,q⟩=>?_);subst ex;cases r1;obtain⟨t1,t2,_⟩:=Jbj I1 (.inl ⟨kvs,.inr ⟨o,hH⟩⟩);have hO:=(show ObjOk X.prog X.w H1 s1.heap a (.frz o (.dK kvs)) from I1.hok a _ hH)
 obtain⟨e0,z,y,vs,r,ob,es,ep,e1,c1,c2,c3⟩:=hO;rw[e0] at e1;cases e1;have dd:s1.heap.DictAt (Jv X.prog X.w) a vs ep:=⟨o,es,e0,c1,c2,c3⟩
 have hl:kvs.length=vs.length:=KV.length r;refine⟨"dict","dict.items",KU,KZ,MY,t1,t2,Ke rfl (Ls ?_)⟩;refine call_meetsIn KZ t1 MN (MA _) (meets_dict_items (Jv X.prog X.w) a y) ⟨⟨vs,dd.dictOf⟩,?_⟩
 have I2:Inv X pins σ H1 { s1 with heap:=s1.heap.push { cls:=.type "dict_items",data:=.fields #[.ref a] },toks:=s1.toks }:=I1.kept fun b ob q=>Qi _ q
 refine wpAny_pyIter_items (s:={ s1 with heap:=s1.heap.push { cls:=.type "dict_items",data:=.fields #[.ref a] } }) (d:=a) (kvs:=vs) (ep:=ep) (knd:=Jv X.prog X.w) ⟨_,Qn _ rfl,rfl,rfl⟩ (dd.push _) ?_;refine⟨_,[(s1.heap.push { cls:=.type "dict_items",data:=.fields #[.ref a] }).objs.size],_,_,H1,rfl,I2.kept (t':=s1.toks) fun b ob q=>Qi _ q,Jeh a _ o kvs es ep c2,⟨.none,.none,?_⟩,fun c hc=>?_,q⟩
 ·rw[hl];exact Qn _ rfl
 ·have hc':c=(s1.heap.push { cls:=.type "dict_items",data:=.fields #[.ref a] }).objs.size:=by simpa using hc
  subst hc';exact I2.fpOk (Qr _) (I2.hok.fresh (Qr _))
end L2
namespace LE
open PySem L2 LR
noncomputable def JfN(i:Nat)(b:Es):Es:=fun E=>match E[i]? with
 | some (.od ks ds)=>b (E.set i (.sh (.dfz ks ds)))
 | _=>none
noncomputable def Jcp:List Int->List D->List D:=List.zipWith fun k d=>.tup [.int k,d]
noncomputable def JdE(a:Ev):En->Option (List D):=fun E=>(a E).bind fun s=>match s with
 | .sh (.dfz ks ds)=>some (Jcp ks ds)
 | _=>none
section
variable{K:Qx}{C:Qd}{m:Bool}{t:TS}{et:Es}{td:TE}{ed:Ev}
theorem JoR(i:Nat)(ht:SS K C t et):SS K C (Jmj i t) (JfN i et):=by
 intro B H0 H σ E o D I e f;unfold JfN at e;split at e
 ·next ks ds h =>
  obtain⟨l,xs,g1,g2,g3,g4,gk,g5⟩:=I.slotD h;refine⟨l,_,g1,g2,fun ob=>?_⟩;have hi:i<E.length:=(Qm.mp h).1;have s0:Same H0 (upd H0 l (.frz ob (dkO ks xs))):=.new g3;have nb:∀{A:Hp},A l=none->Same A H->Same A (upd H l (.frz ob (dkO ks xs))):=fun {A} n s a o e=>by rw[Je (Jo e n)];exact s a o e
  have s1:Same (upd H0 l (.frz ob (dkO ks xs))) (upd H l (.frz ob (dkO ks xs))):=fun a o e=>by
   by_cases ha:a=l
   ·subst ha;rw[Jk] at e ⊢;exact e
   ·rw[Je ha] at e ⊢;exact I.h a o e
  have st:SStep B H0 (upd H0 l (.frz ob (dkO ks xs))) (upd H l (.frz ob (dkO ks xs))):=⟨nb g4 I.b,s0,fun a o e=>by
   by_cases ha:a=l
   ·subst ha;exact .inr (.inl g4)
   ·rw[Je ha] at e;exact .inl e,s1⟩
  refine ht B _ _ σ _ o D ⟨nb g4 I.b,s1,by simp[I.len],fun j s e=>?_,fun j k u1 u2 v hjk a1 a2 w1 w2 a3=>?_,I.t⟩ e (f.step st)
  ·rw[QW] at e
   by_cases hj:i=j
   ·subst hj;rw[if_pos rfl,if_pos hi] at e;cases e;exact .inr ⟨_,g1,.mkZ Jk gk (g5.mono s0)⟩
   ·rw[if_neg hj] at e;rcases I.at' j s e with z|⟨v,q1,q2⟩
    ·exact .inl z
    ·refine .inr ⟨v,q1,?_⟩
     cases s with
     | no=>trivial
     | sh d=>exact RD.mono s0 q2
     | bo es=>obtain⟨l',ys,p1,p2,p3⟩:=q2;exact⟨l',ys,p1,p2,p3.mono s0⟩
     | bd ks es=>obtain⟨l',ys,p1,p2,hk,p3⟩:=q2;exact⟨l',ys,p1,p2,hk,p3.mono s0⟩
     | bt ks es=>obtain⟨l',ys,p1,p2,hk,p3⟩:=q2;exact⟨l',ys,p1,p2,hk,p3.mono s0⟩
     | own es =>
      obtain⟨l',ys,p1,p2,p3,p4,p5⟩:=q2;subst p1;have:l'≠l:=fun z=>by subst z;exact I.sep i j _ _ (.ref l') hj h e rfl rfl g1 q1
      exact⟨l',ys,rfl,by rw[Je this];exact p2,by rw[Je this];exact p3,p4,p5.mono s0⟩
     | od ks es =>
      obtain⟨l',ys,p1,p2,p3,p4,hk,p5⟩:=q2;subst p1;have:l'≠l:=fun z=>by subst z;exact I.sep i j _ _ (.ref l') hj h e rfl rfl g1 q1
      exact⟨l',ys,rfl,by rw[Je this];exact p2,by rw[Je this];exact p3,p4,hk,p5.mono s0⟩
     | ot ks es =>
      obtain⟨l',ys,p1,p2,p3,p4,hk,p5⟩:=q2;subst p1;have:l'≠l:=fun z=>by subst z;exact I.sep i j _ _ (.ref l') hj h e rfl rfl g1 q1
      exact⟨l',ys,rfl,by rw[Je this];exact p2,by rw[Je this];exact p3,p4,hk,p5.mono s0⟩
  ·have own:∀{j:Nat} {u:Sl},(E.set i (.sh (.dfz ks ds)))[j]?=some u->JO u=true->E[j]?=some u:=fun {j u} a w=>by
    rw[QW] at a
    by_cases hj:i=j
    ·subst hj;rw[if_pos rfl,if_pos hi] at a;cases a;cases w
    ·rw[if_neg hj] at a;exact a
   exact I.sep j k u1 u2 v hjk (own a1 w1) (own a2 w2) w1 w2 a3
 ·cases e
theorem ZT:∀(ks:List Int) (xs:List V) (i:Nat),((ks.map Sum.inl:List Key).zip xs)[i]?=(match ks[i]?,xs[i]? with|some k,some x=>some ((Sum.inl k:Key),x)|_,_=>none)
 | [],xs,i=>by simp
 | k::ks,[],i=>by cases h:(k::ks)[i]? <;> simp_all
 | k::ks,x::xs,0=>by simp
 | k::ks,x::xs,i+1=>by simpa using ZT ks xs i
theorem JiM(ha:SE K C td ed):SI K C m (Jpo td) (JdE ed):=by
 intro B H0 H σ E ds R I e q;obtain⟨s,e1,e⟩:=bind_some e;split at e
 ·next ks es =>
  cases e;refine ha B H0 H σ E _ _ I e1 fun x H1 H1' s1 r1=>?_
  obtain⟨l,xs,o,rfl,h,hk,rl⟩:=RD.dfzI r1;refine⟨l,o,_,rfl,s1.i _ _ h,q _ _ _ s1 ?_⟩
  have sA:Same (if m=true then H1' else B) H1':=by
   split
   ·exact Same.refl _
   ·exact I.b.trans s1.h
  intro H0' H' st;have hl:H' l=some (.frz o (dkO ks xs)):=st.i _ _ (st.z _ _ h);refine⟨fun i d e=>?_,⟨hl,?_⟩⟩
  ·unfold Jcp at e;rw[Rr] at e
   cases hki:ks[i]? with
   | none=>rw[hki] at e;cases e
   | some k =>
    cases hdi:es[i]? with
    | none=>rw[hki,hdi] at e;cases e
    | some d' =>
     rw[hki,hdi] at e;cases e;obtain⟨x,hx,rx⟩:=rl.get hdi;have hz:((ks.map Sum.inl:List Key).zip xs)[i]?=some (Sum.inl k,x):=by rw[ZT,hki,hx]
     refine⟨⟨hl,_,hz⟩,?_⟩;rintro z H2 ⟨p,k',v',rfl,hp,hv,rfl⟩;rw[hz] at hv;cases hv;have h0:H0' p=none:=Same.free st.i hp;refine⟨upd H0' p (.tup [.int k,x]),⟨.new hp,.new h0,fun a o e=>?_,fun a o e=>?_⟩,?_⟩
     ·by_cases h:a=p
      ·subst h;exact .inr (.inl hp)
      ·rw[Je h] at e;exact .inl e
     ·by_cases h:a=p
      ·subst h;rw[Jk] at e ⊢;exact e
      ·rw[Je h] at e ⊢;exact st.i a o e
     ·exact .mkT (.of Jk) (.cons (.int _) (.cons (rx.mono (st.z.trans (.new h0))) .nil))
  ·unfold Jcp;rw[List.length_zipWith,Kk,Qq,rl.1]
 ·cases e
end
end LE

namespace L2
open PySem PySem.Spec PyProof.Rows
noncomputable def Jdg(p a:Qd):HO:=.ext fun h=>KdlKeysView h p a
noncomputable def Jml(td:TE):TE:=fun σ H Q=>td σ H fun x H1=>∃a kvs,x=.ref a/\Rd H1 a (.dK kvs)/\∀p,H1 p=none->Q (.ref p) (upd H1 p (Jdg p a))
theorem WA{X:Cx}{pins:List (Qd×Obj)}{σ:St}{H:Hp}{s:Qe}{a:Qd}{kvs:List (Key×V)}(I:Inv X pins σ H s)(h:Rd H a (.dK kvs)) :
 ∃vs ep,KV kvs vs/\s.heap.DictAt (Jv X.prog X.w) a vs ep/\(a == sysModules)=false/\kvs.length<=Qt:=by
 obtain⟨z,y,vs,r,ob,es,ep,e1,c⟩:=(show ObjOk X.prog X.w H s.heap a (.dK kvs) from h.ok I.hok)
 exact⟨vs,ep,r,⟨ob,es,e1,c⟩,y,z⟩
theorem Jfi{X:Cx}{d:Q7}{td:TE}{apos pos:Pos}(hd:PE X d td)(hbase:attributeBase d "keys" X.env (eval d X.env)=eval d X.env:=by rfl)(hline:(apos.endLine == pos.line)=true:=by rfl)
:PE X (.Call (.Attribute d "keys" apos) [] [] pos) (Jml td):=by
 intro pins s σ H Q I h;refine KS hbase hline (thn (hd pins s σ H _ I h) fun v s1 ⟨x,H1,I1,r1,a,kvs,ex,hH,q⟩=>?_);subst ex;cases r1;obtain⟨t1,t2,_⟩:=Jbj I1 (.inl ⟨kvs,hH⟩);obtain⟨vs,ep,r,dd,y,_⟩:=WA I1 hH;refine⟨"dict","dict.keys",KU,Re,PySem.F.type_dict_keys,t1,t2,Ke rfl (Ls ?_)⟩;refine call_meetsIn Re t1 PySem.F.entry_dict_keys (PySem.F.args_dict_keys_1 _) (PySem.W.kdl_meets_keys (Jv X.prog X.w) a y) ⟨⟨vs,dd.dictOf⟩,?_⟩
 have hn:H1 s1.heap.objs.size=none:=I1.hok.fresh (Qr _)
 have vw:KdlKeysView (s1.heap.push { cls:=.type "dict_keys",data:=.fields #[.ref a] }) s1.heap.objs.size a:=⟨_,Qn _ rfl,rfl,rfl⟩
 refine⟨.ref s1.heap.objs.size,_,I1.laid (t':=s1.toks) (o:=Jdg s1.heap.objs.size a) (fun b ob q=>Qi _ q) (Qr _) ⟨vw,⟨_,Qn _ rfl⟩,fun h1 h2 p k=>?_⟩,rfl,q _ hn⟩;obtain⟨o,ho,hc⟩:=p;exact⟨o,k o ho,hc⟩
noncomputable def JoZ(H:Hp)(r a:Qd):Prop:=r=a\/H r=some (Jdg r a)
theorem Joz{X:Cx}{pins:List (Qd×Obj)}{σ:St}{H:Hp}{s:Qe}{r a:Qd}{kvs:List (Key×V)}(I:Inv X pins σ H s)(d:JoZ H r a)(h:Rd H a (.dK kvs)) :
 ∃vs T OK,KV kvs vs/\PySem.W.KdlSrc X.prog X.w T r a vs.length (fun i v=>∃k x,vs[i]?=some (k,x)/\(Jv X.prog X.w).is k v=true) OK/\OK s.heap/\vs.length<=Qt:=by
 obtain⟨vs,ep,rl,dd,y,z⟩:=WA I h;rw[KV.length rl] at z;rcases d with e|e
 ·subst e;exact⟨vs,_,_,rl,PySem.W.kdl_dict (ep:=ep) y,dd,z⟩
 ·have vw:KdlKeysView s.heap r a:=(show ObjOk X.prog X.w H s.heap r (Jdg r a) from I.hok r _ e).1;exact⟨vs,_,_,rl,PySem.W.kdl_keys (ep:=ep),⟨vw,dd⟩,z⟩
theorem Jcn{P:Qw}{w:QF}:∀{ks:List Int} {xs:List V} {vs:List (Key×Qc)} {acc:List Qc},ks.length=xs.length->KV ((ks.map Sum.inl:List Key).zip xs) vs->acc.length=vs.length ->
 (∀(j:Nat) (v:Qc),acc[j]?=some v->∃k x,vs[j]?=some (k,x)/\(Jv P w).is k v=true)->IntsAre acc ks
 | [],[],_,acc,_,r,hl,_=>by
  cases r
  cases acc with
  | nil=>exact .nil
  | cons _ _=>simp at hl
 | [],_::_,_,_,h,_,_,_=>by simp at h
 | _::_,[],_,_,h,_,_,_=>by simp at h
 | k::ks,x::xs,vs,acc,h,r,hl,hv=>by
  cases r with
  | cons r1 r2 =>
   cases acc with
   | nil=>simp at hl
   | cons u acc =>
    obtain⟨k',x',e1,e2⟩:=hv 0 u rfl;simp at e1;obtain⟨r1a,r1b⟩:=r1;subst e1;have ek:k'=Sum.inl k:=r1a.symm;subst ek;rcases JF (show Wl (Sum.inl k) u=true from e2) with ⟨i,t,e,rfl⟩|⟨y,t,e,_⟩
    ·cases e;exact .cons k t (Jcn (by simpa using h) r2 (by simpa using hl) fun j v e=>hv (j+1) v (by simpa using e))
    ·cases e
section
variable{prog:Qw}{w:QF}{A:QC}{E:Qc->Qe->Prop}{s:Qe}{T:String}{r d:Qd}{n:Nat}{P:Nat->Qc->Prop}{OK:QL->Prop}
theorem Jb8{R:List Qc->Qe->Prop}(K:PySem.W.KdlSrc prog w T r d n P OK)(hh:A.handled=none)(hok:OK s.heap)(hn:n<=Qt)
 (h:∀(h':QL) (tk:Nat) (acc:Array Qc),(∀b o,s.heap.get? b=some o->h'.get? b=some o)->s.heap.objs.size<h'.objs.size->ItemsOf P acc n->R acc.toList { s with heap:=h',toks:=tk }):wpAny (model prog w) A (collect (.ref r)) R E s:=by
 obtain⟨k1,k2⟩:=K.there _ hok;have old:∀b o,s.heap.get? b=some o->(s.heap.push { cls:=.type "list",data:=.seq ([]:List Qc).toArray }).get? b=some o:=fun b o e=>Qi _ e
 unfold collect;refine Qa (RH (G9 entry_proto_collect' ?_));rw[GJ Mh _];show wpAny _ A.in1 (newList [] >>= fun l=>again (.builtin "list.__iadd__" ⟨[l,.ref r],[]⟩)) _ _ s;refine Qa (Gc (Qj ⟨Kp K0 _,G9 entry_list_iadd' ?_⟩));rw[GJ K0 _];have at0:(s.heap.push { cls:=.type "list",data:=.seq ([]:List Qc).toArray }).get? s.heap.objs.size=some { cls:=.type "list",data:=.seq #[] }:=Qn _ rfl
 have fin:∀(h':QL) (tk:Nat) (acc:Array Qc) (c:Nat),(∀b o,s.heap.get? b=some o->h'.get? b=some o)->h'.get? s.heap.objs.size=some { cls:=.type "list",dict:=none,data:=.seq acc c,slots:=#[] }->ItemsOf P acc n ->
  wpAny (model prog w) A (load s.heap.objs.size >>= fun o=>match o.data with | .seq xs _=>pure xs.toList | _=>unsupported "internal:collect") R E { s with heap:=h',toks:=tk }:=fun h' tk acc c hk hS hi=>Qa (wpAny_load hS (Qj (h h' tk acc hk (Qp hS) hi)))
 have got:=PySem.W.kdl_extend (A:=A) (s:={ s with heap:=s.heap.push { cls:=.type "list",data:=.seq ([]:List Qc).toArray } }) (R:=fun q s'=>∃h' tk acc c,q=.ok (.ret (.ref s.heap.objs.size))/\s'={ s with heap:=h',toks:=tk }/\(∀b o,s.heap.get? b=some o->h'.get? b=some o)/\h'.get? s.heap.objs.size=some { cls:=.type "list",dict:=none,data:=.seq acc c,slots:=#[] }/\ItemsOf P acc n) K hh (K.keep _ _ hok fun b _ o e=>old b o e) s.heap.objs.size (Kn k1) (Kn k2) (.ref s.heap.objs.size) 0 at0 (fun h' tk acc c hk hS hi=>⟨h',tk,acc,c,rfl,rfl,fun b o e=>hk b o (QB (Qp e)) (old b o e),hS,hi⟩) hn
 refine Ka got (fun f s' x=>?_) fun e s' ⟨_,_,_,_,z,_⟩=>nomatch z
 cases f with
 | done f=>obtain⟨h',tk,acc,c,e,rfl,hk,hS,hi⟩:=x;cases e;exact fin h' tk acc c hk hS hi
 | again c1=>exact⟨x.1,KI x.2 fun q s2 ⟨h',tk,acc,c,e1,e2,hk,hS,hi⟩=>by subst e1;subst e2;exact fin h' tk acc c hk hS hi⟩
end
noncomputable def JiC:List V->Hp->VK->Prop:=fun xs H Q=>∃r a ks vs,xs=[.ref r]/\JoZ H r a/\Rd H a (.dK ((ks.map Sum.inl:List Key).zip vs))/\ks.length=vs.length/\ks.length<64/\∀l,H l=none->Q (.ref l) (upd H l (.lst ((J1 ks).map V.int)))
theorem WW{X:Cx}(hc:X.calm=true):CallR X (.builtin "sorted") JiC:=by
 intro pins s σ H xs us Q I r h;obtain⟨p,a,ks,vs0,rfl,ds,hq,hlk,h64,q⟩:=h;obtain⟨u,rfl,rx⟩:=U9 r;cases rx;obtain⟨vs,T,OK,rl,K,ok,hz⟩:=Joz I ds hq;have hh:X.A.in1.handled=none:=I.ok.hd hc
 have hl:vs.length=ks.length:=by have:=KV.length rl;rw[Kk,Qq,<- hlk,Mg] at this;exact this.symm
 refine MB kind_sorted plain_sorted entry_sorted (args_sorted1 _) ?_;unfold Builtin.«sorted»;refine Qa (m:=checkCount "sorted" 1 1 _) (Qj ?_);refine Qa (Jb8 K hh ok hz fun h' tk acc hk hsz items=>?_);have hI:IntsAre acc.toList ks:=Jcn (P:=X.prog) (w:=X.w) hlk rl (by rw[QM,items.1]) fun j v e=>items.2 j v (by rw[<- GW];exact e)
 have hal:acc.toList.length=ks.length:=by rw[QM,items.1,hl]
 refine Qa (MO ?_ (by rw[hal];show ks.length<=16777216;omega));have hoL:(h'.push (seqObj "list" acc.toList.toArray 0)).get? h'.objs.size=some (seqObj "list" acc.toList.toArray 0):=Qn _ rfl;refine Qa (G8 (Gm RI ⟨_,hoL,rfl⟩ Rk (list_sort_tree hoL hI (by rw[hal];exact h64) fun out ns' a1 a2 a3=>⟨_,rfl,?_⟩) (args_list_sort _)));refine Qj ⟨_,rfl,?_⟩;have es:ns'=J1 ks:=Um (a2.trans (JB ks).symm) a3 (Ul ks)
 subst es;obtain⟨e,he⟩:=sortedHeap_at (out:=out) hoL;have hle:s.heap.objs.size<=h'.objs.size:=GZ hsz;have hne:H h'.objs.size=none:=I.hok.fresh hle;have hn:((J1 ks).map V.int).length<=Qt:=by rw[Qq,(JB ks).length_eq];show ks.length<=16777216;omega
 refine⟨.ref h'.objs.size,_,I.laid (t':=tk) (fun b o x=>?_) hle (show ObjOk X.prog X.w _ _ _ (.lst ((J1 ks).map V.int)) from⟨hn,out.toList,e,VS a1,?_⟩),rfl,q _ hne⟩
 ·have hx:=hk b o x
  have hlt:b<h'.objs.size:=Qp hx;rw[sortedHeap_old (QB hlt) (by rw[size_push'];exact Gn hlt)];exact Qi _ hx
 ·rw[he]
end L2
namespace LE
open PySem L2 LR
noncomputable def VY(a:Ev):Ev:=fun E=>(a E).bind fun s=>s.dk.bind fun p=>if p.1.length<64 then some (.own ((J1 p.1).map .int)) else none
section
variable{K:Qx}{C:Qd}{td:TE}{ed:Ev}
theorem Rd.put{H:Hp}{l p:Qd}{o u:HO}(h:Rd H l o)(hp:H p=none):Rd (upd H p u) l o:=by
 rcases h with h|⟨ob,h⟩
 ·exact .inl (by rw[Je (Jo h hp)];exact h)
 ·exact .inr ⟨ob,by rw[Je (Jo h hp)];exact h⟩
theorem Jll(ha:SE K C td ed):SE K C (tCB JiC (Y0 (Jml td) Vl)) (VY ed):=by
 intro B H0 H σ E r Q I e q;obtain⟨s,e1,e⟩:=bind_some e;obtain⟨p,e2,e⟩:=bind_some e;split at e
 ·next h64 =>
  cases e;refine ha B H0 H σ E s _ I e1 fun x H1 H1' s1 r1=>?_
  obtain⟨l,xs,rfl,h,hk,rl⟩:=r1.dk s1.i e2;refine⟨l,_,rfl,h,fun w hw=>?_⟩;have st:Step H1' H1 H1' H1 (upd H1' w (Jdg w l)):=⟨.new hw,Same.refl _,fun _ _ e=>.inl e,s1.i.trans (.new hw)⟩
  have s2:=s1.trans st;exact⟨w,l,p.1,xs,rfl,.inr Jk,Rd.put h hw,by rw[hk,rl.1],h64,fun z hz=>Y4 s2.i s2.h hz (RDL.ofInts _) fun v H2 H2' s3 r2=>q v H2 H2' (s2.comp s3 fun _ y=>y) r2⟩
 ·cases e
end
end LE

namespace L2
open PySem PySem.Spec PyProof.Rows
theorem Inv.more{X:Cx}{pins:List (Qd×Obj)}{σ:St}{H H':Hp}{s:Qe}{h':QL}{t':Nat}(I:Inv X pins σ H s)(k:∀b u,s.heap.get? b=some u->h'.get? b=some u)(hx:∀b,b<s.heap.objs.size->H' b=H b)
 (new:∀b o,s.heap.objs.size<=b->H' b=some o->ObjOk X.prog X.w H' h' b o):Inv X pins σ H' { s with heap:=h',toks:=t' }:=by
 have old:∀b o,H b=some o->H' b=some o:=fun b o e=>by rw[hx b (I.hok.lt e)];exact e
 refine I.un ⟨fun b u q _ _ _=>k b u q,fun b u q _ _ _=>⟨u.slots,k b u q⟩,fun b u q n _=>by rw[hx b (Qp q)];exact n,fun b u q _=>⟨u,k b u q⟩,fun b xs q=>old b _ q,fun b u xs q=>old b _ q,fun b _ _ _ _ q=>old b _ q⟩ fun b o e=>?_
 rcases KL b s.heap.objs.size with z|z
 ·rw[hx b z] at e;exact(I.hok b o e).stay (fun c u _ q=>k c u q) (fun c q=>old c _ q) fun c xs q=>old c _ q
 ·exact new b o z e
noncomputable def VT(p a:Qd):HO:=.ext fun h=>h.IsItemsView p a
noncomputable def Ji3(td:TE):TE:=fun σ H Q=>td σ H fun x H1=>∃a kvs,x=.ref a/\Rd H1 a (.dK kvs)/\∀p,H1 p=none->Q (.ref p) (upd H1 p (VT p a))
theorem Jih{X:Cx}{d:Q7}{td:TE}{apos pos:Pos}(hd:PE X d td)(hbase:attributeBase d "items" X.env (eval d X.env)=eval d X.env:=by rfl)(hline:(apos.endLine == pos.line)=true:=by rfl)
:PE X (.Call (.Attribute d "items" apos) [] [] pos) (Ji3 td):=by
 intro pins s σ H Q I h;refine KS hbase hline (thn (hd pins s σ H _ I h) fun v s1 ⟨x,H1,I1,r1,a,kvs,ex,hH,q⟩=>?_);subst ex;cases r1;obtain⟨t1,t2,_⟩:=Jbj I1 (.inl ⟨kvs,hH⟩);obtain⟨vs,ep,r,dd,y,_⟩:=WA I1 hH;refine⟨"dict","dict.items",KU,KZ,MY,t1,t2,Ke rfl (Ls ?_)⟩;refine call_meetsIn KZ t1 MN (MA _) (meets_dict_items (Jv X.prog X.w) a y) ⟨⟨vs,dd.dictOf⟩,?_⟩
 have hn:H1 s1.heap.objs.size=none:=I1.hok.fresh (Qr _)
 have vw:(s1.heap.push { cls:=.type "dict_items",data:=.fields #[.ref a] }).IsItemsView s1.heap.objs.size a:=⟨_,Qn _ rfl,rfl,rfl⟩
 refine⟨.ref s1.heap.objs.size,_,I1.laid (t':=s1.toks) (o:=VT s1.heap.objs.size a) (fun b ob q=>Qi _ q) (Qr _) ⟨vw,⟨_,Qn _ rfl⟩,fun h1 h2 p k=>?_⟩,rfl,q _ hn⟩;obtain⟨o,ho,hc⟩:=p;exact⟨o,k o ho,hc⟩
noncomputable def U5(H:Hp):List Qd->List (Key×V)->Hp
 | a::as,kv::kvs=>upd (U5 H as kvs) a (.tup [kV kv.1,kv.2])
 | _,_=>H
theorem YX{H:Hp}{b:Qd}:∀{as:List Qd} {kvs:List (Key×V)},b∉as->U5 H as kvs b=H b
 | [],_,_=>rfl
 | _::_,[],_=>rfl
 | a::as,kv::kvs,h=>by rw[U5,Je fun z=>h (by rw[z];exact Qh)];exact YX fun m=>h (Qf _ m)
theorem WF{H:Hp}:∀{as:List Qd} {kvs:List (Key×V)} {j:Nat} {a:Qd} {kv:Key×V},as.Nodup->as[j]?=some a->kvs[j]?=some kv->U5 H as kvs a=some (.tup [kV kv.1,kv.2])
 | [],_,_,_,_,_,e,_=>by simp at e
 | _::_,[],_,_,_,_,_,e=>by simp at e
 | b::as,kv'::kvs,0,a,kv,_,e1,e2=>by simp at e1 e2;subst e1 e2;rw[U5,Jk]
 | b::as,kv'::kvs,j+1,a,kv,hn,e1,e2=>by
  rw[Q6] at hn;simp at e1 e2;have hne:a≠b:=fun z=>hn.1 (by rw[<- z];exact QJ e1)
  rw[U5,Je hne];exact WF hn.2 e1 e2
noncomputable def Jiy:List V->Hp->VK->Prop:=fun xs H Q=>∃(r a:Qd) (kvs:List (Key×V)),xs=[.ref r]/\H r=some (VT r a)/\Rd H a (.dK kvs) ∧
 ∀(L:Qd) (as:List Qd),H L=none->as.length=kvs.length->as.Nodup->L∉as->(∀b∈as,H b=none)->Q (.ref L) (upd (U5 H as kvs) L (.lst (as.map V.ref)))
theorem Jdn{X:Cx}(hc:X.calm=true):CallR X (.type "list") Jiy:=by
 intro pins s σ H xs us Q I r h;obtain⟨p,a,kvs,rfl,hv,hq,q⟩:=h;obtain⟨u,rfl,rx⟩:=U9 r;cases rx;obtain⟨vs,ep,rl,dd,_,hz⟩:=WA I hq;have hl:kvs.length=vs.length:=KV.length rl;have vw:s.heap.IsItemsView p a:=(show ObjOk X.prog X.w H s.heap p (VT p a) from I.hok p _ hv).1;have hh:X.A.handled=none:=I.ok.hd hc;refine PySem.W.kdx_call hh vw dd (by rw[<- hl];exact hz) fun h' tk acc c as hk hS hal hG hacc=>?_
 have hnd:as.Nodup:=hG.rise.imp fun {x y} h=>QB h
 have hLa:s.heap.objs.size∉as:=fun m=>absurd (hG.above _ m) (GO _)
 have fr:∀b∈as,H b=none:=fun b hb=>I.hok.fresh (GZ (hG.above b hb))
 have hne:H s.heap.objs.size=none:=I.hok.fresh (Qr _)
 have hsize:as.length<=Qt:=by rw[hal,<- hl];exact hz
 refine⟨.ref s.heap.objs.size,_,I.more (t':=tk) hk (fun b hb=>?_) (fun b o hb e=>?_),rfl,q s.heap.objs.size as hne (by rw[hal,hl]) hnd hLa fr⟩
 ·rw[Je (QB hb)];exact YX fun m=>absurd (hG.above b m) (LC.mpr (GZ hb))
 ·by_cases hL:b=s.heap.objs.size
  ·subst hL;rw[Jk] at e;cases e;refine⟨by rw[Qq];exact hsize,acc.toList,c,?_,?_⟩
   ·rw[hacc]
    have:∀l:List Qd,Vals (l.map V.ref) (l.map Value.ref):=fun l=>by
     induction l with
     | nil=>exact .nil
     | cons x l ih=>exact .cons rfl ih
    exact this as
   ·rw[hS]
  ·rw[Je hL] at e
   by_cases hm:b∈as
   ·obtain⟨j,hj⟩:=Ld.mp hm;obtain⟨key,k,x,e1,e2,e3⟩:=hG.pairs j b hj;have hjl:j<kvs.length:=by have:=(Qm.mp e1).1;omega
    have hkv:kvs[j]?=some kvs[j]:=QG hjl;obtain⟨u,hu,ru⟩:=rl.get hkv;rw[e1] at hu;cases hu;rw[WF hnd hj hkv] at e;cases e;exact⟨by show 2<=Qt;decide,[key,x],.cons (JhT e2) (.cons ru .nil),⟨_,e3,rfl,_,rfl⟩⟩
   ·rw[YX hm,I.hok.fresh hb] at e;cases e
end L2
namespace LE
open PySem L2 LR
noncomputable def Ja2(a:Ev):Ev:=fun E=>(a E).bind fun s=>s.dk.bind fun p=>some (.own (Jcp p.1 p.2))
section
variable{K:Qx}{C:Qd}{td:TE}{ed:Ev}
theorem JaA{H:Hp}{kvs:List (Key×V)}{as:List Qd}(h:∀b∈as,H b=none):Same H (U5 H as kvs):=fun b o e=>by rw[YX fun m=>by rw[h b m] at e;cases e];exact e
theorem Je3{H:Hp}:∀{as:List Qd} {kvs:List (Key×V)} {b:Qd} {o:HO},U5 H as kvs b=some o->H b=some o\/b∈as
 | [],_,_,_,e=>.inl e
 | _::_,[],_,_,e=>.inl e
 | a::as,kv::kvs,b,o,e=>by
  by_cases c:b=a
  ·exact .inr (by rw[c];exact Qh)
  ·rw[U5,Je c] at e;exact(Je3 e).imp id fun m=>Qf _ m
theorem RDL.items:∀{ks:List Int} {xs:List V} {ds:List D} {as:List Qd} {H:Hp},ks.length=ds.length->as.length=ks.length->(∀(j:Nat) (a:Qd) (k:Int) (x:V),as[j]?=some a->ks[j]?=some k->xs[j]?=some x->H a=some (.tup [.int k,x]))->RDL K C H xs ds->RDL K C H (as.map V.ref) (Jcp ks ds)
 | [],[],[],[],_,_,_,_,_=>.nil
 | [],_,_,a::as,_,_,h,_,_=>by simp at h
 | [],_,d::ds,_,_,h,_,_,_=>by simp at h
 | k::ks,_,[],_,_,h,_,_,_=>by simp at h
 | k::ks,_,_,[],_,_,h,_,_=>by simp at h
 | [],x::xs,[],[],_,_,_,_,h=>by have:=h.1;simp at this
 | k::ks,[],d::ds,a::as,_,_,_,_,h=>by have:=h.1;simp at this
 | k::ks,x::xs,d::ds,a::as,H,h1,h2,h3,h4=>by show RDL K C H (V.ref a::as.map V.ref) (.tup [.int k,d]::Jcp ks ds);refine .cons (.mkT (.of (h3 0 a k x rfl rfl rfl)) (.cons (.int k) (.cons h4.head .nil))) (RDL.items (by simpa using h1) (by simpa using h2) (fun j a k x e1 e2 e3=>h3 (j+1) a k x (by simpa using e1) (by simpa using e2) (by simpa using e3)) h4.tail)
theorem Jlk(ha:SE K C td ed):SE K C (tCB Jiy (Y0 (Ji3 td) Vl)) (Ja2 ed):=by
 intro B H0 H σ E r Q I e q;obtain⟨s,e1,e⟩:=bind_some e;obtain⟨p,e2,e⟩:=bind_some e;cases e;refine ha B H0 H σ E s _ I e1 fun x H1 H1' s1 r1=>?_
 obtain⟨l,xs,rfl,h,hk,rl⟩:=r1.dk s1.i e2;refine⟨l,_,rfl,h,fun w hw=>?_⟩;have st:Step H1' H1 H1' H1 (upd H1' w (VT w l)):=⟨.new hw,Same.refl _,fun _ _ e=>.inl e,s1.i.trans (.new hw)⟩
 have s2:=s1.trans st;refine⟨w,l,_,rfl,Jk,Rd.put h hw,fun L as hL hal hnd hLa hfr=>?_⟩;rw[Kk,Qq,rl.1,hk,Mg] at hal
 have fr0:∀b∈as,H1 b=none:=fun b hb=>Same.free s2.i (hfr b hb)
 have frH:∀b∈as,H b=none:=fun b hb=>Same.free s2.h (hfr b hb)
 have hL0:H1 L=none:=Same.free s2.i hL
 have z0:Same H1 (U5 H1 as ((p.1.map Sum.inl:List Key).zip xs)):=JaA fr0
 have zz:Same (upd H1' w (VT w l)) (U5 (upd H1' w (VT w l)) as ((p.1.map Sum.inl:List Key).zip xs)):=JaA hfr
 have hLl:U5 (upd H1' w (VT w l)) as ((p.1.map Sum.inl:List Key).zip xs) L=none:=by rw[YX hLa];exact hL
 have ii:Same (U5 H1 as ((p.1.map Sum.inl:List Key).zip xs)) (U5 (upd H1' w (VT w l)) as ((p.1.map Sum.inl:List Key).zip xs)):=fun b o e=>by
  by_cases hb:b∈as
  ·obtain⟨j,hj⟩:=Ld.mp hb
   have hjl:j<((p.1.map Sum.inl:List Key).zip xs).length:=by rw[Kk,Qq,rl.1,hk,Mg];have:=(Qm.mp hj).1;omega
   have hkv:=QG hjl;rw[WF hnd hj hkv] at e ⊢;exact e
  ·rw[YX hb] at e ⊢;exact s2.i b o e
 refine q _ (U5 H1 as ((p.1.map Sum.inl:List Key).zip xs)) _ ⟨(s2.h.trans zz).trans (.new hLl),s2.z.trans z0,fun b o e=>?_,ii.trans (.new hLl)⟩ ⟨L,as.map V.ref,rfl,Jk,by rw[YX hLa];exact hL0,Same.free s2.h hL,?_⟩
 ·rcases Je3 e with z|z
  ·exact s2.n b o z
  ·exact .inr (.inl (frH b z))
 ·refine RDL.items (xs:=xs) hk (by rw[hal,hk]) (fun j a k x j1 j2 j3=>?_) (rl.mono z0);exact WF hnd j1 (by rw[ZT,j2,j3])
end
end LE

namespace L2
open PySem PySem.Spec PyProof.Rows
noncomputable def wo:List Qd->QL->QL
 | [],h=>h
 | a::l,h=>(wo l h).update a fun _=>{ cls:=.none,data:=.freed }
theorem JgV(h:QL)(a:Qd):(h.update a fun _=>{ cls:=.none,data:=.freed }).get? a=none:=by
 cases q:(h.update a fun _=>({ cls:=.none,data:=.freed }:Obj)).get? a with
 | none=>rfl
 | some o =>
  obtain⟨e,f⟩:=Heap.get?_some_iff.mp q;obtain⟨os,l⟩:=h;simp only[Heap.update,Array.getElem?_modify,if_true] at e
  cases z:os[a]? with
  | none=>rw[z] at e;cases e
  | some u=>rw[z] at e;cases e;cases f
theorem JfL{h:QL}{b:Qd}:∀{l:List Qd},b∈l->(wo l h).get? b=none
 | [],hb=>nomatch hb
 | a::l,hb=>by
  unfold wo
  by_cases e:a=b
  ·subst e;exact JgV _ _
  ·rw[Q8 _ _ e];exact JfL ((Qk.mp hb).resolve_left (Q2 e))
theorem JbX{h:QL}{b:Qd}:∀{l:List Qd},b∉l->(wo l h).get? b=h.get? b
 | [],_=>rfl
 | a::l,hb=>by unfold wo;rw[Q8 _ _ (fun e=>hb (by rw[e];exact Qh))];exact JbX fun z=>hb (Qf _ z)
theorem JeL{h base base':QL}:∀{l:List Env},h.FunFrames base l->(∀b∈frs l,base'.get? b=none)->h.FunFrames base' l
 | [],_,_=>trivial
 | env::l,⟨hk,⟨L,o,hf,hn,ho,hd⟩,hr⟩,n=>by
  have e:frs (env::l)=L::frs l:=by unfold frs;rw[Ki,hf]
  rw[e] at n;exact⟨hk,⟨L,o,hf,n L Qh,ho,hd⟩,JeL hr fun b hb=>n b (Qf _ hb)⟩
theorem Jka{h base:QL}{l:List Env}(x:h.FunFrames base l){b:Qd}(hb:b∈frs l):base.get? b=none/\∃o,h.get? b=some o/\∀vs,o.data≠.fields vs:=x.mem hb
theorem ObjOk.there{P:Qw}{w:QF}{H:Hp}{h:QL}{a:Qd}{o:HO}(x:ObjOk P w H h a o):∃u,h.get? a=some u:=by
 cases o with
 | lst xs=>obtain⟨_,_,_,_,e⟩:=x;exact⟨_,e⟩
 | tup xs=>obtain⟨_,_,_,p⟩:=x;obtain⟨o,e,_⟩:=p;exact⟨_,e⟩
 | dK kvs=>obtain⟨_,_,_,_,o,_,_,e,_⟩:=x;exact⟨_,e⟩
 | dT kvs=>obtain⟨_,_,_,_,o,_,_,e,_⟩:=x;exact⟨_,e⟩
 | set S n=>obtain⟨o,_,_,_,e,_⟩:=x;exact⟨_,e⟩
 | ins C dx fs=>obtain⟨_,_,_,e,_⟩:=x;exact⟨_,e⟩
 | own y=>obtain⟨_,e⟩:=x;exact⟨_,e⟩
 | xd fs=>obtain⟨_,⟨_,_,_,e,_⟩,_⟩:=x;exact⟨_,e⟩
 | rng lo hi=>obtain⟨_,_,_,e⟩:=x;exact⟨_,e⟩
 | frz ob u=>obtain⟨e,_⟩:=x;exact⟨_,e⟩
 | tbl ps l c q =>
  rcases x with e|⟨_,_,_,e,_⟩
  ·exact⟨_,e⟩
  ·exact⟨_,e⟩
 | met f y=>exact⟨_,(show h.get? a=some _ from x)⟩
 | ext φ=>obtain⟨_,⟨_,e⟩,_⟩:=x;exact⟨_,e⟩

noncomputable def TrD(h base:QL)(e:Qd)(cls:Qc)(dct:Option Qd)(fl:Qc):Prop :=
 ∃oe vs T oT ts,h.get? e=some oe/\(oe.cls=cls/\oe.dict=dct)/\oe.data=.fields vs/\vs[1]?=some (.ref T)/\base.get? T=none/\T≠e/\h.get? T=some oT/\oT.data=.fields ts/\ts[3]?=some fl
noncomputable def Fl(base:QL)(l:List Env)(e:Qd)(cls:Qc)(h:QL):Prop :=
 base.StaysIn h/\base.get? e=none/\h.FunFrames base l/\(TrD h base e (LE.Jf3 cls) (LE.Jhk cls) .none\/∃oe vs,h.get? e=some oe/\(oe.cls=LE.Jf3 cls/\oe.dict=LE.Jhk cls)/\oe.data=.fields vs/\vs[1]?=some .none)
noncomputable def Cov(fs:List Qd)(H':Hp)(h h' base:QL):Prop:=∀b o,(H' b≠none\/∃u,h.get? b=some u)->b∉fs->h'.get? b=some o->base.get? b=some o
structure XF (P:Qw) (w:QF) (l:List Env) (H:Hp) (h:QL) (a:Qd) (cls:Qc) (H':Hp) (base h':QL):Prop where
 un:Un (frs l) [] H H' h h'
 hok:HOk P w H' h'
 fl:Fl base l a cls h'
 cov:Cov (frs l) H' h h' base
 free:H' a=none
 new:h.get? a=none
noncomputable def CX1(P:Qw)(w:QF):CXT:=fun l H s E e s'=>∃(a:Qd) (cls:Qc) (H':Hp) (base:QL),e=.ref a/\s'.os=s.os/\AllBare s'.gens/\XF P w l H s.heap a cls H' base s'.heap/\E cls (some a) H'
section
variable{P:Qw}{w:QF}{l:List Env}{H H':Hp}{h h1 h2 base base0:QL}{a:Qd}{cls:Qc}
end
section
variable{M:Model}{A:QC}{E:Qc->Qe->Prop}{s:Qe}{base:QL}{env:Env}{outer l:List Env}{L e:Qd}{cls fl:Qc}{dct:Option Qd}{Q:Unit->Qe->Prop}
end

noncomputable def XP(X:Cx)(pins:List (Qd×Obj))(σ:St)(E:XK)(e:Qc)(s':Qe):Prop:=∃H s,Inv X pins σ H s/\CX1 X.prog X.w X.stack H s E e s'
section
variable{X:Cx}{pins:List (Qd×Obj)}{σ:St}{H H':Hp}{s s':Qe}{base:QL}{a:Qd}{cls:Qc}{E:XK}{e:Qc}
theorem XP.made{args:List Qc}{h':QL}{ea:Qd}(I:Inv X pins σ H s)(m:Heap.MadeExcOf s.heap h' ea cls args)(q:E cls (some ea) H)(k1:LE.Jf3 cls=cls)(k2:LE.Jhk cls=none):XP X pins σ E (.ref ea) { s with heap:=h' }:=by
 have nf:∀b∈frs X.stack,∃o,s.heap.get? b=some o:=fun b hb=>by obtain⟨_,o,ho,_⟩:=Jka I.stack hb;exact⟨o,ho⟩
 obtain⟨t,ht,_,_⟩:=m.there;refine⟨H,s,I,ea,cls,H,wo (frs X.stack) s.heap,rfl,rfl,I.bare,⟨⟨fun b o q _ _ _=>m.keeps b o q,fun b o q _ _ _=>⟨o.slots,m.keeps b o q⟩,fun _ _ _ n _=>n,fun b o q _=>⟨o,m.keeps b o q⟩,fun _ _ z=>z,fun _ _ _ z=>z,fun _ _ _ _ _ z=>z⟩,I.hok.kept m.keeps,⟨fun b o q=>?_,?_,?_,.inr ⟨_,_,ht,⟨k1.symm,k2.symm⟩,rfl,rfl⟩⟩,fun b o hb hfr q=>?_,?_,m.new⟩,q⟩
 ·by_cases hb:b∈frs X.stack
  ·rw[JfL hb] at q;cases q
  ·rw[JbX hb] at q;exact m.keeps b o q
 ·by_cases hb:ea∈frs X.stack
  ·exact JfL hb
  ·rw[JbX hb];exact m.new
 ·exact(JeL I.stack fun b hb=>JfL hb).of_keeps fun b o q _=>⟨o,m.keeps b o q,rfl⟩
 ·rw[JbX hfr]
  have ex:∃u,s.heap.get? b=some u:=by
   rcases hb with hb|hb
   ·cases e:H b with
    | none=>exact absurd e hb
    | some u=>exact(I.hok b u e).there
   ·exact hb
  obtain⟨u,hu⟩:=ex;have:=m.keeps b u hu;have q':h'.get? b=some o:=q;rw[q'] at this;cases this;exact hu
 ·cases e:H ea with
  | none=>rfl
  | some u=>obtain⟨o,ho⟩:=(I.hok ea u e).there;rw[m.new] at ho;cases ho
end
end L2

namespace L2
open PySem PySem.Spec PyProof.Rows PySem.Calls
abbrev VEm:List Qc:=[.type "ValueError",.type "Exception",.type "BaseException",.type "object"]
section
variable{P:Qw}{w:QF}{K:Qx}{mg:Str->Option Qc}{base:QL}{N:List Str}{qual:Str}{scope:Lu}{f:Qd}{cd:Qc}{A:QC}{outer:List Env}{s:Qe}{H:Hp}{E:XK}
end
section
variable{X:Cx}{x:Str}{np cpos pos:Pos}{C:Qd}{E:XK}{e:Q7}{es:List Q7}{t:TA}
end
end L2

namespace L2
open PySem PySem.Spec PyProof.Rows PySem.Calls
structure CalX (P:Qw) (w:QF) (K:Qx) (mg:Str->Option Qc) (base:QL) (x:Str) (k:Nat) (ps:List Str) (sp:Sp):Prop where
 ex:∃(f:Qd) (fd:QR),FnOk P w K mg base (CX1 P w) k f fd ps sp/\mg x=some (.ref f)/\keepIn K (.ref f)=true/\Binds K fd ps []
section
variable{X:Cx}{k:Nat}{C:Qd}{ps:List Str}{sp:Sp}{x:Str}{p pos:Pos}{e:Q7}{es:List Q7}{t:TA}{st:Kj}{rest:List Kj}{T:XK->TE}{TS1:(St->XK)->TS}{u:TS}
end
end L2
namespace L2
open PySem PySem.Spec PyProof.Rows PySem.Calls LE
section
variable{X:Cx}{pins:List (Qd×Obj)}{σ:St}{H:Hp}{s:Qe}{a:Qd}
theorem Inv.track{o:HO}(I:Inv X pins σ H s)(hx:X.ex=[])(ha:H a=none)(h0:X.s₀.heap.get? a=none)(hL:a≠X.env.locals)(hC:∀x c,X.env.cells.lookup x=some c->c≠a)(hP:∀p∈X.pn++pins,p.1≠a)(new:ObjOk X.prog X.w (upd H a o) s.heap a o):Inv X pins σ (upd H a o) s:=by
 have nt:∀b u,H b=some u->b≠a:=fun b u e z=>by rw[z,ha] at e;cases e
 refine⟨I.ok,I.os,I.bare,⟨I.base.keep,I.base.slot,fun b u e n hb=>?_,I.base.there,fun b xs e=>?_,fun b u xs e=>?_,fun b ps l c z e=>?_⟩,I.loc,I.cell,?_,fun x c e=>?_,fun p hp=>?_,fun b u e=>?_,I.len⟩
 ·rw[Je (fun z=>by rw[z,h0] at e;cases e)];exact I.base.free b u e n hb
 ·have:=I.base.tups b xs e;rw[Je (nt _ _ this)];exact this
 ·have:=I.base.frzs b u xs e;rw[Je (nt _ _ this)];exact this
 ·have:=I.base.tbls b ps l c z e;rw[Je (nt _ _ this)];exact this
 ·rw[Je (Q2 hL)];exact I.free
 ·rw[Je (hC x c e)];exact I.freeC x c e
 ·obtain⟨h1,h2,h3⟩:=I.pin p hp;exact⟨h1,by rw[Je (hP p hp)];exact h2,h3⟩
 ·by_cases hb:b=a
  ·subst hb;rw[Jk] at e;cases e;exact new
  ·rw[Je hb] at e;exact(I.hok b u e).stay (fun _ _ _ q=>q) (fun c q=>by rw[Je (nt _ _ q)];exact q) fun c xs q=>by rw[Je (nt _ _ q)];exact q
end
section
variable{X:Cx}{body suite:List Kj}{b₀:Kj}{i:Nat}{n cn:Str}{np hpos pos:Pos}{CL:Qd}{T:(St->XK)->TS}{th:TS}
end
end L2

namespace L2
open PySem PySem.Spec PyProof.Rows PySem.Calls LE
structure ExcN (K:Qx) (n:Str):Prop where
 pl:∀c,nsIn K mainGlobals n=some (some (.ref c))->findIn K (.ref c) "__getattribute__"=some (some (.builtin "BaseException.__getattribute__"))/\findIn K (.ref c) "__getattr__"=some none/\mroIn K c (.type "BaseException")=some true/\hasDictIn K c=true/\findIn K (.ref c) "__class__"=some (some (.builtin "object.__class__"))/\mroIn K c (.type "object")=some true
structure ExcG (K:Qx):Prop where
 hn:specialIn K (.builtin "object.__class__") "__get__"=some (some (.builtin "getset_descriptor.__get__"))
 htk:takesIn K (.builtin "object.__class__")=some true
section
variable{prog:Qw}{w:QF}{A:QC}{E:Qc->Qe->Prop}{s:Qe}{K:Qx}{x C D:Qd}{ox:Obj}
end
section
variable{K:Qx}{x D:Qd}{ox:Obj}{od:Option Obj}
end
section
variable{X:Cx}
inductive TyX (K:Qx) (H:Hp):V->Qc->Prop where
 | of {x:V} {t:Qc} (h:TyS K H x t):TyX K H x t
 | exc {a c:Qd} {v:Qc} {n:Str} (h:H a=some (XO a v)) (hv:Jf3 v=.ref c) (hd:XdO v H) (e:nsIn K mainGlobals n=some (some (.ref c))) (N:ExcN K n) (G:ExcG K):TyX K H (.ref a) (.ref c)
end
end L2

namespace LE
open PySem L2 LR
noncomputable abbrev Xv:=En->Option Xm
section
variable(K:Qx)(C:Qd)
end
section
variable{K:Qx}{C:Qd}{W:XK}{t:TA}{ev:En->Option (List Sl)}{te:TE}{ts us:TS}{et eu:Es}{xt xu:Xv}{ex:Xv}
end
section
variable{K:Qx}{C:Qd}{B H0 H:Hp}{σ:St}{E:En}
end
section
variable{K:Qx}{C:Qd}
end
noncomputable def exB(n m:Str):Bool:=n == m || m == "LumpError"
section
variable{K:Qx}{C:Qd}{te:TE}{ea:Ev}
structure IsiN (K:Qx) (R:List Str) (m:Str) (c:Qd):Prop where
 own:∀n∈R,ExcN K n
 g:ExcG K
 k:∀n∈R,∀c',nsIn K mainGlobals n=some (some (.ref c'))->kitOne K (.ref c') (.ref c)=some (exB n m)
 o:kitOne K (.type "NoneType") (.ref c)=some false
end
end LE
namespace L2
open PySem PySem.Spec PyProof.Rows PySem.Calls LE
section
variable{X:Cx}
end
end L2
namespace LE
open PySem L2 LR
noncomputable def IsiL(K:Qx)(R:List Str):List Str->List Qd->Prop
 | [],[]=>True
 | m::ms,c::cs=>IsiN K R m c/\IsiL K R ms cs
 | _,_=>False
theorem IsiL.exc{K:Qx}{R:List Str}{n:Str}{c':Qd}(hn:n∈R)(hc:nsIn K mainGlobals n=some (some (.ref c'))):∀{ms:List Str} {cs:List Qd},IsiL K R ms cs->kitAny K (.ref c') (cs.map Value.ref)=some (ms.any (exB n))
 | [],[],_=>rfl
 | m::ms,c::cs,⟨h,t⟩=>by show(match kitOne K (.ref c') (.ref c) with|some true=>some true|some false=>kitAny K (.ref c') (cs.map Value.ref)|none=>none)=_;rw[h.k n hn c' hc,t.exc hn hc,GP];cases exB n m <;> rfl
theorem IsiL.non{K:Qx}{R:List Str}:∀{ms:List Str} {cs:List Qd},IsiL K R ms cs->kitAny K (.type "NoneType") (cs.map Value.ref)=some false
 | [],[],_=>rfl
 | m::ms,c::cs,⟨h,t⟩=>by show(match kitOne K (.type "NoneType") (.ref c) with | some true=>some true | some false=>kitAny K (.type "NoneType") (cs.map Value.ref) | none=>none)=_;rw[h.o,t.non]
section
variable{K:Qx}{C:Qd}{te:TE}{ea:Ev}
structure IsiV (K:Qx) (R:List Str):Prop where
 own:∀n∈R,ExcN K n
 g:ExcG K
 k:∀n∈R,∀c',nsIn K mainGlobals n=some (some (.ref c'))->kitOne K (.ref c') (.type "ValueError")=some true
end
end LE

namespace L2
open PySem PySem.Spec PyProof.Rows PySem.Calls LE
section
variable{X:Cx}{K:Qx}
end
end L2
namespace LE
open PySem L2 LR
section
variable{K:Qx}{C:Qd}{ts:TS}
structure AtY (K:Qx) (n:Str) (c:Qd):Prop where
 ns:nsIn K mainGlobals n=some (some (.ref c))
 ga:findIn K (.ref c) "__getattribute__"=some (some (.builtin "BaseException.__getattribute__"))
 gn:findIn K (.ref c) "__getattr__"=some none
 mb:mroIn K c (.type "BaseException")=some true
 hd:hasDictIn K c=true
 fi:findIn K (.ref c) "__class__"=some (some (.builtin "object.__class__"))
 mr:mroIn K c (.type "object")=some true
structure AtX (K:Qx) (n:Str) (c:Qd):Prop extends AtY K n c where
 ok:PySem.W.excIn K c VEm "ValueError.__new__"=true
theorem AtY.n{n:Str}{c:Qd}(h:AtY K n c):ExcN K n:=⟨fun c' e=>by have:=h.ns.symm.trans e;cases this;exact⟨h.ga,h.gn,h.mb,h.hd,h.fi,h.mr⟩⟩
noncomputable def OwnL(K:Qx):List Str->List Qd->Prop
 | [],[]=>True
 | n::ns,c::cs=>AtY K n c/\OwnL K ns cs
 | _,_=>False
theorem OwnL.all:∀{ns:List Str} {cs:List Qd},OwnL K ns cs->∀n∈ns,ExcN K n
 | [],[],_,n,h=>nomatch h
 | m::ns,c::cs,⟨h,t⟩,n,hn=>by
  rcases Qk.mp hn with e|e
  ·rw[e];exact h.n
  ·exact t.all n e
noncomputable def ExmL(K:Qx)(CL:Qd):List Qd->Prop
 | []=>True
 | c::cs=>PySem.W.exmOne K (.ref c) (.ref CL)=some true/\ExmL K CL cs
theorem ExmL.all{CL:Qd}:∀{ns:List Str} {cs:List Qd},OwnL K ns cs->ExmL K CL cs->∀m∈ns,∀c,nsIn K mainGlobals m=some (some (.ref c))->PySem.W.exmOne K (.ref c) (.ref CL)=some true
 | [],[],_,_,n,h=>nomatch h
 | m::ns,c::cs,⟨h,t⟩,⟨h',t'⟩,n,hn=>fun c' e=>by
  rcases Qk.mp hn with z|z
  ·rw[z,h.ns] at e;cases e;exact h'
  ·exact t'.all t n z c' e
noncomputable def KitL(K:Qx)(m:Str)(c:Qd):List Str->List Qd->Prop
 | [],[]=>True
 | n::ns,d::ds=>kitOne K (.ref d) (.ref c)=some (exB n m)/\KitL K m c ns ds
 | _,_=>False
theorem KitL.all{m:Str}{c:Qd}:∀{ns:List Str} {cs:List Qd},OwnL K ns cs->KitL K m c ns cs->∀n∈ns,∀c',nsIn K mainGlobals n=some (some (.ref c'))->kitOne K (.ref c') (.ref c)=some (exB n m)
 | [],[],_,_,n,h=>nomatch h
 | m::ns,c::cs,⟨h,t⟩,⟨h',t'⟩,n,hn=>fun c' e=>by
  rcases Qk.mp hn with z|z
  ·rw[z] at e ⊢;rw[h.ns] at e;cases e;exact h'
  ·exact t'.all t n z c' e
noncomputable def KivL(K:Qx):List Qd->Prop
 | []=>True
 | c::cs=>kitOne K (.ref c) (.type "ValueError")=some true/\KivL K cs
theorem KivL.all:∀{ns:List Str} {cs:List Qd},OwnL K ns cs->KivL K cs->∀n∈ns,∀c',nsIn K mainGlobals n=some (some (.ref c'))->kitOne K (.ref c') (.type "ValueError")=some true
 | [],[],_,_,n,h=>nomatch h
 | m::ns,c::cs,⟨h,t⟩,⟨h',t'⟩,n,hn=>fun c' e=>by
  rcases Qk.mp hn with z|z
  ·rw[z,h.ns] at e;cases e;exact h'
  ·exact t'.all t n z c' e
end
section
variable(K:Qx)(C:Qd)
end
section
variable{K:Qx}{C:Qd}{W:XK}{ta te:TE}{t tr:TA}{ea:Ev}{xa xr ex:Xv}{wi:TI}
end
end LE

namespace LE
open PySem L2 LR
section
variable{K:Qx}{C:Qd}{W:XK}{t:TS}{et:Es}{xt:Xv}
end
end LE
namespace L2
open PySem PySem.Spec PyProof.Rows PySem.Calls LE
structure RoomH (k:Nat) (A:QC):Prop where
 dp:A.depth+3*k+5<recursionLimit
 un:A.units+16*k+200<cLine
theorem Room.h{k:Nat}{A:QC}(r:Room k A):RoomH k A:=⟨r.dp,r.un⟩
theorem RoomH.mono{j k:Nat}{A:QC}(r:RoomH k A)(h:j<=k):RoomH j A:=⟨by have:=r.dp;omega,by have:=r.un;omega⟩
theorem RoomH.deeper{k:Nat}{A:QC}(r:RoomH (k+1) A)(env:Env):RoomH k (A.deeper env) :=
 ⟨by have:=r.dp;show A.depth+1+3*k+5<_;omega,by have:=r.un;show A.units+3+16*k+200<_;omega⟩
theorem RoomH.units{k:Nat}{A:QC}(r:RoomH k A):A.units+64<cLine:=by have:=r.un;omega
noncomputable abbrev cxH(P:Qw)(w:QF)(K:Qx)(mg:Str->Option Qc)(base:QL)(N:List Str)(qual:Str)(scope:Lu)(f:Qd)(cd:Qc)(A:QC)(outer:List Env)(s:Qe)(H:Hp)(E:XK):Cx :=
 { VX CX0 P w K mg base N qual scope f cd A outer s H E with calm:=false,xe:=fun _ _=>False }
structure FnH (P:Qw) (w:QF) (K:Qx) (mg:Str->Option Qc) (base:QL) (k:Nat) (f:Qd) (fd:QR) (ps:List Str) (sp:Sp):Prop where
 len:∀vs H Q E,sp vs H Q E->vs.length=ps.length
 run:∀(A:QC) (outer:List Env) (s:Qe) (H:Hp) (args:Args) (us:List Qc) (vs:List V) (Q:VK) (E:XK),RoomH k A->Env0 P w K mg base A outer s H->BindsTo s fd args (ps.zip us)->Vals vs us->sp vs H Q E ->
  codeAny (model P w) A (.call (.ref f) args) (CR CX0 outer P w H s Q E) s
theorem JmR{P:Qw}{w:QF}{K:Qx}{mg:Str->Option Qc}{base:QL}{k:Nat}{f:Qd}{name qual:Str}{params:Mn}{body:List Kj}{scope:Lu}{dV kV doc pm cdv ct oc:Qc}{an od:Option Qd}
 {osl:Array (Option Qc)} {N ps:List Str} {sp:Sp} (lk:K.lookup f=some ⟨oc,od,.func (fnOf name qual params body scope dV kV doc pm an cdv ct),osl⟩) (hcd:codeIn K cdv qual=true) (S:FnScope N ps scope)
 (len:∀vs H Q E,sp vs H Q E->vs.length=ps.length)
 (hbody:∀(A:QC) (outer:List Env) (s:Qe) (H:Hp) (vs:List V) (Q:VK) (E:XK),RoomH k (A.deeper (envOfC qual scope s.heap.objs.size f cdv))->sp vs H Q E ->
  ∃t,PSs (cxH P w K mg base N qual scope f cdv A outer s H E) body t/\t { nx:=fun _ H'=>Q .non H',rt:=Q } (Yq N vs) H) :
 FnH P w K mg base (k+1) f (fnOf name qual params body scope dV kV doc pm an cdv ct) ps sp:=by
 refine⟨len,fun A outer s H args us vs Q E hr e0 hb r hsp=>?_⟩;have hl:=len _ _ _ _ hsp;have KX:K.In s.heap:=e0.mod.kin.keeps fun b o e=>(e0.bs b o e).1
 have lim:s.heap.NoLimit:=e0.mod.nolimit.keeps fun b o e=>(e0.bs b o e).1
 have hkind:∀y∈ps.zip us,scope.names.lookup y.1=some .local\/(scope.names.lookup y.1=some .cell/\((cellsFrom (s.heap.objs.size+1) scope.names []).lookup y.1).isSome=true):=fun⟨n,v⟩ hy=>by
  rcases S.par n (Ku hy).1 with q|q
  ·exact .inl q
  ·exact .inr ⟨q,cellsFrom_some _ _ _ (.inl q)⟩
 have dep:A.depth<recursionLimit:=by have:=hr.dp;omega
 refine codeAny_call_function dep (KX _ _ lk) rfl S.co S.gen rfl (RV KX hcd) (hb _ _ _ _ ?_);refine Lj S.kind hkind fun env he s1 x=>?_
 subst he;refine⟨lim.keeps x.toInCall.keep,codeAny_func ?_⟩;obtain⟨t,ht,hq⟩:=hbody A outer s H vs Q E (hr.deeper _) hsp;have e1:Env0 P w K mg base { A with handled:=none } outer s H:=⟨e0.frames,e0.mod,e0.bs,e0.bsz,e0.funs,e0.frf,e0.hok,e0.bare⟩
 have I0:Inv (VX CX0 P w K mg base N qual scope f cdv { A with handled:=none } outer s H E) [] (Yq N vs) H s1:=V5 S rfl e1 hl r x
 have I:Inv (cxH P w K mg base N qual scope f cdv A outer s H E) [] (Yq N vs) H s1 :=
  ⟨⟨I0.ok.mod,I0.ok.kind,I0.ok.glob,I0.ok.blt,I0.ok.above,I0.ok.inj,I0.ok.has,I0.ok.cab,(fun h=>nomatch h),RA e0.frames,I0.ok.stk,I0.ok.exf,I0.ok.bs,I0.ok.bsz,I0.ok.noex,I0.ok.exfs,I0.ok.funs,I0.ok.frf⟩,I0.os,I0.bare,I0.base,I0.loc,I0.cell,I0.free,I0.freeC,I0.pin,I0.hok,I0.len⟩
 refine Ka (ht [] s1 (Yq N vs) H _ I hq) (fun fl s' hs=>?_) fun e s' hs=>Gw hs
 have fin:∀{σ':St} {H':Hp} {v:V} {u:Qc},Inv (cxH P w K mg base N qual scope f cdv A outer s H E) [] σ' H' s'->RelV v u->Q v H'->CE outer P w H s Q u s' :=
  fun {σ' H' v u} J rv q=>⟨v,H',J.os,J.bare,J.base,J.hok,rv,q⟩
 cases fl with
 | ret u=>obtain⟨v,σ',H',J,rv,q⟩:=hs;exact fin J rv q
 | next=>obtain⟨σ',H',J,q⟩:=hs;exact fin (v:=V.non) (u:=Value.none) J rfl q
 | brk=>obtain⟨_,_,_,q⟩:=hs;exact Gw q
 | cont=>obtain⟨_,_,_,q⟩:=hs;exact Gw q
theorem Fun.okH{P:Qw}{w:QF}{K:Qx}{mg:Str->Option Qc}{base:QL}{x qual:Str}{st:Kj}{f:Qd}{fd:QR}{N ps:List Str}{k:Nat}{sp:Sp}(F:Fun K x qual st f fd)(S:FnScope N ps (Jg st))(len:∀vs H Q E,sp vs H Q E->vs.length=ps.length)
 (hbody:∀(cdv:Qc) (A:QC) (outer:List Env) (s:Qe) (H:Hp) (vs:List V) (Q:VK) (E:XK),RoomH k (A.deeper (envOfC qual (Jg st) s.heap.objs.size f cdv))->sp vs H Q E ->
  ∃t,PSs (cxH P w K mg base N qual (Jg st) f cdv A outer s H E) (Yr st) t/\t { nx:=fun _ H'=>Q .non H',rt:=Q } (Yq N vs) H):FnH P w K mg base (k+1) f fd ps sp:=by
 obtain⟨oc,od,kV,doc,pm,an,cdv,ct,osl,rfl,lk,hcd⟩:=F.ex;exact JmR lk hcd S len fun A outer s H vs Q E hr hsp=>hbody cdv A outer s H vs Q E hr hsp
theorem FnH.ok{P:Qw}{w:QF}{K:Qx}{mg:Str->Option Qc}{base:QL}{k:Nat}{f:Qd}{fd:QR}{ps:List Str}{sp:Sp}(F:FnH P w K mg base k f fd ps sp):FnOk P w K mg base CX0 k f fd ps sp :=
 ⟨F.len,fun A outer s H args us vs Q E hr=>F.run A outer s H args us vs Q E hr.h⟩
structure CalH (P:Qw) (w:QF) (K:Qx) (mg:Str->Option Qc) (base:QL) (x:Str) (k:Nat) (ps:List Str) (sp:Sp):Prop where
 ex:∃(f:Qd) (fd:QR),FnH P w K mg base k f fd ps sp/\mg x=some (.ref f)/\keepIn K (.ref f)=true/\Binds K fd ps []
section
variable{X:Cx}{k:Nat}{ps:List Str}{sp:Sp}{x:Str}{p pos:Pos}{e:Q7}{es:List Q7}{t:TA}
end
end L2

namespace L2
open PySem PySem.Spec PyProof.Rows PySem.Calls LE
structure CalMX (P:Qw) (w:QF) (K:Qx) (mg:Str->Option Qc) (base:QL) (x:Str) (C:Qd) (k:Nat) (ps:List Str) (sp:Sp):Prop where
 ex:∃(f:Qd) (fd:QR),Mk K C f/\FnOk P w K mg base (CX1 P w) k f fd ps sp/\mg x=some (.ref C)/\Binds K fd ps []
section
variable{X:Cx}{k:Nat}{C:Qd}{ps:List Str}{sp:Sp}{x:Str}{p pos:Pos}{e:Q7}{es:List Q7}{t:TA}
end
end L2
namespace LE
open PySem L2 LR
section
variable(K:Qx)(C:Qd)
end
section
variable{K:Qx}{C:Qd}{W:XK}{t:TA}{ev:En->Option (List Sl)}{H0 H H2:Hp}
noncomputable def Jg7(ss:List Sl):Bool:=ss.all fun s=>!JO s
theorem RRL.more{vs:List V}{ss:List Sl}(st:Same H H2):Jg7 ss=true->RRL K C H H0 H vs ss->RRL K C H2 H0 H2 vs ss:=fun ho r=>by
 revert ho
 induction r with
 | nil=>exact fun _=>.nil
 | @cons v s vs ss h _ ih =>
  intro ho
  have hs:JO s=false/\Jg7 ss=true:=by unfold Jg7 at ho ⊢;rw[List.all_cons,QX] at ho;exact⟨by simpa using ho.1,ho.2⟩
  refine .cons ?_ (ih hs.2)
  cases s with
  | no=>exact h
  | sh d=>exact h
  | bo ds=>obtain⟨l,xs,e,g,q⟩:=h;exact⟨l,xs,e,st _ _ g,q⟩
  | bd ks ds=>obtain⟨l,xs,e,g,q⟩:=h;exact⟨l,xs,e,st _ _ g,q⟩
  | bt ks ds=>obtain⟨l,xs,e,g,q⟩:=h;exact⟨l,xs,e,st _ _ g,q⟩
  | own ds=>exact absurd hs.1 (by simp[JO])
  | od ks ds=>exact absurd hs.1 (by simp[JO])
  | ot ks ds=>exact absurd hs.1 (by simp[JO])
end
end LE

namespace L2
open PySem PySem.Spec PyProof.Rows PySem.Calls
section
variable{X:Cx}
end
end L2
namespace LE
open PySem L2 LR
noncomputable def lst?:Sl->Option (List D)
 | .bo ds=>some ds
 | .own ds=>some ds
 | .sh (.lst ds)=>some ds
 | _=>none
section
variable{K:Qx}{C:Qd}{to te:TE}{eo ea:Ev}{Hs H0 H:Hp}{v:V}
theorem RR.lst{s:Sl}{ds:List D}(i:Same H0 H)(r:RR K C Hs H0 H v s)(e:lst? s=some ds):∃l xs,v=.ref l/\H l=some (.lst xs)/\RDL K C H0 xs ds:=by
 cases s with
 | bo es=>cases e;exact r
 | own es=>cases e;obtain⟨l,xs,e,h,_,_,q⟩:=r;exact⟨l,xs,e,h,q⟩
 | sh d =>
  cases d with
  | lst es=>cases e;obtain⟨l,xs,e,h,q⟩:=RD.lstI r;exact⟨l,xs,e,i _ _ h,q⟩
  | _=>cases e
 | _=>cases e
end
end LE

namespace LE
open PySem L2 LR
noncomputable def JaP(i:Nat):Es:=fun E=>match E[i]? with
 | some (.own ds)=>some (.nx (E.set i (.own ds.reverse)))
 | _=>none
section
variable{K:Qx}{C:Qd}
theorem RDL.rev{H:Hp}{xs:List V}{ds:List D}(r:RDL K C H xs ds):RDL K C H xs.reverse ds.reverse:=by
 have key:∀{xs:List V} {ds:List D},RDL K C H xs ds->RDL K C H xs.reverse ds.reverse:=by
  intro xs
  induction xs with
  | nil =>
   intro ds r
   cases ds with
   | nil=>exact .nil
   | cons d ds=>have:=r.1;simp at this
  | cons x xs ih =>
   intro ds r
   cases ds with
   | nil=>have:=r.1;simp at this
   | cons d ds=>rw[KJ,KJ];exact(ih r.tail).snoc r.head
 exact key r
theorem JoU{i:Nat}:SS K C (Wr (JlE K "list" JcV (Y2 i))) (JaP i):=by
 intro B H0 H σ E o D I e f;unfold JaP at e;split at e
 ·next ds h=>cases e;obtain⟨l,xs,g1,g2,g3,g4,g5⟩:=I.slot h;have m:=I.mut (xs:=xs) h g1 (RDL.rev g5);exact⟨_,g1,.inl ⟨rfl,_,.of g2⟩,l,xs,rfl,rfl,g2,f _ _ _ ⟨m.b,Same.refl _,fun _ _ e=>.inl e,m.h⟩ m⟩
 ·cases e
end
end LE

namespace PySem
abbrev Jmu(h:QL)(z TI TO a:Qd)(f:Bool):Prop :=
 h.get? z=some { cls:=.type "zip",dict:=none,data:=.fields #[rawInt a,.bool f,.bool false,.ref TI,.ref TO],slots:=#[] }
section
variable{prog:Qw}{w:QF}{A:QC}{E:Qc->Qe->Prop}{s:Qe}{z TI TO i1 i2 a:Qd}{f:Bool}{oa:Obj}{p1 p2:List Qd}{n1 n2 k:Nat}{P1 P2:Nat->Qc->Prop}{S1 S2:Nat->QL->Prop}
end
end PySem

namespace PySem
section
variable{prog:Qw}{w:QF}{A:QC}{E:Qc->Qe->Prop}{s:Qe}{b1 b2:Bool}{a1 a2 z TI TO i1 i2 S:Qd}{xs ys:Array Qc}{i:Nat}
def LzSt(b1 b2:Bool)(a1 a2 z TI TO i1 i2 S:Qd)(xs ys:Array Qc)(i:Nat)(h:QL):Prop :=
 IsPair h TI (.ref i1) (.ref i2)/\(IsItr b1 h i1 a1 i/\IsSq b1 h a1 xs)/\(IsItr b2 h i2 a2 i/\IsSq b2 h a2 ys) ∧
 ((IsZip h z TI TO .none/\∃u v,IsPair h TO u v)\/∃a f oa,Jmu h z TI TO a f/\h.get? a=some oa/\a≠S/\a≠z/\a≠i1/\a≠i2)
theorem IsSq.keep{b:Bool}{h h':QL}{a:Qd}{xs:Array Qc}(q:IsSq b h a xs)(k:∀o,h.get? a=some o->h'.get? a=some o):IsSq b h' a xs:=by
 cases b with
 | true=>obtain⟨o,e,r⟩:=q;exact⟨o,k o e,r⟩
 | false=>obtain⟨o,e,r⟩:=q;exact⟨o,k o e,r⟩
theorem IsItr.keep'{b:Bool}{h h':QL}{j a:Qd}{i:Nat}(q:IsItr b h j a i)(k:∀o,h.get? j=some o->h'.get? j=some o):IsItr b h' j a i:=by
 cases b with
 | true=>obtain⟨o,e,r⟩:=q;exact⟨o,k o e,r⟩
 | false=>obtain⟨o,e,r⟩:=q;exact⟨o,k o e,r⟩
theorem LzSt.keep{h h':QL}(x:LzSt b1 b2 a1 a2 z TI TO i1 i2 S xs ys i h)(k:∀b o,b≠S->h.get? b=some o->h'.get? b=some o)(n:S∉[z,TI,TO,i1,i2,a1,a2]):LzSt b1 b2 a1 a2 z TI TO i1 i2 S xs ys i h':=by
 simp only[Qk,Q9,or_false,not_or] at n;obtain⟨n1,n2,n3,n4,n5,n6,n7⟩:=n;obtain⟨x1,x2,x3,x4⟩:=x;refine⟨k _ _ (Q2 n2) x1,⟨IsItr.keep' x2.1 fun o e=>k _ o (Q2 n4) e,IsSq.keep x2.2 fun o e=>k _ o (Q2 n6) e⟩,⟨IsItr.keep' x3.1 fun o e=>k _ o (Q2 n5) e,IsSq.keep x3.2 fun o e=>k _ o (Q2 n7) e⟩,?_⟩;rcases x4 with ⟨y1,u,v,y2⟩|⟨a,f,oa,y1,y2,y3⟩
 ·exact .inl ⟨k _ _ (Q2 n1) y1,u,v,k _ _ (Q2 n3) y2⟩
 ·exact .inr ⟨a,f,oa,k _ _ (Q2 n1) y1,k _ _ y3.1 y2,y3⟩
end
structure LzG (xs ys:Array Qc) (lo:Qd) (h:QL) (as:List Qd):Prop where
 rise:as.Pairwise (·<·)
 above:∀a∈as,lo<a
 pairs:∀(j:Nat) (a:Qd),as[j]?=some a->∃u v,xs[j]?=some u/\ys[j]?=some v/\IsPair h a u v
theorem LzG.there{xs ys:Array Qc}{lo:Qd}{h:QL}{as:List Qd}(g:LzG xs ys lo h as){a:Qd}(ha:a∈as):a<h.objs.size:=by obtain⟨j,hj⟩:=Ld.mp ha;obtain⟨_,_,_,_,e⟩:=g.pairs j a hj;exact Qp e
section
variable{prog:Qw}{w:QF}{A:QC}{s:Qe}{R:M8->Qe->Prop}{b1 b2:Bool}{a1 a2 z TI TO i1 i2 S:Qd}{xs ys:Array Qc}
end
end PySem

namespace PySem
open PySem.Calls PyProof.Rows PyProof.V PySem.Spec
section
variable{prog:Qw}{w:QF}{A:QC}{E:Qc->Qe->Prop}{s:Qe}{b1 b2:Bool}{a1 a2 z TI TO i1 i2:Qd}{xs ys:Array Qc}
end
end PySem

namespace L2
open PySem PySem.Spec PyProof.Rows
end L2

namespace LE
open PySem L2 LR
section
variable{K:Qx}{C:Qd}
end
end LE

namespace L2
open PySem PySem.Spec PyProof.Rows
section
variable{X:Cx}{pins:List (Qd×Obj)}{σ:St}{H:Hp}{s:Qe}{a:Qd}{kvs:List (Key×V)}{k:Key}{z:V}{u r:Qc}{A:QC}{E:Qc->Qe->Prop}
end
section
variable{X:Cx}{o e f:Q7}{apos cpos:Pos}{td ty tx:TE}
end
end L2
namespace LE
open PySem L2 LR
section
variable(K:Qx)(C:Qd)(j:Nat)
noncomputable def Left(σ:St)(E:En)(σ':St)(E':En):Prop:=σ'[j]?=σ[j]?/\∀(i:Nat) (s:Sl),E'[i]?=some s->JO s=true->E[i]?=some s/\σ'[i]?=σ[i]?
noncomputable def SGJ(g:TG)(p:Pt):Prop:=∀(B H0 H:Hp) (σ:St) (E E':En) (x:V) (d:D) (Q:St->Hp->Prop),EnvR K C B H0 H σ E->RD K C H0 x d->p.bind d E=some E'->(∀σ',EnvR K C B H0 H σ' E'->Left j σ E σ' E'->Q σ' H)->g x σ H Q
noncomputable def Jjt(g:TGs)(p:Pts):Prop:=∀(B H0 H:Hp) (σ:St) (E E':En) (xs:List V) (ds:List D) (Q:St->Hp->Prop),EnvR K C B H0 H σ E->RDL K C H0 xs ds->p.bind ds E=some E'->(∀σ',EnvR K C B H0 H σ' E'->Left j σ E σ' E'->Q σ' H)->g xs σ H Q
end
section
variable{K:Qx}{C:Qd}{j:Nat}
theorem Left.refl(σ:St)(E:En):Left j σ E σ E:=⟨rfl,fun _ _ e _=>⟨e,rfl⟩⟩
theorem Left.trans{σ σ1 σ2:St}{E E1 E2:En}(a:Left j σ E σ1 E1)(b:Left j σ1 E1 σ2 E2):Left j σ E σ2 E2 :=
 ⟨b.1.trans a.1,fun i s e o=>by obtain⟨h1,h2⟩:=b.2 i s e o;obtain⟨h3,h4⟩:=a.2 i s h1 o;exact⟨h3,h2.trans h4⟩⟩
theorem Jl1{i:Nat}(h:i≠j):SGJ K C j (U7 i) (.nm i):=by
 intro B H0 H σ E E' x d Q I r e q;rw[Pt.bind] at e;split at e
 ·cases e;refine q _ (I.setSh (by assumption) r) ⟨by rw[QW,if_neg h],fun i' s e o=>?_⟩;rw[QW] at e
  by_cases c:i=i'
  ·rw[if_pos c] at e
   by_cases hl:i<E.length
   ·rw[if_pos hl] at e;have e':Sl.sh d=s:=QT e;rw[<- e'] at o;exact absurd o QD
   ·rw[if_neg hl] at e;exact absurd e (by simp)
  ·rw[if_neg c] at e;exact⟨e,by rw[QW,if_neg c]⟩
 ·cases e
theorem JmU:Jjt K C j Jkc .nil:=by
 intro B H0 H σ E E' xs ds Q I r e q
 cases ds with
 | nil =>
  cases xs with
  | nil=>rw[Pts.bind] at e;cases e;exact⟨rfl,q σ I (.refl σ _)⟩
  | cons _ _=>have:=r.1;simp at this
 | cons _ _=>simp[Pts.bind] at e
theorem JeV{g:TG}{gs:TGs}{p:Pt}{ps:Pts}(h:SGJ K C j g p)(hs:Jjt K C j gs ps):Jjt K C j (JeT g gs) (.cons p ps):=by
 intro B H0 H σ E E' xs ds Q I r e q
 cases ds with
 | nil=>simp[Pts.bind] at e
 | cons d ds =>
  cases xs with
  | nil=>have:=r.1;simp at this
  | cons x xs=>rw[Pts.bind] at e;obtain⟨E1,e1,e2⟩:=bind_some e;exact⟨x,xs,rfl,h B H0 H σ E E1 x d _ I r.head e1 fun σ1 I1 l1=>hs B H0 H σ1 E1 E' xs ds Q I1 r.tail e2 fun σ2 I2 l2=>q σ2 I2 (l1.trans l2)⟩
theorem JmV{n:Nat}{gs:TGs}{ps:Pts}(hs:Jjt K C j gs ps)(hn:ps.len=n):SGJ K C j (Jgd K n gs) (.tp ps):=by
 intro B H0 H σ E E' x d Q I r e q
 cases d with
 | tup ds=>rw[Pt.bind] at e;obtain⟨a,xs,rfl,h,r⟩:=RD.tupI r;exact⟨a,xs,rfl,I.h.seqT h,by rw[r.1];exact(Pts.bind_len e).trans hn,hs B H0 H σ E E' xs ds Q I r e q⟩
 | _=>simp[Pt.bind] at e
theorem EnvR.poke{B H0 H:Hp}{σ:St}{E:En}{a:Qd}{o:HO}(I:EnvR K C B H0 H σ E)(h0:H0 a=none)(hb:B a=none)(ho:∀(i:Nat) (s:Sl),E[i]?=some s->JO s=true->σ[i]?≠some (some (.ref a))):EnvR K C B H0 (upd H a o) σ E:=by
 have nb:∀{A:Hp},A a=none->Same A H->Same A (upd H a o):=fun {A} n s b o e=>by rw[Je (Jo e n)];exact s b o e
 refine⟨nb hb I.b,nb h0 I.h,I.len,fun i s e=>?_,I.sep,I.t⟩;rcases I.at' i s e with z|⟨v,q1,q2⟩
 ·exact .inl z
 ·refine .inr ⟨v,q1,?_⟩
  cases s with
  | no=>trivial
  | sh d=>exact q2
  | bo es=>exact q2
  | bd ks es=>exact q2
  | bt ks es=>exact q2
  | own es =>
   obtain⟨l',ys,p1,p2,p3⟩:=q2;subst p1;have:l'≠a:=fun z=>ho i _ e rfl (by rw[q1,z])
   exact⟨l',ys,rfl,by rw[Je this];exact p2,p3⟩
  | od ks es =>
   obtain⟨l',ys,p1,p2,p3⟩:=q2;subst p1;have:l'≠a:=fun z=>ho i _ e rfl (by rw[q1,z])
   exact⟨l',ys,rfl,by rw[Je this];exact p2,p3⟩
  | ot ks es =>
   obtain⟨l',ys,p1,p2,p3⟩:=q2;subst p1;have:l'≠a:=fun z=>ho i _ e rfl (by rw[q1,z])
   exact⟨l',ys,rfl,by rw[Je this];exact p2,p3⟩
end
end LE

namespace LE
open PySem L2 LR
noncomputable def UB:List Int->List (List D)->Int->D->List (List D)
 | k::ks,x::xs,n,d=>if k=n then(x++[d])::xs else x::UB ks xs n d
 | _,xs,_,d=>xs++[[d]]
noncomputable def Vy(p:Pt)(ek ev:Ev):List D->En->List Int->List (List D)->Option (En×List Int×List (List D))
 | [],E,ks,dss=>some (E,ks,dss)
 | d::ds,E,ks,dss=>(p.bind d E).bind fun E1=>((ek E1).bind int?).bind fun n=>(ev E1).bind fun s=>s.frz.bind fun dv=>Vy p ek ev ds E1 (Jz ks n) (UB ks dss n dv)
noncomputable def JlS(it:En->Option (List D))(p:Pt)(j:Nat)(ek ev:Ev):Es:=fun E=>match E[j]? with
 | some (.od [] [])=>(it E).bind fun ds=>if ds.length<Qt then(Vy p ek ev ds (E.set j .no) [] []).bind fun r=>if j<r.1.length then some (.nx (r.1.set j (.od r.2.1 (r.2.2.map .lst)))) else none else none
 | _=>none
theorem WR:∀{ks:List Int} {ls:List Qd} {n:Int} {a:Qd},look ks ls n=some a->∃m,ls[m]?=some a/\YW ks n=true/\∀dss:List (List D),dss.length=ls.length->∃ds,dss[m]?=some ds/\∀d,UB ks dss n d=dss.set m (ds++[d])
 | [],_,_,_,e=>by cases e
 | _::_,[],_,_,e=>by cases e
 | k::ks,l::ls,n,a,e=>by
  simp only[look] at e
  by_cases c:k=n
  ·rw[if_pos c] at e;cases e;refine⟨0,rfl,by unfold YW;simp[c],fun dss hl=>?_⟩
   cases dss with
   | nil=>simp at hl
   | cons x xs=>exact⟨x,rfl,fun d=>by rw[UB,if_pos c];rfl⟩
  ·rw[if_neg c] at e;obtain⟨m,h1,h2,h3⟩:=WR e;refine⟨m+1,by simpa using h1,by unfold YW at h2 ⊢;rw[GP,h2,Bool.or_true],fun dss hl=>?_⟩
   cases dss with
   | nil=>simp at hl
   | cons x xs=>obtain⟨ds,g1,g2⟩:=h3 xs (by simpa using hl);exact⟨ds,by simpa using g1,fun d=>by rw[UB,if_neg c,g2 d];rfl⟩
theorem Jac:∀{ks:List Int} {ls:List Qd} {n:Int},ks.length=ls.length->look ks ls n=none->YW ks n=false/\∀(dss:List (List D)) (d:D),dss.length=ls.length->UB ks dss n d=dss++[[d]]
 | [],[],_,_,_=>⟨rfl,fun dss d _=>by cases dss <;> rfl⟩
 | [],_::_,_,h,_=>by simp at h
 | _::_,[],_,h,_=>by simp at h
 | k::ks,l::ls,n,h,e=>by
  simp only[look] at e
  by_cases c:k=n
  ·rw[if_pos c] at e;cases e
  ·rw[if_neg c] at e;obtain⟨h1,h2⟩:=Jac (by simpa using h) e;refine⟨by unfold YW at h1 ⊢;rw[GP,h1,decide_eq_false c];rfl,fun dss d hl=>?_⟩
   cases dss with
   | nil=>simp at hl
   | cons x xs=>rw[UB,if_neg c,h2 xs d (by simpa using hl)];rfl
section
variable(K:Qx)(C:Qd)
structure Grp (B H0 H:Hp) (σ:St) (E:En) (j c:Nat) (ks:List Int) (dss:List (List D)) (l:Qd) (ls:List Qd):Prop where
 at':σ[j]?=some (some (.ref l))
 dict:H l=some (dkO ks (ls.map V.ref))
 l0:H0 l=none
 lb:B l=none
 len:ks.length=ls.length
 len2:dss.length=ls.length
 cnt:ks.length<=c
 lists:∀(m:Nat) (a:Qd) (ds:List D),ls[m]?=some a->dss[m]?=some ds->ds.length<=c/\∃xs,H a=some (.lst xs)/\H0 a=none/\B a=none/\RDL K C H0 xs ds
 nd:(l::ls).Nodup
 own:∀(i:Nat) (s:Sl) (a:Qd),E[i]?=some s->JO s=true->σ[i]?=some (some (.ref a))->a∉l::ls
end
section
variable{K:Qx}{C:Qd}{B H0 H H0' H':Hp}{σ σ':St}{E E':En}{j c:Nat}{ks:List Int}{dss:List (List D)}{l:Qd}{ls:List Qd}
theorem Grp.there(g:Grp K C B H0 H σ E j c ks dss l ls){a:Qd}(ha:a∈l::ls):∃o,H a=some o/\isT o=false/\H0 a=none/\B a=none:=by
 rcases Qk.mp ha with z|z
 ·subst z;exact⟨_,g.dict,rfl,g.l0,g.lb⟩
 ·obtain⟨m,hm⟩:=Ld.mp z;have hl:m<dss.length:=by rw[g.len2];exact(Qm.mp hm).1
  obtain⟨_,xs,h1,h2,h3,_⟩:=g.lists m a dss[m] hm (QG hl);exact⟨_,h1,rfl,h2,h3⟩
theorem Grp.off(g:Grp K C B H0 H σ E j c ks dss l ls)(st:Step H H0 H H0' H'){a:Qd}(ha:a∈l::ls):H0' a=none:=by
 obtain⟨o,h1,h2,h3,_⟩:=g.there ha
 cases z:H0' a with
 | none=>rfl
 | some u =>
  rcases st.n a u z with y|y|y
  ·rw[h3] at y;cases y
  ·rw[h1] at y;cases y
  ·have:=st.i a u z;rw[st.h a o h1] at this;cases this;rw[h2] at y;cases y
theorem Grp.step(g:Grp K C B H0 H σ E j c ks dss l ls)(st:Step H H0 H H0' H'):Grp K C B H0' H' σ E j c ks dss l ls :=
 ⟨g.at',st.h _ _ g.dict,g.off st Qh,g.lb,g.len,g.len2,g.cnt,fun m a ds e1 e2=>by obtain⟨h0,xs,h1,h2,h3,h4⟩:=g.lists m a ds e1 e2;exact⟨h0,xs,st.h _ _ h1,g.off st (Qf _ (QJ e1)),h3,h4.mono st.z⟩,g.nd,g.own⟩
theorem Grp.left(g:Grp K C B H0 H σ E j c ks dss l ls)(f:Left j σ E σ' E'):Grp K C B H0 H σ' E' j c ks dss l ls :=
 ⟨f.1.trans g.at',g.dict,g.l0,g.lb,g.len,g.len2,g.cnt,g.lists,g.nd,fun i s a e o q=>by obtain⟨h1,h2⟩:=f.2 i s e o;exact g.own i s a h1 o (by rw[<- h2];exact q)⟩
theorem Grp.free(g:Grp K C B H0 H σ E j c ks dss l ls){a:Qd}(ha:a∈l::ls):∀(i:Nat) (s:Sl),E[i]?=some s->JO s=true->σ[i]?≠some (some (.ref a)):=fun i s e o q=>g.own i s a e o q ha
theorem EnvR.fresh(I:EnvR K C B H0 H σ E){p:Qd}(hp:H p=none):∀(i:Nat) (s:Sl),E[i]?=some s->JO s=true->σ[i]?≠some (some (.ref p)):=fun i s e o q=>by
 rcases I.at' i s e with z|⟨v,q1,q2⟩
 ·subst z;cases o
 ·rw[q1] at q;cases q
  cases s with
  | own es=>obtain⟨l',ys,p1,p2,_⟩:=q2;cases p1;rw[hp] at p2;cases p2
  | od ks es=>obtain⟨l',ys,p1,p2,_⟩:=q2;cases p1;rw[hp] at p2;cases p2
  | ot ks es=>obtain⟨l',ys,p1,p2,_⟩:=q2;cases p1;rw[hp] at p2;cases p2
  | _=>cases o
theorem YU{α β:Type}(f:α->β):∀(ks:List Int) (vs:List α) (n:Int),look ks (vs.map f) n=(look ks vs n).map f
 | [],_,_=>rfl
 | _::_,[],_=>rfl
 | k::ks,v::vs,n=>by
  rw[Qg];simp only[look];split
  ·rfl
  ·exact YU f ks vs n
end
end LE

namespace LE
open PySem L2 LR
section
variable{K:Qx}{C:Qd}{B H0 H H0' H':Hp}{σ σ':St}{E E':En}{j c:Nat}{ks:List Int}{dss:List (List D)}{l:Qd}{ls:List Qd}
theorem EnvR.unslot(I:EnvR K C B H0 H σ E)(j:Nat):EnvR K C B H0 H σ (E.set j .no):=by
 have get:∀(i:Nat) (s:Sl),(E.set j Sl.no)[i]?=some s->s=.no\/(i≠j/\E[i]?=some s):=fun i s e=>by
  rw[QW] at e
  by_cases c:j=i
  ·rw[if_pos c] at e
   by_cases hl:j<E.length
   ·rw[if_pos hl] at e;exact .inl (QT e).symm
   ·rw[if_neg hl] at e;exact absurd e (by simp)
  ·rw[if_neg c] at e;exact .inr ⟨fun z=>c z.symm,e⟩
 refine⟨I.b,I.h,by simp[I.len],fun i s e=>?_,fun i k s t v hik e1 e2 o1 o2 e3 e4=>?_,I.t⟩
 ·rcases get i s e with z|⟨_,z⟩
  ·exact .inl z
  ·exact I.at' i s z
 ·rcases get i s e1 with z|⟨_,z⟩
  ·subst z;cases o1
  ·rcases get k t e2 with y|⟨_,y⟩
   ·subst y;cases o2
   ·exact I.sep i k s t v hik z y o1 o2 e3 e4
noncomputable def Jgc(H0 H:Hp)(ls:List Qd):Hp:=fun a=>if a∈ls then H a else H0 a
theorem JaJ{Hz:Hp}:∀{ls:List Qd} {dss:List (List D)},dss.length=ls.length->(∀(m:Nat) (a:Qd) (ds:List D),ls[m]?=some a->dss[m]?=some ds->∃xs,Hz a=some (.lst xs)/\RDL K C Hz xs ds)->RDL K C Hz (ls.map V.ref) (dss.map .lst)
 | [],[],_,_=>.nil
 | [],_::_,h,_=>by simp at h
 | _::_,[],h,_=>by simp at h
 | a::ls,ds::dss,h,f=>by obtain⟨xs,h1,h2⟩:=f 0 a ds rfl rfl;exact .cons (.mkL h1 h2) (JaJ (by simpa using h) fun m a ds e1 e2=>f (m+1) a ds (by simpa using e1) (by simpa using e2))
theorem Grp.done(I:EnvR K C B H0 H σ E)(g:Grp K C B H0 H σ E j c ks dss l ls)(hj:j<E.length):SStep B H0 (Jgc H0 H ls) H/\EnvR K C B (Jgc H0 H ls) H σ (E.set j (.od ks (dss.map .lst))):=by
 have out:∀{a:Qd},a∉ls->Jgc H0 H ls a=H0 a:=fun {a} h=>if_neg h
 have inn:∀{a:Qd},a∈ls->Jgc H0 H ls a=H a:=fun {a} h=>if_pos h
 have z:Same H0 (Jgc H0 H ls):=fun a o e=>by
  by_cases c:a∈ls
  ·rw[inn c];exact I.h a o e
  ·rw[out c];exact e
 have i:Same (Jgc H0 H ls) H:=fun a o e=>by
  by_cases c:a∈ls
  ·rw[inn c] at e;exact e
  ·rw[out c] at e;exact I.h a o e
 have ln:l∉ls:=(Q6.mp g.nd).1;refine⟨⟨I.b,z,fun a o e=>?_,i⟩,I.b,i,by simp[I.len],fun k s e=>?_,fun k m s t v hkm e1 e2 o1 o2 e3 e4=>?_,I.t⟩
 ·by_cases c:a∈ls
  ·exact .inr (.inl (g.there (Qf _ c)).choose_spec.2.2.2)
  ·rw[out c] at e;exact .inl e
 ·rw[QW] at e
  by_cases c:j=k
  ·subst c;rw[if_pos rfl,if_pos hj] at e;have e':=QT e;subst e';refine .inr ⟨_,g.at',l,ls.map V.ref,rfl,g.dict,by rw[out ln];exact g.l0,g.lb,by rw[Qq,g.len2];exact g.len,JaJ g.len2 fun m a ds q1 q2=>?_⟩;obtain⟨_,xs,h1,_,_,h4⟩:=g.lists m a ds q1 q2;exact⟨xs,by rw[inn (QJ q1)];exact h1,h4.mono z⟩
  ·rw[if_neg c] at e;rcases I.at' k s e with y|⟨v,q1,q2⟩
   ·exact .inl y
   ·refine .inr ⟨v,q1,?_⟩
    cases s with
    | no=>trivial
    | sh d=>exact RD.mono z q2
    | bo es=>obtain⟨l',ys,p1,p2,p3⟩:=q2;exact⟨l',ys,p1,p2,p3.mono z⟩
    | bd ks es=>obtain⟨l',ys,p1,p2,p3,p4⟩:=q2;exact⟨l',ys,p1,p2,p3,p4.mono z⟩
    | bt ks es=>obtain⟨l',ys,p1,p2,p3,p4⟩:=q2;exact⟨l',ys,p1,p2,p3,p4.mono z⟩
    | own es=>obtain⟨l',ys,p1,p2,p3,p4,p5⟩:=q2;subst p1;have:=g.own k _ l' e rfl q1;exact⟨l',ys,rfl,p2,by rw[out fun m=>this (Qf _ m)];exact p3,p4,p5.mono z⟩
    | od ks es=>obtain⟨l',ys,p1,p2,p3,p4,p5,p6⟩:=q2;subst p1;have:=g.own k _ l' e rfl q1;exact⟨l',ys,rfl,p2,by rw[out fun m=>this (Qf _ m)];exact p3,p4,p5,p6.mono z⟩
    | ot ks es=>obtain⟨l',ys,p1,p2,p3,p4,p5,p6⟩:=q2;subst p1;have:=g.own k _ l' e rfl q1;exact⟨l',ys,rfl,p2,by rw[out fun m=>this (Qf _ m)];exact p3,p4,p5,p6.mono z⟩
 ·have get:∀(i:Nat) (s:Sl),(E.set j (Sl.od ks (dss.map .lst)))[i]?=some s->i=j\/(i≠j/\E[i]?=some s):=fun i s e=>by
   rw[QW] at e
   by_cases c:j=i
   ·exact .inl c.symm
   ·rw[if_neg c] at e;exact .inr ⟨fun z=>c z.symm,e⟩
  rcases get k s e1 with y1|⟨n1,y1⟩
  ·subst y1;rcases get m t e2 with y2|⟨n2,y2⟩
   ·exact hkm y2.symm
   ·rw[g.at'] at e3;have e3':=QT (QT e3);subst e3';exact g.own m t l y2 o2 e4 Qh
  ·rcases get m t e2 with y2|⟨n2,y2⟩
   ·subst y2;rw[g.at'] at e4;have e4':=QT (QT e4);subst e4';exact g.own k s l y1 o1 e3 Qh
   ·exact I.sep k m s t v hkm y1 y2 o1 o2 e3 e4
end
end LE

namespace L2
open PySem PySem.Spec PyProof.Rows
noncomputable def JaB:List Int->List Int->Bool
 | [],_=>true
 | _::_,[]=>false
 | x::xs,y::ys=>if x=y then JaB xs ys else decide (x<=y)
theorem Zj(x y:Int)(xs ys:List Int):JaB (x::xs) (y::ys)=if x=y then JaB xs ys else decide (x<=y):=rfl
section
open PySem.SeqAt
open PySem.AutoSeq1 (wpAny_loadPart')
open PySem.MeetsSeq PySem.MeetsSeq2 PySem.MeetsSeq3
end
section
variable{prog:Qw}{w:QF}{A:QC}{E:Qc->Qe->Prop}{s:Qe}
end
end L2
namespace LE
open PySem L2 LR
noncomputable def JqI:Sl->Sl->Option Sl
 | .sh (.tup ds),.sh (.tup es)=>(ints? ds).bind fun ns=>(ints? es).map fun ms=>.sh (.bl (JaB ns ms))
 | _,_=>none
section
variable{K:Qx}{C:Qd}
theorem Jj4(a b c d:Int):JqI (.sh (.tup [.int a,.int b])) (.sh (.tup [.int c,.int d]))=some (.sh (.bl (if a=c then decide (b<=d) else decide (a<=c)))):=by
 show some (Sl.sh (.bl (JaB [a,b] [c,d])))=_;rw[Zj];split
 ·rw[Zj];split
  ·next h=>rw[h];simp[JaB]
  ·rfl
 ·rfl
end
end LE

namespace L2
open PySem PySem.Spec PyProof.Rows
section
open PySem.SeqAt
open PySem.AutoSeq1 (wpAny_loadPart')
open PySem.MeetsSeq PySem.MeetsSeq2 PySem.MeetsSeq3
end
section
variable{prog:Qw}{w:QF}{A:QC}{E:Qc->Qe->Prop}{s:Qe}
end
end L2
namespace LE
open PySem L2 LR
section
variable{K:Qx}{C:Qd}
end
end LE

namespace L2
open PySem PySem.Spec PyProof.Rows
end L2
namespace LE
open PySem L2 LR
noncomputable def WT(a:Int):Bool:=R4 a.natAbs (10 ^ 200)
section
variable{K:Qx}{C:Qd}
end
end LE

namespace LE
open PySem L2 LR
section
variable{K:Qx}{C:Qd}{W:XK}{t:TA}{ev:En->Option (List Sl)}{ts us:TS}{x:Xv}{H:Hp}
end
end LE

namespace PySem
open PySem.Calls PyProof.Rows PyProof.V PySem.Spec
section
variable{prog:Qw}{w:QF}{A:QC}{E:Qc->Qe->Prop}{s:Qe}{r a:Qd}{xs:Array Qc}{n:Nat}
end
end PySem
namespace L2
open PySem PySem.Spec PyProof.Rows
theorem Vals.rev{xs:List V}{us:List Qc}(h:Vals xs us):Vals xs.reverse us.reverse:=by
 induction h with
 | nil=>exact .nil
 | cons r t ih=>rw[KJ,KJ];exact ih.append (.cons r .nil)
end L2
namespace LE
open PySem L2 LR
section
variable{K:Qx}{C:Qd}
end
end LE

namespace L2
open PySem PySem.Spec PyProof.Rows PySem.Calls
section
variable{X:Cx}
end
end L2
namespace L2
open PySem PySem.Spec PyProof.Rows PySem.Calls
section
variable{X:Cx}{es:List Q7}{t:TA}{x:Str}{j:Nat}{p:Pos}
structure PSi (X:Cx) (st:Kj) (ts:TS):Prop where
 out:PS X st ts
structure PSsi (X:Cx) (ss:List Kj) (ts:TS):Prop where
 out:PSs X ss ts
end
end L2

namespace LE
open PySem L2 LR
noncomputable def Jo5(ys:List Str)(r:En->Option (List Sl)):En->Option (List Sl):=fun E=>(r E).map fun ss=>ys.map (fun y=>.sh (.str y))++ss
section
variable{K:Qx}{C:Qd}{te:TE}{ea:Ev}{tl th:TO}{el eh:Option Ev}{m:Bool}
end
end LE

namespace L2
open PySem PySem.Spec PyProof.Rows PySem.Calls
noncomputable def Jfo:V->List V->Hp->VK->Prop:=fun x vs H Q=>∃(l:Qd) (ns:List Int) (b:Int),x=.ref l/\vs=[.int b]/\H l=some (.lst (ns.map V.int))/\b∈ns/\Q (.int (ns.idxOf b:Nat)) H
theorem WS(b:Int):∀{vs:List Qc} {ns:List Int},IntsAre vs ns->∀(m:Nat) (h:m<vs.length) (h':m<ns.length),isInt b vs[m]=(ns[m] == b)
 | _,_,.nil,m,h,_=>absurd h (Nat.not_lt_zero _)
 | _,_,.cons n t h,0,_,_=>rfl
 | _,_,.cons n t h,m+1,hm,hm'=>WS b h m (by simpa using hm) (by simpa using hm')
theorem JeZ(b:Int):∀(bs:List Int) (m:Nat) (h:m<bs.length),m<bs.idxOf b->bs[m]≠b
 | [],m,h,_=>absurd h (Nat.not_lt_zero _)
 | a::bs,0,_,hm=>fun e=>by have e':a=b:=e;rw[List.idxOf_cons,e'] at hm;simp at hm
 | a::bs,m+1,h,hm=>by
  have hm':m<bs.idxOf b:=by
   rw[List.idxOf_cons] at hm
   cases z:(a == b) with
   | true=>rw[z] at hm;simp at hm
   | false=>rw[z] at hm;simp at hm;exact hm
  show bs[m]'(by simpa using h)≠b;exact JeZ b bs m (by simpa using h) hm'
section
variable{X:Cx}
theorem Jgx:MtR X "list.index" Jfo:=by
 intro pins s σ H x vs v us Q I rx rv h;obtain⟨l,ns,b,rfl,rfl,hH,hm,q⟩:=h;cases rx;obtain⟨u,rfl,hu⟩:=rv.one;obtain⟨t,rfl⟩:=hu;obtain⟨z,its,n,r,hl,e⟩:=I.lstM hH;have ia:=Uu r;have il:its.length=ns.length:=Mv ia;have hj:ns.idxOf b<ns.length:=List.idxOf_lt_length_of_mem hm;have hz:ns.length<=Qt:=by simpa using z
 refine call_meets F.slot_list_index ⟨_,e,rfl⟩ F.entry_list_index (F.args_list_index_2 _ _) (MeetsSeq.list_index l its.toArray n (.int b t) (isInt b) (fun y hy=>eq_isInt b t ia y (by simpa using hy)) (ns.idxOf b) (by simpa [il] using hj) ?_ ?_ (fun m hm hmj=>?_)) ⟨e,?_⟩
 ·have:(Qt:Int)<2 ^ 63-1:=by decide
  omega
 ·show isInt b (its.toArray[ns.idxOf b]'_)=true;rw[RJ,WS b ia _ _ hj,List.getElem_idxOf hj];simp
 ·have hm':m<its.length:=by simpa using hm
  show isInt b (its.toArray[m]'_)=false;rw[RJ,WS b ia m hm' (by omega)]
  have:=JeZ b ns m (by omega) hmj
  simpa using this
 ·exact⟨.int (ns.idxOf b:Nat),H,I.tok _,⟨s.toks,rfl⟩,q⟩
end
end L2
namespace LE
open PySem L2 LR
noncomputable def eMI(f:List Int->Int->Option Int)(o a:Ev):Ev:=fun E=>(o E).bind fun s=>(lst? s).bind fun ds=>(ints? ds).bind fun ns=>(a E).bind fun y=>(int? y).bind fun b=>(f ns b).map fun i=>.sh (.int i)
noncomputable def Vv(ns:List Int)(b:Int):Option Int:=if b∈ns then some (ns.idxOf b:Nat) else none
section
variable{K:Qx}{C:Qd}{to te:TE}{eo ea:Ev}{Hs H0 H:Hp}{v:V}
theorem Jq4{rm:V->List V->Hp->VK->Prop}{f:List Int->Int->Option Int}(hm:∀(l:Qd) (ns:List Int) (b:Int) (i:Int) (H:Hp) (Q:VK),H l=some (.lst (ns.map V.int))->f ns b=some i->Q (.int i) H->rm (.ref l) [.int b] H Q)
 (ho:SE K C to eo) (ha:SE K C te ea):SE K C (tBM K "list" rm to (Y0 te Vl)) (eMI f eo ea):=by
 intro B H0 H σ E r Q I e q;obtain⟨s,e1,e⟩:=bind_some e;obtain⟨ds,e2,e⟩:=bind_some e;obtain⟨ns,e3,e⟩:=bind_some e;obtain⟨y,e4,e⟩:=bind_some e;obtain⟨b,e5,e⟩:=bind_some e;obtain⟨i,e6,rfl⟩:=map_some e;refine ho B H0 H σ E s _ I e1 fun x H1 H1' s1 r1=>?_
 obtain⟨l,xs,rfl,hl,rl⟩:=r1.lst s1.i e2;refine⟨.inl ⟨rfl,_,.of hl⟩,?_⟩;refine ha B H1 H1' σ E y _ (I.step s1) e4 fun u H2 H2' s2 r2=>?_
 rw[Ug e5] at r2;cases RD.intI r2;rw[Uh e3] at rl;have hx:=RDL.ints rl;subst hx;exact hm l ns b i H2' Q (s2.h _ _ hl) e6 (q _ _ _ (s1.trans s2) (RD.int i))
theorem JiN(ho:SE K C to eo)(ha:SE K C te ea):SE K C (tBM K "list" Jfo to (Y0 te Vl)) (eMI Vv eo ea) :=
 Jq4 (fun l ns b i H Q h e q=>by
  unfold Vv at e;split at e
  ·next hm=>cases e;exact⟨l,ns,b,rfl,rfl,h,hm,q⟩
  ·cases e) ho ha
end
end LE

namespace L2
open PySem PySem.Spec PyProof.Rows PySem.Calls
section
variable{X:Cx}
end
end L2
namespace LE
open PySem L2 LR
section
variable{K:Qx}{C:Qd}
end
end LE

namespace PySem
open AutoSeq1 (wpAny_loadPart')
section
variable{prog:Qw}{w:QF}{A:QC}{E:Qc->Qe->Prop}{s:Qe}
end
section
variable{prog:Qw}{w:QF}{A:QC}{E:Qc->Qe->Prop}{s:Qe}
end
section
variable{prog:Qw}{w:QF}{A:QC}{E:Qc->Qe->Prop}{s:Qe}{b:Bool}{a e it:Qd}{xs:Array Qc}
end
end PySem
namespace L2
open PySem PySem.Spec PyProof.Rows
end L2
namespace LE
open PySem L2 LR
section
variable{K:Qx}{C:Qd}{m:Bool}
end
end LE

namespace L2
open PySem PySem.Spec PyProof.Rows PySem.Calls
section
variable{X:Cx}{K:Qx}{e:Q7}{te:TE}{p2 pos:Pos}
end
end L2
namespace LE
open PySem L2 LR
section
variable{K:Qx}{C:Qd}{te:TE}{ea:Ev}
end
end LE

namespace LE
open PySem L2 LR
section
variable{K:Qx}{C:Qd}
end
end LE

namespace L2
open PySem PySem.Spec PyProof.Rows
structure Blk1 (X:Cx) (sc:Lu) (cl:List (Str×Qd)) (y:Str) (N':List Str) (imp:List (Option Nat)):Prop where
 clos:closureFor sc X.env=pure cl
 kind:sc.kind=.function
 cf:∀n,cellsFrom n sc.names cl=(y,n)::cl
 cf0:∀n,cellsFrom n sc.names []=[(y,n)]
 names:∀y∈sc.names,y.2=.local->sc.names.lookup y.1=some .local
 sub:∀p∈cl,X.env.cells.lookup p.1=some p.2
 has:∀z∈(relabel sc X.env).names,(z.2=.cell\/z.2=.free)->z.1=y\/(cl.lookup z.1).isSome=true
 len:imp.length=N'.length
 im:∀p∈imp.zip N',∀k,p.1=some k->p.2≠y/\X.N[k]?=some p.2/\(X.env.scope.names.lookup p.2=some .cell\/X.env.scope.names.lookup p.2=some .free)/\((relabel sc X.env).names.lookup p.2=some .cell\/(relabel sc X.env).names.lookup p.2=some .free)
section
variable{X:Cx}{tg iter elt:Q7}{ifs:List Q7}{sc:Lu}{cl:List (Str×Qd)}{y:Str}{N':List Str}{imp:List (Option Nat)}{pos:Pos}{wi:TI}{g:TG}{tt:TT}{te:TE}
theorem Blk1.subL(B:Blk1 X sc cl y N' imp):∀x c,cl.lookup x=some c->X.env.cells.lookup x=some c:=fun x c e=>B.sub (x,c) (Uv e)
end
end L2

namespace L2
open PySem PySem.W PyProof.Rows
structure Pm (p:Array Nat) (N:Nat):Prop where
 size:p.size=N
 low:∀a,a<N->p.getD a 0<N
 inj:∀a b,a<N->b<N->p.getD a 0=p.getD b 0->a=b
theorem Jns{l:List Nat}(nd:l.Nodup){a b:Nat}(h1:a<l.length)(h2:b<l.length)(e:l[a]=l[b]):a=b:=by
 rcases MI a b with c|c|c
 ·exact absurd e (GK.mp nd a b h1 h2 c)
 ·exact c
 ·exact absurd e.symm (GK.mp nd b a h2 h1 c)
theorem Pm.of{p:Array Nat}{N:Nat}(h:p.toList.Perm (QS N)):Pm p N:=by
 have hz:p.size=N:=by have:=h.length_eq;simpa using this
 have get:∀a,a<N->p.toList[a]?=some (p.getD a 0):=fun a ha=>by rw[GW,Kl (by omega)];simp[Mw,show a<p.size by omega]
 refine⟨hz,fun a ha=>?_,fun a b ha hb e=>?_⟩
 ·have:=h.mem_iff.mp (QJ (get a ha))
  simpa using this
 ·have nd:p.toList.Nodup:=h.nodup_iff.mpr List.nodup_range
  have ga:=get a ha
  have gb:=get b hb;rw[e] at ga;obtain⟨h1,e1⟩:=Qm.mp ga;obtain⟨h2,e2⟩:=Qm.mp gb;exact Jns nd h1 h2 (e1.trans e2.symm)
noncomputable def Asc(lt:Nat->Nat->Bool)(p:Array Nat)(m:Nat):Prop:=∀a b,a<b->b<m->lt (p.getD a 0) (p.getD b 0)=true
noncomputable def Dsc(lt:Nat->Nat->Bool)(p:Array Nat)(m:Nat):Prop:=∀a b,a<b->b<m->lt (p.getD b 0) (p.getD a 0)=true
section
variable{N:Nat}{lt:Nat->Nat->Bool}{cmp:Nat->Nat->(Bool->Qe->Prop)->Qe->Prop}{I:Qe->Prop}
noncomputable def Rt(N:Nat)(lt:Nat->Nat->Bool)(I:Qe->Prop)(cmp:Nat->Nat->(Bool->Qe->Prop)->Qe->Prop):Prop:=∀i j (C:Bool->Qe->Prop) s,I s->i<N->j<N->(∀s',I s'->C (lt i j) s')->cmp i j C s
theorem Jkd{p q:Array Nat}{a b:Nat}(h:p[a]?=q[b]?):p.getD a 0=q.getD b 0:=by rw[GX,GX,h]
theorem Jle{p:Array Nat}(P:Pm p N){m:Nat}(hm:m<=N)(h:Dsc lt p m):Asc lt (kas_rev p 0 m) m:=by
 have g:∀k,k<m->(kas_rev p 0 m).getD k 0=p.getD (m-1-k) 0:=fun k hk=>Jkd (by unfold kas_rev;rw[getElem?_mirror_all (by rw[P.size];exact hm) k];rw[if_pos ⟨by omega,hk⟩];congr 1;omega)
 intro a b ab hb;rw[g a (by omega),g b hb];exact h (m-1-b) (m-1-a) (by omega) (by omega)
theorem Zx{p:Array Nat}(h:p.toList.Perm (QS N))(i j:Nat):(kas_rev p i j).toList.Perm (QS N):=((mirror_perm p i j _).toList).trans h
end
end L2

namespace L2
open PySem PySem.W PyProof.Rows
section
variable{prog:Qw}{w:QF}{A:QC}{E:Qc->Qe->Prop}{s:Qe}
theorem JfR{lt:Nat->Nat->Bool}{p:Array Nat}{N:Nat}(h:N<2):Asc lt p N:=fun a b h1 h2=>by omega
theorem JiP(vs:List Qc):(QS vs.length).map (fun i=>vs.getD i Value.none)=vs:=by
 refine Go fun i=>?_
 rw[Qo]
 by_cases h:i<vs.length
 ·rw[List.getElem?_range h,KH,QG h];simp[h]
 ·rw[G7 (by simpa using h),G7 (by omega)];rfl
end
end L2

namespace L2
open PySem PySem.W PyProof.Rows
noncomputable abbrev PrI:=Int×Int
noncomputable def Jbl(p q:PrI):Bool:=if p.1=q.1 then decide (p.2<q.2) else decide (p.1<q.1)
noncomputable def TupP(h:QL)(v:Qc)(p:PrI):Prop:=∃a o n t u,v=.ref a/\h.get? a=some o/\o.cls=.type "tuple"/\o.data=.seq #[.int p.1 t,.int p.2 u] n
section
variable{prog:Qw}{w:QF}{A:QC}{E:Qc->Qe->Prop}{s:Qe}
theorem TupP.off{h h1:QL}{a:Qd}{vs:Array Qc}{n:Nat}{v:Qc}{p:PrI}(ho:h.get? a=some (seqObj "list" vs n))(keep:∀b ob,b≠a->h.get? b=some ob->h1.get? b=some ob)(t:TupP h v p):TupP h1 v p:=by obtain⟨b,o,m,t,u,rfl,hb,hc,hd⟩:=t;refine⟨b,o,m,t,u,rfl,keep b o (fun e=>?_) hb,hc,hd⟩;subst e;rw[ho] at hb;cases hb;have z:(Value.type "list":Qc)=.type "tuple":=hc;exact absurd z (by decide)
end
end L2

namespace L2
open PySem PySem.Spec PySem.W PyProof.Rows
section
variable{prog:Qw}{w:QF}{A:QC}{E:Qc->Qe->Prop}{s:Qe}
end
section
variable{X:Cx}
theorem JgW{vs:List V}{us:List Qc}(r:Vals vs us)(p:List Nat)(h:∀i∈p,i<vs.length):Vals (p.map fun i=>vs.getD i .non) (p.map fun i=>us.getD i Value.none):=by
 induction p with
 | nil=>exact .nil
 | cons i p ih =>
  have hi:=h i Qh;refine .cons ?_ (ih fun j hj=>h j (Qf _ hj));obtain⟨u,hu,rel⟩:=r.get (QG hi)
  have e1:vs.getD i .non=vs[i]:=by simp[hi]
  have e2:us.getD i Value.none=u:=by rw[Gf,hu];rfl
  show RelV (vs.getD i .non) (us.getD i Value.none);rw[e1,e2];exact rel
end
end L2

namespace L2
open PySem PySem.Spec PySem.W PyProof.Rows
noncomputable def RawD(h:QL)(d:Qd)(es:Array DictEntry)(ep:Nat):Prop:=∃o,h.get? d=some o/\o.ExactDict/\o.data=.dict es ep
section
variable{prog:Qw}{w:QF}{A:QC}{E:Qc->Qe->Prop}{s:Qe}{it d v:Qd}{i ep:Nat}{es:Array DictEntry}
theorem RawD.at{h h':QL}(x:RawD h d es ep)(e:∀o,h.get? d=some o->h'.get? d=some o):RawD h' d es ep:=let ⟨o,ho,r⟩:=x;⟨o,e _ ho,r⟩
theorem RawD.lt{h:QL}(x:RawD h d es ep):d<h.objs.size:=let ⟨_,ho,_⟩:=x;Qp ho
end
end L2

namespace L2
open PySem PySem.Spec PySem.W PyProof.Rows
theorem Jcs(a b:PrI):Jbl a b=true↔a.1<b.1\/(a.1=b.1/\a.2<b.2):=by
 unfold Jbl
 by_cases e:a.1=b.1
 ·rw[if_pos e,decide_eq_true_iff];exact⟨fun h=>.inr ⟨e,h⟩,fun h=>h.elim (fun x=>by omega) fun x=>x.2⟩
 ·rw[if_neg e,decide_eq_true_iff];exact⟨fun h=>.inl h,fun h=>h.elim id fun x=>absurd x.1 e⟩
theorem JdL{a b c:PrI}(h:Jbl a b=true)(k:Jbl b c=true):Jbl a c=true:=by rw[Jcs] at *;omega
theorem JhY(a:PrI):Jbl a a=false:=by
 cases h:Jbl a a with
 | false=>rfl
 | true=>rw[Jcs] at h;omega
theorem asc_uniq:∀{a b:List PrI},a.Perm b->a.Pairwise (fun a b=>Jbl a b=true)->b.Pairwise (fun a b=>Jbl a b=true)->a=b
 | [],b,h,_,_=>(List.nil_perm.mp h).symm
 | x::a,[],h,_,_=>absurd h.length_eq (by simp)
 | x::a,y::b,h,ha,hb=>by
  have hx:=QP.mp ha
  have hy:=QP.mp hb
  have e:x=y:=by
   rcases Qk.mp (h.mem_iff.mp Qh) with e|e
   ·exact e
   ·rcases Qk.mp (h.mem_iff.mpr Qh) with e'|e'
    ·exact e'.symm
    ·have:=JdL (hx.1 y e') (hy.1 x e);rw[JhY] at this;cases this
  subst e;rw[asc_uniq (RW h) hx.2 hy.2]
noncomputable abbrev pk(p:PrI):List Key:=LE.dtK p
theorem KT.get{H:Hp}:∀{kvs:List (List Key×V)} {xs:List (List Key×Qd×Qc)},KT H kvs xs->kvs.length=xs.length/\∀(i:Nat) (k:List Key×V) (x:List Key×Qd×Qc),kvs[i]?=some k->xs[i]?=some x->k.1=x.1/\H x.2.1=some (.tup (k.1.map kV))
 | _,_,.nil=>⟨rfl,fun i k x e=>by simp at e⟩
 | _,_,.cons h t=>by
  obtain⟨h1,h2⟩:=KT.get t;refine⟨by simp[h1],fun i k x e1 e2=>?_⟩
  cases i with
  | zero=>simp at e1 e2;subst e1 e2;exact⟨h.1,h.2.1⟩
  | succ i=>exact h2 i k x (by simpa using e1) (by simpa using e2)
end L2

namespace L2
open PySem PySem.Spec PySem.W PyProof.Rows
end L2
namespace LE
open PySem L2 LR
section
variable{K:Qx}{C:Qd}{Hs H0 H:Hp}
end
noncomputable def Sl.dt:Sl->Option (List (Int×Int)×List D)
 | .bt ks ds=>some (ks,ds)
 | .ot ks ds=>some (ks,ds)
 | _=>none
noncomputable def pr?:Sl->Option (Int×Int)
 | .sh (.tup [.int a,.int b])=>some (a,b)
 | _=>none
section
variable{K:Qx}{C:Qd}{Hs H0 H:Hp}{td ty te tk1 tk2:TE}{ed ek ea k1 k2:Ev}
theorem RR.dt{v:V}{s:Sl}{p:List (Int×Int)×List D}(r:RR K C Hs H0 H v s)(e:s.dt=some p):∃l xs,v=.ref l/\H l=some (dtO p.1 xs)/\p.1.length=p.2.length/\RDL K C H0 xs p.2:=by
 cases s with
 | bt ks ds=>cases e;exact r
 | ot ks ds=>cases e;obtain⟨l,xs,h1,h2,_,_,h3⟩:=r;exact⟨l,xs,h1,h2,h3⟩
 | _=>cases e
noncomputable def Jpq:List Sl->Option (Int×Int)
 | [.sh (.int a),.sh (.int b)]=>some (a,b)
 | _=>none
end
end LE

namespace LE
open PySem L2 LR
section
variable{K:Qx}{C:Qd}
theorem RDL.eraseIdx{H:Hp}:∀{xs:List V} {ds:List D} (k:Nat),RDL K C H xs ds->RDL K C H (xs.eraseIdx k) (ds.eraseIdx k)
 | [],[],_,h=>by simpa using h
 | [],_::_,_,h=>by have:=h.1;simp at this
 | _::_,[],_,h=>by have:=h.1;simp at this
 | x::xs,d::ds,0,h=>by simpa using h.tail
 | x::xs,d::ds,k+1,h=>by rw[LI,LI];exact .cons h.head (RDL.eraseIdx k h.tail)
end
end LE

namespace LE
open PySem L2 LR
section
variable{X:Cx}
end
section
variable{K:Qx}{C:Qd}
end
end LE

namespace L2
open PySem
noncomputable def Ris(xs:Array Nat):Prop:=xs.toList.Pairwise (·<·)
theorem Ris.lt{xs:Array Nat}(r:Ris xs){i j:Nat}(h:i<j)(hj:j<xs.size):xs[i]'(by omega)<xs[j]:=by
 have:=GK.mp r i j (by simp;omega) (by simpa using hj) h
 simpa using this
theorem Jdm{xs:Array Nat}(r:Ris xs)(j:Nat):∀(fuel lo hi:Nat),hi-lo<=fuel->lo<=hi->hi<=xs.size->(∀i,(h:i<xs.size)->i<lo->xs[i]<j)->(∀i,(h:i<xs.size)->hi<=i->j<=xs[i]) ->
 ∃p,R5 xs j fuel lo hi=p/\p<=xs.size/\(∀i,(h:i<xs.size)->i<p->xs[i]<j)/\∀i,(h:i<xs.size)->p<=i->j<=xs[i]
 | 0,lo,hi,hf,h1,h2,ha,hb=>⟨lo,rfl,by omega,ha,fun i hi' hp=>hb i hi' (by omega)⟩
 | fuel+1,lo,hi,hf,h1,h2,ha,hb=>by
  unfold R5
  by_cases c:lo<hi
  ·rw[if_pos c];have hm:(lo+hi) / 2<xs.size:=by omega
   have e:xs.getD ((lo+hi) / 2) j=xs[(lo+hi) / 2]:=by simp[Mw,hm]
   dsimp only;rw[e]
   by_cases d:xs[(lo+hi) / 2]<j
   ·rw[if_pos d];refine Jdm r j fuel _ _ (by omega) (by omega) h2 (fun i h hi'=>?_) hb;rcases KL i ((lo+hi) / 2) with q|q
    ·exact Md (r.lt q hm) d
    ·have:i=(lo+hi) / 2:=by omega
     subst this;exact d
   ·rw[if_neg d];refine Jdm r j fuel _ _ (by omega) (by omega) (by omega) ha (fun i h hi'=>?_);rcases KL ((lo+hi) / 2) i with q|q
    ·exact Gb (LC.mp d) (GZ (r.lt q h))
    ·have:i=(lo+hi) / 2:=by omega
     subst this;exact LC.mp d
  ·rw[if_neg c];exact⟨lo,rfl,by omega,ha,fun i hi' hp=>hb i hi' (by omega)⟩
theorem bel{xs:Array Nat}(r:Ris xs)(j:Nat):Q5 xs j<=xs.size/\(∀i,(h:i<xs.size)->i<Q5 xs j->xs[i]<j)/\∀i,(h:i<xs.size)->Q5 xs j<=i->j<=xs[i]:=by obtain⟨p,e,h1,h2,h3⟩:=Jdm r j xs.size 0 xs.size (by omega) (by omega) (Qr _) (fun i _ h=>by omega) (fun i h h'=>by omega);have e':Q5 xs j=p:=e;rw[e'];exact⟨h1,h2,h3⟩
theorem Jhb{xs:Array Nat}(r:Ris xs){i:Nat}(hi:i<xs.size):Q5 xs (xs[i]+1)=i+1:=by
 obtain⟨h1,h2,h3⟩:=bel r (xs[i]+1);rcases MI (Q5 xs (xs[i]+1)) (i+1) with c|c|c
 ·have:=h3 i hi (by omega);omega
 ·exact c
 ·have l:i+1<xs.size:=by omega
  have:=h2 (i+1) l c
  have:=r.lt (i:=i) (j:=i+1) (GH i) l;omega
theorem Jhc{xs:Array Nat}(r:Ris xs):Q5 xs 0=0:=by
 obtain⟨h1,h2,h3⟩:=bel r 0;rcases Nat.eq_zero_or_pos (Q5 xs 0) with c|c
 ·exact c
 ·have:=h2 0 (by omega) c;omega
theorem Jlf{xs:Array Nat}(r:Ris xs){j:Nat}(no:xs[Q5 xs j]?≠some j):Ris (SetTable.insertAt xs (Q5 xs j) j):=by
 obtain⟨h1,h2,h3⟩:=bel r j;unfold Ris;rw[SetTable.toList_insertAt];have r':=r;unfold Ris at r';rw[<- List.take_append_drop (Q5 xs j) xs.toList] at r';obtain⟨ra,rb,rc⟩:=Kc.mp r'
 have low:∀x∈xs.toList.take (Q5 xs j),x<j:=fun x hx=>by obtain⟨i,hi,e⟩:=Gv.mp hx;rw[Kx,QM] at hi;rw[List.getElem_take,RK] at e;rw[<- e];exact h2 i (by omega) (by omega)
 have high:∀x∈xs.toList.drop (Q5 xs j),j<x:=fun x hx=>by
  obtain⟨i,hi,e⟩:=Gv.mp hx;rw[MT,QM] at hi;rw[List.getElem_drop,RK] at e;have g:=h3 (Q5 xs j+i) (by omega) (by omega);rw[e] at g;rcases KL j x with q|q
  ·exact q
  ·exfalso
   have ex:x=j:=by omega
   apply no
   have b0:Q5 xs j<xs.size:=by omega
   rw[Kl b0];have g0:=h3 (Q5 xs j) b0 (Qr _);rcases Nat.eq_zero_or_pos i with z|z
   ·subst z;simp only[Nat.add_zero] at e;rw[e,ex]
   ·have:=r.lt (i:=Q5 xs j) (j:=Q5 xs j+i) (by omega) (by omega);rw[e] at this;omega
 refine Kc.mpr ⟨ra,QP.mpr ⟨high,rb⟩,fun a ha b hb=>?_⟩;rcases Qk.mp hb with e|e
 ·rw[e];exact low a ha
 ·exact rc a ha b e
noncomputable def Vac(t:SetTable)(j:Nat):Prop:=t.place[Q5 t.place j]?≠some j
theorem Jc7{t:SetTable}{j:Nat}(h:∀i,t.slot j≠.live i):Vac t j:=by intro e;refine h (Q5 t.place j) ?_;unfold SetTable.slot;dsimp only;rw[e];simp
theorem Jad(t:SetTable)(p:SetTable.Probe):(t.advance p).dummy=p.dummy:=by unfold SetTable.advance;split <;> rfl
theorem Wb{t:SetTable}{hashAt:Nat->Int}{h:Int}:∀(fuel:Nat) (p:SetTable.Probe) {j:Nat} {d:Option Nat},(∀x,p.dummy=some x->Vac t x)->MJ t hashAt h fuel p=some (.empty j d)->Vac t j/\∀x,d=some x->Vac t x
 | 0,p,j,d,hp,e=>by simp[MJ] at e
 | fuel+1,p,j,d,hp,e=>by
  unfold MJ at e;split at e
  ·rename_i c
   injection e with e
   injection e with e1 e2
   subst e1 e2;exact⟨Jc7 fun i q=>(by rw[c] at q;cases q),hp⟩
  ·rename_i c;refine Wb fuel _ (fun x hx=>?_) e;rw[Jad] at hx
   injection hx with hx
   subst hx;exact Jc7 fun i q=>by rw[c] at q;cases q
  ·split at e
   ·injection e with e;cases e
   ·exact Wb fuel _ (fun x hx=>hp x (by rwa [Jad] at hx)) e
theorem JhC{t:SetTable}{h:Int}{j:Nat}{b:Bool}(e:t.freeSlot h=some (j,b)):Vac t j:=by
 unfold SetTable.freeSlot at e;split at e
 ·rename_i j' d c
  injection e with e
  injection e with e1 _
  unfold SetTable.probe at c;obtain⟨a1,a2⟩:=Wb _ _ (fun x hx=>by simp[SetTable.probeStart] at hx) c
  cases d with
  | none=>simp at e1;subst e1;exact a1
  | some x=>simp at e1;subst e1;exact a2 _ rfl
 ·cases e
noncomputable def TOk(led:Bool)(t:SetTable):Prop:=(t.plain=true->Ris t.place)/\t.led=led
theorem U3(led:Bool)(t:SetTable)(n:Nat)(h:t.led=led):TOk led (t.standIn n):=⟨fun e=>by simp[SetTable.standIn] at e,h⟩
theorem Jjb{led:Bool}{t:SetTable}(h:TOk led t):TOk led { t with plain:=false }:=⟨fun e=>by simp at e,h.2⟩
theorem JlO{led:Bool}{t:SetTable}(h:TOk led t)(es:Array (Int×Qc))(k:Int)(x:Qc):TOk led (layNew t es k x).2.1:=by
 unfold layNew;split
 ·rename_i j b c;dsimp only;unfold SetTable.orStandIn;split
  ·exact⟨fun e=>Jlf (h.1 (by simpa [R6] using e)) (JhC c),by simpa [R6] using h.2⟩
  ·exact U3 _ _ _ (by simpa [R6] using h.2)
 ·exact U3 _ _ _ h.2
theorem Zl(g:Nat->Option Nat):∀l:List Nat,((l.filterMap fun j=>(g j).map (j,·)).map (·.1)).Sublist l
 | []=>.slnil
 | j::l=>by
  rw[Ki]
  cases h:g j with
  | none=>exact(Zl g l).cons _
  | some k=>exact(Zl g l).cons₂ _
theorem Jjc{t:SetTable}{mask f m:Nat}{led plain:Bool}{hs:Array Int}{o:Array Nat}(e:RQ mask f m led plain hs=some (t,o)):TOk led t:=by
 unfold RQ at e
 cases c:SetTable.layClean mask hs with
 | none=>rw[c] at e;cases e
 | some ow =>
  rw[c] at e;have e':some _=some (t,o):=e
  injection e' with e'
  injection e' with e1 e2
  subst e1;refine⟨fun _=>?_,rfl⟩;show List.Pairwise _ _;refine List.Pairwise.sublist (Zl _ _) ?_;exact Rf
theorem JgS{led:Bool}{t:SetTable}(h:TOk led t)(es:Array (Int×Qc))(n:Nat):TOk led (relayAll t es n).2.1:=by
 unfold relayAll;split
 ·rename_i t' o c;dsimp only;split
  ·have:=Jjc (show RQ _ _ _ _ _ _=some (t',o) from c);rw[h.2] at this;exact this
  ·exact U3 _ _ _ h.2
 ·exact U3 _ _ _ h.2
theorem JgR(a b:Nat)(led:Bool):TOk led (.fresh a b led):=⟨fun _=>List.Pairwise.nil,rfl⟩
theorem W3{α:Type}:∀{l:List α} {i:Nat} (h:i<l.length),(l[i]::l.eraseIdx i).Perm l
 | x::l,0,_=>.refl _
 | x::l,i+1,h=>by have:=W3 (l:=l) (i:=i) (by simpa using h);exact(List.Perm.swap x (l[i]'(by simpa using h)) _).trans (this.cons x)
theorem Jfk{α:Type}(next:Nat->Nat):∀(fuel k:Nat) (left:List α) (out:Array α),left.length=fuel->(R7 next fuel k left out).toList.Perm (out.toList++left)
 | 0,k,left,out,h=>by have:left=[]:=QU h;subst this;simp[R7]
 | fuel+1,k,left,out,h=>by
  unfold R7;have hl:next k % left.length<left.length:=Nat.mod_lt _ (by omega)
  rw[QG hl];dsimp only;refine(Jfk next fuel (k+1) _ _ (by rw[Mx hl];omega)).trans ?_;rw[Array.toList_push,Gh];refine List.Perm.append_left _ ?_;exact(W3 hl)
theorem JaH{α:Type}(next:Nat->Nat)(xs:Array α):(pickOrder next xs).toList.Perm xs.toList:=by
 have:=Jfk next xs.size 0 xs.toList #[] (by simp)
 simpa [pickOrder] using this
theorem Jan{prog:Qw}{w:QF}{A:QC}{E:Qc->Qe->Prop}{α:Type}:∀(n:Nat) (xs:List α) (s:Qe) (Q:List α->Qe->Prop),xs.length=n->(∀ys d,ys.Perm xs->Q ys { s with drawn:=d })->wpAny (model prog w) A (drawOrder n xs) Q E s
 | 0,xs,s,Q,hl,h=>by have:xs=[]:=QU hl;subst this;exact Qj (h [] s.drawn (.refl _))
 | n+1,xs,s,Q,hl,h=>by
  cases xs with
  | nil=>simp at hl
  | cons x xs =>
   show wpAny _ A ((choose .order (x::xs).length) >>= _) Q E s;refine Qa ?_;intro Γ p hΓ;unfold choose;rw[Sem.wp_choose];refine⟨by simp,?_⟩;rw[Sem.wp_pure]
   generalize hi:(model prog w).w.draws Source.order (s.drawn.get Source.order) % (x::xs).length=i
   have hlt:i<(x::xs).length:=by rw[<- hi];exact Nat.mod_lt _ (by simp)
   rw[QG hlt];show wpAny _ A (drawOrder n ((x::xs).eraseIdx i) >>= _) Q E _;refine Qa (Jan n _ _ _ (by rw[Mx hlt];omega) fun ys d hp=>?_);refine Qj (h ((x::xs)[i]::ys) d ?_);exact(hp.cons _).trans (W3 hlt)
end L2

namespace L2
open PySem PyProof.Rows
structure SetS (prog:Qw) (w:QF) (led:Bool) (h:QL) (a:Qd) (S:Int->Bool) (n:Nat) (o:Obj) (es:Array (Int×Qc)) (ep:Nat) (t:SetTable):Prop where
 got:h.get? a=some o
 ex:o.ExactSet
 data:o.data=.set es ep t
 els:ElemsOf (intKind prog w) es.toList
 mem:∀k,S k=true↔∃e∈es.toList,(intKind prog w).is k e.2=true
 few:es.size<scanBound
 fits:t.fits es.size=true
 size:es.size=n
 tok:TOk led t
noncomputable def SetL(prog:Qw)(w:QF)(led:Bool)(h:QL)(a:Qd)(S:Int->Bool)(n:Nat):Prop:=∃o es ep t,SetS prog w led h a S n o es ep t
section
variable{prog:Qw}{w:QF}{A:QC}{E:Qc->Qe->Prop}{s:Qe}{led:Bool}{a:Qd}{S:Int->Bool}{n:Nat}
theorem SetL.move{h h':QL}(x:SetL prog w led h a S n)(e:∀o,h.get? a=some o->h'.get? a=some o):SetL prog w led h' a S n :=
 let ⟨o,es,ep,t,z⟩:=x;⟨o,es,ep,t,{ z with got:=e _ z.got }⟩
theorem SetL.as{h:QL}{S':Int->Bool}{n':Nat}(x:SetL prog w led h a S n)(e:∀k,S k=S' k)(en:n=n'):SetL prog w led h a S' n':=by have:S=S':=funext e;subst this en;exact x
theorem Jc1{h:QL}{o:Obj}{es:Array (Int×Qc)}{ep:Nat}{t:SetTable}(ho:h.get? a=some o)(hex:o.ExactSet)(hd:o.data=.set es ep t){es':Array (Int×Qc)}{t':SetTable}{S':Int->Bool}
 (h1:ElemsOf (intKind prog w) es'.toList) (h2:∀k,S' k=true↔∃e∈es'.toList,(intKind prog w).is k e.2=true) (h3:es'.size<scanBound) (h4:t'.fits es'.size=true) (h5:TOk led t') :
 SetS prog w led (h.update a (Obj.putSet es' t')) a S' es'.size { o with data:=.set es' (ep+1) t' } es' (ep+1) t' :=
 ⟨(SetOf_store (knd:=intKind prog w) ho hex hd h1 h2 h3 h4).1,hex,rfl,h1,h2,h3,h4,rfl,h5⟩
theorem Jc4{g:Bool->Sem Unit}(hg:∀(b:Bool) (s1:Qe) (Q:Unit->Qe->Prop),Q () s1->wpAny (model prog w) A (g b) Q E s1)
 {o:Obj} {es:Array (Int×Qc)} {ep:Nat} {t:SetTable} (ho:s.heap.get? a=some o) (hex:o.ExactSet) (hd:o.data=.set es ep t) {es1:Array (Int×Qc)} {t2:SetTable} {S':Int->Bool}
 (h1:ElemsOf (intKind prog w) es1.toList) (h2:∀k,S' k=true↔∃e∈es1.toList,(intKind prog w).is k e.2=true) (h3:es1.size<scanBound) (h4:t2.fits es1.size=true) (h5:TOk led t2) {dm:Bool} {R:Option Bool->Qe->Prop}
 (h:∀h',QQ a s.heap h'->SetL prog w led h' a S' es1.size->R (some true) { s with heap:=h' }) :
 wpAny (model prog w) A (storeSet a es1 t2 >>= fun _=>if (!dm && t2.tooFull)=true then
  (g (relayAll t2 es1 (K1 es1.size)).2.2 >>= fun _=>storeSet a (relayAll t2 es1 (K1 es1.size)).1 (relayAll t2 es1 (K1 es1.size)).2.1 >>= fun _=>pure (some true))
  else pure (some true)) R E s:=by
 refine Qa (wpAny_storeSet_of ho hd ?_ (fits_of_scanBound h3));have z:=Jc1 (prog:=prog) (w:=w) ho hex hd h1 h2 h3 h4 h5;have sb:=Q1 s.heap a (Obj.putSet es1 t2);split
 ·have hp:=relayAll_perm t2 es1 (K1 es1.size)
  have hf:=relayAll_fits t2 es1 (K1 es1.size)
  have hk:=JgS h5 es1 (K1 es1.size)
  generalize relayAll t2 es1 (K1 es1.size)=T at hp hf hk ⊢
  obtain⟨es2,t3,gv⟩:=T;dsimp only at hp hf hk ⊢;have sz:es2.size=es1.size:=by rw[<- QM,hp.length_eq,QM]
  refine Qa (hg _ _ _ ?_);refine Qa (wpAny_storeSet_of z.got rfl ?_ (fits_of_scanBound (by rw[sz];exact h3)));have z2:=Jc1 (prog:=prog) (w:=w) (led:=led) (S':=S') (es':=es2) (t':=t3) z.got hex rfl (h1.perm hp) (fun k=>(h2 k).trans ⟨fun⟨e,he,q⟩=>⟨e,hp.mem_iff.mpr he,q⟩,fun⟨e,he,q⟩=>⟨e,hp.mem_iff.mp he,q⟩⟩) (by rw[sz];exact h3) hf hk;rw[sz] at z2;exact Qj (h _ (sb.trans (Q1 _ a _)) ⟨_,_,_,_,z2⟩)
 ·exact Qj (h _ sb ⟨_,_,_,_,z⟩)
theorem Jlt{k:Int}{tk:Tok}{Q:Bool->Qe->Prop}(hS:SetL prog w led s.heap a S n)(room:n+1<scanBound)
 (h:∀h',QQ a s.heap h'->SetL prog w led h' a (fun k'=>S k' || decide (k'=k)) (if S k then n else n+1)->Q (!S k) { s with heap:=h' }) :
 wpAny (model prog w) A (setAddHashed a (.int k tk) ((intKind prog w).hash k)) Q E s:=by
 have key:(intKind prog w).is k (.int k tk)=true:=intKind_is _ _ _ _;obtain⟨o,es,ep,t,z⟩:=hS
 have few1:es.size+1<scanBound:=by rw[z.size];exact room
 unfold setAddHashed setAddHashedIn;refine G8 (Qa (G5 z.got z.data z.fits ?_));dsimp only;rw[byScan_of (x:=.int k tk) rfl z.few z.els];simp only[↓reduceIte];unfold setAddByScan;refine Qa (Qa (Kz (Qa (wpAny_setScan_of key z.got z.data z.fits z.els ?_))))
 cases hr:List.findIdx? (fun e=>(intKind prog w).is k e.2) es.toList with
 | some j =>
  dsimp only;obtain⟨hj,hpj,_⟩:=List.findIdx?_eq_some_iff_getElem.mp hr;have yes:S k=true:=(z.mem k).mpr ⟨es.toList[j],MW hj,hpj⟩;refine Qj (Qj ?_)
  have:=h s.heap (Heap.SameBut.refl a s.heap) (SetL.as ⟨o,es,ep,t,z⟩ (fun k'=>by
   cases hk:S k' with
   | true=>rfl
   | false =>
    have:k'≠k:=fun e=>by rw[e,yes] at hk;cases hk
    simp[this]) (by rw[yes];rfl))
  rw[yes] at this;exact this
 | none =>
  dsimp only
  have no:S k=false:=by
   cases hk:S k with
   | false=>rfl
   | true=>obtain⟨e,he,hp⟩:=(z.mem k).mp hk;have:=List.findIdx?_eq_none_iff.mp hr e he;rw[hp] at this;cases this
  have hp:=layNew_perm t es ((intKind prog w).hash k) (.int k tk)
  have hf:=layNew_fits t es ((intKind prog w).hash k) (.int k tk)
  have ht:=JlO z.tok es ((intKind prog w).hash k) (.int k tk)
  generalize layNew t es ((intKind prog w).hash k) (.int k tk)=L at hp hf ht ⊢
  obtain⟨es1,t1,dm,gv⟩:=L;dsimp only at hp hf ht ⊢;rw[Array.toList_push] at hp;have e1:ElemsOf (intKind prog w) es1.toList:=(z.els.push key rfl).perm hp;have m1:=mem_push_iff key z.mem hp;have sz1:es1.size=n+1:=by rw[<- QM,hp.length_eq,Qz,QM,z.size];rfl
  have f1:es1.size<scanBound:=by rw[sz1];exact room
  have gw:∀(b:Bool) {s1:Qe} {Q':Unit->Qe->Prop},Q' () s1->wpAny (model prog w) A (match b with | true=>rule "set.scan.the-table-gave-way" | false=>pure ()) Q' E s1:=fun b s1 Q' hq=>by
   cases b
   ·exact Qj hq
   ·exact Kz hq
  refine Qa (gw _ ?_)
  have fin:∀h',QQ a s.heap h'->SetL prog w led h' a (fun k'=>S k' || decide (k'=k)) es1.size->Q true { s with heap:=h' }:=by intro h' sb hS';have:=h h' sb;rw[no] at this;rw[sz1] at hS';exact this hS'
  split
  ·refine Qa ?_;rw[hashByValue_scannable 8 (x:=.int k tk) rfl];refine Qj ?_;refine Jc4 (led:=led) ?_ z.got z.ex z.data e1 m1 f1 ?_ ?_ ?_
   ·intro b s1 Q' hq;cases b <;> first|exact Qj hq|exact Kz hq
   ·split
    ·exact hf
    ·exact SetTable.fits_plain_off hf
   ·split
    ·exact ht
    ·exact Jjb ht
   ·intro h' sb hS';dsimp only;exact Qj (fin h' sb hS')
  ·refine Qa (Qj ?_);simp only[↓reduceIte];refine Jc4 (led:=led) ?_ z.got z.ex z.data e1 m1 f1 hf ht ?_
   ·intro b s1 Q' hq;cases b <;> first|exact Qj hq|exact Kz hq
   ·intro h' sb hS';dsimp only;exact Qj (fin h' sb hS')
end
section
variable{prog:Qw}{w:QF}{A:QC}{R:M8->Qe->Prop}{I:Qd}{fp wr:List Qd}{G:Array GenState->Array GenState->Prop}{n:Nat}{P:Nat->Qc->Prop}{St:Nat->Qe->Prop}
theorem JiR{led:Bool}(W:WalksS prog w A.in1 I fp wr G n P St)(a:Qd)(hf:a∉fp)(val:Nat->Int)(hv:∀i v,P i v->∃t,v=.int (val i) t)(hb:n+1<scanBound) :
 ∀(k i:Nat) (s:Qe),n-i=k->i<=n->St i s->SetL prog w led s.heap a (fun k'=>(firstMet val i).any (· == k')) (firstMet val i).length ->
  (∀s',Moved (a::wr) G s s'->SetL prog w led s'.heap a (fun k'=>(firstMet val n).any (· == k')) (firstMet val n).length->R (.ok (.ret .none)) s') ->
  codeAny (model prog w) A (.builtin "set.update.loop" ⟨[.ref a,.ref I],[]⟩) R s:=by
 have hw:a∉wr:=fun h=>hf (W.sub _ h)
 have up:∀b∈wr,b∈a::wr:=fun b hb=>Qf _ hb
 intro k
 induction k with
 | zero =>
  intro i s hk hi st hS hR;obtain rfl:i=n:=by omega
  refine G9 MZ ?_;rw[GJ LL _];show wpAny _ A.in1 (pyNext (.ref I) >>= _) _ _ s;exact Qa (W.done s _ _ st fun s' hm=>Qj (hR s' (hm.mono up) (hS.move fun o e=>hm.heap a _ hw e)))
 | succ k ih =>
  intro i s hk hi st hS hR;have lt:i<n:=by omega
  refine G9 MZ ?_;rw[GJ LL _];show wpAny _ A.in1 (pyNext (.ref I) >>= _) _ _ s;refine Qa (W.item i s _ _ lt st fun v s' hP st' hm=>?_);obtain⟨t,rfl⟩:=hv i v hP;have hS':=hS.move (h':=s'.heap) fun o e=>hm.heap a _ hw e
  show wpAny _ A.in1 (holding [Value.int (val i) t] (setAdd a (.int (val i) t)) >>= _) _ _ s';refine Qa (G8 ?_);unfold setAdd;refine G8 (Qa ((intKind prog w).pyHash (k:=val i) (intKind_is _ _ _ _) ?_))
  have room:(firstMet val i).length+1<scanBound:=by have:=firstMet_length_le val i;omega
  refine Jlt (s:={ s' with toks:=s'.toks+1 }) hS' room fun h' sb hS2=>?_
  have hS3:=hS2.as (S':=fun k'=>(firstMet val (i+1)).any (· == k')) (n':=(firstMet val (i+1)).length) (fun k'=>by rw[firstMet_succ,step_any]) (by rw[firstMet_succ,step_length]);refine Qj ⟨Kp LL _,ih (i+1) _ (by omega) lt (W.frame _ s' _ _ st' (LH _) fun b hb o e=>?_) hS3 fun s'' hm'' hS''=>?_⟩
  ·rw[sb.2 b (fun h:b=a=>hf (by rw[<- h];exact hb))];exact e
  ·refine hR s'' (Moved.trans W.gtrans ((hm.mono up).then_heap (LH _) fun b o hb e=>?_) hm'') hS'';rw[sb.2 b (fun h:b=a=>hb (by rw[h];exact Qh))];exact e
end
end L2

namespace L2
open PySem PyProof.Rows
noncomputable def YC(w:QF):Bool:=!(w.params.followText "set-order")
noncomputable def Ub(led:Bool):Obj:={ cls:=.type "set",dict:=none,data:=.set #[] 0 (.fresh 0 0 led) }
section
variable{prog:Qw}{w:QF}{A:QC}{E:Qc->Qe->Prop}{s:Qe}
theorem JiQ(led:Bool){h:QL}{a:Qd}(e:h.get? a=some (Ub led)):SetL prog w led h a (fun _=>false) 0 :=
 ⟨_,#[],0,_,e,⟨rfl,rfl,rfl⟩,rfl,fun e he=>by simp at he,fun k=>by simp,by decide,by rfl,rfl,JgR 0 0 led⟩
theorem Jc3(a:Qc){Q:Qc->Qe->Prop}(h:Q (.ref s.heap.objs.size) { s with heap:=s.heap.push (Ub (YC w)) }) :
 codeAny (model prog w) A (.call (.builtin "set.__new__") ⟨[.type "set",a],[]⟩) (wants Q E) s:=by
 refine codeAny_of_tree ?_;show wpAny _ A.in1 (checkBuiltinCall "set.__new__" ⟨[.type "set",a],[]⟩ >>= fun _=>again (.builtin "set.__new__" ⟨[.type "set",a],[]⟩)) _ _ s;refine Qa (RE (F.newCall_set_1 a) (Qj ⟨Kp F.plain_set_new _,G9 F.entry_set_new ?_⟩));rw[GJ F.plain_set_new _];unfold Builtin.«set.__new__» Builtin.Frozenset.newClass;have hsub:=sub_set_self;obtain⟨hp,g,d,tk,os⟩:=s;dsimp only;wp_walk;refine K2 (Qj ?_)
 dsimp only;simp only[newObj];exact Qa (wpAny_alloc (Qj (Qj h)))
theorem JfZ{l:Qd}{items:Array Qc}{ns:List Int}{Q:Qc->Qe->Prop}(hh:A.handled=none)(hl:s.heap.IsList l items)(hi:IntsAre items.toList ns)(hb:items.size+1<scanBound)
 (h:∀(h':QL) (tk:Nat),SetL prog w (YC w) h' s.heap.objs.size (fun k'=>(firstMet (fun i=>ns.getD i 0) items.size).any (· == k')) (firstMet (fun i=>ns.getD i 0) items.size).length ->
  (∀b o,s.heap.get? b=some o->h'.get? b=some o)->Q (.ref s.heap.objs.size) { s with heap:=h',toks:=tk }) :
 wpAny (model prog w) A (call (.type "set") [.ref l]) Q E s:=by
 obtain⟨c,tl,hmro⟩:=K7.mro;have hmade:=K7.made;have hsub:=K7.sub;refine wpAny_call (codeAny_of_tree ?_);show wpAny _ _ (callAny (.type "set") _) _ _ _;refine Qj ⟨Code.quiet_builtin _ (by decide +kernel),G9 F.entry_type_call ?_⟩;rw[Around.under_plain (weight_type_call_type "set" [.ref l] []) rfl];have n1:=K7.notType;have n2:=K7.canCreate;have n3:=F.typeCall_set_1 (.ref l)
 repeat (any_goals (first|assumption|wp_step))
 refine KI (Jc3 (.ref l) (E:=E) (Q:=fun obj s1=>obj=.ref s.heap.objs.size/\s1={ s with heap:=s.heap.push (Ub (YC w)) }) ⟨rfl,rfl⟩) fun r s1 hr=>?_
 cases r with
 | error e=>exact hr
 | ok fl =>
  cases fl with
  | ret obj =>
   obtain⟨rfl,rfl⟩:=hr;have hS:(s.heap.push (Ub (YC w))).get? s.heap.objs.size=some (Ub (YC w)):=Qn _ rfl;have hT:Shared.TypeIs { s with heap:=s.heap.push (Ub (YC w)) } (.ref s.heap.objs.size) "set":=⟨_,hS,rfl⟩
   have i1:=K7.init.lookup
   have i2:=K7.init.bind (.ref s.heap.objs.size)
   repeat (any_goals (first|assumption|wp_step))
   refine KI (codeAny_call_builtin (R:=wants (fun r s2=>r=.none/\∃h' tk,s2={ s with heap:=h',toks:=tk } ∧
    SetL prog w (YC w) h' s.heap.objs.size (fun k'=>(firstMet (fun i=>ns.getD i 0) items.size).any (· == k')) (firstMet (fun i=>ns.getD i 0) items.size).length ∧
    (∀b o,s.heap.get? b=some o->h'.get? b=some o)) E) K7.init.plain F.entry_set_init (check_set_init_1 hT ?_)) fun r2 s2 hr2=>?_
   ·obtain⟨ol,hol,hcl,nl,hdl⟩:=hl;obtain⟨oc,od,oda,osl⟩:=ol;simp only at hcl hdl;subst hcl;subst hdl;have hol':(s.heap.push (Ub (YC w))).get? l=some { cls:=.type "list",dict:=od,data:=.seq items nl,slots:=osl }:=Qi _ hol;have b1:=F.sub_list_set;have b2:=F.sub_list_frozenset;have b3:(Value.type "list" == Value.type "dict")=false:=by decide
    have hl1:(s.heap.push (Ub (YC w))).IsList l items:=⟨_,hol',rfl,nl,rfl⟩
    unfold Builtin.«set.__init__» noKeywords Builtin.Frozenset.updateFrom
    generalize hPI:pyIter=PI
    wp_walk
    subst hPI;refine LN hl1 (Qa (RH ?_));have lS:l<s.heap.objs.size:=Qp hol;have hh3:A.in1.in1.in1.handled=none:=by simp[hh]
    have neI:l≠(s.heap.push (Ub (YC w))).objs.size:=by rw[Ge];exact QB (Gn lS)
    have off:s.heap.objs.size∉[(s.heap.push (Ub (YC w))).objs.size,l]:=by rw[Ge];simp only[Qk,GN,GQ,or_false,not_or];exact⟨QB (GH _),Kn lS⟩
    refine JiR (led:=YC w) ((Walks.list hh3 _ l neI items).toS) s.heap.objs.size off (fun i=>ns.getD i 0) (fun i v hv=>IntsAre.int_at hi i v (by rw[GW];exact hv)) hb (items.size-0) 0 _ (by omega) (GA _)
     ⟨⟨_,Qn _ rfl,rfl,rfl⟩,(hl1.push _)⟩ (JiQ _ (Qi _ hS)) fun s' hm hS'=>?_
    obtain⟨h',g',d',tk',os'⟩:=s';have eg:g'=s.gens:=hm.gens;have ed:d'=s.drawn:=hm.drawn;have eo:os'=s.os:=hm.os;subst eg;subst ed;subst eo;show wpAny _ _ _ _ _ _;refine Qj ?_;show wpAny _ _ (ret Value.none) _ _ _;refine Qj ⟨rfl,h',tk',rfl,hS',fun b o e=>?_⟩;have hb0:=Qp e;refine hm.heap b o ?_ (Qi _ (Qi _ e));rw[Ge];simp only[Qk,GN,GQ,or_false,not_or]
    exact⟨QB hb0,QB (Gn hb0)⟩
   ·cases r2 with
    | error e=>exact hr2
    | ok fl2 =>
     cases fl2 with
     | ret r =>
      obtain⟨rfl,h',tk,rfl,hS',hk'⟩:=hr2
      repeat (any_goals (first|assumption|wp_step))
      exact h _ _ hS' hk'
     | _=>exact hr2.elim
  | _=>exact hr.elim
end
end L2

namespace L2
open PySem PyProof.Rows PySem.W
theorem si_slot_next:Slot "set_iterator" "__next__" "set_iterator.__next__" :=
 .of (owner:="set_iterator") (n:="__next__") (by rw[typeLookup_type,builtinLookup_eq_fast];kernel_rfl) (by decide +kernel) (by decide +kernel) (by decide +kernel) (.inl (by decide +kernel)) (by rw[RL];kernel_rfl)
theorem U8:entryFor table "set_iterator.__next__"=some Builtin.«set_iterator.__next__»:=entryFor_of_tree (by kernel_rfl)
theorem Jc6:Manifest.owners.lookup (String.ofList ['r','o','t','a','r','e','t','i','_','t','e','s'].reverse)=some Manifest.sig_set_iterator:=by kernel_rfl
theorem VM(a:Qc):argsOk "set_iterator.__next__" ⟨[a],[]⟩:=by
 unfold argsOk;rw[signature?_of (id:="set_iterator.__next__") (n:=['_','_','t','x','e','n','_','_']) (o:=['r','o','t','a','r','e','t','i','_','t','e','s']) (by kernel_rfl) Jc6]
 kernel_rfl
theorem VN:Slot "set_iterator" "__iter__" "set_iterator.__iter__" :=
 .of (owner:="set_iterator") (n:="__iter__") (by rw[typeLookup_type,builtinLookup_eq_fast];kernel_rfl) (by decide +kernel) (by decide +kernel) (by decide +kernel) (.inl (by decide +kernel)) (by rw[RL];kernel_rfl)
theorem Z1:entryFor table "set_iterator.__iter__"=some Builtin.«dict_keyiterator.__iter__»:=entryFor_alias (id':="dict_keyiterator.__iter__") (by kernel_rfl) rfl (by decide +kernel) (by kernel_rfl)
theorem JbH(a:Qc):argsOk "set_iterator.__iter__" ⟨[a],[]⟩:=by
 unfold argsOk;rw[signature?_of (id:="set_iterator.__iter__") (n:=['_','_','r','e','t','i','_','_']) (o:=['r','o','t','a','r','e','t','i','_','t','e','s']) (by kernel_rfl) Jc6]
 kernel_rfl
theorem ZL:entryFor table "set.__iter__"=some Builtin.«frozenset.__iter__»:=entryFor_alias (id':="frozenset.__iter__") (by kernel_rfl) rfl (by decide +kernel) (by kernel_rfl)
end L2

namespace L2
open PySem PyProof.Rows PySem.W
noncomputable def SIt(h:QL)(I d:Qd)(f:Qc)(i n ep:Nat):Prop:=∃o,h.get? I=some o/\o.cls=.type "set_iterator"/\o.data=.fields #[f,.int i 0,.ref d,.int n 0,.int ep 0]
section
variable{prog:Qw}{w:QF}{A:QC}{E:Qc->Qe->Prop}{s:Qe}{I d:Qd}{f:Qc}{i n ep:Nat}{es:Array (Int×Qc)}{t:SetTable}{o:Obj}
theorem SIt.type{s:Qe}(x:SIt s.heap I d f i n ep):s.TypeIs (.ref I) "set_iterator":=let ⟨o,ho,hc,_⟩:=x;⟨o,ho,hc⟩
theorem SIt.at{h h':QL}(x:SIt h I d f i n ep)(e:∀o,h.get? I=some o->h'.get? I=some o):SIt h' I d f i n ep:=let ⟨o,ho,r⟩:=x;⟨o,e _ ho,r⟩
theorem Jfu{Q:Qc->Qe->Prop}(hit:SIt s.heap I d f i n ep)(h:Q (.ref I) s):wpAny (model prog w) A (pyIter (.ref I)) Q E s:=by refine wpAny_pyIter_slot hit.type VN (Gm VN hit.type Z1 ?_ (JbH _));show wpAny _ _ (ret (.ref I)) _ _ s;exact Qj ⟨_,rfl,"set_iterator",_,hit.type,si_slot_next.lookup,h⟩
theorem Jfv{Q:Option Qc->Qe->Prop}(hh:A.handled=none){h1:QL}(hx:∀h',LJ I s.heap h'->Q none { s with heap:=h' })(he:LJ I s.heap h1) :
 wpAny (model prog w) A.in1 (newExc (.type "StopIteration") [] >>= fun e=>raiseNew e) (fun(fin:Fin) s'=>∃r,fin=.done (.ret r)/\wpAny (model prog w) A (pure (some r)) Q E s') (fun e s'=>wpAny (model prog w) A (isInstance e (.type "StopIteration") >>= fun b=>if b=true then pure none else throw e) Q E s') { s with heap:=h1 }:=by
 refine Qa ?_;simp only[newExc,newTuple];refine Qa (Gc ?_ (by size_fits));refine Qa (m:=firstArgMember _ _) (RE (a:=Value.none) (by first | rfl | (simp only[firstArgMember];rfl)) ?_);refine Gc ?_ (by size_fits);simp only[raiseNew];refine Qa (wpAny_handled ?_);rw[show A.in1.handled=none from hh];refine Qa (Qj (wpAny_throw ?_));refine Qa (LW (T:="StopIteration") (b:=true) ⟨_,Qn _ rfl,rfl⟩ RG ?_)
 exact Qj (hx _ ((he.push _).push _))
theorem Jft{Q:Option Qc->Qe->Prop}{sl:Nat}{r:Option (Qc×Nat)}(hh:A.handled=none)(hit:SIt s.heap I d (.int sl 0) i es.size ep)(ho:s.heap.get? d=some o)(hd:o.data=.set es ep t)(hf:t.fits es.size=true)
 (nx:∀(A:QC) (E:Qc->Qe->Prop) (Q:Option (Qc×Nat)->Qe->Prop),Q r s->wpAny (model prog w) A (setNext d sl i ep) Q E s)
 (item:∀x j h',r=some (x,j)->SIt h' I d (.int j 0) (i+1) es.size ep->QQ I s.heap h'->Q (some x) { s with heap:=h' })
 (done:r=none->∀h',LJ I s.heap h'->Q none { s with heap:=h' }):wpAny (model prog w) A (pyNext (.ref I)) Q E s:=by
 obtain⟨oi,hoi,hci,hdi⟩:=id hit;unfold pyNext;refine Qa (Lb (Gg (name:=Gr "__next__") hit.type si_slot_next (Gm si_slot_next hit.type U8 ?_ (VM _))));unfold Builtin.«set_iterator.__next__»;refine Qa (Qj (Qa (wpAny_fieldsOf hoi hdi ?_)));show wpAny _ _ (setEntries d >>= _) _ _ s;refine Qa (Mb ho hd hf ?_);rw[if_neg (by simp)];show wpAny _ _ (setNext d ((sl:Int).toNat) ((i:Int).toNat) ((ep:Int).toNat) >>= _) _ _ s
 rw[G4,G4,G4];refine Qa (nx _ _ _ ?_)
 cases hr:r with
 | some p =>
  obtain⟨x,j⟩:=p;dsimp only;refine Qa (KB hoi hdi (by simp) ?_);have h1:=GC (MP (·.setIfInBounds 0 (rawInt j))) hoi (KD (GM hdi _));have d1:=GM hdi (·.setIfInBounds 0 (rawInt j));refine Qa (KB h1 d1 (by simp) ?_);refine Qj ⟨_,rfl,Qj (item x j _ hr ⟨_,GC _ h1 (KD (GM d1 _)),?_,?_⟩ ((Q1 ..).trans (Q1 ..)))⟩
  ·rw[LO,LO];exact hci
  ·rw[GM d1];simp[rawInt]
 | none=>dsimp only;refine Qa (KB hoi hdi (by simp) ?_);exact Jfv hh (done hr) (Q1 ..).extBut
theorem Jc5{Q:Option Qc->Qe->Prop}{T:Qd}{ps:List Nat}{oT:Obj}{cT:Nat}(hh:A.handled=none)(hit:SIt s.heap I d (.ref T) i es.size ep)(ho:s.heap.get? d=some o)(hd:o.data=.set es ep t)(hf:t.fits es.size=true)
 (hT:s.heap.get? T=some oT) (hTd:oT.data=.seq (ps.map fun(i:Nat)=>rawInt i).toArray cT)
 (item:∀p e h',ps[i]?=some p->es[p]?=some e->SIt h' I d (.ref T) (i+1) es.size ep->QQ I s.heap h'->Q (some e.2) { s with heap:=h' }) (inn:∀p∈ps,p<es.size)
 (done:ps[i]?=none->∀h',LJ I s.heap h'->Q none { s with heap:=h' }):wpAny (model prog w) A (pyNext (.ref I)) Q E s:=by
 obtain⟨oi,hoi,hci,hdi⟩:=id hit;unfold pyNext;refine Qa (Lb (Gg (name:=Gr "__next__") hit.type si_slot_next (Gm si_slot_next hit.type U8 ?_ (VM _))));unfold Builtin.«set_iterator.__next__»;refine Qa (Qj (Qa (wpAny_fieldsOf hoi hdi ?_)));show wpAny _ _ (setEntries d >>= _) _ _ s;refine Qa (Mb ho hd hf ?_);rw[if_neg (by simp)];show wpAny _ _ (seqItems? (.ref T) >>= _) _ _ s
 unfold seqItems?;refine Qa (Qa (wpAny_load hT ?_));rw[hTd];refine Qj ?_;dsimp only;rw[G4];have ee:(ps.map fun(i:Nat)=>rawInt i).toArray[i]?=(ps[i]?).map fun(i:Nat)=>rawInt i:=by simp
 rw[ee]
 cases hp:ps[i]? with
 | some p =>
  have hlt:=inn p (QJ hp)
  show wpAny _ _ (setNextDrawn d ((p:Int).toNat) ((ep:Int).toNat) >>= _) _ _ s;rw[G4,G4];unfold setNextDrawn;refine Qa (Qa (G5 ho hd hf ?_));dsimp only;rw[if_neg (by simp)];refine Qa (Qj ?_);rw[Kl hlt];dsimp only;refine Qj ?_;refine Qa (KB hoi hdi (by simp) ?_);refine Qj ⟨_,rfl,Qj (item p es[p] _ hp (Kl hlt) ⟨_,GC _ hoi (KD (GM hdi _)),?_,?_⟩ (Q1 ..))⟩
  ·rw[LO];exact hci
  ·rw[GM hdi];simp[rawInt]
 | none =>
  show wpAny _ _ (setField (.ref I) 0 (rawInt 0) >>= _) _ _ s;refine Qa (KB hoi hdi (by simp) ?_)
  have h1:=GC (MP (·.setIfInBounds 0 (rawInt 0))) hoi (KD (GM hdi _))
  have d1:=GM hdi (·.setIfInBounds 0 (rawInt 0))
  generalize hg:s.heap.update I (MP (·.setIfInBounds 0 (rawInt 0)))=g at h1
  have sb:QQ I s.heap g:=by rw[<- hg];exact Q1 ..
  generalize MP (·.setIfInBounds 0 (rawInt 0)) oi=oj at h1 d1
  refine Qa (KB (s:={ s with heap:=g }) h1 d1 (by simp) ?_);exact Jfv (s:=s) hh (done hp) (sb.trans (Q1 ..)).extBut
noncomputable def SHas(h:QL)(d:Qd)(es:Array (Int×Qc))(ep:Nat)(t:SetTable):Prop:=∃o,h.get? d=some o/\o.ExactSet/\o.data=.set es ep t
theorem SHas.at{h h':QL}(x:SHas h d es ep t)(e:∀o,h.get? d=some o->h'.get? d=some o):SHas h' d es ep t:=let ⟨o,ho,r⟩:=x;⟨o,e _ ho,r⟩
theorem Jlx{Q:Option (Qc×Nat)->Qe->Prop}(bt:w.params.followText "set-order"=true)(hs:SHas s.heap d es ep t)(hf:t.fits es.size=true){sl:Nat}
 (h:Q (((pickOrder (w.params.setOrder d ep) es)[i]?).map fun e=>(e.2,sl)) s):wpAny (model prog w) A (setNext d sl i ep) Q E s:=by
 obtain⟨o,ho,_,hd⟩:=hs;unfold setNext setsByText;refine Qa (G5 ho hd hf (Qa (Qa (K2 (Qj ?_)))));show wpAny _ _ (if w.params.followText "set-order"=true then _ else _) _ _ s;rw[if_pos bt,if_neg (by simp)];refine Qa ?_;unfold setWalk setsByText;refine Qa (G5 ho hd hf (Qa (Qa (K2 (Qj ?_)))));show wpAny _ _ (if w.params.followText "set-order"=true then _ else _) _ _ s
 rw[if_pos bt];exact Qa (K2 (Qj (Qj h)))
noncomputable def Jec(t:SetTable)(i:Nat):Nat:=if i=0 then 0 else t.place.getD (i-1) 0+1
theorem JiT{t:SetTable}(r:Ris t.place){i:Nat}(h:i<=t.place.size):Q5 t.place (Jec t i)=i:=by
 unfold Jec
 by_cases c:i=0
 ·rw[if_pos c,c];exact Jhc r
 ·rw[if_neg c];have hi:i-1<t.place.size:=by omega
  have e:t.place.getD (i-1) 0=t.place[i-1]:=by simp[Mw,hi]
  rw[e,Jhb r hi];omega
theorem JiW{Q:Option (Qc×Nat)->Qe->Prop}(bt:w.params.followText "set-order"=false)(hs:SHas s.heap d es ep t)(hf:t.fits es.size=true)(tok:TOk (YC w) t)(nd:(!t.plain && decide (es.size>1))=false)(hi:i<=es.size)
 (h:Q ((es[i]?).map fun e=>(e.2,Jec t (i+1))) s):wpAny (model prog w) A (setNext d (Jec t i) i ep) Q E s:=by
 obtain⟨o,ho,_,hd⟩:=hs;have hp:t.place.size=es.size:=by simp only[SetTable.fits,QX,beq_iff_eq] at hf;exact hf.1
 have ris:Ris t.place:=by
  cases c:t.plain with
  | true=>exact tok.1 c
  | false =>
   rw[c] at nd;have z:es.size<=1:=by simpa using nd
   unfold Ris;have:t.place.toList.length<=1:=by rw[QM];omega
   match t.place.toList,this with
   | [],_=>exact .nil
   | [x],_=>exact M0 _ _
 have led:t.led=true:=by rw[tok.2];unfold YC;rw[bt];rfl
 unfold setNext setsByText;refine Qa (G5 ho hd hf (Qa (Qa (K2 (Qj ?_)))));show wpAny _ _ (if w.params.followText "set-order"=true then _ else _) _ _ s;rw[if_neg (by rw[bt];exact QD)];show wpAny _ _ (if (!t.plain && decide (es.size>1))=true then _ else _) _ _ s;rw[if_neg (by rw[nd];exact QD)];refine Qa (m:=if (!t.led && !es.isEmpty)=true then _ else _) ?_;rw[if_neg (by rw[led];simp)]
 refine Qj ?_;dsimp only;rw[JiT ris (by omega)];refine Qj ?_
 cases c:es[i]? with
 | none=>rw[c] at h;exact h
 | some e =>
  have hlt:i<t.place.size:=by rw[hp];exact(Array.getElem?_eq_some_iff.mp c).1
  rw[Kl hlt];rw[c] at h
  have:Jec t (i+1)=t.place[i]+1:=by unfold Jec;rw[if_neg (by omega)];simp[Mw,hlt]
  rw[KH,this] at h;exact h
theorem Jlv{Q:Qc->Qe->Prop}(hh:A.handled=none)(hs:SHas s.heap d es ep t)(hf:t.fits es.size=true)(tok:TOk (YC w) t)(hz:es.size<=Qt)
 (h:∀(I:Qd) (h':QL) (dr:Drawn) (ys:List Qc) (fp:List Qd) (St:Nat->QL->Prop),ys.Perm (es.toList.map (·.2))->s.heap.objs.size<=I->(∀b o,s.heap.get? b=some o->h'.get? b=some o) ->
  Walks prog w A I fp [I] es.size (fun i v=>ys[i]?=some v) St->St 0 h'->(∀b∈fp,s.heap.objs.size<=b\/b=d)->(∀b∈fp,b<h'.objs.size)->Q (.ref I) { s with heap:=h',drawn:=dr }) :
 wpAny (model prog w) A (pyIter (.ref d)) Q E s:=by
 obtain⟨o,ho,hex,hd⟩:=id hs;have hT:s.TypeIs (.ref d) "set":=⟨o,ho,hex.1⟩
 have dlt:d<s.heap.objs.size:=Qp ho;refine wpAny_pyIter_slot hT F.slot_set_iter (Gm F.slot_set_iter hT ZL ?_ (F.args_set_iter_1 _));unfold Builtin.«frozenset.__iter__» Builtin.Frozenset.slot0 Builtin.Frozenset.sizeOf Builtin.Frozenset.addrOf;refine Qa (Qa (Qj (Qj ?_)));refine Qa (Qa (Mb ho hd hf (Qj ?_)));refine Qa ?_;unfold setDrawn setsByText;refine Qa (G5 ho hd hf (Qa (Qa (K2 (Qj (Qj ?_))))))
 show wpAny _ _ (if (!w.params.followText "set-order" && (!t.plain && decide (es.size>1)))=true then _ else _) _ _ s
 have one:∀(sl:Nat->Nat) (ys:List Qc),sl 0=0->ys.Perm (es.toList.map (·.2))->ys.length=es.size ->
  (∀(i:Nat) (s:Qe),i<=es.size->SHas s.heap d es ep t->∀(A:QC) (E:Qc->Qe->Prop) (Q:Option (Qc×Nat)->Qe->Prop),Q ((ys[i]?).map fun v=>(v,sl (i+1))) s->wpAny (model prog w) A (setNext d (sl i) i ep) Q E s) ->
  Walks prog w A s.heap.objs.size [s.heap.objs.size,d] [s.heap.objs.size] es.size (fun i v=>ys[i]?=some v) (fun i h=>SIt h s.heap.objs.size d (.int (sl i) 0) i es.size ep/\SHas h d es ep t/\i<=es.size):=fun sl ys s0 pm yl nx=>{
  sub:=fun b hb=>by simp at hb;simp[hb]
  frame:=fun i h h' st hk=>⟨st.1.at fun o e=>hk _ (by simp) o e,st.2.1.at fun o e=>hk d (by simp) o e,st.2.2⟩
  item:=fun i s1 Q E hi st hQ=>by
   obtain⟨o1,ho1,_,hd1⟩:=id st.2.1;refine Jft hh st.1 ho1 hd1 hf (fun A E Q hq=>nx i s1 st.2.2 st.2.1 A E Q hq) (fun x j h' e hit' hs'=>?_) (fun e=>?_)
   ·obtain⟨v,e1,e2⟩:=GL.mp e;cases e2;exact hQ _ h' s1.toks e1 ⟨hit',st.2.1.at fun o x=>hs'.extBut d o (QB dlt) x,hi⟩ fun b o hb x=>hs'.extBut b o (fun h=>hb (by simp[h])) x
   ·rw[Option.map_eq_none_iff,MC] at e;omega
  done:=fun s1 Q E st hQ=>by obtain⟨o1,ho1,_,hd1⟩:=id st.2.1;refine Jft hh st.1 ho1 hd1 hf (fun A E Q hq=>nx _ s1 st.2.2 st.2.1 A E Q hq) (fun x j h' e _ _=>?_) (fun _ h' he=>hQ h' s1.toks fun b o hb e=>he b o (fun h=>hb (by simp[h])) e);obtain⟨v,e1,e2⟩:=GL.mp e;have:=(Qm.mp e1).1;omega
  self:=fun _ _ _ _ st hQ=>Jfu st.1 hQ }
 have enter:∀(sl:Nat->Nat) (ys:List Qc),sl 0=0->ys.Perm (es.toList.map (·.2))->ys.length=es.size ->
  (∀(i:Nat) (s:Qe),i<=es.size->SHas s.heap d es ep t->∀(A:QC) (E:Qc->Qe->Prop) (Q:Option (Qc×Nat)->Qe->Prop),Q ((ys[i]?).map fun v=>(v,sl (i+1))) s->wpAny (model prog w) A (setNext d (sl i) i ep) Q E s) ->
  Q (.ref s.heap.objs.size) { s with heap:=s.heap.push { cls:=.type "set_iterator",data:=.fields #[.int 0 0,.int 0 0,.ref d,.int es.size 0,.int ep 0] } }:=fun sl ys s0 pm yl nx=>by
  refine h s.heap.objs.size _ s.drawn ys [s.heap.objs.size,d] _ pm (Qr _) (fun b o e=>Qi _ e) (one sl ys s0 pm yl nx) ⟨⟨_,Qn _ rfl,rfl,?_⟩,hs.at fun o e=>Qi _ e,GA _⟩ (fun b hb=>?_) (fun b hb=>?_)
  ·rw[s0];rfl
  ·rcases Qk.mp hb with e|e
   ·exact .inl (Ln e.symm)
   ·exact .inr (by simpa using e)
  ·rw[Ge];rcases Qk.mp hb with e|e
   ·rw[e];exact GH _
   ·rw[GN.mp e];exact Gn dlt
 cases bt:w.params.followText "set-order" with
 | true =>
  rw[if_neg (by simp)];refine Qa (Qj ?_);unfold setEpoch;refine Qa (Qa (G5 ho hd hf (Qj ?_)));refine Qa (Gc ?_);refine Qj ⟨_,rfl,"set_iterator",_,⟨_,Qn _ rfl,rfl⟩,si_slot_next.lookup,?_⟩;refine enter (fun _=>0) ((pickOrder (w.params.setOrder d ep) es).toList.map (·.2)) rfl ((JaH _ es).map _) (by rw[Qq,(JaH _ es).length_eq,QM]) fun i s1 hi hs1 A E Q hq=>Jlx bt hs1 hf ?_
  rw[Qo,GW,Kf] at hq;exact hq
 | false =>
  cases dw:(!t.plain && decide (es.size>1)) with
  | false =>
   rw[if_neg (by simp)];refine Qa (Qj ?_);unfold setEpoch;refine Qa (Qa (G5 ho hd hf (Qj ?_)));refine Qa (Gc ?_);refine Qj ⟨_,rfl,"set_iterator",_,⟨_,Qn _ rfl,rfl⟩,si_slot_next.lookup,?_⟩;refine enter (Jec t) (es.toList.map (·.2)) rfl (.refl _) (by rw[Qq,QM]) fun i s1 hi hs1 A E Q hq=>JiW bt hs1 hf tok dw hi ?_
   rw[Qo,GW,Kf] at hq;exact hq
  | true =>
   rw[if_pos (by simp)];refine Qa (Jan _ _ _ _ (by rw[KM]) fun ps dr pm=>?_);refine Qa (Mu (items:=ps.map fun(i:Nat)=>rawInt i) ?_ (by rw[Qq,pm.length_eq,KM];exact hz));have hT1:(s.heap.push { cls:=.type "tuple",data:=.seq (ps.map fun(i:Nat)=>rawInt i).toArray }).get? s.heap.objs.size=some { cls:=.type "tuple",data:=.seq (ps.map fun(i:Nat)=>rawInt i).toArray }:=Qn _ rfl
   have ho1:(s.heap.push { cls:=.type "tuple",data:=.seq (ps.map fun(i:Nat)=>rawInt i).toArray }).get? d=some o:=Qi _ ho
   generalize hg:s.heap.push { cls:=.type "tuple",data:=.seq (ps.map fun(i:Nat)=>rawInt i).toArray }=g at hT1 ho1 ⊢
   have gz:g.objs.size=s.heap.objs.size+1:=by rw[<- hg,Ge]
   have gk:∀b o,s.heap.get? b=some o->g.get? b=some o:=fun b o e=>by rw[<- hg];exact Qi _ e
   unfold setEpoch;refine Qa (Qa (G5 (s:={ s with heap:=g,drawn:=dr }) ho1 hd hf (Qj ?_)));refine Qa (Gc ?_);refine Qj ⟨_,rfl,"set_iterator",_,⟨_,Qn _ rfl,rfl⟩,si_slot_next.lookup,?_⟩;have inn:∀p∈ps,p<es.size:=fun p hp=>by simpa using pm.mem_iff.mp hp
   have pl:ps.length=es.size:=by rw[pm.length_eq,KM]
   have dne:d≠g.objs.size:=by rw[gz];exact QB (Gn dlt)
   have tne:s.heap.objs.size≠g.objs.size:=by rw[gz];exact QB (GH _)
   refine h g.objs.size _ dr (ps.map fun p=>(es[p]?.map (·.2)).getD Value.none) [g.objs.size,d,s.heap.objs.size] (fun i h=>SIt h g.objs.size d (.ref s.heap.objs.size) i es.size ep/\SHas h d es ep t/\h.get? s.heap.objs.size=some { cls:=.type "tuple",data:=.seq (ps.map fun(i:Nat)=>rawInt i).toArray }) ?_ (by rw[gz];exact LH _) (fun b o e=>Qi _ (gk b o e)) ?_ ⟨⟨_,Qn _ rfl,rfl,rfl⟩,⟨o,Qi _ ho1,hex,hd⟩,Qi _ hT1⟩ (fun b hb=>?_) (fun b hb=>?_)
   ·refine(pm.map _).trans (.of_eq ?_);refine M3 (by simp) fun i h1 h2=>?_
    have hi:i<es.size:=by simpa using h1
    simp[hi]
   ·exact {
     sub:=fun b hb=>by simp at hb;simp[hb]
     frame:=fun i h h' st hk=>⟨st.1.at fun o e=>hk _ (by simp) o e,st.2.1.at fun o e=>hk d (by simp) o e,hk _ (by simp) _ st.2.2⟩
     item:=fun i s1 Q E hi st hQ=>by
      obtain⟨o1,ho1,_,hd1⟩:=id st.2.1;refine Jc5 hh st.1 ho1 hd1 hf st.2.2 rfl (fun p e h' e1 e2 hit' hs'=>?_) inn (fun e=>?_)
      ·exact hQ _ h' s1.toks (by rw[Qo,e1];simp[e2]) ⟨hit',st.2.1.at fun o x=>hs'.extBut d o dne x,hs'.extBut _ _ tne st.2.2⟩ fun b o hb x=>hs'.extBut b o (fun h=>hb (by simp[h])) x
      ·rw[MC] at e;omega
     done:=fun s1 Q E st hQ=>by obtain⟨o1,ho1,_,hd1⟩:=id st.2.1;refine Jc5 hh st.1 ho1 hd1 hf st.2.2 rfl (fun p e h' e1 _ _ _=>?_) inn (fun _ h' he=>hQ h' s1.toks fun b o hb e=>he b o (fun h=>hb (by simp[h])) e);have:=(Qm.mp e1).1;omega
     self:=fun _ _ _ _ st hQ=>Jfu st.1 hQ }
   ·simp only[Qk,GQ,or_false] at hb;rcases hb with e|e|e
    ·exact .inl (by rw[e,gz];exact LH _)
    ·exact .inr e
    ·exact .inl (Ln e.symm)
   ·rw[Ge,gz];simp only[Qk,GQ,or_false] at hb;rcases hb with e|e|e
    ·rw[e,gz];exact GH _
    ·rw[e];exact Gn (Gn dlt)
    ·rw[e];exact Gn (GH _)
end
end L2

namespace L2
open PySem PyProof.Rows PySem.W PySem.Spec
section
variable{prog:Qw}{w:QF}{A:QC}{E:Qc->Qe->Prop}{s:Qe}{d:Qd}{ep:Nat}{es:Array (Int×Qc)}{t:SetTable}
theorem JhL{Q:Bool->Qe->Prop}(hT:s.TypeIs (.ref d) "set")(h:Q false s):wpAny (model prog w) A (Mi (.ref d)) Q E s:=by
 unfold Mi;refine Qa (wpAny_specialOf hT PySem.F.slot_set_len.lookup ?_)
 generalize hid:("set.__len__":String)=id0
 wp_delta
 rw[show splitId id0=some ("set","__len__") from by subst hid;decide +kernel];subst hid;refine Qa (LW (T:="set") (b:=true) hT (by rw[RL];kernel_rfl) ?_);refine Rl (fun hab=>absurd hab (by decide)) (fun _=>?_);refine Rl (fun _=>?_) (fun hab=>absurd (by decide +kernel) hab);exact Qa (Mc hT (Qj h))
theorem Jea{R:M8->Qe->Prop}(hh:A.handled=none)(hs:SHas s.heap d es ep t)(hf:t.fits es.size=true)(tok:TOk (YC w) t)(hz:es.size<=Qt)(S:Qd)(ne:S≠d)(res:Qc)(hS:s.heap.get? S=some { cls:=.type "list",data:=.seq #[] })
 (hR:∀h' tk dr acc c,(∀b o,b≠S->s.heap.get? b=some o->h'.get? b=some o)->h'.get? S=some { cls:=.type "list",dict:=none,data:=.seq acc c,slots:=#[] }->acc.toList.Perm (es.toList.map (·.2))->R (.ok (.ret res)) { s with heap:=h',toks:=tk,drawn:=dr }) :
 wpAny (model prog w) A.in1 (Mj (.ref S) (.ref d) res)
  (fun fin s'=>match fin with|.done f=>R (.ok f) s'|.again c'=>c'.quiet=true/\codeAny (model prog w) A c' R s') (fun e s'=>R (.error e) s') s:=by
 obtain⟨o,ho,hex,hd⟩:=id hs;have hT:s.TypeIs (.ref d) "set":=⟨o,ho,hex.1⟩
 have Slt:S<s.heap.objs.size:=Qp hS;unfold Mj;refine Qa (Mc (T:="set") hT ?_)
 have h1:MQ (.ref S) (.ref d)=false:=by simp[MQ,ne]
 have h2:(Value.type "set" == Value.type "list")=false:=by decide
 have h3:(Value.type "set" == Value.type "tuple")=false:=by decide
 simp only[h1,h2,h3,RP,KC,if_false];refine Qa (Jlv (A:=A.in1) hh hs hf tok hz fun I h' dr ys fp St pm le old W st fpo fpl=>?_);have SI:S∉fp:=fun m=>(fpo S m).elim (fun x=>absurd Slt (LC.mpr x)) fun x=>ne x
 have hS1:=old S _ hS
 have key:∀(g:QL) (c1 tk:Nat),St 0 g->(∀b o,b≠S->s.heap.get? b=some o->g.get? b=some o)->g.get? S=some { cls:=.type "list",data:=.seq #[] c1 } ->
  codeAny (model prog w) A (.builtin "list.extend.loop" ⟨[.ref S,.ref I,res],[]⟩) R { s with heap:=g,toks:=tk,drawn:=dr }:=by
  intro g c1 tk st1 hk hS2;refine codeAny_extend_loopS W.toS hz S SI res es.size 0 _ #[] c1 rfl (GA _) st1 hS2 (ItemsOf.nil _) fun s' acc c' hm hS' hacc=>?_
  rw[Moved.eq_with hm];refine hR s'.heap s'.toks dr acc c' (fun b o hb e=>hm.heap b o (fun m=>?_) (hk b o hb e)) hS' ?_
  ·rcases Qk.mp m with e'|m
   ·exact hb e'
   ·rw[GN] at m;exact absurd (Qp e) (LC.mpr (m▸le))
  ·have yl:ys.length=es.size:=by rw[pm.length_eq,Qq,QM]
   have:acc.toList=ys:=M3 (by rw[QM,hacc.1,yl]) fun i a1 a2=>by have:ys[i]?=some acc.toList[i]:=hacc.2 i acc.toList[i] (by rw[<- GW];exact QG a1);rw[QG a2] at this;exact(QT this).symm
   rw[this];exact pm
 refine Qa (G8 (JhL (s:={ s with heap:=h',drawn:=dr }) ⟨o,old _ _ ho,hex.1⟩ ?_));refine Rl (fun _=>?_) (fun _=>Qj ⟨Kp MD _,key _ _ _ st (fun b o _ e=>old b o e) hS1⟩);refine Qa (Kz (Qa ?_));show wpAny _ _ (updateSeq S (·.push .none) >>= fun _=>updateSeq S (·.pop)) _ _ _;refine Qa (LB hS1 rfl ?_);have hS2:=GC (Gq (·.push Value.none)) hS1 rfl
 refine LB (hz:=by seq_fits) hS2 rfl ?_;have hS3:=GC (Gq (·.pop)) hS2 rfl;refine Qj ⟨Kp MD _,key _ _ _ ?_ (fun b o hb e=>?_) hS3⟩
 ·refine W.frame 0 _ _ st fun b hb o e=>?_
  have bS:b≠S:=fun h=>SI (h▸hb)
  exact(Q8 _ _ (Q2 bS)).trans ((Q8 _ _ (Q2 bS)).trans e)
 ·exact(Q8 _ _ (Q2 hb)).trans ((Q8 _ _ (Q2 hb)).trans (old b o e))
theorem Jc2{R:List Qc->Qe->Prop}(hh:A.handled=none)(hs:SHas s.heap d es ep t)(hf:t.fits es.size=true)(tok:TOk (YC w) t)(hz:es.size<=Qt)
 (h:∀(h':QL) (tk:Nat) (dr:Drawn) (acc:Array Qc),(∀b o,s.heap.get? b=some o->h'.get? b=some o)->s.heap.objs.size<h'.objs.size->acc.toList.Perm (es.toList.map (·.2))->R acc.toList { s with heap:=h',toks:=tk,drawn:=dr }):wpAny (model prog w) A (collect (.ref d)) R E s:=by
 obtain⟨o,ho,hex,hd⟩:=id hs;have dlt:d<s.heap.objs.size:=Qp ho;have old:∀b o,s.heap.get? b=some o->(s.heap.push { cls:=.type "list",data:=.seq ([]:List Qc).toArray }).get? b=some o:=fun b o e=>Qi _ e
 unfold collect;refine Qa (RH (G9 entry_proto_collect' ?_));rw[GJ Mh _];show wpAny _ A.in1 (newList [] >>= fun l=>again (.builtin "list.__iadd__" ⟨[l,.ref d],[]⟩)) _ _ s;refine Qa (Gc (Qj ⟨Kp K0 _,G9 entry_list_iadd' ?_⟩));rw[GJ K0 _];have at0:(s.heap.push { cls:=.type "list",data:=.seq ([]:List Qc).toArray }).get? s.heap.objs.size=some { cls:=.type "list",data:=.seq #[] }:=Qn _ rfl
 have fin:∀(h':QL) (tk:Nat) (dr:Drawn) (acc:Array Qc) (c:Nat),(∀b o,s.heap.get? b=some o->h'.get? b=some o)->h'.get? s.heap.objs.size=some { cls:=.type "list",dict:=none,data:=.seq acc c,slots:=#[] }->acc.toList.Perm (es.toList.map (·.2)) ->
  wpAny (model prog w) A (load s.heap.objs.size >>= fun o=>match o.data with | .seq xs _=>pure xs.toList | _=>unsupported "internal:collect") R E { s with heap:=h',toks:=tk,drawn:=dr }:=fun h' tk dr acc c hk hS hi=>Qa (wpAny_load hS (Qj (h h' tk dr acc hk (Qp hS) hi)))
 have got:=Jea (prog:=prog) (A:=A) (s:={ s with heap:=s.heap.push { cls:=.type "list",data:=.seq ([]:List Qc).toArray } }) (R:=fun q s'=>∃h' tk dr acc c,q=.ok (.ret (.ref s.heap.objs.size))/\s'={ s with heap:=h',toks:=tk,drawn:=dr }/\(∀b o,s.heap.get? b=some o->h'.get? b=some o)/\h'.get? s.heap.objs.size=some { cls:=.type "list",dict:=none,data:=.seq acc c,slots:=#[] }/\acc.toList.Perm (es.toList.map (·.2)))
  hh (hs.at fun o e=>old _ o e) hf tok hz s.heap.objs.size (Kn dlt) (.ref s.heap.objs.size) at0 (fun h' tk dr acc c hk hS hi=>⟨h',tk,dr,acc,c,rfl,rfl,fun b o e=>hk b o (QB (Qp e)) (old b o e),hS,hi⟩)
 refine Ka got (fun f s' x=>?_) fun e s' ⟨_,_,_,_,_,z,_⟩=>nomatch z
 cases f with
 | done f=>obtain⟨h',tk,dr,acc,c,e,rfl,hk,hS,hi⟩:=x;cases e;exact fin h' tk dr acc c hk hS hi
 | again c1=>exact⟨x.1,KI x.2 fun q s2 ⟨h',tk,dr,acc,c,e1,e2,hk,hS,hi⟩=>by subst e1;subst e2;exact fin h' tk dr acc c hk hS hi⟩
end
noncomputable def fM(ns:List Int):List Int:=firstMet (fun i=>ns.getD i 0) ns.length
theorem JeJ(ns:List Int):fM ns=ns.foldl step_dedup []:=by
 unfold fM firstMet;congr 1;refine M3 (by simp) fun i h1 h2=>?_
 simp[Gf,h2]
theorem Jb9:∀(ns acc:List Int),acc.Nodup->(ns.foldl step_dedup acc).Nodup
 | [],acc,h=>h
 | n::ns,acc,h=>by
  rw[Gd];refine Jb9 ns _ ?_;unfold step_dedup;split
  ·exact h
  ·rename_i c;refine Lg.mpr ⟨h,by simp,fun a ha b hb=>?_⟩;rw[GN] at hb;subst hb;intro e;subst e;exact c (Km.mpr ⟨a,ha,by simp⟩)
theorem Jhq:∀(ns acc:List Int) (k:Int),k∈ns.foldl step_dedup acc↔k∈acc\/k∈ns
 | [],acc,k=>by simp
 | n::ns,acc,k=>by
  rw[Gd,Jhq ns];unfold step_dedup;split
  ·rename_i c;obtain⟨x,hx,e⟩:=Km.mp c;have:x=n:=by simpa using e
   subst this;simp only[Qk];constructor
   ·exact fun h=>h.elim .inl fun h=>.inr (.inr h)
   ·rintro(h|h|h)
    ·exact .inl h
    ·exact .inl (h▸hx)
    ·exact .inr h
  ·simp only[GF,Qk,GQ,or_false,or_assoc]
theorem Vw(ns:List Int):(fM ns).Nodup:=by rw[JeJ];exact Jb9 ns [] My
theorem JhA(ns:List Int)(k:Int):k∈fM ns↔k∈ns:=by rw[JeJ,Jhq];simp
theorem Jhz(ns:List Int):(fM ns).length<=ns.length:=firstMet_length_le _ _
theorem Wp:∀{a b:List Int},a.Nodup->(∀x∈a,x∈b)->b.length=a.length->b.Perm a
 | [],b,_,_,h=>by have:b=[]:=QU (by simpa using h);rw[this]
 | x::a,b,nd,sub,h=>by
  have hx:=sub x Qh
  have pb:=List.perm_cons_erase hx;refine pb.trans (List.Perm.cons x ?_)
  have nd':=Q6.mp nd;refine Wp nd'.2 (fun y hy=>?_) (by rw[List.length_erase_of_mem hx,h];simp);rcases Qk.mp (pb.mem_iff.mp (sub y (Qf _ hy))) with e|e
  ·exact absurd (e▸hy) nd'.1
  ·exact e
theorem Jcl{prog:Qw}{w:QF}:∀{l:List (Int×Qc)},ElemsOf (intKind prog w) l->∃ks:List Int,IntsAre (l.map (·.2)) ks
 | [],_=>⟨[],.nil⟩
 | e::l,h=>by obtain⟨ks,r⟩:=Jcl h.tail;obtain⟨⟨k,hk,_⟩,_⟩:=h.head;obtain⟨tk,e2⟩:=MF (show Rv k e.2=true from hk);refine⟨k::ks,?_⟩;rw[Qg,e2];exact .cons k tk r
theorem Jcm{x:Int}:∀{vs:List Qc} {ks:List Int},IntsAre vs ks->∀v∈vs,Rv x v=true->x∈ks
 | _,_,.nil,v,h,_=>by simp at h
 | _,_,.cons n t r,v,h,e=>by
  rcases Qk.mp h with q|q
  ·subst q;obtain⟨tk,e2⟩:=MF e
   injection e2 with e2
   subst e2;exact Qh
  ·exact Qf _ (Jcm r v q e)
theorem Jgi{a b:List Qc}(p:a.Perm b):∀{ks:List Int},IntsAre a ks->∃ks',IntsAre b ks'/\ks'.Perm ks:=by
 induction p with
 | nil=>intro ks r;exact⟨ks,r,.refl _⟩
 | cons x p ih =>
  intro ks r
  cases r with
  | cons n t r=>obtain⟨ks',r',q⟩:=ih r;exact⟨n::ks',.cons n t r',q.cons n⟩
 | swap x y l =>
  intro ks r
  cases r with
  | cons n t r=>cases r with
   | cons m u r=>exact⟨m::n::_,.cons m u (.cons n t r),List.Perm.swap _ _ _⟩
 | trans p q ih1 ih2=>intro ks r;obtain⟨k1,r1,q1⟩:=ih1 r;obtain⟨k2,r2,q2⟩:=ih2 r1;exact⟨k2,r2,q2.trans q1⟩
theorem JiS{prog:Qw}{w:QF}{led:Bool}{h:QL}{a:Qd}{ns:List Int}(x:SetL prog w led h a (fun k=>(fM ns).any (· == k)) (fM ns).length) :
 ∃es ep t ks,SHas h a es ep t/\t.fits es.size=true/\TOk led t/\es.size=(fM ns).length/\IntsAre (es.toList.map (·.2)) ks/\ks.Perm (fM ns):=by
 obtain⟨o,es,ep,t,z⟩:=x;obtain⟨ks,r⟩:=Jcl z.els;refine⟨es,ep,t,ks,⟨o,z.got,z.ex,z.data⟩,z.fits,z.tok,z.size,r,?_⟩;refine Wp (Vw ns) (fun y hy=>?_) ?_
 ·obtain⟨e,he,hi⟩:=(z.mem y).mp (Km.mpr ⟨y,hy,by simp⟩);exact Jcm r e.2 (QN.mpr ⟨e,he,rfl⟩) hi
 ·have:=Mv r;rw[Qq,QM] at this;rw[<- this,z.size]
noncomputable def Jls(X:Cx)(l:Qd)(ns:List Int):HO:=.ext fun h=>SetL X.prog X.w (YC X.w) h l (fun k=>(fM ns).any (· == k)) (fM ns).length
noncomputable def Jmh(X:Cx):List V->Hp->VK->Prop:=fun xs H Q=>∃a ns,xs=[.ref a]/\SqL X.K H a (ns.map V.int)/\ns.length+1<scanBound/\∀l,H l=none->Q (.ref l) (upd H l (Jls X l ns))
noncomputable def JnX(X:Cx):List V->Hp->VK->Prop:=fun xs H Q=>∃r ns,xs=[.ref r]/\H r=some (Jls X r ns)/\ns.length<64/\∀l,H l=none->Q (.ref l) (upd H l (.lst ((J1 (fM ns)).map V.int)))
section
variable{X:Cx}
theorem Inv.drew{pins:List (Qd×Obj)}{σ:List (Option V)}{H:Hp}{s:Qe}{d:Drawn}(I:Inv X pins σ H s):Inv X pins σ H { s with drawn:=d } :=
 ⟨I.ok,I.os,I.bare,I.base,I.loc,I.cell,I.free,I.freeC,I.pin,I.hok,I.len⟩
theorem Jf0(hc:X.calm=true):CallR X (.type "set") (Jmh X):=by
 intro pins s σ H xs us Q I r h;obtain⟨a,ns,rfl,hq,hb,q⟩:=h;obtain⟨u,rfl,rx⟩:=U9 r;cases rx;obtain⟨its,r',pl,hz⟩:=I.list hq;have hh:X.A.handled=none:=I.ok.hd hc;have hi:=Uu r';have il:its.length=ns.length:=Mv hi;have hne:H s.heap.objs.size=none:=I.hok.fresh (Qr _);refine JfZ (ns:=ns) hh pl.isList hi (by rw[Qu,il];exact hb) fun h' tk hS old=>?_
 have ez:its.toArray.size=ns.length:=by rw[Qu,il]
 rw[ez] at hS;refine⟨.ref s.heap.objs.size,_,I.laid (t':=tk) (o:=Jls X s.heap.objs.size ns) old (Qr _) ⟨hS,?_,fun h1 h2 p k=>p.move k⟩,rfl,q _ hne⟩;obtain⟨o,_,_,_,z⟩:=hS;exact⟨o,z.got⟩
theorem Jdp(hc:X.calm=true):CallR X (.builtin "sorted") (JnX X):=by
 intro pins s σ H xs us Q I r h;obtain⟨p,ns,rfl,ds,h64,q⟩:=h;obtain⟨u,rfl,rx⟩:=U9 r;cases rx;have z:=(show ObjOk X.prog X.w H s.heap p (Jls X p ns) from I.hok p _ ds).1;obtain⟨es,ep,t,ks,hs,hf,tok,sz,ri,pm⟩:=JiS z;have hh:X.A.in1.handled=none:=I.ok.hd hc;have fl:=Jhz ns;have room:∀n:Nat,n<64->n<=Qt:=fun n h=>by show n<=16777216;omega
 refine MB kind_sorted plain_sorted entry_sorted (args_sorted1 _) ?_;unfold Builtin.«sorted»;refine Qa (m:=checkCount "sorted" 1 1 _) (Qj ?_);refine Qa (Jc2 hh hs hf tok (room _ (by omega)) fun h' tk dr acc hk hsz pa=>?_);obtain⟨k2,hI,p2⟩:=Jgi pa.symm ri;have pk:=p2.trans pm;have hal:acc.toList.length=(fM ns).length:=by rw[Mv hI,pk.length_eq]
 refine Qa (MO ?_ (room _ (by omega)));have hoL:(h'.push (seqObj "list" acc.toList.toArray 0)).get? h'.objs.size=some (seqObj "list" acc.toList.toArray 0):=Qn _ rfl;refine Qa (G8 (Gm RI ⟨_,hoL,rfl⟩ Rk (list_sort_tree hoL hI (by omega) fun out ns' a1 a2 a3=>⟨_,rfl,?_⟩) (args_list_sort _)));refine Qj ⟨_,rfl,?_⟩;have e0:ns'=J1 (fM ns):=Um ((a2.trans pk).trans (JB _).symm) a3 (Ul _)
 subst e0;obtain⟨e,he⟩:=sortedHeap_at (out:=out) hoL;have hle:s.heap.objs.size<=h'.objs.size:=GZ hsz;have hne:H h'.objs.size=none:=I.hok.fresh hle;have hn:((J1 (fM ns)).map V.int).length<=Qt:=by rw[Qq,(JB _).length_eq];exact room _ (by omega)
 refine⟨.ref h'.objs.size,_,(I.drew (d:=dr)).laid (t':=tk) (fun b o x=>?_) hle (show ObjOk X.prog X.w _ _ _ (.lst ((J1 (fM ns)).map V.int)) from⟨hn,out.toList,e,VS a1,?_⟩),rfl,q _ hne⟩
 ·have hx:=hk b o x
  have hlt:b<h'.objs.size:=Qp hx;rw[sortedHeap_old (QB hlt) (by rw[size_push'];exact Gn hlt)];exact Qi _ hx
 ·rw[he]
noncomputable def tUp(te:TE):TE:=fun σ H Q=>∃A:VK,te σ H A/\∀x H1,A x H1->Q x H1
theorem JpM{e:Q7}{te:TE}(h:PE X e te):PE X e (tUp te):=by intro pins s σ H Q I ⟨A,h1,h2⟩;exact thn (h pins s σ H A I h1) fun v s1 ⟨x,H1,I1,r1,a⟩=>⟨x,H1,I1,r1,h2 x H1 a⟩
theorem PE.imp{e:Q7}{t1 t2:TE}(h:PE X e t1)(i:∀σ H Q,t2 σ H Q->t1 σ H Q):PE X e t2:=fun pins s σ H Q I x=>h pins s σ H Q I (i σ H Q x)
end
noncomputable def Ji5(K:Qx)(te:TE):TE:=fun σ H Q=>te σ H fun x H1=>∃a ns,x=.ref a/\SqL K H1 a (ns.map V.int)/\ns.length<64/\∀l o l',H1 l=none->upd H1 l o l'=none->Q (.ref l') (upd (upd H1 l o) l' (.lst ((J1 (fM ns)).map V.int)))
section
variable{X:Cx}{e:Q7}{te:TE}{p1 p2 q1 q2:Pos}
theorem JnK(hc:X.calm=true)(hg:Gl X "set")(hm:X.mg "set"=none)(he:PE X e te)(h1:starEach [e] X.env=(false,eval e X.env)::starEach [] X.env:=by rfl):PE X (.Call (.Name "set" p1) [e] [] q1) (tCB (Jmh X) (Y0 (tUp te) Vl)) :=
 U1 (Jf0 hc) hg hm (by rfl) (Jb (JpM he) Jc h1) (he:=h1)
theorem JcR{K:Qx}(hK:X.K=K)(hc:X.calm=true)(hg:Gl X "sorted")(hm:X.mg "sorted"=none)(hg2:Gl X "set")(hm2:X.mg "set"=none)(he:PE X e te)(h1:starEach [e] X.env=(false,eval e X.env)::starEach [] X.env:=by rfl)
 (h2:starEach [Expr.Call (.Name "set" p1) [e] [] q1] X.env=(false,eval (.Call (.Name "set" p1) [e] [] q1) X.env)::starEach [] X.env:=by rfl):PE X (.Call (.Name "sorted" p2) [.Call (.Name "set" p1) [e] [] q1] [] q2) (Ji5 K te):=by
 subst hK;refine PE.imp (Jr (Jdp hc) hg hm (by rfl) (Jb (JnK hc hg2 hm2 he h1) Jc h2) (he:=h2)) fun σ H Q h=>⟨_,h,?_⟩
 rintro x H1 ⟨a,ns,rfl,hq,h64,q⟩;exact⟨a,ns,rfl,hq,by show ns.length+1<4096;omega,fun l hl=>⟨l,ns,rfl,Jk,h64,fun l' hl'=>q l _ l' hl hl'⟩⟩
end
end L2

namespace LE
open PySem L2 LR
noncomputable def VZ(a:Ev):Ev:=fun E=>(a E).bind fun s=>s.r.bind fun ds=>(ints? ds).bind fun ns=>if ns.length<64 then some (.own ((J1 (fM ns)).map .int)) else none
section
variable{K:Qx}{C:Qd}{td:TE}{ed:Ev}
theorem Jlm(ha:SE K C td ed):SE K C (Ji5 K td) (VZ ed):=by
 intro B H0 H σ E r Q I e q;obtain⟨s,e1,e⟩:=bind_some e;obtain⟨ds,e2,e⟩:=bind_some e;obtain⟨ns,e3,e⟩:=bind_some e;split at e
 ·next h64 =>
  cases e;refine ha B H0 H σ E s _ I e1 fun x H1 H1' s1 r1=>?_
  obtain⟨l,ys,rfl,h,r2⟩:=r1.r s1.i e2;rw[Uh e3] at r2;have:=r2.ints;subst this;refine⟨l,ns,rfl,h,h64,fun w o l' hw hl'=>?_⟩;have st:Step H1' H1 H1' H1 (upd H1' w o):=⟨.new hw,Same.refl _,fun _ _ e=>.inl e,s1.i.trans (.new hw)⟩
  have s2:=s1.trans st;exact Y4 s2.i s2.h hl' (JiI _) fun v H2 H2' s3 r3=>q v H2 H2' (s2.comp s3 fun _ y=>y) r3
 ·cases e
end
end LE

namespace L2
open PySem PyProof.Rows PySem.W PySem.Spec
section
variable{X:Cx}
end
end L2
namespace LE
open PySem L2 LR
section
variable{K:Qx}{C:Qd}
end
end LE

namespace L2
open PySem PyProof.Rows PySem.W PySem.Spec
end L2
namespace LE
open PySem L2 LR
section
variable{K:Qx}{C:Qd}
end
end LE

namespace L2
open PySem PyProof.Rows PySem.W PySem.Spec
section
variable{prog:Qw}{w:QF}{A:QC}{E:Qc->Qe->Prop}{s:Qe}
end
section
variable{prog:Qw}{w:QF}{A:QC}{R:M8->Qe->Prop}{I:Qd}{fp wr:List Qd}{G:Array GenState->Array GenState->Prop}{n:Nat}{P:Nat->Qc->Prop}{St:Nat->Qe->Prop}
end
section
variable{prog:Qw}{w:QF}{A:QC}{E:Qc->Qe->Prop}{s:Qe}
end
end L2

namespace L2
open PySem PyProof.Rows PySem.W PySem.Spec
end L2
namespace LE
open PySem L2 LR
noncomputable def prs?:List D->Option (List PrI)
 | []=>some []
 | .tup [.int a,.int b]::r=>(prs? r).map ((a,b)::·)
 | _=>none
theorem JbA:∀ps:List PrI,prs? (ps.map prE)=some ps
 | []=>rfl
 | p::ps=>by show(prs? (ps.map prE)).map _=_;rw[JbA ps];rfl
theorem JcS:∀{ds:List D} {ps:List PrI},prs? ds=some ps->ds=ps.map prE
 | [],ps,e=>by cases e;rfl
 | d::ds,ps,e=>by
  unfold prs? at e;split at e
  ·rename_i h;cases h
  ·rename_i a b r h;cases h;obtain⟨qs,e1,rfl⟩:=map_some e;rw[JcS e1];rfl
  ·cases e
section
variable{K:Qx}{C:Qd}{td:TE}{ed:Ev}
end
end LE

namespace LE
open PySem L2 LR
noncomputable def ifB(f:Sl->Sl->Option Sl)(d:D)(ew:Ev)(a b:Es):Es:=fun E=>((ew E).bind fun s=>(f (.sh d) s).bind bool?).bind fun k=>if k=true then a E else b E
section
variable{K:Qx}{C:Qd}{r:R2}{f:Sl->Sl->Option Sl}{j:Nat}{ty tx tw:TE}{ek ev ew:Ev}{t u:TS}{et eu:Es}
end
end LE

namespace LE
open PySem L2 LR
section
variable{K:Qx}{C:Qd}{Hs H0 H:Hp}{td tx:TE}{ed ex:Ev}
end
end LE

namespace L2
open PySem PySem.Spec PyProof.Rows
end L2
namespace LE
open PySem L2 LR
section
variable{K:Qx}{C:Qd}{te:TE}{ea:Ev}
end
theorem Jky{x y:Int}{α:Type}{r:α}(h:x.natAbs<=10 ^ 200/\y.natAbs<=10 ^ 200):(if (WT x && WT y)=true then some r else none)=some r:=by rw[if_pos];simp only[QX,WT,Lk];exact h
end LE

namespace LE
open PySem L2 LR
end LE

namespace L2
open PySem PySem.Spec PyProof.Rows
section
variable{X:Cx}{pos:Pos}
theorem pgN(i:Nat){x:Str}(hN:X.N.Nodup)(hi:X.N[i]?=some x:=by rfl)(hx:Loc X.env.scope x:=by exact Or.inl rfl)(hf:X.fn x=true\/X.env.scope.names.lookup x=some .local:=by exact Or.inr rfl):PG X (.Name x pos) (U7 i):=Jt hN hi hx hf
theorem psN(i:Nat){x:Str}{e:Q7}{te:TE}{pos':Pos}(hN:X.N.Nodup)(he:PE X e te)(hi:X.N[i]?=some x:=by rfl)(hx:Loc X.env.scope x:=by exact Or.inl rfl)(hs:swapsWith e (some (.Name x pos')) pos.line X.env=pure false:=by rfl)(hf:X.fn x=true\/X.env.scope.names.lookup x=some .local:=by first|exact .inl rfl|exact .inr rfl|assumption):PS X (.Assign [.Name x pos'] e pos) (JgQ te (U7 i)):=JbC hN hi hx he hs hf
theorem pxK(K:Qx){a b:Q7}{ta tb:TE}(ha:PE X a ta)(hb:PE X b tb)(hK:X.K=K:=by rfl)(hs:Jem b:=by exact fun _ _=>rfl):PE X (.Subscript a b pos) (tOp (rIx K) ta tb):=Jmf (Jkm hK) ha hb hs
theorem piK(K:Qx){tg l:Q7}{tl:TE}(hl:PE X l tl)(hK:X.K=K:=by rfl):PI X tg l (JdF K tl):=JkP hK hl
theorem hrM{j k:Nat}{A:QC}(r:Room k A)(h:j<=k:=by decide):Room j A:=r.mono h
end
end L2
namespace LE
open PySem PyProof.Rows L2 LR
structure PB (P:Qw) (w:QF) (base:QL):Prop where
section
variable{P:Qw}{w:QF}{K:Qx}{mg:Str->Option Qc}{base:QL}{x y q:Str}{st:Kj}{f:Qd}{fd:QR}{k:Nat}{ps:List Str}{sp:Sp}
theorem JL(Z:PB P w base)(F:Fun K x q st f fd)(o:FnOk P w K mg base CX0 k f fd ps sp)(m:mg y=some (.ref f))
 (h:∀(kV doc pm:Qc) (an:Option Qd) (cdv ct:Qc) (us:List Qc),us.length=ps.length->bindArgs (fnOf x q (Ur st) (Yr st) (Jg st) .none kV doc pm an cdv ct) ⟨us,[]⟩=pure (ps.zip us)):Cal P w K mg base y k ps sp:=⟨f,fd,o,m,F.kp,F.binds h⟩
end
section
variable{P:Qw}{w:QF}{K:Qx}{C:Qd}{mg:Str->Option Qc}{base:QL}{x qual:Str}{st:Kj}{f:Qd}{fd:QR}{N ps:List Str}{k n:Nat}{b:Es}
theorem okE(F:Fun K x qual st f fd)(S:FnScope N ps (Jg st))(hn:n=ps.length)
 (hb:∀(cdv:Qc) (A:QC) (outer:List Env) (s:Qe) (H:Hp) (E:XK),Room k (A.deeper (envOfC qual (Jg st) s.heap.objs.size f cdv))->(A.deeper (envOfC qual (Jg st) s.heap.objs.size f cdv)).units+64<cLine ->
  ∃t,PSs (VX CX0 P w K mg base N qual (Jg st) f cdv A outer s H E).nox (Yr st) t/\SS K C t b):FnOk P w K mg base CX0 (k+1) f fd ps (spE K C n (Yw N.length b)) :=
 F.ok S (fun vs H Q E h=>(Jfy h).trans hn) fun cdv A outer s H vs Q E hr h=>(hb cdv A outer s H E hr hr.units).elim fun t q=>⟨t,q.1,JeP q.2 h⟩
end
end LE

namespace L2
open PySem PySem.Spec PyProof.Rows
end L2
namespace LE
open PySem L2 LR
section
variable{K:Qx}{C:Qd}{te:TE}{ea:Ev}
end
theorem JjE{y:Int}{α:Type}{r:α}(h:0<y/\y.natAbs<=10 ^ 200):(if (decide (0<y) && WT y)=true then some r else none)=some r:=by rw[if_pos];simp only[QX,WT,Lk,decide_eq_true_eq];exact h
end LE

namespace L2
open PySem PySem.Spec PyProof.Rows
end L2
namespace LE
open PySem L2 LR
section
variable{K:Qx}{C:Qd}{td:TE}{ed:Ev}
end
end LE

namespace LE
open PySem L2 LR
section
variable{K:Qx}{C:Qd}{W:XK}{t:TS}{a b:Xv}
end
end LE

namespace L2
open PySem PySem.Spec PyProof.Rows PySem.Calls Builtin Builtin.ObjectAttr
section
variable{prog:Qw}{w:QF}{A:QC}{E:Qc->Qe->Prop}{h:QL}{g:Array GenState}{d:Drawn}{t:Nat}{os:OsState}
variable{nm q:Str}{C N:Qd}{bs bm bmB:List Qc}{hdct:Bool}{sn:List Str}{sub:List Qc}{ab:Bool}{col:Option Bool}{dd:Option Qd}{k0 k1 k2 k3 k5:Option Qc}{B Bn newId nid initId inN:String}{bmN:List Qc}
end
end L2
namespace L2
open PySem PySem.Spec PyProof.Rows PySem.Calls Builtin Builtin.ObjectAttr
noncomputable abbrev VEt:List Qc:=[.type "ValueError",.type "Exception",.type "BaseException",.type "object"]
noncomputable def Jm1:Qc->Bool
 | .ref _=>true
 | _=>false
noncomputable def JpK(K:Qx)(C:Qd):Bool:=(PySem.W.clsIn K C).any fun cd=>cd.mro.dropWhile Jm1 == VEt && cd.hasDict
section
variable{prog:Qw}{w:QF}{A:QC}{R:M8->Qe->Prop}{s:Qe}{K:Qx}{x C:Qd}{ox:Obj}{name:Str}{tk:Tok}{v:Qc}
end
end L2
namespace L2
open PySem PySem.Spec PyProof.Rows PySem.Calls Builtin Builtin.ObjectAttr
section
variable{prog:Qw}{w:QF}{A:QC}{E:Qc->Qe->Prop}{s:Qe}{K:Qx}{x C:Qd}{ox:Obj}{name:Str}{v:Qc}
end
section
variable{M:Model}{A:QC}{E:Qc->Qe->Prop}{s:Qe}{env:Env}
variable{nm q:Str}{C N:Qd}{bs bm bmB:List Qc}{hdct:Bool}{sn:List Str}{sub:List Qc}{ab:Bool}{col:Option Bool}{dd:Option Qd}{k0 k1 k2 k3 k5:Option Qc}{B Bn newId nid initId inN:String}{bmN:List Qc}
end
section
variable{prog:Qw}{w:QF}{A:QC}{E:Qc->Qe->Prop}{s:Qe}{env:Env}
variable{nm q:Str}{C N:Qd}{bs bm bmB:List Qc}{hdct:Bool}{sn:List Str}{sub:List Qc}{ab:Bool}{col:Option Bool}{dd:Option Qd}{k0 k1 k2 k3 k5:Option Qc}{B Bn newId nid initId inN:String}{bmN:List Qc}
end
end L2

namespace L2
open PySem PySem.Spec PyProof.Rows PySem.Calls LE
noncomputable def Jpe(K:Qx)(C f:Qd):Bool:=match K.lookup C with
 | some ⟨.type "type",_,.cls cd,sl⟩=>(match cd.mro,sl.toList with
  | .ref C'::bm,[_,_,_,_,some (.builtin n),_]=>C' == C && n == "ValueError.__new__" && !cd.hasDel && PySem.W.tailIn K VEm bm && PySem.W.nsOkIn K cd.ns && nsIn K cd.ns "__init__" == some (some (.ref f))
  | _,_=>false)
 | _=>false
noncomputable def XN(a C:Qd)(d:Option Qd):HO:=.ext fun h=>∃o t0,h.get? a=some o/\o.cls=.ref C/\o.dict=d/\o.data=.fields #[.ref t0,.none,.none,.none,.bool false,.none]
noncomputable def Jqn(C:Qd):Sp:=fun vs H Q _=>∃a k,vs=[.ref a,.int k]/\k.natAbs.log2<1920/\H a=some (XN a C none)/\∀D,D≠a->H D=none->Q .non (upd (upd H a (XN a C (some D))) D (.xd [("at",.int k)]))
section
variable{X:Cx}
end
end L2
namespace L2
open PySem PySem.Spec PyProof.Rows PySem.Calls LE
structure IniC (K:Qx) (C f B:Qd):Prop where
 ok:Jpe K C f=true
 fn:isFn K (.ref f)=true
 ov:JpK K C=true
 mo:mroIn K C (.type "object")=some true
 tk:takerIn K C "at"=some none
 sa:findIn K (.ref C) "__setattr__"=some (some (.builtin "object.__setattr__"))
 rd:PySem.W.readsIn K B (.type "type")=true
 fc:PySem.W.findCls K (.ref B) (.type "type") "__init__"=some (.val (.builtin "ValueError.__init__"))
 ga:specialIn K (.ref B) "__getattribute__"=some (some (.builtin "type.__getattribute__"))
section
variable{X:Cx}{C f B:Qd}
end
end L2

namespace L2
open PySem PySem.Spec PyProof.Rows PySem.Calls LE
section
variable{X:Cx}{pins:List (Qd×Obj)}{σ:St}{H:Hp}{s:Qe}{C e:Qd}{h':QL}{args:List Qc}
end
section
variable{X:Cx}{x:Str}{np cpos pos:Pos}{C f B:Qd}{fd:QR}{E:XK}{e:Q7}{te:TE}{k:Nat}{ps:List Str}
end
end L2

namespace L2
open PySem PySem.Spec PyProof.Rows PySem.Calls LE
structure AtA (K:Qx) (c:Qd):Prop where
 ga:findIn K (.ref c) "__getattribute__"=some (some (.builtin "BaseException.__getattribute__"))
 gn:findIn K (.ref c) "__getattr__"=some none
 mb:mroIn K c (.type "BaseException")=some true
 hd:hasDictIn K c=true
 fa:findIn K (.ref c) "at"=some none
section
variable{X:Cx}{e:Q7}{te:TE}{pos:Pos}{K:Qx}
end
structure RaiF (P:Qw) (w:QF) (K:Qx) (mg:Str->Option Qc) (base:QL) (x:Str) (C:Qd) (k:Nat):Prop where
 ex:∃(f B:Qd) (fd:QR) (ps:List Str),IniC K C f B/\FnOk P w K mg base CX0 k f fd ps (Jqn C)/\Binds K fd ps []/\mg x=some (.ref C)
end L2
namespace LE
open PySem L2 LR
section
variable{K:Qx}{C:Qd}{te:TE}{ea:Ev}{W:XK}
end
end LE

namespace PySem
end PySem
namespace L2
open PySem PySem.Spec PyProof.Rows
end L2
namespace LE
open PySem L2 LR
section
variable{K:Qx}{C:Qd}{m:Bool}
end
end LE

namespace L2
open PySem PySem.Spec PyProof.Rows PySem.Calls LE
end L2
namespace LE
open PySem L2 LR
end LE

namespace L2
open PySem PySem.Spec PyProof.Rows
section
variable{X:Cx}{tg:Q7}
end
end L2
namespace LE
open PySem L2 LR
end LE

namespace L2
open PySem PySem.W PyProof.Rows
noncomputable def ltG(g:Nat->Int)(i j:Nat):Bool:=if g i=g j then decide (i<j) else decide (g j<g i)
noncomputable def ltQ(g:Nat->Int)(i j:Nat):Bool:=decide (g j<g i)
structure Fall (g:Nat->Int) (N c n:Nat) (p:Array Nat):Prop where
 pm:p.toList.Perm (QS N)
 cn:c<n
 nN:n<=N
 ds:Dsc (ltG g) p c
 fx:∀i,c<=i->i<N->p.getD i 0=i
 gr:∀i,c<=i->i<n->g i=g c
 lo:∀i,i<c->g (p.getD i 0)<g c
theorem Jfs{p:Array Nat}{N i j:Nat}(hz:p.size=N)(hj:j<=N)(k:Nat):(kas_rev p i j).getD k 0=if i<=k/\k<j then p.getD (j-1-(k-i)) 0 else p.getD k 0:=by
 rw[GX];unfold kas_rev;rw[getElem?_mirror_all (by omega) k];split
 ·rw[GX];congr 2;omega
 ·rw[GX]
section
variable{N:Nat}{g:Nat->Int}{cmp:Nat->Nat->(Bool->Qe->Prop)->Qe->Prop}{I:Qe->Prop}
theorem Fall.turn{c n:Nat}{p:Array Nat}(F:Fall g N c n p):Dsc (ltG g) (kas_rev p c n) n/\(kas_rev p c n).toList.Perm (QS N)/\(∀i,n<=i->i<N->(kas_rev p c n).getD i 0=i)/\∀i,i<n->g ((kas_rev p c n).getD i 0)<=g c:=by
 have P:=Pm.of F.pm
 have rg:=Jfs (i:=c) P.size F.nN
 have low:∀a,a<c->(kas_rev p c n).getD a 0=p.getD a 0:=fun a h=>by rw[rg,if_neg (by omega)]
 have hig:∀a,c<=a->a<n->(kas_rev p c n).getD a 0=n-1-(a-c):=fun a h1 h2=>by rw[rg,if_pos ⟨h1,h2⟩];exact F.fx _ (by omega) (by have:=F.nN;omega)
 have ghi:∀a,c<=a->a<n->g ((kas_rev p c n).getD a 0)=g c:=fun a h1 h2=>by rw[hig a h1 h2];exact F.gr _ (by omega) (by omega)
 refine⟨fun a b ab hb=>?_,Zx F.pm c n,fun i h1 h2=>?_,fun i hi=>?_⟩
 ·by_cases h1:b<c
  ·rw[low a (by omega),low b h1];exact F.ds a b ab h1
  ·by_cases h2:a<c
   ·have e:=ghi b (by omega) hb
    have l:=F.lo a h2;rw[low a h2];unfold ltG;rw[if_neg (by omega),decide_eq_true_iff];omega
   ·unfold ltG;rw[ghi a (by omega) (by omega),ghi b (by omega) hb,if_pos rfl,hig a (by omega) (by omega),hig b (by omega) hb,decide_eq_true_iff];omega
 ·rw[rg,if_neg (by omega)];exact F.fx i (by have:=F.cn;omega) h2
 ·by_cases h:i<c
  ·rw[low i h];have:=F.lo i h;omega
  ·rw[ghi i (by omega) hi];exact QK _
theorem WN(mo:∀i j,i<=j->j<N->g i<=g j)(R:Rt N (ltQ g) I cmp){Q:Array Nat×Nat×Nat->Qe->Prop}:∀(f n q:Nat) (p:Array Nat) (s:Qe),I s->q+1<=n->n+f=N->Fall g N (n-(q+1)) n p ->
 (∀q' p' s',I s'->q'+1<=N->Fall g N (N-(q'+1)) N p'->Q (p',N,q') s')->(kas_desc f p n q).kasWp cmp Q s
 | 0,n,q,p,s,hI,hq,hn,F,k=>by
  obtain rfl:n=N:=by omega
  exact k q p s hI hq F
 | f+1,n,q,p,s,hI,hq,hn,F,k=>by
  have en:p.getD n 0=n:=F.fx n (by omega) (by omega)
  have en1:p.getD (n-1) 0=n-1:=F.fx (n-1) (by omega) (by omega);refine R _ _ _ s hI (by omega) (by omega) fun s' hI'=>?_
  rw[en,en1];have g1:g (n-1)=g (n-(q+1)):=F.gr _ (by omega) (by omega)
  cases e:ltQ g n (n-1) with
  | true =>
   have l:g (n-1)<g n:=by unfold ltQ at e;exact of_decide_eq_true e
   obtain⟨t1,t2,t3,t4⟩:=F.turn
   have F':Fall g N (n+1-(0+1)) (n+1) (kas_rev p (n-(q+1)) n):=by rw[show n+1-(0+1)=n by omega];refine⟨t2,by omega,by omega,t1,t3,fun i h1 h2=>by rw[show i=n by omega],fun i hi=>?_⟩;have:=t4 i hi;omega
   show Mz cmp (if q>0 then kas_desc f (kas_rev p (n-(q+1)) n) (n+1) 0 else kas_desc f p (n+1) 0) Q s';split
   ·exact WN mo R f (n+1) 0 _ s' hI' (by omega) (by omega) F' k
   ·next h =>
    have q0:q=0:=by omega
    subst q0
    have er:kas_rev p (n-(0+1)) n=p:=by unfold kas_rev;rw[show(n-(n-(0+1))) / 2=0 by omega];rfl
    rw[er] at F';exact WN mo R f (n+1) 0 _ s' hI' (by omega) (by omega) F' k
  | false =>
   have l:¬g (n-1)<g n:=by unfold ltQ at e;exact of_decide_eq_false e
   have l2:=mo (n-1) n (by omega) (by omega)
   show cmp (n-1) n _ s';refine R _ _ _ s' hI' (by omega) (by omega) fun s2 hI2=>?_
   have e2:ltQ g (n-1) n=false:=by unfold ltQ;exact decide_eq_false (by omega)
   rw[e2];show Mz cmp (kas_desc f p (n+1) (q+1)) Q s2;refine WN mo R f (n+1) (q+1) p s2 hI2 (by omega) (by omega) ?_ k;rw[show n+1-(q+1+1)=n-(q+1) by omega];refine⟨F.pm,by omega,by omega,F.ds,F.fx,fun i h1 h2=>?_,F.lo⟩
   by_cases h:i<n
   ·exact F.gr i h1 h
   ·rw[show i=n by omega];omega
theorem JfM(mo:∀i j,i<=j->j<N->g i<=g j)(R:Rt N (ltQ g) I cmp){Q:Nat->Qe->Prop}:∀(f m:Nat) (s:Qe),I s->1<=m->m+f=N->(∀i,i<m->g i=g 0) ->
 (∀m' s',I s'->1<=m'->m'<=N->(∀i,i<m'->g i=g 0)->(m'=N\/(m'<N/\g 0<g m'))->Q m' s')->(kas_asc (Q3 (QS N)) f m).kasWp cmp Q s
 | 0,m,s,hI,h1,hn,h,q=>q m s hI h1 (by omega) h (.inl (by omega))
 | f+1,m,s,hI,h1,hn,h,q=>by
  have gd:∀i,i<N->(Q3 (QS N)).getD i 0=i:=fun i hi=>by simp[Mw,hi]
  refine R _ _ _ s hI (by rw[gd m (by omega)];omega) (by rw[gd (m-1) (by omega)];omega) fun s' hI'=>?_
  rw[gd m (by omega),gd (m-1) (by omega)];have g1:=h (m-1) (by omega)
  cases e:ltQ g m (m-1) with
  | true =>
   have l:g (m-1)<g m:=by unfold ltQ at e;exact of_decide_eq_true e
   exact q m s' hI' h1 (by omega) h (.inr ⟨by omega,by omega⟩)
  | false =>
   have l:¬g (m-1)<g m:=by unfold ltQ at e;exact of_decide_eq_false e
   have l2:=mo (m-1) m (by omega) (by omega);refine JfM mo R f (m+1) s' hI' (by omega) (by omega) (fun i hi=>?_) q
   by_cases c:i<m
   ·exact h i c
   ·rw[show i=m by omega];omega
theorem Jjh(mo:∀i j,i<=j->j<N->g i<=g j)(R:Rt N (ltQ g) I cmp)(h2:2<=N){Q:Array Nat->Qe->Prop}(q:∀p s,I s->p.toList.Perm (QS N)->Asc (ltG g) p N->Q p s)(s:Qe)(hI:I s):(kas_sort N).kasWp cmp Q s:=by
 have hp0:(Q3 (QS N)).toList.Perm (QS N):=List.Perm.refl _
 have P0:=Pm.of hp0
 have gd:∀i,i<N->(Q3 (QS N)).getD i 0=i:=fun i hi=>by simp[Mw,hi]
 have part:∀(n:Nat) (p:Array Nat) (s:Qe),I s->1<=n->n<N->Fall g N n (n+1) p->(kas_descPart n N p).kasWp cmp (fun r s'=>(if r.1<N then kas_bin (N-max r.1 1) r.2 (max r.1 1) else KasT.ret r.2).kasWp cmp Q s') s:=fun n p s hI h1 hn F=>by
  unfold kas_descPart;rw[Rm];refine WN mo R (N-(n+1)) (n+1) 0 p s hI (by omega) (by omega) F fun q' p' s' hI' hq' F'=>?_
  obtain⟨t1,t2,_,_⟩:=F'.turn
  have fin:∀p2,p2=kas_rev p' (N-(q'+1)) N->(kas_tail3 N N p2).kasWp cmp (fun r s'=>(if r.1<N then kas_bin (N-max r.1 1) r.2 (max r.1 1) else KasT.ret r.2).kasWp cmp Q s') s':=fun p2 e2=>by subst e2;unfold kas_tail3;rw[Ml];show Mz cmp (if N<N then _ else _) Q s';rw[if_neg (GO _)];exact q _ s' hI' (Zx t2 0 N) (Jle (Pm.of t2) (Qr _) t1)
  show Mz cmp (if q'>0 then kas_tail3 N N (kas_rev p' (N-(q'+1)) N) else kas_tail3 N N p') _ s';split
  ·exact fin _ rfl
  ·next h =>
   refine fin p' ?_;have q0:q'=0:=by omega
   subst q0;unfold kas_rev;rw[show(N-(N-(0+1))) / 2=0 by omega];rfl
 unfold kas_sort;rw[Rm];unfold kas_count;rw[Rm];refine JfM mo R (N-1) 1 s hI (Qr _) (by omega) (fun i hi=>by rw[show i=0 by omega]) fun m s1 hI1 a b c d=>?_
 split
 ·next hm =>
  have hm:m=N:=by simpa using hm
  show Mz cmp (if m<N then _ else KasT.ret _) Q s1;rw[if_neg (by omega)];refine q _ s1 hI1 hp0 fun x y xy hy=>?_
  rw[gd x (by omega),gd y hy];unfold ltG;rw[c x (by omega),c y (by omega),if_pos rfl,decide_eq_true_iff];exact xy
 ·next hm =>
  have hm:m≠N:=by simpa using hm
  have gm:g 0<g m:=(d.resolve_left hm).2;split
  ·next h1 =>
   refine R _ _ _ s1 hI1 (by rw[gd 0 (by omega)];omega) (by rw[gd (m-1) (by omega)];omega) fun s2 hI2=>?_
   have e:ltQ g ((Q3 (QS N)).getD 0 0) ((Q3 (QS N)).getD (m-1) 0)=false:=by rw[gd 0 (by omega),gd (m-1) (by omega)];unfold ltQ;rw[c (m-1) (by omega)];exact decide_eq_false (Int.lt_irrefl _)
   rw[e];show Mz cmp (kas_descPart m N (kas_rev (Q3 (QS N)) 0 m)) _ s2;have rg:=Jfs (i:=0) P0.size b
   have rl:∀i,i<m->(kas_rev (Q3 (QS N)) 0 m).getD i 0=m-1-i:=fun i hi=>by rw[rg,if_pos ⟨GA _,hi⟩,gd _ (by omega)];omega
   refine part m _ s2 hI2 a (by omega) ⟨Zx hp0 0 m,by omega,by omega,fun x y xy hy=>?_,fun i h3 h4=>?_,fun i h3 h4=>by rw[show i=m by omega],fun i hi=>?_⟩
   ·rw[rl x (by omega),rl y hy];unfold ltG;rw[c _ (by omega),c (m-1-x) (by omega),if_pos rfl,decide_eq_true_iff];omega
   ·rw[rg,if_neg (by omega),gd _ h4]
   ·rw[rl i hi,c _ (by omega)];exact gm
  ·next h1 =>
   obtain rfl:m=1:=by omega
   refine part 1 _ s1 hI1 (Qr _) (by omega) ⟨hp0,by omega,by omega,fun x y xy hy=>by omega,fun i _ h4=>gd i h4,fun i h3 h4=>by rw[show i=1 by omega],fun i hi=>?_⟩;rw[show i=0 by omega,gd 0 (by omega)];exact gm
end
end L2

namespace L2
open PySem PySem.W PyProof.Rows
section
variable{prog:Qw}{w:QF}{A:QC}{E:Qc->Qe->Prop}
structure Keeps (n0:Nat) (Ok:Qe->Prop):Prop where
 up:∀(s:Qe) (h':QL) (b:Qd),Ok s->n0<=b->QQ b s.heap h'->Ok { s with heap:=h' }
 psh:∀(s:Qe) (o:Obj),Ok s->Ok { s with heap:=s.heap.push o }
noncomputable def Jmt(prog:Qw)(w:QF)(A:QC)(n0:Nat)(Ok:Qe->Prop)(f:Qc)(vs:List Qc)(kz:Nat->Int):Prop:=∀(i:Nat) (v:Qc) (s:Qe),vs[i]?=some v->Ok s ->
 wpAny (model prog w) A (call f [v]) (fun k s'=>(∃t,k=.int (kz i) t)/\Ok s'/\∀b o,n0<=b->s.heap.get? b=some o->s'.heap.get? b=some o) (fun _ _=>False) s
noncomputable def KsAre(kz:Nat->Int)(ks:List Qc):Prop:=∀(j:Nat) (k:Qc),ks[j]?=some k->∃t,k=.int (kz j) t
theorem KsAre.snoc{kz:Nat->Int}{ks:List Qc}{t:Tok}(h:KsAre kz ks):KsAre kz (ks++[.int (kz ks.length) t]):=fun j k e=>by
 by_cases c:j<ks.length
 ·rw[QI c] at e;exact h j k e
 ·by_cases c2:j=ks.length
  ·subst c2;rw[QE (Qr _),Ml] at e;cases e;exact⟨t,rfl⟩
  ·rw[G7 (by rw[Qz,Gi];omega)] at e;cases e
variable{n0:Nat}{Ok:Qe->Prop}{f:Qc}{vs:List Qc}{kz:Nat->Int}{a kS:Qd}
theorem Jay(KP:Keeps n0 Ok)(R:Jmt prog w A n0 Ok f vs kz)(h64:vs.length<64)(hk0:n0<=kS)(ha0:n0<=a)(hak:a≠kS){e1:Nat}{body:Qc->PUnit->Sem (ForInStep PUnit)}
 (hb:∀x ks e (s:Qe) (C:Qc->Qe->Prop),Rz ks<64->(∀k s',C k s'->s'.heap.get? kS=some (seqObj "list" (Q3 ks) e))->wpAny (model prog w) A (call f [x]) C (fun _ _=>False) s ->
  wpAny (model prog w) A (body x ⟨⟩) (fun r s'=>r=.yield ⟨⟩/\∃k s1 h' c,C k s1/\s'={ s1 with heap:=h' }/\QQ kS s1.heap h'/\h'.get? kS=some (seqObj "list" (Q3 (ks++[k])) c)) E s) :
 ∀(r ks:List Qc) (e:Nat) (s:Qe),vs=vs.take ks.length++r->ks.length+r.length=vs.length->Ok s->s.heap.get? kS=some (seqObj "list" (Q3 ks) e)->s.heap.get? a=some (seqObj "list" #[] e1)->KsAre kz ks ->
  wpAny (model prog w) A (forIn r PUnit.unit body) (fun _ s'=>∃ks e,ks.length=vs.length/\Ok s'/\s'.heap.get? kS=some (seqObj "list" (Q3 ks) e)/\s'.heap.get? a=some (seqObj "list" #[] e1)/\KsAre kz ks) E s
 | [],ks,e,s,hv,hl,hO,hk,ha,hK=>by rw[RF];exact Qj ⟨ks,e,by simpa using hl,hO,hk,ha,hK⟩
 | x::r,ks,e,s,hv,hl,hO,hk,ha,hK=>by
  rw[Qv] at hl;rw[Rj]
  have hx:vs[ks.length]?=some x:=by
   rw[hv,QE (by rw[Kx];omega)];have:ks.length-(vs.take ks.length).length=0:=by rw[Kx];omega
   rw[this];rfl
  refine Qa (Ka (hb x ks e s (fun k s'=>(∃t,k=.int (kz ks.length) t)/\Ok s'/\∀b o,n0<=b->s.heap.get? b=some o->s'.heap.get? b=some o) (by omega) (fun k s' h=>h.2.2 _ _ hk0 hk) (R _ x s hx hO)) (fun q s' hq=>?_) fun _ _ x=>x);obtain⟨rfl,k,s1,h',c,⟨⟨t,rfl⟩,hO1,hkeep⟩,rfl,sb,hk'⟩:=hq;show wpAny (model prog w) A (forIn r PUnit.unit body) _ E _;refine Jay KP R h64 hk0 ha0 hak hb r (ks++[.int (kz ks.length) t]) c _ ?_ (by rw[Qz,Gi];omega) (KP.up _ _ _ hO1 hk0 sb) hk' ((sb.2 a hak).trans (hkeep _ _ ha0 ha)) hK.snoc
  rw[Qz,Gi,List.take_succ,hx,Option.toList_some,Gh];exact hv
theorem Jaz{ks:List Qc}(h:KsAre kz ks)(i:Nat)(hi:i<ks.length):∃t,ks.getD i Value.none=.int (kz i) t:=by obtain⟨t,e⟩:=h i ks[i] (QG hi);exact⟨t,by rw[<- e];simp[hi]⟩
theorem Jqm{s:Qe}{n:Nat}{P:PySem.Fin->Qe->Prop}(KP:Keeps n0 Ok)(R:Jmt prog w A n0 Ok f vs kz)(mo:∀i j,i<=j->j<vs.length->kz j<=kz i)(ho:s.heap.get? a=some (seqObj "list" vs.toArray n))(h64:vs.length<64)(ha0:n0<=a)(hO:Ok s)
 (h:∀(p:Array Nat) (s':Qe) (c:Nat),p.toList.Perm (QS vs.length)->Asc (ltG fun i=>- kz i) p vs.length->Ok s'->s'.heap.get? a=some (seqObj "list" (Q3 (p.toList.map fun i=>vs.getD i Value.none)) c)->P (.done (.ret .none)) s') :
 wpAny (model prog w) A (ksk_tree a f false) P E s:=by
 have ha:a<s.heap.objs.size:=Qp ho
 have room:vs.length<=Qt:=by rw[sizeLine_eq];omega
 have s1:=Q1 s.heap a (Gq fun _=>(#[]:Array Qc));obtain⟨e1,ho1⟩:∃e1,(s.heap.update a (Gq fun _=>(#[]:Array Qc))).get? a=some (seqObj "list" #[] e1):=⟨_,get?_update_seq ho fun _=>#[]⟩
 have hkS:((s.heap.update a (Gq fun _=>(#[]:Array Qc))).push (seqObj "tuple" vs.toArray 0)).objs.size=s.heap.objs.size+1:=by rw[size_push',Heap.size_update]
 unfold ksk_tree;refine Qa (listItems_at ho rfl ?_);refine Qa (listUpdate_at ho rfl ?_ (by rw[Qu];exact room) (GA _));refine Qa (seqEpoch_at ho1 rfl ?_);refine Qa (Mu ?_ room);refine Qa (MO ?_ (GA _));refine G8 ?_;show wpAny _ _ _ _ _ { s with heap:=((s.heap.update a (Gq fun _=>(#[]:Array Qc))).push (seqObj "tuple" vs.toArray 0)).push (seqObj "list" #[] 0) }
 have g1:(((s.heap.update a (Gq fun _=>(#[]:Array Qc))).push (seqObj "tuple" vs.toArray 0)).push (seqObj "list" #[] 0)).get? (s.heap.objs.size+1)=some (seqObj "list" #[] 0):=by rw[<- hkS];exact Qn _ rfl
 have g2:(((s.heap.update a (Gq fun _=>(#[]:Array Qc))).push (seqObj "tuple" vs.toArray 0)).push (seqObj "list" #[] 0)).get? a=some (seqObj "list" #[] e1):=Qi _ (Qi _ ho1)
 have g3:Ok { s with heap:=((s.heap.update a (Gq fun _=>(#[]:Array Qc))).push (seqObj "tuple" vs.toArray 0)).push (seqObj "list" #[] 0) }:=KP.psh _ _ (KP.psh _ _ (KP.up _ _ _ hO ha0 s1))
 generalize ((s.heap.update a (Gq fun _=>(#[]:Array Qc))).push (seqObj "tuple" vs.toArray 0)).push (seqObj "list" #[] 0)=G at g1 g2 g3
 rw[hkS]
 generalize hkk:s.heap.objs.size+1=kS at g1
 have hk0:n0<=kS:=by rw[<- hkk];exact Gb ha0 (LQ (GZ ha))
 have hak:a≠kS:=by rw[<- hkk];exact QB (Gn ha)
 unfold ksk_rest;refine Qa (Kz ?_)
 first
  | rw[List.forIn_toArray]
  | (rw[<- Array.forIn_toList];simp only[List.toList_toArray])
  | rw[<- Array.forIn_toList]
 refine Qa (Ka (Jay KP R h64 hk0 ha0 hak (e1:=e1) (fun x ks e s' C hz hC hx=>?_) vs [] 0 { s with heap:=G } (by simp) (by simp) g3 g1 g2 (fun j k z=>by simp at z)) (fun _ s' hd=>?_) fun _ _ x=>x)
 ·refine Qa (Lb (Ka hx (fun k s'' hk=>?_) fun _ _ hF=>hF.elim));have nk:=hC k s'' hk;have sb:=Q1 s''.heap kS (Gq (·.push k));have ea:(Q3 ks).push k=Q3 (ks++[k]):=by simp
  obtain⟨c2,hc2⟩:∃c2,(s''.heap.update kS (Gq (·.push k))).get? kS=some (seqObj "list" (Q3 (ks++[k])) c2):=⟨_,by rw[<- ea];exact get?_update_seq nk (·.push k)⟩
  try dsimp only
  refine Qa (listUpdate_at nk rfl ?_ (by rw[Qu,sizeLine_eq];omega) (Gb (Ln (Array.size_push ..)) (by rw[Qu,sizeLine_eq];omega)));exact Qj ⟨rfl,k,s'',_,c2,hk,rfl,sb,hc2⟩
 ·obtain⟨ks,e,hl,hO',hk',ha',hK⟩:=hd
  try dsimp only
  refine Qa (listItems_at hk' rfl ?_)
  have tail:∀(st:SortSt) (p:Array Nat),(arrOf st).map (·.2)=Q3 (p.toList.map fun i=>vs.getD i Value.none)->failedOf st=none->p.toList.Perm (QS vs.length)->Asc (ltG fun i=>- kz i) p vs.length->wpAny (model prog w) A (ksk_tail a false e1 (.ref kS) st) P E s':=fun st p ep hf hp hA=>by
   have t1:=Q1 s'.heap kS (Gq fun _=>(#[]:Array Qc))
   have na:(s'.heap.update kS (Gq fun _=>(#[]:Array Qc))).get? a=some (seqObj "list" #[] e1):=(t1.2 a hak).trans ha'
   have t2:=Q1 (s'.heap.update kS (Gq fun _=>(#[]:Array Qc))) a (Gq fun _=>Q3 (p.toList.map fun i=>vs.getD i Value.none));obtain⟨c2,hc2⟩:∃c2,((s'.heap.update kS (Gq fun _=>(#[]:Array Qc))).update a (Gq fun _=>Q3 (p.toList.map fun i=>vs.getD i Value.none))).get? a=some (seqObj "list" (Q3 (p.toList.map fun i=>vs.getD i Value.none)) c2):=⟨_,get?_update_seq na fun _=>Q3 (p.toList.map fun i=>vs.getD i Value.none)⟩
   have hsz:(Q3 (p.toList.map fun i=>vs.getD i Value.none)).size=vs.length:=by rw[Qu,Qq,hp.length_eq,KM]
   unfold ksk_tail
   try dsimp only
   rw[ep];simp only[KC,if_false];refine Qa (listUpdate_at hk' rfl ?_ (by rw[Qu,sizeLine_eq];omega) (GA _));refine Qa (K3 ?_);refine Qa (seqEpoch_at na rfl ?_);refine Qa (listUpdate_at na rfl ?_ (GA _) (Gb (Ln hsz) (LQ room)));rw[hf];simp only[bne_self_eq_false,KC,if_false];have o1:=KP.up s' _ kS hO' hk0 t1;have o2:=KP.up _ _ a o1 ha0 t2
   exact Qj (h p _ c2 hp hA o2 hc2)
  unfold ksk_end
  try dsimp only
  simp only[KC,if_false]
  by_cases two:vs.toArray.size<2
  ·have two':vs.length<2:=by simpa using two
   rw[if_pos two,if_pos two];refine Qa (Qj ?_);rw[StateT.run_pure];refine Qa (Qj ?_)
   try dsimp only
   refine tail _ (Q3 (QS vs.length)) ?_ rfl (List.Perm.refl _) (JfR two');show((Q3 ks).zip vs.toArray).map (·.2)=Q3 ((QS vs.length).map fun i=>vs.getD i Value.none);rw[JiP]
   apply Array.toList_inj.mp
   rw[Array.toList_map,Array.toList_zip];exact List.map_snd_zip (Ln hl.symm)
  ·have two1:¬vs.length<2:=by simpa using two
   have two':2<=vs.length:=by omega
   rw[if_neg two,if_neg two];refine Qa (kas_kind (T:=.type "int") (by omega) (fun v hv=>?_) rfl rfl ?_)
   ·obtain⟨j,hj,rfl⟩:=Gv.mp hv;obtain⟨t,e⟩:=hK j _ (QG hj);rw[e];exact Looks.of_pure rfl
   ·have ask:Rt vs.length (ltQ fun i=>- kz i) (·=s') (kas_ask prog w A oneType' ks):=fun i j C s0 e0 hi hj hC=>by
     subst e0;obtain⟨t1,q1⟩:=Jaz hK i (by omega);obtain⟨t2,q2⟩:=Jaz hK j (by omega);unfold kas_ask;rw[q1,q2];refine kat_lt_int ?_
     have e:ltQ (fun i=>- kz i) i j=decide (kz i<kz j):=by unfold ltQ;exact decide_eq_decide.mpr (by dsimp only;omega)
     rw[<- e];exact hC s0 rfl
    have tree:(kas_sort vs.length).kasWp (kas_ask prog w A oneType' ks) (fun p s2=>s2=s'/\p.toList.Perm (QS vs.length)/\Asc (ltG fun i=>- kz i) p vs.length) s' :=
     Jjh (fun i j h1 h2=>by have:=mo i j h1 h2;omega) ask two' (fun p s2 e hp ha=>⟨e,hp,ha⟩) _ rfl
    refine Qa (Ka (kat_run (ks:=ks) (Q:=fun st' s2=>s2=s'/\failedOf st'=none/\∃p:Array Nat,(arrOf st').map (·.2)=Q3 (p.toList.map fun i=>vs.getD i Value.none)/\p.toList.Perm (QS vs.length)/\Asc (ltG fun i=>- kz i) p vs.length) hl two' h64
     (fun p st' s2 _ e f g=>⟨g.1,f,p,kat_snds hl e,g.2⟩) tree) ?_ fun _ _ e=>e)
    rintro⟨⟨⟩,st'⟩ s2 ⟨rfl,hf,p,ep,hp,hA⟩;exact tail st' p ep hf hp hA
end
end L2

namespace L2
open PySem PySem.W PySem.Calls PyProof.Rows
section
variable{prog:Qw}{w:QF}{A:QC}{E:Qc->Qe->Prop}
theorem Jly{s:Qe}{Ok:Qe->Prop}{f l:Qd}{vs:List Qc}{kz:Nat->Int}{Q:Qc->Qe->Prop}(KP:Keeps s.heap.objs.size Ok)(R:Jmt prog w A.in1.in1 s.heap.objs.size Ok (.ref f) vs kz)(mo:∀i j,i<=j->j<vs.length->kz j<=kz i)(hl:s.heap.IsList l vs.toArray)(h64:vs.length<64)(hO:Ok s)
 (h:∀(p:Array Nat) (s':Qe) (c:Nat),p.toList.Perm (QS vs.length)->Asc (ltG fun i=>- kz i) p vs.length->Ok s'->s'.heap.get? (s.heap.objs.size+1)=some (seqObj "list" (Q3 (p.toList.map fun i=>vs.getD i Value.none)) c)->Q (.ref (s.heap.objs.size+1)) s') :
 wpAny (model prog w) A (call (.builtin "sorted") [.ref l] [(Gr "key",.ref f)]) Q E s:=by
 have room:vs.length<=Qt:=by rw[sizeLine_eq];omega
 refine call_function_entry_kw kind_sorted plain_sorted entry_sorted (ksk_s1 _ _) ?_;unfold Builtin.«sorted»;refine Qa (m:=checkCount "sorted" 1 1 _) (Qj ?_);refine Qa (collect_list hl ?_ room);refine Qa (MO ?_ room);have sz:((s.heap.push (seqObj "list" #[] 0)).update s.heap.objs.size (Gq (·++vs.toArray))).objs.size=s.heap.objs.size+1:=by rw[Heap.size_update,size_push']
 have at1:(((s.heap.push (seqObj "list" #[] 0)).update s.heap.objs.size (Gq (·++vs.toArray))).push (seqObj "list" vs.toArray 0)).get? (s.heap.objs.size+1)=some (seqObj "list" vs.toArray 0):=by rw[<- sz];exact Qn _ rfl
 show wpAny _ _ _ _ _ { s with heap:=((s.heap.push (seqObj "list" #[] 0)).update s.heap.objs.size (Gq (·++vs.toArray))).push (seqObj "list" vs.toArray 0) };rw[sz]
 have o1:=KP.psh s (seqObj "list" #[] 0) hO
 have o2:=KP.up _ _ s.heap.objs.size o1 (Qr _) (Q1 (s.heap.push (seqObj "list" #[] 0)) s.heap.objs.size (Gq (·++vs.toArray)))
 have o3:=KP.psh _ (seqObj "list" vs.toArray 0) o2;refine Qa (G8 (wpAny_call_entry_kw RI ⟨_,at1,rfl⟩ Rk ?body (ksk_l1 _ _)))
 case body =>
  show wpAny (model prog w) A.in1.in1 (Builtin.«list.sort» ⟨[.ref (s.heap.objs.size+1)],[(Gr "key",.ref f)]⟩) _ _ _;rw[ksk_t1];refine Jqm KP R mo at1 h64 (LH _) o3 fun p s' c hp ha ho hg=>⟨_,rfl,?_⟩
  exact Qj ⟨_,rfl,h p s' c hp ha ho hg⟩
end
end L2

namespace L2
open PySem PySem.Spec PyProof.Rows
theorem Jkq{CX:CXT}{P:Qw}{w:QF}{K:Qx}{mg:Str->Option Qc}{base:QL}{k:Nat}{f c':Qd}{name qual:Str}{params:Mn}{body:Q7}{scope:Lu}{pm ctv:Qc}{N ps:List Str}{A:QC}{outer:List Env}{s:Qe}{H:Hp}{us:List Qc}{vs:List V}{Q:VK}{E:XK}{t:TE}
 (S:FnScope N ps scope) (ho:s.heap.get? f=some (kla_obj name qual params body scope [] pm c' ctv)) (hcd:s.heap.CodeRec (.ref c') qual) (hr:Room (k+1) A) (e0:Env0 P w K mg base A outer s H)
 (hb:bindArgs (kla_fn name qual params body scope [] pm (.ref c') ctv) ⟨us,[]⟩=pure (ps.zip us)) (r:Vals vs us) (hl:vs.length=ps.length)
 (ht:PE (VX CX P w K mg base N qual scope f (.ref c') A outer s H E) body t) (hq:t (Yq N vs) H Q) :
 codeAny (model P w) A (.call (.ref f) ⟨us,[]⟩) (CR CX outer P w H s Q E) s:=by
 have lim:s.heap.NoLimit:=e0.mod.nolimit.keeps fun b o e=>(e0.bs b o e).1
 have hkind:∀y∈ps.zip us,scope.names.lookup y.1=some .local\/(scope.names.lookup y.1=some .cell/\((cellsFrom (s.heap.objs.size+1) scope.names []).lookup y.1).isSome=true):=fun⟨n,v⟩ hy=>by
  rcases S.par n (Ku hy).1 with q|q
  ·exact .inl q
  ·exact .inr ⟨q,cellsFrom_some _ _ _ (.inl q)⟩
 refine PySem.W.kla_callFunE hr.depth ho rfl S.co S.gen rfl hcd ?_;rw[hb];refine Qj ?_;refine Lj S.kind hkind fun env he s1 x=>?_
 subst he;refine⟨lim.keeps x.toInCall.keep,PySem.W.kla_codeExpr ?_⟩;have I:Inv (VX CX P w K mg base N qual scope f (.ref c') A outer s H E) [] (Yq N vs) H s1:=V5 S hr.hd e0 hl r x;refine Ka (ht [] s1 (Yq N vs) H _ I hq) (fun u s' hs=>?_) fun e s' hs=>hs
 obtain⟨v,H',J,rv,q⟩:=hs;exact⟨v,H',J.os,J.bare,J.base,J.hok,rv,q⟩
end L2

namespace L2
open PySem PySem.Spec PyProof.Rows
noncomputable def noT(H:Hp)(P y:Qd):Hp:=fun b=>if b=P\/b=y then none else H b
theorem Zq{H:Hp}{P y b:Qd}{u:HO}(e:noT H P y b=some u):H b=some u/\b≠P/\b≠y:=by
 unfold noT at e;split at e
 ·cases e
 ·next h=>exact⟨e,fun z=>h (.inl z),fun z=>h (.inr z)⟩
theorem Jbq{H:Hp}{P y b:Qd}{u:HO}(e:H b=some u)(h1:b≠P)(h2:b≠y):noT H P y b=some u:=by unfold noT;rw[if_neg fun z=>z.elim h1 h2];exact e
theorem YZ{H:Hp}{P y b:Qd}(e:H b=none):noT H P y b=none:=by
 unfold noT;split
 ·rfl
 ·exact e
theorem JeS{base h h':QL}{fs:List Qd}{H H':Hp}(u:Un fs [] H H' h h')(hH:∀b∈fs,H b=none):∀(l:List Env),(∀b∈frs l,b∈fs)->h.FunFrames base l->h'.FunFrames base l
 | [],_,_=>trivial
 | env::r,hs,hl=>by obtain⟨hk,⟨L,o,hf,hn,ho,hd⟩,hr⟩:=hl;have hL:L∈fs:=hs L (by unfold frs;rw[Ki,hf];exact Qh);obtain⟨sl,e⟩:=u.slot L o ho (hH L hL) hL (by simp);exact⟨hk,⟨L,_,hf,hn,e,hd⟩,JeS u hH r (fun b hb=>hs b (by unfold frs;rw[Ki,hf];exact Qf _ hb)) hr⟩
theorem Jlz{K:Qx}{H:Hp}{P y b:Qd}{xs:List V}{l c:Nat}{q:Str}{ps:Array Qc}(hP:H P=some (.tbl ps l c q))(hy:H y=some (.own P))(h:SqT K H b xs):SqT K (noT H P y) b xs:=by
 rcases h with h|h
 ·refine .inl ?_;have h1:∀u,H b=some u->(∀p l c q,u≠.tbl p l c q)->(∀x,u≠.own x)->noT H P y b=some u:=fun u e n1 n2=>Jbq e (fun z=>by subst z;rw[hP] at e;cases e;exact n1 _ _ _ _ rfl) fun z=>by subst z;rw[hy] at e;cases e;exact n2 _ rfl
  rcases h with e|⟨o,e⟩
  ·exact .inl (h1 _ e (fun _ _ _ _ z=>nomatch z) fun _ z=>nomatch z)
  ·exact .inr ⟨o,h1 _ e (fun _ _ _ _ z=>nomatch z) fun _ z=>nomatch z⟩
 ·exact .inr h
structure Srt (X:Cx) (H:Hp) (s s3:Qe):Prop where
 os:s3.os=s.os
 bare:AllBare s3.gens
 un:Un (frs X.stack) [] H H s.heap s3.heap
 hok:HOk X.prog X.w H s3.heap
theorem Srt.keeps{X:Cx}{H:Hp}{s:Qe}(fr:∀b,s.heap.objs.size<=b->H b=none):Keeps s.heap.objs.size (Srt X H s) where
 up:=fun s3 h' b S hb sb=>by
  have low:∀(c:Qd) (o:Obj),s.heap.get? c=some o->c≠b:=fun c o e=>QB (QZ (Qp e) hb)
  have lowH:∀(c:Qd) (u:HO),H c=some u->c≠b:=fun c u e z=>by rw[z,fr b hb] at e;cases e
  refine⟨S.os,S.bare,⟨fun c o e n h1 h2=>(sb.2 c (low c o e)).trans (S.un.keep c o e n h1 h2),fun c o e n h1 h2=>?_,S.un.free,fun c o e h2=>?_,S.un.tups,S.un.frzs,S.un.tbls⟩,fun c u e=>?_⟩
  ·obtain⟨sl,e1⟩:=S.un.slot c o e n h1 h2;exact⟨sl,(sb.2 c (low c o e)).trans e1⟩
  ·obtain⟨o',e1⟩:=S.un.there c o e h2;exact⟨o',(sb.2 c (low c o e)).trans e1⟩
  ·refine(S.hok c u e).stay (fun d v hd r=>(sb.2 d ?_).trans r) (fun _ r=>r) fun _ _ r=>r
   rcases hd with rfl|hd
   ·exact lowH _ _ e
   ·exact lowH _ _ hd
 psh:=fun s3 o S=>⟨S.os,S.bare,S.un.trans (Un.kept fun b u e=>Qi _ e),S.hok.kept fun b u e=>Qi _ e⟩
section
variable{X:Cx}{pins:List (Qd×Obj)}{σ:St}{H:Hp}{s:Qe}{f P y:Qd}{name qual:Str}{params:Mn}{body:Q7}{scope:Lu}{pm ctv:Qc}{l c:Nat}{N ps:List Str}{t:TE}{Q:VK}
theorem JaY(I:Inv X pins σ H s)(hP:H P=some (.tbl #[] l c qual))(hy:H y=some (.own P))(hyP:y≠P)(gP:s.heap.get? P=some { cls:=.none,data:=.fields (#[]++#[rawInt l,rawInt c,.ref y]) })(hcd:s.heap.CodeRec (.ref y) qual)
 (ho:s.heap.get? f=some (kla_obj name qual params body scope [] pm y ctv)) (hf:H f=none) (hfs:f∉frs X.stack) (S:FnScope N ps scope) (hps:ps.length=1)
 (hb:∀u,bindArgs (kla_fn name qual params body scope [] pm (.ref y) ctv) ⟨[u],[]⟩=pure (ps.zip [u])) (hr:Room 3 X.A)
 (ht:∀(A:QC) (s:Qe) (H:Hp),PE (VX CX0 X.prog X.w X.K X.mg X.base N qual scope f (.ref y) A X.stack s H fun _ _ _=>False) body t)
 (htq:∀(b:Qd) (x z:Int) (H:Hp) (Q:VK),SqT X.K H b [.int x,.int z]->Q (.int (-x)) H->t (Yq N [.ref b]) H Q)
 {a:Qd} {vs:List V} {ns:List (Int×Int)} (hq:SqL X.K H a vs) (h64:vs.length<64) (hlen:vs.length=ns.length) (hit:∀(i:Nat) (v:V) (p:Int×Int),vs[i]?=some v->ns[i]?=some p->∃b,v=.ref b/\SqT X.K H b [.int p.1,.int p.2])
 (mo:∀i j,i<=j->j<ns.length->(ns.getD i (0,0)).1<=(ns.getD j (0,0)).1)
 (q:∀(D:Qd) (p:List Nat),H D=none->p.Perm (QS vs.length)->(∀a b,a<b->b<vs.length->ltG (fun i=>(ns.getD i (0,0)).1) (p.getD a 0) (p.getD b 0)=true)->Q (.ref D) (upd H D (.lst (p.map fun i=>vs.getD i .non)))) :
 wpAny (model X.prog X.w) X.A (call (.builtin "sorted") [.ref a] [(Gr "key",.ref f)]) (EP X pins σ Q) X.xe s:=by
 have frN:∀b,s.heap.objs.size<=b->noT H P y b=none:=fun b hb=>YZ (I.hok.fresh hb)
 obtain⟨its,r',pl,hz⟩:=I.list hq;have il:=r'.length;have yfs:y∉frs X.stack:=fun z=>by rw[I.stkFree y z] at hy;cases hy
 have Pfs:P∉frs X.stack:=fun z=>by rw[I.stkFree P z] at hP;cases hP
 have nP:noT H P y P=none:=by unfold noT;rw[if_pos (.inl rfl)]
 have ny:noT H P y y=none:=by unfold noT;rw[if_pos (.inr rfl)]
 obtain⟨y',oc,cvs,tq,ey,hoc,hdc,hvq⟩:=hcd;cases ey
 have hok0:HOk X.prog X.w (noT H P y) s.heap:=fun b u e=>by
  obtain⟨e1,n1,n2⟩:=Zq e;refine(I.hok b u e1).stay (fun _ _ _ r=>r) (fun d r=>Jbq r (fun z=>?_) fun z=>?_) fun d xs r=>Jbq r (fun z=>?_) fun z=>?_
  ·subst z;rw[hP] at r;cases r
  ·subst z;rw[hy] at r;cases r;exact n1 rfl
  ·subst z;rw[hP] at r;cases r
  ·subst z;rw[hy] at r;cases r
 have S0:Srt X (noT H P y) s s:=⟨rfl,I.bare,Un.refl,hok0⟩
 have stf:∀b∈frs X.stack,noT H P y b=none:=fun b hb=>YZ (I.stkFree b hb)
 refine Jly (Ok:=Srt X (noT H P y) s) (kz:=fun i=>- (ns.getD i (0,0)).1) (Srt.keeps frN) (fun i v s3 hv T=>?_) (fun i j h1 h2=>?_) pl.isList (by omega) S0 fun p s' cc hp ha T hg=>?_
 ·have hi:i<its.length:=(Qm.mp hv).1
  have hi1:i<vs.length:=by omega
  have hi2:i<ns.length:=by omega
  obtain⟨b,eb,hbT⟩:=hit i vs[i] ns[i] (QG hi1) (QG hi2);obtain⟨u',hu,rel⟩:=r'.get (QG hi1);rw[hv] at hu;cases hu;rw[eb] at rel;have gi:ns.getD i (0,0)=ns[i]:=by simp[hi2]
  have env0:Env0 X.prog X.w X.K X.mg X.base X.A.in1.in1 X.stack s3 (noT H P y):=by
   refine⟨I.ok.frames,I.ok.mod,fun b o e=>?_,?_,JeS T.un stf X.stack (fun _ h=>h) I.stack,stf,T.hok,T.bare⟩
   ·obtain⟨e1,e2⟩:=I.bs b o e
    have nb:b∉frs X.stack:=fun z=>by have:=(I.stack.mem z).1;rw[e] at this;cases this
    exact⟨T.un.keep b o e1 (YZ e2) nb (by simp),YZ e2⟩
   ·obtain⟨m,⟨o,es,ep,hoL,r⟩,_⟩:=id I.loc;obtain⟨o',e'⟩:=T.un.there _ _ hoL (by simp);exact Gb (Gb I.ok.bsz I.ok.above) (GZ (Qp e'))
  have ho3:=T.un.keep f _ ho (YZ hf) hfs (by simp)
  have hy3:=T.un.keep y _ hoc ny yfs (by simp);refine wpAny_call (KI (Jkq (k:=0) (Q:=fun v H'=>v=.int (- ns[i].1)/\H'=noT H P y) (E:=fun _ _ _=>False) (CX:=CX0) S ho3 ⟨y,oc,cvs,tq,rfl,hy3,hdc,hvq⟩ hr.in1.in1 env0 (hb v) (.cons rel .nil) (by rw[hps];rfl) (ht _ _ _) (htq b _ _ _ _ (Jlz hP hy hbT) ⟨rfl,rfl⟩)) fun r s' hq=>?_)
  cases r with
  | error e=>exact Gw hq
  | ok fl =>
   cases fl with
   | next=>exact Gw hq
   | brk=>exact Gw hq
   | cont=>exact Gw hq
   | ret u=>obtain⟨w',H',os,bare,un,hok',rv,e1,e2⟩:=hq;subst e1 e2;obtain⟨tk,rfl⟩:=rv;refine⟨⟨tk,by show _=Value.int (- (ns.getD i (0,0)).1) tk;rw[gi]⟩,⟨os.trans T.os,bare,T.un.trans un,hok'⟩,fun d o hd e=>un.keep d o e (frN d hd) (fun z=>?_) (by simp)⟩;obtain⟨_,o2,ho2,_⟩:=I.stack.mem z;exact absurd (Qp ho2) (LC.mpr hd)
 ·have:=mo i j h1 (by omega)
  show-(ns.getD j (0,0)).1<=- (ns.getD i (0,0)).1;omega
 ·have perm:p.toList.Perm (QS vs.length):=by rw[il];exact hp
  have hn:(p.toList.map fun i=>vs.getD i .non).length<=Qt:=by rw[Qq,perm.length_eq,KM];exact hz
  have hne:H (s.heap.objs.size+1)=none:=I.hok.fresh (LH _)
  have neD:∀(b:Qd) (u:HO),H b=some u->b≠s.heap.objs.size+1:=fun b u e z=>by rw[z,hne] at e;cases e
  have neD':∀(b:Qd) (o:Obj),s.heap.get? b=some o->b≠s.heap.objs.size+1:=fun b o e=>QB (Gn (Qp e))
  have hP':=T.un.keep P _ gP nP Pfs (by simp)
  have hy':=T.un.keep y _ hoc ny yfs (by simp)
  have okH:HOk X.prog X.w (upd H (s.heap.objs.size+1) (.lst (p.toList.map fun i=>vs.getD i .non))) s'.heap:=fun b u e=>by
   by_cases h1:b=s.heap.objs.size+1
   ·subst h1;rw[Jk] at e;cases e;exact⟨hn,p.toList.map fun i=>its.getD i Value.none,cc,JgW r' p.toList (fun i hi=>by simpa using perm.mem_iff.mp hi),hg⟩
   ·rw[Je h1] at e;have ex:∀d v,H d=some v->upd H (s.heap.objs.size+1) (.lst (p.toList.map fun i=>vs.getD i .non)) d=some v:=fun d v r=>by rw[Je (neD d v r)];exact r
    by_cases h2:b=P
    ·subst h2;rw[hP] at e;cases e;exact .inr ⟨y,ex _ _ hy,hyP,hP',y,oc,cvs,tq,rfl,hy',hdc,hvq⟩
    ·by_cases h3:b=y
     ·subst h3;rw[hy] at e;cases e;exact⟨_,hy'⟩
     ·exact(T.hok b u (Jbq e h2 h3)).stay (fun _ _ _ r=>r) (fun d r=>ex _ _ (Zq r).1) fun d xs r=>ex _ _ (Zq r).1
  refine⟨.ref (s.heap.objs.size+1),_,I.call' (s':=s') (ch:=[]) T.os ⟨fun b o e n h1 h2=>T.un.keep b o e (YZ n) h1 h2,fun b o e n h1 h2=>T.un.slot b o e (YZ n) h1 h2,fun b o e n _=>by rw[Je (neD' b o e)];exact n,T.un.there,fun b xs e=>by rw[Je (neD b _ e)];exact e,fun b o xs e=>by rw[Je (neD b _ e)];exact e,fun b ps l c z e=>by rw[Je (neD b _ e)];exact e⟩ okH T.bare (fun b z=>absurd z (by simp)),rfl,q _ p.toList hne perm fun x z hxz hz=>?_⟩
  have:=ha x z hxz (by omega)
  have g:∀i,p.toList.getD i 0=p.getD i 0:=fun i=>by rw[Gf,GX,GW]
  rw[g,g];have gg:(fun i=>- - (ns.getD i (0,0)).1)=fun i=>(ns.getD i (0,0)).1:=by funext i;omega
  rw[gg] at this;exact this
end
end L2

namespace L2
open PySem PySem.Spec PyProof.Rows LE
noncomputable def JaQ(mg:Str->Option Qc)(h:QL):Prop:=∃bm ob,mg "__builtins__"=some (.ref bm)/\bm≠builtinsNs/\h.get? bm=some ob/\ob.cls=.type "module"/\ob.dict=some builtinsNs/\ob.data=.plain
theorem JkN{X:Cx}{i:Nat}{v:Str}{k:Nat}{p1 p2 p3 p4:Pos}(hN:X.N[i]?=some v)(hv:Vis X.env.scope v)(hd:(v == ("__debug__":Str))=false)(hcd:(v == ("__classdict__":Str))=false) :
 PE X (.UnaryOp .USub (.Subscript (.Name v p1) (.Constant (.int 0) k p2) p3) p4) (tUn (rU fun i=>.int (-i)) (tOp (rIx X.K) (Y2 i) (tC (.int 0)))) :=
 Jik Jek (Jmf JhR (Jil hN hv hd hcd) Jh (fun _ _=>rfl))
theorem Jia{K:Qx}{σ:St}{H:Hp}{Q:VK}{b:Qd}{x z:Int}(e:σ[0]?=some (some (.ref b)))(h:SqT K H b [.int x,.int z])(q:Q (.int (-x)) H):tUn (rU fun i=>.int (-i)) (tOp (rIx K) (Y2 0) (tC (.int 0))) σ H Q :=
 ⟨_,e,.inr (.inl ⟨b,_,0,.int x,rfl,rfl,h,rfl,x,rfl,q⟩)⟩
noncomputable def Grow(P:Qd)(H1 H2:Hp):Prop:=H2=H1\/∃y,H1 y=none/\H2=upd H1 y (.own P)
noncomputable def ltI(ns:List (Int×Int))(i j:Nat):Bool:=ltG (fun i=>(ns.getD i (0,0)).1) i j
noncomputable def tSL(K:Qx)(t:TA):TE:=fun σ H Q=>t σ H fun us H1=>∃(a:Qd) (vs:List V) (ns:List (Int×Int)),us=[.ref a]/\TabK K H1/\SqL K H1 a vs/\vs.length<64/\vs.length=ns.length/\(∀(i:Nat) (v:V) (p:Int×Int),vs[i]?=some v->ns[i]?=some p->∃b,v=.ref b/\SqT K H1 b [.int p.1,.int p.2]) ∧
 (∀i j,i<=j->j<ns.length->(ns.getD i (0,0)).1<=(ns.getD j (0,0)).1) ∧
 ∀(P:Qd) (H2:Hp) (D:Qd) (p:List Nat),Grow P H1 H2->H2 D=none->p.Perm (QS vs.length)->(∀a b,a<b->b<vs.length->ltI ns (p.getD a 0) (p.getD b 0)=true)->Q (.ref D) (upd H2 D (.lst (p.map fun i=>vs.getD i .non)))
theorem Grow.seqT{K:Qx}{P b:Qd}{H1 H2:Hp}{xs:List V}(g:Grow P H1 H2)(h:SqT K H1 b xs):SqT K H2 b xs:=by
 rcases g with rfl|⟨y,n,rfl⟩
 ·exact h
 ·have up:∀u,H1 b=some u->upd H1 y (.own P) b=some u:=fun u e=>by rw[Je (Jo e n)];exact e
  rcases h with (e|⟨o,e⟩)|h
  ·exact .inl (.inl (up _ e))
  ·exact .inl (.inr ⟨o,up _ e⟩)
  ·exact .inr h
theorem Grow.seqL{K:Qx}{P b:Qd}{H1 H2:Hp}{xs:List V}(g:Grow P H1 H2)(h:SqL K H1 b xs):SqL K H2 b xs:=by
 rcases g with rfl|⟨y,n,rfl⟩
 ·exact h
 ·have up:∀u,H1 b=some u->upd H1 y (.own P) b=some u:=fun u e=>by rw[Je (Jo e n)];exact e
  rcases h with (e|⟨o,e⟩)|h
  ·exact .inl (.inl (up _ e))
  ·exact .inl (.inr ⟨o,up _ e⟩)
  ·exact .inr h
section
variable{X:Cx}{e:Q7}{t:TA}{v:Str}{k:Nat}{p pos kpos lpos p1 p2 p3 p4 p5:Pos}{P c:Qd}
noncomputable abbrev YR(v:Str)(p5:Pos):Mn:={ posonlyargs:=[],args:=[{ arg:=v,annotation:=none,pos:=p5 }],vararg:=none,kwonlyargs:=[],kw_defaults:=[],kwarg:=none,defaults:=[] }
noncomputable abbrev J5(v:Str):Lu:={ kind:=.function,names:=[(v,.local)],isGenerator:=false,isCoroutine:=false,more:=[] }
noncomputable abbrev YS(v:Str)(k:Nat)(p1 p2 p3 p4:Pos):Q7:=.UnaryOp .USub (.Subscript (.Name v p1) (.Constant (.int 0) k p2) p3) p4
theorem Jd0(hg:Gl X "sorted")(hm:X.mg "sorted"=none)(ha:PA X [e] t)(hr:Room 3 X.A)(hc:X.env.code=.ref c)(hh:codeHdIn X.K c P=true)(hT:Y1 X.K=some (P,.tbl #[] lpos.line lpos.col (X.env.qual++"<lambda>")))(hB:JaQ X.mg X.base)
 (hbi:∀(u y ctv pm:Qc),bindArgs (kla_fn "<lambda>" (X.env.qual++"<lambda>") (YR v p5) (YS v k p1 p2 p3 p4) (J5 v) [] pm y ctv) ⟨[u],[]⟩=pure ([v].zip [u]))
 (hd:(v == ("__debug__":Str))=false) (hcd:(v == ("__classdict__":Str))=false) (hcl:closureFor (J5 v) X.env=pure [])
 (he:backTo pos (starEach [e] X.env)=(false,eval e X.env)::backTo pos (starEach [] X.env):=by rfl) (hpl:(backTo pos (starEach [e] X.env)).any (·.1)=false:=by rfl) :
 PE X (.Call (.Name "sorted" p) [e] [⟨some "key",.Lambda (YR v p5) (YS v k p1 p2 p3 p4) (J5 v) lpos,kpos⟩] pos) (tSL X.K t):=by
 intro pins s σ H Q I h;refine Ky (UJ (u:=.builtin "sorted") I hg hm VV ?_ (by decide) (by decide));refine callWith_kw (thn (ha pos pins s σ H _ I h) fun us s1 ⟨vs,H1,I1,r1,a,ws,ns,e1,tk,hq,h64,hlen,hit,mo,q1⟩=>?_) he hpl rfl rfl;subst e1;obtain⟨u,rfl,rx⟩:=U9 r1;cases rx;have hP:=tk P _ hT;have S:FnScope [v] [v] (J5 v):=⟨rfl,rfl,rfl,by simp,rfl,fun x hx=>.inl (by rw[GN.mp hx];simp),fun y hy=>by rw[GN.mp hy];exact fun z=>nomatch z⟩
 have Pn:∀{b:Qd} {o:Obj},X.base.get? b=some o->b≠P:=fun {b o} e z=>by have:=(I1.bs b o e).2;rw[z,hP] at this;cases this
 have hgP:mainGlobals≠P:=by obtain⟨o,es,ep,e,_⟩:=I1.ok.mod.glob;exact Pn e
 have hns:s1.heap.Ns mainGlobals X.mg:=I1.ok.mod.glob.keeps I1.bk
 have hBA:s1.heap.BuiltinsAt X.mg P:=by obtain⟨bm,ob,b1,b2,b3,b4,b5,b6⟩:=hB;refine⟨bm,ob,b1,b2,fun z=>?_,Pn b3,I1.bk _ _ b3,b4,b5,b6⟩;obtain⟨o,es,ep,e,hd,_⟩:=I1.ok.mod.glob;rw[<- z,b3] at e;cases e;rw[b6] at hd;cases hd
 have C:=RO I1.kIn hh
 have body:∀(H2:Hp) (s2:Qe) (f y:Qd) (pm ctv:Qc),Inv X pins σ H2 s2->Grow P H1 H2->H2 P=some (.tbl #[] lpos.line lpos.col (X.env.qual++"<lambda>"))->H2 y=some (.own P)->y≠P->s2.heap.get? P=some { cls:=.none,data:=.fields (#[]++#[rawInt lpos.line,rawInt lpos.col,.ref y]) }->s2.heap.CodeRec (.ref y) (X.env.qual++"<lambda>") ->
  s2.heap.get? f=some (kla_obj "<lambda>" (X.env.qual++"<lambda>") (YR v p5) (YS v k p1 p2 p3 p4) (J5 v) [] pm y ctv)->H2 f=none->f∉frs X.stack ->
  wpAny (model X.prog X.w) X.A (call (.builtin "sorted") [.ref a] [(Gr "key",.ref f)]) (EP X pins σ Q) X.xe s2:=fun H2 s2 f y pm ctv I2 g hP2 hy hyP gP hcd2 ho hf hfs=>by
  refine JaY (N:=[v]) (ps:=[v]) (t:=tUn (rU fun i=>.int (-i)) (tOp (rIx X.K) (Y2 0) (tC (.int 0)))) (ns:=ns) I2 hP2 hy hyP gP hcd2 ho hf hfs S rfl (fun u=>hbi u _ _ _) hr (fun A s H=>JkN rfl (.inl (by show Li v [(v,NameKind.local)]=_;simp)) hd hcd) (fun b x z H Q h q=>Jia rfl h q) (g.seqL hq) h64 hlen (fun i w n h1 h2=>?_) mo fun D pp hD hp ha=>q1 P H2 D pp g hD hp ha
  obtain⟨b,eb,hb⟩:=hit i w n h1 h2;exact⟨b,eb,g.seqT hb⟩
 have nofr:∀f,s1.heap.objs.size<=f->f∉frs X.stack:=fun f hf z=>by obtain⟨_,o2,ho2,_⟩:=I1.stack.mem z;exact absurd (Qp ho2) (LC.mpr hf)
 refine kws_cons (PySem.W.kla_eval rfl ?_);rcases I1.hok P _ hP with gP|⟨y,hy,hyP,gP,hcd1⟩
 ·refine PySem.W.kla_makeFunction (mg:=X.mg) hcl I1.ok.glob hns hc C gP trivial rfl hgP hBA fun c' ctv h' tk' hx hge hlt hrec htb=>kws_nil ?_
  have hn:H1 c'=none:=I1.hok.fresh hge;obtain⟨y',oc,cvs,tq,ey,hoc,hdc,hvq⟩:=hrec;cases ey
  have cP:c'≠P:=fun z=>by rw[z,hP] at hn;cases hn
  have up:∀b u,H1 b=some u->upd H1 c' (.own P) b=some u:=fun b u e=>by rw[Je (Jo e hn)];exact e
  have ps:∀(b:Qd) (o:Obj),h'.get? b=some o->(h'.push (kla_obj "<lambda>" (X.env.qual++"<lambda>") (YR v p5) (YS v k p1 p2 p3 p4) (J5 v) [] ((X.mg "__name__").getD .none) c' ctv)).get? b=some o:=fun b o e=>Qi _ e
  have un:Un (frs X.stack) [] H1 (upd H1 c' (.own P)) s1.heap (h'.push (kla_obj "<lambda>" (X.env.qual++"<lambda>") (YR v p5) (YS v k p1 p2 p3 p4) (J5 v) [] ((X.mg "__name__").getD .none) c' ctv)):=by
   have nb:∀b,H1 b=none->b≠P:=fun b n z=>by rw[z,hP] at n;cases n
   refine⟨fun b o e n _ _=>ps _ _ (hx b o (nb b n) e),fun b o e n _ _=>⟨o.slots,ps _ _ (hx b o (nb b n) e)⟩,fun b o e n _=>?_,fun b o e _=>?_,fun b xs e=>up _ _ e,fun b o xs e=>up _ _ e,fun b _ _ _ _ e=>up _ _ e⟩
   ·rw[Je (QB (QZ (Qp e) hge))];exact n
   ·by_cases z:b=P
    ·subst z;exact⟨_,ps _ _ htb⟩
    ·exact⟨_,ps _ _ (hx b o z e)⟩
  have hok:HOk X.prog X.w (upd H1 c' (.own P)) (h'.push (kla_obj "<lambda>" (X.env.qual++"<lambda>") (YR v p5) (YS v k p1 p2 p3 p4) (J5 v) [] ((X.mg "__name__").getD .none) c' ctv)):=fun b u e=>by
   by_cases h1:b=c'
   ·subst h1;rw[Jk] at e;cases e;exact⟨_,ps _ _ hoc⟩
   ·rw[Je h1] at e
    by_cases h2:b=P
    ·subst h2;rw[hP] at e;cases e;exact .inr ⟨c',Jk,cP,ps _ _ htb,c',oc,cvs,tq,rfl,ps _ _ hoc,hdc,hvq⟩
    ·refine(I1.hok b u e).stay (fun d v hd r=>ps _ _ (hx d v ?_ r)) (fun d r=>up _ _ r) fun d xs r=>up _ _ r
     rcases hd with rfl|hd
     ·exact h2
     ·exact fun z=>by rw[z,hP] at hd;cases hd
  have I2:=I1.call (t':=tk') (d':=s1.drawn) (g':=s1.gens) (ch:=[]) un hok I1.bare (fun b z=>absurd z (by simp))
  have hsz:s1.heap.objs.size<=h'.objs.size:=Gb hge (GZ hlt);exact body _ _ h'.objs.size c' _ ctv I2 (.inr ⟨c',hn,rfl⟩) (up _ _ hP) Jk cP (ps _ _ htb) ⟨c',oc,cvs,tq,rfl,ps _ _ hoc,hdc,hvq⟩ (Qn _ rfl) (by rw[Je (Kn hlt)];exact I1.hok.fresh hsz) (nofr _ hsz)
 ·refine PySem.W.kla_makeFunctionHit (mg:=X.mg) (ps:=#[]++#[rawInt lpos.line,rawInt lpos.col,.ref y]) (cv:=.ref y) hcl I1.ok.glob hns hc C gP trivial ?_ hBA fun ctv h' tk' hk hsz=>kws_nil ?_
  ·show codeAmong lpos [rawInt lpos.line,rawInt lpos.col,.ref y]=some (.ref y);unfold rawInt codeAmong;simp
  ·have ps:∀(b:Qd) (o:Obj),s1.heap.get? b=some o->(h'.push (kla_obj "<lambda>" (X.env.qual++"<lambda>") (YR v p5) (YS v k p1 p2 p3 p4) (J5 v) [] ((X.mg "__name__").getD .none) y ctv)).get? b=some o:=fun b o e=>Qi _ (hk b o e)
   have I2:=I1.call (t':=tk') (d':=s1.drawn) (g':=s1.gens) (ch:=[]) (Un.kept (H:=H1) ps) (I1.hok.kept ps) I1.bare (fun b z=>absurd z (by simp));obtain⟨y',oc,cvs,tq,ey,hoc,hdc,hvq⟩:=hcd1;cases ey;exact body _ _ h'.objs.size y _ ctv I2 (.inl rfl) hP hy hyP (ps _ _ gP) ⟨y,oc,cvs,tq,rfl,ps _ _ hoc,hdc,hvq⟩ (Qn _ rfl) (I1.hok.fresh hsz) (nofr _ hsz)
end
end L2

namespace LE
open PySem L2 LR
noncomputable def U4(p:PrI):List PrI->List PrI
 | []=>[p]
 | q::r=>if p.1<q.1 then q::U4 p r else p::q::r
noncomputable def Js(l:List PrI):List PrI:=l.foldr U4 []
noncomputable def Jbh(ns:List PrI)(i:Nat):List Nat->List Nat
 | []=>[i]
 | j::r=>if (ns.getD i (0,0)).1<(ns.getD j (0,0)).1 then j::Jbh ns i r else i::j::r
noncomputable def UH(ns:List PrI)(l:List Nat):List Nat:=l.foldr (Jbh ns) []
theorem Jck(ns:List PrI)(i:Nat):∀l:List Nat,(Jbh ns i l).map (fun i=>ns.getD i (0,0))=U4 (ns.getD i (0,0)) (l.map fun i=>ns.getD i (0,0))
 | []=>rfl
 | j::r=>by
  rw[Jbh,Qg,U4];split
  ·rw[Qg,Jck ns i r]
  ·rw[Qg,Qg]
theorem W6(ns:List PrI):∀l:List Nat,(UH ns l).map (fun i=>ns.getD i (0,0))=Js (l.map fun i=>ns.getD i (0,0))
 | []=>rfl
 | i::r=>by show(Jbh ns i (UH ns r)).map _=U4 (ns.getD i (0,0)) (Js (r.map fun i=>ns.getD i (0,0)));rw[Jck,W6 ns r]
theorem V4(ns:List PrI)(i:Nat):∀l:List Nat,(Jbh ns i l).Perm (i::l)
 | []=>.refl _
 | j::r=>by
  rw[Jbh];split
  ·exact((V4 ns i r).cons j).trans (.swap i j r)
  ·exact .refl _
theorem Y3(ns:List PrI):∀l:List Nat,(UH ns l).Perm l
 | []=>.refl _
 | i::r=>(V4 ns i (UH ns r)).trans ((Y3 ns r).cons i)
theorem ltI_iff{ns:List PrI}{a b:Nat}:ltI ns a b=true↔(ns.getD b (0,0)).1<(ns.getD a (0,0)).1\/((ns.getD a (0,0)).1=(ns.getD b (0,0)).1/\a<b):=by
 unfold ltI ltG;dsimp only;split
 ·next e=>rw[decide_eq_true_iff];exact⟨fun h=>.inr ⟨e,h⟩,fun h=>h.elim (fun h=>by omega) fun h=>h.2⟩
 ·next e=>rw[decide_eq_true_iff];exact⟨fun h=>.inl h,fun h=>h.elim id fun h=>absurd h.1 e⟩
theorem Je0(ns:List PrI)(i:Nat):∀l:List Nat,(∀j∈l,i<j)->l.Pairwise (fun a b=>ltI ns a b=true)->(Jbh ns i l).Pairwise fun a b=>ltI ns a b=true
 | [],_,_=>M0 _ _
 | j::r,h,pw=>by
  obtain⟨h1,h2⟩:=QP.mp pw;have ij:=h j Qh;rw[Jbh];split
  ·next c =>
   refine QP.mpr ⟨fun a ha=>?_,Je0 ns i r (fun a ha=>h a (Qf _ ha)) h2⟩;rcases Qk.mp ((V4 ns i r).mem_iff.mp ha) with rfl|ha
   ·exact ltI_iff.mpr (.inl c)
   ·exact h1 a ha
  ·next c =>
   refine QP.mpr ⟨fun a ha=>?_,pw⟩;have ia:=h a ha
   have le:(ns.getD a (0,0)).1<=(ns.getD j (0,0)).1:=by
    rcases Qk.mp ha with rfl|ha
    ·exact QK _
    ·have:=ltI_iff.mp (h1 a ha);omega
   exact ltI_iff.mpr (by omega)
theorem Jap(ns:List PrI):∀l:List Nat,l.Pairwise (·<·)->(UH ns l).Pairwise fun a b=>ltI ns a b=true
 | [],_=>.nil
 | i::r,pw=>by obtain⟨h1,h2⟩:=QP.mp pw;exact Je0 ns i _ (fun j hj=>h1 j ((Y3 ns r).mem_iff.mp hj)) (Jap ns r h2)
theorem Jku{ns:List PrI}{a b:Nat}(h1:ltI ns a b=true)(h2:ltI ns b a=true):False:=by
 have h1:=ltI_iff.mp h1
 have h2:=ltI_iff.mp h2;omega
theorem asc_uniq{ns:List PrI}{p:List Nat}{n:Nat}(hp:p.Perm (QS n))(ha:∀a b,a<b->b<n->ltI ns (p.getD a 0) (p.getD b 0)=true):p=UH ns (QS n):=by
 have pl:p.length=n:=by rw[hp.length_eq,KM]
 have pw:p.Pairwise fun a b=>ltI ns a b=true:=GK.mpr fun i j hi hj hij=>by
  have:=ha i j hij (by omega)
  simpa [hi,hj] using this
 exact(hp.trans (Y3 ns _).symm).eq_of_pairwise (le:=fun a b=>ltI ns a b=true) (fun a b _ _ h1 h2=>(Jku h1 h2).elim) pw (Jap ns _ Rf)
noncomputable def ZU:List PrI->Bool
 | []=>true
 | [_]=>true
 | p::q::r=>decide (p.1<=q.1) && ZU (q::r)
theorem Jae:∀{p:PrI} {l:List PrI},ZU (p::l)=true->∀q∈l,p.1<=q.1
 | p,q::r,h,x,hx=>by
  rw[ZU,QX] at h;have h1:=of_decide_eq_true h.1;rcases Qk.mp hx with rfl|hx
  ·exact h1
  ·have:=Jae h.2 x hx;omega
theorem Jeo:∀{l:List PrI},ZU l=true->l.Pairwise fun p q=>p.1<=q.1
 | [],_=>.nil
 | p::l,h=>by
  refine QP.mpr ⟨Jae h,Jeo ?_⟩
  cases l with
  | nil=>rfl
  | cons q r=>rw[ZU,QX] at h;exact h.2
noncomputable def Ja9:List Sl->Option Sl
 | [s]=>s.r.bind fun ds=>(prs? ds).bind fun ps=>if ps.length<64/\ZU ps=true then some (.own ((Js ps).map prE)) else none
 | _=>none
section
variable{K:Qx}{C:Qd}{t:TA}{ev:En->Option (List Sl)}
theorem JgK(ha:SA K C t ev):SE K C (tSL K t) (eF Ja9 ev):=by
 intro B H0 H σ E c Q I e q;obtain⟨a,e1,e⟩:=bind_some e;unfold Ja9 at e;split at e
 ·obtain⟨ds,e2,e⟩:=bind_some e;obtain⟨ps,e3,e⟩:=bind_some e;split at e
  ·next hp =>
   cases e;refine ha B H0 H σ E _ _ I e1 fun x H1 H1' s1 r1=>?_
   obtain⟨v,rfl,r0⟩:=r1.one;obtain⟨l,ys,rfl,h,r2⟩:=r0.r s1.i e2;rw[JcS e3] at r2;have len:ys.length=ps.length:=by rw[r2.1,Qq]
   refine⟨l,ys,ps,rfl,I.t.mono fun a o z=>s1.h _ _ (I.b _ _ z),h,by omega,len,fun i w p h1 h2=>?_,fun i j hij hj=>?_,fun P H2 D pp g hD hperm hasc=>?_⟩
   ·obtain⟨aa,xs,rfl,hsq,rr⟩:=RD.tupI (r2.2 i w (prE p) h1 (by rw[Qo,h2];rfl));have rr':RDL K C H1 xs ([p.1,p.2].map D.int):=rr;have:=rr'.ints;subst this;exact⟨aa,rfl,Same.seqT s1.i hsq⟩
   ·by_cases c:i=j
    ·subst c;exact QK _
    ·have pw:=Jeo hp.2
     have:=GK.mp pw i j (by omega) hj (by omega)
     simpa [hj,show i<ps.length by omega] using this
   ·have ep:=asc_uniq (ns:=ps) hperm hasc
    have sm:Same H1' H2:=by
     rcases g with rfl|⟨y,n,rfl⟩
     ·exact Same.refl _
     ·exact .new n
    have s2:Step H H1 H1' H1 H2:=⟨sm,Same.refl _,fun _ _ z=>.inl z,s1.i.trans sm⟩
    refine Y4 (H:=H2) (Hs:=H) (H0:=H1) (s1.i.trans sm) (s1.h.trans sm) hD (ds:=(Js ps).map prE) ?_ fun v H3 H3' s3 r3=>q v H3 H3' ⟨(s1.h.trans sm).trans s3.h,s1.z.trans s3.z,fun a o z=>?_,s3.i⟩ r3
    ·rw[ep,len]
     have em:Js ps=(UH ps (QS ps.length)).map fun i=>ps.getD i (0,0):=by
      rw[W6];congr 1;refine Go fun i=>?_
      rw[Qo]
      by_cases h:i<ps.length
      ·rw[List.getElem?_range h,KH,QG h];simp[h]
      ·rw[G7 (by simpa using h),G7 (by simpa using h)];rfl
     rw[em,QO];refine⟨by rw[Qq,Qq],fun i w d h1 h2=>?_⟩;rw[Qo] at h1 h2
     cases hx:(UH ps (QS ps.length))[i]? with
     | none=>rw[hx] at h1;cases h1
     | some j =>
      rw[hx] at h1 h2;have hj:j<ps.length:=by simpa using (Y3 ps _).mem_iff.mp (QJ hx)
      cases h1;cases h2;refine r2.2 j _ _ ?_ ?_
      ·simp[show j<ys.length by omega]
      ·simp[hj]
    ·rcases s3.n a o z with z|z|z
     ·exact(s1.n a o z).imp id id
     ·exact .inr (.inl z)
     ·exact .inr (.inr z)
  ·cases e
 ·cases e
end
end LE

namespace LE
open PySem L2
theorem JoH{K:Qx}{P:Qd}{t:HO}(h:Y1 K=some (P,t)):∃c l k q,codeHdIn K c P=true/\t=.tbl #[] l k q:=by
 unfold Y1 at h;split at h
 ·split at h
  ·unfold JfJ at h;split at h
   ·split at h
    ·split at h
     ·split at h
      ·next hh=>cases h;exact⟨_,_,_,_,hh,rfl⟩
      ·cases h
     ·cases h
    ·cases h
   ·cases h
  ·cases h
 ·cases h
end LE
namespace L2
open PySem PySem.Spec PyProof.Rows LE
theorem Jgt{P:Qw}{w:QF}{K:Qx}{mg mb:Str->Option Qc}{CX:CXT}{k:Nat}{fa a Pt:Qd}{t:HO}{fd:QR}{x:Str}{sp:Sp}{s₁:Qe}{vs:List Qc}{ns:List Int}
 (KX:K.In s₁.heap) (hns:s₁.heap.Ns mainGlobals mg) (hb:s₁.heap.Ns builtinsNs mb) (hbb:∀x:Str,x≠"__name__"->mb x=bootBuiltins x) (hlim:s₁.heap.NoLimit) (hg:s₁.gens=#[])
 (hBM:JaQ mg s₁.heap) (hT:Y1 K=some (Pt,t)) (gP:s₁.heap.get? Pt=some { cls:=.none,data:=.fields #[] }) (hKP:K.lookup Pt=none)
 (ha:s₁.heap.get? a=some { cls:=.type "list",data:=.seq vs.toArray }) (hi:IntsAre vs ns) (hl:ns.length<=Qt) (hr:Room k callerA)
 (F:∀base:QL,K.In base->base.Ns mainGlobals mg->JaQ mg base->FnOk P w K mg base CX k fa fd [x] sp) (hbind:∀(s:Qe) (u:Qc),BindsTo s fd ⟨[u],[]⟩ [(x,u)])
 (hsp:∀H:Hp,TabK K H->SqL K H a (ns.map V.int)->sp [.ref a] H (fun v _=>v=.bl true) fun _ _ _=>False)
 (hCX:∀H e s',CX [] H s₁ (fun _ _ _=>False) e s'->False) :
 codeAny (model P w) callerA (.call (.ref fa) ⟨[.ref a],[]⟩) (fun r s'=>r=.ok (.ret (.bool true))/\OldK s₁.heap s'.heap/\s'.os=s₁.os/\AllBare s'.gens) s₁:=by
 have rv:=JaO hi
 have lenV:=hi.length;obtain⟨cc,lq,kq,q,hh,rfl⟩:=JoH hT
 have aP:a≠Pt:=fun z=>by rw[z,gP] at ha;cases ha
 have code:isCodeTable s₁.heap Pt:=((RO KX hh).tab gP).isCodeTable
 have core:∀H:Hp,H Pt=some (.tbl #[] lq kq q)->(∀b,H b=none\/b=Pt\/∃o xs,H b=some (.frz o (.lst xs)))->SqL K H a (ns.map V.int)->HOk P w H s₁.heap->(∀b,H b≠none->b=a\/b=Pt)->(H a≠none->K.lookup a=none) ->
  codeAny (model P w) callerA (.call (.ref fa) ⟨[.ref a],[]⟩) (fun r s'=>r=.ok (.ret (.bool true))/\OldK s₁.heap s'.heap/\s'.os=s₁.os/\AllBare s'.gens) s₁:=by
  intro H hPt hO hS hok hA hK;have base_of:∀{b:Qd} {o:Obj},s₁.heap.get? b=some o->H b=none->(ZY s₁.heap H).get? b=some o:=fun e n=>JhK e n
  have noA:∀{b:Qd} {o:Obj},s₁.heap.get? b=some o->(∀v n,o.data≠.seq v n)->(∀v,o.data≠.fields v)->H b=none:=fun {b o} e d1 d2=>by
   cases q:H b with
   | none=>rfl
   | some u =>
    rcases hA b (by rw[q];simp) with e'|e'
    ·subst e';rw[ha] at e;cases e;exact absurd rfl (d1 _ _)
    ·subst e';rw[gP] at e;cases e;exact absurd rfl (d2 _)
  have nsK:∀{b:Qd} {m:Str->Option Qc},s₁.heap.Ns b m->(ZY s₁.heap H).Ns b m:=fun {b m} ⟨o,es,ep,e,d,r⟩=>⟨o,es,ep,base_of e (noA e (fun _ _ z=>by rw[d] at z;cases z) fun _ z=>by rw[d] at z;cases z),d,r⟩
  have hKb:K.In (ZY s₁.heap H):=fun b o e=>base_of (KX b o e) (by
   cases q:H b with
   | none=>rfl
   | some u =>
    rcases hA b (by rw[q];simp) with e'|e'
    ·subst e';rw[hK (by rw[q];simp)] at e;cases e
    ·subst e';rw[hKP] at e;cases e)
  have hM:Mod K mg (ZY s₁.heap H):=⟨hKb,nsK hns,⟨mb,nsK hb,hbb⟩,let ⟨mc,h1,h2⟩:=hlim;⟨mc,nsK h1,h2⟩⟩
  have hBb:JaQ mg (ZY s₁.heap H):=let ⟨bm,ob,b1,b2,b3,b4,b5,b6⟩:=hBM;⟨bm,ob,b1,b2,base_of b3 (noA b3 (fun _ _ z=>by rw[b6] at z;cases z) fun _ z=>by rw[b6] at z;cases z),b4,b5,b6⟩
  have e0:Env0 P w K mg (ZY s₁.heap H) callerA [] s₁ H:=⟨rfl,hM,fun b o e=>JkD e,Ln (Jgh _ _),trivial,fun b hb=>absurd (show b∈([]:List Qd) from hb) (by simp),hok,.of_eq hg⟩
  have tk:TabK K H:=fun P' t' e=>by rw[hT] at e;cases e;exact hPt
  refine KI ((F _ hKb (nsK hns) hBb).run callerA [] s₁ H ⟨[.ref a],[]⟩ [.ref a] [.ref a] _ _ hr e0 (hbind s₁ (.ref a)) (.cons rfl .nil) (hsp H tk hS)) fun r s' h=>?_
  cases r with
  | error e=>exact(hCX H e s' h).elim
  | ok fl =>
   cases fl with
   | next=>exact Gw h
   | brk=>exact Gw h
   | cont=>exact Gw h
   | ret u =>
    obtain⟨v,H',os,bare,un,hok',r',q⟩:=h;have q':v=.bl true:=q;subst q';obtain rfl:u=Value.bool true:=r';refine⟨rfl,⟨fun b o e=>?_,fun b o e=>un.there b o e (by simp)⟩,os,bare⟩
    by_cases bP:b=Pt
    ·subst bP;rw[gP] at e;cases e;have hP':=un.tbls b _ _ _ _ hPt;rcases hok' b _ hP' with z|⟨y,_,_,z,_⟩
     ·exact .inl z
     ·exact .inr (.inl ⟨code,rfl,#[],_,rfl,z⟩)
    ·refine .inl ?_
     cases q:H b with
     | none=>exact un.keep b o e q (by intro z;exact absurd (show b∈([]:List Qd) from z) (by simp)) (by simp)
     | some u =>
      rcases hO b with z|z|⟨ob,xs,z⟩
      ·rw[q] at z;cases z
      ·exact absurd z bP
      ·have z2:=un.frzs b ob _ z;obtain⟨e1,_⟩:=hok b _ z;obtain⟨e2,_⟩:=hok' b _ z2;rw[e] at e1;cases e1;exact e2
 cases hk:K.lookup a with
 | some o =>
  have e:=KX a o hk;rw[ha] at e;cases e;refine core (fun b=>if b=Pt then some (.tbl #[] lq kq q) else none) (if_pos rfl) (fun b=>?_) (.inr ⟨_,vs.toArray,_,hk,rfl,rfl,rfl,by rw[Qu,lenV];exact hl,by simpa using rv⟩) (fun b u z=>?_) (fun b z=>?_) fun z=>absurd (if_neg aP) z
  ·by_cases hb:b=Pt
   ·exact .inr (.inl hb)
   ·exact .inl (if_neg hb)
  ·by_cases hb:b=Pt
   ·have z':=(if_pos hb).symm.trans z;cases z';subst hb;exact .inl gP
   ·have z':=(if_neg hb).symm.trans z;cases z'
  ·by_cases hb:b=Pt
   ·exact .inr hb
   ·exact absurd (if_neg hb) z
 | none =>
  refine core (fun b=>if b=Pt then some (.tbl #[] lq kq q) else if b=a then some (.frz { cls:=.type "list",data:=.seq vs.toArray } (.lst (ns.map V.int))) else none) (if_pos rfl) (fun b=>?_) (.inl (.inr ⟨{ cls:=.type "list",data:=.seq vs.toArray },(if_neg aP).trans (if_pos rfl)⟩)) (fun b u z=>?_) (fun b z=>?_) fun _=>hk
  ·by_cases hp:b=Pt
   ·exact .inr (.inl hp)
   ·by_cases hb:b=a
    ·exact .inr (.inr ⟨_,_,(if_neg hp).trans (if_pos hb)⟩)
    ·exact .inl ((if_neg hp).trans (if_neg hb))
  ·by_cases hp:b=Pt
   ·have z':=(if_pos hp).symm.trans z;cases z';subst hp;exact .inl gP
   ·have z:=(if_neg hp).symm.trans z
    by_cases hb:b=a
    ·have z':=(if_pos hb).symm.trans z;cases z';subst hb;exact⟨ha,by rw[Qq];exact hl,vs,_,rv,ha⟩
    ·have z':=(if_neg hb).symm.trans z;cases z'
  ·by_cases hp:b=Pt
   ·exact .inr hp
   ·by_cases hb:b=a
    ·exact .inl hb
    ·exact absurd ((if_neg hp).trans (if_neg hb)) z
theorem Jjf{l:PySem.W.OpenLaw}{n k:Nat}{q:Qw}{loose:List Str}{XP:(Str->Option Qc)->QL->Prop}{YP:QF->QL->Prop}{d:DefRec}{K:Params->Qx}{CX:QF->CXT}{sp:QF->Sp}{x:Str}{Pt:Qd}
 (hn:l.most=some n) (hn2:n<=Qt) (hdf:d.params.defaults=[]) (hr:Room k callerA)
 (hY:∀(w:QF) (h:QL),YP w h->(K w.params).In h/\h.get? Pt=some { cls:=.none,data:=.fields #[] })
 (hT:∀w:QF,(Y1 (K w.params)).map (·.1)=some Pt) (hKP:∀w:QF,(K w.params).lookup Pt=none)
 (F:∀(w:QF) (mg:Str->Option Qc) (fa:Qd) (h:QL),(K w.params).In h->h.Ns mainGlobals mg->mg d.name=some (.ref fa) ->
  ∃fd:QR,(∀(s:Qe) (u:Qc),BindsTo s fd ⟨[u],[]⟩ [(x,u)]) ∧
   ∀base:QL,(K w.params).In base->base.Ns mainGlobals mg->JaQ mg base->FnOk l.prog w (K w.params) mg base (CX w) k fa fd [x] (sp w))
 (hsp:∀(w:QF) (H:Hp) (a:Qd) (ns:List Int),ns.length<=n->TabK (K w.params) H->SqL (K w.params) H a (ns.map V.int)->sp w [.ref a] H (fun v _=>v=.bl true) fun _ _ _=>False)
 (hCX:∀(w:QF) (H:Hp) (s:Qe) (e:Qc) (s':Qe),CX w [] H s (fun _ _ _=>False) e s'->False) :
 PySem.W.WalkO q loose XP YP l.row.toRowW d [] (fun f vs=>PySem.call f vs):=by
 refine Att.attach_call hn hdf fun w s₀ s₁ mg mb fa o pm cd doc a vs ns G Y ho hd hcd hmg hobj hints hlen hg=>?_
 obtain⟨KX,gP⟩:=hY w _ Y;obtain⟨⟨P',t⟩,hT',e⟩:=GL.mp (hT w);obtain rfl:P'=Pt:=e;obtain⟨fd,hb,hF⟩:=F w mg fa _ KX G.T.g hmg;obtain⟨bm,ob,b1,b2,b3,b4,b5,b6⟩:=G.T.bmain;exact Jgt KX G.T.g G.T.b G.T.builtins G.T.nolimit hg ⟨bm,ob,b1,b2,b3,b4,b5,b6⟩ hT' gP (hKP w) hobj hints (Gb hlen hn2) hr hF hb (fun H hO hS=>hsp w H a ns hlen hO hS) fun H e s'=>hCX w H s₁ e s'
end L2
namespace LE
open PySem PySem.Spec PyProof.Rows L2 LR
section
variable{P:Qw}{w:QF}{K:Qx}{mg:Str->Option Qc}{base:QL}{C:Qd}{x qual:Str}{st:Kj}{f:Qd}{fd:QR}{N ps:List Str}{k n l c:Nat}{b:Es}
theorem JqW(F:Fun K x qual st f fd)(S:FnScope N ps (Jg st))(hn:n=ps.length)(a:nsIn K mainGlobals "early_lines"=some (some (.ref f)))(hs:(Y1 K).isSome=true)(hp:JdK (Yr st)=some (l,c))
 (hb:∀(cdv:Qc) (A:QC) (outer:List Env) (s:Qe) (H:Hp) (E:XK),LamC K qual l c cdv->Room k (A.deeper (envOfC qual (Jg st) s.heap.objs.size f cdv))->(A.deeper (envOfC qual (Jg st) s.heap.objs.size f cdv)).units+64<cLine ->
  ∃t,PSs (VX CX0 P w K mg base N qual (Jg st) f cdv A outer s H E).nox (Yr st) t/\SS K C t b):FnOk P w K mg base CX0 (k+1) f fd ps (spE K C n (Yw N.length b)):=by
 obtain⟨oc,od,kV,doc,pm,an,cdv,ct,osl,rfl,lk,hcd⟩:=F.ex;have L:=Jkp a lk hs hp;refine Jl0 lk hcd S (fun vs H Q E h=>(Jfy h).trans hn) fun A outer s H vs Q E hr h=>?_
 obtain⟨t,q1,q2⟩:=hb cdv A outer s H E L hr hr.units;exact⟨t,q1.nox,JeP q2 h⟩
noncomputable def JbL(K:Qx):Sp:=fun vs H Q E=>TabK K H/\LR.Jqo K vs H Q E
theorem JhX{ev:List Sl->Option Sl}(F:FnOk P w K mg base CX0 k f fd ps (spE K C 1 ev))
 (h:∀ns:List Int,ns.length<=63->ev [.sh (.fz (ns.map .int))]=some (.sh (.bl true))):FnOk P w K mg base CX0 k f fd ps (JbL K) :=
 F.imp fun vs H Q E ⟨tk,a,ns,e,hS,hl,q⟩=>by subst e;exact⟨tk,H,[.sh (.fz (ns.map .int))],_,Same.refl _,.cons (show RD K C H _ _ from RD.mkF hS (RDL.ofInts ns)) .nil,rfl,rfl,h ns hl,fun v H0' H' _ r=>by rw[RD.blI r];exact q H'⟩
end
end LE
namespace L2
open PySem PySem.Spec PyProof.Rows LE
theorem Jij{X:Cx}{K:Qx}{e:Q7}{t:TA}{v qual:Str}{k l c:Nat}{cdv:Qc}{p pos kpos lpos p1 p2 p3 p4 p5:Pos}(L:LamC K qual l c cdv)(hB:JaQ X.mg X.base)(hr:Room 3 X.A)(hK:X.K=K)(hcd:X.env.code=cdv)(hq:X.env.qual=qual++".<locals>.")(hl:lpos.line=l)(hc:lpos.col=c)
 (hg:Gl X "sorted") (hm:X.mg "sorted"=none) (ha:PA X [e] t)
 (hbi:∀(u y ctv pm:Qc),bindArgs (kla_fn "<lambda>" (X.env.qual++"<lambda>") (YR v p5) (YS v k p1 p2 p3 p4) (J5 v) [] pm y ctv) ⟨[u],[]⟩=pure ([v].zip [u]))
 (hd:(v == ("__debug__":Str))=false) (hcl:(v == ("__classdict__":Str))=false) (hcf:closureFor (J5 v) X.env=pure [])
 (he:backTo pos (starEach [e] X.env)=(false,eval e X.env)::backTo pos (starEach [] X.env):=by rfl) (hpl:(backTo pos (starEach [e] X.env)).any (·.1)=false:=by rfl) :
 PE X (.Call (.Name "sorted" p) [e] [⟨some "key",.Lambda (YR v p5) (YS v k p1 p2 p3 p4) (J5 v) lpos,kpos⟩] pos) (tSL K t):=by
 subst hK hl hc;obtain⟨P,c,e1,hh,hT⟩:=L.ex;exact Jd0 hg hm ha hr (hcd.trans e1) hh (by rw[hT,hq]) hB hbi hd hcl hcf he hpl
end L2

namespace LE
open PySem L2 LR
section
variable{K:Qx}{C:Qd}{B H0 H H0' H':Hp}{σ σ':St}{E E':En}{i j c m:Nat}{ks:List Int}{dss:List (List D)}{l a:Qd}{ls:List Qd}{ds:List D}
theorem Grp.more(g:Grp K C B H0 H σ E j c ks dss l ls):Grp K C B H0 H σ E j (c+1) ks dss l ls :=
 ⟨g.at',g.dict,g.l0,g.lb,g.len,g.len2,LQ g.cnt,fun m a ds e1 e2=>(g.lists m a ds e1 e2).imp LQ id,g.nd,g.own⟩
theorem JeX{tv:TE}{ev:Ev}(hv:SE K C tv ev)(I:EnvR K C B H0 H σ E)(g:Grp K C B H0 H σ E j c ks dss l ls)(m1:ls[m]?=some a)(d1:dss[m]?=some ds)(hlt:ds.length<c)(hc:c<=Qt){s:Sl}{dv:D}(e2:ev E=some s)(e3:s.frz=some dv){D:Ends}
 (f:∀H0' H',SStep B H0 H0' H'->EnvR K C B H0' H' σ E->Grp K C B H0' H' σ E j c ks (dss.set m (ds++[dv])) l ls->D.nx σ H') :
 tyV K "list" (.ref a) H/\Y0 tv Vl σ H fun xs H2=>VI (.ref a) xs H2 fun _ H1=>D.nx σ H1:=by
 have ham:a∈l::ls:=Qf _ (QJ m1);obtain⟨hd,xs,x1,x2,x3,x4⟩:=g.lists m a ds m1 d1;refine⟨.inl ⟨rfl,xs,.of x1⟩,?_⟩;refine hv B H0 H σ E _ _ I e2 fun v H3 H3' s3 r3=>?_
 have s4:Step H H0 H (Ye H H3 H3') H3':=s3.comp (JN s3.i) fun _ z=>z
 have g3:=g.step s4
 have I3:=I.step s4
 have ha3:H3' a=some (.lst xs):=s4.h _ _ x1
 have rv:RDL K C (Ye H H3 H3') (xs++[v]) (ds++[dv]):=(x4.mono s4.z).snoc (RR.frz s3.i r3 e3);refine⟨a,xs,v,rfl,rfl,ha3,by rw[x4.1];omega,?_⟩
 have al:a≠l:=fun z=>(Q6.mp g.nd).1 (z▸QJ m1)
 have na:Ye H H3 H3' a=none:=g3.off (.refl I3.h) ham;refine f (Ye H H3 H3') _ ?_ (I3.poke na x3 (g3.free ham)) ?_
 ·have sb:SStep B H0 (Ye H H3 H3') H3':=s4.ss I.b;exact⟨fun b o q=>by rw[Je (Jo q x3)];exact sb.b b o q,sb.z,sb.n,fun b o q=>by rw[Je (Jo q na)];exact sb.i b o q⟩
 ·refine⟨g3.at',by rw[Je (Q2 al)];exact g3.dict,g3.l0,g3.lb,g3.len,by rw[List.length_set];exact g3.len2,g3.cnt,fun m' a' ds' q1 q2=>?_,g3.nd,g3.own⟩;rw[QW] at q2
  by_cases hm:m=m'
  ·subst hm;rw[m1] at q1;cases q1;rw[if_pos rfl] at q2;split at q2
   ·cases q2;exact⟨by rw[Qz,Gi];omega,_,Jk,na,x3,rv⟩
   ·cases q2
  ·rw[if_neg hm] at q2;obtain⟨h0,xs',h1,h2⟩:=g3.lists m' a' ds' q1 q2
   have:a'≠a:=fun z=>by subst z;have nd:=(Q6.mp g.nd).2;obtain⟨b1,b2⟩:=Qm.mp m1;obtain⟨c1,c2⟩:=Qm.mp q1;exact hm ((List.getElem_inj nd).mp (b2.trans c2.symm))
   exact⟨h0,xs',by rw[Je this];exact h1,h2⟩
noncomputable abbrev Jmk(K:Qx)(i j:Nat)(tv:TE):TS:=JlK (JlH (tB (JfF (Y2 i) (Y2 j))) (JiK (Y2 j) (Y2 i) (JlI Vl)) JfH) (Wr (tBM K "list" VI (JfE (Y2 j) (Y2 i)) (Y0 tv Vl)))
theorem JaD:∀{ks:List Int} {ls:List Qd} {n:Int} {p:Qd},ks.length=ls.length->look ks ls n=none->look (ks++[n]) (ls++[p]) n=some p
 | [],[],n,p,_,_=>by simp[look]
 | [],_::_,_,_,h,_=>by simp at h
 | _::_,[],_,_,h,_=>by simp at h
 | k::ks,x::ls,n,p,h,e=>by
  simp only[look] at e
  by_cases c:k=n
  ·rw[if_pos c] at e;cases e
  ·rw[if_neg c] at e;rw[Gu,Gu];simp only[look];rw[if_neg c];exact JaD (by simpa using h) e
theorem Jgf{tv:TE}{ev:Ev}(hv:SE K C tv ev)(I:EnvR K C B H0 H σ E)(g:Grp K C B H0 H σ E j c ks dss l ls)(hc:c<Qt){n:Int}{s:Sl}{dv:D}(e1:Ja i E=some (.sh (.int n)))(e2:ev E=some s)(e3:s.frz=some dv){D:Ends}
 (f:∀H0' H' ls',SStep B H0 H0' H'->EnvR K C B H0' H' σ E->Grp K C B H0' H' σ E j (c+1) (Jz ks n) (UB ks dss n dv) l ls'->D.nx σ H'):Jmk K i j tv D σ H:=by
 have hkl:=g.len
 have hcn:=g.cnt
 have hσ:σ[i]?=some (some (.int n)):=by
  unfold Ja at e1;split at e1
  ·next d h =>
   cases e1;rcases I.at' i _ h with z|⟨v,q1,q2⟩
   ·cases z
   ·rw[q1,RD.intI q2]
  all_goals cases e1
 refine⟨_,hσ,_,g.at',l,_,rfl,Jhs (.inl g.dict),_,rfl,?_⟩;rw[YU]
 cases hlk:look ks ls n with
 | some a =>
  obtain⟨m,m1,m2,m3⟩:=WR hlk;obtain⟨ds,d1,d2⟩:=m3 dss g.len2;have hd:=(g.lists m a ds m1 d1).1;refine⟨_,g.at',_,hσ,l,.ref a,rfl,?_,JeX hv I g.more m1 d1 (by omega) hc e2 e3 fun H0' H' ss I' g'=>f H0' H' ls ss I' ?_⟩
  ·have:=Jhs (n:=n) (.inl g.dict);rw[YU,hlk] at this;exact this
  ·have hp':Jz ks n=ks:=if_pos m2;rw[hp',d2 dv];exact g'
 | none =>
  obtain⟨m2,m3⟩:=Jac g.len hlk;refine⟨GA _,fun p hp=>?_⟩;have p0:H0 p=none:=Same.free I.h hp;have pb:B p=none:=Same.free I.b hp;have pn:p∉l::ls:=fun m=>by obtain⟨o,h1,_⟩:=g.there m;rw[hp] at h1;cases h1
  have ne:∀{a:Qd},a∈l::ls->a≠p:=fun {a} m z=>pn (z▸m)
  have I1:EnvR K C B H0 (upd H p (.lst [])) σ E:=I.poke p0 pb (I.fresh hp)
  have dl:upd H p (.lst []) l=some (dkO ks (ls.map V.ref)):=by rw[Je (ne Qh)];exact g.dict
  have hkv:UM ((ks.map Sum.inl:List Key).zip (ls.map V.ref)) (Sum.inl n) (.ref p)=((ks++[n]).map Sum.inl:List Key).zip ((ls++[p]).map V.ref):=by rw[Jis _ (by rw[Wh,YU,hlk];rfl),Q0,Q0,Ri (by rw[Qq,Qq];exact g.len)];rfl
  refine⟨_,g.at',_,hσ,l,_,rfl,.inl ⟨_,Sum.inl n,dl,rfl,?_,rfl⟩,?_⟩
  ·rw[Kk,Qq,Qq,hkl,Mg];omega
  ·rw[hkv];have lp:l≠p:=ne Qh;have xp:upd (upd H p (.lst [])) l (dkO (ks++[n]) ((ls++[p]).map V.ref)) p=some (.lst []):=by rw[Je (Q2 lp),Jk]
   have I2:EnvR K C B H0 (upd (upd H p (.lst [])) l (dkO (ks++[n]) ((ls++[p]).map V.ref))) σ E:=I1.poke g.l0 g.lb (g.free Qh)
   suffices key:∀Hn,upd (upd H p (.lst [])) l (dkO (ks++[n]) ((ls++[p]).map V.ref))=Hn->Hn p=some (.lst [])->EnvR K C B H0 Hn σ E->Wr (tBM K "list" VI (JfE (Y2 j) (Y2 i)) (Y0 tv Vl)) D σ Hn from key _ rfl xp I2
   clear xp I2;intro Hn hHn xp I2
   have nd':(l::(ls++[p])).Nodup:=by
    rw[<- Gu,Lg];refine⟨g.nd,by simp,fun x hx y hy=>?_⟩;have:y=p:=by simpa using hy
    rw[this];exact ne hx
   have g2:Grp K C B H0 Hn σ E j (c+1) (ks++[n]) (dss++[[]]) l (ls++[p]):=⟨g.at',by rw[<- hHn];exact Jk,g.l0,g.lb,by simp[g.len],by simp[g.len2],by simp;omega,fun m' a' ds' q1 q2=>by
    by_cases hm:m'<ls.length
    ·rw[QI hm] at q1;rw[QI (by rw[g.len2];exact hm)] at q2;obtain⟨h0,xs',h1,h2⟩:=g.lists m' a' ds' q1 q2;have hal:a'∈ls:=QJ q1;exact⟨by omega,xs',by rw[<- hHn,Je fun z=>(Q6.mp g.nd).1 (by rw[<- z];exact hal),Je (ne (Qf _ hal))];exact h1,h2⟩
    ·have hm1:m'=ls.length:=by have:=(Qm.mp q1).1;simp at this;omega
     subst hm1
     have ea:a'=p:=by
      rw[QE (Qr _)] at q1
      simpa using q1.symm
     have ed:ds'=[]:=by
      rw[QE (by rw[g.len2];exact Qr _),g.len2] at q2
      simpa using q2.symm
     subst ea ed;exact⟨GA _,[],xp,p0,pb,.nil⟩,nd',fun i s a e o q m=>by
      rw[<- Gu] at m;rcases GF.mp m with z|z
      ·exact g.own i s a e o q z
      ·have:a=p:=by simpa using z
       subst this;exact I.fresh hp i s e o q⟩
   have m1:(ls++[p])[ls.length]?=some p:=by rw[QE (Qr _),Ml];rfl
   have d1:(dss++[[]])[ls.length]?=some []:=by rw[QE (by rw[g.len2];exact Qr _),g.len2,Ml];rfl
   refine⟨_,g.at',_,hσ,l,.ref p,rfl,?_,JeX hv I2 g2 m1 d1 (by simp) hc e2 e3 fun H0' H' ss I' g'=>f H0' H' (ls++[p]) ⟨ss.b,ss.z,ss.n,ss.i⟩ I' ?_⟩
   ·have:=Jhs (n:=n) (.inl g2.dict);rw[YU,JaD g.len hlk] at this;exact this
   ·have hp':Jz ks n=ks++[n]:=if_neg (by rw[m2];exact QD);rw[hp',m3 dss dv g.len2]
    have e:(dss++[[]]).set ls.length ([]++[dv])=dss++[[dv]]:=by rw[<- g.len2,List.set_append_right _ _ (Qr _),Ml];rfl
    rw[e] at g';exact g'
theorem JoS{wi:TI}{g:TG}{it:En->Option (List LE.D)}{p:Pt}{tv:TE}{ev:Ev}(hi:SI K C false wi it)(hg:SGJ K C j g p)(hv:SE K C tv ev) :
 SS K C (JlG wi g (Jmk K i j tv)) (JlS it p j (Ja i) ev):=by
 intro B H0 H σ E o D I e f;unfold JlS at e;split at e
 ·next h =>
  obtain⟨ds,e1,e⟩:=bind_some e;split at e
  ·next hz =>
   obtain⟨⟨E',ks,dss⟩,e2,e⟩:=bind_some e;split at e
   ·next hjl =>
    cases e;refine hi B H0 H σ E ds _ I e1 fun J H1 H1' s1 ok=>?_
    rw[if_neg (by simp)] at ok;have I1:=I.step s1;rcases I1.at' j _ h with y|⟨v,h1,l,xs,rfl,hl,hl0,hlb,_,rx⟩
    ·cases y
    have hx:xs=[]:=QU (by have:=rx.1;simpa using this);subst hx
    have G0:Grp K C B H1 H1' σ (E.set j .no) j 0 [] [] l []:=⟨h1,hl,hl0,hlb,rfl,rfl,Qr _,fun m a ds q=>by simp at q,by simp,fun i s a q o q' m=>by
     rw[QW] at q
     by_cases c:j=i
     ·rw[if_pos c] at q
      by_cases hl:j<E.length
      ·rw[if_pos hl] at q;have q':=QT q;rw[<- q'] at o;exact absurd o QD
      ·rw[if_neg hl] at q;exact absurd q (by simp)
     ·rw[if_neg c] at q;have:a=l:=by simpa using m
      subst this;exact I1.sep j i _ s (.ref a) c h q rfl o h1 q'⟩
    refine⟨fun i' k σ' H'=>k=ds.length-i'/\i'<=ds.length/\∃H0' E1 ks1 dss1 l ls,EnvR K C B H0' H' σ' E1/\SStep B H1 H0' H'/\Grp K C B H0' H' σ' E1 j i' ks1 dss1 l ls/\Vy p (Ja i) ev (ds.drop i') E1 ks1 dss1=some (E',ks,dss),
     ⟨ds.length,by simp,GA _,H1,E.set j .no,[],[],l,[],I1.unslot j,.refl (I.b.trans s1.h) s1.i,G0,e2⟩,?_⟩
    rintro i' k σ' H' ⟨rfl,hi',H0',E1,ks1,dss1,l,ls,I',st,G,er⟩;have stop:=ok H0' H' st
    by_cases hlt:i'<ds.length
    ·have hd:ds[i']?=some ds[i']:=by simp[hlt]
     obtain⟨go,yl⟩:=stop.1 i' _ hd;refine .inr ⟨go,fun σ2 H2=>∃H0' E1 ks1 dss1 l ls,EnvR K C B H0' H2 σ2 E1/\SStep B H1 H0' H2/\Grp K C B H0' H2 σ2 E1 j (i'+1) ks1 dss1 l ls/\Vy p (Ja i) ev (ds.drop (i'+1)) E1 ks1 dss1=some (E',ks,dss),fun σ2 H2 h=>⟨ds.length-(i'+1),by omega,rfl,hlt,h⟩,fun x H2 y=>?_⟩;obtain⟨H02,st2,rx⟩:=yl x H2 y;rw[Lr hlt,Vy] at er;obtain⟨E2,b1,er⟩:=bind_some er;obtain⟨n,b2,er⟩:=bind_some er
     obtain⟨s,b3,er⟩:=bind_some er;obtain⟨dv,b4,er⟩:=bind_some er;obtain⟨sn,b5,b6⟩:=bind_some b2;have b7:=Ug b6;subst b7;have ss2:SStep B H0' H02 H2:=st2.ss I'.b;refine hg B H02 H2 σ' E1 E2 x _ _ (I'.step st2) rx b1 fun σ2 I2 lf=>?_
     exact Jgf hv I2 ((G.step st2).left lf) (by omega) b5 b3 b4 fun H03 H3 ls' ss I3 G3=>⟨H03,E2,_,_,l,ls',I3,(st.trans ss2).trans ss,G3,er⟩
    ·have hd:ds.drop i'=[]:=List.drop_eq_nil_of_le (by omega)
     have hin:i'=ds.length:=by omega
     rw[hd,Vy] at er;have er':=QT er;cases er';obtain⟨d1,d2⟩:=G.done I' hjl;refine .inl ⟨by rw[hin];exact stop.2,f σ' _ H' (((s1.ss I.b).trans st).trans d1) d2⟩
   ·cases e
  ·cases e
 ·cases e
end
end LE

end
open L2 LR
local macro_rules | `(tactic| walk_at "side")=>`(tactic| first | decide | exact⟨by decide,by decide,by decide⟩ | exact⟨by decide,by decide⟩ | (show(0:Int)<_;omega) | (show(0:Int)<_/\_<(1073741824:Int);omega) | exact Or.inl ⟨by omega,by omega⟩ | exact Or.inr ⟨by omega,by omega⟩ | assumption)
local macro_rules | `(tactic| walk_at "rd1")=>`(tactic| with_reducible first | refine Jok ?_ | refine Jn0 ?_ | refine Jn5 ?_ | refine Joi ?_ | refine Jk1 ?_ | refine Jk7 ?_ | refine Jp1 ?_ | refine Jp4 ?_ | refine Jlb ?_ | refine Jp3 ?_ | refine Jlc ?_ | refine JnZ ?_ | refine Jp2 ?_ | refine Jog ?_ | refine Jk9 ?_ | refine JkZ ?_ | refine Joh ?_ | refine Jn4 ?_ | refine Jk0 ?_ | refine Jof ?_ | refine JpY ?_ | refine Jfp ?_ | refine LR.Jfr ?_ | refine Jol ?_ | refine Job ?_ | refine Jp0 ?_ | refine JiG ?_ | refine Jk3 ?_ | refine JiF ?_ | refine Jk2 ?_ | refine Jn3 ?_ | refine Jla ?_ | refine JiE ?_ | refine Jon ?_ | refine JqY ?_ | refine JpZ ?_ | refine Jq0 ?_ | refine JkY ?_ | refine Jn1 ?_ | refine Jod ?_ | refine Jn2 ?_ | refine Joe ?_ | refine Jn6 ?_ | refine Jk8 ?_ | refine Joc ?_ | refine JiH ?_ | refine Exists.intro _ (And.intro (LR.JoL _ _ _) ?_))
local macro_rules | `(tactic| walk_at "rd2")=>`(tactic| first | ((with_reducible refine JqZ ?hc ?_);(case hc=>walk_at "side")) | ((with_reducible refine Jom (v:=?vv) ?hx ?_);(case hx=>exact rfl)) | (with_reducible refine Exists.intro _ (And.intro (Eq.refl (V.bl _)) ?_)))
local macro_rules | `(tactic| walk_at "rd")=>`(tactic| repeat (first | walk_at "rd1" | walk_at "rd2"))
noncomputable section
namespace LK
open PySem L2 LR LE
noncomputable def Yi:List Sl->Option Sl:=Yw 5 (Jj (UA 1 (YO a0))
 (Jj (U6 (iV 0) (.tp (.cons (.nm 2) (.cons (.nm 3) .nil))) (xIf (tAnd? (tTru? (Ja 1)) (tB? (e2 fEq (eF V0 (aC (e2 fIx (Ja 1) (e1 Jga (eC (.int 1)))) a0)) (Ja 2)))) (Jj (JlT 1 4 some)
 (ZR 1 (YQ (aC (e2 fIx (Ja 4) (eC (.int 0))) (aC (e2 JT (e2 fIx (Ja 4) (eC (.int 1))) (Ja 3)) a0))))) (xIf (tB? (e2 fGt (Ja 3) (eC (.int 0)))) (ZR 1 (YQ (aC (Ja 2) (aC (Ja 3) a0)))) JP)))
 (YL 1)))
noncomputable def Yh:List Sl->Option Sl:=Yw 2 (JU (J9 (Jcg true (aC (e1 Us (Ja 0)) a0)) (.tp (.cons (.nm 0) (.cons (.nm 1) .nil))) yes? (YQ (aC (e2 JT (e2 fIx (Ja 1) (eC (.int 0))) (e2 Yl (e2 Yl (eC (.int 2)) (Ja 2)) (Ja 0))) (aC (e2 JT (e2 fIx (Ja 1) (eC (.int 1))) (Ja 2)) a0))) [none,none,some 1]))
noncomputable def Yt:List Sl->Option Sl:=Yw 1 (JU (J9 (Jkh true (aC (e1 Us (Ja 0)) (aC (eSl (e1 Us (Ja 0)) (some (eC (.int 1))) none) a0))) (.tp (.cons (.nm 0) (.cons (.nm 1) .nil))) yes? (e2 Yo (e2 fIx (Ja 1) (eC (.int 0))) (eF V0 (aC (Ja 0) a0))) [none,none]))
noncomputable def JI:List Sl->Option Sl:=Yw 1 (JU (eF JeK (aC (e2 JT (J9 (iE true (e1 Us (Ja 0))) (.tp (.cons (.nm 0) (.cons (.nm 1) .nil))) yes? (Ja 1) [none,none]) (eU 1 Yt (aC (Ja 0) a0))) a0)))
noncomputable def JS:List Sl->Option Sl:=Yw 5 (Jj (Jn 2 (eF ZX (aC (e1 Us (Ja 0)) a0)))
 (Jj (Jn 3 (Ja 1))
 (Jj (Yn (tAnd? (tB? (e2 fGt (Ja 3) (eC (.int 0)))) (tTru? (e1 Us (Ja 2)))) (Jj (Jn 4 (eF Jdy (aC (Ja 3) (aC (eU 1 JI (aC (Ja 2) a0)) a0))))
 (Jj (Jn 2 (eF ZX (aC (eU 1 Yi (aC (eU 2 Yh (aC (Ja 2) (aC (e1 Jga (Ja 4)) a0))) a0)) a0)))
 (Z9 (fun i j=>i-j) 3 (Ja 4)))) 1000000)
 (YL 2))))
noncomputable def YD:List Sl->Option Sl:=Yw 2 (JU (eF Jj1 (aC (J9 (iE true (e1 Us (Ja 0))) (.tp (.cons (.nm 0) (.cons (.nm 1) .nil))) yes? (Jdr fLe fLt (Ja 0) (Ja 2) (e2 JT (Ja 0) (Ja 1))) [none,none,some 1]) a0)))
noncomputable def YV:List Sl->Option Sl:=Yw 2 (JU (eIf (tAnd? (tTru? (eU 2 YD (aC (Ja 0) (aC (e2 Yo (Ja 1) (eC (.int 1))) a0)))) (tNot? (tTru? (eU 2 YD (aC (Ja 0) (aC (Ja 1) a0)))))) (eC (.int 1)) (eC (.int 0))))
noncomputable def YT:List Sl->Option Sl:=Yw 6 (Jj (Jn 1 (eU 2 JS (aC (Ja 0) (aC (eC (.int 1)) a0))))
 (Jj (UA 2 Jcb)
 (Jj (U6 (Jcg false (aC (e1 Us (Ja 0)) a0)) (.tp (.cons (.nm 3) (.cons (.nm 4) .nil))) (Jj (Jn 5 (e2 Yo (e2 Yo (eF V0 (aC (Ja 4) a0)) (eC (.int 1))) (e2 Yl (eC (.int 2)) (Ja 3))))
 (Jdh 2 (Ja 5) (e2 JT (Ja1 (Ja 2) (Ja 5) (eC (.int 0))) (eC (.int 1))))))
 (JfN 2 (JU (J9 (JdE (Ja 2)) (.tp (.cons (.nm 0) (.cons (.nm 1) .nil))) yes? (YQ (aC (Ja 0) (aC (Ja 1) (aC (eU 2 YV (aC (Ja 2) (aC (Ja 0) a0))) a0)))) [none,none,some 1]))))))
noncomputable def Yc:List Sl->Option Sl:=Yw 5 (Jj (UA 1 (YO a0))
 (Jj (Jn 2 (Ja 0))
 (Jj (Jn 3 (eC (.int 0)))
 (Jj (Yn (tTru? (e1 Us (Ja 2))) (Jj (Jn 4 (eU 1 JI (aC (Ja 2) a0)))
 (Jj (Z9 (fun i j=>i+j) 3 (Ja 4))
 (Jj (Jn 2 (eU 2 JS (aC (Ja 2) (aC (e2 Yo (Ja 4) (eC (.int 1))) a0))))
 (Jj (ZS 1 (J9 (iE true (eU 1 YT (aC (Ja 2) a0))) (.tp (.cons (.nm 0) (.cons (.nm 1) (.cons (.nm 2) .nil)))) (tB? (e2 fGt (Ja 1) (Ja 2))) (YQ (aC (Ja 3) (aC (Ja 0) (aC (e2 Yo (Ja 1) (Ja 2)) a0)))) [none,none,none,some 3]))
 (Jn 2 (eU 2 JS (aC (Ja 2) (aC (eC (.int 1)) a0)))))))) 1000000)
 (YL 1)))))
noncomputable def J0:List Sl->Option Sl:=Yw 5 (Jj (UA 1 Jcb)
 (Jj (U6 (iE false (eU 1 Yc (aC (Ja 0) a0))) (.tp (.cons (.nm 2) (.cons (.nm 3) (.cons (.nm 4) .nil)))) (Jdh 1 (Ja 2) (e2 JT (Ja1 (Ja 1) (Ja 2) (eC (.int 0))) (Ja 4))))
 (JU (Ja2 (Ja 1)))))
noncomputable def JQ:List Sl->Option Sl:=Yw 6 (Jj (UA 1 (YO a0))
 (Jj (Jn 2 (eF Yd (aC (e1 Us (Ja 0)) a0)))
 (Jj (Jn 3 (eC (.int 0)))
 (Jj (U6 (iE false (eU 1 J0 (aC (Ja 0) a0))) (.tp (.cons (.nm 4) (.cons (.nm 5) .nil))) (Jj (Z9 (fun i j=>i-j) 2 (Ja 5))
 (Jj (ZS 1 (e2 Ja8 (YO (aC (YQ (aC (Ja 4) (aC (e2 Yo (e2 Yl (eC (.int 2)) (Ja 3)) (e2 Yl (e2 Yl (eC (.int 2)) (Ja 4)) (Ja 2))) a0))) a0)) (Ja 5)))
 (Z9 (fun i j=>i+j) 3 (e2 Yl (Ja 4) (Ja 5))))))
 (YL 1)))))
noncomputable def J7:List Sl->Option Sl:=Yw 1 (JU (eF V0 (aC (J9 (iE true (e1 Us (Ja 0))) (.tp (.cons (.nm 0) (.cons (.nm 1) .nil))) yes? (Ja 1) [none,none]) a0)))
noncomputable def Yb:List Sl->Option Sl:=Yw 1 (xIf (tAnd? (tB? (e2 Ja5 (Ja 0) (eC .non))) (tB? (e2 fLt (Ja 0) (eC (.int 1))))) Jjl JP)
noncomputable def UF:List Sl->Option Sl:=Yw 9 (Jj (Jjk (eU 1 Yb (aC (Ja 1) a0)))
 (Jj (Jn 2 (eIf (tB? (e2 fIs (Ja 1) (eC .non))) (eU 1 J7 (aC (Ja 0) a0)) (Ja 1)))
 (Jj (UA 3 (YO a0))
 (Jj (Jn 4 (eC (.int 0)))
 (Jj (U6 (Jkh false (aC (e1 Us (Ja 0)) (aC (e2 JT (eU 1 Yt (aC (Ja 0) a0)) (YO (aC (Ja 2) a0))) a0))) (.tp (.cons (.nm 5) (.cons (.nm 6) .nil))) (Jj (Jn 7 (eF Jdy (aC (e2 fIx (Ja 5) (eC (.int 1))) (aC (e2 Yo (Ja 2) (Ja 4)) a0))))
 (Jj (Jn 8 (eF Jdy (aC (e2 JT (Ja 4) (Ja 7)) (aC (Ja 6) a0))))
 (Jj (Jn 4 (e2 Yo (e2 JT (Ja 4) (Ja 7)) (Ja 8)))
 (ZR 3 (e2 JT (Ja 5) (YQ (aC (Ja 7) (aC (Ja 8) a0)))))))))
 (YL 3))))))
noncomputable def UY:List Sl->Option Sl:=Yw 2 (JU (eF ZX (aC (J9 (iE true (eU 2 UF (aC (Ja 0) (aC (Ja 1) a0)))) (.tp (.cons (.nm 0) (.cons (.nm 1) (.cons (.nm 2) (.cons (.nm 3) .nil))))) yes? (YQ (aC (e2 JT (Ja 0) (Ja 2)) (aC (e2 JT (e2 Yo (Ja 1) (Ja 2)) (Ja 3)) a0))) [none,none,none,none]) a0)))
noncomputable def JE:List Sl->Option Sl:=Yw 4 (Jj (UA 1 Jcb)
 (Jj (JlS (iV 0) (.tp (.cons (.nm 2) (.cons (.nm 3) .nil))) 1 (Ja 2) (Ja 3))
 (YL 1)))
noncomputable def JM:List Sl->Option Sl:=Yw 5 (Jj (UA 1 (YO a0))
 (Jj (U6 (iE false (eU 1 Yc (aC (Ja 0) a0))) (.tp (.cons (.nm 2) (.cons (.nm 3) (.cons (.nm 4) .nil)))) (ZS 1 (e2 Ja8 (YO (aC (YQ (aC (Ja 2) (aC (Ja 3) a0))) a0)) (Ja 4))))
 (YL 1)))
noncomputable def JW:List Sl->Option Sl:=Yw 2 (Jj (Jn 1 (eF Ja9 (aC (eU 1 JM (aC (Ja 0) a0)) a0)))
 (JU (J9 (Jcg true (aC (Ja 1) a0)) (.tp (.cons (.nm 0) (.cons (.nm 1) .nil))) yes? (YQ (aC (e2 fIx (Ja 1) (eC (.int 0))) (aC (e2 JT (e2 fIx (Ja 1) (eC (.int 1))) (e2 Yl (e2 Yl (eC (.int 2)) (e2 fIx (Ja 1) (eC (.int 0)))) (Ja 0))) a0))) [none,none])))
noncomputable def Yj:List Sl->Option Sl:=Yw 5 (Jj (UA 1 (YO a0))
 (Jj (Jn 2 (eC (.int 0)))
 (Jj (U6 (iE false (eU 1 JM (aC (Ja 0) a0))) (.tp (.cons (.nm 3) (.cons (.nm 4) .nil))) (Jj (ZR 1 (YQ (aC (Ja 3) (aC (e2 JT (Ja 4) (e2 Yl (eC (.int 2)) (Ja 2))) a0))))
 (Z9 (fun i j=>i+j) 2 (Ja 3))))
 (YL 1))))
noncomputable def J2:List Sl->Option Sl:=Yw 4 (Jj (xIf (tOr? (tNot? (tTru? (Jf7 "list" (Ja 0)))) (tB? (e2 fNe (eF Yd (aC (Ja 0) a0)) (Ja 1)))) (JU (eC (.bl false))) JP)
 (Jj (U6 (iV 0) (.nm 2) (Jj (xIf (tOr? (tNot? (tTru? (Jf7 "tuple" (Ja 2)))) (tB? (e2 fNe (eF Yd (aC (Ja 2) a0)) (eC (.int 2))))) (JU (eC (.bl false))) JP)
 (U6 (iV 2) (.nm 3) (xIf (tOr? (tNot? (tTru? (Jf7 "int" (Ja 3)))) (tTru? (Jf7 "bool" (Ja 3)))) (JU (eC (.bl false))) JP))))
 (JU (eC (.bl true)))))
noncomputable def Ju:List Sl->Option Sl:=Yw 2 (Jj (xIf (tB? (e2 fLt (Ja 1) (eF Yd (aC (Ja 0) a0)))) (JU (e2 fIx (Ja 0) (Ja 1))) JP)
 (JU (eC (.int 0))))
noncomputable def JJ:List Sl->Option Sl:=Yw 8 (Jj (Jn 4 (e2 Yo (e2 UG (eU 2 Ju (aC (Ja 0) (aC (Ja 1) a0))) (e2 JT (e2 Yl (eC (.int 2)) (Ja 3)) (eC (.int 1)))) (Ja 3)))
 (Jj (UA 5 (YO a0))
 (Jj (U6 (iR1 (aC (Ja 2) a0)) (.nm 6) (Jj (Jn 7 (e2 JT (eC (.int 1)) (e2 UG (eU 2 Ju (aC (Ja 0) (aC (e2 JT (e2 JT (Ja 1) (eC (.int 1))) (e2 Yl (eC (.int 2)) (Ja 6))) a0))) (Ja 3))))
 (Jj (ZR 5 (YQ (aC (Ja 4) (aC (Ja 7) a0))))
 (Jn 4 (e2 JT (e2 JT (e2 JT (Ja 4) (Ja 7)) (eC (.int 1))) (e2 UG (eU 2 Ju (aC (Ja 0) (aC (e2 JT (e2 JT (Ja 1) (eC (.int 2))) (e2 Yl (eC (.int 2)) (Ja 6))) a0))) (Ja 3)))))))
 (YL 5))))
noncomputable def Jdx:List Sl->Option Sl:=Yw 16 (Jj (Jn 1 (eU 2 Ju (aC (Ja 0) (aC (eC (.int 0)) a0))))
 (Jj (Jn 2 (eU 2 Ju (aC (Ja 0) (aC (eC (.int 1)) a0))))
 (Jj (Jn 3 (eU 4 JJ (aC (Ja 0) (aC (eC (.int 2)) (aC (e2 UG (Ja 1) (eC (.int 19))) (aC (e2 fIx (YO (aC (eC (.int 3)) (aC (eC (.int 7)) (aC (eC (.int 1000)) (aC (e2 Jdz (eC (.int 10)) (eC (.int 30))) a0))))) (e2 UG (e2 Ja4 (Ja 1) (eC (.int 19))) (eC (.int 4)))) a0))))))
 (Jj (Jn 4 (eF ZX (aC (Ja 3) a0)))
 (Jj (UA 5 (eU 1 JQ (aC (Ja 4) a0)))
 (Jj (ZR 5 (YQ (aC (eC (.int 0)) (aC (eC (.int 0)) a0))))
 (Jj (JaP 5)
 (Jj (Jn 6 (eU 1 JQ (aC (Ja 4) a0)))
 (Jj (xIf (tNot? (tTru? (eU 2 J2 (aC (Ja 6) (aC (eF Yd (aC (Ja 3) a0)) a0))))) (JU (eC (.bl false))) JP)
 (Jj (UA 7 (YO a0))
 (Jj (U6 (iE false (eU 1 J0 (aC (Ja 4) a0))) (.tp (.cons (.nm 8) (.cons (.nm 9) .nil))) (ZS 7 (e2 Ja8 (YO (aC (Ja 8) a0)) (Ja 9))))
 (Jj (Jn 10 (eU 1 JE (aC (eU 1 Yj (aC (Ja 4) a0)) a0)))
 (Jj (Jn 11 (eU 1 JE (aC (eU 1 JW (aC (Ja 4) a0)) a0)))
 (Jj (xIf (tOr? (tB? (e2 fNe (VY (Ja 10)) (VZ (Ja 7)))) (tB? (e2 fNe (VY (Ja 11)) (VZ (Ja 7))))) (JU (eC (.bl false))) JP)
 (Jj (U6 (iR1 (aC (eF Yd (aC (Ja 7) a0)) a0)) (.nm 12) (Jj (Jn 13 (e2 Yl (eC (.int 2)) (eF V0 (aC (J9 (iE true (Ja 7)) (.nm 0) (tB? (e2 fLt (Ja 0) (e2 fIx (Ja 1) (Ja 2)))) (Ja 0) [none,some 7,some 12]) a0))))
 (Jj (Jn 13 (e2 Yo (Ja 13) (e2 Yl (e2 Yl (eC (.int 2)) (e2 fIx (Ja 7) (Ja 12))) (eF Yd (aC (J9 (iE true (Ja 7)) (.nm 0) (tB? (e2 fGt (Ja 0) (e2 fIx (Ja 1) (Ja 2)))) (Ja 0) [none,some 7,some 12]) a0)))))
 (Jj (xIf (tB? (e2 fNe (e2 fIx (Ja 6) (Ja 12)) (YQ (aC (e2 fIx (Ja 7) (Ja 12)) (aC (Ja 13) a0))))) (JU (eC (.bl false))) JP)
 (Jj (Jn 14 (e2 Yo (Ja 12) (eMI Vv (Ja 7) (e2 fIx (Ja 7) (Ja 12)))))
 (Jj (xIf (tOr? (tB? (e2 fGe (Ja 14) (eF Yd (aC (YI (Ja 10) (e2 fIx (Ja 7) (Ja 12))) a0)))) (tB? (e2 fGe (Ja 14) (eF Yd (aC (YI (Ja 11) (e2 fIx (Ja 7) (Ja 12))) a0))))) (JU (eC (.bl false))) JP)
 (xIf (tB? (e2 fNe (e2 Yo (e2 fIx (YI (Ja 10) (e2 fIx (Ja 7) (Ja 12))) (Ja 14)) (e2 fIx (YI (Ja 11) (e2 fIx (Ja 7) (Ja 12))) (Ja 14))) (Ja 13))) (JU (eC (.bl false))) JP)))))))
 (Jj (Jn 15 (e2 fIx (YO (aC (eC .non) (aC (e2 JT (eC (.int 1)) (e2 UG (e2 Ja4 (Ja 2) (eC (.int 3))) (eC (.int 9)))) (aC (e2 JT (eC (.int 1)) (e2 UG (e2 Ja4 (Ja 2) (eC (.int 3))) (e2 Jdz (eC (.int 10)) (eC (.int 30))))) a0)))) (e2 UG (Ja 2) (eC (.int 3)))))
 (JU (JjG (e2 fEq (eU 1 JQ (aC (eU 2 UY (aC (Ja 4) (aC (Ja 15) a0))) a0)) (Ja 6)) (e2 fEq (e1 Us (Ja 4)) (eF W5 (aC (Ja 3) a0)))))))))))))))))))))
end LK
end
namespace LK
open PySem L2 LR LE
local macro_rules | `(tactic| omega)=>`(tactic| first | lia | omega (config:={}))
local macro_rules | `(tactic| walk_at "sd")=>`(tactic| first | omega (config:={}) | assumption | (simp only[Qz,Qq,Ma,Qv,Lz,Gi];omega (config:={})))
local macro_rules | `(tactic| walk_at "ev")=>`(tactic| simp -implicitDefEqProofs (disch:=walk_at "sd") only[Yw,Jfw,Int.reduceToNat,Qv,Lz,Nat.reduceAdd,Nat.reduceSub,Nat.reduceLT,Nat.reduceLeDiff,GO,Nat.zero_lt_succ,Nat.succ_lt_succ_iff,RM,Gu,Q4,GG,List.set_cons_zero,List.set_cons_succ,Ks,LM,Qq,Ma,List.length_set,QV,KH,Option.bind_none,Option.map_none,if_true,if_false,ite_true,ite_false,decide_true,decide_false,Bool.not_true,Bool.not_false,Bool.and_true,Bool.true_and,reduceIte,reduceCtorEq,KC,Qg,K5,if_pos,
 Jj,xIf,JU,YL,JP,UA,Jn,Jjk,ZR,ZS,JlT,Z9,Jky,JjE,Jcb,Sl.dt,pr?,Jpq,YI,Ja1,Jdh,JfN,JdE,Ja2,JaP,VY,VZ,JbA,ifB,lst?,Jo5,eMI,Jj4,Sl.dk,int?,JmS,U6,tB?,tTru?,tAnd?,tOr?,tNot?,JoK,e2,e1,Ja,eF,eC,aC,a0,eU,WJ,Sl.pass,YQ,YO,W8,Sl.frz,JjG,eIf,Jdr,sh?,bool?,str?,keep?,Jf7,tyN,D.isRow,Jnw,Jnv,Jlq,Jlr,Jlo,Jlp,JjI,JjJ,
 Jpf,Jj6,Jj5,Jj3,Jj8,Jj7,JjS,JjZ,JjW,JjV,JjQ,JjP,JjX,JjY,JjT,JjR,JjU,JmP,JmN,JmM,JmQ,JmL,JmO,Jpi,Jph,Jpk,Jpg,Jpj,W5,Jdy,Us,Sl.q,Sl.r,Sl.m,Sl.d,Sl.it,fEq,fNe,JmI,JmJ,JmH,Jhw,JmF,JmG,JmE,fIs,Ja5,Jgl,Jgj,JhO,Jgn,Jgo,Jgk,JhP,Jgm,iE,iV,iR1,J9,VB,Jkh,Jcg,JeK,Ze,eSl,W1,fSl,Jbg,JmZ,JiV,Jnd,Jkn,Jnc,Jng,Jne,Jnf,Jo2,Jo3,Jjs,Jg1,JqD,JqE,JqF,JqG,JqH,eq_self])
noncomputable section
theorem Zm(ns:List Int)(k:Int)(hk:0<=k):Ju [.sh (.fz (ns.map .int)),.sh (.int k)]=some (.sh (.int (cell ns k))):=by
 unfold Ju;walk_at "ev"
 by_cases h:k<(ns.length:Int)
 ·simp only[h,JaU,Jb3 hk h];walk_at "ev"
 ·simp only[h,Jhh h];walk_at "ev"
theorem Good.cons'{p:Pr}{ps:List Pr}(g:Good (p::ps)):Good ps:=⟨fun i q e=>g.one (i+1) q (by simpa using e),fun i q r e1 e2=>g.gap (i+1) q r (by simpa using e1) (by simpa using e2)⟩
theorem Good.all{ps:List Pr}(g:Good ps):∀p∈ps,1<=p.2:=fun p hp=>by obtain⟨i,hi,e⟩:=Gv.mp hp;exact g.one i p (by simp[hi,e])
theorem Good.first{p:Pr}:∀{ps:List Pr},Good (p::ps)->∀q∈ps,p.1+p.2<q.1
 | [],_,q,hq=>nomatch hq
 | r::ps,g,q,hq=>by
  have h1:=g.gap 0 p r rfl rfl;rcases Qk.mp hq with z|z
  ·rw[z];exact h1
  ·have h2:=Good.first (Good.cons' g) q z
   have h3:=g.one 1 r rfl;omega
theorem Good.pw:∀{ps:List Pr},Good ps->ps.Pairwise fun p q=>p.1+p.2<q.1
 | [],_=>.nil
 | p::ps,g=>.cons (Good.first g) (Good.pw (Good.cons' g))
theorem Jg9{α:Type}{xs:List α}{x:α}(h:xs[xs.length-1]?=some x):atI xs (-1)=some x:=by
 have hl:=(Qm.mp h).1;unfold atI ixN;rw[if_neg (by omega),if_pos (by omega)]
 have:((-1:Int)+(xs.length:Int)).toNat=xs.length-1:=by omega
 rw[this];exact h
theorem Ja6(p:Pr):fIx (.sh (prE p)) (.sh (.int 0))=some (.sh (.int p.1)):=rfl
theorem Ja7(p:Pr):fIx (.sh (prE p)) (.sh (.int 1))=some (.sh (.int p.2)):=rfl
noncomputable def JR:List Pr->List Int
 | []=>[]
 | [_]=>[]
 | p::q::r=>(q.1-(p.1+p.2))::JR (q::r)
theorem Jar:∀ps:List Pr,JR ps=(KW ps (ps.drop 1)).map fun pq=>pq.2.1-(pq.1.1+pq.1.2)
 | []=>rfl
 | [_]=>rfl
 | p::q::r=>by rw[JR,Jar (q::r)];rfl
theorem UZ:∀ps:List Pr,(JR ps).length=ps.length-1
 | []=>rfl
 | [_]=>rfl
 | p::q::r=>by rw[JR,Qv,UZ (q::r)];simp
theorem Jhp{α:Type}(xs:List α):Jdq xs (some 1) none=xs.drop 1:=by
 unfold Jdq;have e:HT.sIx xs.length 0 (some 1)=min 1 xs.length:=rfl;rw[e,show HT.sIx xs.length xs.length none=xs.length from rfl]
 cases xs with
 | nil=>rfl
 | cons x xs=>simp
theorem Jh5(ps:List Pr)(h:ps.length<=1000):Yt [.sh (.row (ps.map prE))]=some (.own ((JR ps).map .int)):=by
 unfold Yt;walk_at "ev";rw[Jhp,<- List.map_drop,JfO];walk_at "ev";have hz:(KW ps (ps.drop 1)).length<=16777216:=by rw[Kk];omega
 rw[if_pos hz,Yx (g:=fun pq=>D.int (pq.2.1-(pq.1.1+pq.1.2)))]
 ·walk_at "ev";rw[Jar,QO];rfl
 ·intro pq _;walk_at "ev";rw[Ja6];walk_at "ev";rw[Vx (ns:=[pq.1.1,pq.1.2]) rfl];walk_at "ev";simp
theorem Vr{α:Type}{xs:List α}{k:Nat}{x:α}(h:xs[k]?=some x):atI xs (k:Int)=some x:=by obtain⟨h1,h2⟩:=Qm.mp h;rw[Jb4 h1,h2]
theorem Good.mk'{p:Pr}{ps:List Pr}(h1:1<=p.2)(h2:∀q,ps[0]?=some q->p.1+p.2<q.1)(g:Good ps):Good (p::ps):=by
 refine⟨fun i q e=>?_,fun i q r e1 e2=>?_⟩
 ·cases i with
  | zero=>simp at e;subst e;exact h1
  | succ i=>exact g.one i q (by simpa using e)
 ·cases i with
  | zero=>simp at e1;subst e1;exact h2 r (by simpa using e2)
  | succ i=>exact g.gap i q r (by simpa using e1) (by simpa using e2)
noncomputable def byF(k:Int)(ps:List Pr):List Pr:=ps.mapIdx fun i p=>(p.1+2*k*(i:Int),p.2+k)
theorem UE(k:Int)(ps:List Pr):(byF k ps).length=ps.length:=by unfold byF;rw[List.length_mapIdx]
theorem JaX{k:Int}{ps:List Pr}{i:Nat}{x:Pr}(e:(byF k ps)[i]?=some x):∃p,ps[i]?=some p/\x=(p.1+2*k*(i:Int),p.2+k):=by unfold byF at e;rw[QH,GL] at e;obtain⟨p,h,rfl⟩:=e;exact⟨p,h,rfl⟩
theorem Jhd(a b:Int)(ps:List Pr):byF a (byF b ps)=byF (a+b) ps:=by
 refine Go fun i=>?_
 unfold byF;rw[QH,QH,QH,Kf]
 cases ps[i]? with
 | none=>rfl
 | some p=>show some (p.1+2*b*(i:Int)+2*a*(i:Int),p.2+b+a)=some (p.1+2*(a+b)*(i:Int),p.2+(a+b));rw[K4,Int.add_mul];congr 2 <;> omega
theorem Ww(ps:List Pr):byF 0 ps=ps:=by
 refine Go fun i=>?_
 unfold byF;rw[QH]
 cases ps[i]? with
 | none=>rfl
 | some p=>simp
structure Wide (c:Int) (ps:List Pr):Prop where
 one:∀(i:Nat) (p:Pr),ps[i]?=some p->c<=p.2
 gap:∀(i:Nat) (p q:Pr),ps[i]?=some p->ps[i+1]?=some q->c<=q.1-(p.1+p.2)
theorem Wide.good{c:Int}{ps:List Pr}(h:1<=c)(w:Wide c ps):Good ps:=⟨fun i p e=>by have:=w.one i p e;omega,fun i p q e1 e2=>by have:=w.gap i p q e1 e2;omega⟩
theorem Wide.bys{c k:Int}{ps:List Pr}(w:Wide c ps):Wide (c+k) (byF k ps):=by
 refine⟨fun i x e=>?_,fun i x y e1 e2=>?_⟩
 ·obtain⟨p,h,rfl⟩:=JaX e;have:=w.one i p h;dsimp only;omega
 ·obtain⟨p,h1,rfl⟩:=JaX e1;obtain⟨q,h2,rfl⟩:=JaX e2;have:=w.gap i p q h1 h2;have em:2*k*((i+1:Nat):Int)=2*k*(i:Int)+2*k:=by rw[La,K4];simp
  dsimp only;rw[em];omega
theorem Wide.mono{c c':Int}{ps:List Pr}(h:c'<=c)(w:Wide c ps):Wide c' ps:=⟨fun i p e=>by have:=w.one i p e;omega,fun i p q e1 e2=>by have:=w.gap i p q e1 e2;omega⟩
theorem Wide.cons{c:Int}{p:Pr}{ps:List Pr}(w:Wide c (p::ps)):Wide c ps:=⟨fun i q e=>w.one (i+1) q (by simpa using e),fun i q r e1 e2=>w.gap (i+1) q r (by simpa using e1) (by simpa using e2)⟩
noncomputable def clF:Pr->List Pr->List Pr
 | cur,[]=>[cur]
 | cur,p::r=>if cur.1+cur.2=p.1 then clF (cur.1,cur.2+p.2) r else if 0<p.2 then cur::clF p r else clF cur r
noncomputable def clN:List Pr->List Pr
 | []=>[]
 | p::r=>if 0<p.2 then clF p r else clN r
theorem Jhi:∀(cur:Pr) (r:List Pr),Good (cur::r)->clF cur r=cur::r
 | cur,[],_=>rfl
 | cur,p::r,g=>by
  have h1:=g.gap 0 cur p rfl rfl
  have h2:=g.one 1 p rfl;rw[clF,if_neg (by omega),if_pos (by omega),Jhi p r (Good.cons' g)]
theorem JaZ{ps:List Pr}(g:Good ps):clN ps=ps:=by
 cases ps with
 | nil=>rfl
 | cons p r=>rw[clN,if_pos (by have:=g.one 0 p rfl;omega),Jhi p r g]
theorem Vs:∀(cur:Pr) (r:List Pr),1<=cur.2->Wide 0 r->(∀q,r[0]?=some q->cur.1+cur.2<=q.1)->Good (clF cur r)/\∃q,(clF cur r)[0]?=some q/\q.1=cur.1
 | cur,[],h,_,_=>⟨Good.mk' h (fun q e=>by simp at e) Good.nil,cur,rfl,rfl⟩
 | cur,p::r,h,w,hq=>by
  have h0:=w.one 0 p rfl
  have hb:=hq p rfl
  have nx:∀q,r[0]?=some q->p.1+p.2<=q.1:=fun q e=>by have:=w.gap 0 p q rfl (by simpa using e);omega
  rw[clF];split
  ·next e=>exact Vs (cur.1,cur.2+p.2) r (by dsimp only;omega) w.cons fun q e'=>by have:=nx q e';dsimp only;omega
  ·next e =>
   split
   ·next hp=>obtain⟨g,q,e1,e2⟩:=Vs p r (by omega) w.cons nx;exact⟨Good.mk' h (fun q' e'=>by rw[e1] at e';cases e';omega) g,cur,rfl,rfl⟩
   ·next hp=>exact Vs cur r h w.cons fun q e'=>by have:=nx q e';omega
theorem WY:∀(ps:List Pr),Wide 0 ps->Good (clN ps)
 | [],_=>Good.nil
 | p::r,w=>by
  rw[clN];split
  ·next h=>exact(Vs p r (by omega) w.cons fun q e=>by have:=w.gap 0 p q rfl (by simpa using e);omega).1
  ·exact WY r w.cons
theorem Wy:∀(cur:Pr) (r:List Pr),(clF cur r).length<=r.length+1/\((clF cur r).length=r.length+1->(∀p∈r,0<p.2)/\∀(i:Nat) (p q:Pr),(cur::r)[i]?=some p->(cur::r)[i+1]?=some q->p.1+p.2≠q.1)
 | cur,[]=>⟨Qr _,fun _=>⟨fun p hp=>(by cases hp),fun i p q _ e=>(by simp at e)⟩⟩
 | cur,p::r=>by
  rw[clF,Qv];split
  ·next e=>have ih:=(Wy (cur.1,cur.2+p.2) r).1;exact⟨by omega,fun h=>by omega⟩
  ·next e =>
   split
   ·next hp =>
    obtain⟨i1,i2⟩:=Wy p r;refine⟨by rw[Qv];omega,fun h=>?_⟩;obtain⟨a1,a2⟩:=i2 (by rw[Qv] at h;omega);refine⟨fun q hq=>?_,fun i x y e1 e2=>?_⟩
    ·rcases Qk.mp hq with z|z
     ·rw[z];exact hp
     ·exact a1 q z
    ·cases i with
     | zero=>simp at e1 e2;subst e1 e2;exact e
     | succ i=>exact a2 i x y (by simpa using e1) (by simpa using e2)
   ·have ih:=(Wy cur r).1;exact⟨by omega,fun h=>by omega⟩
theorem Up:∀(ps:List Pr),(clN ps).length<=ps.length/\((clN ps).length=ps.length->(∀p∈ps,0<p.2)/\∀(i:Nat) (p q:Pr),ps[i]?=some p->ps[i+1]?=some q->p.1+p.2≠q.1)
 | []=>⟨Qr _,fun _=>⟨fun p hp=>(by cases hp),fun i p q e=>(by simp at e)⟩⟩
 | p::r=>by
  rw[clN,Qv];split
  ·next hp=>obtain⟨i1,i2⟩:=Wy p r;refine⟨i1,fun h=>?_⟩;obtain⟨a1,a2⟩:=i2 h;exact⟨fun q hq=>(Qk.mp hq).elim (fun z=>z▸hp) (a1 q),a2⟩
  ·have ih:=(Up r).1;exact⟨by omega,fun h=>by omega⟩
noncomputable def thF(ps:List Pr):List Pr:=clN (byF (-1) ps)
noncomputable def thN:Nat->List Pr->List Pr
 | 0,ps=>ps
 | n+1,ps=>thN n (thF ps)
theorem JbT(a b:Nat):∀ps:List Pr,thN (a+b) ps=thN b (thN a ps):=by
 induction a with
 | zero=>intro ps;rw[Mm];rfl
 | succ a ih=>intro ps;rw[Nat.succ_add];exact ih (thF ps)
theorem JfK:∀n,thN n []=[]
 | 0=>rfl
 | n+1=>JfK n
theorem JZ{ps:List Pr}(g:Good ps):Good (thF ps):=WY _ (by
 have w:Wide 1 ps:=⟨fun i p e=>g.one i p e,fun i p q e1 e2=>by have:=g.gap i p q e1 e2;omega⟩
 exact w.bys (k:=-1))
theorem VP:∀(n:Nat) {ps:List Pr},Good ps->Good (thN n ps)
 | 0,_,g=>g
 | n+1,_,g=>VP n (JZ g)
theorem JbV:∀(n:Nat) {c:Int} {ps:List Pr},Wide c ps->1<=c->((n:Int)<=c)->thN n ps=clN (byF (-(n:Int)) ps)
 | 0,c,ps,w,h1,_=>by show ps=clN (byF (-((0:Nat):Int)) ps);rw[show -((0:Nat):Int)=0 by simp,Ww,JaZ (w.good h1)]
 | n+1,c,ps,w,h1,hn=>by
  show thN n (thF ps)=_
  by_cases h:n=0
  ·subst h;rfl
  ·have w1:Wide (c+-1) (byF (-1) ps):=w.bys
   have e:thF ps=byF (-1) ps:=JaZ (w1.good (by omega));rw[e,JbV n w1 (by omega) (by omega),Jhd];congr 2;omega
theorem Jdc{n:Nat}{c:Int}{ps:List Pr}(w:Wide c ps)(h1:1<=c)(h:(n:Int)<c):thN n ps=byF (-(n:Int)) ps:=by rw[JbV n w h1 (by omega),JaZ ((w.bys (k:=-(n:Int))).good (by omega))]
noncomputable def Jg2(c:Int)(ps:List Pr):Prop:=(∃p∈ps,p.2=c)\/∃(i:Nat) (p q:Pr),ps[i]?=some p/\ps[i+1]?=some q/\q.1-(p.1+p.2)=c
theorem Jdd{c:Int}{ps:List Pr}(t:Jg2 c ps):(clN (byF (-c) ps)).length<ps.length:=by
 obtain⟨h1,h2⟩:=Up (byF (-c) ps);rw[UE] at h1 h2;rcases KL (clN (byF (-c) ps)).length ps.length with h|h
 ·exact h
 ·obtain⟨a1,a2⟩:=h2 (by omega)
  exfalso
  rcases t with ⟨p,hp,e⟩|⟨i,p,q,e1,e2,e⟩
  ·obtain⟨i,hi,rfl⟩:=Gv.mp hp
   have hx:(byF (-c) ps)[i]?=some (ps[i].1+2*-c*(i:Int),ps[i].2+-c):=by unfold byF;rw[QH,QG hi];rfl
   have:=a1 _ (QJ hx);dsimp only at this;omega
  ·have hx:(byF (-c) ps)[i]?=some (p.1+2*-c*(i:Int),p.2+-c):=by unfold byF;rw[QH,e1];rfl
   have hy:(byF (-c) ps)[i+1]?=some (q.1+2*-c*((i+1:Nat):Int),q.2+-c):=by unfold byF;rw[QH,e2];rfl
   have:=a2 i _ _ hx hy
   have em:2*-c*((i+1:Nat):Int)=2*-c*(i:Int)+2*-c:=by rw[La,K4];simp
   dsimp only at this;rw[em] at this;omega
noncomputable def zs(n:Nat):List Int:=QA n 0
noncomputable def os(n:Nat):List Int:=QA n 1
noncomputable def blk:Int->List Pr->List Int
 | _,[]=>[]
 | pos,p::r=>zs (p.1-pos).toNat++(os p.2.toNat++blk (p.1+p.2) r)
noncomputable def byR:Int->List Pr->List Pr
 | _,[]=>[]
 | c,p::r=>(p.1-c,p.2-1)::byR (c+2) r
theorem Jev:∀(ps:List Pr) (c:Int),byR c ps=ps.mapIdx fun i p=>(p.1+2*(-1)*(i:Int)-c,p.2+-1)
 | [],c=>rfl
 | p::r,c=>by
  rw[byR,M4,Jev r (c+2)];congr 1
  ·congr 1;simp
  ·refine Go fun i=>?_
   rw[QH,QH]
   cases r[i]? with
   | none=>rfl
   | some q=>simp only[KH,La];congr 2;omega
theorem Wv(ps:List Pr):byR 0 ps=byF (-1) ps:=by
 rw[Jev];unfold byF;congr 1
 funext i p
 congr 1;omega
theorem YE{ps:List Pr}(g:Good ps):Wide 1 ps:=⟨fun i p e=>g.one i p e,fun i p q e1 e2=>by have:=g.gap i p q e1 e2;omega⟩
theorem WX:∀(r:List Pr) (cur:Pr),∃q,(clF cur r)[0]?=some q/\q.1=cur.1
 | [],cur=>⟨cur,rfl,rfl⟩
 | p::r,cur=>by
  rw[clF];split
  ·obtain⟨q,h1,h2⟩:=WX r (cur.1,cur.2+p.2);exact⟨q,h1,h2⟩
  ·split
   ·exact⟨cur,rfl,rfl⟩
   ·exact WX r cur
theorem JaM:∀(n:Nat) (ps:List Pr),thN (n+1) ps=thF (thN n ps)
 | 0,ps=>rfl
 | n+1,ps=>by show thN (n+1) (thF ps)=thF (thN n (thF ps));exact JaM n (thF ps)
noncomputable def tkS(x prev pos:Int)(acc:List Pr):List Pr :=
 if x=1/\prev=1 then acc.dropLast++[((acc.getLastD (0,0)).1,(acc.getLastD (0,0)).2+1)] else if x=1 then acc++[(pos,1)] else acc
noncomputable def tk:Int->Int->List Pr->List Int->List Pr
 | _,_,acc,[]=>acc
 | prev,pos,acc,x::r=>tk x (pos+1) (tkS x prev pos acc) r
noncomputable def below(ps:List Pr)(x:Int):Int:=(ps.map fun p=>max 0 (min p.2 (x-p.1))).sum
noncomputable def Yf(ps:List Pr)(y:Int):Bool:=ps.any fun p=>decide (p.1<=y) && decide (y<p.1+p.2)
theorem has_iff{ps:List Pr}{y:Int}:Yf ps y=true↔∃p∈ps,p.1<=y/\y<p.1+p.2:=by unfold Yf;rw[Km];simp
theorem Jkg{ps:List Pr}{y:Int}(h:∀p∈ps,p.1<=y->p.1+p.2<=y):Yf ps y=false:=by
 cases e:Yf ps y with
 | false=>rfl
 | true=>obtain⟨p,hp,h1,h2⟩:=has_iff.mp e;have:=h p hp h1;omega
theorem JX(p:Pr)(ps:List Pr)(x:Int):Yf (p::ps) x=((decide (p.1<=x) && decide (x<p.1+p.2)) || Yf ps x):=by unfold Yf;rw[GP]
theorem V3{p:Pr}{ps:List Pr}{x:Int}(h1:p.1<=x)(h2:x<p.1+p.2):Yf (p::ps) x=true:=has_iff.mpr ⟨p,Qh,h1,h2⟩
theorem Jbe{p:Pr}{ps:List Pr}{x:Int}(h:p.1+p.2<=x):Yf (p::ps) x=Yf ps x:=by rw[JX];have:decide (x<p.1+p.2)=false:=decide_eq_false (by omega);rw[this,Bool.and_false,Ko]
theorem Vb{ps:List Pr}{x:Int}(h:∀p∈ps,x<p.1):Yf ps x=false:=Jkg fun p hp hx=>by have:=h p hp;omega
theorem JeY:∀{ps qs:List Pr},Good ps->Good qs->(∀x,Yf ps x=Yf qs x)->ps=qs
 | [],[],_,_,_=>rfl
 | [],q::qs,_,g,h=>by have:=h q.1;rw[V3 (QK _) (by have:=g.one 0 q rfl;omega)] at this;cases this
 | p::ps,[],g,_,h=>by have:=h p.1;rw[V3 (QK _) (by have:=g.one 0 p rfl;omega)] at this;cases this
 | p::ps,q::qs,g,g',h=>by
  have hp:=g.one 0 p rfl
  have hq:=g'.one 0 q rfl
  have le:∀{p:Pr} {ps:List Pr} {x:Int},Good (p::ps)->Yf (p::ps) x=true->p.1<=x:=fun {p ps x} g e=>by
   obtain⟨r,hr,h1,h2⟩:=has_iff.mp e;rcases Qk.mp hr with z|z
   ·rw[<- z];exact h1
   ·have:=Good.first g r z
    have:=g.one 0 p rfl;omega
  have e1:p.1=q.1:=by
   have a:=le g' (x:=p.1) (by rw[<- h];exact V3 (QK _) (by omega))
   have b:=le g (x:=q.1) (by rw[h];exact V3 (QK _) (by omega));omega
  have off:∀{p:Pr} {ps:List Pr},Good (p::ps)->Yf (p::ps) (p.1+p.2)=false:=fun {p ps} g=>by rw[Jbe (QK _)];exact Vb fun z hz=>Good.first g z hz
  have e2:p.2=q.2:=by
   have a:=h (p.1+p.2);rw[off g] at a
   have b:=h (q.1+q.2);rw[off g'] at b
   by_cases c:p.2<q.2
   ·rw[V3 (p:=q) (by omega) (by omega)] at a;cases a
   ·by_cases c':q.2<p.2
    ·rw[V3 (p:=p) (by omega) (by omega)] at b;cases b
    ·omega
  have e:p=q:=Lw e1 e2;subst e;rw[JeY (Good.cons' g) (Good.cons' g') fun x=>?_]
  by_cases c:p.1+p.2<=x
  ·have:=h x
   rwa [Jbe c,Jbe c] at this
  ·rw[Vb fun z hz=>by have:=Good.first g z hz;omega,Vb fun z hz=>by have:=Good.first g' z hz;omega]
theorem Jnj(a b:Int):a<b\/b<=a:=by omega
noncomputable def edF(ps:List Pr):Nat->Int->List Int->List Pr
 | _,_,[]=>[]
 | i,c,s::r=>(s+2*(i:Int)-(below ps s-c),below ps s-c+1)::edF ps (i+1) (below ps s) r
theorem Wx(x:Int):∀(r:List Pr) (cur:Pr),(∀p∈r,0<=p.2)->0<=cur.2->Yf (clF cur r) x=Yf (cur::r) x
 | [],cur,_,_=>rfl
 | p::r,cur,h,hc=>by
  have h0:=h p Qh
  have hr:=fun q hq=>h q (Qf p hq)
  rw[clF];split
  ·next e=>rw[Wx x r _ hr (by dsimp only;omega),JX,JX,JX,<- LZ];congr 1;rw[Kt];simp only[LA,QX,decide_eq_true_eq];constructor <;> intro z <;> omega
  ·split
   ·rw[JX,Wx x r p hr h0,<- JX]
   ·rw[Wx x r cur hr hc,JX,JX cur,JX p];rw[show(decide (p.1<=x) && decide (x<p.1+p.2))=false by
     rw[Ru];rcases Jnj x p.1 with z|z
     ·exact .inl (decide_eq_false (by omega))
     ·exact .inr (decide_eq_false (by omega)),Ko]
theorem Jew(x:Int):∀(ps:List Pr),(∀p∈ps,0<=p.2)->Yf (clN ps) x=Yf ps x
 | [],_=>rfl
 | p::r,h=>by
  have h0:=h p Qh
  have hr:=fun q hq=>h q (Qf p hq)
  rw[clN];split
  ·exact Wx x r p hr h0
  ·rw[Jew x r hr,JX p];rw[show(decide (p.1<=x) && decide (x<p.1+p.2))=false by
    rw[Ru];rcases Jnj x p.1 with z|z
    ·exact .inl (decide_eq_false (by omega))
    ·exact .inr (decide_eq_false (by omega)),Ko]
noncomputable def J8:List Pr->Int->List Pr
 | [],s=>[(s,1)]
 | p::r,s=>if p.1=s then(p.1,p.2+1)::r else p::J8 r s
theorem Uf(s:Int):∀a:List Pr,(J8 a s).map (·.1)=Jz (a.map (·.1)) s
 | []=>rfl
 | p::r=>by
  have ih:=Uf s r;unfold Jz YW at ih ⊢;rw[J8,Qg,GP]
  by_cases h:p.1=s
  ·rw[if_pos h,decide_eq_true h,Ra,if_pos rfl];rfl
  ·rw[if_neg h,decide_eq_false h,Ko,Qg,ih];split <;> rfl
theorem ZK:∀(ks:List Int) (vs:List Int) (s v:Int),s∉ks->setK ks vs s v=vs
 | [],_,_,_,_=>rfl
 | _::_,[],_,_,_=>rfl
 | k::ks,x::vs,s,v,h=>by rw[setK,if_neg fun e=>h (by rw[e];exact Qh),ZK ks vs s v fun m=>h (Qf _ m)]
theorem hasK_mem{ks:List Int}{s:Int}:YW ks s=true↔s∈ks:=by
 unfold YW;rw[Km];constructor
 ·rintro⟨k,hk,e⟩;rw[decide_eq_true_eq] at e;subst e;exact hk
 ·intro h;exact⟨s,h,decide_eq_true rfl⟩
theorem Jau(s:Int):∀a:List Pr,(a.map (·.1)).Nodup->(J8 a s).map (·.2)=putDs (a.map (·.1)) (a.map (·.2)) s ((look (a.map (·.1)) (a.map (·.2)) s).getD 0+1)
 | [],_=>rfl
 | p::r,hn=>by
  rw[Qg,Q6] at hn;have ih:=Jau s r hn.2;rw[J8,Qg,Qg]
  by_cases h:p.1=s
  ·rw[if_pos h];unfold putDs;rw[if_pos (hasK_mem.mpr (by rw[h];exact Qh)),look,if_pos h,setK,if_pos h,ZK _ _ _ _ (by rw[<- h];exact hn.1)];rfl
  ·rw[if_neg h,Qg,ih,look,if_neg h];unfold putDs
   have e:YW (p.1::r.map (·.1)) s=YW (r.map (·.1)) s:=by unfold YW;rw[GP,decide_eq_false h,Ko]
   rw[e];split
   ·rw[setK,if_neg h]
   ·rfl
theorem UN{ks:List Int}(s:Int)(h:ks.Nodup):(Jz ks s).Nodup:=by
 unfold Jz;split
 ·exact h
 ·next c =>
  rw[Lg];refine⟨h,by simp,fun a ha b hb=>?_⟩;have:b=s:=by simpa using hb
  subst this;intro e;subst e;exact c (hasK_mem.mpr ha)
noncomputable def lk(k:Int):List Pr->Int
 | []=>0
 | p::r=>if p.1=k then p.2 else lk k r
theorem Je4(k s:Int):∀a:List Pr,lk k (J8 a s)=lk k a+(if s=k then 1 else 0)
 | []=>by simp[J8,lk]
 | p::r=>by
  rw[J8]
  by_cases h:p.1=s
  ·rw[if_pos h,lk,lk];dsimp only
   by_cases c:p.1=k
   ·rw[if_pos c,if_pos c,if_pos (by omega)]
   ·rw[if_neg c,if_neg c,if_neg (by omega),R8]
  ·rw[if_neg h,lk,lk,Je4 k s r]
   by_cases c:p.1=k
   ·rw[if_pos c,if_pos c,if_neg (by omega),R8]
   ·rw[if_neg c,if_neg c]
theorem JdM{a:List Pr}(hn:(a.map (·.1)).Nodup){p:Pr}(hp:p∈a):lk p.1 a=p.2:=by
 induction a with
 | nil=>cases hp
 | cons q r ih =>
  rw[Qg,Q6] at hn;rw[lk];rcases Qk.mp hp with z|z
  ·subst z;rw[if_pos rfl]
  ·rw[if_neg fun e=>hn.1 (by rw[e];exact QN.mpr ⟨p,z,rfl⟩)];exact ih hn.2 z
noncomputable def YN(L:List Int):List Pr:=L.foldl J8 []
theorem Jez:∀(L:List Int) (a:List Pr),(a.map (·.1)).Nodup->((L.foldl J8 a).map (·.1)).Nodup/\(∀k,lk k (L.foldl J8 a)=lk k a+(L.count k:Int))/\∀k,k∈(L.foldl J8 a).map (·.1)↔k∈a.map (·.1)\/k∈L
 | [],a,h=>⟨h,fun k=>by simp,fun k=>by simp⟩
 | s::L,a,h=>by
  have hk:=Uf s a
  have hn:((J8 a s).map (·.1)).Nodup:=by rw[hk];exact UN s h
  obtain⟨i1,i2,i3⟩:=Jez L (J8 a s) hn;refine⟨i1,fun k=>?_,fun k=>?_⟩
  ·rw[Gd,i2 k,Je4,Gp]
   by_cases c:s=k
   ·rw[if_pos c,if_pos (by simpa using c)];omega
   ·rw[if_neg c,if_neg (by simpa using c)];omega
  ·rw[Gd,i3 k,hk];unfold Jz;split
   ·next c =>
    have c':=hasK_mem.mp c;constructor
    ·rintro(z|z)
     ·exact .inl z
     ·exact .inr (Qf _ z)
    ·rintro(z|z)
     ·exact .inl z
     ·rcases Qk.mp z with w|w
      ·subst w;exact .inl c'
      ·exact .inr w
   ·rw[GF,GN,Qk,or_assoc]
theorem Jhm(L:List Int):((YN L).map (·.1)).Nodup/\(∀p∈YN L,p.2=(L.count p.1:Int)/\p.1∈L)/\∀k∈L,(k,(L.count k:Int))∈YN L:=by
 obtain⟨i1,i2,i3⟩:=Jez L [] (by simp)
 have v:∀p∈YN L,p.2=(L.count p.1:Int):=fun p hp=>by rw[<- JdM i1 hp];have:=i2 p.1;rw[show lk p.1 []=0 from rfl,K6] at this;exact this
 refine⟨i1,fun p hp=>⟨v p hp,?_⟩,fun k hk=>?_⟩
 ·have:=(i3 p.1).mp (QN.mpr ⟨p,hp,rfl⟩)
  simpa using this
 ·obtain⟨p,hp,e⟩:=QN.mp ((i3 k).mpr (.inr hk));subst e;rw[<- v p hp];exact hp
theorem JeA:∀(L:List Int) (a:List Pr),(a.map (·.1)++L).Nodup->L.foldl J8 a=a++L.map fun s=>(s,1)
 | [],a,_=>by simp
 | s::L,a,h=>by
  have e:J8 a s=a++[(s,1)]:=by
   have hs:s∉a.map (·.1):=fun m=>by have:=(Lg.mp h).2.2 s m s Qh;exact this rfl
   clear h
   induction a with
   | nil=>rfl
   | cons p r ih=>rw[J8,if_neg fun z=>hs (by rw[<- z];exact Qh),ih fun m=>hs (Qf _ m)];rfl
  rw[Gd,e,JeA L (a++[(s,1)]) (by simpa using h)];simp
theorem Jcw(ps:List Pr)(x:Int)(h:ps.length<=1000):YD [.sh (.row (ps.map prE)),.sh (.int x)]=some (.sh (.bl (Yf ps x))):=by
 unfold YD;walk_at "ev";rw[Yx (g:=fun p=>D.bl (decide (p.1<=x) && decide (x<p.1+p.2)))]
 ·walk_at "ev";rw[Jj2 (ns:=ps.map fun p=>decide (p.1<=x) && decide (x<p.1+p.2)) (by simp[Sl.q])];walk_at "ev";unfold Yf;rw[List.any_map];rfl
 ·intro p hp;simp only[prE];walk_at "ev"
  by_cases c:p.1<=x
  ·simp only[c];walk_at "ev"
  ·simp only[c];walk_at "ev";rfl
theorem WE{α β:Type}(f:Nat->α->β)(xs:List α):xs.mapIdx f=xs.zipIdx.map fun x=>f x.2 x.1:=by
 refine Go fun i=>?_
 rw[QH,Qo,Ll,Kf];simp;rfl
theorem JqN(ps:List Pr)(k:Int)(h:ps.length<=1000):Yh [.sh (.row (ps.map prE)),.sh (.int k)]=some (.own ((byF k ps).map prE)):=by
 unfold Yh;walk_at "ev";rw[W2,WE,Yx (g:=fun x:Pr×Nat=>prE (x.1.1+2*k*(x.2:Int),x.1.2+k))]
 ·rw[if_pos (by rw[Qq,List.length_zipIdx];omega (config:={}))];walk_at "ev";rw[show ps.zipIdx.map (fun x=>prE (x.1.1+2*k*(x.2:Int),x.1.2+k))=(byF k ps).map prE by unfold byF;rw[WE,QO];rfl]
 ·intro x hx
  have hx2:x.2<ps.length:=by have:=ME hx;omega (config:={})
  walk_at "ev";rw[Ja6,Ja7];walk_at "ev";rfl
theorem Jpa{ps:List Pr}(g:Good ps)(hne:ps≠[]):∃c,(ps.map (·.2)++JR ps).min?=some c/\1<=c/\Wide c ps/\Jg2 c ps:=by
 cases hm:(ps.map (·.2)++JR ps).min? with
 | none =>
  rw[List.min?_eq_none_iff] at hm
  cases ps with
  | nil=>exact absurd rfl hne
  | cons p r=>simp at hm
 | some c =>
  obtain⟨h1,h2⟩:=Rs.mp hm
  have gg:∀(ps:List Pr) (x:Int),x∈JR ps->∃(i:Nat) (p q:Pr),ps[i]?=some p/\ps[i+1]?=some q/\q.1-(p.1+p.2)=x:=by
   intro ps
   induction ps with
   | nil=>intro x hx;cases hx
   | cons p r ih =>
    intro x hx
    cases r with
    | nil=>cases hx
    | cons q r =>
     rcases Qk.mp hx with z|z
     ·exact⟨0,p,q,rfl,rfl,z.symm⟩
     ·obtain⟨i,a,b,e1,e2,e3⟩:=ih x z;exact⟨i+1,a,b,by simpa using e1,by simpa using e2,e3⟩
  have gm:∀(ps:List Pr) (i:Nat) (p q:Pr),ps[i]?=some p->ps[i+1]?=some q->q.1-(p.1+p.2)∈JR ps:=by
   intro ps
   induction ps with
   | nil=>intro i p q e;simp at e
   | cons a r ih =>
    intro i p q e1 e2
    cases r with
    | nil=>simp at e2
    | cons b r =>
     cases i with
     | zero=>simp at e1 e2;subst e1 e2;exact Qh
     | succ i=>exact Qf _ (ih i p q (by simpa using e1) (by simpa using e2))
  have w:Wide c ps:=⟨fun i p e=>h2 _ (L0 _ (QN.mpr ⟨p,QJ e,rfl⟩)),fun i p q e1 e2=>h2 _ (Gz _ (gm ps i p q e1 e2))⟩
  have t:Jg2 c ps:=by
   rcases GF.mp h1 with z|z
   ·obtain⟨p,hp,e⟩:=QN.mp z;exact .inl ⟨p,hp,e⟩
   ·exact .inr (gg ps c z)
  refine⟨c,rfl,?_,w,t⟩;rcases t with ⟨p,hp,e⟩|⟨i,p,q,e1,e2,e⟩
  ·have:=Good.all g p hp;omega
  ·have:=g.gap i p q e1 e2;omega
theorem Jcy(ps:List Pr)(h:ps.length<=1000):JI [.sh (.row (ps.map prE))]=some (match (ps.map (·.2)++JR ps).min? with|some c=>.sh (.int c)|none=>.sh .non):=by
 have hgl:=UZ ps;unfold JI;walk_at "ev";rw[Yx (g:=fun p=>D.int p.2)]
 ·walk_at "ev";rw[Jh5 _ h];walk_at "ev";rw[show ps.map (fun p=>D.int p.2)++(JR ps).map .int=(ps.map (·.2)++JR ps).map D.int by rw[Q0,QO];rfl];walk_at "ev";cases (ps.map (·.2)++JR ps).min? <;> rfl
 ·intro p hp;simp only[prE];walk_at "ev"
noncomputable def Uq(acc:List Pr)(p:Pr):List Pr:=match acc[acc.length-1]? with
 | some q=>if q.1+q.2=p.1 then acc.dropLast++[(q.1,q.2+p.2)] else if 0<p.2 then acc++[p] else acc
 | none=>if 0<p.2 then acc++[p] else acc
theorem Vt:∀(r acc:List Pr) (cur:Pr),r.foldl Uq (acc++[cur])=acc++clF cur r
 | [],acc,cur=>rfl
 | p::r,acc,cur=>by
  have e:(acc++[cur])[(acc++[cur]).length-1]?=some cur:=by simp
  have es:Uq (acc++[cur]) p=if cur.1+cur.2=p.1 then acc++[(cur.1,cur.2+p.2)] else if 0<p.2 then acc++[cur]++[p] else acc++[cur]:=by unfold Uq;rw[e];dsimp only;rw[List.dropLast_concat]
  rw[Gd,clF,es];split
  ·exact Vt r acc _
  ·split
   ·rw[Vt r (acc++[cur]) p,Gh];rfl
   ·exact Vt r acc cur
theorem Jaj:∀ps:List Pr,ps.foldl Uq []=clN ps
 | []=>rfl
 | p::r=>by
  rw[Gd,clN];show r.foldl Uq (if 0<p.2 then []++[p] else [])=_;split
  ·exact Vt r [] p
  ·exact Jaj r
theorem Jh4(ps:List Pr)(h:ps.length<=1000):Yi [.sh (.lst (ps.map prE))]=some (.own ((clN ps).map prE)):=by
 unfold Yi;walk_at "ev";rw[G6];refine Yp (fun(rest:List Pr) (acc:List Pr) E=>∃j2 j3 j4,E=[.sh (.lst (ps.map prE)),.own (acc.map prE),j2,j3,j4]/\acc.length+rest.length<=1000) Uq [] ⟨.no,.no,.no,rfl,by simpa using h⟩ ?_ ?_
 ·rintro p rest acc E ⟨j2,j3,j4,rfl,hz⟩;rw[Qv] at hz;simp only[prE];walk_at "ev"
  cases he:acc[acc.length-1]? with
  | none =>
   have hn:acc=[]:=by
    cases acc with
    | nil=>rfl
    | cons a acc=>simp at he
   subst hn;rw[show(!(([]:List Pr).map prE).isEmpty)=false from rfl];walk_at "ev";have es:Uq [] p=if 0<p.2 then [p] else []:=rfl
   rw[es]
   by_cases c:0<p.2
   ·rw[decide_eq_true c,if_pos c];walk_at "ev";exact⟨.sh (.int p.1),.sh (.int p.2),j4,rfl,by simp at hz ⊢;omega⟩
   ·rw[decide_eq_false c,if_neg c];walk_at "ev";exact⟨.sh (.int p.1),.sh (.int p.2),j4,rfl,by simp at hz ⊢;omega⟩
  | some q =>
   have hl0:acc.length-1<acc.length:=(Qm.mp he).1
   have hne:(!(acc.map prE).isEmpty)=true:=by cases acc with|nil=>simp at he|cons _ _=>rfl
   have hgq:(acc.map prE)[acc.length-1]?=some (prE q):=by rw[Qo,he];rfl
   have es:Uq acc p=if q.1+q.2=p.1 then acc.dropLast++[(q.1,q.2+p.2)] else if 0<p.2 then acc++[p] else acc:=by unfold Uq;rw[he]
   have hdl:acc.dropLast.length=acc.length-1:=RC;rw[hne,JaU,Jg9 he,es];walk_at "ev";rw[Vx (s:=.sh (prE q)) (ns:=[q.1,q.2]) rfl];walk_at "ev";rw[show([q.1,q.2]:List Int).sum=q.1+q.2 by simp]
   by_cases c:q.1+q.2=p.1
   ·rw[decide_eq_true c,if_pos c,hgq];walk_at "ev";rw[<- List.map_dropLast];walk_at "ev";rw[Ja6,Ja7];walk_at "ev";refine⟨.sh (.int p.1),.sh (.int p.2),.sh (prE q),?_,by rw[Qz,Gi];omega⟩;rw[Q0];rfl
   ·rw[decide_eq_false c,if_neg c];walk_at "ev"
    by_cases c2:0<p.2
    ·rw[decide_eq_true c2,if_pos c2];walk_at "ev";refine⟨.sh (.int p.1),.sh (.int p.2),j4,?_,by rw[Qz,Gi];omega⟩;rw[Q0];rfl
    ·rw[decide_eq_false c2,if_neg c2];walk_at "ev";exact⟨.sh (.int p.1),.sh (.int p.2),j4,rfl,by omega⟩
 ·rintro E' ⟨j2,j3,j4,rfl,_⟩;rw[Jaj];walk_at "ev"
noncomputable abbrev wC:En->Option Bool:=(tAnd? (tB? (e2 fGt (Ja 3) (eC (.int 0)))) (tTru? (e1 Us (Ja 2))))
noncomputable abbrev wB:Es:=(Jj (Jn 4 (eF Jdy (aC (Ja 3) (aC (eU 1 JI (aC (Ja 2) a0)) a0)))) (Jj (Jn 2 (eF ZX (aC (eU 1 Yi (aC (eU 2 Yh (aC (Ja 2) (aC (e1 Jga (Ja 4)) a0))) a0)) a0))) (Z9 (fun i j=>i-j) 3 (Ja 4))))
theorem Vo(x y:Sl)(left:List Pr)(n:Nat)(j4:Sl)(fuel:Nat)(h:n=0\/left=[]) :
 ((Yn wC wB (fuel+1) [x,y,.sh (.row (left.map prE)),.sh (.int (n:Int)),j4]).bind (JbG (YL 2))).bind Jds=some (.sh (.row ((thN n left).map prE))):=by
 have e:thN n left=left:=by
  rcases h with rfl|rfl
  ·rfl
  ·exact JfK n
 rw[e,Yn]
 have hc:wC [x,y,.sh (.row (left.map prE)),.sh (.int (n:Int)),j4]=some false:=by
  show tAnd? _ _ _=_;walk_at "ev";rcases h with rfl | rfl
  ·rw[show decide ((0:Int)<((0:Nat):Int))=false from rfl];walk_at "ev"
  ·by_cases c:(0:Int)<(n:Int)
   ·rw[decide_eq_true c];walk_at "ev";rfl
   ·rw[decide_eq_false c];walk_at "ev"
 rw[hc];walk_at "ev"
theorem Jjg(x y:Sl):∀(m fuel:Nat) (left:List Pr) (n:Nat) (j4:Sl),Good left->left.length<=m->left.length<=30->m<fuel ->
 ((Yn wC wB fuel [x,y,.sh (.row (left.map prE)),.sh (.int (n:Int)),j4]).bind (JbG (YL 2))).bind Jds=some (.sh (.row ((thN n left).map prE))):=by
 intro m
 induction m with
 | zero =>
  intro fuel left n j4 g hm _ hf;obtain⟨f,rfl⟩:∃f,fuel=f+1:=⟨fuel-1,by omega⟩
  exact Vo x y left n j4 f (.inr (QU (by omega)))
 | succ m ih =>
  intro fuel left n j4 g hm h30 hf;obtain⟨f,rfl⟩:∃f,fuel=f+1:=⟨fuel-1,by omega⟩
  by_cases h0:n=0\/left=[]
  ·exact Vo x y left n j4 f h0
  ·have hn:n≠0:=fun z=>h0 (.inl z)
   have hl:left≠[]:=fun z=>h0 (.inr z)
   obtain⟨c,hc,c1,w,t⟩:=Jpa g hl;obtain⟨a,ha⟩:∃a:Nat,(a:Int)=min (n:Int) c:=⟨(min (n:Int) c).toNat,by omega⟩
   have hcl:=Jcy left (by omega);rw[hc] at hcl
   have et:thN a left=clN (byF (-(a:Int)) left):=JbV a w c1 (by omega)
   have gt:Good (thN a left):=VP a g
   have lt:=(Up (byF (-(a:Int)) left)).1;rw[UE,<- et] at lt
   have hcond:wC [x,y,.sh (.row (left.map prE)),.sh (.int (n:Int)),j4]=some true:=by
    show tAnd? _ _ _=_;walk_at "ev";rw[decide_eq_true (show(0:Int)<(n:Int) by omega)];walk_at "ev"
    cases left with
    | nil=>exact absurd rfl hl
    | cons _ _=>rfl
   have hbody:wB [x,y,.sh (.row (left.map prE)),.sh (.int (n:Int)),j4]=some (.nx [x,y,.sh (.row ((thN a left).map prE)),.sh (.int ((n-a:Nat):Int)),.sh (.int (a:Int))]):=by show Jj _ _ _=_;walk_at "ev";rw[hcl];walk_at "ev";rw[<- ha,JqN _ _ (by omega)];walk_at "ev";rw[Jh4 _ (by rw[UE];omega),<- et];walk_at "ev";rw[WC rfl gt (by omega)];walk_at "ev";rw[show(n:Int)-(a:Int)=((n-a:Nat):Int) by omega]
   have fin:thN n left=thN (n-a) (thN a left):=by rw[<- JbT];congr 1;omega
   rw[Yn,hcond,QV,if_pos rfl,hbody,QV,fin];dsimp only
   by_cases hac:(a:Int)=c
   ·have fw:=Jdd t;rw[<- hac,<- et] at fw;exact ih f _ _ _ gt (by omega) (by omega) (by omega)
   ·obtain⟨f',rfl⟩:∃f',f=f'+1:=⟨f-1,by omega⟩
    exact Vo x y _ _ _ f' (.inl (by omega))
theorem V8(ps:List Pr)(n:Nat)(g:Good ps)(h30:ps.length<=30):JS [.sh (.row (ps.map prE)),.sh (.int (n:Int))]=some (.sh (.row ((thN n ps).map prE))):=by unfold JS;rw[show ∀(k:Nat) (s:Es) (ss:List Sl),Yw k s ss=Yw k s ss from fun _ _ _=>rfl];have hw:=Jjg (.sh (.row (ps.map prE))) (.sh (.int (n:Int))) 30 1000000 ps n .no g h30 h30 (by decide);walk_at "ev";rw[WC rfl g h30];walk_at "ev";exact hw
noncomputable abbrev Tr:=Int×Int×Int
noncomputable def trE(t:Tr):D:=.tup [.int t.1,.int t.2.1,.int t.2.2]
noncomputable def owF(left:List Pr)(s:Int):Int:=if Yf left (s-1)=true/\Yf left s=false then 1 else 0
theorem Jnn(ps:List Pr)(s:Int)(h:ps.length<=1000):YV [.sh (.row (ps.map prE)),.sh (.int s)]=some (.sh (.int (owF ps s))):=by
 unfold YV owF;walk_at "ev";rw[Jcw _ _ h];walk_at "ev"
 cases h1:Yf ps (s-1) with
 | false=>walk_at "ev";rw[if_neg (by simp)]
 | true =>
  walk_at "ev";rw[Jcw _ _ h];walk_at "ev"
  cases h2:Yf ps s with
  | false=>walk_at "ev";rw[if_pos (by simp)]
  | true=>walk_at "ev";rw[if_neg (by simp)]
theorem Jcv{α β:Type}(f:α->β):∀(ks:List Int) (vs:List α) (n:Int),look ks (vs.map f) n=(look ks vs n).map f
 | [],_,_=>rfl
 | _::_,[],_=>rfl
 | k::ks,v::vs,n=>by
  rw[Qg];simp only[look];split
  ·rfl
  ·exact Jcv f ks vs n
theorem Jc0{α β:Type}(f:α->β):∀(ks:List Int) (vs:List α) (n:Int) (v:α),setK ks (vs.map f) n (f v)=(setK ks vs n v).map f
 | [],_,_,_=>rfl
 | _::_,[],_,_=>rfl
 | k::ks,x::vs,n,v=>by rw[Qg];simp only[setK,Qg];rw[Jc0 f ks vs n v];split <;> rfl
theorem JaI{α β:Type}(f:α->β)(ks:List Int)(vs:List α)(n:Int)(v:α):putDs ks (vs.map f) n (f v)=(putDs ks vs n v).map f:=by
 unfold putDs;split
 ·exact Jc0 f ks vs n v
 ·rw[Q0];rfl
theorem Jcu(ks:List Int)(vs:List Int)(n z:Int):(look ks (vs.map D.int) n).getD (.int z)=.int ((look ks vs n).getD z):=by rw[Jcv];cases look ks vs n <;> rfl
theorem Jcj(a:List Pr)(s:Int):(J8 a s).length<=a.length+1:=by
 induction a with
 | nil=>simp[J8]
 | cons p r ih =>
  rw[J8];split
  ·simp
  ·simp only[Qv];omega
theorem JhQ(a:List Pr):Jcp (a.map (·.1)) ((a.map (·.2)).map D.int)=a.map prE:=by
 unfold Jcp
 induction a with
 | nil=>rfl
 | cons p r ih=>simp only[Qg,List.zipWith_cons_cons,ih];rfl
noncomputable def spF(qs:List Pr):List Int:=qs.zipIdx.map fun x=>x.1.1+x.1.2-1-2*(x.2:Int)
noncomputable def JD(qs:List Pr):List Tr:=(YN (spF qs)).map fun p=>(p.1,p.2,owF (thF qs) p.1)
theorem Ja0(L:List Int):∀a:List Pr,(L.foldl J8 a).length<=a.length+L.length:=by
 induction L with
 | nil=>intro a;simp
 | cons s L ih=>intro a;have h1:=ih (J8 a s);have h2:=Jcj a s;rw[Gd,Qv];omega
theorem Jh7(qs:List Pr)(g:Good qs)(h30:qs.length<=30):YT [.sh (.row (qs.map prE))]=some (.own ((JD qs).map trE)):=by
 have h1:=V8 qs 1 g h30;rw[show((1:Nat):Int)=1 from rfl,show thN 1 qs=thF qs from rfl] at h1
 have hl:=(Up (byF (-1) qs)).1;rw[UE,show clN (byF (-1) qs)=thF qs from rfl] at hl;unfold YT;walk_at "ev";rw[h1];walk_at "ev";rw[W2,WE,G6];refine Yp (f:=fun x:Pr×Nat=>D.tup [.int (x.2:Int),prE x.1]) (fun(rest:List (Pr×Nat)) (a:List Pr) E=>∃j3 j4 j5,E=[.sh (.row (qs.map prE)),.sh (.row ((thF qs).map prE)),.od (a.map (·.1)) ((a.map (·.2)).map .int),j3,j4,j5]/\(a.map (·.1)).Nodup/\a.length+rest.length<=30)
  (fun a x=>J8 a (x.1.1+x.1.2-1-2*(x.2:Int))) [] ⟨.no,.no,.no,rfl,by simp,by simpa using h30⟩ ?_ ?_
 ·rintro x rest a E ⟨j3,j4,j5,rfl,hn,hz⟩;rw[Qv] at hz;have hil:=Jcj a (x.1.1+x.1.2-1-2*(x.2:Int));walk_at "ev";rw[Vx (s:=.sh (prE x.1)) (ns:=[x.1.1,x.1.2]) rfl];walk_at "ev";rw[show([x.1.1,x.1.2]:List Int).sum=x.1.1+x.1.2 by simp];rw[Jcu];walk_at "ev";rw[JaI,<- Uf,<- Jau _ _ hn];refine⟨.sh (.int (x.2:Int)),.sh (prE x.1),_,rfl,?_,by omega⟩;rw[Uf];exact UN _ hn
 ·rintro E' ⟨j3,j4,j5,rfl,hn,_⟩
  have ef:qs.zipIdx.foldl (fun a x=>J8 a (x.1.1+x.1.2-1-2*(x.2:Int))) []=YN (spF qs):=by unfold YN spF;rw[List.foldl_map]
  have hcl:=Ja0 (spF qs) []
  have hsl:(spF qs).length=qs.length:=by unfold spF;simp
  rw[ef];walk_at "ev";rw[JhQ,Yx (g:=fun p=>trE (p.1,p.2,owF (thF qs) p.1))]
  ·rw[if_pos (by rw[Qq];show(YN (spF qs)).length<=_;unfold YN;simp at hcl;omega)];walk_at "ev";unfold JD;rw[QO];rfl
  ·intro p hp;simp only[prE];walk_at "ev";rw[Jnn _ _ (by omega)];walk_at "ev";rfl
noncomputable def Jp(ps:List Pr):List Int:=ps.map fun p=>p.1+p.2
noncomputable def JA(prs:List Pr):List Int:=prs.flatMap fun p=>QA p.2.toNat p.1
theorem Jby{qs:List Pr}(g:Good qs)(s:Int):owF qs s=if s∈Jp qs then 1 else 0:=by
 unfold owF
 by_cases c:s∈Jp qs
 ·rw[if_pos c];obtain⟨p,hp,rfl⟩:=QN.mp c;have h1:=Good.all g p hp;rw[if_pos];refine⟨has_iff.mpr ⟨p,hp,by omega,by omega⟩,?_⟩
  cases h:Yf qs (p.1+p.2) with
  | false=>rfl
  | true =>
   obtain⟨q,hq,a1,a2⟩:=has_iff.mp h;have pw:=Good.pw g;obtain⟨i,hi,rfl⟩:=Gv.mp hp;obtain⟨j,hj,rfl⟩:=Gv.mp hq;rcases MI i j with z|z|z
   ·have:=GK.mp pw i j hi hj z;omega
   ·subst z;omega
   ·have:=GK.mp pw j i hj hi z;omega
 ·rw[if_neg c,if_neg];rintro⟨h1,h2⟩;obtain⟨p,hp,a1,a2⟩:=has_iff.mp h1;refine c (QN.mpr ⟨p,hp,?_⟩);rcases Jnj s (p.1+p.2) with z|z
  ·rw[has_iff.mpr ⟨p,hp,by omega,z⟩] at h2;cases h2
  ·omega
theorem JjK{ps:List Pr}(g:Good ps):(Jp ps).Pairwise (·<·):=by
 unfold Jp;rw[Lh];refine(Good.pw g).imp_of_mem fun {a b} _ hb h=>?_
 have:=Good.all g b hb;omega
theorem Ja3{ps:List Pr}(g:Good ps):(Jp ps).Nodup:=(JjK g).imp fun {a b} h=>by omega
theorem JiX(k:Int)(ps:List Pr):spF (byF (k+1) ps)=Jp (byF k ps):=by
 unfold spF Jp;refine Go fun i=>?_
 rw[Qo,Qo,Ll];unfold byF;rw[QH,QH]
 cases ps[i]? with
 | none=>rfl
 | some p =>
  simp only[KH];congr 1;have e:2*(k+1)*(i:Int)=2*k*(i:Int)+2*(i:Int):=by rw[K4,Int.add_mul];simp
  simp only[Mm];rw[e];omega
theorem JgP{ps:List Pr}(g:Good ps)(n:Nat):JD (byF ((n:Int)+1) ps)=(byF (n:Int) ps).map fun p=>(p.1+p.2,1,1):=by
 have gw:=YE g
 have gn:Good (byF (n:Int) ps):=(gw.bys (k:=(n:Int))).good (by omega)
 have et:thF (byF ((n:Int)+1) ps)=byF (n:Int) ps:=by have:=Jdc (n:=1) (gw.bys (k:=(n:Int)+1)) (by omega) (by omega);rw[show thF (byF ((n:Int)+1) ps)=thN 1 (byF ((n:Int)+1) ps) from rfl,this,Jhd];congr 1;omega
 unfold JD YN;rw[et,JiX,JeA (Jp (byF (n:Int) ps)) [] (by simpa using Ja3 gn),Q4,QO];unfold Jp;rw[QO];refine GD fun p hp=>?_
 simp only[Function.comp];rw[Jby gn,if_pos (show p.1+p.2∈Jp (byF (n:Int) ps) from QN.mpr ⟨p,hp,rfl⟩)]
theorem Jal:∀{l:List Int} {k:Int},l.Nodup->k∈l->l.count k=1
 | [],_,_,h=>by cases h
 | a::l,k,hn,h=>by
  rw[Q6] at hn;rw[Gp]
  by_cases c:a=k
  ·subst c;rw[LD.mpr hn.1];simp
  ·have hm:k∈l:=(Qk.mp h).resolve_left fun z=>c z.symm
   rw[Jal hn.2 hm];simp[c]
theorem Zd(d:Int):∀(a:List Pr) (s:Int),J8 (a.map fun p=>(p.1-d,p.2)) (s-d)=(J8 a s).map fun p=>(p.1-d,p.2)
 | [],s=>rfl
 | p::r,s=>by
  rw[Qg,J8,J8];dsimp only
  by_cases h:p.1=s
  ·rw[if_pos h,if_pos (by omega)];rfl
  ·rw[if_neg h,if_neg (by omega),Zd d r s];rfl
theorem Jak(d:Int):∀(L:List Int) (a:List Pr),(L.map (·-d)).foldl J8 (a.map fun p=>(p.1-d,p.2))=(L.foldl J8 a).map fun p=>(p.1-d,p.2)
 | [],a=>rfl
 | s::L,a=>by rw[Qg,Gd,Gd,Zd,Jak d L]
theorem Jhn:∀(L:List Int) (a:List Pr),(a.map (·.1)).Pairwise (·<·)->(∀k∈a.map (·.1),∀s∈L,k<=s)->L.Pairwise (·<=·)->((L.foldl J8 a).map (·.1)).Pairwise (·<·)
 | [],a,h,_,_=>h
 | s::L,a,h,hk,hL=>by
  obtain⟨l1,l2⟩:=QP.mp hL;rw[Gd];have e:(J8 a s).map (·.1)=Jz (a.map (·.1)) s:=Uf s a;refine Jhn L (J8 a s) ?_ (fun k hk' t ht=>?_) l2
  ·rw[e];unfold Jz;split
   ·exact h
   ·next c =>
    rw[Kc];refine⟨h,by simp,fun k hk' t ht=>?_⟩;have ht':t=s:=by simpa using ht
    subst ht';have h1:=hk k hk' t Qh;have h2:k≠t:=fun z=>c (hasK_mem.mpr (by rw[<- z];exact hk'))
    omega
  ·rw[e] at hk';unfold Jz at hk';split at hk'
   ·exact hk k hk' t (Qf _ ht)
   ·rcases GF.mp hk' with z|z
    ·exact hk k z t (Qf _ ht)
    ·have z':k=s:=by simpa using z
     subst z';exact l1 t ht
theorem JiY:∀{ps:List Pr} (i:Nat),Good ps->((ps.zipIdx i).map fun x=>x.1.1+x.1.2-1-2*(x.2:Int)).Pairwise (·<=·)
 | [],_,_=>.nil
 | [p],i,_=>by simp
 | p::q::r,i,g=>by
  have ih:=JiY (i+1) (Good.cons' g)
  have h1:=g.gap 0 p q rfl rfl
  have h2:=g.one 1 q rfl;rw[Lp,Qg];refine QP.mpr ⟨fun t ht=>?_,ih⟩;rw[Lp,Qg] at ih ht
  have hq:p.1+p.2-1-2*(i:Int)<=q.1+q.2-1-2*((i+1:Nat):Int):=by omega
  rcases Qk.mp ht with z|z
  ·subst z;exact hq
  ·have:=(QP.mp ih).1 t z;dsimp only at this ⊢;omega
noncomputable def JY(k:Int)(qs:List Pr):List Tr:=((JD qs).filter fun t=>decide (t.2.1>t.2.2)).map fun t=>(k,t.1,t.2.1-t.2.2)
noncomputable def tbN:Nat->Int->List Pr->List Tr
 | 0,_,_=>[]
 | n+1,k,qs=>JY (k+1) qs++tbN n (k+1) (thF qs)
theorem Jeg:∀(n:Nat) (k:Int),tbN n k []=[]
 | 0,_=>rfl
 | n+1,k=>by rw[tbN,show thF []=[] from rfl,Jeg n (k+1)];rfl
theorem JbS(qs:List Pr):(thF qs).length<=qs.length:=by have:=(Up (byF (-1) qs)).1;rw[UE] at this;exact this
theorem JlR{qs:List Pr}(g:Good qs)(h:(thF qs).length=qs.length):Good (byF (-1) qs):=by obtain⟨_,h2⟩:=Up (byF (-1) qs);obtain⟨a1,a2⟩:=h2 (by rw[UE];exact h);have w:=(YE g).bys (k:=-1);refine⟨fun i p e=>by have:=a1 p (QJ e);omega,fun i p q e1 e2=>?_⟩;have:=a2 i p q e1 e2;have:=w.gap i p q e1 e2;omega
theorem Jct{qs:List Pr}(g:Good (byF (-1) qs))(k:Int):JY k qs=[]:=by
 have e:qs=byF (((0:Nat):Int)+1) (byF (-1) qs):=by rw[Jhd,show((0:Nat):Int)+1+-1=0 by omega,Ww]
 unfold JY;rw[e,JgP g 0,Rn,QO,Kg.mpr]
 ·rfl
 ·intro p hp;simp
theorem JaC{qs:List Pr}(g:Good qs){k:Int}(h:JY k qs≠[]):(thF qs).length<qs.length:=by
 rcases KL (thF qs).length qs.length with z|z
 ·exact z
 ·exact absurd (Jct (JlR g (Nat.le_antisymm (JbS qs) z)) k) h
theorem Jed(qs:List Pr):(spF qs).length=qs.length:=by unfold spF;simp
theorem Je6(k:Int)(qs:List Pr):(JY k qs).length<=qs.length:=by
 unfold JY JD;rw[Qq];refine Gb (Le _ _) ?_;rw[Qq];have:=Ja0 (spF qs) [];rw[Jed] at this;unfold YN
 simpa using this
theorem Ji8:∀(n:Nat) (k:Int) (qs:List Pr),Good qs->qs.length<=30->(tbN n k qs).length<=30*qs.length
 | 0,_,_,_,_=>by simp[tbN]
 | n+1,k,qs,g,h=>by
  have l1:=Je6 (k+1) qs
  have l2:=JbS qs
  have ih:=Ji8 n (k+1) (thF qs) (JZ g) (by omega);rw[tbN,Qz]
  by_cases c:JY (k+1) qs=[]
  ·rw[c,Lz];omega
  ·have:=JaC g c;omega
theorem JlM{c:Int}{qs:List Pr}(w:Wide c qs)(c1:1<=c):∀(j m:Nat) (k:Int),((j:Int)<c)->tbN (j+m) k qs=tbN m (k+(j:Int)) (thN j qs):=by
 intro j
 induction j generalizing c qs with
 | zero=>intro m k _;rw[Mm];simp[thN]
 | succ j ih=>intro m k hj;have w1:Wide (c+-1) (byF (-1) qs):=w.bys;have g1:Good (byF (-1) qs):=w1.good (by omega);have e:thF qs=byF (-1) qs:=JaZ g1;rw[show j+1+m=(j+m)+1 by omega,tbN,Jct g1,Q4,e,ih w1 (by omega) m (k+1) (by omega)];show _=tbN m (k+((j+1:Nat):Int)) (thN j (thF qs));rw[e];congr 1;omega
theorem JoJ{c:Int}{qs:List Pr}(w:Wide c qs)(c1:1<=c)(hne:qs≠[])(j:Nat)(hj:(j:Int)<c):thN j qs≠[]:=by rw[Jdc w c1 hj];intro z;have:=UE (-(j:Int)) qs;rw[z] at this;exact hne (QU this.symm)
theorem Jja{c:Int}{qs:List Pr}(w:Wide c qs)(c1:1<=c)(hne:qs≠[]){N:Nat}(hN:thN N qs=[])(k:Int):∃C:Nat,(C:Int)=c/\C<=N/\tbN N k qs=JY (k+c) (thN (C-1) qs)++tbN (N-C) (k+c) (thN C qs)/\thN (N-C) (thN C qs)=[]:=by
 obtain⟨C,hC⟩:∃C:Nat,(C:Int)=c:=⟨c.toNat,by omega⟩
 have hCN:C<=N:=by
  rcases KL N C with z|z
  ·exact absurd hN (JoJ w c1 hne N (by omega))
  ·exact z
 refine⟨C,hC,hCN,?_,by rw[<- JbT,show C+(N-C)=N by omega];exact hN⟩;have e:=JlM w c1 (C-1) (N-C+1) k (by omega);rw[show C-1+(N-C+1)=N by omega] at e;rw[e,tbN,<- JaM,show C-1+1=C by omega,show k+((C-1:Nat):Int)+1=k+c by omega]
noncomputable def YM:List Pr->Int->Int->List Pr
 | [],s,v=>[(s,v)]
 | p::r,s,v=>if p.1=s then(p.1,p.2+v)::r else p::YM r s v
theorem UW(s v:Int):∀a:List Pr,(YM a s v).map (·.1)=Jz (a.map (·.1)) s
 | []=>rfl
 | p::r=>by
  have ih:=UW s v r;unfold Jz YW at ih ⊢;rw[YM,Qg,GP]
  by_cases h:p.1=s
  ·rw[if_pos h,decide_eq_true h,Ra,if_pos rfl];rfl
  ·rw[if_neg h,decide_eq_false h,Ko,Qg,ih];split <;> rfl
theorem Jaa(s v:Int):∀a:List Pr,(a.map (·.1)).Nodup->(YM a s v).map (·.2)=putDs (a.map (·.1)) (a.map (·.2)) s ((look (a.map (·.1)) (a.map (·.2)) s).getD 0+v)
 | [],_=>by show [v]=[0+v];simp
 | p::r,hn=>by
  rw[Qg,Q6] at hn;have ih:=Jaa s v r hn.2;rw[YM,Qg,Qg]
  by_cases h:p.1=s
  ·rw[if_pos h];unfold putDs;rw[if_pos (hasK_mem.mpr (by rw[h];exact Qh)),look,if_pos h,setK,if_pos h,ZK _ _ _ _ (by rw[<- h];exact hn.1)];rfl
  ·rw[if_neg h,Qg,ih,look,if_neg h];unfold putDs
   have e:YW (p.1::r.map (·.1)) s=YW (r.map (·.1)) s:=by unfold YW;rw[GP,decide_eq_false h,Ko]
   rw[e];split
   ·rw[setK,if_neg h]
   ·rfl
noncomputable def Yg(tb:List Tr)(a:List Pr):List Pr:=tb.foldl (fun a t=>YM a t.1 t.2.2) a
theorem Ui{k:Int}{qs:List Pr}{t:Tr}(h:t∈JY k qs):t.1=k:=by obtain⟨u,_,e⟩:=QN.mp h;rw[<- e]
theorem JbQ:∀(n:Nat) (k:Int) (qs:List Pr) (t:Tr),t∈tbN n k qs->k<t.1
 | 0,_,_,_,h=>by cases h
 | n+1,k,qs,t,h=>by
  rw[tbN] at h;rcases GF.mp h with z|z
  ·have:=Ui z;omega
  ·have:=JbQ n (k+1) (thF qs) t z;omega
theorem JfB(k:Int):∀(l:List Tr) (a:List Pr),(∀t∈l,t.1=k)->(Yg l a).map (·.1)=if l=[] then a.map (·.1) else Jz (a.map (·.1)) k
 | [],a,_=>by rw[if_pos rfl];rfl
 | t::l,a,h=>by
  have ht:=h t Qh
  have ih:=JfB k l (YM a t.1 t.2.2) fun u hu=>h u (Qf _ hu)
  rw[if_neg (by simp)];show(Yg l (YM a t.1 t.2.2)).map (·.1)=_;rw[ih,UW,ht];split
  ·rfl
  ·unfold Jz;split
   ·next c=>first|rfl|rw[if_pos c]
   ·next c=>rw[if_pos (hasK_mem.mpr (by simp))]
theorem Jee:∀(n:Nat) (k:Int) (qs:List Pr) (a:List Pr),Good qs->(a.map (·.1)).Pairwise (·<·)->(∀x∈a.map (·.1),x<=k)->((Yg (tbN n k qs) a).map (·.1)).Pairwise (·<·)/\(Yg (tbN n k qs) a).length<=a.length+qs.length
 | 0,_,_,a,_,h,_=>⟨h,by simp[tbN,Yg]⟩
 | n+1,k,qs,a,g,h,hk=>by
  have e:Yg (tbN (n+1) k qs) a=Yg (tbN n (k+1) (thF qs)) (Yg (JY (k+1) qs) a):=by unfold Yg;rw[tbN,List.foldl_append]
  have e1:=JfB (k+1) (JY (k+1) qs) a fun t ht=>Ui ht
  have len:∀a b:List Pr,a.map (·.1)=b.map (·.1)->a.length=b.length:=fun a b z=>by
   have:=congrArg Rz z
   simpa using this
  have l2:=JbS qs;rw[e]
  by_cases c:JY (k+1) qs=[]
  ·rw[if_pos c] at e1;obtain⟨i1,i2⟩:=Jee n (k+1) (thF qs) (Yg (JY (k+1) qs) a) (JZ g) (by rw[e1];exact h) (fun x hx=>by rw[e1] at hx;have:=hk x hx;omega);have:=len _ _ e1;exact⟨i1,by omega⟩
  ·rw[if_neg c] at e1;have hnot:¬YW (a.map (·.1)) (k+1)=true:=fun z=>by have:=hk _ (hasK_mem.mp z);omega
   unfold Jz at e1;rw[if_neg hnot] at e1;have hl:=congrArg Rz e1;rw[Qz,Qq,Qq,Gi] at hl;have fw:=JaC g c
   obtain⟨i1,i2⟩:=Jee n (k+1) (thF qs) (Yg (JY (k+1) qs) a) (JZ g) (by
    rw[e1,Kc];refine⟨h,by simp,fun x hx y hy=>?_⟩;have:=hk x hx;have:y=k+1:=by simpa using hy
    omega) (fun x hx=>by
    rw[e1] at hx;rcases GF.mp hx with z|z
    ·have:=hk x z;omega
    ·have:x=k+1:=by simpa using z
     omega)
   exact⟨i1,by omega⟩
theorem Jg3(a:List Pr)(s v:Int):(YM a s v).length<=a.length+1:=by
 induction a with
 | nil=>simp[YM]
 | cons p r ih =>
  rw[YM];split
  ·simp
  ·simp only[Qv];omega
theorem JbW:∀(n:Nat) (ps:List Pr),(thN n ps).length<=ps.length
 | 0,ps=>Qr _
 | n+1,ps=>by
  show(thN n (thF ps)).length<=_
  have h1:=JbW n (thF ps)
  have h2:=(Up (byF (-1) ps)).1;rw[UE] at h2
  have h3:(thF ps).length=(clN (byF (-1) ps)).length:=rfl;omega
noncomputable abbrev tbC:En->Option Bool:=(tTru? (e1 Us (Ja 2)))
noncomputable abbrev tbB:Es:=(Jj (Jn 4 (eU 1 JI (aC (Ja 2) a0))) (Jj (Z9 (fun i j=>i+j) 3 (Ja 4)) (Jj (Jn 2 (eU 2 JS (aC (Ja 2) (aC (e2 Yo (Ja 4) (eC (.int 1))) a0)))) (Jj (ZS 1 (J9 (iE true (eU 1 YT (aC (Ja 2) a0))) (.tp (.cons (.nm 0) (.cons (.nm 1) (.cons (.nm 2) .nil)))) (tB? (e2 fGt (Ja 1) (Ja 2))) (YQ (aC (Ja 3) (aC (Ja 0) (aC (e2 Yo (Ja 1) (Ja 2)) a0)))) [none,none,none,some 3])) (Jn 2 (eU 2 JS (aC (Ja 2) (aC (eC (.int 1)) a0))))))))
theorem Jdb(j0 j4:Sl)(acc:List Tr)(k:Int)(fuel:Nat):((Yn tbC tbB (fuel+1) [j0,.own (acc.map trE),.sh (.row (([]:List Pr).map prE)),.sh (.int k),j4]).bind (JbG (YL 1))).bind Jds=some (.own (acc.map trE)):=by rw[Yn];have hc:tbC [j0,.own (acc.map trE),.sh (.row (([]:List Pr).map prE)),.sh (.int k),j4]=some false:=rfl;rw[hc];walk_at "ev"
theorem JoG(j0:Sl):∀(m fuel:Nat) (left:List Pr) (acc:List Tr) (k:Int) (j4:Sl) (N:Nat),Good left->left.length<=m->left.length<=30->m<fuel->thN N left=[]->acc.length+30*left.length<=10000 ->
 ((Yn tbC tbB fuel [j0,.own (acc.map trE),.sh (.row (left.map prE)),.sh (.int k),j4]).bind (JbG (YL 1))).bind Jds=some (.own ((acc++tbN N k left).map trE)):=by
 intro m
 induction m with
 | zero =>
  intro fuel left acc k j4 N g hm _ hf _ _;obtain⟨f,rfl⟩:∃f,fuel=f+1:=⟨fuel-1,by omega⟩
  have:left=[]:=QU (by omega);subst this;rw[Jdb,Jeg,GG]
 | succ m ih =>
  intro fuel left acc k j4 N g hm h30 hf hN hacc;obtain⟨f,rfl⟩:∃f,fuel=f+1:=⟨fuel-1,by omega⟩
  by_cases h0:left=[]
  ·subst h0;rw[Jdb,Jeg,GG]
  ·obtain⟨c,hc,c1,w,t⟩:=Jpa g h0;obtain⟨C,hC,hCN,eT,eN⟩:=Jja w c1 h0 hN k;have hcl:=Jcy left (by omega);rw[hc] at hcl;have g1:=VP (C-1) g;have l1:=JbW (C-1) left;have l2:=JbW C left;have fw:=Jdd t;rw[<- hC,<- JbV C w c1 (by omega)] at fw;have ll:=Je6 (k+c) (thN (C-1) left)
   have hcond:tbC [j0,.own (acc.map trE),.sh (.row (left.map prE)),.sh (.int k),j4]=some true:=by
    walk_at "ev"
    cases left with
    | nil=>exact absurd rfl h0
    | cons _ _=>rfl
   have hth:=V8 (thN (C-1) left) 1 g1 (by omega);rw[show((1:Nat):Int)=1 from rfl,show thN 1 (thN (C-1) left)=thN C left by rw[<- JbT,show C-1+1=C by omega]] at hth
   have hbody:tbB [j0,.own (acc.map trE),.sh (.row (left.map prE)),.sh (.int k),j4]=some (.nx [j0,.own ((acc++JY (k+c) (thN (C-1) left)).map trE),.sh (.row ((thN C left).map prE)),.sh (.int (k+c)),.sh (.int c)]):=by
    walk_at "ev";rw[hcl];walk_at "ev";rw[show c-1=((C-1:Nat):Int) by omega,V8 _ _ g (by omega)];walk_at "ev";rw[Jh7 _ g1 (by omega)];walk_at "ev";rw[WB (g:=fun t:Tr=>trE (k+c,t.1,t.2.1-t.2.2)) (k:=fun t:Tr=>decide (t.2.1>t.2.2))]
    ·have el:((JD (thN (C-1) left)).filter fun t=>decide (t.2.1>t.2.2)).map (fun t:Tr=>trE (k+c,t.1,t.2.1-t.2.2))=(JY (k+c) (thN (C-1) left)).map trE:=by unfold JY;rw[QO];rfl
     rw[el]
     have hsl:(JD (thN (C-1) left)).length<=30:=by unfold JD;rw[Qq];have:=Ja0 (spF (thN (C-1) left)) [];rw[Jed] at this;unfold YN;simp at this;omega
     walk_at "ev";rw[hth];walk_at "ev";rw[<- Q0]
    ·intro t ht;simp only[trE];refine⟨?_,fun _=>?_⟩
     ·walk_at "ev"
      first|rfl|done
     ·walk_at "ev"
      first|rfl|done
   rw[Yn,hcond,QV,if_pos rfl,hbody,QV,eT,<- Gh];exact ih f _ _ _ _ _ (VP C g) (by omega) (by omega) (by omega) eN (by rw[Qz];omega)
theorem Jfa(ps:List Pr)(N:Nat)(g:Good ps)(h:ps.length<=30)(hN:thN N ps=[]):Yc [.sh (.row (ps.map prE))]=some (.own ((tbN N 0 ps).map trE)):=by have go:=JoG (.sh (.row (ps.map prE))) 30 1000000 ps [] 0 .no N g h h (by decide) hN (by simp;omega);unfold Yc;walk_at "ev";exact go
theorem Je9(ps:List Pr)(N:Nat)(g:Good ps)(h:ps.length<=30)(hN:thN N ps=[]):J0 [.sh (.row (ps.map prE))]=some (.own ((Yg (tbN N 0 ps) []).map prE)):=by
 have tl:=Ji8 N 0 ps g h;unfold J0;walk_at "ev";rw[Jfa ps N g h hN];walk_at "ev";rw[G6];refine Yp (fun(rest:List Tr) (a:List Pr) E=>∃j2 j3 j4,E=[.sh (.row (ps.map prE)),.od (a.map (·.1)) ((a.map (·.2)).map .int),j2,j3,j4]/\(a.map (·.1)).Nodup/\a.length+rest.length<=1000) (fun a t=>YM a t.1 t.2.2) [] ⟨.no,.no,.no,rfl,by simp,by simp;omega⟩ ?_ ?_
 ·rintro t rest a E ⟨j2,j3,j4,rfl,hn,hz⟩;rw[Qv] at hz;have hal:=Jg3 a t.1 t.2.2;simp only[trE];walk_at "ev";rw[Jcu];walk_at "ev";rw[JaI,<- UW t.1 t.2.2,<- Jaa _ _ _ hn];refine⟨.sh (.int t.1),.sh (.int t.2.1),.sh (.int t.2.2),rfl,?_,by omega⟩;rw[UW];exact UN _ hn
 ·rintro E' ⟨j2,j3,j4,rfl,hn,_⟩;walk_at "ev";rw[JhQ];rfl
theorem Wz:∀(cur:Pr) (r:List Pr),(∀p∈r,0<=p.2)->((clF cur r).map (·.2)).sum=cur.2+(r.map (·.2)).sum
 | cur,[],_=>by simp[clF]
 | cur,p::r,h=>by
  have h0:=h p Qh
  have hr:=fun q hq=>h q (Qf p hq)
  rw[clF,Qg,Qy];split
  ·rw[Wz _ r hr];dsimp only;omega
  ·split
   ·rw[Qg,Qy,Wz p r hr]
   ·rw[Wz cur r hr];omega
theorem Jex:∀(ps:List Pr),(∀p∈ps,0<=p.2)->((clN ps).map (·.2)).sum=(ps.map (·.2)).sum
 | [],_=>rfl
 | p::r,h=>by
  have h0:=h p Qh
  have hr:=fun q hq=>h q (Qf p hq)
  rw[clN,Qg,Qy];split
  ·exact Wz p r hr
  ·rw[Jex r hr];omega
theorem JmA(k:Int):∀(ps:List Pr),((byF k ps).map (·.2)).sum=(ps.map (·.2)).sum+k*(ps.length:Int):=by
 intro ps
 have e:(byF k ps).map (·.2)=ps.map fun p=>p.2+k:=by
  refine Go fun i=>?_
  unfold byF;rw[Qo,QH,Qo,Kf];rfl
 rw[e]
 induction ps with
 | nil=>simp
 | cons p r ih =>
  have ih':=ih (by
   refine Go fun i=>?_
   unfold byF;rw[Qo,QH,Qo,Kf];rfl)
  rw[Qg,Qy,ih',Qg,Qy,Qv,La,K4];simp;omega
theorem JbP:∀{ps:List Pr},(∀p∈ps,1<=p.2)->(ps.length:Int)<=(ps.map (·.2)).sum
 | [],_=>QK _
 | p::ps,h=>by
  have h1:=h p Qh
  have h2:=JbP fun q hq=>h q (Qf _ hq)
  rw[Qg,Qy,Qv];omega
theorem JlN{ps:List Pr}(g:Good ps):((thF ps).map (·.2)).sum=(ps.map (·.2)).sum-(ps.length:Int):=by
 unfold thF;rw[Jex,JmA]
 ·omega
 ·intro x hx;obtain⟨i,hi,rfl⟩:=Gv.mp hx;have e:(byF (-1) ps)[i]?=some (byF (-1) ps)[i]:=by simp
  obtain⟨p,hp,e2⟩:=JaX e;rw[e2];have:=g.one i p hp;dsimp only;omega
theorem JbU:∀(n:Nat) {ps:List Pr},Good ps->(ps.map (·.2)).sum<=(n:Int)->thN n ps=[]
 | 0,ps,g,h=>by
  have:=JbP (Good.all g)
  show ps=[]
  exact QU (by omega)
 | n+1,ps,g,h=>by
  show thN n (thF ps)=[]
  refine JbU n (JZ g) ?_;rw[JlN g]
  by_cases hl:ps.length=0
  ·have:ps=[]:=QU hl;subst this;simp
  ·omega
theorem Jqs{c1 c2 p1 p2 ins s:Int}(e:c1+c2=p1)(hc:0<=c2)(hp:0<=p2)(h0:0<=ins)(h1:ins<=s):∃t u,min c2 (s-ins)=t/\max 0 (ins+t-(p1-c1-c2))=ins+t/\min (ins+t) (p1-c1-c2)=0 ∧
 min p2 (s-(ins+t))=u/\min (c2+p2) (s-ins)=t+u/\0<=t/\t<=c2/\0<=u/\u<=p2/\(t=c2\/u=0):=by
 have z:p1-c1-c2=0:=by omega
 rw[z];rcases Rg c2 (s-ins) with h|h
 ·rw[L9 h];rcases Rg p2 (s-(ins+c2)) with k|k
  ·exact⟨c2,p2,rfl,by omega,by omega,L9 k,by omega,hc,QK _,hp,QK _,.inl rfl⟩
  ·exact⟨c2,s-(ins+c2),rfl,by omega,by omega,LX k,by omega,hc,QK _,by omega,k,.inl rfl⟩
 ·rw[LX h];exact⟨s-ins,0,rfl,by omega,by omega,by omega,by omega,by omega,h,QK _,hp,.inr rfl⟩
theorem bare{c1 c2 p1 p2 ins s:Int}(hb:c1+c2<=p1)(hp:p2=0)(hc:0<=c2)(h0:0<=ins)(h1:ins<=s):∃t m w,min c2 (s-ins)=t/\max 0 (ins+t-(p1-c1-c2))=m/\min (ins+t) (p1-c1-c2)=w/\min p2 (s-m)=0/\0<=t/\t<=c2 ∧
 ((m=0/\w=ins+t/\ins+t<=p1-c1-c2)\/(m=ins+t-(p1-c1-c2)/\w=p1-c1-c2/\p1-c1-c2<=ins+t)):=by
 obtain⟨t,ht,t0,t1,t2⟩:∃t,min c2 (s-ins)=t/\0<=t/\t<=c2/\ins+t<=s:=⟨_,rfl,by omega (config:={}),by omega (config:={}),by omega (config:={})⟩
 rw[ht];rcases Rg (ins+t) (p1-c1-c2) with h|h
 ·exact⟨t,0,ins+t,rfl,by omega (config:={}),L9 h,by omega (config:={}),t0,t1,.inl ⟨rfl,rfl,h⟩⟩
 ·exact⟨t,ins+t-(p1-c1-c2),p1-c1-c2,rfl,by omega (config:={}),LX h,by omega (config:={}),t0,t1,.inr ⟨rfl,rfl,h⟩⟩
theorem JeB:∀(L:List Int) (a:List Pr),((L.foldl J8 a).map (·.2)).sum=(a.map (·.2)).sum+(L.length:Int)
 | [],a=>by simp
 | s::L,a=>by
  have e:∀a:List Pr,((J8 a s).map (·.2)).sum=(a.map (·.2)).sum+1:=fun a=>by
   induction a with
   | nil=>simp[J8]
   | cons p r ih =>
    rw[J8];split
    ·simp only[Qg,Qy];omega
    ·simp only[Qg,Qy];omega
  rw[Gd,JeB L,e,Qv];omega
theorem JfA{α:Type}:∀(l:List α),(l.map fun _=>(0:Int)).sum=0
 | []=>rfl
 | _::l=>by rw[Qg,Qy,JfA l];rfl
theorem JhM:∀(M K:List Int),M.Nodup->K.Nodup->(∀x∈M,x∈K)->(K.map fun s=>if s∈M then(1:Int) else 0).sum=(M.length:Int)
 | [],K,_,_,_=>by rw[show(fun s:Int=>if s∈([]:List Int) then(1:Int) else 0)=fun _=>0 from funext fun s=>if_neg (by simp)];exact JfA K
 | m::M,K,hm,hk,h=>by
  obtain⟨h1,h2⟩:=Q6.mp hm;have ih:=JhM M K h2 hk fun x hx=>h x (Qf _ hx)
  have one:∀K:List Int,K.Nodup->(K.map fun s=>if s∈m::M then(1:Int) else 0).sum=(K.map fun s=>if s∈M then(1:Int) else 0).sum+(if m∈K then 1 else 0):=fun K hk=>by
   induction K with
   | nil=>rfl
   | cons k K ihK =>
    obtain⟨a1,a2⟩:=Q6.mp hk;rw[Qg,Qy,Qg,Qy,ihK a2]
    by_cases c:k=m
    ·subst c;rw[if_pos Qh,if_neg h1,if_neg a1,if_pos Qh];omega
    ·have e1:(k∈m::M)=(k∈M):=by simp[c]
     have e2:(m∈k::K)=(m∈K):=by simp[Q2 c]
     simp only[e1,e2];omega
  rw[one K hk,ih,if_pos (h m Qh),Qv];omega
theorem Vu:∀(r:List Pr) (cur:Pr) (e:Int),e∈Jp (clF cur r)->e∈Jp (cur::r)
 | [],_,_,h=>h
 | p::r,cur,e,h=>by
  unfold Jp at h ⊢;rw[clF] at h;split at h
  ·next c =>
   have:=Vu r _ e h;unfold Jp at this;simp only[Qg,Qk] at this ⊢;rcases this with z|z
   ·exact .inr (.inl (by omega))
   ·exact .inr (.inr z)
  ·split at h
   ·rw[Qg,Qk] at h;rcases h with z|z
    ·rw[z];simp
    ·have:=Vu r p e z;unfold Jp at this;rw[Qg];exact Qf _ this
   ·have:=Vu r cur e h;unfold Jp at this;simp only[Qg,Qk] at this ⊢;rcases this with z|z
    ·exact .inl z
    ·exact .inr (.inr z)
theorem Jcc:∀(ps:List Pr) (e:Int),e∈Jp (clN ps)->e∈Jp ps
 | [],_,h=>h
 | p::r,e,h=>by
  rw[clN] at h;split at h
  ·exact Vu r p e h
  ·have:=Jcc r e h;unfold Jp at this ⊢;rw[Qg];exact Qf _ this
theorem JeI{qs:List Pr}{e:Int}(h:e∈Jp (thF qs)):e∈spF qs:=by
 have:=Jcc _ e h
 have z:=JiX (-1) qs;rw[show(-1:Int)+1=0 by omega,Ww] at z;rw[z];exact this
noncomputable def Uz(l:List Tr):Int:=(l.map (·.2.2)).sum
theorem Jba{α:Type}(f:α->Int)(k:α->Bool):∀(l:List α),(∀x∈l,k x=false->f x=0)->((l.filter k).map f).sum=(l.map f).sum
 | [],_=>rfl
 | x::l,h=>by
  have ih:=Jba f k l fun y hy=>h y (Qf _ hy)
  rw[Qg,Qy]
  cases c:k x with
  | true=>rw[GI c,Qg,Qy,ih]
  | false=>rw[Ga (by rw[c];simp),ih,h x Qh c,K6]
theorem JfC{α:Type}(f g:α->Int):∀(l:List α),(l.map fun x=>f x-g x).sum=(l.map f).sum-(l.map g).sum
 | []=>rfl
 | x::l=>by rw[Qg,Qy,Qg,Qy,Qg,Qy,JfC f g l];omega
theorem Jkt{qs:List Pr}(g:Good qs)(k:Int):Uz (JY k qs)=(qs.length:Int)-((thF qs).length:Int):=by
 obtain⟨c1,c2,c3⟩:=Jhm (spF qs);have nd:=Ja3 (JZ g);unfold Uz JY;rw[QO];have e1:(((JD qs).filter fun t=>decide (t.2.1>t.2.2)).map ((fun t:Tr=>t.2.2) ∘ fun t:Tr=>(k,t.1,t.2.1-t.2.2))).sum=(((JD qs).filter fun t=>decide (t.2.1>t.2.2)).map fun t=>t.2.1-t.2.2).sum:=rfl;rw[e1,Jba]
 ·unfold JD;rw[QO]
  have e2:((YN (spF qs)).map ((fun t:Tr=>t.2.1-t.2.2) ∘ fun p:Pr=>((p.1,p.2,owF (thF qs) p.1):Tr))).sum=((YN (spF qs)).map fun p=>p.2-(if p.1∈Jp (thF qs) then(1:Int) else 0)).sum:=by
   congr 1;refine GD fun p _=>?_
   show p.2-owF (thF qs) p.1=_;rw[Jby (JZ g)]
  rw[e2,JfC];have e3:=JeB (spF qs) [];have e4:=JhM (Jp (thF qs)) ((YN (spF qs)).map (·.1)) nd c1 fun x hx=>QN.mpr ⟨_,c3 x (JeI hx),rfl⟩
  rw[QO] at e4;have e5:((YN (spF qs)).map fun p=>if p.1∈Jp (thF qs) then(1:Int) else 0).sum=((Jp (thF qs)).length:Int):=e4
  have e6:((YN (spF qs)).map (·.2)).sum=((spF qs).length:Int):=by unfold YN;rw[e3];simp
  rw[e5,e6,Jed];unfold Jp;rw[Qq]
 ·intro t ht c;unfold JD at ht;obtain⟨p,hp,rfl⟩:=QN.mp ht;obtain⟨v1,v2⟩:=c2 p hp;have:0<(spF qs).count p.1:=LF.mpr v2;have o:=Jby (JZ g) p.1;have c':=of_decide_eq_false c;dsimp only at c' ⊢;rw[o] at c' ⊢
  by_cases z:p.1∈Jp (thF qs)
  ·rw[if_pos z] at c' ⊢;omega
  ·rw[if_neg z] at c' ⊢;omega
theorem JbR:∀(n:Nat) (k:Int) {qs:List Pr},Good qs->thN n qs=[]->Uz (tbN n k qs)=(qs.length:Int)
 | 0,k,qs,g,h=>by have:qs=[]:=h;subst this;rfl
 | n+1,k,qs,g,h=>by
  have ih:=JbR n (k+1) (JZ g) h
  have l:=Jkt g (k+1);unfold Uz at *;rw[tbN,Q0,Rh,ih,l];omega
theorem Jb1(f:Int->Int)(s v:Int):∀(a:List Pr),((YM a s v).map fun p=>p.2*f p.1).sum=(a.map fun p=>p.2*f p.1).sum+v*f s
 | []=>by simp[YM]
 | p::r=>by
  rw[YM];split
  ·next c=>rw[Qg,Qy,Qg,Qy];dsimp only;rw[Int.add_mul,c];omega
  ·rw[Qg,Qy,Qg,Qy,Jb1 f s v r];omega
theorem ZO(f:Int->Int):∀(tb:List Tr) (a:List Pr),((Yg tb a).map fun p=>p.2*f p.1).sum=(a.map fun p=>p.2*f p.1).sum+(tb.map fun t=>t.2.2*f t.1).sum
 | [],a=>by simp[Yg]
 | t::tb,a=>by show((Yg tb (YM a t.1 t.2.2)).map fun p=>p.2*f p.1).sum=_;rw[ZO f tb,Jb1,Qg,Qy];omega
theorem JbZ(s v:Int):∀(a:List Pr) (p:Pr),p∈YM a s v->p.1=s\/p.1∈a.map (·.1)
 | [],p,h=>by
  have:p=(s,v):=by simpa [YM] using h
  exact .inl (by rw[this])
 | q::r,p,h=>by
  rw[YM] at h;split at h
  ·rcases Qk.mp h with z|z
   ·exact .inr (by rw[z];simp)
   ·exact .inr (QN.mpr ⟨p,Qf _ z,rfl⟩)
  ·rcases Qk.mp h with z|z
   ·exact .inr (by rw[z];simp)
   ·rcases JbZ s v r p z with y|y
    ·exact .inl y
    ·exact .inr (by rw[Qg];exact Qf _ y)
theorem Jc9:∀(tb:List Tr) (a:List Pr) (p:Pr),p∈Yg tb a->(∃t∈tb,t.1=p.1)\/p.1∈a.map (·.1)
 | [],a,p,h=>.inr (QN.mpr ⟨p,h,rfl⟩)
 | t::tb,a,p,h=>by
  rcases Jc9 tb (YM a t.1 t.2.2) p h with ⟨u,h1,h2⟩|z
  ·exact .inl ⟨u,Qf _ h1,h2⟩
  ·obtain⟨q,hq,e⟩:=QN.mp z;rcases JbZ t.1 t.2.2 a q hq with y|y
   ·exact .inl ⟨t,Qh,by rw[<- e,y]⟩
   ·exact .inr (by rw[<- e];exact y)
theorem Jbn{α β:Type}{p:Pt}{b:Es}{f:α->D}(R:List α->β->En->Prop)(g:β->α->β):∀{as:List α} {E:En} (s:β) (h0:R as s E)
 (h:∀a as s E,R (a::as) s E->okS (R as (g s a)) ((p.bind (f a) E).bind b)),∃E',R [] (as.foldl g s) E'/\Y5 p b (as.map f) E=some (.nx E')
 | [],E,s,h0,_=>⟨E,h0,rfl⟩
 | a::as,E,s,h0,h=>by
  obtain⟨E2,e2,r2⟩:=Zr (h a as s E h0);obtain⟨E',h1,h2⟩:=Jbn R g (as:=as) (E:=E2) (g s a) r2 h;refine⟨E',h1,?_⟩;rw[Qg,Y5]
  cases hp:p.bind (f a) E with
  | none=>rw[hp] at e2;rcases e2 with e2|e2 <;> cases e2
  | some E1=>rw[hp,QV] at e2;rw[QV];rcases e2 with e2|e2 <;> (rw[e2,QV];exact h2)
theorem Ve(prs:List Pr)(s:Int):((JA prs).count s:Int)=(prs.map fun p=>if p.1=s then((p.2.toNat:Nat):Int) else 0).sum:=by
 induction prs with
 | nil=>rfl
 | cons p r ih =>
  unfold JA at *;rw[Kh,LS,Qg,Qy,<- ih,RN];split <;> rename_i c
  ·have c':p.1=s:=by simpa using c
   rw[if_pos c'];omega
  ·have c':¬p.1=s:=by simpa using c
   rw[if_neg c'];omega
theorem Jfe{a:List Pr}(f:Pr->Int)(hn:(a.map (·.1)).Nodup)(s:Int):(a.map fun p=>if p.1=s then f p else 0).sum=if s∈a.map (·.1) then f (s,lk s a) else 0:=by
 induction a with
 | nil=>rfl
 | cons p r ih =>
  rw[Qg,Q6] at hn;rw[Qg,Qy,ih hn.2,lk]
  by_cases c:p.1=s
  ·subst c;rw[if_pos rfl,if_pos rfl,if_neg hn.1,if_pos (by simp)];simp
  ·rw[if_neg c,if_neg c,K6];have:(s∈(p::r).map (·.1))=(s∈r.map (·.1)):=by simp[Q2 c]
   simp only[this]
noncomputable def Wt(l:List Tr):List Pr:=l.map fun t=>(t.2.1,t.2.2)
theorem JgN{q:List Pr}(g:Good q)(k:Int):J1 (Jp (thF q)++JA (Wt (JY k q)))=spF q:=by
 obtain⟨c1,c2,c3⟩:=Jhm (spF q);have gt:=JZ g;have nd:=Ja3 gt;refine List.Perm.eq_of_pairwise (le:=(·<=·)) (fun a b _ _ h1 h2=>by omega) (Ul _) (JiY 0 g) ((JB _).trans (List.perm_iff_count.mpr fun s=>?_));rw[LS]
 have e1:((JA (Wt (JY k q))).count s:Int)=if s∈spF q then((spF q).count s:Int)-(if s∈Jp (thF q) then 1 else 0) else 0:=by
  rw[Ve];unfold Wt JY;rw[QO,QO];refine Eq.trans (show _=(((JD q).filter fun t=>decide (t.2.1>t.2.2)).map fun t=>if t.1=s then(((t.2.1-t.2.2).toNat:Nat):Int) else 0).sum from rfl) ?_;rw[Jba]
  ·unfold JD;rw[QO];have f2:((YN (spF q)).map ((fun t:Tr=>if t.1=s then(((t.2.1-t.2.2).toNat:Nat):Int) else 0) ∘ fun p:Pr=>((p.1,p.2,owF (thF q) p.1):Tr))).sum=((YN (spF q)).map fun p=>if p.1=s then(((p.2-owF (thF q) p.1).toNat:Nat):Int) else 0).sum:=rfl;rw[f2,Jfe (fun p=>(((p.2-owF (thF q) p.1).toNat:Nat):Int)) c1];have mm:s∈(YN (spF q)).map (·.1)↔s∈spF q:=⟨fun h=>by obtain⟨p,hp,e⟩:=QN.mp h;rw[<- e];exact(c2 p hp).2,fun h=>QN.mpr ⟨_,c3 s h,rfl⟩⟩
   by_cases h:s∈spF q
   ·rw[if_pos (mm.mpr h),if_pos h,JdM c1 (c3 s h) (p:=(s,((spF q).count s:Int)))];dsimp only;rw[Jby gt];have:0<(spF q).count s:=LF.mpr h;split <;> omega
   ·rw[if_neg fun z=>h (mm.mp z),if_neg h]
  ·intro t ht c;have c':=of_decide_eq_false c;split
   ·omega
   ·rfl
 have e2:(Jp (thF q)).count s=if s∈Jp (thF q) then 1 else 0:=by
  split
  ·next h=>exact Jal nd h
  ·next h=>exact LD.mpr h
 rw[e2]
 by_cases h:s∈spF q
 ·rw[if_pos h] at e1;have:0<(spF q).count s:=LF.mpr h;split at e1 <;> rename_i c
  ·rw[if_pos c];omega
  ·rw[if_neg c];omega
 ·rw[if_neg h] at e1;rw[if_neg fun z=>h (JeI z),LD.mpr h];omega
noncomputable def putF(ps prs:List Pr):List Pr:=edF ps 0 0 (J1 (Jp ps++JA prs))
theorem WH{k:Int}{q:List Pr}{t:Tr}(h:t∈JY k q):1<=t.2.2:=by unfold JY at h;obtain⟨u,hu,e⟩:=QN.mp h;obtain⟨_,c⟩:=KF.mp hu;have:=of_decide_eq_true c;rw[<- e];dsimp only;omega
noncomputable def Jdj:Option Pr->List Tr->Prop
 | _,[]=>True
 | a,t::r=>1<=t.1/\1<=t.2.2/\(∀b,a=some b->b.1<t.1\/(b.1=t.1/\b.2<t.2.1))/\Jdj (some (t.1,t.2.1)) r
theorem Jep(K:Int)(rest:List Tr)(hK:1<=K)(hr:∀a',(∀b,a'=some b->b.1<=K)->Jdj a' rest):∀(L:List Tr) (a:Option Pr),(∀t∈L,t.1=K/\1<=t.2.2)->(L.map (·.2.1)).Pairwise (·<·)->(∀b,a=some b->b.1<K\/(b.1=K/\∀t∈L,b.2<t.2.1))->Jdj a (L++rest)
 | [],a,_,_,h=>hr a fun b e=>by rcases h b e with z|z <;> omega
 | t::L,a,h1,h2,h3=>by
  obtain⟨k1,k2⟩:=h1 t Qh;rw[Qg,QP] at h2;refine⟨by omega,k2,fun b e=>?_,Jep K rest hK hr L _ (fun u hu=>h1 u (Qf _ hu)) h2.2 fun b e=>?_⟩
  ·rcases h3 b e with z|⟨z,y⟩
   ·exact .inl (by omega)
   ·exact .inr ⟨by omega,y t Qh⟩
  ·cases e;exact .inr ⟨k1,fun u hu=>h2.1 _ (QN.mpr ⟨u,hu,rfl⟩)⟩
theorem WG{q:List Pr}(g:Good q)(k:Int):((JY k q).map (·.2.1)).Pairwise (·<·):=by
 have h:=Jhn (spF q) [] (by simp) (fun _ h=>by simp at h) (JiY 0 g)
 have e:(JY k q).map (·.2.1)=(((JD q).filter fun t=>decide (t.2.1>t.2.2)).map (·.1)):=by unfold JY;rw[QO];rfl
 rw[e]
 have e2:(JD q).map (·.1)=(YN (spF q)).map (·.1):=by unfold JD;rw[QO];rfl
 have h':((JD q).map (·.1)).Pairwise (·<·):=by rw[e2];exact h
 rw[Lh] at h' ⊢;exact h'.filter _
theorem Va:∀(n:Nat) (k:Int) (qs:List Pr) (a:Option Pr),Good qs->0<=k->(∀b,a=some b->b.1<=k)->Jdj a (tbN n k qs)
 | 0,_,_,_,_,_,_=>trivial
 | n+1,k,qs,a,g,hk,ha=>by rw[tbN];refine Jep (k+1) _ (by omega) (fun a' h=>Va n (k+1) (thF qs) a' (JZ g) (by omega) h) _ a (fun t ht=>⟨Ui ht,WH ht⟩) (WG g (k+1)) fun b e=>.inl (by have:=ha b e;omega)
theorem Vq:∀{tb:List Tr} {a:Option Pr},Jdj a tb->∀t∈tb,1<=t.1/\1<=t.2.2
 | [],_,_,_,h=>by cases h
 | t::r,a,h,u,hu=>by
  obtain⟨h1,h2,_,h4⟩:=h;rcases Qk.mp hu with z|z
  ·rw[z];exact⟨h1,h2⟩
  ·exact Vq h4 u z
theorem Jic:∀{tb:List Tr},(∀t∈tb,1<=t.2.2)->(tb.length:Int)<=Uz tb/\∀t∈tb,t.2.2<=Uz tb
 | [],_=>⟨QK _,fun _ h=>by cases h⟩
 | t::r,h=>by
  obtain⟨h1,h2⟩:=Jic fun u hu=>h u (Qf t hu)
  have ht:=h t Qh
  have e:Uz (t::r)=t.2.2+Uz r:=by unfold Uz;rw[Qg,Qy]
  rw[e,Qv];refine⟨by omega,fun u hu=>?_⟩;rcases Qk.mp hu with z|z
  ·rw[z];omega
  ·have:=h2 u z;omega
noncomputable def mvP(d:Int)(ps:List Pr):List Pr:=ps.map fun p=>(p.1-d,p.2)
theorem Jps(d k:Int)(ps:List Pr):byF k (mvP d ps)=mvP d (byF k ps):=by
 refine Go fun i=>?_
 unfold byF mvP;rw[QH,Qo,Qo,QH,Kf,Kf]
 cases ps[i]? with
 | none=>rfl
 | some p=>exact congrArg some (Lw (by show p.1-d+2*k*(i:Int)=p.1+2*k*(i:Int)-d;omega) rfl)
theorem Jbp(d:Int):∀(r:List Pr) (cur:Pr),clF (cur.1-d,cur.2) (mvP d r)=mvP d (clF cur r)
 | [],cur=>rfl
 | p::r,cur=>by
  show clF (cur.1-d,cur.2) ((p.1-d,p.2)::mvP d r)=_;rw[clF,clF];dsimp only
  by_cases h:cur.1+cur.2=p.1
  ·rw[if_pos (by omega),if_pos h];exact Jbp d r (cur.1,cur.2+p.2)
  ·rw[if_neg (by omega),if_neg h];split
   ·rw[Jbp d r p];rfl
   ·exact Jbp d r cur
theorem JdT(d:Int):∀(ps:List Pr),clN (mvP d ps)=mvP d (clN ps)
 | []=>rfl
 | p::r=>by
  show clN ((p.1-d,p.2)::mvP d r)=_;rw[clN,clN];split
  ·exact Jbp d r p
  ·exact JdT d r
theorem Jmb(d:Int)(ps:List Pr):thF (mvP d ps)=mvP d (thF ps):=by unfold thF;rw[Jps,JdT]
theorem Jpu(d:Int)(ps:List Pr):spF (mvP d ps)=(spF ps).map (·-d):=by
 refine Go fun i=>?_
 unfold spF mvP;rw[Qo,Qo,Qo,Ll,Ll,Qo]
 cases ps[i]? with
 | none=>rfl
 | some p=>exact congrArg some (by show p.1-d+p.2-1-2*((0+i:Nat):Int)=p.1+p.2-1-2*((0+i:Nat):Int)-d;omega)
theorem Jh9(d:Int)(ps:List Pr)(x:Int):Yf (mvP d ps) (x-d)=Yf ps x:=by
 induction ps with
 | nil=>rfl
 | cons p r ih =>
  show Yf ((p.1-d,p.2)::mvP d r) (x-d)=_;rw[JX,JX,ih];dsimp only;congr 2
  ·rw[decide_eq_decide];omega
  ·rw[decide_eq_decide];omega
theorem Jpt(d:Int)(ps:List Pr)(x:Int):owF (mvP d ps) (x-d)=owF ps x:=by unfold owF;rw[Jh9,show x-d-1=x-1-d by omega,Jh9]
theorem Jnp(d:Int)(L:List Int):YN (L.map (·-d))=(YN L).map fun p=>(p.1-d,p.2):=by have:=Jak d L [];exact this
theorem Jnq(d k:Int)(ps:List Pr):JY k (mvP d ps)=(JY k ps).map fun t=>(t.1,t.2.1-d,t.2.2):=by
 have e:JD (mvP d ps)=(JD ps).map fun t=>(t.1-d,t.2.1,t.2.2):=by
  unfold JD;rw[Jpu,Jnp,QO,QO];refine GD fun p _=>?_
  show(p.1-d,p.2,owF (thF (mvP d ps)) (p.1-d))=(p.1-d,p.2,owF (thF ps) p.1)
  rw[Jmb,Jpt]
 unfold JY;rw[e,Rn,QO,QO];rfl
theorem Jma(d:Int):∀(n:Nat) (k:Int) (ps:List Pr),tbN n k (mvP d ps)=(tbN n k ps).map fun t=>(t.1,t.2.1-d,t.2.2)
 | 0,_,_=>rfl
 | n+1,k,ps=>by rw[tbN,tbN,Q0,Jnq,Jmb,Jma d n]
noncomputable def goS(s:Int):Int->List Pr->List Pr
 | _,[]=>[]
 | ins,[p]=>[(p.1+min p.2 (s-ins),p.2-min p.2 (s-ins)+(ins+min p.2 (s-ins)))]
 | ins,p::q::r=>(p.1+min p.2 (s-ins),p.2-min p.2 (s-ins)+min (ins+min p.2 (s-ins)) (q.1-p.1-p.2))::goS s (max 0 (ins+min p.2 (s-ins)-(q.1-p.1-p.2))) (q::r)
theorem JV(s ins:Int)(p q:Pr)(r:List Pr):goS s ins (p::q::r)=(p.1+min p.2 (s-ins),p.2-min p.2 (s-ins)+min (ins+min p.2 (s-ins)) (q.1-p.1-p.2))::goS s (max 0 (ins+min p.2 (s-ins)-(q.1-p.1-p.2))) (q::r):=rfl
theorem WD{s:Int}:∀(ps:List Pr) (ins:Int),Good ps->0<=ins->ins<=s-1->Good (goS s ins ps)/\∀q,(goS s ins ps)[0]?=some q->∀p,ps[0]?=some p->q.1=p.1+min p.2 (s-ins)
 | [],_,_,_,_=>⟨Good.nil,fun q e=>by simp[goS] at e⟩
 | [p],ins,g,h0,h1=>by
  have hp:=g.one 0 p rfl;refine⟨Good.mk' ?_ (fun q e=>by simp at e) Good.nil,fun q e p' e'=>?_⟩
  ·dsimp only;omega (config:={})
  ·simp[goS] at e e';subst e';rw[<- e]
 | p::q::r,ins,g,h0,h1=>by
  have hp:=g.one 0 p rfl
  have hq:=g.one 1 q rfl
  have hg:=g.gap 0 p q rfl rfl;obtain⟨t,ht,t0,t2⟩:∃t,min p.2 (s-ins)=t/\1<=t/\ins+t<=s:=⟨_,rfl,Int.le_min.mpr ⟨hp,by omega (config:={})⟩,by have:=LY p.2 (s-ins);omega (config:={})⟩
  have t1:t<=p.2:=by rw[<- ht];exact Int.min_le_left _ _
  have l1:max 0 (ins+t-(q.1-p.1-p.2))<=s-1:=RX.mpr ⟨by omega (config:={}),by omega (config:={})⟩
  have w0:1<=min (ins+t) (q.1-p.1-p.2):=Int.le_min.mpr ⟨by omega (config:={}),by omega (config:={})⟩
  have w1:=LY (ins+t) (q.1-p.1-p.2);obtain⟨i1,i2⟩:=WD (s:=s) (q::r) (max 0 (ins+t-(q.1-p.1-p.2))) (Good.cons' g) (Ro _ _) l1
  have u0:1<=min q.2 (s-max 0 (ins+t-(q.1-p.1-p.2))):=Int.le_min.mpr ⟨hq,by omega (config:={})⟩;rw[JV,ht]
  have ht':=ht
  clear ht;refine⟨Good.mk' ?_ (fun q' e=>?_) i1,fun q' e p' e'=>?_⟩
  ·dsimp only
   revert w0
   generalize min (ins+t) (q.1-p.1-p.2)=w
   intro w0;omega (config:={})
  ·have i3:=i2 q' e q rfl;dsimp only
   revert w0 w1 u0 i3
   generalize min (ins+t) (q.1-p.1-p.2)=w
   generalize min q.2 _=u
   intro w0 w1 u0 i3;omega (config:={})
  ·simp at e e';subst e';rw[<- e,ht']
theorem Jbd:∀(ps:List Pr),Wide 0 ps->goS 0 0 ps=ps
 | [],_=>rfl
 | [p],w=>by
  have hp:=w.one 0 p rfl
  show [(p.1+min p.2 (0-0),p.2-min p.2 (0-0)+(0+min p.2 (0-0)))]=[p]
  congr 1;exact Lw (by dsimp only;omega) (by dsimp only;omega)
 | p::q::r,w=>by
  have hp:=w.one 0 p rfl
  have hg:=w.gap 0 p q rfl rfl;rw[JV,show max 0 (0+min p.2 (0-0)-(q.1-p.1-p.2))=0 by omega,Jbd (q::r) w.cons];congr 1;exact Lw (by dsimp only;omega) (by dsimp only;omega)
theorem JhG(s:Int):∀(ps:List Pr) (c ins:Int),Good ps->0<=ins->ins<=s-1->byR c (goS s ins ps)=mvP (-1) (goS (s-1) ins (byR c ps))
 | [],_,_,_,_,_=>rfl
 | [p],c,ins,g,h0,h1=>by
  have hp:=g.one 0 p rfl
  show [(p.1+min p.2 (s-ins)-c,p.2-min p.2 (s-ins)+(ins+min p.2 (s-ins))-1)]=[(p.1-c+min (p.2-1) (s-1-ins) - -1,p.2-1-min (p.2-1) (s-1-ins)+(ins+min (p.2-1) (s-1-ins)))]
  congr 1;exact Lw (by dsimp only;omega) (by dsimp only;omega)
 | p::q::r,c,ins,g,h0,h1=>by
  have hp:=g.one 0 p rfl
  have hg:=g.gap 0 p q rfl rfl
  have hm:min (p.2-1) (s-1-ins)=min p.2 (s-ins)-1:=by omega
  have ht:=LY p.2 (s-ins)
  revert hm ht
  generalize ht:min p.2 (s-ins)=t
  intro hm h3;have ih:=JhG s (q::r) (c+2) (max 0 (ins+t-(q.1-p.1-p.2))) (Good.cons' g) (Ro _ _) (RX.mpr ⟨by omega,by omega⟩);rw[JV,ht,byR,ih];show _=mvP (-1) (goS (s-1) ins ((p.1-c,p.2-1)::(q.1-(c+2),q.2-1)::byR (c+2+2) r));rw[JV];dsimp only;rw[hm,show q.1-(c+2)-(p.1-c)-(p.2-1)=q.1-p.1-p.2-1 by omega,show ins+(t-1)-(q.1-p.1-p.2-1)=ins+t-(q.1-p.1-p.2) by omega,show min (ins+(t-1)) (q.1-p.1-p.2-1)=min (ins+t) (q.1-p.1-p.2)-1 by omega]
  show _=(p.1-c+(t-1) - -1,p.2-1-(t-1)+(min (ins+t) (q.1-p.1-p.2)-1))::mvP (-1) (goS (s-1) (max 0 (ins+t-(q.1-p.1-p.2))) (byR (c+2) (q::r)));rw[show p.1-c+(t-1) - -1=p.1+t-c by omega,show p.2-1-(t-1)+(min (ins+t) (q.1-p.1-p.2)-1)=p.2-t+min (ins+t) (q.1-p.1-p.2)-1 by omega]
theorem WI{A B T:Bool}(h:A=B):(A || T)=(B || T):=by rw[h]
noncomputable def inI(a b x:Int):Bool:=decide (a<=x) && decide (x<b)
theorem inI_t{a b x:Int}:inI a b x=true↔a<=x/\x<b:=by unfold inI;simp
theorem J3(p:Pr)(ps:List Pr)(x:Int):Yf (p::ps) x=(inI p.1 (p.1+p.2) x || Yf ps x):=JX p ps x
theorem Jkk{a b c d e f x:Int}(h:(a<=x/\x<b)↔(c<=x/\x<d)\/(e<=x/\x<f)):inI a b x=(inI c d x || inI e f x):=by rw[Kt,LA,inI_t,inI_t,inI_t];exact h
theorem Jq(p:Pr)(ps:List Pr):Jp (p::ps)=(p.1+p.2)::Jp ps:=rfl
theorem Jci{a c x:Int}(h:c<=a):inI a c x=false:=by rw[Bool.eq_false_iff];intro z;have:=inI_t.mp z;omega
theorem Jch{a b c d e f x:Int}(h:(c=a/\d=e/\f=b/\c<=d/\e<=f)\/(d<=c/\e=a/\f=b)\/(f<=e/\c=a/\d=b)):inI a b x=(inI c d x || inI e f x):=by
 rcases h with ⟨rfl,rfl,rfl,h1,h2⟩|⟨h1,rfl,rfl⟩|⟨h1,rfl,rfl⟩
 ·exact Jkk (by omega (config:={}))
 ·rw[Jci h1,Ko]
 ·rw[Jci h1,RP]
theorem Jpb{A B C D x:Int}{l:List Int}(h:(A=C/\B=D)\/(A=D/\B=C)):(A::B::l).count x=(C::l).count x+(if D=x then 1 else 0):=by rcases h with ⟨rfl,rfl⟩|⟨rfl,rfl⟩ <;> simp only[Gp,beq_iff_eq] <;> omega
theorem Jl2{c1 c2 p1 p2 t u w x:Int}(e:c1+c2=p1)(hz:t=c2\/u=0)(t1:t<=c2)(hw:0<=p2+w):inI (c1+(t+u)) (c1+(t+u)+(c2+p2-(t+u)+w)) x=(inI (c1+t) (c1+t+(c2-t+0)) x || inI (p1+u) (p1+u+(p2-u+w)) x):=by
 subst e;refine Jch ?_;rcases hz with z|z
 ·exact .inr (.inl ⟨by omega,by omega,by omega⟩)
 ·exact .inl ⟨by omega,by omega,by omega,by omega,by omega⟩
theorem JlX{c1 c2 p1 p2 t u w:Int}(e:c1+c2=p1)(l:List Int):(c1+t+(c2-t+0))::(p1+u+(p2-u+w))::l=(c1+c2)::(c1+(t+u)+(c2+p2-(t+u)+w))::l:=by rw[show c1+t+(c2-t+0)=c1+c2 by omega,show p1+u+(p2-u+w)=c1+(t+u)+(c2+p2-(t+u)+w) by omega]
theorem Jl3{c1 c2 p1 p2 t v y x:Int}(hp:p2=0)(hk:y=0\/v=p1-c1-c2)(y0:0<=y)(t1:t<=c2)(v0:0<=v):inI (c1+t) (c1+t+(c2-t+(v+y))) x=(inI (c1+t) (c1+t+(c2-t+v)) x || inI (p1+0) (p1+0+(p2-0+y)) x):=by
 refine Jch ?_;rcases hk with z|z
 ·exact .inr (.inr ⟨by omega,rfl,by omega⟩)
 ·exact .inl ⟨rfl,by omega,by omega,by omega,by omega⟩
theorem JlY{c1 c2 p1 p2 t v y x:Int}{l:List Int}(hp:p2=0)(hk:y=0\/v=p1-c1-c2):((c1+t+(c2-t+v))::(p1+0+(p2-0+y))::l).count x=((c1+t+(c2-t+(v+y)))::l).count x+(if p1=x then 1 else 0):=by
 refine Jpb ?_;rcases hk with z|z
 ·exact .inl ⟨by omega,by omega⟩
 ·exact .inr ⟨by omega,by omega⟩
theorem Jbc(s x:Int):∀(r:List Pr) (cur:Pr) (ins:Int),0<=cur.2->Wide 0 r->(∀q,r[0]?=some q->cur.1+cur.2<=q.1)->0<=ins->ins<=s ->
 Yf (goS s ins (clF cur r)) x=Yf (goS s ins (cur::r)) x/\(Jp (goS s ins (cur::r))).count x+(Jp (clF cur r)).count x=(Jp (goS s ins (clF cur r))).count x+(Jp (cur::r)).count x
 | [],_,_,_,_,_,_,_=>⟨rfl,rfl⟩
 | p::r,cur,ins,hc,w,hq,h0,h1=>by
  have hp:=w.one 0 p rfl
  have hb:=hq p rfl
  have nx:∀q,r[0]?=some q->p.1+p.2<=q.1:=fun q e=>by have:=w.gap 0 p q rfl (by simpa using e);omega (config:={})
  rw[clF];split
  ·next e =>
   obtain⟨i1,i2⟩:=Jbc s x r (cur.1,cur.2+p.2) ins (by dsimp only;omega (config:={})) w.cons (fun q e'=>by have:=nx q e';dsimp only;omega (config:={})) h0 h1;obtain⟨t,u,ht,hl,hd,hu,hm,t0,t1,u0,u1,hz⟩:=Jqs e hc hp h0 h1
   have e2:Jp (cur::p::r)=(cur.1+cur.2)::Jp ((cur.1,cur.2+p.2)::r):=by rw[Jq,Jq,Jq];dsimp only;rw[show cur.1+(cur.2+p.2)=p.1+p.2 by omega (config:={})]
   cases r with
   | nil =>
    have f1:goS s ins [cur,p]=[(cur.1+t,cur.2-t+0),(p.1+u,p.2-u+(ins+t+u))]:=by rw[JV,ht,hl,hd];show _::[(p.1+min p.2 (s-(ins+t)),p.2-min p.2 (s-(ins+t))+(ins+t+min p.2 (s-(ins+t))))]=_;rw[hu]
    have f2:goS s ins [(cur.1,cur.2+p.2)]=[(cur.1+(t+u),cur.2+p.2-(t+u)+(ins+t+u))]:=by show [(cur.1+min (cur.2+p.2) (s-ins),cur.2+p.2-min (cur.2+p.2) (s-ins)+(ins+min (cur.2+p.2) (s-ins)))]=_;rw[hm,RS ins]
    clear ht hl hd hu hm;refine⟨?_,?_⟩
    ·rw[i1,f1,f2,J3,J3,J3,<- LZ];exact WI (Jl2 e hz t1 (by omega (config:={})))
    ·have e1:Jp (goS s ins [cur,p])=(cur.1+cur.2)::Jp (goS s ins [(cur.1,cur.2+p.2)]):=by rw[f1,f2,Jq,Jq,Jq];exact JlX e _
     rw[e1,e2,Gp,Gp];omega (config:={})
   | cons q r =>
    have hn:=nx q rfl
    have f1:goS s ins (cur::p::q::r)=(cur.1+t,cur.2-t+0)::(p.1+u,p.2-u+min (ins+t+u) (q.1-p.1-p.2))::goS s (max 0 (ins+t+u-(q.1-p.1-p.2))) (q::r):=by rw[JV,ht,hl,hd,JV,hu]
    have f2:goS s ins ((cur.1,cur.2+p.2)::q::r)=(cur.1+(t+u),cur.2+p.2-(t+u)+min (ins+t+u) (q.1-p.1-p.2))::goS s (max 0 (ins+t+u-(q.1-p.1-p.2))) (q::r):=by rw[JV];dsimp only;rw[hm,show q.1-cur.1-(cur.2+p.2)=q.1-p.1-p.2 by omega (config:={}),show ins+(t+u)=ins+t+u by omega (config:={})]
    clear ht hl hd hu hm;have w0:0<=min (ins+t+u) (q.1-p.1-p.2):=by omega (config:={})
    generalize min (ins+t+u) (q.1-p.1-p.2)=v at w0 f1 f2
    refine⟨?_,?_⟩
    ·rw[i1,f1,f2,J3,J3,J3,<- LZ];exact WI (Jl2 e hz t1 (by omega (config:={})))
    ·have e1:Jp (goS s ins (cur::p::q::r))=(cur.1+cur.2)::Jp (goS s ins ((cur.1,cur.2+p.2)::q::r)):=by rw[f1,f2,Jq,Jq,Jq];exact JlX e _
     rw[e1,e2,Gp,Gp];omega (config:={})
  ·next e =>
   split
   ·next hpp =>
    obtain⟨q',e1,e2⟩:=WX r p;obtain⟨i1,i2⟩:=Jbc s x r p (max 0 (ins+min cur.2 (s-ins)-(p.1-cur.1-cur.2))) (by omega (config:={})) w.cons nx (by omega (config:={})) (by omega (config:={}))
    cases hcl:clF p r with
    | nil=>rw[hcl] at e1;cases e1
    | cons y l =>
     rw[hcl] at e1 i1 i2;have:y=q':=by simpa using e1
     subst this;rw[JV,JV,e2];refine⟨?_,?_⟩
     ·rw[J3,J3,i1]
     ·rw[Jq _ (goS s _ (p::r)),Jq cur (y::l),Jq _ (goS s _ (y::l)),Jq cur (p::r),Gp,Gp,Gp,Gp];omega (config:={})
   ·next hpp =>
    have hp0:p.2=0:=by omega (config:={})
    obtain⟨i1,i2⟩:=Jbc s x r cur ins hc w.cons (fun q e'=>by have:=nx q e';omega (config:={})) h0 h1;obtain⟨t,m,v,ht,hl,hd,hu,t0,t1,hz⟩:=bare hb hp0 hc h0 h1;have v0:0<=v:=by rcases hz with ⟨z1,z2,z3⟩|⟨z1,z2,z3⟩ <;> omega (config:={})
    have e2:(Jp (cur::p::r)).count x=(Jp (cur::r)).count x+(if p.1=x then 1 else 0):=by rw[Jq,Jq,Jq];exact Jpb (.inl ⟨rfl,by omega (config:={})⟩)
    cases r with
    | nil =>
     obtain⟨k1,k2,k3⟩:(m+0=0\/v=p.1-cur.1-cur.2)/\ins+t=v+(m+0)/\0<=m+0:=by rcases hz with ⟨z1,z2,z3⟩|⟨z1,z2,z3⟩ <;> omega (config:={})
     have f1:goS s ins [cur,p]=[(cur.1+t,cur.2-t+v),(p.1+0,p.2-0+(m+0))]:=by rw[JV,ht,hl,hd];show _::[(p.1+min p.2 (s-m),p.2-min p.2 (s-m)+(m+min p.2 (s-m)))]=_;rw[hu]
     have f2:goS s ins [cur]=[(cur.1+t,cur.2-t+(v+(m+0)))]:=by show [(cur.1+min cur.2 (s-ins),cur.2-min cur.2 (s-ins)+(ins+min cur.2 (s-ins)))]=_;rw[ht,k2]
     refine⟨?_,?_⟩
     ·rw[i1,f1,f2,J3,J3,J3,<- LZ];exact WI (Jl3 hp0 k1 k3 t1 v0)
     ·rw[show(Jp (goS s ins [cur,p])).count x=(Jp (goS s ins [cur])).count x+(if p.1=x then 1 else 0) by rw[f1,f2,Jq,Jq,Jq];exact JlY hp0 k1,e2]
      omega (config:={})
    | cons q r =>
     have hn:=nx q rfl
     obtain⟨y,y0,k1,k2,k3,k4⟩:∃y:Int,0<=y/\min (m+0) (q.1-p.1-p.2)=y/\min (ins+t) (q.1-cur.1-cur.2)=v+y/\max 0 (m+0-(q.1-p.1-p.2))=max 0 (ins+t-(q.1-cur.1-cur.2))/\(y=0\/v=p.1-cur.1-cur.2):=by
      rcases hz with ⟨z1,z2,z3⟩|⟨z1,z2,z3⟩
      ·subst z1 z2;exact⟨0,QK _,by omega (config:={}),by omega (config:={}),by omega (config:={}),.inl rfl⟩
      ·subst z1 z2;exact⟨_,by omega (config:={}),rfl,by omega (config:={}),by omega (config:={}),.inr rfl⟩
     have f1:goS s ins (cur::p::q::r)=(cur.1+t,cur.2-t+v)::(p.1+0,p.2-0+y)::goS s (max 0 (ins+t-(q.1-cur.1-cur.2))) (q::r):=by rw[JV,ht,hl,hd,JV,hu,k1,k3]
     have f2:goS s ins (cur::q::r)=(cur.1+t,cur.2-t+(v+y))::goS s (max 0 (ins+t-(q.1-cur.1-cur.2))) (q::r):=by rw[JV,ht,k2]
     refine⟨?_,?_⟩
     ·rw[i1,f1,f2,J3,J3,J3,<- LZ];exact WI (Jl3 hp0 k4 y0 t1 v0)
     ·rw[show(Jp (goS s ins (cur::p::q::r))).count x=(Jp (goS s ins (cur::q::r))).count x+(if p.1=x then 1 else 0) by rw[f1,f2,Jq,Jq,Jq];exact JlY hp0 k4,e2]
      omega (config:={})
theorem JdD(s x:Int)(hs:0<=s):∀(ps:List Pr),Wide 0 ps->Yf (goS s 0 (clN ps)) x=Yf (goS s 0 ps) x/\(Jp (goS s 0 ps)).count x+(Jp (clN ps)).count x=(Jp (goS s 0 (clN ps))).count x+(Jp ps).count x
 | [],_=>⟨rfl,rfl⟩
 | p::r,w=>by
  have hp:=w.one 0 p rfl;rw[clN];split
  ·next h=>exact Jbc s x r p 0 hp w.cons (fun q e=>by have:=w.gap 0 p q rfl (by simpa using e);omega) (QK _) hs
  ·next h =>
   have hp0:p.2=0:=by omega
   obtain⟨i1,i2⟩:=JdD s x hs r w.cons
   have e:goS s 0 (p::r)=p::goS s 0 r:=by
    cases r with
    | nil =>
     show [(p.1+min p.2 (s-0),p.2-min p.2 (s-0)+(0+min p.2 (s-0)))]=[p]
     congr 1;exact Lw (by dsimp only;omega) (by dsimp only;omega)
    | cons q r=>have:=w.gap 0 p q rfl rfl;rw[JV,show max 0 (0+min p.2 (s-0)-(q.1-p.1-p.2))=0 by omega];congr 1;exact Lw (by dsimp only;omega) (by dsimp only;omega)
   rw[e];refine⟨?_,?_⟩
   ·rw[i1,J3,show inI p.1 (p.1+p.2) x=false by
     cases c:inI p.1 (p.1+p.2) x with
     | false=>rfl
     | true=>rw[inI_t] at c;omega]
    rfl
   ·rw[Jq,Jq p r,Gp,Gp];omega
theorem Jfd(d:Int)(ps:List Pr):Jp (mvP d ps)=(Jp ps).map (·-d):=by unfold Jp mvP;rw[QO,QO];exact GD fun p _=>by show p.1-d+p.2=p.1+p.2-d;omega
theorem Jkz{c d:Int}{ps:List Pr}(w:Wide c (mvP d ps)):Wide c ps:=by refine⟨fun i p e=>w.one i (p.1-d,p.2) (by unfold mvP;rw[Qo,e];rfl),fun i p q e1 e2=>?_⟩;have:=w.gap i (p.1-d,p.2) (q.1-d,q.2) (by unfold mvP;rw[Qo,e1];rfl) (by unfold mvP;rw[Qo,e2];rfl);dsimp only at this;omega
theorem Jmo{s:Int}(hs:1<=s){ps:List Pr}(g:Good ps):thF (goS s 0 ps)=mvP (-1) (goS (s-1) 0 (thF ps)):=by
 have g1:=(WD (s:=s) ps 0 g (QK _) (by omega)).1
 have e:byF (-1) (goS s 0 ps)=mvP (-1) (goS (s-1) 0 (byF (-1) ps)):=by rw[<- Wv,<- Wv];exact JhG s ps 0 0 g (QK _) (by omega)
 have w1:Wide 0 (goS (s-1) 0 (byF (-1) ps)):=by have:Wide (1+-1) (byF (-1) (goS s 0 ps)):=(YE g1).bys (k:=-1);rw[e] at this;exact Jkz this
 have w0:Wide 0 (byF (-1) ps):=by
  have z:Wide (1+-1) (byF (-1) ps):=(YE g).bys (k:=-1)
  rwa [show(1:Int)+-1=0 by decide] at z
 have gt:=JZ g
 have g2:Good (goS (s-1) 0 (thF ps)):=by
  by_cases h:s-1=0
  ·rw[h,Jbd _ ((YE gt).mono (by omega))];exact gt
  ·exact(WD (s:=s-1) (thF ps) 0 gt (QK _) (by omega)).1
 have key:clN (goS (s-1) 0 (byF (-1) ps))=goS (s-1) 0 (thF ps):=by
  refine JeY (WY _ w1) g2 fun x=>?_
  rw[Jew x _ fun p hp=>by obtain⟨i,hi,rfl⟩:=Gv.mp hp;exact w1.one i _ (by simp)]
  exact(JdD (s-1) x (by omega) (byF (-1) ps) w0).1.symm
 show clN (byF (-1) (goS s 0 ps))=_;rw[e,JdT,key]
theorem Jqp{s:Int}(hs:1<=s){ps:List Pr}(g:Good ps)(x:Int):(spF (goS s 0 ps)).count (x+1)+(Jp (thF ps)).count x=(Jp (thF (goS s 0 ps))).count (x+1)+(spF ps).count x:=by
 have w0:Wide 0 (byF (-1) ps):=by
  have z:Wide (1+-1) (byF (-1) ps):=(YE g).bys (k:=-1)
  rwa [show(1:Int)+-1=0 by decide] at z
 have e:byF (-1) (goS s 0 ps)=mvP (-1) (goS (s-1) 0 (byF (-1) ps)):=by rw[<- Wv,<- Wv];exact JhG s ps 0 0 g (QK _) (by omega)
 have sb:∀q:List Pr,spF q=Jp (byF (-1) q):=fun q=>by
  have z:=JiX (-1) q
  rwa [show(-1:Int)+1=0 by omega,Ww] at z
 have cm:∀l:List Int,(l.map (· - -1)).count (x+1)=l.count x:=fun l=>by
  induction l with
  | nil=>rfl
  | cons y l ih =>
   rw[Qg,Gp,Gp,ih];congr 1
   by_cases h:y=x
   ·subst h;simp
   ·rw[if_neg (by simpa using h),if_neg (by simp;omega)]
 have k:=(JdD (s-1) x (by omega) (byF (-1) ps) w0).2;rw[sb,e,Jfd,cm,Jmo hs g,Jfd,cm,sb ps];exact k
theorem JhZ:∀{a b:List Pr},(a.map (·.1)).Pairwise (·<·)->(b.map (·.1)).Pairwise (·<·)->(∀p∈a,1<=p.2)->(∀p∈b,1<=p.2)->(∀x,lk x a=lk x b)->a=b
 | [],[],_,_,_,_,_=>rfl
 | [],q::b,_,_,_,h,e=>by
  have:=e q.1;rw[lk,lk,if_pos rfl] at this
  have:=h q Qh;omega
 | p::a,[],_,_,h,_,e=>by
  have:=e p.1;rw[lk,lk,if_pos rfl] at this
  have:=h p Qh;omega
 | p::a,q::b,ha,hb,h1,h2,e=>by
  rw[Qg,QP] at ha hb
  have out:∀{l:List Pr} {x:Int},(∀y∈l.map (·.1),x<y)->lk x l=0:=fun {l x} h=>by
   induction l with
   | nil=>rfl
   | cons r l ih=>rw[lk,if_neg fun z=>by have:=h r.1 (by simp);omega];exact ih fun y hy=>h y (by rw[Qg];exact Qf _ hy)
  have hp:=h1 p Qh
  have hq:=h2 q Qh
  have ek:p.1=q.1:=by
   rcases Int.lt_trichotomy p.1 q.1 with z|z|z
   ·have:=e p.1;rw[lk,if_pos rfl,lk,if_neg (by omega),out fun y hy=>by have:=hb.1 y hy;omega] at this;omega
   ·exact z
   ·have:=e q.1;rw[lk,if_neg (by omega),lk,if_pos rfl,out fun y hy=>by have:=ha.1 y hy;omega] at this;omega
  have ev:p.2=q.2:=by have:=e p.1;rw[lk,if_pos rfl,lk,if_pos ek.symm] at this;exact this
  have:p=q:=Lw ek ev;subst this;rw[JhZ ha.2 hb.2 (fun r hr=>h1 r (Qf _ hr)) (fun r hr=>h2 r (Qf _ hr)) fun x=>?_]
  have:=e x;rw[lk,lk] at this
  by_cases c:p.1=x
  ·subst c;rw[out ha.1,out hb.1]
  ·rwa [if_neg c,if_neg c] at this
theorem Je5:∀{a:List Pr} {x:Int},x∉a.map (·.1)->lk x a=0
 | [],_,_=>rfl
 | p::r,x,h=>by rw[lk,if_neg fun z=>h (by rw[<- z];simp)];exact Je5 fun m=>h (by rw[Qg];exact Qf _ m)
theorem Jks{a:List Pr}(hn:(a.map (·.1)).Nodup)(h:∀p∈a,1<=p.2)(x:Int):lk x a=((JA a).count x:Int):=by
 rw[Ve,Jfe (fun p=>((p.2.toNat:Nat):Int)) hn];split
 ·next m=>obtain⟨p,hp,e⟩:=QN.mp m;subst e;rw[JdM hn hp];have:=h p hp;dsimp only;omega
 ·next m=>exact Je5 m
theorem Jbz(l:List Tr):(Wt l).map (·.1)=l.map (·.2.1):=by unfold Wt;rw[QO];rfl
theorem Jh0{q:List Pr}(g:Good q)(k x:Int):lk x (Wt (JY k q))+((Jp (thF q)).count x:Int)=((spF q).count x:Int):=by
 have pw:=WG g k;rw[Jks (by rw[Jbz];exact pw.imp fun {a b} h=>by omega) fun p hp=>by obtain⟨u,hu,e⟩:=QN.mp hp;rw[<- e];exact WH hu]
 have:=((JB (Jp (thF q)++JA (Wt (JY k q)))).count_eq x)
 rw[JgN g k,LS] at this;omega
theorem Jnh{s:Int}(hs:1<=s){ps:List Pr}(g:Good ps)(k:Int):JY k (goS s 0 ps)=(JY k ps).map fun t=>(t.1,t.2.1+1,t.2.2):=by
 have g1:=(WD (s:=s) ps 0 g (QK _) (by omega)).1
 have pr:Wt (JY k (goS s 0 ps))=(Wt (JY k ps)).map fun p=>(p.1+1,p.2):=by
  have pw:=WG g k
  have pk:(((Wt (JY k ps)).map fun p=>(p.1+1,p.2)).map (·.1))=((JY k ps).map (·.2.1)).map (·+1):=by rw[<- Jbz,QO,QO];rfl
  refine JhZ (by rw[Jbz];exact WG g1 k) (by
   rw[pk,Lh];exact pw.imp fun {a b} h=>by omega) (fun p hp=>by
   obtain⟨u,hu,e⟩:=QN.mp hp;rw[<- e];exact WH hu) (fun p hp=>by
   obtain⟨q,hq,e⟩:=QN.mp hp;obtain⟨u,hu,e'⟩:=QN.mp hq;rw[<- e,<- e'];exact WH hu) fun x=>?_
  have sh:∀a:List Pr,lk x (a.map fun p=>(p.1+1,p.2))=lk (x-1) a:=fun a=>by
   induction a with
   | nil=>rfl
   | cons p r ih =>
    rw[Qg,lk,lk,ih];dsimp only
    by_cases c:p.1+1=x
    ·rw[if_pos c,if_pos (by omega)]
    ·rw[if_neg c,if_neg (by omega)]
  rw[sh];have e1:=Jh0 g1 k x;have e2:=Jh0 g k (x-1);have e3:=Jqp hs g (x-1);rw[show x-1+1=x by omega] at e3;omega
 have back:∀l:List Tr,(∀t∈l,t.1=k)->l=(Wt l).map fun p=>(k,p.1,p.2):=fun l h=>by
  unfold Wt;rw[QO];refine(List.map_id' l).symm.trans (GD fun t ht=>?_);show t=(k,t.2.1,t.2.2)
  rw[<- h t ht]
 rw[back (JY k (goS s 0 ps)) fun t ht=>Ui ht,pr,QO]
 conv=>rhs;rw[back (JY k ps) fun t ht=>Ui ht]
 rw[QO];rfl
theorem Jmn:∀(n:Nat) (k s:Int) {ps:List Pr},Good ps->0<=s->tbN n k (goS s 0 ps)=(tbN n k ps).map fun t=>(t.1,t.2.1+min (t.1-k) s,t.2.2)
 | 0,_,_,_,_,_=>rfl
 | n+1,k,s,ps,g,hs=>by
  by_cases h0:s=0
  ·subst h0;rw[Jbd ps ((YE g).mono (by omega))];refine(List.map_id' _).symm.trans (GD fun t ht=>?_);have:=JbQ _ _ _ t ht;show t=(t.1,t.2.1+min (t.1-k) 0,t.2.2)
   rw[show min (t.1-k) 0=0 by omega,R8]
  ·have h1:1<=s:=by omega
   rw[tbN,tbN,Q0,Jnh h1 g,Jmo h1 g,Jma,Jmn n (k+1) (s-1) (JZ g) (by omega),QO];congr 1
   ·refine GD fun t ht=>?_
    rw[Ui ht,show min (k+1-k) s=1 by omega]
   ·refine GD fun t ht=>?_
    have:=JbQ _ _ _ t ht
    show(t.1,t.2.1+min (t.1-(k+1)) (s-1) - -1,t.2.2)=(t.1,t.2.1+min (t.1-k) s,t.2.2)
    rw[show t.2.1+min (t.1-(k+1)) (s-1) - -1=t.2.1+min (t.1-k) s by omega]
noncomputable def tkF(seats:Option Int)(l ins:Int):Int:=match seats with
 | none=>l
 | some s=>min l (s-ins)
noncomputable def goF(seats:Option Int):Int->List Pr->List Pr
 | _,[]=>[]
 | ins,[p]=>[(p.1+tkF seats p.2 ins,p.2-tkF seats p.2 ins+(ins+tkF seats p.2 ins))]
 | ins,p::q::r=>(p.1+tkF seats p.2 ins,p.2-tkF seats p.2 ins+min (ins+tkF seats p.2 ins) (q.1-p.1-p.2))::goF seats (ins+tkF seats p.2 ins-min (ins+tkF seats p.2 ins) (q.1-p.1-p.2)) (q::r)
noncomputable def VL:Option Int->D
 | none=>.non
 | some s=>.int s
noncomputable def OkS(seats:Option Int):Prop:=∀s,seats=some s->1<=s
noncomputable def Sts(seats:Option Int)(s m:Int):Prop:=seats=some s\/(seats=none/\m<=s)
theorem JlD(a g:Int):a-min a g=max 0 (a-g):=by
 rcases Rg a g with h|h
 ·rw[L9 h,Int.max_eq_left (by omega),Int.sub_self]
 ·rw[LX h,Int.max_eq_right (by omega)]
theorem JeW{seats:Option Int}{s:Int}:∀(ps:List Pr) (ins:Int),Good ps->0<=ins->ins<=s->Sts seats s (ins+(ps.map (·.2)).sum)->goF seats ins ps=goS s ins ps
 | [],_,_,_,_,_=>rfl
 | [p],ins,g,h0,h1,hs=>by
  have e:tkF seats p.2 ins=min p.2 (s-ins):=by
   rcases hs with z|⟨z,y⟩
   ·rw[z];rfl
   ·rw[z];simp at y;show p.2=_;omega
  show [(p.1+tkF seats p.2 ins,p.2-tkF seats p.2 ins+(ins+tkF seats p.2 ins))]=_;rw[e];rfl
 | p::q::r,ins,g,h0,h1,hs=>by
  have hp:=g.one 0 p rfl
  have hg:=g.gap 0 p q rfl rfl
  have al:0<=((q::r).map (·.2)).sum:=by have:=JbP (Good.all (Good.cons' g));omega
  have e:tkF seats p.2 ins=min p.2 (s-ins):=by
   rcases hs with z|⟨z,y⟩
   ·rw[z];rfl
   ·rw[z];rw[Qg,Qy] at y;show p.2=_;omega
  have t1:=Int.min_le_left p.2 (s-ins)
  have t2:=LY p.2 (s-ins)
  have ih:=JeW (seats:=seats) (s:=s) (q::r) (max 0 (ins+min p.2 (s-ins)-(q.1-p.1-p.2))) (Good.cons' g) (Ro _ _) (RX.mpr ⟨by omega,by omega⟩) (by
   rcases hs with z|⟨z,y⟩
   ·exact .inl z
   ·refine .inr ⟨z,?_⟩;rw[Qg,Qy] at y;have:=RX (a:=0) (b:=ins+min p.2 (s-ins)-(q.1-p.1-p.2)) (c:=s-((q::r).map (·.2)).sum) |>.mpr ⟨by omega,by omega⟩;omega)
  show(p.1+tkF seats p.2 ins,p.2-tkF seats p.2 ins+min (ins+tkF seats p.2 ins) (q.1-p.1-p.2))::goF seats (ins+tkF seats p.2 ins-min (ins+tkF seats p.2 ins) (q.1-p.1-p.2)) (q::r)=_;rw[e,JV,<- ih,JlD (ins+min p.2 (s-ins))]
theorem Jkw(ns:List Int)(at' many span:Int)(h1:0<=at')(h2:0<=many)(h3:many<=1000)(h4:0<span) :
 JJ [.sh (.fz (ns.map .int)),.sh (.int at'),.sh (.int many),.sh (.int span)]=some (.own ((spr ns at' span (cell ns at' % (2*span+1)-span) many.toNat).2.map prE)):=by
 unfold JJ;walk_at "ev";rw[Zm _ _ h1];walk_at "ev";rw[Jq1,G6];refine Jh2 (fun i E=>∃j6 j7,E=[Sl.sh (D.fz (ns.map .int)),Sl.sh (D.int at'),Sl.sh (D.int many),Sl.sh (D.int span),Sl.sh (D.int (spr ns at' span (cell ns at' % (2*span+1)-span) i).1),Sl.own ((spr ns at' span (cell ns at' % (2*span+1)-span) i).2.map prE),j6,j7]) ⟨.no,.no,rfl⟩ ?_ ?_
 ·rintro i E hi ⟨j6,j7,rfl⟩;have hl:=U2 ns at' span (cell ns at' % (2*span+1)-span) i;walk_at "ev";rw[Zm _ _ (by omega)];walk_at "ev";rw[Zm _ _ (by omega)];walk_at "ev";simp only[spr,Q0,Qg,K5];exact⟨_,_,rfl⟩
 ·rintro E' ⟨j6,j7,rfl⟩;walk_at "ev"
noncomputable def wt(n:Int):List Pr->Int
 | []=>0
 | p::xs=>(if p.1=n then p.2 else 0)+wt n xs
noncomputable def WO:Int->List Pr->Prop
 | _,[]=>True
 | k,p::xs=>k<p.1/\1<=p.2/\WO p.1 xs
theorem Vp:∀(xs:List Pr) (k n:Int),WO k xs->n<=k->wt n xs=0
 | [],_,_,_,_=>rfl
 | p::xs,k,n,h,hn=>by obtain⟨h1,_,h3⟩:=h;rw[wt,if_neg (by omega),Vp xs p.1 n h3 (by omega)];rfl
theorem Jji:∀(xs ys:List Pr) (k:Int),WO k xs->WO k ys->(∀n,k<n->wt n xs=wt n ys)->xs=ys
 | [],[],_,_,_,_=>rfl
 | [],q::ys,k,_,h,e=>by
  have:=e q.1 h.1;rw[wt,wt,if_pos rfl,Vp ys q.1 q.1 h.2.2 (by omega)] at this
  have:=h.2.1;omega
 | p::xs,[],k,h,_,e=>by
  have:=e p.1 h.1;rw[wt,wt,if_pos rfl,Vp xs p.1 p.1 h.2.2 (by omega)] at this
  have:=h.2.1;omega
 | p::xs,q::ys,k,hx,hy,e=>by
  have e1:=e p.1 hx.1
  have e2:=e q.1 hy.1
  have lx:=Vp xs p.1 p.1 hx.2.2 (by omega)
  have ly:=Vp ys q.1 q.1 hy.2.2 (by omega)
  have px:=hx.2.1
  have py:=hy.2.1;rw[wt,wt,if_pos rfl] at e1;rw[wt,wt,if_pos rfl] at e2
  have h1:p.1=q.1:=by
   by_cases a:p.1<q.1
   ·have:=Vp ys q.1 p.1 hy.2.2 (by omega);rw[if_neg (by omega)] at e1;omega
   ·by_cases b:q.1<p.1
    ·have:=Vp xs p.1 q.1 hx.2.2 (by omega);rw[if_neg (by omega)] at e2;omega
    ·omega
  rw[if_pos h1.symm] at e1;have l2:wt p.1 ys=0:=by rw[h1];exact ly
  have h2:p.2=q.2:=by omega
  have t:xs=ys:=Jji xs ys p.1 hx.2.2 (by rw[h1];exact hy.2.2) fun n hn=>by have:=e n (by have:=hx.1;omega);rw[wt,wt,if_neg (by omega),if_neg (by omega)] at this;omega
  rw[t,show p=q from Lw h1 h2]
theorem Jdk:∀(xs:List Pr) (k:Int),(xs.map (·.1)).Pairwise (·<·)->(∀p∈xs,k<p.1)->(∀p∈xs,1<=p.2)->WO k xs
 | [],_,_,_,_=>trivial
 | p::xs,k,h,h1,h2=>by rw[Qg,QP] at h;exact⟨h1 p Qh,h2 p Qh,Jdk xs p.1 h.2 (fun q hq=>h.1 q.1 (List.mem_map_of_mem hq)) fun q hq=>h2 q (Qf _ hq)⟩
theorem Jb0(s v:Int)(hv:1<=v):∀a:List Pr,(∀p∈a,1<=p.2)->∀p∈YM a s v,1<=p.2
 | [],_,p,hp=>by rw[YM,GN] at hp;rw[hp];exact hv
 | q::r,h,p,hp=>by
  have hq:=h q Qh;rw[YM] at hp;split at hp
  ·rcases Qk.mp hp with e|e
   ·rw[e];show 1<=q.2+v;omega
   ·exact h p (Qf _ e)
  ·rcases Qk.mp hp with e|e
   ·rw[e];exact hq
   ·exact Jb0 s v hv r (fun x hx=>h x (Qf _ hx)) p e
theorem Jda:∀(tb:List Tr) (a:List Pr),(∀t∈tb,1<=t.2.2)->(∀p∈a,1<=p.2)->∀p∈Yg tb a,1<=p.2
 | [],a,_,h,p,hp=>h p hp
 | t::tb,a,ht,h,p,hp=>Jda tb (YM a t.1 t.2.2) (fun u hu=>ht u (Qf _ hu)) (Jb0 t.1 t.2.2 (ht t Qh) a h) p hp
theorem JfQ{ps:List Pr}(g:Good ps)(N:Nat)(ht:∀t∈tbN N 0 ps,1<=t.1/\1<=t.2.2):WO 0 (Yg (tbN N 0 ps) []):=by
 refine Jdk _ 0 (Jee N 0 ps [] g List.Pairwise.nil (fun x hx=>absurd hx GQ)).1 (fun p hp=>?_) (Jda _ [] (fun t h=>(ht t h).2) (fun p h=>absurd h GQ));rcases Jc9 _ [] p hp with ⟨t,h1,h2⟩|z
 ·have:=(ht t h1).1;omega
 ·exact absurd z GQ
theorem Ji9:∀(n:Nat) (k:Int) (qs:List Pr),0<=k->∀t∈tbN n k qs,1<=t.1/\1<=t.2.2
 | 0,_,_,_,t,h=>absurd h GQ
 | n+1,k,qs,hk,t,h=>by
  rw[tbN] at h;rcases GF.mp h with h|h
  ·unfold JY at h;obtain⟨u,hu,rfl⟩:=QN.mp h;have:=of_decide_eq_true (KF.mp hu).2;exact⟨by show 1<=k+1;omega,by show 1<=u.2.1-u.2.2;omega⟩
  ·exact Ji9 n (k+1) (thF qs) (by omega) t h
theorem Wu{ps:List Pr}(g:Good ps)(N:Nat):WO 0 (Yg (tbN N 0 ps) []):=JfQ g N (Ji9 N 0 ps (QK _))
noncomputable def apT(tb:List Tr):List Pr:=tb.flatMap fun t=>QA t.2.2.toNat (t.1,t.2.1)
theorem Jg8:∀{r:List Tr} {b:Pr},Jdj (some b) r->∀u∈r,b.1<u.1\/(b.1=u.1/\b.2<u.2.1)
 | [],_,_,_,h=>by cases h
 | t::r,b,h,u,hu=>by
  obtain⟨h1,h2,h3,h4⟩:=h;have h5:=h3 b rfl;rcases Qk.mp hu with z|z
  ·subst z;exact h5
  ·have:=Jg8 h4 u z;dsimp only at this;omega
theorem JcF:∀(l:List Pr),(l.map (·.1)).Pairwise (·<·)->(JA l).Pairwise (·<=·)
 | [],_=>List.Pairwise.nil
 | p::l,h=>by rw[Qg] at h;obtain⟨h1,h2⟩:=QP.mp h;unfold JA;rw[Kh];refine Kc.mpr ⟨M5.mpr (.inr (QK _)),JcF l h2,fun a ha b hb=>?_⟩;obtain⟨_,rfl⟩:=LG.mp ha;obtain⟨q,hq,hb⟩:=M6.mp hb;obtain⟨_,rfl⟩:=LG.mp hb;exact Int.le_of_lt (h1 _ (List.mem_map_of_mem hq))
noncomputable def lnF:Int->List Pr->List Pr
 | _,[]=>[]
 | c,q::r=>(q.1,q.2+2*c)::lnF (c+q.1) r
theorem JdN:∀(l:List Pr) (c:Int),(lnF c l).length=l.length
 | [],_=>rfl
 | _::r,c=>by rw[lnF,Qv,Qv,JdN r]
theorem JdO:∀(l:List Pr) (c:Int),(lnF c l).map (·.1)=l.map (·.1)
 | [],_=>rfl
 | q::r,c=>by rw[lnF,Qg,Qg,JdO r]
theorem Jg6{tb:List Tr}{x:Pr}(h:x∈apT tb):∃t∈tb,x=(t.1,t.2.1):=by obtain⟨t,ht,hx⟩:=M6.mp h;exact⟨t,ht,(LG.mp hx).2⟩
theorem Jg5:∀(tb:List Tr),(∀t∈tb,1<=t.2.2)->((apT tb).length:Int)=Uz tb
 | [],_=>rfl
 | t::tb,h=>by
  have ih:=Jg5 tb fun u hu=>h u (Qf _ hu)
  have h1:=h t Qh;unfold apT Uz at ih ⊢;rw[Kh,Qz,GB,Qg,Qy,<- ih];omega
noncomputable def JpJ(q r:Pr):Prop:=q.1<r.1\/(q.1=r.1/\q.2<=r.2)
theorem JaS:∀{tb:List Tr} {o:Option Pr},Jdj o tb->(apT tb).Pairwise JpJ
 | [],_,_=>List.Pairwise.nil
 | t::tb,o,h=>by unfold apT;rw[Kh];refine Kc.mpr ⟨M5.mpr (.inr (.inr ⟨rfl,QK _⟩)),JaS h.2.2.2,fun a ha b hb=>?_⟩;obtain⟨_,rfl⟩:=LG.mp ha;obtain⟨u,hu,rfl⟩:=Jg6 (tb:=tb) hb;have:=Jg8 h.2.2.2 u hu;simp only at this;show t.1<u.1\/(t.1=u.1/\t.2.1<=u.2.1);omega
theorem Jen:∀(tb:List Tr) (L:List Pr),tb.foldl (fun L t=>L++QA t.2.2.toNat ((t.1,t.2.1):Pr)) L=L++apT tb
 | [],L=>by simp[apT]
 | t::tb,L=>by rw[Gd,Jen tb];unfold apT;rw[Kh,Gh]
theorem Je8(ps:List Pr)(N:Nat)(g:Good ps)(h:ps.length<=30)(hN:thN N ps=[]):JM [.sh (.row (ps.map prE))]=some (.own ((apT (tbN N 0 ps)).map prE)):=by
 have asc:=Va N 0 ps none g (QK _) (fun b e=>by cases e)
 have ns:=JbR N 0 g hN
 have nm:∀t∈tbN N 0 ps,1<=t.2.2:=fun t ht=>(Vq asc t ht).2
 unfold JM;walk_at "ev";rw[Jfa ps N g h hN];walk_at "ev";rw[G6];refine Yp (fun(rest:List Tr) (L:List Pr) E=>∃j2 j3 j4,E=[.sh (.row (ps.map prE)),.own (L.map prE),j2,j3,j4]/\(L.length:Int)+Uz rest<=30/\∀t∈rest,1<=t.2.2) (fun L t=>L++QA t.2.2.toNat (t.1,t.2.1)) [] ⟨.no,.no,.no,rfl,by rw[ns];simp;omega,nm⟩ ?_ ?_
 ·rintro t rest L E ⟨j2,j3,j4,rfl,hz,hr⟩;have h1:=hr t Qh
  have hs:0<=Uz rest:=by have:=(Jic (tb:=rest) fun u hu=>hr u (Qf _ hu)).1;omega
  have hz':(L.length:Int)+(t.2.2+Uz rest)<=30:=by
   have e:Uz (t::rest)=t.2.2+Uz rest:=by unfold Uz;rw[Qg,Qy]
   rw[<- e];exact hz
  simp only[trE];walk_at "ev";rw[W4 (d:=D.tup [.int t.1,.int t.2.1]) rfl (Jbg ⟨by omega,by omega⟩) (by omega)];walk_at "ev";rw[GB,if_pos (by omega)];refine⟨.sh (.int t.1),.sh (.int t.2.1),.sh (.int t.2.2),?_,by rw[Qz,GB];omega,fun u hu=>hr u (Qf _ hu)⟩;rw[Q0,K8];rfl
 ·rintro E' ⟨j2,j3,j4,rfl,_,_⟩;rw[Jen,Q4];walk_at "ev"
theorem UC{ps:List Pr}{N:Nat}(g:Good ps)(hN:thN N ps=[]):(apT (tbN N 0 ps)).length=ps.length:=by
 have asc:=Va N 0 ps none g (QK _) (fun b e=>by cases e)
 have l1:=Jg5 _ fun t ht=>(Vq asc t ht).2
 have ns:=JbR N 0 g hN;omega
theorem Je7:∀(l:List Pr) (L:List Pr) (c:Int),l.foldl (fun(s:List Pr×Int) q=>(s.1++[((q.1,q.2+2*s.2):Pr)],s.2+q.1)) (L,c)=(L++lnF c l,c+(l.map (·.1)).sum)
 | [],L,c=>by simp[lnF]
 | q::r,L,c=>by rw[Gd,Je7 r,lnF,Qg,Qy];show(L++[((q.1,q.2+2*c):Pr)]++lnF (c+q.1) r,c+q.1+(r.map (·.1)).sum)=_;rw[Gh,RS];rfl
theorem Jnl(ps:List Pr)(N:Nat)(g:Good ps)(h:ps.length<=30)(hN:thN N ps=[]):Yj [.sh (.row (ps.map prE))]=some (.own ((lnF 0 (apT (tbN N 0 ps))).map prE)):=by
 have al:=UC g hN;unfold Yj;walk_at "ev";rw[Je8 ps N g h hN];walk_at "ev";rw[G6];refine Yp (fun(rest:List Pr) (s:List Pr×Int) E=>∃j3 j4,E=[.sh (.row (ps.map prE)),.own (s.1.map prE),.sh (.int s.2),j3,j4]/\s.1.length+rest.length<=30) (fun s q=>(s.1++[(q.1,q.2+2*s.2)],s.2+q.1)) ([],0) ⟨.no,.no,rfl,by rw[al];simpa using h⟩ ?_ ?_
 ·rintro q rest ⟨L,c⟩ E ⟨j3,j4,rfl,hz⟩;rw[Qv] at hz;simp only[prE] at hz ⊢;walk_at "ev";refine⟨.sh (.int q.1),.sh (.int q.2),?_,by rw[Qz];simp;omega⟩;rw[Q0];rfl
 ·rintro E' ⟨j3,j4,rfl,_⟩;rw[Je7];walk_at "ev"
theorem Jbo(ps:List Pr)(h:ps.length<=1000):J7 [.sh (.row (ps.map prE))]=some (.sh (.int (ps.map (·.2)).sum)):=by
 unfold J7;walk_at "ev";rw[Yx (g:=fun p=>D.int p.2)]
 ·walk_at "ev";rw[Vx (ns:=ps.map (·.2)) (by simp[Sl.q])];walk_at "ev"
 ·intro p hp;simp only[prE];walk_at "ev"
noncomputable def YY(ps:List Pr):Option Int->Int
 | none=>(ps.map (·.2)).sum
 | some s=>s
structure Stp where
 b:Int
 l:Int
 t:Int
 s:Int
noncomputable def JoB(x:Stp):D:=.tup [.int x.b,.int x.l,.int x.t,.int x.s]
noncomputable def stF(most:Int):Int->List (Pr×Int)->List Stp
 | _,[]=>[]
 | load,(p,g)::r=>⟨p.1,p.2,min p.2 (most-load),min (load+min p.2 (most-load)) g⟩::stF most (load+min p.2 (most-load)-min (load+min p.2 (most-load)) g) r
noncomputable def Wg(ps:List Pr)(seats:Option Int):List Stp:=stF (YY ps seats) 0 (KW ps (JR ps++[YY ps seats]))
theorem Jfz(most:Int):∀(l:List (Pr×Int)) (load:Int),(stF most load l).length=l.length
 | [],_=>rfl
 | (p,g)::r,load=>by rw[stF,Qv,Jfz most r];rfl
theorem JaK(ps:List Pr)(seats:Option Int):(Wg ps seats).length=ps.length:=by unfold Wg;rw[Jfz,Kk,Qz,UZ];simp;omega
theorem Jkv(seats:Option Int)(h:OkS seats):Yb [.sh (VL seats)]=some (.sh .non):=by
 unfold Yb
 cases seats with
 | none=>simp only[VL];walk_at "ev"
 | some s =>
  have:=h s rfl
  have h1:¬s<1:=by omega
  simp only[VL];walk_at "ev";simp only[h1];walk_at "ev"
theorem Jj0(p:Pr)(x y:D):JT (.sh (prE p)) (.sh (.tup [x,y]))=some (.sh (.tup [.int p.1,.int p.2,x,y])):=by simp[JT,prE,Jfw]
theorem Jkx(ps:List Pr)(seats:Option Int)(h:ps.length<=1000)(hs:OkS seats):UF [.sh (.row (ps.map prE)),.sh (VL seats)]=some (.own ((Wg ps seats).map JoB)):=by
 unfold UF;walk_at "ev";rw[Jkv _ hs];walk_at "ev"
 have hm:(if (VL seats).isNon=true then J7 [.sh (.row (ps.map prE))] else some (.sh (VL seats)))=some (.sh (.int (YY ps seats))):=by
  cases seats with
  | none=>exact Jbo ps h
  | some s=>rfl
 rw[hm];walk_at "ev";rw[Jh5 _ h];have hgl:=UZ ps;walk_at "ev";have e1:(JR ps).map D.int++[D.int (YY ps seats)]=(JR ps++[YY ps seats]).map D.int:=by simp
 rw[e1,JfO,G6];have hzl:(KW ps (JR ps++[YY ps seats])).length<=1000:=by rw[Kk];omega (config:={})
 refine Yp (f:=fun x:Pr×Int=>D.tup [prE x.1,.int x.2]) (fun(rest:List (Pr×Int)) (st:List Stp×Int) E=>∃j5 j6 j7 j8,E=[.sh (.row (ps.map prE)),.sh (VL seats),.sh (.int (YY ps seats)),.own (st.1.map JoB),.sh (.int st.2),j5,j6,j7,j8]/\st.1++stF (YY ps seats) st.2 rest=Wg ps seats/\st.1.length+rest.length<=1000)
  (fun st x=>(st.1++[⟨x.1.1,x.1.2,min x.1.2 (YY ps seats-st.2),min (st.2+min x.1.2 (YY ps seats-st.2)) x.2⟩],st.2+min x.1.2 (YY ps seats-st.2)-min (st.2+min x.1.2 (YY ps seats-st.2)) x.2)) ([],0) ⟨.no,.no,.no,.no,rfl,rfl,by simpa using hzl⟩ ?_ ?_
 ·rintro⟨p,g⟩ rest ⟨acc,load⟩ E ⟨j5,j6,j7,j8,rfl,e,hl⟩;have hl2:acc.length+(rest.length+1)<=1000:=hl;walk_at "ev";rw[Ja7];walk_at "ev";rw[Jj0];walk_at "ev";simp only[Q0,Qg,K5];exact⟨_,_,_,_,rfl,by rw[<- e,stF,Gh];rfl,by rw[Qz,Gi];omega (config:={})⟩
 ·rintro E' ⟨j5,j6,j7,j8,rfl,e,_⟩;walk_at "ev";rw[stF,GG] at e;rw[e]
noncomputable def Vm(x:Stp):Pr:=(x.b+x.t,x.l-x.t+x.s)
noncomputable def Uy(ps:List Pr)(seats:Option Int):List Pr:=(Wg ps seats).map Vm
theorem Jat{most:Int}(hm:1<=most):∀(ps:List Pr) (load:Int),Good ps->0<=load->load<=most ->
 Good ((stF most load (KW ps (JR ps++[most]))).map Vm)/\∀q,((stF most load (KW ps (JR ps++[most]))).map Vm)[0]?=some q->∀p,ps[0]?=some p->q.1=p.1+min p.2 (most-load)
 | [],load,_,_,_=>⟨Good.nil,fun q e=>by simp[JR,stF] at e⟩
 | [p],load,g,h0,h1=>by
  have hp:=g.one 0 p rfl;refine⟨Good.mk' ?_ (fun q e=>by simp[stF] at e) Good.nil,fun q e r er=>?_⟩
  ·show 1<=p.2-min p.2 (most-load)+min (load+min p.2 (most-load)) most;omega
  ·simp[JR,stF,Vm] at e er;subst er;rw[<- e]
 | p::q::r,load,g,h0,h1=>by
  have hp:=g.one 0 p rfl
  have hq:=g.one 1 q rfl
  have hg:=g.gap 0 p q rfl rfl
  have ih:=Jat hm (q::r) (load+min p.2 (most-load)-min (load+min p.2 (most-load)) (q.1-(p.1+p.2))) (Good.cons' g) (by omega) (by omega)
  have e0:(stF most load (KW (p::q::r) (JR (p::q::r)++[most]))).map Vm=Vm ⟨p.1,p.2,min p.2 (most-load),min (load+min p.2 (most-load)) (q.1-(p.1+p.2))⟩::(stF most (load+min p.2 (most-load)-min (load+min p.2 (most-load)) (q.1-(p.1+p.2))) (KW (q::r) (JR (q::r)++[most]))).map Vm:=rfl;rw[e0];refine⟨Good.mk' ?_ (fun q' e=>?_) ih.1,fun q' e p' ep=>?_⟩
  ·show 1<=p.2-min p.2 (most-load)+min (load+min p.2 (most-load)) (q.1-(p.1+p.2));omega
  ·have:=ih.2 q' e q rfl
   show p.1+min p.2 (most-load)+(p.2-min p.2 (most-load)+min (load+min p.2 (most-load)) (q.1-(p.1+p.2)))<q'.1;omega
  ·simp at e ep;subst ep;rw[<- e];rfl
theorem Zp{ps:List Pr}(g:Good ps)(seats:Option Int)(hs:OkS seats)(h:ps≠[]):1<=YY ps seats:=by
 cases seats with
 | some s=>exact hs s rfl
 | none =>
  cases ps with
  | nil=>exact absurd rfl h
  | cons p ps =>
   have h1:=g.one 0 p rfl
   have h2:0<=(ps.map (·.2)).sum:=by
    have al:=Good.all (Good.cons' g)
    clear h1 h g
    induction ps with
    | nil=>exact QK _
    | cons q ps ih =>
     have a1:=al q Qh
     have a2:=ih fun x hx=>al x (Qf _ hx)
     rw[Qg,Qy];omega
   show 1<=((p::ps).map (·.2)).sum;rw[Qg,Qy];omega
theorem W9{ps:List Pr}(g:Good ps)(seats:Option Int)(hs:OkS seats):Good (Uy ps seats):=by
 by_cases h:ps=[]
 ·subst h;exact Good.nil
 ·have:=Zp g seats hs h;exact(Jat this ps 0 g (QK _) (by omega)).1
theorem Jas(ps:List Pr)(seats:Option Int):(Uy ps seats).length=ps.length:=by unfold Uy;rw[Qq,JaK]
theorem Jnm(ps:List Pr)(seats:Option Int)(g:Good ps)(h:ps.length<=30)(hs:OkS seats):UY [.sh (.row (ps.map prE)),.sh (VL seats)]=some (.sh (.row ((Uy ps seats).map prE))):=by
 have hl:=JaK ps seats
 have hl2:=Jas ps seats;unfold UY;walk_at "ev";rw[Jkx _ _ (by omega) hs];walk_at "ev";rw[Yx (g:=fun x=>prE (Vm x))]
 ·walk_at "ev";have e:(Wg ps seats).map (fun x=>prE (Vm x))=(Uy ps seats).map prE:=by unfold Uy;rw[QO];rfl
  rw[e,WC rfl (W9 g seats hs) (by omega)];walk_at "ev"
 ·intro x _;simp only[JoB];walk_at "ev";rfl
noncomputable def JgZ(seats:Option Int)(most load:Int)(ps:List Pr):Prop:=0<=load/\load<=most/\(seats=some most\/(seats=none/\load+(ps.map (·.2)).sum<=most))
theorem JeM{seats:Option Int}{most load:Int}{p:Pr}{ps:List Pr}(f:JgZ seats most load (p::ps))(h:∀q∈ps,1<=q.2):tkF seats p.2 load=min p.2 (most-load):=by
 obtain⟨_,_,e|⟨e,hs⟩⟩:=f
 ·rw[e];rfl
 ·rw[e];show p.2=_
  have h0:0<=(ps.map (·.2)).sum:=by
   clear hs e
   induction ps with
   | nil=>exact QK _
   | cons q ps ih =>
    have a1:=h q Qh
    have a2:=ih fun x hx=>h x (Qf _ hx)
    rw[Qg,Qy];omega
  rw[Qg,Qy] at hs;omega
theorem Jgb{seats:Option Int}{most load s:Int}{p:Pr}{ps:List Pr}(f:JgZ seats most load (p::ps))(hp:1<=p.2)(h0:0<=s)(h1:s<=load+min p.2 (most-load)):JgZ seats most (load+min p.2 (most-load)-s) ps:=by obtain⟨f0,f1,e⟩:=f;refine⟨by omega,by omega,e.imp id fun⟨e,hs⟩=>⟨e,?_⟩⟩;rw[Qg,Qy] at hs;omega
theorem JhF{seats:Option Int}{most:Int}:∀(ps:List Pr) (load:Int),Good ps->JgZ seats most load ps->(stF most load (KW ps (JR ps++[most]))).map Vm=goF seats load ps
 | [],_,_,_=>rfl
 | [p],load,g,f=>by
  have hp:=g.one 0 p rfl
  have ht:=JeM f fun q hq=>nomatch hq
  obtain⟨f0,f1,_⟩:=f;show [Vm ⟨p.1,p.2,min p.2 (most-load),min (load+min p.2 (most-load)) most⟩]=_;rw[goF,ht];have:min (load+min p.2 (most-load)) most=load+min p.2 (most-load):=by omega
  simp[Vm,this]
 | p::q::r,load,g,f=>by
  have hp:=g.one 0 p rfl
  have hg:=g.gap 0 p q rfl rfl
  have ht:=JeM f (Good.all (Good.cons' g))
  have e1:q.1-(p.1+p.2)=q.1-p.1-p.2:=by omega
  have f':=Jgb (s:=min (load+min p.2 (most-load)) (q.1-p.1-p.2)) f hp (by obtain⟨f0,f1,_⟩:=f;omega) (by omega)
  have ih:=JhF (q::r) _ (Good.cons' g) f'
  show Vm ⟨p.1,p.2,min p.2 (most-load),min (load+min p.2 (most-load)) (q.1-(p.1+p.2))⟩::(stF most (load+min p.2 (most-load)-min (load+min p.2 (most-load)) (q.1-(p.1+p.2))) (KW (q::r) (JR (q::r)++[most]))).map Vm=_;rw[goF,ht,e1,ih];rfl
theorem Jpl{ps:List Pr}(g:Good ps)(seats:Option Int)(hs:OkS seats):JgZ seats (YY ps seats) 0 ps:=by
 cases seats with
 | some s=>have:=hs s rfl;exact⟨QK _,by show 0<=s;omega,.inl rfl⟩
 | none =>
  refine⟨QK _,?_,.inr ⟨rfl,by show 0+_<=(ps.map (·.2)).sum;omega⟩⟩
  by_cases h:ps=[]
  ·subst h;exact QK _
  ·have:=Zp g none hs h;omega
theorem JhE{ps:List Pr}(g:Good ps)(seats:Option Int)(hs:OkS seats):goF seats 0 ps=Uy ps seats:=(JhF ps 0 g (Jpl g seats hs)).symm
structure GoIx (most:Int) (ps:List Pr) (a t s:Nat->Int):Prop where
 ht:∀i p,ps[i]?=some p->t i=min p.2 (most-a i)
 hs:∀i p q,ps[i]?=some p->ps[i+1]?=some q->s i=min (a i+t i) (q.1-(p.1+p.2))
 hz:∀i p,ps[i]?=some p->ps[i+1]?=none->s i=min (a i+t i) most
 ha:∀i,i<ps.length->a (i+1)=a i+t i-s i
theorem Jl4{most:Int}:∀(ps:List Pr) (a t s:Nat->Int),GoIx most ps a t s->stF most (a 0) (KW ps (JR ps++[most]))=ps.mapIdx fun i p=>⟨p.1,p.2,t i,s i⟩
 | [],a,t,s,_=>rfl
 | [p],a,t,s,h=>by
  have h1:=h.ht 0 p rfl
  have h2:=h.hz 0 p rfl rfl
  show [(⟨p.1,p.2,min p.2 (most-a 0),min (a 0+min p.2 (most-a 0)) most⟩:Stp)]=[⟨p.1,p.2,t 0,s 0⟩]
  rw[<- h1,<- h2]
 | p::q::r,a,t,s,h=>by
  have h1:=h.ht 0 p rfl
  have h2:=h.hs 0 p q rfl rfl
  have h3:=h.ha 0 (by simp)
  have ih:=Jl4 (q::r) (fun i=>a (i+1)) (fun i=>t (i+1)) (fun i=>s (i+1)) ⟨fun i x e=>h.ht (i+1) x (by simpa using e),fun i x y e1 e2=>h.hs (i+1) x y (by simpa using e1) (by simpa using e2),fun i x e1 e2=>h.hz (i+1) x (by simpa using e1) (by simpa using e2),fun i hi=>h.ha (i+1) (by simp at hi ⊢;omega)⟩;rw[M4]
  show(⟨p.1,p.2,min p.2 (most-a 0),min (a 0+min p.2 (most-a 0)) (q.1-(p.1+p.2))⟩:Stp)::stF most (a 0+min p.2 (most-a 0)-min (a 0+min p.2 (most-a 0)) (q.1-(p.1+p.2))) (KW (q::r) (JR (q::r)++[most]))=_;rw[<- h1,<- h2,<- h3,ih]
noncomputable def sft(x:Int)(f:Nat->Int):Nat->Int
 | 0=>x
 | i+1=>f i
theorem Jl8{most:Int}:∀(ps:List Pr) (load:Int),∃a t s,a 0=load/\GoIx most ps a t s
 | [],load=>⟨fun _=>load,fun _=>0,fun _=>0,rfl,⟨fun i p e=>by simp at e,fun i p q e=>by simp at e,fun i p e=>by simp at e,fun i hi=>by simp at hi⟩⟩
 | p::ps,load=>by
  let t0:=min p.2 (most-load)
  let s0:=match ps[0]? with
   | some q=>min (load+t0) (q.1-(p.1+p.2))
   | none=>min (load+t0) most
  obtain⟨a,t,s,h0,h⟩:=Jl8 (most:=most) ps (load+t0-s0);refine⟨sft load a,sft t0 t,sft s0 s,rfl,⟨fun i x e=>?_,fun i x y e1 e2=>?_,fun i x e1 e2=>?_,fun i hi=>?_⟩⟩
  ·cases i with
   | zero=>simp at e;subst e;rfl
   | succ i=>exact h.ht i x (by simpa using e)
  ·cases i with
   | zero =>
    have e2':ps[0]?=some y:=by simpa using e2
    simp at e1;subst e1;show s0=min (load+t0) _;simp only[s0,e2']
   | succ i=>exact h.hs i x y (by simpa using e1) (by simpa using e2)
  ·cases i with
   | zero =>
    have e2':ps[0]?=none:=by simpa using e2
    simp at e1;subst e1;show s0=min (load+t0) most;simp only[s0,e2']
   | succ i=>exact h.hz i x (by simpa using e1) (by simpa using e2)
  ·cases i with
   | zero=>show a 0=load+t0-s0;exact h0
   | succ i=>exact h.ha i (by simpa using hi)
theorem Jl7{most:Int}{ps:List Pr}{a t s:Nat->Int}(g:Good ps)(h:GoIx most ps a t s)(h0:a 0=0)(hm:0<=most):∀i,i<=ps.length->0<=a i/\a i<=most
 | 0,_=>by rw[h0];omega
 | i+1,hi=>by
  obtain⟨b0,b1⟩:=Jl7 g h h0 hm i (by omega);have e:ps[i]?=some (ps[i]'(by omega)):=by simp
  have ht:=h.ht i _ e
  have ha:=h.ha i (by omega)
  have hp:=g.one i _ e
  cases en:ps[i+1]? with
  | none=>have hs:=h.hz i _ e en;omega
  | some q=>have hs:=h.hs i _ q e en;have:=g.gap i _ q e en;omega
theorem Jm4{most:Int}{ps:List Pr}{a t s:Nat->Int}(g:Good ps)(h:GoIx most ps a t s)(h0:a 0=0)(hm:0<=most):a ps.length=0:=by
 cases hn:ps.length with
 | zero=>exact h0
 | succ n =>
  have e:ps[n]?=some (ps[n]'(by omega)):=by simp
  have ht:=h.ht n _ e
  have ha:=h.ha n (by omega)
  have hs:=h.hz n _ e (by simp[hn]);obtain⟨b0,b1⟩:=Jl7 g h h0 hm n (by omega)
  have hp:=g.one n _ e;omega
theorem Jkf{most:Int}{ps:List Pr}{a t s:Nat->Int}(h:GoIx most ps a t s)(h0:a 0=0):(stF most 0 (KW ps (JR ps++[most]))).map Vm=ps.mapIdx fun i p=>(p.1+t i,p.2-t i+s i):=by
 rw[<- h0,Jl4 ps a t s h];refine Go fun j=>?_
 rw[Qo,QH,QH,Kf];rfl
theorem JhS{most:Int}:∀{ps:List Pr} {a t s:Nat->Int},GoIx most ps a t s->((ps.mapIdx fun i p=>((p.1+t i,p.2-t i+s i):Pr)).map (·.2)).sum=(ps.map (·.2)).sum-a ps.length+a 0
 | [],a,t,s,_=>by simp;omega
 | p::ps,a,t,s,h=>by
  have ih:=JhS (ps:=ps) (a:=fun i=>a (i+1)) (t:=fun i=>t (i+1)) (s:=fun i=>s (i+1)) ⟨fun i x e=>h.ht (i+1) x (by simpa using e),fun i x y e1 e2=>h.hs (i+1) x y (by simpa using e1) (by simpa using e2),fun i x e1 e2=>h.hz (i+1) x (by simpa using e1) (by simpa using e2),fun i hi=>h.ha (i+1) (by simp;omega)⟩
  have h3:=h.ha 0 (by simp);rw[M4,Qg,Qy,ih,Qg,Qy,Qv];dsimp only at ih h3 ⊢;rw[Mm] at h3;rw[Mm];omega
theorem JhI{ps:List Pr}(g:Good ps)(seats:Option Int)(hs:OkS seats):((Uy ps seats).map (·.2)).sum=(ps.map (·.2)).sum:=by
 by_cases h:ps=[]
 ·subst h;rfl
 ·have hm:=Zp g seats hs h;obtain⟨a,t,s,h0,hi⟩:=Jl8 (most:=YY ps seats) ps 0
  have e:Uy ps seats=ps.mapIdx fun i p=>(p.1+t i,p.2-t i+s i):=Jkf hi h0
  rw[e,JhS hi,Jm4 g hi h0 (by omega),h0];omega
noncomputable def Jhl(xs:List Int):List Pr:=(J1 (fM xs)).map fun x=>(x,(xs.count x:Int))
theorem JoA(xs:List Int):(J1 (fM xs)).Pairwise (·<·):=by
 have a:=Ul (fM xs)
 have b:(J1 (fM xs)).Pairwise (·≠·):=(JB (fM xs)).nodup_iff.mpr (Vw xs);exact(List.pairwise_and_iff.mpr ⟨a,b⟩).imp fun h=>by omega
theorem JbN(xs:List Int)(x:Int):x∈J1 (fM xs)↔x∈xs:=by rw[(JB (fM xs)).mem_iff,JhA]
theorem JjC{xs:List Int}(h:∀x∈xs,0<x):WO 0 (Jhl xs):=by
 unfold Jhl;refine Jdk _ 0 ?_ (fun p hp=>?_) (fun p hp=>?_)
 ·rw[QO];exact(List.map_id _).symm▸JoA xs
 ·obtain⟨x,hx,rfl⟩:=QN.mp hp;exact h x ((JbN xs x).mp hx)
 ·obtain⟨x,hx,rfl⟩:=QN.mp hp;have:=LF.mpr ((JbN xs x).mp hx);show(1:Int)<=(xs.count x:Int);omega
theorem Jjj(f:Int->Int)(n:Int):∀(l:List Int),l.Nodup->wt n (l.map fun x=>(x,f x))=if n∈l then f n else 0
 | [],_=>rfl
 | x::l,nd=>by
  obtain⟨h1,h2⟩:=Q6.mp nd;have ih:=Jjj f n l h2;rw[Qg,wt,ih]
  by_cases c:x=n
  ·subst c;simp[h1]
  ·have c':¬n=x:=fun e=>c e.symm
   simp[c,c']
theorem Jho(xs:List Int)(n:Int):wt n (Jhl xs)=(xs.count n:Int):=by
 unfold Jhl;rw[Jjj (fun x=>(xs.count x:Int)) n _ ((JB (fM xs)).nodup_iff.mpr (Vw xs))];split
 ·rfl
 ·rename_i c;rw[JbN] at c;rw[LD.mpr c];rfl
noncomputable def erL:Int->List Pr->List Pr
 | _,[]=>[]
 | c,q::r=>(q.1,q.2+2*q.1*c)::erL (c+1) r
theorem Jdt:∀(a b:List Pr) (c:Int),erL c (a++b)=erL c a++erL (c+(a.length:Int)) b
 | [],b,c=>by simp[erL]
 | q::a,b,c=>by rw[Gu,erL,erL,Jdt a b (c+1),Gu,Qv];congr 3;omega
theorem Jdu:∀(a:List Pr) (c:Int),(erL c a).length=a.length
 | [],_=>rfl
 | q::a,c=>by rw[erL,Qv,Qv,Jdu a]
theorem Jbm:∀(a b:List Pr) (c:Int),lnF c (a++b)=lnF c a++lnF (c+(a.map (·.1)).sum) b
 | [],b,c=>by simp[lnF]
 | q::a,b,c=>by rw[Gu,lnF,lnF,Jbm a b (c+q.1),Gu,Qg,Qy,RS]
theorem Ue:∀(l:List Pr),(Js l).length=l.length
 | []=>rfl
 | p::l=>by
  have im:∀(m:List Pr),(U4 p m).length=m.length+1:=fun m=>by
   induction m with
   | nil=>rfl
   | cons r m ih =>
    rw[U4];split
    ·rw[Qv,ih,Qv]
    ·rfl
  show(U4 p (Js l)).length=_;rw[im,Ue l,Qv]
theorem Ut:∀l:List Pr,(Js l).Perm l
 | []=>.refl _
 | p::l=>by
  have im:∀m:List Pr,(U4 p m).Perm (p::m):=fun m=>by
   induction m with
   | nil=>exact .refl _
   | cons q m ih =>
    rw[U4];split
    ·exact(ih.cons q).trans (.swap p q m)
    ·exact .refl _
  exact(im (Js l)).trans ((Ut l).cons p)
theorem Jdv:∀(l:List Pr) (c:Int),(erL c l).map (·.1)=l.map (·.1)
 | [],_=>rfl
 | q::l,c=>by rw[erL,Qg,Qg,Jdv l]
theorem Jeq:∀{l:List Pr},l.Pairwise JpJ->ZU l=true
 | [],_=>rfl
 | [p],_=>rfl
 | p::q::l,h=>by obtain⟨h1,h2⟩:=QP.mp h;rw[ZU,QX,Jeq h2];refine⟨decide_eq_true ?_,rfl⟩;rcases h1 q Qh with z|z <;> omega
theorem JlA{ps:List Pr}(h1:ps.length<64)(h2:ZU ps=true):Ja9 [.own (ps.map prE)]=some (.own ((Js ps).map prE)):=by show((prs? (ps.map prE)).bind fun ps=>if ps.length<64/\ZU ps=true then some (Sl.own ((Js ps).map prE)) else none)=_;rw[JbA,QV,if_pos ⟨h1,h2⟩]
theorem Jhy:∀(l:List Pr) (i:Nat),(l.zipIdx i).map (fun x=>((x.1.1,x.1.2+2*x.1.1*(x.2:Int)):Pr))=erL (i:Int) l
 | [],_=>rfl
 | q::l,i=>by rw[Lp,Qg,Jhy l (i+1),erL];rfl
theorem JjO(l:List Pr):l.zipIdx.map (fun x=>prE (x.1.1,x.1.2+2*x.1.1*(x.2:Int)))=(erL 0 l).map prE:=by have e:=Jhy l 0;rw[show((0:Nat):Int)=0 from rfl] at e;rw[<- e,QO];rfl
theorem Jnk(ps:List Pr)(N:Nat)(g:Good ps)(h:ps.length<=30)(hN:thN N ps=[]):JW [.sh (.row (ps.map prE))]=some (.own ((erL 0 (Js (apT (tbN N 0 ps)))).map prE)):=by
 have al:=UC g hN
 have asc:=Va N 0 ps none g (QK _) (fun b e=>by cases e)
 have fl:=Ue (apT (tbN N 0 ps));unfold JW;walk_at "ev";rw[Je8 ps N g h hN];walk_at "ev";rw[JlA (by omega) (Jeq (JaS asc))];walk_at "ev";rw[W2,WE,Yx (g:=fun x:Pr×Nat=>prE (x.1.1,x.1.2+2*x.1.1*(x.2:Int)))]
 ·rw[if_pos (by rw[Qq,List.length_zipIdx];omega)];walk_at "ev";rw[JjO]
 ·intro x hx
  have hx2:x.2<(Js (apT (tbN N 0 ps))).length:=by have:=ME hx;omega
  walk_at "ev";rw[Ja6,Ja7];walk_at "ev";rfl
theorem Jh6(l:List Pr)(h:l.length<=30):J2 [.sh (.lst (l.map prE)),.sh (.int (l.length:Int))]=some (.sh (.bl true)):=by
 unfold J2;walk_at "ev";rw[G6];refine Yp (fun(rest:List Pr) (_:Unit) E=>∃j2 j3,E=[.sh (.lst (l.map prE)),.sh (.int (l.length:Int)),j2,j3]) (fun _ _=>()) () ⟨.no,.no,rfl⟩ ?_ ?_
 ·rintro q rest _ E ⟨j2,j3,rfl⟩;simp only[prE];walk_at "ev";simp only[Y5];walk_at "ev";exact⟨_,_,rfl⟩
 ·rintro E' ⟨j2,j3,rfl⟩;walk_at "ev"
theorem Jg4(n:Int):∀(tb:List Tr),(∀t∈tb,1<=t.2.2)->(tb.map fun t=>t.2.2*(if t.1=n then 1 else 0)).sum=(((apT tb).map (·.1)).count n:Int)
 | [],_=>rfl
 | t::tb,h=>by
  have ih:=Jg4 n tb fun u hu=>h u (Qf _ hu)
  have h1:=h t Qh;unfold apT at ih ⊢;rw[Qg,Qy,ih,Kh,Q0,K8,LS,RN]
  by_cases c:t.1=n
  ·subst c;simp;omega
  ·simp[c]
theorem Jel(n:Int):∀(xs:List Pr),wt n xs=(xs.map fun p=>p.2*(if p.1=n then 1 else 0)).sum
 | []=>rfl
 | p::xs=>by rw[wt,Jel n xs,Qg,Qy];split <;> simp
theorem Jh3{ps:List Pr}(g:Good ps)(N:Nat):Yg (tbN N 0 ps) []=Jhl ((apT (tbN N 0 ps)).map (·.1)):=by
 have asc:=Va N 0 ps none g (QK _) (fun b e=>by cases e)
 have pos:∀x∈(apT (tbN N 0 ps)).map (·.1),0<x:=fun x hx=>by obtain⟨q,hq,rfl⟩:=QN.mp hx;obtain⟨t,ht,rfl⟩:=Jg6 hq;have:=(Vq asc t ht).1;show 0<t.1;omega
 refine Jji _ _ 0 (Wu g N) (JjC pos) fun n hn=>?_
 rw[Jho,Jel,ZO (fun x=>if x=n then 1 else 0),<- Jg4 n _ fun t ht=>(Vq asc t ht).2];simp
theorem JlB(xs:List Int):(J1 (fM xs)).length<=xs.length:=by rw[(JB _).length_eq];exact Jhz xs
noncomputable def gF:List Pr->List Int->List (List D)->List Int×List (List D)
 | [],ks,dss=>(ks,dss)
 | q::l,ks,dss=>gF l (Jz ks q.1) (UB ks dss q.1 (.int q.2))
theorem Jiu{k k0:Int}{ks:List Int}(h:k0≠k):Jz (k0::ks) k=k0::Jz ks k:=by unfold Jz YW;rw[GP,decide_eq_false h,Ko];split <;> rfl
theorem Jiv{k:Int}{ks:List Int}:Jz (k::ks) k=k::ks:=by unfold Jz YW;rw[GP,decide_eq_true rfl,Ra,if_pos rfl]
theorem Jab(k:Int)(d:D):∀(ks:List Int) (dss:List (List D)),ks.length=dss.length->(Jz ks k).length=(UB ks dss k d).length/\∀n,look (Jz ks k) (UB ks dss k d) n=if n=k then some ((look ks dss k).getD []++[d]) else look ks dss n
 | [],[],_=>⟨rfl,fun n=>by
  show(if k=n then some [d] else none)=_
  by_cases c:n=k
  ·rw[if_pos c.symm,if_pos c];rfl
  ·rw[if_neg fun z=>c z.symm,if_neg c];rfl⟩
 | [],_::_,h=>by simp at h
 | _::_,[],h=>by simp at h
 | k0::ks,x::xs,h=>by
  obtain⟨h1,h2⟩:=Jab k d ks xs (by simpa using h)
  by_cases c:k0=k
  ·subst c;rw[Jiv,UB,if_pos rfl];refine⟨by simpa using h,fun n=>?_⟩;simp only[look]
   by_cases c:n=k0
   ·rw[if_pos c.symm,if_pos c];simp
   ·rw[if_neg fun z=>c z.symm,if_neg c,if_neg fun z=>c z.symm]
  ·rw[Jiu c,UB,if_neg c];refine⟨by rw[Qv,Qv,h1],fun n=>?_⟩;simp only[look];rw[if_neg c,h2 n]
   by_cases c2:k0=n
   ·rw[if_pos c2,if_pos c2,if_neg fun z=>c (c2.trans z)]
   ·rw[if_neg c2,if_neg c2]
theorem JkW(ks:List Int)(k n:Int):n∈Jz ks k↔n∈ks\/n=k:=by
 unfold Jz;split
 ·next h=>unfold YW at h;obtain⟨x,hx,e⟩:=Km.mp h;have e:x=k:=of_decide_eq_true e;exact⟨.inl,fun z=>z.elim id fun z=>by rw[z,<- e];exact hx⟩
 ·simp
theorem JnS{ks:List Int}(k:Int)(h:ks.Nodup):(Jz ks k).Nodup:=by
 unfold Jz;split
 ·exact h
 ·next c=>refine Lg.mpr ⟨h,by simp,fun a ha b hb e=>c ?_⟩;rw[GN] at hb;unfold YW;exact Km.mpr ⟨a,ha,decide_eq_true (e.trans hb)⟩
theorem JeU:∀(l:List Pr) (ks:List Int) (dss:List (List D)),ks.length=dss.length->ks.Nodup->(gF l ks dss).1.length=(gF l ks dss).2.length/\(gF l ks dss).1.Nodup/\(∀n,n∈(gF l ks dss).1↔n∈ks\/n∈l.map (·.1)) ∧
 ∀n,(look ks dss n).isSome=true\/n∈l.map (·.1)->look (gF l ks dss).1 (gF l ks dss).2 n=some ((look ks dss n).getD []++((l.filter fun q=>decide (q.1=n)).map fun q=>D.int q.2))
 | [],ks,dss,h1,h2=>⟨h1,h2,fun n=>by simp[gF],fun n hn=>by
  rcases hn with hn|hn
  ·obtain⟨x,hx⟩:=Lv.mp hn;show look ks dss n=_;rw[hx];simp
  ·cases hn⟩
 | q::l,ks,dss,h1,h2=>by
  obtain⟨a1,a2⟩:=Jab q.1 (.int q.2) ks dss h1;obtain⟨b1,b2,b3,b4⟩:=JeU l _ _ a1 (JnS q.1 h2);refine⟨b1,b2,fun n=>?_,fun n hn=>?_⟩
  ·show n∈(gF l (Jz ks q.1) (UB ks dss q.1 (.int q.2))).1↔_;rw[b3,JkW,Qg,Qk,or_assoc]
  ·show look (gF l (Jz ks q.1) (UB ks dss q.1 (.int q.2))).1 (gF l (Jz ks q.1) (UB ks dss q.1 (.int q.2))).2 n=_
   by_cases c:n=q.1
   ·subst c;rw[b4 q.1 (.inl (by rw[a2,if_pos rfl];rfl)),a2,if_pos rfl,GI (by simp),Qg,Option.getD_some,Gh];rfl
   ·have c2:decide (q.1=n)=false:=decide_eq_false fun z=>c z.symm
    rw[b4 n (by
     rw[a2,if_neg c];rcases hn with hn|hn
     ·exact .inl hn
     ·rw[Qg] at hn;rcases Qk.mp hn with z|z
      ·exact absurd z c
      ·exact .inr z),a2,if_neg c,Ga (by simp[c2])]
noncomputable def loF(s:Int)(A:List Pr):List Pr:=A.filter fun p=>decide (p.1<s)
noncomputable def miF(s:Int)(A:List Pr):List Pr:=A.filter fun p=>decide (p.1=s)
noncomputable def hiF(s:Int)(A:List Pr):List Pr:=A.filter fun p=>decide (s<p.1)
theorem JbM(s:Int):∀(A:List Pr),A.Pairwise (fun p q=>p.1<=q.1)->A=loF s A++(miF s A++hiF s A)
 | [],_=>rfl
 | p::A,h=>by
  obtain⟨h1,h2⟩:=QP.mp h;have ih:=JbM s A h2;have no:∀(f:Pr->Bool),(∀q∈A,f q=false)->A.filter f=[]:=fun f hf=>Kg.mpr fun q hq=>by rw[hf q hq];simp
  rcases Int.lt_trichotomy p.1 s with c|c|c
  ·have e1:loF s (p::A)=p::loF s A:=GI (by simpa using c)
   have e2:miF s (p::A)=miF s A:=Ga (by simp;omega)
   have e3:hiF s (p::A)=hiF s A:=Ga (by simp;omega);rw[e1,e2,e3,Gu,<- ih]
  ·have e1:loF s (p::A)=loF s A:=Ga (by simp;omega)
   have e2:miF s (p::A)=p::miF s A:=GI (by simpa using c)
   have e3:hiF s (p::A)=hiF s A:=Ga (by simp;omega)
   have z:loF s A=[]:=no _ fun q hq=>decide_eq_false (by have:=h1 q hq;omega)
   rw[e1,e2,e3,z,Q4,Gu];rw[z,Q4] at ih;rw[<- ih]
  ·have e1:loF s (p::A)=loF s A:=Ga (by simp;omega)
   have e2:miF s (p::A)=miF s A:=Ga (by simp;omega)
   have e3:hiF s (p::A)=p::hiF s A:=GI (by simpa using c)
   have z1:loF s A=[]:=no _ fun q hq=>decide_eq_false (by have:=h1 q hq;omega)
   have z2:miF s A=[]:=no _ fun q hq=>decide_eq_false (by have:=h1 q hq;omega)
   rw[e1,e2,e3,z1,z2,Q4,Q4];rw[z1,z2,Q4,Q4] at ih;rw[<- ih]
theorem Zo{s:Int}{A:List Pr}:∀p∈loF s A,p.1<s:=fun p hp=>of_decide_eq_true (KF.mp hp).2
theorem UK{s:Int}{A:List Pr}:∀p∈miF s A,p.1=s:=fun p hp=>of_decide_eq_true (KF.mp hp).2
theorem Zn{s:Int}{A:List Pr}:∀p∈hiF s A,s<p.1:=fun p hp=>of_decide_eq_true (KF.mp hp).2
theorem Je1(p:Pr)(b:List Pr):∀(l:List Pr),(∀q∈l,p.1<q.1)->U4 p (l++b)=l++U4 p b
 | [],_=>rfl
 | q::l,h=>by show(if p.1<q.1 then q::U4 p (l++b) else _)=_;rw[if_pos (h q Qh),Je1 p b l fun r hr=>h r (Qf _ hr)];rfl
theorem V2{l:List Pr}{q:Pr}(h:q∈Js l):q∈l:=(Ut l).mem_iff.mp h
theorem V1:∀(a b:List Pr),(∀p∈a,∀q∈b,p.1<q.1)->Js (a++b)=Js b++Js a
 | [],b,_=>by show Js b=Js b++[];rw[GG]
 | p::a,b,h=>by show U4 p (Js (a++b))=Js b++U4 p (Js a);rw[V1 a b fun x hx=>h x (Qf _ hx),Je1 p _ _ fun q hq=>h p Qh q (V2 hq)]
theorem W7{s:Int}:∀(a:List Pr),(∀p∈a,p.1=s)->Js a=a
 | [],_=>rfl
 | p::a,h=>by
  show U4 p (Js a)=p::a;rw[W7 a fun x hx=>h x (Qf _ hx)]
  cases a with
  | nil=>rfl
  | cons q a =>
   have h1:=h p Qh
   have h2:=h q (by simp)
   show(if p.1<q.1 then _ else _)=_;rw[if_neg (by omega)]
theorem JdB(s:Int):∀(l:List Pr) (c:Int),(∀p∈l,p.1≠s)->(lnF c l).filter (fun q=>decide (q.1=s))=[]
 | [],_,_=>rfl
 | p::l,c,h=>by have:=h p Qh;rw[lnF,Ga (by simpa using this),JdB s l _ fun x hx=>h x (Qf _ hx)]
theorem JeO(s:Int):∀(l:List Pr) (c:Int),(∀p∈l,p.1=s)->(lnF c l).filter (fun q=>decide (q.1=s))=lnF c l
 | [],_,_=>rfl
 | p::l,c,h=>by have:=h p Qh;rw[lnF,GI (by simpa using this),JeO s l _ fun x hx=>h x (Qf _ hx)]
theorem JdA(s:Int):∀(l:List Pr) (c:Int),(∀p∈l,p.1≠s)->(erL c l).filter (fun q=>decide (q.1=s))=[]
 | [],_,_=>rfl
 | p::l,c,h=>by have:=h p Qh;rw[erL,Ga (by simpa using this),JdA s l _ fun x hx=>h x (Qf _ hx)]
theorem JeN(s:Int):∀(l:List Pr) (c:Int),(∀p∈l,p.1=s)->(erL c l).filter (fun q=>decide (q.1=s))=erL c l
 | [],_,_=>rfl
 | p::l,c,h=>by have:=h p Qh;rw[erL,GI (by simpa using this),JeN s l _ fun x hx=>h x (Qf _ hx)]
theorem Jj9(s:Int)(A:List Pr)(so:A.Pairwise fun p q=>p.1<=q.1):(lnF 0 A).filter (fun q=>decide (q.1=s))=lnF ((loF s A).map (·.1)).sum (miF s A):=by
 have e:lnF 0 A=lnF 0 (loF s A++(miF s A++hiF s A)):=by rw[<- JbM s A so]
 rw[e,Jbm,Jbm,Kb,Kb,JdB s _ _ fun p hp=>by have:=Zo p hp;omega,JeO s _ _ UK,JdB s _ _ fun p hp=>by have:=Zn p hp;omega,Q4,GG,K6]
theorem Jf8(s:Int)(A:List Pr)(so:A.Pairwise fun p q=>p.1<=q.1):(erL 0 (Js A)).filter (fun q=>decide (q.1=s))=erL ((hiF s A).length:Int) (miF s A):=by
 have e:Js A=(Js (hiF s A)++miF s A)++Js (loF s A):=by
  rw[<- W7 (miF s A) UK,<- V1 (miF s A) (hiF s A) fun p hp q hq=>by
   have:=UK p hp
   have:=Zn q hq;omega]
  rw[<- V1 (loF s A) _ fun p hp q hq=>by
   have:=Zo p hp;rcases GF.mp hq with z|z
   ·have:=UK q z;omega
   ·have:=Zn q z;omega]
  conv=>lhs;rw[JbM s A so]
 rw[e,Jdt,Jdt,Kb,Kb,JdA s _ _ fun p hp=>by have:=Zn p (V2 hp);omega,JeN s _ _ UK,JdA s _ _ fun p hp=>by have:=Zo p (V2 hp);omega,Q4,GG,K6,Ue]
theorem Jl9(s:Int):∀(l:List Pr) (c:Int) (j:Nat) (x:Int),(∀p∈l,p.1=s)->l[j]?=some (s,x)->(lnF c l)[j]?=some (s,x+2*(c+s*(j:Int)))
 | [],_,_,_,_,e=>by simp at e
 | p::l,c,0,x,h,e=>by
  have e:p=(s,x):=by simpa using e
  subst e;rw[lnF,LM];simp
 | p::l,c,j+1,x,h,e=>by rw[Ks] at e;rw[lnF,Ks,Jl9 s l (c+p.1) j x (fun q hq=>h q (Qf _ hq)) e,h p Qh];rw[show c+s+s*(j:Int)=c+s*((j+1:Nat):Int) by rw[La,K4];omega]
theorem JlZ(s:Int):∀(l:List Pr) (c:Int) (j:Nat) (x:Int),(∀p∈l,p.1=s)->l[j]?=some (s,x)->(erL c l)[j]?=some (s,x+2*s*(c+(j:Int)))
 | [],_,_,_,_,e=>by simp at e
 | p::l,c,0,x,h,e=>by
  have e:p=(s,x):=by simpa using e
  subst e;rw[erL,LM];simp
 | p::l,c,j+1,x,h,e=>by rw[Ks] at e;rw[erL,Ks,JlZ s l (c+1) j x (fun q hq=>h q (Qf _ hq)) e];rw[show c+1+(j:Int)=c+((j+1:Nat):Int) by omega]
noncomputable def duF(S:List Int)(s:Int):Int:=2*(S.filter fun x=>decide (x<s)).sum-2*s*((S.filter fun x=>decide (s<x)).length:Int)
theorem Jfb(f:Int->Bool)(A:List Pr):(A.map (·.1)).filter f=(A.filter fun p=>f p.1).map (·.1):=by rw[Rn];rfl
theorem Jki{s:Int}(a b:List Int)(h:s∉a):(a++b).idxOf s=a.length+b.idxOf s:=by rw[List.idxOf_append,if_neg h,Nat.add_comm]
theorem JhJ{A:List Pr}(so:A.Pairwise fun p q=>p.1<=q.1){k:Nat}{s x:Int}(hk:A[k]?=some (s,x)):∃(j:Nat) (f e:Int),k=(loF s A).length+j/\(A.map (·.1)).idxOf s=(loF s A).length/\j<(miF s A).length ∧
 (((lnF 0 A).filter fun q=>decide (q.1=s)).map (·.2))[j]?=some f/\(((erL 0 (Js A)).filter fun q=>decide (q.1=s)).map (·.2))[j]?=some e/\f-e=duF (A.map (·.1)) s:=by
 have sp:=JbM s A so
 have kl:k<A.length:=(Qm.mp hk).1
 have k1:(loF s A).length<=k:=by
  rcases KL k (loF s A).length with z|z
  ·rw[sp,QI z] at hk;have:=Zo _ (QJ hk);dsimp only at this;omega
  ·exact z
 have hk2:(miF s A)[k-(loF s A).length]?=some (s,x):=by
  rw[sp,QE k1] at hk;rcases KL (k-(loF s A).length) (miF s A).length with z|z
  ·rw[QI z] at hk;exact hk
  ·rw[QE z] at hk;have:=Zn _ (QJ hk);dsimp only at this;omega
 have jl:=(Qm.mp hk2).1;refine⟨k-(loF s A).length,_,_,by omega,?_,jl,by rw[Jj9 s A so,Qo,Jl9 s _ _ _ _ UK hk2];rfl,by rw[Jf8 s A so,Qo,JlZ s _ _ _ _ UK hk2];rfl,?_⟩
 ·have e:A.map (·.1)=(loF s A).map (·.1)++((miF s A).map (·.1)++(hiF s A).map (·.1)):=by
   conv=>lhs;rw[sp]
   rw[Q0,Q0]
  rw[e,Jki _ _ (fun z=>by obtain⟨p,hp,ep⟩:=QN.mp z;have:=Zo p hp;omega),Qq]
  cases hm:miF s A with
  | nil=>rw[hm] at jl;simp at jl
  | cons p r=>have:p.1=s:=UK p (by rw[hm];exact Qh);rw[Qg,Gu,this];simp
 ·unfold duF;rw[Jfb,Jfb,Qq];show x+2*(((loF s A).map (·.1)).sum+s*((k-(loF s A).length:Nat):Int))-(x+2*s*(((hiF s A).length:Int)+((k-(loF s A).length:Nat):Int)))=2*((loF s A).map (·.1)).sum-2*s*((hiF s A).length:Int);rw[K4 (2*s),K4 2,Int.mul_assoc,Int.mul_assoc];omega
noncomputable def dlF:Int->Int->List Pr->List Pr
 | _,_,[]=>[]
 | lo,gr,p::r=>QA p.2.toNat (p.1,2*lo-2*p.1*(gr-p.2))++dlF (lo+p.1*p.2) (gr-p.2) r
theorem JeH:∀(l L:List Pr) (gr lo:Int),(l.foldl (fun(s:List Pr×Int×Int) p=>(s.1++QA p.2.toNat ((p.1,2*s.2.2-2*p.1*(s.2.1-p.2)):Pr),s.2.1-p.2,s.2.2+p.1*p.2)) (L,gr,lo)).1=L++dlF lo gr l
 | [],L,_,_=>by simp[dlF]
 | p::l,L,gr,lo=>by rw[Gd,JeH l,dlF,Gh]
structure Lm (L:List Pr) (n:Nat):Prop where
 pos:∀p∈L,1<=p.2
 sum:(L.map (·.2)).sum=(n:Int)
theorem Jh1{ps:List Pr}{N:Nat}(g:Good ps)(hN:thN N ps=[]):Lm (Yg (tbN N 0 ps) []) ps.length:=by
 have asc:∀(L:List Pr) (k:Int),WO k L->∀p∈L,1<=p.2:=fun L=>by
  induction L with
  | nil=>intro _ _ p hp;cases hp
  | cons q L ih =>
   intro k h p hp;obtain⟨_,h2,h3⟩:=h;rcases Qk.mp hp with rfl|hp
   ·exact h2
   ·exact ih _ h3 p hp
 refine⟨asc _ 0 (Wu g N),?_⟩;have e:=ZO (fun _=>1) (tbN N 0 ps) [];have ns:=JbR N 0 g hN;unfold Uz at ns;simp only[Int.mul_one,K5,List.sum_nil,K6] at e;rw[e,ns]
theorem JbO:∀{L:List Pr},(∀p∈L,1<=p.2)->0<=(L.map (·.2)).sum
 | [],_=>QK _
 | p::L,h=>by
  have:=h p Qh
  have:=JbO fun q hq=>h q (Qf _ hq)
  rw[Qg,Qy];omega
theorem Jcz(ps:List Pr)(N:Nat)(g:Good ps)(h:ps.length<=30)(hN:thN N ps=[]):JQ [.sh (.row (ps.map prE))]=some (.own ((dlF 0 (ps.length:Int) (Yg (tbN N 0 ps) [])).map prE)):=by
 have lm:=Jh1 g hN
 have lu:=Je9 ps N g h hN
 generalize Yg (tbN N 0 ps) []=L at *
 unfold JQ;walk_at "ev";rw[lu];walk_at "ev";rw[G6];refine Yp (fun(rest:List Pr) (s:List Pr×Int×Int) E=>∃j4 j5,E=[.sh (.row (ps.map prE)),.own (s.1.map prE),.sh (.int s.2.1),.sh (.int s.2.2),j4,j5]/\s.2.1=(rest.map (·.2)).sum/\(s.1.length:Int)+(rest.map (·.2)).sum<=30/\∀p∈rest,1<=p.2) (fun s p=>(s.1++QA p.2.toNat (p.1,2*s.2.2-2*p.1*(s.2.1-p.2)),s.2.1-p.2,s.2.2+p.1*p.2)) ([],(ps.length:Int),0) ⟨.no,.no,rfl,lm.sum.symm,by rw[lm.sum];simp;omega,lm.pos⟩ ?_ ?_
 ·rintro p rest ⟨L,gr,lo⟩ E ⟨j4,j5,rfl,h1,h2,h3⟩;have p1:=h3 p Qh;have hr:=JbO fun q hq=>h3 q (Qf _ hq)
  rw[Qg,Qy] at h1 h2;dsimp only at h1 h2;have b1:(-18446744073709551616<gr-p.2/\gr-p.2<18446744073709551616):=by omega
  have b2:(-18446744073709551616<p.2/\p.2<18446744073709551616):=by omega
  simp only[prE];walk_at "ev";rw[W4 (d:=D.tup [.int p.1,.int (2*lo-2*p.1*(gr-p.2))]) rfl (Jbg ⟨by omega,by omega⟩) (by omega)];walk_at "ev";rw[GB,if_pos (by omega)];walk_at "ev";refine⟨.sh (.int p.1),.sh (.int p.2),?_,by omega,by rw[Qz,GB];omega,fun u hu=>h3 u (Qf _ hu)⟩;rw[Q0,K8];rfl
 ·rintro E' ⟨j4,j5,rfl,_,_,_⟩;rw[JeH,Q4];walk_at "ev"
noncomputable abbrev bsP:Pt:=.tp (.cons (.nm 2) (.cons (.nm 3) .nil))
theorem Jpr(x:Sl):∀(l:List Pr) (ks:List Int) (dss:List (List D)) (j2 j3:Sl),∃j2' j3',Vy bsP (Ja 2) (Ja 3) (l.map prE) [x,.no,j2,j3] ks dss=some ([x,.no,j2',j3'],gF l ks dss)
 | [],ks,dss,j2,j3=>⟨j2,j3,rfl⟩
 | q::l,ks,dss,j2,j3=>by obtain⟨a,b,ih⟩:=Jpr x l (Jz ks q.1) (UB ks dss q.1 (.int q.2)) (.sh (.int q.1)) (.sh (.int q.2));refine⟨a,b,?_⟩;rw[Qg,Vy];simp only[prE];walk_at "ev";exact ih
theorem Jcx(l:List Pr)(h:l.length<=30):JE [.sh (.lst (l.map prE))]=some (.od (gF l [] []).1 ((gF l [] []).2.map .lst)):=by obtain⟨a,b,hg⟩:=Jpr (.sh (.lst (l.map prE))) l [] [] .no .no;unfold JE;walk_at "ev";unfold JlS;walk_at "ev";rw[show Vy bsP (Ja 2) (Ja 3) (l.map prE) [.sh (.lst (l.map prE)),.no,.no,.no] [] []=_ from hg];walk_at "ev"
theorem Jld(n:Nat)(x:Int):(QA n x).sum=x*(n:Int):=by
 induction n with
 | zero=>simp
 | succ n ih=>rw[GU,Qy,ih,La,K4];omega
theorem Jhu:∀(L pre:List Pr),(pre++L).Pairwise (fun p q=>p.1<q.1)->(∀p∈L,1<=p.2)->dlF (JA pre).sum ((JA L).length:Int) L=(JA L).map fun s=>((s,duF (JA (pre++L)) s):Pr)
 | [],_,_,_=>rfl
 | p::L,pre,pw,h=>by
  have h1:=h p Qh
  have hc:JA (p::L)=QA p.2.toNat p.1++JA L:=by unfold JA;rw[Kh]
  have hp1:JA (pre++[p])=JA pre++QA p.2.toNat p.1:=by unfold JA;rw[List.flatMap_append];simp
  have ha:JA (pre++p::L)=JA pre++(QA p.2.toNat p.1++JA L):=by rw[<- hc];unfold JA;rw[List.flatMap_append]
  obtain⟨w1,w2,w3⟩:=Kc.mp pw;obtain⟨w4,w5⟩:=QP.mp w2
  have mm:∀(l:List Pr) (x:Int),x∈JA l->∃q∈l,q.1=x:=fun l x hx=>by unfold JA at hx;obtain⟨q,hq,hx⟩:=M6.mp hx;exact⟨q,hq,(Ly hx).symm⟩
  have lowP:∀x∈JA pre,x<p.1:=fun x hx=>by obtain⟨q,hq,rfl⟩:=mm _ x hx;exact w3 q hq p Qh
  have highL:∀x∈JA L,p.1<x:=fun x hx=>by obtain⟨q,hq,rfl⟩:=mm _ x hx;exact w4 q hq
  have ih:=Jhu L (pre++[p]) (by rw[Gh];exact pw) fun q hq=>h q (Qf _ hq)
  rw[Gh,List.singleton_append,hp1,Rh,Jld,show((p.2.toNat:Nat):Int)=p.2 by omega] at ih;have hl:((JA (p::L)).length:Int)-p.2=((JA L).length:Int):=by rw[hc,Qz,GB];omega
  rw[dlF,hl,ih,hc,Q0,K8];congr 2;congr 1;unfold duF;rw[ha,Kb,Kb,Kb,Kb];have f1:(JA pre).filter (fun x=>decide (x<p.1))=JA pre:=List.filter_eq_self.mpr fun x hx=>decide_eq_true (lowP x hx)
  have f2:(QA p.2.toNat p.1).filter (fun x=>decide (x<p.1))=[]:=Kg.mpr fun x hx=>by rw[Ly hx];simp
  have f3:(JA L).filter (fun x=>decide (x<p.1))=[]:=Kg.mpr fun x hx=>by have:=highL x hx;simp;omega
  have f4:(JA pre).filter (fun x=>decide (p.1<x))=[]:=Kg.mpr fun x hx=>by have:=lowP x hx;simp;omega
  have f5:(QA p.2.toNat p.1).filter (fun x=>decide (p.1<x))=[]:=Kg.mpr fun x hx=>by rw[Ly hx];simp
  have f6:(JA L).filter (fun x=>decide (p.1<x))=JA L:=List.filter_eq_self.mpr fun x hx=>decide_eq_true (highL x hx)
  rw[f1,f2,f3,f4,f5,f6,GG,GG,Q4,Q4]
theorem Jdl:∀{L:List Pr} {k:Int},WO k L->(∀p∈L,k<p.1)/\L.Pairwise fun p q=>p.1<q.1
 | [],_,_=>⟨fun p hp=>(GQ hp).elim,List.Pairwise.nil⟩
 | p::L,k,h=>by
  obtain⟨h1,_,h3⟩:=h;obtain⟨a,b⟩:=Jdl h3;refine⟨fun q hq=>?_,QP.mpr ⟨a,b⟩⟩;rcases Qk.mp hq with rfl|hq
  ·exact h1
  ·have:=a q hq;omega
theorem Jfc{ps:List Pr}(g:Good ps)(N:Nat):JA (Yg (tbN N 0 ps) [])=(apT (tbN N 0 ps)).map (·.1):=by
 have asc:=Va N 0 ps none g (QK _) (fun b e=>by cases e)
 have al:=Wu g N;obtain⟨_,pw⟩:=Jdl al;refine Um (List.perm_iff_count.mpr fun n=>?_) (JcF _ (Lh.mpr pw)) (Lh.mpr ((JaS asc).imp fun {a b} h=>?_))
 ·have e1:=Ve (Yg (tbN N 0 ps) []) n
  have e2:=Jho ((apT (tbN N 0 ps)).map (·.1)) n;rw[<- Jh3 g N,Jel] at e2
  have pos:∀p∈Yg (tbN N 0 ps) [],0<=p.2:=by
   have:∀(L:List Pr) (k:Int),WO k L->∀p∈L,0<=p.2:=fun L=>by
    induction L with
    | nil=>intro _ _ p hp;cases hp
    | cons q L ih =>
     intro k h p hp;obtain⟨_,h2,h3⟩:=h;rcases Qk.mp hp with rfl|hp
     ·omega
     ·exact ih _ h3 p hp
   exact this _ 0 al
  have e3:(Yg (tbN N 0 ps) []).map (fun p=>if p.1=n then((p.2.toNat:Nat):Int) else 0)=(Yg (tbN N 0 ps) []).map fun p=>p.2*(if p.1=n then 1 else 0):=GD fun p hp=>by
   have:=pos p hp;split
   ·rw[Int.mul_one];omega
   ·rw[Int.mul_zero]
  rw[e3,e2] at e1;omega
 ·have h':a.1<b.1\/(a.1=b.1/\a.2<=b.2):=h;omega
theorem WZ{ps:List Pr}{N:Nat}(g:Good ps)(hN:thN N ps=[]):dlF 0 (ps.length:Int) (Yg (tbN N 0 ps) [])=((apT (tbN N 0 ps)).map (·.1)).map fun s=>((s,duF ((apT (tbN N 0 ps)).map (·.1)) s):Pr):=by
 have lm:=Jh1 g hN;obtain⟨_,pw⟩:=Jdl (Wu g N)
 have e:=Jhu (Yg (tbN N 0 ps) []) [] pw lm.pos;rw[Q4,Jfc g N] at e
 have l:(((apT (tbN N 0 ps)).map (·.1)).length:Int)=(ps.length:Int):=by rw[Qq,UC g hN]
 rw[l] at e;exact e
structure R3 (ps:List Pr) (N:Nat):Prop where
 good:Good ps
 len:ps.length<=30
 top:(ps.map (·.2)).sum<=(N:Int)
theorem R3.th{ps:List Pr}{N:Nat}(r:R3 ps N):thN N ps=[]:=JbU N r.good r.top
theorem JjF(ns:List Int):∃ps N,R3 ps N/\JJ [.sh (.fz (ns.map .int)),.sh (.int 2),.sh (.int (cell ns 0 % 19)),.sh (.int (Jd1 [3,7,1000,10 ^ 30] (cell ns 0 / 19 % 4)))]=some (.own (ps.map prE)):=by
 have sp:0<Jd1 [3,7,1000,10 ^ 30] (cell ns 0 / 19 % 4):=Jin (P:=fun x=>0<x) (by omega) (by show _<(4:Int);omega) (by decide)
 revert sp
 generalize Jd1 [3,7,1000,10 ^ 30] (cell ns 0 / 19 % 4)=span
 intro sp;obtain⟨n,hn⟩:∃n:Nat,n=(cell ns 0 % 19).toNat:=⟨_,rfl⟩
 have n18:n<=18:=by omega
 refine⟨(spr ns 2 span (cell ns 2 % (2*span+1)-span) n).2,((spr ns 2 span (cell ns 2 % (2*span+1)-span) n).2.map fun p:Pr=>p.2).sum.toNat,⟨(Jc8 ns 2 _ _ sp _).1,by rw[U2];omega,by omega⟩,?_⟩;rw[hn];exact Jkw ns 2 _ span (by omega) (by omega) (by omega) sp
theorem Jfx{ks S:List Int}(nd:ks.Nodup)(h:∀n,n∈ks↔n∈S):J1 ks=J1 (fM S):=by refine Um ?_ (Ul _) (Ul _);refine(JB _).trans (List.Perm.trans ?_ (JB _).symm);exact(List.perm_ext_iff_of_nodup nd (Vw S)).mpr fun n=>by rw[h,JhA]
theorem JaE:∀(l:List Pr) (L:List Int),l.foldl (fun L p=>L++QA p.2.toNat p.1) L=L++JA l
 | [],L=>by simp[JA]
 | p::l,L=>by rw[Gd,JaE l];unfold JA;rw[Kh,Gh]
noncomputable abbrev bkD(l:List Pr):D:=.dct (gF l [] []).1 ((gF l [] []).2.map .lst)
theorem Jes(l:List Pr){n:Int}(h:n∈l.map (·.1)):look (gF l [] []).1 ((gF l [] []).2.map D.lst) n=some (.lst (((l.filter fun q=>decide (q.1=n)).map (·.2)).map .int)):=by obtain⟨_,_,_,h4⟩:=JeU l [] [] rfl My;rw[YU,h4 n (.inr h)];simp only[look,MU,Q4,KH,QO];rfl
theorem JmW(ns:List Int)(ps:List Pr)(N:Nat)(r:R3 ps N)(hd:JJ [.sh (.fz (ns.map .int)),.sh (.int 2),.sh (.int (cell ns 0 % 19)),.sh (.int (Jd1 [3,7,1000,10 ^ 30] (cell ns 0 / 19 % 4)))]=some (.own (ps.map prE)))(A:List Pr)(hA:apT (tbN N 0 ps)=A) :
 ∃j5 j8 j9,∀T:Es,(Jj (Jn 1 (eU 2 Ju (aC (Ja 0) (aC (eC (.int 0)) a0)))) (Jj (Jn 2 (eU 2 Ju (aC (Ja 0) (aC (eC (.int 1)) a0)))) (Jj (Jn 3 (eU 4 JJ (aC (Ja 0) (aC (eC (.int 2)) (aC (e2 UG (Ja 1) (eC (.int 19))) (aC (e2 fIx (YO (aC (eC (.int 3)) (aC (eC (.int 7)) (aC (eC (.int 1000)) (aC (e2 Jdz (eC (.int 10)) (eC (.int 30))) a0))))) (e2 UG (e2 Ja4 (Ja 1) (eC (.int 19))) (eC (.int 4)))) a0)))))) (Jj (Jn 4 (eF ZX (aC (Ja 3) a0))) (Jj (UA 5 (eU 1 JQ (aC (Ja 4) a0))) (Jj (ZR 5 (YQ (aC (eC (.int 0)) (aC (eC (.int 0)) a0)))) (Jj (JaP 5) (Jj (Jn 6 (eU 1 JQ (aC (Ja 4) a0))) (Jj (xIf (tNot? (tTru? (eU 2 J2 (aC (Ja 6) (aC (eF Yd (aC (Ja 3) a0)) a0))))) (JU (eC (.bl false))) JP) (Jj (UA 7 (YO a0)) (Jj (U6 (iE false (eU 1 J0 (aC (Ja 4) a0))) (.tp (.cons (.nm 8) (.cons (.nm 9) .nil))) (ZS 7 (e2 Ja8 (YO (aC (Ja 8) a0)) (Ja 9)))) (Jj (Jn 10 (eU 1 JE (aC (eU 1 Yj (aC (Ja 4) a0)) a0))) (Jj (Jn 11 (eU 1 JE (aC (eU 1 JW (aC (Ja 4) a0)) a0))) (Jj (xIf (tOr? (tB? (e2 fNe (VY (Ja 10)) (VZ (Ja 7)))) (tB? (e2 fNe (VY (Ja 11)) (VZ (Ja 7))))) (JU (eC (.bl false))) JP) T)))))))))))))) [.sh (.fz (ns.map .int)),.no,.no,.no,.no,.no,.no,.no,.no,.no,.no,.no,.no,.no,.no,.no]=T [.sh (.fz (ns.map .int)),.sh (.int (cell ns 0)),.sh (.int (cell ns 1)),.sh (.lst (ps.map prE)),.sh (.row (ps.map prE)),j5,.sh (.lst (((A.map (·.1)).map fun s=>((s,duF (A.map (·.1)) s):Pr)).map prE)),.own ((A.map (·.1)).map .int),j8,j9,.sh (bkD (lnF 0 A)),.sh (bkD (erL 0 (Js A))),.no,.no,.no,.no]:=by
 have hl:=r.len
 have al:=UC r.good r.th;rw[hA] at al
 have a2:=Jha (l:=[3,7,1000,10 ^ 30]) (k:=cell ns 0 / 19 % 4) (by omega) (by show _<(4:Int);omega);simp only[Qg,K5] at a2
 have dl:=Jcz ps N r.good r.len r.th;rw[WZ r.good r.th,hA] at dl
 have lm:=Jh1 r.good r.th
 have lu:=Je9 ps N r.good r.len r.th
 have ma:=Jfc r.good N;rw[hA] at ma
 have fl:=Jnl ps N r.good r.len r.th
 have el:=Jnk ps N r.good r.len r.th;rw[hA] at fl el
 have l1:=JdN A 0
 have l2:(erL 0 (Js A)).length=A.length:=by rw[Jdu,Ue]
 have b1:=Jcx (lnF 0 A) (by omega)
 have b2:=Jcx (erL 0 (Js A)) (by omega);obtain⟨k1,k2,k3,_⟩:=JeU (lnF 0 A) [] [] rfl My;obtain⟨q1,q2,q3,_⟩:=JeU (erL 0 (Js A)) [] [] rfl My
 have sl:=JlB (A.map (·.1));rw[Qq] at sl
 have s1:J1 (gF (lnF 0 A) [] []).1=J1 (fM (A.map (·.1))):=Jfx k2 fun n=>by rw[k3,JdO];simp
 have s2:J1 (gF (erL 0 (Js A)) [] []).1=J1 (fM (A.map (·.1))):=Jfx q2 fun n=>by rw[q3,Jdv];have:=((Ut A).map (·.1)).mem_iff (a:=n);simp only[GQ,false_or];exact this
 have z1:(gF (lnF 0 A) [] []).1.length<=30:=by rw[<- (JB _).length_eq,s1];omega
 have z2:(gF (erL 0 (Js A)) [] []).1.length<=30:=by rw[<- (JB _).length_eq,s2];omega
 have ml:=Jh6 ((A.map (·.1)).map fun s=>((s,duF (A.map (·.1)) s):Pr)) (by simp;omega)
 have dll:((A.map (·.1)).map fun s=>((s,duF (A.map (·.1)) s):Pr)).length=ps.length:=by simp;omega
 refine⟨.own (((A.map (·.1)).map fun s=>((s,duF (A.map (·.1)) s):Pr)).map prE++[D.tup [D.int 0,D.int 0]]).reverse,?_⟩
 generalize ((A.map (·.1)).map fun s=>((s,duF (A.map (·.1)) s):Pr))=W at *
 generalize Yg (tbN N 0 ps) []=L at *
 have pre:∀T:Es,(Jj (Jn 1 (eU 2 Ju (aC (Ja 0) (aC (eC (.int 0)) a0)))) (Jj (Jn 2 (eU 2 Ju (aC (Ja 0) (aC (eC (.int 1)) a0)))) (Jj (Jn 3 (eU 4 JJ (aC (Ja 0) (aC (eC (.int 2)) (aC (e2 UG (Ja 1) (eC (.int 19))) (aC (e2 fIx (YO (aC (eC (.int 3)) (aC (eC (.int 7)) (aC (eC (.int 1000)) (aC (e2 Jdz (eC (.int 10)) (eC (.int 30))) a0))))) (e2 UG (e2 Ja4 (Ja 1) (eC (.int 19))) (eC (.int 4)))) a0)))))) (Jj (Jn 4 (eF ZX (aC (Ja 3) a0))) (Jj (UA 5 (eU 1 JQ (aC (Ja 4) a0))) (Jj (ZR 5 (YQ (aC (eC (.int 0)) (aC (eC (.int 0)) a0)))) (Jj (JaP 5) (Jj (Jn 6 (eU 1 JQ (aC (Ja 4) a0))) (Jj (xIf (tNot? (tTru? (eU 2 J2 (aC (Ja 6) (aC (eF Yd (aC (Ja 3) a0)) a0))))) (JU (eC (.bl false))) JP) (Jj (UA 7 (YO a0)) T)))))))))) [.sh (.fz (ns.map .int)),.no,.no,.no,.no,.no,.no,.no,.no,.no,.no,.no,.no,.no,.no,.no]=T [.sh (.fz (ns.map .int)),.sh (.int (cell ns 0)),.sh (.int (cell ns 1)),.sh (.lst (ps.map prE)),.sh (.row (ps.map prE)),.own (W.map prE++[D.tup [D.int 0,D.int 0]]).reverse,.sh (.lst (W.map prE)),.own [],.no,.no,.no,.no,.no,.no,.no,.no]:=by intro T;walk_at "ev";rw[Zm _ _ (by omega)];walk_at "ev";rw[Zm _ _ (by omega)];walk_at "ev";rw[a2];walk_at "ev";rw[hd];walk_at "ev";rw[WC rfl r.good r.len];walk_at "ev";rw[dl];walk_at "ev";rw[dl];walk_at "ev";rw[show((ps.length:Nat):Int)=((W.length:Nat):Int) by omega,ml];walk_at "ev"
 have loop:=Jbn (p:=.tp (.cons (.nm 8) (.cons (.nm 9) .nil))) (b:=(ZS 7 (e2 Ja8 (YO (aC (Ja 8) a0)) (Ja 9)))) (f:=prE) (fun(rest:List Pr) (S:List Int) E=>∃j8 j9,E=[.sh (.fz (ns.map .int)),.sh (.int (cell ns 0)),.sh (.int (cell ns 1)),.sh (.lst (ps.map prE)),.sh (.row (ps.map prE)),.own (W.map prE++[D.tup [D.int 0,D.int 0]]).reverse,.sh (.lst (W.map prE)),.own (S.map .int),j8,j9,.no,.no,.no,.no,.no,.no]/\(S.length:Int)+(rest.map (·.2)).sum<=30/\∀p∈rest,1<=p.2) (fun S p=>S++QA p.2.toNat p.1) (as:=L) [] ⟨.no,.no,rfl,by rw[lm.sum];simp;omega,lm.pos⟩ ?_
 ·obtain⟨E',⟨j8,j9,rfl,_,_⟩,lp⟩:=loop;rw[JaE,Q4,ma] at lp;refine⟨j8,j9,fun T=>?_⟩;rw[pre];walk_at "ev";rw[lu];walk_at "ev";rw[show Y5 (.tp (.cons (.nm 8) (.cons (.nm 9) .nil))) (ZS 7 (e2 Ja8 (YO (aC (Ja 8) a0)) (Ja 9))) (L.map prE) [.sh (.fz (ns.map .int)),.sh (.int (cell ns 0)),.sh (.int (cell ns 1)),.sh (.lst (ps.map prE)),.sh (.row (ps.map prE)),.own (W.map prE++[D.tup [D.int 0,D.int 0]]).reverse,.sh (.lst (W.map prE)),.own [],.no,.no,.no,.no,.no,.no,.no,.no]=_ from lp]
  walk_at "ev";rw[fl];walk_at "ev";rw[b1];walk_at "ev";rw[el];walk_at "ev";rw[b2];walk_at "ev";rw[s1];walk_at "ev";rw[s2];walk_at "ev"
 ·rintro p rest S E ⟨j8,j9,rfl,h2,h3⟩;have p1:=h3 p Qh;have hr:=JbO fun q hq=>h3 q (Qf _ hq)
  rw[Qg,Qy] at h2;simp only[prE];walk_at "ev";rw[W4 (d:=D.int p.1) rfl (Jbg ⟨by omega,by omega⟩) (by omega)];walk_at "ev";rw[GB,if_pos (by omega)];refine⟨.sh (.int p.1),.sh (.int p.2),?_,by rw[Qz,GB];omega,fun u hu=>h3 u (Qf _ hu)⟩;rw[Q0,K8]
theorem JoN(a0' a1 a2 a3 a4 a5 a8 a9 j13 j14:Sl)(A:List Pr)(hA:A.length<=30)(so:A.Pairwise fun p q=>p.1<=q.1)(k:Nat)(hk:k<A.length):∃j13' j14',(Jj (Jn 13 (e2 Yl (eC (.int 2)) (eF V0 (aC (J9 (iE true (Ja 7)) (.nm 0) (tB? (e2 fLt (Ja 0) (e2 fIx (Ja 1) (Ja 2)))) (Ja 0) [none,some 7,some 12]) a0)))) (Jj (Jn 13 (e2 Yo (Ja 13) (e2 Yl (e2 Yl (eC (.int 2)) (e2 fIx (Ja 7) (Ja 12))) (eF Yd (aC (J9 (iE true (Ja 7)) (.nm 0) (tB? (e2 fGt (Ja 0) (e2 fIx (Ja 1) (Ja 2)))) (Ja 0) [none,some 7,some 12]) a0))))) (Jj (xIf (tB? (e2 fNe (e2 fIx (Ja 6) (Ja 12)) (YQ (aC (e2 fIx (Ja 7) (Ja 12)) (aC (Ja 13) a0))))) (JU (eC (.bl false))) JP) (Jj (Jn 14 (e2 Yo (Ja 12) (eMI Vv (Ja 7) (e2 fIx (Ja 7) (Ja 12))))) (Jj (xIf (tOr? (tB? (e2 fGe (Ja 14) (eF Yd (aC (YI (Ja 10) (e2 fIx (Ja 7) (Ja 12))) a0)))) (tB? (e2 fGe (Ja 14) (eF Yd (aC (YI (Ja 11) (e2 fIx (Ja 7) (Ja 12))) a0))))) (JU (eC (.bl false))) JP) (xIf (tB? (e2 fNe (e2 Yo (e2 fIx (YI (Ja 10) (e2 fIx (Ja 7) (Ja 12))) (Ja 14)) (e2 fIx (YI (Ja 11) (e2 fIx (Ja 7) (Ja 12))) (Ja 14))) (Ja 13))) (JU (eC (.bl false))) JP)))))) [a0',a1,a2,a3,a4,a5,.sh (.lst (((A.map (·.1)).map fun s=>((s,duF (A.map (·.1)) s):Pr)).map prE)),.own ((A.map (·.1)).map .int),a8,a9,.sh (bkD (lnF 0 A)),.sh (bkD (erL 0 (Js A))),.sh (.int (k:Int)),j13,j14,.no]=some (.nx [a0',a1,a2,a3,a4,a5,.sh (.lst (((A.map (·.1)).map fun s=>((s,duF (A.map (·.1)) s):Pr)).map prE)),.own ((A.map (·.1)).map .int),a8,a9,.sh (bkD (lnF 0 A)),.sh (bkD (erL 0 (Js A))),.sh (.int (k:Int)),j13',j14',.no]):=by
 obtain⟨s,x,hs⟩:∃s x,A[k]?=some (s,x):=⟨A[k].1,A[k].2,QG hk⟩
 obtain⟨j,f,e,e1',e2',e3',e4',e5',e6'⟩:=JhJ so hs;have ms:s∈A.map (·.1):=QN.mpr ⟨(s,x),QJ hs,rfl⟩;have at7:atI ((A.map (·.1)).map D.int) (k:Int)=some (.int s):=Vr (by rw[Qo,Qo,hs];rfl);have at6:atI (((A.map (·.1)).map fun s=>((s,duF (A.map (·.1)) s):Pr)).map prE) (k:Int)=some (prE (s,duF (A.map (·.1)) s)):=Vr (by rw[Qo,Qo,Qo,hs];rfl)
 have ix:Vv (A.map (·.1)) s=some (((A.map (·.1)).idxOf s:Nat):Int):=if_pos ms
 have k1:=Jes (lnF 0 A) (n:=s) (by rw[JdO];exact ms)
 have k2:=Jes (erL 0 (Js A)) (n:=s) (by rw[Jdv];exact((Ut A).map (·.1)).mem_iff.mpr ms)
 have g1:(((lnF 0 A).filter fun q=>decide (q.1=s)).map (·.2)).length<=30:=by rw[Qq];have:=Le (fun q:Pr=>decide (q.1=s)) (lnF 0 A);rw[JdN] at this;omega
 have g2:(((erL 0 (Js A)).filter fun q=>decide (q.1=s)).map (·.2)).length<=30:=by rw[Qq];have:=Le (fun q:Pr=>decide (q.1=s)) (erL 0 (Js A));rw[Jdu,Ue] at this;omega
 have j1:=(Qm.mp e4').1
 have j2:=(Qm.mp e5').1
 have c1:Ud (.nm 0) (tB? (e2 fLt (Ja 0) (e2 fIx (Ja 1) (Ja 2)))) (Ja 0) [.no,.bo ((A.map (·.1)).map .int),.sh (.int (k:Int))] ((A.map (·.1)).map .int)=some (((A.map (·.1)).filter fun x=>decide (x<s)).map .int):=by
  refine WB (k:=fun x=>decide (x<s)) fun x _=>⟨?_,fun _=>?_⟩
  ·walk_at "ev";rw[at7];walk_at "ev"
  ·walk_at "ev"
 have c2:Ud (.nm 0) (tB? (e2 fGt (Ja 0) (e2 fIx (Ja 1) (Ja 2)))) (Ja 0) [.no,.bo ((A.map (·.1)).map .int),.sh (.int (k:Int))] ((A.map (·.1)).map .int)=some (((A.map (·.1)).filter fun x=>decide (s<x)).map .int):=by
  refine WB (k:=fun x=>decide (s<x)) fun x _=>⟨?_,fun _=>?_⟩
  ·walk_at "ev";rw[at7];walk_at "ev"
  ·walk_at "ev"
 have l9:((A.map (·.1)).filter fun x=>decide (s<x)).length<=30:=by have:=Le (fun x=>decide (s<x)) (A.map (·.1));rw[Qq] at this;omega
 refine⟨.sh (.int (duF (A.map (·.1)) s)),.sh (.int (j:Int)),?_⟩;have hj:(k:Int)-(((A.map (·.1)).idxOf s:Nat):Int)=(j:Int):=by omega
 have du:2*((A.map (·.1)).filter fun x=>decide (x<s)).sum-2*s*(((A.map (·.1)).filter fun x=>decide (s<x)).length:Int)=duF (A.map (·.1)) s:=rfl
 generalize duF (A.map (·.1)) s=dd at *
 generalize ((lnF 0 A).filter fun q=>decide (q.1=s)).map (·.2)=U at *
 generalize ((erL 0 (Js A)).filter fun q=>decide (q.1=s)).map (·.2)=V at *
 have aU:atI (U.map D.int) (j:Int)=some (.int f):=Vr (by rw[Qo,e4'];rfl)
 have aV:atI (V.map D.int) (j:Int)=some (.int e):=Vr (by rw[Qo,e5'];rfl);walk_at "ev";rw[c1];walk_at "ev";rw[Vx (ns:=(A.map (·.1)).filter fun x=>decide (x<s)) rfl];walk_at "ev";rw[at7];walk_at "ev";rw[c2];walk_at "ev";rw[du,at6,at7];walk_at "ev";rw[show D.tup [D.int s,D.int dd]=prE (s,dd) from rfl,Jhw,decide_eq_true rfl];walk_at "ev";rw[at7];walk_at "ev";rw[ix];walk_at "ev";rw[hj,at7];walk_at "ev";rw[k1];walk_at "ev"
 rw[decide_eq_false (show ¬(U.length:Int)<=(j:Int) by omega)];walk_at "ev";rw[k2];walk_at "ev";rw[decide_eq_false (show ¬(V.length:Int)<=(j:Int) by omega)];walk_at "ev";rw[at7];walk_at "ev";rw[k1];walk_at "ev";rw[aU];walk_at "ev";rw[k2];walk_at "ev";rw[aV];walk_at "ev";rw[e6',decide_eq_true rfl];walk_at "ev"
theorem Jni(a0' a1 a2 a3 a4 a5 a8 a9:Sl)(A:List Pr)(hA:A.length<=30)(so:A.Pairwise fun p q=>p.1<=q.1):∃j12 j13 j14,∀T:Es,(Jj (U6 (iR1 (aC (eF Yd (aC (Ja 7) a0)) a0)) (.nm 12) (Jj (Jn 13 (e2 Yl (eC (.int 2)) (eF V0 (aC (J9 (iE true (Ja 7)) (.nm 0) (tB? (e2 fLt (Ja 0) (e2 fIx (Ja 1) (Ja 2)))) (Ja 0) [none,some 7,some 12]) a0)))) (Jj (Jn 13 (e2 Yo (Ja 13) (e2 Yl (e2 Yl (eC (.int 2)) (e2 fIx (Ja 7) (Ja 12))) (eF Yd (aC (J9 (iE true (Ja 7)) (.nm 0) (tB? (e2 fGt (Ja 0) (e2 fIx (Ja 1) (Ja 2)))) (Ja 0) [none,some 7,some 12]) a0))))) (Jj (xIf (tB? (e2 fNe (e2 fIx (Ja 6) (Ja 12)) (YQ (aC (e2 fIx (Ja 7) (Ja 12)) (aC (Ja 13) a0))))) (JU (eC (.bl false))) JP) (Jj (Jn 14 (e2 Yo (Ja 12) (eMI Vv (Ja 7) (e2 fIx (Ja 7) (Ja 12))))) (Jj (xIf (tOr? (tB? (e2 fGe (Ja 14) (eF Yd (aC (YI (Ja 10) (e2 fIx (Ja 7) (Ja 12))) a0)))) (tB? (e2 fGe (Ja 14) (eF Yd (aC (YI (Ja 11) (e2 fIx (Ja 7) (Ja 12))) a0))))) (JU (eC (.bl false))) JP) (xIf (tB? (e2 fNe (e2 Yo (e2 fIx (YI (Ja 10) (e2 fIx (Ja 7) (Ja 12))) (Ja 14)) (e2 fIx (YI (Ja 11) (e2 fIx (Ja 7) (Ja 12))) (Ja 14))) (Ja 13))) (JU (eC (.bl false))) JP))))))) T) [a0',a1,a2,a3,a4,a5,.sh (.lst (((A.map (·.1)).map fun s=>((s,duF (A.map (·.1)) s):Pr)).map prE)),.own ((A.map (·.1)).map .int),a8,a9,.sh (bkD (lnF 0 A)),.sh (bkD (erL 0 (Js A))),.no,.no,.no,.no]=T [a0',a1,a2,a3,a4,a5,.sh (.lst (((A.map (·.1)).map fun s=>((s,duF (A.map (·.1)) s):Pr)).map prE)),.own ((A.map (·.1)).map .int),a8,a9,.sh (bkD (lnF 0 A)),.sh (bkD (erL 0 (Js A))),j12,j13,j14,.no]:=by
 have loop:=Jbn (p:=.nm 12) (b:=(Jj (Jn 13 (e2 Yl (eC (.int 2)) (eF V0 (aC (J9 (iE true (Ja 7)) (.nm 0) (tB? (e2 fLt (Ja 0) (e2 fIx (Ja 1) (Ja 2)))) (Ja 0) [none,some 7,some 12]) a0)))) (Jj (Jn 13 (e2 Yo (Ja 13) (e2 Yl (e2 Yl (eC (.int 2)) (e2 fIx (Ja 7) (Ja 12))) (eF Yd (aC (J9 (iE true (Ja 7)) (.nm 0) (tB? (e2 fGt (Ja 0) (e2 fIx (Ja 1) (Ja 2)))) (Ja 0) [none,some 7,some 12]) a0))))) (Jj (xIf (tB? (e2 fNe (e2 fIx (Ja 6) (Ja 12)) (YQ (aC (e2 fIx (Ja 7) (Ja 12)) (aC (Ja 13) a0))))) (JU (eC (.bl false))) JP) (Jj (Jn 14 (e2 Yo (Ja 12) (eMI Vv (Ja 7) (e2 fIx (Ja 7) (Ja 12))))) (Jj (xIf (tOr? (tB? (e2 fGe (Ja 14) (eF Yd (aC (YI (Ja 10) (e2 fIx (Ja 7) (Ja 12))) a0)))) (tB? (e2 fGe (Ja 14) (eF Yd (aC (YI (Ja 11) (e2 fIx (Ja 7) (Ja 12))) a0))))) (JU (eC (.bl false))) JP) (xIf (tB? (e2 fNe (e2 Yo (e2 fIx (YI (Ja 10) (e2 fIx (Ja 7) (Ja 12))) (Ja 14)) (e2 fIx (YI (Ja 11) (e2 fIx (Ja 7) (Ja 12))) (Ja 14))) (Ja 13))) (JU (eC (.bl false))) JP))))))) (f:=fun i:Nat=>D.int (0+(i:Int))) (fun(rest:List Nat) (i:Nat) E=>∃j12 j13 j14,E=[a0',a1,a2,a3,a4,a5,.sh (.lst (((A.map (·.1)).map fun s=>((s,duF (A.map (·.1)) s):Pr)).map prE)),.own ((A.map (·.1)).map .int),a8,a9,.sh (bkD (lnF 0 A)),.sh (bkD (erL 0 (Js A))),j12,j13,j14,.no]/\∀x∈rest,x<A.length) (fun i _=>i) (as:=QS A.length) 0 ⟨.no,.no,.no,rfl,fun x hx=>Rx.mp hx⟩ ?_
 ·obtain⟨E',⟨j12,j13,j14,rfl,_⟩,lp⟩:=loop;refine⟨j12,j13,j14,fun T=>?_⟩
  generalize (Jj (Jn 13 (e2 Yl (eC (.int 2)) (eF V0 (aC (J9 (iE true (Ja 7)) (.nm 0) (tB? (e2 fLt (Ja 0) (e2 fIx (Ja 1) (Ja 2)))) (Ja 0) [none,some 7,some 12]) a0)))) (Jj (Jn 13 (e2 Yo (Ja 13) (e2 Yl (e2 Yl (eC (.int 2)) (e2 fIx (Ja 7) (Ja 12))) (eF Yd (aC (J9 (iE true (Ja 7)) (.nm 0) (tB? (e2 fGt (Ja 0) (e2 fIx (Ja 1) (Ja 2)))) (Ja 0) [none,some 7,some 12]) a0))))) (Jj (xIf (tB? (e2 fNe (e2 fIx (Ja 6) (Ja 12)) (YQ (aC (e2 fIx (Ja 7) (Ja 12)) (aC (Ja 13) a0))))) (JU (eC (.bl false))) JP) (Jj (Jn 14 (e2 Yo (Ja 12) (eMI Vv (Ja 7) (e2 fIx (Ja 7) (Ja 12))))) (Jj (xIf (tOr? (tB? (e2 fGe (Ja 14) (eF Yd (aC (YI (Ja 10) (e2 fIx (Ja 7) (Ja 12))) a0)))) (tB? (e2 fGe (Ja 14) (eF Yd (aC (YI (Ja 11) (e2 fIx (Ja 7) (Ja 12))) a0))))) (JU (eC (.bl false))) JP) (xIf (tB? (e2 fNe (e2 Yo (e2 fIx (YI (Ja 10) (e2 fIx (Ja 7) (Ja 12))) (Ja 14)) (e2 fIx (YI (Ja 11) (e2 fIx (Ja 7) (Ja 12))) (Ja 14))) (Ja 13))) (JU (eC (.bl false))) JP))))))=bd at *
  generalize ((A.map (·.1)).map fun s=>((s,duF (A.map (·.1)) s):Pr))=W at *
  generalize bkD (lnF 0 A)=d1 at *
  generalize bkD (erL 0 (Js A))=d2 at *
  walk_at "ev";rw[show rng 0 ((A.length:Int)).toNat=(QS A.length).map fun i:Nat=>D.int (0+(i:Int)) by rw[G4];rfl,lp];walk_at "ev"
 ·rintro a rest i E ⟨j12,j13,j14,rfl,h⟩;obtain⟨j13',j14',ht⟩:=JoN a0' a1 a2 a3 a4 a5 a8 a9 j13 j14 A hA so a (h a Qh)
  generalize (Jj (Jn 13 (e2 Yl (eC (.int 2)) (eF V0 (aC (J9 (iE true (Ja 7)) (.nm 0) (tB? (e2 fLt (Ja 0) (e2 fIx (Ja 1) (Ja 2)))) (Ja 0) [none,some 7,some 12]) a0)))) (Jj (Jn 13 (e2 Yo (Ja 13) (e2 Yl (e2 Yl (eC (.int 2)) (e2 fIx (Ja 7) (Ja 12))) (eF Yd (aC (J9 (iE true (Ja 7)) (.nm 0) (tB? (e2 fGt (Ja 0) (e2 fIx (Ja 1) (Ja 2)))) (Ja 0) [none,some 7,some 12]) a0))))) (Jj (xIf (tB? (e2 fNe (e2 fIx (Ja 6) (Ja 12)) (YQ (aC (e2 fIx (Ja 7) (Ja 12)) (aC (Ja 13) a0))))) (JU (eC (.bl false))) JP) (Jj (Jn 14 (e2 Yo (Ja 12) (eMI Vv (Ja 7) (e2 fIx (Ja 7) (Ja 12))))) (Jj (xIf (tOr? (tB? (e2 fGe (Ja 14) (eF Yd (aC (YI (Ja 10) (e2 fIx (Ja 7) (Ja 12))) a0)))) (tB? (e2 fGe (Ja 14) (eF Yd (aC (YI (Ja 11) (e2 fIx (Ja 7) (Ja 12))) a0))))) (JU (eC (.bl false))) JP) (xIf (tB? (e2 fNe (e2 Yo (e2 fIx (YI (Ja 10) (e2 fIx (Ja 7) (Ja 12))) (Ja 14)) (e2 fIx (YI (Ja 11) (e2 fIx (Ja 7) (Ja 12))) (Ja 14))) (Ja 13))) (JU (eC (.bl false))) JP))))))=bd at *
  generalize ((A.map (·.1)).map fun s=>((s,duF (A.map (·.1)) s):Pr))=W at *
  generalize bkD (lnF 0 A)=d1 at *
  generalize bkD (erL 0 (Js A))=d2 at *
  walk_at "ev";rw[K6,ht];walk_at "ev";exact⟨_,_,_,rfl,fun x hx=>h x (Qf _ hx)⟩
theorem JaL(F:Tr->Int):∀(T:List Tr) (a:List Pr),Yg (T.map fun t=>(t.1,F t,t.2.2)) a=Yg T a
 | [],_=>rfl
 | t::T,a=>JaL F T _
theorem Jge{ps:List Pr}(g:Good ps)(N:Nat)(seats:Option Int)(hs:OkS seats):Yg (tbN N 0 (Uy ps seats)) []=Yg (tbN N 0 ps) []:=by
 have s0:0<=(ps.map (·.2)).sum:=JbO (Good.all g);rw[<- JhE g seats hs]
 obtain⟨s,h1,h2⟩:∃s:Int,0<=s/\Sts seats s (0+(ps.map (·.2)).sum):=by
  cases seats with
  | none=>exact⟨(ps.map (·.2)).sum,s0,.inr ⟨rfl,by omega⟩⟩
  | some v=>exact⟨v,by have:=hs v rfl;omega,.inl rfl⟩
 rw[JeW ps 0 g (QK _) h1 h2,Jmn N 0 s g h1];exact JaL _ _ _
theorem JoI(ns:List Int)(ps:List Pr)(N:Nat)(r:R3 ps N)(A:List Pr)(hA:apT (tbN N 0 ps)=A)(a0' a1 a5 a7 a8 a9 a10 a11 a12 a13 a14:Sl)(c:Int):(Jj (Jn 15 (e2 fIx (YO (aC (eC .non) (aC (e2 JT (eC (.int 1)) (e2 UG (e2 Ja4 (Ja 2) (eC (.int 3))) (eC (.int 9)))) (aC (e2 JT (eC (.int 1)) (e2 UG (e2 Ja4 (Ja 2) (eC (.int 3))) (e2 Jdz (eC (.int 10)) (eC (.int 30))))) a0)))) (e2 UG (Ja 2) (eC (.int 3))))) (JU (JjG (e2 fEq (eU 1 JQ (aC (eU 2 UY (aC (Ja 4) (aC (Ja 15) a0))) a0)) (Ja 6)) (e2 fEq (e1 Us (Ja 4)) (eF W5 (aC (Ja 3) a0)))))) [a0',a1,.sh (.int c),.sh (.lst (ps.map prE)),.sh (.row (ps.map prE)),a5,.sh (.lst (((A.map (·.1)).map fun s=>((s,duF (A.map (·.1)) s):Pr)).map prE)),a7,a8,a9,a10,a11,a12,a13,a14,.no]=some (.rt (.sh (.bl true))):=by
 have hl:=r.len
 obtain⟨seats,ok,hp⟩:∃seats:Option Int,OkS seats/\atI [D.non,.int (1+c / 3 % 9),.int (1+c / 3 % 10 ^ 30)] (c % 3)=some (VL seats):=by
  have h1:=L4 (c / 3) (show(9:Int)≠0 by decide)
  have h2:=L4 (c / 3) (show(10:Int) ^ 30≠0 by decide);rcases(show c % 3=0\/c % 3=1\/c % 3=2 by omega) with e|e|e
  ·exact⟨none,(fun s z=>by cases z),by rw[e];rfl⟩
  ·exact⟨some (1+c / 3 % 9),(fun s z=>by cases z;omega),by rw[e];rfl⟩
  ·exact⟨some (1+c / 3 % 10 ^ 30),(fun s z=>by cases z;omega),by rw[e];rfl⟩
 have gg:=W9 r.good seats ok
 have gl:=Jas ps seats
 have gt:thN N (Uy ps seats)=[]:=JbU N gg (by rw[JhI r.good seats ok];exact r.top)
 have dl:=Jcz (Uy ps seats) N gg (by omega) gt;rw[Jge r.good N seats ok,gl,WZ r.good r.th,hA] at dl
 have mg:=Jnm ps seats r.good r.len ok
 generalize ((A.map (·.1)).map fun s=>((s,duF (A.map (·.1)) s):Pr))=W at *
 walk_at "ev";rw[hp];walk_at "ev";rw[mg];walk_at "ev";rw[dl];walk_at "ev"
theorem law_true(ns:List Int)(hn:ns.length<=63):Jdx [.sh (.fz (ns.map .int))]=some (.sh (.bl true)):=by
 obtain⟨ps,N,r,hd⟩:=JjF ns;have hl:=r.len;have al:=UC r.good r.th;have asc:=Va N 0 ps none r.good (QK _) (fun b e=>by cases e)
 have so:(apT (tbN N 0 ps)).Pairwise fun p q=>p.1<=q.1:=(JaS asc).imp fun {a b} h=>by have h':a.1<b.1\/(a.1=b.1/\a.2<=b.2):=h;omega
 obtain⟨j5,j8,j9,hh⟩:=JmW ns ps N r hd _ rfl;obtain⟨j12,j13,j14,lp⟩:=Jni (.sh (.fz (ns.map .int))) (.sh (.int (cell ns 0))) (.sh (.int (cell ns 1))) (.sh (.lst (ps.map prE))) (.sh (.row (ps.map prE))) j5 j8 j9 (apT (tbN N 0 ps)) (by omega) so;unfold Jdx;simp only[Yw,Qv,Lz,Nat.reduceAdd,Nat.reduceSub,RM,Gu,Q4];rw[hh,lp,JoI ns ps N r _ rfl];rfl
end
end LK
noncomputable section
namespace LK
open PySem L2 LR LE
local macro_rules | `(tactic| walk_at "s")=>`(tactic| repeat' first | rfl | assumption | with_reducible apply JiO | with_reducible apply Jot | with_reducible apply Jq5 | with_reducible apply Jqf | with_reducible apply Jjn | with_reducible apply Jqc | with_reducible apply JqK | with_reducible apply JmT | with_reducible apply Jor | with_reducible apply JoV | with_reducible apply JpB | with_reducible apply JqS | with_reducible apply Jqz | with_reducible apply Jq2 | with_reducible apply Jox | with_reducible apply Jpm | with_reducible apply Jpn | with_reducible apply JpE | with_reducible apply JpH | with_reducible apply Jqe | with_reducible apply Jqk | with_reducible apply Jp7 | with_reducible apply Jp8 | with_reducible apply Jqx | with_reducible apply Jq9 | with_reducible apply Jos | with_reducible apply JoT | with_reducible apply Jmq | with_reducible apply Jqj | with_reducible apply Jo7 | with_reducible apply Jq3 | with_reducible apply JpD | with_reducible apply Jql | with_reducible apply Jjm | with_reducible apply JqV | with_reducible apply Jqu | with_reducible apply Jo9 | with_reducible apply Jow | with_reducible apply Jqi | with_reducible apply Jqv | with_reducible apply JqQ | with_reducible apply JqU | with_reducible apply Jp6 | with_reducible apply Jqd | with_reducible apply Jqh | with_reducible apply Jov | with_reducible apply Jqw | with_reducible apply Jo8 | with_reducible apply JpC | with_reducible apply JqO | with_reducible apply JpG | with_reducible apply Jlj | with_reducible apply Jqa | with_reducible apply Jqg | with_reducible apply JqP | with_reducible apply JpF | with_reducible apply Jli | with_reducible apply JiL | with_reducible apply Jp9 | with_reducible apply Jou | with_reducible apply Jqb | with_reducible apply Jll | with_reducible apply Jlm | with_reducible apply Jq7 | with_reducible apply Jqt | with_reducible apply JoP | with_reducible apply JlV | with_reducible apply Jo6 | with_reducible apply JmB | with_reducible apply JjA | with_reducible apply JhV | with_reducible apply Jko | with_reducible apply JhW | with_reducible apply Jgs | with_reducible apply JqR | with_reducible apply JkC | with_reducible apply JqT | with_reducible apply JnE | with_reducible apply JnF | with_reducible apply Jp5 | with_reducible apply Jlh | with_reducible apply JiM | with_reducible apply JiN | with_reducible apply Jlk | with_reducible apply Jq6 | with_reducible apply JgK | with_reducible apply JoQ | with_reducible apply JoR | with_reducible apply JlU | with_reducible apply Jqy | with_reducible apply JoU)
noncomputable def top(i:Nat):Kj:=PySem.Challenge.pw_lumprow_k53_delays.main.body.getD i (.Pass ⟨0,0,0,0⟩)
noncomputable abbrev YB:Kj:=top 8
noncomputable abbrev Vg:Kj:=Jkj (top 7) 0
noncomputable abbrev UR:Kj:=top 15
noncomputable abbrev UQ:Kj:=top 14
noncomputable abbrev Wd:Kj:=top 11
noncomputable abbrev US:Kj:=top 13
noncomputable abbrev Wf:Kj:=top 16
noncomputable abbrev Wc:Kj:=top 9
noncomputable abbrev We:Kj:=top 18
noncomputable abbrev ZI:Kj:=top 17
noncomputable abbrev Vj:Kj:=top 20
noncomputable abbrev Vi:Kj:=top 21
noncomputable abbrev ZH:Kj:=top 26
noncomputable abbrev Uw:Kj:=top 10
noncomputable abbrev Y7:Kj:=top 28
noncomputable abbrev JbD:Kj:=top 29
noncomputable abbrev Jd6:Kj:=top 30
noncomputable abbrev Y9:Kj:=top 35
noncomputable abbrev Ua:Kj:=top 22
noncomputable abbrev Y8:Kj:=top 25
noncomputable abbrev UT:Kj:=top 24
noncomputable abbrev UV:Kj:=top 34
noncomputable abbrev Vh:Kj:=top 32
noncomputable abbrev UU:Kj:=top 33
noncomputable abbrev VJ:Kj:=top 36
local macro_rules | `(tactic| walk_at "c")=>`(tactic| exact⟨rfl,rfl,rfl,by decide +kernel,rfl,by decide +kernel,by decide +kernel⟩)
theorem Jgy:(["begin","length"]:List Str).Nodup:=by decide +kernel
theorem Jpv:(["ahead","stretch","layers"]:List Str).Nodup:=by decide +kernel
theorem Jpw:(["left","right"]:List Str).Nodup:=by decide +kernel
theorem Jpx:(["begin","length","place"]:List Str).Nodup:=by decide +kernel
theorem Jpy:(["spot","number","left"]:List Str).Nodup:=by decide +kernel
theorem Jnr:(["spot","pairs","owed","size"]:List Str).Nodup:=by decide +kernel
theorem JkA:(["begin","length","takes","sets"]:List Str).Nodup:=by decide +kernel
theorem Jpz:(["left","lump"]:List Str).Nodup:=by decide +kernel
theorem JpA:(["size","sizes","k"]:List Str).Nodup:=by decide +kernel
section
variable{P:Qw}{w:QF}{K:Qx}{C:Qd}{mg:Str->Option Qc}{base:QL}
theorem sc_check_stretches:FnScope ["stretches","behind","begin","length"] ["stretches"] (Jg YB):=by walk_at "c"
theorem Vf{f:Qd}{fd:QR}(F:Fun K "check_stretches" "check_stretches" YB f fd) :FnOk P w K mg base CX0 1 f fd ["stretches"] (JbK K):=by
 refine F.ok sc_check_stretches (fun vs H Q E h=>?_) (fun cdv A outer s H vs Q E hr h=>?_)
 ·obtain⟨v,ps,rfl,_⟩:=h;rfl
 ·obtain⟨v,ps,rfl,⟨a,vs,rfl,hq,hp⟩,g,q⟩:=h;have hu:=hr.units;refine⟨_,(Jd (psN 1 sc_check_stretches.nd Wa)
   (Jf (YA Gj rfl (piK K (pv 0)) (JG (K:=K) (n:=2) rfl rfl (Ji (Jt (i:=2) sc_check_stretches.nd rfl (.inl rfl)) (Ji (Jt (i:=3) sc_check_stretches.nd rfl (.inl rfl)) JH)) rfl rfl) (Jd (YK (JC JcN (pv 3) Jh (JK _)) (Jf VG) J4)
   (Jd (YK (PW.pt (ZF (JC JcO (pv 1) Wa (JK _)) (VH (JC Jmd (pv 2) (pv 1) (JK _))))) (Jf VG) J4)
   (Jf (psN 1 sc_check_stretches.nd (Jm (Jff (K:=K) rfl) (pv 2) (pv 3))))))))),?_⟩
  walk_at "rd";refine JgH (H1:=H) (a:=a) (xs:=vs) (fun R r=>⟨_,rfl,r⟩) hq
   (fun i σ' H'=>∃vb vl,σ'=[some (.ref a),some (Jer ps i),vb,vl]/\H'=H) ⟨none,none,rfl,rfl⟩ (fun i σ' H' ⟨_,_,_,e⟩=>e▸Same.refl _) ?_ ?_
  ·rintro i x σ' H' hi ⟨vb,vl,rfl,rfl⟩;obtain⟨p,b,e1,rfl,sp⟩:=hp.at hi;refine Jfq sp rfl ?_;walk_at "rd";refine ifd (fun hlt=>absurd (g.one i p e1) (by omega)) (fun _=>?_);walk_at "rd"
   cases i with
   | zero=>refine ifF rfl ?_;refine ifF rfl ?_;walk_at "rd";exact⟨_,_,by rw[UD e1];rfl,rfl⟩
   | succ j =>
    obtain⟨q1,e2⟩:∃q1,ps[j]?=some q1:=⟨ps[j]'(by have:=(Qm.mp e1).1;omega),by have:=(Qm.mp e1).1;simp[show j<ps.length by omega]⟩
    rw[UD e2];refine ifT rfl ?_;walk_at "rd";refine ifd (fun hle=>absurd (g.gap j q1 p e2 e1) (by omega)) (fun _=>?_);walk_at "rd";exact⟨_,_,by rw[UD e1];rfl,rfl⟩
  ·rintro σ' H' ⟨vb,vl,rfl,rfl⟩;exact q _ (Same.refl _)
theorem JcX:FnScope ["self","stretches"] ["self","stretches"] (Jg Vg):=by walk_at "c"
theorem JcI{f:Qd}{fd:QR}(F:Fun K "__init__" "Row.__init__" Vg f fd)(qp:mg "tuple"=none)(qf:mg "len"=none)(qk:GV mg "MOST_STRETCHES" (.int 30))(qh:Cal P w K mg base "check_stretches" 1 ["stretches"] (JbK K))(T:RowC K C):FnOk P w K mg base CX0 2 f fd ["self","stretches"] (Vk C K):=by
 refine F.ok JcX (fun vs H Q E h=>?_) (fun cdv A outer s H vs Q E hr h=>?_)
 ·obtain⟨x,dx,v,ps,rfl,_⟩:=h;rfl
 ·obtain⟨x,dx,v,ps,rfl,hx,⟨a,vs,rfl,hq,hp⟩,g,hl,q⟩:=h;have hu:=hr.units;refine⟨_,(Jd (YK (JC JcM (Jr (J6 (K:=K) rfl) rfl qf Y6 (Jb (pv 1) Jc)) (Jig rfl qk) (JK _)) (Jf VG) J4)
   (Jd (Ya (Jl qh (hrM hr) rfl (Jb (pv 1) Jc)))
   (Jf (JkU (K:=K) rfl (pv 0) (U1 (Wi (K:=K) rfl) rfl qp WV (Jb (Ys (N':=["begin","length"]) (imp:=[none,none]) rfl (piK K (pv 1)) (JfS rfl rfl) (fun _ _ _ _=>(JG (K:=K) (n:=2) rfl rfl (Ji (pgN 0 Jgy) (Ji (pgN 1 Jgy) JH)) rfl rfl)) (fun _ _ _ _=>Yz) (fun _ _ _ _=>(Yv (Jb (pv 0) (Jb (pv 1) Jc))))) Jc)) rfl)))),?_⟩
  have hn:=hp.len;walk_at "rd";refine JcW hq ?_;walk_at "rd";refine ifd (fun hgt=>absurd hl (by omega)) (fun _=>?_);walk_at "rd";refine Jhj ⟨a,vs,rfl,hq,hp⟩ g fun H1 s1=>?_
  walk_at "rd";refine Jd4 (H1:=H1) (a:=a) (xs:=vs) (fun R r=>⟨_,rfl,r⟩) (hq.imp s1.seq s1.seqT) (GZ (JgM (by omega)))
   (fun i ys σ' H'=>∃vb vl,σ'=[vb,vl]/\Same H1 H'/\Prs K H' ys (ps.take i)) ⟨none,none,rfl,Same.refl _,by rw[List.take_zero];exact RepL.nil⟩
   (fun i ys σ' H' ⟨_,_,_,_,r⟩=>by have:=r.len;rw[this,Kx];omega) (fun i ys σ' H' ⟨_,_,_,s',_⟩=>s') ?_ ?_
  ·rintro i ys y σ' H' hi ⟨vb,vl,rfl,s',r⟩;obtain⟨p,b,e1,rfl,sp⟩:=Prs.at (K:=K) (ps:=ps) (RepL.mono (s1.trans s') hp) hi;refine Jfq sp rfl ?_;walk_at "rd";refine ifT rfl ?_;walk_at "rd";refine Jmv sz2 fun t H2 nt s2 ht=>?_
   refine⟨_,_,rfl,s'.trans s2,?_⟩;rw[List.take_add_one,e1];exact Prs.snoc (RepL.mono s2 r) (JkT ht)
  ·rintro ys σ' H' ⟨vb,vl,rfl,s',r⟩ l H2 nl s2 hl2;walk_at "rd";refine JgI (.of hl2) fun t H3 nt s3 ht=>?_
   walk_at "rd";have sA:Same H H3:=((s1.trans s').trans s2).trans s3;refine⟨x,C,dx,[],rfl,sA _ _ hx,T.cl,T.ns,by decide,?_⟩;rw[hn,List.take_length] at r;have r3:Prs K H3 ys ps:=RepL.mono (s2.trans s3) r;have ntx:t≠x:=JaF ht (sA _ _ hx) (by intro z;cases z);refine q _ t ys (sA.ex_trans SameEx.upd) (by rw[Jir];exact Jk) (by rw[Je ntx];exact ht) ?_;exact Prs.monoIns SameEx.upd (sA _ _ hx) r3
theorem sc_closed_up:FnScope ["pairs","stretches","begin","length","ahead"] ["pairs"] (Jg UR):=by walk_at "c"
theorem Jbs{f:Qd}{fd:QR}(F:Fun K "closed_up" "closed_up" UR f fd)(qr:mg "sum"=none):FnOk P w K mg base CX0 1 f fd ["pairs"] (spE K C 1 Yi) :=
 okE F sc_closed_up rfl fun _ _ _ _ _ _ hr hu=>⟨_,(Jd (psN 1 sc_closed_up.nd (Yu Jc))
  (Jd (YA Gj rfl (piK K (pv 0)) (JG (K:=K) (n:=2) rfl rfl (Ji (Jt (i:=2) sc_closed_up.nd rfl (.inl rfl)) (Ji (Jt (i:=3) sc_closed_up.nd rfl (.inl rfl)) JH)) rfl rfl) (Jf (YK (PW.pt (ZF (YH (K:=K) rfl (pv 1) (fun _=>rfl)) (VH (JC (JdY (K:=K) rfl hu) (Jr (Uc (K:=K) rfl rfl) rfl qr WU (Jb (pxK K (pv 1) (Jik Jek Jh)) Jc)) (pv 2) (JK _))))) (Jd (psN 4 sc_closed_up.nd (Jfg (K:=K) rfl QY PySem.F.slot_list_pop PySem.F.type_list_pop Jno (pv 1)))
  (Jf (Ya (YJ (K:=K) rfl QY GR GS YF (pv 1) (Jb (Yv (Jb (pxK K (pv 4) Jh) (Jb (Jm (Jw (K:=K) rfl) (pxK K (pv 4) Jh) (pv 3)) Jc))) Jc))))) (Jf (YK (JC JcM (pv 3) Jh (JK _)) (Jf (Ya (YJ (K:=K) rfl QY GR GS YF (pv 1) (Jb (Yv (Jb (pv 2) (Jb (pv 3) Jc))) Jc)))) J4)))))
  (Jf (Jy (pv 1))))),by walk_at "s"⟩
theorem JbE:FnScope ["row","layers"] ["row","layers"] (Jg UQ):=by walk_at "c"
theorem Jbr{f:Qd}{fd:QR}(F:Fun K "by_layers" "by_layers" UQ f fd)(qa:mg "enumerate"=none)(T:RowC K C):FnOk P w K mg base CX0 1 f fd ["row","layers"] (spE K C 2 Yh) :=
 okE F JbE rfl fun _ _ _ _ _ _ hr hu=>⟨_,(Jf (Jy (Ys (N':=["ahead","stretch","layers"]) (imp:=[none,none,some 1]) rfl (Zy (K:=K) rfl rfl qa (Jb (Yk (K:=K) rfl (pv 0) rfl) Jc)) (JfT (own:=["ahead","stretch"]) (fr:=[("layers",1)]) rfl rfl rfl ⟨rfl,trivial⟩ rfl ⟨⟨rfl,rfl,rfl⟩,trivial⟩) (fun _ _ _ _=>(JG (K:=K) (n:=2) rfl rfl (Ji (pgN 0 Jpv) (Ji (pgN 1 Jpv) JH)) rfl rfl)) (fun _ _ _ _=>Yz) (fun _ _ _ _=>(Yv (Jb (Jm (Jw (K:=K) rfl) (pxK K (pv 1) Jh) (Jm Ym (Jm Ym Jh (pv 2)) (pv 0))) (Jb (Jm (Jw (K:=K) rfl) (pxK K (pv 1) Jh) (pv 2)) Jc))))))),by walk_at "s"⟩
theorem Jd8:FnScope ["row"] ["row"] (Jg Wd):=by walk_at "c"
theorem JdV{f:Qd}{fd:QR}(F:Fun K "gaps_of" "gaps_of" Wd f fd)(qr:mg "sum"=none)(qL:mg "zip"=none)(T:RowC K C):FnOk P w K mg base CX0 1 f fd ["row"] (spE K C 1 Yt) :=
 okE F Jd8 rfl fun _ _ _ _ _ _ hr hu=>⟨_,(Jf (Jy (Ys (N':=["left","right"]) (imp:=[none,none]) rfl (Jfj (K:=K) rfl rfl qL (Jb (Yk (K:=K) rfl (pv 0) rfl) (Jb (Jii (Jlw (K:=K) rfl) (Yk (K:=K) rfl (pv 0) rfl) (JkR Jh) JkQ) Jc))) (JfS rfl rfl) (fun _ _ _ _=>(JG (K:=K) (n:=2) rfl rfl (Ji (pgN 0 Jpw) (Ji (pgN 1 Jpw) JH)) rfl rfl)) (fun _ _ _ _=>Yz) (fun _ _ _ _=>(Jm Yy (pxK K (pv 1) Jh) (Jr (Uc (K:=K) rfl rfl) rfl qr WU (Jb (pv 0) Jc))))))),by walk_at "s"⟩
theorem JbF:FnScope ["row"] ["row"] (Jg US):=by walk_at "c"
theorem Jbt{f:Qd}{fd:QR}(F:Fun K "closes_at" "closes_at" US f fd)(qE:mg "min"=none)(qq:Cal P w K mg base "gaps_of" 1 ["row"] (spE K C 1 Yt))(T:RowC K C):FnOk P w K mg base CX0 2 f fd ["row"] (spE K C 1 JI) :=
 okE F JbF rfl fun _ _ _ _ _ _ hr hu=>⟨_,(Jf (Jy (JgD (Jdo (K:=K) rfl rfl) rfl qE JaW (Jb (Jm (Jw (K:=K) rfl) (Ys (N':=["begin","length"]) (imp:=[none,none]) rfl (piK K (Yk (K:=K) rfl (pv 0) rfl)) (JfS rfl rfl) (fun _ _ _ _=>(JG (K:=K) (n:=2) rfl rfl (Ji (pgN 0 Jgy) (Ji (pgN 1 Jgy) JH)) rfl rfl)) (fun _ _ _ _=>Yz) (fun _ _ _ _=>(pv 1))) (Jl qq (hrM hr) rfl (Jb (pv 0) Jc))) Jc) Wa))),by walk_at "s"⟩
theorem sc_thinned:FnScope ["row","layers","left","still","at_once"] ["row","layers"] (Jg Wf):=by walk_at "c"
theorem JdX{f:Qd}{fd:QR}(F:Fun K "thinned" "thinned" Wf f fd)(qE:mg "min"=none)(qF:CalM P w K mg base "Row" C 2 ["self","stretches"] (Vk C K))(qy:Cal P w K mg base "closed_up" 1 ["pairs"] (spE K C 1 Yi))(qz:Cal P w K mg base "by_layers" 1 ["row","layers"] (spE K C 2 Yh))(qg:Cal P w K mg base "closes_at" 2 ["row"] (spE K C 1 JI))(T:RowC K C):FnOk P w K mg base CX0 4 f fd ["row","layers"] (spE K C 2 JS) :=
 okE F sc_thinned rfl fun _ _ _ _ _ _ hr hu=>⟨_,(Jd (psN 2 sc_thinned.nd (VF qF (hrM hr) rfl (Jb (Yk (K:=K) rfl (pv 0) rfl) Jc)))
  (Jd (psN 3 sc_thinned.nd (pv 1))
  (Jd (JcT Gj (PW.pt (ZF (JC JcM (pv 3) Jh (JK _)) (VH (YH (K:=K) rfl (Yk (K:=K) rfl (pv 2) rfl) (fun _=>rfl))))) (Jd (psN 4 sc_thinned.nd (Jr (VW rfl) rfl qE JaW (Jb (pv 3) (Jb (Jl qg (hrM hr) rfl (Jb (pv 2) Jc)) Jc))))
  (Jd (psN 2 sc_thinned.nd (VF qF (hrM hr) rfl (Jb (Jl qy (hrM hr) rfl (Jb (Jl qz (hrM hr) rfl (Jb (pv 2) (Jb (Jik Jek (pv 4)) Jc))) Jc)) Jc)))
  (Jf (ZD (i:=3) sc_thinned.nd rfl (.inl rfl) (pv 4) JhN)))))
  (Jf (Jy (pv 2)))))),by walk_at "s"⟩
theorem Jd7:FnScope ["row","place"] ["row","place"] (Jg Wc):=by walk_at "c"
theorem JdU{f:Qd}{fd:QR}(F:Fun K "ball_at" "ball_at" Wc f fd)(qS:mg "any"=none)(T:RowC K C):FnOk P w K mg base CX0 1 f fd ["row","place"] (spE K C 2 YD) :=
 okE F Jd7 rfl fun _ _ _ _ _ _ hr hu=>⟨_,(Jf (Jy (Jr (JfU (K:=K) rfl rfl) rfl qS Jmx (Jb (Ys (N':=["begin","length","place"]) (imp:=[none,none,some 1]) rfl (piK K (Yk (K:=K) rfl (pv 0) rfl)) (JfT (own:=["begin","length"]) (fr:=[("place",1)]) rfl rfl rfl ⟨rfl,trivial⟩ rfl ⟨⟨rfl,rfl,rfl⟩,trivial⟩) (fun _ _ _ _=>(JG (K:=K) (n:=2) rfl rfl (Ji (pgN 0 Jpx) (Ji (pgN 1 Jpx) JH)) rfl rfl)) (fun _ _ _ _=>Yz) (fun _ _ _ _=>(Jif Jmd JcN (pv 0) (pv 2) (Jm (Jw (K:=K) rfl) (pv 0) (pv 1))))) Jc)))),by walk_at "s"⟩
theorem Jd9:FnScope ["left","spot"] ["left","spot"] (Jg We):=by walk_at "c"
theorem JdW{f:Qd}{fd:QR}(F:Fun K "owed_at" "owed_at" We f fd)(qC:Cal P w K mg base "ball_at" 1 ["row","place"] (spE K C 2 YD)):FnOk P w K mg base CX0 2 f fd ["left","spot"] (spE K C 2 YV) :=
 okE F Jd9 rfl fun _ _ _ _ _ _ hr hu=>⟨_,(Jf (Jy (JcQ (PW.pt (ZF (YH (K:=K) rfl (Jl qC (hrM hr) rfl (Jb (pv 0) (Jb (Jm Yy (pv 1) Jh) Jc))) (fun _=>rfl)) (VH (ZE (YH (K:=K) rfl (Jl qC (hrM hr) rfl (Jb (pv 0) (Jb (pv 1) Jc))) (fun _=>rfl)))))) Jh Jh))),by walk_at "s"⟩
theorem sc_struck:FnScope ["row","left","pairs","ahead","stretch","spot"] ["row"] (Jg ZI):=by walk_at "c"
theorem JgB{f:Qd}{fd:QR}(F:Fun K "struck" "struck" ZI f fd)(qa:mg "enumerate"=none)(qr:mg "sum"=none)(qG:Cal P w K mg base "owed_at" 2 ["left","spot"] (spE K C 2 YV))(ql:Cal P w K mg base "thinned" 4 ["row","layers"] (spE K C 2 JS))(T:RowC K C):FnOk P w K mg base CX0 5 f fd ["row"] (spE K C 1 YT) :=
 okE F sc_struck rfl fun _ _ _ _ _ _ hr hu=>⟨_,(Jd (JbC (i:=1) sc_struck.nd rfl (.inr rfl) (Jl ql (hrM hr) rfl (Jb (pv 0) (Jb Jh Jc))))
  (Jd (psN 2 sc_struck.nd Zw)
  (Jd (YA Gj rfl (Zy (K:=K) rfl rfl qa (Jb (Yk (K:=K) rfl (pv 0) rfl) Jc)) (JG (K:=K) (n:=2) rfl rfl (Ji (Jt (i:=3) sc_struck.nd rfl (.inl rfl)) (Ji (Jt (i:=4) sc_struck.nd rfl (.inl rfl)) JH)) rfl rfl) (Jd (psN 5 sc_struck.nd (Jm Yy (Jm Yy (Jr (Uc (K:=K) rfl rfl) rfl qr WU (Jb (pv 4) Jc)) Jh) (Jm Ym Jh (pv 3))))
  (Jf (JbB (UI hr) (pv 2) (pv 5) (Jm (Jw (K:=K) rfl) (JcP (UI hr) (pv 2) (pv 5) Jh ⟨rfl,rfl,rfl,rfl⟩) Jh) rfl))))
  (Jf (JkV 2 (Jy (Ys (N':=["spot","number","left"]) (imp:=[none,none,some 1]) rfl (Jim (pv 2)) (JfT (own:=["spot","number"]) (fr:=[("left",1)]) rfl rfl rfl ⟨rfl,trivial⟩ rfl ⟨⟨rfl,rfl,rfl⟩,trivial⟩) (fun _ _ _ _=>(JG (K:=K) (n:=2) rfl rfl (Ji (pgN 0 Jpy) (Ji (pgN 1 Jpy) JH)) rfl rfl)) (fun _ _ _ _=>Yz) (fun _ _ _ _=>(Yv (Jb (pv 0) (Jb (pv 1) (Jb (Jl qG (hrM hr) rfl (Jb (pv 2) (Jb (pv 0) Jc))) Jc)))))))))))),by walk_at "s"⟩
theorem sc_table_of:FnScope ["row","table","left","size","layers"] ["row"] (Jg Vj):=by walk_at "c"
theorem JcL{f:Qd}{fd:QR}(F:Fun K "table_of" "table_of" Vj f fd)(ql:Cal P w K mg base "thinned" 4 ["row","layers"] (spE K C 2 JS))(qK:Cal P w K mg base "struck" 5 ["row"] (spE K C 1 YT))(qg:Cal P w K mg base "closes_at" 2 ["row"] (spE K C 1 JI))(T:RowC K C):FnOk P w K mg base CX0 6 f fd ["row"] (spE K C 1 Yc) :=
 okE F sc_table_of rfl fun _ _ _ _ _ _ hr hu=>⟨_,(Jd (psN 1 sc_table_of.nd (Yu Jc))
  (Jd (psN 2 sc_table_of.nd (pv 0))
  (Jd (JbC (i:=3) sc_table_of.nd rfl (.inr rfl) Jh)
  (Jd (JcT Gj (YH (K:=K) rfl (Yk (K:=K) rfl (pv 2) rfl) (fun _=>rfl)) (Jd (psN 4 sc_table_of.nd (Jl qg (hrM hr) rfl (Jb (pv 2) Jc)))
  (Jd (ZD (i:=3) sc_table_of.nd rfl (.inr rfl) (pv 4) JdH)
  (Jd (psN 2 sc_table_of.nd (Jl ql (hrM hr) rfl (Jb (pv 2) (Jb (Jm Yy (pv 4) Jh) Jc))))
  (Jd (Ya (YJ (K:=K) rfl QY KQ KR U0 (pv 1) (Jb (Ys (N':=["spot","pairs","owed","size"]) (imp:=[none,none,none,some 3]) rfl (piK K (Jl qK (hrM hr) rfl (Jb (pv 2) Jc))) (JfT (own:=["spot","pairs","owed"]) (fr:=[("size",3)]) rfl rfl rfl ⟨rfl,trivial⟩ rfl ⟨⟨rfl,rfl,rfl⟩,trivial⟩) (fun _ _ _ _=>(JG (K:=K) (n:=3) rfl rfl (Ji (pgN 0 Jnr) (Ji (pgN 1 Jnr) (Ji (pgN 2 Jnr) JH))) rfl rfl)) (fun _ _ _ _=>(Zz (JC JcM (pv 1) (pv 2) (JK _)))) (fun _ _ _ _=>(Yv (Jb (pv 3) (Jb (pv 0) (Jb (Jm Yy (pv 1) (pv 2)) Jc)))))) Jc)))
  (Jf (psN 2 sc_table_of.nd (Jl ql (hrM hr) rfl (Jb (pv 2) (Jb Jh Jc))))))))))
  (Jf (Jy (pv 1))))))),by walk_at "s"⟩
theorem sc_lumps_of:FnScope ["row","numbers","size","spot","number"] ["row"] (Jg Vi):=by walk_at "c"
theorem JcK{f:Qd}{fd:QR}(F:Fun K "lumps_of" "lumps_of" Vi f fd)(qH:mg "list"=none)(qm:Cal P w K mg base "table_of" 6 ["row"] (spE K C 1 Yc)):FnOk P w K mg base CX0 7 f fd ["row"] (spE K C 1 J0) :=
 okE F sc_lumps_of rfl fun _ _ _ _ _ _ hr hu=>⟨_,(Jd (psN 1 sc_lumps_of.nd Zw)
  (Jd (YA Gj rfl (piK K (Jl qm (hrM hr) rfl (Jb (pv 0) Jc))) (JG (K:=K) (n:=3) rfl rfl (Ji (Jt (i:=2) sc_lumps_of.nd rfl (.inl rfl)) (Ji (Jt (i:=3) sc_lumps_of.nd rfl (.inl rfl)) (Ji (Jt (i:=4) sc_lumps_of.nd rfl (.inl rfl)) JH))) rfl rfl) (Jf (JbB (UI hr) (pv 1) (pv 2) (Jm (Jw (K:=K) rfl) (JcP (UI hr) (pv 1) (pv 2) Jh ⟨rfl,rfl,rfl,rfl⟩) (pv 4)) rfl)))
  (Jf (Jy (U1 (Jdn rfl) rfl qH Jeu (Jb (Jih (pv 1)) Jc)))))),by walk_at "s"⟩
theorem sc_delays:FnScope ["row","told","greater","lesser_sizes","size","number"] ["row"] (Jg ZH):=by walk_at "c"
theorem JgA{f:Qd}{fd:QR}(F:Fun K "delays" "delays" ZH f fd)(qf:mg "len"=none)(qo:Cal P w K mg base "lumps_of" 7 ["row"] (spE K C 1 J0))(T:RowC K C):FnOk P w K mg base CX0 8 f fd ["row"] (spE K C 1 JQ) :=
 okE F sc_delays rfl fun _ _ _ _ _ _ hr hu=>⟨_,(Jd (psN 1 sc_delays.nd (Yu Jc))
  (Jd (psN 2 sc_delays.nd (Jr (J6 (K:=K) rfl) rfl qf Y6 (Jb (Yk (K:=K) rfl (pv 0) rfl) Jc)))
  (Jd (psN 3 sc_delays.nd Jh)
  (Jd (YA Gj rfl (piK K (Jl qo (hrM hr) rfl (Jb (pv 0) Jc))) (JG (K:=K) (n:=2) rfl rfl (Ji (Jt (i:=4) sc_delays.nd rfl (.inl rfl)) (Ji (Jt (i:=5) sc_delays.nd rfl (.inl rfl)) JH)) rfl rfl) (Jd (ZD (i:=2) sc_delays.nd rfl (.inl rfl) (pv 5) JhN)
  (Jd (Ya (YJ (K:=K) rfl QY KQ KR U0 (pv 1) (Jb (Jm JdZ (Yu (Jb (Yv (Jb (pv 4) (Jb (Jm Yy (Jm Ym Jh (pv 3)) (Jm Ym (Jm Ym Jh (pv 4)) (pv 2))) Jc))) Jc)) (pv 5)) Jc)))
  (Jf (ZD (i:=3) sc_delays.nd rfl (.inl rfl) (Jm Ym (pv 4) (pv 5)) JdH)))))
  (Jf (Jy (pv 1))))))),by walk_at "s"⟩
theorem Z0:FnScope ["row"] ["row"] (Jg Uw):=by walk_at "c"
theorem ZZ{f:Qd}{fd:QR}(F:Fun K "ball_count" "ball_count" Uw f fd)(qr:mg "sum"=none)(T:RowC K C):FnOk P w K mg base CX0 1 f fd ["row"] (spE K C 1 J7) :=
 okE F Z0 rfl fun _ _ _ _ _ _ hr hu=>⟨_,(Jf (Jy (Jr (Uc (K:=K) rfl rfl) rfl qr WU (Jb (Ys (N':=["begin","length"]) (imp:=[none,none]) rfl (piK K (Yk (K:=K) rfl (pv 0) rfl)) (JfS rfl rfl) (fun _ _ _ _=>(JG (K:=K) (n:=2) rfl rfl (Ji (pgN 0 Jgy) (Ji (pgN 1 Jgy) JH)) rfl rfl)) (fun _ _ _ _=>Yz) (fun _ _ _ _=>(pv 1))) Jc)))),by walk_at "s"⟩
theorem ZJ:FnScope ["seats"] ["seats"] (Jg Y7):=by walk_at "c"
theorem Zs{f:Qd}{fd:QR}(F:Fun K "check_seats" "check_seats" Y7 f fd) :FnOk P w K mg base CX0 1 f fd ["seats"] (spE K C 1 Yb) :=
 okE F ZJ rfl fun _ _ _ _ _ _ hr hu=>⟨_,(Jf (YK (PW.pt (ZF (JC JcO (pv 0) Wa (JK _)) (VH (JC JcN (pv 0) Jh (JK _))))) (Jf VG) J4)),by walk_at "s"⟩
theorem sc_stops:FnScope ["row","seats","most","told","load","stretch","gap","takes","sets"] ["row","seats"] (Jg JbD):=by walk_at "c"
theorem Jid{f:Qd}{fd:QR}(F:Fun K "stops" "stops" JbD f fd)(qL:mg "zip"=none)(qE:mg "min"=none)(qq:Cal P w K mg base "gaps_of" 1 ["row"] (spE K C 1 Yt))(qv:Cal P w K mg base "ball_count" 1 ["row"] (spE K C 1 J7))(qt:Cal P w K mg base "check_seats" 1 ["seats"] (spE K C 1 Yb))(T:RowC K C):FnOk P w K mg base CX0 2 f fd ["row","seats"] (spE K C 2 UF) :=
 okE F sc_stops rfl fun _ _ _ _ _ _ hr hu=>⟨_,(Jd (Ya (Jl qt (hrM hr) rfl (Jb (pv 1) Jc)))
  (Jd (psN 2 sc_stops.nd (JcQ (JC JkI (pv 1) Wa (JK _)) (Jl qv (hrM hr) rfl (Jb (pv 0) Jc)) (pv 1)))
  (Jd (psN 3 sc_stops.nd (Yu Jc))
  (Jd (psN 4 sc_stops.nd Jh)
  (Jd (YA Gj rfl (Jfj (K:=K) rfl rfl qL (Jb (Yk (K:=K) rfl (pv 0) rfl) (Jb (Jm (Jw (K:=K) rfl) (Jl qq (hrM hr) rfl (Jb (pv 0) Jc)) (Yu (Jb (pv 2) Jc))) Jc))) (JG (K:=K) (n:=2) rfl rfl (Ji (Jt (i:=5) sc_stops.nd rfl (.inl rfl)) (Ji (Jt (i:=6) sc_stops.nd rfl (.inl rfl)) JH)) rfl rfl) (Jd (psN 7 sc_stops.nd (Jr (VW rfl) rfl qE JaW (Jb (pxK K (pv 5) Jh) (Jb (Jm Yy (pv 2) (pv 4)) Jc))))
  (Jd (psN 8 sc_stops.nd (Jr (VW rfl) rfl qE JaW (Jb (Jm (Jw (K:=K) rfl) (pv 4) (pv 7)) (Jb (pv 6) Jc))))
  (Jd (psN 4 sc_stops.nd (Jm Yy (Jm (Jw (K:=K) rfl) (pv 4) (pv 7)) (pv 8)))
  (Jf (Ya (YJ (K:=K) rfl QY GR GS YF (pv 3) (Jb (Jm (Jw (K:=K) rfl) (pv 5) (Yv (Jb (pv 7) (Jb (pv 8) Jc)))) Jc))))))))
  (Jf (Jy (pv 3)))))))),by walk_at "s"⟩
theorem Jln:FnScope ["row","seats"] ["row","seats"] (Jg Jd6):=by walk_at "c"
theorem JkE{f:Qd}{fd:QR}(F:Fun K "gone" "gone" Jd6 f fd)(qF:CalM P w K mg base "Row" C 2 ["self","stretches"] (Vk C K))(qM:Cal P w K mg base "stops" 2 ["row","seats"] (spE K C 2 UF)):FnOk P w K mg base CX0 4 f fd ["row","seats"] (spE K C 2 UY) :=
 okE F Jln rfl fun _ _ _ _ _ _ hr hu=>⟨_,(Jf (Jy (VF qF (hrM hr) rfl (Jb (Ys (N':=["begin","length","takes","sets"]) (imp:=[none,none,none,none]) rfl (piK K (Jl qM (hrM hr) rfl (Jb (pv 0) (Jb (pv 1) Jc)))) (JfS rfl rfl) (fun _ _ _ _=>(JG (K:=K) (n:=4) rfl rfl (Ji (pgN 0 JkA) (Ji (pgN 1 JkA) (Ji (pgN 2 JkA) (Ji (pgN 3 JkA) JH)))) rfl rfl)) (fun _ _ _ _=>Yz) (fun _ _ _ _=>(Yv (Jb (Jm (Jw (K:=K) rfl) (pv 0) (pv 2)) (Jb (Jm (Jw (K:=K) rfl) (Jm Yy (pv 1) (pv 2)) (pv 3)) Jc))))) Jc)))),by walk_at "s"⟩
theorem sc_law_by_size:FnScope ["lines","found","size","begin"] ["lines"] (Jg Y9):=by walk_at "c"
theorem Zu{f:Qd}{fd:QR}(F:Fun K "_law_by_size" "_law_by_size" Y9 f fd) :FnOk P w K mg base CX0 1 f fd ["lines"] (spE K C 1 JE) :=
 okE F sc_law_by_size rfl fun _ _ _ _ _ _ hr hu=>⟨_,(Jd (psN 1 sc_law_by_size.nd Zw)
  (Jd (YA Gj rfl (piK K (pv 0)) (JG (K:=K) (n:=2) rfl rfl (Ji (Jt (i:=2) sc_law_by_size.nd rfl (.inl rfl)) (Ji (Jt (i:=3) sc_law_by_size.nd rfl (.inl rfl)) JH)) rfl rfl) (Jd (YK (JnQ (JgC (UI hr) (pv 2) (pv 1)) rfl) (Jf (JbB (UI hr) (pv 1) (pv 2) (Yu Jc) rfl)) J4) (Jf (Ya (YJ (K:=K) rfl QY GR GS YF (VE (UI hr) (pv 1) (pv 2) (fun _ _=>rfl)) (Jb (pv 3) Jc))))))
  (Jf (Jy (pv 1))))),(Jjn (Jmq JiL)
  (Jjn (JoS (Jqa 0) (JmV (JeV (Jl1 (by decide)) (JeV (Jl1 (by decide)) JmU)) rfl) (JiO 3))
  Jjm))⟩
theorem sc_lumps_apart:FnScope ["row","lumps","size","spot","number"] ["row"] (Jg Ua):=by walk_at "c"
theorem Zv{f:Qd}{fd:QR}(F:Fun K "lumps_apart" "lumps_apart" Ua f fd)(qm:Cal P w K mg base "table_of" 6 ["row"] (spE K C 1 Yc)):FnOk P w K mg base CX0 7 f fd ["row"] (spE K C 1 JM) :=
 okE F sc_lumps_apart rfl fun _ _ _ _ _ _ hr hu=>⟨_,(Jd (psN 1 sc_lumps_apart.nd (Yu Jc))
  (Jd (YA Gj rfl (piK K (Jl qm (hrM hr) rfl (Jb (pv 0) Jc))) (JG (K:=K) (n:=3) rfl rfl (Ji (Jt (i:=2) sc_lumps_apart.nd rfl (.inl rfl)) (Ji (Jt (i:=3) sc_lumps_apart.nd rfl (.inl rfl)) (Ji (Jt (i:=4) sc_lumps_apart.nd rfl (.inl rfl)) JH))) rfl rfl) (Jf (Ya (YJ (K:=K) rfl QY KQ KR U0 (pv 1) (Jb (Jm JdZ (Yu (Jb (Yv (Jb (pv 2) (Jb (pv 3) Jc))) Jc)) (pv 4)) Jc)))))
  (Jf (Jy (pv 1))))),by walk_at "s"⟩
theorem sc_early_lines:FnScope ["row","lumps"] ["row"] (Jg Y8):=by walk_at "c"
theorem Zt{f:Qd}{fd:QR}(F:Fun K "early_lines" "early_lines" Y8 f fd)(qa:mg "enumerate"=none)(qi:mg "sorted"=none)(qd:Cal P w K mg base "lumps_apart" 7 ["row"] (spE K C 1 JM))(aL:nsIn K mainGlobals "early_lines"=some (some (.ref f)))(hTs:(Y1 K).isSome=true)(hB:JaQ mg base):FnOk P w K mg base CX0 8 f fd ["row"] (spE K C 1 JW) :=
 JqW F sc_early_lines rfl aL hTs rfl fun _ _ _ _ _ _ L hr hu=>⟨_,(Jd (psN 1 sc_early_lines.nd (Jij L hB (hrM hr) rfl rfl rfl rfl rfl rfl qi (Jb (Jl qd (hrM hr) rfl (Jb (pv 0) Jc)) Jc) (fun _ _ _ _=>rfl) (by decide) (by decide) rfl))
  (Jf (Jy (Ys (N':=["left","lump"]) (imp:=[none,none]) rfl (Zy (K:=K) rfl rfl qa (Jb (pv 1) Jc)) (JfS rfl rfl) (fun _ _ _ _=>(JG (K:=K) (n:=2) rfl rfl (Ji (pgN 0 Jpz) (Ji (pgN 1 Jpz) JH)) rfl rfl)) (fun _ _ _ _=>Yz) (fun _ _ _ _=>(Yv (Jb (pxK K (pv 1) Jh) (Jb (Jm (Jw (K:=K) rfl) (pxK K (pv 1) Jh) (Jm Ym (Jm Ym Jh (pxK K (pv 1) Jh)) (pv 0))) Jc)))))))),by walk_at "s"⟩
theorem sc_far_lines:FnScope ["row","lines","left","size","spot"] ["row"] (Jg UT):=by walk_at "c"
theorem Jbu{f:Qd}{fd:QR}(F:Fun K "far_lines" "far_lines" UT f fd)(qd:Cal P w K mg base "lumps_apart" 7 ["row"] (spE K C 1 JM)):FnOk P w K mg base CX0 8 f fd ["row"] (spE K C 1 Yj) :=
 okE F sc_far_lines rfl fun _ _ _ _ _ _ hr hu=>⟨_,(Jd (psN 1 sc_far_lines.nd (Yu Jc))
  (Jd (psN 2 sc_far_lines.nd Jh)
  (Jd (YA Gj rfl (piK K (Jl qd (hrM hr) rfl (Jb (pv 0) Jc))) (JG (K:=K) (n:=2) rfl rfl (Ji (Jt (i:=3) sc_far_lines.nd rfl (.inl rfl)) (Ji (Jt (i:=4) sc_far_lines.nd rfl (.inl rfl)) JH)) rfl rfl) (Jd (Ya (YJ (K:=K) rfl QY GR GS YF (pv 1) (Jb (Yv (Jb (pv 3) (Jb (Jm (Jw (K:=K) rfl) (pv 4) (Jm Ym Jh (pv 2))) Jc))) Jc)))
  (Jf (ZD (i:=2) sc_far_lines.nd rfl (.inl rfl) (pv 3) JdH))))
  (Jf (Jy (pv 1)))))),by walk_at "s"⟩
theorem sc_law_lines:FnScope ["found","many","pair","part"] ["found","many"] (Jg UV):=by walk_at "c"
theorem Jbw{f:Qd}{fd:QR}(F:Fun K "_law_lines" "_law_lines" UV f fd)(qe:mg "isinstance"=none)(qP:mg "bool"=none)(qT:mg "int"=none)(qf:mg "len"=none)(qp:mg "tuple"=none)(qH:mg "list"=none):FnOk P w K mg base CX0 1 f fd ["found","many"] (spE K C 2 J2) :=
 okE F sc_law_lines rfl fun _ _ _ _ _ _ hr hu=>⟨_,(Jd (YK (PW.pt (JcU (ZE (YH (K:=K) rfl (Jr (UX (K:=K) rfl) rfl qe YG (Jb (pv 0) (Jb (WK (v:=V.ty "list") rfl qH Jeu rfl) Jc))) (fun _=>rfl))) (ZG (JC (V9 (K:=K) rfl hu) (Jr (J6 (K:=K) rfl) rfl qf Y6 (Jb (pv 0) Jc)) (pv 1) (JK _))))) (Jf (Jy VD)) J4)
  (Jd (YA Gj rfl (piK K (pv 0)) (Jt (i:=2) sc_law_lines.nd rfl (.inl rfl)) (Jd (YK (PW.pt (JcU (ZE (YH (K:=K) rfl (Jr (UX (K:=K) rfl) rfl qe YG (Jb (pv 2) (Jb (WK (v:=V.ty "tuple") rfl qp WV rfl) Jc))) (fun _=>rfl))) (ZG (JC (V9 (K:=K) rfl hu) (Jr (J6 (K:=K) rfl) rfl qf Y6 (Jb (pv 2) Jc)) Jh (JK _))))) (Jf (Jy VD)) J4)
  (Jf (YA Gj rfl (piK K (pv 2)) (Jt (i:=3) sc_law_lines.nd rfl (.inl rfl)) (Jf (YK (PW.pt (JcU (ZE (YH (K:=K) rfl (Jr (UX (K:=K) rfl) rfl qe YG (Jb (pv 3) (Jb (WK (v:=V.ty "int") rfl qT Jmy rfl) Jc))) (fun _=>rfl))) (ZG (YH (K:=K) rfl (Jr (UX (K:=K) rfl) rfl qe YG (Jb (pv 3) (Jb (WK (v:=V.ty "bool") rfl qP Jjz rfl) Jc))) (fun _=>rfl))))) (Jf (Jy VD)) J4))))))
  (Jf (Jy VD)))),by walk_at "s"⟩
theorem JcY:FnScope ["script","k"] ["script","k"] (Jg Vh):=by walk_at "c"
theorem JcJ{f:Qd}{fd:QR}(F:Fun K "_law_cell" "_law_cell" Vh f fd)(qf:mg "len"=none):FnOk P w K mg base CX0 1 f fd ["script","k"] (spE K C 2 Ju) :=
 okE F JcY rfl fun _ _ _ _ _ _ hr hu=>⟨_,(Jd (YK (JC JcN (pv 1) (Jr (J6 (K:=K) rfl) rfl qf Y6 (Jb (pv 0) Jc)) (JK _)) (Jf (Jy (pxK K (pv 0) (pv 1)))) J4)
  (Jf (Jy Jh))),by walk_at "s"⟩
theorem sc_law_drawn:FnScope ["script","first","many","span","at","row","k","length"] ["script","first","many","span"] (Jg UU):=by walk_at "c"
theorem Jbv{f:Qd}{fd:QR}(F:Fun K "_law_drawn" "_law_drawn" UU f fd)(qD:mg "range"=none)(qb:Cal P w K mg base "_law_cell" 1 ["script","k"] (spE K C 2 Ju)):FnOk P w K mg base CX0 2 f fd ["script","first","many","span"] (spE K C 4 JJ) :=
 okE F sc_law_drawn rfl fun _ _ _ _ _ _ hr hu=>⟨_,(Jd (psN 4 sc_law_drawn.nd (Jm Yy (Jm UL (Jl qb (hrM hr) rfl (Jb (pv 0) (Jb (pv 1) Jc))) (Jm (Jw (K:=K) rfl) (Jm Ym Jh (pv 3)) Jh)) (pv 3)))
  (Jd (psN 5 sc_law_drawn.nd (Yu Jc))
  (Jd (YA Gj rfl (JaG rfl qD (Jb (pv 2) Jc)) (Jt (i:=6) sc_law_drawn.nd rfl (.inl rfl)) (Jd (psN 7 sc_law_drawn.nd (Jm (Jw (K:=K) rfl) Jh (Jm UL (Jl qb (hrM hr) rfl (Jb (pv 0) (Jb (Jm (Jw (K:=K) rfl) (Jm (Jw (K:=K) rfl) (pv 1) Jh) (Jm Ym Jh (pv 6))) Jc))) (pv 3))))
  (Jd (Ya (YJ (K:=K) rfl QY GR GS YF (pv 5) (Jb (Yv (Jb (pv 4) (Jb (pv 7) Jc))) Jc)))
  (Jf (psN 4 sc_law_drawn.nd (Jm (Jw (K:=K) rfl) (Jm (Jw (K:=K) rfl) (Jm (Jw (K:=K) rfl) (pv 4) (pv 7)) Jh) (Jm UL (Jl qb (hrM hr) rfl (Jb (pv 0) (Jb (Jm (Jw (K:=K) rfl) (Jm (Jw (K:=K) rfl) (pv 1) Jh) (Jm Ym Jh (pv 6))) Jc))) (pv 3))))))))
  (Jf (Jy (pv 5)))))),by walk_at "s"⟩
theorem sc_law:FnScope ["script","lead","cell","drawn","row","spent","found","sizes","size","number","far","ahead","k","due","place","seats"] ["script"] (Jg VJ):=by walk_at "c"
theorem Jnx{f:Qd}{fd:QR}(F:Fun K "law" "law" VJ f fd)(qp:mg "tuple"=none)(qD:mg "range"=none)(qf:mg "len"=none)(qr:mg "sum"=none)(qi:mg "sorted"=none)(qR:mg "set"=none)(qA:Cal P w K mg base "delays" 8 ["row"] (spE K C 1 JQ))(qQ:Cal P w K mg base "gone" 4 ["row","seats"] (spE K C 2 UY))(qj:Cal P w K mg base "_law_by_size" 1 ["lines"] (spE K C 1 JE))(qu:Cal P w K mg base "early_lines" 8 ["row"] (spE K C 1 JW))(qB:Cal P w K mg base "far_lines" 8 ["row"] (spE K C 1 Yj))(qo:Cal P w K mg base "lumps_of" 7 ["row"] (spE K C 1 J0))(qw:Cal P w K mg base "_law_lines" 1 ["found","many"] (spE K C 2 J2))(qF:CalM P w K mg base "Row" C 2 ["self","stretches"] (Vk C K))(qx:Cal P w K mg base "_law_drawn" 2 ["script","first","many","span"] (spE K C 4 JJ))(qb:Cal P w K mg base "_law_cell" 1 ["script","k"] (spE K C 2 Ju))(T:RowC K C):FnOk P w K mg base CX0 9 f fd ["script"] (spE K C 1 Jdx) :=
 okE F sc_law rfl fun _ _ _ _ _ _ hr hu=>⟨_,(Jd (psN 1 sc_law.nd (Jl qb (hrM hr) rfl (Jb (pv 0) (Jb Jh Jc))))
  (Jd (psN 2 sc_law.nd (Jl qb (hrM hr) rfl (Jb (pv 0) (Jb Jh Jc))))
  (Jd (psN 3 sc_law.nd (Jl qx (hrM hr) rfl (Jb (pv 0) (Jb Jh (Jb (Jm UL (pv 1) Jh) (Jb (pxK K (Yu (Jb Jh (Jb Jh (Jb Jh (Jb (Jm Jie Jh Jh) Jc))))) (Jm UL (Jm Jbx (pv 1) Jh) Jh)) Jc))))))
  (Jd (psN 4 sc_law.nd (VF qF (hrM hr) rfl (Jb (pv 3) Jc)))
  (Jd (psN 5 sc_law.nd (Jl qA (hrM hr) rfl (Jb (pv 4) Jc)))
  (Jd (Ya (YJ (K:=K) rfl QY GR GS YF (pv 5) (Jb (Yv (Jb Jh (Jb Jh Jc))) Jc)))
  (Jd (Ya (Jfg (K:=K) rfl QY PySem.F.slot_list_reverse PySem.F.type_list_reverse JdS (pv 5)))
  (Jd (psN 6 sc_law.nd (Jl qA (hrM hr) rfl (Jb (pv 4) Jc)))
  (Jd (YK (ZE (YH (K:=K) rfl (Jl qw (hrM hr) rfl (Jb (pv 6) (Jb (Jr (J6 (K:=K) rfl) rfl qf Y6 (Jb (pv 3) Jc)) Jc))) (fun _=>rfl))) (Jf (Jy VD)) J4)
  (Jd (JbC (i:=7) sc_law.nd rfl (.inr rfl) (Yu Jc))
  (Jd (YA Gj rfl (piK K (Jl qo (hrM hr) rfl (Jb (pv 4) Jc))) (JG (K:=K) (n:=2) rfl rfl (Ji (Jt (i:=8) sc_law.nd rfl (.inl rfl)) (Ji (Jt (i:=9) sc_law.nd rfl (.inl rfl)) JH)) rfl rfl) (Jf (Ya (YJ (K:=K) rfl QY KQ KR U0 (pv 7) (Jb (Jm JdZ (Yu (Jb (pv 8) Jc)) (pv 9)) Jc)))))
  (Jd (psN 10 sc_law.nd (Jl qj (hrM hr) rfl (Jb (Jl qB (hrM hr) rfl (Jb (pv 4) Jc)) Jc)))
  (Jd (psN 11 sc_law.nd (Jl qj (hrM hr) rfl (Jb (Jl qu (hrM hr) rfl (Jb (pv 4) Jc)) Jc)))
  (Jd (YK (PW.pt (JcU (JC (V9 (K:=K) rfl hu) (Jr (WW rfl) rfl qi VV (Jb (Jfi (pv 10)) Jc)) (JcR (K:=K) rfl rfl rfl qi rfl qR (pv 7)) (JK _)) (ZG (JC (V9 (K:=K) rfl hu) (Jr (WW rfl) rfl qi VV (Jb (Jfi (pv 11)) Jc)) (JcR (K:=K) rfl rfl rfl qi rfl qR (pv 7)) (JK _))))) (Jf (Jy VD)) J4)
  (Jd (YA Gj rfl (JaG rfl qD (Jb (Jr (J6 (K:=K) rfl) rfl qf Y6 (Jb (pv 7) Jc)) Jc)) (Jt (i:=12) sc_law.nd rfl (.inr rfl)) (Jd (psN 13 sc_law.nd (Jm Ym Jh (Jr (Uc (K:=K) rfl rfl) rfl qr WU (Jb (Ys (N':=["size","sizes","k"]) (imp:=[none,some 7,some 12]) rfl (piK K (pv 7)) (JfT (own:=["size"]) (fr:=[("sizes",7),("k",12)]) rfl rfl rfl ⟨rfl,rfl,trivial⟩ rfl ⟨⟨rfl,rfl,rfl⟩,⟨rfl,rfl,rfl⟩,trivial⟩) (fun _ _ _ _=>(pgN 0 JpA)) (fun _ _ _ _=>(Zz (JC JcN (pv 0) (pxK K (pv 1) (pv 2)) (JK _)))) (fun _ _ _ _=>(pv 0))) Jc))))
  (Jd (psN 13 sc_law.nd (Jm Yy (pv 13) (Jm Ym (Jm Ym Jh (pxK K (pv 7) (pv 12))) (Jr (J6 (K:=K) rfl) rfl qf Y6 (Jb (Ys (N':=["size","sizes","k"]) (imp:=[none,some 7,some 12]) rfl (piK K (pv 7)) (JfT (own:=["size"]) (fr:=[("sizes",7),("k",12)]) rfl rfl rfl ⟨rfl,rfl,trivial⟩ rfl ⟨⟨rfl,rfl,rfl⟩,⟨rfl,rfl,rfl⟩,trivial⟩) (fun _ _ _ _=>(pgN 0 JpA)) (fun _ _ _ _=>(Zz (JC JcM (pv 0) (pxK K (pv 1) (pv 2)) (JK _)))) (fun _ _ _ _=>(pv 0))) Jc)))))
  (Jd (YK (JC (V9 (K:=K) rfl hu) (pxK K (pv 6) (pv 12)) (Yv (Jb (pxK K (pv 7) (pv 12)) (Jb (pv 13) Jc))) (JK _)) (Jf (Jy VD)) J4)
  (Jd (psN 14 sc_law.nd (Jm Yy (pv 12) (YJ (K:=K) rfl QY PySem.F.slot_list_index PySem.F.type_list_index Jgx (pv 7) (Jb (pxK K (pv 7) (pv 12)) Jc))))
  (Jd (YK (PW.pt (JcU (JC Jmc (pv 14) (Jr (J6 (K:=K) rfl) rfl qf Y6 (Jb (VE (UI hr) (pv 10) (pxK K (pv 7) (pv 12)) (fun _ _=>rfl)) Jc)) (JK _)) (ZG (JC Jmc (pv 14) (Jr (J6 (K:=K) rfl) rfl qf Y6 (Jb (VE (UI hr) (pv 11) (pxK K (pv 7) (pv 12)) (fun _ _=>rfl)) Jc)) (JK _))))) (Jf (Jy VD)) J4)
  (Jf (YK (JC (V9 (K:=K) rfl hu) (Jm Yy (pxK K (VE (UI hr) (pv 10) (pxK K (pv 7) (pv 12)) (fun _ _=>rfl)) (pv 14)) (pxK K (VE (UI hr) (pv 11) (pxK K (pv 7) (pv 12)) (fun _ _=>rfl)) (pv 14))) (pv 13) (JK _)) (Jf (Jy VD)) J4))))))))
  (Jd (psN 15 sc_law.nd (pxK K (Yu (Jb Wa (Jb (Jm (Jw (K:=K) rfl) Jh (Jm UL (Jm Jbx (pv 2) Jh) Jh)) (Jb (Jm (Jw (K:=K) rfl) Jh (Jm UL (Jm Jbx (pv 2) Jh) (Jm Jie Jh Jh))) Jc)))) (Jm UL (pv 2) Jh)))
  (Jf (Jy (JnG (Jfh (JdY (K:=K) rfl hu) (Jl qA (hrM hr) rfl (Jb (Jl qQ (hrM hr) rfl (Jb (pv 4) (Jb (pv 15) Jc))) Jc)) (pv 6) (JK _)) (JnJ (Jfh (JdY (K:=K) rfl hu) (Yk (K:=K) rfl (pv 4) rfl) (U1 (Wi (K:=K) rfl) rfl qp WV (Jb (pv 3) Jc)) (JK _)))))))))))))))))))))),by walk_at "s"⟩
end
theorem vl1{α:Type}{us:List α}(h:us.length=1):∃a,us=[a]:=match us,h with|[a],_=>⟨a,rfl⟩
theorem vl2{α:Type}{us:List α}(h:us.length=2):∃a b,us=[a,b]:=match us,h with|[a,b],_=>⟨a,b,rfl⟩
theorem vl4{α:Type}{us:List α}(h:us.length=4):∃a b c d,us=[a,b,c,d]:=match us,h with|[a,b,c,d],_=>⟨a,b,c,d,rfl⟩
local macro_rules | `(tactic| walk_at "b")=>`(tactic| (intro _ _ _ _ _ _ us hl;first | (obtain⟨_,e⟩:=vl1 hl;subst e;rfl) | (obtain⟨_,_,e⟩:=vl2 hl;subst e;rfl) | (obtain⟨_,_,_,_,e⟩:=vl4 hl;subst e;rfl)))
theorem all_mk{l:PySem.W.OpenLaw}{w:QF}{K:Qx}{h:QL}{mg:Str->Option Qc}{fa:Qd}{C:Qd}{f25:Qd}{od25 an25:Option Qd}{sl25:Array (Option Qc)}{oc25 kV25 dc25 pm25 cd25 ct25:Qc}{f1 f2 f3 f4 f5 f6 f7 f8 f9 f10 f11 f12 f13 f14 f15 f16 f17 f18 f19 f20 f21 f22 f23 f24:Qd}{d1 d2 d3 d4 d5 d6 d7 d8 d9 d10 d11 d12 d13 d14 d15 d16 d17 d18 d19 d20 d21 d22 d23 d24:QR}{qI:Tok}(X:K.In h)(G:h.Ns mainGlobals mg)(hfa:mg "law"=some (.ref fa))
 (aC:nsIn K mainGlobals "Row"=some (some (.ref C)))
 (a1:nsIn K mainGlobals "check_stretches"=some (some (.ref f1)))
 (F1:Fun K "check_stretches" "check_stretches" YB f1 d1)
 (a2:findIn K (.ref C) "__init__"=some (some (.ref f2)))
 (i2:isFn K (.ref f2)=true)
 (F2:Fun K "__init__" "Row.__init__" Vg f2 d2)
 (a3:nsIn K mainGlobals "closed_up"=some (some (.ref f3)))
 (F3:Fun K "closed_up" "closed_up" UR f3 d3)
 (a4:nsIn K mainGlobals "by_layers"=some (some (.ref f4)))
 (F4:Fun K "by_layers" "by_layers" UQ f4 d4)
 (a5:nsIn K mainGlobals "gaps_of"=some (some (.ref f5)))
 (F5:Fun K "gaps_of" "gaps_of" Wd f5 d5)
 (a6:nsIn K mainGlobals "closes_at"=some (some (.ref f6)))
 (F6:Fun K "closes_at" "closes_at" US f6 d6)
 (a7:nsIn K mainGlobals "thinned"=some (some (.ref f7)))
 (F7:Fun K "thinned" "thinned" Wf f7 d7)
 (a8:nsIn K mainGlobals "ball_at"=some (some (.ref f8)))
 (F8:Fun K "ball_at" "ball_at" Wc f8 d8)
 (a9:nsIn K mainGlobals "owed_at"=some (some (.ref f9)))
 (F9:Fun K "owed_at" "owed_at" We f9 d9)
 (a10:nsIn K mainGlobals "struck"=some (some (.ref f10)))
 (F10:Fun K "struck" "struck" ZI f10 d10)
 (a11:nsIn K mainGlobals "table_of"=some (some (.ref f11)))
 (F11:Fun K "table_of" "table_of" Vj f11 d11)
 (a12:nsIn K mainGlobals "lumps_of"=some (some (.ref f12)))
 (F12:Fun K "lumps_of" "lumps_of" Vi f12 d12)
 (a13:nsIn K mainGlobals "delays"=some (some (.ref f13)))
 (F13:Fun K "delays" "delays" ZH f13 d13)
 (a14:nsIn K mainGlobals "ball_count"=some (some (.ref f14)))
 (F14:Fun K "ball_count" "ball_count" Uw f14 d14)
 (a15:nsIn K mainGlobals "check_seats"=some (some (.ref f15)))
 (F15:Fun K "check_seats" "check_seats" Y7 f15 d15)
 (a16:nsIn K mainGlobals "stops"=some (some (.ref f16)))
 (F16:Fun K "stops" "stops" JbD f16 d16)
 (a17:nsIn K mainGlobals "gone"=some (some (.ref f17)))
 (F17:Fun K "gone" "gone" Jd6 f17 d17)
 (a18:nsIn K mainGlobals "_law_by_size"=some (some (.ref f18)))
 (F18:Fun K "_law_by_size" "_law_by_size" Y9 f18 d18)
 (a19:nsIn K mainGlobals "lumps_apart"=some (some (.ref f19)))
 (F19:Fun K "lumps_apart" "lumps_apart" Ua f19 d19)
 (a20:nsIn K mainGlobals "early_lines"=some (some (.ref f20)))
 (F20:Fun K "early_lines" "early_lines" Y8 f20 d20)
 (a21:nsIn K mainGlobals "far_lines"=some (some (.ref f21)))
 (F21:Fun K "far_lines" "far_lines" UT f21 d21)
 (a22:nsIn K mainGlobals "_law_lines"=some (some (.ref f22)))
 (F22:Fun K "_law_lines" "_law_lines" UV f22 d22)
 (a23:nsIn K mainGlobals "_law_cell"=some (some (.ref f23)))
 (F23:Fun K "_law_cell" "_law_cell" Vh f23 d23)
 (a24:nsIn K mainGlobals "_law_drawn"=some (some (.ref f24)))
 (F24:Fun K "_law_drawn" "_law_drawn" UU f24 d24)
 (a25:nsIn K mainGlobals "law"=some (some (.ref f25)))
 (l25:K.lookup f25=some ⟨oc25,od25,.func (fnOf "law" "law" (Ur VJ) (Yr VJ) (Jg VJ) .none kV25 dc25 pm25 an25 cd25 ct25),sl25⟩)
 (c25:codeIn K cd25 "law"=true)
 (k25:keepIn K (.ref f25)=true)
 (pg:plainGet K C Str.empty=true)
 (hd:hasDictIn K C=true)
 (po:plainOver K C=true)
 (sa:findIn K (.ref C) "__setattr__"=some (some (.builtin "object.__setattr__")))
 (mk:makesIn K C=true)
 (kc:keepIn K (.ref C)=true)
 (nS:findIn K (.ref C) "stretches"=some none)
 (qV:nsIn K mainGlobals "tuple"=some none)
 (qZ:nsIn K mainGlobals "len"=some none)
 (q5:nsIn K mainGlobals "sum"=some none)
 (qO:nsIn K mainGlobals "enumerate"=some none)
 (q9:nsIn K mainGlobals "zip"=some none)
 (wa:nsIn K mainGlobals "min"=some none)
 (wb:nsIn K mainGlobals "any"=some none)
 (qX:nsIn K mainGlobals "list"=some none)
 (qU:nsIn K mainGlobals "sorted"=some none)
 (qN:nsIn K mainGlobals "isinstance"=some none)
 (qY:nsIn K mainGlobals "bool"=some none)
 (wc:nsIn K mainGlobals "int"=some none)
 (qW:nsIn K mainGlobals "range"=some none)
 (wd:nsIn K mainGlobals "set"=some none)
 (qJ:nsIn K mainGlobals "MOST_STRETCHES"=some (some (.int 30 qI)))
 (hTs:(Y1 K).isSome=true)
:∃fd:QR,(∀(s:Qe) (v:Qc),BindsTo s fd ⟨[v],[]⟩ [("script",v)])/\∀base:QL,K.In base->base.Ns mainGlobals mg->JaQ mg base->FnOk l.prog w K mg base CX0 9 fa fd ["script"] (JbL K):=by
 have e:=hfa.symm.trans (mg_of X G a25);cases e
 have T:RowC K C:=⟨⟨pg,hd,po,sa⟩,nS⟩
 have we:=mg_of X G aC
 have qp:=mg_none_of X G qV
 have qf:=mg_none_of X G qZ
 have qr:=mg_none_of X G q5
 have qa:=mg_none_of X G qO
 have qL:=mg_none_of X G q9
 have qE:=mg_none_of X G wa
 have qS:=mg_none_of X G wb
 have qH:=mg_none_of X G qX
 have qi:=mg_none_of X G qU
 have qe:=mg_none_of X G qN
 have qP:=mg_none_of X G qY
 have qT:=mg_none_of X G wc
 have qD:=mg_none_of X G qW
 have qR:=mg_none_of X G wd
 have qk:GV mg "MOST_STRETCHES" (.int 30):=⟨_,mg_of X G qJ,⟨_,rfl⟩⟩
 have F25:=JhD (st:=VJ) l25 c25 k25;refine⟨fnOf "law" "law" (Ur VJ) (Yr VJ) (Jg VJ) .none kV25 dc25 pm25 an25 cd25 ct25,fun s v=>.of_eq rfl,fun base _ _ hB=>?_⟩
 have aL:=a20
 have Z:PB l.prog w base:=⟨⟩
 have qh:=JL Z F1 (Vf F1 ) (mg_of X G a1) (by walk_at "b")
 have qF:CalM l.prog w K mg base "Row" C 2 ["self","stretches"] (Vk C K):=⟨f2,_,⟨mk,a2,i2,kc⟩,JcI F2 qp qf qk qh T,we,F2.binds (by walk_at "b")⟩
 have qy:=JL Z F3 (Jbs (C:=C) F3 qr) (mg_of X G a3) (by walk_at "b")
 have qz:=JL Z F4 (Jbr (C:=C) F4 qa T) (mg_of X G a4) (by walk_at "b")
 have qq:=JL Z F5 (JdV (C:=C) F5 qr qL T) (mg_of X G a5) (by walk_at "b")
 have qg:=JL Z F6 (Jbt (C:=C) F6 qE qq T) (mg_of X G a6) (by walk_at "b")
 have ql:=JL Z F7 (JdX (C:=C) F7 qE qF qy qz qg T) (mg_of X G a7) (by walk_at "b")
 have qC:=JL Z F8 (JdU (C:=C) F8 qS T) (mg_of X G a8) (by walk_at "b")
 have qG:=JL Z F9 (JdW (C:=C) F9 qC) (mg_of X G a9) (by walk_at "b")
 have qK:=JL Z F10 (JgB (C:=C) F10 qa qr qG ql T) (mg_of X G a10) (by walk_at "b")
 have qm:=JL Z F11 (JcL (C:=C) F11 ql qK qg T) (mg_of X G a11) (by walk_at "b")
 have qo:=JL Z F12 (JcK (C:=C) F12 qH qm) (mg_of X G a12) (by walk_at "b")
 have qA:=JL Z F13 (JgA (C:=C) F13 qf qo T) (mg_of X G a13) (by walk_at "b")
 have qv:=JL Z F14 (ZZ (C:=C) F14 qr T) (mg_of X G a14) (by walk_at "b")
 have qt:=JL Z F15 (Zs (C:=C) F15 ) (mg_of X G a15) (by walk_at "b")
 have qM:=JL Z F16 (Jid (C:=C) F16 qL qE qq qv qt T) (mg_of X G a16) (by walk_at "b")
 have qQ:=JL Z F17 (JkE (C:=C) F17 qF qM) (mg_of X G a17) (by walk_at "b")
 have qj:=JL Z F18 (Zu (C:=C) F18 ) (mg_of X G a18) (by walk_at "b")
 have qd:=JL Z F19 (Zv (C:=C) F19 qm) (mg_of X G a19) (by walk_at "b")
 have qu:=JL Z F20 (Zt (C:=C) F20 qa qi qd aL hTs hB) (mg_of X G a20) (by walk_at "b")
 have qB:=JL Z F21 (Jbu (C:=C) F21 qd) (mg_of X G a21) (by walk_at "b")
 have qw:=JL Z F22 (Jbw (C:=C) F22 qe qP qT qf qp qH) (mg_of X G a22) (by walk_at "b")
 have qb:=JL Z F23 (JcJ (C:=C) F23 qf) (mg_of X G a23) (by walk_at "b")
 have qx:=JL Z F24 (Jbv (C:=C) F24 qD qb) (mg_of X G a24) (by walk_at "b");exact JhX (Jnx (C:=C) F25 qp qD qf qr qi qR qA qQ qj qu qB qo qw qF qx qb T) law_true
theorem walk{l:PySem.W.OpenLaw}{q:Qw}{loose:List Str}{XP:(Str->Option Qc)->QL->Prop}{YP:QF->QL->Prop}{d:DefRec}{K:Params->Qx}{Pt:Qd}(hn:l.most=some 63)(hdf:d.params.defaults=[])
 (hY:∀(w:QF) (h:QL),YP w h->(K w.params).In h/\h.get? Pt=some { cls:=.none,data:=.fields #[] })
 (hT:∀w:QF,(Y1 (K w.params)).map (·.1)=some Pt) (hKP:∀w:QF,(K w.params).lookup Pt=none)
 (F:∀(w:QF) (mg:Str->Option Qc) (fa:Qd) (h:QL),(K w.params).In h->h.Ns mainGlobals mg->mg d.name=some (.ref fa) ->
  ∃fd:QR,(∀(s:Qe) (u:Qc),BindsTo s fd ⟨[u],[]⟩ [("script",u)])/\∀base:QL,(K w.params).In base->base.Ns mainGlobals mg->JaQ mg base->FnOk l.prog w (K w.params) mg base CX0 9 fa fd ["script"] (JbL (K w.params))) :
 PySem.W.WalkO q loose XP YP l.row.toRowW d [] (fun f vs=>PySem.call f vs) :=
 L2.Jjf (n:=63) (k:=9) (x:="script") (CX:=fun _=>CX0) (sp:=fun w=>JbL (K w.params)) hn (by decide) hdf ⟨rfl,by decide,by decide⟩ hY hT hKP F (fun _ _ a ns hl tk hS=>⟨tk,a,ns,rfl,hS,hl,fun _=>rfl⟩) fun _ _ _ _ _ z=>z
end LK
end
namespace PySem.W.Fast
theorem tw16410399175104005580:True:=⟨⟩
theorem tw16857738262690718219:True:=⟨⟩
theorem tw13958326372895502820:True:=⟨⟩
theorem tw9174031817693986225:True:=⟨⟩
theorem tw3182805986590186462:True:=⟨⟩
theorem tw7420499776440666299:True:=⟨⟩
theorem tw17496006958921999280:True:=⟨⟩
theorem tw2908550926753641362:True:=⟨⟩
theorem tw1575916454662697045:True:=⟨⟩
theorem tw14258293904869938684:True:=⟨⟩
theorem tw9644932253479163847:True:=⟨⟩
theorem tw3766291617511184041:True:=⟨⟩
theorem tw17182959170662955859:True:=⟨⟩
theorem tw15335941357185534935:True:=⟨⟩
theorem tw12103063309409393492:True:=⟨⟩
theorem tw7133433737323375008:True:=⟨⟩
theorem tw10460161795222970732:True:=⟨⟩
theorem tw7767120630485762622:True:=⟨⟩
theorem tw9042492028673752897:True:=⟨⟩
theorem tw14848497196553342818:True:=⟨⟩
theorem tw4954302523485243143:True:=⟨⟩
theorem tw9204137789572743774:True:=⟨⟩
theorem tw17183333723293815178:True:=⟨⟩
theorem tw5402264935165497747:True:=⟨⟩
theorem tw1047646633663397346:True:=⟨⟩
theorem tw14531196145752997696:True:=⟨⟩
theorem tw11341982817599278537:True:=⟨⟩
theorem tw8275800582396170908:True:=⟨⟩
theorem tw11920855809215160720:True:=⟨⟩
theorem tw7593401402784382203:True:=⟨⟩
theorem tw15625872471975531635:True:=⟨⟩
theorem tw3060722813183033555:True:=⟨⟩
theorem tw15202495732339926625:True:=⟨⟩
theorem tw15864271156576442695:True:=⟨⟩
theorem tw16385935140854880158:True:=⟨⟩
theorem tw11610498732676168982:True:=⟨⟩
theorem tw16330481872680753777:True:=⟨⟩
theorem tw18001567994079508272:True:=⟨⟩
theorem tw3003571509016883277:True:=⟨⟩
theorem tw13438858664972791573:True:=⟨⟩
theorem tw15743863702418956353:True:=⟨⟩
theorem tw41450801931173689:True:=⟨⟩
theorem tw4773027265248114025:True:=⟨⟩
theorem tw11451136082036012176:True:=⟨⟩
theorem tw9820076848952083465:True:=⟨⟩
theorem tw15765884962600136251:True:=⟨⟩
theorem tw11996776992891908921:True:=⟨⟩
theorem tw9949190504818170289:True:=⟨⟩
theorem tw7621949969483410948:True:=⟨⟩
theorem tw8084057725079507326:True:=⟨⟩
theorem tw8543590131452612041:True:=⟨⟩
theorem tw12133339697813396975:True:=⟨⟩
theorem tw8385907323846927911:True:=⟨⟩
theorem tw769264441650337422:True:=⟨⟩
theorem tw17980886854102033454:True:=⟨⟩
theorem tw8284521492739691924:True:=⟨⟩
theorem tw3407275884285141159:True:=⟨⟩
theorem tw1434429132839949699:True:=⟨⟩
theorem tw15662301908365637050:True:=⟨⟩
theorem tw7328818823129089988:True:=⟨⟩
theorem tw15438994150701534403:True:=⟨⟩
theorem tw16155643376715573928:True:=⟨⟩
theorem tw2836776676260749939:True:=⟨⟩
theorem tw4504480817230120019:True:=⟨⟩
theorem tw6771620468955762775:True:=⟨⟩
theorem tw8900735232247034586:True:=⟨⟩
theorem tw6796188426733115393:True:=⟨⟩
theorem tw13618392289386143051:True:=⟨⟩
theorem tw11931548402679740009:True:=⟨⟩
theorem tw18003277303946630989:True:=⟨⟩
theorem tw6816092269985842344:True:=⟨⟩
theorem tw5032646766487628221:True:=⟨⟩
theorem tw1162610373860340088:True:=⟨⟩
theorem tw6479329926620464994:True:=⟨⟩
theorem tw17342188928034855545:True:=⟨⟩
theorem tw17669124029189860705:True:=⟨⟩
theorem tw4774350173984163556:True:=⟨⟩
theorem tw15248952365189079544:True:=⟨⟩
theorem tw8758805782334879580:True:=⟨⟩
theorem tw13165253151600640234:True:=⟨⟩
theorem tw6422377876261787431:True:=⟨⟩
theorem tw12001750814318252624:True:=⟨⟩
theorem tw15069264892170560871:True:=⟨⟩
theorem tw4420930022352753365:True:=⟨⟩
theorem tw1944685701334289893:True:=⟨⟩
theorem tw7529649886416587093:True:=⟨⟩
theorem tw17850566957705871612:True:=⟨⟩
theorem tw4094228634179700241:True:=⟨⟩
theorem tw7188108515361700262:True:=⟨⟩
theorem tw9832119778012408720:True:=⟨⟩
theorem tw14729774533588210877:True:=⟨⟩
theorem tw4488533531790120567:True:=⟨⟩
end PySem.W.Fast
open PySem PySem.W PyProof.Rows
set_option maxRecDepth 100000 in
set_option maxHeartbeats 0 in
theorem PySem.Challenge.cw_lumprow_k53_delays_holds : PySem.Challenge.rw_lumprow_k53_delays.Holds := by
 w_on; o_law; k_head; (case hw => w_witness2)
 k_fill
 refine LK.walk (l := PySem.Challenge.rw_lumprow_k53_delays) rfl rfl (fun w h Y => ⟨PySem.W.km_in_of Y, PySem.W.km_tabs_of Y _ (List.Mem.head _)⟩) (fun w => ?hT) (fun w => ?hKP) ?F
 case hT => kernel_rfl
 case hKP => kernel_rfl
 case F =>
  intro w mg fa h KX G hmg; apply LK.all_mk KX G hmg; all_goals first | exact L2.JhD (by k_is) (by k_is) (by k_is) | k_is | kernel_rfl
