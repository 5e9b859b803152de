import PyProof.Rows.All
import Wide.All
import OpenK.AllK
import Wide.FinOn
import Lean
import PyProof.EqAt
import PyProof.EqKinds
import PyProof.TupleCall
import PySem.Challenge.RW_lumprow_k52_whole_early_lines
open Array renaming length_toList→QU,getElem?_toList→Kb,getD_eq_getD_getElem?→Kg,getElem?_eq_getElem→KE,forIn_toList→Md,getD→MZ,toList_push→Rc,getElem_toList→R7
open Bool renaming false_ne_true→QH,and_eq_true→QR,false_or→G8,false_eq_true→Kh,eq_iff_iff→Ki,or_eq_true→LI,and_eq_false_iff→LO,or_assoc→L7,or_false→MC,true_or→RF,and_false→R3
open False renaming elim→G4
open Function renaming comp→Xj
open Int renaming le_refl→QD,min_eq_right→GG,min_eq_left→Kk,toNat_natCast→Ko,natCast_add→KD,max_eq_right→KI,add_mul→K0,min_le_right→Lx,mul_le_mul_of_nonneg_left→Ly,le_total→LC,emod_nonneg→LG,mul_add→LY,zero_add→L1,max_eq_left→Mc,emod_lt_of_pos→Mf,mul_le_mul_of_nonneg_right→MB,mul_one→MD,le_max_left→MK,add_zero→MQ,fdiv_eq_ediv_of_nonneg→MU,add_assoc→Rm,sub_zero→RM,le_ediv_iff_mul_le→RN,min_le_left→RQ,one_mul→Xb,neg_mul→Xc,max_le→Xo,le_min→Xp,le_trans→XB,sub_self→XD,mul_comm→XE
open List renaming mem_cons_of_mem→Qc,map_cons→Qd,mem_cons_self→Qf,mem_cons→Qk,getElem?_eq_some_iff→Qo,length_map→Qp,getElem?_map→Qq,size_toArray→Qt,length_cons→Qv,map_map→Qw,mem_map→Qx,length_append→QA,getElem?_eq_getElem→QB,replicate→QC,sum_cons→QE,map_congr_left→QG,mem_of_getElem?→QI,getElem?_mapIdx→QJ,pairwise_cons→QL,eq_nil_of_length_eq_zero→QN,getElem?_append_left→QO,getElem?_append_right→QQ,map_append→QT,count_cons→QV,range→Q1,nodup_cons→Q6,not_mem_nil→Q9,foldl_cons→Ga,toArray→Gc,mem_nil_iff→Gd,replicate_succ→Gf,getElem?_set→Gg,length_singleton→Gq,getElem?_eq_none→Gz,mem_iff_getElem?→GA,flatMap_cons→GB,getD_eq_getElem?_getD→GC,mem_iff_getElem→GD,mem_append→GH,reverse_cons→GI,ext_getElem?→GJ,mem_singleton→GK,filter_cons_of_neg→GM,filter_cons_of_pos→GN,map_reverse→GP,mem_append_right→GS,length_replicate→GU,mem_map_of_mem→GX,pairwise_iff_getElem→G2,any_cons→G7,append_assoc→Kc,length_zip→Kj,cons_append→Kl,length_reverse→Km,pairwise_append→Kw,mem_reverse→Kx,pairwise_map→KA,length_nil→KB,map_replicate→KJ,reverse_reverse→KN,flatten_cons→KO,append_nil→KQ,of_mem_zip→KR,filterMap_cons→KS,length_take→K1,zipIdx_cons→K2,count_pos_iff→K7,nil_append→Lb,length_range→Li,getElem?_zipIdx→Lj,any_eq_true→Lp,map_nil→LA,mem_replicate→LD,find?_cons→LF,sum_append→LH,getElem?_reverse→LM,mem_append_left→LS,lookup→LU,all_eq_true→L0,ext_getElem→L3,drop_eq_getElem_cons→L5,mem_filter→Ma,forIn_cons→Mb,count_eq_zero→Me,length→Mh,pairwise_singleton→Mj,forIn_nil→Mq,nodup_append→Mu,count_append→Mv,map_id'→Mw,min?_eq_some_iff→My,length_mapIdx→MY,length_eraseIdx_of_lt→M0,getElem?_zip_eq_some→M3,getElem?_eq_none_iff→M6,snd_lt_of_mem_zipIdx→M7,reverse_perm→Rb,getElem?_replicate→Rn,length_drop→Rp,getElem_mem→Rr,zip→Ru,pairwise_replicate→RA,mem_flatMap→RB,getElem?_set_self→RC,pairwise_lt_range→RK,filter_eq_nil_iff→RL,zip_append→RO,dropLast_eq_take→RS,getElem?_zipWith→RT,pairwise_reverse→RU,min?_eq_none_iff→RV,length_filter_le→RW,max?_eq_some_iff→RX,getElem?_set_ne→R0,length_dropLast→R4,range'→R5,range_eq_range'→R6,reduceReplicate→R9,count_replicate→Xa,map_id→Xd
open Nat renaming le_refl→Qu,ne_of_lt→QF,lt_of_lt_of_le→Q4,lt_irrefl→Gh,le_trans→Gm,ne_of_gt→Gn,zero_le→GL,lt_succ_of_lt→GQ,le_of_lt→GW,lt_succ_self→GY,lt_trans→Ke,lt_of_le_of_lt→Kv,le_succ→KY,lt_or_ge→Lh,ble_eq→Lm,not_lt→LW,le_of_eq→LZ,lt_trichotomy→Mt,le_add_right→MA,min_self→MP,le_succ_of_le→Re,zero_add→XA
open Ne renaming symm→Q3
open Option renaming bind_some→QZ,map_eq_some_iff→Q0,bind_assoc→Kz,map_map→KM,map_some→Ld,isSome_iff_exists→Rh,map_eq_none_iff→RJ
open Option.some renaming inj→QS
open Prod renaming swap→Ka,ext→KL
open PyProof.Rows renaming slot_tuple_getitem→Gw,callWith_type1→GF
open PyProof.Rows.F renaming plain_set_update_loop→Ml,entry_set_update_loop→Ry
open PyProof.Rows.IntsAre renaming length→R8
open PySem renaming wpAny_bind→Qa,Value→Qe,Shared→Qg,Addr→Qh,wpAny_pure→Qj,sizeLine→Qr,Program→Qy,Around→QM,World→QP,FuncData→QW,wpAny_callSpecial?_slot→QX,Heap→Q2,wpAny_field→Q5,wpAny_call_entry→Q7,wpAny_newObj_type→Ge,wpAny_setField_rec→Gs,Expr→Gu,wpAny_holding→GO,wpAny_seqItems→GR,wpAny_attempt→G9,wpAny_setState_of→Kp,plainId_quiet→Kq,Stmt→Kt,codeAny_builtin→Ku,wpAny_updateSeq→KC,wpAny_mono→KF,wpAny_rule→KG,wpAny_isInstance→KH,mem_of_lookup→KU,wpAny_of_eq→KZ,wpAny_Call_Name_kw→K4,wpAny_setField→K6,wpAny_passesOwn→La,wpAny_specialOf→Lc,wpAny_letGo→Le,isSubtype_type→Lr,wpAny_askSetting→Lw,codeAny_mono→Lz,wpAny_loadPart'→LJ,wpAny_ite_split→LL,wpAny_truthy_bool→LP,wpAny_newFunctionEnv_cells→LV,isSubtype_stop→LX,Scope→Mg,wpAny_Call_method0_late→Mi,wpAny_pyIter_list→Mm,wpAny_typeOf→Mo,wpAny_newTuple→Mr,wpAny_tryCatch→Ms,wpAny_updateSeq_pair→MF,wpAny_execs_nil→MG,evalArgs_none→ML,wpAny_setEntries_of→MM,Arguments→MR,wpAny_pyIter_tuple→MT,Result→MV,wpAny_pyIter_slot→Ra,wpAny_onRaise→Rj,wpAny_pyIter_zip→Rs,Keyword→Xe,Within→Xq
open PySem.Around renaming under_plainId→GZ,frames_deeper→R1,under→Xt
open PySem.Builtin.Builtins renaming bindParams→MO
open PySem.Builtin.Int renaming intBits→Xg
open PySem.Builtin.List renaming listExtendWith→Kf,listLengthHint→KW,listTooLong→Ll,listSameRef→Ln,listItems→RI
open PySem.Builtin.Slice renaming slicePlaces→K9,sliceAdjust→L4,sliceApplied→MW
open PySem.Builtin.SmallTypes renaming ownedTupleIsFree→QY,nextOf→Gi,ownedTupleHandOut→Kn
open PySem.Builtin.Tuple renaming tupleExact→Lk,tupleItemsOf→MX
open PySem.Calls renaming callWith_builtin→Ky,spliced_cons→K3,spliced_nil→Mn,evalArgs_plain→ME,Name_function_global→MS
open PySem.Code renaming isFrame→Xu
open PySem.F renaming plainAttrs_list→Gk,plain_extend_loop→G1,slot_zip_next→G6,slot_list_append→Kr,type_list_append→Ks,slot_tuple_iterator_next→K5,args_zip_next_1→Lg,plainAttrs_dict→Lo,entry_zip_next→Lq,plain_min_loop→Ls,slot_dict_items→Lu,called_set→LB,slot_enumerate_next→LN,slot_list_extend→L8,type_list_extend→L9,slot_dict_get→Mx,args_tuple_iterator_next_1→MI,slot_dict_setdefault→MJ,entry_tuple_iterator_next→MN,args_dict_items_1→M4,entry_extend_loop→M5,args_tuple_add_2→Ri,entry_dict_items→Rk,entry_tuple_add→Ro,args_dict_get_3→Rq,args_enumerate_next_1→Rv,type_dict_items→Rx,plain_list_iadd→Rz,slot_tuple_add→RE,entry_dict_get→RG
open PySem.Heap renaming get?_push_of_some→Qi,get?_push_size→Qm,lt_size→Qn,SameBut→QK,get?_update_other→Q8,get?_update_self→Gr,size_push→Gy,ExtBut→Lf,get?_push_ne→M9
open PySem.Heap.ExtBut renaming push→XG
open PySem.Heap.SameBut renaming update→Gb,refl→Xw
open PySem.Obj renaming mapSeq→Gx,data_mapFields→G5,isFreed_of_fields→K8,cls_mapFields→Mp,mapFields→Rl
open PySem.Paired renaming length→Rg
open PySem.PassesOwn renaming never→Gv
open PySem.PyData renaming canLayAll0→LQ,eqvAll→L6,eqv→Mz,depthAll→MH,depth→RH
open PySem.SetTable renaming below→Gj,grown→Lv,laid→Xi,put→Xy
open PySem.SetTable.below renaming go→Xx
open PySem.SetTable.probe renaming go→Rf
open PySem.Shared renaming heap→XH
open PySem.Str renaming ofString→Go
open PySem.Value renaming isInt_shape→M8,isInt→RY
open PySem.W renaming Frag→Qz,KdlKeysView→Xf,codeHd_of_K→Xh,kitx_tuple→Xk,callWith_K→Xl,codeRec_of→Xn,specialIn→Xr,kitx_dict→Xs
open PySem.W.KasT renaming kasWp→M1,kasWp_bind→RP
open PySem.pickOrder renaming go→Xz
open Sum.inl renaming inj→RZ
set_option Elab.async false
set_option linter.all false
set_option maxRecDepth 100000
set_option maxHeartbeats 4000000
set_option compiler.extract_closed false
open PySem.W (instObj methodObj Frag lookIn plainGet hasDictIn findIn plainOver takerIn makesIn emptyDict mroIn kitOne kia_one kitx_list keepIn cellsFrom_some fnOf codeIn nsIn codeHdIn kitAny kla_obj kla_fn mg_of mg_none_of)
noncomputable section
namespace L2
open PySem PySem.Spec PyProof.Rows
abbrev Key:=Sum Int Str
def Zk:Key->Qe->Bool
 | .inl k,v=>RY k v
 | .inr x,v=>Value.isStrOf x v
def JsC(w:QP):Key->Int
 | .inl k=>hashInt k
 | .inr x=>hashStr w x
theorem JR:∀{k:Key} {v:Qe},Zk k v=true->(∃i t,k=Sum.inl i/\v=Value.int i t)\/(∃x t,k=Sum.inr x/\v=Value.str x t)
 | .inl i,v,h=>by obtain⟨t,e⟩:=M8 (k:=i) (v:=v) h;exact .inl ⟨i,t,rfl,e⟩
 | .inr x,v,h=>by obtain⟨t,e⟩:=Value.isStrOf_shape (x:=x) (v:=v) h;exact .inr ⟨x,t,rfl,e⟩
def Jia(i:Int)(t:Tok):Zk (.inl i) (.int i t)=true:=by simp[Zk,RY]
def Jib(x:Str)(t:Tok):Zk (.inr x) (.str x t)=true:=by simp[Zk,Value.isStrOf]
def Jpf(a b:Int):decide ((Sum.inl a:Key)=Sum.inl b)=(a == b):=by
 by_cases e:a=b
 ·subst e;simp
 ·have h:¬(Sum.inl a:Key)=Sum.inl b:=fun q=>e (RZ q)
  rw[decide_eq_false h];exact(beq_eq_false_iff_ne.mpr e).symm
def Jpi(a b:Str):decide ((Sum.inr a:Key)=Sum.inr b)=decide (a=b):=by
 by_cases e:a=b
 ·subst e;simp
 ·have h:¬(Sum.inr a:Key)=Sum.inr b:=fun q=>e (Sum.inr.inj q)
  rw[decide_eq_false h,decide_eq_false e]
def Jpg(a:Int)(b:Str):decide ((Sum.inl a:Key)=Sum.inr b)=false:=decide_eq_false (fun q=>nomatch q)
def Jph(a:Str)(b:Int):decide ((Sum.inr a:Key)=Sum.inl b)=false:=decide_eq_false (fun q=>nomatch q)
noncomputable def JE(prog:Qy)(w:QP):PySem.KeyKind prog w Key where
 is:=Zk
 hash:=JsC w
 inj:=fun v a b ha hb=>by
  rcases JR ha with ⟨i,t,rfl,rfl⟩|⟨x,t,rfl,rfl⟩
  ·rcases JR hb with ⟨j,u,rfl,e⟩|⟨y,u,rfl,e⟩
   ·injection e with e1 _;rw[e1]
   ·exact nomatch e
  ·rcases JR hb with ⟨j,u,rfl,e⟩|⟨y,u,rfl,e⟩
   ·exact nomatch e
   ·injection e with e1 _;rw[e1]
 byValue:=fun k v h=>by rcases JR h with ⟨i,t,rfl,rfl⟩|⟨x,t,rfl,rfl⟩ <;> rfl
 pyHash:=fun hv h=>by
  rcases JR hv with ⟨i,t,rfl,rfl⟩|⟨x,t,rfl,rfl⟩
  ·exact wpAny_pyHash_int h
  ·exact wpAny_pyHash_str h
 eqBool:=fun hu hv h=>by
  rcases JR hu with ⟨i,t,rfl,rfl⟩|⟨x,t,rfl,rfl⟩
  ·rcases JR hv with ⟨j,u,rfl,rfl⟩|⟨y,u,rfl,rfl⟩
   ·rw[Jpf] at h;exact wpAny_eqBool_int h
   ·rw[Jpg] at h;exact SeqAt.EqAt.int_str i t y u _ _ _ _ h
  ·rcases JR hv with ⟨j,u,rfl,rfl⟩|⟨y,u,rfl,rfl⟩
   ·rw[Jph] at h;exact SeqAt.EqAt.str_int x t j u _ _ _ _ h
   ·rw[Jpi] at h;exact wpAny_eqBool_str h
 «strs»:=fun k x t v h=>by
  rcases JR h with ⟨i,u,rfl,e⟩|⟨y,u,rfl,e⟩
  ·exact nomatch e
  ·injection e with e1 _
   subst e1;cases v <;> rfl
def Jd7(prog:Qy)(w:QP)(i:Int)(t:Tok):(JE prog w).is (.inl i) (.int i t)=true:=Jia i t
def Jd8(prog:Qy)(w:QP)(x:Str)(t:Tok):(JE prog w).is (.inr x) (.str x t)=true:=Jib x t
inductive V where
 | non|bl (b:Bool)|int (i:Int)|str (x:Str)|byt (b:Array UInt8)|flt (b:UInt64)|ref (a:Qh)|ty (n:String)
 deriving DecidableEq
def RelV:V->Qe->Prop
 | .non,u=>u=Value.none
 | .bl b,u=>u=Value.bool b
 | .int i,u=>∃t,u=Value.int i t
 | .str x,u=>∃t,u=Value.str x t
 | .byt b,u=>∃t,u=Value.bytes b t
 | .flt b,u=>∃t,u=Value.float b t
 | .ref a,u=>u=Value.ref a
 | .ty n,u=>u=Value.type n
abbrev Vals:List V->List Qe->Prop:=Paired RelV
def Vals.length(r:Vals xs us):xs.length=us.length:=Rg r
theorem Vals.get:∀{xs:List V} {us:List Qe} {i:Nat} {x:V},Vals xs us->xs[i]?=some x->∃u,us[i]?=some u/\RelV x u
 | _,_,_,_,.nil,e=>by simp at e
 | _,_,0,_,.cons r _,e=>by simp at e;subst e;exact⟨_,rfl,r⟩
 | _,_,i+1,x,.cons _ t,e=>by obtain⟨u,h1,h2⟩:=Vals.get (i:=i) (x:=x) t (by simpa using e);exact⟨u,by simpa using h1,h2⟩
theorem Vals.append:∀{xs ys:List V} {us ws:List Qe},Vals xs us->Vals ys ws->Vals (xs++ys) (us++ws)
 | _,_,_,_,.nil,s=>s
 | _,_,_,_,.cons r t,s=>.cons r (Vals.append t s)
theorem Vals.take:∀{xs:List V} {us:List Qe} (n:Nat),Vals xs us->Vals (xs.take n) (us.take n)
 | _,_,0,_=>.nil
 | _,_,_+1,.nil=>.nil
 | _,_,n+1,.cons r t=>.cons r (Vals.take n t)
theorem Vals.drop:∀{xs:List V} {us:List Qe} (n:Nat),Vals xs us->Vals (xs.drop n) (us.drop n)
 | _,_,0,r=>r
 | _,_,_+1,.nil=>.nil
 | _,_,n+1,.cons _ t=>Vals.drop n t
def RelO:Option V->Option Qe->Prop
 | some v,some u=>RelV v u
 | none,none=>True
 | _,_=>False
def KV{κ:Type}:List (κ×V)->List (κ×Qe)->Prop:=Paired fun(p:κ×V) (q:κ×Qe)=>p.1=q.1/\RelV p.2 q.2
def kV:Key->V
 | .inl i=>.int i
 | .inr x=>.str x
inductive HO where
 | lst (xs:List V)
 | tup (xs:List V)
 | dK (kvs:List (Key×V))|dT (kvs:List (List Key×V))
 | set (S:Int->Bool) (n:Nat)
 | ins (C dx:Qh) (fs:List (Str×V))
 | own (x:Qh)
 | xd (fs:List (Str×V))
 | met (f x:Qh)
 | rng (lo hi:Int)
 | frz (o:Obj) (u:HO)
 | tbl (ps:Array Qe) (l c:Nat) (q:Str)
 | ext (φ:Q2->Prop)
abbrev Hp:=Qh->Option HO
def upd(H:Hp)(a:Qh)(o:HO):Hp:=fun b=>if b=a then some o else H b
def Jl:upd H a o a=some o:=by unfold upd;rw[if_pos rfl]
def Je(h:b≠a):upd H a o b=H b:=by unfold upd;rw[if_neg h]
def JbL{H:Hp}{a b:Qh}{o u:HO}(h:H a=some o)(h':H b=some u)(d:o≠u):a≠b:=by intro e;subst e;rw[h] at h';exact d (QS h')
def Jn{H:Hp}{a b:Qh}{o:HO}(h:H a=some o)(h':H b=none):a≠b:=by intro e;subst e;rw[h] at h';cases h'
section
variable(P:Qy)(w:QP)
def ObjOk(H:Hp)(h:Q2)(a:Qh):HO->Prop
 | .lst xs=>xs.length<=Qr/\∃(its:List Qe) (n:Nat),Vals xs its/\h.get? a=some { cls:=.type "list",data:=.seq its.toArray n }
 | .tup xs=>xs.length<=Qr/\∃its:List Qe,Vals xs its/\IsTup h a its.toArray
 | .dK kvs=>kvs.length<=Qr/\(a == sysModules)=false/\∃vs,KV kvs vs/\h.DictOf (JE P w) a vs
 | .dT kvs=>kvs.length<=Qr/\(a == sysModules)=false/\∃xs:List (List Key×Qh×Qe),
  Paired (fun(p:List Key×V) (q:List Key×Qh×Qe)=>p.1=q.1/\H q.2.1=some (.tup (p.1.map kV))/\RelV p.2 q.2.2) kvs xs ∧
  ∃o es ep,h.get? a=some o/\o.ExactDict/\o.data=.dict es ep/\es.toList=xs.map (entryOfKey (tupleKind (JE P w)))/\(xs.map (·.1)).Nodup
 | .set S n=>h.SetOf (intKind P w) a S n
 | .ins C dx fs=>H dx=some (.own a)/\fs.length<=1000/\dx≠a/\h.get? a=some (instObj C dx) ∧
  ∃mA,h.Ns1 dx mA/\(∀f,RelO (fs.lookup f) (mA f))/\Xq mA (fs.map (·.1))
 | .own _=>∃o,h.get? a=some o
 | .xd fs=>∃mA,h.Ns1 a mA/\∀f,RelO (fs.lookup f) (mA f)
 | .rng lo hi=>∃t u v,h.get? a=some { cls:=.type "range",data:=.fields #[.int lo t,.int hi u,.int 1 v] }
 | .frz o u=>h.get? a=some o/\ObjOk H h a u
 | .tbl ps l c q=>h.get? a=some { cls:=.none,data:=.fields ps }\/∃y,H y=some (.own a)/\y≠a/\h.get? a=some { cls:=.none,data:=.fields (ps++#[rawInt l,rawInt c,.ref y]) }/\h.CodeRec (.ref y) q
 | .met f x=>h.get? a=some (methodObj (.ref f) (.ref x))
 | .ext φ=>φ h/\(∃o,h.get? a=some o)/\∀h1 h2:Q2,φ h1->(∀o,h1.get? a=some o->h2.get? a=some o)->φ h2
def HOk(H:Hp)(h:Q2):Prop:=∀a o,H a=some o->ObjOk P w H h a o
end
def ObjOk.lt(x:ObjOk P w H h a o):a<h.objs.size:=by
 cases o with
 | lst xs=>obtain⟨_,_,_,_,e⟩:=x;exact Qn e
 | tup xs=>obtain⟨_,_,_,p⟩:=x;exact p.lt
 | dK kvs=>obtain⟨_,_,_,_,o,_,_,e,_⟩:=x;exact Qn e
 | dT kvs=>obtain⟨_,_,_,_,o,_,_,e,_⟩:=x;exact Qn e
 | set S n=>obtain⟨o,_,_,_,e,_⟩:=x;exact Qn e
 | ins C dx fs=>obtain⟨_,_,_,e,_⟩:=x;exact Qn e
 | own y=>obtain⟨_,e⟩:=x;exact Qn e
 | xd fs=>obtain⟨_,⟨_,_,_,e,_⟩,_⟩:=x;exact Qn e
 | rng lo hi=>obtain⟨_,_,_,e⟩:=x;exact Qn e
 | frz ob u=>obtain⟨e,_⟩:=x;exact Qn e
 | tbl ps l c q =>
  rcases x with e|⟨_,_,_,e,_⟩
  ·exact Qn e
  ·exact Qn e
 | met f y=>exact Qn (show h.get? a=some _ from x)
 | ext φ=>obtain⟨_,⟨_,e⟩,_⟩:=x;exact Qn e
theorem Paired.mapP{α β:Type}{F G:α->β->Prop}:∀{l₁:List α} {l₂:List β},Paired F l₁ l₂->(∀a b,F a b->G a b)->Paired G l₁ l₂
 | _,_,.nil,_=>.nil
 | _,_,.cons r t,f=>.cons (f _ _ r) (Paired.mapP t f)
def ObjOk.stay(x:ObjOk P w H h a o)(k:∀b u,(b=a\/H b=some (.own a))->h.get? b=some u->h'.get? b=some u)
 (ho:∀b,H b=some (.own a)->H' b=some (.own a)) (ht:∀b xs,H b=some (.tup xs)->H' b=some (.tup xs)):ObjOk P w H' h' a o:=by
 induction o with
 | lst xs=>obtain⟨z,its,n,r,e⟩:=x;exact⟨z,its,n,r,k _ _ (.inl rfl) e⟩
 | tup xs=>obtain⟨z,its,r,ob,e,c⟩:=x;exact⟨z,its,r,ob,k _ _ (.inl rfl) e,c⟩
 | dK kvs=>obtain⟨z,y,vs,r,ob,es,ep,e,c⟩:=x;exact⟨z,y,vs,r,ob,es,ep,k _ _ (.inl rfl) e,c⟩
 | dT kvs=>obtain⟨z,y,xs,r,ob,es,ep,e,c⟩:=x;exact⟨z,y,xs,Paired.mapP r fun p q z=>⟨z.1,ht _ _ z.2.1,z.2.2⟩,ob,es,ep,k _ _ (.inl rfl) e,c⟩
 | set S n=>obtain⟨ob,es,ep,t,e,c⟩:=x;exact⟨ob,es,ep,t,k _ _ (.inl rfl) e,c⟩
 | ins C dx fs=>obtain⟨d,z,ne,e,mA,⟨od,es,ep,e2,c⟩,r⟩:=x;exact⟨ho _ d,z,ne,k _ _ (.inl rfl) e,mA,⟨od,es,ep,k _ _ (.inr d) e2,c⟩,r⟩
 | own y=>obtain⟨ob,e⟩:=x;exact⟨ob,k _ _ (.inl rfl) e⟩
 | xd fs=>obtain⟨mA,⟨od,es,ep,e,c⟩,r⟩:=x;exact⟨mA,⟨od,es,ep,k _ _ (.inl rfl) e,c⟩,r⟩
 | rng lo hi=>obtain⟨t,u,v,e⟩:=x;exact⟨t,u,v,k _ _ (.inl rfl) e⟩
 | frz ob u ih=>obtain⟨e,q⟩:=x;exact⟨k _ _ (.inl rfl) e,ih q⟩
 | tbl ps l c q =>
  rcases x with e|⟨y,d,ne,e,y',oc,vs,t,z,e2,r⟩
  ·exact .inl (k a _ (.inl rfl) e)
  ·cases z;exact .inr ⟨y,ho _ d,ne,k a _ (.inl rfl) e,y,oc,vs,t,rfl,k _ _ (.inr d) e2,r⟩
 | met f y =>
  have e:h.get? a=some (methodObj (.ref f) (.ref y)):=x
  show h'.get? a=some (methodObj (.ref f) (.ref y));exact k a _ (.inl rfl) e
 | ext φ=>obtain⟨p,⟨o,e⟩,st⟩:=x;exact⟨st _ _ p fun o q=>k _ _ (.inl rfl) q,⟨o,k _ _ (.inl rfl) e⟩,st⟩
def HOk.lt(x:HOk P w H h)(e:H a=some o):a<h.objs.size:=(x a o e).lt
def HOk.fresh(x:HOk P w H h)(e:h.objs.size<=a):H a=none:=by
 cases q:H a with
 | none=>rfl
 | some u=>exact absurd (Q4 (x.lt q) e) (Gh _)
def HOk.kept(x:HOk P w H h)(k:∀b u,h.get? b=some u->h'.get? b=some u):HOk P w H h':=fun a o e=>(x a o e).stay (fun b u _ q=>k b u q) (fun _ q=>q) fun _ _ q=>q
def HOk.laid(x:HOk P w H h)(k:∀b u,h.get? b=some u->h'.get? b=some u)(hp:h.objs.size<=a)(new:ObjOk P w (upd H a o) h' a o):HOk P w (upd H a o) h':=fun b u e=>by
 have hn:=x.fresh hp
 by_cases hb:b=a
 ·subst hb;rw[Jl] at e;cases e;exact new
 ·rw[Je hb] at e;exact(x b u e).stay (fun c v _ q=>k c v q) (fun c q=>by rw[Je (Jn q hn)];exact q) fun c xs q=>by rw[Je (Jn q hn)];exact q
def Rd(H:Hp)(a:Qh)(u:HO):Prop:=H a=some u\/∃o,H a=some (.frz o u)
def Rd.ok(r:Rd H a u)(x:HOk P w H h):ObjOk P w H h a u:=by
 rcases r with r|⟨o,r⟩
 ·exact x a u r
 ·obtain⟨_,q⟩:=x a _ r;exact q
def Mut:Option HO->Prop
 | some (.lst _)=>True
 | some (.dK _)=>True
 | some (.dT _)=>True
 | some (.set _ _)=>True
 | some (.ins _ _ _)=>True
 | some (.ext _)=>True
 | _=>False
def HOk.write(ok:HOk P w H h)(mu:Mut (H x))(he:e=x\/H e=some (.own x))(k:∀b u,b≠e->h.get? b=some u->h'.get? b=some u)(heo:∃u,h'.get? e=some u)
 (new:ObjOk P w (upd H x o') h' x o'):HOk P w (upd H x o') h':=fun b u q=>by
 have nown:∀c y,H c=some (.own y)->c≠x:=fun c y r z=>by subst z;rw[r] at mu;exact mu
 have ntup:∀c xs,H c=some (.tup xs)->c≠x:=fun c xs r z=>by subst z;rw[r] at mu;exact mu
 by_cases hb:b=x
 ·subst hb;rw[Jl] at q;cases q;exact new
 ·rw[Je hb] at q
  by_cases hbe:b=e
  ·have q':H b=some (.own x):=by
    rcases he with z|z
    ·exact absurd (hbe.trans z) hb
    ·rw[hbe];exact z
   rw[q] at q';cases q';obtain⟨v,hv⟩:=heo;exact⟨v,by rw[hbe];exact hv⟩
  ·refine(ok b u q).stay (fun c v hc r=>k c v ?_ r) (fun c r=>by rw[Je (nown c b r)];exact r) fun c xs r=>by rw[Je (ntup c xs r)];exact r
   rcases hc with rfl|hc
   ·exact hbe
   ·rintro rfl;rcases he with z|z
    ·exact nown c b hc z
    ·rw[hc] at z;cases z;exact hb rfl
structure Un (fs ex:List Qh) (H H':Hp) (h h':Q2):Prop where
 keep:∀b o,h.get? b=some o->H b=none->b∉fs->b∉ex->h'.get? b=some o
 slot:∀b o,h.get? b=some o->H b=none->b∈fs->b∉ex->∃sl,h'.get? b=some { o with slots:=sl }
 free:∀b o,h.get? b=some o->H b=none->b∉ex->H' b=none
 there:∀b o,h.get? b=some o->b∉ex->∃o',h'.get? b=some o'
 tups:∀b xs,H b=some (.tup xs)->H' b=some (.tup xs)
 frzs:∀b o u,H b=some (.frz o u)->H' b=some (.frz o u)
 tbls:∀b ps l c q,H b=some (.tbl ps l c q)->H' b=some (.tbl ps l c q)
section
variable{fs fs' ex ex':List Qh}{H H1 H2:Hp}{h h1 h2 h':Q2}{a x e:Qh}{o:HO}
def Un.any(u:Un fs ex H H1 h h1)(q:h.get? b=some ob)(n:H b=none)(hx:b∉ex):∃sl,h1.get? b=some { ob with slots:=sl }:=by
 by_cases hb:b∈fs
 ·exact u.slot b ob q n hb hx
 ·exact⟨ob.slots,u.keep b ob q n hb hx⟩
def Un.trans(a:Un fs ex H H1 h h1)(b:Un fs ex H1 H2 h1 h2):Un fs ex H H2 h h2 where
 keep:=fun c ob q n hc hx=>b.keep c ob (a.keep c ob q n hc hx) (a.free c ob q n hx) hc hx
 slot:=fun c ob q n hc hx=>by obtain⟨sl,e1⟩:=a.slot c ob q n hc hx;obtain⟨sl',e2⟩:=b.slot c _ e1 (a.free c ob q n hx) hc hx;exact⟨sl',e2⟩
 free:=fun c ob q n hx=>by obtain⟨o',e1⟩:=a.there c ob q hx;exact b.free c o' e1 (a.free c ob q n hx) hx
 there:=fun c ob q hx=>by obtain⟨o',e1⟩:=a.there c ob q hx;exact b.there c o' e1 hx
 tups:=fun c xs q=>b.tups c xs (a.tups c xs q)
 frzs:=fun c ob xs q=>b.frzs c ob xs (a.frzs c ob xs q)
 tbls:=fun c ps l k z q=>b.tbls c ps l k z (a.tbls c ps l k z q)
def Un.kept(k:∀b u,h.get? b=some u->h'.get? b=some u):Un fs ex H H h h' :=
 ⟨fun b ob q _ _ _=>k b ob q,fun b ob q _ _ _=>⟨ob.slots,k b ob q⟩,fun _ _ _ n _=>n,fun b ob q _=>⟨ob,k b ob q⟩,fun _ _ q=>q,fun _ _ _ q=>q,fun _ _ _ _ _ q=>q⟩
def Un.refl:Un fs ex H H h h:=Un.kept fun _ _ q=>q
def Un.laid(k:∀b u,h.get? b=some u->h'.get? b=some u)(hp:h.objs.size<=a)(hn:H a=none):Un fs ex H (upd H a o) h h' where
 keep:=fun b u q _ _ _=>k b u q
 slot:=fun b u q _ _ _=>⟨u.slots,k b u q⟩
 free:=fun b u q n _=>by rw[Je (QF (Q4 (Qn q) hp))];exact n
 there:=fun b u q _=>⟨u,k b u q⟩
 tups:=fun b xs q=>by rw[Je (Jn q hn)];exact q
 frzs:=fun b u xs q=>by rw[Je (Jn q hn)];exact q
 tbls:=fun b ps l c z q=>by rw[Je (Jn q hn)];exact q
def Un.write(mu:Mut (H x))(he:e=x\/H e=some (.own x))(k:∀b u,b≠e->h.get? b=some u->h'.get? b=some u)(heo:∃u,h'.get? e=some u):Un fs ex H (upd H x o) h h':=by
 have hx:∀b,H b=none->b≠x:=fun b n z=>by subst z;rw[n] at mu;exact mu
 have hb:∀b,H b=none->b≠e:=fun b n z=>by
  subst z;rcases he with r|r
  ·exact hx b n r
  ·rw[n] at r;cases r
 have hm:∀b u,H b=some u->¬Mut (some u)->b≠x:=fun b u q nm z=>by subst z;rw[q] at mu;exact nm mu
 refine⟨fun b u q n _ _=>k b u (hb b n) q,fun b u q n _ _=>⟨u.slots,k b u (hb b n) q⟩,fun b u q n _=>by rw[Je (hx b n)];exact n,fun b u q _=>?_,
  fun b xs q=>by rw[Je (hm b _ q fun z=>z)];exact q,fun b u xs q=>by rw[Je (hm b _ q fun z=>z)];exact q,fun b ps l c z q=>by rw[Je (hm b _ q fun z=>z)];exact q⟩
 by_cases hbe:b=e
 ·subst hbe;exact heo
 ·exact⟨u,k b u hbe q⟩
end
def trk(h:Q2)(H:Hp):List Qh:=(Q1 h.objs.size).filter fun a=>(H a).isSome
def Ja1(h:Q2)(H:Hp):Q2:=PySem.W.hideAll h (trk h H)
def Jh4(h:Q2)(H:Hp):(Ja1 h H).objs.size=h.objs.size:=PySem.W.hideAll_size _ _
def JjL(e:h.get? b=some o)(n:H b=none):(Ja1 h H).get? b=some o :=
 PySem.W.hideAll_get _ e fun hm=>by have q:(H b).isSome=true:=(Ma.mp hm).2;rw[n] at q;simp at q
def JmP(e:(Ja1 h H).get? b=some o):h.get? b=some o/\H b=none:=by
 have e':h.get? b=some o:=PySem.W.of_hideAll (trk h H) e;refine⟨e',?_⟩
 cases q:H b with
 | none=>rfl
 | some x =>
  have hm:b∈trk h H:=Ma.mpr ⟨List.mem_range.mpr (Qn e'),by simp[q]⟩
  have z:(Ja1 h H).get? b=none:=PySem.W.hideAll_none (trk h H) hm;rw[z] at e;cases e
def Jly(g h:Q2)(L:Qh):List (Qh×Obj):=(Q1 h.objs.size).filterMap fun a=>if a=L\/(g.get? a).isSome=true then none else(h.get? a).map fun o=>(a,o)
def rest(g h:Q2)(L d:Qh):List (Qh×Obj):=(Jly g h L).filter fun p=>decide (p.1≠d)
structure Mod (K:Qz) (mg:Str->Option Qe) (base:Q2):Prop where
 kin:K.In base
 glob:base.Ns mainGlobals mg
 blt:∃mb,base.Ns builtinsNs mb/\∀x:Str,x≠"__name__"->mb x=bootBuiltins x
 nolimit:base.NoLimit
structure Cx where
 prog:Qy
 w:QP
 K:Qz
 mg:Str->Option Qe
 base:Q2
 A:QM
 N:List Str
 s₀:Qg
 H₀:Hp
 env:Env
 outer:List Env
 stack:List Env
 ex:List Qh
 fn:Str->Bool
 calm:Bool
 pn:List (Qh×Obj)
 xe:Qe->Qg->Prop
def frs(l:List Env):List Qh:=l.filterMap (·.frame)
abbrev Cx.fs(X:Cx):List Qh:=frs X.outer
def Vis(sc:Mg)(x:Str):Prop:=sc.names.lookup x=some .local\/sc.names.lookup x=some .cell\/sc.names.lookup x=some .free
def Loc(sc:Mg)(x:Str):Prop:=sc.names.lookup x=some .local\/sc.names.lookup x=some .cell
def Jsv(env:Env)(h:Q2)(m:Str->Option Qe)(x:Str)(u:Qe):Prop :=
 (env.kindOf x=some .local/\m x=some u)\/((env.kindOf x=some .cell\/env.kindOf x=some .free)/\∃c,env.cells.lookup x=some c/\h.IsCell c (some u))
structure Cx.Ok (X:Cx):Prop where
 mod:Mod X.K X.mg X.base
 kind:X.env.scope.kind=.function
 glob:X.env.globals=mainGlobals
 blt:X.env.builtins=builtinsNs
 above:X.s₀.heap.objs.size<=X.env.locals
 inj:∀x y c,X.env.cells.lookup x=some c->X.env.cells.lookup y=some c->x=y
 has:∀x,(X.env.kindOf x=some .cell\/X.env.kindOf x=some .free)->∃c,X.env.cells.lookup x=some c
 cab:∀x c,X.fn x=true->X.env.cells.lookup x=some c->X.s₀.heap.objs.size<=c
 hd:X.calm=true->X.A.handled=none
 frames:X.A.frames=some X.stack
 stk:X.stack=X.outer\/(X.stack=X.env::X.outer/\X.env.frame=some X.env.locals)
 exf:∀b∈X.ex,b≠X.env.locals/\∀x c,X.env.cells.lookup x=some c->c≠b
 bs:∀b o,X.base.get? b=some o->X.s₀.heap.get? b=some o/\X.H₀ b=none
 bsz:X.base.objs.size<=X.s₀.heap.objs.size
 noex:∀b o,X.base.get? b=some o->b∉X.ex
 exfs:∀b∈X.ex,b∉X.fs
 funs:X.s₀.heap.FunFrames X.base X.outer
 frf:∀b∈X.fs,X.H₀ b=none
structure Inv (X:Cx) (pins:List (Qh×Obj)) (σ:List (Option V)) (H:Hp) (s:Qg):Prop where
 ok:X.Ok
 os:s.os=X.s₀.os
 bare:AllBare s.gens
 base:Un X.fs X.ex X.H₀ H X.s₀.heap s.heap
 loc:∃m,s.heap.Ns X.env.locals m/\∀(i:Nat) (x:Str) (v:V),X.N[i]?=some x->σ[i]?=some (some v)->Vis X.env.scope x->∃u,RelV v u/\Jsv X.env s.heap m x u
 cell:∀x c,X.env.cells.lookup x=some c->∃v,s.heap.IsCell c v
 free:H X.env.locals=none
 freeC:∀x c,X.env.cells.lookup x=some c->H c=none
 pin:∀p∈X.pn++pins,s.heap.get? p.1=some p.2/\H p.1=none/\p.1≠X.env.locals/\p.1∉X.fs/\∀v,p.2.data≠.cell v
 hok:HOk X.prog X.w H s.heap
 len:σ.length=X.N.length
section
variable{X:Cx}{pins:List (Qh×Obj)}{σ:List (Option V)}{H H':Hp}{s:Qg}{h':Q2}
def Cx.Ok.nofr(ok:X.Ok)(e:X.base.get? b=some o):b∉X.fs:=fun hb=>by have:=(ok.funs.mem hb).1;rw[e] at this;cases this
def Inv.bs(I:Inv X pins σ H s):∀b o,X.base.get? b=some o->s.heap.get? b=some o/\H b=none:=fun b o e=>⟨I.base.keep b o (I.ok.bs b o e).1 (I.ok.bs b o e).2 (I.ok.nofr e) (I.ok.noex b o e),I.base.free b o (I.ok.bs b o e).1 (I.ok.bs b o e).2 (I.ok.noex b o e)⟩
def Inv.bk(I:Inv X pins σ H s):∀b o,X.base.get? b=some o->s.heap.get? b=some o:=fun b o e=>(I.bs b o e).1
def Inv.mod(I:Inv X pins σ H s):Mod X.K X.mg X.base:=I.ok.mod
def Inv.kIn(I:Inv X pins σ H s):X.K.In s.heap:=I.ok.mod.kin.keeps I.bk
def Inv.nolimit(I:Inv X pins σ H s):s.heap.NoLimit:=I.ok.mod.nolimit.keeps I.bk
def Inv.fr(I:Inv X pins σ H s):∃m,Fr X.base X.env.locals s.heap m :=
 let ⟨m,hn,_⟩:=I.loc
 ⟨m,hn,I.bk,Gm I.ok.bsz I.ok.above⟩
def Inv.lt(I:Inv X pins σ H s):X.env.locals<s.heap.objs.size:=let ⟨_,hn,_⟩:=I.loc;hn.lt
def Inv.sz(I:Inv X pins σ H s):X.s₀.heap.objs.size<=s.heap.objs.size:=Gm I.ok.above (GW I.lt)
def Inv.nofs(I:Inv X pins σ H s){a:Qh}(h:s.heap.objs.size<=a):a∉X.fs:=fun hb=>by obtain⟨_,o,ho,_⟩:=I.ok.funs.mem hb;exact absurd (Q4 (Qn ho) (Gm I.sz h)) (Gh _)
def Inv.cne(I:Inv X pins σ H s):∀x c,X.env.cells.lookup x=some c->c≠X.env.locals:=fun x c e z=>by obtain⟨v,o,ho,hd⟩:=I.cell x c e;obtain⟨m,⟨o',es,ep,ho',hd',_⟩,_⟩:=I.loc;rw[z,ho'] at ho;cases ho;rw[hd'] at hd;cases hd
def Inv.funs(I:Inv X pins σ H s):s.heap.FunFrames X.base X.outer:=by
 have all:∀(l:List Env),(∀b∈frs l,b∈X.fs)->X.s₀.heap.FunFrames X.base l->s.heap.FunFrames X.base l:=by
  intro l
  induction l with
  | nil=>intro _ _;trivial
  | cons env r ih =>
   intro hs hl;obtain⟨hk,⟨L,o,hf,hn,ho,hd⟩,hr⟩:=hl;have hL:L∈X.fs:=hs L (by unfold frs;rw[KS,hf];exact Qf);obtain⟨sl,e⟩:=I.base.slot L o ho (I.ok.frf L hL) hL fun z=>I.ok.exfs L z hL
   exact⟨hk,⟨L,_,hf,hn,e,hd⟩,ih (fun b hb=>hs b (by unfold frs;rw[KS,hf];exact Qc _ hb)) hr⟩
 exact all X.outer (fun _ hb=>hb) I.ok.funs
def Inv.stack(I:Inv X pins σ H s):s.heap.FunFrames X.base X.stack:=by
 rcases I.ok.stk with e|⟨e,hf⟩
 ·rw[e];exact I.funs
 ·rw[e];obtain⟨m,hn,_⟩:=I.loc;refine .cons (by rw[I.ok.kind];decide) hf hn ?_ I.funs;exact Heap.get?_none_of_le (Gm I.ok.bsz I.ok.above)
def Inv.stkSub(I:Inv X pins σ H s):∀b∈frs X.stack,b∈X.env.locals::X.fs:=fun b hb=>by
 rcases I.ok.stk with e|⟨e,hf⟩
 ·rw[e] at hb;exact Qc _ hb
 ·rw[e] at hb;unfold frs at hb;rw[KS,hf] at hb;exact hb
def Inv.stkFree(I:Inv X pins σ H s):∀b∈frs X.stack,H b=none:=fun b hb=>by
 rcases Qk.mp (I.stkSub b hb) with e|hb
 ·rw[e];exact I.free
 ·obtain⟨_,o,ho,_⟩:=I.ok.funs.mem hb;exact I.base.free b o ho (I.ok.frf b hb) fun z=>I.ok.exfs b z hb
def Inv.step{g':Array GenState}{t':Nat}{d':Drawn}{ch:List Qh}(I:Inv X pins σ H s)
 (hch:∀b∈ch,(b∈X.ex\/X.s₀.heap.objs.size<=b)/\b≠X.env.locals/\(∀x c,X.env.cells.lookup x=some c->c≠b)/\∀p∈X.pn++pins,p.1≠b)
 (keep:∀b o,b≠X.env.locals->b∉X.fs->b∉ch->s.heap.get? b=some o->H b=none->h'.get? b=some o)
 (slot:∀b o,b≠X.env.locals->b∈X.fs->b∉ch->s.heap.get? b=some o->H b=none->∃sl,h'.get? b=some { o with slots:=sl }) (free:∀b o,b∉ch->s.heap.get? b=some o->H b=none->H' b=none)
 (there:∀b o,b∉ch->s.heap.get? b=some o->∃o',h'.get? b=some o')
 (tups:∀b xs,H b=some (.tup xs)->H' b=some (.tup xs)) (frzs:∀b o u,H b=some (.frz o u)->H' b=some (.frz o u)) (tbls:∀b ps l c q,H b=some (.tbl ps l c q)->H' b=some (.tbl ps l c q))
 (ns:∀m,s.heap.Ns X.env.locals m->h'.Ns X.env.locals m) (hok:HOk X.prog X.w H' h') (hg:AllBare g') :
 Inv X pins σ H' { s with heap:=h',gens:=g',drawn:=d',toks:=t' }:=by
 have neL:∀b o,X.s₀.heap.get? b=some o->b≠X.env.locals:=fun b o e=>QF (Q4 (Qn e) I.ok.above)
 have neC:∀b o,X.s₀.heap.get? b=some o->b∉X.ex->b∉ch:=fun b o e hx hb=>by
  rcases(hch b hb).1 with z|z
  ·exact hx z
  ·exact absurd (Q4 (Qn e) z) (Gh _)
 have cellK:∀x c,X.env.cells.lookup x=some c->∀v,s.heap.IsCell c v->h'.IsCell c v:=fun x c e v ⟨o,ho,hd⟩=>by
  have nch:c∉ch:=fun z=>(hch c z).2.2.1 x c e rfl
  by_cases hc:c∈X.fs
  ·obtain⟨sl,q⟩:=slot c o (I.cne x c e) hc nch ho (I.freeC x c e);exact⟨_,q,hd⟩
  ·exact⟨o,keep c o (I.cne x c e) hc nch ho (I.freeC x c e),hd⟩
 refine⟨I.ok,I.os,hg,⟨fun b o e n hb hx=>?_,fun b o e n hb hx=>?_,fun b o e n hx=>?_,fun b o e hx=>?_,fun b xs e=>tups b xs (I.base.tups b xs e),fun b o xs e=>frzs b o xs (I.base.frzs b o xs e),fun b ps l c z e=>tbls b ps l c z (I.base.tbls b ps l c z e)⟩,?_,fun x c e=>?_,?_,fun x c e=>?_,fun p hp=>?_,hok,I.len⟩
 ·exact keep b o (neL b o e) hb (neC b o e hx) (I.base.keep b o e n hb hx) (I.base.free b o e n hx)
 ·obtain⟨sl,e1⟩:=I.base.slot b o e n hb hx;obtain⟨sl',e2⟩:=slot b _ (neL b o e) hb (neC b o e hx) e1 (I.base.free b o e n hx);exact⟨sl',e2⟩
 ·obtain⟨o',e1⟩:=I.base.there b o e hx;exact free b o' (neC b o e hx) e1 (I.base.free b o e n hx)
 ·obtain⟨o',e1⟩:=I.base.there b o e hx;exact there b o' (neC b o e hx) e1
 ·obtain⟨m,hn,hl⟩:=I.loc;refine⟨m,ns m hn,fun i x v e1 e2 e3=>?_⟩;obtain⟨u,r,l⟩:=hl i x v e1 e2 e3;refine⟨u,r,?_⟩;rcases l with l|⟨k,c,e,z⟩
  ·exact .inl l
  ·exact .inr ⟨k,c,e,cellK x c e _ z⟩
 ·obtain⟨v,z⟩:=I.cell x c e;exact⟨v,cellK x c e v z⟩
 ·obtain⟨m,⟨o,_,_,ho,_⟩,_⟩:=I.loc;exact free _ o (fun z=>(hch _ z).2.1 rfl) ho I.free
 ·obtain⟨v,o,ho,hd⟩:=I.cell x c e;exact free c o (fun z=>(hch c z).2.2.1 x c e rfl) ho (I.freeC x c e)
 ·obtain⟨e,n,ne,nf,d⟩:=I.pin p hp;have nch:p.1∉ch:=fun z=>(hch p.1 z).2.2.2 p hp rfl
  exact⟨keep p.1 p.2 ne nf nch e n,free p.1 p.2 nch e n,ne,nf,d⟩
def Inv.un(I:Inv X pins σ H s)(u:Un X.fs [] H H' s.heap h')(hok:HOk X.prog X.w H' h'):Inv X pins σ H' { s with heap:=h',toks:=t' }:=by
 obtain⟨m,⟨o,es,ep,ho,r⟩,_⟩:=id I.loc;obtain⟨sl,hL⟩:=u.any ho I.free (by simp);exact I.step (g':=s.gens) (d':=s.drawn) (ch:=[]) (fun _ z=>nomatch z) (fun b o _ hb _ e n=>u.keep b o e n hb (by simp)) (fun b o _ hb _ e n=>u.slot b o e n hb (by simp)) (fun b o _ e n=>u.free b o e n (by simp)) (fun b o _ e=>u.there b o e (by simp)) u.tups u.frzs u.tbls (fun m' hm=>by obtain⟨o',es',ep',ho',r'⟩:=hm;rw[ho] at ho';cases ho';exact⟨_,es',ep',hL,r'⟩) hok I.bare
def Inv.call(I:Inv X pins σ H s)(u:Un (frs X.stack) ch H H' s.heap h')(hok:HOk X.prog X.w H' h')(hg:AllBare g')(hch:∀b∈ch,(b∈X.ex\/X.s₀.heap.objs.size<=b)/\b≠X.env.locals/\(∀x c,X.env.cells.lookup x=some c->c≠b)/\∀p∈X.pn++pins,p.1≠b):
 Inv X pins σ H' { s with heap:=h',gens:=g',drawn:=d',toks:=t' }:=by
 obtain⟨m,⟨o,es,ep,ho,r⟩,_⟩:=id I.loc;obtain⟨sl,hL⟩:=u.any ho I.free fun z=>(hch _ z).2.1 rfl
 exact I.step (ch:=ch) hch (fun b o hL hb hc e n=>u.keep b o e n (fun z=>(Qk.mp (I.stkSub b z)).elim hL hb) hc) (fun b o _ _ hc e n=>u.any e n hc) (fun b o hc e n=>u.free b o e n hc) (fun b o hc e=>u.there b o e hc) u.tups u.frzs u.tbls (fun m' hm=>by obtain⟨o',es',ep',ho',r'⟩:=hm;rw[ho] at ho';cases ho';exact⟨_,es',ep',hL,r'⟩) hok hg
def Inv.turned(I:Inv X pins σ H s)(k:∀b o,b≠it->s.heap.get? b=some o->h'.get? b=some o)(hn:H it=none)(hL:it≠X.env.locals)(h1:it∈X.ex\/X.s₀.heap.objs.size<=it)(h2:∀x c,X.env.cells.lookup x=some c->c≠it)(h3:∀p∈X.pn++pins,p.1≠it):Inv X pins σ H { s with heap:=h',toks:=t' }:=by
 have nit:∀b u,H b=some u->b≠it:=fun b u e z=>by rw[z,hn] at e;cases e
 refine I.step (g':=s.gens) (d':=s.drawn) (ch:=[it]) (fun b hb=>?_) (fun b o _ _ hc e _=>k b o (fun z=>hc (by simp[z])) e) (fun b o _ _ hc e _=>⟨o.slots,k b o (fun z=>hc (by simp[z])) e⟩) (fun _ _ _ _ n=>n)
  (fun b o hc e=>⟨o,k b o (fun z=>hc (by simp[z])) e⟩) (fun _ _ e=>e) (fun _ _ _ e=>e) (fun _ _ _ _ _ e=>e) (fun m hm=>?_) (fun b u e=>?_) I.bare
 ·have e:b=it:=by simpa using hb
  subst e;exact⟨h1,hL,h2,h3⟩
 ·obtain⟨o,es,ep,ho,r⟩:=hm;exact⟨o,es,ep,k _ o (Q3 hL) ho,r⟩
 ·refine(I.hok b u e).stay (fun c v hc q=>k c v ?_ q) (fun _ q=>q) fun _ _ q=>q
  rcases hc with z|z
  ·rw[z];exact nit b u e
  ·exact nit c _ z
def Inv.tok(I:Inv X pins σ H s)(t:Nat):Inv X pins σ H { s with toks:=t }:=I.un (h':=s.heap) (t':=t) Un.refl I.hok
def Inv.kept{t':Nat}(I:Inv X pins σ H s)(k:∀b u,s.heap.get? b=some u->h'.get? b=some u):Inv X pins σ H { s with heap:=h',toks:=t' }:=I.un (Un.kept k) (I.hok.kept k)
def Inv.laid{a:Qh}{o:HO}{t':Nat}(I:Inv X pins σ H s)(k:∀b u,s.heap.get? b=some u->h'.get? b=some u)(hp:s.heap.objs.size<=a)(new:ObjOk X.prog X.w (upd H a o) h' a o) :
 Inv X pins σ (upd H a o) { s with heap:=h',toks:=t' }:=I.un (Un.laid k hp (I.hok.fresh hp)) (I.hok.laid k hp new)
def Inv.write{x e:Qh}{o:HO}{t':Nat}(I:Inv X pins σ H s)(mu:Mut (H x))(he:e=x\/H e=some (.own x))(k:∀b u,b≠e->s.heap.get? b=some u->h'.get? b=some u)(heo:∃u,h'.get? e=some u)
 (new:ObjOk X.prog X.w (upd H x o) h' x o):Inv X pins σ (upd H x o) { s with heap:=h',toks:=t' }:=I.un (Un.write mu he k heo) (I.hok.write mu he k heo new)
def Inv.pins_of(I:Inv X pins σ H s)(h:∀p∈pins',s.heap.get? p.1=some p.2/\H p.1=none/\p.1≠X.env.locals/\p.1∉X.fs/\∀v,p.2.data≠.cell v):Inv X pins' σ H s :=
 ⟨I.ok,I.os,I.bare,I.base,I.loc,I.cell,I.free,I.freeC,fun p hp=>(GH.mp hp).elim (fun z=>I.pin p (LS _ z)) (h p),I.hok,I.len⟩
def Jeb{N:List Str}(hN:N.Nodup){i j:Nat}{x:Str}(a:N[i]?=some x)(b:N[j]?=some x):i=j:=by obtain⟨h1,e1⟩:=Qo.mp a;obtain⟨h2,e2⟩:=Qo.mp b;exact(List.getElem_inj hN).mp (e1.trans e2.symm)
def JbR{M:Model}{A:QM}{E:Qe->Qg->Prop}{i:Nat}{x:Str}{v:V}{u:Qe}{Q:Unit->Qg->Prop}(I:Inv X pins σ H s)(hN:X.N.Nodup)(hi:X.N[i]?=some x)(hx:Loc X.env.scope x)(r:RelV v u)
 (h:∀s',Inv X pins (σ.set i (some v)) H s'->(∃a,QK a s.heap s'.heap/\(a=X.env.locals\/X.env.cells.lookup x=some a))->Q () s') (hf:X.fn x=true\/X.env.scope.names.lookup x=some .local:=by first|exact .inl rfl|exact .inr rfl|assumption):wpAny M A (storeName X.env x u) Q E s:=by
 obtain⟨m,hn,hl⟩:=id I.loc;have hcls:(X.env.scope.kind == .class || (X.env.scope.kind == .module && X.env.locals != X.env.globals))=false:=by rw[I.ok.kind];rfl
 have hiσ:i<σ.length:=by rw[I.len];exact(Qo.mp hi).1
 have cne:=I.cne
 have tracked:∀{a:Qh} {h':Q2},(∃o,s.heap.get? a=some o/\H a=none)->QK a s.heap h'->HOk X.prog X.w H h':=fun {a h'} ha hs b ob e=>by
  obtain⟨_,_,hfree⟩:=ha;refine(I.hok b ob e).stay (fun c w' hc q=>(hs.2 c ?_).trans q) (fun _ q=>q) fun _ _ q=>q
  rintro rfl;rcases hc with rfl|hc
  ·rw[hfree] at e;cases e
  ·rw[hfree] at hc;cases hc
 rcases hx with hk|hk
 ·refine wpAny_storeName_local hk hn (fun h' hn' hs=>?_) hcls;obtain⟨oL,_,_,hoL,_⟩:=id hn;refine h _ ⟨I.ok,I.os,I.bare,⟨fun b o e n hb hx=>?_,fun b o e n hb hx=>?_,I.base.free,fun b o e hx=>?_,I.base.tups,I.base.frzs,I.base.tbls⟩,⟨_,hn',fun j y v' e1 e2 e3=>?_⟩,fun y c e=>?_,I.free,I.freeC,fun p hp=>?_,tracked ⟨oL,hoL,I.free⟩ hs,by simpa using I.len⟩ ⟨_,hs,.inl rfl⟩
  ·exact(hs.2 b (QF (Q4 (Qn e) I.ok.above))).trans (I.base.keep b o e n hb hx)
  ·obtain⟨sl,e1⟩:=I.base.slot b o e n hb hx;exact⟨sl,(hs.2 b (QF (Q4 (Qn e) I.ok.above))).trans e1⟩
  ·obtain⟨o',e1⟩:=I.base.there b o e hx;exact⟨o',(hs.2 b (QF (Q4 (Qn e) I.ok.above))).trans e1⟩
  ·by_cases hj:j=i
   ·subst hj;rw[hi] at e1;cases e1;rw[RC hiσ] at e2;cases e2;exact⟨u,r,.inl ⟨hk,by simp⟩⟩
   ·rw[R0 (Q3 hj)] at e2;obtain⟨u',r',q⟩:=hl j y v' e1 e2 e3;refine⟨u',r',?_⟩;rcases q with ⟨k,e⟩|⟨k,c,e,z⟩
    ·refine .inl ⟨k,?_⟩;have:y≠x:=fun e=>hj (Jeb hN e1 (e▸hi))
     simp[this,e]
    ·exact .inr ⟨k,c,e,z.sameBut hs (cne y c e)⟩
  ·obtain⟨w',z⟩:=I.cell y c e;exact⟨w',z.sameBut hs (cne y c e)⟩
  ·obtain⟨e,n,ne,nf,d⟩:=I.pin p hp;exact⟨(hs.2 p.1 ne).trans e,n,ne,nf,d⟩
 ·have hfn:X.fn x=true:=by
   rcases hf with z|z
   ·exact z
   ·rw[z] at hk;cases hk
  obtain⟨c,hc⟩:=I.ok.has x (.inl hk);obtain⟨w',z⟩:=I.cell x c hc;refine wpAny_storeName_cell I.ok.kind hk hc z (fun h' hc' hs=>?_);obtain⟨oc,hoc,hocd⟩:=id z;refine h { s with heap:=h' } ⟨I.ok,I.os,I.bare,⟨fun b o e n hb hx=>?_,fun b o e n hb hx=>?_,I.base.free,fun b o e hx=>?_,I.base.tups,I.base.frzs,I.base.tbls⟩,⟨m,hn.sameBut hs (Q3 (cne x c hc)),fun j y v' e1 e2 e3=>?_⟩,fun y c' e=>?_,I.free,I.freeC,fun p hp=>?_,tracked ⟨oc,hoc,I.freeC x c hc⟩ hs,by simpa using I.len⟩ ⟨c,hs,.inr hc⟩
  ·exact(hs.2 b (QF (Q4 (Qn e) (I.ok.cab x c hfn hc)))).trans (I.base.keep b o e n hb hx)
  ·obtain⟨sl,e1⟩:=I.base.slot b o e n hb hx;exact⟨sl,(hs.2 b (QF (Q4 (Qn e) (I.ok.cab x c hfn hc)))).trans e1⟩
  ·obtain⟨o',e1⟩:=I.base.there b o e hx;exact⟨o',(hs.2 b (QF (Q4 (Qn e) (I.ok.cab x c hfn hc)))).trans e1⟩
  ·by_cases hj:j=i
   ·subst hj;rw[hi] at e1;cases e1;rw[RC hiσ] at e2;cases e2;exact⟨u,r,.inr ⟨.inl hk,c,hc,hc'⟩⟩
   ·rw[R0 (Q3 hj)] at e2;obtain⟨u',r',q⟩:=hl j y v' e1 e2 e3;refine⟨u',r',?_⟩;rcases q with q|⟨k,c',e,z'⟩
    ·exact .inl q
    ·refine .inr ⟨k,c',e,z'.sameBut hs ?_⟩;rintro rfl;exact hj (Jeb hN e1 (I.ok.inj _ _ _ e hc▸hi))
  ·by_cases hcc:c'=c
   ·subst hcc;exact⟨_,hc'⟩
   ·obtain⟨w2,z2⟩:=I.cell y c' e;exact⟨w2,z2.sameBut hs hcc⟩
  ·obtain⟨e,n,ne,nf,d⟩:=I.pin p hp;refine⟨(hs.2 p.1 ?_).trans e,n,ne,nf,d⟩;intro q;rw[q,hoc] at e;have q':oc=p.2:=QS e;exact d w' (by rw[<- q'];exact hocd)
def JaM{M:Model}{A:QM}{E:Qe->Qg->Prop}{i:Nat}{x:Str}{v:V}{u:Qe}{Q:Unit->Qg->Prop}(I:Inv X pins σ H s)(hN:X.N.Nodup)(hi:X.N[i]?=some x)(hx:Loc X.env.scope x)(r:RelV v u)
 (h:∀s',Inv X pins (σ.set i (some v)) H s'->Q () s') (hf:X.fn x=true\/X.env.scope.names.lookup x=some .local:=by first|exact .inl rfl|exact .inr rfl|assumption):wpAny M A (storeName X.env x u) Q E s :=
 JbR I hN hi hx r (fun s' I' _=>h s' I') hf
def Inv.call'(I:Inv X pins σ H s)(ho:s'.os=s.os)(u:Un (frs X.stack) ch H H' s.heap s'.heap)(hok:HOk X.prog X.w H' s'.heap)(hg:AllBare s'.gens)(hch:∀b∈ch,(b∈X.ex\/X.s₀.heap.objs.size<=b)/\b≠X.env.locals/\(∀x c,X.env.cells.lookup x=some c->c≠b)/\∀p∈X.pn++pins,p.1≠b):Inv X pins σ H' s':=by
 obtain⟨h',g',d',t',o'⟩:=s';have e:o'=s.os:=ho;subst e;exact I.call (g':=g') (t':=t') (d':=d') u hok hg hch
end
abbrev XK:=Qe->Option Qh->Hp->Prop
abbrev St:=List (Option V)
abbrev VK:=V->Hp->Prop
abbrev TE:=St->Hp->VK->Prop
abbrev TT:=St->Hp->(Bool->Hp->Prop)->Prop
abbrev TA:=St->Hp->(List V->Hp->Prop)->Prop
structure Ends where
 nx:St->Hp->Prop
 rt:VK
 bk:St->Hp->Prop:=fun _ _=>False
 ct:St->Hp->Prop:=fun _ _=>False
abbrev TS:=Ends->St->Hp->Prop
def EP(X:Cx)(pins:List (Qh×Obj))(σ:St)(Q:VK)(u:Qe)(s':Qg):Prop:=∃v H',Inv X pins σ H' s'/\RelV v u/\Q v H'
def TP(X:Cx)(pins:List (Qh×Obj))(σ:St)(Q:Bool->Hp->Prop)(b:Bool)(s':Qg):Prop:=∃H',Inv X pins σ H' s'/\Q b H'
def AP(X:Cx)(pins:List (Qh×Obj))(σ:St)(Q:List V->Hp->Prop)(us:List Qe)(s':Qg):Prop:=∃vs H',Inv X pins σ H' s'/\Vals vs us/\Q vs H'
def SP(X:Cx)(pins:List (Qh×Obj))(D:Ends)(f:Flow)(s':Qg):Prop :=
 match f with
 | .next=>∃σ' H',Inv X pins σ' H' s'/\D.nx σ' H'
 | .brk=>∃σ' H',Inv X pins σ' H' s'/\D.bk σ' H'
 | .cont=>∃σ' H',Inv X pins σ' H' s'/\D.ct σ' H'
 | .ret u=>∃v σ' H',Inv X pins σ' H' s'/\RelV v u/\D.rt v H'
def PE(X:Cx)(e:Gu)(t:TE):Prop :=
 ∀(pins:List (Qh×Obj)) (s:Qg) (σ:St) (H:Hp) (Q:VK),Inv X pins σ H s->t σ H Q->wpAny (model X.prog X.w) X.A (eval e X.env) (EP X pins σ Q) X.xe s
def PT(X:Cx)(e:Gu)(t:TT):Prop :=
 ∀(pins:List (Qh×Obj)) (s:Qg) (σ:St) (H:Hp) (Q:Bool->Hp->Prop),Inv X pins σ H s->t σ H Q->wpAny (model X.prog X.w) X.A (isTrue e X.env (eval e X.env)) (TP X pins σ Q) X.xe s
def PW(X:Cx)(e:Gu)(t:TT):Prop :=
 ∀(whole:Sem Qe) (pins:List (Qh×Obj)) (s:Qg) (σ:St) (H:Hp) (Q:Bool->Hp->Prop),Inv X pins σ H s->t σ H Q->wpAny (model X.prog X.w) X.A (isTrue e X.env whole) (TP X pins σ Q) X.xe s
def PW.pt(h:PW X e t):PT X e t:=h _
def PA(X:Cx)(es:List Gu)(t:TA):Prop :=
 ∀(pos:Pos) (pins:List (Qh×Obj)) (s:Qg) (σ:St) (H:Hp) (Q:List V->Hp->Prop),Inv X pins σ H s->t σ H Q->wpAny (model X.prog X.w) X.A (spliced (backTo pos (starEach es X.env))) (AP X pins σ Q) X.xe s
def PS(X:Cx)(st:Kt)(t:TS):Prop :=
 ∀(pins:List (Qh×Obj)) (s:Qg) (σ:St) (H:Hp) (D:Ends),Inv X pins σ H s->t D σ H->wpAny (model X.prog X.w) X.A (exec st X.env) (SP X pins D) X.xe s
def PSs(X:Cx)(st:List Kt)(t:TS):Prop :=
 ∀(pins:List (Qh×Obj)) (s:Qg) (σ:St) (H:Hp) (D:Ends),Inv X pins σ H s->t D σ H->wpAny (model X.prog X.w) X.A (execs st X.env) (SP X pins D) X.xe s
def thn{α:Type}{t:Sem α}{Q Q':α->Qg->Prop}(h:wpAny M A t Q E s)(hQ:∀a s,Q a s->Q' a s):wpAny M A t Q' E s:=KF h hQ fun _ _ x=>x
section
variable{X:Cx}
def VV(i:Nat):TE:=fun σ H Q=>∃v,σ[i]?=some (some v)/\Q v H
def tC(v:V):TE:=fun _ H Q=>Q v H
def Jkl{i:Nat}{x:Str}{pos:Pos}(hN:X.N[i]?=some x)(hv:Vis X.env.scope x)(hd:(x == ("__debug__":Str))=false:=by decide)(hcd:(x == ("__classdict__":Str))=false:=by decide):PE X (.Name x pos) (VV i):=by
 intro pins s σ H Q I h;obtain⟨v,e,h⟩:=h;obtain⟨m,hn,hl⟩:=I.loc;obtain⟨u,r,l⟩:=hl i x v hN e hv;have fin:EP X pins σ Q u s:=⟨v,H,I,r,h⟩
 rcases l with ⟨hk,hm⟩|⟨hk,c,hc,hcell⟩
 ·exact wpAny_Name (wpAny_loadName_local I.ok.kind hk hn hm fin) hd
 ·rcases hk with hk|hk
  ·exact wpAny_Name (wpAny_loadName_cell I.ok.kind hk hc hcell fin) hd
  ·exact wpAny_Name (wpAny_loadName_free I.ok.kind hk hc hcell fin hcd) hd
def Jh{i j pos}:PE X (.Constant (.int i) j pos) (tC (.int i)):=fun _ _ _ H _ I h=>wpAny_Constant_int ⟨.int i,H,I.tok _,⟨_,rfl⟩,h⟩
def Y4{b j pos}:PE X (.Constant (.bool b) j pos) (tC (.bl b)):=fun _ _ _ H _ I h=>Constant_bool ⟨.bl b,H,I,rfl,h⟩
def Uo{j pos}:PE X (.Constant .none j pos) (tC .non):=fun _ _ _ H _ I h=>Constant_none ⟨.non,H,I,rfl,h⟩
def Gl(X:Cx)(x:Str):Prop:=X.env.kindOf x=some .globalImplicit
def Jcz{E:Qe->Qg->Prop}{pins:List (Qh×Obj)}{s:Qg}{σ:St}{H:Hp}{x:Str}{u:Qe}{pos:Pos}{Q:Qe->Qg->Prop}(I:Inv X pins σ H s)(hg:Gl X x)(hm:X.mg x=some u)(h:Q u s)
 (hd:(x == ("__debug__":Str))=false:=by decide):wpAny (model X.prog X.w) X.A (eval (.Name x pos) X.env) Q E s :=
 MS I.ok.kind hg (Calls.loadGlobal_global (by rw[I.ok.glob];exact I.mod.glob.keeps I.bk) hm h) hd
def Y2{E:Qe->Qg->Prop}{pins:List (Qh×Obj)}{s:Qg}{σ:St}{H:Hp}{x:Str}{u:Qe}{pos:Pos}{Q:Qe->Qg->Prop}(I:Inv X pins σ H s)(hg:Gl X x)(hm:X.mg x=none)(hv:bootBuiltins x=some u)(h:Q u s)
 (hn:x≠"__name__":=by decide) (hd:(x == ("__debug__":Str))=false:=by decide):wpAny (model X.prog X.w) X.A (eval (.Name x pos) X.env) Q E s:=by
 obtain⟨mb,h1,h2⟩:=I.mod.blt;exact MS I.ok.kind hg (Calls.loadGlobal_builtin (by rw[I.ok.glob];exact I.mod.glob.keeps I.bk) hm (by rw[I.ok.blt];exact h1.keeps I.bk) ((h2 x hn).trans hv) h) hd
def JmX{x:Str}{v:V}{u:Qe}{pos:Pos}(hg:Gl X x)(hm:X.mg x=some u)(r:RelV v u)(hd:(x == ("__debug__":Str))=false:=by decide):PE X (.Name x pos) (tC v) :=
 fun _ _ _ H _ I h=>Jcz I hg hm ⟨v,H,I,r,h⟩ hd
def VM{x:Str}{v:V}{u:Qe}{pos:Pos}(hg:Gl X x)(hm:X.mg x=none)(hv:bootBuiltins x=some u)(r:RelV v u)(hn:x≠"__name__":=by decide)(hd:(x == ("__debug__":Str))=false:=by decide):PE X (.Name x pos) (tC v) :=
 fun _ _ _ H _ I h=>Y2 I hg hm hv ⟨v,H,I,r,h⟩ hn hd
variable{a b:Gu}{ta tb:TE}{pos:Pos}
variable{tA tB':TT}{rest:List Gu}
def JqE(t u:TT):TT:=fun σ H Q=>t σ H fun c H1=>if c=true then u σ H1 Q else Q false H1
def tOr(t u:TT):TT:=fun σ H Q=>t σ H fun c H1=>if c=true then Q true H1 else u σ H1 Q
def Jsj(t:TT):TT:=fun σ H Q=>t σ H fun c H1=>Q (!c) H1
def VN(ha:PT X a tA):PW X (.BoolOp .And [a] pos) tA:=by
 intro wh pins s σ H Q I h;refine isTrue_and (thn (ha pins s σ H Q I h) fun c s1 e=>?_)
 cases c with
 | true=>exact isTrue_and_nil e
 | false=>exact e
def W8(ha:PT X a tA):PW X (.BoolOp .Or [a] pos) tA:=by
 intro wh pins s σ H Q I h;refine isTrue_or (thn (ha pins s σ H Q I h) fun c s1 e=>?_)
 cases c with
 | false=>exact isTrue_or_nil e
 | true=>exact e
def W7(ha:PT X a tA)(hb:PW X (.BoolOp .And (b::rest) pos) tB'):PW X (.BoolOp .And (a::b::rest) pos) (JqE tA tB'):=by
 intro wh pins s σ H Q I h;refine isTrue_and (thn (ha pins s σ H _ I h) fun c s1 ⟨H1,I1,q1⟩=>?_)
 cases c with
 | true=>exact hb wh pins s1 σ H1 Q I1 q1
 | false=>exact⟨H1,I1,q1⟩
def JbO(ha:PT X a tA)(hb:PW X (.BoolOp .Or (b::rest) pos) tB'):PW X (.BoolOp .Or (a::b::rest) pos) (tOr tA tB'):=by
 intro wh pins s σ H Q I h;refine isTrue_or (thn (ha pins s σ H _ I h) fun c s1 ⟨H1,I1,q1⟩=>?_)
 cases c with
 | true=>exact⟨H1,I1,q1⟩
 | false=>exact hb wh pins s1 σ H1 Q I1 q1
def Vp(ha:PT X a tA):PT X (.UnaryOp .Not a pos) (Jsj tA):=by intro pins s σ H Q I h;exact isTrue_not (ha pins s σ H (fun c H1=>Q (!c) H1) I h)
def tIf(t:TT)(ta tb:TE):TE:=fun σ H Q=>t σ H fun c H1=>if c=true then ta σ H1 Q else tb σ H1 Q
def Jel(hc:PT X c tA)(ha:PE X a ta)(hb:PE X b tb):PE X (.IfExp c a b pos) (tIf tA ta tb):=by
 intro pins s σ H Q I h;refine wpAny_IfExp (thn (hc pins s σ H _ I h) fun d s1 ⟨H1,I1,q1⟩=>?_)
 cases d with
 | true=>exact ha pins s1 σ H1 Q I1 q1
 | false=>exact hb pins s1 σ H1 Q I1 q1
end
def SqL(K:Qz)(H:Hp)(a:Qh)(xs:List V):Prop :=
 Rd H a (.lst xs) ∨
  ∃(o:Obj) (its:Array Qe) (n:Nat),K.lookup a=some o/\o.cls=.type "list"/\o.dict=none/\o.data=.seq its n/\its.size<=Qr/\Vals xs its.toList
def SqT(K:Qz)(H:Hp)(a:Qh)(xs:List V):Prop :=
 Rd H a (.tup xs) ∨
  ∃(o:Obj) (its:Array Qe) (n:Nat),K.lookup a=some o/\o.cls=.type "tuple"/\o.data=.seq its n/\its.size<=Qr/\Vals xs its.toList
noncomputable def Jsy:Qe->Option V
 | .none=>some .non
 | .bool b=>some (.bl b)
 | .int i _=>some (.int i)
 | .str x _=>some (.str x)
 | .bytes b _=>some (.byt b)
 | .float b _=>some (.flt b)
 | .ref a=>some (.ref a)
 | .type n=>some (.ty n)
 | _=>none
def RelV.abs(r:RelV x u):Jsy u=some x:=by
 cases x with
 | non=>cases r;rfl
 | bl _=>cases r;rfl
 | int _=>obtain⟨t,rfl⟩:=r;rfl
 | str _=>obtain⟨t,rfl⟩:=r;rfl
 | byt _=>obtain⟨t,rfl⟩:=r;rfl
 | flt _=>obtain⟨t,rfl⟩:=r;rfl
 | ref _=>cases r;rfl
 | ty _=>cases r;rfl
def RelV.inj(r:RelV x u)(q:RelV y u):x=y:=QS (r.abs.symm.trans q.abs)
theorem Vals.inj:∀{xs ys:List V} {us:List Qe},Vals xs us->Vals ys us->xs=ys
 | _,_,_,.nil,.nil=>rfl
 | _,_,_,.cons r t,.cons r' t'=>by rw[r.inj r',Vals.inj t t']
def SqL.of{K:Qz}(h:H a=some (.lst xs)):SqL K H a xs:=.inl (.inl h)
def SqT.of{K:Qz}(h:H a=some (.tup xs)):SqT K H a xs:=.inl (.inl h)
def Inv.list(I:Inv X pins σ H s)(h:SqL X.K H a xs):∃its:List Qe,Vals xs its/\PlainL s.heap a its.toArray/\xs.length<=Qr:=by
 rcases h with h|⟨o,its,n,hk,hc,hd,hs,hz,r⟩
 ·obtain⟨z,its,n,r,e⟩:=h.ok I.hok;exact⟨its,r,⟨_,n,e,rfl,rfl,rfl⟩,z⟩
 ·refine⟨its.toList,r,⟨o,n,I.kIn a o hk,hc,hd,by simpa using hs⟩,?_⟩;have e:=r.length;simp only[QU] at e;omega
def Inv.tuple(I:Inv X pins σ H s)(h:SqT X.K H a xs):∃its:List Qe,Vals xs its/\IsTup s.heap a its.toArray/\xs.length<=Qr:=by
 rcases h with h|⟨o,its,n,hk,hc,hs,hz,r⟩
 ·obtain⟨z,its,r,p⟩:=h.ok I.hok;exact⟨its,r,p,z⟩
 ·refine⟨its.toList,r,⟨o,I.kIn a o hk,hc,n,by simpa using hs⟩,?_⟩;have e:=r.length;simp only[QU] at e;omega
def Inv.list_inj(I:Inv X pins σ H s)(h:SqL X.K H a xs)(h':SqL X.K H a ys):xs=ys:=by
 obtain⟨its,r,⟨o,n,e,_,_,d⟩,_⟩:=I.list h;obtain⟨its',r',⟨o',n',e',_,_,d'⟩,_⟩:=I.list h';rw[e] at e';cases e';rw[d] at d'
 injection d' with d1 _
 have:its=its':=by simpa using congrArg Array.toList d1
 subst this;exact r.inj r'
def Inv.tuple_inj(I:Inv X pins σ H s)(h:SqT X.K H a xs)(h':SqT X.K H a ys):xs=ys:=by
 obtain⟨its,r,⟨o,e,_,n,d⟩,_⟩:=I.tuple h;obtain⟨its',r',⟨o',e',_,n',d'⟩,_⟩:=I.tuple h';rw[e] at e';cases e';rw[d] at d'
 injection d' with d1 _
 have:its=its':=by simpa using congrArg Array.toList d1
 subst this;exact r.inj r'
abbrev Cx.wish(X:Cx)(E:Qe->Qg->Prop):Cx:={ X with xe:=E }
abbrev Cx.nox(X:Cx):Cx:=X.wish fun _ _=>False
def Cx.Ok.wish{X:Cx}(ok:X.Ok)(E:Qe->Qg->Prop):(X.wish E).Ok :=
 ⟨ok.mod,ok.kind,ok.glob,ok.blt,ok.above,ok.inj,ok.has,ok.cab,ok.hd,ok.frames,ok.stk,ok.exf,ok.bs,ok.bsz,ok.noex,ok.exfs,ok.funs,ok.frf⟩
def Cx.Ok.unwish{X:Cx}{E:Qe->Qg->Prop}(ok:(X.wish E).Ok):X.Ok :=
 ⟨ok.mod,ok.kind,ok.glob,ok.blt,ok.above,ok.inj,ok.has,ok.cab,ok.hd,ok.frames,ok.stk,ok.exf,ok.bs,ok.bsz,ok.noex,ok.exfs,ok.funs,ok.frf⟩
def Inv.wish(I:Inv X pins σ H s)(E:Qe->Qg->Prop):Inv (X.wish E) pins σ H s:=⟨I.ok.wish E,I.os,I.bare,I.base,I.loc,I.cell,I.free,I.freeC,I.pin,I.hok,I.len⟩
def Inv.unwish(I:Inv (X.wish E) pins σ H s):Inv X pins σ H s:=⟨I.ok.unwish,I.os,I.bare,I.base,I.loc,I.cell,I.free,I.freeC,I.pin,I.hok,I.len⟩
def SP.unwish(h:SP (X.wish E) pins D f s'):SP X pins D f s':=by
 cases f with
 | next=>obtain⟨σ',H',I,q⟩:=h;exact⟨σ',H',I.unwish,q⟩
 | brk=>obtain⟨σ',H',I,q⟩:=h;exact⟨σ',H',I.unwish,q⟩
 | cont=>obtain⟨σ',H',I,q⟩:=h;exact⟨σ',H',I.unwish,q⟩
 | ret u=>obtain⟨v,σ',H',I,r,q⟩:=h;exact⟨v,σ',H',I.unwish,r,q⟩
def PSs.nox{st:List Kt}{t:TS}(h:PSs X.nox st t):PSs X st t:=fun pins s σ H D I hw=>KF (h pins s σ H D (I.wish _) hw) (fun _ _ q=>q.unwish) fun _ _ z=>G4 z
section
variable{X:Cx}{st:Kt}{rest:List Kt}{t u:TS}{e:Gu}{te:TE}{pos:Pos}
def Jk4:TS:=fun D σ H=>D.nx σ H
def JqI(t u:TS):TS:=fun D σ H=>t { D with nx:=u D } σ H
def JK:PSs X [] Jk4:=fun _ _ σ H _ I h=>MG ⟨σ,H,I,h⟩
def Jd(h1:PS X st t)(h2:PSs X rest u):PSs X (st::rest) (JqI t u):=by
 intro pins s σ H D I h;refine wpAny_execs_cons (thn (h1 pins s σ H { D with nx:=u D } I h) fun f s1 q=>?_)
 cases f with
 | next=>obtain⟨σ',H',I',q⟩:=q;exact h2 pins s1 σ' H' D I' q
 | ret v=>exact q
 | brk=>exact q
 | cont=>exact q
def Jf(h1:PS X st t):PSs X [st] t:=by
 intro pins s σ H D I h;refine wpAny_execs_cons (thn (h1 pins s σ H D I h) fun f s1 q=>?_)
 cases f with
 | next=>exact MG q
 | ret v=>exact q
 | brk=>exact q
 | cont=>exact q
def Inv.quiet{pins:List (Qh×Obj)}{σ:St}{H:Hp}{s:Qg}(I:Inv X pins σ H s):interactive X.env=false:=by simp[interactive,I.ok.kind]
def Zq(te:TE):TS:=fun D σ H=>te σ H fun _ H1=>D.nx σ H1
def Yq(he:PE X e te)(hs:swapsWith e none pos.line X.env=pure false:=by rfl):PS X (.Expr e pos) (Zq te):=by intro pins s σ H D I h;exact wpAny_Expr_any (thn (he pins s σ H _ I h) fun v s1 ⟨x,H1,I1,r1,q1⟩=>⟨σ,H1,I1,q1⟩) I.quiet hs
def JqH(te:TE):TS:=fun D σ H=>te σ H D.rt
def Jp(he:PE X e te):PS X (.Return (some e) pos) (JqH te):=by intro pins s σ H D I h;exact wpAny_Return_some (thn (he pins s σ H _ I h) fun v s1 ⟨x,H1,I1,r1,q1⟩=>⟨x,σ,H1,I1,r1,q1⟩)
def JqG(c:TT)(t u:TS):TS:=fun D σ H=>c σ H fun b H1=>if b=true then t D σ H1 else u D σ H1
def Yr(hc:PT X c tc)(ha:PSs X a t)(hb:PSs X b u):PS X (.If c a b pos) (JqG tc t u):=by
 intro pins s σ H D I h;refine wpAny_If (thn (hc pins s σ H _ I h) fun d s1 ⟨H1,I1,q1⟩=>?_)
 cases d with
 | true=>exact ha pins s1 σ H1 D I1 q1
 | false=>exact hb pins s1 σ H1 D I1 q1
def Jk3:TS:=fun _ _ _=>False
def Y1:PS X st Jk3:=fun _ _ _ _ _ _ h=>h.elim
end
abbrev TG:=V->St->Hp->(St->Hp->Prop)->Prop
abbrev TGs:=List V->St->Hp->(St->Hp->Prop)->Prop
def PG(X:Cx)(target:Gu)(t:TG):Prop :=
 ∀(pins:List (Qh×Obj)) (s:Qg) (σ:St) (H:Hp) (v:V) (u:Qe) (Q:St->Hp->Prop),Inv X pins σ H s->RelV v u->t v σ H Q ->
  wpAny (model X.prog X.w) X.A (assign target X.env u) (fun _ s'=>∃σ' H',Inv X pins σ' H' s'/\Q σ' H') X.xe s
def PGs(X:Cx)(ts:List Gu)(t:TGs):Prop :=
 ∀(pins:List (Qh×Obj)) (s:Qg) (σ:St) (H:Hp) (vs:List V) (us:List Qe) (Q:St->Hp->Prop),Inv X pins σ H s->Vals vs us->t vs σ H Q ->
  wpAny (model X.prog X.w) X.A (assignInOrder ((assignEach ts X.env).map (·.2)) us) (fun _ s'=>∃σ' H',Inv X pins σ' H' s'/\Q σ' H') X.xe s
abbrev TIp:=V->V->Hp->VK->Prop
noncomputable def PIp(X:Cx)(op:Operator)(t:TIp):Prop :=
 ∀(pins:List (Qh×Obj)) (s:Qg) (σ:St) (H:Hp) (x y:V) (v u:Qe) (Q:VK),Inv X pins σ H s->RelV x v->RelV y u->t x y H Q ->
  wpAny (model X.prog X.w) X.A (inplaceOp op v u) (EP X pins σ Q) X.xe s
noncomputable def Vc(i:Nat):TG:=fun v σ H Q=>Q (σ.set i (some v)) H
def Ju{i:Nat}{x:Str}(hN:X.N.Nodup)(hi:X.N[i]?=some x)(hx:Loc X.env.scope x)(hf:X.fn x=true\/X.env.scope.names.lookup x=some .local:=by first|exact .inl rfl|exact .inr rfl|assumption):PG X (.Name x pos) (Vc i):=by intro pins s σ H v u Q I r h;exact wpAny_assign_Name (JaM I hN hi hx r (fun s' I'=>⟨_,H,I',h⟩) hf)
noncomputable def Jma:TGs:=fun vs σ H Q=>vs=[]/\Q σ H
noncomputable def JgI(t:TG)(u:TGs):TGs:=fun vs σ H Q=>∃v r,vs=v::r/\t v σ H fun σ' H'=>u r σ' H' Q
def Jy:PGs X [] Jma:=by intro pins s σ H vs us Q I r h;obtain⟨e,h⟩:=h;subst e;cases r;exact assignInOrder_nil ⟨σ,H,I,h⟩
def Jg{e:Gu}{es:List Gu}{t:TG}{u:TGs}(h1:PG X e t)(h2:PGs X es u)
 (hs:(assignEach (e::es) X.env).map (·.2)=assign e X.env::(assignEach es X.env).map (·.2):=by rfl):PGs X (e::es) (JgI t u):=by
 intro pins s σ H vs us Q I r h;obtain⟨v,vr,e1,h⟩:=h;subst e1
 cases r with
 | cons r rr=>rw[hs];refine assignInOrder_cons (thn (h1 pins s σ H _ _ _ I r h) fun _ s1 ⟨σ1,H1,I1,q1⟩=>?_);exact h2 pins s1 σ1 H1 _ _ Q I1 rr q1
noncomputable def Jh1(K:Qz)(n:Nat)(t:TGs):TG:=fun v σ H Q=>∃a xs,v=.ref a/\SqT K H a xs/\xs.length=n/\t xs σ H Q
def Jp0{es:List Gu}{k:Nat}{t:TGs}{n:Nat}(hc:X.calm=true)(h:PGs X es t)
 (hn:(assignEach es X.env).length=n:=by rfl) (hst:(assignEach es X.env).findIdx? (·.1)=none:=by rfl):PG X (.Tuple es k pos) (Jh1 X.K n t):=by
 intro pins s σ H v u Q I r hw;obtain⟨a,xs,e1,hq,hl,hw⟩:=hw;subst e1;cases r;obtain⟨its,rv,ht,hz⟩:=I.tuple hq;refine assign_Tuple_tuple (I.ok.hd hc) ht (by simp[hn,<- hl,rv.length]) hst fun h' hx=>?_
 have I1:Inv X pins σ H { s with heap:=h' }:=I.kept (t':=s.toks) fun b o e=>hx b o (QF (Qn e)) e
 exact h pins _ σ H xs _ Q I1 (by simpa using rv) hw
noncomputable def Jf1(te:TE)(g:TG):TS:=fun D σ H=>te σ H fun x H1=>g x σ H1 D.nx
def JcP{i:Nat}{x:Str}{e:Gu}{te:TE}{pos':Pos}(hN:X.N.Nodup)(hi:X.N[i]?=some x)(hx:Loc X.env.scope x)(he:PE X e te)(hs:swapsWith e (some (.Name x pos')) pos.line X.env=pure false:=by rfl)(hf:X.fn x=true\/X.env.scope.names.lookup x=some .local:=by first|exact .inl rfl|exact .inr rfl|assumption) :
 PS X (.Assign [.Name x pos'] e pos) (Jf1 te (Vc i)):=by
 intro pins s σ H D I h;refine wpAny_Assign_Name (thn (he pins s σ H _ I h) fun v s1 ⟨y,H1,I1,r1,q1⟩=>?_) hs;exact JaM I1 hN hi hx r1 (fun s2 I2=>⟨_,H1,I2,q1⟩) hf
noncomputable def Jsi(i:Nat)(te:TE)(ti:TIp):TS:=fun D σ H=>∃x,σ[i]?=some (some x)/\te σ H fun y H1=>ti x y H1 fun z H2=>D.nx (σ.set i (some z)) H2
def Jkr{i:Nat}{x:Str}{e:Gu}{te:TE}{op:Operator}{ti:TIp}{pos':Pos}(hN:X.N.Nodup)(hi:X.N[i]?=some x)(hx:Loc X.env.scope x)(he:PE X e te)(ho:PIp X op ti)(hf:X.fn x=true\/X.env.scope.names.lookup x=some .local:=by first|exact .inl rfl|exact .inr rfl|assumption) :
 PS X (.AugAssign (.Name x pos') op e pos) (Jsi i te ti):=by
 intro pins s σ H D I h;obtain⟨v,e1,h⟩:=h;obtain⟨m,hn,hl⟩:=I.loc;have vis:Vis X.env.scope x:=by rcases hx with k|k;exact .inl k;exact .inr (.inl k)
 obtain⟨u,r,l⟩:=hl i x v hi e1 vis;refine wpAny_AugAssign_Name ?_
 have go:wpAny (model X.prog X.w) X.A (eval e X.env) (fun w s₂=>wpAny (model X.prog X.w) X.A (inplaceOp op u w) (fun r s₃=>wpAny (model X.prog X.w) X.A (storeName X.env x r) (fun _=>SP X pins D .next) X.xe s₃) X.xe s₂) X.xe s:=by
  refine thn (he pins s σ H _ I h) fun w s1 ⟨y,H1,I1,r1,q1⟩=>?_
  refine thn (ho pins s1 σ H1 v y u w _ I1 r r1 q1) fun z s2 ⟨zv,H2,I2,r2,q2⟩=>?_
  exact JaM I2 hN hi hx r2 (fun s3 I3=>⟨_,H2,I3,q2⟩) hf
 rcases l with ⟨hk,hm⟩|⟨hk,c,hc,hcell⟩
 ·exact wpAny_loadName_local I.ok.kind hk hn hm go
 ·rcases hk with hk|hk
  ·exact wpAny_loadName_cell I.ok.kind hk hc hcell go
  ·rcases hx with k|k
   ·have:X.env.scope.names.lookup x=some .free:=hk;rw[k] at this;cases this
   ·have:X.env.scope.names.lookup x=some .free:=hk;rw[k] at this;cases this
noncomputable def ipI(f:Int->Int->Int):TIp:=fun x y H Q=>∃i j,x=.int i/\y=.int j/\Q (.int (f i j)) H
def Jo8:PIp X .Add (ipI fun i j=>i+j):=by intro pins s σ H x y v u Q I r1 r2 h;obtain⟨i,j,e1,e2,q⟩:=h;subst e1;subst e2;obtain⟨t,rfl⟩:=r1;obtain⟨t',rfl⟩:=r2;exact iadd_int ⟨.int _,H,I.tok _,⟨_,rfl⟩,q⟩
def Jo9:PIp X .Sub (ipI fun i j=>i-j):=by intro pins s σ H x y v u Q I r1 r2 h;obtain⟨i,j,e1,e2,q⟩:=h;subst e1;subst e2;obtain⟨t,rfl⟩:=r1;obtain⟨t',rfl⟩:=r2;exact isub_int ⟨.int _,H,I.tok _,⟨_,rfl⟩,q⟩
noncomputable def Jk7(c:TT)(tb:TS):TS:=fun D σ H=>∃W:Nat->St->Hp->Prop,(∃m,W m σ H)/\∀m σ H,W m σ H ->
 c σ H fun b H1=>if b=true then ∃N:St->Hp->Prop,(∀σ' H',N σ' H'->∃m',m'<m/\W m' σ' H')/\tb { D with nx:=N,ct:=N,bk:=D.nx } σ H1 else D.nx σ H1
def Jer(hp:PassesOwn (model X.prog X.w) X.A X.env X.xe)(hc:PT X c tc)(hb:PSs X body tb):PS X (.While c body [] pos) (Jk7 tc tb):=by
 intro pins s σ H D I h;obtain⟨W,⟨m0,w0⟩,turn⟩:=h;refine wpAny_While (codeAny_whileLoop (fun n s'=>∃σ' H',Inv X pins σ' H' s'/\W n σ' H') ?_ m0 ⟨σ,H,I,w0⟩);rintro n s1 ⟨σ1,H1,I1,w1⟩;refine La hp (thn (hc pins s1 σ1 H1 _ I1 (turn n σ1 H1 w1)) fun b s2 ⟨H2,I2,q2⟩=>?_)
 cases b with
 | true =>
  obtain⟨N,hN,q2⟩:=q2;rw[if_pos rfl];refine La hp (thn (hb pins s2 σ1 H2 _ I2 q2) fun f s3 q3=>?_)
  cases f with
  | next=>obtain⟨σ3,H3,I3,n3⟩:=q3;obtain⟨m',hm,w3⟩:=hN σ3 H3 n3;exact⟨m',hm,σ3,H3,I3,w3⟩
  | cont=>obtain⟨σ3,H3,I3,n3⟩:=q3;obtain⟨m',hm,w3⟩:=hN σ3 H3 n3;exact⟨m',hm,σ3,H3,I3,w3⟩
  | brk=>exact q3
  | ret v=>exact q3
 | false=>rw[if_neg QH];exact MG ⟨σ1,H2,I2,q2⟩
structure It where
 go:Nat->Hp->Prop
 yld:Nat->Hp->V->Hp->Prop
 stop:Nat->Hp->Prop
noncomputable def FpOk(X:Cx)(pins:List (Qh×Obj))(H:Hp)(b:Qh):Prop :=
 H b=none/\b≠X.env.locals/\b∉X.fs/\(b∈X.ex\/X.s₀.heap.objs.size<=b)/\(∀x c,X.env.cells.lookup x=some c->c≠b)/\∀p∈X.pn++pins,p.1≠b
def Inv.fpOk{X:Cx}{pins:List (Qh×Obj)}{σ:St}{H H':Hp}{s:Qg}{b:Qh}(I:Inv X pins σ H s)(hb:s.heap.objs.size<=b)(hn:H' b=none):FpOk X pins H' b:=by
 refine⟨hn,Gn (Q4 I.lt hb),I.nofs hb,.inr (Gm I.sz hb),fun x c e z=>?_,fun p hp z=>?_⟩
 ·obtain⟨v,q⟩:=I.cell x c e;exact absurd (Q4 q.lt (by rw[z];exact hb)) (Gh _)
 ·exact absurd (Q4 (Qn (I.pin p hp).1) (by rw[z];exact hb)) (Gh _)
structure Turn (P:Qy) (w:QP) (K:Qz) (tg:Gu) (J:It) (fp:List Qh) (it:Qh) (tn:Nat->Q2->Prop):Prop where
 mem:it∈fp
 obj:∀i h,tn i h->∀b∈fp,∃o,h.get? b=some o/\∀v,o.data≠.cell v
 keep:∀i h h',tn i h->(∀b∈fp,∀o,h.get? b=some o->h'.get? b=some o)->tn i h'
 item:∀(X:Cx),X.prog=P->X.w=w->X.K=K->X.calm=true->∀(i:Nat) (pins:List (Qh×Obj)) (s:Qg) (σ:St) (H:Hp) (E:Qe->Qg->Prop),Inv X pins σ H s->(∀b∈fp,FpOk X pins H b)->tn i s.heap->J.go i H ->
  wpAny (model P w) X.A (pyNext (.ref it)) (fun r s1=>∃u,r=some u ∧
   wpAny (model P w) X.A (letOwnedTupleGo tg (.ref it) u) (fun _ s2=>∃x H',Inv X pins σ H' s2/\RelV x u/\J.yld i H x H'/\tn (i+1) s2.heap/\∀b∈fp,H' b=none) E s1) E s
 done:∀(X:Cx),X.prog=P->X.w=w->X.K=K->X.calm=true->∀(i:Nat) (pins:List (Qh×Obj)) (s:Qg) (σ:St) (H:Hp) (E:Qe->Qg->Prop),Inv X pins σ H s->(∀b∈fp,FpOk X pins H b)->tn i s.heap->J.stop i H ->
  wpAny (model P w) X.A (pyNext (.ref it)) (fun r s1=>r=none/\Inv X pins σ H s1) E s
 self:∀(A:QM) (i:Nat) (s:Qg) (Q:Qe->Qg->Prop) (E:Qe->Qg->Prop),tn i s.heap->Q (.ref it) s->wpAny (model P w) A (pyIter (.ref it)) Q E s
noncomputable abbrev TI:=St->Hp->(It->Hp->Prop)->Prop
noncomputable def PIE(X:Cx)(pins:List (Qh×Obj))(σ:St)(tg:Gu)(R:It->Hp->Prop)(itv:Qe)(s2:Qg):Prop :=
 ∃(it:Qh) (fp:List Qh) (tn:Nat->Q2->Prop) (J:It) (H':Hp),itv=.ref it/\Inv X pins σ H' s2/\Turn X.prog X.w X.K tg J fp it tn/\tn 0 s2.heap/\(∀b∈fp,FpOk X pins H' b)/\R J H'
noncomputable def PI(X:Cx)(tg iter:Gu)(wi:TI):Prop :=
 ∀(pins:List (Qh×Obj)) (s:Qg) (σ:St) (H:Hp) (R:It->Hp->Prop),Inv X pins σ H s->wi σ H R ->
  wpAny (model X.prog X.w) X.A (eval iter X.env) (fun v s1=>wpAny (model X.prog X.w) X.A (pyIter v) (PIE X pins σ tg R) X.xe s1) X.xe s
def JdJ{M:Model}{A:QM}{E:Qe->Qg->Prop}{s:Qg}{tg:Gu}{it:Qh}{u:Qe}{o:Obj}{n:String}{vs:Array Qe}{Q:Unit->Qg->Prop}(ho:s.heap.get? it=some o)(hc:o.cls=.type n)(hd:o.data=.fields vs)
 (hn:["enumerate","zip","dict_itemiterator","dict_reverseitemiterator","odict_iterator","itertools.zip_longest","itertools.pairwise"].contains n=false) (hQ:Q () s):wpAny M A (letOwnedTupleGo tg (.ref it) u) Q E s:=by
 unfold letOwnedTupleGo;cases tg <;> first
  | exact Qj hQ
  | (cases u <;> first
   | exact Qj hQ
   | (refine Qa (wpAny_load ho ?_)
      rw[hc,hd];show wpAny M A (if (["enumerate","zip","dict_itemiterator","dict_reverseitemiterator","odict_iterator","itertools.zip_longest","itertools.pairwise"].contains n && vs[0]? == some (rawInt _))=true then _ else _) Q E s;rw[if_neg (by intro h;rw[hn,Bool.false_and] at h;cases h)];exact Qj hQ))
noncomputable def Itl(K:Qz)(a:Qh):It :=
 ⟨fun i H=>∃xs x,SqL K H a xs/\xs[i]?=some x,fun i H x H'=>H'=H/\∀xs,SqL K H a xs->xs[i]?=some x,fun i H=>∃xs,SqL K H a xs/\xs.length<=i⟩
noncomputable def Itt(K:Qz)(a:Qh):It :=
 ⟨fun i H=>∃xs x,SqT K H a xs/\xs[i]?=some x,fun i H x H'=>H'=H/\∀xs,SqT K H a xs->xs[i]?=some x,fun i H=>∃xs,SqT K H a xs/\xs.length<=i⟩
noncomputable def Itr(lo:Int)(n:Nat):It:=⟨fun i _=>i<n,fun i H x H'=>H'=H/\x=.int (lo+i),fun i _=>n<=i⟩
def JiJ{P:Qy}{w:QP}{K:Qz}{tg:Gu}(a it:Qh):Turn P w K tg (Itl K a) [it] it (fun i h=>h.IsListIter it a i) where
 mem:=by simp
 obj:=fun i h st b hb=>by
  have e:b=it:=by simpa using hb
  subst e;obtain⟨o,e,c,d⟩:=st;exact⟨o,e,fun v z=>by rw[d] at z;cases z⟩
 keep:=fun i h h' st k=>st.at fun o e=>k it (by simp) o e
 item:=by
  intro X hP hw hK hc i pins s σ H E I hf st hg;subst hP hw hK;obtain⟨xs,x,hq,hx⟩:=hg;obtain⟨its,rv,p,hz⟩:=I.list hq;obtain⟨u,hu,ru⟩:=rv.get hx;obtain⟨f0,f1,f2,f3,f4,f5⟩:=hf it (by simp);refine wpAny_pyNext_list_item st p.isList (x:=u) (by simpa using hu) fun h' st' sb=>?_
  have I1:Inv X pins σ H { s with heap:=h' }:=I.turned (t':=s.toks) (fun b o hb e=>(sb.2 b hb).trans e) f0 f1 f3 f4 f5;obtain⟨o,e,c,d⟩:=id st';exact⟨u,rfl,JdJ (s:={ s with heap:=h' }) e c d (by decide) ⟨x,H,I1,ru,⟨rfl,fun ys hy=>by rw[I.list_inj hy hq];exact hx⟩,st',fun b hb=>(hf b hb).1⟩⟩
 done:=by intro X hP hw hK hc i pins s σ H E I hf st hg;subst hP hw hK;obtain⟨xs,hq,hx⟩:=hg;obtain⟨its,rv,p,hz⟩:=I.list hq;obtain⟨f0,f1,f2,f3,f4,f5⟩:=hf it (by simp);have hl:=rv.length;exact wpAny_pyNext_list_end (I.ok.hd hc) st p.isList (by simp;omega) fun h' eb=>⟨rfl,I.turned (t':=s.toks) (fun b o hb e=>eb b o hb e) f0 f1 f3 f4 f5⟩
 self:=fun _ _ _ _ _ st h=>wpAny_pyIter_listiter st h
def Jf7{P:Qy}{w:QP}{K:Qz}{tg:Gu}(a it:Qh):Turn P w K tg (Itt K a) [it] it (fun i h=>h.IsTupleIter it a i) where
 mem:=by simp
 obj:=fun i h st b hb=>by
  have e:b=it:=by simpa using hb
  subst e;obtain⟨o,e,c,d⟩:=st;exact⟨o,e,fun v z=>by rw[d] at z;cases z⟩
 keep:=fun i h h' st k=>st.at fun o e=>k it (by simp) o e
 item:=by
  intro X hP hw hK hc i pins s σ H E I hf st hg;subst hP hw hK;obtain⟨xs,x,hq,hx⟩:=hg;obtain⟨its,rv,p,hz⟩:=I.tuple hq;obtain⟨u,hu,ru⟩:=rv.get hx;obtain⟨f0,f1,f2,f3,f4,f5⟩:=hf it (by simp);refine wpAny_pyNext_tuple_item st (show s.heap.IsTuple a its.toArray from p) (x:=u) (by simpa using hu) fun h' st' sb=>?_
  have I1:Inv X pins σ H { s with heap:=h' }:=I.turned (t':=s.toks) (fun b o hb e=>(sb.2 b hb).trans e) f0 f1 f3 f4 f5;obtain⟨o,e,c,d⟩:=id st';exact⟨u,rfl,JdJ (s:={ s with heap:=h' }) e c d (by decide) ⟨x,H,I1,ru,⟨rfl,fun ys hy=>by rw[I.tuple_inj hy hq];exact hx⟩,st',fun b hb=>(hf b hb).1⟩⟩
 done:=by intro X hP hw hK hc i pins s σ H E I hf st hg;subst hP hw hK;obtain⟨xs,hq,hx⟩:=hg;obtain⟨its,rv,p,hz⟩:=I.tuple hq;obtain⟨f0,f1,f2,f3,f4,f5⟩:=hf it (by simp);have hl:=rv.length;exact wpAny_pyNext_tuple_end (I.ok.hd hc) st (show s.heap.IsTuple a its.toArray from p) (by simp;omega) fun h' eb=>⟨rfl,I.turned (t':=s.toks) (fun b o hb e=>eb b o hb e) f0 f1 f3 f4 f5⟩
 self:=fun _ _ _ _ _ st h=>wpAny_pyIter_tupleiter st h
def Jf6{P:Qy}{w:QP}{K:Qz}{tg:Gu}(it:Qh)(lo:Int)(n:Nat):Turn P w K tg (Itr lo n) [it] it (fun i h=>IsRangeIter h it (lo+(i:Nat)*1) ((n:Int)-(i:Nat)) 1) where
 mem:=by simp
 obj:=fun i h st b hb=>by
  have e:b=it:=by simpa using hb
  subst e;exact⟨_,st,fun v z=>by have z':Data.fields _=Data.cell v:=z;cases z'⟩
 keep:=fun i h h' st k=>k it (by simp) _ st
 item:=by
  intro X hP hw hK hc i pins s σ H E I hf st hg;subst hP hw hK;obtain⟨f0,f1,f2,f3,f4,f5⟩:=hf it (by simp);have W:=Walks.range (prog:=X.prog) (w:=X.w) (I.ok.hd hc) it lo 1 n;refine W.item i s _ _ hg st fun v h' tk hv st' kk=>?_
  obtain⟨t,rfl⟩:=hv;have I1:Inv X pins σ H { s with heap:=h',toks:=tk }:=I.turned (fun b o hb e=>kk b o (by simpa using hb) e) f0 f1 f3 f4 f5;refine⟨_,rfl,JdJ (s:={ s with heap:=h',toks:=tk }) (n:="range_iterator") st' rfl rfl (by decide) ⟨.int (lo+i),H,I1,⟨t,?_⟩,⟨rfl,rfl⟩,st',fun b hb=>(hf b hb).1⟩⟩;rw[MD]
 done:=by intro X hP hw hK hc i pins s σ H E I hf st hg;subst hP hw hK;obtain⟨f0,f1,f2,f3,f4,f5⟩:=hf it (by simp);exact wpAny_pyNext_range_end (I.ok.hd hc) st (by have:n<=i:=hg;omega) fun h' eb=>⟨rfl,I.turned (t':=s.toks) (fun b o hb e=>eb b o hb e) f0 f1 f3 f4 f5⟩
 self:=fun _ _ _ _ _ st h=>wpAny_pyIter_rangeiter st h
noncomputable def Jod(K:Qz)(tl:TE):TI:=fun σ H R=>tl σ H fun x H1=>∃a,x=.ref a/\(∃xs,SqL K H1 a xs)/\R (Itl K a) H1
noncomputable def Jro(K:Qz)(tl:TE):TI:=fun σ H R=>tl σ H fun x H1=>∃a,x=.ref a/\(∃xs,SqT K H1 a xs)/\R (Itt K a) H1
def Jm0(hl:PE X l tl):PI X tg l (Jod X.K tl):=by
 intro pins s σ H R I h;refine thn (hl pins s σ H _ I h) fun v s1 ⟨x,H1,I1,r1,q1⟩=>?_
 obtain⟨a,e,⟨xs,hq⟩,q⟩:=q1;subst e;cases r1;obtain⟨its,rv,p,hz⟩:=I1.list hq;refine Mm p.isList ?_;refine⟨s1.heap.objs.size,[s1.heap.objs.size],_,_,H1,rfl,I1.kept (t':=s1.toks) fun b o e=>Qi _ e,JiJ a _,⟨_,Qm _ rfl,rfl,rfl⟩,fun b hb=>?_,q⟩;have e:b=s1.heap.objs.size:=by simpa using hb
 subst e;exact I1.fpOk (Qu _) (I1.hok.fresh (Qu _))
def Jp2(hl:PE X l tl):PI X tg l (Jro X.K tl):=by
 intro pins s σ H R I h;refine thn (hl pins s σ H _ I h) fun v s1 ⟨x,H1,I1,r1,q1⟩=>?_
 obtain⟨a,e,⟨xs,hq⟩,q⟩:=q1;subst e;cases r1;obtain⟨its,rv,p,hz⟩:=I1.tuple hq;refine MT (show s1.heap.IsTuple a its.toArray from p) ?_;refine⟨s1.heap.objs.size,[s1.heap.objs.size],_,_,H1,rfl,I1.kept (t':=s1.toks) fun b o e=>Qi _ e,Jf7 a _,⟨_,Qm _ rfl,rfl,rfl⟩,fun b hb=>?_,q⟩;have e:b=s1.heap.objs.size:=by simpa using hb
 subst e;exact I1.fpOk (Qu _) (I1.hok.fresh (Qu _))
def Jet{pins:List (Qh×Obj)}{σ:St}{H:Hp}{s:Qg}{R:It->Hp->Prop}{E:Qe->Qg->Prop}{lo hi:Int}{t u v:Tok}{tk:Nat}(I:Inv X pins σ H s)(h1:-(2 ^ 62)<=lo)(h2:lo<2 ^ 62)(h3:-(2 ^ 62)<=hi)(h4:hi<2 ^ 62)
 (q:R (Itr lo (hi-lo).toNat) H):wpAny (model X.prog X.w) X.A (pyIter (.ref s.heap.objs.size)) (PIE X pins σ tg R) E { s with heap:=s.heap.push { cls:=.type "range",data:=.fields #[.int lo t,.int hi u,.int 1 v] },toks:=tk }:=by
 refine wpAny_pyIter_range (IsRange.new ..) (small_one h1 h2 h3 h4) ?_;have I1:Inv X pins σ H { s with heap:=s.heap.push { cls:=.type "range",data:=.fields #[.int lo t,.int hi u,.int 1 v] },toks:=tk }:=I.kept fun b o e=>Qi _ e
 refine⟨(s.heap.push { cls:=.type "range",data:=.fields #[.int lo t,.int hi u,.int 1 v] }).objs.size,[(s.heap.push { cls:=.type "range",data:=.fields #[.int lo t,.int hi u,.int 1 v] }).objs.size],_,_,H,rfl,
  I1.kept (t':=tk) fun b o e=>Qi _ e,Jf6 _ lo (hi-lo).toNat,?_,fun b hb=>?_,q⟩
 ·have e1:lo+((0:Nat):Int)*1=lo:=by simp
  have e2:(((hi-lo).toNat:Nat):Int)-((0:Nat):Int)=Builtin.Range.rangeSize lo hi 1:=by rw[rangeSize_one];split <;> omega
  show IsRangeIter _ _ (lo+((0:Nat):Int)*1) ((((hi-lo).toNat:Nat):Int)-((0:Nat):Int)) 1;rw[e1,e2];exact Qm _ rfl
 ·have e:b=(s.heap.push { cls:=.type "range",data:=.fields #[.int lo t,.int hi u,.int 1 v] }).objs.size:=by simpa using hb
  subst e;exact I1.fpOk (Qu _) (I1.hok.fresh (Qu _))
noncomputable def Joe(ta:TA):TI:=fun σ H R=>ta σ H fun vs H1=>∃j:Int,vs=[.int j]/\-(2 ^ 62)<=j/\j<2 ^ 62/\R (Itr 0 j.toNat) H1
noncomputable def Jof(ta:TA):TI:=fun σ H R=>ta σ H fun vs H1=>∃i j:Int,vs=[.int i,.int j]/\(-(2 ^ 62)<=i/\i<2 ^ 62/\-(2 ^ 62)<=j/\j<2 ^ 62)/\R (Itr i (j-i).toNat) H1
def Jiv{a:Gu}{ta:TA}{p pos:Pos}(hg:Gl X "range")(hm:X.mg "range"=none)(ha:PA X [a] ta)(hs:starEach [a] X.env=[(false,eval a X.env)]:=by rfl):PI X tg (.Call (.Name "range" p) [a] [] pos) (Joe ta):=by
 intro pins s σ H R I h;refine Call_ (Y2 I hg hm boot_range (GF (thn (ha pos pins s σ H _ I h) fun us s1 ⟨vs,H1,I1,r1,q1⟩=>?_) hs rfl));obtain⟨j,e,q1,q2,q⟩:=q1;subst e
 cases r1 with
 | cons r rr=>cases rr;obtain⟨t,rfl⟩:=r;exact call_range_1 (Jet I1 (by omega) (by omega) q1 q2 (by simpa using q))
def Jiw{a b:Gu}{ta:TA}{p pos:Pos}(hg:Gl X "range")(hm:X.mg "range"=none)(ha:PA X [a,b] ta)(hs:starEach [a,b] X.env=[(false,eval a X.env),(false,eval b X.env)]:=by rfl)(hs2:starEach [b] X.env=[(false,eval b X.env)]:=by rfl) :
 PI X tg (.Call (.Name "range" p) [a,b] [] pos) (Jof ta):=by
 intro pins s σ H R I h;refine Call_ (Y2 I hg hm boot_range (GF (thn (ha pos pins s σ H _ I h) fun us s1 ⟨vs,H1,I1,r1,q1⟩=>?_) (by rw[hs,hs2]) (by rw[hs2];rfl)));obtain⟨i,j,e,⟨q1,q2,q3,q4⟩,q⟩:=q1;subst e
 cases r1 with
 | cons r rr =>
  cases rr with
  | cons r' rr=>cases rr;obtain⟨t,rfl⟩:=r;obtain⟨t',rfl⟩:=r';exact call_range_2 (Jet I1 q1 q2 q3 q4 q)
noncomputable def JnM(wi:TI)(g:TG)(tb:TS):TS:=fun D σ H=>wi σ H fun J H1=>∃W:Nat->Nat->St->Hp->Prop,(∃m,W 0 m σ H1)/\∀i m σ H,W i m σ H ->
 (J.stop i H/\D.nx σ H)\/(J.go i H/\∃N:St->Hp->Prop,(∀σ' H',N σ' H'->∃m',m'<m/\W (i+1) m' σ' H')/\∀x H',J.yld i H x H'->g x σ H' fun σ2 H2=>tb { D with nx:=N,ct:=N,bk:=D.nx } σ2 H2)
noncomputable def JaB(fp:List Qh)(h:Q2):List (Qh×Obj):=fp.filterMap fun b=>(h.get? b).map fun o=>(b,o)
def V7(hb:b∈fp)(e:h.get? b=some o):(b,o)∈JaB fp h:=List.mem_filterMap.mpr ⟨b,hb,by rw[e];rfl⟩
def Jir(hp:p∈JaB fp h):p.1∈fp/\h.get? p.1=some p.2:=by
 obtain⟨b,hb,e⟩:=List.mem_filterMap.mp hp
 cases q:h.get? b with
 | none=>rw[q] at e;cases e
 | some o=>rw[q] at e;have e':(b,o)=p:=QS e;subst e';exact⟨hb,q⟩
def Inv.pinned{pins:List (Qh×Obj)}{σ:St}{H:Hp}{s:Qg}{fp:List Qh}(I:Inv X pins σ H s)(hf:∀b∈fp,FpOk X pins H b)(ho:∀b∈fp,∃o,s.heap.get? b=some o/\∀v,o.data≠.cell v):Inv X (pins++JaB fp s.heap) σ H s :=
 I.pins_of fun p hp=>(GH.mp hp).elim (fun z=>I.pin p (GS _ z)) fun z=>by obtain⟨hb,e⟩:=Jir z;obtain⟨f0,f1,f2,_⟩:=hf p.1 hb;obtain⟨o,e',d⟩:=ho p.1 hb;rw[e] at e';cases e';exact⟨e,f0,f1,f2,d⟩
def Inv.unpinned{pins pl:List (Qh×Obj)}{σ:St}{H:Hp}{s:Qg}(I:Inv X (pins++pl) σ H s):Inv X pins σ H s:=I.pins_of fun p hp=>I.pin p (GS _ (LS _ hp))
def YB{iter:Gu}{body:List Kt}{wi:TI}{g:TG}{tb:TS}{pos:Pos}(hp:PassesOwn (model X.prog X.w) X.A X.env X.xe)(hc:X.calm=true)(hi:PI X tg iter wi)(hg:PG X tg g)(hb:PSs X body tb)
 (hs:∀x,foldedSetIterable iter X.env x=pure x:=by intro _;rfl):PS X (.For tg iter body [] pos) (JnM wi g tb):=by
 intro pins s σ H D I h;refine wpAny_For (thn (hi pins s σ H _ I h) fun v s1 h1=>thn h1 fun itv s2 h2=>?_) hs;obtain⟨it,fp,tn,J,H2,e,I2,T,st2,f2,W,⟨m0,w0⟩,turn⟩:=h2;subst e
 have stat:∀{H':Hp},(∀b∈fp,H' b=none)->∀b∈fp,FpOk X pins H' b:=fun hn b hb=>⟨hn b hb,(f2 b hb).2⟩
 refine codeAny_forLoop_any (fun n s'=>∃i σ' H',Inv X pins σ' H' s'/\tn i s'.heap/\(∀b∈fp,H' b=none)/\W i n σ' H') ?_ m0 ⟨0,σ,H2,I2,st2,fun b hb=>(f2 b hb).1,w0⟩;rintro n s3 ⟨i,σ3,H3,I3,st3,fr3,w3⟩;rcases turn i n σ3 H3 w3 with ⟨stop,qn⟩|⟨go,N,hN,step⟩
 ·refine La hp (thn (T.done X rfl rfl rfl hc i pins s3 σ3 H3 X.xe I3 (stat fr3) st3 stop) fun r s4 ⟨hr,I4⟩=>?_);subst hr;exact MG ⟨σ3,H3,I4,qn⟩
 ·refine La hp (thn (T.item X rfl rfl rfl hc i pins s3 σ3 H3 X.xe I3 (stat fr3) st3 go) fun r s4 ⟨u,hr,h4⟩=>?_);subst hr;refine La hp (thn h4 fun _ s5 ⟨x,H5,I5,r5,y5,st5,fr5⟩=>?_);have I5':=I5.pinned (stat fr5) (T.obj _ _ st5);refine La hp (thn (hg _ s5 σ3 H5 x u _ I5' r5 (step x H5 y5)) fun _ s6 ⟨σ6,H6,I6,q6⟩=>?_);refine La hp (thn (hb _ s6 σ6 H6 _ I6 q6) fun f s7 q7=>?_)
  have again:∀{σ7:St} {H7:Hp},Inv X (pins++JaB fp s5.heap) σ7 H7 s7->N σ7 H7->∃m,m<n/\∃i σ' H',Inv X pins σ' H' s7/\tn i s7.heap/\(∀b∈fp,H' b=none)/\W i m σ' H':=fun {σ7 H7} I7 n7=>by obtain⟨m',hm,w7⟩:=hN σ7 H7 n7;refine⟨m',hm,i+1,σ7,H7,I7.unpinned,T.keep _ _ _ st5 fun b hb o e=>(I7.pin (b,o) (GS _ (GS _ (V7 hb e)))).1,fun b hb=>?_,w7⟩;obtain⟨o,e,d⟩:=T.obj _ _ st5 b hb;exact(I7.pin (b,o) (GS _ (GS _ (V7 hb e)))).2.1
  cases f with
  | next=>obtain⟨σ7,H7,I7,n7⟩:=q7;exact again I7 n7
  | cont=>obtain⟨σ7,H7,I7,n7⟩:=q7;exact again I7 n7
  | brk=>obtain⟨σ7,H7,I7,q7⟩:=q7;exact⟨σ7,H7,I7.unpinned,q7⟩
  | ret v=>obtain⟨x7,σ7,H7,I7,r7,q7⟩:=q7;exact⟨x7,σ7,H7,I7.unpinned,r7,q7⟩
def JjC{K:Qz}{a:Qh}{xs:List V}{g:TG}{tb:TS}{D:Ends}{σ:St}{H:Hp}(Pv:Nat->St->Hp->Prop)(h0:Pv 0 σ H)(hl:∀i σ H,i<=xs.length->Pv i σ H->SqL K H a xs)
 (hs:∀i x σ H,xs[i]?=some x->Pv i σ H->g x σ H fun σ2 H2=>tb { D with nx:=Pv (i+1),ct:=Pv (i+1),bk:=D.nx } σ2 H2) (hd:∀σ H,Pv xs.length σ H->D.nx σ H) :
 ∃W:Nat->Nat->St->Hp->Prop,(∃m,W 0 m σ H)/\∀i m σ H,W i m σ H ->
  ((Itl K a).stop i H/\D.nx σ H)\/((Itl K a).go i H/\∃N:St->Hp->Prop,(∀σ' H',N σ' H'->∃m',m'<m/\W (i+1) m' σ' H')/\∀x H',(Itl K a).yld i H x H'->g x σ H' fun σ2 H2=>tb { D with nx:=N,ct:=N,bk:=D.nx } σ2 H2):=by
 refine⟨fun i m σ H=>m=xs.length-i/\i<=xs.length/\Pv i σ H,⟨xs.length,by simp,GL _,h0⟩,?_⟩;rintro i m σ H ⟨rfl,hi,p⟩;have q:=hl i σ H hi p
 by_cases hlt:i<xs.length
 ·refine .inr ⟨⟨xs,xs[i],q,by simp[hlt]⟩,Pv (i+1),fun σ' H' p'=>⟨xs.length-(i+1),by omega,rfl,hlt,p'⟩,fun x H' y=>?_⟩;obtain⟨e,y⟩:=y;subst e;exact hs i x σ _ (y xs q) p
 ·have e:i=xs.length:=by omega
  subst e;exact .inl ⟨⟨xs,q,Qu _⟩,hd σ H p⟩
def Jl9{K:Qz}{a:Qh}{xs:List V}{g:TG}{tb:TS}{D:Ends}{σ:St}{H:Hp}(Pv:Nat->St->Hp->Prop)(h0:Pv 0 σ H)(hl:∀i σ H,i<=xs.length->Pv i σ H->SqT K H a xs)
 (hs:∀i x σ H,xs[i]?=some x->Pv i σ H->g x σ H fun σ2 H2=>tb { D with nx:=Pv (i+1),ct:=Pv (i+1),bk:=D.nx } σ2 H2) (hd:∀σ H,Pv xs.length σ H->D.nx σ H) :
 ∃W:Nat->Nat->St->Hp->Prop,(∃m,W 0 m σ H)/\∀i m σ H,W i m σ H ->
  ((Itt K a).stop i H/\D.nx σ H)\/((Itt K a).go i H/\∃N:St->Hp->Prop,(∀σ' H',N σ' H'->∃m',m'<m/\W (i+1) m' σ' H')/\∀x H',(Itt K a).yld i H x H'->g x σ H' fun σ2 H2=>tb { D with nx:=N,ct:=N,bk:=D.nx } σ2 H2):=by
 refine⟨fun i m σ H=>m=xs.length-i/\i<=xs.length/\Pv i σ H,⟨xs.length,by simp,GL _,h0⟩,?_⟩;rintro i m σ H ⟨rfl,hi,p⟩;have q:=hl i σ H hi p
 by_cases hlt:i<xs.length
 ·refine .inr ⟨⟨xs,xs[i],q,by simp[hlt]⟩,Pv (i+1),fun σ' H' p'=>⟨xs.length-(i+1),by omega,rfl,hlt,p'⟩,fun x H' y=>?_⟩;obtain⟨e,y⟩:=y;subst e;exact hs i x σ _ (y xs q) p
 ·have e:i=xs.length:=by omega
  subst e;exact .inl ⟨⟨xs,q,Qu _⟩,hd σ H p⟩
noncomputable abbrev R2:=V->V->Hp->VK->Prop
noncomputable def OpR(X:Cx)(f:Qe->Qe->Sem Qe)(r:R2):Prop :=
 ∀(pins:List (Qh×Obj)) (s:Qg) (σ:St) (H:Hp) (x y:V) (v u:Qe) (Q:VK),Inv X pins σ H s->RelV x v->RelV y u->r x y H Q ->
  wpAny (model X.prog X.w) X.A (f v u) (EP X pins σ Q) X.xe s
noncomputable def UnR(X:Cx)(f:Qe->Sem Qe)(r:V->Hp->VK->Prop):Prop :=
 ∀(pins:List (Qh×Obj)) (s:Qg) (σ:St) (H:Hp) (x:V) (v:Qe) (Q:VK),Inv X pins σ H s->RelV x v->r x H Q ->
  wpAny (model X.prog X.w) X.A (f v) (EP X pins σ Q) X.xe s
noncomputable def Yo(X:Cx)(f:Qe)(r:List V->Hp->VK->Prop):Prop :=
 ∀(pins:List (Qh×Obj)) (s:Qg) (σ:St) (H:Hp) (xs:List V) (us:List Qe) (Q:VK),Inv X pins σ H s->Vals xs us->r xs H Q ->
  wpAny (model X.prog X.w) X.A (call f us) (EP X pins σ Q) X.xe s
noncomputable def Jsx(X:Cx)(r:V->Hp->(Bool->Hp->Prop)->Prop):Prop :=
 ∀(pins:List (Qh×Obj)) (s:Qg) (σ:St) (H:Hp) (x:V) (v:Qe) (Q:Bool->Hp->Prop),Inv X pins σ H s->RelV x v->r x H Q ->
  wpAny (model X.prog X.w) X.A (truthy v) (TP X pins σ Q) X.xe s
noncomputable def tOp(r:R2)(ta tb:TE):TE:=fun σ H Q=>ta σ H fun x H1=>tb σ H1 fun y H2=>r x y H2 Q
noncomputable def tUn(r:V->Hp->VK->Prop)(ta:TE):TE:=fun σ H Q=>ta σ H fun x H1=>r x H1 Q
noncomputable def rI(C:Int->Int->Prop)(g:Int->Int->V):R2:=fun x y H Q=>∃i j,x=.int i/\y=.int j/\C i j/\Q (g i j) H
noncomputable def rI0(g:Int->Int->V):R2:=fun x y H Q=>∃i j,x=.int i/\y=.int j/\Q (g i j) H
noncomputable def rU(g:Int->V):V->Hp->VK->Prop:=fun x H Q=>∃i,x=.int i/\Q (g i) H
def JoJ(ha:PE X a ta)(hb:PE X b tb){pins:List (Qh×Obj)}{s:Qg}{σ:St}{H:Hp}{R:V->V->Hp->Prop}(I:Inv X pins σ H s)
 (h:ta σ H fun x H1=>tb σ H1 fun y H2=>R x y H2) {Q:Qe->Qg->Prop} {f:Qe->Qe->Sem Qe}
 (hf:∀v u s2 x y H2,Inv X pins σ H2 s2->RelV x v->RelV y u->R x y H2->wpAny (model X.prog X.w) X.A (f v u) Q X.xe s2) :
 wpAny (model X.prog X.w) X.A (eval a X.env) (fun v s₁=>wpAny (model X.prog X.w) X.A (eval b X.env) (fun u s₂=>wpAny (model X.prog X.w) X.A (f v u) Q X.xe s₂) X.xe s₁) X.xe s:=by
 refine thn (ha pins s σ H _ I h) fun v s1 ⟨x,H1,I1,r1,q1⟩=>?_
 refine thn (hb pins s1 σ H1 _ I1 q1) fun u s2 ⟨y,H2,I2,r2,q2⟩=>?_
 exact hf v u s2 x y H2 I2 r1 r2 q2
def Jm(ho:OpR X (binaryOp op) r)(ha:PE X a ta)(hb:PE X b tb):PE X (.BinOp a op b pos) (tOp r ta tb):=by intro pins s σ H Q I h;exact wpAny_BinOp (JoJ ha hb I h fun v u s2 x y H2 I2 rx ry q=>ho pins s2 σ H2 x y v u Q I2 rx ry q)
def Jkk(ho:UnR X (unaryOp op) r)(ha:PE X a ta):PE X (.UnaryOp op a pos) (tUn r ta):=by intro pins s σ H Q I h;exact UnaryOp_ (thn (ha pins s σ H _ I h) fun v s1 ⟨x,H1,I1,r1,q1⟩=>ho pins s1 σ H1 x v Q I1 r1 q1)
def opI{f:Qe->Qe->Sem Qe}{C:Int->Int->Prop}{g:Int->Int->Int}
 (rule:∀(i j:Int) (t u:Tok) (s:Qg) (Q:Qe->Qg->Prop) (E:Qe->Qg->Prop),C i j->Q (.int (g i j) s.toks) { s with toks:=s.toks+1 }->wpAny (model X.prog X.w) X.A (f (.int i t) (.int j u)) Q E s) :
 OpR X f (rI C fun i j=>.int (g i j)):=by
 intro pins s σ H x y v u Q I rx ry h;obtain⟨i,j,rfl,rfl,hc,q⟩:=h;obtain⟨t,rfl⟩:=rx;obtain⟨t',rfl⟩:=ry;exact rule i j t t' s _ _ hc ⟨.int (g i j),H,I.tok _,⟨_,rfl⟩,q⟩
def JrK{f:Qe->Qe->Sem Qe}{g:Int->Int->Int}
 (rule:∀(i j:Int) (t u:Tok) (s:Qg) (Q:Qe->Qg->Prop) (E:Qe->Qg->Prop),Q (.int (g i j) s.toks) { s with toks:=s.toks+1 }->wpAny (model X.prog X.w) X.A (f (.int i t) (.int j u)) Q E s) :
 OpR X f (rI0 fun i j=>.int (g i j)):=by
 intro pins s σ H x y v u Q I rx ry h;obtain⟨i,j,rfl,rfl,q⟩:=h;obtain⟨t,rfl⟩:=rx;obtain⟨t',rfl⟩:=ry;exact rule i j t t' s _ _ ⟨.int (g i j),H,I.tok _,⟨_,rfl⟩,q⟩
def JpM{f:Qe->Qe->Sem Qe}{g:Int->Int->Bool}
 (rule:∀(i j:Int) (t u:Tok) (s:Qg) (Q:Qe->Qg->Prop) (E:Qe->Qg->Prop),Q (.bool (g i j)) s->wpAny (model X.prog X.w) X.A (f (.int i t) (.int j u)) Q E s) :
 OpR X f (rI0 fun i j=>.bl (g i j)):=by
 intro pins s σ H x y v u Q I rx ry h;obtain⟨i,j,rfl,rfl,q⟩:=h;obtain⟨t,rfl⟩:=rx;obtain⟨t',rfl⟩:=ry;exact rule i j t t' s _ _ ⟨.bl (g i j),H,I,rfl,q⟩
noncomputable def JqX(i j:Int):Prop:=0<j/\j<1073741824
noncomputable def JqY(i j:Int):Prop:=0<=j/\j<=1000000/\i.natAbs<2 ^ 64
noncomputable def CMul(i j:Int):Prop:=(-(2 ^ 64)<i/\i<2 ^ 64)\/(-(2 ^ 64)<j/\j<2 ^ 64)
def CMul.ok(h:CMul i j):IntMulOk i j:=by
 rcases h with ⟨h1,h2⟩|⟨h1,h2⟩
 ·exact .of_left (intBits_le_64 h1 h2)
 ·exact .of_right (intBits_le_64 h1 h2)
def op_add:OpR X (binaryOp .Add) (rI0 fun i j=>.int (i+j)):=JrK fun _ _ _ _ _ _ _ q=>add_int q
def JS:OpR X (binaryOp .Sub) (rI0 fun i j=>.int (i-j)):=JrK fun _ _ _ _ _ _ _ q=>sub_int q
def U6:OpR X (binaryOp .Mult) (rI CMul fun i j=>.int (i*j)):=opI fun _ _ _ _ _ _ _ hc q=>mul_int q hc.ok
def JmS:OpR X (binaryOp .FloorDiv) (rI JqX fun i j=>.int (i / j)):=opI fun i j _ _ _ _ _ hc q=>by
 have h1:(0:Int)<j:=hc.1
 have h2:j<1073741824:=hc.2;exact floordiv_int (by omega) (by rw[MU i (by omega)];exact q) (.inl (PyProof.noPylong_small (by omega)))
def V9:OpR X (binaryOp .Mod) (rI (fun _ j=>0<j) fun i j=>.int (i % j)):=opI fun i j _ _ _ _ _ hc q=>by have h1:(0:Int)<j:=hc;exact mod_int' (by omega) (by rw[Int.fmod_eq_emod_of_nonneg i (by omega)];exact q)
def JfI:OpR X (binaryOp .Pow) (rI JqY fun i j=>.int (i ^ j.toNat)):=opI fun _ _ _ _ _ _ _ hc q=>pow_int_small hc.1 hc.2.1 hc.2.2 q
def unI{f:Qe->Sem Qe}{g:Int->Int}
 (rule:∀(i:Int) (t:Tok) (s:Qg) (Q:Qe->Qg->Prop) (E:Qe->Qg->Prop),Q (.int (g i) s.toks) { s with toks:=s.toks+1 }->wpAny (model X.prog X.w) X.A (f (.int i t)) Q E s) :
 UnR X f (rU fun i=>.int (g i)):=by
 intro pins s σ H x v Q I rx h;obtain⟨i,rfl,q⟩:=h;obtain⟨t,rfl⟩:=rx;exact rule i t s _ _ ⟨.int (g i),H,I.tok _,⟨_,rfl⟩,q⟩
def Jf8:UnR X (unaryOp .USub) (rU fun i=>.int (-i)):=unI fun _ _ _ _ _ q=>neg_int q
noncomputable def JqA:V->V->Bool
 | .non,.non=>true|.non,.int _=>true|.int _,.non=>true|.non,.bl _=>true|.bl _,.non=>true|.non,.str _=>true|.str _,.non=>true
 | .int _,.int _=>true|.bl _,.bl _=>true|.str _,.str _=>true|.byt _,.byt _=>true
 | .int _,.str _=>true|.str _,.int _=>true|.bl _,.str _=>true|.str _,.bl _=>true
 | _,_=>false
noncomputable def rEq:R2:=fun x y H Q=>JqA x y=true/\Q (.bl (decide (x=y))) H
noncomputable def rNe:R2:=fun x y H Q=>JqA x y=true/\Q (.bl (!decide (x=y))) H
def Jgy:decide (V.int i=V.int j)=(i == j):=by rw[Ki];simp
def Jjf:decide (V.bl i=V.bl j)=(i == j):=by rw[Ki];simp
def Jgz:decide (V.str i=V.str j)=(i == j):=by rw[Ki];simp
def Jgx:decide (V.byt i=V.byt j)=(i.toList == j.toList):=by rw[Ki];cases i;cases j;simp
def JF{pins:List (Qh×Obj)}{σ:St}{H:Hp}{s:Qg}{Q:VK}{k k':Bool}(I:Inv X pins σ H s)(q:Q (.bl k) H)(e:k=k'):EP X pins σ Q (.bool k') s:=by subst e;exact⟨.bl k,H,I,rfl,q⟩
def op_eq:OpR X (compareOp .Eq) rEq:=by
 intro pins s σ H x y v u Q I rx ry h;obtain⟨hs,q⟩:=h
 cases x with
 | non =>
  cases rx
  cases y with
  | non=>cases ry;exact PySem.EqNone.eq_none_none (JF I q (by simp))
  | bl j=>cases ry;exact PySem.EqNone.eq_none_bool (JF I q (by simp))
  | int j=>obtain⟨t',rfl⟩:=ry;exact PySem.EqNone.eq_none_int (JF I q (by simp))
  | str j=>obtain⟨t',rfl⟩:=ry;exact PySem.EqNone.eq_none_str (JF I q (by simp))
  | _=>exact absurd (show false=true from hs) QH
 | bl i =>
  cases rx
  cases y with
  | non=>cases ry;exact PySem.EqNone.eq_bool_none (JF I q (by simp))
  | bl j=>cases ry;exact eq_bool (JF I q Jjf)
  | str j=>obtain⟨t',rfl⟩:=ry;exact PySem.EqMixed.eq_bool_str (JF I q (by simp))
  | _=>exact absurd (show false=true from hs) QH
 | int i =>
  obtain⟨t,rfl⟩:=rx
  cases y with
  | non=>cases ry;exact PySem.EqNone.eq_int_none (JF I q (by simp))
  | int j=>obtain⟨t',rfl⟩:=ry;exact eq_int (JF I q Jgy)
  | str j=>obtain⟨t',rfl⟩:=ry;exact PySem.EqMixed.eq_int_str (JF I q (by simp))
  | _=>exact absurd (show false=true from hs) QH
 | str i =>
  obtain⟨t,rfl⟩:=rx
  cases y with
  | non=>cases ry;exact PySem.EqNone.eq_str_none (JF I q (by simp))
  | bl j=>cases ry;exact PySem.EqMixed.eq_str_bool (JF I q (by simp))
  | int j=>obtain⟨t',rfl⟩:=ry;exact PySem.EqMixed.eq_str_int (JF I q (by simp))
  | str j=>obtain⟨t',rfl⟩:=ry;exact eq_str (JF I q Jgz)
  | _=>exact absurd (show false=true from hs) QH
 | byt i =>
  obtain⟨t,rfl⟩:=rx
  cases y with
  | byt j=>obtain⟨t',rfl⟩:=ry;exact PySem.W.eq_bytes (JF I q Jgx)
  | _=>exact absurd (show false=true from hs) QH
 | _=>cases y <;> exact absurd (show false=true from hs) QH
def op_ne:OpR X (compareOp .NotEq) rNe:=by
 intro pins s σ H x y v u Q I rx ry h;obtain⟨hs,q⟩:=h
 cases x with
 | non =>
  cases rx
  cases y with
  | non=>cases ry;exact PySem.EqNone.ne_none_none (JF I q (by simp))
  | bl j=>cases ry;exact PySem.EqNone.ne_none_bool (JF I q (by simp))
  | int j=>obtain⟨t',rfl⟩:=ry;exact PySem.EqNone.ne_none_int (JF I q (by simp))
  | str j=>obtain⟨t',rfl⟩:=ry;exact PySem.EqNone.ne_none_str (JF I q (by simp))
  | _=>exact absurd (show false=true from hs) QH
 | bl i =>
  cases rx
  cases y with
  | non=>cases ry;exact PySem.EqNone.ne_bool_none (JF I q (by simp))
  | bl j=>cases ry;exact ne_bool (JF I q (congrArg not Jjf))
  | str j=>obtain⟨t',rfl⟩:=ry;exact PySem.EqMixed.ne_bool_str (JF I q (by simp))
  | _=>exact absurd (show false=true from hs) QH
 | int i =>
  obtain⟨t,rfl⟩:=rx
  cases y with
  | non=>cases ry;exact PySem.EqNone.ne_int_none (JF I q (by simp))
  | int j=>obtain⟨t',rfl⟩:=ry;exact ne_int (JF I q (congrArg not Jgy))
  | str j=>obtain⟨t',rfl⟩:=ry;exact PySem.EqMixed.ne_int_str (JF I q (by simp))
  | _=>exact absurd (show false=true from hs) QH
 | str i =>
  obtain⟨t,rfl⟩:=rx
  cases y with
  | non=>cases ry;exact PySem.EqNone.ne_str_none (JF I q (by simp))
  | bl j=>cases ry;exact PySem.EqMixed.ne_str_bool (JF I q (by simp))
  | int j=>obtain⟨t',rfl⟩:=ry;exact PySem.EqMixed.ne_str_int (JF I q (by simp))
  | str j=>obtain⟨t',rfl⟩:=ry;exact ne_str (JF I q (congrArg not Jgz))
  | _=>exact absurd (show false=true from hs) QH
 | byt i =>
  obtain⟨t,rfl⟩:=rx
  cases y with
  | byt j=>obtain⟨t',rfl⟩:=ry;exact PySem.W.ne_bytes (JF I q (congrArg not Jgx))
  | _=>exact absurd (show false=true from hs) QH
 | _=>cases y <;> exact absurd (show false=true from hs) QH
def Jaw:OpR X (compareOp .Lt) (rI0 fun i j=>.bl (decide (i<j))):=JpM fun _ _ _ _ _ _ _ q=>lt_int q
def Joo:OpR X (compareOp .LtE) (rI0 fun i j=>.bl (decide (i<=j))):=JpM fun _ _ _ _ _ _ _ q=>le_int q
def Jav:OpR X (compareOp .Gt) (rI0 fun i j=>.bl (decide (j<i))):=JpM fun _ _ _ _ _ _ _ q=>gt_int q
def JpQ:OpR X (compareOp .Is) (fun x y H Q=>y=.non/\Q (.bl (decide (x=.non))) H):=by
 intro pins s σ H x y v u Q I rx ry h;obtain⟨rfl,q⟩:=h;cases ry;refine is_none_gen (JF I q ?_);cases x <;> first
  | (cases rx;rfl)
  | (obtain⟨t,rfl⟩:=rx;rfl)
def JmT:OpR X (compareOp .IsNot) (fun x y H Q=>y=.non/\Q (.bl (!decide (x=.non))) H):=by
 intro pins s σ H x y v u Q I rx ry h;obtain⟨rfl,q⟩:=h;cases ry;refine isnot_none_gen (JF I q ?_);cases x <;> first
  | (cases rx;rfl)
  | (obtain⟨t,rfl⟩:=rx;rfl)
def OpR.or(h:OpR X f r)(h':OpR X f r'):OpR X f (fun x y H Q=>r x y H Q\/r' x y H Q):=by
 intro pins s σ H x y v u Q I rx ry q;rcases q with q|q
 ·exact h pins s σ H x y v u Q I rx ry q
 ·exact h' pins s σ H x y v u Q I rx ry q
def JL(b:Gu){op:CmpOp}(h:op≠.In:=by decide)(h2:op≠.NotIn:=by decide):behindInMarks op b=false:=by
 have e1:(op == CmpOp.In)=false:=by cases op <;> first|rfl|exact absurd rfl h
 have e2:(op == CmpOp.NotIn)=false:=by cases op <;> first|rfl|exact absurd rfl h2
 cases b <;> simp[behindInMarks,e1,e2]
def JmV(ho:OpR X (compareOp op) r)(ha:PE X a ta)(hb:PE X b tb)(hm:behindInMarks op b=false):PE X (.Compare a [op] [b] pos) (tOp r ta tb):=by intro pins s σ H Q I h;exact wpAny_Compare1 (JoJ ha hb I h fun v u s2 x y H2 I2 rx ry q=>ho pins s2 σ H2 x y v u Q I2 rx ry q) hm
noncomputable def Jk6(t:TE):TT:=fun σ H Q=>t σ H fun x H'=>∃k,x=.bl k/\Q k H'
def JA(ho:OpR X (compareOp op) r)(ha:PE X a ta)(hb:PE X b tb)(hm:behindInMarks op b=false):PT X (.Compare a [op] [b] pos) (Jk6 (tOp r ta tb)):=by
 intro pins s σ H Q I h;refine wpAny_isTrue_Compare1 (thn (ha pins s σ H _ I h) fun v s1 ⟨x,H1,I1,r1,q1⟩=>thn (hb pins s1 σ H1 _ I1 q1) fun u s2 ⟨y,H2,I2,r2,q2⟩=>thn (ho pins s2 σ H2 x y v u _ I2 r1 r2 q2) fun c s3 ⟨z,H3,I3,r3,k,e,q3⟩=>?_) hm
 subst e;cases r3;exact LP ⟨H3,I3,q3⟩
noncomputable def JkZ(r r':R2)(ta tb tc:TE):TE:=fun σ H Q=>ta σ H fun x H1=>tb σ H1 fun y H2=>r x y H2 fun z H3=>∃k,z=.bl k ∧
 (if k=true then tc σ H3 fun w' H4=>r' y w' H4 Q else Q (.bl false) H3)
def Jkf{op op':CmpOp}{r r':R2}(ho:OpR X (compareOp op) r)(ho':OpR X (compareOp op') r')(ha:PE X a ta)(hb:PE X b tb)(hc:PE X c tc)
 (hm:lastMarks [op,op'] [b,c]=false:=by with_unfolding_all rfl):PE X (.Compare a [op,op'] [b,c] pos) (JkZ r r' ta tb tc):=by
 intro pins s σ H Q I h;refine Compare_chain (thn (ha pins s σ H _ I h) fun v s1 ⟨x,H1,I1,r1,q1⟩=>chain_link (thn (hb pins s1 σ H1 _ I1 q1) fun u s2 ⟨y,H2,I2,r2,q2⟩=>thn (ho pins s2 σ H2 x y v u _ I2 r1 r2 q2) fun d s3 ⟨z,H3,I3,r3,k,e,q3⟩=>?_)) hm
 subst e;cases r3;refine LP ?_
 cases k with
 | false=>exact ite_ff ⟨.bl false,H3,I3,rfl,q3⟩
 | true=>exact ite_tt (chain_last (thn (hc pins s3 σ H3 _ I3 q3) fun w' s4 ⟨z',H4,I4,r4,q4⟩=>ho' pins s4 σ H4 y z' u w' Q I4 r2 r4 q4))
noncomputable def Jlx(K:Qz)(x:V)(H:Hp)(k:Bool):Prop :=
 match x with
 | .non=>k=false
 | .bl b=>k=b
 | .int i=>k=(i != 0)
 | .str y=>y.length<=Qr/\k=((y.length:Int) != 0)
 | .byt y=>y.size<=Qr/\k=((y.size:Int) != 0)
 | .ref p=>(∃xs,SqL K H p xs/\k=!xs.isEmpty)\/(∃xs,SqT K H p xs/\k=!xs.isEmpty)\/∃kvs,H p=some (.dK kvs)/\k=!kvs.isEmpty
 | _=>False
def Jfq{κ:Type}{kvs:List (κ×V)}{vs:List (κ×Qe)}(r:KV kvs vs):(!vs.isEmpty)=!kvs.isEmpty:=by cases r <;> rfl
def Jag(r:Vals xs its):(!its.toArray.isEmpty)=!xs.isEmpty:=by cases r <;> simp
def Jaj:(Qr:Nat)<2 ^ 63:=by rw[sizeLine_eq];decide
def JqR:Jsx X (fun x H Q=>∃k,Jlx X.K x H k/\Q k H):=by
 intro pins s σ H x v Q I rx h;obtain⟨k,e,q⟩:=h;have hl:=Jaj;have hs:Qr=16777216:=sizeLine_eq
 cases x with
 | non=>cases rx;have e':k=false:=e;subst e';exact truthy_none ⟨H,I,q⟩
 | bl b=>cases rx;have e':k=b:=e;subst e';exact LP ⟨H,I,q⟩
 | int i=>obtain⟨t,rfl⟩:=rx;have e':k=(i != 0):=e;subst e';exact PySem.P.truthy_int ⟨H,I,q⟩
 | str y=>obtain⟨t,rfl⟩:=rx;obtain⟨hy,e'⟩:y.length<=Qr/\k=((y.length:Int) != 0):=e;subst e';exact PySem.P.truthy_str (by omega) ⟨H,I.tok _,q⟩
 | byt y=>obtain⟨t,rfl⟩:=rx;obtain⟨hy,e'⟩:y.size<=Qr/\k=((y.size:Int) != 0):=e;subst e';exact PySem.W.truthy_bytes (by omega) ⟨H,I.tok _,q⟩
 | ref p =>
  cases rx;have e':(∃xs,SqL X.K H p xs/\k=!xs.isEmpty)\/(∃xs,SqT X.K H p xs/\k=!xs.isEmpty)\/∃kvs,H p=some (.dK kvs)/\k=!kvs.isEmpty:=e
  rcases e' with ⟨xs,hx,e'⟩|⟨xs,hx,e'⟩|⟨kvs,hx,e'⟩
  ·subst e';obtain⟨its,r,pl,hz⟩:=I.list hx;have hlen:=r.length;exact wpAny_truthy_list pl.isList (by simp only[Qt];omega) ⟨H,I.tok _,by rw[Jag r];exact q⟩
  ·subst e';obtain⟨its,r,pl,hz⟩:=I.tuple hx;have hlen:=r.length;exact truthy_tuple pl (by simp only[Qt];omega) ⟨H,I.tok _,by rw[Jag r];exact q⟩
  ·subst e';obtain⟨hz,hS,vs,r,m⟩:kvs.length<=Qr/\(p == sysModules)=false/\∃vs,KV kvs vs/\s.heap.DictOf (JE X.prog X.w) p vs:=I.hok p _ hx
   have hlen:kvs.length=vs.length:=Rg r;exact wpAny_truthy_dict hS m (by omega) ⟨H,I.tok _,by rw[Jfq r];exact q⟩
 | _=>exact(show False from e).elim
def Jks(ha:PE X a ta)(he:∀whole,isTrue a X.env whole=(do let v <- whole;standAt a.pos;holding [v] (truthy v))) :
 PT X a (fun σ H Q=>ta σ H fun x H'=>∃k,Jlx X.K x H' k/\Q k H'):=by
 intro pins s σ H Q I h;exact isTrue_plain (thn (ha pins s σ H _ I h) fun v s1 ⟨x,H1,I1,r1,q1⟩=>JqR pins s1 σ H1 x v Q I1 r1 q1) (he _)
def op_add_str:OpR X (binaryOp .Add) (fun x y H Q=>∃i j,x=.str i/\y=.str j/\i.length+j.length<=Qr/\Q (.str (i++j)) H):=by intro pins s σ H x y v u Q I rx ry h;obtain⟨i,j,rfl,rfl,hz,q⟩:=h;obtain⟨t,rfl⟩:=rx;obtain⟨t',rfl⟩:=ry;exact add_str (fun t' tk=>⟨.str (i++j),H,I.tok _,⟨_,rfl⟩,q⟩) hz
def Vd(r:Vals [x] us):∃u,us=[u]/\RelV x u:=by
 cases r with
 | cons r1 r2=>cases r2;exact⟨_,rfl,r1⟩
def Jlj(r:Vals [x,y] us):∃u w',us=[u,w']/\RelV x u/\RelV y w':=by
 cases r with
 | cons r1 r2 =>
  cases r2 with
  | cons r3 r4=>cases r4;exact⟨_,_,rfl,r1,r3⟩
def JhP(hc:X.calm=true):Yo X (.builtin "max") (fun xs H Q=>∃i j,xs=[.int i,.int j]/\Q (.int (if j>i then j else i)) H):=by
 intro pins s σ H xs us Q I r h;obtain⟨i,j,rfl,q⟩:=h;obtain⟨u,w',rfl,⟨t,rfl⟩,⟨t',rfl⟩⟩:=Jlj r;refine max_two_ints (I.ok.hd hc) fun h' tk k=>⟨_,H,I.kept k,?_,q⟩
 by_cases hj:j>i
 ·rw[if_pos hj,if_pos hj];exact⟨_,rfl⟩
 ·rw[if_neg hj,if_neg hj];exact⟨_,rfl⟩
def JhR(hc:X.calm=true):Yo X (.builtin "min") (fun xs H Q=>∃i j,xs=[.int i,.int j]/\Q (.int (if j<i then j else i)) H):=by
 intro pins s σ H xs us Q I r h;obtain⟨i,j,rfl,q⟩:=h;obtain⟨u,w',rfl,⟨t,rfl⟩,⟨t',rfl⟩⟩:=Jlj r;refine min_two_ints (I.ok.hd hc) fun h' tk k=>⟨_,H,I.kept k,?_,q⟩
 by_cases hj:j<i
 ·rw[if_pos hj,if_pos hj];exact⟨_,rfl⟩
 ·rw[if_neg hj,if_neg hj];exact⟨_,rfl⟩
noncomputable def Jq2(K:Qz)(x:V)(H:Hp)(n:Nat):Prop :=
 match x with
 | .str y=>y.length<=Qr/\n=y.length
 | .byt y=>y.size<=Qr/\n=y.size
 | .ref p=>(∃xs,SqL K H p xs/\n=xs.length)\/∃xs,SqT K H p xs/\n=xs.length
 | _=>False
def Ji7:Yo X (.builtin "len") (fun xs H Q=>∃x n,xs=[x]/\Jq2 X.K x H n/\Q (.int n) H):=by
 intro pins s σ H xs us Q I r h;obtain⟨x,n,rfl,e,q⟩:=h;obtain⟨u,rfl,rx⟩:=Vd r;have hl:=Jaj;have hs:Qr=16777216:=sizeLine_eq
 cases x with
 | str y=>obtain⟨t,rfl⟩:=rx;obtain⟨hy,e'⟩:y.length<=Qr/\n=y.length:=e;subst e';exact len_str (by omega) ⟨.int _,H,I.tok _,⟨_,rfl⟩,q⟩
 | byt y=>obtain⟨t,rfl⟩:=rx;obtain⟨hy,e'⟩:y.size<=Qr/\n=y.size:=e;subst e';exact PySem.W.len_bytes (by omega) ⟨.int _,H,I.tok _,⟨_,rfl⟩,q⟩
 | ref p =>
  cases rx;have e':(∃xs,SqL X.K H p xs/\n=xs.length)\/∃xs,SqT X.K H p xs/\n=xs.length:=e
  rcases e' with ⟨xs,hx,e'⟩|⟨xs,hx,e'⟩
  ·subst e';obtain⟨its,r',pl,hz⟩:=I.list hx;have hlen:=r'.length;exact Calls.call_len_list pl.isList (by simp only[Qt];omega) ⟨.int xs.length,H,I.tok _,⟨_,by simp only[Qt];rw[hlen]⟩,q⟩
  ·subst e';obtain⟨its,r',pl,hz⟩:=I.tuple hx;have hlen:=r'.length;exact len_tuple pl (by simp only[Qt];omega) ⟨.int xs.length,H,I.tok _,⟨_,by simp only[Qt];rw[hlen]⟩,q⟩
 | _=>exact(show False from e).elim
structure ObjM (h:Q2) (x dx C:Qh) (mA:Str->Option Qe):Prop where
 obj:h.get? x=some (instObj C dx)
 ns:h.Ns1 dx mA
 ne:dx≠x
def Jif{h:Q2}{mA:Str->Option Qe}(n:h.Ns1 dx mA):∃od,h.get? dx=some od/\∀name,lookIn name od=some (mA name):=by
 obtain⟨o,es,ep,ho,hd,hk,_,hm⟩:=n;refine⟨o,ho,fun name=>?_⟩;have e:=hm name;unfold nsFind findBy at e;rw[<- Array.find?_toList] at e;unfold lookIn;rw[hd];dsimp only;split
 ·rename_i y q;rw[q] at e;exact congrArg some e
 ·rename_i q;rw[q] at e
  have a:es.toList.any (·.refKey)=false:=by rw[List.any_eq_false];intro y hy;obtain⟨z,t,hkey⟩:=hk y (Array.mem_toList_iff.mp hy);simp[DictEntry.refKey,hkey]
  have a':¬es.toList.any (·.refKey)=true:=by rw[a];exact QH
  rw[if_neg a'];exact congrArg some e
def ObjM.look{h:Q2}{x dx C:Qh}{mA:Str->Option Qe}(I:ObjM h x dx C mA):∃od,PySem.W.InstAt h x (instObj C dx) C (some od)/\∀name,lookIn name od=some (mA name) :=
 let ⟨od,ho,hl⟩:=Jif I.ns
 ⟨od,⟨I.obj,rfl,rfl,ho⟩,hl⟩
section
variable{prog:Qy}{w:QP}{A:QM}{E:Qe->Qg->Prop}{s:Qg}{K:Qz}{x dx C f:Qh}{mA:Str->Option Qe}{name:Str}{v:Qe}
def Jmc(X:K.In s.heap)(I:ObjM s.heap x dx C mA)(hg:plainGet K C name=true)(hh:hasDictIn K C=true)(ha:findIn K (.ref C) name=some none)(hv:mA name=some v)(hv':PySem.W.handedIn v=true)(h:Q v { s with toks:=s.toks+1 }):
 wpAny (model prog w) A (getAttr (.ref x) name expr) Q E s:=by
 obtain⟨od,J,hl⟩:=I.look;exact PySem.W.get_value X J (PySem.W.plainGet_of hg).1 (PySem.W.findObj_own hh ha rfl (by rw[hl,hv])) hv' h
def Jnz(X:K.In s.heap)(I:ObjM s.heap x dx C mA)(hs:findIn K (.ref C) "__setattr__"=some (some (.builtin "object.__setattr__")))(hp:plainOver K C=true)(ht:takerIn K C name=some none)(hh:hasDictIn K C=true)(hw:Xq mA ns)(hsz:ns.length<=Qr)(h:∀h',ObjM h' x dx C (fun y=>if y=name then some v else mA y)->QK dx s.heap h'->Q () { s with heap:=h',toks:=s.toks+2 }):
 wpAny (model prog w) A (setAttr (.ref x) name v) Q E s:=by
 obtain⟨od,J,hl⟩:=I.look;refine PySem.W.set_plain X J hs (PySem.W.osa_open (s:={ s with toks:=s.toks+1 }) (r:=none) X J hp ht fun b=>?_);obtain⟨cd,hc,hd'⟩:=PySem.W.any_some hh;have hx:s.heap.get? x=some ⟨.ref C,some dx,.plain,#[]⟩:=I.obj;refine Qa (Qj (Qa (Qa (wpAny_loadPart hx (Qa (PySem.W.Looks.here (s:={ s with toks:=s.toks+1 }) (PySem.W.looks_clsIn X hc) ?_))))));rw[hd'];refine Qj (a:=some dx) (Qa (Qj (Qa ?_)))
 refine wpAny_nsSet1 (s:={ s with toks:=s.toks+1 }) I.ns fun h' hn2 hs2=>?_
 obtain⟨oD,esD,epD,hoD,hdD,hcD⟩:=hn2.count (PySem.Within.cons name v hw);refine Qa (wpAny_lookBehind hoD (by rw[hdD];exact pastItsLine_dict (Gm hcD (by rw[Qv];omega))) ?_);exact Qj (h _ ⟨(hs2.2 _ (Q3 I.ne)).trans I.obj,hn2,I.ne⟩ hs2)
def Jj4{R:MV->Qg->Prop}{vs:List Qe}{kw:List (Str×Qe)}(X:K.In s.heap)(hm:makesIn K C=true)
 (hi:findIn K (.ref C) "__init__"=some (some (.ref f))) (hf:PySem.W.typeIn K (.ref f)=some (.type "function"))
 (h:codeAny (model prog w) (A.under (.builtin "type.__call__" ⟨.ref C::vs,kw⟩)) (.call (.ref f) ⟨.ref (s.heap.objs.size+1)::vs,kw⟩) (PySem.W.InitBack (s.heap.objs.size+1) R)
  { s with heap:=(s.heap.push emptyDict).push (instObj C s.heap.objs.size) }) :
 codeAny (model prog w) A (.call (.ref C) ⟨vs,kw⟩) R s:=by
 obtain⟨hh,g,d,t,os⟩:=s;exact PySem.W.make_core (PySem.W.makes_of X hm) (PySem.W.looks_findIn X hi) (fun self=>PySem.W.bind_fn X self hf) (.inl rfl) h
end
noncomputable def putF(f:Str)(v:V):List (Str×V)->List (Str×V)
 | []=>[(f,v)]
 | (g,x)::r=>if g=f then(g,v)::r else(g,x)::putF f v r
theorem Zm(f g:Str)(v:V):∀fs:List (Str×V),(putF f v fs).lookup g=if g=f then some v else fs.lookup g
 | []=>by
  show LU g [(f,v)]=_
  by_cases h:g=f
  ·have hb:(g == f)=true:=beq_iff_eq.mpr h;simp only[LU,hb,if_pos h]
  ·have hb:(g == f)=false:=beq_eq_false_iff_ne.mpr h;simp only[LU,hb,if_neg h]
 | (k,x)::r=>by
  have ih:=Zm f g v r;rw[show putF f v ((k,x)::r)=(if k=f then(k,v)::r else(k,x)::putF f v r) from rfl]
  by_cases hk:k=f
  ·rw[if_pos hk]
   by_cases h:g=k
   ·have hb:(g == k)=true:=beq_iff_eq.mpr h;simp only[LU,hb,if_pos (h.trans hk)]
   ·have hb:(g == k)=false:=beq_eq_false_iff_ne.mpr h;simp only[LU,hb,if_neg (fun e:g=f=>h (e.trans hk.symm))]
  ·rw[if_neg hk]
   by_cases h:g=k
   ·have hb:(g == k)=true:=beq_iff_eq.mpr h;simp only[LU,hb,if_neg (fun e:g=f=>hk (h.symm.trans e))]
   ·have hb:(g == k)=false:=beq_eq_false_iff_ne.mpr h;simp only[LU,hb];exact ih
theorem WZ(f:Str)(v:V):∀fs:List (Str×V),f∈(putF f v fs).map (·.1)/\∀g,g∈fs.map (·.1)->g∈(putF f v fs).map (·.1)
 | []=>⟨by simp[putF],fun g h=>by simp at h⟩
 | (k,x)::r=>by
  obtain⟨i1,i2⟩:=WZ f v r;rw[show putF f v ((k,x)::r)=(if k=f then(k,v)::r else(k,x)::putF f v r) from rfl]
  by_cases hk:k=f
  ·rw[if_pos hk];subst hk;exact⟨by simp,fun g h=>by simpa using h⟩
  ·rw[if_neg hk];refine⟨?_,fun g h=>?_⟩
   ·rw[Qd];exact Qc _ i1
   ·rw[Qd] at h ⊢;rcases Qk.mp h with e|e
    ·exact Qk.mpr (.inl e)
    ·exact Qc _ (i2 g e)
theorem Zl(f:Str)(v:V):∀fs:List (Str×V),(putF f v fs).length<=fs.length+1
 | []=>by simp[putF]
 | (k,x)::r=>by
  have ih:=Zl f v r;rw[show putF f v ((k,x)::r)=(if k=f then(k,v)::r else(k,x)::putF f v r) from rfl]
  by_cases hk:k=f
  ·rw[if_pos hk,Qv,Qv];omega
  ·rw[if_neg hk,Qv,Qv];omega
def RelO.some_of{v:V}{o:Option Qe}(r:RelO (some v) o):∃u,o=some u/\RelV v u:=by
 cases o with
 | none=>exact(show False from r).elim
 | some u=>exact⟨u,rfl,r⟩
def Jh2(r:RelV v u):PySem.W.handedIn u=true:=by
 cases v with
 | non=>cases (show u=Value.none from r);rfl
 | bl b=>cases (show u=Value.bool b from r);rfl
 | int i=>obtain⟨t,e⟩:=(show ∃t,u=Value.int i t from r);cases e;rfl
 | str x=>obtain⟨t,e⟩:=(show ∃t,u=Value.str x t from r);cases e;rfl
 | byt b=>obtain⟨t,e⟩:=(show ∃t,u=Value.bytes b t from r);cases e;rfl
 | flt b=>obtain⟨t,e⟩:=(show ∃t,u=Value.float b t from r);cases e;rfl
 | ref a=>cases (show u=Value.ref a from r);rfl
 | ty n=>cases (show u=Value.type n from r);rfl
def Jcw(hok:HOk P w H h)(e:H a=some (.ins C dx fs)):∃mA,ObjM h a dx C mA/\(∀f,RelO (fs.lookup f) (mA f))/\Xq mA (fs.map (·.1))/\fs.length<=1000/\H dx=some (.own a):=by
 obtain⟨d,z,ne,ob,mA,n,r,q⟩:=(show ObjOk P w H h a (.ins C dx fs) from hok a _ e)
 exact⟨mA,⟨ob,n,ne⟩,r,q,z,d⟩
structure Cls (K:Qz) (C:Qh):Prop where
 pg:plainGet K C Str.empty=true
 hd:hasDictIn K C=true
 po:plainOver K C=true
 sa:findIn K (.ref C) "__setattr__"=some (some (.builtin "object.__setattr__"))
def Cls.get{K:Qz}{C:Qh}(c:Cls K C)(f:Str):plainGet K C f=true:=c.pg
noncomputable def NoAttr(K:Qz)(C:Qh)(f:Str):Prop:=findIn K (.ref C) f=some none
def NoAttr.taker{K:Qz}{C:Qh}{f:Str}(n:NoAttr K C f):takerIn K C f=some none:=by unfold takerIn;rw[show findIn K (.ref C) f=some none from n];rfl
def Jfl(I:Inv X pins σ H s)(e:H a=some (.ins C dx fs))(c:Cls X.K C)(n:NoAttr X.K C f)(l:fs.lookup f=some v)(h:∀u s',Inv X pins σ H s'->RelV v u->Q u s'):wpAny (model X.prog X.w) A (getAttr (.ref a) f b) Q E s:=by
 obtain⟨mA,O,r,_,_,_⟩:=Jcw I.hok e;obtain⟨u,hu,ru⟩:=RelO.some_of (v:=v) (o:=mA f) (by rw[<- l];exact r f);exact Jmc I.kIn O (c.get f) c.hd n hu (Jh2 ru) (h u _ (I.tok _) ru)
def JfW(I:Inv X pins σ H s)(e:H a=some (.ins C dx fs))(c:Cls X.K C)(n:NoAttr X.K C f)(hl:fs.length<1000)(ry:RelV y u)(h:∀s',Inv X pins σ (upd H a (.ins C dx (putF f y fs))) s'->Q () s'):wpAny (model X.prog X.w) A (setAttr (.ref a) f u) Q E s:=by
 obtain⟨mA,O,r,wi,_,ho⟩:=Jcw I.hok e;have hz:(fs.map (·.1)).length<=Qr:=by rw[Qp,sizeLine_eq];omega
 refine Jnz I.kIn O c.sa c.po n.taker c.hd wi hz fun h' O' sb=>h _ ?_
 have hd:∃o,h'.get? dx=some o:=let ⟨o,_,_,e',_⟩:=O'.ns;⟨o,e'⟩
 refine I.write (x:=a) (e:=dx) (by rw[e];exact True.intro) (.inr ho) (fun b q hb z=>(sb.2 b hb).trans z) hd ?_;refine⟨by rw[Je O.ne];exact ho,?_,O.ne,O'.obj,_,O'.ns,fun g=>?_,fun g hg=>?_⟩
 ·have:=Zl f y fs;omega
 ·show RelO ((putF f y fs).lookup g) (if g=f then some u else mA g);rw[Zm]
  by_cases q:g=f
  ·rw[if_pos q,if_pos q];exact ry
  ·rw[if_neg q,if_neg q];exact r g
 ·by_cases q:g=f
  ·rw[q];exact(WZ f y fs).1
  ·refine(WZ f y fs).2 g (wi g fun z=>hg ?_);show(if g=f then some u else mA g)=none;rw[if_neg q];exact z
def Inv.made(I:Inv X pins σ H s):Inv X pins σ (upd (upd H s.heap.objs.size (.own (s.heap.objs.size+1))) (s.heap.objs.size+1) (.ins C s.heap.objs.size []))
 { s with heap:=(s.heap.push emptyDict).push (instObj C s.heap.objs.size) }:=by
 have e1:(s.heap.push emptyDict).get? s.heap.objs.size=some emptyDict:=Qm s.heap rfl
 have e2:((s.heap.push emptyDict).push (instObj C s.heap.objs.size)).get? (s.heap.objs.size+1)=some (instObj C s.heap.objs.size):=by
  have:=Qm (s.heap.push emptyDict) (o:=instObj C s.heap.objs.size) rfl
  rwa [Gy] at this
 have e3:(s.heap.push emptyDict).Ns s.heap.objs.size (fun _=>none):=⟨emptyDict,#[],_,e1,rfl,(fun e he=>absurd he (by simp)),fun _=>rfl⟩
 have I1:=I.laid (a:=s.heap.objs.size) (o:=.own (s.heap.objs.size+1)) (h':=s.heap.push emptyDict) (t':=s.toks) (fun b u q=>Qi _ q) (Qu _) ⟨_,e1⟩;refine I1.laid (a:=s.heap.objs.size+1) (o:=.ins C s.heap.objs.size []) (t':=s.toks) (fun b u q=>Qi _ q) (LZ (Gy _ _)) ?_
 have ne:s.heap.objs.size≠s.heap.objs.size+1:=QF (GY _);refine⟨by rw[Je ne,Jl],GL _,ne,e2,fun _=>none,(Heap.Ns1.of_empty e3).at fun o q=>Qi _ q,fun _=>True.intro,fun y hy=>absurd rfl hy⟩
def JlB(hb:attributeBase e f env (eval e env)=eval e env)(h:wpAny (model prog w) A (eval e env) (fun o s₁=>wpAny (model prog w) A (getAttr o f true) Q E s₁) E s):wpAny (model prog w) A (eval (.Attribute e f pos) env) Q E s :=
 Attribute_any_ h (by rw[arm_eval_Attribute,hb])
noncomputable def JqF(K:Qz)(ta:TE)(f:Str):TE:=fun σ H Q=>ta σ H fun x H1=>∃a C dx fs v,x=.ref a/\H1 a=some (.ins C dx fs)/\Cls K C/\NoAttr K C f/\fs.lookup f=some v/\Q v H1
noncomputable def Jqs(K:Qz)(ta tv:TE)(f:Str):TS:=fun D σ H=>tv σ H fun y H1=>ta σ H1 fun x H2=>∃a C dx fs,x=.ref a/\H2 a=some (.ins C dx fs)/\Cls K C/\NoAttr K C f/\fs.length<1000 ∧
 D.nx σ (upd H2 a (.ins C dx (putF f y fs)))
def JpY(he:PE X e ta)(hb:attributeBase e f X.env (eval e X.env)=eval e X.env):PE X (.Attribute e f pos) (JqF X.K ta f):=by intro pins s σ H Q I h;refine JlB hb (thn (he pins s σ H _ I h) fun u s1 ⟨x,H1,I1,rx,a,C,dx,fs,v,ex,ea,c,n,l,q⟩=>?_);subst ex;obtain rfl:u=Value.ref a:=rx;exact Jfl I1 ea c n l fun u' s2 I2 ru=>⟨v,H1,I2,ru,q⟩
def Jp4(ha:PE X o ta)(hv:PE X value tv)(hs:swapsWith value (some (.Attribute o f pos')) pos.line X.env=pure false):PS X (.Assign [.Attribute o f pos'] value pos) (Jqs X.K ta tv f):=by intro pins s σ H D I h;refine plainObj_wpAny_Assign_Attribute (thn (hv pins s σ H _ I h) fun u s1 ⟨y,H1,I1,ry,q⟩=>thn (ha pins s1 σ H1 _ I1 q) fun ov s2 ⟨x,H2,I2,rx,a,C,dx,fs,ex,ea,c,n,l,q2⟩=>?_) hs;subst ex;obtain rfl:ov=Value.ref a:=rx;exact JfW I2 ea c n l ry fun s3 I3=>⟨σ,_,I3,q2⟩
inductive TyOf (K:Qz) (H:Hp):V->Qe->Prop where
 | non:TyOf K H .non (.type "NoneType")
 | bl (x:Bool):TyOf K H (.bl x) (.type "bool")
 | int (i:Int):TyOf K H (.int i) (.type "int")
 | str (x:Str):TyOf K H (.str x) (.type "str")
 | flt (x:UInt64):TyOf K H (.flt x) (.type "float")
 | lst {a:Qh} {xs:List V} (e:H a=some (.lst xs)):TyOf K H (.ref a) (.type "list")
 | frz {a:Qh} {o:Obj} {xs:List V} (e:H a=some (.frz o (.lst xs))):TyOf K H (.ref a) (.type "list")
 | tup {a:Qh} {xs:List V} (e:H a=some (.tup xs)):TyOf K H (.ref a) (.type "tuple")
 | dK {a:Qh} {kvs:List (Key×V)} (e:H a=some (.dK kvs)):TyOf K H (.ref a) (.type "dict")
 | dT {a:Qh} {kvs:List (List Key×V)} (e:H a=some (.dT kvs)):TyOf K H (.ref a) (.type "dict")
 | ins {a C dx:Qh} {fs:List (Str×V)} (e:H a=some (.ins C dx fs)) (cl:Cls K C) (ha:findIn K (.ref C) "__class__"=some (some (.builtin "object.__class__")))
  (hn:Xr K (.builtin "object.__class__") "__get__"=some (some (.builtin "getset_descriptor.__get__"))) (htk:PySem.W.takesIn K (.builtin "object.__class__")=some true)
  (hm:mroIn K C (.type "object")=some true):TyOf K H (.ref a) (.ref C)
def Jh9(I:Inv X pins σ H s)(rx:RelV x u)(ty:TyOf X.K H x t)(e:kitOne X.K t c=some b)(h:∀tk,Q (.bool b) { s with toks:=tk }):
 wpAny (model X.prog X.w) A (call (.builtin "isinstance") [u,c]) Q E s:=by
 cases ty with
 | non=>cases (show u=Value.none from rx);exact kia_one PySem.W.kitx_none I.kIn True.intro e (fun z=>nomatch z) h
 | bl y=>cases (show u=Value.bool y from rx);exact kia_one PySem.W.kitx_bool I.kIn True.intro e (fun z=>nomatch z) h
 | int i=>obtain⟨t,q⟩:=(show ∃t,u=Value.int i t from rx);cases q;exact kia_one PySem.W.kitx_int I.kIn True.intro e (fun z=>nomatch z) h
 | str y=>obtain⟨t,q⟩:=(show ∃t,u=Value.str y t from rx);cases q;exact kia_one PySem.W.kitx_str I.kIn True.intro e (fun z=>nomatch z) h
 | flt y=>obtain⟨t,q⟩:=(show ∃t,u=Value.float y t from rx);cases q;exact kia_one PySem.W.kitx_float I.kIn True.intro e (fun z=>nomatch z) h
 | @lst a xs ea =>
  cases (show u=Value.ref a from rx);obtain⟨_,_,n,_,h1⟩:=(show ObjOk X.prog X.w H s.heap a (.lst xs) from I.hok a _ ea)
  exact kia_one kitx_list I.kIn ⟨_,h1,rfl⟩ e (fun z=>nomatch z) h
 | @frz a ob xs ea =>
  cases (show u=Value.ref a from rx);obtain⟨_,_,_,n,_,h1⟩:=(show ObjOk X.prog X.w H s.heap a (.frz ob (.lst xs)) from I.hok a _ ea)
  exact kia_one kitx_list I.kIn ⟨_,h1,rfl⟩ e (fun z=>nomatch z) h
 | @tup a xs ea =>
  cases (show u=Value.ref a from rx);obtain⟨_,_,_,p⟩:=(show ObjOk X.prog X.w H s.heap a (.tup xs) from I.hok a _ ea)
  obtain⟨o,h1,h2,_⟩:=p;exact kia_one Xk I.kIn ⟨o,h1,h2⟩ e (fun z=>nomatch z) h
 | @dK a kvs ea =>
  cases (show u=Value.ref a from rx);obtain⟨_,_,vs,_,p⟩:=(show ObjOk X.prog X.w H s.heap a (.dK kvs) from I.hok a _ ea)
  obtain⟨o,es,ep,h1,h2,_⟩:=p;exact kia_one Xs I.kIn ⟨o,h1,h2.1⟩ e (fun z=>nomatch z) h
 | @dT a kvs ea =>
  cases (show u=Value.ref a from rx);obtain⟨_,_,xs,_,o,es,ep,h1,h2,_⟩:=(show ObjOk X.prog X.w H s.heap a (.dT kvs) from I.hok a _ ea)
  exact kia_one Xs I.kIn ⟨o,h1,h2.1⟩ e (fun z=>nomatch z) h
 | @ins a C dx fs ea cl ha hn htk hm=>cases (show u=Value.ref a from rx);obtain⟨mA,O,_⟩:=Jcw I.hok ea;obtain⟨od,J,_⟩:=O.look;exact kia_one (PySem.W.kitx_own (cl.get _) cl.hd ha hn htk hm) I.kIn J e (fun z=>nomatch z) h
structure Room (k:Nat) (A:QM):Prop where
 hd:A.handled=none
 dp:A.depth+3*k+5<recursionLimit
 un:A.units+16*k+200<cLine
def Room.mono(r:Room k A)(h:j<=k):Room j A:=⟨r.hd,by have:=r.dp;omega,by have:=r.un;omega⟩
def Room.deeper(r:Room (k+1) A)(env:Env):Room k (A.deeper env) :=
 ⟨r.hd,by have:=r.dp;show A.depth+1+3*k+5<_;omega,by have:=r.un;show A.units+3+16*k+200<_;omega⟩
def Room.in1(r:Room (k+1) A):Room k A.in1 :=
 ⟨r.hd,by have:=r.dp;show A.depth+3*k+5<_;omega,by have:=r.un;show A.units+1+16*k+200<_;omega⟩
def Jfw{A:QM}:(A.under (.builtin "type.__call__" ⟨.ref C::us,kw⟩)).depth=A.depth+1:=by first | rfl | simp[Xt,Code.weight,Code.isCreation,Code.isGuard,Code.isCaller,Code.frames,Xu,guardIds]
def Jfx{A:QM}:(A.under (.builtin "type.__call__" ⟨.ref C::us,kw⟩)).units=A.units+1:=by first | rfl | simp[Xt,Code.cUnits,Code.frames,Xu]
def Room.make(r:Room (k+1) A)(C:Qh)(us:List Qe)(kw:List (Str×Qe)):Room k (A.under (.builtin "type.__call__" ⟨.ref C::us,kw⟩)) :=
 ⟨r.hd,by have:=r.dp;rw[Jfw];omega,by have:=r.un;rw[Jfx];omega⟩
def Room.depth(r:Room k A):A.depth<recursionLimit:=by have:=r.dp;omega
def Room.units(r:Room k A):A.units+64<cLine:=by have:=r.un;omega
noncomputable def VU:TA:=fun _ H Q=>Q [] H
noncomputable def Ur(ta:TE)(tr:TA):TA:=fun σ H Q=>ta σ H fun x H1=>tr σ H1 fun xs H2=>Q (x::xs) H2
def Jc:PA X [] VU:=fun _ _ _ _ H Q I h=>Mn ⟨[],H,I,.nil,h⟩
def Ja(ha:PE X e te)(hr:PA X es t)(hs:starEach (e::es) X.env=(false,eval e X.env)::starEach es X.env:=by rfl):PA X (e::es) (Ur te t):=by intro pos pins s σ H Q I h;rw[hs];show wpAny _ _ (spliced ((false,eval e X.env)::backTo pos (starEach es X.env))) _ _ s;refine K3 (thn (ha pins s σ H _ I h) fun u s1 ⟨x,H1,I1,r1,q1⟩=>?_);exact thn (hr pos pins s1 σ H1 _ I1 q1) fun us s2 ⟨xs,H2,I2,r2,q2⟩=>⟨x::xs,H2,I2,.cons r1 r2,q2⟩
noncomputable def JqK(t:TA):TE:=fun σ H Q=>t σ H fun xs H1=>xs.length<=Qr/\∀p,H1 p=none->Q (.ref p) (upd H1 p (.tup xs))
noncomputable def JnN(t:TA):TE:=fun σ H Q=>t σ H fun xs H1=>xs.length<=Qr/\∀p,H1 p=none->Q (.ref p) (upd H1 p (.lst xs))
def Yh{x1}(h:PA X es t):PE X (.Tuple es x1 pos) (JqK t):=by intro pins s σ H Q I hq;refine wpAny_Tuple_spliced (thn (h pos pins s σ H _ I hq) fun us s1 ⟨xs,H1,I1,r,z,q⟩=>⟨by rw[<- r.length];exact z,?_⟩);have hf:H1 s1.heap.objs.size=none:=I1.hok.fresh (Qu _);refine⟨.ref s1.heap.objs.size,upd H1 s1.heap.objs.size (.tup xs),I1.laid (t':=s1.toks) (fun b u e=>Qi _ e) (Qu _) ?_,rfl,q _ hf⟩;exact⟨z,us,r,⟨_,Qm _ rfl,rfl,_,rfl⟩⟩
def YW(h:PA X es t):PE X (.List es pos) (JnN t):=by intro pins s σ H Q I hq;refine wpAny_List_spliced (thn (h pos pins s σ H _ I hq) fun us s1 ⟨xs,H1,I1,r,z,q⟩=>⟨by rw[<- r.length];exact z,?_⟩);have hf:H1 s1.heap.objs.size=none:=I1.hok.fresh (Qu _);refine⟨.ref s1.heap.objs.size,upd H1 s1.heap.objs.size (.lst xs),I1.laid (t':=s1.toks) (fun b u e=>Qi _ e) (Qu _) ?_,rfl,q _ hf⟩;exact⟨z,us,0,r,Qm _ rfl⟩
noncomputable abbrev Sp:=List V->Hp->VK->XK->Prop
noncomputable abbrev CXT:=List Env->Hp->Qg->XK->Qe->Qg->Prop
structure Env0 (P:Qy) (w:QP) (K:Qz) (mg:Str->Option Qe) (base:Q2) (A:QM) (outer:List Env) (s:Qg) (H:Hp):Prop where
 frames:A.frames=some outer
 mod:Mod K mg base
 bs:∀b o,base.get? b=some o->s.heap.get? b=some o/\H b=none
 bsz:base.objs.size<=s.heap.objs.size
 funs:s.heap.FunFrames base outer
 frf:∀b∈frs outer,H b=none
 hok:HOk P w H s.heap
 bare:AllBare s.gens
noncomputable def CE(outer:List Env)(P:Qy)(w:QP)(H:Hp)(s:Qg)(Q:VK)(u:Qe)(s':Qg):Prop :=
 ∃v H',s'.os=s.os/\AllBare s'.gens/\Un (frs outer) [] H H' s.heap s'.heap/\HOk P w H' s'.heap/\RelV v u/\Q v H'
noncomputable def CR(CX:CXT)(outer:List Env)(P:Qy)(w:QP)(H:Hp)(s:Qg)(Q:VK)(E:XK)(r:MV)(s':Qg):Prop :=
 match r with
 | .ok (.ret u)=>CE outer P w H s Q u s'
 | .ok _=>False
 | .error e=>CX outer H s E e s'
structure FnOk (P:Qy) (w:QP) (K:Qz) (mg:Str->Option Qe) (base:Q2) (CX:CXT) (k:Nat) (f:Qh) (fd:QW) (ps:List Str) (sp:Sp):Prop where
 len:∀vs H Q E,sp vs H Q E->vs.length=ps.length
 run:∀(A:QM) (outer:List Env) (s:Qg) (H:Hp) (args:Args) (us:List Qe) (vs:List V) (Q:VK) (E:XK),Room k A->Env0 P w K mg base A outer s H->BindsTo s fd args (ps.zip us)->Vals vs us->sp vs H Q E ->
  codeAny (model P w) A (.call (.ref f) args) (CR CX outer P w H s Q E) s
def FnOk.imp{P:Qy}{w:QP}{K:Qz}{mg:Str->Option Qe}{base:Q2}{CX:CXT}{k:Nat}{f:Qh}{fd:QW}{ps:List Str}{sp sp':Sp}(F:FnOk P w K mg base CX k f fd ps sp)
 (h:∀vs H Q E,sp' vs H Q E->sp vs H Q E):FnOk P w K mg base CX k f fd ps sp' :=
 ⟨fun vs H Q E q=>F.len vs H Q E (h _ _ _ _ q),fun A outer s H args us vs Q E hr he hb hv hs=>F.run A outer s H args us vs Q E hr he hb hv (h _ _ _ _ hs)⟩
def Env0.make{P:Qy}{w:QP}{K:Qz}{mg:Str->Option Qe}{base:Q2}{A:QM}{outer:List Env}{s:Qg}{H:Hp}(e:Env0 P w K mg base A outer s H)(C:Qh)(us:List Qe)(kw:List (Str×Qe)) :
 Env0 P w K mg base (A.under (.builtin "type.__call__" ⟨.ref C::us,kw⟩)) outer s H:=⟨by first | exact e.frames | (simpa [Xt,Code.envs,Xu,pushEnvs] using e.frames),e.mod,e.bs,e.bsz,e.funs,e.frf,e.hok,e.bare⟩
def Inv.env0(I:Inv X pins σ H s):Env0 X.prog X.w X.K X.mg X.base X.A X.stack s H :=
 ⟨I.ok.frames,I.ok.mod,I.bs,Gm I.ok.bsz I.sz,I.stack,I.stkFree,I.hok,I.bare⟩
def Inv.after(I:Inv X pins σ H s)(h:CE X.stack X.prog X.w H s Q u s'):EP X pins σ Q u s':=by obtain⟨v,H',os,bare,un,hok,r,q⟩:=h;obtain⟨hh,g,d,t,os'⟩:=s';obtain rfl:os'=s.os:=os;exact⟨v,H',I.call (h':=hh) (g':=g) (d':=d) (t':=t) (ch:=[]) un hok bare (fun b z=>absurd z (by simp)),r,q⟩
noncomputable def Jhy(sp:Sp)(dvs:List V)(E:XK)(t:TA):TE:=fun σ H Q=>t σ H fun vs H1=>sp (vs++dvs) H1 Q E
noncomputable def JhA(C:Qh)(sp:Sp)(dvs:List V)(E:XK)(t:TA):TE:=fun σ H Q=>t σ H fun vs H1=>∀x dx,H1 x=none->H1 dx=none->dx≠x ->
 sp (.ref x::(vs++dvs)) (upd (upd H1 dx (.own x)) x (.ins C dx [])) (fun v H2=>v=.non/\Q (.ref x) H2) E
noncomputable def Binds(K:Qz)(fd:QW)(ps:List Str)(ds:List Qe):Prop :=
 ∀(s:Qg) (us:List Qe),K.In s.heap->(us++ds).length=ps.length->BindsTo s fd ⟨us,[]⟩ (ps.zip (us++ds))
def Binds.all{K:Qz}{fd:QW}{ps:List Str}(h:∀us:List Qe,us.length=ps.length->bindArgs fd ⟨us,[]⟩=pure (ps.zip us)):Binds K fd ps []:=fun s us _ hl=>by rw[KQ] at hl ⊢;exact .of_eq (h us hl)
noncomputable def ZO(CX:CXT)(X:Cx)(E:XK):Prop:=∀(pins:List (Qh×Obj)) (σ:St) (H:Hp) (s:Qg) (e:Qe) (s':Qg),Inv X pins σ H s->CX X.stack H s E e s'->X.xe e s'
def Jqr{pins:List (Qh×Obj)}{σ:St}{H:Hp}{s:Qg}{Q:VK}{us:List Qe}{vs:List V}(F:FnOk X.prog X.w X.K X.mg X.base CX k f fd ps sp)(hr:Room k X.A)(hb:Binds X.K fd ps ds)(hd:Vals dvs ds)(hx:ZO CX X E)
 (I:Inv X pins σ H s) (r:Vals vs us) (h:sp (vs++dvs) H Q E):wpAny (model X.prog X.w) X.A (call (.ref f) us) (EP X pins σ Q) X.xe s:=by
 have r2:Vals (vs++dvs) (us++ds):=r.append hd
 have hl:(us++ds).length=ps.length:=by rw[<- r2.length];exact F.len _ _ _ _ h
 refine wpAny_call (Lz (F.run X.A X.stack s H ⟨us,[]⟩ (us++ds) (vs++dvs) Q E hr I.env0 (hb s us I.kIn hl) r2 h) fun r s' hq=>?_)
 cases r with
 | error e=>exact hx pins σ H s e s' I hq
 | ok fl =>
  cases fl with
  | ret u=>exact I.after hq
  | next=>exact G4 hq
  | brk=>exact G4 hq
  | cont=>exact G4 hq
def JmU(F:FnOk X.prog X.w X.K X.mg X.base CX k f fd ps sp)(hr:Room k X.A)(hg:Gl X x)(hm:X.mg x=some (.ref f))(hk:keepIn X.K (.ref f)=true)(hb:Binds X.K fd ps ds)(hd:Vals dvs ds)(hx:ZO CX X E)
 (ha:PA X (e::es) t) (hdb:(x == ("__debug__":Str))=false:=by decide) (he:starEach (e::es) X.env=(false,eval e X.env)::starEach es X.env:=by rfl) (hpl:(backTo pos (starEach es X.env)).any (·.1)=false:=by rfl) :
 PE X (.Call (.Name x p) (e::es) [] pos) (Jhy sp dvs E t):=by
 intro pins s σ H Q I h;refine K4 (Jcz I hg hm ?_ hdb);refine Xl (h₀:=X.base) I.ok.mod.kin hk (thn (ha pos pins s σ H _ I h) fun us s1 ⟨vs,H1,I1,r,q⟩=>⟨I1.kIn,?_⟩) he hpl;exact Jqr F hr hb hd hx I1 r q
structure Mk (K:Qz) (C f:Qh):Prop where
 makes:makesIn K C=true
 init:findIn K (.ref C) "__init__"=some (some (.ref f))
 fn:PySem.W.isFn K (.ref f)=true
 kp:keepIn K (.ref C)=true
def JkH{pins:List (Qh×Obj)}{σ:St}{H:Hp}{s:Qg}{Q:VK}{us:List Qe}{vs:List V}(M:Mk X.K C f)(F:FnOk X.prog X.w X.K X.mg X.base CX k f fd ps sp)(hr:Room (k+1) X.A)(hb:Binds X.K fd ps ds)(hd:Vals dvs ds)
 (hx:ZO CX X E) (I:Inv X pins σ H s) (r:Vals vs us)
 (h:∀x dx,H x=none->H dx=none->dx≠x->sp (.ref x::(vs++dvs)) (upd (upd H dx (.own x)) x (.ins C dx [])) (fun v H2=>v=.non/\Q (.ref x) H2) E) :
 wpAny (model X.prog X.w) X.A (call (.ref C) us) (EP X pins σ Q) X.xe s:=by
 have hq:=h (s.heap.objs.size+1) s.heap.objs.size (I.hok.fresh (KY _)) (I.hok.fresh (Qu _)) (QF (GY _))
 have I2:=Inv.made (C:=C) I
 have r2:Vals (V.ref (s.heap.objs.size+1)::(vs++dvs)) (Value.ref (s.heap.objs.size+1)::(us++ds)):=.cons rfl (r.append hd)
 have hl:(Value.ref (s.heap.objs.size+1)::us++ds).length=ps.length:=by have e:=r2.length;rw[F.len _ _ _ _ hq] at e;exact e.symm
 refine wpAny_call (Jj4 (f:=f) I.kIn M.makes M.init (beq_iff_eq.mp M.fn) (Lz (F.run _ X.stack _ _ ⟨Value.ref (s.heap.objs.size+1)::us,[]⟩ (Value.ref (s.heap.objs.size+1)::(us++ds)) _ _ E (hr.make C us [])
  (I2.env0.make C us []) (hb _ (Value.ref (s.heap.objs.size+1)::us) I2.kIn hl) r2 hq) fun r s' hq'=>?_))
 cases r with
 | error e=>exact hx pins σ _ _ e s' I2 hq'
 | ok fl =>
  cases fl with
  | ret u=>obtain⟨v,H',I3,rv,ev,q3⟩:=I2.after hq';subst ev;exact⟨rv,⟨V.ref (s.heap.objs.size+1),H',I3,rfl,q3⟩⟩
  | next=>exact G4 hq'
  | brk=>exact G4 hq'
  | cont=>exact G4 hq'
def JmY(M:Mk X.K C f)(F:FnOk X.prog X.w X.K X.mg X.base CX k f fd ps sp)(hr:Room (k+1) X.A)(hg:Gl X x)(hm:X.mg x=some (.ref C))(hb:Binds X.K fd ps ds)(hd:Vals dvs ds)(hx:ZO CX X E)
 (ha:PA X (e::es) t) (hdb:(x == ("__debug__":Str))=false:=by decide) (he:starEach (e::es) X.env=(false,eval e X.env)::starEach es X.env:=by rfl) (hpl:(backTo pos (starEach es X.env)).any (·.1)=false:=by rfl) :
 PE X (.Call (.Name x p) (e::es) [] pos) (JhA C sp dvs E t):=by
 intro pins s σ H Q I h;refine K4 (Jcz I hg hm ?_ hdb);refine Xl (h₀:=X.base) I.ok.mod.kin M.kp (thn (ha pos pins s σ H _ I h) fun us s1 ⟨vs,H1,I1,r,q⟩=>⟨I1.kIn,?_⟩) he hpl;exact JkH M F hr hb hd hx I1 r q
structure FnScope (N P:List Str) (sc:Mg):Prop where
 kind:sc.kind=.function
 co:sc.isCoroutine=false
 gen:sc.isGenerator=false
 nd:N.Nodup
 pre:N.take P.length=P
 par:∀x∈P,sc.names.lookup x=some .local\/sc.names.lookup x=some .cell
 nofree:∀y∈sc.names,y.2≠.free
theorem Jbl{kindOf:Str->Option NameKind}:∀{binds:List (Str×Qe)} {m:Str->Option Qe},(∀v,(x,v)∉binds)->bindL kindOf binds m x=m x
 | [],_,_=>rfl
 | (n,v)::r,m,h=>by
  unfold bindL;rw[Jbl fun w hw=>h w (Qc _ hw)];split
  ·have:x≠n:=by rintro rfl;exact h v Qf
   simp[this]
  ·rfl
theorem Jbj{kindOf:Str->Option NameKind}:∀{binds:List (Str×Qe)} {m:Str->Option Qe},(∀v,(x,v)∉binds)->bindC kindOf binds m x=m x
 | [],_,_=>rfl
 | (n,v)::r,m,h=>by
  unfold bindC;rw[Jbj fun w hw=>h w (Qc _ hw)];split
  ·rfl
  ·have:x≠n:=by rintro rfl;exact h v Qf
   simp[this]
theorem Jbk{kindOf:Str->Option NameKind}{x:Str}{v:Qe}:∀{P:List Str} {vs:List Qe} {i:Nat} {m:Str->Option Qe},P.Nodup->P[i]?=some x->vs[i]?=some v->kindOf x=some .local ->
 bindL kindOf (P.zip vs) m x=some v
 | [],_,_,_,_,h,_,_=>by simp at h
 | _::_,[],_,_,_,_,h,_=>by simp at h
 | p::P,w::vs,0,m,nd,h1,h2,hk=>by simp at h1 h2;subst h1;subst h2;show bindL kindOf ((p,w)::P.zip vs) m p=_;unfold bindL;rw[Jbl fun v hv=>(Q6.mp nd).1 (KR hv).1,if_pos hk];simp
 | p::P,w::vs,i+1,m,nd,h1,h2,hk=>by show bindL kindOf ((p,w)::P.zip vs) m x=_;unfold bindL;exact Jbk (i:=i) (Q6.mp nd).2 (by simpa using h1) (by simpa using h2) hk
theorem Jbi{kindOf:Str->Option NameKind}{x:Str}{v:Qe}:∀{P:List Str} {vs:List Qe} {i:Nat} {m:Str->Option Qe},P.Nodup->P[i]?=some x->vs[i]?=some v->kindOf x≠some .local ->
 bindC kindOf (P.zip vs) m x=some v
 | [],_,_,_,_,h,_,_=>by simp at h
 | _::_,[],_,_,_,_,h,_=>by simp at h
 | p::P,w::vs,0,m,nd,h1,h2,hk=>by simp at h1 h2;subst h1;subst h2;show bindC kindOf ((p,w)::P.zip vs) m p=_;unfold bindC;rw[Jbj fun v hv=>(Q6.mp nd).1 (KR hv).1,if_neg hk];simp
 | p::P,w::vs,i+1,m,nd,h1,h2,hk=>by show bindC kindOf ((p,w)::P.zip vs) m x=_;unfold bindC;exact Jbi (i:=i) (Q6.mp nd).2 (by simpa using h1) (by simpa using h2) hk
noncomputable def YH(N:List Str)(vs:List V):St:=vs.map some++QC (N.length-vs.length) none
noncomputable def WR(CX:CXT)(P:Qy)(w:QP)(K:Qz)(mg:Str->Option Qe)(base:Q2)(N:List Str)(qual:Str)(scope:Mg)(f:Qh)(cd:Qe)(A:QM)(outer:List Env)(s:Qg)(H:Hp)(E:XK):Cx where
 prog:=P
 w:=w
 K:=K
 mg:=mg
 base:=base
 A:=A.deeper (envOfC qual scope s.heap.objs.size f cd)
 N:=N
 s₀:=s
 H₀:=H
 env:=envOfC qual scope s.heap.objs.size f cd
 outer:=outer
 stack:=envOfC qual scope s.heap.objs.size f cd::outer
 ex:=[]
 calm:=true
 fn:=fun _=>true
 pn:=[]
 xe:=fun e s'=>wpAny (model P w) (A.deeper (envOfC qual scope s.heap.objs.size f cd)) (leaving (envOfC qual scope s.heap.objs.size f cd) e) (fun _ s''=>CX outer H s E e s'') (fun e' s''=>CX outer H s E e' s'') s'
def Jdq{sc:Mg}{n:Nat}{x:Str}(h:sc.names.lookup x=some .cell):∃c,(cellsFrom n sc.names []).lookup x=some c:=by have q:=cellsFrom_some sc.names n [] (.inl h);exact Rh.mp q
def WX{CX:CXT}{P:Qy}{w:QP}{K:Qz}{mg:Str->Option Qe}{base:Q2}{N ps:List Str}{qual:Str}{scope:Mg}{f:Qh}{cd:Qe}{A:QM}{outer:List Env}{s s1:Qg}{H:Hp}{E:XK}{us:List Qe}{vs:List V}
 (S:FnScope N ps scope) (hd:A.handled=none) (e0:Env0 P w K mg base A outer s H) (hl:vs.length=ps.length) (r:Vals vs us)
 (x:InCallC s s.heap.objs.size (bindL (envOfC qual scope s.heap.objs.size f cd).kindOf (ps.zip us) fun _=>none) (cellsFrom (s.heap.objs.size+1) scope.names []) (bindC (envOfC qual scope s.heap.objs.size f cd).kindOf (ps.zip us) fun _=>none) s1) :
 Inv (WR CX P w K mg base N qual scope f cd A outer s H E) [] (YH N vs) H s1:=by
 have hpl:ps.length<=N.length:=by have:=congrArg Mh S.pre;rw[K1] at this;omega
 obtain⟨h1,tk,rfl,hk⟩:=x.done;have noA:∀b:Qh,b∉(WR CX P w K mg base N qual scope f cd A outer s H E).ex:=fun b z=>absurd (show b∈([]:List Qh) from z) (by simp)
 refine⟨⟨e0.mod,S.kind,rfl,rfl,Qu _,fun y z c h1 h2=>?_,fun y hy=>?_,fun y c _ h=>?_,fun _=>hd,R1 e0.frames,.inr ⟨rfl,rfl⟩,fun b z=>absurd z (noA b),e0.bs,e0.bsz,fun b _ _=>noA b,fun b z=>absurd z (noA b),e0.funs,e0.frf⟩,
  rfl,e0.bare,Un.kept hk,⟨_,x.toInCall.ns,fun i y v h1 h2 h3=>?_⟩,fun y c h=>⟨_,x.cell y c h⟩,e0.hok.fresh (Qu _),fun y c h=>?_,fun p hp=>absurd (show p∈([]:List (Qh×Obj)) from hp) (by simp),e0.hok.kept hk,?_⟩
 ·exact name_of_addr x.apart (KU h1) (KU h2)
 ·have hy:scope.names.lookup y=some .cell\/scope.names.lookup y=some .free:=hy;rcases hy with hy|hy
  ·exact Jdq hy
  ·exact absurd rfl (S.nofree _ (KU hy))
 ·exact GW (x.above y c (KU h))
 ·have hi:i<vs.length:=by
   unfold YH at h2
   by_cases hi:i<vs.length
   ·exact hi
   ·rw[QQ (by simpa using hi)] at h2;rw[Rn] at h2;split at h2 <;> cases h2
  have ha:vs[i]?=some v:=by
   unfold YH at h2;rw[QO (by simpa using hi),Qq] at h2
   cases e:vs[i]? with
   | none=>rw[e] at h2;cases h2
   | some a=>rw[e] at h2;cases h2;rfl
  obtain⟨u,hu,rv⟩:=r.get ha
  have hp:ps[i]?=some y:=by rw[<- S.pre,List.getElem?_take_of_lt (by omega)];exact h1
  have ndP:ps.Nodup:=by rw[<- S.pre];exact S.nd.sublist (List.take_sublist _ _)
  refine⟨u,rv,?_⟩;rcases S.par y (QI hp) with k|k
  ·exact .inl ⟨k,Jbk ndP hp hu k⟩
  ·obtain⟨c,e⟩:=Jdq (n:=s.heap.objs.size+1) k;refine .inr ⟨.inl k,c,e,?_⟩;have q:=x.cell y c e;rw[Jbi ndP hp hu (by show scope.names.lookup y≠_;rw[k];decide)] at q;exact q
 ·exact e0.hok.fresh (GW (x.above y c (KU h)))
 ·unfold YH;show _=N.length;rw[QA,Qp,GU];omega
def Jn8{CX:CXT}{P:Qy}{w:QP}{K:Qz}{mg:Str->Option Qe}{base:Q2}{k:Nat}{f:Qh}{name qual:Str}{params:MR}{body:List Kt}{scope:Mg}{dV kV doc pm cdv ct oc:Qe}{an od:Option Qh}
 {osl:Array (Option Qe)} {N ps:List Str} {sp:Sp} (lk:K.lookup f=some ⟨oc,od,.func (fnOf name qual params body scope dV kV doc pm an cdv ct),osl⟩) (hcd:codeIn K cdv qual=true) (S:FnScope N ps scope)
 (len:∀vs H Q E,sp vs H Q E->vs.length=ps.length)
 (hbody:∀(A:QM) (outer:List Env) (s:Qg) (H:Hp) (vs:List V) (Q:VK) (E:XK),Room k (A.deeper (envOfC qual scope s.heap.objs.size f cdv))->sp vs H Q E ->
  ∃t,PSs (WR CX P w K mg base N qual scope f cdv A outer s H E) body t/\t { nx:=fun _ H'=>Q .non H',rt:=Q } (YH N vs) H) :
 FnOk P w K mg base CX (k+1) f (fnOf name qual params body scope dV kV doc pm an cdv ct) ps sp:=by
 refine⟨len,fun A outer s H args us vs Q E hr e0 hb r hsp=>?_⟩;have hl:=len _ _ _ _ hsp;have KX:K.In s.heap:=e0.mod.kin.keeps fun b o e=>(e0.bs b o e).1
 have lim:s.heap.NoLimit:=e0.mod.nolimit.keeps fun b o e=>(e0.bs b o e).1
 have hkind:∀y∈ps.zip us,scope.names.lookup y.1=some .local\/(scope.names.lookup y.1=some .cell/\((cellsFrom (s.heap.objs.size+1) scope.names []).lookup y.1).isSome=true):=fun⟨n,v⟩ hy=>by
  rcases S.par n (KR hy).1 with q|q
  ·exact .inl q
  ·exact .inr ⟨q,cellsFrom_some _ _ _ (.inl q)⟩
 refine codeAny_call_function hr.depth (KX _ _ lk) rfl S.co S.gen rfl (Xn KX hcd) (hb _ _ _ _ ?_);refine LV S.kind hkind fun env he s1 x=>?_
 subst he;refine⟨lim.keeps x.toInCall.keep,codeAny_func ?_⟩;obtain⟨t,ht,hq⟩:=hbody A outer s H vs Q E (hr.deeper _) hsp;have I:Inv (WR CX P w K mg base N qual scope f cdv A outer s H E) [] (YH N vs) H s1:=WX S hr.hd e0 hl r x;refine KF (ht [] s1 (YH N vs) H _ I hq) (fun fl s' hs=>?_) fun e s' hs=>hs
 have fin:∀{σ':St} {H':Hp} {v:V} {u:Qe},Inv (WR CX P w K mg base N qual scope f cdv A outer s H E) [] σ' H' s'->RelV v u->Q v H'->CE outer P w H s Q u s' :=
  fun {σ' H' v u} J rv q=>⟨v,H',J.os,J.bare,J.base,J.hok,rv,q⟩
 cases fl with
 | ret u=>obtain⟨v,σ',H',J,rv,q⟩:=hs;exact fin J rv q
 | next=>obtain⟨σ',H',J,q⟩:=hs;exact fin (v:=V.non) (u:=Value.none) J rfl q
 | brk=>obtain⟨_,_,_,q⟩:=hs;exact G4 q
 | cont=>obtain⟨_,_,_,q⟩:=hs;exact G4 q
section
variable{X:Cx}{x:Str}{p pos:Pos}{e:Gu}{es:List Gu}{t:TA}{id T:String}{r:List V->Hp->VK->Prop}
noncomputable def tCB(r:List V->Hp->VK->Prop)(t:TA):TE:=fun σ H Q=>t σ H fun vs H1=>r vs H1 Q
def Jr(hc:Yo X (.builtin id) r)(hg:Gl X x)(hm:X.mg x=none)(hv:bootBuiltins x=some (.builtin id))(ha:PA X (e::es) t)(hn:x≠"__name__":=by decide)(hdb:(x == ("__debug__":Str))=false:=by decide)
 (he:starEach (e::es) X.env=(false,eval e X.env)::starEach es X.env:=by rfl) (hpl:(backTo pos (starEach es X.env)).any (·.1)=false:=by rfl):PE X (.Call (.Name x p) (e::es) [] pos) (tCB r t):=by
 intro pins s σ H Q I h;refine K4 (Y2 I hg hm hv ?_ hn hdb);exact PyProof.Rows.callWith_builtin1 (thn (ha pos pins s σ H _ I h) fun us s1 ⟨vs,H1,I1,r1,q1⟩=>hc pins s1 σ H1 vs us Q I1 r1 q1) he hpl
def Ue(hc:Yo X (.type T) r)(hg:Gl X x)(hm:X.mg x=none)(hv:bootBuiltins x=some (.type T))(ha:PA X (e::es) t)(hn:x≠"__name__":=by decide)(hdb:(x == ("__debug__":Str))=false:=by decide)
 (he:starEach (e::es) X.env=(false,eval e X.env)::starEach es X.env:=by rfl) (hpl:(backTo pos (starEach es X.env)).any (·.1)=false:=by rfl):PE X (.Call (.Name x p) (e::es) [] pos) (tCB r t):=by
 intro pins s σ H Q I h;refine K4 (Y2 I hg hm hv ?_ hn hdb);exact GF (thn (ha pos pins s σ H _ I h) fun us s1 ⟨vs,H1,I1,r1,q1⟩=>hc pins s1 σ H1 vs us Q I1 r1 q1) he hpl
end
end L2
namespace HT
open PySem PyProof.Rows
def Jjo(A:QM)(s:Qg)(a:Int)(t:Tok)(c:Int)(u:Tok):∃e,SeqAt.EqAt A s (.int a t) (.int c u) e/\(e=true↔a=c) :=
 ⟨(a == c),SeqAt.EqAt.int_int a t c u,by simp⟩
def JlG(ht:IsTup s.heap t vs.toArray)(hb:IsTup s.heap b ws.toArray)(hv:vs≠[])(h1:ws=[]->Q (.ref t) s)(h2:ws≠[]->Q (.ref s.heap.objs.size) { s with heap:=s.heap.push { cls:=.type "tuple",data:=.seq (vs++ws).toArray } })(hsz:vs.length+ws.length<=Qr):wpAny (model prog w) A (binaryOp .Add (.ref t) (.ref b)) Q E s:=by
 obtain⟨⟨cls,dd,data,sl⟩,ho,hc,n,hd⟩:=id ht;obtain⟨⟨cls2,dd2,data2,sl2⟩,ho2,hc2,n2,hd2⟩:=id hb;simp only at hc hd hc2 hd2;subst hc hd hc2 hd2;have e:vs.toArray++ws.toArray=(vs++ws).toArray:=by simp
 by_cases hw:ws=[]
 ·exact concat_meets ⟨_,ho,rfl⟩ ⟨_,ho2,rfl⟩ noFill_tuple_add seq_tuple_add RE Ro (Ri _ _)
   (tuple_addW1 t b vs.toArray ws.toArray n n2 dd dd2 sl sl2 (by simpa using hv) (by simp[hw])) ⟨ho,ho2,h1 hw⟩
 ·refine concat_meets ⟨_,ho,rfl⟩ ⟨_,ho2,rfl⟩ noFill_tuple_add seq_tuple_add RE Ro (Ri _ _)
   (tuple_addW2 t b vs.toArray ws.toArray n n2 dd dd2 sl sl2 (by simpa using hv) (by simpa using hw) (by rw[Qt,Qt];exact hsz)) ⟨ho,ho2,?_⟩
  rw[e];exact h2 hw
noncomputable def sIx(n d:Nat):Option Int->Nat
 | none=>d
 | some v=>if v<0 then(v+(n:Int)).toNat else min v.toNat n
def Jqt(n d:Nat)(hd:d<=n)(o:Option Int):sIx n d o<=n:=by
 cases o with
 | none=>exact hd
 | some v =>
  show(if v<0 then(v+(n:Int)).toNat else min v.toNat n)<=n
  by_cases hv:v<0
  ·rw[if_pos hv];omega
  ·rw[if_neg hv];exact Nat.min_le_right _ _
def Jgr(v:Int)(n d:Nat):(if v<0 then max (v+(n:Int)) 0 else min v (n:Int))=((sIx n d (some v):Nat):Int):=by
 show(if v<0 then max (v+(n:Int)) 0 else min v (n:Int))=(((if v<0 then(v+(n:Int)).toNat else min v.toNat n):Nat):Int)
 by_cases hv:v<0
 ·simp only[if_pos hv];omega
 ·simp only[if_neg hv];omega
def JeZ(lo hi:Option Int)(n:Nat):L4 lo hi 1 (n:Int)=(((sIx n 0 lo:Nat):Int),((sIx n n hi:Nat):Int)):=by
 have h1:¬((1:Int)<0):=by omega
 unfold L4;simp only[h1,if_false];refine KL ?_ ?_
 ·cases lo with
  | none=>rfl
  | some v=>exact Jgr v n 0
 ·cases hi with
  | none=>rfl
  | some v=>exact Jgr v n n
def JfK(i j:Nat):K9 (i:Int) (j:Int) 1=j-i:=by
 unfold K9;have h1:(1:Int)>0:=by omega
 simp only[h1,if_true,Int.ediv_one];split <;> omega
def JaL(p:IsPart v o)(h:Q o s):wpAny (model prog w) A (Builtin.Slice.slicePartIndex v) Q E s:=by
 cases p with
 | none=>exact slicePart_none h
 | int i t=>exact slicePart_int h
def UV{sl:Qh}{vl vu:Qe}{lo hi:Option Int}{n:Nat}{Q:Int×Int×Nat->Qg->Prop}(hs:s.heap.IsSliceOf sl vl vu .none)(pl:IsPart vl lo)(pu:IsPart vu hi)
 (h:Q (((sIx n 0 lo:Nat):Int),1,sIx n n hi-sIx n 0 lo) s):wpAny (model prog w) A (MW (.ref sl) (pure (n:Int))) Q E s:=by
 obtain⟨os,hos,hcs,hds⟩:=id hs;unfold MW Builtin.Slice.sliceFields;refine Qa (Qa (Q5 hos hds (x:=vl) rfl (Qa (Q5 hos hds (x:=vu) rfl (Qa (Q5 hos hds (x:=.none) rfl (Qj ?_)))))));refine Qa (slicePart_none ?_);show wpAny _ _ (if ((1:Int) == 0)=true then _ else _) _ _ s;rw[if_neg (by decide)];refine Qa (JaL pl (Qa (JaL pu (Qa (Qj ?_)))))
 show wpAny _ _ (match L4 lo hi 1 (n:Int) with|(lo,hi)=>pure (lo,(1:Int),K9 lo hi 1)) _ _ s;rw[JeZ lo hi n]
 show wpAny _ _ (pure (((sIx n 0 lo:Nat):Int),(1:Int),K9 ((sIx n 0 lo:Nat):Int) ((sIx n n hi:Nat):Int) 1)) _ _ s;rw[JfK];exact Qj h
def Jko(xs:Array Qe)(i k:Nat):((Q1 k).filterMap fun(m:Nat)=>xs[((i:Int)+(m:Int)*1).toNat]?).toArray=((xs.toList.drop i).take k).toArray:=by
 have e:(fun(m:Nat)=>xs[((i:Int)+(m:Int)*1).toNat]?)=fun m=>xs[i+m]?:=by
  funext m
  have:((i:Int)+(m:Int)*1).toNat=i+m:=by omega
  rw[this]
 rw[e];have:=pick_run xs i k;rw[List.filterMap_map] at this;have e2:((fun x=>xs[x]?) ∘ fun x=>i+x)=fun m=>xs[i+m]?:=rfl
 rw[e2] at this;rw[this]
def Wv{t sl:Qh}{items:Array Qe}{vl vu:Qe}{lo hi:Option Int}{Q:Qe->Qg->Prop}(ht:IsTup s.heap t items)(hs:s.heap.IsSliceOf sl vl vu .none)(pl:IsPart vl lo)(pu:IsPart vu hi)
 (hw:¬(sIx items.size 0 lo=0/\sIx items.size items.size hi=items.size))
 (h:Q (.ref s.heap.objs.size) { s with heap:=s.heap.push { cls:=.type "tuple",data:=.seq ((items.toList.drop (sIx items.size 0 lo)).take (sIx items.size items.size hi-sIx items.size 0 lo)).toArray } })
 (hsz:items.size<=Qr):wpAny (model prog w) A (getItem (.ref t) (.ref sl)) Q E s:=by
 have htake:sizeOk (.seq ((items.toList.drop (sIx items.size 0 lo)).take (sIx items.size items.size hi-sIx items.size 0 lo)).toArray):=by show((items.toList.drop (sIx items.size 0 lo)).take (sIx items.size items.size hi-sIx items.size 0 lo)).toArray.size<=Qr;rw[Qt,K1,Rp,QU];omega
 have hj:sIx items.size items.size hi<=items.size:=Jqt _ _ (Qu _) hi;obtain⟨os,hos,hcs,hds⟩:=id hs
 have hTs:s.TypeIs (.ref sl) "slice":=⟨os,hos,hcs⟩
 unfold getItem
 try with_reducible refine GO ?_
 first|refine Qa (Qj ?_)|skip
 refine Qa (wpAny_sequenceKey ht.typeIs (by decide) ?_);refine Qa (QX (name:=Go "__getitem__") ht.typeIs Gw
  (Q7 Gw ht.typeIs entry_tuple_getitem ?_ (args_tuple_getitem _ _)))
 show wpAny _ _ (MX (.ref t) >>= _) _ _ s;refine Qa (tupleItemsOf_ ht ?_);refine Qa (Mo hTs ?_);rw[if_pos (by decide)];refine Qa (UV hs pl pu ?_)
 have hno:¬((((sIx items.size 0 lo:Nat):Int) == 0 && (1:Int) == 1 && (sIx items.size items.size hi-sIx items.size 0 lo) == items.size)=true):=by intro q;rw[QR,QR] at q;have q1:((sIx items.size 0 lo:Nat):Int)=0:=eq_of_beq q.1.1;have q2:sIx items.size items.size hi-sIx items.size 0 lo=items.size:=eq_of_beq q.2;exact hw ⟨by omega,by omega⟩
 show wpAny _ _ (if (((sIx items.size 0 lo:Nat):Int) == 0 && (1:Int) == 1 && (sIx items.size items.size hi-sIx items.size 0 lo) == items.size)=true then _ else _) _ _ s;rw[if_neg hno,Jko]
 first
  | exact Qa (m:=Lk _) (Ge (Qj ⟨_,rfl,Qj h⟩) htake)
  | exact Qa (m:=Lk _) (Ge (Qa (Qj (Qj ⟨_,rfl,Qj h⟩))) htake)
  | exact Qa (Qa (m:=Lk _) (Ge (Qj (Qj ⟨_,rfl,Qj h⟩)) htake))
  | exact Qa (Qa (m:=Lk _) (Ge (Qj ⟨_,rfl,Qj h⟩) htake))
end HT
namespace L2
open PySem PySem.Spec PyProof.Rows
noncomputable abbrev TO:=St->Hp->(Option Int->Hp->Prop)->Prop
noncomputable def PO(X:Cx)(e:Option Gu)(t:TO):Prop :=
 ∀(pins:List (Qh×Obj)) (s:Qg) (σ:St) (H:Hp) (Q:Option Int->Hp->Prop),Inv X pins σ H s->t σ H Q ->
  wpAny (model X.prog X.w) X.A (evalPart e X.env) (fun u s'=>∃o H',Inv X pins σ H' s'/\IsPart u o/\Q o H') X.xe s
noncomputable def JhB:TO:=fun _ H Q=>Q none H
noncomputable def JoA(t:TE):TO:=fun σ H Q=>t σ H fun x H1=>∃i,x=.int i/\Q (some i) H1
def Yw:∀{us:List Qe},Vals (ns.map V.int) us->IntsAre us ns:=by
 induction ns with
 | nil=>intro us r;rw[LA] at r;cases r;exact .nil
 | cons n ns ih =>
  intro us r;rw[Qd] at r
  cases r with
  | cons r1 r2=>obtain⟨t,e⟩:=r1;subst e;exact .cons n t (ih r2)
section
variable{X:Cx}{e:Gu}{te:TE}{lo hi:Option Gu}{tl th:TO}{pos p2:Pos}
def Jha:PO X none JhB:=by intro pins s σ H Q I h;rw[evalPart_none];exact Qj ⟨none,H,I,.none,h⟩
def Jhb(h:PE X e te):PO X (some e) (JoA te):=by
 intro pins s σ H Q I hw;rw[evalPart_some];refine thn (h pins s σ H _ I hw) fun u s1 ⟨x,H1,I1,r1,q1⟩=>?_
 obtain⟨i,rfl,q⟩:=q1;obtain⟨t,rfl⟩:=r1;exact⟨some i,H1,I1,.int i t,q⟩
noncomputable def SlR(X:Cx)(r:V->Option Int->Option Int->Hp->VK->Prop):Prop :=
 ∀(pins:List (Qh×Obj)) (s:Qg) (σ:St) (H:Hp) (x:V) (v vl vu:Qe) (lo hi:Option Int) (sl:Qh) (Q:VK),Inv X pins σ H s->RelV x v->s.heap.IsSliceOf sl vl vu .none->IsPart vl lo->IsPart vu hi->r x lo hi H Q ->
  ∃T id,typeLookup (.type T) "__getitem__"=pure (some (.builtin id))/\s.TypeIs v T/\wpAny (model X.prog X.w) X.A (getItem v (.ref sl)) (EP X pins σ Q) X.xe s
def SlR.or(h:SlR X r)(h':SlR X r'):SlR X (fun x lo hi H Q=>r x lo hi H Q\/r' x lo hi H Q):=by
 intro pins s σ H x v vl vu lo hi sl Q I rx hs pl pu q;rcases q with q|q
 ·exact h pins s σ H x v vl vu lo hi sl Q I rx hs pl pu q
 ·exact h' pins s σ H x v vl vu lo hi sl Q I rx hs pl pu q
noncomputable def tSl(r:V->Option Int->Option Int->Hp->VK->Prop)(te:TE)(tl th:TO):TE:=fun σ H Q=>te σ H fun x H1=>tl σ H1 fun l H2=>th σ H2 fun u H3=>r x l u H3 Q
def Jen(hr:SlR X r)(he:PE X e te)(hl:PO X lo tl)(hu:PO X hi th):PE X (.Subscript e (.Slice lo hi none p2) pos) (tSl r te tl th):=by
 intro pins s σ H Q I h;refine Subscript_ (thn (he pins s σ H _ I h) fun v s1 ⟨x,H1,I1,r1,q1⟩=>?_);refine wpAny_Slice (thn (hl pins s1 σ H1 _ I1 q1) fun vl s2 ⟨l,H2,I2,pl,q2⟩=>thn (hu pins s2 σ H2 _ I2 q2) fun vu s3 ⟨u,H3,I3,pu,q3⟩=>?_);rw[evalPart_none];refine Qj ?_;have I4:Inv X pins σ H3 { s3 with heap:=s3.heap.push { cls:=.type "slice",data:=.fields #[vl,vu,.none] } }:=I3.kept (t':=s3.toks) fun b ob q=>Qi _ q
 obtain⟨T,id,hT,ht,hg⟩:=hr pins { s3 with heap:=s3.heap.push { cls:=.type "slice",data:=.fields #[vl,vu,.none] } } σ H3 x v vl vu l u s3.heap.objs.size Q I4 r1 (Heap.IsSliceOf.new ..) pl pu q3;show wpAny (model X.prog X.w) X.A (subscriptTail e (.Slice lo hi none p2) v (.ref s3.heap.objs.size)) (EP X pins σ Q) X.xe { s3 with heap:=s3.heap.push { cls:=.type "slice",data:=.fields #[vl,vu,.none] } };exact tail_any (ops:=[.ref s3.heap.objs.size,v]) ht hT hg (by with_unfolding_all rfl)
noncomputable def JaZ(xs:List V)(lo hi:Option Int):List V:=(xs.drop (HT.sIx xs.length 0 lo)).take (HT.sIx xs.length xs.length hi-HT.sIx xs.length 0 lo)
def Zi(xs:List V)(lo hi:Option Int):(JaZ xs lo hi).length<=xs.length:=by unfold JaZ;rw[K1,Rp];omega
noncomputable def JrY(K:Qz):V->Option Int->Option Int->Hp->VK->Prop:=fun x lo hi H Q=>∃a xs,x=.ref a/\SqT K H a xs ∧
 ¬(HT.sIx xs.length 0 lo=0/\HT.sIx xs.length xs.length hi=xs.length)/\∀p,H p=none->Q (.ref p) (upd H p (.tup (JaZ xs lo hi)))
def sl_tup:SlR X (JrY X.K):=by
 intro pins s σ H x v vl vu lo hi sl Q I rx hs pl pu h;obtain⟨a,xs,rfl,hx,hw,q⟩:=h;cases rx;obtain⟨its,r,ht,hz⟩:=I.tuple hx;have hlen:its.toArray.size=xs.length:=by rw[Qt];exact r.length.symm
 refine⟨"tuple",_,Gw.lookup,ht.typeIs,?_⟩;refine HT.Wv ht hs pl pu (by rw[hlen];exact hw) ?_ (by rw[hlen];exact hz);rw[hlen];refine⟨.ref s.heap.objs.size,_,I.laid (t':=s.toks) (o:=.tup (JaZ xs lo hi)) (fun b ob q=>Qi _ q) (Qu _) ?_,rfl,q _ (I.hok.fresh (Qu _))⟩;exact⟨Gm (Zi xs lo hi) hz,_,(r.drop (HT.sIx xs.length 0 lo)).take (HT.sIx xs.length xs.length hi-HT.sIx xs.length 0 lo),IsTup.new _ _⟩
noncomputable def Jor(K:Qz):R2:=fun x y H Q=>∃a b xs ys,x=.ref a/\y=.ref b/\SqT K H a xs/\SqT K H b ys/\xs≠[]/\xs.length+ys.length<=Qr ∧
 (ys=[]->Q (.ref a) H)/\(ys≠[]->∀p,H p=none->Q (.ref p) (upd H p (.tup (xs++ys))))
def Vals.nil_iff(r:Vals xs us):us=[]↔xs=[]:=by
 cases r with
 | nil=>simp
 | cons _ _=>simp
def JmR:OpR X (binaryOp .Add) (Jor X.K):=by
 intro pins s σ H x y v u Q I rx ry h;obtain⟨a,b,xs,ys,rfl,rfl,ha,hb,hx,hz,q1,q2⟩:=h;cases rx;cases ry;obtain⟨its,r1,p1,_⟩:=I.tuple ha;obtain⟨its2,r2,p2,_⟩:=I.tuple hb;refine HT.JlG p1 p2 (fun z=>hx (r1.nil_iff.mp z)) (fun z=>⟨.ref a,H,I,rfl,q1 (r2.nil_iff.mp z)⟩) (fun z=>?_) (by rw[<- r1.length,<- r2.length];exact hz);refine⟨.ref s.heap.objs.size,_,I.laid (t':=s.toks) (o:=.tup (xs++ys)) (fun b ob q=>Qi _ q) (Qu _) ?_,rfl,q2 (fun w=>z (r2.nil_iff.mpr w)) _ (I.hok.fresh (Qu _))⟩
 exact⟨by rw[QA];exact hz,_,r1.append r2,IsTup.new _ _⟩
end
noncomputable def ixN(n:Nat)(i:Int):Option Nat:=if 0<=i then(if i<n then some i.toNat else none) else if -(n:Int)<=i then some (i+n).toNat else none
noncomputable def atI{α:Type}(xs:List α)(i:Int):Option α:=(ixN xs.length i).bind fun j=>xs[j]?
def Jmj(h:ixN n i=some j):seqIndex? i n=some j/\j<n/\-(n:Int)<=i/\i<n:=by
 unfold ixN at h
 by_cases h0:0<=i
 ·rw[if_pos h0] at h
  by_cases h1:i<n
  ·rw[if_pos h1] at h;have e:i.toNat=j:=QS h;exact⟨by rw[seqIndex_of h0 h1,e],by omega,by omega,h1⟩
  ·rw[if_neg h1] at h;cases h
 ·rw[if_neg h0] at h
  by_cases h1:-(n:Int)<=i
  ·rw[if_pos h1] at h;have e:(i+n).toNat=j:=QS h;exact⟨by rw[seqIndex_neg (by omega) h1,e],by omega,h1,by omega⟩
  ·rw[if_neg h1] at h;cases h
def JbW{α:Type}{xs:List α}{v:α}(h:atI xs i=some v):∃j,seqIndex? i xs.length=some j/\xs[j]?=some v/\j<xs.length/\-(xs.length:Int)<=i/\i<xs.length:=by
 unfold atI at h
 cases e:ixN xs.length i with
 | none=>rw[e] at h;cases h
 | some j=>rw[e] at h;obtain⟨h1,h2,h3,h4⟩:=Jmj e;exact⟨j,h1,h,h2,h3,h4⟩
noncomputable def Jgc(b:Gu):Prop:=∀o i,subscripted b false o i=operate [o,i] (getItem o i)
noncomputable def IxR(X:Cx)(r:R2):Prop :=
 ∀(value slice:Gu) (pins:List (Qh×Obj)) (s:Qg) (σ:St) (H:Hp) (x y:V) (v u:Qe) (Q:VK),Inv X pins σ H s->RelV x v->RelV y u->r x y H Q ->
  subscripted slice false v u=operate [v,u] (getItem v u)->wpAny (model X.prog X.w) X.A (subscriptTail value slice v u) (EP X pins σ Q) X.xe s
noncomputable def MtR(X:Cx)(id:String)(r:V->List V->Hp->VK->Prop):Prop :=
 ∀(pins:List (Qh×Obj)) (s:Qg) (σ:St) (H:Hp) (x:V) (xs:List V) (v:Qe) (us:List Qe) (Q:VK),Inv X pins σ H s->RelV x v->Vals xs us->r x xs H Q ->
  wpAny (model X.prog X.w) X.A (call (.builtin id) (v::us)) (EP X pins σ Q) X.xe s
section
variable{X:Cx}{a b:Gu}{ta tb:TE}{pos:Pos}
def IxR.or(h:IxR X r)(h':IxR X r'):IxR X (fun x y H Q=>r x y H Q\/r' x y H Q):=by
 intro value slice pins s σ H x y v u Q I rx ry q hs;rcases q with q|q
 ·exact h value slice pins s σ H x y v u Q I rx ry q hs
 ·exact h' value slice pins s σ H x y v u Q I rx ry q hs
def Joq(hr:IxR X r)(ha:PE X a ta)(hb:PE X b tb)(hs:Jgc b):PE X (.Subscript a b pos) (tOp r ta tb):=by intro pins s σ H Q I h;exact Subscript_ (JoJ ha hb I h fun v u s2 x y H2 I2 rx ry q=>hr a b pins s2 σ H2 x y v u Q I2 rx ry q (hs _ _))
noncomputable def JrQ(K:Qz):R2:=fun x y H Q=>∃p xs i v,x=.ref p/\y=.int i/\SqL K H p xs/\atI xs i=some v/\Q v H
noncomputable def JrS(K:Qz):R2:=fun x y H Q=>∃p xs i v,x=.ref p/\y=.int i/\SqT K H p xs/\atI xs i=some v/\Q v H
noncomputable def JrR:R2:=fun x y H Q=>∃z i c,x=.str z/\y=.int i/\z.length<=Qr/\atI z.cps.toList i=some c/\Q (.str ⟨#[c]⟩) H
def ix_list:IxR X (JrQ X.K):=by
 intro value slice pins s σ H x y v u Q I rx ry h hs;obtain⟨p,xs,i,z,rfl,rfl,hq,he,q⟩:=h;cases rx;obtain⟨t,rfl⟩:=ry;obtain⟨its,r,pl,hz⟩:=I.list hq;obtain⟨j,h1,h2,h3,h4,h5⟩:=JbW he;obtain⟨w,ew,rw'⟩:=r.get h2;have hl:=r.length;have hn:=Jaj;have fin:EP X pins σ Q w s:=⟨z,H,I,rw',q⟩
 by_cases h0:0<=i
 ·have hj:i.toNat=j:=by rw[seqIndex_of h0 h5] at h1;exact QS h1
  exact item_listR pl.isList h0 (by omega) (by rw[hj];simpa using ew) fin hs
 ·have hj:(i+(its.toArray.size:Int)).toNat=j:=by rw[seqIndex_neg (by omega) h4] at h1;rw[Qt,<- hl];exact QS h1
  exact subscriptTail_builtinR (x:=w) pl.isList.typeIs slot_list_getitem.lookup
   (wpAny_getItem_list_neg (Q:=fun r s'=>r=w/\EP X pins σ Q r s') pl.isList (by omega) (by rw[Qt] <;> omega) (by omega) (by rw[hj];simpa using ew) ⟨rfl,fin⟩) hs
def ix_tup:IxR X (JrS X.K):=by
 intro value slice pins s σ H x y v u Q I rx ry h hs;obtain⟨p,xs,i,z,rfl,rfl,hq,he,q⟩:=h;cases rx;obtain⟨t,rfl⟩:=ry;obtain⟨its,r,pl,hz⟩:=I.tuple hq;obtain⟨j,h1,h2,h3,h4,h5⟩:=JbW he;obtain⟨w,ew,rw'⟩:=r.get h2;have hl:=r.length;have hn:=Jaj;have fin:EP X pins σ Q w s:=⟨z,H,I,rw',q⟩
 exact subscriptTail_builtinR (x:=w) pl.typeIs slot_tuple_getitem.lookup
  (getItem_tuple (j:=j) (Q:=fun r s'=>r=w/\EP X pins σ Q r s') pl (by omega) (by omega) (by rw[Qt,<- hl];exact h1) (by simpa using ew) ⟨rfl,fin⟩) hs
def Jpc:IxR X JrR:=by
 intro value slice pins s σ H x y v u Q I rx ry h hs;obtain⟨z,i,c,rfl,rfl,hz,he,q⟩:=h;obtain⟨t,rfl⟩:=rx;obtain⟨t',rfl⟩:=ry;obtain⟨j,h1,h2,h3,h4,h5⟩:=JbW he;have hl:z.cps.toList.length=z.length:=by simp[Str.length]
 rw[hl] at h1 h4 h5;have hn:=Jaj;exact tail_any (typeIs_str s z t) slot_str_getitem.lookup (getItem_str (c:=c) (by
  have e1:decide (i < -(2 ^ 63:Int))=false:=decide_eq_false (by omega)
  have e2:decide (i ≥ 2 ^ 63)=false:=decide_eq_false (by omega);rw[e1,e2,MC]) (by rw[h1];simpa using h2) ⟨.str ⟨#[c]⟩,H,I.tok _,⟨_,rfl⟩,q⟩) hs
noncomputable def rIx(K:Qz):R2:=fun x y H Q=>JrQ K x y H Q\/JrS K x y H Q\/JrR x y H Q
def JjQ:IxR X (rIx X.K):=ix_list.or (ix_tup.or Jpc)
def Jc1(lo hi:Option Int)(n:Nat):(sliceBounds lo hi none n).1=((HT.sIx n 0 lo:Nat):Int)/\(sliceBounds lo hi none n).2.1=((HT.sIx n n hi:Nat):Int)/\(sliceBounds lo hi none n).2.2=1:=by
 refine⟨?_,?_,rfl⟩
 ·cases lo with
  | none=>simp[sliceBounds,HT.sIx]
  | some i =>
   simp only[sliceBounds,HT.sIx,Option.getD_none,show(1:Int)>0 by decide,if_true]
   by_cases h:i<0
   ·simp only[h,if_true] <;> omega
   ·simp only[h,if_false] <;> omega
 ·cases hi with
  | none=>simp[sliceBounds,HT.sIx]
  | some i =>
   simp only[sliceBounds,HT.sIx,Option.getD_none,show(1:Int)>0 by decide,if_true]
   by_cases h:i<0
   ·simp only[h,if_true] <;> omega
   ·simp only[h,if_false] <;> omega
def Ja8(its:List Qe)(lo hi:Option Int):slicePick its.toArray lo hi none=((its.drop (HT.sIx its.length 0 lo)).take (HT.sIx its.length its.length hi-HT.sIx its.length 0 lo)).toArray:=by obtain⟨h1,h2,h3⟩:=Jc1 lo hi its.toArray.size;unfold slicePick;rw[h1,h2,h3];simp only[sliceRange_one,pick_run,Qt] <;> rfl
noncomputable def JrX(K:Qz):V->Option Int->Option Int->Hp->VK->Prop:=fun x lo hi H Q=>∃a xs,x=.ref a/\SqL K H a xs/\∀p,H p=none->Q (.ref p) (upd H p (.lst (JaZ xs lo hi)))
def sl_list:SlR X (JrX X.K):=by
 intro pins s σ H x v vl vu lo hi sl Q I rx hs pl pu h;obtain⟨a,xs,rfl,hx,q⟩:=h;cases rx;obtain⟨its,r,ht,hz⟩:=I.list hx;have hlen:=r.length;refine⟨"list",_,slot_list_getitem.lookup,ht.isList.typeIs,?_⟩;refine wpAny_getItem_list_slice ht.isList hs pl pu .none (by simp) ?_ (by rw[Qt] <;> omega);rw[Ja8,<- hlen];refine⟨.ref s.heap.objs.size,_,I.laid (t':=s.toks) (o:=.lst (JaZ xs lo hi)) (fun b ob q=>Qi _ q) (Qu _) ?_,rfl,q _ (I.hok.fresh (Qu _))⟩
 exact⟨Gm (Zi xs lo hi) hz,_,0,(r.drop (HT.sIx xs.length 0 lo)).take (HT.sIx xs.length xs.length hi-HT.sIx xs.length 0 lo),Qm _ rfl⟩
def JaY:Yo X (.type "tuple") (fun xs H Q=>∃p ys,xs=[.ref p]/\((SqL X.K H p ys/\∀l,H l=none->Q (.ref l) (upd H l (.tup ys)))\/(SqT X.K H p ys/\Q (.ref p) H))):=by
 intro pins s σ H xs us Q I r h;obtain⟨p,ys,rfl,h⟩:=h;obtain⟨u,rfl,rx⟩:=Vd r;cases rx;rcases h with ⟨hq,q⟩|⟨hq,q⟩
 ·obtain⟨its,r',pl,hz⟩:=I.list hq;have hlen:=r'.length;refine call_tuple_list pl.isList (fun h' kp=>?_) (by simp only[Qt] <;> omega);have I1:Inv X pins σ H { s with heap:=h' }:=I.kept (t':=s.toks) kp
  have I2:Inv X pins σ (upd H h'.objs.size (.tup ys)) { s with heap:=h'.push { cls:=.type "tuple",data:=.seq its.toArray } } :=
   I1.laid (t':=s.toks) (fun b o e=>Qi _ e) (Qu _) (show ObjOk X.prog X.w _ _ _ (.tup ys) from⟨hz,its,r',IsTup.new _ _⟩)
  exact⟨.ref h'.objs.size,_,I2,rfl,q _ (I1.hok.fresh (Qu _))⟩
 ·obtain⟨its,r',pl,hz⟩:=I.tuple hq;exact call_tuple_same pl ⟨.ref p,H,I,rfl,q⟩
noncomputable def tyV(K:Qz)(T:String)(x:V)(H:Hp):Prop:=match x with
 | .str _=>T="str"
 | .int _=>T="int"
 | .ref p=>(T="list"/\∃xs,SqL K H p xs)\/(T="tuple"/\∃o,K.lookup p=some o/\o.cls=.type "tuple"/\o.dict=none) ∨
  (T="dict"/\((∃kvs,H p=some (.dK kvs))\/∃kvs,H p=some (.dT kvs)))\/(T="set"/\∃S n,H p=some (.set S n))
 | _=>False
def Jli{pins:List (Qh×Obj)}{σ:St}{H:Hp}{s:Qg}{T:String}{x:V}{v:Qe}(I:Inv X pins σ H s)(r:RelV x v)(ty:tyV X.K T x H) :
 s.TypeIs v T/\∀a,v=.ref a->∃ob,s.heap.get? a=some ob/\ob.dict=none:=by
 cases x with
 | str z=>obtain⟨t,rfl⟩:=r;cases (show T="str" from ty);exact⟨typeIs_str s z t,fun _ e=>nomatch e⟩
 | int i=>obtain⟨t,rfl⟩:=r;cases (show T="int" from ty);exact⟨typeIs_int s i t,fun _ e=>nomatch e⟩
 | ref p =>
  cases r;rcases ty with ⟨rfl,xs,hq⟩|⟨rfl,o,hk,hc,hd⟩|⟨rfl,hk⟩|⟨rfl,S,n,hk⟩
  ·obtain⟨its,_,pl,_⟩:=I.list hq;refine⟨pl.isList.typeIs,fun a e=>?_⟩;cases e;obtain⟨o,n,e,c,hd,_⟩:=pl;exact⟨o,e,hd⟩
  ·refine⟨⟨o,I.kIn p o hk,hc⟩,fun a e=>?_⟩;cases e;exact⟨o,I.kIn _ o hk,hd⟩
  ·have z:∃o,s.heap.get? p=some o/\o.ExactDict:=by
    rcases hk with ⟨kvs,hk⟩|⟨kvs,hk⟩
    ·obtain⟨_,_,_,_,o,_,_,e,ex,_⟩:=I.hok p _ hk;exact⟨o,e,ex⟩
    ·obtain⟨_,_,_,_,o,_,_,e,ex,_⟩:=I.hok p _ hk;exact⟨o,e,ex⟩
   obtain⟨o,e,ex⟩:=z;refine⟨⟨o,e,ex.1⟩,fun a e2=>?_⟩;cases e2;exact⟨o,e,ex.2.1⟩
  ·obtain⟨o,_,_,_,e,ex,_⟩:=I.hok p _ hk;refine⟨⟨o,e,ex.1⟩,fun a e2=>?_⟩;cases e2;exact⟨o,e,ex.2.1⟩
 | _=>exact G4 ty
noncomputable def JnL(K:Qz)(T:String)(r:V->List V->Hp->VK->Prop)(to:TE):TE:=fun σ H Q=>to σ H fun x H1=>tyV K T x H1/\r x [] H1 Q
noncomputable def tBM(K:Qz)(T:String)(r:V->List V->Hp->VK->Prop)(to:TE)(t:TA):TE:=fun σ H Q=>to σ H fun x H1=>tyV K T x H1/\t σ H1 fun xs H2=>r x xs H2 Q
variable{o e:Gu}{es:List Gu}{to:TE}{t:TA}{name:Str}{apos cpos:Pos}{T id:String}{r:V->List V->Hp->VK->Prop}
def JpX(pa:PlainAttrs T)(slot:Slot T name id)(hty:typeOf (.builtin id)=pure (.type "method_descriptor"))(hm:MtR X id r)(ho:PE X o to)
 (hbase:attributeBase o name X.env (eval o X.env)=eval o X.env:=by rfl) (hline:(apos.endLine == cpos.line)=true:=by rfl):PE X (.Call (.Attribute o name apos) [] [] cpos) (JnL X.K T r to):=by
 intro pins s σ H Q I h;refine Mi hbase hline (thn (ho pins s σ H _ I h) fun v s1 ⟨x,H1,I1,r1,ty,q1⟩=>?_);obtain⟨h1,h2⟩:=Jli I1 r1 ty;exact⟨T,id,pa,slot,hty,h1,h2,Ky rfl (ML (hm pins s1 σ H1 x [] v [] Q I1 r1 .nil q1))⟩
def JrL(pa:PlainAttrs T)(slot:Slot T name id)(hty:typeOf (.builtin id)=pure (.type "method_descriptor"))(hm:MtR X id r)(ho:PE X o to)(ha:PA X (e::es) t)
 (hbase:attributeBase o name X.env (eval o X.env)=eval o X.env:=by rfl)
 (hfew:((backTo cpos (starEach (e::es) X.env)).all (fun x=>!x.1) && (backToKw cpos (keywordEach [] X.env)).all (fun x=>x.1.isSome)
  && decide ((e::es).length+([]:List Xe).length+(if ([]:List Xe).isEmpty then 0 else 1)<30))=true:=by rfl)
 (hline:(apos.endLine == cpos.line)=true:=by rfl) (hs:starEach (e::es) X.env=(false,eval e X.env)::starEach es X.env:=by rfl) (hplain:(backTo cpos (starEach es X.env)).any (·.1)=false:=by rfl) :
 PE X (.Call (.Attribute o name apos) (e::es) [] cpos) (tBM X.K T r to t):=by
 intro pins s σ H Q I h;refine wpAny_Call_method_late hbase hfew hline rfl (thn (ho pins s σ H _ I h) fun v s1 ⟨x,H1,I1,r1,ty,q1⟩=>?_);obtain⟨h1,h2⟩:=Jli I1 r1 ty;refine⟨T,id,pa,slot,hty,h1,h2,?_⟩;have hA:=ha cpos pins s1 σ H1 _ I1 q1;rw[hs] at hA ⊢;refine Ky (by show(false || (backTo cpos (starEach es X.env)).any (·.1))=false;rw[hplain] <;> rfl) (ME ?_);exact thn hA fun us s2 ⟨vs,H2,I2,r2,q2⟩=>hm pins s2 σ H2 x vs v us Q I2 r1 r2 q2
/- xs.append(e),list.index on a module's tuple .. are MtR facts of 06m -/
end
noncomputable def MtM(X:Cx)(id:String)(r:V->List V->Hp->VK->Prop):Prop :=
 ∀(pins:List (Qh×Obj)) (s:Qg) (σ:St) (H:Hp) (x:V) (xs:List V) (v:Qe) (us:List Qe) (Q:VK),Inv X pins σ H s->RelV x v->Vals xs us->r x xs H Q ->
  wpAny (model X.prog X.w) X.A (call (.builtin id) (v::us)) (EP X pins σ Q) X.xe s
theorem Vals.one:∀{x:V} {us:List Qe},Vals [x] us->∃u,us=[u]/\RelV x u
 | _,_,.cons r .nil=>⟨_,rfl,r⟩
theorem Vals.zero:∀{us:List Qe},Vals [] us->us=[]
 | _,.nil=>rfl
def Vals.dropLast(h:Vals xs us):Vals xs.dropLast us.dropLast:=by
 induction h with
 | nil=>exact .nil
 | cons r t ih =>
  cases t with
  | nil=>exact .nil
  | cons q t'=>exact .cons r ih
def Vals.reverse(h:Vals xs us):Vals xs.reverse us.reverse:=by
 induction h with
 | nil=>exact .nil
 | cons r t ih=>rw[GI,GI];exact Vals.append ih (.cons r .nil)
theorem Vals.rep(h:Vals xs us):∀k:Nat,Vals (QC k xs).flatten (QC k us).flatten
 | 0=>.nil
 | k+1=>by rw[Gf,Gf,KO,KO];exact Vals.append h (Vals.rep h k)
def Jff{α:Type}(l:List α):l.eraseIdx (l.length-1)=l.dropLast:=by
 induction l with
 | nil=>rfl
 | cons a r ih =>
  cases r with
  | nil=>rfl
  | cons b r =>
   have e:(a::b::r).length-1=((b::r).length-1)+1:=by
    have h1:(a::b::r).length=r.length+2:=rfl
    have h2:(b::r).length=r.length+1:=rfl;omega
   rw[e,List.eraseIdx_cons_succ,ih]
   all_goals rfl
theorem Jbx(its:List Qe):∀(k:Nat) (acc:List Qe),
 List.foldl (fun x1 x2=>x1++x2) acc.toArray (QC k its.toArray)=(acc++(QC k its).flatten).toArray
 | 0,acc=>by simp
 | k+1,acc=>by
  have e:acc.toArray++its.toArray=(acc++its).toArray:=by simp
  have e2:(acc++its)++(QC k its).flatten=acc++(QC (k+1) its).flatten:=by rw[Gf,KO,Kc]
  rw[<- e2,<- Jbx its k (acc++its),<- e,Gf,Ga]
def Inv.lset{its its':List Qe}{f:Array Qe->Array Qe}(I:Inv X pins σ H s)(hH:H l=some (.lst xs))(e:s.heap.get? l=some { cls:=.type "list",data:=.seq its.toArray n })(hf:f its.toArray=its'.toArray)(hv:Vals ys its')(hz:ys.length<=Qr):
 Inv X pins σ (upd H l (.lst ys)) { s with heap:=s.heap.update l (Gx f),toks:=t' }:=by
 have q:=PySem.IsL.update e f;rw[hf] at q;refine I.write (x:=l) (e:=l) (by rw[hH];exact trivial) (.inl rfl) (fun b' u hb hu=>(Q8 s.heap (Gx f) (Q3 hb)).trans hu) ⟨_,q⟩ ?_;exact⟨hz,its',_,hv,q⟩
def Inv.lnew(I:Inv X pins σ H s)(hv:Vals ys its)(hz:ys.length<=Qr):
 Inv X pins σ (upd H s.heap.objs.size (.lst ys)) { s with heap:=s.heap.push { cls:=.type "list",data:=.seq its.toArray },toks:=t' } :=
 I.laid (fun _ _ q=>Qi _ q) (Qu _) ⟨hz,its,0,hv,Qm _ rfl⟩
def Inv.fresh(I:Inv X pins σ H s):H s.heap.objs.size=none:=I.hok.fresh (Qu _)
def Inv.lstM(I:Inv X pins σ H s)(hH:H l=some (.lst xs)):xs.length<=Qr/\∃(its:List Qe) (n:Nat),Vals xs its/\xs.length=its.length/\s.heap.get? l=some { cls:=.type "list",data:=.seq its.toArray n }:=by obtain⟨z,its,n,r,e⟩:=I.hok l _ hH;exact⟨z,its,n,r,r.length,e⟩
def Jec(h:n<=Qr):Ll n=false:=by unfold Ll;exact decide_eq_false (by omega)
noncomputable def WD:V->List V->Hp->VK->Prop:=fun x vs H Q=>∃l xs y,x=.ref l/\vs=[y]/\H l=some (.lst xs)/\xs.length<Qr/\Q .non (upd H l (.lst (xs++[y])))
def Ud:MtM X "list.append" WD:=by intro pins s σ H x vs v us Q I rx rv h;obtain⟨l,xs,y,rfl,rfl,hH,hz,q⟩:=h;cases rx;obtain⟨u,rfl,ru⟩:=rv.one;obtain⟨z,its,n,r,hl,e⟩:=I.lstM hH;refine call_meets F.slot_list_append ⟨_,e,rfl⟩ F.entry_list_append (F.args_list_append_2 _ _) (PySem.list_append l its.toArray n u (by rw[Qt];omega)) ⟨e,?_⟩;refine⟨.non,_,I.lset (its':=its++[u]) hH e (by simp) (r.append (.cons ru .nil)) ?_,rfl,q⟩;rw[QA,Gq];omega
noncomputable def Jhh:V->List V->Hp->VK->Prop:=fun x vs H Q=>∃l b xs zs,x=.ref l/\vs=[.ref b]/\H l=some (.lst xs)/\H b=some (.lst zs)/\xs.length+zs.length<=Qr/\Q .non (upd H l (.lst (xs++zs)))
def W3:MtM X "list.extend" Jhh:=by
 intro pins s σ H x vs v us Q I rx rv h;obtain⟨l,b,xs,zs,rfl,rfl,hH,hB,hz,q⟩:=h;cases rx;obtain⟨u,rfl,ru⟩:=rv.one;cases ru;obtain⟨z,its,n,r,hl,e⟩:=I.lstM hH;obtain⟨z2,its2,n2,r2,hl2,e2⟩:=I.lstM hB;have hsz:its.toArray.size+its2.toArray.size<=Qr:=by rw[Qt,Qt];omega
 have hlong:¬(!its.toArray.isEmpty && Ll (its.toArray.size+its2.toArray.size))=true:=by rw[Jec hsz,R3];exact QH
 refine call_meets F.slot_list_extend ⟨_,e,rfl⟩ F.entry_list_extend (F.args_list_extend_2 _ _)
  (AutoSeq1.list_extend_list_list_0 l its.toArray n b its2.toArray n2 hlong (by rw[Qt];omega) (by omega)) ⟨e,e2,?_⟩
 refine⟨.non,_,I.lset (its':=its++its2) hH e (by simp) (r.append r2) ?_,rfl,q⟩;rw[QA];omega
noncomputable def JrV:V->List V->Hp->VK->Prop:=fun x vs H Q=>∃l xs y,x=.ref l/\vs=[]/\H l=some (.lst xs)/\xs[xs.length-1]?=some y/\Q y (upd H l (.lst xs.dropLast))
def Jpz:MtM X "list.pop" JrV:=by
 intro pins s σ H x vs v us Q I rx rv h;obtain⟨l,xs,y,rfl,rfl,hH,hy,q⟩:=h;cases rx;have hus:=rv.zero;subst hus;obtain⟨z,its,n,r,hl,e⟩:=I.lstM hH;obtain⟨u,hu,ru⟩:=r.get hy
 have hy':its.toArray[its.toArray.size-1]?=some u:=by show its.toArray[its.length-1]?=some u;rw[<- Kb,<- hl];exact hu
 refine call_meets F.slot_list_pop ⟨_,e,rfl⟩ F.entry_list_pop (F.args_list_pop_1 _) (MeetsSeq.list_pop_last l its.toArray n u hy' (by rw[Qt];omega)) ⟨e,?_⟩;refine⟨y,_,I.lset (its':=its.dropLast) hH e ?_ r.dropLast ?_,ru,q⟩
 ·show its.toArray.eraseIdxIfInBounds (its.toArray.size-1)=its.dropLast.toArray;rw[Qt,List.eraseIdxIfInBounds_toArray,Jff]
 ·rw[R4];omega
noncomputable def Jes:V->List V->Hp->VK->Prop:=fun x vs H Q=>∃l xs,x=.ref l/\vs=[]/\H l=some (.lst xs)/\Q .non (upd H l (.lst xs.reverse))
def Jfz:MtM X "list.reverse" Jes:=by intro pins s σ H x vs v us Q I rx rv h;obtain⟨l,xs,rfl,rfl,hH,q⟩:=h;cases rx;have hus:=rv.zero;subst hus;obtain⟨z,its,n,r,hl,e⟩:=I.lstM hH;refine call_meets F.slot_list_reverse ⟨_,e,rfl⟩ F.entry_list_reverse (F.args_list_reverse_1 _) (AutoSeq1.list_reverse_list_0 l its.toArray n (by rw[Qt];omega)) ⟨e,?_⟩;refine⟨.non,_,I.lset (its':=its.reverse) hH e (by simp) r.reverse ?_,rfl,q⟩;rw[Km];omega
noncomputable def JrN:R2:=fun x y H Q=>∃l b xs zs,x=.ref l/\y=.ref b/\H l=some (.lst xs)/\H b=some (.lst zs)/\xs.length+zs.length<=Qr/\∀p,H p=none->Q (.ref p) (upd H p (.lst (xs++zs)))
def JpN:OpR X (binaryOp .Add) JrN:=by
 intro pins s σ H x y v u Q I rx ry h;obtain⟨l,b,xs,zs,rfl,rfl,hH,hB,hz,q⟩:=h;cases rx;cases ry;obtain⟨z,its,n,r,hl,e⟩:=I.lstM hH;obtain⟨z2,its2,n2,r2,hl2,e2⟩:=I.lstM hB;refine PySem.P.add_list e e2 ?_ (by rw[Qt,Qt];omega);have ea:its.toArray++its2.toArray=(its++its2).toArray:=by simp
 rw[ea];exact⟨.ref _,_,I.lnew (t':=s.toks) (r.append r2) (by rw[QA];omega),rfl,q _ I.fresh⟩
noncomputable def JrW:R2:=fun x y H Q=>∃l k xs,x=.ref l/\y=.int k/\H l=some (.lst xs)/\-(2 ^ 63)<=k/\k<2 ^ 63/\xs.length*k.toNat<=Qr ∧
 ∀p,H p=none->Q (.ref p) (upd H p (.lst (QC k.toNat xs).flatten))
def Jmq{α:Type}(xs:List α)(k:Nat):(QC k xs).flatten.length=k*xs.length:=by
 induction k with
 | zero=>simp
 | succ k ih=>rw[Gf,KO,QA,ih,Nat.succ_mul,Nat.add_comm]
def Jke:OpR X (binaryOp .Mult) JrW:=by
 intro pins s σ H x y v u Q I rx ry h;obtain⟨l,k,xs,rfl,rfl,hH,h1,h2,hz,q⟩:=h;cases rx;obtain⟨t,rfl⟩:=ry;obtain⟨z,its,n,r,hl,e⟩:=I.lstM hH;have hlen:its.toArray.size*k.toNat<=Qr:=by rw[Qt,<- hl];exact hz
 have hcap:¬its.toArray.size*k.toNat>(2 ^ 63-1) / 8:=by
  have:(Qr:Nat)<=(2 ^ 63-1) / 8:=by decide
  omega
 have hfit:¬(!Builtin.List.listFitsIndex k)=true:=by rw[fitsIndex_both h1 h2];exact QH
 have hlong:¬Ll (its.toArray.size*k.toNat)=true:=by rw[Jec hlen];exact QH
 have hnew:List.foldl (fun x1 x2=>x1++x2) #[] (QC (if its.toArray.isEmpty=true then 0 else k.toNat) its.toArray)=(QC k.toNat its).flatten.toArray:=by
  have f0:∀m:Nat,List.foldl (fun x1 x2=>x1++x2) #[] (QC m its.toArray)=(QC m its).flatten.toArray:=fun m=>by have:=Jbx its m [];rw[Lb] at this;exact this
  rw[f0]
  cases its with
  | nil=>simp
  | cons a r'=>rw[if_neg (by simp)]
 refine wpAny_binaryOp_repeat_ref (T:="list") (U:="int") (by decide) ⟨_,e,rfl⟩ (fun s'=>typeIs_int s' k t) noFill_list_mul F.fills_int_mul F.slot_int_rmul repeat_list F.slot_int_index.lookup
  (call_meets F.slot_int_rmul (typeIs_int s k t) F.entry_int_rmul (F.args_int_rmul_2 _ _) (int___rmul___int_list k t l its.toArray n)
   ⟨e,rfl,⟨_,e,rfl⟩,call_meets F.slot_list_mul ⟨_,e,rfl⟩ F.entry_list_mul (F.args_list_mul_2 _ _) (AutoListH.list___mul___list_int_3 l its.toArray n k t hfit hcap hlong) ⟨e,?_⟩⟩)
 rw[hnew];exact⟨.ref _,_,I.lnew (t':=s.toks) (r.rep k.toNat) (by rw[Jmq,Nat.mul_comm];exact hz),rfl,q _ I.fresh⟩
end L2
namespace Att
open PySem PySem.W PySem.Calls PyProof.Rows
def Zt:∀(ns:List Int) (vs:List Qe),WellAll P h vs (ns.map WData.int)->IntsAre vs ns:=by
 intro ns
 induction ns with
 | nil=>intro vs w;rw[LA] at w;cases w;exact .nil
 | cons n ns ih =>
  intro vs w;rw[Qd] at w
  cases w with
  | cons a b=>cases a;exact .cons _ _ (ih _ b)
def JiE{l:OpenLaw}(hn:l.most=some n){h:Q2}(hpre:l.row.toRowW.claim.pre args=true)(hwl:WellAll P h vals args):
 ∃a vs ns,vals=[Value.ref a]/\args=[WData.list (ns.map WData.int)]/\h.get? a=some { cls:=.type "list",data:=.seq vs.toArray }/\IntsAre vs ns/\ns.length<=n:=by
 have hsh:WShape.hasAll [] args [.list .int]=true:=(pre_splitW hpre).1
 have hc:l.pre.holds [] { args:=args }=true:=(pre_splitW hpre).2;obtain⟨d,r,rfl,h1,h2⟩:=hasAllW_cons hsh;obtain rfl:=hasAllW_nil h2;obtain⟨xs,rfl,h3⟩:=hasW_list h1;obtain⟨ns,rfl⟩:=items_int h3
 have hlen:ns.length<=n:=by
  unfold OpenLaw.pre at hc
  have h4:(WTm.not (.lt (.lit (.int (n:Int))) (.len (.arg 0)))).holds [] { args:=[.list (ns.map .int)] }=true:=by have h4:=(holds_andW hc).1;rw[hn] at h4;exact h4
  have h5:=condW_of h4 (w_not (w_lt w_lit (w_len_list (w_arg rfl))));rw[Qp] at h5;refine Nat.le_of_not_lt fun q=>?_
  have q':(n:Int)<((ns.length:Nat):Int):=by omega
  first
   | (rw[decide_eq_true q'] at h5;exact absurd h5 (by decide))
   | (simp at h5;omega)
 cases hwl with
 | cons w1 w2 =>
  cases w2
  cases w1 with
  | list ho hall=>exact⟨_,_,ns,rfl,rfl,ho,Zt ns _ hall,hlen⟩
def Jix(l:OpenLaw)(args:List WData):l.row.toRowW.claim.post args (.bool true) args=true :=
 postW_of (r:=l.row.toRowW) (X:=(true == true))
  (show WShape.has [] (.bool true) .bool=true by first|rfl|decide|simp[WShape.has,WShape.arms,WShape.armsAll])
  (show(WTm.eq .res (.lit (.bool true))).value [] { args:=args,res:=some (.bool true),after:=args }=some (.bool (true == true)) from w_eq_bool (w_res rfl) w_lit) rfl
def attach_call{l:OpenLaw}{XP:(Str->Option Qe)->Q2->Prop}{YP:QP->Q2->Prop}{d:DefRec}(hn:l.most=some n)(hdf:d.params.defaults=[])(call:∀(w:QP) (s₀ s₁:Qg) (mg mb:Str->Option Qe) (fa:Qh) (o:Obj) (pm cd doc:Qe) (a:Qh) (vs:List Qe) (ns:List Int),
  Ground q loose [] XP w s₀ mg mb s₁.heap->YP w s₁.heap ->
  s₁.heap.get? fa=some o->o.data=.func (docDef d.name d.params d.body d.scope pm cd doc)->s₁.heap.CodeRec cd d.name->mg d.name=some (.ref fa) ->
  s₁.heap.get? a=some { cls:=.type "list",data:=.seq vs.toArray }->IntsAre vs ns->ns.length<=n->s₁.gens=#[] ->
  codeAny (model l.prog w) callerA (.call (.ref fa) ⟨[.ref a],[]⟩) (fun r s'=>r=.ok (.ret (.bool true))/\OldK s₁.heap s'.heap/\s'.os=s₁.os/\AllBare s'.gens) s₁):
 WalkO q loose XP YP l.row.toRowW d [] (fun f vs=>PySem.call f vs):=by
 intro w s₀ s₁ mg mb G Y fa o pm cd doc dV kV ho hd hcd hD hmg hg args vals as hpre hlay hrd hwl hlo;obtain rfl:dV=.none:=Dflts.none hD hdf;obtain rfl:kV=.none:=Dflts.noKw hD;obtain⟨a,vs,ns,rfl,rfl,hobj,hints,hlen⟩:=JiE hn hpre hwl;refine enter_call (Lz (call w s₀ s₁ mg mb fa o pm cd doc a vs ns G Y ho (fd_plain hd) hcd hmg hobj hints hlen hg) fun r s' hq=>?_);obtain⟨rfl,h2,h3,h4⟩:=hq;exact⟨.inl ⟨.bool true,.bool true,[],rfl,fun _=>rfl,.bool true,Jix l _,fun _=>⟨List.Pairwise.nil,fun _ hm=>(nomatch hm)⟩⟩,h2,h3,h4⟩
end Att
namespace L2
open PySem PySem.Spec PyProof.Rows
theorem JbT:∀{vs:List Qe} {ns:List Int},IntsAre vs ns->Vals (ns.map V.int) vs
 | _,_,.nil=>.nil
 | _,_,.cons n t h=>.cons ⟨t,rfl⟩ (JbT h)
noncomputable def Jmh(s:Kt)(j:Nat):Kt:=match s with
 | .ClassDef _ _ _ body _ _ _ _ _ _ _=>body.getD j (.Pass ⟨0,0,0,0⟩)
 | _=>.Pass ⟨0,0,0,0⟩
noncomputable def U2(s:Kt):MR:=match s with
 | .FunctionDef _ a _ _ _ _ _ _ _ _=>a
 | _=>{ posonlyargs:=[],args:=[],vararg:=none,kwonlyargs:=[],kw_defaults:=[],kwarg:=none,defaults:=[] }
noncomputable def YI(s:Kt):List Kt:=match s with
 | .FunctionDef _ _ b _ _ _ _ _ _ _=>b
 | _=>[]
noncomputable def Ji(s:Kt):Mg:=match s with
 | .FunctionDef _ _ _ _ _ _ sc _ _ _=>sc
 | _=>{ kind:=.function,names:=[],isGenerator:=false,isCoroutine:=false }
noncomputable abbrev CX0:CXT:=fun _ _ _ _ _ _=>False
noncomputable abbrev E0:XK:=fun _ _ _=>False
def Jop:ZO CX0 X E0:=fun _ _ _ _ _ _ _ h=>h.elim
structure Fun (K:Qz) (x qual:Str) (st:Kt) (f:Qh) (fd:QW):Prop where
 ex:∃(oc:Qe) (od:Option Qh) (kV doc pm:Qe) (an:Option Qh) (cdv ct:Qe) (osl:Array (Option Qe)),
  fd=fnOf x qual (U2 st) (YI st) (Ji st) .none kV doc pm an cdv ct/\K.lookup f=some ⟨oc,od,.func fd,osl⟩/\codeIn K cdv qual=true
 kp:keepIn K (.ref f)=true
section
variable{P:Qy}{w:QP}{K:Qz}{mg:Str->Option Qe}{base:Q2}
def Fun.ok{x qual:Str}{st:Kt}{f:Qh}{fd:QW}{N ps:List Str}{k:Nat}{sp:Sp}(F:Fun K x qual st f fd)(S:FnScope N ps (Ji st))(len:∀vs H Q E,sp vs H Q E->vs.length=ps.length)
 (hbody:∀(cdv:Qe) (A:QM) (outer:List Env) (s:Qg) (H:Hp) (vs:List V) (Q:VK) (E:XK),Room k (A.deeper (envOfC qual (Ji st) s.heap.objs.size f cdv))->sp vs H Q E ->
  ∃t,PSs (WR CX0 P w K mg base N qual (Ji st) f cdv A outer s H E).nox (YI st) t/\t { nx:=fun _ H'=>Q .non H',rt:=Q } (YH N vs) H):FnOk P w K mg base CX0 (k+1) f fd ps sp:=by
 obtain⟨oc,od,kV,doc,pm,an,cdv,ct,osl,rfl,lk,hcd⟩:=F.ex;refine Jn8 lk hcd S len fun A outer s H vs Q E hr hsp=>?_
 obtain⟨t,h,q⟩:=hbody cdv A outer s H vs Q E hr hsp;exact⟨t,h.nox,q⟩
def Fun.binds{x qual:Str}{st:Kt}{f:Qh}{fd:QW}{ps:List Str}(F:Fun K x qual st f fd)
 (h:∀(kV doc pm:Qe) (an:Option Qh) (cdv ct:Qe) (us:List Qe),us.length=ps.length->bindArgs (fnOf x qual (U2 st) (YI st) (Ji st) .none kV doc pm an cdv ct) ⟨us,[]⟩=pure (ps.zip us)):Binds K fd ps []:=by
 obtain⟨oc,od,kV,doc,pm,an,cdv,ct,osl,rfl,lk,hcd⟩:=F.ex;exact .all (h kV doc pm an cdv ct)
def JjE{x qual:Str}{st:Kt}{f:Qh}{oc:Qe}{od an:Option Qh}{osl:Array (Option Qe)}{kV doc pm cdv ct:Qe}(l:K.lookup f=some ⟨oc,od,.func (fnOf x qual (U2 st) (YI st) (Ji st) .none kV doc pm an cdv ct),osl⟩)
 (c:codeIn K cdv qual=true) (k:keepIn K (.ref f)=true):Fun K x qual st f (fnOf x qual (U2 st) (YI st) (Ji st) .none kV doc pm an cdv ct):=⟨⟨oc,od,kV,doc,pm,an,cdv,ct,osl,rfl,l,c⟩,k⟩
end
def JdL(hr:Room k A):A.units+1<cLine:=Kv (Nat.add_le_add_left (by decide:1<=64) _) hr.units
def JiF(h:n<=1000):n<Qr:=Kv h (by decide)
def pv(i:Nat){x:Str}{pos:Pos}(hN:X.N[i]?=some x:=by rfl)(hv:Vis X.env.scope x:=by first | exact Or.inl rfl | exact Or.inr (.inl rfl) | exact Or.inr (.inr rfl))(hd:(x == ("__debug__":Str))=false:=by decide)
 (hcd:(x == ("__classdict__":Str))=false:=by decide):PE X (.Name x pos) (VV i):=Jkl hN hv hd hcd
noncomputable def Same(H H':Hp):Prop:=∀b o,H b=some o->H' b=some o
def Same.refl(H:Hp):Same H H:=fun _ _ h=>h
def Same.trans(a:Same H H1)(b:Same H1 H2):Same H H2:=fun c o h=>b c o (a c o h)
def Same.free(e:Same H H')(h:H' l=Option.none):H l=Option.none:=by
 cases q:H l with
 | none=>rfl
 | some o=>rw[e l o q] at h;cases h
def Same.seq{K:Qz}{H H':Hp}{a:Qh}{xs:List V}(e:Same H H')(h:SqL K H a xs):SqL K H' a xs:=by
 rcases h with (h|⟨o,h⟩)|h
 ·exact .inl (.inl (e _ _ h))
 ·exact .inl (.inr ⟨o,e _ _ h⟩)
 ·exact .inr h
section
variable{κ:Type}[DecidableEq κ]
noncomputable def UX(kvs:List (κ×V))(k:κ):Option V:=(kvs.find? fun kv=>decide (kv.1=k)).map (·.2)
noncomputable def Ve(kvs:List (κ×V))(k:κ)(v:V):List (κ×V) :=
 if (kvs.any fun kv=>decide (kv.1=k))=true then kvs.map (fun kv=>if kv.1=k then(kv.1,v) else kv) else kvs++[(k,v)]
def WL{p:κ×V}{r:List (κ×V)}{k:κ}(e:p.1=k):UX (p::r) k=some p.2:=by simp[UX,LF,e]
def WK{p:κ×V}{r:List (κ×V)}{k:κ}(e:¬p.1=k):UX (p::r) k=UX r k:=by simp[UX,LF,e]
theorem JaS(k:κ):∀kvs:List (κ×V),(kvs.any fun kv=>decide (kv.1=k))=(UX kvs k).isSome
 | []=>rfl
 | p::r=>by
  rw[G7]
  by_cases e:p.1=k
  ·simp only[WL e,decide_eq_true e,RF,Option.isSome_some]
  ·rw[WK e,decide_eq_false e,G8];exact JaS k r
def Vo(kvs:List (κ×V))(k:κ)(v:V):(Ve kvs k v).length<=kvs.length+1:=by
 unfold Ve;split
 ·rw[Qp];omega
 ·rw[QA,Qv,KB];omega
def Jku{kvs:List (κ×V)}{k:κ}(v:V)(h:UX kvs k=none):Ve kvs k v=kvs++[(k,v)]:=by unfold Ve;rw[JaS,h];exact if_neg (by decide)
def RelO.isSome_eq(r:RelO o u):o.isSome=u.isSome:=by
 cases o with
 | none=>cases u with
  | none=>rfl
  | some _=>exact(show False from r).elim
 | some _=>cases u with
  | none=>exact(show False from r).elim
  | some _=>rfl
def RelO.getD(r:RelO o u)(rd:RelV d d'):RelV (o.getD d) (u.getD d'):=by
 cases o with
 | none=>cases u with
  | none=>exact rd
  | some _=>exact(show False from r).elim
 | some _=>cases u with
  | none=>exact(show False from r).elim
  | some _=>exact r
def KV.val{kvs:List (κ×V)}{vs:List (κ×Qe)}(r:KV kvs vs)(k:κ):RelO (UX kvs k) (valueAt vs k):=by
 unfold KV at r
 induction r with
 | nil=>exact True.intro
 | @cons p q ps qs h t ih =>
  obtain⟨h1,h2⟩:=h
  by_cases e:p.1=k
  ·have e':q.1=k:=h1.symm.trans e
   have b:valueAt (q::qs) k=some q.2:=by simp[valueAt,LF,e']
   rw[WL e,b];exact h2
  ·have e':¬q.1=k:=fun z=>e (h1.trans z)
   have b:valueAt (q::qs) k=valueAt qs k:=by simp[valueAt,LF,e']
   rw[WK e,b];exact ih
def KV.any{kvs:List (κ×V)}{vs:List (κ×Qe)}(r:KV kvs vs)(k:κ):(kvs.any fun kv=>decide (kv.1=k))=vs.any fun kv=>decide (kv.1=k):=by
 unfold KV at r
 induction r with
 | nil=>rfl
 | cons h t ih=>rw[G7,G7,ih,h.1]
def KV.repl{kvs:List (κ×V)}{vs:List (κ×Qe)}(r:KV kvs vs)(k:κ){y:V}{u:Qe}(ry:RelV y u) :
 KV (kvs.map fun kv=>if kv.1=k then(kv.1,y) else kv) (vs.map fun kv=>if kv.1=k then(kv.1,u) else kv):=by
 unfold KV at r ⊢
 induction r with
 | nil=>exact .nil
 | @cons p q ps qs h t ih =>
  rw[Qd,Qd];refine .cons ?_ ih;obtain⟨h1,h2⟩:=h
  by_cases e:p.1=k
  ·rw[if_pos e,if_pos (h1.symm.trans e)];exact⟨h1,ry⟩
  ·rw[if_neg e,if_neg (fun z=>e (h1.trans z))];exact⟨h1,h2⟩
def KV.put{kvs:List (κ×V)}{vs:List (κ×Qe)}(r:KV kvs vs)(k:κ){y:V}{u:Qe}(ry:RelV y u):KV (Ve kvs k y) (stored vs k u):=by
 unfold Ve stored;rw[r.any k]
 by_cases e:(vs.any fun kv=>decide (kv.1=k))=true
 ·rw[if_pos e,if_pos e];exact r.repl k ry
 ·rw[if_neg e,if_neg e];exact Paired.snoc r ⟨rfl,ry⟩
def KV.length{kvs:List (κ×V)}{vs:List (κ×Qe)}(r:KV kvs vs):kvs.length=vs.length:=Rg r
end
def JdW(r:RelV (kV k) u):(JE P w).is k u=true:=by
 cases k with
 | inl i=>obtain⟨t,e⟩:=(show ∃t,u=Value.int i t from r);subst e;exact Jd7 P w i t
 | inr x=>obtain⟨t,e⟩:=(show ∃t,u=Value.str x t from r);subst e;exact Jd8 P w x t
theorem JbC:∀{ks:List Key} {us:List Qe},Vals (ks.map kV) us->ItemsAre (JE P w) ks us
 | [],_,r=>by rw[LA] at r;cases r;exact .nil
 | k::ks,_,r=>by
  rw[Qd] at r
  cases r with
  | cons h t=>exact .cons (JdW h) (JbC t)
noncomputable abbrev KT(H:Hp):List (List Key×V)->List (List Key×Qh×Qe)->Prop:=Paired fun p q=>p.1=q.1/\H q.2.1=some (.tup (p.1.map kV))/\RelV p.2 q.2.2
def KT.val(r:KT H kvs xs)(k:List Key):RelO (UX kvs k) ((atKey xs k).map (·.2)):=by
 induction r with
 | nil=>exact True.intro
 | @cons p q ps qs h t ih =>
  obtain⟨h1,_,h2⟩:=h
  by_cases e:p.1=k
  ·have e':q.1=k:=h1.symm.trans e
   have b:atKey (q::qs) k=some q.2:=by simp[atKey,LF,e']
   rw[WL e,b];exact h2
  ·have e':¬q.1=k:=fun z=>e (h1.trans z)
   have b:atKey (q::qs) k=atKey qs k:=by simp[atKey,LF,e']
   rw[WK e,b];exact ih
def KT.repl(r:KT H kvs xs)(k:List Key)(ry:RelV y u):
 KT H (kvs.map fun kv=>if kv.1=k then(kv.1,y) else kv) (xs.map (putAt k u)):=by
 induction r with
 | nil=>exact .nil
 | @cons p q ps qs h t ih =>
  rw[Qd,Qd];refine .cons ?_ ih;obtain⟨h1,h2,h3⟩:=h;unfold putAt
  by_cases e:p.1=k
  ·rw[if_pos e,if_pos (h1.symm.trans e)];exact⟨h1,h2,ry⟩
  ·rw[if_neg e,if_neg (fun z=>e (h1.trans z))];exact⟨h1,h2,h3⟩
def KT.put(r:KT H kvs xs)(k:List Key)(hb:H b=some (.tup (k.map kV)))(ry:RelV y u):
 KT H (Ve kvs k y) (storedH xs k b u):=by
 have e:(kvs.any fun kv=>decide (kv.1=k))=(atKey xs k).isSome:=by rw[JaS,(r.val k).isSome_eq,Option.isSome_map]
 unfold Ve storedH;rw[e]
 by_cases q:(atKey xs k).isSome=true
 ·rw[if_pos q,if_pos q];exact r.repl k ry
 ·rw[if_neg q,if_neg q];exact Paired.snoc r ⟨rfl,hb,ry⟩
def KT.keeps(r:KT H kvs xs)(ht:∀b ys,H b=some (.tup ys)->H' b=some (.tup ys)):KT H' kvs xs :=
 Paired.mapP r fun _ _ z=>⟨z.1,ht _ _ z.2.1,z.2.2⟩
def Jot(ok:HOk P w H h)(e:Rd H a u):ObjOk P w H h a u:=e.ok ok
def Jdv(ok:HOk P w H h)(e:Rd H a (.dK kvs)):kvs.length<=Qr/\(a == sysModules)=false/\∃vs,KV kvs vs/\h.DictOf (JE P w) a vs :=
 show ObjOk P w H h a (.dK kvs) from Jot ok e
def Jn3(ok:HOk P w H h)(e:H a=some (.dK kvs)):kvs.length<=Qr/\(a == sysModules)=false/\∃vs,KV kvs vs/\h.DictOf (JE P w) a vs:=Jdv ok (.inl e)
def Jcy(ok:HOk P w H h)(e:H a=some (.tup (ks.map kV))):(tupleKind (JE P w)).is h ks a:=by
 obtain⟨_,its,r,o,h1,h2,n,h3⟩:=(show ObjOk P w H h a (.tup (ks.map kV)) from ok a _ e)
 exact⟨o,its.toArray,n,h1,h2,h3,by simpa using JbC r⟩
def Jdw(ok:HOk P w H h)(e:Rd H a (.dT kvs)):kvs.length<=Qr/\(a == sysModules)=false ∧
 ∃xs,KT H kvs xs/\h.DictOfH (tupleKind (JE P w)) a xs:=by
 obtain⟨z,y,xs,r,o,es,ep,h1,h2,h3,h4,h5⟩:=(show ObjOk P w H h a (.dT kvs) from Jot ok e)
 refine⟨z,y,xs,r,o,es,ep,h1,h2,h3,h4,fun x hx=>?_,h5⟩
 have all:∀{l:List (List Key×V)} {m:List (List Key×Qh×Qe)},KT H l m->∀x∈m,(tupleKind (JE P w)).is h x.1 x.2.1:=by
  intro l m q
  induction q with
  | nil=>intro x hx;exact nomatch hx
  | @cons p q ps qs hq t ih =>
   intro x hx;rcases Qk.mp hx with e|hx
   ·subst e;exact Jcy ok (by rw[<- hq.1];exact hq.2.1)
   ·exact ih x hx
 exact all r x hx
def Jrf(ok:HOk P w H h)(e:H a=some (.dT kvs)):kvs.length<=Qr/\(a == sysModules)=false ∧
 ∃xs,KT H kvs xs/\h.DictOfH (tupleKind (JE P w)) a xs:=Jdw ok (.inl e)
noncomputable def JhH(H:Hp)(a:Qh)(y:V)(r:Option V):Prop :=
 (∃kvs k,Rd H a (.dK kvs)/\y=kV k/\r=UX kvs k)\/∃kvs k b,Rd H a (.dT kvs)/\y=.ref b/\H b=some (.tup (k.map kV))/\r=UX kvs k
noncomputable def Jq0(H:Hp)(a:Qh)(y v:V)(H':Hp):Prop :=
 (∃kvs k,H a=some (.dK kvs)/\y=kV k/\kvs.length<Qr/\H'=upd H a (.dK (Ve kvs k v))) ∨
 ∃kvs k b,H a=some (.dT kvs)/\y=.ref b/\H b=some (.tup (k.map kV))/\kvs.length<Qr/\H'=upd H a (.dT (Ve kvs k v))
def Inv.big(I:Inv X pins σ H s):sysModules<s.heap.objs.size:=by have h:mainGlobals<s.heap.objs.size:=(I.mod.glob.keeps I.bk).lt;exact Ke (by decide) h
def JhW(hu:A.units+1<cLine)(I:Inv X pins σ H s)(g:JhH H a y (some v))(ry:RelV y u)(h:∀w' s',Inv X pins σ H s'->RelV v w'->Q w' s'):
 wpAny (model X.prog X.w) A (getItem (.ref a) u) Q E s:=by
 rcases g with ⟨kvs,k,e,ey,l⟩|⟨kvs,k,b,e,ey,eb,l⟩
 ·subst ey;obtain⟨z,hd,vs,rel,dd⟩:=Jdv I.hok e;obtain⟨w',hw,rw'⟩:=RelO.some_of (v:=v) (o:=valueAt vs k) (by rw[l];exact rel.val k);exact wpAny_getItem_of (JdW ry) dd.mapOf hw (h w' _ (I.tok _) rw')
 ·subst ey;cases (show u=Value.ref b from ry);obtain⟨z,hd,xs,rel,dd⟩:=Jdw I.hok e;obtain⟨w',hw,rw'⟩:=RelO.some_of (v:=v) (o:=(atKey xs k).map (·.2)) (by rw[l];exact rel.val k);obtain⟨p,hp,hp2⟩:=Q0.mp hw;refine wpAny_getItem_heap (tupleKind_room_in1 hu) (Jcy I.hok eb) dd hp ?_;rw[hp2];exact h w' _ (I.tok _) rw'
def Jcb(I:Inv X pins σ H s)(mu:Mut (H a))(hs:QK a s.heap h')(he:∃q,h'.get? a=some q)(new:ObjOk X.prog X.w (upd H a ob) h' a ob):
 Inv X pins σ (upd H a ob) { s with heap:=h',toks:=t' } :=
 I.write (x:=a) (e:=a) mu (.inl rfl) (fun b q hb z=>(hs.2 b hb).trans z) he new
def Jjh(z:kvs.length<=Qr)(hd:(a == sysModules)=false)(rel:KV kvs vs)(dd:h'.DictOf (JE P w) a vs):
 ObjOk P w H' h' a (.dK kvs):=⟨z,hd,vs,rel,dd⟩
def JhX(hu:A.units+1<cLine)(I:Inv X pins σ H s)(g:Jq0 H a y v H')(ry:RelV y u)(rv:RelV v r)(h:∀s',Inv X pins σ H' s'->Q () s'):
 wpAny (model X.prog X.w) A (setItem (.ref a) u r) Q E s:=by
 rcases g with ⟨kvs,k,e,ey,l,eH⟩|⟨kvs,k,b,e,ey,eb,l,eH⟩
 ·subst ey eH;obtain⟨z,hd,vs,rel,dd⟩:=Jn3 I.hok e;have hz:vs.length<=Qr:=by rw[<- rel.length];exact z
  have hl:(Ve kvs k v).length<=Qr:=by have:=Vo kvs k v;omega
  refine wpAny_setItem_pairs (hsz:=hz) (JdW ry) dd fun h' dd' hs=>h _ ?_
  have he:∃q,h'.get? a=some q:=let ⟨q,_,_,hq,_⟩:=dd';⟨q,hq⟩
  exact Jcb I (by rw[e];exact True.intro) hs he (Jjh hl hd (rel.put k rv) dd')
 ·subst ey eH;cases (show u=Value.ref b from ry);obtain⟨z,hd,xs,rel,dd⟩:=Jrf I.hok e;have hz:xs.length<=Qr:=by rw[<- Rg rel];exact z
  have hl:(Ve kvs k v).length<=Qr:=by have:=Vo kvs k v;omega
  refine wpAny_setItem_heap (hsz:=hz) (tupleKind_room_in1 hu) (Jcy I.hok eb) dd fun h' dd' hs=>h _ ?_
  obtain⟨q,es,ep,hq,h2,h3,h4,_,h5⟩:=dd';refine Jcb I (by rw[e];exact True.intro) hs ⟨q,hq⟩ ⟨hl,hd,_,(rel.put k eb rv).keeps fun c ys ec=>?_,q,es,ep,hq,h2,h3,h4,h5⟩;rw[Je (JbL ec e (fun z=>nomatch z))];exact ec
noncomputable def Jq3(i:Gu):Prop:=∀ov iv,subscripted i false ov iv=operate [ov,iv] (getItem ov iv)
def JnJ{prog:Qy}{w:QP}{A:QM}{E:Qe->Qg->Prop}{s:Qg}{env:Env}{value slice:Gu}{pos:Pos}{T id:String}{Q:Qe->Qg->Prop}
 (hl:typeLookup (.type T) "__getitem__"=pure (some (.builtin id))) (hs:Jq3 slice)
 (h:wpAny (model prog w) A (eval value env) (fun o s₁=>wpAny (model prog w) A (eval slice env) (fun i s₂=>s₂.TypeIs o T/\wpAny (model prog w) A (getItem o i) Q E s₂) E s₁) E s) :
 wpAny (model prog w) A (eval (.Subscript value slice pos) env) Q E s:=by
 refine Subscript_ (KF h (fun o s₁ h₁=>KF h₁ (fun i s₂ h₂=>?_) fun _ _ x=>x) fun _ _ x=>x);obtain⟨hT,h₂⟩:=h₂;unfold subscriptTail;refine Qa ?_;rw[getitemInPython_of_ne hT.not_modules];refine Qa (Lc hT hl ?_)
 have fin:wpAny (model prog w) A (subscripted slice false o i) (fun r s₃=>wpAny (model prog w) A (letTemporaryGo value o r >>= fun _=>pure r) Q E s₃) E s₂:=by rw[hs o i];exact wpAny_operating (KF h₂ (fun r s₃ h₃=>Qa (wpAny_letTemporaryGo (Qj h₃))) fun _ _ x=>x)
 first
  | exact Qj (Qa fin)
  | exact Qa (Qj (Qa fin))
  | exact Qa fin
def Jdu{X:Cx}{pins:List (Qh×Obj)}{σ:St}{H:Hp}{s:Qg}{a:Qh}{y:V}{o:Option V}(I:Inv X pins σ H s)(g:JhH H a y o):s.TypeIs (.ref a) "dict":=by
 rcases g with ⟨kvs,k,e,_,_⟩|⟨kvs,k,b,e,_,_,_⟩
 ·obtain⟨_,_,vs,_,dd⟩:=Jdv I.hok e;exact dd.typeIs
 ·obtain⟨_,_,xs,_,dd⟩:=Jdw I.hok e;exact dd.typeIs
noncomputable def Joy(td ty:TE):TE:=fun σ H Q=>td σ H fun x H1=>ty σ H1 fun y H2=>∃a v,x=.ref a/\JhH H2 a y (some v)/\Q v H2
noncomputable def Jou(td ty tv:TE):TS:=fun D σ H=>tv σ H fun v H1=>td σ H1 fun x H2=>ty σ H2 fun y H3=>∃a H4,x=.ref a/\Jq0 H3 a y v H4/\D.nx σ H4
def JmW(hu:X.A.units+1<cLine)(ho:PE X o td)(hi:PE X i ty)(hs:Jq3 i):PE X (.Subscript o i pos) (Joy td ty):=by intro pins s σ H Q I h;refine JnJ PySem.F.slot_dict_getitem.lookup hs (thn (ho pins s σ H _ I h) fun u s1 ⟨x,H1,I1,rx,q1⟩=>thn (hi pins s1 σ H1 _ I1 q1) fun iv s2 ⟨y,H2,I2,ry,a,v,ex,g,q2⟩=>?_);subst ex;obtain rfl:u=Value.ref a:=rx;exact⟨Jdu I2 g,JhW hu I2 g ry fun w' s3 I3 rw'=>⟨v,H2,I3,rw',q2⟩⟩
def Jhd(hu:X.A.units+1<cLine)(ho:PE X o td)(hi:PE X i ty)(hv:PE X value tv)(hs:swapsWith value (some (.Subscript o i pos')) pos.line X.env=pure false) :
 PS X (.Assign [.Subscript o i pos'] value pos) (Jou td ty tv):=by
 intro pins s σ H D I h;refine wpAny_Assign_Subscript (thn (hv pins s σ H _ I h) fun r s1 ⟨v,H1,I1,rv,q1⟩=>thn (ho pins s1 σ H1 _ I1 q1) fun u s2 ⟨x,H2,I2,rx,q2⟩=>thn (hi pins s2 σ H2 _ I2 q2) fun iv s3 ⟨y,H3,I3,ry,a,H4,ex,g,q3⟩=>?_) hs;subst ex;obtain rfl:u=Value.ref a:=rx;exact JhX hu I3 g ry rv fun s4 I4=>⟨σ,H4,I4,q3⟩
def Jjg(h:Q2)(hb:sysModules<h.objs.size):ObjOk P w H (h.push { cls:=.type "dict",data:=.dict #[] }) h.objs.size (.dK []) :=
 ⟨GL _,beq_eq_false_iff_ne.mpr (Q3 (QF hb)),[],.nil,Heap.DictOf.new h⟩
noncomputable def Jk1:TE:=fun _ H Q=>∀p,H p=none->Q (.ref p) (upd H p (.dK []))
def Jay:PE X (.Dict [] [] pos) Jk1:=fun pins s σ H Q I h=>wpAny_Dict_empty ⟨.ref s.heap.objs.size,_,I.laid (a:=s.heap.objs.size) (o:=.dK []) (t':=s.toks) (fun _ _ q=>Qi _ q) (Qu _) (Jjg s.heap I.big),rfl,h _ (I.hok.fresh (Qu _))⟩
structure M2 (X:Cx) (o:Gu) (m:Str) (apos:Pos) (e f:Gu) (cpos:Pos):Prop where
 base:attributeBase o m X.env (eval o X.env)=eval o X.env
 few:((backTo cpos (starEach [e,f] X.env)).all (fun x=>!x.1) && (backToKw cpos (keywordEach [] X.env)).all (fun x=>x.1.isSome)
  && decide (([e,f]:List Gu).length+([]:List Xe).length+(if ([]:List Xe).isEmpty then 0 else 1)<30))=true
 line:(apos.endLine == cpos.line)=true
 trees:backTo cpos (starEach [e,f] X.env)=[(false,eval e X.env),(false,eval f X.env)]
noncomputable def IsD(H:Hp)(a:Qh):Prop:=(∃kvs,Rd H a (.dK kvs))\/∃kvs,Rd H a (.dT kvs)
def Jcx{X:Cx}{pins:List (Qh×Obj)}{σ:St}{H:Hp}{s:Qg}{a:Qh}(I:Inv X pins σ H s)(d:IsD H a) :
 s.TypeIs (.ref a) "dict"/\(∀b,Value.ref a=.ref b->∃ob,s.heap.get? b=some ob/\ob.dict=none)/\(a == sysModules)=false:=by
 rcases d with ⟨kvs,e⟩|⟨kvs,e⟩
 ·obtain⟨_,hd,vs,_,dd⟩:=Jdv I.hok e;refine⟨dd.typeIs,fun b q=>?_,hd⟩;cases q;obtain⟨ob,_,_,h1,h2,_⟩:=dd;exact⟨ob,h1,h2.2.1⟩
 ·obtain⟨_,hd,xs,_,dd⟩:=Jdw I.hok e;refine⟨dd.typeIs,fun b q=>?_,hd⟩;cases q;obtain⟨ob,_,_,h1,h2,_⟩:=dd;exact⟨ob,h1,h2.2.1⟩
def JoQ(hu:A.units+1<cLine)(I:Inv X pins σ H s)(g:JhH H a y o)(ry:RelV y u)(rd:RelV d r)(h:∀w' s',Inv X pins σ H s'->RelV (o.getD d) w'->Q w' s'):
 wpAny (model X.prog X.w) A (call (.builtin "dict.get") [.ref a,u,r]) Q E s:=by
 rcases g with ⟨kvs,k,e,ey,l⟩|⟨kvs,k,b,e,ey,eb,l⟩
 ·subst ey;obtain⟨z,hd,vs,rel,dd⟩:=Jdv I.hok e;refine call_meetsIn Mx dd.typeIs RG (Rq _ _ _) (meets_dict_get_default (JE X.prog X.w) a (JdW ry) hd r) ⟨_,dd.mapOf,h _ _ (I.tok _) ?_⟩;rw[l];exact(rel.val k).getD rd
 ·subst ey;cases (show u=Value.ref b from ry);obtain⟨z,hd,xs,rel,dd⟩:=Jdw I.hok e;refine call_meetsIn Mx dd.typeIs RG (Rq _ _ _) (meetsH_dict_get_default (tupleKind (JE X.prog X.w)) a b hd r) ⟨tupleKind_room_in1 hu,k,xs,Jcy I.hok eb,dd,h _ _ (I.tok _) ?_⟩;rw[l];exact(rel.val k).getD rd
noncomputable def Jk0(td ty tx:TE):TE:=fun σ H Q=>td σ H fun x H1=>∃a,x=.ref a/\IsD H1 a/\ty σ H1 fun y H2=>tx σ H2 fun z H3=>∃o,JhH H3 a y o/\Q (o.getD z) H3
def Jek(hu:X.A.units+1<cLine)(ho:PE X o td)(he:PE X e ty)(hf:PE X f tx)(m:M2 X o "get" apos e f cpos):PE X (.Call (.Attribute o "get" apos) [e,f] [] cpos) (Jk0 td ty tx):=by
 intro pins s σ H Q I h;refine wpAny_Call_method m.base m.few m.line Lo Mx PySem.F.type_dict_get (thn (ho pins s σ H _ I h) fun u s1 ⟨x,H1,I1,rx,a,ex,d,q1⟩=>?_);subst ex;obtain rfl:u=Value.ref a:=rx;obtain⟨t1,t2,_⟩:=Jcx I1 d;refine⟨t1,t2,?_⟩;rw[m.trees];refine Ky rfl (ME (K3 (thn (he pins s1 σ H1 _ I1 q1) fun iv s2 ⟨y,H2,I2,ry,q2⟩=>K3 (thn (hf pins s2 σ H2 _ I2 q2) fun fv s3 ⟨z,H3,I3,rz,ov,g,q3⟩=>Mn ?_))))
 exact JoQ hu I3 g ry rz fun w' s4 I4 rw'=>⟨_,H3,I4,rw',q3⟩
noncomputable def JiP(X:Cx)(ifs:List Gu)(t:TT):Prop :=
 ∀(pins:List (Qh×Obj)) (s:Qg) (σ:St) (H:Hp) (Q:Bool->Hp->Prop),Inv X pins σ H s->t σ H Q ->
  wpAny (model X.prog X.w) X.A (forIn ifs true fun c r=>if r=true then do let ok <- isTrue c X.env (eval c X.env);pure (ForInStep.yield ok) else pure (ForInStep.yield r)) (TP X pins σ Q) X.xe s
noncomputable def JqL:TT:=fun _ H Q=>Q true H
def JT:JiP X [] JqL:=fun _ _ _ H _ I h=>wpAny_tests_nil ⟨H,I,h⟩
def Jep(h:PT X c t):JiP X [c] t:=fun pins s σ H Q I q=>wpAny_tests_one (h pins s σ H Q I q)
noncomputable def blk(X:Cx)(sc:Mg)(cl:List (Str×Qh))(N':List Str)(C:Qh)(s:Qg)(H:Hp)(fp:List Qh):Cx where
 prog:=X.prog
 w:=X.w
 K:=X.K
 mg:=X.mg
 base:=X.base
 A:=X.A
 N:=N'
 s₀:=s
 H₀:=H
 env:=compEnvC sc cl C X.env
 outer:=X.stack
 stack:=X.stack
 ex:=fp
 fn:=fun _=>false
 calm:=X.calm
 pn:=[]
 xe:=fun _ _=>False
noncomputable def Jad(imp:List (Option Nat))(σ:St):St:=imp.map fun o=>match o with
 | none=>none
 | some k=>(σ[k]?).join
structure Blk (X:Cx) (sc:Mg) (cl:List (Str×Qh)) (N':List Str) (imp:List (Option Nat)):Prop where
 clos:closureFor sc X.env=pure cl
 kind:sc.kind=.function
 nocell:∀y∈sc.names,y.2≠.cell
 names:∀y∈sc.names,y.2=.local->sc.names.lookup y.1=some .local
 sub:∀p∈cl,X.env.cells.lookup p.1=some p.2
 has:∀y∈(relabel sc X.env).names,(y.2=.cell\/y.2=.free)->(cl.lookup y.1).isSome=true
 len:imp.length=N'.length
 im:∀p∈imp.zip N',∀k,p.1=some k->X.N[k]?=some p.2/\(X.env.scope.names.lookup p.2=some .cell\/X.env.scope.names.lookup p.2=some .free)/\((relabel sc X.env).names.lookup p.2=some .cell\/(relabel sc X.env).names.lookup p.2=some .free)
noncomputable def Jhz(wi:TI)(g:TG)(tt:TT)(te:TE)(imp:List (Option Nat)):TE:=fun σ H Q=>wi σ H fun J H1=>∃W:Nat->Nat->List V->St->Hp->Prop,(∃m,W 0 m [] (Jad imp σ) H1)/\∀i m ys σ' H',W i m ys σ' H' ->
 (J.stop i H'/\ys.length<=Qr/\∀D,H' D=none->Q (.ref D) (upd H' D (.lst ys))) ∨
 (J.go i H'/\ys.length<Qr/\∃N:List V->St->Hp->Prop,(∀ys' σ2 H2,N ys' σ2 H2->∃m',m'<m/\W (i+1) m' ys' σ2 H2) ∧
  ∀x H2,J.yld i H' x H2->g x σ' H2 fun σ2 H3=>tt σ2 H3 fun b H4=>if b=true then te σ2 H4 fun y H5=>N (ys++[y]) σ2 H5 else N ys σ2 H4)
def HOk.sameBut{C:Qh}(x:HOk P w H h)(hC:H C=none)(k:∀b o,b≠C->h.get? b=some o->h'.get? b=some o):HOk P w H h':=fun a o e =>
 (x a o e).stay (fun b u hb q=>k b u (by
  rintro rfl;rcases hb with z|z
  ·rw[<- z,hC] at e;cases e
  ·rw[hC] at z;cases z) q) (fun _ q=>q) fun _ _ q=>q
def HOk.track(x:HOk P w H h)(hD:H D=none)(new:ObjOk P w (upd H D o) h D o):HOk P w (upd H D o) h:=fun b u e=>by
 by_cases hb:b=D
 ·subst hb;rw[Jl] at e;cases e;exact new
 ·rw[Je hb] at e;exact(x b u e).stay (fun c v _ q=>q) (fun c q=>by rw[Je (Jn q hD)];exact q) fun c xs q=>by rw[Je (Jn q hD)];exact q
def V5{α:Type}{c:α}:∀{l:List (Str×α)},l.lookup x=some c->(x,c)∈l:=fun h=>KU h
def Blk.subL(B:Blk X sc cl N' imp):∀x c,cl.lookup x=some c->X.env.cells.lookup x=some c:=fun x c e=>B.sub (x,c) (V5 e)
def JlD{pins:List (Qh×Obj)}{σ:St}{H:Hp}{s:Qg}{fp:List Qh}{h₁:Q2}{C:Qh}(B:Blk X sc cl N' imp)(I:Inv X pins σ H s)(hf:∀b∈fp,FpOk X pins H b)(hfo:∀b∈fp,∃o,s.heap.get? b=some o)
 (hC:s.heap.objs.size<C) (old:∀b o,s.heap.get? b=some o->h₁.get? b=some o) (ns:h₁.Ns C fun _=>none) :
 Inv (blk X sc cl N' C s H fp) [] (Jad imp σ) H { s with heap:=h₁,toks:=s.toks }:=by
 have hlt:∀b∈fp,b<s.heap.objs.size:=fun b hb=>let ⟨_,e⟩:=hfo b hb;Qn e
 have clt:∀x c,X.env.cells.lookup x=some c->c<s.heap.objs.size:=fun x c e=>let ⟨_,q⟩:=I.cell x c e;q.lt
 have ok:(blk X sc cl N' C s H fp).Ok:={
  mod:=I.ok.mod
  kind:=B.kind
  glob:=I.ok.glob
  blt:=I.ok.blt
  above:=GW hC
  inj:=fun x y c h1 h2=>I.ok.inj x y c (B.subL x c h1) (B.subL y c h2)
  has:=fun x hx=>by
   have hx':(relabel sc X.env).names.lookup x=some .cell\/(relabel sc X.env).names.lookup x=some .free:=hx
   have:(cl.lookup x).isSome=true:=by
    rcases hx' with z|z
    ·exact B.has (x,.cell) (V5 z) (.inl rfl)
    ·exact B.has (x,.free) (V5 z) (.inr rfl)
   exact Rh.mp this
  cab:=fun x c z=>nomatch z
  hd:=I.ok.hd
  frames:=I.ok.frames
  stk:=.inl rfl
  exf:=fun b hb=>⟨QF (Ke (hlt b hb) hC),fun x c e=>(hf b hb).2.2.2.2.1 x c (B.subL x c e)⟩
  bs:=I.bs
  bsz:=Gm I.ok.bsz I.sz
  noex:=fun b o e hb=>by
   rcases(hf b hb).2.2.2.1 with z|z
   ·exact I.ok.noex b o e z
   ·exact absurd (Q4 (Qn e) (Gm I.ok.bsz z)) (Gh _)
  exfs:=fun b hb z=>by
   rcases Qk.mp (I.stkSub b z) with q|q
   ·exact(hf b hb).2.1 q
   ·exact(hf b hb).2.2.1 q
  funs:=I.stack
  frf:=I.stkFree }
 refine⟨ok,rfl,I.bare,Un.kept old,⟨_,ns,fun i x v h1 h2 h3=>?_⟩,fun x c e=>?_,I.hok.fresh (GW hC),fun x c e=>I.freeC x c (B.subL x c e),fun p hp=>absurd (show p∈([]:List (Qh×Obj)) from hp) (by simp),I.hok.kept old,?_⟩
 ·have h1':N'[i]?=some x:=h1
  have h2':(imp.map fun o=>match o with|none=>none|some k=>(σ[k]?).join)[i]?=some (some v):=h2;rw[Qq] at h2'
  cases e:imp[i]? with
  | none=>rw[e] at h2';cases h2'
  | some q =>
   rw[e] at h2'
   cases q with
   | none=>cases h2'
   | some k =>
    have h2'':(σ[k]?).join=some v:=QS h2'
    have hk:σ[k]?=some (some v):=by
     cases e':σ[k]? with
     | none=>rw[e'] at h2'';cases h2''
     | some z=>rw[e'] at h2'';cases z with
      | none=>cases h2''
      | some z=>cases h2'';rfl
    have hm:(some k,x)∈imp.zip N':=by refine QI (i:=i) ?_;rw[M3];exact⟨e,h1'⟩
    obtain⟨b1,b2,b3⟩:=B.im _ hm k rfl;obtain⟨m,hn,hl⟩:=I.loc;obtain⟨u,r,l⟩:=hl k x v b1 hk (b2.elim (fun z=>.inr (.inl z)) fun z=>.inr (.inr z));refine⟨u,r,.inr ⟨b3,?_⟩⟩
    have hc:∃c,X.env.cells.lookup x=some c/\s.heap.IsCell c (some u):=by
     rcases l with ⟨z,_⟩|⟨_,z⟩
     ·have z':X.env.scope.names.lookup x=some .local:=z;rcases b2 with y|y <;> rw[y] at z' <;> cases z'
     ·exact z
    obtain⟨c,hc,oc,ho,hd⟩:=hc;obtain⟨c',hc'⟩:=ok.has x b3;have e2:=B.subL x c' hc';rw[hc] at e2;cases e2;exact⟨c,hc',oc,old c oc ho,hd⟩
 ·obtain⟨v,o,ho,hd⟩:=I.cell x c (B.subL x c e);exact⟨v,o,old c o ho,hd⟩
 ·show(imp.map _).length=N'.length;rw[Qp];exact B.len
def JlC{pins pn:List (Qh×Obj)}{σ σ':St}{H2 H':Hp}{s2 s4:Qg}{fp:List Qh}{C D:Qh}{Cs:Qh}{ys:List V}{its:List Qe}{k:Nat}{h':Q2}(I2:Inv X pins σ H2 s2)(f2:∀b∈fp,FpOk X pins H2 b)
 (I5:Inv (blk X sc cl N' C s2 H2 fp) pn σ' H' s4) (hC:s2.heap.objs.size<C) (hD:H' D=none) (hDs:s2.heap.objs.size<=D) (hDC:D≠C) (eD:s4.heap.get? D=some { cls:=.type "list",data:=.seq its.toArray k })
 (rv:Vals ys its) (hz:ys.length<=Qr) (hsb:QK C s4.heap h'):Inv X pins σ (upd H' D (.lst ys)) { s4 with heap:=h' }:=by
 have U:Un (frs X.stack) fp H2 H' s2.heap s4.heap:=I5.base
 have kk:∀b o,b≠C->s4.heap.get? b=some o->h'.get? b=some o:=hsb.extBut
 have hC':H' C=none:=I5.free
 have ok1:HOk X.prog X.w H' h':=HOk.sameBut (C:=C) I5.hok hC' kk
 have ok2:HOk X.prog X.w (upd H' D (.lst ys)) h':=ok1.track hD ⟨hz,its,k,rv,kk _ _ hDC eD⟩
 have lt:∀b o,s2.heap.get? b=some o->b≠C/\b≠D:=fun b o e=>⟨QF (Ke (Qn e) hC),QF (Q4 (Qn e) hDs)⟩
 refine I2.call' (s':={ s4 with heap:=h' }) (ch:=fp) I5.os ⟨fun b o e n hb hx=>kk b o (lt b o e).1 (U.keep b o e n hb hx),fun b o e n hb hx=>?_,fun b o e n hx=>?_,fun b o e hx=>?_,fun b xs e=>?_,fun b o u e=>?_,fun b ps l c z e=>?_⟩ ok2 I5.bare
  fun b hb=>⟨(f2 b hb).2.2.2.1,(f2 b hb).2.1,(f2 b hb).2.2.2.2.1,(f2 b hb).2.2.2.2.2⟩
 ·obtain⟨sl,q⟩:=U.slot b o e n hb hx;exact⟨sl,kk b _ (lt b o e).1 q⟩
 ·rw[Je (lt b o e).2];exact U.free b o e n hx
 ·obtain⟨o',q⟩:=U.there b o e hx;exact⟨o',kk b o' (lt b o e).1 q⟩
 ·have q:=U.tups b xs e;rw[Je (Jn q hD)];exact q
 ·have q:=U.frzs b o u e;rw[Je (Jn q hD)];exact q
 ·have q:=U.tbls b ps l c z e;rw[Je (Jn q hD)];exact q
noncomputable def JqZ(g:TG)(tt:TT)(te:TE)(imp:List (Option Nat))(σ:St)(Q:VK)(J:It)(H1:Hp):Prop:=∃W:Nat->Nat->List V->St->Hp->Prop,(∃m,W 0 m [] (Jad imp σ) H1)/\∀i m ys σ' H',W i m ys σ' H' ->
 (J.stop i H'/\ys.length<=Qr/\∀D,H' D=none->Q (.ref D) (upd H' D (.lst ys))) ∨
 (J.go i H'/\ys.length<Qr/\∃N:List V->St->Hp->Prop,(∀ys' σ2 H2,N ys' σ2 H2->∃m',m'<m/\W (i+1) m' ys' σ2 H2) ∧
  ∀x H2,J.yld i H' x H2->g x σ' H2 fun σ2 H3=>tt σ2 H3 fun b H4=>if b=true then te σ2 H4 fun y H5=>N (ys++[y]) σ2 H5 else N ys σ2 H4)
def Jbq{pins:List (Qh×Obj)}{σ:St}{Q:VK}{itv:Qe}{s2:Qg}{RR:Qe->Qh->MV->Qg->Prop}{E:Qe->Qg->Prop}(hc:X.calm=true)(B:Blk X sc cl N' imp)
 (hg:∀C s H fp,PG (blk X sc cl N' C s H fp) tg g) (ht:∀C s H fp,JiP (blk X sc cl N' C s H fp) ifs tt) (he:∀C s H fp,PE (blk X sc cl N' C s H fp) elt te)
 (h2:PIE X pins σ tg (JqZ g tt te imp σ Q) itv s2)
 (fin:∀(C D:Qh) (s4:Qg) (H':Hp) (ys:List V) (m:Str->Option Qe),s2.heap.objs.size<C->s4.heap.Ns C m->H' C=none->(∀h',QK C s4.heap h'->Inv X pins σ H' { s4 with heap:=h' })->Q (.ref D) H'->RR (.ref D) C (.ok .next) s4) :
 wpAny (model X.prog X.w) X.A (newList []) (fun acc s₃=>wpAny (model X.prog X.w) X.A (newFunctionEnv sc X.env.globals cl [] X.env.qual none .none (some X.env)) (fun cenv s₄=>codeAny (model X.prog X.w) X.A (.compStart (.ListComp elt [⟨tg,iter,ifs,0⟩] sc pos) 0 itv acc { cenv with scope:=relabel sc X.env }) (RR acc cenv.locals) s₄) E s₃) E s2:=by
 obtain⟨it,fp,tn,J,H2,e,I2,T,st2,f2,W,⟨m0,w0⟩,turn⟩:=h2;subst e;refine Ge (wpAny_newFunctionEnv B.nocell (by intro y hy;simp at hy) (fun h₁ hns₁ hsb₁=>?_) B.kind);dsimp only at hns₁ hsb₁ ⊢
 generalize hG:s2.heap.push { cls:=.type "list",dict:=none,data:=.seq ([]:List Qe).toArray }=G at hns₁ hsb₁ ⊢
 have hCs:G.objs.size=s2.heap.objs.size+1:=by rw[<- hG,Gy]
 have hC:s2.heap.objs.size<G.objs.size:=by rw[hCs];exact GY _
 have below:∀b,b<s2.heap.objs.size->b≠G.objs.size:=fun b hb=>QF (Ke hb hC)
 have old:∀b o,s2.heap.get? b=some o->h₁.get? b=some o:=fun b o e=>hsb₁.extBut b o (below b (Qn e)) (Qi _ (hG▸Qi _ e))
 have hD1:h₁.get? s2.heap.objs.size=some { cls:=.type "list",data:=.seq ([]:List Qe).toArray }:=hsb₁.extBut _ _ (QF hC) (Qi _ (hG▸Qm _ rfl))
 have fpo:∀b∈fp,∃o,s2.heap.get? b=some o:=fun b hb=>let ⟨o,e,_⟩:=T.obj 0 _ st2 b hb;⟨o,e⟩
 have I4:=JlD B I2 f2 fpo hC old (show h₁.Ns G.objs.size fun _=>none from hns₁)
 have stD:∀{H':Hp} {pn:List (Qh×Obj)},(∀b∈s2.heap.objs.size::fp,H' b=none)->(∀p∈pn,p.1∉s2.heap.objs.size::fp)->∀b∈s2.heap.objs.size::fp,FpOk (blk X sc cl N' G.objs.size s2 H2 fp) pn H' b:=fun {H' pn} hn hp b hb=>by
  have hp':∀p∈([]++pn:List (Qh×Obj)),p.1≠b:=fun p z q=>hp p (by simpa using z) (q▸hb)
  rcases Qk.mp hb with z|z
  ·subst z;refine⟨hn _ hb,QF hC,fun q=>?_,.inr (Qu _),fun x c e q=>?_,hp'⟩
   ·rcases Qk.mp (I2.stkSub _ q) with q|q
    ·exact absurd I2.lt (by rw[<- q];exact Gh _)
    ·exact I2.nofs (Qu _) q
   ·obtain⟨v,qc⟩:=I2.cell x c (B.subL x c e);exact absurd qc.lt (by rw[q];exact Gh _)
  ·refine⟨hn _ hb,below b (let ⟨_,e⟩:=fpo b z;Qn e),fun q=>?_,.inl z,fun x c e=>(f2 b z).2.2.2.2.1 x c (B.subL x c e),hp'⟩;rcases Qk.mp (I2.stkSub b q) with q|q
   ·exact(f2 b z).2.1 q
   ·exact(f2 b z).2.2.1 q
 have nDf:s2.heap.objs.size∉fp:=fun z=>let ⟨_,e⟩:=fpo _ z;absurd (Qn e) (Gh _)
 have loop:codeAny (model X.prog X.w) X.A (.compLoop (.ListComp elt [⟨tg,iter,ifs,0⟩] sc pos) 0 (.ref it) (.ref s2.heap.objs.size) (compEnvC sc cl G.objs.size X.env))
  (RR (.ref s2.heap.objs.size) G.objs.size) { s2 with heap:=h₁,toks:=s2.toks }:=by
  refine codeAny_loop rfl (fun n s'=>∃i ys its k σ' H',Inv (blk X sc cl N' G.objs.size s2 H2 fp) [] σ' H' s'/\tn i s'.heap/\(∀b∈s2.heap.objs.size::fp,H' b=none)/\Vals ys its/\s'.heap.get? s2.heap.objs.size=some { cls:=.type "list",data:=.seq its.toArray k }/\W i n ys σ' H') ?_ m0
   ⟨0,[],[],0,_,H2,I4,T.keep _ _ _ st2 (fun b _ o e=>old b o e),fun b hb=>?_,.nil,hD1,w0⟩
  ·rintro n s3 ⟨i,ys,its,k,σ3,H3,I3,st3,fr3,rv3,hD3,w3⟩;have fr3':∀b∈fp,FpOk (blk X sc cl N' G.objs.size s2 H2 fp) [] H3 b:=fun b hb=>stD (pn:=[]) fr3 (fun p z=>nomatch z) b (Qc _ hb)
   show wpAny _ X.A ((compTurn (.ListComp elt [⟨tg,iter,ifs,0⟩] sc pos) 0 (.ref it) (.ref s2.heap.objs.size) (compEnvC sc cl G.objs.size X.env)).onRaise (fun x=>do noteFrame x (compEnvC sc cl G.objs.size X.env);theTreesLotGoes x)) _ _ s3;refine wpAny_noted (wpAny_noRaise ?_);rw[compTurn_list];refine Qa (wpAny_standAt (Qa ?_))
   have fD:=stD (pn:=[]) fr3 (fun p z=>nomatch z) s2.heap.objs.size Qf
   have hDH:H3 s2.heap.objs.size=none:=fr3 _ Qf
   have I3p:Inv (blk X sc cl N' G.objs.size s2 H2 fp) [(s2.heap.objs.size,{ cls:=.type "list",data:=.seq its.toArray k })] σ3 H3 s3:=I3.pins_of fun p hp=>by
    have e:p=(s2.heap.objs.size,{ cls:=.type "list",data:=.seq its.toArray k }):=by simpa using hp
    subst e;exact⟨hD3,hDH,fD.2.1,fD.2.2.1,fun v z=>by cases z⟩
   have pfp:∀p∈[(s2.heap.objs.size,({ cls:=.type "list",data:=.seq its.toArray k }:Obj))],p.1∉fp:=fun p hp=>by
    have e:p=(s2.heap.objs.size,{ cls:=.type "list",data:=.seq its.toArray k }):=by simpa using hp
    subst e;exact nDf
   have fpP:∀{H':Hp},(∀b∈fp,H' b=none)->∀b∈fp,FpOk (blk X sc cl N' G.objs.size s2 H2 fp) [(s2.heap.objs.size,({ cls:=.type "list",data:=.seq its.toArray k }:Obj))] H' b:=fun {H'} hn b hb =>
    have f:=stD (pn:=[]) fr3 (fun p z=>nomatch z) b (Qc _ hb)
    ⟨hn b hb,f.2.1,f.2.2.1,f.2.2.2.1,f.2.2.2.2.1,fun p hp q=>pfp p ((GH.mp hp).elim (fun z=>nomatch (show p∈([]:List (Qh×Obj)) from z)) id) (q▸hb)⟩
   rcases turn i n ys σ3 H3 w3 with ⟨stop,hz,q⟩|⟨go,hz,N,hN,step⟩
   ·refine thn (T.done (blk X sc cl N' G.objs.size s2 H2 fp) rfl rfl rfl hc i _ s3 σ3 H3 _ I3p (fpP fun b hb=>fr3 b (Qc _ hb)) st3 stop) fun r s4 ⟨hr,I5⟩=>?_
    subst hr;refine Qj ?_;obtain⟨m,hn,_⟩:=I5.loc;have eD:=(I5.pin (s2.heap.objs.size,{ cls:=.type "list",data:=.seq its.toArray k }) (by simp)).1;have hCf:H3 G.objs.size=none:=I5.free;exact fin G.objs.size s2.heap.objs.size s4 _ ys m hC hn (by rw[Je (Gn hC)];exact hCf) (fun h' hsb=>JlC (Cs:=0) I2 f2 I5 hC hDH (Qu _) (QF hC) eD rv3 hz hsb) (q _ hDH)
   ·refine thn (T.item (blk X sc cl N' G.objs.size s2 H2 fp) rfl rfl rfl hc i _ s3 σ3 H3 _ I3p (fpP fun b hb=>fr3 b (Qc _ hb)) st3 go) fun r s4 ⟨u,hr,h4⟩=>?_
    subst hr;refine Qa (thn h4 fun _ s5 ⟨x,H5,I5,r5,y5,st5,fr5⟩=>?_);have I5':=I5.pinned (fpP fr5) (T.obj _ _ st5);refine Qa (thn (hg G.objs.size s2 H2 fp _ s5 σ3 H5 x u _ I5' r5 (step x H5 y5)) fun _ s6 ⟨σ6,H6,I6,q6⟩=>?_);refine Qa (thn (ht G.objs.size s2 H2 fp _ s6 σ6 H6 _ I6 q6) fun ok s7 ⟨H7,I7,q7⟩=>?_)
    have recs:∀{σ':St} {H':Hp} {s':Qg},Inv (blk X sc cl N' G.objs.size s2 H2 fp) ([(s2.heap.objs.size,({ cls:=.type "list",data:=.seq its.toArray k }:Obj))]++JaB fp s5.heap) σ' H' s' ->
     tn (i+1) s'.heap/\(∀b∈s2.heap.objs.size::fp,H' b=none)/\s'.heap.get? s2.heap.objs.size=some { cls:=.type "list",data:=.seq its.toArray k }:=fun {σ' H' s'} I'=>by
     have pd:=I'.pin (s2.heap.objs.size,{ cls:=.type "list",data:=.seq its.toArray k }) (by simp)
     have pf:∀b∈fp,∀o,s5.heap.get? b=some o->s'.heap.get? b=some o/\H' b=none:=fun b hb o e=>by have z:=I'.pin (b,o) (GS _ (GS _ (V7 hb e)));exact⟨z.1,z.2.1⟩
     refine⟨T.keep _ _ _ st5 fun b hb o e=>(pf b hb o e).1,fun b hb=>?_,pd.1⟩;rcases Qk.mp hb with z|z
     ·subst z;exact pd.2.1
     ·obtain⟨o,e,d⟩:=T.obj _ _ st5 b z;exact(pf b z o e).2
    cases ok with
    | false=>obtain⟨m',hm,w7⟩:=hN _ _ _ (show N ys σ6 H7 from by simpa using q7);obtain⟨r1,r2,r3⟩:=recs I7;exact Qj ⟨rfl,m',hm,i+1,ys,its,k,σ6,H7,I7.pins_of (fun p hp=>nomatch hp),r1,r2,rv3,r3,w7⟩
    | true =>
     have q7':te σ6 H7 fun y H5=>N (ys++[y]) σ6 H5:=by simpa using q7
     refine Qa (Qa (thn (he G.objs.size s2 H2 fp _ s7 σ6 H7 _ I7 q7') fun y s8 ⟨y8,H8,I8,ry,q8⟩=>Qa ?_));obtain⟨r1,r2,r3⟩:=recs I8;have hl:=rv3.length;refine wpAny_list_append_plain (hsz:=by rw[Qt];omega) ⟨k,r3⟩ fun h9 ⟨k9,hl9⟩ hs9=>Qj (Qj ?_)
     have hD8:H8 s2.heap.objs.size=none:=r2 _ Qf
     have f8:=stD (pn:=[]) r2 (fun p z=>nomatch z) s2.heap.objs.size Qf
     have I8':Inv (blk X sc cl N' G.objs.size s2 H2 fp) [] σ6 H8 s8:=I8.pins_of (fun p hp=>nomatch hp)
     have I9:Inv (blk X sc cl N' G.objs.size s2 H2 fp) [] σ6 H8 { s8 with heap:=h9 }:=I8'.turned (t':=s8.toks) (it:=s2.heap.objs.size) (fun b o hb e=>hs9.extBut b o hb e) hD8 f8.2.1 f8.2.2.2.1 f8.2.2.2.2.1 f8.2.2.2.2.2;obtain⟨m',hm,w8⟩:=hN _ _ _ q8;refine⟨rfl,m',hm,i+1,ys++[y8],its++[y],k9,σ6,H8,I9,?_,r2,rv3.append (.cons ry .nil),?_,w8⟩
     ·exact T.keep _ _ _ r1 fun b hb o e=>hs9.extBut b o (fun z=>nDf (z▸hb)) e
     ·rw[hl9];simp
  ·rcases Qk.mp hb with z|z
   ·subst z;exact I2.hok.fresh (Qu _)
   ·exact(f2 b z).1
 exact codeAny_compStart_list loop (T.self _ 0 _ _ _ (T.keep _ _ _ st2 fun b _ o e=>old b o e) loop)
def J5(hc:X.calm=true)(hi:PI X tg iter wi)(B:Blk X sc cl N' imp)
 (hg:∀C s H fp,PG (blk X sc cl N' C s H fp) tg g) (ht:∀C s H fp,JiP (blk X sc cl N' C s H fp) ifs tt) (he:∀C s H fp,PE (blk X sc cl N' C s H fp) elt te)
 (hs:∀x,foldedSetIterable iter X.env x=pure x:=by intro _;rfl):PE X (.ListComp elt [⟨tg,iter,ifs,0⟩] sc pos) (Jhz wi g tt te imp):=by
 intro pins s σ H Q I h;rw[eval_ListComp];refine wpAny_comprehension_free (use:=none) rfl hs B.clos B.kind B.names (thn (hi pins s σ H _ I h) fun v s1 h1=>thn h1 fun itv s2 h2=>?_);refine Jbq (RR:=fun acc C=>compPost (model X.prog X.w) X.A X.xe none (EP X pins σ Q) acc C) hc B hg ht he h2 fun C D s4 H' ys m hC hn hCf hI q=>?_
 exact⟨m,hn,fun h' hsb=>⟨.ref D,H',hI h' hsb,rfl,q⟩⟩
def JfM{i:Nat}{x:Str}{pos' spos:Pos}(hN:X.N.Nodup)(hx1:X.N[i]?=some x)(hx2:Loc X.env.scope x)(hc:X.calm=true)(hi:PI X tg iter wi)(B:Blk X sc cl N' imp)
 (hg:∀C s H fp,PG (blk X sc cl N' C s H fp) tg g) (ht:∀C s H fp,JiP (blk X sc cl N' C s H fp) ifs tt) (he:∀C s H fp,PE (blk X sc cl N' C s H fp) elt te)
 (hsw:swapsWith (.ListComp elt [⟨tg,iter,ifs,0⟩] sc pos) (some (.Name x pos')) spos.line X.env=pure true) (hf:X.fn x=true\/X.env.scope.names.lookup x=some .local)
 (hs:∀x,foldedSetIterable iter X.env x=pure x:=by intro _;rfl):PS X (.Assign [.Name x pos'] (.ListComp elt [⟨tg,iter,ifs,0⟩] sc pos) spos) (Jf1 (Jhz wi g tt te imp) (Vc i)):=by
 intro pins s σ H D I h;rw[exec_Assign_Name_used _ _ _ _ hsw];refine Qa (wpAny_standAt (Qa ?_));show wpAny _ X.A (do let _ <- comprehension (.ListComp elt [⟨tg,iter,ifs,0⟩] sc pos) sc X.env _ (newList []) false (eval iter X.env) (some (assign (.Name x pos') X.env))) _ _ s;refine Qa (KF (wpAny_comprehension_free (use:=some (assign (.Name x pos') X.env)) (Q:=fun _ s'=>SP X pins D .next s') rfl hs B.clos B.kind B.names
  (thn (hi pins s σ H _ I h) fun v s1 h1=>thn h1 fun itv s2 h2=>?_)) (fun _ s' hq=>Qj (Qj hq)) fun _ _ e=>e)
 refine Jbq (Q:=fun y H1=>Vc i y σ H1 D.nx) (RR:=fun acc C=>compPost (model X.prog X.w) X.A X.xe (some (assign (.Name x pos') X.env)) (fun _ s'=>SP X pins D .next s') acc C) hc B hg ht he h2 fun C Dl s4 H' ys m hC hn hCf hI q=>?_
 obtain⟨it,fp,tn,J,H2,e,I2,_⟩:=h2;have I4:Inv X pins σ H' s4:=hI s4.heap (.refl ..);have neC:X.env.locals≠C:=QF (Ke I2.lt hC)
 have neCc:∀y c,X.env.cells.lookup y=some c->c≠C:=fun y c e=>by obtain⟨v,qc⟩:=I2.cell y c e;exact QF (Ke qc.lt hC)
 show wpAny _ X.A (assign (.Name x pos') X.env (.ref Dl)) _ _ s4;refine wpAny_assign_Name (JbR I4 hN hx1 hx2 (v:=.ref Dl) rfl (fun s5 I5 ⟨c0,hs5,hc0⟩=>?_) hf)
 have ne0:C≠c0:=by
  rcases hc0 with z|z
  ·rw[z];exact Q3 neC
  ·exact Q3 (neCc _ _ z)
 refine⟨m,hn.sameBut hs5 ne0,fun h' hsb=>⟨_,H',?_,q⟩⟩;refine I5.turned (t':=s5.toks) (it:=C) (fun b o hb e=>hsb.extBut b o hb e) hCf (Q3 neC) (.inr (GW (Kv I2.sz hC))) neCc fun p hp z=>?_
 have:=Qn (I2.pin p hp).1;rw[z] at this;exact absurd (Ke this hC) (Gh _)
inductive Rep (K:Qz) (H:Hp):V->PyData->Prop
 | non:Rep K H .non .none
 | bl (b:Bool):Rep K H (.bl b) (.bool b)
 | int (i:Int):Rep K H (.int i) (.int i)
 | str (x:Str):Rep K H (.str x) (.str x)
 | tup {a:Qh} {xs:List V} {ds:List PyData}:SqT K H a xs->xs.length=ds.length->(∀(i:Nat) (x:V) (d:PyData),xs[i]?=some x->ds[i]?=some d->Rep K H x d)->Rep K H (.ref a) (.tuple ds)
 | lst {a:Qh} {xs:List V} {ds:List PyData}:SqL K H a xs->xs.length=ds.length->(∀(i:Nat) (x:V) (d:PyData),xs[i]?=some x->ds[i]?=some d->Rep K H x d)->Rep K H (.ref a) (.list ds)
noncomputable def RepL(K:Qz)(H:Hp)(xs:List V)(ds:List PyData):Prop :=
 xs.length=ds.length/\∀(i:Nat) (x:V) (d:PyData),xs[i]?=some x->ds[i]?=some d->Rep K H x d
section
variable{K:Qz}{H H':Hp}
def RepL.nil:RepL K H [] []:=⟨rfl,fun i x d e=>by simp at e⟩
def RepL.cons(h:Rep K H x d)(r:RepL K H xs ds):RepL K H (x::xs) (d::ds):=by
 refine⟨by simp[r.1],fun i y e h1 h2=>?_⟩
 cases i with
 | zero=>simp at h1 h2;subst h1 h2;exact h
 | succ i=>exact r.2 i y e (by simpa using h1) (by simpa using h2)
def RepL.append(r:RepL K H xs ds)(q:RepL K H ys es):RepL K H (xs++ys) (ds++es):=by
 refine⟨by simp[r.1,q.1],fun i x d h1 h2=>?_⟩
 by_cases hi:i<xs.length
 ·rw[QO hi] at h1;rw[QO (by rw[<- r.1];exact hi)] at h2;exact r.2 i x d h1 h2
 ·rw[QQ (by omega)] at h1;rw[QQ (by rw[<- r.1];omega)] at h2;rw[<- r.1] at h2;exact q.2 _ x d h1 h2
def RepL.snoc(r:RepL K H xs ds)(h:Rep K H x d):RepL K H (xs++[x]) (ds++[d]):=r.append (.cons h .nil)
def RepL.get'{xs:List V}{ds:List PyData}{i:Nat}{x:V}(r:RepL K H xs ds)(e:xs[i]?=some x):∃d,ds[i]?=some d/\Rep K H x d:=by
 have hi:=(Qo.mp e).1
 have hx:i<ds.length:=by rw[<- r.1];exact hi
 exact⟨ds[i],by simp[hx],r.2 i x _ e (by simp[hx])⟩
def Rep.tupL(h:SqT K H a xs)(r:RepL K H xs ds):Rep K H (.ref a) (.tuple ds):=.tup h r.1 r.2
def Rep.lstL(h:SqL K H a xs)(r:RepL K H xs ds):Rep K H (.ref a) (.list ds):=.lst h r.1 r.2
def Rep.tupI(r:Rep K H v (.tuple ds)):∃a xs,v=.ref a/\SqT K H a xs/\RepL K H xs ds:=by
 cases r with
 | tup h l q=>exact⟨_,_,rfl,h,l,q⟩
def Rep.intI(r:Rep K H v (.int i)):v=.int i:=by cases r;rfl
def Same.seqT(e:Same H H')(h:SqT K H a xs):SqT K H' a xs:=by
 rcases h with (h|⟨o,h⟩)|h
 ·exact .inl (.inl (e _ _ h))
 ·exact .inl (.inr ⟨o,e _ _ h⟩)
 ·exact .inr h
def Rep.mono(e:Same H H')(r:Rep K H v d):Rep K H' v d:=by
 induction r with
 | non=>exact .non
 | bl b=>exact .bl b
 | int i=>exact .int i
 | str x=>exact .str x
 | tup h l _ ih=>exact .tup (e.seqT h) l ih
 | lst h l _ ih=>exact .lst (e.seq h) l ih
def RepL.mono(e:Same H H')(r:RepL K H xs ds):RepL K H' xs ds:=⟨r.1,fun i x d h1 h2=>(r.2 i x d h1 h2).mono e⟩
noncomputable def SameEx(l:Qh)(H H':Hp):Prop:=∀b o,b≠l->H b=some o->H' b=some o
def SameEx.upd{l:Qh}{o:HO}:SameEx l H (upd H l o):=fun b o' hb e=>by rw[Je hb];exact e
def Same.ex(s:Same H0 H)(hn:H0 l=none)(e:SameEx l H H'):Same H0 H':=fun b o h=>e b o (Jn h hn) (s b o h)
def Same.new(hn:H p=none):Same H (upd H p o):=fun b o' e=>by rw[Je (Jn e hn)];exact e
def SameEx.sqT(e:SameEx l H H')(hl:H l=some (.lst ys))(h:SqT K H a xs):SqT K H' a xs:=by
 rcases h with (h|⟨o,h⟩)|h
 ·exact .inl (.inl (e _ _ (JbL h hl (by intro z;cases z)) h))
 ·exact .inl (.inr ⟨o,e _ _ (JbL h hl (by intro z;cases z)) h⟩)
 ·exact .inr h
def Same.ex_trans(s:Same H H')(e:SameEx l H' H2):SameEx l H H2:=fun b o hb h=>e b o hb (s b o h)
end
theorem Vals.get':∀{xs:List V} {us:List Qe} {i:Nat} {u:Qe},Vals xs us->us[i]?=some u->∃x,xs[i]?=some x/\RelV x u
 | _,_,_,_,.nil,e=>by simp at e
 | _,_,0,_,.cons r _,e=>by simp at e;subst e;exact⟨_,rfl,r⟩
 | _,_,i+1,u,.cons _ t,e=>by obtain⟨x,h1,h2⟩:=Vals.get' (i:=i) (u:=u) t (by simpa using e);exact⟨x,by simpa using h1,h2⟩
theorem Vs{h:Q2}:∀(us:List Qe) (ds:List PyData),us.length=ds.length->(∀(i:Nat) (u:Qe) (d:PyData),us[i]?=some u->ds[i]?=some d->∃as,Reads h u d as)->∃as,ReadsAll h us ds as
 | [],[],_,_=>⟨_,.nil⟩
 | [],_::_,e,_=>by simp at e
 | _::_,[],e,_=>by simp at e
 | u::us,d::ds,e,f=>by
  obtain⟨as,h1⟩:=f 0 u d rfl rfl;obtain⟨bs,h2⟩:=Vs us ds (by simpa using e) fun i v c q1 q2=>f (i+1) v c (by simpa using q1) (by simpa using q2)
  exact⟨_,.cons h1 h2⟩
def Rep.reads(I:Inv X pins σ H s)(r:Rep X.K H v d):∀u,RelV v u->∃as,Reads s.heap u d as:=by
 induction r with
 | non=>intro u r;cases r;exact⟨_,.none⟩
 | bl b=>intro u r;cases r;exact⟨_,.bool b⟩
 | int i=>intro u r;obtain⟨t,rfl⟩:=r;exact⟨_,.int i t⟩
 | str x=>intro u r;obtain⟨t,rfl⟩:=r;exact⟨_,.str x t⟩
 | tup h l _ ih =>
  intro u r;cases r;obtain⟨its,rv,p,hz⟩:=I.tuple h;obtain⟨o,ho,hc,n,hd⟩:=p
  obtain⟨as,q⟩:=Vs (h:=s.heap) its _ (rv.length.symm.trans l) fun i u d h1 h2=>by obtain⟨x,e1,e2⟩:=rv.get' h1;exact ih i x d e1 h2 u e2
  exact⟨_,.tuple ho hc hd q⟩
 | lst h l _ ih =>
  intro u r;cases r;obtain⟨its,rv,p,hz⟩:=I.list h;obtain⟨o,ho,hc,n,hd⟩:=p.isList
  obtain⟨as,q⟩:=Vs (h:=s.heap) its _ (rv.length.symm.trans l) fun i u d h1 h2=>by obtain⟨x,e1,e2⟩:=rv.get' h1;exact ih i x d e1 h2 u e2
  exact⟨_,.list ho hc hd q⟩
noncomputable def Jhf(K:Qz):R2:=fun x y H Q=>rI0 (fun i j=>.int (i+j)) x y H Q\/(∃i j,x=.str i/\y=.str j/\i.length+j.length<=Qr/\Q (.str (i++j)) H)\/JrN x y H Q
def JmQ:OpR X (binaryOp .Add) (Jhf X.K):=op_add.or (op_add_str.or JpN)
noncomputable def JrO(K:Qz):R2:=fun x y H Q=>∃d e,Rep K H x d/\Rep K H y e/\d.canLay0=true/\e.canLay0=true/\min d.depth e.depth<=60/\Q (.bl (Mz d e)) H
noncomputable def JrU(K:Qz):R2:=fun x y H Q=>∃d e,Rep K H x d/\Rep K H y e/\d.canLay0=true/\e.canLay0=true/\min d.depth e.depth<=60/\Q (.bl (!PyData.eqv d e)) H
def JpP(hu:X.A.units+64<cLine):OpR X (compareOp .Eq) (JrO X.K):=by intro pins s σ H x y v u Q I rx ry h;obtain⟨d,e,h1,h2,c1,c2,hd,q⟩:=h;obtain⟨as,r1⟩:=h1.reads I v rx;obtain⟨bs,r2⟩:=h2.reads I u ry;exact SeqAt.compareEq_reads r1 r2 c1 c2 (by omega) ⟨.bl _,H,I,rfl,q⟩
def JpT(hu:X.A.units+64<cLine):OpR X (compareOp .NotEq) (JrU X.K):=by intro pins s σ H x y v u Q I rx ry h;obtain⟨d,e,h1,h2,c1,c2,hd,q⟩:=h;obtain⟨as,r1⟩:=h1.reads I v rx;obtain⟨bs,r2⟩:=h2.reads I u ry;exact SeqAt.compareNe_reads r1 r2 c1 c2 (by omega) ⟨.bl _,H,I,rfl,q⟩
noncomputable def Jp7(K:Qz):R2:=fun x y H Q=>rEq x y H Q\/JrO K x y H Q
noncomputable def Jqa(K:Qz):R2:=fun x y H Q=>rNe x y H Q\/JrU K x y H Q
def JpO(hu:X.A.units+64<cLine):OpR X (compareOp .Eq) (Jp7 X.K):=op_eq.or (JpP hu)
def JpS(hu:X.A.units+64<cLine):OpR X (compareOp .NotEq) (Jqa X.K):=op_ne.or (JpT hu)
noncomputable def JfN(K:Qz):List V->Hp->VK->Prop:=fun xs H Q=>∃x n,xs=[x]/\Jq2 K x H n/\Q (.int n) H
def JhO:Yo X (.builtin "len") (JfN X.K):=Ji7
noncomputable def Vr(K:Qz):List V->Hp->VK->Prop:=fun xs H Q=>∃p ys,xs=[.ref p]/\((SqL K H p ys/\∀l,H l=none->Q (.ref l) (upd H l (.tup ys)))\/(SqT K H p ys/\Q (.ref p) H))
def Jdp:Yo X (.type "tuple") (Vr X.K):=JaY
inductive TyS (K:Qz) (H:Hp):V->Qe->Prop where
 | of {x:V} {t:Qe} (h:TyOf K H x t):TyS K H x t
 | sqT {a:Qh} {xs:List V} (h:SqT K H a xs):TyS K H (.ref a) (.type "tuple")
 | sqL {a:Qh} {xs:List V} (h:SqL K H a xs):TyS K H (.ref a) (.type "list")
def Jfr{pins:List (Qh×Obj)}{σ:St}{H:Hp}{s:Qg}{A:QM}{E:Qe->Qg->Prop}{Q:Qe->Qg->Prop}{c:Qe}{b:Bool}{x:V}{u t:Qe}(I:Inv X pins σ H s)(rx:RelV x u)(ty:TyS X.K H x t)(e:kitOne X.K t c=some b)(h:∀tk,Q (.bool b) { s with toks:=tk }) :
 wpAny (model X.prog X.w) A (call (.builtin "isinstance") [u,c]) Q E s:=by
 cases ty with
 | of z=>exact Jh9 I rx z e h
 | @sqT a xs z=>cases (show u=Value.ref a from rx);obtain⟨its,_,p,_⟩:=I.tuple z;obtain⟨o,h1,h2,_⟩:=p;exact kia_one Xk I.kIn ⟨o,h1,h2⟩ e (fun z=>nomatch z) h
 | @sqL a xs z=>cases (show u=Value.ref a from rx);obtain⟨its,_,p,_⟩:=I.list z;obtain⟨o,h1,h2,_⟩:=p.isList;exact kia_one kitx_list I.kIn ⟨o,h1,h2⟩ e (fun z=>nomatch z) h
noncomputable def Jm7(K:Qz):List V->Hp->VK->Prop:=fun vs H Q=>∃x c t tc b,vs=[x,c]/\TyS K H x t/\(∀u,RelV c u->u=tc)/\kitOne K t tc=some b/\Q (.bl b) H
def Ji6:Yo X (.builtin "isinstance") (Jm7 X.K):=by intro pins s σ H xs us Q I r h;obtain⟨x,c,t,tc,b,rfl,ty,hc,e,q⟩:=h;obtain⟨u,w',rfl,r1,r2⟩:=Jlj r;cases hc w' r2;exact Jfr I r1 ty e fun tk=>⟨.bl b,H,I.tok tk,rfl,q⟩
noncomputable def JrP:R2:=fun x y H Q=>y=.non/\Q (.bl (decide (x=.non))) H
noncomputable def JkB:R2:=fun x y H Q=>y=.non/\Q (.bl (!decide (x=.non))) H
def Jg4:OpR X (compareOp .Is) JrP:=JpQ
def Jax:OpR X (compareOp .IsNot) JkB:=JmT
noncomputable def Jp8:List V->Hp->VK->Prop:=fun xs H Q=>∃i j,xs=[.int i,.int j]/\Q (.int (if j>i then j else i)) H
noncomputable def Jp9:List V->Hp->VK->Prop:=fun xs H Q=>∃i j,xs=[.int i,.int j]/\Q (.int (if j<i then j else i)) H
def JhQ(hc:X.calm=true):Yo X (.builtin "max") Jp8:=JhP hc
def WQ(hc:X.calm=true):Yo X (.builtin "min") Jp9:=JhR hc
noncomputable def JqJ(K:Qz)(ta:TE):TT:=fun σ H Q=>ta σ H fun x H1=>∃k,Jlx K x H1 k/\Q k H1
def Jp5(ha:PE X a ta)(he:∀whole,isTrue a X.env whole=(do let v <- whole;standAt a.pos;holding [v] (truthy v))):PT X a (JqJ X.K ta):=Jks ha he
noncomputable def GV(mg:Str->Option Qe)(x:Str)(v:V):Prop:=∃u,mg x=some u/\RelV v u
def Jaz{x:Str}{v:V}{pos:Pos}(hg:Gl X x)(hm:GV X.mg x v)(hd:(x == ("__debug__":Str))=false:=by decide):PE X (.Name x pos) (tC v):=by obtain⟨u,h1,h2⟩:=hm;exact JmX hg h1 h2 hd
def V2:bootBuiltins "len"=some (.builtin "len"):=by decide +kernel
def Yk:bootBuiltins "isinstance"=some (.builtin "isinstance"):=by decide +kernel
def JoM:bootBuiltins "max"=some (.builtin "max"):=by decide +kernel
def ZU:bootBuiltins "min"=some (.builtin "min"):=by decide +kernel
def WP:bootBuiltins "sum"=some (.builtin "sum"):=by decide +kernel
def JoL:bootBuiltins "any"=some (.builtin "any"):=by decide +kernel
def WO:bootBuiltins "sorted"=some (.builtin "sorted"):=by decide +kernel
def Ji1:bootBuiltins "int"=some (.type "int"):=by decide +kernel
def Jgm:bootBuiltins "bool"=some (.type "bool"):=by decide +kernel
def Zu:bootBuiltins "list"=some (.type "list"):=by decide +kernel
def Wn:bootBuiltins "tuple"=some (.type "tuple"):=by decide +kernel
def Ji2:bootBuiltins "zip"=some (.type "zip"):=by decide +kernel
def JbZ:bootBuiltins "enumerate"=some (.type "enumerate"):=by decide +kernel
def Jdo:bootBuiltins "reversed"=some (.type "reversed"):=by decide +kernel
structure Cal (P:Qy) (w:QP) (K:Qz) (mg:Str->Option Qe) (base:Q2) (x:Str) (k:Nat) (ps:List Str) (sp:Sp):Prop where
 ex:∃(f:Qh) (fd:QW),FnOk P w K mg base CX0 k f fd ps sp/\mg x=some (.ref f)/\keepIn K (.ref f)=true/\Binds K fd ps []
structure CalM (P:Qy) (w:QP) (K:Qz) (mg:Str->Option Qe) (base:Q2) (x:Str) (C:Qh) (k:Nat) (ps:List Str) (sp:Sp):Prop where
 ex:∃(f:Qh) (fd:QW),Mk K C f/\FnOk P w K mg base CX0 k f fd ps sp/\mg x=some (.ref C)/\Binds K fd ps []
def Jj(c:Cal X.prog X.w X.K X.mg X.base x k ps sp)(hr:Room k X.A)(hg:Gl X x)(ha:PA X (e::es) t)(hdb:(x == ("__debug__":Str))=false:=by decide)
 (he:starEach (e::es) X.env=(false,eval e X.env)::starEach es X.env:=by rfl) (hpl:(backTo pos (starEach es X.env)).any (·.1)=false:=by rfl):PE X (.Call (.Name x p) (e::es) [] pos) (Jhy sp [] E0 t):=by
 obtain⟨f,fd,F,h1,h2,h3⟩:=c.ex;exact JmU F hr hg h1 h2 h3 .nil Jop ha hdb he hpl
def UT(c:CalM X.prog X.w X.K X.mg X.base x C k ps sp)(hr:Room (k+1) X.A)(hg:Gl X x)(ha:PA X (e::es) t)(hdb:(x == ("__debug__":Str))=false:=by decide)
 (he:starEach (e::es) X.env=(false,eval e X.env)::starEach es X.env:=by rfl) (hpl:(backTo pos (starEach es X.env)).any (·.1)=false:=by rfl):PE X (.Call (.Name x p) (e::es) [] pos) (JhA C sp [] E0 t):=by
 obtain⟨f,fd,M,F,h1,h3⟩:=c.ex;exact JmY M F hr hg h1 h3 .nil Jop ha hdb he hpl
noncomputable def Jfo(K:Qz)(tl:TE):TI:=fun σ H R=>Jod K tl σ H R\/Jro K tl σ H R
def Jp1(hl:PE X l tl):PI X tg l (Jfo X.K tl):=by
 intro pins s σ H R I h;rcases h with h|h
 ·exact Jm0 hl pins s σ H R I h
 ·exact Jp2 hl pins s σ H R I h
def ZT(h1:sc.kind=.function)(h2:(sc.names.all (fun y=>y.2 != .free && y.2 != .cell && (y.2 != .local || sc.names.lookup y.1 == some .local)) && imp.all (·.isNone) && (imp.length == N'.length))=true):Blk X sc [] N' imp:=by
 simp only[QR,L0] at h2;obtain⟨⟨h2,h3⟩,h4⟩:=h2
 have nofree:∀y∈sc.names,y.2≠.free:=fun y hy=>by
  have:=(h2 y hy).1.1
  simpa using this
 have nocell:∀y∈sc.names,y.2≠.cell:=fun y hy=>by
  have:=(h2 y hy).1.2
  simpa using this
 refine⟨closureFor_none nofree,h1,nocell,fun y hy hl=>?_,(fun p hp=>nomatch hp),fun y hy hk=>?_,by simpa using h4,fun p hp k e=>?_⟩
 ·have:=(h2 y hy).2;rw[hl] at this
  simpa using this
 ·have:(relabel sc X.env).names=sc.names:=by
   unfold relabel;refine map_eq_self fun x hx=>?_
   obtain⟨n,q⟩:=x;have:(q == NameKind.free)=false:=by simpa using nofree _ hx
   simp[this]
  rw[this] at hy;rcases hk with z|z
  ·exact absurd z (nocell y hy)
  ·exact absurd z (nofree y hy)
 ·have:=h3 p.1 (KR hp).1;rw[e] at this;cases this
section
variable{K:Qz}{σ:St}{H H1:Hp}{Q:VK}{i:Nat}{v:V}{ta tb te:TE}{r:R2}{D:Ends}{t u:TS}{c:TT}
def Jqp(h:σ[i]?=some (some v))(q:Q v H):VV i σ H Q:=⟨v,h,q⟩
def JsN(q:Q v H):tC v σ H Q:=q
def Jr2(q:ta σ H fun x H1=>tb σ H1 fun y H2=>r x y H2 Q):tOp r ta tb σ H Q:=q
def Jr1(q:Q (g a b) H):rI0 g (.int a) (.int b) H Q:=⟨a,b,rfl,rfl,q⟩
def Jm8(q:Q (.int (a+b)) H):Jhf K (.int a) (.int b) H Q:=.inl ⟨a,b,rfl,rfl,q⟩
def Jng(q:Q (.bl (!decide (x=.non))) H):JkB x .non H Q:=⟨rfl,q⟩
def JkF(q:Q (.int (max a b)) H):Jp8 [.int a,.int b] H Q:=⟨a,b,rfl,by
 have e:(if b>a then b else a)=max a b:=by rw[Int.max_def];split <;> split <;> omega
 rw[e];exact q⟩
def JkG(q:Q (.int (min a b)) H):Jp9 [.int a,.int b] H Q:=⟨a,b,rfl,by
 have e:(if b<a then b else a)=min a b:=by rw[Int.min_def];split <;> split <;> omega
 rw[e];exact q⟩
def Jni(q:te σ H fun x H'=>∃k,x=.bl k/\Qb k H'):Jk6 te σ H Qb:=q
def Jqe(q:c σ H fun b H1=>if b=true then c' σ H1 Qb else Qb false H1):JqE c c' σ H Qb:=q
def Jqn(q:t { D with nx:=u D } σ H):JqI t u D σ H:=q
def Jqf(q:te σ H fun x H1=>g x σ H1 D.nx):Jf1 te g D σ H:=q
def JkE(q:Qs (σ.set i (some v)) H):Vc i v σ H Qs:=q
def Jqg(q:c σ H fun b H1=>if b=true then t D σ H1 else u D σ H1):JqG c t u D σ H:=q
def Jna(q:te σ H fun _ H1=>D.nx σ H1):Zq te D σ H:=q
def Jnf(q:D.nx σ H):Jk4 D σ H:=q
def Jm9(q:ta σ H fun x H1=>tr σ H1 fun xs H2=>Ql (x::xs) H2):Ur ta tr σ H Ql:=q
def Jql(q:Ql [] H):VU σ H Ql:=q
def Jr0{r:List V->Hp->VK->Prop}(q:ts σ H fun vs H1=>r vs H1 Q):tCB r ts σ H Q:=q
def Jhi(q:ts σ H fun vs H1=>sp vs H1 Q E):Jhy sp [] E ts σ H Q:=by
 have e:(fun vs H1=>sp (vs++[]) H1 Q E)=fun vs H1=>sp vs H1 Q E:=by funext vs H1;rw[KQ]
 show ts σ H fun vs H1=>sp (vs++[]) H1 Q E
 rw[e];exact q
noncomputable def JiN(xs:List V)(H:Hp)(Q:VK):Prop:=xs.length<=Qr/\∀p,H p=none->Q (.ref p) (upd H p (.tup xs))
def Jqo(q:ts σ H fun xs H1=>JiN xs H1 Q):JqK ts σ H Q:=q
def JoH(hl:xs.length<=Qr)(q:∀p H',H p=none->Same H H'->H' p=some (.tup xs)->Q (.ref p) H'):JiN xs H Q:=⟨hl,fun p hp=>q p _ hp (.new hp) Jl⟩
def Jnc(h:SqL K H a xs)(q:Q (.int xs.length) H):JfN K [.ref a] H Q:=⟨_,_,rfl,.inl ⟨xs,h,rfl⟩,q⟩
def Jne(h:SqT K H a xs)(q:Q (.int xs.length) H):JfN K [.ref a] H Q:=⟨_,_,rfl,.inr ⟨xs,h,rfl⟩,q⟩
def Jnd(h:x.length<=Qr)(q:Q (.int x.length) H):JfN K [.str x] H Q:=⟨_,_,rfl,⟨h,rfl⟩,q⟩
def JiB(h:SqL K H a xs)(q:∀p H',H p=none->Same H H'->H' p=some (.tup xs)->Q (.ref p) H'):Vr K [.ref a] H Q:=⟨a,xs,rfl,.inl ⟨h,fun p hp=>q p _ hp (.new hp) Jl⟩⟩
def Jqi(h:SqL K H a xs)(e:atI xs j=some v)(q:Q v H):rIx K (.ref a) (.int j) H Q:=.inl ⟨a,xs,j,v,rfl,rfl,h,e,q⟩
def Jqk(h:SqT K H a xs)(e:atI xs j=some v)(q:Q v H):rIx K (.ref a) (.int j) H Q:=.inr (.inl ⟨a,xs,j,v,rfl,rfl,h,e,q⟩)
def Jqj{z:Str}{j:Int}{c:Nat}(hz:z.length<=Qr)(e:atI z.cps.toList j=some c)(q:Q (.str ⟨#[c]⟩) H):rIx K (.str z) (.int j) H Q:=.inr (.inr ⟨z,j,c,rfl,rfl,hz,e,q⟩)
def Jqh{x:V}{n:String}{t:Qe}{b:Bool}(ty:TyS K H x t)(e:kitOne K t (.type n)=some b)(q:Q (.bl b) H):Jm7 K [x,.ty n] H Q:=⟨x,_,t,_,b,rfl,ty,fun _ r=>r,e,q⟩
def Jhj(h:SqT K H a xs)(hl:xs.length=n)(q:ts xs σ H Qs):Jh1 K n ts (.ref a) σ H Qs:=⟨a,xs,rfl,h,hl,q⟩
def JkD{t:TG}{u:TGs}{x:V}{xs:List V}{Qs:St->Hp->Prop}(q:t x σ H fun σ' H'=>u xs σ' H' Qs):JgI t u (x::xs) σ H Qs:=⟨x,xs,rfl,q⟩
def Jnb(q:Qs σ H):Jma [] σ H Qs:=⟨rfl,q⟩
def Jnh(q:tv σ H fun y H1=>ta σ H1 fun x H2=>∃a C dx fs,x=.ref a/\H2 a=some (.ins C dx fs)/\Cls K C/\NoAttr K C f/\fs.length<1000/\D.nx σ (upd H2 a (.ins C dx (putF f y fs)))):Jqs K ta tv f D σ H:=q
def Jqq(q:Qb true H):JqL σ H Qb:=q
def ifd{c A B:Prop}[Decidable c](h1:c->A)(h2:¬c->B):if decide c=true then A else B:=by
 by_cases h:c
 ·rw[if_pos (decide_eq_true h)];exact h1 h
 ·rw[if_neg (by simpa using h)];exact h2 h
def ifT{A B:Prop}(e:b=true)(h:A):if b=true then A else B:=by rw[if_pos e];exact h
def ifF{A B:Prop}(e:b=false)(h:B):if b=true then A else B:=by rw[if_neg (by rw[e];exact QH)];exact h
def JiA{tl:TE}{g:TG}{a:Qh}{xs:List V}(hx:∀R:VK,R (.ref a) H1->tl σ H R)(hq:SqL K H1 a xs\/SqT K H1 a xs)(Pv:Nat->St->Hp->Prop)(h0:Pv 0 σ H1)(hS:∀i σ' H',Pv i σ' H'->Same H1 H')
 (hs:∀i x σ' H',xs[i]?=some x->Pv i σ' H'->g x σ' H' fun σ2 H2=>t { D with nx:=Pv (i+1),ct:=Pv (i+1),bk:=D.nx } σ2 H2) (hd:∀σ' H',Pv xs.length σ' H'->D.nx σ' H'):JnM (Jfo K tl) g t D σ H:=by
 rcases hq with hq|hq
 ·exact .inl (hx _ ⟨a,rfl,⟨xs,hq⟩,JjC (xs:=xs) Pv h0 (fun i σ' H' _ p=>(hS i σ' H' p).seq hq) hs hd⟩)
 ·exact .inr (hx _ ⟨a,rfl,⟨xs,hq⟩,Jl9 (xs:=xs) Pv h0 (fun i σ' H' _ p=>(hS i σ' H' p).seqT hq) hs hd⟩)
def Jgv{J:It}{g:TG}{tt:TT}{imp:List (Option Nat)}{n:Nat}(hn:n<=Qr)(Pv:Nat->List V->St->Hp->Prop)(h0:Pv 0 [] (Jad imp σ) H1)(hy:∀i ys σ' H',Pv i ys σ' H'->ys.length<=i)
 (hstop:∀ys σ' H',Pv n ys σ' H'->J.stop n H') (hgo:∀i ys σ' H',i<n->Pv i ys σ' H'->J.go i H')
 (hs:∀i ys x σ' H' H2,i<n->J.yld i H' x H2->Pv i ys σ' H'->g x σ' H2 fun σ2 H3=>tt σ2 H3 fun b H4=>if b=true then te σ2 H4 fun y H5=>Pv (i+1) (ys++[y]) σ2 H5 else Pv (i+1) ys σ2 H4)
 (hd:∀ys σ' H',Pv n ys σ' H'->∀p H2,H' p=none->Same H' H2->H2 p=some (.lst ys)->Q (.ref p) H2) :
 ∃W:Nat->Nat->List V->St->Hp->Prop,(∃m,W 0 m [] (Jad imp σ) H1)/\∀i m ys σ' H',W i m ys σ' H' ->
  (J.stop i H'/\ys.length<=Qr/\∀D,H' D=none->Q (.ref D) (upd H' D (.lst ys))) ∨
  (J.go i H'/\ys.length<Qr/\∃N:List V->St->Hp->Prop,(∀ys' σ2 H2,N ys' σ2 H2->∃m',m'<m/\W (i+1) m' ys' σ2 H2) ∧
   ∀x H2,J.yld i H' x H2->g x σ' H2 fun σ2 H3=>tt σ2 H3 fun b H4=>if b=true then te σ2 H4 fun y H5=>N (ys++[y]) σ2 H5 else N ys σ2 H4):=by
 refine⟨fun i m ys σ' H'=>m=n-i/\i<=n/\Pv i ys σ' H',⟨n,by simp,GL _,h0⟩,?_⟩;rintro i m ys σ' H' ⟨rfl,hi,p⟩;have hl:=hy i ys σ' H' p
 by_cases hlt:i<n
 ·exact .inr ⟨hgo i ys σ' H' hlt p,by omega,fun ys' σ2 H2=>Pv (i+1) ys' σ2 H2,fun ys' σ2 H2 p'=>⟨n-(i+1),by omega,rfl,hlt,p'⟩,fun x H2 y=>hs i ys x σ' H' H2 hlt y p⟩
 ·have e:i=n:=by omega
  subst e;exact .inl ⟨hstop ys σ' H' p,by omega,fun q hq=>hd ys σ' H' p q _ hq (.new hq) Jl⟩
def JfO{tl:TE}{g:TG}{tt:TT}{imp:List (Option Nat)}{a:Qh}{xs:List V}(hx:∀R:VK,R (.ref a) H1->tl σ H R)(hq:SqL K H1 a xs\/SqT K H1 a xs)(hn:xs.length<=Qr)(Pv:Nat->List V->St->Hp->Prop)
 (h0:Pv 0 [] (Jad imp σ) H1) (hy:∀i ys σ' H',Pv i ys σ' H'->ys.length<=i) (hS:∀i ys σ' H',Pv i ys σ' H'->Same H1 H')
 (hs:∀i ys x σ' H',xs[i]?=some x->Pv i ys σ' H'->g x σ' H' fun σ2 H3=>tt σ2 H3 fun b H4=>if b=true then te σ2 H4 fun y H5=>Pv (i+1) (ys++[y]) σ2 H5 else Pv (i+1) ys σ2 H4)
 (hd:∀ys σ' H',Pv xs.length ys σ' H'->∀p H2,H' p=none->Same H' H2->H2 p=some (.lst ys)->Q (.ref p) H2):Jhz (Jfo K tl) g tt te imp σ H Q:=by
 rcases hq with hq|hq
 ·refine .inl (hx _ ⟨a,rfl,⟨xs,hq⟩,Jgv (n:=xs.length) hn Pv h0 hy (fun ys σ' H' p=>⟨xs,(hS _ _ _ _ p).seq hq,Qu _⟩) (fun i ys σ' H' hi p=>⟨xs,xs[i],(hS _ _ _ _ p).seq hq,by simp[hi]⟩) (fun i ys x σ' H' H2 hi y p=>?_) hd⟩);obtain⟨e,y⟩:=y;subst e;exact hs i ys x σ' _ (y xs ((hS _ _ _ _ p).seq hq)) p
 ·refine .inr (hx _ ⟨a,rfl,⟨xs,hq⟩,Jgv (n:=xs.length) hn Pv h0 hy (fun ys σ' H' p=>⟨xs,(hS _ _ _ _ p).seqT hq,Qu _⟩) (fun i ys σ' H' hi p=>⟨xs,xs[i],(hS _ _ _ _ p).seqT hq,by simp[hi]⟩) (fun i ys x σ' H' H2 hi y p=>?_) hd⟩);obtain⟨e,y⟩:=y;subst e;exact hs i ys x σ' _ (y xs ((hS _ _ _ _ p).seqT hq)) p
end
section
variable{X:Cx}{K:Qz}{pos:Pos}
def Jg3(hK:X.K=K):OpR X (binaryOp .Add) (Jhf K):=hK▸JmQ
def Jkc(hK:X.K=K)(hu:X.A.units+64<cLine):OpR X (compareOp .Eq) (Jp7 K):=hK▸JpO hu
def W4(hK:X.K=K)(hu:X.A.units+64<cLine):OpR X (compareOp .NotEq) (Jqa K):=hK▸JpS hu
def YT(hK:X.K=K):Yo X (.builtin "len") (JfN K):=hK▸JhO
def Vj(hK:X.K=K):Yo X (.type "tuple") (Vr K):=hK▸Jdp
def Y9(hK:X.K=K):Yo X (.builtin "isinstance") (Jm7 K):=hK▸Ji6
def Jmk(hK:X.K=K):IxR X (rIx K):=hK▸JjQ
def Yg{e:Gu}{ta:TE}{f:Str}(hK:X.K=K)(he:PE X e ta)(hb:attributeBase e f X.env (eval e X.env)=eval e X.env):PE X (.Attribute e f pos) (JqF K ta f):=hK▸JpY he hb
def Jm5{o value:Gu}{f:Str}{pos':Pos}{ta tv:TE}(hK:X.K=K)(ha:PE X o ta)(hv:PE X value tv)(hs:swapsWith value (some (.Attribute o f pos')) pos.line X.env=pure false):PS X (.Assign [.Attribute o f pos'] value pos) (Jqs K ta tv f):=hK▸Jp4 ha hv hs
def Jm1(hK:X.K=K)(hl:PE X l tl):PI X tg l (Jfo K tl):=hK▸Jp1 hl
def Jx{es:List Gu}{k:Nat}{t:TGs}{n:Nat}(hK:X.K=K)(hc:X.calm=true)(h:PGs X es t)(hn:(assignEach es X.env).length=n)(hst:(assignEach es X.env).findIdx? (·.1)=none):PG X (.Tuple es k pos) (Jh1 K n t):=hK▸Jp0 hc h hn hst
def Yi{a:Gu}{ta:TE}(hK:X.K=K)(ha:PE X a ta)(he:∀whole,isTrue a X.env whole=(do let v <- whole;standAt a.pos;holding [v] (truthy v))):PT X a (JqJ K ta):=hK▸Jp5 ha he
def UF{o e:Gu}{es:List Gu}{to:TE}{t:TA}{name:Str}{apos cpos:Pos}{T id:String}{r:V->List V->Hp->VK->Prop}(hK:X.K=K)(pa:PlainAttrs T)(slot:Slot T name id)(hty:typeOf (.builtin id)=pure (.type "method_descriptor"))(hm:MtR X id r)(ho:PE X o to)(ha:PA X (e::es) t)
 (hbase:attributeBase o name X.env (eval o X.env)=eval o X.env:=by rfl)
 (hfew:((backTo cpos (starEach (e::es) X.env)).all (fun x=>!x.1) && (backToKw cpos (keywordEach [] X.env)).all (fun x=>x.1.isSome)
  && decide ((e::es).length+([]:List Xe).length+(if ([]:List Xe).isEmpty then 0 else 1)<30))=true:=by rfl)
 (hline:(apos.endLine == cpos.line)=true:=by rfl) (hs:starEach (e::es) X.env=(false,eval e X.env)::starEach es X.env:=by rfl) (hplain:(backTo cpos (starEach es X.env)).any (·.1)=false:=by rfl) :
 PE X (.Call (.Attribute o name apos) (e::es) [] cpos) (tBM K T r to t):=hK▸JrL pa slot hty hm ho ha hbase hfew hline hs hplain
def Jg6{o:Gu}{to:TE}{name:Str}{apos cpos:Pos}{T id:String}{r:V->List V->Hp->VK->Prop}(hK:X.K=K)(pa:PlainAttrs T)(slot:Slot T name id)(hty:typeOf (.builtin id)=pure (.type "method_descriptor"))(hm:MtR X id r)(ho:PE X o to)
 (hbase:attributeBase o name X.env (eval o X.env)=eval o X.env:=by rfl) (hline:(apos.endLine == cpos.line)=true:=by rfl):PE X (.Call (.Attribute o name apos) [] [] cpos) (JnL K T r to):=hK▸JpX pa slot hty hm ho hbase hline
end
end L2
namespace LR
open PySem L2
def sz2{a b:V}:[a,b].length<=Qr:=by show 2<=Qr;decide
noncomputable abbrev Pr:=Int×Int
noncomputable def prD(p:Pr):PyData:=.tuple [.int p.1,.int p.2]
def Jm2(r:Rep K H v (prD p)):∃a,v=.ref a/\SqT K H a [.int p.1,.int p.2]:=by
 obtain⟨a,xs,rfl,h,l,q⟩:=r.tupI
 match xs,l,q,h with
 | [x,y],_,q,h =>
  have e1:=(q 0 x (.int p.1) rfl rfl).intI
  have e2:=(q 1 y (.int p.2) rfl rfl).intI;subst e1 e2;exact⟨a,rfl,h⟩
def Jkp(h:SqT K H a [.int b,.int n]):Rep K H (.ref a) (prD (b,n)):=.tupL h (.cons (.int b) (.cons (.int n) .nil))
def Jm3(h:H a=some (.tup [.int b,.int n])):Rep K H (.ref a) (prD (b,n)):=Jkp (.of h)
noncomputable abbrev Prs(K:Qz)(H:Hp)(vs:List V)(ps:List Pr):Prop:=RepL K H vs (ps.map prD)
def Prs.len(r:Prs K H vs ps):vs.length=ps.length:=by have:=r.1;rwa [Qp] at this
def Prs.at{vs:List V}{ps:List Pr}{i:Nat}{v:V}(r:Prs K H vs ps)(e:vs[i]?=some v):∃p a,ps[i]?=some p/\v=.ref a/\SqT K H a [.int p.1,.int p.2]:=by
 obtain⟨d,h1,h2⟩:=r.get' e;rw[Qq] at h1
 cases hp:ps[i]? with
 | none=>rw[hp] at h1;cases h1
 | some p=>rw[hp] at h1;cases h1;obtain⟨a,e1,e2⟩:=Jm2 h2;exact⟨p,a,rfl,e1,e2⟩
def Prs.snoc(r:Prs K H vs ps)(h:Rep K H v (prD p)):Prs K H (vs++[v]) (ps++[p]):=by show RepL K H _ _;rw[QT];exact RepL.snoc r h
noncomputable def Jlw(K:Qz)(H:Hp)(v:V)(ps:List Pr):Prop:=∃a vs,v=.ref a/\(SqL K H a vs\/SqT K H a vs)/\Prs K H vs ps
structure Good (ps:List Pr):Prop where
 one:∀(i:Nat) (p:Pr),ps[i]?=some p->1<=p.2
 gap:∀(i:Nat) (p q:Pr),ps[i]?=some p->ps[i+1]?=some q->p.1+p.2<q.1
def Good.nil:Good []:=⟨fun i p e=>by simp at e,fun i p q e=>by simp at e⟩
def Good.snoc(g:Good ps)(h1:1<=p.2)(h2:∀q,ps[ps.length-1]?=some q->q.1+q.2<p.1):Good (ps++[p]):=by
 refine⟨fun i q e=>?_,fun i q r e1 e2=>?_⟩
 ·by_cases hi:i<ps.length
  ·rw[QO hi] at e;exact g.one i q e
  ·rw[QQ (by omega)] at e;obtain⟨h3,h4⟩:=Qo.mp e;have:i-ps.length=0:=by simp at h3;omega
   rw[this] at e;simp at e;subst e;exact h1
 ·by_cases hi:i+1<ps.length
  ·rw[QO (by omega)] at e1;rw[QO hi] at e2;exact g.gap i q r e1 e2
  ·rw[QQ (by omega)] at e2;obtain⟨h3,h4⟩:=Qo.mp e2;have h5:i+1-ps.length=0:=by simp at h3;omega
   rw[h5] at e2;simp at e2;subst e2;have h6:i=ps.length-1:=by omega
   have h7:i<ps.length:=by omega
   rw[QO h7] at e1;rw[h6] at e1;exact h2 q e1
noncomputable def JfP(t:Qh):List (Str×V):=[("stretches",.ref t)]
noncomputable def Jq6(C:Qh)(K:Qz)(H:Hp)(v:V)(ps:List Pr):Prop :=
 ∃x dx t ts,v=.ref x/\H x=some (.ins C dx (JfP t))/\H t=some (.tup ts)/\Prs K H ts ps
structure RowC (K:Qz) (C:Qh):Prop where
 cl:Cls K C
 ns:NoAttr K C "stretches"
def JiC(t:Qh):(JfP t).lookup ("stretches":Str)=some (.ref t):=by
 unfold JfP;rw[List.lookup_cons];have:(("stretches":Str) == ("stretches":Str))=true:=by decide +kernel
 rw[this]
def Jkt(t:Qh):putF "stretches" (.ref t) []=JfP t:=rfl
noncomputable def Jc2(K:Qz):Sp:=fun vs H Q _=>∃v ps,vs=[v]/\Jlw K H v ps/\Good ps/\∀H',Same H H'->Q .non H'
noncomputable def Vb(C:Qh)(K:Qz):Sp:=fun vs H Q _=>∃x dx v ps,vs=[.ref x,v]/\H x=some (.ins C dx [])/\Jlw K H v ps/\Good ps/\ps.length<=30 ∧
 ∀H' t ts,SameEx x H H'->H' x=some (.ins C dx (JfP t))->H' t=some (.tup ts)->Prs K H' ts ps->Q .non H'
noncomputable def JiO(C:Qh)(sp:Sp)(E:XK)(vs:List V)(H1:Hp)(Q:VK):Prop:=∀x dx,H1 x=none->H1 dx=none->dx≠x ->
 sp (.ref x::vs) (upd (upd H1 dx (.own x)) x (.ins C dx [])) (fun v H2=>v=.non/\Q (.ref x) H2) E
def Jhk(q:ts σ H fun vs H1=>JiO C sp E vs H1 Q):JhA C sp [] E ts σ H Q:=by
 have e:(fun vs H1=>JiO C sp E vs H1 Q)=fun vs H1=>∀x dx,H1 x=none->H1 dx=none->dx≠x->sp (.ref x::(vs++[])) (upd (upd H1 dx (.own x)) x (.ins C dx [])) (fun v H2=>v=.non/\Q (.ref x) H2) E:=by funext vs H1;rw[KQ];rfl
 show ts σ H _;rw[<- e];exact q
def Jqm(h:Jlw K H v ps)(g:Good ps)(hl:ps.length<=30)(q:∀x H',H x=none->Same H H'->Jq6 C K H' (.ref x) ps->Q (.ref x) H'):JiO C (Vb C K) E [v] H Q:=by
 intro x dx nx ndx nex
 have s0:Same H (upd (upd H dx (.own x)) x (.ins C dx [])):=fun b o e=>by rw[Je (Jn e nx),Je (Jn e ndx)];exact e
 obtain⟨a,vs,rfl,hq,hp⟩:=h;refine⟨x,dx,_,ps,rfl,Jl,⟨a,vs,rfl,hq.imp s0.seq s0.seqT,RepL.mono s0 hp⟩,g,hl,fun H' t ts e h1 h2 h3=>⟨rfl,q x H' nx (fun b o h=>e b o (Jn h nx) (s0 b o h)) ⟨x,dx,t,ts,rfl,h1,h2,h3⟩⟩⟩
noncomputable def cell(ns:List Int)(k:Int):Int:=ns.getD k.toNat 0
def Ji9(h:¬k<(ns.length:Int)):cell ns k=0:=by unfold cell;rw[GC,Gz (by omega)];rfl
noncomputable def spr(ns:List Int)(at' span p0:Int):Nat->Int×List Pr
 | 0=>(p0,[])
 | i+1=>((spr ns at' span p0 i).1+(1+cell ns (at'+1+2*i) % span)+1+cell ns (at'+2+2*i) % span,(spr ns at' span p0 i).2++[((spr ns at' span p0 i).1,1+cell ns (at'+1+2*i) % span)])
theorem VO(ns:List Int)(at' span p0:Int):∀i,(spr ns at' span p0 i).2.length=i
 | 0=>rfl
 | i+1=>by show(_++[_]).length=_;rw[QA,VO ns at' span p0 i];rfl
theorem JeK(ns:List Int)(at' span p0:Int)(hs:0<span):∀i,Good (spr ns at' span p0 i).2/\∀q,(spr ns at' span p0 i).2[i-1]?=some q->q.1+q.2<(spr ns at' span p0 i).1
 | 0=>⟨Good.nil,fun q e=>by simp[spr] at e⟩
 | i+1=>by
  obtain⟨g,h⟩:=JeK ns at' span p0 hs i;have m1:=LG (cell ns (at'+1+2*i)) (b:=span) (by omega);have m2:=LG (cell ns (at'+2+2*i)) (b:=span) (by omega);refine⟨g.snoc (by show 1<=1+_;omega) (by rw[VO];exact h),fun q e=>?_⟩;have e':((spr ns at' span p0 i).2++[((spr ns at' span p0 i).1,1+cell ns (at'+1+2*i) % span)])[i]?=some q:=e;rw[QQ (by rw[VO];exact Qu _),VO] at e'
  simp at e';subst e';show _+(1+_)<_+(1+_)+1+_;omega
noncomputable def Jeo(l:List Int)(k:Int):Int:=l.getD k.toNat 0
def Jkn{l:List Int}{k:Int}{P:Int->Prop}(h0:0<=k)(h1:k<(l.length:Int))(h:∀x∈l,P x):P (Jeo l k):=by
 unfold Jeo;have:k.toNat<l.length:=by omega
 rw[GC,QB this];exact h _ (Rr this)
noncomputable def Jgi(ps:List Pr):Nat->V
 | 0=>.non
 | i+1=>match ps[i]? with
  | some p=>.int (p.1+p.2)
  | none=>.non
def Vh(e:ps[i]?=some p):Jgi ps (i+1)=.int (p.1+p.2):=by show(match ps[i]? with|some p=>V.int (p.1+p.2)|none=>V.non)=_;rw[e]
def Jja(h:Jlw K H v ps)(g:Good ps)(q:∀H',Same H H'->Q .non H'):Jc2 K [v] H Q E:=⟨v,ps,rfl,h,g,q⟩
def Jeu(h:SqL K H a xs\/SqT K H a xs)(q:Q (.int xs.length) H):JfN K [.ref a] H Q:=by
 rcases h with h|h
 ·exact Jnc h q
 ·exact Jne h q
def SameEx.sqT'(e:SameEx x H H')(hx:H x=some (.ins C dx fs))(h:SqT K H a xs):SqT K H' a xs:=by
 rcases h with (h|⟨o,h⟩)|h
 ·exact .inl (.inl (e _ _ (JbL h hx (by intro z;cases z)) h))
 ·exact .inl (.inr ⟨o,e _ _ (JbL h hx (by intro z;cases z)) h⟩)
 ·exact .inr h
def Prs.monoIns(e:SameEx x H H')(hx:H x=some (.ins C dx fs))(r:Prs K H vs ps):Prs K H' vs ps:=by refine⟨r.1,fun i v d h1 h2=>?_⟩;obtain⟨p,a,e1,e2,e3⟩:=r.at h1;rw[Qq,e1] at h2;cases h2;subst e2;exact Jkp (SameEx.sqT' e hx e3)
noncomputable def Jsg(K:Qz):Sp:=fun vs H Q _=>∃(a:Qh) (ns:List Int),vs=[.ref a]/\SqL K H a (ns.map V.int)/\ns.length<=63/\∀H',Q (.bl true) H'
end LR
namespace L2
open PySem PySem.Spec PyProof.Rows
def JbD(hh:A'.handled=none)(I:Inv X pins σ H s)(hq:SqL X.K H a vs\/SqT X.K H a vs)(h:∀(its:List Qe) (J:Qh) (fp wr:List Qh) (Sx:Nat->Q2->Prop) (s2:Qg),Vals vs its->Walks X.prog X.w A' J fp wr its.toArray.size (fun i v=>its.toArray[i]?=some v) Sx->Sx 0 s2.heap->(∀b∈fp,b<s2.heap.objs.size) ->
  (∀h' tk,(∀b o,b∉wr->s2.heap.get? b=some o->h'.get? b=some o)->Inv X pins σ H { s2 with heap:=h',toks:=tk })->Q (.ref J) s2):wpAny (model X.prog X.w) A' (pyIter (.ref a)) Q E s:=by
 have nin:∀b o,s.heap.get? b=some o->b∉[s.heap.objs.size]:=fun b o e z=>by
  have:b=s.heap.objs.size:=by simpa using z
  exact absurd (Qn e) (by rw[this];exact Gh _)
 rcases hq with hq|hq
 ·obtain⟨its,rv,p,hz⟩:=I.list hq;have hlt:a<s.heap.objs.size:=by obtain⟨_,e,_⟩:=p.isList;exact Qn e
  refine Mm p.isList ?_;refine h its _ _ _ _ _ rv (Walks.list hh _ a (QF hlt) its.toArray) ⟨⟨_,Qm _ rfl,rfl,rfl⟩,p.isList.push _⟩ (fun b hb=>?_) fun h' tk hk=>I.kept fun b o e=>hk b o (nin b o e) (Qi _ e)
  show b<(s.heap.push _).objs.size;rw[Gy];rcases Qk.mp hb with z|z
  ·rw[z];exact GY _
  ·have:b=a:=by simpa using z
   rw[this];exact GQ hlt
 ·obtain⟨its,rv,p,hz⟩:=I.tuple hq;have ht:s.heap.IsTuple a its.toArray:=p;have hlt:a<s.heap.objs.size:=by obtain⟨_,e,_⟩:=ht;exact Qn e
  refine MT ht ?_;refine h its _ _ _ _ _ rv (Walks.tuple hh _ a (QF hlt) its.toArray) ⟨⟨_,Qm _ rfl,rfl,rfl⟩,?_⟩ (fun b hb=>?_) fun h' tk hk=>I.kept fun b o e=>hk b o (nin b o e) (Qi _ e)
  ·obtain⟨o,e,c⟩:=ht;exact⟨o,Qi _ e,c⟩
  ·show b<(s.heap.push _).objs.size;rw[Gy];rcases Qk.mp hb with z|z
   ·rw[z];exact GY _
   ·have:b=a:=by simpa using z
    rw[this];exact GQ hlt
theorem Zo(l:List Int):∀j,j<=l.length->preSum (fun i=>l.getD i 0) j=(l.take j).sum
 | 0,_=>by simp[preSum]
 | j+1,h=>by
  rw[preSum,Zo l j (by omega)];have hj:j<l.length:=by omega
  rw[List.take_add_one,LH];simp[hj]
section
variable{X:Cx}
noncomputable def Jqd(K:Qz):List V->Hp->VK->Prop:=fun xs H Q=>∃(a:Qh) (ns:List Int),xs=[.ref a]/\(SqL K H a (ns.map V.int)\/SqT K H a (ns.map V.int))/\Q (.int ns.sum) H
def JhV(hc:X.calm=true):Yo X (.builtin "sum") (Jqd X.K):=by
 intro pins s σ H xs us Q I r h;obtain⟨a,ns,rfl,hq,q⟩:=h;obtain⟨u,rfl,rx⟩:=Vd r;cases rx;refine call_sum_walkG (JbD (A':=X.A.in1) (I.ok.hd hc) I hq fun its J fp wr Sx s2 rv W st hfp hI=>?_);have hi:=Yw rv;have hl:=rv.length;rw[Qp] at hl;refine⟨J,fp,wr,_,_,Sx,fun i=>ns.getD i 0,rfl,W,st,hfp,fun i v e=>?_,fun h' tk t' hk=>?_⟩
 ·have e':its[i]?=some v:=by simpa using e
  obtain⟨x,e1,e2⟩:=rv.get' e';rw[Qq] at e1
  cases hn:ns[i]? with
  | none=>rw[hn] at e1;cases e1
  | some n=>rw[hn] at e1;cases e1;obtain⟨t,rfl⟩:=e2;exact⟨t,by simp[GC,hn]⟩
 ·refine⟨.int ns.sum,H,hI h' tk hk,⟨t',?_⟩,q⟩;rw[show its.toArray.size=ns.length by simp[hl],Zo ns _ (Qu _),List.take_length]
noncomputable def Jp6(K:Qz):List V->Hp->VK->Prop:=fun xs H Q=>∃(a:Qh) (bs:List Bool),xs=[.ref a]/\(SqL K H a (bs.map V.bl)\/SqT K H a (bs.map V.bl))/\Q (.bl (bs.any id)) H
def Jiz(bs:List Bool):(Q1 bs.length).any (fun i=>bs.getD i false)=bs.any id:=by
 rw[Ki];simp only[Lp,List.mem_range,id];constructor
 ·rintro⟨i,hi,e⟩;simp[GC,hi] at e;exact⟨bs[i],Rr hi,e⟩
 ·rintro⟨b,hb,rfl⟩;obtain⟨i,hi,e⟩:=GD.mp hb;exact⟨i,hi,by simp[GC,hi,e]⟩
def JeR{bs:List Bool}{its:List Qe}(rv:Vals (bs.map V.bl) its):TruthOf X.prog X.w A (fun i v=>its.toArray[i]?=some v) (fun i=>bs.getD i false):=by
 intro i v s Q E e q;have e':its[i]?=some v:=by simpa using e
 obtain⟨x,e1,e2⟩:=rv.get' e';rw[Qq] at e1
 cases hn:bs[i]? with
 | none=>rw[hn] at e1;cases e1
 | some n =>
  rw[hn] at e1;cases e1;cases e2;have:bs.getD i false=n:=by simp[GC,hn]
  have q':Q (bs.getD i false) s:=q;rw[this] at q';exact LP q'
def JhN(hc:X.calm=true):Yo X (.builtin "any") (Jp6 X.K):=by intro pins s σ H xs us Q I r h;obtain⟨a,bs,rfl,hq,q⟩:=h;obtain⟨u,rfl,rx⟩:=Vd r;cases rx;refine call_any_walk (JbD (A':=X.A.in1) (I.ok.hd hc) I hq fun its J fp wr Sx s2 rv W st hfp hI=>?_);have hl:=rv.length;rw[Qp] at hl;refine⟨J,fp,wr,_,_,Sx,_,rfl,W,st,JeR rv,fun h' tk hk=>⟨.bl _,H,hI h' tk hk,rfl,?_⟩⟩;rw[show its.toArray.size=bs.length by simp[hl],Jiz];exact q
end
section
variable{X:Cx}{K:Qz}
def Ua(hK:X.K=K)(hc:X.calm=true):Yo X (.builtin "sum") (Jqd K):=hK▸JhV hc
def JhM(hK:X.K=K)(hc:X.calm=true):Yo X (.builtin "any") (Jp6 K):=hK▸JhN hc
end
noncomputable def AllP{α:Type}(P:α->Prop):List α->Prop
 | []=>True
 | x::xs=>P x/\AllP P xs
theorem AllP.mem{α:Type}{P:α->Prop}:∀{l:List α},AllP P l->∀x∈l,P x
 | [],_,x,hx=>nomatch hx
 | y::l,h,x,hx=>by
  rcases Qk.mp hx with z|z
  ·rw[z];exact h.1
  ·exact AllP.mem h.2 x z
def V6{cl:List (Str×Qh)}(h:cl.any (fun p=>p.1 == x)=true):(cl.lookup x).isSome=true:=by
 induction cl with
 | nil=>simp at h
 | cons p cl ih =>
  obtain⟨n,a⟩:=p;rw[List.lookup_cons]
  by_cases e:x == n
  ·rw[e];rfl
  ·have e':(x == n)=false:=by simpa using e
   rw[e'];rw[G7] at h;rcases Bool.or_eq_true_iff.mp h with z|z
   ·have:n=x:=eq_of_beq z;rw[this] at e';simp at e'
   ·exact ih z
def Jdm{X:Cx}{sc:Mg}{cl:List (Str×Qh)}{own:List Str}{fr:List (Str×Nat)}(h1:sc.kind=.function)(h2:closureFor sc X.env=pure cl)
 (h3:(sc.names.all fun y=>y.2 != .cell && (y.2 != .local || sc.names.lookup y.1 == some .local))=true) (h4:AllP (fun p=>X.env.cells.lookup p.1=some p.2) cl)
 (h5:((relabel sc X.env).names.all fun y=>(y.2 != .cell && y.2 != .free) || cl.any (fun p=>p.1 == y.1))=true)
 (h6:AllP (fun p=>X.N[p.2]?=some p.1/\X.env.scope.names.lookup p.1=some .cell/\(relabel sc X.env).names.lookup p.1=some .cell) fr) :
 Blk X sc cl (own++fr.map (·.1)) (own.map (fun _=>none)++fr.map (fun p=>some p.2)):=by
 simp only[L0,QR] at h3;simp only[L0] at h5;refine⟨h2,h1,fun y hy=>?_,fun y hy hl=>?_,AllP.mem h4,fun y hy hk=>?_,by simp,fun p hp k e=>?_⟩
 ·have:=(h3 y hy).1
  simpa using this
 ·have:=(h3 y hy).2;rw[hl] at this
  simpa using this
 ·have:=h5 y hy;rcases Bool.or_eq_true_iff.mp this with z|z
  ·rcases hk with q|q
   ·rw[q] at z;simp at z
   ·rw[q] at z;simp at z
  ·exact V6 z
 ·rw[RO (by simp)] at hp;rcases GH.mp hp with z|z
  ·have:=(KR z).1;obtain⟨_,_,q⟩:=Qx.mp this;rw[<- q] at e;cases e
  ·rw[List.zip_map_left] at z;obtain⟨q,hq,eq⟩:=Qx.mp z
   have hz:q.1∈fr/\q.1.1=q.2:=by
    clear h6 e eq z hp;rw[List.zip_map_right] at hq;obtain⟨q',hq',eq'⟩:=Qx.mp hq
    have:q'.1=q'.2:=by
     clear eq' hq
     induction fr with
     | nil=>cases hq'
     | cons x fr ih =>
      rcases Qk.mp hq' with z|z
      ·rw[z]
      ·exact ih z
    rw[<- eq'];exact⟨(KR hq').1,by show q'.1.1=q'.2.1;rw[this]⟩
   obtain⟨a1,a2,a3⟩:=AllP.mem h6 q.1 hz.1;rw[<- eq] at e ⊢;have ek:q.1.2=k:=by simpa using e
   subst ek;rw[hz.2] at a1 a2 a3;exact⟨a1,.inl a2,.inl a3⟩
end L2
namespace LR
open PySem L2
noncomputable def Small(i:Int):Prop:=i.natAbs.log2<1920
def Small.of{i:Int}(h:i.natAbs<2 ^ 1920):Small i:=by
 unfold Small
 by_cases h0:i.natAbs=0
 ·rw[h0];decide
 ·exact(Nat.log2_lt h0).mpr h
def Small.le(h1:-(10 ^ 100)<=i)(h2:i<=10 ^ 100):Small i:=Small.of (by
 have h3:i.natAbs<=10 ^ 100:=by omega
 exact Kv h3 (by decide +kernel))
end LR
namespace LE
open PySem L2 LR
structure Xm where
 n:Str
 k:Option Int
instance:Coe Str Xm:=⟨fun s=>⟨s,none⟩⟩
noncomputable def JlI:Qe->Qe
 | .int i _=>.ref i.toNat
 | v=>v
noncomputable def JlH:Qe->Option Qh
 | .int _ t=>some t
 | _=>none
inductive D where
 | non|bl (b:Bool)|int (i:Int)|str (x:Str)|tup (l:List D)|lst (l:List D)|fz (l:List D)|row (l:List D)|dct (ks:List Int) (l:List D)|dfz (ks:List Int) (l:List D)|exc (n:Xm)
noncomputable def dkO(ks:List Int)(xs:List V):HO:=.dK ((ks.map Sum.inl).zip xs)
noncomputable def dtK(p:Int×Int):List Key:=[Sum.inl p.1,Sum.inl p.2]
noncomputable def dtO(ps:List (Int×Int))(xs:List V):HO:=.dT ((ps.map dtK).zip xs)
noncomputable def XO(a:Qh)(c:Qe):HO:=.ext fun h=>∃o,h.get? a=some o/\o.cls=JlI c/\PySem.W.notCls o=true/\o.dict=JlH c
noncomputable def XC(K:Qz)(n:Xm)(c:Qe)(H:Hp):Prop:=∃a:Nat,nsIn K mainGlobals n.n=some (some (.ref a))/\match n.k with
 | none=>c=.ref a
 | some k=>∃t,c=.int a t/\H t=some (.xd [("at",.int k)])
def XC.mono(e:Same H H')(x:XC K n c H):XC K n c H':=by
 obtain⟨a,h1,h2⟩:=x;refine⟨a,h1,?_⟩
 cases z:n.k with
 | none=>rw[z] at h2;exact h2
 | some k=>rw[z] at h2;obtain⟨t,h3,h4⟩:=h2;exact⟨t,h3,e _ _ h4⟩
def XC.cls(x:XC K n c H):∃a,nsIn K mainGlobals n.n=some (some (.ref a))/\JlI c=.ref a:=by
 obtain⟨a,h1,h2⟩:=x;refine⟨a,h1,?_⟩
 cases z:n.k with
 | none=>rw[z] at h2;cases h2;rfl
 | some k=>rw[z] at h2;obtain⟨t,h3,h4⟩:=h2;cases h3;rfl
noncomputable def XdO(c:Qe)(H:Hp):Prop:=match JlH c with
 | none=>True
 | some t=>∃fs,H t=some (.xd fs)
def XC.xd(x:XC K n c H):XdO c H:=by
 obtain⟨a,h1,h2⟩:=x
 cases z:n.k with
 | none=>rw[z] at h2;cases h2;exact True.intro
 | some k=>rw[z] at h2;obtain⟨t,h3,h4⟩:=h2;cases h3;exact⟨_,h4⟩
section
variable(K:Qz)(C:Qh)
inductive RD (H:Hp):V->D->Prop
 | non:RD H .non .non
 | bl (b:Bool):RD H (.bl b) (.bl b)
 | int (i:Int):RD H (.int i) (.int i)
 | str (x:Str):RD H (.str x) (.str x)
 | tup {a:Qh} {xs:List V} {ds:List D}:SqT K H a xs->xs.length=ds.length->(∀(i:Nat) (x:V) (d:D),xs[i]?=some x->ds[i]?=some d->RD H x d)->RD H (.ref a) (.tup ds)
 | lst {a:Qh} {xs:List V} {ds:List D}:H a=some (.lst xs)->xs.length=ds.length->(∀(i:Nat) (x:V) (d:D),xs[i]?=some x->ds[i]?=some d->RD H x d)->RD H (.ref a) (.lst ds)
 | fz {a:Qh} {xs:List V} {ds:List D}:SqL K H a xs->xs.length=ds.length->(∀(i:Nat) (x:V) (d:D),xs[i]?=some x->ds[i]?=some d->RD H x d)->RD H (.ref a) (.fz ds)
 | row {x dx t:Qh} {ts:List V} {ds:List D}:H x=some (.ins C dx (JfP t))->SqT K H t ts->ts.length=ds.length->(∀(i:Nat) (x:V) (d:D),ts[i]?=some x->ds[i]?=some d->RD H x d)->RD H (.ref x) (.row ds)
 | dct {a:Qh} {ks:List Int} {xs:List V} {ds:List D}:H a=some (dkO ks xs)->ks.length=ds.length->xs.length=ds.length->(∀(i:Nat) (x:V) (d:D),xs[i]?=some x->ds[i]?=some d->RD H x d)->RD H (.ref a) (.dct ks ds)
 | dfz {a:Qh} {ks:List Int} {xs:List V} {ds:List D} {o:Obj}:H a=some (.frz o (dkO ks xs))->ks.length=ds.length->xs.length=ds.length->(∀(i:Nat) (x:V) (d:D),xs[i]?=some x->ds[i]?=some d->RD H x d)->RD H (.ref a) (.dfz ks ds)
 | exc {a:Qh} {c:Qe} {n:Xm}:H a=some (XO a c)->XC K n c H->RD H (.ref a) (.exc n)
noncomputable def RDL(H:Hp)(xs:List V)(ds:List D):Prop:=xs.length=ds.length/\∀(i:Nat) (x:V) (d:D),xs[i]?=some x->ds[i]?=some d->RD K C H x d
end
def RD.mono(e:Same H H')(r:RD K C H v d):RD K C H' v d:=by
 induction r with
 | non=>exact .non
 | bl b=>exact .bl b
 | int i=>exact .int i
 | str x=>exact .str x
 | tup h l _ ih=>exact .tup (e.seqT h) l ih
 | lst h l _ ih=>exact .lst (e _ _ h) l ih
 | fz h l _ ih=>exact .fz (e.seq h) l ih
 | row h1 h2 l _ ih=>exact .row (e _ _ h1) (e.seqT h2) l ih
 | dct h1 h2 l _ ih=>exact .dct (e _ _ h1) h2 l ih
 | dfz h1 h2 l _ ih=>exact .dfz (e _ _ h1) h2 l ih
 | exc h1 h2=>exact .exc (e _ _ h1) (h2.mono e)
def RDL.mono(e:Same H H')(r:RDL K C H xs ds):RDL K C H' xs ds:=⟨r.1,fun i x d h1 h2=>(r.2 i x d h1 h2).mono e⟩
def RDL.nil:RDL K C H [] []:=⟨rfl,fun i x d e=>by simp at e⟩
def RDL.cons(h:RD K C H x d)(r:RDL K C H xs ds):RDL K C H (x::xs) (d::ds):=by
 refine⟨by simp[r.1],fun i y e h1 h2=>?_⟩
 cases i with
 | zero=>simp at h1 h2;subst h1 h2;exact h
 | succ i=>exact r.2 i y e (by simpa using h1) (by simpa using h2)
def RDL.append(r:RDL K C H xs ds)(q:RDL K C H ys es):RDL K C H (xs++ys) (ds++es):=by
 refine⟨by simp[r.1,q.1],fun i x d h1 h2=>?_⟩
 by_cases hi:i<xs.length
 ·rw[QO hi] at h1;rw[QO (by rw[<- r.1];exact hi)] at h2;exact r.2 i x d h1 h2
 ·rw[QQ (by omega)] at h1;rw[QQ (by rw[<- r.1];omega)] at h2;rw[<- r.1] at h2;exact q.2 _ x d h1 h2
def RDL.snoc(r:RDL K C H xs ds)(h:RD K C H x d):RDL K C H (xs++[x]) (ds++[d]):=r.append (.cons h .nil)
def RDL.get{xs:List V}{ds:List D}{i:Nat}{d:D}(r:RDL K C H xs ds)(e:ds[i]?=some d):∃x,xs[i]?=some x/\RD K C H x d:=by
 have hi:=(Qo.mp e).1
 have hx:i<xs.length:=by rw[r.1];exact hi
 exact⟨xs[i],by simp[hx],r.2 i _ d (by simp[hx]) e⟩
def RDL.head(r:RDL K C H (x::xs) (d::ds)):RD K C H x d:=r.2 0 x d rfl rfl
def RDL.tail(r:RDL K C H (x::xs) (d::ds)):RDL K C H xs ds:=⟨by have:=r.1;simpa using this,fun i y e h1 h2=>r.2 (i+1) y e (by simpa using h1) (by simpa using h2)⟩
def RDL.take(n:Nat)(r:RDL K C H xs ds):RDL K C H (xs.take n) (ds.take n):=by
 refine⟨by simp[r.1],fun i x d h1 h2=>?_⟩;rw[List.getElem?_take] at h1 h2;split at h1
 ·rw[if_pos (by assumption)] at h2;exact r.2 i x d h1 h2
 ·cases h1
def RDL.drop(n:Nat)(r:RDL K C H xs ds):RDL K C H (xs.drop n) (ds.drop n):=by refine⟨by simp[r.1],fun i x d h1 h2=>?_⟩;rw[List.getElem?_drop] at h1 h2;exact r.2 _ x d h1 h2
theorem RDL.ints:∀{xs:List V} {ns:List Int},RDL K C H xs (ns.map D.int)->xs=ns.map V.int
 | [],[],_=>rfl
 | [],_::_,r=>by have:=r.1;simp at this
 | _::_,[],r=>by have:=r.1;simp at this
 | x::xs,n::ns,r=>by have h:=r.head;cases h;rw[RDL.ints r.tail];rfl
theorem RDL.ofInts:∀(ns:List Int),RDL K C H (ns.map V.int) (ns.map D.int)
 | []=>.nil
 | n::ns=>.cons (.int n) (RDL.ofInts ns)
theorem RDL.bls:∀{xs:List V} {ns:List Bool},RDL K C H xs (ns.map D.bl)->xs=ns.map V.bl
 | [],[],_=>rfl
 | [],_::_,r=>by have:=r.1;simp at this
 | _::_,[],r=>by have:=r.1;simp at this
 | x::xs,n::ns,r=>by have h:=r.head;cases h;rw[RDL.bls r.tail];rfl
theorem RDL.strs:∀{xs:List V} {ns:List Str},RDL K C H xs (ns.map D.str)->xs=ns.map V.str
 | [],[],_=>rfl
 | [],_::_,r=>by have:=r.1;simp at this
 | _::_,[],r=>by have:=r.1;simp at this
 | x::xs,n::ns,r=>by have h:=r.head;cases h;rw[RDL.strs r.tail];rfl
def RD.mkT(h:SqT K H a xs)(r:RDL K C H xs ds):RD K C H (.ref a) (.tup ds):=.tup h r.1 r.2
def RD.mkL(h:H a=some (.lst xs))(r:RDL K C H xs ds):RD K C H (.ref a) (.lst ds):=.lst h r.1 r.2
def RD.mkF(h:SqL K H a xs)(r:RDL K C H xs ds):RD K C H (.ref a) (.fz ds):=.fz h r.1 r.2
def RD.tupI(r:RD K C H v (.tup ds)):∃a xs,v=.ref a/\SqT K H a xs/\RDL K C H xs ds:=by
 cases r with
 | tup h l q=>exact⟨_,_,rfl,h,l,q⟩
def RD.lstI(r:RD K C H v (.lst ds)):∃a xs,v=.ref a/\H a=some (.lst xs)/\RDL K C H xs ds:=by
 cases r with
 | lst h l q=>exact⟨_,_,rfl,h,l,q⟩
def RD.fzI(r:RD K C H v (.fz ds)):∃a xs,v=.ref a/\SqL K H a xs/\RDL K C H xs ds:=by
 cases r with
 | fz h l q=>exact⟨_,_,rfl,h,l,q⟩
def RD.rowI(r:RD K C H v (.row ds)):∃x dx t ts,v=.ref x/\H x=some (.ins C dx (JfP t))/\SqT K H t ts/\RDL K C H ts ds:=by
 cases r with
 | row h1 h2 l q=>exact⟨_,_,_,_,rfl,h1,h2,l,q⟩
def RD.mkD(h:H a=some (dkO ks xs))(hk:ks.length=ds.length)(r:RDL K C H xs ds):RD K C H (.ref a) (.dct ks ds):=.dct h hk r.1 r.2
def RD.dctI(r:RD K C H v (.dct ks ds)):∃a xs,v=.ref a/\H a=some (dkO ks xs)/\ks.length=ds.length/\RDL K C H xs ds:=by
 cases r with
 | dct h hk l q=>exact⟨_,_,rfl,h,hk,l,q⟩
def RD.mkZ(h:H a=some (.frz o (dkO ks xs)))(hk:ks.length=ds.length)(r:RDL K C H xs ds):RD K C H (.ref a) (.dfz ks ds):=.dfz h hk r.1 r.2
def RD.dfzI(r:RD K C H v (.dfz ks ds)):∃a xs o,v=.ref a/\H a=some (.frz o (dkO ks xs))/\ks.length=ds.length/\RDL K C H xs ds:=by
 cases r with
 | dfz h hk l q=>exact⟨_,_,_,rfl,h,hk,l,q⟩
def RD.intI(r:RD K C H v (.int i)):v=.int i:=by cases r;rfl
def RD.strI(r:RD K C H v (.str i)):v=.str i:=by cases r;rfl
def RD.blI(r:RD K C H v (.bl i)):v=.bl i:=by cases r;rfl
def RD.nonI(r:RD K C H v .non):v=.non:=by cases r;rfl
mutual
noncomputable def D.py:D->PyData
 | .non=>.none
 | .bl b=>.bool b
 | .int i=>.int i
 | .str x=>.str x
 | .tup l=>.tuple (D.pyL l)
 | .lst l=>.list (D.pyL l)
 | .fz l=>.list (D.pyL l)
 | .row _=>.dict []
 | .dct _ _=>.dict []
 | .dfz _ _=>.dict []
 | .exc _=>.dict []
noncomputable def D.pyL:List D->List PyData
 | []=>[]
 | d::ds=>d.py::D.pyL ds
end
theorem Jhe:∀ds:List D,D.pyL ds=ds.map D.py
 | []=>rfl
 | d::ds=>by rw[D.pyL,Jhe ds];rfl
theorem Jai:∀{ds:List PyData},LQ ds=true->∀d∈ds,d.canLay0=true
 | [],_,d,hd=>nomatch hd
 | x::ds,h,d,hd=>by
  have h':(PyData.canLay0 x && LQ ds)=true:=h;rw[QR] at h';rcases Qk.mp hd with z|z
  ·rw[z];exact h'.1
  ·exact Jai h'.2 d z
def RD.rep(r:RD K C H v d):d.py.canLay0=true->Rep K H v d.py:=by
 have all:∀{xs:List V} {ds:List D},xs.length=ds.length->(∀(i:Nat) (x:V) (d:D),xs[i]?=some x->ds[i]?=some d->d.py.canLay0=true->Rep K H x d.py)->LQ (D.pyL ds)=true->RepL K H xs (D.pyL ds):=by
  intro xs ds l ih hc;rw[Jhe] at hc ⊢;refine⟨by simpa using l,fun i x d h1 h2=>?_⟩;rw[Qq] at h2
  cases e:ds[i]? with
  | none=>rw[e] at h2;cases h2
  | some q=>rw[e] at h2;cases h2;exact ih i x q h1 e (Jai hc _ (Qx.mpr ⟨q,QI e,rfl⟩))
 induction r with
 | non=>intro _;exact .non
 | bl b=>intro _;exact .bl b
 | int i=>intro _;exact .int i
 | str x=>intro _;exact .str x
 | tup h l _ ih=>intro hc;exact .tupL h (all l ih hc)
 | lst h l _ ih=>intro hc;exact .lstL (.of h) (all l ih hc)
 | fz h l _ ih=>intro hc;exact .lstL h (all l ih hc)
 | row h1 h2 l _ ih=>intro hc;cases hc
 | dct h1 h2 l _ ih=>intro hc;cases hc
 | dfz h1 h2 l _ ih=>intro hc;cases hc
 | exc h1 h2=>intro hc;cases hc
inductive Sl where
 | no|sh (d:D)|bo (ds:List D)|own (ds:List D)|bd (ks:List Int) (ds:List D)|od (ks:List Int) (ds:List D)|bt (ps:List (Int×Int)) (ds:List D)|ot (ps:List (Int×Int)) (ds:List D)
noncomputable def Yp:Sl->Bool
 | .own _=>true
 | .od _ _=>true
 | .ot _ _=>true
 | _=>false
noncomputable def Jpa:Sl->Bool
 | .bo _=>true
 | .bd _ _=>true
 | .bt _ _=>true
 | _=>false
noncomputable def Jfs:List Kt->Option (Nat×Nat)
 | .Assign _ (.Call _ _ [⟨_,.Lambda _ _ _ pos,_⟩] _) _::_=>some (pos.line,pos.col)
 | _=>none
noncomputable def JhC(K:Qz)(fd:QW):Option (Qh×HO):=match fd.code,fd.body with
 | .ref c,.stmts b=>(match K.lookup c with
  | some ⟨_,_,.fields vs,_⟩=>(match (vs[11]?:Option Qe),Jfs b with
   | some (.ref P),some (l,k)=>if codeHdIn K c P=true then some (P,.tbl #[] l k (fd.qualname++".<locals>."++"<lambda>")) else none
   | _,_=>none)
  | _=>none)
 | _,_=>none
noncomputable def Us(K:Qz):Option (Qh×HO):=match nsIn K mainGlobals "early_lines" with
 | some (some (.ref f))=>(match K.lookup f with
  | some ⟨_,_,.func fd,_⟩=>JhC K fd
  | _=>none)
 | _=>none
structure LamC (K:Qz) (qual:Str) (l k:Nat) (cdv:Qe):Prop where
 ex:∃P c,cdv=.ref c/\codeHdIn K c P=true/\Us K=some (P,.tbl #[] l k (qual++".<locals>."++"<lambda>"))
def Jmn{K:Qz}{name qual:Str}{params:MR}{body:List Kt}{scope:Mg}{dV kV doc pm cdv ct oc:Qe}{an od:Option Qh}{osl:Array (Option Qe)}{f:Qh}{l k:Nat}(a:nsIn K mainGlobals "early_lines"=some (some (.ref f)))
 (lk:K.lookup f=some ⟨oc,od,.func (fnOf name qual params body scope dV kV doc pm an cdv ct),osl⟩) (hs:(Us K).isSome=true) (hp:Jfs body=some (l,k)):LamC K qual l k cdv:=by
 have e:Us K=JhC K (fnOf name qual params body scope dV kV doc pm an cdv ct):=by unfold Us;rw[a];dsimp only;rw[lk]
 rw[e] at hs;have e2:=e;unfold JhC at hs e2;dsimp only at hs e2
 cases cdv with
 | ref c =>
  dsimp only at hs e2;rw[hp] at hs e2;split at hs
  ·next vs _ hk =>
   rw[hk] at e2;dsimp only at e2;split at hs
   ·next P l' k' h11 hlk =>
    rw[h11] at e2;cases hlk;dsimp only at e2;split at hs
    ·next hh=>rw[if_pos hh] at e2;exact⟨P,c,rfl,hh,e2⟩
    ·cases hs
   ·cases hs
  ·cases hs
 | _=>cases hs
noncomputable def TabK(K:Qz)(H:Hp):Prop:=∀P t,Us K=some (P,t)->H P=some t
def TabK.mono(h:TabK K B)(s:∀a o,B a=some o->H a=some o):TabK K H:=fun P t e=>s P t (h P t e)
def TabK.no(h:Us K=none):TabK K H:=fun P t e=>by rw[h] at e;cases e
section
variable(K:Qz)(C:Qh)
noncomputable def RR(Hs H0 H:Hp)(v:V):Sl->Prop
 | .no=>False
 | .sh d=>RD K C H0 v d
 | .bo ds=>∃l xs,v=.ref l/\H l=some (.lst xs)/\RDL K C H0 xs ds
 | .own ds=>∃l xs,v=.ref l/\H l=some (.lst xs)/\H0 l=none/\Hs l=none/\RDL K C H0 xs ds
 | .bd ks ds=>∃l xs,v=.ref l/\H l=some (dkO ks xs)/\ks.length=ds.length/\RDL K C H0 xs ds
 | .bt ks ds=>∃l xs,v=.ref l/\H l=some (dtO ks xs)/\ks.length=ds.length/\RDL K C H0 xs ds
 | .od ks ds=>∃l xs,v=.ref l/\H l=some (dkO ks xs)/\H0 l=none/\Hs l=none/\ks.length=ds.length/\RDL K C H0 xs ds
 | .ot ks ds=>∃l xs,v=.ref l/\H l=some (dtO ks xs)/\H0 l=none/\Hs l=none/\ks.length=ds.length/\RDL K C H0 xs ds
noncomputable def RSl(B H0 H:Hp)(v:V):Sl->Prop
 | .no=>True
 | .sh d=>RD K C H0 v d
 | .bo ds=>∃l xs,v=.ref l/\B l=some (.lst xs)/\RDL K C H0 xs ds
 | .own ds=>∃l xs,v=.ref l/\H l=some (.lst xs)/\H0 l=none/\B l=none/\RDL K C H0 xs ds
 | .bd ks ds=>∃l xs,v=.ref l/\B l=some (dkO ks xs)/\ks.length=ds.length/\RDL K C H0 xs ds
 | .bt ks ds=>∃l xs,v=.ref l/\B l=some (dtO ks xs)/\ks.length=ds.length/\RDL K C H0 xs ds
 | .od ks ds=>∃l xs,v=.ref l/\H l=some (dkO ks xs)/\H0 l=none/\B l=none/\ks.length=ds.length/\RDL K C H0 xs ds
 | .ot ks ds=>∃l xs,v=.ref l/\H l=some (dtO ks xs)/\H0 l=none/\B l=none/\ks.length=ds.length/\RDL K C H0 xs ds
structure EnvR (B H0 H:Hp) (σ:St) (E:List Sl):Prop where
 b:Same B H
 h:Same H0 H
 len:σ.length=E.length
 at':∀(i:Nat) (s:Sl),E[i]?=some s->s=.no\/∃v,σ[i]?=some (some v)/\RSl K C B H0 H v s
 sep:∀(i j:Nat) (s t:Sl) (v:V),i≠j->E[i]?=some s->E[j]?=some t->Yp s=true->Yp t=true->σ[i]?=some (some v)->σ[j]?≠some (some v)
 t:TabK K B
end
noncomputable def isT:HO->Bool
 | .tup _=>true
 | .frz _ (.tup _)=>true
 | _=>false
structure Step (Hs H0 H H0' H':Hp):Prop where
 h:Same H H'
 z:Same H0 H0'
 n:∀a o,H0' a=some o->H0 a=some o\/Hs a=none\/isT o=true
 i:Same H0' H'
structure SStep (B H0 H0' H':Hp):Prop where
 b:Same B H'
 z:Same H0 H0'
 n:∀a o,H0' a=some o->H0 a=some o\/B a=none\/isT o=true
 i:Same H0' H'
def Step.refl(i:Same H0 H):Step Hs H0 H H0 H:=⟨Same.refl _,Same.refl _,fun _ _ e=>.inl e,i⟩
def Step.comp(s1:Step Hs H0 H H0' H')(s2:Step Hs' H0' H' H0'' H'')(w:∀a,Hs' a=none->Hs a=none):Step Hs H0 H H0'' H'' :=
 ⟨s1.h.trans s2.h,s1.z.trans s2.z,fun a o e=>(s2.n a o e).elim (fun q=>s1.n a o q) fun q=>.inr (q.imp (w a) id),s2.i⟩
def Step.trans(s1:Step H H0 H H0' H')(s2:Step H' H0' H' H0'' H''):Step H H0 H H0'' H'':=s1.comp s2 fun _ q=>Same.free s1.h q
def Step.ss(b:Same B H)(s:Step H H0 H H0' H'):SStep B H0 H0' H':=⟨b.trans s.h,s.z,fun a o e=>(s.n a o e).imp id fun q=>q.imp (fun q=>Same.free b q) id,s.i⟩
def SStep.refl(b:Same B H)(i:Same H0 H):SStep B H0 H0 H:=⟨b,Same.refl _,fun _ _ e=>.inl e,i⟩
def SStep.trans(s1:SStep B H0 H0' H')(s2:SStep B H0' H0'' H''):SStep B H0 H0'' H'':=⟨s2.b,s1.z.trans s2.z,fun a o e=>(s2.n a o e).elim (fun q=>s1.n a o q) .inr,s2.i⟩
def RR.step(r:RR K C Hs H0 H v s)(st:Step H H0 H H0' H'):RR K C Hs H0' H' v s:=by
 cases s with
 | no=>exact r
 | sh d=>exact RD.mono st.z r
 | bo ds=>obtain⟨l,xs,e,h,q⟩:=r;exact⟨l,xs,e,st.h _ _ h,q.mono st.z⟩
 | bd ks ds=>obtain⟨l,xs,e,h,hk,q⟩:=r;exact⟨l,xs,e,st.h _ _ h,hk,q.mono st.z⟩
 | bt ks ds=>obtain⟨l,xs,e,h,hk,q⟩:=r;exact⟨l,xs,e,st.h _ _ h,hk,q.mono st.z⟩
 | own ds =>
  obtain⟨l,xs,e,h,n,m,q⟩:=r;refine⟨l,xs,e,st.h _ _ h,?_,m,q.mono st.z⟩
  cases z:H0' l with
  | none=>rfl
  | some o =>
   rcases st.n l o z with y|y|y
   ·rw[n] at y;cases y
   ·rw[h] at y;cases y
   ·have:=st.i l o z;rw[st.h _ _ h] at this;cases this;cases y
 | od ks ds =>
  obtain⟨l,xs,e,h,n,m,hk,q⟩:=r;refine⟨l,xs,e,st.h _ _ h,?_,m,hk,q.mono st.z⟩
  cases z:H0' l with
  | none=>rfl
  | some o =>
   rcases st.n l o z with y|y|y
   ·rw[n] at y;cases y
   ·rw[h] at y;cases y
   ·have:=st.i l o z;rw[st.h _ _ h] at this;cases this;cases y
 | ot ks ds =>
  obtain⟨l,xs,e,h,n,m,hk,q⟩:=r;refine⟨l,xs,e,st.h _ _ h,?_,m,hk,q.mono st.z⟩
  cases z:H0' l with
  | none=>rfl
  | some o =>
   rcases st.n l o z with y|y|y
   ·rw[n] at y;cases y
   ·rw[h] at y;cases y
   ·have:=st.i l o z;rw[st.h _ _ h] at this;cases this;cases y
def RR.weak(r:RR K C Hs' H0 H v s)(w:∀a,Hs' a=none->Hs a=none):RR K C Hs H0 H v s:=by
 cases s with
 | own ds=>obtain⟨l,xs,e,h,n,m,q⟩:=r;exact⟨l,xs,e,h,n,w _ m,q⟩
 | od ks ds=>obtain⟨l,xs,e,h,n,m,q⟩:=r;exact⟨l,xs,e,h,n,w _ m,q⟩
 | ot ks ds=>obtain⟨l,xs,e,h,n,m,q⟩:=r;exact⟨l,xs,e,h,n,w _ m,q⟩
 | _=>exact r
def RSl.owned(r:RSl K C B H0 H v s)(o:Yp s=true):∃l,v=.ref l/\H l≠none/\H0 l=none/\B l=none:=by
 cases s with
 | own ds=>obtain⟨l,xs,e,h,n,m,q⟩:=r;exact⟨l,e,(by rw[h];intro z;cases z),n,m⟩
 | od ks ds=>obtain⟨l,xs,e,h,n,m,q⟩:=r;exact⟨l,e,(by rw[h];intro z;cases z),n,m⟩
 | ot ks ds=>obtain⟨l,xs,e,h,n,m,q⟩:=r;exact⟨l,e,(by rw[h];intro z;cases z),n,m⟩
 | _=>cases o
def RR.owned(r:RR K C Hs H0 H v s)(o:Yp s=true):∃l,v=.ref l/\H l≠none/\H0 l=none/\Hs l=none:=by
 cases s with
 | own ds=>obtain⟨l,xs,e,h,n,m,q⟩:=r;exact⟨l,e,(by rw[h];intro z;cases z),n,m⟩
 | od ks ds=>obtain⟨l,xs,e,h,n,m,q⟩:=r;exact⟨l,e,(by rw[h];intro z;cases z),n,m⟩
 | ot ks ds=>obtain⟨l,xs,e,h,n,m,q⟩:=r;exact⟨l,e,(by rw[h];intro z;cases z),n,m⟩
 | _=>cases o
def EnvR.step(I:EnvR K C B H0 H σ E)(st:Step H H0 H H0' H'):EnvR K C B H0' H' σ E:=by
 refine⟨I.b.trans st.h,st.i,I.len,fun i s e=>?_,I.sep,I.t⟩;rcases I.at' i s e with z|⟨v,h1,h2⟩
 ·exact .inl z
 ·refine .inr ⟨v,h1,?_⟩
  cases s with
  | no=>trivial
  | sh d=>exact RD.mono st.z h2
  | bo ds=>obtain⟨l,xs,e,h,q⟩:=h2;exact⟨l,xs,e,h,q.mono st.z⟩
  | own ds=>exact RR.step (Hs:=B) (s:=.own ds) h2 st
  | bd ks ds=>obtain⟨l,xs,e,h,hk,q⟩:=h2;exact⟨l,xs,e,h,hk,q.mono st.z⟩
  | bt ks ds=>obtain⟨l,xs,e,h,hk,q⟩:=h2;exact⟨l,xs,e,h,hk,q.mono st.z⟩
  | od ks ds=>exact RR.step (Hs:=B) (s:=.od ks ds) h2 st
  | ot ks ds=>exact RR.step (Hs:=B) (s:=.ot ks ds) h2 st
def EnvR.sub(I:EnvR K C B H0 H σ E)(hl:E'.length=E.length)(h:∀(i:Nat) (s:Sl),E'[i]?=some s->s=.no\/E[i]?=some s):EnvR K C B H0 H σ E':=by
 refine⟨I.b,I.h,I.len.trans hl.symm,fun i s e=>?_,fun i j s t v hij e1 e2 o1 o2=>?_,I.t⟩
 ·rcases h i s e with z|z
  ·exact .inl z
  ·exact I.at' i s z
 ·rcases h i _ e1 with z|z
  ·subst z;cases o1
  ·rcases h j _ e2 with y|y
   ·subst y;cases o2
   ·exact I.sep i j s t v hij z y o1 o2
def EnvR.put(I:EnvR K C B H0 H σ E)(hi:i<E.length)(hB:∀a,Hs a=none->B a=none)(hf:∀(j:Nat) (t:Sl) (l:Qh),E[j]?=some t->Yp t=true->σ[j]?=some (some (.ref l))->Hs l≠none)(r:RR K C Hs H0 H v s)(hb:Jpa s=false):EnvR K C B H0 H (σ.set i (some v)) (E.set i s):=by
 refine⟨I.b,I.h,by simp[I.len],fun j t e=>?_,fun j k s1 s2 u hjk e1 e2 o1 o2 e3 e4=>?_,I.t⟩
 ·rw[Gg] at e
  by_cases hj:i=j
  ·subst hj;rw[if_pos rfl,if_pos hi] at e;cases e;refine .inr ⟨v,by rw[Gg];simp[I.len,hi],?_⟩
   cases s with
   | no=>trivial
   | sh d=>exact r
   | bo ds=>cases hb
   | own ds=>obtain⟨l,xs,e,h,n,m,q⟩:=r;exact⟨l,xs,e,h,n,hB _ m,q⟩
   | bd ks ds=>cases hb
   | bt ks ds=>cases hb
   | od ks ds=>obtain⟨l,xs,e,h,n,m,q⟩:=r;exact⟨l,xs,e,h,n,hB _ m,q⟩
   | ot ks ds=>obtain⟨l,xs,e,h,n,m,q⟩:=r;exact⟨l,xs,e,h,n,hB _ m,q⟩
  ·rw[if_neg hj] at e;rcases I.at' j t e with z|⟨u,h1,h2⟩
   ·exact .inl z
   ·exact .inr ⟨u,by rw[Gg,if_neg hj];exact h1,h2⟩
 ·rw[Gg] at e1 e2 e3 e4
  by_cases hj:i=j
  ·subst hj;rw[if_neg hjk] at e2 e4;rw[if_pos rfl,if_pos hi] at e1;rw[if_pos rfl,if_pos (by rw[I.len];exact hi)] at e3;cases e3;cases e1;obtain⟨l,e,_,_,m⟩:=r.owned o1;subst e;exact hf k _ l e2 o2 e4 m
  ·rw[if_neg hj] at e1 e3
   by_cases hk:i=k
   ·subst hk;rw[if_pos rfl,if_pos hi] at e2;rw[if_pos rfl,if_pos (by rw[I.len];exact hi)] at e4;cases e2;have e4':v=u:=QS (QS e4);subst e4';obtain⟨l,e,_,_,m⟩:=r.owned o2;subst e;exact hf j _ l e1 o1 e3 m
   ·rw[if_neg hk] at e2 e4;exact I.sep j k _ _ u hjk e1 e2 o1 o2 e3 e4
def EnvR.ownG(I:EnvR K C B H0 H σ E){j:Nat}{t:Sl}{l:Qh}(e1:E[j]?=some t)(ho:Yp t=true)(e2:σ[j]?=some (some (.ref l))):H l≠none/\H0 l=none/\B l=none:=by
 rcases I.at' j _ e1 with z|⟨v,h1,h2⟩
 ·subst z;cases ho
 ·rw[e2] at h1;cases h1;obtain⟨l',e,h⟩:=h2.owned ho;cases e;exact h
def EnvR.put'{H1 H01:Hp}(I:EnvR K C B H0 H σ E)(st:Step H H0 H H01 H1){i:Nat}(hi:i<E.length)(r:RR K C H H01 H1 v s)(hb:Jpa s=false):EnvR K C B H01 H1 (σ.set i (some v)) (E.set i s) :=
 (I.step st).put hi (fun a q=>Same.free I.b q) (fun j t l e1 o1 e2=>(I.ownG e1 o1 e2).1) r hb
noncomputable def JgQ:Option HO->Option HO
 | some o=>if isT o=true then some o else none
 | none=>none
noncomputable def JU(Hs H0 H:Hp):Hp:=fun a=>match H0 a with
 | some o=>some o
 | none=>match Hs a with
  | none=>H a
  | some _=>JgQ (H a)
def Jah(e:JgQ o=some u):o=some u/\isT u=true:=by
 cases o with
 | none=>cases e
 | some w =>
  unfold JgQ at e;dsimp only at e;split at e
  ·cases e;exact⟨rfl,by assumption⟩
  ·cases e
def JN(i:Same H0 H):Step Hs H0 H (JU Hs H0 H) H:=by
 refine⟨Same.refl _,fun a o e=>by unfold JU;rw[e],fun a o e=>?_,fun a o e=>?_⟩
 ·unfold JU at e
  cases h:H0 a with
  | some u=>rw[h] at e;exact .inl e
  | none =>
   rw[h] at e
   cases h2:Hs a with
   | none=>exact .inr (.inl rfl)
   | some u=>rw[h2] at e;exact .inr (.inr (Jah e).2)
 ·unfold JU at e
  cases h:H0 a with
  | some u=>rw[h] at e;cases e;exact i a _ h
  | none =>
   rw[h] at e
   cases h2:Hs a with
   | none=>rw[h2] at e;exact e
   | some u=>rw[h2] at e;exact(Jah e).1
def Jcp(i:Same H0 H)(n:Hs a=none)(h:H a=some o):JU Hs H0 H a=some o:=by
 unfold JU
 cases z:H0 a with
 | some u=>rw[i a u z] at h;exact h
 | none=>dsimp only;rw[n];exact h
def JgG(i:Same H0 H)(n:isT o=true)(h:H a=some o):JU Hs H0 H a=some o:=by
 unfold JU
 cases z:H0 a with
 | some u=>rw[i a u z] at h;exact h
 | none =>
  dsimp only
  cases y:Hs a with
  | none=>exact h
  | some u=>dsimp only;rw[h];unfold JgQ;dsimp only;rw[if_pos n]
def JgF(i:Same H0 H)(h:SqT K H a xs):SqT K (JU Hs H0 H) a xs:=by
 rcases h with (h|⟨o,h⟩)|h
 ·exact .inl (.inl (JgG i rfl h))
 ·exact .inl (.inr ⟨o,JgG i rfl h⟩)
 ·exact .inr h
noncomputable def Sl.frz:Sl->Option D
 | .sh d=>some d
 | .own ds=>some (.lst ds)
 | .od ks ds=>some (.dct ks ds)
 | _=>none
def RR.frz{d:D}(i:Same H0 H)(r:RR K C Hs H0 H v s)(e:s.frz=some d):RD K C (JU Hs H0 H) v d:=by
 have st:Step Hs H0 H (JU Hs H0 H) H:=JN i
 cases s with
 | no=>cases e
 | sh d'=>cases e;exact RD.mono st.z r
 | bo ds=>cases e
 | own ds=>cases e;obtain⟨l,xs,e,h,n,m,q⟩:=r;subst e;exact .mkL (Jcp i m h) (q.mono st.z)
 | bd ks ds=>cases e
 | bt ks ds=>cases e
 | od ks ds=>cases e;obtain⟨l,xs,e,h,n,m,hk,q⟩:=r;subst e;exact .mkD (Jcp i m h) hk (q.mono st.z)
 | ot ks ds=>cases e
end LE
namespace LE
open PySem L2 LR
noncomputable abbrev En:=List Sl
noncomputable abbrev Ev:=En->Option Sl
section
variable(K:Qz)(C:Qh)
noncomputable def SE(te:TE)(ev:Ev):Prop:=∀(B H0 H:Hp) (σ:St) (E:En) (r:Sl) (Q:VK),EnvR K C B H0 H σ E->ev E=some r ->
 (∀v H0' H',Step H H0 H H0' H'->RR K C H H0' H' v r->Q v H')->te σ H Q
noncomputable def ST(t:TT)(ev:En->Option Bool):Prop:=∀(B H0 H:Hp) (σ:St) (E:En) (r:Bool) (Q:Bool->Hp->Prop),EnvR K C B H0 H σ E->ev E=some r ->
 (∀H0' H',Step H H0 H H0' H'->Q r H')->t σ H Q
inductive RRL (Hs H0 H:Hp):List V->List Sl->Prop
 | nil:RRL Hs H0 H [] []
 | cons {v:V} {s:Sl} {vs:List V} {ss:List Sl}:RR K C Hs H0 H v s->RRL Hs H0 H vs ss->RRL Hs H0 H (v::vs) (s::ss)
noncomputable def SA(t:TA)(ev:En->Option (List Sl)):Prop:=∀(B H0 H:Hp) (σ:St) (E:En) (r:List Sl) (Q:List V->Hp->Prop),EnvR K C B H0 H σ E->ev E=some r ->
 (∀vs H0' H',Step H H0 H H0' H'->RRL K C H H0' H' vs r->Q vs H')->t σ H Q
noncomputable def OpS(r:R2)(f:Sl->Sl->Option Sl):Prop:=∀(Hs H0 H:Hp) (x y:V) (a b c:Sl) (Q:VK),Same H0 H->Same Hs H->RR K C Hs H0 H x a->RR K C Hs H0 H y b->f a b=some c ->
 (∀v H0' H',Step Hs H0 H H0' H'->RR K C Hs H0' H' v c->Q v H')->r x y H Q
noncomputable def UnS(r:V->Hp->VK->Prop)(f:Sl->Option Sl):Prop:=∀(Hs H0 H:Hp) (x:V) (a c:Sl) (Q:VK),Same H0 H->Same Hs H->RR K C Hs H0 H x a->f a=some c ->
 (∀v H0' H',Step Hs H0 H H0' H'->RR K C Hs H0' H' v c->Q v H')->r x H Q
noncomputable def VW(r:List V->Hp->VK->Prop)(f:List Sl->Option Sl):Prop:=∀(Hs H0 H:Hp) (xs:List V) (as:List Sl) (c:Sl) (Q:VK),Same H0 H->Same Hs H->RRL K C Hs H0 H xs as->f as=some c ->
 (∀v H0' H',Step Hs H0 H H0' H'->RR K C Hs H0' H' v c->Q v H')->r xs H Q
end
noncomputable def Jb(i:Nat):Ev:=fun E=>match E[i]? with
 | some (.sh d)=>some (.sh d)
 | some (.bo ds)=>some (.bo ds)
 | some (.own ds)=>some (.bo ds)
 | some (.bd ks ds)=>some (.bd ks ds)
 | some (.od ks ds)=>some (.bd ks ds)
 | some (.bt ks ds)=>some (.bt ks ds)
 | some (.ot ks ds)=>some (.bt ks ds)
 | _=>none
noncomputable def eC(d:D):Ev:=fun _=>some (.sh d)
noncomputable def e2(f:Sl->Sl->Option Sl)(a b:Ev):Ev:=fun E=>(a E).bind fun x=>(b E).bind fun y=>f x y
noncomputable def e1(f:Sl->Option Sl)(a:Ev):Ev:=fun E=>(a E).bind f
noncomputable def a0:En->Option (List Sl):=fun _=>some []
noncomputable def aC(a:Ev)(as:En->Option (List Sl)):En->Option (List Sl):=fun E=>(a E).bind fun x=>(as E).bind fun xs=>some (x::xs)
noncomputable def eF(f:List Sl->Option Sl)(as:En->Option (List Sl)):Ev:=fun E=>(as E).bind f
noncomputable def bool?:Sl->Option Bool
 | .sh (.bl b)=>some b
 | _=>none
noncomputable def eIf(c:En->Option Bool)(a b:Ev):Ev:=fun E=>(c E).bind fun k=>if k=true then a E else b E
noncomputable def sh?:Sl->Option D
 | .sh d=>some d
 | _=>none
noncomputable def Jfd(f g:Sl->Sl->Option Sl)(a b c:Ev):Ev:=fun E=>((a E).bind sh?).bind fun x=>((b E).bind sh?).bind fun y=>((f (.sh x) (.sh y)).bind bool?).bind fun k=>if k=true then((c E).bind sh?).bind fun z=>g (.sh y) (.sh z) else some (.sh (.bl false))
noncomputable def tB?(a:Ev):En->Option Bool:=fun E=>(a E).bind bool?
noncomputable def tAnd?(a b:En->Option Bool):En->Option Bool:=fun E=>(a E).bind fun k=>if k=true then b E else some false
noncomputable def tOr?(a b:En->Option Bool):En->Option Bool:=fun E=>(a E).bind fun k=>if k=true then some true else b E
noncomputable def tNot?(a:En->Option Bool):En->Option Bool:=fun E=>(a E).bind fun k=>some (!k)
def bind_some{α β:Type}{x:Option α}{f:α->Option β}{b:β}(e:x.bind f=some b):∃a,x=some a/\f a=some b:=by
 cases x with
 | none=>cases e
 | some a=>exact⟨a,rfl,e⟩
def Jbm(e:bool? s=some b):s=.sh (.bl b):=by
 cases s with
 | sh d=>cases d with
  | bl x=>cases e;rfl
  | _=>cases e
 | _=>cases e
def UB(i:Nat):SE K C (VV i) (Jb i):=by
 intro B H0 H σ E r Q I e q;unfold Jb at e
 cases h:E[i]? with
 | none=>rw[h] at e;cases e
 | some s =>
  rw[h] at e;rcases I.at' i s h with z|⟨v,h1,h2⟩
  ·subst z;cases e
  ·refine⟨v,h1,q v H0 H (.refl I.h) ?_⟩
   cases s with
   | no=>cases e
   | sh d=>cases e;exact h2
   | bo ds=>cases e;obtain⟨l,xs,e,hl,r⟩:=h2;exact⟨l,xs,e,I.b _ _ hl,r⟩
   | own ds=>cases e;obtain⟨l,xs,e,hl,_,_,r⟩:=h2;exact⟨l,xs,e,hl,r⟩
   | bd ks ds=>cases e;obtain⟨l,xs,e,hl,r⟩:=h2;exact⟨l,xs,e,I.b _ _ hl,r⟩
   | bt ks ds=>cases e;obtain⟨l,xs,e,hl,r⟩:=h2;exact⟨l,xs,e,I.b _ _ hl,r⟩
   | od ks ds=>cases e;obtain⟨l,xs,e,hl,_,_,r⟩:=h2;exact⟨l,xs,e,hl,r⟩
   | ot ks ds=>cases e;obtain⟨l,xs,e,hl,_,_,r⟩:=h2;exact⟨l,xs,e,hl,r⟩
def Jsb:SE K C (tC .non) (eC .non):=fun _ _ _ _ _ _ _ I e q=>by cases e;exact q _ _ _ (.refl I.h) .non
def JsQ:SE K C (tC (.bl b)) (eC (.bl b)):=fun _ _ _ _ _ _ _ I e q=>by cases e;exact q _ _ _ (.refl I.h) (.bl b)
def JkN:SE K C (tC (.int i)) (eC (.int i)):=fun _ _ _ _ _ _ _ I e q=>by cases e;exact q _ _ _ (.refl I.h) (.int i)
def Jns(ho:OpS K C r f)(ha:SE K C ta ea)(hb:SE K C tb eb):SE K C (tOp r ta tb) (e2 f ea eb):=by
 intro B H0 H σ E c Q I e q;obtain⟨a,e1,e⟩:=bind_some e;obtain⟨b,e2,e⟩:=bind_some e;exact ha B H0 H σ E a _ I e1 fun x H1 H1' s1 r1=>hb B H1 H1' σ E b _ (I.step s1) e2 fun y H2 H2' s2 r2=>ho H H2 H2' x y a b c Q s2.i (s1.h.trans s2.h) (r1.step s2) (r2.weak fun a q=>Same.free s1.h q) e fun v H3 H3' s3 r3=>q v H3 H3' ((s1.trans s2).comp s3 fun _ z=>z) r3
def JsT(ho:UnS K C r f)(ha:SE K C ta ea):SE K C (tUn r ta) (e1 f ea):=by intro B H0 H σ E c Q I e q;obtain⟨a,e1,e⟩:=bind_some e;exact ha B H0 H σ E a _ I e1 fun x H1 H1' s1 r1=>ho H H1 H1' x a c Q s1.i s1.h r1 e fun v H3 H3' s3 r3=>q v H3 H3' (s1.comp s3 fun _ z=>z) r3
def VX:SA K C VU a0:=fun _ _ _ _ _ _ _ I e q=>by cases e;exact q _ _ _ (.refl I.h) .nil
def RRL.weak(r:RRL K C Hs' H0 H vs ss)(w:∀a,Hs' a=none->Hs a=none):RRL K C Hs H0 H vs ss:=by
 induction r with
 | nil=>exact .nil
 | cons h _ ih=>exact .cons (h.weak w) ih
def YX(ha:SE K C ta ea)(hr:SA K C tr er):SA K C (Ur ta tr) (aC ea er):=by
 intro B H0 H σ E c Q I e q;obtain⟨a,e1,e⟩:=bind_some e;obtain⟨b,e2,e⟩:=bind_some e;cases e;exact ha B H0 H σ E a _ I e1 fun x H1 H1' s1 r1=>hr B H1 H1' σ E b _ (I.step s1) e2 fun y H2 H2' s2 r2=>q _ H2 H2' (s1.trans s2) (.cons (r1.step s2) (r2.weak fun a q=>Same.free s1.h q))
def JsP(hc:VW K C r f)(ha:SA K C t ev):SE K C (tCB r t) (eF f ev):=by intro B H0 H σ E c Q I e q;obtain⟨a,e1,e⟩:=bind_some e;exact ha B H0 H σ E a _ I e1 fun x H1 H1' s1 r1=>hc H H1 H1' x a c Q s1.i s1.h r1 e fun v H3 H3' s3 r3=>q v H3 H3' (s1.comp s3 fun _ z=>z) r3
def Jr9(hc:ST K C c cv)(ha:SE K C ta ea)(hb:SE K C tb eb):SE K C (tIf c ta tb) (eIf cv ea eb):=by
 intro B H0 H σ E r Q I e q;obtain⟨k,e1,e⟩:=bind_some e;refine hc B H0 H σ E k _ I e1 fun H1 H1' s1=>?_
 cases k with
 | true=>exact ha B H1 H1' σ E r Q (I.step s1) e fun y H2 H2' s2 r2=>q y H2 H2' (s1.trans s2) (r2.weak fun a q=>Same.free s1.h q)
 | false=>exact hb B H1 H1' σ E r Q (I.step s1) e fun y H2 H2' s2 r2=>q y H2 H2' (s1.trans s2) (r2.weak fun a q=>Same.free s1.h q)
def ZK(e:sh? s=some d):s=.sh d:=by
 cases s with
 | sh d'=>cases e;rfl
 | _=>cases e
def Jnn(ho:OpS K C r f)(ho':OpS K C r' g)(ha:SE K C ta ea)(hb:SE K C tb eb)(hc:SE K C tc ec):SE K C (JkZ r r' ta tb tc) (Jfd f g ea eb ec):=by
 intro B H0 H σ E c Q I e q;obtain⟨a,e1,e⟩:=bind_some e;obtain⟨a',e1,f1⟩:=bind_some e1;obtain rfl:=ZK f1;obtain⟨b,e2,e⟩:=bind_some e;obtain⟨b',e2,f2⟩:=bind_some e2;obtain rfl:=ZK f2;obtain⟨k,e3,e⟩:=bind_some e;obtain⟨z,e4,e3⟩:=bind_some e3;refine ha B H0 H σ E _ _ I e1 fun x H1 H1' s1 r1=>hb B H1 H1' σ E _ _ (I.step s1) e2 fun y H2 H2' s2 r2=>?_
 have x2:RD K C H2 x a:=RD.mono s2.z r1
 have y2:RD K C H2 y b:=r2;refine ho H2' H2 H2' x y (.sh a) (.sh b) z _ s2.i (Same.refl _) x2 y2 e4 fun w H3 H3' s3 r3=>?_
 rw[Jbm e3] at r3;have s13:=(s1.trans s2).trans s3;refine⟨k,RD.blI r3,?_⟩
 cases k with
 | false=>cases e;exact q _ _ _ s13 (RD.bl false)
 | true =>
  obtain⟨d,e5,e⟩:=bind_some e;obtain⟨d',e5,f5⟩:=bind_some e5;obtain rfl:=ZK f5;refine hc B H3 H3' σ E _ _ (I.step s13) e5 fun u H4 H4' s4 r4=>?_
  exact ho' H H4 H4' y u (.sh b) (.sh d) c Q s4.i (s13.h.trans s4.h) (RD.mono (s3.z.trans s4.z) y2) (show RD K C H4 u d from r4) e fun v H5 H5' s5 r5=>q v H5 H5' ((s13.trans s4).comp s5 fun _ z=>z) r5
def Jqy(ha:SE K C te ea):ST K C (Jk6 te) (tB? ea):=by
 intro B H0 H σ E k Q I e q;obtain⟨a,e1,e⟩:=bind_some e;refine ha B H0 H σ E a _ I e1 fun x H1 H1' s1 r1=>?_
 rw[Jbm e] at r1;exact⟨k,RD.blI r1,q _ _ s1⟩
def Jqw(hc:ST K C c ev)(hd:ST K C d ew):ST K C (JqE c d) (tAnd? ev ew):=by
 intro B H0 H σ E k Q I e q;obtain⟨a,e1,e⟩:=bind_some e;refine hc B H0 H σ E a _ I e1 fun H1 H1' s1=>?_
 cases a with
 | true=>exact hd B H1 H1' σ E k Q (I.step s1) e fun H2 H2' s2=>q H2 H2' (s1.trans s2)
 | false=>cases e;exact q _ _ s1
def Jsc(hc:ST K C c ev)(hd:ST K C d ew):ST K C (tOr c d) (tOr? ev ew):=by
 intro B H0 H σ E k Q I e q;obtain⟨a,e1,e⟩:=bind_some e;refine hc B H0 H σ E a _ I e1 fun H1 H1' s1=>?_
 cases a with
 | false=>exact hd B H1 H1' σ E k Q (I.step s1) e fun H2 H2' s2=>q H2 H2' (s1.trans s2)
 | true=>cases e;exact q _ _ s1
def Jqx(hc:ST K C c ev):ST K C (Jsj c) (tNot? ev):=by intro B H0 H σ E k Q I e q;obtain⟨a,e1,e⟩:=bind_some e;cases e;exact hc B H0 H σ E a _ I e1 fun H1 H1' s1=>q _ _ s1
noncomputable def Sl.m:Sl->Option (List D)
 | .sh (.lst ds)=>some ds
 | .bo ds=>some ds
 | .own ds=>some ds
 | _=>none
noncomputable def Sl.r:Sl->Option (List D)
 | .sh (.lst ds)=>some ds
 | .sh (.fz ds)=>some ds
 | .bo ds=>some ds
 | .own ds=>some ds
 | _=>none
noncomputable def Sl.q:Sl->Option (List D)
 | .sh (.lst ds)=>some ds
 | .sh (.fz ds)=>some ds
 | .sh (.tup ds)=>some ds
 | .bo ds=>some ds
 | .own ds=>some ds
 | _=>none
noncomputable def Sl.d:Sl->Option D
 | .sh d=>some d
 | .bo ds=>some (.lst ds)
 | .own ds=>some (.lst ds)
 | .bd ks ds=>some (.dct ks ds)
 | .od ks ds=>some (.dct ks ds)
 | .bt _ _=>none
 | .ot _ _=>none
 | .no=>none
def RR.m(r:RR K C Hs H0 H v s)(i:Same H0 H)(e:s.m=some ds):∃l xs,v=.ref l/\H l=some (.lst xs)/\RDL K C H0 xs ds:=by
 cases s with
 | no=>cases e
 | bo es=>cases e;exact r
 | own es=>cases e;obtain⟨l,xs,h1,h2,_,_,h3⟩:=r;exact⟨l,xs,h1,h2,h3⟩
 | bd _ _=>cases e
 | bt _ _=>cases e
 | od _ _=>cases e
 | ot _ _=>cases e
 | sh d=>cases d with
  | lst es=>cases e;obtain⟨l,xs,h1,h2,h3⟩:=RD.lstI r;exact⟨l,xs,h1,i _ _ h2,h3⟩
  | _=>cases e
def RR.r(r:RR K C Hs H0 H v s)(i:Same H0 H)(e:s.r=some ds):∃l xs,v=.ref l/\SqL K H l xs/\RDL K C H0 xs ds:=by
 cases s with
 | no=>cases e
 | bo es=>cases e;obtain⟨l,xs,h1,h2,h3⟩:=r;exact⟨l,xs,h1,.of h2,h3⟩
 | own es=>cases e;obtain⟨l,xs,h1,h2,_,_,h3⟩:=r;exact⟨l,xs,h1,.of h2,h3⟩
 | bd _ _=>cases e
 | bt _ _=>cases e
 | od _ _=>cases e
 | ot _ _=>cases e
 | sh d=>cases d with
  | lst es=>cases e;obtain⟨l,xs,h1,h2,h3⟩:=RD.lstI r;exact⟨l,xs,h1,.of (i _ _ h2),h3⟩
  | fz es=>cases e;obtain⟨l,xs,h1,h2,h3⟩:=RD.fzI r;exact⟨l,xs,h1,i.seq h2,h3⟩
  | _=>cases e
def RR.q(r:RR K C Hs H0 H v s)(i:Same H0 H)(e:s.q=some ds):∃l xs,v=.ref l/\(SqL K H l xs\/SqT K H l xs)/\RDL K C H0 xs ds:=by
 cases s with
 | no=>cases e
 | bo es=>cases e;obtain⟨l,xs,h1,h2,h3⟩:=r;exact⟨l,xs,h1,.inl (.of h2),h3⟩
 | own es=>cases e;obtain⟨l,xs,h1,h2,_,_,h3⟩:=r;exact⟨l,xs,h1,.inl (.of h2),h3⟩
 | bd _ _=>cases e
 | bt _ _=>cases e
 | od _ _=>cases e
 | ot _ _=>cases e
 | sh d=>cases d with
  | lst es=>cases e;obtain⟨l,xs,h1,h2,h3⟩:=RD.lstI r;exact⟨l,xs,h1,.inl (.of (i _ _ h2)),h3⟩
  | fz es=>cases e;obtain⟨l,xs,h1,h2,h3⟩:=RD.fzI r;exact⟨l,xs,h1,.inl (i.seq h2),h3⟩
  | tup es=>cases e;obtain⟨l,xs,h1,h2,h3⟩:=RD.tupI r;exact⟨l,xs,h1,.inr (i.seqT h2),h3⟩
  | _=>cases e
def RR.dat(r:RR K C Hs H0 H v s)(i:Same H0 H)(e:s.d=some d):RD K C H v d:=by
 cases s with
 | no=>cases e
 | bo es=>cases e;obtain⟨l,xs,h1,h2,h3⟩:=r;subst h1;exact .mkL h2 (h3.mono i)
 | own es=>cases e;obtain⟨l,xs,h1,h2,_,_,h3⟩:=r;subst h1;exact .mkL h2 (h3.mono i)
 | bd _ _=>cases e;obtain⟨l,xs,h1,h2,hk,h3⟩:=r;subst h1;exact .mkD h2 hk (h3.mono i)
 | bt _ _=>cases e
 | od _ _=>cases e;obtain⟨l,xs,h1,h2,_,_,hk,h3⟩:=r;subst h1;exact .mkD h2 hk (h3.mono i)
 | ot _ _=>cases e
 | sh d'=>cases e;exact RD.mono i r
def YY{p:Qh}{xs:List V}{Q:VK}(i:Same H0 H)(hs:Same Hs H)(hp:H p=none)(r:RDL K C H0 xs ds)(q:∀v H0' H',Step Hs H0 H H0' H'->RR K C Hs H0' H' v (.own ds)->Q v H'):Q (.ref p) (upd H p (.lst xs)) :=
 q _ H0 _ ⟨.new hp,Same.refl _,fun _ _ e=>.inl e,i.trans (.new hp)⟩ ⟨p,xs,rfl,Jl,Same.free i hp,Same.free hs hp,r⟩
def ZM{p:Qh}{xs:List V}{Q:VK}(i:Same H0 H)(hs:Same Hs H)(hp:H p=none)(r:RDL K C H0 xs ds)(q:∀v H0' H',Step Hs H0 H H0' H'->RR K C Hs H0' H' v (.sh (.tup ds))->Q v H'):Q (.ref p) (upd H p (.tup xs)):=by
 have h0:H0 p=none:=Same.free i hp;refine q _ (upd H0 p (.tup xs)) _ ⟨.new hp,.new h0,fun a o e=>?_,fun a o e=>?_⟩ ?_
 ·by_cases h:a=p
  ·subst h;exact .inr (.inl (Same.free hs hp))
  ·rw[Je h] at e;exact .inl e
 ·by_cases h:a=p
  ·subst h;rw[Jl] at e ⊢;exact e
  ·rw[Je h] at e ⊢;exact i a o e
 ·exact RD.mkT (.of Jl) (r.mono (.new h0))
noncomputable def fI(g:Int->Int->D):Sl->Sl->Option Sl
 | .sh (.int a),.sh (.int b)=>some (.sh (g a b))
 | _,_=>none
noncomputable def fIc(c:Int->Int->Bool)(g:Int->Int->D):Sl->Sl->Option Sl
 | .sh (.int a),.sh (.int b)=>if c a b=true then some (.sh (g a b)) else none
 | _,_=>none
noncomputable def JhY(x y:Sl):Option Sl:=x.m.bind fun a=>y.m.bind fun b=>if a.length+b.length<=Qr then some (.own (a++b)) else none
noncomputable def YF:Sl->Sl->Option Sl
 | .sh (.int a),.sh (.int b)=>some (.sh (.int (a+b)))
 | .sh (.str a),.sh (.str b)=>if a.length+b.length<=Qr then some (.sh (.str (a++b))) else none
 | .sh (.tup a),.sh (.tup b)=>if a.isEmpty=false/\b.isEmpty=false/\a.length+b.length<=Qr then some (.sh (.tup (a++b))) else none
 | .sh (.lst a),y=>JhY (.sh (.lst a)) y
 | .bo a,y=>JhY (.bo a) y
 | .own a,y=>JhY (.own a) y
 | _,_=>none
noncomputable abbrev Ye:=fI fun a b=>.int (a-b)
noncomputable abbrev fLt:=fI fun a b=>.bl (decide (a<b))
noncomputable abbrev fLe:=fI fun a b=>.bl (decide (a<=b))
noncomputable abbrev fGt:=fI fun a b=>.bl (decide (b<a))
noncomputable def WH(a:Int):Bool:=Nat.ble a.natAbs 18446744073709551615
def Va:WH a=true↔-18446744073709551616<a/\a<18446744073709551616:=by unfold WH;rw[Lm];omega
noncomputable def JfY(a:Int):Bool:=Nat.ble a.natAbs 1073741823 && decide (0<a)
def smallP_ok:JfY a=true↔0<a/\a<1073741824:=by unfold JfY;rw[QR,Lm,decide_eq_true_eq];omega
noncomputable abbrev Z3:=fIc (fun a b=>WH a || WH b) fun a b=>.int (a*b)
noncomputable abbrev WT:=fIc (fun _ b=>decide (0<b)) fun a b=>.int (a % b)
noncomputable abbrev Jl0:=fIc (fun _ b=>JfY b) fun a b=>.int (a / b)
noncomputable abbrev JdF:=fIc (fun a b=>decide (0<=b) && Nat.ble b.natAbs 1000000 && WH a) fun a b=>.int (a ^ b.toNat)
noncomputable def JhZ:Sl->Option Sl
 | .sh (.int a)=>some (.sh (.int (-a)))
 | _=>none
noncomputable def eqD(d e:D):Option Bool:=if (d.py.canLay0 && e.py.canLay0 && decide (min d.py.depth e.py.depth<=60))=true then some (Mz d.py e.py) else none
noncomputable def eqA:D->D->Option Bool
 | .int a,.int b=>some (decide (a=b))
 | .str a,.str b=>some (decide (a=b))
 | .bl a,.bl b=>some (decide (a=b))
 | .non,.non=>some true
 | .non,.int _=>some false
 | .int _,.non=>some false
 | .non,.str _=>some false
 | .str _,.non=>some false
 | .non,.bl _=>some false
 | .bl _,.non=>some false
 | .int _,.str _=>some false
 | .str _,.int _=>some false
 | d,e=>eqD d e
noncomputable def fEq(x y:Sl):Option Sl:=x.d.bind fun d=>y.d.bind fun e=>(eqA d e).map fun k=>.sh (.bl k)
noncomputable def fNe(x y:Sl):Option Sl:=x.d.bind fun d=>y.d.bind fun e=>(eqA d e).map fun k=>.sh (.bl (!k))
noncomputable def D.isNon:D->Bool
 | .non=>true
 | _=>false
noncomputable def fIs:Sl->Sl->Option Sl
 | x,.sh .non=>x.d.map fun d=>.sh (.bl d.isNon)
 | _,_=>none
noncomputable def WS:Sl->Sl->Option Sl
 | x,.sh .non=>x.d.map fun d=>.sh (.bl (!d.isNon))
 | _,_=>none
noncomputable def fIx:Sl->Sl->Option Sl
 | .sh (.str z),.sh (.int i)=>if z.length<=Qr then(atI z.cps.toList i).map fun c=>.sh (.str ⟨#[c]⟩) else none
 | x,.sh (.int i)=>x.q.bind fun ds=>(atI ds i).map .sh
 | _,_=>none
def o_I(h:∀i j H,RD K C H (g i j) (g' i j)):OpS K C (rI0 g) (fI g'):=by
 intro Hs H0 H x y a b c Q i hs ra rb e q;unfold fI at e;split at e
 ·cases e;exact⟨_,_,RD.intI ra,RD.intI rb,q _ _ _ (.refl i) (h _ _ _)⟩
 ·cases e
def Jiq(hp:∀i j,c' i j=true->P i j)(h:∀i j H,RD K C H (g i j) (g' i j)):OpS K C (rI P g) (fIc c' g'):=by
 intro Hs H0 H x y a b c Q i hs ra rb e q;unfold fIc at e;split at e
 ·split at e
  ·cases e;exact⟨_,_,RD.intI ra,RD.intI rb,hp _ _ (by assumption),q _ _ _ (.refl i) (h _ _ _)⟩
  ·cases e
 ·cases e
def Jka:OpS K C (rI0 fun i j=>.int (i-j)) Ye:=o_I fun _ _ _=>.int _
def JsJ:OpS K C (rI0 fun i j=>.bl (decide (i<j))) fLt:=o_I fun _ _ _=>.bl _
def JsI:OpS K C (rI0 fun i j=>.bl (decide (i<=j))) fLe:=o_I fun _ _ _=>.bl _
def JsF:OpS K C (rI0 fun i j=>.bl (decide (j<i))) fGt:=o_I fun _ _ _=>.bl _
def JrH:OpS K C (rI CMul fun i j=>.int (i*j)) Z3:=Jiq (fun i j h=>by simp only[LI,Va] at h;exact h) fun _ _ _=>.int _
def JrG:OpS K C (rI (fun _ j=>0<j) fun i j=>.int (i % j)) WT:=Jiq (fun i j h=>by simpa using h) fun _ _ _=>.int _
def JrE:OpS K C (rI JqX fun i j=>.int (i / j)) Jl0:=Jiq (fun i j h=>smallP_ok.mp h) fun _ _ _=>.int _
def JrI:OpS K C (rI JqY fun i j=>.int (i ^ j.toNat)) JdF:=Jiq (fun i j h=>by simp only[QR,decide_eq_true_eq,Lm,Va] at h;refine⟨h.1.1,by omega,?_⟩;show i.natAbs<18446744073709551616;omega) fun _ _ _=>.int _
def Jsm:UnS K C (rU fun i=>.int (-i)) JhZ:=by
 intro Hs H0 H x a c Q i hs ra e q;unfold JhZ at e;split at e
 ·cases e;exact⟨_,RD.intI ra,q _ _ _ (.refl i) (RD.int _)⟩
 ·cases e
noncomputable def Jkx(K:Qz):R2:=fun x y H Q=>Jhf K x y H Q\/Jor K x y H Q
def JG{X:Cx}(hK:X.K=K):OpR X (binaryOp .Add) (Jkx K):=(Jg3 hK).or (hK▸JmR)
def Jon:OpS K C (Jkx K) YF:=by
 intro Hs H0 H x y a b c Q i hs ra rb e q
 have cat:∀{a b:Sl},RR K C Hs H0 H x a->RR K C Hs H0 H y b->JhY a b=some c->Jkx K x y H Q:=by
  intro a b ra rb e;obtain⟨xs,e1,e⟩:=bind_some e;obtain⟨ys,e2,e⟩:=bind_some e;split at e
  ·next hz=>cases e;obtain⟨l,us,rfl,h1,r1⟩:=ra.m i e1;obtain⟨l',ws,rfl,h2,r2⟩:=rb.m i e2;exact .inl (.inr (.inr ⟨l,l',us,ws,rfl,rfl,h1,h2,by rw[r1.1,r2.1];exact hz,fun p hp=>YY i hs hp (r1.append r2) q⟩))
  ·cases e
 unfold YF at e;split at e
 ·cases e;exact .inl (.inl ⟨_,_,RD.intI ra,RD.intI rb,q _ _ _ (.refl i) (RD.int _)⟩)
 ·split at e
  ·cases e;exact .inl (.inr (.inl ⟨_,_,RD.strI ra,RD.strI rb,by assumption,q _ _ _ (.refl i) (RD.str _)⟩))
  ·cases e
 ·split at e
  ·next hz =>
   cases e;obtain⟨l,us,rfl,h1,r1⟩:=RD.tupI ra;obtain⟨l',ws,rfl,h2,r2⟩:=RD.tupI rb;have n1:us≠[]:=by rintro rfl;have:=r1.1;have z:=hz.1;simp at this;rw[QN this.symm] at z;cases z
   have n2:ws≠[]:=by rintro rfl;have:=r2.1;have z:=hz.2.1;simp at this;rw[QN this.symm] at z;cases z
   exact .inr ⟨l,l',us,ws,rfl,rfl,i.seqT h1,i.seqT h2,n1,by rw[r1.1,r2.1];exact hz.2.2,fun z=>absurd z n2,fun _ p hp=>ZM i hs hp (r1.append r2) q⟩
  ·cases e
 ·exact cat ra rb e
 ·exact cat ra rb e
 ·exact cat ra rb e
 ·cases e
def JdB(h:eqD d e=some k):d.py.canLay0=true/\e.py.canLay0=true/\min d.py.depth e.py.depth<=60/\k=Mz d.py e.py:=by
 unfold eqD at h;split at h
 ·next z=>cases h;simp only[QR,decide_eq_true_eq] at z;exact⟨z.1.1,z.1.2,z.2,rfl⟩
 ·cases h
def map_some{α β:Type}{x:Option α}{f:α->β}{b:β}(e:x.map f=some b):∃a,x=some a/\f a=b:=by
 cases x with
 | none=>cases e
 | some a=>cases e;exact⟨a,rfl,rfl⟩
def JdA(h:eqA d e=some k)(rx:RD K C H x d)(ry:RD K C H y e):(JqA x y=true/\decide (x=y)=k)\/eqD d e=some k:=by
 unfold eqA at h;split at h
 ·cases h;rw[RD.intI rx,RD.intI ry];exact .inl ⟨rfl,by simp⟩
 ·cases h;rw[RD.strI rx,RD.strI ry];exact .inl ⟨rfl,by simp⟩
 ·cases h;rw[RD.blI rx,RD.blI ry];exact .inl ⟨rfl,by simp⟩
 ·cases h;rw[RD.nonI rx,RD.nonI ry];exact .inl ⟨rfl,by simp⟩
 ·cases h;rw[RD.nonI rx,RD.intI ry];exact .inl ⟨rfl,by simp⟩
 ·cases h;rw[RD.intI rx,RD.nonI ry];exact .inl ⟨rfl,by simp⟩
 ·cases h;rw[RD.nonI rx,RD.strI ry];exact .inl ⟨rfl,by simp⟩
 ·cases h;rw[RD.strI rx,RD.nonI ry];exact .inl ⟨rfl,by simp⟩
 ·cases h;rw[RD.nonI rx,RD.blI ry];exact .inl ⟨rfl,by simp⟩
 ·cases h;rw[RD.blI rx,RD.nonI ry];exact .inl ⟨rfl,by simp⟩
 ·cases h;rw[RD.intI rx,RD.strI ry];exact .inl ⟨rfl,by simp⟩
 ·cases h;rw[RD.strI rx,RD.intI ry];exact .inl ⟨rfl,by simp⟩
 ·exact .inr h
def JsE:OpS K C (Jp7 K) fEq:=by
 intro Hs H0 H x y a b c Q i hs ra rb e q;obtain⟨d,e1,e⟩:=bind_some e;obtain⟨d',e2,e⟩:=bind_some e;obtain⟨k,e3,rfl⟩:=map_some e;have r1:=ra.dat i e1;have r2:=rb.dat i e2;rcases JdA e3 r1 r2 with ⟨h1,h2⟩|h
 ·exact .inl ⟨h1,by rw[h2];exact q _ _ _ (.refl i) (RD.bl _)⟩
 ·obtain⟨h1,h2,h3,rfl⟩:=JdB h;exact .inr ⟨_,_,r1.rep h1,r2.rep h2,h1,h2,h3,q _ _ _ (.refl i) (RD.bl _)⟩
def JsK:OpS K C (Jqa K) fNe:=by
 intro Hs H0 H x y a b c Q i hs ra rb e q;obtain⟨d,e1,e⟩:=bind_some e;obtain⟨d',e2,e⟩:=bind_some e;obtain⟨k,e3,rfl⟩:=map_some e;have r1:=ra.dat i e1;have r2:=rb.dat i e2;rcases JdA e3 r1 r2 with ⟨h1,h2⟩|h
 ·exact .inl ⟨h1,by rw[h2];exact q _ _ _ (.refl i) (RD.bl _)⟩
 ·obtain⟨h1,h2,h3,rfl⟩:=JdB h;exact .inr ⟨_,_,r1.rep h1,r2.rep h2,h1,h2,h3,q _ _ _ (.refl i) (RD.bl _)⟩
def JdU(r:RD K C H x d):decide (x=.non)=d.isNon:=by cases r <;> simp[D.isNon]
def JsG:OpS K C JrP fIs:=by
 intro Hs H0 H x y a b c Q i hs ra rb e q;unfold fIs at e;split at e
 ·obtain⟨d,e1,rfl⟩:=map_some e;refine⟨RD.nonI rb,?_⟩;rw[JdU (ra.dat i e1)];exact q _ _ _ (.refl i) (RD.bl _)
 ·cases e
def JmO:OpS K C JkB WS:=by
 intro Hs H0 H x y a b c Q i hs ra rb e q;unfold WS at e;split at e
 ·obtain⟨d,e1,rfl⟩:=map_some e;refine⟨RD.nonI rb,?_⟩;rw[JdU (ra.dat i e1)];exact q _ _ _ (.refl i) (RD.bl _)
 ·cases e
def RDL.atI(r:RDL K C H xs ds)(e:L2.atI ds i=some d):∃x,L2.atI xs i=some x/\RD K C H x d:=by unfold L2.atI at e ⊢;rw[r.1];obtain⟨j,e1,e⟩:=bind_some e;obtain⟨x,e2,r2⟩:=r.get e;exact⟨x,by rw[e1];exact e2,r2⟩
def JsH:OpS K C (rIx K) fIx:=by
 intro Hs H0 H x y a b c Q i hs ra rb e q;unfold fIx at e;split at e
 ·split at e
  ·obtain⟨z,e1,rfl⟩:=map_some e;rw[RD.strI ra,RD.intI rb];exact Jqj (by assumption) e1 (q _ _ _ (.refl i) (RD.str _))
  ·cases e
 ·obtain⟨ds,e1,e⟩:=bind_some e;obtain⟨d,e2,rfl⟩:=map_some e;obtain⟨l,xs,rfl,h,r⟩:=ra.q i e1;obtain⟨v,e3,r3⟩:=r.atI e2;rw[RD.intI rb];rcases h with h|h
  ·exact Jqi h e3 (q _ _ _ (.refl i) r3)
  ·exact Jqk h e3 (q _ _ _ (.refl i) r3)
 ·cases e
noncomputable def Jaa:List Sl->Option (List D)
 | []=>some []
 | s::ss=>s.frz.bind fun d=>(Jaa ss).bind fun ds=>some (d::ds)
noncomputable def YQ(as:En->Option (List Sl)):Ev:=fun E=>(as E).bind fun ss=>(Jaa ss).bind fun ds=>if ds.length<=100 then some (.sh (.tup ds)) else none
noncomputable def Vk(as:En->Option (List Sl)):Ev:=fun E=>(as E).bind fun ss=>(Jaa ss).bind fun ds=>if ds.length<=100 then some (.own ds) else none
def RRL.frz{vs:List V}{ss:List Sl}(i:Same H0 H)(r:RRL K C Hs H0 H vs ss):∀{ds:List D},Jaa ss=some ds->RDL K C (JU Hs H0 H) vs ds:=by
 induction r with
 | nil=>intro ds e;cases e;exact .nil
 | cons h _ ih=>intro ds e;obtain⟨d,e1,e⟩:=bind_some e;obtain⟨ds',e2,e⟩:=bind_some e;cases e;exact .cons (h.frz i e1) (ih e2)
def Jow(ha:SA K C t ev):SE K C (JqK t) (YQ ev):=by
 intro B H0 H σ E c Q I e q;obtain⟨ss,e1,e⟩:=bind_some e;obtain⟨ds,e2,e⟩:=bind_some e;split at e
 ·next hl =>
  cases e;refine ha B H0 H σ E ss _ I e1 fun vs H1 H1' s1 r1=>?_
  have f:=JN (Hs:=H) s1.i
  have r2:=r1.frz s1.i e2;exact⟨by rw[r2.1];exact Gm hl (by decide),fun p hp=>ZM f.i s1.h hp r2 fun v H2 H2' s2 r2=>q v H2 H2' ((s1.comp f fun _ z=>z).comp s2 fun _ z=>z) r2⟩
 ·cases e
def JkO(ha:SA K C t ev):SE K C (JnN t) (Vk ev):=by
 intro B H0 H σ E c Q I e q;obtain⟨ss,e1,e⟩:=bind_some e;obtain⟨ds,e2,e⟩:=bind_some e;split at e
 ·next hl =>
  cases e;refine ha B H0 H σ E ss _ I e1 fun vs H1 H1' s1 r1=>?_
  have f:=JN (Hs:=H) s1.i
  have r2:=r1.frz s1.i e2;exact⟨by rw[r2.1];exact Gm hl (by decide),fun p hp=>YY f.i s1.h hp r2 fun v H2 H2' s2 r2=>q v H2 H2' ((s1.comp f fun _ z=>z).comp s2 fun _ z=>z) r2⟩
 ·cases e
noncomputable def Sl.pass:Sl->Option Sl
 | .sh d=>some (.sh d)
 | .own ds=>some (.sh (.lst ds))
 | .bo ds=>some (.bo ds)
 | .bd ks ds=>some (.bd ks ds)
 | .od ks ds=>some (.sh (.dct ks ds))
 | .bt _ _=>none
 | .ot _ _=>none
 | .no=>none
noncomputable def ZJ:List Sl->Option (List Sl)
 | []=>some []
 | s::ss=>s.pass.bind fun d=>(ZJ ss).bind fun ds=>some (d::ds)
noncomputable def spE(K:Qz)(C:Qh)(n:Nat)(f:List Sl->Option Sl):Sp:=fun vs H Q _=>TabK K H/\∃H0 as r,Same H0 H/\RRL K C H H0 H vs as/\as.all (fun s=>!Yp s)=true/\as.length=n/\f as=some r ∧
 ∀v H0' H',Step H H0 H H0' H'->RR K C H H0' H' v r->Q v H'
noncomputable def eU(n:Nat)(f:List Sl->Option Sl)(as:En->Option (List Sl)):Ev:=fun E=>(as E).bind fun ss=>(ZJ ss).bind fun bs=>if bs.length=n then f bs else none
def RRL.len(r:RRL K C Hs H0 H vs ss):vs.length=ss.length:=by
 induction r with
 | nil=>rfl
 | cons _ _ ih=>simp[ih]
def Jhs(h:spE K C n f vs H Q E):vs.length=n:=by obtain⟨_,H0,as,r,_,h1,_,h2,_⟩:=h;rw[h1.len];exact h2
def RR.pass(i:Same H0 H)(r:RR K C Hs H0 H v s)(e:s.pass=some s'):RR K C H (JU Hs H0 H) H v s'/\Yp s'=false:=by
 have st:Step Hs H0 H (JU Hs H0 H) H:=JN i
 cases s with
 | no=>cases e
 | sh d=>cases e;exact⟨RD.mono st.z r,rfl⟩
 | own ds=>cases e;exact⟨RR.frz (s:=.own ds) i r rfl,rfl⟩
 | bo ds=>cases e;obtain⟨l,xs,h1,h2,h3⟩:=r;exact⟨⟨l,xs,h1,h2,h3.mono st.z⟩,rfl⟩
 | od ks ds=>cases e;exact⟨RR.frz (s:=.od ks ds) i r rfl,rfl⟩
 | ot ks ds=>cases e
 | bd ks ds=>cases e;obtain⟨l,xs,h1,h2,hk,h3⟩:=r;exact⟨⟨l,xs,h1,h2,hk,h3.mono st.z⟩,rfl⟩
 | bt ks ds=>cases e
def RRL.pass(i:Same H0 H)(r:RRL K C Hs H0 H vs ss):∀{bs:List Sl},ZJ ss=some bs->RRL K C H (JU Hs H0 H) H vs bs/\bs.all (fun s=>!Yp s)=true:=by
 induction r with
 | nil=>intro bs e;cases e;exact⟨.nil,rfl⟩
 | cons h _ ih=>intro bs e;obtain⟨d,e1,e⟩:=bind_some e;obtain⟨ds',e2,e⟩:=bind_some e;cases e;obtain⟨h1,h2⟩:=h.pass i e1;obtain⟨h3,h4⟩:=ih e2;exact⟨.cons h1 h3,by rw[List.all_cons,h2,h4];rfl⟩
def JcU(ha:SA K C t ev):SE K C (Jhy (spE K C n f) [] X t) (eU n f ev):=by
 intro B H0 H σ E c Q I e q;obtain⟨ss,e1,e⟩:=bind_some e;obtain⟨bs,e2,e⟩:=bind_some e;split at e
 ·next hl=>refine Jhi (ha B H0 H σ E ss _ I e1 fun vs H1 H1' s1 r1=>?_);obtain⟨h1,h2⟩:=r1.pass s1.i e2;have f:=JN (Hs:=H) s1.i;exact⟨I.t.mono (I.b.trans s1.h),_,bs,c,f.i,h1,h2,hl,e,fun v H2 H2' s2 r2=>q v H2 H2' ((s1.comp f fun _ z=>z).comp s2 fun a z=>Same.free s1.h z) (r2.weak fun a z=>Same.free s1.h z)⟩
 ·cases e
noncomputable def prE(p:Pr):D:=.tup [.int p.1,.int p.2]
noncomputable def JqS:D->Option Pr
 | .tup [.int a,.int b]=>some (a,b)
 | _=>none
noncomputable def JeS:List D->Option (List Pr)
 | []=>some []
 | d::ds=>(JqS d).bind fun p=>(JeS ds).bind fun ps=>some (p::ps)
theorem JbS:∀ps:List Pr,JeS (ps.map prE)=some ps
 | []=>rfl
 | p::ps=>by rw[Qd,JeS,JbS ps];rfl
def JiK(e:JqS d=some p):d=prE p:=by
 unfold JqS at e;split at e
 ·cases e;rfl
 ·cases e
theorem JaR:∀{ds:List D} {ps:List Pr},JeS ds=some ps->ds=ps.map prE
 | [],_,e=>by cases e;rfl
 | d::ds,_,e=>by obtain⟨p,e1,e⟩:=bind_some e;obtain⟨ps,e2,e⟩:=bind_some e;cases e;rw[JiK e1,JaR e2];rfl
noncomputable def Zj:List Pr->Bool
 | []=>true
 | [p]=>decide (1<=p.2)
 | p::q::r=>decide (1<=p.2) && decide (p.1+p.2<q.1) && Zj (q::r)
theorem Jab:∀{ps:List Pr},Zj ps=true->Good ps
 | [],_=>.nil
 | [p],h=>⟨fun i q e=>by
  cases i with
  | zero=>simp at e;subst e;simpa [Zj] using h
  | succ i=>simp at e,fun i q r e1 e2=>by simp at e2⟩
 | p::q::r,h=>by
  simp only[Zj,QR,decide_eq_true_eq] at h;have g:=Jab h.2;refine⟨fun i x e=>?_,fun i x y e1 e2=>?_⟩
  ·cases i with
   | zero=>simp at e;subst e;exact h.1.1
   | succ i=>exact g.one i x (by simpa using e)
  ·cases i with
   | zero=>simp at e1 e2;subst e1 e2;exact h.1.2
   | succ i=>exact g.gap i x y (by simpa using e1) (by simpa using e2)
theorem Jac:∀{ps:List Pr},Good ps->Zj ps=true
 | [],_=>rfl
 | [p],g=>by simpa [Zj] using g.one 0 p rfl
 | p::q::r,g=>by
  have g':Good (q::r):=⟨fun i x e=>g.one (i+1) x (by simpa using e),fun i x y e1 e2=>g.gap (i+1) x y (by simpa using e1) (by simpa using e2)⟩
  simp only[Zj,QR,decide_eq_true_eq];exact⟨⟨g.one 0 p rfl,g.gap 0 p q rfl rfl⟩,Jac g'⟩
noncomputable def Zs:List Sl->Option Sl
 | [s]=>s.q.bind fun ds=>(JeS ds).bind fun ps=>if (Zj ps && decide (ps.length<=30))=true then some (.sh (.row ds)) else none
 | _=>none
noncomputable def Uv:Sl->Option Sl
 | .sh (.row ds)=>some (.sh (.tup ds))
 | _=>none
def Jp3(r:RDL K C H xs (ps.map prE)):Prs K H xs ps:=by
 refine⟨by rw[r.1];simp,fun i x d h1 h2=>?_⟩;rw[Qq] at h2
 cases e:ps[i]? with
 | none=>rw[e] at h2;cases h2
 | some p=>rw[e] at h2;cases h2;have h:=r.2 i x (prE p) h1 (by rw[Qq,e];rfl);exact RD.rep h rfl
def JpJ{xs:List V}{ps:List Pr}(i:Same H0 H)(r:Prs K H xs ps):RDL K C (JU Hs H0 H) xs (ps.map prE):=by refine⟨by rw[r.len];simp,fun j x d h1 h2=>?_⟩;obtain⟨p,a,e1,e2,e3⟩:=r.at h1;rw[Qq,e1] at h2;cases h2;subst e2;exact .mkT (JgF i e3) (.cons (.int _) (.cons (.int _) .nil))
def Jov(ha:SA K C t ev):SE K C (JhA C (Vb C K) [] X t) (eF Zs ev):=by
 intro B H0 H σ E c Q I e q;obtain⟨ss,e1,e⟩:=bind_some e;refine LR.Jhk (ha B H0 H σ E ss _ I e1 fun vs H1 H1' s1 r1=>?_);unfold Zs at e;split at e
 ·next s =>
  cases r1 with
  | cons r1 r1' =>
   cases r1';obtain⟨ds,e2,e⟩:=bind_some e;obtain⟨ps,e3,e⟩:=bind_some e;split at e
   ·next hg =>
    cases e;simp only[QR,decide_eq_true_eq] at hg;have e4:=JaR e3;subst e4;obtain⟨l,xs,rfl,hq,r⟩:=r1.q s1.i e2;refine Jqm ⟨l,xs,rfl,hq,Jp3 (r.mono s1.i)⟩ (Jab hg.1) hg.2 fun x H2 nx s2 R=>?_
    obtain⟨x',dx,t',ts,ex,hx,ht,hp⟩:=R;cases ex;have i2:Same H1 H2:=s1.i.trans s2;have f:=JN (Hs:=H) i2;refine q _ (JU H H1 H2) H2 ⟨s1.h.trans s2,s1.z.trans f.z,fun a o e=>(f.n a o e).elim (fun z=>s1.n a o z) .inr,f.i⟩ ?_;have ts':=JpJ (Hs:=H) (C:=C) i2 hp;exact .row (Jcp i2 (Same.free s1.h nx) hx) (JgF i2 (.of ht)) ts'.1 ts'.2
   ·cases e
 ·cases e
def Jr4(T:RowC K C)(ha:SE K C ta ea):SE K C (JqF K ta "stretches") (e1 Uv ea):=by
 intro B H0 H σ E c Q I e q;obtain⟨a,e1,e⟩:=bind_some e;refine ha B H0 H σ E a _ I e1 fun x H1 H1' s1 r1=>?_
 unfold Uv at e;split at e
 ·cases e;obtain⟨x',dx,t',ts,rfl,hx,ht,hp⟩:=RD.rowI r1;exact⟨x',C,dx,_,_,rfl,s1.i _ _ hx,T.cl,T.ns,JiC t',q _ _ _ s1 (RD.mkT ht hp)⟩
 ·cases e
noncomputable def ints?:List D->Option (List Int)
 | []=>some []
 | .int i::ds=>(ints? ds).map (i::·)
 | _::_=>none
noncomputable def bls?:List D->Option (List Bool)
 | []=>some []
 | .bl i::ds=>(bls? ds).map (i::·)
 | _::_=>none
theorem Jaf:∀ns:List Int,ints? (ns.map .int)=some ns
 | []=>rfl
 | n::ns=>by rw[Qd,ints?,Jaf ns];rfl
theorem Jgl:∀ns:List Bool,bls? (ns.map .bl)=some ns
 | []=>rfl
 | n::ns=>by rw[Qd,bls?,Jgl ns];rfl
theorem YA:∀{ds:List D} {ns:List Int},ints? ds=some ns->ds=ns.map .int
 | [],_,e=>by cases e;rfl
 | .int i::ds,_,e=>by obtain⟨ns,e1,e2⟩:=map_some (show(ints? ds).map (i::·)=_ from e);rw[<- e2,YA e1];rfl
 | .non::_,_,e|.bl _::_,_,e|.str _::_,_,e|.tup _::_,_,e|.lst _::_,_,e|.fz _::_,_,e|.row _::_,_,e=>by cases e
theorem Jdn:∀{ds:List D} {ns:List Bool},bls? ds=some ns->ds=ns.map .bl
 | [],_,e=>by cases e;rfl
 | .bl i::ds,_,e=>by obtain⟨ns,e1,e2⟩:=map_some (show(bls? ds).map (i::·)=_ from e);rw[<- e2,Jdn e1];rfl
 | .non::_,_,e|.int _::_,_,e|.str _::_,_,e|.tup _::_,_,e|.lst _::_,_,e|.fz _::_,_,e|.row _::_,_,e=>by cases e
noncomputable def Zr:List Sl->Option Sl
 | [.sh (.str x)]=>if x.length<=Qr then some (.sh (.int x.length)) else none
 | [s]=>s.q.map fun ds=>.sh (.int ds.length)
 | _=>none
noncomputable def WU:List Sl->Option Sl
 | [s]=>s.q.map fun ds=>.sh (.tup ds)
 | _=>none
noncomputable def Jcm:List Sl->Option Sl
 | [s]=>s.q.bind fun ds=>(ints? ds).map fun ns=>.sh (.int ns.sum)
 | _=>none
noncomputable def JlY:List Sl->Option Sl
 | [s]=>s.q.bind fun ds=>(bls? ds).map fun ns=>.sh (.bl (ns.any id))
 | _=>none
noncomputable def Jl3:List Sl->Option Sl
 | [.sh (.int a),.sh (.int b)]=>some (.sh (.int (max a b)))
 | _=>none
noncomputable def Jfh:List Sl->Option Sl
 | [.sh (.int a),.sh (.int b)]=>some (.sh (.int (min a b)))
 | _=>none
def RRL.one(r:RRL K C Hs H0 H vs [s]):∃v,vs=[v]/\RR K C Hs H0 H v s:=by
 cases r with
 | cons h t=>cases t;exact⟨_,rfl,h⟩
def RRL.two(r:RRL K C Hs H0 H vs [s,t]):∃v w,vs=[v,w]/\RR K C Hs H0 H v s/\RR K C Hs H0 H w t:=by
 cases r with
 | cons h r=>cases r with
  | cons h' r=>cases r;exact⟨_,_,rfl,h,h'⟩
def Jq9:VW K C (JfN K) Zr:=by
 intro Hs H0 H xs as c Q i hs r e q;unfold Zr at e;split at e
 ·split at e
  ·cases e;obtain⟨v,rfl,r0⟩:=r.one;rw[RD.strI r0];exact Jnd (by assumption) (q _ _ _ (.refl i) (RD.int _))
  ·cases e
 ·obtain⟨v,rfl,r0⟩:=r.one;obtain⟨ds,e1,rfl⟩:=map_some e;obtain⟨l,xs,rfl,h,r1⟩:=r0.q i e1;have z:=q (.int ds.length) _ _ (.refl i) (RD.int _);rw[<- r1.1] at z;exact Jeu h z
 ·cases e
def JlE:VW K C (Vr K) WU:=by
 intro Hs H0 H xs as c Q i hs r e q;unfold WU at e;split at e
 ·obtain⟨v,rfl,r0⟩:=r.one;obtain⟨ds,e1,rfl⟩:=map_some e;rename_i s
  have lst:∀{l:Qh} {ys:List V},v=.ref l->SqL K H l ys->RDL K C H0 ys ds->Vr K [v] H Q:=fun {l ys} ev h r2=>by subst ev;exact⟨l,ys,rfl,.inl ⟨h,fun p hp=>ZM i hs hp r2 q⟩⟩
  cases s with
  | no=>cases e1
  | bo es=>cases e1;obtain⟨l,ys,h1,h2,h3⟩:=r0;exact lst h1 (.of h2) h3
  | own es=>cases e1;obtain⟨l,ys,h1,h2,_,_,h3⟩:=r0;exact lst h1 (.of h2) h3
  | bd _ _=>cases e1
  | bt _ _=>cases e1
  | od _ _=>cases e1
  | ot _ _=>cases e1
  | sh d=>cases d with
   | lst es=>cases e1;obtain⟨l,ys,h1,h2,h3⟩:=RD.lstI r0;exact lst h1 (.of (i _ _ h2)) h3
   | fz es=>cases e1;obtain⟨l,ys,h1,h2,h3⟩:=RD.fzI r0;exact lst h1 (i.seq h2) h3
   | tup es=>cases e1;obtain⟨l,ys,rfl,h2,h3⟩:=RD.tupI r0;exact⟨l,ys,rfl,.inr ⟨i.seqT h2,q _ _ _ (.refl i) r0⟩⟩
   | _=>cases e1
 ·cases e
def Jrc:VW K C (Jqd K) Jcm:=by
 intro Hs H0 H xs as c Q i hs r e q;unfold Jcm at e;split at e
 ·obtain⟨v,rfl,r0⟩:=r.one;obtain⟨ds,e1,e⟩:=bind_some e;obtain⟨ns,e2,rfl⟩:=map_some e;obtain⟨l,ys,rfl,h,r1⟩:=r0.q i e1;rw[YA e2] at r1;have:=r1.ints;subst this;exact⟨l,ns,rfl,h,q _ _ _ (.refl i) (RD.int _)⟩
 ·cases e
def Jq8:VW K C (Jp6 K) JlY:=by
 intro Hs H0 H xs as c Q i hs r e q;unfold JlY at e;split at e
 ·obtain⟨v,rfl,r0⟩:=r.one;obtain⟨ds,e1,e⟩:=bind_some e;obtain⟨ns,e2,rfl⟩:=map_some e;obtain⟨l,ys,rfl,h,r1⟩:=r0.q i e1;rw[Jdn e2] at r1;have:=r1.bls;subst this;exact⟨l,ns,rfl,h,q _ _ _ (.refl i) (RD.bl _)⟩
 ·cases e
def Jra:VW K C Jp8 Jl3:=by
 intro Hs H0 H xs as c Q i hs r e q;unfold Jl3 at e;split at e
 ·cases e;obtain⟨v,w,rfl,r1,r2⟩:=r.two;rw[RD.intI r1,RD.intI r2];exact JkF (q _ _ _ (.refl i) (RD.int _))
 ·cases e
def Jrb:VW K C Jp9 Jfh:=by
 intro Hs H0 H xs as c Q i hs r e q;unfold Jfh at e;split at e
 ·cases e;obtain⟨v,w,rfl,r1,r2⟩:=r.two;rw[RD.intI r1,RD.intI r2];exact JkG (q _ _ _ (.refl i) (RD.int _))
 ·cases e
noncomputable def JqQ:Sl->Option Bool
 | .sh .non=>some false
 | .sh (.bl b)=>some b
 | .sh (.int i)=>some (i != 0)
 | .sh (.str y)=>if y.length<=Qr then some ((y.length:Int) != 0) else none
 | s=>s.q.map fun ds=>!ds.isEmpty
noncomputable def tTru?(a:Ev):En->Option Bool:=fun E=>(a E).bind JqQ
noncomputable def tyN:D->Option String
 | .non=>some "NoneType"
 | .bl _=>some "bool"
 | .int _=>some "int"
 | .str _=>some "str"
 | .tup _=>some "tuple"
 | .lst _=>some "list"
 | .fz _=>some "list"
 | .row _=>none
 | .dct _ _=>none
 | .dfz _ _=>none
 | .exc _=>none
noncomputable def Jic(t n:String):Bool:=t == n || (t == "bool" && n == "int")
noncomputable def Ja0(n:String)(a:Ev):Ev:=fun E=>(a E).bind fun s=>s.d.bind fun d=>(tyN d).map fun t=>.sh (.bl (Jic t n))
def RDL.empty(r:RDL K C H xs ds):xs.isEmpty=ds.isEmpty:=by cases xs <;> cases ds <;> first|rfl|(have:=r.1;simp at this)
def Jsd(ha:SE K C te ea):ST K C (JqJ K te) (tTru? ea):=by
 intro B H0 H σ E k Q I e q;obtain⟨a,e1,e⟩:=bind_some e;refine ha B H0 H σ E a _ I e1 fun x H1 H1' s1 r1=>?_
 have seq:∀{a:Sl},RR K C H H1 H1' x a->a.q.map (fun ds=>!ds.isEmpty)=some k->∃k',Jlx K x H1' k'/\Q k' H1':=fun {a} r1 e=>by
  obtain⟨ds,e2,rfl⟩:=map_some e;obtain⟨l,xs,rfl,h,r⟩:=r1.q s1.i e2;have z:=q _ _ s1;rw[<- r.empty] at z;rcases h with h|h
  ·exact⟨_,.inl ⟨xs,h,rfl⟩,z⟩
  ·exact⟨_,.inr (.inl ⟨xs,h,rfl⟩),z⟩
 unfold JqQ at e;split at e
 ·cases e;rw[RD.nonI r1];exact⟨_,rfl,q _ _ s1⟩
 ·cases e;rw[RD.blI r1];exact⟨_,rfl,q _ _ s1⟩
 ·cases e;rw[RD.intI r1];exact⟨_,rfl,q _ _ s1⟩
 ·split at e
  ·cases e;rw[RD.strI r1];exact⟨_,⟨by assumption,rfl⟩,q _ _ s1⟩
  ·cases e
 ·exact seq r1 e
def RD.ty(r:RD K C H x d)(e:tyN d=some t):TyS K H x (.type t):=by
 cases r with
 | non=>cases e;exact .of .non
 | bl b=>cases e;exact .of (.bl b)
 | int i=>cases e;exact .of (.int i)
 | str i=>cases e;exact .of (.str i)
 | tup h _ _=>cases e;exact .sqT h
 | lst h _ _=>cases e;exact .sqL (.of h)
 | fz h _ _=>cases e;exact .sqL h
 | row _ _ _ _=>cases e
 | dct _ _ _ _=>cases e
 | dfz _ _ _ _=>cases e
 | exc _ _=>cases e
noncomputable def Jdd(K:Qz)(n:String):Prop:=∀t∈["NoneType","bool","int","str","tuple","list"],kitOne K (.type t) (.type n)=some (Jic t n)
def JnR(e:tyN d=some t):t∈["NoneType","bool","int","str","tuple","list"]:=by cases d <;> cases e <;> simp
def Jsa(hk:Jdd K n)(ha:SE K C te ea):SE K C (tCB (Jm7 K) (Ur te (Ur (tC (.ty n)) VU))) (Ja0 n ea):=by
 intro B H0 H σ E c Q I e q;obtain⟨a,e1,e⟩:=bind_some e;obtain⟨d,e2,e⟩:=bind_some e;obtain⟨t,e3,rfl⟩:=map_some e;refine ha B H0 H σ E a _ I e1 fun x H1 H1' s1 r1=>?_
 exact Jqh (RD.ty (r1.dat s1.i e2) e3) (hk t (JnR e3)) (q _ _ _ s1 (RD.bl _))
def Jmm:Jdd K "int":=fun t ht=>by simp only[Qk,Gd,or_false] at ht;rcases ht with rfl | rfl | rfl | rfl | rfl | rfl <;> kernel_rfl
def JjT:Jdd K "bool":=fun t ht=>by simp only[Qk,Gd,or_false] at ht;rcases ht with rfl | rfl | rfl | rfl | rfl | rfl <;> kernel_rfl
def Jid:Jdd K "tuple":=fun t ht=>by simp only[Qk,Gd,or_false] at ht;rcases ht with rfl | rfl | rfl | rfl | rfl | rfl <;> kernel_rfl
def JjU:Jdd K "list":=fun t ht=>by simp only[Qk,Gd,or_false] at ht;rcases ht with rfl | rfl | rfl | rfl | rfl | rfl <;> kernel_rfl
mutual
inductive Pt where
 | nm (i:Nat)
 | tp (l:Pts)
inductive Pts where
 | nil
 | cons (p:Pt) (l:Pts)
end
mutual
noncomputable def Pt.bind:Pt->D->En->Option En
 | .nm i,d,E=>if i<E.length then some (E.set i (.sh d)) else none
 | .tp l,.tup ds,E=>l.bind ds E
 | .tp _,_,_=>none
noncomputable def Pts.bind:Pts->List D->En->Option En
 | .nil,[],E=>some E
 | .cons p l,d::ds,E=>(p.bind d E).bind fun E'=>l.bind ds E'
 | _,_,_=>none
end
mutual
noncomputable def Pt.slots:Pt->List Nat
 | .nm i=>[i]
 | .tp l=>l.slots
noncomputable def Pts.slots:Pts->List Nat
 | .nil=>[]
 | .cons p l=>p.slots++l.slots
end
mutual
theorem Pt.keep:∀{p:Pt} {d:D} {E E':En},p.bind d E=some E'->E'.length=E.length/\∀i,i∉p.slots->E'[i]?=E[i]?
 | .nm i,d,E,E',e=>by
  unfold Pt.bind at e;split at e
  ·cases e;refine⟨by simp,fun j hj=>?_⟩;rw[Gg,if_neg];intro z;exact hj (by simp[Pt.slots,z])
  ·cases e
 | .tp l,d,E,E',e=>by
  cases d with
  | tup ds=>exact Pts.keep (p:=l) (ds:=ds) (by simpa [Pt.bind] using e)
  | _=>simp[Pt.bind] at e
theorem Pts.keep:∀{p:Pts} {ds:List D} {E E':En},p.bind ds E=some E'->E'.length=E.length/\∀i,i∉p.slots->E'[i]?=E[i]?
 | .nil,[],E,E',e=>by simp[Pts.bind] at e;subst e;exact⟨rfl,fun _ _=>rfl⟩
 | .nil,_::_,_,_,e=>by simp[Pts.bind] at e
 | .cons _ _,[],_,_,e=>by simp[Pts.bind] at e
 | .cons p l,d::ds,E,E',e=>by rw[Pts.bind] at e;obtain⟨E1,e1,e2⟩:=bind_some e;obtain⟨h1,h2⟩:=Pt.keep e1;obtain⟨h3,h4⟩:=Pts.keep e2;refine⟨h3.trans h1,fun i hi=>?_⟩;simp[Pts.slots] at hi;rw[h4 i hi.2,h2 i hi.1]
end
section
variable(K:Qz)(C:Qh)
noncomputable def SG(g:TG)(p:Pt):Prop:=∀(B H0 H:Hp) (σ:St) (E E':En) (x:V) (d:D) (Q:St->Hp->Prop),EnvR K C B H0 H σ E->RD K C H0 x d->p.bind d E=some E'->(∀σ',EnvR K C B H0 H σ' E'->Q σ' H)->g x σ H Q
noncomputable def SGs(g:TGs)(p:Pts):Prop:=∀(B H0 H:Hp) (σ:St) (E E':En) (xs:List V) (ds:List D) (Q:St->Hp->Prop),EnvR K C B H0 H σ E->RDL K C H0 xs ds->p.bind ds E=some E'->(∀σ',EnvR K C B H0 H σ' E'->Q σ' H)->g xs σ H Q
end
def EnvR.setSh{σ:St}{E:En}(I:EnvR K C B H0 H σ E)(hi:i<E.length)(r:RD K C H0 v d):EnvR K C B H0 H (σ.set i (some v)) (E.set i (.sh d)) :=
 I.put' (s:=.sh d) (.refl I.h) hi r rfl
def Jo4(i:Nat):SG K C (Vc i) (.nm i):=by
 intro B H0 H σ E E' x d Q I r e q;rw[Pt.bind] at e;split at e
 ·cases e;exact q _ (I.setSh (by assumption) r)
 ·cases e
def Jn9:SGs K C Jma .nil:=by
 intro B H0 H σ E E' xs ds Q I r e q
 cases ds with
 | nil =>
  cases xs with
  | nil=>rw[Pts.bind] at e;cases e;exact⟨rfl,q σ I⟩
  | cons _ _=>have:=r.1;simp at this
 | cons _ _=>simp[Pts.bind] at e
def Jfk(h:SG K C g p)(hs:SGs K C gs ps):SGs K C (JgI g gs) (.cons p ps):=by
 intro B H0 H σ E E' xs ds Q I r e q
 cases ds with
 | nil=>simp[Pts.bind] at e
 | cons d ds =>
  cases xs with
  | nil=>have:=r.1;simp at this
  | cons x xs=>rw[Pts.bind] at e;obtain⟨E1,e1,e2⟩:=bind_some e;exact⟨x,xs,rfl,h B H0 H σ E E1 x d _ I r.head e1 fun σ1 I1=>hs B H0 H σ1 E1 E' xs ds Q I1 r.tail e2 q⟩
def JsB(hn:∀(ds:List D) (E E':En),ps.bind ds E=some E'->ds.length=n)(hs:SGs K C gs ps):SG K C (Jh1 K n gs) (.tp ps):=by
 intro B H0 H σ E E' x d Q I r e q
 cases d with
 | tup ds=>rw[Pt.bind] at e;obtain⟨a,xs,rfl,h,r⟩:=RD.tupI r;exact⟨a,xs,rfl,I.h.seqT h,by rw[r.1];exact hn ds E E' e,hs B H0 H σ E E' xs ds Q I r e q⟩
 | _=>simp[Pt.bind] at e
noncomputable def Pts.len:Pts->Nat
 | .nil=>0
 | .cons _ l=>l.len+1
theorem Pts.bind_len:∀{ps:Pts} {ds:List D} {E E':En},ps.bind ds E=some E'->ds.length=ps.len
 | .nil,[],_,_,_=>rfl
 | .nil,_::_,_,_,e=>by simp[Pts.bind] at e
 | .cons _ _,[],_,_,e=>by simp[Pts.bind] at e
 | .cons p l,d::ds,E,E',e=>by rw[Pts.bind] at e;obtain⟨E1,e1,e2⟩:=bind_some e;rw[Qv,Pts.bind_len e2];rfl
def Joa(hs:SGs K C gs ps)(hn:ps.len=n):SG K C (Jh1 K n gs) (.tp ps):=JsB (fun _ _ _ e=>(Pts.bind_len e).trans hn) hs
section
variable(K:Qz)(C:Qh)
noncomputable def Jlt(A:Hp)(J:It)(ds:List D)(H0:Hp):Prop:=∀H0' H',SStep A H0 H0' H'->(∀(i:Nat) (d:D),ds[i]?=some d->J.go i H'/\∀x H2,J.yld i H' x H2->∃H02,Step H' H0' H' H02 H2/\RD K C H02 x d)/\J.stop ds.length H'
noncomputable def SI(m:Bool)(wi:TI)(ev:En->Option (List D)):Prop:=∀(B H0 H:Hp) (σ:St) (E:En) (ds:List D) (R:It->Hp->Prop),EnvR K C B H0 H σ E->ev E=some ds ->
 (∀J H0' H',Step H H0 H H0' H'->Jlt K C (if m=true then H' else B) J ds H0'->R J H')->wi σ H R
end
noncomputable def Sl.it(m:Bool):Sl->Option (List D)
 | .bo ds=>if m=true then some ds else none
 | s=>s.q
noncomputable def iE(m:Bool)(a:Ev):En->Option (List D):=fun E=>(a E).bind (Sl.it m)
noncomputable def iV(i:Nat):En->Option (List D):=fun E=>match E[i]? with
 | some (.bo ds)=>some ds
 | some (.sh d)=>(Sl.sh d).q
 | _=>none
noncomputable def rng(lo:Int)(n:Nat):List D:=(Q1 n).map fun(i:Nat)=>.int (lo+(i:Int))
noncomputable def Jcu(a:Int):Bool:=Nat.ble a.natAbs 4611686018427387903
noncomputable def iR1(as:En->Option (List Sl)):En->Option (List D):=fun E=>(as E).bind fun ss=>match ss with
 | [.sh (.int n)]=>if Jcu n=true then some (rng 0 n.toNat) else none
 | _=>none
noncomputable def iR2(as:En->Option (List Sl)):En->Option (List D):=fun E=>(as E).bind fun ss=>match ss with
 | [.sh (.int a),.sh (.int b)]=>if (Jcu a && Jcu b)=true then some (rng a (b-a).toNat) else none
 | _=>none
def Wz(hd:∀H0' H',SStep A H0 H0' H'->SqL K H' a xs)(r:RDL K C H0 xs ds):Jlt K C A (Itl K a) ds H0:=by intro H0' H' st;have hq:=hd H0' H' st;refine⟨fun i d e=>?_,⟨xs,hq,by rw[r.1];exact Qu _⟩⟩;obtain⟨x,e1,r1⟩:=r.get e;refine⟨⟨xs,x,hq,e1⟩,fun y H2 ⟨e2,e3⟩=>?_⟩;subst e2;have:=e3 xs hq;rw[e1] at this;cases this;exact⟨H0',.refl st.i,r1.mono st.z⟩
def Jpb(hd:∀H0' H',SStep A H0 H0' H'->SqT K H' a xs)(r:RDL K C H0 xs ds):Jlt K C A (Itt K a) ds H0:=by intro H0' H' st;have hq:=hd H0' H' st;refine⟨fun i d e=>?_,⟨xs,hq,by rw[r.1];exact Qu _⟩⟩;obtain⟨x,e1,r1⟩:=r.get e;refine⟨⟨xs,x,hq,e1⟩,fun y H2 ⟨e2,e3⟩=>?_⟩;subst e2;have:=e3 xs hq;rw[e1] at this;cases this;exact⟨H0',.refl st.i,r1.mono st.z⟩
def Jr5(ha:SE K C te ea):SI K C m (Jfo K te) (iE m ea):=by
 intro B H0 H σ E ds R I e q;obtain⟨s,e1,e⟩:=bind_some e
 cases s with
 | no=>cases e
 | bd _ _=>cases e
 | bt _ _=>cases e
 | od _ _=>cases e
 | ot _ _=>cases e
 | bo es =>
  unfold Sl.it at e;dsimp only at e;split at e
  ·next hm=>cases e;refine .inl (ha B H0 H σ E _ _ I e1 fun x H1 H1' s1 r1=>?_);obtain⟨l,xs,rfl,h,r⟩:=r1;refine⟨l,rfl,⟨xs,.of h⟩,q _ _ _ s1 ?_⟩;rw[if_pos hm];exact Wz (fun H0' H' st=>.of (st.b _ _ h)) r
  ·cases e
 | own es=>cases (show some es=some ds from e);refine .inl (ha B H0 H σ E _ _ I e1 fun x H1 H1' s1 r1=>?_);have f:=JN (Hs:=H) s1.i;have r2:=RR.frz s1.i r1 rfl;obtain⟨l,xs,rfl,h,r⟩:=RD.lstI r2;exact⟨l,rfl,⟨xs,.of (f.i _ _ h)⟩,q _ _ _ (s1.comp f fun _ z=>z) (Wz (fun H0' H' st=>.of (st.i _ _ (st.z _ _ h))) r)⟩
 | sh d =>
  cases d with
  | lst es=>cases (show some es=some ds from e);refine .inl (ha B H0 H σ E _ _ I e1 fun x H1 H1' s1 r1=>?_);obtain⟨l,xs,rfl,h,r⟩:=RD.lstI r1;exact⟨l,rfl,⟨xs,.of (s1.i _ _ h)⟩,q _ _ _ s1 (Wz (fun H0' H' st=>.of (st.i _ _ (st.z _ _ h))) r)⟩
  | fz es=>cases (show some es=some ds from e);refine .inl (ha B H0 H σ E _ _ I e1 fun x H1 H1' s1 r1=>?_);obtain⟨l,xs,rfl,h,r⟩:=RD.fzI r1;exact⟨l,rfl,⟨xs,s1.i.seq h⟩,q _ _ _ s1 (Wz (fun H0' H' st=>(st.z.trans st.i).seq h) r)⟩
  | tup es=>cases (show some es=some ds from e);refine .inr (ha B H0 H σ E _ _ I e1 fun x H1 H1' s1 r1=>?_);obtain⟨l,xs,rfl,h,r⟩:=RD.tupI r1;exact⟨l,rfl,⟨xs,s1.i.seqT h⟩,q _ _ _ s1 (Jpb (fun H0' H' st=>(st.z.trans st.i).seqT h) r)⟩
  | _=>cases (show none=some ds from e)
def Jr8(i:Nat):SI K C false (Jfo K (VV i)) (iV i):=by
 intro B H0 H σ E ds R I e q;unfold iV at e;split at e
 ·next es h =>
  cases e;rcases I.at' i _ h with z|⟨v,h1,h2⟩
  ·cases z
  ·obtain⟨l,xs,rfl,hl,r⟩:=h2;refine .inl ⟨_,h1,l,rfl,⟨xs,.of (I.b _ _ hl)⟩,q _ _ _ (.refl I.h) (Wz (fun H0' H' st=>.of (st.b _ _ hl)) r)⟩
 ·next d h=>refine Jr5 (m:=false) (ea:=Jb i) (UB i) B H0 H σ E ds R I ?_ q;show(Jb i E).bind _=_;unfold Jb;rw[h];exact e
 ·cases e
def Jnl(e:(rng lo n)[i]?=some d):i<n/\d=.int (lo+(i:Int)):=by
 unfold rng at e;rw[Qq] at e
 cases h:(Q1 n)[i]? with
 | none=>rw[h] at e;cases e
 | some j=>rw[h] at e;cases e;obtain⟨h1,h2⟩:=Qo.mp h;simp at h1 h2;subst h2;exact⟨h1,rfl⟩
def JjO:Jlt K C A (Itr lo n) (rng lo n) H0:=by intro H0' H' st;refine⟨fun i d e=>?_,by show n<=_;simp[rng]⟩;obtain⟨h1,rfl⟩:=Jnl e;refine⟨h1,fun x H2 ⟨e1,e2⟩=>?_⟩;subst e1 e2;exact⟨H0',.refl st.i,.int _⟩
def U5(h:Jcu a=true):-(2 ^ 62)<=a/\a<2 ^ 62:=by unfold Jcu at h;rw[Lm] at h;omega
def Jr6(ha:SA K C t ev):SI K C m (Joe t) (iR1 ev):=by
 intro B H0 H σ E ds R I e q;obtain⟨ss,e1,e⟩:=bind_some e;split at e
 ·split at e
  ·next hn =>
   cases e;refine ha B H0 H σ E _ _ I e1 fun vs H1 H1' s1 r1=>?_
   obtain⟨v,rfl,r⟩:=r1.one;rw[RD.intI r];exact⟨_,rfl,(U5 hn).1,(U5 hn).2,q _ _ _ s1 JjO⟩
  ·cases e
 ·cases e
def Jr7(ha:SA K C t ev):SI K C m (Jof t) (iR2 ev):=by
 intro B H0 H σ E ds R I e q;obtain⟨ss,e1,e⟩:=bind_some e;split at e
 ·split at e
  ·next hn =>
   cases e;rw[QR] at hn;refine ha B H0 H σ E _ _ I e1 fun vs H1 H1' s1 r1=>?_
   obtain⟨v,w,rfl,r,r'⟩:=r1.two;rw[RD.intI r,RD.intI r'];exact⟨_,_,rfl,⟨(U5 hn.1).1,(U5 hn.1).2,(U5 hn.2).1,(U5 hn.2).2⟩,q _ _ _ s1 JjO⟩
  ·cases e
 ·cases e
noncomputable def yes?:En->Option Bool:=fun _=>some true
noncomputable def Wy(imp:List (Option Nat))(E:En):En:=imp.map fun o=>match o with
 | none=>.no
 | some k=>match E[k]? with
  | some (.own ds)=>.bo ds
  | some (.od ks ds)=>.bd ks ds
  | some (.ot ks ds)=>.bt ks ds
  | some s=>s
  | none=>.no
noncomputable def Uw(p:Pt)(c:En->Option Bool)(a:Ev)(E1:En):List D->Option (List D)
 | []=>some []
 | d::ds=>(p.bind d E1).bind fun E2=>(c E2).bind fun k=>if k=true then(a E2).bind fun s=>s.frz.bind fun y=>(Uw p c a E1 ds).bind fun ys=>some (y::ys) else Uw p c a E1 ds
noncomputable def Ys(it:En->Option (List D))(p:Pt)(c:En->Option Bool)(a:Ev)(imp:List (Option Nat)):Ev:=fun E=>(it E).bind fun ds=>if ds.length<=Qr then(Uw p c a (Wy imp E) ds).map .own else none
def Jse:ST K C JqL yes?:=fun _ _ _ _ _ _ _ I e q=>by cases e;exact q _ _ (.refl I.h)
def JlR{B H0 H:Hp}{σ:St}{E:En}{imp:List (Option Nat)}(I:EnvR K C B H0 H σ E):EnvR K C H H0 H (Jad imp σ) (Wy imp E):=by
 have get:∀(i:Nat) (s:Sl),(Wy imp E)[i]?=some s->s=.no\/∃v,(Jad imp σ)[i]?=some (some v)/\RSl K C H H0 H v s/\Yp s=false:=fun i s e=>by
  unfold Wy at e;unfold Jad;rw[Qq] at e ⊢
  cases h:imp[i]? with
  | none=>rw[h] at e;cases e
  | some o =>
   rw[h] at e
   cases o with
   | none=>cases e;exact .inl rfl
   | some k =>
    have e':(match E[k]? with|some (.own ds)=>Sl.bo ds|some (.od ks ds)=>Sl.bd ks ds|some (.ot ks ds)=>Sl.bt ks ds|some s=>s|none=>.no)=s:=QS e
    cases hE:E[k]? with
    | none=>rw[hE] at e';exact .inl e'.symm
    | some s' =>
     rw[hE] at e';rcases I.at' k s' hE with z|⟨v,h1,h2⟩
     ·subst z;exact .inl e'.symm
     ·have g:(σ[k]?).join=some v:=by rw[h1];rfl
      cases s' with
      | no=>exact .inl e'.symm
      | sh d=>dsimp only at e';subst e';exact .inr ⟨v,by show some ((σ[k]?).join)=_;rw[g],h2,rfl⟩
      | bo ds=>dsimp only at e';subst e';obtain⟨l,xs,q1,q2,q3⟩:=h2;exact .inr ⟨v,by show some ((σ[k]?).join)=_;rw[g],⟨l,xs,q1,I.b _ _ q2,q3⟩,rfl⟩
      | own ds=>dsimp only at e';subst e';obtain⟨l,xs,q1,q2,_,_,q3⟩:=h2;exact .inr ⟨v,by show some ((σ[k]?).join)=_;rw[g],⟨l,xs,q1,q2,q3⟩,rfl⟩
      | bd ks ds=>dsimp only at e';subst e';obtain⟨l,xs,q1,q2,q3⟩:=h2;exact .inr ⟨v,by show some ((σ[k]?).join)=_;rw[g],⟨l,xs,q1,I.b _ _ q2,q3⟩,rfl⟩
      | bt ks ds=>dsimp only at e';subst e';obtain⟨l,xs,q1,q2,q3⟩:=h2;exact .inr ⟨v,by show some ((σ[k]?).join)=_;rw[g],⟨l,xs,q1,I.b _ _ q2,q3⟩,rfl⟩
      | od ks ds=>dsimp only at e';subst e';obtain⟨l,xs,q1,q2,_,_,q3⟩:=h2;exact .inr ⟨v,by show some ((σ[k]?).join)=_;rw[g],⟨l,xs,q1,q2,q3⟩,rfl⟩
      | ot ks ds=>dsimp only at e';subst e';obtain⟨l,xs,q1,q2,_,_,q3⟩:=h2;exact .inr ⟨v,by show some ((σ[k]?).join)=_;rw[g],⟨l,xs,q1,q2,q3⟩,rfl⟩
 refine⟨Same.refl _,I.h,by simp[Jad,Wy],fun i s e=>?_,fun i j s t v hij e1 e2 o1 o2=>?_,I.t.mono I.b⟩
 ·rcases get i s e with z|⟨v,h1,h2,_⟩
  ·exact .inl z
  ·exact .inr ⟨v,h1,h2⟩
 ·rcases get i _ e1 with z|⟨v,h1,h2,h3⟩
  ·subst z;cases o1
  ·rw[h3] at o1;cases o1
def Jqu(hi:SI K C true wi it)(hg:SG K C g p)(hc:ST K C tt c)(ha:SE K C te a)(hp:(p.slots.all fun i=>match imp[i]? with|some none=>true|_=>false)=true):SE K C (Jhz wi g tt te imp) (Ys it p c a imp):=by
 intro B H0 H σ E r Q I e q;obtain⟨ds,e1,e⟩:=bind_some e;split at e
 ·next hl =>
  obtain⟨es,e2,rfl⟩:=map_some e;refine hi B H0 H σ E ds _ I e1 fun J H1 H1' s1 ok=>?_
  rw[if_pos rfl] at ok;have I1:EnvR K C H1' H1 H1' (Jad imp σ) (Wy imp E):=JlR (I.step s1)
  refine⟨fun i m ys σ' H'=>m=ds.length-i/\i<=ds.length/\∃H0' gs rs,EnvR K C H1' H0' H' σ' (Wy imp E)/\Step H1' H1 H1' H0' H'/\RDL K C H0' ys gs/\Uw p c a (Wy imp E) (ds.drop i)=some rs/\es=gs++rs/\gs.length<=i,
   ⟨ds.length,by simp,GL _,H1,[],es,I1,.refl s1.i,.nil,e2,rfl,Qu _⟩,?_⟩
  rintro i m ys σ' H' ⟨rfl,hi',H0',gs,rs,I',st,rys,er,ees,hgl⟩;have stop:=ok H0' H' ⟨st.h,st.z,st.n,st.i⟩
  by_cases hlt:i<ds.length
  ·have hd:ds[i]?=some ds[i]:=by simp[hlt]
   obtain⟨go,yl⟩:=stop.1 i _ hd;refine .inr ⟨go,by rw[rys.1];omega,fun ys' σ2 H2=>∃H02 gs rs,EnvR K C H1' H02 H2 σ2 (Wy imp E)/\Step H1' H1 H1' H02 H2/\RDL K C H02 ys' gs/\Uw p c a (Wy imp E) (ds.drop (i+1))=some rs/\es=gs++rs/\gs.length<=i+1,
    fun ys' σ2 H2 h=>⟨ds.length-(i+1),by omega,rfl,hlt,h⟩,fun x H2 y=>?_⟩
   obtain⟨H02,st2,rx⟩:=yl x H2 y;rw[L5 hlt,Uw] at er;obtain⟨E2,b1,er⟩:=bind_some er;obtain⟨k,b2,er⟩:=bind_some er;refine hg H1' H02 H2 σ' (Wy imp E) E2 x _ _ (I'.step st2) rx b1 fun σ2 I2=>?_
   have back:∀{H03 H3:Hp},EnvR K C H1' H03 H3 σ2 E2->EnvR K C H1' H03 H3 σ2 (Wy imp E):=fun {H03 H3} J=>by
    obtain⟨k1,k2⟩:=Pt.keep b1;refine J.sub k1.symm fun j s ej=>?_
    by_cases hj:j∈p.slots
    ·have:=L0.mp hp j hj
     have ej':=ej;unfold Wy at ej';rw[Qq] at ej'
     cases hm:imp[j]? with
     | none=>rw[hm] at this;cases this
     | some o =>
      rw[hm] at this ej'
      cases o with
      | none=>cases ej';exact .inl rfl
      | some _=>cases this
    ·exact .inr (by rw[k2 j hj];exact ej)
   refine hc H1' H02 H2 σ2 E2 k _ I2 b2 fun H03 H3 st3=>?_
   have st13:Step H1' H1 H1' H03 H3:=(st.trans st2).trans st3
   cases k with
   | false=>rw[if_neg (by simp)];rw[if_neg (by simp)] at er;exact⟨H03,gs,rs,back (I2.step st3),st13,rys.mono (st2.z.trans st3.z),er,ees,by omega⟩
   | true =>
    rw[if_pos rfl];rw[if_pos rfl] at er;obtain⟨s,b3,er⟩:=bind_some er;obtain⟨y',b4,er⟩:=bind_some er;obtain⟨ws,b5,er⟩:=bind_some er;cases er;refine ha H1' H03 H3 σ2 E2 s _ (I2.step st3) b3 fun v H04 H4 st4 r4=>?_
    have f:=JN (Hs:=H3) st4.i
    have st5:Step H3 H03 H3 (JU H3 H04 H4) H4:=st4.comp f fun _ z=>z
    exact⟨_,gs++[y'],ws,back ((I2.step st3).step st5),st13.trans st5,(rys.mono ((st2.z.trans st3.z).trans st5.z)).snoc (RR.frz st4.i r4 b4),b5,by rw[ees,Kc];rfl,by rw[QA];simp;exact hgl⟩
  ·have e3:i=ds.length:=by omega
   subst e3;refine .inl ⟨stop.2,by rw[rys.1];omega,fun p hp=>?_⟩;rw[List.drop_length,Uw] at er;cases er;rw[KQ] at ees;subst ees;exact YY (Hs:=H) st.i (s1.h.trans st.h) hp rys fun v H2 H2' s2 r2=>q v H2 H2' ((s1.trans st).comp s2 fun _ z=>z) r2
 ·cases e
end LE
namespace LE
open PySem L2 LR
inductive Out where
 | nx (E:En)|rt (r:Sl)|bk (E:En)|ct (E:En)
noncomputable abbrev Es:=En->Option Out
section
variable(K:Qz)(C:Qh)
noncomputable def Fin(B H0:Hp)(D:Ends):Out->Prop
 | .nx E=>∀σ' H0' H',SStep B H0 H0' H'->EnvR K C B H0' H' σ' E->D.nx σ' H'
 | .bk E=>∀σ' H0' H',SStep B H0 H0' H'->EnvR K C B H0' H' σ' E->D.bk σ' H'
 | .ct E=>∀σ' H0' H',SStep B H0 H0' H'->EnvR K C B H0' H' σ' E->D.ct σ' H'
 | .rt r=>∀v H0' H',SStep B H0 H0' H'->RR K C B H0' H' v r->D.rt v H'
noncomputable def SS(ts:TS)(ev:Es):Prop:=∀(B H0 H:Hp) (σ:St) (E:En) (o:Out) (D:Ends),EnvR K C B H0 H σ E->ev E=some o->Fin K C B H0 D o->ts D σ H
end
noncomputable def JW:Es:=fun E=>some (.nx E)
noncomputable def Jey(b:Es):Out->Option Out
 | .nx E=>b E
 | .rt r=>some (.rt r)
 | .bk E=>some (.bk E)
 | .ct E=>some (.ct E)
noncomputable def Jo(a b:Es):Es:=fun E=>(a E).bind (Jey b)
noncomputable def xIf(c:En->Option Bool)(a b:Es):Es:=fun E=>(c E).bind fun k=>if k=true then a E else b E
noncomputable def keep?:Sl->Option Sl
 | .sh d=>some (.sh d)
 | .own ds=>some (.own ds)
 | .od ks ds=>some (.od ks ds)
 | .ot ks ds=>some (.ot ks ds)
 | _=>none
noncomputable def Zg(i:Nat)(a:Ev):Es:=fun E=>(a E).bind fun s=>(keep? s).bind fun s=>if i<E.length then some (.nx (E.set i s)) else none
noncomputable def Js(i:Nat)(a:Ev):Es:=fun E=>(a E).bind fun s=>s.frz.bind fun d=>if i<E.length then some (.nx (E.set i (.sh d))) else none
noncomputable def JeU(a:Ev):Es:=fun E=>(a E).map fun _=>.nx E
noncomputable def JZ(a:Ev):Es:=fun E=>(a E).bind fun s=>(keep? s).map .rt
noncomputable def UC(i:Nat):Es:=fun E=>match E[i]? with
 | some (.sh d)=>some (.rt (.sh d))
 | some (.own ds)=>some (.rt (.own ds))
 | some (.od ks ds)=>some (.rt (.od ks ds))
 | _=>none
noncomputable def VB:Es:=fun _=>none
noncomputable def Jc8(i:Nat)(a:Ev):Es:=fun E=>match E[i]? with
 | some (.own ds)=>(a E).bind fun s=>s.frz.bind fun d=>if ds.length<Qr then some (.nx (E.set i (.own (ds++[d])))) else none
 | _=>none
noncomputable def Jgb(i:Nat)(a:Ev):Es:=fun E=>match E[i]? with
 | some (.own ds)=>(a E).bind fun s=>s.m.bind fun es=>if ds.length+es.length<=Qr then some (.nx (E.set i (.own (ds++es)))) else none
 | _=>none
noncomputable def JnU(i j:Nat)(f:Sl->Option Sl):Es:=fun E=>match E[i]? with
 | some (.own ds)=>(ds[ds.length-1]?).bind fun d=>(f (.sh d)).bind fun s=>(sh? s).bind fun d'=>if j<E.length then some (.nx ((E.set i (.own ds.dropLast)).set j (.sh d'))) else none
 | _=>none
noncomputable def Jga(f:Int->Int->Int)(i:Nat)(a:Ev):Es:=fun E=>match E[i]? with
 | some (.sh (.int x))=>(a E).bind fun s=>match s with
  | .sh (.int y)=>some (.nx (E.set i (.sh (.int (f x y)))))
  | _=>none
 | _=>none
noncomputable def Ya(p:Pt)(b:Es):List D->Es
 | [],E=>some (.nx E)
 | d::ds,E=>(p.bind d E).bind fun E1=>(b E1).bind fun o=>match o with
  | .nx E2=>Ya p b ds E2
  | .ct E2=>Ya p b ds E2
  | .bk E2=>some (.nx E2)
  | .rt r=>some (.rt r)
noncomputable def Vf(it:En->Option (List D))(p:Pt)(b:Es):Es:=fun E=>(it E).bind fun ds=>Ya p b ds E
noncomputable def YC(c:En->Option Bool)(b:Es):Nat->Es
 | 0,_=>none
 | n+1,E=>(c E).bind fun k=>if k=true then(b E).bind fun o=>match o with
  | .nx E2=>YC c b n E2
  | .ct E2=>YC c b n E2
  | .bk E2=>some (.nx E2)
  | .rt r=>some (.rt r)
  else some (.nx E)
section
variable{K:Qz}{C:Qh}{B H0 H H0' H':Hp}{σ:St}{E:En}{D:Ends}{o:Out}{te:TE}{ea:Ev}{t u:TS}{et eu:Es}
def Fin.step(st:SStep B H0 H0' H')(f:Fin K C B H0 D o):Fin K C B H0' D o:=by
 cases o with
 | nx E=>exact fun σ' H1 H1' s1 I=>f σ' H1 H1' (st.trans s1) I
 | bk E=>exact fun σ' H1 H1' s1 I=>f σ' H1 H1' (st.trans s1) I
 | ct E=>exact fun σ' H1 H1' s1 I=>f σ' H1 H1' (st.trans s1) I
 | rt r=>exact fun v H1 H1' s1 I=>f v H1 H1' (st.trans s1) I
def EnvR.ss(I:EnvR K C B H0 H σ E):SStep B H0 H0 H:=.refl I.b I.h
def JqV:SS K C Jk4 JW:=fun _ _ _ _ _ _ _ I e f=>by cases e;exact f _ _ _ I.ss I
def JnV:SS K C Jk3 VB:=fun _ _ _ _ _ _ _ _ e _=>by cases e
def JaT(ht:SS K C t et)(hu:SS K C u eu):SS K C (JqI t u) (Jo et eu):=by
 intro B H0 H σ E o D I e f;obtain⟨o1,e1,e⟩:=bind_some e;refine ht B H0 H σ E o1 _ I e1 ?_
 cases o1 with
 | nx E1=>exact fun σ1 H1 H1' s1 I1=>hu B H1 H1' σ1 E1 o D I1 e (f.step s1)
 | bk E1=>cases e;exact f
 | ct E1=>cases e;exact f
 | rt r=>cases e;exact f
def JsU(hc:ST K C c ec)(ht:SS K C t et)(hu:SS K C u eu):SS K C (JqG c t u) (xIf ec et eu):=by
 intro B H0 H σ E o D I e f;obtain⟨k,e1,e⟩:=bind_some e;refine hc B H0 H σ E k _ I e1 fun H1 H1' s1=>?_
 cases k with
 | true=>rw[if_pos rfl];exact ht B H1 H1' σ E o D (I.step s1) e (f.step (s1.ss I.b))
 | false=>rw[if_neg (by simp)];exact hu B H1 H1' σ E o D (I.step s1) e (f.step (s1.ss I.b))
def JbE(e:keep? s=some r):s=r/\Jpa r=false:=by cases s <;> cases e <;> exact⟨rfl,rfl⟩
def JoE(ha:SE K C te ea):SS K C (Jf1 te (Vc i)) (Zg i ea):=by
 intro B H0 H σ E o D I e f;obtain⟨s,e1,e⟩:=bind_some e;obtain⟨s',e2,e⟩:=bind_some e;obtain⟨rfl,hb⟩:=JbE e2;split at e
 ·cases e;exact ha B H0 H σ E _ _ I e1 fun v H1 H1' s1 r1=>f _ _ _ (s1.ss I.b) (I.put' s1 (by assumption) r1 hb)
 ·cases e
def Jc9(ha:SE K C te ea):SS K C (Jf1 te (Vc i)) (Js i ea):=by
 intro B H0 H σ E o D I e f;obtain⟨s,e1,e⟩:=bind_some e;obtain⟨d,e2,e⟩:=bind_some e;split at e
 ·cases e;refine ha B H0 H σ E _ _ I e1 fun v H1 H1' s1 r1=>?_
  have s2:Step H H0 H (JU H H1 H1') H1':=s1.comp (JN s1.i) fun _ z=>z
  exact f _ _ _ (s2.ss I.b) ((I.step s2).setSh (by assumption) (RR.frz s1.i r1 e2))
 ·cases e
def Jlp(ha:SE K C te ea):SS K C (Zq te) (JeU ea):=by intro B H0 H σ E o D I e f;obtain⟨s,e1,rfl⟩:=map_some e;exact ha B H0 H σ E _ _ I e1 fun v H1 H1' s1 r1=>f _ _ _ (s1.ss I.b) (I.step s1)
def Jsu(ha:SE K C te ea):SS K C (JqH te) (JZ ea):=by intro B H0 H σ E o D I e f;obtain⟨s,e1,e⟩:=bind_some e;obtain⟨s',e2,rfl⟩:=map_some e;obtain⟨rfl,hb⟩:=JbE e2;exact ha B H0 H σ E _ _ I e1 fun v H1 H1' s1 r1=>f _ _ _ (s1.ss I.b) (r1.weak fun a z=>Same.free I.b z)
def Jlq:SS K C (JqH (VV i)) (UC i):=by
 intro B H0 H σ E o D I e f;unfold UC at e;split at e
 ·next d h =>
  cases e;rcases I.at' i _ h with z|⟨v,h1,h2⟩
  ·cases z
  ·exact⟨v,h1,f _ _ _ I.ss h2⟩
 ·next d h =>
  cases e;rcases I.at' i _ h with z|⟨v,h1,h2⟩
  ·cases z
  ·exact⟨v,h1,f _ _ _ I.ss h2⟩
 ·next d h =>
  cases e;rcases I.at' i _ h with z|⟨v,h1,h2⟩
  ·cases z
  ·exact⟨v,h1,f _ _ _ I.ss h2⟩
 ·cases e
def EnvR.mutG{i:Nat}{l:Qh}{t t':Sl}{o':HO}(I:EnvR K C B H0 H σ E)(e1:E[i]?=some t)(ho:Yp t=true)(ho':Yp t'=true)(e2:σ[i]?=some (some (.ref l)))(r:RSl K C B H0 (upd H l o') (.ref l) t') :
 EnvR K C B H0 (upd H l o') σ (E.set i t'):=by
 obtain⟨h1,h2,h3⟩:=I.ownG e1 ho e2;have hi:i<E.length:=(Qo.mp e1).1;have nb:∀{A:Hp},A l=none->Same A H->Same A (upd H l o'):=fun {A} n s a o e=>by rw[Je (Jn e n)];exact s a o e
 refine⟨nb h3 I.b,nb h2 I.h,by simp[I.len],fun j s e=>?_,fun j k s1 s2 v hjk a1 a2 p1 p2 a3=>?_,I.t⟩
 ·rw[Gg] at e
  by_cases hj:i=j
  ·subst hj;rw[if_pos rfl,if_pos hi] at e;cases e;exact .inr ⟨_,e2,r⟩
  ·rw[if_neg hj] at e;rcases I.at' j s e with z|⟨v,q1,q2⟩
   ·exact .inl z
   ·refine .inr ⟨v,q1,?_⟩
    cases s with
    | no=>trivial
    | sh d=>exact q2
    | bo es=>exact q2
    | bd ks es=>exact q2
    | bt ks es=>exact q2
    | own es =>
     obtain⟨l',ys,p1,p2,p3,p4,p5⟩:=q2;subst p1;have:l'≠l:=fun z=>by subst z;exact I.sep i j t _ (.ref l') hj e1 e ho rfl e2 q1
     exact⟨l',ys,rfl,by rw[Je this];exact p2,p3,p4,p5⟩
    | od ks es =>
     obtain⟨l',ys,p1,p2,p3,p4,p5⟩:=q2;subst p1;have:l'≠l:=fun z=>by subst z;exact I.sep i j t _ (.ref l') hj e1 e ho rfl e2 q1
     exact⟨l',ys,rfl,by rw[Je this];exact p2,p3,p4,p5⟩
    | ot ks es =>
     obtain⟨l',ys,p1,p2,p3,p4,p5⟩:=q2;subst p1;have:l'≠l:=fun z=>by subst z;exact I.sep i j t _ (.ref l') hj e1 e ho rfl e2 q1
     exact⟨l',ys,rfl,by rw[Je this];exact p2,p3,p4,p5⟩
 ·have own:∀{j:Nat} {u:Sl},(E.set i t')[j]?=some u->Yp u=true->∃g,E[j]?=some g/\Yp g=true:=fun {j u} a w=>by
   rw[Gg] at a
   by_cases hj:i=j
   ·subst hj;exact⟨t,e1,ho⟩
   ·rw[if_neg hj] at a;exact⟨_,a,w⟩
  obtain⟨g1,b1,c1⟩:=own a1 p1;obtain⟨g2,b2,c2⟩:=own a2 p2;exact I.sep j k g1 g2 v hjk b1 b2 c1 c2 a3
def EnvR.mut{i:Nat}{l:Qh}{ds ds':List LE.D}{xs xs':List V}(I:EnvR K C B H0 H σ E)(e1:E[i]?=some (.own ds))(e2:σ[i]?=some (some (.ref l)))(r:RDL K C H0 xs' ds') :
 EnvR K C B H0 (upd H l (.lst xs')) σ (E.set i (.own ds')):=by
 obtain⟨_,h2,h3⟩:=I.ownG e1 rfl e2;exact I.mutG (t':=.own ds') e1 rfl rfl e2 ⟨l,xs',rfl,Jl,h2,h3,r⟩
def EnvR.slot{i:Nat}{ds:List LE.D}(I:EnvR K C B H0 H σ E)(e1:E[i]?=some (.own ds)):∃l xs,σ[i]?=some (some (.ref l))/\H l=some (.lst xs)/\H0 l=none/\B l=none/\RDL K C H0 xs ds:=by
 rcases I.at' i _ e1 with z|⟨v,h1,l,xs,rfl,h2,h3,h4,h5⟩
 ·cases z
 ·exact⟨l,xs,h1,h2,h3,h4,h5⟩
def Jsp(ha:SE K C te ea):SS K C (Zq (tBM K "list" WD (VV i) (Ur te VU))) (Jc8 i ea):=by
 intro B H0 H σ E o D I e f;unfold Jc8 at e;split at e
 ·next ds h =>
  obtain⟨s,e1,e⟩:=bind_some e;obtain⟨d,e2,e⟩:=bind_some e;split at e
  ·next hz =>
   cases e;obtain⟨l,xs,g1,g2,g3,g4,g5⟩:=I.slot h;refine⟨_,g1,.inl ⟨rfl,_,.of g2⟩,?_⟩;refine ha B H0 H σ E _ _ I e1 fun v H1 H1' s1 r1=>?_
   have s2:Step H H0 H (JU H H1 H1') H1':=s1.comp (JN s1.i) fun _ z=>z
   have I2:=I.step s2
   have m:=I2.mut (xs:=xs) h g1 ((g5.mono s2.z).snoc (RR.frz s1.i r1 e2));exact⟨l,xs,v,rfl,rfl,s2.h _ _ g2,by rw[g5.1];exact hz,f _ _ _ ⟨m.b,s2.z,(s2.ss I.b).n,m.h⟩ m⟩
  ·cases e
 ·cases e
def Jsr(ha:SE K C te ea):SS K C (Zq (tBM K "list" Jhh (VV i) (Ur te VU))) (Jgb i ea):=by
 intro B H0 H σ E o D I e f;unfold Jgb at e;split at e
 ·next ds h =>
  obtain⟨s,e1,e⟩:=bind_some e;obtain⟨es,e2,e⟩:=bind_some e;split at e
  ·next hz =>
   cases e;obtain⟨l,xs,g1,g2,g3,g4,g5⟩:=I.slot h;refine⟨_,g1,.inl ⟨rfl,_,.of g2⟩,?_⟩;refine ha B H0 H σ E _ _ I e1 fun v H1 H1' s1 r1=>?_
   have I2:=I.step s1;obtain⟨l',ys,rfl,k1,k2⟩:=r1.m s1.i e2
   have m:=I2.mut (xs:=xs) h g1 ((g5.mono s1.z).append k2);exact⟨l,l',xs,ys,rfl,rfl,s1.h _ _ g2,k1,by rw[g5.1,k2.1];exact hz,f _ _ _ ⟨m.b,s1.z,(s1.ss I.b).n,m.h⟩ m⟩
  ·cases e
 ·cases e
def Jst:SS K C (Jf1 (JnL K "list" JrV (VV i)) (Vc j)) (JnU i j some):=by
 intro B H0 H σ E o D I e f;unfold JnU at e;split at e
 ·next ds h =>
  obtain⟨d,e1,e⟩:=bind_some e;obtain⟨s,e2,e⟩:=bind_some e;cases e2;obtain⟨d',e3,e⟩:=bind_some e;cases e3;split at e
  ·next hj =>
   cases e;obtain⟨l,xs,g1,g2,g3,g4,g5⟩:=I.slot h;rw[<- g5.1] at e1;obtain⟨y,e4,r4⟩:=g5.get e1;have hd:RDL K C H0 xs.dropLast ds.dropLast:=by rw[RS,RS,g5.1];exact g5.take _
   have m:=I.mut (xs:=xs) h g1 hd;refine⟨_,g1,.inl ⟨rfl,_,.of g2⟩,l,xs,y,rfl,rfl,g2,e4,?_⟩;exact f _ _ _ ⟨m.b,Same.refl _,fun _ _ e=>.inl e,m.h⟩ (m.setSh (by simpa using hj) r4)
  ·cases e
 ·cases e
def Jsq(ha:SE K C te ea):SS K C (Jsi i te (ipI g)) (Jga g i ea):=by
 intro B H0 H σ E o D I e f;unfold Jga at e;split at e
 ·next x h =>
  obtain⟨s,e1,e⟩:=bind_some e;split at e
  ·cases e;rcases I.at' i _ h with z|⟨v,h1,h2⟩
   ·cases z
   ·have hi:i<E.length:=(Qo.mp h).1;refine⟨v,h1,ha B H0 H σ E _ _ I e1 fun w H1 H1' s1 r1=>⟨_,_,RD.intI h2,RD.intI r1,f _ _ _ (s1.ss I.b) ((I.step s1).setSh hi (.int _))⟩⟩
  ·cases e
 ·cases e
def EnvR.slotD{i:Nat}{ks:List Int}{ds:List LE.D}(I:EnvR K C B H0 H σ E)(e1:E[i]?=some (.od ks ds)):∃l xs,σ[i]?=some (some (.ref l))/\H l=some (dkO ks xs)/\H0 l=none/\B l=none/\ks.length=ds.length/\RDL K C H0 xs ds:=by
 rcases I.at' i _ e1 with z|⟨v,h1,l,xs,rfl,h2,h3,h4,h5⟩
 ·cases z
 ·exact⟨l,xs,h1,h2,h3,h4,h5⟩
def JoD(hi:SI K C false wi it)(hg:SG K C g p)(ht:SS K C t et):SS K C (JnM wi g t) (Vf it p et):=by
 intro B H0 H σ E o D I e f;obtain⟨ds,e1,e⟩:=bind_some e;refine hi B H0 H σ E ds _ I e1 fun J H1 H1' s1 ok=>?_
 rw[if_neg (by simp)] at ok;refine⟨fun i m σ' H'=>m=ds.length-i/\i<=ds.length/\∃H0' E',EnvR K C B H0' H' σ' E'/\SStep B H1 H0' H'/\Ya p et (ds.drop i) E'=some o,
  ⟨ds.length,by simp,GL _,H1,E,I.step s1,.refl (I.b.trans s1.h) s1.i,e⟩,?_⟩
 rintro i m σ' H' ⟨rfl,hi',H0',E',I',st,er⟩;have stop:=ok H0' H' st;have f':Fin K C B H0' D o:=(f.step (s1.ss I.b)).step st
 by_cases hlt:i<ds.length
 ·have hd:ds[i]?=some ds[i]:=by simp[hlt]
  obtain⟨go,yl⟩:=stop.1 i _ hd;refine .inr ⟨go,fun σ2 H2=>∃H02 E2,EnvR K C B H02 H2 σ2 E2/\SStep B H1 H02 H2/\Ya p et (ds.drop (i+1)) E2=some o,fun σ2 H2 h=>⟨ds.length-(i+1),by omega,rfl,hlt,h⟩,fun x H2 y=>?_⟩;obtain⟨H02,st2,rx⟩:=yl x H2 y;rw[L5 hlt,Ya] at er;obtain⟨E1,b1,er⟩:=bind_some er;obtain⟨o1,b2,er⟩:=bind_some er;have ss2:SStep B H0' H02 H2:=st2.ss I'.b;refine hg B H02 H2 σ' E' E1 x _ _ (I'.step st2) rx b1 fun σ2 I2=>?_
  refine ht B H02 H2 σ2 E1 o1 _ I2 b2 ?_
  cases o1 with
  | nx E2=>exact fun σ3 H3 H3' s3 I3=>⟨H3,E2,I3,(st.trans ss2).trans s3,er⟩
  | ct E2=>exact fun σ3 H3 H3' s3 I3=>⟨H3,E2,I3,(st.trans ss2).trans s3,er⟩
  | bk E2=>cases er;exact f'.step ss2
  | rt r=>cases er;exact f'.step ss2
 ·have e3:i=ds.length:=by omega
  subst e3;rw[List.drop_length,Ya] at er;cases er;exact .inl ⟨stop.2,f' _ _ _ I'.ss I'⟩
def JnW(hc:ST K C c ec)(ht:SS K C t et):SS K C (Jk7 c t) (YC ec et n):=by
 intro B H0 H σ E o D I e f;refine⟨fun m σ' H'=>∃H0' E',EnvR K C B H0' H' σ' E'/\SStep B H0 H0' H'/\YC ec et m E'=some o,⟨n,H0,E,I,I.ss,e⟩,?_⟩;rintro m σ' H' ⟨H0',E',I',st,er⟩
 cases m with
 | zero=>cases er
 | succ m =>
  rw[YC] at er;obtain⟨k,b1,er⟩:=bind_some er;refine hc B H0' H' σ' E' k _ I' b1 fun H1 H1' s1=>?_
  have f':Fin K C B H1 D o:=(f.step st).step (s1.ss I'.b)
  cases k with
  | false=>rw[if_neg (by simp)] at er ⊢;cases er;exact f' _ _ _ (I'.step s1).ss (I'.step s1)
  | true =>
   rw[if_pos rfl] at er ⊢;obtain⟨o1,b2,er⟩:=bind_some er;refine⟨fun σ2 H2=>∃H02 E2,EnvR K C B H02 H2 σ2 E2/\SStep B H0 H02 H2/\YC ec et m E2=some o,fun σ2 H2 h=>⟨m,GY _,h⟩,?_⟩;have st1:=st.trans (s1.ss I'.b);refine ht B H1 H1' σ' E' o1 _ (I'.step s1) b2 ?_
   cases o1 with
   | nx E2=>exact fun σ3 H3 H3' s3 I3=>⟨H3,E2,I3,st1.trans s3,er⟩
   | ct E2=>exact fun σ3 H3 H3' s3 I3=>⟨H3,E2,I3,st1.trans s3,er⟩
   | bk E2=>cases er;exact f'
   | rt r=>cases er;exact f'
end
noncomputable def Jch:Out->Option Sl
 | .nx _=>some (.sh .non)
 | .rt r=>some r
 | .bk _=>none
 | .ct _=>none
noncomputable def Yj(N:Nat)(b:Es):List Sl->Option Sl:=fun as=>(b (as++QC (N-as.length) .no)).bind Jch
theorem RRL.get{Hs H0 H:Hp}:∀{vs:List V} {ss:List Sl} {i:Nat} {s:Sl},RRL K C Hs H0 H vs ss->ss[i]?=some s->∃v,vs[i]?=some v/\RR K C Hs H0 H v s
 | _,_,_,_,.nil,e=>by simp at e
 | _,_,0,_,.cons h _,e=>by simp at e;subst e;exact⟨_,rfl,h⟩
 | _,_,i+1,s,.cons _ t,e=>by obtain⟨v,h1,h2⟩:=RRL.get (i:=i) (s:=s) t (by simpa using e);exact⟨v,by simpa using h1,h2⟩
def JgE(hb:SS K C ts b)(h:spE K C n (Yj N.length b) vs H Q E):ts { nx:=fun _ H'=>Q .non H',rt:=Q } (L2.YH N vs) H:=by
 obtain⟨tb,H0,as,r,i,ra,ho,hl,e,q⟩:=h;have lens:=ra.len
 have noOwn:∀(j:Nat) (s:Sl),as[j]?=some s->Yp s=false:=fun j s e=>by
  have:=L0.mp ho s (QI e)
  simpa using this
 have get:∀(j:Nat) (s:Sl),(as++QC (N.length-as.length) Sl.no)[j]?=some s->s=.no\/as[j]?=some s:=fun j s e=>by
  by_cases hj:j<as.length
  ·rw[QO hj] at e;exact .inr e
  ·rw[QQ (by omega),Rn] at e;split at e
   ·cases e;exact .inl rfl
   ·cases e
 have I:EnvR K C H H0 H (L2.YH N vs) (as++QC (N.length-as.length) .no):=by
  refine⟨Same.refl _,i,by simp[L2.YH,lens],fun j s e=>?_,fun j k s1 s2 v hjk e1 e2 w1 w2=>?_,tb⟩
  ·rcases get j s e with z|z
   ·exact .inl z
   ·obtain⟨v,h1,h2⟩:=ra.get z;refine .inr ⟨v,?_,?_⟩
    ·unfold L2.YH;rw[QO (by have:=(Qo.mp h1).1;simpa using this),Qq,h1];rfl
    ·cases s with
     | no=>trivial
     | sh d=>exact h2
     | bo ds=>exact h2
     | own ds=>exact absurd (noOwn j _ z) (by simp[Yp])
     | bd ks ds=>exact h2
     | bt ks ds=>exact h2
     | od ks ds=>exact absurd (noOwn j _ z) (by simp[Yp])
     | ot ks ds=>exact absurd (noOwn j _ z) (by simp[Yp])
  ·rcases get j _ e1 with z|z
   ·subst z;cases w1
   ·rw[noOwn j _ z] at w1;cases w1
 obtain⟨o,e1,e⟩:=bind_some e;refine hb H H0 H _ _ o _ I e1 ?_
 cases o with
 | nx E1=>cases e;exact fun σ' H1 H1' s1 I1=>q _ H1 H1' ⟨s1.b,s1.z,s1.n,s1.i⟩ RD.non
 | rt r'=>cases e;exact fun v H1 H1' s1 r1=>q v H1 H1' ⟨s1.b,s1.z,s1.n,s1.i⟩ r1
 | bk _=>cases e
 | ct _=>cases e
noncomputable def okS(P:En->Prop):Option Out->Prop
 | some (.nx E)=>P E
 | some (.ct E)=>P E
 | _=>False
def JpK:okS P (some (.nx E))=P E:=rfl
def Jed(h:okS P o):∃E,(o=some (.nx E)\/o=some (.ct E))/\P E:=by
 unfold okS at h;split at h
 ·exact⟨_,.inl rfl,h⟩
 ·exact⟨_,.inr rfl,h⟩
 ·exact h.elim
theorem YN{γ α β:Type}{p:Pt}{b:Es}{f:α->D}{k:Out->Option γ}{r:Option γ}(R:List α->β->En->Prop)(g:β->α->β):∀{as:List α} {E:En} (s:β) (h0:R as s E)
 (h:∀a as s E,R (a::as) s E->okS (R as (g s a)) ((p.bind (f a) E).bind b)) (fin:∀E',R [] (as.foldl g s) E'->k (.nx E')=r),(Ya p b (as.map f) E).bind k=r
 | [],E,s,h0,_,fin=>fin E h0
 | a::as,E,s,h0,h,fin=>by
  obtain⟨E2,e2,r2⟩:=Jed (h a as s E h0);have ih:=YN (k:=k) (r:=r) R g (as:=as) (E:=E2) (g s a) r2 h fin;rw[Qd,Ya]
  cases hp:p.bind (f a) E with
  | none=>rw[hp] at e2;rcases e2 with e2|e2 <;> cases e2
  | some E1=>rw[hp,QZ] at e2;rw[QZ];rcases e2 with e2|e2 <;> (rw[e2,QZ];exact ih)
def JjW{γ:Type}{k:Out->Option γ}{r:Option γ}(R:Nat->En->Prop)(h0:R 0 E)(h:∀i E,i<n->R i E->okS (R (i+1)) ((p.bind (f i) E).bind b))(fin:∀E',R n E'->k (.nx E')=r):(Ya p b ((Q1 n).map f) E).bind k=r:=by
 refine YN (fun(as:List Nat) (i:Nat) E=>i+as.length=n/\as=R5 i as.length/\R i E) (fun i _=>i+1) 0 ⟨by simp,by simp[R6],h0⟩ (fun a as i E ⟨hk,e,q⟩=>?_) fun E' ⟨hk,_,q⟩=>?_
 ·rw[Qv,List.range'_succ] at e;have e1:a=i:=(List.cons.inj e).1;subst e1;obtain⟨E2,e2,r2⟩:=Jed (h a E (by rw[Qv] at hk;omega) q);have fin2:(a+1)+as.length=n/\as=R5 (a+1) as.length/\R (a+1) E2:=⟨by rw[Qv] at hk;omega,(List.cons.inj e).2,r2⟩
  rcases e2 with e2|e2 <;> (rw[e2];exact fin2)
 ·have e3:(Q1 n).foldl (fun i _=>i+1) 0=n:=by simpa using hk
  rw[e3] at q;exact fin E' q
theorem JP{α:Type}{p:Pt}{a:Ev}{E1:En}{f g:α->D}:∀{xs:List α},(∀x∈xs,((p.bind (f x) E1).bind a).bind Sl.frz=some (g x))->Uw p yes? a E1 (xs.map f)=some (xs.map g)
 | [],_=>rfl
 | x::xs,h=>by have h1:=h x Qf;obtain⟨s,e1,e2⟩:=bind_some h1;obtain⟨E2,e3,e4⟩:=bind_some e1;rw[Qd,Uw,e3];simp only[QZ,yes?,if_true,e4,e2];rw[JP fun y hy=>h y (Qc _ hy)];rfl
theorem Jcg{α:Type}{p:Pt}{c:En->Option Bool}{a:Ev}{E1:En}{f g:α->D}{k:α->Bool}:∀{xs:List α},(∀x∈xs,(p.bind (f x) E1).bind c=some (k x)/\(k x=true->((p.bind (f x) E1).bind a).bind Sl.frz=some (g x)))->Uw p c a E1 (xs.map f)=some ((xs.filter k).map g)
 | [],_=>rfl
 | x::xs,h=>by
  obtain⟨h1,h2⟩:=h x Qf;obtain⟨E2,e3,e4⟩:=bind_some h1;have ih:=Jcg (xs:=xs) (fun y hy=>h y (Qc _ hy));rw[Qd,Uw,e3];simp only[QZ,e4]
  cases hk:k x with
  | false=>rw[if_neg (by simp),ih,GM (by simp[hk])]
  | true=>obtain⟨s,e1,e2⟩:=bind_some (h2 hk);rw[e3,QZ] at e1;rw[if_pos rfl,e1];simp only[QZ,e2];rw[ih,GN hk];rfl
def JsO(n:Nat):rng 0 n=(Q1 n).map fun i=>.int (i:Int):=by unfold rng;exact QG fun i _=>by rw[L1]
def JnD:Qr=16777216:=rfl
def JbX{α β:Type}(f:α->β)(xs:List α)(i:Int):atI (xs.map f) i=(atI xs i).map f:=by
 unfold atI;rw[Qp]
 cases ixN xs.length i with
 | none=>rfl
 | some j=>simp
def Jdl{α:Type}{xs:List α}(h:k<xs.length):atI xs (k:Int)=some xs[k]:=by unfold atI ixN;rw[if_pos (by omega),if_pos (by omega)];simp[h]
def Jdk(h0:0<=k)(h:k<(ns.length:Int)):atI ns k=some (cell ns k):=by
 obtain⟨j,rfl⟩:=Int.eq_ofNat_of_zero_le h0;have hj:j<ns.length:=by omega
 rw[Jdl hj];simp[cell,hj]
def JiX{l:List Int}{k:Int}(h0:0<=k)(h1:k<(l.length:Int)):atI (l.map D.int) k=some (.int (Jeo l k)):=by rw[JbX,Jdk h0 h1];rfl
structure Kd {α:Type} (f:α->D) (n:Nat):Prop where
 lay:∀a,(f a).py.canLay0=true
 dep:∀a,(f a).py.depth<=n
 eqv:∀a b,Mz (f a).py (f b).py=true↔a=b
def Kd.eq{α:Type}[DecidableEq α]{f:α->D}{n:Nat}(k:Kd f n)(h:n<=60)(a b:α):eqD (f a) (f b)=some (decide (a=b)):=by unfold eqD;have:=k.dep a;rw[k.lay a,k.lay b,if_pos (by simp;omega)];congr 1;rw[Ki,k.eqv];simp
def Jpd:Kd D.int 1:=⟨fun _=>rfl,fun _=>by simp[D.py,RH],fun a b=>by show(a == b)=true↔_;simp⟩
def WY{α:Type}{f:α->D}(k:Kd f n):(∀xs:List α,LQ (D.pyL (xs.map f))=true)/\(∀xs:List α,MH (D.pyL (xs.map f))<=n)/\∀xs ys:List α,L6 (D.pyL (xs.map f)) (D.pyL (ys.map f))=true↔xs=ys:=by
 refine⟨fun xs=>?_,fun xs=>?_,fun xs=>?_⟩
 ·induction xs with
  | nil=>rfl
  | cons x xs ih=>show(PyData.canLay0 _ && LQ _)=true;rw[k.lay,ih];rfl
 ·induction xs with
  | nil=>simp[D.pyL,MH]
  | cons x xs ih=>have:=k.dep x;simp only[Qd,D.pyL,MH];omega
 ·induction xs with
  | nil=>intro ys;cases ys with
   | nil=>simp[D.pyL,L6]
   | cons y ys=>simp[D.pyL,L6]
  | cons x xs ih=>intro ys;cases ys with
   | nil=>simp[D.pyL,L6]
   | cons y ys=>simp only[Qd,D.pyL,L6,QR,k.eqv,ih,List.cons.injEq]
def JjS{α:Type}{f:α->D}(k:Kd f n):Kd (fun xs:List α=>D.lst (xs.map f)) (n+1) :=
 ⟨fun xs=>(WY k).1 xs,fun xs=>by have:=(WY k).2.1 xs;simp only[D.py,RH];omega,fun xs ys=>by simp only[D.py,Mz];exact(WY k).2.2 xs ys⟩
def Jpe{α:Type}{f:α->D}(k:Kd f n):Kd (fun xs:List α=>D.tup (xs.map f)) (n+1) :=
 ⟨fun xs=>(WY k).1 xs,fun xs=>by have:=(WY k).2.1 xs;simp only[D.py,RH];omega,fun xs ys=>by simp only[D.py,Mz];exact(WY k).2.2 xs ys⟩
def Jog:Kd prE 2:=⟨fun _=>rfl,fun _=>by simp[prE,D.py,D.pyL,RH,MH],fun a b=>by obtain⟨a1,a2⟩:=a;obtain⟨b1,b2⟩:=b;simp[prE,D.py,D.pyL,Mz,L6]⟩
def JlS(a b:List Pr):eqD (.lst (a.map prE)) (.lst (b.map prE))=some (decide (a=b)):=(JjS Jog).eq (by decide) a b
def JlT(a b:List Pr):eqD (.tup (a.map prE)) (.tup (b.map prE))=some (decide (a=b)):=(Jpe Jog).eq (by decide) a b
def Jjp(a b:List Int):eqD (.lst (a.map .int)) (.lst (b.map .int))=some (decide (a=b)):=(JjS Jpd).eq (by decide) a b
def VF{s:Sl}{ps:List Pr}(e:s.q=some (ps.map prE))(g:Good ps)(h:ps.length<=30):Zs [s]=some (.sh (.row (ps.map prE))):=by show(s.q.bind _)=_;rw[e,QZ,JbS,QZ,Jac g,if_pos (by simp[h])]
def Jnu:Jey B (.nx E)=B E:=rfl
def Jnv:Jey B (.rt r)=some (.rt r):=rfl
def JlO:Jch (.nx E)=some (.sh .non):=rfl
def JlP:Jch (.rt r)=some r:=rfl
def Jri:fI g (.sh (.int a)) (.sh (.int b))=some (.sh (g a b)):=rfl
def Jl5(h:(-18446744073709551616<a/\a<18446744073709551616)\/(-18446744073709551616<b/\b<18446744073709551616)):Z3 (.sh (.int a)) (.sh (.int b))=some (.sh (.int (a*b))):=by show(if _ then _ else _)=_;rw[if_pos];simp only[LI,Va];exact h
def Jl4(h:0<b):WT (.sh (.int a)) (.sh (.int b))=some (.sh (.int (a % b))):=by show(if _ then _ else _)=_;rw[if_pos (by simpa using h)]
def Jl1(h:0<b/\b<1073741824):Jl0 (.sh (.int a)) (.sh (.int b))=some (.sh (.int (a / b))):=by show(if _ then _ else _)=_;rw[if_pos (smallP_ok.mpr h)]
def Jl7(h:0<=b/\b<=1000000/\-1000<a/\a<1000):JdF (.sh (.int a)) (.sh (.int b))=some (.sh (.int (a ^ b.toNat))):=by show(if _ then _ else _)=_;rw[if_pos];simp only[QR,decide_eq_true_eq,Lm,Va];omega
def Jl6:JhZ (.sh (.int a))=some (.sh (.int (-a))):=rfl
def JlV:YF (.sh (.int a)) (.sh (.int b))=some (.sh (.int (a+b))):=rfl
def Ji8(h1:p.m=some xs)(h2:q.m=some ys)(h:xs.length+ys.length<=16777216):JhY p q=some (.own (xs++ys)):=by unfold JhY;rw[h1,h2];exact if_pos h
def JlW(h:xs.length+ys.length<=16777216):YF (.own xs) (.own ys)=some (.own (xs++ys)):=Ji8 rfl rfl h
def JlX(h:xs.length+ys.length<=16777216):YF (.own xs) (.sh (.lst ys))=some (.own (xs++ys)):=Ji8 rfl rfl h
def JoZ:Zr [.sh (.lst xs)]=some (.sh (.int xs.length)):=rfl
def JoY:Zr [.sh (.fz xs)]=some (.sh (.int xs.length)):=rfl
def Jo0:Zr [.sh (.tup xs)]=some (.sh (.int xs.length)):=rfl
def Jrl:fIx (.sh (.lst xs)) (.sh (.int a))=(atI xs a).map .sh:=rfl
def Jrk:fIx (.sh (.fz xs)) (.sh (.int a))=(atI xs a).map .sh:=rfl
def Jrj:fIx (.bo xs) (.sh (.int a))=(atI xs a).map .sh:=rfl
def Jrm:fIx (.own xs) (.sh (.int a))=(atI xs a).map .sh:=rfl
def JoX:eqA (.int a) (.int b)=some (decide (a=b)):=rfl
def JoV(p q:List Pr):eqA (.lst (p.map prE)) (.lst (q.map prE))=some (decide (p=q)):=JlS p q
def JoW(p q:List Pr):eqA (.tup (p.map prE)) (.tup (q.map prE))=some (decide (p=q)):=JlT p q
def JoU(p q:List Int):eqA (.lst (p.map .int)) (.lst (q.map .int))=some (decide (p=q)):=Jjp p q
def Jfp(h:-4611686018427387904<a/\a<4611686018427387904):Jcu a=true:=by unfold Jcu;rw[Lm];omega
def VG{s:Sl}{ns:List Int}(e:s.q=some (ns.map .int)):Jcm [s]=some (.sh (.int ns.sum)):=by show(s.q.bind _)=_;rw[e,QZ,Jaf];rfl
def JlZ{s:Sl}{ns:List Bool}(e:s.q=some (ns.map .bl)):JlY [s]=some (.sh (.bl (ns.any id))):=by show(s.q.bind _)=_;rw[e,QZ,Jgl];rfl
def Jq4:(Pt.nm i).bind d E=if i<E.length then some (E.set i (.sh d)) else none:=by rw[Pt.bind]
def Jq5:(Pt.tp l).bind (.tup xs) E=l.bind xs E:=by rw[Pt.bind]
def Jlu:Pts.nil.bind [] E=some E:=by rw[Pts.bind]
def JiQ:(Pts.cons q l).bind (d::xs) E=(q.bind d E).bind fun E'=>l.bind xs E':=by rw[Pts.bind]
def Jsz:((0:Nat):Int)=0:=rfl
def JsA:((2:Nat):Int)=2:=rfl
def Jh7:D.isNon .non=true:=rfl
def Jh6:D.isNon (.int a)=false:=rfl
def Jh8:D.isNon (.tup xs)=false:=rfl
def Jpj:Jic "int" "int"=true:=by decide
def Jml:Jic "int" "bool"=false:=by decide
def Jpl:Jic "tuple" "tuple"=true:=by decide
def Jpk:Jic "list" "list"=true:=by decide
end LE
namespace HT
open PySem PySem.Spec PyProof.Rows
def Wu{t sl:Qh}{items:Array Qe}{vl vu:Qe}{lo hi:Option Int}{Q:Qe->Qg->Prop}(ht:IsTup s.heap t items)(hs:s.heap.IsSliceOf sl vl vu .none)(pl:IsPart vl lo)(pu:IsPart vu hi)
 (hw:sIx items.size 0 lo=0/\sIx items.size items.size hi=items.size) (h:Q (.ref t) s):wpAny (model prog w) A (getItem (.ref t) (.ref sl)) Q E s:=by
 obtain⟨os,hos,hcs,hds⟩:=id hs;have hTs:s.TypeIs (.ref sl) "slice":=⟨os,hos,hcs⟩
 unfold getItem
 try with_reducible refine GO ?_
 first|refine Qa (Qj ?_)|skip
 refine Qa (wpAny_sequenceKey ht.typeIs (by decide) ?_);refine Qa (QX (name:=Go "__getitem__") ht.typeIs Gw
  (Q7 Gw ht.typeIs entry_tuple_getitem ?_ (args_tuple_getitem _ _)))
 show wpAny _ _ (MX (.ref t) >>= _) _ _ s;refine Qa (tupleItemsOf_ ht ?_);refine Qa (Mo hTs ?_);rw[if_pos (by decide)];refine Qa (UV hs pl pu ?_)
 have yes:(((sIx items.size 0 lo:Nat):Int) == 0 && (1:Int) == 1 && (sIx items.size items.size hi-sIx items.size 0 lo) == items.size)=true:=by rw[hw.1,hw.2];simp
 show wpAny _ _ (if (((sIx items.size 0 lo:Nat):Int) == 0 && (1:Int) == 1 && (sIx items.size items.size hi-sIx items.size 0 lo) == items.size)=true then _ else _) _ _ s;rw[if_pos yes];unfold Builtin.Tuple.tupleIsExact;refine Qa (Qa (Mo ht.typeIs (Qj ?_)));rw[if_pos (by decide)];refine Qa (KG ?_);exact Qj ⟨_,rfl,Qj h⟩
end HT
namespace L2
open PySem PySem.Spec PyProof.Rows
section
variable{X:Cx}{K:Qz}
noncomputable def JrZ(K:Qz):V->Option Int->Option Int->Hp->VK->Prop:=fun x lo hi H Q=>∃a xs,x=.ref a/\SqT K H a xs/\(HT.sIx xs.length 0 lo=0/\HT.sIx xs.length xs.length hi=xs.length)/\Q (.ref a) H
def JkV:SlR X (JrZ X.K):=by
 intro pins s σ H x v vl vu lo hi sl Q I rx hs pl pu h;obtain⟨a,xs,rfl,hx,hw,q⟩:=h;cases rx;obtain⟨its,r,ht,hz⟩:=I.tuple hx;have hlen:its.toArray.size=xs.length:=by rw[Qt];exact r.length.symm
 refine⟨"tuple",_,Gw.lookup,ht.typeIs,?_⟩;exact HT.Wu ht hs pl pu (by rw[hlen];exact hw) ⟨.ref a,H,I,rfl,q⟩
noncomputable def Jqb(K:Qz):V->Option Int->Option Int->Hp->VK->Prop:=fun x lo hi H Q=>JrX K x lo hi H Q\/JrY K x lo hi H Q\/JrZ K x lo hi H Q
def Jhr(hK:X.K=K):SlR X (Jqb K):=by subst hK;exact sl_list.or (sl_tup.or JkV)
end
end L2
namespace LE
open PySem L2 LR
noncomputable def Jfc{α:Type}(xs:List α)(lo hi:Option Int):List α:=(xs.drop (HT.sIx xs.length 0 lo)).take (HT.sIx xs.length xs.length hi-HT.sIx xs.length 0 lo)
noncomputable def fSl(s:Sl)(lo hi:Option Int):Option Sl:=match s with
 | .sh (.tup ds)=>some (.sh (.tup (Jfc ds lo hi)))
 | s=>s.r.map fun ds=>.own (Jfc ds lo hi)
noncomputable def ZZ(o:Option Ev):En->Option (Option Int):=fun E=>match o with
 | none=>some none
 | some a=>(a E).bind fun s=>match s with
  | .sh (.int i)=>some (some i)
  | _=>none
noncomputable def eSl(a:Ev)(lo hi:Option Ev):Ev:=fun E=>(a E).bind fun s=>(ZZ lo E).bind fun l=>(ZZ hi E).bind fun h=>fSl s l h
noncomputable def SP'(K:Qz)(C:Qh)(t:TO)(ev:En->Option (Option Int)):Prop:=∀(B H0 H:Hp) (σ:St) (E:En) (r:Option Int) (Q:Option Int->Hp->Prop),EnvR K C B H0 H σ E->ev E=some r ->
 (∀H0' H',Step H H0 H H0' H'->Q r H')->t σ H Q
def JpV:SP' K C JhB (ZZ none):=fun _ _ _ _ _ _ _ I e q=>by cases e;exact q _ _ (.refl I.h)
def JpW(ha:SE K C te ea):SP' K C (JoA te) (ZZ (some ea)):=by
 intro B H0 H σ E r Q I e q;obtain⟨s,e1,e⟩:=bind_some e;split at e
 ·cases e;exact ha B H0 H σ E _ _ I e1 fun x H1 H1' s1 r1=>⟨_,RD.intI r1,q _ _ s1⟩
 ·cases e
def RDL.cut{H:Hp}{xs:List V}{ds:List D}{lo hi:Option Int}(r:RDL K C H xs ds):RDL K C H (JaZ xs lo hi) (Jfc ds lo hi):=by unfold JaZ Jfc;rw[r.1];exact(r.drop _).take _
def JsS(ha:SE K C te ea)(hl:SP' K C tl (ZZ el))(hh:SP' K C th (ZZ eh)):SE K C (tSl (Jqb K) te tl th) (eSl ea el eh):=by
 intro B H0 H σ E c Q I e q;obtain⟨s,e1,e⟩:=bind_some e;obtain⟨l,e2,e⟩:=bind_some e;obtain⟨h,e3,e⟩:=bind_some e;refine ha B H0 H σ E _ _ I e1 fun x H1 H1' s1 r1=>hl B H1 H1' σ E l _ (I.step s1) e2 fun H2 H2' s2=>hh B H2 H2' σ E h _ (I.step (s1.trans s2)) e3 fun H3 H3' s3=>?_
 have s13:=(s1.trans s2).trans s3
 have r3:=(r1.step s2).step s3
 have lst:∀{ds:List D},s.r=some ds->c=.own (Jfc ds l h)->Jqb K x l h H3' Q:=fun {ds} er ec=>by subst ec;obtain⟨a,xs,rfl,hq,r⟩:=r3.r s13.i er;exact .inl ⟨a,xs,rfl,hq,fun p hp=>YY s13.i s13.h hp r.cut fun v H4 H4' s4 r4=>q v H4 H4' (s13.comp s4 fun _ z=>z) r4⟩
 unfold fSl at e;split at e
 ·cases e;obtain⟨a,xs,rfl,hq,r⟩:=RD.tupI r3
  by_cases hw:HT.sIx xs.length 0 l=0/\HT.sIx xs.length xs.length h=xs.length
  ·refine .inr (.inr ⟨a,xs,rfl,s13.i.seqT hq,hw,q _ _ _ s13 ?_⟩);have e5:JaZ xs l h=xs:=by unfold JaZ;rw[hw.1,hw.2];simp
   have r5:=r.cut (lo:=l) (hi:=h);rw[e5] at r5;exact RD.mkT hq r5
  ·exact .inr (.inl ⟨a,xs,rfl,s13.i.seqT hq,hw,fun p hp=>ZM s13.i s13.h hp r.cut fun v H4 H4' s4 r4=>q v H4 H4' (s13.comp s4 fun _ z=>z) r4⟩)
 ·obtain⟨ds,e4,e5⟩:=map_some e;exact lst e4 e5.symm
end LE
namespace PySem
section
variable{prog:Qy}{w:QP}{A:QM}
def Draws.tup(hh:A.handled=none)(j a:Qh)(ne:a≠j)(xs:Array Qe):Draws prog w A j [j,a] xs.size (fun i v=>xs[i]?=some v) (fun i h=>h.IsTupleIter j a i/\h.IsTuple a xs) where
 live:=fun _ _ q=>let ⟨o,ho,_⟩:=q.1;⟨o,ho⟩
 frame:=fun _ _ _ q k=>⟨q.1.at fun o e=>k j (by simp) o e,q.2.at fun o e=>k a (by simp) o e⟩
 item:=fun i s Q E hi q hQ=>by
  obtain⟨o,ho,hc,hd⟩:=id q.1;obtain⟨ol,hol,_,nl,hdl⟩:=id q.2;have hx:xs[i]?=some xs[i]:=by simp[hi]
  unfold Gi;refine Qa (QX (name:=Go "__next__") q.1.typeIs K5 (Q7 K5 q.1.typeIs MN ?_ (MI _)));show wpAny _ _ (field (.ref j) 0 >>= _) _ _ s;refine Qa (Q5 ho hd (x:=.ref a) rfl ?_);show wpAny _ _ (if (Value.ref a == Value.none)=true then _ else _) _ _ s;rw[if_neg (show ¬((Value.ref a == Value.none)=true) from QH)]
  show wpAny _ _ (field (.ref j) 1 >>= _) _ _ s;refine Qa (Q5 ho hd (x:=.int i 0) rfl (show wpAny _ _ (seqItems? (.ref a) >>= _) _ _ s from Qa (GR hol hdl ?_)));simp only[Ko,hx];refine Qa (K6 ho hd (by simp) (Qj ⟨xs[i],rfl,Qj (hQ _ _ s.toks hx ⟨⟨_,Gr _ ho (K8 (G5 hd _)),(Mp ..).trans hc,?_⟩,q.2.extBut (Gb ..).extBut ne⟩ (Gb ..))⟩))
  rw[G5 hd];simp[rawInt]
 done:=fun s Q E q hE=>by
  obtain⟨o,ho,hc,hd⟩:=id q.1;obtain⟨ol,hol,_,nl,hdl⟩:=id q.2;have hx:xs[xs.size]?=none:=by simp
  unfold Gi;refine Qa (QX (name:=Go "__next__") q.1.typeIs K5 (Q7 K5 q.1.typeIs MN ?_ (MI _)));show wpAny _ _ (field (.ref j) 0 >>= _) _ _ s;refine Qa (Q5 ho hd (x:=.ref a) rfl ?_);show wpAny _ _ (if (Value.ref a == Value.none)=true then _ else _) _ _ s;rw[if_neg (show ¬((Value.ref a == Value.none)=true) from QH)]
  show wpAny _ _ (field (.ref j) 1 >>= _) _ _ s;refine Qa (Q5 ho hd (x:=.int xs.size 0) rfl (show wpAny _ _ (seqItems? (.ref a) >>= _) _ _ s from Qa (GR hol hdl ?_)));simp only[Ko,hx];refine Qa (KG (Qa (K6 ho hd (by simp) (show wpAny _ _ (newExc (.type "StopIteration") [] >>= _) _ _ _ from Qa ?_))));simp only[newExc,newTuple];refine Qa (Ge (Qa (m:=firstArgMember _ _) (KZ (a:=Value.none) (by first | rfl | (simp only[firstArgMember];rfl)) (Ge ?_ (by size_fits)))) (by size_fits))
  simp only[raiseNew];refine Qa (wpAny_handled ?_)
  first|rw[show A.in1.handled=none from hh]|rw[hh]
  refine Qa (Qj (wpAny_throw ?_));exact hE _ _ (((Gb ..).extBut.push _).push _) ⟨_,Qm _ rfl,rfl⟩
end
structure ZA (z TI TO i1 i2:Qh) (p1 p2:List Qh):Prop where
 a1:TI≠z
 a2:TO≠z
 a3:TI≠TO
 m1:i1∈p1
 m2:i2∈p2
 z1:z∉p1
 z2:z∉p2
 t1:TI∉p1
 t2:TI∉p2
 o1:TO∉p1
 o2:TO∉p2
 x1:i1∉p2
 x2:i2∉p1
def JbU{Q:Qe->Qg->Prop}(D:ZA z TI TO i1 i2 p1 p2)(D1:Draws prog w A i1 p1 n1 P1 S1)(D2:Draws prog w A i2 p2 n2 P2 S2)(gz:IsZip s.heap z TI TO .none)(gI:IsPair s.heap TI (.ref i1) (.ref i2))(gO:IsPair s.heap TO a b)(st1:S1 k s.heap)(st2:S2 k s.heap)(l1:k<n1)(l2:k<n2)(hQ:∀x y h' tk,P1 k x->P2 k y->IsZip h' z TI TO (rawInt s.heap.objs.size)->IsPair h' TI (.ref i1) (.ref i2)->IsPair h' TO x y->S1 (k+1) h'->S2 (k+1) h'->IsPair h' s.heap.objs.size x y->h'.objs.size=s.heap.objs.size+1 ->
  (∀c o,c≠z->c≠TO->c≠i1->c≠i2->s.heap.get? c=some o->h'.get? c=some o)->Q (.ref s.heap.objs.size) { s with heap:=h',toks:=tk }):
 wpAny (model prog w) A (Builtin.«zip.__next__» ⟨[.ref z],[]⟩) (fun fin s'=>∃v,fin=.done (.ret v)/\Q v s') E s:=by
 obtain⟨hp,g,d,t0,os⟩:=s;have zi1:i1≠z:=fun q=>D.z1 (q▸D.m1)
 have zi2:i2≠z:=fun q=>D.z2 (q▸D.m2)
 have oi1:i1≠TO:=fun q=>D.o1 (q▸D.m1)
 have oi2:i2≠TO:=fun q=>D.o2 (q▸D.m2)
 have ii1:i1≠TI:=fun q=>D.t1 (q▸D.m1)
 have ii2:i2≠TI:=fun q=>D.t2 (q▸D.m2)
 have i12:i1≠i2:=fun q=>D.x1 (q▸D.m2)
 show wpAny _ _ (field (.ref z) 2 >>= _) _ _ _;refine Qa (Q5 gz rfl (x:=.bool false) rfl (show wpAny _ _ (field (.ref z) 3 >>= _) _ _ _ from Qa (Q5 gz rfl (x:=.ref TI) rfl (Qa (GR gI rfl ?_)))))
 show wpAny _ _ (QY (.ref z) >>= _) _ _ _;refine Qa ?_;unfold QY;refine Qa (Q5 gz rfl (x:=.none) rfl (Qj ?_));simp only[if_true];refine Qa (KG (Qa (Q5 gz rfl (x:=.ref TO) rfl (Qa (Gs gz (by simp) fun k1 y1 e1=>?_)))))
 replace y1:IsZip k1 z TI TO .ellipsis:=y1
 replace e1:QK z hp k1:=e1;refine Qa ?_;simp only[K2,List.zipIdx_nil,Mb,Mq];refine Qa (Qa (Rj (show wpAny _ _ (Gi (.ref i1) >>= _) _ _ _ from Qa (D1.item k _ _ _ l1 (D1.frame _ _ _ st1 fun b hb o q=>e1.extBut b o (fun r=>D.z1 (r▸hb)) q) fun x k2 t2 px s2 e2=>Qj ?_))))
 replace e2:QK i1 k1 k2:=e2;have O2:IsPair k2 TO a b:=e2.extBut _ _ (Q3 oi1) (e1.extBut _ _ D.a2 gO);refine Qa (GR (s:=⟨k2,g,d,t2,os⟩) O2 rfl (Qa (MF (s:=⟨k2,g,d,t2,os⟩) O2 fun k3 O3 e3=>?_)))
 replace O3:IsPair k3 TO x b:=O3
 replace e3:QK TO k2 k3:=e3;refine Qa (Le (Qj ?_));have st2':S2 k k3:=D2.frame _ _ _ st2 fun b hb o q=>e3.extBut b o (fun r=>D.o2 (r▸hb)) (e2.extBut b o (fun r=>D.x1 (r▸hb)) (e1.extBut b o (fun r=>D.z2 (r▸hb)) q))
 refine Qa (Qa (Rj (show wpAny _ _ (Gi (.ref i2) >>= _) _ _ _ from Qa (D2.item k _ _ _ l2 st2' fun y k4 t4 py s4 e4=>Qj ?_))))
 replace e4:QK i2 k3 k4:=e4;have O4:IsPair k4 TO x b:=e4.extBut _ _ (Q3 oi2) O3;refine Qa (GR (s:=⟨k4,g,d,t4,os⟩) O4 rfl (Qa (MF (s:=⟨k4,g,d,t4,os⟩) O4 fun k5 O5 e5=>?_)))
 replace O5:IsPair k5 TO x y:=O5
 replace e5:QK TO k4 k5:=e5;refine Qa (Le (Qj (Qj (Qa (GR (s:=⟨k5,g,d,t4,os⟩) O5 rfl (Qa (Mr ?_)))))));have hsz:k5.objs.size=hp.objs.size:=by rw[e5.1,e4.1,e3.1,e2.1,e1.1]
 have Z5:IsZip k5 z TI TO .ellipsis:=e5.extBut _ _ (Q3 D.a2) (e4.extBut _ _ (Q3 zi2) (e3.extBut _ _ (Q3 D.a2) (e2.extBut _ _ (Q3 zi1) y1)))
 have keep5:∀c o,c≠z->c≠TO->c≠i1->c≠i2->hp.get? c=some o->k5.get? c=some o:=fun c o c1 c2 c3 c4 q=>e5.extBut _ _ c2 (e4.extBut _ _ c4 (e3.extBut _ _ c2 (e2.extBut _ _ c3 (e1.extBut _ _ c1 q))))
 have T1:S1 (k+1) k5:=D1.frame _ _ _ s2 fun b hb o q=>e5.extBut b o (fun r=>D.o1 (r▸hb)) (e4.extBut b o (fun r=>D.x2 (r▸hb)) (e3.extBut b o (fun r=>D.o1 (r▸hb)) q))
 have T2:S2 (k+1) k5:=D2.frame _ _ _ s4 fun b hb o q=>e5.extBut b o (fun r=>D.o2 (r▸hb)) q
 have zlt:z<k5.objs.size:=Qn Z5
 show wpAny _ _ (Kn (.ref z) (.ref k5.objs.size) >>= _) _ _ _;refine Qa ?_;unfold Kn
 have Z6:IsZip (k5.push { cls:=.type "tuple",data:=.seq #[x,y] }) z TI TO .ellipsis:=Qi _ Z5;refine Qa (Gs Z6 (by simp) fun k7 Z7 e7=>?_)
 replace Z7:IsZip k7 z TI TO (rawInt k5.objs.size):=Z7
 replace e7:QK z (k5.push { cls:=.type "tuple",data:=.seq #[x,y] }) k7:=e7;refine Gs Z7 (by simp) fun k8 Z8 e8=>?_
 replace Z8:IsZip k8 z TI TO (rawInt k5.objs.size):=Z8
 replace e8:QK z k7 k8:=e8;have up:∀c o,c≠z->k5.get? c=some o->k8.get? c=some o:=fun c o c1 q=>e8.extBut _ _ c1 (e7.extBut _ _ c1 (Qi _ q))
 have N8:IsPair k8 k5.objs.size x y:=e8.extBut _ _ (Gn zlt) (e7.extBut _ _ (Gn zlt) (Qm _ rfl))
 have z8:k8.objs.size=k5.objs.size+1:=by rw[e8.1,e7.1,Gy]
 rw[hsz] at Z8 N8 z8;refine Qj ⟨_,rfl,?_⟩;show Q (.ref k5.objs.size) _;rw[hsz];refine hQ x y k8 t4 px py Z8 (up _ _ D.a1 (keep5 _ _ D.a1 D.a3 (Q3 ii1) (Q3 ii2) gI)) (up _ _ D.a2 O5) ?_ ?_ N8 z8 fun c o c1 c2 c3 c4 q=>up c o c1 (keep5 c o c1 c2 c3 c4 q)
 ·exact D1.frame _ _ _ T1 fun b hb o q=>up b o (fun r=>D.z1 (r▸hb)) q
 ·exact D2.frame _ _ _ T2 fun b hb o q=>up b o (fun r=>D.z2 (r▸hb)) q
def JeW(D:ZA z TI TO i1 i2 p1 p2)(D1:Draws prog w A i1 p1 n1 P1 S1)(D2:Draws prog w A i2 p2 n2 P2 S2)(gz:IsZip s.heap z TI TO .none)(gI:IsPair s.heap TI (.ref i1) (.ref i2))(gO:IsPair s.heap TO a b)(st1:S1 k s.heap)(st2:S2 k s.heap)(hend:k=n1\/(k<n1/\k=n2))(hE:∀h' e tk,(∀c o,c≠z->c≠TO->c≠i1->c≠i2->s.heap.get? c=some o->h'.get? c=some o)->(∃o,h'.get? e=some o/\o.cls=.type "StopIteration")->E (.ref e) { s with heap:=h',toks:=tk }):
 wpAny (model prog w) A (Builtin.«zip.__next__» ⟨[.ref z],[]⟩) Q E s:=by
 obtain⟨hp,g,d,t0,os⟩:=s;have zi1:i1≠z:=fun q=>D.z1 (q▸D.m1)
 have zi2:i2≠z:=fun q=>D.z2 (q▸D.m2)
 have oi1:i1≠TO:=fun q=>D.o1 (q▸D.m1)
 show wpAny _ _ (field (.ref z) 2 >>= _) _ _ _;refine Qa (Q5 gz rfl (x:=.bool false) rfl (show wpAny _ _ (field (.ref z) 3 >>= _) _ _ _ from Qa (Q5 gz rfl (x:=.ref TI) rfl (Qa (GR gI rfl ?_)))))
 show wpAny _ _ (QY (.ref z) >>= _) _ _ _;refine Qa ?_;unfold QY;refine Qa (Q5 gz rfl (x:=.none) rfl (Qj ?_));simp only[if_true];refine Qa (KG (Qa (Q5 gz rfl (x:=.ref TO) rfl (Qa (Gs gz (by simp) fun k1 y1 e1=>?_)))))
 replace y1:IsZip k1 z TI TO .ellipsis:=y1
 replace e1:QK z hp k1:=e1;refine Qa ?_;simp only[K2,List.zipIdx_nil,Mb,Mq];refine Qa (Qa (Rj (show wpAny _ _ (Gi (.ref i1) >>= _) _ _ _ from Qa ?_)));have q1:S1 k k1:=D1.frame _ _ _ st1 fun b hb o q=>e1.extBut b o (fun r=>D.z1 (r▸hb)) q
 rcases hend with rfl|⟨l1,rfl⟩
 ·refine D1.done _ _ _ q1 fun k2 e e2 he=>?_
  replace e2:Lf i1 k1 k2:=e2;obtain⟨oe,hoe,hce⟩:=he;have Z2:IsZip k2 z TI TO .ellipsis:=e2 _ _ (Q3 zi1) y1;have ez:e≠z:=fun q=>by subst q;rw[Z2] at hoe;cases hoe;simp at hce
  exact Gs Z2 (by simp) fun k3 _ e3=>hE k3 e t0 (fun c o c1 _ c3 _ q=>e3.extBut _ _ c1 (e2 _ _ c3 (e1.extBut _ _ c1 q))) ⟨oe,e3.extBut _ _ ez hoe,hce⟩
 ·refine D1.item k _ _ _ l1 q1 fun x k2 t2 px s2 e2=>Qj ?_
  replace e2:QK i1 k1 k2:=e2;have O2:IsPair k2 TO a b:=e2.extBut _ _ (Q3 oi1) (e1.extBut _ _ D.a2 gO);refine Qa (GR (s:=⟨k2,g,d,t2,os⟩) O2 rfl (Qa (MF (s:=⟨k2,g,d,t2,os⟩) O2 fun k3 O3 e3=>?_)))
  replace e3:QK TO k2 k3:=e3;refine Qa (Le (Qj ?_));have st2':S2 k k3:=D2.frame _ _ _ st2 fun b hb o q=>e3.extBut b o (fun r=>D.o2 (r▸hb)) (e2.extBut b o (fun r=>D.x1 (r▸hb)) (e1.extBut b o (fun r=>D.z2 (r▸hb)) q))
  refine Qa (Qa (Rj (show wpAny _ _ (Gi (.ref i2) >>= _) _ _ _ from Qa (D2.done _ _ _ st2' fun k4 e e4 he=>?_))))
  replace e4:Lf i2 k3 k4:=e4;obtain⟨oe,hoe,hce⟩:=he;have Z4:IsZip k4 z TI TO .ellipsis:=e4 _ _ (Q3 zi2) (e3.extBut _ _ (Q3 D.a2) (e2.extBut _ _ (Q3 zi1) y1));have ez:e≠z:=fun q=>by subst q;rw[Z4] at hoe;cases hoe;simp at hce
  exact Gs Z4 (by simp) fun k5 _ e5=>hE k5 e t2 (fun c o c1 c2 c3 c4 q=>e5.extBut _ _ c1 (e4 _ _ c4 (e3.extBut _ _ c2 (e2.extBut _ _ c3 (e1.extBut _ _ c1 q))))) ⟨oe,e5.extBut _ _ ez hoe,hce⟩
def IsSq(b:Bool)(h:Q2)(a:Qh)(xs:Array Qe):Prop:=match b with
 | true=>h.IsTuple a xs
 | false=>h.IsList a xs
def IsItr(b:Bool)(h:Q2)(j a:Qh)(i:Nat):Prop:=match b with
 | true=>h.IsTupleIter j a i
 | false=>h.IsListIter j a i
def itO(b:Bool)(a:Qh):Obj:=match b with
 | true=>{ cls:=.type "tuple_iterator",data:=.fields #[.ref a,.int 0 0] }
 | false=>{ cls:=.type "list_iterator",data:=.fields #[.ref a,.int 0 0] }
def IsSq.push(q:IsSq b h a xs)(o:Obj):IsSq b (h.push o) a xs:=by
 cases b with
 | true=>exact Heap.IsTuple.push q o
 | false=>exact Heap.IsList.push q o
def IsSq.lt{h:Q2}(q:IsSq b h a xs):a<h.objs.size:=by
 cases b with
 | true=>obtain⟨o,e,_⟩:=q;exact Qn e
 | false=>obtain⟨o,e,_⟩:=q;exact Qn e
def IsItr.new(e:h.get? a1=some (itO b a)):IsItr b h a1 a 0:=by
 cases b with
 | true=>exact⟨_,e,rfl,rfl⟩
 | false=>exact⟨_,e,rfl,rfl⟩
def UU(q:IsSq b s.heap a xs)(h:Q (.ref s.heap.objs.size) { s with heap:=s.heap.push (itO b a) }):wpAny (model prog w) A (pyIter (.ref a)) Q E s:=by
 cases b with
 | true=>exact MT q h
 | false=>exact Mm q h
def Draws.sq(hh:A.handled=none)(j:Qh)(ne:a≠j):Draws prog w A j [j,a] xs.size (fun i v=>xs[i]?=some v) (fun i h=>IsItr b h j a i/\IsSq b h a xs):=by
 cases b with
 | true=>exact Draws.tup hh j a ne xs
 | false=>exact Draws.list hh j a ne xs
abbrev zP1(h:Q2)(b1:Bool)(a1:Qh):Q2:=h.push (itO b1 a1)
abbrev zP2(h:Q2)(b1 b2:Bool)(a1 a2:Qh):Q2:=(zP1 h b1 a1).push (itO b2 a2)
abbrev zP3(h:Q2)(b1 b2:Bool)(a1 a2:Qh):Q2:=(zP2 h b1 b2 a1 a2).push { cls:=.type "tuple",data:=.seq #[.ref h.objs.size,.ref (zP1 h b1 a1).objs.size] }
abbrev zP4(h:Q2)(b1 b2:Bool)(a1 a2:Qh):Q2:=(zP3 h b1 b2 a1 a2).push { cls:=.type "tuple",data:=.seq #[.none,.none] }
abbrev zP5(h:Q2)(b1 b2:Bool)(a1 a2:Qh):Q2:=(zP4 h b1 b2 a1 a2).push { cls:=.type "zip",data:=.fields #[.none,.bool false,.bool false,.ref (zP2 h b1 b2 a1 a2).objs.size,.ref (zP3 h b1 b2 a1 a2).objs.size] }
def Jfy(b1 b2:Bool)(a1 a2:Qh)(xs ys:Array Qe):Meets (Builtin.«zip.__new__» ⟨[.type "zip",.ref a1,.ref a2],[]⟩) (fun _ R s=>IsSq b1 s.heap a1 xs/\IsSq b2 s.heap a2 ys ∧
 R (.ok (.ret (.ref (zP4 s.heap b1 b2 a1 a2).objs.size))) { s with heap:=zP5 s.heap b1 b2 a1 a2 }) :=
 .of_wp fun prog w A R s h=>by obtain⟨hp,g,d,tk,os⟩:=s;obtain⟨q1,q2,h⟩:=h;have hsub:=sub_zip;have r1:IsSq b1 (XH ⟨hp,g,d,tk,os⟩) a1 xs:=q1;have r2:IsSq b2 (XH ⟨hp.push (itO b1 a1),g,d,tk,os⟩) a2 ys:=IsSq.push q2 _;wp_walk using UU r1,UU r2;exact⟨_,rfl,h⟩
def Jbn(q1:IsSq b1 s.heap a1 xs)(q2:IsSq b2 s.heap a2 ys)(h:∀h',IsZip h' (s.heap.objs.size+4) (s.heap.objs.size+2) (s.heap.objs.size+3) .none->IsPair h' (s.heap.objs.size+2) (.ref s.heap.objs.size) (.ref (s.heap.objs.size+1))->IsPair h' (s.heap.objs.size+3) .none .none ->
  IsItr b1 h' s.heap.objs.size a1 0->IsItr b2 h' (s.heap.objs.size+1) a2 0->(∀c o,s.heap.get? c=some o->h'.get? c=some o)->Q (.ref (s.heap.objs.size+4)) { s with heap:=h' }):
 wpAny (model prog w) A (call (.type "zip") [.ref a1,.ref a2]) Q E s:=by
 refine callType_new F.called_zip (by decide) (F.typeCall_zip_2 _ _) (F.newCall_zip_2 _ _) (fun obj=>F.args_object_init_3 obj _ _) F.entry_zip_new (Jfy b1 b2 a1 a2 xs ys) ⟨q1,q2,?_⟩;have z1:(zP1 s.heap b1 a1).objs.size=s.heap.objs.size+1:=Gy ..;have z2:(zP2 s.heap b1 b2 a1 a2).objs.size=s.heap.objs.size+2:=by rw[Gy,z1]
 have z3:(zP3 s.heap b1 b2 a1 a2).objs.size=s.heap.objs.size+3:=by rw[Gy,z2]
 have z4:(zP4 s.heap b1 b2 a1 a2).objs.size=s.heap.objs.size+4:=by rw[Gy,z3]
 have up:∀{k:Q2} {c:Qh} {o u:Obj},k.get? c=some o->(k.push u).get? c=some o:=fun q=>Qi _ q
 have fi1:(itO b1 a1).isFreed=false:=by cases b1 <;> rfl
 have fi2:(itO b2 a2).isFreed=false:=by cases b2 <;> rfl
 have g5:(zP5 s.heap b1 b2 a1 a2).get? (zP4 s.heap b1 b2 a1 a2).objs.size=some _:=Qm _ rfl
 have g4:(zP5 s.heap b1 b2 a1 a2).get? (zP3 s.heap b1 b2 a1 a2).objs.size=some _:=up (Qm _ rfl)
 have g3:(zP5 s.heap b1 b2 a1 a2).get? (zP2 s.heap b1 b2 a1 a2).objs.size=some _:=up (up (Qm _ rfl))
 have g2:(zP5 s.heap b1 b2 a1 a2).get? (zP1 s.heap b1 a1).objs.size=some _:=up (up (up (Qm _ fi2)))
 have g1:(zP5 s.heap b1 b2 a1 a2).get? s.heap.objs.size=some _:=up (up (up (up (Qm _ fi1))))
 show _/\_;rw[z2,z3,z4] at g5;rw[z1,z2] at g3;rw[z3] at g4;rw[z1] at g2;rw[z4];exact⟨⟨_,g5,rfl⟩,h _ g5 g3 g4 (.new g1) (.new g2) fun c o q=>up (up (up (up (up q))))⟩
end PySem
namespace L2
open PySem PySem.Spec PyProof.Rows
def Inv.turnedL{t':Nat}{fp:List Qh}(I:Inv X pins σ H s)(k:∀b o,b∉fp->s.heap.get? b=some o->h'.get? b=some o)(hf:∀b∈fp,FpOk X pins H b):Inv X pins σ H { s with heap:=h',toks:=t' }:=by
 have nit:∀b u,H b=some u->b∉fp:=fun b u e z=>by rw[(hf b z).1] at e;cases e
 refine I.step (g':=s.gens) (d':=s.drawn) (ch:=fp) (fun b hb=>?_) (fun b o _ _ hc e _=>k b o hc e) (fun b o _ _ hc e _=>⟨o.slots,k b o hc e⟩) (fun _ _ _ _ n=>n)
  (fun b o hc e=>⟨o,k b o hc e⟩) (fun _ _ e=>e) (fun _ _ _ e=>e) (fun _ _ _ _ _ e=>e) (fun m hm=>?_) (fun b u e=>?_) I.bare
 ·obtain⟨f0,f1,f2,f3,f4,f5⟩:=hf b hb;exact⟨f3,f1,f4,f5⟩
 ·obtain⟨o,es,ep,ho,r⟩:=hm;exact⟨o,es,ep,k _ o (fun z=>(hf _ z).2.1 rfl) ho,r⟩
 ·refine(I.hok b u e).stay (fun c v hc q=>k c v ?_ q) (fun _ q=>q) fun _ _ q=>q
  rcases hc with z|z
  ·rw[z];exact nit b u e
  ·exact nit c _ z
noncomputable def Sq(b:Bool)(K:Qz)(H:Hp)(a:Qh)(xs:List V):Prop:=match b with
 | true=>SqT K H a xs
 | false=>SqL K H a xs
def Sq.heap(I:Inv X pins σ H s)(q:Sq b X.K H a xs):∃its:List Qe,Vals xs its/\IsSq b s.heap a its.toArray:=by
 cases b with
 | true=>obtain⟨its,r,p,_⟩:=I.tuple q;exact⟨its,r,p⟩
 | false=>obtain⟨its,r,p,_⟩:=I.list q;exact⟨its,r,p.isList⟩
def Sq.inj(I:Inv X pins σ H s)(q:Sq b X.K H a xs)(q':Sq b X.K H a ys):xs=ys:=by
 cases b with
 | true=>exact I.tuple_inj q q'
 | false=>exact I.list_inj q q'
def FpOk.off(I:Inv X pins σ H s)(q:Sq b X.K H a xs)(f:FpOk X pins H c):a≠c:=by
 intro e;subst e;have own:∀{o:HO},H a=some o->False:=fun h=>by rw[f.1] at h;cases h
 have mod:∀{o:Obj},X.K.lookup a=some o->False:=fun {o} h=>by
  have hb:=I.ok.mod.kin a o h;rcases f.2.2.2.1 with z|z
  ·exact I.ok.noex a o hb z
  ·exact absurd (Qn hb) (LW.mpr (Gm I.ok.bsz z))
 cases b with
 | true =>
  rcases q with (h|⟨o,h⟩)|⟨o,its,n,h,_⟩
  ·exact own h
  ·exact own h
  ·exact mod h
 | false =>
  rcases q with (h|⟨o,h⟩)|⟨o,its,n,h,_⟩
  ·exact own h
  ·exact own h
  ·exact mod h
noncomputable def Itz(K:Qz)(b1 b2:Bool)(a1 a2:Qh):It :=
 ⟨fun i H=>∃xs ys x y,Sq b1 K H a1 xs/\Sq b2 K H a2 ys/\xs[i]?=some x/\ys[i]?=some y,
  fun i H x H'=>∃p u v,x=.ref p/\H p=none/\H'=upd H p (.tup [u,v])/\∀xs ys,Sq b1 K H a1 xs->Sq b2 K H a2 ys->xs[i]?=some u/\ys[i]?=some v,
  fun i H=>∃xs ys,Sq b1 K H a1 xs/\Sq b2 K H a2 ys/\i=min xs.length ys.length⟩
noncomputable def ZSt(b1 b2:Bool)(a1 a2 z TI TO i1 i2:Qh)(i:Nat)(h:Q2):Prop:=IsZip h z TI TO .none/\IsPair h TI (.ref i1) (.ref i2)/\(∃a b,IsPair h TO a b)/\IsItr b1 h i1 a1 i/\IsItr b2 h i2 a2 i
def IsItr.keep{b:Bool}{h h':Q2}{j a:Qh}{i:Nat}(q:IsItr b h j a i)(k:∀o,h.get? j=some o->h'.get? j=some o):IsItr b h' j a i:=by
 cases b with
 | true=>obtain⟨o,e,r⟩:=q;exact⟨o,k o e,r⟩
 | false=>obtain⟨o,e,r⟩:=q;exact⟨o,k o e,r⟩
def IsItr.obj{b:Bool}{h:Q2}{j a:Qh}{i:Nat}(q:IsItr b h j a i):∃o,h.get? j=some o/\∀v,o.data≠.cell v:=by
 cases b with
 | true=>obtain⟨o,e,_,d⟩:=q;exact⟨o,e,fun v z=>by rw[d] at z;cases z⟩
 | false=>obtain⟨o,e,_,d⟩:=q;exact⟨o,e,fun v z=>by rw[d] at z;cases z⟩
def JoF{X:Cx}{pins:List (Qh×Obj)}{σ:St}{H:Hp}{s:Qg}{b1 b2:Bool}{a1 a2 z TI TO i1 i2:Qh}{xs ys:List V}(I:Inv X pins σ H s)(q1:Sq b1 X.K H a1 xs)(q2:Sq b2 X.K H a2 ys)(hf:∀b∈[z,TI,TO,i1,i2],FpOk X pins H b)
 (nd:[z,TI,TO,i1,i2].Nodup):ZA z TI TO i1 i2 [i1,a1] [i2,a2]:=by
 have o1:∀c∈[z,TI,TO,i1,i2],a1≠c:=fun c hc=>FpOk.off I q1 (hf c hc)
 have o2:∀c∈[z,TI,TO,i1,i2],a2≠c:=fun c hc=>FpOk.off I q2 (hf c hc)
 simp only[Q6,Qk,Gd,or_false,not_or] at nd;obtain⟨⟨n1,n2,n3,n4⟩,⟨n5,n6,n7⟩,⟨n8,n9⟩,n10,_⟩:=nd;have c1:=o1 z (by simp);have c2:=o1 TI (by simp);have c3:=o1 TO (by simp);have c4:=o1 i2 (by simp);have d1:=o2 z (by simp);have d2:=o2 TI (by simp);have d3:=o2 TO (by simp);have d4:=o2 i1 (by simp);refine⟨Q3 n1,Q3 n2,n5,by simp,by simp,?_,?_,?_,?_,?_,?_,?_,?_⟩ <;> simp only[Qk,Gd,or_false,not_or]
 ·exact⟨n3,Q3 c1⟩
 ·exact⟨n4,Q3 d1⟩
 ·exact⟨n6,Q3 c2⟩
 ·exact⟨n7,Q3 d2⟩
 ·exact⟨n8,Q3 c3⟩
 ·exact⟨n9,Q3 d3⟩
 ·exact⟨n10,Q3 d4⟩
 ·exact⟨Q3 n10,Q3 c4⟩
def Jlh{P:Qy}{w:QP}{K:Qz}{elts:List Gu}{kk:Nat}{pos:Pos}(b1 b2:Bool)(a1 a2 z TI TO i1 i2:Qh)(nd:[z,TI,TO,i1,i2].Nodup) :
 Turn P w K (.Tuple elts kk pos) (Itz K b1 b2 a1 a2) [z,TI,TO,i1,i2] z (ZSt b1 b2 a1 a2 z TI TO i1 i2) where
 mem:=by simp
 obj:=fun i h st b hb=>by
  obtain⟨s1,s2,⟨u,v,s3⟩,s4,s5⟩:=st;simp only[Qk,Gd,or_false] at hb;rcases hb with rfl|rfl|rfl|rfl|rfl
  ·exact⟨_,s1,fun v z=>nomatch (show Data.fields _=Data.cell v from z)⟩
  ·exact⟨_,s2,fun v z=>nomatch (show Data.seq _ _=Data.cell v from z)⟩
  ·exact⟨_,s3,fun v z=>nomatch (show Data.seq _ _=Data.cell v from z)⟩
  ·exact IsItr.obj (b:=b1) s4
  ·exact IsItr.obj (b:=b2) s5
 keep:=fun i h h' st k=>by obtain⟨s1,s2,⟨u,v,s3⟩,s4,s5⟩:=st;exact⟨k z (by simp) _ s1,k TI (by simp) _ s2,⟨u,v,k TO (by simp) _ s3⟩,IsItr.keep (b:=b1) s4 fun o e=>k i1 (by simp) o e,IsItr.keep (b:=b2) s5 fun o e=>k i2 (by simp) o e⟩
 item:=by
  intro X hP hw hK hc i pins s σ H E I hf st hg;subst hP hw hK;obtain⟨xs,ys,x,y,q1,q2,e1,e2⟩:=hg;obtain⟨its,r1,p1⟩:=q1.heap I;obtain⟨jts,r2,p2⟩:=q2.heap I;obtain⟨s1,s2,⟨u0,v0,s3⟩,s4,s5⟩:=st;have Z:=JoF I q1 q2 hf nd;have hh:X.A.in1.handled=none:=I.ok.hd hc;have ne1:a1≠i1:=FpOk.off I q1 (hf i1 (by simp));have ne2:a2≠i2:=FpOk.off I q2 (hf i2 (by simp));have D1:=Draws.sq (prog:=X.prog) (w:=X.w) (b:=b1) (xs:=its.toArray) hh i1 ne1
  have D2:=Draws.sq (prog:=X.prog) (w:=X.w) (b:=b2) (xs:=jts.toArray) hh i2 ne2
  have hT:s.TypeIs (.ref z) "zip":=⟨_,s1,rfl⟩
  have l1:i<its.toArray.size:=by have:=(Qo.mp e1).1;rw[Qt,<- r1.length];exact this
  have l2:i<jts.toArray.size:=by have:=(Qo.mp e2).1;rw[Qt,<- r2.length];exact this
  unfold pyNext;refine Qa (G9 (QX (name:=Go "__next__") hT G6 (Q7 G6 hT Lq (JbU Z D1 D2 s1 s2 s3 ⟨s4,p1⟩ ⟨s5,p2⟩ l1 l2 fun u v k tk pu pv t1 t2 t3 t4 t5 t6 t7 t8=>Qj ?_) (Lg _))));refine⟨_,rfl,wpAny_letOwnedTupleGo_zip (s:={ s with heap:=k,toks:=tk }) t1 fun k2 t9 e9=>?_⟩
  replace e9:QK z k k2:=e9;obtain⟨ux,hx1,rx⟩:=r1.get e1;obtain⟨uy,hy1,ry⟩:=r2.get e2
  have eu:u=ux:=by
   have pu':its[i]?=some u:=by simpa using pu
   rw[hx1] at pu';exact(QS pu').symm
  have ev:v=uy:=by
   have pv':jts[i]?=some v:=by simpa using pv
   rw[hy1] at pv';exact(QS pv').symm
  subst eu ev
  have zlt:∀b∈[z,TI,TO,i1,i2],b<s.heap.objs.size:=fun b hb=>by
   simp only[Qk,Gd,or_false] at hb;rcases hb with rfl|rfl|rfl|rfl|rfl
   ·exact Qn s1
   ·exact Qn s2
   ·exact Qn s3
   ·obtain⟨_,e,_⟩:=IsItr.obj (b:=b1) s4;exact Qn e
   ·obtain⟨_,e,_⟩:=IsItr.obj (b:=b2) s5;exact Qn e
  have nz:s.heap.objs.size≠z:=Gn (zlt z (by simp))
  have I1:Inv X pins σ (upd H s.heap.objs.size (.tup [x,y])) { s with heap:=s.heap.push { cls:=.type "tuple",data:=.seq #[u,v] },toks:=s.toks } :=
   I.laid (o:=.tup [x,y]) (fun b ob q=>Qi _ q) (Qu _) ⟨by show 2<=Qr;decide,[u,v],.cons rx (.cons ry .nil),⟨_,Qm _ rfl,rfl,_,rfl⟩⟩
  have hf1:∀b∈[z,TI,TO,i1,i2],FpOk X pins (upd H s.heap.objs.size (.tup [x,y])) b:=fun b hb=>⟨by rw[Je (QF (zlt b hb))];exact(hf b hb).1,(hf b hb).2⟩
  have I2:Inv X pins σ (upd H s.heap.objs.size (.tup [x,y])) { s with heap:=k2,toks:=tk }:=Inv.turnedL (s:={ s with heap:=s.heap.push { cls:=.type "tuple",data:=.seq #[u,v] },toks:=s.toks }) I1 (fun b o hb q=>by
   simp only[Qk,Gd,or_false,not_or] at hb;refine e9.extBut b o hb.1 ?_
   by_cases hbs:b=s.heap.objs.size
   ·subst hbs;have q':(s.heap.push { cls:=.type "tuple",data:=.seq #[u,v] }).get? s.heap.objs.size=some o:=q;rw[Qm _ rfl] at q';cases q';exact t6
   ·have q':s.heap.get? b=some o:=by have q2:(s.heap.push { cls:=.type "tuple",data:=.seq #[u,v] }).get? b=some o:=q;exact(M9 s.heap b _ hbs).symm.trans q2
    exact t8 b o hb.1 hb.2.2.1 hb.2.2.2.1 hb.2.2.2.2 q') hf1
  refine⟨.ref s.heap.objs.size,_,I2,rfl,⟨_,x,y,rfl,I.hok.fresh (Qu _),rfl,fun xs' ys' h1 h2=>?_⟩,⟨t9,e9.extBut _ _ Z.a1 t2,⟨_,_,e9.extBut _ _ Z.a2 t3⟩,?_,?_⟩,fun b hb=>(hf1 b hb).1⟩
  ·rw[Sq.inj I h1 q1,Sq.inj I h2 q2];exact⟨e1,e2⟩
  ·exact IsItr.keep (b:=b1) t4.1 fun o e=>e9.extBut _ _ (fun q=>Z.z1 (q▸Z.m1)) e
  ·exact IsItr.keep (b:=b2) t5.1 fun o e=>e9.extBut _ _ (fun q=>Z.z2 (q▸Z.m2)) e
 done:=by
  intro X hP hw hK hc i pins s σ H E I hf st hg;subst hP hw hK;obtain⟨xs,ys,q1,q2,ei⟩:=hg;obtain⟨its,r1,p1⟩:=q1.heap I;obtain⟨jts,r2,p2⟩:=q2.heap I;obtain⟨s1,s2,⟨u0,v0,s3⟩,s4,s5⟩:=st;have Z:=JoF I q1 q2 hf nd;have hh:X.A.in1.handled=none:=I.ok.hd hc;have D1:=Draws.sq (prog:=X.prog) (w:=X.w) (b:=b1) (xs:=its.toArray) hh i1 (FpOk.off I q1 (hf i1 (by simp)));have D2:=Draws.sq (prog:=X.prog) (w:=X.w) (b:=b2) (xs:=jts.toArray) hh i2 (FpOk.off I q2 (hf i2 (by simp)))
  have hT:s.TypeIs (.ref z) "zip":=⟨_,s1,rfl⟩
  have n1:its.toArray.size=xs.length:=by rw[Qt,r1.length]
  have n2:jts.toArray.size=ys.length:=by rw[Qt,r2.length]
  unfold pyNext;refine Qa (G9 (QX (name:=Go "__next__") hT G6 (Q7 G6 hT Lq (JeW Z D1 D2 s1 s2 s3 ⟨s4,p1⟩ ⟨s5,p2⟩ (by omega) fun k e tk kk he=>?_) (Lg _))));obtain⟨o,ho,hoc⟩:=he;refine Qa (KH (T:="StopIteration") (b:=true) ⟨o,ho,hoc⟩ LX (Qj ⟨rfl,?_⟩));exact I.turnedL (fun b o hb q=>by simp only[Qk,Gd,or_false,not_or] at hb;exact kk b o hb.1 hb.2.2.1 hb.2.2.2.1 hb.2.2.2.2 q) hf
 self:=fun _ _ _ _ _ st h=>Rs st.1 h
noncomputable def iZp(K:Qz)(ta:TA):TI:=fun σ H R=>ta σ H fun vs H1=>∃(b1 b2:Bool) (a1 a2:Qh) (xs ys:List V),vs=[.ref a1,.ref a2]/\Sq b1 K H1 a1 xs/\Sq b2 K H1 a2 ys/\R (Itz K b1 b2 a1 a2) H1
def Jg8{X:Cx}{K:Qz}{elts:List Gu}{kk:Nat}{tpos:Pos}{a b:Gu}{ta:TA}{p pos:Pos}(hK:X.K=K)(hg:Gl X "zip")(hm:X.mg "zip"=none)(ha:PA X [a,b] ta)(hs:starEach [a,b] X.env=[(false,eval a X.env),(false,eval b X.env)]:=by rfl)
 (hs2:starEach [b] X.env=[(false,eval b X.env)]:=by rfl):PI X (.Tuple elts kk tpos) (.Call (.Name "zip" p) [a,b] [] pos) (iZp K ta):=by
 subst hK;intro pins s σ H R I h;refine Call_ (Y2 I hg hm Ji2 (GF (thn (ha pos pins s σ H _ I h) fun us s1 ⟨vs,H1,I1,r1,q1⟩=>?_) (by rw[hs,hs2]) (by rw[hs2];rfl)));obtain⟨b1,b2,a1,a2,xs,ys,e,c1,c2,q⟩:=q1;subst e
 cases r1 with
 | cons r rr =>
 cases rr with
 | cons r' rr =>
 cases rr;cases r;cases r';obtain⟨its,w1,p1⟩:=c1.heap I1;obtain⟨jts,w2,p2⟩:=c2.heap I1;refine Jbn p1 p2 fun h' t1 t2 t3 t4 t5 kp=>Rs t1 ?_
 refine⟨_,[s1.heap.objs.size+4,s1.heap.objs.size+2,s1.heap.objs.size+3,s1.heap.objs.size,s1.heap.objs.size+1],_,_,H1,rfl,I1.kept (t':=s1.toks) kp,Jlh b1 b2 a1 a2 _ _ _ _ _ (by simp),⟨t1,t2,⟨_,_,t3⟩,t4,t5⟩,fun b hb=>?_,q⟩
 have hle:s1.heap.objs.size<=b:=by simp only[Qk,Gd,or_false] at hb;rcases hb with rfl|rfl|rfl|rfl|rfl <;> first|exact Qu _|exact MA _ _
 exact I1.fpOk hle (I1.hok.fresh hle)
end L2
namespace LE
open PySem L2 LR
noncomputable def Jda(ds es:List D):List D:=List.zipWith (fun a b=>.tup [a,b]) ds es
noncomputable def Jmg(m:Bool)(as:En->Option (List Sl)):En->Option (List D):=fun E=>(as E).bind fun ss=>match ss with
 | [s,t]=>(s.it m).bind fun ds=>(t.it m).bind fun es=>some (Jda ds es)
 | _=>none
def Jh3{H H1 H1':Hp}{v:V}{s:Sl}{ds:List D}(r:RR K C H H1 H1' v s)(i:Same H1 H1')(e:s.it m=some ds) :
 ∃(b:Bool) (a:Qh) (xs:List V),v=.ref a/\(∀A,(m=true->A=H1')->∀H0' H',SStep A (JU H H1 H1') H0' H'->Sq b K H' a xs)/\RDL K C (JU H H1 H1') xs ds:=by
 have f:=JN (Hs:=H) i
 have shared:∀{d:D},RD K C (JU H H1 H1') v d->(Sl.sh d).q=some ds->∃(b:Bool) (a:Qh) (xs:List V),v=.ref a/\(∀A,(m=true->A=H1')->∀H0' H',SStep A (JU H H1 H1') H0' H'->Sq b K H' a xs)/\RDL K C (JU H H1 H1') xs ds:=fun {d} r e=>by
  cases d with
  | lst es=>cases e;obtain⟨l,xs,h1,h2,h3⟩:=RD.lstI r;exact⟨false,l,xs,h1,fun A _ H0' H' st=>SqL.of (st.i _ _ (st.z _ _ h2)),h3⟩
  | fz es=>cases e;obtain⟨l,xs,h1,h2,h3⟩:=RD.fzI r;exact⟨false,l,xs,h1,fun A _ H0' H' st=>(st.z.trans st.i).seq h2,h3⟩
  | tup es=>cases e;obtain⟨l,xs,h1,h2,h3⟩:=RD.tupI r;exact⟨true,l,xs,h1,fun A _ H0' H' st=>(st.z.trans st.i).seqT h2,h3⟩
  | _=>cases e
 cases s with
 | no=>cases e
 | sh d=>exact shared (RD.mono f.z r) e
 | own es=>exact shared (RR.frz (s:=.own es) i r rfl) e
 | bd _ _=>cases e
 | bt _ _=>cases e
 | od _ _=>cases e
 | ot _ _=>cases e
 | bo es =>
  unfold Sl.it at e;dsimp only at e;split at e
  ·next hm=>cases e;obtain⟨l,xs,h1,h2,h3⟩:=r;refine⟨false,l,xs,h1,fun A hA H0' H' st=>?_,h3.mono f.z⟩;have:=hA hm;subst this;exact SqL.of (st.b _ _ h2)
  ·cases e
def Jqv(ha:SA K C t ev):SI K C m (iZp K t) (Jmg m ev):=by
 intro B H0 H σ E ds R I e q;obtain⟨ss,e1,e⟩:=bind_some e;split at e
 ·next s u =>
  obtain⟨ds1,e2,e⟩:=bind_some e;obtain⟨ds2,e3,e⟩:=bind_some e;cases e;refine ha B H0 H σ E _ _ I e1 fun vs H1 H1' s1 r1=>?_
  obtain⟨v,w,rfl,ra,rb⟩:=r1.two;have f:=JN (Hs:=H) s1.i;obtain⟨b1,a1,xs,rfl,k1,w1⟩:=Jh3 ra s1.i e2;obtain⟨b2,a2,ys,rfl,k2,w2⟩:=Jh3 rb s1.i e3;have hA:m=true->(if m=true then H1' else B)=H1':=fun h=>if_pos h
  have sA:Same (if m=true then H1' else B) H1':=by
   split
   ·exact Same.refl _
   ·exact I.b.trans s1.h
  have st0:SStep (if m=true then H1' else B) (JU H H1 H1') (JU H H1 H1') H1':=⟨sA,Same.refl _,fun _ _ e=>.inl e,f.i⟩
  refine⟨b1,b2,a1,a2,xs,ys,rfl,k1 _ hA _ _ st0,k2 _ hA _ _ st0,q _ _ _ (s1.comp f fun _ z=>z) ?_⟩;intro H0' H' st;have q1:=k1 _ hA _ _ st;have q2:=k2 _ hA _ _ st;refine⟨fun i d e=>?_,⟨xs,ys,q1,q2,by unfold Jda;rw[List.length_zipWith,w1.1,w2.1]⟩⟩;unfold Jda at e;rw[RT] at e
  cases g1:ds1[i]? with
  | none=>rw[g1] at e;cases e
  | some d1 =>
   cases g2:ds2[i]? with
   | none=>rw[g1,g2] at e;cases e
   | some d2 =>
    rw[g1,g2] at e;cases e;obtain⟨x,x1,x2⟩:=w1.get g1;obtain⟨y,y1,y2⟩:=w2.get g2;refine⟨⟨xs,ys,x,y,q1,q2,x1,y1⟩,?_⟩;rintro z H2 ⟨p,u',v',rfl,hp,rfl,hv⟩;obtain⟨h1,h2⟩:=hv xs ys q1 q2;rw[x1] at h1;cases h1;rw[y1] at h2;cases h2;have h0:H0' p=none:=Same.free st.i hp;refine⟨upd H0' p (.tup [x,y]),⟨.new hp,.new h0,fun a o e=>?_,fun a o e=>?_⟩,?_⟩
    ·by_cases h:a=p
     ·subst h;exact .inr (.inl hp)
     ·rw[Je h] at e;exact .inl e
    ·by_cases h:a=p
     ·subst h;rw[Jl] at e ⊢;exact e
     ·rw[Je h] at e ⊢;exact st.i a o e
    ·exact .mkT (.of Jl) (.cons (x2.mono (st.z.trans (.new h0))) (.cons (y2.mono (st.z.trans (.new h0))) .nil))
 ·cases e
def Jdb{α β:Type}(f:α->D)(g:β->D)(xs:List α)(ys:List β):Jda (xs.map f) (ys.map g)=(Ru xs ys).map fun p=>.tup [f p.1,g p.2]:=by
 unfold Jda
 induction xs generalizing ys with
 | nil=>rfl
 | cons x xs ih=>cases ys with
  | nil=>rfl
  | cons y ys=>simp[ih]
end LE
namespace PySem
namespace F
def JkI:Manifest.owners.lookup (String.ofList ['d','e','s','r','e','v','e','r'].reverse)=some Manifest.sig_reversed:=by kernel_rfl
def JcS:Slot "reversed" "__init__" "object.__init__" :=
 .of (owner:="object") (n:="__init__") (by rw[typeLookup_type,builtinLookup_eq_fast];kernel_rfl) (by decide +kernel) (by decide +kernel) (by decide +kernel) (by first | exact .inl (by decide +kernel) | exact .inr (by decide +kernel)) (by rw[Lr];kernel_rfl)
def rv_slot_next:Slot "reversed" "__next__" "reversed.__next__" :=
 .of (owner:="reversed") (n:="__next__") (by rw[typeLookup_type,builtinLookup_eq_fast];kernel_rfl) (by decide +kernel) (by decide +kernel) (by decide +kernel) (by first | exact .inl (by decide +kernel) | exact .inr (by decide +kernel)) (by rw[Lr];kernel_rfl)
def rv_slot_iter:Slot "reversed" "__iter__" "reversed.__iter__" :=
 .of (owner:="reversed") (n:="__iter__") (by rw[typeLookup_type,builtinLookup_eq_fast];kernel_rfl) (by decide +kernel) (by decide +kernel) (by decide +kernel) (by first | exact .inl (by decide +kernel) | exact .inr (by decide +kernel)) (by rw[Lr];kernel_rfl)
def rv_args_next(a:Qe):argsOk "reversed.__next__" ⟨[a],[]⟩:=by unfold argsOk;rw[signature?_of (id:="reversed.__next__") (n:=['_','_','t','x','e','n','_','_']) (o:=['d','e','s','r','e','v','e','r']) (by kernel_rfl) JkI];kernel_rfl
def rv_args_iter(a:Qe):argsOk "reversed.__iter__" ⟨[a],[]⟩:=by unfold argsOk;rw[signature?_of (id:="reversed.__iter__") (n:=['_','_','r','e','t','i','_','_']) (o:=['d','e','s','r','e','v','e','r']) (by kernel_rfl) JkI];kernel_rfl
def rv_entry_next:entryFor table "reversed.__next__"=some Builtin.«reversed.__next__»:=entryFor_of_tree (by kernel_rfl)
def rv_entry_iter:entryFor table "reversed.__iter__"=some Builtin.«dict_keyiterator.__iter__» :=
 entryFor_alias (id':="dict_keyiterator.__iter__") (by kernel_rfl) (by first | rfl | decide +kernel | (unfold String.splitOn;simp +decide [String.splitOnAux])) (by decide +kernel) (by kernel_rfl)
def rv_called:TypeCalled "reversed" "reversed.__new__" "object.__init__" :=
 ⟨by decide +kernel,by decide +kernel,⟨_,_,mro_reversed⟩,made_reversed,by decide +kernel,sub_reversed_self,JcS⟩
def rv_tuple_none:typeLookup (.type "tuple") "__reversed__"=pure none:=by rw[typeLookup_type,builtinLookup_eq_fast];kernel_rfl
def rv_tuple_dict:isSubtype (.type "tuple") (.type "dict")=pure false:=by rw[Lr];kernel_rfl
end F
abbrev JeY(h:Q2)(r a:Qh)(i:Int):Prop:=h.get? r=some { cls:=.type "reversed",dict:=none,data:=.fields #[.ref a,rawInt i],slots:=#[] }
def Jj5(a:Qh)(xs:Array Qe):Meets (Builtin.«reversed.__new__» ⟨[.type "reversed",.ref a],[]⟩) (fun _ R s=>s.heap.IsTuple a xs/\(xs.size:Int)<2 ^ 63 ∧
 R (.ok (.ret (.ref s.heap.objs.size))) { s with heap:=s.heap.push { cls:=.type "reversed",data:=.fields #[.ref a,rawInt ((xs.size:Int)-1)] },toks:=s.toks+1+1 }) :=
 .of_wp fun prog w A R s h=>by
  obtain⟨hp,g,d,tk,os⟩:=s;obtain⟨q1,q2,h⟩:=h;have hT:(⟨hp,g,d,tk,os⟩:Qg).TypeIs (.ref a) "tuple":=q1.typeIs;unfold Builtin.«reversed.__new__»;refine Qa (KZ (newClass_reversed _) ?_)
  try dsimp only
  refine Qa (KZ (a:=()) (by first|rfl|kernel_rfl) ?_);refine Qa (KZ (a:=()) (by first|rfl|kernel_rfl) ?_)
  try dsimp only
  refine Qa (Lc hT F.rv_tuple_none ?_)
  try dsimp only
  refine Qa ?_;refine Qa (m:=isInstance (.ref a) (.type "dict")) (KH hT F.rv_tuple_dict ?_);refine Qa (Lc hT Gw.lookup ?_);refine Qj ?_;refine Qa (PyProof.Rows.len_tuple (s:=⟨hp,g,d,tk,os⟩) q1 q2 ?_);refine Qa (KZ (a:=some (xs.size:Int)) rfl ?_)
  try dsimp only
  refine Qa ?_;show wpAny _ _ (newObj (.type "reversed") (.fields #[.ref a,rawInt ((xs.size:Int)-1)])) _ _ _;exact Ge (Qj ⟨_,rfl,h⟩) (by size_fits)
def JlF{Q:Qe->Qg->Prop}(q1:s.heap.IsTuple a xs)(q2:(xs.size:Int)<2 ^ 63)
 (h:∀h' tk,JeY h' s.heap.objs.size a ((xs.size:Int)-1)->(∀c o,s.heap.get? c=some o->h'.get? c=some o)->Q (.ref s.heap.objs.size) { s with heap:=h',toks:=tk }) :
 wpAny (model prog w) A (call (.type "reversed") [.ref a]) Q E s:=by
 refine callType_new F.rv_called (by decide) (F.typeCall_reversed_1 _) (F.newCall_reversed_1 _) (fun obj=>F.args_object_init_2 obj _) F.entry_reversed_new (Jj5 a xs) ⟨q1,q2,?_⟩;exact⟨⟨_,Qm _ rfl,rfl⟩,h _ _ (Qm _ rfl) fun c o q=>Qi _ q⟩
def JmM{i:Nat}{x:Qe}{Q:Option Qe->Qg->Prop}(hit:JeY s.heap r a (i:Int))(hl:s.heap.IsTuple a xs)(hb:(i:Int)<2 ^ 63)(hx:xs[i]?=some x)
 (hQ:∀h' tk,JeY h' r a ((i:Int)-1)->QK r s.heap h'->Q (some x) { s with heap:=h',toks:=tk }):wpAny (model prog w) A (pyNext (.ref r)) Q E s:=by
 have hT:s.TypeIs (.ref r) "reversed":=⟨_,hit,rfl⟩
 have hi:i<xs.size:=by
  by_cases z:i<xs.size
  ·exact z
  ·rw[Array.getElem?_eq_none (by omega)] at hx;cases hx
 unfold pyNext;refine Qa (G9 (QX (name:=Go "__next__") hT F.rv_slot_next
  (Q7 F.rv_slot_next hT F.rv_entry_next ?_ (F.rv_args_next _))))
 unfold Builtin.«reversed.__next__»;refine Qa (KZ (a:=(Value.ref r,[])) rfl ?_)
 try dsimp only
 refine Qa (Q5 hit rfl (x:=.ref a) rfl ?_);refine Qa (Q5 hit rfl (x:=rawInt (i:Int)) rfl ?_);show wpAny _ _ (if (i:Int)<0 then _ else _) _ _ s;rw[if_neg (by omega)];show wpAny _ _ (specialOf (.ref a) _ >>= _) _ _ s;refine Qa (Lc hl.typeIs Gw.lookup ?_);show wpAny _ _ (mkInt (i:Int) >>= _) _ _ s;refine Qa (wpAny_mkInt ?_);refine Qa (G9 (PyProof.Rows.getItem_tuple (s:={ s with toks:=s.toks+1 }) hl (by omega) hb (j:=i) (by simp[seqIndex?];omega) hx ?_))
 show wpAny _ _ (field (.ref r) 1 >>= _) _ _ _;refine Qa (Q5 hit rfl (x:=rawInt (i:Int)) rfl ?_)
 show wpAny _ _ (setField (.ref r) 1 (rawInt ((i:Int)-1)) >>= _) _ _ _;refine Qa (Gs hit (by simp) fun k1 y1 e1=>?_);exact Qj ⟨x,rfl,Qj (hQ k1 _ y1 e1)⟩
def JoT{Q:Option Qe->Qg->Prop}(hh:A.handled=none)(hit:JeY s.heap r a (-1))
 (hQ:∀h',Lf r s.heap h'->Q none { s with heap:=h' }):wpAny (model prog w) A (pyNext (.ref r)) Q E s:=by
 have hT:s.TypeIs (.ref r) "reversed":=⟨_,hit,rfl⟩
 unfold pyNext;refine Qa (G9 (QX (name:=Go "__next__") hT F.rv_slot_next
  (Q7 F.rv_slot_next hT F.rv_entry_next ?_ (F.rv_args_next _))))
 unfold Builtin.«reversed.__next__»;refine Qa (KZ (a:=(Value.ref r,[])) rfl ?_)
 try dsimp only
 refine Qa (Q5 hit rfl (x:=.ref a) rfl ?_);refine Qa (Q5 hit rfl (x:=rawInt (-1)) rfl ?_);show wpAny _ _ (if (-1:Int)<0 then _ else _) _ _ s;rw[if_pos (by decide)];refine Qa (KG ?_);refine Qa ?_;refine Qa (m:=setField (.ref r) 1 (rawInt (-1))) (Gs hit (by simp) fun k1 y1 e1=>?_);refine Gs (s:={ s with heap:=k1 }) y1 (by simp) fun k2 y2 e2=>?_
 refine Qa ?_;show wpAny _ _ (newExc (.type "StopIteration") [] >>= _) _ _ _;refine Qa ?_;simp only[newExc,newTuple];refine Qa (Ge ?_ (by size_fits));refine Qa (m:=firstArgMember _ _) (KZ (a:=Value.none) (by first | rfl | (simp only[firstArgMember];rfl)) ?_);refine Ge ?_ (by size_fits);simp only[raiseNew];refine Qa (wpAny_handled ?_)
 first|rw[show A.in1.handled=none from hh]|rw[hh]
 refine Qa (Qj (wpAny_throw ?_));refine Qa (KH (T:="StopIteration") (b:=true) ⟨_,Qm _ rfl,rfl⟩ LX ?_)
 replace e1:QK r s.heap k1:=e1
 replace e2:QK r k1 k2:=e2;refine Qj (hQ _ ?_);exact(XG (XG (fun b o hb q=>e2.extBut b o hb (e1.extBut b o hb q)) _) _)
def JgP{i:Int}{Q:Qe->Qg->Prop}(hit:JeY s.heap r a i)(h:Q (.ref r) s):wpAny (model prog w) A (pyIter (.ref r)) Q E s:=by
 have hT:s.TypeIs (.ref r) "reversed":=⟨_,hit,rfl⟩
 refine Ra hT F.rv_slot_iter (Q7 F.rv_slot_iter hT F.rv_entry_iter ?_ (F.rv_args_iter _));show wpAny _ _ (ret (.ref r)) _ _ s;exact Qj ⟨_,rfl,"reversed",_,hT,F.rv_slot_next.lookup,h⟩
end PySem
namespace L2
open PySem PySem.Spec PyProof.Rows
noncomputable def Itv(K:Qz)(b:Bool)(a:Qh)(n:Nat):It :=
 ⟨fun i H=>i<n/\∃xs,Sq b K H a xs/\xs.length=n,fun i H x H'=>H'=H/\∀xs,Sq b K H a xs->xs[n-1-i]?=some x,fun i _=>i=n⟩
noncomputable def Jsw(b:Bool)(r a:Qh)(i:Int)(h:Q2):Prop:=match b with
 | true=>JeY h r a i
 | false=>h.IsRevIter r a i
def JhE{P:Qy}{w:QP}{K:Qz}{tg:Gu}(b:Bool)(a r:Qh)(n:Nat)(hn:n<=Qr):Turn P w K tg (Itv K b a n) [r] r (fun i h=>Jsw b r a ((n:Int)-1-(i:Int)) h) where
 mem:=by simp
 obj:=fun i h st c hc=>by
  have e:c=r:=by simpa using hc
  subst e
  cases b with
  | true=>exact⟨_,st,fun v z=>nomatch (show Data.fields _=Data.cell v from z)⟩
  | false=>obtain⟨o,e,_,d⟩:=st;exact⟨o,e,fun v z=>by rw[d] at z;cases z⟩
 keep:=fun i h h' st k=>by
  cases b with
  | true=>exact k r (by simp) _ st
  | false=>exact Heap.IsRevIter.at st fun o e=>k r (by simp) o e
 item:=by
  intro X hP hw hK hc i pins s σ H E I hf st hg;subst hP hw hK;obtain⟨hi,xs,hq,hlen⟩:=hg;obtain⟨f0,f1,f2,f3,f4,f5⟩:=hf r (by simp);obtain⟨its,rv,p⟩:=hq.heap I;obtain⟨x,hx⟩:∃x,xs[n-1-i]?=some x:=⟨xs[n-1-i]'(by omega),by simp⟩
  obtain⟨u,hu,ru⟩:=rv.get hx;have e:(n:Int)-1-(i:Int)=((n-1-i:Nat):Int):=by omega
  have e2:((n-1-i:Nat):Int)-1=(n:Int)-1-((i+1:Nat):Int):=by omega
  rw[e] at st;have hz:Qr<2 ^ 63:=by decide
  cases b with
  | true =>
   refine JmM (s:=s) st p (by omega) (x:=u) (by simpa using hu) fun h' tk st' sb=>?_
   replace sb:QK r s.heap h':=sb;have I1:Inv X pins σ H { s with heap:=h',toks:=tk }:=I.turned (fun b o hb e=>(sb.2 b hb).trans e) f0 f1 f3 f4 f5;rw[e2] at st';exact⟨u,rfl,JdJ (s:={ s with heap:=h',toks:=tk }) st' rfl rfl (by decide) ⟨x,H,I1,ru,⟨rfl,fun ys hy=>by rw[Sq.inj I hy hq];exact hx⟩,st',fun b hb=>(hf b hb).1⟩⟩
  | false =>
   refine wpAny_pyNext_rev_item (s:=s) st p (x:=u) (by simpa using hu) fun h' st' sb=>?_
   have I1:Inv X pins σ H { s with heap:=h' }:=I.turned (t':=s.toks) (fun b o hb e=>(sb.2 b hb).trans e) f0 f1 f3 f4 f5;rw[e2] at st';obtain⟨o,eo,co,d⟩:=id st';exact⟨u,rfl,JdJ (s:={ s with heap:=h' }) eo co d (by decide) ⟨x,H,I1,ru,⟨rfl,fun ys hy=>by rw[Sq.inj I hy hq];exact hx⟩,st',fun b hb=>(hf b hb).1⟩⟩
 done:=by
  intro X hP hw hK hc i pins s σ H E I hf st hg;subst hP hw hK;obtain⟨f0,f1,f2,f3,f4,f5⟩:=hf r (by simp)
  replace hg:i=n:=hg;have e:(n:Int)-1-(i:Int)=-1:=by omega
  rw[e] at st
  cases b with
  | true=>exact JoT (s:=s) (a:=a) (I.ok.hd hc) st fun h' eb=>⟨rfl,I.turned (t':=s.toks) (fun b o hb e=>eb b o hb e) f0 f1 f3 f4 f5⟩
  | false=>exact wpAny_pyNext_rev_end (s:=s) (I.ok.hd hc) st fun h' eb=>⟨rfl,I.turned (t':=s.toks) (fun b o hb e=>eb b o hb e) f0 f1 f3 f4 f5⟩
 self:=fun _ i s _ _ st h=>by
  cases b with
  | true=>exact JgP (s:=s) st h
  | false=>exact wpAny_pyIter_revIter (s:=s) st h
noncomputable def iRv(K:Qz)(ta:TA):TI:=fun σ H R=>ta σ H fun vs H1=>∃(b:Bool) (a:Qh) (xs:List V),vs=[.ref a]/\Sq b K H1 a xs/\R (Itv K b a xs.length) H1
def Jg7{X:Cx}{K:Qz}{tg:Gu}{a:Gu}{ta:TA}{p pos:Pos}(hK:X.K=K)(hg:Gl X "reversed")(hm:X.mg "reversed"=none)(ha:PA X [a] ta)(hs:starEach [a] X.env=[(false,eval a X.env)]:=by rfl)
:PI X tg (.Call (.Name "reversed" p) [a] [] pos) (iRv K ta):=by
 subst hK;intro pins s σ H R I h;refine Call_ (Y2 I hg hm Jdo (GF (thn (ha pos pins s σ H _ I h) fun us s1 ⟨vs,H1,I1,r1,q1⟩=>?_) (by rw[hs];rfl) (by rfl)));obtain⟨b,a,xs,e,c1,q⟩:=q1;subst e
 cases r1 with
 | cons r rr =>
 cases rr;cases r
 have fresh:∀c∈[s1.heap.objs.size],FpOk X pins H1 c:=fun c hc=>by
  have e:c=s1.heap.objs.size:=by simpa using hc
  subst e;exact I1.fpOk (Qu _) (I1.hok.fresh (Qu _))
 have hz:Qr<2 ^ 63:=by decide
 cases b with
 | true =>
  obtain⟨its,rv,p1,sz⟩:=I1.tuple c1;have hl:=rv.length;refine JlF (s:=s1) (xs:=its.toArray) p1 (by rw[Qt];omega) fun h' tk t1 kp=>JgP (s:={ s1 with heap:=h',toks:=tk }) t1 ?_
  refine⟨_,[s1.heap.objs.size],_,_,H1,rfl,I1.kept (t':=tk) kp,JhE true a _ xs.length sz,?_,fresh,q⟩;show JeY h' s1.heap.objs.size a _;have e:(its.toArray.size:Int)-1=(xs.length:Int)-1-((0:Nat):Int):=by rw[Qt,<- hl];simp
  rw[<- e];exact t1
 | false =>
  obtain⟨its,rv,p1,sz⟩:=I1.list c1;have hl:=rv.length;refine call_reversed_list (s:=s1) p1.isList (wpAny_pyIter_revIter (l:=a) (i:=((its.toArray.size:Int)-1)) ⟨_,Qm _ rfl,rfl,rfl⟩ ?_);refine⟨_,[s1.heap.objs.size],_,_,H1,rfl,I1.kept (t':=s1.toks) fun b o e=>Qi _ e,JhE false a _ xs.length sz,?_,fresh,q⟩;refine⟨_,Qm _ rfl,rfl,?_⟩;have e:(its.toArray.size:Int)-1=(xs.length:Int)-1-((0:Nat):Int):=by rw[Qt,<- hl];simp
  rw[e];rfl
end L2
namespace LE
open PySem L2 LR
noncomputable def Jmf(m:Bool)(as:En->Option (List Sl)):En->Option (List D):=fun E=>(as E).bind fun ss=>match ss with
 | [s]=>(s.it m).map List.reverse
 | _=>none
def JkM(ha:SA K C t ev):SI K C m (iRv K t) (Jmf m ev):=by
 intro B H0 H σ E ds R I e q;obtain⟨ss,e1,e⟩:=bind_some e;split at e
 ·next s =>
  obtain⟨ds1,e2,e⟩:=Q0.mp e;subst e;refine ha B H0 H σ E _ _ I e1 fun vs H1 H1' s1 r1=>?_
  obtain⟨v,rfl,ra⟩:=r1.one;have f:=JN (Hs:=H) s1.i;obtain⟨b1,a1,xs,rfl,k1,w1⟩:=Jh3 ra s1.i e2;have hA:m=true->(if m=true then H1' else B)=H1':=fun h=>if_pos h
  have sA:Same (if m=true then H1' else B) H1':=by
   split
   ·exact Same.refl _
   ·exact I.b.trans s1.h
  have st0:SStep (if m=true then H1' else B) (JU H H1 H1') (JU H H1 H1') H1':=⟨sA,Same.refl _,fun _ _ e=>.inl e,f.i⟩
  refine⟨b1,a1,xs,rfl,k1 _ hA _ _ st0,q _ _ _ (s1.comp f fun _ z=>z) ?_⟩;intro H0' H' st;have q1:=k1 _ hA _ _ st;refine⟨fun i d e=>?_,by rw[Km,w1.1];rfl⟩;have hi:i<ds1.length:=by have:=(Qo.mp e).1;rwa [Km] at this
  rw[LM hi,<- w1.1] at e;obtain⟨x,x1,x2⟩:=w1.get e;refine⟨⟨by rw[w1.1];exact hi,xs,q1,rfl⟩,?_⟩;rintro z H2 ⟨rfl,hv⟩;have h1:=hv xs q1;rw[x1] at h1;cases h1;exact⟨H0',.refl st.i,x2.mono st.z⟩
 ·cases e
end LE
namespace PySem
open AutoSeq1 (wpAny_loadPart')
abbrev enO(it:Qh):Obj:={ cls:=.type "enumerate",data:=.fields #[.none,.bool false,.ref it,rawInt 0,.none,.none] }
def Jik(b:Bool)(a:Qh)(xs:Array Qe):Meets (Builtin.«enumerate.__new__» ⟨[.type "enumerate",.ref a],[]⟩) (fun _ R s=>IsSq b s.heap a xs ∧
 R (.ok (.ret (.ref (s.heap.push (itO b a)).objs.size))) { s with heap:=(s.heap.push (itO b a)).push (enO s.heap.objs.size) }) :=
 .of_wp fun prog w A R s h=>by
  obtain⟨hp,g,d,tk,os⟩:=s;obtain⟨q,h⟩:=h;have hsub:=sub_enumerate;have r:IsSq b (XH ⟨hp,g,d,tk,os⟩) a xs:=q
  obtain⟨o,hl⟩:∃o,hp.get? a=some o:=by
   cases b with
   | true=>obtain⟨o,e,_⟩:=q;exact⟨o,e⟩
   | false=>obtain⟨o,e,_⟩:=q;exact⟨o,e⟩
  wp_walk using LJ hl
  refine wpAny_stack_any fun st=>Qj ?_
  split
  ·rename_i c _ _ _ _ _;cases (c == Value.type "enumerate")
   ·wp_walk using LJ hl,UU r
    exact⟨_,rfl,h⟩
   ·wp_walk using LJ hl,UU r
    exact⟨_,rfl,h⟩
  ·wp_walk using LJ hl,UU r
   exact⟨_,rfl,h⟩
def Ji5(q:IsSq b s.heap a xs)(h:∀h',IsEnum h' (s.heap.objs.size+1) s.heap.objs.size 0 .none->IsItr b h' s.heap.objs.size a 0->(∀c o,s.heap.get? c=some o->h'.get? c=some o)->Q (.ref (s.heap.objs.size+1)) { s with heap:=h' }):
 wpAny (model prog w) A (call (.type "enumerate") [.ref a]) Q E s:=by
 refine callType_new F.called_enumerate (by decide) (F.typeCall_enumerate_1 _) (F.newCall_enumerate_1 _) (fun obj=>F.args_object_init_2 obj _) F.entry_enumerate_new (Jik b a xs) ⟨q,?_⟩;have hz:(s.heap.push (itO b a)).objs.size=s.heap.objs.size+1:=Gy ..;have fi:(itO b a).isFreed=false:=by cases b <;> rfl
 have g2:((s.heap.push (itO b a)).push (enO s.heap.objs.size)).get? (s.heap.push (itO b a)).objs.size=some _:=Qm _ rfl
 have g1:((s.heap.push (itO b a)).push (enO s.heap.objs.size)).get? s.heap.objs.size=some _:=Qi _ (Qm _ fi)
 show _/\_;rw[hz] at g2;rw[hz];exact⟨⟨_,g2,rfl⟩,h _ g2 (.new g1) fun c o x=>Qi _ (Qi _ x)⟩
def Jjm{p:List Qh}{n i:Nat}{P:Nat->Qe->Prop}{S:Nat->Q2->Prop}{old:Qe}{Q:Qe->Qg->Prop}(D:Draws prog w A it p n P S)(he:IsEnum s.heap e it i old)(st:S i s.heap)(hi:i<n)(hne:e∉p)(him:it∈p)
 (hQ:∀x h' tk t,P i x->IsEnumOut h' e it ((i:Int)+1) x s.heap.objs.size->S (i+1) h'->h'.get? s.heap.objs.size=some { cls:=.type "tuple",data:=.seq #[.int i t,x] }->h'.objs.size=s.heap.objs.size+1 ->
  (∀c o,c≠e->c≠it->s.heap.get? c=some o->h'.get? c=some o)->Q (.ref s.heap.objs.size) { s with heap:=h',toks:=tk }) :
 wpAny (model prog w) A (Builtin.«enumerate.__next__» ⟨[.ref e],[]⟩) (fun fin s'=>∃v,fin=.done (.ret v)/\Q v s') E s:=by
 obtain⟨hp,g,d,tk,os⟩:=s;have ne:e≠it:=fun q=>hne (q▸him)
 show wpAny _ _ (field (.ref e) 2 >>= _) _ _ _;refine Qa (Q5 he rfl (x:=.ref it) rfl (Qa (D.item i _ _ _ hi st fun x k1 t1 px s1 e1=>?_)))
 replace e1:QK it hp k1:=e1;have E1:IsEnum k1 e it i old:=(e1.2 e ne).trans he;refine Qa (Q5 (s:=⟨k1,g,d,t1,os⟩) E1 rfl (x:=rawInt i) rfl ?_);show wpAny _ _ (field (.ref e) 4 >>= _) _ _ ⟨k1,g,d,t1,os⟩;refine Qa (Q5 (s:=⟨k1,g,d,t1,os⟩) E1 rfl (x:=.none) rfl ?_);show wpAny _ _ (mkInt i >>= _) _ _ ⟨k1,g,d,t1,os⟩;refine Qa (wpAny_mkInt ?_);show wpAny _ _ (setField (.ref e) 3 (rawInt ((i:Int)+1)) >>= _) _ _ ⟨k1,g,d,t1+1,os⟩
 refine Qa (Gs E1 (by simp) fun k2 E2 e2=>?_)
 replace e2:QK e k1 k2:=e2
 replace E2:IsEnum k2 e it ((i:Int)+1) old:=E2;show wpAny _ _ (setField (.ref e) 4 .none >>= _) _ _ ⟨k2,g,d,t1+1,os⟩;refine Qa (Gs E2 (by simp) fun k3 E3 e3=>?_)
 replace e3:QK e k2 k3:=e3
 replace E3:IsEnum k3 e it ((i:Int)+1) old:=E3;show wpAny _ _ (newTuple [.int i t1,x] >>= _) _ _ ⟨k3,g,d,t1+1,os⟩;refine Qa (Mr ?_);have hsz:k3.objs.size=hp.objs.size:=by rw[e3.1,e2.1,e1.1]
 have elt:e<hp.objs.size:=Qn he
 have E4:IsEnum (k3.push { cls:=.type "tuple",data:=.seq #[.int i t1,x] }) e it ((i:Int)+1) old:=Qi _ E3
 have T4:(k3.push { cls:=.type "tuple",data:=.seq #[.int i t1,x] }).get? hp.objs.size=some { cls:=.type "tuple",data:=.seq #[.int i t1,x] }:=by rw[<- hsz];exact Qm _ rfl
 have z4:(k3.push { cls:=.type "tuple",data:=.seq #[.int i t1,x] }).objs.size=hp.objs.size+1:=by rw[Gy,hsz]
 have kp:∀c o,c≠e->k1.get? c=some o->(k3.push { cls:=.type "tuple",data:=.seq #[.int i t1,x] }).get? c=some o:=fun c o c1 q=>Qi _ (e3.extBut c o c1 (e2.extBut c o c1 q))
 show wpAny _ _ (QY (.ref e) >>= _) _ _ ⟨k3.push { cls:=.type "tuple",data:=.seq #[.int i t1,x] },g,d,t1+1,os⟩;rw[hsz]
 generalize k3.push { cls:=.type "tuple",data:=.seq #[.int i t1,x] }=k4 at E4 T4 z4 kp ⊢
 refine Qa ?_;unfold QY;refine Qa (Q5 (s:=⟨k4,g,d,t1+1,os⟩) E4 rfl (x:=.none) rfl (Qj ?_));simp only[if_true];refine Qa (KG (Qa (Q5 (s:=⟨k4,g,d,t1+1,os⟩) E4 rfl (x:=old) rfl (Qa (Gs E4 (by simp) fun k5 E5 e5=>?_)))))
 replace e5:QK e k4 k5:=e5
 replace E5:IsEnum k5 e it ((i:Int)+1) x:=E5;show wpAny _ _ (Kn (.ref e) (.ref hp.objs.size) >>= _) _ _ ⟨k5,g,d,t1+1,os⟩;refine Qa ?_;unfold Kn;refine Qa (Gs E5 (by simp) fun k6 E6 e6=>?_)
 replace e6:QK e k5 k6:=e6
 replace E6:IsEnumOut k6 e it ((i:Int)+1) x hp.objs.size:=E6;refine Gs E6 (by simp) fun k7 E7 e7=>?_
 replace e7:QK e k6 k7:=e7
 replace E7:IsEnumOut k7 e it ((i:Int)+1) x hp.objs.size:=E7;have up:∀c o,c≠e->k4.get? c=some o->k7.get? c=some o:=fun c o c1 q=>e7.extBut c o c1 (e6.extBut c o c1 (e5.extBut c o c1 q))
 refine Qa (Le (Qj ⟨_,rfl,hQ x k7 (t1+1) t1 px E7 ?_ (up _ _ (Gn elt) T4) (by rw[e7.1,e6.1,e5.1,z4]) fun c o c1 c2 q=>up c o c1 (kp c o c1 (e1.extBut c o c2 q))⟩));exact D.frame _ _ _ s1 fun c hc o q=>up c o (fun z=>hne (z▸hc)) (kp c o (fun z=>hne (z▸hc)) q)
def JlN(D:Draws prog w A it p n P S)(he:IsEnum s.heap e it n old)(st:S n s.heap)(hE:∀h' x tk,Lf it s.heap h'->(∃o,h'.get? x=some o/\o.cls=.type "StopIteration")->E (.ref x) { s with heap:=h',toks:=tk }):
 wpAny (model prog w) A (Builtin.«enumerate.__next__» ⟨[.ref e],[]⟩) Q E s:=by
 show wpAny _ _ (field (.ref e) 2 >>= _) _ _ _;refine Qa (Q5 he rfl (x:=.ref it) rfl (Qa (D.done _ _ _ st fun k1 x e1 hx=>?_)));exact hE k1 x s.toks e1 hx
end PySem
namespace L2
open PySem PySem.Spec PyProof.Rows
noncomputable def Ite(K:Qz)(b:Bool)(a:Qh):It :=
 ⟨fun i H=>∃xs x,Sq b K H a xs/\xs[i]?=some x,
  fun i H x H'=>∃p v,x=.ref p/\H p=none/\H'=upd H p (.tup [.int i,v])/\∀xs,Sq b K H a xs->xs[i]?=some v,
  fun i H=>∃xs,Sq b K H a xs/\i=xs.length⟩
def JnQ{P:Qy}{w:QP}{K:Qz}{elts:List Gu}{kk:Nat}{pos:Pos}(b:Bool)(a e it:Qh)(ne:e≠it) :
 Turn P w K (.Tuple elts kk pos) (Ite K b a) [e,it] e (fun i h=>(∃old,IsEnum h e it i old)/\IsItr b h it a i) where
 mem:=by simp
 obj:=fun i h st c hc=>by
  obtain⟨⟨old,s1⟩,s2⟩:=st;simp only[Qk,Gd,or_false] at hc;rcases hc with rfl|rfl
  ·exact⟨_,s1,fun v z=>nomatch (show Data.fields _=Data.cell v from z)⟩
  ·exact IsItr.obj (b:=b) s2
 keep:=fun i h h' st k=>by obtain⟨⟨old,s1⟩,s2⟩:=st;exact⟨⟨old,k e (by simp) _ s1⟩,IsItr.keep (b:=b) s2 fun o q=>k it (by simp) o q⟩
 item:=by
  intro X hP hw hK hc i pins s σ H E I hf st hg;subst hP hw hK;obtain⟨xs,x,q1,e1⟩:=hg;obtain⟨its,r1,p1⟩:=q1.heap I;obtain⟨⟨old,s1⟩,s2⟩:=st;have hh:X.A.in1.handled=none:=I.ok.hd hc;have ne1:a≠it:=FpOk.off I q1 (hf it (by simp));have ne2:a≠e:=FpOk.off I q1 (hf e (by simp));have D1:=Draws.sq (prog:=X.prog) (w:=X.w) (b:=b) (xs:=its.toArray) hh it ne1;have hT:s.TypeIs (.ref e) "enumerate":=⟨_,s1,rfl⟩
  have l1:i<its.toArray.size:=by have:=(Qo.mp e1).1;rw[Qt,<- r1.length];exact this
  unfold pyNext;refine Qa (G9 (QX (name:=Go "__next__") hT LN (Q7 LN hT F.entry_enumerate_next
   (Jjm D1 s1 ⟨s2,p1⟩ l1 (by simp[ne,Q3 ne2]) (by simp) fun u k tk t pu t1 t2 t3 t4 t5=>Qj ?_) (Rv _))))
  refine⟨_,rfl,wpAny_letOwnedTupleGo_enum (s:={ s with heap:=k,toks:=tk }) t1 fun k2 t9 e9=>?_⟩
  replace e9:QK e k k2:=e9;obtain⟨ux,hx1,rx⟩:=r1.get e1
  have eu:u=ux:=by
   have pu':its[i]?=some u:=by simpa using pu
   rw[hx1] at pu';exact(QS pu').symm
  subst eu
  have elt:∀c∈[e,it],c<s.heap.objs.size:=fun c hc=>by
   simp only[Qk,Gd,or_false] at hc;rcases hc with rfl|rfl
   ·exact Qn s1
   ·obtain⟨_,q,_⟩:=IsItr.obj (b:=b) s2;exact Qn q
  have ri:RelV (.int i) (.int i t):=⟨t,rfl⟩
  have I1:Inv X pins σ (upd H s.heap.objs.size (.tup [.int i,x])) { s with heap:=s.heap.push { cls:=.type "tuple",data:=.seq #[.int i t,u] },toks:=s.toks } :=
   I.laid (o:=.tup [.int i,x]) (fun c ob q=>Qi _ q) (Qu _) ⟨by show 2<=Qr;decide,[.int i t,u],.cons ri (.cons rx .nil),⟨_,Qm _ rfl,rfl,_,rfl⟩⟩
  have hf1:∀c∈[e,it],FpOk X pins (upd H s.heap.objs.size (.tup [.int i,x])) c:=fun c hc=>⟨by rw[Je (QF (elt c hc))];exact(hf c hc).1,(hf c hc).2⟩
  have I2:Inv X pins σ (upd H s.heap.objs.size (.tup [.int i,x])) { s with heap:=k2,toks:=tk }:=Inv.turnedL (s:={ s with heap:=s.heap.push { cls:=.type "tuple",data:=.seq #[.int i t,u] },toks:=s.toks }) I1 (fun c o hc q=>by
   simp only[Qk,Gd,or_false,not_or] at hc;refine e9.extBut c o hc.1 ?_
   by_cases hcs:c=s.heap.objs.size
   ·subst hcs;have q':(s.heap.push { cls:=.type "tuple",data:=.seq #[.int i t,u] }).get? s.heap.objs.size=some o:=q;rw[Qm _ rfl] at q';cases q';exact t3
   ·have q':s.heap.get? c=some o:=by have q2:(s.heap.push { cls:=.type "tuple",data:=.seq #[.int i t,u] }).get? c=some o:=q;exact(M9 s.heap c _ hcs).symm.trans q2
    exact t5 c o hc.1 hc.2 q') hf1
  refine⟨.ref s.heap.objs.size,_,I2,rfl,⟨_,x,rfl,I.hok.fresh (Qu _),rfl,fun xs' h1=>?_⟩,⟨⟨u,?_⟩,?_⟩,fun c hc=>(hf1 c hc).1⟩
  ·rw[Sq.inj I h1 q1];exact e1
  ·have ei:((i+1:Nat):Int)=(i:Int)+1:=by omega
   rw[ei];exact t9
  ·exact IsItr.keep (b:=b) t2.1 fun o q=>e9.extBut _ _ (Q3 ne) q
 done:=by
  intro X hP hw hK hc i pins s σ H E I hf st hg;subst hP hw hK;obtain⟨xs,q1,ei⟩:=hg;obtain⟨its,r1,p1⟩:=q1.heap I;obtain⟨⟨old,s1⟩,s2⟩:=st;have hh:X.A.in1.handled=none:=I.ok.hd hc;have D1:=Draws.sq (prog:=X.prog) (w:=X.w) (b:=b) (xs:=its.toArray) hh it (FpOk.off I q1 (hf it (by simp)));have hT:s.TypeIs (.ref e) "enumerate":=⟨_,s1,rfl⟩
  have n1:i=its.toArray.size:=by rw[Qt,<- r1.length];exact ei
  subst n1;unfold pyNext;refine Qa (G9 (QX (name:=Go "__next__") hT LN (Q7 LN hT F.entry_enumerate_next (JlN D1 s1 ⟨s2,p1⟩ fun k x tk kk he=>?_) (Rv _))));obtain⟨o,ho,hoc⟩:=he;refine Qa (KH (T:="StopIteration") (b:=true) ⟨o,ho,hoc⟩ LX (Qj ⟨rfl,?_⟩));exact I.turnedL (fun c o hc q=>by simp only[Qk,Gd,or_false,not_or] at hc;exact kk c o hc.2 q) hf
 self:=fun _ _ _ _ _ st h=>by obtain⟨⟨old,s1⟩,_⟩:=st;exact wpAny_pyIter_enum s1 h
noncomputable def iEn(K:Qz)(ta:TA):TI:=fun σ H R=>ta σ H fun vs H1=>∃(b:Bool) (a:Qh) (xs:List V),vs=[.ref a]/\Sq b K H1 a xs/\R (Ite K b a) H1
def WC{X:Cx}{K:Qz}{elts:List Gu}{kk:Nat}{tpos:Pos}{a:Gu}{ta:TA}{p pos:Pos}(hK:X.K=K)(hg:Gl X "enumerate")(hm:X.mg "enumerate"=none)(ha:PA X [a] ta)(hs:starEach [a] X.env=[(false,eval a X.env)]:=by rfl)
:PI X (.Tuple elts kk tpos) (.Call (.Name "enumerate" p) [a] [] pos) (iEn K ta):=by
 subst hK;intro pins s σ H R I h;refine Call_ (Y2 I hg hm JbZ (GF (thn (ha pos pins s σ H _ I h) fun us s1 ⟨vs,H1,I1,r1,q1⟩=>?_) (by rw[hs];rfl) (by rfl)));obtain⟨b,a,xs,e,c1,q⟩:=q1;subst e
 cases r1 with
 | cons r rr =>
 cases rr;cases r;obtain⟨its,w1,p1⟩:=c1.heap I1;refine Ji5 p1 fun h' t1 t2 kp=>wpAny_pyIter_enum t1 ?_
 refine⟨_,[s1.heap.objs.size+1,s1.heap.objs.size],_,_,H1,rfl,I1.kept (t':=s1.toks) kp,JnQ b a _ _ (by simp),⟨⟨_,t1⟩,t2⟩,fun c hc=>?_,q⟩
 have hle:s1.heap.objs.size<=c:=by simp only[Qk,Gd,or_false] at hc;rcases hc with rfl|rfl <;> first|exact Qu _|exact MA _ _
 exact I1.fpOk hle (I1.hok.fresh hle)
end L2
namespace LE
open PySem L2 LR
noncomputable def Jdz(ds:List D):List D:=ds.mapIdx fun i d=>.tup [.int i,d]
noncomputable def JbA(m:Bool)(as:En->Option (List Sl)):En->Option (List D):=fun E=>(as E).bind fun ss=>match ss with
 | [s]=>(s.it m).map Jdz
 | _=>none
def Jnp(ha:SA K C t ev):SI K C m (iEn K t) (JbA m ev):=by
 intro B H0 H σ E ds R I e q;obtain⟨ss,e1,e⟩:=bind_some e;split at e
 ·next s =>
  obtain⟨ds1,e2,e⟩:=Q0.mp e;subst e;refine ha B H0 H σ E _ _ I e1 fun vs H1 H1' s1 r1=>?_
  obtain⟨v,rfl,ra⟩:=r1.one;have f:=JN (Hs:=H) s1.i;obtain⟨b1,a1,xs,rfl,k1,w1⟩:=Jh3 ra s1.i e2;have hA:m=true->(if m=true then H1' else B)=H1':=fun h=>if_pos h
  have sA:Same (if m=true then H1' else B) H1':=by
   split
   ·exact Same.refl _
   ·exact I.b.trans s1.h
  have st0:SStep (if m=true then H1' else B) (JU H H1 H1') (JU H H1 H1') H1':=⟨sA,Same.refl _,fun _ _ e=>.inl e,f.i⟩
  refine⟨b1,a1,xs,rfl,k1 _ hA _ _ st0,q _ _ _ (s1.comp f fun _ z=>z) ?_⟩;intro H0' H' st;have q1:=k1 _ hA _ _ st;refine⟨fun i d e=>?_,⟨xs,q1,by unfold Jdz;rw[MY,w1.1]⟩⟩;unfold Jdz at e;rw[QJ] at e;obtain⟨d1,g1,e⟩:=Q0.mp e;subst e;obtain⟨x,x1,x2⟩:=w1.get g1;refine⟨⟨xs,x,q1,x1⟩,?_⟩;rintro z H2 ⟨p,v',rfl,hp,rfl,hv⟩;have h1:=hv xs q1;rw[x1] at h1;cases h1;have h0:H0' p=none:=Same.free st.i hp
  refine⟨upd H0' p (.tup [.int i,x]),⟨.new hp,.new h0,fun a o e=>?_,fun a o e=>?_⟩,?_⟩
  ·by_cases h:a=p
   ·subst h;exact .inr (.inl hp)
   ·rw[Je h] at e;exact .inl e
  ·by_cases h:a=p
   ·subst h;rw[Jl] at e ⊢;exact e
   ·rw[Je h] at e ⊢;exact st.i a o e
  ·exact .mkT (.of Jl) (.cons (.int _) (.cons (x2.mono (st.z.trans (.new h0))) .nil))
 ·cases e
def Ws{α:Type}(f:α->D)(xs:List α):Jdz (xs.map f)=xs.mapIdx fun i x=>.tup [.int i,f x]:=by
 unfold Jdz;refine GJ fun i=>?_
 rw[QJ,QJ,Qq,KM];rfl
end LE
namespace L2
open PySem PySem.Spec PyProof.Rows
noncomputable def JV(ns:List Int):List Int:=ns.mergeSort (fun a b=>decide (a<=b))
def JI(ns:List Int):(JV ns).Perm ns:=List.mergeSort_perm _ _
def Up(ns:List Int):(JV ns).Pairwise (·<=·):=by have h:=List.pairwise_mergeSort (le:=fun a b:Int=>decide (a<=b)) (by intro a b c h1 h2;simp only[decide_eq_true_eq] at *;omega) (by intro a b;simp only[LI,decide_eq_true_eq];omega) ns;exact h.imp fun {a b} h=>by simpa using h
theorem Uf:∀{xs ys:List Int},xs.Perm ys->xs.Pairwise (·<=·)->ys.Pairwise (·<=·)->xs=ys
 | [],ys,p,_,_=>by rw[List.Perm.nil_eq p]
 | x::xs,ys,p,h1,h2=>by
  cases ys with
  | nil=>exact absurd p.symm (by simp)
  | cons y ys =>
   obtain⟨a1,a2⟩:=QL.mp h1;obtain⟨b1,b2⟩:=QL.mp h2
   have e:x=y:=by
    have hx:x∈y::ys:=p.mem_iff.mp Qf
    have hy:y∈x::xs:=p.mem_iff.mpr Qf;rcases Qk.mp hx with z|z
    ·exact z
    ·rcases Qk.mp hy with w|w
     ·exact w.symm
     ·have:=a1 y w
      have:=b1 x z;omega
   subst e;rw[Uf (List.Perm.cons_inv p) a2 b2]
noncomputable def JcQ(K:Qz):List V->Hp->VK->Prop:=fun xs H Q=>∃(a:Qh) (ns:List Int),xs=[.ref a]/\SqL K H a (ns.map V.int)/\ns.length<64/\∀l,H l=none->Q (.ref l) (upd H l (.lst ((JV ns).map V.int)))
def Y8:∀{ns:List Int} {us:List Qe},IntsAre us ns->Vals (ns.map V.int) us:=by
 intro ns us h
 induction h with
 | nil=>exact .nil
 | cons _ _ _ ih=>exact .cons ⟨_,rfl⟩ ih
def Jb3:Yo X (.builtin "sorted") (JcQ X.K):=by
 intro pins s σ H xs us Q I r h;obtain⟨p,ns,rfl,hq,hl,q⟩:=h;obtain⟨u,rfl,rx⟩:=Vd r;cases rx;obtain⟨its,r',pl,hz⟩:=I.list hq;have hlen:=r'.length;rw[Qp] at hlen hz;refine sorted_ints pl.isList (Yw r') (by omega) fun out ns' a1 a2 a3=>?_
 have es:ns'=JV ns:=Uf (a2.trans (JI ns).symm) a3 (Up ns);subst es;obtain⟨e,he⟩:=sortedAll_at s.heap its out
 have hn:((JV ns).map V.int).length<=Qr:=by rw[Qp,(JI ns).length_eq];exact hz
 have hne:H (s.heap.objs.size+1)=none:=I.hok.fresh (KY _);refine⟨.ref (s.heap.objs.size+1),_,I.laid (t':=s.toks) (fun b o x=>sortedAll_old x) (KY _) (show ObjOk X.prog X.w _ _ _ (.lst ((JV ns).map V.int)) from⟨hn,out.toList,e,Y8 a1,?_⟩),rfl,q _ hne⟩;rw[he]
def Jb2{X:Cx}{K:Qz}(hK:X.K=K)(hc:X.calm=true):Yo X (.builtin "sorted") (JcQ K):=hK▸Jb3
end L2
namespace LE
open PySem L2 LR
noncomputable def Zz:List Sl->Option Sl
 | [s]=>s.r.bind fun ds=>(ints? ds).bind fun ns=>if ns.length<64 then some (.own ((JV ns).map .int)) else none
 | _=>none
def JaD(ns:List Int):RDL K C H (ns.map V.int) (ns.map D.int):=by refine⟨by simp,fun i x d h1 h2=>?_⟩;rw[Qq] at h1 h2;obtain⟨n,e,rfl⟩:=Q0.mp h1;rw[e] at h2;cases h2;exact .int n
def Ji4:VW K C (JcQ K) Zz:=by
 intro Hs H0 H xs as c Q i hs r e q;unfold Zz at e;split at e
 ·obtain⟨v,rfl,r0⟩:=r.one;obtain⟨ds,e1,e⟩:=bind_some e;obtain⟨ns,e2,e⟩:=bind_some e;split at e
  ·next hn=>cases e;obtain⟨l,ys,rfl,h,r1⟩:=r0.r i e1;rw[YA e2] at r1;have:=r1.ints;subst this;exact⟨l,ns,rfl,h,hn,fun p hp=>YY i hs hp (JaD _) q⟩
  ·cases e
 ·cases e
end LE
namespace L2
open PySem PySem.Spec PyProof.Rows
noncomputable def Wj(X:Cx)(f:Qe)(nm:Str)(z:V)(r:List V->Hp->VK->Prop):Prop :=
 ∀(pins:List (Qh×Obj)) (s:Qg) (σ:St) (H:Hp) (xs:List V) (us:List Qe) (w:Qe) (Q:VK),Inv X pins σ H s->Vals xs us->RelV z w->r xs H Q->wpAny (model X.prog X.w) X.A (call f us [(nm,w)]) (EP X pins σ Q) X.xe s
def W5{X:Cx}{id:String}{nm x:Str}{z:V}{r:List V->Hp->VK->Prop}{e ek:Gu}{es:List Gu}{t:TA}{p pos kpos:Pos}(hc:Wj X (.builtin id) nm z r)(hg:Gl X x)(hm:X.mg x=none)(hv:bootBuiltins x=some (.builtin id))(ha:PA X (e::es) t)(hk:PE X ek (tC z))
 (hn:x≠"__name__":=by decide) (hdb:(x == ("__debug__":Str))=false:=by decide)
 (he:backTo pos (starEach (e::es) X.env)=(false,eval e X.env)::backTo pos (starEach es X.env):=by rfl) (hpl:(backTo pos (starEach (e::es) X.env)).any (·.1)=false:=by rfl):PE X (.Call (.Name x p) (e::es) [⟨some nm,ek,kpos⟩] pos) (tCB r t):=by
 intro pins s σ H Q I h;refine K4 (Y2 I hg hm hv ?_ hn hdb);refine callWith_kw (thn (ha pos pins s σ H _ I h) fun us s1 ⟨vs,H1,I1,r1,q1⟩=>?_) he hpl rfl rfl;refine kws_cons (thn (hk pins s1 σ H1 (fun v H2=>v=z/\r vs H2 Q) I1 ⟨rfl,q1⟩) fun w s2 ⟨v,H2,I2,rz,e2,q2⟩=>kws_nil ?_);subst e2;exact hc pins s2 σ H2 vs us w Q I2 r1 rz q2
noncomputable def JaC(K:Qz):List V->Hp->VK->Prop:=fun xs H Q=>∃(a:Qh) (ns:List Int),xs=[.ref a]/\SqL K H a (ns.map V.int)/\ns.length<64/\∀l,H l=none->Q (.ref l) (upd H l (.lst ((JV ns).reverse.map V.int)))
def Jb4:Wj X (.builtin "sorted") "reverse" (.bl true) (JaC X.K):=by
 intro pins s σ H xs us w Q I r rz h;obtain⟨p,ns,rfl,hq,hl,q⟩:=h;obtain⟨u,rfl,rx⟩:=Vd r;cases rx;cases rz;obtain⟨its,r',pl,hz⟩:=I.list hq;have hlen:=r'.length;rw[Qp] at hlen hz;refine sorted_ints_rev pl.isList (Yw r') (by omega) fun out ns' a1 a2 a3=>?_
 have a3':ns'.Pairwise (· ≥ ·):=a3
 have es:ns'.reverse=JV ns:=Uf ((Rb ns').trans (a2.trans (JI ns).symm)) (RU.mpr (a3'.imp fun {a b} h=>h)) (Up ns)
 have es':ns'=(JV ns).reverse:=by rw[<- es,KN]
 subst es';obtain⟨e,he⟩:=sortedAll_at s.heap its out;have hn:((JV ns).reverse.map V.int).length<=Qr:=by rw[Qp,Km,(JI ns).length_eq];exact hz
 have hne:H (s.heap.objs.size+1)=none:=I.hok.fresh (KY _);refine⟨.ref (s.heap.objs.size+1),_,I.laid (t':=s.toks) (fun b o x=>sortedAll_old x) (KY _) (show ObjOk X.prog X.w _ _ _ (.lst ((JV ns).reverse.map V.int)) from⟨hn,out.toList,e,Y8 a1,?_⟩),rfl,q _ hne⟩;rw[he]
def JaX{X:Cx}{K:Qz}(hK:X.K=K):Wj X (.builtin "sorted") "reverse" (.bl true) (JaC K):=hK▸Jb4
end L2
namespace LE
open PySem L2 LR
noncomputable def Vm:List Sl->Option Sl
 | [s]=>s.r.bind fun ds=>(ints? ds).bind fun ns=>if ns.length<64 then some (.own ((JV ns).reverse.map .int)) else none
 | _=>none
def JhL:VW K C (JaC K) Vm:=by
 intro Hs H0 H xs as c Q i hs r e q;unfold Vm at e;split at e
 ·obtain⟨v,rfl,r0⟩:=r.one;obtain⟨ds,e1,e⟩:=bind_some e;obtain⟨ns,e2,e⟩:=bind_some e;split at e
  ·next hn=>cases e;obtain⟨l,ys,rfl,h,r1⟩:=r0.r i e1;rw[YA e2] at r1;have:=r1.ints;subst this;exact⟨l,ns,rfl,h,hn,fun p hp=>YY i hs hp (JaD _) q⟩
  ·cases e
 ·cases e
end LE
namespace PySem
def Jd5(a v:Qe):argsOk "min" ⟨[a],[(Go "default",v)]⟩:=by unfold argsOk;kernel_rfl
def Jil(W:Walks prog w A.in1 I fp wr n P St)(bt:Nat->Nat->Bool)(cm:CmpOf prog w A.in1 .Lt P bt)(S:Qh)(nS:S∉fp)(d:Qe) :
 ∀(k j:Nat) (s:Qg) (c:Nat) (arr:Array Qe),n-j=k->j<=n->St j s.heap->((j=0/\arr=#[])\/∃vb,0<j/\arr=#[vb,vb]/\P (argBest bt (j-1)) vb) ->
 s.heap.get? S=some { cls:=.type "list",dict:=none,data:=.seq arr c,slots:=#[] } ->
 (n=0->∀h' tk,(∀b o,b∉wr->b≠S->s.heap.get? b=some o->h'.get? b=some o)->R (.ok (.ret d)) { s with heap:=h',toks:=tk }) ->
 (0<n->∀v h' tk,P (argBest bt (n-1)) v->(∀b o,b∉wr->b≠S->s.heap.get? b=some o->h'.get? b=some o)->R (.ok (.ret v)) { s with heap:=h',toks:=tk }) ->
 codeAny (model prog w) A (.builtin "min.loop" ⟨[.ref I,.none,.ref S],[(Go "default",d)]⟩) R s:=by
 have nW:S∉wr:=fun h=>nS (W.sub _ h)
 have nm:(toString "min"++toString ".loop":String)="min.loop":=by decide
 intro k
 induction k with
 | zero =>
  intro j s c arr hk hj st best hS h0 h1;have ej:j=n:=by omega
  subst ej;refine Ku F.entry_min_loop ?_;rw[GZ Ls _];rcases best with ⟨e0,rfl⟩|⟨vb,jp,rfl,pb⟩
  ·show wpAny _ A.in1 (seqItems? (.ref S) >>= _) _ _ s;refine Qa (GR hS rfl (show wpAny _ A.in1 (tryCatch (pyNext (.ref I)) _ >>= _) _ _ s from Qa (Ms (W.done s _ _ st fun h' tk hk'=>?_))));exact Qa (KG (Qj (h0 e0 h' tk fun b o b1 _ e=>hk' b o b1 e)))
  ·show wpAny _ A.in1 (seqItems? (.ref S) >>= _) _ _ s;refine Qa (GR hS rfl (show wpAny _ A.in1 (tryCatch (pyNext (.ref I)) _ >>= _) _ _ s from Qa (Ms (W.done s _ _ st fun h' tk hk'=>?_))))
   have hS':=hk' S _ nW hS
   show wpAny _ A.in1 (updateSeq S (fun _=>#[]) >>= _) _ _ _;refine Qa (KC hS' rfl (Qa (Le (Qj ?_))));exact h1 jp vb _ tk pb fun b o b1 b2 e=>(Q8 _ _ (Q3 b2)).trans (hk' b o b1 e)
 | succ k ih =>
  intro j s c arr hk hj st best hS h0 h1;have lt:j<n:=by omega
  refine Ku F.entry_min_loop ?_;rw[GZ Ls _];have nz:n=0->∀{s':Qg} h' tk,(∀b o,b∉wr->b≠S->s'.heap.get? b=some o->h'.get? b=some o)->R (.ok (.ret d)) { s' with heap:=h',toks:=tk }:=fun z=>absurd z (by omega)
  rcases best with ⟨e0,rfl⟩|⟨vb,jp,rfl,pb⟩
  ·subst e0;show wpAny _ A.in1 (seqItems? (.ref S) >>= _) _ _ s;refine Qa (GR hS rfl (show wpAny _ A.in1 (tryCatch (pyNext (.ref I)) _ >>= _) _ _ s from Qa (Ms (W.item 0 s _ _ lt st fun v h' tk pv st' hk'=>?_))));have hS':=hk' S _ nW hS;show wpAny _ A.in1 (updateSeq S (fun _=>#[v,v]) >>= _) _ _ _;refine Qa (KC hS' rfl ?_);rw[nm];refine Qj ⟨Kq Ls _,ih 1 _ _ _ (by omega) (by omega) (W.frame _ _ _ st' fun b bf o e=>?_) (.inr ⟨v,by omega,rfl,pv⟩) (Gr _ hS' rfl) (fun z=>nz z) fun np v' h2 t2 pv' k2=>?_⟩
   ·exact(Q8 _ _ (fun h:S=b=>nS (by rw[h];exact bf))).trans e
   ·exact h1 np v' h2 t2 pv' fun b o b1 b2 e=>k2 b o b1 b2 ((Q8 _ _ (Q3 b2)).trans (hk' b o b1 e))
  ·show wpAny _ A.in1 (seqItems? (.ref S) >>= _) _ _ s;refine Qa (GR hS rfl (show wpAny _ A.in1 (tryCatch (pyNext (.ref I)) _ >>= _) _ _ s from Qa (Ms (W.item j s _ _ lt st fun v h' tk pv st' hk'=>?_))))
   have hS':=hk' S _ nW hS
   have ea:argBest bt j=if bt j (argBest bt (j-1))=true then j else argBest bt (j-1):=by
    obtain⟨i,rfl⟩:∃i,j=i+1:=⟨j-1,by omega⟩
    rfl
   show wpAny _ A.in1 (tryCatch (holding [v,v] (richCompare .Lt v vb >>= _)) _ >>= _) _ _ _;refine Qa (Ms (GO (Qa (cm j (argBest bt (j-1)) v vb _ _ _ pv pb (Qa (GO (LP (Qa (Le (Qj ?_))))))))))
   cases hb:bt j (argBest bt (j-1)) with
   | true =>
    simp only[if_true];refine Qa (KC hS' rfl (Qa (Le ?_)));rw[nm];refine Qj ⟨Kq Ls _,ih (j+1) _ _ _ (by omega) (by omega) (W.frame _ _ _ st' fun b bf o e=>?_) (.inr ⟨v,by omega,rfl,?_⟩) (Gr _ hS' rfl) (fun z=>nz z) fun np v' h2 t2 pv' k2=>?_⟩
    ·exact(Q8 _ _ (fun h:S=b=>nS (by rw[h];exact bf))).trans e
    ·rw[Nat.add_sub_cancel,ea,hb,if_pos rfl];exact pv
    ·exact h1 np v' h2 t2 pv' fun b o b1 b2 e=>k2 b o b1 b2 ((Q8 _ _ (Q3 b2)).trans (hk' b o b1 e))
   | false =>
    simp only[Kh,if_false];refine Qa (Le ?_);rw[nm];refine Qj ⟨Kq Ls _,ih (j+1) _ c _ (by omega) (by omega) st' (.inr ⟨vb,by omega,rfl,?_⟩) hS' (fun z=>nz z) fun np v' h2 t2 pv' k2=>?_⟩
    ·rw[Nat.add_sub_cancel,ea,hb,if_neg QH];exact pb
    ·exact h1 np v' h2 t2 pv' fun b o b1 b2 e=>k2 b o b1 b2 (hk' b o b1 e)
def Jd6(hh:A.handled=none)(hl:s.heap.IsList l (intItems xs))(h0:xs.size=0->∀h' tk,(∀b o,s.heap.get? b=some o->h'.get? b=some o)->Q d { s with heap:=h',toks:=tk })(h1:0<xs.size->∀v h' tk,(intItems xs)[argBest (fun i j=>decide (numAt xs i<numAt xs j)) (xs.size-1)]?=some v->(∀b o,s.heap.get? b=some o->h'.get? b=some o)->Q v { s with heap:=h',toks:=tk }):
 wpAny (model prog w) A (call (.builtin "min") [.ref l] [(Go "default",d)]) Q E s:=by
 have nm:(toString "min"++toString ".loop":String)="min.loop":=by decide
 have sz:(intItems xs).size=xs.size:=by simp[intItems]
 refine PyProof.Rows.kmk_tree F.kind_min F.plain_min F.entry_min (Jd5 _ _) ?_;show wpAny _ A.in1 (MO "min" ["key","default"] 0 ⟨[],[(Go "default",d)]⟩ >>= _) _ _ s;refine Qa (KZ (show MO "min" ["key","default"] 0 ⟨[],[(Go "default",d)]⟩=pure [none,some d] from rfl) ?_);refine Qa (Qj ?_);refine Qa (iter_intList hl fun s₂ e st hfp hlI=>?_);subst e;refine Qa (Ge ?_)
 rw[nm];have W:=Walks.list (prog:=prog) (w:=w) (A:=A.in1) hh _ l hlI (intItems xs);have fpS:(s.heap.push { cls:=.type "list_iterator",data:=.fields #[.ref l,.int 0 0] }).objs.size∉[s.heap.objs.size,l]:=fun hm=>Gh _ (hfp _ hm)
 refine Qj ⟨Kq Ls _,Jil W (fun i j=>decide (numAt xs i<numAt xs j)) (CmpOf.ints_lt (numAt xs) (fun _ _=>intItems_at)) _ fpS d _ 0 _ _ #[] rfl (GL _) (W.frame _ _ _ st fun b _ o e=>Qi _ e) (.inl ⟨rfl,rfl⟩) (Qm _ rfl) (fun z h' tk k=>?_) fun z v h' tk pv k=>?_⟩
 ·exact h0 (by rw[<- sz];exact z) h' tk (old_kept fun b o b1 e=>k b o b1 (QF (Qn e)) (Qi _ e))
 ·exact h1 (by rw[<- sz];exact z) v h' tk (by rw[sz] at pv;exact pv) (old_kept fun b o b1 e=>k b o b1 (QF (Qn e)) (Qi _ e))
end PySem
namespace L2
open PySem PySem.Spec PyProof.Rows
noncomputable def JkA(K:Qz):List V->Hp->VK->Prop:=fun xs H Q=>∃(a:Qh) (ns:List Int),xs=[.ref a]/\SqL K H a (ns.map V.int)/\(ns=[]->Q .non H)/\∀M,M∈ns->(∀b,b∈ns->M<=b)->Q (.int M) H
def JhS(hc:X.calm=true):Wj X (.builtin "min") "default" .non (JkA X.K):=by
 intro pins s σ H xs us w Q I r rz h;obtain⟨a,ns,rfl,hq,q0,q⟩:=h;obtain⟨u,rfl,rx⟩:=Vd r;cases rx;cases rz;obtain⟨its,rv,p,hz⟩:=I.list hq;have hi:=Yw rv;have hl:=p.isList;obtain⟨xs,e⟩:=hi.allInts.items;have hns:ns=xs.toList.map (·.1):=by rw[<- hi.numsOf,<- nums_intItems,<- e]
 rw[e] at hl;refine Jd6 (I.ok.hd hc) hl (fun z h' tk hk=>?_) fun z v h' tk hv hk=>?_
 ·refine⟨.non,H,I.kept hk,rfl,q0 ?_⟩;rw[hns];exact QN (by rw[Qp,QU];exact z)
 ·obtain⟨t,rfl⟩:=intItems_at hv;obtain⟨h1,h2⟩:=argBest_lt (numAt xs) (xs.size-1);refine⟨.int _,H,I.kept hk,⟨t,rfl⟩,q _ ?_ fun a ha=>?_⟩
  ·rw[hns,numAt_eq];exact getD_mem (by rw[Qp,QU];omega)
  ·rw[hns] at ha;obtain⟨j,hj,rfl⟩:=mem_getD ha;rw[Qp,QU] at hj;rw[<- numAt_eq];exact h2 j (by omega)
def ZV{X:Cx}{K:Qz}(hK:X.K=K)(hc:X.calm=true):Wj X (.builtin "min") "default" .non (JkA K):=hK▸JhS hc
end L2
namespace LE
open PySem L2 LR
noncomputable def JdD:List Sl->Option Sl
 | [s]=>s.r.bind fun ds=>(ints? ds).map fun ns=>match ns.min? with
  | some m=>.sh (.int m)
  | none=>.sh .non
 | _=>none
def JoO:VW K C (JkA K) JdD:=by
 intro Hs H0 H xs as c Q i hs r e q;unfold JdD at e;split at e
 ·obtain⟨v,rfl,r0⟩:=r.one;obtain⟨ds,e1,e⟩:=bind_some e;obtain⟨ns,e2,rfl⟩:=map_some e;obtain⟨l,ys,rfl,h,r1⟩:=r0.r i e1;rw[YA e2] at r1;have:=r1.ints;subst this;refine⟨l,ns,rfl,h,fun z=>?_,fun M hM hb=>?_⟩
  ·subst z;exact q _ _ _ (.refl i) RD.non
  ·have hm:ns.min?=some M:=My.mpr ⟨hM,hb⟩;rw[hm] at q;exact q _ _ _ (.refl i) (RD.int _)
 ·cases e
noncomputable def look{α:Type}:List Int->List α->Int->Option α
 | k::ks,d::ds,n=>if k=n then some d else look ks ds n
 | _,_,_=>none
noncomputable def UP(ks:List Int)(n:Int):Bool:=ks.any fun k=>decide (k=n)
noncomputable def Yd(ks:List Int)(n:Int):List Int:=if UP ks n=true then ks else ks++[n]
noncomputable def setK{α:Type}:List Int->List α->Int->α->List α
 | k::ks,d::ds,n,v=>(if k=n then v else d)::setK ks ds n v
 | _,ds,_,_=>ds
noncomputable def putDs{α:Type}(ks:List Int)(ds:List α)(n:Int)(v:α):List α:=if UP ks n=true then setK ks ds n v else ds++[v]
theorem JeA{α:Type}(n:Int)(v:α):∀(ks:List Int) (ds:List α),(setK ks ds n v).length=ds.length
 | [],_=>rfl
 | _::_,[]=>rfl
 | _::ks,_::ds=>by simp[setK,JeA n v ks ds]
def Jiy{α:Type}(ks:List Int)(ds:List α)(n:Int)(v:α)(h:ks.length=ds.length):(Yd ks n).length=(putDs ks ds n v).length:=by unfold Yd putDs;split <;> simp[JeA,h]
theorem UY:∀(ks:List Int) (xs:List V) (n:Int),UX ((ks.map Sum.inl:List Key).zip xs) (Sum.inl n)=look ks xs n
 | [],_,_=>rfl
 | _::_,[],_=>rfl
 | k::ks,x::xs,n=>by
  show UX (((Sum.inl k:Key),x)::(ks.map Sum.inl:List Key).zip xs) (Sum.inl n)=_
  by_cases h:k=n
  ·rw[WL (by rw[h]),look,if_pos h]
  ·rw[WK (fun e=>h (RZ e)),look,if_neg h];exact UY ks xs n
theorem Jdj:∀(ks:List Int) (xs:List V) (n:Int),ks.length=xs.length->(((ks.map Sum.inl:List Key).zip xs).any fun kv=>decide (kv.1=(Sum.inl n:Key)))=UP ks n
 | [],_,_,_=>rfl
 | _::_,[],_,h=>by simp at h
 | k::ks,x::xs,n,h=>by
  show(decide ((Sum.inl k:Key)=Sum.inl n) || ((ks.map Sum.inl:List Key).zip xs).any _)=(decide (k=n) || ks.any _)
  rw[Jdj ks xs n (by simpa using h)];congr 1
  by_cases e:k=n
  ·subst e;simp
  ·rw[decide_eq_false e,decide_eq_false fun z=>e (RZ z)]
theorem Jd4:∀(ks:List Int) (xs:List V) (n:Int) (v:V),ks.length=xs.length->(((ks.map Sum.inl:List Key).zip xs).map fun kv=>if kv.1=(Sum.inl n:Key) then(kv.1,v) else kv)=(ks.map Sum.inl:List Key).zip (setK ks xs n v)
 | [],_,_,_,_=>rfl
 | _::_,[],_,_,h=>by simp at h
 | k::ks,x::xs,n,v,h=>by
  show(if (Sum.inl k:Key)=Sum.inl n then((Sum.inl k:Key),v) else(Sum.inl k,x))::((ks.map Sum.inl:List Key).zip xs).map _=(Sum.inl k,if k=n then v else x)::(ks.map Sum.inl:List Key).zip (setK ks xs n v);rw[Jd4 ks xs n v (by simpa using h)];congr 1
  by_cases e:k=n
  ·subst e;simp
  ·rw[if_neg e,if_neg fun z=>e (RZ z)]
def Jkv(ks:List Int)(xs:List V)(n:Int)(v:V)(h:ks.length=xs.length):(HO.dK (Ve ((ks.map Sum.inl:List Key).zip xs) (Sum.inl n) v))=dkO (Yd ks n) (putDs ks xs n v):=by
 unfold dkO Ve Yd putDs;rw[Jdj ks xs n h];split
 ·rw[Jd4 ks xs n v h]
 ·rw[QT,RO (by simpa using h)];rfl
theorem RDL.look:∀{ks:List Int} {xs:List V} {ds:List D} {n:Int},RDL K C H xs ds->(LE.look ks xs n=none/\LE.look ks ds n=none)\/∃x d,LE.look ks xs n=some x/\LE.look ks ds n=some d/\RD K C H x d
 | [],_,_,_,_=>.inl ⟨rfl,rfl⟩
 | _::_,[],[],_,_=>.inl ⟨rfl,rfl⟩
 | _::_,[],_::_,_,h=>by have:=h.1;simp at this
 | _::_,_::_,[],_,h=>by have:=h.1;simp at this
 | k::ks,x::xs,d::ds,n,h=>by
  simp only[LE.look]
  by_cases e:k=n
  ·rw[if_pos e,if_pos e];exact .inr ⟨x,d,rfl,rfl,h.head⟩
  ·rw[if_neg e,if_neg e];exact RDL.look h.tail
theorem RDL.setK(r:RD K C H v e):∀{ks:List Int} {xs:List V} {ds:List D},RDL K C H xs ds->RDL K C H (LE.setK ks xs n v) (LE.setK ks ds n e)
 | [],_,_,h=>h
 | _::_,[],[],_=>.nil
 | _::_,[],_::_,h=>by have:=h.1;simp at this
 | _::_,_::_,[],h=>by have:=h.1;simp at this
 | k::ks,x::xs,d::ds,h=>by
  simp only[LE.setK];refine .cons ?_ (RDL.setK r h.tail);split
  ·exact r
  ·exact h.head
def RDL.putDs{n:Int}{v:V}{e:D}{ks:List Int}{xs:List V}{ds:List D}(h:RDL K C H xs ds)(r:RD K C H v e):RDL K C H (LE.putDs ks xs n v) (LE.putDs ks ds n e):=by
 unfold LE.putDs;split
 ·exact RDL.setK r h
 ·exact h.snoc r
def JpI{p:Qh}{ks:List Int}{xs:List V}{ds:List D}{Q:VK}(i:Same H0 H)(hs:Same Hs H)(hp:H p=none)(hk:ks.length=ds.length)(r:RDL K C H0 xs ds)(q:∀v H0' H',Step Hs H0 H H0' H'->RR K C Hs H0' H' v (.od ks ds)->Q v H'):Q (.ref p) (upd H p (dkO ks xs)) :=
 q _ H0 _ ⟨.new hp,Same.refl _,fun _ _ e=>.inl e,i.trans (.new hp)⟩ ⟨p,xs,rfl,Jl,Same.free i hp,Same.free hs hp,hk,r⟩
noncomputable def Sl.dk:Sl->Option (List Int×List D)
 | .sh (.dct ks ds)=>some (ks,ds)
 | .sh (.dfz ks ds)=>some (ks,ds)
 | .bd ks ds=>some (ks,ds)
 | .od ks ds=>some (ks,ds)
 | _=>none
noncomputable def int?:Sl->Option Int
 | .sh (.int i)=>some i
 | _=>none
noncomputable def Jdx:Ev:=fun _=>some (.od [] [])
noncomputable def JlL(a k:Ev):Ev:=fun E=>(a E).bind fun s=>s.dk.bind fun p=>((k E).bind int?).bind fun n=>(look p.1 p.2 n).map .sh
noncomputable def Jcd(a k x:Ev):Ev:=fun E=>(a E).bind fun s=>s.dk.bind fun p=>((k E).bind int?).bind fun n=>((x E).bind sh?).bind fun d=>some (.sh ((look p.1 p.2 n).getD d))
noncomputable def JeT(i:Nat)(k a:Ev):Es:=fun E=>match E[i]? with
 | some (.od ks ds)=>(a E).bind fun s=>s.frz.bind fun d=>((k E).bind int?).bind fun n=>if ks.length<Qr then some (.nx (E.set i (.od (Yd ks n) (putDs ks ds n d)))) else none
 | _=>none
def UR(e:int? s=some n):s=.sh (.int n):=by
 cases s with
 | sh d=>cases d with
  | int i=>cases e;rfl
  | _=>cases e
 | _=>cases e
def RR.dk(r:RR K C Hs H0 H v s)(i:Same H0 H)(e:s.dk=some p):∃l xs,v=.ref l/\Rd H l (dkO p.1 xs)/\p.1.length=p.2.length/\RDL K C H0 xs p.2:=by
 cases s with
 | bd ks ds=>cases e;obtain⟨l,xs,h1,h2,h3⟩:=r;exact⟨l,xs,h1,.inl h2,h3⟩
 | od ks ds=>cases e;obtain⟨l,xs,h1,h2,_,_,h3⟩:=r;exact⟨l,xs,h1,.inl h2,h3⟩
 | bt _ _=>cases e
 | ot _ _=>cases e
 | sh d=>cases d with
  | dct ks ds=>cases e;obtain⟨l,xs,h1,h2,h3⟩:=RD.dctI r;exact⟨l,xs,h1,.inl (i _ _ h2),h3⟩
  | dfz ks ds=>cases e;obtain⟨l,xs,o,h1,h2,h3⟩:=RD.dfzI r;exact⟨l,xs,h1,.inr ⟨o,i _ _ h2⟩,h3⟩
  | _=>cases e
 | _=>cases e
def Jre(h:Rd H l (dkO ks xs)):JhH H l (.int n) (look ks xs n):=.inl ⟨_,Sum.inl n,h,rfl,(UY ks xs n).symm⟩
def JkK:SE K C Jk1 Jdx:=by intro B H0 H σ E r Q I e q;cases e;intro p hp;exact JpI (ks:=[]) (xs:=[]) (Hs:=H) I.h (Same.refl _) hp rfl .nil q
def Jr3(ha:SE K C td ed)(hk:SE K C ty ek):SE K C (Joy td ty) (JlL ed ek):=by
 intro B H0 H σ E r Q I e q;obtain⟨s,e1,e⟩:=bind_some e;obtain⟨p,e2,e⟩:=bind_some e;obtain⟨n,e3,e⟩:=bind_some e;obtain⟨t,e3,e4⟩:=bind_some e3;obtain rfl:=UR e4;obtain⟨d,e5,rfl⟩:=map_some e;refine ha B H0 H σ E s _ I e1 fun x H1 H1' s1 r1=>hk B H1 H1' σ E _ _ (I.step s1) e3 fun y H2 H2' s2 r2=>?_
 obtain⟨l,xs,rfl,h,_,rl⟩:=(r1.step s2).dk s2.i e2;rw[RD.intI r2];rcases RDL.look (ks:=p.1) (n:=n) rl with ⟨_,z⟩|⟨v,d',z1,z2,z3⟩
 ·rw[z] at e5;cases e5
 ·rw[z2] at e5;cases e5;exact⟨l,v,rfl,z1▸Jre h,q _ _ _ (s1.trans s2) z3⟩
def Jno(ha:SE K C td ed)(hk:SE K C ty ek)(hx:SE K C tx ex):SE K C (Jk0 td ty tx) (Jcd ed ek ex):=by
 intro B H0 H σ E r Q I e q;obtain⟨s,e1,e⟩:=bind_some e;obtain⟨p,e2,e⟩:=bind_some e;obtain⟨n,e3,e⟩:=bind_some e;obtain⟨t,e3,e4⟩:=bind_some e3;obtain rfl:=UR e4;obtain⟨d,e5,e⟩:=bind_some e;obtain⟨t',e5,e6⟩:=bind_some e5;obtain rfl:=ZK e6;cases e;refine ha B H0 H σ E s _ I e1 fun x H1 H1' s1 r1=>?_
 obtain⟨l0,xs0,rfl,h0,_,_⟩:=r1.dk s1.i e2;refine⟨l0,rfl,.inl ⟨_,h0⟩,hk B H1 H1' σ E _ _ (I.step s1) e3 fun y H2 H2' s2 r2=>hx B H2 H2' σ E _ _ ((I.step s1).step s2) e5 fun z H3 H3' s3 r3=>?_⟩;obtain⟨l,xs,hl,h,_,rl⟩:=((r1.step s2).step s3).dk s3.i e2;cases hl;rw[RD.intI r2];refine⟨_,Jre h,q _ _ _ ((s1.trans s2).trans s3) ?_⟩;rcases RDL.look (ks:=p.1) (n:=n) rl with ⟨z1,z2⟩|⟨v,d',z1,z2,z3⟩
 ·rw[z1,z2];exact r3
 ·rw[z1,z2];exact z3
def JqT(ha:SE K C te ea)(hk:SE K C ty ek):SS K C (Jou (VV i) ty te) (JeT i ek ea):=by
 intro B H0 H σ E o D I e f;unfold JeT at e;split at e
 ·next ks ds h =>
  obtain⟨s,e1,e⟩:=bind_some e;obtain⟨d,e2,e⟩:=bind_some e;obtain⟨n,e3,e⟩:=bind_some e;obtain⟨t,e3,e4⟩:=bind_some e3;obtain rfl:=UR e4;split at e
  ·next hz =>
   cases e;obtain⟨l,xs,g1,g2,g3,g4,gk,g5⟩:=I.slotD h;refine ha B H0 H σ E _ _ I e1 fun v H1 H1' s1 r1=>?_
   have s2:Step H H0 H (JU H H1 H1') H1':=s1.comp (JN s1.i) fun _ z=>z
   have rv:=RR.frz s1.i r1 e2;refine⟨_,g1,?_⟩;refine hk B _ H1' σ E _ _ (I.step s2) e3 fun w H3 H3' s3 r3=>?_
   have s4:=s2.trans s3
   have hx:ks.length=xs.length:=gk.trans g5.1.symm;obtain⟨_,n0,nB⟩:=(I.step s4).ownG h rfl g1
   have rr:=(g5.mono s4.z).putDs (ks:=ks) (n:=n) (rv.mono s3.z)
   have m:=(I.step s4).mutG (t':=.od (Yd ks n) (putDs ks ds n d)) (o':=dkO (Yd ks n) (putDs ks xs n v)) h rfl rfl g1 ⟨l,_,rfl,Jl,n0,nB,Jiy _ _ _ _ gk,rr⟩;rw[RD.intI r3];refine⟨l,_,rfl,.inl ⟨_,Sum.inl n,s4.h _ _ g2,rfl,?_,rfl⟩,?_⟩
   ·rw[Kj,Qp,<- hx,MP];exact hz
   ·rw[Jkv ks xs n v hx];exact f _ _ _ ⟨m.b,s4.z,(s4.ss I.b).n,m.h⟩ m
  ·cases e
 ·cases e
noncomputable def Jjy(x y:Sl):Option Sl:=x.m.bind fun ds=>(int? y).bind fun k=>if Jcu k=true/\ds.length*k.toNat<=Qr then some (.own (QC k.toNat ds).flatten) else none
theorem RDL.rep(r:RDL K C H xs ds):∀k:Nat,RDL K C H (QC k xs).flatten (QC k ds).flatten
 | 0=>.nil
 | k+1=>by rw[Gf,Gf,KO,KO];exact r.append (RDL.rep r k)
def JrJ:OpS K C JrW Jjy:=by
 intro Hs H0 H x y a b c Q i hs ra rb e q;obtain⟨ds,e1,e⟩:=bind_some e;obtain⟨k,e2,e3⟩:=bind_some e;have hb:=UR e2;subst hb;split at e3
 ·next hz=>cases e3;obtain⟨l,us,rfl,h1,r1⟩:=ra.m i e1;obtain⟨b1,b2⟩:=U5 hz.1;exact⟨l,k,us,rfl,RD.intI rb,h1,by omega,by omega,by rw[r1.1];exact hz.2,fun p hp=>YY i hs hp (r1.rep k.toNat) q⟩
 ·cases e3
def JdG{d:D}{s:Sl}{k:Int}(e:s.m=some [d])(h1:Jcu k=true)(h2:k.toNat<=16777216):Jjy s (.sh (.int k))=some (.own (QC k.toNat d)):=by
 unfold Jjy;rw[e,QZ];show(some k).bind _=_;rw[QZ,if_pos ⟨h1,by rw[Gq,Nat.one_mul];exact h2⟩];congr 2
 generalize k.toNat=n
 induction n with
 | zero=>rfl
 | succ n ih=>rw[Gf,KO,ih];rfl
end LE
namespace L2
open PySem PySem.Spec PyProof.Rows
noncomputable def Joz(i:Nat)(t:TS):TS:=fun D σ H=>∃a kvs,σ[i]?=some (some (.ref a))/\H a=some (.dK kvs)/\∀o,t D σ (upd H a (.frz o (.dK kvs)))
def Inv.freeze{X:Cx}{pins:List (Qh×Obj)}{σ:St}{H:Hp}{s:Qg}{a:Qh}{kvs:List (Key×V)}(I:Inv X pins σ H s)(e:H a=some (.dK kvs)):∃o,Inv X pins σ (upd H a (.frz o (.dK kvs))) s:=by
 obtain⟨z,y,vs,r,ob,es,ep,e1,c⟩:=(show ObjOk X.prog X.w H s.heap a (.dK kvs) from I.hok a _ e)
 have:=I.write (x:=a) (e:=a) (o:=.frz ob (.dK kvs)) (h':=s.heap) (t':=s.toks) (by rw[e];trivial) (.inl rfl) (fun b u _ q=>q) ⟨ob,e1⟩ ⟨e1,z,y,vs,r,ob,es,ep,e1,c⟩;exact⟨ob,this⟩
def Jm6{X:Cx}{st:Kt}{t:TS}(i:Nat)(h:PS X st t):PS X st (Joz i t):=by intro pins s σ H D I ⟨a,kvs,e1,e2,q⟩;obtain⟨o,I'⟩:=I.freeze e2;exact h pins s σ _ D I' (q o)
noncomputable def Itd(a:Qh)(o:Obj)(kvs:List (Key×V)):It :=
 ⟨fun i H=>H a=some (.frz o (.dK kvs))/\∃p,kvs[i]?=some p,
  fun i H x H'=>∃t k v,x=.ref t/\H t=none/\kvs[i]?=some (k,v)/\H'=upd H t (.tup [kV k,v]),
  fun i H=>H a=some (.frz o (.dK kvs))/\i=kvs.length⟩
def JjR(h:(JE P w).is k u=true):RelV (kV k) u:=by
 rcases JR (show Zk k u=true from h) with ⟨i,t,rfl,rfl⟩|⟨x,t,rfl,rfl⟩
 ·exact⟨t,rfl⟩
 ·exact⟨t,rfl⟩
theorem KV.get{κ:Type}:∀{kvs:List (κ×V)} {vs:List (κ×Qe)} {i:Nat} {p:κ×V},KV kvs vs->kvs[i]?=some p->∃u,vs[i]?=some (p.1,u)/\RelV p.2 u
 | _,_,0,p,.cons h _,e=>by simp at e;subst e;obtain⟨h1,h2⟩:=h;rename_i q _ _;exact⟨_,by simp;exact KL h1.symm rfl,h2⟩
 | _,_,i+1,p,.cons _ t,e=>by obtain⟨u,h1,h2⟩:=KV.get (i:=i) t (by simpa using e);exact⟨u,by simpa using h1,h2⟩
 | _,_,_,_,.nil,e=>by simp at e
def ZY{X:Cx}{pins:List (Qh×Obj)}{σ:St}{H:Hp}{s:Qg}{a:Qh}{o:Obj}{kvs:List (Key×V)}{es:Array DictEntry}{ep:Nat}(I:Inv X pins σ H s)(h:H a=some (.frz o (.dK kvs)))(hd:o.data=.dict es ep) :
 ∃vs,KV kvs vs/\s.heap.DictAt (JE X.prog X.w) a vs ep/\(a == sysModules)=false:=by
 obtain⟨e0,z,y,vs,r,ob,es',ep',e1,c1,c2,c3⟩:=(show ObjOk X.prog X.w H s.heap a (.frz o (.dK kvs)) from I.hok a _ h)
 rw[e0] at e1;cases e1;rw[hd] at c2;cases c2;exact⟨vs,r,⟨o,es,e0,c1,hd,c3⟩,y⟩
def Jf5{P:Qy}{w:QP}{K:Qz}{elts:List Gu}{kk:Nat}{pos:Pos}(a it:Qh)(o:Obj)(kvs:List (Key×V))(es:Array DictEntry)(ep:Nat)(hd:o.data=.dict es ep) :
 Turn P w K (.Tuple elts kk pos) (Itd a o kvs) [it] it (fun i h=>∃ok ov,IsItemIter h it a i kvs.length ep ok ov) where
 mem:=by simp
 obj:=fun i h st c hc=>by
  obtain⟨ok,ov,s1⟩:=st;have hc':c=it:=by simpa using hc
  subst hc';exact⟨_,s1,fun v z=>nomatch (show Data.fields _=Data.cell v from z)⟩
 keep:=fun i h h' st k=>by obtain⟨ok,ov,s1⟩:=st;exact⟨ok,ov,k it (by simp) _ s1⟩
 item:=by
  intro X hP hw hK hc i pins s σ H E I hf st hg;subst hP hw hK;obtain⟨hH,⟨k,v⟩,e1⟩:=hg;obtain⟨vs,r,dd,_⟩:=ZY I hH hd;obtain⟨ok,ov,s1⟩:=st;obtain⟨u,hu,ru⟩:=r.get e1;have hl:kvs.length=vs.length:=KV.length r;rw[hl] at s1;refine wpAny_pyNext_items_item s1 dd hu fun key h' hk hit' ht hz hkeep=>?_
  refine⟨_,rfl,wpAny_letOwnedTupleGo_items (s:={ s with heap:=h' }) hit' fun k2 t9 e9=>?_⟩
  replace e9:QK it h' k2:=e9;have elt:it<s.heap.objs.size:=Qn s1
  have I1:Inv X pins σ (upd H s.heap.objs.size (.tup [kV k,v])) { s with heap:=s.heap.push { cls:=.type "tuple",data:=.seq #[key,u] },toks:=s.toks } :=
   I.laid (o:=.tup [kV k,v]) (fun c ob q=>Qi _ q) (Qu _) ⟨by show 2<=Qr;decide,[key,u],.cons (JjR hk) (.cons ru .nil),⟨_,Qm _ rfl,rfl,_,rfl⟩⟩
  have hf1:∀c∈[it],FpOk X pins (upd H s.heap.objs.size (.tup [kV k,v])) c:=fun c hc=>by
   have hc':c=it:=by simpa using hc
   subst hc';exact⟨by rw[Je (QF elt)];exact(hf c hc).1,(hf c hc).2⟩
  have I2:Inv X pins σ (upd H s.heap.objs.size (.tup [kV k,v])) { s with heap:=k2,toks:=s.toks }:=Inv.turnedL (s:={ s with heap:=s.heap.push { cls:=.type "tuple",data:=.seq #[key,u] },toks:=s.toks }) I1 (fun c ob hc q=>by
   have hc':c≠it:=fun z=>hc (by simp[z])
   refine e9.extBut c ob hc' ?_
   by_cases hcs:c=s.heap.objs.size
   ·subst hcs;have q':(s.heap.push { cls:=.type "tuple",data:=.seq #[key,u] }).get? s.heap.objs.size=some ob:=q;rw[Qm _ rfl] at q';cases q';exact ht
   ·have q':s.heap.get? c=some ob:=by have q2:(s.heap.push { cls:=.type "tuple",data:=.seq #[key,u] }).get? c=some ob:=q;exact(M9 s.heap c _ hcs).symm.trans q2
    exact hkeep c ob hc' q') hf1
  refine⟨.ref s.heap.objs.size,_,I2,rfl,⟨_,k,v,rfl,I.hok.fresh (Qu _),e1,rfl⟩,⟨key,u,?_⟩,fun c hc=>(hf1 c hc).1⟩
  ·rw[hl];exact t9
 done:=by
  intro X hP hw hK hc i pins s σ H E I hf st hg;subst hP hw hK;obtain⟨hH,ei⟩:=hg;obtain⟨vs,r,dd,_⟩:=ZY I hH hd;obtain⟨ok,ov,s1⟩:=st;have hl:kvs.length=vs.length:=KV.length r;have hh:X.A.handled=none:=I.ok.hd hc;rw[hl] at s1;refine wpAny_pyNext_items_end hh s1 dd (Gz (by omega)) fun h' he=>⟨rfl,?_⟩
  exact I.turnedL (fun c ob hc q=>he c ob (fun z=>hc (by simp[z])) q) hf
 self:=fun _ _ _ _ _ st h=>by obtain⟨ok,ov,s1⟩:=st;exact PySem.W.kcp_self s1 h
noncomputable def Jrn(td:TE):TI:=fun σ H R=>td σ H fun x H1=>∃a o kvs,x=.ref a/\H1 a=some (.frz o (.dK kvs))/\R (Itd a o kvs) H1
def Jkm{X:Cx}{elts:List Gu}{kk:Nat}{tpos:Pos}{d:Gu}{td:TE}{apos pos:Pos}(hd:PE X d td)(hbase:attributeBase d "items" X.env (eval d X.env)=eval d X.env:=by rfl)(hline:(apos.endLine == pos.line)=true:=by rfl)
:PI X (.Tuple elts kk tpos) (.Call (.Attribute d "items" apos) [] [] pos) (Jrn td):=by
 intro pins s σ H R I h;refine Mi hbase hline (thn (hd pins s σ H _ I h) fun v s1 ⟨x,H1,I1,r1,a,o,kvs,ex,hH,q⟩=>?_);subst ex;cases r1;obtain⟨t1,t2,_⟩:=Jcx I1 (.inl ⟨kvs,.inr ⟨o,hH⟩⟩);have hO:=(show ObjOk X.prog X.w H1 s1.heap a (.frz o (.dK kvs)) from I1.hok a _ hH)
 obtain⟨e0,z,y,vs,r,ob,es,ep,e1,c1,c2,c3⟩:=hO;rw[e0] at e1;cases e1;have dd:s1.heap.DictAt (JE X.prog X.w) a vs ep:=⟨o,es,e0,c1,c2,c3⟩
 have hl:kvs.length=vs.length:=KV.length r;refine⟨"dict","dict.items",Lo,Lu,Rx,t1,t2,Ky rfl (ML ?_)⟩;refine call_meetsIn Lu t1 Rk (M4 _) (meets_dict_items (JE X.prog X.w) a y) ⟨⟨vs,dd.dictOf⟩,?_⟩
 have I2:Inv X pins σ H1 { s1 with heap:=s1.heap.push { cls:=.type "dict_items",data:=.fields #[.ref a] },toks:=s1.toks }:=I1.kept fun b ob q=>Qi _ q
 refine wpAny_pyIter_items (s:={ s1 with heap:=s1.heap.push { cls:=.type "dict_items",data:=.fields #[.ref a] } }) (d:=a) (kvs:=vs) (ep:=ep) (knd:=JE X.prog X.w) ⟨_,Qm _ rfl,rfl,rfl⟩ (dd.push _) ?_;refine⟨_,[(s1.heap.push { cls:=.type "dict_items",data:=.fields #[.ref a] }).objs.size],_,_,H1,rfl,I2.kept (t':=s1.toks) fun b ob q=>Qi _ q,Jf5 a _ o kvs es ep c2,⟨.none,.none,?_⟩,fun c hc=>?_,q⟩
 ·rw[hl];exact Qm _ rfl
 ·have hc':c=(s1.heap.push { cls:=.type "dict_items",data:=.fields #[.ref a] }).objs.size:=by simpa using hc
  subst hc';exact I2.fpOk (Qu _) (I2.hok.fresh (Qu _))
end L2
namespace LE
open PySem L2 LR
noncomputable def JhG(i:Nat)(b:Es):Es:=fun E=>match E[i]? with
 | some (.od ks ds)=>b (E.set i (.sh (.dfz ks ds)))
 | _=>none
noncomputable def JdV:List Int->List D->List D:=List.zipWith fun k d=>.tup [.int k,d]
noncomputable def Jfn(a:Ev):En->Option (List D):=fun E=>(a E).bind fun s=>match s with
 | .sh (.dfz ks ds)=>some (JdV ks ds)
 | _=>none
def JqU(i:Nat)(ht:SS K C t et):SS K C (Joz i t) (JhG i et):=by
 intro B H0 H σ E o D I e f;unfold JhG at e;split at e
 ·next ks ds h =>
  obtain⟨l,xs,g1,g2,g3,g4,gk,g5⟩:=I.slotD h;refine⟨l,_,g1,g2,fun ob=>?_⟩;have hi:i<E.length:=(Qo.mp h).1;have s0:Same H0 (upd H0 l (.frz ob (dkO ks xs))):=.new g3;have nb:∀{A:Hp},A l=none->Same A H->Same A (upd H l (.frz ob (dkO ks xs))):=fun {A} n s a o e=>by rw[Je (Jn e n)];exact s a o e
  have s1:Same (upd H0 l (.frz ob (dkO ks xs))) (upd H l (.frz ob (dkO ks xs))):=fun a o e=>by
   by_cases ha:a=l
   ·subst ha;rw[Jl] at e ⊢;exact e
   ·rw[Je ha] at e ⊢;exact I.h a o e
  have st:SStep B H0 (upd H0 l (.frz ob (dkO ks xs))) (upd H l (.frz ob (dkO ks xs))):=⟨nb g4 I.b,s0,fun a o e=>by
   by_cases ha:a=l
   ·subst ha;exact .inr (.inl g4)
   ·rw[Je ha] at e;exact .inl e,s1⟩
  refine ht B _ _ σ _ o D ⟨nb g4 I.b,s1,by simp[I.len],fun j s e=>?_,fun j k u1 u2 v hjk a1 a2 w1 w2 a3=>?_,I.t⟩ e (f.step st)
  ·rw[Gg] at e
   by_cases hj:i=j
   ·subst hj;rw[if_pos rfl,if_pos hi] at e;cases e;exact .inr ⟨_,g1,.mkZ Jl gk (g5.mono s0)⟩
   ·rw[if_neg hj] at e;rcases I.at' j s e with z|⟨v,q1,q2⟩
    ·exact .inl z
    ·refine .inr ⟨v,q1,?_⟩
     cases s with
     | no=>trivial
     | sh d=>exact RD.mono s0 q2
     | bo es=>obtain⟨l',ys,p1,p2,p3⟩:=q2;exact⟨l',ys,p1,p2,p3.mono s0⟩
     | bd ks es=>obtain⟨l',ys,p1,p2,hk,p3⟩:=q2;exact⟨l',ys,p1,p2,hk,p3.mono s0⟩
     | bt ks es=>obtain⟨l',ys,p1,p2,hk,p3⟩:=q2;exact⟨l',ys,p1,p2,hk,p3.mono s0⟩
     | own es =>
      obtain⟨l',ys,p1,p2,p3,p4,p5⟩:=q2;subst p1;have:l'≠l:=fun z=>by subst z;exact I.sep i j _ _ (.ref l') hj h e rfl rfl g1 q1
      exact⟨l',ys,rfl,by rw[Je this];exact p2,by rw[Je this];exact p3,p4,p5.mono s0⟩
     | od ks es =>
      obtain⟨l',ys,p1,p2,p3,p4,hk,p5⟩:=q2;subst p1;have:l'≠l:=fun z=>by subst z;exact I.sep i j _ _ (.ref l') hj h e rfl rfl g1 q1
      exact⟨l',ys,rfl,by rw[Je this];exact p2,by rw[Je this];exact p3,p4,hk,p5.mono s0⟩
     | ot ks es =>
      obtain⟨l',ys,p1,p2,p3,p4,hk,p5⟩:=q2;subst p1;have:l'≠l:=fun z=>by subst z;exact I.sep i j _ _ (.ref l') hj h e rfl rfl g1 q1
      exact⟨l',ys,rfl,by rw[Je this];exact p2,by rw[Je this];exact p3,p4,hk,p5.mono s0⟩
  ·have own:∀{j:Nat} {u:Sl},(E.set i (.sh (.dfz ks ds)))[j]?=some u->Yp u=true->E[j]?=some u:=fun {j u} a w=>by
    rw[Gg] at a
    by_cases hj:i=j
    ·subst hj;rw[if_pos rfl,if_pos hi] at a;cases a;cases w
    ·rw[if_neg hj] at a;exact a
   exact I.sep j k u1 u2 v hjk (own a1 w1) (own a2 w2) w1 w2 a3
 ·cases e
theorem JaU:∀(ks:List Int) (xs:List V) (i:Nat),((ks.map Sum.inl:List Key).zip xs)[i]?=(match ks[i]?,xs[i]? with|some k,some x=>some ((Sum.inl k:Key),x)|_,_=>none)
 | [],xs,i=>by simp
 | k::ks,[],i=>by cases h:(k::ks)[i]? <;> simp_all
 | k::ks,x::xs,0=>by simp
 | k::ks,x::xs,i+1=>by simpa using JaU ks xs i
def JkL(ha:SE K C td ed):SI K C m (Jrn td) (Jfn ed):=by
 intro B H0 H σ E ds R I e q;obtain⟨s,e1,e⟩:=bind_some e;split at e
 ·next ks es =>
  cases e;refine ha B H0 H σ E _ _ I e1 fun x H1 H1' s1 r1=>?_
  obtain⟨l,xs,o,rfl,h,hk,rl⟩:=RD.dfzI r1;refine⟨l,o,_,rfl,s1.i _ _ h,q _ _ _ s1 ?_⟩
  have sA:Same (if m=true then H1' else B) H1':=by
   split
   ·exact Same.refl _
   ·exact I.b.trans s1.h
  intro H0' H' st;have hl:H' l=some (.frz o (dkO ks xs)):=st.i _ _ (st.z _ _ h);refine⟨fun i d e=>?_,⟨hl,?_⟩⟩
  ·unfold JdV at e;rw[RT] at e
   cases hki:ks[i]? with
   | none=>rw[hki] at e;cases e
   | some k =>
    cases hdi:es[i]? with
    | none=>rw[hki,hdi] at e;cases e
    | some d' =>
     rw[hki,hdi] at e;cases e;obtain⟨x,hx,rx⟩:=rl.get hdi;have hz:((ks.map Sum.inl:List Key).zip xs)[i]?=some (Sum.inl k,x):=by rw[JaU,hki,hx]
     refine⟨⟨hl,_,hz⟩,?_⟩;rintro z H2 ⟨p,k',v',rfl,hp,hv,rfl⟩;rw[hz] at hv;cases hv;have h0:H0' p=none:=Same.free st.i hp;refine⟨upd H0' p (.tup [.int k,x]),⟨.new hp,.new h0,fun a o e=>?_,fun a o e=>?_⟩,?_⟩
     ·by_cases h:a=p
      ·subst h;exact .inr (.inl hp)
      ·rw[Je h] at e;exact .inl e
     ·by_cases h:a=p
      ·subst h;rw[Jl] at e ⊢;exact e
      ·rw[Je h] at e ⊢;exact st.i a o e
     ·exact .mkT (.of Jl) (.cons (.int _) (.cons (rx.mono (st.z.trans (.new h0))) .nil))
  ·unfold JdV;rw[List.length_zipWith,Kj,Qp,rl.1]
 ·cases e
end LE
namespace L2
open PySem PySem.Spec PyProof.Rows
noncomputable def JoC(p a:Qh):HO:=.ext fun h=>Xf h p a
def Jcc{X:Cx}{pins:List (Qh×Obj)}{σ:St}{H:Hp}{s:Qg}{a:Qh}{kvs:List (Key×V)}(I:Inv X pins σ H s)(h:Rd H a (.dK kvs)) :
 ∃vs ep,KV kvs vs/\s.heap.DictAt (JE X.prog X.w) a vs ep/\(a == sysModules)=false/\kvs.length<=Qr:=by
 obtain⟨z,y,vs,r,ob,es,ep,e1,c⟩:=(show ObjOk X.prog X.w H s.heap a (.dK kvs) from h.ok I.hok)
 exact⟨vs,ep,r,⟨ob,es,e1,c⟩,y,z⟩
noncomputable def Jq1(H:Hp)(r a:Qh):Prop:=r=a\/H r=some (JoC r a)
def JqC{X:Cx}{pins:List (Qh×Obj)}{σ:St}{H:Hp}{s:Qg}{r a:Qh}{kvs:List (Key×V)}(I:Inv X pins σ H s)(d:Jq1 H r a)(h:Rd H a (.dK kvs)) :
 ∃vs T OK,KV kvs vs/\PySem.W.KdlSrc X.prog X.w T r a vs.length (fun i v=>∃k x,vs[i]?=some (k,x)/\(JE X.prog X.w).is k v=true) OK/\OK s.heap/\vs.length<=Qr:=by
 obtain⟨vs,ep,rl,dd,y,z⟩:=Jcc I h;rw[KV.length rl] at z;rcases d with e|e
 ·subst e;exact⟨vs,_,_,rl,PySem.W.kdl_dict (ep:=ep) y,dd,z⟩
 ·have vw:Xf s.heap r a:=(show ObjOk X.prog X.w H s.heap r (JoC r a) from I.hok r _ e).1;exact⟨vs,_,_,rl,PySem.W.kdl_keys (ep:=ep),⟨vw,dd⟩,z⟩
theorem JdT{P:Qy}{w:QP}:∀{ks:List Int} {xs:List V} {vs:List (Key×Qe)} {acc:List Qe},ks.length=xs.length->KV ((ks.map Sum.inl:List Key).zip xs) vs->acc.length=vs.length ->
 (∀(j:Nat) (v:Qe),acc[j]?=some v->∃k x,vs[j]?=some (k,x)/\(JE P w).is k v=true)->IntsAre acc ks
 | [],[],_,acc,_,r,hl,_=>by
  cases r
  cases acc with
  | nil=>exact .nil
  | cons _ _=>simp at hl
 | [],_::_,_,_,h,_,_,_=>by simp at h
 | _::_,[],_,_,h,_,_,_=>by simp at h
 | k::ks,x::xs,vs,acc,h,r,hl,hv=>by
  cases r with
  | cons r1 r2 =>
   cases acc with
   | nil=>simp at hl
   | cons u acc =>
    obtain⟨k',x',e1,e2⟩:=hv 0 u rfl;simp at e1;obtain⟨r1a,r1b⟩:=r1;subst e1;have ek:k'=Sum.inl k:=r1a.symm;subst ek;rcases JR (show Zk (Sum.inl k) u=true from e2) with ⟨i,t,e,rfl⟩|⟨y,t,e,_⟩
    ·cases e;exact .cons k t (JdT (by simpa using h) r2 (by simpa using hl) fun j v e=>hv (j+1) v (by simpa using e))
    ·cases e
noncomputable def Jkz:List V->Hp->VK->Prop:=fun xs H Q=>∃(r a:Qh) (ks:List Int) (vs:List V),xs=[.ref r]/\Jq1 H r a/\Rd H a (.dK ((ks.map Sum.inl:List Key).zip vs))/\ks.length=vs.length/\∀l,H l=none->Q (.ref l) (upd H l (.lst (ks.map V.int)))
def Je8(hc:X.calm=true):Yo X (.type "list") Jkz:=by
 intro pins s σ H xs us Q I r h;obtain⟨p,a,ks,vs0,rfl,ds,hq,hlk,q⟩:=h;obtain⟨u,rfl,rx⟩:=Vd r;cases rx;obtain⟨vs,T,OK,rl,K,ok,hz⟩:=JqC I ds hq;have hh:X.A.handled=none:=I.ok.hd hc
 have hl:vs.length=ks.length:=by have:=KV.length rl;rw[Kj,Qp,<- hlk,MP] at this;exact this.symm
 refine PySem.W.kdl_call K hh ok hz fun h' tk acc c' hk hS items=>?_
 have hI:IntsAre acc.toList ks:=JdT (P:=X.prog) (w:=X.w) hlk rl (by rw[QU,items.1]) fun j v e=>items.2 j v (by rw[<- Kb];exact e)
 have hne:H s.heap.objs.size=none:=I.hok.fresh (Qu _);refine⟨.ref s.heap.objs.size,_,I.laid (t':=tk) hk (Qu _) (show ObjOk X.prog X.w _ _ _ (.lst (ks.map V.int)) from⟨by rw[Qp,<- hl];exact hz,acc.toList,c',Y8 hI,?_⟩),rfl,q _ hne⟩;rw[hS]
end L2
namespace LE
open PySem L2 LR
noncomputable def Jfe(a:Ev):Ev:=fun E=>(a E).bind fun s=>s.dk.bind fun p=>some (.own (p.1.map .int))
def Rd.put(h:Rd H l o)(hp:H p=none):Rd (upd H p u) l o:=by
 rcases h with h|⟨ob,h⟩
 ·exact .inl (by rw[Je (Jn h hp)];exact h)
 ·exact .inr ⟨ob,by rw[Je (Jn h hp)];exact h⟩
def Jnr(ha:SE K C td ed):SE K C (tCB Jkz (Ur td VU)) (Jfe ed):=by
 intro B H0 H σ E r Q I e q;obtain⟨s,e1,e⟩:=bind_some e;obtain⟨p,e2,e⟩:=bind_some e;cases e;refine ha B H0 H σ E s _ I e1 fun x H1 H1' s1 r1=>?_
 obtain⟨l,xs,rfl,h,hk,rl⟩:=r1.dk s1.i e2;exact⟨l,l,p.1,xs,rfl,.inl rfl,h,by rw[hk,rl.1],fun z hz=>YY s1.i s1.h hz (RDL.ofInts _) fun v H2 H2' s2 r2=>q v H2 H2' (s1.comp s2 fun _ y=>y) r2⟩
end LE
namespace L2
open PySem PySem.Spec PyProof.Rows
def Inv.more{X:Cx}{pins:List (Qh×Obj)}{σ:St}{H H':Hp}{s:Qg}{h':Q2}{t':Nat}(I:Inv X pins σ H s)(k:∀b u,s.heap.get? b=some u->h'.get? b=some u)(hx:∀b,b<s.heap.objs.size->H' b=H b)
 (new:∀b o,s.heap.objs.size<=b->H' b=some o->ObjOk X.prog X.w H' h' b o):Inv X pins σ H' { s with heap:=h',toks:=t' }:=by
 have old:∀b o,H b=some o->H' b=some o:=fun b o e=>by rw[hx b (I.hok.lt e)];exact e
 refine I.un ⟨fun b u q _ _ _=>k b u q,fun b u q _ _ _=>⟨u.slots,k b u q⟩,fun b u q n _=>by rw[hx b (Qn q)];exact n,fun b u q _=>⟨u,k b u q⟩,fun b xs q=>old b _ q,fun b u xs q=>old b _ q,fun b _ _ _ _ q=>old b _ q⟩ fun b o e=>?_
 rcases Lh b s.heap.objs.size with z|z
 ·rw[hx b z] at e;exact(I.hok b o e).stay (fun c u _ q=>k c u q) (fun c q=>old c _ q) fun c xs q=>old c _ q
 ·exact new b o z e
noncomputable def WM(p a:Qh):HO:=.ext fun h=>h.IsItemsView p a
noncomputable def Jk2(td:TE):TE:=fun σ H Q=>td σ H fun x H1=>∃a kvs,x=.ref a/\Rd H1 a (.dK kvs)/\∀p,H1 p=none->Q (.ref p) (upd H1 p (WM p a))
def Jkh{X:Cx}{d:Gu}{td:TE}{apos pos:Pos}(hd:PE X d td)(hbase:attributeBase d "items" X.env (eval d X.env)=eval d X.env:=by rfl)(hline:(apos.endLine == pos.line)=true:=by rfl)
:PE X (.Call (.Attribute d "items" apos) [] [] pos) (Jk2 td):=by
 intro pins s σ H Q I h;refine Mi hbase hline (thn (hd pins s σ H _ I h) fun v s1 ⟨x,H1,I1,r1,a,kvs,ex,hH,q⟩=>?_);subst ex;cases r1;obtain⟨t1,t2,_⟩:=Jcx I1 (.inl ⟨kvs,hH⟩);obtain⟨vs,ep,r,dd,y,_⟩:=Jcc I1 hH;refine⟨"dict","dict.items",Lo,Lu,Rx,t1,t2,Ky rfl (ML ?_)⟩;refine call_meetsIn Lu t1 Rk (M4 _) (meets_dict_items (JE X.prog X.w) a y) ⟨⟨vs,dd.dictOf⟩,?_⟩
 have hn:H1 s1.heap.objs.size=none:=I1.hok.fresh (Qu _)
 have vw:(s1.heap.push { cls:=.type "dict_items",data:=.fields #[.ref a] }).IsItemsView s1.heap.objs.size a:=⟨_,Qm _ rfl,rfl,rfl⟩
 refine⟨.ref s1.heap.objs.size,_,I1.laid (t':=s1.toks) (o:=WM s1.heap.objs.size a) (fun b ob q=>Qi _ q) (Qu _) ⟨vw,⟨_,Qm _ rfl⟩,fun h1 h2 p k=>?_⟩,rfl,q _ hn⟩;obtain⟨o,ho,hc⟩:=p;exact⟨o,k o ho,hc⟩
noncomputable def VS(H:Hp):List Qh->List (Key×V)->Hp
 | a::as,kv::kvs=>upd (VS H as kvs) a (.tup [kV kv.1,kv.2])
 | _,_=>H
theorem Uk:∀{as:List Qh} {kvs:List (Key×V)},b∉as->VS H as kvs b=H b
 | [],_,_=>rfl
 | _::_,[],_=>rfl
 | a::as,kv::kvs,h=>by rw[VS,Je fun z=>h (by rw[z];exact Qf)];exact Uk fun m=>h (Qc _ m)
theorem ZE:∀{as:List Qh} {kvs:List (Key×V)} {j:Nat} {a:Qh} {kv:Key×V},as.Nodup->as[j]?=some a->kvs[j]?=some kv->VS H as kvs a=some (.tup [kV kv.1,kv.2])
 | [],_,_,_,_,_,e,_=>by simp at e
 | _::_,[],_,_,_,_,_,e=>by simp at e
 | b::as,kv'::kvs,0,a,kv,_,e1,e2=>by simp at e1 e2;subst e1 e2;rw[VS,Jl]
 | b::as,kv'::kvs,j+1,a,kv,hn,e1,e2=>by
  rw[Q6] at hn;simp at e1 e2;have hne:a≠b:=fun z=>hn.1 (by rw[<- z];exact QI e1)
  rw[VS,Je hne];exact ZE hn.2 e1 e2
noncomputable def Jky:List V->Hp->VK->Prop:=fun xs H Q=>∃(r a:Qh) (kvs:List (Key×V)),xs=[.ref r]/\H r=some (WM r a)/\Rd H a (.dK kvs) ∧
 ∀(L:Qh) (as:List Qh),H L=none->as.length=kvs.length->as.Nodup->L∉as->(∀b∈as,H b=none)->Q (.ref L) (upd (VS H as kvs) L (.lst (as.map V.ref)))
def Je7(hc:X.calm=true):Yo X (.type "list") Jky:=by
 intro pins s σ H xs us Q I r h;obtain⟨p,a,kvs,rfl,hv,hq,q⟩:=h;obtain⟨u,rfl,rx⟩:=Vd r;cases rx;obtain⟨vs,ep,rl,dd,_,hz⟩:=Jcc I hq;have hl:kvs.length=vs.length:=KV.length rl;have vw:s.heap.IsItemsView p a:=(show ObjOk X.prog X.w H s.heap p (WM p a) from I.hok p _ hv).1;have hh:X.A.handled=none:=I.ok.hd hc;refine PySem.W.kdx_call hh vw dd (by rw[<- hl];exact hz) fun h' tk acc c as hk hS hal hG hacc=>?_
 have hnd:as.Nodup:=hG.rise.imp fun {x y} h=>QF h
 have hLa:s.heap.objs.size∉as:=fun m=>absurd (hG.above _ m) (Gh _)
 have fr:∀b∈as,H b=none:=fun b hb=>I.hok.fresh (GW (hG.above b hb))
 have hne:H s.heap.objs.size=none:=I.hok.fresh (Qu _)
 have hsize:as.length<=Qr:=by rw[hal,<- hl];exact hz
 refine⟨.ref s.heap.objs.size,_,I.more (t':=tk) hk (fun b hb=>?_) (fun b o hb e=>?_),rfl,q s.heap.objs.size as hne (by rw[hal,hl]) hnd hLa fr⟩
 ·rw[Je (QF hb)];exact Uk fun m=>absurd (hG.above b m) (LW.mpr (GW hb))
 ·by_cases hL:b=s.heap.objs.size
  ·subst hL;rw[Jl] at e;cases e;refine⟨by rw[Qp];exact hsize,acc.toList,c,?_,?_⟩
   ·rw[hacc]
    have:∀l:List Qh,Vals (l.map V.ref) (l.map Value.ref):=fun l=>by
     induction l with
     | nil=>exact .nil
     | cons x l ih=>exact .cons rfl ih
    exact this as
   ·rw[hS]
  ·rw[Je hL] at e
   by_cases hm:b∈as
   ·obtain⟨j,hj⟩:=GA.mp hm;obtain⟨key,k,x,e1,e2,e3⟩:=hG.pairs j b hj;have hjl:j<kvs.length:=by have:=(Qo.mp e1).1;omega
    have hkv:kvs[j]?=some kvs[j]:=QB hjl;obtain⟨u,hu,ru⟩:=rl.get hkv;rw[e1] at hu;cases hu;rw[ZE hnd hj hkv] at e;cases e;exact⟨by show 2<=Qr;decide,[key,x],.cons (JjR e2) (.cons ru .nil),⟨_,e3,rfl,_,rfl⟩⟩
   ·rw[Uk hm,I.hok.fresh hb] at e;cases e
end L2
namespace LE
open PySem L2 LR
noncomputable def Jce(a:Ev):Ev:=fun E=>(a E).bind fun s=>s.dk.bind fun p=>some (.own (JdV p.1 p.2))
def JbH(h:∀b∈as,H b=none):Same H (VS H as kvs):=fun b o e=>by rw[Uk fun m=>by rw[h b m] at e;cases e];exact e
theorem JgR:∀{as:List Qh} {kvs:List (Key×V)} {b:Qh} {o:HO},VS H as kvs b=some o->H b=some o\/b∈as
 | [],_,_,_,e=>.inl e
 | _::_,[],_,_,e=>.inl e
 | a::as,kv::kvs,b,o,e=>by
  by_cases c:b=a
  ·exact .inr (by rw[c];exact Qf)
  ·rw[VS,Je c] at e;exact(JgR e).imp id fun m=>Qc _ m
theorem RDL.items:∀{ks:List Int} {xs:List V} {ds:List D} {as:List Qh} {H:Hp},ks.length=ds.length->as.length=ks.length->(∀(j:Nat) (a:Qh) (k:Int) (x:V),as[j]?=some a->ks[j]?=some k->xs[j]?=some x->H a=some (.tup [.int k,x]))->RDL K C H xs ds->RDL K C H (as.map V.ref) (JdV ks ds)
 | [],[],[],[],_,_,_,_,_=>.nil
 | [],_,_,a::as,_,_,h,_,_=>by simp at h
 | [],_,d::ds,_,_,h,_,_,_=>by simp at h
 | k::ks,_,[],_,_,h,_,_,_=>by simp at h
 | k::ks,_,_,[],_,_,h,_,_=>by simp at h
 | [],x::xs,[],[],_,_,_,_,h=>by have:=h.1;simp at this
 | k::ks,[],d::ds,a::as,_,_,_,_,h=>by have:=h.1;simp at this
 | k::ks,x::xs,d::ds,a::as,H,h1,h2,h3,h4=>by show RDL K C H (V.ref a::as.map V.ref) (.tup [.int k,d]::JdV ks ds);refine .cons (.mkT (.of (h3 0 a k x rfl rfl rfl)) (.cons (.int k) (.cons h4.head .nil))) (RDL.items (by simpa using h1) (by simpa using h2) (fun j a k x e1 e2 e3=>h3 (j+1) a k x (by simpa using e1) (by simpa using e2) (by simpa using e3)) h4.tail)
def Jnq(ha:SE K C td ed):SE K C (tCB Jky (Ur (Jk2 td) VU)) (Jce ed):=by
 intro B H0 H σ E r Q I e q;obtain⟨s,e1,e⟩:=bind_some e;obtain⟨p,e2,e⟩:=bind_some e;cases e;refine ha B H0 H σ E s _ I e1 fun x H1 H1' s1 r1=>?_
 obtain⟨l,xs,rfl,h,hk,rl⟩:=r1.dk s1.i e2;refine⟨l,_,rfl,h,fun w hw=>?_⟩;have st:Step H1' H1 H1' H1 (upd H1' w (WM w l)):=⟨.new hw,Same.refl _,fun _ _ e=>.inl e,s1.i.trans (.new hw)⟩
 have s2:=s1.trans st;refine⟨w,l,_,rfl,Jl,Rd.put h hw,fun L as hL hal hnd hLa hfr=>?_⟩;rw[Kj,Qp,rl.1,hk,MP] at hal
 have fr0:∀b∈as,H1 b=none:=fun b hb=>Same.free s2.i (hfr b hb)
 have frH:∀b∈as,H b=none:=fun b hb=>Same.free s2.h (hfr b hb)
 have hL0:H1 L=none:=Same.free s2.i hL
 have z0:Same H1 (VS H1 as ((p.1.map Sum.inl:List Key).zip xs)):=JbH fr0
 have zz:Same (upd H1' w (WM w l)) (VS (upd H1' w (WM w l)) as ((p.1.map Sum.inl:List Key).zip xs)):=JbH hfr
 have hLl:VS (upd H1' w (WM w l)) as ((p.1.map Sum.inl:List Key).zip xs) L=none:=by rw[Uk hLa];exact hL
 have ii:Same (VS H1 as ((p.1.map Sum.inl:List Key).zip xs)) (VS (upd H1' w (WM w l)) as ((p.1.map Sum.inl:List Key).zip xs)):=fun b o e=>by
  by_cases hb:b∈as
  ·obtain⟨j,hj⟩:=GA.mp hb
   have hjl:j<((p.1.map Sum.inl:List Key).zip xs).length:=by rw[Kj,Qp,rl.1,hk,MP];have:=(Qo.mp hj).1;omega
   have hkv:=QB hjl;rw[ZE hnd hj hkv] at e ⊢;exact e
  ·rw[Uk hb] at e ⊢;exact s2.i b o e
 refine q _ (VS H1 as ((p.1.map Sum.inl:List Key).zip xs)) _ ⟨(s2.h.trans zz).trans (.new hLl),s2.z.trans z0,fun b o e=>?_,ii.trans (.new hLl)⟩ ⟨L,as.map V.ref,rfl,Jl,by rw[Uk hLa];exact hL0,Same.free s2.h hL,?_⟩
 ·rcases JgR e with z|z
  ·exact s2.n b o z
  ·exact .inr (.inl (frH b z))
 ·refine RDL.items (xs:=xs) hk (by rw[hal,hk]) (fun j a k x j1 j2 j3=>?_) (rl.mono z0);exact ZE hnd j1 (by rw[JaU,j2,j3])
end LE
namespace L2
open PySem PySem.Spec PyProof.Rows
def ObjOk.there(x:ObjOk P w H h a o):∃u,h.get? a=some u:=by
 cases o with
 | lst xs=>obtain⟨_,_,_,_,e⟩:=x;exact⟨_,e⟩
 | tup xs=>obtain⟨_,_,_,p⟩:=x;obtain⟨o,e,_⟩:=p;exact⟨_,e⟩
 | dK kvs=>obtain⟨_,_,_,_,o,_,_,e,_⟩:=x;exact⟨_,e⟩
 | dT kvs=>obtain⟨_,_,_,_,o,_,_,e,_⟩:=x;exact⟨_,e⟩
 | set S n=>obtain⟨o,_,_,_,e,_⟩:=x;exact⟨_,e⟩
 | ins C dx fs=>obtain⟨_,_,_,e,_⟩:=x;exact⟨_,e⟩
 | own y=>obtain⟨_,e⟩:=x;exact⟨_,e⟩
 | xd fs=>obtain⟨_,⟨_,_,_,e,_⟩,_⟩:=x;exact⟨_,e⟩
 | rng lo hi=>obtain⟨_,_,_,e⟩:=x;exact⟨_,e⟩
 | frz ob u=>obtain⟨e,_⟩:=x;exact⟨_,e⟩
 | tbl ps l c q =>
  rcases x with e|⟨_,_,_,e,_⟩
  ·exact⟨_,e⟩
  ·exact⟨_,e⟩
 | met f y=>exact⟨_,(show h.get? a=some _ from x)⟩
 | ext φ=>obtain⟨_,⟨_,e⟩,_⟩:=x;exact⟨_,e⟩
noncomputable def TrD(h base:Q2)(e:Qh)(cls:Qe)(dct:Option Qh)(fl:Qe):Prop :=
 ∃oe vs T oT ts,h.get? e=some oe/\(oe.cls=cls/\oe.dict=dct)/\oe.data=.fields vs/\vs[1]?=some (.ref T)/\base.get? T=none/\T≠e/\h.get? T=some oT/\oT.data=.fields ts/\ts[3]?=some fl
noncomputable def Fl(base:Q2)(l:List Env)(e:Qh)(cls:Qe)(h:Q2):Prop :=
 base.StaysIn h/\base.get? e=none/\h.FunFrames base l/\(TrD h base e (LE.JlI cls) (LE.JlH cls) .none\/∃oe vs,h.get? e=some oe/\(oe.cls=LE.JlI cls/\oe.dict=LE.JlH cls)/\oe.data=.fields vs/\vs[1]?=some .none)
noncomputable def Cov(fs:List Qh)(H':Hp)(h h' base:Q2):Prop:=∀b o,(H' b≠none\/∃u,h.get? b=some u)->b∉fs->h'.get? b=some o->base.get? b=some o
structure XF (P:Qy) (w:QP) (l:List Env) (H:Hp) (h:Q2) (a:Qh) (cls:Qe) (H':Hp) (base h':Q2):Prop where
 un:Un (frs l) [] H H' h h'
 hok:HOk P w H' h'
 fl:Fl base l a cls h'
 cov:Cov (frs l) H' h h' base
 free:H' a=none
 new:h.get? a=none
noncomputable def CX1(P:Qy)(w:QP):CXT:=fun l H s E e s'=>∃(a:Qh) (cls:Qe) (H':Hp) (base:Q2),e=.ref a/\s'.os=s.os/\AllBare s'.gens/\XF P w l H s.heap a cls H' base s'.heap/\E cls (some a) H'
noncomputable def XP(X:Cx)(pins:List (Qh×Obj))(σ:St)(E:XK)(e:Qe)(s':Qg):Prop:=∃H s,Inv X pins σ H s/\CX1 X.prog X.w X.stack H s E e s'
end L2
namespace L2
open PySem PySem.Spec PyProof.Rows PySem.Calls LE
structure ExcN (K:Qz) (n:Str):Prop where
 pl:∀c,nsIn K mainGlobals n=some (some (.ref c))->findIn K (.ref c) "__getattribute__"=some (some (.builtin "BaseException.__getattribute__"))/\findIn K (.ref c) "__getattr__"=some none/\mroIn K c (.type "BaseException")=some true/\hasDictIn K c=true/\findIn K (.ref c) "__class__"=some (some (.builtin "object.__class__"))/\mroIn K c (.type "object")=some true
structure ExcG (K:Qz):Prop where
 hn:Xr K (.builtin "object.__class__") "__get__"=some (some (.builtin "getset_descriptor.__get__"))
 htk:PySem.W.takesIn K (.builtin "object.__class__")=some true
end L2
namespace LE
open PySem L2 LR
noncomputable def exB(n m:Str):Bool:=n == m || m == "LumpError"
structure IsiN (K:Qz) (R:List Str) (m:Str) (c:Qh):Prop where
 own:∀n∈R,ExcN K n
 g:ExcG K
 k:∀n∈R,∀c',nsIn K mainGlobals n=some (some (.ref c'))->kitOne K (.ref c') (.ref c)=some (exB n m)
 o:kitOne K (.type "NoneType") (.ref c)=some false
noncomputable def IsiL(K:Qz)(R:List Str):List Str->List Qh->Prop
 | [],[]=>True
 | m::ms,c::cs=>IsiN K R m c/\IsiL K R ms cs
 | _,_=>False
theorem IsiL.exc(hn:n∈R)(hc:nsIn K mainGlobals n=some (some (.ref c'))):∀{ms:List Str} {cs:List Qh},IsiL K R ms cs->kitAny K (.ref c') (cs.map Value.ref)=some (ms.any (exB n))
 | [],[],_=>rfl
 | m::ms,c::cs,⟨h,t⟩=>by show(match kitOne K (.ref c') (.ref c) with|some true=>some true|some false=>kitAny K (.ref c') (cs.map Value.ref)|none=>none)=_;rw[h.k n hn c' hc,t.exc hn hc,G7];cases exB n m <;> rfl
theorem IsiL.non:∀{ms:List Str} {cs:List Qh},IsiL K R ms cs->kitAny K (.type "NoneType") (cs.map Value.ref)=some false
 | [],[],_=>rfl
 | m::ms,c::cs,⟨h,t⟩=>by show(match kitOne K (.type "NoneType") (.ref c) with | some true=>some true | some false=>kitAny K (.type "NoneType") (cs.map Value.ref) | none=>none)=_;rw[h.o,t.non]
structure AtY (K:Qz) (n:Str) (c:Qh):Prop where
 ns:nsIn K mainGlobals n=some (some (.ref c))
 ga:findIn K (.ref c) "__getattribute__"=some (some (.builtin "BaseException.__getattribute__"))
 gn:findIn K (.ref c) "__getattr__"=some none
 mb:mroIn K c (.type "BaseException")=some true
 hd:hasDictIn K c=true
 fi:findIn K (.ref c) "__class__"=some (some (.builtin "object.__class__"))
 mr:mroIn K c (.type "object")=some true
def AtY.n{n:Str}{c:Qh}(h:AtY K n c):ExcN K n:=⟨fun c' e=>by have:=h.ns.symm.trans e;cases this;exact⟨h.ga,h.gn,h.mb,h.hd,h.fi,h.mr⟩⟩
noncomputable def lst?:Sl->Option (List D)
 | .bo ds=>some ds
 | .own ds=>some ds
 | .sh (.lst ds)=>some ds
 | _=>none
def RR.lst(i:Same H0 H)(r:RR K C Hs H0 H v s)(e:lst? s=some ds):∃l xs,v=.ref l/\H l=some (.lst xs)/\RDL K C H0 xs ds:=by
 cases s with
 | bo es=>cases e;exact r
 | own es=>cases e;obtain⟨l,xs,e,h,_,_,q⟩:=r;exact⟨l,xs,e,h,q⟩
 | sh d =>
  cases d with
  | lst es=>cases e;obtain⟨l,xs,e,h,q⟩:=RD.lstI r;exact⟨l,xs,e,i _ _ h,q⟩
  | _=>cases e
 | _=>cases e
noncomputable def JeV(i:Nat):Es:=fun E=>match E[i]? with
 | some (.own ds)=>some (.nx (E.set i (.own ds.reverse)))
 | _=>none
def RDL.rev(r:RDL K C H xs ds):RDL K C H xs.reverse ds.reverse:=by
 have key:∀{xs:List V} {ds:List D},RDL K C H xs ds->RDL K C H xs.reverse ds.reverse:=by
  intro xs
  induction xs with
  | nil =>
   intro ds r
   cases ds with
   | nil=>exact .nil
   | cons d ds=>have:=r.1;simp at this
  | cons x xs ih =>
   intro ds r
   cases ds with
   | nil=>have:=r.1;simp at this
   | cons d ds=>rw[GI,GI];exact(ih r.tail).snoc r.head
 exact key r
def JqW:SS K C (Zq (JnL K "list" Jes (VV i))) (JeV i):=by
 intro B H0 H σ E o D I e f;unfold JeV at e;split at e
 ·next ds h=>cases e;obtain⟨l,xs,g1,g2,g3,g4,g5⟩:=I.slot h;have m:=I.mut (xs:=xs) h g1 (RDL.rev g5);exact⟨_,g1,.inl ⟨rfl,_,.of g2⟩,l,xs,rfl,rfl,g2,f _ _ _ ⟨m.b,Same.refl _,fun _ _ e=>.inl e,m.h⟩ m⟩
 ·cases e
end LE
namespace PySem
abbrev VZ(h:Q2)(z TI TO a:Qh)(f:Bool):Prop :=
 h.get? z=some { cls:=.type "zip",dict:=none,data:=.fields #[rawInt a,.bool f,.bool false,.ref TI,.ref TO],slots:=#[] }
def JeX(gz:VZ s.heap z TI TO a f)(ha:s.heap.get? a=some oa)(h:∀h',VZ h' z TI TO a true->QK z s.heap h'->Q false { s with heap:=h' }):wpAny (model prog w) A (QY (.ref z)) Q E s:=by
 unfold QY;refine Qa (Q5 gz rfl (x:=rawInt a) rfl ?_);show wpAny _ _ (loadIfAlive (Int.toNat (a:Int)) >>= _) _ _ _;rw[Ko];refine Qa (PySem.W.kdx_alive ha ?_);show wpAny _ _ (field (.ref z) 1 >>= _) _ _ _;refine Qa (Q5 gz rfl (x:=.bool f) rfl ?_)
 cases f with
 | true=>exact Qj (h _ gz (Xw _ _))
 | false=>exact Qa (Gs gz (by simp) fun h' y e=>Qj (h h' y e))
def JiM{Q:Qe->Qg->Prop}(D:ZA z TI TO i1 i2 p1 p2)(D1:Draws prog w A i1 p1 n1 P1 S1)(D2:Draws prog w A i2 p2 n2 P2 S2)(gz:VZ s.heap z TI TO a f)(ha:s.heap.get? a=some oa)(gI:IsPair s.heap TI (.ref i1) (.ref i2))
 (st1:S1 k s.heap) (st2:S2 k s.heap) (l1:k<n1) (l2:k<n2)
 (hQ:∀x y h' tk,P1 k x->P2 k y->VZ h' z TI TO a true->S1 (k+1) h'->S2 (k+1) h'->IsPair h' s.heap.objs.size x y->h'.objs.size=s.heap.objs.size+1 ->
  (∀c o,c≠z->c≠i1->c≠i2->s.heap.get? c=some o->h'.get? c=some o)->Q (.ref s.heap.objs.size) { s with heap:=h',toks:=tk }) :
 wpAny (model prog w) A (Builtin.«zip.__next__» ⟨[.ref z],[]⟩) (fun fin s'=>∃v,fin=.done (.ret v)/\Q v s') E s:=by
 obtain⟨hp,g,d,t0,os⟩:=s;have zi1:i1≠z:=fun q=>D.z1 (q▸D.m1)
 have zi2:i2≠z:=fun q=>D.z2 (q▸D.m2)
 show wpAny _ _ (field (.ref z) 2 >>= _) _ _ _;refine Qa (Q5 gz rfl (x:=.bool false) rfl (show wpAny _ _ (field (.ref z) 3 >>= _) _ _ _ from Qa (Q5 gz rfl (x:=.ref TI) rfl (Qa (GR gI rfl ?_)))))
 show wpAny _ _ (QY (.ref z) >>= _) _ _ _;refine Qa (JeX gz ha fun k1 y1 e1=>?_)
 replace e1:QK z hp k1:=e1;simp only[Kh,if_false];refine Qa ?_;simp only[<- Md,Mb,Mq];refine Qa (Qa (GO (show wpAny _ _ (Gi (.ref i1) >>= _) _ _ _ from Qa (D1.item k _ _ _ l1 (D1.frame _ _ _ st1 fun b hb o q=>e1.extBut b o (fun r=>D.z1 (r▸hb)) q) fun x k2 t2 px s2 e2=>Qj ?_))))
 replace e2:QK i1 k1 k2:=e2;refine Qj ?_;have st2':S2 k k2:=D2.frame _ _ _ st2 fun b hb o q=>e2.extBut b o (fun r=>D.x1 (r▸hb)) (e1.extBut b o (fun r=>D.z2 (r▸hb)) q)
 refine Qa (Qa (GO (show wpAny _ _ (Gi (.ref i2) >>= _) _ _ _ from Qa (D2.item k _ _ _ l2 st2' fun y k4 t4 py s4 e4=>Qj ?_))))
 replace e4:QK i2 k2 k4:=e4;refine Qj (Qj (Qa (Mr (hsz:=show 2<=Qr by decide) (Qj ⟨_,rfl,?_⟩))));have hsz:k4.objs.size=hp.objs.size:=by rw[e4.1,e2.1,e1.1]
 have Z4:VZ k4 z TI TO a true:=e4.extBut _ _ (Q3 zi2) (e2.extBut _ _ (Q3 zi1) y1)
 show Q (.ref k4.objs.size) _;rw[hsz];refine hQ x y _ t4 px py (Qi _ Z4) ?_ ?_ ?_ (by rw[Gy,hsz]) fun c o c1 c2 c3 q=>Qi _ (e4.extBut _ _ c3 (e2.extBut _ _ c2 (e1.extBut _ _ c1 q)))
 ·exact D1.frame _ _ _ s2 fun b hb o q=>Qi _ (e4.extBut b o (fun r=>D.x2 (r▸hb)) q)
 ·exact D2.frame _ _ _ s4 fun b hb o q=>Qi _ q
 ·show(k4.push _).get? hp.objs.size=_;rw[<- hsz];exact Qm _ rfl
def Jlr(D:ZA z TI TO i1 i2 p1 p2)(D1:Draws prog w A i1 p1 n1 P1 S1)(D2:Draws prog w A i2 p2 n2 P2 S2)(gz:VZ s.heap z TI TO a f)(ha:s.heap.get? a=some oa)(gI:IsPair s.heap TI (.ref i1) (.ref i2))(st1:S1 k s.heap)(st2:S2 k s.heap)(hend:k=n1\/(k<n1/\k=n2))(hE:∀h' e tk,(∀c o,c≠z->c≠i1->c≠i2->s.heap.get? c=some o->h'.get? c=some o)->(∃o,h'.get? e=some o/\o.cls=.type "StopIteration")->E (.ref e) { s with heap:=h',toks:=tk }):
 wpAny (model prog w) A (Builtin.«zip.__next__» ⟨[.ref z],[]⟩) Q E s:=by
 obtain⟨hp,g,d,t0,os⟩:=s;show wpAny _ _ (field (.ref z) 2 >>= _) _ _ _;refine Qa (Q5 gz rfl (x:=.bool false) rfl (show wpAny _ _ (field (.ref z) 3 >>= _) _ _ _ from Qa (Q5 gz rfl (x:=.ref TI) rfl (Qa (GR gI rfl ?_)))));show wpAny _ _ (QY (.ref z) >>= _) _ _ _;refine Qa (JeX gz ha fun k1 y1 e1=>?_)
 replace e1:QK z hp k1:=e1;simp only[Kh,if_false];refine Qa ?_;simp only[<- Md,Mb,Mq];have q1:S1 k k1:=D1.frame _ _ _ st1 fun b hb o q=>e1.extBut b o (fun r=>D.z1 (r▸hb)) q
 rcases hend with rfl|⟨l1,rfl⟩
 ·refine Qa (Qa (GO (show wpAny _ _ (Gi (.ref i1) >>= _) _ _ _ from Qa (D1.done _ _ _ q1 fun k2 e e2 he=>?_))))
  replace e2:Lf i1 k1 k2:=e2;exact hE k2 e t0 (fun c o c1 c2 _ q=>e2 _ _ c2 (e1.extBut _ _ c1 q)) he
 ·refine Qa (Qa (GO (show wpAny _ _ (Gi (.ref i1) >>= _) _ _ _ from Qa (D1.item k _ _ _ l1 q1 fun x k2 t2 px s2 e2=>Qj ?_))))
  replace e2:QK i1 k1 k2:=e2;refine Qj ?_;have st2':S2 k k2:=D2.frame _ _ _ st2 fun b hb o q=>e2.extBut b o (fun r=>D.x1 (r▸hb)) (e1.extBut b o (fun r=>D.z2 (r▸hb)) q)
  refine Qa (Qa (GO (show wpAny _ _ (Gi (.ref i2) >>= _) _ _ _ from Qa (D2.done _ _ _ st2' fun k4 e e4 he=>?_))))
  replace e4:Lf i2 k2 k4:=e4;exact hE k4 e t2 (fun c o c1 c2 c3 q=>e4 _ _ c3 (e2.extBut _ _ c2 (e1.extBut _ _ c1 q))) he
def LzSt(b1 b2:Bool)(a1 a2 z TI TO i1 i2 S:Qh)(xs ys:Array Qe)(i:Nat)(h:Q2):Prop :=
 IsPair h TI (.ref i1) (.ref i2)/\(IsItr b1 h i1 a1 i/\IsSq b1 h a1 xs)/\(IsItr b2 h i2 a2 i/\IsSq b2 h a2 ys) ∧
 ((IsZip h z TI TO .none/\∃u v,IsPair h TO u v)\/∃a f oa,VZ h z TI TO a f/\h.get? a=some oa/\a≠S/\a≠z/\a≠i1/\a≠i2)
def IsSq.keep{b:Bool}{h h':Q2}{a:Qh}{xs:Array Qe}(q:IsSq b h a xs)(k:∀o,h.get? a=some o->h'.get? a=some o):IsSq b h' a xs:=by
 cases b with
 | true=>obtain⟨o,e,r⟩:=q;exact⟨o,k o e,r⟩
 | false=>obtain⟨o,e,r⟩:=q;exact⟨o,k o e,r⟩
def IsItr.keep'(q:IsItr b h j a i)(k:∀o,h.get? j=some o->h'.get? j=some o):IsItr b h' j a i:=by
 cases b with
 | true=>obtain⟨o,e,r⟩:=q;exact⟨o,k o e,r⟩
 | false=>obtain⟨o,e,r⟩:=q;exact⟨o,k o e,r⟩
def LzSt.keep{h h':Q2}(x:LzSt b1 b2 a1 a2 z TI TO i1 i2 S xs ys i h)(k:∀b o,b≠S->h.get? b=some o->h'.get? b=some o)(n:S∉[z,TI,TO,i1,i2,a1,a2]):LzSt b1 b2 a1 a2 z TI TO i1 i2 S xs ys i h':=by
 simp only[Qk,Gd,or_false,not_or] at n;obtain⟨n1,n2,n3,n4,n5,n6,n7⟩:=n;obtain⟨x1,x2,x3,x4⟩:=x;refine⟨k _ _ (Q3 n2) x1,⟨IsItr.keep' x2.1 fun o e=>k _ o (Q3 n4) e,IsSq.keep x2.2 fun o e=>k _ o (Q3 n6) e⟩,⟨IsItr.keep' x3.1 fun o e=>k _ o (Q3 n5) e,IsSq.keep x3.2 fun o e=>k _ o (Q3 n7) e⟩,?_⟩;rcases x4 with ⟨y1,u,v,y2⟩|⟨a,f,oa,y1,y2,y3⟩
 ·exact .inl ⟨k _ _ (Q3 n1) y1,u,v,k _ _ (Q3 n3) y2⟩
 ·exact .inr ⟨a,f,oa,k _ _ (Q3 n1) y1,k _ _ y3.1 y2,y3⟩
def Jmx{Q:Option Qe->Qg->Prop}(hh:A.handled=none)(Z:ZA z TI TO i1 i2 [i1,a1] [i2,a2])(st:LzSt b1 b2 a1 a2 z TI TO i1 i2 S xs ys i s.heap)(hS:S<s.heap.objs.size)(l1:i<xs.size)(l2:i<ys.size)
 (hQ:∀u v h' tk,xs[i]?=some u->ys[i]?=some v->LzSt b1 b2 a1 a2 z TI TO i1 i2 S xs ys (i+1) h'->IsPair h' s.heap.objs.size u v->h'.objs.size=s.heap.objs.size+1 ->
  (∀c o,c≠z->c≠TO->c≠i1->c≠i2->s.heap.get? c=some o->h'.get? c=some o)->Q (some (.ref s.heap.objs.size)) { s with heap:=h',toks:=tk }) :
 wpAny (model prog w) A (pyNext (.ref z)) Q E s:=by
 obtain⟨x1,x2,x3,x4⟩:=st
 have ne1:a1≠i1:=fun q=>by
  have:=Z.x1;subst q;rcases x2 with ⟨e1,e2⟩
  cases b1 with
  | true=>obtain⟨o,h1,h2,_⟩:=e1;obtain⟨o',h3,h4,_⟩:=e2;rw[h1] at h3;cases h3;rw[h2] at h4;exact absurd h4 (by decide)
  | false=>obtain⟨o,h1,h2,_⟩:=e1;obtain⟨o',h3,h4,_⟩:=e2;rw[h1] at h3;cases h3;rw[h2] at h4;exact absurd h4 (by decide)
 have ne2:a2≠i2:=fun q=>by
  subst q;rcases x3 with ⟨e1,e2⟩
  cases b2 with
  | true=>obtain⟨o,h1,h2,_⟩:=e1;obtain⟨o',h3,h4,_⟩:=e2;rw[h1] at h3;cases h3;rw[h2] at h4;exact absurd h4 (by decide)
  | false=>obtain⟨o,h1,h2,_⟩:=e1;obtain⟨o',h3,h4,_⟩:=e2;rw[h1] at h3;cases h3;rw[h2] at h4;exact absurd h4 (by decide)
 have hh1:A.in1.handled=none:=hh
 have D1:=Draws.sq (prog:=prog) (w:=w) (b:=b1) (xs:=xs) hh1 i1 ne1
 have D2:=Draws.sq (prog:=prog) (w:=w) (b:=b2) (xs:=ys) hh1 i2 ne2
 have Tt:∀o,s.heap.get? z=some o->o.cls=.type "zip"->s.TypeIs (.ref z) "zip":=fun o e c=>⟨o,e,c⟩
 have i1lt:i1<s.heap.objs.size:=by
  cases b1 with
  | true=>obtain⟨o,h1,_⟩:=x2.1;exact Qn h1
  | false=>obtain⟨o,h1,_⟩:=x2.1;exact Qn h1
 have i2lt:i2<s.heap.objs.size:=by
  cases b2 with
  | true=>obtain⟨o,h1,_⟩:=x3.1;exact Qn h1
  | false=>obtain⟨o,h1,_⟩:=x3.1;exact Qn h1
 rcases x4 with ⟨y1,u0,v0,y2⟩|⟨a,f,oa,y1,y2,y3,y4,y5,y6⟩
 ·have hT:=Tt _ y1 rfl;unfold pyNext;refine Qa (G9 (QX (name:=Go "__next__") hT G6 (Q7 G6 hT Lq (JbU Z D1 D2 y1 x1 y2 x2 x3 l1 l2 fun u v k tk pu pv t1 t2 t3 t4 t5 t6 t7 t8=>Qj ?_) (Lg _))));exact hQ u v k tk pu pv ⟨t2,t4,t5,.inr ⟨_,false,_,t1,t6,Gn hS,Gn (Qn y1),Gn i1lt,Gn i2lt⟩⟩ t6 t7 t8
 ·have hT:=Tt _ y1 rfl;unfold pyNext;refine Qa (G9 (QX (name:=Go "__next__") hT G6 (Q7 G6 hT Lq (JiM Z D1 D2 y1 y2 x1 x2 x3 l1 l2 fun u v k tk pu pv t1 t4 t5 t6 t7 t8=>Qj ?_) (Lg _))))
  have ti1:TI≠i1:=fun q=>Z.t1 (by rw[q];simp)
  have ti2:TI≠i2:=fun q=>Z.t2 (by rw[q];simp)
  exact hQ u v k tk pu pv ⟨t8 _ _ Z.a1 ti1 ti2 x1,t4,t5,.inr ⟨a,true,oa,t1,t8 _ _ y4 y5 y6 y2,y3,y4,y5,y6⟩⟩ t6 t7 fun c o c1 _ c3 c4 q=>t8 c o c1 c3 c4 q
def Jmu{Q:Option Qe->Qg->Prop}(hh:A.handled=none)(Z:ZA z TI TO i1 i2 [i1,a1] [i2,a2])(st:LzSt b1 b2 a1 a2 z TI TO i1 i2 S xs ys i s.heap)(hend:i=xs.size\/(i<xs.size/\i=ys.size))
 (hQ:∀h' tk,(∀c o,c≠z->c≠TO->c≠i1->c≠i2->s.heap.get? c=some o->h'.get? c=some o)->Q none { s with heap:=h',toks:=tk }) :
 wpAny (model prog w) A (pyNext (.ref z)) Q E s:=by
 obtain⟨x1,x2,x3,x4⟩:=st
 have ne1:a1≠i1:=fun q=>by
  subst q;rcases x2 with ⟨e1,e2⟩
  cases b1 with
  | true=>obtain⟨o,h1,h2,_⟩:=e1;obtain⟨o',h3,h4,_⟩:=e2;rw[h1] at h3;cases h3;rw[h2] at h4;exact absurd h4 (by decide)
  | false=>obtain⟨o,h1,h2,_⟩:=e1;obtain⟨o',h3,h4,_⟩:=e2;rw[h1] at h3;cases h3;rw[h2] at h4;exact absurd h4 (by decide)
 have ne2:a2≠i2:=fun q=>by
  subst q;rcases x3 with ⟨e1,e2⟩
  cases b2 with
  | true=>obtain⟨o,h1,h2,_⟩:=e1;obtain⟨o',h3,h4,_⟩:=e2;rw[h1] at h3;cases h3;rw[h2] at h4;exact absurd h4 (by decide)
  | false=>obtain⟨o,h1,h2,_⟩:=e1;obtain⟨o',h3,h4,_⟩:=e2;rw[h1] at h3;cases h3;rw[h2] at h4;exact absurd h4 (by decide)
 have hh1:A.in1.handled=none:=hh
 have D1:=Draws.sq (prog:=prog) (w:=w) (b:=b1) (xs:=xs) hh1 i1 ne1
 have D2:=Draws.sq (prog:=prog) (w:=w) (b:=b2) (xs:=ys) hh1 i2 ne2;rcases x4 with ⟨y1,u0,v0,y2⟩|⟨a,f,oa,y1,y2,y3,y4,y5,y6⟩
 ·have hT:s.TypeIs (.ref z) "zip":=⟨_,y1,rfl⟩
  unfold pyNext;refine Qa (G9 (QX (name:=Go "__next__") hT G6 (Q7 G6 hT Lq (JeW Z D1 D2 y1 x1 y2 x2 x3 hend fun k e tk kk he=>?_) (Lg _))));obtain⟨o,ho,hoc⟩:=he;exact Qa (KH (T:="StopIteration") (b:=true) ⟨o,ho,hoc⟩ LX (Qj (hQ k tk kk)))
 ·have hT:s.TypeIs (.ref z) "zip":=⟨_,y1,rfl⟩
  unfold pyNext;refine Qa (G9 (QX (name:=Go "__next__") hT G6 (Q7 G6 hT Lq (Jlr Z D1 D2 y1 y2 x1 x2 x3 hend fun k e tk kk he=>?_) (Lg _))));obtain⟨o,ho,hoc⟩:=he;exact Qa (KH (T:="StopIteration") (b:=true) ⟨o,ho,hoc⟩ LX (Qj (hQ k tk fun c o c1 _ c3 c4 q=>kk c o c1 c3 c4 q)))
structure LzG (xs ys:Array Qe) (lo:Qh) (h:Q2) (as:List Qh):Prop where
 rise:as.Pairwise (·<·)
 above:∀a∈as,lo<a
 pairs:∀(j:Nat) (a:Qh),as[j]?=some a->∃u v,xs[j]?=some u/\ys[j]?=some v/\IsPair h a u v
def LzG.there(g:LzG xs ys lo h as)(ha:a∈as):a<h.objs.size:=by obtain⟨j,hj⟩:=GA.mp ha;obtain⟨_,_,_,_,e⟩:=g.pairs j a hj;exact Qn e
section
variable{prog:Qy}{w:QP}{A:QM}{s:Qg}{R:MV->Qg->Prop}{b1 b2:Bool}{a1 a2 z TI TO i1 i2 S:Qh}{xs ys:Array Qe}
def Jmz(hh:A.handled=none)(Z:ZA z TI TO i1 i2 [i1,a1] [i2,a2])(nS:S∉[z,TI,TO,i1,i2,a1,a2])(hlo:∀b∈[z,TI,TO,i1,i2],b<S)(n:Nat)(hn:n=min xs.size ys.size)(hz:n<=Qr)(res:Qe){h₁:Q2}
 (hR:∀h' tk acc c as,(∀b o,b≠S->b≠z->b≠TO->b≠i1->b≠i2->h₁.get? b=some o->h'.get? b=some o)->h'.get? S=some { cls:=.type "list",dict:=none,data:=.seq acc c,slots:=#[] }->as.length=n->LzG xs ys S h' as ->
  acc.toList=as.map Value.ref->R (.ok (.ret res)) { s with heap:=h',toks:=tk }) :
 ∀(k i:Nat) (h:Q2) (tk c:Nat) (acc:Array Qe) (as:List Qh),n-i=k->i<=n->LzSt b1 b2 a1 a2 z TI TO i1 i2 S xs ys i h->(∀b o,b≠S->b≠z->b≠TO->b≠i1->b≠i2->h₁.get? b=some o->h.get? b=some o) ->
  h.get? S=some { cls:=.type "list",dict:=none,data:=.seq acc c,slots:=#[] }->acc.toList=as.map Value.ref->as.length=i->LzG xs ys S h as ->
  codeAny (model prog w) A (.builtin "list.extend.loop" ⟨[.ref S,.ref z,res],[]⟩) R { s with heap:=h,toks:=tk }:=by
 have Sz:S≠z:=Gn (hlo z (by simp))
 have ST:S≠TO:=Gn (hlo TO (by simp))
 have S1:S≠i1:=Gn (hlo i1 (by simp))
 have S2:S≠i2:=Gn (hlo i2 (by simp))
 have off:∀{b:Qh},S<b->b≠z/\b≠TO/\b≠i1/\b≠i2:=fun {b} h=>⟨Gn (Ke (hlo z (by simp)) h),Gn (Ke (hlo TO (by simp)) h),Gn (Ke (hlo i1 (by simp)) h),Gn (Ke (hlo i2 (by simp)) h)⟩
 intro k
 induction k with
 | zero =>
  intro i h tk c acc as hk hi hst hkeep hS hacc hal hG;have hin:i=n:=by omega
  refine Ku M5 ?_;rw[GZ G1 _];show wpAny _ A.in1 (pyNext (.ref z) >>= _) _ _ _;refine Qa (Jmu (s:={ s with heap:=h,toks:=tk }) (A:=A.in1) hh Z hst (by omega) fun h' tk' he=>?_);refine Qj (hR h' tk' acc c as (fun b o h1 h2 h3 h4 h5 e=>he b o h2 h3 h4 h5 (hkeep b o h1 h2 h3 h4 h5 e)) (he S _ Sz ST S1 S2 hS) (by omega) ⟨hG.rise,hG.above,fun j a hj=>?_⟩ hacc);obtain⟨u,v,e1,e2,e3⟩:=hG.pairs j a hj
  obtain⟨o1,o2,o3,o4⟩:=off (hG.above a (QI hj));exact⟨u,v,e1,e2,he a _ o1 o2 o3 o4 e3⟩
 | succ k ih =>
  intro i h tk c acc as hk hi hst hkeep hS hacc hal hG;have hlt:i<n:=by omega
  have hsz:acc.size=i:=by rw[<- QU,hacc,Qp,hal]
  have hSl:S<h.objs.size:=Qn hS;refine Ku M5 ?_;rw[GZ G1 _]
  show wpAny _ A.in1 (pyNext (.ref z) >>= _) _ _ _;refine Qa (Jmx (s:={ s with heap:=h,toks:=tk }) (A:=A.in1) hh Z hst hSl (by omega) (by omega) fun u v h' tk' pu pv hst' ht hz' hkp=>?_);dsimp only at ht hz' hkp ⊢
  have hS':=hkp S _ Sz ST S1 S2 hS
  have up:∀b o,b≠S->h'.get? b=some o->(h'.update S (Gx (·.push (Value.ref h.objs.size)))).get? b=some o:=fun b o hb e=>(Q8 _ _ (Q3 hb)).trans e
  show wpAny _ A.in1 (updateSeq S (·.push (Value.ref h.objs.size)) >>= _) _ _ _;refine Qa ?_;refine KC hS' rfl (Qj ⟨Kq G1 _,ih (i+1) _ tk' _ (acc.push (Value.ref h.objs.size)) (as++[h.objs.size]) (by omega) hlt (hst'.keep up nS)
   (fun b o h1 h2 h3 h4 h5 e=>up b o h1 (hkp b o h2 h3 h4 h5 (hkeep b o h1 h2 h3 h4 h5 e))) (Gr _ hS' rfl) (by rw[Rc,hacc,QT];rfl) (by rw[QA,hal];rfl) ⟨?_,?_,?_⟩⟩) (by rw[hsz];omega) (by show(acc.push (Value.ref h.objs.size)).size<=Qr+1;rw[Array.size_push,hsz];omega)
  ·refine Kw.mpr ⟨hG.rise,Mj _ _,fun a ha b hb=>?_⟩;rw[GK.mp hb];exact hG.there ha
  ·intro a ha;rcases GH.mp ha with ha|ha
   ·exact hG.above a ha
   ·rw[GK.mp ha];exact hSl
  ·intro j b hj;rcases Mt j as.length with h1|h1|h1
   ·rw[QO h1] at hj;obtain⟨u',v',e1,e2,e3⟩:=hG.pairs j b hj;have hb:=hG.above b (QI hj);obtain⟨o1,o2,o3,o4⟩:=off hb;exact⟨u',v',e1,e2,up b _ (Gn hb) (hkp b _ o1 o2 o3 o4 e3)⟩
   ·subst h1;have hb:h.objs.size=b:=by simpa using hj
    subst hb;exact⟨u,v,by rw[hal];exact pu,by rw[hal];exact pv,up _ _ (Gn hSl) ht⟩
   ·have hnone:(as++[h.objs.size])[j]?=none:=Gz (by rw[QA,Gq];omega);rw[hnone] at hj;cases hj
end
end PySem
namespace PySem
open PySem.Calls PyProof.Rows PyProof.V PySem.Spec
def Jpt:typeLookup (.type "zip") "__len__"=pure none:=by rw[typeLookup_type,builtinLookup_eq_fast];kernel_rfl
def Jmy:typeLookup (.type "zip") "__length_hint__"=pure none:=by rw[typeLookup_type,builtinLookup_eq_fast];kernel_rfl
def Jmv(hT:s.TypeIs (.ref z) "zip")(h:Q true s):wpAny (model prog w) A (KW (.ref z)) Q E s:=by unfold KW;refine Qa (Lc hT Jpt ?_);refine LL (fun hab=>absurd hab (by decide)) (fun _=>?_);refine LL (fun hab=>absurd hab (by decide)) (fun _=>?_);refine Qa (Lc hT Jmy ?_);exact Qj h
def Jih(hh:A.handled=none)(S:Qh)(Z:ZA z TI TO i1 i2 [i1,a1] [i2,a2])(nS:S∉[z,TI,TO,i1,i2,a1,a2])(hlo:∀b∈[z,TI,TO,i1,i2],b<S)(n:Nat)(hn:n=min xs.size ys.size)(hz:n<=Qr)(hzip:IsZip s.heap z TI TO .none)(st:LzSt b1 b2 a1 a2 z TI TO i1 i2 S xs ys 0 s.heap)(res:Qe)(c₀:Nat)(hS:s.heap.get? S=some { cls:=.type "list",data:=.seq #[] c₀ })(hR:∀h' tk acc c as,(∀b o,b≠S->b≠z->b≠TO->b≠i1->b≠i2->s.heap.get? b=some o->h'.get? b=some o)->h'.get? S=some { cls:=.type "list",dict:=none,data:=.seq acc c,slots:=#[] }->as.length=n->LzG xs ys S h' as ->
  acc.toList=as.map Value.ref->R (.ok (.ret res)) { s with heap:=h',toks:=tk }):
 wpAny (model prog w) A.in1 (Kf (.ref S) (.ref z) res)
  (fun fin s'=>match fin with|.done f=>R (.ok f) s'|.again c'=>c'.quiet=true/\codeAny (model prog w) A c' R s') (fun e s'=>R (.error e) s') s:=by
 have key:∀(h:Q2) (c₁ tk:Nat),(∀b o,b≠S->s.heap.get? b=some o->h.get? b=some o) ->
  h.get? S=some { cls:=.type "list",data:=.seq #[] c₁ }->codeAny (model prog w) A (.builtin "list.extend.loop" ⟨[.ref S,.ref z,res],[]⟩) R { s with heap:=h,toks:=tk }:=by
  intro h c₁ tk hk hS₁;exact Jmz (s:=s) (h₁:=s.heap) hh Z nS hlo n hn hz res hR n 0 h tk c₁ #[] [] (Nat.sub_zero _) (GL _) (st.keep hk nS) (fun b o hb _ _ _ _ e=>hk b o hb e) hS₁ rfl rfl
   ⟨List.Pairwise.nil,(fun _ ha=>nomatch ha),(fun j a hj=>by simp at hj)⟩
 have hT:s.TypeIs (.ref z) "zip":=⟨_,hzip,rfl⟩
 have hSz:S≠z:=Gn (hlo z (by simp));unfold Kf;refine Qa (Mo (T:="zip") hT ?_)
 have h1:Ln (.ref S) (.ref z)=false:=by simp[Ln,hSz]
 have h2:(Value.type "zip" == Value.type "list")=false:=by decide
 have h3:(Value.type "zip" == Value.type "tuple")=false:=by decide
 simp only[h1,h2,h3,MC,Kh,if_false];refine Qa (Rs hzip ?_);refine Qa (GO (Jmv hT ?_));refine LL (fun _=>?_) (fun _=>Qj ⟨Kq G1 _,key _ c₀ _ (fun b o _ e=>e) hS⟩);refine Qa (KG ?_);refine Qa ?_;show wpAny _ _ (updateSeq S (·.push .none) >>= fun _=>updateSeq S (·.pop)) _ _ _;refine Qa (KC hS rfl ?_);have hS₂:=Gr (Gx (·.push Value.none)) hS rfl
 refine KC (hz:=by seq_fits) hS₂ rfl ?_;have hS₃:=Gr (Gx (·.pop)) hS₂ rfl;refine Qj ⟨Kq G1 _,key _ _ _ (fun b o hb e=>?_) hS₃⟩;exact(Q8 _ _ (Q3 hb)).trans ((Q8 _ _ (Q3 hb)).trans e)
def Jmw{R:MV->Qg->Prop}(hh:A.handled=none)(S:Qh)(Z:ZA z TI TO i1 i2 [i1,a1] [i2,a2])(nS:S∉[z,TI,TO,i1,i2,a1,a2])(hlo:∀b∈[z,TI,TO,i1,i2],b<S)(n:Nat)(hn:n=min xs.size ys.size)(hz:n<=Qr)
 (hzip:IsZip s.heap z TI TO .none) (st:LzSt b1 b2 a1 a2 z TI TO i1 i2 S xs ys 0 s.heap) (hS:s.heap.get? S=some { cls:=.type "list",data:=.seq #[] })
 (hR:∀h' tk acc c as,(∀b o,b≠S->b≠z->b≠TO->b≠i1->b≠i2->s.heap.get? b=some o->h'.get? b=some o)->h'.get? S=some { cls:=.type "list",dict:=none,data:=.seq acc c,slots:=#[] }->as.length=n->LzG xs ys S h' as ->
  acc.toList=as.map Value.ref->R (.ok (.ret .none)) { s with heap:=h',toks:=tk }) :
 wpAny (model prog w) A.in1 (Builtin.«list.__init__» ⟨[.ref S,.ref z],[]⟩)
  (fun fin s'=>match fin with|.done f=>R (.ok f) s'|.again c'=>c'.quiet=true/\codeAny (model prog w) A c' R s') (fun e s'=>R (.error e) s') s:=by
 have hSz:S≠z:=Gn (hlo z (by simp))
 show wpAny _ _ (do let old <- RI (.ref S);Builtin.List.listUpdate (.ref S) (fun _=>#[]);letGo old.toList.reverse;Kf (.ref S) (.ref z) .none) _ _ s;refine Qa ?_;unfold RI;refine Qa (GR hS rfl (Qj ?_))
 show wpAny _ _ (updateSeq S (fun _=>#[]) >>= fun _=>letGo (#[]:Array Qe).toList.reverse >>= fun _=>Kf (.ref S) (.ref z) .none) _ _ s;refine Qa (KC hS rfl ?_)
 have hS₂:=Gr (Gx (fun _=>(#[]:Array Qe))) hS rfl
 have oth:∀b o,b≠S->s.heap.get? b=some o->(s.heap.update S (Gx (fun _=>(#[]:Array Qe)))).get? b=some o :=
  fun b o hb e=>(Q8 _ _ (Q3 hb)).trans e
 refine Qa (Le ?_);exact Jih hh S Z nS hlo n hn hz (oth _ _ hSz.symm hzip) (st.keep oth nS) .none _ hS₂ (fun h' tk acc c as hk hS' hl hG hacc=>hR h' tk acc c as (fun b o hb h1 h2 h3 h4 e=>hk b o hb h1 h2 h3 h4 (oth b o hb e)) hS' hl hG hacc)
def Jmt{Q:Qe->Qg->Prop}(hh:A.handled=none)(Z:ZA z TI TO i1 i2 [i1,a1] [i2,a2])(n:Nat)(hn:n=min xs.size ys.size)(hz:n<=Qr)
 (hzip:IsZip s.heap z TI TO .none) (gI:IsPair s.heap TI (.ref i1) (.ref i2)) (gO:IsPair s.heap TO .none .none) (t1:IsItr b1 s.heap i1 a1 0) (t2:IsItr b2 s.heap i2 a2 0) (q1:IsSq b1 s.heap a1 xs) (q2:IsSq b2 s.heap a2 ys)
 (hQ:∀h' tk acc c as,(∀b o,b≠z->b≠TO->b≠i1->b≠i2->s.heap.get? b=some o->h'.get? b=some o)->h'.get? s.heap.objs.size=some { cls:=.type "list",dict:=none,data:=.seq acc c,slots:=#[] }->as.length=n->LzG xs ys s.heap.objs.size h' as ->
  acc.toList=as.map Value.ref->Q (.ref s.heap.objs.size) { s with heap:=h',toks:=tk }) :
 wpAny (model prog w) A (call (.type "list") [.ref z]) Q E s:=by
 refine callType_codes (Q₁:=fun obj s₁=>obj=.ref s.heap.objs.size/\s₁={ s with heap:=s.heap.push { cls:=.type "list",data:=.seq #[] } }) PySem.F.called_list (PySem.F.typeCall_list_1 _) PySem.F.entry_list_init
  (code_list_new _ ⟨rfl,rfl⟩) fun obj s₁ h₁=>?_
 obtain⟨rfl,rfl⟩:=h₁;have hS:(s.heap.push { cls:=.type "list",data:=.seq #[] }).get? s.heap.objs.size=some { cls:=.type "list",data:=.seq #[] }:=Qm _ rfl;have up:∀b o,s.heap.get? b=some o->(s.heap.push { cls:=.type "list",data:=.seq #[] }).get? b=some o:=fun b o e=>Qi _ e
 have i1lt:i1<s.heap.objs.size:=by
  cases b1 with
  | true=>obtain⟨o,h1,_⟩:=t1;exact Qn h1
  | false=>obtain⟨o,h1,_⟩:=t1;exact Qn h1
 have i2lt:i2<s.heap.objs.size:=by
  cases b2 with
  | true=>obtain⟨o,h1,_⟩:=t2;exact Qn h1
  | false=>obtain⟨o,h1,_⟩:=t2;exact Qn h1
 have lo:∀b∈[z,TI,TO,i1,i2],b<s.heap.objs.size:=fun b hb=>by
  simp only[Qk,Gd,or_false] at hb;rcases hb with rfl|rfl|rfl|rfl|rfl
  ·exact Qn hzip
  ·exact Qn gI
  ·exact Qn gO
  ·exact i1lt
  ·exact i2lt
 have nS:s.heap.objs.size∉[z,TI,TO,i1,i2,a1,a2]:=fun hm=>by
  simp only[Qk,Gd,or_false] at hm;rcases hm with e|e|e|e|e|e|e
  ·exact absurd (Qn hzip) (by rw[e];exact Gh _)
  ·exact absurd (Qn gI) (by rw[e];exact Gh _)
  ·exact absurd (Qn gO) (by rw[e];exact Gh _)
  ·exact absurd i1lt (by rw[e];exact Gh _)
  ·exact absurd i2lt (by rw[e];exact Gh _)
  ·exact absurd q1.lt (by rw[e];exact Gh _)
  ·exact absurd q2.lt (by rw[e];exact Gh _)
 refine⟨⟨_,hS,rfl⟩,PySem.F.args_list_init_2 _ _,Jmw (A:=A.in1) (b1:=b1) (b2:=b2) hh _ Z nS lo n hn hz (up _ _ hzip) ⟨up _ _ gI,⟨IsItr.keep' t1 fun o e=>up _ o e,q1.push _⟩,⟨IsItr.keep' t2 fun o e=>up _ o e,q2.push _⟩,.inl ⟨up _ _ hzip,_,_,up _ _ gO⟩⟩ hS (fun h' tk acc c as hk hS' hl hG hacc=>?_)⟩;exact⟨rfl,hQ h' tk acc c as (fun b o h1 h2 h3 h4 e=>hk b o (QF (Qn e)) h1 h2 h3 h4 (up b o e)) hS' hl hG hacc⟩
end PySem
namespace L2
open PySem PySem.Spec PyProof.Rows
noncomputable def VT(H:Hp):List Qh->List (V×V)->Hp
 | a::as,kv::kvs=>upd (VT H as kvs) a (.tup [kv.1,kv.2])
 | _,_=>H
theorem Ul:∀{as:List Qh} {kvs:List (V×V)},b∉as->VT H as kvs b=H b
 | [],_,_=>rfl
 | _::_,[],_=>rfl
 | a::as,kv::kvs,h=>by rw[VT,Je fun z=>h (by rw[z];exact Qf)];exact Ul fun m=>h (Qc _ m)
theorem ZF{H:Hp}:∀{as:List Qh} {kvs:List (V×V)} {j:Nat} {a:Qh} {kv:V×V},as.Nodup->as[j]?=some a->kvs[j]?=some kv->VT H as kvs a=some (.tup [kv.1,kv.2])
 | [],_,_,_,_,_,e,_=>by simp at e
 | _::_,[],_,_,_,_,_,e=>by simp at e
 | b::as,kv'::kvs,0,a,kv,_,e1,e2=>by simp at e1 e2;subst e1 e2;rw[VT,Jl]
 | b::as,kv'::kvs,j+1,a,kv,hn,e1,e2=>by
  rw[Q6] at hn;simp at e1 e2;have hne:a≠b:=fun z=>hn.1 (by rw[<- z];exact QI e1)
  rw[VT,Je hne];exact ZF hn.2 e1 e2
def nm2{x y z:Nat}(h1:x≠y)(h2:x≠z):x∉[y,z]:=by simp[h1,h2]
def JsL(h:b<n):b≠n+4/\b≠n+3/\b≠n/\b≠n+1/\b≠n+2:=by omega
def za5{n a1 a2:Nat}(h1:a1<n)(h2:a2<n):ZA (n+4) (n+2) (n+3) n (n+1) [n,a1] [n+1,a2] :=
 ⟨show(n+2:Nat)≠n+4 by omega,show(n+3:Nat)≠n+4 by omega,show(n+2:Nat)≠n+3 by omega,by simp,by simp,
  nm2 (by omega) (by omega),nm2 (by omega) (by omega),nm2 (by omega) (by omega),nm2 (by omega) (by omega),nm2 (by omega) (by omega),nm2 (by omega) (by omega),nm2 (by omega) (by omega),nm2 (by omega) (by omega)⟩
noncomputable def JeO(K:Qz)(ta:TA):TE:=fun σ H Q=>ta σ H fun vs H1=>∃(b1 b2:Bool) (a1 a2:Qh) (xs ys:List V),vs=[.ref a1,.ref a2]/\Sq b1 K H1 a1 xs/\Sq b2 K H1 a2 ys/\(xs.zip ys).length<=Qr ∧
 ∀(L:Qh) (as:List Qh),H1 L=none->as.length=(xs.zip ys).length->as.Nodup->L∉as->(∀b∈as,H1 b=none)->Q (.ref L) (upd (VT H1 as (xs.zip ys)) L (.lst (as.map V.ref)))
def Jem{X:Cx}{K:Qz}{a b:Gu}{ta:TA}{p pos p2 pos2:Pos}(hK:X.K=K)(hc:X.calm=true)(hgl:Gl X "list")(hml:X.mg "list"=none)(hg:Gl X "zip")(hm:X.mg "zip"=none)(ha:PA X [a,b] ta)(hs:starEach [a,b] X.env=[(false,eval a X.env),(false,eval b X.env)]:=by rfl)
 (hs2:starEach [b] X.env=[(false,eval b X.env)]:=by rfl):PE X (.Call (.Name "list" p) [.Call (.Name "zip" p2) [a,b] [] pos2] [] pos) (JeO K ta):=by
 subst hK;intro pins s σ H Q I h;refine Call_ (Y2 I hgl hml Zu (GF ?_ rfl rfl));show wpAny _ _ (spliced ((false,eval (.Call (.Name "zip" p2) [a,b] [] pos2) X.env)::backTo pos (starEach [] X.env))) _ _ s;refine K3 ?_;refine Call_ (Y2 I hg hm Ji2 (GF (thn (ha pos2 pins s σ H _ I h) fun us s1 ⟨vs,H1,I1,r1,q1⟩=>?_) (by rw[hs,hs2]) (by rw[hs2];rfl)));obtain⟨b1,b2,a1,a2,xs,ys,e,c1,c2,hz,q⟩:=q1
 subst e
 cases r1 with
 | cons r rr =>
 cases rr with
 | cons r' rr =>
 cases rr;cases r;cases r';obtain⟨its,w1,p1⟩:=c1.heap I1;obtain⟨jts,w2,p2'⟩:=c2.heap I1;have hh:X.A.handled=none:=I1.ok.hd hc;have n1:its.toArray.size=xs.length:=by rw[Qt,w1.length]
 have n2:jts.toArray.size=ys.length:=by rw[Qt,w2.length]
 have hzl:(xs.zip ys).length=min its.toArray.size jts.toArray.size:=by rw[Kj,n1,n2]
 refine Jbn p1 p2' fun h' t1 t2 t3 t4 t5 kp=>Mn ?_
 have Z:ZA (s1.heap.objs.size+4) (s1.heap.objs.size+2) (s1.heap.objs.size+3) s1.heap.objs.size (s1.heap.objs.size+1) [s1.heap.objs.size,a1] [s1.heap.objs.size+1,a2]:=za5 p1.lt p2'.lt;refine Jmt (s:={ s1 with heap:=h' }) hh Z (xs.zip ys).length hzl hz t1 t2 t3 t4 t5 (p1.keep fun o e=>kp _ o e) (p2'.keep fun o e=>kp _ o e) fun h2 tk acc c as hk hS hal hG hacc=>?_
 have hle:s1.heap.objs.size<h'.objs.size:=Kv (MA _ 4) (Qn t1)
 have hnd:as.Nodup:=hG.rise.imp fun {x y} h=>QF h
 have hLa:h'.objs.size∉as:=fun m=>absurd (hG.above _ m) (Gh _)
 have fr:∀b∈as,H1 b=none:=fun b hb=>I1.hok.fresh (GW (Ke hle (hG.above b hb)))
 have hne:H1 h'.objs.size=none:=I1.hok.fresh (GW hle);refine⟨.ref h'.objs.size,_,I1.more (t':=tk) (fun b u e=>?_) (fun b hb=>?_) (fun b o hb e=>?_),rfl,q h'.objs.size as hne hal hnd hLa fr⟩
 ·obtain⟨o1,o2,o3,o4,_⟩:=JsL (Qn e);exact hk b u o1 o2 o3 o4 (kp b u e)
 ·rw[Je (QF (Ke hb hle))];exact Ul fun m=>absurd (hG.above b m) (LW.mpr (GW (Ke hb hle)))
 ·by_cases hL:b=h'.objs.size
  ·subst hL;rw[Jl] at e;cases e;refine⟨by rw[Qp,hal];exact hz,acc.toList,c,?_,?_⟩
   ·rw[hacc]
    have:∀l:List Qh,Vals (l.map V.ref) (l.map Value.ref):=fun l=>by
     induction l with
     | nil=>exact .nil
     | cons x l ih=>exact .cons rfl ih
    exact this as
   ·rw[hS]
  ·rw[Je hL] at e
   by_cases hm:b∈as
   ·obtain⟨j,hj⟩:=GA.mp hm;obtain⟨u,v,e1,e2,e3⟩:=hG.pairs j b hj;have hjl:j<(xs.zip ys).length:=by have:=(Qo.mp hj).1;omega
    have hkv:(xs.zip ys)[j]?=some (xs.zip ys)[j]:=QB hjl
    have hx:xs[j]?=some (xs.zip ys)[j].1:=by rw[List.getElem_zip];exact QB _
    have hy:ys[j]?=some (xs.zip ys)[j].2:=by rw[List.getElem_zip];exact QB _
    obtain⟨ux,hux,rux⟩:=w1.get hx;obtain⟨uy,huy,ruy⟩:=w2.get hy
    have eu:u=ux:=by
     have e1':its[j]?=some u:=by simpa using e1
     rw[hux] at e1';exact(QS e1').symm
    have ev:v=uy:=by
     have e2':jts[j]?=some v:=by simpa using e2
     rw[huy] at e2';exact(QS e2').symm
    subst eu ev;rw[ZF hnd hj hkv] at e;cases e;exact⟨by show 2<=Qr;decide,[u,v],.cons rux (.cons ruy .nil),⟨_,e3,rfl,_,rfl⟩⟩
   ·rw[Ul hm,I1.hok.fresh hb] at e;cases e
end L2
namespace LE
open PySem L2 LR
noncomputable def Jji(as:En->Option (List Sl)):Ev:=fun E=>(as E).bind fun ss=>match ss with
 | [s,t]=>(s.it true).bind fun ds=>(t.it true).bind fun es=>if ds.length<=Qr then some (.own (Jda ds es)) else none
 | _=>none
def JbI(h:∀b∈as,H b=none):Same H (VT H as kvs):=fun b o e=>by rw[Ul fun m=>by rw[h b m] at e;cases e];exact e
theorem JgS:∀{as:List Qh} {kvs:List (V×V)} {b:Qh} {o:HO},VT H as kvs b=some o->H b=some o\/b∈as
 | [],_,_,_,e=>.inl e
 | _::_,[],_,_,e=>.inl e
 | a::as,kv::kvs,b,o,e=>by
  by_cases c:b=a
  ·exact .inr (by rw[c];exact Qf)
  ·rw[VT,Je c] at e;exact(JgS e).imp id fun m=>Qc _ m
theorem RDL.zips:∀{xs ys:List V} {ds es:List D} {as:List Qh} {H:Hp},as.length=(xs.zip ys).length->(∀(j:Nat) (a:Qh) (x y:V),as[j]?=some a->xs[j]?=some x->ys[j]?=some y->H a=some (.tup [x,y]))->RDL K C H xs ds->RDL K C H ys es->RDL K C H (as.map V.ref) (Jda ds es)
 | [],ys,ds,es,as,H,h1,_,r,r'=>by
  have:ds=[]:=by
   cases ds with
   | nil=>rfl
   | cons d ds=>have:=r.1;simp at this
  subst this;have:as=[]:=QN (by simpa using h1);subst this;exact .nil
 | x::xs,[],ds,es,as,H,h1,_,r,r'=>by
  have:es=[]:=by
   cases es with
   | nil=>rfl
   | cons d ds=>have:=r'.1;simp at this
  subst this;have:as=[]:=QN (by simpa using h1);subst this;cases ds <;> exact .nil
 | x::xs,y::ys,[],es,as,H,h1,_,r,r'=>by have:=r.1;simp at this
 | x::xs,y::ys,d::ds,[],as,H,h1,_,r,r'=>by have:=r'.1;simp at this
 | x::xs,y::ys,d::ds,e::es,[],H,h1,_,r,r'=>by simp at h1
 | x::xs,y::ys,d::ds,e::es,a::as,H,h1,h3,r,r'=>by show RDL K C H (V.ref a::as.map V.ref) (.tup [d,e]::Jda ds es);exact .cons (.mkT (.of (h3 0 a x y rfl rfl rfl)) (.cons r.head (.cons r'.head .nil))) (RDL.zips (by simpa using h1) (fun j a x y e1 e2 e3=>h3 (j+1) a x y (by simpa using e1) (by simpa using e2) (by simpa using e3)) r.tail r'.tail)
def Jqz(ha:SA K C t ev):SE K C (JeO K t) (Jji ev):=by
 intro B H0 H σ E r Q I e q;obtain⟨ss,e1,e⟩:=bind_some e;split at e
 ·next s u =>
  obtain⟨ds1,e2,e⟩:=bind_some e;obtain⟨ds2,e3,e⟩:=bind_some e;split at e
  ·next hz =>
   cases e;refine ha B H0 H σ E _ _ I e1 fun vs H1 H1' s1 r1=>?_
   obtain⟨v,w,rfl,ra,rb⟩:=r1.two;have f:=JN (Hs:=H) s1.i;obtain⟨b1,a1,xs,rfl,k1,w1⟩:=Jh3 (m:=true) ra s1.i e2;obtain⟨b2,a2,ys,rfl,k2,w2⟩:=Jh3 (m:=true) rb s1.i e3;have st0:SStep H1' (JU H H1 H1') (JU H H1 H1') H1':=⟨Same.refl _,Same.refl _,fun _ _ e=>.inl e,f.i⟩
   have s2:=s1.comp f fun _ z=>z
   refine⟨b1,b2,a1,a2,xs,ys,rfl,k1 _ (fun _=>rfl) _ _ st0,k2 _ (fun _=>rfl) _ _ st0,?_,fun L as hL hal hnd hLa hfr=>?_⟩
   ·rw[Kj,w1.1];exact Gm (Nat.min_le_left _ _) hz
   have fr0:∀b∈as,JU H H1 H1' b=none:=fun b hb=>Same.free s2.i (hfr b hb)
   have frH:∀b∈as,H b=none:=fun b hb=>Same.free s2.h (hfr b hb)
   have hL0:JU H H1 H1' L=none:=Same.free s2.i hL
   have z0:Same (JU H H1 H1') (VT (JU H H1 H1') as (xs.zip ys)):=JbI fr0
   have zz:Same H1' (VT H1' as (xs.zip ys)):=JbI hfr
   have hLl:VT H1' as (xs.zip ys) L=none:=by rw[Ul hLa];exact hL
   have ii:Same (VT (JU H H1 H1') as (xs.zip ys)) (VT H1' as (xs.zip ys)):=fun b o e=>by
    by_cases hb:b∈as
    ·obtain⟨j,hj⟩:=GA.mp hb
     have hjl:j<(xs.zip ys).length:=by have:=(Qo.mp hj).1;omega
     have hkv:=QB hjl;rw[ZF hnd hj hkv] at e ⊢;exact e
    ·rw[Ul hb] at e ⊢;exact s2.i b o e
   refine q _ (VT (JU H H1 H1') as (xs.zip ys)) _ ⟨(s2.h.trans zz).trans (.new hLl),s2.z.trans z0,fun b o e=>?_,ii.trans (.new hLl)⟩ ⟨L,as.map V.ref,rfl,Jl,by rw[Ul hLa];exact hL0,Same.free s2.h hL,?_⟩
   ·rcases JgS e with z|z
    ·exact s2.n b o z
    ·exact .inr (.inl (frH b z))
   ·refine RDL.zips hal (fun j a x y j1 j2 j3=>?_) (w1.mono z0) (w2.mono z0);exact ZF (kv:=(x,y)) hnd j1 (by rw[M3];exact⟨j2,j3⟩)
  ·cases e
 ·cases e
end LE
namespace L2
open PySem PySem.Spec PyProof.Rows
def JoR(I:Inv X pins σ H s)(e:H a=some (.dK kvs))(ry:RelV (kV k) u)(rz:RelV z r)(l:kvs.length<Qr)(h1:∀v w' s',UX kvs k=some v->Inv X pins σ H s'->RelV v w'->Q w' s')(h2:UX kvs k=none->∀s',Inv X pins σ (upd H a (.dK (Ve kvs k z))) s'->Q r s'):
 wpAny (model X.prog X.w) A (call (.builtin "dict.setdefault") [.ref a,u,r]) Q E s:=by
 obtain⟨hz,hd,vs,rel,dd⟩:=Jn3 I.hok e;have hzl:vs.length<=Qr:=by rw[<- rel.length];exact hz
 have hl:(Ve kvs k z).length<=Qr:=by have:=Vo kvs k z;omega
 refine call_meetsIn MJ dd.typeIs PySem.F.entry_dict_setdefault (PySem.F.args_dict_setdefault_3 _ _ _) (kt_meets_setdefault (JE X.prog X.w) a (JdW ry) hd r) ⟨vs,dd,hzl,fun v hv=>?_,fun hn h' dd' hs=>?_⟩
 ·have rv:=rel.val k;rw[hv] at rv
  cases hk:UX kvs k with
  | none=>rw[hk] at rv;cases rv
  | some y=>rw[hk] at rv;exact h1 y v _ hk (I.tok _) rv
 ·have rv:=rel.val k;rw[hn] at rv
  have hk:UX kvs k=none:=by
   cases hk:UX kvs k with
   | none=>rfl
   | some y=>rw[hk] at rv;cases rv
  refine h2 hk _ ?_;have he:∃q,h'.get? a=some q:=let ⟨q,_,_,hq,_⟩:=dd';⟨q,hq⟩
  exact Jcb I (by rw[e];exact True.intro) hs he (Jjh hl hd (rel.put k rz) dd')
noncomputable def Jf2(td ty tx:TE):TE:=fun σ H Q=>td σ H fun x H1=>∃a,x=.ref a/\IsD H1 a/\ty σ H1 fun y H2=>tx σ H2 fun z H3=>∃kvs k,H3 a=some (.dK kvs)/\y=kV k/\kvs.length<Qr ∧
 (∀v,UX kvs k=some v->Q v H3)/\(UX kvs k=none->Q z (upd H3 a (.dK (Ve kvs k z))))
def Jkg(ho:PE X o td)(he:PE X e ty)(hf:PE X f tx)(m:M2 X o "setdefault" apos e f cpos):PE X (.Call (.Attribute o "setdefault" apos) [e,f] [] cpos) (Jf2 td ty tx):=by
 intro pins s σ H Q I h;refine wpAny_Call_method m.base m.few m.line Lo MJ PySem.F.type_dict_setdefault (thn (ho pins s σ H _ I h) fun u s1 ⟨x,H1,I1,rx,a,ex,d,q1⟩=>?_);subst ex;obtain rfl:u=Value.ref a:=rx;obtain⟨t1,t2,_⟩:=Jcx I1 d;refine⟨t1,t2,?_⟩;rw[m.trees];refine Ky rfl (ME (K3 (thn (he pins s1 σ H1 _ I1 q1) fun iv s2 ⟨y,H2,I2,ry,q2⟩=>K3 (thn (hf pins s2 σ H2 _ I2 q2) fun fv s3 ⟨z,H3,I3,rz,kvs,k,e1,e2,l,q3,q4⟩=>Mn ?_))))
 subst e2;exact JoR I3 e1 ry rz l (fun v w' s' hv I4 rv=>⟨v,H3,I4,rv,q3 v hv⟩) fun hn s' I4=>⟨z,_,I4,rz,q4 hn⟩
end L2
namespace LE
open PySem L2 LR
section
variable(K:Qz)(C:Qh)(j:Nat)
noncomputable def Left(σ:St)(E:En)(σ':St)(E':En):Prop:=σ'[j]?=σ[j]?/\∀(i:Nat) (s:Sl),E'[i]?=some s->Yp s=true->E[i]?=some s/\σ'[i]?=σ[i]?
noncomputable def SGJ(g:TG)(p:Pt):Prop:=∀(B H0 H:Hp) (σ:St) (E E':En) (x:V) (d:D) (Q:St->Hp->Prop),EnvR K C B H0 H σ E->RD K C H0 x d->p.bind d E=some E'->(∀σ',EnvR K C B H0 H σ' E'->Left j σ E σ' E'->Q σ' H)->g x σ H Q
noncomputable def Jlv(g:TGs)(p:Pts):Prop:=∀(B H0 H:Hp) (σ:St) (E E':En) (xs:List V) (ds:List D) (Q:St->Hp->Prop),EnvR K C B H0 H σ E->RDL K C H0 xs ds->p.bind ds E=some E'->(∀σ',EnvR K C B H0 H σ' E'->Left j σ E σ' E'->Q σ' H)->g xs σ H Q
end
def Left.refl(σ:St)(E:En):Left j σ E σ E:=⟨rfl,fun _ _ e _=>⟨e,rfl⟩⟩
def Left.trans(a:Left j σ E σ1 E1)(b:Left j σ1 E1 σ2 E2):Left j σ E σ2 E2 :=
 ⟨b.1.trans a.1,fun i s e o=>by obtain⟨h1,h2⟩:=b.2 i s e o;obtain⟨h3,h4⟩:=a.2 i s h1 o;exact⟨h3,h2.trans h4⟩⟩
def JjF(h:i≠j):SGJ K C j (Vc i) (.nm i):=by
 intro B H0 H σ E E' x d Q I r e q;rw[Pt.bind] at e;split at e
 ·cases e;refine q _ (I.setSh (by assumption) r) ⟨by rw[Gg,if_neg h],fun i' s e o=>?_⟩;rw[Gg] at e
  by_cases c:i=i'
  ·rw[if_pos c] at e
   by_cases hl:i<E.length
   ·rw[if_pos hl] at e;have e':Sl.sh d=s:=QS e;rw[<- e'] at o;exact absurd o QH
   ·rw[if_neg hl] at e;exact absurd e (by simp)
  ·rw[if_neg c] at e;exact⟨e,by rw[Gg,if_neg c]⟩
 ·cases e
def Jo5:Jlv K C j Jma .nil:=by
 intro B H0 H σ E E' xs ds Q I r e q
 cases ds with
 | nil =>
  cases xs with
  | nil=>rw[Pts.bind] at e;cases e;exact⟨rfl,q σ I (.refl σ _)⟩
  | cons _ _=>have:=r.1;simp at this
 | cons _ _=>simp[Pts.bind] at e
def Jcq(h:SGJ K C j g p)(hs:Jlv K C j gs ps):Jlv K C j (JgI g gs) (.cons p ps):=by
 intro B H0 H σ E E' xs ds Q I r e q
 cases ds with
 | nil=>simp[Pts.bind] at e
 | cons d ds =>
  cases xs with
  | nil=>have:=r.1;simp at this
  | cons x xs=>rw[Pts.bind] at e;obtain⟨E1,e1,e2⟩:=bind_some e;exact⟨x,xs,rfl,h B H0 H σ E E1 x d _ I r.head e1 fun σ1 I1 l1=>hs B H0 H σ1 E1 E' xs ds Q I1 r.tail e2 fun σ2 I2 l2=>q σ2 I2 (l1.trans l2)⟩
def Jo6(hs:Jlv K C j gs ps)(hn:ps.len=n):SGJ K C j (Jh1 K n gs) (.tp ps):=by
 intro B H0 H σ E E' x d Q I r e q
 cases d with
 | tup ds=>rw[Pt.bind] at e;obtain⟨a,xs,rfl,h,r⟩:=RD.tupI r;exact⟨a,xs,rfl,I.h.seqT h,by rw[r.1];exact(Pts.bind_len e).trans hn,hs B H0 H σ E E' xs ds Q I r e q⟩
 | _=>simp[Pt.bind] at e
def EnvR.poke{B H0 H:Hp}{σ:St}{E:En}{a:Qh}{o:HO}(I:EnvR K C B H0 H σ E)(h0:H0 a=none)(hb:B a=none)(ho:∀(i:Nat) (s:Sl),E[i]?=some s->Yp s=true->σ[i]?≠some (some (.ref a))):EnvR K C B H0 (upd H a o) σ E:=by
 have nb:∀{A:Hp},A a=none->Same A H->Same A (upd H a o):=fun {A} n s b o e=>by rw[Je (Jn e n)];exact s b o e
 refine⟨nb hb I.b,nb h0 I.h,I.len,fun i s e=>?_,I.sep,I.t⟩;rcases I.at' i s e with z|⟨v,q1,q2⟩
 ·exact .inl z
 ·refine .inr ⟨v,q1,?_⟩
  cases s with
  | no=>trivial
  | sh d=>exact q2
  | bo es=>exact q2
  | bd ks es=>exact q2
  | bt ks es=>exact q2
  | own es =>
   obtain⟨l',ys,p1,p2,p3⟩:=q2;subst p1;have:l'≠a:=fun z=>ho i _ e rfl (by rw[q1,z])
   exact⟨l',ys,rfl,by rw[Je this];exact p2,p3⟩
  | od ks es =>
   obtain⟨l',ys,p1,p2,p3⟩:=q2;subst p1;have:l'≠a:=fun z=>ho i _ e rfl (by rw[q1,z])
   exact⟨l',ys,rfl,by rw[Je this];exact p2,p3⟩
  | ot ks es =>
   obtain⟨l',ys,p1,p2,p3⟩:=q2;subst p1;have:l'≠a:=fun z=>ho i _ e rfl (by rw[q1,z])
   exact⟨l',ys,rfl,by rw[Je this];exact p2,p3⟩
noncomputable def JaV:List Int->List (List D)->Int->D->List (List D)
 | k::ks,x::xs,n,d=>if k=n then(x++[d])::xs else x::JaV ks xs n d
 | _,xs,_,d=>xs++[[d]]
noncomputable def Wt(p:Pt)(ek ev:Ev):List D->En->List Int->List (List D)->Option (En×List Int×List (List D))
 | [],E,ks,dss=>some (E,ks,dss)
 | d::ds,E,ks,dss=>(p.bind d E).bind fun E1=>((ek E1).bind int?).bind fun n=>(ev E1).bind fun s=>s.frz.bind fun dv=>Wt p ek ev ds E1 (Yd ks n) (JaV ks dss n dv)
noncomputable def JnT(it:En->Option (List D))(p:Pt)(j:Nat)(ek ev:Ev):Es:=fun E=>match E[j]? with
 | some (.od [] [])=>(it E).bind fun ds=>if ds.length<Qr then(Wt p ek ev ds (E.set j .no) [] []).bind fun r=>if j<r.1.length then some (.nx (r.1.set j (.od r.2.1 (r.2.2.map .lst)))) else none else none
 | _=>none
theorem ZP:∀{ks:List Int} {ls:List Qh} {n:Int} {a:Qh},look ks ls n=some a->∃m,ls[m]?=some a/\UP ks n=true/\∀dss:List (List D),dss.length=ls.length->∃ds,dss[m]?=some ds/\∀d,JaV ks dss n d=dss.set m (ds++[d])
 | [],_,_,_,e=>by cases e
 | _::_,[],_,_,e=>by cases e
 | k::ks,l::ls,n,a,e=>by
  simp only[look] at e
  by_cases c:k=n
  ·rw[if_pos c] at e;cases e;refine⟨0,rfl,by unfold UP;simp[c],fun dss hl=>?_⟩
   cases dss with
   | nil=>simp at hl
   | cons x xs=>exact⟨x,rfl,fun d=>by rw[JaV,if_pos c];rfl⟩
  ·rw[if_neg c] at e;obtain⟨m,h1,h2,h3⟩:=ZP e;refine⟨m+1,by simpa using h1,by unfold UP at h2 ⊢;rw[G7,h2,Bool.or_true],fun dss hl=>?_⟩
   cases dss with
   | nil=>simp at hl
   | cons x xs=>obtain⟨ds,g1,g2⟩:=h3 xs (by simpa using hl);exact⟨ds,by simpa using g1,fun d=>by rw[JaV,if_neg c,g2 d];rfl⟩
theorem Jbb:∀{ks:List Int} {ls:List Qh} {n:Int},ks.length=ls.length->look ks ls n=none->UP ks n=false/\∀(dss:List (List D)) (d:D),dss.length=ls.length->JaV ks dss n d=dss++[[d]]
 | [],[],_,_,_=>⟨rfl,fun dss d _=>by cases dss <;> rfl⟩
 | [],_::_,_,h,_=>by simp at h
 | _::_,[],_,h,_=>by simp at h
 | k::ks,l::ls,n,h,e=>by
  simp only[look] at e
  by_cases c:k=n
  ·rw[if_pos c] at e;cases e
  ·rw[if_neg c] at e;obtain⟨h1,h2⟩:=Jbb (by simpa using h) e;refine⟨by unfold UP at h1 ⊢;rw[G7,h1,decide_eq_false c];rfl,fun dss d hl=>?_⟩
   cases dss with
   | nil=>simp at hl
   | cons x xs=>rw[JaV,if_neg c,h2 xs d (by simpa using hl)];rfl
section
variable(K:Qz)(C:Qh)
structure Grp (B H0 H:Hp) (σ:St) (E:En) (j c:Nat) (ks:List Int) (dss:List (List D)) (l:Qh) (ls:List Qh):Prop where
 at':σ[j]?=some (some (.ref l))
 dict:H l=some (dkO ks (ls.map V.ref))
 l0:H0 l=none
 lb:B l=none
 len:ks.length=ls.length
 len2:dss.length=ls.length
 cnt:ks.length<=c
 lists:∀(m:Nat) (a:Qh) (ds:List D),ls[m]?=some a->dss[m]?=some ds->ds.length<=c/\∃xs,H a=some (.lst xs)/\H0 a=none/\B a=none/\RDL K C H0 xs ds
 nd:(l::ls).Nodup
 own:∀(i:Nat) (s:Sl) (a:Qh),E[i]?=some s->Yp s=true->σ[i]?=some (some (.ref a))->a∉l::ls
end
def Grp.there(g:Grp K C B H0 H σ E j c ks dss l ls)(ha:a∈l::ls):∃o,H a=some o/\isT o=false/\H0 a=none/\B a=none:=by
 rcases Qk.mp ha with z|z
 ·subst z;exact⟨_,g.dict,rfl,g.l0,g.lb⟩
 ·obtain⟨m,hm⟩:=GA.mp z;have hl:m<dss.length:=by rw[g.len2];exact(Qo.mp hm).1
  obtain⟨_,xs,h1,h2,h3,_⟩:=g.lists m a dss[m] hm (QB hl);exact⟨_,h1,rfl,h2,h3⟩
def Grp.off(g:Grp K C B H0 H σ E j c ks dss l ls)(st:Step H H0 H H0' H')(ha:a∈l::ls):H0' a=none:=by
 obtain⟨o,h1,h2,h3,_⟩:=g.there ha
 cases z:H0' a with
 | none=>rfl
 | some u =>
  rcases st.n a u z with y|y|y
  ·rw[h3] at y;cases y
  ·rw[h1] at y;cases y
  ·have:=st.i a u z;rw[st.h a o h1] at this;cases this;rw[h2] at y;cases y
def Grp.step(g:Grp K C B H0 H σ E j c ks dss l ls)(st:Step H H0 H H0' H'):Grp K C B H0' H' σ E j c ks dss l ls :=
 ⟨g.at',st.h _ _ g.dict,g.off st Qf,g.lb,g.len,g.len2,g.cnt,fun m a ds e1 e2=>by obtain⟨h0,xs,h1,h2,h3,h4⟩:=g.lists m a ds e1 e2;exact⟨h0,xs,st.h _ _ h1,g.off st (Qc _ (QI e1)),h3,h4.mono st.z⟩,g.nd,g.own⟩
def Grp.left(g:Grp K C B H0 H σ E j c ks dss l ls)(f:Left j σ E σ' E'):Grp K C B H0 H σ' E' j c ks dss l ls :=
 ⟨f.1.trans g.at',g.dict,g.l0,g.lb,g.len,g.len2,g.cnt,g.lists,g.nd,fun i s a e o q=>by obtain⟨h1,h2⟩:=f.2 i s e o;exact g.own i s a h1 o (by rw[<- h2];exact q)⟩
def Grp.free(g:Grp K C B H0 H σ E j c ks dss l ls)(ha:a∈l::ls):∀(i:Nat) (s:Sl),E[i]?=some s->Yp s=true->σ[i]?≠some (some (.ref a)):=fun i s e o q=>g.own i s a e o q ha
def EnvR.fresh(I:EnvR K C B H0 H σ E)(hp:H p=none):∀(i:Nat) (s:Sl),E[i]?=some s->Yp s=true->σ[i]?≠some (some (.ref p)):=fun i s e o q=>by
 rcases I.at' i s e with z|⟨v,q1,q2⟩
 ·subst z;cases o
 ·rw[q1] at q;cases q
  cases s with
  | own es=>obtain⟨l',ys,p1,p2,_⟩:=q2;cases p1;rw[hp] at p2;cases p2
  | od ks es=>obtain⟨l',ys,p1,p2,_⟩:=q2;cases p1;rw[hp] at p2;cases p2
  | ot ks es=>obtain⟨l',ys,p1,p2,_⟩:=q2;cases p1;rw[hp] at p2;cases p2
  | _=>cases o
theorem VJ{α β:Type}(f:α->β):∀(ks:List Int) (vs:List α) (n:Int),look ks (vs.map f) n=(look ks vs n).map f
 | [],_,_=>rfl
 | _::_,[],_=>rfl
 | k::ks,v::vs,n=>by
  rw[Qd];simp only[look];split
  ·rfl
  ·exact VJ f ks vs n
def JjJ(hk:SE K C tk ek)(hv:SE K C tv ev)(I:EnvR K C B H0 H σ E)(g:Grp K C B H0 H σ E j c ks dss l ls)(hc:c<Qr){s:Sl}(e1:ek E=some (.sh (.int n)))(e2:ev E=some s)(e3:s.frz=some dv){D:Ends}(f:∀H0' H' ls',SStep B H0 H0' H'->EnvR K C B H0' H' σ E->Grp K C B H0' H' σ E j (c+1) (Yd ks n) (JaV ks dss n dv) l ls'->D.nx σ H'):
 Zq (tBM K "list" WD (Jf2 (VV j) tk (JnN VU)) (Ur tv VU)) D σ H:=by
 have hkl:=g.len
 have hcn:=g.cnt;refine⟨.ref l,g.at',l,rfl,.inl ⟨_,.inl g.dict⟩,hk B H0 H σ E _ _ I e1 fun y H1 H1' s1 r1=>?_⟩
 have ry:y=.int n:=RD.intI r1;subst ry
 have I1:=I.step s1
 have g1:=g.step s1;refine⟨GL _,fun p hp=>?_⟩
 have p0:H1 p=none:=Same.free s1.i hp
 have pb:B p=none:=Same.free I1.b hp
 have pn:p∉l::ls:=fun m=>by obtain⟨o,h1,_⟩:=g1.there m;rw[hp] at h1;cases h1
 have I2:EnvR K C B H1 (upd H1' p (.lst [])) σ E:=I1.poke p0 pb (I1.fresh hp)
 have ne:∀{a:Qh},a∈l::ls->a≠p:=fun {a} m z=>pn (z▸m)
 have dl:upd H1' p (.lst []) l=some (dkO ks (ls.map V.ref)):=by rw[Je (ne Qf)];exact g1.dict
 have ss1:SStep B H0 H1 H1':=s1.ss I.b;refine⟨_,(Sum.inl n:Key),dl,rfl,?_,fun v hv'=>?_,fun hn=>?_⟩
 ·rw[Kj,Qp,Qp,hkl,MP];omega
 ·skip
  rw[UY,VJ] at hv';obtain⟨a,ha,rfl⟩:=Q0.mp hv';obtain⟨m,m1,m2,m3⟩:=ZP ha;obtain⟨ds,d1,d2⟩:=m3 dss g.len2;have ham:a∈l::ls:=Qc _ (QI m1);obtain⟨hd,xs,x1,x2,x3,x4⟩:=g1.lists m a ds m1 d1;have xa:upd H1' p (.lst []) a=some (.lst xs):=by rw[Je (ne ham)];exact x1
  refine⟨.inl ⟨rfl,xs,.of xa⟩,?_⟩;refine hv B H1 _ σ E _ _ I2 e2 fun v H3 H3' s3 r3=>?_
  have s4:Step (upd H1' p (.lst [])) H1 (upd H1' p (.lst [])) (JU (upd H1' p (.lst [])) H3 H3') H3':=s3.comp (JN s3.i) fun _ z=>z
  have g2:Grp K C B H1 (upd H1' p (.lst [])) σ E j c ks dss l ls:=⟨g1.at',dl,g1.l0,g1.lb,g1.len,g1.len2,g1.cnt,fun m' a' ds' q1 q2=>by obtain⟨h0,xs',h1,h2⟩:=g1.lists m' a' ds' q1 q2;exact⟨h0,xs',by rw[Je (ne (Qc _ (QI q1)))];exact h1,h2⟩,g1.nd,g1.own⟩
  have g3:=g2.step s4
  have I3:=I2.step s4
  have ha3:H3' a=some (.lst xs):=s4.h _ _ xa
  have rv:RDL K C (JU (upd H1' p (.lst [])) H3 H3') (xs++[v]) (ds++[dv]):=(x4.mono s4.z).snoc (RR.frz s3.i r3 e3);refine⟨a,xs,v,rfl,rfl,ha3,by rw[x4.1];omega,?_⟩
  have al:a≠l:=fun z=>(Q6.mp g.nd).1 (z▸QI m1)
  refine f (JU (upd H1' p (.lst [])) H3 H3') _ ls ?_ (I3.poke (g3.off (.refl I3.h) ham) (g3.there ham).choose_spec.2.2.2 (g3.free ham)) ?_
  ·have sb:SStep B H1 (JU (upd H1' p (.lst [])) H3 H3') H3':=s4.ss I2.b
   have:=ss1.trans sb
   have na:JU (upd H1' p (.lst [])) H3 H3' a=none:=g3.off (.refl I3.h) ham
   have nb:B a=none:=x3;exact⟨fun b o q=>by rw[Je (Jn q nb)];exact this.b b o q,this.z,this.n,fun b o q=>by rw[Je (Jn q na)];exact this.i b o q⟩
  ·have hp':Yd ks n=ks:=if_pos m2;rw[hp',d2 dv];refine⟨g3.at',by rw[Je (Q3 al)];exact g3.dict,g3.l0,g3.lb,g3.len,by rw[List.length_set];exact g3.len2,Re g3.cnt,fun m' a' ds' q1 q2=>?_,g3.nd,g3.own⟩;rw[Gg] at q2
   by_cases hm:m=m'
   ·subst hm;rw[m1] at q1;cases q1;rw[if_pos rfl] at q2;split at q2
    ·cases q2;exact⟨by rw[QA,Gq];omega,_,Jl,g3.off (.refl I3.h) ham,x3,rv⟩
    ·cases q2
   ·rw[if_neg hm] at q2;obtain⟨h0,xs',h1,h2⟩:=g3.lists m' a' ds' q1 q2
    have:a'≠a:=fun z=>by subst z;have nd:=(Q6.mp g.nd).2;obtain⟨b1,b2⟩:=Qo.mp m1;obtain⟨c1,c2⟩:=Qo.mp q1;exact hm ((List.getElem_inj nd).mp (b2.trans c2.symm))
    exact⟨by omega,xs',by rw[Je this];exact h1,h2⟩
 ·skip
  rw[UY,VJ] at hn;have hn':look ks ls n=none:=RJ.mp hn;obtain⟨m2,m3⟩:=Jbb g.len hn'
  have hkv:Ve ((ks.map Sum.inl:List Key).zip (ls.map V.ref)) (Sum.inl n) (.ref p)=((ks++[n]).map Sum.inl:List Key).zip ((ls++[p]).map V.ref):=by rw[Jku _ (by rw[UY,VJ,hn'];rfl),QT,QT,RO (by rw[Qp,Qp];exact g.len)];rfl
  rw[hkv];have lp:l≠p:=ne Qf;have xp:upd (upd H1' p (.lst [])) l (dkO (ks++[n]) ((ls++[p]).map V.ref)) p=some (.lst []):=by rw[Je (Q3 lp),Jl]
  have I2':EnvR K C B H1 (upd (upd H1' p (.lst [])) l (dkO (ks++[n]) ((ls++[p]).map V.ref))) σ E:=I2.poke g1.l0 g1.lb (g1.free Qf)
  suffices key:∀Hn,upd (upd H1' p (.lst [])) l (dkO (ks++[n]) ((ls++[p]).map V.ref))=Hn->Hn p=some (.lst [])->EnvR K C B H1 Hn σ E->(tyV K "list" (.ref p) Hn/\Ur tv VU σ Hn fun xs H2=>WD (.ref p) xs H2 fun _ H1=>D.nx σ H1) from key _ rfl xp I2'
  clear xp I2';intro Hn hHn xp I2';refine⟨.inl ⟨rfl,[],.of xp⟩,?_⟩;refine hv B H1 Hn σ E _ _ I2' e2 fun v H3 H3' s3 r3=>?_
  have s4:Step Hn H1 Hn (JU Hn H3 H3') H3':=s3.comp (JN s3.i) fun _ z=>z
  have nd':(l::(ls++[p])).Nodup:=by
   rw[<- Kl,Mu];refine⟨g.nd,by simp,fun x hx y hy=>?_⟩;have:y=p:=by simpa using hy
   rw[this];exact ne hx
  have g2:Grp K C B H1 Hn σ E j (c+1) (ks++[n]) (dss++[[]]) l (ls++[p]):=⟨g1.at',by rw[<- hHn];exact Jl,g1.l0,g1.lb,by simp[g.len],by simp[g.len2],by simp;omega,fun m' a' ds' q1 q2=>by
   by_cases hm:m'<ls.length
   ·rw[QO hm] at q1;rw[QO (by rw[g.len2];exact hm)] at q2;obtain⟨h0,xs',h1,h2⟩:=g1.lists m' a' ds' q1 q2;have hal:a'∈ls:=QI q1;exact⟨by omega,xs',by rw[<- hHn,Je fun z=>(Q6.mp g.nd).1 (by rw[<- z];exact hal),Je (ne (Qc _ hal))];exact h1,h2⟩
   ·have hm1:m'=ls.length:=by have:=(Qo.mp q1).1;simp at this;omega
    subst hm1
    have ea:a'=p:=by
     rw[QQ (Qu _)] at q1
     simpa using q1.symm
    have ed:ds'=[]:=by
     rw[QQ (by rw[g.len2];exact Qu _),g.len2] at q2
     simpa using q2.symm
    subst ea ed;exact⟨GL _,[],xp,p0,pb,.nil⟩,nd',fun i s a e o q m=>by
     rw[<- Kl] at m;rcases GH.mp m with z|z
     ·exact g1.own i s a e o q z
     ·have:a=p:=by simpa using z
      subst this;exact I1.fresh hp i s e o q⟩
  have g3:=g2.step s4
  have I3:=I2'.step s4
  have pm:p∈l::(ls++[p]):=by simp
  have p3:H3' p=some (.lst []):=s4.h _ _ xp
  have rv:RDL K C (JU Hn H3 H3') [v] [dv]:=.cons (RR.frz s3.i r3 e3) .nil;refine⟨p,[],v,rfl,rfl,p3,by show 0<Qr;decide,?_⟩
  have n0:JU Hn H3 H3' p=none:=g3.off (.refl I3.h) pm;refine f (JU Hn H3 H3') _ (ls++[p]) ?_ (I3.poke n0 pb (g3.free pm)) ?_
  ·have sb:SStep B H1 (JU Hn H3 H3') H3':=s4.ss I2'.b
   have:=ss1.trans sb;exact⟨fun b o q=>by rw[Je (Jn q pb)];exact this.b b o q,this.z,this.n,fun b o q=>by rw[Je (Jn q n0)];exact this.i b o q⟩
  ·have hp':Yd ks n=ks++[n]:=if_neg (by rw[m2];exact QH);rw[hp',m3 dss dv g.len2];refine⟨g3.at',by rw[Je lp];exact g3.dict,g3.l0,g3.lb,g3.len,by simp[g.len2],g3.cnt,fun m' a' ds' q1 q2=>?_,g3.nd,g3.own⟩
   by_cases hm:m'<ls.length
   ·have q2':(dss++[[]])[m']?=some ds':=by rw[QO (by rw[g.len2];exact hm)] at q2 ⊢;exact q2
    obtain⟨h0,xs',h1,h2⟩:=g3.lists m' a' ds' q1 q2'
    have:a'≠p:=by rw[QO hm] at q1;exact ne (Qc _ (QI q1))
    exact⟨h0,xs',by rw[Je this];exact h1,h2⟩
   ·have hm1:m'=ls.length:=by have:=(Qo.mp q1).1;simp at this;omega
    subst hm1
    have ea:a'=p:=by
     rw[QQ (Qu _)] at q1
     simpa using q1.symm
    have ed:ds'=[dv]:=by
     rw[QQ (by rw[g.len2];exact Qu _),g.len2] at q2
     simpa using q2.symm
    subst ea ed;exact⟨by simp,[v],Jl,n0,pb,rv⟩
def EnvR.unslot(I:EnvR K C B H0 H σ E)(j:Nat):EnvR K C B H0 H σ (E.set j .no):=by
 have get:∀(i:Nat) (s:Sl),(E.set j Sl.no)[i]?=some s->s=.no\/(i≠j/\E[i]?=some s):=fun i s e=>by
  rw[Gg] at e
  by_cases c:j=i
  ·rw[if_pos c] at e
   by_cases hl:j<E.length
   ·rw[if_pos hl] at e;exact .inl (QS e).symm
   ·rw[if_neg hl] at e;exact absurd e (by simp)
  ·rw[if_neg c] at e;exact .inr ⟨fun z=>c z.symm,e⟩
 refine⟨I.b,I.h,by simp[I.len],fun i s e=>?_,fun i k s t v hik e1 e2 o1 o2 e3 e4=>?_,I.t⟩
 ·rcases get i s e with z|⟨_,z⟩
  ·exact .inl z
  ·exact I.at' i s z
 ·rcases get i s e1 with z|⟨_,z⟩
  ·subst z;cases o1
  ·rcases get k t e2 with y|⟨_,y⟩
   ·subst y;cases o2
   ·exact I.sep i k s t v hik z y o1 o2 e3 e4
noncomputable def Jh0(H0 H:Hp)(ls:List Qh):Hp:=fun a=>if a∈ls then H a else H0 a
theorem JbP:∀{ls:List Qh} {dss:List (List D)},dss.length=ls.length->(∀(m:Nat) (a:Qh) (ds:List D),ls[m]?=some a->dss[m]?=some ds->∃xs,Hz a=some (.lst xs)/\RDL K C Hz xs ds)->RDL K C Hz (ls.map V.ref) (dss.map .lst)
 | [],[],_,_=>.nil
 | [],_::_,h,_=>by simp at h
 | _::_,[],h,_=>by simp at h
 | a::ls,ds::dss,h,f=>by obtain⟨xs,h1,h2⟩:=f 0 a ds rfl rfl;exact .cons (.mkL h1 h2) (JbP (by simpa using h) fun m a ds e1 e2=>f (m+1) a ds (by simpa using e1) (by simpa using e2))
def Grp.done(I:EnvR K C B H0 H σ E)(g:Grp K C B H0 H σ E j c ks dss l ls)(hj:j<E.length):SStep B H0 (Jh0 H0 H ls) H/\EnvR K C B (Jh0 H0 H ls) H σ (E.set j (.od ks (dss.map .lst))):=by
 have out:∀{a:Qh},a∉ls->Jh0 H0 H ls a=H0 a:=fun {a} h=>if_neg h
 have inn:∀{a:Qh},a∈ls->Jh0 H0 H ls a=H a:=fun {a} h=>if_pos h
 have z:Same H0 (Jh0 H0 H ls):=fun a o e=>by
  by_cases c:a∈ls
  ·rw[inn c];exact I.h a o e
  ·rw[out c];exact e
 have i:Same (Jh0 H0 H ls) H:=fun a o e=>by
  by_cases c:a∈ls
  ·rw[inn c] at e;exact e
  ·rw[out c] at e;exact I.h a o e
 have ln:l∉ls:=(Q6.mp g.nd).1;refine⟨⟨I.b,z,fun a o e=>?_,i⟩,I.b,i,by simp[I.len],fun k s e=>?_,fun k m s t v hkm e1 e2 o1 o2 e3 e4=>?_,I.t⟩
 ·by_cases c:a∈ls
  ·exact .inr (.inl (g.there (Qc _ c)).choose_spec.2.2.2)
  ·rw[out c] at e;exact .inl e
 ·rw[Gg] at e
  by_cases c:j=k
  ·subst c;rw[if_pos rfl,if_pos hj] at e;have e':=QS e;subst e';refine .inr ⟨_,g.at',l,ls.map V.ref,rfl,g.dict,by rw[out ln];exact g.l0,g.lb,by rw[Qp,g.len2];exact g.len,JbP g.len2 fun m a ds q1 q2=>?_⟩;obtain⟨_,xs,h1,_,_,h4⟩:=g.lists m a ds q1 q2;exact⟨xs,by rw[inn (QI q1)];exact h1,h4.mono z⟩
  ·rw[if_neg c] at e;rcases I.at' k s e with y|⟨v,q1,q2⟩
   ·exact .inl y
   ·refine .inr ⟨v,q1,?_⟩
    cases s with
    | no=>trivial
    | sh d=>exact RD.mono z q2
    | bo es=>obtain⟨l',ys,p1,p2,p3⟩:=q2;exact⟨l',ys,p1,p2,p3.mono z⟩
    | bd ks es=>obtain⟨l',ys,p1,p2,p3,p4⟩:=q2;exact⟨l',ys,p1,p2,p3,p4.mono z⟩
    | bt ks es=>obtain⟨l',ys,p1,p2,p3,p4⟩:=q2;exact⟨l',ys,p1,p2,p3,p4.mono z⟩
    | own es=>obtain⟨l',ys,p1,p2,p3,p4,p5⟩:=q2;subst p1;have:=g.own k _ l' e rfl q1;exact⟨l',ys,rfl,p2,by rw[out fun m=>this (Qc _ m)];exact p3,p4,p5.mono z⟩
    | od ks es=>obtain⟨l',ys,p1,p2,p3,p4,p5,p6⟩:=q2;subst p1;have:=g.own k _ l' e rfl q1;exact⟨l',ys,rfl,p2,by rw[out fun m=>this (Qc _ m)];exact p3,p4,p5,p6.mono z⟩
    | ot ks es=>obtain⟨l',ys,p1,p2,p3,p4,p5,p6⟩:=q2;subst p1;have:=g.own k _ l' e rfl q1;exact⟨l',ys,rfl,p2,by rw[out fun m=>this (Qc _ m)];exact p3,p4,p5,p6.mono z⟩
 ·have get:∀(i:Nat) (s:Sl),(E.set j (Sl.od ks (dss.map .lst)))[i]?=some s->i=j\/(i≠j/\E[i]?=some s):=fun i s e=>by
   rw[Gg] at e
   by_cases c:j=i
   ·exact .inl c.symm
   ·rw[if_neg c] at e;exact .inr ⟨fun z=>c z.symm,e⟩
  rcases get k s e1 with y1|⟨n1,y1⟩
  ·subst y1;rcases get m t e2 with y2|⟨n2,y2⟩
   ·exact hkm y2.symm
   ·rw[g.at'] at e3;have e3':=QS (QS e3);subst e3';exact g.own m t l y2 o2 e4 Qf
  ·rcases get m t e2 with y2|⟨n2,y2⟩
   ·subst y2;rw[g.at'] at e4;have e4':=QS (QS e4);subst e4';exact g.own k s l y1 o1 e3 Qf
   ·exact I.sep k m s t v hkm y1 y2 o1 o2 e3 e4
def Jss(hi:SI K C false wi it)(hg:SGJ K C j g p)(hk:SE K C tk ek)(hv:SE K C tv ev):
 SS K C (JnM wi g (Zq (tBM K "list" WD (Jf2 (VV j) tk (JnN VU)) (Ur tv VU)))) (JnT it p j ek ev):=by
 intro B H0 H σ E o D I e f;unfold JnT at e;split at e
 ·next h =>
  obtain⟨ds,e1,e⟩:=bind_some e;split at e
  ·next hz =>
   obtain⟨⟨E',ks,dss⟩,e2,e⟩:=bind_some e;split at e
   ·next hjl =>
    cases e;refine hi B H0 H σ E ds _ I e1 fun J H1 H1' s1 ok=>?_
    rw[if_neg (by simp)] at ok;have I1:=I.step s1;rcases I1.at' j _ h with y|⟨v,h1,l,xs,rfl,hl,hl0,hlb,_,rx⟩
    ·cases y
    have hx:xs=[]:=QN (by have:=rx.1;simpa using this);subst hx
    have G0:Grp K C B H1 H1' σ (E.set j .no) j 0 [] [] l []:=⟨h1,hl,hl0,hlb,rfl,rfl,Qu _,fun m a ds q=>by simp at q,by simp,fun i s a q o q' m=>by
     rw[Gg] at q
     by_cases c:j=i
     ·rw[if_pos c] at q
      by_cases hl:j<E.length
      ·rw[if_pos hl] at q;have q':=QS q;rw[<- q'] at o;exact absurd o QH
      ·rw[if_neg hl] at q;exact absurd q (by simp)
     ·rw[if_neg c] at q;have:a=l:=by simpa using m
      subst this;exact I1.sep j i _ s (.ref a) c h q rfl o h1 q'⟩
    refine⟨fun i k σ' H'=>k=ds.length-i/\i<=ds.length/\∃H0' E1 ks1 dss1 l ls,EnvR K C B H0' H' σ' E1/\SStep B H1 H0' H'/\Grp K C B H0' H' σ' E1 j i ks1 dss1 l ls/\Wt p ek ev (ds.drop i) E1 ks1 dss1=some (E',ks,dss),
     ⟨ds.length,by simp,GL _,H1,E.set j .no,[],[],l,[],I1.unslot j,.refl (I.b.trans s1.h) s1.i,G0,e2⟩,?_⟩
    rintro i k σ' H' ⟨rfl,hi',H0',E1,ks1,dss1,l,ls,I',st,G,er⟩;have stop:=ok H0' H' st
    by_cases hlt:i<ds.length
    ·have hd:ds[i]?=some ds[i]:=by simp[hlt]
     obtain⟨go,yl⟩:=stop.1 i _ hd;refine .inr ⟨go,fun σ2 H2=>∃H0' E1 ks1 dss1 l ls,EnvR K C B H0' H2 σ2 E1/\SStep B H1 H0' H2/\Grp K C B H0' H2 σ2 E1 j (i+1) ks1 dss1 l ls/\Wt p ek ev (ds.drop (i+1)) E1 ks1 dss1=some (E',ks,dss),fun σ2 H2 h=>⟨ds.length-(i+1),by omega,rfl,hlt,h⟩,fun x H2 y=>?_⟩;obtain⟨H02,st2,rx⟩:=yl x H2 y;rw[L5 hlt,Wt] at er;obtain⟨E2,b1,er⟩:=bind_some er;obtain⟨n,b2,er⟩:=bind_some er;obtain⟨s,b3,er⟩:=bind_some er
     obtain⟨dv,b4,er⟩:=bind_some er;obtain⟨sn,b5,b6⟩:=bind_some b2;have b7:=UR b6;subst b7;have ss2:SStep B H0' H02 H2:=st2.ss I'.b;refine hg B H02 H2 σ' E1 E2 x _ _ (I'.step st2) rx b1 fun σ2 I2 lf=>?_
     exact JjJ hk hv I2 ((G.step st2).left lf) (by omega) b5 b3 b4 fun H03 H3 ls' ss I3 G3=>⟨H03,E2,_,_,l,ls',I3,(st.trans ss2).trans ss,G3,er⟩
    ·have hd:ds.drop i=[]:=List.drop_eq_nil_of_le (by omega)
     have hin:i=ds.length:=by omega
     rw[hd,Wt] at er;have er':=QS er;cases er';obtain⟨d1,d2⟩:=G.done I' hjl;refine .inl ⟨by rw[hin];exact stop.2,f σ' _ H' (((s1.ss I.b).trans st).trans d1) d2⟩
   ·cases e
  ·cases e
 ·cases e
end LE
namespace L2
open PySem PySem.Spec PyProof.Rows
noncomputable def Y3:List Int->List Int->Bool
 | [],_=>true
 | _::_,[]=>false
 | x::xs,y::ys=>if x=y then Y3 xs ys else decide (x<=y)
def V4(x y:Int)(xs ys:List Int):Y3 (x::xs) (y::ys)=if x=y then Y3 xs ys else decide (x<=y):=rfl
def JkC(A:QM)(s:Qg)(a:Int)(t:Tok)(c:Int)(u:Tok)(prog:Qy)(w:QP)(E:Qe->Qg->Prop)(Q:Qe->Qg->Prop)(h:Q (.bool (decide (a<=c))) s) :
 wpAny (model prog w) A (richCompare .LtE (.int a t) (.int c u)) Q E s :=
 (PyProof.Rows.le_int h:wpAny (model prog w) A (compareOp .LtE (.int a t) (.int c u)) Q E s)
section
open PySem.SeqAt
open PySem.AutoSeq1 (wpAny_loadPart')
open PySem.MeetsSeq PySem.MeetsSeq2 PySem.MeetsSeq3
def Ja9(l b:Qh)(items items2:Array Qe)(n n2:Nat)(dd dd2:Option Qh)(sl sl2:Array (Option Qe))(ns ms:List Int)(hi:IntsAre items.toList ns)(hj:IntsAre items2.toList ms) :
 Meets (Builtin.«tuple.__le__» ⟨[.ref l,.ref b],[]⟩)
  (fun _ R s=>s.heap.get? l=some { cls:=.type "tuple",dict:=dd,data:=.seq items n,slots:=sl }/\s.heap.get? b=some { cls:=.type "tuple",dict:=dd2,data:=.seq items2 n2,slots:=sl2 } ∧
   R (.ok (.ret (.bool (Y3 ns ms)))) s) :=
 .of_wp fun prog w A R s h=>by
  obtain⟨hp,g,d,tk,os⟩:=s;obtain⟨hl,hb,h⟩:=h;have f2:=AutoSeq1.sub_tuple_tuple;have z1:items.size=ns.length:=by rw[<- hi.length];simp
  have z2:items2.size=ms.length:=by rw[<- hj.length];simp
  wp_walk using LJ hl,LJ hb,wpAny_forIn_list _ (fun rest b s'=>b.1=none/\s'=⟨hp,g,d,tk,os⟩/\∃(vs ws:List Qe) (ns' ms':List Int),rest=vs.zip ws ∧
   IntsAre vs ns'/\IntsAre ws ms'/\ns'.length+items2.size=ms'.length+items.size/\R (.ok (.ret (.bool (Y3 ns' ms')))) ⟨hp,g,d,tk,os⟩) _
  case turn =>
   rintro⟨y,x⟩ rest b s' ⟨hb',rfl,vs,ws,ns',ms',hz,hvi,hwi,hlen,hR⟩
   cases hvi with
   | nil=>rw[List.zip_nil_left] at hz;cases hz
   | cons a t hvi' =>
    cases hwi with
    | nil=>rw[List.zip_nil_right] at hz;cases hz
    | cons c u hwi' =>
     rw[List.zip_cons_cons] at hz
     injection hz with hyx hrest
     injection hyx with hy hx
     subst hy hx;rw[V4] at hR;simp only[Qv] at hlen;obtain⟨e,he,hiff⟩:=HT.Jjo A.in1 ⟨hp,g,d,tk,os⟩ a t c u;refine Qa (he prog w _ _ ?_)
     cases e with
     | true=>rw[if_pos (hiff.mp rfl)] at hR;wp_walk;exact⟨rfl,rfl,_,_,_,_,hrest,hvi',hwi',by omega,hR⟩
     | false=>rw[if_neg (fun q=>absurd (hiff.mpr q) QH)] at hR;have hri:=JkC A.in1 ⟨hp,g,d,tk,os⟩ a t c u prog w;wp_walk using hri;exact⟨_,rfl,by simpa using hR⟩
  case fin =>
   rintro⟨b1,b2⟩ s' ⟨hb',rfl,vs,ws,ns',ms',hz,hvi,hwi,hlen,hR⟩;simp only at hb';subst hb'
   have hv:Y3 ns' ms'=decide (items.size<=items2.size):=by
    cases hvi with
    | nil=>simp only[KB] at hlen;rw[show Y3 [] ms'=true from rfl];exact(decide_eq_true (by omega)).symm
    | cons a t hv =>
     cases hwi with
     | nil=>simp only[KB,Qv] at hlen;rw[show Y3 (_::_) []=false from rfl];exact(decide_eq_false (by omega)).symm
     | cons c u hw=>rw[List.zip_cons_cons] at hz;cases hz
   rw[hv] at hR;wp_walk;exact⟨_,rfl,by simpa [Builtin.Tuple.tupleCompareSizes] using hR⟩
  case h=>exact⟨rfl,rfl,items.toList,items2.toList,ns,ms,rfl,hi,hj,by omega,h⟩
end
def Jft(hl:s.heap.IsTuple l items)(hb:s.heap.IsTuple b items2)(hi:IntsAre items.toList ns)(hj:IntsAre items2.toList ms)(hu:A.units<cLine)(h:Q (.bool (Y3 ns ms)) s):wpAny (model prog w) A (compareOp .LtE (.ref l) (.ref b)) Q E s:=by
 obtain⟨⟨cls,dd,data,sl⟩,ho,hc,n,hd⟩:=id hl;obtain⟨⟨cls2,dd2,data2,sl2⟩,ho2,hc2,n2,hd2⟩:=id hb;simp only at hc hd hc2 hd2;subst hc hd hc2 hd2;exact richCompare_meets_room (op:=.LtE) ⟨_,ho,rfl⟩ ⟨_,ho2,rfl⟩ PySem.F.slot_tuple_le PySem.F.entry_tuple_le (PySem.F.args_tuple_le_2 _ _) (Ja9 l b items items2 n n2 dd dd2 sl sl2 ns ms hi hj)
  ⟨ho,ho2,show Value.bool (Y3 ns ms)≠Value.notImplemented/\Q (.bool (Y3 ns ms)) s from⟨(fun x=>nomatch x),h⟩⟩ hu
noncomputable def JrT(K:Qz):R2:=fun x y H Q=>∃a b ns ms,x=.ref a/\y=.ref b/\SqT K H a (ns.map V.int)/\SqT K H b (ms.map V.int)/\Q (.bl (Y3 ns ms)) H
def JpR{X:Cx}{K:Qz}(hK:X.K=K)(hu:X.A.units<cLine):OpR X (compareOp .LtE) (JrT K):=by subst hK;intro pins s σ H x y v u Q I rx ry h;obtain⟨a,b,ns,ms,rfl,rfl,ha,hb,q⟩:=h;cases rx;cases ry;obtain⟨its,r1,p1,_⟩:=I.tuple ha;obtain⟨its2,r2,p2,_⟩:=I.tuple hb;have i1:IntsAre its.toArray.toList ns:=Yw r1;have i2:IntsAre its2.toArray.toList ms:=Yw r2;exact Jft p1 p2 i1 i2 hu ⟨.bl (Y3 ns ms),H,I,rfl,q⟩
end L2
namespace LE
open PySem L2 LR
noncomputable def Jjv:Sl->Sl->Option Sl
 | .sh (.tup ds),.sh (.tup es)=>(ints? ds).bind fun ns=>(ints? es).map fun ms=>.sh (.bl (Y3 ns ms))
 | _,_=>none
theorem RDL.ints'{H:Hp}:∀{xs:List V} {ns:List Int},RDL K C H xs (ns.map .int)->xs=ns.map V.int
 | [],[],_=>rfl
 | [],_::_,r=>by have:=r.1;simp at this
 | _::_,[],r=>by have:=r.1;simp at this
 | x::xs,n::ns,r=>by have h1:RD K C H x (.int n):=r.head;rw[RD.intI h1,RDL.ints' (ns:=ns) r.tail];rfl
def JrF:OpS K C (JrT K) Jjv:=by
 intro Hs H0 H x y a b c Q i hs ra rb e q;unfold Jjv at e;split at e
 ·obtain⟨ns,e1,e⟩:=bind_some e;obtain⟨ms,e2,e⟩:=Q0.mp e;subst e;have h1:=YA e1;have h2:=YA e2;subst h1 h2;obtain⟨p,xs,rfl,s1,r1⟩:=RD.tupI ra;obtain⟨p',ys,rfl,s2,r2⟩:=RD.tupI rb;have z1:=RDL.ints' r1;have z2:=RDL.ints' r2;subst z1 z2;exact⟨p,p',ns,ms,rfl,rfl,i.seqT s1,i.seqT s2,q _ _ _ (.refl i) (.bl _)⟩
 ·cases e
def Jl2(a b c d:Int):Jjv (.sh (.tup [.int a,.int b])) (.sh (.tup [.int c,.int d]))=some (.sh (.bl (if a=c then decide (b<=d) else decide (a<=c)))):=by
 show some (Sl.sh (.bl (Y3 [a,b] [c,d])))=_;rw[V4];split
 ·rw[V4];split
  ·next h=>rw[h];simp[Y3]
  ·rfl
 ·rfl
end LE
namespace L2
open PySem PySem.Spec PyProof.Rows
noncomputable def JnZ(i j:Int):Prop:=i.natAbs<=10 ^ 200/\j.natAbs<=10 ^ 200
def Jgj(h:i.natAbs<=10 ^ 200):Xg i<=2 ^ 20:=by
 unfold Xg;split
 ·exact GL _
 ·next hz =>
  have h0:i.natAbs≠0:=fun z=>hz (by simp;omega)
  have h1:i.natAbs.log2<1000:=by rw[Nat.log2_lt h0];exact Kv h (by decide +kernel)
  have:(1000:Nat)<=2 ^ 20:=by decide +kernel
  omega
def Jg5:OpR X (binaryOp .Mult) (rI JnZ fun i j=>.int (i*j)):=opI fun _ _ _ _ _ _ _ hc q=>mul_int q (IntMulOk.of_bits (Jgj hc.1) (Jgj hc.2))
end L2
namespace LE
open PySem L2 LR
noncomputable def Vi(a:Int):Bool:=Nat.ble a.natAbs (10 ^ 200)
noncomputable abbrev JdE:=fIc (fun a b=>Vi a && Vi b) fun a b=>.int (a*b)
def JpH:OpS K C (rI JnZ fun i j=>.int (i*j)) JdE:=Jiq (fun i j h=>by simp only[QR,Vi,Lm] at h;exact h) fun _ _ _=>.int _
def Jjx(h:a.natAbs<=10 ^ 200/\b.natAbs<=10 ^ 200):JdE (.sh (.int a)) (.sh (.int b))=some (.sh (.int (a*b))):=by show(if (Vi a && Vi b)=true then _ else _)=_;rw[if_pos];rw[QR];exact⟨Lm.mpr h.1,Lm.mpr h.2⟩
end LE
namespace L2
open PySem PySem.Spec PyProof.Rows PySem.Calls
noncomputable def Jhg:V->List V->Hp->VK->Prop:=fun x vs H Q=>∃(l:Qh) (ns:List Int) (b:Int),x=.ref l/\vs=[.int b]/\H l=some (.lst (ns.map V.int))/\Q (.int (ns.count b:Nat)) H
theorem Zh(b:Int):∀{vs:List Qe} {ns:List Int},IntsAre vs ns->vs.countP (isInt b)=ns.count b
 | _,_,.nil=>rfl
 | _,_,.cons n t h=>by rw[List.countP_cons,Zh b h,QV];rfl
def Jio:MtR X "list.count" Jhg:=by
 intro pins s σ H x vs v us Q I rx rv h;obtain⟨l,ns,b,rfl,rfl,hH,q⟩:=h;cases rx;obtain⟨u,rfl,hu⟩:=rv.one;obtain⟨t,rfl⟩:=hu;obtain⟨z,its,n,r,hl,e⟩:=I.lstM hH;have ia:=Yw r;refine call_meets F.slot_list_count ⟨_,e,rfl⟩ F.entry_list_count (F.args_list_count_2 _ _) (MeetsSeq.list_count l its.toArray n (.int b t) (isInt b) (fun y hy=>eq_isInt b t ia y (by simpa using hy))) ⟨e,?_⟩;refine⟨.int (ns.count b:Nat),H,I.tok _,⟨s.toks,?_⟩,q⟩;show Value.int ((its.countP (isInt b):Nat):Int) s.toks=_
 rw[Zh b ia]
end L2
namespace LE
open PySem L2 LR
noncomputable def eMI(f:List Int->Int->Option Int)(o a:Ev):Ev:=fun E=>(o E).bind fun s=>(lst? s).bind fun ds=>(ints? ds).bind fun ns=>(a E).bind fun y=>(int? y).bind fun b=>(f ns b).map fun i=>.sh (.int i)
noncomputable def JdC(ns:List Int)(b:Int):Option Int:=some (ns.count b:Nat)
def JsR(hm:∀(l:Qh) (ns:List Int) (b:Int) (i:Int) (H:Hp) (Q:VK),H l=some (.lst (ns.map V.int))->f ns b=some i->Q (.int i) H->rm (.ref l) [.int b] H Q)(ho:SE K C to eo)(ha:SE K C te ea):SE K C (tBM K "list" rm to (Ur te VU)) (eMI f eo ea):=by
 intro B H0 H σ E r Q I e q;obtain⟨s,e1,e⟩:=bind_some e;obtain⟨ds,e2,e⟩:=bind_some e;obtain⟨ns,e3,e⟩:=bind_some e;obtain⟨y,e4,e⟩:=bind_some e;obtain⟨b,e5,e⟩:=bind_some e;obtain⟨i,e6,rfl⟩:=map_some e;refine ho B H0 H σ E s _ I e1 fun x H1 H1' s1 r1=>?_
 obtain⟨l,xs,rfl,hl,rl⟩:=r1.lst s1.i e2;refine⟨.inl ⟨rfl,_,.of hl⟩,?_⟩;refine ha B H1 H1' σ E y _ (I.step s1) e4 fun u H2 H2' s2 r2=>?_
 rw[UR e5] at r2;cases RD.intI r2;rw[YA e3] at rl;have hx:=RDL.ints rl;subst hx;exact hm l ns b i H2' Q (s2.h _ _ hl) e6 (q _ _ _ (s1.trans s2) (RD.int i))
def JkJ(ho:SE K C to eo)(ha:SE K C te ea):SE K C (tBM K "list" Jhg to (Ur te VU)) (eMI JdC eo ea) :=
 JsR (fun l ns b i H Q h e q=>by cases e;exact⟨l,ns,b,rfl,rfl,h,q⟩) ho ha
end LE
namespace L2
open PySem PySem.W PyProof.Rows
structure Pm (p:Array Nat) (N:Nat):Prop where
 size:p.size=N
 low:∀a,a<N->p.getD a 0<N
 inj:∀a b,a<N->b<N->p.getD a 0=p.getD b 0->a=b
def JpF{l:List Nat}(nd:l.Nodup)(h1:a<l.length)(h2:b<l.length)(e:l[a]=l[b]):a=b:=by
 rcases Mt a b with c|c|c
 ·exact absurd e (G2.mp nd a b h1 h2 c)
 ·exact c
 ·exact absurd e.symm (G2.mp nd b a h2 h1 c)
def Pm.of{p:Array Nat}{N:Nat}(h:p.toList.Perm (Q1 N)):Pm p N:=by
 have hz:p.size=N:=by have:=h.length_eq;simpa using this
 have get:∀a,a<N->p.toList[a]?=some (p.getD a 0):=fun a ha=>by rw[Kb,KE (by omega)];simp[MZ,show a<p.size by omega]
 refine⟨hz,fun a ha=>?_,fun a b ha hb e=>?_⟩
 ·have:=h.mem_iff.mp (QI (get a ha))
  simpa using this
 ·have nd:p.toList.Nodup:=h.nodup_iff.mpr List.nodup_range
  have ga:=get a ha
  have gb:=get b hb;rw[e] at ga;obtain⟨h1,e1⟩:=Qo.mp ga;obtain⟨h2,e2⟩:=Qo.mp gb;exact JpF nd h1 h2 (e1.trans e2.symm)
noncomputable def Asc(lt:Nat->Nat->Bool)(p:Array Nat)(m:Nat):Prop:=∀a b,a<b->b<m->lt (p.getD a 0) (p.getD b 0)=true
noncomputable def Dsc(lt:Nat->Nat->Bool)(p:Array Nat)(m:Nat):Prop:=∀a b,a<b->b<m->lt (p.getD b 0) (p.getD a 0)=true
noncomputable def Rt(N:Nat)(lt:Nat->Nat->Bool)(I:Qg->Prop)(cmp:Nat->Nat->(Bool->Qg->Prop)->Qg->Prop):Prop:=∀i j (C:Bool->Qg->Prop) s,I s->i<N->j<N->(∀s',I s'->C (lt i j) s')->cmp i j C s
def Jmb{p q:Array Nat}(h:p[a]?=q[b]?):p.getD a 0=q.getD b 0:=by rw[Kg,Kg,h]
def Jnj(P:Pm p N)(hm:m<=N)(h:Dsc lt p m):Asc lt (kas_rev p 0 m) m:=by
 have g:∀k,k<m->(kas_rev p 0 m).getD k 0=p.getD (m-1-k) 0:=fun k hk=>Jmb (by unfold kas_rev;rw[getElem?_mirror_all (by rw[P.size];exact hm) k];rw[if_pos ⟨by omega,hk⟩];congr 1;omega)
 intro a b ab hb;rw[g a (by omega),g b hb];exact h (m-1-b) (m-1-a) (by omega) (by omega)
def JaA(h:p.toList.Perm (Q1 N))(i j:Nat):(kas_rev p i j).toList.Perm (Q1 N):=((mirror_perm p i j _).toList).trans h
def JhJ(h:N<2):Asc lt p N:=fun a b h1 h2=>by omega
def JkQ(vs:List Qe):(Q1 vs.length).map (fun i=>vs.getD i Value.none)=vs:=by
 refine GJ fun i=>?_
 rw[Qq]
 by_cases h:i<vs.length
 ·rw[List.getElem?_range h,Ld,QB h];simp[h]
 ·rw[Gz (by simpa using h),Gz (by omega)];rfl
noncomputable abbrev PrI:=Int×Int
end L2
namespace L2
open PySem PySem.Spec PySem.W PyProof.Rows
def JiL(r:Vals vs us)(p:List Nat)(h:∀i∈p,i<vs.length):Vals (p.map fun i=>vs.getD i .non) (p.map fun i=>us.getD i Value.none):=by
 induction p with
 | nil=>exact .nil
 | cons i p ih =>
  have hi:=h i Qf;refine .cons ?_ (ih fun j hj=>h j (Qc _ hj));obtain⟨u,hu,rel⟩:=r.get (QB hi)
  have e1:vs.getD i .non=vs[i]:=by simp[hi]
  have e2:us.getD i Value.none=u:=by rw[GC,hu];rfl
  show RelV (vs.getD i .non) (us.getD i Value.none);rw[e1,e2];exact rel
noncomputable abbrev pk(p:PrI):List Key:=LE.dtK p
end L2
namespace L2
open PySem
noncomputable def Ris(xs:Array Nat):Prop:=xs.toList.Pairwise (·<·)
def Ris.lt{xs:Array Nat}(r:Ris xs){i j:Nat}(h:i<j)(hj:j<xs.size):xs[i]'(by omega)<xs[j]:=by
 have:=G2.mp r i j (by simp;omega) (by simpa using hj) h
 simpa using this
theorem Je4(r:Ris xs)(j:Nat):∀(fuel lo hi:Nat),hi-lo<=fuel->lo<=hi->hi<=xs.size->(∀i,(h:i<xs.size)->i<lo->xs[i]<j)->(∀i,(h:i<xs.size)->hi<=i->j<=xs[i]) ->
 ∃p,Xx xs j fuel lo hi=p/\p<=xs.size/\(∀i,(h:i<xs.size)->i<p->xs[i]<j)/\∀i,(h:i<xs.size)->p<=i->j<=xs[i]
 | 0,lo,hi,hf,h1,h2,ha,hb=>⟨lo,rfl,by omega,ha,fun i hi' hp=>hb i hi' (by omega)⟩
 | fuel+1,lo,hi,hf,h1,h2,ha,hb=>by
  unfold Xx
  by_cases c:lo<hi
  ·rw[if_pos c];have hm:(lo+hi) / 2<xs.size:=by omega
   have e:xs.getD ((lo+hi) / 2) j=xs[(lo+hi) / 2]:=by simp[MZ,hm]
   dsimp only;rw[e]
   by_cases d:xs[(lo+hi) / 2]<j
   ·rw[if_pos d];refine Je4 r j fuel _ _ (by omega) (by omega) h2 (fun i h hi'=>?_) hb;rcases Lh i ((lo+hi) / 2) with q|q
    ·exact Ke (r.lt q hm) d
    ·have:i=(lo+hi) / 2:=by omega
     subst this;exact d
   ·rw[if_neg d];refine Je4 r j fuel _ _ (by omega) (by omega) (by omega) ha (fun i h hi'=>?_);rcases Lh ((lo+hi) / 2) i with q|q
    ·exact Gm (LW.mp d) (GW (r.lt q h))
    ·have:i=(lo+hi) / 2:=by omega
     subst this;exact LW.mp d
  ·rw[if_neg c];exact⟨lo,rfl,by omega,ha,fun i hi' hp=>hb i hi' (by omega)⟩
def bel(r:Ris xs)(j:Nat):Gj xs j<=xs.size/\(∀i,(h:i<xs.size)->i<Gj xs j->xs[i]<j)/\∀i,(h:i<xs.size)->Gj xs j<=i->j<=xs[i]:=by obtain⟨p,e,h1,h2,h3⟩:=Je4 r j xs.size 0 xs.size (by omega) (by omega) (Qu _) (fun i _ h=>by omega) (fun i h h'=>by omega);have e':Gj xs j=p:=e;rw[e'];exact⟨h1,h2,h3⟩
def JiZ(r:Ris xs)(hi:i<xs.size):Gj xs (xs[i]+1)=i+1:=by
 obtain⟨h1,h2,h3⟩:=bel r (xs[i]+1);rcases Mt (Gj xs (xs[i]+1)) (i+1) with c|c|c
 ·have:=h3 i hi (by omega);omega
 ·exact c
 ·have l:i+1<xs.size:=by omega
  have:=h2 (i+1) l c
  have:=r.lt (i:=i) (j:=i+1) (GY i) l;omega
def Ji0(r:Ris xs):Gj xs 0=0:=by
 obtain⟨h1,h2,h3⟩:=bel r 0;rcases Nat.eq_zero_or_pos (Gj xs 0) with c|c
 ·exact c
 ·have:=h2 0 (by omega) c;omega
def Jnk(r:Ris xs)(no:xs[Gj xs j]?≠some j):Ris (SetTable.insertAt xs (Gj xs j) j):=by
 obtain⟨h1,h2,h3⟩:=bel r j;unfold Ris;rw[SetTable.toList_insertAt];have r':=r;unfold Ris at r';rw[<- List.take_append_drop (Gj xs j) xs.toList] at r';obtain⟨ra,rb,rc⟩:=Kw.mp r'
 have low:∀x∈xs.toList.take (Gj xs j),x<j:=fun x hx=>by obtain⟨i,hi,e⟩:=GD.mp hx;rw[K1,QU] at hi;rw[List.getElem_take,R7] at e;rw[<- e];exact h2 i (by omega) (by omega)
 have high:∀x∈xs.toList.drop (Gj xs j),j<x:=fun x hx=>by
  obtain⟨i,hi,e⟩:=GD.mp hx;rw[Rp,QU] at hi;rw[List.getElem_drop,R7] at e;have g:=h3 (Gj xs j+i) (by omega) (by omega);rw[e] at g;rcases Lh j x with q|q
  ·exact q
  ·exfalso
   have ex:x=j:=by omega
   apply no
   have b0:Gj xs j<xs.size:=by omega
   rw[KE b0];have g0:=h3 (Gj xs j) b0 (Qu _);rcases Nat.eq_zero_or_pos i with z|z
   ·subst z;simp only[Nat.add_zero] at e;rw[e,ex]
   ·have:=r.lt (i:=Gj xs j) (j:=Gj xs j+i) (by omega) (by omega);rw[e] at this;omega
 refine Kw.mpr ⟨ra,QL.mpr ⟨high,rb⟩,fun a ha b hb=>?_⟩;rcases Qk.mp hb with e|e
 ·rw[e];exact low a ha
 ·exact rc a ha b e
noncomputable def Vac(t:SetTable)(j:Nat):Prop:=t.place[Gj t.place j]?≠some j
def JeI(h:∀i,t.slot j≠.live i):Vac t j:=by intro e;refine h (Gj t.place j) ?_;unfold SetTable.slot;dsimp only;rw[e];simp
def Jbf(t:SetTable)(p:SetTable.Probe):(t.advance p).dummy=p.dummy:=by unfold SetTable.advance;split <;> rfl
theorem W6:∀(fuel:Nat) (p:SetTable.Probe) {j:Nat} {d:Option Nat},(∀x,p.dummy=some x->Vac t x)->Rf t hashAt h fuel p=some (.empty j d)->Vac t j/\∀x,d=some x->Vac t x
 | 0,p,j,d,hp,e=>by simp[Rf] at e
 | fuel+1,p,j,d,hp,e=>by
  unfold Rf at e;split at e
  ·rename_i c
   injection e with e
   injection e with e1 e2
   subst e1 e2;exact⟨JeI fun i q=>(by rw[c] at q;cases q),hp⟩
  ·rename_i c;refine W6 fuel _ (fun x hx=>?_) e;rw[Jbf] at hx
   injection hx with hx
   subst hx;exact JeI fun i q=>by rw[c] at q;cases q
  ·split at e
   ·injection e with e;cases e
   ·exact W6 fuel _ (fun x hx=>hp x (by rwa [Jbf] at hx)) e
def JjD(e:t.freeSlot h=some (j,b)):Vac t j:=by
 unfold SetTable.freeSlot at e;split at e
 ·rename_i j' d c
  injection e with e
  injection e with e1 _
  unfold SetTable.probe at c;obtain⟨a1,a2⟩:=W6 _ _ (fun x hx=>by simp[SetTable.probeStart] at hx) c
  cases d with
  | none=>simp at e1;subst e1;exact a1
  | some x=>simp at e1;subst e1;exact a2 _ rfl
 ·cases e
noncomputable def TOk(led:Bool)(t:SetTable):Prop:=(t.plain=true->Ris t.place)/\t.led=led
def VQ(led:Bool)(t:SetTable)(n:Nat)(h:t.led=led):TOk led (t.standIn n):=⟨fun e=>by simp[SetTable.standIn] at e,h⟩
def Jlf(h:TOk led t):TOk led { t with plain:=false }:=⟨fun e=>by simp at e,h.2⟩
def JnP(h:TOk led t)(es:Array (Int×Qe))(k:Int)(x:Qe):TOk led (layNew t es k x).2.1:=by
 unfold layNew;split
 ·rename_i j b c;dsimp only;unfold SetTable.orStandIn;split
  ·exact⟨fun e=>Jnk (h.1 (by simpa [Xy] using e)) (JjD c),by simpa [Xy] using h.2⟩
  ·exact VQ _ _ _ (by simpa [Xy] using h.2)
 ·exact VQ _ _ _ h.2
theorem Jak(g:Nat->Option Nat):∀l:List Nat,((l.filterMap fun j=>(g j).map (j,·)).map (·.1)).Sublist l
 | []=>.slnil
 | j::l=>by
  rw[KS]
  cases h:g j with
  | none=>exact(Jak g l).cons _
  | some k=>exact(Jak g l).cons₂ _
def Jlg{t:SetTable}{mask f m:Nat}{led plain:Bool}{hs:Array Int}{o:Array Nat}(e:Xi mask f m led plain hs=some (t,o)):TOk led t:=by
 unfold Xi at e
 cases c:SetTable.layClean mask hs with
 | none=>rw[c] at e;cases e
 | some ow =>
  rw[c] at e;have e':some _=some (t,o):=e
  injection e' with e'
  injection e' with e1 e2
  subst e1;refine⟨fun _=>?_,rfl⟩;show List.Pairwise _ _;refine List.Pairwise.sublist (Jak _ _) ?_;exact RK
def JiI(h:TOk led t)(es:Array (Int×Qe))(n:Nat):TOk led (relayAll t es n).2.1:=by
 unfold relayAll;split
 ·rename_i t' o c;dsimp only;split
  ·have:=Jlg (show Xi _ _ _ _ _ _=some (t',o) from c);rw[h.2] at this;exact this
  ·exact VQ _ _ _ h.2
 ·exact VQ _ _ _ h.2
def JiH(a b:Nat)(led:Bool):TOk led (.fresh a b led):=⟨fun _=>List.Pairwise.nil,rfl⟩
theorem Z0{α:Type}:∀{l:List α} {i:Nat} (h:i<l.length),(l[i]::l.eraseIdx i).Perm l
 | x::l,0,_=>.refl _
 | x::l,i+1,h=>by have:=Z0 (l:=l) (i:=i) (by simpa using h);exact(List.Perm.swap x (l[i]'(by simpa using h)) _).trans (this.cons x)
theorem Jg9{α:Type}(next:Nat->Nat):∀(fuel k:Nat) (left:List α) (out:Array α),left.length=fuel->(Xz next fuel k left out).toList.Perm (out.toList++left)
 | 0,k,left,out,h=>by have:left=[]:=QN h;subst this;simp[Xz]
 | fuel+1,k,left,out,h=>by
  unfold Xz;have hl:next k % left.length<left.length:=Nat.mod_lt _ (by omega)
  rw[QB hl];dsimp only;refine(Jg9 next fuel (k+1) _ _ (by rw[M0 hl];omega)).trans ?_;rw[Rc,Kc];refine List.Perm.append_left _ ?_;exact(Z0 hl)
def JbM{α:Type}(next:Nat->Nat)(xs:Array α):(pickOrder next xs).toList.Perm xs.toList:=by
 have:=Jg9 next xs.size 0 xs.toList #[] (by simp)
 simpa [pickOrder] using this
theorem Jbt{α:Type}:∀(n:Nat) (xs:List α) (s:Qg) (Q:List α->Qg->Prop),xs.length=n->(∀ys d,ys.Perm xs->Q ys { s with drawn:=d })->wpAny (model prog w) A (drawOrder n xs) Q E s
 | 0,xs,s,Q,hl,h=>by have:xs=[]:=QN hl;subst this;exact Qj (h [] s.drawn (.refl _))
 | n+1,xs,s,Q,hl,h=>by
  cases xs with
  | nil=>simp at hl
  | cons x xs =>
   show wpAny _ A ((choose .order (x::xs).length) >>= _) Q E s;refine Qa ?_;intro Γ p hΓ;unfold choose;rw[Sem.wp_choose];refine⟨by simp,?_⟩;rw[Sem.wp_pure]
   generalize hi:(model prog w).w.draws Source.order (s.drawn.get Source.order) % (x::xs).length=i
   have hlt:i<(x::xs).length:=by rw[<- hi];exact Nat.mod_lt _ (by simp)
   rw[QB hlt];show wpAny _ A (drawOrder n ((x::xs).eraseIdx i) >>= _) Q E _;refine Qa (Jbt n _ _ _ (by rw[M0 hlt];omega) fun ys d hp=>?_);refine Qj (h ((x::xs)[i]::ys) d ?_);exact(hp.cons _).trans (Z0 hlt)
end L2
namespace L2
open PySem PyProof.Rows
structure SetS (prog:Qy) (w:QP) (led:Bool) (h:Q2) (a:Qh) (S:Int->Bool) (n:Nat) (o:Obj) (es:Array (Int×Qe)) (ep:Nat) (t:SetTable):Prop where
 got:h.get? a=some o
 ex:o.ExactSet
 data:o.data=.set es ep t
 els:ElemsOf (intKind prog w) es.toList
 mem:∀k,S k=true↔∃e∈es.toList,(intKind prog w).is k e.2=true
 few:es.size<scanBound
 fits:t.fits es.size=true
 size:es.size=n
 tok:TOk led t
noncomputable def SetL(prog:Qy)(w:QP)(led:Bool)(h:Q2)(a:Qh)(S:Int->Bool)(n:Nat):Prop:=∃o es ep t,SetS prog w led h a S n o es ep t
def SetL.move(x:SetL prog w led h a S n)(e:∀o,h.get? a=some o->h'.get? a=some o):SetL prog w led h' a S n :=
 let ⟨o,es,ep,t,z⟩:=x;⟨o,es,ep,t,{ z with got:=e _ z.got }⟩
def SetL.as(x:SetL prog w led h a S n)(e:∀k,S k=S' k)(en:n=n'):SetL prog w led h a S' n':=by have:S=S':=funext e;subst this en;exact x
def JeC{h:Q2}{o:Obj}{es:Array (Int×Qe)}{ep:Nat}{t:SetTable}(ho:h.get? a=some o)(hex:o.ExactSet)(hd:o.data=.set es ep t){es':Array (Int×Qe)}{t':SetTable}{S':Int->Bool}
 (h1:ElemsOf (intKind prog w) es'.toList) (h2:∀k,S' k=true↔∃e∈es'.toList,(intKind prog w).is k e.2=true) (h3:es'.size<scanBound) (h4:t'.fits es'.size=true) (h5:TOk led t') :
 SetS prog w led (h.update a (Obj.putSet es' t')) a S' es'.size { o with data:=.set es' (ep+1) t' } es' (ep+1) t' :=
 ⟨(SetOf_store (knd:=intKind prog w) ho hex hd h1 h2 h3 h4).1,hex,rfl,h1,h2,h3,h4,rfl,h5⟩
def JeF{g:Bool->Sem Unit}(hg:∀(b:Bool) (s1:Qg) (Q:Unit->Qg->Prop),Q () s1->wpAny (model prog w) A (g b) Q E s1)
 {o:Obj} {es:Array (Int×Qe)} {ep:Nat} {t:SetTable} (ho:s.heap.get? a=some o) (hex:o.ExactSet) (hd:o.data=.set es ep t) {es1:Array (Int×Qe)} {t2:SetTable} {S':Int->Bool}
 (h1:ElemsOf (intKind prog w) es1.toList) (h2:∀k,S' k=true↔∃e∈es1.toList,(intKind prog w).is k e.2=true) (h3:es1.size<scanBound) (h4:t2.fits es1.size=true) (h5:TOk led t2) {dm:Bool} {R:Option Bool->Qg->Prop}
 (h:∀h',QK a s.heap h'->SetL prog w led h' a S' es1.size->R (some true) { s with heap:=h' }) :
 wpAny (model prog w) A (storeSet a es1 t2 >>= fun _=>if (!dm && t2.tooFull)=true then
  (g (relayAll t2 es1 (Lv es1.size)).2.2 >>= fun _=>storeSet a (relayAll t2 es1 (Lv es1.size)).1 (relayAll t2 es1 (Lv es1.size)).2.1 >>= fun _=>pure (some true))
  else pure (some true)) R E s:=by
 refine Qa (wpAny_storeSet_of ho hd ?_ (fits_of_scanBound h3));have z:=JeC (prog:=prog) (w:=w) ho hex hd h1 h2 h3 h4 h5;have sb:=Gb s.heap a (Obj.putSet es1 t2);split
 ·have hp:=relayAll_perm t2 es1 (Lv es1.size)
  have hf:=relayAll_fits t2 es1 (Lv es1.size)
  have hk:=JiI h5 es1 (Lv es1.size)
  generalize relayAll t2 es1 (Lv es1.size)=T at hp hf hk ⊢
  obtain⟨es2,t3,gv⟩:=T;dsimp only at hp hf hk ⊢;have sz:es2.size=es1.size:=by rw[<- QU,hp.length_eq,QU]
  refine Qa (hg _ _ _ ?_);refine Qa (wpAny_storeSet_of z.got rfl ?_ (fits_of_scanBound (by rw[sz];exact h3)));have z2:=JeC (prog:=prog) (w:=w) (led:=led) (S':=S') (es':=es2) (t':=t3) z.got hex rfl (h1.perm hp) (fun k=>(h2 k).trans ⟨fun⟨e,he,q⟩=>⟨e,hp.mem_iff.mpr he,q⟩,fun⟨e,he,q⟩=>⟨e,hp.mem_iff.mp he,q⟩⟩) (by rw[sz];exact h3) hf hk;rw[sz] at z2;exact Qj (h _ (sb.trans (Gb _ a _)) ⟨_,_,_,_,z2⟩)
 ·exact Qj (h _ sb ⟨_,_,_,_,z⟩)
def Jny{k:Int}{tk:Tok}{Q:Bool->Qg->Prop}(hS:SetL prog w led s.heap a S n)(room:n+1<scanBound)
 (h:∀h',QK a s.heap h'->SetL prog w led h' a (fun k'=>S k' || decide (k'=k)) (if S k then n else n+1)->Q (!S k) { s with heap:=h' }) :
 wpAny (model prog w) A (setAddHashed a (.int k tk) ((intKind prog w).hash k)) Q E s:=by
 have key:(intKind prog w).is k (.int k tk)=true:=intKind_is _ _ _ _;obtain⟨o,es,ep,t,z⟩:=hS
 have few1:es.size+1<scanBound:=by rw[z.size];exact room
 unfold setAddHashed setAddHashedIn;refine GO (Qa (Kp z.got z.data z.fits ?_));dsimp only;rw[byScan_of (x:=.int k tk) rfl z.few z.els];simp only[↓reduceIte];unfold setAddByScan;refine Qa (Qa (KG (Qa (wpAny_setScan_of key z.got z.data z.fits z.els ?_))))
 cases hr:List.findIdx? (fun e=>(intKind prog w).is k e.2) es.toList with
 | some j =>
  dsimp only;obtain⟨hj,hpj,_⟩:=List.findIdx?_eq_some_iff_getElem.mp hr;have yes:S k=true:=(z.mem k).mpr ⟨es.toList[j],Rr hj,hpj⟩;refine Qj (Qj ?_)
  have:=h s.heap (Xw a s.heap) (SetL.as ⟨o,es,ep,t,z⟩ (fun k'=>by
   cases hk:S k' with
   | true=>rfl
   | false =>
    have:k'≠k:=fun e=>by rw[e,yes] at hk;cases hk
    simp[this]) (by rw[yes];rfl))
  rw[yes] at this;exact this
 | none =>
  dsimp only
  have no:S k=false:=by
   cases hk:S k with
   | false=>rfl
   | true=>obtain⟨e,he,hp⟩:=(z.mem k).mp hk;have:=List.findIdx?_eq_none_iff.mp hr e he;rw[hp] at this;cases this
  have hp:=layNew_perm t es ((intKind prog w).hash k) (.int k tk)
  have hf:=layNew_fits t es ((intKind prog w).hash k) (.int k tk)
  have ht:=JnP z.tok es ((intKind prog w).hash k) (.int k tk)
  generalize layNew t es ((intKind prog w).hash k) (.int k tk)=L at hp hf ht ⊢
  obtain⟨es1,t1,dm,gv⟩:=L;dsimp only at hp hf ht ⊢;rw[Rc] at hp;have e1:ElemsOf (intKind prog w) es1.toList:=(z.els.push key rfl).perm hp;have m1:=mem_push_iff key z.mem hp;have sz1:es1.size=n+1:=by rw[<- QU,hp.length_eq,QA,QU,z.size];rfl
  have f1:es1.size<scanBound:=by rw[sz1];exact room
  have gw:∀(b:Bool) {s1:Qg} {Q':Unit->Qg->Prop},Q' () s1->wpAny (model prog w) A (match b with | true=>rule "set.scan.the-table-gave-way" | false=>pure ()) Q' E s1:=fun b s1 Q' hq=>by
   cases b
   ·exact Qj hq
   ·exact KG hq
  refine Qa (gw _ ?_)
  have fin:∀h',QK a s.heap h'->SetL prog w led h' a (fun k'=>S k' || decide (k'=k)) es1.size->Q true { s with heap:=h' }:=by intro h' sb hS';have:=h h' sb;rw[no] at this;rw[sz1] at hS';exact this hS'
  split
  ·refine Qa ?_;rw[hashByValue_scannable 8 (x:=.int k tk) rfl];refine Qj ?_;refine JeF (led:=led) ?_ z.got z.ex z.data e1 m1 f1 ?_ ?_ ?_
   ·intro b s1 Q' hq;cases b <;> first|exact Qj hq|exact KG hq
   ·split
    ·exact hf
    ·exact SetTable.fits_plain_off hf
   ·split
    ·exact ht
    ·exact Jlf ht
   ·intro h' sb hS';dsimp only;exact Qj (fin h' sb hS')
  ·refine Qa (Qj ?_);simp only[↓reduceIte];refine JeF (led:=led) ?_ z.got z.ex z.data e1 m1 f1 hf ht ?_
   ·intro b s1 Q' hq;cases b <;> first|exact Qj hq|exact KG hq
   ·intro h' sb hS';dsimp only;exact Qj (fin h' sb hS')
section
variable{prog:Qy}{w:QP}{A:QM}{R:MV->Qg->Prop}{I:Qh}{fp wr:List Qh}{G:Array GenState->Array GenState->Prop}{n:Nat}{P:Nat->Qe->Prop}{St:Nat->Qg->Prop}
def JkS{led:Bool}(W:WalksS prog w A.in1 I fp wr G n P St)(a:Qh)(hf:a∉fp)(val:Nat->Int)(hv:∀i v,P i v->∃t,v=.int (val i) t)(hb:n+1<scanBound) :
 ∀(k i:Nat) (s:Qg),n-i=k->i<=n->St i s->SetL prog w led s.heap a (fun k'=>(firstMet val i).any (· == k')) (firstMet val i).length ->
  (∀s',Moved (a::wr) G s s'->SetL prog w led s'.heap a (fun k'=>(firstMet val n).any (· == k')) (firstMet val n).length->R (.ok (.ret .none)) s') ->
  codeAny (model prog w) A (.builtin "set.update.loop" ⟨[.ref a,.ref I],[]⟩) R s:=by
 have hw:a∉wr:=fun h=>hf (W.sub _ h)
 have up:∀b∈wr,b∈a::wr:=fun b hb=>Qc _ hb
 intro k
 induction k with
 | zero =>
  intro i s hk hi st hS hR;obtain rfl:i=n:=by omega
  refine Ku Ry ?_;rw[GZ Ml _];show wpAny _ A.in1 (pyNext (.ref I) >>= _) _ _ s;exact Qa (W.done s _ _ st fun s' hm=>Qj (hR s' (hm.mono up) (hS.move fun o e=>hm.heap a _ hw e)))
 | succ k ih =>
  intro i s hk hi st hS hR;have lt:i<n:=by omega
  refine Ku Ry ?_;rw[GZ Ml _];show wpAny _ A.in1 (pyNext (.ref I) >>= _) _ _ s;refine Qa (W.item i s _ _ lt st fun v s' hP st' hm=>?_);obtain⟨t,rfl⟩:=hv i v hP;have hS':=hS.move (h':=s'.heap) fun o e=>hm.heap a _ hw e
  show wpAny _ A.in1 (holding [Value.int (val i) t] (setAdd a (.int (val i) t)) >>= _) _ _ s';refine Qa (GO ?_);unfold setAdd;refine GO (Qa ((intKind prog w).pyHash (k:=val i) (intKind_is _ _ _ _) ?_))
  have room:(firstMet val i).length+1<scanBound:=by have:=firstMet_length_le val i;omega
  refine Jny (s:={ s' with toks:=s'.toks+1 }) hS' room fun h' sb hS2=>?_
  have hS3:=hS2.as (S':=fun k'=>(firstMet val (i+1)).any (· == k')) (n':=(firstMet val (i+1)).length) (fun k'=>by rw[firstMet_succ,step_any]) (by rw[firstMet_succ,step_length]);refine Qj ⟨Kq Ml _,ih (i+1) _ (by omega) lt (W.frame _ s' _ _ st' (KY _) fun b hb o e=>?_) hS3 fun s'' hm'' hS''=>?_⟩
  ·rw[sb.2 b (fun h:b=a=>hf (by rw[<- h];exact hb))];exact e
  ·refine hR s'' (Moved.trans W.gtrans ((hm.mono up).then_heap (KY _) fun b o hb e=>?_) hm'') hS'';rw[sb.2 b (fun h:b=a=>hb (by rw[h];exact Qf))];exact e
end
noncomputable def YS(w:QP):Bool:=!(w.params.followText "set-order")
noncomputable def UM(led:Bool):Obj:={ cls:=.type "set",dict:=none,data:=.set #[] 0 (.fresh 0 0 led) }
def JkR(led:Bool)(e:h.get? a=some (UM led)):SetL prog w led h a (fun _=>false) 0 :=
 ⟨_,#[],0,_,e,⟨rfl,rfl,rfl⟩,rfl,fun e he=>by simp at he,fun k=>by simp,by decide,by rfl,rfl,JiH 0 0 led⟩
def JeE(a:Qe)(h:Q (.ref s.heap.objs.size) { s with heap:=s.heap.push (UM (YS w)) }):
 codeAny (model prog w) A (.call (.builtin "set.__new__") ⟨[.type "set",a],[]⟩) (wants Q E) s:=by
 refine codeAny_of_tree ?_;show wpAny _ A.in1 (checkBuiltinCall "set.__new__" ⟨[.type "set",a],[]⟩ >>= fun _=>again (.builtin "set.__new__" ⟨[.type "set",a],[]⟩)) _ _ s;refine Qa (KZ (F.newCall_set_1 a) (Qj ⟨Kq F.plain_set_new _,Ku F.entry_set_new ?_⟩));rw[GZ F.plain_set_new _];unfold Builtin.«set.__new__» Builtin.Frozenset.newClass;have hsub:=sub_set_self;obtain⟨hp,g,d,tk,os⟩:=s;dsimp only;wp_walk;refine Lw (Qj ?_)
 dsimp only;simp only[newObj];exact Qa (wpAny_alloc (Qj (Qj h)))
def JhT{l:Qh}{items:Array Qe}{ns:List Int}{Q:Qe->Qg->Prop}(hh:A.handled=none)(hl:s.heap.IsList l items)(hi:IntsAre items.toList ns)(hb:items.size+1<scanBound)
 (h:∀(h':Q2) (tk:Nat),SetL prog w (YS w) h' s.heap.objs.size (fun k'=>(firstMet (fun i=>ns.getD i 0) items.size).any (· == k')) (firstMet (fun i=>ns.getD i 0) items.size).length ->
  (∀b o,s.heap.get? b=some o->h'.get? b=some o)->Q (.ref s.heap.objs.size) { s with heap:=h',toks:=tk }) :
 wpAny (model prog w) A (call (.type "set") [.ref l]) Q E s:=by
 obtain⟨c,tl,hmro⟩:=LB.mro;have hmade:=LB.made;have hsub:=LB.sub;refine wpAny_call (codeAny_of_tree ?_);show wpAny _ _ (callAny (.type "set") _) _ _ _;refine Qj ⟨Code.quiet_builtin _ (by decide +kernel),Ku F.entry_type_call ?_⟩;rw[Around.under_plain (weight_type_call_type "set" [.ref l] []) rfl];have n1:=LB.notType;have n2:=LB.canCreate;have n3:=F.typeCall_set_1 (.ref l)
 repeat (any_goals (first|assumption|wp_step))
 refine Lz (JeE (.ref l) (E:=E) (Q:=fun obj s1=>obj=.ref s.heap.objs.size/\s1={ s with heap:=s.heap.push (UM (YS w)) }) ⟨rfl,rfl⟩) fun r s1 hr=>?_
 cases r with
 | error e=>exact hr
 | ok fl =>
  cases fl with
  | ret obj =>
   obtain⟨rfl,rfl⟩:=hr;have hS:(s.heap.push (UM (YS w))).get? s.heap.objs.size=some (UM (YS w)):=Qm _ rfl;have hT:Shared.TypeIs { s with heap:=s.heap.push (UM (YS w)) } (.ref s.heap.objs.size) "set":=⟨_,hS,rfl⟩
   have i1:=LB.init.lookup
   have i2:=LB.init.bind (.ref s.heap.objs.size)
   repeat (any_goals (first|assumption|wp_step))
   refine Lz (codeAny_call_builtin (R:=wants (fun r s2=>r=.none/\∃h' tk,s2={ s with heap:=h',toks:=tk } ∧
    SetL prog w (YS w) h' s.heap.objs.size (fun k'=>(firstMet (fun i=>ns.getD i 0) items.size).any (· == k')) (firstMet (fun i=>ns.getD i 0) items.size).length ∧
    (∀b o,s.heap.get? b=some o->h'.get? b=some o)) E) LB.init.plain F.entry_set_init (check_set_init_1 hT ?_)) fun r2 s2 hr2=>?_
   ·obtain⟨ol,hol,hcl,nl,hdl⟩:=hl;obtain⟨oc,od,oda,osl⟩:=ol;simp only at hcl hdl;subst hcl;subst hdl;have hol':(s.heap.push (UM (YS w))).get? l=some { cls:=.type "list",dict:=od,data:=.seq items nl,slots:=osl }:=Qi _ hol;have b1:=F.sub_list_set;have b2:=F.sub_list_frozenset;have b3:(Value.type "list" == Value.type "dict")=false:=by decide
    have hl1:(s.heap.push (UM (YS w))).IsList l items:=⟨_,hol',rfl,nl,rfl⟩
    unfold Builtin.«set.__init__» noKeywords Builtin.Frozenset.updateFrom
    generalize hPI:pyIter=PI
    wp_walk
    subst hPI;refine Mm hl1 (Qa (wpAny_runValue ?_));have lS:l<s.heap.objs.size:=Qn hol;have hh3:A.in1.in1.in1.handled=none:=by simp[hh]
    have neI:l≠(s.heap.push (UM (YS w))).objs.size:=by rw[Gy];exact QF (GQ lS)
    have off:s.heap.objs.size∉[(s.heap.push (UM (YS w))).objs.size,l]:=by rw[Gy];simp only[Qk,GK,Q9,or_false,not_or];exact⟨QF (GY _),Gn lS⟩
    refine JkS (led:=YS w) ((Walks.list hh3 _ l neI items).toS) s.heap.objs.size off (fun i=>ns.getD i 0) (fun i v hv=>IntsAre.int_at hi i v (by rw[Kb];exact hv)) hb (items.size-0) 0 _ (by omega) (GL _)
     ⟨⟨_,Qm _ rfl,rfl,rfl⟩,(hl1.push _)⟩ (JkR _ (Qi _ hS)) fun s' hm hS'=>?_
    obtain⟨h',g',d',tk',os'⟩:=s';have eg:g'=s.gens:=hm.gens;have ed:d'=s.drawn:=hm.drawn;have eo:os'=s.os:=hm.os;subst eg;subst ed;subst eo;show wpAny _ _ _ _ _ _;refine Qj ?_;show wpAny _ _ (ret Value.none) _ _ _;refine Qj ⟨rfl,h',tk',rfl,hS',fun b o e=>?_⟩;have hb0:=Qn e;refine hm.heap b o ?_ (Qi _ (Qi _ e));rw[Gy];simp only[Qk,GK,Q9,or_false,not_or]
    exact⟨QF hb0,QF (GQ hb0)⟩
   ·cases r2 with
    | error e=>exact hr2
    | ok fl2 =>
     cases fl2 with
     | ret r =>
      obtain⟨rfl,h',tk,rfl,hS',hk'⟩:=hr2
      repeat (any_goals (first|assumption|wp_step))
      exact h _ _ hS' hk'
     | _=>exact hr2.elim
  | _=>exact hr.elim
end L2
namespace L2
open PySem PyProof.Rows PySem.W
def si_slot_next:Slot "set_iterator" "__next__" "set_iterator.__next__" :=
 .of (owner:="set_iterator") (n:="__next__") (by rw[typeLookup_type,builtinLookup_eq_fast];kernel_rfl) (by decide +kernel) (by decide +kernel) (by decide +kernel) (.inl (by decide +kernel)) (by rw[Lr];kernel_rfl)
def VY:entryFor table "set_iterator.__next__"=some Builtin.«set_iterator.__next__»:=entryFor_of_tree (by kernel_rfl)
def JeH:Manifest.owners.lookup (String.ofList ['r','o','t','a','r','e','t','i','_','t','e','s'].reverse)=some Manifest.sig_set_iterator:=by kernel_rfl
def WF(a:Qe):argsOk "set_iterator.__next__" ⟨[a],[]⟩:=by
 unfold argsOk;rw[signature?_of (id:="set_iterator.__next__") (n:=['_','_','t','x','e','n','_','_']) (o:=['r','o','t','a','r','e','t','i','_','t','e','s']) (by kernel_rfl) JeH]
 kernel_rfl
def WG:Slot "set_iterator" "__iter__" "set_iterator.__iter__" :=
 .of (owner:="set_iterator") (n:="__iter__") (by rw[typeLookup_type,builtinLookup_eq_fast];kernel_rfl) (by decide +kernel) (by decide +kernel) (by decide +kernel) (.inl (by decide +kernel)) (by rw[Lr];kernel_rfl)
def Ja7:entryFor table "set_iterator.__iter__"=some Builtin.«dict_keyiterator.__iter__»:=entryFor_alias (id':="dict_keyiterator.__iter__") (by kernel_rfl) rfl (by decide +kernel) (by kernel_rfl)
def Jc0(a:Qe):argsOk "set_iterator.__iter__" ⟨[a],[]⟩:=by
 unfold argsOk;rw[signature?_of (id:="set_iterator.__iter__") (n:=['_','_','r','e','t','i','_','_']) (o:=['r','o','t','a','r','e','t','i','_','t','e','s']) (by kernel_rfl) JeH]
 kernel_rfl
def JaK:entryFor table "set.__iter__"=some Builtin.«frozenset.__iter__»:=entryFor_alias (id':="frozenset.__iter__") (by kernel_rfl) rfl (by decide +kernel) (by kernel_rfl)
noncomputable def SIt(h:Q2)(I d:Qh)(f:Qe)(i n ep:Nat):Prop:=∃o,h.get? I=some o/\o.cls=.type "set_iterator"/\o.data=.fields #[f,.int i 0,.ref d,.int n 0,.int ep 0]
section
variable{prog:Qy}{w:QP}{A:QM}{E:Qe->Qg->Prop}{s:Qg}{I d:Qh}{f:Qe}{i n ep:Nat}{es:Array (Int×Qe)}{t:SetTable}{o:Obj}
def SIt.type(x:SIt s.heap I d f i n ep):s.TypeIs (.ref I) "set_iterator":=let ⟨o,ho,hc,_⟩:=x;⟨o,ho,hc⟩
def SIt.at{h h':Q2}(x:SIt h I d f i n ep)(e:∀o,h.get? I=some o->h'.get? I=some o):SIt h' I d f i n ep:=let ⟨o,ho,r⟩:=x;⟨o,e _ ho,r⟩
def Jhp(hit:SIt s.heap I d f i n ep)(h:Q (.ref I) s):wpAny (model prog w) A (pyIter (.ref I)) Q E s:=by refine Ra hit.type WG (Q7 WG hit.type Ja7 ?_ (Jc0 _));show wpAny _ _ (ret (.ref I)) _ _ s;exact Qj ⟨_,rfl,"set_iterator",_,hit.type,si_slot_next.lookup,h⟩
def Jhq{Q:Option Qe->Qg->Prop}(hh:A.handled=none){h1:Q2}(hx:∀h',Lf I s.heap h'->Q none { s with heap:=h' })(he:Lf I s.heap h1) :
 wpAny (model prog w) A.in1 (newExc (.type "StopIteration") [] >>= fun e=>raiseNew e) (fun(fin:Fin) s'=>∃r,fin=.done (.ret r)/\wpAny (model prog w) A (pure (some r)) Q E s') (fun e s'=>wpAny (model prog w) A (isInstance e (.type "StopIteration") >>= fun b=>if b=true then pure none else throw e) Q E s') { s with heap:=h1 }:=by
 refine Qa ?_;simp only[newExc,newTuple];refine Qa (Ge ?_ (by size_fits));refine Qa (m:=firstArgMember _ _) (KZ (a:=Value.none) (by first | rfl | (simp only[firstArgMember];rfl)) ?_);refine Ge ?_ (by size_fits);simp only[raiseNew];refine Qa (wpAny_handled ?_);rw[show A.in1.handled=none from hh];refine Qa (Qj (wpAny_throw ?_));refine Qa (KH (T:="StopIteration") (b:=true) ⟨_,Qm _ rfl,rfl⟩ LX ?_)
 exact Qj (hx _ ((he.push _).push _))
def Jho{Q:Option Qe->Qg->Prop}{sl:Nat}{r:Option (Qe×Nat)}(hh:A.handled=none)(hit:SIt s.heap I d (.int sl 0) i es.size ep)(ho:s.heap.get? d=some o)(hd:o.data=.set es ep t)(hf:t.fits es.size=true)
 (nx:∀(A:QM) (E:Qe->Qg->Prop) (Q:Option (Qe×Nat)->Qg->Prop),Q r s->wpAny (model prog w) A (setNext d sl i ep) Q E s)
 (item:∀x j h',r=some (x,j)->SIt h' I d (.int j 0) (i+1) es.size ep->QK I s.heap h'->Q (some x) { s with heap:=h' })
 (done:r=none->∀h',Lf I s.heap h'->Q none { s with heap:=h' }):wpAny (model prog w) A (pyNext (.ref I)) Q E s:=by
 obtain⟨oi,hoi,hci,hdi⟩:=id hit;unfold pyNext;refine Qa (G9 (QX (name:=Go "__next__") hit.type si_slot_next (Q7 si_slot_next hit.type VY ?_ (WF _))));unfold Builtin.«set_iterator.__next__»;refine Qa (Qj (Qa (wpAny_fieldsOf hoi hdi ?_)));show wpAny _ _ (setEntries d >>= _) _ _ s;refine Qa (MM ho hd hf ?_);rw[if_neg (by simp)];show wpAny _ _ (setNext d ((sl:Int).toNat) ((i:Int).toNat) ((ep:Int).toNat) >>= _) _ _ s
 rw[Ko,Ko,Ko];refine Qa (nx _ _ _ ?_)
 cases hr:r with
 | some p =>
  obtain⟨x,j⟩:=p;dsimp only;refine Qa (K6 hoi hdi (by simp) ?_);have h1:=Gr (Rl (·.setIfInBounds 0 (rawInt j))) hoi (K8 (G5 hdi _));have d1:=G5 hdi (·.setIfInBounds 0 (rawInt j));refine Qa (K6 h1 d1 (by simp) ?_);refine Qj ⟨_,rfl,Qj (item x j _ hr ⟨_,Gr _ h1 (K8 (G5 d1 _)),?_,?_⟩ ((Gb ..).trans (Gb ..)))⟩
  ·rw[Mp,Mp];exact hci
  ·rw[G5 d1];simp[rawInt]
 | none=>dsimp only;refine Qa (K6 hoi hdi (by simp) ?_);exact Jhq hh (done hr) (Gb ..).extBut
def JeG{Q:Option Qe->Qg->Prop}{ps:List Nat}{oT:Obj}(hh:A.handled=none)(hit:SIt s.heap I d (.ref T) i es.size ep)(ho:s.heap.get? d=some o)(hd:o.data=.set es ep t)(hf:t.fits es.size=true)(hT:s.heap.get? T=some oT)(hTd:oT.data=.seq (ps.map fun(i:Nat)=>rawInt i).toArray cT)(item:∀p e h',ps[i]?=some p->es[p]?=some e->SIt h' I d (.ref T) (i+1) es.size ep->QK I s.heap h'->Q (some e.2) { s with heap:=h' })(inn:∀p∈ps,p<es.size)(done:ps[i]?=none->∀h',Lf I s.heap h'->Q none { s with heap:=h' }):wpAny (model prog w) A (pyNext (.ref I)) Q E s:=by
 obtain⟨oi,hoi,hci,hdi⟩:=id hit;unfold pyNext;refine Qa (G9 (QX (name:=Go "__next__") hit.type si_slot_next (Q7 si_slot_next hit.type VY ?_ (WF _))));unfold Builtin.«set_iterator.__next__»;refine Qa (Qj (Qa (wpAny_fieldsOf hoi hdi ?_)));show wpAny _ _ (setEntries d >>= _) _ _ s;refine Qa (MM ho hd hf ?_);rw[if_neg (by simp)];show wpAny _ _ (seqItems? (.ref T) >>= _) _ _ s
 unfold seqItems?;refine Qa (Qa (wpAny_load hT ?_));rw[hTd];refine Qj ?_;dsimp only;rw[Ko];have ee:(ps.map fun(i:Nat)=>rawInt i).toArray[i]?=(ps[i]?).map fun(i:Nat)=>rawInt i:=by simp
 rw[ee]
 cases hp:ps[i]? with
 | some p =>
  have hlt:=inn p (QI hp)
  show wpAny _ _ (setNextDrawn d ((p:Int).toNat) ((ep:Int).toNat) >>= _) _ _ s;rw[Ko,Ko];unfold setNextDrawn;refine Qa (Qa (Kp ho hd hf ?_));dsimp only;rw[if_neg (by simp)];refine Qa (Qj ?_);rw[KE hlt];dsimp only;refine Qj ?_;refine Qa (K6 hoi hdi (by simp) ?_);refine Qj ⟨_,rfl,Qj (item p es[p] _ hp (KE hlt) ⟨_,Gr _ hoi (K8 (G5 hdi _)),?_,?_⟩ (Gb ..))⟩
  ·rw[Mp];exact hci
  ·rw[G5 hdi];simp[rawInt]
 | none =>
  show wpAny _ _ (setField (.ref I) 0 (rawInt 0) >>= _) _ _ s;refine Qa (K6 hoi hdi (by simp) ?_)
  have h1:=Gr (Rl (·.setIfInBounds 0 (rawInt 0))) hoi (K8 (G5 hdi _))
  have d1:=G5 hdi (·.setIfInBounds 0 (rawInt 0))
  generalize hg:s.heap.update I (Rl (·.setIfInBounds 0 (rawInt 0)))=g at h1
  have sb:QK I s.heap g:=by rw[<- hg];exact Gb ..
  generalize Rl (·.setIfInBounds 0 (rawInt 0)) oi=oj at h1 d1
  refine Qa (K6 (s:={ s with heap:=g }) h1 d1 (by simp) ?_);exact Jhq (s:=s) hh (done hp) (sb.trans (Gb ..)).extBut
noncomputable def SHas(h:Q2)(d:Qh)(es:Array (Int×Qe))(ep:Nat)(t:SetTable):Prop:=∃o,h.get? d=some o/\o.ExactSet/\o.data=.set es ep t
def SHas.at{h h':Q2}(x:SHas h d es ep t)(e:∀o,h.get? d=some o->h'.get? d=some o):SHas h' d es ep t:=let ⟨o,ho,r⟩:=x;⟨o,e _ ho,r⟩
def JnE(bt:w.params.followText "set-order"=true)(hs:SHas s.heap d es ep t)(hf:t.fits es.size=true)(h:Q (((pickOrder (w.params.setOrder d ep) es)[i]?).map fun e=>(e.2,sl)) s):wpAny (model prog w) A (setNext d sl i ep) Q E s:=by
 obtain⟨o,ho,_,hd⟩:=hs;unfold setNext setsByText;refine Qa (Kp ho hd hf (Qa (Qa (Lw (Qj ?_)))));show wpAny _ _ (if w.params.followText "set-order"=true then _ else _) _ _ s;rw[if_pos bt,if_neg (by simp)];refine Qa ?_;unfold setWalk setsByText;refine Qa (Kp ho hd hf (Qa (Qa (Lw (Qj ?_)))));show wpAny _ _ (if w.params.followText "set-order"=true then _ else _) _ _ s
 rw[if_pos bt];exact Qa (Lw (Qj (Qj h)))
noncomputable def JfX(t:SetTable)(i:Nat):Nat:=if i=0 then 0 else t.place.getD (i-1) 0+1
def JkU(r:Ris t.place)(h:i<=t.place.size):Gj t.place (JfX t i)=i:=by
 unfold JfX
 by_cases c:i=0
 ·rw[if_pos c,c];exact Ji0 r
 ·rw[if_neg c];have hi:i-1<t.place.size:=by omega
  have e:t.place.getD (i-1) 0=t.place[i-1]:=by simp[MZ,hi]
  rw[e,JiZ r hi];omega
def JkW(bt:w.params.followText "set-order"=false)(hs:SHas s.heap d es ep t)(hf:t.fits es.size=true)(tok:TOk (YS w) t)(nd:(!t.plain && decide (es.size>1))=false)(hi:i<=es.size)(h:Q ((es[i]?).map fun e=>(e.2,JfX t (i+1))) s):wpAny (model prog w) A (setNext d (JfX t i) i ep) Q E s:=by
 obtain⟨o,ho,_,hd⟩:=hs;have hp:t.place.size=es.size:=by simp only[SetTable.fits,QR,beq_iff_eq] at hf;exact hf.1
 have ris:Ris t.place:=by
  cases c:t.plain with
  | true=>exact tok.1 c
  | false =>
   rw[c] at nd;have z:es.size<=1:=by simpa using nd
   unfold Ris;have:t.place.toList.length<=1:=by rw[QU];omega
   match t.place.toList,this with
   | [],_=>exact .nil
   | [x],_=>exact Mj _ _
 have led:t.led=true:=by rw[tok.2];unfold YS;rw[bt];rfl
 unfold setNext setsByText;refine Qa (Kp ho hd hf (Qa (Qa (Lw (Qj ?_)))));show wpAny _ _ (if w.params.followText "set-order"=true then _ else _) _ _ s;rw[if_neg (by rw[bt];exact QH)];show wpAny _ _ (if (!t.plain && decide (es.size>1))=true then _ else _) _ _ s;rw[if_neg (by rw[nd];exact QH)];refine Qa (m:=if (!t.led && !es.isEmpty)=true then _ else _) ?_;rw[if_neg (by rw[led];simp)]
 refine Qj ?_;dsimp only;rw[JkU ris (by omega)];refine Qj ?_
 cases c:es[i]? with
 | none=>rw[c] at h;exact h
 | some e =>
  have hlt:i<t.place.size:=by rw[hp];exact(Array.getElem?_eq_some_iff.mp c).1
  rw[KE hlt];rw[c] at h
  have:JfX t (i+1)=t.place[i]+1:=by unfold JfX;rw[if_neg (by omega)];simp[MZ,hlt]
  rw[Ld,this] at h;exact h
def JnC{Q:Qe->Qg->Prop}(hh:A.handled=none)(hs:SHas s.heap d es ep t)(hf:t.fits es.size=true)(tok:TOk (YS w) t)(hz:es.size<=Qr)
 (h:∀(I:Qh) (h':Q2) (dr:Drawn) (ys:List Qe) (fp:List Qh) (St:Nat->Q2->Prop),ys.Perm (es.toList.map (·.2))->s.heap.objs.size<=I->(∀b o,s.heap.get? b=some o->h'.get? b=some o) ->
  Walks prog w A I fp [I] es.size (fun i v=>ys[i]?=some v) St->St 0 h'->(∀b∈fp,s.heap.objs.size<=b\/b=d)->(∀b∈fp,b<h'.objs.size)->Q (.ref I) { s with heap:=h',drawn:=dr }) :
 wpAny (model prog w) A (pyIter (.ref d)) Q E s:=by
 obtain⟨o,ho,hex,hd⟩:=id hs;have hT:s.TypeIs (.ref d) "set":=⟨o,ho,hex.1⟩
 have dlt:d<s.heap.objs.size:=Qn ho;refine Ra hT F.slot_set_iter (Q7 F.slot_set_iter hT JaK ?_ (F.args_set_iter_1 _));unfold Builtin.«frozenset.__iter__» Builtin.Frozenset.slot0 Builtin.Frozenset.sizeOf Builtin.Frozenset.addrOf;refine Qa (Qa (Qj (Qj ?_)));refine Qa (Qa (MM ho hd hf (Qj ?_)));refine Qa ?_;unfold setDrawn setsByText;refine Qa (Kp ho hd hf (Qa (Qa (Lw (Qj (Qj ?_))))))
 show wpAny _ _ (if (!w.params.followText "set-order" && (!t.plain && decide (es.size>1)))=true then _ else _) _ _ s
 have one:∀(sl:Nat->Nat) (ys:List Qe),sl 0=0->ys.Perm (es.toList.map (·.2))->ys.length=es.size ->
  (∀(i:Nat) (s:Qg),i<=es.size->SHas s.heap d es ep t->∀(A:QM) (E:Qe->Qg->Prop) (Q:Option (Qe×Nat)->Qg->Prop),Q ((ys[i]?).map fun v=>(v,sl (i+1))) s->wpAny (model prog w) A (setNext d (sl i) i ep) Q E s) ->
  Walks prog w A s.heap.objs.size [s.heap.objs.size,d] [s.heap.objs.size] es.size (fun i v=>ys[i]?=some v) (fun i h=>SIt h s.heap.objs.size d (.int (sl i) 0) i es.size ep/\SHas h d es ep t/\i<=es.size):=fun sl ys s0 pm yl nx=>{
  sub:=fun b hb=>by simp at hb;simp[hb]
  frame:=fun i h h' st hk=>⟨st.1.at fun o e=>hk _ (by simp) o e,st.2.1.at fun o e=>hk d (by simp) o e,st.2.2⟩
  item:=fun i s1 Q E hi st hQ=>by
   obtain⟨o1,ho1,_,hd1⟩:=id st.2.1;refine Jho hh st.1 ho1 hd1 hf (fun A E Q hq=>nx i s1 st.2.2 st.2.1 A E Q hq) (fun x j h' e hit' hs'=>?_) (fun e=>?_)
   ·obtain⟨v,e1,e2⟩:=Q0.mp e;cases e2;exact hQ _ h' s1.toks e1 ⟨hit',st.2.1.at fun o x=>hs'.extBut d o (QF dlt) x,hi⟩ fun b o hb x=>hs'.extBut b o (fun h=>hb (by simp[h])) x
   ·rw[RJ,M6] at e;omega
  done:=fun s1 Q E st hQ=>by obtain⟨o1,ho1,_,hd1⟩:=id st.2.1;refine Jho hh st.1 ho1 hd1 hf (fun A E Q hq=>nx _ s1 st.2.2 st.2.1 A E Q hq) (fun x j h' e _ _=>?_) (fun _ h' he=>hQ h' s1.toks fun b o hb e=>he b o (fun h=>hb (by simp[h])) e);obtain⟨v,e1,e2⟩:=Q0.mp e;have:=(Qo.mp e1).1;omega
  self:=fun _ _ _ _ st hQ=>Jhp st.1 hQ }
 have enter:∀(sl:Nat->Nat) (ys:List Qe),sl 0=0->ys.Perm (es.toList.map (·.2))->ys.length=es.size ->
  (∀(i:Nat) (s:Qg),i<=es.size->SHas s.heap d es ep t->∀(A:QM) (E:Qe->Qg->Prop) (Q:Option (Qe×Nat)->Qg->Prop),Q ((ys[i]?).map fun v=>(v,sl (i+1))) s->wpAny (model prog w) A (setNext d (sl i) i ep) Q E s) ->
  Q (.ref s.heap.objs.size) { s with heap:=s.heap.push { cls:=.type "set_iterator",data:=.fields #[.int 0 0,.int 0 0,.ref d,.int es.size 0,.int ep 0] } }:=fun sl ys s0 pm yl nx=>by
  refine h s.heap.objs.size _ s.drawn ys [s.heap.objs.size,d] _ pm (Qu _) (fun b o e=>Qi _ e) (one sl ys s0 pm yl nx) ⟨⟨_,Qm _ rfl,rfl,?_⟩,hs.at fun o e=>Qi _ e,GL _⟩ (fun b hb=>?_) (fun b hb=>?_)
  ·rw[s0];rfl
  ·rcases Qk.mp hb with e|e
   ·exact .inl (LZ e.symm)
   ·exact .inr (by simpa using e)
  ·rw[Gy];rcases Qk.mp hb with e|e
   ·rw[e];exact GY _
   ·rw[GK.mp e];exact GQ dlt
 cases bt:w.params.followText "set-order" with
 | true =>
  rw[if_neg (by simp)];refine Qa (Qj ?_);unfold setEpoch;refine Qa (Qa (Kp ho hd hf (Qj ?_)));refine Qa (Ge ?_);refine Qj ⟨_,rfl,"set_iterator",_,⟨_,Qm _ rfl,rfl⟩,si_slot_next.lookup,?_⟩;refine enter (fun _=>0) ((pickOrder (w.params.setOrder d ep) es).toList.map (·.2)) rfl ((JbM _ es).map _) (by rw[Qp,(JbM _ es).length_eq,QU]) fun i s1 hi hs1 A E Q hq=>JnE bt hs1 hf ?_
  rw[Qq,Kb,KM] at hq;exact hq
 | false =>
  cases dw:(!t.plain && decide (es.size>1)) with
  | false =>
   rw[if_neg (by simp)];refine Qa (Qj ?_);unfold setEpoch;refine Qa (Qa (Kp ho hd hf (Qj ?_)));refine Qa (Ge ?_);refine Qj ⟨_,rfl,"set_iterator",_,⟨_,Qm _ rfl,rfl⟩,si_slot_next.lookup,?_⟩;refine enter (JfX t) (es.toList.map (·.2)) rfl (.refl _) (by rw[Qp,QU]) fun i s1 hi hs1 A E Q hq=>JkW bt hs1 hf tok dw hi ?_
   rw[Qq,Kb,KM] at hq;exact hq
  | true =>
   rw[if_pos (by simp)];refine Qa (Jbt _ _ _ _ (by rw[Li]) fun ps dr pm=>?_);refine Qa (Mr (items:=ps.map fun(i:Nat)=>rawInt i) ?_ (by rw[Qp,pm.length_eq,Li];exact hz));have hT1:(s.heap.push { cls:=.type "tuple",data:=.seq (ps.map fun(i:Nat)=>rawInt i).toArray }).get? s.heap.objs.size=some { cls:=.type "tuple",data:=.seq (ps.map fun(i:Nat)=>rawInt i).toArray }:=Qm _ rfl
   have ho1:(s.heap.push { cls:=.type "tuple",data:=.seq (ps.map fun(i:Nat)=>rawInt i).toArray }).get? d=some o:=Qi _ ho
   generalize hg:s.heap.push { cls:=.type "tuple",data:=.seq (ps.map fun(i:Nat)=>rawInt i).toArray }=g at hT1 ho1 ⊢
   have gz:g.objs.size=s.heap.objs.size+1:=by rw[<- hg,Gy]
   have gk:∀b o,s.heap.get? b=some o->g.get? b=some o:=fun b o e=>by rw[<- hg];exact Qi _ e
   unfold setEpoch;refine Qa (Qa (Kp (s:={ s with heap:=g,drawn:=dr }) ho1 hd hf (Qj ?_)));refine Qa (Ge ?_);refine Qj ⟨_,rfl,"set_iterator",_,⟨_,Qm _ rfl,rfl⟩,si_slot_next.lookup,?_⟩;have inn:∀p∈ps,p<es.size:=fun p hp=>by simpa using pm.mem_iff.mp hp
   have pl:ps.length=es.size:=by rw[pm.length_eq,Li]
   have dne:d≠g.objs.size:=by rw[gz];exact QF (GQ dlt)
   have tne:s.heap.objs.size≠g.objs.size:=by rw[gz];exact QF (GY _)
   refine h g.objs.size _ dr (ps.map fun p=>(es[p]?.map (·.2)).getD Value.none) [g.objs.size,d,s.heap.objs.size] (fun i h=>SIt h g.objs.size d (.ref s.heap.objs.size) i es.size ep/\SHas h d es ep t/\h.get? s.heap.objs.size=some { cls:=.type "tuple",data:=.seq (ps.map fun(i:Nat)=>rawInt i).toArray }) ?_ (by rw[gz];exact KY _) (fun b o e=>Qi _ (gk b o e)) ?_ ⟨⟨_,Qm _ rfl,rfl,rfl⟩,⟨o,Qi _ ho1,hex,hd⟩,Qi _ hT1⟩ (fun b hb=>?_) (fun b hb=>?_)
   ·refine(pm.map _).trans (.of_eq ?_);refine L3 (by simp) fun i h1 h2=>?_
    have hi:i<es.size:=by simpa using h1
    simp[hi]
   ·exact {
     sub:=fun b hb=>by simp at hb;simp[hb]
     frame:=fun i h h' st hk=>⟨st.1.at fun o e=>hk _ (by simp) o e,st.2.1.at fun o e=>hk d (by simp) o e,hk _ (by simp) _ st.2.2⟩
     item:=fun i s1 Q E hi st hQ=>by
      obtain⟨o1,ho1,_,hd1⟩:=id st.2.1;refine JeG hh st.1 ho1 hd1 hf st.2.2 rfl (fun p e h' e1 e2 hit' hs'=>?_) inn (fun e=>?_)
      ·exact hQ _ h' s1.toks (by rw[Qq,e1];simp[e2]) ⟨hit',st.2.1.at fun o x=>hs'.extBut d o dne x,hs'.extBut _ _ tne st.2.2⟩ fun b o hb x=>hs'.extBut b o (fun h=>hb (by simp[h])) x
      ·rw[M6] at e;omega
     done:=fun s1 Q E st hQ=>by obtain⟨o1,ho1,_,hd1⟩:=id st.2.1;refine JeG hh st.1 ho1 hd1 hf st.2.2 rfl (fun p e h' e1 _ _ _=>?_) inn (fun _ h' he=>hQ h' s1.toks fun b o hb e=>he b o (fun h=>hb (by simp[h])) e);have:=(Qo.mp e1).1;omega
     self:=fun _ _ _ _ st hQ=>Jhp st.1 hQ }
   ·simp only[Qk,Q9,or_false] at hb;rcases hb with e|e|e
    ·exact .inl (by rw[e,gz];exact KY _)
    ·exact .inr e
    ·exact .inl (LZ e.symm)
   ·rw[Gy,gz];simp only[Qk,Q9,or_false] at hb;rcases hb with e|e|e
    ·rw[e,gz];exact GY _
    ·rw[e];exact GQ (GQ dlt)
    ·rw[e];exact GQ (GY _)
end
end L2
namespace L2
open PySem PyProof.Rows PySem.W PySem.Spec
def JjM{Q:Bool->Qg->Prop}(hT:s.TypeIs (.ref d) "set")(h:Q false s):wpAny (model prog w) A (KW (.ref d)) Q E s:=by
 unfold KW;refine Qa (Lc hT PySem.F.slot_set_len.lookup ?_)
 generalize hid:("set.__len__":String)=id0
 wp_delta
 rw[show splitId id0=some ("set","__len__") from by subst hid;decide +kernel];subst hid;refine Qa (KH (T:="set") (b:=true) hT (by rw[Lr];kernel_rfl) ?_);refine LL (fun hab=>absurd hab (by decide)) (fun _=>?_);refine LL (fun _=>?_) (fun hab=>absurd (by decide +kernel) hab);exact Qa (Mo hT (Qj h))
def JfV{R:MV->Qg->Prop}(hh:A.handled=none)(hs:SHas s.heap d es ep t)(hf:t.fits es.size=true)(tok:TOk (YS w) t)(hz:es.size<=Qr)(S:Qh)(ne:S≠d)(res:Qe)(hS:s.heap.get? S=some { cls:=.type "list",data:=.seq #[] })
 (hR:∀h' tk dr acc c,(∀b o,b≠S->s.heap.get? b=some o->h'.get? b=some o)->h'.get? S=some { cls:=.type "list",dict:=none,data:=.seq acc c,slots:=#[] }->acc.toList.Perm (es.toList.map (·.2))->R (.ok (.ret res)) { s with heap:=h',toks:=tk,drawn:=dr }) :
 wpAny (model prog w) A.in1 (Kf (.ref S) (.ref d) res)
  (fun fin s'=>match fin with|.done f=>R (.ok f) s'|.again c'=>c'.quiet=true/\codeAny (model prog w) A c' R s') (fun e s'=>R (.error e) s') s:=by
 obtain⟨o,ho,hex,hd⟩:=id hs;have hT:s.TypeIs (.ref d) "set":=⟨o,ho,hex.1⟩
 have Slt:S<s.heap.objs.size:=Qn hS;unfold Kf;refine Qa (Mo (T:="set") hT ?_)
 have h1:Ln (.ref S) (.ref d)=false:=by simp[Ln,ne]
 have h2:(Value.type "set" == Value.type "list")=false:=by decide
 have h3:(Value.type "set" == Value.type "tuple")=false:=by decide
 simp only[h1,h2,h3,MC,Kh,if_false];refine Qa (JnC (A:=A.in1) hh hs hf tok hz fun I h' dr ys fp St pm le old W st fpo fpl=>?_);have SI:S∉fp:=fun m=>(fpo S m).elim (fun x=>absurd Slt (LW.mpr x)) fun x=>ne x
 have hS1:=old S _ hS
 have key:∀(g:Q2) (c1 tk:Nat),St 0 g->(∀b o,b≠S->s.heap.get? b=some o->g.get? b=some o)->g.get? S=some { cls:=.type "list",data:=.seq #[] c1 } ->
  codeAny (model prog w) A (.builtin "list.extend.loop" ⟨[.ref S,.ref I,res],[]⟩) R { s with heap:=g,toks:=tk,drawn:=dr }:=by
  intro g c1 tk st1 hk hS2;refine codeAny_extend_loopS W.toS hz S SI res es.size 0 _ #[] c1 rfl (GL _) st1 hS2 (ItemsOf.nil _) fun s' acc c' hm hS' hacc=>?_
  rw[Moved.eq_with hm];refine hR s'.heap s'.toks dr acc c' (fun b o hb e=>hm.heap b o (fun m=>?_) (hk b o hb e)) hS' ?_
  ·rcases Qk.mp m with e'|m
   ·exact hb e'
   ·rw[GK] at m;exact absurd (Qn e) (LW.mpr (m▸le))
  ·have yl:ys.length=es.size:=by rw[pm.length_eq,Qp,QU]
   have:acc.toList=ys:=L3 (by rw[QU,hacc.1,yl]) fun i a1 a2=>by have:ys[i]?=some acc.toList[i]:=hacc.2 i acc.toList[i] (by rw[<- Kb];exact QB a1);rw[QB a2] at this;exact(QS this).symm
   rw[this];exact pm
 refine Qa (GO (JjM (s:={ s with heap:=h',drawn:=dr }) ⟨o,old _ _ ho,hex.1⟩ ?_));refine LL (fun _=>?_) (fun _=>Qj ⟨Kq G1 _,key _ _ _ st (fun b o _ e=>old b o e) hS1⟩);refine Qa (KG (Qa ?_));show wpAny _ _ (updateSeq S (·.push .none) >>= fun _=>updateSeq S (·.pop)) _ _ _;refine Qa (KC hS1 rfl ?_);have hS2:=Gr (Gx (·.push Value.none)) hS1 rfl
 refine KC (hz:=by seq_fits) hS2 rfl ?_;have hS3:=Gr (Gx (·.pop)) hS2 rfl;refine Qj ⟨Kq G1 _,key _ _ _ ?_ (fun b o hb e=>?_) hS3⟩
 ·refine W.frame 0 _ _ st fun b hb o e=>?_
  have bS:b≠S:=fun h=>SI (h▸hb)
  exact(Q8 _ _ (Q3 bS)).trans ((Q8 _ _ (Q3 bS)).trans e)
 ·exact(Q8 _ _ (Q3 hb)).trans ((Q8 _ _ (Q3 hb)).trans (old b o e))
def JeD(hh:A.handled=none)(hs:SHas s.heap d es ep t)(hf:t.fits es.size=true)(tok:TOk (YS w) t)(hz:es.size<=Qr)(h:∀(h':Q2) (tk:Nat) (dr:Drawn) (acc:Array Qe),(∀b o,s.heap.get? b=some o->h'.get? b=some o)->s.heap.objs.size<h'.objs.size->acc.toList.Perm (es.toList.map (·.2))->R acc.toList { s with heap:=h',toks:=tk,drawn:=dr }):wpAny (model prog w) A (collect (.ref d)) R E s:=by
 obtain⟨o,ho,hex,hd⟩:=id hs;have dlt:d<s.heap.objs.size:=Qn ho;have old:∀b o,s.heap.get? b=some o->(s.heap.push { cls:=.type "list",data:=.seq ([]:List Qe).toArray }).get? b=some o:=fun b o e=>Qi _ e
 unfold collect;refine Qa (wpAny_runValue (Ku entry_proto_collect' ?_));rw[GZ PySem.F.plain_proto_collect _];show wpAny _ A.in1 (newList [] >>= fun l=>again (.builtin "list.__iadd__" ⟨[l,.ref d],[]⟩)) _ _ s;refine Qa (Ge (Qj ⟨Kq Rz _,Ku entry_list_iadd' ?_⟩));rw[GZ Rz _];have at0:(s.heap.push { cls:=.type "list",data:=.seq ([]:List Qe).toArray }).get? s.heap.objs.size=some { cls:=.type "list",data:=.seq #[] }:=Qm _ rfl
 have fin:∀(h':Q2) (tk:Nat) (dr:Drawn) (acc:Array Qe) (c:Nat),(∀b o,s.heap.get? b=some o->h'.get? b=some o)->h'.get? s.heap.objs.size=some { cls:=.type "list",dict:=none,data:=.seq acc c,slots:=#[] }->acc.toList.Perm (es.toList.map (·.2)) ->
  wpAny (model prog w) A (load s.heap.objs.size >>= fun o=>match o.data with | .seq xs _=>pure xs.toList | _=>unsupported "internal:collect") R E { s with heap:=h',toks:=tk,drawn:=dr }:=fun h' tk dr acc c hk hS hi=>Qa (wpAny_load hS (Qj (h h' tk dr acc hk (Qn hS) hi)))
 have got:=JfV (prog:=prog) (A:=A) (s:={ s with heap:=s.heap.push { cls:=.type "list",data:=.seq ([]:List Qe).toArray } }) (R:=fun q s'=>∃h' tk dr acc c,q=.ok (.ret (.ref s.heap.objs.size))/\s'={ s with heap:=h',toks:=tk,drawn:=dr }/\(∀b o,s.heap.get? b=some o->h'.get? b=some o)/\h'.get? s.heap.objs.size=some { cls:=.type "list",dict:=none,data:=.seq acc c,slots:=#[] }/\acc.toList.Perm (es.toList.map (·.2)))
  hh (hs.at fun o e=>old _ o e) hf tok hz s.heap.objs.size (Gn dlt) (.ref s.heap.objs.size) at0 (fun h' tk dr acc c hk hS hi=>⟨h',tk,dr,acc,c,rfl,rfl,fun b o e=>hk b o (QF (Qn e)) (old b o e),hS,hi⟩)
 refine KF got (fun f s' x=>?_) fun e s' ⟨_,_,_,_,_,z,_⟩=>nomatch z
 cases f with
 | done f=>obtain⟨h',tk,dr,acc,c,e,rfl,hk,hS,hi⟩:=x;cases e;exact fin h' tk dr acc c hk hS hi
 | again c1=>exact⟨x.1,Lz x.2 fun q s2 ⟨h',tk,dr,acc,c,e1,e2,hk,hS,hi⟩=>by subst e1;subst e2;exact fin h' tk dr acc c hk hS hi⟩
noncomputable def fM(ns:List Int):List Int:=firstMet (fun i=>ns.getD i 0) ns.length
def JgC(ns:List Int):fM ns=ns.foldl step_dedup []:=by
 unfold fM firstMet;congr 1;refine L3 (by simp) fun i h1 h2=>?_
 simp[GC,h2]
theorem Jdt:∀(ns acc:List Int),acc.Nodup->(ns.foldl step_dedup acc).Nodup
 | [],acc,h=>h
 | n::ns,acc,h=>by
  rw[Ga];refine Jdt ns _ ?_;unfold step_dedup;split
  ·exact h
  ·rename_i c;refine Mu.mpr ⟨h,by simp,fun a ha b hb=>?_⟩;rw[GK] at hb;subst hb;intro e;subst e;exact c (Lp.mpr ⟨a,ha,by simp⟩)
theorem Jje:∀(ns acc:List Int) (k:Int),k∈ns.foldl step_dedup acc↔k∈acc\/k∈ns
 | [],acc,k=>by simp
 | n::ns,acc,k=>by
  rw[Ga,Jje ns];unfold step_dedup;split
  ·rename_i c;obtain⟨x,hx,e⟩:=Lp.mp c;have:x=n:=by simpa using e
   subst this;simp only[Qk];constructor
   ·exact fun h=>h.elim .inl fun h=>.inr (.inr h)
   ·rintro(h|h|h)
    ·exact .inl h
    ·exact .inl (h▸hx)
    ·exact .inr h
  ·simp only[GH,Qk,Q9,or_false,or_assoc]
def Z1(ns:List Int):(fM ns).Nodup:=by rw[JgC];exact Jdt ns [] List.nodup_nil
def Jo1(ns:List Int)(k:Int):k∈fM ns↔k∈ns:=by rw[JgC,Jje];simp
def Jjw(ns:List Int):(fM ns).length<=ns.length:=firstMet_length_le _ _
theorem Zn:∀{a b:List Int},a.Nodup->(∀x∈a,x∈b)->b.length=a.length->b.Perm a
 | [],b,_,_,h=>by have:b=[]:=QN (by simpa using h);rw[this]
 | x::a,b,nd,sub,h=>by
  have hx:=sub x Qf
  have pb:=List.perm_cons_erase hx;refine pb.trans (List.Perm.cons x ?_)
  have nd':=Q6.mp nd;refine Zn nd'.2 (fun y hy=>?_) (by rw[List.length_erase_of_mem hx,h];simp);rcases Qk.mp (pb.mem_iff.mp (sub y (Qc _ hy))) with e|e
  ·exact absurd (e▸hy) nd'.1
  ·exact e
theorem JdR:∀{l:List (Int×Qe)},ElemsOf (intKind prog w) l->∃ks:List Int,IntsAre (l.map (·.2)) ks
 | [],_=>⟨[],.nil⟩
 | e::l,h=>by obtain⟨ks,r⟩:=JdR h.tail;obtain⟨⟨k,hk,_⟩,_⟩:=h.head;obtain⟨tk,e2⟩:=M8 (show RY k e.2=true from hk);refine⟨k::ks,?_⟩;rw[Qd,e2];exact .cons k tk r
theorem JdS:∀{vs:List Qe} {ks:List Int},IntsAre vs ks->∀v∈vs,RY x v=true->x∈ks
 | _,_,.nil,v,h,_=>by simp at h
 | _,_,.cons n t r,v,h,e=>by
  rcases Qk.mp h with q|q
  ·subst q;obtain⟨tk,e2⟩:=M8 e
   injection e2 with e2
   subst e2;exact Qf
  ·exact Qc _ (JdS r v q e)
def Jh5(p:a.Perm b):∀{ks:List Int},IntsAre a ks->∃ks',IntsAre b ks'/\ks'.Perm ks:=by
 induction p with
 | nil=>intro ks r;exact⟨ks,r,.refl _⟩
 | cons x p ih =>
  intro ks r
  cases r with
  | cons n t r=>obtain⟨ks',r',q⟩:=ih r;exact⟨n::ks',.cons n t r',q.cons n⟩
 | swap x y l =>
  intro ks r
  cases r with
  | cons n t r=>cases r with
   | cons m u r=>exact⟨m::n::_,.cons m u (.cons n t r),List.Perm.swap _ _ _⟩
 | trans p q ih1 ih2=>intro ks r;obtain⟨k1,r1,q1⟩:=ih1 r;obtain⟨k2,r2,q2⟩:=ih2 r1;exact⟨k2,r2,q2.trans q1⟩
def JkT(x:SetL prog w led h a (fun k=>(fM ns).any (· == k)) (fM ns).length):
 ∃es ep t ks,SHas h a es ep t/\t.fits es.size=true/\TOk led t/\es.size=(fM ns).length/\IntsAre (es.toList.map (·.2)) ks/\ks.Perm (fM ns):=by
 obtain⟨o,es,ep,t,z⟩:=x;obtain⟨ks,r⟩:=JdR z.els;refine⟨es,ep,t,ks,⟨o,z.got,z.ex,z.data⟩,z.fits,z.tok,z.size,r,?_⟩;refine Zn (Z1 ns) (fun y hy=>?_) ?_
 ·obtain⟨e,he,hi⟩:=(z.mem y).mp (Lp.mpr ⟨y,hy,by simp⟩);exact JdS r e.2 (Qx.mpr ⟨e,he,rfl⟩) hi
 ·have:=R8 r;rw[Qp,QU] at this;rw[<- this,z.size]
noncomputable def Jnw(X:Cx)(l:Qh)(ns:List Int):HO:=.ext fun h=>SetL X.prog X.w (YS X.w) h l (fun k=>(fM ns).any (· == k)) (fM ns).length
noncomputable def Jos(X:Cx):List V->Hp->VK->Prop:=fun xs H Q=>∃a ns,xs=[.ref a]/\SqL X.K H a (ns.map V.int)/\ns.length+1<scanBound/\∀l,H l=none->Q (.ref l) (upd H l (Jnw X l ns))
noncomputable def Jqc(X:Cx):List V->Hp->VK->Prop:=fun xs H Q=>∃r ns,xs=[.ref r]/\H r=some (Jnw X r ns)/\ns.length<64/\∀l,H l=none->Q (.ref l) (upd H l (.lst ((JV (fM ns)).map V.int)))
def Inv.drew{pins:List (Qh×Obj)}{σ:List (Option V)}{H:Hp}{s:Qg}{d:Drawn}(I:Inv X pins σ H s):Inv X pins σ H { s with drawn:=d } :=
 ⟨I.ok,I.os,I.bare,I.base,I.loc,I.cell,I.free,I.freeC,I.pin,I.hok,I.len⟩
def JhU(hc:X.calm=true):Yo X (.type "set") (Jos X):=by
 intro pins s σ H xs us Q I r h;obtain⟨a,ns,rfl,hq,hb,q⟩:=h;obtain⟨u,rfl,rx⟩:=Vd r;cases rx;obtain⟨its,r',pl,hz⟩:=I.list hq;have hh:X.A.handled=none:=I.ok.hd hc;have hi:=Yw r';have il:its.length=ns.length:=R8 hi;have hne:H s.heap.objs.size=none:=I.hok.fresh (Qu _);refine JhT (ns:=ns) hh pl.isList hi (by rw[Qt,il];exact hb) fun h' tk hS old=>?_
 have ez:its.toArray.size=ns.length:=by rw[Qt,il]
 rw[ez] at hS;refine⟨.ref s.heap.objs.size,_,I.laid (t':=tk) (o:=Jnw X s.heap.objs.size ns) old (Qu _) ⟨hS,?_,fun h1 h2 p k=>p.move k⟩,rfl,q _ hne⟩;obtain⟨o,_,_,_,z⟩:=hS;exact⟨o,z.got⟩
def Je9(hc:X.calm=true):Yo X (.builtin "sorted") (Jqc X):=by
 intro pins s σ H xs us Q I r h;obtain⟨p,ns,rfl,ds,h64,q⟩:=h;obtain⟨u,rfl,rx⟩:=Vd r;cases rx;have z:=(show ObjOk X.prog X.w H s.heap p (Jnw X p ns) from I.hok p _ ds).1;obtain⟨es,ep,t,ks,hs,hf,tok,sz,ri,pm⟩:=JkT z;have hh:X.A.in1.handled=none:=I.ok.hd hc;have fl:=Jjw ns;have room:∀n:Nat,n<64->n<=Qr:=fun n h=>by show n<=16777216;omega
 refine Calls.call_function_entry kind_sorted plain_sorted entry_sorted (args_sorted1 _) ?_;unfold Builtin.«sorted»;refine Qa (m:=checkCount "sorted" 1 1 _) (Qj ?_);refine Qa (JeD hh hs hf tok (room _ (by omega)) fun h' tk dr acc hk hsz pa=>?_);obtain⟨k2,hI,p2⟩:=Jh5 pa.symm ri;have pk:=p2.trans pm;have hal:acc.toList.length=(fM ns).length:=by rw[R8 hI,pk.length_eq]
 refine Qa (wpAny_newList ?_ (room _ (by omega)));have hoL:(h'.push (seqObj "list" acc.toList.toArray 0)).get? h'.objs.size=some (seqObj "list" acc.toList.toArray 0):=Qm _ rfl;refine Qa (GO (Q7 slot_list_sort ⟨_,hoL,rfl⟩ entry_list_sort (list_sort_tree hoL hI (by omega) fun out ns' a1 a2 a3=>⟨_,rfl,?_⟩) (args_list_sort _)));refine Qj ⟨_,rfl,?_⟩;have e0:ns'=JV (fM ns):=Uf ((a2.trans pk).trans (JI _).symm) a3 (Up _)
 subst e0;obtain⟨e,he⟩:=sortedHeap_at (out:=out) hoL;have hle:s.heap.objs.size<=h'.objs.size:=GW hsz;have hne:H h'.objs.size=none:=I.hok.fresh hle;have hn:((JV (fM ns)).map V.int).length<=Qr:=by rw[Qp,(JI _).length_eq];exact room _ (by omega)
 refine⟨.ref h'.objs.size,_,(I.drew (d:=dr)).laid (t':=tk) (fun b o x=>?_) hle (show ObjOk X.prog X.w _ _ _ (.lst ((JV (fM ns)).map V.int)) from⟨hn,out.toList,e,Y8 a1,?_⟩),rfl,q _ hne⟩
 ·have hx:=hk b o x
  have hlt:b<h'.objs.size:=Qn hx;rw[sortedHeap_old (QF hlt) (by rw[size_push'];exact GQ hlt)];exact Qi _ hx
 ·rw[he]
noncomputable def tUp(te:TE):TE:=fun σ H Q=>∃A:VK,te σ H A/\∀x H1,A x H1->Q x H1
def JrM(h:PE X e te):PE X e (tUp te):=by intro pins s σ H Q I ⟨A,h1,h2⟩;exact thn (h pins s σ H A I h1) fun v s1 ⟨x,H1,I1,r1,a⟩=>⟨x,H1,I1,r1,h2 x H1 a⟩
def PE.imp(h:PE X e t1)(i:∀σ H Q,t2 σ H Q->t1 σ H Q):PE X e t2:=fun pins s σ H Q I x=>h pins s σ H Q I (i σ H Q x)
noncomputable def Jk5(K:Qz)(te:TE):TE:=fun σ H Q=>te σ H fun x H1=>∃a ns,x=.ref a/\SqL K H1 a (ns.map V.int)/\ns.length<64/\∀l o l',H1 l=none->upd H1 l o l'=none->Q (.ref l') (upd (upd H1 l o) l' (.lst ((JV (fM ns)).map V.int)))
def JpZ(hc:X.calm=true)(hg:Gl X "set")(hm:X.mg "set"=none)(he:PE X e te)(h1:starEach [e] X.env=(false,eval e X.env)::starEach [] X.env:=by rfl):PE X (.Call (.Name "set" p1) [e] [] q1) (tCB (Jos X) (Ur (tUp te) VU)) :=
 Ue (JhU hc) hg hm (by rfl) (Ja (JrM he) Jc h1) (he:=h1)
def Jkj{K:Qz}(hK:X.K=K)(hc:X.calm=true)(hg:Gl X "sorted")(hm:X.mg "sorted"=none)(hg2:Gl X "set")(hm2:X.mg "set"=none)(he:PE X e te)(h1:starEach [e] X.env=(false,eval e X.env)::starEach [] X.env:=by rfl)
 (h2:starEach [Expr.Call (.Name "set" p1) [e] [] q1] X.env=(false,eval (.Call (.Name "set" p1) [e] [] q1) X.env)::starEach [] X.env:=by rfl):PE X (.Call (.Name "sorted" p2) [.Call (.Name "set" p1) [e] [] q1] [] q2) (Jk5 K te):=by
 subst hK;refine PE.imp (Jr (Je9 hc) hg hm (by rfl) (Ja (JpZ hc hg2 hm2 he h1) Jc h2) (he:=h2)) fun σ H Q h=>⟨_,h,?_⟩
 rintro x H1 ⟨a,ns,rfl,hq,h64,q⟩;exact⟨a,ns,rfl,hq,by show ns.length+1<4096;omega,fun l hl=>⟨l,ns,rfl,Jl,h64,fun l' hl'=>q l _ l' hl hl'⟩⟩
end L2
namespace LE
open PySem L2 LR
noncomputable def Jcf(a:Ev):Ev:=fun E=>(a E).bind fun s=>s.r.bind fun ds=>(ints? ds).bind fun ns=>if ns.length<64 then some (.own ((JV (fM ns)).map .int)) else none
def Jnt(ha:SE K C td ed):SE K C (Jk5 K td) (Jcf ed):=by
 intro B H0 H σ E r Q I e q;obtain⟨s,e1,e⟩:=bind_some e;obtain⟨ds,e2,e⟩:=bind_some e;obtain⟨ns,e3,e⟩:=bind_some e;split at e
 ·next h64 =>
  cases e;refine ha B H0 H σ E s _ I e1 fun x H1 H1' s1 r1=>?_
  obtain⟨l,ys,rfl,h,r2⟩:=r1.r s1.i e2;rw[YA e3] at r2;have:=r2.ints;subst this;refine⟨l,ns,rfl,h,h64,fun w o l' hw hl'=>?_⟩;have st:Step H1' H1 H1' H1 (upd H1' w o):=⟨.new hw,Same.refl _,fun _ _ e=>.inl e,s1.i.trans (.new hw)⟩
  have s2:=s1.trans st;exact YY s2.i s2.h hl' (JaD _) fun v H2 H2' s3 r3=>q v H2 H2' (s2.comp s3 fun _ y=>y) r3
 ·cases e
end LE
namespace L2
open PySem PyProof.Rows PySem.W PySem.Spec
noncomputable def JnY(i j:Int):Prop:=0<j/\j.natAbs<=10 ^ 200
def Jpq{j:Int}(h:j.natAbs<=10 ^ 200):j.natAbs.log2<9000:=by
 by_cases h0:j.natAbs=0
 ·rw[h0];decide +kernel
 ·have h1:j.natAbs.log2<1000:=by rw[Nat.log2_lt h0];exact Kv h (by decide +kernel)
  omega
def Jkd:OpR X (binaryOp .FloorDiv) (rI JnY fun i j=>.int (i / j)):=opI fun i j _ _ _ _ _ hc q=>by have h1:(0:Int)<j:=hc.1;exact floordiv_int (by omega) (by rw[MU i (by omega)];exact q) (.inl (PyProof.noPylong_of_log2 (Jpq hc.2)))
end L2
namespace LE
open PySem L2 LR
noncomputable abbrev Jjt:=fIc (fun _ b=>decide (0<b) && Vi b) fun a b=>.int (a / b)
def JpG:OpS K C (rI JnY fun i j=>.int (i / j)) Jjt:=Jiq (fun i j h=>by simp only[QR,Vi,Lm,decide_eq_true_eq] at h;exact h) fun _ _ _=>.int _
def Jju(h:0<b/\b.natAbs<=10 ^ 200):Jjt (.sh (.int a)) (.sh (.int b))=some (.sh (.int (a / b))):=by show(if (decide (0<b) && Vi b)=true then _ else _)=_;rw[if_pos];rw[QR];exact⟨decide_eq_true h.1,Lm.mpr h.2⟩
noncomputable def prs?:List D->Option (List PrI)
 | []=>some []
 | .tup [.int a,.int b]::r=>(prs? r).map ((a,b)::·)
 | _=>none
theorem JcO:∀ps:List PrI,prs? (ps.map prE)=some ps
 | []=>rfl
 | p::ps=>by show(prs? (ps.map prE)).map _=_;rw[JcO ps];rfl
theorem Jeq:∀{ds:List D} {ps:List PrI},prs? ds=some ps->ds=ps.map prE
 | [],ps,e=>by cases e;rfl
 | d::ds,ps,e=>by
  unfold prs? at e;split at e
  ·rename_i h;cases h
  ·rename_i a b r h;cases h;obtain⟨qs,e1,rfl⟩:=map_some e;rw[Jeq e1];rfl
  ·cases e
end LE
namespace L2
open PySem PySem.Spec PyProof.Rows
def pgN(i:Nat){x:Str}(hN:X.N.Nodup)(hi:X.N[i]?=some x:=by rfl)(hx:Loc X.env.scope x:=by exact Or.inl rfl)(hf:X.fn x=true\/X.env.scope.names.lookup x=some .local:=by exact Or.inr rfl):PG X (.Name x pos) (Vc i):=Ju hN hi hx hf
def psN(i:Nat){x:Str}{e:Gu}{te:TE}{pos':Pos}(hN:X.N.Nodup)(he:PE X e te)(hi:X.N[i]?=some x:=by rfl)(hx:Loc X.env.scope x:=by exact Or.inl rfl)(hs:swapsWith e (some (.Name x pos')) pos.line X.env=pure false:=by rfl)(hf:X.fn x=true\/X.env.scope.names.lookup x=some .local:=by first|exact .inl rfl|exact .inr rfl|assumption):PS X (.Assign [.Name x pos'] e pos) (Jf1 te (Vc i)):=JcP hN hi hx he hs hf
def pxK(K:Qz){a b:Gu}{ta tb:TE}(ha:PE X a ta)(hb:PE X b tb)(hK:X.K=K:=by rfl)(hs:Jgc b:=by exact fun _ _=>rfl):PE X (.Subscript a b pos) (tOp (rIx K) ta tb):=Joq (Jmk hK) ha hb hs
def piK(K:Qz){tg l:Gu}{tl:TE}(hl:PE X l tl)(hK:X.K=K:=by rfl):PI X tg l (Jfo K tl):=Jm1 hK hl
def hrM{j k:Nat}{A:QM}(r:Room k A)(h:j<=k:=by decide):Room j A:=r.mono h
end L2
namespace LE
open PySem PyProof.Rows L2 LR
structure PB (P:Qy) (w:QP) (base:Q2):Prop where
section
variable{P:Qy}{w:QP}{K:Qz}{mg:Str->Option Qe}{base:Q2}{x y q:Str}{st:Kt}{f:Qh}{fd:QW}{k:Nat}{ps:List Str}{sp:Sp}
def JH(Z:PB P w base)(F:Fun K x q st f fd)(o:FnOk P w K mg base CX0 k f fd ps sp)(m:mg y=some (.ref f))
 (h:∀(kV doc pm:Qe) (an:Option Qh) (cdv ct:Qe) (us:List Qe),us.length=ps.length->bindArgs (fnOf x q (U2 st) (YI st) (Ji st) .none kV doc pm an cdv ct) ⟨us,[]⟩=pure (ps.zip us)):Cal P w K mg base y k ps sp:=⟨f,fd,o,m,F.kp,F.binds h⟩
end
section
variable{P:Qy}{w:QP}{K:Qz}{C:Qh}{mg:Str->Option Qe}{base:Q2}{x qual:Str}{st:Kt}{f:Qh}{fd:QW}{N ps:List Str}{k n:Nat}{b:Es}
def okE(F:Fun K x qual st f fd)(S:FnScope N ps (Ji st))(hn:n=ps.length)
 (hb:∀(cdv:Qe) (A:QM) (outer:List Env) (s:Qg) (H:Hp) (E:XK),Room k (A.deeper (envOfC qual (Ji st) s.heap.objs.size f cdv))->(A.deeper (envOfC qual (Ji st) s.heap.objs.size f cdv)).units+64<cLine ->
  ∃t,PSs (WR CX0 P w K mg base N qual (Ji st) f cdv A outer s H E).nox (YI st) t/\SS K C t b):FnOk P w K mg base CX0 (k+1) f fd ps (spE K C n (Yj N.length b)) :=
 F.ok S (fun vs H Q E h=>(Jhs h).trans hn) fun cdv A outer s H vs Q E hr h=>(hb cdv A outer s H E hr hr.units).elim fun t q=>⟨t,q.1,JgE q.2 h⟩
end
end LE
namespace L2
open PySem PySem.W PyProof.Rows
noncomputable def ltG(g:Nat->Int)(i j:Nat):Bool:=if g i=g j then decide (i<j) else decide (g j<g i)
noncomputable def ltQ(g:Nat->Int)(i j:Nat):Bool:=decide (g j<g i)
structure Fall (g:Nat->Int) (N c n:Nat) (p:Array Nat):Prop where
 pm:p.toList.Perm (Q1 N)
 cn:c<n
 nN:n<=N
 ds:Dsc (ltG g) p c
 fx:∀i,c<=i->i<N->p.getD i 0=i
 gr:∀i,c<=i->i<n->g i=g c
 lo:∀i,i<c->g (p.getD i 0)<g c
def Jhm{p:Array Nat}{N i j:Nat}(hz:p.size=N)(hj:j<=N)(k:Nat):(kas_rev p i j).getD k 0=if i<=k/\k<j then p.getD (j-1-(k-i)) 0 else p.getD k 0:=by
 rw[Kg];unfold kas_rev;rw[getElem?_mirror_all (by omega) k];split
 ·rw[Kg];congr 2;omega
 ·rw[Kg]
def Fall.turn(F:Fall g N c n p):Dsc (ltG g) (kas_rev p c n) n/\(kas_rev p c n).toList.Perm (Q1 N)/\(∀i,n<=i->i<N->(kas_rev p c n).getD i 0=i)/\∀i,i<n->g ((kas_rev p c n).getD i 0)<=g c:=by
 have P:=Pm.of F.pm
 have rg:=Jhm (i:=c) P.size F.nN
 have low:∀a,a<c->(kas_rev p c n).getD a 0=p.getD a 0:=fun a h=>by rw[rg,if_neg (by omega)]
 have hig:∀a,c<=a->a<n->(kas_rev p c n).getD a 0=n-1-(a-c):=fun a h1 h2=>by rw[rg,if_pos ⟨h1,h2⟩];exact F.fx _ (by omega) (by have:=F.nN;omega)
 have ghi:∀a,c<=a->a<n->g ((kas_rev p c n).getD a 0)=g c:=fun a h1 h2=>by rw[hig a h1 h2];exact F.gr _ (by omega) (by omega)
 refine⟨fun a b ab hb=>?_,JaA F.pm c n,fun i h1 h2=>?_,fun i hi=>?_⟩
 ·by_cases h1:b<c
  ·rw[low a (by omega),low b h1];exact F.ds a b ab h1
  ·by_cases h2:a<c
   ·have e:=ghi b (by omega) hb
    have l:=F.lo a h2;rw[low a h2];unfold ltG;rw[if_neg (by omega),decide_eq_true_iff];omega
   ·unfold ltG;rw[ghi a (by omega) (by omega),ghi b (by omega) hb,if_pos rfl,hig a (by omega) (by omega),hig b (by omega) hb,decide_eq_true_iff];omega
 ·rw[rg,if_neg (by omega)];exact F.fx i (by have:=F.cn;omega) h2
 ·by_cases h:i<c
  ·rw[low i h];have:=F.lo i h;omega
  ·rw[ghi i (by omega) hi];exact QD _
theorem ZN(mo:∀i j,i<=j->j<N->g i<=g j)(R:Rt N (ltQ g) I cmp):∀(f n q:Nat) (p:Array Nat) (s:Qg),I s->q+1<=n->n+f=N->Fall g N (n-(q+1)) n p ->
 (∀q' p' s',I s'->q'+1<=N->Fall g N (N-(q'+1)) N p'->Q (p',N,q') s')->(kas_desc f p n q).kasWp cmp Q s
 | 0,n,q,p,s,hI,hq,hn,F,k=>by
  obtain rfl:n=N:=by omega
  exact k q p s hI hq F
 | f+1,n,q,p,s,hI,hq,hn,F,k=>by
  have en:p.getD n 0=n:=F.fx n (by omega) (by omega)
  have en1:p.getD (n-1) 0=n-1:=F.fx (n-1) (by omega) (by omega);refine R _ _ _ s hI (by omega) (by omega) fun s' hI'=>?_
  rw[en,en1];have g1:g (n-1)=g (n-(q+1)):=F.gr _ (by omega) (by omega)
  cases e:ltQ g n (n-1) with
  | true =>
   have l:g (n-1)<g n:=by unfold ltQ at e;exact of_decide_eq_true e
   obtain⟨t1,t2,t3,t4⟩:=F.turn
   have F':Fall g N (n+1-(0+1)) (n+1) (kas_rev p (n-(q+1)) n):=by rw[show n+1-(0+1)=n by omega];refine⟨t2,by omega,by omega,t1,t3,fun i h1 h2=>by rw[show i=n by omega],fun i hi=>?_⟩;have:=t4 i hi;omega
   show M1 cmp (if q>0 then kas_desc f (kas_rev p (n-(q+1)) n) (n+1) 0 else kas_desc f p (n+1) 0) Q s';split
   ·exact ZN mo R f (n+1) 0 _ s' hI' (by omega) (by omega) F' k
   ·next h =>
    have q0:q=0:=by omega
    subst q0
    have er:kas_rev p (n-(0+1)) n=p:=by unfold kas_rev;rw[show(n-(n-(0+1))) / 2=0 by omega];rfl
    rw[er] at F';exact ZN mo R f (n+1) 0 _ s' hI' (by omega) (by omega) F' k
  | false =>
   have l:¬g (n-1)<g n:=by unfold ltQ at e;exact of_decide_eq_false e
   have l2:=mo (n-1) n (by omega) (by omega)
   show cmp (n-1) n _ s';refine R _ _ _ s' hI' (by omega) (by omega) fun s2 hI2=>?_
   have e2:ltQ g (n-1) n=false:=by unfold ltQ;exact decide_eq_false (by omega)
   rw[e2];show M1 cmp (kas_desc f p (n+1) (q+1)) Q s2;refine ZN mo R f (n+1) (q+1) p s2 hI2 (by omega) (by omega) ?_ k;rw[show n+1-(q+1+1)=n-(q+1) by omega];refine⟨F.pm,by omega,by omega,F.ds,F.fx,fun i h1 h2=>?_,F.lo⟩
   by_cases h:i<n
   ·exact F.gr i h1 h
   ·rw[show i=n by omega];omega
theorem JhF(mo:∀i j,i<=j->j<N->g i<=g j)(R:Rt N (ltQ g) I cmp):∀(f m:Nat) (s:Qg),I s->1<=m->m+f=N->(∀i,i<m->g i=g 0) ->
 (∀m' s',I s'->1<=m'->m'<=N->(∀i,i<m'->g i=g 0)->(m'=N\/(m'<N/\g 0<g m'))->Q m' s')->(kas_asc (Gc (Q1 N)) f m).kasWp cmp Q s
 | 0,m,s,hI,h1,hn,h,q=>q m s hI h1 (by omega) h (.inl (by omega))
 | f+1,m,s,hI,h1,hn,h,q=>by
  have gd:∀i,i<N->(Gc (Q1 N)).getD i 0=i:=fun i hi=>by simp[MZ,hi]
  refine R _ _ _ s hI (by rw[gd m (by omega)];omega) (by rw[gd (m-1) (by omega)];omega) fun s' hI'=>?_
  rw[gd m (by omega),gd (m-1) (by omega)];have g1:=h (m-1) (by omega)
  cases e:ltQ g m (m-1) with
  | true =>
   have l:g (m-1)<g m:=by unfold ltQ at e;exact of_decide_eq_true e
   exact q m s' hI' h1 (by omega) h (.inr ⟨by omega,by omega⟩)
  | false =>
   have l:¬g (m-1)<g m:=by unfold ltQ at e;exact of_decide_eq_false e
   have l2:=mo (m-1) m (by omega) (by omega);refine JhF mo R f (m+1) s' hI' (by omega) (by omega) (fun i hi=>?_) q
   by_cases c:i<m
   ·exact h i c
   ·rw[show i=m by omega];omega
def Jlm(mo:∀i j,i<=j->j<N->g i<=g j)(R:Rt N (ltQ g) I cmp)(h2:2<=N)(q:∀p s,I s->p.toList.Perm (Q1 N)->Asc (ltG g) p N->Q p s)(s:Qg)(hI:I s):(kas_sort N).kasWp cmp Q s:=by
 have hp0:(Gc (Q1 N)).toList.Perm (Q1 N):=List.Perm.refl _
 have P0:=Pm.of hp0
 have gd:∀i,i<N->(Gc (Q1 N)).getD i 0=i:=fun i hi=>by simp[MZ,hi]
 have part:∀(n:Nat) (p:Array Nat) (s:Qg),I s->1<=n->n<N->Fall g N n (n+1) p->(kas_descPart n N p).kasWp cmp (fun r s'=>(if r.1<N then kas_bin (N-max r.1 1) r.2 (max r.1 1) else KasT.ret r.2).kasWp cmp Q s') s:=fun n p s hI h1 hn F=>by
  unfold kas_descPart;rw[RP];refine ZN mo R (N-(n+1)) (n+1) 0 p s hI (by omega) (by omega) F fun q' p' s' hI' hq' F'=>?_
  obtain⟨t1,t2,_,_⟩:=F'.turn
  have fin:∀p2,p2=kas_rev p' (N-(q'+1)) N->(kas_tail3 N N p2).kasWp cmp (fun r s'=>(if r.1<N then kas_bin (N-max r.1 1) r.2 (max r.1 1) else KasT.ret r.2).kasWp cmp Q s') s':=fun p2 e2=>by subst e2;unfold kas_tail3;rw[Nat.sub_self];show M1 cmp (if N<N then _ else _) Q s';rw[if_neg (Gh _)];exact q _ s' hI' (JaA t2 0 N) (Jnj (Pm.of t2) (Qu _) t1)
  show M1 cmp (if q'>0 then kas_tail3 N N (kas_rev p' (N-(q'+1)) N) else kas_tail3 N N p') _ s';split
  ·exact fin _ rfl
  ·next h =>
   refine fin p' ?_;have q0:q'=0:=by omega
   subst q0;unfold kas_rev;rw[show(N-(N-(0+1))) / 2=0 by omega];rfl
 unfold kas_sort;rw[RP];unfold kas_count;rw[RP];refine JhF mo R (N-1) 1 s hI (Qu _) (by omega) (fun i hi=>by rw[show i=0 by omega]) fun m s1 hI1 a b c d=>?_
 split
 ·next hm =>
  have hm:m=N:=by simpa using hm
  show M1 cmp (if m<N then _ else KasT.ret _) Q s1;rw[if_neg (by omega)];refine q _ s1 hI1 hp0 fun x y xy hy=>?_
  rw[gd x (by omega),gd y hy];unfold ltG;rw[c x (by omega),c y (by omega),if_pos rfl,decide_eq_true_iff];exact xy
 ·next hm =>
  have hm:m≠N:=by simpa using hm
  have gm:g 0<g m:=(d.resolve_left hm).2;split
  ·next h1 =>
   refine R _ _ _ s1 hI1 (by rw[gd 0 (by omega)];omega) (by rw[gd (m-1) (by omega)];omega) fun s2 hI2=>?_
   have e:ltQ g ((Gc (Q1 N)).getD 0 0) ((Gc (Q1 N)).getD (m-1) 0)=false:=by rw[gd 0 (by omega),gd (m-1) (by omega)];unfold ltQ;rw[c (m-1) (by omega)];exact decide_eq_false (Int.lt_irrefl _)
   rw[e];show M1 cmp (kas_descPart m N (kas_rev (Gc (Q1 N)) 0 m)) _ s2;have rg:=Jhm (i:=0) P0.size b
   have rl:∀i,i<m->(kas_rev (Gc (Q1 N)) 0 m).getD i 0=m-1-i:=fun i hi=>by rw[rg,if_pos ⟨GL _,hi⟩,gd _ (by omega)];omega
   refine part m _ s2 hI2 a (by omega) ⟨JaA hp0 0 m,by omega,by omega,fun x y xy hy=>?_,fun i h3 h4=>?_,fun i h3 h4=>by rw[show i=m by omega],fun i hi=>?_⟩
   ·rw[rl x (by omega),rl y hy];unfold ltG;rw[c _ (by omega),c (m-1-x) (by omega),if_pos rfl,decide_eq_true_iff];omega
   ·rw[rg,if_neg (by omega),gd _ h4]
   ·rw[rl i hi,c _ (by omega)];exact gm
  ·next h1 =>
   obtain rfl:m=1:=by omega
   refine part 1 _ s1 hI1 (Qu _) (by omega) ⟨hp0,by omega,by omega,fun x y xy hy=>by omega,fun i _ h4=>gd i h4,fun i h3 h4=>by rw[show i=1 by omega],fun i hi=>?_⟩;rw[show i=0 by omega,gd 0 (by omega)];exact gm
structure Keeps (n0:Nat) (Ok:Qg->Prop):Prop where
 up:∀(s:Qg) (h':Q2) (b:Qh),Ok s->n0<=b->QK b s.heap h'->Ok { s with heap:=h' }
 psh:∀(s:Qg) (o:Obj),Ok s->Ok { s with heap:=s.heap.push o }
noncomputable def JoG(prog:Qy)(w:QP)(A:QM)(n0:Nat)(Ok:Qg->Prop)(f:Qe)(vs:List Qe)(kz:Nat->Int):Prop:=∀(i:Nat) (v:Qe) (s:Qg),vs[i]?=some v->Ok s ->
 wpAny (model prog w) A (call f [v]) (fun k s'=>(∃t,k=.int (kz i) t)/\Ok s'/\∀b o,n0<=b->s.heap.get? b=some o->s'.heap.get? b=some o) (fun _ _=>False) s
noncomputable def KsAre(kz:Nat->Int)(ks:List Qe):Prop:=∀(j:Nat) (k:Qe),ks[j]?=some k->∃t,k=.int (kz j) t
def KsAre.snoc(h:KsAre kz ks):KsAre kz (ks++[.int (kz ks.length) t]):=fun j k e=>by
 by_cases c:j<ks.length
 ·rw[QO c] at e;exact h j k e
 ·by_cases c2:j=ks.length
  ·subst c2;rw[QQ (Qu _),Nat.sub_self] at e;cases e;exact⟨t,rfl⟩
  ·rw[Gz (by rw[QA,Gq];omega)] at e;cases e
theorem JbF(KP:Keeps n0 Ok)(R:JoG prog w A n0 Ok f vs kz)(h64:vs.length<64)(hk0:n0<=kS)(ha0:n0<=a)(hak:a≠kS)(hb:∀x ks e (s:Qg) (C:Qe->Qg->Prop),Mh ks<64->(∀k s',C k s'->s'.heap.get? kS=some (seqObj "list" (Gc ks) e))->wpAny (model prog w) A (call f [x]) C (fun _ _=>False) s ->
  wpAny (model prog w) A (body x ⟨⟩) (fun r s'=>r=.yield ⟨⟩/\∃k s1 h' c,C k s1/\s'={ s1 with heap:=h' }/\QK kS s1.heap h'/\h'.get? kS=some (seqObj "list" (Gc (ks++[k])) c)) E s):
 ∀(r ks:List Qe) (e:Nat) (s:Qg),vs=vs.take ks.length++r->ks.length+r.length=vs.length->Ok s->s.heap.get? kS=some (seqObj "list" (Gc ks) e)->s.heap.get? a=some (seqObj "list" #[] e1)->KsAre kz ks ->
  wpAny (model prog w) A (forIn r PUnit.unit body) (fun _ s'=>∃ks e,ks.length=vs.length/\Ok s'/\s'.heap.get? kS=some (seqObj "list" (Gc ks) e)/\s'.heap.get? a=some (seqObj "list" #[] e1)/\KsAre kz ks) E s
 | [],ks,e,s,hv,hl,hO,hk,ha,hK=>by rw[Mq];exact Qj ⟨ks,e,by simpa using hl,hO,hk,ha,hK⟩
 | x::r,ks,e,s,hv,hl,hO,hk,ha,hK=>by
  rw[Qv] at hl;rw[Mb]
  have hx:vs[ks.length]?=some x:=by
   rw[hv,QQ (by rw[K1];omega)];have:ks.length-(vs.take ks.length).length=0:=by rw[K1];omega
   rw[this];rfl
  refine Qa (KF (hb x ks e s (fun k s'=>(∃t,k=.int (kz ks.length) t)/\Ok s'/\∀b o,n0<=b->s.heap.get? b=some o->s'.heap.get? b=some o) (by omega) (fun k s' h=>h.2.2 _ _ hk0 hk) (R _ x s hx hO)) (fun q s' hq=>?_) fun _ _ x=>x);obtain⟨rfl,k,s1,h',c,⟨⟨t,rfl⟩,hO1,hkeep⟩,rfl,sb,hk'⟩:=hq;show wpAny (model prog w) A (forIn r PUnit.unit body) _ E _;refine JbF KP R h64 hk0 ha0 hak hb r (ks++[.int (kz ks.length) t]) c _ ?_ (by rw[QA,Gq];omega) (KP.up _ _ _ hO1 hk0 sb) hk' ((sb.2 a hak).trans (hkeep _ _ ha0 ha)) hK.snoc
  rw[QA,Gq,List.take_succ,hx,Option.toList_some,Kc];exact hv
def JbG(h:KsAre kz ks)(i:Nat)(hi:i<ks.length):∃t,ks.getD i Value.none=.int (kz i) t:=by obtain⟨t,e⟩:=h i ks[i] (QB hi);exact⟨t,by rw[<- e];simp[hi]⟩
def Jsf(KP:Keeps n0 Ok)(R:JoG prog w A n0 Ok f vs kz)(mo:∀i j,i<=j->j<vs.length->kz j<=kz i)(ho:s.heap.get? a=some (seqObj "list" vs.toArray n))(h64:vs.length<64)(ha0:n0<=a)(hO:Ok s)(h:∀(p:Array Nat) (s':Qg) (c:Nat),p.toList.Perm (Q1 vs.length)->Asc (ltG fun i=>- kz i) p vs.length->Ok s'->s'.heap.get? a=some (seqObj "list" (Gc (p.toList.map fun i=>vs.getD i Value.none)) c)->P (.done (.ret .none)) s'):
 wpAny (model prog w) A (ksk_tree a f false) P E s:=by
 have ha:a<s.heap.objs.size:=Qn ho
 have room:vs.length<=Qr:=by rw[sizeLine_eq];omega
 have s1:=Gb s.heap a (Gx fun _=>(#[]:Array Qe));obtain⟨e1,ho1⟩:∃e1,(s.heap.update a (Gx fun _=>(#[]:Array Qe))).get? a=some (seqObj "list" #[] e1):=⟨_,get?_update_seq ho fun _=>#[]⟩
 have hkS:((s.heap.update a (Gx fun _=>(#[]:Array Qe))).push (seqObj "tuple" vs.toArray 0)).objs.size=s.heap.objs.size+1:=by rw[size_push',Heap.size_update]
 unfold ksk_tree;refine Qa (listItems_at ho rfl ?_);refine Qa (listUpdate_at ho rfl ?_ (by rw[Qt];exact room) (GL _));refine Qa (seqEpoch_at ho1 rfl ?_);refine Qa (Mr ?_ room);refine Qa (wpAny_newList ?_ (GL _));refine GO ?_;show wpAny _ _ _ _ _ { s with heap:=((s.heap.update a (Gx fun _=>(#[]:Array Qe))).push (seqObj "tuple" vs.toArray 0)).push (seqObj "list" #[] 0) }
 have g1:(((s.heap.update a (Gx fun _=>(#[]:Array Qe))).push (seqObj "tuple" vs.toArray 0)).push (seqObj "list" #[] 0)).get? (s.heap.objs.size+1)=some (seqObj "list" #[] 0):=by rw[<- hkS];exact Qm _ rfl
 have g2:(((s.heap.update a (Gx fun _=>(#[]:Array Qe))).push (seqObj "tuple" vs.toArray 0)).push (seqObj "list" #[] 0)).get? a=some (seqObj "list" #[] e1):=Qi _ (Qi _ ho1)
 have g3:Ok { s with heap:=((s.heap.update a (Gx fun _=>(#[]:Array Qe))).push (seqObj "tuple" vs.toArray 0)).push (seqObj "list" #[] 0) }:=KP.psh _ _ (KP.psh _ _ (KP.up _ _ _ hO ha0 s1))
 generalize ((s.heap.update a (Gx fun _=>(#[]:Array Qe))).push (seqObj "tuple" vs.toArray 0)).push (seqObj "list" #[] 0)=G at g1 g2 g3
 rw[hkS]
 generalize hkk:s.heap.objs.size+1=kS at g1
 have hk0:n0<=kS:=by rw[<- hkk];exact Gm ha0 (Re (GW ha))
 have hak:a≠kS:=by rw[<- hkk];exact QF (GQ ha)
 unfold ksk_rest;refine Qa (KG ?_)
 first
  | rw[List.forIn_toArray]
  | (rw[<- Md];simp only[List.toList_toArray])
  | rw[<- Md]
 refine Qa (KF (JbF KP R h64 hk0 ha0 hak (e1:=e1) (fun x ks e s' C hz hC hx=>?_) vs [] 0 { s with heap:=G } (by simp) (by simp) g3 g1 g2 (fun j k z=>by simp at z)) (fun _ s' hd=>?_) fun _ _ x=>x)
 ·refine Qa (G9 (KF hx (fun k s'' hk=>?_) fun _ _ hF=>hF.elim));have nk:=hC k s'' hk;have sb:=Gb s''.heap kS (Gx (·.push k));have ea:(Gc ks).push k=Gc (ks++[k]):=by simp
  obtain⟨c2,hc2⟩:∃c2,(s''.heap.update kS (Gx (·.push k))).get? kS=some (seqObj "list" (Gc (ks++[k])) c2):=⟨_,by rw[<- ea];exact get?_update_seq nk (·.push k)⟩
  try dsimp only
  refine Qa (listUpdate_at nk rfl ?_ (by rw[Qt,sizeLine_eq];omega) (Gm (LZ (Array.size_push ..)) (by rw[Qt,sizeLine_eq];omega)));exact Qj ⟨rfl,k,s'',_,c2,hk,rfl,sb,hc2⟩
 ·obtain⟨ks,e,hl,hO',hk',ha',hK⟩:=hd
  try dsimp only
  refine Qa (listItems_at hk' rfl ?_)
  have tail:∀(st:SortSt) (p:Array Nat),(arrOf st).map (·.2)=Gc (p.toList.map fun i=>vs.getD i Value.none)->failedOf st=none->p.toList.Perm (Q1 vs.length)->Asc (ltG fun i=>- kz i) p vs.length->wpAny (model prog w) A (ksk_tail a false e1 (.ref kS) st) P E s':=fun st p ep hf hp hA=>by
   have t1:=Gb s'.heap kS (Gx fun _=>(#[]:Array Qe))
   have na:(s'.heap.update kS (Gx fun _=>(#[]:Array Qe))).get? a=some (seqObj "list" #[] e1):=(t1.2 a hak).trans ha'
   have t2:=Gb (s'.heap.update kS (Gx fun _=>(#[]:Array Qe))) a (Gx fun _=>Gc (p.toList.map fun i=>vs.getD i Value.none));obtain⟨c2,hc2⟩:∃c2,((s'.heap.update kS (Gx fun _=>(#[]:Array Qe))).update a (Gx fun _=>Gc (p.toList.map fun i=>vs.getD i Value.none))).get? a=some (seqObj "list" (Gc (p.toList.map fun i=>vs.getD i Value.none)) c2):=⟨_,get?_update_seq na fun _=>Gc (p.toList.map fun i=>vs.getD i Value.none)⟩
   have hsz:(Gc (p.toList.map fun i=>vs.getD i Value.none)).size=vs.length:=by rw[Qt,Qp,hp.length_eq,Li]
   unfold ksk_tail
   try dsimp only
   rw[ep];simp only[Kh,if_false];refine Qa (listUpdate_at hk' rfl ?_ (by rw[Qt,sizeLine_eq];omega) (GL _));refine Qa (Le ?_);refine Qa (seqEpoch_at na rfl ?_);refine Qa (listUpdate_at na rfl ?_ (GL _) (Gm (LZ hsz) (Re room)));rw[hf];simp only[bne_self_eq_false,Kh,if_false];have o1:=KP.up s' _ kS hO' hk0 t1;have o2:=KP.up _ _ a o1 ha0 t2
   exact Qj (h p _ c2 hp hA o2 hc2)
  unfold ksk_end
  try dsimp only
  simp only[Kh,if_false]
  by_cases two:vs.toArray.size<2
  ·have two':vs.length<2:=by simpa using two
   rw[if_pos two,if_pos two];refine Qa (Qj ?_);rw[StateT.run_pure];refine Qa (Qj ?_)
   try dsimp only
   refine tail _ (Gc (Q1 vs.length)) ?_ rfl (List.Perm.refl _) (JhJ two');show((Gc ks).zip vs.toArray).map (·.2)=Gc ((Q1 vs.length).map fun i=>vs.getD i Value.none);rw[JkQ]
   apply Array.toList_inj.mp
   rw[Array.toList_map,Array.toList_zip];exact List.map_snd_zip (LZ hl.symm)
  ·have two1:¬vs.length<2:=by simpa using two
   have two':2<=vs.length:=by omega
   rw[if_neg two,if_neg two];refine Qa (kas_kind (T:=.type "int") (by omega) (fun v hv=>?_) rfl rfl ?_)
   ·obtain⟨j,hj,rfl⟩:=GD.mp hv;obtain⟨t,e⟩:=hK j _ (QB hj);rw[e];exact Looks.of_pure rfl
   ·have ask:Rt vs.length (ltQ fun i=>- kz i) (·=s') (kas_ask prog w A oneType' ks):=fun i j C s0 e0 hi hj hC=>by
     subst e0;obtain⟨t1,q1⟩:=JbG hK i (by omega);obtain⟨t2,q2⟩:=JbG hK j (by omega);unfold kas_ask;rw[q1,q2];refine kat_lt_int ?_
     have e:ltQ (fun i=>- kz i) i j=decide (kz i<kz j):=by unfold ltQ;exact decide_eq_decide.mpr (by dsimp only;omega)
     rw[<- e];exact hC s0 rfl
    have tree:(kas_sort vs.length).kasWp (kas_ask prog w A oneType' ks) (fun p s2=>s2=s'/\p.toList.Perm (Q1 vs.length)/\Asc (ltG fun i=>- kz i) p vs.length) s' :=
     Jlm (fun i j h1 h2=>by have:=mo i j h1 h2;omega) ask two' (fun p s2 e hp ha=>⟨e,hp,ha⟩) _ rfl
    refine Qa (KF (kat_run (ks:=ks) (Q:=fun st' s2=>s2=s'/\failedOf st'=none/\∃p:Array Nat,(arrOf st').map (·.2)=Gc (p.toList.map fun i=>vs.getD i Value.none)/\p.toList.Perm (Q1 vs.length)/\Asc (ltG fun i=>- kz i) p vs.length) hl two' h64
     (fun p st' s2 _ e f g=>⟨g.1,f,p,kat_snds hl e,g.2⟩) tree) ?_ fun _ _ e=>e)
    rintro⟨⟨⟩,st'⟩ s2 ⟨rfl,hf,p,ep,hp,hA⟩;exact tail st' p ep hf hp hA
end L2
namespace L2
open PySem PySem.W PySem.Calls PyProof.Rows
def JnF{s:Qg}{Ok:Qg->Prop}{f l:Qh}{vs:List Qe}{kz:Nat->Int}{Q:Qe->Qg->Prop}(KP:Keeps s.heap.objs.size Ok)(R:JoG prog w A.in1.in1 s.heap.objs.size Ok (.ref f) vs kz)(mo:∀i j,i<=j->j<vs.length->kz j<=kz i)(hl:s.heap.IsList l vs.toArray)(h64:vs.length<64)(hO:Ok s)
 (h:∀(p:Array Nat) (s':Qg) (c:Nat),p.toList.Perm (Q1 vs.length)->Asc (ltG fun i=>- kz i) p vs.length->Ok s'->s'.heap.get? (s.heap.objs.size+1)=some (seqObj "list" (Gc (p.toList.map fun i=>vs.getD i Value.none)) c)->Q (.ref (s.heap.objs.size+1)) s') :
 wpAny (model prog w) A (call (.builtin "sorted") [.ref l] [(Go "key",.ref f)]) Q E s:=by
 have room:vs.length<=Qr:=by rw[sizeLine_eq];omega
 refine call_function_entry_kw kind_sorted plain_sorted entry_sorted (ksk_s1 _ _) ?_;unfold Builtin.«sorted»;refine Qa (m:=checkCount "sorted" 1 1 _) (Qj ?_);refine Qa (collect_list hl ?_ room);refine Qa (wpAny_newList ?_ room);have sz:((s.heap.push (seqObj "list" #[] 0)).update s.heap.objs.size (Gx (·++vs.toArray))).objs.size=s.heap.objs.size+1:=by rw[Heap.size_update,size_push']
 have at1:(((s.heap.push (seqObj "list" #[] 0)).update s.heap.objs.size (Gx (·++vs.toArray))).push (seqObj "list" vs.toArray 0)).get? (s.heap.objs.size+1)=some (seqObj "list" vs.toArray 0):=by rw[<- sz];exact Qm _ rfl
 show wpAny _ _ _ _ _ { s with heap:=((s.heap.push (seqObj "list" #[] 0)).update s.heap.objs.size (Gx (·++vs.toArray))).push (seqObj "list" vs.toArray 0) };rw[sz]
 have o1:=KP.psh s (seqObj "list" #[] 0) hO
 have o2:=KP.up _ _ s.heap.objs.size o1 (Qu _) (Gb (s.heap.push (seqObj "list" #[] 0)) s.heap.objs.size (Gx (·++vs.toArray)))
 have o3:=KP.psh _ (seqObj "list" vs.toArray 0) o2;refine Qa (GO (wpAny_call_entry_kw slot_list_sort ⟨_,at1,rfl⟩ entry_list_sort ?body (ksk_l1 _ _)))
 case body =>
  show wpAny (model prog w) A.in1.in1 (Builtin.«list.sort» ⟨[.ref (s.heap.objs.size+1)],[(Go "key",.ref f)]⟩) _ _ _;rw[ksk_t1];refine Jsf KP R mo at1 h64 (KY _) o3 fun p s' c hp ha ho hg=>⟨_,rfl,?_⟩
  exact Qj ⟨_,rfl,h p s' c hp ha ho hg⟩
end L2
namespace L2
open PySem PySem.Spec PyProof.Rows
def Jmp{CX:CXT}{P:Qy}{w:QP}{K:Qz}{mg:Str->Option Qe}{base:Q2}{k:Nat}{f c':Qh}{name qual:Str}{params:MR}{body:Gu}{scope:Mg}{pm ctv:Qe}{N ps:List Str}{A:QM}{outer:List Env}{s:Qg}{H:Hp}{us:List Qe}{vs:List V}{Q:VK}{E:XK}{t:TE}
 (S:FnScope N ps scope) (ho:s.heap.get? f=some (kla_obj name qual params body scope [] pm c' ctv)) (hcd:s.heap.CodeRec (.ref c') qual) (hr:Room (k+1) A) (e0:Env0 P w K mg base A outer s H)
 (hb:bindArgs (kla_fn name qual params body scope [] pm (.ref c') ctv) ⟨us,[]⟩=pure (ps.zip us)) (r:Vals vs us) (hl:vs.length=ps.length)
 (ht:PE (WR CX P w K mg base N qual scope f (.ref c') A outer s H E) body t) (hq:t (YH N vs) H Q) :
 codeAny (model P w) A (.call (.ref f) ⟨us,[]⟩) (CR CX outer P w H s Q E) s:=by
 have lim:s.heap.NoLimit:=e0.mod.nolimit.keeps fun b o e=>(e0.bs b o e).1
 have hkind:∀y∈ps.zip us,scope.names.lookup y.1=some .local\/(scope.names.lookup y.1=some .cell/\((cellsFrom (s.heap.objs.size+1) scope.names []).lookup y.1).isSome=true):=fun⟨n,v⟩ hy=>by
  rcases S.par n (KR hy).1 with q|q
  ·exact .inl q
  ·exact .inr ⟨q,cellsFrom_some _ _ _ (.inl q)⟩
 refine PySem.W.kla_callFunE hr.depth ho rfl S.co S.gen rfl hcd ?_;rw[hb];refine Qj ?_;refine LV S.kind hkind fun env he s1 x=>?_
 subst he;refine⟨lim.keeps x.toInCall.keep,PySem.W.kla_codeExpr ?_⟩;have I:Inv (WR CX P w K mg base N qual scope f (.ref c') A outer s H E) [] (YH N vs) H s1:=WX S hr.hd e0 hl r x;refine KF (ht [] s1 (YH N vs) H _ I hq) (fun u s' hs=>?_) fun e s' hs=>hs
 obtain⟨v,H',J,rv,q⟩:=hs;exact⟨v,H',J.os,J.bare,J.base,J.hok,rv,q⟩
noncomputable def noT(H:Hp)(P y:Qh):Hp:=fun b=>if b=P\/b=y then none else H b
def Jao(e:noT H P y b=some u):H b=some u/\b≠P/\b≠y:=by
 unfold noT at e;split at e
 ·cases e
 ·next h=>exact⟨e,fun z=>h (.inl z),fun z=>h (.inr z)⟩
def JcE(e:H b=some u)(h1:b≠P)(h2:b≠y):noT H P y b=some u:=by unfold noT;rw[if_neg fun z=>z.elim h1 h2];exact e
def Um(e:H b=none):noT H P y b=none:=by
 unfold noT;split
 ·rfl
 ·exact e
theorem JgH(u:Un fs [] H H' h h')(hH:∀b∈fs,H b=none):∀(l:List Env),(∀b∈frs l,b∈fs)->h.FunFrames base l->h'.FunFrames base l
 | [],_,_=>trivial
 | env::r,hs,hl=>by obtain⟨hk,⟨L,o,hf,hn,ho,hd⟩,hr⟩:=hl;have hL:L∈fs:=hs L (by unfold frs;rw[KS,hf];exact Qf);obtain⟨sl,e⟩:=u.slot L o ho (hH L hL) hL (by simp);exact⟨hk,⟨L,_,hf,hn,e,hd⟩,JgH u hH r (fun b hb=>hs b (by unfold frs;rw[KS,hf];exact Qc _ hb)) hr⟩
def JnG{K:Qz}{H:Hp}{P y b:Qh}{xs:List V}{l c:Nat}{q:Str}{ps:Array Qe}(hP:H P=some (.tbl ps l c q))(hy:H y=some (.own P))(h:SqT K H b xs):SqT K (noT H P y) b xs:=by
 rcases h with h|h
 ·refine .inl ?_;have h1:∀u,H b=some u->(∀p l c q,u≠.tbl p l c q)->(∀x,u≠.own x)->noT H P y b=some u:=fun u e n1 n2=>JcE e (fun z=>by subst z;rw[hP] at e;cases e;exact n1 _ _ _ _ rfl) fun z=>by subst z;rw[hy] at e;cases e;exact n2 _ rfl
  rcases h with e|⟨o,e⟩
  ·exact .inl (h1 _ e (fun _ _ _ _ z=>nomatch z) fun _ z=>nomatch z)
  ·exact .inr ⟨o,h1 _ e (fun _ _ _ _ z=>nomatch z) fun _ z=>nomatch z⟩
 ·exact .inr h
structure Srt (X:Cx) (H:Hp) (s s3:Qg):Prop where
 os:s3.os=s.os
 bare:AllBare s3.gens
 un:Un (frs X.stack) [] H H s.heap s3.heap
 hok:HOk X.prog X.w H s3.heap
def Srt.keeps{X:Cx}{H:Hp}{s:Qg}(fr:∀b,s.heap.objs.size<=b->H b=none):Keeps s.heap.objs.size (Srt X H s) where
 up:=fun s3 h' b S hb sb=>by
  have low:∀(c:Qh) (o:Obj),s.heap.get? c=some o->c≠b:=fun c o e=>QF (Q4 (Qn e) hb)
  have lowH:∀(c:Qh) (u:HO),H c=some u->c≠b:=fun c u e z=>by rw[z,fr b hb] at e;cases e
  refine⟨S.os,S.bare,⟨fun c o e n h1 h2=>(sb.2 c (low c o e)).trans (S.un.keep c o e n h1 h2),fun c o e n h1 h2=>?_,S.un.free,fun c o e h2=>?_,S.un.tups,S.un.frzs,S.un.tbls⟩,fun c u e=>?_⟩
  ·obtain⟨sl,e1⟩:=S.un.slot c o e n h1 h2;exact⟨sl,(sb.2 c (low c o e)).trans e1⟩
  ·obtain⟨o',e1⟩:=S.un.there c o e h2;exact⟨o',(sb.2 c (low c o e)).trans e1⟩
  ·refine(S.hok c u e).stay (fun d v hd r=>(sb.2 d ?_).trans r) (fun _ r=>r) fun _ _ r=>r
   rcases hd with rfl|hd
   ·exact lowH _ _ e
   ·exact lowH _ _ hd
 psh:=fun s3 o S=>⟨S.os,S.bare,S.un.trans (Un.kept fun b u e=>Qi _ e),S.hok.kept fun b u e=>Qi _ e⟩
def Jb1(I:Inv X pins σ H s)(hP:H P=some (.tbl #[] l c qual))(hy:H y=some (.own P))(hyP:y≠P)(gP:s.heap.get? P=some { cls:=.none,data:=.fields (#[]++#[rawInt l,rawInt c,.ref y]) })(hcd:s.heap.CodeRec (.ref y) qual)
 (ho:s.heap.get? f=some (kla_obj name qual params body scope [] pm y ctv)) (hf:H f=none) (hfs:f∉frs X.stack) (S:FnScope N ps scope) (hps:ps.length=1)
 (hb:∀u,bindArgs (kla_fn name qual params body scope [] pm (.ref y) ctv) ⟨[u],[]⟩=pure (ps.zip [u])) (hr:Room 3 X.A)
 (ht:∀(A:QM) (s:Qg) (H:Hp),PE (WR CX0 X.prog X.w X.K X.mg X.base N qual scope f (.ref y) A X.stack s H fun _ _ _=>False) body t)
 (htq:∀(b:Qh) (x z:Int) (H:Hp) (Q:VK),SqT X.K H b [.int x,.int z]->Q (.int (-x)) H->t (YH N [.ref b]) H Q)
 {a:Qh} {vs:List V} {ns:List (Int×Int)} (hq:SqL X.K H a vs) (h64:vs.length<64) (hlen:vs.length=ns.length) (hit:∀(i:Nat) (v:V) (p:Int×Int),vs[i]?=some v->ns[i]?=some p->∃b,v=.ref b/\SqT X.K H b [.int p.1,.int p.2])
 (mo:∀i j,i<=j->j<ns.length->(ns.getD i (0,0)).1<=(ns.getD j (0,0)).1)
 (q:∀(D:Qh) (p:List Nat),H D=none->p.Perm (Q1 vs.length)->(∀a b,a<b->b<vs.length->ltG (fun i=>(ns.getD i (0,0)).1) (p.getD a 0) (p.getD b 0)=true)->Q (.ref D) (upd H D (.lst (p.map fun i=>vs.getD i .non)))) :
 wpAny (model X.prog X.w) X.A (call (.builtin "sorted") [.ref a] [(Go "key",.ref f)]) (EP X pins σ Q) X.xe s:=by
 have frN:∀b,s.heap.objs.size<=b->noT H P y b=none:=fun b hb=>Um (I.hok.fresh hb)
 obtain⟨its,r',pl,hz⟩:=I.list hq;have il:=r'.length;have yfs:y∉frs X.stack:=fun z=>by rw[I.stkFree y z] at hy;cases hy
 have Pfs:P∉frs X.stack:=fun z=>by rw[I.stkFree P z] at hP;cases hP
 have nP:noT H P y P=none:=by unfold noT;rw[if_pos (.inl rfl)]
 have ny:noT H P y y=none:=by unfold noT;rw[if_pos (.inr rfl)]
 obtain⟨y',oc,cvs,tq,ey,hoc,hdc,hvq⟩:=hcd;cases ey
 have hok0:HOk X.prog X.w (noT H P y) s.heap:=fun b u e=>by
  obtain⟨e1,n1,n2⟩:=Jao e;refine(I.hok b u e1).stay (fun _ _ _ r=>r) (fun d r=>JcE r (fun z=>?_) fun z=>?_) fun d xs r=>JcE r (fun z=>?_) fun z=>?_
  ·subst z;rw[hP] at r;cases r
  ·subst z;rw[hy] at r;cases r;exact n1 rfl
  ·subst z;rw[hP] at r;cases r
  ·subst z;rw[hy] at r;cases r
 have S0:Srt X (noT H P y) s s:=⟨rfl,I.bare,Un.refl,hok0⟩
 have stf:∀b∈frs X.stack,noT H P y b=none:=fun b hb=>Um (I.stkFree b hb)
 refine JnF (Ok:=Srt X (noT H P y) s) (kz:=fun i=>- (ns.getD i (0,0)).1) (Srt.keeps frN) (fun i v s3 hv T=>?_) (fun i j h1 h2=>?_) pl.isList (by omega) S0 fun p s' cc hp ha T hg=>?_
 ·have hi:i<its.length:=(Qo.mp hv).1
  have hi1:i<vs.length:=by omega
  have hi2:i<ns.length:=by omega
  obtain⟨b,eb,hbT⟩:=hit i vs[i] ns[i] (QB hi1) (QB hi2);obtain⟨u',hu,rel⟩:=r'.get (QB hi1);rw[hv] at hu;cases hu;rw[eb] at rel;have gi:ns.getD i (0,0)=ns[i]:=by simp[hi2]
  have env0:Env0 X.prog X.w X.K X.mg X.base X.A.in1.in1 X.stack s3 (noT H P y):=by
   refine⟨I.ok.frames,I.ok.mod,fun b o e=>?_,?_,JgH T.un stf X.stack (fun _ h=>h) I.stack,stf,T.hok,T.bare⟩
   ·obtain⟨e1,e2⟩:=I.bs b o e
    have nb:b∉frs X.stack:=fun z=>by have:=(I.stack.mem z).1;rw[e] at this;cases this
    exact⟨T.un.keep b o e1 (Um e2) nb (by simp),Um e2⟩
   ·obtain⟨m,⟨o,es,ep,hoL,r⟩,_⟩:=id I.loc;obtain⟨o',e'⟩:=T.un.there _ _ hoL (by simp);exact Gm (Gm I.ok.bsz I.ok.above) (GW (Qn e'))
  have ho3:=T.un.keep f _ ho (Um hf) hfs (by simp)
  have hy3:=T.un.keep y _ hoc ny yfs (by simp);refine wpAny_call (Lz (Jmp (k:=0) (Q:=fun v H'=>v=.int (- ns[i].1)/\H'=noT H P y) (E:=fun _ _ _=>False) (CX:=CX0) S ho3 ⟨y,oc,cvs,tq,rfl,hy3,hdc,hvq⟩ hr.in1.in1 env0 (hb v) (.cons rel .nil) (by rw[hps];rfl) (ht _ _ _) (htq b _ _ _ _ (JnG hP hy hbT) ⟨rfl,rfl⟩)) fun r s' hq=>?_)
  cases r with
  | error e=>exact G4 hq
  | ok fl =>
   cases fl with
   | next=>exact G4 hq
   | brk=>exact G4 hq
   | cont=>exact G4 hq
   | ret u=>obtain⟨w',H',os,bare,un,hok',rv,e1,e2⟩:=hq;subst e1 e2;obtain⟨tk,rfl⟩:=rv;refine⟨⟨tk,by show _=Value.int (- (ns.getD i (0,0)).1) tk;rw[gi]⟩,⟨os.trans T.os,bare,T.un.trans un,hok'⟩,fun d o hd e=>un.keep d o e (frN d hd) (fun z=>?_) (by simp)⟩;obtain⟨_,o2,ho2,_⟩:=I.stack.mem z;exact absurd (Qn ho2) (LW.mpr hd)
 ·have:=mo i j h1 (by omega)
  show-(ns.getD j (0,0)).1<=- (ns.getD i (0,0)).1;omega
 ·have perm:p.toList.Perm (Q1 vs.length):=by rw[il];exact hp
  have hn:(p.toList.map fun i=>vs.getD i .non).length<=Qr:=by rw[Qp,perm.length_eq,Li];exact hz
  have hne:H (s.heap.objs.size+1)=none:=I.hok.fresh (KY _)
  have neD:∀(b:Qh) (u:HO),H b=some u->b≠s.heap.objs.size+1:=fun b u e z=>by rw[z,hne] at e;cases e
  have neD':∀(b:Qh) (o:Obj),s.heap.get? b=some o->b≠s.heap.objs.size+1:=fun b o e=>QF (GQ (Qn e))
  have hP':=T.un.keep P _ gP nP Pfs (by simp)
  have hy':=T.un.keep y _ hoc ny yfs (by simp)
  have okH:HOk X.prog X.w (upd H (s.heap.objs.size+1) (.lst (p.toList.map fun i=>vs.getD i .non))) s'.heap:=fun b u e=>by
   by_cases h1:b=s.heap.objs.size+1
   ·subst h1;rw[Jl] at e;cases e;exact⟨hn,p.toList.map fun i=>its.getD i Value.none,cc,JiL r' p.toList (fun i hi=>by simpa using perm.mem_iff.mp hi),hg⟩
   ·rw[Je h1] at e;have ex:∀d v,H d=some v->upd H (s.heap.objs.size+1) (.lst (p.toList.map fun i=>vs.getD i .non)) d=some v:=fun d v r=>by rw[Je (neD d v r)];exact r
    by_cases h2:b=P
    ·subst h2;rw[hP] at e;cases e;exact .inr ⟨y,ex _ _ hy,hyP,hP',y,oc,cvs,tq,rfl,hy',hdc,hvq⟩
    ·by_cases h3:b=y
     ·subst h3;rw[hy] at e;cases e;exact⟨_,hy'⟩
     ·exact(T.hok b u (JcE e h2 h3)).stay (fun _ _ _ r=>r) (fun d r=>ex _ _ (Jao r).1) fun d xs r=>ex _ _ (Jao r).1
  refine⟨.ref (s.heap.objs.size+1),_,I.call' (s':=s') (ch:=[]) T.os ⟨fun b o e n h1 h2=>T.un.keep b o e (Um n) h1 h2,fun b o e n h1 h2=>T.un.slot b o e (Um n) h1 h2,fun b o e n _=>by rw[Je (neD' b o e)];exact n,T.un.there,fun b xs e=>by rw[Je (neD b _ e)];exact e,fun b o xs e=>by rw[Je (neD b _ e)];exact e,fun b ps l c z e=>by rw[Je (neD b _ e)];exact e⟩ okH T.bare (fun b z=>absurd z (by simp)),rfl,q _ p.toList hne perm fun x z hxz hz=>?_⟩
  have:=ha x z hxz (by omega)
  have g:∀i,p.toList.getD i 0=p.getD i 0:=fun i=>by rw[GC,Kg,Kb]
  rw[g,g];have gg:(fun i=>- - (ns.getD i (0,0)).1)=fun i=>(ns.getD i (0,0)).1:=by funext i;omega
  rw[gg] at this;exact this
end L2
namespace L2
open PySem PySem.Spec PyProof.Rows LE
noncomputable def JbV(mg:Str->Option Qe)(h:Q2):Prop:=∃bm ob,mg "__builtins__"=some (.ref bm)/\bm≠builtinsNs/\h.get? bm=some ob/\ob.cls=.type "module"/\ob.dict=some builtinsNs/\ob.data=.plain
def JmZ(hN:X.N[i]?=some v)(hv:Vis X.env.scope v)(hd:(v == ("__debug__":Str))=false)(hcd:(v == ("__classdict__":Str))=false):
 PE X (.UnaryOp .USub (.Subscript (.Name v p1) (.Constant (.int 0) k p2) p3) p4) (tUn (rU fun i=>.int (-i)) (tOp (rIx X.K) (VV i) (tC (.int 0)))) :=
 Jkk Jf8 (Joq JjQ (Jkl hN hv hd hcd) Jh (fun _ _=>rfl))
def Jj9{K:Qz}{σ:St}{H:Hp}{Q:VK}{b:Qh}{x z:Int}(e:σ[0]?=some (some (.ref b)))(h:SqT K H b [.int x,.int z])(q:Q (.int (-x)) H):tUn (rU fun i=>.int (-i)) (tOp (rIx K) (VV 0) (tC (.int 0))) σ H Q :=
 ⟨_,e,.inr (.inl ⟨b,_,0,.int x,rfl,rfl,h,rfl,x,rfl,q⟩)⟩
noncomputable def Grow(P:Qh)(H1 H2:Hp):Prop:=H2=H1\/∃y,H1 y=none/\H2=upd H1 y (.own P)
noncomputable def ltI(ns:List (Int×Int))(i j:Nat):Bool:=ltG (fun i=>(ns.getD i (0,0)).1) i j
noncomputable def tSL(K:Qz)(t:TA):TE:=fun σ H Q=>t σ H fun us H1=>∃(a:Qh) (vs:List V) (ns:List (Int×Int)),us=[.ref a]/\TabK K H1/\SqL K H1 a vs/\vs.length<64/\vs.length=ns.length/\(∀(i:Nat) (v:V) (p:Int×Int),vs[i]?=some v->ns[i]?=some p->∃b,v=.ref b/\SqT K H1 b [.int p.1,.int p.2]) ∧
 (∀i j,i<=j->j<ns.length->(ns.getD i (0,0)).1<=(ns.getD j (0,0)).1) ∧
 ∀(P:Qh) (H2:Hp) (D:Qh) (p:List Nat),Grow P H1 H2->H2 D=none->p.Perm (Q1 vs.length)->(∀a b,a<b->b<vs.length->ltI ns (p.getD a 0) (p.getD b 0)=true)->Q (.ref D) (upd H2 D (.lst (p.map fun i=>vs.getD i .non)))
def Grow.seqT{K:Qz}{P b:Qh}{H1 H2:Hp}{xs:List V}(g:Grow P H1 H2)(h:SqT K H1 b xs):SqT K H2 b xs:=by
 rcases g with rfl|⟨y,n,rfl⟩
 ·exact h
 ·have up:∀u,H1 b=some u->upd H1 y (.own P) b=some u:=fun u e=>by rw[Je (Jn e n)];exact e
  rcases h with (e|⟨o,e⟩)|h
  ·exact .inl (.inl (up _ e))
  ·exact .inl (.inr ⟨o,up _ e⟩)
  ·exact .inr h
def Grow.seqL{K:Qz}{P b:Qh}{H1 H2:Hp}{xs:List V}(g:Grow P H1 H2)(h:SqL K H1 b xs):SqL K H2 b xs:=by
 rcases g with rfl|⟨y,n,rfl⟩
 ·exact h
 ·have up:∀u,H1 b=some u->upd H1 y (.own P) b=some u:=fun u e=>by rw[Je (Jn e n)];exact e
  rcases h with (e|⟨o,e⟩)|h
  ·exact .inl (.inl (up _ e))
  ·exact .inl (.inr ⟨o,up _ e⟩)
  ·exact .inr h
noncomputable abbrev VH(v:Str)(p5:Pos):MR:={ posonlyargs:=[],args:=[{ arg:=v,annotation:=none,pos:=p5 }],vararg:=none,kwonlyargs:=[],kw_defaults:=[],kwarg:=none,defaults:=[] }
noncomputable abbrev YL(v:Str):Mg:={ kind:=.function,names:=[(v,.local)],isGenerator:=false,isCoroutine:=false,more:=[] }
noncomputable abbrev VI(v:Str)(k:Nat)(p1 p2 p3 p4:Pos):Gu:=.UnaryOp .USub (.Subscript (.Name v p1) (.Constant (.int 0) k p2) p3) p4
noncomputable abbrev Jmo(X:Cx)(v:Str)(k:Nat)(p1 p2 p3 p4 p5:Pos)(y:Qh)(ctv:Qe):Obj:=kla_obj "<lambda>" (X.env.qual++"<lambda>") (VH v p5) (VI v k p1 p2 p3 p4) (YL v) [] ((X.mg "__name__").getD .none) y ctv
def JfJ(hg:Gl X "sorted")(hm:X.mg "sorted"=none)(ha:PA X [e] t)(hr:Room 3 X.A)(hc:X.env.code=.ref c)(hh:codeHdIn X.K c P=true)(hT:Us X.K=some (P,.tbl #[] lpos.line lpos.col (X.env.qual++"<lambda>")))(hB:JbV X.mg X.base)
 (hbi:∀(u y ctv pm:Qe),bindArgs (kla_fn "<lambda>" (X.env.qual++"<lambda>") (VH v p5) (VI v k p1 p2 p3 p4) (YL v) [] pm y ctv) ⟨[u],[]⟩=pure ([v].zip [u]))
 (hd:(v == ("__debug__":Str))=false) (hcd:(v == ("__classdict__":Str))=false) (hcl:closureFor (YL v) X.env=pure [])
 (he:backTo pos (starEach [e] X.env)=(false,eval e X.env)::backTo pos (starEach [] X.env):=by rfl) (hpl:(backTo pos (starEach [e] X.env)).any (·.1)=false:=by rfl) :
 PE X (.Call (.Name "sorted" p) [e] [⟨some "key",.Lambda (VH v p5) (VI v k p1 p2 p3 p4) (YL v) lpos,kpos⟩] pos) (tSL X.K t):=by
 intro pins s σ H Q I h;refine K4 (Y2 (u:=.builtin "sorted") I hg hm WO ?_ (by decide) (by decide));refine callWith_kw (thn (ha pos pins s σ H _ I h) fun us s1 ⟨vs,H1,I1,r1,a,ws,ns,e1,tk,hq,h64,hlen,hit,mo,q1⟩=>?_) he hpl rfl rfl;subst e1;obtain⟨u,rfl,rx⟩:=Vd r1;cases rx;have hP:=tk P _ hT;have S:FnScope [v] [v] (YL v):=⟨rfl,rfl,rfl,by simp,rfl,fun x hx=>.inl (by rw[GK.mp hx];simp),fun y hy=>by rw[GK.mp hy];exact fun z=>nomatch z⟩
 have Pn:∀{b:Qh} {o:Obj},X.base.get? b=some o->b≠P:=fun {b o} e z=>by have:=(I1.bs b o e).2;rw[z,hP] at this;cases this
 have hgP:mainGlobals≠P:=by obtain⟨o,es,ep,e,_⟩:=I1.ok.mod.glob;exact Pn e
 have hns:s1.heap.Ns mainGlobals X.mg:=I1.ok.mod.glob.keeps I1.bk
 have hBA:s1.heap.BuiltinsAt X.mg P:=by obtain⟨bm,ob,b1,b2,b3,b4,b5,b6⟩:=hB;refine⟨bm,ob,b1,b2,fun z=>?_,Pn b3,I1.bk _ _ b3,b4,b5,b6⟩;obtain⟨o,es,ep,e,hd,_⟩:=I1.ok.mod.glob;rw[<- z,b3] at e;cases e;rw[b6] at hd;cases hd
 have C:=Xh I1.kIn hh
 have body:∀(H2:Hp) (s2:Qg) (f y:Qh) (pm ctv:Qe),Inv X pins σ H2 s2->Grow P H1 H2->H2 P=some (.tbl #[] lpos.line lpos.col (X.env.qual++"<lambda>"))->H2 y=some (.own P)->y≠P->s2.heap.get? P=some { cls:=.none,data:=.fields (#[]++#[rawInt lpos.line,rawInt lpos.col,.ref y]) }->s2.heap.CodeRec (.ref y) (X.env.qual++"<lambda>") ->
  s2.heap.get? f=some (kla_obj "<lambda>" (X.env.qual++"<lambda>") (VH v p5) (VI v k p1 p2 p3 p4) (YL v) [] pm y ctv)->H2 f=none->f∉frs X.stack ->
  wpAny (model X.prog X.w) X.A (call (.builtin "sorted") [.ref a] [(Go "key",.ref f)]) (EP X pins σ Q) X.xe s2:=fun H2 s2 f y pm ctv I2 g hP2 hy hyP gP hcd2 ho hf hfs=>by
  refine Jb1 (N:=[v]) (ps:=[v]) (t:=tUn (rU fun i=>.int (-i)) (tOp (rIx X.K) (VV 0) (tC (.int 0)))) (ns:=ns) I2 hP2 hy hyP gP hcd2 ho hf hfs S rfl (fun u=>hbi u _ _ _) hr (fun A s H=>JmZ rfl (.inl (by show LU v [(v,NameKind.local)]=_;simp)) hd hcd) (fun b x z H Q h q=>Jj9 rfl h q) (g.seqL hq) h64 hlen (fun i w n h1 h2=>?_) mo fun D pp hD hp ha=>q1 P H2 D pp g hD hp ha
  obtain⟨b,eb,hb⟩:=hit i w n h1 h2;exact⟨b,eb,g.seqT hb⟩
 have nofr:∀f,s1.heap.objs.size<=f->f∉frs X.stack:=fun f hf z=>by obtain⟨_,o2,ho2,_⟩:=I1.stack.mem z;exact absurd (Qn ho2) (LW.mpr hf)
 refine kws_cons (PySem.W.kla_eval rfl ?_);rcases I1.hok P _ hP with gP|⟨y,hy,hyP,gP,hcd1⟩
 ·refine PySem.W.kla_makeFunction (mg:=X.mg) hcl I1.ok.glob hns hc C gP trivial rfl hgP hBA fun c' ctv h' tk' hx hge hlt hrec htb=>kws_nil ?_
  have hn:H1 c'=none:=I1.hok.fresh hge;obtain⟨y',oc,cvs,tq,ey,hoc,hdc,hvq⟩:=hrec;cases ey
  have cP:c'≠P:=fun z=>by rw[z,hP] at hn;cases hn
  have up:∀b u,H1 b=some u->upd H1 c' (.own P) b=some u:=fun b u e=>by rw[Je (Jn e hn)];exact e
  have ps:∀(b:Qh) (o:Obj),h'.get? b=some o->(h'.push (Jmo X v k p1 p2 p3 p4 p5 c' ctv)).get? b=some o:=fun b o e=>Qi _ e
  have un:Un (frs X.stack) [] H1 (upd H1 c' (.own P)) s1.heap (h'.push (Jmo X v k p1 p2 p3 p4 p5 c' ctv)):=by
   have nb:∀b,H1 b=none->b≠P:=fun b n z=>by rw[z,hP] at n;cases n
   refine⟨fun b o e n _ _=>ps _ _ (hx b o (nb b n) e),fun b o e n _ _=>⟨o.slots,ps _ _ (hx b o (nb b n) e)⟩,fun b o e n _=>?_,fun b o e _=>?_,fun b xs e=>up _ _ e,fun b o xs e=>up _ _ e,fun b _ _ _ _ e=>up _ _ e⟩
   ·rw[Je (QF (Q4 (Qn e) hge))];exact n
   ·by_cases z:b=P
    ·subst z;exact⟨_,ps _ _ htb⟩
    ·exact⟨_,ps _ _ (hx b o z e)⟩
  have hok:HOk X.prog X.w (upd H1 c' (.own P)) (h'.push (Jmo X v k p1 p2 p3 p4 p5 c' ctv)):=fun b u e=>by
   by_cases h1:b=c'
   ·subst h1;rw[Jl] at e;cases e;exact⟨_,ps _ _ hoc⟩
   ·rw[Je h1] at e
    by_cases h2:b=P
    ·subst h2;rw[hP] at e;cases e;exact .inr ⟨c',Jl,cP,ps _ _ htb,c',oc,cvs,tq,rfl,ps _ _ hoc,hdc,hvq⟩
    ·refine(I1.hok b u e).stay (fun d v hd r=>ps _ _ (hx d v ?_ r)) (fun d r=>up _ _ r) fun d xs r=>up _ _ r
     rcases hd with rfl|hd
     ·exact h2
     ·exact fun z=>by rw[z,hP] at hd;cases hd
  have I2:=I1.call (t':=tk') (d':=s1.drawn) (g':=s1.gens) (ch:=[]) un hok I1.bare (fun b z=>absurd z (by simp))
  have hsz:s1.heap.objs.size<=h'.objs.size:=Gm hge (GW hlt);exact body _ _ h'.objs.size c' _ ctv I2 (.inr ⟨c',hn,rfl⟩) (up _ _ hP) Jl cP (ps _ _ htb) ⟨c',oc,cvs,tq,rfl,ps _ _ hoc,hdc,hvq⟩ (Qm _ rfl) (by rw[Je (Gn hlt)];exact I1.hok.fresh hsz) (nofr _ hsz)
 ·refine PySem.W.kla_makeFunctionHit (mg:=X.mg) (ps:=#[]++#[rawInt lpos.line,rawInt lpos.col,.ref y]) (cv:=.ref y) hcl I1.ok.glob hns hc C gP trivial ?_ hBA fun ctv h' tk' hk hsz=>kws_nil ?_
  ·show codeAmong lpos [rawInt lpos.line,rawInt lpos.col,.ref y]=some (.ref y);unfold rawInt codeAmong;simp
  ·have ps:∀(b:Qh) (o:Obj),s1.heap.get? b=some o->(h'.push (Jmo X v k p1 p2 p3 p4 p5 y ctv)).get? b=some o:=fun b o e=>Qi _ (hk b o e)
   have I2:=I1.call (t':=tk') (d':=s1.drawn) (g':=s1.gens) (ch:=[]) (Un.kept (H:=H1) ps) (I1.hok.kept ps) I1.bare (fun b z=>absurd z (by simp));obtain⟨y',oc,cvs,tq,ey,hoc,hdc,hvq⟩:=hcd1;cases ey;exact body _ _ h'.objs.size y _ ctv I2 (.inl rfl) hP hy hyP (ps _ _ gP) ⟨y,oc,cvs,tq,rfl,ps _ _ hoc,hdc,hvq⟩ (Qm _ rfl) (I1.hok.fresh hsz) (nofr _ hsz)
end L2
namespace LE
open PySem L2 LR
noncomputable def VR(p:PrI):List PrI->List PrI
 | []=>[p]
 | q::r=>if p.1<q.1 then q::VR p r else p::q::r
noncomputable def Yb(l:List PrI):List PrI:=l.foldr VR []
noncomputable def Jcv(ns:List PrI)(i:Nat):List Nat->List Nat
 | []=>[i]
 | j::r=>if (ns.getD i (0,0)).1<(ns.getD j (0,0)).1 then j::Jcv ns i r else i::j::r
noncomputable def Vn(ns:List PrI)(l:List Nat):List Nat:=l.foldr (Jcv ns) []
theorem JdP(ns:List PrI)(i:Nat):∀l:List Nat,(Jcv ns i l).map (fun i=>ns.getD i (0,0))=VR (ns.getD i (0,0)) (l.map fun i=>ns.getD i (0,0))
 | []=>rfl
 | j::r=>by
  rw[Jcv,Qd,VR];split
  ·rw[Qd,JdP ns i r]
  ·rw[Qd,Qd]
theorem Z9(ns:List PrI):∀l:List Nat,(Vn ns l).map (fun i=>ns.getD i (0,0))=Yb (l.map fun i=>ns.getD i (0,0))
 | []=>rfl
 | i::r=>by show(Jcv ns i (Vn ns r)).map _=VR (ns.getD i (0,0)) (Yb (r.map fun i=>ns.getD i (0,0)));rw[JdP,Z9 ns r]
theorem WW(ns:List PrI)(i:Nat):∀l:List Nat,(Jcv ns i l).Perm (i::l)
 | []=>.refl _
 | j::r=>by
  rw[Jcv];split
  ·exact((WW ns i r).cons j).trans (.swap i j r)
  ·exact .refl _
theorem Ux(ns:List PrI):∀l:List Nat,(Vn ns l).Perm l
 | []=>.refl _
 | i::r=>(WW ns i (Vn ns r)).trans ((Ux ns r).cons i)
def ltI_iff{ns:List PrI}:ltI ns a b=true↔(ns.getD b (0,0)).1<(ns.getD a (0,0)).1\/((ns.getD a (0,0)).1=(ns.getD b (0,0)).1/\a<b):=by
 unfold ltI ltG;dsimp only;split
 ·next e=>rw[decide_eq_true_iff];exact⟨fun h=>.inr ⟨e,h⟩,fun h=>h.elim (fun h=>by omega) fun h=>h.2⟩
 ·next e=>rw[decide_eq_true_iff];exact⟨fun h=>.inl h,fun h=>h.elim id fun h=>absurd h.1 e⟩
theorem JgO(ns:List PrI)(i:Nat):∀l:List Nat,(∀j∈l,i<j)->l.Pairwise (fun a b=>ltI ns a b=true)->(Jcv ns i l).Pairwise fun a b=>ltI ns a b=true
 | [],_,_=>Mj _ _
 | j::r,h,pw=>by
  obtain⟨h1,h2⟩:=QL.mp pw;have ij:=h j Qf;rw[Jcv];split
  ·next c =>
   refine QL.mpr ⟨fun a ha=>?_,JgO ns i r (fun a ha=>h a (Qc _ ha)) h2⟩;rcases Qk.mp ((WW ns i r).mem_iff.mp ha) with rfl|ha
   ·exact ltI_iff.mpr (.inl c)
   ·exact h1 a ha
  ·next c =>
   refine QL.mpr ⟨fun a ha=>?_,pw⟩;have ia:=h a ha
   have le:(ns.getD a (0,0)).1<=(ns.getD j (0,0)).1:=by
    rcases Qk.mp ha with rfl|ha
    ·exact QD _
    ·have:=ltI_iff.mp (h1 a ha);omega
   exact ltI_iff.mpr (by omega)
theorem Jbu(ns:List PrI):∀l:List Nat,l.Pairwise (·<·)->(Vn ns l).Pairwise fun a b=>ltI ns a b=true
 | [],_=>.nil
 | i::r,pw=>by obtain⟨h1,h2⟩:=QL.mp pw;exact JgO ns i _ (fun j hj=>h1 j ((Ux ns r).mem_iff.mp hj)) (Jbu ns r h2)
def Jms{ns:List PrI}{a b:Nat}(h1:ltI ns a b=true)(h2:ltI ns b a=true):False:=by
 have h1:=ltI_iff.mp h1
 have h2:=ltI_iff.mp h2;omega
def JiV{ns:List PrI}{p:List Nat}{n:Nat}(hp:p.Perm (Q1 n))(ha:∀a b,a<b->b<n->ltI ns (p.getD a 0) (p.getD b 0)=true):p=Vn ns (Q1 n):=by
 have pl:p.length=n:=by rw[hp.length_eq,Li]
 have pw:p.Pairwise fun a b=>ltI ns a b=true:=G2.mpr fun i j hi hj hij=>by
  have:=ha i j hij (by omega)
  simpa [hi,hj] using this
 exact(hp.trans (Ux ns _).symm).eq_of_pairwise (le:=fun a b=>ltI ns a b=true) (fun a b _ _ h1 h2=>(Jms h1 h2).elim) pw (Jbu ns _ RK)
noncomputable def JaW:List PrI->Bool
 | []=>true
 | [_]=>true
 | p::q::r=>decide (p.1<=q.1) && JaW (q::r)
theorem Jbg:∀{p:PrI} {l:List PrI},JaW (p::l)=true->∀q∈l,p.1<=q.1
 | p,q::r,h,x,hx=>by
  rw[JaW,QR] at h;have h1:=of_decide_eq_true h.1;rcases Qk.mp hx with rfl|hx
  ·exact h1
  ·have:=Jbg h.2 x hx;omega
theorem Jgf:∀{l:List PrI},JaW l=true->l.Pairwise fun p q=>p.1<=q.1
 | [],_=>.nil
 | p::l,h=>by
  refine QL.mpr ⟨Jbg h,Jgf ?_⟩
  cases l with
  | nil=>rfl
  | cons q r=>rw[JaW,QR] at h;exact h.2
noncomputable def Jcl:List Sl->Option Sl
 | [s]=>s.r.bind fun ds=>(prs? ds).bind fun ps=>if ps.length<64/\JaW ps=true then some (.own ((Yb ps).map prE)) else none
 | _=>none
def JiD(ha:SA K C t ev):SE K C (tSL K t) (eF Jcl ev):=by
 intro B H0 H σ E c Q I e q;obtain⟨a,e1,e⟩:=bind_some e;unfold Jcl at e;split at e
 ·obtain⟨ds,e2,e⟩:=bind_some e;obtain⟨ps,e3,e⟩:=bind_some e;split at e
  ·next hp =>
   cases e;refine ha B H0 H σ E _ _ I e1 fun x H1 H1' s1 r1=>?_
   obtain⟨v,rfl,r0⟩:=r1.one;obtain⟨l,ys,rfl,h,r2⟩:=r0.r s1.i e2;rw[Jeq e3] at r2;have len:ys.length=ps.length:=by rw[r2.1,Qp]
   refine⟨l,ys,ps,rfl,I.t.mono fun a o z=>s1.h _ _ (I.b _ _ z),h,by omega,len,fun i w p h1 h2=>?_,fun i j hij hj=>?_,fun P H2 D pp g hD hperm hasc=>?_⟩
   ·obtain⟨aa,xs,rfl,hsq,rr⟩:=RD.tupI (r2.2 i w (prE p) h1 (by rw[Qq,h2];rfl));have rr':RDL K C H1 xs ([p.1,p.2].map D.int):=rr;have:=rr'.ints;subst this;exact⟨aa,rfl,Same.seqT s1.i hsq⟩
   ·by_cases c:i=j
    ·subst c;exact QD _
    ·have pw:=Jgf hp.2
     have:=G2.mp pw i j (by omega) hj (by omega)
     simpa [hj,show i<ps.length by omega] using this
   ·have ep:=JiV (ns:=ps) hperm hasc
    have sm:Same H1' H2:=by
     rcases g with rfl|⟨y,n,rfl⟩
     ·exact Same.refl _
     ·exact .new n
    have s2:Step H H1 H1' H1 H2:=⟨sm,Same.refl _,fun _ _ z=>.inl z,s1.i.trans sm⟩
    refine YY (H:=H2) (Hs:=H) (H0:=H1) (s1.i.trans sm) (s1.h.trans sm) hD (ds:=(Yb ps).map prE) ?_ fun v H3 H3' s3 r3=>q v H3 H3' ⟨(s1.h.trans sm).trans s3.h,s1.z.trans s3.z,fun a o z=>?_,s3.i⟩ r3
    ·rw[ep,len]
     have em:Yb ps=(Vn ps (Q1 ps.length)).map fun i=>ps.getD i (0,0):=by
      rw[Z9];congr 1;refine GJ fun i=>?_
      rw[Qq]
      by_cases h:i<ps.length
      ·rw[List.getElem?_range h,Ld,QB h];simp[h]
      ·rw[Gz (by simpa using h),Gz (by simpa using h)];rfl
     rw[em,Qw];refine⟨by rw[Qp,Qp],fun i w d h1 h2=>?_⟩;rw[Qq] at h1 h2
     cases hx:(Vn ps (Q1 ps.length))[i]? with
     | none=>rw[hx] at h1;cases h1
     | some j =>
      rw[hx] at h1 h2;have hj:j<ps.length:=by simpa using (Ux ps _).mem_iff.mp (QI hx)
      cases h1;cases h2;refine r2.2 j _ _ ?_ ?_
      ·simp[show j<ys.length by omega]
      ·simp[hj]
    ·rcases s3.n a o z with z|z|z
     ·exact(s1.n a o z).imp id id
     ·exact .inr (.inl z)
     ·exact .inr (.inr z)
  ·cases e
 ·cases e
end LE
namespace LE
open PySem L2
def JqN(h:Us K=some (P,t)):∃c l k q,codeHdIn K c P=true/\t=.tbl #[] l k q:=by
 unfold Us at h;split at h
 ·split at h
  ·unfold JhC at h;split at h
   ·split at h
    ·split at h
     ·split at h
      ·next hh=>cases h;exact⟨_,_,_,_,hh,rfl⟩
      ·cases h
     ·cases h
    ·cases h
   ·cases h
  ·cases h
 ·cases h
end LE
namespace L2
open PySem PySem.Spec PyProof.Rows LE
def Jie{P:Qy}{w:QP}{K:Qz}{mg mb:Str->Option Qe}{CX:CXT}{k:Nat}{fa a Pt:Qh}{t:HO}{fd:QW}{x:Str}{sp:Sp}{s₁:Qg}{vs:List Qe}{ns:List Int}
 (KX:K.In s₁.heap) (hns:s₁.heap.Ns mainGlobals mg) (hb:s₁.heap.Ns builtinsNs mb) (hbb:∀x:Str,x≠"__name__"->mb x=bootBuiltins x) (hlim:s₁.heap.NoLimit) (hg:s₁.gens=#[])
 (hBM:JbV mg s₁.heap) (hT:Us K=some (Pt,t)) (gP:s₁.heap.get? Pt=some { cls:=.none,data:=.fields #[] }) (hKP:K.lookup Pt=none)
 (ha:s₁.heap.get? a=some { cls:=.type "list",data:=.seq vs.toArray }) (hi:IntsAre vs ns) (hl:ns.length<=Qr) (hr:Room k callerA)
 (F:∀base:Q2,K.In base->base.Ns mainGlobals mg->JbV mg base->FnOk P w K mg base CX k fa fd [x] sp) (hbind:∀(s:Qg) (u:Qe),BindsTo s fd ⟨[u],[]⟩ [(x,u)])
 (hsp:∀H:Hp,TabK K H->SqL K H a (ns.map V.int)->sp [.ref a] H (fun v _=>v=.bl true) fun _ _ _=>False)
 (hCX:∀H e s',CX [] H s₁ (fun _ _ _=>False) e s'->False) :
 codeAny (model P w) callerA (.call (.ref fa) ⟨[.ref a],[]⟩) (fun r s'=>r=.ok (.ret (.bool true))/\OldK s₁.heap s'.heap/\s'.os=s₁.os/\AllBare s'.gens) s₁:=by
 have rv:=JbT hi
 have lenV:=hi.length;obtain⟨cc,lq,kq,q,hh,rfl⟩:=JqN hT
 have aP:a≠Pt:=fun z=>by rw[z,gP] at ha;cases ha
 have code:isCodeTable s₁.heap Pt:=((Xh KX hh).tab gP).isCodeTable
 have core:∀H:Hp,H Pt=some (.tbl #[] lq kq q)->(∀b,H b=none\/b=Pt\/∃o xs,H b=some (.frz o (.lst xs)))->SqL K H a (ns.map V.int)->HOk P w H s₁.heap->(∀b,H b≠none->b=a\/b=Pt)->(H a≠none->K.lookup a=none) ->
  codeAny (model P w) callerA (.call (.ref fa) ⟨[.ref a],[]⟩) (fun r s'=>r=.ok (.ret (.bool true))/\OldK s₁.heap s'.heap/\s'.os=s₁.os/\AllBare s'.gens) s₁:=by
  intro H hPt hO hS hok hA hK;have base_of:∀{b:Qh} {o:Obj},s₁.heap.get? b=some o->H b=none->(Ja1 s₁.heap H).get? b=some o:=fun e n=>JjL e n
  have noA:∀{b:Qh} {o:Obj},s₁.heap.get? b=some o->(∀v n,o.data≠.seq v n)->(∀v,o.data≠.fields v)->H b=none:=fun {b o} e d1 d2=>by
   cases q:H b with
   | none=>rfl
   | some u =>
    rcases hA b (by rw[q];simp) with e'|e'
    ·subst e';rw[ha] at e;cases e;exact absurd rfl (d1 _ _)
    ·subst e';rw[gP] at e;cases e;exact absurd rfl (d2 _)
  have nsK:∀{b:Qh} {m:Str->Option Qe},s₁.heap.Ns b m->(Ja1 s₁.heap H).Ns b m:=fun {b m} ⟨o,es,ep,e,d,r⟩=>⟨o,es,ep,base_of e (noA e (fun _ _ z=>by rw[d] at z;cases z) fun _ z=>by rw[d] at z;cases z),d,r⟩
  have hKb:K.In (Ja1 s₁.heap H):=fun b o e=>base_of (KX b o e) (by
   cases q:H b with
   | none=>rfl
   | some u =>
    rcases hA b (by rw[q];simp) with e'|e'
    ·subst e';rw[hK (by rw[q];simp)] at e;cases e
    ·subst e';rw[hKP] at e;cases e)
  have hM:Mod K mg (Ja1 s₁.heap H):=⟨hKb,nsK hns,⟨mb,nsK hb,hbb⟩,let ⟨mc,h1,h2⟩:=hlim;⟨mc,nsK h1,h2⟩⟩
  have hBb:JbV mg (Ja1 s₁.heap H):=let ⟨bm,ob,b1,b2,b3,b4,b5,b6⟩:=hBM;⟨bm,ob,b1,b2,base_of b3 (noA b3 (fun _ _ z=>by rw[b6] at z;cases z) fun _ z=>by rw[b6] at z;cases z),b4,b5,b6⟩
  have e0:Env0 P w K mg (Ja1 s₁.heap H) callerA [] s₁ H:=⟨rfl,hM,fun b o e=>JmP e,LZ (Jh4 _ _),trivial,fun b hb=>absurd (show b∈([]:List Qh) from hb) (by simp),hok,.of_eq hg⟩
  have tk:TabK K H:=fun P' t' e=>by rw[hT] at e;cases e;exact hPt
  refine Lz ((F _ hKb (nsK hns) hBb).run callerA [] s₁ H ⟨[.ref a],[]⟩ [.ref a] [.ref a] _ _ hr e0 (hbind s₁ (.ref a)) (.cons rfl .nil) (hsp H tk hS)) fun r s' h=>?_
  cases r with
  | error e=>exact(hCX H e s' h).elim
  | ok fl =>
   cases fl with
   | next=>exact G4 h
   | brk=>exact G4 h
   | cont=>exact G4 h
   | ret u =>
    obtain⟨v,H',os,bare,un,hok',r',q⟩:=h;have q':v=.bl true:=q;subst q';obtain rfl:u=Value.bool true:=r';refine⟨rfl,⟨fun b o e=>?_,fun b o e=>un.there b o e (by simp)⟩,os,bare⟩
    by_cases bP:b=Pt
    ·subst bP;rw[gP] at e;cases e;have hP':=un.tbls b _ _ _ _ hPt;rcases hok' b _ hP' with z|⟨y,_,_,z,_⟩
     ·exact .inl z
     ·exact .inr (.inl ⟨code,rfl,#[],_,rfl,z⟩)
    ·refine .inl ?_
     cases q:H b with
     | none=>exact un.keep b o e q (by intro z;exact absurd (show b∈([]:List Qh) from z) (by simp)) (by simp)
     | some u =>
      rcases hO b with z|z|⟨ob,xs,z⟩
      ·rw[q] at z;cases z
      ·exact absurd z bP
      ·have z2:=un.frzs b ob _ z;obtain⟨e1,_⟩:=hok b _ z;obtain⟨e2,_⟩:=hok' b _ z2;rw[e] at e1;cases e1;exact e2
 cases hk:K.lookup a with
 | some o =>
  have e:=KX a o hk;rw[ha] at e;cases e;refine core (fun b=>if b=Pt then some (.tbl #[] lq kq q) else none) (if_pos rfl) (fun b=>?_) (.inr ⟨_,vs.toArray,_,hk,rfl,rfl,rfl,by rw[Qt,lenV];exact hl,by simpa using rv⟩) (fun b u z=>?_) (fun b z=>?_) fun z=>absurd (if_neg aP) z
  ·by_cases hb:b=Pt
   ·exact .inr (.inl hb)
   ·exact .inl (if_neg hb)
  ·by_cases hb:b=Pt
   ·have z':=(if_pos hb).symm.trans z;cases z';subst hb;exact .inl gP
   ·have z':=(if_neg hb).symm.trans z;cases z'
  ·by_cases hb:b=Pt
   ·exact .inr hb
   ·exact absurd (if_neg hb) z
 | none =>
  refine core (fun b=>if b=Pt then some (.tbl #[] lq kq q) else if b=a then some (.frz { cls:=.type "list",data:=.seq vs.toArray } (.lst (ns.map V.int))) else none) (if_pos rfl) (fun b=>?_) (.inl (.inr ⟨{ cls:=.type "list",data:=.seq vs.toArray },(if_neg aP).trans (if_pos rfl)⟩)) (fun b u z=>?_) (fun b z=>?_) fun _=>hk
  ·by_cases hp:b=Pt
   ·exact .inr (.inl hp)
   ·by_cases hb:b=a
    ·exact .inr (.inr ⟨_,_,(if_neg hp).trans (if_pos hb)⟩)
    ·exact .inl ((if_neg hp).trans (if_neg hb))
  ·by_cases hp:b=Pt
   ·have z':=(if_pos hp).symm.trans z;cases z';subst hp;exact .inl gP
   ·have z:=(if_neg hp).symm.trans z
    by_cases hb:b=a
    ·have z':=(if_pos hb).symm.trans z;cases z';subst hb;exact⟨ha,by rw[Qp];exact hl,vs,_,rv,ha⟩
    ·have z':=(if_neg hb).symm.trans z;cases z'
  ·by_cases hp:b=Pt
   ·exact .inr hp
   ·by_cases hb:b=a
    ·exact .inl hb
    ·exact absurd ((if_neg hp).trans (if_neg hb)) z
def Jlk{l:PySem.W.OpenLaw}{n k:Nat}{q:Qy}{loose:List Str}{XP:(Str->Option Qe)->Q2->Prop}{YP:QP->Q2->Prop}{d:DefRec}{K:Params->Qz}{CX:QP->CXT}{sp:QP->Sp}{x:Str}{Pt:Qh}
 (hn:l.most=some n) (hn2:n<=Qr) (hdf:d.params.defaults=[]) (hr:Room k callerA)
 (hY:∀(w:QP) (h:Q2),YP w h->(K w.params).In h/\h.get? Pt=some { cls:=.none,data:=.fields #[] })
 (hT:∀w:QP,(Us (K w.params)).map (·.1)=some Pt) (hKP:∀w:QP,(K w.params).lookup Pt=none)
 (F:∀(w:QP) (mg:Str->Option Qe) (fa:Qh) (h:Q2),(K w.params).In h->h.Ns mainGlobals mg->mg d.name=some (.ref fa) ->
  ∃fd:QW,(∀(s:Qg) (u:Qe),BindsTo s fd ⟨[u],[]⟩ [(x,u)]) ∧
   ∀base:Q2,(K w.params).In base->base.Ns mainGlobals mg->JbV mg base->FnOk l.prog w (K w.params) mg base (CX w) k fa fd [x] (sp w))
 (hsp:∀(w:QP) (H:Hp) (a:Qh) (ns:List Int),ns.length<=n->TabK (K w.params) H->SqL (K w.params) H a (ns.map V.int)->sp w [.ref a] H (fun v _=>v=.bl true) fun _ _ _=>False)
 (hCX:∀(w:QP) (H:Hp) (s:Qg) (e:Qe) (s':Qg),CX w [] H s (fun _ _ _=>False) e s'->False) :
 PySem.W.WalkO q loose XP YP l.row.toRowW d [] (fun f vs=>PySem.call f vs):=by
 refine Att.attach_call hn hdf fun w s₀ s₁ mg mb fa o pm cd doc a vs ns G Y ho hd hcd hmg hobj hints hlen hg=>?_
 obtain⟨KX,gP⟩:=hY w _ Y;obtain⟨⟨P',t⟩,hT',e⟩:=Q0.mp (hT w);obtain rfl:P'=Pt:=e;obtain⟨fd,hb,hF⟩:=F w mg fa _ KX G.T.g hmg;obtain⟨bm,ob,b1,b2,b3,b4,b5,b6⟩:=G.T.bmain;exact Jie KX G.T.g G.T.b G.T.builtins G.T.nolimit hg ⟨bm,ob,b1,b2,b3,b4,b5,b6⟩ hT' gP (hKP w) hobj hints (Gm hlen hn2) hr hF hb (fun H hO hS=>hsp w H a ns hlen hO hS) fun H e s'=>hCX w H s₁ e s'
end L2
namespace LE
open PySem PySem.Spec PyProof.Rows L2 LR
section
variable{P:Qy}{w:QP}{K:Qz}{mg:Str->Option Qe}{base:Q2}{C:Qh}{x qual:Str}{st:Kt}{f:Qh}{fd:QW}{N ps:List Str}{k n l c:Nat}{b:Es}
def JsM(F:Fun K x qual st f fd)(S:FnScope N ps (Ji st))(hn:n=ps.length)(a:nsIn K mainGlobals "early_lines"=some (some (.ref f)))(hs:(Us K).isSome=true)(hp:Jfs (YI st)=some (l,c))
 (hb:∀(cdv:Qe) (A:QM) (outer:List Env) (s:Qg) (H:Hp) (E:XK),LamC K qual l c cdv->Room k (A.deeper (envOfC qual (Ji st) s.heap.objs.size f cdv))->(A.deeper (envOfC qual (Ji st) s.heap.objs.size f cdv)).units+64<cLine ->
  ∃t,PSs (WR CX0 P w K mg base N qual (Ji st) f cdv A outer s H E).nox (YI st) t/\SS K C t b):FnOk P w K mg base CX0 (k+1) f fd ps (spE K C n (Yj N.length b)):=by
 obtain⟨oc,od,kV,doc,pm,an,cdv,ct,osl,rfl,lk,hcd⟩:=F.ex;have L:=Jmn a lk hs hp;refine Jn8 lk hcd S (fun vs H Q E h=>(Jhs h).trans hn) fun A outer s H vs Q E hr h=>?_
 obtain⟨t,q1,q2⟩:=hb cdv A outer s H E L hr hr.units;exact⟨t,q1.nox,JgE q2 h⟩
noncomputable def Jc3(K:Qz):Sp:=fun vs H Q E=>TabK K H/\LR.Jsg K vs H Q E
def JjV(F:FnOk P w K mg base CX0 k f fd ps (spE K C 1 ev))(h:∀ns:List Int,ns.length<=63->ev [.sh (.fz (ns.map .int))]=some (.sh (.bl true))):FnOk P w K mg base CX0 k f fd ps (Jc3 K) :=
 F.imp fun vs H Q E ⟨tk,a,ns,e,hS,hl,q⟩=>by subst e;exact⟨tk,H,[.sh (.fz (ns.map .int))],_,Same.refl _,.cons (show RD K C H _ _ from RD.mkF hS (RDL.ofInts ns)) .nil,rfl,rfl,h ns hl,fun v H0' H' _ r=>by rw[RD.blI r];exact q H'⟩
end
end LE
namespace L2
open PySem PySem.Spec PyProof.Rows LE
def Jki{X:Cx}{K:Qz}{e:Gu}{t:TA}{v qual:Str}{k l c:Nat}{cdv:Qe}{p pos kpos lpos p1 p2 p3 p4 p5:Pos}(L:LamC K qual l c cdv)(hB:JbV X.mg X.base)(hr:Room 3 X.A)(hK:X.K=K)(hcd:X.env.code=cdv)(hq:X.env.qual=qual++".<locals>.")(hl:lpos.line=l)(hc:lpos.col=c)
 (hg:Gl X "sorted") (hm:X.mg "sorted"=none) (ha:PA X [e] t)
 (hbi:∀(u y ctv pm:Qe),bindArgs (kla_fn "<lambda>" (X.env.qual++"<lambda>") (VH v p5) (VI v k p1 p2 p3 p4) (YL v) [] pm y ctv) ⟨[u],[]⟩=pure ([v].zip [u]))
 (hd:(v == ("__debug__":Str))=false) (hcl:(v == ("__classdict__":Str))=false) (hcf:closureFor (YL v) X.env=pure [])
 (he:backTo pos (starEach [e] X.env)=(false,eval e X.env)::backTo pos (starEach [] X.env):=by rfl) (hpl:(backTo pos (starEach [e] X.env)).any (·.1)=false:=by rfl) :
 PE X (.Call (.Name "sorted" p) [e] [⟨some "key",.Lambda (VH v p5) (VI v k p1 p2 p3 p4) (YL v) lpos,kpos⟩] pos) (tSL K t):=by
 subst hK hl hc;obtain⟨P,c,e1,hh,hT⟩:=L.ex;exact JfJ hg hm ha hr (hcd.trans e1) hh (by rw[hT,hq]) hB hbi hd hcl hcf he hpl
end L2
end
open L2 LR
local macro_rules | `(tactic| walk_at "side")=>`(tactic| first | decide | exact⟨by decide,by decide,by decide⟩ | exact⟨by decide,by decide⟩ | (show(0:Int)<_;omega) | (show(0:Int)<_/\_<(1073741824:Int);omega) | exact Or.inl ⟨by omega,by omega⟩ | exact Or.inr ⟨by omega,by omega⟩ | assumption)
local macro_rules | `(tactic| walk_at "rd1")=>`(tactic| with_reducible first | refine Jqn ?_ | refine Jqf ?_ | refine Jqg ?_ | refine Jna ?_ | refine Jnf ?_ | refine Jr2 ?_ | refine Jni ?_ | refine Jqe ?_ | refine Jm9 ?_ | refine Jql ?_ | refine Jr0 ?_ | refine Jhi ?_ | refine LR.Jhk ?_ | refine Jqo ?_ | refine JkE ?_ | refine JkD ?_ | refine Jnb ?_ | refine Jnh ?_ | refine Jqq ?_ | refine JsN ?_ | refine Jr1 ?_ | refine Jm8 ?_ | refine Jng ?_ | refine JkF ?_ | refine JkG ?_ | refine Exists.intro _ (And.intro (LR.tru_bl _ _ _) ?_))
local macro_rules | `(tactic| walk_at "rd2")=>`(tactic| first |((with_reducible refine Jqp (v:=?vv) ?hx ?_);(case hx=>exact rfl)) | (with_reducible refine Exists.intro _ (And.intro (Eq.refl (V.bl _)) ?_)))
local macro_rules | `(tactic| walk_at "rd")=>`(tactic| repeat (first | walk_at "rd1" | walk_at "rd2"))
noncomputable section
namespace LK
open PySem LE
noncomputable def JD:List Sl->Option Sl:=Yj 2 (Jo (xIf (tB? (e2 fLt (Jb 1) (eF Zr (aC (Jb 0) a0)))) (JZ (e2 fIx (Jb 0) (Jb 1))) JW)
 (JZ (eC (.int 0))))
noncomputable def JQ:List Sl->Option Sl:=Yj 3 (Jo (Vf (iR2 (aC (eC (.int 1)) (aC (eF Zr (aC (Jb 0) a0)) a0))) (.nm 1) (Jo (Js 2 (e2 Ye (e2 Ye (e2 fIx (e2 fIx (Jb 0) (Jb 1)) (eC (.int 0))) (e2 fIx (e2 fIx (Jb 0) (e2 Ye (Jb 1) (eC (.int 1)))) (eC (.int 0)))) (e2 fIx (e2 fIx (Jb 0) (e2 Ye (Jb 1) (eC (.int 1)))) (eC (.int 1)))))
 (xIf (tOr? (tB? (e2 fGt (e2 fIx (e2 fIx (Jb 0) (e2 Ye (Jb 1) (eC (.int 1)))) (eC (.int 1))) (e2 fIx (e2 fIx (Jb 0) (Jb 1)) (eC (.int 1))))) (tB? (e2 fLt (Jb 2) (e2 fIx (e2 fIx (Jb 0) (e2 Ye (Jb 1) (eC (.int 1)))) (eC (.int 1)))))) (JZ (eC (.bl false))) JW)))
 (JZ (eC (.bl true))))
noncomputable def J0:List Sl->Option Sl:=Yj 1 (JZ (Ys (Jmf true (aC (Jb 0) a0)) (.tp (.cons (.nm 0) (.cons (.nm 1) .nil))) yes? (YQ (aC (e2 Ye (e2 Ye (eC (.int 1)) (Jb 0)) (Jb 1)) (aC (Jb 1) a0))) [none,none]))
noncomputable def J6:List Sl->Option Sl:=Yj 2 (JZ (Ys (JbA true (aC (e1 Uv (Jb 0)) a0)) (.tp (.cons (.nm 0) (.cons (.nm 1) .nil))) yes? (YQ (aC (e2 YF (e2 fIx (Jb 1) (eC (.int 0))) (e2 Z3 (e2 Z3 (eC (.int 2)) (Jb 2)) (Jb 0))) (aC (e2 YF (e2 fIx (Jb 1) (eC (.int 1))) (Jb 2)) a0))) [none,none,some 1]))
noncomputable def Yz:List Sl->Option Sl:=Yj 2 (JZ (eF Zs (aC (eU 2 J6 (aC (Jb 0) (aC (Jb 1) a0))) a0)))
noncomputable def Yt:List Sl->Option Sl:=Yj 2 (JZ (eF Jcm (aC (Ys (iE true (e1 Uv (Jb 0))) (.tp (.cons (.nm 0) (.cons (.nm 1) .nil))) yes? (eF Jl3 (aC (eC (.int 0)) (aC (eF Jfh (aC (Jb 1) (aC (e2 Ye (Jb 2) (Jb 0)) a0))) a0))) [none,none,some 1]) a0)))
noncomputable def YZ:List Sl->Option Sl:=Yj 8 (Jo (Zg 2 (Vk a0))
 (Jo (Js 3 (eC (.int 0)))
 (Jo (Vf (JbA false (aC (Jb 1) a0)) (.tp (.cons (.nm 4) (.cons (.nm 5) .nil))) (Jo (Js 6 (eU 2 Yt (aC (Jb 0) (aC (Jb 5) a0))))
 (Jo (Js 7 (e2 Ye (Jb 6) (Jb 3)))
 (Jo (Jc8 2 (YQ (aC (e2 Ye (e2 YF (Jb 5) (e2 Z3 (eC (.int 2)) (Jb 4))) (Jb 7)) (aC (e2 YF (Jb 7) (eC (.int 1))) a0))))
 (Js 3 (Jb 6))))))
 (UC 2))))
noncomputable def Ub:List Sl->Option Sl:=Yj 5 (Jo (xIf (tB? (e2 fGt (e2 YF (eF Zr (aC (e1 Uv (Jb 0)) a0)) (eF Jcm (aC (Ys (iE true (Jb 1)) (.tp (.cons (.nm 0) (.cons (.nm 1) .nil))) yes? (Jb 1) [none,none]) a0))) (eC (.int 30)))) VB JW)
 (Jo (Zg 2 (Ys (iE true (e1 Uv (Jb 0))) (.tp (.cons (.nm 0) (.cons (.nm 1) .nil))) yes? (e2 YF (Jb 0) (Jb 1)) [none,none]))
 (Jo (Vf (iV 1) (.tp (.cons (.nm 3) (.cons (.nm 4) .nil))) (Jgb 2 (e2 Jjy (Vk (aC (Jb 3) a0)) (Jb 4))))
 (JZ (eF Zs (aC (eU 2 YZ (aC (Jb 0) (aC (eF Zz (aC (Jb 2) a0)) a0))) a0))))))
noncomputable def J2:List Sl->Option Sl:=Yj 5 (Jo (Js 1 (eC .non))
 (Jo (Vf (iV 0) (.tp (.cons (.nm 2) (.cons (.nm 3) (.cons (.nm 4) .nil)))) (Jo (xIf (tOr? (tB? (e2 fLt (Jb 2) (eC (.int 1)))) (tB? (e2 fLt (Jb 4) (eC (.int 1))))) VB JW)
 (Jo (xIf (tAnd? (tB? (e2 WS (Jb 1) (eC .non))) (tB? (e2 Jjv (YQ (aC (Jb 2) (aC (Jb 3) a0))) (Jb 1)))) VB JW)
 (Js 1 (YQ (aC (Jb 2) (aC (Jb 3) a0)))))))
 (xIf (tB? (e2 fGt (eF Jcm (aC (Ys (iE true (Jb 0)) (.tp (.cons (.nm 0) (.cons (.nm 1) (.cons (.nm 2) .nil)))) yes? (Jb 2) [none,none,none]) a0)) (eC (.int 30)))) VB JW)))
noncomputable def UN:List Sl->Option Sl:=Yj 8 (Jo (JeU (eU 1 J2 (aC (Jb 0) a0)))
 (Jo (Zg 1 Jdx)
 (Jo (JnT (iV 0) (.tp (.cons (.nm 2) (.cons (.nm 3) (.cons (.nm 4) .nil)))) 1 (Jb 2) (YQ (aC (Jb 3) (aC (Jb 4) a0))))
 (Jo (Js 5 (Jfe (Jb 1)))
 (Jo (Js 6 (eF Zs (aC (Vk a0) a0)))
 (Jo (Vf (Jmf false (aC (Jji (aC (e2 YF (Vk (aC (eC (.int 0)) a0)) (Jb 5)) (aC (Jb 5) a0))) a0)) (.tp (.cons (.nm 7) (.cons (.nm 2) .nil))) (Js 6 (eU 2 Yz (aC (eU 2 Ub (aC (Jb 6) (aC (JlL (Jb 1) (Jb 2)) a0))) (aC (e2 Ye (e2 Ye (Jb 2) (Jb 7)) (eC (.int 1))) a0)))))
 (UC 6)))))))
noncomputable def Y0:List Sl->Option Sl:=Yj 2 (JZ (eIf (tB? (e2 fIs (Jb 1) (eC .non))) (Jb 0) (eF Jfh (aC (Jb 0) (aC (Jb 1) a0)))))
noncomputable def Yu:List Sl->Option Sl:=Yj 1 (xIf (tAnd? (tB? (e2 WS (Jb 0) (eC .non))) (tB? (e2 fLt (Jb 0) (eC (.int 1))))) VB JW)
noncomputable def Uj:List Sl->Option Sl:=Yj 3 (Jo (JeU (eU 1 Yu (aC (Jb 1) a0)))
 (Jo (JeU (eU 1 J2 (aC (Jb 0) a0)))
 (JZ (Ys (iE true (Jb 0)) (.tp (.cons (.nm 0) (.cons (.nm 1) (.cons (.nm 2) .nil)))) yes? (YQ (aC (Jb 0) (aC (e2 YF (Jb 1) (e2 JdE (Jb 3) (eU 2 Y0 (aC (Jb 0) (aC (Jb 4) a0))))) (aC (Jb 2) a0)))) [none,none,none,some 2,some 1]))))
noncomputable def Yx:List Sl->Option Sl:=Yj 5 (Jo (Zg 1 (Vk a0))
 (Jo (Vf (iV 0) (.tp (.cons (.nm 2) (.cons (.nm 3) .nil))) (xIf (tAnd? (tTru? (Jb 1)) (tB? (e2 fEq (eF Jcm (aC (e2 fIx (Jb 1) (e1 JhZ (eC (.int 1)))) a0)) (Jb 2)))) (Jo (JnU 1 4 some)
 (Jc8 1 (YQ (aC (e2 fIx (Jb 4) (eC (.int 0))) (aC (e2 YF (e2 fIx (Jb 4) (eC (.int 1))) (Jb 3)) a0))))) (xIf (tB? (e2 fGt (Jb 3) (eC (.int 0)))) (Jc8 1 (YQ (aC (Jb 2) (aC (Jb 3) a0)))) JW)))
 (UC 1)))
noncomputable def Uh:List Sl->Option Sl:=Yj 1 (JZ (Ys (Jmg true (aC (e1 Uv (Jb 0)) (aC (eSl (e1 Uv (Jb 0)) (some (eC (.int 1))) none) a0))) (.tp (.cons (.nm 0) (.cons (.nm 1) .nil))) yes? (e2 Ye (e2 fIx (Jb 1) (eC (.int 0))) (eF Jcm (aC (Jb 0) a0))) [none,none]))
noncomputable def JX:List Sl->Option Sl:=Yj 1 (JZ (eF JdD (aC (e2 YF (Ys (iE true (e1 Uv (Jb 0))) (.tp (.cons (.nm 0) (.cons (.nm 1) .nil))) yes? (Jb 1) [none,none]) (eU 1 Uh (aC (Jb 0) a0))) a0)))
noncomputable def J9:List Sl->Option Sl:=Yj 5 (Jo (Js 2 (eF Zs (aC (e1 Uv (Jb 0)) a0)))
 (Jo (Js 3 (Jb 1))
 (Jo (YC (tAnd? (tB? (e2 fGt (Jb 3) (eC (.int 0)))) (tTru? (e1 Uv (Jb 2)))) (Jo (Js 4 (eF Jfh (aC (Jb 3) (aC (eU 1 JX (aC (Jb 2) a0)) a0))))
 (Jo (Js 2 (eF Zs (aC (eU 1 Yx (aC (eU 2 J6 (aC (Jb 2) (aC (e1 JhZ (Jb 4)) a0))) a0)) a0)))
 (Jga (fun i j=>i-j) 3 (Jb 4)))) 1000000)
 (UC 2))))
noncomputable def YU:List Sl->Option Sl:=Yj 2 (JZ (eF JlY (aC (Ys (iE true (e1 Uv (Jb 0))) (.tp (.cons (.nm 0) (.cons (.nm 1) .nil))) yes? (Jfd fLe fLt (Jb 0) (Jb 2) (e2 YF (Jb 0) (Jb 1))) [none,none,some 1]) a0)))
noncomputable def Ui:List Sl->Option Sl:=Yj 2 (JZ (eIf (tAnd? (tTru? (eU 2 YU (aC (Jb 0) (aC (e2 Ye (Jb 1) (eC (.int 1))) a0)))) (tNot? (tTru? (eU 2 YU (aC (Jb 0) (aC (Jb 1) a0)))))) (eC (.int 1)) (eC (.int 0))))
noncomputable def Uc:List Sl->Option Sl:=Yj 6 (Jo (Js 1 (eU 2 J9 (aC (Jb 0) (aC (eC (.int 1)) a0))))
 (Jo (Zg 2 Jdx)
 (Jo (Vf (JbA false (aC (e1 Uv (Jb 0)) a0)) (.tp (.cons (.nm 3) (.cons (.nm 4) .nil))) (Jo (Js 5 (e2 Ye (e2 Ye (eF Jcm (aC (Jb 4) a0)) (eC (.int 1))) (e2 Z3 (eC (.int 2)) (Jb 3))))
 (JeT 2 (Jb 5) (e2 YF (Jcd (Jb 2) (Jb 5) (eC (.int 0))) (eC (.int 1))))))
 (JhG 2 (JZ (Ys (Jfn (Jb 2)) (.tp (.cons (.nm 0) (.cons (.nm 1) .nil))) yes? (YQ (aC (Jb 0) (aC (Jb 1) (aC (eU 2 Ui (aC (Jb 2) (aC (Jb 0) a0))) a0)))) [none,none,some 1]))))))
noncomputable def J8:List Sl->Option Sl:=Yj 5 (Jo (Zg 1 (Vk a0))
 (Jo (Js 2 (Jb 0))
 (Jo (Js 3 (eC (.int 0)))
 (Jo (YC (tTru? (e1 Uv (Jb 2))) (Jo (Js 4 (eU 1 JX (aC (Jb 2) a0)))
 (Jo (Jga (fun i j=>i+j) 3 (Jb 4))
 (Jo (Js 2 (eU 2 J9 (aC (Jb 2) (aC (e2 Ye (Jb 4) (eC (.int 1))) a0))))
 (Jo (Jgb 1 (Ys (iE true (eU 1 Uc (aC (Jb 2) a0))) (.tp (.cons (.nm 0) (.cons (.nm 1) (.cons (.nm 2) .nil)))) (tB? (e2 fGt (Jb 1) (Jb 2))) (YQ (aC (Jb 3) (aC (Jb 0) (aC (e2 Ye (Jb 1) (Jb 2)) a0)))) [none,none,none,some 3]))
 (Js 2 (eU 2 J9 (aC (Jb 2) (aC (eC (.int 1)) a0)))))))) 1000000)
 (UC 1)))))
noncomputable def YD:List Sl->Option Sl:=Yj 3 (JZ (eU 1 UN (aC (eU 3 Uj (aC (eU 1 J8 (aC (Jb 0) a0)) (aC (Jb 1) (aC (Jb 2) a0)))) a0)))
noncomputable def JO:List Sl->Option Sl:=Yj 4 (Jo (Js 3 (e1 Uv (eU 3 YD (aC (Jb 0) (aC (eC .non) (aC (Jb 2) a0))))))
 (Jo (xIf (tB? (e2 fNe (Jb 3) (eF WU (aC (Ys (iE true (Jb 1)) (.tp (.cons (.nm 0) (.cons (.nm 1) .nil))) yes? (YQ (aC (e2 YF (Jb 1) (e2 JdE (Jb 0) (Jb 2))) (aC (Jb 0) a0))) [none,none,some 2]) a0)))) (JZ (eC (.bl false))) JW)
 (JZ (eU 1 JQ (aC (eU 1 J0 (aC (Jb 3) a0)) a0)))))
noncomputable def YE:List Sl->Option Sl:=Yj 1 (JZ (Ys (Jmg true (aC (Jb 0) (aC (eSl (Jb 0) (some (eC (.int 1))) none) a0))) (.tp (.cons (.nm 0) (.cons (.nm 1) .nil))) (tB? (e2 fNe (e2 fIx (Jb 0) (eC (.int 0))) (e2 fIx (Jb 1) (eC (.int 0))))) (YQ (aC (Jb 0) (aC (Jb 1) a0))) [none,none]))
noncomputable def Yv:List Sl->Option Sl:=Yj 5 (Jo (Zg 1 (Vk a0))
 (Jo (Vf (iE false (eU 1 J8 (aC (Jb 0) a0))) (.tp (.cons (.nm 2) (.cons (.nm 3) (.cons (.nm 4) .nil)))) (Jgb 1 (e2 Jjy (Vk (aC (YQ (aC (Jb 2) (aC (Jb 3) a0))) a0)) (Jb 4))))
 (UC 1)))
noncomputable def Jz:List Sl->Option Sl:=Yj 2 (Jo (Js 1 (eF Jcl (aC (eU 1 Yv (aC (Jb 0) a0)) a0)))
 (JZ (Ys (JbA true (aC (Jb 1) a0)) (.tp (.cons (.nm 0) (.cons (.nm 1) .nil))) yes? (YQ (aC (e2 fIx (Jb 1) (eC (.int 0))) (aC (e2 YF (e2 fIx (Jb 1) (eC (.int 1))) (e2 Z3 (e2 Z3 (eC (.int 2)) (e2 fIx (Jb 1) (eC (.int 0)))) (Jb 0))) a0))) [none,none])))
noncomputable def YV:List Sl->Option Sl:=Yj 2 (Jo (Js 1 (eU 1 YE (aC (eU 1 Jz (aC (Jb 0) a0)) a0)))
 (JZ (eF JdD (aC (Ys (iE true (Jb 1)) (.tp (.cons (.nm 0) (.cons (.nm 1) .nil))) yes? (e2 Jjt (e2 Ye (e2 Ye (e2 Ye (e2 fIx (Jb 1) (eC (.int 1))) (e2 fIx (Jb 0) (eC (.int 1)))) (e2 fIx (Jb 0) (eC (.int 0)))) (e2 fIx (Jb 1) (eC (.int 0)))) (e2 Ye (e2 fIx (Jb 0) (eC (.int 0))) (e2 fIx (Jb 1) (eC (.int 0))))) [none,none]) a0))))
noncomputable def YJ:List Sl->Option Sl:=Yj 5 (Jo (Zg 1 Jdx)
 (Jo (Vf (iE false (eU 1 J8 (aC (Jb 0) a0))) (.tp (.cons (.nm 2) (.cons (.nm 3) (.cons (.nm 4) .nil)))) (JeT 1 (Jb 2) (e2 YF (Jcd (Jb 1) (Jb 2) (eC (.int 0))) (Jb 4))))
 (JZ (Jce (Jb 1)))))
noncomputable def Yy:List Sl->Option Sl:=Yj 4 (Jo (xIf (tOr? (tNot? (tTru? (Ja0 "list" (Jb 0)))) (tB? (e2 fNe (eF Zr (aC (Jb 0) a0)) (Jb 1)))) (JZ (eC (.bl false))) JW)
 (Jo (Vf (iV 0) (.nm 2) (Jo (xIf (tOr? (tNot? (tTru? (Ja0 "tuple" (Jb 2)))) (tB? (e2 fNe (eF Zr (aC (Jb 2) a0)) (eC (.int 2))))) (JZ (eC (.bl false))) JW)
 (Vf (iV 2) (.nm 3) (xIf (tOr? (tNot? (tTru? (Ja0 "int" (Jb 3)))) (tTru? (Ja0 "bool" (Jb 3)))) (JZ (eC (.bl false))) JW))))
 (JZ (eC (.bl true)))))
noncomputable def J7:List Sl->Option Sl:=Yj 8 (Jo (Js 4 (e2 Ye (e2 WT (eU 2 JD (aC (Jb 0) (aC (Jb 1) a0))) (e2 YF (e2 Z3 (eC (.int 2)) (Jb 3)) (eC (.int 1)))) (Jb 3)))
 (Jo (Zg 5 (Vk a0))
 (Jo (Vf (iR1 (aC (Jb 2) a0)) (.nm 6) (Jo (Js 7 (e2 YF (eC (.int 1)) (e2 WT (eU 2 JD (aC (Jb 0) (aC (e2 YF (e2 YF (Jb 1) (eC (.int 1))) (e2 Z3 (eC (.int 2)) (Jb 6))) a0))) (Jb 3))))
 (Jo (Jc8 5 (YQ (aC (Jb 4) (aC (Jb 7) a0))))
 (Js 4 (e2 YF (e2 YF (e2 YF (Jb 4) (Jb 7)) (eC (.int 1))) (e2 WT (eU 2 JD (aC (Jb 0) (aC (e2 YF (e2 YF (Jb 1) (eC (.int 2))) (e2 Z3 (eC (.int 2)) (Jb 6))) a0))) (Jb 3)))))))
 (UC 5))))
noncomputable def Jfg:List Sl->Option Sl:=Yj 11 (Jo (Js 1 (eU 2 JD (aC (Jb 0) (aC (eC (.int 0)) a0))))
 (Jo (Js 2 (eU 4 J7 (aC (Jb 0) (aC (eC (.int 2)) (aC (e2 WT (Jb 1) (eC (.int 19))) (aC (e2 fIx (Vk (aC (eC (.int 3)) (aC (eC (.int 7)) (aC (eC (.int 1000)) (aC (e2 JdF (eC (.int 10)) (eC (.int 50))) a0))))) (e2 WT (e2 Jl0 (Jb 1) (eC (.int 19))) (eC (.int 4)))) a0))))))
 (Jo (Js 3 (eF Zs (aC (Jb 2) a0)))
 (Jo (Zg 4 (eU 1 Jz (aC (Jb 3) a0)))
 (Jo (Jc8 4 (YQ (aC (eC (.int 0)) (aC (eC (.int 0)) a0))))
 (Jo (JeV 4)
 (Jo (Js 5 (eU 1 Jz (aC (Jb 3) a0)))
 (Jo (xIf (tNot? (tTru? (eU 2 Yy (aC (Jb 5) (aC (eF Zr (aC (Jb 2) a0)) a0))))) (JZ (eC (.bl false))) JW)
 (Jo (Js 6 (Ys (iE true (Jb 5)) (.tp (.cons (.nm 0) (.cons (.nm 1) .nil))) yes? (Jb 0) [none,none]))
 (Jo (xIf (tB? (e2 fNe (Jb 6) (eF Vm (aC (Jb 6) a0)))) (JZ (eC (.bl false))) JW)
 (Jo (xIf (tB? (e2 fNe (eU 1 YJ (aC (Jb 3) a0)) (Ys (iE true (Jcf (Jb 6))) (.nm 0) yes? (YQ (aC (Jb 0) (aC (eMI JdC (Jb 1) (Jb 0)) a0))) [none,some 6]))) (JZ (eC (.bl false))) JW)
 (Jo (Js 7 (eU 1 YV (aC (Jb 3) a0)))
 (Jo (xIf (tB? (e2 fIs (Jb 7) (eC .non))) (Jo (Js 8 (e2 WT (eU 2 JD (aC (Jb 0) (aC (eC (.int 1)) a0))) (e2 JdF (eC (.int 10)) (eC (.int 20)))))
 (Jo (Vf (iE false (Vk (aC (eC (.int 0)) (aC (Jb 8) (aC (e2 Ye (eC (.int 0)) (Jb 8)) a0))))) (.nm 9) (xIf (tNot? (tTru? (eU 3 JO (aC (Jb 3) (aC (Jb 5) (aC (Jb 9) a0)))))) (JZ (eC (.bl false))) JW))
 (JZ (eC (.bl true))))) JW)
 (Jo (xIf (tOr? (tNot? (tTru? (Ja0 "int" (Jb 7)))) (tTru? (Ja0 "bool" (Jb 7)))) (JZ (eC (.bl false))) JW)
 (Jo (xIf (tTru? (eU 1 JQ (aC (eU 1 J0 (aC (e1 Uv (eU 3 YD (aC (Jb 3) (aC (eC .non) (aC (e2 YF (Jb 7) (eC (.int 1))) a0))))) a0)) a0))) (JZ (eC (.bl false))) JW)
 (Jo (Vf (iE false (Vk (aC (eC (.int 0)) (aC (eC (.int 1)) (aC (e2 WT (eU 2 JD (aC (Jb 0) (aC (eC (.int 1)) a0))) (e2 JdF (eC (.int 10)) (eC (.int 20)))) a0))))) (.nm 10) (xIf (tNot? (tTru? (eU 3 JO (aC (Jb 3) (aC (Jb 5) (aC (e2 Ye (Jb 7) (Jb 10)) a0)))))) (JZ (eC (.bl false))) JW))
 (JZ (e2 fEq (e1 Uv (Jb 3)) (eF WU (aC (Jb 2) a0))))))))))))))))))))
end LK
end
namespace LK
open PySem LE
local macro_rules | `(tactic| omega)=>`(tactic| first | lia | omega (config:={}))
local macro_rules | `(tactic| walk_at "sd")=>`(tactic| first | omega (config:={}) | assumption | (simp only[QA,Qp,Km,Qv,KB,Gq];omega (config:={})))
local macro_rules | `(tactic| walk_at "ev")=>`(tactic| simp -implicitDefEqProofs (disch:=walk_at "sd") only[Yj,JnD,Int.reduceToNat,Qv,KB,Nat.reduceAdd,Nat.reduceSub,Nat.reduceLT,Nat.reduceLeDiff,Gh,Nat.zero_lt_succ,Nat.succ_lt_succ_iff,R9,Kl,Lb,KQ,List.set_cons_zero,List.set_cons_succ,List.getElem?_cons_succ,List.getElem?_cons_zero,Qp,Km,List.length_set,QZ,Ld,Option.bind_none,Option.map_none,if_true,if_false,ite_true,ite_false,decide_true,decide_false,Bool.not_true,Bool.not_false,Bool.and_true,Bool.true_and,reduceIte,reduceCtorEq,Kh,Qd,LA,if_pos,
 Jo,xIf,JZ,UC,JW,Zg,Js,JeU,Jc8,Jgb,JnU,Jga,Jdx,JlL,Jcd,JeT,JhG,Jfn,Jce,JeV,Jfe,Jcf,JcO,Jji,lst?,eMI,Jl2,Sl.dk,int?,Vf,tB?,tTru?,tAnd?,tOr?,tNot?,JqQ,e2,e1,Jb,eF,eC,aC,a0,eU,ZJ,Sl.pass,YQ,Vk,Jaa,Sl.frz,eIf,Jfd,sh?,bool?,keep?,Ja0,tyN,JpK,Jnu,Jnv,JlO,JlP,
 Jri,Jl5,Jjx,Jl4,Jl1,Jju,Jl7,Jl6,JlV,JlW,JlX,JoZ,JoY,Jo0,Jrl,Jrk,Jrj,Jrm,WU,Jl3,Jfh,Uv,Sl.q,Sl.r,Sl.m,Sl.d,Sl.it,fEq,fNe,JoX,JoV,JoW,JoU,fIs,WS,Jh7,Jh6,Jh8,iE,iV,iR1,iR2,Ys,Wy,Jmg,Jmf,JbA,Zz,Vm,JdD,Jaf,eSl,ZZ,fSl,Jfp,Jpj,Jml,Jpl,Jpk,Jq4,Jq5,Jlu,JiQ,Jsz,JsA,eq_self])
noncomputable section
def W1(ns:List Int)(k:Int)(hk:0<=k):JD [.sh (.fz (ns.map .int)),.sh (.int k)]=some (.sh (.int (cell ns k))):=by
 unfold JD;walk_at "ev"
 by_cases h:k<(ns.length:Int)
 ·simp only[h,JbX,Jdk hk h];walk_at "ev"
 ·simp only[h,Ji9 h];walk_at "ev"
def Good.cons'(g:Good (p::ps)):Good ps:=⟨fun i q e=>g.one (i+1) q (by simpa using e),fun i q r e1 e2=>g.gap (i+1) q r (by simpa using e1) (by simpa using e2)⟩
def Good.all(g:Good ps):∀p∈ps,1<=p.2:=fun p hp=>by obtain⟨i,hi,e⟩:=GD.mp hp;exact g.one i p (by simp[hi,e])
theorem Good.first:∀{ps:List Pr},Good (p::ps)->∀q∈ps,p.1+p.2<q.1
 | [],_,q,hq=>nomatch hq
 | r::ps,g,q,hq=>by
  have h1:=g.gap 0 p r rfl rfl;rcases Qk.mp hq with z|z
  ·rw[z];exact h1
  ·have h2:=Good.first (Good.cons' g) q z
   have h3:=g.one 1 r rfl;omega
theorem Good.pw:∀{ps:List Pr},Good ps->ps.Pairwise fun p q=>p.1+p.2<q.1
 | [],_=>.nil
 | p::ps,g=>.cons (Good.first g) (Good.pw (Good.cons' g))
def JiW{α:Type}{xs:List α}{x:α}(h:xs[xs.length-1]?=some x):atI xs (-1)=some x:=by
 have hl:=(Qo.mp h).1;unfold atI ixN;rw[if_neg (by omega),if_pos (by omega)]
 have:((-1:Int)+(xs.length:Int)).toNat=xs.length-1:=by omega
 rw[this];exact h
def UD(p:Pr):fIx (.sh (prE p)) (.sh (.int 0))=some (.sh (.int p.1)):=rfl
def Vl(p:Pr):fIx (.sh (prE p)) (.sh (.int 1))=some (.sh (.int p.2)):=rfl
noncomputable def Uy:List Pr->List Int
 | []=>[]
 | [_]=>[]
 | p::q::r=>(q.1-(p.1+p.2))::Uy (q::r)
theorem Jbz:∀ps:List Pr,Uy ps=(Ru ps (ps.drop 1)).map fun pq=>pq.2.1-(pq.1.1+pq.1.2)
 | []=>rfl
 | [_]=>rfl
 | p::q::r=>by rw[Uy,Jbz (q::r)];rfl
theorem Jby:∀ps:List Pr,(Uy ps).length=ps.length-1
 | []=>rfl
 | [_]=>rfl
 | p::q::r=>by rw[Uy,Qv,Jby (q::r)];simp
def Jds{α:Type}(xs:List α):Jfc xs (some 1) none=xs.drop 1:=by
 unfold Jfc;have e:HT.sIx xs.length 0 (some 1)=min 1 xs.length:=rfl;rw[e,show HT.sIx xs.length xs.length none=xs.length from rfl]
 cases xs with
 | nil=>rfl
 | cons x xs=>simp
def Jpu(ps:List Pr)(h:ps.length<=1000):Uh [.sh (.row (ps.map prE))]=some (.own ((Uy ps).map .int)):=by
 unfold Uh;walk_at "ev";rw[Jds,<- List.map_drop,Jdb];walk_at "ev";have hz:(Ru ps (ps.drop 1)).length<=16777216:=by rw[Kj];omega
 rw[if_pos hz,JP (g:=fun pq=>D.int (pq.2.1-(pq.1.1+pq.1.2)))]
 ·walk_at "ev";rw[Jbz,Qw];rfl
 ·intro pq _;walk_at "ev";rw[UD];walk_at "ev";rw[VG (ns:=[pq.1.1,pq.1.2]) rfl];walk_at "ev";simp
def Wm{α:Type}{xs:List α}{k:Nat}{x:α}(h:xs[k]?=some x):atI xs (k:Int)=some x:=by obtain⟨h1,h2⟩:=Qo.mp h;rw[Jdl h1,h2]
def Good.mk'(h1:1<=p.2)(h2:∀q,ps[0]?=some q->p.1+p.2<q.1)(g:Good ps):Good (p::ps):=by
 refine⟨fun i q e=>?_,fun i q r e1 e2=>?_⟩
 ·cases i with
  | zero=>simp at e;subst e;exact h1
  | succ i=>exact g.one i q (by simpa using e)
 ·cases i with
  | zero=>simp at e1;subst e1;exact h2 r (by simpa using e2)
  | succ i=>exact g.gap i q r (by simpa using e1) (by simpa using e2)
noncomputable def byF(k:Int)(ps:List Pr):List Pr:=ps.mapIdx fun i p=>(p.1+2*k*(i:Int),p.2+k)
def Ug(k:Int)(ps:List Pr):(byF k ps).length=ps.length:=by unfold byF;rw[MY]
def V3{k:Int}{ps:List Pr}{i:Nat}{x:Pr}(e:(byF k ps)[i]?=some x):∃p,ps[i]?=some p/\x=(p.1+2*k*(i:Int),p.2+k):=by unfold byF at e;rw[QJ,Q0] at e;obtain⟨p,h,rfl⟩:=e;exact⟨p,h,rfl⟩
def Jgn(a b:Int)(ps:List Pr):byF a (byF b ps)=byF (a+b) ps:=by
 refine GJ fun i=>?_
 unfold byF;rw[QJ,QJ,QJ,KM]
 cases ps[i]? with
 | none=>rfl
 | some p=>show some (p.1+2*b*(i:Int)+2*a*(i:Int),p.2+b+a)=some (p.1+2*(a+b)*(i:Int),p.2+(a+b));rw[LY,K0];congr 2 <;> omega
def Wo(ps:List Pr):byF 0 ps=ps:=by
 refine GJ fun i=>?_
 unfold byF;rw[QJ]
 cases ps[i]? with
 | none=>rfl
 | some p=>simp
structure Wide (c:Int) (ps:List Pr):Prop where
 one:∀(i:Nat) (p:Pr),ps[i]?=some p->c<=p.2
 gap:∀(i:Nat) (p q:Pr),ps[i]?=some p->ps[i+1]?=some q->c<=q.1-(p.1+p.2)
def Wide.good(h:1<=c)(w:Wide c ps):Good ps:=⟨fun i p e=>by have:=w.one i p e;omega,fun i p q e1 e2=>by have:=w.gap i p q e1 e2;omega⟩
def Wide.bys{c k:Int}{ps:List Pr}(w:Wide c ps):Wide (c+k) (byF k ps):=by
 refine⟨fun i x e=>?_,fun i x y e1 e2=>?_⟩
 ·obtain⟨p,h,rfl⟩:=V3 e;have:=w.one i p h;dsimp only;omega
 ·obtain⟨p,h1,rfl⟩:=V3 e1;obtain⟨q,h2,rfl⟩:=V3 e2;have:=w.gap i p q h1 h2;have em:2*k*((i+1:Nat):Int)=2*k*(i:Int)+2*k:=by rw[KD,LY];simp
  dsimp only;rw[em];omega
def Wide.mono(h:c'<=c)(w:Wide c ps):Wide c' ps:=⟨fun i p e=>by have:=w.one i p e;omega,fun i p q e1 e2=>by have:=w.gap i p q e1 e2;omega⟩
def Wide.cons(w:Wide c (p::ps)):Wide c ps:=⟨fun i q e=>w.one (i+1) q (by simpa using e),fun i q r e1 e2=>w.gap (i+1) q r (by simpa using e1) (by simpa using e2)⟩
noncomputable def clF:Pr->List Pr->List Pr
 | cur,[]=>[cur]
 | cur,p::r=>if cur.1+cur.2=p.1 then clF (cur.1,cur.2+p.2) r else if 0<p.2 then cur::clF p r else clF cur r
noncomputable def clN:List Pr->List Pr
 | []=>[]
 | p::r=>if 0<p.2 then clF p r else clN r
theorem Jfa:∀(cur:Pr) (r:List Pr),Good (cur::r)->clF cur r=cur::r
 | cur,[],_=>rfl
 | cur,p::r,g=>by
  have h1:=g.gap 0 cur p rfl rfl
  have h2:=g.one 1 p rfl;rw[clF,if_neg (by omega),if_pos (by omega),Jfa p r (Good.cons' g)]
def Jb6(g:Good ps):clN ps=ps:=by
 cases ps with
 | nil=>rfl
 | cons p r=>rw[clN,if_pos (by have:=g.one 0 p rfl;omega),Jfa p r g]
theorem Wp:∀(cur:Pr) (r:List Pr),1<=cur.2->Wide 0 r->(∀q,r[0]?=some q->cur.1+cur.2<=q.1)->Good (clF cur r)/\∃q,(clF cur r)[0]?=some q/\q.1=cur.1
 | cur,[],h,_,_=>⟨Good.mk' h (fun q e=>by simp at e) Good.nil,cur,rfl,rfl⟩
 | cur,p::r,h,w,hq=>by
  have h0:=w.one 0 p rfl
  have hb:=hq p rfl
  have nx:∀q,r[0]?=some q->p.1+p.2<=q.1:=fun q e=>by have:=w.gap 0 p q rfl (by simpa using e);omega
  rw[clF];split
  ·next e=>exact Wp (cur.1,cur.2+p.2) r (by dsimp only;omega) w.cons fun q e'=>by have:=nx q e';dsimp only;omega
  ·next e =>
   split
   ·next hp=>obtain⟨g,q,e1,e2⟩:=Wp p r (by omega) w.cons nx;exact⟨Good.mk' h (fun q' e'=>by rw[e1] at e';cases e';omega) g,cur,rfl,rfl⟩
   ·next hp=>exact Wp cur r h w.cons fun q e'=>by have:=nx q e';omega
theorem ZX:∀(ps:List Pr),Wide 0 ps->Good (clN ps)
 | [],_=>Good.nil
 | p::r,w=>by
  rw[clN];split
  ·next h=>exact(Wp p r (by omega) w.cons fun q e=>by have:=w.gap 0 p q rfl (by simpa using e);omega).1
  ·exact ZX r w.cons
theorem Zx:∀(cur:Pr) (r:List Pr),(clF cur r).length<=r.length+1/\((clF cur r).length=r.length+1->(∀p∈r,0<p.2)/\∀(i:Nat) (p q:Pr),(cur::r)[i]?=some p->(cur::r)[i+1]?=some q->p.1+p.2≠q.1)
 | cur,[]=>⟨Qu _,fun _=>⟨fun p hp=>(by cases hp),fun i p q _ e=>(by simp at e)⟩⟩
 | cur,p::r=>by
  rw[clF,Qv];split
  ·next e=>have ih:=(Zx (cur.1,cur.2+p.2) r).1;exact⟨by omega,fun h=>by omega⟩
  ·next e =>
   split
   ·next hp =>
    obtain⟨i1,i2⟩:=Zx p r;refine⟨by rw[Qv];omega,fun h=>?_⟩;obtain⟨a1,a2⟩:=i2 (by rw[Qv] at h;omega);refine⟨fun q hq=>?_,fun i x y e1 e2=>?_⟩
    ·rcases Qk.mp hq with z|z
     ·rw[z];exact hp
     ·exact a1 q z
    ·cases i with
     | zero=>simp at e1 e2;subst e1 e2;exact e
     | succ i=>exact a2 i x y (by simpa using e1) (by simpa using e2)
   ·have ih:=(Zx cur r).1;exact⟨by omega,fun h=>by omega⟩
theorem U0:∀(ps:List Pr),(clN ps).length<=ps.length/\((clN ps).length=ps.length->(∀p∈ps,0<p.2)/\∀(i:Nat) (p q:Pr),ps[i]?=some p->ps[i+1]?=some q->p.1+p.2≠q.1)
 | []=>⟨Qu _,fun _=>⟨fun p hp=>(by cases hp),fun i p q e=>(by simp at e)⟩⟩
 | p::r=>by
  rw[clN,Qv];split
  ·next hp=>obtain⟨i1,i2⟩:=Zx p r;refine⟨i1,fun h=>?_⟩;obtain⟨a1,a2⟩:=i2 h;exact⟨fun q hq=>(Qk.mp hq).elim (fun z=>z▸hp) (a1 q),a2⟩
  ·have ih:=(U0 r).1;exact⟨by omega,fun h=>by omega⟩
noncomputable def thF(ps:List Pr):List Pr:=clN (byF (-1) ps)
noncomputable def thN:Nat->List Pr->List Pr
 | 0,ps=>ps
 | n+1,ps=>thN n (thF ps)
def ZL(a b:Nat):∀ps:List Pr,thN (a+b) ps=thN b (thN a ps):=by
 induction a with
 | zero=>intro ps;rw[XA];rfl
 | succ a ih=>intro ps;rw[Nat.succ_add];exact ih (thF ps)
theorem Jc7:∀n,thN n []=[]
 | 0=>rfl
 | n+1=>Jc7 n
def JB(g:Good ps):Good (thF ps):=ZX _ (by
 have w:Wide 1 ps:=⟨fun i p e=>g.one i p e,fun i p q e1 e2=>by have:=g.gap i p q e1 e2;omega⟩
 exact w.bys (k:=-1))
theorem Ut:∀(n:Nat) {ps:List Pr},Good ps->Good (thN n ps)
 | 0,_,g=>g
 | n+1,_,g=>Ut n (JB g)
theorem JaO:∀(n:Nat) {c:Int} {ps:List Pr},Wide c ps->1<=c->((n:Int)<=c)->thN n ps=clN (byF (-(n:Int)) ps)
 | 0,c,ps,w,h1,_=>by show ps=clN (byF (-((0:Nat):Int)) ps);rw[show -((0:Nat):Int)=0 by simp,Wo,Jb6 (w.good h1)]
 | n+1,c,ps,w,h1,hn=>by
  show thN n (thF ps)=_
  by_cases h:n=0
  ·subst h;rfl
  ·have w1:Wide (c+-1) (byF (-1) ps):=w.bys
   have e:thF ps=byF (-1) ps:=Jb6 (w1.good (by omega));rw[e,JaO n w1 (by omega) (by omega),Jgn];congr 2;omega
def JaP{n:Nat}{c:Int}{ps:List Pr}(w:Wide c ps)(h1:1<=c)(h:(n:Int)<c):thN n ps=byF (-(n:Int)) ps:=by rw[JaO n w h1 (by omega),Jb6 ((w.bys (k:=-(n:Int))).good (by omega))]
noncomputable def JiR(c:Int)(ps:List Pr):Prop:=(∃p∈ps,p.2=c)\/∃(i:Nat) (p q:Pr),ps[i]?=some p/\ps[i+1]?=some q/\q.1-(p.1+p.2)=c
def JaQ(t:JiR c ps):(clN (byF (-c) ps)).length<ps.length:=by
 obtain⟨h1,h2⟩:=U0 (byF (-c) ps);rw[Ug] at h1 h2;rcases Lh (clN (byF (-c) ps)).length ps.length with h|h
 ·exact h
 ·obtain⟨a1,a2⟩:=h2 (by omega)
  exfalso
  rcases t with ⟨p,hp,e⟩|⟨i,p,q,e1,e2,e⟩
  ·obtain⟨i,hi,rfl⟩:=GD.mp hp
   have hx:(byF (-c) ps)[i]?=some (ps[i].1+2*-c*(i:Int),ps[i].2+-c):=by unfold byF;rw[QJ,QB hi];rfl
   have:=a1 _ (QI hx);dsimp only at this;omega
  ·have hx:(byF (-c) ps)[i]?=some (p.1+2*-c*(i:Int),p.2+-c):=by unfold byF;rw[QJ,e1];rfl
   have hy:(byF (-c) ps)[i+1]?=some (q.1+2*-c*((i+1:Nat):Int),q.2+-c):=by unfold byF;rw[QJ,e2];rfl
   have:=a2 i _ _ hx hy
   have em:2*-c*((i+1:Nat):Int)=2*-c*(i:Int)+2*-c:=by rw[KD,LY];simp
   dsimp only at this;rw[em] at this;omega
noncomputable def zs(n:Nat):List Int:=QC n 0
noncomputable def os(n:Nat):List Int:=QC n 1
noncomputable def byR:Int->List Pr->List Pr
 | _,[]=>[]
 | c,p::r=>(p.1-c,p.2-1)::byR (c+2) r
theorem Zv:∀(ps:List Pr) (c:Int),byR c ps=ps.mapIdx fun i p=>(p.1+2*(-1)*(i:Int)-c,p.2+-1)
 | [],c=>rfl
 | p::r,c=>by
  rw[byR,List.mapIdx_cons,Zv r (c+2)];congr 1
  ·congr 1;simp
  ·refine GJ fun i=>?_
   rw[QJ,QJ]
   cases r[i]? with
   | none=>rfl
   | some q=>simp only[Ld,KD];congr 2;omega
def YK(ps:List Pr):byR 0 ps=byF (-1) ps:=by
 rw[Zv];unfold byF;congr 1
 funext i p
 congr 1;omega
def Yl(g:Good ps):Wide 1 ps:=⟨fun i p e=>g.one i p e,fun i p q e1 e2=>by have:=g.gap i p q e1 e2;omega⟩
theorem ZW:∀(r:List Pr) (cur:Pr),∃q,(clF cur r)[0]?=some q/\q.1=cur.1
 | [],cur=>⟨cur,rfl,rfl⟩
 | p::r,cur=>by
  rw[clF];split
  ·obtain⟨q,h1,h2⟩:=ZW r (cur.1,cur.2+p.2);exact⟨q,h1,h2⟩
  ·split
   ·exact⟨cur,rfl,rfl⟩
   ·exact ZW r cur
theorem Zf:∀(n:Nat) (ps:List Pr),thN (n+1) ps=thF (thN n ps)
 | 0,ps=>rfl
 | n+1,ps=>by show thN (n+1) (thF ps)=thF (thN n (thF ps));exact Zf n (thF ps)
noncomputable def tkS(x prev pos:Int)(acc:List Pr):List Pr :=
 if x=1/\prev=1 then acc.dropLast++[((acc.getLastD (0,0)).1,(acc.getLastD (0,0)).2+1)] else if x=1 then acc++[(pos,1)] else acc
noncomputable def tk:Int->Int->List Pr->List Int->List Pr
 | _,_,acc,[]=>acc
 | prev,pos,acc,x::r=>tk x (pos+1) (tkS x prev pos acc) r
noncomputable def below(ps:List Pr)(x:Int):Int:=(ps.map fun p=>max 0 (min p.2 (x-p.1))).sum
def JC(p:Pr)(ps:List Pr)(x:Int):below (p::ps) x=max 0 (min p.2 (x-p.1))+below ps x:=by unfold below;rw[Qd,QE]
def ZS{ps:List Pr}{x:Int}(h:∀p∈ps,x<=p.1):below ps x=0:=by
 induction ps with
 | nil=>rfl
 | cons p ps ih=>have h1:=h p Qf;rw[JC,ih fun q hq=>h q (Qc _ hq)];omega
noncomputable def JJ(ps:List Pr)(y:Int):Bool:=ps.any fun p=>decide (p.1<=y) && decide (y<p.1+p.2)
def has_iff:JJ ps y=true↔∃p∈ps,p.1<=y/\y<p.1+p.2:=by unfold JJ;rw[Lp];simp
def Jcs(h:∀p∈ps,p.1<=y->p.1+p.2<=y):JJ ps y=false:=by
 cases e:JJ ps y with
 | false=>rfl
 | true=>obtain⟨p,hp,h1,h2⟩:=has_iff.mp e;have:=h p hp h1;omega
def Jru{l d:Int}(h0:0<=d)(h1:d<l):max 0 (min l (d+1))=max 0 (min l d)+1:=by rw[GG (by omega),GG (by omega),KI (by omega),KI h0]
def Jpy{l d:Int}(hl:0<=l)(h:d<0\/l<=d):max 0 (min l (d+1))=max 0 (min l d):=by
 rcases h with h|h
 ·rw[GG (by omega),GG (by omega),Mc (by omega),Mc (by omega)]
 ·rw[Kk (by omega),Kk h]
theorem ZR(y:Int):∀{ps:List Pr},Good ps->below ps (y+1)=below ps y+(if JJ ps y=true then 1 else 0)
 | [],_=>rfl
 | p::ps,g=>by
  have ih:=ZR y (Good.cons' g)
  have hp:=g.one 0 p rfl;rw[JC,JC,ih]
  by_cases h1:p.1<=y/\y<p.1+p.2
  ·have e1:JJ (p::ps) y=true:=has_iff.mpr ⟨p,Qf,h1⟩
   have e2:JJ ps y=false:=Jcs fun q hq hy=>by
    have:=Good.first g q hq
    omega
   rw[e1,e2,if_pos rfl,if_neg (by simp),show y+1-p.1=y-p.1+1 by omega,Jru (show 0<=y-p.1 by omega) (show y-p.1<p.2 by omega)]
   generalize max 0 (min p.2 (y-p.1))=m
   omega
  ·have e1:JJ (p::ps) y=JJ ps y:=by
    unfold JJ;rw[G7]
    have:(decide (p.1<=y) && decide (y<p.1+p.2))=false:=by
     cases h:(decide (p.1<=y) && decide (y<p.1+p.2)) with
     | false=>rfl
     | true=>rw[QR,decide_eq_true_eq,decide_eq_true_eq] at h;exact absurd h h1
    rw[this,G8]
   rw[e1,show y+1-p.1=y-p.1+1 by omega,Jpy (show 0<=p.2 by omega) (show y-p.1<0\/p.2<=y-p.1 by omega),Rm]
def Jw(p:Pr)(ps:List Pr)(x:Int):JJ (p::ps) x=((decide (p.1<=x) && decide (x<p.1+p.2)) || JJ ps x):=by unfold JJ;rw[G7]
def WV{p:Pr}{ps:List Pr}{x:Int}(h1:p.1<=x)(h2:x<p.1+p.2):JJ (p::ps) x=true:=has_iff.mpr ⟨p,Qf,h1,h2⟩
def Jct(h:p.1+p.2<=x):JJ (p::ps) x=JJ ps x:=by rw[Jw];have:decide (x<p.1+p.2)=false:=decide_eq_false (by omega);rw[this,R3,G8]
def U4(h:∀p∈ps,x<p.1):JJ ps x=false:=Jcs fun p hp hx=>by have:=h p hp;omega
theorem ZD:∀{ps qs:List Pr},Good ps->Good qs->(∀x,JJ ps x=JJ qs x)->ps=qs
 | [],[],_,_,_=>rfl
 | [],q::qs,_,g,h=>by have:=h q.1;rw[WV (QD _) (by have:=g.one 0 q rfl;omega)] at this;cases this
 | p::ps,[],g,_,h=>by have:=h p.1;rw[WV (QD _) (by have:=g.one 0 p rfl;omega)] at this;cases this
 | p::ps,q::qs,g,g',h=>by
  have hp:=g.one 0 p rfl
  have hq:=g'.one 0 q rfl
  have le:∀{p:Pr} {ps:List Pr} {x:Int},Good (p::ps)->JJ (p::ps) x=true->p.1<=x:=fun {p ps x} g e=>by
   obtain⟨r,hr,h1,h2⟩:=has_iff.mp e;rcases Qk.mp hr with z|z
   ·rw[<- z];exact h1
   ·have:=Good.first g r z
    have:=g.one 0 p rfl;omega
  have e1:p.1=q.1:=by
   have a:=le g' (x:=p.1) (by rw[<- h];exact WV (QD _) (by omega))
   have b:=le g (x:=q.1) (by rw[h];exact WV (QD _) (by omega));omega
  have off:∀{p:Pr} {ps:List Pr},Good (p::ps)->JJ (p::ps) (p.1+p.2)=false:=fun {p ps} g=>by rw[Jct (QD _)];exact U4 fun z hz=>Good.first g z hz
  have e2:p.2=q.2:=by
   have a:=h (p.1+p.2);rw[off g] at a
   have b:=h (q.1+q.2);rw[off g'] at b
   by_cases c:p.2<q.2
   ·rw[WV (p:=q) (by omega) (by omega)] at a;cases a
   ·by_cases c':q.2<p.2
    ·rw[WV (p:=p) (by omega) (by omega)] at b;cases b
    ·omega
  have e:p=q:=KL e1 e2;subst e;rw[ZD (Good.cons' g) (Good.cons' g') fun x=>?_]
  by_cases c:p.1+p.2<=x
  ·have:=h x
   rwa [Jct c,Jct c] at this
  ·rw[U4 fun z hz=>by have:=Good.first g z hz;omega,U4 fun z hz=>by have:=Good.first g' z hz;omega]
def Jig(a b:Int):a<b\/b<=a:=by omega
def V1{ps:List Pr}(h:∀p∈ps,0<=p.2){x y:Int}(hxy:x<=y):below ps x<=below ps y:=by
 induction ps with
 | nil=>exact QD _
 | cons p r ih =>
  have i:=ih fun q hq=>h q (Qc _ hq)
  rw[JC,JC];exact Int.add_le_add (Xo.mpr ⟨MK _ _,XB (Xp.mpr ⟨RQ _ _,XB (Lx _ _) (by omega)⟩) (Int.le_max_right _ _)⟩) i
theorem UZ(g:Good ps):∀n:Nat,below ps (a+(n:Int))<=below ps a+(n:Int)/\((∀y,a<=y->y<a+(n:Int)->JJ ps y=true)->below ps (a+(n:Int))=below ps a+(n:Int))/\((∀y,a<=y->y<a+(n:Int)->JJ ps y=false)->below ps (a+(n:Int))=below ps a)
 | 0=>by simp
 | n+1=>by
  obtain⟨i1,i2,i3⟩:=UZ g (a:=a) n;have e:a+((n+1:Nat):Int)=a+(n:Int)+1:=by omega
  rw[e,ZR (a+(n:Int)) g];refine⟨by split <;> omega,fun h=>?_,fun h=>?_⟩
  ·rw[if_pos (h (a+(n:Int)) (by omega) (by omega)),i2 fun y h1 h2=>h y h1 (by omega)];omega
  ·rw[if_neg (by rw[h (a+(n:Int)) (by omega) (by omega)];simp),i3 fun y h1 h2=>h y h1 (by omega),MQ]
def VE(g:Good ps)(h:x<=y):below ps y<=below ps x+(y-x):=by have:=(UZ g (a:=x) (y-x).toNat).1;rw[show x+((y-x).toNat:Int)=y by omega] at this;omega
def Je6(g:Good ps)(h:x<=y)(hb:∀z,x<=z->z<y->JJ ps z=true):below ps y=below ps x+(y-x):=by
 have:=(UZ g (a:=x) (y-x).toNat).2.1 fun z h1 h2=>hb z h1 (by omega (config:={}))
 rw[show x+((y-x).toNat:Int)=y by omega (config:={})] at this;omega (config:={})
def Je5(g:Good ps)(h:x<=y)(hb:∀z,x<=z->z<y->JJ ps z=false):below ps y=below ps x:=by
 have:=(UZ g (a:=x) (y-x).toNat).2.2 fun z h1 h2=>hb z h1 (by omega (config:={}))
 rw[show x+((y-x).toNat:Int)=y by omega (config:={})] at this;omega (config:={})
noncomputable def edF(ps:List Pr):Nat->Int->List Int->List Pr
 | _,_,[]=>[]
 | i,c,s::r=>(s+2*(i:Int)-(below ps s-c),below ps s-c+1)::edF ps (i+1) (below ps s) r
noncomputable def flF(ps:List Pr):Int->List Int->List Pr
 | _,[]=>[]
 | c,s::r=>(s-(below ps s-c),below ps s-c)::flF ps (below ps s) r
theorem Jn4(ps:List Pr):∀(sp:List Int) (i:Nat) (c:Int),byR (2*(i:Int)) (edF ps i c sp)=flF ps c sp
 | [],_,_=>rfl
 | s::r,i,c=>by
  rw[edF,byR,flF];congr 1
  ·congr 1 <;> dsimp only <;> omega
  ·rw[<- Jn4 ps r (i+1) (below ps s)];congr 1
theorem Jjl(ps:List Pr):∀(sp:List Int) (i:Nat) (c:Int),(edF ps i c sp).length=sp.length
 | [],_,_=>rfl
 | s::r,i,c=>by rw[edF,Qv,Qv,Jjl ps r]
theorem JgB(g:Good ps):∀(sp:List Int) (i:Nat) (s0:Int),(s0::sp).Pairwise (·<=·)->Good (edF ps i (below ps s0) sp)
 | [],_,_,_=>Good.nil
 | s::r,i,s0,hs=>by
  obtain⟨h1,h2⟩:=QL.mp hs;have h3:=h1 s Qf;have m1:=V1 (fun p hp=>by have:=Good.all g p hp;omega) h3;rw[edF];refine Good.mk' (by dsimp only;omega) (fun q e=>?_) (JgB g r (i+1) s h2)
  cases r with
  | nil=>simp[edF] at e
  | cons s' r=>obtain⟨h4,_⟩:=QL.mp h2;have h5:=h4 s' Qf;have l1:=VE g h5;simp[edF] at e;subst e;dsimp only;omega
theorem JgD(g:Good ps):∀(sp:List Int) (s0:Int),(s0::sp).Pairwise (·<=·)->Wide 0 (flF ps (below ps s0) sp)
 | [],_,_=>⟨fun i p e=>by simp[flF] at e,fun i p q e=>by simp[flF] at e⟩
 | s::r,s0,hs=>by
  obtain⟨h1,h2⟩:=QL.mp hs;have h3:=h1 s Qf;have m1:=V1 (fun p hp=>by have:=Good.all g p hp;omega) h3;have ih:=JgD g r s h2;rw[flF];refine⟨fun i p e=>?_,fun i p q e1 e2=>?_⟩
  ·cases i with
   | zero=>simp at e;subst e;dsimp only;omega
   | succ i=>exact ih.one i p (by simpa using e)
  ·cases i with
   | zero =>
    simp at e1;subst e1
    cases r with
    | nil=>simp[flF] at e2
    | cons s' r=>obtain⟨h4,_⟩:=QL.mp h2;have h5:=h4 s' Qf;have l1:=VE g h5;simp[flF] at e2;subst e2;dsimp only;omega
   | succ i=>exact ih.gap i p q (by simpa using e1) (by simpa using e2)
theorem JjB(g:Good ps):∀(sp:List Int) (s0:Int),(s0::sp).Pairwise (·<=·)->(∀p∈ps,s0<p.1+p.2->p.1+p.2∈sp) ->
 (∀x,s0<=x->JJ (flF ps (below ps s0) sp) x=JJ ps x)/\∀x,x<s0->JJ (flF ps (below ps s0) sp) x=false
 | [],s0,_,he=>by
  refine⟨fun x hx=>?_,fun x hx=>rfl⟩
  have:JJ ps x=false:=Jcs fun p hp h1=>by
   rcases Jig s0 (p.1+p.2) with z|z
   ·cases he p hp z
   ·omega
  rw[this];rfl
 | s::r,s0,hs,he=>by
  obtain⟨h1,h2⟩:=QL.mp hs;have h3:=h1 s Qf;have hr:∀t∈r,s<=t:=(QL.mp h2).1
  have lip:=VE g h3
  obtain⟨i1,i2⟩:=JjB g r s h2 fun p hp h=>by
   rcases Qk.mp (he p hp (by omega)) with z|z
   ·omega
   ·exact z
  have run:∀y,s0<=y->y<s->JJ ps y=true->∀z,y<=z->z<s->JJ ps z=true:=fun y y1 y2 hy z z1 z2=>by
   obtain⟨p,hp,a1,a2⟩:=has_iff.mp hy
   have:s<=p.1+p.2:=by
    rcases Qk.mp (he p hp (by omega)) with w|w
    ·omega
    ·exact hr _ w
   exact has_iff.mpr ⟨p,hp,by omega,by omega⟩
  rw[flF];refine⟨fun x hx=>?_,fun x hx=>?_⟩
  ·rw[Jw];rcases Jig x s with hxs|hxs
   ·rw[i2 x hxs,MC];dsimp only
    cases hb:JJ ps x with
    | true =>
     have f1:=Je6 g (x:=x) (y:=s) (by omega) fun z z1 z2=>run x hx hxs hb z z1 z2
     have f2:=V1 (ps:=ps) (fun p hp=>by have:=Good.all g p hp;omega) hx;rw[decide_eq_true (by omega),decide_eq_true (by omega)];rfl
    | false =>
     have f1:=Je5 g (x:=s0) (y:=x+1) (by omega) fun z z1 z2=>by
      cases hz:JJ ps z with
      | false=>rfl
      | true=>have:=run z z1 (by omega) hz x (by omega) hxs;rw[hb] at this;cases this
     have f2:=VE g (x:=x+1) (y:=s) (by omega);rw[decide_eq_false (by omega)];rfl
   ·rw[i1 x hxs];dsimp only;rw[decide_eq_false (p:=x<_) (by omega),R3,G8]
  ·rw[Jw,i2 x (by omega)];dsimp only;rw[decide_eq_false (by omega)];rfl
def Jps(ps:List Pr)(sp:List Int):∃s0,(∀p∈ps,s0<p.1)/\∀s∈sp,s0<s:=by
 have h1:∃a,∀p∈ps,a<p.1:=by
  induction ps with
  | nil=>exact⟨0,fun p hp=>by cases hp⟩
  | cons p r ih =>
   obtain⟨a,ha⟩:=ih;refine⟨min a (p.1-1),fun q hq=>?_⟩;rcases Qk.mp hq with z|z
   ·subst z;omega (config:={})
   ·have:=ha q z;omega (config:={})
 have h2:∃a,∀s∈sp,a<s:=by
  induction sp with
  | nil=>exact⟨0,fun p hp=>by cases hp⟩
  | cons p r ih =>
   obtain⟨a,ha⟩:=ih;refine⟨min a (p-1),fun q hq=>?_⟩;rcases Qk.mp hq with z|z
   ·subst z;omega (config:={})
   ·have:=ha q z;omega (config:={})
 obtain⟨a,ha⟩:=h1;obtain⟨b,hb⟩:=h2;exact⟨min a b,fun p hp=>by have:=ha p hp;omega (config:={}),fun s hs=>by have:=hb s hs;omega (config:={})⟩
theorem Zw(x:Int):∀(r:List Pr) (cur:Pr),(∀p∈r,0<=p.2)->0<=cur.2->JJ (clF cur r) x=JJ (cur::r) x
 | [],cur,_,_=>rfl
 | p::r,cur,h,hc=>by
  have h0:=h p Qf
  have hr:=fun q hq=>h q (Qc p hq)
  rw[clF];split
  ·next e=>rw[Zw x r _ hr (by dsimp only;omega),Jw,Jw,Jw,<- L7];congr 1;rw[Ki];simp only[LI,QR,decide_eq_true_eq];constructor <;> intro z <;> omega
  ·split
   ·rw[Jw,Zw x r p hr h0,<- Jw]
   ·rw[Zw x r cur hr hc,Jw,Jw cur,Jw p];rw[show(decide (p.1<=x) && decide (x<p.1+p.2))=false by
     rw[LO];rcases Jig x p.1 with z|z
     ·exact .inl (decide_eq_false (by omega))
     ·exact .inr (decide_eq_false (by omega)),G8]
theorem Jb5(x:Int):∀(ps:List Pr),(∀p∈ps,0<=p.2)->JJ (clN ps) x=JJ ps x
 | [],_=>rfl
 | p::r,h=>by
  have h0:=h p Qf
  have hr:=fun q hq=>h q (Qc p hq)
  rw[clN];split
  ·exact Zw x r p hr h0
  ·rw[Jb5 x r hr,Jw p];rw[show(decide (p.1<=x) && decide (x<p.1+p.2))=false by
    rw[LO];rcases Jig x p.1 with z|z
    ·exact .inl (decide_eq_false (by omega))
    ·exact .inr (decide_eq_false (by omega)),G8]
def JqP(g:Good ps)(hs:sp.Pairwise (·<=·))(he:∀p∈ps,p.1+p.2∈sp):Good (edF ps 0 0 sp)/\thF (edF ps 0 0 sp)=ps:=by
 obtain⟨s0,l1,l2⟩:=Jps ps sp;have hb:below ps s0=0:=ZS fun p hp=>by have:=l1 p hp;omega
 have hs':(s0::sp).Pairwise (·<=·):=QL.mpr ⟨fun s h=>by have:=l2 s h;omega,hs⟩
 have ge:=JgB g sp 0 s0 hs'
 have wd:=JgD g sp s0 hs';obtain⟨f1,f2⟩:=JjB g sp s0 hs' fun p hp _=>he p hp
 rw[hb] at ge wd f1 f2;refine⟨ge,?_⟩
 have e:thF (edF ps 0 0 sp)=clN (flF ps 0 sp):=by unfold thF;rw[<- YK,<- Jn4 ps sp 0 0];rfl
 refine ZD (JB ge) g fun x=>?_
 rw[e,Jb5 x _ fun p hp=>by obtain⟨i,hi,rfl⟩:=GD.mp hp;exact wd.one i _ (by simp)]
 rcases Jig x s0 with z|z
 ·rw[f2 x z,U4 fun p hp=>by have:=l1 p hp;omega]
 ·exact f1 x z
noncomputable def Yn:List Pr->Int->List Pr
 | [],s=>[(s,1)]
 | p::r,s=>if p.1=s then(p.1,p.2+1)::r else p::Yn r s
theorem UQ(s:Int):∀a:List Pr,(Yn a s).map (·.1)=Yd (a.map (·.1)) s
 | []=>rfl
 | p::r=>by
  have ih:=UQ s r;unfold Yd UP at ih ⊢;rw[Yn,Qd,G7]
  by_cases h:p.1=s
  ·rw[if_pos h,decide_eq_true h,RF,if_pos rfl];rfl
  ·rw[if_neg h,decide_eq_false h,G8,Qd,ih];split <;> rfl
theorem JaJ:∀(ks:List Int) (vs:List Int) (s v:Int),s∉ks->setK ks vs s v=vs
 | [],_,_,_,_=>rfl
 | _::_,[],_,_,_=>rfl
 | k::ks,x::vs,s,v,h=>by rw[setK,if_neg fun e=>h (by rw[e];exact Qf),JaJ ks vs s v fun m=>h (Qc _ m)]
def hasK_mem:UP ks s=true↔s∈ks:=by
 unfold UP;rw[Lp];constructor
 ·rintro⟨k,hk,e⟩;rw[decide_eq_true_eq] at e;subst e;exact hk
 ·intro h;exact⟨s,h,decide_eq_true rfl⟩
theorem JbB(s:Int):∀a:List Pr,(a.map (·.1)).Nodup->(Yn a s).map (·.2)=putDs (a.map (·.1)) (a.map (·.2)) s ((look (a.map (·.1)) (a.map (·.2)) s).getD 0+1)
 | [],_=>rfl
 | p::r,hn=>by
  rw[Qd,Q6] at hn;have ih:=JbB s r hn.2;rw[Yn,Qd,Qd]
  by_cases h:p.1=s
  ·rw[if_pos h];unfold putDs;rw[if_pos (hasK_mem.mpr (by rw[h];exact Qf)),look,if_pos h,setK,if_pos h,JaJ _ _ _ _ (by rw[<- h];exact hn.1)];rfl
  ·rw[if_neg h,Qd,ih,look,if_neg h];unfold putDs
   have e:UP (p.1::r.map (·.1)) s=UP (r.map (·.1)) s:=by unfold UP;rw[G7,decide_eq_false h,G8]
   rw[e];split
   ·rw[setK,if_neg h]
   ·rfl
def Vq(s:Int)(h:ks.Nodup):(Yd ks s).Nodup:=by
 unfold Yd;split
 ·exact h
 ·next c =>
  rw[Mu];refine⟨h,by simp,fun a ha b hb=>?_⟩;have:b=s:=by simpa using hb
  subst this;intro e;subst e;exact c (hasK_mem.mpr ha)
noncomputable def lk(k:Int):List Pr->Int
 | []=>0
 | p::r=>if p.1=k then p.2 else lk k r
theorem JgT(k s:Int):∀a:List Pr,lk k (Yn a s)=lk k a+(if s=k then 1 else 0)
 | []=>by simp[Yn,lk]
 | p::r=>by
  rw[Yn]
  by_cases h:p.1=s
  ·rw[if_pos h,lk,lk];dsimp only
   by_cases c:p.1=k
   ·rw[if_pos c,if_pos c,if_pos (by omega)]
   ·rw[if_neg c,if_neg c,if_neg (by omega),MQ]
  ·rw[if_neg h,lk,lk,JgT k s r]
   by_cases c:p.1=k
   ·rw[if_pos c,if_pos c,if_neg (by omega),MQ]
   ·rw[if_neg c,if_neg c]
def Jfv(hn:(a.map (·.1)).Nodup)(hp:p∈a):lk p.1 a=p.2:=by
 induction a with
 | nil=>cases hp
 | cons q r ih =>
  rw[Qd,Q6] at hn;rw[lk];rcases Qk.mp hp with z|z
  ·subst z;rw[if_pos rfl]
  ·rw[if_neg fun e=>hn.1 (by rw[e];exact Qx.mpr ⟨p,z,rfl⟩)];exact ih hn.2 z
noncomputable def Y6(L:List Int):List Pr:=L.foldl Yn []
theorem Jgs:∀(L:List Int) (a:List Pr),(a.map (·.1)).Nodup->((L.foldl Yn a).map (·.1)).Nodup/\(∀k,lk k (L.foldl Yn a)=lk k a+(L.count k:Int))/\∀k,k∈(L.foldl Yn a).map (·.1)↔k∈a.map (·.1)\/k∈L
 | [],a,h=>⟨h,fun k=>by simp,fun k=>by simp⟩
 | s::L,a,h=>by
  have hk:=UQ s a
  have hn:((Yn a s).map (·.1)).Nodup:=by rw[hk];exact Vq s h
  obtain⟨i1,i2,i3⟩:=Jgs L (Yn a s) hn;refine⟨i1,fun k=>?_,fun k=>?_⟩
  ·rw[Ga,i2 k,JgT,QV]
   by_cases c:s=k
   ·rw[if_pos c,if_pos (by simpa using c)];omega
   ·rw[if_neg c,if_neg (by simpa using c)];omega
  ·rw[Ga,i3 k,hk];unfold Yd;split
   ·next c =>
    have c':=hasK_mem.mp c;constructor
    ·rintro(z|z)
     ·exact .inl z
     ·exact .inr (Qc _ z)
    ·rintro(z|z)
     ·exact .inl z
     ·rcases Qk.mp z with w|w
      ·subst w;exact .inl c'
      ·exact .inr w
   ·rw[GH,GK,Qk,or_assoc]
def Jjb(L:List Int):((Y6 L).map (·.1)).Nodup/\(∀p∈Y6 L,p.2=(L.count p.1:Int)/\p.1∈L)/\∀k∈L,(k,(L.count k:Int))∈Y6 L:=by
 obtain⟨i1,i2,i3⟩:=Jgs L [] (by simp)
 have v:∀p∈Y6 L,p.2=(L.count p.1:Int):=fun p hp=>by rw[<- Jfv i1 hp];have:=i2 p.1;rw[show lk p.1 []=0 from rfl,L1] at this;exact this
 refine⟨i1,fun p hp=>⟨v p hp,?_⟩,fun k hk=>?_⟩
 ·have:=(i3 p.1).mp (Qx.mpr ⟨p,hp,rfl⟩)
  simpa using this
 ·obtain⟨p,hp,e⟩:=Qx.mp ((i3 k).mpr (.inr hk));subst e;rw[<- v p hp];exact hp
theorem Jgt:∀(L:List Int) (a:List Pr),(a.map (·.1)++L).Nodup->L.foldl Yn a=a++L.map fun s=>(s,1)
 | [],a,_=>by simp
 | s::L,a,h=>by
  have e:Yn a s=a++[(s,1)]:=by
   have hs:s∉a.map (·.1):=fun m=>by have:=(Mu.mp h).2.2 s m s Qf;exact this rfl
   clear h
   induction a with
   | nil=>rfl
   | cons p r ih=>rw[Yn,if_neg fun z=>hs (by rw[<- z];exact Qf),ih fun m=>hs (Qc _ m)];rfl
  rw[Ga,e,Jgt L (a++[(s,1)]) (by simpa using h)];simp
def Jd2(ps:List Pr)(x:Int)(h:ps.length<=1000):YU [.sh (.row (ps.map prE)),.sh (.int x)]=some (.sh (.bl (JJ ps x))):=by
 unfold YU;walk_at "ev";rw[JP (g:=fun p=>D.bl (decide (p.1<=x) && decide (x<p.1+p.2)))]
 ·walk_at "ev";rw[JlZ (ns:=ps.map fun p=>decide (p.1<=x) && decide (x<p.1+p.2)) (by simp[Sl.q])];walk_at "ev";unfold JJ;rw[List.any_map];rfl
 ·intro p hp;simp only[prE];walk_at "ev"
  by_cases c:p.1<=x
  ·simp only[c];walk_at "ev"
  ·simp only[c];walk_at "ev";rfl
def JmB(ps:List Pr)(x:Int)(h:ps.length<=1000):Yt [.sh (.row (ps.map prE)),.sh (.int x)]=some (.sh (.int (below ps x))):=by
 unfold Yt;walk_at "ev";rw[JP (g:=fun p=>D.int (max 0 (min p.2 (x-p.1))))]
 ·walk_at "ev";rw[VG (ns:=ps.map fun p=>max 0 (min p.2 (x-p.1))) (by simp[Sl.q])];walk_at "ev";rfl
 ·intro p hp;simp only[prE];walk_at "ev"
def Wx{α β:Type}(f:Nat->α->β)(xs:List α):xs.mapIdx f=xs.zipIdx.map fun x=>f x.2 x.1:=by
 refine GJ fun i=>?_
 rw[QJ,Qq,Lj,KM];simp;rfl
def Jrp(ps:List Pr)(k:Int)(h:ps.length<=1000):J6 [.sh (.row (ps.map prE)),.sh (.int k)]=some (.own ((byF k ps).map prE)):=by
 unfold J6;walk_at "ev";rw[Ws,Wx,JP (g:=fun x:Pr×Nat=>prE (x.1.1+2*k*(x.2:Int),x.1.2+k))]
 ·rw[if_pos (by rw[Qp,List.length_zipIdx];omega (config:={}))];walk_at "ev";rw[show ps.zipIdx.map (fun x=>prE (x.1.1+2*k*(x.2:Int),x.1.2+k))=(byF k ps).map prE by unfold byF;rw[Wx,Qw];rfl]
 ·intro x hx
  have hx2:x.2<ps.length:=by have:=M7 hx;omega (config:={})
  walk_at "ev";rw[UD,Vl];walk_at "ev";rfl
def JoP(g:Good ps)(hne:ps≠[]):∃c,(ps.map (·.2)++Uy ps).min?=some c/\1<=c/\Wide c ps/\JiR c ps:=by
 cases hm:(ps.map (·.2)++Uy ps).min? with
 | none =>
  rw[RV] at hm
  cases ps with
  | nil=>exact absurd rfl hne
  | cons p r=>simp at hm
 | some c =>
  obtain⟨h1,h2⟩:=My.mp hm
  have gg:∀(ps:List Pr) (x:Int),x∈Uy ps->∃(i:Nat) (p q:Pr),ps[i]?=some p/\ps[i+1]?=some q/\q.1-(p.1+p.2)=x:=by
   intro ps
   induction ps with
   | nil=>intro x hx;cases hx
   | cons p r ih =>
    intro x hx
    cases r with
    | nil=>cases hx
    | cons q r =>
     rcases Qk.mp hx with z|z
     ·exact⟨0,p,q,rfl,rfl,z.symm⟩
     ·obtain⟨i,a,b,e1,e2,e3⟩:=ih x z;exact⟨i+1,a,b,by simpa using e1,by simpa using e2,e3⟩
  have gm:∀(ps:List Pr) (i:Nat) (p q:Pr),ps[i]?=some p->ps[i+1]?=some q->q.1-(p.1+p.2)∈Uy ps:=by
   intro ps
   induction ps with
   | nil=>intro i p q e;simp at e
   | cons a r ih =>
    intro i p q e1 e2
    cases r with
    | nil=>simp at e2
    | cons b r =>
     cases i with
     | zero=>simp at e1 e2;subst e1 e2;exact Qf
     | succ i=>exact Qc _ (ih i p q (by simpa using e1) (by simpa using e2))
  have w:Wide c ps:=⟨fun i p e=>h2 _ (LS _ (Qx.mpr ⟨p,QI e,rfl⟩)),fun i p q e1 e2=>h2 _ (GS _ (gm ps i p q e1 e2))⟩
  have t:JiR c ps:=by
   rcases GH.mp h1 with z|z
   ·obtain⟨p,hp,e⟩:=Qx.mp z;exact .inl ⟨p,hp,e⟩
   ·exact .inr (gg ps c z)
  refine⟨c,rfl,?_,w,t⟩;rcases t with ⟨p,hp,e⟩|⟨i,p,q,e1,e2,e⟩
  ·have:=Good.all g p hp;omega
  ·have:=g.gap i p q e1 e2;omega
def Jd3(ps:List Pr)(h:ps.length<=1000):JX [.sh (.row (ps.map prE))]=some (match (ps.map (·.2)++Uy ps).min? with|some c=>.sh (.int c)|none=>.sh .non):=by
 have hgl:=Jby ps;unfold JX;walk_at "ev";rw[JP (g:=fun p=>D.int p.2)]
 ·walk_at "ev";rw[Jpu _ h];walk_at "ev";rw[show ps.map (fun p=>D.int p.2)++(Uy ps).map .int=(ps.map (·.2)++Uy ps).map D.int by rw[QT,Qw];rfl];walk_at "ev";cases (ps.map (·.2)++Uy ps).min? <;> rfl
 ·intro p hp;simp only[prE];walk_at "ev"
noncomputable def U1(acc:List Pr)(p:Pr):List Pr:=match acc[acc.length-1]? with
 | some q=>if q.1+q.2=p.1 then acc.dropLast++[(q.1,q.2+p.2)] else if 0<p.2 then acc++[p] else acc
 | none=>if 0<p.2 then acc++[p] else acc
theorem Wq:∀(r acc:List Pr) (cur:Pr),r.foldl U1 (acc++[cur])=acc++clF cur r
 | [],acc,cur=>rfl
 | p::r,acc,cur=>by
  have e:(acc++[cur])[(acc++[cur]).length-1]?=some cur:=by simp
  have es:U1 (acc++[cur]) p=if cur.1+cur.2=p.1 then acc++[(cur.1,cur.2+p.2)] else if 0<p.2 then acc++[cur]++[p] else acc++[cur]:=by unfold U1;rw[e];dsimp only;rw[List.dropLast_concat]
  rw[Ga,clF,es];split
  ·exact Wq r acc _
  ·split
   ·rw[Wq r (acc++[cur]) p,Kc];rfl
   ·exact Wq r acc cur
theorem Jbo:∀ps:List Pr,ps.foldl U1 []=clN ps
 | []=>rfl
 | p::r=>by
  rw[Ga,clN];show r.foldl U1 (if 0<p.2 then []++[p] else [])=_;split
  ·exact Wq r [] p
  ·exact Jbo r
def JjZ(ps:List Pr)(h:ps.length<=1000):Yx [.sh (.lst (ps.map prE))]=some (.own ((clN ps).map prE)):=by
 unfold Yx;walk_at "ev";rw[Kz];refine YN (fun(rest:List Pr) (acc:List Pr) E=>∃j2 j3 j4,E=[.sh (.lst (ps.map prE)),.own (acc.map prE),j2,j3,j4]/\acc.length+rest.length<=1000) U1 [] ⟨.no,.no,.no,rfl,by simpa using h⟩ ?_ ?_
 ·rintro p rest acc E ⟨j2,j3,j4,rfl,hz⟩;rw[Qv] at hz;simp only[prE];walk_at "ev"
  cases he:acc[acc.length-1]? with
  | none =>
   have hn:acc=[]:=by
    cases acc with
    | nil=>rfl
    | cons a acc=>simp at he
   subst hn;rw[show(!(([]:List Pr).map prE).isEmpty)=false from rfl];walk_at "ev";have es:U1 [] p=if 0<p.2 then [p] else []:=rfl
   rw[es]
   by_cases c:0<p.2
   ·rw[decide_eq_true c,if_pos c];walk_at "ev";exact⟨.sh (.int p.1),.sh (.int p.2),j4,rfl,by simp at hz ⊢;omega⟩
   ·rw[decide_eq_false c,if_neg c];walk_at "ev";exact⟨.sh (.int p.1),.sh (.int p.2),j4,rfl,by simp at hz ⊢;omega⟩
  | some q =>
   have hl0:acc.length-1<acc.length:=(Qo.mp he).1
   have hne:(!(acc.map prE).isEmpty)=true:=by cases acc with|nil=>simp at he|cons _ _=>rfl
   have hgq:(acc.map prE)[acc.length-1]?=some (prE q):=by rw[Qq,he];rfl
   have es:U1 acc p=if q.1+q.2=p.1 then acc.dropLast++[(q.1,q.2+p.2)] else if 0<p.2 then acc++[p] else acc:=by unfold U1;rw[he]
   have hdl:acc.dropLast.length=acc.length-1:=R4;rw[hne,JbX,JiW he,es];walk_at "ev";rw[VG (s:=.sh (prE q)) (ns:=[q.1,q.2]) rfl];walk_at "ev";rw[show([q.1,q.2]:List Int).sum=q.1+q.2 by simp]
   by_cases c:q.1+q.2=p.1
   ·rw[decide_eq_true c,if_pos c,hgq];walk_at "ev";rw[<- List.map_dropLast];walk_at "ev";rw[UD,Vl];walk_at "ev";refine⟨.sh (.int p.1),.sh (.int p.2),.sh (prE q),?_,by rw[QA,Gq];omega⟩;rw[QT];rfl
   ·rw[decide_eq_false c,if_neg c];walk_at "ev"
    by_cases c2:0<p.2
    ·rw[decide_eq_true c2,if_pos c2];walk_at "ev";refine⟨.sh (.int p.1),.sh (.int p.2),j4,?_,by rw[QA,Gq];omega⟩;rw[QT];rfl
    ·rw[decide_eq_false c2,if_neg c2];walk_at "ev";exact⟨.sh (.int p.1),.sh (.int p.2),j4,rfl,by omega⟩
 ·rintro E' ⟨j2,j3,j4,rfl,_⟩;rw[Jbo];walk_at "ev"
noncomputable abbrev wC:En->Option Bool:=(tAnd? (tB? (e2 fGt (Jb 3) (eC (.int 0)))) (tTru? (e1 Uv (Jb 2))))
noncomputable abbrev wB:Es:=(Jo (Js 4 (eF Jfh (aC (Jb 3) (aC (eU 1 JX (aC (Jb 2) a0)) a0)))) (Jo (Js 2 (eF Zs (aC (eU 1 Yx (aC (eU 2 J6 (aC (Jb 2) (aC (e1 JhZ (Jb 4)) a0))) a0)) a0))) (Jga (fun i j=>i-j) 3 (Jb 4))))
def Wh(x y:Sl)(left:List Pr)(n:Nat)(j4:Sl)(fuel:Nat)(h:n=0\/left=[]) :
 ((YC wC wB (fuel+1) [x,y,.sh (.row (left.map prE)),.sh (.int (n:Int)),j4]).bind (Jey (UC 2))).bind Jch=some (.sh (.row ((thN n left).map prE))):=by
 have e:thN n left=left:=by
  rcases h with rfl|rfl
  ·rfl
  ·exact Jc7 n
 rw[e,YC]
 have hc:wC [x,y,.sh (.row (left.map prE)),.sh (.int (n:Int)),j4]=some false:=by
  show tAnd? _ _ _=_;walk_at "ev";rcases h with rfl | rfl
  ·rw[show decide ((0:Int)<((0:Nat):Int))=false from rfl];walk_at "ev"
  ·by_cases c:(0:Int)<(n:Int)
   ·rw[decide_eq_true c];walk_at "ev";rfl
   ·rw[decide_eq_false c];walk_at "ev"
 rw[hc];walk_at "ev"
def Jll(x y:Sl):∀(m fuel:Nat) (left:List Pr) (n:Nat) (j4:Sl),Good left->left.length<=m->left.length<=30->m<fuel ->
 ((YC wC wB fuel [x,y,.sh (.row (left.map prE)),.sh (.int (n:Int)),j4]).bind (Jey (UC 2))).bind Jch=some (.sh (.row ((thN n left).map prE))):=by
 intro m
 induction m with
 | zero =>
  intro fuel left n j4 g hm _ hf;obtain⟨f,rfl⟩:∃f,fuel=f+1:=⟨fuel-1,by omega⟩
  exact Wh x y left n j4 f (.inr (QN (by omega)))
 | succ m ih =>
  intro fuel left n j4 g hm h30 hf;obtain⟨f,rfl⟩:∃f,fuel=f+1:=⟨fuel-1,by omega⟩
  by_cases h0:n=0\/left=[]
  ·exact Wh x y left n j4 f h0
  ·have hn:n≠0:=fun z=>h0 (.inl z)
   have hl:left≠[]:=fun z=>h0 (.inr z)
   obtain⟨c,hc,c1,w,t⟩:=JoP g hl;obtain⟨a,ha⟩:∃a:Nat,(a:Int)=min (n:Int) c:=⟨(min (n:Int) c).toNat,by omega⟩
   have hcl:=Jd3 left (by omega);rw[hc] at hcl
   have et:thN a left=clN (byF (-(a:Int)) left):=JaO a w c1 (by omega)
   have gt:Good (thN a left):=Ut a g
   have lt:=(U0 (byF (-(a:Int)) left)).1;rw[Ug,<- et] at lt
   have hcond:wC [x,y,.sh (.row (left.map prE)),.sh (.int (n:Int)),j4]=some true:=by
    show tAnd? _ _ _=_;walk_at "ev";rw[decide_eq_true (show(0:Int)<(n:Int) by omega)];walk_at "ev"
    cases left with
    | nil=>exact absurd rfl hl
    | cons _ _=>rfl
   have hbody:wB [x,y,.sh (.row (left.map prE)),.sh (.int (n:Int)),j4]=some (.nx [x,y,.sh (.row ((thN a left).map prE)),.sh (.int ((n-a:Nat):Int)),.sh (.int (a:Int))]):=by show Jo _ _ _=_;walk_at "ev";rw[hcl];walk_at "ev";rw[<- ha,Jrp _ _ (by omega)];walk_at "ev";rw[JjZ _ (by rw[Ug];omega),<- et];walk_at "ev";rw[VF rfl gt (by omega)];walk_at "ev";rw[show(n:Int)-(a:Int)=((n-a:Nat):Int) by omega]
   have fin:thN n left=thN (n-a) (thN a left):=by rw[<- ZL];congr 1;omega
   rw[YC,hcond,QZ,if_pos rfl,hbody,QZ,fin];dsimp only
   by_cases hac:(a:Int)=c
   ·have fw:=JaQ t;rw[<- hac,<- et] at fw;exact ih f _ _ _ gt (by omega) (by omega) (by omega)
   ·obtain⟨f',rfl⟩:∃f',f=f'+1:=⟨f-1,by omega⟩
    exact Wh x y _ _ _ f' (.inl (by omega))
def W2(ps:List Pr)(n:Nat)(g:Good ps)(h30:ps.length<=30):J9 [.sh (.row (ps.map prE)),.sh (.int (n:Int))]=some (.sh (.row ((thN n ps).map prE))):=by unfold J9;rw[show ∀(k:Nat) (s:Es) (ss:List Sl),Yj k s ss=Yj k s ss from fun _ _ _=>rfl];have hw:=Jll (.sh (.row (ps.map prE))) (.sh (.int (n:Int))) 30 1000000 ps n .no g h30 h30 (by decide);walk_at "ev";rw[VF rfl g h30];walk_at "ev";exact hw
noncomputable abbrev Tr:=Int×Int×Int
noncomputable def trE(t:Tr):D:=.tup [.int t.1,.int t.2.1,.int t.2.2]
noncomputable def owF(left:List Pr)(s:Int):Int:=if JJ left (s-1)=true/\JJ left s=false then 1 else 0
def Jpv(ps:List Pr)(s:Int)(h:ps.length<=1000):Ui [.sh (.row (ps.map prE)),.sh (.int s)]=some (.sh (.int (owF ps s))):=by
 unfold Ui owF;walk_at "ev";rw[Jd2 _ _ h];walk_at "ev"
 cases h1:JJ ps (s-1) with
 | false=>walk_at "ev";rw[if_neg (by simp)]
 | true =>
  walk_at "ev";rw[Jd2 _ _ h];walk_at "ev"
  cases h2:JJ ps s with
  | false=>walk_at "ev";rw[if_pos (by simp)]
  | true=>walk_at "ev";rw[if_neg (by simp)]
theorem Jd0{α β:Type}(f:α->β):∀(ks:List Int) (vs:List α) (n:Int),look ks (vs.map f) n=(look ks vs n).map f
 | [],_,_=>rfl
 | _::_,[],_=>rfl
 | k::ks,v::vs,n=>by
  rw[Qd];simp only[look];split
  ·rfl
  ·exact Jd0 f ks vs n
theorem JeB{α β:Type}(f:α->β):∀(ks:List Int) (vs:List α) (n:Int) (v:α),setK ks (vs.map f) n (f v)=(setK ks vs n v).map f
 | [],_,_,_=>rfl
 | _::_,[],_,_=>rfl
 | k::ks,x::vs,n,v=>by rw[Qd];simp only[setK,Qd];rw[JeB f ks vs n v];split <;> rfl
def JbN{α β:Type}(f:α->β)(ks:List Int)(vs:List α)(n:Int)(v:α):putDs ks (vs.map f) n (f v)=(putDs ks vs n v).map f:=by
 unfold putDs;split
 ·exact JeB f ks vs n v
 ·rw[QT];rfl
def JdZ(ks:List Int)(vs:List Int)(n z:Int):(look ks (vs.map D.int) n).getD (.int z)=.int ((look ks vs n).getD z):=by rw[Jd0];cases look ks vs n <;> rfl
def JdO(a:List Pr)(s:Int):(Yn a s).length<=a.length+1:=by
 induction a with
 | nil=>simp[Yn]
 | cons p r ih =>
  rw[Yn];split
  ·simp
  ·simp only[Qv];omega
def JjP(a:List Pr):JdV (a.map (·.1)) ((a.map (·.2)).map D.int)=a.map prE:=by
 unfold JdV
 induction a with
 | nil=>rfl
 | cons p r ih=>simp only[Qd,List.zipWith_cons_cons,ih];rfl
noncomputable def spF(qs:List Pr):List Int:=qs.zipIdx.map fun x=>x.1.1+x.1.2-1-2*(x.2:Int)
noncomputable def JM(qs:List Pr):List Tr:=(Y6 (spF qs)).map fun p=>(p.1,p.2,owF (thF qs) p.1)
def Jca(L:List Int):∀a:List Pr,(L.foldl Yn a).length<=a.length+L.length:=by
 induction L with
 | nil=>intro a;simp
 | cons s L ih=>intro a;have h1:=ih (Yn a s);have h2:=JdO a s;rw[Ga,Qv];omega
def Jj3(qs:List Pr)(g:Good qs)(h30:qs.length<=30):Uc [.sh (.row (qs.map prE))]=some (.own ((JM qs).map trE)):=by
 have h1:=W2 qs 1 g h30;rw[show((1:Nat):Int)=1 from rfl,show thN 1 qs=thF qs from rfl] at h1
 have hl:=(U0 (byF (-1) qs)).1;rw[Ug,show clN (byF (-1) qs)=thF qs from rfl] at hl;unfold Uc;walk_at "ev";rw[h1];walk_at "ev";rw[Ws,Wx,Kz];refine YN (f:=fun x:Pr×Nat=>D.tup [.int (x.2:Int),prE x.1]) (fun(rest:List (Pr×Nat)) (a:List Pr) E=>∃j3 j4 j5,E=[.sh (.row (qs.map prE)),.sh (.row ((thF qs).map prE)),.od (a.map (·.1)) ((a.map (·.2)).map .int),j3,j4,j5]/\(a.map (·.1)).Nodup/\a.length+rest.length<=30)
  (fun a x=>Yn a (x.1.1+x.1.2-1-2*(x.2:Int))) [] ⟨.no,.no,.no,rfl,by simp,by simpa using h30⟩ ?_ ?_
 ·rintro x rest a E ⟨j3,j4,j5,rfl,hn,hz⟩;rw[Qv] at hz;have hil:=JdO a (x.1.1+x.1.2-1-2*(x.2:Int));walk_at "ev";rw[VG (s:=.sh (prE x.1)) (ns:=[x.1.1,x.1.2]) rfl];walk_at "ev";rw[show([x.1.1,x.1.2]:List Int).sum=x.1.1+x.1.2 by simp];rw[JdZ];walk_at "ev";rw[JbN,<- UQ,<- JbB _ _ hn];refine⟨.sh (.int (x.2:Int)),.sh (prE x.1),_,rfl,?_,by omega⟩;rw[UQ];exact Vq _ hn
 ·rintro E' ⟨j3,j4,j5,rfl,hn,_⟩
  have ef:qs.zipIdx.foldl (fun a x=>Yn a (x.1.1+x.1.2-1-2*(x.2:Int))) []=Y6 (spF qs):=by unfold Y6 spF;rw[List.foldl_map]
  have hcl:=Jca (spF qs) []
  have hsl:(spF qs).length=qs.length:=by unfold spF;simp
  rw[ef];walk_at "ev";rw[JjP,JP (g:=fun p=>trE (p.1,p.2,owF (thF qs) p.1))]
  ·rw[if_pos (by rw[Qp];show(Y6 (spF qs)).length<=_;unfold Y6;simp at hcl;omega)];walk_at "ev";unfold JM;rw[Qw];rfl
  ·intro p hp;simp only[prE];walk_at "ev";rw[Jpv _ _ (by omega)];walk_at "ev";rfl
def JmD(ps:List Pr)(sp:List Int)(hp:ps.length<=1000)(hs:sp.length<=1000):YZ [.sh (.row (ps.map prE)),.sh (.lst (sp.map .int))]=some (.own ((edF ps 0 0 sp).map prE)):=by
 unfold YZ;walk_at "ev";rw[Ws,Wx,Kz];refine YN (f:=fun x:Int×Nat=>D.tup [.int (x.2:Int),.int x.1]) (fun(rest:List (Int×Nat)) (s:List Pr×Int) E=>∃j4 j5 j6 j7,E=[.sh (.row (ps.map prE)),.sh (.lst (sp.map .int)),.own (s.1.map prE),.sh (.int s.2),j4,j5,j6,j7]/\s.1.length+rest.length<=1000)
  (fun s x=>(s.1++[(x.1+2*(x.2:Int)-(below ps x.1-s.2),below ps x.1-s.2+1)],below ps x.1)) ([],0) ⟨.no,.no,.no,.no,rfl,by simpa using hs⟩ ?_ ?_
 ·rintro x rest ⟨acc,c⟩ E ⟨j4,j5,j6,j7,rfl,hz⟩;rw[Qv] at hz;dsimp only at hz ⊢;walk_at "ev";rw[JmB _ _ hp];walk_at "ev";refine⟨.sh (.int (x.2:Int)),.sh (.int x.1),.sh (.int (below ps x.1)),.sh (.int (below ps x.1-c)),?_,by rw[QA,Gq];omega (config:={})⟩;rw[QT];rfl
 ·rintro E' ⟨j4,j5,j6,j7,rfl,_⟩
  have ef:∀(sp:List Int) (i:Nat) (acc:List Pr) (c:Int),((sp.zipIdx i).foldl (fun(s:List Pr×Int) x=>(s.1++[(x.1+2*(x.2:Int)-(below ps x.1-s.2),below ps x.1-s.2+1)],below ps x.1)) (acc,c)).1=acc++edF ps i c sp:=by
   intro sp
   induction sp with
   | nil=>intro i acc c;simp[edF]
   | cons s r ih=>intro i acc c;rw[K2,Ga,ih,edF,Kc];rfl
  rw[ef,Lb];walk_at "ev"
def JmH(ps:List Pr)(n:Nat)(g:Good ps)(h:ps.length<=30):Yz [.sh (.row (ps.map prE)),.sh (.int (n:Int))]=some (.sh (.row ((byF (n:Int) ps).map prE))):=by unfold Yz;walk_at "ev";rw[Jrp _ _ (by omega)];walk_at "ev";rw[VF rfl (((Yl g).bys (k:=(n:Int))).good (by omega)) (by rw[Ug];exact h)];walk_at "ev"
noncomputable def Jk(ps:List Pr):List Int:=ps.map fun p=>p.1+p.2
noncomputable def J1(prs:List Pr):List Int:=prs.flatMap fun p=>QC p.2.toNat p.1
def Jrs(ps prs:List Pr)(g:Good ps)(hn:∀p∈prs,0<=p.2)(h:(ps.length:Int)+(prs.map (·.2)).sum<=30)(hp:ps.length<=30)(hq:prs.length<=30) :
 Ub [.sh (.row (ps.map prE)),.sh (.lst (prs.map prE))]=some (.sh (.row ((edF ps 0 0 (JV (Jk ps++J1 prs))).map prE))):=by
 have ml:∀(prs:List Pr),(∀p∈prs,0<=p.2)->((J1 prs).length:Int)=(prs.map (·.2)).sum:=by
  intro prs
  induction prs with
  | nil=>intro _;rfl
  | cons p r ih =>
   intro hn;have h1:=ih fun q hq=>hn q (Qc _ hq)
   have h2:=hn p Qf;unfold J1 at *;rw[GB,QA,GU,Qd,QE];omega
 have hml:=ml prs hn
 have hsl:(JV (Jk ps++J1 prs)).length=ps.length+(J1 prs).length:=by rw[(JI _).length_eq,QA];unfold Jk;rw[Qp]
 have ge:=(JqP g (Up (Jk ps++J1 prs)) fun p hp=>(JI _).mem_iff.mpr (LS _ (Qx.mpr ⟨p,hp,rfl⟩))).1
 have el:=Jjl ps (JV (Jk ps++J1 prs)) 0 0;unfold Ub;walk_at "ev";rw[JP (g:=fun p=>D.int p.2)]
 ·walk_at "ev";rw[VG (ns:=prs.map (·.2)) (by simp[Sl.q])];walk_at "ev";rw[decide_eq_false (by omega)];walk_at "ev";rw[JP (g:=fun p=>D.int (p.1+p.2))]
  ·walk_at "ev";rw[show ps.map (fun p=>D.int (p.1+p.2))=(Jk ps).map D.int by unfold Jk;rw[Qw];rfl,Kz];refine YN (fun(rest:List Pr) (L:List Int) E=>∃j3 j4,E=[.sh (.row (ps.map prE)),.sh (.lst (prs.map prE)),.own (L.map .int),j3,j4]/\(L.length:Int)+(rest.map (·.2)).sum<=30/\∀p∈rest,0<=p.2) (fun L p=>L++QC p.2.toNat p.1) (Jk ps) ⟨.no,.no,rfl,by unfold Jk;rw[Qp];exact h,hn⟩ ?_ ?_
   ·rintro p rest L E ⟨j3,j4,rfl,hz,hr⟩;have h2:=hr p Qf
    have hs:0<=(rest.map (·.2)).sum:=by
     have:=ml rest fun q hq=>hr q (Qc _ hq)
     omega
    rw[Qd,QE] at hz;simp only[prE];walk_at "ev";rw[JdG (d:=D.int p.1) rfl (Jfp ⟨by omega,by omega⟩) (by omega)];walk_at "ev";rw[GU,if_pos (by omega)];refine⟨.sh (.int p.1),.sh (.int p.2),?_,by rw[QA,GU];omega,fun q hq=>hr q (Qc _ hq)⟩;rw[QT,KJ]
   ·rintro E' ⟨j3,j4,rfl,_,_⟩
    have ef:∀(prs:List Pr) (L:List Int),prs.foldl (fun L p=>L++QC p.2.toNat p.1) L=L++J1 prs:=by
     intro prs
     induction prs with
     | nil=>intro L;simp[J1]
     | cons p r ih=>intro L;rw[Ga,ih];unfold J1;rw[GB,Kc]
    rw[ef];have hlt:(Jk ps++J1 prs).length<64:=by rw[QA];unfold Jk;rw[Qp];omega
    walk_at "ev";rw[JmD _ _ (by omega) (by omega)];walk_at "ev";rw[VF rfl ge (by omega)];walk_at "ev"
  ·intro p hp;simp only[prE];walk_at "ev"
 ·intro p hp;simp only[prE];walk_at "ev"
def JcM(g:Good qs)(s:Int):owF qs s=if s∈Jk qs then 1 else 0:=by
 unfold owF
 by_cases c:s∈Jk qs
 ·rw[if_pos c];obtain⟨p,hp,rfl⟩:=Qx.mp c;have h1:=Good.all g p hp;rw[if_pos];refine⟨has_iff.mpr ⟨p,hp,by omega,by omega⟩,?_⟩
  cases h:JJ qs (p.1+p.2) with
  | false=>rfl
  | true =>
   obtain⟨q,hq,a1,a2⟩:=has_iff.mp h;have pw:=Good.pw g;obtain⟨i,hi,rfl⟩:=GD.mp hp;obtain⟨j,hj,rfl⟩:=GD.mp hq;rcases Mt i j with z|z|z
   ·have:=G2.mp pw i j hi hj z;omega
   ·subst z;omega
   ·have:=G2.mp pw j i hj hi z;omega
 ·rw[if_neg c,if_neg];rintro⟨h1,h2⟩;obtain⟨p,hp,a1,a2⟩:=has_iff.mp h1;refine c (Qx.mpr ⟨p,hp,?_⟩);rcases Jig s (p.1+p.2) with z|z
  ·rw[has_iff.mpr ⟨p,hp,by omega,z⟩] at h2;cases h2
  ·omega
def JlQ(g:Good ps):(Jk ps).Pairwise (·<·):=by
 unfold Jk;rw[KA];refine(Good.pw g).imp_of_mem fun {a b} _ hb h=>?_
 have:=Good.all g b hb;omega
def Jci(g:Good ps):(Jk ps).Nodup:=(JlQ g).imp fun {a b} h=>by omega
def JeJ(k:Int)(ps:List Pr):spF (byF (k+1) ps)=Jk (byF k ps):=by
 unfold spF Jk;refine GJ fun i=>?_
 rw[Qq,Qq,Lj];unfold byF;rw[QJ,QJ]
 cases ps[i]? with
 | none=>rfl
 | some p =>
  simp only[Ld];congr 1;have e:2*(k+1)*(i:Int)=2*k*(i:Int)+2*(i:Int):=by rw[LY,K0];simp
  simp only[XA];rw[e];omega
def JiG(g:Good ps)(n:Nat):JM (byF ((n:Int)+1) ps)=(byF (n:Int) ps).map fun p=>(p.1+p.2,1,1):=by
 have gw:=Yl g
 have gn:Good (byF (n:Int) ps):=(gw.bys (k:=(n:Int))).good (by omega)
 have et:thF (byF ((n:Int)+1) ps)=byF (n:Int) ps:=by have:=JaP (n:=1) (gw.bys (k:=(n:Int)+1)) (by omega) (by omega);rw[show thF (byF ((n:Int)+1) ps)=thN 1 (byF ((n:Int)+1) ps) from rfl,this,Jgn];congr 1;omega
 unfold JM Y6;rw[et,JeJ,Jgt (Jk (byF (n:Int) ps)) [] (by simpa using Jci gn),Lb,Qw];unfold Jk;rw[Qw];refine QG fun p hp=>?_
 simp only[Xj];rw[JcM gn,if_pos (show p.1+p.2∈Jk (byF (n:Int) ps) from Qx.mpr ⟨p,hp,rfl⟩)]
theorem Jbr:∀{l:List Int} {k:Int},l.Nodup->k∈l->l.count k=1
 | [],_,_,h=>by cases h
 | a::l,k,hn,h=>by
  rw[Q6] at hn;rw[QV]
  by_cases c:a=k
  ·subst c;rw[Me.mpr hn.1];simp
  ·have hm:k∈l:=(Qk.mp h).resolve_left fun z=>c z.symm
   rw[Jbr hn.2 hm];simp[c]
theorem Jae(d:Int):∀(a:List Pr) (s:Int),Yn (a.map fun p=>(p.1-d,p.2)) (s-d)=(Yn a s).map fun p=>(p.1-d,p.2)
 | [],s=>rfl
 | p::r,s=>by
  rw[Qd,Yn,Yn];dsimp only
  by_cases h:p.1=s
  ·rw[if_pos h,if_pos (by omega)];rfl
  ·rw[if_neg h,if_neg (by omega),Jae d r s];rfl
theorem Jbp(d:Int):∀(L:List Int) (a:List Pr),(L.map (·-d)).foldl Yn (a.map fun p=>(p.1-d,p.2))=(L.foldl Yn a).map fun p=>(p.1-d,p.2)
 | [],a=>rfl
 | s::L,a=>by rw[Qd,Ga,Ga,Jae,Jbp d L]
theorem Jjd:∀(L:List Int) (a:List Pr),(a.map (·.1)).Pairwise (·<·)->(∀k∈a.map (·.1),∀s∈L,k<=s)->L.Pairwise (·<=·)->((L.foldl Yn a).map (·.1)).Pairwise (·<·)
 | [],a,h,_,_=>h
 | s::L,a,h,hk,hL=>by
  obtain⟨l1,l2⟩:=QL.mp hL;rw[Ga];have e:(Yn a s).map (·.1)=Yd (a.map (·.1)) s:=UQ s a;refine Jjd L (Yn a s) ?_ (fun k hk' t ht=>?_) l2
  ·rw[e];unfold Yd;split
   ·exact h
   ·next c =>
    rw[Kw];refine⟨h,by simp,fun k hk' t ht=>?_⟩;have ht':t=s:=by simpa using ht
    subst ht';have h1:=hk k hk' t Qf;have h2:k≠t:=fun z=>c (hasK_mem.mpr (by rw[<- z];exact hk'))
    omega
  ·rw[e] at hk';unfold Yd at hk';split at hk'
   ·exact hk k hk' t (Qc _ ht)
   ·rcases GH.mp hk' with z|z
    ·exact hk k z t (Qc _ ht)
    ·have z':k=s:=by simpa using z
     subst z';exact l1 t ht
theorem JkY:∀{ps:List Pr} (i:Nat),Good ps->((ps.zipIdx i).map fun x=>x.1.1+x.1.2-1-2*(x.2:Int)).Pairwise (·<=·)
 | [],_,_=>.nil
 | [p],i,_=>by simp
 | p::q::r,i,g=>by
  have ih:=JkY (i+1) (Good.cons' g)
  have h1:=g.gap 0 p q rfl rfl
  have h2:=g.one 1 q rfl;rw[K2,Qd];refine QL.mpr ⟨fun t ht=>?_,ih⟩;rw[K2,Qd] at ih ht
  have hq:p.1+p.2-1-2*(i:Int)<=q.1+q.2-1-2*((i+1:Nat):Int):=by omega
  rcases Qk.mp ht with z|z
  ·subst z;exact hq
  ·have:=(QL.mp ih).1 t z;dsimp only at this ⊢;omega
noncomputable def Jt(k:Int)(qs:List Pr):List Tr:=((JM qs).filter fun t=>decide (t.2.1>t.2.2)).map fun t=>(k,t.1,t.2.1-t.2.2)
noncomputable def tbN:Nat->Int->List Pr->List Tr
 | 0,_,_=>[]
 | n+1,k,qs=>Jt (k+1) qs++tbN n (k+1) (thF qs)
theorem Wg:∀(n:Nat) (k:Int),tbN n k []=[]
 | 0,_=>rfl
 | n+1,k=>by rw[tbN,show thF []=[] from rfl,Wg n (k+1)];rfl
theorem Jk8:∀(n m:Nat) (k:Int) (qs:List Pr),thN n qs=[]->tbN (n+m) k qs=tbN n k qs
 | 0,m,k,qs,h=>by have:qs=[]:=h;subst this;rw[Wg,Wg]
 | n+1,m,k,qs,h=>by rw[show n+1+m=(n+m)+1 by omega,tbN,tbN,Jk8 n m (k+1) (thF qs) h]
def Jc6(qs:List Pr):(thF qs).length<=qs.length:=by have:=(U0 (byF (-1) qs)).1;rw[Ug] at this;exact this
def JnS(g:Good qs)(h:(thF qs).length=qs.length):Good (byF (-1) qs):=by obtain⟨_,h2⟩:=U0 (byF (-1) qs);obtain⟨a1,a2⟩:=h2 (by rw[Ug];exact h);have w:=(Yl g).bys (k:=-1);refine⟨fun i p e=>by have:=a1 p (QI e);omega,fun i p q e1 e2=>?_⟩;have:=a2 i p q e1 e2;have:=w.gap i p q e1 e2;omega
def JdX(g:Good (byF (-1) qs))(k:Int):Jt k qs=[]:=by
 have e:qs=byF (((0:Nat):Int)+1) (byF (-1) qs):=by rw[Jgn,show((0:Nat):Int)+1+-1=0 by omega,Wo]
 unfold Jt;rw[e,JiG g 0,List.filter_map,Qw,RL.mpr]
 ·rfl
 ·intro p hp;simp
def JbJ(g:Good qs)(h:Jt k qs≠[]):(thF qs).length<qs.length:=by
 rcases Lh (thF qs).length qs.length with z|z
 ·exact z
 ·exact absurd (JdX (JnS g (Nat.le_antisymm (Jc6 qs) z)) k) h
def JfZ(qs:List Pr):(spF qs).length=qs.length:=by unfold spF;simp
def JgU(k:Int)(qs:List Pr):(Jt k qs).length<=qs.length:=by
 unfold Jt JM;rw[Qp];refine Gm (RW _ _) ?_;rw[Qp];have:=Jca (spF qs) [];rw[JfZ] at this;unfold Y6
 simpa using this
theorem Jlb:∀(n:Nat) (k:Int) (qs:List Pr),Good qs->qs.length<=30->(tbN n k qs).length<=30*qs.length
 | 0,_,_,_,_=>by simp[tbN]
 | n+1,k,qs,g,h=>by
  have l1:=JgU (k+1) qs
  have l2:=Jc6 qs
  have ih:=Jlb n (k+1) (thF qs) (JB g) (by omega);rw[tbN,QA]
  by_cases c:Jt (k+1) qs=[]
  ·rw[c,KB];omega
  ·have:=JbJ g c;omega
def JnO(w:Wide c qs)(c1:1<=c):∀(j m:Nat) (k:Int),((j:Int)<c)->tbN (j+m) k qs=tbN m (k+(j:Int)) (thN j qs):=by
 intro j
 induction j generalizing c qs with
 | zero=>intro m k _;rw[XA];simp[thN]
 | succ j ih=>intro m k hj;have w1:Wide (c+-1) (byF (-1) qs):=w.bys;have g1:Good (byF (-1) qs):=w1.good (by omega);have e:thF qs=byF (-1) qs:=Jb6 g1;rw[show j+1+m=(j+m)+1 by omega,tbN,JdX g1,Lb,e,ih w1 (by omega) m (k+1) (by omega)];show _=tbN m (k+((j+1:Nat):Int)) (thN j (thF qs));rw[e];congr 1;omega
def JqO(w:Wide c qs)(c1:1<=c)(hne:qs≠[])(j:Nat)(hj:(j:Int)<c):thN j qs≠[]:=by rw[JaP w c1 hj];intro z;have:=Ug (-(j:Int)) qs;rw[z] at this;exact hne (QN this.symm)
def Jf4:∀{a b:Nat} {qs:List Pr},a<=b->thN a qs=[]->thN b qs=[]:=fun {a b qs} h e=>by rw[show b=a+(b-a) by omega,ZL,e,Jc7]
def JeQ(w:Wide c qs)(c1:1<=c)(hne:qs≠[])(hN:thN N qs=[])(k:Int):∃C:Nat,(C:Int)=c/\C<=N/\tbN N k qs=Jt (k+c) (thN (C-1) qs)++tbN (N-C) (k+c) (thN C qs)/\thN (N-C) (thN C qs)=[]:=by
 obtain⟨C,hC⟩:∃C:Nat,(C:Int)=c:=⟨c.toNat,by omega⟩
 have hCN:C<=N:=by
  rcases Lh N C with z|z
  ·exact absurd hN (JqO w c1 hne N (by omega))
  ·exact z
 refine⟨C,hC,hCN,?_,by rw[<- ZL,show C+(N-C)=N by omega];exact hN⟩;have e:=JnO w c1 (C-1) (N-C+1) k (by omega);rw[show C-1+(N-C+1)=N by omega] at e;rw[e,tbN,<- Zf,show C-1+1=C by omega,show k+((C-1:Nat):Int)+1=k+c by omega]
noncomputable def Y5:List Pr->Int->Int->List Pr
 | [],s,v=>[(s,v)]
 | p::r,s,v=>if p.1=s then(p.1,p.2+v)::r else p::Y5 r s v
theorem VC(s v:Int):∀a:List Pr,(Y5 a s v).map (·.1)=Yd (a.map (·.1)) s
 | []=>rfl
 | p::r=>by
  have ih:=VC s v r;unfold Yd UP at ih ⊢;rw[Y5,Qd,G7]
  by_cases h:p.1=s
  ·rw[if_pos h,decide_eq_true h,RF,if_pos rfl];rfl
  ·rw[if_neg h,decide_eq_false h,G8,Qd,ih];split <;> rfl
theorem Jba(s v:Int):∀a:List Pr,(a.map (·.1)).Nodup->(Y5 a s v).map (·.2)=putDs (a.map (·.1)) (a.map (·.2)) s ((look (a.map (·.1)) (a.map (·.2)) s).getD 0+v)
 | [],_=>by show [v]=[0+v];simp
 | p::r,hn=>by
  rw[Qd,Q6] at hn;have ih:=Jba s v r hn.2;rw[Y5,Qd,Qd]
  by_cases h:p.1=s
  ·rw[if_pos h];unfold putDs;rw[if_pos (hasK_mem.mpr (by rw[h];exact Qf)),look,if_pos h,setK,if_pos h,JaJ _ _ _ _ (by rw[<- h];exact hn.1)];rfl
  ·rw[if_neg h,Qd,ih,look,if_neg h];unfold putDs
   have e:UP (p.1::r.map (·.1)) s=UP (r.map (·.1)) s:=by unfold UP;rw[G7,decide_eq_false h,G8]
   rw[e];split
   ·rw[setK,if_neg h]
   ·rfl
noncomputable def UW(tb:List Tr)(a:List Pr):List Pr:=tb.foldl (fun a t=>Y5 a t.1 t.2.2) a
def Yc(h:t∈Jt k qs):t.1=k:=by obtain⟨u,_,e⟩:=Qx.mp h;rw[<- e]
theorem WI:∀(n:Nat) (k:Int) (qs:List Pr) (t:Tr),t∈tbN n k qs->k<t.1
 | 0,_,_,_,h=>by cases h
 | n+1,k,qs,t,h=>by
  rw[tbN] at h;rcases GH.mp h with z|z
  ·have:=Yc z;omega
  ·have:=WI n (k+1) (thF qs) t z;omega
theorem Jhw(k:Int):∀(l:List Tr) (a:List Pr),(∀t∈l,t.1=k)->(UW l a).map (·.1)=if l=[] then a.map (·.1) else Yd (a.map (·.1)) k
 | [],a,_=>by rw[if_pos rfl];rfl
 | t::l,a,h=>by
  have ht:=h t Qf
  have ih:=Jhw k l (Y5 a t.1 t.2.2) fun u hu=>h u (Qc _ hu)
  rw[if_neg (by simp)];show(UW l (Y5 a t.1 t.2.2)).map (·.1)=_;rw[ih,VC,ht];split
  ·rfl
  ·unfold Yd;split
   ·next c=>first|rfl|rw[if_pos c]
   ·next c=>rw[if_pos (hasK_mem.mpr (by simp))]
theorem Jf0:∀(n:Nat) (k:Int) (qs:List Pr) (a:List Pr),Good qs->(a.map (·.1)).Pairwise (·<·)->(∀x∈a.map (·.1),x<=k)->((UW (tbN n k qs) a).map (·.1)).Pairwise (·<·)/\(UW (tbN n k qs) a).length<=a.length+qs.length
 | 0,_,_,a,_,h,_=>⟨h,by simp[tbN,UW]⟩
 | n+1,k,qs,a,g,h,hk=>by
  have e:UW (tbN (n+1) k qs) a=UW (tbN n (k+1) (thF qs)) (UW (Jt (k+1) qs) a):=by unfold UW;rw[tbN,List.foldl_append]
  have e1:=Jhw (k+1) (Jt (k+1) qs) a fun t ht=>Yc ht
  have len:∀a b:List Pr,a.map (·.1)=b.map (·.1)->a.length=b.length:=fun a b z=>by
   have:=congrArg Mh z
   simpa using this
  have l2:=Jc6 qs;rw[e]
  by_cases c:Jt (k+1) qs=[]
  ·rw[if_pos c] at e1;obtain⟨i1,i2⟩:=Jf0 n (k+1) (thF qs) (UW (Jt (k+1) qs) a) (JB g) (by rw[e1];exact h) (fun x hx=>by rw[e1] at hx;have:=hk x hx;omega);have:=len _ _ e1;exact⟨i1,by omega⟩
  ·rw[if_neg c] at e1;have hnot:¬UP (a.map (·.1)) (k+1)=true:=fun z=>by have:=hk _ (hasK_mem.mp z);omega
   unfold Yd at e1;rw[if_neg hnot] at e1;have hl:=congrArg Mh e1;rw[QA,Qp,Qp,Gq] at hl;have fw:=JbJ g c
   obtain⟨i1,i2⟩:=Jf0 n (k+1) (thF qs) (UW (Jt (k+1) qs) a) (JB g) (by
    rw[e1,Kw];refine⟨h,by simp,fun x hx y hy=>?_⟩;have:=hk x hx;have:y=k+1:=by simpa using hy
    omega) (fun x hx=>by
    rw[e1] at hx;rcases GH.mp hx with z|z
    ·have:=hk x z;omega
    ·have:x=k+1:=by simpa using z
     omega)
   exact⟨i1,by omega⟩
def JiS(a:List Pr)(s v:Int):(Y5 a s v).length<=a.length+1:=by
 induction a with
 | nil=>simp[Y5]
 | cons p r ih =>
  rw[Y5];split
  ·simp
  ·simp only[Qv];omega
theorem WJ:∀(n:Nat) (ps:List Pr),(thN n ps).length<=ps.length
 | 0,ps=>Qu _
 | n+1,ps=>by
  show(thN n (thF ps)).length<=_
  have h1:=WJ n (thF ps)
  have h2:=(U0 (byF (-1) ps)).1;rw[Ug] at h2
  have h3:(thF ps).length=(clN (byF (-1) ps)).length:=rfl;omega
noncomputable abbrev tbC:En->Option Bool:=(tTru? (e1 Uv (Jb 2)))
noncomputable abbrev tbB:Es:=(Jo (Js 4 (eU 1 JX (aC (Jb 2) a0))) (Jo (Jga (fun i j=>i+j) 3 (Jb 4)) (Jo (Js 2 (eU 2 J9 (aC (Jb 2) (aC (e2 Ye (Jb 4) (eC (.int 1))) a0)))) (Jo (Jgb 1 (Ys (iE true (eU 1 Uc (aC (Jb 2) a0))) (.tp (.cons (.nm 0) (.cons (.nm 1) (.cons (.nm 2) .nil)))) (tB? (e2 fGt (Jb 1) (Jb 2))) (YQ (aC (Jb 3) (aC (Jb 0) (aC (e2 Ye (Jb 1) (Jb 2)) a0)))) [none,none,none,some 3])) (Js 2 (eU 2 J9 (aC (Jb 2) (aC (eC (.int 1)) a0))))))))
def JeP(j0 j4:Sl)(acc:List Tr)(k:Int)(fuel:Nat):((YC tbC tbB (fuel+1) [j0,.own (acc.map trE),.sh (.row (([]:List Pr).map prE)),.sh (.int k),j4]).bind (Jey (UC 1))).bind Jch=some (.own (acc.map trE)):=by rw[YC];have hc:tbC [j0,.own (acc.map trE),.sh (.row (([]:List Pr).map prE)),.sh (.int k),j4]=some false:=rfl;rw[hc];walk_at "ev"
def JqM(j0:Sl):∀(m fuel:Nat) (left:List Pr) (acc:List Tr) (k:Int) (j4:Sl) (N:Nat),Good left->left.length<=m->left.length<=30->m<fuel->thN N left=[]->acc.length+30*left.length<=10000 ->
 ((YC tbC tbB fuel [j0,.own (acc.map trE),.sh (.row (left.map prE)),.sh (.int k),j4]).bind (Jey (UC 1))).bind Jch=some (.own ((acc++tbN N k left).map trE)):=by
 intro m
 induction m with
 | zero =>
  intro fuel left acc k j4 N g hm _ hf _ _;obtain⟨f,rfl⟩:∃f,fuel=f+1:=⟨fuel-1,by omega⟩
  have:left=[]:=QN (by omega);subst this;rw[JeP,Wg,KQ]
 | succ m ih =>
  intro fuel left acc k j4 N g hm h30 hf hN hacc;obtain⟨f,rfl⟩:∃f,fuel=f+1:=⟨fuel-1,by omega⟩
  by_cases h0:left=[]
  ·subst h0;rw[JeP,Wg,KQ]
  ·obtain⟨c,hc,c1,w,t⟩:=JoP g h0;obtain⟨C,hC,hCN,eT,eN⟩:=JeQ w c1 h0 hN k;have hcl:=Jd3 left (by omega);rw[hc] at hcl;have g1:=Ut (C-1) g;have l1:=WJ (C-1) left;have l2:=WJ C left;have fw:=JaQ t;rw[<- hC,<- JaO C w c1 (by omega)] at fw;have ll:=JgU (k+c) (thN (C-1) left)
   have hcond:tbC [j0,.own (acc.map trE),.sh (.row (left.map prE)),.sh (.int k),j4]=some true:=by
    walk_at "ev"
    cases left with
    | nil=>exact absurd rfl h0
    | cons _ _=>rfl
   have hth:=W2 (thN (C-1) left) 1 g1 (by omega);rw[show((1:Nat):Int)=1 from rfl,show thN 1 (thN (C-1) left)=thN C left by rw[<- ZL,show C-1+1=C by omega]] at hth
   have hbody:tbB [j0,.own (acc.map trE),.sh (.row (left.map prE)),.sh (.int k),j4]=some (.nx [j0,.own ((acc++Jt (k+c) (thN (C-1) left)).map trE),.sh (.row ((thN C left).map prE)),.sh (.int (k+c)),.sh (.int c)]):=by
    walk_at "ev";rw[hcl];walk_at "ev";rw[show c-1=((C-1:Nat):Int) by omega,W2 _ _ g (by omega)];walk_at "ev";rw[Jj3 _ g1 (by omega)];walk_at "ev";rw[Jcg (g:=fun t:Tr=>trE (k+c,t.1,t.2.1-t.2.2)) (k:=fun t:Tr=>decide (t.2.1>t.2.2))]
    ·have el:((JM (thN (C-1) left)).filter fun t=>decide (t.2.1>t.2.2)).map (fun t:Tr=>trE (k+c,t.1,t.2.1-t.2.2))=(Jt (k+c) (thN (C-1) left)).map trE:=by unfold Jt;rw[Qw];rfl
     rw[el]
     have hsl:(JM (thN (C-1) left)).length<=30:=by unfold JM;rw[Qp];have:=Jca (spF (thN (C-1) left)) [];rw[JfZ] at this;unfold Y6;simp at this;omega
     walk_at "ev";rw[hth];walk_at "ev";rw[<- QT]
    ·intro t ht;simp only[trE];refine⟨?_,fun _=>?_⟩
     ·walk_at "ev"
      first|rfl|done
     ·walk_at "ev"
      first|rfl|done
   rw[YC,hcond,QZ,if_pos rfl,hbody,QZ,eT,<- Kc];exact ih f _ _ _ _ _ (Ut C g) (by omega) (by omega) (by omega) eN (by rw[QA];omega)
def JcC(ps:List Pr)(N:Nat)(g:Good ps)(h:ps.length<=30)(hN:thN N ps=[]):J8 [.sh (.row (ps.map prE))]=some (.own ((tbN N 0 ps).map trE)):=by have go:=JqM (.sh (.row (ps.map prE))) 30 1000000 ps [] 0 .no N g h h (by decide) hN (by simp;omega);unfold J8;walk_at "ev";exact go
def JmE(ps:List Pr)(N:Nat)(g:Good ps)(h:ps.length<=30)(hN:thN N ps=[]):YJ [.sh (.row (ps.map prE))]=some (.own ((UW (tbN N 0 ps) []).map prE)):=by
 have tl:=Jlb N 0 ps g h;unfold YJ;walk_at "ev";rw[JcC ps N g h hN];walk_at "ev";rw[Kz];refine YN (fun(rest:List Tr) (a:List Pr) E=>∃j2 j3 j4,E=[.sh (.row (ps.map prE)),.od (a.map (·.1)) ((a.map (·.2)).map .int),j2,j3,j4]/\(a.map (·.1)).Nodup/\a.length+rest.length<=1000) (fun a t=>Y5 a t.1 t.2.2) [] ⟨.no,.no,.no,rfl,by simp,by simp;omega⟩ ?_ ?_
 ·rintro t rest a E ⟨j2,j3,j4,rfl,hn,hz⟩;rw[Qv] at hz;have hal:=JiS a t.1 t.2.2;simp only[trE];walk_at "ev";rw[JdZ];walk_at "ev";rw[JbN,<- VC t.1 t.2.2,<- Jba _ _ _ hn];refine⟨.sh (.int t.1),.sh (.int t.2.1),.sh (.int t.2.2),rfl,?_,by omega⟩;rw[VC];exact Vq _ hn
 ·rintro E' ⟨j2,j3,j4,rfl,hn,_⟩;walk_at "ev";rw[JjP];rfl
theorem Zy:∀(cur:Pr) (r:List Pr),(∀p∈r,0<=p.2)->((clF cur r).map (·.2)).sum=cur.2+(r.map (·.2)).sum
 | cur,[],_=>by simp[clF]
 | cur,p::r,h=>by
  have h0:=h p Qf
  have hr:=fun q hq=>h q (Qc p hq)
  rw[clF,Qd,QE];split
  ·rw[Zy _ r hr];dsimp only;omega
  ·split
   ·rw[Qd,QE,Zy p r hr]
   ·rw[Zy cur r hr];omega
theorem Jgq:∀(ps:List Pr),(∀p∈ps,0<=p.2)->((clN ps).map (·.2)).sum=(ps.map (·.2)).sum
 | [],_=>rfl
 | p::r,h=>by
  have h0:=h p Qf
  have hr:=fun q hq=>h q (Qc p hq)
  rw[clN,Qd,QE];split
  ·exact Zy p r hr
  ·rw[Jgq r hr];omega
def JoN(k:Int):∀(ps:List Pr),((byF k ps).map (·.2)).sum=(ps.map (·.2)).sum+k*(ps.length:Int):=by
 intro ps
 have e:(byF k ps).map (·.2)=ps.map fun p=>p.2+k:=by
  refine GJ fun i=>?_
  unfold byF;rw[Qq,QJ,Qq,KM];rfl
 rw[e]
 induction ps with
 | nil=>simp
 | cons p r ih =>
  have ih':=ih (by
   refine GJ fun i=>?_
   unfold byF;rw[Qq,QJ,Qq,KM];rfl)
  rw[Qd,QE,ih',Qd,QE,Qv,KD,LY];simp;omega
theorem Jc5:∀{ps:List Pr},(∀p∈ps,1<=p.2)->(ps.length:Int)<=(ps.map (·.2)).sum
 | [],_=>QD _
 | p::ps,h=>by
  have h1:=h p Qf
  have h2:=Jc5 fun q hq=>h q (Qc _ hq)
  rw[Qd,QE,Qv];omega
def JhD(g:Good ps):((thF ps).map (·.2)).sum=(ps.map (·.2)).sum-(ps.length:Int):=by
 unfold thF;rw[Jgq,JoN]
 ·omega
 ·intro x hx;obtain⟨i,hi,rfl⟩:=GD.mp hx;have e:(byF (-1) ps)[i]?=some (byF (-1) ps)[i]:=by simp
  obtain⟨p,hp,e2⟩:=V3 e;rw[e2];have:=g.one i p hp;dsimp only;omega
theorem VP:∀(n:Nat) {ps:List Pr},Good ps->(ps.map (·.2)).sum<=(n:Int)->thN n ps=[]
 | 0,ps,g,h=>by
  have:=Jc5 (Good.all g)
  show ps=[]
  exact QN (by omega)
 | n+1,ps,g,h=>by
  show thN n (thF ps)=[]
  refine VP n (JB g) ?_;rw[JhD g]
  by_cases hl:ps.length=0
  ·have:ps=[]:=QN hl;subst this;simp
  ·omega
def Jsl{c1 c2 p1 p2 ins s:Int}(e:c1+c2=p1)(hc:0<=c2)(hp:0<=p2)(h0:0<=ins)(h1:ins<=s):∃t u,min c2 (s-ins)=t/\max 0 (ins+t-(p1-c1-c2))=ins+t/\min (ins+t) (p1-c1-c2)=0 ∧
 min p2 (s-(ins+t))=u/\min (c2+p2) (s-ins)=t+u/\0<=t/\t<=c2/\0<=u/\u<=p2/\(t=c2\/u=0):=by
 have z:p1-c1-c2=0:=by omega
 rw[z];rcases LC c2 (s-ins) with h|h
 ·rw[Kk h];rcases LC p2 (s-(ins+c2)) with k|k
  ·exact⟨c2,p2,rfl,by omega,by omega,Kk k,by omega,hc,QD _,hp,QD _,.inl rfl⟩
  ·exact⟨c2,s-(ins+c2),rfl,by omega,by omega,GG k,by omega,hc,QD _,by omega,k,.inl rfl⟩
 ·rw[GG h];exact⟨s-ins,0,rfl,by omega,by omega,by omega,by omega,by omega,h,QD _,hp,.inr rfl⟩
def bare{c1 c2 p1 p2 ins s:Int}(hb:c1+c2<=p1)(hp:p2=0)(hc:0<=c2)(h0:0<=ins)(h1:ins<=s):∃t m w,min c2 (s-ins)=t/\max 0 (ins+t-(p1-c1-c2))=m/\min (ins+t) (p1-c1-c2)=w/\min p2 (s-m)=0/\0<=t/\t<=c2 ∧
 ((m=0/\w=ins+t/\ins+t<=p1-c1-c2)\/(m=ins+t-(p1-c1-c2)/\w=p1-c1-c2/\p1-c1-c2<=ins+t)):=by
 obtain⟨t,ht,t0,t1,t2⟩:∃t,min c2 (s-ins)=t/\0<=t/\t<=c2/\ins+t<=s:=⟨_,rfl,by omega (config:={}),by omega (config:={}),by omega (config:={})⟩
 rw[ht];rcases LC (ins+t) (p1-c1-c2) with h|h
 ·exact⟨t,0,ins+t,rfl,by omega (config:={}),Kk h,by omega (config:={}),t0,t1,.inl ⟨rfl,rfl,h⟩⟩
 ·exact⟨t,ins+t-(p1-c1-c2),p1-c1-c2,rfl,by omega (config:={}),GG h,by omega (config:={}),t0,t1,.inr ⟨rfl,rfl,h⟩⟩
theorem Jgu:∀(L:List Int) (a:List Pr),((L.foldl Yn a).map (·.2)).sum=(a.map (·.2)).sum+(L.length:Int)
 | [],a=>by simp
 | s::L,a=>by
  have e:∀a:List Pr,((Yn a s).map (·.2)).sum=(a.map (·.2)).sum+1:=fun a=>by
   induction a with
   | nil=>simp[Yn]
   | cons p r ih =>
    rw[Yn];split
    ·simp only[Qd,QE];omega
    ·simp only[Qd,QE];omega
  rw[Ga,Jgu L,e,Qv];omega
theorem Jhv{α:Type}:∀(l:List α),(l.map fun _=>(0:Int)).sum=0
 | []=>rfl
 | _::l=>by rw[Qd,QE,Jhv l];rfl
theorem JjN:∀(M K:List Int),M.Nodup->K.Nodup->(∀x∈M,x∈K)->(K.map fun s=>if s∈M then(1:Int) else 0).sum=(M.length:Int)
 | [],K,_,_,_=>by rw[show(fun s:Int=>if s∈([]:List Int) then(1:Int) else 0)=fun _=>0 from funext fun s=>if_neg (by simp)];exact Jhv K
 | m::M,K,hm,hk,h=>by
  obtain⟨h1,h2⟩:=Q6.mp hm;have ih:=JjN M K h2 hk fun x hx=>h x (Qc _ hx)
  have one:∀K:List Int,K.Nodup->(K.map fun s=>if s∈m::M then(1:Int) else 0).sum=(K.map fun s=>if s∈M then(1:Int) else 0).sum+(if m∈K then 1 else 0):=fun K hk=>by
   induction K with
   | nil=>rfl
   | cons k K ihK =>
    obtain⟨a1,a2⟩:=Q6.mp hk;rw[Qd,QE,Qd,QE,ihK a2]
    by_cases c:k=m
    ·subst c;rw[if_pos Qf,if_neg h1,if_neg a1,if_pos Qf];omega
    ·have e1:(k∈m::M)=(k∈M):=by simp[c]
     have e2:(m∈k::K)=(m∈K):=by simp[Q3 c]
     simp only[e1,e2];omega
  rw[one K hk,ih,if_pos (h m Qf),Qv];omega
theorem Wr:∀(r:List Pr) (cur:Pr) (e:Int),e∈Jk (clF cur r)->e∈Jk (cur::r)
 | [],_,_,h=>h
 | p::r,cur,e,h=>by
  unfold Jk at h ⊢;rw[clF] at h;split at h
  ·next c =>
   have:=Wr r _ e h;unfold Jk at this;simp only[Qd,Qk] at this ⊢;rcases this with z|z
   ·exact .inr (.inl (by omega))
   ·exact .inr (.inr z)
  ·split at h
   ·rw[Qd,Qk] at h;rcases h with z|z
    ·rw[z];simp
    ·have:=Wr r p e z;unfold Jk at this;rw[Qd];exact Qc _ this
   ·have:=Wr r cur e h;unfold Jk at this;simp only[Qd,Qk] at this ⊢;rcases this with z|z
    ·exact .inl z
    ·exact .inr (.inr z)
theorem Jdy:∀(ps:List Pr) (e:Int),e∈Jk (clN ps)->e∈Jk ps
 | [],_,h=>h
 | p::r,e,h=>by
  rw[clN] at h;split at h
  ·exact Wr r p e h
  ·have:=Jdy r e h;unfold Jk at this ⊢;rw[Qd];exact Qc _ this
def Jcj(h:e∈Jk (thF qs)):e∈spF qs:=by
 have:=Jdy _ e h
 have z:=JeJ (-1) qs;rw[show(-1:Int)+1=0 by omega,Wo] at z;rw[z];exact this
noncomputable def Y7(l:List Tr):Int:=(l.map (·.2.2)).sum
theorem Jco{α:Type}(f:α->Int)(k:α->Bool):∀(l:List α),(∀x∈l,k x=false->f x=0)->((l.filter k).map f).sum=(l.map f).sum
 | [],_=>rfl
 | x::l,h=>by
  have ih:=Jco f k l fun y hy=>h y (Qc _ hy)
  rw[Qd,QE]
  cases c:k x with
  | true=>rw[GN c,Qd,QE,ih]
  | false=>rw[GM (by rw[c];simp),ih,h x Qf c,L1]
theorem Jhx{α:Type}(f g:α->Int):∀(l:List α),(l.map fun x=>f x-g x).sum=(l.map f).sum-(l.map g).sum
 | []=>rfl
 | x::l=>by rw[Qd,QE,Qd,QE,Qd,QE,Jhx f g l];omega
theorem Jhu{α:Type}(f g:α->Int):∀(l:List α),(l.map fun x=>f x+g x).sum=(l.map f).sum+(l.map g).sum
 | []=>rfl
 | x::l=>by rw[Qd,QE,Qd,QE,Qd,QE,Jhu f g l];omega
def ZH(g:Good qs)(k:Int):Y7 (Jt k qs)=(qs.length:Int)-((thF qs).length:Int):=by
 obtain⟨c1,c2,c3⟩:=Jjb (spF qs);have nd:=Jci (JB g);unfold Y7 Jt;rw[Qw];have e1:(((JM qs).filter fun t=>decide (t.2.1>t.2.2)).map ((fun t:Tr=>t.2.2) ∘ fun t:Tr=>(k,t.1,t.2.1-t.2.2))).sum=(((JM qs).filter fun t=>decide (t.2.1>t.2.2)).map fun t=>t.2.1-t.2.2).sum:=rfl;rw[e1,Jco]
 ·unfold JM;rw[Qw]
  have e2:((Y6 (spF qs)).map ((fun t:Tr=>t.2.1-t.2.2) ∘ fun p:Pr=>((p.1,p.2,owF (thF qs) p.1):Tr))).sum=((Y6 (spF qs)).map fun p=>p.2-(if p.1∈Jk (thF qs) then(1:Int) else 0)).sum:=by
   congr 1;refine QG fun p _=>?_
   show p.2-owF (thF qs) p.1=_;rw[JcM (JB g)]
  rw[e2,Jhx];have e3:=Jgu (spF qs) [];have e4:=JjN (Jk (thF qs)) ((Y6 (spF qs)).map (·.1)) nd c1 fun x hx=>Qx.mpr ⟨_,c3 x (Jcj hx),rfl⟩
  rw[Qw] at e4;have e5:((Y6 (spF qs)).map fun p=>if p.1∈Jk (thF qs) then(1:Int) else 0).sum=((Jk (thF qs)).length:Int):=e4
  have e6:((Y6 (spF qs)).map (·.2)).sum=((spF qs).length:Int):=by unfold Y6;rw[e3];simp
  rw[e5,e6,JfZ];unfold Jk;rw[Qp]
 ·intro t ht c;unfold JM at ht;obtain⟨p,hp,rfl⟩:=Qx.mp ht;obtain⟨v1,v2⟩:=c2 p hp;have:0<(spF qs).count p.1:=K7.mpr v2;have o:=JcM (JB g) p.1;have c':=of_decide_eq_false c;dsimp only at c' ⊢;rw[o] at c' ⊢
  by_cases z:p.1∈Jk (thF qs)
  ·rw[if_pos z] at c' ⊢;omega
  ·rw[if_neg z] at c' ⊢;omega
theorem VA:∀(n:Nat) (k:Int) {qs:List Pr},Good qs->thN n qs=[]->Y7 (tbN n k qs)=(qs.length:Int)
 | 0,k,qs,g,h=>by have:qs=[]:=h;subst this;rfl
 | n+1,k,qs,g,h=>by
  have ih:=VA n (k+1) (JB g) h
  have l:=ZH g (k+1);unfold Y7 at *;rw[tbN,QT,LH,ih,l];omega
theorem Jdg(f:Int->Int)(s v:Int):∀(a:List Pr),((Y5 a s v).map fun p=>p.2*f p.1).sum=(a.map fun p=>p.2*f p.1).sum+v*f s
 | []=>by simp[Y5]
 | p::r=>by
  rw[Y5];split
  ·next c=>rw[Qd,QE,Qd,QE];dsimp only;rw[K0,c];omega
  ·rw[Qd,QE,Qd,QE,Jdg f s v r];omega
theorem JeN(f:Int->Int):∀(tb:List Tr) (a:List Pr),((UW tb a).map fun p=>p.2*f p.1).sum=(a.map fun p=>p.2*f p.1).sum+(tb.map fun t=>t.2.2*f t.1).sum
 | [],a=>by simp[UW]
 | t::tb,a=>by show((UW tb (Y5 a t.1 t.2.2)).map fun p=>p.2*f p.1).sum=_;rw[JeN f tb,Jdg,Qd,QE];omega
theorem Jde(s v:Int):∀(a:List Pr) (p:Pr),p∈Y5 a s v->p.1=s\/p.1∈a.map (·.1)
 | [],p,h=>by
  have:p=(s,v):=by simpa [Y5] using h
  exact .inl (by rw[this])
 | q::r,p,h=>by
  rw[Y5] at h;split at h
  ·rcases Qk.mp h with z|z
   ·exact .inr (by rw[z];simp)
   ·exact .inr (Qx.mpr ⟨p,Qc _ z,rfl⟩)
  ·rcases Qk.mp h with z|z
   ·exact .inr (by rw[z];simp)
   ·rcases Jde s v r p z with y|y
    ·exact .inl y
    ·exact .inr (by rw[Qd];exact Qc _ y)
theorem JeL:∀(tb:List Tr) (a:List Pr) (p:Pr),p∈UW tb a->(∃t∈tb,t.1=p.1)\/p.1∈a.map (·.1)
 | [],a,p,h=>.inr (Qx.mpr ⟨p,h,rfl⟩)
 | t::tb,a,p,h=>by
  rcases JeL tb (Y5 a t.1 t.2.2) p h with ⟨u,h1,h2⟩|z
  ·exact .inl ⟨u,Qc _ h1,h2⟩
  ·obtain⟨q,hq,e⟩:=Qx.mp z;rcases Jde t.1 t.2.2 a q hq with y|y
   ·exact .inl ⟨t,Qf,by rw[<- e,y]⟩
   ·exact .inr (by rw[<- e];exact y)
def JmI{a b d:Int}(ha:0<=a)(hb:0<=b):max 0 (min (a+b) d)=max 0 (min a d)+max 0 (min b (d-a)):=by
 rcases LC d a with k|k
 ·rw[GG (show d<=a+b by omega),GG k,Mc (b:=min b (d-a)) (XB (Lx _ _) (by omega)),MQ]
 ·rw[Kk k,KI ha];rcases LC d (a+b) with m|m
  ·rw[GG m,GG (show d-a<=b by omega),KI (by omega),KI (by omega)];omega
  ·rw[Kk m,Kk (show b<=d-a by omega),KI (by omega),KI hb]
theorem VD(x:Int):∀(r:List Pr) (cur:Pr),(∀p∈r,0<=p.2)->0<=cur.2->below (clF cur r) x=below (cur::r) x
 | [],cur,_,_=>rfl
 | p::r,cur,h,hc=>by
  have h0:=h p Qf
  have hr:=fun q hq=>h q (Qc p hq)
  rw[clF];split
  ·next e=>rw[VD x r _ hr (by dsimp only;omega (config:={})),JC,JC,JC];dsimp only;rw[JmI hc h0,show x-cur.1-cur.2=x-p.1 by omega (config:={}),Rm]
  ·split
   ·rw[JC,VD x r p hr h0,<- JC]
   ·rw[VD x r cur hr hc,JC,JC cur,JC p,show p.2=0 by omega (config:={}),Mc (b:=min 0 _) (RQ _ _),L1]
theorem Jbh(x:Int):∀(ps:List Pr),(∀p∈ps,0<=p.2)->below (clN ps) x=below ps x
 | [],_=>rfl
 | p::r,h=>by
  have h0:=h p Qf
  have hr:=fun q hq=>h q (Qc p hq)
  rw[clN];split
  ·exact VD x r p hr h0
  ·rw[Jbh x r hr,JC p];omega (config:={})
theorem Jb0:∀(r:List Pr) (c x:Int),Good r->(∀q,r[0]?=some q->x<=q.1-c)->∀p∈byR c r,x<=p.1
 | [],_,_,_,_,_,h=>by cases h
 | q::r,c,x,g,hx,p,h=>by
  have h1:=hx q rfl;rcases Qk.mp h with z|z
  ·rw[z];exact h1
  ·refine Jb0 r (c+2) x (Good.cons' g) (fun q' e=>?_) p z;have:=g.gap 0 q q' rfl (by simpa using e);have:=g.one 0 q rfl;omega
theorem JgA(left:List Pr):∀(q:List Pr) (i:Nat) (base:Int),Good q->(∀p,q[0]?=some p->∀x,p.1-2*(i:Int)<=x->below left x=base+below (byR (2*(i:Int)) q) x) ->
 edF left i base ((q.zipIdx i).map fun x=>x.1.1+x.1.2-1-2*(x.2:Int))=q
 | [],_,_,_,_=>rfl
 | p::r,i,base,g,hf=>by
  have h1:=g.one 0 p rfl
  have nx:∀q,r[0]?=some q->p.1+p.2+1<=q.1:=fun q e=>by have:=g.gap 0 p q rfl (by simpa using e);omega
  have hs:=hf p rfl (p.1+p.2-1-2*(i:Int)) (by omega);rw[byR,JC,ZS (ps:=byR (2*(i:Int)+2) r) (Jb0 r _ _ (Good.cons' g) fun q e=>by have:=nx q e;omega)] at hs;dsimp only at hs
  have e:below left (p.1+p.2-1-2*(i:Int))=base+(p.2-1):=by omega
  rw[K2,Qd,edF];dsimp only;rw[e,JgA left r (i+1) (base+(p.2-1)) (Good.cons' g) fun q eq x hx=>?_]
  ·congr 1;exact KL (by dsimp only;omega) (by dsimp only;omega)
  ·have:=nx q eq;rw[hf p rfl x (by omega),byR,JC];dsimp only;rw[show 2*((i+1:Nat):Int)=2*(i:Int)+2 by omega];omega
def JhK(g:Good q):∀p∈byF (-1) q,0<=p.2:=fun p hp=>by obtain⟨i,hi,rfl⟩:=GD.mp hp;have w:Wide (1+-1) (byF (-1) q):=(Yl g).bys (k:=-1);exact w.one i _ (by simp)
def Jrg(g:Good q):edF (thF q) 0 0 (spF q)=q:=by
 refine JgA (thF q) q 0 0 g fun p _ x _=>?_
 unfold thF;rw[Jbh x _ (JhK g),L1,show 2*((0:Nat):Int)=0 by simp,YK]
def Jan(prs:List Pr)(s:Int):((J1 prs).count s:Int)=(prs.map fun p=>if p.1=s then((p.2.toNat:Nat):Int) else 0).sum:=by
 induction prs with
 | nil=>rfl
 | cons p r ih =>
  unfold J1 at *;rw[GB,Mv,Qd,QE,<- ih,Xa];split <;> rename_i c
  ·have c':p.1=s:=by simpa using c
   rw[if_pos c'];omega
  ·have c':¬p.1=s:=by simpa using c
   rw[if_neg c'];omega
def Jg2(f:Pr->Int)(hn:(a.map (·.1)).Nodup)(s:Int):(a.map fun p=>if p.1=s then f p else 0).sum=if s∈a.map (·.1) then f (s,lk s a) else 0:=by
 induction a with
 | nil=>rfl
 | cons p r ih =>
  rw[Qd,Q6] at hn;rw[Qd,QE,ih hn.2,lk]
  by_cases c:p.1=s
  ·subst c;rw[if_pos rfl,if_pos rfl,if_neg hn.1,if_pos (by simp)];simp
  ·rw[if_neg c,if_neg c,L1];have:(s∈(p::r).map (·.1))=(s∈r.map (·.1)):=by simp[Q3 c]
   simp only[this]
noncomputable def JY(l:List Tr):List Pr:=l.map fun t=>(t.2.1,t.2.2)
def JbQ(g:Good q)(k:Int):JV (Jk (thF q)++J1 (JY (Jt k q)))=spF q:=by
 obtain⟨c1,c2,c3⟩:=Jjb (spF q);have gt:=JB g;have nd:=Jci gt;refine List.Perm.eq_of_pairwise (le:=(·<=·)) (fun a b _ _ h1 h2=>by omega) (Up _) (JkY 0 g) ((JI _).trans (List.perm_iff_count.mpr fun s=>?_));rw[Mv]
 have e1:((J1 (JY (Jt k q))).count s:Int)=if s∈spF q then((spF q).count s:Int)-(if s∈Jk (thF q) then 1 else 0) else 0:=by
  rw[Jan];unfold JY Jt;rw[Qw,Qw];refine Eq.trans (show _=(((JM q).filter fun t=>decide (t.2.1>t.2.2)).map fun t=>if t.1=s then(((t.2.1-t.2.2).toNat:Nat):Int) else 0).sum from rfl) ?_;rw[Jco]
  ·unfold JM;rw[Qw];have f2:((Y6 (spF q)).map ((fun t:Tr=>if t.1=s then(((t.2.1-t.2.2).toNat:Nat):Int) else 0) ∘ fun p:Pr=>((p.1,p.2,owF (thF q) p.1):Tr))).sum=((Y6 (spF q)).map fun p=>if p.1=s then(((p.2-owF (thF q) p.1).toNat:Nat):Int) else 0).sum:=rfl;rw[f2,Jg2 (fun p=>(((p.2-owF (thF q) p.1).toNat:Nat):Int)) c1];have mm:s∈(Y6 (spF q)).map (·.1)↔s∈spF q:=⟨fun h=>by obtain⟨p,hp,e⟩:=Qx.mp h;rw[<- e];exact(c2 p hp).2,fun h=>Qx.mpr ⟨_,c3 s h,rfl⟩⟩
   by_cases h:s∈spF q
   ·rw[if_pos (mm.mpr h),if_pos h,Jfv c1 (c3 s h) (p:=(s,((spF q).count s:Int)))];dsimp only;rw[JcM gt];have:0<(spF q).count s:=K7.mpr h;split <;> omega
   ·rw[if_neg fun z=>h (mm.mp z),if_neg h]
  ·intro t ht c;have c':=of_decide_eq_false c;split
   ·omega
   ·rfl
 have e2:(Jk (thF q)).count s=if s∈Jk (thF q) then 1 else 0:=by
  split
  ·next h=>exact Jbr nd h
  ·next h=>exact Me.mpr h
 rw[e2]
 by_cases h:s∈spF q
 ·rw[if_pos h] at e1;have:0<(spF q).count s:=K7.mpr h;split at e1 <;> rename_i c
  ·rw[if_pos c];omega
  ·rw[if_neg c];omega
 ·rw[if_neg h] at e1;rw[if_neg fun z=>h (Jcj z),Me.mpr h];omega
noncomputable def putF(ps prs:List Pr):List Pr:=edF ps 0 0 (JV (Jk ps++J1 prs))
def Jkw(g:Good q)(k:Int):putF (thF q) (JY (Jt k q))=q:=by unfold putF;rw[JbQ g k,Jrg g]
noncomputable abbrev Gp:=Int×List Pr
noncomputable def Uu:List Gp->Tr->List Gp
 | [],t=>[(t.1,[(t.2.1,t.2.2)])]
 | g::gs,t=>if g.1=t.1 then(g.1,g.2++[(t.2.1,t.2.2)])::gs else g::Uu gs t
noncomputable def YR(tb:List Tr):List Gp:=tb.foldl Uu []
theorem Jbd(x:Gp):∀(tb:List Tr) (g:List Gp),(∀t∈tb,x.1≠t.1)->tb.foldl Uu (x::g)=x::tb.foldl Uu g
 | [],_,_=>rfl
 | t::tb,g,h=>by rw[Ga,Uu,if_neg (h t Qf),Ga];exact Jbd x tb _ fun u hu=>h u (Qc _ hu)
theorem Jbc(k:Int):∀(tb:List Tr) (ps:List Pr),(∀t∈tb,t.1=k)->tb.foldl Uu [(k,ps)]=[(k,ps++JY tb)]
 | [],ps,_=>by simp[JY]
 | t::tb,ps,h=>by rw[Ga,Uu,if_pos (h t Qf).symm,Jbc k tb _ fun u hu=>h u (Qc _ hu)];simp[JY]
def Jmd(k:Int)(a b:List Tr)(ha:a≠[])(h1:∀t∈a,t.1=k)(h2:∀t∈b,k<t.1):YR (a++b)=(k,JY a)::YR b:=by
 cases a with
 | nil=>exact absurd rfl ha
 | cons t a=>unfold YR;rw[List.foldl_append,Ga,show Uu [] t=[(k,[(t.2.1,t.2.2)])] by rw[Uu,h1 t Qf],Jbc k a _ fun u hu=>h1 u (Qc _ hu),Jbd _ b [] fun u hu=>by have:=h2 u hu;dsimp only;omega];simp[JY]
noncomputable def Vt:Int->List Gp->List Pr
 | _,[]=>[]
 | k,g::gs=>byF (g.1-k-1) (putF (Vt g.1 gs) g.2)
noncomputable def OkG:Int->List Gp->Prop
 | _,[]=>True
 | k,g::gs=>k<g.1/\(∀p∈g.2,1<=p.2)/\Good (Vt g.1 gs)/\((Vt g.1 gs).length:Int)+(g.2.map (·.2)).sum<=30/\Good (putF (Vt g.1 gs) g.2)/\(putF (Vt g.1 gs) g.2).length<=30/\OkG g.1 gs
def YM(h:t∈Jt k q):1<=t.2.2:=by unfold Jt at h;obtain⟨u,hu,e⟩:=Qx.mp h;obtain⟨_,c⟩:=Ma.mp hu;have:=of_decide_eq_true c;rw[<- e];dsimp only;omega
def Jm4(l:List Tr):((JY l).map (·.2)).sum=Y7 l:=by unfold JY Y7;rw[Qw];rfl
def JfQ:∀(m:Nat) (N:Nat) (k:Int) {ps:List Pr},ps.length<=m->Good ps->ps.length<=30->thN N ps=[]->Vt k (YR (tbN N k ps))=ps/\OkG k (YR (tbN N k ps)):=by
 intro m
 induction m with
 | zero=>intro N k ps hm g h30 hN;have:ps=[]:=QN (by omega);subst this;rw[Wg];exact⟨rfl,trivial⟩
 | succ m ih =>
  intro N k ps hm g h30 hN
  by_cases h0:ps=[]
  ·subst h0;rw[Wg];exact⟨rfl,trivial⟩
  ·obtain⟨c,hc,c1,w,t⟩:=JoP g h0;obtain⟨C,hC,hCN,eT,eN⟩:=JeQ w c1 h0 hN k;have g1:=Ut (C-1) g;have l1:=WJ (C-1) ps;have l2:=WJ C ps;have fw:=JaQ t;rw[<- hC,<- JaO C w c1 (by omega)] at fw;have eq1:thN C ps=thF (thN (C-1) ps):=by rw[<- Zf,show C-1+1=C by omega]
   have ls:=ZH g1 (k+c);rw[<- eq1] at ls
   have hb:byF (c-1) (thN (C-1) ps)=ps:=by rw[JaP w c1 (by omega),Jgn,show c-1+-((C-1:Nat):Int)=0 by omega,Wo]
   have ll:(thN (C-1) ps).length=ps.length:=by have:=Ug (c-1) (thN (C-1) ps);rw[hb] at this;exact this.symm
   have hne:Jt (k+c) (thN (C-1) ps)≠[]:=fun z=>by rw[z] at ls;have:(0:Int)=_:=ls;omega
   have gc:=Jmd (k+c) (Jt (k+c) (thN (C-1) ps)) (tbN (N-C) (k+c) (thN C ps)) hne (fun u hu=>Yc hu) fun u hu=>WI _ _ _ u hu
   obtain⟨i1,i2⟩:=ih (N-C) (k+c) (ps:=thN C ps) (by omega) (Ut C g) (by omega) eN;have pb:putF (thN C ps) (JY (Jt (k+c) (thN (C-1) ps)))=thN (C-1) ps:=by rw[eq1];exact Jkw g1 (k+c)
   rw[eT,gc];refine⟨?_,?_⟩
   ·show byF (k+c-k-1) (putF (Vt (k+c) (YR (tbN (N-C) (k+c) (thN C ps)))) (JY (Jt (k+c) (thN (C-1) ps))))=ps;rw[i1,pb,show k+c-k-1=c-1 by omega,hb]
   ·show k<k+c/\(∀p∈JY (Jt (k+c) (thN (C-1) ps)),1<=p.2)/\Good (Vt (k+c) (YR (tbN (N-C) (k+c) (thN C ps))))/\((Vt (k+c) (YR (tbN (N-C) (k+c) (thN C ps)))).length:Int)+((JY (Jt (k+c) (thN (C-1) ps))).map (·.2)).sum<=30/\Good (putF (Vt (k+c) (YR (tbN (N-C) (k+c) (thN C ps)))) (JY (Jt (k+c) (thN (C-1) ps))))/\(putF (Vt (k+c) (YR (tbN (N-C) (k+c) (thN C ps)))) (JY (Jt (k+c) (thN (C-1) ps)))).length<=30/\OkG (k+c) (YR (tbN (N-C) (k+c) (thN C ps)))
    rw[i1,pb,Jm4];refine⟨by omega,fun p hp=>?_,Ut C g,by omega,g1,by omega,i2⟩;obtain⟨u,hu,e⟩:=Qx.mp hp;rw[<- e];exact YM hu
noncomputable abbrev ctB:Es:=(Jo (xIf (tOr? (tB? (e2 fLt (Jb 2) (eC (.int 1)))) (tB? (e2 fLt (Jb 4) (eC (.int 1))))) VB JW) (Jo (xIf (tAnd? (tB? (e2 WS (Jb 1) (eC .non))) (tB? (e2 Jjv (YQ (aC (Jb 2) (aC (Jb 3) a0))) (Jb 1)))) VB JW) (Js 1 (YQ (aC (Jb 2) (aC (Jb 3) a0))))))
noncomputable abbrev ctP:Pt:=(.tp (.cons (.nm 2) (.cons (.nm 3) (.cons (.nm 4) .nil))))
noncomputable abbrev gpP:Pt:=(.tp (.cons (.nm 2) (.cons (.nm 3) (.cons (.nm 4) .nil))))
noncomputable abbrev gpK:Ev:=(Jb 2)
noncomputable abbrev gpV:Ev:=(YQ (aC (Jb 3) (aC (Jb 4) a0)))
noncomputable abbrev roB:Es:=(Js 6 (eU 2 Yz (aC (eU 2 Ub (aC (Jb 6) (aC (JlL (Jb 1) (Jb 2)) a0))) (aC (e2 Ye (e2 Ye (Jb 2) (Jb 7)) (eC (.int 1))) a0))))
noncomputable abbrev roP:Pt:=(.tp (.cons (.nm 7) (.cons (.nm 2) .nil)))
noncomputable def Wl:Option Pr->List Tr->Prop
 | _,[]=>True
 | a,t::r=>1<=t.1/\1<=t.2.2/\(∀b,a=some b->b.1<t.1\/(b.1=t.1/\b.2<t.2.1))/\Wl (some (t.1,t.2.1)) r
noncomputable def ahE:Option Pr->D
 | none=>.non
 | some p=>prE p
theorem Jgw(x:Sl):∀(tb:List Tr) (a:Option Pr) (j2 j3 j4:Sl),Wl a tb->∃E',Ya ctP ctB (tb.map trE) [x,.sh (ahE a),j2,j3,j4]=some (.nx (x::E'))/\E'.length=4
 | [],a,j2,j3,j4,_=>⟨_,rfl,rfl⟩
 | t::r,a,j2,j3,j4,h=>by
  obtain⟨h1,h2,h3,h4⟩:=h;obtain⟨E',ih⟩:=Jgw x r (some (t.1,t.2.1)) (.sh (.int t.1)) (.sh (.int t.2.1)) (.sh (.int t.2.2)) h4;refine⟨E',?_,ih.2⟩;rw[Qd,Ya];simp only[trE];walk_at "ev";rw[decide_eq_false (show ¬t.1<1 by omega)];walk_at "ev";rw[decide_eq_false (show ¬t.2.2<1 by omega)];walk_at "ev"
  cases a with
  | none=>simp only[ahE];walk_at "ev";exact ih.1
  | some b =>
   have hb:=h3 b rfl;simp only[ahE,prE];walk_at "ev"
   have e:(if t.1=b.1 then decide (t.2.1<=b.2) else decide (t.1<=b.1))=false:=by
    split
    ·exact decide_eq_false (by omega)
    ·exact decide_eq_false (by omega)
   rw[e];walk_at "ev";exact ih.1
def Jrq(tb:List Tr)(h:Wl none tb)(hs:Y7 tb<=30)(hl:tb.length<=30):∃r,J2 [.sh (.lst (tb.map trE))]=some r:=by
 obtain⟨E',e,el⟩:=Jgw (.sh (.lst (tb.map trE))) tb none .no .no .no h;unfold J2;walk_at "ev";rw[show Ya ctP ctB (tb.map trE) [.sh (.lst (tb.map trE)),.sh .non,.no,.no,.no]=_ from e];walk_at "ev";rw[JP (g:=fun t:Tr=>D.int t.2.2)]
 ·walk_at "ev";rw[VG (ns:=tb.map (·.2.2)) (by simp[Sl.q])];walk_at "ev";rw[decide_eq_false (show ¬(tb.map (·.2.2)).sum>30 from by unfold Y7 at hs;omega (config:={}))];walk_at "ev";exact⟨_,rfl⟩
 ·intro t _;simp only[trE];walk_at "ev"
theorem Jdi:∀(g:List Gp) (t:Tr),(Uu g t).map (·.1)=Yd (g.map (·.1)) t.1
 | [],t=>rfl
 | x::g,t=>by
  have ih:=Jdi g t;unfold Yd UP at ih ⊢;rw[Uu,Qd,G7]
  by_cases h:x.1=t.1
  ·rw[if_pos h,decide_eq_true h,RF,if_pos rfl];rfl
  ·rw[if_neg h,decide_eq_false h,G8,Qd,ih];split <;> rfl
theorem Jbe:∀(g:List Gp) (t:Tr),JaV (g.map (·.1)) (g.map fun x=>x.2.map prE) t.1 (prE (t.2.1,t.2.2))=(Uu g t).map fun x=>x.2.map prE
 | [],t=>rfl
 | x::g,t=>by
  rw[Qd,Qd,JaV,Uu];split
  ·simp
  ·rw[Jbe g t];rfl
theorem Jrr(x a5 a6 a7:Sl):∀(tb:List Tr) (g:List Gp) (j2 j3 j4:Sl),∃j2' j3' j4',Wt gpP gpK gpV (tb.map trE) [x,.no,j2,j3,j4,a5,a6,a7] (g.map (·.1)) (g.map fun x=>x.2.map prE) =
 some ([x,.no,j2',j3',j4',a5,a6,a7],(tb.foldl Uu g).map (·.1),(tb.foldl Uu g).map fun x=>x.2.map prE)
 | [],g,j2,j3,j4=>⟨j2,j3,j4,rfl⟩
 | t::tb,g,j2,j3,j4=>by obtain⟨a,b,c,ih⟩:=Jrr x a5 a6 a7 tb (Uu g t) (.sh (.int t.1)) (.sh (.int t.2.1)) (.sh (.int t.2.2));refine⟨a,b,c,?_⟩;rw[Qd,Wt];simp only[trE];walk_at "ev";rw[<- Jdi,show D.tup [D.int t.2.1,D.int t.2.2]=prE (t.2.1,t.2.2) from rfl,Jbe];exact ih
theorem Jd1(hb:∀E o,b E=some o->∃E',o=.nx E'):∀{xs ys:List D} {E E1:En},Ya p b xs E=some (.nx E1)->Ya p b (xs++ys) E=Ya p b ys E1
 | [],ys,E,E1,h=>by cases h;rfl
 | x::xs,ys,E,E1,h=>by
  rw[Ya] at h;rw[Kl,Ya]
  cases hp:p.bind x E with
  | none=>rw[hp] at h;cases h
  | some E2 =>
   rw[hp,QZ] at h;rw[QZ]
   cases ho:b E2 with
   | none=>rw[ho] at h;cases h
   | some o=>obtain⟨E3,e⟩:=hb E2 o ho;subst e;rw[ho,QZ] at h;rw[QZ];exact Jd1 hb h
def Jnx(i:Nat)(a:Ev):∀E o,Js i a E=some o->∃E',o=.nx E':=fun E o e=>by
 unfold Js at e;obtain⟨s,_,e⟩:=bind_some e;obtain⟨d,_,e⟩:=bind_some e;split at e
 ·cases e;exact⟨_,rfl⟩
 ·cases e
noncomputable def zl(k:Int)(gs:List Gp):List Pr:=Ru (k::gs.map (·.1)) (gs.map (·.1))
def JnX(k:Int)(g:Gp)(gs:List Gp):zl k (g::gs)=(k,g.1)::zl g.1 gs:=rfl
theorem JdY:∀{all:List Gp} {g:Gp},(all.map (·.1)).Nodup->g∈all->look (all.map (·.1)) ((all.map fun x=>x.2.map prE).map D.lst) g.1=some (.lst (g.2.map prE))
 | [],_,_,h=>by cases h
 | x::r,g,hn,h=>by
  rw[Qd,Q6] at hn;simp only[Qd,look];rcases Qk.mp h with z|z
  ·subst z;rw[if_pos rfl]
  ·rw[if_neg fun e=>hn.1 (by rw[e];exact Qx.mpr ⟨g,z,rfl⟩)];exact JdY hn.2 z
def JmN{l:List Pr}(h:∀p∈l,1<=p.2):(l.length:Int)<=(l.map (·.2)).sum:=by
 induction l with
 | nil=>exact QD _
 | cons p r ih =>
  have:=ih fun q hq=>h q (Qc _ hq)
  have:=h p Qf;rw[Qd,QE,Qv];omega
theorem Jhn(x a5:Sl)(j3 j4:Sl)(all:List Gp)(hn:(all.map (·.1)).Nodup):∀(gs:List Gp) (k:Int) (j2 j7:Sl),OkG k gs->(∀g∈gs,g∈all) ->
 ∃j2' j7',Ya roP roB ((zl k gs).reverse.map prE) [x,.od (all.map (·.1)) ((all.map fun x=>x.2.map prE).map D.lst),j2,j3,j4,a5,.sh (.row (([]:List Pr).map prE)),j7]=some (.nx [x,.od (all.map (·.1)) ((all.map fun x=>x.2.map prE).map D.lst),j2',j3,j4,a5,.sh (.row ((Vt k gs).map prE)),j7'])
 | [],k,j2,j7,_,_=>⟨j2,j7,rfl⟩
 | g::gs,k,j2,j7,h,hm=>by
  obtain⟨h1,h2,h3,h4,h5,h6,h7⟩:=h;obtain⟨a,b,ih⟩:=Jhn x a5 j3 j4 all hn gs g.1 j2 j7 h7 fun y hy=>hm y (Qc _ hy)
  have nl:=JmN h2;refine⟨.sh (.int g.1),.sh (.int k),?_⟩;rw[JnX,GI,QT,Jd1 (Jnx 6 _) ih]
  show Ya roP roB [prE (k,g.1)] _=_;rw[Ya];simp only[prE];walk_at "ev";rw[JdY hn (hm g Qf)];walk_at "ev";rw[Jrs (Vt g.1 gs) g.2 h3 (fun p hp=>by have:=h2 p hp;omega) h4 (by omega) (by omega)];walk_at "ev";rw[show edF (Vt g.1 gs) 0 0 (JV (Jk (Vt g.1 gs)++J1 g.2))=putF (Vt g.1 gs) g.2 from rfl,show g.1-k-1=(((g.1-k-1).toNat:Nat):Int) by omega,JmH _ _ h5 h6];walk_at "ev";rw[show(((g.1-k-1).toNat:Nat):Int)=g.1-k-1 by omega]
  rfl
theorem Jg1:∀{gs:List Gp} {k:Int},OkG k gs->(gs.map (·.1)).Pairwise (·<·)/\∀y∈gs.map (·.1),k<y
 | [],_,_=>⟨.nil,fun _ h=>by cases h⟩
 | g::gs,k,h=>by
  obtain⟨h1,_,_,_,_,_,h7⟩:=h;obtain⟨i1,i2⟩:=Jg1 h7;refine⟨QL.mpr ⟨i2,i1⟩,fun y hy=>?_⟩;rcases Qk.mp hy with z|z
  ·rw[z];exact h1
  ·have:=i2 y z;omega
theorem Jdh:∀(g:List Gp) (t:Tr),(Uu g t).length<=g.length+1
 | [],t=>Qu _
 | x::g,t=>by
  have:=Jdh g t;rw[Uu];split
  ·simp
  ·simp only[Qv];omega
theorem JgL:∀(tb:List Tr) (g:List Gp),(tb.foldl Uu g).length<=g.length+tb.length
 | [],g=>by simp
 | t::tb,g=>by
  have:=JgL tb (Uu g t)
  have:=Jdh g t;rw[Ga,Qv];omega
def JmG(tb:List Tr)(h:Wl none tb)(hs:Y7 tb<=30)(hl:tb.length<=30)(ok:OkG 0 (YR tb)):UN [.sh (.lst (tb.map trE))]=some (.sh (.row ((Vt 0 (YR tb)).map prE))):=by
 obtain⟨r,hr⟩:=Jrq tb h hs hl;obtain⟨kp,_⟩:=Jg1 ok;have nd:((YR tb).map (·.1)).Nodup:=kp.imp fun {a b} h=>by omega
 have gl:=JgL tb [];rw[show tb.foldl Uu []=YR tb from rfl,KB] at gl;obtain⟨g2,g3,g4,hg⟩:=Jrr (.sh (.lst (tb.map trE))) .no .no .no tb [] .no .no .no;rw[show tb.foldl Uu []=YR tb from rfl] at hg;obtain⟨r2,r7,hro⟩:=Jhn (.sh (.lst (tb.map trE))) (.sh (.lst (((YR tb).map (·.1)).map .int))) g3 g4 (YR tb) nd (YR tb) 0 g2 .no ok (fun _ h=>h);unfold UN;walk_at "ev";rw[hr];walk_at "ev";unfold JnT;walk_at "ev";rw[show Wt gpP gpK gpV (tb.map trE) [.sh (.lst (tb.map trE)),.no,.no,.no,.no,.no,.no,.no] [] []=_ from hg]
 walk_at "ev";rw[show Zs [.own []]=some (.sh (.row (([]:List Pr).map prE))) from VF (ps:=[]) rfl Good.nil (by simp)];walk_at "ev"
 have hz:Jda (D.int 0::((YR tb).map (·.1)).map D.int) (((YR tb).map (·.1)).map D.int)=(zl 0 (YR tb)).map prE:=by rw[show D.int 0::((YR tb).map (·.1)).map D.int=(0::(YR tb).map (·.1)).map D.int from rfl,Jdb];rfl
 rw[hz,<- GP];rw[show Ya roP roB ((zl 0 (YR tb)).reverse.map prE) [.sh (.lst (tb.map trE)),.od ((YR tb).map (·.1)) (((YR tb).map fun x=>x.2.map prE).map D.lst),g2,g3,g4,.sh (.lst (((YR tb).map (·.1)).map .int)),.sh (.row []),.no]=_ from hro];walk_at "ev"
theorem Jgg(K:Int)(rest:List Tr)(hK:1<=K)(hr:∀a',(∀b,a'=some b->b.1<=K)->Wl a' rest):∀(L:List Tr) (a:Option Pr),(∀t∈L,t.1=K/\1<=t.2.2)->(L.map (·.2.1)).Pairwise (·<·)->(∀b,a=some b->b.1<K\/(b.1=K/\∀t∈L,b.2<t.2.1))->Wl a (L++rest)
 | [],a,_,_,h=>hr a fun b e=>by rcases h b e with z|z <;> omega
 | t::L,a,h1,h2,h3=>by
  obtain⟨k1,k2⟩:=h1 t Qf;rw[Qd,QL] at h2;refine⟨by omega,k2,fun b e=>?_,Jgg K rest hK hr L _ (fun u hu=>h1 u (Qc _ hu)) h2.2 fun b e=>?_⟩
  ·rcases h3 b e with z|⟨z,y⟩
   ·exact .inl (by omega)
   ·exact .inr ⟨by omega,y t Qf⟩
  ·cases e;exact .inr ⟨k1,fun u hu=>h2.1 _ (Qx.mpr ⟨u,hu,rfl⟩)⟩
def Uz(g:Good q)(k:Int):((Jt k q).map (·.2.1)).Pairwise (·<·):=by
 have h:=Jjd (spF q) [] (by simp) (fun _ h=>by simp at h) (JkY 0 g)
 have e:(Jt k q).map (·.2.1)=(((JM q).filter fun t=>decide (t.2.1>t.2.2)).map (·.1)):=by unfold Jt;rw[Qw];rfl
 rw[e]
 have e2:(JM q).map (·.1)=(Y6 (spF q)).map (·.1):=by unfold JM;rw[Qw];rfl
 have h':((JM q).map (·.1)).Pairwise (·<·):=by rw[e2];exact h
 rw[KA] at h' ⊢;exact h'.filter _
theorem Ym:∀(n:Nat) (k:Int) (qs:List Pr) (a:Option Pr),Good qs->0<=k->(∀b,a=some b->b.1<=k)->Wl a (tbN n k qs)
 | 0,_,_,_,_,_,_=>trivial
 | n+1,k,qs,a,g,hk,ha=>by rw[tbN];refine Jgg (k+1) _ (by omega) (fun a' h=>Ym n (k+1) (thF qs) a' (JB g) (by omega) h) _ a (fun t ht=>⟨Yc ht,YM ht⟩) (Uz g (k+1)) fun b e=>.inl (by have:=ha b e;omega)
theorem J3:∀{tb:List Tr} {a:Option Pr},Wl a tb->∀t∈tb,1<=t.1/\1<=t.2.2
 | [],_,_,_,h=>by cases h
 | t::r,a,h,u,hu=>by
  obtain⟨h1,h2,_,h4⟩:=h;rcases Qk.mp hu with z|z
  ·rw[z];exact⟨h1,h2⟩
  ·exact J3 h4 u z
theorem JcF:∀{tb:List Tr},(∀t∈tb,1<=t.2.2)->(tb.length:Int)<=Y7 tb/\∀t∈tb,t.2.2<=Y7 tb
 | [],_=>⟨QD _,fun _ h=>by cases h⟩
 | t::r,h=>by
  obtain⟨h1,h2⟩:=JcF fun u hu=>h u (Qc t hu)
  have ht:=h t Qf
  have e:Y7 (t::r)=t.2.2+Y7 r:=by unfold Y7;rw[Qd,QE]
  rw[e,Qv];refine⟨by omega,fun u hu=>?_⟩;rcases Qk.mp hu with z|z
  ·rw[z];omega
  ·have:=h2 u z;omega
theorem JaN:∀(n:Nat) (k:Int) {qs:List Pr},Good qs->thN n qs=[]->((tbN n k qs).map fun t=>(t.1-k)*t.2.2).sum=(qs.map (·.2)).sum
 | 0,k,qs,g,h=>by have:qs=[]:=h;subst this;rfl
 | n+1,k,qs,g,h=>by
  have ih:=JaN n (k+1) (JB g) h
  have l:=ZH g (k+1)
  have s:=VA n (k+1) (JB g) h
  have ts:=JhD g;unfold Y7 at l s;rw[tbN,QT,LH]
  have e1:(Jt (k+1) qs).map (fun t=>(t.1-k)*t.2.2)=(Jt (k+1) qs).map (·.2.2):=QG fun t ht=>by rw[Yc ht,show k+1-k=1 by omega,Xb]
  have e2:(tbN n (k+1) (thF qs)).map (fun t=>(t.1-k)*t.2.2)=(tbN n (k+1) (thF qs)).map fun t=>t.2.2+(t.1-(k+1))*t.2.2:=QG fun t ht=>by rw[show t.1-k=1+(t.1-(k+1)) by omega,K0,Xb]
  rw[e1,e2,Jhu,ih,l,s,ts];omega
noncomputable def mvP(d:Int)(ps:List Pr):List Pr:=ps.map fun p=>(p.1-d,p.2)
def JpB(d:Int)(ps:List Pr):(mvP d ps).length=ps.length:=by unfold mvP;simp
def JgY{d:Int}{ps:List Pr}(g:Good ps):Good (mvP d ps):=by
 refine⟨fun i p e=>?_,fun i p q e1 e2=>?_⟩
 ·unfold mvP at e;rw[Qq,Q0] at e;obtain⟨x,hx,rfl⟩:=e;exact g.one i x hx
 ·unfold mvP at e1 e2;rw[Qq,Q0] at e1 e2;obtain⟨x,hx,rfl⟩:=e1;obtain⟨y,hy,rfl⟩:=e2;have:=g.gap i x y hx hy;dsimp only;omega
def Jrw(d k:Int)(ps:List Pr):byF k (mvP d ps)=mvP d (byF k ps):=by
 refine GJ fun i=>?_
 unfold byF mvP;rw[QJ,Qq,Qq,QJ,KM,KM]
 cases ps[i]? with
 | none=>rfl
 | some p=>exact congrArg some (KL (by show p.1-d+2*k*(i:Int)=p.1+2*k*(i:Int)-d;omega) rfl)
theorem JcD(d:Int):∀(r:List Pr) (cur:Pr),clF (cur.1-d,cur.2) (mvP d r)=mvP d (clF cur r)
 | [],cur=>rfl
 | p::r,cur=>by
  show clF (cur.1-d,cur.2) ((p.1-d,p.2)::mvP d r)=_;rw[clF,clF];dsimp only
  by_cases h:cur.1+cur.2=p.1
  ·rw[if_pos (by omega),if_pos h];exact JcD d r (cur.1,cur.2+p.2)
  ·rw[if_neg (by omega),if_neg h];split
   ·rw[JcD d r p];rfl
   ·exact JcD d r cur
theorem JfA(d:Int):∀(ps:List Pr),clN (mvP d ps)=mvP d (clN ps)
 | []=>rfl
 | p::r=>by
  show clN ((p.1-d,p.2)::mvP d r)=_;rw[clN,clN];split
  ·exact JcD d r p
  ·exact JfA d r
def JgZ(d:Int)(ps:List Pr):thF (mvP d ps)=mvP d (thF ps):=by unfold thF;rw[Jrw,JfA]
theorem Jj8(d:Int):∀(n:Nat) (ps:List Pr),thN n (mvP d ps)=mvP d (thN n ps)
 | 0,_=>rfl
 | n+1,ps=>by show thN n (thF (mvP d ps))=mvP d (thN n (thF ps));rw[JgZ,Jj8 d n]
def Jrz(d:Int)(ps:List Pr):spF (mvP d ps)=(spF ps).map (·-d):=by
 refine GJ fun i=>?_
 unfold spF mvP;rw[Qq,Qq,Qq,Lj,Lj,Qq]
 cases ps[i]? with
 | none=>rfl
 | some p=>exact congrArg some (by show p.1-d+p.2-1-2*((0+i:Nat):Int)=p.1+p.2-1-2*((0+i:Nat):Int)-d;omega)
def JfB(d:Int)(ps:List Pr)(x:Int):JJ (mvP d ps) (x-d)=JJ ps x:=by
 induction ps with
 | nil=>rfl
 | cons p r ih =>
  show JJ ((p.1-d,p.2)::mvP d r) (x-d)=_;rw[Jw,Jw,ih];dsimp only;congr 2
  ·rw[decide_eq_decide];omega
  ·rw[decide_eq_decide];omega
def Jry(d:Int)(ps:List Pr)(x:Int):owF (mvP d ps) (x-d)=owF ps x:=by unfold owF;rw[JfB,show x-d-1=x-1-d by omega,JfB]
def JpA(d:Int)(L:List Int):Y6 (L.map (·-d))=(Y6 L).map fun p=>(p.1-d,p.2):=by have:=Jbp d L [];exact this
def Jj7(d k:Int)(ps:List Pr):Jt k (mvP d ps)=(Jt k ps).map fun t=>(t.1,t.2.1-d,t.2.2):=by
 have e:JM (mvP d ps)=(JM ps).map fun t=>(t.1-d,t.2.1,t.2.2):=by
  unfold JM;rw[Jrz,JpA,Qw,Qw];refine QG fun p _=>?_
  show(p.1-d,p.2,owF (thF (mvP d ps)) (p.1-d))=(p.1-d,p.2,owF (thF ps) p.1)
  rw[JgZ,Jry]
 unfold Jt;rw[e,List.filter_map,Qw,Qw];rfl
theorem Joj(d:Int):∀(n:Nat) (k:Int) (ps:List Pr),tbN n k (mvP d ps)=(tbN n k ps).map fun t=>(t.1,t.2.1-d,t.2.2)
 | 0,_,_=>rfl
 | n+1,k,ps=>by rw[tbN,tbN,QT,Jj7,JgZ,Joj d n]
noncomputable def goS(s:Int):Int->List Pr->List Pr
 | _,[]=>[]
 | ins,[p]=>[(p.1+min p.2 (s-ins),p.2-min p.2 (s-ins)+(ins+min p.2 (s-ins)))]
 | ins,p::q::r=>(p.1+min p.2 (s-ins),p.2-min p.2 (s-ins)+min (ins+min p.2 (s-ins)) (q.1-p.1-p.2))::goS s (max 0 (ins+min p.2 (s-ins)-(q.1-p.1-p.2))) (q::r)
def J4(s ins:Int)(p q:Pr)(r:List Pr):goS s ins (p::q::r)=(p.1+min p.2 (s-ins),p.2-min p.2 (s-ins)+min (ins+min p.2 (s-ins)) (q.1-p.1-p.2))::goS s (max 0 (ins+min p.2 (s-ins)-(q.1-p.1-p.2))) (q::r):=rfl
theorem Ww{s:Int}:∀(ps:List Pr) (ins:Int),Good ps->0<=ins->ins<=s-1->Good (goS s ins ps)/\∀q,(goS s ins ps)[0]?=some q->∀p,ps[0]?=some p->q.1=p.1+min p.2 (s-ins)
 | [],_,_,_,_=>⟨Good.nil,fun q e=>by simp[goS] at e⟩
 | [p],ins,g,h0,h1=>by
  have hp:=g.one 0 p rfl;refine⟨Good.mk' ?_ (fun q e=>by simp at e) Good.nil,fun q e p' e'=>?_⟩
  ·dsimp only;omega (config:={})
  ·simp[goS] at e e';subst e';rw[<- e]
 | p::q::r,ins,g,h0,h1=>by
  have hp:=g.one 0 p rfl
  have hq:=g.one 1 q rfl
  have hg:=g.gap 0 p q rfl rfl;obtain⟨t,ht,t0,t2⟩:∃t,min p.2 (s-ins)=t/\1<=t/\ins+t<=s:=⟨_,rfl,Xp.mpr ⟨hp,by omega (config:={})⟩,by have:=Lx p.2 (s-ins);omega (config:={})⟩
  have t1:t<=p.2:=by rw[<- ht];exact RQ _ _
  have l1:max 0 (ins+t-(q.1-p.1-p.2))<=s-1:=Xo.mpr ⟨by omega (config:={}),by omega (config:={})⟩
  have w0:1<=min (ins+t) (q.1-p.1-p.2):=Xp.mpr ⟨by omega (config:={}),by omega (config:={})⟩
  have w1:=Lx (ins+t) (q.1-p.1-p.2);obtain⟨i1,i2⟩:=Ww (s:=s) (q::r) (max 0 (ins+t-(q.1-p.1-p.2))) (Good.cons' g) (MK _ _) l1
  have u0:1<=min q.2 (s-max 0 (ins+t-(q.1-p.1-p.2))):=Xp.mpr ⟨hq,by omega (config:={})⟩;rw[J4,ht]
  have ht':=ht
  clear ht;refine⟨Good.mk' ?_ (fun q' e=>?_) i1,fun q' e p' e'=>?_⟩
  ·dsimp only
   revert w0
   generalize min (ins+t) (q.1-p.1-p.2)=w
   intro w0;omega (config:={})
  ·have i3:=i2 q' e q rfl;dsimp only
   revert w0 w1 u0 i3
   generalize min (ins+t) (q.1-p.1-p.2)=w
   generalize min q.2 _=u
   intro w0 w1 u0 i3;omega (config:={})
  ·simp at e e';subst e';rw[<- e,ht']
theorem JjH(s:Int):∀(ps:List Pr) (ins:Int),(goS s ins ps).length=ps.length
 | [],_=>rfl
 | [p],_=>rfl
 | p::q::r,ins=>by rw[J4,Qv,JjH s (q::r)];rfl
theorem ZB:∀(ps:List Pr),Wide 0 ps->goS 0 0 ps=ps
 | [],_=>rfl
 | [p],w=>by
  have hp:=w.one 0 p rfl
  show [(p.1+min p.2 (0-0),p.2-min p.2 (0-0)+(0+min p.2 (0-0)))]=[p]
  congr 1;exact KL (by dsimp only;omega) (by dsimp only;omega)
 | p::q::r,w=>by
  have hp:=w.one 0 p rfl
  have hg:=w.gap 0 p q rfl rfl;rw[J4,show max 0 (0+min p.2 (0-0)-(q.1-p.1-p.2))=0 by omega,ZB (q::r) w.cons];congr 1;exact KL (by dsimp only;omega) (by dsimp only;omega)
theorem JjG(s:Int):∀(ps:List Pr) (c ins:Int),Good ps->0<=ins->ins<=s-1->byR c (goS s ins ps)=mvP (-1) (goS (s-1) ins (byR c ps))
 | [],_,_,_,_,_=>rfl
 | [p],c,ins,g,h0,h1=>by
  have hp:=g.one 0 p rfl
  show [(p.1+min p.2 (s-ins)-c,p.2-min p.2 (s-ins)+(ins+min p.2 (s-ins))-1)]=[(p.1-c+min (p.2-1) (s-1-ins) - -1,p.2-1-min (p.2-1) (s-1-ins)+(ins+min (p.2-1) (s-1-ins)))]
  congr 1;exact KL (by dsimp only;omega) (by dsimp only;omega)
 | p::q::r,c,ins,g,h0,h1=>by
  have hp:=g.one 0 p rfl
  have hg:=g.gap 0 p q rfl rfl
  have hm:min (p.2-1) (s-1-ins)=min p.2 (s-ins)-1:=by omega
  have ht:=Lx p.2 (s-ins)
  revert hm ht
  generalize ht:min p.2 (s-ins)=t
  intro hm h3;have ih:=JjG s (q::r) (c+2) (max 0 (ins+t-(q.1-p.1-p.2))) (Good.cons' g) (MK _ _) (Xo.mpr ⟨by omega,by omega⟩);rw[J4,ht,byR,ih];show _=mvP (-1) (goS (s-1) ins ((p.1-c,p.2-1)::(q.1-(c+2),q.2-1)::byR (c+2+2) r));rw[J4];dsimp only;rw[hm,show q.1-(c+2)-(p.1-c)-(p.2-1)=q.1-p.1-p.2-1 by omega,show ins+(t-1)-(q.1-p.1-p.2-1)=ins+t-(q.1-p.1-p.2) by omega,show min (ins+(t-1)) (q.1-p.1-p.2-1)=min (ins+t) (q.1-p.1-p.2)-1 by omega]
  show _=(p.1-c+(t-1) - -1,p.2-1-(t-1)+(min (ins+t) (q.1-p.1-p.2)-1))::mvP (-1) (goS (s-1) (max 0 (ins+t-(q.1-p.1-p.2))) (byR (c+2) (q::r)));rw[show p.1-c+(t-1) - -1=p.1+t-c by omega,show p.2-1-(t-1)+(min (ins+t) (q.1-p.1-p.2)-1)=p.2-t+min (ins+t) (q.1-p.1-p.2)-1 by omega]
def ZI(h:A=B):(A || T)=(B || T):=by rw[h]
noncomputable def inI(a b x:Int):Bool:=decide (a<=x) && decide (x<b)
def inI_t:inI a b x=true↔a<=x/\x<b:=by unfold inI;simp
def Yf(p:Pr)(ps:List Pr)(x:Int):JJ (p::ps) x=(inI p.1 (p.1+p.2) x || JJ ps x):=Jw p ps x
def Jmi(h:(a<=x/\x<b)↔(c<=x/\x<d)\/(e<=x/\x<f)):inI a b x=(inI c d x || inI e f x):=by rw[Ki,LI,inI_t,inI_t,inI_t];exact h
def Jq(p:Pr)(ps:List Pr):Jk (p::ps)=(p.1+p.2)::Jk ps:=rfl
def JdN(h:c<=a):inI a c x=false:=by rw[Bool.eq_false_iff];intro z;have:=inI_t.mp z;omega
def JdM(h:(c=a/\d=e/\f=b/\c<=d/\e<=f)\/(d<=c/\e=a/\f=b)\/(f<=e/\c=a/\d=b)):inI a b x=(inI c d x || inI e f x):=by
 rcases h with ⟨rfl,rfl,rfl,h1,h2⟩|⟨h1,rfl,rfl⟩|⟨h1,rfl,rfl⟩
 ·exact Jmi (by omega (config:={}))
 ·rw[JdN h1,G8]
 ·rw[JdN h1,MC]
def Jrd{A B C D x:Int}{l:List Int}(h:(A=C/\B=D)\/(A=D/\B=C)):(A::B::l).count x=(C::l).count x+(if D=x then 1 else 0):=by rcases h with ⟨rfl,rfl⟩|⟨rfl,rfl⟩ <;> simp only[QV,beq_iff_eq] <;> omega
def Job(e:c1+c2=p1)(hz:t=c2\/u=0)(t1:t<=c2)(hw:0<=p2+w):inI (c1+(t+u)) (c1+(t+u)+(c2+p2-(t+u)+w)) x=(inI (c1+t) (c1+t+(c2-t+0)) x || inI (p1+u) (p1+u+(p2-u+w)) x):=by
 subst e;refine JdM ?_;rcases hz with z|z
 ·exact .inr (.inl ⟨by omega,by omega,by omega⟩)
 ·exact .inl ⟨by omega,by omega,by omega,by omega,by omega⟩
def Jn5(e:c1+c2=p1)(l:List Int):(c1+t+(c2-t+0))::(p1+u+(p2-u+w))::l=(c1+c2)::(c1+(t+u)+(c2+p2-(t+u)+w))::l:=by rw[show c1+t+(c2-t+0)=c1+c2 by omega,show p1+u+(p2-u+w)=c1+(t+u)+(c2+p2-(t+u)+w) by omega]
def Joc(hp:p2=0)(hk:y=0\/v=p1-c1-c2)(y0:0<=y)(t1:t<=c2)(v0:0<=v):inI (c1+t) (c1+t+(c2-t+(v+y))) x=(inI (c1+t) (c1+t+(c2-t+v)) x || inI (p1+0) (p1+0+(p2-0+y)) x):=by
 refine JdM ?_;rcases hk with z|z
 ·exact .inr (.inr ⟨by omega,rfl,by omega⟩)
 ·exact .inl ⟨rfl,by omega,by omega,by omega,by omega⟩
def Jn6{c1 c2 p1 p2 t v y x:Int}{l:List Int}(hp:p2=0)(hk:y=0\/v=p1-c1-c2):((c1+t+(c2-t+v))::(p1+0+(p2-0+y))::l).count x=((c1+t+(c2-t+(v+y)))::l).count x+(if p1=x then 1 else 0):=by
 refine Jrd ?_;rcases hk with z|z
 ·exact .inl ⟨by omega,by omega⟩
 ·exact .inr ⟨by omega,by omega⟩
theorem Jcr(s x:Int):∀(r:List Pr) (cur:Pr) (ins:Int),0<=cur.2->Wide 0 r->(∀q,r[0]?=some q->cur.1+cur.2<=q.1)->0<=ins->ins<=s ->
 JJ (goS s ins (clF cur r)) x=JJ (goS s ins (cur::r)) x/\(Jk (goS s ins (cur::r))).count x+(Jk (clF cur r)).count x=(Jk (goS s ins (clF cur r))).count x+(Jk (cur::r)).count x
 | [],_,_,_,_,_,_,_=>⟨rfl,rfl⟩
 | p::r,cur,ins,hc,w,hq,h0,h1=>by
  have hp:=w.one 0 p rfl
  have hb:=hq p rfl
  have nx:∀q,r[0]?=some q->p.1+p.2<=q.1:=fun q e=>by have:=w.gap 0 p q rfl (by simpa using e);omega (config:={})
  rw[clF];split
  ·next e =>
   obtain⟨i1,i2⟩:=Jcr s x r (cur.1,cur.2+p.2) ins (by dsimp only;omega (config:={})) w.cons (fun q e'=>by have:=nx q e';dsimp only;omega (config:={})) h0 h1;obtain⟨t,u,ht,hl,hd,hu,hm,t0,t1,u0,u1,hz⟩:=Jsl e hc hp h0 h1
   have e2:Jk (cur::p::r)=(cur.1+cur.2)::Jk ((cur.1,cur.2+p.2)::r):=by rw[Jq,Jq,Jq];dsimp only;rw[show cur.1+(cur.2+p.2)=p.1+p.2 by omega (config:={})]
   cases r with
   | nil =>
    have f1:goS s ins [cur,p]=[(cur.1+t,cur.2-t+0),(p.1+u,p.2-u+(ins+t+u))]:=by rw[J4,ht,hl,hd];show _::[(p.1+min p.2 (s-(ins+t)),p.2-min p.2 (s-(ins+t))+(ins+t+min p.2 (s-(ins+t))))]=_;rw[hu]
    have f2:goS s ins [(cur.1,cur.2+p.2)]=[(cur.1+(t+u),cur.2+p.2-(t+u)+(ins+t+u))]:=by show [(cur.1+min (cur.2+p.2) (s-ins),cur.2+p.2-min (cur.2+p.2) (s-ins)+(ins+min (cur.2+p.2) (s-ins)))]=_;rw[hm,Rm ins]
    clear ht hl hd hu hm;refine⟨?_,?_⟩
    ·rw[i1,f1,f2,Yf,Yf,Yf,<- L7];exact ZI (Job e hz t1 (by omega (config:={})))
    ·have e1:Jk (goS s ins [cur,p])=(cur.1+cur.2)::Jk (goS s ins [(cur.1,cur.2+p.2)]):=by rw[f1,f2,Jq,Jq,Jq];exact Jn5 e _
     rw[e1,e2,QV,QV];omega (config:={})
   | cons q r =>
    have hn:=nx q rfl
    have f1:goS s ins (cur::p::q::r)=(cur.1+t,cur.2-t+0)::(p.1+u,p.2-u+min (ins+t+u) (q.1-p.1-p.2))::goS s (max 0 (ins+t+u-(q.1-p.1-p.2))) (q::r):=by rw[J4,ht,hl,hd,J4,hu]
    have f2:goS s ins ((cur.1,cur.2+p.2)::q::r)=(cur.1+(t+u),cur.2+p.2-(t+u)+min (ins+t+u) (q.1-p.1-p.2))::goS s (max 0 (ins+t+u-(q.1-p.1-p.2))) (q::r):=by rw[J4];dsimp only;rw[hm,show q.1-cur.1-(cur.2+p.2)=q.1-p.1-p.2 by omega (config:={}),show ins+(t+u)=ins+t+u by omega (config:={})]
    clear ht hl hd hu hm;have w0:0<=min (ins+t+u) (q.1-p.1-p.2):=by omega (config:={})
    generalize min (ins+t+u) (q.1-p.1-p.2)=v at w0 f1 f2
    refine⟨?_,?_⟩
    ·rw[i1,f1,f2,Yf,Yf,Yf,<- L7];exact ZI (Job e hz t1 (by omega (config:={})))
    ·have e1:Jk (goS s ins (cur::p::q::r))=(cur.1+cur.2)::Jk (goS s ins ((cur.1,cur.2+p.2)::q::r)):=by rw[f1,f2,Jq,Jq,Jq];exact Jn5 e _
     rw[e1,e2,QV,QV];omega (config:={})
  ·next e =>
   split
   ·next hpp =>
    obtain⟨q',e1,e2⟩:=ZW r p;obtain⟨i1,i2⟩:=Jcr s x r p (max 0 (ins+min cur.2 (s-ins)-(p.1-cur.1-cur.2))) (by omega (config:={})) w.cons nx (by omega (config:={})) (by omega (config:={}))
    cases hcl:clF p r with
    | nil=>rw[hcl] at e1;cases e1
    | cons y l =>
     rw[hcl] at e1 i1 i2;have:y=q':=by simpa using e1
     subst this;rw[J4,J4,e2];refine⟨?_,?_⟩
     ·rw[Yf,Yf,i1]
     ·rw[Jq _ (goS s _ (p::r)),Jq cur (y::l),Jq _ (goS s _ (y::l)),Jq cur (p::r),QV,QV,QV,QV];omega (config:={})
   ·next hpp =>
    have hp0:p.2=0:=by omega (config:={})
    obtain⟨i1,i2⟩:=Jcr s x r cur ins hc w.cons (fun q e'=>by have:=nx q e';omega (config:={})) h0 h1;obtain⟨t,m,v,ht,hl,hd,hu,t0,t1,hz⟩:=bare hb hp0 hc h0 h1;have v0:0<=v:=by rcases hz with ⟨z1,z2,z3⟩|⟨z1,z2,z3⟩ <;> omega (config:={})
    have e2:(Jk (cur::p::r)).count x=(Jk (cur::r)).count x+(if p.1=x then 1 else 0):=by rw[Jq,Jq,Jq];exact Jrd (.inl ⟨rfl,by omega (config:={})⟩)
    cases r with
    | nil =>
     obtain⟨k1,k2,k3⟩:(m+0=0\/v=p.1-cur.1-cur.2)/\ins+t=v+(m+0)/\0<=m+0:=by rcases hz with ⟨z1,z2,z3⟩|⟨z1,z2,z3⟩ <;> omega (config:={})
     have f1:goS s ins [cur,p]=[(cur.1+t,cur.2-t+v),(p.1+0,p.2-0+(m+0))]:=by rw[J4,ht,hl,hd];show _::[(p.1+min p.2 (s-m),p.2-min p.2 (s-m)+(m+min p.2 (s-m)))]=_;rw[hu]
     have f2:goS s ins [cur]=[(cur.1+t,cur.2-t+(v+(m+0)))]:=by show [(cur.1+min cur.2 (s-ins),cur.2-min cur.2 (s-ins)+(ins+min cur.2 (s-ins)))]=_;rw[ht,k2]
     refine⟨?_,?_⟩
     ·rw[i1,f1,f2,Yf,Yf,Yf,<- L7];exact ZI (Joc hp0 k1 k3 t1 v0)
     ·rw[show(Jk (goS s ins [cur,p])).count x=(Jk (goS s ins [cur])).count x+(if p.1=x then 1 else 0) by rw[f1,f2,Jq,Jq,Jq];exact Jn6 hp0 k1,e2]
      omega (config:={})
    | cons q r =>
     have hn:=nx q rfl
     obtain⟨y,y0,k1,k2,k3,k4⟩:∃y:Int,0<=y/\min (m+0) (q.1-p.1-p.2)=y/\min (ins+t) (q.1-cur.1-cur.2)=v+y/\max 0 (m+0-(q.1-p.1-p.2))=max 0 (ins+t-(q.1-cur.1-cur.2))/\(y=0\/v=p.1-cur.1-cur.2):=by
      rcases hz with ⟨z1,z2,z3⟩|⟨z1,z2,z3⟩
      ·subst z1 z2;exact⟨0,QD _,by omega (config:={}),by omega (config:={}),by omega (config:={}),.inl rfl⟩
      ·subst z1 z2;exact⟨_,by omega (config:={}),rfl,by omega (config:={}),by omega (config:={}),.inr rfl⟩
     have f1:goS s ins (cur::p::q::r)=(cur.1+t,cur.2-t+v)::(p.1+0,p.2-0+y)::goS s (max 0 (ins+t-(q.1-cur.1-cur.2))) (q::r):=by rw[J4,ht,hl,hd,J4,hu,k1,k3]
     have f2:goS s ins (cur::q::r)=(cur.1+t,cur.2-t+(v+y))::goS s (max 0 (ins+t-(q.1-cur.1-cur.2))) (q::r):=by rw[J4,ht,k2]
     refine⟨?_,?_⟩
     ·rw[i1,f1,f2,Yf,Yf,Yf,<- L7];exact ZI (Joc hp0 k4 y0 t1 v0)
     ·rw[show(Jk (goS s ins (cur::p::q::r))).count x=(Jk (goS s ins (cur::q::r))).count x+(if p.1=x then 1 else 0) by rw[f1,f2,Jq,Jq,Jq];exact Jn6 hp0 k4,e2]
      omega (config:={})
theorem Jfm(s x:Int)(hs:0<=s):∀(ps:List Pr),Wide 0 ps->JJ (goS s 0 (clN ps)) x=JJ (goS s 0 ps) x/\(Jk (goS s 0 ps)).count x+(Jk (clN ps)).count x=(Jk (goS s 0 (clN ps))).count x+(Jk ps).count x
 | [],_=>⟨rfl,rfl⟩
 | p::r,w=>by
  have hp:=w.one 0 p rfl;rw[clN];split
  ·next h=>exact Jcr s x r p 0 hp w.cons (fun q e=>by have:=w.gap 0 p q rfl (by simpa using e);omega) (QD _) hs
  ·next h =>
   have hp0:p.2=0:=by omega
   obtain⟨i1,i2⟩:=Jfm s x hs r w.cons
   have e:goS s 0 (p::r)=p::goS s 0 r:=by
    cases r with
    | nil =>
     show [(p.1+min p.2 (s-0),p.2-min p.2 (s-0)+(0+min p.2 (s-0)))]=[p]
     congr 1;exact KL (by dsimp only;omega) (by dsimp only;omega)
    | cons q r=>have:=w.gap 0 p q rfl rfl;rw[J4,show max 0 (0+min p.2 (s-0)-(q.1-p.1-p.2))=0 by omega];congr 1;exact KL (by dsimp only;omega) (by dsimp only;omega)
   rw[e];refine⟨?_,?_⟩
   ·rw[i1,Yf,show inI p.1 (p.1+p.2) x=false by
     cases c:inI p.1 (p.1+p.2) x with
     | false=>rfl
     | true=>rw[inI_t] at c;omega]
    rfl
   ·rw[Jq,Jq p r,QV,QV];omega
def JgX(d:Int)(ps:List Pr):Jk (mvP d ps)=(Jk ps).map (·-d):=by unfold Jk mvP;rw[Qw,Qw];exact QG fun p _=>by show p.1-d+p.2=p.1+p.2-d;omega
def JmJ(w:Wide c (mvP d ps)):Wide c ps:=by refine⟨fun i p e=>w.one i (p.1-d,p.2) (by unfold mvP;rw[Qq,e];rfl),fun i p q e1 e2=>?_⟩;have:=w.gap i (p.1-d,p.2) (q.1-d,q.2) (by unfold mvP;rw[Qq,e1];rfl) (by unfold mvP;rw[Qq,e2];rfl);dsimp only at this;omega
def Jld(hs:1<=s)(g:Good ps):thF (goS s 0 ps)=mvP (-1) (goS (s-1) 0 (thF ps)):=by
 have g1:=(Ww (s:=s) ps 0 g (QD _) (by omega)).1
 have e:byF (-1) (goS s 0 ps)=mvP (-1) (goS (s-1) 0 (byF (-1) ps)):=by rw[<- YK,<- YK];exact JjG s ps 0 0 g (QD _) (by omega)
 have w1:Wide 0 (goS (s-1) 0 (byF (-1) ps)):=by have:Wide (1+-1) (byF (-1) (goS s 0 ps)):=(Yl g1).bys (k:=-1);rw[e] at this;exact JmJ this
 have w0:Wide 0 (byF (-1) ps):=by
  have z:Wide (1+-1) (byF (-1) ps):=(Yl g).bys (k:=-1)
  rwa [show(1:Int)+-1=0 by decide] at z
 have gt:=JB g
 have g2:Good (goS (s-1) 0 (thF ps)):=by
  by_cases h:s-1=0
  ·rw[h,ZB _ ((Yl gt).mono (by omega))];exact gt
  ·exact(Ww (s:=s-1) (thF ps) 0 gt (QD _) (by omega)).1
 have key:clN (goS (s-1) 0 (byF (-1) ps))=goS (s-1) 0 (thF ps):=by
  refine ZD (ZX _ w1) g2 fun x=>?_
  rw[Jb5 x _ fun p hp=>by obtain⟨i,hi,rfl⟩:=GD.mp hp;exact w1.one i _ (by simp)]
  exact(Jfm (s-1) x (by omega) (byF (-1) ps) w0).1.symm
 show clN (byF (-1) (goS s 0 ps))=_;rw[e,JfA,key]
def Jsh(hs:1<=s)(g:Good ps)(x:Int):(spF (goS s 0 ps)).count (x+1)+(Jk (thF ps)).count x=(Jk (thF (goS s 0 ps))).count (x+1)+(spF ps).count x:=by
 have w0:Wide 0 (byF (-1) ps):=by
  have z:Wide (1+-1) (byF (-1) ps):=(Yl g).bys (k:=-1)
  rwa [show(1:Int)+-1=0 by decide] at z
 have e:byF (-1) (goS s 0 ps)=mvP (-1) (goS (s-1) 0 (byF (-1) ps)):=by rw[<- YK,<- YK];exact JjG s ps 0 0 g (QD _) (by omega)
 have sb:∀q:List Pr,spF q=Jk (byF (-1) q):=fun q=>by
  have z:=JeJ (-1) q
  rwa [show(-1:Int)+1=0 by omega,Wo] at z
 have cm:∀l:List Int,(l.map (· - -1)).count (x+1)=l.count x:=fun l=>by
  induction l with
  | nil=>rfl
  | cons y l ih =>
   rw[Qd,QV,QV,ih];congr 1
   by_cases h:y=x
   ·subst h;simp
   ·rw[if_neg (by simpa using h),if_neg (by simp;omega)]
 have k:=(Jfm (s-1) x (by omega) (byF (-1) ps) w0).2;rw[sb,e,JgX,cm,Jld hs g,JgX,cm,sb ps];exact k
theorem Jfu:∀{a b:List Pr},(a.map (·.1)).Pairwise (·<·)->(b.map (·.1)).Pairwise (·<·)->(∀p∈a,1<=p.2)->(∀p∈b,1<=p.2)->(∀x,lk x a=lk x b)->a=b
 | [],[],_,_,_,_,_=>rfl
 | [],q::b,_,_,_,h,e=>by
  have:=e q.1;rw[lk,lk,if_pos rfl] at this
  have:=h q Qf;omega
 | p::a,[],_,_,h,_,e=>by
  have:=e p.1;rw[lk,lk,if_pos rfl] at this
  have:=h p Qf;omega
 | p::a,q::b,ha,hb,h1,h2,e=>by
  rw[Qd,QL] at ha hb
  have out:∀{l:List Pr} {x:Int},(∀y∈l.map (·.1),x<y)->lk x l=0:=fun {l x} h=>by
   induction l with
   | nil=>rfl
   | cons r l ih=>rw[lk,if_neg fun z=>by have:=h r.1 (by simp);omega];exact ih fun y hy=>h y (by rw[Qd];exact Qc _ hy)
  have hp:=h1 p Qf
  have hq:=h2 q Qf
  have ek:p.1=q.1:=by
   rcases Int.lt_trichotomy p.1 q.1 with z|z|z
   ·have:=e p.1;rw[lk,if_pos rfl,lk,if_neg (by omega),out fun y hy=>by have:=hb.1 y hy;omega] at this;omega
   ·exact z
   ·have:=e q.1;rw[lk,if_neg (by omega),lk,if_pos rfl,out fun y hy=>by have:=ha.1 y hy;omega] at this;omega
  have ev:p.2=q.2:=by have:=e p.1;rw[lk,if_pos rfl,lk,if_pos ek.symm] at this;exact this
  have:p=q:=KL ek ev;subst this;rw[Jfu ha.2 hb.2 (fun r hr=>h1 r (Qc _ hr)) (fun r hr=>h2 r (Qc _ hr)) fun x=>?_]
  have:=e x;rw[lk,lk] at this
  by_cases c:p.1=x
  ·subst c;rw[out ha.1,out hb.1]
  ·rwa [if_neg c,if_neg c] at this
theorem ZG:∀{a:List Pr} {x:Int},x∉a.map (·.1)->lk x a=0
 | [],_,_=>rfl
 | p::r,x,h=>by rw[lk,if_neg fun z=>h (by rw[<- z];simp)];exact ZG fun m=>h (by rw[Qd];exact Qc _ m)
def JcA(hn:(a.map (·.1)).Nodup)(h:∀p∈a,1<=p.2)(x:Int):lk x a=((J1 a).count x:Int):=by
 rw[Jan,Jg2 (fun p=>((p.2.toNat:Nat):Int)) hn];split
 ·next m=>obtain⟨p,hp,e⟩:=Qx.mp m;subst e;rw[Jfv hn hp];have:=h p hp;dsimp only;omega
 ·next m=>exact ZG m
def UA(l:List Tr):(JY l).map (·.1)=l.map (·.2.1):=by unfold JY;rw[Qw];rfl
def W0(g:Good q)(k x:Int):lk x (JY (Jt k q))+((Jk (thF q)).count x:Int)=((spF q).count x:Int):=by
 have pw:=Uz g k;rw[JcA (by rw[UA];exact pw.imp fun {a b} h=>by omega) fun p hp=>by obtain⟨u,hu,e⟩:=Qx.mp hp;rw[<- e];exact YM hu]
 have:=((JI (Jk (thF q)++J1 (JY (Jt k q)))).count_eq x)
 rw[JbQ g k,Mv] at this;omega
def Jpo(hs:1<=s)(g:Good ps)(k:Int):Jt k (goS s 0 ps)=(Jt k ps).map fun t=>(t.1,t.2.1+1,t.2.2):=by
 have g1:=(Ww (s:=s) ps 0 g (QD _) (by omega)).1
 have pr:JY (Jt k (goS s 0 ps))=(JY (Jt k ps)).map fun p=>(p.1+1,p.2):=by
  have pw:=Uz g k
  have pk:(((JY (Jt k ps)).map fun p=>(p.1+1,p.2)).map (·.1))=((Jt k ps).map (·.2.1)).map (·+1):=by rw[<- UA,Qw,Qw];rfl
  refine Jfu (by rw[UA];exact Uz g1 k) (by
   rw[pk,KA];exact pw.imp fun {a b} h=>by omega) (fun p hp=>by
   obtain⟨u,hu,e⟩:=Qx.mp hp;rw[<- e];exact YM hu) (fun p hp=>by
   obtain⟨q,hq,e⟩:=Qx.mp hp;obtain⟨u,hu,e'⟩:=Qx.mp hq;rw[<- e,<- e'];exact YM hu) fun x=>?_
  have sh:∀a:List Pr,lk x (a.map fun p=>(p.1+1,p.2))=lk (x-1) a:=fun a=>by
   induction a with
   | nil=>rfl
   | cons p r ih =>
    rw[Qd,lk,lk,ih];dsimp only
    by_cases c:p.1+1=x
    ·rw[if_pos c,if_pos (by omega)]
    ·rw[if_neg c,if_neg (by omega)]
  rw[sh];have e1:=W0 g1 k x;have e2:=W0 g k (x-1);have e3:=Jsh hs g (x-1);rw[show x-1+1=x by omega] at e3;omega
 have back:∀l:List Tr,(∀t∈l,t.1=k)->l=(JY l).map fun p=>(k,p.1,p.2):=fun l h=>by
  unfold JY;rw[Qw];refine(Mw l).symm.trans (QG fun t ht=>?_);show t=(k,t.2.1,t.2.2)
  rw[<- h t ht]
 rw[back (Jt k (goS s 0 ps)) fun t ht=>Yc ht,pr,Qw]
 conv=>rhs;rw[back (Jt k ps) fun t ht=>Yc ht]
 rw[Qw];rfl
theorem Jk9:∀(n:Nat) (k s:Int) {ps:List Pr},Good ps->0<=s->tbN n k (goS s 0 ps)=(tbN n k ps).map fun t=>(t.1,t.2.1+min (t.1-k) s,t.2.2)
 | 0,_,_,_,_,_=>rfl
 | n+1,k,s,ps,g,hs=>by
  by_cases h0:s=0
  ·subst h0;rw[ZB ps ((Yl g).mono (by omega))];refine(Mw _).symm.trans (QG fun t ht=>?_);have:=WI _ _ _ t ht;show t=(t.1,t.2.1+min (t.1-k) 0,t.2.2)
   rw[show min (t.1-k) 0=0 by omega,MQ]
  ·have h1:1<=s:=by omega
   rw[tbN,tbN,QT,Jpo h1 g,Jld h1 g,Joj,Jk9 n (k+1) (s-1) (JB g) (by omega),Qw];congr 1
   ·refine QG fun t ht=>?_
    rw[Yc ht,show min (k+1-k) s=1 by omega]
   ·refine QG fun t ht=>?_
    have:=WI _ _ _ t ht
    show(t.1,t.2.1+min (t.1-(k+1)) (s-1) - -1,t.2.2)=(t.1,t.2.1+min (t.1-k) s,t.2.2)
    rw[show t.2.1+min (t.1-(k+1)) (s-1) - -1=t.2.1+min (t.1-k) s by omega]
noncomputable def Zp:Option Int->D
 | none=>.non
 | some s=>.int s
noncomputable def OkS(seats:Option Int):Prop:=∀s,seats=some s->1<=s
noncomputable def Sts(seats:Option Int)(s m:Int):Prop:=seats=some s\/(seats=none/\m<=s)
def JnK(a g:Int):a-min a g=max 0 (a-g):=by
 rcases LC a g with h|h
 ·rw[Kk h,Mc (by omega),XD]
 ·rw[GG h,KI (by omega)]
theorem JjI(s:Int):∀(ps:List Pr) (ins:Int),Good ps->0<=ins->ins<=s->((goS s ins ps).map (·.2)).sum=(if ps=[] then 0 else ins)+(ps.map (·.2)).sum
 | [],_,_,_,_=>rfl
 | [p],ins,g,h0,h1=>by simp[goS];omega (config:={})
 | p::q::r,ins,g,h0,h1=>by
  have hp:=g.one 0 p rfl
  have hg:=g.gap 0 p q rfl rfl
  have t2:=Lx p.2 (s-ins)
  have ih:=JjI s (q::r) (max 0 (ins+min p.2 (s-ins)-(q.1-p.1-p.2))) (Good.cons' g) (MK _ _) (Xo.mpr ⟨by omega (config:={}),by omega (config:={})⟩);rw[if_neg (by simp)] at ih
  have e0:((p::q::r).map (·.2)).sum=p.2+((q::r).map (·.2)).sum:=by rw[Qd,QE]
  have sm:=JnK (ins+min p.2 (s-ins)) (q.1-p.1-p.2);rw[J4,Qd,QE,ih,e0,if_neg (by simp),<- sm];dsimp only
  generalize min (ins+min p.2 (s-ins)) (q.1-p.1-p.2)=w
  generalize min p.2 (s-ins)=t
  omega (config:={})
def JgK(g:Good ps)(hs:0<=s):((goS s 0 ps).map (·.2)).sum=(ps.map (·.2)).sum:=by rw[JjI s ps 0 g (QD _) hs];split <;> omega
theorem Jlc:∀(n:Nat) (s:Int) {ps:List Pr},Good ps->0<=s->thN n ps=[]->thN n (goS s 0 ps)=[]
 | 0,s,ps,g,hs,h=>by have:ps=[]:=h;subst this;rfl
 | n+1,s,ps,g,hs,h=>by
  by_cases h0:s=0
  ·subst h0;rw[ZB ps ((Yl g).mono (by omega))];exact h
  ·show thN n (thF (goS s 0 ps))=[]
   rw[Jld (by omega) g,Jj8,Jlc n (s-1) (JB g) (by omega) h];rfl
noncomputable def goI(s:Int):Nat->List Pr->List Pr
 | 0,ps=>ps
 | n+1,ps=>goI s n (goS s 0 ps)
theorem JgJ(s:Int)(hs:1<=s)(N:Nat):∀(n:Nat) {ps:List Pr},Good ps->thN N ps=[]->Good (goI s n ps)/\(goI s n ps).length=ps.length/\((goI s n ps).map (·.2)).sum=(ps.map (·.2)).sum/\thN N (goI s n ps)=[] ∧
 tbN N 0 (goI s n ps)=(tbN N 0 ps).map fun t=>(t.1,t.2.1+(n:Int)*min t.1 s,t.2.2)
 | 0,ps,g,h=>⟨g,rfl,rfl,h,by
  refine(Mw _).symm.trans (QG fun t _=>?_);show t=(t.1,t.2.1+((0:Nat):Int)*min t.1 s,t.2.2)
  simp⟩
 | n+1,ps,g,h=>by
  have g1:=(Ww (s:=s) ps 0 g (QD _) (by omega)).1;obtain⟨a,b,c,d,e⟩:=JgJ s hs N n g1 (Jlc N s g (by omega) h);refine⟨a,by show(goI s n (goS s 0 ps)).length=_;rw[b,JjH],by show((goI s n (goS s 0 ps)).map (·.2)).sum=_;rw[c,JgK g (by omega)],d,?_⟩
  show tbN N 0 (goI s n (goS s 0 ps))=_;rw[e,Jk9 N 0 s g (by omega),Qw];refine QG fun t _=>?_
  show(t.1,t.2.1+min (t.1-0) s+(n:Int)*min t.1 s,t.2.2)=(t.1,t.2.1+((n+1:Nat):Int)*min t.1 s,t.2.2)
  rw[RM,KD,K0];congr 2;simp;omega
def Jla(g:Good ps)(hN:thN N ps=[]):∀t∈tbN N 0 ps,t.1<=(ps.map (·.2)).sum:=by
 have bl:=JaN N 0 g hN
 have asc:=Ym N 0 ps none g (QD _) (fun b e=>by cases e)
 have an:=J3 asc;rw[<- bl]
 clear bl
 revert an
 generalize tbN N 0 ps=l
 intro an
 have key:∀l:List Tr,(∀t∈l,1<=t.1/\1<=t.2.2)->0<=(l.map fun t=>(t.1-0)*t.2.2).sum/\∀t∈l,t.1<=(l.map fun t=>(t.1-0)*t.2.2).sum:=by
  intro l
  induction l with
  | nil=>exact fun _=>⟨QD _,fun _ h=>by cases h⟩
  | cons u l ih =>
   intro h;obtain⟨i1,i2⟩:=ih fun t ht=>h t (Qc _ ht)
   obtain⟨h1,h2⟩:=h u Qf
   have hm:u.1<=(u.1-0)*u.2.2:=by
    rw[RM];have:=Ly h2 (show 0<=u.1 by omega)
    rwa [MD] at this
   rw[Qd,QE];refine⟨by omega,fun t ht=>?_⟩;rcases Qk.mp ht with z|z
   ·rw[z];omega
   ·have:=i2 t z;omega
 exact(key l an).2
noncomputable def JnA(seats:Option Int)(x:Int):Int:=match seats with
 | none=>x
 | some s=>min x s
def JnB(h:Sts seats s x):JnA seats x=min x s:=by
 rcases h with z|⟨z,y⟩
 ·rw[z];rfl
 ·rw[z];show x=_;omega
def Jrt(seats:Option Int)(x:Int):Y0 [.sh (.int x),.sh (Zp seats)]=some (.sh (.int (JnA seats x))):=by
 unfold Y0
 cases seats with
 | none=>simp only[Zp,JnA];walk_at "ev"
 | some s=>simp only[Zp,JnA];walk_at "ev"
def JsD(seats:Option Int)(h:OkS seats):∃r,Yu [.sh (Zp seats)]=some r:=by
 unfold Yu
 cases seats with
 | none=>simp only[Zp];walk_at "ev";exact⟨_,rfl⟩
 | some s=>have:=h s rfl;simp only[Zp];walk_at "ev";rw[decide_eq_false (show ¬s<1 by omega)];walk_at "ev";exact⟨_,rfl⟩
noncomputable def Jpr(t:Int):List Pr->List Pr
 | []=>[]
 | h::l=>(h.1-t,h.2+t)::l
noncomputable def bkL(s:Int):List Pr->Int×List Pr
 | []=>(0,[])
 | [q]=>(min q.2 s,[(q.1,q.2-min q.2 s)])
 | q::q2::r =>
  ((bkL s (q2::r)).1-min (bkL s (q2::r)).1 (q2.1-q.1-q.2)+min q.2 (s-((bkL s (q2::r)).1-min (bkL s (q2::r)).1 (q2.1-q.1-q.2))),
    (q.1,q.2-min q.2 (s-((bkL s (q2::r)).1-min (bkL s (q2::r)).1 (q2.1-q.1-q.2))))::Jpr (min (bkL s (q2::r)).1 (q2.1-q.1-q.2)) (bkL s (q2::r)).2)
noncomputable def bkS(s:Int)(ps:List Pr):List Pr:=Jpr (bkL s ps).1 (bkL s ps).2
theorem Jgk(hs:1<=s):∀(r:List Pr) (q:Pr),Good (q::r)->∃(b x:Int) (tl:List Pr),bkL s (q::r)=(b,(q.1,q.2-x)::tl)/\1<=x/\x<=b/\b<=s/\x<=q.2/\(q.2=x\/b=s) ∧
 tl.length=r.length/\(∀t,1<=t->t<=b->Good ((q.1-t,q.2-x+t)::tl))/\∀t,0<=t->t<=b->goS s (b-t) ((q.1-t,q.2-x+t)::tl)=q::r
 | [],q,g=>by
  have hp:=g.one 0 q rfl;refine⟨min q.2 s,min q.2 s,[],rfl,by omega,by omega,by omega,by omega,by omega,rfl,fun t h1 h2=>Good.mk' (by dsimp only;omega) (fun q e=>by simp at e) Good.nil,fun t h0 h1=>?_⟩
  have e:min (q.2-min q.2 s+t) (s-(min q.2 s-t))=t:=by omega
  simp only[goS];rw[e,show q.1-t+t=q.1 by omega,show q.2-min q.2 s+t-t+(min q.2 s-t+t)=q.2 by omega]
 | q2::r,q,g=>by
  have hp:=g.one 0 q rfl
  have hg:=g.gap 0 q q2 rfl rfl;obtain⟨b2,x2,tl2,e,h1,h2,h3,h4,h5,h6,h7,h8⟩:=Jgk hs r q2 (Good.cons' g)
  obtain⟨d,hd,d1,d2,d3⟩:∃d,min b2 (q2.1-q.1-q.2)=d/\d<=b2/\1<=d/\((d=b2/\b2<=q2.1-q.1-q.2)\/(d=q2.1-q.1-q.2/\q2.1-q.1-q.2<=b2)):=by
   rcases LC b2 (q2.1-q.1-q.2) with h|h
   ·exact⟨b2,Kk h,QD _,by omega,.inl ⟨rfl,h⟩⟩
   ·exact⟨_,GG h,h,by omega,.inr ⟨rfl,h⟩⟩
  obtain⟨x,hx,x1,x3,x4⟩:∃x,min q.2 (s-(b2-d))=x/\1<=x/\x<=q.2/\b2-d+x<=s/\(q.2=x\/b2-d+x=s):=by
   rcases LC q.2 (s-(b2-d)) with h|h
   ·exact⟨_,Kk h,hp,QD _,by omega,.inl rfl⟩
   ·exact⟨_,GG h,by omega,h,by omega,.inr (by omega)⟩
  have x5:=x4.2;refine⟨b2-d+x,x,(q2.1-d,q2.2-x2+d)::tl2,?_,by omega,by omega,by omega,by omega,by omega,by simp[h6],fun t t1 t2=>Good.mk' (by dsimp only;omega) (fun q' e'=>?_) (h7 d (by omega) (by omega)),fun t t0 t1=>?_⟩
  ·rw[bkL,e];dsimp only;rw[hd,hx];rfl
  ·simp at e';rw[<- e'];dsimp only;omega
  ·rw[J4];dsimp only;have e1:min (q.2-x+t) (s-(b2-d+x-t))=t:=by omega
   rw[e1,show q.1-t+t=q.1 by omega,show b2-d+x-t+t-(q2.1-d-(q.1-t)-(q.2-x+t))=b2-(q2.1-q.1-q.2) by omega,show max 0 (b2-(q2.1-q.1-q.2))=b2-d by omega,h8 d (by omega) (by omega),
    show q.2-x+t-t+min (b2-d+x-t+t) (q2.1-d-(q.1-t)-(q.2-x+t))=q.2 by omega]
def JoK(hs:1<=s)(g:Good ps):Good (bkS s ps)/\(bkS s ps).length=ps.length/\goS s 0 (bkS s ps)=ps:=by
 cases ps with
 | nil=>exact⟨Good.nil,rfl,rfl⟩
 | cons q r=>obtain⟨b,x,tl,e,h1,h2,h3,h4,h5,h6,h7,h8⟩:=Jgk hs r q g;have:=h8 b (by omega) (QD _);rw[XD] at this;unfold bkS;rw[e];exact⟨h7 b (by omega) (QD _),by simp[Jpr,h6],this⟩
def goZ{s:Int}(hs:1<=s){N:Nat}{ps:List Pr}(g:Good ps)(hN:(ps.map (·.2)).sum<=(N:Int))(z:Int):∃qs,Good qs/\qs.length=ps.length/\(qs.map (·.2)).sum=(ps.map (·.2)).sum ∧
 tbN N 0 qs=(tbN N 0 ps).map fun t=>(t.1,t.2.1+z*min t.1 s,t.2.2):=by
 by_cases hz:0<=z
 ·obtain⟨n,rfl⟩:∃n:Nat,z=n:=⟨z.toNat,by omega⟩
  obtain⟨a,b,c,_,e⟩:=JgJ s hs N n g (VP N g hN);exact⟨_,a,b,c,e⟩
 ·obtain⟨n,rfl⟩:∃n:Nat,z=-(n:Int):=⟨(-z).toNat,by omega⟩
  clear hz
  induction n with
  | zero=>exact⟨ps,g,rfl,rfl,by refine(Mw _).symm.trans (QG fun t _=>?_);show t=(t.1,t.2.1+-((0:Nat):Int)*min t.1 s,t.2.2);simp⟩
  | succ n ih =>
   obtain⟨qs,a,b,c,e⟩:=ih;obtain⟨a1,b1,e1⟩:=JoK hs a;have c1:((bkS s qs).map (·.2)).sum=(qs.map (·.2)).sum:=by rw[<- JgK a1 (show 0<=s by omega),e1]
   refine⟨bkS s qs,a1,b1.trans b,c1.trans c,?_⟩;have tg:=Jk9 N 0 s a1 (by omega);rw[e1,e] at tg;have tg2:=congrArg (List.map fun t:Tr=>((t.1,t.2.1-min t.1 s,t.2.2):Tr)) tg;rw[Qw,Qw] at tg2;refine(Eq.trans ?_ tg2.symm).trans (QG fun t _=>?_)
   ·refine(Mw _).symm.trans (QG fun t _=>?_);show t=(t.1,t.2.1+min (t.1-0) s-min t.1 s,t.2.2)
    rw[RM,show t.2.1+min t.1 s-min t.1 s=t.2.1 by omega]
   ·show(t.1,t.2.1+-(n:Int)*min t.1 s-min t.1 s,t.2.2)=(t.1,t.2.1+-((n+1:Nat):Int)*min t.1 s,t.2.2)
    congr 2;rw[Xc,Xc,KD,K0];simp;omega
def Jj2(tb:List Tr)(seats:Option Int)(s times:Int)(h:Wl none tb)(hs:Y7 tb<=30)(hl:tb.length<=30)(ok:OkS seats)(hm:∀t∈tb,Sts seats s t.1)(hs1:1<=s)(ht:-10 ^ 100<=times/\times<=10 ^ 100)(hb:∀t∈tb,1<=t.1/\t.1<=10 ^ 100) :
 Uj [.sh (.lst (tb.map trE)),.sh (Zp seats),.sh (.int times)]=some (.own ((tb.map fun t=>((t.1,t.2.1+times*min t.1 s,t.2.2):Tr)).map trE)):=by
 obtain⟨r1,e1⟩:=JsD seats ok;obtain⟨r2,e2⟩:=Jrq tb h hs hl;unfold Uj;walk_at "ev";rw[e1];walk_at "ev";rw[e2];walk_at "ev";rw[JP (g:=fun t:Tr=>trE (t.1,t.2.1+times*min t.1 s,t.2.2))]
 ·walk_at "ev";rw[Qw];rfl
 ·intro t mt;have hst:=hm t mt;have hbt:=hb t mt;have hww:times.natAbs<=10 ^ 200/\(min t.1 s).natAbs<=10 ^ 200:=by omega (config:={})
  simp only[trE];walk_at "ev";rw[Jrt];rw[JnB hst];walk_at "ev"
def JjY(ps qs:List Pr)(N:Nat)(seats:Option Int)(s times:Int)(g:Good ps)(h30:ps.length<=30)(hN:thN N ps=[])(g':Good qs)(h30':qs.length<=30)(hN':thN N qs=[])(ok:OkS seats)(hs:Sts seats s (ps.map (·.2)).sum)(hs1:1<=s)(hb:(ps.map (·.2)).sum<=10 ^ 100)(ht:-10 ^ 100<=times/\times<=10 ^ 100)
 (e:tbN N 0 qs=(tbN N 0 ps).map fun t=>(t.1,t.2.1+times*min t.1 s,t.2.2)):YD [.sh (.row (ps.map prE)),.sh (Zp seats),.sh (.int times)]=some (.sh (.row (qs.map prE))):=by
 have asc:=Ym N 0 ps none g (QD _) (fun b e=>by cases e)
 have asc':=Ym N 0 qs none g' (QD _) (fun b e=>by cases e)
 have ns:=VA N 0 g hN
 have ns':=VA N 0 g' hN';obtain⟨gl,_⟩:=JcF fun t ht=>(J3 asc t ht).2
 obtain⟨gl',_⟩:=JcF fun t ht=>(J3 asc' t ht).2
 obtain⟨rt,rk⟩:=JfQ qs.length N 0 (Qu _) g' h30' hN';have tl:=Jla g hN;unfold YD;walk_at "ev";rw[JcC ps N g h30 hN];walk_at "ev";rw[Jj2 (tbN N 0 ps) seats s times asc (by omega) (by omega) ok (fun t ht=>by
  rcases hs with z|⟨z,y⟩
  ·exact .inl z
  ·exact .inr ⟨z,by have:=tl t ht;omega⟩) hs1 ht (fun t ht=>⟨(J3 asc t ht).1,by have:=tl t ht;omega⟩),<- e]
 walk_at "ev";rw[JmG (tbN N 0 qs) asc' (by omega) (by omega) rk,rt];walk_at "ev"
def JmC(ns:List Int)(at' many span:Int)(h1:0<=at')(h2:0<=many)(h3:many<=1000)(h4:0<span) :
 J7 [.sh (.fz (ns.map .int)),.sh (.int at'),.sh (.int many),.sh (.int span)]=some (.own ((spr ns at' span (cell ns at' % (2*span+1)-span) many.toNat).2.map prE)):=by
 unfold J7;walk_at "ev";rw[W1 _ _ h1];walk_at "ev";rw[JsO,Kz];refine JjW (fun i E=>∃j6 j7,E=[Sl.sh (D.fz (ns.map .int)),Sl.sh (D.int at'),Sl.sh (D.int many),Sl.sh (D.int span),Sl.sh (D.int (spr ns at' span (cell ns at' % (2*span+1)-span) i).1),Sl.own ((spr ns at' span (cell ns at' % (2*span+1)-span) i).2.map prE),j6,j7]) ⟨.no,.no,rfl⟩ ?_ ?_
 ·rintro i E hi ⟨j6,j7,rfl⟩;have hl:=VO ns at' span (cell ns at' % (2*span+1)-span) i;walk_at "ev";rw[W1 _ _ (by omega)];walk_at "ev";rw[W1 _ _ (by omega)];walk_at "ev";simp only[spr,QT,Qd,LA];exact⟨_,_,rfl⟩
 ·rintro E' ⟨j6,j7,rfl⟩;walk_at "ev"
noncomputable def wt(n:Int):List Pr->Int
 | []=>0
 | p::xs=>(if p.1=n then p.2 else 0)+wt n xs
noncomputable def Jdc:Int->List Pr->Prop
 | _,[]=>True
 | k,p::xs=>k<p.1/\1<=p.2/\Jdc p.1 xs
theorem Wi:∀(xs:List Pr) (k n:Int),Jdc k xs->n<=k->wt n xs=0
 | [],_,_,_,_=>rfl
 | p::xs,k,n,h,hn=>by obtain⟨h1,_,h3⟩:=h;rw[wt,if_neg (by omega),Wi xs p.1 n h3 (by omega)];rfl
theorem Jf9:∀(xs ys:List Pr) (k:Int),Jdc k xs->Jdc k ys->(∀n,k<n->wt n xs=wt n ys)->xs=ys
 | [],[],_,_,_,_=>rfl
 | [],q::ys,k,_,h,e=>by
  have:=e q.1 h.1;rw[wt,wt,if_pos rfl,Wi ys q.1 q.1 h.2.2 (by omega)] at this
  have:=h.2.1;omega
 | p::xs,[],k,h,_,e=>by
  have:=e p.1 h.1;rw[wt,wt,if_pos rfl,Wi xs p.1 p.1 h.2.2 (by omega)] at this
  have:=h.2.1;omega
 | p::xs,q::ys,k,hx,hy,e=>by
  have e1:=e p.1 hx.1
  have e2:=e q.1 hy.1
  have lx:=Wi xs p.1 p.1 hx.2.2 (by omega)
  have ly:=Wi ys q.1 q.1 hy.2.2 (by omega)
  have px:=hx.2.1
  have py:=hy.2.1;rw[wt,wt,if_pos rfl] at e1;rw[wt,wt,if_pos rfl] at e2
  have h1:p.1=q.1:=by
   by_cases a:p.1<q.1
   ·have:=Wi ys q.1 p.1 hy.2.2 (by omega);rw[if_neg (by omega)] at e1;omega
   ·by_cases b:q.1<p.1
    ·have:=Wi xs p.1 q.1 hx.2.2 (by omega);rw[if_neg (by omega)] at e2;omega
    ·omega
  rw[if_pos h1.symm] at e1;have l2:wt p.1 ys=0:=by rw[h1];exact ly
  have h2:p.2=q.2:=by omega
  have t:xs=ys:=Jf9 xs ys p.1 hx.2.2 (by rw[h1];exact hy.2.2) fun n hn=>by have:=e n (by have:=hx.1;omega);rw[wt,wt,if_neg (by omega),if_neg (by omega)] at this;omega
  rw[t,show p=q from KL h1 h2]
theorem Je3:∀(xs:List Pr) (k:Int),(xs.map (·.1)).Pairwise (·<·)->(∀p∈xs,k<p.1)->(∀p∈xs,1<=p.2)->Jdc k xs
 | [],_,_,_,_=>trivial
 | p::xs,k,h,h1,h2=>by rw[Qd,QL] at h;exact⟨h1 p Qf,h2 p Qf,Je3 xs p.1 h.2 (fun q hq=>h.1 q.1 (GX hq)) fun q hq=>h2 q (Qc _ hq)⟩
theorem Jdf(s v:Int)(hv:1<=v):∀a:List Pr,(∀p∈a,1<=p.2)->∀p∈Y5 a s v,1<=p.2
 | [],_,p,hp=>by rw[Y5,GK] at hp;rw[hp];exact hv
 | q::r,h,p,hp=>by
  have hq:=h q Qf;rw[Y5] at hp;split at hp
  ·rcases Qk.mp hp with e|e
   ·rw[e];show 1<=q.2+v;omega
   ·exact h p (Qc _ e)
  ·rcases Qk.mp hp with e|e
   ·rw[e];exact hq
   ·exact Jdf s v hv r (fun x hx=>h x (Qc _ hx)) p e
theorem JeM:∀(tb:List Tr) (a:List Pr),(∀t∈tb,1<=t.2.2)->(∀p∈a,1<=p.2)->∀p∈UW tb a,1<=p.2
 | [],a,_,h,p,hp=>h p hp
 | t::tb,a,ht,h,p,hp=>JeM tb (Y5 a t.1 t.2.2) (fun u hu=>ht u (Qc _ hu)) (Jdf t.1 t.2.2 (ht t Qf) a h) p hp
def JhI(g:Good ps)(N:Nat)(ht:∀t∈tbN N 0 ps,1<=t.1/\1<=t.2.2):Jdc 0 (UW (tbN N 0 ps) []):=by
 refine Je3 _ 0 (Jf0 N 0 ps [] g List.Pairwise.nil (fun x hx=>absurd hx Q9)).1 (fun p hp=>?_) (JeM _ [] (fun t h=>(ht t h).2) (fun p h=>absurd h Q9));rcases JeL _ [] p hp with ⟨t,h1,h2⟩|z
 ·have:=(ht t h1).1;omega
 ·exact absurd z Q9
theorem Jf3:∀(n:Nat) (k:Int) (qs:List Pr),0<=k->∀t∈tbN n k qs,1<=t.1/\1<=t.2.2
 | 0,_,_,_,t,h=>absurd h Q9
 | n+1,k,qs,hk,t,h=>by
  rw[tbN] at h;rcases GH.mp h with h|h
  ·unfold Jt at h;obtain⟨u,hu,rfl⟩:=Qx.mp h;have:=of_decide_eq_true (Ma.mp hu).2;exact⟨by show 1<=k+1;omega,by show 1<=u.2.1-u.2.2;omega⟩
  ·exact Jf3 n (k+1) (thF qs) (by omega) t h
def JlA(g:Good ps)(N:Nat):Jdc 0 (UW (tbN N 0 ps) []):=JhI g N (Jf3 N 0 ps (QD _))
noncomputable def Uq:List Pr->Prop
 | p::q::r=>p.2<=q.2/\p.2<=q.1-(p.1+p.2)/\Uq (q::r)
 | _=>True
noncomputable def apT(tb:List Tr):List Pr:=tb.flatMap fun t=>QC t.2.2.toNat (t.1,t.2.1)
noncomputable def apF(k:Int):Int->List Pr->List Pr
 | _,[]=>[]
 | c,p::r=>(p.2+k,p.1-2*c)::apF k (c+p.2) r
theorem Jjz(k:Int):∀(ps:List Pr) (c:Int) (i:Int),apF (k+1) c (byR (2*i) ps)=apF k (c+i) ps
 | [],_,_=>rfl
 | p::r,c,i=>by
  have ih:=Jjz k r (c+(p.2-1)) (i+1);rw[byR,apF,apF,show 2*i+2=2*(i+1) by omega,ih];congr 1
  ·exact KL (by show p.2-1+(k+1)=p.2+k;omega) (by show p.1-2*i-2*c=p.1-2*(c+i);omega)
  ·congr 1;omega
theorem Ji3:∀(ps:List Pr) (c:Int),Good ps->Uq ps->(∀p,ps[0]?=some p->2<=p.2)->Good (byR c ps)/\∀p∈byR c ps,0<p.2
 | [],_,_,_,_=>⟨Good.nil,fun p hp=>(Q9 hp).elim⟩
 | [p],c,g,_,h=>by
  have h2:=h p rfl;refine⟨⟨fun i q e=>?_,fun i q r e1 e2=>?_⟩,fun q hq=>?_⟩
  ·cases i with
   | zero=>simp[byR] at e;subst e;show 1<=p.2-1;omega
   | succ i=>simp[byR] at e
  ·simp[byR] at e2
  ·simp[byR] at hq;subst hq;show 0<p.2-1;omega
 | p::q::r,c,g,s,h=>by
  obtain⟨s1,s2,s3⟩:=s;have h2:=h p rfl;obtain⟨g1,g2⟩:=Ji3 (q::r) (c+2) (Good.cons' g) s3 fun x hx=>by simp at hx;subst hx;omega
  refine⟨⟨fun i x e=>?_,fun i x y e1 e2=>?_⟩,fun x hx=>?_⟩
  ·cases i with
   | zero=>simp[byR] at e;subst e;show 1<=p.2-1;omega
   | succ i=>exact g1.one i x (by simpa [byR] using e)
  ·cases i with
   | zero=>simp[byR] at e1 e2;subst e1 e2;show p.1-c+(p.2-1)<q.1-(c+2);omega
   | succ i=>exact g1.gap i x y (by simpa [byR] using e1) (by simpa [byR] using e2)
  ·rw[byR] at hx;rcases Qk.mp hx with e|e
   ·rw[e];show 0<p.2-1;omega
   ·exact g2 x e
theorem JjA:∀{p:Pr} {r:List Pr},Uq (p::r)->Uq r
 | _,[],_=>trivial
 | _,_::_,h=>h.2.2
theorem Jfj:∀(ps:List Pr) (i:Int),Good ps->Uq ps->clN (byR (2*i) ps)=(byR (2*i) ps).filter (fun p=>decide (0<p.2)) ∧
 ∀k,(((byR (2*i) ps).filter (fun p=>!decide (0<p.2))).map fun p=>((k+1,p.1+p.2):Pr))++apF (k+1) 0 ((byR (2*i) ps).filter fun p=>decide (0<p.2))=apF k i ps
 | [],_,_,_=>⟨rfl,fun k=>rfl⟩
 | p::r,i,g,s=>by
  have p1:=Good.all g p (by simp)
  by_cases c:p.2=1
  ·obtain⟨h1,h2⟩:=Jfj r (i+1) (Good.cons' g) (JjA s)
   have e2:2*i+2=2*(i+1):=by omega
   refine⟨?_,fun k=>?_⟩
   ·rw[byR,clN,if_neg (by show ¬(0<p.2-1);omega),e2,h1,GM (by show ¬(decide (0<p.2-1)=true);simp;omega)]
   ·rw[byR,e2,GN (by show(!decide (0<p.2-1))=true;simp;omega),GM (by show ¬(decide (0<p.2-1)=true);simp;omega),Qd,Kl,h2 k,apF];congr 1
    ·exact KL (by show k+1=p.2+k;omega) (by show p.1-2*i+(p.2-1)=p.1-2*i;omega)
    ·congr 1;omega
  ·obtain⟨g1,g2⟩:=Ji3 (p::r) (2*i) g s fun x hx=>by simp at hx;subst hx;omega
   have f1:(byR (2*i) (p::r)).filter (fun p=>decide (0<p.2))=byR (2*i) (p::r):=List.filter_eq_self.mpr fun x hx=>decide_eq_true (g2 x hx)
   have f2:(byR (2*i) (p::r)).filter (fun p=>!decide (0<p.2))=[]:=RL.mpr fun x hx=>by simp[g2 x hx]
   refine⟨?_,fun k=>?_⟩
   ·rw[f1];have g0:=g1;rw[byR] at g0 ⊢;rw[clN,if_pos (by show 0<p.2-1;omega),Jfa _ _ g0]
   ·rw[f1,f2,Jjz k (p::r) 0 i];simp
theorem JdI:∀(ps:List Pr) (c:Int),Good ps->Uq ps->Uq ((byR c ps).filter fun p=>decide (0<p.2))
 | [],_,_,_=>trivial
 | [p],c,_,_=>by rw[byR,byR,List.filter_cons];split <;> trivial
 | p::q::r,c,g,s=>by
  obtain⟨s1,s2,s3⟩:=s;have ih:=JdI (q::r) (c+2) (Good.cons' g) s3;rw[byR]
  by_cases d:0<p.2-1
  ·rw[GN (by show decide (0<p.2-1)=true;simp;omega)];rw[byR] at ih ⊢;rw[GN (by show decide (0<q.2-1)=true;simp;omega)] at ih ⊢;refine⟨by show p.2-1<=q.2-1;omega,?_,ih⟩;show p.2-1<=q.1-(c+2)-(p.1-c+(p.2-1));omega
  ·rw[GM (by show ¬(decide (0<p.2-1)=true);simp;omega)];exact ih
theorem Jls:∀(ps:List Pr) (c:Int),Good ps->(((byR c ps).filter fun p=>!decide (0<p.2)).map fun p=>p.1+p.2).Pairwise (·<=·)
 | [],_,_=>List.Pairwise.nil
 | p::r,c,g=>by
  have ih:=Jls r (c+2) (Good.cons' g);rw[byR]
  by_cases d:0<p.2-1
  ·rw[GM (by show ¬((!decide (0<p.2-1))=true);simp;omega)];exact ih
  ·rw[GN (by show(!decide (0<p.2-1))=true;simp;omega),Qd];refine QL.mpr ⟨fun y hy=>?_,ih⟩;obtain⟨x,hx,rfl⟩:=Qx.mp hy;have hx':=(Ma.mp hx).1;have p1:=Good.all g p (by simp)
   have x0:0<=x.2:=by obtain⟨j,hj⟩:=GA.mp hx';rw[Zv,QJ,Q0] at hj;obtain⟨q,hq,rfl⟩:=hj;have:=Good.all (Good.cons' g) q (QI hq);show 0<=q.2+-1;omega
   have:=Jb0 r (c+2) (p.1+p.2+1-(c+2)) (Good.cons' g) (fun q hq=>by have:=g.gap 0 p q rfl (by simpa using hq);omega) x hx'
   show p.1-c+(p.2-1)<=x.1+x.2;omega
theorem Je2:∀{r:List Tr} {b:Pr},Wl (some b) r->∀u∈r,b.1<u.1\/(b.1=u.1/\b.2<u.2.1)
 | [],_,_,_,h=>by cases h
 | t::r,b,h,u,hu=>by
  obtain⟨h1,h2,h3,h4⟩:=h;have h5:=h3 b rfl;rcases Qk.mp hu with z|z
  ·subst z;exact h5
  ·have:=Je2 h4 u z;dsimp only at this;omega
def Je0(a b:List Tr):apT (a++b)=apT a++apT b:=by unfold apT;rw[List.flatMap_append]
theorem Je1(k:Int):∀(l:List Tr),(∀t∈l,t.1=k)->apT l=(J1 (JY l)).map fun x=>((k,x):Pr)
 | [],_=>rfl
 | t::l,h=>by
  have ih:=Je1 k l fun u hu=>h u (Qc _ hu)
  unfold apT J1 JY at ih ⊢;rw[Qd,GB,GB,ih,QT,KJ,h t Qf]
theorem Jd9:∀(l:List Pr),(l.map (·.1)).Pairwise (·<·)->(J1 l).Pairwise (·<=·)
 | [],_=>List.Pairwise.nil
 | p::l,h=>by rw[Qd] at h;obtain⟨h1,h2⟩:=QL.mp h;unfold J1;rw[GB];refine Kw.mpr ⟨RA.mpr (.inr (QD _)),Jd9 l h2,fun a ha b hb=>?_⟩;obtain⟨_,rfl⟩:=LD.mp ha;obtain⟨q,hq,hb⟩:=RB.mp hb;obtain⟨_,rfl⟩:=LD.mp hb;exact Int.le_of_lt (h1 _ (GX hq))
theorem Jbw{α:Type}(f:α->Int)(c:α->Bool)(x:Int):∀(l:List α),(l.map f).count x=((l.filter c).map f).count x+((l.filter fun a=>!c a).map f).count x
 | []=>rfl
 | a::l=>by
  have ih:=Jbw f c x l
  cases h:c a with
  | true=>rw[GN h,GM (by simp[h]),Qd,Qd,QV,QV,ih];omega
  | false=>rw[GM (by simp[h]),GN (by simp[h]),Qd,Qd,QV,QV,ih];omega
def Jcn(g:Good ps)(s:Uq ps):thF ps=(byR 0 ps).filter fun p=>decide (0<p.2):=by unfold thF;rw[<- YK];exact(Jfj ps 0 g s).1
def Jl8(g:Good ps)(s:Uq ps)(k:Int):J1 (JY (Jt k ps))=((byR 0 ps).filter fun p=>!decide (0<p.2)).map fun p=>p.1+p.2:=by
 have sb:spF ps=(byR 0 ps).map fun p=>p.1+p.2:=by
  have hb:byF 0 ps=ps:=by
   unfold byF;refine L3 (by simp) fun i h1 h2=>?_
   simp
  have:=JeJ (-1) ps;rw[show(-1:Int)+1=0 by omega,hb] at this;rw[this,YK];rfl
 have asc:=Uz g k
 have key:((JY (Jt k ps)).map (·.1)).Pairwise (·<·):=by rw[UA];exact asc
 have nd:((JY (Jt k ps)).map (·.1)).Nodup:=key.imp fun h=>by omega
 have pos:∀p∈JY (Jt k ps),1<=p.2:=fun p hp=>by obtain⟨t,ht,rfl⟩:=Qx.mp hp;exact YM ht
 refine Uf (List.perm_iff_count.mpr fun x=>?_) (Jd9 _ key) (Jls ps 0 g);have e1:=JcA nd pos x;have e2:=W0 g k x;have e3:=Jbw (fun p:Pr=>p.1+p.2) (fun p=>decide (0<p.2)) x (byR 0 ps);rw[sb] at e2;rw[Jcn g s] at e2;unfold Jk at e2;omega
theorem Jfi:∀(N:Nat) (k:Int) (ps:List Pr),Good ps->Uq ps->thN N ps=[]->apT (tbN N k ps)=apF k 0 ps
 | 0,k,ps,_,_,h=>by have:ps=[]:=h;subst this;rfl
 | N+1,k,ps,g,s,h=>by
  have gt:Good (thF ps):=JB g
  have ih:=Jfi N (k+1) (thF ps) gt (by rw[Jcn g s];exact JdI ps 0 g s) h;rw[tbN,Je0,ih,Je1 (k+1) _ (fun t ht=>Yc ht),Jl8 g s,Qw,Jcn g s];exact(Jfj ps 0 g s).2 k
noncomputable def lnF:Int->List Pr->List Pr
 | _,[]=>[]
 | c,q::r=>(q.1,q.2+2*c)::lnF (c+q.1) r
theorem Jal:∀(l:List Pr) (c:Int),(lnF c l).map (·.1)=l.map (·.1)
 | [],_=>rfl
 | q::r,c=>by rw[lnF,Qd,Qd,Jal r]
theorem Joh:∀(ps:List Pr) (c:Int),lnF c (apF 0 c ps)=ps.map Ka
 | [],_=>rfl
 | p::r,c=>by rw[apF,lnF,Qd];show((p.2+0,p.1-2*c+2*c):Pr)::lnF (c+(p.2+0)) (apF 0 (c+p.2) r)=_;rw[show c+(p.2+0)=c+p.2 by omega,Joh r (c+p.2)];congr 1;exact KL (by show p.2+0=p.2;omega) (by show p.1-2*c+2*c=p.1;omega)
theorem Jn0:∀(l:List Pr) (c:Int),apF 0 c ((lnF c l).map Ka)=l
 | [],_=>rfl
 | q::r,c=>by rw[lnF,Qd,apF];show((q.1+0,q.2+2*c-2*c):Pr)::apF 0 (c+q.1) ((lnF (c+q.1) r).map Ka)=_;rw[Jn0 r (c+q.1)];congr 1;exact KL (by show q.1+0=q.1;omega) (by show q.2+2*c-2*c=q.2;omega)
theorem Jhl:∀(n m:Nat) {a b:List Pr},x∉a->x∉b->QC n x++a=QC m x++b->n=m/\a=b
 | 0,0,_,_,_,_,e=>⟨rfl,by simpa using e⟩
 | 0,m+1,a,b,ha,_,e=>by
  rw[Gf] at e;have:a=x::(QC m x++b):=by simpa using e
  exact absurd (this▸Qf) ha
 | n+1,0,a,b,_,hb,e=>by
  rw[Gf] at e;have:b=x::(QC n x++a):=by simpa using e.symm
  exact absurd (this▸Qf) hb
 | n+1,m+1,a,b,ha,hb,e=>by
  rw[Gf,Gf] at e;have e':QC n x++a=QC m x++b:=by simpa using e
  obtain⟨h1,h2⟩:=Jhl n m ha hb e';exact⟨by omega,h2⟩
def Vg{tb:List Tr}{x:Pr}(h:x∈apT tb):∃t∈tb,x=(t.1,t.2.1):=by obtain⟨t,ht,hx⟩:=RB.mp h;exact⟨t,ht,(LD.mp hx).2⟩
theorem JiU:∀{a b:List Tr} {o o':Option Pr},Wl o a->Wl o' b->apT a=apT b->a=b
 | [],[],_,_,_,_,_=>rfl
 | [],t::b,_,_,_,h,e=>by
  have:=J3 h t (by simp)
  exfalso
  have e':[]=QC t.2.2.toNat (t.1,t.2.1)++apT b:=e
  have l:=congrArg Mh e';rw[QA,GU] at l;simp at l;omega
 | t::a,[],_,_,h,_,e=>by
  have:=J3 h t (by simp)
  exfalso
  have e':QC t.2.2.toNat (t.1,t.2.1)++apT a=[]:=e
  have l:=congrArg Mh e';rw[QA,GU] at l;simp at l;omega
 | t::a,u::b,o,o',h,h',e=>by
  have n1:=J3 h t (by simp)
  have n2:=J3 h' u (by simp)
  have e':QC t.2.2.toNat (t.1,t.2.1)++apT a=QC u.2.2.toNat (u.1,u.2.1)++apT b:=e
  have hd:((t.1,t.2.1):Pr)=(u.1,u.2.1):=by
   have e2:=congrArg (fun l=>l[0]?) e';obtain⟨m,hm⟩:∃m,t.2.2.toNat=m+1:=⟨t.2.2.toNat-1,by omega⟩
   obtain⟨m',hm'⟩:∃m,u.2.2.toNat=m+1:=⟨u.2.2.toNat-1,by omega⟩
   rw[hm,hm',Gf,Gf] at e2
   simpa using e2
  have out:∀{t:Tr} {r:List Tr} {o:Option Pr},Wl o (t::r)->((t.1,t.2.1):Pr)∉apT r:=fun {t r o} h m=>by obtain⟨v,hv,ev⟩:=Vg m;have ord:=Je2 h.2.2.2 v hv;simp only at ord;rw[Prod.mk.injEq] at ev;omega
  rw[<- hd] at e';obtain⟨h1,h2⟩:=Jhl _ _ (out h) (by rw[hd];exact out h') e';have ih:=JiU h.2.2.2 h'.2.2.2 h2;rw[ih];congr 1;rw[Prod.mk.injEq] at hd;exact KL hd.1 (KL hd.2 (by omega))
theorem ZQ:∀(tb:List Tr),(∀t∈tb,1<=t.2.2)->((apT tb).length:Int)=Y7 tb
 | [],_=>rfl
 | t::tb,h=>by
  have ih:=ZQ tb fun u hu=>h u (Qc _ hu)
  have h1:=h t Qf;unfold apT Y7 at ih ⊢;rw[GB,QA,GU,Qd,QE,<- ih];omega
theorem Jgd(k:Int):∀(ps:List Pr) (c:Int),(apF k c ps).length=ps.length
 | [],_=>rfl
 | p::r,c=>by rw[apF,Qv,Qv,Jgd k r]
def Jnm(gR:Good R)(h30:R.length<=30)(hN:thN N R=[])(gq:Good qs)(sq:Uq qs)(e:apT (tbN N 0 R)=apF 0 0 qs):R=qs:=by
 obtain⟨m,hm⟩:∃m:Nat,m=(qs.map fun p:Pr=>p.2).sum.toNat:=⟨_,rfl⟩
 have nn:∀o:Option Pr,o=none->∀b,o=some b->b.1<=(0:Int):=fun o h b hb=>by rw[h] at hb;cases hb
 have aR:=Ym (N+m) 0 R none gR (QD _) (nn none rfl)
 have aq:=Ym (N+m) 0 qs none gq (QD _) (nn none rfl)
 have hq:thN (N+m) qs=[]:=VP _ gq (by omega)
 have hR:thN (N+m) R=[]:=Jf4 (by omega) hN
 have eR:=Jk8 N m 0 R hN
 have fq:=Jfi _ 0 qs gq sq hq
 have same:tbN (N+m) 0 R=tbN (N+m) 0 qs:=JiU aR aq (by rw[eR,e,fq])
 have l1:=ZQ _ fun t ht=>(J3 aR t ht).2
 have l2:=VA (N+m) 0 gR hR
 have ql:qs.length=R.length:=by have:=congrArg Mh e;rw[Jgd,<- eR] at this;omega
 have r1:=(JfQ 30 _ 0 h30 gR h30 hR).1
 have r2:=(JfQ 30 _ 0 (by omega) gq (by omega) hq).1;rw[<- r1,<- r2,same]
noncomputable def shL(z:Int)(q:Pr):Pr:=(q.1,q.2+q.1*z)
theorem Jn1(z:Int):∀(tb:List Tr),apT (tb.map fun t=>(t.1,t.2.1+z*t.1,t.2.2))=(apT tb).map (shL z)
 | []=>rfl
 | t::tb=>by
  have ih:=Jn1 z tb;unfold apT at ih ⊢;rw[Qd,GB,GB,ih,QT,KJ]
  show QC t.2.2.toNat ((t.1,t.2.1+z*t.1):Pr)++_=QC t.2.2.toNat (t.1,t.2.1+t.1*z)++_;rw[XE z]
noncomputable def chL:List Pr->Prop
 | q::r::l=>q.1<=r.1/\(q.1=r.1->q.2+2*q.1<=r.2)/\chL (r::l)
 | _=>True
noncomputable def JpU(q r:Pr):Prop:=q.1<r.1\/(q.1=r.1/\q.2<=r.2)
theorem V0:∀{tb:List Tr} {o:Option Pr},Wl o tb->(apT tb).Pairwise JpU
 | [],_,_=>List.Pairwise.nil
 | t::tb,o,h=>by unfold apT;rw[GB];refine Kw.mpr ⟨RA.mpr (.inr (.inr ⟨rfl,QD _⟩)),V0 h.2.2.2,fun a ha b hb=>?_⟩;obtain⟨_,rfl⟩:=LD.mp ha;obtain⟨u,hu,rfl⟩:=Vg (tb:=tb) hb;have:=Je2 h.2.2.2 u hu;simp only at this;show t.1<u.1\/(t.1=u.1/\t.2.1<=u.2.1);omega
theorem Jdr:∀(l:List Pr) (c:Int),l.Pairwise JpU->chL (lnF c l)
 | [],_,_=>trivial
 | [q],_,_=>trivial
 | q::r::l,c,h=>by
  obtain⟨h1,h2⟩:=QL.mp h;have ih:=Jdr (r::l) (c+q.1) h2;rw[lnF] at ih;rw[lnF,lnF];have o:q.1<r.1\/(q.1=r.1/\q.2<=r.2):=h1 r Qf;refine⟨by show q.1<=r.1;omega,?_,ih⟩;show q.1=r.1->q.2+2*c+2*q.1<=r.2+2*(c+q.1)
  omega
noncomputable def prL:List Pr->List (Pr×Pr)
 | q::r::l=>if q.1≠r.1 then(q,r)::prL (r::l) else prL (r::l)
 | _=>[]
noncomputable def vlL(x:Pr×Pr):Int:=-((x.2.2-x.1.2-2*x.1.1) / (x.2.1-x.1.1))
def JlJ{g d z:Int}(hd:0<d):-(g / d)<=z↔0<=g+d*z:=by have:=RN (a:=-z) (b:=g) hd;rw[show -(g / d)<=z↔-z<=g / d by omega,this,Xc,XE z d];omega
theorem JcZ(z:Int):∀(l:List Pr),chL l->(Uq ((l.map (shL z)).map Ka)↔∀x∈prL l,vlL x<=z)
 | [],_=>⟨fun _ x hx=>(Q9 hx).elim,fun _=>trivial⟩
 | [q],_=>⟨fun _ x hx=>(Q9 hx).elim,fun _=>trivial⟩
 | q::r::l,h=>by
  obtain⟨h1,h2,h3⟩:=h;have ih:=JcZ z (r::l) h3
  have key:Uq (((q::r::l).map (shL z)).map Ka)↔(q.1<=r.1/\q.1<=r.2+r.1*z-(q.2+q.1*z+q.1))/\Uq (((r::l).map (shL z)).map Ka):=by show(q.1<=r.1/\q.1<=r.2+r.1*z-(q.2+q.1*z+q.1)/\_)↔_;rw[and_assoc];rfl
  rw[key,ih,prL];have ex:r.2+r.1*z-(q.2+q.1*z+q.1)=r.2-q.2-q.1+(r.1-q.1)*z:=by rw[Int.sub_mul];omega
  by_cases c:q.1=r.1
  ·rw[if_neg (by simpa using c)];have:=h2 c;refine⟨fun x=>x.2,fun x=>⟨⟨h1,?_⟩,x⟩⟩;rw[ex,c,XD,Int.zero_mul];omega
  ·rw[if_pos c];have d:=JlJ (g:=r.2-q.2-2*q.1) (d:=r.1-q.1) (z:=z) (by omega);refine⟨fun x y hy=>?_,fun x=>⟨⟨h1,?_⟩,fun y hy=>x y (Qc _ hy)⟩⟩
   ·rcases Qk.mp hy with e|e
    ·subst e;show -((r.2-q.2-2*q.1) / (r.1-q.1))<=z;rw[d];have:=x.1.2;rw[ex] at this;omega
    ·exact x.2 y e
   ·have:-((r.2-q.2-2*q.1) / (r.1-q.1))<=z:=x (q,r) Qf;rw[d] at this;rw[ex];omega
theorem JdK:∀(l:List Pr),Uq (l.map Ka)->(∀q∈l,1<=q.1)->Good (l.map Ka)
 | [],_,_=>Good.nil
 | [q],_,h=>⟨fun i p e=>by
  cases i with
  | zero=>simp at e;subst e;exact h q (by simp)
  | succ i=>simp at e,fun i p r _ e2=>by simp at e2⟩
 | q::r::l,s,h=>by
  obtain⟨s1,s2,s3⟩:=s;have ih:=JdK (r::l) s3 fun x hx=>h x (Qc _ hx)
  have hq:=h q Qf;refine⟨fun i p e=>?_,fun i p p' e1 e2=>?_⟩
  ·cases i with
   | zero=>simp at e;subst e;exact hq
   | succ i=>exact ih.one i p (by simpa using e)
  ·cases i with
   | zero=>simp at e1 e2;subst e1 e2;have s2':q.1<=r.2-(q.2+q.1):=s2;show q.2+q.1<r.2;omega
   | succ i=>exact ih.gap i p p' (by simpa using e1) (by simpa using e2)
def JkX(ps:List Pr):spF ps=(byR 0 ps).map fun p=>p.1+p.2:=by
 have hb:byF 0 ps=ps:=by
  unfold byF;refine L3 (by simp) fun i h1 h2=>?_
  simp
 have:=JeJ (-1) ps;rw[show(-1:Int)+1=0 by omega,hb] at this;rw[this,YK];rfl
def Jn2(g:Good ps)(h:∀p∈ps,lo<=p.1/\p.1+p.2<=hi):∀x∈byR 0 ps,lo<=x.1/\0<=x.2/\x.1+x.2<=hi:=fun x hx=>by
 have h1:=Jb0 ps 0 lo g (fun q hq=>by have:=(h q (QI hq)).1;omega) x hx;obtain⟨j,hj⟩:=GA.mp hx;rw[Zv,QJ,Q0] at hj;obtain⟨q,hq,rfl⟩:=hj
 have hm:=QI hq
 have a:=Good.all g q hm
 have b:=(h q hm).2;refine⟨h1,?_,?_⟩
 ·show 0<=q.2+-1;omega
 ·show q.1+2*(-1)*(j:Int)-0+(q.2+-1)<=hi;omega
def Jox(g:Good ps)(h:∀p∈ps,lo<=p.1/\p.1+p.2<=hi):∀e∈spF ps,lo<=e/\e<=hi:=fun e he=>by rw[JkX] at he;obtain⟨x,hx,rfl⟩:=Qx.mp he;have:=Jn2 g h x hx;omega
theorem Jb7:∀(r:List Pr) (cur p:Pr),p∈clF cur r->p.1=cur.1\/∃q∈r,p.1=q.1
 | [],cur,p,h=>by rw[clF,GK] at h;exact .inl (by rw[h])
 | q::r,cur,p,h=>by
  rw[clF] at h;split at h
  ·rcases Jb7 r _ p h with e|⟨x,hx,e⟩
   ·exact .inl e
   ·exact .inr ⟨x,Qc _ hx,e⟩
  ·split at h
   ·rcases Qk.mp h with e|e
    ·exact .inl (by rw[e])
    ·rcases Jb7 r q p e with e|⟨x,hx,e⟩
     ·exact .inr ⟨q,Qf,e⟩
     ·exact .inr ⟨x,Qc _ hx,e⟩
   ·rcases Jb7 r _ p h with e|⟨x,hx,e⟩
    ·exact .inl e
    ·exact .inr ⟨x,Qc _ hx,e⟩
theorem Jgp:∀(l:List Pr) (p:Pr),p∈clN l->∃q∈l,p.1=q.1
 | [],p,h=>(Q9 h).elim
 | q::r,p,h=>by
  rw[clN] at h;split at h
  ·rcases Jb7 r q p h with e|⟨x,hx,e⟩
   ·exact⟨q,Qf,e⟩
   ·exact⟨x,Qc _ hx,e⟩
  ·obtain⟨x,hx,e⟩:=Jgp r p h;exact⟨x,Qc _ hx,e⟩
def Jsk(g:Good ps)(h:∀p∈ps,lo<=p.1/\p.1+p.2<=hi):∀p∈thF ps,lo<=p.1/\p.1+p.2<=hi:=fun p hp=>by refine⟨?_,(Jox g h _ (Jcj (GX (f:=fun p:Pr=>p.1+p.2) hp))).2⟩;unfold thF at hp;rw[<- YK] at hp;obtain⟨x,hx,e⟩:=Jgp _ p hp;rw[e];exact(Jn2 g h x hx).1
def Jpp(g:Good ps)(ht:t∈Jt k ps):t.2.1∈spF ps:=by
 have key:((JY (Jt k ps)).map (·.1)).Pairwise (·<·):=by rw[UA];exact Uz g k
 have pos:∀p∈JY (Jt k ps),1<=p.2:=fun p hp=>by obtain⟨t,ht,rfl⟩:=Qx.mp hp;exact YM ht
 have e1:=JcA (key.imp fun h=>by omega) pos t.2.1
 have e2:=W0 g k t.2.1
 have m:t.2.1∈J1 (JY (Jt k ps)):=by refine RB.mpr ⟨(t.2.1,t.2.2),Qx.mpr ⟨t,ht,rfl⟩,LD.mpr ⟨?_,rfl⟩⟩;have:=YM ht;show t.2.2.toNat≠0;omega
 have c:=K7.mpr m;exact K7.mp (by omega)
theorem JoB:∀(n:Nat) (k:Int) {ps:List Pr} {lo hi:Int},Good ps->(∀p∈ps,lo<=p.1/\p.1+p.2<=hi)->∀t∈tbN n k ps,lo<=t.2.1/\t.2.1<=hi
 | 0,_,_,_,_,_,_,t,h=>(Q9 h).elim
 | n+1,k,ps,lo,hi,g,h,t,ht=>by
  rw[tbN] at ht;rcases GH.mp ht with e|e
  ·exact Jox g h _ (Jpp g e)
  ·exact JoB n (k+1) (JB g) (Jsk g h) t e
theorem Joi:∀(l:List Pr) (c S lo hi:Int),0<=c->c+(l.map (·.1)).sum<=S->(∀q∈l,1<=q.1/\lo<=q.2/\q.2<=hi)->∀q∈lnF c l,lo<=q.2/\q.2<=hi+2*S
 | [],_,_,_,_,_,_,_,q,hq=>(Q9 hq).elim
 | x::l,c,S,lo,hi,h0,hs,h,q,hq=>by
  have hx:=h x Qf
  have nn:∀l:List Pr,(∀q∈l,1<=q.1/\lo<=q.2/\q.2<=hi)->0<=(l.map (·.1)).sum:=fun l hl=>by
   induction l with
   | nil=>exact QD _
   | cons y l ih =>
    have:=hl y Qf
    have:=ih fun q hq=>hl q (Qc _ hq)
    rw[Qd,QE];omega
  have nl:=nn l fun q hq=>h q (Qc _ hq)
  rw[Qd,QE] at hs;rw[lnF] at hq;rcases Qk.mp hq with e|e
  ·subst e;show lo<=x.2+2*c/\x.2+2*c<=hi+2*S;omega
  ·exact Joi l (c+x.1) S lo hi (by omega) (by omega) (fun q hq=>h q (Qc _ hq)) q e
theorem JcN:∀(l:List Pr) (x:Pr×Pr),x∈prL l->x.1∈l/\x.2∈l/\x.1.1≠x.2.1
 | [],x,h=>(Q9 h).elim
 | [q],x,h=>(Q9 h).elim
 | q::r::l,x,h=>by
  rw[prL] at h;split at h
  ·rename_i c;rcases Qk.mp h with e|e
   ·subst e;exact⟨Qf,Qc _ Qf,c⟩
   ·obtain⟨a,b,d⟩:=JcN (r::l) x e;exact⟨Qc _ a,Qc _ b,d⟩
  ·obtain⟨a,b,d⟩:=JcN (r::l) x h;exact⟨Qc _ a,Qc _ b,d⟩
theorem Jgo:∀(l:List Pr),chL l->∀x∈prL l,x.1.1<x.2.1
 | [],_,x,h=>(Q9 h).elim
 | [q],_,x,h=>(Q9 h).elim
 | q::r::l,hc,x,h=>by
  obtain⟨h1,_,h3⟩:=hc;rw[prL] at h;split at h
  ·rename_i c;rcases Qk.mp h with e|e
   ·subst e;show q.1<r.1;omega
   ·exact Jgo (r::l) h3 x e
  ·exact Jgo (r::l) h3 x h
def JoS(g d B:Int)(hd:0<d)(h:-B<=g/\g<=B):-B<=g / d/\g / d<=B:=by
 have hB:0<=B:=by omega
 constructor
 ·rw[RN hd]
  have:B<=B*d:=by have:=Ly (show(1:Int)<=d by omega) hB;omega
  rw[Xc];omega
 ·have:g / d<B+1:=by rw[Int.ediv_lt_iff_lt_mul hd];have:=Ly (show(1:Int)<=d by omega) (show 0<=B+1 by omega);omega
  omega
def Jsn{x:Pr×Pr}{B:Int}(h1:x.1.1<x.2.1)(h2:1<=x.1.1/\x.1.1<=B)(h3:-B<=x.1.2/\x.1.2<=B)(h4:-B<=x.2.2/\x.2.2<=B):-(4*B)<=vlL x/\vlL x<=4*B:=by
 have hd:0<x.2.1-x.1.1:=by omega
 have a:=JoS (x.2.2-x.1.2-2*x.1.1) (x.2.1-x.1.1) (4*B) hd (by omega);unfold vlL;omega
theorem Jge:∀(tb:List Tr) (L:List Pr),tb.foldl (fun L t=>L++QC t.2.2.toNat ((t.1,t.2.1):Pr)) L=L++apT tb
 | [],L=>by simp[apT]
 | t::tb,L=>by rw[Ga,Jge tb];unfold apT;rw[GB,Kc]
def JmA(ps:List Pr)(N:Nat)(g:Good ps)(h:ps.length<=30)(hN:thN N ps=[]):Yv [.sh (.row (ps.map prE))]=some (.own ((apT (tbN N 0 ps)).map prE)):=by
 have asc:=Ym N 0 ps none g (QD _) (fun b e=>by cases e)
 have ns:=VA N 0 g hN
 have nm:∀t∈tbN N 0 ps,1<=t.2.2:=fun t ht=>(J3 asc t ht).2
 unfold Yv;walk_at "ev";rw[JcC ps N g h hN];walk_at "ev";rw[Kz];refine YN (fun(rest:List Tr) (L:List Pr) E=>∃j2 j3 j4,E=[.sh (.row (ps.map prE)),.own (L.map prE),j2,j3,j4]/\(L.length:Int)+Y7 rest<=30/\∀t∈rest,1<=t.2.2) (fun L t=>L++QC t.2.2.toNat (t.1,t.2.1)) [] ⟨.no,.no,.no,rfl,by rw[ns];simp;omega,nm⟩ ?_ ?_
 ·rintro t rest L E ⟨j2,j3,j4,rfl,hz,hr⟩;have h1:=hr t Qf
  have hs:0<=Y7 rest:=by have:=(JcF (tb:=rest) fun u hu=>hr u (Qc _ hu)).1;omega
  have hz':(L.length:Int)+(t.2.2+Y7 rest)<=30:=by
   have e:Y7 (t::rest)=t.2.2+Y7 rest:=by unfold Y7;rw[Qd,QE]
   rw[<- e];exact hz
  simp only[trE];walk_at "ev";rw[JdG (d:=D.tup [.int t.1,.int t.2.1]) rfl (Jfp ⟨by omega,by omega⟩) (by omega)];walk_at "ev";rw[GU,if_pos (by omega)];refine⟨.sh (.int t.1),.sh (.int t.2.1),.sh (.int t.2.2),?_,by rw[QA,GU];omega,fun u hu=>hr u (Qc _ hu)⟩;rw[QT,KJ];rfl
 ·rintro E' ⟨j2,j3,j4,rfl,_,_⟩;rw[Jge,Lb];walk_at "ev"
def Wk(g:Good ps)(hN:thN N ps=[]):(apT (tbN N 0 ps)).length=ps.length:=by
 have asc:=Ym N 0 ps none g (QD _) (fun b e=>by cases e)
 have l1:=ZQ _ fun t ht=>(J3 asc t ht).2
 have ns:=VA N 0 g hN;omega
noncomputable def ppE(x:Pr×Pr):D:=.tup [prE x.1,prE x.2]
theorem JfL:∀l:List Pr,(Ru l (l.drop 1)).filter (fun x=>decide (x.1.1≠x.2.1))=prL l
 | []=>rfl
 | [_]=>rfl
 | q::r::l=>by
  have ih:=JfL (r::l)
  show((q,r)::Ru (r::l) ((r::l).drop 1)).filter _=_;rw[prL]
  by_cases c:q.1=r.1
  ·rw[GM (by simp[c]),ih,if_neg (by simpa using c)]
  ·rw[GN (by simp[c]),ih,if_pos c]
def JmF(l:List Pr)(h:l.length<=30):YE [.sh (.lst (l.map prE))]=some (.own ((prL l).map ppE)):=by
 unfold YE;walk_at "ev";rw[Jds,<- List.map_drop,Jdb];walk_at "ev";have hz:(Ru l (l.drop 1)).length<=16777216:=by rw[Kj];omega
 rw[if_pos hz,Jcg (g:=ppE) (k:=fun x=>decide (x.1.1≠x.2.1))]
 ·rw[JfL];walk_at "ev"
 ·intro x _;refine⟨?_,fun _=>?_⟩
  ·walk_at "ev";rw[UD,UD];walk_at "ev"
   by_cases c:x.1.1=x.2.1 <;> simp[c]
  ·walk_at "ev";rfl
noncomputable def Jez:List Pr->Bool
 | p::q::r=>(decide (p.2<=q.2) && decide (p.2<=q.1-(p.1+p.2))) && Jez (q::r)
 | _=>true
theorem JcY:∀(ps:List Pr),Jez ps=true↔Uq ps
 | []=>⟨fun _=>trivial,fun _=>rfl⟩
 | [_]=>⟨fun _=>trivial,fun _=>rfl⟩
 | p::q::r=>by rw[Jez,QR,QR,decide_eq_true_eq,decide_eq_true_eq,JcY (q::r),and_assoc];rfl
noncomputable def mxO(l:List Int):D:=match l.max? with
 | some m=>.int m
 | none=>.non
theorem Jht(ns:List Int)(at' span p0:Int)(h0:0<span):∀i:Nat,p0<=(spr ns at' span p0 i).1/\(spr ns at' span p0 i).1<=p0+i*(2*span+1)/\(∀p∈(spr ns at' span p0 i).2,p0<=p.1/\p.1+p.2<=p0+i*(2*span+1)/\p.2<=span)/\((spr ns at' span p0 i).2.map (·.2)).sum<=i*span
 | 0=>⟨QD _,by simp[spr],fun p hp=>(by cases hp),by simp[spr]⟩
 | i+1=>by
  obtain⟨a0,a1,a2,a3⟩:=Jht ns at' span p0 h0 i;have m1:=LG (cell ns (at'+1+2*i)) (b:=span) (by omega);have m2:=LG (cell ns (at'+2+2*i)) (b:=span) (by omega);have m3:=Mf (cell ns (at'+1+2*i)) (b:=span) (by omega);have m4:=Mf (cell ns (at'+2+2*i)) (b:=span) (by omega);have e1:((i+1:Nat):Int)*(2*span+1)=i*(2*span+1)+(2*span+1):=by rw[KD,K0];simp
  have e2:((i+1:Nat):Int)*span=i*span+span:=by rw[KD,K0];simp
  rw[e1,e2];refine⟨?_,?_,fun p hp=>?_,?_⟩
  ·show p0<=_+(1+_)+1+_;omega
  ·show _+(1+_)+1+_<=_;omega
  ·rcases GH.mp hp with z|z
   ·have:=a2 p z;omega
   ·have e:p=((spr ns at' span p0 i).1,1+cell ns (at'+1+2*i) % span):=by simpa using z
    subst e;refine⟨a0,?_,?_⟩
    ·show _+(1+_)<=_;omega
    ·show 1+_<=_;omega
  ·simp only[spr,QT,Qd,LA,LH,QE,List.sum_nil];omega
noncomputable def UE(p:Pr):Pr:=(1-p.1-p.2,p.2)
noncomputable def Jv(ps:List Pr):List Pr:=ps.reverse.map UE
def Jin(p:Pr):UE (UE p)=p:=by unfold UE;dsimp only;rw[show 1-(1-p.1-p.2)-p.2=p.1 by omega]
def US(ps:List Pr):(Jv ps).length=ps.length:=by unfold Jv;rw[Qp,Km]
def Jim(ps:List Pr):Jv (Jv ps)=ps:=by
 unfold Jv;rw[<- GP,KN,Qw];have:UE ∘ UE=id:=by funext p;exact Jin p
 rw[this,Xd]
def WA(e:(Jv ps)[j]?=some q):∃p,ps[ps.length-1-j]?=some p/\q=UE p/\j<ps.length:=by
 unfold Jv at e;rw[Qq,Q0] at e;obtain⟨p,e,rfl⟩:=e;have hj:j<ps.length:=by have:=(Qo.mp e).1;rwa [Km] at this
 rw[LM hj] at e;exact⟨p,e,rfl,hj⟩
def WB(ps:List Pr):((Jv ps).map (·.2)).sum=(ps.map (·.2)).sum:=by unfold Jv;rw[Qw,show(fun p:Pr=>p.2) ∘ UE=(fun p=>p.2) from rfl,GP,List.sum_reverse]
def YG(g:Good ps):Good (Jv ps):=by
 refine⟨fun j q e=>?_,fun j q r e1 e2=>?_⟩
 ·obtain⟨p,h,rfl,_⟩:=WA e;exact g.one _ p h
 ·obtain⟨p,h,rfl,hj⟩:=WA e1;obtain⟨p',h',rfl,hj'⟩:=WA e2;have:ps.length-1-j=ps.length-1-(j+1)+1:=by omega
  rw[this] at h;have:=g.gap _ p' p h' h;unfold UE;dsimp only;omega
theorem ZC(x:Int):∀(r:List Pr) (cur:Pr),0<=cur.2->(∀p∈r,0<=p.2)->JJ (clF cur r) x=JJ (cur::r) x
 | [],cur,_,_=>rfl
 | p::r,cur,h0,h=>by
  have hp:=h p Qf
  have hr:=fun q hq=>h q (Qc p hq)
  rw[clF]
  by_cases c:cur.1+cur.2=p.1
  ·rw[if_pos c,ZC x r _ (by dsimp only;omega) hr,Jw,Jw,Jw,<- L7];congr 1;rw[Ki];simp only[LI,QR,decide_eq_true_eq];omega
  ·rw[if_neg c]
   by_cases c2:0<p.2
   ·rw[if_pos c2,Jw,ZC x r p hp hr,Jw cur]
   ·rw[if_neg c2,ZC x r cur h0 hr,Jw,Jw,Jw];rw[show(decide (p.1<=x) && decide (x<p.1+p.2))=false from by
     rw[LO]
     by_cases z:p.1<=x
     ·exact .inr (decide_eq_false (by omega))
     ·exact .inl (decide_eq_false z),G8]
theorem JgN(x:Int):∀(ps:List Pr),(∀p∈ps,0<=p.2)->JJ (clN ps) x=JJ ps x
 | [],_=>rfl
 | p::r,h=>by
  have hp:=h p Qf
  have hr:=fun q hq=>h q (Qc p hq)
  rw[clN]
  by_cases c:0<p.2
  ·rw[if_pos c,ZC x r p hp hr]
  ·rw[if_neg c,JgN x r hr,Jw,show(decide (p.1<=x) && decide (x<p.1+p.2))=false from by
       rw[LO]
       by_cases z:p.1<=x
       ·exact .inr (decide_eq_false (by omega))
       ·exact .inl (decide_eq_false z),G8]
def JjK(g:Good ps)(x:Int):JJ (thF ps) x=true↔∃(i:Nat) (p:Pr),ps[i]?=some p/\p.1-2*(i:Int)<=x/\x<p.1-2*(i:Int)+p.2-1:=by
 unfold thF;rw[JgN,has_iff]
 ·constructor
  ·rintro⟨p,hp,h1,h2⟩;obtain⟨i,hi⟩:=GA.mp hp;obtain⟨q,hq,rfl⟩:=V3 hi;exact⟨i,q,hq,by dsimp only at h1;omega,by dsimp only at h2;omega⟩
  ·rintro⟨i,p,hp,h1,h2⟩;refine⟨(p.1+2*(-1)*(i:Int),p.2+-1),GA.mpr ⟨i,?_⟩,by dsimp only;omega,by dsimp only;omega⟩;unfold byF;rw[QJ,hp];rfl
 ·intro p hp;obtain⟨i,hi⟩:=GA.mp hp;obtain⟨q,hq,rfl⟩:=V3 hi;have:=g.one i q hq;dsimp only;omega
def Jme(ps:List Pr)(x:Int):JJ (Jv ps) x=JJ ps (-x):=by
 rw[Ki,has_iff,has_iff];unfold Jv;constructor
 ·rintro⟨q,hq,h1,h2⟩;obtain⟨p,hp,rfl⟩:=Qx.mp hq;unfold UE at h1 h2;exact⟨p,Kx.mp hp,by dsimp only at h2;omega,by dsimp only at h1;omega⟩
 ·rintro⟨p,hp,h1,h2⟩;refine⟨UE p,Qx.mpr ⟨p,Kx.mpr hp,rfl⟩,?_,?_⟩ <;> (unfold UE;dsimp only;omega)
def JgW(e:ps[i]?=some p):(Jv ps)[ps.length-1-i]?=some (UE p):=by
 have hi:i<ps.length:=by
  rcases Lh i ps.length with z|z
  ·exact z
  ·rw[Gz z] at e;cases e
 unfold Jv;rw[Qq,LM (by omega),show ps.length-1-(ps.length-1-i)=i by omega,e];rfl
def Jle(g:Good ps):thF (Jv ps)=Jv (mvP (1-2*(ps.length:Int)) (thF ps)):=by
 refine ZD (JB (YG g)) (YG (JgY (JB g))) fun x=>?_
 have gm:=YG g;rw[Jme,show -x=(-x+(1-2*(ps.length:Int)))-(1-2*(ps.length:Int)) by omega,JfB,Ki,JjK gm,JjK g];constructor
 ·rintro⟨j,q,hq,h1,h2⟩;obtain⟨p,hp,rfl,hj⟩:=WA hq;refine⟨_,p,hp,?_,?_⟩ <;> (unfold UE at h1 h2;dsimp only at h1 h2;omega)
 ·rintro⟨i,p,hp,h1,h2⟩
  have hi:i<ps.length:=by
   rcases Lh i ps.length with z|z
   ·exact z
   ·rw[Gz z] at hp;cases hp
  refine⟨_,_,JgW hp,?_,?_⟩ <;> (unfold UE;dsimp only;omega)
def JmK(ps:List Pr):mvP 0 ps=ps:=by unfold mvP;refine(QG fun p _=>?_).trans (Xd ps);show((p.1-0,p.2):Pr)=p;rw[RM]
noncomputable def WN(ps:List Pr):List Int:=ps.map fun p=>p.1
theorem JbY(x:Int):∀(r:List Pr) (cur:Pr),(∀p∈r,0<=p.2)->(Jk (cur::r)).count x+(WN (clF cur r)).count x=(Jk (clF cur r)).count x+(WN (cur::r)).count x
 | [],cur,_=>rfl
 | p::r,cur,h=>by
  have hp:=h p Qf
  have hr:=fun q hq=>h q (Qc p hq)
  rw[clF]
  by_cases c:cur.1+cur.2=p.1
  ·rw[if_pos c];have ih:=JbY x r (cur.1,cur.2+p.2) hr;simp only[Jk,WN,Qd,QV] at ih ⊢;rw[show cur.1+(cur.2+p.2)=p.1+p.2 by omega] at ih;rw[c];omega
  ·rw[if_neg c]
   by_cases c2:0<p.2
   ·rw[if_pos c2];have ih:=JbY x r p hr;simp only[Jk,WN,Qd,QV] at ih ⊢;omega
   ·rw[if_neg c2];have ih:=JbY x r cur hr;simp only[Jk,WN,Qd,QV] at ih ⊢;rw[show p.1+p.2=p.1 by omega];omega
theorem JiY(x:Int):∀(r:List Pr),(∀p∈r,0<=p.2)->(Jk r).count x+(WN (clN r)).count x=(Jk (clN r)).count x+(WN r).count x
 | [],_=>rfl
 | p::r,h=>by
  have hp:=h p Qf
  have hr:=fun q hq=>h q (Qc p hq)
  rw[clN]
  by_cases c:0<p.2
  ·rw[if_pos c];exact JbY x r p hr
  ·rw[if_neg c];have ih:=JiY x r hr;simp only[Jk,WN,Qd,QV] at ih ⊢;rw[show p.1+p.2=p.1 by omega];omega
def Jbs(c x:Int):∀(l:List Int),((l.map fun y=>c-y).reverse).count x=l.count (c-x):=fun l=>by
 rw[List.count_reverse]
 induction l with
 | nil=>rfl
 | cons y l ih =>
  rw[Qd,QV,QV,ih]
  by_cases h:y=c-x
  ·have h':c-(c-x)=x:=by omega
   rw[h,h'];simp
  ·have h':¬c-y=x:=by omega
   simp[h,h']
def JqB(ps:List Pr):spF (Jv ps)=((WN (byF (-1) ps)).map fun y=>2-2*(ps.length:Int)-y).reverse:=by
 refine GJ fun j=>?_
 have hl:=US ps
 by_cases h:j<ps.length
 ·have hi:ps.length-1-j<ps.length:=by omega
  have e:=JgW (QB hi);rw[show ps.length-1-(ps.length-1-j)=j by omega] at e;unfold spF WN byF;rw[Qq,Lj,e,LM (by simpa using h),Qq,Qq,QJ];simp only[Qp,MY,QB hi,Ld,UE,Option.some.injEq];omega
 ·rw[Gz (by unfold spF;simp;omega),Gz (by simp[WN,Ug];omega)]
def Jjn(d:Int)(ps:List Pr):Jk (Jv (mvP d ps))=((WN ps).map fun y=>1+d-y).reverse:=by
 unfold Jk Jv mvP WN;rw[Qw,Qw,<- GP,<- GP,Qw];refine QG fun p _=>?_
 simp only[Xj,UE];omega
def Jq7(g:Good ps):∀p∈byF (-1) ps,0<=p.2:=fun p hp=>by obtain⟨i,hi⟩:=GA.mp hp;obtain⟨q,hq,rfl⟩:=V3 hi;have:=g.one i q hq;dsimp only;omega
def Jpm(g:Good ps)(k x:Int):lk x (JY (Jt k (Jv ps)))=lk (2-2*(ps.length:Int)-x) (JY (Jt k ps)):=by
 have e1:=W0 (YG g) k x
 have e2:=W0 g k (2-2*(ps.length:Int)-x)
 have e3:=JiY (2-2*(ps.length:Int)-x) (byF (-1) ps) (Jq7 g);rw[Jle g,Jjn,show(1+(1-2*(ps.length:Int)))=2-2*(ps.length:Int) by omega,Jbs,JqB,Jbs] at e1;rw[JkX,YK] at e2
 have e4:thF ps=clN (byF (-1) ps):=rfl;rw[<- e4] at e3
 have e5:Jk (byF (-1) ps)=(byF (-1) ps).map fun p=>p.1+p.2:=rfl
 rw[e5] at e3;omega
def Jpn(c x:Int):∀(a:List Pr),(a.map (·.1)).Nodup->lk x ((a.map fun p=>((c-p.1,p.2):Pr)).reverse)=lk (c-x) a:=fun a nd=>by
 have key:∀(a b:List Pr),(∀p,p∈a↔p∈b)->(a.map (·.1)).Nodup->(b.map (·.1)).Nodup->∀y,lk y a=lk y b:=fun a b h na nb y=>by
  have mem:∀(a:List Pr),(a.map (·.1)).Nodup->∀p∈a,lk p.1 a=p.2:=fun a=>by
   induction a with
   | nil=>intro _ p hp;cases hp
   | cons q a ih =>
    intro nd p hp;rw[Qd,Q6] at nd;rw[lk];rcases Qk.mp hp with rfl|hp
    ·rw[if_pos rfl]
    ·rw[if_neg fun z=>nd.1 (by rw[z];exact GX hp)];exact ih nd.2 p hp
  by_cases c:y∈a.map (·.1)
  ·obtain⟨p,hp,rfl⟩:=Qx.mp c;rw[mem a na p hp,mem b nb p ((h p).mp hp)]
  ·have c':y∉b.map (·.1):=fun z=>c (by obtain⟨p,hp,rfl⟩:=Qx.mp z;exact GX ((h p).mpr hp))
   rw[ZG c,ZG c']
 have nd2:((a.map fun p=>((c-p.1,p.2):Pr)).map (·.1)).Nodup:=by rw[Qw];refine KA.mpr ((KA.mp nd).imp fun {x y} h z=>h ?_);have z:c-x.1=c-y.1:=z;omega
 rw[key _ (a.map fun p=>((c-p.1,p.2):Pr)) (fun p=>Kx) (by rw[GP];exact(Rb _).nodup_iff.mpr nd2) nd2]
 clear key nd nd2
 induction a with
 | nil=>rfl
 | cons p a ih =>
  rw[Qd,lk,lk,ih]
  by_cases h:c-p.1=x
  ·rw[if_pos h,if_pos (by omega)]
  ·rw[if_neg h,if_neg (by omega)]
def Jmr(g:Good ps)(k:Int):Jt k (Jv ps)=((Jt k ps).map fun t=>(t.1,2-2*(ps.length:Int)-t.2.1,t.2.2)).reverse:=by
 have pw:=Uz g k
 have nd:((JY (Jt k ps)).map (·.1)).Nodup:=by rw[UA];exact pw.imp fun {a b} h=>by omega
 have pr:JY (Jt k (Jv ps))=((JY (Jt k ps)).map fun p=>((2-2*(ps.length:Int)-p.1,p.2):Pr)).reverse:=by
  refine Jfu (by rw[UA];exact Uz (YG g) k) ?_ (fun p hp=>by
   obtain⟨u,hu,e⟩:=Qx.mp hp;rw[<- e];exact YM hu) (fun p hp=>by
   obtain⟨q,hq,e⟩:=Qx.mp (Kx.mp hp);obtain⟨u,hu,e'⟩:=Qx.mp hq;rw[<- e,<- e'];exact YM hu) fun x=>?_
  ·rw[GP,RU,Qw,KA];have pw2:=pw;rw[<- UA,KA] at pw2;refine pw2.imp fun {x y} h=>?_
   show 2-2*(ps.length:Int)-y.1<2-2*(ps.length:Int)-x.1;omega
  ·rw[Jpn _ _ _ nd,Jpm g]
 have back:∀l:List Tr,(∀t∈l,t.1=k)->l=(JY l).map fun p=>(k,p.1,p.2):=fun l h=>by
  unfold JY;rw[Qw];refine(Mw l).symm.trans (QG fun t ht=>?_);show t=(k,t.2.1,t.2.2)
  rw[<- h t ht]
 rw[back (Jt k (Jv ps)) fun t ht=>Yc ht,pr]
 conv=>rhs;rw[back (Jt k ps) fun t ht=>Yc ht]
 rw[Qw,GP,Qw];rfl
noncomputable def erL:Int->List Pr->List Pr
 | _,[]=>[]
 | c,q::r=>(q.1,q.2+2*q.1*c)::erL (c+1) r
theorem Jjq:∀(a b:List Pr) (c:Int),erL c (a++b)=erL c a++erL (c+(a.length:Int)) b
 | [],b,c=>by simp[erL]
 | q::a,b,c=>by rw[Kl,erL,erL,Jjq a b (c+1),Kl,Qv];congr 3;omega
theorem Jck:∀(a:List Pr) (c:Int),(erL c a).length=a.length
 | [],_=>rfl
 | q::a,c=>by rw[erL,Qv,Qv,Jck a]
theorem JcB:∀(a b:List Pr) (c:Int),lnF c (a++b)=lnF c a++lnF (c+(a.map (·.1)).sum) b
 | [],b,c=>by simp[lnF]
 | q::a,b,c=>by rw[Kl,lnF,lnF,JcB a b (c+q.1),Kl,Qd,QE,Rm]
theorem JdQ(p:Pr):∀m:List Pr,(VR p m).Perm (p::m)
 | []=>.refl _
 | q::m=>by
  rw[VR];split
  ·exact((JdQ p m).cons q).trans (.swap p q m)
  ·exact .refl _
theorem U3:∀l:List Pr,(Yb l).Perm l
 | []=>.refl _
 | p::l=>(JdQ p (Yb l)).trans ((U3 l).cons p)
def UO(l:List Pr):(Yb l).length=l.length:=(U3 l).length_eq
theorem Jbv(s:Int):∀(a b:List Pr),(∀p∈a,p.1=s)->(∀q∈b,s<q.1)->Yb (a++b)=Yb b++a
 | [],b,_,_=>by simp
 | p::a,b,ha,hb=>by
  have ih:=Jbv s a b (fun q hq=>ha q (Qc _ hq)) hb
  show VR p (Yb (a++b))=_;rw[ih]
  have hp:=ha p Qf
  have ins:∀(l:List Pr),(∀q∈l,s<q.1)->VR p (l++a)=l++p::a:=fun l=>by
   induction l with
   | nil =>
    intro _
    cases a with
    | nil=>rfl
    | cons q a =>
     have hq:=ha q (by simp)
     show(if p.1<q.1 then _ else _)=_;rw[if_neg (by omega)];rfl
   | cons q l ih=>intro h;have hq:=h q Qf;show(if p.1<q.1 then q::VR p (l++a) else _)=_;rw[if_pos (by omega),ih fun r hr=>h r (Qc _ hr)];rfl
  exact ins _ fun q hq=>hb q ((U3 b).mem_iff.mp hq)
theorem JcR(s β:Int):∀l:List Int,((((l.map fun x=>((s,β-x):Pr)).reverse).map (·.1)).sum:Int)=s*(l.length:Int)
 | []=>by simp
 | y::l=>by rw[Qd,GI,QT,LH,JcR s β l,Qv,show((l.length+1:Nat):Int)=(l.length:Int)+1 by omega,LY,MD];simp
theorem JgM(s β γ a:Int):∀(xs:List Int) (c:Int),β+2*a+2*(s*((xs.length:Int)-1))=γ-s-2*(s*c) ->
 lnF a ((xs.map fun x=>((s,β-x):Pr)).reverse)=((erL c (xs.map fun x=>((s,x):Pr))).map fun q=>((q.1,γ-q.1-q.2):Pr)).reverse
 | [],_,_=>rfl
 | x::xs,c,h=>by
  rw[Qv,show((xs.length+1:Nat):Int)-1=(xs.length:Int) by omega] at h;have e1:s*((xs.length:Int)-1)=s*(xs.length:Int)-s:=by rw[Int.mul_sub,MD]
  have e2:s*(c+1)=s*c+s:=by rw[LY,MD]
  have ih:=JgM s β γ a xs (c+1) (by rw[e1,e2];omega);rw[Qd,GI,JcB,ih,JcR,Qd,erL,Qd,GI];congr 1
  show [((s,β-x+2*(a+s*(xs.length:Int))):Pr)]=[(s,γ-s-(x+2*s*c))]
  rw[Int.mul_assoc];congr 2;omega
def JoI(tb:List Tr):apT tb.reverse=(apT tb).reverse:=by
 unfold apT
 induction tb with
 | nil=>rfl
 | cons t tb ih=>rw[GI,List.flatMap_append,ih];simp
def Jrx(d e:Int)(ps:List Pr):mvP d (mvP e ps)=mvP (d+e) ps:=by
 unfold mvP;rw[Qw];refine QG fun p _=>?_
 show((p.1-e-d,p.2):Pr)=(p.1-(d+e),p.2)
 congr 1;omega
def Jlz(hk:0<=k)(g:Good ps)(hN:thN n ps=[]):(apT (tbN n k ps)).length=ps.length:=by
 have l1:=ZQ (tbN n k ps) fun t ht=>(Jf3 n k ps hk t ht).2
 have ns:=VA n k g hN;omega
theorem JbK:∀(n:Nat) (k d a:Int) (ps:List Pr),0<=k->Good ps->thN n ps=[] ->
 lnF a (apT (tbN n k (Jv (mvP d ps))))=((erL 0 (Yb (apT (tbN n k ps)))).map fun q=>((q.1,1+d+2*a+2*(k*(ps.length:Int))-k-q.1-q.2):Pr)).reverse
 | 0,k,d,a,ps,_,_,_=>rfl
 | n+1,k,d,a,ps,hk,g,hN=>by
  have gm:=JgY (d:=d) g
  have gt:=JB g
  have hN':thN n (thF ps)=[]:=hN
  have ml:=JpB d ps
  have l1:Jt (k+1) (Jv (mvP d ps))=((Jt (k+1) ps).map fun t=>(t.1,(2-2*(ps.length:Int)+d)-t.2.1,t.2.2)).reverse:=by
   rw[Jmr gm,Jj7,Qw,ml];congr 1;refine QG fun t _=>?_
   show(t.1,2-2*(ps.length:Int)-(t.2.1-d),t.2.2)=_;congr 2;omega
  have t1:thF (Jv (mvP d ps))=Jv (mvP (1-2*(ps.length:Int)+d) (thF ps)):=by rw[Jle gm,JgZ,ml,Jrx]
  have a1:apT (Jt (k+1) ps)=(J1 (JY (Jt (k+1) ps))).map fun x=>((k+1,x):Pr):=Je1 (k+1) _ fun t ht=>Yc ht
  have a2:apT ((Jt (k+1) ps).map fun t=>(t.1,(2-2*(ps.length:Int)+d)-t.2.1,t.2.2))=(J1 (JY (Jt (k+1) ps))).map fun x=>((k+1,(2-2*(ps.length:Int)+d)-x):Pr):=by
   have:∀l:List Tr,(∀t∈l,t.1=k+1)->apT (l.map fun t=>(t.1,(2-2*(ps.length:Int)+d)-t.2.1,t.2.2))=(J1 (JY l)).map fun x=>((k+1,(2-2*(ps.length:Int)+d)-x):Pr):=fun l=>by
    induction l with
    | nil=>intro _;rfl
    | cons t l ih =>
     intro h;have ih:=ih fun u hu=>h u (Qc _ hu)
     have ht:=h t Qf;unfold apT J1 JY at ih ⊢;rw[Qd,GB,ih,Qd,GB,QT,KJ,ht]
   exact this _ fun t ht=>Yc ht
  have ms:((J1 (JY (Jt (k+1) ps))).length:Int)+((thF ps).length:Int)=(ps.length:Int):=by
   have e1:=ZQ (Jt (k+1) ps) fun t ht=>YM ht
   rw[a1,Qp] at e1;have e2:=ZH g (k+1);omega
  have hm:Yb (apT (tbN (n+1) k ps))=Yb (apT (tbN n (k+1) (thF ps)))++(J1 (JY (Jt (k+1) ps))).map fun x=>((k+1,x):Pr):=by
   rw[tbN,Je0,a1];refine Jbv (k+1) _ _ (fun p hp=>?_) fun q hq=>?_
   ·obtain⟨x,_,rfl⟩:=Qx.mp hp;rfl
   ·obtain⟨t,ht,rfl⟩:=Vg hq;exact WI n (k+1) _ t ht
  have fl:(Yb (apT (tbN n (k+1) (thF ps)))).length=(thF ps).length:=by rw[UO,Jlz (by omega) gt hN']
  rw[hm,Jjq,QT,List.reverse_append,tbN,Je0,l1,JoI,a2,JcB,t1]
  generalize J1 (JY (Jt (k+1) ps))=xs at *
  rw[JcR,JbK n (k+1) (1-2*(ps.length:Int)+d) (a+(k+1)*(xs.length:Int)) (thF ps) (by omega) gt hN',fl,L1];have p1:k*(ps.length:Int)=k*(xs.length:Int)+k*((thF ps).length:Int):=by rw[<- ms,LY]
  have p2:(k+1)*(xs.length:Int)=k*(xs.length:Int)+(xs.length:Int):=by rw[K0,Xb]
  have p3:(k+1)*((thF ps).length:Int)=k*((thF ps).length:Int)+((thF ps).length:Int):=by rw[K0,Xb]
  have p4:(k+1)*((xs.length:Int)-1)=k*(xs.length:Int)+(xs.length:Int)-k-1:=by rw[Int.mul_sub,MD,p2];omega
  congr 1
  ·refine JgM (k+1) (2-2*(ps.length:Int)+d) (1+d+2*a+2*(k*(ps.length:Int))-k) a xs _ ?_;rw[p1,p3,p4];omega
  ·congr 1;refine QG fun q _=>?_
   congr 1;rw[p1,p2,p3];omega
noncomputable def muP(q:Pr):Pr:=(q.1,1-q.1-q.2)
noncomputable def evL(x:Pr×Pr):Int:=(x.2.2-x.1.2-x.1.1-x.2.1) / (x.1.1-x.2.1)
theorem Jhc(q r:Pr):∀(l:List Pr),prL (l++[q,r])=prL (l++[q])++(if q.1≠r.1 then [(q,r)] else [])
 | []=>by show(if q.1≠r.1 then(q,r)::prL [r] else prL [r])=_;split <;> rfl
 | [p]=>by
  show(if p.1≠q.1 then(p,q)::prL [q,r] else prL [q,r])=(if p.1≠q.1 then(p,q)::prL [q] else prL [q])++_
  have e:prL [q,r]=(if q.1≠r.1 then [(q,r)] else []):=by show(if q.1≠r.1 then(q,r)::prL [r] else prL [r])=_;split <;> rfl
  rw[e];split <;> rfl
 | p::p'::l=>by
  have ih:=Jhc q r (p'::l)
  show(if p.1≠p'.1 then(p,p')::prL ((p'::l)++[q,r]) else prL ((p'::l)++[q,r]))=(if p.1≠p'.1 then(p,p')::prL ((p'::l)++[q]) else prL ((p'::l)++[q]))++_;rw[ih];split <;> rfl
theorem Jkq:∀(l:List Pr),prL ((l.map muP).reverse)=((prL l).map fun x=>(muP x.2,muP x.1)).reverse
 | []=>rfl
 | [p]=>rfl
 | p::q::l=>by
  have ih:=Jkq (q::l);rw[Qd,GI] at ih;rw[Qd,Qd,GI,GI,Kc,List.singleton_append,Jhc,ih,prL]
  by_cases c:p.1=q.1
  ·rw[if_neg (by show ¬¬q.1=p.1;simp[c]),if_neg (by simp[c]),KQ]
  ·rw[if_pos (by show ¬q.1=p.1;exact fun z=>c z.symm),if_pos c,Qd,GI]
def Jso(x:Pr×Pr):vlL (muP x.2,muP x.1)=- evL x:=by unfold vlL evL muP;dsimp only;rw[show 1-x.1.1-x.1.2-(1-x.2.1-x.2.2)-2*x.2.1=x.2.2-x.1.2-x.1.1-x.2.1 by omega]
noncomputable def ngO:D->D
 | .int m=>.int (-m)
 | d=>d
def Jpw(l:List Int):(match l.min? with|some m=>D.int m|none=>.non)=ngO (mxO ((l.map fun x=>- x).reverse)):=by
 unfold mxO
 cases hm:l.min? with
 | none=>rw[RV] at hm;subst hm;rfl
 | some m =>
  obtain⟨h1,h2⟩:=My.mp hm
  have:((l.map fun x=>- x).reverse).max?=some (-m):=RX.mpr ⟨Kx.mpr (Qx.mpr ⟨m,h1,rfl⟩),fun b hb=>by obtain⟨c,hc,rfl⟩:=Qx.mp (Kx.mp hb);have:=h2 c hc;omega⟩
  rw[this];show D.int m=.int (- - m);rw[Int.neg_neg]
theorem Jgh:∀{l:List Pr},l.Pairwise JpU->JaW l=true
 | [],_=>rfl
 | [p],_=>rfl
 | p::q::l,h=>by obtain⟨h1,h2⟩:=QL.mp h;rw[JaW,QR,Jgh h2];refine⟨decide_eq_true ?_,rfl⟩;rcases h1 q Qf with z|z <;> omega
def JnH{ps:List Pr}(h1:ps.length<64)(h2:JaW ps=true):Jcl [.own (ps.map prE)]=some (.own ((Yb ps).map prE)):=by show((prs? (ps.map prE)).bind fun ps=>if ps.length<64/\JaW ps=true then some (Sl.own ((Yb ps).map prE)) else none)=_;rw[JcO,QZ,if_pos ⟨h1,h2⟩]
theorem Jjs:∀(l:List Pr) (i:Nat),(l.zipIdx i).map (fun x=>((x.1.1,x.1.2+2*x.1.1*(x.2:Int)):Pr))=erL (i:Int) l
 | [],_=>rfl
 | q::l,i=>by rw[K2,Qd,Jjs l (i+1),erL];rfl
def JlU(l:List Pr):l.zipIdx.map (fun x=>prE (x.1.1,x.1.2+2*x.1.1*(x.2:Int)))=(erL 0 l).map prE:=by have e:=Jjs l 0;rw[show((0:Nat):Int)=0 from rfl] at e;rw[<- e,Qw];rfl
def VL(ps:List Pr)(N:Nat)(g:Good ps)(hN:thN N ps=[]):lnF 0 (apT (tbN N 0 (Jv ps)))=((erL 0 (Yb (apT (tbN N 0 ps)))).map muP).reverse:=by
 have e:=JbK N 0 0 0 ps (QD _) g hN;rw[JmK] at e;rw[e];congr 1;refine QG fun q _=>?_
 unfold muP;congr 1;omega
def Jj0(ps:List Pr)(N:Nat)(g:Good ps)(h:ps.length<=30)(hN:thN N ps=[]):Jz [.sh (.row (ps.map prE))]=some (.own ((erL 0 (Yb (apT (tbN N 0 ps)))).map prE)):=by
 have al:=Wk g hN
 have asc:=Ym N 0 ps none g (QD _) (fun b e=>by cases e)
 have fl:=UO (apT (tbN N 0 ps));unfold Jz;walk_at "ev";rw[JmA ps N g h hN];walk_at "ev";rw[JnH (by omega) (Jgh (V0 asc))];walk_at "ev";rw[Ws,Wx,JP (g:=fun x:Pr×Nat=>prE (x.1.1,x.1.2+2*x.1.1*(x.2:Int)))]
 ·rw[if_pos (by rw[Qp,List.length_zipIdx];omega)];walk_at "ev";rw[JlU]
 ·intro x hx
  have hx2:x.2<(Yb (apT (tbN N 0 ps))).length:=by have:=M7 hx;omega
  walk_at "ev";rw[UD,Vl];walk_at "ev";rfl
def Jii(ps:List Pr)(N:Nat)(g:Good ps)(h:ps.length<=30)(hN:thN N ps=[])(hb:∀q∈apT (tbN N 0 (Jv ps)),q.1<=10 ^ 100):YV [.sh (.row (ps.map prE))]=some (.sh (ngO (mxO ((prL (lnF 0 (apT (tbN N 0 (Jv ps))))).map vlL)))):=by
 have mf:=VL ps N g hN
 have gm:=YG g
 have al:=Wk g hN
 have asc:=Ym N 0 (Jv ps) none gm (QD _) (fun b e=>by cases e)
 have ch:=Jdr (apT (tbN N 0 (Jv ps))) 0 (V0 asc)
 have sz:∀q∈lnF 0 (apT (tbN N 0 (Jv ps))),1<=q.1/\q.1<=10 ^ 100:=fun q hq=>by
  have hx1:q.1∈(lnF 0 (apT (tbN N 0 (Jv ps)))).map (·.1):=GX hq;rw[Jal] at hx1;obtain⟨y,hy,ey⟩:=Qx.mp hx1
  have h2:=hb y hy;obtain⟨t,ht,rfl⟩:=Vg hy
  have h1:=(J3 asc t ht).1;rw[<- ey];exact⟨h1,h2⟩
 rw[mf] at ch sz ⊢;have fl:(erL 0 (Yb (apT (tbN N 0 ps)))).length<=30:=by rw[Jck,UO];omega
 unfold YV;walk_at "ev";rw[Jj0 ps N g h hN]
 generalize erL 0 (Yb (apT (tbN N 0 ps)))=E at *
 walk_at "ev";rw[JmF _ fl];walk_at "ev"
 have pl:(prL E).length<=30:=by rw[<- JfL];refine Gm (RW _ _) ?_;rw[Kj];omega
 rw[if_pos (by omega),JP (g:=fun x=>D.int (evL x))]
 ·walk_at "ev";rw[show(prL E).map (fun x=>D.int (evL x))=((prL E).map evL).map D.int by rw[Qw];rfl];walk_at "ev"
  have e1:(prL ((E.map muP).reverse)).map vlL=(((prL E).map evL).map fun x=>- x).reverse:=by rw[Jkq,GP,Qw,Qw];congr 1;exact QG fun x _=>Jso x
  rw[e1,<- Jpw];cases ((prL E).map evL).min? <;> rfl
 ·intro x hx
  have hx':(muP x.2,muP x.1)∈prL ((E.map muP).reverse):=by rw[Jkq];exact Kx.mpr (Qx.mpr ⟨x,hx,rfl⟩)
  obtain⟨m1,m2,_⟩:=JcN _ _ hx';have c:x.2.1<x.1.1:=Jgo _ ch _ hx';have s1:1<=x.2.1/\x.2.1<=10 ^ 100:=sz (muP x.2) m1;have s2:1<=x.1.1/\x.1.1<=10 ^ 100:=sz (muP x.1) m2
  have cc:0<x.1.1-x.2.1/\(x.1.1-x.2.1).natAbs<=10 ^ 200:=⟨by omega,by
   have:(10:Nat) ^ 100<=10 ^ 200:=by decide +kernel
   have:(10:Int) ^ 100=((10 ^ 100:Nat):Int):=by norm_cast
   omega⟩
  simp only[ppE];walk_at "ev";rw[Vl,Vl];walk_at "ev";rw[UD,UD];walk_at "ev";rfl
def Jam(ps:List Pr)(h:ps.length<=1000):JQ [.sh (.lst (ps.map prE))]=some (.sh (.bl (Jez ps))):=by
 unfold JQ;walk_at "ev"
 have go:∀(rest pre:List Pr) (p:Pr) (j1 j2:Sl),ps=pre++p::rest ->
  ((Ya (.nm 1) (Jo (Js 2 (e2 Ye (e2 Ye (e2 fIx (e2 fIx (Jb 0) (Jb 1)) (eC (.int 0))) (e2 fIx (e2 fIx (Jb 0) (e2 Ye (Jb 1) (eC (.int 1)))) (eC (.int 0)))) (e2 fIx (e2 fIx (Jb 0) (e2 Ye (Jb 1) (eC (.int 1)))) (eC (.int 1)))))
 (xIf (tOr? (tB? (e2 fGt (e2 fIx (e2 fIx (Jb 0) (e2 Ye (Jb 1) (eC (.int 1)))) (eC (.int 1))) (e2 fIx (e2 fIx (Jb 0) (Jb 1)) (eC (.int 1))))) (tB? (e2 fLt (Jb 2) (e2 fIx (e2 fIx (Jb 0) (e2 Ye (Jb 1) (eC (.int 1)))) (eC (.int 1)))))) (JZ (eC (.bl false))) JW)) ((R5 pre.length rest.length).map fun(i:Nat)=>D.int (1+(i:Int))) [.sh (.lst (ps.map prE)),j1,j2]).bind (Jey (JZ (eC (.bl true))))).bind Jch=some (.sh (.bl (Jez (p::rest)))):=by
  intro rest
  induction rest with
  | nil=>intro pre p j1 j2 e;rw[KB,List.range'_zero,LA,Ya];walk_at "ev";rfl
  | cons q rest ih =>
   intro pre p j1 j2 e;have ihq:=ih (pre++[p]) q (.sh (.int (1+(pre.length:Int)))) (.sh (.int (q.1-p.1-p.2))) (by rw[e];simp);rw[QA,Gq] at ihq;have gp:(ps.map prE)[pre.length]?=some (prE p):=by rw[Qq,e];simp
   have gq:(ps.map prE)[pre.length+1]?=some (prE q):=by rw[Qq,e,QQ (by omega)];simp
   have k1:(1:Int)+(pre.length:Int)=((pre.length+1:Nat):Int):=by omega
   have k2:(1:Int)+(pre.length:Int)-1=(pre.length:Int):=by omega
   rw[Qv,List.range'_succ,Qd,Ya];walk_at "ev";rw[k2];rw[k1] at ihq ⊢;rw[Wm gq];walk_at "ev";rw[UD];walk_at "ev";rw[Wm gp];walk_at "ev";rw[UD,Vl];walk_at "ev";rw[show((pre.length+1:Nat):Int)-1=(pre.length:Int) by omega,Wm gp,Wm gq];walk_at "ev";rw[Vl p,Vl q];walk_at "ev";rw[Jez]
   by_cases c1:q.2<p.2
   ·rw[decide_eq_true c1,show decide (p.2<=q.2)=false from decide_eq_false (by omega)];walk_at "ev";rfl
   ·rw[decide_eq_false c1,show decide (p.2<=q.2)=true from decide_eq_true (by omega)];walk_at "ev"
    by_cases c2:q.1-p.1-p.2<p.2
    ·rw[decide_eq_true c2,show decide (p.2<=q.1-(p.1+p.2))=false from decide_eq_false (by omega)];walk_at "ev";rfl
    ·rw[decide_eq_false c2,show decide (p.2<=q.1-(p.1+p.2))=true from decide_eq_true (by omega)];walk_at "ev";exact ihq
 cases ps with
 | nil=>walk_at "ev";rfl
 | cons p rest =>
  have g:=go rest [] p .no .no rfl;rw[show rng 1 (((p::rest).length:Int)-1).toNat=(R5 0 rest.length).map (fun(i:Nat)=>D.int (1+(i:Int))) by rw[show(((p::rest).length:Int)-1).toNat=rest.length by rw[Qv];omega,<- R6];rfl]
  exact g
def Jj1(l:List Pr)(h:l.length<=30):Yy [.sh (.lst (l.map prE)),.sh (.int (l.length:Int))]=some (.sh (.bl true)):=by
 unfold Yy;walk_at "ev";rw[Kz];refine YN (fun(rest:List Pr) (_:Unit) E=>∃j2 j3,E=[.sh (.lst (l.map prE)),.sh (.int (l.length:Int)),j2,j3]) (fun _ _=>()) () ⟨.no,.no,rfl⟩ ?_ ?_
 ·rintro q rest _ E ⟨j2,j3,rfl⟩;simp only[prE];walk_at "ev";simp only[Ya];walk_at "ev";exact⟨_,_,rfl⟩
 ·rintro E' ⟨j2,j3,rfl⟩;walk_at "ev"
theorem JiT(n:Int):∀(tb:List Tr),(∀t∈tb,1<=t.2.2)->(tb.map fun t=>t.2.2*(if t.1=n then 1 else 0)).sum=(((apT tb).map (·.1)).count n:Int)
 | [],_=>rfl
 | t::tb,h=>by
  have ih:=JiT n tb fun u hu=>h u (Qc _ hu)
  have h1:=h t Qf;unfold apT at ih ⊢;rw[Qd,QE,ih,GB,QT,KJ,Mv,Xa]
  by_cases c:t.1=n
  ·subst c;simp;omega
  ·simp[c]
theorem Jlo(n:Int):∀(xs:List Pr),wt n xs=(xs.map fun p=>p.2*(if p.1=n then 1 else 0)).sum
 | []=>rfl
 | p::xs=>by rw[wt,Jlo n xs,Qd,QE];split <;> simp
noncomputable def Jb8(xs:List Int):List Pr:=(JV (fM xs)).map fun x=>(x,(xs.count x:Int))
def JqD(xs:List Int):(JV (fM xs)).Pairwise (·<·):=by
 have a:=Up (fM xs)
 have b:(JV (fM xs)).Pairwise (·≠·):=(JI (fM xs)).nodup_iff.mpr (Z1 xs);exact(List.pairwise_and_iff.mpr ⟨a,b⟩).imp fun h=>by omega
def Jc4(xs:List Int)(x:Int):x∈JV (fM xs)↔x∈xs:=by rw[(JI (fM xs)).mem_iff,Jo1]
def Jb9(h:∀x∈xs,0<x):Jdc 0 (Jb8 xs):=by
 unfold Jb8;refine Je3 _ 0 ?_ (fun p hp=>?_) (fun p hp=>?_)
 ·rw[Qw];exact(Xd _).symm▸JqD xs
 ·obtain⟨x,hx,rfl⟩:=Qx.mp hp;exact h x ((Jc4 xs x).mp hx)
 ·obtain⟨x,hx,rfl⟩:=Qx.mp hp;have:=K7.mpr ((Jc4 xs x).mp hx);show(1:Int)<=(xs.count x:Int);omega
theorem Jln(f:Int->Int)(n:Int):∀(l:List Int),l.Nodup->wt n (l.map fun x=>(x,f x))=if n∈l then f n else 0
 | [],_=>rfl
 | x::l,nd=>by
  obtain⟨h1,h2⟩:=Q6.mp nd;have ih:=Jln f n l h2;rw[Qd,wt,ih]
  by_cases c:x=n
  ·subst c;simp[h1]
  ·have c':¬n=x:=fun e=>c e.symm
   simp[c,c']
def Jfb(xs:List Int)(n:Int):wt n (Jb8 xs)=(xs.count n:Int):=by
 unfold Jb8;rw[Jln (fun x=>(xs.count x:Int)) n _ ((JI (fM xs)).nodup_iff.mpr (Z1 xs))];split
 ·rfl
 ·rename_i c;rw[Jc4] at c;rw[Me.mpr c];rfl
def JjX(g:Good ps)(N:Nat):UW (tbN N 0 ps) []=Jb8 ((apT (tbN N 0 ps)).map (·.1)):=by
 have asc:=Ym N 0 ps none g (QD _) (fun b e=>by cases e)
 have pos:∀x∈(apT (tbN N 0 ps)).map (·.1),0<x:=fun x hx=>by obtain⟨q,hq,rfl⟩:=Qx.mp hx;obtain⟨t,ht,rfl⟩:=Vg hq;have:=(J3 asc t ht).1;show 0<t.1;omega
 refine Jf9 _ _ 0 (JlA g N) (Jb9 pos) fun n hn=>?_
 rw[Jfb,Jlo,JeN (fun x=>if x=n then 1 else 0),<- JiT n _ fun t ht=>(J3 asc t ht).2];simp
def Jjj(xs:List Int):Uw (.nm 0) yes? (YQ (aC (Jb 0) (aC (eMI JdC (Jb 1) (Jb 0)) a0))) [.no,.sh (.lst (xs.map D.int))] ((JV (fM xs)).map D.int)=some ((Jb8 xs).map prE):=by
 unfold Jb8;rw[Qw];refine JP fun x _=>?_
 walk_at "ev";simp only[JdC];walk_at "ev";rfl
def JnI(xs:List Int):(JV (fM xs)).length<=xs.length:=by rw[(JI _).length_eq];exact Jjw xs
def Jjk(l:List Pr):Uw (.tp (.cons (.nm 0) (.cons (.nm 1) .nil))) yes? (Jb 0) [.no,.no] (l.map prE)=some ((l.map (·.1)).map D.int):=by
 rw[Qw];refine JP fun p _=>?_
 simp only[prE];walk_at "ev";rfl
def JlM(z:Int)(hz:z.natAbs<=10 ^ 200)(l:List Pr)(h:∀q∈l,q.1.natAbs<=10 ^ 200):Uw (.tp (.cons (.nm 0) (.cons (.nm 1) .nil))) yes? (YQ (aC (e2 YF (Jb 1) (e2 JdE (Jb 0) (Jb 2))) (aC (Jb 0) a0))) [.no,.no,.sh (.int z)] (l.map prE)=some (((l.map (shL z)).map Ka).map prE):=by
 rw[Qw,Qw];refine JP fun p hp=>?_
 have:=h p hp
 have hw:p.1.natAbs<=10 ^ 200/\z.natAbs<=10 ^ 200:=⟨this,hz⟩
 simp only[prE];walk_at "ev";rfl
structure Rw (ps:List Pr) (N:Nat):Prop where
 good:Good ps
 len:ps.length<=30
 sum:(ps.map (·.2)).sum<=10 ^ 60
 inn:∀p∈ps,-10 ^ 60<=p.1/\p.1+p.2<=10 ^ 60
 top:(ps.map (·.2)).sum<=(N:Int)
def Rw.th(r:Rw ps N):thN N ps=[]:=VP N r.good r.top
def Rw.size(r:Rw ps N):∀q∈apT (tbN N 0 ps),1<=q.1/\q.1<=(ps.map (·.2)).sum:=fun q hq=>by obtain⟨t,ht,rfl⟩:=Vg hq;have asc:=Ym N 0 ps none r.good (QD _) (fun b e=>by cases e);exact⟨(J3 asc t ht).1,Jla r.good r.th t ht⟩
def Rw.lsize(r:Rw ps N):∀q∈lnF 0 (apT (tbN N 0 ps)),1<=q.1/\q.1<=(ps.map (·.2)).sum:=fun q hq=>by have hx1:q.1∈(lnF 0 (apT (tbN N 0 ps))).map (·.1):=GX hq;rw[Jal] at hx1;obtain⟨y,hy,ey⟩:=Qx.mp hx1;rw[<- ey];exact r.size y hy
def Rw.lsum(r:Rw ps N):((apT (tbN N 0 ps)).map (·.1)).sum=(ps.map (·.2)).sum:=by
 have asc:=Ym N 0 ps none r.good (QD _) (fun b e=>by cases e);rw[<- JaN N 0 r.good r.th]
 have nm:∀t∈tbN N 0 ps,1<=t.2.2:=fun t ht=>(J3 asc t ht).2
 revert nm
 generalize tbN N 0 ps=tb
 intro nm
 induction tb with
 | nil=>rfl
 | cons t tb ih =>
  have h1:=nm t Qf
  have ih':=ih fun u hu=>nm u (Qc _ hu)
  unfold apT at ih' ⊢;rw[GB,QT,LH,ih',Qd,QE,KJ]
  have:∀(n:Nat) (x:Int),(QC n x).sum=n*x:=fun n x=>by
   induction n with
   | zero=>simp
   | succ n ih=>rw[Gf,QE,ih,KD,K0];omega
  rw[this,show((t.2.2.toNat:Nat):Int)=t.2.2 by omega,XE t.2.2];simp
def Rw.vals(r:Rw ps N):∀x∈prL (lnF 0 (apT (tbN N 0 ps))),-10 ^ 70<=vlL x/\vlL x<=10 ^ 70:=fun x hx=>by
 have asc:=Ym N 0 ps none r.good (QD _) (fun b e=>by cases e)
 have ch:=Jdr (apT (tbN N 0 ps)) 0 (V0 asc);obtain⟨m1,m2,_⟩:=JcN _ x hx
 have s1:=r.lsize _ m1
 have hs:=r.sum
 have hl:=Joi (apT (tbN N 0 ps)) 0 (10 ^ 60) (-10 ^ 60) (10 ^ 60) (QD _) (by rw[r.lsum];omega) (fun q hq=>by
  have h1:=(r.size q hq).1;obtain⟨t,ht,rfl⟩:=Vg hq
  have:=JoB N 0 r.good r.inn t ht;exact⟨h1,this⟩)
 have l1:=hl _ m1
 have l2:=hl _ m2
 have:=Jsn (B:=10 ^ 61) (Jgo _ ch x hx) ⟨s1.1,by omega⟩ (by omega) (by omega);omega
def Jg0(h:-10 ^ 100<=z/\z<=10 ^ 100):z.natAbs<=10 ^ 200:=by
 have:(10:Int) ^ 100<=((10 ^ 200:Nat):Int):=by decide +kernel
 omega
def Rw.mir(r:Rw ps N)(h:∀p∈ps,-10 ^ 59<=p.1/\p.1+p.2<=10 ^ 59):Rw (Jv ps) N:=by refine⟨YG r.good,by rw[US];exact r.len,by rw[WB];exact r.sum,fun p hp=>?_,by rw[WB];exact r.top⟩;unfold Jv at hp;obtain⟨q,hq,rfl⟩:=Qx.mp hp;have:=h q (Kx.mp hq);unfold UE;dsimp only;omega
def JlK(ns:List Int):∃ps N,Rw ps N/\Rw (Jv ps) N/\J7 [.sh (.fz (ns.map .int)),.sh (.int 2),.sh (.int (cell ns 0 % 19)),.sh (.int (Jeo [3,7,1000,10 ^ 50] (cell ns 0 / 19 % 4)))]=some (.own (ps.map prE)):=by
 have sp:0<Jeo [3,7,1000,10 ^ 50] (cell ns 0 / 19 % 4)/\Jeo [3,7,1000,10 ^ 50] (cell ns 0 / 19 % 4)<=10 ^ 50:=Jkn (P:=fun x=>0<x/\x<=10 ^ 50) (by omega) (by show _<(4:Int);omega) (by decide)
 revert sp
 generalize Jeo [3,7,1000,10 ^ 50] (cell ns 0 / 19 % 4)=span
 intro sp;have b0:=LG (cell ns 2) (b:=2*span+1) (by omega);have b1:=Mf (cell ns 2) (b:=2*span+1) (by omega);obtain⟨n,hn⟩:∃n:Nat,n=(cell ns 0 % 19).toNat:=⟨_,rfl⟩
 have n18:n<=18:=by omega
 obtain⟨f1,f2,f3,f4⟩:=Jht ns 2 span (cell ns 2 % (2*span+1)-span) sp.1 n;have m1:(n:Int)*(2*span+1)<=18*(2*span+1):=MB (by omega) (by omega);have m2:(n:Int)*span<=18*span:=MB (by omega) (by omega)
 have r:Rw (spr ns 2 span (cell ns 2 % (2*span+1)-span) n).2 ((spr ns 2 span (cell ns 2 % (2*span+1)-span) n).2.map fun p:Pr=>p.2).sum.toNat:=⟨(JeK ns 2 _ _ sp.1 _).1,by rw[VO];omega,by omega,fun p hp=>by have:=f3 p hp;omega,by omega⟩
 refine⟨_,_,r,r.mir fun p hp=>?_,?_⟩
 ·have:=f3 p hp;omega
 ·rw[hn];exact JmC ns 2 _ span (by omega) (by omega) (by omega) sp.1
theorem JdH(z:Int):∀l:List Pr,Yb (l.map (shL z))=(Yb l).map (shL z)
 | []=>rfl
 | p::l=>by
  have im:∀m:List Pr,VR (shL z p) (m.map (shL z))=(VR p m).map (shL z):=fun m=>by
   induction m with
   | nil=>rfl
   | cons q m ih =>
    rw[Qd,VR,VR];show(if p.1<q.1 then _ else _)=_;split
    ·rw[Qd,ih]
    ·rw[Qd,Qd]
  show VR (shL z p) (Yb (l.map (shL z)))=(VR p (Yb l)).map (shL z);rw[JdH z l,im]
theorem Jn7(z:Int):∀(l:List Pr) (c:Int),erL c (l.map (shL z))=(erL c l).map (shL z)
 | [],_=>rfl
 | q::l,c=>by
  rw[Qd,erL,erL,Qd,Jn7 z l];congr 1;show((q.1,q.2+q.1*z+2*q.1*c):Pr)=(q.1,q.2+2*q.1*c+q.1*z)
  congr 1;omega
def Jrv(z:Int)(q:Pr):muP (shL z q)=shL (-z) (muP q):=by unfold muP shL;dsimp only;rw[Int.mul_neg];congr 1;omega
def Jpx(g:Good ps)(hN:thN N ps=[])(gq:Good qs)(hqN:thN N qs=[])(e:tbN N 0 qs=(tbN N 0 ps).map fun t=>(t.1,t.2.1+z*t.1,t.2.2)):
 lnF 0 (apT (tbN N 0 (Jv qs)))=(lnF 0 (apT (tbN N 0 (Jv ps)))).map (shL (-z)):=by
 rw[VL qs N gq hqN,VL ps N g hN,e,Jn1,JdH,Jn7,GP,Qw,Qw];congr 1;exact QG fun q _=>Jrv z q
def Jo2(gq:Good qs)(hq30:qs.length<=30)(hqN:thN N qs=[])(el:lnF 0 (apT (tbN N 0 qs))=L)(pos:∀q∈L,1<=q.1):(Uq (L.map Ka)->qs=L.map Ka)/\(Uq qs->Uq (L.map Ka)):=by
 refine⟨fun s=>Jnm gq hq30 hqN (JdK _ s pos) s ?_,fun s=>?_⟩
 ·rw[<- el,Jn0]
 ·rw[<- el,Jfi N 0 qs gq s hqN,Joh,Qw];have:(Ka ∘ Ka:Pr->Pr)=id:=by funext x;cases x;rfl
  rw[this,Xd];exact s
def Jj6{E:List Pr}:Jv ((((E.map muP).reverse).map (shL (-z))).map Ka)=(E.map (shL z)).map Ka:=by
 unfold Jv;simp only[GP,KN,Qw];refine QG fun q _=>?_
 simp only[Xj,muP,shL,UE,Ka];rw[Int.mul_neg];congr 1;omega
def JgV(ps:List Pr)(h:ps.length<=1000):J0 [.sh (.tup (ps.map prE))]=some (.own ((Jv ps).map prE)):=by
 have hl:=US ps;unfold J0;walk_at "ev";rw[<- GP,JP (g:=fun p=>prE (UE p))]
 ·walk_at "ev";have e:ps.reverse.map (fun p=>prE (UE p))=(Jv ps).map prE:=by unfold Jv;rw[Qw];rfl
  rw[e]
 ·intro p _;simp only[prE];walk_at "ev";rfl
def Jij(ps qs l:List Pr)(z:Int)(hz:z.natAbs<=10 ^ 200)(h:∀q∈l,q.1.natAbs<=10 ^ 200)(hl:l.length<=30)(ha:YD [.sh (.row (ps.map prE)),.sh .non,.sh (.int z)]=some (.sh (.row (qs.map prE))))(e:qs=(l.map (shL z)).map Ka)(s:Uq (Jv qs)) :
 JO [.sh (.row (ps.map prE)),.sh (.lst (l.map prE)),.sh (.int z)]=some (.sh (.bl true)):=by
 have hq:qs.length=l.length:=by rw[e];simp
 have ml:=US qs;unfold JO;walk_at "ev";rw[ha];walk_at "ev";rw[JlM z hz l h,<- e];walk_at "ev";rw[JgV qs (by omega)];walk_at "ev";rw[Jam _ (by omega),(JcY _).mpr s];walk_at "ev"
noncomputable abbrev elF(N:Nat)(ps:List Pr):List Pr:=erL 0 (Yb (apT (tbN N 0 ps)))
def Rw.afterE(r:Rw ps N)(z:Int)(hz:-10 ^ 100<=z/\z<=10 ^ 100):∃qs,qs.length<=30/\YD [.sh (.row (ps.map prE)),.sh .non,.sh (.int z)]=some (.sh (.row (qs.map prE))) ∧
 (Uq (((lnF 0 (apT (tbN N 0 (Jv ps)))).map (shL (-z))).map Ka)->Jv qs=((lnF 0 (apT (tbN N 0 (Jv ps)))).map (shL (-z))).map Ka)/\(Uq (Jv qs)->Uq (((lnF 0 (apT (tbN N 0 (Jv ps)))).map (shL (-z))).map Ka)):=by
 have hs:=r.sum
 have hl:=r.len
 have s0:=Jc5 (Good.all r.good);obtain⟨qs,gq,ql,qsum,e⟩:=goZ (s:=(ps.map (·.2)).sum+1) (by omega) r.good r.top z
 have tq:thN N qs=[]:=VP N gq (by rw[qsum];exact r.top)
 have e':tbN N 0 qs=(tbN N 0 ps).map fun t=>(t.1,t.2.1+z*t.1,t.2.2):=by
  rw[e];refine QG fun t ht=>?_
  have:=Jla r.good r.th t ht;rw[show min t.1 ((ps.map (·.2)).sum+1)=t.1 by omega]
 have ms:=Jpx r.good r.th gq tq e'
 have ml:=US qs
 have tm:thN N (Jv qs)=[]:=VP N (YG gq) (by rw[WB,qsum];exact r.top);refine⟨qs,by omega,?_,Jo2 (YG gq) (by omega) tm ms fun q hq=>?_⟩
 ·exact JjY ps qs N none ((ps.map (·.2)).sum+1) z r.good r.len r.th gq (by omega) tq (fun s h=>by cases h) (.inr ⟨rfl,by omega⟩) (by omega) (by omega) hz e
 ·obtain⟨x,hx,rfl⟩:=Qx.mp hq;have hx1:x.1∈(lnF 0 (apT (tbN N 0 (Jv ps)))).map (·.1):=GX hx;rw[Jal] at hx1;obtain⟨y,hy,ey⟩:=Qx.mp hx1;obtain⟨t,ht,rfl⟩:=Vg hy;have asc:=Ym N 0 (Jv ps) none (YG r.good) (QD _) (fun b e=>by cases e);have:=(J3 asc t ht).1;show 1<=x.1;rw[<- ey];exact this
def Rw.esize(r:Rw ps N)(rm:Rw (Jv ps) N):∀q∈elF N ps,1<=q.1/\q.1<=(ps.map (·.2)).sum:=fun q hq=>by
 have mf:=VL ps N r.good r.th
 have:=rm.lsize (muP q) (by rw[mf];exact Kx.mpr (GX hq));rw[WB] at this;exact this
def Rw.standsE(r:Rw ps N)(rm:Rw (Jv ps) N)(z:Int)(hz:-10 ^ 100<=z/\z<=10 ^ 100)(h:∀x∈prL (lnF 0 (apT (tbN N 0 (Jv ps)))),vlL x<=-z):
 JO [.sh (.row (ps.map prE)),.sh (.lst ((elF N ps).map prE)),.sh (.int z)]=some (.sh (.bl true)):=by
 have asc:=Ym N 0 (Jv ps) none rm.good (QD _) (fun b e=>by cases e)
 have ch:=Jdr (apT (tbN N 0 (Jv ps))) 0 (V0 asc)
 have st:=(JcZ (-z) _ ch).mpr h;obtain⟨qs,ql,ha,h1,_⟩:=r.afterE z hz
 have hs:=r.sum
 have hl:=r.len
 have al:=Wk r.good r.th
 have el:(elF N ps).length<=30:=by rw[Jck,UO];omega
 have eq:qs=((elF N ps).map (shL z)).map Ka:=by have:=congrArg Jv (h1 st);rw[Jim,VL ps N r.good r.th,Jj6] at this;exact this
 refine Jij ps qs _ z (Jg0 hz) (fun q hq=>Jg0 ?_) el ha eq (by rw[h1 st];exact st);have:=r.esize rm q hq;omega
theorem Jjr:∀(l:List Pr) (c:Int),(erL c l).map (·.1)=l.map (·.1)
 | [],_=>rfl
 | q::l,c=>by rw[erL,Qd,Qd,Jjr l]
def Jjc(h:xs.Perm ys)(pos:∀x∈xs,0<x):Jb8 xs=Jb8 ys :=
 Jf9 _ _ 0 (Jb9 pos) (Jb9 fun x hx=>pos x (h.mem_iff.mpr hx)) fun n _=>by rw[Jfb,Jfb,h.count_eq]
def Jo7(ns:List Int)(ps:List Pr)(N:Nat)(r:Rw ps N)(rm:Rw (Jv ps) N)(hd:J7 [.sh (.fz (ns.map .int)),.sh (.int 2),.sh (.int (cell ns 0 % 19)),.sh (.int (Jeo [3,7,1000,10 ^ 50] (cell ns 0 / 19 % 4)))]=some (.own (ps.map prE))):∃j4 j6,∀T:Es,(Jo (Js 1 (eU 2 JD (aC (Jb 0) (aC (eC (.int 0)) a0)))) (Jo (Js 2 (eU 4 J7 (aC (Jb 0) (aC (eC (.int 2)) (aC (e2 WT (Jb 1) (eC (.int 19))) (aC (e2 fIx (Vk (aC (eC (.int 3)) (aC (eC (.int 7)) (aC (eC (.int 1000)) (aC (e2 JdF (eC (.int 10)) (eC (.int 50))) a0))))) (e2 WT (e2 Jl0 (Jb 1) (eC (.int 19))) (eC (.int 4)))) a0)))))) (Jo (Js 3 (eF Zs (aC (Jb 2) a0))) (Jo (Zg 4 (eU 1 Jz (aC (Jb 3) a0))) (Jo (Jc8 4 (YQ (aC (eC (.int 0)) (aC (eC (.int 0)) a0)))) (Jo (JeV 4) (Jo (Js 5 (eU 1 Jz (aC (Jb 3) a0))) (Jo (xIf (tNot? (tTru? (eU 2 Yy (aC (Jb 5) (aC (eF Zr (aC (Jb 2) a0)) a0))))) (JZ (eC (.bl false))) JW) (Jo (Js 6 (Ys (iE true (Jb 5)) (.tp (.cons (.nm 0) (.cons (.nm 1) .nil))) yes? (Jb 0) [none,none])) (Jo (xIf (tB? (e2 fNe (Jb 6) (eF Vm (aC (Jb 6) a0)))) (JZ (eC (.bl false))) JW) (Jo (xIf (tB? (e2 fNe (eU 1 YJ (aC (Jb 3) a0)) (Ys (iE true (Jcf (Jb 6))) (.nm 0) yes? (YQ (aC (Jb 0) (aC (eMI JdC (Jb 1) (Jb 0)) a0))) [none,some 6]))) (JZ (eC (.bl false))) JW) (Jo (Js 7 (eU 1 YV (aC (Jb 3) a0))) T)))))))))))) [.sh (.fz (ns.map .int)),.no,.no,.no,.no,.no,.no,.no,.no,.no,.no]=T [.sh (.fz (ns.map .int)),.sh (.int (cell ns 0)),.sh (.lst (ps.map prE)),.sh (.row (ps.map prE)),j4,.sh (.lst ((elF N ps).map prE)),j6,.sh (ngO (mxO ((prL (lnF 0 (apT (tbN N 0 (Jv ps))))).map vlL))),.no,.no,.no]:=by
 have hl:=r.len
 have hs:=r.sum
 have al:=Wk r.good r.th
 have el:(elF N ps).length=ps.length:=by rw[Jck,UO];omega
 have fl:Jz [.sh (.row (ps.map prE))]=some (.own ((elF N ps).map prE)):=Jj0 ps N r.good r.len r.th
 have a2:=JiX (l:=[3,7,1000,10 ^ 50]) (k:=cell ns 0 / 19 % 4) (by omega) (by show _<(4:Int);omega);simp only[Qd,LA] at a2
 have asc:=Ym N 0 (Jv ps) none rm.good (QD _) (fun b e=>by cases e)
 have lo:(elF N ps).map (·.1)=(((apT (tbN N 0 (Jv ps))).map (·.1)).reverse:List Int):=by rw[<- Jal (apT (tbN N 0 (Jv ps))) 0,VL ps N r.good r.th,GP,KN,Qw];rfl
 have pw:((apT (tbN N 0 (Jv ps))).map (·.1)).Pairwise (·<=·):=KA.mpr ((V0 asc).imp fun {a b} h=>by have h':a.1<b.1\/(a.1=b.1/\a.2<=b.2):=h;omega)
 have srt:(JV ((elF N ps).map (·.1))).reverse=(elF N ps).map (·.1):=by
  have:JV ((elF N ps).map (·.1))=((elF N ps).map (·.1)).reverse:=by refine Uf ((JI _).trans (Rb _).symm) (Up _) ?_;rw[lo,KN];exact pw
  rw[this,KN]
 have pos:∀x∈(elF N ps).map (·.1),0<x:=fun x hx=>by obtain⟨q,hq,rfl⟩:=Qx.mp hx;have:=(r.esize rm q hq).1;omega
 have lm:=JmE ps N r.good r.len r.th
 have pm:((elF N ps).map (·.1)).Perm ((apT (tbN N 0 ps)).map (·.1)):=by rw[Jjr];exact(U3 _).map _
 rw[JjX r.good N,<- Jjc pm pos] at lm;have stl:=Jii ps N r.good r.len r.th fun q hq=>by have:=rm.size q hq;have:=rm.sum;omega
 have ml:=Jj1 (elF N ps) (by omega);refine⟨.own ((elF N ps).map prE++[D.tup [D.int 0,D.int 0]]).reverse,.sh (.lst (((elF N ps).map (·.1)).map .int)),fun T=>?_⟩
 generalize elF N ps=L at *
 walk_at "ev";rw[W1 _ _ (by omega)];walk_at "ev";rw[a2];walk_at "ev";rw[hd];walk_at "ev";rw[VF rfl r.good r.len];walk_at "ev";rw[fl];walk_at "ev";rw[fl];walk_at "ev";rw[show((ps.length:Nat):Int)=((L.length:Nat):Int) by omega,ml];walk_at "ev";rw[Jjk];walk_at "ev";rw[srt];walk_at "ev";rw[lm];walk_at "ev";rw[if_pos (by have:=JnI (L.map (·.1));rw[Qp] at this;omega),Jjj];walk_at "ev";rw[stl];walk_at "ev"
def Jrh(ns:List Int)(c:Int)(ps:List Pr)(N:Nat)(r:Rw ps N)(rm:Rw (Jv ps) N)(j4 j6:Sl):((Jo (xIf (tB? (e2 fIs (Jb 7) (eC .non))) (Jo (Js 8 (e2 WT (eU 2 JD (aC (Jb 0) (aC (eC (.int 1)) a0))) (e2 JdF (eC (.int 10)) (eC (.int 20))))) (Jo (Vf (iE false (Vk (aC (eC (.int 0)) (aC (Jb 8) (aC (e2 Ye (eC (.int 0)) (Jb 8)) a0))))) (.nm 9) (xIf (tNot? (tTru? (eU 3 JO (aC (Jb 3) (aC (Jb 5) (aC (Jb 9) a0)))))) (JZ (eC (.bl false))) JW)) (JZ (eC (.bl true))))) JW) (Jo (xIf (tOr? (tNot? (tTru? (Ja0 "int" (Jb 7)))) (tTru? (Ja0 "bool" (Jb 7)))) (JZ (eC (.bl false))) JW) (Jo (xIf (tTru? (eU 1 JQ (aC (eU 1 J0 (aC (e1 Uv (eU 3 YD (aC (Jb 3) (aC (eC .non) (aC (e2 YF (Jb 7) (eC (.int 1))) a0))))) a0)) a0))) (JZ (eC (.bl false))) JW) (Jo (Vf (iE false (Vk (aC (eC (.int 0)) (aC (eC (.int 1)) (aC (e2 WT (eU 2 JD (aC (Jb 0) (aC (eC (.int 1)) a0))) (e2 JdF (eC (.int 10)) (eC (.int 20)))) a0))))) (.nm 10) (xIf (tNot? (tTru? (eU 3 JO (aC (Jb 3) (aC (Jb 5) (aC (e2 Ye (Jb 7) (Jb 10)) a0)))))) (JZ (eC (.bl false))) JW)) (JZ (e2 fEq (e1 Uv (Jb 3)) (eF WU (aC (Jb 2) a0)))))))) [.sh (.fz (ns.map .int)),.sh (.int c),.sh (.lst (ps.map prE)),.sh (.row (ps.map prE)),j4,.sh (.lst ((elF N ps).map prE)),j6,.sh (ngO (mxO ((prL (lnF 0 (apT (tbN N 0 (Jv ps))))).map vlL))),.no,.no,.no]).bind Jch=some (.sh (.bl true)):=by
 have hl:=r.len
 have cb:=LG (cell ns 1) (b:=10 ^ 20) (by decide)
 have cb2:=Mf (cell ns 1) (b:=10 ^ 20) (by decide)
 have asc:=Ym N 0 (Jv ps) none rm.good (QD _) (fun b e=>by cases e)
 have ch:=Jdr (apT (tbN N 0 (Jv ps))) 0 (V0 asc)
 have st:=r.standsE rm
 cases hm:((prL (lnF 0 (apT (tbN N 0 (Jv ps))))).map vlL).max? with
 | none =>
  have hn:prL (lnF 0 (apT (tbN N 0 (Jv ps))))=[]:=by rw[List.max?_eq_none_iff,List.map_eq_nil_iff] at hm;exact hm
  have all:∀z:Int,∀x∈prL (lnF 0 (apT (tbN N 0 (Jv ps)))),vlL x<=-z:=fun z x hx=>by rw[hn] at hx;exact(Q9 hx).elim
  simp only[mxO,hm,ngO]
  generalize elF N ps=L at *
  walk_at "ev";rw[W1 _ _ (by omega)];walk_at "ev";simp only[Ya];walk_at "ev";rw[st 0 (by omega) (all _)];walk_at "ev";rw[st _ (by omega) (all _)];walk_at "ev";rw[st _ (by omega) (all _)];walk_at "ev"
 | some m =>
  obtain⟨mm,mx⟩:=RX.mp hm;obtain⟨x0,hx0,e0⟩:=Qx.mp mm;have v0:=rm.vals x0 hx0
  have up:∀k:Int,0<=k->∀x∈prL (lnF 0 (apT (tbN N 0 (Jv ps)))),vlL x<=-(-m-k):=fun k hk x hx=>by have:=mx (vlL x) (GX hx);omega
  obtain⟨qs,ql,ha,_,h2⟩:=r.afterE (-m+1) (by omega);have mq:=US qs
  have sq:Jez (Jv qs)=false:=by
   cases hq:Jez (Jv qs) with
   | false=>rfl
   | true=>have:=(JcZ (-(-m+1)) _ ch).mp (h2 ((JcY _).mp hq)) x0 hx0;omega
  simp only[mxO,hm,ngO]
  generalize elF N ps=L at *
  walk_at "ev";rw[ha];walk_at "ev";rw[JgV qs (by omega)];walk_at "ev";rw[Jam _ (by omega),sq];walk_at "ev";rw[W1 _ _ (by omega)];walk_at "ev";simp only[Ya];walk_at "ev";rw[st _ (by omega) (up 0 (by omega))];walk_at "ev";rw[st _ (by omega) (up 1 (by omega))];walk_at "ev";rw[st _ (by omega) (up _ (by omega))];walk_at "ev"
def law_true(ns:List Int)(hn:ns.length<=63):Jfg [.sh (.fz (ns.map .int))]=some (.sh (.bl true)):=by obtain⟨ps,N,r,rm,hd⟩:=JlK ns;obtain⟨j4,j6,hh⟩:=Jo7 ns ps N r rm hd;unfold Jfg;simp only[Yj,Qv,KB,Nat.reduceAdd,Nat.reduceSub,R9,Kl,Lb];rw[hh];exact Jrh ns _ ps N r rm _ _
end
end LK
noncomputable section
namespace LK
open PySem LE
local macro_rules | `(tactic| walk_at "s")=>`(tactic| repeat' first | rfl | assumption | with_reducible apply UB | with_reducible apply YX | with_reducible apply Jns | with_reducible apply VX | with_reducible apply JkN | with_reducible apply JaT | with_reducible apply Jo4 | with_reducible apply Jfk | with_reducible apply JcU | with_reducible apply Jsu | with_reducible apply JsH | with_reducible apply Jc9 | with_reducible apply Jn9 | with_reducible apply Joa | with_reducible apply Jon | with_reducible apply Jka | with_reducible apply JsP | with_reducible apply Jqy | with_reducible apply JsU | with_reducible apply JqV | with_reducible apply Jqu | with_reducible apply Jow | with_reducible apply Jr5 | with_reducible apply Jse | with_reducible apply JsQ | with_reducible apply Jr4 | with_reducible apply Jsd | with_reducible apply JoD | with_reducible apply JkO | with_reducible apply JrH | with_reducible apply JoE | with_reducible apply Jqx | with_reducible apply JrG | with_reducible apply Jsb | with_reducible apply Jq9 | with_reducible apply Jrc | with_reducible apply JsF | with_reducible apply JsJ | with_reducible apply JsK | with_reducible apply Jsa | with_reducible apply Jsc | with_reducible apply Jlq | with_reducible apply Jr8 | with_reducible apply Jov | with_reducible apply Jqw | with_reducible apply Jsp | with_reducible apply JnV | with_reducible apply Jnp | with_reducible apply Jrb | with_reducible apply JrI | with_reducible apply Jsr | with_reducible apply JoO | with_reducible apply JlE | with_reducible apply JjT | with_reducible apply Jmm | with_reducible apply JsE | with_reducible apply JsG | with_reducible apply JmO | with_reducible apply JpH | with_reducible apply JrJ | with_reducible apply JpV | with_reducible apply JpW | with_reducible apply Jno | with_reducible apply JkK | with_reducible apply Jqv | with_reducible apply Jr9 | with_reducible apply JsS | with_reducible apply JsT | with_reducible apply Jsm | with_reducible apply Jsq | with_reducible apply JqT | with_reducible apply Jlp | with_reducible apply JnW | with_reducible apply Jq8 | with_reducible apply Jra | with_reducible apply Ji4 | with_reducible apply JhL | with_reducible apply JjU | with_reducible apply Jid | with_reducible apply JrE | with_reducible apply JpG | with_reducible apply JsI | with_reducible apply JrF | with_reducible apply Jnn | with_reducible apply JkJ | with_reducible apply JkL | with_reducible apply Jr6 | with_reducible apply Jr7 | with_reducible apply JkM | with_reducible apply Jnq | with_reducible apply JiD | with_reducible apply Jnt | with_reducible apply JqU | with_reducible apply Jst | with_reducible apply JqW)
noncomputable def top(i:Nat):Kt:=PySem.Challenge.pw_lumprow_k52_whole_early_lines.main.body.getD i (.Pass ⟨0,0,0,0⟩)
noncomputable abbrev Wc:Kt:=top 41
noncomputable abbrev UK:Kt:=top 43
noncomputable abbrev U8:Kt:=top 44
noncomputable abbrev YO:Kt:=top 9
noncomputable abbrev Wa:Kt:=Jmh (top 8) 0
noncomputable abbrev Vu:Kt:=top 15
noncomputable abbrev Vz:Kt:=top 18
noncomputable abbrev UG:Kt:=top 11
noncomputable abbrev Wb:Kt:=top 22
noncomputable abbrev JaE:Kt:=top 21
noncomputable abbrev UI:Kt:=top 26
noncomputable abbrev JaF:Kt:=top 27
noncomputable abbrev We:Kt:=top 36
noncomputable abbrev UH:Kt:=top 35
noncomputable abbrev Zd:Kt:=top 38
noncomputable abbrev Vv:Kt:=top 16
noncomputable abbrev Zb:Kt:=top 12
noncomputable abbrev Vw:Kt:=top 14
noncomputable abbrev Ze:Kt:=top 17
noncomputable abbrev W9:Kt:=top 10
noncomputable abbrev Zc:Kt:=top 20
noncomputable abbrev JaG:Kt:=top 19
noncomputable abbrev Wf:Kt:=top 25
noncomputable abbrev JcT:Kt:=top 39
noncomputable abbrev U7:Kt:=top 46
noncomputable abbrev U9:Kt:=top 32
noncomputable abbrev UL:Kt:=top 29
noncomputable abbrev UJ:Kt:=top 31
noncomputable abbrev Za:Kt:=top 33
noncomputable abbrev Wd:Kt:=top 28
noncomputable abbrev Vy:Kt:=top 45
noncomputable abbrev Vx:Kt:=top 42
noncomputable abbrev WE:Kt:=top 47
local macro_rules | `(tactic| walk_at "c")=>`(tactic| exact⟨rfl,rfl,rfl,by decide +kernel,rfl,by decide +kernel,by decide +kernel⟩)
def Jea:(["begin","length"]:List Str).Nodup:=by decide +kernel
def JrB:(["ahead","stretch","layers"]:List Str).Nodup:=by decide +kernel
def JmL:(["begin","length","place"]:List Str).Nodup:=by decide +kernel
def JrC:(["spot","number"]:List Str).Nodup:=by decide +kernel
def JpC:(["size","spot","number"]:List Str).Nodup:=by decide +kernel
def JpD:(["size","spot","number","times","seats"]:List Str).Nodup:=by decide +kernel
def Jip:(["left","right"]:List Str).Nodup:=by decide +kernel
def JrD:(["spot","number","left"]:List Str).Nodup:=by decide +kernel
def JpE:(["spot","pairs","owed","size"]:List Str).Nodup:=by decide +kernel
def Jok:(["size","begin","times"]:List Str).Nodup:=by decide +kernel
def Jol:(["left","lump"]:List Str).Nodup:=by decide +kernel
def Jom:(["size","begin"]:List Str).Nodup:=by decide +kernel
def JrA:(["size","sizes"]:List Str).Nodup:=by decide +kernel
def Jew:FnScope ["script","k"] ["script","k"] (Ji Wc):=by walk_at "c"
def Jeg{f:Qh}{fd:QW}(F:Fun K "_law_cell" "_law_cell" Wc f fd)(qq:mg "len"=none):FnOk P w K mg base CX0 1 f fd ["script","k"] (spE K C 2 JD) :=
 okE F Jew rfl fun _ _ _ _ _ _ hr hu=>⟨_,(Jd (Yr (JA Jaw (pv 1) (Jr (YT (K:=K) rfl) rfl qq V2 (Ja (pv 0) Jc)) (JL _)) (Jf (Jp (pxK K (pv 0) (pv 1)))) JK)
  (Jf (Jp Jh))),by walk_at "s"⟩
def sc_law_settled:FnScope ["row","k","gap"] ["row"] (Ji UK):=by walk_at "c"
def Jat{f:Qh}{fd:QW}(F:Fun K "_law_settled" "_law_settled" UK f fd)(qJ:mg "range"=none)(qq:mg "len"=none):FnOk P w K mg base CX0 1 f fd ["row"] (spE K C 1 JQ) :=
 okE F sc_law_settled rfl fun _ _ _ _ _ _ hr hu=>⟨_,(Jd (YB Gv rfl (Jiw rfl qJ (Ja Jh (Ja (Jr (YT (K:=K) rfl) rfl qq V2 (Ja (pv 0) Jc)) Jc))) (Ju (i:=1) sc_law_settled.nd rfl (.inl rfl)) (Jd (psN 2 sc_law_settled.nd (Jm JS (Jm JS (pxK K (pxK K (pv 0) (pv 1)) Jh) (pxK K (pxK K (pv 0) (Jm JS (pv 1) Jh)) Jh)) (pxK K (pxK K (pv 0) (Jm JS (pv 1) Jh)) Jh)))
  (Jf (Yr (PW.pt (JbO (JA Jav (pxK K (pxK K (pv 0) (Jm JS (pv 1) Jh)) Jh) (pxK K (pxK K (pv 0) (pv 1)) Jh) (JL _)) (W8 (JA Jaw (pv 2) (pxK K (pxK K (pv 0) (Jm JS (pv 1) Jh)) Jh) (JL _))))) (Jf (Jp Y4)) JK))))
  (Jf (Jp Y4))),by walk_at "s"⟩
def Ja5:FnScope ["row"] ["row"] (Ji U8):=by walk_at "c"
def Ja3{f:Qh}{fd:QW}(F:Fun K "_law_turned" "_law_turned" U8 f fd)(qu:mg "reversed"=none):FnOk P w K mg base CX0 1 f fd ["row"] (spE K C 1 J0) :=
 okE F Ja5 rfl fun _ _ _ _ _ _ hr hu=>⟨_,(Jf (Jp (J5 (N':=["begin","length"]) (imp:=[none,none]) rfl (Jg7 (K:=K) rfl rfl qu (Ja (pv 0) Jc)) (ZT rfl rfl) (fun _ _ _ _=>(Jx (K:=K) (n:=2) rfl rfl (Jg (pgN 0 Jea) (Jg (pgN 1 Jea) Jy)) rfl rfl)) (fun _ _ _ _=>JT) (fun _ _ _ _=>(Yh (Ja (Jm JS (Jm JS Jh (pv 0)) (pv 1)) (Ja (pv 1) Jc))))))),by walk_at "s"⟩
def sc_check_stretches:FnScope ["stretches","behind","begin","length"] ["stretches"] (Ji YO):=by walk_at "c"
def V8(F:Fun K "check_stretches" "check_stretches" YO f fd):FnOk P w K mg base CX0 1 f fd ["stretches"] (Jc2 K):=by
 refine F.ok sc_check_stretches (fun vs H Q E h=>?_) (fun cdv A outer s H vs Q E hr h=>?_)
 ·obtain⟨v,ps,rfl,_⟩:=h;rfl
 ·obtain⟨v,ps,rfl,⟨a,vs,rfl,hq,hp⟩,g,q⟩:=h;have hu:=hr.units;refine⟨_,(Jd (psN 1 sc_check_stretches.nd Uo)
   (Jf (YB Gv rfl (piK K (pv 0)) (Jx (K:=K) (n:=2) rfl rfl (Jg (Ju (i:=2) sc_check_stretches.nd rfl (.inl rfl)) (Jg (Ju (i:=3) sc_check_stretches.nd rfl (.inl rfl)) Jy)) rfl rfl) (Jd (Yr (JA Jaw (pv 3) Jh (JL _)) (Jf Y1) JK)
   (Jd (Yr (PW.pt (W7 (JA Jax (pv 1) Uo (JL _)) (VN (JA Joo (pv 2) (pv 1) (JL _))))) (Jf Y1) JK)
   (Jf (psN 1 sc_check_stretches.nd (Jm (Jg3 (K:=K) rfl) (pv 2) (pv 3))))))))),?_⟩
  walk_at "rd";refine JiA (H1:=H) (a:=a) (xs:=vs) (fun R r=>⟨_,rfl,r⟩) hq
   (fun i σ' H'=>∃vb vl,σ'=[some (.ref a),some (Jgi ps i),vb,vl]/\H'=H) ⟨none,none,rfl,rfl⟩ (fun i σ' H' ⟨_,_,_,e⟩=>e▸Same.refl _) ?_ ?_
  ·rintro i x σ' H' hi ⟨vb,vl,rfl,rfl⟩;obtain⟨p,b,e1,rfl,sp⟩:=hp.at hi;refine Jhj sp rfl ?_;walk_at "rd";refine ifd (fun hlt=>absurd (g.one i p e1) (by omega)) (fun _=>?_);walk_at "rd"
   cases i with
   | zero=>refine ifF rfl ?_;refine ifF rfl ?_;walk_at "rd";exact⟨_,_,by rw[Vh e1];rfl,rfl⟩
   | succ j =>
    obtain⟨q1,e2⟩:∃q1,ps[j]?=some q1:=⟨ps[j]'(by have:=(Qo.mp e1).1;omega),by have:=(Qo.mp e1).1;simp[show j<ps.length by omega]⟩
    rw[Vh e2];refine ifT rfl ?_;walk_at "rd";refine ifd (fun hle=>absurd (g.gap j q1 p e2 e1) (by omega)) (fun _=>?_);walk_at "rd";exact⟨_,_,by rw[Vh e1];rfl,rfl⟩
  ·rintro σ' H' ⟨vb,vl,rfl,rfl⟩;exact q _ (Same.refl _)
def Jev:FnScope ["self","stretches"] ["self","stretches"] (Ji Wa):=by walk_at "c"
def Jee(F:Fun K "__init__" "Row.__init__" Wa f fd)(qm:mg "tuple"=none)(qq:mg "len"=none)(qe:GV mg "MOST_STRETCHES" (.int 30))(qr:Cal P w K mg base "check_stretches" 1 ["stretches"] (Jc2 K))(T:RowC K C):FnOk P w K mg base CX0 2 f fd ["self","stretches"] (Vb C K):=by
 refine F.ok Jev (fun vs H Q E h=>?_) (fun cdv A outer s H vs Q E hr h=>?_)
 ·obtain⟨x,dx,v,ps,rfl,_⟩:=h;rfl
 ·obtain⟨x,dx,v,ps,rfl,hx,⟨a,vs,rfl,hq,hp⟩,g,hl,q⟩:=h;have hu:=hr.units;refine⟨_,(Jd (Yr (JA Jav (Jr (YT (K:=K) rfl) rfl qq V2 (Ja (pv 1) Jc)) (Jaz rfl qe) (JL _)) (Jf Y1) JK)
   (Jd (Yq (Jj qr (hrM hr) rfl (Ja (pv 1) Jc)))
   (Jf (Jm5 (K:=K) rfl (pv 0) (Ue (Vj (K:=K) rfl) rfl qm Wn (Ja (J5 (N':=["begin","length"]) (imp:=[none,none]) rfl (piK K (pv 1)) (ZT rfl rfl) (fun _ _ _ _=>(Jx (K:=K) (n:=2) rfl rfl (Jg (pgN 0 Jea) (Jg (pgN 1 Jea) Jy)) rfl rfl)) (fun _ _ _ _=>JT) (fun _ _ _ _=>(Yh (Ja (pv 0) (Ja (pv 1) Jc))))) Jc)) rfl)))),?_⟩
  have hn:=hp.len;walk_at "rd";refine Jeu hq ?_;walk_at "rd";refine ifd (fun hgt=>absurd hl (by omega)) (fun _=>?_);walk_at "rd";refine Jja ⟨a,vs,rfl,hq,hp⟩ g fun H1 s1=>?_
  walk_at "rd";refine JfO (H1:=H1) (a:=a) (xs:=vs) (fun R r=>⟨_,rfl,r⟩) (hq.imp s1.seq s1.seqT) (GW (JiF (by omega)))
   (fun i ys σ' H'=>∃vb vl,σ'=[vb,vl]/\Same H1 H'/\Prs K H' ys (ps.take i)) ⟨none,none,rfl,Same.refl _,by rw[List.take_zero];exact RepL.nil⟩
   (fun i ys σ' H' ⟨_,_,_,_,r⟩=>by have:=r.len;rw[this,K1];omega) (fun i ys σ' H' ⟨_,_,_,s',_⟩=>s') ?_ ?_
  ·rintro i ys y σ' H' hi ⟨vb,vl,rfl,s',r⟩;obtain⟨p,b,e1,rfl,sp⟩:=Prs.at (K:=K) (ps:=ps) (RepL.mono (s1.trans s') hp) hi;refine Jhj sp rfl ?_;walk_at "rd";refine ifT rfl ?_;walk_at "rd";refine JoH sz2 fun t H2 nt s2 ht=>?_
   refine⟨_,_,rfl,s'.trans s2,?_⟩;rw[List.take_add_one,e1];exact Prs.snoc (RepL.mono s2 r) (Jm3 ht)
  ·rintro ys σ' H' ⟨vb,vl,rfl,s',r⟩ l H2 nl s2 hl2;walk_at "rd";refine JiB (.of hl2) fun t H3 nt s3 ht=>?_
   walk_at "rd";have sA:Same H H3:=((s1.trans s').trans s2).trans s3;refine⟨x,C,dx,[],rfl,sA _ _ hx,T.cl,T.ns,by decide,?_⟩;rw[hn,List.take_length] at r;have r3:Prs K H3 ys ps:=RepL.mono (s2.trans s3) r;have ntx:t≠x:=JbL ht (sA _ _ hx) (by intro z;cases z);refine q _ t ys (sA.ex_trans SameEx.upd) (by rw[Jkt];exact Jl) (by rw[Je ntx];exact ht) ?_;exact Prs.monoIns SameEx.upd (sA _ _ hx) r3
def JcV:FnScope ["row","layers"] ["row","layers"] (Ji Vu):=by walk_at "c"
def JcG{f:Qh}{fd:QW}(F:Fun K "by_layers" "by_layers" Vu f fd)(qa:mg "enumerate"=none)(T:RowC K C):FnOk P w K mg base CX0 1 f fd ["row","layers"] (spE K C 2 J6) :=
 okE F JcV rfl fun _ _ _ _ _ _ hr hu=>⟨_,(Jf (Jp (J5 (N':=["ahead","stretch","layers"]) (imp:=[none,none,some 1]) rfl (WC (K:=K) rfl rfl qa (Ja (Yg (K:=K) rfl (pv 0) rfl) Jc)) (Jdm (own:=["ahead","stretch"]) (fr:=[("layers",1)]) rfl rfl rfl ⟨rfl,trivial⟩ rfl ⟨⟨rfl,rfl,rfl⟩,trivial⟩) (fun _ _ _ _=>(Jx (K:=K) (n:=2) rfl rfl (Jg (pgN 0 JrB) (Jg (pgN 1 JrB) Jy)) rfl rfl)) (fun _ _ _ _=>JT) (fun _ _ _ _=>(Yh (Ja (Jm (JG (K:=K) rfl) (pxK K (pv 1) Jh) (Jm U6 (Jm U6 Jh (pv 2)) (pv 0))) (Ja (Jm (JG (K:=K) rfl) (pxK K (pv 1) Jh) (pv 2)) Jc))))))),by walk_at "s"⟩
def JcX:FnScope ["row","layers"] ["row","layers"] (Ji Vz):=by walk_at "c"
def JcL{f:Qh}{fd:QW}(F:Fun K "thickened" "thickened" Vz f fd)(qx:CalM P w K mg base "Row" C 2 ["self","stretches"] (Vb C K))(qo:Cal P w K mg base "by_layers" 1 ["row","layers"] (spE K C 2 J6)):FnOk P w K mg base CX0 4 f fd ["row","layers"] (spE K C 2 Yz) :=
 okE F JcX rfl fun _ _ _ _ _ _ hr hu=>⟨_,(Jf (Jp (UT qx (hrM hr) rfl (Ja (Jj qo (hrM hr) rfl (Ja (pv 0) (Ja (pv 1) Jc))) Jc)))),by walk_at "s"⟩
def JaH:FnScope ["row","place"] ["row","place"] (Ji UG):=by walk_at "c"
def Jap{f:Qh}{fd:QW}(F:Fun K "balls_below" "balls_below" UG f fd)(qt:mg "sum"=none)(wf:mg "max"=none)(qy:mg "min"=none)(T:RowC K C):FnOk P w K mg base CX0 1 f fd ["row","place"] (spE K C 2 Yt) :=
 okE F JaH rfl fun _ _ _ _ _ _ hr hu=>⟨_,(Jf (Jp (Jr (Ua (K:=K) rfl rfl) rfl qt WP (Ja (J5 (N':=["begin","length","place"]) (imp:=[none,none,some 1]) rfl (piK K (Yg (K:=K) rfl (pv 0) rfl)) (Jdm (own:=["begin","length"]) (fr:=[("place",1)]) rfl rfl rfl ⟨rfl,trivial⟩ rfl ⟨⟨rfl,rfl,rfl⟩,trivial⟩) (fun _ _ _ _=>(Jx (K:=K) (n:=2) rfl rfl (Jg (pgN 0 JmL) (Jg (pgN 1 JmL) Jy)) rfl rfl)) (fun _ _ _ _=>JT) (fun _ _ _ _=>(Jr (JhQ rfl) rfl wf JoM (Ja Jh (Ja (Jr (WQ rfl) rfl qy ZU (Ja (pv 1) (Ja (Jm JS (pv 2) (pv 0)) Jc))) Jc))))) Jc)))),by walk_at "s"⟩
def sc_ended_at:FnScope ["row","spots","stretches","counted","ahead","spot","below","balls"] ["row","spots"] (Ji Wb):=by walk_at "c"
def Jef{f:Qh}{fd:QW}(F:Fun K "ended_at" "ended_at" Wb f fd)(qa:mg "enumerate"=none)(qz:Cal P w K mg base "balls_below" 1 ["row","place"] (spE K C 2 Yt)):FnOk P w K mg base CX0 2 f fd ["row","spots"] (spE K C 2 YZ) :=
 okE F sc_ended_at rfl fun _ _ _ _ _ _ hr hu=>⟨_,(Jd (psN 2 sc_ended_at.nd (YW Jc))
  (Jd (psN 3 sc_ended_at.nd Jh)
  (Jd (YB Gv rfl (WC (K:=K) rfl rfl qa (Ja (pv 1) Jc)) (Jx (K:=K) (n:=2) rfl rfl (Jg (Ju (i:=4) sc_ended_at.nd rfl (.inl rfl)) (Jg (Ju (i:=5) sc_ended_at.nd rfl (.inl rfl)) Jy)) rfl rfl) (Jd (psN 6 sc_ended_at.nd (Jj qz (hrM hr) rfl (Ja (pv 0) (Ja (pv 5) Jc))))
  (Jd (psN 7 sc_ended_at.nd (Jm JS (pv 6) (pv 3)))
  (Jd (Yq (UF (K:=K) rfl Gk Kr Ks Ud (pv 2) (Ja (Yh (Ja (Jm JS (Jm (JG (K:=K) rfl) (pv 5) (Jm U6 Jh (pv 4))) (pv 7)) (Ja (Jm (JG (K:=K) rfl) (pv 7) Jh) Jc))) Jc)))
  (Jf (psN 3 sc_ended_at.nd (pv 6)))))))
  (Jf (Jp (pv 2)))))),by walk_at "s"⟩
def sc_put_in:FnScope ["row","pairs","spots","spot","number"] ["row","pairs"] (Ji JaE):=by walk_at "c"
def Jis{f:Qh}{fd:QW}(F:Fun K "put_in" "put_in" JaE f fd)(qk:mg "sorted"=none)(qq:mg "len"=none)(qt:mg "sum"=none)(qe:GV mg "MOST_STRETCHES" (.int 30))(qx:CalM P w K mg base "Row" C 2 ["self","stretches"] (Vb C K))(qM:Cal P w K mg base "ended_at" 2 ["row","spots"] (spE K C 2 YZ))(T:RowC K C):FnOk P w K mg base CX0 4 f fd ["row","pairs"] (spE K C 2 Ub) :=
 okE F sc_put_in rfl fun _ _ _ _ _ _ hr hu=>⟨_,(Jd (Yr (JA Jav (Jm (JG (K:=K) rfl) (Jr (YT (K:=K) rfl) rfl qq V2 (Ja (Yg (K:=K) rfl (pv 0) rfl) Jc)) (Jr (Ua (K:=K) rfl rfl) rfl qt WP (Ja (J5 (N':=["spot","number"]) (imp:=[none,none]) rfl (piK K (pv 1)) (ZT rfl rfl) (fun _ _ _ _=>(Jx (K:=K) (n:=2) rfl rfl (Jg (pgN 0 JrC) (Jg (pgN 1 JrC) Jy)) rfl rfl)) (fun _ _ _ _=>JT) (fun _ _ _ _=>(pv 1))) Jc))) (Jaz rfl qe) (JL _)) (Jf Y1) JK)
  (Jd (JfM (i:=2) (N':=["begin","length"]) (imp:=[none,none]) sc_put_in.nd rfl (.inl rfl) rfl (piK K (Yg (K:=K) rfl (pv 0) rfl)) (ZT rfl rfl) (fun _ _ _ _=>(Jx (K:=K) (n:=2) rfl rfl (Jg (pgN 0 Jea) (Jg (pgN 1 Jea) Jy)) rfl rfl)) (fun _ _ _ _=>JT) (fun _ _ _ _=>(Jm (JG (K:=K) rfl) (pv 0) (pv 1))) rfl (.inl rfl))
  (Jd (YB Gv rfl (piK K (pv 1)) (Jx (K:=K) (n:=2) rfl rfl (Jg (Ju (i:=3) sc_put_in.nd rfl (.inl rfl)) (Jg (Ju (i:=4) sc_put_in.nd rfl (.inl rfl)) Jy)) rfl rfl) (Jf (Yq (UF (K:=K) rfl Gk L8 L9 W3 (pv 2) (Ja (Jm Jke (YW (Ja (pv 3) Jc)) (pv 4)) Jc)))))
  (Jf (Jp (UT qx (hrM hr) rfl (Ja (Jj qM (hrM hr) rfl (Ja (pv 0) (Ja (Jr (Jb2 (K:=K) rfl rfl) rfl qk WO (Ja (pv 2) Jc)) Jc))) Jc))))))),by walk_at "s"⟩
def sc_check_table:FnScope ["table","ahead","size","spot","number"] ["table"] (Ji UI):=by walk_at "c"
def Jar{f:Qh}{fd:QW}(F:Fun K "check_table" "check_table" UI f fd)(qt:mg "sum"=none)(qD:GV mg "MOST_LUMPS" (.int 30)):FnOk P w K mg base CX0 1 f fd ["table"] (spE K C 1 J2) :=
 okE F sc_check_table rfl fun _ _ _ _ _ _ hr hu=>⟨_,(Jd (psN 1 sc_check_table.nd Uo)
  (Jd (YB Gv rfl (piK K (pv 0)) (Jx (K:=K) (n:=3) rfl rfl (Jg (Ju (i:=2) sc_check_table.nd rfl (.inl rfl)) (Jg (Ju (i:=3) sc_check_table.nd rfl (.inl rfl)) (Jg (Ju (i:=4) sc_check_table.nd rfl (.inl rfl)) Jy))) rfl rfl) (Jd (Yr (PW.pt (JbO (JA Jaw (pv 2) Jh (JL _)) (W8 (JA Jaw (pv 4) Jh (JL _))))) (Jf Y1) JK)
  (Jd (Yr (PW.pt (W7 (JA Jax (pv 1) Uo (JL _)) (VN (JA (JpR (K:=K) rfl (Kv (MA _ 64) hu)) (Yh (Ja (pv 2) (Ja (pv 3) Jc))) (pv 1) (JL _))))) (Jf Y1) JK)
  (Jf (psN 1 sc_check_table.nd (Yh (Ja (pv 2) (Ja (pv 3) Jc))))))))
  (Jf (Yr (JA Jav (Jr (Ua (K:=K) rfl rfl) rfl qt WP (Ja (J5 (N':=["size","spot","number"]) (imp:=[none,none,none]) rfl (piK K (pv 0)) (ZT rfl rfl) (fun _ _ _ _=>(Jx (K:=K) (n:=3) rfl rfl (Jg (pgN 0 JpC) (Jg (pgN 1 JpC) (Jg (pgN 2 JpC) Jy))) rfl rfl)) (fun _ _ _ _=>JT) (fun _ _ _ _=>(pv 2))) Jc)) (Jaz rfl qD) (JL _)) (Jf Y1) JK)))),by walk_at "s"⟩
def sc_row_of:FnScope ["table","lumps","size","spot","number","sizes","row","lesser"] ["table"] (Ji JaF):=by walk_at "c"
def Jit{f:Qh}{fd:QW}(F:Fun K "row_of" "row_of" JaF f fd)(qu:mg "reversed"=none)(qA:mg "list"=none)(qP:mg "zip"=none)(qH:Cal P w K mg base "thickened" 4 ["row","layers"] (spE K C 2 Yz))(qX:Cal P w K mg base "put_in" 4 ["row","pairs"] (spE K C 2 Ub))(qx:CalM P w K mg base "Row" C 2 ["self","stretches"] (Vb C K))(qi:Cal P w K mg base "check_table" 1 ["table"] (spE K C 1 J2)):FnOk P w K mg base CX0 5 f fd ["table"] (spE K C 1 UN) :=
 okE F sc_row_of rfl fun _ _ _ _ _ _ hr hu=>⟨_,(Jd (Yq (Jj qi (hrM hr) rfl (Ja (pv 0) Jc)))
  (Jd (psN 1 sc_row_of.nd Jay)
  (Jd (YB Gv rfl (piK K (pv 0)) (Jx (K:=K) (n:=3) rfl rfl (Jg (Ju (i:=2) sc_row_of.nd rfl (.inl rfl)) (Jg (Ju (i:=3) sc_row_of.nd rfl (.inl rfl)) (Jg (Ju (i:=4) sc_row_of.nd rfl (.inl rfl)) Jy))) rfl rfl) (Jf (Yq (UF (K:=K) rfl Gk Kr Ks Ud (Jkg (pv 1) (pv 2) (YW Jc) ⟨rfl,rfl,rfl,rfl⟩) (Ja (Yh (Ja (pv 3) (Ja (pv 4) Jc))) Jc)))))
  (Jd (psN 5 sc_row_of.nd (Ue (Je8 rfl) rfl qA Zu (Ja (pv 1) Jc)))
  (Jd (psN 6 sc_row_of.nd (UT qx (hrM hr) rfl (Ja (YW Jc) Jc)))
  (Jd (YB Gv rfl (Jg7 (K:=K) rfl rfl qu (Ja (Jem (K:=K) rfl rfl rfl qA rfl qP (Ja (Jm (JG (K:=K) rfl) (YW (Ja Jh Jc)) (pv 5)) (Ja (pv 5) Jc))) Jc)) (Jx (K:=K) (n:=2) rfl rfl (Jg (Ju (i:=7) sc_row_of.nd rfl (.inl rfl)) (Jg (Ju (i:=2) sc_row_of.nd rfl (.inl rfl)) Jy)) rfl rfl) (Jf (psN 6 sc_row_of.nd (Jj qH (hrM hr) rfl (Ja (Jj qX (hrM hr) rfl (Ja (pv 6) (Ja (JmW (JdL hr) (pv 1) (pv 2) (fun _ _=>rfl)) Jc))) (Ja (Jm JS (Jm JS (pv 2) (pv 7)) Jh) Jc))))))
  (Jf (Jp (pv 6))))))))),(JaT (Jlp (JcU (YX (UB 0) VX)))
  (JaT (JoE JkK)
  (JaT (Jss (Jr8 0) (Jo6 (Jcq (JjF (by decide)) (Jcq (JjF (by decide)) (Jcq (JjF (by decide)) Jo5))) rfl) (UB 2) (Jow (YX (UB 3) (YX (UB 4) VX))))
  (JaT (Jc9 (Jnr (UB 1)))
  (JaT (Jc9 (Jov (YX (JkO VX) VX)))
  (JaT (JoD (JkM (YX (Jqz (YX (Jns Jon (JkO (YX JkN VX)) (UB 5)) (YX (UB 5) VX))) VX)) (Joa (Jfk (Jo4 7) (Jfk (Jo4 2) Jn9)) rfl) (Jc9 (JcU (YX (JcU (YX (UB 6) (YX (Jr3 (UB 1) (UB 2)) VX))) (YX (Jns Jka (Jns Jka (UB 2) (UB 7)) JkN) VX)))))
  Jlq))))))⟩
def Jex:FnScope ["size","seats"] ["size","seats"] (Ji We):=by walk_at "c"
def Jei{f:Qh}{fd:QW}(F:Fun K "share_of" "share_of" We f fd)(qy:mg "min"=none):FnOk P w K mg base CX0 1 f fd ["size","seats"] (spE K C 2 Y0) :=
 okE F Jex rfl fun _ _ _ _ _ _ hr hu=>⟨_,(Jf (Jp (Jel (JA Jg4 (pv 1) Uo (JL _)) (pv 0) (Jr (WQ rfl) rfl qy ZU (Ja (pv 0) (Ja (pv 1) Jc)))))),by walk_at "s"⟩
def JaI:FnScope ["seats"] ["seats"] (Ji UH):=by walk_at "c"
def Jaq{f:Qh}{fd:QW}(F:Fun K "check_seats" "check_seats" UH f fd) :FnOk P w K mg base CX0 1 f fd ["seats"] (spE K C 1 Yu) :=
 okE F JaI rfl fun _ _ _ _ _ _ hr hu=>⟨_,(Jf (Yr (PW.pt (W7 (JA Jax (pv 0) Uo (JL _)) (VN (JA Jaw (pv 0) Jh (JL _))))) (Jf Y1) JK)),by walk_at "s"⟩
def JfU:FnScope ["table","seats","times"] ["table","seats","times"] (Ji Zd):=by walk_at "c"
def JfG{f:Qh}{fd:QW}(F:Fun K "shifted" "shifted" Zd f fd)(qN:Cal P w K mg base "share_of" 1 ["size","seats"] (spE K C 2 Y0))(qi:Cal P w K mg base "check_table" 1 ["table"] (spE K C 1 J2))(qB:Cal P w K mg base "check_seats" 1 ["seats"] (spE K C 1 Yu)):FnOk P w K mg base CX0 2 f fd ["table","seats","times"] (spE K C 3 Uj) :=
 okE F JfU rfl fun _ _ _ _ _ _ hr hu=>⟨_,(Jd (Yq (Jj qB (hrM hr) rfl (Ja (pv 1) Jc)))
  (Jd (Yq (Jj qi (hrM hr) rfl (Ja (pv 0) Jc)))
  (Jf (Jp (J5 (N':=["size","spot","number","times","seats"]) (imp:=[none,none,none,some 2,some 1]) rfl (piK K (pv 0)) (Jdm (own:=["size","spot","number"]) (fr:=[("times",2),("seats",1)]) rfl rfl rfl ⟨rfl,rfl,trivial⟩ rfl ⟨⟨rfl,rfl,rfl⟩,⟨rfl,rfl,rfl⟩,trivial⟩) (fun _ _ _ _=>(Jx (K:=K) (n:=3) rfl rfl (Jg (pgN 0 JpD) (Jg (pgN 1 JpD) (Jg (pgN 2 JpD) Jy))) rfl rfl)) (fun _ _ _ _=>JT) (fun _ _ _ _=>(Yh (Ja (pv 0) (Ja (Jm (JG (K:=K) rfl) (pv 1) (Jm Jg5 (pv 3) (Jj qN (hrM hr) rfl (Ja (pv 0) (Ja (pv 4) Jc))))) (Ja (pv 2) Jc)))))))))),by walk_at "s"⟩
def sc_closed_up:FnScope ["pairs","stretches","begin","length","ahead"] ["pairs"] (Ji Vv):=by walk_at "c"
def JcH{f:Qh}{fd:QW}(F:Fun K "closed_up" "closed_up" Vv f fd)(qt:mg "sum"=none):FnOk P w K mg base CX0 1 f fd ["pairs"] (spE K C 1 Yx) :=
 okE F sc_closed_up rfl fun _ _ _ _ _ _ hr hu=>⟨_,(Jd (psN 1 sc_closed_up.nd (YW Jc))
  (Jd (YB Gv rfl (piK K (pv 0)) (Jx (K:=K) (n:=2) rfl rfl (Jg (Ju (i:=2) sc_closed_up.nd rfl (.inl rfl)) (Jg (Ju (i:=3) sc_closed_up.nd rfl (.inl rfl)) Jy)) rfl rfl) (Jf (Yr (PW.pt (W7 (Yi (K:=K) rfl (pv 1) (fun _=>rfl)) (VN (JA (Jkc (K:=K) rfl hu) (Jr (Ua (K:=K) rfl rfl) rfl qt WP (Ja (pxK K (pv 1) (Jkk Jf8 Jh)) Jc)) (pv 2) (JL _))))) (Jd (psN 4 sc_closed_up.nd (Jg6 (K:=K) rfl Gk PySem.F.slot_list_pop PySem.F.type_list_pop Jpz (pv 1)))
  (Jf (Yq (UF (K:=K) rfl Gk Kr Ks Ud (pv 1) (Ja (Yh (Ja (pxK K (pv 4) Jh) (Ja (Jm (JG (K:=K) rfl) (pxK K (pv 4) Jh) (pv 3)) Jc))) Jc))))) (Jf (Yr (JA Jav (pv 3) Jh (JL _)) (Jf (Yq (UF (K:=K) rfl Gk Kr Ks Ud (pv 1) (Ja (Yh (Ja (pv 2) (Ja (pv 3) Jc))) Jc)))) JK)))))
  (Jf (Jp (pv 1))))),by walk_at "s"⟩
def JfS:FnScope ["row"] ["row"] (Ji Zb):=by walk_at "c"
def JfE{f:Qh}{fd:QW}(F:Fun K "gaps_of" "gaps_of" Zb f fd)(qt:mg "sum"=none)(qP:mg "zip"=none)(T:RowC K C):FnOk P w K mg base CX0 1 f fd ["row"] (spE K C 1 Uh) :=
 okE F JfS rfl fun _ _ _ _ _ _ hr hu=>⟨_,(Jf (Jp (J5 (N':=["left","right"]) (imp:=[none,none]) rfl (Jg8 (K:=K) rfl rfl qP (Ja (Yg (K:=K) rfl (pv 0) rfl) (Ja (Jen (Jhr (K:=K) rfl) (Yg (K:=K) rfl (pv 0) rfl) (Jhb Jh) Jha) Jc))) (ZT rfl rfl) (fun _ _ _ _=>(Jx (K:=K) (n:=2) rfl rfl (Jg (pgN 0 Jip) (Jg (pgN 1 Jip) Jy)) rfl rfl)) (fun _ _ _ _=>JT) (fun _ _ _ _=>(Jm JS (pxK K (pv 1) Jh) (Jr (Ua (K:=K) rfl rfl) rfl qt WP (Ja (pv 0) Jc))))))),by walk_at "s"⟩
def JcW:FnScope ["row"] ["row"] (Ji Vw):=by walk_at "c"
def JcI{f:Qh}{fd:QW}(F:Fun K "closes_at" "closes_at" Vw f fd)(qy:mg "min"=none)(qQ:Cal P w K mg base "gaps_of" 1 ["row"] (spE K C 1 Uh))(T:RowC K C):FnOk P w K mg base CX0 2 f fd ["row"] (spE K C 1 JX) :=
 okE F JcW rfl fun _ _ _ _ _ _ hr hu=>⟨_,(Jf (Jp (W5 (ZV (K:=K) rfl rfl) rfl qy ZU (Ja (Jm (JG (K:=K) rfl) (J5 (N':=["begin","length"]) (imp:=[none,none]) rfl (piK K (Yg (K:=K) rfl (pv 0) rfl)) (ZT rfl rfl) (fun _ _ _ _=>(Jx (K:=K) (n:=2) rfl rfl (Jg (pgN 0 Jea) (Jg (pgN 1 Jea) Jy)) rfl rfl)) (fun _ _ _ _=>JT) (fun _ _ _ _=>(pv 1))) (Jj qQ (hrM hr) rfl (Ja (pv 0) Jc))) Jc) Uo))),by walk_at "s"⟩
def sc_thinned:FnScope ["row","layers","left","still","at_once"] ["row","layers"] (Ji Ze):=by walk_at "c"
def JfH{f:Qh}{fd:QW}(F:Fun K "thinned" "thinned" Ze f fd)(qy:mg "min"=none)(qx:CalM P w K mg base "Row" C 2 ["self","stretches"] (Vb C K))(qI:Cal P w K mg base "closed_up" 1 ["pairs"] (spE K C 1 Yx))(qo:Cal P w K mg base "by_layers" 1 ["row","layers"] (spE K C 2 J6))(qp:Cal P w K mg base "closes_at" 2 ["row"] (spE K C 1 JX))(T:RowC K C):FnOk P w K mg base CX0 4 f fd ["row","layers"] (spE K C 2 J9) :=
 okE F sc_thinned rfl fun _ _ _ _ _ _ hr hu=>⟨_,(Jd (psN 2 sc_thinned.nd (UT qx (hrM hr) rfl (Ja (Yg (K:=K) rfl (pv 0) rfl) Jc)))
  (Jd (psN 3 sc_thinned.nd (pv 1))
  (Jd (Jer Gv (PW.pt (W7 (JA Jav (pv 3) Jh (JL _)) (VN (Yi (K:=K) rfl (Yg (K:=K) rfl (pv 2) rfl) (fun _=>rfl))))) (Jd (psN 4 sc_thinned.nd (Jr (WQ rfl) rfl qy ZU (Ja (pv 3) (Ja (Jj qp (hrM hr) rfl (Ja (pv 2) Jc)) Jc))))
  (Jd (psN 2 sc_thinned.nd (UT qx (hrM hr) rfl (Ja (Jj qI (hrM hr) rfl (Ja (Jj qo (hrM hr) rfl (Ja (pv 2) (Ja (Jkk Jf8 (pv 4)) Jc))) Jc)) Jc)))
  (Jf (Jkr (i:=3) sc_thinned.nd rfl (.inl rfl) (pv 4) Jo9)))))
  (Jf (Jp (pv 2)))))),by walk_at "s"⟩
def JfR:FnScope ["row","place"] ["row","place"] (Ji W9):=by walk_at "c"
def JfC{f:Qh}{fd:QW}(F:Fun K "ball_at" "ball_at" W9 f fd)(wg:mg "any"=none)(T:RowC K C):FnOk P w K mg base CX0 1 f fd ["row","place"] (spE K C 2 YU) :=
 okE F JfR rfl fun _ _ _ _ _ _ hr hu=>⟨_,(Jf (Jp (Jr (JhM (K:=K) rfl rfl) rfl wg JoL (Ja (J5 (N':=["begin","length","place"]) (imp:=[none,none,some 1]) rfl (piK K (Yg (K:=K) rfl (pv 0) rfl)) (Jdm (own:=["begin","length"]) (fr:=[("place",1)]) rfl rfl rfl ⟨rfl,trivial⟩ rfl ⟨⟨rfl,rfl,rfl⟩,trivial⟩) (fun _ _ _ _=>(Jx (K:=K) (n:=2) rfl rfl (Jg (pgN 0 JmL) (Jg (pgN 1 JmL) Jy)) rfl rfl)) (fun _ _ _ _=>JT) (fun _ _ _ _=>(Jkf Joo Jaw (pv 0) (pv 2) (Jm (JG (K:=K) rfl) (pv 0) (pv 1))))) Jc)))),by walk_at "s"⟩
def JfT:FnScope ["left","spot"] ["left","spot"] (Ji Zc):=by walk_at "c"
def JfF{f:Qh}{fd:QW}(F:Fun K "owed_at" "owed_at" Zc f fd)(qK:Cal P w K mg base "ball_at" 1 ["row","place"] (spE K C 2 YU)):FnOk P w K mg base CX0 2 f fd ["left","spot"] (spE K C 2 Ui) :=
 okE F JfT rfl fun _ _ _ _ _ _ hr hu=>⟨_,(Jf (Jp (Jel (PW.pt (W7 (Yi (K:=K) rfl (Jj qK (hrM hr) rfl (Ja (pv 0) (Ja (Jm JS (pv 1) Jh) Jc))) (fun _=>rfl)) (VN (Vp (Yi (K:=K) rfl (Jj qK (hrM hr) rfl (Ja (pv 0) (Ja (pv 1) Jc))) (fun _=>rfl)))))) Jh Jh))),by walk_at "s"⟩
def sc_struck:FnScope ["row","left","pairs","ahead","stretch","spot"] ["row"] (Ji JaG):=by walk_at "c"
def Jiu{f:Qh}{fd:QW}(F:Fun K "struck" "struck" JaG f fd)(qa:mg "enumerate"=none)(qt:mg "sum"=none)(qR:Cal P w K mg base "owed_at" 2 ["left","spot"] (spE K C 2 Ui))(qv:Cal P w K mg base "thinned" 4 ["row","layers"] (spE K C 2 J9))(T:RowC K C):FnOk P w K mg base CX0 5 f fd ["row"] (spE K C 1 Uc) :=
 okE F sc_struck rfl fun _ _ _ _ _ _ hr hu=>⟨_,(Jd (JcP (i:=1) sc_struck.nd rfl (.inr rfl) (Jj qv (hrM hr) rfl (Ja (pv 0) (Ja Jh Jc))))
  (Jd (psN 2 sc_struck.nd Jay)
  (Jd (YB Gv rfl (WC (K:=K) rfl rfl qa (Ja (Yg (K:=K) rfl (pv 0) rfl) Jc)) (Jx (K:=K) (n:=2) rfl rfl (Jg (Ju (i:=3) sc_struck.nd rfl (.inl rfl)) (Jg (Ju (i:=4) sc_struck.nd rfl (.inl rfl)) Jy)) rfl rfl) (Jd (psN 5 sc_struck.nd (Jm JS (Jm JS (Jr (Ua (K:=K) rfl rfl) rfl qt WP (Ja (pv 4) Jc)) Jh) (Jm U6 Jh (pv 3))))
  (Jf (Jhd (JdL hr) (pv 2) (pv 5) (Jm (JG (K:=K) rfl) (Jek (JdL hr) (pv 2) (pv 5) Jh ⟨rfl,rfl,rfl,rfl⟩) Jh) rfl))))
  (Jf (Jm6 2 (Jp (J5 (N':=["spot","number","left"]) (imp:=[none,none,some 1]) rfl (Jkm (pv 2)) (Jdm (own:=["spot","number"]) (fr:=[("left",1)]) rfl rfl rfl ⟨rfl,trivial⟩ rfl ⟨⟨rfl,rfl,rfl⟩,trivial⟩) (fun _ _ _ _=>(Jx (K:=K) (n:=2) rfl rfl (Jg (pgN 0 JrD) (Jg (pgN 1 JrD) Jy)) rfl rfl)) (fun _ _ _ _=>JT) (fun _ _ _ _=>(Yh (Ja (pv 0) (Ja (pv 1) (Ja (Jj qR (hrM hr) rfl (Ja (pv 2) (Ja (pv 0) Jc))) Jc)))))))))))),by walk_at "s"⟩
def sc_table_of:FnScope ["row","table","left","size","layers"] ["row"] (Ji Wf):=by walk_at "c"
def Jej{f:Qh}{fd:QW}(F:Fun K "table_of" "table_of" Wf f fd)(qv:Cal P w K mg base "thinned" 4 ["row","layers"] (spE K C 2 J9))(qY:Cal P w K mg base "struck" 5 ["row"] (spE K C 1 Uc))(qp:Cal P w K mg base "closes_at" 2 ["row"] (spE K C 1 JX))(T:RowC K C):FnOk P w K mg base CX0 6 f fd ["row"] (spE K C 1 J8) :=
 okE F sc_table_of rfl fun _ _ _ _ _ _ hr hu=>⟨_,(Jd (psN 1 sc_table_of.nd (YW Jc))
  (Jd (psN 2 sc_table_of.nd (pv 0))
  (Jd (JcP (i:=3) sc_table_of.nd rfl (.inr rfl) Jh)
  (Jd (Jer Gv (Yi (K:=K) rfl (Yg (K:=K) rfl (pv 2) rfl) (fun _=>rfl)) (Jd (psN 4 sc_table_of.nd (Jj qp (hrM hr) rfl (Ja (pv 2) Jc)))
  (Jd (Jkr (i:=3) sc_table_of.nd rfl (.inr rfl) (pv 4) Jo8)
  (Jd (psN 2 sc_table_of.nd (Jj qv (hrM hr) rfl (Ja (pv 2) (Ja (Jm JS (pv 4) Jh) Jc))))
  (Jd (Yq (UF (K:=K) rfl Gk L8 L9 W3 (pv 1) (Ja (J5 (N':=["spot","pairs","owed","size"]) (imp:=[none,none,none,some 3]) rfl (piK K (Jj qY (hrM hr) rfl (Ja (pv 2) Jc))) (Jdm (own:=["spot","pairs","owed"]) (fr:=[("size",3)]) rfl rfl rfl ⟨rfl,trivial⟩ rfl ⟨⟨rfl,rfl,rfl⟩,trivial⟩) (fun _ _ _ _=>(Jx (K:=K) (n:=3) rfl rfl (Jg (pgN 0 JpE) (Jg (pgN 1 JpE) (Jg (pgN 2 JpE) Jy))) rfl rfl)) (fun _ _ _ _=>(Jep (JA Jav (pv 1) (pv 2) (JL _)))) (fun _ _ _ _=>(Yh (Ja (pv 3) (Ja (pv 0) (Ja (Jm JS (pv 1) (pv 2)) Jc)))))) Jc)))
  (Jf (psN 2 sc_table_of.nd (Jj qv (hrM hr) rfl (Ja (pv 2) (Ja Jh Jc))))))))))
  (Jf (Jp (pv 1))))))),by walk_at "s"⟩
def JkP:FnScope ["row","seats","times"] ["row","seats","times"] (Ji JcT):=by walk_at "c"
def Jkb{f:Qh}{fd:QW}(F:Fun K "after" "after" JcT f fd)(qZ:Cal P w K mg base "row_of" 5 ["table"] (spE K C 1 UN))(qS:Cal P w K mg base "shifted" 2 ["table","seats","times"] (spE K C 3 Uj))(qh:Cal P w K mg base "table_of" 6 ["row"] (spE K C 1 J8)):FnOk P w K mg base CX0 7 f fd ["row","seats","times"] (spE K C 3 YD) :=
 okE F JkP rfl fun _ _ _ _ _ _ hr hu=>⟨_,(Jf (Jp (Jj qZ (hrM hr) rfl (Ja (Jj qS (hrM hr) rfl (Ja (Jj qh (hrM hr) rfl (Ja (pv 0) Jc)) (Ja (pv 1) (Ja (pv 2) Jc)))) Jc)))),by walk_at "s"⟩
def sc_law_stands:FnScope ["row","lines","times","told"] ["row","lines","times"] (Ji U7):=by walk_at "c"
def Ja2{f:Qh}{fd:QW}(F:Fun K "_law_stands" "_law_stands" U7 f fd)(qm:mg "tuple"=none)(qg:Cal P w K mg base "_law_settled" 1 ["row"] (spE K C 1 JQ))(qj:Cal P w K mg base "_law_turned" 1 ["row"] (spE K C 1 J0))(qL:Cal P w K mg base "after" 7 ["row","seats","times"] (spE K C 3 YD))(T:RowC K C):FnOk P w K mg base CX0 8 f fd ["row","lines","times"] (spE K C 3 JO) :=
 okE F sc_law_stands rfl fun _ _ _ _ _ _ hr hu=>⟨_,(Jd (psN 3 sc_law_stands.nd (Yg (K:=K) rfl (Jj qL (hrM hr) rfl (Ja (pv 0) (Ja Uo (Ja (pv 2) Jc)))) rfl))
  (Jd (Yr (JA (W4 (K:=K) rfl hu) (pv 3) (Ue (Vj (K:=K) rfl) rfl qm Wn (Ja (J5 (N':=["size","begin","times"]) (imp:=[none,none,some 2]) rfl (piK K (pv 1)) (Jdm (own:=["size","begin"]) (fr:=[("times",2)]) rfl rfl rfl ⟨rfl,trivial⟩ rfl ⟨⟨rfl,rfl,rfl⟩,trivial⟩) (fun _ _ _ _=>(Jx (K:=K) (n:=2) rfl rfl (Jg (pgN 0 Jok) (Jg (pgN 1 Jok) Jy)) rfl rfl)) (fun _ _ _ _=>JT) (fun _ _ _ _=>(Yh (Ja (Jm (JG (K:=K) rfl) (pv 1) (Jm Jg5 (pv 0) (pv 2))) (Ja (pv 0) Jc))))) Jc)) (JL _)) (Jf (Jp Y4)) JK)
  (Jf (Jp (Jj qg (hrM hr) rfl (Ja (Jj qj (hrM hr) rfl (Ja (pv 3) Jc)) Jc)))))),by walk_at "s"⟩
def Ja6:FnScope ["lines"] ["lines"] (Ji U9):=by walk_at "c"
def Ja4{f:Qh}{fd:QW}(F:Fun K "neighbours" "neighbours" U9 f fd)(qP:mg "zip"=none):FnOk P w K mg base CX0 1 f fd ["lines"] (spE K C 1 YE) :=
 okE F Ja6 rfl fun _ _ _ _ _ _ hr hu=>⟨_,(Jf (Jp (J5 (N':=["left","right"]) (imp:=[none,none]) rfl (Jg8 (K:=K) rfl rfl qP (Ja (pv 0) (Ja (Jen (Jhr (K:=K) rfl) (pv 0) (Jhb Jh) Jha) Jc))) (ZT rfl rfl) (fun _ _ _ _=>(Jx (K:=K) (n:=2) rfl rfl (Jg (pgN 0 Jip) (Jg (pgN 1 Jip) Jy)) rfl rfl)) (fun _ _ _ _=>(Jep (JA (W4 (K:=K) rfl hu) (pxK K (pv 0) Jh) (pxK K (pv 1) Jh) (JL _)))) (fun _ _ _ _=>(Yh (Ja (pv 0) (Ja (pv 1) Jc))))))),by walk_at "s"⟩
def sc_lumps_apart:FnScope ["row","lumps","size","spot","number"] ["row"] (Ji UL):=by walk_at "c"
def Jau{f:Qh}{fd:QW}(F:Fun K "lumps_apart" "lumps_apart" UL f fd)(qh:Cal P w K mg base "table_of" 6 ["row"] (spE K C 1 J8)):FnOk P w K mg base CX0 7 f fd ["row"] (spE K C 1 Yv) :=
 okE F sc_lumps_apart rfl fun _ _ _ _ _ _ hr hu=>⟨_,(Jd (psN 1 sc_lumps_apart.nd (YW Jc))
  (Jd (YB Gv rfl (piK K (Jj qh (hrM hr) rfl (Ja (pv 0) Jc))) (Jx (K:=K) (n:=3) rfl rfl (Jg (Ju (i:=2) sc_lumps_apart.nd rfl (.inl rfl)) (Jg (Ju (i:=3) sc_lumps_apart.nd rfl (.inl rfl)) (Jg (Ju (i:=4) sc_lumps_apart.nd rfl (.inl rfl)) Jy))) rfl rfl) (Jf (Yq (UF (K:=K) rfl Gk L8 L9 W3 (pv 1) (Ja (Jm Jke (YW (Ja (Yh (Ja (pv 2) (Ja (pv 3) Jc))) Jc)) (pv 4)) Jc)))))
  (Jf (Jp (pv 1))))),by walk_at "s"⟩
def sc_early_lines:FnScope ["row","lumps"] ["row"] (Ji UJ):=by walk_at "c"
def Jas{f:Qh}{fd:QW}(F:Fun K "early_lines" "early_lines" UJ f fd)(qa:mg "enumerate"=none)(qk:mg "sorted"=none)(qC:Cal P w K mg base "lumps_apart" 7 ["row"] (spE K C 1 Yv))(aL:nsIn K mainGlobals "early_lines"=some (some (.ref f)))(hTs:(Us K).isSome=true)(hB:JbV mg base):FnOk P w K mg base CX0 8 f fd ["row"] (spE K C 1 Jz) :=
 JsM F sc_early_lines rfl aL hTs rfl fun _ _ _ _ _ _ L hr hu=>⟨_,(Jd (psN 1 sc_early_lines.nd (Jki L hB (hrM hr) rfl rfl rfl rfl rfl rfl qk (Ja (Jj qC (hrM hr) rfl (Ja (pv 0) Jc)) Jc) (fun _ _ _ _=>rfl) (by decide) (by decide) rfl))
  (Jf (Jp (J5 (N':=["left","lump"]) (imp:=[none,none]) rfl (WC (K:=K) rfl rfl qa (Ja (pv 1) Jc)) (ZT rfl rfl) (fun _ _ _ _=>(Jx (K:=K) (n:=2) rfl rfl (Jg (pgN 0 Jol) (Jg (pgN 1 Jol) Jy)) rfl rfl)) (fun _ _ _ _=>JT) (fun _ _ _ _=>(Yh (Ja (pxK K (pv 1) Jh) (Ja (Jm (JG (K:=K) rfl) (pxK K (pv 1) Jh) (Jm U6 (Jm U6 Jh (pxK K (pv 1) Jh)) (pv 0))) Jc)))))))),by walk_at "s"⟩
def sc_earlies:FnScope ["row","pairs"] ["row"] (Ji Za):=by walk_at "c"
def JfD{f:Qh}{fd:QW}(F:Fun K "earlies" "earlies" Za f fd)(qy:mg "min"=none)(qE:Cal P w K mg base "neighbours" 1 ["lines"] (spE K C 1 YE))(qf:Cal P w K mg base "early_lines" 8 ["row"] (spE K C 1 Jz)):FnOk P w K mg base CX0 9 f fd ["row"] (spE K C 1 YV) :=
 okE F sc_earlies rfl fun _ _ _ _ _ _ hr hu=>⟨_,(Jd (psN 1 sc_earlies.nd (Jj qE (hrM hr) rfl (Ja (Jj qf (hrM hr) rfl (Ja (pv 0) Jc)) Jc)))
  (Jf (Jp (W5 (ZV (K:=K) rfl rfl) rfl qy ZU (Ja (J5 (N':=["left","right"]) (imp:=[none,none]) rfl (piK K (pv 1)) (ZT rfl rfl) (fun _ _ _ _=>(Jx (K:=K) (n:=2) rfl rfl (Jg (pgN 0 Jip) (Jg (pgN 1 Jip) Jy)) rfl rfl)) (fun _ _ _ _=>JT) (fun _ _ _ _=>(Jm Jkd (Jm JS (Jm JS (Jm JS (pxK K (pv 1) Jh) (pxK K (pv 0) Jh)) (pxK K (pv 0) Jh)) (pxK K (pv 1) Jh)) (Jm JS (pxK K (pv 0) Jh) (pxK K (pv 1) Jh))))) Jc) Uo)))),by walk_at "s"⟩
def sc_lumps_of:FnScope ["row","numbers","size","spot","number"] ["row"] (Ji Wd):=by walk_at "c"
def Jeh{f:Qh}{fd:QW}(F:Fun K "lumps_of" "lumps_of" Wd f fd)(qA:mg "list"=none)(qh:Cal P w K mg base "table_of" 6 ["row"] (spE K C 1 J8)):FnOk P w K mg base CX0 7 f fd ["row"] (spE K C 1 YJ) :=
 okE F sc_lumps_of rfl fun _ _ _ _ _ _ hr hu=>⟨_,(Jd (psN 1 sc_lumps_of.nd Jay)
  (Jd (YB Gv rfl (piK K (Jj qh (hrM hr) rfl (Ja (pv 0) Jc))) (Jx (K:=K) (n:=3) rfl rfl (Jg (Ju (i:=2) sc_lumps_of.nd rfl (.inl rfl)) (Jg (Ju (i:=3) sc_lumps_of.nd rfl (.inl rfl)) (Jg (Ju (i:=4) sc_lumps_of.nd rfl (.inl rfl)) Jy))) rfl rfl) (Jf (Jhd (JdL hr) (pv 1) (pv 2) (Jm (JG (K:=K) rfl) (Jek (JdL hr) (pv 1) (pv 2) Jh ⟨rfl,rfl,rfl,rfl⟩) (pv 4)) rfl)))
  (Jf (Jp (Ue (Je7 rfl) rfl qA Zu (Ja (Jkh (pv 1)) Jc)))))),by walk_at "s"⟩
def sc_law_lines:FnScope ["found","many","pair","part"] ["found","many"] (Ji Vy):=by walk_at "c"
def JcK{f:Qh}{fd:QW}(F:Fun K "_law_lines" "_law_lines" Vy f fd)(qb:mg "isinstance"=none)(qT:mg "bool"=none)(q5:mg "int"=none)(qq:mg "len"=none)(qm:mg "tuple"=none)(qA:mg "list"=none):FnOk P w K mg base CX0 1 f fd ["found","many"] (spE K C 2 Yy) :=
 okE F sc_law_lines rfl fun _ _ _ _ _ _ hr hu=>⟨_,(Jd (Yr (PW.pt (JbO (Vp (Yi (K:=K) rfl (Jr (Y9 (K:=K) rfl) rfl qb Yk (Ja (pv 0) (Ja (VM (v:=V.ty "list") rfl qA Zu rfl) Jc))) (fun _=>rfl))) (W8 (JA (W4 (K:=K) rfl hu) (Jr (YT (K:=K) rfl) rfl qq V2 (Ja (pv 0) Jc)) (pv 1) (JL _))))) (Jf (Jp Y4)) JK)
  (Jd (YB Gv rfl (piK K (pv 0)) (Ju (i:=2) sc_law_lines.nd rfl (.inl rfl)) (Jd (Yr (PW.pt (JbO (Vp (Yi (K:=K) rfl (Jr (Y9 (K:=K) rfl) rfl qb Yk (Ja (pv 2) (Ja (VM (v:=V.ty "tuple") rfl qm Wn rfl) Jc))) (fun _=>rfl))) (W8 (JA (W4 (K:=K) rfl hu) (Jr (YT (K:=K) rfl) rfl qq V2 (Ja (pv 2) Jc)) Jh (JL _))))) (Jf (Jp Y4)) JK)
  (Jf (YB Gv rfl (piK K (pv 2)) (Ju (i:=3) sc_law_lines.nd rfl (.inl rfl)) (Jf (Yr (PW.pt (JbO (Vp (Yi (K:=K) rfl (Jr (Y9 (K:=K) rfl) rfl qb Yk (Ja (pv 3) (Ja (VM (v:=V.ty "int") rfl q5 Ji1 rfl) Jc))) (fun _=>rfl))) (W8 (Yi (K:=K) rfl (Jr (Y9 (K:=K) rfl) rfl qb Yk (Ja (pv 3) (Ja (VM (v:=V.ty "bool") rfl qT Jgm rfl) Jc))) (fun _=>rfl))))) (Jf (Jp Y4)) JK))))))
  (Jf (Jp Y4)))),by walk_at "s"⟩
def sc_law_drawn:FnScope ["script","first","many","span","at","row","k","length"] ["script","first","many","span"] (Ji Vx):=by walk_at "c"
def JcJ{f:Qh}{fd:QW}(F:Fun K "_law_drawn" "_law_drawn" Vx f fd)(qJ:mg "range"=none)(qd:Cal P w K mg base "_law_cell" 1 ["script","k"] (spE K C 2 JD)):FnOk P w K mg base CX0 2 f fd ["script","first","many","span"] (spE K C 4 J7) :=
 okE F sc_law_drawn rfl fun _ _ _ _ _ _ hr hu=>⟨_,(Jd (psN 4 sc_law_drawn.nd (Jm JS (Jm V9 (Jj qd (hrM hr) rfl (Ja (pv 0) (Ja (pv 1) Jc))) (Jm (JG (K:=K) rfl) (Jm U6 Jh (pv 3)) Jh)) (pv 3)))
  (Jd (psN 5 sc_law_drawn.nd (YW Jc))
  (Jd (YB Gv rfl (Jiv rfl qJ (Ja (pv 2) Jc)) (Ju (i:=6) sc_law_drawn.nd rfl (.inl rfl)) (Jd (psN 7 sc_law_drawn.nd (Jm (JG (K:=K) rfl) Jh (Jm V9 (Jj qd (hrM hr) rfl (Ja (pv 0) (Ja (Jm (JG (K:=K) rfl) (Jm (JG (K:=K) rfl) (pv 1) Jh) (Jm U6 Jh (pv 6))) Jc))) (pv 3))))
  (Jd (Yq (UF (K:=K) rfl Gk Kr Ks Ud (pv 5) (Ja (Yh (Ja (pv 4) (Ja (pv 7) Jc))) Jc)))
  (Jf (psN 4 sc_law_drawn.nd (Jm (JG (K:=K) rfl) (Jm (JG (K:=K) rfl) (Jm (JG (K:=K) rfl) (pv 4) (pv 7)) Jh) (Jm V9 (Jj qd (hrM hr) rfl (Ja (pv 0) (Ja (Jm (JG (K:=K) rfl) (Jm (JG (K:=K) rfl) (pv 1) Jh) (Jm U6 Jh (pv 6))) Jc))) (pv 3))))))))
  (Jf (Jp (pv 5)))))),by walk_at "s"⟩
def sc_law:FnScope ["script","lead","drawn","row","spent","lines","sizes","till","far","times","less"] ["script"] (Ji WE):=by walk_at "c"
def JpL{f:Qh}{fd:QW}(F:Fun K "law" "law" WE f fd)(qm:mg "tuple"=none)(qb:mg "isinstance"=none)(qT:mg "bool"=none)(q5:mg "int"=none)(qk:mg "sorted"=none)(wj:mg "set"=none)(qq:mg "len"=none)(qd:Cal P w K mg base "_law_cell" 1 ["script","k"] (spE K C 2 JD))(qw:Cal P w K mg base "_law_stands" 8 ["row","lines","times"] (spE K C 3 JO))(qg:Cal P w K mg base "_law_settled" 1 ["row"] (spE K C 1 JQ))(qj:Cal P w K mg base "_law_turned" 1 ["row"] (spE K C 1 J0))(qL:Cal P w K mg base "after" 7 ["row","seats","times"] (spE K C 3 YD))(qU:Cal P w K mg base "earlies" 9 ["row"] (spE K C 1 YV))(qO:Cal P w K mg base "lumps_of" 7 ["row"] (spE K C 1 YJ))(qF:Cal P w K mg base "_law_lines" 1 ["found","many"] (spE K C 2 Yy))(qf:Cal P w K mg base "early_lines" 8 ["row"] (spE K C 1 Jz))(qx:CalM P w K mg base "Row" C 2 ["self","stretches"] (Vb C K))(qG:Cal P w K mg base "_law_drawn" 2 ["script","first","many","span"] (spE K C 4 J7))(T:RowC K C):FnOk P w K mg base CX0 10 f fd ["script"] (spE K C 1 Jfg) :=
 okE F sc_law rfl fun _ _ _ _ _ _ hr hu=>⟨_,(Jd (psN 1 sc_law.nd (Jj qd (hrM hr) rfl (Ja (pv 0) (Ja Jh Jc))))
  (Jd (psN 2 sc_law.nd (Jj qG (hrM hr) rfl (Ja (pv 0) (Ja Jh (Ja (Jm V9 (pv 1) Jh) (Ja (pxK K (YW (Ja Jh (Ja Jh (Ja Jh (Ja (Jm JfI Jh Jh) Jc))))) (Jm V9 (Jm JmS (pv 1) Jh) Jh)) Jc))))))
  (Jd (psN 3 sc_law.nd (UT qx (hrM hr) rfl (Ja (pv 2) Jc)))
  (Jd (psN 4 sc_law.nd (Jj qf (hrM hr) rfl (Ja (pv 3) Jc)))
  (Jd (Yq (UF (K:=K) rfl Gk Kr Ks Ud (pv 4) (Ja (Yh (Ja Jh (Ja Jh Jc))) Jc)))
  (Jd (Yq (Jg6 (K:=K) rfl Gk PySem.F.slot_list_reverse PySem.F.type_list_reverse Jfz (pv 4)))
  (Jd (psN 5 sc_law.nd (Jj qf (hrM hr) rfl (Ja (pv 3) Jc)))
  (Jd (Yr (Vp (Yi (K:=K) rfl (Jj qF (hrM hr) rfl (Ja (pv 5) (Ja (Jr (YT (K:=K) rfl) rfl qq V2 (Ja (pv 2) Jc)) Jc))) (fun _=>rfl))) (Jf (Jp Y4)) JK)
  (Jd (JcP (i:=6) sc_law.nd rfl (.inr rfl) (J5 (N':=["size","begin"]) (imp:=[none,none]) rfl (piK K (pv 5)) (ZT rfl rfl) (fun _ _ _ _=>(Jx (K:=K) (n:=2) rfl rfl (Jg (pgN 0 Jom) (Jg (pgN 1 Jom) Jy)) rfl rfl)) (fun _ _ _ _=>JT) (fun _ _ _ _=>(pv 0))))
  (Jd (Yr (JA (W4 (K:=K) rfl hu) (pv 6) (W5 (JaX (K:=K) rfl) rfl qk WO (Ja (pv 6) Jc) Y4) (JL _)) (Jf (Jp Y4)) JK)
  (Jd (Yr (JA (W4 (K:=K) rfl hu) (Jj qO (hrM hr) rfl (Ja (pv 3) Jc)) (J5 (N':=["size","sizes"]) (imp:=[none,some 6]) rfl (piK K (Jkj (K:=K) rfl rfl rfl qk rfl wj (pv 6))) (Jdm (own:=["size"]) (fr:=[("sizes",6)]) rfl rfl rfl ⟨rfl,trivial⟩ rfl ⟨⟨rfl,rfl,rfl⟩,trivial⟩) (fun _ _ _ _=>(pgN 0 JrA)) (fun _ _ _ _=>JT) (fun _ _ _ _=>(Yh (Ja (pv 0) (Ja (UF (K:=K) rfl Gk PySem.F.slot_list_count PySem.F.type_list_count Jio (pv 1) (Ja (pv 0) Jc)) Jc))))) (JL _)) (Jf (Jp Y4)) JK)
  (Jd (psN 7 sc_law.nd (Jj qU (hrM hr) rfl (Ja (pv 3) Jc)))
  (Jd (Yr (JA Jg4 (pv 7) Uo (JL _)) (Jd (psN 8 sc_law.nd (Jm V9 (Jj qd (hrM hr) rfl (Ja (pv 0) (Ja Jh Jc))) (Jm JfI Jh Jh)))
  (Jd (YB Gv rfl (piK K (YW (Ja Jh (Ja (pv 8) (Ja (Jm JS Jh (pv 8)) Jc))))) (Ju (i:=9) sc_law.nd rfl (.inl rfl)) (Jf (Yr (Vp (Yi (K:=K) rfl (Jj qw (hrM hr) rfl (Ja (pv 3) (Ja (pv 5) (Ja (pv 9) Jc)))) (fun _=>rfl))) (Jf (Jp Y4)) JK)))
  (Jf (Jp Y4)))) JK)
  (Jd (Yr (PW.pt (JbO (Vp (Yi (K:=K) rfl (Jr (Y9 (K:=K) rfl) rfl qb Yk (Ja (pv 7) (Ja (VM (v:=V.ty "int") rfl q5 Ji1 rfl) Jc))) (fun _=>rfl))) (W8 (Yi (K:=K) rfl (Jr (Y9 (K:=K) rfl) rfl qb Yk (Ja (pv 7) (Ja (VM (v:=V.ty "bool") rfl qT Jgm rfl) Jc))) (fun _=>rfl))))) (Jf (Jp Y4)) JK)
  (Jd (Yr (Yi (K:=K) rfl (Jj qg (hrM hr) rfl (Ja (Jj qj (hrM hr) rfl (Ja (Yg (K:=K) rfl (Jj qL (hrM hr) rfl (Ja (pv 3) (Ja Uo (Ja (Jm (JG (K:=K) rfl) (pv 7) Jh) Jc)))) rfl) Jc)) Jc)) (fun _=>rfl)) (Jf (Jp Y4)) JK)
  (Jd (YB Gv rfl (piK K (YW (Ja Jh (Ja Jh (Ja (Jm V9 (Jj qd (hrM hr) rfl (Ja (pv 0) (Ja Jh Jc))) (Jm JfI Jh Jh)) Jc))))) (Ju (i:=10) sc_law.nd rfl (.inl rfl)) (Jf (Yr (Vp (Yi (K:=K) rfl (Jj qw (hrM hr) rfl (Ja (pv 3) (Ja (pv 5) (Ja (Jm JS (pv 7) (pv 10)) Jc)))) (fun _=>rfl))) (Jf (Jp Y4)) JK)))
  (Jf (Jp (JmV (Jkc (K:=K) rfl hu) (Yg (K:=K) rfl (pv 3) rfl) (Ue (Vj (K:=K) rfl) rfl qm Wn (Ja (pv 2) Jc)) (JL _)))))))))))))))))))),by walk_at "s"⟩
def vl1{α:Type}{us:List α}(h:us.length=1):∃a,us=[a]:=match us,h with|[a],_=>⟨a,rfl⟩
def vl2{α:Type}{us:List α}(h:us.length=2):∃a b,us=[a,b]:=match us,h with|[a,b],_=>⟨a,b,rfl⟩
def vl3{α:Type}{us:List α}(h:us.length=3):∃a b c,us=[a,b,c]:=match us,h with|[a,b,c],_=>⟨a,b,c,rfl⟩
def vl4{α:Type}{us:List α}(h:us.length=4):∃a b c d,us=[a,b,c,d]:=match us,h with|[a,b,c,d],_=>⟨a,b,c,d,rfl⟩
local macro_rules | `(tactic| walk_at "b")=>`(tactic| (intro _ _ _ _ _ _ us hl;first | (obtain⟨_,e⟩:=vl1 hl;subst e;rfl) | (obtain⟨_,_,e⟩:=vl2 hl;subst e;rfl) | (obtain⟨_,_,_,e⟩:=vl3 hl;subst e;rfl) | (obtain⟨_,_,_,_,e⟩:=vl4 hl;subst e;rfl)))
def all_mk{l:PySem.W.OpenLaw}{K:Qz}{h:Q2}{mg:Str->Option Qe}(X:K.In h)(G:h.Ns mainGlobals mg)(hfa:mg "law"=some (.ref fa))(aC:nsIn K mainGlobals "Row"=some (some (.ref C)))(a1:nsIn K mainGlobals "_law_cell"=some (some (.ref f1)))(F1:Fun K "_law_cell" "_law_cell" Wc f1 d1)(a2:nsIn K mainGlobals "_law_settled"=some (some (.ref f2)))(F2:Fun K "_law_settled" "_law_settled" UK f2 d2)(a3:nsIn K mainGlobals "_law_turned"=some (some (.ref f3)))(F3:Fun K "_law_turned" "_law_turned" U8 f3 d3)(a4:nsIn K mainGlobals "check_stretches"=some (some (.ref f4)))(F4:Fun K "check_stretches" "check_stretches" YO f4 d4)(a5:findIn K (.ref C) "__init__"=some (some (.ref f5)))(i5:PySem.W.isFn K (.ref f5)=true)(F5:Fun K "__init__" "Row.__init__" Wa f5 d5)(a6:nsIn K mainGlobals "by_layers"=some (some (.ref f6)))(F6:Fun K "by_layers" "by_layers" Vu f6 d6)(a7:nsIn K mainGlobals "thickened"=some (some (.ref f7)))(F7:Fun K "thickened" "thickened" Vz f7 d7)(a8:nsIn K mainGlobals "balls_below"=some (some (.ref f8)))(F8:Fun K "balls_below" "balls_below" UG f8 d8)(a9:nsIn K mainGlobals "ended_at"=some (some (.ref f9)))(F9:Fun K "ended_at" "ended_at" Wb f9 d9)(a10:nsIn K mainGlobals "put_in"=some (some (.ref f10)))(F10:Fun K "put_in" "put_in" JaE f10 d10)(a11:nsIn K mainGlobals "check_table"=some (some (.ref f11)))(F11:Fun K "check_table" "check_table" UI f11 d11)(a12:nsIn K mainGlobals "row_of"=some (some (.ref f12)))(F12:Fun K "row_of" "row_of" JaF f12 d12)(a13:nsIn K mainGlobals "share_of"=some (some (.ref f13)))(F13:Fun K "share_of" "share_of" We f13 d13)(a14:nsIn K mainGlobals "check_seats"=some (some (.ref f14)))(F14:Fun K "check_seats" "check_seats" UH f14 d14)(a15:nsIn K mainGlobals "shifted"=some (some (.ref f15)))(F15:Fun K "shifted" "shifted" Zd f15 d15)(a16:nsIn K mainGlobals "closed_up"=some (some (.ref f16)))(F16:Fun K "closed_up" "closed_up" Vv f16 d16)(a17:nsIn K mainGlobals "gaps_of"=some (some (.ref f17)))(F17:Fun K "gaps_of" "gaps_of" Zb f17 d17)(a18:nsIn K mainGlobals "closes_at"=some (some (.ref f18)))(F18:Fun K "closes_at" "closes_at" Vw f18 d18)(a19:nsIn K mainGlobals "thinned"=some (some (.ref f19)))(F19:Fun K "thinned" "thinned" Ze f19 d19)(a20:nsIn K mainGlobals "ball_at"=some (some (.ref f20)))(F20:Fun K "ball_at" "ball_at" W9 f20 d20)(a21:nsIn K mainGlobals "owed_at"=some (some (.ref f21)))(F21:Fun K "owed_at" "owed_at" Zc f21 d21)(a22:nsIn K mainGlobals "struck"=some (some (.ref f22)))(F22:Fun K "struck" "struck" JaG f22 d22)(a23:nsIn K mainGlobals "table_of"=some (some (.ref f23)))(F23:Fun K "table_of" "table_of" Wf f23 d23)(a24:nsIn K mainGlobals "after"=some (some (.ref f24)))(F24:Fun K "after" "after" JcT f24 d24)(a25:nsIn K mainGlobals "_law_stands"=some (some (.ref f25)))(F25:Fun K "_law_stands" "_law_stands" U7 f25 d25)(a26:nsIn K mainGlobals "neighbours"=some (some (.ref f26)))(F26:Fun K "neighbours" "neighbours" U9 f26 d26)(a27:nsIn K mainGlobals "lumps_apart"=some (some (.ref f27)))(F27:Fun K "lumps_apart" "lumps_apart" UL f27 d27)(a28:nsIn K mainGlobals "early_lines"=some (some (.ref f28)))(F28:Fun K "early_lines" "early_lines" UJ f28 d28)(a29:nsIn K mainGlobals "earlies"=some (some (.ref f29)))(F29:Fun K "earlies" "earlies" Za f29 d29)(a30:nsIn K mainGlobals "lumps_of"=some (some (.ref f30)))(F30:Fun K "lumps_of" "lumps_of" Wd f30 d30)(a31:nsIn K mainGlobals "_law_lines"=some (some (.ref f31)))(F31:Fun K "_law_lines" "_law_lines" Vy f31 d31)(a32:nsIn K mainGlobals "_law_drawn"=some (some (.ref f32)))(F32:Fun K "_law_drawn" "_law_drawn" Vx f32 d32)(a33:nsIn K mainGlobals "law"=some (some (.ref f33)))(l33:K.lookup f33=some ⟨oc33,od33,.func (fnOf "law" "law" (U2 WE) (YI WE) (Ji WE) .none kV33 dc33 pm33 an33 cd33 ct33),sl33⟩)(c33:codeIn K cd33 "law"=true)(k33:keepIn K (.ref f33)=true)(pg:plainGet K C Str.empty=true)(hd:hasDictIn K C=true)(po:plainOver K C=true)(sa:findIn K (.ref C) "__setattr__"=some (some (.builtin "object.__setattr__")))(mk:makesIn K C=true)(kc:keepIn K (.ref C)=true)(nS:findIn K (.ref C) "stretches"=some none)(wp:nsIn K mainGlobals "len"=some none)(wl:nsIn K mainGlobals "range"=some none)(we:nsIn K mainGlobals "reversed"=some none)(wm:nsIn K mainGlobals "tuple"=some none)(wc:nsIn K mainGlobals "enumerate"=some none)(wq:nsIn K mainGlobals "sum"=some none)(wu:nsIn K mainGlobals "max"=some none)(wv:nsIn K mainGlobals "min"=some none)(wk:nsIn K mainGlobals "sorted"=some none)(wn:nsIn K mainGlobals "list"=some none)(ww:nsIn K mainGlobals "zip"=some none)(wx:nsIn K mainGlobals "any"=some none)(wa:nsIn K mainGlobals "isinstance"=some none)(wo:nsIn K mainGlobals "bool"=some none)(wy:nsIn K mainGlobals "int"=some none)(wz:nsIn K mainGlobals "set"=some none)(qW:nsIn K mainGlobals "MOST_STRETCHES"=some (some (.int 30 qV)))(wb:nsIn K mainGlobals "MOST_LUMPS"=some (some (.int 30 q9)))(hTs:(Us K).isSome=true):∃fd:QW,(∀(s:Qg) (v:Qe),BindsTo s fd ⟨[v],[]⟩ [("script",v)])/\∀base:Q2,K.In base->base.Ns mainGlobals mg->JbV mg base->FnOk l.prog w K mg base CX0 10 fa fd ["script"] (Jc3 K):=by
 have e:=hfa.symm.trans (mg_of X G a33);cases e
 have T:RowC K C:=⟨⟨pg,hd,po,sa⟩,nS⟩
 have wA:=mg_of X G aC
 have qq:=mg_none_of X G wp
 have qJ:=mg_none_of X G wl
 have qu:=mg_none_of X G we
 have qm:=mg_none_of X G wm
 have qa:=mg_none_of X G wc
 have qt:=mg_none_of X G wq
 have wf:=mg_none_of X G wu
 have qy:=mg_none_of X G wv
 have qk:=mg_none_of X G wk
 have qA:=mg_none_of X G wn
 have qP:=mg_none_of X G ww
 have wg:=mg_none_of X G wx
 have qb:=mg_none_of X G wa
 have qT:=mg_none_of X G wo
 have q5:=mg_none_of X G wy
 have wj:=mg_none_of X G wz
 have qe:GV mg "MOST_STRETCHES" (.int 30):=⟨_,mg_of X G qW,⟨_,rfl⟩⟩
 have qD:GV mg "MOST_LUMPS" (.int 30):=⟨_,mg_of X G wb,⟨_,rfl⟩⟩
 have F33:=JjE (st:=WE) l33 c33 k33;refine⟨fnOf "law" "law" (U2 WE) (YI WE) (Ji WE) .none kV33 dc33 pm33 an33 cd33 ct33,fun s v=>.of_eq rfl,fun base _ _ hB=>?_⟩
 have aL:=a28
 have Z:PB l.prog w base:=⟨⟩
 have qd:=JH Z F1 (Jeg (C:=C) F1 qq) (mg_of X G a1) (by walk_at "b")
 have qg:=JH Z F2 (Jat (C:=C) F2 qJ qq) (mg_of X G a2) (by walk_at "b")
 have qj:=JH Z F3 (Ja3 (C:=C) F3 qu) (mg_of X G a3) (by walk_at "b")
 have qr:=JH Z F4 (V8 F4 ) (mg_of X G a4) (by walk_at "b")
 have qx:CalM l.prog w K mg base "Row" C 2 ["self","stretches"] (Vb C K):=⟨f5,_,⟨mk,a5,i5,kc⟩,Jee F5 qm qq qe qr T,wA,F5.binds (by walk_at "b")⟩
 have qo:=JH Z F6 (JcG (C:=C) F6 qa T) (mg_of X G a6) (by walk_at "b")
 have qH:=JH Z F7 (JcL (C:=C) F7 qx qo) (mg_of X G a7) (by walk_at "b")
 have qz:=JH Z F8 (Jap (C:=C) F8 qt wf qy T) (mg_of X G a8) (by walk_at "b")
 have qM:=JH Z F9 (Jef (C:=C) F9 qa qz) (mg_of X G a9) (by walk_at "b")
 have qX:=JH Z F10 (Jis (C:=C) F10 qk qq qt qe qx qM T) (mg_of X G a10) (by walk_at "b")
 have qi:=JH Z F11 (Jar (C:=C) F11 qt qD) (mg_of X G a11) (by walk_at "b")
 have qZ:=JH Z F12 (Jit (C:=C) F12 qu qA qP qH qX qx qi) (mg_of X G a12) (by walk_at "b")
 have qN:=JH Z F13 (Jei (C:=C) F13 qy) (mg_of X G a13) (by walk_at "b")
 have qB:=JH Z F14 (Jaq (C:=C) F14 ) (mg_of X G a14) (by walk_at "b")
 have qS:=JH Z F15 (JfG (C:=C) F15 qN qi qB) (mg_of X G a15) (by walk_at "b")
 have qI:=JH Z F16 (JcH (C:=C) F16 qt) (mg_of X G a16) (by walk_at "b")
 have qQ:=JH Z F17 (JfE (C:=C) F17 qt qP T) (mg_of X G a17) (by walk_at "b")
 have qp:=JH Z F18 (JcI (C:=C) F18 qy qQ T) (mg_of X G a18) (by walk_at "b")
 have qv:=JH Z F19 (JfH (C:=C) F19 qy qx qI qo qp T) (mg_of X G a19) (by walk_at "b")
 have qK:=JH Z F20 (JfC (C:=C) F20 wg T) (mg_of X G a20) (by walk_at "b")
 have qR:=JH Z F21 (JfF (C:=C) F21 qK) (mg_of X G a21) (by walk_at "b")
 have qY:=JH Z F22 (Jiu (C:=C) F22 qa qt qR qv T) (mg_of X G a22) (by walk_at "b")
 have qh:=JH Z F23 (Jej (C:=C) F23 qv qY qp T) (mg_of X G a23) (by walk_at "b")
 have qL:=JH Z F24 (Jkb (C:=C) F24 qZ qS qh) (mg_of X G a24) (by walk_at "b")
 have qw:=JH Z F25 (Ja2 (C:=C) F25 qm qg qj qL T) (mg_of X G a25) (by walk_at "b")
 have qE:=JH Z F26 (Ja4 (C:=C) F26 qP) (mg_of X G a26) (by walk_at "b")
 have qC:=JH Z F27 (Jau (C:=C) F27 qh) (mg_of X G a27) (by walk_at "b")
 have qf:=JH Z F28 (Jas (C:=C) F28 qa qk qC aL hTs hB) (mg_of X G a28) (by walk_at "b")
 have qU:=JH Z F29 (JfD (C:=C) F29 qy qE qf) (mg_of X G a29) (by walk_at "b")
 have qO:=JH Z F30 (Jeh (C:=C) F30 qA qh) (mg_of X G a30) (by walk_at "b")
 have qF:=JH Z F31 (JcK (C:=C) F31 qb qT q5 qq qm qA) (mg_of X G a31) (by walk_at "b")
 have qG:=JH Z F32 (JcJ (C:=C) F32 qJ qd) (mg_of X G a32) (by walk_at "b");exact JjV (JpL (C:=C) F33 qm qb qT q5 qk wj qq qd qw qg qj qL qU qO qF qf qx qG T) law_true
def walk{l:PySem.W.OpenLaw}{q:Qy}{loose:List Str}{XP:(Str->Option Qe)->Q2->Prop}{YP:QP->Q2->Prop}{d:DefRec}{K:Params->Qz}{Pt:Qh}(hn:l.most=some 63)(hdf:d.params.defaults=[])
 (hY:∀(w:QP) (h:Q2),YP w h->(K w.params).In h/\h.get? Pt=some { cls:=.none,data:=.fields #[] })
 (hT:∀w:QP,(Us (K w.params)).map (·.1)=some Pt) (hKP:∀w:QP,(K w.params).lookup Pt=none)
 (F:∀(w:QP) (mg:Str->Option Qe) (fa:Qh) (h:Q2),(K w.params).In h->h.Ns mainGlobals mg->mg d.name=some (.ref fa) ->
  ∃fd:QW,(∀(s:Qg) (u:Qe),BindsTo s fd ⟨[u],[]⟩ [("script",u)])/\∀base:Q2,(K w.params).In base->base.Ns mainGlobals mg->JbV mg base->FnOk l.prog w (K w.params) mg base CX0 10 fa fd ["script"] (Jc3 (K w.params))) :
 PySem.W.WalkO q loose XP YP l.row.toRowW d [] (fun f vs=>PySem.call f vs) :=
 L2.Jlk (n:=63) (k:=10) (x:="script") (CX:=fun _=>CX0) (sp:=fun w=>Jc3 (K w.params)) hn (by decide) hdf ⟨rfl,by decide,by decide⟩ hY hT hKP F (fun _ _ a ns hl tk hS=>⟨tk,a,ns,rfl,hS,hl,fun _=>rfl⟩) fun _ _ _ _ _ z=>z
end LK
end
namespace PySem.W.Fast
def tw13885901405493344205:=trivial
def tw14913275659385757604:=trivial
def tw8310069089364528461:=trivial
def tw2862641898293347294:=trivial
def tw8106314858521142553:=trivial
def tw785420743602623881:=trivial
def tw4558447409140634822:=trivial
def tw12070689280804579331:=trivial
def tw10825382178566877936:=trivial
def tw5185393824167817691:=trivial
def tw5185905733966361904:=trivial
def tw16151326711423195931:=trivial
def tw18296395964223410921:=trivial
def tw2383256114130359246:=trivial
def tw2259330142515784485:=trivial
def tw13088248754125374937:=trivial
def tw7920407565500367048:=trivial
def tw10524860008711886196:=trivial
def tw17439610233301178236:=trivial
def tw17175209845453441166:=trivial
def tw8385470852189510639:=trivial
def tw17120758448877086150:=trivial
def tw2332826704761246675:=trivial
def tw3542823605666401787:=trivial
def tw11855695594149855161:=trivial
def tw4277327562517414155:=trivial
def tw12815281533334427994:=trivial
def tw4036744308394271525:=trivial
def tw2593137837578204639:=trivial
def tw9950685068096156485:=trivial
def tw12290363697272752017:=trivial
def tw15448361923354456915:=trivial
def tw1742674341152452061:=trivial
def tw15951343877083733049:=trivial
def tw12448030900157833364:=trivial
def tw11036868736313298213:=trivial
def tw17986454976835214778:=trivial
def tw8531529601978730366:=trivial
def tw2789624683691733562:=trivial
def tw1550665107021482826:=trivial
def tw17263774475624562164:=trivial
def tw4072508702345346353:=trivial
def tw1668096221331925406:=trivial
def tw7682553980338117968:=trivial
def tw12525958659639905881:=trivial
def tw12492685127692379332:=trivial
def tw11976844438137435235:=trivial
def tw10441459732837044552:=trivial
def tw1241383213701949112:=trivial
def tw10292091226012877499:=trivial
def tw12694128318166923990:=trivial
def tw6303279323974349160:=trivial
def tw2578029816371297829:=trivial
def tw6087200666514260533:=trivial
def tw14313760854182678921:=trivial
def tw4012263410540273649:=trivial
def tw5223302145310376070:=trivial
def tw18419373599392101845:=trivial
def tw18123149953994403354:=trivial
def tw9647123076307352719:=trivial
def tw10011171086094922081:=trivial
def tw11868997461820766001:=trivial
def tw7865590317834790844:=trivial
def tw7524717077833574985:=trivial
def tw9576624941120047336:=trivial
def tw9117439176257389523:=trivial
def tw15827163484150069484:=trivial
def tw1942032261294150655:=trivial
def tw8196281588996356155:=trivial
def tw16825890613852949399:=trivial
def tw9700805887801550774:=trivial
def tw10995472796337317197:=trivial
def tw15841203386839497570:=trivial
def tw14450062993002092927:=trivial
def tw15128192672968314144:=trivial
def tw15962775491323140050:=trivial
def tw8749561563223712640:=trivial
def tw9381938426487519878:=trivial
def tw6466665145782230206:=trivial
def tw2158769854057528272:=trivial
def tw12112826417033974755:=trivial
def tw6776154372354602564:=trivial
def tw5917251070268972844:=trivial
def tw15916727427434017346:=trivial
def tw1605289188352665923:=trivial
def tw4327469936790604835:=trivial
def tw2830064663799656095:=trivial
def tw35809281421055830:=trivial
def tw277424718040982656:=trivial
def tw51992855603487356:=trivial
def tw11467482688319826411:=trivial
def tw1911483980950380630:=trivial
def tw6891484139383628212:=trivial
def tw1443072111442758591:=trivial
def tw10885403076624697231:=trivial
def tw7066719324758696097:=trivial
def tw16507844204072299464:=trivial
def tw18299603068693065424:=trivial
def tw13435383219461339404:=trivial
def tw13021893294322417274:=trivial
def tw12516224888471521440:=trivial
def tw4683700166107282228:=trivial
def tw14933435381990473234:=trivial
def tw9502076953265342929:=trivial
def tw645562005693458872:=trivial
def tw2869625109858614015:=trivial
def tw7454567850790956664:=trivial
def tw16148439633865732671:=trivial
def tw4368789562824821658:=trivial
def tw8301113937447015949:=trivial
def tw3691931212561693309:=trivial
def tw14039650658570721748:=trivial
def tw83065759414543833:=trivial
def tw9986291088850878441:=trivial
def tw12459731859801704376:=trivial
def tw10280483220993592469:=trivial
def tw14947357937614843471:=trivial
def tw2822247407560018786:=trivial
def tw12338779481118670488:=trivial
def tw16562324800557518706:=trivial
def tw16204275825228949643:=trivial
def tw8453948400291607525:=trivial
def tw1539360409190275097:=trivial
def tw15762354485458931481:=trivial
def tw4846617195303178084:=trivial
def tw16064835529558206016:=trivial
def tw15326354388782277337:=trivial
def tw9021545581664611257:=trivial
def tw17369961921631440697:=trivial
def tw12366395859273066322:=trivial
def tw4225466283993573916:=trivial
def tw6076922948222504805:=trivial
def tw18382037130003207527:=trivial
def tw8267854124900198970:=trivial
def tw17872602240387271105:=trivial
def tw10178132537464112127:=trivial
def tw9392569127895169305:=trivial
def tw14399559345415108417:=trivial
def tw13815598056738240364:=trivial
def tw3611302484480313688:=trivial
def tw8640980549143160869:=trivial
def tw1782947368647357114:=trivial
def tw10501977373000584122:=trivial
def tw875146409397236096:=trivial
def tw8243008226312898079:=trivial
def tw8655215198797760979:=trivial
def tw6094180832038833515:=trivial
def tw81549240798872094:=trivial
def tw6098729131103395526:=trivial
def tw9253426620932489952:=trivial
def tw6407706407286214148:=trivial
def tw10694268772549827463:=trivial
def tw7931184071130638448:=trivial
def tw2274890758869538115:=trivial
def tw10098082738528568314:=trivial
def tw13619089804664788902:=trivial
def tw18325083328991529179:=trivial
def tw14608783074932570242:=trivial
def tw10622578360904893208:=trivial
def tw10629736082423254235:=trivial
def tw8768447473471781227:=trivial
def tw6947931767969182280:=trivial
def tw1794444089136840881:=trivial
def tw566637171163174891:=trivial
def tw5794488168056572481:=trivial
def tw14393286095556021240:=trivial
def tw4033387699236673789:=trivial
def tw9224353985366536985:=trivial
def tw16416326265204399676:=trivial
def tw8391791331354395255:=trivial
def tw551450404090649012:=trivial
def tw11837944673281844755:=trivial
def tw74812562747094323:=trivial
def tw67722177560470375:=trivial
def tw5642114313300108369:=trivial
def tw4631022027676780644:=trivial
def tw2997376372425457017:=trivial
def tw2865506840774197686:=trivial
def tw11483771230857461900:=trivial
def tw10698303921864502092:=trivial
def tw4905055978964215006:=trivial
def tw18347855501722535124:=trivial
def tw16107909474621677210:=trivial
def tw8782495573030177905:=trivial
def tw12957294779604073812:=trivial
def tw5794621546829666606:=trivial
def tw110613789160367524:=trivial
def tw7502127168714177094:=trivial
end PySem.W.Fast
open PySem PySem.W PyProof.Rows
set_option maxHeartbeats 0 in
theorem PySem.Challenge.cw_lumprow_k52_whole_early_lines_holds : PySem.Challenge.rw_lumprow_k52_whole_early_lines.Holds := by
 w_on; o_law; k_head; (case hw => w_witness2)
 k_fill
 refine LK.walk (l := PySem.Challenge.rw_lumprow_k52_whole_early_lines) rfl rfl (fun w h Y => ⟨PySem.W.km_in_of Y, PySem.W.km_tabs_of Y _ (List.Mem.head _)⟩) (fun w => ?hT) (fun w => ?hKP) ?F
 case hT => kernel_rfl
 case hKP => kernel_rfl
 case F =>
  intro w mg fa h KX G hmg; apply LK.all_mk KX G hmg; all_goals first | exact L2.JjE (by k_is) (by k_is) (by k_is) | k_is | kernel_rfl
