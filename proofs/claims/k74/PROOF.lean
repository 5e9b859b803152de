import PyProof.Rows.All
import Wide.All
import OpenK.AllK
import Wide.FinOn
import Lean
import PyProof.EqAt
import PyProof.EqKinds
import PyProof.TupleCall
import PySem.Challenge.RW_lumprow_k74_whole_jumps_by_text
open Array renaming length_toList→KA,getElem?_eq_some_iff→K9
open Bool renaming false_ne_true→QB,and_eq_true→Q9,eq_iff_iff→GC,false_or→G5,false_eq_true→Ko,or_eq_true→Lk,and_false→Lv,or_false→LM,or_assoc→LN,and_eq_false_iff→Rf,true_or→RN
open False renaming elim→G8
open Int renaming le_refl→QK,min_eq_right→Gn,natCast_add→GM,min_eq_left→GN,max_eq_right→G2,min_le_right→Ki,add_mul→Kw,le_total→KQ,toNat_natCast→K1,zero_add→Ld,emod_nonneg→Lj,max_eq_left→Ln,le_max_left→Lo,add_zero→LA,one_mul→LQ,min_le_left→LY,sub_zero→L5,max_le→Mj,emod_lt_of_pos→Mn,mul_add→Mw,add_assoc→MH,natAbs_neg→Ru,mul_le_mul→Rv,le_min→RH,le_trans→RT,zero_mul→RV
open List renaming mem_cons_self→Qg,mem_cons_of_mem→Qh,map_cons→Qi,getElem?_eq_some_iff→Qn,mem_cons→Qp,length_cons→Qr,getElem?_map→Qt,replicate→Qv,map_map→QA,length_append→QC,getElem?_append_left→QE,sum_cons→QF,mem_of_getElem?→QG,getElem?_mapIdx→QH,map_congr_left→QL,length_map→QN,getElem?_append_right→QS,mem_map→QT,getElem?_set→QU,size_toArray→QW,eq_nil_of_length_eq_zero→Q1,map_append→Q2,pairwise_cons→Q6,foldl_cons→Ga,mem_nil_iff→Gd,nodup_cons→Ge,append_nil→Gg,mem_append→Go,count_cons→Gq,mem_append_right→Gr,mem_iff_getElem→Gu,length_singleton→Gy,ext_getElem?→GA,all_eq_true→GH,length_nil→GL,any_cons→GU,mem_iff_getElem?→GZ,map_nil→G4,getElem?_eq_getElem→G6,range→Kj,drop_eq_getElem_cons→Kq,append_assoc→Kx,replicate_succ→KB,zipIdx_cons→KD,cons_append→KI,getElem?_cons_succ→KM,mem_singleton→KO,forIn_cons→KS,nil_append→KU,dropLast_eq_take→KZ,mem_append_left→K3,getElem?_zipIdx→La,length_take→Lc,map_id'→Le,length_reverse→Lg,of_mem_zip→Li,flatten_cons→Lu,drop_eq_nil_of_le→Lz,take_of_length_le→LC,length_replicate→LF,length_drop→LI,find?_cons→LU,sum_append→LV,getD_eq_getElem?_getD→Md,forIn_nil→Me,length_mapIdx→Mh,count_eq_zero→Ml,count_pos_iff→Mm,getElem?_zip_eq_some→Mo,pairwise_iff_getElem→Mq,take_add_one→Ms,nodup_append→Mu,flatMap_cons→Mx,pairwise_map→My,count_append→Mz,take_length→MM,any_eq_true→MN,getElem?_set_self→MT,mem_filter→M4,zip_append→M5,length_zip→M6,getElem?_zipWith→Rb,min?_eq_some_iff→Rc,getElem?_eq_none→Re,mem_range→Rk,getElem?_set_ne→Rl,lookup→Rm,pairwise_append→Rp,reduceReplicate→Rq,idxOf_cons_self→Rs,take_left→Rt,all_cons→RA
open Nat renaming le_refl→Qo,lt_of_lt_of_le→QM,ne_of_lt→QQ,ne_of_gt→Gc,le_trans→Gj,lt_trans→Gm,lt_irrefl→GG,zero_le→GS,pow_le_pow_right→G7,le_of_lt→Kc,lt_of_le_of_lt→Km,ble_eq→KN,lt_succ_self→Lb,le_add_right→LL,toDigits_of_lt_base→MR,toDigits→M3,le_succ→Rn,digitChar→RB,le_of_eq→RJ,ble→RO,lt_or_ge→RP,zero_add→RS
open Ne renaming symm→QY
open Option renaming bind_some→QX,map_eq_some_iff→Q5,bind_assoc→GX,map_map→KG,isSome_iff_exists→MC,map_some→M8
open Option.some renaming inj→QV
open Prod renaming ext→Lh
open PyProof renaming noPylong_small→MU
open PyProof.Rows renaming slot_tuple_getitem→Gb,callWith_type1→Gk
open PySem renaming wpAny_bind→Qa,Value→Qc,Addr→Qd,Shared→Qe,wpAny_pure→Qk,sizeLine→Qq,Program→Qu,FuncData→Qz,Around→QI,World→QJ,wpAny_field→QO,wpAny_callSpecial?_slot→QP,wpAny_setField_rec→QR,Heap→Q0,Expr→Q4,wpAny_call_entry→Q8,wpAny_seqItems→Gv,wpAny_newObj_type→Gz,Stmt→GB,wpAny_attempt→GK,wpAny_holding→GQ,wpAny_loadPart'→GR,mem_of_lookup→G9,wpAny_isInstance→Kh,wpAny_Call_Name_kw→Kl,wpAny_passesOwn→Kr,wpAny_updateSeq→Ks,wpAny_of_eq→Kt,wpAny_letGo→Ku,wpAny_getItem_str_slice→KJ,wpAny_specialOf→KR,plainId_quiet→KW,wpAny_truthy_bool→K0,wpAny_mono→K4,wpAny_rule→K5,isSubtype_stop→K6,codeAny_builtin→Ll,codeAny_mono→Ls,wpAny_pyIter_enum→Lx,wpAny_tryCatch→Ly,wpAny_updateSeq_pair→LP,wpAny_execs_nil→LS,Scope→L8,wpAny_pyIter_tuple→Ma,wpAny_newTuple→Mf,wpAny_letOwnedTupleGo_enum→Mg,wpAny_pyIter_list→Mr,Result→MB,wpAny_onRaise→ME,wpAny_pyIter_zip→MO,Keyword→MV,wpAny_typeOf→MY,wpAny_ite_split→M7,evalArgs_none→Rx,Within→RI
open PySem.Around renaming under_plainId→K7,under→RL
open PySem.Builtin.Builtins renaming bindParams→L3
open PySem.Builtin.Int renaming intBits→Rz
open PySem.Builtin.List renaming listExtendWith→Ke,listTooLong→Kz,listLengthHint→L4,listSameRef→MF,listItems→M0
open PySem.Builtin.Range renaming rangeSize→Gf,small→KC,rangeFitsLong→L0
open PySem.Builtin.Slice renaming slicePlaces→Kp,sliceAdjust→Lf,sliceApplied→Mb
open PySem.Builtin.SmallTypes renaming ownedTupleIsFree→QD,nextOf→Q3,ownedTupleHandOut→Gi
open PySem.Builtin.Str renaming occurrences→GJ,strKind→Kb,strSliceIndices→K2,subAt→LB,partsBetween→MG
open PySem.Builtin.Tuple renaming tupleExact→Ky,tupleItemsOf→Mc
open PySem.Calls renaming callWith_builtin→Kd,spliced_cons→Kk,spliced_nil→Lr,evalArgs_plain→LO,Name_function_global→L9
open PySem.Code renaming isFrame→RM
open PySem.F renaming plainAttrs_list→QZ,plainAttrs_str→Q7,slot_list_append→Gw,type_list_append→Gx,slot_zip_next→GF,slot_enumerate_next→GI,plain_extend_loop→GY,slot_str_split→Kf,type_str_split→Kg,slot_tuple_iterator_next→Kn,args_zip_next_1→Kv,entry_zip_next→KE,args_enumerate_next_1→KF,plain_min_loop→KH,entry_enumerate_next→KP,plainAttrs_dict→Lp,slot_dict_get→LD,slot_list_pop→LG,type_list_pop→LH,args_tuple_iterator_next_1→LW,slot_dict_setdefault→LX,entry_tuple_iterator_next→L1,slot_str_startswith→L6,type_str_startswith→L7,args_str_split_2→Mi,entry_extend_loop→Mp,entry_str_split→Mv,args_tuple_add_2→MD,slot_list_extend→MI,type_list_extend→MJ,entry_tuple_add→MK,args_dict_get_3→ML,slot_dict_items→MP,slot_str_split→MQ,slot_tuple_add→MX,entry_dict_get→MZ,slot_str_join→Rg,type_str_join→Rh,slot_str_find→Ri,type_str_find→Rj
open PySem.Heap renaming get?_push_of_some→Qf,get?_push_size→Qj,lt_size→Qm,SameBut→Qy,get?_update_other→Gs,size_push→GD,get?_update_self→GP,ExtBut→Lq,get?_push_ne→Lw
open PySem.Heap.ExtBut renaming push→RW
open PySem.Heap.SameBut renaming update→LZ
open PySem.NumText renaming digitsVal→MS
open PySem.Obj renaming mapSeq→LJ
open PySem.Paired renaming length→MA
open PySem.PassesOwn renaming never→Gh
open PySem.PyData renaming canLayAll0→Mt
open PySem.SeqAt.EqAt renaming int_none→Rw,int_str→RC,str_int→RE,int_int→RF
open PySem.Shared renaming heap→Ro
open PySem.Str renaming ofString→Qx,empty→GO,length_append→GW,append_assoc→G1,join→Ka,length→RG
open PySem.StrLaws renaming occBody→M9,sliceText→RU
open PySem.Txt renaming split→KL,slice→KY,startswith→K8,lstripChars→Lm,slice_le→M1,find→RQ
open PySem.W renaming Frag→Qw,cellsFrom_some→MW,methodCall_KW→Ra,KdlKeysView→Ry,specialIn→RK
open PySem.W.KIN renaming val_back→Rr
set_option Elab.async false
set_option linter.all false
set_option maxRecDepth 100000
set_option maxHeartbeats 4000000
open PySem.W (instObj methodObj Frag lookIn plainGet hasDictIn findIn plainGet_of isFn plainOver takerIn makesIn emptyDict keepIn mroIn callWith_K fnOf codeIn nsIn mg_of mg_none_of)
set_option compiler.extract_closed false
noncomputable section
namespace L2
open PySem PySem.Spec PyProof.Rows

noncomputable abbrev Key:=Sum Int Str
noncomputable def JaE:Key->Qc->Bool
 | .inl k,v=>Value.isInt k v
 | .inr x,v=>Value.isStrOf x v
noncomputable def Js5(w:QJ):Key->Int
 | .inl k=>hashInt k
 | .inr x=>hashStr w x
theorem J6:∀{k:Key} {v:Qc},JaE k v=true->(∃i t,k=Sum.inl i/\v=Value.int i t)\/(∃x t,k=Sum.inr x/\v=Value.str x t)
 | .inl i,v,h=>by obtain⟨t,e⟩:=Value.isInt_shape (k:=i) (v:=v) h;exact .inl ⟨i,t,rfl,e⟩
 | .inr x,v,h=>by obtain⟨t,e⟩:=Value.isStrOf_shape (x:=x) (v:=v) h;exact .inr ⟨x,t,rfl,e⟩
theorem Jjk(i:Int)(t:Tok):JaE (.inl i) (.int i t)=true:=by simp[JaE,Value.isInt]
theorem Jjl(x:Str)(t:Tok):JaE (.inr x) (.str x t)=true:=by simp[JaE,Value.isStrOf]
theorem JpY(a b:Int):decide ((Sum.inl a:Key)=Sum.inl b)=(a == b):=by grind
theorem Jp1(a b:Str):decide ((Sum.inr a:Key)=Sum.inr b)=decide (a=b):=by simp_all
theorem JpZ(a:Int)(b:Str):decide ((Sum.inl a:Key)=Sum.inr b)=false:=decide_eq_false (fun q=>nomatch q)
theorem Jp0(a:Str)(b:Int):decide ((Sum.inr a:Key)=Sum.inl b)=false:=decide_eq_false (fun q=>nomatch q)

noncomputable def JW(prog:Qu)(w:QJ):PySem.KeyKind prog w Key where
 is:=JaE
 hash:=Js5 w
 inj:=fun v a b ha hb=>by
  rcases J6 ha with ⟨i,t,rfl,rfl⟩|⟨x,t,rfl,rfl⟩
  ·rcases J6 hb with ⟨j,u,rfl,e⟩|⟨y,u,rfl,e⟩
   ·simp_all
   ·exact nomatch e
  ·rcases J6 hb with ⟨j,u,rfl,e⟩|⟨y,u,rfl,e⟩
   ·exact nomatch e
   simp_all
 byValue:=fun k v h=>by rcases J6 h with ⟨i,t,rfl,rfl⟩|⟨x,t,rfl,rfl⟩ <;> rfl
 pyHash:=fun hv h=>by
  rcases J6 hv with ⟨i,t,rfl,rfl⟩|⟨x,t,rfl,rfl⟩
  ·exact wpAny_pyHash_int h
  ·exact wpAny_pyHash_str h
 eqBool:=fun hu hv h=>by
  rcases J6 hu with ⟨i,t,rfl,rfl⟩|⟨x,t,rfl,rfl⟩
  ·rcases J6 hv with ⟨j,u,rfl,rfl⟩|⟨y,u,rfl,rfl⟩
   ·rw[JpY] at h;exact wpAny_eqBool_int h
   ·rw[JpZ] at h;exact RC i t y u _ _ _ _ h
  ·rcases J6 hv with ⟨j,u,rfl,rfl⟩|⟨y,u,rfl,rfl⟩
   ·rw[Jp0] at h;exact RE x t j u _ _ _ _ h
   ·rw[Jp1] at h;exact wpAny_eqBool_str h
 «strs»:=fun k x t v h=>by
  rcases J6 h with ⟨i,u,rfl,e⟩|⟨y,u,rfl,e⟩
  ·exact nomatch e
  ·injection e with e1 _
   subst e1;cases v <;> rfl

theorem Jfo(prog:Qu)(w:QJ)(i:Int)(t:Tok):(JW prog w).is (.inl i) (.int i t)=true:=Jjk i t
theorem Jfp(prog:Qu)(w:QJ)(x:Str)(t:Tok):(JW prog w).is (.inr x) (.str x t)=true:=Jjl x t
end L2

namespace L2
open PySem PySem.Spec PyProof.Rows

inductive V where
 | non|bl (b:Bool)|int (i:Int)|str (x:Str)|byt (b:Array UInt8)|flt (b:UInt64)|ref (a:Qd)|ty (n:String)
 deriving DecidableEq

noncomputable def RelV:V->Qc->Prop
 | .non,u=>u=Value.none
 | .bl b,u=>u=Value.bool b
 | .int i,u=>∃t,u=Value.int i t
 | .str x,u=>∃t,u=Value.str x t
 | .byt b,u=>∃t,u=Value.bytes b t
 | .flt b,u=>∃t,u=Value.float b t
 | .ref a,u=>u=Value.ref a
 | .ty n,u=>u=Value.type n

noncomputable abbrev Vals:List V->List Qc->Prop:=Paired RelV
theorem Vals.length{xs:List V}{us:List Qc}(r:Vals xs us):xs.length=us.length:=MA r
theorem Vals.get:∀{xs:List V} {us:List Qc} {i:Nat} {x:V},Vals xs us->xs[i]?=some x->∃u,us[i]?=some u/\RelV x u
 | _,_,_,_,.nil,e=>by simp at e
 | _,_,0,_,.cons r _,e=>by simp_all
 | _,_,i+1,x,.cons _ t,e=>by
  obtain⟨u,h1,h2⟩:=Vals.get (i:=i) (x:=x) t (by simpa using e)
  simp_all
theorem Vals.append:∀{xs ys:List V} {us ws:List Qc},Vals xs us->Vals ys ws->Vals (xs++ys) (us++ws)
 | _,_,_,_,.nil,s=>s
 | _,_,_,_,.cons r t,s=>.cons r (Vals.append t s)
theorem Vals.take:∀{xs:List V} {us:List Qc} (n:Nat),Vals xs us->Vals (xs.take n) (us.take n)
 | _,_,0,_=>.nil
 | _,_,_+1,.nil=>.nil
 | _,_,n+1,.cons r t=>.cons r (Vals.take n t)
theorem Vals.drop:∀{xs:List V} {us:List Qc} (n:Nat),Vals xs us->Vals (xs.drop n) (us.drop n)
 | _,_,0,r=>r
 | _,_,_+1,.nil=>.nil
 | _,_,n+1,.cons _ t=>Vals.drop n t
noncomputable def RelO:Option V->Option Qc->Prop
 | some v,some u=>RelV v u
 | none,none=>True
 | _,_=>False
noncomputable def KV{κ:Type}:List (κ×V)->List (κ×Qc)->Prop:=Paired fun(p:κ×V) (q:κ×Qc)=>p.1=q.1/\RelV p.2 q.2

noncomputable def kV:Key->V
 | .inl i=>.int i
 | .inr x=>.str x

inductive HO where
 | lst (xs:List V)
 | tup (xs:List V)
 | dK (kvs:List (Key×V))|dT (kvs:List (List Key×V))
 | set (S:Int->Bool) (n:Nat)
 | ins (C dx:Qd) (fs:List (Str×V))
 | own (x:Qd)
 | xd (fs:List (Str×V))
 | met (f x:Qd)
 | rng (lo hi:Int)
 | frz (o:Obj) (u:HO)
 | tbl (ps:Array Qc) (l c:Nat) (q:Str)
 | ext (φ:Q0->Prop)

noncomputable abbrev Hp:=Qd->Option HO
noncomputable def upd(H:Hp)(a:Qd)(o:HO):Hp:=fun b=>if b=a then some o else H b
theorem Jw{H:Hp}{a:Qd}{o:HO}:upd H a o a=some o:=by unfold upd;rw[if_pos rfl]
theorem Jl{H:Hp}{a b:Qd}{o:HO}(h:b≠a):upd H a o b=H b:=by unfold upd;rw[if_neg h]
theorem Jk7{H:Hp}{a b:Qd}{o u:HO}(h:H a=some o)(h':H b=some u)(d:o≠u):a≠b:=by grind
theorem JA{H:Hp}{a b:Qd}{o:HO}(h:H a=some o)(h':H b=none):a≠b:=by grind

section
variable(P:Qu)(w:QJ)
noncomputable def ObjOk(H:Hp)(h:Q0)(a:Qd):HO->Prop
 | .lst xs=>xs.length<=Qq/\∃(its:List Qc) (n:Nat),Vals xs its/\h.get? a=some { cls:=.type "list",data:=.seq its.toArray n }
 | .tup xs=>xs.length<=Qq/\∃its:List Qc,Vals xs its/\IsTup h a its.toArray
 | .dK kvs=>kvs.length<=Qq/\(a == sysModules)=false/\∃vs,KV kvs vs/\h.DictOf (JW P w) a vs
 | .dT kvs=>kvs.length<=Qq/\(a == sysModules)=false/\∃xs:List (List Key×Qd×Qc),
  Paired (fun(p:List Key×V) (q:List Key×Qd×Qc)=>p.1=q.1/\H q.2.1=some (.tup (p.1.map kV))/\RelV p.2 q.2.2) kvs xs ∧
  ∃o es ep,h.get? a=some o/\o.ExactDict/\o.data=.dict es ep/\es.toList=xs.map (entryOfKey (tupleKind (JW P w)))/\(xs.map (·.1)).Nodup
 | .set S n=>h.SetOf (intKind P w) a S n
 | .ins C dx fs=>H dx=some (.own a)/\fs.length<=1000/\dx≠a/\h.get? a=some (instObj C dx) ∧
  ∃mA,h.Ns1 dx mA/\(∀f,RelO (fs.lookup f) (mA f))/\RI mA (fs.map (·.1))
 | .own _=>∃o,h.get? a=some o
 | .xd fs=>∃mA,h.Ns1 a mA/\∀f,RelO (fs.lookup f) (mA f)
 | .rng lo hi=>∃t u v,h.get? a=some { cls:=.type "range",data:=.fields #[.int lo t,.int hi u,.int 1 v] }
 | .frz o u=>h.get? a=some o/\ObjOk H h a u
 | .tbl ps l c q=>h.get? a=some { cls:=.none,data:=.fields ps }\/∃y,H y=some (.own a)/\y≠a/\h.get? a=some { cls:=.none,data:=.fields (ps++#[rawInt l,rawInt c,.ref y]) }/\h.CodeRec (.ref y) q
 | .met f x=>h.get? a=some (methodObj (.ref f) (.ref x))
 | .ext φ=>φ h/\(∃o,h.get? a=some o)/\∀h1 h2:Q0,φ h1->(∀o,h1.get? a=some o->h2.get? a=some o)->φ h2
noncomputable def HOk(H:Hp)(h:Q0):Prop:=∀a o,H a=some o->ObjOk P w H h a o
end

section
variable{P:Qu}{w:QJ}{H H':Hp}{h h':Q0}{a:Qd}{o:HO}
theorem ObjOk.lt(x:ObjOk P w H h a o):a<h.objs.size:=by
 cases o with
 | lst xs=>obtain⟨_,_,_,_,e⟩:=x;exact Qm e
 | tup xs=>obtain⟨_,_,_,p⟩:=x;exact p.lt
 | dK kvs=>obtain⟨_,_,_,_,o,_,_,e,_⟩:=x;exact Qm e
 | dT kvs=>obtain⟨_,_,_,_,o,_,_,e,_⟩:=x;exact Qm e
 | set S n=>obtain⟨o,_,_,_,e,_⟩:=x;exact Qm e
 | ins C dx fs=>obtain⟨_,_,_,e,_⟩:=x;exact Qm e
 | own y=>obtain⟨_,e⟩:=x;exact Qm e
 | xd fs=>obtain⟨_,⟨_,_,_,e,_⟩,_⟩:=x;exact Qm e
 | rng lo hi=>obtain⟨_,_,_,e⟩:=x;exact Qm e
 | frz ob u=>obtain⟨e,_⟩:=x;exact Qm e
 | tbl ps l c q =>
  rcases x with e|⟨_,_,_,e,_⟩
  ·exact Qm e
  ·exact Qm e
 | met f y=>exact Qm (show h.get? a=some _ from x)
 | ext φ=>obtain⟨_,⟨_,e⟩,_⟩:=x;exact Qm e
theorem Paired.mapP{α β:Type}{F G:α->β->Prop}:∀{l₁:List α} {l₂:List β},Paired F l₁ l₂->(∀a b,F a b->G a b)->Paired G l₁ l₂
 | _,_,.nil,_=>.nil
 | _,_,.cons r t,f=>.cons (f _ _ r) (Paired.mapP t f)
theorem ObjOk.stay(x:ObjOk P w H h a o)(k:∀b u,(b=a\/H b=some (.own a))->h.get? b=some u->h'.get? b=some u)
 (ho:∀b,H b=some (.own a)->H' b=some (.own a)) (ht:∀b xs,H b=some (.tup xs)->H' b=some (.tup xs)):ObjOk P w H' h' a o:=by
 induction o with
 | lst xs=>obtain⟨z,its,n,r,e⟩:=x;exact⟨z,its,n,r,k _ _ (.inl rfl) e⟩
 | tup xs=>obtain⟨z,its,r,ob,e,c⟩:=x;exact⟨z,its,r,ob,k _ _ (.inl rfl) e,c⟩
 | dK kvs=>obtain⟨z,y,vs,r,ob,es,ep,e,c⟩:=x;exact⟨z,y,vs,r,ob,es,ep,k _ _ (.inl rfl) e,c⟩
 | dT kvs=>obtain⟨z,y,xs,r,ob,es,ep,e,c⟩:=x;exact⟨z,y,xs,Paired.mapP r fun p q z=>⟨z.1,ht _ _ z.2.1,z.2.2⟩,ob,es,ep,k _ _ (.inl rfl) e,c⟩
 | set S n=>obtain⟨ob,es,ep,t,e,c⟩:=x;exact⟨ob,es,ep,t,k _ _ (.inl rfl) e,c⟩
 | ins C dx fs=>obtain⟨d,z,ne,e,mA,⟨od,es,ep,e2,c⟩,r⟩:=x;exact⟨ho _ d,z,ne,k _ _ (.inl rfl) e,mA,⟨od,es,ep,k _ _ (.inr d) e2,c⟩,r⟩
 | own y=>obtain⟨ob,e⟩:=x;exact⟨ob,k _ _ (.inl rfl) e⟩
 | xd fs=>obtain⟨mA,⟨od,es,ep,e,c⟩,r⟩:=x;exact⟨mA,⟨od,es,ep,k _ _ (.inl rfl) e,c⟩,r⟩
 | rng lo hi=>obtain⟨t,u,v,e⟩:=x;exact⟨t,u,v,k _ _ (.inl rfl) e⟩
 | frz ob u ih=>obtain⟨e,q⟩:=x;exact⟨k _ _ (.inl rfl) e,ih q⟩
 | tbl ps l c q =>
  rcases x with e|⟨y,d,ne,e,y',oc,vs,t,z,e2,r⟩
  ·exact .inl (k a _ (.inl rfl) e)
  ·cases z;exact .inr ⟨y,ho _ d,ne,k a _ (.inl rfl) e,y,oc,vs,t,rfl,k _ _ (.inr d) e2,r⟩
 | met f y =>
  have e:h.get? a=some (methodObj (.ref f) (.ref y)):=x
  show h'.get? a=some (methodObj (.ref f) (.ref y));exact k a _ (.inl rfl) e
 | ext φ=>obtain⟨p,⟨o,e⟩,st⟩:=x;exact⟨st _ _ p fun o q=>k _ _ (.inl rfl) q,⟨o,k _ _ (.inl rfl) e⟩,st⟩
theorem HOk.lt(x:HOk P w H h)(e:H a=some o):a<h.objs.size:=(x a o e).lt
theorem HOk.fresh(x:HOk P w H h)(e:h.objs.size<=a):H a=none:=by
 cases q:H a with
 | none=>rfl
 | some u=>exact absurd (QM (x.lt q) e) (GG _)
theorem HOk.kept(x:HOk P w H h)(k:∀b u,h.get? b=some u->h'.get? b=some u):HOk P w H h':=fun a o e=>(x a o e).stay (fun b u _ q=>k b u q) (fun _ q=>q) fun _ _ q=>q
theorem HOk.laid(x:HOk P w H h)(k:∀b u,h.get? b=some u->h'.get? b=some u)(hp:h.objs.size<=a)(new:ObjOk P w (upd H a o) h' a o):HOk P w (upd H a o) h':=fun b u e=>by
 have hn:=x.fresh hp
 by_cases hb:b=a
 ·subst hb;rw[Jw] at e;cases e;exact new
 ·rw[Jl hb] at e;exact(x b u e).stay (fun c v _ q=>k c v q) (fun c q=>by rw[Jl (JA q hn)];exact q) fun c xs q=>by rw[Jl (JA q hn)];exact q
end

noncomputable def Rd(H:Hp)(a:Qd)(u:HO):Prop:=H a=some u\/∃o,H a=some (.frz o u)
theorem Rd.ok{P:Qu}{w:QJ}{H:Hp}{h:Q0}{a:Qd}{u:HO}(r:Rd H a u)(x:HOk P w H h):ObjOk P w H h a u:=by
 rcases r with r|⟨o,r⟩
 ·exact x a u r
 ·obtain⟨_,q⟩:=x a _ r;exact q
noncomputable def Mut:Option HO->Prop
 | some (.lst _)=>True
 | some (.dK _)=>True
 | some (.dT _)=>True
 | some (.set _ _)=>True
 | some (.ins _ _ _)=>True
 | some (.ext _)=>True
 | _=>False
section
variable{P:Qu}{w:QJ}{H:Hp}{h h':Q0}{x e:Qd}{o':HO}
theorem HOk.write(ok:HOk P w H h)(mu:Mut (H x))(he:e=x\/H e=some (.own x))(k:∀b u,b≠e->h.get? b=some u->h'.get? b=some u)(heo:∃u,h'.get? e=some u)
 (new:ObjOk P w (upd H x o') h' x o'):HOk P w (upd H x o') h':=fun b u q=>by
 have nown:∀c y,H c=some (.own y)->c≠x:=fun c y r z=>by subst z;rw[r] at mu;exact mu
 have ntup:∀c xs,H c=some (.tup xs)->c≠x:=fun c xs r z=>by subst z;rw[r] at mu;exact mu
 by_cases hb:b=x
 ·subst hb;rw[Jw] at q;cases q;exact new
 ·rw[Jl hb] at q
  by_cases hbe:b=e
  ·have q':H b=some (.own x):=by simp_all
   rw[q] at q';cases q';obtain⟨v,hv⟩:=heo;exact⟨v,by rw[hbe];exact hv⟩
  ·refine(ok b u q).stay (fun c v hc r=>k c v ?_ r) (fun c r=>by rw[Jl (nown c b r)];exact r) fun c xs r=>by rw[Jl (ntup c xs r)];exact r
   grind
end

structure Un (fs ex:List Qd) (H H':Hp) (h h':Q0):Prop where
 keep:∀b o,h.get? b=some o->H b=none->b∉fs->b∉ex->h'.get? b=some o
 slot:∀b o,h.get? b=some o->H b=none->b∈fs->b∉ex->∃sl,h'.get? b=some { o with slots:=sl }
 free:∀b o,h.get? b=some o->H b=none->b∉ex->H' b=none
 there:∀b o,h.get? b=some o->b∉ex->∃o',h'.get? b=some o'
 tups:∀b xs,H b=some (.tup xs)->H' b=some (.tup xs)
 frzs:∀b o u,H b=some (.frz o u)->H' b=some (.frz o u)
 tbls:∀b ps l c q,H b=some (.tbl ps l c q)->H' b=some (.tbl ps l c q)
section
variable{fs fs' ex ex':List Qd}{H H1 H2:Hp}{h h1 h2 h':Q0}{a x e:Qd}{o:HO}
theorem Un.any(u:Un fs ex H H1 h h1){b:Qd}{ob:Obj}(q:h.get? b=some ob)(n:H b=none)(hx:b∉ex):∃sl,h1.get? b=some { ob with slots:=sl }:=by
 by_cases hb:b∈fs
 ·exact u.slot b ob q n hb hx
 ·exact⟨ob.slots,u.keep b ob q n hb hx⟩
theorem Un.kept(k:∀b u,h.get? b=some u->h'.get? b=some u):Un fs ex H H h h' :=
 ⟨fun b ob q _ _ _=>k b ob q,fun b ob q _ _ _=>⟨ob.slots,k b ob q⟩,fun _ _ _ n _=>n,fun b ob q _=>⟨ob,k b ob q⟩,fun _ _ q=>q,fun _ _ _ q=>q,fun _ _ _ _ _ q=>q⟩
theorem Un.refl:Un fs ex H H h h:=Un.kept fun _ _ q=>q
theorem Un.laid(k:∀b u,h.get? b=some u->h'.get? b=some u)(hp:h.objs.size<=a)(hn:H a=none):Un fs ex H (upd H a o) h h' where
 keep:=fun b u q _ _ _=>k b u q
 slot:=fun b u q _ _ _=>⟨u.slots,k b u q⟩
 free:=fun b u q n _=>by rw[Jl (QQ (QM (Qm q) hp))];exact n
 there:=fun b u q _=>⟨u,k b u q⟩
 tups:=fun b xs q=>by rw[Jl (JA q hn)];exact q
 frzs:=fun b u xs q=>by rw[Jl (JA q hn)];exact q
 tbls:=fun b ps l c z q=>by rw[Jl (JA q hn)];exact q
theorem Un.write(mu:Mut (H x))(he:e=x\/H e=some (.own x))(k:∀b u,b≠e->h.get? b=some u->h'.get? b=some u)(heo:∃u,h'.get? e=some u):Un fs ex H (upd H x o) h h':=by
 have hx:∀b,H b=none->b≠x:=fun b n z=>by subst z;rw[n] at mu;exact mu
 have hb:∀b,H b=none->b≠e:=fun b n z=>by simp_all
 have hm:∀b u,H b=some u->¬Mut (some u)->b≠x:=fun b u q nm z=>by simp_all
 refine⟨fun b u q n _ _=>k b u (hb b n) q,fun b u q n _ _=>⟨u.slots,k b u (hb b n) q⟩,fun b u q n _=>by rw[Jl (hx b n)];exact n,fun b u q _=>?_,
  fun b xs q=>by rw[Jl (hm b _ q fun z=>z)];exact q,fun b u xs q=>by rw[Jl (hm b _ q fun z=>z)];exact q,fun b ps l c z q=>by rw[Jl (hm b _ q fun z=>z)];exact q⟩
 grind
end

noncomputable def trk(h:Q0)(H:Hp):List Qd:=(Kj h.objs.size).filter fun a=>(H a).isSome
noncomputable def JdP(h:Q0)(H:Hp):Q0:=PySem.W.hideAll h (trk h H)
theorem Jjc(h:Q0)(H:Hp):(JdP h H).objs.size=h.objs.size:=PySem.W.hideAll_size _ _
theorem JkG{h:Q0}{H:Hp}{b:Qd}{o:Obj}(e:h.get? b=some o)(n:H b=none):(JdP h H).get? b=some o :=
 PySem.W.hideAll_get _ e fun hm=>by have q:(H b).isSome=true:=(M4.mp hm).2;rw[n] at q;simp at q
theorem Jnx{h:Q0}{H:Hp}{b:Qd}{o:Obj}(e:(JdP h H).get? b=some o):h.get? b=some o/\H b=none:=by
 have e':h.get? b=some o:=PySem.W.of_hideAll (trk h H) e;refine⟨e',?_⟩
 cases q:H b with
 | none=>rfl
 | some x =>
  have hm:b∈trk h H:=M4.mpr ⟨Rk.mpr (Qm e'),by simp[q]⟩
  have z:(JdP h H).get? b=none:=PySem.W.hideAll_none (trk h H) hm;rw[z] at e;cases e

noncomputable def Jmn(g h:Q0)(L:Qd):List (Qd×Obj):=(Kj h.objs.size).filterMap fun a=>if a=L\/(g.get? a).isSome=true then none else(h.get? a).map fun o=>(a,o)
noncomputable def rest(g h:Q0)(L d:Qd):List (Qd×Obj):=(Jmn g h L).filter fun p=>decide (p.1≠d)
end L2

namespace L2
open PySem PySem.Spec PyProof.Rows

structure Mod (K:Qw) (mg:Str->Option Qc) (base:Q0):Prop where
 kin:K.In base
 glob:base.Ns mainGlobals mg
 blt:∃mb,base.Ns builtinsNs mb/\∀x:Str,x≠"__name__"->mb x=bootBuiltins x
 nolimit:base.NoLimit

structure Cx where
 prog:Qu
 w:QJ
 K:Qw
 mg:Str->Option Qc
 base:Q0
 A:QI
 N:List Str
 s₀:Qe
 H₀:Hp
 env:Env
 outer:List Env
 stack:List Env
 ex:List Qd
 fn:Str->Bool
 calm:Bool
 pn:List (Qd×Obj)
 xe:Qc->Qe->Prop
noncomputable def frs(l:List Env):List Qd:=l.filterMap (·.frame)
noncomputable abbrev Cx.fs(X:Cx):List Qd:=frs X.outer

noncomputable def Vis(sc:L8)(x:Str):Prop:=sc.names.lookup x=some .local\/sc.names.lookup x=some .cell\/sc.names.lookup x=some .free
noncomputable def Loc(sc:L8)(x:Str):Prop:=sc.names.lookup x=some .local\/sc.names.lookup x=some .cell
noncomputable def JsY(env:Env)(h:Q0)(m:Str->Option Qc)(x:Str)(u:Qc):Prop :=
 (env.kindOf x=some .local/\m x=some u)\/((env.kindOf x=some .cell\/env.kindOf x=some .free)/\∃c,env.cells.lookup x=some c/\h.IsCell c (some u))

structure Cx.Ok (X:Cx):Prop where
 mod:Mod X.K X.mg X.base
 kind:X.env.scope.kind=.function
 glob:X.env.globals=mainGlobals
 blt:X.env.builtins=builtinsNs
 above:X.s₀.heap.objs.size<=X.env.locals
 inj:∀x y c,X.env.cells.lookup x=some c->X.env.cells.lookup y=some c->x=y
 has:∀x,(X.env.kindOf x=some .cell\/X.env.kindOf x=some .free)->∃c,X.env.cells.lookup x=some c
 cab:∀x c,X.fn x=true->X.env.cells.lookup x=some c->X.s₀.heap.objs.size<=c
 hd:X.calm=true->X.A.handled=none
 frames:X.A.frames=some X.stack
 stk:X.stack=X.outer\/(X.stack=X.env::X.outer/\X.env.frame=some X.env.locals)
 exf:∀b∈X.ex,b≠X.env.locals/\∀x c,X.env.cells.lookup x=some c->c≠b
 bs:∀b o,X.base.get? b=some o->X.s₀.heap.get? b=some o/\X.H₀ b=none
 bsz:X.base.objs.size<=X.s₀.heap.objs.size
 noex:∀b o,X.base.get? b=some o->b∉X.ex
 exfs:∀b∈X.ex,b∉X.fs
 funs:X.s₀.heap.FunFrames X.base X.outer
 frf:∀b∈X.fs,X.H₀ b=none

structure Inv (X:Cx) (pins:List (Qd×Obj)) (σ:List (Option V)) (H:Hp) (s:Qe):Prop where
 ok:X.Ok
 os:s.os=X.s₀.os
 bare:AllBare s.gens
 base:Un X.fs X.ex X.H₀ H X.s₀.heap s.heap
 loc:∃m,s.heap.Ns X.env.locals m/\∀(i:Nat) (x:Str) (v:V),X.N[i]?=some x->σ[i]?=some (some v)->Vis X.env.scope x->∃u,RelV v u/\JsY X.env s.heap m x u
 cell:∀x c,X.env.cells.lookup x=some c->∃v,s.heap.IsCell c v
 free:H X.env.locals=none
 freeC:∀x c,X.env.cells.lookup x=some c->H c=none
 pin:∀p∈X.pn++pins,s.heap.get? p.1=some p.2/\H p.1=none/\p.1≠X.env.locals/\p.1∉X.fs/\∀v,p.2.data≠.cell v
 hok:HOk X.prog X.w H s.heap
 len:σ.length=X.N.length

section
variable{X:Cx}{pins:List (Qd×Obj)}{σ:List (Option V)}{H H':Hp}{s:Qe}{h':Q0}

theorem Cx.Ok.nofr(ok:X.Ok){b:Qd}{o:Obj}(e:X.base.get? b=some o):b∉X.fs:=fun hb=>by have:=(ok.funs.mem hb).1;rw[e] at this;cases this
theorem Inv.bs(I:Inv X pins σ H s):∀b o,X.base.get? b=some o->s.heap.get? b=some o/\H b=none:=fun b o e=>⟨I.base.keep b o (I.ok.bs b o e).1 (I.ok.bs b o e).2 (I.ok.nofr e) (I.ok.noex b o e),I.base.free b o (I.ok.bs b o e).1 (I.ok.bs b o e).2 (I.ok.noex b o e)⟩
theorem Inv.bk(I:Inv X pins σ H s):∀b o,X.base.get? b=some o->s.heap.get? b=some o:=fun b o e=>(I.bs b o e).1
theorem Inv.mod(I:Inv X pins σ H s):Mod X.K X.mg X.base:=I.ok.mod
theorem Inv.kIn(I:Inv X pins σ H s):X.K.In s.heap:=I.ok.mod.kin.keeps I.bk
theorem Inv.lt(I:Inv X pins σ H s):X.env.locals<s.heap.objs.size:=let ⟨_,hn,_⟩:=I.loc;hn.lt
theorem Inv.sz(I:Inv X pins σ H s):X.s₀.heap.objs.size<=s.heap.objs.size:=Gj I.ok.above (Kc I.lt)
theorem Inv.nofs(I:Inv X pins σ H s){a:Qd}(h:s.heap.objs.size<=a):a∉X.fs:=fun hb=>by obtain⟨_,o,ho,_⟩:=I.ok.funs.mem hb;exact absurd (QM (Qm ho) (Gj I.sz h)) (GG _)
theorem Inv.cne(I:Inv X pins σ H s):∀x c,X.env.cells.lookup x=some c->c≠X.env.locals:=fun x c e z=>by
 obtain⟨v,o,ho,hd⟩:=I.cell x c e;obtain⟨m,⟨o',es,ep,ho',hd',_⟩,_⟩:=I.loc
 simp_all
theorem Inv.funs(I:Inv X pins σ H s):s.heap.FunFrames X.base X.outer:=by
 have all:∀(l:List Env),(∀b∈frs l,b∈X.fs)->X.s₀.heap.FunFrames X.base l->s.heap.FunFrames X.base l:=by
  intro l
  induction l with
  | nil=>intro _ _;trivial
  | cons env r ih =>
   intro hs hl;obtain⟨hk,⟨L,o,hf,hn,ho,hd⟩,hr⟩:=hl;have hL:L∈X.fs:=hs L (by unfold frs;simp_all);obtain⟨sl,e⟩:=I.base.slot L o ho (I.ok.frf L hL) hL fun z=>I.ok.exfs L z hL
   exact⟨hk,⟨L,_,hf,hn,e,hd⟩,ih (fun b hb=>hs b (by unfold frs;rw[List.filterMap_cons,hf];exact Qh _ hb)) hr⟩
 exact all X.outer (fun _ hb=>hb) I.ok.funs

theorem Inv.stack(I:Inv X pins σ H s):s.heap.FunFrames X.base X.stack:=by
 rcases I.ok.stk with e|⟨e,hf⟩
 ·rw[e];exact I.funs
 ·rw[e];obtain⟨m,hn,_⟩:=I.loc;refine .cons (by rw[I.ok.kind];decide) hf hn ?_ I.funs;exact Heap.get?_none_of_le (Gj I.ok.bsz I.ok.above)
theorem Inv.stkSub(I:Inv X pins σ H s):∀b∈frs X.stack,b∈X.env.locals::X.fs:=fun b hb=>by
 rcases I.ok.stk with e|⟨e,hf⟩
 ·simp_all
 ·rw[e] at hb;unfold frs at hb;rw[List.filterMap_cons,hf] at hb;exact hb
theorem Inv.stkFree(I:Inv X pins σ H s):∀b∈frs X.stack,H b=none:=fun b hb=>by
 rcases Qp.mp (I.stkSub b hb) with e|hb
 ·rw[e];exact I.free
 ·obtain⟨_,o,ho,_⟩:=I.ok.funs.mem hb;exact I.base.free b o ho (I.ok.frf b hb) fun z=>I.ok.exfs b z hb

theorem Inv.step{g':Array GenState}{t':Nat}{d':Drawn}{ch:List Qd}(I:Inv X pins σ H s)
 (hch:∀b∈ch,(b∈X.ex\/X.s₀.heap.objs.size<=b)/\b≠X.env.locals/\(∀x c,X.env.cells.lookup x=some c->c≠b)/\∀p∈X.pn++pins,p.1≠b)
 (keep:∀b o,b≠X.env.locals->b∉X.fs->b∉ch->s.heap.get? b=some o->H b=none->h'.get? b=some o)
 (slot:∀b o,b≠X.env.locals->b∈X.fs->b∉ch->s.heap.get? b=some o->H b=none->∃sl,h'.get? b=some { o with slots:=sl }) (free:∀b o,b∉ch->s.heap.get? b=some o->H b=none->H' b=none)
 (there:∀b o,b∉ch->s.heap.get? b=some o->∃o',h'.get? b=some o')
 (tups:∀b xs,H b=some (.tup xs)->H' b=some (.tup xs)) (frzs:∀b o u,H b=some (.frz o u)->H' b=some (.frz o u)) (tbls:∀b ps l c q,H b=some (.tbl ps l c q)->H' b=some (.tbl ps l c q))
 (ns:∀m,s.heap.Ns X.env.locals m->h'.Ns X.env.locals m) (hok:HOk X.prog X.w H' h') (hg:AllBare g') :
 Inv X pins σ H' { s with heap:=h',gens:=g',drawn:=d',toks:=t' }:=by
 have neL:∀b o,X.s₀.heap.get? b=some o->b≠X.env.locals:=fun b o e=>QQ (QM (Qm e) I.ok.above)
 have neC:∀b o,X.s₀.heap.get? b=some o->b∉X.ex->b∉ch:=fun b o e hx hb=>by
  rcases(hch b hb).1 with z|z
  ·exact hx z
  ·exact absurd (QM (Qm e) z) (GG _)
 have cellK:∀x c,X.env.cells.lookup x=some c->∀v,s.heap.IsCell c v->h'.IsCell c v:=fun x c e v ⟨o,ho,hd⟩=>by
  have nch:c∉ch:=fun z=>(hch c z).2.2.1 x c e rfl
  by_cases hc:c∈X.fs
  ·obtain⟨sl,q⟩:=slot c o (I.cne x c e) hc nch ho (I.freeC x c e);exact⟨_,q,hd⟩
  ·exact⟨o,keep c o (I.cne x c e) hc nch ho (I.freeC x c e),hd⟩
 refine⟨I.ok,I.os,hg,⟨fun b o e n hb hx=>?_,fun b o e n hb hx=>?_,fun b o e n hx=>?_,fun b o e hx=>?_,fun b xs e=>tups b xs (I.base.tups b xs e),fun b o xs e=>frzs b o xs (I.base.frzs b o xs e),fun b ps l c z e=>tbls b ps l c z (I.base.tbls b ps l c z e)⟩,?_,fun x c e=>?_,?_,fun x c e=>?_,fun p hp=>?_,hok,I.len⟩
 ·exact keep b o (neL b o e) hb (neC b o e hx) (I.base.keep b o e n hb hx) (I.base.free b o e n hx)
 ·obtain⟨sl,e1⟩:=I.base.slot b o e n hb hx;obtain⟨sl',e2⟩:=slot b _ (neL b o e) hb (neC b o e hx) e1 (I.base.free b o e n hx);exact⟨sl',e2⟩
 ·obtain⟨o',e1⟩:=I.base.there b o e hx;exact free b o' (neC b o e hx) e1 (I.base.free b o e n hx)
 ·obtain⟨o',e1⟩:=I.base.there b o e hx;exact there b o' (neC b o e hx) e1
 ·obtain⟨m,hn,hl⟩:=I.loc;refine⟨m,ns m hn,fun i x v e1 e2 e3=>?_⟩;obtain⟨u,r,l⟩:=hl i x v e1 e2 e3;refine⟨u,r,?_⟩;rcases l with l|⟨k,c,e,z⟩
  ·exact .inl l
  ·exact .inr ⟨k,c,e,cellK x c e _ z⟩
 ·obtain⟨v,z⟩:=I.cell x c e;exact⟨v,cellK x c e v z⟩
 ·obtain⟨m,⟨o,_,_,ho,_⟩,_⟩:=I.loc;exact free _ o (fun z=>(hch _ z).2.1 rfl) ho I.free
 ·obtain⟨v,o,ho,hd⟩:=I.cell x c e;exact free c o (fun z=>(hch c z).2.2.1 x c e rfl) ho (I.freeC x c e)
 ·obtain⟨e,n,ne,nf,d⟩:=I.pin p hp;have nch:p.1∉ch:=fun z=>(hch p.1 z).2.2.2 p hp rfl
  exact⟨keep p.1 p.2 ne nf nch e n,free p.1 p.2 nch e n,ne,nf,d⟩
theorem Inv.un{t':Nat}(I:Inv X pins σ H s)(u:Un X.fs [] H H' s.heap h')(hok:HOk X.prog X.w H' h'):Inv X pins σ H' { s with heap:=h',toks:=t' }:=by
 obtain⟨m,⟨o,es,ep,ho,r⟩,_⟩:=id I.loc;obtain⟨sl,hL⟩:=u.any ho I.free (by simp);exact I.step (g':=s.gens) (d':=s.drawn) (ch:=[]) (fun _ z=>nomatch z) (fun b o _ hb _ e n=>u.keep b o e n hb (by simp)) (fun b o _ hb _ e n=>u.slot b o e n hb (by simp)) (fun b o _ e n=>u.free b o e n (by simp)) (fun b o _ e=>u.there b o e (by simp)) u.tups u.frzs u.tbls (fun m' hm=>by obtain⟨o',es',ep',ho',r'⟩:=hm;rw[ho] at ho';cases ho';exact⟨_,es',ep',hL,r'⟩) hok I.bare
theorem Inv.call{g':Array GenState}{t':Nat}{d':Drawn}{ch:List Qd}(I:Inv X pins σ H s)(u:Un (frs X.stack) ch H H' s.heap h')(hok:HOk X.prog X.w H' h')(hg:AllBare g')
 (hch:∀b∈ch,(b∈X.ex\/X.s₀.heap.objs.size<=b)/\b≠X.env.locals/\(∀x c,X.env.cells.lookup x=some c->c≠b)/\∀p∈X.pn++pins,p.1≠b) :
 Inv X pins σ H' { s with heap:=h',gens:=g',drawn:=d',toks:=t' }:=by
 obtain⟨m,⟨o,es,ep,ho,r⟩,_⟩:=id I.loc;obtain⟨sl,hL⟩:=u.any ho I.free fun z=>(hch _ z).2.1 rfl
 exact I.step (ch:=ch) hch (fun b o hL hb hc e n=>u.keep b o e n (fun z=>(Qp.mp (I.stkSub b z)).elim hL hb) hc) (fun b o _ _ hc e n=>u.any e n hc) (fun b o hc e n=>u.free b o e n hc) (fun b o hc e=>u.there b o e hc) u.tups u.frzs u.tbls (fun m' hm=>by obtain⟨o',es',ep',ho',r'⟩:=hm;rw[ho] at ho';cases ho';exact⟨_,es',ep',hL,r'⟩) hok hg
theorem Inv.turned{t':Nat}{it:Qd}(I:Inv X pins σ H s)(k:∀b o,b≠it->s.heap.get? b=some o->h'.get? b=some o)(hn:H it=none)(hL:it≠X.env.locals)
 (h1:it∈X.ex\/X.s₀.heap.objs.size<=it) (h2:∀x c,X.env.cells.lookup x=some c->c≠it) (h3:∀p∈X.pn++pins,p.1≠it):Inv X pins σ H { s with heap:=h',toks:=t' }:=by
 have nit:∀b u,H b=some u->b≠it:=fun b u e z=>by rw[z,hn] at e;cases e
 refine I.step (g':=s.gens) (d':=s.drawn) (ch:=[it]) (fun b hb=>?_) (fun b o _ _ hc e _=>k b o (fun z=>hc (by simp[z])) e) (fun b o _ _ hc e _=>⟨o.slots,k b o (fun z=>hc (by simp[z])) e⟩) (fun _ _ _ _ n=>n)
  (fun b o hc e=>⟨o,k b o (fun z=>hc (by simp[z])) e⟩) (fun _ _ e=>e) (fun _ _ _ e=>e) (fun _ _ _ _ _ e=>e) (fun m hm=>?_) (fun b u e=>?_) I.bare
 ·have e:b=it:=by simpa using hb
  subst e;exact⟨h1,hL,h2,h3⟩
 ·obtain⟨o,es,ep,ho,r⟩:=hm;exact⟨o,es,ep,k _ o (QY hL) ho,r⟩
 ·refine(I.hok b u e).stay (fun c v hc q=>k c v ?_ q) (fun _ q=>q) fun _ _ q=>q
  grind
theorem Inv.tok(I:Inv X pins σ H s)(t:Nat):Inv X pins σ H { s with toks:=t }:=I.un (h':=s.heap) (t':=t) Un.refl I.hok
theorem Inv.kept{t':Nat}(I:Inv X pins σ H s)(k:∀b u,s.heap.get? b=some u->h'.get? b=some u):Inv X pins σ H { s with heap:=h',toks:=t' }:=I.un (Un.kept k) (I.hok.kept k)
theorem Inv.laid{a:Qd}{o:HO}{t':Nat}(I:Inv X pins σ H s)(k:∀b u,s.heap.get? b=some u->h'.get? b=some u)(hp:s.heap.objs.size<=a)(new:ObjOk X.prog X.w (upd H a o) h' a o) :
 Inv X pins σ (upd H a o) { s with heap:=h',toks:=t' }:=I.un (Un.laid k hp (I.hok.fresh hp)) (I.hok.laid k hp new)
theorem Inv.write{x e:Qd}{o:HO}{t':Nat}(I:Inv X pins σ H s)(mu:Mut (H x))(he:e=x\/H e=some (.own x))(k:∀b u,b≠e->s.heap.get? b=some u->h'.get? b=some u)(heo:∃u,h'.get? e=some u)
 (new:ObjOk X.prog X.w (upd H x o) h' x o):Inv X pins σ (upd H x o) { s with heap:=h',toks:=t' }:=I.un (Un.write mu he k heo) (I.hok.write mu he k heo new)
theorem Inv.pins_of{pins':List (Qd×Obj)}(I:Inv X pins σ H s)(h:∀p∈pins',s.heap.get? p.1=some p.2/\H p.1=none/\p.1≠X.env.locals/\p.1∉X.fs/\∀v,p.2.data≠.cell v):Inv X pins' σ H s :=
 ⟨I.ok,I.os,I.bare,I.base,I.loc,I.cell,I.free,I.freeC,fun p hp=>(Go.mp hp).elim (fun z=>I.pin p (K3 _ z)) (h p),I.hok,I.len⟩

theorem Jfs{N:List Str}(hN:N.Nodup){i j:Nat}{x:Str}(a:N[i]?=some x)(b:N[j]?=some x):i=j:=by obtain⟨h1,e1⟩:=Qn.mp a;obtain⟨h2,e2⟩:=Qn.mp b;exact(List.getElem_inj hN).mp (e1.trans e2.symm)

theorem Jc8{M:Model}{A:QI}{E:Qc->Qe->Prop}{i:Nat}{x:Str}{v:V}{u:Qc}{Q:Unit->Qe->Prop}(I:Inv X pins σ H s)(hN:X.N.Nodup)(hi:X.N[i]?=some x)(hx:Loc X.env.scope x)(r:RelV v u)
 (h:∀s',Inv X pins (σ.set i (some v)) H s'->(∃a,Qy a s.heap s'.heap/\(a=X.env.locals\/X.env.cells.lookup x=some a))->Q () s') (hf:X.fn x=true\/X.env.scope.names.lookup x=some .local:=by first|exact .inl rfl|exact .inr rfl|assumption):wpAny M A (storeName X.env x u) Q E s:=by
 obtain⟨m,hn,hl⟩:=id I.loc;have hcls:(X.env.scope.kind == .class || (X.env.scope.kind == .module && X.env.locals != X.env.globals))=false:=by rw[I.ok.kind];rfl
 have hiσ:i<σ.length:=by rw[I.len];exact(Qn.mp hi).1
 have cne:=I.cne
 have tracked:∀{a:Qd} {h':Q0},(∃o,s.heap.get? a=some o/\H a=none)->Qy a s.heap h'->HOk X.prog X.w H h':=fun {a h'} ha hs b ob e=>by
  obtain⟨_,_,hfree⟩:=ha;refine(I.hok b ob e).stay (fun c w' hc q=>(hs.2 c ?_).trans q) (fun _ q=>q) fun _ _ q=>q
  grind
 rcases hx with hk|hk
 ·refine wpAny_storeName_local hk hn (fun h' hn' hs=>?_) hcls;obtain⟨oL,_,_,hoL,_⟩:=id hn;refine h _ ⟨I.ok,I.os,I.bare,⟨fun b o e n hb hx=>?_,fun b o e n hb hx=>?_,I.base.free,fun b o e hx=>?_,I.base.tups,I.base.frzs,I.base.tbls⟩,⟨_,hn',fun j y v' e1 e2 e3=>?_⟩,fun y c e=>?_,I.free,I.freeC,fun p hp=>?_,tracked ⟨oL,hoL,I.free⟩ hs,by simpa using I.len⟩ ⟨_,hs,.inl rfl⟩
  ·exact(hs.2 b (QQ (QM (Qm e) I.ok.above))).trans (I.base.keep b o e n hb hx)
  ·obtain⟨sl,e1⟩:=I.base.slot b o e n hb hx;exact⟨sl,(hs.2 b (QQ (QM (Qm e) I.ok.above))).trans e1⟩
  ·obtain⟨o',e1⟩:=I.base.there b o e hx;exact⟨o',(hs.2 b (QQ (QM (Qm e) I.ok.above))).trans e1⟩
  ·by_cases hj:j=i
   ·subst hj;rw[hi] at e1;cases e1;rw[MT hiσ] at e2;cases e2;exact⟨u,r,.inl ⟨hk,by simp⟩⟩
   ·rw[Rl (QY hj)] at e2;obtain⟨u',r',q⟩:=hl j y v' e1 e2 e3;refine⟨u',r',?_⟩;rcases q with ⟨k,e⟩|⟨k,c,e,z⟩
    ·refine .inl ⟨k,?_⟩;have:y≠x:=fun e=>hj (Jfs hN e1 (e▸hi))
     simp[this,e]
    ·exact .inr ⟨k,c,e,z.sameBut hs (cne y c e)⟩
  ·obtain⟨w',z⟩:=I.cell y c e;exact⟨w',z.sameBut hs (cne y c e)⟩
  ·obtain⟨e,n,ne,nf,d⟩:=I.pin p hp;exact⟨(hs.2 p.1 ne).trans e,n,ne,nf,d⟩
 ·have hfn:X.fn x=true:=by simp_all
  obtain⟨c,hc⟩:=I.ok.has x (.inl hk);obtain⟨w',z⟩:=I.cell x c hc;refine wpAny_storeName_cell I.ok.kind hk hc z (fun h' hc' hs=>?_);obtain⟨oc,hoc,hocd⟩:=id z;refine h { s with heap:=h' } ⟨I.ok,I.os,I.bare,⟨fun b o e n hb hx=>?_,fun b o e n hb hx=>?_,I.base.free,fun b o e hx=>?_,I.base.tups,I.base.frzs,I.base.tbls⟩,⟨m,hn.sameBut hs (QY (cne x c hc)),fun j y v' e1 e2 e3=>?_⟩,fun y c' e=>?_,I.free,I.freeC,fun p hp=>?_,tracked ⟨oc,hoc,I.freeC x c hc⟩ hs,by simpa using I.len⟩ ⟨c,hs,.inr hc⟩
  ·exact(hs.2 b (QQ (QM (Qm e) (I.ok.cab x c hfn hc)))).trans (I.base.keep b o e n hb hx)
  ·obtain⟨sl,e1⟩:=I.base.slot b o e n hb hx;exact⟨sl,(hs.2 b (QQ (QM (Qm e) (I.ok.cab x c hfn hc)))).trans e1⟩
  ·obtain⟨o',e1⟩:=I.base.there b o e hx;exact⟨o',(hs.2 b (QQ (QM (Qm e) (I.ok.cab x c hfn hc)))).trans e1⟩
  ·by_cases hj:j=i
   ·subst hj;rw[hi] at e1;cases e1;rw[MT hiσ] at e2;cases e2;exact⟨u,r,.inr ⟨.inl hk,c,hc,hc'⟩⟩
   ·rw[Rl (QY hj)] at e2;obtain⟨u',r',q⟩:=hl j y v' e1 e2 e3;refine⟨u',r',?_⟩;rcases q with q|⟨k,c',e,z'⟩
    ·exact .inl q
    ·refine .inr ⟨k,c',e,z'.sameBut hs ?_⟩;rintro rfl;exact hj (Jfs hN e1 (I.ok.inj _ _ _ e hc▸hi))
  ·by_cases hcc:c'=c
   ·grind
   ·obtain⟨w2,z2⟩:=I.cell y c' e;exact⟨w2,z2.sameBut hs hcc⟩
  ·obtain⟨e,n,ne,nf,d⟩:=I.pin p hp;refine⟨(hs.2 p.1 ?_).trans e,n,ne,nf,d⟩
   grind
theorem Jca{M:Model}{A:QI}{E:Qc->Qe->Prop}{i:Nat}{x:Str}{v:V}{u:Qc}{Q:Unit->Qe->Prop}(I:Inv X pins σ H s)(hN:X.N.Nodup)(hi:X.N[i]?=some x)(hx:Loc X.env.scope x)(r:RelV v u)
 (h:∀s',Inv X pins (σ.set i (some v)) H s'->Q () s') (hf:X.fn x=true\/X.env.scope.names.lookup x=some .local:=by first|exact .inl rfl|exact .inr rfl|assumption):wpAny M A (storeName X.env x u) Q E s :=
 Jc8 I hN hi hx r (fun s' I' _=>h s' I') hf
theorem Inv.call'{s':Qe}{ch:List Qd}(I:Inv X pins σ H s)(ho:s'.os=s.os)(u:Un (frs X.stack) ch H H' s.heap s'.heap)(hok:HOk X.prog X.w H' s'.heap)(hg:AllBare s'.gens)
 (hch:∀b∈ch,(b∈X.ex\/X.s₀.heap.objs.size<=b)/\b≠X.env.locals/\(∀x c,X.env.cells.lookup x=some c->c≠b)/\∀p∈X.pn++pins,p.1≠b):Inv X pins σ H' s':=by
 obtain⟨h',g',d',t',o'⟩:=s';have e:o'=s.os:=ho;subst e;exact I.call (g':=g') (t':=t') (d':=d') u hok hg hch
end

noncomputable abbrev XK:=Qc->Option Qd->Hp->Prop
noncomputable abbrev St:=List (Option V)
noncomputable abbrev VK:=V->Hp->Prop
noncomputable abbrev TE:=St->Hp->VK->Prop
noncomputable abbrev TT:=St->Hp->(Bool->Hp->Prop)->Prop
noncomputable abbrev TA:=St->Hp->(List V->Hp->Prop)->Prop
structure Ends where
 nx:St->Hp->Prop
 rt:VK
 bk:St->Hp->Prop:=fun _ _=>False
 ct:St->Hp->Prop:=fun _ _=>False
noncomputable abbrev TS:=Ends->St->Hp->Prop

noncomputable def EP(X:Cx)(pins:List (Qd×Obj))(σ:St)(Q:VK)(u:Qc)(s':Qe):Prop:=∃v H',Inv X pins σ H' s'/\RelV v u/\Q v H'
noncomputable def TP(X:Cx)(pins:List (Qd×Obj))(σ:St)(Q:Bool->Hp->Prop)(b:Bool)(s':Qe):Prop:=∃H',Inv X pins σ H' s'/\Q b H'
noncomputable def AP(X:Cx)(pins:List (Qd×Obj))(σ:St)(Q:List V->Hp->Prop)(us:List Qc)(s':Qe):Prop:=∃vs H',Inv X pins σ H' s'/\Vals vs us/\Q vs H'
noncomputable def SP(X:Cx)(pins:List (Qd×Obj))(D:Ends)(f:Flow)(s':Qe):Prop :=
 match f with
 | .next=>∃σ' H',Inv X pins σ' H' s'/\D.nx σ' H'
 | .brk=>∃σ' H',Inv X pins σ' H' s'/\D.bk σ' H'
 | .cont=>∃σ' H',Inv X pins σ' H' s'/\D.ct σ' H'
 | .ret u=>∃v σ' H',Inv X pins σ' H' s'/\RelV v u/\D.rt v H'

noncomputable def PE(X:Cx)(e:Q4)(t:TE):Prop :=
 ∀(pins:List (Qd×Obj)) (s:Qe) (σ:St) (H:Hp) (Q:VK),Inv X pins σ H s->t σ H Q->wpAny (model X.prog X.w) X.A (eval e X.env) (EP X pins σ Q) X.xe s
noncomputable def PT(X:Cx)(e:Q4)(t:TT):Prop :=
 ∀(pins:List (Qd×Obj)) (s:Qe) (σ:St) (H:Hp) (Q:Bool->Hp->Prop),Inv X pins σ H s->t σ H Q->wpAny (model X.prog X.w) X.A (isTrue e X.env (eval e X.env)) (TP X pins σ Q) X.xe s
noncomputable def PW(X:Cx)(e:Q4)(t:TT):Prop :=
 ∀(whole:Sem Qc) (pins:List (Qd×Obj)) (s:Qe) (σ:St) (H:Hp) (Q:Bool->Hp->Prop),Inv X pins σ H s->t σ H Q->wpAny (model X.prog X.w) X.A (isTrue e X.env whole) (TP X pins σ Q) X.xe s
theorem PW.pt{X:Cx}{e:Q4}{t:TT}(h:PW X e t):PT X e t:=h _
noncomputable def PA(X:Cx)(es:List Q4)(t:TA):Prop :=
 ∀(pos:Pos) (pins:List (Qd×Obj)) (s:Qe) (σ:St) (H:Hp) (Q:List V->Hp->Prop),Inv X pins σ H s->t σ H Q->wpAny (model X.prog X.w) X.A (spliced (backTo pos (starEach es X.env))) (AP X pins σ Q) X.xe s
noncomputable def PS(X:Cx)(st:GB)(t:TS):Prop :=
 ∀(pins:List (Qd×Obj)) (s:Qe) (σ:St) (H:Hp) (D:Ends),Inv X pins σ H s->t D σ H->wpAny (model X.prog X.w) X.A (exec st X.env) (SP X pins D) X.xe s
noncomputable def PSs(X:Cx)(st:List GB)(t:TS):Prop :=
 ∀(pins:List (Qd×Obj)) (s:Qe) (σ:St) (H:Hp) (D:Ends),Inv X pins σ H s->t D σ H->wpAny (model X.prog X.w) X.A (execs st X.env) (SP X pins D) X.xe s
theorem thn{α:Type}{t:Sem α}{Q Q':α->Qe->Prop}{M:Model}{A:QI}{E:Qc->Qe->Prop}{s:Qe}(h:wpAny M A t Q E s)(hQ:∀a s,Q a s->Q' a s):wpAny M A t Q' E s:=K4 h hQ fun _ _ x=>x
end L2

namespace L2
open PySem PySem.Spec PyProof.Rows
section
variable{X:Cx}

noncomputable def Wi(i:Nat):TE:=fun σ H Q=>∃v,σ[i]?=some (some v)/\Q v H
noncomputable def tC(v:V):TE:=fun _ H Q=>Q v H
theorem JqD{i:Nat}{x:Str}{pos:Pos}(hN:X.N[i]?=some x)(hv:Vis X.env.scope x)(hd:(x == ("__debug__":Str))=false:=by decide)(hcd:(x == ("__classdict__":Str))=false:=by decide):PE X (.Name x pos) (Wi i):=by
 intro pins s σ H Q I h;obtain⟨v,e,h⟩:=h;obtain⟨m,hn,hl⟩:=I.loc;obtain⟨u,r,l⟩:=hl i x v hN e hv;have fin:EP X pins σ Q u s:=⟨v,H,I,r,h⟩
 rcases l with ⟨hk,hm⟩|⟨hk,c,hc,hcell⟩
 ·exact wpAny_Name (wpAny_loadName_local I.ok.kind hk hn hm fin) hd
 ·rcases hk with hk|hk
  ·exact wpAny_Name (wpAny_loadName_cell I.ok.kind hk hc hcell fin) hd
  ·exact wpAny_Name (wpAny_loadName_free I.ok.kind hk hc hcell fin hcd) hd
theorem Ji{i j pos}:PE X (.Constant (.int i) j pos) (tC (.int i)):=fun _ _ _ H _ I h=>wpAny_Constant_int ⟨.int i,H,I.tok _,⟨_,rfl⟩,h⟩
theorem JbT{b j pos}:PE X (.Constant (.bool b) j pos) (tC (.bl b)):=fun _ _ _ H _ I h=>Constant_bool ⟨.bl b,H,I,rfl,h⟩
theorem JU{j pos}:PE X (.Constant .none j pos) (tC .non):=fun _ _ _ H _ I h=>Constant_none ⟨.non,H,I,rfl,h⟩
theorem JQ{x j pos}:PE X (.Constant (.str x) j pos) (tC (.str x)):=fun _ _ _ H _ I h=>Calls.Constant_str ⟨.str x,H,I.tok _,⟨_,rfl⟩,h⟩

noncomputable def Gl(X:Cx)(x:Str):Prop:=X.env.kindOf x=some .globalImplicit
theorem JdU{E:Qc->Qe->Prop}{pins:List (Qd×Obj)}{s:Qe}{σ:St}{H:Hp}{x:Str}{u:Qc}{pos:Pos}{Q:Qc->Qe->Prop}(I:Inv X pins σ H s)(hg:Gl X x)(hm:X.mg x=some u)(h:Q u s)
 (hd:(x == ("__debug__":Str))=false:=by decide):wpAny (model X.prog X.w) X.A (eval (.Name x pos) X.env) Q E s :=
 L9 I.ok.kind hg (Calls.loadGlobal_global (by rw[I.ok.glob];exact I.mod.glob.keeps I.bk) hm h) hd
theorem Vb{E:Qc->Qe->Prop}{pins:List (Qd×Obj)}{s:Qe}{σ:St}{H:Hp}{x:Str}{u:Qc}{pos:Pos}{Q:Qc->Qe->Prop}(I:Inv X pins σ H s)(hg:Gl X x)(hm:X.mg x=none)(hv:bootBuiltins x=some u)(h:Q u s)
 (hn:x≠"__name__":=by decide) (hd:(x == ("__debug__":Str))=false:=by decide):wpAny (model X.prog X.w) X.A (eval (.Name x pos) X.env) Q E s:=by
 obtain⟨mb,h1,h2⟩:=I.mod.blt;exact L9 I.ok.kind hg (Calls.loadGlobal_builtin (by rw[I.ok.glob];exact I.mod.glob.keeps I.bk) hm (by rw[I.ok.blt];exact h1.keeps I.bk) ((h2 x hn).trans hv) h) hd
theorem JnF{x:Str}{v:V}{u:Qc}{pos:Pos}(hg:Gl X x)(hm:X.mg x=some u)(r:RelV v u)(hd:(x == ("__debug__":Str))=false:=by decide):PE X (.Name x pos) (tC v) :=
 fun _ _ _ H _ I h=>JdU I hg hm ⟨v,H,I,r,h⟩ hd
variable{a b:Q4}{ta tb:TE}{pos:Pos}
variable{tA tB':TT}{rest:List Q4}
noncomputable def Jrk(t u:TT):TT:=fun σ H Q=>t σ H fun c H1=>if c=true then u σ H1 Q else Q false H1
noncomputable def tOr(t u:TT):TT:=fun σ H Q=>t σ H fun c H1=>if c=true then Q true H1 else u σ H1 Q
noncomputable def Jrl(t:TT):TT:=fun σ H Q=>t σ H fun c H1=>Q (!c) H1
theorem UY(ha:PT X a tA):PW X (.BoolOp .And [a] pos) tA:=by
 intro wh pins s σ H Q I h;refine isTrue_and (thn (ha pins s σ H Q I h) fun c s1 e=>?_)
 cases c with
 | true=>exact isTrue_and_nil e
 | false=>exact e
theorem Jao(ha:PT X a tA):PW X (.BoolOp .Or [a] pos) tA:=by
 intro wh pins s σ H Q I h;refine isTrue_or (thn (ha pins s σ H Q I h) fun c s1 e=>?_)
 cases c with
 | false=>exact isTrue_or_nil e
 | true=>exact e
theorem V0(ha:PT X a tA)(hb:PW X (.BoolOp .And (b::rest) pos) tB'):PW X (.BoolOp .And (a::b::rest) pos) (Jrk tA tB'):=by
 intro wh pins s σ H Q I h;refine isTrue_and (thn (ha pins s σ H _ I h) fun c s1 ⟨H1,I1,q1⟩=>?_)
 cases c with
 | true=>exact hb wh pins s1 σ H1 Q I1 q1
 | false=>exact⟨H1,I1,q1⟩
theorem JaL(ha:PT X a tA)(hb:PW X (.BoolOp .Or (b::rest) pos) tB'):PW X (.BoolOp .Or (a::b::rest) pos) (tOr tA tB'):=by
 intro wh pins s σ H Q I h;refine isTrue_or (thn (ha pins s σ H _ I h) fun c s1 ⟨H1,I1,q1⟩=>?_)
 cases c with
 | true=>exact⟨H1,I1,q1⟩
 | false=>exact hb wh pins s1 σ H1 Q I1 q1
theorem JbW(ha:PT X a tA):PT X (.UnaryOp .Not a pos) (Jrl tA):=by intro pins s σ H Q I h;exact isTrue_not (ha pins s σ H (fun c H1=>Q (!c) H1) I h)
noncomputable def tIf(t:TT)(ta tb:TE):TE:=fun σ H Q=>t σ H fun c H1=>if c=true then ta σ H1 Q else tb σ H1 Q
theorem UK{c:Q4}(hc:PT X c tA)(ha:PE X a ta)(hb:PE X b tb):PE X (.IfExp c a b pos) (tIf tA ta tb):=by
 intro pins s σ H Q I h;refine wpAny_IfExp (thn (hc pins s σ H _ I h) fun d s1 ⟨H1,I1,q1⟩=>?_)
 cases d with
 | true=>exact ha pins s1 σ H1 Q I1 q1
 | false=>exact hb pins s1 σ H1 Q I1 q1
end
end L2

namespace L2
open PySem PySem.Spec PyProof.Rows

noncomputable def SqL(K:Qw)(H:Hp)(a:Qd)(xs:List V):Prop :=
 Rd H a (.lst xs) ∨
  ∃(o:Obj) (its:Array Qc) (n:Nat),K.lookup a=some o/\o.cls=.type "list"/\o.dict=none/\o.data=.seq its n/\its.size<=Qq/\Vals xs its.toList
noncomputable def SqT(K:Qw)(H:Hp)(a:Qd)(xs:List V):Prop :=
 Rd H a (.tup xs) ∨
  ∃(o:Obj) (its:Array Qc) (n:Nat),K.lookup a=some o/\o.cls=.type "tuple"/\o.data=.seq its n/\its.size<=Qq/\Vals xs its.toList
noncomputable def Js1:Qc->Option V
 | .none=>some .non
 | .bool b=>some (.bl b)
 | .int i _=>some (.int i)
 | .str x _=>some (.str x)
 | .bytes b _=>some (.byt b)
 | .float b _=>some (.flt b)
 | .ref a=>some (.ref a)
 | .type n=>some (.ty n)
 | _=>none
theorem RelV.abs{x:V}{u:Qc}(r:RelV x u):Js1 u=some x:=by
 cases x with
 | non=>cases r;rfl
 | bl _=>cases r;rfl
 | int _=>obtain⟨t,rfl⟩:=r;rfl
 | str _=>obtain⟨t,rfl⟩:=r;rfl
 | byt _=>obtain⟨t,rfl⟩:=r;rfl
 | flt _=>obtain⟨t,rfl⟩:=r;rfl
 | ref _=>cases r;rfl
 | ty _=>cases r;rfl
theorem RelV.inj{x y:V}{u:Qc}(r:RelV x u)(q:RelV y u):x=y:=QV (r.abs.symm.trans q.abs)
theorem Vals.inj:∀{xs ys:List V} {us:List Qc},Vals xs us->Vals ys us->xs=ys
 | _,_,_,.nil,.nil=>rfl
 | _,_,_,.cons r t,.cons r' t'=>by rw[r.inj r',Vals.inj t t']
section
variable{X:Cx}{pins:List (Qd×Obj)}{σ:St}{H:Hp}{s:Qe}{a:Qd}{xs ys:List V}
theorem SqL.of{K:Qw}(h:H a=some (.lst xs)):SqL K H a xs:=.inl (.inl h)
theorem SqT.of{K:Qw}(h:H a=some (.tup xs)):SqT K H a xs:=.inl (.inl h)
theorem Inv.list(I:Inv X pins σ H s)(h:SqL X.K H a xs):∃its:List Qc,Vals xs its/\PlainL s.heap a its.toArray/\xs.length<=Qq:=by
 rcases h with h|⟨o,its,n,hk,hc,hd,hs,hz,r⟩
 ·obtain⟨z,its,n,r,e⟩:=h.ok I.hok;exact⟨its,r,⟨_,n,e,rfl,rfl,rfl⟩,z⟩
 ·refine⟨its.toList,r,⟨o,n,I.kIn a o hk,hc,hd,by simpa using hs⟩,?_⟩;have e:=r.length
  simp_all
theorem Inv.tuple(I:Inv X pins σ H s)(h:SqT X.K H a xs):∃its:List Qc,Vals xs its/\IsTup s.heap a its.toArray/\xs.length<=Qq:=by
 rcases h with h|⟨o,its,n,hk,hc,hs,hz,r⟩
 ·obtain⟨z,its,r,p⟩:=h.ok I.hok;exact⟨its,r,p,z⟩
 ·refine⟨its.toList,r,⟨o,I.kIn a o hk,hc,n,by simpa using hs⟩,?_⟩;have e:=r.length
  simp_all
theorem Inv.list_inj(I:Inv X pins σ H s)(h:SqL X.K H a xs)(h':SqL X.K H a ys):xs=ys:=by
 obtain⟨its,r,⟨o,n,e,_,_,d⟩,_⟩:=I.list h;obtain⟨its',r',⟨o',n',e',_,_,d'⟩,_⟩:=I.list h';rw[e] at e';cases e';rw[d] at d'
 injection d' with d1 _
 have:its=its':=by simp_all
 subst this;exact r.inj r'
theorem Inv.tuple_inj(I:Inv X pins σ H s)(h:SqT X.K H a xs)(h':SqT X.K H a ys):xs=ys:=by
 obtain⟨its,r,⟨o,e,_,n,d⟩,_⟩:=I.tuple h;obtain⟨its',r',⟨o',e',_,n',d'⟩,_⟩:=I.tuple h';rw[e] at e';cases e';rw[d] at d'
 injection d' with d1 _
 have:its=its':=by simp_all
 subst this;exact r.inj r'
end

noncomputable abbrev Cx.wish(X:Cx)(E:Qc->Qe->Prop):Cx:={ X with xe:=E }
noncomputable abbrev Cx.nox(X:Cx):Cx:=X.wish fun _ _=>False
theorem Cx.Ok.wish{X:Cx}(ok:X.Ok)(E:Qc->Qe->Prop):(X.wish E).Ok :=
 ⟨ok.mod,ok.kind,ok.glob,ok.blt,ok.above,ok.inj,ok.has,ok.cab,ok.hd,ok.frames,ok.stk,ok.exf,ok.bs,ok.bsz,ok.noex,ok.exfs,ok.funs,ok.frf⟩
theorem Cx.Ok.unwish{X:Cx}{E:Qc->Qe->Prop}(ok:(X.wish E).Ok):X.Ok :=
 ⟨ok.mod,ok.kind,ok.glob,ok.blt,ok.above,ok.inj,ok.has,ok.cab,ok.hd,ok.frames,ok.stk,ok.exf,ok.bs,ok.bsz,ok.noex,ok.exfs,ok.funs,ok.frf⟩
section
variable{X:Cx}{pins:List (Qd×Obj)}{σ:St}{H:Hp}{s:Qe}{E:Qc->Qe->Prop}
theorem Inv.wish(I:Inv X pins σ H s)(E:Qc->Qe->Prop):Inv (X.wish E) pins σ H s:=⟨I.ok.wish E,I.os,I.bare,I.base,I.loc,I.cell,I.free,I.freeC,I.pin,I.hok,I.len⟩
theorem Inv.unwish(I:Inv (X.wish E) pins σ H s):Inv X pins σ H s:=⟨I.ok.unwish,I.os,I.bare,I.base,I.loc,I.cell,I.free,I.freeC,I.pin,I.hok,I.len⟩
theorem SP.unwish{D:Ends}{f:Flow}{s':Qe}(h:SP (X.wish E) pins D f s'):SP X pins D f s':=by
 cases f with
 | next=>obtain⟨σ',H',I,q⟩:=h;exact⟨σ',H',I.unwish,q⟩
 | brk=>obtain⟨σ',H',I,q⟩:=h;exact⟨σ',H',I.unwish,q⟩
 | cont=>obtain⟨σ',H',I,q⟩:=h;exact⟨σ',H',I.unwish,q⟩
 | ret u=>obtain⟨v,σ',H',I,r,q⟩:=h;exact⟨v,σ',H',I.unwish,r,q⟩
theorem PSs.nox{st:List GB}{t:TS}(h:PSs X.nox st t):PSs X st t:=fun pins s σ H D I hw=>K4 (h pins s σ H D (I.wish _) hw) (fun _ _ q=>q.unwish) fun _ _ z=>G8 z
end

section
variable{X:Cx}{st:GB}{rest:List GB}{t u:TS}{e:Q4}{te:TE}{pos:Pos}
noncomputable def Jl5:TS:=fun D σ H=>D.nx σ H
noncomputable def Joq(t u:TS):TS:=fun D σ H=>t { D with nx:=u D } σ H
theorem JF:PSs X [] Jl5:=fun _ _ σ H _ I h=>LS ⟨σ,H,I,h⟩
theorem Jf(h1:PS X st t)(h2:PSs X rest u):PSs X (st::rest) (Joq t u):=by
 intro pins s σ H D I h;refine wpAny_execs_cons (thn (h1 pins s σ H { D with nx:=u D } I h) fun f s1 q=>?_)
 cases f with
 | next=>obtain⟨σ',H',I',q⟩:=q;exact h2 pins s1 σ' H' D I' q
 | ret v=>exact q
 | brk=>exact q
 | cont=>exact q
theorem Jh(h1:PS X st t):PSs X [st] t:=by
 intro pins s σ H D I h;refine wpAny_execs_cons (thn (h1 pins s σ H D I h) fun f s1 q=>?_)
 cases f with
 | next=>exact LS q
 | ret v=>exact q
 | brk=>exact q
 | cont=>exact q
theorem Inv.quiet{pins:List (Qd×Obj)}{σ:St}{H:Hp}{s:Qe}(I:Inv X pins σ H s):interactive X.env=false:=by simp[interactive,I.ok.kind]
noncomputable def ZX(te:TE):TS:=fun D σ H=>te σ H fun _ H1=>D.nx σ H1
theorem Yw(he:PE X e te)(hs:swapsWith e none pos.line X.env=pure false:=by rfl):PS X (.Expr e pos) (ZX te):=by intro pins s σ H D I h;exact wpAny_Expr_any (thn (he pins s σ H _ I h) fun v s1 ⟨x,H1,I1,r1,q1⟩=>⟨σ,H1,I1,q1⟩) I.quiet hs
noncomputable def Jop(te:TE):TS:=fun D σ H=>te σ H D.rt
theorem Jv(he:PE X e te):PS X (.Return (some e) pos) (Jop te):=by intro pins s σ H D I h;exact wpAny_Return_some (thn (he pins s σ H _ I h) fun v s1 ⟨x,H1,I1,r1,q1⟩=>⟨x,σ,H1,I1,r1,q1⟩)
noncomputable def Jon(c:TT)(t u:TS):TS:=fun D σ H=>c σ H fun b H1=>if b=true then t D σ H1 else u D σ H1
theorem J1{c:Q4}{a b:List GB}{tc:TT}(hc:PT X c tc)(ha:PSs X a t)(hb:PSs X b u):PS X (.If c a b pos) (Jon tc t u):=by
 intro pins s σ H D I h;refine wpAny_If (thn (hc pins s σ H _ I h) fun d s1 ⟨H1,I1,q1⟩=>?_)
 cases d with
 | true=>exact ha pins s1 σ H1 D I1 q1
 | false=>exact hb pins s1 σ H1 D I1 q1
noncomputable def Jhn:TS:=fun _ _ _=>False
theorem YM:PS X st Jhn:=fun _ _ _ _ _ _ h=>h.elim
theorem JjC{sts:List GB}:PSs X sts Jhn:=fun _ _ _ _ _ _ h=>h.elim
end

noncomputable abbrev TG:=V->St->Hp->(St->Hp->Prop)->Prop
noncomputable abbrev TGs:=List V->St->Hp->(St->Hp->Prop)->Prop
noncomputable def PG(X:Cx)(target:Q4)(t:TG):Prop :=
 ∀(pins:List (Qd×Obj)) (s:Qe) (σ:St) (H:Hp) (v:V) (u:Qc) (Q:St->Hp->Prop),Inv X pins σ H s->RelV v u->t v σ H Q ->
  wpAny (model X.prog X.w) X.A (assign target X.env u) (fun _ s'=>∃σ' H',Inv X pins σ' H' s'/\Q σ' H') X.xe s
noncomputable def PGs(X:Cx)(ts:List Q4)(t:TGs):Prop :=
 ∀(pins:List (Qd×Obj)) (s:Qe) (σ:St) (H:Hp) (vs:List V) (us:List Qc) (Q:St->Hp->Prop),Inv X pins σ H s->Vals vs us->t vs σ H Q ->
  wpAny (model X.prog X.w) X.A (assignInOrder ((assignEach ts X.env).map (·.2)) us) (fun _ s'=>∃σ' H',Inv X pins σ' H' s'/\Q σ' H') X.xe s
noncomputable abbrev TIp:=V->V->Hp->VK->Prop
noncomputable def PIp(X:Cx)(op:Operator)(t:TIp):Prop :=
 ∀(pins:List (Qd×Obj)) (s:Qe) (σ:St) (H:Hp) (x y:V) (v u:Qc) (Q:VK),Inv X pins σ H s->RelV x v->RelV y u->t x y H Q ->
  wpAny (model X.prog X.w) X.A (inplaceOp op v u) (EP X pins σ Q) X.xe s
section
variable{X:Cx}{pos:Pos}
noncomputable def V8(i:Nat):TG:=fun v σ H Q=>Q (σ.set i (some v)) H
theorem JM{i:Nat}{x:Str}(hN:X.N.Nodup)(hi:X.N[i]?=some x)(hx:Loc X.env.scope x)(hf:X.fn x=true\/X.env.scope.names.lookup x=some .local:=by first|exact .inl rfl|exact .inr rfl|assumption):PG X (.Name x pos) (V8 i):=by intro pins s σ H v u Q I r h;exact wpAny_assign_Name (Jca I hN hi hx r (fun s' I'=>⟨_,H,I',h⟩) hf)
noncomputable def JmY:TGs:=fun vs σ H Q=>vs=[]/\Q σ H
noncomputable def JhZ(t:TG)(u:TGs):TGs:=fun vs σ H Q=>∃v r,vs=v::r/\t v σ H fun σ' H'=>u r σ' H' Q
theorem JS:PGs X [] JmY:=by intro pins s σ H vs us Q I r h;obtain⟨e,h⟩:=h;subst e;cases r;exact assignInOrder_nil ⟨σ,H,I,h⟩
theorem Jo{e:Q4}{es:List Q4}{t:TG}{u:TGs}(h1:PG X e t)(h2:PGs X es u)
 (hs:(assignEach (e::es) X.env).map (·.2)=assign e X.env::(assignEach es X.env).map (·.2):=by rfl):PGs X (e::es) (JhZ t u):=by
 intro pins s σ H vs us Q I r h;obtain⟨v,vr,e1,h⟩:=h;subst e1
 cases r with
 | cons r rr=>rw[hs];refine assignInOrder_cons (thn (h1 pins s σ H _ _ _ I r h) fun _ s1 ⟨σ1,H1,I1,q1⟩=>?_);exact h2 pins s1 σ1 H1 _ _ Q I1 rr q1
noncomputable def Jja(K:Qw)(n:Nat)(t:TGs):TG:=fun v σ H Q=>∃a xs,v=.ref a/\SqT K H a xs/\xs.length=n/\t xs σ H Q
theorem JqE{es:List Q4}{k:Nat}{t:TGs}{n:Nat}(hc:X.calm=true)(h:PGs X es t)
 (hn:(assignEach es X.env).length=n:=by rfl) (hst:(assignEach es X.env).findIdx? (·.1)=none:=by rfl):PG X (.Tuple es k pos) (Jja X.K n t):=by
 intro pins s σ H v u Q I r hw;obtain⟨a,xs,e1,hq,hl,hw⟩:=hw;subst e1;cases r;obtain⟨its,rv,ht,hz⟩:=I.tuple hq;refine assign_Tuple_tuple (I.ok.hd hc) ht (by simp[hn,<- hl,rv.length]) hst fun h' hx=>?_
 have I1:Inv X pins σ H { s with heap:=h' }:=I.kept (t':=s.toks) fun b o e=>hx b o (QQ (Qm e)) e
 exact h pins _ σ H xs _ Q I1 (by simpa using rv) hw
noncomputable def Jex(te:TE)(g:TG):TS:=fun D σ H=>te σ H fun x H1=>g x σ H1 D.nx
theorem JqJ{tg e:Q4}{te:TE}{g:TG}(he:PE X e te)(hg:PG X tg g)(hs:swapsWithSole [tg] e pos.line X.env=pure false:=by rfl)(hw:swappedStores [tg] e X.env=pure none:=by rfl)
 (h1:(assignEach [tg] X.env).map (·.2)=[assign tg X.env]:=by rfl):PS X (.Assign [tg] e pos) (Jex te g):=by
 intro pins s σ H D I h;refine wpAny_Assign_stores (thn (he pins s σ H _ I h) fun v s1 ⟨x,H1,I1,r1,q1⟩=>?_) hs hw;rw[h1];exact thn (hg pins s1 σ H1 x v _ I1 r1 q1) fun _ s2 q=>q
theorem Jg1{i:Nat}{x:Str}{e:Q4}{te:TE}{pos':Pos}(hN:X.N.Nodup)(hi:X.N[i]?=some x)(hx:Loc X.env.scope x)(he:PE X e te)(hs:swapsWith e (some (.Name x pos')) pos.line X.env=pure false:=by rfl)(hf:X.fn x=true\/X.env.scope.names.lookup x=some .local:=by first|exact .inl rfl|exact .inr rfl|assumption) :
 PS X (.Assign [.Name x pos'] e pos) (Jex te (V8 i)):=by
 intro pins s σ H D I h;refine wpAny_Assign_Name (thn (he pins s σ H _ I h) fun v s1 ⟨y,H1,I1,r1,q1⟩=>?_) hs;exact Jca I1 hN hi hx r1 (fun s2 I2=>⟨_,H1,I2,q1⟩) hf
noncomputable def JsP(i:Nat)(te:TE)(ti:TIp):TS:=fun D σ H=>∃x,σ[i]?=some (some x)/\te σ H fun y H1=>ti x y H1 fun z H2=>D.nx (σ.set i (some z)) H2
theorem Jln{i:Nat}{x:Str}{e:Q4}{te:TE}{op:Operator}{ti:TIp}{pos':Pos}(hN:X.N.Nodup)(hi:X.N[i]?=some x)(hx:Loc X.env.scope x)(he:PE X e te)(ho:PIp X op ti)(hf:X.fn x=true\/X.env.scope.names.lookup x=some .local:=by first|exact .inl rfl|exact .inr rfl|assumption) :
 PS X (.AugAssign (.Name x pos') op e pos) (JsP i te ti):=by
 intro pins s σ H D I h;obtain⟨v,e1,h⟩:=h;obtain⟨m,hn,hl⟩:=I.loc;have vis:Vis X.env.scope x:=by rcases hx with k|k;exact .inl k;exact .inr (.inl k)
 obtain⟨u,r,l⟩:=hl i x v hi e1 vis;refine wpAny_AugAssign_Name ?_
 have go:wpAny (model X.prog X.w) X.A (eval e X.env) (fun w s₂=>wpAny (model X.prog X.w) X.A (inplaceOp op u w) (fun r s₃=>wpAny (model X.prog X.w) X.A (storeName X.env x r) (fun _=>SP X pins D .next) X.xe s₃) X.xe s₂) X.xe s:=by
  refine thn (he pins s σ H _ I h) fun w s1 ⟨y,H1,I1,r1,q1⟩=>?_
  refine thn (ho pins s1 σ H1 v y u w _ I1 r r1 q1) fun z s2 ⟨zv,H2,I2,r2,q2⟩=>?_
  exact Jca I2 hN hi hx r2 (fun s3 I3=>⟨_,H2,I3,q2⟩) hf
 rcases l with ⟨hk,hm⟩|⟨hk,c,hc,hcell⟩
 ·exact wpAny_loadName_local I.ok.kind hk hn hm go
 ·rcases hk with hk|hk
  ·exact wpAny_loadName_cell I.ok.kind hk hc hcell go
  ·rcases hx with k|k
   ·have:X.env.scope.names.lookup x=some .free:=hk;rw[k] at this;cases this
   ·have:X.env.scope.names.lookup x=some .free:=hk;rw[k] at this;cases this
noncomputable def ipI(f:Int->Int->Int):TIp:=fun x y H Q=>∃i j,x=.int i/\y=.int j/\Q (.int (f i j)) H
theorem JpP:PIp X .Add (ipI fun i j=>i+j):=by intro pins s σ H x y v u Q I r1 r2 h;obtain⟨i,j,e1,e2,q⟩:=h;subst e1;subst e2;obtain⟨t,rfl⟩:=r1;obtain⟨t',rfl⟩:=r2;exact iadd_int ⟨.int _,H,I.tok _,⟨_,rfl⟩,q⟩
theorem JpQ:PIp X .Sub (ipI fun i j=>i-j):=by intro pins s σ H x y v u Q I r1 r2 h;obtain⟨i,j,e1,e2,q⟩:=h;subst e1;subst e2;obtain⟨t,rfl⟩:=r1;obtain⟨t',rfl⟩:=r2;exact isub_int ⟨.int _,H,I.tok _,⟨_,rfl⟩,q⟩
end

section
variable{X:Cx}{pos:Pos}
noncomputable def Jl7(c:TT)(tb:TS):TS:=fun D σ H=>∃W:Nat->St->Hp->Prop,(∃m,W m σ H)/\∀m σ H,W m σ H ->
 c σ H fun b H1=>if b=true then ∃N:St->Hp->Prop,(∀σ' H',N σ' H'->∃m',m'<m/\W m' σ' H')/\tb { D with nx:=N,ct:=N,bk:=D.nx } σ H1 else D.nx σ H1
theorem JfJ{c:Q4}{body:List GB}{tc:TT}{tb:TS}(hp:PassesOwn (model X.prog X.w) X.A X.env X.xe)(hc:PT X c tc)(hb:PSs X body tb):PS X (.While c body [] pos) (Jl7 tc tb):=by
 intro pins s σ H D I h;obtain⟨W,⟨m0,w0⟩,turn⟩:=h;refine wpAny_While (codeAny_whileLoop (fun n s'=>∃σ' H',Inv X pins σ' H' s'/\W n σ' H') ?_ m0 ⟨σ,H,I,w0⟩);rintro n s1 ⟨σ1,H1,I1,w1⟩;refine Kr hp (thn (hc pins s1 σ1 H1 _ I1 (turn n σ1 H1 w1)) fun b s2 ⟨H2,I2,q2⟩=>?_)
 cases b with
 | true =>
  obtain⟨N,hN,q2⟩:=q2;rw[if_pos rfl];refine Kr hp (thn (hb pins s2 σ1 H2 _ I2 q2) fun f s3 q3=>?_)
  cases f with
  | next=>obtain⟨σ3,H3,I3,n3⟩:=q3;obtain⟨m',hm,w3⟩:=hN σ3 H3 n3;exact⟨m',hm,σ3,H3,I3,w3⟩
  | cont=>obtain⟨σ3,H3,I3,n3⟩:=q3;obtain⟨m',hm,w3⟩:=hN σ3 H3 n3;exact⟨m',hm,σ3,H3,I3,w3⟩
  | brk=>exact q3
  | ret v=>exact q3
 | false=>rw[if_neg QB];exact LS ⟨σ1,H2,I2,q2⟩
end

structure It where
 go:Nat->Hp->Prop
 yld:Nat->Hp->V->Hp->Prop
 stop:Nat->Hp->Prop
noncomputable def FpOk(X:Cx)(pins:List (Qd×Obj))(H:Hp)(b:Qd):Prop :=
 H b=none/\b≠X.env.locals/\b∉X.fs/\(b∈X.ex\/X.s₀.heap.objs.size<=b)/\(∀x c,X.env.cells.lookup x=some c->c≠b)/\∀p∈X.pn++pins,p.1≠b
theorem Inv.fpOk{X:Cx}{pins:List (Qd×Obj)}{σ:St}{H H':Hp}{s:Qe}{b:Qd}(I:Inv X pins σ H s)(hb:s.heap.objs.size<=b)(hn:H' b=none):FpOk X pins H' b:=by
 refine⟨hn,Gc (QM I.lt hb),I.nofs hb,.inr (Gj I.sz hb),fun x c e z=>?_,fun p hp z=>?_⟩
 ·obtain⟨v,q⟩:=I.cell x c e;exact absurd (QM q.lt (by rw[z];exact hb)) (GG _)
 ·exact absurd (QM (Qm (I.pin p hp).1) (by rw[z];exact hb)) (GG _)
structure Turn (P:Qu) (w:QJ) (K:Qw) (tg:Q4) (J:It) (fp:List Qd) (it:Qd) (tn:Nat->Q0->Prop):Prop where
 mem:it∈fp
 obj:∀i h,tn i h->∀b∈fp,∃o,h.get? b=some o/\∀v,o.data≠.cell v
 keep:∀i h h',tn i h->(∀b∈fp,∀o,h.get? b=some o->h'.get? b=some o)->tn i h'
 item:∀(X:Cx),X.prog=P->X.w=w->X.K=K->X.calm=true->∀(i:Nat) (pins:List (Qd×Obj)) (s:Qe) (σ:St) (H:Hp) (E:Qc->Qe->Prop),Inv X pins σ H s->(∀b∈fp,FpOk X pins H b)->tn i s.heap->J.go i H ->
  wpAny (model P w) X.A (pyNext (.ref it)) (fun r s1=>∃u,r=some u ∧
   wpAny (model P w) X.A (letOwnedTupleGo tg (.ref it) u) (fun _ s2=>∃x H',Inv X pins σ H' s2/\RelV x u/\J.yld i H x H'/\tn (i+1) s2.heap/\∀b∈fp,H' b=none) E s1) E s
 done:∀(X:Cx),X.prog=P->X.w=w->X.K=K->X.calm=true->∀(i:Nat) (pins:List (Qd×Obj)) (s:Qe) (σ:St) (H:Hp) (E:Qc->Qe->Prop),Inv X pins σ H s->(∀b∈fp,FpOk X pins H b)->tn i s.heap->J.stop i H ->
  wpAny (model P w) X.A (pyNext (.ref it)) (fun r s1=>r=none/\Inv X pins σ H s1) E s
 self:∀(A:QI) (i:Nat) (s:Qe) (Q:Qc->Qe->Prop) (E:Qc->Qe->Prop),tn i s.heap->Q (.ref it) s->wpAny (model P w) A (pyIter (.ref it)) Q E s
noncomputable abbrev TI:=St->Hp->(It->Hp->Prop)->Prop
noncomputable def PIE(X:Cx)(pins:List (Qd×Obj))(σ:St)(tg:Q4)(R:It->Hp->Prop)(itv:Qc)(s2:Qe):Prop :=
 ∃(it:Qd) (fp:List Qd) (tn:Nat->Q0->Prop) (J:It) (H':Hp),itv=.ref it/\Inv X pins σ H' s2/\Turn X.prog X.w X.K tg J fp it tn/\tn 0 s2.heap/\(∀b∈fp,FpOk X pins H' b)/\R J H'
noncomputable def PI(X:Cx)(tg iter:Q4)(wi:TI):Prop :=
 ∀(pins:List (Qd×Obj)) (s:Qe) (σ:St) (H:Hp) (R:It->Hp->Prop),Inv X pins σ H s->wi σ H R ->
  wpAny (model X.prog X.w) X.A (eval iter X.env) (fun v s1=>wpAny (model X.prog X.w) X.A (pyIter v) (PIE X pins σ tg R) X.xe s1) X.xe s

theorem Jbs{M:Model}{A:QI}{E:Qc->Qe->Prop}{s:Qe}{tg:Q4}{it:Qd}{u:Qc}{o:Obj}{n:String}{vs:Array Qc}{Q:Unit->Qe->Prop}(ho:s.heap.get? it=some o)(hc:o.cls=.type n)(hd:o.data=.fields vs)
 (hn:["enumerate","zip","dict_itemiterator","dict_reverseitemiterator","odict_iterator","itertools.zip_longest","itertools.pairwise"].contains n=false) (hQ:Q () s):wpAny M A (letOwnedTupleGo tg (.ref it) u) Q E s:=by
 unfold letOwnedTupleGo;cases tg <;> first
  | exact Qk hQ
  | (cases u <;> first
   | exact Qk hQ
   | (refine Qa (wpAny_load ho ?_)
      rw[hc,hd];show wpAny M A (if (["enumerate","zip","dict_itemiterator","dict_reverseitemiterator","odict_iterator","itertools.zip_longest","itertools.pairwise"].contains n && vs[0]? == some (rawInt _))=true then _ else _) Q E s;rw[if_neg (by intro h;rw[hn,Bool.false_and] at h;cases h)];exact Qk hQ))

noncomputable def Itl(K:Qw)(a:Qd):It :=
 ⟨fun i H=>∃xs x,SqL K H a xs/\xs[i]?=some x,fun i H x H'=>H'=H/\∀xs,SqL K H a xs->xs[i]?=some x,fun i H=>∃xs,SqL K H a xs/\xs.length<=i⟩
noncomputable def Itt(K:Qw)(a:Qd):It :=
 ⟨fun i H=>∃xs x,SqT K H a xs/\xs[i]?=some x,fun i H x H'=>H'=H/\∀xs,SqT K H a xs->xs[i]?=some x,fun i H=>∃xs,SqT K H a xs/\xs.length<=i⟩
noncomputable def Itr(lo:Int)(n:Nat):It:=⟨fun i _=>i<n,fun i H x H'=>H'=H/\x=.int (lo+i),fun i _=>n<=i⟩
theorem JjQ{P:Qu}{w:QJ}{K:Qw}{tg:Q4}(a it:Qd):Turn P w K tg (Itl K a) [it] it (fun i h=>h.IsListIter it a i) where
 mem:=by simp
 obj:=fun i h st b hb=>by
  have e:b=it:=by simpa using hb
  subst e;obtain⟨o,e,c,d⟩:=st
  simp_all
 keep:=fun i h h' st k=>st.at fun o e=>k it (by simp) o e
 item:=by
  intro X hP hw hK hc i pins s σ H E I hf st hg;subst hP hw hK;obtain⟨xs,x,hq,hx⟩:=hg;obtain⟨its,rv,p,hz⟩:=I.list hq;obtain⟨u,hu,ru⟩:=rv.get hx;obtain⟨f0,f1,f2,f3,f4,f5⟩:=hf it (by simp);refine wpAny_pyNext_list_item st p.isList (x:=u) (by simpa using hu) fun h' st' sb=>?_
  have I1:Inv X pins σ H { s with heap:=h' }:=I.turned (t':=s.toks) (fun b o hb e=>(sb.2 b hb).trans e) f0 f1 f3 f4 f5;obtain⟨o,e,c,d⟩:=id st';exact⟨u,rfl,Jbs (s:={ s with heap:=h' }) e c d (by decide) ⟨x,H,I1,ru,⟨rfl,fun ys hy=>by rw[I.list_inj hy hq];exact hx⟩,st',fun b hb=>(hf b hb).1⟩⟩
 done:=by intro X hP hw hK hc i pins s σ H E I hf st hg;subst hP hw hK;obtain⟨xs,hq,hx⟩:=hg;obtain⟨its,rv,p,hz⟩:=I.list hq;obtain⟨f0,f1,f2,f3,f4,f5⟩:=hf it (by simp);have hl:=rv.length;exact wpAny_pyNext_list_end (I.ok.hd hc) st p.isList (by simp;omega) fun h' eb=>⟨rfl,I.turned (t':=s.toks) (fun b o hb e=>eb b o hb e) f0 f1 f3 f4 f5⟩
 self:=fun _ _ _ _ _ st h=>wpAny_pyIter_listiter st h
theorem Jhq{P:Qu}{w:QJ}{K:Qw}{tg:Q4}(a it:Qd):Turn P w K tg (Itt K a) [it] it (fun i h=>h.IsTupleIter it a i) where
 mem:=by simp
 obj:=fun i h st b hb=>by
  have e:b=it:=by simpa using hb
  subst e;obtain⟨o,e,c,d⟩:=st
  simp_all
 keep:=fun i h h' st k=>st.at fun o e=>k it (by simp) o e
 item:=by
  intro X hP hw hK hc i pins s σ H E I hf st hg;subst hP hw hK;obtain⟨xs,x,hq,hx⟩:=hg;obtain⟨its,rv,p,hz⟩:=I.tuple hq;obtain⟨u,hu,ru⟩:=rv.get hx;obtain⟨f0,f1,f2,f3,f4,f5⟩:=hf it (by simp);refine wpAny_pyNext_tuple_item st (show s.heap.IsTuple a its.toArray from p) (x:=u) (by simpa using hu) fun h' st' sb=>?_
  have I1:Inv X pins σ H { s with heap:=h' }:=I.turned (t':=s.toks) (fun b o hb e=>(sb.2 b hb).trans e) f0 f1 f3 f4 f5;obtain⟨o,e,c,d⟩:=id st';exact⟨u,rfl,Jbs (s:={ s with heap:=h' }) e c d (by decide) ⟨x,H,I1,ru,⟨rfl,fun ys hy=>by rw[I.tuple_inj hy hq];exact hx⟩,st',fun b hb=>(hf b hb).1⟩⟩
 done:=by intro X hP hw hK hc i pins s σ H E I hf st hg;subst hP hw hK;obtain⟨xs,hq,hx⟩:=hg;obtain⟨its,rv,p,hz⟩:=I.tuple hq;obtain⟨f0,f1,f2,f3,f4,f5⟩:=hf it (by simp);have hl:=rv.length;exact wpAny_pyNext_tuple_end (I.ok.hd hc) st (show s.heap.IsTuple a its.toArray from p) (by simp;omega) fun h' eb=>⟨rfl,I.turned (t':=s.toks) (fun b o hb e=>eb b o hb e) f0 f1 f3 f4 f5⟩
 self:=fun _ _ _ _ _ st h=>wpAny_pyIter_tupleiter st h
theorem Jhp{P:Qu}{w:QJ}{K:Qw}{tg:Q4}(it:Qd)(lo:Int)(n:Nat):Turn P w K tg (Itr lo n) [it] it (fun i h=>IsRangeIter h it (lo+(i:Nat)*1) ((n:Int)-(i:Nat)) 1) where
 mem:=by simp
 obj:=fun i h st b hb=>by simp_all
 keep:=fun i h h' st k=>k it (by simp) _ st
 item:=by
  intro X hP hw hK hc i pins s σ H E I hf st hg;subst hP hw hK;obtain⟨f0,f1,f2,f3,f4,f5⟩:=hf it (by simp);have W:=Walks.range (prog:=X.prog) (w:=X.w) (I.ok.hd hc) it lo 1 n;refine W.item i s _ _ hg st fun v h' tk hv st' kk=>?_
  obtain⟨t,rfl⟩:=hv;have I1:Inv X pins σ H { s with heap:=h',toks:=tk }:=I.turned (fun b o hb e=>kk b o (by simpa using hb) e) f0 f1 f3 f4 f5;refine⟨_,rfl,Jbs (s:={ s with heap:=h',toks:=tk }) (n:="range_iterator") st' rfl rfl (by decide) ⟨.int (lo+i),H,I1,⟨t,?_⟩,⟨rfl,rfl⟩,st',fun b hb=>(hf b hb).1⟩⟩;rw[Int.mul_one]
 done:=by intro X hP hw hK hc i pins s σ H E I hf st hg;subst hP hw hK;obtain⟨f0,f1,f2,f3,f4,f5⟩:=hf it (by simp);exact wpAny_pyNext_range_end (I.ok.hd hc) st (by have:n<=i:=hg;omega) fun h' eb=>⟨rfl,I.turned (t':=s.toks) (fun b o hb e=>eb b o hb e) f0 f1 f3 f4 f5⟩
 self:=fun _ _ _ _ _ st h=>wpAny_pyIter_rangeiter st h
end L2

namespace L2
open PySem PySem.Spec PyProof.Rows
section
variable{X:Cx}{tg:Q4}
noncomputable def JoK(K:Qw)(tl:TE):TI:=fun σ H R=>tl σ H fun x H1=>∃a,x=.ref a/\(∃xs,SqL K H1 a xs)/\R (Itl K a) H1
noncomputable def Jr4(K:Qw)(tl:TE):TI:=fun σ H R=>tl σ H fun x H1=>∃a,x=.ref a/\(∃xs,SqT K H1 a xs)/\R (Itt K a) H1
theorem JnI{l:Q4}{tl:TE}(hl:PE X l tl):PI X tg l (JoK X.K tl):=by
 intro pins s σ H R I h;refine thn (hl pins s σ H _ I h) fun v s1 ⟨x,H1,I1,r1,q1⟩=>?_
 obtain⟨a,e,⟨xs,hq⟩,q⟩:=q1;subst e;cases r1;obtain⟨its,rv,p,hz⟩:=I1.list hq;refine Mr p.isList ?_;refine⟨s1.heap.objs.size,[s1.heap.objs.size],_,_,H1,rfl,I1.kept (t':=s1.toks) fun b o e=>Qf _ e,JjQ a _,⟨_,Qj _ rfl,rfl,rfl⟩,fun b hb=>?_,q⟩;have e:b=s1.heap.objs.size:=by simpa using hb
 subst e;exact I1.fpOk (Qo _) (I1.hok.fresh (Qo _))
theorem JqG{l:Q4}{tl:TE}(hl:PE X l tl):PI X tg l (Jr4 X.K tl):=by
 intro pins s σ H R I h;refine thn (hl pins s σ H _ I h) fun v s1 ⟨x,H1,I1,r1,q1⟩=>?_
 obtain⟨a,e,⟨xs,hq⟩,q⟩:=q1;subst e;cases r1;obtain⟨its,rv,p,hz⟩:=I1.tuple hq;refine Ma (show s1.heap.IsTuple a its.toArray from p) ?_;refine⟨s1.heap.objs.size,[s1.heap.objs.size],_,_,H1,rfl,I1.kept (t':=s1.toks) fun b o e=>Qf _ e,Jhq a _,⟨_,Qj _ rfl,rfl,rfl⟩,fun b hb=>?_,q⟩;have e:b=s1.heap.objs.size:=by simpa using hb
 subst e;exact I1.fpOk (Qo _) (I1.hok.fresh (Qo _))
theorem Jly{pins:List (Qd×Obj)}{σ:St}{H:Hp}{s:Qe}{R:It->Hp->Prop}{E:Qc->Qe->Prop}{lo hi:Int}{t u v:Tok}{tk:Nat}(I:Inv X pins σ H s)(h1:-(2 ^ 62)<=lo)(h2:lo<2 ^ 62)(h3:-(2 ^ 62)<=hi)(h4:hi<2 ^ 62)
 (q:R (Itr lo (hi-lo).toNat) H):wpAny (model X.prog X.w) X.A (pyIter (.ref s.heap.objs.size)) (PIE X pins σ tg R) E { s with heap:=s.heap.push { cls:=.type "range",data:=.fields #[.int lo t,.int hi u,.int 1 v] },toks:=tk }:=by
 refine wpAny_pyIter_range (IsRange.new ..) (small_one h1 h2 h3 h4) ?_;have I1:Inv X pins σ H { s with heap:=s.heap.push { cls:=.type "range",data:=.fields #[.int lo t,.int hi u,.int 1 v] },toks:=tk }:=I.kept fun b o e=>Qf _ e
 refine⟨(s.heap.push { cls:=.type "range",data:=.fields #[.int lo t,.int hi u,.int 1 v] }).objs.size,[(s.heap.push { cls:=.type "range",data:=.fields #[.int lo t,.int hi u,.int 1 v] }).objs.size],_,_,H,rfl,
  I1.kept (t':=tk) fun b o e=>Qf _ e,Jhp _ lo (hi-lo).toNat,?_,fun b hb=>?_,q⟩
 ·have e1:lo+((0:Nat):Int)*1=lo:=by simp
  have e2:(((hi-lo).toNat:Nat):Int)-((0:Nat):Int)=Gf lo hi 1:=by rw[rangeSize_one];split <;> omega
  show IsRangeIter _ _ (lo+((0:Nat):Int)*1) ((((hi-lo).toNat:Nat):Int)-((0:Nat):Int)) 1;rw[e1,e2];exact Qj _ rfl
 ·have e:b=(s.heap.push { cls:=.type "range",data:=.fields #[.int lo t,.int hi u,.int 1 v] }).objs.size:=by simpa using hb
  subst e;exact I1.fpOk (Qo _) (I1.hok.fresh (Qo _))
noncomputable def JoL(ta:TA):TI:=fun σ H R=>ta σ H fun vs H1=>∃j:Int,vs=[.int j]/\-(2 ^ 62)<=j/\j<2 ^ 62/\R (Itr 0 j.toNat) H1
theorem Jc2{a:Q4}{ta:TA}{p pos:Pos}(hg:Gl X "range")(hm:X.mg "range"=none)(ha:PA X [a] ta)(hs:starEach [a] X.env=[(false,eval a X.env)]:=by rfl):PI X tg (.Call (.Name "range" p) [a] [] pos) (JoL ta):=by
 intro pins s σ H R I h;refine Call_ (Vb I hg hm boot_range (Gk (thn (ha pos pins s σ H _ I h) fun us s1 ⟨vs,H1,I1,r1,q1⟩=>?_) hs rfl));obtain⟨j,e,q1,q2,q⟩:=q1;subst e
 cases r1 with
 | cons r rr=>cases rr;obtain⟨t,rfl⟩:=r;exact call_range_1 (Jly I1 (by omega) (by omega) q1 q2 (by simpa using q))
noncomputable def Jom(wi:TI)(g:TG)(tb:TS):TS:=fun D σ H=>wi σ H fun J H1=>∃W:Nat->Nat->St->Hp->Prop,(∃m,W 0 m σ H1)/\∀i m σ H,W i m σ H ->
 (J.stop i H/\D.nx σ H)\/(J.go i H/\∃N:St->Hp->Prop,(∀σ' H',N σ' H'->∃m',m'<m/\W (i+1) m' σ' H')/\∀x H',J.yld i H x H'->g x σ H' fun σ2 H2=>tb { D with nx:=N,ct:=N,bk:=D.nx } σ2 H2)
noncomputable def JbV(fp:List Qd)(h:Q0):List (Qd×Obj):=fp.filterMap fun b=>(h.get? b).map fun o=>(b,o)
theorem W3{fp:List Qd}{h:Q0}{b:Qd}{o:Obj}(hb:b∈fp)(e:h.get? b=some o):(b,o)∈JbV fp h:=List.mem_filterMap.mpr ⟨b,hb,by rw[e];rfl⟩
theorem Jju{fp:List Qd}{h:Q0}{p:Qd×Obj}(hp:p∈JbV fp h):p.1∈fp/\h.get? p.1=some p.2:=by
 obtain⟨b,hb,e⟩:=List.mem_filterMap.mp hp
 cases q:h.get? b with
 | none=>rw[q] at e;cases e
 | some o=>grind
theorem Inv.pinned{pins:List (Qd×Obj)}{σ:St}{H:Hp}{s:Qe}{fp:List Qd}(I:Inv X pins σ H s)(hf:∀b∈fp,FpOk X pins H b)(ho:∀b∈fp,∃o,s.heap.get? b=some o/\∀v,o.data≠.cell v):Inv X (pins++JbV fp s.heap) σ H s :=
 I.pins_of fun p hp=>(Go.mp hp).elim (fun z=>I.pin p (Gr _ z)) fun z=>by obtain⟨hb,e⟩:=Jju z;obtain⟨f0,f1,f2,_⟩:=hf p.1 hb;obtain⟨o,e',d⟩:=ho p.1 hb;rw[e] at e';cases e';exact⟨e,f0,f1,f2,d⟩
theorem Inv.unpinned{pins pl:List (Qd×Obj)}{σ:St}{H:Hp}{s:Qe}(I:Inv X (pins++pl) σ H s):Inv X pins σ H s:=I.pins_of fun p hp=>I.pin p (Gr _ (K3 _ hp))
theorem Um{iter:Q4}{body:List GB}{wi:TI}{g:TG}{tb:TS}{pos:Pos}(hp:PassesOwn (model X.prog X.w) X.A X.env X.xe)(hc:X.calm=true)(hi:PI X tg iter wi)(hg:PG X tg g)(hb:PSs X body tb)
 (hs:∀x,foldedSetIterable iter X.env x=pure x:=by intro _;rfl):PS X (.For tg iter body [] pos) (Jom wi g tb):=by
 intro pins s σ H D I h;refine wpAny_For (thn (hi pins s σ H _ I h) fun v s1 h1=>thn h1 fun itv s2 h2=>?_) hs;obtain⟨it,fp,tn,J,H2,e,I2,T,st2,f2,W,⟨m0,w0⟩,turn⟩:=h2;subst e
 -- what stays true of the iterator's objects through the loop
 have stat:∀{H':Hp},(∀b∈fp,H' b=none)->∀b∈fp,FpOk X pins H' b:=fun hn b hb=>⟨hn b hb,(f2 b hb).2⟩
 refine codeAny_forLoop_any (fun n s'=>∃i σ' H',Inv X pins σ' H' s'/\tn i s'.heap/\(∀b∈fp,H' b=none)/\W i n σ' H') ?_ m0 ⟨0,σ,H2,I2,st2,fun b hb=>(f2 b hb).1,w0⟩;rintro n s3 ⟨i,σ3,H3,I3,st3,fr3,w3⟩;rcases turn i n σ3 H3 w3 with ⟨stop,qn⟩|⟨go,N,hN,step⟩
 ·refine Kr hp (thn (T.done X rfl rfl rfl hc i pins s3 σ3 H3 X.xe I3 (stat fr3) st3 stop) fun r s4 ⟨hr,I4⟩=>?_);subst hr;exact LS ⟨σ3,H3,I4,qn⟩
 ·refine Kr hp (thn (T.item X rfl rfl rfl hc i pins s3 σ3 H3 X.xe I3 (stat fr3) st3 go) fun r s4 ⟨u,hr,h4⟩=>?_);subst hr;refine Kr hp (thn h4 fun _ s5 ⟨x,H5,I5,r5,y5,st5,fr5⟩=>?_);have I5':=I5.pinned (stat fr5) (T.obj _ _ st5);refine Kr hp (thn (hg _ s5 σ3 H5 x u _ I5' r5 (step x H5 y5)) fun _ s6 ⟨σ6,H6,I6,q6⟩=>?_);refine Kr hp (thn (hb _ s6 σ6 H6 _ I6 q6) fun f s7 q7=>?_)
  have again:∀{σ7:St} {H7:Hp},Inv X (pins++JbV fp s5.heap) σ7 H7 s7->N σ7 H7->∃m,m<n/\∃i σ' H',Inv X pins σ' H' s7/\tn i s7.heap/\(∀b∈fp,H' b=none)/\W i m σ' H':=fun {σ7 H7} I7 n7=>by obtain⟨m',hm,w7⟩:=hN σ7 H7 n7;refine⟨m',hm,i+1,σ7,H7,I7.unpinned,T.keep _ _ _ st5 fun b hb o e=>(I7.pin (b,o) (Gr _ (Gr _ (W3 hb e)))).1,fun b hb=>?_,w7⟩;obtain⟨o,e,d⟩:=T.obj _ _ st5 b hb;exact(I7.pin (b,o) (Gr _ (Gr _ (W3 hb e)))).2.1
  cases f with
  | next=>obtain⟨σ7,H7,I7,n7⟩:=q7;exact again I7 n7
  | cont=>obtain⟨σ7,H7,I7,n7⟩:=q7;exact again I7 n7
  | brk=>obtain⟨σ7,H7,I7,q7⟩:=q7;exact⟨σ7,H7,I7.unpinned,q7⟩
  | ret v=>obtain⟨x7,σ7,H7,I7,r7,q7⟩:=q7;exact⟨x7,σ7,H7,I7.unpinned,r7,q7⟩
end

theorem Jky{K:Qw}{a:Qd}{xs:List V}{g:TG}{tb:TS}{D:Ends}{σ:St}{H:Hp}(Pv:Nat->St->Hp->Prop)(h0:Pv 0 σ H)(hl:∀i σ H,i<=xs.length->Pv i σ H->SqL K H a xs)
 (hs:∀i x σ H,xs[i]?=some x->Pv i σ H->g x σ H fun σ2 H2=>tb { D with nx:=Pv (i+1),ct:=Pv (i+1),bk:=D.nx } σ2 H2) (hd:∀σ H,Pv xs.length σ H->D.nx σ H) :
 ∃W:Nat->Nat->St->Hp->Prop,(∃m,W 0 m σ H)/\∀i m σ H,W i m σ H ->
  ((Itl K a).stop i H/\D.nx σ H)\/((Itl K a).go i H/\∃N:St->Hp->Prop,(∀σ' H',N σ' H'->∃m',m'<m/\W (i+1) m' σ' H')/\∀x H',(Itl K a).yld i H x H'->g x σ H' fun σ2 H2=>tb { D with nx:=N,ct:=N,bk:=D.nx } σ2 H2):=by
 refine⟨fun i m σ H=>m=xs.length-i/\i<=xs.length/\Pv i σ H,⟨xs.length,by simp,GS _,h0⟩,?_⟩;rintro i m σ H ⟨rfl,hi,p⟩;have q:=hl i σ H hi p
 by_cases hlt:i<xs.length
 ·refine .inr ⟨⟨xs,xs[i],q,by simp[hlt]⟩,Pv (i+1),fun σ' H' p'=>⟨xs.length-(i+1),by omega,rfl,hlt,p'⟩,fun x H' y=>?_⟩;obtain⟨e,y⟩:=y;subst e;exact hs i x σ _ (y xs q) p
 ·have e:i=xs.length:=by omega
  subst e;exact .inl ⟨⟨xs,q,Qo _⟩,hd σ H p⟩
theorem JmV{K:Qw}{a:Qd}{xs:List V}{g:TG}{tb:TS}{D:Ends}{σ:St}{H:Hp}(Pv:Nat->St->Hp->Prop)(h0:Pv 0 σ H)(hl:∀i σ H,i<=xs.length->Pv i σ H->SqT K H a xs)
 (hs:∀i x σ H,xs[i]?=some x->Pv i σ H->g x σ H fun σ2 H2=>tb { D with nx:=Pv (i+1),ct:=Pv (i+1),bk:=D.nx } σ2 H2) (hd:∀σ H,Pv xs.length σ H->D.nx σ H) :
 ∃W:Nat->Nat->St->Hp->Prop,(∃m,W 0 m σ H)/\∀i m σ H,W i m σ H ->
  ((Itt K a).stop i H/\D.nx σ H)\/((Itt K a).go i H/\∃N:St->Hp->Prop,(∀σ' H',N σ' H'->∃m',m'<m/\W (i+1) m' σ' H')/\∀x H',(Itt K a).yld i H x H'->g x σ H' fun σ2 H2=>tb { D with nx:=N,ct:=N,bk:=D.nx } σ2 H2):=by
 refine⟨fun i m σ H=>m=xs.length-i/\i<=xs.length/\Pv i σ H,⟨xs.length,by simp,GS _,h0⟩,?_⟩;rintro i m σ H ⟨rfl,hi,p⟩;have q:=hl i σ H hi p
 by_cases hlt:i<xs.length
 ·refine .inr ⟨⟨xs,xs[i],q,by simp[hlt]⟩,Pv (i+1),fun σ' H' p'=>⟨xs.length-(i+1),by omega,rfl,hlt,p'⟩,fun x H' y=>?_⟩;obtain⟨e,y⟩:=y;subst e;exact hs i x σ _ (y xs q) p
 ·have e:i=xs.length:=by omega
  subst e;exact .inl ⟨⟨xs,q,Qo _⟩,hd σ H p⟩
end L2

namespace L2
open PySem PySem.Spec PyProof.Rows

noncomputable abbrev R2:=V->V->Hp->VK->Prop
noncomputable def OpR(X:Cx)(f:Qc->Qc->Sem Qc)(r:R2):Prop :=
 ∀(pins:List (Qd×Obj)) (s:Qe) (σ:St) (H:Hp) (x y:V) (v u:Qc) (Q:VK),Inv X pins σ H s->RelV x v->RelV y u->r x y H Q ->
  wpAny (model X.prog X.w) X.A (f v u) (EP X pins σ Q) X.xe s
noncomputable def UnR(X:Cx)(f:Qc->Sem Qc)(r:V->Hp->VK->Prop):Prop :=
 ∀(pins:List (Qd×Obj)) (s:Qe) (σ:St) (H:Hp) (x:V) (v:Qc) (Q:VK),Inv X pins σ H s->RelV x v->r x H Q ->
  wpAny (model X.prog X.w) X.A (f v) (EP X pins σ Q) X.xe s
noncomputable def YD(X:Cx)(f:Qc)(r:List V->Hp->VK->Prop):Prop :=
 ∀(pins:List (Qd×Obj)) (s:Qe) (σ:St) (H:Hp) (xs:List V) (us:List Qc) (Q:VK),Inv X pins σ H s->Vals xs us->r xs H Q ->
  wpAny (model X.prog X.w) X.A (call f us) (EP X pins σ Q) X.xe s
noncomputable def Js0(X:Cx)(r:V->Hp->(Bool->Hp->Prop)->Prop):Prop :=
 ∀(pins:List (Qd×Obj)) (s:Qe) (σ:St) (H:Hp) (x:V) (v:Qc) (Q:Bool->Hp->Prop),Inv X pins σ H s->RelV x v->r x H Q ->
  wpAny (model X.prog X.w) X.A (truthy v) (TP X pins σ Q) X.xe s

noncomputable def tOp(r:R2)(ta tb:TE):TE:=fun σ H Q=>ta σ H fun x H1=>tb σ H1 fun y H2=>r x y H2 Q
noncomputable def tUn(r:V->Hp->VK->Prop)(ta:TE):TE:=fun σ H Q=>ta σ H fun x H1=>r x H1 Q
noncomputable def rI(C:Int->Int->Prop)(g:Int->Int->V):R2:=fun x y H Q=>∃i j,x=.int i/\y=.int j/\C i j/\Q (g i j) H
noncomputable def rI0(g:Int->Int->V):R2:=fun x y H Q=>∃i j,x=.int i/\y=.int j/\Q (g i j) H
noncomputable def rU(g:Int->V):V->Hp->VK->Prop:=fun x H Q=>∃i,x=.int i/\Q (g i) H

section
variable{X:Cx}{a b c:Q4}{ta tb tc:TE}{pos:Pos}

theorem Jpg(ha:PE X a ta)(hb:PE X b tb){pins:List (Qd×Obj)}{s:Qe}{σ:St}{H:Hp}{R:V->V->Hp->Prop}(I:Inv X pins σ H s)
 (h:ta σ H fun x H1=>tb σ H1 fun y H2=>R x y H2) {Q:Qc->Qe->Prop} {f:Qc->Qc->Sem Qc}
 (hf:∀v u s2 x y H2,Inv X pins σ H2 s2->RelV x v->RelV y u->R x y H2->wpAny (model X.prog X.w) X.A (f v u) Q X.xe s2) :
 wpAny (model X.prog X.w) X.A (eval a X.env) (fun v s₁=>wpAny (model X.prog X.w) X.A (eval b X.env) (fun u s₂=>wpAny (model X.prog X.w) X.A (f v u) Q X.xe s₂) X.xe s₁) X.xe s:=by
 refine thn (ha pins s σ H _ I h) fun v s1 ⟨x,H1,I1,r1,q1⟩=>?_
 refine thn (hb pins s1 σ H1 _ I1 q1) fun u s2 ⟨y,H2,I2,r2,q2⟩=>?_
 exact hf v u s2 x y H2 I2 r1 r2 q2

theorem Jp{op:Operator}{r:R2}(ho:OpR X (binaryOp op) r)(ha:PE X a ta)(hb:PE X b tb):PE X (.BinOp a op b pos) (tOp r ta tb):=by intro pins s σ H Q I h;exact wpAny_BinOp (Jpg ha hb I h fun v u s2 x y H2 I2 rx ry q=>ho pins s2 σ H2 x y v u Q I2 rx ry q)
theorem ZR{op:UnaryOp}{r:V->Hp->VK->Prop}(ho:UnR X (unaryOp op) r)(ha:PE X a ta):PE X (.UnaryOp op a pos) (tUn r ta):=by intro pins s σ H Q I h;exact UnaryOp_ (thn (ha pins s σ H _ I h) fun v s1 ⟨x,H1,I1,r1,q1⟩=>ho pins s1 σ H1 x v Q I1 r1 q1)
theorem opI{f:Qc->Qc->Sem Qc}{C:Int->Int->Prop}{g:Int->Int->Int}
 (rule:∀(i j:Int) (t u:Tok) (s:Qe) (Q:Qc->Qe->Prop) (E:Qc->Qe->Prop),C i j->Q (.int (g i j) s.toks) { s with toks:=s.toks+1 }->wpAny (model X.prog X.w) X.A (f (.int i t) (.int j u)) Q E s) :
 OpR X f (rI C fun i j=>.int (g i j)):=by
 intro pins s σ H x y v u Q I rx ry h;obtain⟨i,j,rfl,rfl,hc,q⟩:=h;obtain⟨t,rfl⟩:=rx;obtain⟨t',rfl⟩:=ry;exact rule i j t t' s _ _ hc ⟨.int (g i j),H,I.tok _,⟨_,rfl⟩,q⟩
theorem Jsr{f:Qc->Qc->Sem Qc}{g:Int->Int->Int}
 (rule:∀(i j:Int) (t u:Tok) (s:Qe) (Q:Qc->Qe->Prop) (E:Qc->Qe->Prop),Q (.int (g i j) s.toks) { s with toks:=s.toks+1 }->wpAny (model X.prog X.w) X.A (f (.int i t) (.int j u)) Q E s) :
 OpR X f (rI0 fun i j=>.int (g i j)):=by
 intro pins s σ H x y v u Q I rx ry h;obtain⟨i,j,rfl,rfl,q⟩:=h;obtain⟨t,rfl⟩:=rx;obtain⟨t',rfl⟩:=ry;exact rule i j t t' s _ _ ⟨.int (g i j),H,I.tok _,⟨_,rfl⟩,q⟩
theorem Jqr{f:Qc->Qc->Sem Qc}{g:Int->Int->Bool}
 (rule:∀(i j:Int) (t u:Tok) (s:Qe) (Q:Qc->Qe->Prop) (E:Qc->Qe->Prop),Q (.bool (g i j)) s->wpAny (model X.prog X.w) X.A (f (.int i t) (.int j u)) Q E s) :
 OpR X f (rI0 fun i j=>.bl (g i j)):=by
 intro pins s σ H x y v u Q I rx ry h;obtain⟨i,j,rfl,rfl,q⟩:=h;obtain⟨t,rfl⟩:=rx;obtain⟨t',rfl⟩:=ry;exact rule i j t t' s _ _ ⟨.bl (g i j),H,I,rfl,q⟩

noncomputable def JrA(i j:Int):Prop:=0<j/\j<1073741824
noncomputable def JrB(i j:Int):Prop:=0<=j/\j<=1000000/\i.natAbs<2 ^ 64
noncomputable def CMul(i j:Int):Prop:=(-(2 ^ 64)<i/\i<2 ^ 64)\/(-(2 ^ 64)<j/\j<2 ^ 64)
theorem CMul.ok{i j:Int}(h:CMul i j):IntMulOk i j:=by
 rcases h with ⟨h1,h2⟩|⟨h1,h2⟩
 ·exact .of_left (intBits_le_64 h1 h2)
 ·exact .of_right (intBits_le_64 h1 h2)
theorem op_add:OpR X (binaryOp .Add) (rI0 fun i j=>.int (i+j)):=Jsr fun _ _ _ _ _ _ _ q=>add_int q
theorem YI:OpR X (binaryOp .Sub) (rI0 fun i j=>.int (i-j)):=Jsr fun _ _ _ _ _ _ _ q=>sub_int q
theorem W6:OpR X (binaryOp .Mult) (rI CMul fun i j=>.int (i*j)):=opI fun _ _ _ _ _ _ _ hc q=>mul_int q hc.ok
theorem WM:OpR X (binaryOp .FloorDiv) (rI JrA fun i j=>.int (i / j)):=opI fun i j _ _ _ _ _ hc q=>by
 have h1:(0:Int)<j:=hc.1
 have h2:j<1073741824:=hc.2;exact floordiv_int (by omega) (by rw[Int.fdiv_eq_ediv_of_nonneg i (by omega)];exact q) (.inl (MU (by omega)))
theorem Uy:OpR X (binaryOp .Mod) (rI (fun _ j=>0<j) fun i j=>.int (i % j)):=opI fun i j _ _ _ _ _ hc q=>by have h1:(0:Int)<j:=hc;exact mod_int' (by omega) (by rw[Int.fmod_eq_emod_of_nonneg i (by omega)];exact q)
theorem JbS:OpR X (binaryOp .Pow) (rI JrB fun i j=>.int (i ^ j.toNat)):=opI fun _ _ _ _ _ _ _ hc q=>pow_int_small hc.1 hc.2.1 hc.2.2 q
theorem unI{f:Qc->Sem Qc}{g:Int->Int}
 (rule:∀(i:Int) (t:Tok) (s:Qe) (Q:Qc->Qe->Prop) (E:Qc->Qe->Prop),Q (.int (g i) s.toks) { s with toks:=s.toks+1 }->wpAny (model X.prog X.w) X.A (f (.int i t)) Q E s) :
 UnR X f (rU fun i=>.int (g i)):=by
 intro pins s σ H x v Q I rx h;obtain⟨i,rfl,q⟩:=h;obtain⟨t,rfl⟩:=rx;exact rule i t s _ _ ⟨.int (g i),H,I.tok _,⟨_,rfl⟩,q⟩
theorem V5:UnR X (unaryOp .USub) (rU fun i=>.int (-i)):=unI fun _ _ _ _ _ q=>neg_int q
end

noncomputable def Jrh:V->V->Bool
 | .non,.non=>true|.non,.int _=>true|.int _,.non=>true|.non,.bl _=>true|.bl _,.non=>true|.non,.str _=>true|.str _,.non=>true
 | .int _,.int _=>true|.bl _,.bl _=>true|.str _,.str _=>true|.byt _,.byt _=>true
 | .int _,.str _=>true|.str _,.int _=>true|.bl _,.str _=>true|.str _,.bl _=>true
 | _,_=>false
noncomputable def rEq:R2:=fun x y H Q=>Jrh x y=true/\Q (.bl (decide (x=y))) H
noncomputable def rNe:R2:=fun x y H Q=>Jrh x y=true/\Q (.bl (!decide (x=y))) H

theorem JhL{i j:Int}:decide (V.int i=V.int j)=(i == j):=by rw[GC];simp
theorem Jkf{i j:Bool}:decide (V.bl i=V.bl j)=(i == j):=by rw[GC];simp
theorem JhM{i j:Str}:decide (V.str i=V.str j)=(i == j):=by rw[GC];simp
theorem JhK{i j:Array UInt8}:decide (V.byt i=V.byt j)=(i.toList == j.toList):=by rw[GC];cases i;cases j;simp

section
variable{X:Cx}{a b c:Q4}{ta tb tc:TE}{pos:Pos}
theorem JP{pins:List (Qd×Obj)}{σ:St}{H:Hp}{s:Qe}{Q:VK}{k k':Bool}(I:Inv X pins σ H s)(q:Q (.bl k) H)(e:k=k'):EP X pins σ Q (.bool k') s:=by subst e;exact⟨.bl k,H,I,rfl,q⟩
theorem op_eq:OpR X (compareOp .Eq) rEq:=by
 intro pins s σ H x y v u Q I rx ry h;obtain⟨hs,q⟩:=h
 cases x with
 | non =>
  cases rx
  cases y with
  | non=>cases ry;exact PySem.EqNone.eq_none_none (JP I q (by simp))
  | bl j=>cases ry;exact PySem.EqNone.eq_none_bool (JP I q (by simp))
  | int j=>obtain⟨t',rfl⟩:=ry;exact PySem.EqNone.eq_none_int (JP I q (by simp))
  | str j=>obtain⟨t',rfl⟩:=ry;exact PySem.EqNone.eq_none_str (JP I q (by simp))
  | _=>exact absurd (show false=true from hs) QB
 | bl i =>
  cases rx
  cases y with
  | non=>cases ry;exact PySem.EqNone.eq_bool_none (JP I q (by simp))
  | bl j=>cases ry;exact eq_bool (JP I q Jkf)
  | str j=>obtain⟨t',rfl⟩:=ry;exact PySem.EqMixed.eq_bool_str (JP I q (by simp))
  | _=>exact absurd (show false=true from hs) QB
 | int i =>
  obtain⟨t,rfl⟩:=rx
  cases y with
  | non=>cases ry;exact PySem.EqNone.eq_int_none (JP I q (by simp))
  | int j=>obtain⟨t',rfl⟩:=ry;exact eq_int (JP I q JhL)
  | str j=>obtain⟨t',rfl⟩:=ry;exact PySem.EqMixed.eq_int_str (JP I q (by simp))
  | _=>exact absurd (show false=true from hs) QB
 | str i =>
  obtain⟨t,rfl⟩:=rx
  cases y with
  | non=>cases ry;exact PySem.EqNone.eq_str_none (JP I q (by simp))
  | bl j=>cases ry;exact PySem.EqMixed.eq_str_bool (JP I q (by simp))
  | int j=>obtain⟨t',rfl⟩:=ry;exact PySem.EqMixed.eq_str_int (JP I q (by simp))
  | str j=>obtain⟨t',rfl⟩:=ry;exact eq_str (JP I q JhM)
  | _=>exact absurd (show false=true from hs) QB
 | byt i =>
  obtain⟨t,rfl⟩:=rx
  cases y with
  | byt j=>obtain⟨t',rfl⟩:=ry;exact PySem.W.eq_bytes (JP I q JhK)
  | _=>exact absurd (show false=true from hs) QB
 | _=>cases y <;> exact absurd (show false=true from hs) QB
theorem op_ne:OpR X (compareOp .NotEq) rNe:=by
 intro pins s σ H x y v u Q I rx ry h;obtain⟨hs,q⟩:=h
 cases x with
 | non =>
  cases rx
  cases y with
  | non=>cases ry;exact PySem.EqNone.ne_none_none (JP I q (by simp))
  | bl j=>cases ry;exact PySem.EqNone.ne_none_bool (JP I q (by simp))
  | int j=>obtain⟨t',rfl⟩:=ry;exact PySem.EqNone.ne_none_int (JP I q (by simp))
  | str j=>obtain⟨t',rfl⟩:=ry;exact PySem.EqNone.ne_none_str (JP I q (by simp))
  | _=>exact absurd (show false=true from hs) QB
 | bl i =>
  cases rx
  cases y with
  | non=>cases ry;exact PySem.EqNone.ne_bool_none (JP I q (by simp))
  | bl j=>cases ry;exact ne_bool (JP I q (congrArg not Jkf))
  | str j=>obtain⟨t',rfl⟩:=ry;exact PySem.EqMixed.ne_bool_str (JP I q (by simp))
  | _=>exact absurd (show false=true from hs) QB
 | int i =>
  obtain⟨t,rfl⟩:=rx
  cases y with
  | non=>cases ry;exact PySem.EqNone.ne_int_none (JP I q (by simp))
  | int j=>obtain⟨t',rfl⟩:=ry;exact ne_int (JP I q (congrArg not JhL))
  | str j=>obtain⟨t',rfl⟩:=ry;exact PySem.EqMixed.ne_int_str (JP I q (by simp))
  | _=>exact absurd (show false=true from hs) QB
 | str i =>
  obtain⟨t,rfl⟩:=rx
  cases y with
  | non=>cases ry;exact PySem.EqNone.ne_str_none (JP I q (by simp))
  | bl j=>cases ry;exact PySem.EqMixed.ne_str_bool (JP I q (by simp))
  | int j=>obtain⟨t',rfl⟩:=ry;exact PySem.EqMixed.ne_str_int (JP I q (by simp))
  | str j=>obtain⟨t',rfl⟩:=ry;exact ne_str (JP I q (congrArg not JhM))
  | _=>exact absurd (show false=true from hs) QB
 | byt i =>
  obtain⟨t,rfl⟩:=rx
  cases y with
  | byt j=>obtain⟨t',rfl⟩:=ry;exact PySem.W.ne_bytes (JP I q (congrArg not JhK))
  | _=>exact absurd (show false=true from hs) QB
 | _=>cases y <;> exact absurd (show false=true from hs) QB

theorem Wa:OpR X (compareOp .Lt) (rI0 fun i j=>.bl (decide (i<j))):=Jqr fun _ _ _ _ _ _ _ q=>lt_int q
theorem Jlc:OpR X (compareOp .LtE) (rI0 fun i j=>.bl (decide (i<=j))):=Jqr fun _ _ _ _ _ _ _ q=>le_int q
theorem JaI:OpR X (compareOp .Gt) (rI0 fun i j=>.bl (decide (j<i))):=Jqr fun _ _ _ _ _ _ _ q=>gt_int q
theorem Jjy:OpR X (compareOp .In) (fun x y H Q=>∃i j,x=.str i/\y=.str j/\Q (.bl (!(GJ j i 0 j.length 1).isEmpty)) H):=by intro pins s σ H x y v u Q I rx ry h;obtain⟨i,j,rfl,rfl,q⟩:=h;obtain⟨t,rfl⟩:=rx;obtain⟨t',rfl⟩:=ry;exact in_str (JP I q rfl)

theorem Jqw:OpR X (compareOp .Is) (fun x y H Q=>y=.non/\Q (.bl (decide (x=.non))) H):=by
 intro pins s σ H x y v u Q I rx ry h;obtain⟨rfl,q⟩:=h;cases ry;refine is_none_gen (JP I q ?_);cases x <;> first
  | (cases rx;rfl)
  | (obtain⟨t,rfl⟩:=rx;rfl)
theorem JnC:OpR X (compareOp .IsNot) (fun x y H Q=>y=.non/\Q (.bl (!decide (x=.non))) H):=by
 intro pins s σ H x y v u Q I rx ry h;obtain⟨rfl,q⟩:=h;cases ry;refine isnot_none_gen (JP I q ?_);cases x <;> first
  | (cases rx;rfl)
  | (obtain⟨t,rfl⟩:=rx;rfl)

theorem OpR.or{f:Qc->Qc->Sem Qc}{r r':R2}(h:OpR X f r)(h':OpR X f r'):OpR X f (fun x y H Q=>r x y H Q\/r' x y H Q):=by
 intro pins s σ H x y v u Q I rx ry q;rcases q with q|q
 ·exact h pins s σ H x y v u Q I rx ry q
 ·exact h' pins s σ H x y v u Q I rx ry q

theorem Jy(b:Q4){op:CmpOp}(h:op≠.In:=by decide)(h2:op≠.NotIn:=by decide):behindInMarks op b=false:=by
 have e1:(op == CmpOp.In)=false:=by simp_all
 have e2:(op == CmpOp.NotIn)=false:=by simp_all
 cases b <;> simp[behindInMarks,e1,e2]
theorem Jed{op:CmpOp}{r:R2}(ho:OpR X (compareOp op) r)(ha:PE X a ta)(hb:PE X b tb)(hm:behindInMarks op b=false):PE X (.Compare a [op] [b] pos) (tOp r ta tb):=by intro pins s σ H Q I h;exact wpAny_Compare1 (Jpg ha hb I h fun v u s2 x y H2 I2 rx ry q=>ho pins s2 σ H2 x y v u Q I2 rx ry q) hm
noncomputable def Jl6(t:TE):TT:=fun σ H Q=>t σ H fun x H'=>∃k,x=.bl k/\Q k H'
theorem Jr{op:CmpOp}{r:R2}(ho:OpR X (compareOp op) r)(ha:PE X a ta)(hb:PE X b tb)(hm:behindInMarks op b=false):PT X (.Compare a [op] [b] pos) (Jl6 (tOp r ta tb)):=by
 intro pins s σ H Q I h;refine wpAny_isTrue_Compare1 (thn (ha pins s σ H _ I h) fun v s1 ⟨x,H1,I1,r1,q1⟩=>thn (hb pins s1 σ H1 _ I1 q1) fun u s2 ⟨y,H2,I2,r2,q2⟩=>thn (ho pins s2 σ H2 x y v u _ I2 r1 r2 q2) fun c s3 ⟨z,H3,I3,r3,k,e,q3⟩=>?_) hm
 subst e;cases r3;exact K0 ⟨H3,I3,q3⟩
noncomputable def Jl2(r r':R2)(ta tb tc:TE):TE:=fun σ H Q=>ta σ H fun x H1=>tb σ H1 fun y H2=>r x y H2 fun z H3=>∃k,z=.bl k ∧
 (if k=true then tc σ H3 fun w' H4=>r' y w' H4 Q else Q (.bl false) H3)
theorem Jle{op op':CmpOp}{r r':R2}(ho:OpR X (compareOp op) r)(ho':OpR X (compareOp op') r')(ha:PE X a ta)(hb:PE X b tb)(hc:PE X c tc)
 (hm:lastMarks [op,op'] [b,c]=false:=by with_unfolding_all rfl):PE X (.Compare a [op,op'] [b,c] pos) (Jl2 r r' ta tb tc):=by
 intro pins s σ H Q I h;refine Compare_chain (thn (ha pins s σ H _ I h) fun v s1 ⟨x,H1,I1,r1,q1⟩=>chain_link (thn (hb pins s1 σ H1 _ I1 q1) fun u s2 ⟨y,H2,I2,r2,q2⟩=>thn (ho pins s2 σ H2 x y v u _ I2 r1 r2 q2) fun d s3 ⟨z,H3,I3,r3,k,e,q3⟩=>?_)) hm
 subst e;cases r3;refine K0 ?_
 cases k with
 | false=>exact ite_ff ⟨.bl false,H3,I3,rfl,q3⟩
 | true=>exact ite_tt (chain_last (thn (hc pins s3 σ H3 _ I3 q3) fun w' s4 ⟨z',H4,I4,r4,q4⟩=>ho' pins s4 σ H4 y z' u w' Q I4 r2 r4 q4))
noncomputable def Jmm(K:Qw)(x:V)(H:Hp)(k:Bool):Prop :=
 match x with
 | .non=>k=false
 | .bl b=>k=b
 | .int i=>k=(i != 0)
 | .str y=>y.length<=Qq/\k=((y.length:Int) != 0)
 | .byt y=>y.size<=Qq/\k=((y.size:Int) != 0)
 | .ref p=>(∃xs,SqL K H p xs/\k=!xs.isEmpty)\/(∃xs,SqT K H p xs/\k=!xs.isEmpty)\/∃kvs,H p=some (.dK kvs)/\k=!kvs.isEmpty
 | _=>False
theorem JgG{κ:Type}{kvs:List (κ×V)}{vs:List (κ×Qc)}(r:KV kvs vs):(!vs.isEmpty)=!kvs.isEmpty:=by cases r <;> rfl
theorem JbA{xs:List V}{its:List Qc}(r:Vals xs its):(!its.toArray.isEmpty)=!xs.isEmpty:=by cases r <;> simp
theorem JbF:(Qq:Nat)<2 ^ 63:=by rw[sizeLine_eq];decide
theorem Jrs:Js0 X (fun x H Q=>∃k,Jmm X.K x H k/\Q k H):=by
 intro pins s σ H x v Q I rx h;obtain⟨k,e,q⟩:=h;have hl:=JbF;have hs:Qq=16777216:=sizeLine_eq
 cases x with
 | non=>cases rx;have e':k=false:=e;subst e';exact truthy_none ⟨H,I,q⟩
 | bl b=>cases rx;have e':k=b:=e;subst e';exact K0 ⟨H,I,q⟩
 | int i=>obtain⟨t,rfl⟩:=rx;have e':k=(i != 0):=e;subst e';exact PySem.P.truthy_int ⟨H,I,q⟩
 | str y=>obtain⟨t,rfl⟩:=rx;obtain⟨hy,e'⟩:y.length<=Qq/\k=((y.length:Int) != 0):=e;subst e';exact PySem.P.truthy_str (by omega) ⟨H,I.tok _,q⟩
 | byt y=>obtain⟨t,rfl⟩:=rx;obtain⟨hy,e'⟩:y.size<=Qq/\k=((y.size:Int) != 0):=e;subst e';exact PySem.W.truthy_bytes (by omega) ⟨H,I.tok _,q⟩
 | ref p =>
  cases rx;have e':(∃xs,SqL X.K H p xs/\k=!xs.isEmpty)\/(∃xs,SqT X.K H p xs/\k=!xs.isEmpty)\/∃kvs,H p=some (.dK kvs)/\k=!kvs.isEmpty:=e
  rcases e' with ⟨xs,hx,e'⟩|⟨xs,hx,e'⟩|⟨kvs,hx,e'⟩
  ·subst e';obtain⟨its,r,pl,hz⟩:=I.list hx;have hlen:=r.length;exact wpAny_truthy_list pl.isList (by grind) ⟨H,I.tok _,by rw[JbA r];exact q⟩
  ·subst e';obtain⟨its,r,pl,hz⟩:=I.tuple hx;have hlen:=r.length;exact truthy_tuple pl (by grind) ⟨H,I.tok _,by rw[JbA r];exact q⟩
  ·subst e';obtain⟨hz,hS,vs,r,m⟩:kvs.length<=Qq/\(p == sysModules)=false/\∃vs,KV kvs vs/\s.heap.DictOf (JW X.prog X.w) p vs:=I.hok p _ hx
   have hlen:kvs.length=vs.length:=MA r;exact wpAny_truthy_dict hS m (by omega) ⟨H,I.tok _,by rw[JgG r];exact q⟩
 | _=>exact(show False from e).elim
theorem Jlo(ha:PE X a ta)(he:∀whole,isTrue a X.env whole=(do let v <- whole;standAt a.pos;holding [v] (truthy v))) :
 PT X a (fun σ H Q=>ta σ H fun x H'=>∃k,Jmm X.K x H' k/\Q k H'):=by
 intro pins s σ H Q I h;exact isTrue_plain (thn (ha pins s σ H _ I h) fun v s1 ⟨x,H1,I1,r1,q1⟩=>Jrs pins s1 σ H1 x v Q I1 r1 q1) (he _)

theorem op_add_str:OpR X (binaryOp .Add) (fun x y H Q=>∃i j,x=.str i/\y=.str j/\i.length+j.length<=Qq/\Q (.str (i++j)) H):=by intro pins s σ H x y v u Q I rx ry h;obtain⟨i,j,rfl,rfl,hz,q⟩:=h;obtain⟨t,rfl⟩:=rx;obtain⟨t',rfl⟩:=ry;exact add_str (fun t' tk=>⟨.str (i++j),H,I.tok _,⟨_,rfl⟩,q⟩) hz
theorem WG{x:V}{us:List Qc}(r:Vals [x] us):∃u,us=[u]/\RelV x u:=by
 cases r with
 | cons r1 r2=>cases r2;exact⟨_,rfl,r1⟩
theorem Jo2{x y:V}{us:List Qc}(r:Vals [x,y] us):∃u w',us=[u,w']/\RelV x u/\RelV y w':=by
 cases r with
 | cons r1 r2 =>
  cases r2 with
  | cons r3 r4=>cases r4;exact⟨_,_,rfl,r1,r3⟩
theorem Ji1(hc:X.calm=true):YD X (.builtin "max") (fun xs H Q=>∃i j,xs=[.int i,.int j]/\Q (.int (if j>i then j else i)) H):=by
 intro pins s σ H xs us Q I r h;obtain⟨i,j,rfl,q⟩:=h;obtain⟨u,w',rfl,⟨t,rfl⟩,⟨t',rfl⟩⟩:=Jo2 r;refine max_two_ints (I.ok.hd hc) fun h' tk k=>⟨_,H,I.kept k,?_,q⟩
 by_cases hj:j>i
 ·rw[if_pos hj,if_pos hj];exact⟨_,rfl⟩
 ·rw[if_neg hj,if_neg hj];exact⟨_,rfl⟩
theorem Ji3(hc:X.calm=true):YD X (.builtin "min") (fun xs H Q=>∃i j,xs=[.int i,.int j]/\Q (.int (if j<i then j else i)) H):=by
 intro pins s σ H xs us Q I r h;obtain⟨i,j,rfl,q⟩:=h;obtain⟨u,w',rfl,⟨t,rfl⟩,⟨t',rfl⟩⟩:=Jo2 r;refine min_two_ints (I.ok.hd hc) fun h' tk k=>⟨_,H,I.kept k,?_,q⟩
 by_cases hj:j<i
 ·rw[if_pos hj,if_pos hj];exact⟨_,rfl⟩
 ·rw[if_neg hj,if_neg hj];exact⟨_,rfl⟩
theorem Jds:YD X (.type "str") (fun xs H Q=>∃i,xs=[.int i]/\i.natAbs.log2<1920/\Q (.str (toString i)) H):=by intro pins s σ H xs us Q I r h;obtain⟨i,rfl,hz,q⟩:=h;obtain⟨u,rfl,t,rfl⟩:=WG r;exact PySem.P.str_of_int hz ⟨.str _,H,I.tok _,⟨_,rfl⟩,q⟩
noncomputable def JrF(K:Qw)(x:V)(H:Hp)(n:Nat):Prop :=
 match x with
 | .str y=>y.length<=Qq/\n=y.length
 | .byt y=>y.size<=Qq/\n=y.size
 | .ref p=>(∃xs,SqL K H p xs/\n=xs.length)\/∃xs,SqT K H p xs/\n=xs.length
 | _=>False
theorem Jj8:YD X (.builtin "len") (fun xs H Q=>∃x n,xs=[x]/\JrF X.K x H n/\Q (.int n) H):=by
 intro pins s σ H xs us Q I r h;obtain⟨x,n,rfl,e,q⟩:=h;obtain⟨u,rfl,rx⟩:=WG r;have hl:=JbF;have hs:Qq=16777216:=sizeLine_eq
 cases x with
 | str y=>obtain⟨t,rfl⟩:=rx;obtain⟨hy,e'⟩:y.length<=Qq/\n=y.length:=e;subst e';exact len_str (by omega) ⟨.int _,H,I.tok _,⟨_,rfl⟩,q⟩
 | byt y=>obtain⟨t,rfl⟩:=rx;obtain⟨hy,e'⟩:y.size<=Qq/\n=y.size:=e;subst e';exact PySem.W.len_bytes (by omega) ⟨.int _,H,I.tok _,⟨_,rfl⟩,q⟩
 | ref p =>
  cases rx;have e':(∃xs,SqL X.K H p xs/\n=xs.length)\/∃xs,SqT X.K H p xs/\n=xs.length:=e
  rcases e' with ⟨xs,hx,e'⟩|⟨xs,hx,e'⟩
  ·subst e';obtain⟨its,r',pl,hz⟩:=I.list hx;have hlen:=r'.length;exact Calls.call_len_list pl.isList (by simp only[QW];omega) ⟨.int xs.length,H,I.tok _,⟨_,by simp only[QW];rw[hlen]⟩,q⟩
  ·subst e';obtain⟨its,r',pl,hz⟩:=I.tuple hx;have hlen:=r'.length;exact len_tuple pl (by simp only[QW];omega) ⟨.int xs.length,H,I.tok _,⟨_,by simp only[QW];rw[hlen]⟩,q⟩
 | _=>exact(show False from e).elim
end
end L2

namespace L2
open PySem PySem.Spec PyProof.Rows

structure ObjM (h:Q0) (x dx C:Qd) (mA:Str->Option Qc):Prop where
 obj:h.get? x=some (instObj C dx)
 ns:h.Ns1 dx mA
 ne:dx≠x

theorem Jjm{h:Q0}{dx:Qd}{mA:Str->Option Qc}(n:h.Ns1 dx mA):∃od,h.get? dx=some od/\∀name,lookIn name od=some (mA name):=by
 obtain⟨o,es,ep,ho,hd,hk,_,hm⟩:=n;refine⟨o,ho,fun name=>?_⟩;have e:=hm name;unfold nsFind findBy at e;rw[<- Array.find?_toList] at e;unfold lookIn;rw[hd];dsimp only;split
 ·simp_all
 ·rename_i q;rw[q] at e
  have a:es.toList.any (·.refKey)=false:=by rw[List.any_eq_false];intro y hy;obtain⟨z,t,hkey⟩:=hk y (Array.mem_toList_iff.mp hy);simp[DictEntry.refKey,hkey]
  simp_all

theorem ObjM.look{h:Q0}{x dx C:Qd}{mA:Str->Option Qc}(I:ObjM h x dx C mA):∃od,PySem.W.InstAt h x (instObj C dx) C (some od)/\∀name,lookIn name od=some (mA name) :=
 let ⟨od,ho,hl⟩:=Jjm I.ns
 ⟨od,⟨I.obj,rfl,rfl,ho⟩,hl⟩

section
variable{prog:Qu}{w:QJ}{A:QI}{E:Qc->Qe->Prop}{s:Qe}{K:Qw}{x dx C f:Qd}{mA:Str->Option Qc}{name:Str}{v:Qc}

theorem JmZ{expr:Bool}{Q:Qc->Qe->Prop}(X:K.In s.heap)(I:ObjM s.heap x dx C mA)(hg:plainGet K C name=true)(hh:hasDictIn K C=true)
 (ha:findIn K (.ref C) name=some none) (hv:mA name=some v) (hv':PySem.W.handedIn v=true) (h:Q v { s with toks:=s.toks+1 }) :
 wpAny (model prog w) A (getAttr (.ref x) name expr) Q E s:=by
 obtain⟨od,J,hl⟩:=I.look;exact PySem.W.get_value X J (plainGet_of hg).1 (PySem.W.findObj_own hh ha rfl (by rw[hl,hv])) hv' h

theorem JkA{pl:Sem Bool}{Q:Qc×List Qc->Qe->Prop}(X:K.In s.heap)(I:ObjM s.heap x dx C mA)(hg:plainGet K C name=true)
 (hf:findIn K (.ref C) name=some (some (.ref f))) (ht:isFn K (.ref f)=true) (hv:mA name=none) (h:Q (.ref f,[.ref x]) s) :
 wpAny (model prog w) A (getMethod (.ref x) name pl) Q E s:=by
 obtain⟨od,J,hl⟩:=I.look;exact PySem.W.method_fn X J (plainGet_of hg).1 (plainGet_of hg).2 hf (beq_iff_eq.mp ht) (by show(lookIn name od).map (·.isSome)=some false;rw[hl,hv];rfl) h

theorem Jod{ns:List Str}{Q:Unit->Qe->Prop}(X:K.In s.heap)(I:ObjM s.heap x dx C mA)
 (hs:findIn K (.ref C) "__setattr__"=some (some (.builtin "object.__setattr__"))) (hp:plainOver K C=true) (ht:takerIn K C name=some none) (hh:hasDictIn K C=true)
 (hw:RI mA ns) (hsz:ns.length<=Qq)
 (h:∀h',ObjM h' x dx C (fun y=>if y=name then some v else mA y)->Qy dx s.heap h'->Q () { s with heap:=h',toks:=s.toks+2 }) :
 wpAny (model prog w) A (setAttr (.ref x) name v) Q E s:=by
 obtain⟨od,J,hl⟩:=I.look;refine PySem.W.set_plain X J hs (PySem.W.osa_open (s:={ s with toks:=s.toks+1 }) (r:=none) X J hp ht fun b=>?_);obtain⟨cd,hc,hd'⟩:=PySem.W.any_some hh;have hx:s.heap.get? x=some ⟨.ref C,some dx,.plain,#[]⟩:=I.obj;refine Qa (Qk (Qa (Qa (wpAny_loadPart hx (Qa (PySem.W.Looks.here (s:={ s with toks:=s.toks+1 }) (PySem.W.looks_clsIn X hc) ?_))))));rw[hd'];refine Qk (a:=some dx) (Qa (Qk (Qa ?_)))
 refine wpAny_nsSet1 (s:={ s with toks:=s.toks+1 }) I.ns fun h' hn2 hs2=>?_
 obtain⟨oD,esD,epD,hoD,hdD,hcD⟩:=hn2.count (PySem.Within.cons name v hw);refine Qa (wpAny_lookBehind hoD (by rw[hdD];exact pastItsLine_dict (Gj hcD (by simp_all))) ?_);exact Qk (h _ ⟨(hs2.2 _ (QY I.ne)).trans I.obj,hn2,I.ne⟩ hs2)

theorem Jk2{R:MB->Qe->Prop}{vs:List Qc}{kw:List (Str×Qc)}(X:K.In s.heap)(hm:makesIn K C=true)
 (hi:findIn K (.ref C) "__init__"=some (some (.ref f))) (hf:PySem.W.typeIn K (.ref f)=some (.type "function"))
 (h:codeAny (model prog w) (A.under (.builtin "type.__call__" ⟨.ref C::vs,kw⟩)) (.call (.ref f) ⟨.ref (s.heap.objs.size+1)::vs,kw⟩) (PySem.W.InitBack (s.heap.objs.size+1) R)
  { s with heap:=(s.heap.push emptyDict).push (instObj C s.heap.objs.size) }) :
 codeAny (model prog w) A (.call (.ref C) ⟨vs,kw⟩) R s:=by
 obtain⟨hh,g,d,t,os⟩:=s;exact PySem.W.make_core (PySem.W.makes_of X hm) (PySem.W.looks_findIn X hi) (fun self=>PySem.W.bind_fn X self hf) (.inl rfl) h
end

noncomputable def putF(f:Str)(v:V):List (Str×V)->List (Str×V)
 | []=>[(f,v)]
 | (g,x)::r=>if g=f then(g,v)::r else(g,x)::putF f v r
theorem JaG(f g:Str)(v:V):∀fs:List (Str×V),(putF f v fs).lookup g=if g=f then some v else fs.lookup g
 | []=>by
  show Rm g [(f,v)]=_
  grind
 | (k,x)::r=>by
  have ih:=JaG f g v r;rw[show putF f v ((k,x)::r)=(if k=f then(k,v)::r else(k,x)::putF f v r) from rfl]
  grind
theorem Jaj(f:Str)(v:V):∀fs:List (Str×V),f∈(putF f v fs).map (·.1)/\∀g,g∈fs.map (·.1)->g∈(putF f v fs).map (·.1)
 | []=>⟨by simp[putF],fun g h=>by simp at h⟩
 | (k,x)::r=>by
  obtain⟨i1,i2⟩:=Jaj f v r;rw[show putF f v ((k,x)::r)=(if k=f then(k,v)::r else(k,x)::putF f v r) from rfl]
  grind
theorem JaF(f:Str)(v:V):∀fs:List (Str×V),(putF f v fs).length<=fs.length+1
 | []=>by simp[putF]
 | (k,x)::r=>by
  have ih:=JaF f v r;rw[show putF f v ((k,x)::r)=(if k=f then(k,v)::r else(k,x)::putF f v r) from rfl]
  grind

theorem RelO.some_of{v:V}{o:Option Qc}(r:RelO (some v) o):∃u,o=some u/\RelV v u:=by
 cases o with
 | none=>exact(show False from r).elim
 | some u=>exact⟨u,rfl,r⟩
theorem RelO.none_of{o:Option Qc}(r:RelO none o):o=none:=by
 cases o with
 | none=>rfl
 | some u=>exact(show False from r).elim
theorem Jjb{v:V}{u:Qc}(r:RelV v u):PySem.W.handedIn u=true:=by
 cases v with
 | non=>cases (show u=Value.none from r);rfl
 | bl b=>cases (show u=Value.bool b from r);rfl
 | int i=>obtain⟨t,e⟩:=(show ∃t,u=Value.int i t from r);cases e;rfl
 | str x=>obtain⟨t,e⟩:=(show ∃t,u=Value.str x t from r);cases e;rfl
 | byt b=>obtain⟨t,e⟩:=(show ∃t,u=Value.bytes b t from r);cases e;rfl
 | flt b=>obtain⟨t,e⟩:=(show ∃t,u=Value.float b t from r);cases e;rfl
 | ref a=>cases (show u=Value.ref a from r);rfl
 | ty n=>cases (show u=Value.type n from r);rfl

section
variable{P:Qu}{w:QJ}{H H':Hp}{h h':Q0}{a C dx:Qd}{fs fs':List (Str×V)}
theorem JdS(hok:HOk P w H h)(e:H a=some (.ins C dx fs)):∃mA,ObjM h a dx C mA/\(∀f,RelO (fs.lookup f) (mA f))/\RI mA (fs.map (·.1))/\fs.length<=1000/\H dx=some (.own a):=by
 obtain⟨d,z,ne,ob,mA,n,r,q⟩:=(show ObjOk P w H h a (.ins C dx fs) from hok a _ e)
 exact⟨mA,⟨ob,n,ne⟩,r,q,z,d⟩
end

structure Cls (K:Qw) (C:Qd):Prop where
 pg:plainGet K C GO=true
 hd:hasDictIn K C=true
 po:plainOver K C=true
 sa:findIn K (.ref C) "__setattr__"=some (some (.builtin "object.__setattr__"))
theorem Cls.get{K:Qw}{C:Qd}(c:Cls K C)(f:Str):plainGet K C f=true:=c.pg
noncomputable def NoAttr(K:Qw)(C:Qd)(f:Str):Prop:=findIn K (.ref C) f=some none
theorem NoAttr.taker{K:Qw}{C:Qd}{f:Str}(n:NoAttr K C f):takerIn K C f=some none:=by unfold takerIn;rw[show findIn K (.ref C) f=some none from n];rfl
structure Meth (K:Qw) (C:Qd) (m:Str) (f:Qd):Prop where
 at_:findIn K (.ref C) m=some (some (.ref f))
 fn:isFn K (.ref f)=true
 kp:keepIn K (.ref f)=true

section
variable{X:Cx}{pins:List (Qd×Obj)}{σ:St}{H:Hp}{s:Qe}{a C dx:Qd}{fs:List (Str×V)}{f:Str}{v:V}{A:QI}{E:Qc->Qe->Prop}

theorem Jgy{b:Bool}{Q:Qc->Qe->Prop}(I:Inv X pins σ H s)(e:H a=some (.ins C dx fs))(c:Cls X.K C)(n:NoAttr X.K C f)(l:fs.lookup f=some v)
 (h:∀u s',Inv X pins σ H s'->RelV v u->Q u s'):wpAny (model X.prog X.w) A (getAttr (.ref a) f b) Q E s:=by
 obtain⟨mA,O,r,_,_,_⟩:=JdS I.hok e;obtain⟨u,hu,ru⟩:=RelO.some_of (v:=v) (o:=mA f) (by rw[<- l];exact r f);exact JmZ I.kIn O (c.get f) c.hd n hu (Jjb ru) (h u _ (I.tok _) ru)

theorem Jbr{m:Str}{g:Qd}{pl:Sem Bool}{Q:Qc×List Qc->Qe->Prop}(I:Inv X pins σ H s)(e:H a=some (.ins C dx fs))(c:Cls X.K C)(k:Meth X.K C m g)(l:fs.lookup m=none)
 (h:Q (.ref g,[.ref a]) s):wpAny (model X.prog X.w) A (getMethod (.ref a) m pl) Q E s:=by
 obtain⟨mA,O,r,_,_,_⟩:=JdS I.hok e;have hn:mA m=none:=RelO.none_of (by rw[<- l];exact r m);exact JkA I.kIn O (c.get m) k.at_ k.fn hn h

theorem Jhe{y:V}{u:Qc}{Q:Unit->Qe->Prop}(I:Inv X pins σ H s)(e:H a=some (.ins C dx fs))(c:Cls X.K C)(n:NoAttr X.K C f)(hl:fs.length<1000)(ry:RelV y u)
 (h:∀s',Inv X pins σ (upd H a (.ins C dx (putF f y fs))) s'->Q () s'):wpAny (model X.prog X.w) A (setAttr (.ref a) f u) Q E s:=by
 obtain⟨mA,O,r,wi,_,ho⟩:=JdS I.hok e;have hz:(fs.map (·.1)).length<=Qq:=by rw[QN,sizeLine_eq];omega
 refine Jod I.kIn O c.sa c.po n.taker c.hd wi hz fun h' O' sb=>h _ ?_
 have hd:∃o,h'.get? dx=some o:=let ⟨o,_,_,e',_⟩:=O'.ns;⟨o,e'⟩
 refine I.write (x:=a) (e:=dx) (by rw[e];exact True.intro) (.inr ho) (fun b q hb z=>(sb.2 b hb).trans z) hd ?_;refine⟨by rw[Jl O.ne];exact ho,?_,O.ne,O'.obj,_,O'.ns,fun g=>?_,fun g hg=>?_⟩
 ·have:=JaF f y fs;omega
 ·show RelO ((putF f y fs).lookup g) (if g=f then some u else mA g);rw[JaG]
  by_cases q:g=f
  ·rw[if_pos q,if_pos q];exact ry
  simp_all
 ·by_cases q:g=f
  ·rw[q];exact(Jaj f y fs).1
  ·refine(Jaj f y fs).2 g (wi g fun z=>hg ?_)
   simp_all

theorem Inv.made(I:Inv X pins σ H s):Inv X pins σ (upd (upd H s.heap.objs.size (.own (s.heap.objs.size+1))) (s.heap.objs.size+1) (.ins C s.heap.objs.size []))
 { s with heap:=(s.heap.push emptyDict).push (instObj C s.heap.objs.size) }:=by
 have e1:(s.heap.push emptyDict).get? s.heap.objs.size=some emptyDict:=Qj s.heap rfl
 have e2:((s.heap.push emptyDict).push (instObj C s.heap.objs.size)).get? (s.heap.objs.size+1)=some (instObj C s.heap.objs.size):=by
  have:=Qj (s.heap.push emptyDict) (o:=instObj C s.heap.objs.size) rfl
  simp_all
 have e3:(s.heap.push emptyDict).Ns s.heap.objs.size (fun _=>none):=⟨emptyDict,#[],_,e1,rfl,(fun e he=>absurd he (by simp)),fun _=>rfl⟩
 have I1:=I.laid (a:=s.heap.objs.size) (o:=.own (s.heap.objs.size+1)) (h':=s.heap.push emptyDict) (t':=s.toks) (fun b u q=>Qf _ q) (Qo _) ⟨_,e1⟩;refine I1.laid (a:=s.heap.objs.size+1) (o:=.ins C s.heap.objs.size []) (t':=s.toks) (fun b u q=>Qf _ q) (RJ (GD _ _)) ?_
 have ne:s.heap.objs.size≠s.heap.objs.size+1:=QQ (Lb _);refine⟨by rw[Jl ne,Jw],GS _,ne,e2,fun _=>none,(Heap.Ns1.of_empty e3).at fun o q=>Qf _ q,fun _=>True.intro,fun y hy=>absurd rfl hy⟩

theorem Jmp{prog:Qu}{w:QJ}{env:Env}{e:Q4}{f:Str}{pos:Pos}{s:Qe}{Q:Qc->Qe->Prop}(hb:attributeBase e f env (eval e env)=eval e env)
 (h:wpAny (model prog w) A (eval e env) (fun o s₁=>wpAny (model prog w) A (getAttr o f true) Q E s₁) E s):wpAny (model prog w) A (eval (.Attribute e f pos) env) Q E s :=
 Attribute_any_ h (by rw[arm_eval_Attribute,hb])
end

noncomputable def Jol(K:Qw)(ta:TE)(f:Str):TE:=fun σ H Q=>ta σ H fun x H1=>∃a C dx fs v,x=.ref a/\H1 a=some (.ins C dx fs)/\Cls K C/\NoAttr K C f/\fs.lookup f=some v/\Q v H1
noncomputable def JjK(K:Qw)(ta tv:TE)(f:Str):TS:=fun D σ H=>tv σ H fun y H1=>ta σ H1 fun x H2=>∃a C dx fs,x=.ref a/\H2 a=some (.ins C dx fs)/\Cls K C/\NoAttr K C f/\fs.length<1000 ∧
 D.nx σ (upd H2 a (.ins C dx (putF f y fs)))
section
variable{X:Cx}{o e value:Q4}{f:Str}{pos pos' tpos:Pos}{ta tv:TE}
theorem JqC(he:PE X e ta)(hb:attributeBase e f X.env (eval e X.env)=eval e X.env):PE X (.Attribute e f pos) (Jol X.K ta f):=by intro pins s σ H Q I h;refine Jmp hb (thn (he pins s σ H _ I h) fun u s1 ⟨x,H1,I1,rx,a,C,dx,fs,v,ex,ea,c,n,l,q⟩=>?_);subst ex;obtain rfl:u=Value.ref a:=rx;exact Jgy I1 ea c n l fun u' s2 I2 ru=>⟨v,H1,I2,ru,q⟩
theorem JqK(ha:PE X o ta)(hv:PE X value tv)(hs:swapsWith value (some (.Attribute o f pos')) pos.line X.env=pure false):PS X (.Assign [.Attribute o f pos'] value pos) (JjK X.K ta tv f):=by intro pins s σ H D I h;refine plainObj_wpAny_Assign_Attribute (thn (hv pins s σ H _ I h) fun u s1 ⟨y,H1,I1,ry,q⟩=>thn (ha pins s1 σ H1 _ I1 q) fun ov s2 ⟨x,H2,I2,rx,a,C,dx,fs,ex,ea,c,n,l,q2⟩=>?_) hs;subst ex;obtain rfl:ov=Value.ref a:=rx;exact Jhe I2 ea c n l ry fun s3 I3=>⟨σ,_,I3,q2⟩
end

section
variable{X:Cx}{pins:List (Qd×Obj)}{σ:St}{H:Hp}{s:Qe}{A:QI}{E:Qc->Qe->Prop}{Q:Qc->Qe->Prop}{c:Qc}{b:Bool}
inductive TyOf (K:Qw) (H:Hp):V->Qc->Prop where
 | non:TyOf K H .non (.type "NoneType")
 | bl (x:Bool):TyOf K H (.bl x) (.type "bool")
 | int (i:Int):TyOf K H (.int i) (.type "int")
 | str (x:Str):TyOf K H (.str x) (.type "str")
 | flt (x:UInt64):TyOf K H (.flt x) (.type "float")
 | lst {a:Qd} {xs:List V} (e:H a=some (.lst xs)):TyOf K H (.ref a) (.type "list")
 | frz {a:Qd} {o:Obj} {xs:List V} (e:H a=some (.frz o (.lst xs))):TyOf K H (.ref a) (.type "list")
 | tup {a:Qd} {xs:List V} (e:H a=some (.tup xs)):TyOf K H (.ref a) (.type "tuple")
 | dK {a:Qd} {kvs:List (Key×V)} (e:H a=some (.dK kvs)):TyOf K H (.ref a) (.type "dict")
 | dT {a:Qd} {kvs:List (List Key×V)} (e:H a=some (.dT kvs)):TyOf K H (.ref a) (.type "dict")
 | ins {a C dx:Qd} {fs:List (Str×V)} (e:H a=some (.ins C dx fs)) (cl:Cls K C) (ha:findIn K (.ref C) "__class__"=some (some (.builtin "object.__class__")))
  (hn:RK K (.builtin "object.__class__") "__get__"=some (some (.builtin "getset_descriptor.__get__"))) (htk:PySem.W.takesIn K (.builtin "object.__class__")=some true)
  (hm:mroIn K C (.type "object")=some true):TyOf K H (.ref a) (.ref C)
end
end L2

namespace L2
open PySem PySem.Spec PyProof.Rows

structure Room (k:Nat) (A:QI):Prop where
 hd:A.handled=none
 dp:A.depth+3*k+5<recursionLimit
 un:A.units+16*k+200<cLine
theorem Room.mono{j k:Nat}{A:QI}(r:Room k A)(h:j<=k):Room j A:=⟨r.hd,by have:=r.dp;omega,by have:=r.un;omega⟩
theorem Room.deeper{k:Nat}{A:QI}(r:Room (k+1) A)(env:Env):Room k (A.deeper env) :=
 ⟨r.hd,by have:=r.dp;show A.depth+1+3*k+5<_;omega,by have:=r.un;show A.units+3+16*k+200<_;omega⟩
theorem JgK{A:QI}{C:Qd}{us:List Qc}{kw:List (Str×Qc)}:(A.under (.builtin "type.__call__" ⟨.ref C::us,kw⟩)).depth=A.depth+1:=by first | rfl | simp[RL,Code.weight,Code.isCreation,Code.isGuard,Code.isCaller,Code.frames,RM,guardIds]
theorem JgL{A:QI}{C:Qd}{us:List Qc}{kw:List (Str×Qc)}:(A.under (.builtin "type.__call__" ⟨.ref C::us,kw⟩)).units=A.units+1:=by first | rfl | simp[RL,Code.cUnits,Code.frames,RM]
theorem Room.make{k:Nat}{A:QI}(r:Room (k+1) A)(C:Qd)(us:List Qc)(kw:List (Str×Qc)):Room k (A.under (.builtin "type.__call__" ⟨.ref C::us,kw⟩)) :=
 ⟨r.hd,by have:=r.dp;rw[JgK];omega,by have:=r.un;rw[JgL];omega⟩
theorem Room.depth{k:Nat}{A:QI}(r:Room k A):A.depth<recursionLimit:=by have:=r.dp;omega
theorem Room.units{k:Nat}{A:QI}(r:Room k A):A.units+64<cLine:=by have:=r.un;omega
noncomputable def Zk:TA:=fun _ H Q=>Q [] H
noncomputable def Wb(ta:TE)(tr:TA):TA:=fun σ H Q=>ta σ H fun x H1=>tr σ H1 fun xs H2=>Q (x::xs) H2
section
variable{X:Cx}{e:Q4}{es:List Q4}{te:TE}{t:TA}{pos:Pos}
theorem Je:PA X [] Zk:=fun _ _ _ _ H Q I h=>Lr ⟨[],H,I,.nil,h⟩
theorem Ja(ha:PE X e te)(hr:PA X es t)(hs:starEach (e::es) X.env=(false,eval e X.env)::starEach es X.env:=by rfl):PA X (e::es) (Wb te t):=by intro pos pins s σ H Q I h;rw[hs];show wpAny _ _ (spliced ((false,eval e X.env)::backTo pos (starEach es X.env))) _ _ s;refine Kk (thn (ha pins s σ H _ I h) fun u s1 ⟨x,H1,I1,r1,q1⟩=>?_);exact thn (hr pos pins s1 σ H1 _ I1 q1) fun us s2 ⟨xs,H2,I2,r2,q2⟩=>⟨x::xs,H2,I2,.cons r1 r2,q2⟩

noncomputable def Jrm(t:TA):TE:=fun σ H Q=>t σ H fun xs H1=>xs.length<=Qq/\∀p,H1 p=none->Q (.ref p) (upd H1 p (.tup xs))
noncomputable def Joo(t:TA):TE:=fun σ H Q=>t σ H fun xs H1=>xs.length<=Qq/\∀p,H1 p=none->Q (.ref p) (upd H1 p (.lst xs))
theorem Ub{x1}(h:PA X es t):PE X (.Tuple es x1 pos) (Jrm t):=by intro pins s σ H Q I hq;refine wpAny_Tuple_spliced (thn (h pos pins s σ H _ I hq) fun us s1 ⟨xs,H1,I1,r,z,q⟩=>⟨by rw[<- r.length];exact z,?_⟩);have hf:H1 s1.heap.objs.size=none:=I1.hok.fresh (Qo _);refine⟨.ref s1.heap.objs.size,upd H1 s1.heap.objs.size (.tup xs),I1.laid (t':=s1.toks) (fun b u e=>Qf _ e) (Qo _) ?_,rfl,q _ hf⟩;exact⟨z,us,r,⟨_,Qj _ rfl,rfl,_,rfl⟩⟩
theorem YW(h:PA X es t):PE X (.List es pos) (Joo t):=by intro pins s σ H Q I hq;refine wpAny_List_spliced (thn (h pos pins s σ H _ I hq) fun us s1 ⟨xs,H1,I1,r,z,q⟩=>⟨by rw[<- r.length];exact z,?_⟩);have hf:H1 s1.heap.objs.size=none:=I1.hok.fresh (Qo _);refine⟨.ref s1.heap.objs.size,upd H1 s1.heap.objs.size (.lst xs),I1.laid (t':=s1.toks) (fun b u e=>Qf _ e) (Qo _) ?_,rfl,q _ hf⟩;exact⟨z,us,0,r,Qj _ rfl⟩
end

noncomputable abbrev Sp:=List V->Hp->VK->XK->Prop
noncomputable abbrev CXT:=List Env->Hp->Qe->XK->Qc->Qe->Prop

structure Env0 (P:Qu) (w:QJ) (K:Qw) (mg:Str->Option Qc) (base:Q0) (A:QI) (outer:List Env) (s:Qe) (H:Hp):Prop where
 frames:A.frames=some outer
 mod:Mod K mg base
 bs:∀b o,base.get? b=some o->s.heap.get? b=some o/\H b=none
 bsz:base.objs.size<=s.heap.objs.size
 funs:s.heap.FunFrames base outer
 frf:∀b∈frs outer,H b=none
 hok:HOk P w H s.heap
 bare:AllBare s.gens
noncomputable def CE(outer:List Env)(P:Qu)(w:QJ)(H:Hp)(s:Qe)(Q:VK)(u:Qc)(s':Qe):Prop :=
 ∃v H',s'.os=s.os/\AllBare s'.gens/\Un (frs outer) [] H H' s.heap s'.heap/\HOk P w H' s'.heap/\RelV v u/\Q v H'
noncomputable def CR(CX:CXT)(outer:List Env)(P:Qu)(w:QJ)(H:Hp)(s:Qe)(Q:VK)(E:XK)(r:MB)(s':Qe):Prop :=
 match r with
 | .ok (.ret u)=>CE outer P w H s Q u s'
 | .ok _=>False
 | .error e=>CX outer H s E e s'
structure FnOk (P:Qu) (w:QJ) (K:Qw) (mg:Str->Option Qc) (base:Q0) (CX:CXT) (k:Nat) (f:Qd) (fd:Qz) (ps:List Str) (sp:Sp):Prop where
 len:∀vs H Q E,sp vs H Q E->vs.length=ps.length
 run:∀(A:QI) (outer:List Env) (s:Qe) (H:Hp) (args:Args) (us:List Qc) (vs:List V) (Q:VK) (E:XK),Room k A->Env0 P w K mg base A outer s H->BindsTo s fd args (ps.zip us)->Vals vs us->sp vs H Q E ->
  codeAny (model P w) A (.call (.ref f) args) (CR CX outer P w H s Q E) s
theorem FnOk.imp{P:Qu}{w:QJ}{K:Qw}{mg:Str->Option Qc}{base:Q0}{CX:CXT}{k:Nat}{f:Qd}{fd:Qz}{ps:List Str}{sp sp':Sp}(F:FnOk P w K mg base CX k f fd ps sp)
 (h:∀vs H Q E,sp' vs H Q E->sp vs H Q E):FnOk P w K mg base CX k f fd ps sp' :=
 ⟨fun vs H Q E q=>F.len vs H Q E (h _ _ _ _ q),fun A outer s H args us vs Q E hr he hb hv hs=>F.run A outer s H args us vs Q E hr he hb hv (h _ _ _ _ hs)⟩

theorem Env0.make{P:Qu}{w:QJ}{K:Qw}{mg:Str->Option Qc}{base:Q0}{A:QI}{outer:List Env}{s:Qe}{H:Hp}(e:Env0 P w K mg base A outer s H)(C:Qd)(us:List Qc)(kw:List (Str×Qc)) :
 Env0 P w K mg base (A.under (.builtin "type.__call__" ⟨.ref C::us,kw⟩)) outer s H:=⟨by first | exact e.frames | (simpa [RL,Code.envs,RM,pushEnvs] using e.frames),e.mod,e.bs,e.bsz,e.funs,e.frf,e.hok,e.bare⟩
section
variable{X:Cx}{pins:List (Qd×Obj)}{σ:St}{H:Hp}{s s':Qe}
theorem Inv.env0(I:Inv X pins σ H s):Env0 X.prog X.w X.K X.mg X.base X.A X.stack s H :=
 ⟨I.ok.frames,I.ok.mod,I.bs,Gj I.ok.bsz I.sz,I.stack,I.stkFree,I.hok,I.bare⟩
theorem Inv.after{Q:VK}{u:Qc}(I:Inv X pins σ H s)(h:CE X.stack X.prog X.w H s Q u s'):EP X pins σ Q u s':=by obtain⟨v,H',os,bare,un,hok,r,q⟩:=h;obtain⟨hh,g,d,t,os'⟩:=s';obtain rfl:os'=s.os:=os;exact⟨v,H',I.call (h':=hh) (g':=g) (d':=d) (t':=t) (ch:=[]) un hok bare (fun b z=>absurd z (by simp)),r,q⟩
end

noncomputable def JfX(sp:Sp)(dvs:List V)(E:XK)(t:TA):TE:=fun σ H Q=>t σ H fun vs H1=>sp (vs++dvs) H1 Q E
noncomputable def Jda(C:Qd)(m:Str)(sp:Sp)(dvs:List V)(E:XK)(ta:TE)(t:TA):TE:=fun σ H Q=>ta σ H fun x H1=>∃a dx fs,x=.ref a/\H1 a=some (.ins C dx fs)/\fs.lookup m=none ∧
 t σ H1 fun vs H2=>sp (x::(vs++dvs)) H2 Q E
noncomputable def JfZ(C:Qd)(sp:Sp)(dvs:List V)(E:XK)(t:TA):TE:=fun σ H Q=>t σ H fun vs H1=>∀x dx,H1 x=none->H1 dx=none->dx≠x ->
 sp (.ref x::(vs++dvs)) (upd (upd H1 dx (.own x)) x (.ins C dx [])) (fun v H2=>v=.non/\Q (.ref x) H2) E

noncomputable def Binds(K:Qw)(fd:Qz)(ps:List Str)(ds:List Qc):Prop :=
 ∀(s:Qe) (us:List Qc),K.In s.heap->(us++ds).length=ps.length->BindsTo s fd ⟨us,[]⟩ (ps.zip (us++ds))
theorem Binds.all{K:Qw}{fd:Qz}{ps:List Str}(h:∀us:List Qc,us.length=ps.length->bindArgs fd ⟨us,[]⟩=pure (ps.zip us)):Binds K fd ps []:=fun s us _ hl=>by rw[Gg] at hl ⊢;exact .of_eq (h us hl)

noncomputable def WT(CX:CXT)(X:Cx)(E:XK):Prop:=∀(pins:List (Qd×Obj)) (σ:St) (H:Hp) (s:Qe) (e:Qc) (s':Qe),Inv X pins σ H s->CX X.stack H s E e s'->X.xe e s'

section
variable{X:Cx}{CX:CXT}{k:Nat}{f C:Qd}{fd:Qz}{ps:List Str}{sp:Sp}{dvs:List V}{ds:List Qc}{E:XK}{x m:Str}{p pos apos:Pos}{e o:Q4}{es:List Q4}{ta:TE}{t:TA}

theorem Jg6{pins:List (Qd×Obj)}{σ:St}{H:Hp}{s:Qe}{Q:VK}{us:List Qc}{vs:List V}(F:FnOk X.prog X.w X.K X.mg X.base CX k f fd ps sp)(hr:Room k X.A)(hb:Binds X.K fd ps ds)(hd:Vals dvs ds)(hx:WT CX X E)
 (I:Inv X pins σ H s) (r:Vals vs us) (h:sp (vs++dvs) H Q E):wpAny (model X.prog X.w) X.A (call (.ref f) us) (EP X pins σ Q) X.xe s:=by
 have r2:Vals (vs++dvs) (us++ds):=r.append hd
 have hl:(us++ds).length=ps.length:=by rw[<- r2.length];exact F.len _ _ _ _ h
 refine wpAny_call (Ls (F.run X.A X.stack s H ⟨us,[]⟩ (us++ds) (vs++dvs) Q E hr I.env0 (hb s us I.kIn hl) r2 h) fun r s' hq=>?_)
 cases r with
 | error e=>exact hx pins σ H s e s' I hq
 | ok fl =>
  cases fl with
  | ret u=>exact I.after hq
  | next=>exact G8 hq
  | brk=>exact G8 hq
  | cont=>exact G8 hq

theorem JnD(F:FnOk X.prog X.w X.K X.mg X.base CX k f fd ps sp)(hr:Room k X.A)(hg:Gl X x)(hm:X.mg x=some (.ref f))(hk:keepIn X.K (.ref f)=true)(hb:Binds X.K fd ps ds)(hd:Vals dvs ds)(hx:WT CX X E)
 (ha:PA X (e::es) t) (hdb:(x == ("__debug__":Str))=false:=by decide) (he:starEach (e::es) X.env=(false,eval e X.env)::starEach es X.env:=by rfl) (hpl:(backTo pos (starEach es X.env)).any (·.1)=false:=by rfl) :
 PE X (.Call (.Name x p) (e::es) [] pos) (JfX sp dvs E t):=by
 intro pins s σ H Q I h;refine Kl (JdU I hg hm ?_ hdb);refine callWith_K (h₀:=X.base) I.ok.mod.kin hk (thn (ha pos pins s σ H _ I h) fun us s1 ⟨vs,H1,I1,r,q⟩=>⟨I1.kIn,?_⟩) he hpl;exact Jg6 F hr hb hd hx I1 r q
theorem JnH{pl:Sem Bool}(he:PE X o ta)(c:Cls X.K C)(hm:Meth X.K C m f)(F:FnOk X.prog X.w X.K X.mg X.base CX k f fd ps sp)(hr:Room k X.A)(hb:Binds X.K fd ps ds)(hd:Vals dvs ds)(hx:WT CX X E)(ha:PA X (e::es) t)
 (hst:starEach (e::es) X.env=(false,eval e X.env)::starEach es X.env:=by rfl) (hpl:(backTo pos (starEach es X.env)).any (·.1)=false:=by rfl)
 (ht:eval (.Call (.Attribute o m apos) (e::es) [] pos) X.env=(do
  let ov <- eval o X.env
  standAt apos.atName
  let (f,first) <- holding [ov] (getMethod ov m pl)
  callWith pos f first (backTo pos (starEach (e::es) X.env)) (backToKw pos (keywordEach [] X.env))):=by rfl) :
 PE X (.Call (.Attribute o m apos) (e::es) [] pos) (Jda C m sp dvs E ta t):=by
 intro pins s σ H Q I h;refine Ra (pl:=pl) (thn (he pins s σ H _ I h) fun u s1 ⟨x,H1,I1,rx,a,dx,fs,ex,ea,l,q⟩=>?_) ht;subst ex;obtain rfl:u=Value.ref a:=rx;refine Jbr I1 ea c hm l ?_;refine callWith_K (first:=[.ref a]) (h₀:=X.base) I.ok.mod.kin hm.kp (thn (ha pos pins s1 σ H1 _ I1 q) fun us s2 ⟨vs,H2,I2,r,q2⟩=>⟨I2.kIn,?_⟩) hst hpl;exact Jg6 (us:=.ref a::us) (vs:=.ref a::vs) F hr hb hd hx I2 (.cons rfl r) q2
theorem Jlh{pl:Sem Bool}(he:PE X o ta)(c:Cls X.K C)(hm:Meth X.K C m f)(F:FnOk X.prog X.w X.K X.mg X.base CX k f fd ps sp)(hr:Room k X.A)(hb:Binds X.K fd ps ds)(hd:Vals dvs ds)(hx:WT CX X E)
 (ht:eval (.Call (.Attribute o m apos) [] [] pos) X.env=(do
  let ov <- eval o X.env
  standAt apos.atName
  let (f,first) <- holding [ov] (getMethod ov m pl)
  callWith pos f first (backTo pos (starEach [] X.env)) (backToKw pos (keywordEach [] X.env))):=by rfl) :
 PE X (.Call (.Attribute o m apos) [] [] pos) (Jda C m sp dvs E ta Zk):=by
 intro pins s σ H Q I h;refine Ra (pl:=pl) (thn (he pins s σ H _ I h) fun u s1 ⟨x,H1,I1,rx,a,dx,fs,ex,ea,l,q⟩=>?_) ht;subst ex;obtain rfl:u=Value.ref a:=rx;refine Jbr I1 ea c hm l ?_;exact PySem.W.callWith_K0 (first:=[.ref a]) I1.kIn hm.kp (Jg6 (us:=[.ref a]) (vs:=[.ref a]) F hr hb hd hx I1 (.cons rfl .nil) q)

structure Mk (K:Qw) (C f:Qd):Prop where
 makes:makesIn K C=true
 init:findIn K (.ref C) "__init__"=some (some (.ref f))
 fn:isFn K (.ref f)=true
 kp:keepIn K (.ref C)=true

theorem JlG{pins:List (Qd×Obj)}{σ:St}{H:Hp}{s:Qe}{Q:VK}{us:List Qc}{vs:List V}(M:Mk X.K C f)(F:FnOk X.prog X.w X.K X.mg X.base CX k f fd ps sp)(hr:Room (k+1) X.A)(hb:Binds X.K fd ps ds)(hd:Vals dvs ds)
 (hx:WT CX X E) (I:Inv X pins σ H s) (r:Vals vs us)
 (h:∀x dx,H x=none->H dx=none->dx≠x->sp (.ref x::(vs++dvs)) (upd (upd H dx (.own x)) x (.ins C dx [])) (fun v H2=>v=.non/\Q (.ref x) H2) E) :
 wpAny (model X.prog X.w) X.A (call (.ref C) us) (EP X pins σ Q) X.xe s:=by
 have hq:=h (s.heap.objs.size+1) s.heap.objs.size (I.hok.fresh (Rn _)) (I.hok.fresh (Qo _)) (QQ (Lb _))
 have I2:=Inv.made (C:=C) I
 have r2:Vals (V.ref (s.heap.objs.size+1)::(vs++dvs)) (Value.ref (s.heap.objs.size+1)::(us++ds)):=.cons rfl (r.append hd)
 have hl:(Value.ref (s.heap.objs.size+1)::us++ds).length=ps.length:=by have e:=r2.length;rw[F.len _ _ _ _ hq] at e;exact e.symm
 refine wpAny_call (Jk2 (f:=f) I.kIn M.makes M.init (beq_iff_eq.mp M.fn) (Ls (F.run _ X.stack _ _ ⟨Value.ref (s.heap.objs.size+1)::us,[]⟩ (Value.ref (s.heap.objs.size+1)::(us++ds)) _ _ E (hr.make C us [])
  (I2.env0.make C us []) (hb _ (Value.ref (s.heap.objs.size+1)::us) I2.kIn hl) r2 hq) fun r s' hq'=>?_))
 cases r with
 | error e=>exact hx pins σ _ _ e s' I2 hq'
 | ok fl =>
  cases fl with
  | ret u=>obtain⟨v,H',I3,rv,ev,q3⟩:=I2.after hq';subst ev;exact⟨rv,⟨V.ref (s.heap.objs.size+1),H',I3,rfl,q3⟩⟩
  | next=>exact G8 hq'
  | brk=>exact G8 hq'
  | cont=>exact G8 hq'
theorem JnG(M:Mk X.K C f)(F:FnOk X.prog X.w X.K X.mg X.base CX k f fd ps sp)(hr:Room (k+1) X.A)(hg:Gl X x)(hm:X.mg x=some (.ref C))(hb:Binds X.K fd ps ds)(hd:Vals dvs ds)(hx:WT CX X E)
 (ha:PA X (e::es) t) (hdb:(x == ("__debug__":Str))=false:=by decide) (he:starEach (e::es) X.env=(false,eval e X.env)::starEach es X.env:=by rfl) (hpl:(backTo pos (starEach es X.env)).any (·.1)=false:=by rfl) :
 PE X (.Call (.Name x p) (e::es) [] pos) (JfZ C sp dvs E t):=by
 intro pins s σ H Q I h;refine Kl (JdU I hg hm ?_ hdb);refine callWith_K (h₀:=X.base) I.ok.mod.kin M.kp (thn (ha pos pins s σ H _ I h) fun us s1 ⟨vs,H1,I1,r,q⟩=>⟨I1.kIn,?_⟩) he hpl;exact JlG M F hr hb hd hx I1 r q
end

section
variable{X:Cx}{CX:CXT}{k:Nat}{f C:Qd}{fd:Qz}{ps ks:List Str}{sp:Sp}{E:XK}{x m:Str}{p pos apos kpos:Pos}{e o:Q4}{es:List Q4}{kws:List MV}{te ta:TE}{t tk:TA}{nm:Option Str}
variable{g:List Qc->List Qc->List Qc}{gV:List V->List V->List V}
end

structure FnScope (N P:List Str) (sc:L8):Prop where
 kind:sc.kind=.function
 co:sc.isCoroutine=false
 gen:sc.isGenerator=false
 nd:N.Nodup
 pre:N.take P.length=P
 par:∀x∈P,sc.names.lookup x=some .local\/sc.names.lookup x=some .cell
 nofree:∀y∈sc.names,y.2≠.free

theorem JcE{kindOf:Str->Option NameKind}{x:Str}:∀{binds:List (Str×Qc)} {m:Str->Option Qc},(∀v,(x,v)∉binds)->bindL kindOf binds m x=m x
 | [],_,_=>rfl
 | (n,v)::r,m,h=>by
  unfold bindL;rw[JcE fun w hw=>h w (Qh _ hw)];split
  ·grind
  ·rfl
theorem JcC{kindOf:Str->Option NameKind}{x:Str}:∀{binds:List (Str×Qc)} {m:Str->Option Qc},(∀v,(x,v)∉binds)->bindC kindOf binds m x=m x
 | [],_,_=>rfl
 | (n,v)::r,m,h=>by
  unfold bindC;rw[JcC fun w hw=>h w (Qh _ hw)];split
  ·rfl
  grind
theorem JcD{kindOf:Str->Option NameKind}{x:Str}{v:Qc}:∀{P:List Str} {vs:List Qc} {i:Nat} {m:Str->Option Qc},P.Nodup->P[i]?=some x->vs[i]?=some v->kindOf x=some .local ->
 bindL kindOf (P.zip vs) m x=some v
 | [],_,_,_,_,h,_,_=>by simp at h
 | _::_,[],_,_,_,_,h,_=>by simp at h
 | p::P,w::vs,0,m,nd,h1,h2,hk=>by simp at h1 h2;subst h1;subst h2;show bindL kindOf ((p,w)::P.zip vs) m p=_;unfold bindL;rw[JcE fun v hv=>(Ge.mp nd).1 (Li hv).1,if_pos hk];simp
 | p::P,w::vs,i+1,m,nd,h1,h2,hk=>by show bindL kindOf ((p,w)::P.zip vs) m x=_;unfold bindL;exact JcD (i:=i) (Ge.mp nd).2 (by simpa using h1) (by simpa using h2) hk
theorem JcB{kindOf:Str->Option NameKind}{x:Str}{v:Qc}:∀{P:List Str} {vs:List Qc} {i:Nat} {m:Str->Option Qc},P.Nodup->P[i]?=some x->vs[i]?=some v->kindOf x≠some .local ->
 bindC kindOf (P.zip vs) m x=some v
 | [],_,_,_,_,h,_,_=>by simp at h
 | _::_,[],_,_,_,_,h,_=>by simp at h
 | p::P,w::vs,0,m,nd,h1,h2,hk=>by simp at h1 h2;subst h1;subst h2;show bindC kindOf ((p,w)::P.zip vs) m p=_;unfold bindC;rw[JcC fun v hv=>(Ge.mp nd).1 (Li hv).1,if_neg hk];simp
 | p::P,w::vs,i+1,m,nd,h1,h2,hk=>by show bindC kindOf ((p,w)::P.zip vs) m x=_;unfold bindC;exact JcB (i:=i) (Ge.mp nd).2 (by simpa using h1) (by simpa using h2) hk

noncomputable def Y4(N:List Str)(vs:List V):St:=vs.map some++Qv (N.length-vs.length) none

noncomputable def Jcp(CX:CXT)(P:Qu)(w:QJ)(K:Qw)(mg:Str->Option Qc)(base:Q0)(N:List Str)(qual:Str)(scope:L8)(f:Qd)(cd:Qc)(A:QI)(outer:List Env)(s:Qe)(H:Hp)(E:XK):Cx where
 prog:=P
 w:=w
 K:=K
 mg:=mg
 base:=base
 A:=A.deeper (envOfC qual scope s.heap.objs.size f cd)
 N:=N
 s₀:=s
 H₀:=H
 env:=envOfC qual scope s.heap.objs.size f cd
 outer:=outer
 stack:=envOfC qual scope s.heap.objs.size f cd::outer
 ex:=[]
 calm:=true
 fn:=fun _=>true
 pn:=[]
 xe:=fun e s'=>wpAny (model P w) (A.deeper (envOfC qual scope s.heap.objs.size f cd)) (leaving (envOfC qual scope s.heap.objs.size f cd) e) (fun _ s''=>CX outer H s E e s'') (fun e' s''=>CX outer H s E e' s'') s'

theorem JeP{sc:L8}{n:Nat}{x:Str}(h:sc.names.lookup x=some .cell):∃c,(cellsFrom n sc.names []).lookup x=some c:=by have q:=MW sc.names n [] (.inl h);exact MC.mp q

theorem Jjd{CX:CXT}{P:Qu}{w:QJ}{K:Qw}{mg:Str->Option Qc}{base:Q0}{N ps:List Str}{qual:Str}{scope:L8}{f:Qd}{cd:Qc}{A:QI}{outer:List Env}{s s1:Qe}{H:Hp}{E:XK}{us:List Qc}{vs:List V}
 (S:FnScope N ps scope) (hd:A.handled=none) (e0:Env0 P w K mg base A outer s H) (hl:vs.length=ps.length) (r:Vals vs us)
 (x:InCallC s s.heap.objs.size (bindL (envOfC qual scope s.heap.objs.size f cd).kindOf (ps.zip us) fun _=>none) (cellsFrom (s.heap.objs.size+1) scope.names []) (bindC (envOfC qual scope s.heap.objs.size f cd).kindOf (ps.zip us) fun _=>none) s1) :
 Inv (Jcp CX P w K mg base N qual scope f cd A outer s H E) [] (Y4 N vs) H s1:=by
 have hpl:ps.length<=N.length:=by have:=congrArg List.length S.pre;grind
 obtain⟨h1,tk,rfl,hk⟩:=x.done;have noA:∀b:Qd,b∉(Jcp CX P w K mg base N qual scope f cd A outer s H E).ex:=fun b z=>absurd (show b∈([]:List Qd) from z) (by simp)
 refine⟨⟨e0.mod,S.kind,rfl,rfl,Qo _,fun y z c h1 h2=>?_,fun y hy=>?_,fun y c _ h=>?_,fun _=>hd,Around.frames_deeper e0.frames,.inr ⟨rfl,rfl⟩,fun b z=>absurd z (noA b),e0.bs,e0.bsz,fun b _ _=>noA b,fun b z=>absurd z (noA b),e0.funs,e0.frf⟩,
  rfl,e0.bare,Un.kept hk,⟨_,x.toInCall.ns,fun i y v h1 h2 h3=>?_⟩,fun y c h=>⟨_,x.cell y c h⟩,e0.hok.fresh (Qo _),fun y c h=>?_,fun p hp=>absurd (show p∈([]:List (Qd×Obj)) from hp) (by simp),e0.hok.kept hk,?_⟩
 ·exact name_of_addr x.apart (G9 h1) (G9 h2)
 ·have hy:scope.names.lookup y=some .cell\/scope.names.lookup y=some .free:=hy;rcases hy with hy|hy
  ·exact JeP hy
  ·exact absurd rfl (S.nofree _ (G9 hy))
 ·exact Kc (x.above y c (G9 h))
 ·have hi:i<vs.length:=by
   unfold Y4 at h2
   by_cases hi:i<vs.length
   ·exact hi
   ·rw[QS (by simpa using hi)] at h2;rw[List.getElem?_replicate] at h2;split at h2 <;> cases h2
  have ha:vs[i]?=some v:=by
   unfold Y4 at h2;rw[QE (by simpa using hi),Qt] at h2
   cases e:vs[i]? with
   | none=>rw[e] at h2;cases h2
   | some a=>rw[e] at h2;cases h2;rfl
  obtain⟨u,hu,rv⟩:=r.get ha
  have hp:ps[i]?=some y:=by rw[<- S.pre,List.getElem?_take_of_lt (by omega)];exact h1
  have ndP:ps.Nodup:=by rw[<- S.pre];exact S.nd.sublist (List.take_sublist _ _)
  refine⟨u,rv,?_⟩;rcases S.par y (QG hp) with k|k
  ·exact .inl ⟨k,JcD ndP hp hu k⟩
  ·obtain⟨c,e⟩:=JeP (n:=s.heap.objs.size+1) k;refine .inr ⟨.inl k,c,e,?_⟩;have q:=x.cell y c e;rw[JcB ndP hp hu (by show scope.names.lookup y≠_;rw[k];decide)] at q;exact q
 ·exact e0.hok.fresh (Kc (x.above y c (G9 h)))
 ·unfold Y4;show _=N.length
  simp_all

theorem Jr0{CX:CXT}{P:Qu}{w:QJ}{K:Qw}{mg:Str->Option Qc}{base:Q0}{k:Nat}{f:Qd}{name qual:Str}{params:Arguments}{body:List GB}{scope:L8}{dV kV doc pm cdv ct oc:Qc}{an od:Option Qd}
 {osl:Array (Option Qc)} {N ps:List Str} {sp:Sp} (lk:K.lookup f=some ⟨oc,od,.func (fnOf name qual params body scope dV kV doc pm an cdv ct),osl⟩) (hcd:codeIn K cdv qual=true) (S:FnScope N ps scope)
 (len:∀vs H Q E,sp vs H Q E->vs.length=ps.length)
 (hbody:∀(A:QI) (outer:List Env) (s:Qe) (H:Hp) (vs:List V) (Q:VK) (E:XK),Room k (A.deeper (envOfC qual scope s.heap.objs.size f cdv))->sp vs H Q E ->
  ∃t,PSs (Jcp CX P w K mg base N qual scope f cdv A outer s H E) body t/\t { nx:=fun _ H'=>Q .non H',rt:=Q } (Y4 N vs) H) :
 FnOk P w K mg base CX (k+1) f (fnOf name qual params body scope dV kV doc pm an cdv ct) ps sp:=by
 refine⟨len,fun A outer s H args us vs Q E hr e0 hb r hsp=>?_⟩;have hl:=len _ _ _ _ hsp;have KX:K.In s.heap:=e0.mod.kin.keeps fun b o e=>(e0.bs b o e).1
 have lim:s.heap.NoLimit:=e0.mod.nolimit.keeps fun b o e=>(e0.bs b o e).1
 have hkind:∀y∈ps.zip us,scope.names.lookup y.1=some .local\/(scope.names.lookup y.1=some .cell/\((cellsFrom (s.heap.objs.size+1) scope.names []).lookup y.1).isSome=true):=fun⟨n,v⟩ hy=>by
  rcases S.par n (Li hy).1 with q|q
  ·exact .inl q
  ·exact .inr ⟨q,MW _ _ _ (.inl q)⟩
 refine codeAny_call_function hr.depth (KX _ _ lk) rfl S.co S.gen rfl (PySem.W.codeRec_of KX hcd) (hb _ _ _ _ ?_);refine wpAny_newFunctionEnv_cells S.kind hkind fun env he s1 x=>?_
 subst he;refine⟨lim.keeps x.toInCall.keep,codeAny_func ?_⟩;obtain⟨t,ht,hq⟩:=hbody A outer s H vs Q E (hr.deeper _) hsp;have I:Inv (Jcp CX P w K mg base N qual scope f cdv A outer s H E) [] (Y4 N vs) H s1:=Jjd S hr.hd e0 hl r x;refine K4 (ht [] s1 (Y4 N vs) H _ I hq) (fun fl s' hs=>?_) fun e s' hs=>hs
 have fin:∀{σ':St} {H':Hp} {v:V} {u:Qc},Inv (Jcp CX P w K mg base N qual scope f cdv A outer s H E) [] σ' H' s'->RelV v u->Q v H'->CE outer P w H s Q u s' :=
  fun {σ' H' v u} J rv q=>⟨v,H',J.os,J.bare,J.base,J.hok,rv,q⟩
 cases fl with
 | ret u=>obtain⟨v,σ',H',J,rv,q⟩:=hs;exact fin J rv q
 | next=>obtain⟨σ',H',J,q⟩:=hs;exact fin (v:=V.non) (u:=Value.none) J rfl q
 | brk=>obtain⟨_,_,_,q⟩:=hs;exact G8 q
 | cont=>obtain⟨_,_,_,q⟩:=hs;exact G8 q
end L2

namespace L2
open PySem PySem.Spec PyProof.Rows
section
variable{X:Cx}{x:Str}{p pos:Pos}{e:Q4}{es:List Q4}{t:TA}{id T:String}{r:List V->Hp->VK->Prop}

noncomputable def tCB(r:List V->Hp->VK->Prop)(t:TA):TE:=fun σ H Q=>t σ H fun vs H1=>r vs H1 Q
theorem JE(hc:YD X (.builtin id) r)(hg:Gl X x)(hm:X.mg x=none)(hv:bootBuiltins x=some (.builtin id))(ha:PA X (e::es) t)(hn:x≠"__name__":=by decide)(hdb:(x == ("__debug__":Str))=false:=by decide)
 (he:starEach (e::es) X.env=(false,eval e X.env)::starEach es X.env:=by rfl) (hpl:(backTo pos (starEach es X.env)).any (·.1)=false:=by rfl):PE X (.Call (.Name x p) (e::es) [] pos) (tCB r t):=by
 intro pins s σ H Q I h;refine Kl (Vb I hg hm hv ?_ hn hdb);exact PyProof.Rows.callWith_builtin1 (thn (ha pos pins s σ H _ I h) fun us s1 ⟨vs,H1,I1,r1,q1⟩=>hc pins s1 σ H1 vs us Q I1 r1 q1) he hpl
theorem Yo(hc:YD X (.type T) r)(hg:Gl X x)(hm:X.mg x=none)(hv:bootBuiltins x=some (.type T))(ha:PA X (e::es) t)(hn:x≠"__name__":=by decide)(hdb:(x == ("__debug__":Str))=false:=by decide)
 (he:starEach (e::es) X.env=(false,eval e X.env)::starEach es X.env:=by rfl) (hpl:(backTo pos (starEach es X.env)).any (·.1)=false:=by rfl):PE X (.Call (.Name x p) (e::es) [] pos) (tCB r t):=by
 intro pins s σ H Q I h;refine Kl (Vb I hg hm hv ?_ hn hdb);exact Gk (thn (ha pos pins s σ H _ I h) fun us s1 ⟨vs,H1,I1,r1,q1⟩=>hc pins s1 σ H1 vs us Q I1 r1 q1) he hpl
end
end L2

namespace HT
open PySem PyProof.Rows

theorem Jkn(A:QI)(s:Qe)(a:Int)(t:Tok)(c:Int)(u:Tok):∃e,SeqAt.EqAt A s (.int a t) (.int c u) e/\(e=true↔a=c) :=
 ⟨(a == c),RF a t c u,by simp⟩
section
open PySem.SeqAt
open PySem.AutoSeq1 (wpAny_loadPart')
open PySem.MeetsSeq PySem.MeetsSeq2 PySem.MeetsSeq3

end

section
variable{prog:Qu}{w:QJ}{A:QI}{E:Qc->Qe->Prop}{s:Qe}

theorem Jmt{t b:Qd}{vs ws:List Qc}{Q:Qc->Qe->Prop}(ht:IsTup s.heap t vs.toArray)(hb:IsTup s.heap b ws.toArray)(hv:vs≠[])
 (h1:ws=[]->Q (.ref t) s) (h2:ws≠[]->Q (.ref s.heap.objs.size) { s with heap:=s.heap.push { cls:=.type "tuple",data:=.seq (vs++ws).toArray } })
 (hsz:vs.length+ws.length<=Qq):wpAny (model prog w) A (binaryOp .Add (.ref t) (.ref b)) Q E s:=by
 obtain⟨⟨cls,dd,data,sl⟩,ho,hc,n,hd⟩:=id ht;obtain⟨⟨cls2,dd2,data2,sl2⟩,ho2,hc2,n2,hd2⟩:=id hb;simp only at hc hd hc2 hd2;subst hc hd hc2 hd2;have e:vs.toArray++ws.toArray=(vs++ws).toArray:=by simp
 by_cases hw:ws=[]
 ·exact concat_meets ⟨_,ho,rfl⟩ ⟨_,ho2,rfl⟩ noFill_tuple_add seq_tuple_add MX MK (MD _ _)
   (tuple_addW1 t b vs.toArray ws.toArray n n2 dd dd2 sl sl2 (by simpa using hv) (by simp[hw])) ⟨ho,ho2,h1 hw⟩
 ·refine concat_meets ⟨_,ho,rfl⟩ ⟨_,ho2,rfl⟩ noFill_tuple_add seq_tuple_add MX MK (MD _ _)
   (tuple_addW2 t b vs.toArray ws.toArray n n2 dd dd2 sl sl2 (by simpa using hv) (by simpa using hw) (by omega)) ⟨ho,ho2,?_⟩
  rw[e];exact h2 hw

noncomputable def sIx(n d:Nat):Option Int->Nat
 | none=>d
 | some v=>if v<0 then(v+(n:Int)).toNat else min v.toNat n
theorem JlH(n d:Nat):sIx n d none=d:=rfl
theorem Jn4(n d k:Nat):sIx n d (some (k:Int))=min k n:=by show(if (k:Int)<0 then((k:Int)+(n:Int)).toNat else min (k:Int).toNat n)=min k n;rw[if_neg (by omega),K1]
theorem Jra(n d:Nat)(hd:d<=n)(o:Option Int):sIx n d o<=n:=by
 cases o with
 | none=>exact hd
 | some v =>
  show(if v<0 then(v+(n:Int)).toNat else min v.toNat n)<=n
  grind
theorem JhD(v:Int)(n d:Nat):(if v<0 then max (v+(n:Int)) 0 else min v (n:Int))=((sIx n d (some v):Nat):Int):=by
 show(if v<0 then max (v+(n:Int)) 0 else min v (n:Int))=(((if v<0 then(v+(n:Int)).toNat else min v.toNat n):Nat):Int)
 grind
theorem Jgi(lo hi:Option Int)(n:Nat):Lf lo hi 1 (n:Int)=(((sIx n 0 lo:Nat):Int),((sIx n n hi:Nat):Int)):=by
 have h1:¬((1:Int)<0):=by omega
 unfold Lf;simp only[h1,if_false];refine Lh ?_ ?_
 ·cases lo with
  | none=>rfl
  | some v=>exact JhD v n 0
 ·cases hi with
  | none=>rfl
  | some v=>exact JhD v n n
theorem Jg0(i j:Nat):Kp (i:Int) (j:Int) 1=j-i:=by
 unfold Kp;have h1:(1:Int)>0:=by omega
 simp only[h1,if_true,Int.ediv_one];split <;> omega
theorem Jb6{v:Qc}{o:Option Int}{Q:Option Int->Qe->Prop}(p:IsPart v o)(h:Q o s):wpAny (model prog w) A (Builtin.Slice.slicePartIndex v) Q E s:=by
 cases p with
 | none=>exact slicePart_none h
 | int i t=>exact slicePart_int h
theorem VN{sl:Qd}{vl vu:Qc}{lo hi:Option Int}{n:Nat}{Q:Int×Int×Nat->Qe->Prop}(hs:s.heap.IsSliceOf sl vl vu .none)(pl:IsPart vl lo)(pu:IsPart vu hi)
 (h:Q (((sIx n 0 lo:Nat):Int),1,sIx n n hi-sIx n 0 lo) s):wpAny (model prog w) A (Mb (.ref sl) (pure (n:Int))) Q E s:=by
 obtain⟨os,hos,hcs,hds⟩:=id hs;unfold Mb Builtin.Slice.sliceFields;refine Qa (Qa (QO hos hds (x:=vl) rfl (Qa (QO hos hds (x:=vu) rfl (Qa (QO hos hds (x:=.none) rfl (Qk ?_)))))));refine Qa (slicePart_none ?_);show wpAny _ _ (if ((1:Int) == 0)=true then _ else _) _ _ s;rw[if_neg (by decide)];refine Qa (Jb6 pl (Qa (Jb6 pu (Qa (Qk ?_)))))
 show wpAny _ _ (match Lf lo hi 1 (n:Int) with|(lo,hi)=>pure (lo,(1:Int),Kp lo hi 1)) _ _ s;rw[Jgi lo hi n]
 show wpAny _ _ (pure (((sIx n 0 lo:Nat):Int),(1:Int),Kp ((sIx n 0 lo:Nat):Int) ((sIx n n hi:Nat):Int) 1)) _ _ s;rw[Jg0];exact Qk h
theorem Jlj(xs:Array Qc)(i k:Nat):((Kj k).filterMap fun(m:Nat)=>xs[((i:Int)+(m:Int)*1).toNat]?).toArray=((xs.toList.drop i).take k).toArray:=by
 have e:(fun(m:Nat)=>xs[((i:Int)+(m:Int)*1).toNat]?)=fun m=>xs[i+m]?:=by grind
 rw[e];have:=pick_run xs i k;rw[List.filterMap_map] at this;have e2:((fun x=>xs[x]?) ∘ fun x=>i+x)=fun m=>xs[i+m]?:=rfl
 rw[e2] at this;rw[this]

theorem ZC{t sl:Qd}{items:Array Qc}{vl vu:Qc}{lo hi:Option Int}{Q:Qc->Qe->Prop}(ht:IsTup s.heap t items)(hs:s.heap.IsSliceOf sl vl vu .none)(pl:IsPart vl lo)(pu:IsPart vu hi)
 (hw:¬(sIx items.size 0 lo=0/\sIx items.size items.size hi=items.size))
 (h:Q (.ref s.heap.objs.size) { s with heap:=s.heap.push { cls:=.type "tuple",data:=.seq ((items.toList.drop (sIx items.size 0 lo)).take (sIx items.size items.size hi-sIx items.size 0 lo)).toArray } })
 (hsz:items.size<=Qq):wpAny (model prog w) A (getItem (.ref t) (.ref sl)) Q E s:=by
 have htake:sizeOk (.seq ((items.toList.drop (sIx items.size 0 lo)).take (sIx items.size items.size hi-sIx items.size 0 lo)).toArray):=by show((items.toList.drop (sIx items.size 0 lo)).take (sIx items.size items.size hi-sIx items.size 0 lo)).toArray.size<=Qq;rw[QW,Lc,LI,KA];omega
 have hj:sIx items.size items.size hi<=items.size:=Jra _ _ (Qo _) hi;obtain⟨os,hos,hcs,hds⟩:=id hs
 have hTs:s.TypeIs (.ref sl) "slice":=⟨os,hos,hcs⟩
 unfold getItem
 try with_reducible refine GQ ?_
 first|refine Qa (Qk ?_)|skip
 refine Qa (wpAny_sequenceKey ht.typeIs (by decide) ?_);refine Qa (QP (name:=Qx "__getitem__") ht.typeIs Gb
  (Q8 Gb ht.typeIs entry_tuple_getitem ?_ (args_tuple_getitem _ _)))
 show wpAny _ _ (Mc (.ref t) >>= _) _ _ s;refine Qa (tupleItemsOf_ ht ?_);refine Qa (MY hTs ?_);rw[if_pos (by decide)];refine Qa (VN hs pl pu ?_)
 have hno:¬((((sIx items.size 0 lo:Nat):Int) == 0 && (1:Int) == 1 && (sIx items.size items.size hi-sIx items.size 0 lo) == items.size)=true):=by simp_all
 show wpAny _ _ (if (((sIx items.size 0 lo:Nat):Int) == 0 && (1:Int) == 1 && (sIx items.size items.size hi-sIx items.size 0 lo) == items.size)=true then _ else _) _ _ s;rw[if_neg hno,Jlj]
 first
  | exact Qa (m:=Ky _) (Gz (Qk ⟨_,rfl,Qk h⟩) htake)
  | exact Qa (m:=Ky _) (Gz (Qa (Qk (Qk ⟨_,rfl,Qk h⟩))) htake)
  | exact Qa (Qa (m:=Ky _) (Gz (Qk (Qk ⟨_,rfl,Qk h⟩)) htake))
  | exact Qa (Qa (m:=Ky _) (Gz (Qk ⟨_,rfl,Qk h⟩) htake))
end
end HT

namespace L2
open PySem PySem.Spec PyProof.Rows

noncomputable abbrev TO:=St->Hp->(Option Int->Hp->Prop)->Prop
noncomputable def PO(X:Cx)(e:Option Q4)(t:TO):Prop :=
 ∀(pins:List (Qd×Obj)) (s:Qe) (σ:St) (H:Hp) (Q:Option Int->Hp->Prop),Inv X pins σ H s->t σ H Q ->
  wpAny (model X.prog X.w) X.A (evalPart e X.env) (fun u s'=>∃o H',Inv X pins σ H' s'/\IsPart u o/\Q o H') X.xe s
noncomputable def JiE:TO:=fun _ H Q=>Q none H
noncomputable def JoZ(t:TE):TO:=fun σ H Q=>t σ H fun x H1=>∃i,x=.int i/\Q (some i) H1

theorem U9{ns:List Int}:∀{us:List Qc},Vals (ns.map V.int) us->IntsAre us ns:=by
 induction ns with
 | nil=>intro us r;rw[G4] at r;cases r;exact .nil
 | cons n ns ih =>
  intro us r;rw[Qi] at r
  cases r with
  | cons r1 r2=>obtain⟨t,e⟩:=r1;subst e;exact .cons n t (ih r2)

section
variable{X:Cx}{e:Q4}{te:TE}{lo hi:Option Q4}{tl th:TO}{pos p2:Pos}

theorem Vn:PO X none JiE:=by intro pins s σ H Q I h;rw[evalPart_none];exact Qk ⟨none,H,I,.none,h⟩
theorem Vo(h:PE X e te):PO X (some e) (JoZ te):=by
 intro pins s σ H Q I hw;rw[evalPart_some];refine thn (h pins s σ H _ I hw) fun u s1 ⟨x,H1,I1,r1,q1⟩=>?_
 obtain⟨i,rfl,q⟩:=q1;obtain⟨t,rfl⟩:=r1;exact⟨some i,H1,I1,.int i t,q⟩

noncomputable def SlR(X:Cx)(r:V->Option Int->Option Int->Hp->VK->Prop):Prop :=
 ∀(pins:List (Qd×Obj)) (s:Qe) (σ:St) (H:Hp) (x:V) (v vl vu:Qc) (lo hi:Option Int) (sl:Qd) (Q:VK),Inv X pins σ H s->RelV x v->s.heap.IsSliceOf sl vl vu .none->IsPart vl lo->IsPart vu hi->r x lo hi H Q ->
  ∃T id,typeLookup (.type T) "__getitem__"=pure (some (.builtin id))/\s.TypeIs v T/\wpAny (model X.prog X.w) X.A (getItem v (.ref sl)) (EP X pins σ Q) X.xe s
theorem SlR.or{r r':V->Option Int->Option Int->Hp->VK->Prop}(h:SlR X r)(h':SlR X r'):SlR X (fun x lo hi H Q=>r x lo hi H Q\/r' x lo hi H Q):=by
 intro pins s σ H x v vl vu lo hi sl Q I rx hs pl pu q;rcases q with q|q
 ·exact h pins s σ H x v vl vu lo hi sl Q I rx hs pl pu q
 ·exact h' pins s σ H x v vl vu lo hi sl Q I rx hs pl pu q
noncomputable def tSl(r:V->Option Int->Option Int->Hp->VK->Prop)(te:TE)(tl th:TO):TE:=fun σ H Q=>te σ H fun x H1=>tl σ H1 fun l H2=>th σ H2 fun u H3=>r x l u H3 Q
theorem UL{r:V->Option Int->Option Int->Hp->VK->Prop}(hr:SlR X r)(he:PE X e te)(hl:PO X lo tl)(hu:PO X hi th):PE X (.Subscript e (.Slice lo hi none p2) pos) (tSl r te tl th):=by
 intro pins s σ H Q I h;refine Subscript_ (thn (he pins s σ H _ I h) fun v s1 ⟨x,H1,I1,r1,q1⟩=>?_);refine wpAny_Slice (thn (hl pins s1 σ H1 _ I1 q1) fun vl s2 ⟨l,H2,I2,pl,q2⟩=>thn (hu pins s2 σ H2 _ I2 q2) fun vu s3 ⟨u,H3,I3,pu,q3⟩=>?_);rw[evalPart_none];refine Qk ?_;have I4:Inv X pins σ H3 { s3 with heap:=s3.heap.push { cls:=.type "slice",data:=.fields #[vl,vu,.none] } }:=I3.kept (t':=s3.toks) fun b ob q=>Qf _ q
 obtain⟨T,id,hT,ht,hg⟩:=hr pins { s3 with heap:=s3.heap.push { cls:=.type "slice",data:=.fields #[vl,vu,.none] } } σ H3 x v vl vu l u s3.heap.objs.size Q I4 r1 (Heap.IsSliceOf.new ..) pl pu q3;show wpAny (model X.prog X.w) X.A (subscriptTail e (.Slice lo hi none p2) v (.ref s3.heap.objs.size)) (EP X pins σ Q) X.xe { s3 with heap:=s3.heap.push { cls:=.type "slice",data:=.fields #[vl,vu,.none] } };exact tail_any (ops:=[.ref s3.heap.objs.size,v]) ht hT hg (by with_unfolding_all rfl)

noncomputable def Jco(xs:List V)(lo hi:Option Int):List V:=(xs.drop (HT.sIx xs.length 0 lo)).take (HT.sIx xs.length xs.length hi-HT.sIx xs.length 0 lo)
theorem JaB(xs:List V)(lo hi:Option Int):(Jco xs lo hi).length<=xs.length:=by unfold Jco;rw[Lc,LI];omega
noncomputable def JsG(K:Qw):V->Option Int->Option Int->Hp->VK->Prop:=fun x lo hi H Q=>∃a xs,x=.ref a/\SqT K H a xs ∧
 ¬(HT.sIx xs.length 0 lo=0/\HT.sIx xs.length xs.length hi=xs.length)/\∀p,H p=none->Q (.ref p) (upd H p (.tup (Jco xs lo hi)))
theorem sl_tup:SlR X (JsG X.K):=by
 intro pins s σ H x v vl vu lo hi sl Q I rx hs pl pu h;obtain⟨a,xs,rfl,hx,hw,q⟩:=h;cases rx;obtain⟨its,r,ht,hz⟩:=I.tuple hx;have hlen:its.toArray.size=xs.length:=by rw[QW];exact r.length.symm
 refine⟨"tuple",_,Gb.lookup,ht.typeIs,?_⟩;refine HT.ZC ht hs pl pu (by rw[hlen];exact hw) ?_ (by rw[hlen];exact hz);rw[hlen];refine⟨.ref s.heap.objs.size,_,I.laid (t':=s.toks) (o:=.tup (Jco xs lo hi)) (fun b ob q=>Qf _ q) (Qo _) ?_,rfl,q _ (I.hok.fresh (Qo _))⟩;exact⟨Gj (JaB xs lo hi) hz,_,(r.drop (HT.sIx xs.length 0 lo)).take (HT.sIx xs.length xs.length hi-HT.sIx xs.length 0 lo),IsTup.new _ _⟩

noncomputable def JoO(K:Qw):R2:=fun x y H Q=>∃a b xs ys,x=.ref a/\y=.ref b/\SqT K H a xs/\SqT K H b ys/\xs≠[]/\xs.length+ys.length<=Qq ∧
 (ys=[]->Q (.ref a) H)/\(ys≠[]->∀p,H p=none->Q (.ref p) (upd H p (.tup (xs++ys))))
theorem Vals.nil_iff{xs:List V}{us:List Qc}(r:Vals xs us):us=[]↔xs=[]:=by
 cases r with
 | nil=>simp
 | cons _ _=>simp
theorem JnA:OpR X (binaryOp .Add) (JoO X.K):=by
 intro pins s σ H x y v u Q I rx ry h;obtain⟨a,b,xs,ys,rfl,rfl,ha,hb,hx,hz,q1,q2⟩:=h;cases rx;cases ry;obtain⟨its,r1,p1,_⟩:=I.tuple ha;obtain⟨its2,r2,p2,_⟩:=I.tuple hb;refine HT.Jmt p1 p2 (fun z=>hx (r1.nil_iff.mp z)) (fun z=>⟨.ref a,H,I,rfl,q1 (r2.nil_iff.mp z)⟩) (fun z=>?_) (by rw[<- r1.length,<- r2.length];exact hz);refine⟨.ref s.heap.objs.size,_,I.laid (t':=s.toks) (o:=.tup (xs++ys)) (fun b ob q=>Qf _ q) (Qo _) ?_,rfl,q2 (fun w=>z (r2.nil_iff.mpr w)) _ (I.hok.fresh (Qo _))⟩
 exact⟨by simp_all,_,r1.append r2,IsTup.new _ _⟩
end
end L2

namespace L2
open PySem PySem.Spec PyProof.Rows

noncomputable def ixN(n:Nat)(i:Int):Option Nat:=if 0<=i then(if i<n then some i.toNat else none) else if -(n:Int)<=i then some (i+n).toNat else none
noncomputable def atI{α:Type}(xs:List α)(i:Int):Option α:=(ixN xs.length i).bind fun j=>xs[j]?
theorem Jm2{n:Nat}{i:Int}{j:Nat}(h:ixN n i=some j):seqIndex? i n=some j/\j<n/\-(n:Int)<=i/\i<n:=by
 unfold ixN at h
 by_cases h0:0<=i
 ·rw[if_pos h0] at h
  by_cases h1:i<n
  ·rw[if_pos h1] at h;have e:i.toNat=j:=QV h;exact⟨by rw[seqIndex_of h0 h1,e],by omega,by omega,h1⟩
  simp_all
 ·rw[if_neg h0] at h
  by_cases h1:-(n:Int)<=i
  ·rw[if_pos h1] at h;have e:(i+n).toNat=j:=QV h;exact⟨by rw[seqIndex_neg (by omega) h1,e],by omega,h1,by omega⟩
  simp_all
theorem Jdi{α:Type}{xs:List α}{i:Int}{v:α}(h:atI xs i=some v):∃j,seqIndex? i xs.length=some j/\xs[j]?=some v/\j<xs.length/\-(xs.length:Int)<=i/\i<xs.length:=by
 unfold atI at h
 cases e:ixN xs.length i with
 | none=>rw[e] at h;cases h
 | some j=>rw[e] at h;obtain⟨h1,h2,h3,h4⟩:=Jm2 e;exact⟨j,h1,h,h2,h3,h4⟩
noncomputable def Jhu(b:Q4):Prop:=∀o i,subscripted b false o i=operate [o,i] (getItem o i)
noncomputable def IxR(X:Cx)(r:R2):Prop :=
 ∀(value slice:Q4) (pins:List (Qd×Obj)) (s:Qe) (σ:St) (H:Hp) (x y:V) (v u:Qc) (Q:VK),Inv X pins σ H s->RelV x v->RelV y u->r x y H Q ->
  subscripted slice false v u=operate [v,u] (getItem v u)->wpAny (model X.prog X.w) X.A (subscriptTail value slice v u) (EP X pins σ Q) X.xe s
noncomputable def MtR(X:Cx)(id:String)(r:V->List V->Hp->VK->Prop):Prop :=
 ∀(pins:List (Qd×Obj)) (s:Qe) (σ:St) (H:Hp) (x:V) (xs:List V) (v:Qc) (us:List Qc) (Q:VK),Inv X pins σ H s->RelV x v->Vals xs us->r x xs H Q ->
  wpAny (model X.prog X.w) X.A (call (.builtin id) (v::us)) (EP X pins σ Q) X.xe s
section
variable{X:Cx}{a b:Q4}{ta tb:TE}{pos:Pos}
theorem IxR.or{r r':R2}(h:IxR X r)(h':IxR X r'):IxR X (fun x y H Q=>r x y H Q\/r' x y H Q):=by
 intro value slice pins s σ H x y v u Q I rx ry q hs;rcases q with q|q
 ·exact h value slice pins s σ H x y v u Q I rx ry q hs
 ·exact h' value slice pins s σ H x y v u Q I rx ry q hs
theorem Jst{r:R2}(hr:IxR X r)(ha:PE X a ta)(hb:PE X b tb)(hs:Jhu b):PE X (.Subscript a b pos) (tOp r ta tb):=by intro pins s σ H Q I h;exact Subscript_ (Jpg ha hb I h fun v u s2 x y H2 I2 rx ry q=>hr a b pins s2 σ H2 x y v u Q I2 rx ry q (hs _ _))

noncomputable def Jsy(K:Qw):R2:=fun x y H Q=>∃p xs i v,x=.ref p/\y=.int i/\SqL K H p xs/\atI xs i=some v/\Q v H
noncomputable def JsA(K:Qw):R2:=fun x y H Q=>∃p xs i v,x=.ref p/\y=.int i/\SqT K H p xs/\atI xs i=some v/\Q v H
noncomputable def Jsz:R2:=fun x y H Q=>∃z i c,x=.str z/\y=.int i/\z.length<=Qq/\atI z.cps.toList i=some c/\Q (.str ⟨#[c]⟩) H
theorem ix_list:IxR X (Jsy X.K):=by
 intro value slice pins s σ H x y v u Q I rx ry h hs;obtain⟨p,xs,i,z,rfl,rfl,hq,he,q⟩:=h;cases rx;obtain⟨t,rfl⟩:=ry;obtain⟨its,r,pl,hz⟩:=I.list hq;obtain⟨j,h1,h2,h3,h4,h5⟩:=Jdi he;obtain⟨w,ew,rw'⟩:=r.get h2;have hl:=r.length;have hn:=JbF;have fin:EP X pins σ Q w s:=⟨z,H,I,rw',q⟩
 by_cases h0:0<=i
 ·have hj:i.toNat=j:=by rw[seqIndex_of h0 h5] at h1;exact QV h1
  exact item_listR pl.isList h0 (by omega) (by rw[hj];simpa using ew) fin hs
 ·have hj:(i+(its.toArray.size:Int)).toNat=j:=by
   rw[seqIndex_neg (by omega) h4] at h1
   simp_all
  exact subscriptTail_builtinR (x:=w) pl.isList.typeIs slot_list_getitem.lookup
   (wpAny_getItem_list_neg (Q:=fun r s'=>r=w/\EP X pins σ Q r s') pl.isList (by omega) (by simp_all) (by omega) (by rw[hj];simpa using ew) ⟨rfl,fin⟩) hs
theorem ix_tup:IxR X (JsA X.K):=by
 intro value slice pins s σ H x y v u Q I rx ry h hs;obtain⟨p,xs,i,z,rfl,rfl,hq,he,q⟩:=h;cases rx;obtain⟨t,rfl⟩:=ry;obtain⟨its,r,pl,hz⟩:=I.tuple hq;obtain⟨j,h1,h2,h3,h4,h5⟩:=Jdi he;obtain⟨w,ew,rw'⟩:=r.get h2;have hl:=r.length;have hn:=JbF;have fin:EP X pins σ Q w s:=⟨z,H,I,rw',q⟩
 exact subscriptTail_builtinR (x:=w) pl.typeIs slot_tuple_getitem.lookup
  (getItem_tuple (j:=j) (Q:=fun r s'=>r=w/\EP X pins σ Q r s') pl (by omega) (by omega) (by simp_all) (by simpa using ew) ⟨rfl,fin⟩) hs
theorem JpW:IxR X Jsz:=by
 intro value slice pins s σ H x y v u Q I rx ry h hs;obtain⟨z,i,c,rfl,rfl,hz,he,q⟩:=h;obtain⟨t,rfl⟩:=rx;obtain⟨t',rfl⟩:=ry;obtain⟨j,h1,h2,h3,h4,h5⟩:=Jdi he;have hl:z.cps.toList.length=z.length:=by simp[RG]
 rw[hl] at h1 h4 h5;have hn:=JbF;exact tail_any (typeIs_str s z t) slot_str_getitem.lookup (getItem_str (c:=c) (by
  grind) (by rw[h1];simpa using h2) ⟨.str ⟨#[c]⟩,H,I.tok _,⟨_,rfl⟩,q⟩) hs
noncomputable def rIx(K:Qw):R2:=fun x y H Q=>Jsy K x y H Q\/JsA K x y H Q\/Jsz x y H Q
theorem JpV:IxR X (rIx X.K):=ix_list.or (ix_tup.or JpW)

theorem Jeu(lo hi:Option Int)(n:Nat):(sliceBounds lo hi none n).1=((HT.sIx n 0 lo:Nat):Int)/\(sliceBounds lo hi none n).2.1=((HT.sIx n n hi:Nat):Int)/\(sliceBounds lo hi none n).2.2=1:=by
 refine⟨?_,?_,rfl⟩
 ·cases lo with
  | none=>simp[sliceBounds,HT.sIx]
  | some i =>
   simp only[sliceBounds,HT.sIx,Option.getD_none,show(1:Int)>0 by decide,if_true]
   grind
 ·cases hi with
  | none=>simp[sliceBounds,HT.sIx]
  | some i =>
   simp only[sliceBounds,HT.sIx,Option.getD_none,show(1:Int)>0 by decide,if_true]
   grind
theorem Jcu(its:List Qc)(lo hi:Option Int):slicePick its.toArray lo hi none=((its.drop (HT.sIx its.length 0 lo)).take (HT.sIx its.length its.length hi-HT.sIx its.length 0 lo)).toArray:=by obtain⟨h1,h2,h3⟩:=Jeu lo hi its.toArray.size;unfold slicePick;rw[h1,h2,h3];simp only[sliceRange_one,pick_run,QW] <;> rfl
noncomputable def JsE(K:Qw):V->Option Int->Option Int->Hp->VK->Prop:=fun x lo hi H Q=>∃a xs,x=.ref a/\SqL K H a xs/\∀p,H p=none->Q (.ref p) (upd H p (.lst (Jco xs lo hi)))
theorem sl_list:SlR X (JsE X.K):=by
 intro pins s σ H x v vl vu lo hi sl Q I rx hs pl pu h;obtain⟨a,xs,rfl,hx,q⟩:=h;cases rx;obtain⟨its,r,ht,hz⟩:=I.list hx;have hlen:=r.length;refine⟨"list",_,slot_list_getitem.lookup,ht.isList.typeIs,?_⟩;refine wpAny_getItem_list_slice ht.isList hs pl pu .none (by simp) ?_ (by simp_all);rw[Jcu,<- hlen];refine⟨.ref s.heap.objs.size,_,I.laid (t':=s.toks) (o:=.lst (Jco xs lo hi)) (fun b ob q=>Qf _ q) (Qo _) ?_,rfl,q _ (I.hok.fresh (Qo _))⟩
 exact⟨Gj (JaB xs lo hi) hz,_,0,(r.drop (HT.sIx xs.length 0 lo)).take (HT.sIx xs.length xs.length hi-HT.sIx xs.length 0 lo),Qj _ rfl⟩

noncomputable def JoH:V->Bool
 | .non=>true
 | .bl _=>true
 | .int _=>true
 | .str _=>true
 | _=>false
noncomputable def eqV:V->V->Bool
 | .non,.non=>true
 | .bl a,.bl b=>a == b
 | .bl a,.int b=>(if a then 1 else 0) == b
 | .int a,.bl b=>a == (if b then 1 else 0)
 | .int a,.int b=>a == b
 | .str a,.str b=>a == b
 | _,_=>false
theorem Jpz{A:QI}{s:Qe}{y x:V}{u v:Qc}(ry:RelV y u)(rx:RelV x v)(fy:JoH y=true)(fx:JoH x=true):SeqAt.EqAt A s u v (eqV y x):=by
 cases y with
 | non =>
  cases ry
  cases x with
  | non=>cases rx;exact SeqAt.EqAt.same _
  | bl b=>cases rx;exact SeqAt.EqAt.none_bool b
  | int b=>obtain⟨t,rfl⟩:=rx;exact SeqAt.EqAt.none_int b t
  | str b=>obtain⟨t,rfl⟩:=rx;exact SeqAt.EqAt.none_str b t
  | _=>exact absurd (show false=true from fx) QB
 | bl a =>
  cases ry
  cases x with
  | non=>cases rx;exact SeqAt.EqAt.bool_none a
  | bl b=>cases rx;exact SeqAt.EqAt.bool_bool a b
  | int b=>obtain⟨t,rfl⟩:=rx;exact SeqAt.EqAt.bool_int a b t
  | str b=>obtain⟨t,rfl⟩:=rx;exact SeqAt.EqAt.bool_str a b t
  | _=>exact absurd (show false=true from fx) QB
 | int a =>
  obtain⟨t',rfl⟩:=ry
  cases x with
  | non=>cases rx;exact Rw a t'
  | bl b=>cases rx;exact SeqAt.EqAt.int_bool a t' b
  | int b=>obtain⟨t,rfl⟩:=rx;exact RF a t' b t
  | str b=>obtain⟨t,rfl⟩:=rx;exact RC a t' b t
  | _=>exact absurd (show false=true from fx) QB
 | str a =>
  obtain⟨t',rfl⟩:=ry
  cases x with
  | non=>cases rx;exact SeqAt.EqAt.str_none a t'
  | bl b=>cases rx;exact SeqAt.EqAt.str_bool a t' b
  | int b=>obtain⟨t,rfl⟩:=rx;exact RE a t' b t
  | str b=>obtain⟨t,rfl⟩:=rx;exact SeqAt.EqAt.str_str a t' b t
  | _=>exact absurd (show false=true from fx) QB
 | _=>exact absurd (show false=true from fy) QB
theorem Jdp:YD X (.type "list") (fun xs H Q=>∃p ys,xs=[.ref p]/\(SqL X.K H p ys\/SqT X.K H p ys)/\∀l,H l=none->Q (.ref l) (upd H l (.lst ys))):=by
 intro pins s σ H xs us Q I r h;obtain⟨p,ys,rfl,hq,q⟩:=h;obtain⟨u,rfl,rx⟩:=WG r;cases rx
 have fin:∀(its:List Qc),Vals ys its->ys.length<=Qq->∀(h':Q0) (c':Nat),(∀b o',s.heap.get? b=some o'->h'.get? b=some o') ->
  h'.get? s.heap.objs.size=some { cls:=.type "list",dict:=none,data:=.seq its.toArray c',slots:=#[] }->EP X pins σ Q (.ref s.heap.objs.size) { s with heap:=h' }:=fun its r' hz h' c' kp e =>
  ⟨.ref s.heap.objs.size,_,I.laid (t':=s.toks) kp (Qo _) (show ObjOk X.prog X.w _ h' _ (.lst ys) from⟨hz,its,c',r',e⟩),rfl,q _ (I.hok.fresh (Qo _))⟩
 rcases hq with hq|hq
 ·obtain⟨its,r',pl,hz⟩:=I.list hq;have hlen:=r'.length;obtain⟨o,ho,hc,n,hd⟩:=pl.isList;exact call_list_seq p (.inl rfl) ho hc hd (fun h' c' kp e=>fin its r' hz h' c' kp e) (by simp_all)
 ·obtain⟨its,r',pl,hz⟩:=I.tuple hq;have hlen:=r'.length;obtain⟨o,ho,hc,n,hd⟩:=pl;exact call_list_seq p (.inr rfl) ho hc hd (fun h' c' kp e=>fin its r' hz h' c' kp e) (by simp_all)
theorem Jcn:YD X (.type "tuple") (fun xs H Q=>∃p ys,xs=[.ref p]/\((SqL X.K H p ys/\∀l,H l=none->Q (.ref l) (upd H l (.tup ys)))\/(SqT X.K H p ys/\Q (.ref p) H))):=by
 intro pins s σ H xs us Q I r h;obtain⟨p,ys,rfl,h⟩:=h;obtain⟨u,rfl,rx⟩:=WG r;cases rx;rcases h with ⟨hq,q⟩|⟨hq,q⟩
 ·obtain⟨its,r',pl,hz⟩:=I.list hq;have hlen:=r'.length;refine call_tuple_list pl.isList (fun h' kp=>?_) (by simp_all);have I1:Inv X pins σ H { s with heap:=h' }:=I.kept (t':=s.toks) kp
  have I2:Inv X pins σ (upd H h'.objs.size (.tup ys)) { s with heap:=h'.push { cls:=.type "tuple",data:=.seq its.toArray } } :=
   I1.laid (t':=s.toks) (fun b o e=>Qf _ e) (Qo _) (show ObjOk X.prog X.w _ _ _ (.tup ys) from⟨hz,its,r',IsTup.new _ _⟩)
  exact⟨.ref h'.objs.size,_,I2,rfl,q _ (I1.hok.fresh (Qo _))⟩
 ·obtain⟨its,r',pl,hz⟩:=I.tuple hq;exact call_tuple_same pl ⟨.ref p,H,I,rfl,q⟩

noncomputable def tyV(K:Qw)(T:String)(x:V)(H:Hp):Prop:=match x with
 | .str _=>T="str"
 | .int _=>T="int"
 | .ref p=>(T="list"/\∃xs,SqL K H p xs)\/(T="tuple"/\∃o,K.lookup p=some o/\o.cls=.type "tuple"/\o.dict=none) ∨
  (T="dict"/\((∃kvs,H p=some (.dK kvs))\/∃kvs,H p=some (.dT kvs)))\/(T="set"/\∃S n,H p=some (.set S n))
 | _=>False
theorem Jmd{pins:List (Qd×Obj)}{σ:St}{H:Hp}{s:Qe}{T:String}{x:V}{v:Qc}(I:Inv X pins σ H s)(r:RelV x v)(ty:tyV X.K T x H) :
 s.TypeIs v T/\∀a,v=.ref a->∃ob,s.heap.get? a=some ob/\ob.dict=none:=by
 cases x with
 | str z=>obtain⟨t,rfl⟩:=r;cases (show T="str" from ty);exact⟨typeIs_str s z t,fun _ e=>nomatch e⟩
 | int i=>obtain⟨t,rfl⟩:=r;cases (show T="int" from ty);exact⟨typeIs_int s i t,fun _ e=>nomatch e⟩
 | ref p =>
  cases r;rcases ty with ⟨rfl,xs,hq⟩|⟨rfl,o,hk,hc,hd⟩|⟨rfl,hk⟩|⟨rfl,S,n,hk⟩
  ·obtain⟨its,_,pl,_⟩:=I.list hq;refine⟨pl.isList.typeIs,fun a e=>?_⟩;cases e;obtain⟨o,n,e,c,hd,_⟩:=pl;exact⟨o,e,hd⟩
  ·refine⟨⟨o,I.kIn p o hk,hc⟩,fun a e=>?_⟩;cases e;exact⟨o,I.kIn _ o hk,hd⟩
  ·have z:∃o,s.heap.get? p=some o/\o.ExactDict:=by
    rcases hk with ⟨kvs,hk⟩|⟨kvs,hk⟩
    ·obtain⟨_,_,_,_,o,_,_,e,ex,_⟩:=I.hok p _ hk;exact⟨o,e,ex⟩
    ·obtain⟨_,_,_,_,o,_,_,e,ex,_⟩:=I.hok p _ hk;exact⟨o,e,ex⟩
   obtain⟨o,e,ex⟩:=z;refine⟨⟨o,e,ex.1⟩,fun a e2=>?_⟩;cases e2;exact⟨o,e,ex.2.1⟩
  ·obtain⟨o,_,_,_,e,ex,_⟩:=I.hok p _ hk;refine⟨⟨o,e,ex.1⟩,fun a e2=>?_⟩;cases e2;exact⟨o,e,ex.2.1⟩
 | _=>exact G8 ty
noncomputable def Jok(K:Qw)(T:String)(r:V->List V->Hp->VK->Prop)(to:TE):TE:=fun σ H Q=>to σ H fun x H1=>tyV K T x H1/\r x [] H1 Q
noncomputable def tBM(K:Qw)(T:String)(r:V->List V->Hp->VK->Prop)(to:TE)(t:TA):TE:=fun σ H Q=>to σ H fun x H1=>tyV K T x H1/\t σ H1 fun xs H2=>r x xs H2 Q
variable{o e:Q4}{es:List Q4}{to:TE}{t:TA}{name:Str}{apos cpos:Pos}{T id:String}{r:V->List V->Hp->VK->Prop}
theorem JqB(pa:PlainAttrs T)(slot:Slot T name id)(hty:typeOf (.builtin id)=pure (.type "method_descriptor"))(hm:MtR X id r)(ho:PE X o to)
 (hbase:attributeBase o name X.env (eval o X.env)=eval o X.env:=by rfl) (hline:(apos.endLine == cpos.line)=true:=by rfl):PE X (.Call (.Attribute o name apos) [] [] cpos) (Jok X.K T r to):=by
 intro pins s σ H Q I h;refine wpAny_Call_method0_late hbase hline (thn (ho pins s σ H _ I h) fun v s1 ⟨x,H1,I1,r1,ty,q1⟩=>?_);obtain⟨h1,h2⟩:=Jmd I1 r1 ty;exact⟨T,id,pa,slot,hty,h1,h2,Kd rfl (Rx (hm pins s1 σ H1 x [] v [] Q I1 r1 .nil q1))⟩
theorem Jss(pa:PlainAttrs T)(slot:Slot T name id)(hty:typeOf (.builtin id)=pure (.type "method_descriptor"))(hm:MtR X id r)(ho:PE X o to)(ha:PA X (e::es) t)
 (hbase:attributeBase o name X.env (eval o X.env)=eval o X.env:=by rfl)
 (hfew:((backTo cpos (starEach (e::es) X.env)).all (fun x=>!x.1) && (backToKw cpos (keywordEach [] X.env)).all (fun x=>x.1.isSome)
  && decide ((e::es).length+([]:List MV).length+(if ([]:List MV).isEmpty then 0 else 1)<30))=true:=by rfl)
 (hline:(apos.endLine == cpos.line)=true:=by rfl) (hs:starEach (e::es) X.env=(false,eval e X.env)::starEach es X.env:=by rfl) (hplain:(backTo cpos (starEach es X.env)).any (·.1)=false:=by rfl) :
 PE X (.Call (.Attribute o name apos) (e::es) [] cpos) (tBM X.K T r to t):=by
 intro pins s σ H Q I h;refine wpAny_Call_method_late hbase hfew hline rfl (thn (ho pins s σ H _ I h) fun v s1 ⟨x,H1,I1,r1,ty,q1⟩=>?_);obtain⟨h1,h2⟩:=Jmd I1 r1 ty;refine⟨T,id,pa,slot,hty,h1,h2,?_⟩;have hA:=ha cpos pins s1 σ H1 _ I1 q1;rw[hs] at hA ⊢;refine Kd (by show(false || (backTo cpos (starEach es X.env)).any (·.1))=false;rw[hplain] <;> rfl) (LO ?_);exact thn hA fun us s2 ⟨vs,H2,I2,r2,q2⟩=>hm pins s2 σ H2 x vs v us Q I2 r1 r2 q2
/- xs.append(e),list.index on a module's tuple .. are MtR facts of 06m -/
end
end L2

namespace L2
open PySem PySem.Spec PyProof.Rows

noncomputable def MtM(X:Cx)(id:String)(r:V->List V->Hp->VK->Prop):Prop :=
 ∀(pins:List (Qd×Obj)) (s:Qe) (σ:St) (H:Hp) (x:V) (xs:List V) (v:Qc) (us:List Qc) (Q:VK),Inv X pins σ H s->RelV x v->Vals xs us->r x xs H Q ->
  wpAny (model X.prog X.w) X.A (call (.builtin id) (v::us)) (EP X pins σ Q) X.xe s

theorem Vals.one:∀{x:V} {us:List Qc},Vals [x] us->∃u,us=[u]/\RelV x u
 | _,_,.cons r .nil=>⟨_,rfl,r⟩
theorem Vals.zero:∀{us:List Qc},Vals [] us->us=[]
 | _,.nil=>rfl
theorem Vals.dropLast{xs:List V}{us:List Qc}(h:Vals xs us):Vals xs.dropLast us.dropLast:=by
 induction h with
 | nil=>exact .nil
 | cons r t ih =>
  cases t with
  | nil=>exact .nil
  | cons q t'=>exact .cons r ih
theorem Vals.rep{xs:List V}{us:List Qc}(h:Vals xs us):∀k:Nat,Vals (Qv k xs).flatten (Qv k us).flatten
 | 0=>.nil
 | k+1=>by rw[KB,KB,Lu,Lu];exact Vals.append h (Vals.rep h k)
theorem JcO(its:List Qc):∀(k:Nat) (acc:List Qc),
 List.foldl (fun x1 x2=>x1++x2) acc.toArray (Qv k its.toArray)=(acc++(Qv k its).flatten).toArray
 | 0,acc=>by simp
 | k+1,acc=>by
  have e:acc.toArray++its.toArray=(acc++its).toArray:=by simp
  have e2:(acc++its)++(Qv k its).flatten=acc++(Qv (k+1) its).flatten:=by grind
  rw[<- e2,<- JcO its k (acc++its),<- e,KB,Ga]

section
variable{X:Cx}{pins:List (Qd×Obj)}{σ:St}{H:Hp}{s:Qe}{l b:Qd}{xs ys zs:List V}

theorem Inv.lset{its its':List Qc}{n:Nat}{f:Array Qc->Array Qc}{t':Nat}(I:Inv X pins σ H s)(hH:H l=some (.lst xs))
 (e:s.heap.get? l=some { cls:=.type "list",data:=.seq its.toArray n }) (hf:f its.toArray=its'.toArray) (hv:Vals ys its') (hz:ys.length<=Qq) :
 Inv X pins σ (upd H l (.lst ys)) { s with heap:=s.heap.update l (LJ f),toks:=t' }:=by
 have q:=PySem.IsL.update e f;rw[hf] at q;refine I.write (x:=l) (e:=l) (by rw[hH];exact trivial) (.inl rfl) (fun b' u hb hu=>(Gs s.heap (LJ f) (QY hb)).trans hu) ⟨_,q⟩ ?_;exact⟨hz,its',_,hv,q⟩
theorem Inv.lnew{its:List Qc}{t':Nat}(I:Inv X pins σ H s)(hv:Vals ys its)(hz:ys.length<=Qq) :
 Inv X pins σ (upd H s.heap.objs.size (.lst ys)) { s with heap:=s.heap.push { cls:=.type "list",data:=.seq its.toArray },toks:=t' } :=
 I.laid (fun _ _ q=>Qf _ q) (Qo _) ⟨hz,its,0,hv,Qj _ rfl⟩
theorem Inv.fresh(I:Inv X pins σ H s):H s.heap.objs.size=none:=I.hok.fresh (Qo _)
theorem Inv.lstM(I:Inv X pins σ H s)(hH:H l=some (.lst xs)):xs.length<=Qq/\∃(its:List Qc) (n:Nat),Vals xs its/\xs.length=its.length/\s.heap.get? l=some { cls:=.type "list",data:=.seq its.toArray n }:=by obtain⟨z,its,n,r,e⟩:=I.hok l _ hH;exact⟨z,its,n,r,r.length,e⟩

theorem Jft{n:Nat}(h:n<=Qq):Kz n=false:=by
 unfold Kz
 simp_all
end

section
variable{X:Cx}

noncomputable def ZS:V->List V->Hp->VK->Prop:=fun x vs H Q=>∃l xs y,x=.ref l/\vs=[y]/\H l=some (.lst xs)/\xs.length<Qq/\Q .non (upd H l (.lst (xs++[y])))
theorem Uf:MtM X "list.append" ZS:=by
 intro pins s σ H x vs v us Q I rx rv h;obtain⟨l,xs,y,rfl,rfl,hH,hz,q⟩:=h;cases rx;obtain⟨u,rfl,ru⟩:=rv.one;obtain⟨z,its,n,r,hl,e⟩:=I.lstM hH;refine call_meets F.slot_list_append ⟨_,e,rfl⟩ F.entry_list_append (F.args_list_append_2 _ _) (PySem.list_append l its.toArray n u (by simp_all)) ⟨e,?_⟩;refine⟨.non,_,I.lset (its':=its++[u]) hH e (by simp) (r.append (.cons ru .nil)) ?_,rfl,q⟩
 grind

noncomputable def Jil:V->List V->Hp->VK->Prop:=fun x vs H Q=>∃l b xs zs,x=.ref l/\vs=[.ref b]/\H l=some (.lst xs)/\H b=some (.lst zs)/\xs.length+zs.length<=Qq/\Q .non (upd H l (.lst (xs++zs)))
theorem JcZ:MtM X "list.extend" Jil:=by
 intro pins s σ H x vs v us Q I rx rv h;obtain⟨l,b,xs,zs,rfl,rfl,hH,hB,hz,q⟩:=h;cases rx;obtain⟨u,rfl,ru⟩:=rv.one;cases ru;obtain⟨z,its,n,r,hl,e⟩:=I.lstM hH;obtain⟨z2,its2,n2,r2,hl2,e2⟩:=I.lstM hB;have hsz:its.toArray.size+its2.toArray.size<=Qq:=by simp_all
 have hlong:¬(!its.toArray.isEmpty && Kz (its.toArray.size+its2.toArray.size))=true:=by rw[Jft hsz,Lv];exact QB
 refine call_meets F.slot_list_extend ⟨_,e,rfl⟩ F.entry_list_extend (F.args_list_extend_2 _ _)
  (AutoSeq1.list_extend_list_list_0 l its.toArray n b its2.toArray n2 hlong (by omega) (by omega)) ⟨e,e2,?_⟩
 refine⟨.non,_,I.lset (its':=its++its2) hH e (by simp) (r.append r2) ?_,rfl,q⟩
 simp_all

noncomputable def JqS:V->List V->Hp->VK->Prop:=fun x vs H Q=>∃l xs y,x=.ref l/\vs=[]/\H l=some (.lst xs)/\xs[xs.length-1]?=some y/\Q y (upd H l (.lst xs.dropLast))
theorem JgO:MtM X "list.pop" JqS:=by
 intro pins s σ H x vs v us Q I rx rv h;obtain⟨l,xs,y,rfl,rfl,hH,hy,q⟩:=h;cases rx;have hus:=rv.zero;subst hus;obtain⟨z,its,n,r,hl,e⟩:=I.lstM hH;obtain⟨u,hu,ru⟩:=r.get hy
 have hy':its.toArray[its.toArray.size-1]?=some u:=by simp_all
 refine call_meets F.slot_list_pop ⟨_,e,rfl⟩ F.entry_list_pop (F.args_list_pop_1 _) (MeetsSeq.list_pop_last l its.toArray n u hy' (by simp_all)) ⟨e,?_⟩;refine⟨y,_,I.lset (its':=its.dropLast) hH e ?_ r.dropLast ?_,ru,q⟩
 ·simp_all
 grind

noncomputable def Jsu:R2:=fun x y H Q=>∃l b xs zs,x=.ref l/\y=.ref b/\H l=some (.lst xs)/\H b=some (.lst zs)/\xs.length+zs.length<=Qq/\∀p,H p=none->Q (.ref p) (upd H p (.lst (xs++zs)))
theorem Jqs:OpR X (binaryOp .Add) Jsu:=by
 intro pins s σ H x y v u Q I rx ry h;obtain⟨l,b,xs,zs,rfl,rfl,hH,hB,hz,q⟩:=h;cases rx;cases ry;obtain⟨z,its,n,r,hl,e⟩:=I.lstM hH;obtain⟨z2,its2,n2,r2,hl2,e2⟩:=I.lstM hB;refine PySem.P.add_list e e2 ?_ (by simp_all);have ea:its.toArray++its2.toArray=(its++its2).toArray:=by simp
 rw[ea];exact⟨.ref _,_,I.lnew (t':=s.toks) (r.append r2) (by simp_all),rfl,q _ I.fresh⟩
noncomputable def JsD:R2:=fun x y H Q=>∃l k xs,x=.ref l/\y=.int k/\H l=some (.lst xs)/\-(2 ^ 63)<=k/\k<2 ^ 63/\xs.length*k.toNat<=Qq ∧
 ∀p,H p=none->Q (.ref p) (upd H p (.lst (Qv k.toNat xs).flatten))
theorem Jm6{α:Type}(xs:List α)(k:Nat):(Qv k xs).flatten.length=k*xs.length:=by simp_all
theorem JqA:OpR X (binaryOp .Mult) JsD:=by
 intro pins s σ H x y v u Q I rx ry h;obtain⟨l,k,xs,rfl,rfl,hH,h1,h2,hz,q⟩:=h;cases rx;obtain⟨t,rfl⟩:=ry;obtain⟨z,its,n,r,hl,e⟩:=I.lstM hH;have hlen:its.toArray.size*k.toNat<=Qq:=by simp_all
 have hcap:¬its.toArray.size*k.toNat>(2 ^ 63-1) / 8:=by
  have:(Qq:Nat)<=(2 ^ 63-1) / 8:=by decide
  omega
 have hfit:¬(!Builtin.List.listFitsIndex k)=true:=by rw[fitsIndex_both h1 h2];exact QB
 have hlong:¬Kz (its.toArray.size*k.toNat)=true:=by rw[Jft hlen];exact QB
 have hnew:List.foldl (fun x1 x2=>x1++x2) #[] (Qv (if its.toArray.isEmpty=true then 0 else k.toNat) its.toArray)=(Qv k.toNat its).flatten.toArray:=by
  have f0:∀m:Nat,List.foldl (fun x1 x2=>x1++x2) #[] (Qv m its.toArray)=(Qv m its).flatten.toArray:=fun m=>by
   have:=JcO its m []
   simp_all
  rw[f0]
  cases its with
  | nil=>simp
  | cons a r'=>rw[if_neg (by simp)]
 refine wpAny_binaryOp_repeat_ref (T:="list") (U:="int") (by decide) ⟨_,e,rfl⟩ (fun s'=>typeIs_int s' k t) noFill_list_mul F.fills_int_mul F.slot_int_rmul repeat_list F.slot_int_index.lookup
  (call_meets F.slot_int_rmul (typeIs_int s k t) F.entry_int_rmul (F.args_int_rmul_2 _ _) (int___rmul___int_list k t l its.toArray n)
   ⟨e,rfl,⟨_,e,rfl⟩,call_meets F.slot_list_mul ⟨_,e,rfl⟩ F.entry_list_mul (F.args_list_mul_2 _ _) (AutoListH.list___mul___list_int_3 l its.toArray n k t hfit hcap hlong) ⟨e,?_⟩⟩)
 rw[hnew];exact⟨.ref _,_,I.lnew (t':=s.toks) (r.rep k.toNat) (by rw[Jm6,Nat.mul_comm];exact hz),rfl,q _ I.fresh⟩

end

section
variable{prog:Qu}{w:QJ}{A:QI}{E:Qc->Qe->Prop}{s:Qe}
end

section
variable{X:Cx}
end
end L2

namespace Att
open PySem PySem.W PySem.Calls PyProof.Rows

theorem JaR{P:Params}{h:Q0}:∀(ns:List Int) (vs:List Qc),WellAll P h vs (ns.map WData.int)->IntsAre vs ns:=by
 intro ns
 induction ns with
 | nil=>intro vs w;rw[G4] at w;cases w;exact .nil
 | cons n ns ih =>
  intro vs w;rw[Qi] at w
  cases w with
  | cons a b=>cases a;exact .cons _ _ (ih _ b)

theorem JjL{l:OpenLaw}{n:Nat}(hn:l.most=some n){P:Params}{h:Q0}{args:List WData}{vals:List Qc}
 (hpre:l.row.toRowW.claim.pre args=true) (hwl:WellAll P h vals args) :
 ∃a vs ns,vals=[Value.ref a]/\args=[WData.list (ns.map WData.int)]/\h.get? a=some { cls:=.type "list",data:=.seq vs.toArray }/\IntsAre vs ns/\ns.length<=n:=by
 have hsh:WShape.hasAll [] args [.list .int]=true:=(pre_splitW hpre).1
 have hc:l.pre.holds [] { args:=args }=true:=(pre_splitW hpre).2;obtain⟨d,r,rfl,h1,h2⟩:=hasAllW_cons hsh;obtain rfl:=hasAllW_nil h2;obtain⟨xs,rfl,h3⟩:=hasW_list h1;obtain⟨ns,rfl⟩:=items_int h3
 have hlen:ns.length<=n:=by
  unfold OpenLaw.pre at hc
  have h4:(WTm.not (.lt (.lit (.int (n:Int))) (.len (.arg 0)))).holds [] { args:=[.list (ns.map .int)] }=true:=by
   have h4:=(holds_andW hc).1
   simp_all
  have h5:=condW_of h4 (w_not (w_lt w_lit (w_len_list (w_arg rfl))))
  simp_all
 cases hwl with
 | cons w1 w2 =>
  cases w2
  cases w1 with
  | list ho hall=>exact⟨_,_,ns,rfl,rfl,ho,JaR ns _ hall,hlen⟩

theorem JjB(l:OpenLaw)(args:List WData):l.row.toRowW.claim.post args (.bool true) args=true :=
 postW_of (r:=l.row.toRowW) (X:=(true == true))
  (show WShape.has [] (.bool true) .bool=true by first|rfl|decide|simp[WShape.has,WShape.arms,WShape.armsAll])
  (show(WTm.eq .res (.lit (.bool true))).value [] { args:=args,res:=some (.bool true),after:=args }=some (.bool (true == true)) from w_eq_bool (w_res rfl) w_lit) rfl

theorem attach_call{l:OpenLaw}{n:Nat}{q:Qu}{loose:List Str}{XP:(Str->Option Qc)->Q0->Prop}{YP:QJ->Q0->Prop}{d:DefRec}
 (hn:l.most=some n) (hdf:d.params.defaults=[])
 (call:∀(w:QJ) (s₀ s₁:Qe) (mg mb:Str->Option Qc) (fa:Qd) (o:Obj) (pm cd doc:Qc) (a:Qd) (vs:List Qc) (ns:List Int),
  Ground q loose [] XP w s₀ mg mb s₁.heap->YP w s₁.heap ->
  s₁.heap.get? fa=some o->o.data=.func (docDef d.name d.params d.body d.scope pm cd doc)->s₁.heap.CodeRec cd d.name->mg d.name=some (.ref fa) ->
  s₁.heap.get? a=some { cls:=.type "list",data:=.seq vs.toArray }->IntsAre vs ns->ns.length<=n->s₁.gens=#[] ->
  codeAny (model l.prog w) callerA (.call (.ref fa) ⟨[.ref a],[]⟩) (fun r s'=>r=.ok (.ret (.bool true))/\OldK s₁.heap s'.heap/\s'.os=s₁.os/\AllBare s'.gens) s₁) :
 WalkO q loose XP YP l.row.toRowW d [] (fun f vs=>PySem.call f vs):=by
 intro w s₀ s₁ mg mb G Y fa o pm cd doc dV kV ho hd hcd hD hmg hg args vals as hpre hlay hrd hwl hlo;obtain rfl:dV=.none:=Dflts.none hD hdf;obtain rfl:kV=.none:=Dflts.noKw hD;obtain⟨a,vs,ns,rfl,rfl,hobj,hints,hlen⟩:=JjL hn hpre hwl;refine enter_call (Ls (call w s₀ s₁ mg mb fa o pm cd doc a vs ns G Y ho (fd_plain hd) hcd hmg hobj hints hlen hg) fun r s' hq=>?_);obtain⟨rfl,h2,h3,h4⟩:=hq;exact⟨.inl ⟨.bool true,.bool true,[],rfl,fun _=>rfl,.bool true,JjB l _,fun _=>⟨List.Pairwise.nil,fun _ hm=>(nomatch hm)⟩⟩,h2,h3,h4⟩

section
variable{prog:Qu}{w:QJ}{A:QI}{E:Qc->Qe->Prop}{s:Qe}{K:Qw}

end
end Att

namespace L2
open PySem PySem.Spec PyProof.Rows

theorem Jdc:∀{vs:List Qc} {ns:List Int},IntsAre vs ns->Vals (ns.map V.int) vs
 | _,_,.nil=>.nil
 | _,_,.cons n t h=>.cons ⟨t,rfl⟩ (Jdc h)

noncomputable def Jpe(H:Hp):Prop:=∀b,H b=none\/∃o xs,H b=some (.frz o (.lst xs))

theorem JkN{P:Qu}{w:QJ}{K:Qw}{mg mb:Str->Option Qc}{CX:CXT}{k:Nat}{fa a:Qd}{fd:Qz}{x:Str}{sp:Sp}{s₁:Qe}{vs:List Qc}{ns:List Int}
 (KX:K.In s₁.heap) (hns:s₁.heap.Ns mainGlobals mg) (hb:s₁.heap.Ns builtinsNs mb) (hbb:∀x:Str,x≠"__name__"->mb x=bootBuiltins x) (hlim:s₁.heap.NoLimit) (hg:s₁.gens=#[])
 (ha:s₁.heap.get? a=some { cls:=.type "list",data:=.seq vs.toArray }) (hi:IntsAre vs ns) (hl:ns.length<=Qq) (hr:Room k callerA)
 (F:∀base:Q0,K.In base->base.Ns mainGlobals mg->FnOk P w K mg base CX k fa fd [x] sp) (hbind:∀(s:Qe) (u:Qc),BindsTo s fd ⟨[u],[]⟩ [(x,u)])
 (hsp:∀H:Hp,Jpe H->SqL K H a (ns.map V.int)->sp [.ref a] H (fun v _=>v=.bl true) fun _ _ _=>False)
 (hCX:∀H e s',CX [] H s₁ (fun _ _ _=>False) e s'->False) :
 codeAny (model P w) callerA (.call (.ref fa) ⟨[.ref a],[]⟩) (fun r s'=>r=.ok (.ret (.bool true))/\OldK s₁.heap s'.heap/\s'.os=s₁.os/\AllBare s'.gens) s₁:=by
 have rv:=Jdc hi
 have lenV:=hi.length
 -- from an abstract heap in which nothing but the script may be tracked
 have core:∀H:Hp,Jpe H->SqL K H a (ns.map V.int)->HOk P w H s₁.heap->(∀b,H b≠none->b=a)->(H a≠none->K.lookup a=none) ->
  codeAny (model P w) callerA (.call (.ref fa) ⟨[.ref a],[]⟩) (fun r s'=>r=.ok (.ret (.bool true))/\OldK s₁.heap s'.heap/\s'.os=s₁.os/\AllBare s'.gens) s₁:=by
  intro H hO hS hok hA hK;have base_of:∀{b:Qd} {o:Obj},s₁.heap.get? b=some o->H b=none->(JdP s₁.heap H).get? b=some o:=fun e n=>JkG e n
  have noA:∀{b:Qd} {o:Obj} {es:Array DictEntry} {ep:Nat},s₁.heap.get? b=some o->o.data=.dict es ep->H b=none:=fun {b o es ep} e d=>by grind
  have nsK:∀{b:Qd} {m:Str->Option Qc},s₁.heap.Ns b m->(JdP s₁.heap H).Ns b m:=fun {b m} ⟨o,es,ep,e,d,r⟩=>⟨o,es,ep,base_of e (noA e d),d,r⟩
  have hKb:K.In (JdP s₁.heap H):=fun b o e=>base_of (KX b o e) (by grind)
  have hM:Mod K mg (JdP s₁.heap H):=⟨hKb,nsK hns,⟨mb,nsK hb,hbb⟩,let ⟨mc,h1,h2⟩:=hlim;⟨mc,nsK h1,h2⟩⟩
  have e0:Env0 P w K mg (JdP s₁.heap H) callerA [] s₁ H:=⟨rfl,hM,fun b o e=>Jnx e,RJ (Jjc _ _),trivial,fun b hb=>absurd (show b∈([]:List Qd) from hb) (by simp),hok,.of_eq hg⟩
  refine Ls ((F _ hKb (nsK hns)).run callerA [] s₁ H ⟨[.ref a],[]⟩ [.ref a] [.ref a] _ _ hr e0 (hbind s₁ (.ref a)) (.cons rfl .nil) (hsp H hO hS)) fun r s' h=>?_
  cases r with
  | error e=>exact(hCX H e s' h).elim
  | ok fl =>
   cases fl with
   | next=>exact G8 h
   | brk=>exact G8 h
   | cont=>exact G8 h
   | ret u =>
    obtain⟨v,H',os,bare,un,hok',r',q⟩:=h;have q':v=.bl true:=q;subst q';obtain rfl:u=Value.bool true:=r';refine⟨rfl,OldK.of_keep fun b o e=>?_,os,bare⟩
    cases q:H b with
    | none=>exact un.keep b o e q (by intro z;exact absurd (show b∈([]:List Qd) from z) (by simp)) (by simp)
    | some u =>
     rcases hO b with z|⟨ob,xs,z⟩
     ·rw[q] at z;cases z
     ·have z2:=un.frzs b ob _ z;obtain⟨e1,_⟩:=hok b _ z;obtain⟨e2,_⟩:=hok' b _ z2
      simp_all
 cases hk:K.lookup a with
 | some o =>
  -- the script is one of the module's own objects
  have e:=KX a o hk;rw[ha] at e;cases e;refine core (fun _=>none) (fun _=>.inl rfl) (.inr ⟨_,vs.toArray,_,hk,rfl,rfl,rfl,by simp_all,by simpa using rv⟩) (fun b u z=>by simp_all) (fun b z=>absurd rfl z) fun z=>absurd rfl z
 | none =>
  refine core (fun b=>if b=a then some (.frz { cls:=.type "list",data:=.seq vs.toArray } (.lst (ns.map V.int))) else none) (fun b=>?_) (.inl (.inr ⟨{ cls:=.type "list",data:=.seq vs.toArray },if_pos rfl⟩)) (fun b u z=>?_) (fun b z=>?_) fun _=>hk
  ·grind
  ·by_cases hb:b=a
   ·have z':=(if_pos hb).symm.trans z;cases z';subst hb;exact⟨ha,by simp_all,vs,_,rv,ha⟩
   simp_all
  simp_all
end L2

namespace L2
open PySem PySem.Spec PyProof.Rows

theorem Jow{l:PySem.W.OpenLaw}{n k:Nat}{q:Qu}{loose:List Str}{XP:(Str->Option Qc)->Q0->Prop}{YP:QJ->Q0->Prop}{d:DefRec}{K:Params->Qw}{CX:QJ->CXT}{sp:QJ->Sp}{x:Str}
 (hn:l.most=some n) (hn2:n<=Qq) (hdf:d.params.defaults=[]) (hr:Room k callerA)
 (hY:∀(w:QJ) (h:Q0),YP w h->(K w.params).In h)
 (F:∀(w:QJ) (mg:Str->Option Qc) (fa:Qd) (h:Q0),(K w.params).In h->h.Ns mainGlobals mg->mg d.name=some (.ref fa) ->
  ∃fd:Qz,(∀(s:Qe) (u:Qc),BindsTo s fd ⟨[u],[]⟩ [(x,u)]) ∧
   ∀base:Q0,(K w.params).In base->base.Ns mainGlobals mg->FnOk l.prog w (K w.params) mg base (CX w) k fa fd [x] (sp w))
 (hsp:∀(w:QJ) (H:Hp) (a:Qd) (ns:List Int),ns.length<=n->Jpe H->SqL (K w.params) H a (ns.map V.int)->sp w [.ref a] H (fun v _=>v=.bl true) fun _ _ _=>False)
 (hCX:∀(w:QJ) (H:Hp) (s:Qe) (e:Qc) (s':Qe),CX w [] H s (fun _ _ _=>False) e s'->False) :
 PySem.W.WalkO q loose XP YP l.row.toRowW d [] (fun f vs=>PySem.call f vs):=by
 refine Att.attach_call hn hdf fun w s₀ s₁ mg mb fa o pm cd doc a vs ns G Y ho hd hcd hmg hobj hints hlen hg=>?_
 have KX:=hY w _ Y;obtain⟨fd,hb,hF⟩:=F w mg fa _ KX G.T.g hmg;exact JkN KX G.T.g G.T.b G.T.builtins G.T.nolimit hg hobj hints (Gj hlen hn2) hr hF hb (fun H hO hS=>hsp w H a ns hlen hO hS) fun H e s'=>hCX w H s₁ e s'
end L2

namespace L2
open PySem PySem.Spec PyProof.Rows

noncomputable def ZF(s:GB)(j:Nat):GB:=match s with
 | .ClassDef _ _ _ body _ _ _ _ _ _ _=>body.getD j (.Pass ⟨0,0,0,0⟩)
 | _=>.Pass ⟨0,0,0,0⟩
noncomputable def VU(s:GB):Arguments:=match s with
 | .FunctionDef _ a _ _ _ _ _ _ _ _=>a
 | _=>{ posonlyargs:=[],args:=[],vararg:=none,kwonlyargs:=[],kw_defaults:=[],kwarg:=none,defaults:=[] }
noncomputable def Y9(s:GB):List GB:=match s with
 | .FunctionDef _ _ b _ _ _ _ _ _ _=>b
 | _=>[]
noncomputable def Jj(s:GB):L8:=match s with
 | .FunctionDef _ _ _ _ _ _ sc _ _ _=>sc
 | _=>{ kind:=.function,names:=[],isGenerator:=false,isCoroutine:=false }

noncomputable abbrev CX0:CXT:=fun _ _ _ _ _ _=>False
noncomputable abbrev E0:XK:=fun _ _ _=>False
theorem Jih{X:Cx}:WT CX0 X E0:=fun _ _ _ _ _ _ _ h=>h.elim

structure Fun (K:Qw) (x qual:Str) (st:GB) (f:Qd) (fd:Qz):Prop where
 ex:∃(oc:Qc) (od:Option Qd) (kV doc pm:Qc) (an:Option Qd) (cdv ct:Qc) (osl:Array (Option Qc)),
  fd=fnOf x qual (VU st) (Y9 st) (Jj st) .none kV doc pm an cdv ct/\K.lookup f=some ⟨oc,od,.func fd,osl⟩/\codeIn K cdv qual=true
 kp:keepIn K (.ref f)=true
section
variable{P:Qu}{w:QJ}{K:Qw}{mg:Str->Option Qc}{base:Q0}
theorem Fun.ok{x qual:Str}{st:GB}{f:Qd}{fd:Qz}{N ps:List Str}{k:Nat}{sp:Sp}(F:Fun K x qual st f fd)(S:FnScope N ps (Jj st))(len:∀vs H Q E,sp vs H Q E->vs.length=ps.length)
 (hbody:∀(cdv:Qc) (A:QI) (outer:List Env) (s:Qe) (H:Hp) (vs:List V) (Q:VK) (E:XK),Room k (A.deeper (envOfC qual (Jj st) s.heap.objs.size f cdv))->sp vs H Q E ->
  ∃t,PSs (Jcp CX0 P w K mg base N qual (Jj st) f cdv A outer s H E).nox (Y9 st) t/\t { nx:=fun _ H'=>Q .non H',rt:=Q } (Y4 N vs) H):FnOk P w K mg base CX0 (k+1) f fd ps sp:=by
 obtain⟨oc,od,kV,doc,pm,an,cdv,ct,osl,rfl,lk,hcd⟩:=F.ex;refine Jr0 lk hcd S len fun A outer s H vs Q E hr hsp=>?_
 obtain⟨t,h,q⟩:=hbody cdv A outer s H vs Q E hr hsp;exact⟨t,h.nox,q⟩
theorem Fun.binds{x qual:Str}{st:GB}{f:Qd}{fd:Qz}{ps:List Str}(F:Fun K x qual st f fd)
 (h:∀(kV doc pm:Qc) (an:Option Qd) (cdv ct:Qc) (us:List Qc),us.length=ps.length->bindArgs (fnOf x qual (VU st) (Y9 st) (Jj st) .none kV doc pm an cdv ct) ⟨us,[]⟩=pure (ps.zip us)):Binds K fd ps []:=by
 obtain⟨oc,od,kV,doc,pm,an,cdv,ct,osl,rfl,lk,hcd⟩:=F.ex;exact .all (h kV doc pm an cdv ct)
theorem Jkz{x qual:Str}{st:GB}{f:Qd}{oc:Qc}{od an:Option Qd}{osl:Array (Option Qc)}{kV doc pm cdv ct:Qc}(l:K.lookup f=some ⟨oc,od,.func (fnOf x qual (VU st) (Y9 st) (Jj st) .none kV doc pm an cdv ct),osl⟩)
 (c:codeIn K cdv qual=true) (k:keepIn K (.ref f)=true):Fun K x qual st f (fnOf x qual (VU st) (Y9 st) (Jj st) .none kV doc pm an cdv ct):=⟨⟨oc,od,kV,doc,pm,an,cdv,ct,osl,rfl,l,c⟩,k⟩
end
theorem JkH{A:QI}{k:Nat}(hr:Room k A):A.units+1<cLine:=Km (Nat.add_le_add_left (by decide:1<=64) _) hr.units
theorem JjM{n:Nat}(h:n<=1000):n<Qq:=Km h (by decide)

section
variable{X:Cx}
theorem pv(i:Nat){x:Str}{pos:Pos}(hN:X.N[i]?=some x:=by rfl)(hv:Vis X.env.scope x:=by first | exact Or.inl rfl | exact Or.inr (.inl rfl) | exact Or.inr (.inr rfl))(hd:(x == ("__debug__":Str))=false:=by decide)
 (hcd:(x == ("__classdict__":Str))=false:=by decide):PE X (.Name x pos) (Wi i):=JqD hN hv hd hcd
end

noncomputable def Same(H H':Hp):Prop:=∀b o,H b=some o->H' b=some o
theorem Same.refl(H:Hp):Same H H:=fun _ _ h=>h
theorem Same.trans{H H1 H2:Hp}(a:Same H H1)(b:Same H1 H2):Same H H2:=fun c o h=>b c o (a c o h)
theorem Same.free{H H':Hp}(e:Same H H'){l:Qd}(h:H' l=Option.none):H l=Option.none:=by
 cases q:H l with
 | none=>rfl
 | some o=>rw[e l o q] at h;cases h
theorem Same.seq{K:Qw}{H H':Hp}{a:Qd}{xs:List V}(e:Same H H')(h:SqL K H a xs):SqL K H' a xs:=by
 rcases h with (h|⟨o,h⟩)|h
 ·exact .inl (.inl (e _ _ h))
 ·exact .inl (.inr ⟨o,e _ _ h⟩)
 ·exact .inr h

end L2

namespace L2
open PySem PySem.Spec PyProof.Rows

section
variable{κ:Type}[DecidableEq κ]
noncomputable def VQ(kvs:List (κ×V))(k:κ):Option V:=(kvs.find? fun kv=>decide (kv.1=k)).map (·.2)
noncomputable def Wh(kvs:List (κ×V))(k:κ)(v:V):List (κ×V) :=
 if (kvs.any fun kv=>decide (kv.1=k))=true then kvs.map (fun kv=>if kv.1=k then(kv.1,v) else kv) else kvs++[(k,v)]
theorem Z1{p:κ×V}{r:List (κ×V)}{k:κ}(e:p.1=k):VQ (p::r) k=some p.2:=by simp[VQ,LU,e]
theorem Z0{p:κ×V}{r:List (κ×V)}{k:κ}(e:¬p.1=k):VQ (p::r) k=VQ r k:=by simp[VQ,LU,e]
theorem Jci(k:κ):∀kvs:List (κ×V),(kvs.any fun kv=>decide (kv.1=k))=(VQ kvs k).isSome
 | []=>rfl
 | p::r=>by
  rw[GU]
  by_cases e:p.1=k
  ·simp only[Z1 e,decide_eq_true e,RN,Option.isSome_some]
  ·rw[Z0 e,decide_eq_false e,G5];exact Jci k r
theorem Wq(kvs:List (κ×V))(k:κ)(v:V):(Wh kvs k v).length<=kvs.length+1:=by
 unfold Wh
 grind
theorem Jlq{kvs:List (κ×V)}{k:κ}(v:V)(h:VQ kvs k=none):Wh kvs k v=kvs++[(k,v)]:=by unfold Wh;rw[Jci,h];exact if_neg (by decide)

theorem RelO.isSome_eq{o:Option V}{u:Option Qc}(r:RelO o u):o.isSome=u.isSome:=by
 cases o with
 | none=>cases u with
  | none=>rfl
  | some _=>solve_by_elim
 | some _=>cases u with
  | none=>solve_by_elim
  | some _=>rfl
theorem RelO.getD{o:Option V}{u:Option Qc}{d:V}{d':Qc}(r:RelO o u)(rd:RelV d d'):RelV (o.getD d) (u.getD d'):=by
 cases o with
 | none=>cases u with
  | none=>exact rd
  | some _=>solve_by_elim
 | some _=>cases u with
  | none=>solve_by_elim
  | some _=>exact r

theorem KV.val{kvs:List (κ×V)}{vs:List (κ×Qc)}(r:KV kvs vs)(k:κ):RelO (VQ kvs k) (valueAt vs k):=by
 unfold KV at r
 induction r with
 | nil=>exact True.intro
 | @cons p q ps qs h t ih =>
  obtain⟨h1,h2⟩:=h
  by_cases e:p.1=k
  ·have e':q.1=k:=h1.symm.trans e
   have b:valueAt (q::qs) k=some q.2:=by simp[valueAt,LU,e']
   rw[Z1 e,b];exact h2
  grind[valueAt,Z0]
theorem KV.any{kvs:List (κ×V)}{vs:List (κ×Qc)}(r:KV kvs vs)(k:κ):(kvs.any fun kv=>decide (kv.1=k))=vs.any fun kv=>decide (kv.1=k):=by
 unfold KV at r
 induction r with
 | nil=>rfl
 | cons h t ih=>simp_all
theorem KV.repl{kvs:List (κ×V)}{vs:List (κ×Qc)}(r:KV kvs vs)(k:κ){y:V}{u:Qc}(ry:RelV y u) :
 KV (kvs.map fun kv=>if kv.1=k then(kv.1,y) else kv) (vs.map fun kv=>if kv.1=k then(kv.1,u) else kv):=by
 unfold KV at r ⊢
 induction r with
 | nil=>exact .nil
 | @cons p q ps qs h t ih =>
  rw[Qi,Qi];refine .cons ?_ ih
  grind
theorem KV.put{kvs:List (κ×V)}{vs:List (κ×Qc)}(r:KV kvs vs)(k:κ){y:V}{u:Qc}(ry:RelV y u):KV (Wh kvs k y) (stored vs k u):=by
 unfold Wh stored;rw[r.any k]
 by_cases e:(vs.any fun kv=>decide (kv.1=k))=true
 ·rw[if_pos e,if_pos e];exact r.repl k ry
 ·rw[if_neg e,if_neg e];exact Paired.snoc r ⟨rfl,ry⟩
theorem KV.length{kvs:List (κ×V)}{vs:List (κ×Qc)}(r:KV kvs vs):kvs.length=vs.length:=MA r
end

theorem Jfa{P:Qu}{w:QJ}{k:Key}{u:Qc}(r:RelV (kV k) u):(JW P w).is k u=true:=by
 cases k with
 | inl i=>obtain⟨t,e⟩:=(show ∃t,u=Value.int i t from r);subst e;exact Jfo P w i t
 | inr x=>obtain⟨t,e⟩:=(show ∃t,u=Value.str x t from r);subst e;exact Jfp P w x t
theorem JcS{P:Qu}{w:QJ}:∀{ks:List Key} {us:List Qc},Vals (ks.map kV) us->ItemsAre (JW P w) ks us
 | [],_,r=>by rw[G4] at r;cases r;exact .nil
 | k::ks,_,r=>by
  rw[Qi] at r
  cases r with
  | cons h t=>exact .cons (Jfa h) (JcS t)

noncomputable abbrev KT(H:Hp):List (List Key×V)->List (List Key×Qd×Qc)->Prop:=Paired fun p q=>p.1=q.1/\H q.2.1=some (.tup (p.1.map kV))/\RelV p.2 q.2.2
theorem KT.val{H:Hp}{kvs:List (List Key×V)}{xs:List (List Key×Qd×Qc)}(r:KT H kvs xs)(k:List Key):RelO (VQ kvs k) ((atKey xs k).map (·.2)):=by
 induction r with
 | nil=>exact True.intro
 | @cons p q ps qs h t ih =>
  obtain⟨h1,_,h2⟩:=h
  by_cases e:p.1=k
  ·have e':q.1=k:=h1.symm.trans e
   have b:atKey (q::qs) k=some q.2:=by simp[atKey,LU,e']
   rw[Z1 e,b];exact h2
  grind[atKey,Z0]
theorem KT.repl{H:Hp}{kvs:List (List Key×V)}{xs:List (List Key×Qd×Qc)}(r:KT H kvs xs)(k:List Key){y:V}{u:Qc}(ry:RelV y u) :
 KT H (kvs.map fun kv=>if kv.1=k then(kv.1,y) else kv) (xs.map (putAt k u)):=by
 induction r with
 | nil=>exact .nil
 | @cons p q ps qs h t ih =>
  rw[Qi,Qi];refine .cons ?_ ih;obtain⟨h1,h2,h3⟩:=h;unfold putAt
  by_cases e:p.1=k
  ·rw[if_pos e,if_pos (h1.symm.trans e)];exact⟨h1,h2,ry⟩
  ·rw[if_neg e,if_neg (fun z=>e (h1.trans z))];exact⟨h1,h2,h3⟩
theorem KT.put{H:Hp}{kvs:List (List Key×V)}{xs:List (List Key×Qd×Qc)}(r:KT H kvs xs)(k:List Key){b:Qd}{y:V}{u:Qc}(hb:H b=some (.tup (k.map kV)))(ry:RelV y u) :
 KT H (Wh kvs k y) (storedH xs k b u):=by
 have e:(kvs.any fun kv=>decide (kv.1=k))=(atKey xs k).isSome:=by rw[Jci,(r.val k).isSome_eq,Option.isSome_map]
 unfold Wh storedH;rw[e]
 by_cases q:(atKey xs k).isSome=true
 ·rw[if_pos q,if_pos q];exact r.repl k ry
 ·rw[if_neg q,if_neg q];exact Paired.snoc r ⟨rfl,hb,ry⟩
theorem KT.keeps{H H':Hp}{kvs:List (List Key×V)}{xs:List (List Key×Qd×Qc)}(r:KT H kvs xs)(ht:∀b ys,H b=some (.tup ys)->H' b=some (.tup ys)):KT H' kvs xs :=
 Paired.mapP r fun _ _ z=>⟨z.1,ht _ _ z.2.1,z.2.2⟩

section
variable{P:Qu}{w:QJ}{H:Hp}{h:Q0}{a:Qd}
theorem JoR{u:HO}(ok:HOk P w H h)(e:Rd H a u):ObjOk P w H h a u:=e.ok ok
theorem JeU{kvs:List (Key×V)}(ok:HOk P w H h)(e:Rd H a (.dK kvs)):kvs.length<=Qq/\(a == sysModules)=false/\∃vs,KV kvs vs/\h.DictOf (JW P w) a vs :=
 show ObjOk P w H h a (.dK kvs) from JoR ok e
theorem JoD{kvs:List (Key×V)}(ok:HOk P w H h)(e:H a=some (.dK kvs)):kvs.length<=Qq/\(a == sysModules)=false/\∃vs,KV kvs vs/\h.DictOf (JW P w) a vs:=JeU ok (.inl e)
theorem JdT{ks:List Key}(ok:HOk P w H h)(e:H a=some (.tup (ks.map kV))):(tupleKind (JW P w)).is h ks a:=by
 obtain⟨_,its,r,o,h1,h2,n,h3⟩:=(show ObjOk P w H h a (.tup (ks.map kV)) from ok a _ e)
 exact⟨o,its.toArray,n,h1,h2,h3,by simpa using JcS r⟩
theorem JeW{kvs:List (List Key×V)}(ok:HOk P w H h)(e:Rd H a (.dT kvs)):kvs.length<=Qq/\(a == sysModules)=false ∧
 ∃xs,KT H kvs xs/\h.DictOfH (tupleKind (JW P w)) a xs:=by
 obtain⟨z,y,xs,r,o,es,ep,h1,h2,h3,h4,h5⟩:=(show ObjOk P w H h a (.dT kvs) from JoR ok e)
 refine⟨z,y,xs,r,o,es,ep,h1,h2,h3,h4,fun x hx=>?_,h5⟩
 have all:∀{l:List (List Key×V)} {m:List (List Key×Qd×Qc)},KT H l m->∀x∈m,(tupleKind (JW P w)).is h x.1 x.2.1:=by
  intro l m q
  induction q with
  | nil=>simp_all
  | @cons p q ps qs hq t ih =>
   intro x hx;rcases Qp.mp hx with e|hx
   ·subst e;exact JdT ok (by rw[<- hq.1];exact hq.2.1)
   ·exact ih x hx
 exact all r x hx
theorem JrQ{kvs:List (List Key×V)}(ok:HOk P w H h)(e:H a=some (.dT kvs)):kvs.length<=Qq/\(a == sysModules)=false ∧
 ∃xs,KT H kvs xs/\h.DictOfH (tupleKind (JW P w)) a xs:=JeW ok (.inl e)
end

noncomputable def JiQ(H:Hp)(a:Qd)(y:V)(r:Option V):Prop :=
 (∃kvs k,Rd H a (.dK kvs)/\y=kV k/\r=VQ kvs k)\/∃kvs k b,Rd H a (.dT kvs)/\y=.ref b/\H b=some (.tup (k.map kV))/\r=VQ kvs k
noncomputable def JrD(H:Hp)(a:Qd)(y v:V)(H':Hp):Prop :=
 (∃kvs k,H a=some (.dK kvs)/\y=kV k/\kvs.length<Qq/\H'=upd H a (.dK (Wh kvs k v))) ∨
 ∃kvs k b,H a=some (.dT kvs)/\y=.ref b/\H b=some (.tup (k.map kV))/\kvs.length<Qq/\H'=upd H a (.dT (Wh kvs k v))
section
variable{X:Cx}{pins:List (Qd×Obj)}{σ:St}{H:Hp}{s:Qe}{a:Qd}{y v:V}{u r:Qc}{o:Option V}{A:QI}{E:Qc->Qe->Prop}

theorem Inv.big(I:Inv X pins σ H s):sysModules<s.heap.objs.size:=by have h:mainGlobals<s.heap.objs.size:=(I.mod.glob.keeps I.bk).lt;exact Gm (by decide) h

theorem Ji6{Q:Qc->Qe->Prop}(hu:A.units+1<cLine)(I:Inv X pins σ H s)(g:JiQ H a y (some v))(ry:RelV y u)(h:∀w' s',Inv X pins σ H s'->RelV v w'->Q w' s') :
 wpAny (model X.prog X.w) A (getItem (.ref a) u) Q E s:=by
 rcases g with ⟨kvs,k,e,ey,l⟩|⟨kvs,k,b,e,ey,eb,l⟩
 ·subst ey;obtain⟨z,hd,vs,rel,dd⟩:=JeU I.hok e;obtain⟨w',hw,rw'⟩:=RelO.some_of (v:=v) (o:=valueAt vs k) (by rw[l];exact rel.val k);exact wpAny_getItem_of (Jfa ry) dd.mapOf hw (h w' _ (I.tok _) rw')
 ·subst ey;cases (show u=Value.ref b from ry);obtain⟨z,hd,xs,rel,dd⟩:=JeW I.hok e;obtain⟨w',hw,rw'⟩:=RelO.some_of (v:=v) (o:=(atKey xs k).map (·.2)) (by rw[l];exact rel.val k);obtain⟨p,hp,hp2⟩:=Q5.mp hw;refine wpAny_getItem_heap (tupleKind_room_in1 hu) (JdT I.hok eb) dd hp ?_;rw[hp2];exact h w' _ (I.tok _) rw'
theorem Jdx{h':Q0}{t':Nat}{ob:HO}(I:Inv X pins σ H s)(mu:Mut (H a))(hs:Qy a s.heap h')(he:∃q,h'.get? a=some q)(new:ObjOk X.prog X.w (upd H a ob) h' a ob) :
 Inv X pins σ (upd H a ob) { s with heap:=h',toks:=t' } :=
 I.write (x:=a) (e:=a) mu (.inl rfl) (fun b q hb z=>(hs.2 b hb).trans z) he new
theorem Jkh{P:Qu}{w:QJ}{H':Hp}{h':Q0}{kvs:List (Key×V)}{vs:List (Key×Qc)}(z:kvs.length<=Qq)(hd:(a == sysModules)=false)(rel:KV kvs vs)(dd:h'.DictOf (JW P w) a vs) :
 ObjOk P w H' h' a (.dK kvs):=⟨z,hd,vs,rel,dd⟩
theorem Ji7{H':Hp}{Q:Unit->Qe->Prop}(hu:A.units+1<cLine)(I:Inv X pins σ H s)(g:JrD H a y v H')(ry:RelV y u)(rv:RelV v r)(h:∀s',Inv X pins σ H' s'->Q () s') :
 wpAny (model X.prog X.w) A (setItem (.ref a) u r) Q E s:=by
 rcases g with ⟨kvs,k,e,ey,l,eH⟩|⟨kvs,k,b,e,ey,eb,l,eH⟩
 ·subst ey eH;obtain⟨z,hd,vs,rel,dd⟩:=JoD I.hok e;have hz:vs.length<=Qq:=by rw[<- rel.length];exact z
  have hl:(Wh kvs k v).length<=Qq:=by grind[Wq]
  refine wpAny_setItem_pairs (hsz:=hz) (Jfa ry) dd fun h' dd' hs=>h _ ?_
  have he:∃q,h'.get? a=some q:=let ⟨q,_,_,hq,_⟩:=dd';⟨q,hq⟩
  exact Jdx I (by rw[e];exact True.intro) hs he (Jkh hl hd (rel.put k rv) dd')
 ·subst ey eH;cases (show u=Value.ref b from ry);obtain⟨z,hd,xs,rel,dd⟩:=JrQ I.hok e;have hz:xs.length<=Qq:=by rw[<- MA rel];exact z
  have hl:(Wh kvs k v).length<=Qq:=by grind[Wq]
  refine wpAny_setItem_heap (hsz:=hz) (tupleKind_room_in1 hu) (JdT I.hok eb) dd fun h' dd' hs=>h _ ?_
  obtain⟨q,es,ep,hq,h2,h3,h4,_,h5⟩:=dd';refine Jdx I (by rw[e];exact True.intro) hs ⟨q,hq⟩ ⟨hl,hd,_,(rel.put k eb rv).keeps fun c ys ec=>?_,q,es,ep,hq,h2,h3,h4,h5⟩
  grind[Jl]
end

section
variable{X:Cx}{pins:List (Qd×Obj)}{σ:St}{H:Hp}{s:Qe}{a:Qd}{kvs:List (Key×V)}{k:Key}{u:Qc}{A:QI}{E:Qc->Qe->Prop}
end

noncomputable def JrG(i:Q4):Prop:=∀ov iv,subscripted i false ov iv=operate [ov,iv] (getItem ov iv)
theorem Joj{prog:Qu}{w:QJ}{A:QI}{E:Qc->Qe->Prop}{s:Qe}{env:Env}{value slice:Q4}{pos:Pos}{T id:String}{Q:Qc->Qe->Prop}
 (hl:typeLookup (.type T) "__getitem__"=pure (some (.builtin id))) (hs:JrG slice)
 (h:wpAny (model prog w) A (eval value env) (fun o s₁=>wpAny (model prog w) A (eval slice env) (fun i s₂=>s₂.TypeIs o T/\wpAny (model prog w) A (getItem o i) Q E s₂) E s₁) E s) :
 wpAny (model prog w) A (eval (.Subscript value slice pos) env) Q E s:=by
 refine Subscript_ (K4 h (fun o s₁ h₁=>K4 h₁ (fun i s₂ h₂=>?_) fun _ _ x=>x) fun _ _ x=>x);obtain⟨hT,h₂⟩:=h₂;unfold subscriptTail;refine Qa ?_;rw[getitemInPython_of_ne hT.not_modules];refine Qa (KR hT hl ?_)
 have fin:wpAny (model prog w) A (subscripted slice false o i) (fun r s₃=>wpAny (model prog w) A (letTemporaryGo value o r >>= fun _=>pure r) Q E s₃) E s₂:=by rw[hs o i];exact wpAny_operating (K4 h₂ (fun r s₃ h₃=>Qa (wpAny_letTemporaryGo (Qk h₃))) fun _ _ x=>x)
 first
  | exact Qk (Qa fin)
  | exact Qa (Qk (Qa fin))
  | exact Qa fin

theorem JeS{X:Cx}{pins:List (Qd×Obj)}{σ:St}{H:Hp}{s:Qe}{a:Qd}{y:V}{o:Option V}(I:Inv X pins σ H s)(g:JiQ H a y o):s.TypeIs (.ref a) "dict":=by
 rcases g with ⟨kvs,k,e,_,_⟩|⟨kvs,k,b,e,_,_,_⟩
 ·obtain⟨_,_,vs,_,dd⟩:=JeU I.hok e;exact dd.typeIs
 ·obtain⟨_,_,xs,_,dd⟩:=JeW I.hok e;exact dd.typeIs
noncomputable def JoX(td ty:TE):TE:=fun σ H Q=>td σ H fun x H1=>ty σ H1 fun y H2=>∃a v,x=.ref a/\JiQ H2 a y (some v)/\Q v H2
noncomputable def JoS(td ty tv:TE):TS:=fun D σ H=>tv σ H fun v H1=>td σ H1 fun x H2=>ty σ H2 fun y H3=>∃a H4,x=.ref a/\JrD H3 a y v H4/\D.nx σ H4
section
variable{X:Cx}{o i e value:Q4}{pos pos' tpos:Pos}{td ty tv:TE}
theorem JnE(hu:X.A.units+1<cLine)(ho:PE X o td)(hi:PE X i ty)(hs:JrG i):PE X (.Subscript o i pos) (JoX td ty):=by intro pins s σ H Q I h;refine Joj PySem.F.slot_dict_getitem.lookup hs (thn (ho pins s σ H _ I h) fun u s1 ⟨x,H1,I1,rx,q1⟩=>thn (hi pins s1 σ H1 _ I1 q1) fun iv s2 ⟨y,H2,I2,ry,a,v,ex,g,q2⟩=>?_);subst ex;obtain rfl:u=Value.ref a:=rx;exact⟨JeS I2 g,Ji6 hu I2 g ry fun w' s3 I3 rw'=>⟨v,H2,I3,rw',q2⟩⟩
theorem JnP(hu:X.A.units+1<cLine)(ho:PE X o td)(hi:PE X i ty)(hv:PE X value tv)(hs:swapsWith value (some (.Subscript o i pos')) pos.line X.env=pure false) :
 PS X (.Assign [.Subscript o i pos'] value pos) (JoS td ty tv):=by
 intro pins s σ H D I h;refine wpAny_Assign_Subscript (thn (hv pins s σ H _ I h) fun r s1 ⟨v,H1,I1,rv,q1⟩=>thn (ho pins s1 σ H1 _ I1 q1) fun u s2 ⟨x,H2,I2,rx,q2⟩=>thn (hi pins s2 σ H2 _ I2 q2) fun iv s3 ⟨y,H3,I3,ry,a,H4,ex,g,q3⟩=>?_) hs;subst ex;obtain rfl:u=Value.ref a:=rx;exact Ji7 hu I3 g ry rv fun s4 I4=>⟨σ,H4,I4,q3⟩
end

theorem Jkg{P:Qu}{w:QJ}{H:Hp}(h:Q0)(hb:sysModules<h.objs.size):ObjOk P w H (h.push { cls:=.type "dict",data:=.dict #[] }) h.objs.size (.dK []) :=
 ⟨GS _,beq_eq_false_iff_ne.mpr (QY (QQ hb)),[],.nil,Heap.DictOf.new h⟩
noncomputable def Jl4:TE:=fun _ H Q=>∀p,H p=none->Q (.ref p) (upd H p (.dK []))
section
variable{X:Cx}{pos:Pos}
theorem JfF:PE X (.Dict [] [] pos) Jl4:=fun pins s σ H Q I h=>wpAny_Dict_empty ⟨.ref s.heap.objs.size,_,I.laid (a:=s.heap.objs.size) (o:=.dK []) (t':=s.toks) (fun _ _ q=>Qf _ q) (Qo _) (Jkg s.heap I.big),rfl,h _ (I.hok.fresh (Qo _))⟩
end

structure M2 (X:Cx) (o:Q4) (m:Str) (apos:Pos) (e f:Q4) (cpos:Pos):Prop where
 base:attributeBase o m X.env (eval o X.env)=eval o X.env
 few:((backTo cpos (starEach [e,f] X.env)).all (fun x=>!x.1) && (backToKw cpos (keywordEach [] X.env)).all (fun x=>x.1.isSome)
  && decide (([e,f]:List Q4).length+([]:List MV).length+(if ([]:List MV).isEmpty then 0 else 1)<30))=true
 line:(apos.endLine == cpos.line)=true
 trees:backTo cpos (starEach [e,f] X.env)=[(false,eval e X.env),(false,eval f X.env)]

noncomputable def IsD(H:Hp)(a:Qd):Prop:=(∃kvs,Rd H a (.dK kvs))\/∃kvs,Rd H a (.dT kvs)
theorem JgF{X:Cx}{pins:List (Qd×Obj)}{σ:St}{H:Hp}{s:Qe}{a:Qd}(I:Inv X pins σ H s)(d:IsD H a) :
 s.TypeIs (.ref a) "dict"/\(∀b,Value.ref a=.ref b->∃ob,s.heap.get? b=some ob/\ob.dict=none)/\(a == sysModules)=false:=by
 rcases d with ⟨kvs,e⟩|⟨kvs,e⟩
 ·obtain⟨_,hd,vs,_,dd⟩:=JeU I.hok e;refine⟨dd.typeIs,fun b q=>?_,hd⟩;cases q;obtain⟨ob,_,_,h1,h2,_⟩:=dd;exact⟨ob,h1,h2.2.1⟩
 ·obtain⟨_,hd,xs,_,dd⟩:=JeW I.hok e;refine⟨dd.typeIs,fun b q=>?_,hd⟩;cases q;obtain⟨ob,_,_,h1,h2,_⟩:=dd;exact⟨ob,h1,h2.2.1⟩

section
variable{X:Cx}{pins:List (Qd×Obj)}{σ:St}{H:Hp}{s:Qe}{a:Qd}{y d:V}{u r:Qc}{o:Option V}{A:QI}{E:Qc->Qe->Prop}
theorem Jpr{Q:Qc->Qe->Prop}(hu:A.units+1<cLine)(I:Inv X pins σ H s)(g:JiQ H a y o)(ry:RelV y u)(rd:RelV d r)(h:∀w' s',Inv X pins σ H s'->RelV (o.getD d) w'->Q w' s') :
 wpAny (model X.prog X.w) A (call (.builtin "dict.get") [.ref a,u,r]) Q E s:=by
 rcases g with ⟨kvs,k,e,ey,l⟩|⟨kvs,k,b,e,ey,eb,l⟩
 ·subst ey;obtain⟨z,hd,vs,rel,dd⟩:=JeU I.hok e;refine call_meetsIn LD dd.typeIs MZ (ML _ _ _) (meets_dict_get_default (JW X.prog X.w) a (Jfa ry) hd r) ⟨_,dd.mapOf,h _ _ (I.tok _) ?_⟩;rw[l];exact(rel.val k).getD rd
 ·subst ey;cases (show u=Value.ref b from ry);obtain⟨z,hd,xs,rel,dd⟩:=JeW I.hok e;refine call_meetsIn LD dd.typeIs MZ (ML _ _ _) (meetsH_dict_get_default (tupleKind (JW X.prog X.w)) a b hd r) ⟨tupleKind_room_in1 hu,k,xs,JdT I.hok eb,dd,h _ _ (I.tok _) ?_⟩;rw[l];exact(rel.val k).getD rd
end

noncomputable def Jl3(td ty tx:TE):TE:=fun σ H Q=>td σ H fun x H1=>∃a,x=.ref a/\IsD H1 a/\ty σ H1 fun y H2=>tx σ H2 fun z H3=>∃o,JiQ H3 a y o/\Q (o.getD z) H3
section
variable{X:Cx}{o e f:Q4}{apos cpos:Pos}{td ty tx:TE}
theorem Jlf(hu:X.A.units+1<cLine)(ho:PE X o td)(he:PE X e ty)(hf:PE X f tx)(m:M2 X o "get" apos e f cpos):PE X (.Call (.Attribute o "get" apos) [e,f] [] cpos) (Jl3 td ty tx):=by
 intro pins s σ H Q I h;refine wpAny_Call_method m.base m.few m.line Lp LD PySem.F.type_dict_get (thn (ho pins s σ H _ I h) fun u s1 ⟨x,H1,I1,rx,a,ex,d,q1⟩=>?_);subst ex;obtain rfl:u=Value.ref a:=rx;obtain⟨t1,t2,_⟩:=JgF I1 d;refine⟨t1,t2,?_⟩;rw[m.trees];refine Kd rfl (LO (Kk (thn (he pins s1 σ H1 _ I1 q1) fun iv s2 ⟨y,H2,I2,ry,q2⟩=>Kk (thn (hf pins s2 σ H2 _ I2 q2) fun fv s3 ⟨z,H3,I3,rz,ov,g,q3⟩=>Lr ?_))))
 exact Jpr hu I3 g ry rz fun w' s4 I4 rw'=>⟨_,H3,I4,rw',q3⟩
end

section
variable{X:Cx}{pins:List (Qd×Obj)}{σ:St}{H:Hp}{s:Qe}{a:Qd}{kvs:List (Key×V)}{A:QI}{E:Qc->Qe->Prop}
end

section
variable{X:Cx}{pins:List (Qd×Obj)}{σ:St}{H:Hp}{s:Qe}{a:Qd}{y:V}{u:Qc}{A:QI}{E:Qc->Qe->Prop}
end
end L2

namespace L2
open PySem PySem.Spec PyProof.Rows

noncomputable def JjZ(X:Cx)(ifs:List Q4)(t:TT):Prop :=
 ∀(pins:List (Qd×Obj)) (s:Qe) (σ:St) (H:Hp) (Q:Bool->Hp->Prop),Inv X pins σ H s->t σ H Q ->
  wpAny (model X.prog X.w) X.A (forIn ifs true fun c r=>if r=true then do let ok <- isTrue c X.env (eval c X.env);pure (ForInStep.yield ok) else pure (ForInStep.yield r)) (TP X pins σ Q) X.xe s
noncomputable def Jrn:TT:=fun _ H Q=>Q true H
theorem J7{X:Cx}:JjZ X [] Jrn:=fun _ _ _ H _ I h=>wpAny_tests_nil ⟨H,I,h⟩
theorem Jlk{X:Cx}{c:Q4}{t:TT}(h:PT X c t):JjZ X [c] t:=fun pins s σ H Q I q=>wpAny_tests_one (h pins s σ H Q I q)

noncomputable def blk(X:Cx)(sc:L8)(cl:List (Str×Qd))(N':List Str)(C:Qd)(s:Qe)(H:Hp)(fp:List Qd):Cx where
 prog:=X.prog
 w:=X.w
 K:=X.K
 mg:=X.mg
 base:=X.base
 A:=X.A
 N:=N'
 s₀:=s
 H₀:=H
 env:=compEnvC sc cl C X.env
 outer:=X.stack
 stack:=X.stack
 ex:=fp
 fn:=fun _=>false
 calm:=X.calm
 pn:=[]
 xe:=fun _ _=>False

noncomputable def Jbw(imp:List (Option Nat))(σ:St):St:=imp.map fun o=>match o with
 | none=>none
 | some k=>(σ[k]?).join

structure Blk (X:Cx) (sc:L8) (cl:List (Str×Qd)) (N':List Str) (imp:List (Option Nat)):Prop where
 clos:closureFor sc X.env=pure cl
 kind:sc.kind=.function
 nocell:∀y∈sc.names,y.2≠.cell
 names:∀y∈sc.names,y.2=.local->sc.names.lookup y.1=some .local
 sub:∀p∈cl,X.env.cells.lookup p.1=some p.2
 has:∀y∈(relabel sc X.env).names,(y.2=.cell\/y.2=.free)->(cl.lookup y.1).isSome=true
 len:imp.length=N'.length
 im:∀p∈imp.zip N',∀k,p.1=some k->X.N[k]?=some p.2/\(X.env.scope.names.lookup p.2=some .cell\/X.env.scope.names.lookup p.2=some .free)/\((relabel sc X.env).names.lookup p.2=some .cell\/(relabel sc X.env).names.lookup p.2=some .free)

noncomputable def JiD(wi:TI)(g:TG)(tt:TT)(te:TE)(imp:List (Option Nat)):TE:=fun σ H Q=>wi σ H fun J H1=>∃W:Nat->Nat->List V->St->Hp->Prop,(∃m,W 0 m [] (Jbw imp σ) H1)/\∀i m ys σ' H',W i m ys σ' H' ->
 (J.stop i H'/\ys.length<=Qq/\∀D,H' D=none->Q (.ref D) (upd H' D (.lst ys))) ∨
 (J.go i H'/\ys.length<Qq/\∃N:List V->St->Hp->Prop,(∀ys' σ2 H2,N ys' σ2 H2->∃m',m'<m/\W (i+1) m' ys' σ2 H2) ∧
  ∀x H2,J.yld i H' x H2->g x σ' H2 fun σ2 H3=>tt σ2 H3 fun b H4=>if b=true then te σ2 H4 fun y H5=>N (ys++[y]) σ2 H5 else N ys σ2 H4)

section
variable{P:Qu}{w:QJ}{H:Hp}{h h':Q0}
theorem HOk.sameBut{C:Qd}(x:HOk P w H h)(hC:H C=none)(k:∀b o,b≠C->h.get? b=some o->h'.get? b=some o):HOk P w H h':=fun a o e =>
 (x a o e).stay (fun b u hb q=>k b u (by grind) q) (fun _ q=>q) fun _ _ q=>q
theorem HOk.track{D:Qd}{o:HO}(x:HOk P w H h)(hD:H D=none)(new:ObjOk P w (upd H D o) h D o):HOk P w (upd H D o) h:=fun b u e=>by
 by_cases hb:b=D
 ·grind[Jw]
 ·rw[Jl hb] at e;exact(x b u e).stay (fun c v _ q=>q) (fun c q=>by rw[Jl (JA q hD)];exact q) fun c xs q=>by rw[Jl (JA q hD)];exact q
end

theorem W1{α:Type}{x:Str}{c:α}:∀{l:List (Str×α)},l.lookup x=some c->(x,c)∈l:=fun h=>G9 h

section
variable{X:Cx}{tg iter elt:Q4}{ifs:List Q4}{sc:L8}{cl:List (Str×Qd)}{N':List Str}{imp:List (Option Nat)}{pos:Pos}{wi:TI}{g:TG}{tt:TT}{te:TE}

theorem Blk.subL(B:Blk X sc cl N' imp):∀x c,cl.lookup x=some c->X.env.cells.lookup x=some c:=fun x c e=>B.sub (x,c) (W1 e)

theorem Jmr{pins:List (Qd×Obj)}{σ:St}{H:Hp}{s:Qe}{fp:List Qd}{h₁:Q0}{C:Qd}(B:Blk X sc cl N' imp)(I:Inv X pins σ H s)(hf:∀b∈fp,FpOk X pins H b)(hfo:∀b∈fp,∃o,s.heap.get? b=some o)
 (hC:s.heap.objs.size<C) (old:∀b o,s.heap.get? b=some o->h₁.get? b=some o) (ns:h₁.Ns C fun _=>none) :
 Inv (blk X sc cl N' C s H fp) [] (Jbw imp σ) H { s with heap:=h₁,toks:=s.toks }:=by
 have hlt:∀b∈fp,b<s.heap.objs.size:=fun b hb=>let ⟨_,e⟩:=hfo b hb;Qm e
 have clt:∀x c,X.env.cells.lookup x=some c->c<s.heap.objs.size:=fun x c e=>let ⟨_,q⟩:=I.cell x c e;q.lt
 have ok:(blk X sc cl N' C s H fp).Ok:={
  mod:=I.ok.mod
  kind:=B.kind
  glob:=I.ok.glob
  blt:=I.ok.blt
  above:=Kc hC
  inj:=fun x y c h1 h2=>I.ok.inj x y c (B.subL x c h1) (B.subL y c h2)
  has:=fun x hx=>by
   have hx':(relabel sc X.env).names.lookup x=some .cell\/(relabel sc X.env).names.lookup x=some .free:=hx
   have:(cl.lookup x).isSome=true:=by
    rcases hx' with z|z
    ·exact B.has (x,.cell) (W1 z) (.inl rfl)
    ·exact B.has (x,.free) (W1 z) (.inr rfl)
   exact MC.mp this
  cab:=fun x c z=>nomatch z
  hd:=I.ok.hd
  frames:=I.ok.frames
  stk:=.inl rfl
  exf:=fun b hb=>⟨QQ (Gm (hlt b hb) hC),fun x c e=>(hf b hb).2.2.2.2.1 x c (B.subL x c e)⟩
  bs:=I.bs
  bsz:=Gj I.ok.bsz I.sz
  noex:=fun b o e hb=>by
   rcases(hf b hb).2.2.2.1 with z|z
   ·exact I.ok.noex b o e z
   ·exact absurd (QM (Qm e) (Gj I.ok.bsz z)) (GG _)
  exfs:=fun b hb z=>by
   rcases Qp.mp (I.stkSub b z) with q|q
   ·exact(hf b hb).2.1 q
   ·exact(hf b hb).2.2.1 q
  funs:=I.stack
  frf:=I.stkFree }
 refine⟨ok,rfl,I.bare,Un.kept old,⟨_,ns,fun i x v h1 h2 h3=>?_⟩,fun x c e=>?_,I.hok.fresh (Kc hC),fun x c e=>I.freeC x c (B.subL x c e),fun p hp=>absurd (show p∈([]:List (Qd×Obj)) from hp) (by simp),I.hok.kept old,?_⟩
 ·have h1':N'[i]?=some x:=h1
  have h2':(imp.map fun o=>match o with|none=>none|some k=>(σ[k]?).join)[i]?=some (some v):=h2;rw[Qt] at h2'
  cases e:imp[i]? with
  | none=>simp_all
  | some q =>
   rw[e] at h2'
   cases q with
   | none=>cases h2'
   | some k =>
    have h2'':(σ[k]?).join=some v:=QV h2'
    have hk:σ[k]?=some (some v):=by grind
    have hm:(some k,x)∈imp.zip N':=by refine QG (i:=i) ?_;rw[Mo];exact⟨e,h1'⟩
    obtain⟨b1,b2,b3⟩:=B.im _ hm k rfl;obtain⟨m,hn,hl⟩:=I.loc;obtain⟨u,r,l⟩:=hl k x v b1 hk (b2.elim (fun z=>.inr (.inl z)) fun z=>.inr (.inr z));refine⟨u,r,.inr ⟨b3,?_⟩⟩
    have hc:∃c,X.env.cells.lookup x=some c/\s.heap.IsCell c (some u):=by
     rcases l with ⟨z,_⟩|⟨_,z⟩
     ·have z':X.env.scope.names.lookup x=some .local:=z
      simp_all
     ·exact z
    obtain⟨c,hc,oc,ho,hd⟩:=hc;obtain⟨c',hc'⟩:=ok.has x b3;have e2:=B.subL x c' hc';rw[hc] at e2;cases e2;exact⟨c,hc',oc,old c oc ho,hd⟩
 ·obtain⟨v,o,ho,hd⟩:=I.cell x c (B.subL x c e);exact⟨v,o,old c o ho,hd⟩
 ·show(imp.map _).length=N'.length;rw[QN];exact B.len

theorem Jmq{pins pn:List (Qd×Obj)}{σ σ':St}{H2 H':Hp}{s2 s4:Qe}{fp:List Qd}{C D:Qd}{Cs:Qd}{ys:List V}{its:List Qc}{k:Nat}{h':Q0}(I2:Inv X pins σ H2 s2)(f2:∀b∈fp,FpOk X pins H2 b)
 (I5:Inv (blk X sc cl N' C s2 H2 fp) pn σ' H' s4) (hC:s2.heap.objs.size<C) (hD:H' D=none) (hDs:s2.heap.objs.size<=D) (hDC:D≠C) (eD:s4.heap.get? D=some { cls:=.type "list",data:=.seq its.toArray k })
 (rv:Vals ys its) (hz:ys.length<=Qq) (hsb:Qy C s4.heap h'):Inv X pins σ (upd H' D (.lst ys)) { s4 with heap:=h' }:=by
 have U:Un (frs X.stack) fp H2 H' s2.heap s4.heap:=I5.base
 have kk:∀b o,b≠C->s4.heap.get? b=some o->h'.get? b=some o:=hsb.extBut
 have hC':H' C=none:=I5.free
 have ok1:HOk X.prog X.w H' h':=HOk.sameBut (C:=C) I5.hok hC' kk
 have ok2:HOk X.prog X.w (upd H' D (.lst ys)) h':=ok1.track hD ⟨hz,its,k,rv,kk _ _ hDC eD⟩
 have lt:∀b o,s2.heap.get? b=some o->b≠C/\b≠D:=fun b o e=>⟨QQ (Gm (Qm e) hC),QQ (QM (Qm e) hDs)⟩
 refine I2.call' (s':={ s4 with heap:=h' }) (ch:=fp) I5.os ⟨fun b o e n hb hx=>kk b o (lt b o e).1 (U.keep b o e n hb hx),fun b o e n hb hx=>?_,fun b o e n hx=>?_,fun b o e hx=>?_,fun b xs e=>?_,fun b o u e=>?_,fun b ps l c z e=>?_⟩ ok2 I5.bare
  fun b hb=>⟨(f2 b hb).2.2.2.1,(f2 b hb).2.1,(f2 b hb).2.2.2.2.1,(f2 b hb).2.2.2.2.2⟩
 ·obtain⟨sl,q⟩:=U.slot b o e n hb hx;exact⟨sl,kk b _ (lt b o e).1 q⟩
 ·rw[Jl (lt b o e).2];exact U.free b o e n hx
 ·obtain⟨o',q⟩:=U.there b o e hx;exact⟨o',kk b o' (lt b o e).1 q⟩
 ·have q:=U.tups b xs e;rw[Jl (JA q hD)];exact q
 ·have q:=U.frzs b o u e;rw[Jl (JA q hD)];exact q
 ·have q:=U.tbls b ps l c z e;rw[Jl (JA q hD)];exact q

noncomputable def JrC(g:TG)(tt:TT)(te:TE)(imp:List (Option Nat))(σ:St)(Q:VK)(J:It)(H1:Hp):Prop:=∃W:Nat->Nat->List V->St->Hp->Prop,(∃m,W 0 m [] (Jbw imp σ) H1)/\∀i m ys σ' H',W i m ys σ' H' ->
 (J.stop i H'/\ys.length<=Qq/\∀D,H' D=none->Q (.ref D) (upd H' D (.lst ys))) ∨
 (J.go i H'/\ys.length<Qq/\∃N:List V->St->Hp->Prop,(∀ys' σ2 H2,N ys' σ2 H2->∃m',m'<m/\W (i+1) m' ys' σ2 H2) ∧
  ∀x H2,J.yld i H' x H2->g x σ' H2 fun σ2 H3=>tt σ2 H3 fun b H4=>if b=true then te σ2 H4 fun y H5=>N (ys++[y]) σ2 H5 else N ys σ2 H4)
theorem JcL{pins:List (Qd×Obj)}{σ:St}{Q:VK}{itv:Qc}{s2:Qe}{RR:Qc->Qd->MB->Qe->Prop}{E:Qc->Qe->Prop}(hc:X.calm=true)(B:Blk X sc cl N' imp)
 (hg:∀C s H fp,PG (blk X sc cl N' C s H fp) tg g) (ht:∀C s H fp,JjZ (blk X sc cl N' C s H fp) ifs tt) (he:∀C s H fp,PE (blk X sc cl N' C s H fp) elt te)
 (h2:PIE X pins σ tg (JrC g tt te imp σ Q) itv s2)
 (fin:∀(C D:Qd) (s4:Qe) (H':Hp) (ys:List V) (m:Str->Option Qc),s2.heap.objs.size<C->s4.heap.Ns C m->H' C=none->(∀h',Qy C s4.heap h'->Inv X pins σ H' { s4 with heap:=h' })->Q (.ref D) H'->RR (.ref D) C (.ok .next) s4) :
 wpAny (model X.prog X.w) X.A (newList []) (fun acc s₃=>wpAny (model X.prog X.w) X.A (newFunctionEnv sc X.env.globals cl [] X.env.qual none .none (some X.env)) (fun cenv s₄=>codeAny (model X.prog X.w) X.A (.compStart (.ListComp elt [⟨tg,iter,ifs,0⟩] sc pos) 0 itv acc { cenv with scope:=relabel sc X.env }) (RR acc cenv.locals) s₄) E s₃) E s2:=by
 obtain⟨it,fp,tn,J,H2,e,I2,T,st2,f2,W,⟨m0,w0⟩,turn⟩:=h2;subst e;refine Gz (wpAny_newFunctionEnv B.nocell (by intro y hy;simp at hy) (fun h₁ hns₁ hsb₁=>?_) B.kind);dsimp only at hns₁ hsb₁ ⊢
 generalize hG:s2.heap.push { cls:=.type "list",dict:=none,data:=.seq ([]:List Qc).toArray }=G at hns₁ hsb₁ ⊢
 have hCs:G.objs.size=s2.heap.objs.size+1:=by rw[<- hG,GD]
 have hC:s2.heap.objs.size<G.objs.size:=by rw[hCs];exact Lb _
 have JJ:∀b,b<s2.heap.objs.size->b≠G.objs.size:=fun b hb=>QQ (Gm hb hC)
 have old:∀b o,s2.heap.get? b=some o->h₁.get? b=some o:=fun b o e=>hsb₁.extBut b o (JJ b (Qm e)) (Qf _ (hG▸Qf _ e))
 have hD1:h₁.get? s2.heap.objs.size=some { cls:=.type "list",data:=.seq ([]:List Qc).toArray }:=hsb₁.extBut _ _ (QQ hC) (Qf _ (hG▸Qj _ rfl))
 have fpo:∀b∈fp,∃o,s2.heap.get? b=some o:=fun b hb=>let ⟨o,e,_⟩:=T.obj 0 _ st2 b hb;⟨o,e⟩
 have I4:=Jmr B I2 f2 fpo hC old (show h₁.Ns G.objs.size fun _=>none from hns₁)
 -- the records of the block: the list that grows,the iterator's
 have stD:∀{H':Hp} {pn:List (Qd×Obj)},(∀b∈s2.heap.objs.size::fp,H' b=none)->(∀p∈pn,p.1∉s2.heap.objs.size::fp)->∀b∈s2.heap.objs.size::fp,FpOk (blk X sc cl N' G.objs.size s2 H2 fp) pn H' b:=fun {H' pn} hn hp b hb=>by
  have hp':∀p∈([]++pn:List (Qd×Obj)),p.1≠b:=fun p z q=>hp p (by simpa using z) (q▸hb)
  rcases Qp.mp hb with z|z
  ·subst z;refine⟨hn _ hb,QQ hC,fun q=>?_,.inr (Qo _),fun x c e q=>?_,hp'⟩
   ·rcases Qp.mp (I2.stkSub _ q) with q|q
    ·exact absurd I2.lt (by simp_all)
    ·exact I2.nofs (Qo _) q
   ·obtain⟨v,qc⟩:=I2.cell x c (B.subL x c e);exact absurd qc.lt (by simp_all)
  ·refine⟨hn _ hb,JJ b (let ⟨_,e⟩:=fpo b z;Qm e),fun q=>?_,.inl z,fun x c e=>(f2 b z).2.2.2.2.1 x c (B.subL x c e),hp'⟩;rcases Qp.mp (I2.stkSub b q) with q|q
   ·exact(f2 b z).2.1 q
   ·exact(f2 b z).2.2.1 q
 have nDf:s2.heap.objs.size∉fp:=fun z=>let ⟨_,e⟩:=fpo _ z;absurd (Qm e) (GG _)
 have loop:codeAny (model X.prog X.w) X.A (.compLoop (.ListComp elt [⟨tg,iter,ifs,0⟩] sc pos) 0 (.ref it) (.ref s2.heap.objs.size) (compEnvC sc cl G.objs.size X.env))
  (RR (.ref s2.heap.objs.size) G.objs.size) { s2 with heap:=h₁,toks:=s2.toks }:=by
  refine codeAny_loop rfl (fun n s'=>∃i ys its k σ' H',Inv (blk X sc cl N' G.objs.size s2 H2 fp) [] σ' H' s'/\tn i s'.heap/\(∀b∈s2.heap.objs.size::fp,H' b=none)/\Vals ys its/\s'.heap.get? s2.heap.objs.size=some { cls:=.type "list",data:=.seq its.toArray k }/\W i n ys σ' H') ?_ m0
   ⟨0,[],[],0,_,H2,I4,T.keep _ _ _ st2 (fun b _ o e=>old b o e),fun b hb=>?_,.nil,hD1,w0⟩
  ·rintro n s3 ⟨i,ys,its,k,σ3,H3,I3,st3,fr3,rv3,hD3,w3⟩;have fr3':∀b∈fp,FpOk (blk X sc cl N' G.objs.size s2 H2 fp) [] H3 b:=fun b hb=>stD (pn:=[]) fr3 (fun p z=>nomatch z) b (Qh _ hb)
   show wpAny _ X.A ((compTurn (.ListComp elt [⟨tg,iter,ifs,0⟩] sc pos) 0 (.ref it) (.ref s2.heap.objs.size) (compEnvC sc cl G.objs.size X.env)).onRaise (fun x=>do noteFrame x (compEnvC sc cl G.objs.size X.env);theTreesLotGoes x)) _ _ s3;refine wpAny_noted (wpAny_noRaise ?_);rw[compTurn_list];refine Qa (wpAny_standAt (Qa ?_))
   have fD:=stD (pn:=[]) fr3 (fun p z=>nomatch z) s2.heap.objs.size Qg
   have hDH:H3 s2.heap.objs.size=none:=fr3 _ Qg
   have I3p:Inv (blk X sc cl N' G.objs.size s2 H2 fp) [(s2.heap.objs.size,{ cls:=.type "list",data:=.seq its.toArray k })] σ3 H3 s3:=I3.pins_of fun p hp=>by
    have e:p=(s2.heap.objs.size,{ cls:=.type "list",data:=.seq its.toArray k }):=by simpa using hp
    subst e;exact⟨hD3,hDH,fD.2.1,fD.2.2.1,fun v z=>by cases z⟩
   have pfp:∀p∈[(s2.heap.objs.size,({ cls:=.type "list",data:=.seq its.toArray k }:Obj))],p.1∉fp:=fun p hp=>by simp_all
   have fpP:∀{H':Hp},(∀b∈fp,H' b=none)->∀b∈fp,FpOk (blk X sc cl N' G.objs.size s2 H2 fp) [(s2.heap.objs.size,({ cls:=.type "list",data:=.seq its.toArray k }:Obj))] H' b:=fun {H'} hn b hb =>
    have f:=stD (pn:=[]) fr3 (fun p z=>nomatch z) b (Qh _ hb)
    ⟨hn b hb,f.2.1,f.2.2.1,f.2.2.2.1,f.2.2.2.2.1,fun p hp q=>pfp p ((Go.mp hp).elim (fun z=>nomatch (show p∈([]:List (Qd×Obj)) from z)) id) (q▸hb)⟩
   rcases turn i n ys σ3 H3 w3 with ⟨stop,hz,q⟩|⟨go,hz,N,hN,step⟩
   ·refine thn (T.done (blk X sc cl N' G.objs.size s2 H2 fp) rfl rfl rfl hc i _ s3 σ3 H3 _ I3p (fpP fun b hb=>fr3 b (Qh _ hb)) st3 stop) fun r s4 ⟨hr,I5⟩=>?_
    subst hr;refine Qk ?_;obtain⟨m,hn,_⟩:=I5.loc;have eD:=(I5.pin (s2.heap.objs.size,{ cls:=.type "list",data:=.seq its.toArray k }) (by simp)).1;have hCf:H3 G.objs.size=none:=I5.free;exact fin G.objs.size s2.heap.objs.size s4 _ ys m hC hn (by rw[Jl (Gc hC)];exact hCf) (fun h' hsb=>Jmq (Cs:=0) I2 f2 I5 hC hDH (Qo _) (QQ hC) eD rv3 hz hsb) (q _ hDH)
   ·refine thn (T.item (blk X sc cl N' G.objs.size s2 H2 fp) rfl rfl rfl hc i _ s3 σ3 H3 _ I3p (fpP fun b hb=>fr3 b (Qh _ hb)) st3 go) fun r s4 ⟨u,hr,h4⟩=>?_
    subst hr;refine Qa (thn h4 fun _ s5 ⟨x,H5,I5,r5,y5,st5,fr5⟩=>?_);have I5':=I5.pinned (fpP fr5) (T.obj _ _ st5);refine Qa (thn (hg G.objs.size s2 H2 fp _ s5 σ3 H5 x u _ I5' r5 (step x H5 y5)) fun _ s6 ⟨σ6,H6,I6,q6⟩=>?_);refine Qa (thn (ht G.objs.size s2 H2 fp _ s6 σ6 H6 _ I6 q6) fun ok s7 ⟨H7,I7,q7⟩=>?_)
    -- what stays of the records
    have recs:∀{σ':St} {H':Hp} {s':Qe},Inv (blk X sc cl N' G.objs.size s2 H2 fp) ([(s2.heap.objs.size,({ cls:=.type "list",data:=.seq its.toArray k }:Obj))]++JbV fp s5.heap) σ' H' s' ->
     tn (i+1) s'.heap/\(∀b∈s2.heap.objs.size::fp,H' b=none)/\s'.heap.get? s2.heap.objs.size=some { cls:=.type "list",data:=.seq its.toArray k }:=fun {σ' H' s'} I'=>by
     have pd:=I'.pin (s2.heap.objs.size,{ cls:=.type "list",data:=.seq its.toArray k }) (by simp)
     have pf:∀b∈fp,∀o,s5.heap.get? b=some o->s'.heap.get? b=some o/\H' b=none:=fun b hb o e=>by have z:=I'.pin (b,o) (Gr _ (Gr _ (W3 hb e)));exact⟨z.1,z.2.1⟩
     refine⟨T.keep _ _ _ st5 fun b hb o e=>(pf b hb o e).1,fun b hb=>?_,pd.1⟩;rcases Qp.mp hb with z|z
     ·subst z;exact pd.2.1
     ·obtain⟨o,e,d⟩:=T.obj _ _ st5 b z;exact(pf b z o e).2
    cases ok with
    | false=>obtain⟨m',hm,w7⟩:=hN _ _ _ (show N ys σ6 H7 from by simpa using q7);obtain⟨r1,r2,r3⟩:=recs I7;exact Qk ⟨rfl,m',hm,i+1,ys,its,k,σ6,H7,I7.pins_of (fun p hp=>nomatch hp),r1,r2,rv3,r3,w7⟩
    | true =>
     have q7':te σ6 H7 fun y H5=>N (ys++[y]) σ6 H5:=by simpa using q7
     refine Qa (Qa (thn (he G.objs.size s2 H2 fp _ s7 σ6 H7 _ I7 q7') fun y s8 ⟨y8,H8,I8,ry,q8⟩=>Qa ?_));obtain⟨r1,r2,r3⟩:=recs I8;have hl:=rv3.length;refine wpAny_list_append_plain (hsz:=by grind) ⟨k,r3⟩ fun h9 ⟨k9,hl9⟩ hs9=>Qk (Qk ?_)
     have hD8:H8 s2.heap.objs.size=none:=r2 _ Qg
     have f8:=stD (pn:=[]) r2 (fun p z=>nomatch z) s2.heap.objs.size Qg
     have I8':Inv (blk X sc cl N' G.objs.size s2 H2 fp) [] σ6 H8 s8:=I8.pins_of (fun p hp=>nomatch hp)
     have I9:Inv (blk X sc cl N' G.objs.size s2 H2 fp) [] σ6 H8 { s8 with heap:=h9 }:=I8'.turned (t':=s8.toks) (it:=s2.heap.objs.size) (fun b o hb e=>hs9.extBut b o hb e) hD8 f8.2.1 f8.2.2.2.1 f8.2.2.2.2.1 f8.2.2.2.2.2;obtain⟨m',hm,w8⟩:=hN _ _ _ q8;refine⟨rfl,m',hm,i+1,ys++[y8],its++[y],k9,σ6,H8,I9,?_,r2,rv3.append (.cons ry .nil),?_,w8⟩
     ·exact T.keep _ _ _ r1 fun b hb o e=>hs9.extBut b o (fun z=>nDf (z▸hb)) e
     ·rw[hl9];simp
  ·rcases Qp.mp hb with z|z
   ·subst z;exact I2.hok.fresh (Qo _)
   ·exact(f2 b z).1
 exact codeAny_compStart_list loop (T.self _ 0 _ _ _ (T.keep _ _ _ st2 fun b _ o e=>old b o e) loop)

theorem YJ(hc:X.calm=true)(hi:PI X tg iter wi)(B:Blk X sc cl N' imp)
 (hg:∀C s H fp,PG (blk X sc cl N' C s H fp) tg g) (ht:∀C s H fp,JjZ (blk X sc cl N' C s H fp) ifs tt) (he:∀C s H fp,PE (blk X sc cl N' C s H fp) elt te)
 (hs:∀x,foldedSetIterable iter X.env x=pure x:=by intro _;rfl):PE X (.ListComp elt [⟨tg,iter,ifs,0⟩] sc pos) (JiD wi g tt te imp):=by
 intro pins s σ H Q I h;rw[eval_ListComp];refine wpAny_comprehension_free (use:=none) rfl hs B.clos B.kind B.names (thn (hi pins s σ H _ I h) fun v s1 h1=>thn h1 fun itv s2 h2=>?_);refine JcL (RR:=fun acc C=>compPost (model X.prog X.w) X.A X.xe none (EP X pins σ Q) acc C) hc B hg ht he h2 fun C D s4 H' ys m hC hn hCf hI q=>?_
 exact⟨m,hn,fun h' hsb=>⟨.ref D,H',hI h' hsb,rfl,q⟩⟩
theorem W8{i:Nat}{x:Str}{pos' spos:Pos}(hN:X.N.Nodup)(hx1:X.N[i]?=some x)(hx2:Loc X.env.scope x)(hc:X.calm=true)(hi:PI X tg iter wi)(B:Blk X sc cl N' imp)
 (hg:∀C s H fp,PG (blk X sc cl N' C s H fp) tg g) (ht:∀C s H fp,JjZ (blk X sc cl N' C s H fp) ifs tt) (he:∀C s H fp,PE (blk X sc cl N' C s H fp) elt te)
 (hsw:swapsWith (.ListComp elt [⟨tg,iter,ifs,0⟩] sc pos) (some (.Name x pos')) spos.line X.env=pure true) (hf:X.fn x=true\/X.env.scope.names.lookup x=some .local)
 (hs:∀x,foldedSetIterable iter X.env x=pure x:=by intro _;rfl):PS X (.Assign [.Name x pos'] (.ListComp elt [⟨tg,iter,ifs,0⟩] sc pos) spos) (Jex (JiD wi g tt te imp) (V8 i)):=by
 intro pins s σ H D I h;rw[exec_Assign_Name_used _ _ _ _ hsw];refine Qa (wpAny_standAt (Qa ?_));show wpAny _ X.A (do let _ <- comprehension (.ListComp elt [⟨tg,iter,ifs,0⟩] sc pos) sc X.env _ (newList []) false (eval iter X.env) (some (assign (.Name x pos') X.env))) _ _ s;refine Qa (K4 (wpAny_comprehension_free (use:=some (assign (.Name x pos') X.env)) (Q:=fun _ s'=>SP X pins D .next s') rfl hs B.clos B.kind B.names
  (thn (hi pins s σ H _ I h) fun v s1 h1=>thn h1 fun itv s2 h2=>?_)) (fun _ s' hq=>Qk (Qk hq)) fun _ _ e=>e)
 refine JcL (Q:=fun y H1=>V8 i y σ H1 D.nx) (RR:=fun acc C=>compPost (model X.prog X.w) X.A X.xe (some (assign (.Name x pos') X.env)) (fun _ s'=>SP X pins D .next s') acc C) hc B hg ht he h2 fun C Dl s4 H' ys m hC hn hCf hI q=>?_
 obtain⟨it,fp,tn,J,H2,e,I2,_⟩:=h2;have I4:Inv X pins σ H' s4:=hI s4.heap (.refl ..);have neC:X.env.locals≠C:=QQ (Gm I2.lt hC)
 have neCc:∀y c,X.env.cells.lookup y=some c->c≠C:=fun y c e=>by obtain⟨v,qc⟩:=I2.cell y c e;exact QQ (Gm qc.lt hC)
 show wpAny _ X.A (assign (.Name x pos') X.env (.ref Dl)) _ _ s4;refine wpAny_assign_Name (Jc8 I4 hN hx1 hx2 (v:=.ref Dl) rfl (fun s5 I5 ⟨c0,hs5,hc0⟩=>?_) hf)
 have ne0:C≠c0:=by grind
 refine⟨m,hn.sameBut hs5 ne0,fun h' hsb=>⟨_,H',?_,q⟩⟩;refine I5.turned (t':=s5.toks) (it:=C) (fun b o hb e=>hsb.extBut b o hb e) hCf (QY neC) (.inr (Kc (Km I2.sz hC))) neCc fun p hp z=>?_
 have:=Qm (I2.pin p hp).1;rw[z] at this;exact absurd (Gm this hC) (GG _)
end
end L2

namespace L2
open PySem PySem.Spec PyProof.Rows

inductive Rep (K:Qw) (H:Hp):V->PyData->Prop
 | non:Rep K H .non .none
 | bl (b:Bool):Rep K H (.bl b) (.bool b)
 | int (i:Int):Rep K H (.int i) (.int i)
 | str (x:Str):Rep K H (.str x) (.str x)
 | tup {a:Qd} {xs:List V} {ds:List PyData}:SqT K H a xs->xs.length=ds.length->(∀(i:Nat) (x:V) (d:PyData),xs[i]?=some x->ds[i]?=some d->Rep K H x d)->Rep K H (.ref a) (.tuple ds)
 | lst {a:Qd} {xs:List V} {ds:List PyData}:SqL K H a xs->xs.length=ds.length->(∀(i:Nat) (x:V) (d:PyData),xs[i]?=some x->ds[i]?=some d->Rep K H x d)->Rep K H (.ref a) (.list ds)

noncomputable def RepL(K:Qw)(H:Hp)(xs:List V)(ds:List PyData):Prop :=
 xs.length=ds.length/\∀(i:Nat) (x:V) (d:PyData),xs[i]?=some x->ds[i]?=some d->Rep K H x d

section
variable{K:Qw}{H H':Hp}
theorem RepL.nil:RepL K H [] []:=⟨rfl,fun i x d e=>by simp at e⟩
theorem RepL.cons{x:V}{d:PyData}{xs:List V}{ds:List PyData}(h:Rep K H x d)(r:RepL K H xs ds):RepL K H (x::xs) (d::ds):=by
 refine⟨by simp[r.1],fun i y e h1 h2=>?_⟩
 cases i with
 | zero=>simp_all
 | succ i=>exact r.2 i y e (by simpa using h1) (by simpa using h2)
theorem RepL.append{xs ys:List V}{ds es:List PyData}(r:RepL K H xs ds)(q:RepL K H ys es):RepL K H (xs++ys) (ds++es):=by
 refine⟨by simp[r.1,q.1],fun i x d h1 h2=>?_⟩
 by_cases hi:i<xs.length
 ·rw[QE hi] at h1;rw[QE (by rw[<- r.1];exact hi)] at h2;exact r.2 i x d h1 h2
 ·rw[QS (by omega)] at h1;rw[QS (by rw[<- r.1];omega)] at h2;rw[<- r.1] at h2;exact q.2 _ x d h1 h2
theorem RepL.snoc{xs:List V}{ds:List PyData}{x:V}{d:PyData}(r:RepL K H xs ds)(h:Rep K H x d):RepL K H (xs++[x]) (ds++[d]):=r.append (.cons h .nil)
theorem RepL.get'{xs:List V}{ds:List PyData}{i:Nat}{x:V}(r:RepL K H xs ds)(e:xs[i]?=some x):∃d,ds[i]?=some d/\Rep K H x d:=by
 have hi:=(Qn.mp e).1
 have hx:i<ds.length:=by rw[<- r.1];exact hi
 exact⟨ds[i],by simp[hx],r.2 i x _ e (by simp[hx])⟩
theorem Rep.tupL{a:Qd}{xs:List V}{ds:List PyData}(h:SqT K H a xs)(r:RepL K H xs ds):Rep K H (.ref a) (.tuple ds):=.tup h r.1 r.2
theorem Rep.lstL{a:Qd}{xs:List V}{ds:List PyData}(h:SqL K H a xs)(r:RepL K H xs ds):Rep K H (.ref a) (.list ds):=.lst h r.1 r.2
theorem Rep.tupI{v:V}{ds:List PyData}(r:Rep K H v (.tuple ds)):∃a xs,v=.ref a/\SqT K H a xs/\RepL K H xs ds:=by
 cases r with
 | tup h l q=>exact⟨_,_,rfl,h,l,q⟩
theorem Rep.intI{v:V}{i:Int}(r:Rep K H v (.int i)):v=.int i:=by cases r;rfl
theorem Same.seqT{a:Qd}{xs:List V}(e:Same H H')(h:SqT K H a xs):SqT K H' a xs:=by
 rcases h with (h|⟨o,h⟩)|h
 ·solve_by_elim
 ·exact .inl (.inr ⟨o,e _ _ h⟩)
 ·exact .inr h
theorem Rep.mono{v:V}{d:PyData}(e:Same H H')(r:Rep K H v d):Rep K H' v d:=by
 induction r with
 | non=>exact .non
 | bl b=>exact .bl b
 | int i=>exact .int i
 | str x=>exact .str x
 | tup h l _ ih=>exact .tup (e.seqT h) l ih
 | lst h l _ ih=>exact .lst (e.seq h) l ih
theorem RepL.mono{xs:List V}{ds:List PyData}(e:Same H H')(r:RepL K H xs ds):RepL K H' xs ds:=⟨r.1,fun i x d h1 h2=>(r.2 i x d h1 h2).mono e⟩

noncomputable def SameEx(l:Qd)(H H':Hp):Prop:=∀b o,b≠l->H b=some o->H' b=some o
theorem SameEx.upd{l:Qd}{o:HO}:SameEx l H (upd H l o):=fun b o' hb e=>by rw[Jl hb];exact e
theorem Same.new{p:Qd}{o:HO}(hn:H p=none):Same H (upd H p o):=fun b o' e=>by rw[Jl (JA e hn)];exact e
theorem Same.ex_trans{l:Qd}{H2:Hp}(s:Same H H')(e:SameEx l H' H2):SameEx l H H2:=fun b o hb h=>e b o hb (s b o h)
end

theorem Vals.get':∀{xs:List V} {us:List Qc} {i:Nat} {u:Qc},Vals xs us->us[i]?=some u->∃x,xs[i]?=some x/\RelV x u
 | _,_,_,_,.nil,e=>by simp at e
 | _,_,0,_,.cons r _,e=>by simp_all
 | _,_,i+1,u,.cons _ t,e=>by
  obtain⟨x,h1,h2⟩:=Vals.get' (i:=i) (u:=u) t (by simpa using e)
  simp_all
theorem Wv{h:Q0}:∀(us:List Qc) (ds:List PyData),us.length=ds.length->(∀(i:Nat) (u:Qc) (d:PyData),us[i]?=some u->ds[i]?=some d->∃as,Reads h u d as)->∃as,ReadsAll h us ds as
 | [],[],_,_=>⟨_,.nil⟩
 | [],_::_,e,_=>by simp at e
 | _::_,[],e,_=>by simp at e
 | u::us,d::ds,e,f=>by
  obtain⟨as,h1⟩:=f 0 u d rfl rfl;obtain⟨bs,h2⟩:=Wv us ds (by simpa using e) fun i v c q1 q2=>f (i+1) v c (by simpa using q1) (by simpa using q2)
  exact⟨_,.cons h1 h2⟩
section
variable{X:Cx}{pins:List (Qd×Obj)}{σ:St}{H:Hp}{s:Qe}
theorem Rep.reads{v:V}{d:PyData}(I:Inv X pins σ H s)(r:Rep X.K H v d):∀u,RelV v u->∃as,Reads s.heap u d as:=by
 induction r with
 | non=>intro u r;cases r;exact⟨_,.none⟩
 | bl b=>intro u r;cases r;exact⟨_,.bool b⟩
 | int i=>intro u r;obtain⟨t,rfl⟩:=r;exact⟨_,.int i t⟩
 | str x=>intro u r;obtain⟨t,rfl⟩:=r;exact⟨_,.str x t⟩
 | tup h l _ ih =>
  intro u r;cases r;obtain⟨its,rv,p,hz⟩:=I.tuple h;obtain⟨o,ho,hc,n,hd⟩:=p
  obtain⟨as,q⟩:=Wv (h:=s.heap) its _ (rv.length.symm.trans l) fun i u d h1 h2=>by obtain⟨x,e1,e2⟩:=rv.get' h1;exact ih i x d e1 h2 u e2
  exact⟨_,.tuple ho hc hd q⟩
 | lst h l _ ih =>
  intro u r;cases r;obtain⟨its,rv,p,hz⟩:=I.list h;obtain⟨o,ho,hc,n,hd⟩:=p.isList
  obtain⟨as,q⟩:=Wv (h:=s.heap) its _ (rv.length.symm.trans l) fun i u d h1 h2=>by obtain⟨x,e1,e2⟩:=rv.get' h1;exact ih i x d e1 h2 u e2
  exact⟨_,.list ho hc hd q⟩
end

section
variable{X:Cx}
noncomputable def Jik(K:Qw):R2:=fun x y H Q=>rI0 (fun i j=>.int (i+j)) x y H Q\/(∃i j,x=.str i/\y=.str j/\i.length+j.length<=Qq/\Q (.str (i++j)) H)\/Jsu x y H Q
theorem Jnz:OpR X (binaryOp .Add) (Jik X.K):=op_add.or (op_add_str.or Jqs)
noncomputable def Jsv(K:Qw):R2:=fun x y H Q=>∃d e,Rep K H x d/\Rep K H y e/\d.canLay0=true/\e.canLay0=true/\min d.depth e.depth<=60/\Q (.bl (PyData.eqv d e)) H
noncomputable def JsC(K:Qw):R2:=fun x y H Q=>∃d e,Rep K H x d/\Rep K H y e/\d.canLay0=true/\e.canLay0=true/\min d.depth e.depth<=60/\Q (.bl (!PyData.eqv d e)) H
theorem Jqu(hu:X.A.units+64<cLine):OpR X (compareOp .Eq) (Jsv X.K):=by intro pins s σ H x y v u Q I rx ry h;obtain⟨d,e,h1,h2,c1,c2,hd,q⟩:=h;obtain⟨as,r1⟩:=h1.reads I v rx;obtain⟨bs,r2⟩:=h2.reads I u ry;exact SeqAt.compareEq_reads r1 r2 c1 c2 (by omega) ⟨.bl _,H,I,rfl,q⟩
theorem Jqz(hu:X.A.units+64<cLine):OpR X (compareOp .NotEq) (JsC X.K):=by intro pins s σ H x y v u Q I rx ry h;obtain⟨d,e,h1,h2,c1,c2,hd,q⟩:=h;obtain⟨as,r1⟩:=h1.reads I v rx;obtain⟨bs,r2⟩:=h2.reads I u ry;exact SeqAt.compareNe_reads r1 r2 c1 c2 (by omega) ⟨.bl _,H,I,rfl,q⟩
noncomputable def JqO(K:Qw):R2:=fun x y H Q=>rEq x y H Q\/Jsv K x y H Q
noncomputable def JqR(K:Qw):R2:=fun x y H Q=>rNe x y H Q\/JsC K x y H Q
theorem Jqt(hu:X.A.units+64<cLine):OpR X (compareOp .Eq) (JqO X.K):=op_eq.or (Jqu hu)
theorem Jqy(hu:X.A.units+64<cLine):OpR X (compareOp .NotEq) (JqR X.K):=op_ne.or (Jqz hu)
noncomputable def Jg2(K:Qw):List V->Hp->VK->Prop:=fun xs H Q=>∃x n,xs=[x]/\JrF K x H n/\Q (.int n) H
theorem Ji0:YD X (.builtin "len") (Jg2 X.K):=Jj8
noncomputable def JbX(K:Qw):List V->Hp->VK->Prop:=fun xs H Q=>∃p ys,xs=[.ref p]/\((SqL K H p ys/\∀l,H l=none->Q (.ref l) (upd H l (.tup ys)))\/(SqT K H p ys/\Q (.ref p) H))
theorem JeO:YD X (.type "tuple") (JbX X.K):=Jcn
noncomputable def Jeg(K:Qw):List V->Hp->VK->Prop:=fun xs H Q=>∃p ys,xs=[.ref p]/\(SqL K H p ys\/SqT K H p ys)/\∀l,H l=none->Q (.ref l) (upd H l (.lst ys))
theorem Jgp:YD X (.type "list") (Jeg X.K):=Jdp
inductive TyS (K:Qw) (H:Hp):V->Qc->Prop where
 | of {x:V} {t:Qc} (h:TyOf K H x t):TyS K H x t
 | sqT {a:Qd} {xs:List V} (h:SqT K H a xs):TyS K H (.ref a) (.type "tuple")
 | sqL {a:Qd} {xs:List V} (h:SqL K H a xs):TyS K H (.ref a) (.type "list")
noncomputable def Jsx:R2:=fun x y H Q=>y=.non/\Q (.bl (decide (x=.non))) H
noncomputable def Jlw:R2:=fun x y H Q=>y=.non/\Q (.bl (!decide (x=.non))) H
theorem UW:OpR X (compareOp .Is) Jsx:=Jqw
theorem ZP:OpR X (compareOp .IsNot) Jlw:=JnC
noncomputable def JqP:List V->Hp->VK->Prop:=fun xs H Q=>∃i j,xs=[.int i,.int j]/\Q (.int (if j>i then j else i)) H
noncomputable def JqQ:List V->Hp->VK->Prop:=fun xs H Q=>∃i j,xs=[.int i,.int j]/\Q (.int (if j<i then j else i)) H
theorem Ji2(hc:X.calm=true):YD X (.builtin "max") JqP:=Ji1 hc
theorem U0(hc:X.calm=true):YD X (.builtin "min") JqQ:=Ji3 hc
noncomputable def Jor(K:Qw)(ta:TE):TT:=fun σ H Q=>ta σ H fun x H1=>∃k,Jmm K x H1 k/\Q k H1
theorem JqL{a:Q4}{ta:TE}(ha:PE X a ta)(he:∀whole,isTrue a X.env whole=(do let v <- whole;standAt a.pos;holding [v] (truthy v))):PT X a (Jor X.K ta):=Jlo ha he
noncomputable def GV(mg:Str->Option Qc)(x:Str)(v:V):Prop:=∃u,mg x=some u/\RelV v u
theorem Ve{x:Str}{v:V}{pos:Pos}(hg:Gl X x)(hm:GV X.mg x v)(hd:(x == ("__debug__":Str))=false:=by decide):PE X (.Name x pos) (tC v):=by obtain⟨u,h1,h2⟩:=hm;exact JnF hg h1 h2 hd
end
theorem Ui:bootBuiltins "len"=some (.builtin "len"):=by decide +kernel
theorem Jpk:bootBuiltins "max"=some (.builtin "max"):=by decide +kernel
theorem WW:bootBuiltins "min"=some (.builtin "min"):=by decide +kernel
theorem Wl:bootBuiltins "sum"=some (.builtin "sum"):=by decide +kernel
theorem Jpj:bootBuiltins "any"=some (.builtin "any"):=by decide +kernel
theorem Jpi:bootBuiltins "all"=some (.builtin "all"):=by decide +kernel
theorem JiT:bootBuiltins "sorted"=some (.builtin "sorted"):=by decide +kernel
theorem Jgl:bootBuiltins "int"=some (.type "int"):=by decide +kernel
theorem Jac:bootBuiltins "str"=some (.type "str"):=by decide +kernel
theorem Jdm:bootBuiltins "list"=some (.type "list"):=by decide +kernel
theorem Jj3:bootBuiltins "tuple"=some (.type "tuple"):=by decide +kernel
theorem Jj4:bootBuiltins "zip"=some (.type "zip"):=by decide +kernel
theorem Zo:bootBuiltins "enumerate"=some (.type "enumerate"):=by decide +kernel
theorem JeM:bootBuiltins "reversed"=some (.type "reversed"):=by decide +kernel
structure Cal (P:Qu) (w:QJ) (K:Qw) (mg:Str->Option Qc) (base:Q0) (x:Str) (k:Nat) (ps:List Str) (sp:Sp):Prop where
 ex:∃(f:Qd) (fd:Qz),FnOk P w K mg base CX0 k f fd ps sp/\mg x=some (.ref f)/\keepIn K (.ref f)=true/\Binds K fd ps []
structure CalM (P:Qu) (w:QJ) (K:Qw) (mg:Str->Option Qc) (base:Q0) (x:Str) (C:Qd) (k:Nat) (ps:List Str) (sp:Sp):Prop where
 ex:∃(f:Qd) (fd:Qz),Mk K C f/\FnOk P w K mg base CX0 k f fd ps sp/\mg x=some (.ref C)/\Binds K fd ps []
section
variable{X:Cx}{k:Nat}{C:Qd}{ps:List Str}{sp:Sp}{x:Str}{p pos:Pos}{e:Q4}{es:List Q4}{t:TA}
theorem Jk(c:Cal X.prog X.w X.K X.mg X.base x k ps sp)(hr:Room k X.A)(hg:Gl X x)(ha:PA X (e::es) t)(hdb:(x == ("__debug__":Str))=false:=by decide)
 (he:starEach (e::es) X.env=(false,eval e X.env)::starEach es X.env:=by rfl) (hpl:(backTo pos (starEach es X.env)).any (·.1)=false:=by rfl):PE X (.Call (.Name x p) (e::es) [] pos) (JfX sp [] E0 t):=by
 obtain⟨f,fd,F,h1,h2,h3⟩:=c.ex;exact JnD F hr hg h1 h2 h3 .nil Jih ha hdb he hpl
theorem Vf(c:CalM X.prog X.w X.K X.mg X.base x C k ps sp)(hr:Room (k+1) X.A)(hg:Gl X x)(ha:PA X (e::es) t)(hdb:(x == ("__debug__":Str))=false:=by decide)
 (he:starEach (e::es) X.env=(false,eval e X.env)::starEach es X.env:=by rfl) (hpl:(backTo pos (starEach es X.env)).any (·.1)=false:=by rfl):PE X (.Call (.Name x p) (e::es) [] pos) (JfZ C sp [] E0 t):=by
 obtain⟨f,fd,M,F,h1,h3⟩:=c.ex;exact JnG M F hr hg h1 h3 .nil Jih ha hdb he hpl
end

noncomputable def JgD(K:Qw)(tl:TE):TI:=fun σ H R=>JoK K tl σ H R\/Jr4 K tl σ H R
theorem JqF{X:Cx}{tg l:Q4}{tl:TE}(hl:PE X l tl):PI X tg l (JgD X.K tl):=by
 intro pins s σ H R I h;rcases h with h|h
 ·exact JnI hl pins s σ H R I h
 ·exact JqG hl pins s σ H R I h

theorem JaP{X:Cx}{sc:L8}{N':List Str}{imp:List (Option Nat)}(h1:sc.kind=.function)
 (h2:(sc.names.all (fun y=>y.2 != .free && y.2 != .cell && (y.2 != .local || sc.names.lookup y.1 == some .local)) && imp.all (·.isNone) && (imp.length == N'.length))=true):Blk X sc [] N' imp:=by
 simp only[Q9,GH] at h2;obtain⟨⟨h2,h3⟩,h4⟩:=h2
 have nofree:∀y∈sc.names,y.2≠.free:=fun y hy=>by
  have:=(h2 y hy).1.1
  simpa using this
 have nocell:∀y∈sc.names,y.2≠.cell:=fun y hy=>by
  have:=(h2 y hy).1.2
  simpa using this
 refine⟨closureFor_none nofree,h1,nocell,fun y hy hl=>?_,(fun p hp=>nomatch hp),fun y hy hk=>?_,by simpa using h4,fun p hp k e=>?_⟩
 ·have:=(h2 y hy).2;rw[hl] at this
  simpa using this
 ·have:(relabel sc X.env).names=sc.names:=by
   unfold relabel;refine map_eq_self fun x hx=>?_
   obtain⟨n,q⟩:=x;have:(q == NameKind.free)=false:=by simpa using nofree _ hx
   simp[this]
  rw[this] at hy;rcases hk with z|z
  ·exact absurd z (nocell y hy)
  ·exact absurd z (nofree y hy)
 ·have:=h3 p.1 (Li hp).1
  simp_all

section
variable{K:Qw}{σ:St}{H H1:Hp}{Q:VK}{i:Nat}{v:V}{ta tb te:TE}{r:R2}{D:Ends}{t u:TS}{c:TT}
theorem Jq7(h:σ[i]?=some (some v))(q:Q v H):Wi i σ H Q:=⟨v,h,q⟩
theorem Jtb(q:Q v H):tC v σ H Q:=q
theorem JsK(q:ta σ H fun x H1=>tb σ H1 fun y H2=>r x y H2 Q):tOp r ta tb σ H Q:=q
theorem JsJ{g:Int->Int->V}{a b:Int}(q:Q (g a b) H):rI0 g (.int a) (.int b) H Q:=⟨a,b,rfl,rfl,q⟩
theorem JnR{a b:Int}(q:Q (.int (a+b)) H):Jik K (.int a) (.int b) H Q:=.inl ⟨a,b,rfl,rfl,q⟩
theorem Jn0{x:V}(q:Q (.bl (!decide (x=.non))) H):Jlw x .non H Q:=⟨rfl,q⟩
theorem JlC{a b:Int}(q:Q (.int (max a b)) H):JqP [.int a,.int b] H Q:=⟨a,b,rfl,by grind⟩
theorem JlD{a b:Int}(q:Q (.int (min a b)) H):JqQ [.int a,.int b] H Q:=⟨a,b,rfl,by grind⟩
theorem Jn2{Qb:Bool->Hp->Prop}(q:te σ H fun x H'=>∃k,x=.bl k/\Qb k H'):Jl6 te σ H Qb:=q
theorem JqW{c':TT}{Qb:Bool->Hp->Prop}(q:c σ H fun b H1=>if b=true then c' σ H1 Qb else Qb false H1):Jrk c c' σ H Qb:=q
theorem Jq4(q:t { D with nx:=u D } σ H):Joq t u D σ H:=q
theorem JqX{g:TG}(q:te σ H fun x H1=>g x σ H1 D.nx):Jex te g D σ H:=q
theorem JlB{Qs:St->Hp->Prop}(q:Qs (σ.set i (some v)) H):V8 i v σ H Qs:=q
theorem JqY(q:c σ H fun b H1=>if b=true then t D σ H1 else u D σ H1):Jon c t u D σ H:=q
theorem JnT(q:te σ H fun _ H1=>D.nx σ H1):ZX te D σ H:=q
theorem JnZ(q:D.nx σ H):Jl5 D σ H:=q
theorem JnS{tr:TA}{Ql:List V->Hp->Prop}(q:ta σ H fun x H1=>tr σ H1 fun xs H2=>Ql (x::xs) H2):Wb ta tr σ H Ql:=q
theorem Jq2{Ql:List V->Hp->Prop}(q:Ql [] H):Zk σ H Ql:=q
theorem JsI{r:List V->Hp->VK->Prop}{ts:TA}(q:ts σ H fun vs H1=>r vs H1 Q):tCB r ts σ H Q:=q
theorem Jip{sp:Sp}{E:XK}{ts:TA}(q:ts σ H fun vs H1=>sp vs H1 Q E):JfX sp [] E ts σ H Q:=by
 have e:(fun vs H1=>sp (vs++[]) H1 Q E)=fun vs H1=>sp vs H1 Q E:=by simp_all
 show ts σ H fun vs H1=>sp (vs++[]) H1 Q E
 rw[e];exact q
noncomputable def JjW(xs:List V)(H:Hp)(Q:VK):Prop:=xs.length<=Qq/\∀p,H p=none->Q (.ref p) (upd H p (.tup xs))
theorem Jq6{ts:TA}(q:ts σ H fun xs H1=>JjW xs H1 Q):Jrm ts σ H Q:=q
theorem Jpf{xs:List V}(hl:xs.length<=Qq)(q:∀p H',H p=none->Same H H'->H' p=some (.tup xs)->Q (.ref p) H'):JjW xs H Q:=⟨hl,fun p hp=>q p _ hp (.new hp) Jw⟩
theorem JnW{a:Qd}{xs:List V}(h:SqL K H a xs)(q:Q (.int xs.length) H):Jg2 K [.ref a] H Q:=⟨_,_,rfl,.inl ⟨xs,h,rfl⟩,q⟩
theorem JnY{a:Qd}{xs:List V}(h:SqT K H a xs)(q:Q (.int xs.length) H):Jg2 K [.ref a] H Q:=⟨_,_,rfl,.inr ⟨xs,h,rfl⟩,q⟩
theorem JnX{x:Str}(h:x.length<=Qq)(q:Q (.int x.length) H):Jg2 K [.str x] H Q:=⟨_,_,rfl,⟨h,rfl⟩,q⟩
theorem JjI{a:Qd}{xs:List V}(h:SqL K H a xs)(q:∀p H',H p=none->Same H H'->H' p=some (.tup xs)->Q (.ref p) H'):JbX K [.ref a] H Q:=⟨a,xs,rfl,.inl ⟨h,fun p hp=>q p _ hp (.new hp) Jw⟩⟩
theorem JqZ{a:Qd}{xs:List V}{j:Int}{v:V}(h:SqL K H a xs)(e:atI xs j=some v)(q:Q v H):rIx K (.ref a) (.int j) H Q:=.inl ⟨a,xs,j,v,rfl,rfl,h,e,q⟩
theorem Jq1{a:Qd}{xs:List V}{j:Int}{v:V}(h:SqT K H a xs)(e:atI xs j=some v)(q:Q v H):rIx K (.ref a) (.int j) H Q:=.inr (.inl ⟨a,xs,j,v,rfl,rfl,h,e,q⟩)
theorem Jq0{z:Str}{j:Int}{c:Nat}(hz:z.length<=Qq)(e:atI z.cps.toList j=some c)(q:Q (.str ⟨#[c]⟩) H):rIx K (.str z) (.int j) H Q:=.inr (.inr ⟨z,j,c,rfl,rfl,hz,e,q⟩)
theorem Jiq{a:Qd}{xs:List V}{n:Nat}{ts:TGs}{Qs:St->Hp->Prop}(h:SqT K H a xs)(hl:xs.length=n)(q:ts xs σ H Qs):Jja K n ts (.ref a) σ H Qs:=⟨a,xs,rfl,h,hl,q⟩
theorem JlA{t:TG}{u:TGs}{x:V}{xs:List V}{Qs:St->Hp->Prop}(q:t x σ H fun σ' H'=>u xs σ' H' Qs):JhZ t u (x::xs) σ H Qs:=⟨x,xs,rfl,q⟩
theorem JnU{Qs:St->Hp->Prop}(q:Qs σ H):JmY [] σ H Qs:=⟨rfl,q⟩
theorem Jn1{f:Str}{tv:TE}(q:tv σ H fun y H1=>ta σ H1 fun x H2=>∃a C dx fs,x=.ref a/\H2 a=some (.ins C dx fs)/\Cls K C/\NoAttr K C f/\fs.length<1000/\D.nx σ (upd H2 a (.ins C dx (putF f y fs)))):JjK K ta tv f D σ H:=q
theorem Jq8{Qb:Bool->Hp->Prop}(q:Qb true H):Jrn σ H Qb:=q
theorem ifd{c A B:Prop}[Decidable c](h1:c->A)(h2:¬c->B):if decide c=true then A else B:=by simp_all
theorem ifT{b:Bool}{A B:Prop}(e:b=true)(h:A):if b=true then A else B:=by rw[if_pos e];exact h
theorem ifF{b:Bool}{A B:Prop}(e:b=false)(h:B):if b=true then A else B:=by simp_all

theorem JjH{tl:TE}{g:TG}{a:Qd}{xs:List V}(hx:∀R:VK,R (.ref a) H1->tl σ H R)(hq:SqL K H1 a xs\/SqT K H1 a xs)(Pv:Nat->St->Hp->Prop)(h0:Pv 0 σ H1)(hS:∀i σ' H',Pv i σ' H'->Same H1 H')
 (hs:∀i x σ' H',xs[i]?=some x->Pv i σ' H'->g x σ' H' fun σ2 H2=>t { D with nx:=Pv (i+1),ct:=Pv (i+1),bk:=D.nx } σ2 H2) (hd:∀σ' H',Pv xs.length σ' H'->D.nx σ' H'):Jom (JgD K tl) g t D σ H:=by
 rcases hq with hq|hq
 ·exact .inl (hx _ ⟨a,rfl,⟨xs,hq⟩,Jky (xs:=xs) Pv h0 (fun i σ' H' _ p=>(hS i σ' H' p).seq hq) hs hd⟩)
 ·exact .inr (hx _ ⟨a,rfl,⟨xs,hq⟩,JmV (xs:=xs) Pv h0 (fun i σ' H' _ p=>(hS i σ' H' p).seqT hq) hs hd⟩)
theorem JhI{J:It}{g:TG}{tt:TT}{imp:List (Option Nat)}{n:Nat}(hn:n<=Qq)(Pv:Nat->List V->St->Hp->Prop)(h0:Pv 0 [] (Jbw imp σ) H1)(hy:∀i ys σ' H',Pv i ys σ' H'->ys.length<=i)
 (hstop:∀ys σ' H',Pv n ys σ' H'->J.stop n H') (hgo:∀i ys σ' H',i<n->Pv i ys σ' H'->J.go i H')
 (hs:∀i ys x σ' H' H2,i<n->J.yld i H' x H2->Pv i ys σ' H'->g x σ' H2 fun σ2 H3=>tt σ2 H3 fun b H4=>if b=true then te σ2 H4 fun y H5=>Pv (i+1) (ys++[y]) σ2 H5 else Pv (i+1) ys σ2 H4)
 (hd:∀ys σ' H',Pv n ys σ' H'->∀p H2,H' p=none->Same H' H2->H2 p=some (.lst ys)->Q (.ref p) H2) :
 ∃W:Nat->Nat->List V->St->Hp->Prop,(∃m,W 0 m [] (Jbw imp σ) H1)/\∀i m ys σ' H',W i m ys σ' H' ->
  (J.stop i H'/\ys.length<=Qq/\∀D,H' D=none->Q (.ref D) (upd H' D (.lst ys))) ∨
  (J.go i H'/\ys.length<Qq/\∃N:List V->St->Hp->Prop,(∀ys' σ2 H2,N ys' σ2 H2->∃m',m'<m/\W (i+1) m' ys' σ2 H2) ∧
   ∀x H2,J.yld i H' x H2->g x σ' H2 fun σ2 H3=>tt σ2 H3 fun b H4=>if b=true then te σ2 H4 fun y H5=>N (ys++[y]) σ2 H5 else N ys σ2 H4):=by
 refine⟨fun i m ys σ' H'=>m=n-i/\i<=n/\Pv i ys σ' H',⟨n,by simp,GS _,h0⟩,?_⟩;rintro i m ys σ' H' ⟨rfl,hi,p⟩;have hl:=hy i ys σ' H' p
 by_cases hlt:i<n
 ·exact .inr ⟨hgo i ys σ' H' hlt p,by omega,fun ys' σ2 H2=>Pv (i+1) ys' σ2 H2,fun ys' σ2 H2 p'=>⟨n-(i+1),by omega,rfl,hlt,p'⟩,fun x H2 y=>hs i ys x σ' H' H2 hlt y p⟩
 ·have e:i=n:=by omega
  subst e;exact .inl ⟨hstop ys σ' H' p,by omega,fun q hq=>hd ys σ' H' p q _ hq (.new hq) Jw⟩
theorem Jg3{tl:TE}{g:TG}{tt:TT}{imp:List (Option Nat)}{a:Qd}{xs:List V}(hx:∀R:VK,R (.ref a) H1->tl σ H R)(hq:SqL K H1 a xs\/SqT K H1 a xs)(hn:xs.length<=Qq)(Pv:Nat->List V->St->Hp->Prop)
 (h0:Pv 0 [] (Jbw imp σ) H1) (hy:∀i ys σ' H',Pv i ys σ' H'->ys.length<=i) (hS:∀i ys σ' H',Pv i ys σ' H'->Same H1 H')
 (hs:∀i ys x σ' H',xs[i]?=some x->Pv i ys σ' H'->g x σ' H' fun σ2 H3=>tt σ2 H3 fun b H4=>if b=true then te σ2 H4 fun y H5=>Pv (i+1) (ys++[y]) σ2 H5 else Pv (i+1) ys σ2 H4)
 (hd:∀ys σ' H',Pv xs.length ys σ' H'->∀p H2,H' p=none->Same H' H2->H2 p=some (.lst ys)->Q (.ref p) H2):JiD (JgD K tl) g tt te imp σ H Q:=by
 rcases hq with hq|hq
 ·refine .inl (hx _ ⟨a,rfl,⟨xs,hq⟩,JhI (n:=xs.length) hn Pv h0 hy (fun ys σ' H' p=>⟨xs,(hS _ _ _ _ p).seq hq,Qo _⟩) (fun i ys σ' H' hi p=>⟨xs,xs[i],(hS _ _ _ _ p).seq hq,by simp[hi]⟩) (fun i ys x σ' H' H2 hi y p=>?_) hd⟩);obtain⟨e,y⟩:=y;subst e;exact hs i ys x σ' _ (y xs ((hS _ _ _ _ p).seq hq)) p
 ·refine .inr (hx _ ⟨a,rfl,⟨xs,hq⟩,JhI (n:=xs.length) hn Pv h0 hy (fun ys σ' H' p=>⟨xs,(hS _ _ _ _ p).seqT hq,Qo _⟩) (fun i ys σ' H' hi p=>⟨xs,xs[i],(hS _ _ _ _ p).seqT hq,by simp[hi]⟩) (fun i ys x σ' H' H2 hi y p=>?_) hd⟩);obtain⟨e,y⟩:=y;subst e;exact hs i ys x σ' _ (y xs ((hS _ _ _ _ p).seqT hq)) p
end
end L2
namespace L2
open PySem PySem.Spec PyProof.Rows
section
variable{X:Cx}{K:Qw}{pos:Pos}
theorem Jig(hK:X.K=K):OpR X (binaryOp .Add) (Jik K):=hK▸Jnz
theorem Vd(hK:X.K=K)(hu:X.A.units+64<cLine):OpR X (compareOp .Eq) (JqO K):=hK▸Jqt hu
theorem VZ(hK:X.K=K)(hu:X.A.units+64<cLine):OpR X (compareOp .NotEq) (JqR K):=hK▸Jqy hu
theorem J9(hK:X.K=K):YD X (.builtin "len") (Jg2 K):=hK▸Ji0
theorem JeN(hK:X.K=K):YD X (.type "tuple") (JbX K):=hK▸JeO
theorem Jgo(hK:X.K=K):YD X (.type "list") (Jeg K):=hK▸Jgp
theorem Jm3(hK:X.K=K):IxR X (rIx K):=hK▸JpV
theorem YC{e:Q4}{ta:TE}{f:Str}(hK:X.K=K)(he:PE X e ta)(hb:attributeBase e f X.env (eval e X.env)=eval e X.env):PE X (.Attribute e f pos) (Jol K ta f):=hK▸JqC he hb
theorem Jef{o value:Q4}{f:Str}{pos':Pos}{ta tv:TE}(hK:X.K=K)(ha:PE X o ta)(hv:PE X value tv)(hs:swapsWith value (some (.Attribute o f pos')) pos.line X.env=pure false):PS X (.Assign [.Attribute o f pos'] value pos) (JjK K ta tv f):=hK▸JqK ha hv hs
theorem JnK{tg l:Q4}{tl:TE}(hK:X.K=K)(hl:PE X l tl):PI X tg l (JgD K tl):=hK▸JqF hl
theorem JR{es:List Q4}{k:Nat}{t:TGs}{n:Nat}(hK:X.K=K)(hc:X.calm=true)(h:PGs X es t)(hn:(assignEach es X.env).length=n)(hst:(assignEach es X.env).findIdx? (·.1)=none):PG X (.Tuple es k pos) (Jja K n t):=hK▸JqE hc h hn hst
theorem Uo{a:Q4}{ta:TE}(hK:X.K=K)(ha:PE X a ta)(he:∀whole,isTrue a X.env whole=(do let v <- whole;standAt a.pos;holding [v] (truthy v))):PT X a (Jor K ta):=hK▸JqL ha he
theorem Ym{o e:Q4}{es:List Q4}{to:TE}{t:TA}{name:Str}{apos cpos:Pos}{T id:String}{r:V->List V->Hp->VK->Prop}(hK:X.K=K)(pa:PlainAttrs T)(slot:Slot T name id)(hty:typeOf (.builtin id)=pure (.type "method_descriptor"))(hm:MtR X id r)(ho:PE X o to)(ha:PA X (e::es) t)
 (hbase:attributeBase o name X.env (eval o X.env)=eval o X.env:=by rfl)
 (hfew:((backTo cpos (starEach (e::es) X.env)).all (fun x=>!x.1) && (backToKw cpos (keywordEach [] X.env)).all (fun x=>x.1.isSome)
  && decide ((e::es).length+([]:List MV).length+(if ([]:List MV).isEmpty then 0 else 1)<30))=true:=by rfl)
 (hline:(apos.endLine == cpos.line)=true:=by rfl) (hs:starEach (e::es) X.env=(false,eval e X.env)::starEach es X.env:=by rfl) (hplain:(backTo cpos (starEach es X.env)).any (·.1)=false:=by rfl) :
 PE X (.Call (.Attribute o name apos) (e::es) [] cpos) (tBM K T r to t):=hK▸Jss pa slot hty hm ho ha hbase hfew hline hs hplain
theorem Jec{o:Q4}{to:TE}{name:Str}{apos cpos:Pos}{T id:String}{r:V->List V->Hp->VK->Prop}(hK:X.K=K)(pa:PlainAttrs T)(slot:Slot T name id)(hty:typeOf (.builtin id)=pure (.type "method_descriptor"))(hm:MtR X id r)(ho:PE X o to)
 (hbase:attributeBase o name X.env (eval o X.env)=eval o X.env:=by rfl) (hline:(apos.endLine == cpos.line)=true:=by rfl):PE X (.Call (.Attribute o name apos) [] [] cpos) (Jok K T r to):=hK▸JqB pa slot hty hm ho hbase hline
end
end L2

namespace LR
open PySem L2

theorem sz2{a b:V}:[a,b].length<=Qq:=by show 2<=Qq;decide
noncomputable abbrev Pr:=Int×Int
noncomputable def prD(p:Pr):PyData:=.tuple [.int p.1,.int p.2]
section
variable{K:Qw}{H H':Hp}
theorem JnM{v:V}{p:Pr}(r:Rep K H v (prD p)):∃a,v=.ref a/\SqT K H a [.int p.1,.int p.2]:=by
 obtain⟨a,xs,rfl,h,l,q⟩:=r.tupI
 match xs,l,q,h with
 | [x,y],_,q,h =>
  have e1:=(q 0 x (.int p.1) rfl rfl).intI
  have e2:=(q 1 y (.int p.2) rfl rfl).intI
  simp_all
theorem Jll{a:Qd}{b n:Int}(h:SqT K H a [.int b,.int n]):Rep K H (.ref a) (prD (b,n)):=.tupL h (.cons (.int b) (.cons (.int n) .nil))
theorem JnN{a:Qd}{b n:Int}(h:H a=some (.tup [.int b,.int n])):Rep K H (.ref a) (prD (b,n)):=Jll (.of h)
noncomputable abbrev Prs(K:Qw)(H:Hp)(vs:List V)(ps:List Pr):Prop:=RepL K H vs (ps.map prD)
theorem Prs.len{vs:List V}{ps:List Pr}(r:Prs K H vs ps):vs.length=ps.length:=by have:=r.1;simp_all
theorem Prs.at{vs:List V}{ps:List Pr}{i:Nat}{v:V}(r:Prs K H vs ps)(e:vs[i]?=some v):∃p a,ps[i]?=some p/\v=.ref a/\SqT K H a [.int p.1,.int p.2]:=by
 obtain⟨d,h1,h2⟩:=r.get' e;rw[Qt] at h1
 cases hp:ps[i]? with
 | none=>rw[hp] at h1;cases h1
 | some p=>rw[hp] at h1;cases h1;obtain⟨a,e1,e2⟩:=JnM h2;exact⟨p,a,rfl,e1,e2⟩
theorem Prs.snoc{vs:List V}{ps:List Pr}{v:V}{p:Pr}(r:Prs K H vs ps)(h:Rep K H v (prD p)):Prs K H (vs++[v]) (ps++[p]):=by show RepL K H _ _;rw[Q2];exact RepL.snoc r h
noncomputable def Jml(K:Qw)(H:Hp)(v:V)(ps:List Pr):Prop:=∃a vs,v=.ref a/\(SqL K H a vs\/SqT K H a vs)/\Prs K H vs ps
end

structure Good (ps:List Pr):Prop where
 one:∀(i:Nat) (p:Pr),ps[i]?=some p->1<=p.2
 gap:∀(i:Nat) (p q:Pr),ps[i]?=some p->ps[i+1]?=some q->p.1+p.2<q.1
theorem Good.nil:Good []:=⟨fun i p e=>by simp at e,fun i p q e=>by simp at e⟩
theorem Good.snoc{ps:List Pr}{p:Pr}(g:Good ps)(h1:1<=p.2)(h2:∀q,ps[ps.length-1]?=some q->q.1+q.2<p.1):Good (ps++[p]):=by
 refine⟨fun i q e=>?_,fun i q r e1 e2=>?_⟩
 ·by_cases hi:i<ps.length
  ·rw[QE hi] at e;exact g.one i q e
  ·rw[QS (by omega)] at e;obtain⟨h3,h4⟩:=Qn.mp e;have:i-ps.length=0:=by simp at h3;omega
   rw[this] at e;simp at e;subst e;exact h1
 ·by_cases hi:i+1<ps.length
  ·rw[QE (by omega)] at e1;rw[QE hi] at e2;exact g.gap i q r e1 e2
  ·rw[QS (by omega)] at e2;obtain⟨h3,h4⟩:=Qn.mp e2;have h5:i+1-ps.length=0:=by simp at h3;omega
   rw[h5] at e2;simp at e2;subst e2;have h6:i=ps.length-1:=by omega
   have h7:i<ps.length:=by omega
   rw[QE h7] at e1;rw[h6] at e1;exact h2 q e1

noncomputable def Jg5(t:Qd):List (Str×V):=[("stretches",.ref t)]
noncomputable def JrJ(C:Qd)(K:Qw)(H:Hp)(v:V)(ps:List Pr):Prop :=
 ∃x dx t ts,v=.ref x/\H x=some (.ins C dx (Jg5 t))/\H t=some (.tup ts)/\Prs K H ts ps
structure RowC (K:Qw) (C:Qd):Prop where
 cl:Cls K C
 ns:NoAttr K C "stretches"
theorem JjJ(t:Qd):(Jg5 t).lookup ("stretches":Str)=some (.ref t):=by
 unfold Jg5
 simp_all
theorem Jlp(t:Qd):putF "stretches" (.ref t) []=Jg5 t:=rfl

noncomputable def Jev(K:Qw):Sp:=fun vs H Q _=>∃v ps,vs=[v]/\Jml K H v ps/\Good ps/\∀H',Same H H'->Q .non H'
noncomputable def V4(C:Qd)(K:Qw):Sp:=fun vs H Q _=>∃x dx v ps,vs=[.ref x,v]/\H x=some (.ins C dx [])/\Jml K H v ps/\Good ps/\ps.length<=30 ∧
 ∀H' t ts,SameEx x H H'->H' x=some (.ins C dx (Jg5 t))->H' t=some (.tup ts)->Prs K H' ts ps->Q .non H'
noncomputable def JjY(C:Qd)(sp:Sp)(E:XK)(vs:List V)(H1:Hp)(Q:VK):Prop:=∀x dx,H1 x=none->H1 dx=none->dx≠x ->
 sp (.ref x::vs) (upd (upd H1 dx (.own x)) x (.ins C dx [])) (fun v H2=>v=.non/\Q (.ref x) H2) E
theorem Jir{C:Qd}{sp:Sp}{E:XK}{ts:TA}{σ:St}{H:Hp}{Q:VK}(q:ts σ H fun vs H1=>JjY C sp E vs H1 Q):JfZ C sp [] E ts σ H Q:=by
 have e:(fun vs H1=>JjY C sp E vs H1 Q)=fun vs H1=>∀x dx,H1 x=none->H1 dx=none->dx≠x->sp (.ref x::(vs++[])) (upd (upd H1 dx (.own x)) x (.ins C dx [])) (fun v H2=>v=.non/\Q (.ref x) H2) E:=by funext vs H1;rw[Gg];rfl
 show ts σ H _;rw[<- e];exact q
theorem Jq3{C:Qd}{K:Qw}{H:Hp}{Q:VK}{v:V}{ps:List Pr}{E:XK}(h:Jml K H v ps)(g:Good ps)(hl:ps.length<=30)(q:∀x H',H x=none->Same H H'->JrJ C K H' (.ref x) ps->Q (.ref x) H'):JjY C (V4 C K) E [v] H Q:=by
 intro x dx nx ndx nex
 have s0:Same H (upd (upd H dx (.own x)) x (.ins C dx [])):=fun b o e=>by rw[Jl (JA e nx),Jl (JA e ndx)];exact e
 obtain⟨a,vs,rfl,hq,hp⟩:=h;refine⟨x,dx,_,ps,rfl,Jw,⟨a,vs,rfl,hq.imp s0.seq s0.seqT,RepL.mono s0 hp⟩,g,hl,fun H' t ts e h1 h2 h3=>⟨rfl,q x H' nx (fun b o h=>e b o (JA h nx) (s0 b o h)) ⟨x,dx,t,ts,rfl,h1,h2,h3⟩⟩⟩

noncomputable def cell(ns:List Int)(k:Int):Int:=ns.getD k.toNat 0
end LR

namespace LR
open PySem L2

theorem Jj9{ns:List Int}{k:Int}(h:¬k<(ns.length:Int)):cell ns k=0:=by
 unfold cell
 grind
noncomputable def spr(ns:List Int)(at' span p0:Int):Nat->Int×List Pr
 | 0=>(p0,[])
 | i+1=>((spr ns at' span p0 i).1+(1+cell ns (at'+1+2*i) % span)+1+cell ns (at'+2+2*i) % span,(spr ns at' span p0 i).2++[((spr ns at' span p0 i).1,1+cell ns (at'+1+2*i) % span)])
theorem WO(ns:List Int)(at' span p0:Int):∀i,(spr ns at' span p0 i).2.length=i
 | 0=>rfl
 | i+1=>by show(_++[_]).length=_;rw[QC,WO ns at' span p0 i];rfl
theorem JfT(ns:List Int)(at' span p0:Int)(hs:0<span):∀i,Good (spr ns at' span p0 i).2/\∀q,(spr ns at' span p0 i).2[i-1]?=some q->q.1+q.2<(spr ns at' span p0 i).1
 | 0=>⟨Good.nil,fun q e=>by simp[spr] at e⟩
 | i+1=>by
  obtain⟨g,h⟩:=JfT ns at' span p0 hs i;have m1:=Lj (cell ns (at'+1+2*i)) (b:=span) (by omega);have m2:=Lj (cell ns (at'+2+2*i)) (b:=span) (by omega);refine⟨g.snoc (by show 1<=1+_;omega) (by rw[WO];exact h),fun q e=>?_⟩;have e':((spr ns at' span p0 i).2++[((spr ns at' span p0 i).1,1+cell ns (at'+1+2*i) % span)])[i]?=some q:=e;rw[QS (by rw[WO];exact Qo _),WO] at e'
  simp at e';subst e';show _+(1+_)<_+(1+_)+1+_;omega
noncomputable def JfH(l:List Int)(k:Int):Int:=l.getD k.toNat 0
theorem JfI{l:List Int}{k:Int}{P:Int->Prop}(h0:0<=k)(h1:k<(l.length:Int))(h:∀x∈l,P x):P (JfH l k):=by
 unfold JfH
 simp_all
noncomputable def Jhw(ps:List Pr):Nat->V
 | 0=>.non
 | i+1=>match ps[i]? with
  | some p=>.int (p.1+p.2)
  | none=>.non
theorem Wk{ps:List Pr}{i:Nat}{p:Pr}(e:ps[i]?=some p):Jhw ps (i+1)=.int (p.1+p.2):=by show(match ps[i]? with|some p=>V.int (p.1+p.2)|none=>V.non)=_;rw[e]
theorem Jkb{K:Qw}{v:V}{ps:List Pr}{H:Hp}{Q:VK}{E:XK}(h:Jml K H v ps)(g:Good ps)(q:∀H',Same H H'->Q .non H'):Jev K [v] H Q E:=⟨v,ps,rfl,h,g,q⟩
theorem JfK{K:Qw}{a:Qd}{xs:List V}{H:Hp}{Q:VK}(h:SqL K H a xs\/SqT K H a xs)(q:Q (.int xs.length) H):Jg2 K [.ref a] H Q:=by
 rcases h with h|h
 ·exact JnW h q
 ·exact JnY h q
theorem SameEx.sqT'{K:Qw}{H H':Hp}{x a C dx:Qd}{fs:List (Str×V)}{xs:List V}(e:SameEx x H H')(hx:H x=some (.ins C dx fs))(h:SqT K H a xs):SqT K H' a xs:=by
 rcases h with (h|⟨o,h⟩)|h
 ·exact .inl (.inl (e _ _ (Jk7 h hx (by intro z;cases z)) h))
 ·exact .inl (.inr ⟨o,e _ _ (Jk7 h hx (by intro z;cases z)) h⟩)
 ·exact .inr h
theorem Prs.monoIns{K:Qw}{H H':Hp}{x C dx:Qd}{fs:List (Str×V)}{vs:List V}{ps:List Pr}(e:SameEx x H H')(hx:H x=some (.ins C dx fs))(r:Prs K H vs ps):Prs K H' vs ps:=by refine⟨r.1,fun i v d h1 h2=>?_⟩;obtain⟨p,a,e1,e2,e3⟩:=r.at h1;rw[Qt,e1] at h2;cases h2;subst e2;exact Jll (SameEx.sqT' e hx e3)
noncomputable def Jiv(K:Qw):Sp:=fun vs H Q _=>∃(a:Qd) (ns:List Int),vs=[.ref a]/\SqL K H a (ns.map V.int)/\ns.length<=63/\∀H',Q (.bl true) H'
end LR
namespace LR
open PySem L2
end LR

namespace L2
open PySem PySem.Spec PyProof.Rows

section
variable{X:Cx}{pins:List (Qd×Obj)}{σ:St}{H:Hp}{s:Qe}
theorem Jai{A':QI}{E:Qc->Qe->Prop}{Q:Qc->Qe->Prop}{a:Qd}{vs:List V}(hh:A'.handled=none)(I:Inv X pins σ H s)(hq:SqL X.K H a vs\/SqT X.K H a vs)
 (h:∀(its:List Qc) (J:Qd) (fp wr:List Qd) (Sx:Nat->Q0->Prop) (s2:Qe),Vals vs its->Walks X.prog X.w A' J fp wr its.toArray.size (fun i v=>its.toArray[i]?=some v) Sx->Sx 0 s2.heap->(∀b∈fp,b<s2.heap.objs.size) ->
  (∀h' tk,(∀b o,b∉wr->s2.heap.get? b=some o->h'.get? b=some o)->Inv X pins σ H { s2 with heap:=h',toks:=tk })->Q (.ref J) s2):wpAny (model X.prog X.w) A' (pyIter (.ref a)) Q E s:=by
 have nin:∀b o,s.heap.get? b=some o->b∉[s.heap.objs.size]:=fun b o e z=>by
  have:b=s.heap.objs.size:=by simpa using z
  exact absurd (Qm e) (by simp_all)
 rcases hq with hq|hq
 ·obtain⟨its,rv,p,hz⟩:=I.list hq;have hlt:a<s.heap.objs.size:=by obtain⟨_,e,_⟩:=p.isList;exact Qm e
  refine Mr p.isList ?_;refine h its _ _ _ _ _ rv (Walks.list hh _ a (QQ hlt) its.toArray) ⟨⟨_,Qj _ rfl,rfl,rfl⟩,p.isList.push _⟩ (fun b hb=>?_) fun h' tk hk=>I.kept fun b o e=>hk b o (nin b o e) (Qf _ e)
  show b<(s.heap.push _).objs.size;rw[GD];rcases Qp.mp hb with z|z
  ·rw[z];exact Lb _
  ·have:b=a:=by simpa using z
   rw[this];exact Nat.lt_succ_of_lt hlt
 ·obtain⟨its,rv,p,hz⟩:=I.tuple hq;have ht:s.heap.IsTuple a its.toArray:=p;have hlt:a<s.heap.objs.size:=by obtain⟨_,e,_⟩:=ht;exact Qm e
  refine Ma ht ?_;refine h its _ _ _ _ _ rv (Walks.tuple hh _ a (QQ hlt) its.toArray) ⟨⟨_,Qj _ rfl,rfl,rfl⟩,?_⟩ (fun b hb=>?_) fun h' tk hk=>I.kept fun b o e=>hk b o (nin b o e) (Qf _ e)
  ·obtain⟨o,e,c⟩:=ht;exact⟨o,Qf _ e,c⟩
  grind[GD]
end

theorem JaJ(l:List Int):∀j,j<=l.length->preSum (fun i=>l.getD i 0) j=(l.take j).sum
 | 0,_=>by simp[preSum]
 | j+1,h=>by
  rw[preSum,JaJ l j (by omega)];have hj:j<l.length:=by omega
  rw[Ms,LV];simp[hj]
section
variable{X:Cx}
noncomputable def JqV(K:Qw):List V->Hp->VK->Prop:=fun xs H Q=>∃(a:Qd) (ns:List Int),xs=[.ref a]/\(SqL K H a (ns.map V.int)\/SqT K H a (ns.map V.int))/\Q (.int ns.sum) H
theorem Ji5(hc:X.calm=true):YD X (.builtin "sum") (JqV X.K):=by
 intro pins s σ H xs us Q I r h;obtain⟨a,ns,rfl,hq,q⟩:=h;obtain⟨u,rfl,rx⟩:=WG r;cases rx;refine call_sum_walkG (Jai (A':=X.A.in1) (I.ok.hd hc) I hq fun its J fp wr Sx s2 rv W st hfp hI=>?_);have hi:=U9 rv;have hl:=rv.length;rw[QN] at hl;refine⟨J,fp,wr,_,_,Sx,fun i=>ns.getD i 0,rfl,W,st,hfp,fun i v e=>?_,fun h' tk t' hk=>?_⟩
 ·have e':its[i]?=some v:=by simpa using e
  obtain⟨x,e1,e2⟩:=rv.get' e';rw[Qt] at e1
  cases hn:ns[i]? with
  | none=>rw[hn] at e1;cases e1
  | some n =>
   rw[hn] at e1;cases e1;obtain⟨t,rfl⟩:=e2
   simp_all
 ·refine⟨.int ns.sum,H,hI h' tk hk,⟨t',?_⟩,q⟩;rw[show its.toArray.size=ns.length by simp[hl],JaJ ns _ (Qo _),MM]
noncomputable def JqN(K:Qw):List V->Hp->VK->Prop:=fun xs H Q=>∃(a:Qd) (bs:List Bool),xs=[.ref a]/\(SqL K H a (bs.map V.bl)\/SqT K H a (bs.map V.bl))/\Q (.bl (bs.any id)) H
noncomputable def JqM(K:Qw):List V->Hp->VK->Prop:=fun xs H Q=>∃(a:Qd) (bs:List Bool),xs=[.ref a]/\(SqL K H a (bs.map V.bl)\/SqT K H a (bs.map V.bl))/\Q (.bl (bs.all id)) H
theorem JjG(bs:List Bool):(Kj bs.length).any (fun i=>bs.getD i false)=bs.any id:=by
 rw[GC];simp only[MN,Rk,id];constructor
 ·rintro⟨i,hi,e⟩;simp[Md,hi] at e;exact⟨bs[i],List.getElem_mem hi,e⟩
 ·rintro⟨b,hb,rfl⟩;obtain⟨i,hi,e⟩:=Gu.mp hb;exact⟨i,hi,by simp_all⟩
theorem JjF(bs:List Bool):(Kj bs.length).all (fun i=>bs.getD i false)=bs.all id:=by
 rw[GC];simp only[GH,Rk,id];constructor
 ·intro h b hb;obtain⟨i,hi,e⟩:=Gu.mp hb
  simp_all
 ·intro h i hi;simp[Md,hi];exact h _ (List.getElem_mem hi)
theorem JaO{A:QI}{bs:List Bool}{its:List Qc}(rv:Vals (bs.map V.bl) its):TruthOf X.prog X.w A (fun i v=>its.toArray[i]?=some v) (fun i=>bs.getD i false):=by
 intro i v s Q E e q;have e':its[i]?=some v:=by simpa using e
 obtain⟨x,e1,e2⟩:=rv.get' e';rw[Qt] at e1
 cases hn:bs[i]? with
 | none=>rw[hn] at e1;cases e1
 | some n =>
  rw[hn] at e1;cases e1;cases e2;have:bs.getD i false=n:=by simp_all
  have q':Q (bs.getD i false) s:=q;rw[this] at q';exact K0 q'
theorem JiY(hc:X.calm=true):YD X (.builtin "any") (JqN X.K):=by intro pins s σ H xs us Q I r h;obtain⟨a,bs,rfl,hq,q⟩:=h;obtain⟨u,rfl,rx⟩:=WG r;cases rx;refine call_any_walk (Jai (A':=X.A.in1) (I.ok.hd hc) I hq fun its J fp wr Sx s2 rv W st hfp hI=>?_);have hl:=rv.length;rw[QN] at hl;refine⟨J,fp,wr,_,_,Sx,_,rfl,W,st,JaO rv,fun h' tk hk=>⟨.bl _,H,hI h' tk hk,rfl,?_⟩⟩;rw[show its.toArray.size=bs.length by simp[hl],JjG];exact q
theorem JiW(hc:X.calm=true):YD X (.builtin "all") (JqM X.K):=by intro pins s σ H xs us Q I r h;obtain⟨a,bs,rfl,hq,q⟩:=h;obtain⟨u,rfl,rx⟩:=WG r;cases rx;refine call_all_walk (Jai (A':=X.A.in1) (I.ok.hd hc) I hq fun its J fp wr Sx s2 rv W st hfp hI=>?_);have hl:=rv.length;rw[QN] at hl;refine⟨J,fp,wr,_,_,Sx,_,rfl,W,st,JaO rv,fun h' tk hk=>⟨.bl _,H,hI h' tk hk,rfl,?_⟩⟩;rw[show its.toArray.size=bs.length by simp[hl],JjF];exact q
noncomputable def strI(i:Int):Str:=(toString i:String)
noncomputable def JqU:List V->Hp->VK->Prop:=fun xs H Q=>∃i,xs=[.int i]/\i.natAbs.log2<1920/\Q (.str (strI i)) H
theorem U1:YD X (.type "str") JqU:=Jds
theorem Jcc:∀{ys:List Str} {us:List Qc},Vals (ys.map V.str) us->StrsAre us ys
 | [],_,r=>by cases r;exact .nil
 | y::ys,_,r=>by
  cases r with
  | cons r1 r2=>obtain⟨t,rfl⟩:=r1;exact .cons y t (Jcc r2)
noncomputable def Jim(K:Qw):V->List V->Hp->VK->Prop:=fun x vs H Q=>∃(z:Str) (a:Qd) (ys:List Str),x=.str z/\vs=[.ref a]/\SqL K H a (ys.map V.str)/\(ys.map (·.length)).sum+ys.length*z.length<=16777216/\Q (.str (Ka z ys)) H
theorem Jnr:MtM X "str.join" (Jim X.K):=by intro pins s σ H x vs v us Q I rx rv h;obtain⟨z,a,ys,rfl,rfl,hq,hw,q⟩:=h;obtain⟨t,rfl⟩:=rx;obtain⟨u,rfl,ru⟩:=rv.one;cases ru;obtain⟨its,r,p,hz⟩:=I.list hq;have e:Txt.join z ys=Ka z ys:=eq_of_beq (join_closes rfl);exact join_list p.isList (Jcc r) hw fun t' k=>⟨.str _,H,I.tok k,⟨t',by rw[e]⟩,q⟩
end
section
variable{X:Cx}{K:Qw}
theorem Uc(hK:X.K=K)(hc:X.calm=true):YD X (.builtin "sum") (JqV K):=hK▸Ji5 hc
theorem JiX(hK:X.K=K)(hc:X.calm=true):YD X (.builtin "any") (JqN K):=hK▸JiY hc
theorem JiV(hK:X.K=K)(hc:X.calm=true):YD X (.builtin "all") (JqM K):=hK▸JiW hc
theorem Jfq(hK:X.K=K):MtM X "str.join" (Jim K):=hK▸Jnr
end
section
variable{K:Qw}{H:Hp}{Q:VK}
theorem Jq5{i:Int}(h:i.natAbs.log2<1920)(q:Q (.str (strI i)) H):JqU [.int i] H Q:=⟨i,rfl,h,q⟩
theorem JnV{z:Str}{a:Qd}{ys:List Str}(h:SqL K H a (ys.map V.str))(hw:(ys.map (·.length)).sum+ys.length*z.length<=16777216)(q:Q (.str (Ka z ys)) H):Jim K (.str z) [.ref a] H Q:=⟨z,a,ys,rfl,rfl,h,hw,q⟩
end
end L2
namespace L2
open PySem PySem.Spec PyProof.Rows
noncomputable def AllP{α:Type}(P:α->Prop):List α->Prop
 | []=>True
 | x::xs=>P x/\AllP P xs
theorem AllP.mem{α:Type}{P:α->Prop}:∀{l:List α},AllP P l->∀x∈l,P x
 | [],_,x,hx=>nomatch hx
 | y::l,h,x,hx=>by
  rcases Qp.mp hx with z|z
  ·rw[z];exact h.1
  ·exact AllP.mem h.2 x z
theorem W2{cl:List (Str×Qd)}{x:Str}(h:cl.any (fun p=>p.1 == x)=true):(cl.lookup x).isSome=true:=by simp_all
theorem JiR{X:Cx}{sc:L8}{cl:List (Str×Qd)}{own:List Str}{fr:List (Str×Nat)}(h1:sc.kind=.function)(h2:closureFor sc X.env=pure cl)
 (h3:(sc.names.all fun y=>y.2 != .cell && (y.2 != .local || sc.names.lookup y.1 == some .local))=true) (h4:AllP (fun p=>X.env.cells.lookup p.1=some p.2) cl)
 (h5:((relabel sc X.env).names.all fun y=>(y.2 != .cell && y.2 != .free) || cl.any (fun p=>p.1 == y.1))=true)
 (h6:AllP (fun p=>X.N[p.2]?=some p.1/\X.env.scope.names.lookup p.1=some .cell/\(relabel sc X.env).names.lookup p.1=some .cell) fr) :
 Blk X sc cl (own++fr.map (·.1)) (own.map (fun _=>none)++fr.map (fun p=>some p.2)):=by
 simp only[GH,Q9] at h3;simp only[GH] at h5;refine⟨h2,h1,fun y hy=>?_,fun y hy hl=>?_,AllP.mem h4,fun y hy hk=>?_,by simp,fun p hp k e=>?_⟩
 ·have:=(h3 y hy).1
  simpa using this
 ·have:=(h3 y hy).2;rw[hl] at this
  simpa using this
 ·have:=h5 y hy;rcases Bool.or_eq_true_iff.mp this with z|z
  ·simp_all
  ·exact W2 z
 ·rw[M5 (by simp)] at hp;rcases Go.mp hp with z|z
  ·have:=(Li z).1
   simp_all
  ·rw[List.zip_map_left] at z;obtain⟨q,hq,eq⟩:=QT.mp z
   have hz:q.1∈fr/\q.1.1=q.2:=by
    clear h6 e eq z hp;rw[List.zip_map_right] at hq
    grind
   obtain⟨a1,a2,a3⟩:=AllP.mem h6 q.1 hz.1
   grind
end L2

namespace LR
open PySem L2

noncomputable def Small(i:Int):Prop:=i.natAbs.log2<1920
theorem Small.of{i:Int}(h:i.natAbs<2 ^ 1920):Small i:=by
 unfold Small
 by_cases h0:i.natAbs=0
 ·rw[h0];decide
 ·exact(Nat.log2_lt h0).mpr h
theorem ZW{i:Int}(h:Small i):(strI i).length<=1921:=PyProof.Rows.int_text_len_1921 h
noncomputable def Uu(p:Pr):Prop:=Small p.1/\Small p.2
noncomputable def V6(p:Pr):Str:=strI p.1++"+"++strI p.2
theorem Jcj{p:Pr}(h:Uu p):(V6 p).length<=3843:=by
 unfold V6;have h1:=ZW h.1;have h2:=ZW h.2;rw[GW,GW];have:(("+":String):Str).length=1:=by decide +kernel
 omega
noncomputable def VB(ps:List Pr):Str:=Ka " " (("row":Str)::ps.map V6)++"\n"
theorem Jrj{l:List Nat}{c:Nat}(h:∀x∈l,x<=c):l.sum<=l.length*c:=by
 induction l with
 | nil=>simp
 | cons x l ih =>
  have h1:=h x Qg
  have h2:=ih fun y hy=>h y (Qh _ hy)
  rw[QF,Qr,Nat.succ_mul];omega
theorem JcT{ys:List Str}{z:Str}(hn:ys.length<=40)(hz:z.length<=1)(h:∀y∈ys,y.length<=4000):(ys.map (·.length)).sum+ys.length*z.length<=1000000:=by
 have h1:(ys.map (·.length)).sum<=(ys.map (·.length)).length*4000:=Jrj fun x hx=>by obtain⟨y,hy,rfl⟩:=QT.mp hx;exact h y hy
 rw[QN] at h1;have h2:ys.length*z.length<=ys.length*1:=Nat.mul_le_mul_left _ hz;omega
theorem JbC{z:Str}:∀ys:List Str,(Ka z ys).length<=(ys.map (·.length)).sum+ys.length*z.length
 | []=>by show(GO).length<=_;have:GO.length=0:=rfl;omega
 | [x]=>by show x.length<=_;simp
 | x::y::r=>by
  have h:=JbC (z:=z) (y::r)
  show(x++z++Ka z (y::r)).length<=_;rw[GW,GW,Qi,QF,Qr,Nat.succ_mul];omega
theorem JbB(z:Str):∀(x:Str) (l:List Str),Ka z (x::l)=Ka GO (x::l.map fun y=>z++y)
 | x,[]=>rfl
 | x,y::l=>by
  show x++z++Ka z (y::l)=x++GO++Ka GO ((z++y)::l.map fun y=>z++y);rw[JbB z y l]
  have e:∀(a b:Str) (m:List Str),Ka GO ((a++b)::m)=a++Ka GO (b::m):=fun a b m=>by
   cases m with
   | nil=>rfl
   | cons c m =>
    show a++b++GO++_=a++(b++GO++_)
    rw[G1,G1,G1]
  rw[e,G1,G1]
  have e0:∀s:Str,GO++s=s:=fun s=>by cases s;show Str.mk _=_;simp[GO]
  rw[e0]
noncomputable def Wc(p:Pr):Str:=(" ":String)++strI p.1++(("+":String):Str)++strI p.2
theorem Jgb(p:Pr):Wc p=((" ":String):Str)++V6 p:=by unfold Wc V6;rw[G1,G1,G1]
theorem JjT{p:Pr}(h:Uu p):(Wc p).length<=3844:=by
 rw[Jgb,GW];have:=Jcj h;have:((" ":String):Str).length=1:=by decide +kernel
 omega
theorem Jf5(ps:List Pr):Ka (("":String):Str) (("row":Str)::ps.map Wc)++(("\n":String):Str)=VB ps:=by
 unfold VB;have e:(("":String):Str)=GO:=by decide +kernel
 rw[e,JbB ((" ":String):Str),QA];congr 2;congr 1;exact QL fun p _=>Jgb p
end LR

namespace LE
open PySem L2 LR

structure Xm where
 n:Str
 k:Option Int
instance:Coe Str Xm:=⟨fun s=>⟨s,none⟩⟩
noncomputable def Jpp:Qc->Qc
 | .int i _=>.ref i.toNat
 | v=>v
noncomputable def Jpo:Qc->Option Qd
 | .int _ t=>some t
 | _=>none
inductive D where
 | non|bl (b:Bool)|int (i:Int)|str (x:Str)|tup (l:List D)|lst (l:List D)|fz (l:List D)|row (l:List D)|dct (ks:List Int) (l:List D)|dfz (ks:List Int) (l:List D)|exc (n:Xm)
noncomputable def dkO(ks:List Int)(xs:List V):HO:=.dK ((ks.map Sum.inl).zip xs)
noncomputable def dtK(p:Int×Int):List Key:=[Sum.inl p.1,Sum.inl p.2]
noncomputable def dtO(ps:List (Int×Int))(xs:List V):HO:=.dT ((ps.map dtK).zip xs)
noncomputable def deO(xs:Qd×Qd×V):HO:=.ins xs.1 xs.2.1 [("trail",xs.2.2)]
noncomputable def DkC(K:Qw)(a:Option Qd)(l:Qd)(xs:Qd×Qd×V):Prop:=nsIn K mainGlobals "Desk"=some (some (.ref xs.1))/\(a=none\/a=some l)
noncomputable def XO(a:Qd)(c:Qc):HO:=.ext fun h=>∃o,h.get? a=some o/\o.cls=Jpp c/\PySem.W.notCls o=true/\o.dict=Jpo c
noncomputable def XC(K:Qw)(n:Xm)(c:Qc)(H:Hp):Prop:=∃a:Nat,nsIn K mainGlobals n.n=some (some (.ref a))/\match n.k with
 | none=>c=.ref a
 | some k=>∃t,c=.int a t/\H t=some (.xd [("at",.int k)])
theorem XC.mono{K:Qw}{n:Xm}{c:Qc}{H H':Hp}(e:Same H H')(x:XC K n c H):XC K n c H':=by
 obtain⟨a,h1,h2⟩:=x;refine⟨a,h1,?_⟩
 cases z:n.k with
 | none=>rw[z] at h2;exact h2
 | some k=>rw[z] at h2;obtain⟨t,h3,h4⟩:=h2;exact⟨t,h3,e _ _ h4⟩
section
variable(K:Qw)(C:Qd)
inductive RD (H:Hp):V->D->Prop
 | non:RD H .non .non
 | bl (b:Bool):RD H (.bl b) (.bl b)
 | int (i:Int):RD H (.int i) (.int i)
 | str (x:Str):RD H (.str x) (.str x)
 | tup {a:Qd} {xs:List V} {ds:List D}:SqT K H a xs->xs.length=ds.length->(∀(i:Nat) (x:V) (d:D),xs[i]?=some x->ds[i]?=some d->RD H x d)->RD H (.ref a) (.tup ds)
 | lst {a:Qd} {xs:List V} {ds:List D}:H a=some (.lst xs)->xs.length=ds.length->(∀(i:Nat) (x:V) (d:D),xs[i]?=some x->ds[i]?=some d->RD H x d)->RD H (.ref a) (.lst ds)
 | fz {a:Qd} {xs:List V} {ds:List D}:SqL K H a xs->xs.length=ds.length->(∀(i:Nat) (x:V) (d:D),xs[i]?=some x->ds[i]?=some d->RD H x d)->RD H (.ref a) (.fz ds)
 | row {x dx t:Qd} {ts:List V} {ds:List D}:H x=some (.ins C dx (Jg5 t))->SqT K H t ts->ts.length=ds.length->(∀(i:Nat) (x:V) (d:D),ts[i]?=some x->ds[i]?=some d->RD H x d)->RD H (.ref x) (.row ds)
 | dct {a:Qd} {ks:List Int} {xs:List V} {ds:List D}:H a=some (dkO ks xs)->ks.length=ds.length->xs.length=ds.length->(∀(i:Nat) (x:V) (d:D),xs[i]?=some x->ds[i]?=some d->RD H x d)->RD H (.ref a) (.dct ks ds)
 | dfz {a:Qd} {ks:List Int} {xs:List V} {ds:List D} {o:Obj}:H a=some (.frz o (dkO ks xs))->ks.length=ds.length->xs.length=ds.length->(∀(i:Nat) (x:V) (d:D),xs[i]?=some x->ds[i]?=some d->RD H x d)->RD H (.ref a) (.dfz ks ds)
 | exc {a:Qd} {c:Qc} {n:Xm}:H a=some (XO a c)->XC K n c H->RD H (.ref a) (.exc n)
noncomputable def RDL(H:Hp)(xs:List V)(ds:List D):Prop:=xs.length=ds.length/\∀(i:Nat) (x:V) (d:D),xs[i]?=some x->ds[i]?=some d->RD K C H x d
end

section
variable{K:Qw}{C:Qd}{H H':Hp}
theorem RD.mono{v:V}{d:D}(e:Same H H')(r:RD K C H v d):RD K C H' v d:=by
 induction r with
 | non=>exact .non
 | bl b=>exact .bl b
 | int i=>exact .int i
 | str x=>exact .str x
 | tup h l _ ih=>exact .tup (e.seqT h) l ih
 | lst h l _ ih=>exact .lst (e _ _ h) l ih
 | fz h l _ ih=>exact .fz (e.seq h) l ih
 | row h1 h2 l _ ih=>exact .row (e _ _ h1) (e.seqT h2) l ih
 | dct h1 h2 l _ ih=>exact .dct (e _ _ h1) h2 l ih
 | dfz h1 h2 l _ ih=>exact .dfz (e _ _ h1) h2 l ih
 | exc h1 h2=>exact .exc (e _ _ h1) (h2.mono e)
theorem RDL.mono{xs:List V}{ds:List D}(e:Same H H')(r:RDL K C H xs ds):RDL K C H' xs ds:=⟨r.1,fun i x d h1 h2=>(r.2 i x d h1 h2).mono e⟩
theorem RDL.nil:RDL K C H [] []:=⟨rfl,fun i x d e=>by simp at e⟩
theorem RDL.cons{x:V}{d:D}{xs:List V}{ds:List D}(h:RD K C H x d)(r:RDL K C H xs ds):RDL K C H (x::xs) (d::ds):=by
 refine⟨by simp[r.1],fun i y e h1 h2=>?_⟩
 cases i with
 | zero=>simp_all
 | succ i=>exact r.2 i y e (by simpa using h1) (by simpa using h2)
theorem RDL.append{xs ys:List V}{ds es:List D}(r:RDL K C H xs ds)(q:RDL K C H ys es):RDL K C H (xs++ys) (ds++es):=by
 refine⟨by simp[r.1,q.1],fun i x d h1 h2=>?_⟩
 by_cases hi:i<xs.length
 ·rw[QE hi] at h1;rw[QE (by rw[<- r.1];exact hi)] at h2;exact r.2 i x d h1 h2
 ·rw[QS (by omega)] at h1;rw[QS (by rw[<- r.1];omega)] at h2;rw[<- r.1] at h2;exact q.2 _ x d h1 h2
theorem RDL.snoc{xs:List V}{ds:List D}{x:V}{d:D}(r:RDL K C H xs ds)(h:RD K C H x d):RDL K C H (xs++[x]) (ds++[d]):=r.append (.cons h .nil)
theorem RDL.get{xs:List V}{ds:List D}{i:Nat}{d:D}(r:RDL K C H xs ds)(e:ds[i]?=some d):∃x,xs[i]?=some x/\RD K C H x d:=by
 have hi:=(Qn.mp e).1
 have hx:i<xs.length:=by rw[r.1];exact hi
 exact⟨xs[i],by simp[hx],r.2 i _ d (by simp[hx]) e⟩
theorem RDL.get'{xs:List V}{ds:List D}{i:Nat}{x:V}(r:RDL K C H xs ds)(e:xs[i]?=some x):∃d,ds[i]?=some d/\RD K C H x d:=by
 have hi:=(Qn.mp e).1
 have hx:i<ds.length:=by rw[<- r.1];exact hi
 exact⟨ds[i],by simp[hx],r.2 i x _ e (by simp[hx])⟩
theorem RDL.head{x:V}{xs:List V}{d:D}{ds:List D}(r:RDL K C H (x::xs) (d::ds)):RD K C H x d:=r.2 0 x d rfl rfl
theorem RDL.tail{x:V}{xs:List V}{d:D}{ds:List D}(r:RDL K C H (x::xs) (d::ds)):RDL K C H xs ds:=⟨by have:=r.1;simpa using this,fun i y e h1 h2=>r.2 (i+1) y e (by simpa using h1) (by simpa using h2)⟩
theorem RDL.take{xs:List V}{ds:List D}(n:Nat)(r:RDL K C H xs ds):RDL K C H (xs.take n) (ds.take n):=by
 refine⟨by simp[r.1],fun i x d h1 h2=>?_⟩;rw[List.getElem?_take] at h1 h2;split at h1
 ·rw[if_pos (by assumption)] at h2;exact r.2 i x d h1 h2
 ·cases h1
theorem RDL.drop{xs:List V}{ds:List D}(n:Nat)(r:RDL K C H xs ds):RDL K C H (xs.drop n) (ds.drop n):=by refine⟨by simp[r.1],fun i x d h1 h2=>?_⟩;rw[List.getElem?_drop] at h1 h2;exact r.2 _ x d h1 h2
theorem RDL.ints:∀{xs:List V} {ns:List Int},RDL K C H xs (ns.map D.int)->xs=ns.map V.int
 | [],[],_=>rfl
 | [],_::_,r=>by have:=r.1;simp at this
 | _::_,[],r=>by have:=r.1;simp at this
 | x::xs,n::ns,r=>by have h:=r.head;cases h;rw[RDL.ints r.tail];rfl
theorem RDL.ofInts:∀(ns:List Int),RDL K C H (ns.map V.int) (ns.map D.int)
 | []=>.nil
 | n::ns=>.cons (.int n) (RDL.ofInts ns)
theorem RDL.bls:∀{xs:List V} {ns:List Bool},RDL K C H xs (ns.map D.bl)->xs=ns.map V.bl
 | [],[],_=>rfl
 | [],_::_,r=>by have:=r.1;simp at this
 | _::_,[],r=>by have:=r.1;simp at this
 | x::xs,n::ns,r=>by have h:=r.head;cases h;rw[RDL.bls r.tail];rfl
theorem RDL.strs:∀{xs:List V} {ns:List Str},RDL K C H xs (ns.map D.str)->xs=ns.map V.str
 | [],[],_=>rfl
 | [],_::_,r=>by have:=r.1;simp at this
 | _::_,[],r=>by have:=r.1;simp at this
 | x::xs,n::ns,r=>by have h:=r.head;cases h;rw[RDL.strs r.tail];rfl
theorem RD.mkT{a:Qd}{xs:List V}{ds:List D}(h:SqT K H a xs)(r:RDL K C H xs ds):RD K C H (.ref a) (.tup ds):=.tup h r.1 r.2
theorem RD.mkL{a:Qd}{xs:List V}{ds:List D}(h:H a=some (.lst xs))(r:RDL K C H xs ds):RD K C H (.ref a) (.lst ds):=.lst h r.1 r.2
theorem RD.mkF{a:Qd}{xs:List V}{ds:List D}(h:SqL K H a xs)(r:RDL K C H xs ds):RD K C H (.ref a) (.fz ds):=.fz h r.1 r.2
theorem RD.tupI{v:V}{ds:List D}(r:RD K C H v (.tup ds)):∃a xs,v=.ref a/\SqT K H a xs/\RDL K C H xs ds:=by
 cases r with
 | tup h l q=>exact⟨_,_,rfl,h,l,q⟩
theorem RD.lstI{v:V}{ds:List D}(r:RD K C H v (.lst ds)):∃a xs,v=.ref a/\H a=some (.lst xs)/\RDL K C H xs ds:=by
 cases r with
 | lst h l q=>exact⟨_,_,rfl,h,l,q⟩
theorem RD.fzI{v:V}{ds:List D}(r:RD K C H v (.fz ds)):∃a xs,v=.ref a/\SqL K H a xs/\RDL K C H xs ds:=by
 cases r with
 | fz h l q=>exact⟨_,_,rfl,h,l,q⟩
theorem RD.rowI{v:V}{ds:List D}(r:RD K C H v (.row ds)):∃x dx t ts,v=.ref x/\H x=some (.ins C dx (Jg5 t))/\SqT K H t ts/\RDL K C H ts ds:=by
 cases r with
 | row h1 h2 l q=>exact⟨_,_,_,_,rfl,h1,h2,l,q⟩
theorem RD.mkD{a:Qd}{ks:List Int}{xs:List V}{ds:List D}(h:H a=some (dkO ks xs))(hk:ks.length=ds.length)(r:RDL K C H xs ds):RD K C H (.ref a) (.dct ks ds):=.dct h hk r.1 r.2
theorem RD.dctI{v:V}{ks:List Int}{ds:List D}(r:RD K C H v (.dct ks ds)):∃a xs,v=.ref a/\H a=some (dkO ks xs)/\ks.length=ds.length/\RDL K C H xs ds:=by
 cases r with
 | dct h hk l q=>exact⟨_,_,rfl,h,hk,l,q⟩
theorem RD.mkZ{a:Qd}{ks:List Int}{xs:List V}{ds:List D}{o:Obj}(h:H a=some (.frz o (dkO ks xs)))(hk:ks.length=ds.length)(r:RDL K C H xs ds):RD K C H (.ref a) (.dfz ks ds):=.dfz h hk r.1 r.2
theorem RD.dfzI{v:V}{ks:List Int}{ds:List D}(r:RD K C H v (.dfz ks ds)):∃a xs o,v=.ref a/\H a=some (.frz o (dkO ks xs))/\ks.length=ds.length/\RDL K C H xs ds:=by
 cases r with
 | dfz h hk l q=>exact⟨_,_,_,rfl,h,hk,l,q⟩
theorem RD.intI{v:V}{i:Int}(r:RD K C H v (.int i)):v=.int i:=by cases r;rfl
theorem RD.strI{v:V}{i:Str}(r:RD K C H v (.str i)):v=.str i:=by cases r;rfl
theorem RD.blI{v:V}{i:Bool}(r:RD K C H v (.bl i)):v=.bl i:=by cases r;rfl
theorem RD.nonI{v:V}(r:RD K C H v .non):v=.non:=by cases r;rfl
end

mutual
noncomputable def D.py:D->PyData
 | .non=>.none
 | .bl b=>.bool b
 | .int i=>.int i
 | .str x=>.str x
 | .tup l=>.tuple (D.pyL l)
 | .lst l=>.list (D.pyL l)
 | .fz l=>.list (D.pyL l)
 | .row _=>.dict []
 | .dct _ _=>.dict []
 | .dfz _ _=>.dict []
 | .exc _=>.dict []
noncomputable def D.pyL:List D->List PyData
 | []=>[]
 | d::ds=>d.py::D.pyL ds
end
theorem Jij:∀ds:List D,D.pyL ds=ds.map D.py
 | []=>rfl
 | d::ds=>by rw[D.pyL,Jij ds];rfl
theorem JbE:∀{ds:List PyData},Mt ds=true->∀d∈ds,d.canLay0=true
 | [],_,d,hd=>nomatch hd
 | x::ds,h,d,hd=>by
  have h':(PyData.canLay0 x && Mt ds)=true:=h;rw[Q9] at h';rcases Qp.mp hd with z|z
  ·rw[z];exact h'.1
  ·exact JbE h'.2 d z
theorem RD.rep{K:Qw}{C:Qd}{H:Hp}{v:V}{d:D}(r:RD K C H v d):d.py.canLay0=true->Rep K H v d.py:=by
 have all:∀{xs:List V} {ds:List D},xs.length=ds.length->(∀(i:Nat) (x:V) (d:D),xs[i]?=some x->ds[i]?=some d->d.py.canLay0=true->Rep K H x d.py)->Mt (D.pyL ds)=true->RepL K H xs (D.pyL ds):=by
  intro xs ds l ih hc;rw[Jij] at hc ⊢;refine⟨by simpa using l,fun i x d h1 h2=>?_⟩;rw[Qt] at h2
  cases e:ds[i]? with
  | none=>rw[e] at h2;cases h2
  | some q=>rw[e] at h2;cases h2;exact ih i x q h1 e (JbE hc _ (QT.mpr ⟨q,QG e,rfl⟩))
 induction r with
 | non=>intro _;exact .non
 | bl b=>intro _;exact .bl b
 | int i=>intro _;exact .int i
 | str x=>intro _;exact .str x
 | tup h l _ ih=>intro hc;exact .tupL h (all l ih hc)
 | lst h l _ ih=>intro hc;exact .lstL (.of h) (all l ih hc)
 | fz h l _ ih=>intro hc;exact .lstL h (all l ih hc)
 | row h1 h2 l _ ih=>intro hc;cases hc
 | dct h1 h2 l _ ih=>intro hc;cases hc
 | dfz h1 h2 l _ ih=>intro hc;cases hc
 | exc h1 h2=>intro hc;cases hc

inductive Sl where
 | no|sh (d:D)|bo (ds:List D)|own (ds:List D)|bd (ks:List Int) (ds:List D)|od (ks:List Int) (ds:List D)|bt (ps:List (Int×Int)) (ds:List D)|ot (ps:List (Int×Int)) (ds:List D)|bw (a:Option Qd) (ds:List D)|dw (a:Option Qd) (ds:List D)
noncomputable def YA:Sl->Bool
 | .own _=>true
 | .od _ _=>true
 | .ot _ _=>true
 | .dw _ _=>true
 | _=>false
noncomputable def JpR:Sl->Bool
 | .bo _=>true
 | .bd _ _=>true
 | .bt _ _=>true
 | .bw _ _=>true
 | _=>false

noncomputable def Jp2:List GB->Option (Nat×Nat)
 | .Assign _ (.Call _ _ [⟨_,.Lambda _ _ _ pos,_⟩] _) _::_=>some (pos.line,pos.col)
 | _=>none
noncomputable def JsQ(K:Qw)(fd:Qz):Option (Qd×HO):=match fd.code,fd.body with
 | .ref c,.stmts b=>(match K.lookup c with
  | some ⟨_,_,.fields vs,_⟩=>(match (vs[11]?:Option Qc),Jp2 b with
   | some (.ref P),some (l,k)=>if PySem.W.codeHdIn K c P=true then some (P,.tbl #[] l k (fd.qualname++".<locals>."++"<lambda>")) else none
   | _,_=>none)
  | _=>none)
 | _,_=>none
noncomputable def Vq(K:Qw):Option (Qd×HO):=match nsIn K mainGlobals "early_lines" with
 | some (some (.ref f))=>(match K.lookup f with
  | some ⟨_,_,.func fd,_⟩=>JsQ K fd
  | _=>none)
 | _=>none
theorem Jf0{K:Qw}(h:nsIn K mainGlobals "early_lines"=some none):Vq K=none:=by unfold Vq;rw[h]
noncomputable def TabK(K:Qw)(H:Hp):Prop:=∀P t,Vq K=some (P,t)->H P=some t
theorem TabK.mono{K:Qw}{B H:Hp}(h:TabK K B)(s:∀a o,B a=some o->H a=some o):TabK K H:=fun P t e=>s P t (h P t e)
theorem TabK.no{K:Qw}{H:Hp}(h:Vq K=none):TabK K H:=fun P t e=>by rw[h] at e;cases e
section
variable(K:Qw)(C:Qd)
noncomputable def RR(Hs H0 H:Hp)(v:V):Sl->Prop
 | .no=>False
 | .sh d=>RD K C H0 v d
 | .bo ds=>∃l xs,v=.ref l/\H l=some (.lst xs)/\RDL K C H0 xs ds
 | .own ds=>∃l xs,v=.ref l/\H l=some (.lst xs)/\H0 l=none/\Hs l=none/\RDL K C H0 xs ds
 | .bd ks ds=>∃l xs,v=.ref l/\H l=some (dkO ks xs)/\ks.length=ds.length/\RDL K C H0 xs ds
 | .bt ks ds=>∃l xs,v=.ref l/\H l=some (dtO ks xs)/\ks.length=ds.length/\RDL K C H0 xs ds
 | .bw ks ds=>∃l xs,v=.ref l/\H l=some (deO xs)/\DkC K ks l xs/\RD K C H0 xs.2.2 (.lst ds)
 | .od ks ds=>∃l xs,v=.ref l/\H l=some (dkO ks xs)/\H0 l=none/\Hs l=none/\ks.length=ds.length/\RDL K C H0 xs ds
 | .ot ks ds=>∃l xs,v=.ref l/\H l=some (dtO ks xs)/\H0 l=none/\Hs l=none/\ks.length=ds.length/\RDL K C H0 xs ds
 | .dw ks ds=>∃l xs,v=.ref l/\H l=some (deO xs)/\H0 l=none/\Hs l=none/\DkC K ks l xs/\RD K C H0 xs.2.2 (.lst ds)
noncomputable def RSl(B H0 H:Hp)(v:V):Sl->Prop
 | .no=>True
 | .sh d=>RD K C H0 v d
 | .bo ds=>∃l xs,v=.ref l/\B l=some (.lst xs)/\RDL K C H0 xs ds
 | .own ds=>∃l xs,v=.ref l/\H l=some (.lst xs)/\H0 l=none/\B l=none/\RDL K C H0 xs ds
 | .bd ks ds=>∃l xs,v=.ref l/\B l=some (dkO ks xs)/\ks.length=ds.length/\RDL K C H0 xs ds
 | .bt ks ds=>∃l xs,v=.ref l/\B l=some (dtO ks xs)/\ks.length=ds.length/\RDL K C H0 xs ds
 | .bw ks ds=>∃l xs,v=.ref l/\B l=some (deO xs)/\DkC K ks l xs/\RD K C H0 xs.2.2 (.lst ds)
 | .od ks ds=>∃l xs,v=.ref l/\H l=some (dkO ks xs)/\H0 l=none/\B l=none/\ks.length=ds.length/\RDL K C H0 xs ds
 | .ot ks ds=>∃l xs,v=.ref l/\H l=some (dtO ks xs)/\H0 l=none/\B l=none/\ks.length=ds.length/\RDL K C H0 xs ds
 | .dw ks ds=>∃l xs,v=.ref l/\H l=some (deO xs)/\H0 l=none/\B l=none/\DkC K ks l xs/\RD K C H0 xs.2.2 (.lst ds)
structure EnvR (B H0 H:Hp) (σ:St) (E:List Sl):Prop where
 b:Same B H
 h:Same H0 H
 len:σ.length=E.length
 at':∀(i:Nat) (s:Sl),E[i]?=some s->s=.no\/∃v,σ[i]?=some (some v)/\RSl K C B H0 H v s
 sep:∀(i j:Nat) (s t:Sl) (v:V),i≠j->E[i]?=some s->E[j]?=some t->YA s=true->YA t=true->σ[i]?=some (some v)->σ[j]?≠some (some v)
 t:TabK K B
end
noncomputable def isT:HO->Bool
 | .tup _=>true
 | .frz _ (.tup _)=>true
 | _=>false
structure Step (Hs H0 H H0' H':Hp):Prop where
 h:Same H H'
 z:Same H0 H0'
 n:∀a o,H0' a=some o->H0 a=some o\/Hs a=none\/isT o=true
 i:Same H0' H'
structure SStep (B H0 H0' H':Hp):Prop where
 b:Same B H'
 z:Same H0 H0'
 n:∀a o,H0' a=some o->H0 a=some o\/B a=none\/isT o=true
 i:Same H0' H'

section
variable{K:Qw}{C:Qd}{B Hs H0 H H0' H' H0'' H'':Hp}{σ:St}{E:List Sl}{v:V}{s:Sl}
theorem Step.refl(i:Same H0 H):Step Hs H0 H H0 H:=⟨Same.refl _,Same.refl _,fun _ _ e=>.inl e,i⟩
theorem Step.comp{Hs':Hp}(s1:Step Hs H0 H H0' H')(s2:Step Hs' H0' H' H0'' H'')(w:∀a,Hs' a=none->Hs a=none):Step Hs H0 H H0'' H'' :=
 ⟨s1.h.trans s2.h,s1.z.trans s2.z,fun a o e=>(s2.n a o e).elim (fun q=>s1.n a o q) fun q=>.inr (q.imp (w a) id),s2.i⟩
theorem Step.trans(s1:Step H H0 H H0' H')(s2:Step H' H0' H' H0'' H''):Step H H0 H H0'' H'':=s1.comp s2 fun _ q=>Same.free s1.h q
theorem Step.ss(b:Same B H)(s:Step H H0 H H0' H'):SStep B H0 H0' H':=⟨b.trans s.h,s.z,fun a o e=>(s.n a o e).imp id fun q=>q.imp (fun q=>Same.free b q) id,s.i⟩
theorem SStep.refl(b:Same B H)(i:Same H0 H):SStep B H0 H0 H:=⟨b,Same.refl _,fun _ _ e=>.inl e,i⟩
theorem SStep.trans(s1:SStep B H0 H0' H')(s2:SStep B H0' H0'' H''):SStep B H0 H0'' H'':=⟨s2.b,s1.z.trans s2.z,fun a o e=>(s2.n a o e).elim (fun q=>s1.n a o q) .inr,s2.i⟩
theorem RR.step(r:RR K C Hs H0 H v s)(st:Step H H0 H H0' H'):RR K C Hs H0' H' v s:=by
 cases s with
 | no=>exact r
 | sh d=>exact RD.mono st.z r
 | bo ds=>obtain⟨l,xs,e,h,q⟩:=r;exact⟨l,xs,e,st.h _ _ h,q.mono st.z⟩
 | bd ks ds=>obtain⟨l,xs,e,h,hk,q⟩:=r;exact⟨l,xs,e,st.h _ _ h,hk,q.mono st.z⟩
 | bt ks ds=>obtain⟨l,xs,e,h,hk,q⟩:=r;exact⟨l,xs,e,st.h _ _ h,hk,q.mono st.z⟩
 | bw ks ds=>obtain⟨l,xs,e,h,hk,q⟩:=r;exact⟨l,xs,e,st.h _ _ h,hk,q.mono st.z⟩
 | own ds =>
  obtain⟨l,xs,e,h,n,m,q⟩:=r;refine⟨l,xs,e,st.h _ _ h,?_,m,q.mono st.z⟩
  cases z:H0' l with
  | none=>rfl
  | some o =>
   rcases st.n l o z with y|y|y
   ·rw[n] at y;cases y
   ·rw[h] at y;cases y
   ·have:=st.i l o z;rw[st.h _ _ h] at this;cases this;cases y
 | od ks ds =>
  obtain⟨l,xs,e,h,n,m,hk,q⟩:=r;refine⟨l,xs,e,st.h _ _ h,?_,m,hk,q.mono st.z⟩
  cases z:H0' l with
  | none=>rfl
  | some o =>
   rcases st.n l o z with y|y|y
   ·rw[n] at y;cases y
   ·rw[h] at y;cases y
   ·have:=st.i l o z;rw[st.h _ _ h] at this;cases this;cases y
 | ot ks ds =>
  obtain⟨l,xs,e,h,n,m,hk,q⟩:=r;refine⟨l,xs,e,st.h _ _ h,?_,m,hk,q.mono st.z⟩
  cases z:H0' l with
  | none=>rfl
  | some o =>
   rcases st.n l o z with y|y|y
   ·rw[n] at y;cases y
   ·rw[h] at y;cases y
   ·have:=st.i l o z;rw[st.h _ _ h] at this;cases this;cases y
 | dw ks ds =>
  obtain⟨l,xs,e,h,n,m,hk,q⟩:=r;refine⟨l,xs,e,st.h _ _ h,?_,m,hk,q.mono st.z⟩
  cases z:H0' l with
  | none=>rfl
  | some o =>
   rcases st.n l o z with y|y|y
   ·rw[n] at y;cases y
   ·rw[h] at y;cases y
   ·have:=st.i l o z;rw[st.h _ _ h] at this;cases this;cases y
theorem RR.weak{Hs':Hp}(r:RR K C Hs' H0 H v s)(w:∀a,Hs' a=none->Hs a=none):RR K C Hs H0 H v s:=by
 cases s with
 | own ds=>obtain⟨l,xs,e,h,n,m,q⟩:=r;exact⟨l,xs,e,h,n,w _ m,q⟩
 | od ks ds=>obtain⟨l,xs,e,h,n,m,q⟩:=r;exact⟨l,xs,e,h,n,w _ m,q⟩
 | ot ks ds=>obtain⟨l,xs,e,h,n,m,q⟩:=r;exact⟨l,xs,e,h,n,w _ m,q⟩
 | dw ks ds=>obtain⟨l,xs,e,h,n,m,q⟩:=r;exact⟨l,xs,e,h,n,w _ m,q⟩
 | _=>exact r
theorem RSl.owned(r:RSl K C B H0 H v s)(o:YA s=true):∃l,v=.ref l/\H l≠none/\H0 l=none/\B l=none:=by
 cases s with
 | own ds=>obtain⟨l,xs,e,h,n,m,q⟩:=r;simp_all
 | od ks ds=>obtain⟨l,xs,e,h,n,m,q⟩:=r;simp_all
 | ot ks ds=>obtain⟨l,xs,e,h,n,m,q⟩:=r;simp_all
 | dw ks ds=>obtain⟨l,xs,e,h,n,m,q⟩:=r;simp_all
 | _=>cases o
theorem RR.owned(r:RR K C Hs H0 H v s)(o:YA s=true):∃l,v=.ref l/\H l≠none/\H0 l=none/\Hs l=none:=by
 cases s with
 | own ds=>obtain⟨l,xs,e,h,n,m,q⟩:=r;simp_all
 | od ks ds=>obtain⟨l,xs,e,h,n,m,q⟩:=r;simp_all
 | ot ks ds=>obtain⟨l,xs,e,h,n,m,q⟩:=r;simp_all
 | dw ks ds=>obtain⟨l,xs,e,h,n,m,q⟩:=r;simp_all
 | _=>cases o
theorem EnvR.step(I:EnvR K C B H0 H σ E)(st:Step H H0 H H0' H'):EnvR K C B H0' H' σ E:=by
 refine⟨I.b.trans st.h,st.i,I.len,fun i s e=>?_,I.sep,I.t⟩;rcases I.at' i s e with z|⟨v,h1,h2⟩
 ·exact .inl z
 ·refine .inr ⟨v,h1,?_⟩
  cases s with
  | no=>trivial
  | sh d=>exact RD.mono st.z h2
  | bo ds=>obtain⟨l,xs,e,h,q⟩:=h2;exact⟨l,xs,e,h,q.mono st.z⟩
  | own ds=>exact RR.step (Hs:=B) (s:=.own ds) h2 st
  | bd ks ds=>obtain⟨l,xs,e,h,hk,q⟩:=h2;exact⟨l,xs,e,h,hk,q.mono st.z⟩
  | bt ks ds=>obtain⟨l,xs,e,h,hk,q⟩:=h2;exact⟨l,xs,e,h,hk,q.mono st.z⟩
  | bw ks ds=>obtain⟨l,xs,e,h,hk,q⟩:=h2;exact⟨l,xs,e,h,hk,q.mono st.z⟩
  | od ks ds=>exact RR.step (Hs:=B) (s:=.od ks ds) h2 st
  | ot ks ds=>exact RR.step (Hs:=B) (s:=.ot ks ds) h2 st
  | dw ks ds=>exact RR.step (Hs:=B) (s:=.dw ks ds) h2 st
theorem EnvR.sub{E':List Sl}(I:EnvR K C B H0 H σ E)(hl:E'.length=E.length)(h:∀(i:Nat) (s:Sl),E'[i]?=some s->s=.no\/E[i]?=some s):EnvR K C B H0 H σ E':=by
 refine⟨I.b,I.h,I.len.trans hl.symm,fun i s e=>?_,fun i j s t v hij e1 e2 o1 o2=>?_,I.t⟩
 ·rcases h i s e with z|z
  ·exact .inl z
  ·exact I.at' i s z
 ·rcases h i _ e1 with z|z
  ·subst z;cases o1
  ·rcases h j _ e2 with y|y
   ·subst y;cases o2
   ·exact I.sep i j s t v hij z y o1 o2
theorem EnvR.put(I:EnvR K C B H0 H σ E){i:Nat}(hi:i<E.length){Hs:Hp}(hB:∀a,Hs a=none->B a=none)(hf:∀(j:Nat) (t:Sl) (l:Qd),E[j]?=some t->YA t=true->σ[j]?=some (some (.ref l))->Hs l≠none)(r:RR K C Hs H0 H v s)(hb:JpR s=false):EnvR K C B H0 H (σ.set i (some v)) (E.set i s):=by
 refine⟨I.b,I.h,by simp[I.len],fun j t e=>?_,fun j k s1 s2 u hjk e1 e2 o1 o2 e3 e4=>?_,I.t⟩
 ·rw[QU] at e
  by_cases hj:i=j
  ·subst hj;rw[if_pos rfl,if_pos hi] at e;cases e;refine .inr ⟨v,by rw[QU];simp[I.len,hi],?_⟩
   cases s with
   | no=>trivial
   | sh d=>exact r
   | bo ds=>cases hb
   | own ds=>obtain⟨l,xs,e,h,n,m,q⟩:=r;exact⟨l,xs,e,h,n,hB _ m,q⟩
   | bd ks ds=>cases hb
   | bt ks ds=>cases hb
   | bw ks ds=>cases hb
   | od ks ds=>obtain⟨l,xs,e,h,n,m,q⟩:=r;exact⟨l,xs,e,h,n,hB _ m,q⟩
   | ot ks ds=>obtain⟨l,xs,e,h,n,m,q⟩:=r;exact⟨l,xs,e,h,n,hB _ m,q⟩
   | dw ks ds=>obtain⟨l,xs,e,h,n,m,q⟩:=r;exact⟨l,xs,e,h,n,hB _ m,q⟩
  ·rw[if_neg hj] at e;rcases I.at' j t e with z|⟨u,h1,h2⟩
   ·exact .inl z
   simp_all
 ·rw[QU] at e1 e2 e3 e4
  by_cases hj:i=j
  ·subst hj;rw[if_neg hjk] at e2 e4;rw[if_pos rfl,if_pos hi] at e1;rw[if_pos rfl,if_pos (by rw[I.len];exact hi)] at e3;cases e3;cases e1;obtain⟨l,e,_,_,m⟩:=r.owned o1;subst e;exact hf k _ l e2 o2 e4 m
  ·rw[if_neg hj] at e1 e3
   by_cases hk:i=k
   ·subst hk;rw[if_pos rfl,if_pos hi] at e2;rw[if_pos rfl,if_pos (by rw[I.len];exact hi)] at e4;cases e2;have e4':v=u:=QV (QV e4);subst e4';obtain⟨l,e,_,_,m⟩:=r.owned o2;subst e;exact hf j _ l e1 o1 e3 m
   ·rw[if_neg hk] at e2 e4;exact I.sep j k _ _ u hjk e1 e2 o1 o2 e3 e4
theorem EnvR.ownG(I:EnvR K C B H0 H σ E){j:Nat}{t:Sl}{l:Qd}(e1:E[j]?=some t)(ho:YA t=true)(e2:σ[j]?=some (some (.ref l))):H l≠none/\H0 l=none/\B l=none:=by
 rcases I.at' j _ e1 with z|⟨v,h1,h2⟩
 ·subst z;cases ho
 ·rw[e2] at h1;cases h1;obtain⟨l',e,h⟩:=h2.owned ho;cases e;exact h
theorem EnvR.put'{H1 H01:Hp}(I:EnvR K C B H0 H σ E)(st:Step H H0 H H01 H1){i:Nat}(hi:i<E.length)(r:RR K C H H01 H1 v s)(hb:JpR s=false):EnvR K C B H01 H1 (σ.set i (some v)) (E.set i s) :=
 (I.step st).put hi (fun a q=>Same.free I.b q) (fun j t l e1 o1 e2=>(I.ownG e1 o1 e2).1) r hb
noncomputable def Jh6:Option HO->Option HO
 | some o=>if isT o=true then some o else none
 | none=>none
noncomputable def JT(Hs H0 H:Hp):Hp:=fun a=>match H0 a with
 | some o=>some o
 | none=>match Hs a with
  | none=>H a
  | some _=>Jh6 (H a)
theorem JbD{o:Option HO}{u:HO}(e:Jh6 o=some u):o=some u/\isT u=true:=by
 cases o with
 | none=>cases e
 | some w=>grind[Jh6]
theorem JI(i:Same H0 H):Step Hs H0 H (JT Hs H0 H) H:=by
 refine⟨Same.refl _,fun a o e=>by unfold JT;rw[e],fun a o e=>?_,fun a o e=>?_⟩
 ·grind[JT,JbD]
 ·unfold JT at e
  cases h:H0 a with
  | some u=>rw[h] at e;cases e;exact i a _ h
  | none =>
   rw[h] at e
   cases h2:Hs a with
   | none=>rw[h2] at e;exact e
   | some u=>rw[h2] at e;exact(JbD e).1
theorem JdG{a:Qd}{o:HO}(i:Same H0 H)(n:Hs a=none)(h:H a=some o):JT Hs H0 H a=some o:=by
 unfold JT
 cases z:H0 a with
 | some u=>rw[i a u z] at h;exact h
 | none=>simp_all
theorem JhY{a:Qd}{o:HO}(i:Same H0 H)(n:isT o=true)(h:H a=some o):JT Hs H0 H a=some o:=by
 unfold JT
 cases z:H0 a with
 | some u=>rw[i a u z] at h;exact h
 | none=>grind[Jh6]
theorem JhX{a:Qd}{xs:List V}(i:Same H0 H)(h:SqT K H a xs):SqT K (JT Hs H0 H) a xs:=by
 rcases h with (h|⟨o,h⟩)|h
 ·exact .inl (.inl (JhY i rfl h))
 ·exact .inl (.inr ⟨o,JhY i rfl h⟩)
 ·exact .inr h
noncomputable def Sl.frz:Sl->Option D
 | .sh d=>some d
 | .own ds=>some (.lst ds)
 | .od ks ds=>some (.dct ks ds)
 | _=>none
theorem RR.frz{d:D}(i:Same H0 H)(r:RR K C Hs H0 H v s)(e:s.frz=some d):RD K C (JT Hs H0 H) v d:=by
 have st:Step Hs H0 H (JT Hs H0 H) H:=JI i
 cases s with
 | no=>cases e
 | sh d'=>cases e;exact RD.mono st.z r
 | bo ds=>cases e
 | own ds=>cases e;obtain⟨l,xs,e,h,n,m,q⟩:=r;subst e;exact .mkL (JdG i m h) (q.mono st.z)
 | bd ks ds=>cases e
 | bt ks ds=>cases e
 | bw ks ds=>cases e
 | od ks ds=>cases e;obtain⟨l,xs,e,h,n,m,hk,q⟩:=r;subst e;exact .mkD (JdG i m h) hk (q.mono st.z)
 | ot ks ds=>cases e
 | dw ks ds=>cases e
end
end LE

namespace LE
open PySem L2 LR

noncomputable abbrev En:=List Sl
noncomputable abbrev Ev:=En->Option Sl
section
variable(K:Qw)(C:Qd)
noncomputable def SE(te:TE)(ev:Ev):Prop:=∀(B H0 H:Hp) (σ:St) (E:En) (r:Sl) (Q:VK),EnvR K C B H0 H σ E->ev E=some r ->
 (∀v H0' H',Step H H0 H H0' H'->RR K C H H0' H' v r->Q v H')->te σ H Q
noncomputable def ST(t:TT)(ev:En->Option Bool):Prop:=∀(B H0 H:Hp) (σ:St) (E:En) (r:Bool) (Q:Bool->Hp->Prop),EnvR K C B H0 H σ E->ev E=some r ->
 (∀H0' H',Step H H0 H H0' H'->Q r H')->t σ H Q
inductive RRL (Hs H0 H:Hp):List V->List Sl->Prop
 | nil:RRL Hs H0 H [] []
 | cons {v:V} {s:Sl} {vs:List V} {ss:List Sl}:RR K C Hs H0 H v s->RRL Hs H0 H vs ss->RRL Hs H0 H (v::vs) (s::ss)
noncomputable def SA(t:TA)(ev:En->Option (List Sl)):Prop:=∀(B H0 H:Hp) (σ:St) (E:En) (r:List Sl) (Q:List V->Hp->Prop),EnvR K C B H0 H σ E->ev E=some r ->
 (∀vs H0' H',Step H H0 H H0' H'->RRL K C H H0' H' vs r->Q vs H')->t σ H Q
noncomputable def OpS(r:R2)(f:Sl->Sl->Option Sl):Prop:=∀(Hs H0 H:Hp) (x y:V) (a b c:Sl) (Q:VK),Same H0 H->Same Hs H->RR K C Hs H0 H x a->RR K C Hs H0 H y b->f a b=some c ->
 (∀v H0' H',Step Hs H0 H H0' H'->RR K C Hs H0' H' v c->Q v H')->r x y H Q
noncomputable def UnS(r:V->Hp->VK->Prop)(f:Sl->Option Sl):Prop:=∀(Hs H0 H:Hp) (x:V) (a c:Sl) (Q:VK),Same H0 H->Same Hs H->RR K C Hs H0 H x a->f a=some c ->
 (∀v H0' H',Step Hs H0 H H0' H'->RR K C Hs H0' H' v c->Q v H')->r x H Q
noncomputable def V7(r:List V->Hp->VK->Prop)(f:List Sl->Option Sl):Prop:=∀(Hs H0 H:Hp) (xs:List V) (as:List Sl) (c:Sl) (Q:VK),Same H0 H->Same Hs H->RRL K C Hs H0 H xs as->f as=some c ->
 (∀v H0' H',Step Hs H0 H H0' H'->RR K C Hs H0' H' v c->Q v H')->r xs H Q
end

noncomputable def Jd(i:Nat):Ev:=fun E=>match E[i]? with
 | some (.sh d)=>some (.sh d)
 | some (.bo ds)=>some (.bo ds)
 | some (.own ds)=>some (.bo ds)
 | some (.bd ks ds)=>some (.bd ks ds)
 | some (.od ks ds)=>some (.bd ks ds)
 | some (.bt ks ds)=>some (.bt ks ds)
 | some (.bw ks ds)=>some (.bw ks ds)
 | some (.ot ks ds)=>some (.bt ks ds)
 | some (.dw ks ds)=>some (.bw ks ds)
 | _=>none
noncomputable def eC(d:D):Ev:=fun _=>some (.sh d)
noncomputable def e2(f:Sl->Sl->Option Sl)(a b:Ev):Ev:=fun E=>(a E).bind fun x=>(b E).bind fun y=>f x y
noncomputable def e1(f:Sl->Option Sl)(a:Ev):Ev:=fun E=>(a E).bind f
noncomputable def a0:En->Option (List Sl):=fun _=>some []
noncomputable def aC(a:Ev)(as:En->Option (List Sl)):En->Option (List Sl):=fun E=>(a E).bind fun x=>(as E).bind fun xs=>some (x::xs)
noncomputable def eF(f:List Sl->Option Sl)(as:En->Option (List Sl)):Ev:=fun E=>(as E).bind f
noncomputable def bool?:Sl->Option Bool
 | .sh (.bl b)=>some b
 | _=>none
noncomputable def eIf(c:En->Option Bool)(a b:Ev):Ev:=fun E=>(c E).bind fun k=>if k=true then a E else b E
noncomputable def sh?:Sl->Option D
 | .sh d=>some d
 | _=>none
noncomputable def Jgs(f g:Sl->Sl->Option Sl)(a b c:Ev):Ev:=fun E=>((a E).bind sh?).bind fun x=>((b E).bind sh?).bind fun y=>((f (.sh x) (.sh y)).bind bool?).bind fun k=>if k=true then((c E).bind sh?).bind fun z=>g (.sh y) (.sh z) else some (.sh (.bl false))
noncomputable def tB?(a:Ev):En->Option Bool:=fun E=>(a E).bind bool?
noncomputable def tAnd?(a b:En->Option Bool):En->Option Bool:=fun E=>(a E).bind fun k=>if k=true then b E else some false
noncomputable def tOr?(a b:En->Option Bool):En->Option Bool:=fun E=>(a E).bind fun k=>if k=true then some true else b E
noncomputable def tNot?(a:En->Option Bool):En->Option Bool:=fun E=>(a E).bind fun k=>some (!k)

section
variable{K:Qw}{C:Qd}
theorem bind_some{α β:Type}{x:Option α}{f:α->Option β}{b:β}(e:x.bind f=some b):∃a,x=some a/\f a=some b:=by
 cases x with
 | none=>cases e
 | some a=>exact⟨a,rfl,e⟩
theorem JcF{s:Sl}{b:Bool}(e:bool? s=some b):s=.sh (.bl b):=by
 cases s with
 | sh d=>cases d with
  | bl x=>cases e;rfl
  | _=>cases e
 | _=>cases e
variable{ta tb tc te:TE}{ea eb ec:Ev}
theorem Jc(i:Nat):SE K C (Wi i) (Jd i):=by
 intro B H0 H σ E r Q I e q;unfold Jd at e
 cases h:E[i]? with
 | none=>rw[h] at e;cases e
 | some s =>
  rw[h] at e;rcases I.at' i s h with z|⟨v,h1,h2⟩
  ·subst z;cases e
  ·refine⟨v,h1,q v H0 H (.refl I.h) ?_⟩
   cases s with
   | no=>cases e
   | sh d=>cases e;exact h2
   | bo ds=>cases e;obtain⟨l,xs,e,hl,r⟩:=h2;exact⟨l,xs,e,I.b _ _ hl,r⟩
   | own ds=>cases e;obtain⟨l,xs,e,hl,_,_,r⟩:=h2;exact⟨l,xs,e,hl,r⟩
   | bd ks ds=>cases e;obtain⟨l,xs,e,hl,r⟩:=h2;exact⟨l,xs,e,I.b _ _ hl,r⟩
   | bt ks ds=>cases e;obtain⟨l,xs,e,hl,r⟩:=h2;exact⟨l,xs,e,I.b _ _ hl,r⟩
   | bw ks ds=>cases e;obtain⟨l,xs,e,hl,r⟩:=h2;exact⟨l,xs,e,I.b _ _ hl,r⟩
   | od ks ds=>cases e;obtain⟨l,xs,e,hl,_,_,r⟩:=h2;exact⟨l,xs,e,hl,r⟩
   | ot ks ds=>cases e;obtain⟨l,xs,e,hl,_,_,r⟩:=h2;exact⟨l,xs,e,hl,r⟩
   | dw ks ds=>cases e;obtain⟨l,xs,e,hl,_,_,r⟩:=h2;exact⟨l,xs,e,hl,r⟩
theorem Yx:SE K C (tC .non) (eC .non):=fun _ _ _ _ _ _ _ I e q=>by cases e;exact q _ _ _ (.refl I.h) .non
theorem Jg7{b:Bool}:SE K C (tC (.bl b)) (eC (.bl b)):=fun _ _ _ _ _ _ _ I e q=>by cases e;exact q _ _ _ (.refl I.h) (.bl b)
theorem Jm{i:Int}:SE K C (tC (.int i)) (eC (.int i)):=fun _ _ _ _ _ _ _ I e q=>by cases e;exact q _ _ _ (.refl I.h) (.int i)
theorem Yb{x:Str}:SE K C (tC (.str x)) (eC (.str x)):=fun _ _ _ _ _ _ _ I e q=>by cases e;exact q _ _ _ (.refl I.h) (.str x)
theorem Jn{r:R2}{f:Sl->Sl->Option Sl}(ho:OpS K C r f)(ha:SE K C ta ea)(hb:SE K C tb eb):SE K C (tOp r ta tb) (e2 f ea eb):=by
 intro B H0 H σ E c Q I e q;obtain⟨a,e1,e⟩:=bind_some e;obtain⟨b,e2,e⟩:=bind_some e;exact ha B H0 H σ E a _ I e1 fun x H1 H1' s1 r1=>hb B H1 H1' σ E b _ (I.step s1) e2 fun y H2 H2' s2 r2=>ho H H2 H2' x y a b c Q s2.i (s1.h.trans s2.h) (r1.step s2) (r2.weak fun a q=>Same.free s1.h q) e fun v H3 H3' s3 r3=>q v H3 H3' ((s1.trans s2).comp s3 fun _ z=>z) r3
theorem Jem{r:V->Hp->VK->Prop}{f:Sl->Option Sl}(ho:UnS K C r f)(ha:SE K C ta ea):SE K C (tUn r ta) (e1 f ea):=by intro B H0 H σ E c Q I e q;obtain⟨a,e1,e⟩:=bind_some e;exact ha B H0 H σ E a _ I e1 fun x H1 H1' s1 r1=>ho H H1 H1' x a c Q s1.i s1.h r1 e fun v H3 H3' s3 r3=>q v H3 H3' (s1.comp s3 fun _ z=>z) r3
theorem Jg:SA K C Zk a0:=fun _ _ _ _ _ _ _ I e q=>by cases e;exact q _ _ _ (.refl I.h) .nil
theorem RRL.weak{Hs Hs' H0 H:Hp}{vs:List V}{ss:List Sl}(r:RRL K C Hs' H0 H vs ss)(w:∀a,Hs' a=none->Hs a=none):RRL K C Hs H0 H vs ss:=by
 induction r with
 | nil=>exact .nil
 | cons h _ ih=>exact .cons (h.weak w) ih
theorem Jb{tr:TA}{er:En->Option (List Sl)}(ha:SE K C ta ea)(hr:SA K C tr er):SA K C (Wb ta tr) (aC ea er):=by
 intro B H0 H σ E c Q I e q;obtain⟨a,e1,e⟩:=bind_some e;obtain⟨b,e2,e⟩:=bind_some e;cases e;exact ha B H0 H σ E a _ I e1 fun x H1 H1' s1 r1=>hr B H1 H1' σ E b _ (I.step s1) e2 fun y H2 H2' s2 r2=>q _ H2 H2' (s1.trans s2) (.cons (r1.step s2) (r2.weak fun a q=>Same.free s1.h q))
theorem YB{r:List V->Hp->VK->Prop}{t:TA}{ev:En->Option (List Sl)}{f:List Sl->Option Sl}(hc:V7 K C r f)(ha:SA K C t ev):SE K C (tCB r t) (eF f ev):=by intro B H0 H σ E c Q I e q;obtain⟨a,e1,e⟩:=bind_some e;exact ha B H0 H σ E a _ I e1 fun x H1 H1' s1 r1=>hc H H1 H1' x a c Q s1.i s1.h r1 e fun v H3 H3' s3 r3=>q v H3 H3' (s1.comp s3 fun _ z=>z) r3
theorem JaM{c:TT}{cv:En->Option Bool}(hc:ST K C c cv)(ha:SE K C ta ea)(hb:SE K C tb eb):SE K C (tIf c ta tb) (eIf cv ea eb):=by
 intro B H0 H σ E r Q I e q;obtain⟨k,e1,e⟩:=bind_some e;refine hc B H0 H σ E k _ I e1 fun H1 H1' s1=>?_
 cases k with
 | true=>exact ha B H1 H1' σ E r Q (I.step s1) e fun y H2 H2' s2 r2=>q y H2 H2' (s1.trans s2) (r2.weak fun a q=>Same.free s1.h q)
 | false=>exact hb B H1 H1' σ E r Q (I.step s1) e fun y H2 H2' s2 r2=>q y H2 H2' (s1.trans s2) (r2.weak fun a q=>Same.free s1.h q)
theorem Jbb{s:Sl}{d:D}(e:sh? s=some d):s=.sh d:=by
 cases s with
 | sh d'=>cases e;rfl
 | _=>cases e
theorem Jn5{r r':R2}{f g:Sl->Sl->Option Sl}(ho:OpS K C r f)(ho':OpS K C r' g)(ha:SE K C ta ea)(hb:SE K C tb eb)(hc:SE K C tc ec):SE K C (Jl2 r r' ta tb tc) (Jgs f g ea eb ec):=by
 intro B H0 H σ E c Q I e q;obtain⟨a,e1,e⟩:=bind_some e;obtain⟨a',e1,f1⟩:=bind_some e1;obtain rfl:=Jbb f1;obtain⟨b,e2,e⟩:=bind_some e;obtain⟨b',e2,f2⟩:=bind_some e2;obtain rfl:=Jbb f2;obtain⟨k,e3,e⟩:=bind_some e;obtain⟨z,e4,e3⟩:=bind_some e3;refine ha B H0 H σ E _ _ I e1 fun x H1 H1' s1 r1=>hb B H1 H1' σ E _ _ (I.step s1) e2 fun y H2 H2' s2 r2=>?_
 have x2:RD K C H2 x a:=RD.mono s2.z r1
 have y2:RD K C H2 y b:=r2;refine ho H2' H2 H2' x y (.sh a) (.sh b) z _ s2.i (Same.refl _) x2 y2 e4 fun w H3 H3' s3 r3=>?_
 rw[JcF e3] at r3;have s13:=(s1.trans s2).trans s3;refine⟨k,RD.blI r3,?_⟩
 cases k with
 | false=>cases e;solve_by_elim
 | true =>
  obtain⟨d,e5,e⟩:=bind_some e;obtain⟨d',e5,f5⟩:=bind_some e5;obtain rfl:=Jbb f5;refine hc B H3 H3' σ E _ _ (I.step s13) e5 fun u H4 H4' s4 r4=>?_
  exact ho' H H4 H4' y u (.sh b) (.sh d) c Q s4.i (s13.h.trans s4.h) (RD.mono (s3.z.trans s4.z) y2) (show RD K C H4 u d from r4) e fun v H5 H5' s5 r5=>q v H5 H5' ((s13.trans s4).comp s5 fun _ z=>z) r5

theorem JD(ha:SE K C te ea):ST K C (Jl6 te) (tB? ea):=by
 intro B H0 H σ E k Q I e q;obtain⟨a,e1,e⟩:=bind_some e;refine ha B H0 H σ E a _ I e1 fun x H1 H1' s1 r1=>?_
 rw[JcF e] at r1;exact⟨k,RD.blI r1,q _ _ s1⟩
theorem WE{c d:TT}{ev ew:En->Option Bool}(hc:ST K C c ev)(hd:ST K C d ew):ST K C (Jrk c d) (tAnd? ev ew):=by
 intro B H0 H σ E k Q I e q;obtain⟨a,e1,e⟩:=bind_some e;refine hc B H0 H σ E a _ I e1 fun H1 H1' s1=>?_
 cases a with
 | true=>exact hd B H1 H1' σ E k Q (I.step s1) e fun H2 H2' s2=>q H2 H2' (s1.trans s2)
 | false=>cases e;exact q _ _ s1
theorem Jb1{c d:TT}{ev ew:En->Option Bool}(hc:ST K C c ev)(hd:ST K C d ew):ST K C (tOr c d) (tOr? ev ew):=by
 intro B H0 H σ E k Q I e q;obtain⟨a,e1,e⟩:=bind_some e;refine hc B H0 H σ E a _ I e1 fun H1 H1' s1=>?_
 cases a with
 | false=>exact hd B H1 H1' σ E k Q (I.step s1) e fun H2 H2' s2=>q H2 H2' (s1.trans s2)
 | true=>cases e;exact q _ _ s1
theorem JlL{c:TT}{ev:En->Option Bool}(hc:ST K C c ev):ST K C (Jrl c) (tNot? ev):=by
 intro B H0 H σ E k Q I e q;obtain⟨a,e1,e⟩:=bind_some e;cases e
 solve_by_elim
end

noncomputable def Sl.m:Sl->Option (List D)
 | .sh (.lst ds)=>some ds
 | .bo ds=>some ds
 | .own ds=>some ds
 | _=>none
noncomputable def Sl.r:Sl->Option (List D)
 | .sh (.lst ds)=>some ds
 | .sh (.fz ds)=>some ds
 | .bo ds=>some ds
 | .own ds=>some ds
 | _=>none
noncomputable def Sl.q:Sl->Option (List D)
 | .sh (.lst ds)=>some ds
 | .sh (.fz ds)=>some ds
 | .sh (.tup ds)=>some ds
 | .bo ds=>some ds
 | .own ds=>some ds
 | _=>none
noncomputable def Sl.d:Sl->Option D
 | .sh d=>some d
 | .bo ds=>some (.lst ds)
 | .own ds=>some (.lst ds)
 | .bd ks ds=>some (.dct ks ds)
 | .od ks ds=>some (.dct ks ds)
 | .bt _ _=>none
 | .bw _ _=>none
 | .ot _ _=>none
 | .dw _ _=>none
 | .no=>none
section
variable{K:Qw}{C:Qd}{Hs H0 H:Hp}{v:V}{s:Sl}{ds:List D}{d:D}
theorem RR.m(r:RR K C Hs H0 H v s)(i:Same H0 H)(e:s.m=some ds):∃l xs,v=.ref l/\H l=some (.lst xs)/\RDL K C H0 xs ds:=by
 cases s with
 | no=>cases e
 | bo es=>cases e;exact r
 | own es=>cases e;obtain⟨l,xs,h1,h2,_,_,h3⟩:=r;exact⟨l,xs,h1,h2,h3⟩
 | bd _ _=>cases e
 | bt _ _=>cases e
 | bw _ _=>cases e
 | od _ _=>cases e
 | ot _ _=>cases e
 | dw _ _=>cases e
 | sh d=>cases d with
  | lst es=>cases e;obtain⟨l,xs,h1,h2,h3⟩:=RD.lstI r;exact⟨l,xs,h1,i _ _ h2,h3⟩
  | _=>cases e
theorem RR.r(r:RR K C Hs H0 H v s)(i:Same H0 H)(e:s.r=some ds):∃l xs,v=.ref l/\SqL K H l xs/\RDL K C H0 xs ds:=by
 cases s with
 | no=>cases e
 | bo es=>cases e;obtain⟨l,xs,h1,h2,h3⟩:=r;exact⟨l,xs,h1,.of h2,h3⟩
 | own es=>cases e;obtain⟨l,xs,h1,h2,_,_,h3⟩:=r;exact⟨l,xs,h1,.of h2,h3⟩
 | bd _ _=>cases e
 | bt _ _=>cases e
 | bw _ _=>cases e
 | od _ _=>cases e
 | ot _ _=>cases e
 | dw _ _=>cases e
 | sh d=>cases d with
  | lst es=>cases e;obtain⟨l,xs,h1,h2,h3⟩:=RD.lstI r;exact⟨l,xs,h1,.of (i _ _ h2),h3⟩
  | fz es=>cases e;obtain⟨l,xs,h1,h2,h3⟩:=RD.fzI r;exact⟨l,xs,h1,i.seq h2,h3⟩
  | _=>cases e
theorem RR.q(r:RR K C Hs H0 H v s)(i:Same H0 H)(e:s.q=some ds):∃l xs,v=.ref l/\(SqL K H l xs\/SqT K H l xs)/\RDL K C H0 xs ds:=by
 cases s with
 | no=>cases e
 | bo es=>cases e;obtain⟨l,xs,h1,h2,h3⟩:=r;exact⟨l,xs,h1,.inl (.of h2),h3⟩
 | own es=>cases e;obtain⟨l,xs,h1,h2,_,_,h3⟩:=r;exact⟨l,xs,h1,.inl (.of h2),h3⟩
 | bd _ _=>cases e
 | bt _ _=>cases e
 | bw _ _=>cases e
 | od _ _=>cases e
 | ot _ _=>cases e
 | dw _ _=>cases e
 | sh d=>cases d with
  | lst es=>cases e;obtain⟨l,xs,h1,h2,h3⟩:=RD.lstI r;exact⟨l,xs,h1,.inl (.of (i _ _ h2)),h3⟩
  | fz es=>cases e;obtain⟨l,xs,h1,h2,h3⟩:=RD.fzI r;exact⟨l,xs,h1,.inl (i.seq h2),h3⟩
  | tup es=>cases e;obtain⟨l,xs,h1,h2,h3⟩:=RD.tupI r;exact⟨l,xs,h1,.inr (i.seqT h2),h3⟩
  | _=>cases e
theorem RR.dat(r:RR K C Hs H0 H v s)(i:Same H0 H)(e:s.d=some d):RD K C H v d:=by
 cases s with
 | no=>cases e
 | bo es=>cases e;obtain⟨l,xs,h1,h2,h3⟩:=r;subst h1;exact .mkL h2 (h3.mono i)
 | own es=>cases e;obtain⟨l,xs,h1,h2,_,_,h3⟩:=r;subst h1;exact .mkL h2 (h3.mono i)
 | bd _ _=>cases e;obtain⟨l,xs,h1,h2,hk,h3⟩:=r;subst h1;exact .mkD h2 hk (h3.mono i)
 | bt _ _=>cases e
 | bw _ _=>cases e
 | od _ _=>cases e;obtain⟨l,xs,h1,h2,_,_,hk,h3⟩:=r;subst h1;exact .mkD h2 hk (h3.mono i)
 | ot _ _=>cases e
 | dw _ _=>cases e
 | sh d'=>cases e;exact RD.mono i r
theorem UX{p:Qd}{xs:List V}{Q:VK}(i:Same H0 H)(hs:Same Hs H)(hp:H p=none)(r:RDL K C H0 xs ds)(q:∀v H0' H',Step Hs H0 H H0' H'->RR K C Hs H0' H' v (.own ds)->Q v H'):Q (.ref p) (upd H p (.lst xs)) :=
 q _ H0 _ ⟨.new hp,Same.refl _,fun _ _ e=>.inl e,i.trans (.new hp)⟩ ⟨p,xs,rfl,Jw,Same.free i hp,Same.free hs hp,r⟩
theorem JeB{p:Qd}{xs:List V}{Q:VK}(i:Same H0 H)(hs:Same Hs H)(hp:H p=none)(r:RDL K C H0 xs ds)(q:∀v H0' H',Step Hs H0 H H0' H'->RR K C Hs H0' H' v (.sh (.tup ds))->Q v H'):Q (.ref p) (upd H p (.tup xs)):=by
 have h0:H0 p=none:=Same.free i hp;refine q _ (upd H0 p (.tup xs)) _ ⟨.new hp,.new h0,fun a o e=>?_,fun a o e=>?_⟩ ?_
 ·by_cases h:a=p
  ·subst h;exact .inr (.inl (Same.free hs hp))
  ·rw[Jl h] at e;exact .inl e
 ·by_cases h:a=p
  ·subst h;rw[Jw] at e ⊢;exact e
  ·rw[Jl h] at e ⊢;exact i a o e
 ·exact RD.mkT (.of Jw) (r.mono (.new h0))
end

noncomputable def fI(g:Int->Int->D):Sl->Sl->Option Sl
 | .sh (.int a),.sh (.int b)=>some (.sh (g a b))
 | _,_=>none
noncomputable def fIc(c:Int->Int->Bool)(g:Int->Int->D):Sl->Sl->Option Sl
 | .sh (.int a),.sh (.int b)=>if c a b=true then some (.sh (g a b)) else none
 | _,_=>none
noncomputable def Ji8(x y:Sl):Option Sl:=x.m.bind fun a=>y.m.bind fun b=>if a.length+b.length<=Qq then some (.own (a++b)) else none
noncomputable def JN:Sl->Sl->Option Sl
 | .sh (.int a),.sh (.int b)=>some (.sh (.int (a+b)))
 | .sh (.str a),.sh (.str b)=>if a.length+b.length<=Qq then some (.sh (.str (a++b))) else none
 | .sh (.tup a),.sh (.tup b)=>if a.isEmpty=false/\b.isEmpty=false/\a.length+b.length<=Qq then some (.sh (.tup (a++b))) else none
 | .sh (.lst a),y=>Ji8 (.sh (.lst a)) y
 | .bo a,y=>Ji8 (.bo a) y
 | .own a,y=>Ji8 (.own a) y
 | _,_=>none
noncomputable abbrev Uh:=fI fun a b=>.int (a-b)
noncomputable abbrev fLt:=fI fun a b=>.bl (decide (a<b))
noncomputable abbrev fLe:=fI fun a b=>.bl (decide (a<=b))
noncomputable abbrev fGt:=fI fun a b=>.bl (decide (b<a))
noncomputable def ZV(a:Int):Bool:=RO a.natAbs 18446744073709551615
theorem V3{a:Int}:ZV a=true↔-18446744073709551616<a/\a<18446744073709551616:=by unfold ZV;rw[KN];omega
noncomputable def Jay(a:Int):Bool:=RO a.natAbs 1073741823 && decide (0<a)
theorem smallP_ok{a:Int}:Jay a=true↔0<a/\a<1073741824:=by grind[Jay,KN]
noncomputable abbrev JdE:=fIc (fun a b=>ZV a || ZV b) fun a b=>.int (a*b)
noncomputable abbrev WX:=fIc (fun _ b=>decide (0<b)) fun a b=>.int (a % b)
noncomputable abbrev Je2:=fIc (fun _ b=>Jay b) fun a b=>.int (a / b)
noncomputable abbrev Jgx:=fIc (fun a b=>decide (0<=b) && RO b.natAbs 1000000 && ZV a) fun a b=>.int (a ^ b.toNat)
noncomputable def Jaf:Sl->Option Sl
 | .sh (.int a)=>some (.sh (.int (-a)))
 | _=>none
noncomputable def eqD(d e:D):Option Bool:=if (d.py.canLay0 && e.py.canLay0 && decide (min d.py.depth e.py.depth<=60))=true then some (PyData.eqv d.py e.py) else none
noncomputable def eqA:D->D->Option Bool
 | .int a,.int b=>some (decide (a=b))
 | .str a,.str b=>some (decide (a=b))
 | .bl a,.bl b=>some (decide (a=b))
 | .non,.non=>some true
 | .non,.int _=>some false
 | .int _,.non=>some false
 | .non,.str _=>some false
 | .str _,.non=>some false
 | .non,.bl _=>some false
 | .bl _,.non=>some false
 | .int _,.str _=>some false
 | .str _,.int _=>some false
 | d,e=>eqD d e
noncomputable def fEq(x y:Sl):Option Sl:=x.d.bind fun d=>y.d.bind fun e=>(eqA d e).map fun k=>.sh (.bl k)
noncomputable def fNe(x y:Sl):Option Sl:=x.d.bind fun d=>y.d.bind fun e=>(eqA d e).map fun k=>.sh (.bl (!k))
noncomputable def D.isNon:D->Bool
 | .non=>true
 | _=>false
noncomputable def fIs:Sl->Sl->Option Sl
 | x,.sh .non=>x.d.map fun d=>.sh (.bl d.isNon)
 | _,_=>none
noncomputable def VV:Sl->Sl->Option Sl
 | x,.sh .non=>x.d.map fun d=>.sh (.bl (!d.isNon))
 | _,_=>none
noncomputable def fIx:Sl->Sl->Option Sl
 | .sh (.str z),.sh (.int i)=>if z.length<=Qq then(atI z.cps.toList i).map fun c=>.sh (.str ⟨#[c]⟩) else none
 | x,.sh (.int i)=>x.q.bind fun ds=>(atI ds i).map .sh
 | _,_=>none
section
variable{K:Qw}{C:Qd}
theorem o_I{g:Int->Int->V}{g':Int->Int->D}(h:∀i j H,RD K C H (g i j) (g' i j)):OpS K C (rI0 g) (fI g'):=by
 intro Hs H0 H x y a b c Q i hs ra rb e q;unfold fI at e;split at e
 ·cases e;exact⟨_,_,RD.intI ra,RD.intI rb,q _ _ _ (.refl i) (h _ _ _)⟩
 ·cases e
theorem Jla{P:Int->Int->Prop}{c':Int->Int->Bool}{g:Int->Int->V}{g':Int->Int->D}(hp:∀i j,c' i j=true->P i j)(h:∀i j H,RD K C H (g i j) (g' i j)):OpS K C (rI P g) (fIc c' g'):=by
 intro Hs H0 H x y a b c Q i hs ra rb e q;unfold fIc at e;split at e
 ·split at e
  ·cases e;exact⟨_,_,RD.intI ra,RD.intI rb,hp _ _ (by assumption),q _ _ _ (.refl i) (h _ _ _)⟩
  ·cases e
 ·cases e
theorem Ul:OpS K C (rI0 fun i j=>.int (i-j)) Uh:=o_I fun _ _ _=>.int _
theorem JbK:OpS K C (rI0 fun i j=>.bl (decide (i<j))) fLt:=o_I fun _ _ _=>.bl _
theorem Jso:OpS K C (rI0 fun i j=>.bl (decide (i<=j))) fLe:=o_I fun _ _ _=>.bl _
theorem JgR:OpS K C (rI0 fun i j=>.bl (decide (j<i))) fGt:=o_I fun _ _ _=>.bl _
theorem JbL:OpS K C (rI CMul fun i j=>.int (i*j)) JdE:=Jla (fun i j h=>by simp only[Lk,V3] at h;exact h) fun _ _ _=>.int _
theorem VJ:OpS K C (rI (fun _ j=>0<j) fun i j=>.int (i % j)) WX:=Jla (fun i j h=>by simpa using h) fun _ _ _=>.int _
theorem Jc1:OpS K C (rI JrA fun i j=>.int (i / j)) Je2:=Jla (fun i j h=>smallP_ok.mp h) fun _ _ _=>.int _
theorem Jfu:OpS K C (rI JrB fun i j=>.int (i ^ j.toNat)) Jgx:=Jla (fun i j h=>by simp only[Q9,decide_eq_true_eq,KN,V3] at h;refine⟨h.1.1,by omega,?_⟩;omega) fun _ _ _=>.int _
theorem ZZ:UnS K C (rU fun i=>.int (-i)) Jaf:=by
 intro Hs H0 H x a c Q i hs ra e q;unfold Jaf at e;split at e
 ·cases e;exact⟨_,RD.intI ra,q _ _ _ (.refl i) (RD.int _)⟩
 ·cases e
noncomputable def Jlt(K:Qw):R2:=fun x y H Q=>Jik K x y H Q\/JoO K x y H Q
theorem Js{X:Cx}(hK:X.K=K):OpR X (binaryOp .Add) (Jlt K):=(Jig hK).or (hK▸JnA)
theorem JK:OpS K C (Jlt K) JN:=by
 intro Hs H0 H x y a b c Q i hs ra rb e q
 have cat:∀{a b:Sl},RR K C Hs H0 H x a->RR K C Hs H0 H y b->Ji8 a b=some c->Jlt K x y H Q:=by
  intro a b ra rb e;obtain⟨xs,e1,e⟩:=bind_some e;obtain⟨ys,e2,e⟩:=bind_some e;split at e
  ·next hz=>cases e;obtain⟨l,us,rfl,h1,r1⟩:=ra.m i e1;obtain⟨l',ws,rfl,h2,r2⟩:=rb.m i e2;exact .inl (.inr (.inr ⟨l,l',us,ws,rfl,rfl,h1,h2,by rw[r1.1,r2.1];exact hz,fun p hp=>UX i hs hp (r1.append r2) q⟩))
  ·cases e
 unfold JN at e;split at e
 ·cases e;exact .inl (.inl ⟨_,_,RD.intI ra,RD.intI rb,q _ _ _ (.refl i) (RD.int _)⟩)
 ·split at e
  ·cases e;exact .inl (.inr (.inl ⟨_,_,RD.strI ra,RD.strI rb,by assumption,q _ _ _ (.refl i) (RD.str _)⟩))
  ·cases e
 ·split at e
  ·next hz =>
   cases e;obtain⟨l,us,rfl,h1,r1⟩:=RD.tupI ra;obtain⟨l',ws,rfl,h2,r2⟩:=RD.tupI rb;have n1:us≠[]:=by rintro rfl;have:=r1.1;grind
   have n2:ws≠[]:=by rintro rfl;have:=r2.1;grind
   exact .inr ⟨l,l',us,ws,rfl,rfl,i.seqT h1,i.seqT h2,n1,by rw[r1.1,r2.1];exact hz.2.2,fun z=>absurd z n2,fun _ p hp=>JeB i hs hp (r1.append r2) q⟩
  ·cases e
 ·exact cat ra rb e
 ·exact cat ra rb e
 ·exact cat ra rb e
 ·cases e
theorem Je1{d e:D}{k:Bool}(h:eqD d e=some k):d.py.canLay0=true/\e.py.canLay0=true/\min d.py.depth e.py.depth<=60/\k=PyData.eqv d.py e.py:=by
 unfold eqD at h
 simp_all
theorem map_some{α β:Type}{x:Option α}{f:α->β}{b:β}(e:x.map f=some b):∃a,x=some a/\f a=b:=by simp_all
theorem Je0{H:Hp}{x y:V}{d e:D}{k:Bool}(h:eqA d e=some k)(rx:RD K C H x d)(ry:RD K C H y e):(Jrh x y=true/\decide (x=y)=k)\/eqD d e=some k:=by
 unfold eqA at h;split at h
 ·cases h;rw[RD.intI rx,RD.intI ry];exact .inl ⟨rfl,by simp⟩
 ·cases h;rw[RD.strI rx,RD.strI ry];exact .inl ⟨rfl,by simp⟩
 ·cases h;rw[RD.blI rx,RD.blI ry];exact .inl ⟨rfl,by simp⟩
 ·cases h;rw[RD.nonI rx,RD.nonI ry];solve_by_elim
 ·cases h;rw[RD.nonI rx,RD.intI ry];solve_by_elim
 ·cases h;rw[RD.intI rx,RD.nonI ry];solve_by_elim
 ·cases h;rw[RD.nonI rx,RD.strI ry];solve_by_elim
 ·cases h;rw[RD.strI rx,RD.nonI ry];solve_by_elim
 ·cases h;rw[RD.nonI rx,RD.blI ry];solve_by_elim
 ·cases h;rw[RD.blI rx,RD.nonI ry];solve_by_elim
 ·cases h;rw[RD.intI rx,RD.strI ry];solve_by_elim
 ·cases h;rw[RD.strI rx,RD.intI ry];solve_by_elim
 ·exact .inr h
theorem JbJ:OpS K C (JqO K) fEq:=by
 intro Hs H0 H x y a b c Q i hs ra rb e q;obtain⟨d,e1,e⟩:=bind_some e;obtain⟨d',e2,e⟩:=bind_some e;obtain⟨k,e3,rfl⟩:=map_some e;have r1:=ra.dat i e1;have r2:=rb.dat i e2;rcases Je0 e3 r1 r2 with ⟨h1,h2⟩|h
 ·exact .inl ⟨h1,by rw[h2];exact q _ _ _ (.refl i) (RD.bl _)⟩
 ·obtain⟨h1,h2,h3,rfl⟩:=Je1 h;exact .inr ⟨_,_,r1.rep h1,r2.rep h2,h1,h2,h3,q _ _ _ (.refl i) (RD.bl _)⟩
theorem Jd1:OpS K C (JqR K) fNe:=by
 intro Hs H0 H x y a b c Q i hs ra rb e q;obtain⟨d,e1,e⟩:=bind_some e;obtain⟨d',e2,e⟩:=bind_some e;obtain⟨k,e3,rfl⟩:=map_some e;have r1:=ra.dat i e1;have r2:=rb.dat i e2;rcases Je0 e3 r1 r2 with ⟨h1,h2⟩|h
 ·exact .inl ⟨h1,by rw[h2];exact q _ _ _ (.refl i) (RD.bl _)⟩
 ·obtain⟨h1,h2,h3,rfl⟩:=Je1 h;exact .inr ⟨_,_,r1.rep h1,r2.rep h2,h1,h2,h3,q _ _ _ (.refl i) (RD.bl _)⟩
theorem Je9{H:Hp}{x:V}{d:D}(r:RD K C H x d):decide (x=.non)=d.isNon:=by cases r <;> simp[D.isNon]
theorem JdZ:OpS K C Jsx fIs:=by
 intro Hs H0 H x y a b c Q i hs ra rb e q;unfold fIs at e;split at e
 ·obtain⟨d,e1,rfl⟩:=map_some e;refine⟨RD.nonI rb,?_⟩;rw[Je9 (ra.dat i e1)];exact q _ _ _ (.refl i) (RD.bl _)
 ·cases e
theorem Jd0:OpS K C Jlw VV:=by
 intro Hs H0 H x y a b c Q i hs ra rb e q;unfold VV at e;split at e
 ·obtain⟨d,e1,rfl⟩:=map_some e;refine⟨RD.nonI rb,?_⟩;rw[Je9 (ra.dat i e1)];exact q _ _ _ (.refl i) (RD.bl _)
 ·cases e
theorem RDL.atI{H:Hp}{xs:List V}{ds:List D}{i:Int}{d:D}(r:RDL K C H xs ds)(e:L2.atI ds i=some d):∃x,L2.atI xs i=some x/\RD K C H x d:=by
 unfold L2.atI at e ⊢;rw[r.1];obtain⟨j,e1,e⟩:=bind_some e;obtain⟨x,e2,r2⟩:=r.get e
 simp_all
theorem UO:OpS K C (rIx K) fIx:=by
 intro Hs H0 H x y a b c Q i hs ra rb e q;unfold fIx at e;split at e
 ·split at e
  ·obtain⟨z,e1,rfl⟩:=map_some e;rw[RD.strI ra,RD.intI rb];exact Jq0 (by assumption) e1 (q _ _ _ (.refl i) (RD.str _))
  ·cases e
 ·obtain⟨ds,e1,e⟩:=bind_some e;obtain⟨d,e2,rfl⟩:=map_some e;obtain⟨l,xs,rfl,h,r⟩:=ra.q i e1;obtain⟨v,e3,r3⟩:=r.atI e2;rw[RD.intI rb];rcases h with h|h
  ·exact JqZ h e3 (q _ _ _ (.refl i) r3)
  ·exact Jq1 h e3 (q _ _ _ (.refl i) r3)
 ·cases e
end
end LE

namespace LE
open PySem L2 LR

noncomputable def Jag:List Sl->Option (List D)
 | []=>some []
 | s::ss=>s.frz.bind fun d=>(Jag ss).bind fun ds=>some (d::ds)
noncomputable def Vk(as:En->Option (List Sl)):Ev:=fun E=>(as E).bind fun ss=>(Jag ss).bind fun ds=>if ds.length<=100 then some (.sh (.tup ds)) else none
noncomputable def Wf(as:En->Option (List Sl)):Ev:=fun E=>(as E).bind fun ss=>(Jag ss).bind fun ds=>if ds.length<=100 then some (.own ds) else none
section
variable{K:Qw}{C:Qd}{t:TA}{ev:En->Option (List Sl)}{Hs H0 H:Hp}{ta te:TE}{ea:Ev}
theorem RRL.frz{vs:List V}{ss:List Sl}(i:Same H0 H)(r:RRL K C Hs H0 H vs ss):∀{ds:List D},Jag ss=some ds->RDL K C (JT Hs H0 H) vs ds:=by
 induction r with
 | nil=>intro ds e;cases e;exact .nil
 | cons h _ ih=>intro ds e;obtain⟨d,e1,e⟩:=bind_some e;obtain⟨ds',e2,e⟩:=bind_some e;cases e;exact .cons (h.frz i e1) (ih e2)
theorem Vp(ha:SA K C t ev):SE K C (Jrm t) (Vk ev):=by
 intro B H0 H σ E c Q I e q;obtain⟨ss,e1,e⟩:=bind_some e;obtain⟨ds,e2,e⟩:=bind_some e;split at e
 ·next hl =>
  cases e;refine ha B H0 H σ E ss _ I e1 fun vs H1 H1' s1 r1=>?_
  have f:=JI (Hs:=H) s1.i
  have r2:=r1.frz s1.i e2;exact⟨by rw[r2.1];exact Gj hl (by decide),fun p hp=>JeB f.i s1.h hp r2 fun v H2 H2' s2 r2=>q v H2 H2' ((s1.comp f fun _ z=>z).comp s2 fun _ z=>z) r2⟩
 ·cases e
theorem US(ha:SA K C t ev):SE K C (Joo t) (Wf ev):=by
 intro B H0 H σ E c Q I e q;obtain⟨ss,e1,e⟩:=bind_some e;obtain⟨ds,e2,e⟩:=bind_some e;split at e
 ·next hl =>
  cases e;refine ha B H0 H σ E ss _ I e1 fun vs H1 H1' s1 r1=>?_
  have f:=JI (Hs:=H) s1.i
  have r2:=r1.frz s1.i e2;exact⟨by rw[r2.1];exact Gj hl (by decide),fun p hp=>UX f.i s1.h hp r2 fun v H2 H2' s2 r2=>q v H2 H2' ((s1.comp f fun _ z=>z).comp s2 fun _ z=>z) r2⟩
 ·cases e

noncomputable def Sl.pass:Sl->Option Sl
 | .sh d=>some (.sh d)
 | .own ds=>some (.sh (.lst ds))
 | .bo ds=>some (.bo ds)
 | .bd ks ds=>some (.bd ks ds)
 | .od ks ds=>some (.sh (.dct ks ds))
 | .bt _ _=>none
 | .bw a ds=>some (.bw a ds)
 | .ot _ _=>none
 | .dw _ _=>none
 | .no=>none
end
noncomputable def ZQ:List Sl->Option (List Sl)
 | []=>some []
 | s::ss=>s.pass.bind fun d=>(ZQ ss).bind fun ds=>some (d::ds)
noncomputable def spE(K:Qw)(C:Qd)(n:Nat)(f:List Sl->Option Sl):Sp:=fun vs H Q _=>TabK K H/\∃H0 as r,Same H0 H/\RRL K C H H0 H vs as/\as.all (fun s=>!YA s)=true/\as.length=n/\f as=some r ∧
 ∀v H0' H',Step H H0 H H0' H'->RR K C H H0' H' v r->Q v H'
noncomputable def eU(n:Nat)(f:List Sl->Option Sl)(as:En->Option (List Sl)):Ev:=fun E=>(as E).bind fun ss=>(ZQ ss).bind fun bs=>if bs.length=n then f bs else none
section
variable{K:Qw}{C:Qd}{t:TA}{ev:En->Option (List Sl)}{Hs H0 H:Hp}{ta te:TE}{ea:Ev}
theorem RRL.len{vs:List V}{ss:List Sl}(r:RRL K C Hs H0 H vs ss):vs.length=ss.length:=by
 induction r with
 | nil=>rfl
 | cons _ _ ih=>simp[ih]
theorem Joi{n:Nat}{f:List Sl->Option Sl}{vs:List V}{Q:VK}{E:XK}(h:spE K C n f vs H Q E):vs.length=n:=by obtain⟨_,H0,as,r,_,h1,_,h2,_⟩:=h;rw[h1.len];exact h2
theorem RR.pass{v:V}{s s':Sl}(i:Same H0 H)(r:RR K C Hs H0 H v s)(e:s.pass=some s'):RR K C H (JT Hs H0 H) H v s'/\YA s'=false:=by
 have st:Step Hs H0 H (JT Hs H0 H) H:=JI i
 cases s with
 | no=>cases e
 | sh d=>cases e;exact⟨RD.mono st.z r,rfl⟩
 | own ds=>cases e;exact⟨RR.frz (s:=.own ds) i r rfl,rfl⟩
 | bo ds=>cases e;obtain⟨l,xs,h1,h2,h3⟩:=r;exact⟨⟨l,xs,h1,h2,h3.mono st.z⟩,rfl⟩
 | od ks ds=>cases e;exact⟨RR.frz (s:=.od ks ds) i r rfl,rfl⟩
 | ot ks ds=>cases e
 | dw ks ds=>cases e
 | bd ks ds=>cases e;obtain⟨l,xs,h1,h2,hk,h3⟩:=r;exact⟨⟨l,xs,h1,h2,hk,h3.mono st.z⟩,rfl⟩
 | bt ks ds=>cases e
 | bw ks ds=>cases e;obtain⟨l,xs,h1,h2,hk,h3⟩:=r;exact⟨⟨l,xs,h1,h2,hk,h3.mono st.z⟩,rfl⟩
theorem RRL.pass{vs:List V}{ss:List Sl}(i:Same H0 H)(r:RRL K C Hs H0 H vs ss):∀{bs:List Sl},ZQ ss=some bs->RRL K C H (JT Hs H0 H) H vs bs/\bs.all (fun s=>!YA s)=true:=by
 induction r with
 | nil=>intro bs e;cases e;exact⟨.nil,rfl⟩
 | cons h _ ih=>intro bs e;obtain⟨d,e1,e⟩:=bind_some e;obtain⟨ds',e2,e⟩:=bind_some e;cases e;obtain⟨h1,h2⟩:=h.pass i e1;obtain⟨h3,h4⟩:=ih e2;exact⟨.cons h1 h3,by rw[RA,h2,h4];rfl⟩
theorem Jt{n:Nat}{f:List Sl->Option Sl}{X:XK}(ha:SA K C t ev):SE K C (JfX (spE K C n f) [] X t) (eU n f ev):=by
 intro B H0 H σ E c Q I e q;obtain⟨ss,e1,e⟩:=bind_some e;obtain⟨bs,e2,e⟩:=bind_some e;split at e
 ·next hl=>refine Jip (ha B H0 H σ E ss _ I e1 fun vs H1 H1' s1 r1=>?_);obtain⟨h1,h2⟩:=r1.pass s1.i e2;have f:=JI (Hs:=H) s1.i;exact⟨I.t.mono (I.b.trans s1.h),_,bs,c,f.i,h1,h2,hl,e,fun v H2 H2' s2 r2=>q v H2 H2' ((s1.comp f fun _ z=>z).comp s2 fun a z=>Same.free s1.h z) (r2.weak fun a z=>Same.free s1.h z)⟩
 ·cases e

noncomputable def prE(p:Pr):D:=.tup [.int p.1,.int p.2]
noncomputable def Jru:D->Option Pr
 | .tup [.int a,.int b]=>some (a,b)
 | _=>none
noncomputable def Jf9:List D->Option (List Pr)
 | []=>some []
 | d::ds=>(Jru d).bind fun p=>(Jf9 ds).bind fun ps=>some (p::ps)
end
theorem Jdb:∀ps:List Pr,Jf9 (ps.map prE)=some ps
 | []=>rfl
 | p::ps=>by rw[Qi,Jf9,Jdb ps];rfl
theorem JjS{d:D}{p:Pr}(e:Jru d=some p):d=prE p:=by
 unfold Jru at e;split at e
 ·cases e;rfl
 ·cases e
theorem Jch:∀{ds:List D} {ps:List Pr},Jf9 ds=some ps->ds=ps.map prE
 | [],_,e=>by cases e;rfl
 | d::ds,_,e=>by obtain⟨p,e1,e⟩:=bind_some e;obtain⟨ps,e2,e⟩:=bind_some e;cases e;rw[JjS e1,Jch e2];rfl
noncomputable def JaD:List Pr->Bool
 | []=>true
 | [p]=>decide (1<=p.2)
 | p::q::r=>decide (1<=p.2) && decide (p.1+p.2<q.1) && JaD (q::r)
theorem Jbt:∀{ps:List Pr},JaD ps=true->Good ps
 | [],_=>.nil
 | [p],h=>⟨fun i q e=>by
  cases i with
  | zero=>simp at e;subst e;simpa [JaD] using h
  | succ i=>simp at e,fun i q r e1 e2=>by simp at e2⟩
 | p::q::r,h=>by
  simp only[JaD,Q9,decide_eq_true_eq] at h;have g:=Jbt h.2;refine⟨fun i x e=>?_,fun i x y e1 e2=>?_⟩
  ·cases i with
   | zero=>simp at e;subst e;exact h.1.1
   | succ i=>exact g.one i x (by simpa using e)
  ·cases i with
   | zero=>simp at e1 e2;subst e1 e2;exact h.1.2
   | succ i=>exact g.gap i x y (by simpa using e1) (by simpa using e2)
theorem Jbu:∀{ps:List Pr},Good ps->JaD ps=true
 | [],_=>rfl
 | [p],g=>by simpa [JaD] using g.one 0 p rfl
 | p::q::r,g=>by
  have g':Good (q::r):=⟨fun i x e=>g.one (i+1) x (by simpa using e),fun i x y e1 e2=>g.gap (i+1) x y (by simpa using e1) (by simpa using e2)⟩
  simp only[JaD,Q9,decide_eq_true_eq];exact⟨⟨g.one 0 p rfl,g.gap 0 p q rfl rfl⟩,Jbu g'⟩
noncomputable def Jbo:List Sl->Option Sl
 | [s]=>s.q.bind fun ds=>(Jf9 ds).bind fun ps=>if (JaD ps && decide (ps.length<=30))=true then some (.sh (.row ds)) else none
 | _=>none
noncomputable def Wg:Sl->Option Sl
 | .sh (.row ds)=>some (.sh (.tup ds))
 | _=>none
section
variable{K:Qw}{C:Qd}{t:TA}{ev:En->Option (List Sl)}{Hs H0 H:Hp}{ta te:TE}{ea:Ev}
theorem JqI{xs:List V}{ps:List Pr}(r:RDL K C H xs (ps.map prE)):Prs K H xs ps:=by
 refine⟨by rw[r.1];simp,fun i x d h1 h2=>?_⟩;rw[Qt] at h2
 cases e:ps[i]? with
 | none=>rw[e] at h2;cases h2
 | some p=>rw[e] at h2;cases h2;have h:=r.2 i x (prE p) h1 (by simp_all);exact RD.rep h rfl
theorem Jqn{xs:List V}{ps:List Pr}(i:Same H0 H)(r:Prs K H xs ps):RDL K C (JT Hs H0 H) xs (ps.map prE):=by refine⟨by rw[r.len];simp,fun j x d h1 h2=>?_⟩;obtain⟨p,a,e1,e2,e3⟩:=r.at h1;rw[Qt,e1] at h2;cases h2;subst e2;exact .mkT (JhX i e3) (.cons (.int _) (.cons (.int _) .nil))
theorem Jc5{X:XK}(ha:SA K C t ev):SE K C (JfZ C (V4 C K) [] X t) (eF Jbo ev):=by
 intro B H0 H σ E c Q I e q;obtain⟨ss,e1,e⟩:=bind_some e;refine LR.Jir (ha B H0 H σ E ss _ I e1 fun vs H1 H1' s1 r1=>?_);unfold Jbo at e;split at e
 ·next s =>
  cases r1 with
  | cons r1 r1' =>
   cases r1';obtain⟨ds,e2,e⟩:=bind_some e;obtain⟨ps,e3,e⟩:=bind_some e;split at e
   ·next hg =>
    cases e;simp only[Q9,decide_eq_true_eq] at hg;have e4:=Jch e3;subst e4;obtain⟨l,xs,rfl,hq,r⟩:=r1.q s1.i e2;refine Jq3 ⟨l,xs,rfl,hq,JqI (r.mono s1.i)⟩ (Jbt hg.1) hg.2 fun x H2 nx s2 R=>?_
    obtain⟨x',dx,t',ts,ex,hx,ht,hp⟩:=R;cases ex;have i2:Same H1 H2:=s1.i.trans s2;have f:=JI (Hs:=H) i2;refine q _ (JT H H1 H2) H2 ⟨s1.h.trans s2,s1.z.trans f.z,fun a o e=>(f.n a o e).elim (fun z=>s1.n a o z) .inr,f.i⟩ ?_;have ts':=Jqn (Hs:=H) (C:=C) i2 hp;exact .row (JdG i2 (Same.free s1.h nx) hx) (JhX i2 (.of ht)) ts'.1 ts'.2
   ·cases e
 ·cases e
theorem VM{K:Qw}{C:Qd}{ta:TE}{ea:Ev}(T:RowC K C)(ha:SE K C ta ea):SE K C (Jol K ta "stretches") (e1 Wg ea):=by
 intro B H0 H σ E c Q I e q;obtain⟨a,e1,e⟩:=bind_some e;refine ha B H0 H σ E a _ I e1 fun x H1 H1' s1 r1=>?_
 unfold Wg at e;split at e
 ·cases e;obtain⟨x',dx,t',ts,rfl,hx,ht,hp⟩:=RD.rowI r1;exact⟨x',C,dx,_,_,rfl,s1.i _ _ hx,T.cl,T.ns,JjJ t',q _ _ _ s1 (RD.mkT ht hp)⟩
 ·cases e

noncomputable def ints?:List D->Option (List Int)
 | []=>some []
 | .int i::ds=>(ints? ds).map (i::·)
 | _::_=>none
noncomputable def bls?:List D->Option (List Bool)
 | []=>some []
 | .bl i::ds=>(bls? ds).map (i::·)
 | _::_=>none
noncomputable def strs?:List D->Option (List Str)
 | []=>some []
 | .str i::ds=>(strs? ds).map (i::·)
 | _::_=>none
end
theorem Jbz:∀ns:List Int,ints? (ns.map .int)=some ns
 | []=>rfl
 | n::ns=>by rw[Qi,ints?,Jbz ns];rfl
theorem Jdl:∀ns:List Bool,bls? (ns.map .bl)=some ns
 | []=>rfl
 | n::ns=>by rw[Qi,bls?,Jdl ns];rfl
theorem JfW:∀ns:List Str,strs? (ns.map .str)=some ns
 | []=>rfl
 | n::ns=>by rw[Qi,strs?,JfW ns];rfl
theorem U4:∀{ds:List D} {ns:List Int},ints? ds=some ns->ds=ns.map .int
 | [],_,e=>by cases e;rfl
 | .int i::ds,_,e=>by obtain⟨ns,e1,e2⟩:=map_some (show(ints? ds).map (i::·)=_ from e);rw[<- e2,U4 e1];rfl
 | .non::_,_,e|.bl _::_,_,e|.str _::_,_,e|.tup _::_,_,e|.lst _::_,_,e|.fz _::_,_,e|.row _::_,_,e=>by cases e
theorem Jbi:∀{ds:List D} {ns:List Bool},bls? ds=some ns->ds=ns.map .bl
 | [],_,e=>by cases e;rfl
 | .bl i::ds,_,e=>by obtain⟨ns,e1,e2⟩:=map_some (show(bls? ds).map (i::·)=_ from e);rw[<- e2,Jbi e1];rfl
 | .non::_,_,e|.int _::_,_,e|.str _::_,_,e|.tup _::_,_,e|.lst _::_,_,e|.fz _::_,_,e|.row _::_,_,e=>by cases e
theorem Jc9:∀{ds:List D} {ns:List Str},strs? ds=some ns->ds=ns.map .str
 | [],_,e=>by cases e;rfl
 | .str i::ds,_,e=>by obtain⟨ns,e1,e2⟩:=map_some (show(strs? ds).map (i::·)=_ from e);rw[<- e2,Jc9 e1];rfl
 | .non::_,_,e|.int _::_,_,e|.bl _::_,_,e|.tup _::_,_,e|.lst _::_,_,e|.fz _::_,_,e|.row _::_,_,e=>by cases e
noncomputable def Vs:List Sl->Option Sl
 | [.sh (.str x)]=>if x.length<=Qq then some (.sh (.int x.length)) else none
 | [s]=>s.q.map fun ds=>.sh (.int ds.length)
 | _=>none
noncomputable def JhT:List Sl->Option Sl
 | [s]=>s.q.map fun ds=>.own ds
 | _=>none
noncomputable def Jbp:List Sl->Option Sl
 | [s]=>s.q.bind fun ds=>(ints? ds).map fun ns=>.sh (.int ns.sum)
 | _=>none
noncomputable def JmI:List Sl->Option Sl
 | [s]=>s.q.bind fun ds=>(bls? ds).map fun ns=>.sh (.bl (ns.any id))
 | _=>none
noncomputable def Jko:List Sl->Option Sl
 | [s]=>s.q.bind fun ds=>(bls? ds).map fun ns=>.sh (.bl (ns.all id))
 | _=>none
noncomputable def JmN:List Sl->Option Sl
 | [.sh (.int a),.sh (.int b)]=>some (.sh (.int (max a b)))
 | _=>none
noncomputable def Jae:List Sl->Option Sl
 | [.sh (.int a),.sh (.int b)]=>some (.sh (.int (min a b)))
 | _=>none
section
variable{K:Qw}{C:Qd}{Hs H0 H:Hp}
theorem RRL.one{vs:List V}{s:Sl}(r:RRL K C Hs H0 H vs [s]):∃v,vs=[v]/\RR K C Hs H0 H v s:=by
 cases r with
 | cons h t=>cases t;exact⟨_,rfl,h⟩
theorem RRL.two{vs:List V}{s t:Sl}(r:RRL K C Hs H0 H vs [s,t]):∃v w,vs=[v,w]/\RR K C Hs H0 H v s/\RR K C Hs H0 H w t:=by
 cases r with
 | cons h r=>cases r with
  | cons h' r=>cases r;exact⟨_,_,rfl,h,h'⟩
theorem VD:V7 K C (Jg2 K) Vs:=by
 intro Hs H0 H xs as c Q i hs r e q;unfold Vs at e;split at e
 ·split at e
  ·cases e;obtain⟨v,rfl,r0⟩:=r.one;rw[RD.strI r0];exact JnX (by assumption) (q _ _ _ (.refl i) (RD.int _))
  ·cases e
 ·obtain⟨v,rfl,r0⟩:=r.one;obtain⟨ds,e1,rfl⟩:=map_some e;obtain⟨l,xs,rfl,h,r1⟩:=r0.q i e1;have z:=q (.int ds.length) _ _ (.refl i) (RD.int _);rw[<- r1.1] at z;exact JfK h z
 ·cases e
theorem Jpm:V7 K C (Jeg K) JhT:=by
 intro Hs H0 H xs as c Q i hs r e q;unfold JhT at e;split at e
 ·obtain⟨v,rfl,r0⟩:=r.one;obtain⟨ds,e1,rfl⟩:=map_some e;obtain⟨l,ys,rfl,h,r1⟩:=r0.q i e1;exact⟨l,ys,rfl,h,fun p hp=>UX i hs hp r1 q⟩
 ·cases e
theorem JaA:V7 K C (JqV K) Jbp:=by
 intro Hs H0 H xs as c Q i hs r e q;unfold Jbp at e;split at e
 ·obtain⟨v,rfl,r0⟩:=r.one;obtain⟨ds,e1,e⟩:=bind_some e;obtain⟨ns,e2,rfl⟩:=map_some e;obtain⟨l,ys,rfl,h,r1⟩:=r0.q i e1;rw[U4 e2] at r1;have:=r1.ints;subst this;exact⟨l,ns,rfl,h,q _ _ _ (.refl i) (RD.int _)⟩
 ·cases e
theorem JrM:V7 K C (JqN K) JmI:=by
 intro Hs H0 H xs as c Q i hs r e q;unfold JmI at e;split at e
 ·obtain⟨v,rfl,r0⟩:=r.one;obtain⟨ds,e1,e⟩:=bind_some e;obtain⟨ns,e2,rfl⟩:=map_some e;obtain⟨l,ys,rfl,h,r1⟩:=r0.q i e1;rw[Jbi e2] at r1;have:=r1.bls;subst this;exact⟨l,ns,rfl,h,q _ _ _ (.refl i) (RD.bl _)⟩
 ·cases e
theorem JrL:V7 K C (JqM K) Jko:=by
 intro Hs H0 H xs as c Q i hs r e q;unfold Jko at e;split at e
 ·obtain⟨v,rfl,r0⟩:=r.one;obtain⟨ds,e1,e⟩:=bind_some e;obtain⟨ns,e2,rfl⟩:=map_some e;obtain⟨l,ys,rfl,h,r1⟩:=r0.q i e1;rw[Jbi e2] at r1;have:=r1.bls;subst this;exact⟨l,ns,rfl,h,q _ _ _ (.refl i) (RD.bl _)⟩
 ·cases e
theorem JrN:V7 K C JqP JmN:=by
 intro Hs H0 H xs as c Q i hs r e q;unfold JmN at e;split at e
 ·cases e;obtain⟨v,w,rfl,r1,r2⟩:=r.two;rw[RD.intI r1,RD.intI r2];exact JlC (q _ _ _ (.refl i) (RD.int _))
 ·cases e
theorem JcG:V7 K C JqQ Jae:=by
 intro Hs H0 H xs as c Q i hs r e q;unfold Jae at e;split at e
 ·cases e;obtain⟨v,w,rfl,r1,r2⟩:=r.two;rw[RD.intI r1,RD.intI r2];exact JlD (q _ _ _ (.refl i) (RD.int _))
 ·cases e
end

noncomputable def Jrr:Sl->Option Bool
 | .sh .non=>some false
 | .sh (.bl b)=>some b
 | .sh (.int i)=>some (i != 0)
 | .sh (.str y)=>if y.length<=Qq then some ((y.length:Int) != 0) else none
 | s=>s.q.map fun ds=>!ds.isEmpty
noncomputable def tTru?(a:Ev):En->Option Bool:=fun E=>(a E).bind Jrr
section
variable{K:Qw}{C:Qd}{Hs H0 H:Hp}{te:TE}{ea:Ev}
theorem RDL.empty{xs:List V}{ds:List D}(r:RDL K C H xs ds):xs.isEmpty=ds.isEmpty:=by cases xs <;> cases ds <;> first|rfl|(have:=r.1;simp at this)
theorem JaN(ha:SE K C te ea):ST K C (Jor K te) (tTru? ea):=by
 intro B H0 H σ E k Q I e q;obtain⟨a,e1,e⟩:=bind_some e;refine ha B H0 H σ E a _ I e1 fun x H1 H1' s1 r1=>?_
 have seq:∀{a:Sl},RR K C H H1 H1' x a->a.q.map (fun ds=>!ds.isEmpty)=some k->∃k',Jmm K x H1' k'/\Q k' H1':=fun {a} r1 e=>by
  obtain⟨ds,e2,rfl⟩:=map_some e;obtain⟨l,xs,rfl,h,r⟩:=r1.q s1.i e2;have z:=q _ _ s1;rw[<- r.empty] at z;rcases h with h|h
  ·exact⟨_,.inl ⟨xs,h,rfl⟩,z⟩
  ·exact⟨_,.inr (.inl ⟨xs,h,rfl⟩),z⟩
 unfold Jrr at e;split at e
 ·cases e;rw[RD.nonI r1];exact⟨_,rfl,q _ _ s1⟩
 ·cases e;rw[RD.blI r1];exact⟨_,rfl,q _ _ s1⟩
 ·cases e;rw[RD.intI r1];exact⟨_,rfl,q _ _ s1⟩
 ·split at e
  ·cases e;rw[RD.strI r1];exact⟨_,⟨by assumption,rfl⟩,q _ _ s1⟩
  ·cases e
 ·exact seq r1 e
end
end LE

namespace LE
open PySem L2 LR

mutual
inductive Pt where
 | nm (i:Nat)
 | tp (l:Pts)
inductive Pts where
 | nil
 | cons (p:Pt) (l:Pts)
end
mutual
noncomputable def Pt.bind:Pt->D->En->Option En
 | .nm i,d,E=>if i<E.length then some (E.set i (.sh d)) else none
 | .tp l,.tup ds,E=>l.bind ds E
 | .tp _,_,_=>none
noncomputable def Pts.bind:Pts->List D->En->Option En
 | .nil,[],E=>some E
 | .cons p l,d::ds,E=>(p.bind d E).bind fun E'=>l.bind ds E'
 | _,_,_=>none
end
mutual
noncomputable def Pt.slots:Pt->List Nat
 | .nm i=>[i]
 | .tp l=>l.slots
noncomputable def Pts.slots:Pts->List Nat
 | .nil=>[]
 | .cons p l=>p.slots++l.slots
end
mutual
theorem Pt.keep:∀{p:Pt} {d:D} {E E':En},p.bind d E=some E'->E'.length=E.length/\∀i,i∉p.slots->E'[i]?=E[i]?
 | .nm i,d,E,E',e=>by
  unfold Pt.bind at e;split at e
  ·cases e;refine⟨by simp,fun j hj=>?_⟩;rw[QU,if_neg];intro z;exact hj (by simp[Pt.slots,z])
  ·cases e
 | .tp l,d,E,E',e=>by
  cases d with
  | tup ds=>exact Pts.keep (p:=l) (ds:=ds) (by simpa [Pt.bind] using e)
  | _=>simp[Pt.bind] at e
theorem Pts.keep:∀{p:Pts} {ds:List D} {E E':En},p.bind ds E=some E'->E'.length=E.length/\∀i,i∉p.slots->E'[i]?=E[i]?
 | .nil,[],E,E',e=>by simp[Pts.bind] at e;simp_all
 | .nil,_::_,_,_,e=>by simp[Pts.bind] at e
 | .cons _ _,[],_,_,e=>by simp[Pts.bind] at e
 | .cons p l,d::ds,E,E',e=>by rw[Pts.bind] at e;obtain⟨E1,e1,e2⟩:=bind_some e;obtain⟨h1,h2⟩:=Pt.keep e1;obtain⟨h3,h4⟩:=Pts.keep e2;refine⟨h3.trans h1,fun i hi=>?_⟩;simp[Pts.slots] at hi;rw[h4 i hi.2,h2 i hi.1]
end
section
variable(K:Qw)(C:Qd)
noncomputable def SG(g:TG)(p:Pt):Prop:=∀(B H0 H:Hp) (σ:St) (E E':En) (x:V) (d:D) (Q:St->Hp->Prop),EnvR K C B H0 H σ E->RD K C H0 x d->p.bind d E=some E'->(∀σ',EnvR K C B H0 H σ' E'->Q σ' H)->g x σ H Q
noncomputable def SGs(g:TGs)(p:Pts):Prop:=∀(B H0 H:Hp) (σ:St) (E E':En) (xs:List V) (ds:List D) (Q:St->Hp->Prop),EnvR K C B H0 H σ E->RDL K C H0 xs ds->p.bind ds E=some E'->(∀σ',EnvR K C B H0 H σ' E'->Q σ' H)->g xs σ H Q
end
section
variable{K:Qw}{C:Qd}
theorem EnvR.setSh{B H0 H:Hp}{σ:St}{E:En}{i:Nat}{v:V}{d:D}(I:EnvR K C B H0 H σ E)(hi:i<E.length)(r:RD K C H0 v d):EnvR K C B H0 H (σ.set i (some v)) (E.set i (.sh d)) :=
 I.put' (s:=.sh d) (.refl I.h) hi r rfl
theorem JZ(i:Nat):SG K C (V8 i) (.nm i):=by
 intro B H0 H σ E E' x d Q I r e q;rw[Pt.bind] at e;split at e
 ·cases e;exact q _ (I.setSh (by assumption) r)
 ·cases e
theorem YU:SGs K C JmY .nil:=by
 intro B H0 H σ E E' xs ds Q I r e q
 cases ds with
 | nil =>
  cases xs with
  | nil=>rw[Pts.bind] at e;cases e;exact⟨rfl,q σ I⟩
  | cons _ _=>have:=r.1;simp at this
 | cons _ _=>simp[Pts.bind] at e
theorem JC{g:TG}{gs:TGs}{p:Pt}{ps:Pts}(h:SG K C g p)(hs:SGs K C gs ps):SGs K C (JhZ g gs) (.cons p ps):=by
 intro B H0 H σ E E' xs ds Q I r e q
 cases ds with
 | nil=>simp[Pts.bind] at e
 | cons d ds =>
  cases xs with
  | nil=>have:=r.1;simp at this
  | cons x xs=>rw[Pts.bind] at e;obtain⟨E1,e1,e2⟩:=bind_some e;exact⟨x,xs,rfl,h B H0 H σ E E1 x d _ I r.head e1 fun σ1 I1=>hs B H0 H σ1 E1 E' xs ds Q I1 r.tail e2 q⟩
theorem Js3{n:Nat}{gs:TGs}{ps:Pts}(hn:∀(ds:List D) (E E':En),ps.bind ds E=some E'->ds.length=n)(hs:SGs K C gs ps):SG K C (Jja K n gs) (.tp ps):=by
 intro B H0 H σ E E' x d Q I r e q
 cases d with
 | tup ds=>rw[Pt.bind] at e;obtain⟨a,xs,rfl,h,r⟩:=RD.tupI r;exact⟨a,xs,rfl,I.h.seqT h,by rw[r.1];exact hn ds E E' e,hs B H0 H σ E E' xs ds Q I r e q⟩
 | _=>simp[Pt.bind] at e
noncomputable def Pts.len:Pts->Nat
 | .nil=>0
 | .cons _ l=>l.len+1
theorem Pts.bind_len:∀{ps:Pts} {ds:List D} {E E':En},ps.bind ds E=some E'->ds.length=ps.len
 | .nil,[],_,_,_=>rfl
 | .nil,_::_,_,_,e=>by simp[Pts.bind] at e
 | .cons _ _,[],_,_,e=>by simp[Pts.bind] at e
 | .cons p l,d::ds,E,E',e=>by rw[Pts.bind] at e;obtain⟨E1,e1,e2⟩:=bind_some e;rw[Qr,Pts.bind_len e2];rfl
theorem YV{n:Nat}{gs:TGs}{ps:Pts}(hs:SGs K C gs ps)(hn:ps.len=n):SG K C (Jja K n gs) (.tp ps):=Js3 (fun _ _ _ e=>(Pts.bind_len e).trans hn) hs
end

section
variable(K:Qw)(C:Qd)
noncomputable def JjX(A:Hp)(J:It)(ds:List D)(H0:Hp):Prop:=∀H0' H',SStep A H0 H0' H'->(∀(i:Nat) (d:D),ds[i]?=some d->J.go i H'/\∀x H2,J.yld i H' x H2->∃H02,Step H' H0' H' H02 H2/\RD K C H02 x d)/\J.stop ds.length H'
noncomputable def SI(m:Bool)(wi:TI)(ev:En->Option (List D)):Prop:=∀(B H0 H:Hp) (σ:St) (E:En) (ds:List D) (R:It->Hp->Prop),EnvR K C B H0 H σ E->ev E=some ds ->
 (∀J H0' H',Step H H0 H H0' H'->JjX K C (if m=true then H' else B) J ds H0'->R J H')->wi σ H R
end
noncomputable def Sl.it(m:Bool):Sl->Option (List D)
 | .bo ds=>if m=true then some ds else none
 | s=>s.q
noncomputable def iE(m:Bool)(a:Ev):En->Option (List D):=fun E=>(a E).bind (Sl.it m)
noncomputable def iV(i:Nat):En->Option (List D):=fun E=>match E[i]? with
 | some (.bo ds)=>some ds
 | some (.sh d)=>(Sl.sh d).q
 | _=>none
noncomputable def rng(lo:Int)(n:Nat):List D:=(Kj n).map fun(i:Nat)=>.int (lo+(i:Int))
noncomputable def JgE(a:Int):Bool:=RO a.natAbs 4611686018427387903
noncomputable def iR1(as:En->Option (List Sl)):En->Option (List D):=fun E=>(as E).bind fun ss=>match ss with
 | [.sh (.int n)]=>if JgE n=true then some (rng 0 n.toNat) else none
 | _=>none
section
variable{K:Qw}{C:Qd}{te:TE}{ea:Ev}{m:Bool}
theorem ZG{A H0:Hp}{a:Qd}{xs:List V}{ds:List D}(hd:∀H0' H',SStep A H0 H0' H'->SqL K H' a xs)(r:RDL K C H0 xs ds):JjX K C A (Itl K a) ds H0:=by intro H0' H' st;have hq:=hd H0' H' st;refine⟨fun i d e=>?_,⟨xs,hq,by rw[r.1];exact Qo _⟩⟩;obtain⟨x,e1,r1⟩:=r.get e;refine⟨⟨xs,x,hq,e1⟩,fun y H2 ⟨e2,e3⟩=>?_⟩;subst e2;have:=e3 xs hq;rw[e1] at this;cases this;exact⟨H0',.refl st.i,r1.mono st.z⟩
theorem JpT{A H0:Hp}{a:Qd}{xs:List V}{ds:List D}(hd:∀H0' H',SStep A H0 H0' H'->SqT K H' a xs)(r:RDL K C H0 xs ds):JjX K C A (Itt K a) ds H0:=by intro H0' H' st;have hq:=hd H0' H' st;refine⟨fun i d e=>?_,⟨xs,hq,by rw[r.1];exact Qo _⟩⟩;obtain⟨x,e1,r1⟩:=r.get e;refine⟨⟨xs,x,hq,e1⟩,fun y H2 ⟨e2,e3⟩=>?_⟩;subst e2;have:=e3 xs hq;rw[e1] at this;cases this;exact⟨H0',.refl st.i,r1.mono st.z⟩
theorem Zb(ha:SE K C te ea):SI K C m (JgD K te) (iE m ea):=by
 intro B H0 H σ E ds R I e q;obtain⟨s,e1,e⟩:=bind_some e
 cases s with
 | no=>cases e
 | bd _ _=>cases e
 | bt _ _=>cases e
 | bw _ _=>cases e
 | od _ _=>cases e
 | ot _ _=>cases e
 | dw _ _=>cases e
 | bo es =>
  unfold Sl.it at e;dsimp only at e;split at e
  ·next hm=>cases e;refine .inl (ha B H0 H σ E _ _ I e1 fun x H1 H1' s1 r1=>?_);obtain⟨l,xs,rfl,h,r⟩:=r1;refine⟨l,rfl,⟨xs,.of h⟩,q _ _ _ s1 ?_⟩;rw[if_pos hm];exact ZG (fun H0' H' st=>.of (st.b _ _ h)) r
  ·cases e
 | own es=>cases (show some es=some ds from e);refine .inl (ha B H0 H σ E _ _ I e1 fun x H1 H1' s1 r1=>?_);have f:=JI (Hs:=H) s1.i;have r2:=RR.frz s1.i r1 rfl;obtain⟨l,xs,rfl,h,r⟩:=RD.lstI r2;exact⟨l,rfl,⟨xs,.of (f.i _ _ h)⟩,q _ _ _ (s1.comp f fun _ z=>z) (ZG (fun H0' H' st=>.of (st.i _ _ (st.z _ _ h))) r)⟩
 | sh d =>
  cases d with
  | lst es=>cases (show some es=some ds from e);refine .inl (ha B H0 H σ E _ _ I e1 fun x H1 H1' s1 r1=>?_);obtain⟨l,xs,rfl,h,r⟩:=RD.lstI r1;exact⟨l,rfl,⟨xs,.of (s1.i _ _ h)⟩,q _ _ _ s1 (ZG (fun H0' H' st=>.of (st.i _ _ (st.z _ _ h))) r)⟩
  | fz es=>cases (show some es=some ds from e);refine .inl (ha B H0 H σ E _ _ I e1 fun x H1 H1' s1 r1=>?_);obtain⟨l,xs,rfl,h,r⟩:=RD.fzI r1;exact⟨l,rfl,⟨xs,s1.i.seq h⟩,q _ _ _ s1 (ZG (fun H0' H' st=>(st.z.trans st.i).seq h) r)⟩
  | tup es=>cases (show some es=some ds from e);refine .inr (ha B H0 H σ E _ _ I e1 fun x H1 H1' s1 r1=>?_);obtain⟨l,xs,rfl,h,r⟩:=RD.tupI r1;exact⟨l,rfl,⟨xs,s1.i.seqT h⟩,q _ _ _ s1 (JpT (fun H0' H' st=>(st.z.trans st.i).seqT h) r)⟩
  | _=>cases (show none=some ds from e)
theorem Jn7(i:Nat):SI K C false (JgD K (Wi i)) (iV i):=by
 intro B H0 H σ E ds R I e q;unfold iV at e;split at e
 ·next es h =>
  cases e;rcases I.at' i _ h with z|⟨v,h1,h2⟩
  ·cases z
  ·obtain⟨l,xs,rfl,hl,r⟩:=h2;refine .inl ⟨_,h1,l,rfl,⟨xs,.of (I.b _ _ hl)⟩,q _ _ _ (.refl I.h) (ZG (fun H0' H' st=>.of (st.b _ _ hl)) r)⟩
 ·next d h=>refine Zb (m:=false) (ea:=Jd i) (Jc i) B H0 H σ E ds R I ?_ q;show(Jd i E).bind _=_;unfold Jd;rw[h];exact e
 ·cases e
theorem Jn3{lo:Int}{n i:Nat}{d:D}(e:(rng lo n)[i]?=some d):i<n/\d=.int (lo+(i:Int)):=by
 unfold rng at e;rw[Qt] at e
 cases h:(Kj n)[i]? with
 | none=>rw[h] at e;cases e
 | some j=>rw[h] at e;cases e;obtain⟨h1,h2⟩:=Qn.mp h;simp at h1 h2;subst h2;exact⟨h1,rfl⟩
theorem JpS{A H0:Hp}{lo:Int}{n:Nat}:JjX K C A (Itr lo n) (rng lo n) H0:=by intro H0' H' st;refine⟨fun i d e=>?_,by show n<=_;simp[rng]⟩;obtain⟨h1,rfl⟩:=Jn3 e;refine⟨h1,fun x H2 ⟨e1,e2⟩=>?_⟩;subst e1 e2;exact⟨H0',.refl st.i,.int _⟩
theorem JdQ{a:Int}(h:JgE a=true):-(2 ^ 62)<=a/\a<2 ^ 62:=by unfold JgE at h;rw[KN] at h;omega
theorem JoT{t:TA}{ev:En->Option (List Sl)}(ha:SA K C t ev):SI K C m (JoL t) (iR1 ev):=by
 intro B H0 H σ E ds R I e q;obtain⟨ss,e1,e⟩:=bind_some e;split at e
 ·split at e
  ·next hn =>
   cases e;refine ha B H0 H σ E _ _ I e1 fun vs H1 H1' s1 r1=>?_
   obtain⟨v,rfl,r⟩:=r1.one;rw[RD.intI r];exact⟨_,rfl,(JdQ hn).1,(JdQ hn).2,q _ _ _ s1 JpS⟩
  ·cases e
 ·cases e
end

noncomputable def yes?:En->Option Bool:=fun _=>some true
noncomputable def ZE(imp:List (Option Nat))(E:En):En:=imp.map fun o=>match o with
 | none=>.no
 | some k=>match E[k]? with
  | some (.own ds)=>.bo ds
  | some (.od ks ds)=>.bd ks ds
  | some (.ot ks ds)=>.bt ks ds
  | some (.dw ks ds)=>.bw ks ds
  | some s=>s
  | none=>.no
noncomputable def VE(p:Pt)(c:En->Option Bool)(a:Ev)(E1:En):List D->Option (List D)
 | []=>some []
 | d::ds=>(p.bind d E1).bind fun E2=>(c E2).bind fun k=>if k=true then(a E2).bind fun s=>s.frz.bind fun y=>(VE p c a E1 ds).bind fun ys=>some (y::ys) else VE p c a E1 ds
noncomputable def Ud(it:En->Option (List D))(p:Pt)(c:En->Option Bool)(a:Ev)(imp:List (Option Nat)):Ev:=fun E=>(it E).bind fun ds=>if ds.length<=Qq then(VE p c a (ZE imp E) ds).map .own else none
section
variable{K:Qw}{C:Qd}
theorem UT:ST K C Jrn yes?:=fun _ _ _ _ _ _ _ I e q=>by cases e;exact q _ _ (.refl I.h)
theorem JmC{B H0 H:Hp}{σ:St}{E:En}{imp:List (Option Nat)}(I:EnvR K C B H0 H σ E):EnvR K C H H0 H (Jbw imp σ) (ZE imp E):=by
 have get:∀(i:Nat) (s:Sl),(ZE imp E)[i]?=some s->s=.no\/∃v,(Jbw imp σ)[i]?=some (some v)/\RSl K C H H0 H v s/\YA s=false:=fun i s e=>by
  unfold ZE at e;unfold Jbw;rw[Qt] at e ⊢
  cases h:imp[i]? with
  | none=>rw[h] at e;cases e
  | some o =>
   rw[h] at e
   cases o with
   | none=>cases e;exact .inl rfl
   | some k =>
    have e':(match E[k]? with|some (.own ds)=>Sl.bo ds|some (.od ks ds)=>Sl.bd ks ds|some (.ot ks ds)=>Sl.bt ks ds|some (.dw ks ds)=>Sl.bw ks ds|some s=>s|none=>.no)=s:=QV e
    cases hE:E[k]? with
    | none=>rw[hE] at e';exact .inl e'.symm
    | some s' =>
     rw[hE] at e';rcases I.at' k s' hE with z|⟨v,h1,h2⟩
     ·subst z;exact .inl e'.symm
     ·have g:(σ[k]?).join=some v:=by rw[h1];rfl
      cases s' with
      | no=>exact .inl e'.symm
      | sh d=>dsimp only at e';subst e';exact .inr ⟨v,by simp_all,h2,rfl⟩
      | bo ds=>dsimp only at e';subst e';obtain⟨l,xs,q1,q2,q3⟩:=h2;exact .inr ⟨v,by simp_all,⟨l,xs,q1,I.b _ _ q2,q3⟩,rfl⟩
      | own ds=>dsimp only at e';subst e';obtain⟨l,xs,q1,q2,_,_,q3⟩:=h2;exact .inr ⟨v,by simp_all,⟨l,xs,q1,q2,q3⟩,rfl⟩
      | bd ks ds=>dsimp only at e';subst e';obtain⟨l,xs,q1,q2,q3⟩:=h2;exact .inr ⟨v,by simp_all,⟨l,xs,q1,I.b _ _ q2,q3⟩,rfl⟩
      | bt ks ds=>dsimp only at e';subst e';obtain⟨l,xs,q1,q2,q3⟩:=h2;exact .inr ⟨v,by simp_all,⟨l,xs,q1,I.b _ _ q2,q3⟩,rfl⟩
      | bw ks ds=>dsimp only at e';subst e';obtain⟨l,xs,q1,q2,q3⟩:=h2;exact .inr ⟨v,by simp_all,⟨l,xs,q1,I.b _ _ q2,q3⟩,rfl⟩
      | od ks ds=>dsimp only at e';subst e';obtain⟨l,xs,q1,q2,_,_,q3⟩:=h2;exact .inr ⟨v,by simp_all,⟨l,xs,q1,q2,q3⟩,rfl⟩
      | ot ks ds=>dsimp only at e';subst e';obtain⟨l,xs,q1,q2,_,_,q3⟩:=h2;exact .inr ⟨v,by simp_all,⟨l,xs,q1,q2,q3⟩,rfl⟩
      | dw ks ds=>dsimp only at e';subst e';obtain⟨l,xs,q1,q2,_,_,q3⟩:=h2;exact .inr ⟨v,by simp_all,⟨l,xs,q1,q2,q3⟩,rfl⟩
 refine⟨Same.refl _,I.h,by simp[Jbw,ZE],fun i s e=>?_,fun i j s t v hij e1 e2 o1 o2=>?_,I.t.mono I.b⟩
 ·rcases get i s e with z|⟨v,h1,h2,_⟩
  ·exact .inl z
  ·exact .inr ⟨v,h1,h2⟩
 ·rcases get i _ e1 with z|⟨v,h1,h2,h3⟩
  ·subst z;cases o1
  simp_all
theorem YX{wi:TI}{g:TG}{tt:TT}{te:TE}{imp:List (Option Nat)}{it:En->Option (List D)}{p:Pt}{c:En->Option Bool}{a:Ev}(hi:SI K C true wi it)(hg:SG K C g p)(hc:ST K C tt c)(ha:SE K C te a)
 (hp:(p.slots.all fun i=>match imp[i]? with|some none=>true|_=>false)=true):SE K C (JiD wi g tt te imp) (Ud it p c a imp):=by
 intro B H0 H σ E r Q I e q;obtain⟨ds,e1,e⟩:=bind_some e;split at e
 ·next hl =>
  obtain⟨es,e2,rfl⟩:=map_some e;refine hi B H0 H σ E ds _ I e1 fun J H1 H1' s1 ok=>?_
  rw[if_pos rfl] at ok;have I1:EnvR K C H1' H1 H1' (Jbw imp σ) (ZE imp E):=JmC (I.step s1)
  -- the loop: what was gathered,what comes
  refine⟨fun i m ys σ' H'=>m=ds.length-i/\i<=ds.length/\∃H0' gs rs,EnvR K C H1' H0' H' σ' (ZE imp E)/\Step H1' H1 H1' H0' H'/\RDL K C H0' ys gs/\VE p c a (ZE imp E) (ds.drop i)=some rs/\es=gs++rs/\gs.length<=i,
   ⟨ds.length,by simp,GS _,H1,[],es,I1,.refl s1.i,.nil,e2,rfl,Qo _⟩,?_⟩
  rintro i m ys σ' H' ⟨rfl,hi',H0',gs,rs,I',st,rys,er,ees,hgl⟩;have stop:=ok H0' H' ⟨st.h,st.z,st.n,st.i⟩
  by_cases hlt:i<ds.length
  ·have hd:ds[i]?=some ds[i]:=by simp[hlt]
   obtain⟨go,yl⟩:=stop.1 i _ hd;refine .inr ⟨go,by rw[rys.1];omega,fun ys' σ2 H2=>∃H02 gs rs,EnvR K C H1' H02 H2 σ2 (ZE imp E)/\Step H1' H1 H1' H02 H2/\RDL K C H02 ys' gs/\VE p c a (ZE imp E) (ds.drop (i+1))=some rs/\es=gs++rs/\gs.length<=i+1,
    fun ys' σ2 H2 h=>⟨ds.length-(i+1),by omega,rfl,hlt,h⟩,fun x H2 y=>?_⟩
   obtain⟨H02,st2,rx⟩:=yl x H2 y;rw[Kq hlt,VE] at er;obtain⟨E2,b1,er⟩:=bind_some er;obtain⟨k,b2,er⟩:=bind_some er;refine hg H1' H02 H2 σ' (ZE imp E) E2 x _ _ (I'.step st2) rx b1 fun σ2 I2=>?_
   have back:∀{H03 H3:Hp},EnvR K C H1' H03 H3 σ2 E2->EnvR K C H1' H03 H3 σ2 (ZE imp E):=fun {H03 H3} J=>by
    obtain⟨k1,k2⟩:=Pt.keep b1;refine J.sub k1.symm fun j s ej=>?_
    by_cases hj:j∈p.slots
    ·have:=GH.mp hp j hj
     have ej':=ej;unfold ZE at ej';rw[Qt] at ej'
     cases hm:imp[j]? with
     | none=>rw[hm] at this;cases this
     | some o =>
      rw[hm] at this ej'
      cases o with
      | none=>cases ej';exact .inl rfl
      | some _=>cases this
    simp_all
   refine hc H1' H02 H2 σ2 E2 k _ I2 b2 fun H03 H3 st3=>?_
   have st13:Step H1' H1 H1' H03 H3:=(st.trans st2).trans st3
   cases k with
   | false=>rw[if_neg (by simp)];rw[if_neg (by simp)] at er;exact⟨H03,gs,rs,back (I2.step st3),st13,rys.mono (st2.z.trans st3.z),er,ees,by omega⟩
   | true =>
    rw[if_pos rfl];rw[if_pos rfl] at er;obtain⟨s,b3,er⟩:=bind_some er;obtain⟨y',b4,er⟩:=bind_some er;obtain⟨ws,b5,er⟩:=bind_some er;cases er;refine ha H1' H03 H3 σ2 E2 s _ (I2.step st3) b3 fun v H04 H4 st4 r4=>?_
    have f:=JI (Hs:=H3) st4.i
    have st5:Step H3 H03 H3 (JT H3 H04 H4) H4:=st4.comp f fun _ z=>z
    exact⟨_,gs++[y'],ws,back ((I2.step st3).step st5),st13.trans st5,(rys.mono ((st2.z.trans st3.z).trans st5.z)).snoc (RR.frz st4.i r4 b4),b5,by simp_all,by simp_all⟩
  ·have e3:i=ds.length:=by omega
   subst e3;refine .inl ⟨stop.2,by rw[rys.1];omega,fun p hp=>?_⟩;rw[List.drop_length,VE] at er;cases er;rw[Gg] at ees;subst ees;exact UX (Hs:=H) st.i (s1.h.trans st.h) hp rys fun v H2 H2' s2 r2=>q v H2 H2' ((s1.trans st).comp s2 fun _ z=>z) r2
 ·cases e
end
end LE

namespace LE
open PySem L2 LR

inductive Out where
 | nx (E:En)|rt (r:Sl)|bk (E:En)|ct (E:En)
noncomputable abbrev Es:=En->Option Out
section
variable(K:Qw)(C:Qd)
noncomputable def Fin(B H0:Hp)(D:Ends):Out->Prop
 | .nx E=>∀σ' H0' H',SStep B H0 H0' H'->EnvR K C B H0' H' σ' E->D.nx σ' H'
 | .bk E=>∀σ' H0' H',SStep B H0 H0' H'->EnvR K C B H0' H' σ' E->D.bk σ' H'
 | .ct E=>∀σ' H0' H',SStep B H0 H0' H'->EnvR K C B H0' H' σ' E->D.ct σ' H'
 | .rt r=>∀v H0' H',SStep B H0 H0' H'->RR K C B H0' H' v r->D.rt v H'
noncomputable def SS(ts:TS)(ev:Es):Prop:=∀(B H0 H:Hp) (σ:St) (E:En) (o:Out) (D:Ends),EnvR K C B H0 H σ E->ev E=some o->Fin K C B H0 D o->ts D σ H
end
noncomputable def JY:Es:=fun E=>some (.nx E)
noncomputable def Jhd(b:Es):Out->Option Out
 | .nx E=>b E
 | .rt r=>some (.rt r)
 | .bk E=>some (.bk E)
 | .ct E=>some (.ct E)
noncomputable def Ju(a b:Es):Es:=fun E=>(a E).bind (Jhd b)
noncomputable def xIf(c:En->Option Bool)(a b:Es):Es:=fun E=>(c E).bind fun k=>if k=true then a E else b E
noncomputable def keep?:Sl->Option Sl
 | .sh d=>some (.sh d)
 | .own ds=>some (.own ds)
 | .od ks ds=>some (.od ks ds)
 | .ot ks ds=>some (.ot ks ds)
 | .dw ks ds=>some (.dw ks ds)
 | _=>none
noncomputable def Jab(i:Nat)(a:Ev):Es:=fun E=>(a E).bind fun s=>(keep? s).bind fun s=>if i<E.length then some (.nx (E.set i s)) else none
noncomputable def Jx(i:Nat)(a:Ev):Es:=fun E=>(a E).bind fun s=>s.frz.bind fun d=>if i<E.length then some (.nx (E.set i (.sh d))) else none
noncomputable def Jrw(p:Pt)(a:Ev):Es:=fun E=>(a E).bind fun s=>s.frz.bind fun d=>(p.bind d E).map .nx
noncomputable def Jgd(a:Ev):Es:=fun E=>(a E).map fun _=>.nx E
noncomputable def Yf(a:Ev):Es:=fun E=>(a E).bind fun s=>(keep? s).map .rt
noncomputable def UN(i:Nat):Es:=fun E=>match E[i]? with
 | some (.sh d)=>some (.rt (.sh d))
 | some (.own ds)=>some (.rt (.own ds))
 | some (.od ks ds)=>some (.rt (.od ks ds))
 | _=>none
noncomputable def UD:Es:=fun _=>none
noncomputable def JaW(i:Nat)(a:Ev):Es:=fun E=>match E[i]? with
 | some (.own ds)=>(a E).bind fun s=>s.frz.bind fun d=>if ds.length<Qq then some (.nx (E.set i (.own (ds++[d])))) else none
 | _=>none
noncomputable def JjU(i:Nat)(a:Ev):Es:=fun E=>match E[i]? with
 | some (.own ds)=>(a E).bind fun s=>s.m.bind fun es=>if ds.length+es.length<=Qq then some (.nx (E.set i (.own (ds++es)))) else none
 | _=>none
noncomputable def Jmh(i j:Nat)(f:Sl->Option Sl):Es:=fun E=>match E[i]? with
 | some (.own ds)=>(ds[ds.length-1]?).bind fun d=>(f (.sh d)).bind fun s=>(sh? s).bind fun d'=>if j<E.length then some (.nx ((E.set i (.own ds.dropLast)).set j (.sh d'))) else none
 | _=>none
noncomputable def Jhs(f:Int->Int->Int)(i:Nat)(a:Ev):Es:=fun E=>match E[i]? with
 | some (.sh (.int x))=>(a E).bind fun s=>match s with
  | .sh (.int y)=>some (.nx (E.set i (.sh (.int (f x y)))))
  | _=>none
 | _=>none
noncomputable def JmW(i:Nat)(E:En):En:=match E[i]? with
 | some (.own ds)=>E.set i (.sh (.lst ds))
 | some (.od ks ds)=>E.set i (.sh (.dct ks ds))
 | _=>E
noncomputable def Jox(i:Nat)(a:Es):Es:=fun E=>a (JmW i E)
noncomputable def YG(p:Pt)(b:Es):List D->Es
 | [],E=>some (.nx E)
 | d::ds,E=>(p.bind d E).bind fun E1=>(b E1).bind fun o=>match o with
  | .nx E2=>YG p b ds E2
  | .ct E2=>YG p b ds E2
  | .bk E2=>some (.nx E2)
  | .rt r=>some (.rt r)
noncomputable def Jaa(it:En->Option (List D))(p:Pt)(b:Es):Es:=fun E=>(it E).bind fun ds=>YG p b ds E
noncomputable def Y5(c:En->Option Bool)(b:Es):Nat->Es
 | 0,_=>none
 | n+1,E=>(c E).bind fun k=>if k=true then(b E).bind fun o=>match o with
  | .nx E2=>Y5 c b n E2
  | .ct E2=>Y5 c b n E2
  | .bk E2=>some (.nx E2)
  | .rt r=>some (.rt r)
  else some (.nx E)
section
variable{K:Qw}{C:Qd}{B H0 H H0' H':Hp}{σ:St}{E:En}{D:Ends}{o:Out}{te:TE}{ea:Ev}{t u:TS}{et eu:Es}
theorem Fin.step(st:SStep B H0 H0' H')(f:Fin K C B H0 D o):Fin K C B H0' D o:=by
 cases o with
 | nx E=>exact fun σ' H1 H1' s1 I=>f σ' H1 H1' (st.trans s1) I
 | bk E=>exact fun σ' H1 H1' s1 I=>f σ' H1 H1' (st.trans s1) I
 | ct E=>exact fun σ' H1 H1' s1 I=>f σ' H1 H1' (st.trans s1) I
 | rt r=>exact fun v H1 H1' s1 I=>f v H1 H1' (st.trans s1) I
theorem EnvR.ss(I:EnvR K C B H0 H σ E):SStep B H0 H0 H:=.refl I.b I.h
theorem JV:SS K C Jl5 JY:=fun _ _ _ _ _ _ _ I e f=>by cases e;exact f _ _ _ I.ss I
theorem UE:SS K C Jhn UD:=fun _ _ _ _ _ _ _ _ e _=>by cases e
theorem Jq(ht:SS K C t et)(hu:SS K C u eu):SS K C (Joq t u) (Ju et eu):=by
 intro B H0 H σ E o D I e f;obtain⟨o1,e1,e⟩:=bind_some e;refine ht B H0 H σ E o1 _ I e1 ?_
 cases o1 with
 | nx E1=>exact fun σ1 H1 H1' s1 I1=>hu B H1 H1' σ1 E1 o D I1 e (f.step s1)
 | bk E1=>cases e;exact f
 | ct E1=>cases e;exact f
 | rt r=>cases e;exact f
theorem Y8{c:TT}{ec:En->Option Bool}(hc:ST K C c ec)(ht:SS K C t et)(hu:SS K C u eu):SS K C (Jon c t u) (xIf ec et eu):=by
 intro B H0 H σ E o D I e f;obtain⟨k,e1,e⟩:=bind_some e;refine hc B H0 H σ E k _ I e1 fun H1 H1' s1=>?_
 cases k with
 | true=>rw[if_pos rfl];exact ht B H1 H1' σ E o D (I.step s1) e (f.step (s1.ss I.b))
 | false=>rw[if_neg (by simp)];exact hu B H1 H1' σ E o D (I.step s1) e (f.step (s1.ss I.b))
theorem JcU{s r:Sl}(e:keep? s=some r):s=r/\JpR r=false:=by cases s <;> cases e <;> exact⟨rfl,rfl⟩
theorem We{i:Nat}(ha:SE K C te ea):SS K C (Jex te (V8 i)) (Jab i ea):=by
 intro B H0 H σ E o D I e f;obtain⟨s,e1,e⟩:=bind_some e;obtain⟨s',e2,e⟩:=bind_some e;obtain⟨rfl,hb⟩:=JcU e2;split at e
 ·cases e;exact ha B H0 H σ E _ _ I e1 fun v H1 H1' s1 r1=>f _ _ _ (s1.ss I.b) (I.put' s1 (by assumption) r1 hb)
 ·cases e
theorem JB{i:Nat}(ha:SE K C te ea):SS K C (Jex te (V8 i)) (Jx i ea):=by
 intro B H0 H σ E o D I e f;obtain⟨s,e1,e⟩:=bind_some e;obtain⟨d,e2,e⟩:=bind_some e;split at e
 ·cases e;refine ha B H0 H σ E _ _ I e1 fun v H1 H1' s1 r1=>?_
  have s2:Step H H0 H (JT H H1 H1') H1':=s1.comp (JI s1.i) fun _ z=>z
  exact f _ _ _ (s2.ss I.b) ((I.step s2).setSh (by assumption) (RR.frz s1.i r1 e2))
 ·cases e
theorem JsV{g:TG}{p:Pt}(ha:SE K C te ea)(hg:SG K C g p):SS K C (Jex te g) (Jrw p ea):=by
 intro B H0 H σ E o D I e f;obtain⟨s,e1,e⟩:=bind_some e;obtain⟨d,e2,e⟩:=bind_some e;obtain⟨E',e3,rfl⟩:=map_some e;refine ha B H0 H σ E _ _ I e1 fun v H1 H1' s1 r1=>?_
 have s2:Step H H0 H (JT H H1 H1') H1':=s1.comp (JI s1.i) fun _ z=>z
 exact hg B _ H1' σ E E' v d _ (I.step s2) (RR.frz s1.i r1 e2) e3 fun σ' I'=>f _ _ _ (s2.ss I.b) I'
theorem Jht(ha:SE K C te ea):SS K C (ZX te) (Jgd ea):=by intro B H0 H σ E o D I e f;obtain⟨s,e1,rfl⟩:=map_some e;exact ha B H0 H σ E _ _ I e1 fun v H1 H1' s1 r1=>f _ _ _ (s1.ss I.b) (I.step s1)
theorem JL(ha:SE K C te ea):SS K C (Jop te) (Yf ea):=by intro B H0 H σ E o D I e f;obtain⟨s,e1,e⟩:=bind_some e;obtain⟨s',e2,rfl⟩:=map_some e;obtain⟨rfl,hb⟩:=JcU e2;exact ha B H0 H σ E _ _ I e1 fun v H1 H1' s1 r1=>f _ _ _ (s1.ss I.b) (r1.weak fun a z=>Same.free I.b z)
theorem VC{i:Nat}:SS K C (Jop (Wi i)) (UN i):=by
 intro B H0 H σ E o D I e f;unfold UN at e;split at e
 ·next d h =>
  cases e;rcases I.at' i _ h with z|⟨v,h1,h2⟩
  ·cases z
  ·exact⟨v,h1,f _ _ _ I.ss h2⟩
 ·next d h =>
  cases e;rcases I.at' i _ h with z|⟨v,h1,h2⟩
  ·cases z
  ·exact⟨v,h1,f _ _ _ I.ss h2⟩
 ·next d h =>
  cases e;rcases I.at' i _ h with z|⟨v,h1,h2⟩
  ·cases z
  ·exact⟨v,h1,f _ _ _ I.ss h2⟩
 ·cases e
theorem EnvR.mutG{i:Nat}{l:Qd}{t t':Sl}{o':HO}(I:EnvR K C B H0 H σ E)(e1:E[i]?=some t)(ho:YA t=true)(ho':YA t'=true)(e2:σ[i]?=some (some (.ref l)))(r:RSl K C B H0 (upd H l o') (.ref l) t') :
 EnvR K C B H0 (upd H l o') σ (E.set i t'):=by
 obtain⟨h1,h2,h3⟩:=I.ownG e1 ho e2;have hi:i<E.length:=(Qn.mp e1).1;have nb:∀{A:Hp},A l=none->Same A H->Same A (upd H l o'):=fun {A} n s a o e=>by rw[Jl (JA e n)];exact s a o e
 refine⟨nb h3 I.b,nb h2 I.h,by simp[I.len],fun j s e=>?_,fun j k s1 s2 v hjk a1 a2 p1 p2 a3=>?_,I.t⟩
 ·rw[QU] at e
  by_cases hj:i=j
  ·simp_all
  ·rw[if_neg hj] at e;rcases I.at' j s e with z|⟨v,q1,q2⟩
   ·exact .inl z
   ·refine .inr ⟨v,q1,?_⟩
    cases s with
    | no=>trivial
    | sh d=>exact q2
    | bo es=>exact q2
    | bd ks es=>exact q2
    | bt ks es=>exact q2
    | bw ks es=>exact q2
    | own es =>
     obtain⟨l',ys,p1,p2,p3,p4,p5⟩:=q2;subst p1;have:l'≠l:=fun z=>by subst z;exact I.sep i j t _ (.ref l') hj e1 e ho rfl e2 q1
     exact⟨l',ys,rfl,by rw[Jl this];exact p2,p3,p4,p5⟩
    | od ks es =>
     obtain⟨l',ys,p1,p2,p3,p4,p5⟩:=q2;subst p1;have:l'≠l:=fun z=>by subst z;exact I.sep i j t _ (.ref l') hj e1 e ho rfl e2 q1
     exact⟨l',ys,rfl,by rw[Jl this];exact p2,p3,p4,p5⟩
    | ot ks es =>
     obtain⟨l',ys,p1,p2,p3,p4,p5⟩:=q2;subst p1;have:l'≠l:=fun z=>by subst z;exact I.sep i j t _ (.ref l') hj e1 e ho rfl e2 q1
     exact⟨l',ys,rfl,by rw[Jl this];exact p2,p3,p4,p5⟩
    | dw ks es =>
     obtain⟨l',ys,p1,p2,p3,p4,p5⟩:=q2;subst p1;have:l'≠l:=fun z=>by subst z;exact I.sep i j t _ (.ref l') hj e1 e ho rfl e2 q1
     exact⟨l',ys,rfl,by rw[Jl this];exact p2,p3,p4,p5⟩
 ·have own:∀{j:Nat} {u:Sl},(E.set i t')[j]?=some u->YA u=true->∃g,E[j]?=some g/\YA g=true:=fun {j u} a w=>by
   rw[QU] at a
   by_cases hj:i=j
   ·subst hj;exact⟨t,e1,ho⟩
   ·rw[if_neg hj] at a;exact⟨_,a,w⟩
  obtain⟨g1,b1,c1⟩:=own a1 p1;obtain⟨g2,b2,c2⟩:=own a2 p2;exact I.sep j k g1 g2 v hjk b1 b2 c1 c2 a3
theorem EnvR.mut{i:Nat}{l:Qd}{ds ds':List LE.D}{xs xs':List V}(I:EnvR K C B H0 H σ E)(e1:E[i]?=some (.own ds))(e2:σ[i]?=some (some (.ref l)))(r:RDL K C H0 xs' ds') :
 EnvR K C B H0 (upd H l (.lst xs')) σ (E.set i (.own ds')):=by
 obtain⟨_,h2,h3⟩:=I.ownG e1 rfl e2;exact I.mutG (t':=.own ds') e1 rfl rfl e2 ⟨l,xs',rfl,Jw,h2,h3,r⟩
theorem EnvR.slot{i:Nat}{ds:List LE.D}(I:EnvR K C B H0 H σ E)(e1:E[i]?=some (.own ds)):∃l xs,σ[i]?=some (some (.ref l))/\H l=some (.lst xs)/\H0 l=none/\B l=none/\RDL K C H0 xs ds:=by
 rcases I.at' i _ e1 with z|⟨v,h1,l,xs,rfl,h2,h3,h4,h5⟩
 ·cases z
 ·exact⟨l,xs,h1,h2,h3,h4,h5⟩
theorem Jck{i:Nat}(ha:SE K C te ea):SS K C (ZX (tBM K "list" ZS (Wi i) (Wb te Zk))) (JaW i ea):=by
 intro B H0 H σ E o D I e f;unfold JaW at e;split at e
 ·next ds h =>
  obtain⟨s,e1,e⟩:=bind_some e;obtain⟨d,e2,e⟩:=bind_some e;split at e
  ·next hz =>
   cases e;obtain⟨l,xs,g1,g2,g3,g4,g5⟩:=I.slot h;refine⟨_,g1,.inl ⟨rfl,_,.of g2⟩,?_⟩;refine ha B H0 H σ E _ _ I e1 fun v H1 H1' s1 r1=>?_
   have s2:Step H H0 H (JT H H1 H1') H1':=s1.comp (JI s1.i) fun _ z=>z
   have I2:=I.step s2
   have m:=I2.mut (xs:=xs) h g1 ((g5.mono s2.z).snoc (RR.frz s1.i r1 e2));exact⟨l,xs,v,rfl,rfl,s2.h _ _ g2,by rw[g5.1];exact hz,f _ _ _ ⟨m.b,s2.z,(s2.ss I.b).n,m.h⟩ m⟩
  ·cases e
 ·cases e
theorem Jo7{i:Nat}(ha:SE K C te ea):SS K C (ZX (tBM K "list" Jil (Wi i) (Wb te Zk))) (JjU i ea):=by
 intro B H0 H σ E o D I e f;unfold JjU at e;split at e
 ·next ds h =>
  obtain⟨s,e1,e⟩:=bind_some e;obtain⟨es,e2,e⟩:=bind_some e;split at e
  ·next hz =>
   cases e;obtain⟨l,xs,g1,g2,g3,g4,g5⟩:=I.slot h;refine⟨_,g1,.inl ⟨rfl,_,.of g2⟩,?_⟩;refine ha B H0 H σ E _ _ I e1 fun v H1 H1' s1 r1=>?_
   have I2:=I.step s1;obtain⟨l',ys,rfl,k1,k2⟩:=r1.m s1.i e2
   have m:=I2.mut (xs:=xs) h g1 ((g5.mono s1.z).append k2);exact⟨l,l',xs,ys,rfl,rfl,s1.h _ _ g2,k1,by rw[g5.1,k2.1];exact hz,f _ _ _ ⟨m.b,s1.z,(s1.ss I.b).n,m.h⟩ m⟩
  ·cases e
 ·cases e
theorem Jpa{i j:Nat}:SS K C (Jex (Jok K "list" JqS (Wi i)) (V8 j)) (Jmh i j some):=by
 intro B H0 H σ E o D I e f;unfold Jmh at e;split at e
 ·next ds h =>
  obtain⟨d,e1,e⟩:=bind_some e;obtain⟨s,e2,e⟩:=bind_some e;cases e2;obtain⟨d',e3,e⟩:=bind_some e;cases e3;split at e
  ·next hj =>
   cases e;obtain⟨l,xs,g1,g2,g3,g4,g5⟩:=I.slot h;rw[<- g5.1] at e1;obtain⟨y,e4,r4⟩:=g5.get e1;have hd:RDL K C H0 xs.dropLast ds.dropLast:=by rw[KZ,KZ,g5.1];exact g5.take _
   have m:=I.mut (xs:=xs) h g1 hd;refine⟨_,g1,.inl ⟨rfl,_,.of g2⟩,l,xs,y,rfl,rfl,g2,e4,?_⟩;exact f _ _ _ ⟨m.b,Same.refl _,fun _ _ e=>.inl e,m.h⟩ (m.setSh (by simpa using hj) r4)
  ·cases e
 ·cases e
theorem Jo6{i:Nat}{g:Int->Int->Int}(ha:SE K C te ea):SS K C (JsP i te (ipI g)) (Jhs g i ea):=by
 intro B H0 H σ E o D I e f;unfold Jhs at e;split at e
 ·next x h =>
  obtain⟨s,e1,e⟩:=bind_some e;split at e
  ·cases e;rcases I.at' i _ h with z|⟨v,h1,h2⟩
   ·cases z
   ·have hi:i<E.length:=(Qn.mp h).1;refine⟨v,h1,ha B H0 H σ E _ _ I e1 fun w H1 H1' s1 r1=>⟨_,_,RD.intI h2,RD.intI r1,f _ _ _ (s1.ss I.b) ((I.step s1).setSh hi (.int _))⟩⟩
  ·cases e
 ·cases e
theorem EnvR.slotD{i:Nat}{ks:List Int}{ds:List LE.D}(I:EnvR K C B H0 H σ E)(e1:E[i]?=some (.od ks ds)):∃l xs,σ[i]?=some (some (.ref l))/\H l=some (dkO ks xs)/\H0 l=none/\B l=none/\ks.length=ds.length/\RDL K C H0 xs ds:=by
 rcases I.at' i _ e1 with z|⟨v,h1,l,xs,rfl,h2,h3,h4,h5⟩
 ·cases z
 ·exact⟨l,xs,h1,h2,h3,h4,h5⟩
theorem EnvR.frzG(I:EnvR K C B H0 H σ E){i:Nat}{t:Sl}{l:Qd}{o:HO}{d:LE.D}(h:E[i]?=some t)(ho:YA t=true)(g1:σ[i]?=some (some (.ref l)))(g2:H l=some o)(g5:∀H1,Same H0 H1->H1 l=some o->RD K C H1 (.ref l) d):∃H0',SStep B H0 H0' H/\EnvR K C B H0' H σ (E.set i (.sh d)):=by
 obtain⟨_,g3,g4⟩:=I.ownG h ho g1;have hi:i<E.length:=(Qn.mp h).1;have s0:Same H0 (upd H0 l o):=.new g3
 have s1:Same (upd H0 l o) H:=fun a o e=>by
  by_cases ha:a=l
  ·grind[Jw]
  ·rw[Jl ha] at e;exact I.h a o e
 refine⟨upd H0 l o,⟨I.b,s0,fun a o e=>?_,s1⟩,I.b,s1,by simp[I.len],fun j s e=>?_,fun j k u1 u2 v hjk a1 a2 w1 w2 a3=>?_,I.t⟩
 ·grind[Jl]
 ·rw[QU] at e
  by_cases hj:i=j
  ·subst hj;rw[if_pos rfl,if_pos hi] at e;cases e;exact .inr ⟨_,g1,g5 _ s0 Jw⟩
  ·rw[if_neg hj] at e;rcases I.at' j s e with z|⟨v,q1,q2⟩
   ·exact .inl z
   ·refine .inr ⟨v,q1,?_⟩
    cases s with
    | no=>trivial
    | sh d=>exact RD.mono s0 q2
    | bo es=>obtain⟨l',ys,p1,p2,p3⟩:=q2;exact⟨l',ys,p1,p2,p3.mono s0⟩
    | bd ks es=>obtain⟨l',ys,p1,p2,hk,p3⟩:=q2;exact⟨l',ys,p1,p2,hk,p3.mono s0⟩
    | bt ks es=>obtain⟨l',ys,p1,p2,hk,p3⟩:=q2;exact⟨l',ys,p1,p2,hk,p3.mono s0⟩
    | bw ks es=>obtain⟨l',ys,p1,p2,hk,p3⟩:=q2;exact⟨l',ys,p1,p2,hk,p3.mono s0⟩
    | own es =>
     obtain⟨l',ys,p1,p2,p3,p4,p5⟩:=q2;subst p1;have:l'≠l:=fun z=>by subst z;exact I.sep i j t _ (.ref l') hj h e ho rfl g1 q1
     exact⟨l',ys,rfl,p2,by rw[Jl this];exact p3,p4,p5.mono s0⟩
    | od ks es =>
     obtain⟨l',ys,p1,p2,p3,p4,hk,p5⟩:=q2;subst p1;have:l'≠l:=fun z=>by subst z;exact I.sep i j t _ (.ref l') hj h e ho rfl g1 q1
     exact⟨l',ys,rfl,p2,by rw[Jl this];exact p3,p4,hk,p5.mono s0⟩
    | ot ks es =>
     obtain⟨l',ys,p1,p2,p3,p4,hk,p5⟩:=q2;subst p1;have:l'≠l:=fun z=>by subst z;exact I.sep i j t _ (.ref l') hj h e ho rfl g1 q1
     exact⟨l',ys,rfl,p2,by rw[Jl this];exact p3,p4,hk,p5.mono s0⟩
    | dw ks es =>
     obtain⟨l',ys,p1,p2,p3,p4,hk,p5⟩:=q2;subst p1;have:l'≠l:=fun z=>by subst z;exact I.sep i j t _ (.ref l') hj h e ho rfl g1 q1
     exact⟨l',ys,rfl,p2,by rw[Jl this];exact p3,p4,hk,p5.mono s0⟩
 ·have own:∀{j:Nat} {u:Sl},(E.set i (.sh d))[j]?=some u->YA u=true->E[j]?=some u:=fun {j u} a w=>by
   rw[QU] at a
   by_cases hj:i=j
   ·subst hj;rw[if_pos rfl,if_pos hi] at a;cases a;cases w
   simp_all
  exact I.sep j k u1 u2 v hjk (own a1 w1) (own a2 w2) w1 w2 a3
theorem EnvR.frz(I:EnvR K C B H0 H σ E)(i:Nat):∃H0',SStep B H0 H0' H/\EnvR K C B H0' H σ (JmW i E):=by
 unfold JmW;split
 ·next ds h=>obtain⟨l,xs,g1,g2,g3,g4,g5⟩:=I.slot h;exact I.frzG h rfl g1 g2 fun H1 s0 hl=>.mkL hl (g5.mono s0)
 ·next ks ds h=>obtain⟨l,xs,g1,g2,g3,g4,hk,g5⟩:=I.slotD h;exact I.frzG h rfl g1 g2 fun H1 s0 hl=>.mkD hl hk (g5.mono s0)
 ·exact⟨H0,I.ss,I⟩
theorem Jo8(i:Nat)(ht:SS K C t et):SS K C t (Jox i et):=by intro B H0 H σ E o D I e f;obtain⟨H0',s,I'⟩:=I.frz i;exact ht B H0' H σ _ o D I' e (f.step s)
theorem Wd{wi:TI}{g:TG}{it:En->Option (List LE.D)}{p:Pt}(hi:SI K C false wi it)(hg:SG K C g p)(ht:SS K C t et):SS K C (Jom wi g t) (Jaa it p et):=by
 intro B H0 H σ E o D I e f;obtain⟨ds,e1,e⟩:=bind_some e;refine hi B H0 H σ E ds _ I e1 fun J H1 H1' s1 ok=>?_
 rw[if_neg (by simp)] at ok;refine⟨fun i m σ' H'=>m=ds.length-i/\i<=ds.length/\∃H0' E',EnvR K C B H0' H' σ' E'/\SStep B H1 H0' H'/\YG p et (ds.drop i) E'=some o,
  ⟨ds.length,by simp,GS _,H1,E,I.step s1,.refl (I.b.trans s1.h) s1.i,e⟩,?_⟩
 rintro i m σ' H' ⟨rfl,hi',H0',E',I',st,er⟩;have stop:=ok H0' H' st;have f':Fin K C B H0' D o:=(f.step (s1.ss I.b)).step st
 by_cases hlt:i<ds.length
 ·have hd:ds[i]?=some ds[i]:=by simp[hlt]
  obtain⟨go,yl⟩:=stop.1 i _ hd;refine .inr ⟨go,fun σ2 H2=>∃H02 E2,EnvR K C B H02 H2 σ2 E2/\SStep B H1 H02 H2/\YG p et (ds.drop (i+1)) E2=some o,fun σ2 H2 h=>⟨ds.length-(i+1),by omega,rfl,hlt,h⟩,fun x H2 y=>?_⟩;obtain⟨H02,st2,rx⟩:=yl x H2 y;rw[Kq hlt,YG] at er;obtain⟨E1,b1,er⟩:=bind_some er;obtain⟨o1,b2,er⟩:=bind_some er;have ss2:SStep B H0' H02 H2:=st2.ss I'.b;refine hg B H02 H2 σ' E' E1 x _ _ (I'.step st2) rx b1 fun σ2 I2=>?_
  refine ht B H02 H2 σ2 E1 o1 _ I2 b2 ?_
  cases o1 with
  | nx E2=>exact fun σ3 H3 H3' s3 I3=>⟨H3,E2,I3,(st.trans ss2).trans s3,er⟩
  | ct E2=>exact fun σ3 H3 H3' s3 I3=>⟨H3,E2,I3,(st.trans ss2).trans s3,er⟩
  | bk E2=>cases er;exact f'.step ss2
  | rt r=>cases er;exact f'.step ss2
 ·have e3:i=ds.length:=by omega
  subst e3;rw[List.drop_length,YG] at er;cases er;exact .inl ⟨stop.2,f' _ _ _ I'.ss I'⟩
theorem JiO{c:TT}{ec:En->Option Bool}{n:Nat}(hc:ST K C c ec)(ht:SS K C t et):SS K C (Jl7 c t) (Y5 ec et n):=by
 intro B H0 H σ E o D I e f;refine⟨fun m σ' H'=>∃H0' E',EnvR K C B H0' H' σ' E'/\SStep B H0 H0' H'/\Y5 ec et m E'=some o,⟨n,H0,E,I,I.ss,e⟩,?_⟩;rintro m σ' H' ⟨H0',E',I',st,er⟩
 cases m with
 | zero=>cases er
 | succ m =>
  rw[Y5] at er;obtain⟨k,b1,er⟩:=bind_some er;refine hc B H0' H' σ' E' k _ I' b1 fun H1 H1' s1=>?_
  have f':Fin K C B H1 D o:=(f.step st).step (s1.ss I'.b)
  cases k with
  | false=>rw[if_neg (by simp)] at er ⊢;cases er;exact f' _ _ _ (I'.step s1).ss (I'.step s1)
  | true =>
   rw[if_pos rfl] at er ⊢;obtain⟨o1,b2,er⟩:=bind_some er;refine⟨fun σ2 H2=>∃H02 E2,EnvR K C B H02 H2 σ2 E2/\SStep B H0 H02 H2/\Y5 ec et m E2=some o,fun σ2 H2 h=>⟨m,Lb _,h⟩,?_⟩;have st1:=st.trans (s1.ss I'.b);refine ht B H1 H1' σ' E' o1 _ (I'.step s1) b2 ?_
   cases o1 with
   | nx E2=>exact fun σ3 H3 H3' s3 I3=>⟨H3,E2,I3,st1.trans s3,er⟩
   | ct E2=>exact fun σ3 H3 H3' s3 I3=>⟨H3,E2,I3,st1.trans s3,er⟩
   | bk E2=>cases er;exact f'
   | rt r=>cases er;exact f'
end

noncomputable def Jgv:Out->Option Sl
 | .nx _=>some (.sh .non)
 | .rt r=>some r
 | .bk _=>none
 | .ct _=>none
noncomputable def Yi(N:Nat)(b:Es):List Sl->Option Sl:=fun as=>(b (as++Qv (N-as.length) .no)).bind Jgv
section
variable{K:Qw}{C:Qd}
theorem RRL.get{Hs H0 H:Hp}:∀{vs:List V} {ss:List Sl} {i:Nat} {s:Sl},RRL K C Hs H0 H vs ss->ss[i]?=some s->∃v,vs[i]?=some v/\RR K C Hs H0 H v s
 | _,_,_,_,.nil,e=>by simp at e
 | _,_,0,_,.cons h _,e=>by simp_all
 | _,_,i+1,s,.cons _ t,e=>by
  obtain⟨v,h1,h2⟩:=RRL.get (i:=i) (s:=s) t (by simpa using e)
  simp_all
theorem JmU{N:List Str}{n:Nat}{b:Es}{ts:TS}{vs:List V}{H:Hp}{Q:VK}{E:XK}(hb:SS K C ts b)(h:spE K C n (Yi N.length b) vs H Q E):ts { nx:=fun _ H'=>Q .non H',rt:=Q } (L2.Y4 N vs) H:=by
 obtain⟨tb,H0,as,r,i,ra,ho,hl,e,q⟩:=h;have lens:=ra.len
 have noOwn:∀(j:Nat) (s:Sl),as[j]?=some s->YA s=false:=fun j s e=>by
  have:=GH.mp ho s (QG e)
  simpa using this
 have get:∀(j:Nat) (s:Sl),(as++Qv (N.length-as.length) Sl.no)[j]?=some s->s=.no\/as[j]?=some s:=fun j s e=>by grind
 have I:EnvR K C H H0 H (L2.Y4 N vs) (as++Qv (N.length-as.length) .no):=by
  refine⟨Same.refl _,i,by simp[L2.Y4,lens],fun j s e=>?_,fun j k s1 s2 v hjk e1 e2 w1 w2=>?_,tb⟩
  ·rcases get j s e with z|z
   ·exact .inl z
   ·obtain⟨v,h1,h2⟩:=ra.get z;refine .inr ⟨v,?_,?_⟩
    ·unfold L2.Y4;rw[QE (by have:=(Qn.mp h1).1;simpa using this),Qt,h1];rfl
    ·cases s with
     | no=>trivial
     | sh d=>exact h2
     | bo ds=>exact h2
     | own ds=>solve_by_elim
     | bd ks ds=>exact h2
     | bt ks ds=>exact h2
     | bw ks ds=>exact h2
     | od ks ds=>solve_by_elim
     | ot ks ds=>solve_by_elim
     | dw ks ds=>solve_by_elim
  ·rcases get j _ e1 with z|z
   ·subst z;cases w1
   ·rw[noOwn j _ z] at w1;cases w1
 obtain⟨o,e1,e⟩:=bind_some e;refine hb H H0 H _ _ o _ I e1 ?_
 cases o with
 | nx E1=>cases e;exact fun σ' H1 H1' s1 I1=>q _ H1 H1' ⟨s1.b,s1.z,s1.n,s1.i⟩ RD.non
 | rt r'=>cases e;exact fun v H1 H1' s1 r1=>q v H1 H1' ⟨s1.b,s1.z,s1.n,s1.i⟩ r1
 | bk _=>cases e
 | ct _=>cases e
theorem Jm4{P:Qu}{w:QJ}{mg:Str->Option Qc}{base:Q0}{k:Nat}{f:Qd}{fd:Qz}{ps:List Str}{ev:List Sl->Option Sl}(F:FnOk P w K mg base CX0 k f fd ps (spE K C 1 ev))(ht:Vq K=none)
 (h:∀ns:List Int,ns.length<=63->ev [.sh (.fz (ns.map .int))]=some (.sh (.bl true))):FnOk P w K mg base CX0 k f fd ps (Jiv K) :=
 F.imp fun vs H Q E ⟨a,ns,e,hS,hl,q⟩=>by subst e;exact⟨.no ht,H,[.sh (.fz (ns.map .int))],_,Same.refl _,.cons (show RD K C H _ _ from RD.mkF hS (RDL.ofInts ns)) .nil,rfl,rfl,h ns hl,fun v H0' H' _ r=>by rw[RD.blI r];exact q H'⟩
end
end LE

namespace L2
open PySem PySem.Spec PyProof.Rows
noncomputable def Jpd(lo c:Int)(n:Nat):It:=⟨fun i _=>i<n,fun i H x H'=>H'=H/\x=.int (lo+i*c),fun i _=>n<=i⟩
theorem Jf6{P:Qu}{w:QJ}{K:Qw}{tg:Q4}(it:Qd)(lo c:Int)(n:Nat):Turn P w K tg (Jpd lo c n) [it] it (fun i h=>IsRangeIter h it (lo+(i:Nat)*c) ((n:Int)-(i:Nat)) c) where
 mem:=by simp
 obj:=fun i h st b hb=>by simp_all
 keep:=fun i h h' st k=>k it (by simp) _ st
 item:=by
  intro X hP hw hK hc i pins s σ H E I hf st hg;subst hP hw hK;have fo:=hf it (by simp);refine(Walks.range (prog:=X.prog) (w:=X.w) (I.ok.hd hc) it lo c n).item i s _ _ hg st fun v h' tk hv st' kk=>?_
  obtain⟨t,rfl⟩:=hv;refine⟨_,rfl,Jbs (s:={ s with heap:=h',toks:=tk }) (n:="range_iterator") st' rfl rfl (by decide) ⟨.int (lo+i*c),H,?_,⟨t,rfl⟩,⟨rfl,rfl⟩,st',fun b hb=>(hf b hb).1⟩⟩;exact I.turned (fun b o hb e=>kk b o (by simpa using hb) e) fo.1 fo.2.1 fo.2.2.2.1 fo.2.2.2.2.1 fo.2.2.2.2.2
 done:=by intro X hP hw hK hc i pins s σ H E I hf st hg;subst hP hw hK;have fo:=hf it (by simp);have le:n<=i:=hg;exact wpAny_pyNext_range_end (I.ok.hd hc) st (by omega) fun h' eb=>⟨rfl,I.turned (t':=s.toks) (fun b o hb e=>eb b o hb e) fo.1 fo.2.1 fo.2.2.2.1 fo.2.2.2.2.1 fo.2.2.2.2.2⟩
 self:=fun _ _ _ _ _ st h=>wpAny_pyIter_rangeiter st h
noncomputable def Jkc(a b c:Int):Nat:=if a<b then((b-a-1) / c+1).toNat else 0
theorem Jhg{a b c:Int}(hc:0<c)(hc':c<1073741824)(ha:-(2 ^ 60)<=a)(ha':a<2 ^ 60)(hb:-(2 ^ 60)<=b)(hb':b<2 ^ 60):KC a b c=true:=by
 have sz:Gf a b c<=2 ^ 61/\0<=Gf a b c:=by
  unfold Gf;rw[if_pos hc];split
  ·have h1:0<=(b-a-1) / c:=Int.ediv_nonneg (by omega) (by omega)
   have h2:(b-a-1) / c<=b-a-1:=Int.ediv_le_self _ (by omega);omega
  ·omega
 grind[KC,L0]
theorem Jhf{a b:Int}(ha:-(2 ^ 60)<=a)(ha':a<2 ^ 60)(hb:-(2 ^ 60)<=b)(hb':b<2 ^ 60):KC a b (-1)=true/\Gf a b (-1)=((a-b).toNat:Int):=by
 have sz:Gf a b (-1)=((a-b).toNat:Int):=by
  unfold Gf
  grind
 refine⟨?_,sz⟩;unfold KC;simp only[L0,Q9,Lk,decide_eq_true_eq,beq_iff_eq,sz,show ¬((-1:Int)>0) by decide,if_false];omega
noncomputable def Rg3(i j c:Int)(n:Nat):Prop:=(0<c/\c<1073741824/\n=Jkc i j c)\/(c=-1/\n=(i-j).toNat)
noncomputable def JoM(ta:TA):TI:=fun σ H R=>ta σ H fun vs H1=>∃(i j c:Int) (n:Nat),vs=[.int i,.int j,.int c]/\(Rg3 i j c n/\-(2 ^ 60)<=i/\i<2 ^ 60/\-(2 ^ 60)<=j/\j<2 ^ 60)/\R (Jpd i c n) H1
theorem Jc3{X:Cx}{tg:Q4}{a b c:Q4}{ta:TA}{p pos:Pos}(hg:Gl X "range")(hm:X.mg "range"=none)(ha:PA X [a,b,c] ta)(hs:starEach [a,b,c] X.env=[(false,eval a X.env),(false,eval b X.env),(false,eval c X.env)]:=by rfl)
 (hs2:starEach [b,c] X.env=[(false,eval b X.env),(false,eval c X.env)]:=by rfl):PI X tg (.Call (.Name "range" p) [a,b,c] [] pos) (JoM ta):=by
 intro pins s σ H R I h;refine Call_ (Vb I hg hm boot_range (Gk (thn (ha pos pins s σ H _ I h) fun us s1 ⟨vs,H1,I1,r1,q1⟩=>?_) (by rw[hs,hs2]) (by rw[hs2];rfl)));obtain⟨lo,hi,st,n,e,⟨c1,c3,c4,c5,c6⟩,q⟩:=q1;subst e
 cases r1 with
 | cons r rr =>
 cases rr with
 | cons r' rr =>
 cases rr with
 | cons r'' rr =>
 cases rr;obtain⟨t,rfl⟩:=r;obtain⟨t',rfl⟩:=r';obtain⟨t'',rfl⟩:=r'';have c0:st≠0:=by rcases c1 with ⟨c1,_,_⟩|⟨c1,_⟩ <;> omega
 have cs:KC lo hi st=true/\Gf lo hi st=(n:Int):=by
  rcases c1 with ⟨c1,c2,rfl⟩|⟨rfl,rfl⟩
  ·refine⟨Jhg c1 c2 c3 c4 c5 c6,?_⟩;unfold Jkc Gf;rw[if_pos c1];split
   ·have h1:0<=(hi-lo-1) / st:=Int.ediv_nonneg (by omega) (by omega);omega
   ·rfl
  ·exact Jhf c3 c4 c5 c6
 refine call_range_3 (by omega) ?_ (.inl (MU (by rcases c1 with ⟨c1,c2,_⟩ | ⟨c1,_⟩ <;> omega)));refine wpAny_pyIter_range (IsRange.new ..) cs.1 ?_;have I2:Inv X pins σ H1 { s1 with heap:=s1.heap.push { cls:=.type "range",data:=.fields #[.int lo t,.int hi t',.int st t''] },toks:=s1.toks }:=I1.kept fun b o e=>Qf _ e
 refine⟨_,[_],_,_,H1,rfl,I2.kept (t':=s1.toks) fun b o e=>Qf _ e,Jf6 _ lo st n,?_,fun b hb=>?_,q⟩
 ·have e1:lo+((0:Nat):Int)*st=lo:=by simp
  have e2:((n:Nat):Int)-((0:Nat):Int)=Gf lo hi st:=by rw[cs.2];simp
  show IsRangeIter _ _ (lo+((0:Nat):Int)*st) (((n:Nat):Int)-((0:Nat):Int)) st;rw[e1,e2];exact Qj _ rfl
 ·have e:b=_:=KO.mp hb;subst e;exact I2.fpOk (Qo _) (I2.hok.fresh (Qo _))
end L2
namespace LE
open PySem L2 LR
noncomputable def Jg4(lo c:Int)(n:Nat):List D:=(Kj n).map fun(i:Nat)=>.int (lo+(i:Int)*c)
noncomputable def Jbx(a:Int):Bool:=RO a.natAbs 1152921504606846975
theorem in60_ok{a:Int}:Jbx a=true↔-1152921504606846976<a/\a<1152921504606846976:=by unfold Jbx;rw[KN];omega
noncomputable def iR3(as:En->Option (List Sl)):En->Option (List D):=fun E=>(as E).bind fun ss=>match ss with
 | [.sh (.int a),.sh (.int b),.sh (.int c)]=>if (Jbx a && Jbx b && Jay c)=true then some (Jg4 a c (Jkc a b c)) else if (Jbx a && Jbx b && decide (c=-1))=true then some (Jg4 a c (a-b).toNat) else none
 | _=>none
section
variable{K:Qw}{C:Qd}{m:Bool}
theorem RRL.three{Hs H0 H:Hp}{vs:List V}{s t u:Sl}(r:RRL K C Hs H0 H vs [s,t,u]):∃v w x,vs=[v,w,x]/\RR K C Hs H0 H v s/\RR K C Hs H0 H w t/\RR K C Hs H0 H x u:=by
 cases r with
 | cons h r=>cases r with
  | cons h' r=>cases r with
   | cons h'' r=>cases r;exact⟨_,_,_,rfl,h,h',h''⟩
theorem Jh3{A H0:Hp}{lo c:Int}{n:Nat}:JjX K C A (Jpd lo c n) (Jg4 lo c n) H0:=by intro H0' H' st;refine⟨fun i d e=>?_,by show n<=_;simp[Jg4]⟩;unfold Jg4 at e;rw[Qt] at e;obtain⟨j,e1,e2⟩:=map_some e;obtain⟨h1,h2⟩:=Qn.mp e1;simp at h1 h2;subst h2 e2;refine⟨h1,fun x H2 ⟨e1,e2⟩=>?_⟩;subst e1 e2;exact⟨H0',.refl st.i,.int _⟩
theorem JoU{t:TA}{ev:En->Option (List Sl)}(ha:SA K C t ev):SI K C m (JoM t) (iR3 ev):=by
 intro B H0 H σ E ds R I e q;obtain⟨ss,e1,e⟩:=bind_some e;split at e
 ·split at e
  ·next hn =>
   cases e;simp only[Q9,smallP_ok,in60_ok] at hn;refine ha B H0 H σ E _ _ I e1 fun vs H1 H1' s1 r1=>?_
   obtain⟨v,w,x,rfl,r,r',r''⟩:=r1.three;rw[RD.intI r,RD.intI r',RD.intI r''];exact⟨_,_,_,_,rfl,⟨.inl ⟨hn.2.1,hn.2.2,rfl⟩,by omega⟩,q _ _ _ s1 Jh3⟩
  ·split at e
   ·next hn =>
    cases e;simp only[Q9,in60_ok,decide_eq_true_eq] at hn;refine ha B H0 H σ E _ _ I e1 fun vs H1 H1' s1 r1=>?_
    obtain⟨v,w,x,rfl,r,r',r''⟩:=r1.three;rw[RD.intI r,RD.intI r',RD.intI r''];exact⟨_,_,_,_,rfl,⟨.inr ⟨hn.2,rfl⟩,by omega⟩,q _ _ _ s1 Jh3⟩
   ·cases e
 ·cases e
noncomputable def Jcq:List Sl->Option Sl
 | [.sh (.int i)]=>if i.natAbs.log2<1920 then some (.sh (.str (strI i))) else none
 | _=>none
theorem JcH:V7 K C JqU Jcq:=by
 intro Hs H0 H xs as c Q i hs r e q;unfold Jcq at e;split at e
 ·split at e
  ·next hl=>cases e;obtain⟨v,rfl,r0⟩:=r.one;rw[RD.intI r0];exact Jq5 hl (q _ _ _ (.refl i) (RD.str _))
  ·cases e
 ·cases e
noncomputable def MtS(K:Qw)(C:Qd)(rm:V->List V->Hp->VK->Prop)(f:Str->List Sl->Option Sl):Prop:=∀(Hs H0 H:Hp) (z:Str) (xs:List V) (as:List Sl) (c:Sl) (Q:VK),Same H0 H->Same Hs H->RRL K C Hs H0 H xs as->f z as=some c ->
 (∀v H0' H',Step Hs H0 H H0' H'->RR K C Hs H0' H' v c->Q v H')->rm (.str z) xs H Q
noncomputable def str?:Sl->Option Str
 | .sh (.str z)=>some z
 | _=>none
noncomputable def eM(f:Str->List Sl->Option Sl)(o:Ev)(as:En->Option (List Sl)):Ev:=fun E=>(o E).bind fun a=>(str? a).bind fun z=>(as E).bind fun xs=>f z xs
theorem Jcb{s:Sl}{z:Str}(e:str? s=some z):s=.sh (.str z):=by
 cases s with
 | sh d=>cases d with
  | str x=>cases e;rfl
  | _=>cases e
 | _=>cases e
theorem JaU{rm:V->List V->Hp->VK->Prop}{f:Str->List Sl->Option Sl}{to:TE}{eo:Ev}{t:TA}{ev:En->Option (List Sl)}(hm:MtS K C rm f)(ho:SE K C to eo)(ha:SA K C t ev):SE K C (tBM K "str" rm to t) (eM f eo ev):=by
 intro B H0 H σ E c Q I e q;obtain⟨a,e1,e⟩:=bind_some e;obtain⟨z,e2,e0⟩:=bind_some e;obtain⟨as,e3,e4⟩:=bind_some e0;obtain rfl:=Jcb e2;refine ho B H0 H σ E _ _ I e1 fun x H1 H1' s1 r1=>?_
 rw[RD.strI r1];refine⟨rfl,ha B H1 H1' σ E as _ (I.step s1) e3 fun xs H2 H2' s2 r2=>?_⟩;exact hm H H2 H2' z xs as c Q s2.i (s1.h.trans s2.h) (r2.weak fun a q=>Same.free s1.h q) e4 fun v H3 H3' s3 r3=>q v H3 H3' ((s1.trans s2).comp s3 fun _ z=>z) r3
noncomputable def Jbq(z:Str):List Sl->Option Sl
 | [s]=>s.r.bind fun ds=>(strs? ds).bind fun ys=>if (ys.map (·.length)).sum+ys.length*z.length<=16777216 then some (.sh (.str (Ka z ys))) else none
 | _=>none
theorem JkX:MtS K C (Jim K) Jbq:=by
 intro Hs H0 H z xs as c Q i hs r e q;unfold Jbq at e;split at e
 ·obtain⟨ds,e1,e⟩:=bind_some e;obtain⟨ys,e2,e⟩:=bind_some e;split at e
  ·next hl=>cases e;obtain⟨v,rfl,r0⟩:=r.one;obtain⟨l,us,rfl,h,r1⟩:=r0.r i e1;rw[Jc9 e2] at r1;have:=r1.strs;subst this;exact JnV h hl (q _ _ _ (.refl i) (RD.str _))
  ·cases e
 ·cases e
end
end LE

namespace LE
open PySem L2 LR
noncomputable def okS(P:En->Prop):Option Out->Prop
 | some (.nx E)=>P E
 | some (.ct E)=>P E
 | _=>False
theorem Jqo{P:En->Prop}{E:En}:okS P (some (.nx E))=P E:=rfl
theorem Jfv{P:En->Prop}{o:Option Out}(h:okS P o):∃E,(o=some (.nx E)\/o=some (.ct E))/\P E:=by
 unfold okS at h;split at h
 ·exact⟨_,.inl rfl,h⟩
 ·exact⟨_,.inr rfl,h⟩
 ·exact h.elim
theorem VI{γ α β:Type}{p:Pt}{b:Es}{f:α->D}{k:Out->Option γ}{r:Option γ}(R:List α->β->En->Prop)(g:β->α->β):∀{as:List α} {E:En} (s:β) (h0:R as s E)
 (h:∀a as s E,R (a::as) s E->okS (R as (g s a)) ((p.bind (f a) E).bind b)) (fin:∀E',R [] (as.foldl g s) E'->k (.nx E')=r),(YG p b (as.map f) E).bind k=r
 | [],E,s,h0,_,fin=>fin E h0
 | a::as,E,s,h0,h,fin=>by
  obtain⟨E2,e2,r2⟩:=Jfv (h a as s E h0);have ih:=VI (k:=k) (r:=r) R g (as:=as) (E:=E2) (g s a) r2 h fin;rw[Qi,YG]
  cases hp:p.bind (f a) E with
  | none=>simp_all
  | some E1=>grind
theorem ZI{γ:Type}{p:Pt}{b:Es}{f:Nat->D}{n:Nat}{E:En}{k:Out->Option γ}{r:Option γ}(R:Nat->En->Prop)(h0:R 0 E)
 (h:∀i E,i<n->R i E->okS (R (i+1)) ((p.bind (f i) E).bind b)) (fin:∀E',R n E'->k (.nx E')=r):(YG p b ((Kj n).map f) E).bind k=r:=by
 refine VI (fun(as:List Nat) (i:Nat) E=>i+as.length=n/\as=List.range' i as.length/\R i E) (fun i _=>i+1) 0 ⟨by simp,by simp[List.range_eq_range'],h0⟩ (fun a as i E ⟨hk,e,q⟩=>?_) fun E' ⟨hk,_,q⟩=>?_
 ·rw[Qr,List.range'_succ] at e;have e1:a=i:=(List.cons.inj e).1;subst e1;obtain⟨E2,e2,r2⟩:=Jfv (h a E (by grind) q);have fin2:(a+1)+as.length=n/\as=List.range' (a+1) as.length/\R (a+1) E2:=⟨by grind,(List.cons.inj e).2,r2⟩
  rcases e2 with e2|e2 <;> (rw[e2];exact fin2)
 ·have e3:(Kj n).foldl (fun i _=>i+1) 0=n:=by simpa using hk
  rw[e3] at q;exact fin E' q
theorem Yc{α:Type}{p:Pt}{a:Ev}{E1:En}{f g:α->D}:∀{xs:List α},(∀x∈xs,((p.bind (f x) E1).bind a).bind Sl.frz=some (g x))->VE p yes? a E1 (xs.map f)=some (xs.map g)
 | [],_=>rfl
 | x::xs,h=>by have h1:=h x Qg;obtain⟨s,e1,e2⟩:=bind_some h1;obtain⟨E2,e3,e4⟩:=bind_some e1;rw[Qi,VE,e3];simp only[QX,yes?,if_true,e4,e2];rw[Yc fun y hy=>h y (Qh _ hy)];rfl
theorem JhO{α:Type}{p:Pt}{c:En->Option Bool}{a:Ev}{E1:En}{f g:α->D}{k:α->Bool}:∀{xs:List α},(∀x∈xs,(p.bind (f x) E1).bind c=some (k x)/\(k x=true->((p.bind (f x) E1).bind a).bind Sl.frz=some (g x)))->VE p c a E1 (xs.map f)=some ((xs.filter k).map g)
 | [],_=>rfl
 | x::xs,h=>by
  obtain⟨h1,h2⟩:=h x Qg;obtain⟨E2,e3,e4⟩:=bind_some h1;have ih:=JhO (xs:=xs) (fun y hy=>h y (Qh _ hy));rw[Qi,VE,e3];simp only[QX,e4]
  cases hk:k x with
  | false=>simp_all
  | true =>
   obtain⟨s,e1,e2⟩:=bind_some (h2 hk)
   simp_all
theorem JsL(n:Nat):rng 0 n=(Kj n).map fun i=>.int (i:Int):=by
 unfold rng
 simp_all
theorem Jog:Qq=16777216:=rfl
theorem Jdj{α β:Type}(f:α->β)(xs:List α)(i:Int):atI (xs.map f) i=(atI xs i).map f:=by
 unfold atI;rw[QN]
 cases ixN xs.length i with
 | none=>rfl
 | some j=>simp
theorem JeK{α:Type}{xs:List α}{k:Nat}(h:k<xs.length):atI xs (k:Int)=some xs[k]:=by
 unfold atI ixN
 simp_all
theorem JeJ{ns:List Int}{k:Int}(h0:0<=k)(h:k<(ns.length:Int)):atI ns k=some (cell ns k):=by
 obtain⟨j,rfl⟩:=Int.eq_ofNat_of_zero_le h0;have hj:j<ns.length:=by omega
 rw[JeK hj];simp[cell,hj]
theorem Wj{l:List Int}{k:Int}(h0:0<=k)(h1:k<(l.length:Int)):atI (l.map D.int) k=some (.int (JfH l k)):=by rw[Jdj,JeJ h0 h1];rfl
theorem WK{s:Sl}{ps:List Pr}(e:s.q=some (ps.map prE))(g:Good ps)(h:ps.length<=30):Jbo [s]=some (.sh (.row (ps.map prE))):=by
 show(s.q.bind _)=_
 grind[Jdb,Jbu]
section
variable{a b:Int}{xs ys:List D}{d:D}{x y:Str}{E:En}{B:Es}{r:Sl}
theorem Joa:Jhd B (.nx E)=B E:=rfl
theorem Job:Jhd B (.rt r)=some (.rt r):=rfl
theorem Jmz:Jgv (.nx E)=some (.sh .non):=rfl
theorem JmA:Jgv (.rt r)=some r:=rfl
theorem JrS{g:Int->Int->D}:fI g (.sh (.int a)) (.sh (.int b))=some (.sh (g a b)):=rfl
theorem JmP(h:(-18446744073709551616<a/\a<18446744073709551616)\/(-18446744073709551616<b/\b<18446744073709551616)):JdE (.sh (.int a)) (.sh (.int b))=some (.sh (.int (a*b))):=by show(if _ then _ else _)=_;rw[if_pos];simp only[Lk,V3];exact h
theorem JmO(h:0<b):WX (.sh (.int a)) (.sh (.int b))=some (.sh (.int (a % b))):=by
 show(if _ then _ else _)=_
 simp_all
theorem JmK(h:0<b/\b<1073741824):Je2 (.sh (.int a)) (.sh (.int b))=some (.sh (.int (a / b))):=by show(if _ then _ else _)=_;rw[if_pos (smallP_ok.mpr h)]
theorem JmR(h:0<=b/\b<=1000000/\-1000<a/\a<1000):Jgx (.sh (.int a)) (.sh (.int b))=some (.sh (.int (a ^ b.toNat))):=by
 show(if _ then _ else _)=_
 grind[KN,V3]
theorem JmQ:Jaf (.sh (.int a))=some (.sh (.int (-a))):=rfl
theorem JmD:JN (.sh (.int a)) (.sh (.int b))=some (.sh (.int (a+b))):=rfl
theorem JhS(h:x.length+y.length<=16777216):JN (.sh (.str x)) (.sh (.str y))=some (.sh (.str (x++y))):=if_pos h
theorem Jgr{p q:Sl}(h1:p.m=some xs)(h2:q.m=some ys)(h:xs.length+ys.length<=16777216):Ji8 p q=some (.own (xs++ys)):=by unfold Ji8;rw[h1,h2];exact if_pos h
theorem JmE(h:xs.length+ys.length<=16777216):JN (.own xs) (.own ys)=some (.own (xs++ys)):=Jgr rfl rfl h
theorem JmF(h:xs.length+ys.length<=16777216):JN (.own xs) (.sh (.lst ys))=some (.own (xs++ys)):=Jgr rfl rfl h
theorem JmG(h:xs.length+ys.length<=16777216):JN (.sh (.lst xs)) (.own ys)=some (.own (xs++ys)):=Jgr rfl rfl h
theorem JpE(h:x.length<=16777216):Vs [.sh (.str x)]=some (.sh (.int x.length)):=if_pos h
theorem JpD:Vs [.sh (.lst xs)]=some (.sh (.int xs.length)):=rfl
theorem JpC:Vs [.sh (.fz xs)]=some (.sh (.int xs.length)):=rfl
theorem JpF:Vs [.sh (.tup xs)]=some (.sh (.int xs.length)):=rfl
theorem JpB:Vs [.bo xs]=some (.sh (.int xs.length)):=rfl
theorem JrV:fIx (.sh (.lst xs)) (.sh (.int a))=(atI xs a).map .sh:=rfl
theorem JrU:fIx (.sh (.fz xs)) (.sh (.int a))=(atI xs a).map .sh:=rfl
theorem JrT:fIx (.bo xs) (.sh (.int a))=(atI xs a).map .sh:=rfl
theorem JrW:fIx (.own xs) (.sh (.int a))=(atI xs a).map .sh:=rfl
theorem JhV(h:a.natAbs.log2<1920):Jcq [.sh (.int a)]=some (.sh (.str (strI a))):=if_pos h
theorem Jpx:eqA (.int a) (.int b)=some (decide (a=b)):=rfl
theorem Jpy:eqA (.str x) (.str y)=some (decide (x=y)):=rfl
theorem JkI(h:-4611686018427387904<a/\a<4611686018427387904):JgE a=true:=by unfold JgE;rw[KN];omega
theorem JpK(h:-1152921504606846976<a/\a<1152921504606846976):Jbx a=true:=in60_ok.mpr h
theorem JlS(h:0<a/\a<1073741824):Jay a=true:=smallP_ok.mpr h
theorem Vl{s:Sl}{ns:List Int}(e:s.q=some (ns.map .int)):Jbp [s]=some (.sh (.int ns.sum)):=by
 show(s.q.bind _)=_
 grind[Jbz]
theorem JmJ{s:Sl}{ns:List Bool}(e:s.q=some (ns.map .bl)):JmI [s]=some (.sh (.bl (ns.any id))):=by
 show(s.q.bind _)=_
 grind[Jdl]
theorem JmH{s:Sl}{ns:List Bool}(e:s.q=some (ns.map .bl)):Jko [s]=some (.sh (.bl (ns.all id))):=by
 show(s.q.bind _)=_
 grind[Jdl]
theorem JrH{i:Nat}:(Pt.nm i).bind d E=if i<E.length then some (E.set i (.sh d)) else none:=by rw[Pt.bind]
theorem JrI{l:Pts}:(Pt.tp l).bind (.tup xs) E=l.bind xs E:=by rw[Pt.bind]
theorem Jmj:Pts.nil.bind [] E=some E:=by rw[Pts.bind]
theorem Jj0{q:Pt}{l:Pts}:(Pts.cons q l).bind (d::xs) E=(q.bind d E).bind fun E'=>l.bind xs E':=by rw[Pts.bind]
theorem Js2:((3:Nat):Int)=3:=rfl
theorem Jjg:D.isNon .non=true:=rfl
theorem Jje:D.isNon (.int a)=false:=rfl
theorem Jji:D.isNon (.str x)=false:=rfl
theorem Jjj:D.isNon (.tup xs)=false:=rfl
theorem Jjf:D.isNon (.lst xs)=false:=rfl
theorem Jjh:D.isNon (.row xs)=false:=rfl
end
end LE

namespace HT
open PySem PySem.Spec PyProof.Rows
section
variable{prog:Qu}{w:QJ}{A:QI}{E:Qc->Qe->Prop}{s:Qe}
theorem ZB{t sl:Qd}{items:Array Qc}{vl vu:Qc}{lo hi:Option Int}{Q:Qc->Qe->Prop}(ht:IsTup s.heap t items)(hs:s.heap.IsSliceOf sl vl vu .none)(pl:IsPart vl lo)(pu:IsPart vu hi)
 (hw:sIx items.size 0 lo=0/\sIx items.size items.size hi=items.size) (h:Q (.ref t) s):wpAny (model prog w) A (getItem (.ref t) (.ref sl)) Q E s:=by
 obtain⟨os,hos,hcs,hds⟩:=id hs;have hTs:s.TypeIs (.ref sl) "slice":=⟨os,hos,hcs⟩
 unfold getItem
 try with_reducible refine GQ ?_
 first|refine Qa (Qk ?_)|skip
 refine Qa (wpAny_sequenceKey ht.typeIs (by decide) ?_);refine Qa (QP (name:=Qx "__getitem__") ht.typeIs Gb
  (Q8 Gb ht.typeIs entry_tuple_getitem ?_ (args_tuple_getitem _ _)))
 show wpAny _ _ (Mc (.ref t) >>= _) _ _ s;refine Qa (tupleItemsOf_ ht ?_);refine Qa (MY hTs ?_);rw[if_pos (by decide)];refine Qa (VN hs pl pu ?_)
 have yes:(((sIx items.size 0 lo:Nat):Int) == 0 && (1:Int) == 1 && (sIx items.size items.size hi-sIx items.size 0 lo) == items.size)=true:=by rw[hw.1,hw.2];simp
 show wpAny _ _ (if (((sIx items.size 0 lo:Nat):Int) == 0 && (1:Int) == 1 && (sIx items.size items.size hi-sIx items.size 0 lo) == items.size)=true then _ else _) _ _ s;rw[if_pos yes];unfold Builtin.Tuple.tupleIsExact;refine Qa (Qa (MY ht.typeIs (Qk ?_)));rw[if_pos (by decide)];refine Qa (K5 ?_);exact Qk ⟨_,rfl,Qk h⟩
end
end HT
namespace L2
open PySem PySem.Spec PyProof.Rows
section
variable{X:Cx}{K:Qw}
noncomputable def JsH(K:Qw):V->Option Int->Option Int->Hp->VK->Prop:=fun x lo hi H Q=>∃a xs,x=.ref a/\SqT K H a xs/\(HT.sIx xs.length 0 lo=0/\HT.sIx xs.length xs.length hi=xs.length)/\Q (.ref a) H
theorem JlR:SlR X (JsH X.K):=by
 intro pins s σ H x v vl vu lo hi sl Q I rx hs pl pu h;obtain⟨a,xs,rfl,hx,hw,q⟩:=h;cases rx;obtain⟨its,r,ht,hz⟩:=I.tuple hx;have hlen:its.toArray.size=xs.length:=by rw[QW];exact r.length.symm
 refine⟨"tuple",_,Gb.lookup,ht.typeIs,?_⟩;exact HT.ZB ht hs pl pu (by rw[hlen];exact hw) ⟨.ref a,H,I,rfl,q⟩
noncomputable def JqT(K:Qw):V->Option Int->Option Int->Hp->VK->Prop:=fun x lo hi H Q=>JsE K x lo hi H Q\/JsG K x lo hi H Q\/JsH K x lo hi H Q
theorem Jet(hK:X.K=K):SlR X (JqT K):=by subst hK;exact sl_list.or (sl_tup.or JlR)
end
end L2
namespace LE
open PySem L2 LR
noncomputable def Jdw{α:Type}(xs:List α)(lo hi:Option Int):List α:=(xs.drop (HT.sIx xs.length 0 lo)).take (HT.sIx xs.length xs.length hi-HT.sIx xs.length 0 lo)
noncomputable def fSl(s:Sl)(lo hi:Option Int):Option Sl:=match s with
 | .sh (.tup ds)=>some (.sh (.tup (Jdw ds lo hi)))
 | s=>s.r.map fun ds=>.own (Jdw ds lo hi)
noncomputable def Wo(o:Option Ev):En->Option (Option Int):=fun E=>match o with
 | none=>some none
 | some a=>(a E).bind fun s=>match s with
  | .sh (.int i)=>some (some i)
  | _=>none
noncomputable def eSl(a:Ev)(lo hi:Option Ev):Ev:=fun E=>(a E).bind fun s=>(Wo lo E).bind fun l=>(Wo hi E).bind fun h=>fSl s l h
section
variable{K:Qw}{C:Qd}{te:TE}{ea:Ev}{tl th:TO}{el eh:Option Ev}
noncomputable def SP'(K:Qw)(C:Qd)(t:TO)(ev:En->Option (Option Int)):Prop:=∀(B H0 H:Hp) (σ:St) (E:En) (r:Option Int) (Q:Option Int->Hp->Prop),EnvR K C B H0 H σ E->ev E=some r ->
 (∀H0' H',Step H H0 H H0' H'->Q r H')->t σ H Q
theorem Wt:SP' K C JiE (Wo none):=fun _ _ _ _ _ _ _ I e q=>by cases e;exact q _ _ (.refl I.h)
theorem Wu(ha:SE K C te ea):SP' K C (JoZ te) (Wo (some ea)):=by
 intro B H0 H σ E r Q I e q;obtain⟨s,e1,e⟩:=bind_some e;split at e
 ·cases e;exact ha B H0 H σ E _ _ I e1 fun x H1 H1' s1 r1=>⟨_,RD.intI r1,q _ _ s1⟩
 ·cases e
theorem RDL.cut{H:Hp}{xs:List V}{ds:List D}{lo hi:Option Int}(r:RDL K C H xs ds):RDL K C H (Jco xs lo hi) (Jdw ds lo hi):=by unfold Jco Jdw;rw[r.1];exact(r.drop _).take _
theorem Jrf(ha:SE K C te ea)(hl:SP' K C tl (Wo el))(hh:SP' K C th (Wo eh)):SE K C (tSl (JqT K) te tl th) (eSl ea el eh):=by
 intro B H0 H σ E c Q I e q;obtain⟨s,e1,e⟩:=bind_some e;obtain⟨l,e2,e⟩:=bind_some e;obtain⟨h,e3,e⟩:=bind_some e;refine ha B H0 H σ E _ _ I e1 fun x H1 H1' s1 r1=>hl B H1 H1' σ E l _ (I.step s1) e2 fun H2 H2' s2=>hh B H2 H2' σ E h _ (I.step (s1.trans s2)) e3 fun H3 H3' s3=>?_
 have s13:=(s1.trans s2).trans s3
 have r3:=(r1.step s2).step s3
 have lst:∀{ds:List D},s.r=some ds->c=.own (Jdw ds l h)->JqT K x l h H3' Q:=fun {ds} er ec=>by subst ec;obtain⟨a,xs,rfl,hq,r⟩:=r3.r s13.i er;exact .inl ⟨a,xs,rfl,hq,fun p hp=>UX s13.i s13.h hp r.cut fun v H4 H4' s4 r4=>q v H4 H4' (s13.comp s4 fun _ z=>z) r4⟩
 unfold fSl at e;split at e
 ·cases e;obtain⟨a,xs,rfl,hq,r⟩:=RD.tupI r3
  by_cases hw:HT.sIx xs.length 0 l=0/\HT.sIx xs.length xs.length h=xs.length
  ·refine .inr (.inr ⟨a,xs,rfl,s13.i.seqT hq,hw,q _ _ _ s13 ?_⟩);have e5:Jco xs l h=xs:=by unfold Jco;rw[hw.1,hw.2];simp
   have r5:=r.cut (lo:=l) (hi:=h);rw[e5] at r5;exact RD.mkT hq r5
  ·exact .inr (.inl ⟨a,xs,rfl,s13.i.seqT hq,hw,fun p hp=>JeB s13.i s13.h hp r.cut fun v H4 H4' s4 r4=>q v H4 H4' (s13.comp s4 fun _ z=>z) r4⟩)
 ·obtain⟨ds,e4,e5⟩:=map_some e;exact lst e4 e5.symm
end
end LE

namespace PySem
section
variable{prog:Qu}{w:QJ}{A:QI}
theorem Draws.tup(hh:A.handled=none)(j a:Qd)(ne:a≠j)(xs:Array Qc):Draws prog w A j [j,a] xs.size (fun i v=>xs[i]?=some v) (fun i h=>h.IsTupleIter j a i/\h.IsTuple a xs) where
 live:=fun _ _ q=>let ⟨o,ho,_⟩:=q.1;⟨o,ho⟩
 frame:=fun _ _ _ q k=>⟨q.1.at fun o e=>k j (by simp) o e,q.2.at fun o e=>k a (by simp) o e⟩
 item:=fun i s Q E hi q hQ=>by
  obtain⟨o,ho,hc,hd⟩:=id q.1;obtain⟨ol,hol,_,nl,hdl⟩:=id q.2;have hx:xs[i]?=some xs[i]:=by simp[hi]
  unfold Q3;refine Qa (QP (name:=Qx "__next__") q.1.typeIs Kn (Q8 Kn q.1.typeIs L1 ?_ (LW _)));show wpAny _ _ (field (.ref j) 0 >>= _) _ _ s;refine Qa (QO ho hd (x:=.ref a) rfl ?_);show wpAny _ _ (if (Value.ref a == Value.none)=true then _ else _) _ _ s;rw[if_neg (show ¬((Value.ref a == Value.none)=true) from QB)]
  show wpAny _ _ (field (.ref j) 1 >>= _) _ _ s;refine Qa (QO ho hd (x:=.int i 0) rfl (show wpAny _ _ (seqItems? (.ref a) >>= _) _ _ s from Qa (Gv hol hdl ?_)));simp only[K1,hx];refine Qa (wpAny_setField ho hd (by simp) (Qk ⟨xs[i],rfl,Qk (hQ _ _ s.toks hx ⟨⟨_,GP _ ho (Obj.isFreed_of_fields (Obj.data_mapFields hd _)),(Obj.cls_mapFields ..).trans hc,?_⟩,q.2.extBut (LZ ..).extBut ne⟩ (LZ ..))⟩))
  rw[Obj.data_mapFields hd];simp[rawInt]
 done:=fun s Q E q hE=>by
  obtain⟨o,ho,hc,hd⟩:=id q.1;obtain⟨ol,hol,_,nl,hdl⟩:=id q.2;have hx:xs[xs.size]?=none:=by simp
  unfold Q3;refine Qa (QP (name:=Qx "__next__") q.1.typeIs Kn (Q8 Kn q.1.typeIs L1 ?_ (LW _)));show wpAny _ _ (field (.ref j) 0 >>= _) _ _ s;refine Qa (QO ho hd (x:=.ref a) rfl ?_);show wpAny _ _ (if (Value.ref a == Value.none)=true then _ else _) _ _ s;rw[if_neg (show ¬((Value.ref a == Value.none)=true) from QB)]
  show wpAny _ _ (field (.ref j) 1 >>= _) _ _ s;refine Qa (QO ho hd (x:=.int xs.size 0) rfl (show wpAny _ _ (seqItems? (.ref a) >>= _) _ _ s from Qa (Gv hol hdl ?_)));simp only[K1,hx];refine Qa (K5 (Qa (wpAny_setField ho hd (by simp) (show wpAny _ _ (newExc (.type "StopIteration") [] >>= _) _ _ _ from Qa ?_))));simp only[newExc,newTuple];refine Qa (Gz (Qa (m:=firstArgMember _ _) (Kt (a:=Value.none) (by rfl) (Gz ?_ (by size_fits)))) (by size_fits))
  simp only[raiseNew];refine Qa (wpAny_handled ?_)
  first|rw[show A.in1.handled=none from hh]|rw[hh]
  refine Qa (Qk (wpAny_throw ?_));exact hE _ _ (((LZ ..).extBut.push _).push _) ⟨_,Qj _ rfl,rfl⟩
end

structure ZA (z TI TO i1 i2:Qd) (p1 p2:List Qd):Prop where
 a1:TI≠z
 a2:TO≠z
 a3:TI≠TO
 m1:i1∈p1
 m2:i2∈p2
 z1:z∉p1
 z2:z∉p2
 t1:TI∉p1
 t2:TI∉p2
 o1:TO∉p1
 o2:TO∉p2
 x1:i1∉p2
 x2:i2∉p1
section
variable{prog:Qu}{w:QJ}{A:QI}{E:Qc->Qe->Prop}{s:Qe}{z TI TO i1 i2:Qd}{p1 p2:List Qd}{n1 n2 k:Nat}{P1 P2:Nat->Qc->Prop}{S1 S2:Nat->Q0->Prop}
theorem Jde{a b:Qc}{Q:Qc->Qe->Prop}(D:ZA z TI TO i1 i2 p1 p2)(D1:Draws prog w A i1 p1 n1 P1 S1)(D2:Draws prog w A i2 p2 n2 P2 S2)(gz:IsZip s.heap z TI TO .none)(gI:IsPair s.heap TI (.ref i1) (.ref i2))(gO:IsPair s.heap TO a b)
 (st1:S1 k s.heap) (st2:S2 k s.heap) (l1:k<n1) (l2:k<n2)
 (hQ:∀x y h' tk,P1 k x->P2 k y->IsZip h' z TI TO (rawInt s.heap.objs.size)->IsPair h' TI (.ref i1) (.ref i2)->IsPair h' TO x y->S1 (k+1) h'->S2 (k+1) h'->IsPair h' s.heap.objs.size x y->h'.objs.size=s.heap.objs.size+1 ->
  (∀c o,c≠z->c≠TO->c≠i1->c≠i2->s.heap.get? c=some o->h'.get? c=some o)->Q (.ref s.heap.objs.size) { s with heap:=h',toks:=tk }) :
 wpAny (model prog w) A (Builtin.«zip.__next__» ⟨[.ref z],[]⟩) (fun fin s'=>∃v,fin=.done (.ret v)/\Q v s') E s:=by
 obtain⟨hp,g,d,t0,os⟩:=s;have zi1:i1≠z:=fun q=>D.z1 (q▸D.m1)
 have zi2:i2≠z:=fun q=>D.z2 (q▸D.m2)
 have oi1:i1≠TO:=fun q=>D.o1 (q▸D.m1)
 have oi2:i2≠TO:=fun q=>D.o2 (q▸D.m2)
 have ii1:i1≠TI:=fun q=>D.t1 (q▸D.m1)
 have ii2:i2≠TI:=fun q=>D.t2 (q▸D.m2)
 have i12:i1≠i2:=fun q=>D.x1 (q▸D.m2)
 show wpAny _ _ (field (.ref z) 2 >>= _) _ _ _;refine Qa (QO gz rfl (x:=.bool false) rfl (show wpAny _ _ (field (.ref z) 3 >>= _) _ _ _ from Qa (QO gz rfl (x:=.ref TI) rfl (Qa (Gv gI rfl ?_)))))
 show wpAny _ _ (QD (.ref z) >>= _) _ _ _;refine Qa ?_;unfold QD;refine Qa (QO gz rfl (x:=.none) rfl (Qk ?_));simp only[if_true];refine Qa (K5 (Qa (QO gz rfl (x:=.ref TO) rfl (Qa (QR gz (by simp) fun k1 y1 e1=>?_)))))
 replace y1:IsZip k1 z TI TO .ellipsis:=y1
 replace e1:Qy z hp k1:=e1;refine Qa ?_;simp only[KD,List.zipIdx_nil,KS,Me];refine Qa (Qa (ME (show wpAny _ _ (Q3 (.ref i1) >>= _) _ _ _ from Qa (D1.item k _ _ _ l1 (D1.frame _ _ _ st1 fun b hb o q=>e1.extBut b o (fun r=>D.z1 (r▸hb)) q) fun x k2 t2 px s2 e2=>Qk ?_))))
 replace e2:Qy i1 k1 k2:=e2;have O2:IsPair k2 TO a b:=e2.extBut _ _ (QY oi1) (e1.extBut _ _ D.a2 gO);refine Qa (Gv (s:=⟨k2,g,d,t2,os⟩) O2 rfl (Qa (LP (s:=⟨k2,g,d,t2,os⟩) O2 fun k3 O3 e3=>?_)))
 replace O3:IsPair k3 TO x b:=O3
 replace e3:Qy TO k2 k3:=e3;refine Qa (Ku (Qk ?_));have st2':S2 k k3:=D2.frame _ _ _ st2 fun b hb o q=>e3.extBut b o (fun r=>D.o2 (r▸hb)) (e2.extBut b o (fun r=>D.x1 (r▸hb)) (e1.extBut b o (fun r=>D.z2 (r▸hb)) q))
 refine Qa (Qa (ME (show wpAny _ _ (Q3 (.ref i2) >>= _) _ _ _ from Qa (D2.item k _ _ _ l2 st2' fun y k4 t4 py s4 e4=>Qk ?_))))
 replace e4:Qy i2 k3 k4:=e4;have O4:IsPair k4 TO x b:=e4.extBut _ _ (QY oi2) O3;refine Qa (Gv (s:=⟨k4,g,d,t4,os⟩) O4 rfl (Qa (LP (s:=⟨k4,g,d,t4,os⟩) O4 fun k5 O5 e5=>?_)))
 replace O5:IsPair k5 TO x y:=O5
 replace e5:Qy TO k4 k5:=e5;refine Qa (Ku (Qk (Qk (Qa (Gv (s:=⟨k5,g,d,t4,os⟩) O5 rfl (Qa (Mf ?_)))))));have hsz:k5.objs.size=hp.objs.size:=by rw[e5.1,e4.1,e3.1,e2.1,e1.1]
 have Z5:IsZip k5 z TI TO .ellipsis:=e5.extBut _ _ (QY D.a2) (e4.extBut _ _ (QY zi2) (e3.extBut _ _ (QY D.a2) (e2.extBut _ _ (QY zi1) y1)))
 have keep5:∀c o,c≠z->c≠TO->c≠i1->c≠i2->hp.get? c=some o->k5.get? c=some o:=fun c o c1 c2 c3 c4 q=>e5.extBut _ _ c2 (e4.extBut _ _ c4 (e3.extBut _ _ c2 (e2.extBut _ _ c3 (e1.extBut _ _ c1 q))))
 have T1:S1 (k+1) k5:=D1.frame _ _ _ s2 fun b hb o q=>e5.extBut b o (fun r=>D.o1 (r▸hb)) (e4.extBut b o (fun r=>D.x2 (r▸hb)) (e3.extBut b o (fun r=>D.o1 (r▸hb)) q))
 have T2:S2 (k+1) k5:=D2.frame _ _ _ s4 fun b hb o q=>e5.extBut b o (fun r=>D.o2 (r▸hb)) q
 have zlt:z<k5.objs.size:=Qm Z5
 show wpAny _ _ (Gi (.ref z) (.ref k5.objs.size) >>= _) _ _ _;refine Qa ?_;unfold Gi
 have Z6:IsZip (k5.push { cls:=.type "tuple",data:=.seq #[x,y] }) z TI TO .ellipsis:=Qf _ Z5;refine Qa (QR Z6 (by simp) fun k7 Z7 e7=>?_)
 replace Z7:IsZip k7 z TI TO (rawInt k5.objs.size):=Z7
 replace e7:Qy z (k5.push { cls:=.type "tuple",data:=.seq #[x,y] }) k7:=e7;refine QR Z7 (by simp) fun k8 Z8 e8=>?_
 replace Z8:IsZip k8 z TI TO (rawInt k5.objs.size):=Z8
 replace e8:Qy z k7 k8:=e8;have up:∀c o,c≠z->k5.get? c=some o->k8.get? c=some o:=fun c o c1 q=>e8.extBut _ _ c1 (e7.extBut _ _ c1 (Qf _ q))
 have N8:IsPair k8 k5.objs.size x y:=e8.extBut _ _ (Gc zlt) (e7.extBut _ _ (Gc zlt) (Qj _ rfl))
 have z8:k8.objs.size=k5.objs.size+1:=by rw[e8.1,e7.1,GD]
 rw[hsz] at Z8 N8 z8;refine Qk ⟨_,rfl,?_⟩;show Q (.ref k5.objs.size) _;rw[hsz];refine hQ x y k8 t4 px py Z8 (up _ _ D.a1 (keep5 _ _ D.a1 D.a3 (QY ii1) (QY ii2) gI)) (up _ _ D.a2 O5) ?_ ?_ N8 z8 fun c o c1 c2 c3 c4 q=>up c o c1 (keep5 c o c1 c2 c3 c4 q)
 ·exact D1.frame _ _ _ T1 fun b hb o q=>up b o (fun r=>D.z1 (r▸hb)) q
 ·exact D2.frame _ _ _ T2 fun b hb o q=>up b o (fun r=>D.z2 (r▸hb)) q
theorem Jgf{a b:Qc}{Q:Fin->Qe->Prop}(D:ZA z TI TO i1 i2 p1 p2)(D1:Draws prog w A i1 p1 n1 P1 S1)(D2:Draws prog w A i2 p2 n2 P2 S2)(gz:IsZip s.heap z TI TO .none)(gI:IsPair s.heap TI (.ref i1) (.ref i2))(gO:IsPair s.heap TO a b)
 (st1:S1 k s.heap) (st2:S2 k s.heap) (hend:k=n1\/(k<n1/\k=n2))
 (hE:∀h' e tk,(∀c o,c≠z->c≠TO->c≠i1->c≠i2->s.heap.get? c=some o->h'.get? c=some o)->(∃o,h'.get? e=some o/\o.cls=.type "StopIteration")->E (.ref e) { s with heap:=h',toks:=tk }) :
 wpAny (model prog w) A (Builtin.«zip.__next__» ⟨[.ref z],[]⟩) Q E s:=by
 obtain⟨hp,g,d,t0,os⟩:=s;have zi1:i1≠z:=fun q=>D.z1 (q▸D.m1)
 have zi2:i2≠z:=fun q=>D.z2 (q▸D.m2)
 have oi1:i1≠TO:=fun q=>D.o1 (q▸D.m1)
 show wpAny _ _ (field (.ref z) 2 >>= _) _ _ _;refine Qa (QO gz rfl (x:=.bool false) rfl (show wpAny _ _ (field (.ref z) 3 >>= _) _ _ _ from Qa (QO gz rfl (x:=.ref TI) rfl (Qa (Gv gI rfl ?_)))))
 show wpAny _ _ (QD (.ref z) >>= _) _ _ _;refine Qa ?_;unfold QD;refine Qa (QO gz rfl (x:=.none) rfl (Qk ?_));simp only[if_true];refine Qa (K5 (Qa (QO gz rfl (x:=.ref TO) rfl (Qa (QR gz (by simp) fun k1 y1 e1=>?_)))))
 replace y1:IsZip k1 z TI TO .ellipsis:=y1
 replace e1:Qy z hp k1:=e1;refine Qa ?_;simp only[KD,List.zipIdx_nil,KS,Me];refine Qa (Qa (ME (show wpAny _ _ (Q3 (.ref i1) >>= _) _ _ _ from Qa ?_)));have q1:S1 k k1:=D1.frame _ _ _ st1 fun b hb o q=>e1.extBut b o (fun r=>D.z1 (r▸hb)) q
 rcases hend with rfl|⟨l1,rfl⟩
 ·refine D1.done _ _ _ q1 fun k2 e e2 he=>?_
  replace e2:Lq i1 k1 k2:=e2;obtain⟨oe,hoe,hce⟩:=he;have Z2:IsZip k2 z TI TO .ellipsis:=e2 _ _ (QY zi1) y1;have ez:e≠z:=fun q=>by grind
  exact QR Z2 (by simp) fun k3 _ e3=>hE k3 e t0 (fun c o c1 _ c3 _ q=>e3.extBut _ _ c1 (e2 _ _ c3 (e1.extBut _ _ c1 q))) ⟨oe,e3.extBut _ _ ez hoe,hce⟩
 ·refine D1.item k _ _ _ l1 q1 fun x k2 t2 px s2 e2=>Qk ?_
  replace e2:Qy i1 k1 k2:=e2;have O2:IsPair k2 TO a b:=e2.extBut _ _ (QY oi1) (e1.extBut _ _ D.a2 gO);refine Qa (Gv (s:=⟨k2,g,d,t2,os⟩) O2 rfl (Qa (LP (s:=⟨k2,g,d,t2,os⟩) O2 fun k3 O3 e3=>?_)))
  replace e3:Qy TO k2 k3:=e3;refine Qa (Ku (Qk ?_));have st2':S2 k k3:=D2.frame _ _ _ st2 fun b hb o q=>e3.extBut b o (fun r=>D.o2 (r▸hb)) (e2.extBut b o (fun r=>D.x1 (r▸hb)) (e1.extBut b o (fun r=>D.z2 (r▸hb)) q))
  refine Qa (Qa (ME (show wpAny _ _ (Q3 (.ref i2) >>= _) _ _ _ from Qa (D2.done _ _ _ st2' fun k4 e e4 he=>?_))))
  replace e4:Lq i2 k3 k4:=e4;obtain⟨oe,hoe,hce⟩:=he;have Z4:IsZip k4 z TI TO .ellipsis:=e4 _ _ (QY zi2) (e3.extBut _ _ (QY D.a2) (e2.extBut _ _ (QY zi1) y1));have ez:e≠z:=fun q=>by grind
  exact QR Z4 (by simp) fun k5 _ e5=>hE k5 e t2 (fun c o c1 c2 c3 c4 q=>e5.extBut _ _ c1 (e4 _ _ c4 (e3.extBut _ _ c2 (e2.extBut _ _ c3 (e1.extBut _ _ c1 q))))) ⟨oe,e5.extBut _ _ ez hoe,hce⟩
end
end PySem

namespace PySem
def IsSq(b:Bool)(h:Q0)(a:Qd)(xs:Array Qc):Prop:=match b with
 | true=>h.IsTuple a xs
 | false=>h.IsList a xs
def IsItr(b:Bool)(h:Q0)(j a:Qd)(i:Nat):Prop:=match b with
 | true=>h.IsTupleIter j a i
 | false=>h.IsListIter j a i
def itO(b:Bool)(a:Qd):Obj:=match b with
 | true=>{ cls:=.type "tuple_iterator",data:=.fields #[.ref a,.int 0 0] }
 | false=>{ cls:=.type "list_iterator",data:=.fields #[.ref a,.int 0 0] }
section
variable{prog:Qu}{w:QJ}{A:QI}{E:Qc->Qe->Prop}{s:Qe}{b b1 b2:Bool}{a a1 a2:Qd}{xs ys:Array Qc}
theorem IsSq.push{h:Q0}(q:IsSq b h a xs)(o:Obj):IsSq b (h.push o) a xs:=by
 cases b with
 | true=>exact Heap.IsTuple.push q o
 | false=>exact Heap.IsList.push q o
theorem IsSq.lt{h:Q0}(q:IsSq b h a xs):a<h.objs.size:=by
 cases b with
 | true=>obtain⟨o,e,_⟩:=q;exact Qm e
 | false=>obtain⟨o,e,_⟩:=q;exact Qm e
theorem IsItr.new{h:Q0}(e:h.get? a1=some (itO b a)):IsItr b h a1 a 0:=by
 cases b with
 | true=>exact⟨_,e,rfl,rfl⟩
 | false=>exact⟨_,e,rfl,rfl⟩
theorem Ug{Q:Qc->Qe->Prop}(q:IsSq b s.heap a xs)(h:Q (.ref s.heap.objs.size) { s with heap:=s.heap.push (itO b a) }):wpAny (model prog w) A (pyIter (.ref a)) Q E s:=by
 cases b with
 | true=>exact Ma q h
 | false=>exact Mr q h
theorem Draws.sq(hh:A.handled=none)(j:Qd)(ne:a≠j):Draws prog w A j [j,a] xs.size (fun i v=>xs[i]?=some v) (fun i h=>IsItr b h j a i/\IsSq b h a xs):=by
 cases b with
 | true=>exact Draws.tup hh j a ne xs
 | false=>exact Draws.list hh j a ne xs
abbrev zP1(h:Q0)(b1:Bool)(a1:Qd):Q0:=h.push (itO b1 a1)
abbrev zP2(h:Q0)(b1 b2:Bool)(a1 a2:Qd):Q0:=(zP1 h b1 a1).push (itO b2 a2)
abbrev zP3(h:Q0)(b1 b2:Bool)(a1 a2:Qd):Q0:=(zP2 h b1 b2 a1 a2).push { cls:=.type "tuple",data:=.seq #[.ref h.objs.size,.ref (zP1 h b1 a1).objs.size] }
abbrev zP4(h:Q0)(b1 b2:Bool)(a1 a2:Qd):Q0:=(zP3 h b1 b2 a1 a2).push { cls:=.type "tuple",data:=.seq #[.none,.none] }
abbrev zP5(h:Q0)(b1 b2:Bool)(a1 a2:Qd):Q0:=(zP4 h b1 b2 a1 a2).push { cls:=.type "zip",data:=.fields #[.none,.bool false,.bool false,.ref (zP2 h b1 b2 a1 a2).objs.size,.ref (zP3 h b1 b2 a1 a2).objs.size] }
theorem JgN(b1 b2:Bool)(a1 a2:Qd)(xs ys:Array Qc):Meets (Builtin.«zip.__new__» ⟨[.type "zip",.ref a1,.ref a2],[]⟩) (fun _ R s=>IsSq b1 s.heap a1 xs/\IsSq b2 s.heap a2 ys ∧
 R (.ok (.ret (.ref (zP4 s.heap b1 b2 a1 a2).objs.size))) { s with heap:=zP5 s.heap b1 b2 a1 a2 }) :=
 .of_wp fun prog w A R s h=>by obtain⟨hp,g,d,tk,os⟩:=s;obtain⟨q1,q2,h⟩:=h;have hsub:=sub_zip;have r1:IsSq b1 (Ro ⟨hp,g,d,tk,os⟩) a1 xs:=q1;have r2:IsSq b2 (Ro ⟨hp.push (itO b1 a1),g,d,tk,os⟩) a2 ys:=IsSq.push q2 _;wp_walk using Ug r1,Ug r2;exact⟨_,rfl,h⟩
theorem JcI{Q:Qc->Qe->Prop}(q1:IsSq b1 s.heap a1 xs)(q2:IsSq b2 s.heap a2 ys)
 (h:∀h',IsZip h' (s.heap.objs.size+4) (s.heap.objs.size+2) (s.heap.objs.size+3) .none->IsPair h' (s.heap.objs.size+2) (.ref s.heap.objs.size) (.ref (s.heap.objs.size+1))->IsPair h' (s.heap.objs.size+3) .none .none ->
  IsItr b1 h' s.heap.objs.size a1 0->IsItr b2 h' (s.heap.objs.size+1) a2 0->(∀c o,s.heap.get? c=some o->h'.get? c=some o)->Q (.ref (s.heap.objs.size+4)) { s with heap:=h' }) :
 wpAny (model prog w) A (call (.type "zip") [.ref a1,.ref a2]) Q E s:=by
 refine callType_new F.called_zip (by decide) (F.typeCall_zip_2 _ _) (F.newCall_zip_2 _ _) (fun obj=>F.args_object_init_3 obj _ _) F.entry_zip_new (JgN b1 b2 a1 a2 xs ys) ⟨q1,q2,?_⟩;have z1:(zP1 s.heap b1 a1).objs.size=s.heap.objs.size+1:=GD ..;have z2:(zP2 s.heap b1 b2 a1 a2).objs.size=s.heap.objs.size+2:=by rw[GD,z1]
 have z3:(zP3 s.heap b1 b2 a1 a2).objs.size=s.heap.objs.size+3:=by rw[GD,z2]
 have z4:(zP4 s.heap b1 b2 a1 a2).objs.size=s.heap.objs.size+4:=by rw[GD,z3]
 have up:∀{k:Q0} {c:Qd} {o u:Obj},k.get? c=some o->(k.push u).get? c=some o:=fun q=>Qf _ q
 have fi1:(itO b1 a1).isFreed=false:=by cases b1 <;> rfl
 have fi2:(itO b2 a2).isFreed=false:=by cases b2 <;> rfl
 have g5:(zP5 s.heap b1 b2 a1 a2).get? (zP4 s.heap b1 b2 a1 a2).objs.size=some _:=Qj _ rfl
 have g4:(zP5 s.heap b1 b2 a1 a2).get? (zP3 s.heap b1 b2 a1 a2).objs.size=some _:=up (Qj _ rfl)
 have g3:(zP5 s.heap b1 b2 a1 a2).get? (zP2 s.heap b1 b2 a1 a2).objs.size=some _:=up (up (Qj _ rfl))
 have g2:(zP5 s.heap b1 b2 a1 a2).get? (zP1 s.heap b1 a1).objs.size=some _:=up (up (up (Qj _ fi2)))
 have g1:(zP5 s.heap b1 b2 a1 a2).get? s.heap.objs.size=some _:=up (up (up (up (Qj _ fi1))))
 show _/\_;rw[z2,z3,z4] at g5;rw[z1,z2] at g3;rw[z3] at g4;rw[z1] at g2;rw[z4];exact⟨⟨_,g5,rfl⟩,h _ g5 g3 g4 (.new g1) (.new g2) fun c o q=>up (up (up (up (up q))))⟩
end
end PySem

namespace L2
open PySem PySem.Spec PyProof.Rows
section
variable{X:Cx}{pins:List (Qd×Obj)}{σ:St}{H:Hp}{s:Qe}{h':Q0}
theorem Inv.turnedL{t':Nat}{fp:List Qd}(I:Inv X pins σ H s)(k:∀b o,b∉fp->s.heap.get? b=some o->h'.get? b=some o)(hf:∀b∈fp,FpOk X pins H b):Inv X pins σ H { s with heap:=h',toks:=t' }:=by
 have nit:∀b u,H b=some u->b∉fp:=fun b u e z=>by rw[(hf b z).1] at e;cases e
 refine I.step (g':=s.gens) (d':=s.drawn) (ch:=fp) (fun b hb=>?_) (fun b o _ _ hc e _=>k b o hc e) (fun b o _ _ hc e _=>⟨o.slots,k b o hc e⟩) (fun _ _ _ _ n=>n)
  (fun b o hc e=>⟨o,k b o hc e⟩) (fun _ _ e=>e) (fun _ _ _ e=>e) (fun _ _ _ _ _ e=>e) (fun m hm=>?_) (fun b u e=>?_) I.bare
 ·obtain⟨f0,f1,f2,f3,f4,f5⟩:=hf b hb;exact⟨f3,f1,f4,f5⟩
 ·obtain⟨o,es,ep,ho,r⟩:=hm;exact⟨o,es,ep,k _ o (fun z=>(hf _ z).2.1 rfl) ho,r⟩
 ·refine(I.hok b u e).stay (fun c v hc q=>k c v ?_ q) (fun _ q=>q) fun _ _ q=>q
  grind
noncomputable def Sq(b:Bool)(K:Qw)(H:Hp)(a:Qd)(xs:List V):Prop:=match b with
 | true=>SqT K H a xs
 | false=>SqL K H a xs
theorem Sq.heap{b:Bool}{a:Qd}{xs:List V}(I:Inv X pins σ H s)(q:Sq b X.K H a xs):∃its:List Qc,Vals xs its/\IsSq b s.heap a its.toArray:=by
 cases b with
 | true=>obtain⟨its,r,p,_⟩:=I.tuple q;exact⟨its,r,p⟩
 | false=>obtain⟨its,r,p,_⟩:=I.list q;exact⟨its,r,p.isList⟩
theorem Sq.inj{b:Bool}{a:Qd}{xs ys:List V}(I:Inv X pins σ H s)(q:Sq b X.K H a xs)(q':Sq b X.K H a ys):xs=ys:=by
 cases b with
 | true=>exact I.tuple_inj q q'
 | false=>exact I.list_inj q q'
theorem FpOk.off{b:Bool}{a c:Qd}{xs:List V}(I:Inv X pins σ H s)(q:Sq b X.K H a xs)(f:FpOk X pins H c):a≠c:=by
 intro e;subst e;have own:∀{o:HO},H a=some o->False:=fun h=>by rw[f.1] at h;cases h
 have mod:∀{o:Obj},X.K.lookup a=some o->False:=fun {o} h=>by
  have hb:=I.ok.mod.kin a o h;rcases f.2.2.2.1 with z|z
  ·exact I.ok.noex a o hb z
  ·exact absurd (Qm hb) (Nat.not_lt.mpr (Gj I.ok.bsz z))
 cases b with
 | true =>
  rcases q with (h|⟨o,h⟩)|⟨o,its,n,h,_⟩
  ·exact own h
  ·exact own h
  ·exact mod h
 | false =>
  rcases q with (h|⟨o,h⟩)|⟨o,its,n,h,_⟩
  ·exact own h
  ·exact own h
  ·exact mod h
noncomputable def Itz(K:Qw)(b1 b2:Bool)(a1 a2:Qd):It :=
 ⟨fun i H=>∃xs ys x y,Sq b1 K H a1 xs/\Sq b2 K H a2 ys/\xs[i]?=some x/\ys[i]?=some y,
  fun i H x H'=>∃p u v,x=.ref p/\H p=none/\H'=upd H p (.tup [u,v])/\∀xs ys,Sq b1 K H a1 xs->Sq b2 K H a2 ys->xs[i]?=some u/\ys[i]?=some v,
  fun i H=>∃xs ys,Sq b1 K H a1 xs/\Sq b2 K H a2 ys/\i=min xs.length ys.length⟩
noncomputable def ZSt(b1 b2:Bool)(a1 a2 z TI TO i1 i2:Qd)(i:Nat)(h:Q0):Prop:=IsZip h z TI TO .none/\IsPair h TI (.ref i1) (.ref i2)/\(∃a b,IsPair h TO a b)/\IsItr b1 h i1 a1 i/\IsItr b2 h i2 a2 i
theorem IsItr.keep{b:Bool}{h h':Q0}{j a:Qd}{i:Nat}(q:IsItr b h j a i)(k:∀o,h.get? j=some o->h'.get? j=some o):IsItr b h' j a i:=by
 cases b with
 | true=>obtain⟨o,e,r⟩:=q;exact⟨o,k o e,r⟩
 | false=>obtain⟨o,e,r⟩:=q;exact⟨o,k o e,r⟩
theorem IsItr.obj{b:Bool}{h:Q0}{j a:Qd}{i:Nat}(q:IsItr b h j a i):∃o,h.get? j=some o/\∀v,o.data≠.cell v:=by
 cases b with
 | true=>obtain⟨o,e,_,d⟩:=q;simp_all
 | false=>obtain⟨o,e,_,d⟩:=q;simp_all
end
theorem Jpb{X:Cx}{pins:List (Qd×Obj)}{σ:St}{H:Hp}{s:Qe}{b1 b2:Bool}{a1 a2 z TI TO i1 i2:Qd}{xs ys:List V}(I:Inv X pins σ H s)(q1:Sq b1 X.K H a1 xs)(q2:Sq b2 X.K H a2 ys)(hf:∀b∈[z,TI,TO,i1,i2],FpOk X pins H b)
 (nd:[z,TI,TO,i1,i2].Nodup):ZA z TI TO i1 i2 [i1,a1] [i2,a2]:=by
 have o1:∀c∈[z,TI,TO,i1,i2],a1≠c:=fun c hc=>FpOk.off I q1 (hf c hc)
 have o2:∀c∈[z,TI,TO,i1,i2],a2≠c:=fun c hc=>FpOk.off I q2 (hf c hc)
 simp only[Ge,Qp,Gd,or_false,not_or] at nd;obtain⟨⟨n1,n2,n3,n4⟩,⟨n5,n6,n7⟩,⟨n8,n9⟩,n10,_⟩:=nd;have c1:=o1 z (by simp);have c2:=o1 TI (by simp);have c3:=o1 TO (by simp);have c4:=o1 i2 (by simp);have d1:=o2 z (by simp);have d2:=o2 TI (by simp);have d3:=o2 TO (by simp);have d4:=o2 i1 (by simp);refine⟨QY n1,QY n2,n5,by simp,by simp,?_,?_,?_,?_,?_,?_,?_,?_⟩ <;> simp only[Qp,Gd,or_false,not_or]
 ·exact⟨n3,QY c1⟩
 ·exact⟨n4,QY d1⟩
 ·exact⟨n6,QY c2⟩
 ·exact⟨n7,QY d2⟩
 ·exact⟨n8,QY c3⟩
 ·exact⟨n9,QY d3⟩
 ·exact⟨n10,QY d4⟩
 ·exact⟨QY n10,QY c4⟩
theorem Jma{P:Qu}{w:QJ}{K:Qw}{elts:List Q4}{kk:Nat}{pos:Pos}(b1 b2:Bool)(a1 a2 z TI TO i1 i2:Qd)(nd:[z,TI,TO,i1,i2].Nodup) :
 Turn P w K (.Tuple elts kk pos) (Itz K b1 b2 a1 a2) [z,TI,TO,i1,i2] z (ZSt b1 b2 a1 a2 z TI TO i1 i2) where
 mem:=by simp
 obj:=fun i h st b hb=>by
  obtain⟨s1,s2,⟨u,v,s3⟩,s4,s5⟩:=st
  grind[IsItr.obj]
 keep:=fun i h h' st k=>by obtain⟨s1,s2,⟨u,v,s3⟩,s4,s5⟩:=st;exact⟨k z (by simp) _ s1,k TI (by simp) _ s2,⟨u,v,k TO (by simp) _ s3⟩,IsItr.keep (b:=b1) s4 fun o e=>k i1 (by simp) o e,IsItr.keep (b:=b2) s5 fun o e=>k i2 (by simp) o e⟩
 item:=by
  intro X hP hw hK hc i pins s σ H E I hf st hg;subst hP hw hK;obtain⟨xs,ys,x,y,q1,q2,e1,e2⟩:=hg;obtain⟨its,r1,p1⟩:=q1.heap I;obtain⟨jts,r2,p2⟩:=q2.heap I;obtain⟨s1,s2,⟨u0,v0,s3⟩,s4,s5⟩:=st;have Z:=Jpb I q1 q2 hf nd;have hh:X.A.in1.handled=none:=I.ok.hd hc;have ne1:a1≠i1:=FpOk.off I q1 (hf i1 (by simp));have ne2:a2≠i2:=FpOk.off I q2 (hf i2 (by simp));have D1:=Draws.sq (prog:=X.prog) (w:=X.w) (b:=b1) (xs:=its.toArray) hh i1 ne1
  have D2:=Draws.sq (prog:=X.prog) (w:=X.w) (b:=b2) (xs:=jts.toArray) hh i2 ne2
  have hT:s.TypeIs (.ref z) "zip":=⟨_,s1,rfl⟩
  have l1:i<its.toArray.size:=by have:=(Qn.mp e1).1;rw[QW,<- r1.length];exact this
  have l2:i<jts.toArray.size:=by have:=(Qn.mp e2).1;rw[QW,<- r2.length];exact this
  unfold pyNext;refine Qa (GK (QP (name:=Qx "__next__") hT GF (Q8 GF hT KE (Jde Z D1 D2 s1 s2 s3 ⟨s4,p1⟩ ⟨s5,p2⟩ l1 l2 fun u v k tk pu pv t1 t2 t3 t4 t5 t6 t7 t8=>Qk ?_) (Kv _))));refine⟨_,rfl,wpAny_letOwnedTupleGo_zip (s:={ s with heap:=k,toks:=tk }) t1 fun k2 t9 e9=>?_⟩
  replace e9:Qy z k k2:=e9;obtain⟨ux,hx1,rx⟩:=r1.get e1;obtain⟨uy,hy1,ry⟩:=r2.get e2
  have eu:u=ux:=by simp_all
  have ev:v=uy:=by simp_all
  subst eu ev
  have zlt:∀b∈[z,TI,TO,i1,i2],b<s.heap.objs.size:=fun b hb=>by
   simp only[Qp,Gd,or_false] at hb;rcases hb with rfl|rfl|rfl|rfl|rfl
   ·exact Qm s1
   ·exact Qm s2
   ·exact Qm s3
   ·obtain⟨_,e,_⟩:=IsItr.obj (b:=b1) s4;exact Qm e
   ·obtain⟨_,e,_⟩:=IsItr.obj (b:=b2) s5;exact Qm e
  have nz:s.heap.objs.size≠z:=Gc (zlt z (by simp))
  -- the pair is laid,then the private objects turn
  have I1:Inv X pins σ (upd H s.heap.objs.size (.tup [x,y])) { s with heap:=s.heap.push { cls:=.type "tuple",data:=.seq #[u,v] },toks:=s.toks } :=
   I.laid (o:=.tup [x,y]) (fun b ob q=>Qf _ q) (Qo _) ⟨by show 2<=Qq;decide,[u,v],.cons rx (.cons ry .nil),⟨_,Qj _ rfl,rfl,_,rfl⟩⟩
  have hf1:∀b∈[z,TI,TO,i1,i2],FpOk X pins (upd H s.heap.objs.size (.tup [x,y])) b:=fun b hb=>⟨by rw[Jl (QQ (zlt b hb))];exact(hf b hb).1,(hf b hb).2⟩
  have I2:Inv X pins σ (upd H s.heap.objs.size (.tup [x,y])) { s with heap:=k2,toks:=tk }:=Inv.turnedL (s:={ s with heap:=s.heap.push { cls:=.type "tuple",data:=.seq #[u,v] },toks:=s.toks }) I1 (fun b o hb q=>by
   simp only[Qp,Gd,or_false,not_or] at hb;refine e9.extBut b o hb.1 ?_
   by_cases hbs:b=s.heap.objs.size
   ·subst hbs;have q':(s.heap.push { cls:=.type "tuple",data:=.seq #[u,v] }).get? s.heap.objs.size=some o:=q;rw[Qj _ rfl] at q'
    simp_all
   grind[Lw]) hf1
  refine⟨.ref s.heap.objs.size,_,I2,rfl,⟨_,x,y,rfl,I.hok.fresh (Qo _),rfl,fun xs' ys' h1 h2=>?_⟩,⟨t9,e9.extBut _ _ Z.a1 t2,⟨_,_,e9.extBut _ _ Z.a2 t3⟩,?_,?_⟩,fun b hb=>(hf1 b hb).1⟩
  ·rw[Sq.inj I h1 q1,Sq.inj I h2 q2];exact⟨e1,e2⟩
  ·exact IsItr.keep (b:=b1) t4.1 fun o e=>e9.extBut _ _ (fun q=>Z.z1 (q▸Z.m1)) e
  ·exact IsItr.keep (b:=b2) t5.1 fun o e=>e9.extBut _ _ (fun q=>Z.z2 (q▸Z.m2)) e
 done:=by
  intro X hP hw hK hc i pins s σ H E I hf st hg;subst hP hw hK;obtain⟨xs,ys,q1,q2,ei⟩:=hg;obtain⟨its,r1,p1⟩:=q1.heap I;obtain⟨jts,r2,p2⟩:=q2.heap I;obtain⟨s1,s2,⟨u0,v0,s3⟩,s4,s5⟩:=st;have Z:=Jpb I q1 q2 hf nd;have hh:X.A.in1.handled=none:=I.ok.hd hc;have D1:=Draws.sq (prog:=X.prog) (w:=X.w) (b:=b1) (xs:=its.toArray) hh i1 (FpOk.off I q1 (hf i1 (by simp)));have D2:=Draws.sq (prog:=X.prog) (w:=X.w) (b:=b2) (xs:=jts.toArray) hh i2 (FpOk.off I q2 (hf i2 (by simp)))
  have hT:s.TypeIs (.ref z) "zip":=⟨_,s1,rfl⟩
  have n1:its.toArray.size=xs.length:=by rw[QW,r1.length]
  have n2:jts.toArray.size=ys.length:=by rw[QW,r2.length]
  unfold pyNext;refine Qa (GK (QP (name:=Qx "__next__") hT GF (Q8 GF hT KE (Jgf Z D1 D2 s1 s2 s3 ⟨s4,p1⟩ ⟨s5,p2⟩ (by omega) fun k e tk kk he=>?_) (Kv _))));obtain⟨o,ho,hoc⟩:=he;refine Qa (Kh (T:="StopIteration") (b:=true) ⟨o,ho,hoc⟩ K6 (Qk ⟨rfl,?_⟩));exact I.turnedL (fun b o hb q=>by simp_all) hf
 self:=fun _ _ _ _ _ st h=>MO st.1 h
noncomputable def iZp(K:Qw)(ta:TA):TI:=fun σ H R=>ta σ H fun vs H1=>∃(b1 b2:Bool) (a1 a2:Qd) (xs ys:List V),vs=[.ref a1,.ref a2]/\Sq b1 K H1 a1 xs/\Sq b2 K H1 a2 ys/\R (Itz K b1 b2 a1 a2) H1
theorem JnL{X:Cx}{K:Qw}{elts:List Q4}{kk:Nat}{tpos:Pos}{a b:Q4}{ta:TA}{p pos:Pos}(hK:X.K=K)(hg:Gl X "zip")(hm:X.mg "zip"=none)(ha:PA X [a,b] ta)(hs:starEach [a,b] X.env=[(false,eval a X.env),(false,eval b X.env)]:=by rfl)
 (hs2:starEach [b] X.env=[(false,eval b X.env)]:=by rfl):PI X (.Tuple elts kk tpos) (.Call (.Name "zip" p) [a,b] [] pos) (iZp K ta):=by
 subst hK;intro pins s σ H R I h;refine Call_ (Vb I hg hm Jj4 (Gk (thn (ha pos pins s σ H _ I h) fun us s1 ⟨vs,H1,I1,r1,q1⟩=>?_) (by rw[hs,hs2]) (by rw[hs2];rfl)));obtain⟨b1,b2,a1,a2,xs,ys,e,c1,c2,q⟩:=q1;subst e
 cases r1 with
 | cons r rr =>
 cases rr with
 | cons r' rr =>
 cases rr;cases r;cases r';obtain⟨its,w1,p1⟩:=c1.heap I1;obtain⟨jts,w2,p2⟩:=c2.heap I1;refine JcI p1 p2 fun h' t1 t2 t3 t4 t5 kp=>MO t1 ?_
 refine⟨_,[s1.heap.objs.size+4,s1.heap.objs.size+2,s1.heap.objs.size+3,s1.heap.objs.size,s1.heap.objs.size+1],_,_,H1,rfl,I1.kept (t':=s1.toks) kp,Jma b1 b2 a1 a2 _ _ _ _ _ (by simp),⟨t1,t2,⟨_,_,t3⟩,t4,t5⟩,fun b hb=>?_,q⟩
 have hle:s1.heap.objs.size<=b:=by simp only[Qp,Gd,or_false] at hb;rcases hb with rfl|rfl|rfl|rfl|rfl <;> first|exact Qo _|exact LL _ _
 exact I1.fpOk hle (I1.hok.fresh hle)
end L2

namespace LE
open PySem L2 LR
noncomputable def JeF(ds es:List D):List D:=List.zipWith (fun a b=>.tup [a,b]) ds es
noncomputable def JpJ(m:Bool)(as:En->Option (List Sl)):En->Option (List D):=fun E=>(as E).bind fun ss=>match ss with
 | [s,t]=>(s.it m).bind fun ds=>(t.it m).bind fun es=>some (JeF ds es)
 | _=>none
section
variable{K:Qw}{C:Qd}{m:Bool}
theorem JgA{H H1 H1':Hp}{v:V}{s:Sl}{ds:List D}(r:RR K C H H1 H1' v s)(i:Same H1 H1')(e:s.it m=some ds) :
 ∃(b:Bool) (a:Qd) (xs:List V),v=.ref a/\(∀A,(m=true->A=H1')->∀H0' H',SStep A (JT H H1 H1') H0' H'->Sq b K H' a xs)/\RDL K C (JT H H1 H1') xs ds:=by
 have f:=JI (Hs:=H) i
 have shared:∀{d:D},RD K C (JT H H1 H1') v d->(Sl.sh d).q=some ds->∃(b:Bool) (a:Qd) (xs:List V),v=.ref a/\(∀A,(m=true->A=H1')->∀H0' H',SStep A (JT H H1 H1') H0' H'->Sq b K H' a xs)/\RDL K C (JT H H1 H1') xs ds:=fun {d} r e=>by
  cases d with
  | lst es=>cases e;obtain⟨l,xs,h1,h2,h3⟩:=RD.lstI r;exact⟨false,l,xs,h1,fun A _ H0' H' st=>SqL.of (st.i _ _ (st.z _ _ h2)),h3⟩
  | fz es=>cases e;obtain⟨l,xs,h1,h2,h3⟩:=RD.fzI r;exact⟨false,l,xs,h1,fun A _ H0' H' st=>(st.z.trans st.i).seq h2,h3⟩
  | tup es=>cases e;obtain⟨l,xs,h1,h2,h3⟩:=RD.tupI r;exact⟨true,l,xs,h1,fun A _ H0' H' st=>(st.z.trans st.i).seqT h2,h3⟩
  | _=>cases e
 cases s with
 | no=>cases e
 | sh d=>exact shared (RD.mono f.z r) e
 | own es=>exact shared (RR.frz (s:=.own es) i r rfl) e
 | bd _ _=>cases e
 | bt _ _=>cases e
 | bw _ _=>cases e
 | od _ _=>cases e
 | ot _ _=>cases e
 | dw _ _=>cases e
 | bo es =>
  unfold Sl.it at e;dsimp only at e;split at e
  ·next hm=>cases e;obtain⟨l,xs,h1,h2,h3⟩:=r;refine⟨false,l,xs,h1,fun A hA H0' H' st=>?_,h3.mono f.z⟩;have:=hA hm;subst this;exact SqL.of (st.b _ _ h2)
  ·cases e
theorem Jrd{t:TA}{ev:En->Option (List Sl)}(ha:SA K C t ev):SI K C m (iZp K t) (JpJ m ev):=by
 intro B H0 H σ E ds R I e q;obtain⟨ss,e1,e⟩:=bind_some e;split at e
 ·next s u =>
  obtain⟨ds1,e2,e⟩:=bind_some e;obtain⟨ds2,e3,e⟩:=bind_some e;cases e;refine ha B H0 H σ E _ _ I e1 fun vs H1 H1' s1 r1=>?_
  obtain⟨v,w,rfl,ra,rb⟩:=r1.two;have f:=JI (Hs:=H) s1.i;obtain⟨b1,a1,xs,rfl,k1,w1⟩:=JgA ra s1.i e2;obtain⟨b2,a2,ys,rfl,k2,w2⟩:=JgA rb s1.i e3;have hA:m=true->(if m=true then H1' else B)=H1':=fun h=>if_pos h
  have sA:Same (if m=true then H1' else B) H1':=by
   split
   ·exact Same.refl _
   ·exact I.b.trans s1.h
  have st0:SStep (if m=true then H1' else B) (JT H H1 H1') (JT H H1 H1') H1':=⟨sA,Same.refl _,fun _ _ e=>.inl e,f.i⟩
  refine⟨b1,b2,a1,a2,xs,ys,rfl,k1 _ hA _ _ st0,k2 _ hA _ _ st0,q _ _ _ (s1.comp f fun _ z=>z) ?_⟩;intro H0' H' st;have q1:=k1 _ hA _ _ st;have q2:=k2 _ hA _ _ st;refine⟨fun i d e=>?_,⟨xs,ys,q1,q2,by unfold JeF;rw[List.length_zipWith,w1.1,w2.1]⟩⟩;unfold JeF at e;rw[Rb] at e
  cases g1:ds1[i]? with
  | none=>rw[g1] at e;cases e
  | some d1 =>
   cases g2:ds2[i]? with
   | none=>simp_all
   | some d2 =>
    rw[g1,g2] at e;cases e;obtain⟨x,x1,x2⟩:=w1.get g1;obtain⟨y,y1,y2⟩:=w2.get g2;refine⟨⟨xs,ys,x,y,q1,q2,x1,y1⟩,?_⟩;rintro z H2 ⟨p,u',v',rfl,hp,rfl,hv⟩;obtain⟨h1,h2⟩:=hv xs ys q1 q2;rw[x1] at h1;cases h1;rw[y1] at h2;cases h2;have h0:H0' p=none:=Same.free st.i hp;refine⟨upd H0' p (.tup [x,y]),⟨.new hp,.new h0,fun a o e=>?_,fun a o e=>?_⟩,?_⟩
    ·grind[Jl]
    ·by_cases h:a=p
     ·subst h;rw[Jw] at e ⊢;exact e
     ·rw[Jl h] at e ⊢;exact st.i a o e
    ·exact .mkT (.of Jw) (.cons (x2.mono (st.z.trans (.new h0))) (.cons (y2.mono (st.z.trans (.new h0))) .nil))
 ·cases e
theorem JiP{α β:Type}(f:α->D)(g:β->D)(xs:List α)(ys:List β):JeF (xs.map f) (ys.map g)=(List.zip xs ys).map fun p=>.tup [f p.1,g p.2]:=by
 unfold JeF
 induction xs generalizing ys with
 | nil=>rfl
 | cons x xs ih=>cases ys with
  | nil=>rfl
  | cons y ys=>simp[ih]
end
end LE

namespace PySem
namespace F
theorem Jei:Slot "reversed" "__init__" "object.__init__" :=
 .of (owner:="object") (n:="__init__") (by rfl) (by decide +kernel) (by decide +kernel) (by decide +kernel) (by solve_by_elim) (by rfl)
theorem rv_slot_next:Slot "reversed" "__next__" "reversed.__next__" :=
 .of (owner:="reversed") (n:="__next__") (by rfl) (by decide +kernel) (by decide +kernel) (by decide +kernel) (by solve_by_elim) (by rfl)
theorem rv_slot_iter:Slot "reversed" "__iter__" "reversed.__iter__" :=
 .of (owner:="reversed") (n:="__iter__") (by rfl) (by decide +kernel) (by decide +kernel) (by decide +kernel) (by solve_by_elim) (by rfl)
theorem rv_args_next(a:Qc):argsOk "reversed.__next__" ⟨[a],[]⟩:=by rfl
theorem rv_args_iter(a:Qc):argsOk "reversed.__iter__" ⟨[a],[]⟩:=by rfl
theorem rv_entry_next:entryFor table "reversed.__next__"=some Builtin.«reversed.__next__»:=entryFor_of_tree (by kernel_rfl)
theorem rv_entry_iter:entryFor table "reversed.__iter__"=some Builtin.«dict_keyiterator.__iter__» :=
 entryFor_alias (id':="dict_keyiterator.__iter__") (by kernel_rfl) (by rfl) (by decide +kernel) (by kernel_rfl)
theorem rv_called:TypeCalled "reversed" "reversed.__new__" "object.__init__" :=
 ⟨by decide +kernel,by decide +kernel,⟨_,_,mro_reversed⟩,made_reversed,by decide +kernel,sub_reversed_self,Jei⟩
theorem rv_tuple_none:typeLookup (.type "tuple") "__reversed__"=pure none:=by rfl
theorem rv_tuple_dict:isSubtype (.type "tuple") (.type "dict")=pure false:=by rfl
end F
abbrev Jgh(h:Q0)(r a:Qd)(i:Int):Prop:=h.get? r=some { cls:=.type "reversed",dict:=none,data:=.fields #[.ref a,rawInt i],slots:=#[] }
section
variable{prog:Qu}{w:QJ}{A:QI}{E:Qc->Qe->Prop}{s:Qe}{a r:Qd}{xs:Array Qc}
theorem Jk3(a:Qd)(xs:Array Qc):Meets (Builtin.«reversed.__new__» ⟨[.type "reversed",.ref a],[]⟩) (fun _ R s=>s.heap.IsTuple a xs/\(xs.size:Int)<2 ^ 63 ∧
 R (.ok (.ret (.ref s.heap.objs.size))) { s with heap:=s.heap.push { cls:=.type "reversed",data:=.fields #[.ref a,rawInt ((xs.size:Int)-1)] },toks:=s.toks+1+1 }) :=
 .of_wp fun prog w A R s h=>by
  obtain⟨hp,g,d,tk,os⟩:=s;obtain⟨q1,q2,h⟩:=h;have hT:(⟨hp,g,d,tk,os⟩:Qe).TypeIs (.ref a) "tuple":=q1.typeIs;unfold Builtin.«reversed.__new__»;refine Qa (Kt (newClass_reversed _) ?_)
  try dsimp only
  refine Qa (Kt (a:=()) (by rfl) ?_);refine Qa (Kt (a:=()) (by rfl) ?_)
  try dsimp only
  refine Qa (KR hT F.rv_tuple_none ?_)
  try dsimp only
  refine Qa ?_;refine Qa (m:=isInstance (.ref a) (.type "dict")) (Kh hT F.rv_tuple_dict ?_);refine Qa (KR hT Gb.lookup ?_);refine Qk ?_;refine Qa (PyProof.Rows.len_tuple (s:=⟨hp,g,d,tk,os⟩) q1 q2 ?_);refine Qa (Kt (a:=some (xs.size:Int)) rfl ?_)
  try dsimp only
  refine Qa ?_;show wpAny _ _ (newObj (.type "reversed") (.fields #[.ref a,rawInt ((xs.size:Int)-1)])) _ _ _;exact Gz (Qk ⟨_,rfl,h⟩) (by size_fits)
theorem Jms{Q:Qc->Qe->Prop}(q1:s.heap.IsTuple a xs)(q2:(xs.size:Int)<2 ^ 63)
 (h:∀h' tk,Jgh h' s.heap.objs.size a ((xs.size:Int)-1)->(∀c o,s.heap.get? c=some o->h'.get? c=some o)->Q (.ref s.heap.objs.size) { s with heap:=h',toks:=tk }) :
 wpAny (model prog w) A (call (.type "reversed") [.ref a]) Q E s:=by
 refine callType_new F.rv_called (by decide) (F.typeCall_reversed_1 _) (F.newCall_reversed_1 _) (fun obj=>F.args_object_init_2 obj _) F.entry_reversed_new (Jk3 a xs) ⟨q1,q2,?_⟩;exact⟨⟨_,Qj _ rfl,rfl⟩,h _ _ (Qj _ rfl) fun c o q=>Qf _ q⟩
theorem Jnu{i:Nat}{x:Qc}{Q:Option Qc->Qe->Prop}(hit:Jgh s.heap r a (i:Int))(hl:s.heap.IsTuple a xs)(hb:(i:Int)<2 ^ 63)(hx:xs[i]?=some x)
 (hQ:∀h' tk,Jgh h' r a ((i:Int)-1)->Qy r s.heap h'->Q (some x) { s with heap:=h',toks:=tk }):wpAny (model prog w) A (pyNext (.ref r)) Q E s:=by
 have hT:s.TypeIs (.ref r) "reversed":=⟨_,hit,rfl⟩
 have hi:i<xs.size:=by grind
 unfold pyNext;refine Qa (GK (QP (name:=Qx "__next__") hT F.rv_slot_next
  (Q8 F.rv_slot_next hT F.rv_entry_next ?_ (F.rv_args_next _))))
 unfold Builtin.«reversed.__next__»;refine Qa (Kt (a:=(Value.ref r,[])) rfl ?_)
 try dsimp only
 refine Qa (QO hit rfl (x:=.ref a) rfl ?_);refine Qa (QO hit rfl (x:=rawInt (i:Int)) rfl ?_);show wpAny _ _ (if (i:Int)<0 then _ else _) _ _ s;rw[if_neg (by omega)];show wpAny _ _ (specialOf (.ref a) _ >>= _) _ _ s;refine Qa (KR hl.typeIs Gb.lookup ?_);show wpAny _ _ (mkInt (i:Int) >>= _) _ _ s;refine Qa (wpAny_mkInt ?_);refine Qa (GK (PyProof.Rows.getItem_tuple (s:={ s with toks:=s.toks+1 }) hl (by omega) hb (j:=i) (by simp[seqIndex?];omega) hx ?_))
 show wpAny _ _ (field (.ref r) 1 >>= _) _ _ _;refine Qa (QO hit rfl (x:=rawInt (i:Int)) rfl ?_)
 show wpAny _ _ (setField (.ref r) 1 (rawInt ((i:Int)-1)) >>= _) _ _ _;refine Qa (QR hit (by simp) fun k1 y1 e1=>?_);exact Qk ⟨x,rfl,Qk (hQ k1 _ y1 e1)⟩
theorem Jpw{Q:Option Qc->Qe->Prop}(hh:A.handled=none)(hit:Jgh s.heap r a (-1))
 (hQ:∀h',Lq r s.heap h'->Q none { s with heap:=h' }):wpAny (model prog w) A (pyNext (.ref r)) Q E s:=by
 have hT:s.TypeIs (.ref r) "reversed":=⟨_,hit,rfl⟩
 unfold pyNext;refine Qa (GK (QP (name:=Qx "__next__") hT F.rv_slot_next
  (Q8 F.rv_slot_next hT F.rv_entry_next ?_ (F.rv_args_next _))))
 unfold Builtin.«reversed.__next__»;refine Qa (Kt (a:=(Value.ref r,[])) rfl ?_)
 try dsimp only
 refine Qa (QO hit rfl (x:=.ref a) rfl ?_);refine Qa (QO hit rfl (x:=rawInt (-1)) rfl ?_);show wpAny _ _ (if (-1:Int)<0 then _ else _) _ _ s;rw[if_pos (by decide)];refine Qa (K5 ?_);refine Qa ?_;refine Qa (m:=setField (.ref r) 1 (rawInt (-1))) (QR hit (by simp) fun k1 y1 e1=>?_);refine QR (s:={ s with heap:=k1 }) y1 (by simp) fun k2 y2 e2=>?_
 refine Qa ?_;show wpAny _ _ (newExc (.type "StopIteration") [] >>= _) _ _ _;refine Qa ?_;simp only[newExc,newTuple];refine Qa (Gz ?_ (by size_fits));refine Qa (m:=firstArgMember _ _) (Kt (a:=Value.none) (by rfl) ?_);refine Gz ?_ (by size_fits);simp only[raiseNew];refine Qa (wpAny_handled ?_)
 first|rw[show A.in1.handled=none from hh]|rw[hh]
 refine Qa (Qk (wpAny_throw ?_));refine Qa (Kh (T:="StopIteration") (b:=true) ⟨_,Qj _ rfl,rfl⟩ K6 ?_)
 replace e1:Qy r s.heap k1:=e1
 replace e2:Qy r k1 k2:=e2;refine Qk (hQ _ ?_);exact(RW (RW (fun b o hb q=>e2.extBut b o hb (e1.extBut b o hb q)) _) _)
theorem Jh4{i:Int}{Q:Qc->Qe->Prop}(hit:Jgh s.heap r a i)(h:Q (.ref r) s):wpAny (model prog w) A (pyIter (.ref r)) Q E s:=by
 have hT:s.TypeIs (.ref r) "reversed":=⟨_,hit,rfl⟩
 refine wpAny_pyIter_slot hT F.rv_slot_iter (Q8 F.rv_slot_iter hT F.rv_entry_iter ?_ (F.rv_args_iter _));show wpAny _ _ (ret (.ref r)) _ _ s;exact Qk ⟨_,rfl,"reversed",_,hT,F.rv_slot_next.lookup,h⟩
end
end PySem
namespace L2
open PySem PySem.Spec PyProof.Rows
noncomputable def Itv(K:Qw)(b:Bool)(a:Qd)(n:Nat):It :=
 ⟨fun i H=>i<n/\∃xs,Sq b K H a xs/\xs.length=n,fun i H x H'=>H'=H/\∀xs,Sq b K H a xs->xs[n-1-i]?=some x,fun i _=>i=n⟩
noncomputable def JsZ(b:Bool)(r a:Qd)(i:Int)(h:Q0):Prop:=match b with
 | true=>Jgh h r a i
 | false=>h.IsRevIter r a i
theorem JiI{P:Qu}{w:QJ}{K:Qw}{tg:Q4}(b:Bool)(a r:Qd)(n:Nat)(hn:n<=Qq):Turn P w K tg (Itv K b a n) [r] r (fun i h=>JsZ b r a ((n:Int)-1-(i:Int)) h) where
 mem:=by simp
 obj:=fun i h st c hc=>by
  have e:c=r:=by simpa using hc
  subst e
  cases b with
  | true=>exact⟨_,st,fun v z=>nomatch (show Data.fields _=Data.cell v from z)⟩
  | false=>obtain⟨o,e,_,d⟩:=st;simp_all
 keep:=fun i h h' st k=>by
  cases b with
  | true=>solve_by_elim
  | false=>exact Heap.IsRevIter.at st fun o e=>k r (by simp) o e
 item:=by
  intro X hP hw hK hc i pins s σ H E I hf st hg;subst hP hw hK;obtain⟨hi,xs,hq,hlen⟩:=hg;obtain⟨f0,f1,f2,f3,f4,f5⟩:=hf r (by simp);obtain⟨its,rv,p⟩:=hq.heap I;obtain⟨x,hx⟩:∃x,xs[n-1-i]?=some x:=⟨xs[n-1-i]'(by omega),by simp⟩
  obtain⟨u,hu,ru⟩:=rv.get hx;have e:(n:Int)-1-(i:Int)=((n-1-i:Nat):Int):=by omega
  have e2:((n-1-i:Nat):Int)-1=(n:Int)-1-((i+1:Nat):Int):=by omega
  rw[e] at st;have hz:Qq<2 ^ 63:=by decide
  cases b with
  | true =>
   refine Jnu (s:=s) st p (by omega) (x:=u) (by simpa using hu) fun h' tk st' sb=>?_
   replace sb:Qy r s.heap h':=sb;have I1:Inv X pins σ H { s with heap:=h',toks:=tk }:=I.turned (fun b o hb e=>(sb.2 b hb).trans e) f0 f1 f3 f4 f5;rw[e2] at st';exact⟨u,rfl,Jbs (s:={ s with heap:=h',toks:=tk }) st' rfl rfl (by decide) ⟨x,H,I1,ru,⟨rfl,fun ys hy=>by rw[Sq.inj I hy hq];exact hx⟩,st',fun b hb=>(hf b hb).1⟩⟩
  | false =>
   refine wpAny_pyNext_rev_item (s:=s) st p (x:=u) (by simpa using hu) fun h' st' sb=>?_
   have I1:Inv X pins σ H { s with heap:=h' }:=I.turned (t':=s.toks) (fun b o hb e=>(sb.2 b hb).trans e) f0 f1 f3 f4 f5;rw[e2] at st';obtain⟨o,eo,co,d⟩:=id st';exact⟨u,rfl,Jbs (s:={ s with heap:=h' }) eo co d (by decide) ⟨x,H,I1,ru,⟨rfl,fun ys hy=>by rw[Sq.inj I hy hq];exact hx⟩,st',fun b hb=>(hf b hb).1⟩⟩
 done:=by
  intro X hP hw hK hc i pins s σ H E I hf st hg;subst hP hw hK;obtain⟨f0,f1,f2,f3,f4,f5⟩:=hf r (by simp)
  replace hg:i=n:=hg;have e:(n:Int)-1-(i:Int)=-1:=by omega
  rw[e] at st
  cases b with
  | true=>exact Jpw (s:=s) (a:=a) (I.ok.hd hc) st fun h' eb=>⟨rfl,I.turned (t':=s.toks) (fun b o hb e=>eb b o hb e) f0 f1 f3 f4 f5⟩
  | false=>exact wpAny_pyNext_rev_end (s:=s) (I.ok.hd hc) st fun h' eb=>⟨rfl,I.turned (t':=s.toks) (fun b o hb e=>eb b o hb e) f0 f1 f3 f4 f5⟩
 self:=fun _ i s _ _ st h=>by
  cases b with
  | true=>exact Jh4 (s:=s) st h
  | false=>exact wpAny_pyIter_revIter (s:=s) st h
noncomputable def iRv(K:Qw)(ta:TA):TI:=fun σ H R=>ta σ H fun vs H1=>∃(b:Bool) (a:Qd) (xs:List V),vs=[.ref a]/\Sq b K H1 a xs/\R (Itv K b a xs.length) H1
theorem JnJ{X:Cx}{K:Qw}{tg:Q4}{a:Q4}{ta:TA}{p pos:Pos}(hK:X.K=K)(hg:Gl X "reversed")(hm:X.mg "reversed"=none)(ha:PA X [a] ta)(hs:starEach [a] X.env=[(false,eval a X.env)]:=by rfl)
:PI X tg (.Call (.Name "reversed" p) [a] [] pos) (iRv K ta):=by
 subst hK;intro pins s σ H R I h;refine Call_ (Vb I hg hm JeM (Gk (thn (ha pos pins s σ H _ I h) fun us s1 ⟨vs,H1,I1,r1,q1⟩=>?_) (by rw[hs];rfl) (by rfl)));obtain⟨b,a,xs,e,c1,q⟩:=q1;subst e
 cases r1 with
 | cons r rr =>
 cases rr;cases r
 have fresh:∀c∈[s1.heap.objs.size],FpOk X pins H1 c:=fun c hc=>by
  have e:c=s1.heap.objs.size:=by simpa using hc
  subst e;exact I1.fpOk (Qo _) (I1.hok.fresh (Qo _))
 have hz:Qq<2 ^ 63:=by decide
 cases b with
 | true =>
  obtain⟨its,rv,p1,sz⟩:=I1.tuple c1;have hl:=rv.length;refine Jms (s:=s1) (xs:=its.toArray) p1 (by grind) fun h' tk t1 kp=>Jh4 (s:={ s1 with heap:=h',toks:=tk }) t1 ?_
  refine⟨_,[s1.heap.objs.size],_,_,H1,rfl,I1.kept (t':=tk) kp,JiI true a _ xs.length sz,?_,fresh,q⟩;show Jgh h' s1.heap.objs.size a _;have e:(its.toArray.size:Int)-1=(xs.length:Int)-1-((0:Nat):Int):=by rw[QW,<- hl];simp
  rw[<- e];exact t1
 | false =>
  obtain⟨its,rv,p1,sz⟩:=I1.list c1;have hl:=rv.length;refine call_reversed_list (s:=s1) p1.isList (wpAny_pyIter_revIter (l:=a) (i:=((its.toArray.size:Int)-1)) ⟨_,Qj _ rfl,rfl,rfl⟩ ?_);refine⟨_,[s1.heap.objs.size],_,_,H1,rfl,I1.kept (t':=s1.toks) fun b o e=>Qf _ e,JiI false a _ xs.length sz,?_,fresh,q⟩;refine⟨_,Qj _ rfl,rfl,?_⟩;have e:(its.toArray.size:Int)-1=(xs.length:Int)-1-((0:Nat):Int):=by simp_all
  rw[e];rfl
end L2
namespace LE
open PySem L2 LR
noncomputable def JpI(m:Bool)(as:En->Option (List Sl)):En->Option (List D):=fun E=>(as E).bind fun ss=>match ss with
 | [s]=>(s.it m).map List.reverse
 | _=>none
section
variable{K:Qw}{C:Qd}{m:Bool}
theorem Jrc{t:TA}{ev:En->Option (List Sl)}(ha:SA K C t ev):SI K C m (iRv K t) (JpI m ev):=by
 intro B H0 H σ E ds R I e q;obtain⟨ss,e1,e⟩:=bind_some e;split at e
 ·next s =>
  obtain⟨ds1,e2,e⟩:=Q5.mp e;subst e;refine ha B H0 H σ E _ _ I e1 fun vs H1 H1' s1 r1=>?_
  obtain⟨v,rfl,ra⟩:=r1.one;have f:=JI (Hs:=H) s1.i;obtain⟨b1,a1,xs,rfl,k1,w1⟩:=JgA ra s1.i e2;have hA:m=true->(if m=true then H1' else B)=H1':=fun h=>if_pos h
  have sA:Same (if m=true then H1' else B) H1':=by
   split
   ·exact Same.refl _
   ·exact I.b.trans s1.h
  have st0:SStep (if m=true then H1' else B) (JT H H1 H1') (JT H H1 H1') H1':=⟨sA,Same.refl _,fun _ _ e=>.inl e,f.i⟩
  refine⟨b1,a1,xs,rfl,k1 _ hA _ _ st0,q _ _ _ (s1.comp f fun _ z=>z) ?_⟩;intro H0' H' st;have q1:=k1 _ hA _ _ st;refine⟨fun i d e=>?_,by rw[Lg,w1.1];rfl⟩;have hi:i<ds1.length:=by have:=(Qn.mp e).1;rwa [Lg] at this
  rw[List.getElem?_reverse hi,<- w1.1] at e;obtain⟨x,x1,x2⟩:=w1.get e;refine⟨⟨by rw[w1.1];exact hi,xs,q1,rfl⟩,?_⟩;rintro z H2 ⟨rfl,hv⟩;have h1:=hv xs q1;rw[x1] at h1;cases h1;exact⟨H0',.refl st.i,x2.mono st.z⟩
 ·cases e
end
end LE

namespace PySem
open AutoSeq1 (wpAny_loadPart')
abbrev enO(it:Qd):Obj:={ cls:=.type "enumerate",data:=.fields #[.none,.bool false,.ref it,rawInt 0,.none,.none] }
theorem Jjr(b:Bool)(a:Qd)(xs:Array Qc):Meets (Builtin.«enumerate.__new__» ⟨[.type "enumerate",.ref a],[]⟩) (fun _ R s=>IsSq b s.heap a xs ∧
 R (.ok (.ret (.ref (s.heap.push (itO b a)).objs.size))) { s with heap:=(s.heap.push (itO b a)).push (enO s.heap.objs.size) }) :=
 .of_wp fun prog w A R s h=>by
  obtain⟨hp,g,d,tk,os⟩:=s;obtain⟨q,h⟩:=h;have hsub:=sub_enumerate;have r:IsSq b (Ro ⟨hp,g,d,tk,os⟩) a xs:=q
  obtain⟨o,hl⟩:∃o,hp.get? a=some o:=by
   cases b with
   | true=>obtain⟨o,e,_⟩:=q;exact⟨o,e⟩
   | false=>obtain⟨o,e,_⟩:=q;exact⟨o,e⟩
  wp_walk using GR hl
  refine wpAny_stack_any fun st=>Qk ?_
  split
  ·rename_i c _ _ _ _ _;cases (c == Value.type "enumerate")
   ·wp_walk using GR hl,Ug r
    exact⟨_,rfl,h⟩
   ·wp_walk using GR hl,Ug r
    exact⟨_,rfl,h⟩
  ·wp_walk using GR hl,Ug r
   exact⟨_,rfl,h⟩
section
variable{prog:Qu}{w:QJ}{A:QI}{E:Qc->Qe->Prop}{s:Qe}{b:Bool}{a e it:Qd}{xs:Array Qc}
theorem Jj7{Q:Qc->Qe->Prop}(q:IsSq b s.heap a xs)
 (h:∀h',IsEnum h' (s.heap.objs.size+1) s.heap.objs.size 0 .none->IsItr b h' s.heap.objs.size a 0->(∀c o,s.heap.get? c=some o->h'.get? c=some o)->Q (.ref (s.heap.objs.size+1)) { s with heap:=h' }) :
 wpAny (model prog w) A (call (.type "enumerate") [.ref a]) Q E s:=by
 refine callType_new F.called_enumerate (by decide) (F.typeCall_enumerate_1 _) (F.newCall_enumerate_1 _) (fun obj=>F.args_object_init_2 obj _) F.entry_enumerate_new (Jjr b a xs) ⟨q,?_⟩;have hz:(s.heap.push (itO b a)).objs.size=s.heap.objs.size+1:=GD ..;have fi:(itO b a).isFreed=false:=by cases b <;> rfl
 have g2:((s.heap.push (itO b a)).push (enO s.heap.objs.size)).get? (s.heap.push (itO b a)).objs.size=some _:=Qj _ rfl
 have g1:((s.heap.push (itO b a)).push (enO s.heap.objs.size)).get? s.heap.objs.size=some _:=Qf _ (Qj _ fi)
 show _/\_;rw[hz] at g2;rw[hz];exact⟨⟨_,g2,rfl⟩,h _ g2 (.new g1) fun c o x=>Qf _ (Qf _ x)⟩
theorem Jkl{p:List Qd}{n i:Nat}{P:Nat->Qc->Prop}{S:Nat->Q0->Prop}{old:Qc}{Q:Qc->Qe->Prop}(D:Draws prog w A it p n P S)(he:IsEnum s.heap e it i old)(st:S i s.heap)(hi:i<n)(hne:e∉p)(him:it∈p)
 (hQ:∀x h' tk t,P i x->IsEnumOut h' e it ((i:Int)+1) x s.heap.objs.size->S (i+1) h'->h'.get? s.heap.objs.size=some { cls:=.type "tuple",data:=.seq #[.int i t,x] }->h'.objs.size=s.heap.objs.size+1 ->
  (∀c o,c≠e->c≠it->s.heap.get? c=some o->h'.get? c=some o)->Q (.ref s.heap.objs.size) { s with heap:=h',toks:=tk }) :
 wpAny (model prog w) A (Builtin.«enumerate.__next__» ⟨[.ref e],[]⟩) (fun fin s'=>∃v,fin=.done (.ret v)/\Q v s') E s:=by
 obtain⟨hp,g,d,tk,os⟩:=s;have ne:e≠it:=fun q=>hne (q▸him)
 show wpAny _ _ (field (.ref e) 2 >>= _) _ _ _;refine Qa (QO he rfl (x:=.ref it) rfl (Qa (D.item i _ _ _ hi st fun x k1 t1 px s1 e1=>?_)))
 replace e1:Qy it hp k1:=e1;have E1:IsEnum k1 e it i old:=(e1.2 e ne).trans he;refine Qa (QO (s:=⟨k1,g,d,t1,os⟩) E1 rfl (x:=rawInt i) rfl ?_);show wpAny _ _ (field (.ref e) 4 >>= _) _ _ ⟨k1,g,d,t1,os⟩;refine Qa (QO (s:=⟨k1,g,d,t1,os⟩) E1 rfl (x:=.none) rfl ?_);show wpAny _ _ (mkInt i >>= _) _ _ ⟨k1,g,d,t1,os⟩;refine Qa (wpAny_mkInt ?_);show wpAny _ _ (setField (.ref e) 3 (rawInt ((i:Int)+1)) >>= _) _ _ ⟨k1,g,d,t1+1,os⟩
 refine Qa (QR E1 (by simp) fun k2 E2 e2=>?_)
 replace e2:Qy e k1 k2:=e2
 replace E2:IsEnum k2 e it ((i:Int)+1) old:=E2;show wpAny _ _ (setField (.ref e) 4 .none >>= _) _ _ ⟨k2,g,d,t1+1,os⟩;refine Qa (QR E2 (by simp) fun k3 E3 e3=>?_)
 replace e3:Qy e k2 k3:=e3
 replace E3:IsEnum k3 e it ((i:Int)+1) old:=E3;show wpAny _ _ (newTuple [.int i t1,x] >>= _) _ _ ⟨k3,g,d,t1+1,os⟩;refine Qa (Mf ?_);have hsz:k3.objs.size=hp.objs.size:=by rw[e3.1,e2.1,e1.1]
 have elt:e<hp.objs.size:=Qm he
 have E4:IsEnum (k3.push { cls:=.type "tuple",data:=.seq #[.int i t1,x] }) e it ((i:Int)+1) old:=Qf _ E3
 have T4:(k3.push { cls:=.type "tuple",data:=.seq #[.int i t1,x] }).get? hp.objs.size=some { cls:=.type "tuple",data:=.seq #[.int i t1,x] }:=by rw[<- hsz];exact Qj _ rfl
 have z4:(k3.push { cls:=.type "tuple",data:=.seq #[.int i t1,x] }).objs.size=hp.objs.size+1:=by simp_all
 have kp:∀c o,c≠e->k1.get? c=some o->(k3.push { cls:=.type "tuple",data:=.seq #[.int i t1,x] }).get? c=some o:=fun c o c1 q=>Qf _ (e3.extBut c o c1 (e2.extBut c o c1 q))
 show wpAny _ _ (QD (.ref e) >>= _) _ _ ⟨k3.push { cls:=.type "tuple",data:=.seq #[.int i t1,x] },g,d,t1+1,os⟩;rw[hsz]
 generalize k3.push { cls:=.type "tuple",data:=.seq #[.int i t1,x] }=k4 at E4 T4 z4 kp ⊢
 refine Qa ?_;unfold QD;refine Qa (QO (s:=⟨k4,g,d,t1+1,os⟩) E4 rfl (x:=.none) rfl (Qk ?_));simp only[if_true];refine Qa (K5 (Qa (QO (s:=⟨k4,g,d,t1+1,os⟩) E4 rfl (x:=old) rfl (Qa (QR E4 (by simp) fun k5 E5 e5=>?_)))))
 replace e5:Qy e k4 k5:=e5
 replace E5:IsEnum k5 e it ((i:Int)+1) x:=E5;show wpAny _ _ (Gi (.ref e) (.ref hp.objs.size) >>= _) _ _ ⟨k5,g,d,t1+1,os⟩;refine Qa ?_;unfold Gi;refine Qa (QR E5 (by simp) fun k6 E6 e6=>?_)
 replace e6:Qy e k5 k6:=e6
 replace E6:IsEnumOut k6 e it ((i:Int)+1) x hp.objs.size:=E6;refine QR E6 (by simp) fun k7 E7 e7=>?_
 replace e7:Qy e k6 k7:=e7
 replace E7:IsEnumOut k7 e it ((i:Int)+1) x hp.objs.size:=E7;have up:∀c o,c≠e->k4.get? c=some o->k7.get? c=some o:=fun c o c1 q=>e7.extBut c o c1 (e6.extBut c o c1 (e5.extBut c o c1 q))
 refine Qa (Ku (Qk ⟨_,rfl,hQ x k7 (t1+1) t1 px E7 ?_ (up _ _ (Gc elt) T4) (by rw[e7.1,e6.1,e5.1,z4]) fun c o c1 c2 q=>up c o c1 (kp c o c1 (e1.extBut c o c2 q))⟩));exact D.frame _ _ _ s1 fun c hc o q=>up c o (fun z=>hne (z▸hc)) (kp c o (fun z=>hne (z▸hc)) q)
theorem Jmx{p:List Qd}{n:Nat}{P:Nat->Qc->Prop}{S:Nat->Q0->Prop}{old:Qc}{Q:Fin->Qe->Prop}(D:Draws prog w A it p n P S)(he:IsEnum s.heap e it n old)(st:S n s.heap)
 (hE:∀h' x tk,Lq it s.heap h'->(∃o,h'.get? x=some o/\o.cls=.type "StopIteration")->E (.ref x) { s with heap:=h',toks:=tk }) :
 wpAny (model prog w) A (Builtin.«enumerate.__next__» ⟨[.ref e],[]⟩) Q E s:=by
 show wpAny _ _ (field (.ref e) 2 >>= _) _ _ _;refine Qa (QO he rfl (x:=.ref it) rfl (Qa (D.done _ _ _ st fun k1 x e1 hx=>?_)));exact hE k1 x s.toks e1 hx
end
end PySem
namespace L2
open PySem PySem.Spec PyProof.Rows
noncomputable def Ite(K:Qw)(b:Bool)(a:Qd):It :=
 ⟨fun i H=>∃xs x,Sq b K H a xs/\xs[i]?=some x,
  fun i H x H'=>∃p v,x=.ref p/\H p=none/\H'=upd H p (.tup [.int i,v])/\∀xs,Sq b K H a xs->xs[i]?=some v,
  fun i H=>∃xs,Sq b K H a xs/\i=xs.length⟩
theorem Jot{P:Qu}{w:QJ}{K:Qw}{elts:List Q4}{kk:Nat}{pos:Pos}(b:Bool)(a e it:Qd)(ne:e≠it) :
 Turn P w K (.Tuple elts kk pos) (Ite K b a) [e,it] e (fun i h=>(∃old,IsEnum h e it i old)/\IsItr b h it a i) where
 mem:=by simp
 obj:=fun i h st c hc=>by grind[IsItr.obj]
 keep:=fun i h h' st k=>by obtain⟨⟨old,s1⟩,s2⟩:=st;exact⟨⟨old,k e (by simp) _ s1⟩,IsItr.keep (b:=b) s2 fun o q=>k it (by simp) o q⟩
 item:=by
  intro X hP hw hK hc i pins s σ H E I hf st hg;subst hP hw hK;obtain⟨xs,x,q1,e1⟩:=hg;obtain⟨its,r1,p1⟩:=q1.heap I;obtain⟨⟨old,s1⟩,s2⟩:=st;have hh:X.A.in1.handled=none:=I.ok.hd hc;have ne1:a≠it:=FpOk.off I q1 (hf it (by simp));have ne2:a≠e:=FpOk.off I q1 (hf e (by simp));have D1:=Draws.sq (prog:=X.prog) (w:=X.w) (b:=b) (xs:=its.toArray) hh it ne1;have hT:s.TypeIs (.ref e) "enumerate":=⟨_,s1,rfl⟩
  have l1:i<its.toArray.size:=by have:=(Qn.mp e1).1;rw[QW,<- r1.length];exact this
  unfold pyNext;refine Qa (GK (QP (name:=Qx "__next__") hT GI (Q8 GI hT KP
   (Jkl D1 s1 ⟨s2,p1⟩ l1 (by simp[ne,QY ne2]) (by simp) fun u k tk t pu t1 t2 t3 t4 t5=>Qk ?_) (KF _))))
  refine⟨_,rfl,Mg (s:={ s with heap:=k,toks:=tk }) t1 fun k2 t9 e9=>?_⟩
  replace e9:Qy e k k2:=e9;obtain⟨ux,hx1,rx⟩:=r1.get e1
  have eu:u=ux:=by simp_all
  subst eu
  have elt:∀c∈[e,it],c<s.heap.objs.size:=fun c hc=>by
   simp only[Qp,Gd,or_false] at hc;rcases hc with rfl|rfl
   ·exact Qm s1
   ·obtain⟨_,q,_⟩:=IsItr.obj (b:=b) s2;exact Qm q
  have ri:RelV (.int i) (.int i t):=⟨t,rfl⟩
  have I1:Inv X pins σ (upd H s.heap.objs.size (.tup [.int i,x])) { s with heap:=s.heap.push { cls:=.type "tuple",data:=.seq #[.int i t,u] },toks:=s.toks } :=
   I.laid (o:=.tup [.int i,x]) (fun c ob q=>Qf _ q) (Qo _) ⟨by show 2<=Qq;decide,[.int i t,u],.cons ri (.cons rx .nil),⟨_,Qj _ rfl,rfl,_,rfl⟩⟩
  have hf1:∀c∈[e,it],FpOk X pins (upd H s.heap.objs.size (.tup [.int i,x])) c:=fun c hc=>⟨by rw[Jl (QQ (elt c hc))];exact(hf c hc).1,(hf c hc).2⟩
  have I2:Inv X pins σ (upd H s.heap.objs.size (.tup [.int i,x])) { s with heap:=k2,toks:=tk }:=Inv.turnedL (s:={ s with heap:=s.heap.push { cls:=.type "tuple",data:=.seq #[.int i t,u] },toks:=s.toks }) I1 (fun c o hc q=>by
   simp only[Qp,Gd,or_false,not_or] at hc;refine e9.extBut c o hc.1 ?_
   by_cases hcs:c=s.heap.objs.size
   ·subst hcs;have q':(s.heap.push { cls:=.type "tuple",data:=.seq #[.int i t,u] }).get? s.heap.objs.size=some o:=q;rw[Qj _ rfl] at q'
    simp_all
   grind[Lw]) hf1
  refine⟨.ref s.heap.objs.size,_,I2,rfl,⟨_,x,rfl,I.hok.fresh (Qo _),rfl,fun xs' h1=>?_⟩,⟨⟨u,?_⟩,?_⟩,fun c hc=>(hf1 c hc).1⟩
  ·rw[Sq.inj I h1 q1];exact e1
  ·grind
  ·exact IsItr.keep (b:=b) t2.1 fun o q=>e9.extBut _ _ (QY ne) q
 done:=by
  intro X hP hw hK hc i pins s σ H E I hf st hg;subst hP hw hK;obtain⟨xs,q1,ei⟩:=hg;obtain⟨its,r1,p1⟩:=q1.heap I;obtain⟨⟨old,s1⟩,s2⟩:=st;have hh:X.A.in1.handled=none:=I.ok.hd hc;have D1:=Draws.sq (prog:=X.prog) (w:=X.w) (b:=b) (xs:=its.toArray) hh it (FpOk.off I q1 (hf it (by simp)));have hT:s.TypeIs (.ref e) "enumerate":=⟨_,s1,rfl⟩
  have n1:i=its.toArray.size:=by rw[QW,<- r1.length];exact ei
  subst n1;unfold pyNext;refine Qa (GK (QP (name:=Qx "__next__") hT GI (Q8 GI hT KP (Jmx D1 s1 ⟨s2,p1⟩ fun k x tk kk he=>?_) (KF _))));obtain⟨o,ho,hoc⟩:=he;refine Qa (Kh (T:="StopIteration") (b:=true) ⟨o,ho,hoc⟩ K6 (Qk ⟨rfl,?_⟩));exact I.turnedL (fun c o hc q=>by simp only[Qp,Gd,or_false,not_or] at hc;exact kk c o hc.2 q) hf
 self:=fun _ _ _ _ _ st h=>by obtain⟨⟨old,s1⟩,_⟩:=st;exact Lx s1 h
noncomputable def iEn(K:Qw)(ta:TA):TI:=fun σ H R=>ta σ H fun vs H1=>∃(b:Bool) (a:Qd) (xs:List V),vs=[.ref a]/\Sq b K H1 a xs/\R (Ite K b a) H1
theorem JbU{X:Cx}{K:Qw}{elts:List Q4}{kk:Nat}{tpos:Pos}{a:Q4}{ta:TA}{p pos:Pos}(hK:X.K=K)(hg:Gl X "enumerate")(hm:X.mg "enumerate"=none)(ha:PA X [a] ta)(hs:starEach [a] X.env=[(false,eval a X.env)]:=by rfl)
:PI X (.Tuple elts kk tpos) (.Call (.Name "enumerate" p) [a] [] pos) (iEn K ta):=by
 subst hK;intro pins s σ H R I h;refine Call_ (Vb I hg hm Zo (Gk (thn (ha pos pins s σ H _ I h) fun us s1 ⟨vs,H1,I1,r1,q1⟩=>?_) (by rw[hs];rfl) (by rfl)));obtain⟨b,a,xs,e,c1,q⟩:=q1;subst e
 cases r1 with
 | cons r rr =>
 cases rr;cases r;obtain⟨its,w1,p1⟩:=c1.heap I1;refine Jj7 p1 fun h' t1 t2 kp=>Lx t1 ?_
 refine⟨_,[s1.heap.objs.size+1,s1.heap.objs.size],_,_,H1,rfl,I1.kept (t':=s1.toks) kp,Jot b a _ _ (by simp),⟨⟨_,t1⟩,t2⟩,fun c hc=>?_,q⟩
 have hle:s1.heap.objs.size<=c:=by grind
 exact I1.fpOk hle (I1.hok.fresh hle)
end L2
namespace LE
open PySem L2 LR
noncomputable def JeZ(ds:List D):List D:=ds.mapIdx fun i d=>.tup [.int i,d]
noncomputable def Je4(m:Bool)(as:En->Option (List Sl)):En->Option (List D):=fun E=>(as E).bind fun ss=>match ss with
 | [s]=>(s.it m).map JeZ
 | _=>none
section
variable{K:Qw}{C:Qd}{m:Bool}
theorem Jek{t:TA}{ev:En->Option (List Sl)}(ha:SA K C t ev):SI K C m (iEn K t) (Je4 m ev):=by
 intro B H0 H σ E ds R I e q;obtain⟨ss,e1,e⟩:=bind_some e;split at e
 ·next s =>
  obtain⟨ds1,e2,e⟩:=Q5.mp e;subst e;refine ha B H0 H σ E _ _ I e1 fun vs H1 H1' s1 r1=>?_
  obtain⟨v,rfl,ra⟩:=r1.one;have f:=JI (Hs:=H) s1.i;obtain⟨b1,a1,xs,rfl,k1,w1⟩:=JgA ra s1.i e2;have hA:m=true->(if m=true then H1' else B)=H1':=fun h=>if_pos h
  have sA:Same (if m=true then H1' else B) H1':=by
   split
   ·exact Same.refl _
   ·exact I.b.trans s1.h
  have st0:SStep (if m=true then H1' else B) (JT H H1 H1') (JT H H1 H1') H1':=⟨sA,Same.refl _,fun _ _ e=>.inl e,f.i⟩
  refine⟨b1,a1,xs,rfl,k1 _ hA _ _ st0,q _ _ _ (s1.comp f fun _ z=>z) ?_⟩;intro H0' H' st;have q1:=k1 _ hA _ _ st;refine⟨fun i d e=>?_,⟨xs,q1,by unfold JeZ;rw[Mh,w1.1]⟩⟩;unfold JeZ at e;rw[QH] at e;obtain⟨d1,g1,e⟩:=Q5.mp e;subst e;obtain⟨x,x1,x2⟩:=w1.get g1;refine⟨⟨xs,x,q1,x1⟩,?_⟩;rintro z H2 ⟨p,v',rfl,hp,rfl,hv⟩;have h1:=hv xs q1;rw[x1] at h1;cases h1;have h0:H0' p=none:=Same.free st.i hp
  refine⟨upd H0' p (.tup [.int i,x]),⟨.new hp,.new h0,fun a o e=>?_,fun a o e=>?_⟩,?_⟩
  ·grind[Jl]
  ·by_cases h:a=p
   ·subst h;rw[Jw] at e ⊢;exact e
   ·rw[Jl h] at e ⊢;exact st.i a o e
  ·exact .mkT (.of Jw) (.cons (.int _) (.cons (x2.mono (st.z.trans (.new h0))) .nil))
 ·cases e
theorem Jbn{α:Type}(f:α->D)(xs:List α):JeZ (xs.map f)=xs.mapIdx fun i x=>.tup [.int i,f x]:=by
 unfold JeZ;refine GA fun i=>?_
 rw[QH,QH,Qt,KG];rfl
end
end LE

namespace L2
open PySem PySem.Spec PyProof.Rows
noncomputable def VO(ns:List Int):List Int:=ns.mergeSort (fun a b=>decide (a<=b))
theorem UC(ns:List Int):(VO ns).Perm ns:=List.mergeSort_perm _ _
theorem Jb7(ns:List Int):(VO ns).Pairwise (·<=·):=by have h:=List.pairwise_mergeSort (le:=fun a b:Int=>decide (a<=b)) (by grind) (by grind) ns;exact h.imp fun {a b} h=>by simpa using h
theorem Jc6:∀{xs ys:List Int},xs.Perm ys->xs.Pairwise (·<=·)->ys.Pairwise (·<=·)->xs=ys
 | [],ys,p,_,_=>by rw[List.Perm.nil_eq p]
 | x::xs,ys,p,h1,h2=>by
  cases ys with
  | nil=>simp_all
  | cons y ys =>
   obtain⟨a1,a2⟩:=Q6.mp h1;obtain⟨b1,b2⟩:=Q6.mp h2
   have e:x=y:=by grind[Qg]
   subst e;rw[Jc6 (List.Perm.cons_inv p) a2 b2]
noncomputable def Jeh(K:Qw):List V->Hp->VK->Prop:=fun xs H Q=>∃(a:Qd) (ns:List Int),xs=[.ref a]/\SqL K H a (ns.map V.int)/\ns.length<64/\∀l,H l=none->Q (.ref l) (upd H l (.lst ((VO ns).map V.int)))
theorem Z3:∀{ns:List Int} {us:List Qc},IntsAre us ns->Vals (ns.map V.int) us:=by
 intro ns us h
 induction h with
 | nil=>exact .nil
 | cons _ _ _ ih=>solve_by_elim
section
variable{X:Cx}
theorem Jdr:YD X (.builtin "sorted") (Jeh X.K):=by
 intro pins s σ H xs us Q I r h;obtain⟨p,ns,rfl,hq,hl,q⟩:=h;obtain⟨u,rfl,rx⟩:=WG r;cases rx;obtain⟨its,r',pl,hz⟩:=I.list hq;have hlen:=r'.length;rw[QN] at hlen hz;refine sorted_ints pl.isList (U9 r') (by omega) fun out ns' a1 a2 a3=>?_
 have es:ns'=VO ns:=Jc6 (a2.trans (UC ns).symm) a3 (Jb7 ns);subst es;obtain⟨e,he⟩:=sortedAll_at s.heap its out
 have hn:((VO ns).map V.int).length<=Qq:=by rw[QN,(UC ns).length_eq];exact hz
 have hne:H (s.heap.objs.size+1)=none:=I.hok.fresh (Rn _);refine⟨.ref (s.heap.objs.size+1),_,I.laid (t':=s.toks) (fun b o x=>sortedAll_old x) (Rn _) (show ObjOk X.prog X.w _ _ _ (.lst ((VO ns).map V.int)) from⟨hn,out.toList,e,Z3 a1,?_⟩),rfl,q _ hne⟩;rw[he]
end
theorem Jdq{X:Cx}{K:Qw}(hK:X.K=K)(hc:X.calm=true):YD X (.builtin "sorted") (Jeh K):=hK▸Jdr
end L2
namespace LE
open PySem L2 LR
noncomputable def Ja2:List Sl->Option Sl
 | [s]=>s.r.bind fun ds=>(ints? ds).bind fun ns=>if ns.length<64 then some (.own ((VO ns).map .int)) else none
 | _=>none
section
variable{K:Qw}{C:Qd}
theorem JlE{H:Hp}(ns:List Int):RDL K C H (ns.map V.int) (ns.map D.int):=by refine⟨by simp,fun i x d h1 h2=>?_⟩;rw[Qt] at h1 h2;obtain⟨n,e,rfl⟩:=Q5.mp h1;rw[e] at h2;cases h2;exact .int n
theorem Jj6:V7 K C (Jeh K) Ja2:=by
 intro Hs H0 H xs as c Q i hs r e q;unfold Ja2 at e;split at e
 ·obtain⟨v,rfl,r0⟩:=r.one;obtain⟨ds,e1,e⟩:=bind_some e;obtain⟨ns,e2,e⟩:=bind_some e;split at e
  ·next hn=>cases e;obtain⟨l,ys,rfl,h,r1⟩:=r0.r i e1;rw[U4 e2] at r1;have:=r1.ints;subst this;exact⟨l,ns,rfl,h,hn,fun p hp=>UX i hs hp (JlE _) q⟩
  ·cases e
 ·cases e
end
end LE

namespace PySem
namespace F
end F
section
variable{prog:Qu}{w:QJ}{A:QI}{E:Qc->Qe->Prop}{s:Qe}{l:Qd}{lo hi:Int}{t u v:Tok}
end
end PySem
namespace L2
open PySem PySem.Spec PyProof.Rows
end L2
namespace LE
open PySem L2 LR
section
variable{K:Qw}{C:Qd}{m:Bool}
end
end LE

namespace PySem
namespace F
end F
section
variable{prog:Qu}{w:QJ}{A:QI}{E:Qc->Qe->Prop}{s:Qe}{z TI TO i1 i2 i3:Qd}{p1 p2 p3:List Qd}{n1 n2 n3 k:Nat}{P1 P2 P3:Nat->Qc->Prop}{S1 S2 S3:Nat->Q0->Prop}
end
end PySem

namespace PySem
section
variable{prog:Qu}{w:QJ}{A:QI}{E:Qc->Qe->Prop}{s:Qe}{b1 b2 b3:Bool}{a1 a2 a3:Qd}{xs ys zs:Array Qc}
end
end PySem
namespace L2
open PySem PySem.Spec PyProof.Rows
end L2
namespace LE
open PySem L2 LR
section
variable{K:Qw}{C:Qd}{m:Bool}
end
end LE

namespace L2
open PySem PySem.Spec PyProof.Rows
noncomputable def Jdf(X:Cx)(f:Qc)(nm:Str)(z:V)(r:List V->Hp->VK->Prop):Prop :=
 ∀(pins:List (Qd×Obj)) (s:Qe) (σ:St) (H:Hp) (xs:List V) (us:List Qc) (w:Qc) (Q:VK),Inv X pins σ H s->Vals xs us->RelV z w->r xs H Q->wpAny (model X.prog X.w) X.A (call f us [(nm,w)]) (EP X pins σ Q) X.xe s
theorem Jjz{X:Cx}{id:String}{nm x:Str}{z:V}{r:List V->Hp->VK->Prop}{e ek:Q4}{es:List Q4}{t:TA}{p pos kpos:Pos}(hc:Jdf X (.builtin id) nm z r)(hg:Gl X x)(hm:X.mg x=none)(hv:bootBuiltins x=some (.builtin id))(ha:PA X (e::es) t)(hk:PE X ek (tC z))
 (hn:x≠"__name__":=by decide) (hdb:(x == ("__debug__":Str))=false:=by decide)
 (he:backTo pos (starEach (e::es) X.env)=(false,eval e X.env)::backTo pos (starEach es X.env):=by rfl) (hpl:(backTo pos (starEach (e::es) X.env)).any (·.1)=false:=by rfl):PE X (.Call (.Name x p) (e::es) [⟨some nm,ek,kpos⟩] pos) (tCB r t):=by
 intro pins s σ H Q I h;refine Kl (Vb I hg hm hv ?_ hn hdb);refine callWith_kw (thn (ha pos pins s σ H _ I h) fun us s1 ⟨vs,H1,I1,r1,q1⟩=>?_) he hpl rfl rfl;refine kws_cons (thn (hk pins s1 σ H1 (fun v H2=>v=z/\r vs H2 Q) I1 ⟨rfl,q1⟩) fun w s2 ⟨v,H2,I2,rz,e2,q2⟩=>kws_nil ?_);subst e2;exact hc pins s2 σ H2 vs us w Q I2 r1 rz q2
section
variable{X:Cx}
end
end L2
namespace LE
open PySem L2 LR
section
variable{K:Qw}{C:Qd}
end
end LE

namespace PySem

theorem Jfm(a v:Qc):argsOk "min" ⟨[a],[(Qx "default",v)]⟩:=by rfl
section
variable{prog:Qu}{w:QJ}{A:QI}{R:MB->Qe->Prop}{I:Qd}{fp wr:List Qd}{n:Nat}{P:Nat->Qc->Prop}{St:Nat->Q0->Prop}
theorem Jjs(W:Walks prog w A.in1 I fp wr n P St)(bt:Nat->Nat->Bool)(cm:CmpOf prog w A.in1 .Lt P bt)(S:Qd)(nS:S∉fp)(d:Qc) :
 ∀(k j:Nat) (s:Qe) (c:Nat) (arr:Array Qc),n-j=k->j<=n->St j s.heap->((j=0/\arr=#[])\/∃vb,0<j/\arr=#[vb,vb]/\P (argBest bt (j-1)) vb) ->
 s.heap.get? S=some { cls:=.type "list",dict:=none,data:=.seq arr c,slots:=#[] } ->
 (n=0->∀h' tk,(∀b o,b∉wr->b≠S->s.heap.get? b=some o->h'.get? b=some o)->R (.ok (.ret d)) { s with heap:=h',toks:=tk }) ->
 (0<n->∀v h' tk,P (argBest bt (n-1)) v->(∀b o,b∉wr->b≠S->s.heap.get? b=some o->h'.get? b=some o)->R (.ok (.ret v)) { s with heap:=h',toks:=tk }) ->
 codeAny (model prog w) A (.builtin "min.loop" ⟨[.ref I,.none,.ref S],[(Qx "default",d)]⟩) R s:=by
 have nW:S∉wr:=fun h=>nS (W.sub _ h)
 have nm:(toString "min"++toString ".loop":String)="min.loop":=by decide
 intro k
 induction k with
 | zero =>
  intro j s c arr hk hj st best hS h0 h1;have ej:j=n:=by omega
  subst ej;refine Ll F.entry_min_loop ?_;rw[K7 KH _];rcases best with ⟨e0,rfl⟩|⟨vb,jp,rfl,pb⟩
  ·show wpAny _ A.in1 (seqItems? (.ref S) >>= _) _ _ s;refine Qa (Gv hS rfl (show wpAny _ A.in1 (tryCatch (pyNext (.ref I)) _ >>= _) _ _ s from Qa (Ly (W.done s _ _ st fun h' tk hk'=>?_))));exact Qa (K5 (Qk (h0 e0 h' tk fun b o b1 _ e=>hk' b o b1 e)))
  ·show wpAny _ A.in1 (seqItems? (.ref S) >>= _) _ _ s;refine Qa (Gv hS rfl (show wpAny _ A.in1 (tryCatch (pyNext (.ref I)) _ >>= _) _ _ s from Qa (Ly (W.done s _ _ st fun h' tk hk'=>?_))))
   have hS':=hk' S _ nW hS
   show wpAny _ A.in1 (updateSeq S (fun _=>#[]) >>= _) _ _ _;refine Qa (Ks hS' rfl (Qa (Ku (Qk ?_))));exact h1 jp vb _ tk pb fun b o b1 b2 e=>(Gs _ _ (QY b2)).trans (hk' b o b1 e)
 | succ k ih =>
  intro j s c arr hk hj st best hS h0 h1;have lt:j<n:=by omega
  refine Ll F.entry_min_loop ?_;rw[K7 KH _];have nz:n=0->∀{s':Qe} h' tk,(∀b o,b∉wr->b≠S->s'.heap.get? b=some o->h'.get? b=some o)->R (.ok (.ret d)) { s' with heap:=h',toks:=tk }:=fun z=>absurd z (by omega)
  rcases best with ⟨e0,rfl⟩|⟨vb,jp,rfl,pb⟩
  ·subst e0;show wpAny _ A.in1 (seqItems? (.ref S) >>= _) _ _ s;refine Qa (Gv hS rfl (show wpAny _ A.in1 (tryCatch (pyNext (.ref I)) _ >>= _) _ _ s from Qa (Ly (W.item 0 s _ _ lt st fun v h' tk pv st' hk'=>?_))));have hS':=hk' S _ nW hS;show wpAny _ A.in1 (updateSeq S (fun _=>#[v,v]) >>= _) _ _ _;refine Qa (Ks hS' rfl ?_);rw[nm];refine Qk ⟨KW KH _,ih 1 _ _ _ (by omega) (by omega) (W.frame _ _ _ st' fun b bf o e=>?_) (.inr ⟨v,by omega,rfl,pv⟩) (GP _ hS' rfl) (fun z=>nz z) fun np v' h2 t2 pv' k2=>?_⟩
   ·exact(Gs _ _ (fun h:S=b=>nS (by rw[h];exact bf))).trans e
   ·exact h1 np v' h2 t2 pv' fun b o b1 b2 e=>k2 b o b1 b2 ((Gs _ _ (QY b2)).trans (hk' b o b1 e))
  ·show wpAny _ A.in1 (seqItems? (.ref S) >>= _) _ _ s;refine Qa (Gv hS rfl (show wpAny _ A.in1 (tryCatch (pyNext (.ref I)) _ >>= _) _ _ s from Qa (Ly (W.item j s _ _ lt st fun v h' tk pv st' hk'=>?_))))
   have hS':=hk' S _ nW hS
   have ea:argBest bt j=if bt j (argBest bt (j-1))=true then j else argBest bt (j-1):=by
    obtain⟨i,rfl⟩:∃i,j=i+1:=⟨j-1,by omega⟩
    rfl
   show wpAny _ A.in1 (tryCatch (holding [v,v] (richCompare .Lt v vb >>= _)) _ >>= _) _ _ _;refine Qa (Ly (GQ (Qa (cm j (argBest bt (j-1)) v vb _ _ _ pv pb (Qa (GQ (K0 (Qa (Ku (Qk ?_))))))))))
   cases hb:bt j (argBest bt (j-1)) with
   | true =>
    simp only[if_true];refine Qa (Ks hS' rfl (Qa (Ku ?_)));rw[nm];refine Qk ⟨KW KH _,ih (j+1) _ _ _ (by omega) (by omega) (W.frame _ _ _ st' fun b bf o e=>?_) (.inr ⟨v,by omega,rfl,?_⟩) (GP _ hS' rfl) (fun z=>nz z) fun np v' h2 t2 pv' k2=>?_⟩
    ·exact(Gs _ _ (fun h:S=b=>nS (by rw[h];exact bf))).trans e
    ·simp_all
    ·exact h1 np v' h2 t2 pv' fun b o b1 b2 e=>k2 b o b1 b2 ((Gs _ _ (QY b2)).trans (hk' b o b1 e))
   | false =>
    simp only[Ko,if_false];refine Qa (Ku ?_);rw[nm];refine Qk ⟨KW KH _,ih (j+1) _ c _ (by omega) (by omega) st' (.inr ⟨vb,by omega,rfl,?_⟩) hS' (fun z=>nz z) fun np v' h2 t2 pv' k2=>?_⟩
    ·simp_all
    ·exact h1 np v' h2 t2 pv' fun b o b1 b2 e=>k2 b o b1 b2 (hk' b o b1 e)
end
section
variable{prog:Qu}{w:QJ}{A:QI}{E:Qc->Qe->Prop}{s:Qe}{l:Qd}{xs:Array (Int×Tok)}
theorem Jfn{d:Qc}{Q:Qc->Qe->Prop}(hh:A.handled=none)(hl:s.heap.IsList l (intItems xs))(h0:xs.size=0->∀h' tk,(∀b o,s.heap.get? b=some o->h'.get? b=some o)->Q d { s with heap:=h',toks:=tk })
 (h1:0<xs.size->∀v h' tk,(intItems xs)[argBest (fun i j=>decide (numAt xs i<numAt xs j)) (xs.size-1)]?=some v->(∀b o,s.heap.get? b=some o->h'.get? b=some o)->Q v { s with heap:=h',toks:=tk }) :
 wpAny (model prog w) A (call (.builtin "min") [.ref l] [(Qx "default",d)]) Q E s:=by
 have nm:(toString "min"++toString ".loop":String)="min.loop":=by decide
 have sz:(intItems xs).size=xs.size:=by simp[intItems]
 refine PyProof.Rows.kmk_tree F.kind_min F.plain_min F.entry_min (Jfm _ _) ?_;show wpAny _ A.in1 (L3 "min" ["key","default"] 0 ⟨[],[(Qx "default",d)]⟩ >>= _) _ _ s;refine Qa (Kt (show L3 "min" ["key","default"] 0 ⟨[],[(Qx "default",d)]⟩=pure [none,some d] from rfl) ?_);refine Qa (Qk ?_);refine Qa (iter_intList hl fun s₂ e st hfp hlI=>?_);subst e;refine Qa (Gz ?_)
 rw[nm];have W:=Walks.list (prog:=prog) (w:=w) (A:=A.in1) hh _ l hlI (intItems xs);have fpS:(s.heap.push { cls:=.type "list_iterator",data:=.fields #[.ref l,.int 0 0] }).objs.size∉[s.heap.objs.size,l]:=fun hm=>GG _ (hfp _ hm)
 refine Qk ⟨KW KH _,Jjs W (fun i j=>decide (numAt xs i<numAt xs j)) (CmpOf.ints_lt (numAt xs) (fun _ _=>intItems_at)) _ fpS d _ 0 _ _ #[] rfl (GS _) (W.frame _ _ _ st fun b _ o e=>Qf _ e) (.inl ⟨rfl,rfl⟩) (Qj _ rfl) (fun z h' tk k=>?_) fun z v h' tk pv k=>?_⟩
 ·exact h0 (by rw[<- sz];exact z) h' tk (old_kept fun b o b1 e=>k b o b1 (QQ (Qm e)) (Qf _ e))
 ·exact h1 (by rw[<- sz];exact z) v h' tk (by rw[sz] at pv;exact pv) (old_kept fun b o b1 e=>k b o b1 (QQ (Qm e)) (Qf _ e))
end

section
variable{prog:Qu}{w:QJ}{A:QI}{R:MB->Qe->Prop}{I:Qd}{fp wr:List Qd}{n:Nat}{P:Nat->Qc->Prop}{St:Nat->Q0->Prop}
end
section
variable{prog:Qu}{w:QJ}{A:QI}{E:Qc->Qe->Prop}{s:Qe}{l:Qd}{xs:Array (Int×Tok)}
end

end PySem

namespace L2
open PySem PySem.Spec PyProof.Rows

section
variable{X:Cx}
noncomputable def Jlv(K:Qw):List V->Hp->VK->Prop:=fun xs H Q=>∃(a:Qd) (ns:List Int),xs=[.ref a]/\SqL K H a (ns.map V.int)/\(ns=[]->Q .non H)/\∀M,M∈ns->(∀b,b∈ns->M<=b)->Q (.int M) H
theorem Ji4(hc:X.calm=true):Jdf X (.builtin "min") "default" .non (Jlv X.K):=by
 intro pins s σ H xs us w Q I r rz h;obtain⟨a,ns,rfl,hq,q0,q⟩:=h;obtain⟨u,rfl,rx⟩:=WG r;cases rx;cases rz;obtain⟨its,rv,p,hz⟩:=I.list hq;have hi:=U9 rv;have hl:=p.isList;obtain⟨xs,e⟩:=hi.allInts.items;have hns:ns=xs.toList.map (·.1):=by rw[<- hi.numsOf,<- nums_intItems,<- e]
 rw[e] at hl;refine Jfn (I.ok.hd hc) hl (fun z h' tk hk=>?_) fun z v h' tk hv hk=>?_
 ·refine⟨.non,H,I.kept hk,rfl,q0 ?_⟩
  simp_all
 ·obtain⟨t,rfl⟩:=intItems_at hv;obtain⟨h1,h2⟩:=argBest_lt (numAt xs) (xs.size-1);refine⟨.int _,H,I.kept hk,⟨t,rfl⟩,q _ ?_ fun a ha=>?_⟩
  ·rw[hns,numAt_eq];exact getD_mem (by rw[QN,KA];omega)
  ·rw[hns] at ha;obtain⟨j,hj,rfl⟩:=mem_getD ha;rw[QN,KA] at hj;rw[<- numAt_eq];exact h2 j (by omega)
end
theorem Jgq{X:Cx}{K:Qw}(hK:X.K=K)(hc:X.calm=true):Jdf X (.builtin "min") "default" .non (Jlv K):=hK▸Ji4 hc

section
variable{X:Cx}
end
end L2
namespace LE
open PySem L2 LR

noncomputable def JhU:List Sl->Option Sl
 | [s]=>s.r.bind fun ds=>(ints? ds).map fun ns=>match ns.min? with
  | some m=>.sh (.int m)
  | none=>.sh .non
 | _=>none
theorem Jpn{K:Qw}{C:Qd}:V7 K C (Jlv K) JhU:=by
 intro Hs H0 H xs as c Q i hs r e q;unfold JhU at e;split at e
 ·obtain⟨v,rfl,r0⟩:=r.one;obtain⟨ds,e1,e⟩:=bind_some e;obtain⟨ns,e2,rfl⟩:=map_some e;obtain⟨l,ys,rfl,h,r1⟩:=r0.r i e1;rw[U4 e2] at r1;have:=r1.ints;subst this;refine⟨l,ns,rfl,h,fun z=>?_,fun M hM hb=>?_⟩
  ·subst z;exact q _ _ _ (.refl i) RD.non
  ·have hm:ns.min?=some M:=Rc.mpr ⟨hM,hb⟩;rw[hm] at q;exact q _ _ _ (.refl i) (RD.int _)
 ·cases e

end LE

namespace LE
open PySem L2 LR

noncomputable def look{α:Type}:List Int->List α->Int->Option α
 | k::ks,d::ds,n=>if k=n then some d else look ks ds n
 | _,_,_=>none
noncomputable def WZ(ks:List Int)(n:Int):Bool:=ks.any fun k=>decide (k=n)
noncomputable def Y7(ks:List Int)(n:Int):List Int:=if WZ ks n=true then ks else ks++[n]
noncomputable def setK{α:Type}:List Int->List α->Int->α->List α
 | k::ks,d::ds,n,v=>(if k=n then v else d)::setK ks ds n v
 | _,ds,_,_=>ds
noncomputable def putDs{α:Type}(ks:List Int)(ds:List α)(n:Int)(v:α):List α:=if WZ ks n=true then setK ks ds n v else ds++[v]
theorem JfQ{α:Type}(n:Int)(v:α):∀(ks:List Int) (ds:List α),(setK ks ds n v).length=ds.length
 | [],_=>rfl
 | _::_,[]=>rfl
 | _::ks,_::ds=>by simp[setK,JfQ n v ks ds]
theorem JjE{α:Type}(ks:List Int)(ds:List α)(n:Int)(v:α)(h:ks.length=ds.length):(Y7 ks n).length=(putDs ks ds n v).length:=by unfold Y7 putDs;split <;> simp[JfQ,h]
theorem VR:∀(ks:List Int) (xs:List V) (n:Int),VQ ((ks.map Sum.inl:List Key).zip xs) (Sum.inl n)=look ks xs n
 | [],_,_=>rfl
 | _::_,[],_=>rfl
 | k::ks,x::xs,n=>by
  show VQ (((Sum.inl k:Key),x)::(ks.map Sum.inl:List Key).zip xs) (Sum.inl n)=_
  by_cases h:k=n
  ·rw[Z1 (by rw[h]),look,if_pos h]
  ·rw[Z0 (fun e=>h (Sum.inl.inj e)),look,if_neg h];exact VR ks xs n
theorem JeI:∀(ks:List Int) (xs:List V) (n:Int),ks.length=xs.length->(((ks.map Sum.inl:List Key).zip xs).any fun kv=>decide (kv.1=(Sum.inl n:Key)))=WZ ks n
 | [],_,_,_=>rfl
 | _::_,[],_,h=>by simp at h
 | k::ks,x::xs,n,h=>by
  show(decide ((Sum.inl k:Key)=Sum.inl n) || ((ks.map Sum.inl:List Key).zip xs).any _)=(decide (k=n) || ks.any _)
  rw[JeI ks xs n (by simpa using h)];congr 1
  simp_all
theorem Jfl:∀(ks:List Int) (xs:List V) (n:Int) (v:V),ks.length=xs.length->(((ks.map Sum.inl:List Key).zip xs).map fun kv=>if kv.1=(Sum.inl n:Key) then(kv.1,v) else kv)=(ks.map Sum.inl:List Key).zip (setK ks xs n v)
 | [],_,_,_,_=>rfl
 | _::_,[],_,_,h=>by simp at h
 | k::ks,x::xs,n,v,h=>by
  show(if (Sum.inl k:Key)=Sum.inl n then((Sum.inl k:Key),v) else(Sum.inl k,x))::((ks.map Sum.inl:List Key).zip xs).map _=(Sum.inl k,if k=n then v else x)::(ks.map Sum.inl:List Key).zip (setK ks xs n v);rw[Jfl ks xs n v (by simpa using h)]
  grind
theorem Jlr(ks:List Int)(xs:List V)(n:Int)(v:V)(h:ks.length=xs.length):(HO.dK (Wh ((ks.map Sum.inl:List Key).zip xs) (Sum.inl n) v))=dkO (Y7 ks n) (putDs ks xs n v):=by
 unfold dkO Wh Y7 putDs;rw[JeI ks xs n h];split
 ·rw[Jfl ks xs n v h]
 ·rw[Q2,M5 (by simpa using h)];rfl
section
variable{K:Qw}{C:Qd}{Hs H0 H:Hp}
theorem RDL.look:∀{ks:List Int} {xs:List V} {ds:List D} {n:Int},RDL K C H xs ds->(LE.look ks xs n=none/\LE.look ks ds n=none)\/∃x d,LE.look ks xs n=some x/\LE.look ks ds n=some d/\RD K C H x d
 | [],_,_,_,_=>.inl ⟨rfl,rfl⟩
 | _::_,[],[],_,_=>.inl ⟨rfl,rfl⟩
 | _::_,[],_::_,_,h=>by have:=h.1;simp at this
 | _::_,_::_,[],_,h=>by have:=h.1;simp at this
 | k::ks,x::xs,d::ds,n,h=>by
  simp only[LE.look]
  by_cases e:k=n
  ·rw[if_pos e,if_pos e];exact .inr ⟨x,d,rfl,rfl,h.head⟩
  ·rw[if_neg e,if_neg e];exact RDL.look h.tail
theorem RDL.setK{n:Int}{v:V}{e:D}(r:RD K C H v e):∀{ks:List Int} {xs:List V} {ds:List D},RDL K C H xs ds->RDL K C H (LE.setK ks xs n v) (LE.setK ks ds n e)
 | [],_,_,h=>h
 | _::_,[],[],_=>.nil
 | _::_,[],_::_,h=>by have:=h.1;simp at this
 | _::_,_::_,[],h=>by have:=h.1;simp at this
 | k::ks,x::xs,d::ds,h=>by
  simp only[LE.setK];refine .cons ?_ (RDL.setK r h.tail);split
  ·exact r
  ·exact h.head
theorem RDL.putDs{n:Int}{v:V}{e:D}{ks:List Int}{xs:List V}{ds:List D}(h:RDL K C H xs ds)(r:RD K C H v e):RDL K C H (LE.putDs ks xs n v) (LE.putDs ks ds n e):=by
 unfold LE.putDs;split
 ·exact RDL.setK r h
 ·exact h.snoc r
theorem Jqm{p:Qd}{ks:List Int}{xs:List V}{ds:List D}{Q:VK}(i:Same H0 H)(hs:Same Hs H)(hp:H p=none)(hk:ks.length=ds.length)(r:RDL K C H0 xs ds)(q:∀v H0' H',Step Hs H0 H H0' H'->RR K C Hs H0' H' v (.od ks ds)->Q v H'):Q (.ref p) (upd H p (dkO ks xs)) :=
 q _ H0 _ ⟨.new hp,Same.refl _,fun _ _ e=>.inl e,i.trans (.new hp)⟩ ⟨p,xs,rfl,Jw,Same.free i hp,Same.free hs hp,hk,r⟩
end
noncomputable def Sl.dk:Sl->Option (List Int×List D)
 | .sh (.dct ks ds)=>some (ks,ds)
 | .sh (.dfz ks ds)=>some (ks,ds)
 | .bd ks ds=>some (ks,ds)
 | .od ks ds=>some (ks,ds)
 | _=>none
noncomputable def int?:Sl->Option Int
 | .sh (.int i)=>some i
 | _=>none
noncomputable def JhN:Ev:=fun _=>some (.od [] [])
noncomputable def Jmv(a k:Ev):Ev:=fun E=>(a E).bind fun s=>s.dk.bind fun p=>((k E).bind int?).bind fun n=>(look p.1 p.2 n).map .sh
noncomputable def Jgt(a k x:Ev):Ev:=fun E=>(a E).bind fun s=>s.dk.bind fun p=>((k E).bind int?).bind fun n=>((x E).bind sh?).bind fun d=>some (.sh ((look p.1 p.2 n).getD d))
noncomputable def JiL(i:Nat)(k a:Ev):Es:=fun E=>match E[i]? with
 | some (.od ks ds)=>(a E).bind fun s=>s.frz.bind fun d=>((k E).bind int?).bind fun n=>if ks.length<Qq then some (.nx (E.set i (.od (Y7 ks n) (putDs ks ds n d)))) else none
 | _=>none
section
variable{K:Qw}{C:Qd}{Hs H0 H:Hp}{td ty tx te:TE}{ed ek ex ea:Ev}
theorem Wp{s:Sl}{n:Int}(e:int? s=some n):s=.sh (.int n):=by
 cases s with
 | sh d=>cases d with
  | int i=>cases e;rfl
  | _=>cases e
 | _=>cases e
theorem RR.dk{v:V}{s:Sl}{p:List Int×List D}(r:RR K C Hs H0 H v s)(i:Same H0 H)(e:s.dk=some p):∃l xs,v=.ref l/\Rd H l (dkO p.1 xs)/\p.1.length=p.2.length/\RDL K C H0 xs p.2:=by
 cases s with
 | bd ks ds=>cases e;obtain⟨l,xs,h1,h2,h3⟩:=r;exact⟨l,xs,h1,.inl h2,h3⟩
 | od ks ds=>cases e;obtain⟨l,xs,h1,h2,_,_,h3⟩:=r;exact⟨l,xs,h1,.inl h2,h3⟩
 | bt _ _=>cases e
 | bw _ _=>cases e
 | ot _ _=>cases e
 | dw _ _=>cases e
 | sh d=>cases d with
  | dct ks ds=>cases e;obtain⟨l,xs,h1,h2,h3⟩:=RD.dctI r;exact⟨l,xs,h1,.inl (i _ _ h2),h3⟩
  | dfz ks ds=>cases e;obtain⟨l,xs,o,h1,h2,h3⟩:=RD.dfzI r;exact⟨l,xs,h1,.inr ⟨o,i _ _ h2⟩,h3⟩
  | _=>cases e
 | _=>cases e
theorem JrP{l:Qd}{ks:List Int}{xs:List V}{n:Int}(h:Rd H l (dkO ks xs)):JiQ H l (.int n) (look ks xs n):=.inl ⟨_,Sum.inl n,h,rfl,(VR ks xs n).symm⟩
theorem JlI:SE K C Jl4 JhN:=by intro B H0 H σ E r Q I e q;cases e;intro p hp;exact Jqm (ks:=[]) (xs:=[]) (Hs:=H) I.h (Same.refl _) hp rfl .nil q
theorem JsM(ha:SE K C td ed)(hk:SE K C ty ek):SE K C (JoX td ty) (Jmv ed ek):=by
 intro B H0 H σ E r Q I e q;obtain⟨s,e1,e⟩:=bind_some e;obtain⟨p,e2,e⟩:=bind_some e;obtain⟨n,e3,e⟩:=bind_some e;obtain⟨t,e3,e4⟩:=bind_some e3;obtain rfl:=Wp e4;obtain⟨d,e5,rfl⟩:=map_some e;refine ha B H0 H σ E s _ I e1 fun x H1 H1' s1 r1=>hk B H1 H1' σ E _ _ (I.step s1) e3 fun y H2 H2' s2 r2=>?_
 obtain⟨l,xs,rfl,h,_,rl⟩:=(r1.step s2).dk s2.i e2;rw[RD.intI r2];rcases RDL.look (ks:=p.1) (n:=n) rl with ⟨_,z⟩|⟨v,d',z1,z2,z3⟩
 ·rw[z] at e5;cases e5
 ·rw[z2] at e5;cases e5;exact⟨l,v,rfl,z1▸JrP h,q _ _ _ (s1.trans s2) z3⟩
theorem Jn6(ha:SE K C td ed)(hk:SE K C ty ek)(hx:SE K C tx ex):SE K C (Jl3 td ty tx) (Jgt ed ek ex):=by
 intro B H0 H σ E r Q I e q;obtain⟨s,e1,e⟩:=bind_some e;obtain⟨p,e2,e⟩:=bind_some e;obtain⟨n,e3,e⟩:=bind_some e;obtain⟨t,e3,e4⟩:=bind_some e3;obtain rfl:=Wp e4;obtain⟨d,e5,e⟩:=bind_some e;obtain⟨t',e5,e6⟩:=bind_some e5;obtain rfl:=Jbb e6;cases e;refine ha B H0 H σ E s _ I e1 fun x H1 H1' s1 r1=>?_
 obtain⟨l0,xs0,rfl,h0,_,_⟩:=r1.dk s1.i e2;refine⟨l0,rfl,.inl ⟨_,h0⟩,hk B H1 H1' σ E _ _ (I.step s1) e3 fun y H2 H2' s2 r2=>hx B H2 H2' σ E _ _ ((I.step s1).step s2) e5 fun z H3 H3' s3 r3=>?_⟩;obtain⟨l,xs,hl,h,_,rl⟩:=((r1.step s2).step s3).dk s3.i e2;cases hl;rw[RD.intI r2];refine⟨_,JrP h,q _ _ _ ((s1.trans s2).trans s3) ?_⟩;rcases RDL.look (ks:=p.1) (n:=n) rl with ⟨z1,z2⟩|⟨v,d',z1,z2,z3⟩
 ·rw[z1,z2];exact r3
 ·rw[z1,z2];exact z3
theorem Jrx{i:Nat}(ha:SE K C te ea)(hk:SE K C ty ek):SS K C (JoS (Wi i) ty te) (JiL i ek ea):=by
 intro B H0 H σ E o D I e f;unfold JiL at e;split at e
 ·next ks ds h =>
  obtain⟨s,e1,e⟩:=bind_some e;obtain⟨d,e2,e⟩:=bind_some e;obtain⟨n,e3,e⟩:=bind_some e;obtain⟨t,e3,e4⟩:=bind_some e3;obtain rfl:=Wp e4;split at e
  ·next hz =>
   cases e;obtain⟨l,xs,g1,g2,g3,g4,gk,g5⟩:=I.slotD h;refine ha B H0 H σ E _ _ I e1 fun v H1 H1' s1 r1=>?_
   have s2:Step H H0 H (JT H H1 H1') H1':=s1.comp (JI s1.i) fun _ z=>z
   have rv:=RR.frz s1.i r1 e2;refine⟨_,g1,?_⟩;refine hk B _ H1' σ E _ _ (I.step s2) e3 fun w H3 H3' s3 r3=>?_
   have s4:=s2.trans s3
   have hx:ks.length=xs.length:=gk.trans g5.1.symm;obtain⟨_,n0,nB⟩:=(I.step s4).ownG h rfl g1
   have rr:=(g5.mono s4.z).putDs (ks:=ks) (n:=n) (rv.mono s3.z)
   have m:=(I.step s4).mutG (t':=.od (Y7 ks n) (putDs ks ds n d)) (o':=dkO (Y7 ks n) (putDs ks xs n v)) h rfl rfl g1 ⟨l,_,rfl,Jw,n0,nB,JjE _ _ _ _ gk,rr⟩;rw[RD.intI r3];refine⟨l,_,rfl,.inl ⟨_,Sum.inl n,s4.h _ _ g2,rfl,?_,rfl⟩,?_⟩
   ·simp_all
   ·rw[Jlr ks xs n v hx];exact f _ _ _ ⟨m.b,s4.z,(s4.ss I.b).n,m.h⟩ m
  ·cases e
 ·cases e
end

noncomputable def JmS(x y:Sl):Option Sl:=x.m.bind fun ds=>(int? y).bind fun k=>if JgE k=true/\ds.length*k.toNat<=Qq then some (.own (Qv k.toNat ds).flatten) else none
section
variable{K:Qw}{C:Qd}{H:Hp}
theorem RDL.rep{xs:List V}{ds:List D}(r:RDL K C H xs ds):∀k:Nat,RDL K C H (Qv k xs).flatten (Qv k ds).flatten
 | 0=>.nil
 | k+1=>by rw[KB,KB,Lu,Lu];exact r.append (RDL.rep r k)
theorem Jsq:OpS K C JsD JmS:=by
 intro Hs H0 H x y a b c Q i hs ra rb e q;obtain⟨ds,e1,e⟩:=bind_some e;obtain⟨k,e2,e3⟩:=bind_some e;have hb:=Wp e2;subst hb;split at e3
 ·next hz=>cases e3;obtain⟨l,us,rfl,h1,r1⟩:=ra.m i e1;obtain⟨b1,b2⟩:=JdQ hz.1;exact⟨l,k,us,rfl,RD.intI rb,h1,by omega,by omega,by rw[r1.1];exact hz.2,fun p hp=>UX i hs hp (r1.rep k.toNat) q⟩
 ·cases e3
end
theorem Jku{d:D}{s:Sl}{k:Int}(e:s.m=some [d])(h1:JgE k=true)(h2:k.toNat<=16777216):JmS s (.sh (.int k))=some (.own (Qv k.toNat d)):=by
 unfold JmS;rw[e,QX];show(some k).bind _=_;rw[QX,if_pos ⟨h1,by rw[Gy,Nat.one_mul];exact h2⟩]
 simp_all
end LE

namespace L2
open PySem PySem.Spec PyProof.Rows
noncomputable def JoY(i:Nat)(t:TS):TS:=fun D σ H=>∃a kvs,σ[i]?=some (some (.ref a))/\H a=some (.dK kvs)/\∀o,t D σ (upd H a (.frz o (.dK kvs)))
theorem Inv.freeze{X:Cx}{pins:List (Qd×Obj)}{σ:St}{H:Hp}{s:Qe}{a:Qd}{kvs:List (Key×V)}(I:Inv X pins σ H s)(e:H a=some (.dK kvs)):∃o,Inv X pins σ (upd H a (.frz o (.dK kvs))) s:=by
 obtain⟨z,y,vs,r,ob,es,ep,e1,c⟩:=(show ObjOk X.prog X.w H s.heap a (.dK kvs) from I.hok a _ e)
 have:=I.write (x:=a) (e:=a) (o:=.frz ob (.dK kvs)) (h':=s.heap) (t':=s.toks) (by rw[e];trivial) (.inl rfl) (fun b u _ q=>q) ⟨ob,e1⟩ ⟨e1,z,y,vs,r,ob,es,ep,e1,c⟩;exact⟨ob,this⟩
theorem JnQ{X:Cx}{st:GB}{t:TS}(i:Nat)(h:PS X st t):PS X st (JoY i t):=by
 intro pins s σ H D I ⟨a,kvs,e1,e2,q⟩;obtain⟨o,I'⟩:=I.freeze e2
 solve_by_elim
noncomputable def Itd(a:Qd)(o:Obj)(kvs:List (Key×V)):It :=
 ⟨fun i H=>H a=some (.frz o (.dK kvs))/\∃p,kvs[i]?=some p,
  fun i H x H'=>∃t k v,x=.ref t/\H t=none/\kvs[i]?=some (k,v)/\H'=upd H t (.tup [kV k,v]),
  fun i H=>H a=some (.frz o (.dK kvs))/\i=kvs.length⟩
theorem JpX{P:Qu}{w:QJ}{k:Key}{u:Qc}(h:(JW P w).is k u=true):RelV (kV k) u:=by
 rcases J6 (show JaE k u=true from h) with ⟨i,t,rfl,rfl⟩|⟨x,t,rfl,rfl⟩
 ·exact⟨t,rfl⟩
 ·exact⟨t,rfl⟩
theorem KV.get{κ:Type}:∀{kvs:List (κ×V)} {vs:List (κ×Qc)} {i:Nat} {p:κ×V},KV kvs vs->kvs[i]?=some p->∃u,vs[i]?=some (p.1,u)/\RelV p.2 u
 | _,_,0,p,.cons h _,e=>by grind
 | _,_,i+1,p,.cons _ t,e=>by obtain⟨u,h1,h2⟩:=KV.get (i:=i) t (by simpa using e);exact⟨u,by simpa using h1,h2⟩
 | _,_,_,_,.nil,e=>by simp at e
theorem Jbl{X:Cx}{pins:List (Qd×Obj)}{σ:St}{H:Hp}{s:Qe}{a:Qd}{o:Obj}{kvs:List (Key×V)}{es:Array DictEntry}{ep:Nat}(I:Inv X pins σ H s)(h:H a=some (.frz o (.dK kvs)))(hd:o.data=.dict es ep) :
 ∃vs,KV kvs vs/\s.heap.DictAt (JW X.prog X.w) a vs ep/\(a == sysModules)=false:=by
 obtain⟨e0,z,y,vs,r,ob,es',ep',e1,c1,c2,c3⟩:=(show ObjOk X.prog X.w H s.heap a (.frz o (.dK kvs)) from I.hok a _ h)
 rw[e0] at e1;cases e1;rw[hd] at c2;cases c2;exact⟨vs,r,⟨o,es,e0,c1,hd,c3⟩,y⟩
theorem Jho{P:Qu}{w:QJ}{K:Qw}{elts:List Q4}{kk:Nat}{pos:Pos}(a it:Qd)(o:Obj)(kvs:List (Key×V))(es:Array DictEntry)(ep:Nat)(hd:o.data=.dict es ep) :
 Turn P w K (.Tuple elts kk pos) (Itd a o kvs) [it] it (fun i h=>∃ok ov,IsItemIter h it a i kvs.length ep ok ov) where
 mem:=by simp
 obj:=fun i h st c hc=>by grind
 keep:=fun i h h' st k=>by obtain⟨ok,ov,s1⟩:=st;exact⟨ok,ov,k it (by simp) _ s1⟩
 item:=by
  intro X hP hw hK hc i pins s σ H E I hf st hg;subst hP hw hK;obtain⟨hH,⟨k,v⟩,e1⟩:=hg;obtain⟨vs,r,dd,_⟩:=Jbl I hH hd;obtain⟨ok,ov,s1⟩:=st;obtain⟨u,hu,ru⟩:=r.get e1;have hl:kvs.length=vs.length:=KV.length r;rw[hl] at s1;refine wpAny_pyNext_items_item s1 dd hu fun key h' hk hit' ht hz hkeep=>?_
  refine⟨_,rfl,wpAny_letOwnedTupleGo_items (s:={ s with heap:=h' }) hit' fun k2 t9 e9=>?_⟩
  replace e9:Qy it h' k2:=e9;have elt:it<s.heap.objs.size:=Qm s1
  have I1:Inv X pins σ (upd H s.heap.objs.size (.tup [kV k,v])) { s with heap:=s.heap.push { cls:=.type "tuple",data:=.seq #[key,u] },toks:=s.toks } :=
   I.laid (o:=.tup [kV k,v]) (fun c ob q=>Qf _ q) (Qo _) ⟨by show 2<=Qq;decide,[key,u],.cons (JpX hk) (.cons ru .nil),⟨_,Qj _ rfl,rfl,_,rfl⟩⟩
  have hf1:∀c∈[it],FpOk X pins (upd H s.heap.objs.size (.tup [kV k,v])) c:=fun c hc=>by
   have hc':c=it:=by simpa using hc
   subst hc';exact⟨by rw[Jl (QQ elt)];exact(hf c hc).1,(hf c hc).2⟩
  have I2:Inv X pins σ (upd H s.heap.objs.size (.tup [kV k,v])) { s with heap:=k2,toks:=s.toks }:=Inv.turnedL (s:={ s with heap:=s.heap.push { cls:=.type "tuple",data:=.seq #[key,u] },toks:=s.toks }) I1 (fun c ob hc q=>by
   have hc':c≠it:=fun z=>hc (by simp[z])
   refine e9.extBut c ob hc' ?_
   by_cases hcs:c=s.heap.objs.size
   ·subst hcs;have q':(s.heap.push { cls:=.type "tuple",data:=.seq #[key,u] }).get? s.heap.objs.size=some ob:=q;rw[Qj _ rfl] at q'
    simp_all
   grind[Lw]) hf1
  refine⟨.ref s.heap.objs.size,_,I2,rfl,⟨_,k,v,rfl,I.hok.fresh (Qo _),e1,rfl⟩,⟨key,u,?_⟩,fun c hc=>(hf1 c hc).1⟩
  ·rw[hl];exact t9
 done:=by
  intro X hP hw hK hc i pins s σ H E I hf st hg;subst hP hw hK;obtain⟨hH,ei⟩:=hg;obtain⟨vs,r,dd,_⟩:=Jbl I hH hd;obtain⟨ok,ov,s1⟩:=st;have hl:kvs.length=vs.length:=KV.length r;have hh:X.A.handled=none:=I.ok.hd hc;rw[hl] at s1;refine wpAny_pyNext_items_end hh s1 dd (Re (by omega)) fun h' he=>⟨rfl,?_⟩
  exact I.turnedL (fun c ob hc q=>he c ob (fun z=>hc (by simp[z])) q) hf
 self:=fun _ _ _ _ _ st h=>by obtain⟨ok,ov,s1⟩:=st;exact PySem.W.kcp_self s1 h
noncomputable def Jr3(td:TE):TI:=fun σ H R=>td σ H fun x H1=>∃a o kvs,x=.ref a/\H1 a=some (.frz o (.dK kvs))/\R (Itd a o kvs) H1
theorem Jli{X:Cx}{elts:List Q4}{kk:Nat}{tpos:Pos}{d:Q4}{td:TE}{apos pos:Pos}(hd:PE X d td)(hbase:attributeBase d "items" X.env (eval d X.env)=eval d X.env:=by rfl)(hline:(apos.endLine == pos.line)=true:=by rfl)
:PI X (.Tuple elts kk tpos) (.Call (.Attribute d "items" apos) [] [] pos) (Jr3 td):=by
 intro pins s σ H R I h;refine wpAny_Call_method0_late hbase hline (thn (hd pins s σ H _ I h) fun v s1 ⟨x,H1,I1,r1,a,o,kvs,ex,hH,q⟩=>?_);subst ex;cases r1;obtain⟨t1,t2,_⟩:=JgF I1 (.inl ⟨kvs,.inr ⟨o,hH⟩⟩);have hO:=(show ObjOk X.prog X.w H1 s1.heap a (.frz o (.dK kvs)) from I1.hok a _ hH)
 obtain⟨e0,z,y,vs,r,ob,es,ep,e1,c1,c2,c3⟩:=hO;rw[e0] at e1;cases e1;have dd:s1.heap.DictAt (JW X.prog X.w) a vs ep:=⟨o,es,e0,c1,c2,c3⟩
 have hl:kvs.length=vs.length:=KV.length r;refine⟨"dict","dict.items",Lp,MP,PySem.F.type_dict_items,t1,t2,Kd rfl (Rx ?_)⟩;refine call_meetsIn MP t1 PySem.F.entry_dict_items (PySem.F.args_dict_items_1 _) (meets_dict_items (JW X.prog X.w) a y) ⟨⟨vs,dd.dictOf⟩,?_⟩
 have I2:Inv X pins σ H1 { s1 with heap:=s1.heap.push { cls:=.type "dict_items",data:=.fields #[.ref a] },toks:=s1.toks }:=I1.kept fun b ob q=>Qf _ q
 refine wpAny_pyIter_items (s:={ s1 with heap:=s1.heap.push { cls:=.type "dict_items",data:=.fields #[.ref a] } }) (d:=a) (kvs:=vs) (ep:=ep) (knd:=JW X.prog X.w) ⟨_,Qj _ rfl,rfl,rfl⟩ (dd.push _) ?_;refine⟨_,[(s1.heap.push { cls:=.type "dict_items",data:=.fields #[.ref a] }).objs.size],_,_,H1,rfl,I2.kept (t':=s1.toks) fun b ob q=>Qf _ q,Jho a _ o kvs es ep c2,⟨.none,.none,?_⟩,fun c hc=>?_,q⟩
 ·rw[hl];exact Qj _ rfl
 ·have hc':c=(s1.heap.push { cls:=.type "dict_items",data:=.fields #[.ref a] }).objs.size:=by simpa using hc
  subst hc';exact I2.fpOk (Qo _) (I2.hok.fresh (Qo _))
end L2
namespace LE
open PySem L2 LR
noncomputable def JiM(i:Nat)(b:Es):Es:=fun E=>match E[i]? with
 | some (.od ks ds)=>b (E.set i (.sh (.dfz ks ds)))
 | _=>none
noncomputable def JkM:List Int->List D->List D:=List.zipWith fun k d=>.tup [.int k,d]
noncomputable def JgC(a:Ev):En->Option (List D):=fun E=>(a E).bind fun s=>match s with
 | .sh (.dfz ks ds)=>some (JkM ks ds)
 | _=>none
section
variable{K:Qw}{C:Qd}{m:Bool}{t:TS}{et:Es}{td:TE}{ed:Ev}
theorem Jry(i:Nat)(ht:SS K C t et):SS K C (JoY i t) (JiM i et):=by
 intro B H0 H σ E o D I e f;unfold JiM at e;split at e
 ·next ks ds h =>
  obtain⟨l,xs,g1,g2,g3,g4,gk,g5⟩:=I.slotD h;refine⟨l,_,g1,g2,fun ob=>?_⟩;have hi:i<E.length:=(Qn.mp h).1;have s0:Same H0 (upd H0 l (.frz ob (dkO ks xs))):=.new g3;have nb:∀{A:Hp},A l=none->Same A H->Same A (upd H l (.frz ob (dkO ks xs))):=fun {A} n s a o e=>by rw[Jl (JA e n)];exact s a o e
  have s1:Same (upd H0 l (.frz ob (dkO ks xs))) (upd H l (.frz ob (dkO ks xs))):=fun a o e=>by
   by_cases ha:a=l
   ·grind[Jw]
   ·rw[Jl ha] at e ⊢;exact I.h a o e
  have st:SStep B H0 (upd H0 l (.frz ob (dkO ks xs))) (upd H l (.frz ob (dkO ks xs))):=⟨nb g4 I.b,s0,fun a o e=>by grind[Jl],s1⟩
  refine ht B _ _ σ _ o D ⟨nb g4 I.b,s1,by simp[I.len],fun j s e=>?_,fun j k u1 u2 v hjk a1 a2 w1 w2 a3=>?_,I.t⟩ e (f.step st)
  ·rw[QU] at e
   by_cases hj:i=j
   ·subst hj;rw[if_pos rfl,if_pos hi] at e;cases e;exact .inr ⟨_,g1,.mkZ Jw gk (g5.mono s0)⟩
   ·rw[if_neg hj] at e;rcases I.at' j s e with z|⟨v,q1,q2⟩
    ·exact .inl z
    ·refine .inr ⟨v,q1,?_⟩
     cases s with
     | no=>trivial
     | sh d=>exact RD.mono s0 q2
     | bo es=>obtain⟨l',ys,p1,p2,p3⟩:=q2;exact⟨l',ys,p1,p2,p3.mono s0⟩
     | bd ks es=>obtain⟨l',ys,p1,p2,hk,p3⟩:=q2;exact⟨l',ys,p1,p2,hk,p3.mono s0⟩
     | bt ks es=>obtain⟨l',ys,p1,p2,hk,p3⟩:=q2;exact⟨l',ys,p1,p2,hk,p3.mono s0⟩
     | bw ks es=>obtain⟨l',ys,p1,p2,hk,p3⟩:=q2;exact⟨l',ys,p1,p2,hk,p3.mono s0⟩
     | own es =>
      obtain⟨l',ys,p1,p2,p3,p4,p5⟩:=q2;subst p1;have:l'≠l:=fun z=>by subst z;exact I.sep i j _ _ (.ref l') hj h e rfl rfl g1 q1
      exact⟨l',ys,rfl,by rw[Jl this];exact p2,by rw[Jl this];exact p3,p4,p5.mono s0⟩
     | od ks es =>
      obtain⟨l',ys,p1,p2,p3,p4,hk,p5⟩:=q2;subst p1;have:l'≠l:=fun z=>by subst z;exact I.sep i j _ _ (.ref l') hj h e rfl rfl g1 q1
      exact⟨l',ys,rfl,by rw[Jl this];exact p2,by rw[Jl this];exact p3,p4,hk,p5.mono s0⟩
     | ot ks es =>
      obtain⟨l',ys,p1,p2,p3,p4,hk,p5⟩:=q2;subst p1;have:l'≠l:=fun z=>by subst z;exact I.sep i j _ _ (.ref l') hj h e rfl rfl g1 q1
      exact⟨l',ys,rfl,by rw[Jl this];exact p2,by rw[Jl this];exact p3,p4,hk,p5.mono s0⟩
     | dw ks es =>
      obtain⟨l',ys,p1,p2,p3,p4,hk,p5⟩:=q2;subst p1;have:l'≠l:=fun z=>by subst z;exact I.sep i j _ _ (.ref l') hj h e rfl rfl g1 q1
      exact⟨l',ys,rfl,by rw[Jl this];exact p2,by rw[Jl this];exact p3,p4,hk,p5.mono s0⟩
  ·have own:∀{j:Nat} {u:Sl},(E.set i (.sh (.dfz ks ds)))[j]?=some u->YA u=true->E[j]?=some u:=fun {j u} a w=>by
    rw[QU] at a
    by_cases hj:i=j
    ·subst hj;rw[if_pos rfl,if_pos hi] at a;cases a;cases w
    simp_all
   exact I.sep j k u1 u2 v hjk (own a1 w1) (own a2 w2) w1 w2 a3
 ·cases e
theorem Jge:∀(ks:List Int) (xs:List V) (i:Nat),((ks.map Sum.inl:List Key).zip xs)[i]?=(match ks[i]?,xs[i]? with|some k,some x=>some ((Sum.inl k:Key),x)|_,_=>none)
 | [],xs,i=>by simp
 | k::ks,[],i=>by cases h:(k::ks)[i]? <;> simp_all
 | k::ks,x::xs,0=>by simp
 | k::ks,x::xs,i+1=>by simpa using Jge ks xs i
theorem JlK(ha:SE K C td ed):SI K C m (Jr3 td) (JgC ed):=by
 intro B H0 H σ E ds R I e q;obtain⟨s,e1,e⟩:=bind_some e;split at e
 ·next ks es =>
  cases e;refine ha B H0 H σ E _ _ I e1 fun x H1 H1' s1 r1=>?_
  obtain⟨l,xs,o,rfl,h,hk,rl⟩:=RD.dfzI r1;refine⟨l,o,_,rfl,s1.i _ _ h,q _ _ _ s1 ?_⟩
  have sA:Same (if m=true then H1' else B) H1':=by
   split
   ·exact Same.refl _
   ·exact I.b.trans s1.h
  intro H0' H' st;have hl:H' l=some (.frz o (dkO ks xs)):=st.i _ _ (st.z _ _ h);refine⟨fun i d e=>?_,⟨hl,?_⟩⟩
  ·unfold JkM at e;rw[Rb] at e
   cases hki:ks[i]? with
   | none=>rw[hki] at e;cases e
   | some k =>
    cases hdi:es[i]? with
    | none=>simp_all
    | some d' =>
     rw[hki,hdi] at e;cases e;obtain⟨x,hx,rx⟩:=rl.get hdi;have hz:((ks.map Sum.inl:List Key).zip xs)[i]?=some (Sum.inl k,x):=by rw[Jge,hki,hx]
     refine⟨⟨hl,_,hz⟩,?_⟩;rintro z H2 ⟨p,k',v',rfl,hp,hv,rfl⟩;rw[hz] at hv;cases hv;have h0:H0' p=none:=Same.free st.i hp;refine⟨upd H0' p (.tup [.int k,x]),⟨.new hp,.new h0,fun a o e=>?_,fun a o e=>?_⟩,?_⟩
     ·grind[Jl]
     ·by_cases h:a=p
      ·subst h;rw[Jw] at e ⊢;exact e
      ·rw[Jl h] at e ⊢;exact st.i a o e
     ·exact .mkT (.of Jw) (.cons (.int _) (.cons (rx.mono (st.z.trans (.new h0))) .nil))
  ·unfold JkM;rw[List.length_zipWith,M6,QN,rl.1]
 ·cases e
end
end LE

namespace L2
open PySem PySem.Spec PyProof.Rows
noncomputable def Jo3(p a:Qd):HO:=.ext fun h=>Ry h p a
theorem Jmu{X:Cx}{pins:List (Qd×Obj)}{σ:St}{H:Hp}{s:Qe}{a:Qd}{kvs:List (Key×V)}(I:Inv X pins σ H s)(h:Rd H a (.dK kvs)) :
 ∃vs ep,KV kvs vs/\s.heap.DictAt (JW X.prog X.w) a vs ep/\(a == sysModules)=false/\kvs.length<=Qq:=by
 obtain⟨z,y,vs,r,ob,es,ep,e1,c⟩:=(show ObjOk X.prog X.w H s.heap a (.dK kvs) from h.ok I.hok)
 exact⟨vs,ep,r,⟨ob,es,e1,c⟩,y,z⟩
noncomputable def JrE(H:Hp)(r a:Qd):Prop:=r=a\/H r=some (Jo3 r a)
theorem Jri{X:Cx}{pins:List (Qd×Obj)}{σ:St}{H:Hp}{s:Qe}{r a:Qd}{kvs:List (Key×V)}(I:Inv X pins σ H s)(d:JrE H r a)(h:Rd H a (.dK kvs)) :
 ∃vs T OK,KV kvs vs/\PySem.W.KdlSrc X.prog X.w T r a vs.length (fun i v=>∃k x,vs[i]?=some (k,x)/\(JW X.prog X.w).is k v=true) OK/\OK s.heap/\vs.length<=Qq:=by
 obtain⟨vs,ep,rl,dd,y,z⟩:=Jmu I h;rw[KV.length rl] at z;rcases d with e|e
 ·subst e;exact⟨vs,_,_,rl,PySem.W.kdl_dict (ep:=ep) y,dd,z⟩
 ·have vw:Ry s.heap r a:=(show ObjOk X.prog X.w H s.heap r (Jo3 r a) from I.hok r _ e).1;exact⟨vs,_,_,rl,PySem.W.kdl_keys (ep:=ep),⟨vw,dd⟩,z⟩
theorem Je8{P:Qu}{w:QJ}:∀{ks:List Int} {xs:List V} {vs:List (Key×Qc)} {acc:List Qc},ks.length=xs.length->KV ((ks.map Sum.inl:List Key).zip xs) vs->acc.length=vs.length ->
 (∀(j:Nat) (v:Qc),acc[j]?=some v->∃k x,vs[j]?=some (k,x)/\(JW P w).is k v=true)->IntsAre acc ks
 | [],[],_,acc,_,r,hl,_=>by
  cases r
  cases acc with
  | nil=>exact .nil
  | cons _ _=>simp at hl
 | [],_::_,_,_,h,_,_,_=>by simp at h
 | _::_,[],_,_,h,_,_,_=>by simp at h
 | k::ks,x::xs,vs,acc,h,r,hl,hv=>by
  cases r with
  | cons r1 r2 =>
   cases acc with
   | nil=>simp at hl
   | cons u acc =>
    obtain⟨k',x',e1,e2⟩:=hv 0 u rfl;simp at e1;obtain⟨r1a,r1b⟩:=r1;subst e1;have ek:k'=Sum.inl k:=r1a.symm;subst ek;rcases J6 (show JaE (Sum.inl k) u=true from e2) with ⟨i,t,e,rfl⟩|⟨y,t,e,_⟩
    ·cases e;exact .cons k t (Je8 (by simpa using h) r2 (by simpa using hl) fun j v e=>hv (j+1) v (by simpa using e))
    ·cases e
section
variable{prog:Qu}{w:QJ}{A:QI}{E:Qc->Qe->Prop}{s:Qe}{T:String}{r d:Qd}{n:Nat}{P:Nat->Qc->Prop}{OK:Q0->Prop}
end
noncomputable def Jlu:List V->Hp->VK->Prop:=fun xs H Q=>∃(r a:Qd) (ks:List Int) (vs:List V),xs=[.ref r]/\JrE H r a/\Rd H a (.dK ((ks.map Sum.inl:List Key).zip vs))/\ks.length=vs.length/\∀l,H l=none->Q (.ref l) (upd H l (.lst (ks.map V.int)))
theorem Jgn{X:Cx}(hc:X.calm=true):YD X (.type "list") Jlu:=by
 intro pins s σ H xs us Q I r h;obtain⟨p,a,ks,vs0,rfl,ds,hq,hlk,q⟩:=h;obtain⟨u,rfl,rx⟩:=WG r;cases rx;obtain⟨vs,T,OK,rl,K,ok,hz⟩:=Jri I ds hq;have hh:X.A.handled=none:=I.ok.hd hc
 have hl:vs.length=ks.length:=by
  have:=KV.length rl
  simp_all
 refine PySem.W.kdl_call K hh ok hz fun h' tk acc c' hk hS items=>?_
 have hI:IntsAre acc.toList ks:=Je8 (P:=X.prog) (w:=X.w) hlk rl (by rw[KA,items.1]) fun j v e=>items.2 j v (by simp_all)
 have hne:H s.heap.objs.size=none:=I.hok.fresh (Qo _);refine⟨.ref s.heap.objs.size,_,I.laid (t':=tk) hk (Qo _) (show ObjOk X.prog X.w _ _ _ (.lst (ks.map V.int)) from⟨by simp_all,acc.toList,c',Z3 hI,?_⟩),rfl,q _ hne⟩;rw[hS]
end L2
namespace LE
open PySem L2 LR
noncomputable def Jgu(a:Ev):Ev:=fun E=>(a E).bind fun s=>s.dk.bind fun p=>some (.own (p.1.map .int))
section
variable{K:Qw}{C:Qd}{td:TE}{ed:Ev}
theorem Jn8(ha:SE K C td ed):SE K C (tCB Jlu (Wb td Zk)) (Jgu ed):=by
 intro B H0 H σ E r Q I e q;obtain⟨s,e1,e⟩:=bind_some e;obtain⟨p,e2,e⟩:=bind_some e;cases e;refine ha B H0 H σ E s _ I e1 fun x H1 H1' s1 r1=>?_
 obtain⟨l,xs,rfl,h,hk,rl⟩:=r1.dk s1.i e2;exact⟨l,l,p.1,xs,rfl,.inl rfl,h,by rw[hk,rl.1],fun z hz=>UX s1.i s1.h hz (RDL.ofInts _) fun v H2 H2' s2 r2=>q v H2 H2' (s1.comp s2 fun _ y=>y) r2⟩
end
end LE

namespace L2
open PySem PySem.Spec PyProof.Rows
theorem Inv.more{X:Cx}{pins:List (Qd×Obj)}{σ:St}{H H':Hp}{s:Qe}{h':Q0}{t':Nat}(I:Inv X pins σ H s)(k:∀b u,s.heap.get? b=some u->h'.get? b=some u)(hx:∀b,b<s.heap.objs.size->H' b=H b)
 (new:∀b o,s.heap.objs.size<=b->H' b=some o->ObjOk X.prog X.w H' h' b o):Inv X pins σ H' { s with heap:=h',toks:=t' }:=by
 have old:∀b o,H b=some o->H' b=some o:=fun b o e=>by rw[hx b (I.hok.lt e)];exact e
 refine I.un ⟨fun b u q _ _ _=>k b u q,fun b u q _ _ _=>⟨u.slots,k b u q⟩,fun b u q n _=>by rw[hx b (Qm q)];exact n,fun b u q _=>⟨u,k b u q⟩,fun b xs q=>old b _ q,fun b u xs q=>old b _ q,fun b _ _ _ _ q=>old b _ q⟩ fun b o e=>?_
 rcases RP b s.heap.objs.size with z|z
 ·rw[hx b z] at e;exact(I.hok b o e).stay (fun c u _ q=>k c u q) (fun c q=>old c _ q) fun c xs q=>old c _ q
 ·exact new b o z e
end L2
namespace LE
open PySem L2 LR
section
variable{K:Qw}{C:Qd}{td:TE}{ed:Ev}
end
end LE

namespace L2
open PySem PySem.Spec PyProof.Rows
theorem ObjOk.there{P:Qu}{w:QJ}{H:Hp}{h:Q0}{a:Qd}{o:HO}(x:ObjOk P w H h a o):∃u,h.get? a=some u:=by
 cases o with
 | lst xs=>obtain⟨_,_,_,_,e⟩:=x;exact⟨_,e⟩
 | tup xs=>obtain⟨_,_,_,p⟩:=x;obtain⟨o,e,_⟩:=p;exact⟨_,e⟩
 | dK kvs=>obtain⟨_,_,_,_,o,_,_,e,_⟩:=x;exact⟨_,e⟩
 | dT kvs=>obtain⟨_,_,_,_,o,_,_,e,_⟩:=x;exact⟨_,e⟩
 | set S n=>obtain⟨o,_,_,_,e,_⟩:=x;exact⟨_,e⟩
 | ins C dx fs=>obtain⟨_,_,_,e,_⟩:=x;exact⟨_,e⟩
 | own y=>solve_by_elim
 | xd fs=>obtain⟨_,⟨_,_,_,e,_⟩,_⟩:=x;exact⟨_,e⟩
 | rng lo hi=>obtain⟨_,_,_,e⟩:=x;exact⟨_,e⟩
 | frz ob u=>obtain⟨e,_⟩:=x;exact⟨_,e⟩
 | tbl ps l c q =>
  rcases x with e|⟨_,_,_,e,_⟩
  ·exact⟨_,e⟩
  ·exact⟨_,e⟩
 | met f y=>exact⟨_,(show h.get? a=some _ from x)⟩
 | ext φ=>obtain⟨_,⟨_,e⟩,_⟩:=x;exact⟨_,e⟩

noncomputable def TrD(h base:Q0)(e:Qd)(cls:Qc)(dct:Option Qd)(fl:Qc):Prop :=
 ∃oe vs T oT ts,h.get? e=some oe/\(oe.cls=cls/\oe.dict=dct)/\oe.data=.fields vs/\vs[1]?=some (.ref T)/\base.get? T=none/\T≠e/\h.get? T=some oT/\oT.data=.fields ts/\ts[3]?=some fl
noncomputable def Fl(base:Q0)(l:List Env)(e:Qd)(cls:Qc)(h:Q0):Prop :=
 base.StaysIn h/\base.get? e=none/\h.FunFrames base l/\(TrD h base e (LE.Jpp cls) (LE.Jpo cls) .none\/∃oe vs,h.get? e=some oe/\(oe.cls=LE.Jpp cls/\oe.dict=LE.Jpo cls)/\oe.data=.fields vs/\vs[1]?=some .none)
noncomputable def Cov(fs:List Qd)(H':Hp)(h h' base:Q0):Prop:=∀b o,(H' b≠none\/∃u,h.get? b=some u)->b∉fs->h'.get? b=some o->base.get? b=some o
structure XF (P:Qu) (w:QJ) (l:List Env) (H:Hp) (h:Q0) (a:Qd) (cls:Qc) (H':Hp) (base h':Q0):Prop where
 un:Un (frs l) [] H H' h h'
 hok:HOk P w H' h'
 fl:Fl base l a cls h'
 cov:Cov (frs l) H' h h' base
 free:H' a=none
 new:h.get? a=none
noncomputable def CX1(P:Qu)(w:QJ):CXT:=fun l H s E e s'=>∃(a:Qd) (cls:Qc) (H':Hp) (base:Q0),e=.ref a/\s'.os=s.os/\AllBare s'.gens/\XF P w l H s.heap a cls H' base s'.heap/\E cls (some a) H'
section
variable{P:Qu}{w:QJ}{l:List Env}{H H':Hp}{h h1 h2 base base0:Q0}{a:Qd}{cls:Qc}
end
section
variable{M:Model}{A:QI}{E:Qc->Qe->Prop}{s:Qe}{base:Q0}{env:Env}{outer l:List Env}{L e:Qd}{cls fl:Qc}{dct:Option Qd}{Q:Unit->Qe->Prop}
end

noncomputable def XP(X:Cx)(pins:List (Qd×Obj))(σ:St)(E:XK)(e:Qc)(s':Qe):Prop:=∃H s,Inv X pins σ H s/\CX1 X.prog X.w X.stack H s E e s'
section
variable{X:Cx}{pins:List (Qd×Obj)}{σ:St}{H H':Hp}{s s':Qe}{base:Q0}{a:Qd}{cls:Qc}{E:XK}{e:Qc}
end
end L2

namespace L2
open PySem PySem.Spec PyProof.Rows PySem.Calls
section
variable{P:Qu}{w:QJ}{K:Qw}{mg:Str->Option Qc}{base:Q0}{N:List Str}{qual:Str}{scope:L8}{f:Qd}{cd:Qc}{A:QI}{outer:List Env}{s:Qe}{H:Hp}{E:XK}
end
section
variable{X:Cx}{x:Str}{np cpos pos:Pos}{C:Qd}{E:XK}{e:Q4}{es:List Q4}{t:TA}
end
end L2

namespace L2
open PySem PySem.Spec PyProof.Rows PySem.Calls
section
variable{X:Cx}{k:Nat}{C:Qd}{ps:List Str}{sp:Sp}{x:Str}{p pos:Pos}{e:Q4}{es:List Q4}{t:TA}{st:GB}{rest:List GB}{T:XK->TE}{TS1:(St->XK)->TS}{u:TS}
end
end L2
namespace L2
open PySem PySem.Spec PyProof.Rows PySem.Calls LE
section
variable{X:Cx}{pins:List (Qd×Obj)}{σ:St}{H:Hp}{s:Qe}{a:Qd}
end
section
variable{X:Cx}{body suite:List GB}{b₀:GB}{i:Nat}{n cn:Str}{np hpos pos:Pos}{CL:Qd}{T:(St->XK)->TS}{th:TS}
end
end L2

namespace L2
open PySem PySem.Spec PyProof.Rows PySem.Calls LE
structure ExcN (K:Qw) (n:Str):Prop where
 pl:∀c,nsIn K mainGlobals n=some (some (.ref c))->findIn K (.ref c) "__getattribute__"=some (some (.builtin "BaseException.__getattribute__"))/\findIn K (.ref c) "__getattr__"=some none/\mroIn K c (.type "BaseException")=some true/\hasDictIn K c=true/\findIn K (.ref c) "__class__"=some (some (.builtin "object.__class__"))/\mroIn K c (.type "object")=some true
structure ExcG (K:Qw):Prop where
 hn:RK K (.builtin "object.__class__") "__get__"=some (some (.builtin "getset_descriptor.__get__"))
 htk:PySem.W.takesIn K (.builtin "object.__class__")=some true
section
variable{prog:Qu}{w:QJ}{A:QI}{E:Qc->Qe->Prop}{s:Qe}{K:Qw}{x C D:Qd}{ox:Obj}
end
section
variable{K:Qw}{x D:Qd}{ox:Obj}{od:Option Obj}
end
section
variable{X:Cx}
end
end L2

namespace LE
open PySem L2 LR
section
variable(K:Qw)(C:Qd)
end
section
variable{K:Qw}{C:Qd}{W:XK}{t:TA}{ev:En->Option (List Sl)}{te:TE}{ts us:TS}{et eu:Es}{xt xu:Xv}{ex:Xv}
end
section
variable{K:Qw}{C:Qd}{B H0 H:Hp}{σ:St}{E:En}
end
section
variable{K:Qw}{C:Qd}
end
noncomputable def exB(n m:Str):Bool:=n == m || m == "LumpError"
section
variable{K:Qw}{C:Qd}{te:TE}{ea:Ev}
structure IsiN (K:Qw) (R:List Str) (m:Str) (c:Qd):Prop where
 own:∀n∈R,ExcN K n
 g:ExcG K
 k:∀n∈R,∀c',nsIn K mainGlobals n=some (some (.ref c'))->PySem.W.kitOne K (.ref c') (.ref c)=some (exB n m)
 o:PySem.W.kitOne K (.type "NoneType") (.ref c)=some false
end
end LE
namespace L2
open PySem PySem.Spec PyProof.Rows PySem.Calls LE
section
variable{X:Cx}
end
end L2
namespace LE
open PySem L2 LR
section
variable{K:Qw}{C:Qd}{te:TE}{ea:Ev}
end
end LE

namespace L2
open PySem PySem.Spec PyProof.Rows PySem.Calls LE
section
variable{X:Cx}{K:Qw}
end
end L2
namespace LE
open PySem L2 LR
section
variable{K:Qw}{C:Qd}{ts:TS}
structure AtY (K:Qw) (n:Str) (c:Qd):Prop where
 ns:nsIn K mainGlobals n=some (some (.ref c))
 ga:findIn K (.ref c) "__getattribute__"=some (some (.builtin "BaseException.__getattribute__"))
 gn:findIn K (.ref c) "__getattr__"=some none
 mb:mroIn K c (.type "BaseException")=some true
 hd:hasDictIn K c=true
 fi:findIn K (.ref c) "__class__"=some (some (.builtin "object.__class__"))
 mr:mroIn K c (.type "object")=some true
end
section
variable(K:Qw)(C:Qd)
end
section
variable{K:Qw}{C:Qd}{W:XK}{ta te:TE}{t tr:TA}{ea:Ev}{xa xr ex:Xv}{wi:TI}
end
end LE

namespace LE
open PySem L2 LR
section
variable{K:Qw}{C:Qd}{W:XK}{t:TS}{et:Es}{xt:Xv}
end
end LE
namespace L2
open PySem PySem.Spec PyProof.Rows PySem.Calls LE
structure RoomH (k:Nat) (A:QI):Prop where
 dp:A.depth+3*k+5<recursionLimit
 un:A.units+16*k+200<cLine
section
variable{X:Cx}{k:Nat}{ps:List Str}{sp:Sp}{x:Str}{p pos:Pos}{e:Q4}{es:List Q4}{t:TA}
end
end L2

namespace L2
open PySem PySem.Spec PyProof.Rows PySem.Calls LE
section
variable{X:Cx}{k:Nat}{C:Qd}{ps:List Str}{sp:Sp}{x:Str}{p pos:Pos}{e:Q4}{es:List Q4}{t:TA}
end
end L2
namespace LE
open PySem L2 LR
section
variable(K:Qw)(C:Qd)
end
section
variable{K:Qw}{C:Qd}{W:XK}{t:TA}{ev:En->Option (List Sl)}{H0 H H2:Hp}
end
end LE

namespace L2
open PySem PySem.Spec PyProof.Rows PySem.Calls
section
variable{X:Cx}
end
end L2
namespace LE
open PySem L2 LR
section
variable{K:Qw}{C:Qd}{to te:TE}{eo ea:Ev}{Hs H0 H:Hp}{v:V}
end
end LE

namespace LE
open PySem L2 LR
section
variable{K:Qw}{C:Qd}
end
end LE

namespace PySem
abbrev WU(h:Q0)(z TI TO a:Qd)(f:Bool):Prop :=
 h.get? z=some { cls:=.type "zip",dict:=none,data:=.fields #[rawInt a,.bool f,.bool false,.ref TI,.ref TO],slots:=#[] }
section
variable{prog:Qu}{w:QJ}{A:QI}{E:Qc->Qe->Prop}{s:Qe}{z TI TO i1 i2 a:Qd}{f:Bool}{oa:Obj}{p1 p2:List Qd}{n1 n2 k:Nat}{P1 P2:Nat->Qc->Prop}{S1 S2:Nat->Q0->Prop}
theorem Jgg{Q:Bool->Qe->Prop}(gz:WU s.heap z TI TO a f)(ha:s.heap.get? a=some oa)(h:∀h',WU h' z TI TO a true->Qy z s.heap h'->Q false { s with heap:=h' }):wpAny (model prog w) A (QD (.ref z)) Q E s:=by
 unfold QD;refine Qa (QO gz rfl (x:=rawInt a) rfl ?_);show wpAny _ _ (loadIfAlive (Int.toNat (a:Int)) >>= _) _ _ _;rw[K1];refine Qa (PySem.W.kdx_alive ha ?_);show wpAny _ _ (field (.ref z) 1 >>= _) _ _ _;refine Qa (QO gz rfl (x:=.bool f) rfl ?_)
 cases f with
 | true=>exact Qk (h _ gz (Heap.SameBut.refl _ _))
 | false=>exact Qa (QR gz (by simp) fun h' y e=>Qk (h h' y e))
theorem JjV{Q:Qc->Qe->Prop}(D:ZA z TI TO i1 i2 p1 p2)(D1:Draws prog w A i1 p1 n1 P1 S1)(D2:Draws prog w A i2 p2 n2 P2 S2)(gz:WU s.heap z TI TO a f)(ha:s.heap.get? a=some oa)(gI:IsPair s.heap TI (.ref i1) (.ref i2))
 (st1:S1 k s.heap) (st2:S2 k s.heap) (l1:k<n1) (l2:k<n2)
 (hQ:∀x y h' tk,P1 k x->P2 k y->WU h' z TI TO a true->S1 (k+1) h'->S2 (k+1) h'->IsPair h' s.heap.objs.size x y->h'.objs.size=s.heap.objs.size+1 ->
  (∀c o,c≠z->c≠i1->c≠i2->s.heap.get? c=some o->h'.get? c=some o)->Q (.ref s.heap.objs.size) { s with heap:=h',toks:=tk }) :
 wpAny (model prog w) A (Builtin.«zip.__next__» ⟨[.ref z],[]⟩) (fun fin s'=>∃v,fin=.done (.ret v)/\Q v s') E s:=by
 obtain⟨hp,g,d,t0,os⟩:=s;have zi1:i1≠z:=fun q=>D.z1 (q▸D.m1)
 have zi2:i2≠z:=fun q=>D.z2 (q▸D.m2)
 show wpAny _ _ (field (.ref z) 2 >>= _) _ _ _;refine Qa (QO gz rfl (x:=.bool false) rfl (show wpAny _ _ (field (.ref z) 3 >>= _) _ _ _ from Qa (QO gz rfl (x:=.ref TI) rfl (Qa (Gv gI rfl ?_)))))
 show wpAny _ _ (QD (.ref z) >>= _) _ _ _;refine Qa (Jgg gz ha fun k1 y1 e1=>?_)
 replace e1:Qy z hp k1:=e1;simp only[Ko,if_false];refine Qa ?_;simp only[<- Array.forIn_toList,KS,Me];refine Qa (Qa (GQ (show wpAny _ _ (Q3 (.ref i1) >>= _) _ _ _ from Qa (D1.item k _ _ _ l1 (D1.frame _ _ _ st1 fun b hb o q=>e1.extBut b o (fun r=>D.z1 (r▸hb)) q) fun x k2 t2 px s2 e2=>Qk ?_))))
 replace e2:Qy i1 k1 k2:=e2;refine Qk ?_;have st2':S2 k k2:=D2.frame _ _ _ st2 fun b hb o q=>e2.extBut b o (fun r=>D.x1 (r▸hb)) (e1.extBut b o (fun r=>D.z2 (r▸hb)) q)
 refine Qa (Qa (GQ (show wpAny _ _ (Q3 (.ref i2) >>= _) _ _ _ from Qa (D2.item k _ _ _ l2 st2' fun y k4 t4 py s4 e4=>Qk ?_))))
 replace e4:Qy i2 k2 k4:=e4;refine Qk (Qk (Qa (Mf (hsz:=show 2<=Qq by decide) (Qk ⟨_,rfl,?_⟩))));have hsz:k4.objs.size=hp.objs.size:=by rw[e4.1,e2.1,e1.1]
 have Z4:WU k4 z TI TO a true:=e4.extBut _ _ (QY zi2) (e2.extBut _ _ (QY zi1) y1)
 show Q (.ref k4.objs.size) _;rw[hsz];refine hQ x y _ t4 px py (Qf _ Z4) ?_ ?_ ?_ (by rw[GD,hsz]) fun c o c1 c2 c3 q=>Qf _ (e4.extBut _ _ c3 (e2.extBut _ _ c2 (e1.extBut _ _ c1 q)))
 ·exact D1.frame _ _ _ s2 fun b hb o q=>Qf _ (e4.extBut b o (fun r=>D.x2 (r▸hb)) q)
 ·exact D2.frame _ _ _ s4 fun b hb o q=>Qf _ q
 ·show(k4.push _).get? hp.objs.size=_;rw[<- hsz];exact Qj _ rfl
theorem Jmi{Q:Fin->Qe->Prop}(D:ZA z TI TO i1 i2 p1 p2)(D1:Draws prog w A i1 p1 n1 P1 S1)(D2:Draws prog w A i2 p2 n2 P2 S2)(gz:WU s.heap z TI TO a f)(ha:s.heap.get? a=some oa)(gI:IsPair s.heap TI (.ref i1) (.ref i2))
 (st1:S1 k s.heap) (st2:S2 k s.heap) (hend:k=n1\/(k<n1/\k=n2))
 (hE:∀h' e tk,(∀c o,c≠z->c≠i1->c≠i2->s.heap.get? c=some o->h'.get? c=some o)->(∃o,h'.get? e=some o/\o.cls=.type "StopIteration")->E (.ref e) { s with heap:=h',toks:=tk }) :
 wpAny (model prog w) A (Builtin.«zip.__next__» ⟨[.ref z],[]⟩) Q E s:=by
 obtain⟨hp,g,d,t0,os⟩:=s;show wpAny _ _ (field (.ref z) 2 >>= _) _ _ _;refine Qa (QO gz rfl (x:=.bool false) rfl (show wpAny _ _ (field (.ref z) 3 >>= _) _ _ _ from Qa (QO gz rfl (x:=.ref TI) rfl (Qa (Gv gI rfl ?_)))));show wpAny _ _ (QD (.ref z) >>= _) _ _ _;refine Qa (Jgg gz ha fun k1 y1 e1=>?_)
 replace e1:Qy z hp k1:=e1;simp only[Ko,if_false];refine Qa ?_;simp only[<- Array.forIn_toList,KS,Me];have q1:S1 k k1:=D1.frame _ _ _ st1 fun b hb o q=>e1.extBut b o (fun r=>D.z1 (r▸hb)) q
 rcases hend with rfl|⟨l1,rfl⟩
 ·refine Qa (Qa (GQ (show wpAny _ _ (Q3 (.ref i1) >>= _) _ _ _ from Qa (D1.done _ _ _ q1 fun k2 e e2 he=>?_))))
  replace e2:Lq i1 k1 k2:=e2;exact hE k2 e t0 (fun c o c1 c2 _ q=>e2 _ _ c2 (e1.extBut _ _ c1 q)) he
 ·refine Qa (Qa (GQ (show wpAny _ _ (Q3 (.ref i1) >>= _) _ _ _ from Qa (D1.item k _ _ _ l1 q1 fun x k2 t2 px s2 e2=>Qk ?_))))
  replace e2:Qy i1 k1 k2:=e2;refine Qk ?_;have st2':S2 k k2:=D2.frame _ _ _ st2 fun b hb o q=>e2.extBut b o (fun r=>D.x1 (r▸hb)) (e1.extBut b o (fun r=>D.z2 (r▸hb)) q)
  refine Qa (Qa (GQ (show wpAny _ _ (Q3 (.ref i2) >>= _) _ _ _ from Qa (D2.done _ _ _ st2' fun k4 e e4 he=>?_))))
  replace e4:Lq i2 k2 k4:=e4;exact hE k4 e t2 (fun c o c1 c2 c3 q=>e4 _ _ c3 (e2.extBut _ _ c2 (e1.extBut _ _ c1 q))) he
end
end PySem

namespace PySem
section
variable{prog:Qu}{w:QJ}{A:QI}{E:Qc->Qe->Prop}{s:Qe}{b1 b2:Bool}{a1 a2 z TI TO i1 i2 S:Qd}{xs ys:Array Qc}{i:Nat}
def LzSt(b1 b2:Bool)(a1 a2 z TI TO i1 i2 S:Qd)(xs ys:Array Qc)(i:Nat)(h:Q0):Prop :=
 IsPair h TI (.ref i1) (.ref i2)/\(IsItr b1 h i1 a1 i/\IsSq b1 h a1 xs)/\(IsItr b2 h i2 a2 i/\IsSq b2 h a2 ys) ∧
 ((IsZip h z TI TO .none/\∃u v,IsPair h TO u v)\/∃a f oa,WU h z TI TO a f/\h.get? a=some oa/\a≠S/\a≠z/\a≠i1/\a≠i2)
theorem IsSq.keep{b:Bool}{h h':Q0}{a:Qd}{xs:Array Qc}(q:IsSq b h a xs)(k:∀o,h.get? a=some o->h'.get? a=some o):IsSq b h' a xs:=by
 cases b with
 | true=>obtain⟨o,e,r⟩:=q;exact⟨o,k o e,r⟩
 | false=>obtain⟨o,e,r⟩:=q;exact⟨o,k o e,r⟩
theorem IsItr.keep'{b:Bool}{h h':Q0}{j a:Qd}{i:Nat}(q:IsItr b h j a i)(k:∀o,h.get? j=some o->h'.get? j=some o):IsItr b h' j a i:=by
 cases b with
 | true=>obtain⟨o,e,r⟩:=q;exact⟨o,k o e,r⟩
 | false=>obtain⟨o,e,r⟩:=q;exact⟨o,k o e,r⟩
theorem LzSt.keep{h h':Q0}(x:LzSt b1 b2 a1 a2 z TI TO i1 i2 S xs ys i h)(k:∀b o,b≠S->h.get? b=some o->h'.get? b=some o)(n:S∉[z,TI,TO,i1,i2,a1,a2]):LzSt b1 b2 a1 a2 z TI TO i1 i2 S xs ys i h':=by
 simp only[Qp,Gd,or_false,not_or] at n;obtain⟨n1,n2,n3,n4,n5,n6,n7⟩:=n;obtain⟨x1,x2,x3,x4⟩:=x;refine⟨k _ _ (QY n2) x1,⟨IsItr.keep' x2.1 fun o e=>k _ o (QY n4) e,IsSq.keep x2.2 fun o e=>k _ o (QY n6) e⟩,⟨IsItr.keep' x3.1 fun o e=>k _ o (QY n5) e,IsSq.keep x3.2 fun o e=>k _ o (QY n7) e⟩,?_⟩;rcases x4 with ⟨y1,u,v,y2⟩|⟨a,f,oa,y1,y2,y3⟩
 ·exact .inl ⟨k _ _ (QY n1) y1,u,v,k _ _ (QY n3) y2⟩
 ·exact .inr ⟨a,f,oa,k _ _ (QY n1) y1,k _ _ y3.1 y2,y3⟩
theorem Jnd{Q:Option Qc->Qe->Prop}(hh:A.handled=none)(Z:ZA z TI TO i1 i2 [i1,a1] [i2,a2])(st:LzSt b1 b2 a1 a2 z TI TO i1 i2 S xs ys i s.heap)(hS:S<s.heap.objs.size)(l1:i<xs.size)(l2:i<ys.size)
 (hQ:∀u v h' tk,xs[i]?=some u->ys[i]?=some v->LzSt b1 b2 a1 a2 z TI TO i1 i2 S xs ys (i+1) h'->IsPair h' s.heap.objs.size u v->h'.objs.size=s.heap.objs.size+1 ->
  (∀c o,c≠z->c≠TO->c≠i1->c≠i2->s.heap.get? c=some o->h'.get? c=some o)->Q (some (.ref s.heap.objs.size)) { s with heap:=h',toks:=tk }) :
 wpAny (model prog w) A (pyNext (.ref z)) Q E s:=by
 obtain⟨x1,x2,x3,x4⟩:=st
 have ne1:a1≠i1:=fun q=>by
  have:=Z.x1;subst q;rcases x2 with ⟨e1,e2⟩
  cases b1 with
  | true=>obtain⟨o,h1,h2,_⟩:=e1;obtain⟨o',h3,h4,_⟩:=e2;simp_all
  | false=>obtain⟨o,h1,h2,_⟩:=e1;obtain⟨o',h3,h4,_⟩:=e2;simp_all
 have ne2:a2≠i2:=fun q=>by
  subst q;rcases x3 with ⟨e1,e2⟩
  cases b2 with
  | true=>obtain⟨o,h1,h2,_⟩:=e1;obtain⟨o',h3,h4,_⟩:=e2;simp_all
  | false=>obtain⟨o,h1,h2,_⟩:=e1;obtain⟨o',h3,h4,_⟩:=e2;simp_all
 have hh1:A.in1.handled=none:=hh
 have D1:=Draws.sq (prog:=prog) (w:=w) (b:=b1) (xs:=xs) hh1 i1 ne1
 have D2:=Draws.sq (prog:=prog) (w:=w) (b:=b2) (xs:=ys) hh1 i2 ne2
 have Tt:∀o,s.heap.get? z=some o->o.cls=.type "zip"->s.TypeIs (.ref z) "zip":=fun o e c=>⟨o,e,c⟩
 have i1lt:i1<s.heap.objs.size:=by
  cases b1 with
  | true=>obtain⟨o,h1,_⟩:=x2.1;exact Qm h1
  | false=>obtain⟨o,h1,_⟩:=x2.1;exact Qm h1
 have i2lt:i2<s.heap.objs.size:=by
  cases b2 with
  | true=>obtain⟨o,h1,_⟩:=x3.1;exact Qm h1
  | false=>obtain⟨o,h1,_⟩:=x3.1;exact Qm h1
 rcases x4 with ⟨y1,u0,v0,y2⟩|⟨a,f,oa,y1,y2,y3,y4,y5,y6⟩
 ·have hT:=Tt _ y1 rfl;unfold pyNext;refine Qa (GK (QP (name:=Qx "__next__") hT GF (Q8 GF hT KE (Jde Z D1 D2 y1 x1 y2 x2 x3 l1 l2 fun u v k tk pu pv t1 t2 t3 t4 t5 t6 t7 t8=>Qk ?_) (Kv _))));exact hQ u v k tk pu pv ⟨t2,t4,t5,.inr ⟨_,false,_,t1,t6,Gc hS,Gc (Qm y1),Gc i1lt,Gc i2lt⟩⟩ t6 t7 t8
 ·have hT:=Tt _ y1 rfl;unfold pyNext;refine Qa (GK (QP (name:=Qx "__next__") hT GF (Q8 GF hT KE (JjV Z D1 D2 y1 y2 x1 x2 x3 l1 l2 fun u v k tk pu pv t1 t4 t5 t6 t7 t8=>Qk ?_) (Kv _))))
  have ti1:TI≠i1:=fun q=>Z.t1 (by rw[q];simp)
  have ti2:TI≠i2:=fun q=>Z.t2 (by rw[q];simp)
  exact hQ u v k tk pu pv ⟨t8 _ _ Z.a1 ti1 ti2 x1,t4,t5,.inr ⟨a,true,oa,t1,t8 _ _ y4 y5 y6 y2,y3,y4,y5,y6⟩⟩ t6 t7 fun c o c1 _ c3 c4 q=>t8 c o c1 c3 c4 q
theorem Jna{Q:Option Qc->Qe->Prop}(hh:A.handled=none)(Z:ZA z TI TO i1 i2 [i1,a1] [i2,a2])(st:LzSt b1 b2 a1 a2 z TI TO i1 i2 S xs ys i s.heap)(hend:i=xs.size\/(i<xs.size/\i=ys.size))
 (hQ:∀h' tk,(∀c o,c≠z->c≠TO->c≠i1->c≠i2->s.heap.get? c=some o->h'.get? c=some o)->Q none { s with heap:=h',toks:=tk }) :
 wpAny (model prog w) A (pyNext (.ref z)) Q E s:=by
 obtain⟨x1,x2,x3,x4⟩:=st
 have ne1:a1≠i1:=fun q=>by
  subst q;rcases x2 with ⟨e1,e2⟩
  cases b1 with
  | true=>obtain⟨o,h1,h2,_⟩:=e1;obtain⟨o',h3,h4,_⟩:=e2;simp_all
  | false=>obtain⟨o,h1,h2,_⟩:=e1;obtain⟨o',h3,h4,_⟩:=e2;simp_all
 have ne2:a2≠i2:=fun q=>by
  subst q;rcases x3 with ⟨e1,e2⟩
  cases b2 with
  | true=>obtain⟨o,h1,h2,_⟩:=e1;obtain⟨o',h3,h4,_⟩:=e2;simp_all
  | false=>obtain⟨o,h1,h2,_⟩:=e1;obtain⟨o',h3,h4,_⟩:=e2;simp_all
 have hh1:A.in1.handled=none:=hh
 have D1:=Draws.sq (prog:=prog) (w:=w) (b:=b1) (xs:=xs) hh1 i1 ne1
 have D2:=Draws.sq (prog:=prog) (w:=w) (b:=b2) (xs:=ys) hh1 i2 ne2;rcases x4 with ⟨y1,u0,v0,y2⟩|⟨a,f,oa,y1,y2,y3,y4,y5,y6⟩
 ·have hT:s.TypeIs (.ref z) "zip":=⟨_,y1,rfl⟩
  unfold pyNext;refine Qa (GK (QP (name:=Qx "__next__") hT GF (Q8 GF hT KE (Jgf Z D1 D2 y1 x1 y2 x2 x3 hend fun k e tk kk he=>?_) (Kv _))));obtain⟨o,ho,hoc⟩:=he;exact Qa (Kh (T:="StopIteration") (b:=true) ⟨o,ho,hoc⟩ K6 (Qk (hQ k tk kk)))
 ·have hT:s.TypeIs (.ref z) "zip":=⟨_,y1,rfl⟩
  unfold pyNext;refine Qa (GK (QP (name:=Qx "__next__") hT GF (Q8 GF hT KE (Jmi Z D1 D2 y1 y2 x1 x2 x3 hend fun k e tk kk he=>?_) (Kv _))));obtain⟨o,ho,hoc⟩:=he;exact Qa (Kh (T:="StopIteration") (b:=true) ⟨o,ho,hoc⟩ K6 (Qk (hQ k tk fun c o c1 _ c3 c4 q=>kk c o c1 c3 c4 q)))
end
structure LzG (xs ys:Array Qc) (lo:Qd) (h:Q0) (as:List Qd):Prop where
 rise:as.Pairwise (·<·)
 above:∀a∈as,lo<a
 pairs:∀(j:Nat) (a:Qd),as[j]?=some a->∃u v,xs[j]?=some u/\ys[j]?=some v/\IsPair h a u v
theorem LzG.there{xs ys:Array Qc}{lo:Qd}{h:Q0}{as:List Qd}(g:LzG xs ys lo h as){a:Qd}(ha:a∈as):a<h.objs.size:=by obtain⟨j,hj⟩:=GZ.mp ha;obtain⟨_,_,_,_,e⟩:=g.pairs j a hj;exact Qm e
section
variable{prog:Qu}{w:QJ}{A:QI}{s:Qe}{R:MB->Qe->Prop}{b1 b2:Bool}{a1 a2 z TI TO i1 i2 S:Qd}{xs ys:Array Qc}
theorem Jnf(hh:A.handled=none)(Z:ZA z TI TO i1 i2 [i1,a1] [i2,a2])(nS:S∉[z,TI,TO,i1,i2,a1,a2])(hlo:∀b∈[z,TI,TO,i1,i2],b<S)(n:Nat)(hn:n=min xs.size ys.size)(hz:n<=Qq)(res:Qc){h₁:Q0}
 (hR:∀h' tk acc c as,(∀b o,b≠S->b≠z->b≠TO->b≠i1->b≠i2->h₁.get? b=some o->h'.get? b=some o)->h'.get? S=some { cls:=.type "list",dict:=none,data:=.seq acc c,slots:=#[] }->as.length=n->LzG xs ys S h' as ->
  acc.toList=as.map Value.ref->R (.ok (.ret res)) { s with heap:=h',toks:=tk }) :
 ∀(k i:Nat) (h:Q0) (tk c:Nat) (acc:Array Qc) (as:List Qd),n-i=k->i<=n->LzSt b1 b2 a1 a2 z TI TO i1 i2 S xs ys i h->(∀b o,b≠S->b≠z->b≠TO->b≠i1->b≠i2->h₁.get? b=some o->h.get? b=some o) ->
  h.get? S=some { cls:=.type "list",dict:=none,data:=.seq acc c,slots:=#[] }->acc.toList=as.map Value.ref->as.length=i->LzG xs ys S h as ->
  codeAny (model prog w) A (.builtin "list.extend.loop" ⟨[.ref S,.ref z,res],[]⟩) R { s with heap:=h,toks:=tk }:=by
 have Sz:S≠z:=Gc (hlo z (by simp))
 have ST:S≠TO:=Gc (hlo TO (by simp))
 have S1:S≠i1:=Gc (hlo i1 (by simp))
 have S2:S≠i2:=Gc (hlo i2 (by simp))
 have off:∀{b:Qd},S<b->b≠z/\b≠TO/\b≠i1/\b≠i2:=fun {b} h=>⟨Gc (Gm (hlo z (by simp)) h),Gc (Gm (hlo TO (by simp)) h),Gc (Gm (hlo i1 (by simp)) h),Gc (Gm (hlo i2 (by simp)) h)⟩
 intro k
 induction k with
 | zero =>
  intro i h tk c acc as hk hi hst hkeep hS hacc hal hG;have hin:i=n:=by omega
  refine Ll Mp ?_;rw[K7 GY _];show wpAny _ A.in1 (pyNext (.ref z) >>= _) _ _ _;refine Qa (Jna (s:={ s with heap:=h,toks:=tk }) (A:=A.in1) hh Z hst (by omega) fun h' tk' he=>?_);refine Qk (hR h' tk' acc c as (fun b o h1 h2 h3 h4 h5 e=>he b o h2 h3 h4 h5 (hkeep b o h1 h2 h3 h4 h5 e)) (he S _ Sz ST S1 S2 hS) (by omega) ⟨hG.rise,hG.above,fun j a hj=>?_⟩ hacc);obtain⟨u,v,e1,e2,e3⟩:=hG.pairs j a hj
  obtain⟨o1,o2,o3,o4⟩:=off (hG.above a (QG hj));exact⟨u,v,e1,e2,he a _ o1 o2 o3 o4 e3⟩
 | succ k ih =>
  intro i h tk c acc as hk hi hst hkeep hS hacc hal hG;have hlt:i<n:=by omega
  have hsz:acc.size=i:=by grind[QN]
  have hSl:S<h.objs.size:=Qm hS;refine Ll Mp ?_;rw[K7 GY _]
  show wpAny _ A.in1 (pyNext (.ref z) >>= _) _ _ _;refine Qa (Jnd (s:={ s with heap:=h,toks:=tk }) (A:=A.in1) hh Z hst hSl (by omega) (by omega) fun u v h' tk' pu pv hst' ht hz' hkp=>?_);dsimp only at ht hz' hkp ⊢
  have hS':=hkp S _ Sz ST S1 S2 hS
  have up:∀b o,b≠S->h'.get? b=some o->(h'.update S (LJ (·.push (Value.ref h.objs.size)))).get? b=some o:=fun b o hb e=>(Gs _ _ (QY hb)).trans e
  show wpAny _ A.in1 (updateSeq S (·.push (Value.ref h.objs.size)) >>= _) _ _ _;refine Qa ?_;refine Ks hS' rfl (Qk ⟨KW GY _,ih (i+1) _ tk' _ (acc.push (Value.ref h.objs.size)) (as++[h.objs.size]) (by omega) hlt (hst'.keep up nS)
   (fun b o h1 h2 h3 h4 h5 e=>up b o h1 (hkp b o h2 h3 h4 h5 (hkeep b o h1 h2 h3 h4 h5 e))) (GP _ hS' rfl) (by simp_all) (by simp_all) ⟨?_,?_,?_⟩⟩) (by rw[hsz];omega) (by grind)
  ·refine Rp.mpr ⟨hG.rise,List.pairwise_singleton _ _,fun a ha b hb=>?_⟩;rw[KO.mp hb];exact hG.there ha
  ·intro a ha;rcases Go.mp ha with ha|ha
   ·exact hG.above a ha
   simp_all
  ·intro j b hj;rcases Nat.lt_trichotomy j as.length with h1|h1|h1
   ·rw[QE h1] at hj;obtain⟨u',v',e1,e2,e3⟩:=hG.pairs j b hj;have hb:=hG.above b (QG hj);obtain⟨o1,o2,o3,o4⟩:=off hb;exact⟨u',v',e1,e2,up b _ (Gc hb) (hkp b _ o1 o2 o3 o4 e3)⟩
   ·subst h1;have hb:h.objs.size=b:=by simpa using hj
    subst hb;exact⟨u,v,by rw[hal];exact pu,by rw[hal];exact pv,up _ _ (Gc hSl) ht⟩
   ·have hnone:(as++[h.objs.size])[j]?=none:=Re (by rw[QC,Gy];omega);rw[hnone] at hj;cases hj
end
end PySem

namespace PySem
open PySem.Calls PyProof.Rows PyProof.V PySem.Spec
theorem Jp6:typeLookup (.type "zip") "__len__"=pure none:=by rfl
theorem Jne:typeLookup (.type "zip") "__length_hint__"=pure none:=by rfl
section
variable{prog:Qu}{w:QJ}{A:QI}{E:Qc->Qe->Prop}{s:Qe}{b1 b2:Bool}{a1 a2 z TI TO i1 i2:Qd}{xs ys:Array Qc}
theorem Jnb(hT:s.TypeIs (.ref z) "zip"){Q:Bool->Qe->Prop}(h:Q true s):wpAny (model prog w) A (L4 (.ref z)) Q E s:=by unfold L4;refine Qa (KR hT Jp6 ?_);refine M7 (fun hab=>absurd hab (by decide)) (fun _=>?_);refine M7 (fun hab=>absurd hab (by decide)) (fun _=>?_);refine Qa (KR hT Jne ?_);exact Qk h
theorem Jjo{R:MB->Qe->Prop}(hh:A.handled=none)(S:Qd)(Z:ZA z TI TO i1 i2 [i1,a1] [i2,a2])(nS:S∉[z,TI,TO,i1,i2,a1,a2])(hlo:∀b∈[z,TI,TO,i1,i2],b<S)(n:Nat)(hn:n=min xs.size ys.size)(hz:n<=Qq)
 (hzip:IsZip s.heap z TI TO .none) (st:LzSt b1 b2 a1 a2 z TI TO i1 i2 S xs ys 0 s.heap) (res:Qc) (c₀:Nat) (hS:s.heap.get? S=some { cls:=.type "list",data:=.seq #[] c₀ })
 (hR:∀h' tk acc c as,(∀b o,b≠S->b≠z->b≠TO->b≠i1->b≠i2->s.heap.get? b=some o->h'.get? b=some o)->h'.get? S=some { cls:=.type "list",dict:=none,data:=.seq acc c,slots:=#[] }->as.length=n->LzG xs ys S h' as ->
  acc.toList=as.map Value.ref->R (.ok (.ret res)) { s with heap:=h',toks:=tk }) :
 wpAny (model prog w) A.in1 (Ke (.ref S) (.ref z) res)
  (fun fin s'=>match fin with|.done f=>R (.ok f) s'|.again c'=>c'.quiet=true/\codeAny (model prog w) A c' R s') (fun e s'=>R (.error e) s') s:=by
 have key:∀(h:Q0) (c₁ tk:Nat),(∀b o,b≠S->s.heap.get? b=some o->h.get? b=some o) ->
  h.get? S=some { cls:=.type "list",data:=.seq #[] c₁ }->codeAny (model prog w) A (.builtin "list.extend.loop" ⟨[.ref S,.ref z,res],[]⟩) R { s with heap:=h,toks:=tk }:=by
  intro h c₁ tk hk hS₁;exact Jnf (s:=s) (h₁:=s.heap) hh Z nS hlo n hn hz res hR n 0 h tk c₁ #[] [] (Nat.sub_zero _) (GS _) (st.keep hk nS) (fun b o hb _ _ _ _ e=>hk b o hb e) hS₁ rfl rfl
   ⟨List.Pairwise.nil,(fun _ ha=>nomatch ha),(fun j a hj=>by simp at hj)⟩
 have hT:s.TypeIs (.ref z) "zip":=⟨_,hzip,rfl⟩
 have hSz:S≠z:=Gc (hlo z (by simp));unfold Ke;refine Qa (MY (T:="zip") hT ?_)
 have h1:MF (.ref S) (.ref z)=false:=by simp[MF,hSz]
 have h2:(Value.type "zip" == Value.type "list")=false:=by decide
 have h3:(Value.type "zip" == Value.type "tuple")=false:=by decide
 simp only[h1,h2,h3,LM,Ko,if_false];refine Qa (MO hzip ?_);refine Qa (GQ (Jnb hT ?_));refine M7 (fun _=>?_) (fun _=>Qk ⟨KW GY _,key _ c₀ _ (fun b o _ e=>e) hS⟩);refine Qa (K5 ?_);refine Qa ?_;show wpAny _ _ (updateSeq S (·.push .none) >>= fun _=>updateSeq S (·.pop)) _ _ _;refine Qa (Ks hS rfl ?_);have hS₂:=GP (LJ (·.push Value.none)) hS rfl
 refine Ks (hz:=by seq_fits) hS₂ rfl ?_;have hS₃:=GP (LJ (·.pop)) hS₂ rfl;refine Qk ⟨KW GY _,key _ _ _ (fun b o hb e=>?_) hS₃⟩
 grind[Gs]
theorem Jnc{R:MB->Qe->Prop}(hh:A.handled=none)(S:Qd)(Z:ZA z TI TO i1 i2 [i1,a1] [i2,a2])(nS:S∉[z,TI,TO,i1,i2,a1,a2])(hlo:∀b∈[z,TI,TO,i1,i2],b<S)(n:Nat)(hn:n=min xs.size ys.size)(hz:n<=Qq)
 (hzip:IsZip s.heap z TI TO .none) (st:LzSt b1 b2 a1 a2 z TI TO i1 i2 S xs ys 0 s.heap) (hS:s.heap.get? S=some { cls:=.type "list",data:=.seq #[] })
 (hR:∀h' tk acc c as,(∀b o,b≠S->b≠z->b≠TO->b≠i1->b≠i2->s.heap.get? b=some o->h'.get? b=some o)->h'.get? S=some { cls:=.type "list",dict:=none,data:=.seq acc c,slots:=#[] }->as.length=n->LzG xs ys S h' as ->
  acc.toList=as.map Value.ref->R (.ok (.ret .none)) { s with heap:=h',toks:=tk }) :
 wpAny (model prog w) A.in1 (Builtin.«list.__init__» ⟨[.ref S,.ref z],[]⟩)
  (fun fin s'=>match fin with|.done f=>R (.ok f) s'|.again c'=>c'.quiet=true/\codeAny (model prog w) A c' R s') (fun e s'=>R (.error e) s') s:=by
 have hSz:S≠z:=Gc (hlo z (by simp))
 show wpAny _ _ (do let old <- M0 (.ref S);Builtin.List.listUpdate (.ref S) (fun _=>#[]);letGo old.toList.reverse;Ke (.ref S) (.ref z) .none) _ _ s;refine Qa ?_;unfold M0;refine Qa (Gv hS rfl (Qk ?_))
 show wpAny _ _ (updateSeq S (fun _=>#[]) >>= fun _=>letGo (#[]:Array Qc).toList.reverse >>= fun _=>Ke (.ref S) (.ref z) .none) _ _ s;refine Qa (Ks hS rfl ?_)
 have hS₂:=GP (LJ (fun _=>(#[]:Array Qc))) hS rfl
 have oth:∀b o,b≠S->s.heap.get? b=some o->(s.heap.update S (LJ (fun _=>(#[]:Array Qc)))).get? b=some o :=
  fun b o hb e=>(Gs _ _ (QY hb)).trans e
 refine Qa (Ku ?_);exact Jjo hh S Z nS hlo n hn hz (oth _ _ hSz.symm hzip) (st.keep oth nS) .none _ hS₂ (fun h' tk acc c as hk hS' hl hG hacc=>hR h' tk acc c as (fun b o hb h1 h2 h3 h4 e=>hk b o hb h1 h2 h3 h4 (oth b o hb e)) hS' hl hG hacc)
theorem Jm9{Q:Qc->Qe->Prop}(hh:A.handled=none)(Z:ZA z TI TO i1 i2 [i1,a1] [i2,a2])(n:Nat)(hn:n=min xs.size ys.size)(hz:n<=Qq)
 (hzip:IsZip s.heap z TI TO .none) (gI:IsPair s.heap TI (.ref i1) (.ref i2)) (gO:IsPair s.heap TO .none .none) (t1:IsItr b1 s.heap i1 a1 0) (t2:IsItr b2 s.heap i2 a2 0) (q1:IsSq b1 s.heap a1 xs) (q2:IsSq b2 s.heap a2 ys)
 (hQ:∀h' tk acc c as,(∀b o,b≠z->b≠TO->b≠i1->b≠i2->s.heap.get? b=some o->h'.get? b=some o)->h'.get? s.heap.objs.size=some { cls:=.type "list",dict:=none,data:=.seq acc c,slots:=#[] }->as.length=n->LzG xs ys s.heap.objs.size h' as ->
  acc.toList=as.map Value.ref->Q (.ref s.heap.objs.size) { s with heap:=h',toks:=tk }) :
 wpAny (model prog w) A (call (.type "list") [.ref z]) Q E s:=by
 refine callType_codes (Q₁:=fun obj s₁=>obj=.ref s.heap.objs.size/\s₁={ s with heap:=s.heap.push { cls:=.type "list",data:=.seq #[] } }) PySem.F.called_list (PySem.F.typeCall_list_1 _) PySem.F.entry_list_init
  (code_list_new _ ⟨rfl,rfl⟩) fun obj s₁ h₁=>?_
 obtain⟨rfl,rfl⟩:=h₁;have hS:(s.heap.push { cls:=.type "list",data:=.seq #[] }).get? s.heap.objs.size=some { cls:=.type "list",data:=.seq #[] }:=Qj _ rfl;have up:∀b o,s.heap.get? b=some o->(s.heap.push { cls:=.type "list",data:=.seq #[] }).get? b=some o:=fun b o e=>Qf _ e
 have i1lt:i1<s.heap.objs.size:=by
  cases b1 with
  | true=>obtain⟨o,h1,_⟩:=t1;exact Qm h1
  | false=>obtain⟨o,h1,_⟩:=t1;exact Qm h1
 have i2lt:i2<s.heap.objs.size:=by
  cases b2 with
  | true=>obtain⟨o,h1,_⟩:=t2;exact Qm h1
  | false=>obtain⟨o,h1,_⟩:=t2;exact Qm h1
 have lo:∀b∈[z,TI,TO,i1,i2],b<s.heap.objs.size:=fun b hb=>by
  simp only[Qp,Gd,or_false] at hb;rcases hb with rfl|rfl|rfl|rfl|rfl
  ·exact Qm hzip
  ·exact Qm gI
  ·exact Qm gO
  ·exact i1lt
  ·exact i2lt
 have nS:s.heap.objs.size∉[z,TI,TO,i1,i2,a1,a2]:=fun hm=>by
  simp only[Qp,Gd,or_false] at hm;rcases hm with e|e|e|e|e|e|e
  ·exact absurd (Qm hzip) (by rw[e];exact GG _)
  ·exact absurd (Qm gI) (by rw[e];exact GG _)
  ·exact absurd (Qm gO) (by rw[e];exact GG _)
  ·simp_all
  ·simp_all
  ·exact absurd q1.lt (by simp_all)
  ·exact absurd q2.lt (by simp_all)
 refine⟨⟨_,hS,rfl⟩,PySem.F.args_list_init_2 _ _,Jnc (A:=A.in1) (b1:=b1) (b2:=b2) hh _ Z nS lo n hn hz (up _ _ hzip) ⟨up _ _ gI,⟨IsItr.keep' t1 fun o e=>up _ o e,q1.push _⟩,⟨IsItr.keep' t2 fun o e=>up _ o e,q2.push _⟩,.inl ⟨up _ _ hzip,_,_,up _ _ gO⟩⟩ hS (fun h' tk acc c as hk hS' hl hG hacc=>?_)⟩;exact⟨rfl,hQ h' tk acc c as (fun b o h1 h2 h3 h4 e=>hk b o (QQ (Qm e)) h1 h2 h3 h4 (up b o e)) hS' hl hG hacc⟩
end
end PySem

namespace L2
open PySem PySem.Spec PyProof.Rows
noncomputable def WQ(H:Hp):List Qd->List (V×V)->Hp
 | a::as,kv::kvs=>upd (WQ H as kvs) a (.tup [kv.1,kv.2])
 | _,_=>H
theorem Va{H:Hp}{b:Qd}:∀{as:List Qd} {kvs:List (V×V)},b∉as->WQ H as kvs b=H b
 | [],_,_=>rfl
 | _::_,[],_=>rfl
 | a::as,kv::kvs,h=>by rw[WQ,Jl fun z=>h (by simp_all)];exact Va fun m=>h (Qh _ m)
theorem Ja6{H:Hp}:∀{as:List Qd} {kvs:List (V×V)} {j:Nat} {a:Qd} {kv:V×V},as.Nodup->as[j]?=some a->kvs[j]?=some kv->WQ H as kvs a=some (.tup [kv.1,kv.2])
 | [],_,_,_,_,_,e,_=>by simp at e
 | _::_,[],_,_,_,_,_,e=>by simp at e
 | b::as,kv'::kvs,0,a,kv,_,e1,e2=>by simp at e1 e2;subst e1 e2;rw[WQ,Jw]
 | b::as,kv'::kvs,j+1,a,kv,hn,e1,e2=>by
  rw[Ge] at hn;simp at e1 e2;have hne:a≠b:=fun z=>hn.1 (by rw[<- z];exact QG e1)
  rw[WQ,Jl hne];exact Ja6 hn.2 e1 e2
theorem nm2{x y z:Nat}(h1:x≠y)(h2:x≠z):x∉[y,z]:=by simp[h1,h2]
theorem Js7{n b:Nat}(h:b<n):b≠n+4/\b≠n+3/\b≠n/\b≠n+1/\b≠n+2:=by omega
theorem za5{n a1 a2:Nat}(h1:a1<n)(h2:a2<n):ZA (n+4) (n+2) (n+3) n (n+1) [n,a1] [n+1,a2] :=
 ⟨show(n+2:Nat)≠n+4 by omega,show(n+3:Nat)≠n+4 by omega,show(n+2:Nat)≠n+3 by omega,by simp,by simp,
  nm2 (by omega) (by omega),nm2 (by omega) (by omega),nm2 (by omega) (by omega),nm2 (by omega) (by omega),nm2 (by omega) (by omega),nm2 (by omega) (by omega),nm2 (by omega) (by omega),nm2 (by omega) (by omega)⟩
noncomputable def JfY(K:Qw)(ta:TA):TE:=fun σ H Q=>ta σ H fun vs H1=>∃(b1 b2:Bool) (a1 a2:Qd) (xs ys:List V),vs=[.ref a1,.ref a2]/\Sq b1 K H1 a1 xs/\Sq b2 K H1 a2 ys/\(xs.zip ys).length<=Qq ∧
 ∀(L:Qd) (as:List Qd),H1 L=none->as.length=(xs.zip ys).length->as.Nodup->L∉as->(∀b∈as,H1 b=none)->Q (.ref L) (upd (WQ H1 as (xs.zip ys)) L (.lst (as.map V.ref)))
theorem JfG{X:Cx}{K:Qw}{a b:Q4}{ta:TA}{p pos p2 pos2:Pos}(hK:X.K=K)(hc:X.calm=true)(hgl:Gl X "list")(hml:X.mg "list"=none)(hg:Gl X "zip")(hm:X.mg "zip"=none)(ha:PA X [a,b] ta)(hs:starEach [a,b] X.env=[(false,eval a X.env),(false,eval b X.env)]:=by rfl)
 (hs2:starEach [b] X.env=[(false,eval b X.env)]:=by rfl):PE X (.Call (.Name "list" p) [.Call (.Name "zip" p2) [a,b] [] pos2] [] pos) (JfY K ta):=by
 subst hK;intro pins s σ H Q I h;refine Call_ (Vb I hgl hml Jdm (Gk ?_ rfl rfl));show wpAny _ _ (spliced ((false,eval (.Call (.Name "zip" p2) [a,b] [] pos2) X.env)::backTo pos (starEach [] X.env))) _ _ s;refine Kk ?_;refine Call_ (Vb I hg hm Jj4 (Gk (thn (ha pos2 pins s σ H _ I h) fun us s1 ⟨vs,H1,I1,r1,q1⟩=>?_) (by rw[hs,hs2]) (by rw[hs2];rfl)));obtain⟨b1,b2,a1,a2,xs,ys,e,c1,c2,hz,q⟩:=q1
 subst e
 cases r1 with
 | cons r rr =>
 cases rr with
 | cons r' rr =>
 cases rr;cases r;cases r';obtain⟨its,w1,p1⟩:=c1.heap I1;obtain⟨jts,w2,p2'⟩:=c2.heap I1;have hh:X.A.handled=none:=I1.ok.hd hc;have n1:its.toArray.size=xs.length:=by rw[QW,w1.length]
 have n2:jts.toArray.size=ys.length:=by rw[QW,w2.length]
 have hzl:(xs.zip ys).length=min its.toArray.size jts.toArray.size:=by simp_all
 refine JcI p1 p2' fun h' t1 t2 t3 t4 t5 kp=>Lr ?_
 have Z:ZA (s1.heap.objs.size+4) (s1.heap.objs.size+2) (s1.heap.objs.size+3) s1.heap.objs.size (s1.heap.objs.size+1) [s1.heap.objs.size,a1] [s1.heap.objs.size+1,a2]:=za5 p1.lt p2'.lt;refine Jm9 (s:={ s1 with heap:=h' }) hh Z (xs.zip ys).length hzl hz t1 t2 t3 t4 t5 (p1.keep fun o e=>kp _ o e) (p2'.keep fun o e=>kp _ o e) fun h2 tk acc c as hk hS hal hG hacc=>?_
 have hle:s1.heap.objs.size<h'.objs.size:=Km (LL _ 4) (Qm t1)
 have hnd:as.Nodup:=hG.rise.imp fun {x y} h=>QQ h
 have hLa:h'.objs.size∉as:=fun m=>absurd (hG.above _ m) (GG _)
 have fr:∀b∈as,H1 b=none:=fun b hb=>I1.hok.fresh (Kc (Gm hle (hG.above b hb)))
 have hne:H1 h'.objs.size=none:=I1.hok.fresh (Kc hle);refine⟨.ref h'.objs.size,_,I1.more (t':=tk) (fun b u e=>?_) (fun b hb=>?_) (fun b o hb e=>?_),rfl,q h'.objs.size as hne hal hnd hLa fr⟩
 ·obtain⟨o1,o2,o3,o4,_⟩:=Js7 (Qm e);exact hk b u o1 o2 o3 o4 (kp b u e)
 ·rw[Jl (QQ (Gm hb hle))];exact Va fun m=>absurd (hG.above b m) (Nat.not_lt.mpr (Kc (Gm hb hle)))
 ·by_cases hL:b=h'.objs.size
  ·subst hL;rw[Jw] at e;cases e;refine⟨by simp_all,acc.toList,c,?_,?_⟩
   ·rw[hacc]
    have:∀l:List Qd,Vals (l.map V.ref) (l.map Value.ref):=fun l=>by
     induction l with
     | nil=>exact .nil
     | cons x l ih=>exact .cons rfl ih
    exact this as
   ·rw[hS]
  ·rw[Jl hL] at e
   by_cases hm:b∈as
   ·obtain⟨j,hj⟩:=GZ.mp hm;obtain⟨u,v,e1,e2,e3⟩:=hG.pairs j b hj;have hjl:j<(xs.zip ys).length:=by grind
    have hkv:(xs.zip ys)[j]?=some (xs.zip ys)[j]:=G6 hjl
    have hx:xs[j]?=some (xs.zip ys)[j].1:=by simp_all
    have hy:ys[j]?=some (xs.zip ys)[j].2:=by simp_all
    obtain⟨ux,hux,rux⟩:=w1.get hx;obtain⟨uy,huy,ruy⟩:=w2.get hy
    have eu:u=ux:=by simp_all
    have ev:v=uy:=by simp_all
    subst eu ev;rw[Ja6 hnd hj hkv] at e;cases e;exact⟨by show 2<=Qq;decide,[u,v],.cons rux (.cons ruy .nil),⟨_,e3,rfl,_,rfl⟩⟩
   ·rw[Va hm,I1.hok.fresh hb] at e;cases e
end L2

namespace LE
open PySem L2 LR
noncomputable def Jkj(as:En->Option (List Sl)):Ev:=fun E=>(as E).bind fun ss=>match ss with
 | [s,t]=>(s.it true).bind fun ds=>(t.it true).bind fun es=>if ds.length<=Qq then some (.own (JeF ds es)) else none
 | _=>none
section
variable{K:Qw}{C:Qd}
theorem JcV{H:Hp}{kvs:List (V×V)}{as:List Qd}(h:∀b∈as,H b=none):Same H (WQ H as kvs):=fun b o e=>by grind[Va]
theorem Jh7{H:Hp}:∀{as:List Qd} {kvs:List (V×V)} {b:Qd} {o:HO},WQ H as kvs b=some o->H b=some o\/b∈as
 | [],_,_,_,e=>.inl e
 | _::_,[],_,_,e=>.inl e
 | a::as,kv::kvs,b,o,e=>by
  by_cases c:b=a
  ·simp_all
  ·rw[WQ,Jl c] at e;exact(Jh7 e).imp id fun m=>Qh _ m
theorem RDL.zips:∀{xs ys:List V} {ds es:List D} {as:List Qd} {H:Hp},as.length=(xs.zip ys).length->(∀(j:Nat) (a:Qd) (x y:V),as[j]?=some a->xs[j]?=some x->ys[j]?=some y->H a=some (.tup [x,y]))->RDL K C H xs ds->RDL K C H ys es->RDL K C H (as.map V.ref) (JeF ds es)
 | [],ys,ds,es,as,H,h1,_,r,r'=>by
  have:ds=[]:=by
   cases ds with
   | nil=>rfl
   | cons d ds=>have:=r.1;simp at this
  subst this;have:as=[]:=Q1 (by simpa using h1);subst this;exact .nil
 | x::xs,[],ds,es,as,H,h1,_,r,r'=>by
  have:es=[]:=by
   cases es with
   | nil=>rfl
   | cons d ds=>have:=r'.1;simp at this
  subst this;have:as=[]:=Q1 (by simpa using h1);subst this;cases ds <;> exact .nil
 | x::xs,y::ys,[],es,as,H,h1,_,r,r'=>by have:=r.1;simp at this
 | x::xs,y::ys,d::ds,[],as,H,h1,_,r,r'=>by have:=r'.1;simp at this
 | x::xs,y::ys,d::ds,e::es,[],H,h1,_,r,r'=>by simp at h1
 | x::xs,y::ys,d::ds,e::es,a::as,H,h1,h3,r,r'=>by show RDL K C H (V.ref a::as.map V.ref) (.tup [d,e]::JeF ds es);exact .cons (.mkT (.of (h3 0 a x y rfl rfl rfl)) (.cons r.head (.cons r'.head .nil))) (RDL.zips (by simpa using h1) (fun j a x y e1 e2 e3=>h3 (j+1) a x y (by simpa using e1) (by simpa using e2) (by simpa using e3)) r.tail r'.tail)
theorem Jrg{t:TA}{ev:En->Option (List Sl)}(ha:SA K C t ev):SE K C (JfY K t) (Jkj ev):=by
 intro B H0 H σ E r Q I e q;obtain⟨ss,e1,e⟩:=bind_some e;split at e
 ·next s u =>
  obtain⟨ds1,e2,e⟩:=bind_some e;obtain⟨ds2,e3,e⟩:=bind_some e;split at e
  ·next hz =>
   cases e;refine ha B H0 H σ E _ _ I e1 fun vs H1 H1' s1 r1=>?_
   obtain⟨v,w,rfl,ra,rb⟩:=r1.two;have f:=JI (Hs:=H) s1.i;obtain⟨b1,a1,xs,rfl,k1,w1⟩:=JgA (m:=true) ra s1.i e2;obtain⟨b2,a2,ys,rfl,k2,w2⟩:=JgA (m:=true) rb s1.i e3;have st0:SStep H1' (JT H H1 H1') (JT H H1 H1') H1':=⟨Same.refl _,Same.refl _,fun _ _ e=>.inl e,f.i⟩
   have s2:=s1.comp f fun _ z=>z
   refine⟨b1,b2,a1,a2,xs,ys,rfl,k1 _ (fun _=>rfl) _ _ st0,k2 _ (fun _=>rfl) _ _ st0,?_,fun L as hL hal hnd hLa hfr=>?_⟩
   ·rw[M6,w1.1];exact Gj (Nat.min_le_left _ _) hz
   have fr0:∀b∈as,JT H H1 H1' b=none:=fun b hb=>Same.free s2.i (hfr b hb)
   have frH:∀b∈as,H b=none:=fun b hb=>Same.free s2.h (hfr b hb)
   have hL0:JT H H1 H1' L=none:=Same.free s2.i hL
   have z0:Same (JT H H1 H1') (WQ (JT H H1 H1') as (xs.zip ys)):=JcV fr0
   have zz:Same H1' (WQ H1' as (xs.zip ys)):=JcV hfr
   have hLl:WQ H1' as (xs.zip ys) L=none:=by rw[Va hLa];exact hL
   have ii:Same (WQ (JT H H1 H1') as (xs.zip ys)) (WQ H1' as (xs.zip ys)):=fun b o e=>by
    by_cases hb:b∈as
    ·obtain⟨j,hj⟩:=GZ.mp hb
     have hjl:j<(xs.zip ys).length:=by grind
     have hkv:=G6 hjl;rw[Ja6 hnd hj hkv] at e ⊢;exact e
    ·rw[Va hb] at e ⊢;exact s2.i b o e
   refine q _ (WQ (JT H H1 H1') as (xs.zip ys)) _ ⟨(s2.h.trans zz).trans (.new hLl),s2.z.trans z0,fun b o e=>?_,ii.trans (.new hLl)⟩ ⟨L,as.map V.ref,rfl,Jw,by rw[Va hLa];exact hL0,Same.free s2.h hL,?_⟩
   ·rcases Jh7 e with z|z
    ·exact s2.n b o z
    ·exact .inr (.inl (frH b z))
   ·refine RDL.zips hal (fun j a x y j1 j2 j3=>?_) (w1.mono z0) (w2.mono z0);exact Ja6 (kv:=(x,y)) hnd j1 (by rw[Mo];exact⟨j2,j3⟩)
  ·cases e
 ·cases e
end
end LE

namespace L2
open PySem PySem.Spec PyProof.Rows
section
variable{X:Cx}{pins:List (Qd×Obj)}{σ:St}{H:Hp}{s:Qe}{a:Qd}{kvs:List (Key×V)}{k:Key}{z:V}{u r:Qc}{A:QI}{E:Qc->Qe->Prop}
theorem Jps{Q:Qc->Qe->Prop}(I:Inv X pins σ H s)(e:H a=some (.dK kvs))(ry:RelV (kV k) u)(rz:RelV z r)(l:kvs.length<Qq)
 (h1:∀v w' s',VQ kvs k=some v->Inv X pins σ H s'->RelV v w'->Q w' s') (h2:VQ kvs k=none->∀s',Inv X pins σ (upd H a (.dK (Wh kvs k z))) s'->Q r s') :
 wpAny (model X.prog X.w) A (call (.builtin "dict.setdefault") [.ref a,u,r]) Q E s:=by
 obtain⟨hz,hd,vs,rel,dd⟩:=JoD I.hok e;have hzl:vs.length<=Qq:=by rw[<- rel.length];exact hz
 have hl:(Wh kvs k z).length<=Qq:=by grind[Wq]
 refine call_meetsIn LX dd.typeIs PySem.F.entry_dict_setdefault (PySem.F.args_dict_setdefault_3 _ _ _) (kt_meets_setdefault (JW X.prog X.w) a (Jfa ry) hd r) ⟨vs,dd,hzl,fun v hv=>?_,fun hn h' dd' hs=>?_⟩
 ·have rv:=rel.val k;rw[hv] at rv
  cases hk:VQ kvs k with
  | none=>rw[hk] at rv;cases rv
  | some y=>rw[hk] at rv;exact h1 y v _ hk (I.tok _) rv
 ·have rv:=rel.val k;rw[hn] at rv
  have hk:VQ kvs k=none:=by
   cases hk:VQ kvs k with
   | none=>rfl
   | some y=>rw[hk] at rv;cases rv
  refine h2 hk _ ?_;have he:∃q,h'.get? a=some q:=let ⟨q,_,_,hq,_⟩:=dd';⟨q,hq⟩
  exact Jdx I (by rw[e];exact True.intro) hs he (Jkh hl hd (rel.put k rz) dd')
end
noncomputable def Jhm(td ty tx:TE):TE:=fun σ H Q=>td σ H fun x H1=>∃a,x=.ref a/\IsD H1 a/\ty σ H1 fun y H2=>tx σ H2 fun z H3=>∃kvs k,H3 a=some (.dK kvs)/\y=kV k/\kvs.length<Qq ∧
 (∀v,VQ kvs k=some v->Q v H3)/\(VQ kvs k=none->Q z (upd H3 a (.dK (Wh kvs k z))))
section
variable{X:Cx}{o e f:Q4}{apos cpos:Pos}{td ty tx:TE}
theorem Jlg(ho:PE X o td)(he:PE X e ty)(hf:PE X f tx)(m:M2 X o "setdefault" apos e f cpos):PE X (.Call (.Attribute o "setdefault" apos) [e,f] [] cpos) (Jhm td ty tx):=by
 intro pins s σ H Q I h;refine wpAny_Call_method m.base m.few m.line Lp LX PySem.F.type_dict_setdefault (thn (ho pins s σ H _ I h) fun u s1 ⟨x,H1,I1,rx,a,ex,d,q1⟩=>?_);subst ex;obtain rfl:u=Value.ref a:=rx;obtain⟨t1,t2,_⟩:=JgF I1 d;refine⟨t1,t2,?_⟩;rw[m.trees];refine Kd rfl (LO (Kk (thn (he pins s1 σ H1 _ I1 q1) fun iv s2 ⟨y,H2,I2,ry,q2⟩=>Kk (thn (hf pins s2 σ H2 _ I2 q2) fun fv s3 ⟨z,H3,I3,rz,kvs,k,e1,e2,l,q3,q4⟩=>Lr ?_))))
 subst e2;exact Jps I3 e1 ry rz l (fun v w' s' hv I4 rv=>⟨v,H3,I4,rv,q3 v hv⟩) fun hn s' I4=>⟨z,_,I4,rz,q4 hn⟩
end
end L2
namespace LE
open PySem L2 LR
section
variable(K:Qw)(C:Qd)(j:Nat)
noncomputable def Left(σ:St)(E:En)(σ':St)(E':En):Prop:=σ'[j]?=σ[j]?/\∀(i:Nat) (s:Sl),E'[i]?=some s->YA s=true->E[i]?=some s/\σ'[i]?=σ[i]?
noncomputable def SGJ(g:TG)(p:Pt):Prop:=∀(B H0 H:Hp) (σ:St) (E E':En) (x:V) (d:D) (Q:St->Hp->Prop),EnvR K C B H0 H σ E->RD K C H0 x d->p.bind d E=some E'->(∀σ',EnvR K C B H0 H σ' E'->Left j σ E σ' E'->Q σ' H)->g x σ H Q
noncomputable def Jmk(g:TGs)(p:Pts):Prop:=∀(B H0 H:Hp) (σ:St) (E E':En) (xs:List V) (ds:List D) (Q:St->Hp->Prop),EnvR K C B H0 H σ E->RDL K C H0 xs ds->p.bind ds E=some E'->(∀σ',EnvR K C B H0 H σ' E'->Left j σ E σ' E'->Q σ' H)->g xs σ H Q
end
section
variable{K:Qw}{C:Qd}{j:Nat}
theorem Left.refl(σ:St)(E:En):Left j σ E σ E:=⟨rfl,fun _ _ e _=>⟨e,rfl⟩⟩
theorem Left.trans{σ σ1 σ2:St}{E E1 E2:En}(a:Left j σ E σ1 E1)(b:Left j σ1 E1 σ2 E2):Left j σ E σ2 E2 :=
 ⟨b.1.trans a.1,fun i s e o=>by obtain⟨h1,h2⟩:=b.2 i s e o;obtain⟨h3,h4⟩:=a.2 i s h1 o;exact⟨h3,h2.trans h4⟩⟩
theorem JkB{i:Nat}(h:i≠j):SGJ K C j (V8 i) (.nm i):=by
 intro B H0 H σ E E' x d Q I r e q;rw[Pt.bind] at e;split at e
 ·cases e;refine q _ (I.setSh (by assumption) r) ⟨by simp_all,fun i' s e o=>?_⟩;rw[QU] at e
  by_cases c:i=i'
  ·rw[if_pos c] at e
   by_cases hl:i<E.length
   ·rw[if_pos hl] at e;have e':Sl.sh d=s:=QV e;rw[<- e'] at o;exact absurd o QB
   ·rw[if_neg hl] at e;exact absurd e (by simp)
  simp_all
 ·cases e
theorem JpG:Jmk K C j JmY .nil:=by
 intro B H0 H σ E E' xs ds Q I r e q
 cases ds with
 | nil =>
  cases xs with
  | nil=>rw[Pts.bind] at e;cases e;exact⟨rfl,q σ I (.refl σ _)⟩
  | cons _ _=>have:=r.1;simp at this
 | cons _ _=>simp[Pts.bind] at e
theorem JdH{g:TG}{gs:TGs}{p:Pt}{ps:Pts}(h:SGJ K C j g p)(hs:Jmk K C j gs ps):Jmk K C j (JhZ g gs) (.cons p ps):=by
 intro B H0 H σ E E' xs ds Q I r e q
 cases ds with
 | nil=>simp[Pts.bind] at e
 | cons d ds =>
  cases xs with
  | nil=>have:=r.1;simp at this
  | cons x xs=>rw[Pts.bind] at e;obtain⟨E1,e1,e2⟩:=bind_some e;exact⟨x,xs,rfl,h B H0 H σ E E1 x d _ I r.head e1 fun σ1 I1 l1=>hs B H0 H σ1 E1 E' xs ds Q I1 r.tail e2 fun σ2 I2 l2=>q σ2 I2 (l1.trans l2)⟩
theorem JpH{n:Nat}{gs:TGs}{ps:Pts}(hs:Jmk K C j gs ps)(hn:ps.len=n):SGJ K C j (Jja K n gs) (.tp ps):=by
 intro B H0 H σ E E' x d Q I r e q
 cases d with
 | tup ds=>rw[Pt.bind] at e;obtain⟨a,xs,rfl,h,r⟩:=RD.tupI r;exact⟨a,xs,rfl,I.h.seqT h,by rw[r.1];exact(Pts.bind_len e).trans hn,hs B H0 H σ E E' xs ds Q I r e q⟩
 | _=>simp[Pt.bind] at e
theorem EnvR.poke{B H0 H:Hp}{σ:St}{E:En}{a:Qd}{o:HO}(I:EnvR K C B H0 H σ E)(h0:H0 a=none)(hb:B a=none)(ho:∀(i:Nat) (s:Sl),E[i]?=some s->YA s=true->σ[i]?≠some (some (.ref a))):EnvR K C B H0 (upd H a o) σ E:=by
 have nb:∀{A:Hp},A a=none->Same A H->Same A (upd H a o):=fun {A} n s b o e=>by rw[Jl (JA e n)];exact s b o e
 refine⟨nb hb I.b,nb h0 I.h,I.len,fun i s e=>?_,I.sep,I.t⟩;rcases I.at' i s e with z|⟨v,q1,q2⟩
 ·exact .inl z
 ·refine .inr ⟨v,q1,?_⟩
  cases s with
  | no=>trivial
  | sh d=>exact q2
  | bo es=>exact q2
  | bd ks es=>exact q2
  | bt ks es=>exact q2
  | bw ks es=>exact q2
  | own es =>
   obtain⟨l',ys,p1,p2,p3⟩:=q2;subst p1;have:l'≠a:=fun z=>ho i _ e rfl (by rw[q1,z])
   exact⟨l',ys,rfl,by rw[Jl this];exact p2,p3⟩
  | od ks es =>
   obtain⟨l',ys,p1,p2,p3⟩:=q2;subst p1;have:l'≠a:=fun z=>ho i _ e rfl (by rw[q1,z])
   exact⟨l',ys,rfl,by rw[Jl this];exact p2,p3⟩
  | ot ks es =>
   obtain⟨l',ys,p1,p2,p3⟩:=q2;subst p1;have:l'≠a:=fun z=>ho i _ e rfl (by rw[q1,z])
   exact⟨l',ys,rfl,by rw[Jl this];exact p2,p3⟩
  | dw ks es =>
   obtain⟨l',ys,p1,p2,p3⟩:=q2;subst p1;have:l'≠a:=fun z=>ho i _ e rfl (by rw[q1,z])
   exact⟨l',ys,rfl,by rw[Jl this];exact p2,p3⟩
end
end LE

namespace LE
open PySem L2 LR
noncomputable def Jcl:List Int->List (List D)->Int->D->List (List D)
 | k::ks,x::xs,n,d=>if k=n then(x++[d])::xs else x::Jcl ks xs n d
 | _,xs,_,d=>xs++[[d]]
noncomputable def Zz(p:Pt)(ek ev:Ev):List D->En->List Int->List (List D)->Option (En×List Int×List (List D))
 | [],E,ks,dss=>some (E,ks,dss)
 | d::ds,E,ks,dss=>(p.bind d E).bind fun E1=>((ek E1).bind int?).bind fun n=>(ev E1).bind fun s=>s.frz.bind fun dv=>Zz p ek ev ds E1 (Y7 ks n) (Jcl ks dss n dv)
noncomputable def Joy(it:En->Option (List D))(p:Pt)(j:Nat)(ek ev:Ev):Es:=fun E=>match E[j]? with
 | some (.od [] [])=>(it E).bind fun ds=>if ds.length<Qq then(Zz p ek ev ds (E.set j .no) [] []).bind fun r=>if j<r.1.length then some (.nx (r.1.set j (.od r.2.1 (r.2.2.map .lst)))) else none else none
 | _=>none
theorem Jbe:∀{ks:List Int} {ls:List Qd} {n:Int} {a:Qd},look ks ls n=some a->∃m,ls[m]?=some a/\WZ ks n=true/\∀dss:List (List D),dss.length=ls.length->∃ds,dss[m]?=some ds/\∀d,Jcl ks dss n d=dss.set m (ds++[d])
 | [],_,_,_,e=>by cases e
 | _::_,[],_,_,e=>by cases e
 | k::ks,l::ls,n,a,e=>by
  simp only[look] at e
  by_cases c:k=n
  ·rw[if_pos c] at e;cases e;refine⟨0,rfl,by unfold WZ;simp[c],fun dss hl=>?_⟩
   cases dss with
   | nil=>simp at hl
   | cons x xs=>exact⟨x,rfl,fun d=>by rw[Jcl,if_pos c];rfl⟩
  ·rw[if_neg c] at e;obtain⟨m,h1,h2,h3⟩:=Jbe e;refine⟨m+1,by simpa using h1,by unfold WZ at h2 ⊢;rw[GU,h2,Bool.or_true],fun dss hl=>?_⟩
   cases dss with
   | nil=>simp at hl
   | cons x xs=>obtain⟨ds,g1,g2⟩:=h3 xs (by simpa using hl);exact⟨ds,by simpa using g1,fun d=>by rw[Jcl,if_neg c,g2 d];rfl⟩
theorem Jcw:∀{ks:List Int} {ls:List Qd} {n:Int},ks.length=ls.length->look ks ls n=none->WZ ks n=false/\∀(dss:List (List D)) (d:D),dss.length=ls.length->Jcl ks dss n d=dss++[[d]]
 | [],[],_,_,_=>⟨rfl,fun dss d _=>by cases dss <;> rfl⟩
 | [],_::_,_,h,_=>by simp at h
 | _::_,[],_,h,_=>by simp at h
 | k::ks,l::ls,n,h,e=>by
  simp only[look] at e
  by_cases c:k=n
  ·simp_all
  ·rw[if_neg c] at e;obtain⟨h1,h2⟩:=Jcw (by simpa using h) e;refine⟨by grind[WZ],fun dss d hl=>?_⟩
   cases dss with
   | nil=>simp at hl
   | cons x xs=>rw[Jcl,if_neg c,h2 xs d (by simpa using hl)];rfl
section
variable(K:Qw)(C:Qd)
structure Grp (B H0 H:Hp) (σ:St) (E:En) (j c:Nat) (ks:List Int) (dss:List (List D)) (l:Qd) (ls:List Qd):Prop where
 at':σ[j]?=some (some (.ref l))
 dict:H l=some (dkO ks (ls.map V.ref))
 l0:H0 l=none
 lb:B l=none
 len:ks.length=ls.length
 len2:dss.length=ls.length
 cnt:ks.length<=c
 lists:∀(m:Nat) (a:Qd) (ds:List D),ls[m]?=some a->dss[m]?=some ds->ds.length<=c/\∃xs,H a=some (.lst xs)/\H0 a=none/\B a=none/\RDL K C H0 xs ds
 nd:(l::ls).Nodup
 own:∀(i:Nat) (s:Sl) (a:Qd),E[i]?=some s->YA s=true->σ[i]?=some (some (.ref a))->a∉l::ls
end
section
variable{K:Qw}{C:Qd}{B H0 H H0' H':Hp}{σ σ':St}{E E':En}{j c:Nat}{ks:List Int}{dss:List (List D)}{l:Qd}{ls:List Qd}
theorem Grp.there(g:Grp K C B H0 H σ E j c ks dss l ls){a:Qd}(ha:a∈l::ls):∃o,H a=some o/\isT o=false/\H0 a=none/\B a=none:=by
 rcases Qp.mp ha with z|z
 ·subst z;exact⟨_,g.dict,rfl,g.l0,g.lb⟩
 ·obtain⟨m,hm⟩:=GZ.mp z;have hl:m<dss.length:=by rw[g.len2];exact(Qn.mp hm).1
  obtain⟨_,xs,h1,h2,h3,_⟩:=g.lists m a dss[m] hm (G6 hl);exact⟨_,h1,rfl,h2,h3⟩
theorem Grp.off(g:Grp K C B H0 H σ E j c ks dss l ls)(st:Step H H0 H H0' H'){a:Qd}(ha:a∈l::ls):H0' a=none:=by
 obtain⟨o,h1,h2,h3,_⟩:=g.there ha
 cases z:H0' a with
 | none=>rfl
 | some u =>
  rcases st.n a u z with y|y|y
  ·rw[h3] at y;cases y
  ·rw[h1] at y;cases y
  ·have:=st.i a u z;rw[st.h a o h1] at this
   simp_all
theorem Grp.step(g:Grp K C B H0 H σ E j c ks dss l ls)(st:Step H H0 H H0' H'):Grp K C B H0' H' σ E j c ks dss l ls :=
 ⟨g.at',st.h _ _ g.dict,g.off st Qg,g.lb,g.len,g.len2,g.cnt,fun m a ds e1 e2=>by obtain⟨h0,xs,h1,h2,h3,h4⟩:=g.lists m a ds e1 e2;exact⟨h0,xs,st.h _ _ h1,g.off st (Qh _ (QG e1)),h3,h4.mono st.z⟩,g.nd,g.own⟩
theorem Grp.left(g:Grp K C B H0 H σ E j c ks dss l ls)(f:Left j σ E σ' E'):Grp K C B H0 H σ' E' j c ks dss l ls :=
 ⟨f.1.trans g.at',g.dict,g.l0,g.lb,g.len,g.len2,g.cnt,g.lists,g.nd,fun i s a e o q=>by obtain⟨h1,h2⟩:=f.2 i s e o;exact g.own i s a h1 o (by rw[<- h2];exact q)⟩
theorem Grp.free(g:Grp K C B H0 H σ E j c ks dss l ls){a:Qd}(ha:a∈l::ls):∀(i:Nat) (s:Sl),E[i]?=some s->YA s=true->σ[i]?≠some (some (.ref a)):=fun i s e o q=>g.own i s a e o q ha
theorem EnvR.fresh(I:EnvR K C B H0 H σ E){p:Qd}(hp:H p=none):∀(i:Nat) (s:Sl),E[i]?=some s->YA s=true->σ[i]?≠some (some (.ref p)):=fun i s e o q=>by
 rcases I.at' i s e with z|⟨v,q1,q2⟩
 ·subst z;cases o
 ·rw[q1] at q;cases q
  cases s with
  | own es=>obtain⟨l',ys,p1,p2,_⟩:=q2;simp_all
  | od ks es=>obtain⟨l',ys,p1,p2,_⟩:=q2;simp_all
  | ot ks es=>obtain⟨l',ys,p1,p2,_⟩:=q2;simp_all
  | dw ks es=>obtain⟨l',ys,p1,p2,_⟩:=q2;simp_all
  | _=>cases o
theorem WL{α β:Type}(f:α->β):∀(ks:List Int) (vs:List α) (n:Int),look ks (vs.map f) n=(look ks vs n).map f
 | [],_,_=>rfl
 | _::_,[],_=>rfl
 | k::ks,v::vs,n=>by
  rw[Qi];simp only[look];split
  ·rfl
  ·exact WL f ks vs n
theorem JkF{tk tv:TE}{ek ev:Ev}(hk:SE K C tk ek)(hv:SE K C tv ev)(I:EnvR K C B H0 H σ E)(g:Grp K C B H0 H σ E j c ks dss l ls)(hc:c<Qq){n:Int}{s:Sl}{dv:D}(e1:ek E=some (.sh (.int n)))(e2:ev E=some s)(e3:s.frz=some dv){D:Ends}
 (f:∀H0' H' ls',SStep B H0 H0' H'->EnvR K C B H0' H' σ E->Grp K C B H0' H' σ E j (c+1) (Y7 ks n) (Jcl ks dss n dv) l ls'->D.nx σ H') :
 ZX (tBM K "list" ZS (Jhm (Wi j) tk (Joo Zk)) (Wb tv Zk)) D σ H:=by
 have hkl:=g.len
 have hcn:=g.cnt;refine⟨.ref l,g.at',l,rfl,.inl ⟨_,.inl g.dict⟩,hk B H0 H σ E _ _ I e1 fun y H1 H1' s1 r1=>?_⟩
 have ry:y=.int n:=RD.intI r1;subst ry
 have I1:=I.step s1
 have g1:=g.step s1;refine⟨GS _,fun p hp=>?_⟩
 have p0:H1 p=none:=Same.free s1.i hp
 have pb:B p=none:=Same.free I1.b hp
 have pn:p∉l::ls:=fun m=>by obtain⟨o,h1,_⟩:=g1.there m;rw[hp] at h1;cases h1
 have I2:EnvR K C B H1 (upd H1' p (.lst [])) σ E:=I1.poke p0 pb (I1.fresh hp)
 have ne:∀{a:Qd},a∈l::ls->a≠p:=fun {a} m z=>pn (z▸m)
 have dl:upd H1' p (.lst []) l=some (dkO ks (ls.map V.ref)):=by rw[Jl (ne Qg)];exact g1.dict
 have ss1:SStep B H0 H1 H1':=s1.ss I.b;refine⟨_,(Sum.inl n:Key),dl,rfl,?_,fun v hv'=>?_,fun hn=>?_⟩
 ·grind
 ·-- the list is there
  rw[VR,WL] at hv';obtain⟨a,ha,rfl⟩:=Q5.mp hv';obtain⟨m,m1,m2,m3⟩:=Jbe ha;obtain⟨ds,d1,d2⟩:=m3 dss g.len2;have ham:a∈l::ls:=Qh _ (QG m1);obtain⟨hd,xs,x1,x2,x3,x4⟩:=g1.lists m a ds m1 d1;have xa:upd H1' p (.lst []) a=some (.lst xs):=by rw[Jl (ne ham)];exact x1
  refine⟨.inl ⟨rfl,xs,.of xa⟩,?_⟩;refine hv B H1 _ σ E _ _ I2 e2 fun v H3 H3' s3 r3=>?_
  have s4:Step (upd H1' p (.lst [])) H1 (upd H1' p (.lst [])) (JT (upd H1' p (.lst [])) H3 H3') H3':=s3.comp (JI s3.i) fun _ z=>z
  have g2:Grp K C B H1 (upd H1' p (.lst [])) σ E j c ks dss l ls:=⟨g1.at',dl,g1.l0,g1.lb,g1.len,g1.len2,g1.cnt,fun m' a' ds' q1 q2=>by obtain⟨h0,xs',h1,h2⟩:=g1.lists m' a' ds' q1 q2;exact⟨h0,xs',by rw[Jl (ne (Qh _ (QG q1)))];exact h1,h2⟩,g1.nd,g1.own⟩
  have g3:=g2.step s4
  have I3:=I2.step s4
  have ha3:H3' a=some (.lst xs):=s4.h _ _ xa
  have rv:RDL K C (JT (upd H1' p (.lst [])) H3 H3') (xs++[v]) (ds++[dv]):=(x4.mono s4.z).snoc (RR.frz s3.i r3 e3);refine⟨a,xs,v,rfl,rfl,ha3,by rw[x4.1];omega,?_⟩
  have al:a≠l:=fun z=>(Ge.mp g.nd).1 (z▸QG m1)
  refine f (JT (upd H1' p (.lst [])) H3 H3') _ ls ?_ (I3.poke (g3.off (.refl I3.h) ham) (g3.there ham).choose_spec.2.2.2 (g3.free ham)) ?_
  ·have sb:SStep B H1 (JT (upd H1' p (.lst [])) H3 H3') H3':=s4.ss I2.b
   have:=ss1.trans sb
   have na:JT (upd H1' p (.lst [])) H3 H3' a=none:=g3.off (.refl I3.h) ham
   have nb:B a=none:=x3;exact⟨fun b o q=>by rw[Jl (JA q nb)];exact this.b b o q,this.z,this.n,fun b o q=>by rw[Jl (JA q na)];exact this.i b o q⟩
  ·have hp':Y7 ks n=ks:=if_pos m2;rw[hp',d2 dv];refine⟨g3.at',by rw[Jl (QY al)];exact g3.dict,g3.l0,g3.lb,g3.len,by rw[List.length_set];exact g3.len2,Nat.le_succ_of_le g3.cnt,fun m' a' ds' q1 q2=>?_,g3.nd,g3.own⟩;rw[QU] at q2
   by_cases hm:m=m'
   ·subst hm;rw[m1] at q1;cases q1;rw[if_pos rfl] at q2;split at q2
    ·cases q2;exact⟨by simp_all,_,Jw,g3.off (.refl I3.h) ham,x3,rv⟩
    ·cases q2
   ·rw[if_neg hm] at q2;obtain⟨h0,xs',h1,h2⟩:=g3.lists m' a' ds' q1 q2
    have:a'≠a:=fun z=>by subst z;have nd:=(Ge.mp g.nd).2;obtain⟨b1,b2⟩:=Qn.mp m1;obtain⟨c1,c2⟩:=Qn.mp q1;exact hm ((List.getElem_inj nd).mp (b2.trans c2.symm))
    exact⟨by omega,xs',by rw[Jl this];exact h1,h2⟩
 ·-- a new list
  rw[VR,WL] at hn;have hn':look ks ls n=none:=Option.map_eq_none_iff.mp hn;obtain⟨m2,m3⟩:=Jcw g.len hn'
  have hkv:Wh ((ks.map Sum.inl:List Key).zip (ls.map V.ref)) (Sum.inl n) (.ref p)=((ks++[n]).map Sum.inl:List Key).zip ((ls++[p]).map V.ref):=by rw[Jlq _ (by rw[VR,WL,hn'];rfl),Q2,Q2,M5 (by simp_all)];rfl
  rw[hkv];have lp:l≠p:=ne Qg;have xp:upd (upd H1' p (.lst [])) l (dkO (ks++[n]) ((ls++[p]).map V.ref)) p=some (.lst []):=by rw[Jl (QY lp),Jw]
  have I2':EnvR K C B H1 (upd (upd H1' p (.lst [])) l (dkO (ks++[n]) ((ls++[p]).map V.ref))) σ E:=I2.poke g1.l0 g1.lb (g1.free Qg)
  suffices key:∀Hn,upd (upd H1' p (.lst [])) l (dkO (ks++[n]) ((ls++[p]).map V.ref))=Hn->Hn p=some (.lst [])->EnvR K C B H1 Hn σ E->(tyV K "list" (.ref p) Hn/\Wb tv Zk σ Hn fun xs H2=>ZS (.ref p) xs H2 fun _ H1=>D.nx σ H1) from key _ rfl xp I2'
  clear xp I2';intro Hn hHn xp I2';refine⟨.inl ⟨rfl,[],.of xp⟩,?_⟩;refine hv B H1 Hn σ E _ _ I2' e2 fun v H3 H3' s3 r3=>?_
  have s4:Step Hn H1 Hn (JT Hn H3 H3') H3':=s3.comp (JI s3.i) fun _ z=>z
  have nd':(l::(ls++[p])).Nodup:=by
   rw[<- KI,Mu];refine⟨g.nd,by simp,fun x hx y hy=>?_⟩
   grind
  have g2:Grp K C B H1 Hn σ E j (c+1) (ks++[n]) (dss++[[]]) l (ls++[p]):=⟨g1.at',by rw[<- hHn];exact Jw,g1.l0,g1.lb,by simp[g.len],by simp[g.len2],by simp;omega,fun m' a' ds' q1 q2=>by
   by_cases hm:m'<ls.length
   ·rw[QE hm] at q1;rw[QE (by rw[g.len2];exact hm)] at q2;obtain⟨h0,xs',h1,h2⟩:=g1.lists m' a' ds' q1 q2;have hal:a'∈ls:=QG q1;exact⟨by omega,xs',by rw[<- hHn,Jl fun z=>(Ge.mp g.nd).1 (by rw[<- z];exact hal),Jl (ne (Qh _ hal))];exact h1,h2⟩
   ·have hm1:m'=ls.length:=by have:=(Qn.mp q1).1;simp at this;omega
    subst hm1
    have ea:a'=p:=by simp_all
    have ed:ds'=[]:=by
     rw[QS (by rw[g.len2];exact Qo _),g.len2] at q2
     simpa using q2.symm
    subst ea ed;exact⟨GS _,[],xp,p0,pb,.nil⟩,nd',fun i s a e o q m=>by
     rw[<- KI] at m;rcases Go.mp m with z|z
     ·exact g1.own i s a e o q z
     ·have:a=p:=by simpa using z
      subst this;exact I1.fresh hp i s e o q⟩
  have g3:=g2.step s4
  have I3:=I2'.step s4
  have pm:p∈l::(ls++[p]):=by simp
  have p3:H3' p=some (.lst []):=s4.h _ _ xp
  have rv:RDL K C (JT Hn H3 H3') [v] [dv]:=.cons (RR.frz s3.i r3 e3) .nil;refine⟨p,[],v,rfl,rfl,p3,by show 0<Qq;decide,?_⟩
  have n0:JT Hn H3 H3' p=none:=g3.off (.refl I3.h) pm;refine f (JT Hn H3 H3') _ (ls++[p]) ?_ (I3.poke n0 pb (g3.free pm)) ?_
  ·have sb:SStep B H1 (JT Hn H3 H3') H3':=s4.ss I2'.b
   have:=ss1.trans sb;exact⟨fun b o q=>by rw[Jl (JA q pb)];exact this.b b o q,this.z,this.n,fun b o q=>by rw[Jl (JA q n0)];exact this.i b o q⟩
  ·have hp':Y7 ks n=ks++[n]:=if_neg (by simp_all);rw[hp',m3 dss dv g.len2];refine⟨g3.at',by rw[Jl lp];exact g3.dict,g3.l0,g3.lb,g3.len,by simp[g.len2],g3.cnt,fun m' a' ds' q1 q2=>?_,g3.nd,g3.own⟩
   by_cases hm:m'<ls.length
   ·have q2':(dss++[[]])[m']?=some ds':=by rw[QE (by rw[g.len2];exact hm)] at q2 ⊢;exact q2
    obtain⟨h0,xs',h1,h2⟩:=g3.lists m' a' ds' q1 q2'
    have:a'≠p:=by rw[QE hm] at q1;exact ne (Qh _ (QG q1))
    exact⟨h0,xs',by rw[Jl this];exact h1,h2⟩
   ·have hm1:m'=ls.length:=by have:=(Qn.mp q1).1;simp at this;omega
    subst hm1
    have ea:a'=p:=by simp_all
    have ed:ds'=[dv]:=by
     rw[QS (by rw[g.len2];exact Qo _),g.len2] at q2
     simpa using q2.symm
    subst ea ed;exact⟨by simp,[v],Jw,n0,pb,rv⟩
end
end LE

namespace LE
open PySem L2 LR
section
variable{K:Qw}{C:Qd}{B H0 H H0' H':Hp}{σ σ':St}{E E':En}{j c:Nat}{ks:List Int}{dss:List (List D)}{l:Qd}{ls:List Qd}
theorem EnvR.unslot(I:EnvR K C B H0 H σ E)(j:Nat):EnvR K C B H0 H σ (E.set j .no):=by
 have get:∀(i:Nat) (s:Sl),(E.set j Sl.no)[i]?=some s->s=.no\/(i≠j/\E[i]?=some s):=fun i s e=>by
  rw[QU] at e
  by_cases c:j=i
  ·rw[if_pos c] at e
   by_cases hl:j<E.length
   ·rw[if_pos hl] at e;exact .inl (QV e).symm
   ·rw[if_neg hl] at e;exact absurd e (by simp)
  ·rw[if_neg c] at e;exact .inr ⟨fun z=>c z.symm,e⟩
 refine⟨I.b,I.h,by simp[I.len],fun i s e=>?_,fun i k s t v hik e1 e2 o1 o2 e3 e4=>?_,I.t⟩
 ·rcases get i s e with z|⟨_,z⟩
  ·exact .inl z
  ·exact I.at' i s z
 ·rcases get i s e1 with z|⟨_,z⟩
  ·subst z;cases o1
  ·rcases get k t e2 with y|⟨_,y⟩
   ·subst y;cases o2
   ·exact I.sep i k s t v hik z y o1 o2 e3 e4
noncomputable def Ji9(H0 H:Hp)(ls:List Qd):Hp:=fun a=>if a∈ls then H a else H0 a
theorem Jc4{Hz:Hp}:∀{ls:List Qd} {dss:List (List D)},dss.length=ls.length->(∀(m:Nat) (a:Qd) (ds:List D),ls[m]?=some a->dss[m]?=some ds->∃xs,Hz a=some (.lst xs)/\RDL K C Hz xs ds)->RDL K C Hz (ls.map V.ref) (dss.map .lst)
 | [],[],_,_=>.nil
 | [],_::_,h,_=>by simp at h
 | _::_,[],h,_=>by simp at h
 | a::ls,ds::dss,h,f=>by obtain⟨xs,h1,h2⟩:=f 0 a ds rfl rfl;exact .cons (.mkL h1 h2) (Jc4 (by simpa using h) fun m a ds e1 e2=>f (m+1) a ds (by simpa using e1) (by simpa using e2))
theorem Grp.done(I:EnvR K C B H0 H σ E)(g:Grp K C B H0 H σ E j c ks dss l ls)(hj:j<E.length):SStep B H0 (Ji9 H0 H ls) H/\EnvR K C B (Ji9 H0 H ls) H σ (E.set j (.od ks (dss.map .lst))):=by
 have out:∀{a:Qd},a∉ls->Ji9 H0 H ls a=H0 a:=fun {a} h=>if_neg h
 have inn:∀{a:Qd},a∈ls->Ji9 H0 H ls a=H a:=fun {a} h=>if_pos h
 have z:Same H0 (Ji9 H0 H ls):=fun a o e=>by
  by_cases c:a∈ls
  ·rw[inn c];exact I.h a o e
  ·rw[out c];exact e
 have i:Same (Ji9 H0 H ls) H:=fun a o e=>by
  by_cases c:a∈ls
  ·rw[inn c] at e;exact e
  ·rw[out c] at e;exact I.h a o e
 have ln:l∉ls:=(Ge.mp g.nd).1;refine⟨⟨I.b,z,fun a o e=>?_,i⟩,I.b,i,by simp[I.len],fun k s e=>?_,fun k m s t v hkm e1 e2 o1 o2 e3 e4=>?_,I.t⟩
 ·by_cases c:a∈ls
  ·exact .inr (.inl (g.there (Qh _ c)).choose_spec.2.2.2)
  ·rw[out c] at e;exact .inl e
 ·rw[QU] at e
  by_cases c:j=k
  ·subst c;rw[if_pos rfl,if_pos hj] at e;have e':=QV e;subst e';refine .inr ⟨_,g.at',l,ls.map V.ref,rfl,g.dict,by rw[out ln];exact g.l0,g.lb,by rw[QN,g.len2];exact g.len,Jc4 g.len2 fun m a ds q1 q2=>?_⟩;obtain⟨_,xs,h1,_,_,h4⟩:=g.lists m a ds q1 q2;exact⟨xs,by rw[inn (QG q1)];exact h1,h4.mono z⟩
  ·rw[if_neg c] at e;rcases I.at' k s e with y|⟨v,q1,q2⟩
   ·exact .inl y
   ·refine .inr ⟨v,q1,?_⟩
    cases s with
    | no=>trivial
    | sh d=>exact RD.mono z q2
    | bo es=>obtain⟨l',ys,p1,p2,p3⟩:=q2;exact⟨l',ys,p1,p2,p3.mono z⟩
    | bd ks es=>obtain⟨l',ys,p1,p2,p3,p4⟩:=q2;exact⟨l',ys,p1,p2,p3,p4.mono z⟩
    | bt ks es=>obtain⟨l',ys,p1,p2,p3,p4⟩:=q2;exact⟨l',ys,p1,p2,p3,p4.mono z⟩
    | bw ks es=>obtain⟨l',ys,p1,p2,p3,p4⟩:=q2;exact⟨l',ys,p1,p2,p3,p4.mono z⟩
    | own es=>obtain⟨l',ys,p1,p2,p3,p4,p5⟩:=q2;subst p1;have:=g.own k _ l' e rfl q1;exact⟨l',ys,rfl,p2,by simp_all,p4,p5.mono z⟩
    | od ks es=>obtain⟨l',ys,p1,p2,p3,p4,p5,p6⟩:=q2;subst p1;have:=g.own k _ l' e rfl q1;exact⟨l',ys,rfl,p2,by simp_all,p4,p5,p6.mono z⟩
    | ot ks es=>obtain⟨l',ys,p1,p2,p3,p4,p5,p6⟩:=q2;subst p1;have:=g.own k _ l' e rfl q1;exact⟨l',ys,rfl,p2,by simp_all,p4,p5,p6.mono z⟩
    | dw ks es=>obtain⟨l',ys,p1,p2,p3,p4,p5,p6⟩:=q2;subst p1;have:=g.own k _ l' e rfl q1;exact⟨l',ys,rfl,p2,by simp_all,p4,p5,p6.mono z⟩
 ·have get:∀(i:Nat) (s:Sl),(E.set j (Sl.od ks (dss.map .lst)))[i]?=some s->i=j\/(i≠j/\E[i]?=some s):=fun i s e=>by grind
  rcases get k s e1 with y1|⟨n1,y1⟩
  ·subst y1;rcases get m t e2 with y2|⟨n2,y2⟩
   ·exact hkm y2.symm
   ·rw[g.at'] at e3;have e3':=QV (QV e3);subst e3';exact g.own m t l y2 o2 e4 Qg
  ·rcases get m t e2 with y2|⟨n2,y2⟩
   ·subst y2;rw[g.at'] at e4;have e4':=QV (QV e4);subst e4';exact g.own k s l y1 o1 e3 Qg
   ·exact I.sep k m s t v hkm y1 y2 o1 o2 e3 e4
theorem JsX{wi:TI}{g:TG}{it:En->Option (List LE.D)}{p:Pt}{tk tv:TE}{ek ev:Ev}(hi:SI K C false wi it)(hg:SGJ K C j g p)(hk:SE K C tk ek)(hv:SE K C tv ev) :
 SS K C (Jom wi g (ZX (tBM K "list" ZS (Jhm (Wi j) tk (Joo Zk)) (Wb tv Zk)))) (Joy it p j ek ev):=by
 intro B H0 H σ E o D I e f;unfold Joy at e;split at e
 ·next h =>
  obtain⟨ds,e1,e⟩:=bind_some e;split at e
  ·next hz =>
   obtain⟨⟨E',ks,dss⟩,e2,e⟩:=bind_some e;split at e
   ·next hjl =>
    cases e;refine hi B H0 H σ E ds _ I e1 fun J H1 H1' s1 ok=>?_
    rw[if_neg (by simp)] at ok;have I1:=I.step s1;rcases I1.at' j _ h with y|⟨v,h1,l,xs,rfl,hl,hl0,hlb,_,rx⟩
    ·cases y
    have hx:xs=[]:=Q1 (by have:=rx.1;simpa using this);subst hx
    have G0:Grp K C B H1 H1' σ (E.set j .no) j 0 [] [] l []:=⟨h1,hl,hl0,hlb,rfl,rfl,Qo _,fun m a ds q=>by simp at q,by simp,fun i s a q o q' m=>by
     rw[QU] at q
     by_cases c:j=i
     ·rw[if_pos c] at q
      by_cases hl:j<E.length
      ·rw[if_pos hl] at q;have q':=QV q;rw[<- q'] at o;exact absurd o QB
      simp_all
     ·rw[if_neg c] at q;have:a=l:=by simpa using m
      subst this;exact I1.sep j i _ s (.ref a) c h q rfl o h1 q'⟩
    refine⟨fun i k σ' H'=>k=ds.length-i/\i<=ds.length/\∃H0' E1 ks1 dss1 l ls,EnvR K C B H0' H' σ' E1/\SStep B H1 H0' H'/\Grp K C B H0' H' σ' E1 j i ks1 dss1 l ls/\Zz p ek ev (ds.drop i) E1 ks1 dss1=some (E',ks,dss),
     ⟨ds.length,by simp,GS _,H1,E.set j .no,[],[],l,[],I1.unslot j,.refl (I.b.trans s1.h) s1.i,G0,e2⟩,?_⟩
    rintro i k σ' H' ⟨rfl,hi',H0',E1,ks1,dss1,l,ls,I',st,G,er⟩;have stop:=ok H0' H' st
    by_cases hlt:i<ds.length
    ·have hd:ds[i]?=some ds[i]:=by simp[hlt]
     obtain⟨go,yl⟩:=stop.1 i _ hd;refine .inr ⟨go,fun σ2 H2=>∃H0' E1 ks1 dss1 l ls,EnvR K C B H0' H2 σ2 E1/\SStep B H1 H0' H2/\Grp K C B H0' H2 σ2 E1 j (i+1) ks1 dss1 l ls/\Zz p ek ev (ds.drop (i+1)) E1 ks1 dss1=some (E',ks,dss),fun σ2 H2 h=>⟨ds.length-(i+1),by omega,rfl,hlt,h⟩,fun x H2 y=>?_⟩;obtain⟨H02,st2,rx⟩:=yl x H2 y;rw[Kq hlt,Zz] at er;obtain⟨E2,b1,er⟩:=bind_some er;obtain⟨n,b2,er⟩:=bind_some er;obtain⟨s,b3,er⟩:=bind_some er
     obtain⟨dv,b4,er⟩:=bind_some er;obtain⟨sn,b5,b6⟩:=bind_some b2;have b7:=Wp b6;subst b7;have ss2:SStep B H0' H02 H2:=st2.ss I'.b;refine hg B H02 H2 σ' E1 E2 x _ _ (I'.step st2) rx b1 fun σ2 I2 lf=>?_
     exact JkF hk hv I2 ((G.step st2).left lf) (by omega) b5 b3 b4 fun H03 H3 ls' ss I3 G3=>⟨H03,E2,_,_,l,ls',I3,(st.trans ss2).trans ss,G3,er⟩
    ·have hd:ds.drop i=[]:=Lz (by omega)
     have hin:i=ds.length:=by omega
     rw[hd,Zz] at er;have er':=QV er;cases er';obtain⟨d1,d2⟩:=G.done I' hjl;refine .inl ⟨by rw[hin];exact stop.2,f σ' _ H' (((s1.ss I.b).trans st).trans d1) d2⟩
   ·cases e
  ·cases e
 ·cases e
end
end LE

namespace L2
open PySem PySem.Spec PyProof.Rows
noncomputable def UR:List Int->List Int->Bool
 | [],_=>true
 | _::_,[]=>false
 | x::xs,y::ys=>if x=y then UR xs ys else decide (x<=y)
theorem W0(x y:Int)(xs ys:List Int):UR (x::xs) (y::ys)=if x=y then UR xs ys else decide (x<=y):=rfl
theorem Jlz(A:QI)(s:Qe)(a:Int)(t:Tok)(c:Int)(u:Tok)(prog:Qu)(w:QJ)(E:Qc->Qe->Prop)(Q:Qc->Qe->Prop)(h:Q (.bool (decide (a<=c))) s) :
 wpAny (model prog w) A (richCompare .LtE (.int a t) (.int c u)) Q E s :=
 (PyProof.Rows.le_int h:wpAny (model prog w) A (compareOp .LtE (.int a t) (.int c u)) Q E s)
section
open PySem.SeqAt
open PySem.AutoSeq1 (wpAny_loadPart')
open PySem.MeetsSeq PySem.MeetsSeq2 PySem.MeetsSeq3
theorem Jcv(l b:Qd)(items items2:Array Qc)(n n2:Nat)(dd dd2:Option Qd)(sl sl2:Array (Option Qc))(ns ms:List Int)(hi:IntsAre items.toList ns)(hj:IntsAre items2.toList ms) :
 Meets (Builtin.«tuple.__le__» ⟨[.ref l,.ref b],[]⟩)
  (fun _ R s=>s.heap.get? l=some { cls:=.type "tuple",dict:=dd,data:=.seq items n,slots:=sl }/\s.heap.get? b=some { cls:=.type "tuple",dict:=dd2,data:=.seq items2 n2,slots:=sl2 } ∧
   R (.ok (.ret (.bool (UR ns ms)))) s) :=
 .of_wp fun prog w A R s h=>by
  obtain⟨hp,g,d,tk,os⟩:=s;obtain⟨hl,hb,h⟩:=h;have f2:=AutoSeq1.sub_tuple_tuple;have z1:items.size=ns.length:=by rw[<- hi.length];simp
  have z2:items2.size=ms.length:=by rw[<- hj.length];simp
  wp_walk using GR hl,GR hb,wpAny_forIn_list _ (fun rest b s'=>b.1=none/\s'=⟨hp,g,d,tk,os⟩/\∃(vs ws:List Qc) (ns' ms':List Int),rest=vs.zip ws ∧
   IntsAre vs ns'/\IntsAre ws ms'/\ns'.length+items2.size=ms'.length+items.size/\R (.ok (.ret (.bool (UR ns' ms')))) ⟨hp,g,d,tk,os⟩) _
  case turn =>
   rintro⟨y,x⟩ rest b s' ⟨hb',rfl,vs,ws,ns',ms',hz,hvi,hwi,hlen,hR⟩
   cases hvi with
   | nil=>simp_all
   | cons a t hvi' =>
    cases hwi with
    | nil=>simp_all
    | cons c u hwi' =>
     rw[List.zip_cons_cons] at hz
     injection hz with hyx hrest
     injection hyx with hy hx
     subst hy hx;rw[W0] at hR;simp only[Qr] at hlen;obtain⟨e,he,hiff⟩:=HT.Jkn A.in1 ⟨hp,g,d,tk,os⟩ a t c u;refine Qa (he prog w _ _ ?_)
     cases e with
     | true =>
      rw[if_pos (hiff.mp rfl)] at hR;wp_walk
      grind
     | false =>
      rw[if_neg (fun q=>absurd (hiff.mpr q) QB)] at hR;have hri:=Jlz A.in1 ⟨hp,g,d,tk,os⟩ a t c u prog w;wp_walk using hri
      simp_all
  case fin =>
   rintro⟨b1,b2⟩ s' ⟨hb',rfl,vs,ws,ns',ms',hz,hvi,hwi,hlen,hR⟩;simp only at hb';subst hb'
   have hv:UR ns' ms'=decide (items.size<=items2.size):=by
    cases hvi with
    | nil =>
     simp only[GL] at hlen;rw[show UR [] ms'=true from rfl]
     simp_all
    | cons a t hv =>
     cases hwi with
     | nil=>grind[UR]
     | cons c u hw=>simp_all
   rw[hv] at hR;wp_walk;exact⟨_,rfl,by simpa [Builtin.Tuple.tupleCompareSizes] using hR⟩
  case h=>exact⟨rfl,rfl,items.toList,items2.toList,ns,ms,rfl,hi,hj,by omega,h⟩
end
section
variable{prog:Qu}{w:QJ}{A:QI}{E:Qc->Qe->Prop}{s:Qe}
theorem JgH{l b:Qd}{items items2:Array Qc}{ns ms:List Int}{Q:Qc->Qe->Prop}(hl:s.heap.IsTuple l items)(hb:s.heap.IsTuple b items2)(hi:IntsAre items.toList ns)(hj:IntsAre items2.toList ms)
 (hu:A.units<cLine) (h:Q (.bool (UR ns ms)) s):wpAny (model prog w) A (compareOp .LtE (.ref l) (.ref b)) Q E s:=by
 obtain⟨⟨cls,dd,data,sl⟩,ho,hc,n,hd⟩:=id hl;obtain⟨⟨cls2,dd2,data2,sl2⟩,ho2,hc2,n2,hd2⟩:=id hb;simp only at hc hd hc2 hd2;subst hc hd hc2 hd2;exact richCompare_meets_room (op:=.LtE) ⟨_,ho,rfl⟩ ⟨_,ho2,rfl⟩ PySem.F.slot_tuple_le PySem.F.entry_tuple_le (PySem.F.args_tuple_le_2 _ _) (Jcv l b items items2 n n2 dd dd2 sl sl2 ns ms hi hj)
  ⟨ho,ho2,show Value.bool (UR ns ms)≠Value.notImplemented/\Q (.bool (UR ns ms)) s from⟨(fun x=>nomatch x),h⟩⟩ hu
end
noncomputable def JsB(K:Qw):R2:=fun x y H Q=>∃a b ns ms,x=.ref a/\y=.ref b/\SqT K H a (ns.map V.int)/\SqT K H b (ms.map V.int)/\Q (.bl (UR ns ms)) H
theorem Jqx{X:Cx}{K:Qw}(hK:X.K=K)(hu:X.A.units<cLine):OpR X (compareOp .LtE) (JsB K):=by subst hK;intro pins s σ H x y v u Q I rx ry h;obtain⟨a,b,ns,ms,rfl,rfl,ha,hb,q⟩:=h;cases rx;cases ry;obtain⟨its,r1,p1,_⟩:=I.tuple ha;obtain⟨its2,r2,p2,_⟩:=I.tuple hb;have i1:IntsAre its.toArray.toList ns:=U9 r1;have i2:IntsAre its2.toArray.toList ms:=U9 r2;exact JgH p1 p2 i1 i2 hu ⟨.bl (UR ns ms),H,I,rfl,q⟩
end L2
namespace LE
open PySem L2 LR
noncomputable def Jkr:Sl->Sl->Option Sl
 | .sh (.tup ds),.sh (.tup es)=>(ints? ds).bind fun ns=>(ints? es).map fun ms=>.sh (.bl (UR ns ms))
 | _,_=>none
section
variable{K:Qw}{C:Qd}
theorem RDL.ints'{H:Hp}:∀{xs:List V} {ns:List Int},RDL K C H xs (ns.map .int)->xs=ns.map V.int
 | [],[],_=>rfl
 | [],_::_,r=>by have:=r.1;simp at this
 | _::_,[],r=>by have:=r.1;simp at this
 | x::xs,n::ns,r=>by have h1:RD K C H x (.int n):=r.head;rw[RD.intI h1,RDL.ints' (ns:=ns) r.tail];rfl
theorem Jsp:OpS K C (JsB K) Jkr:=by
 intro Hs H0 H x y a b c Q i hs ra rb e q;unfold Jkr at e;split at e
 ·obtain⟨ns,e1,e⟩:=bind_some e;obtain⟨ms,e2,e⟩:=Q5.mp e;subst e;have h1:=U4 e1;have h2:=U4 e2;subst h1 h2;obtain⟨p,xs,rfl,s1,r1⟩:=RD.tupI ra;obtain⟨p',ys,rfl,s2,r2⟩:=RD.tupI rb;have z1:=RDL.ints' r1;have z2:=RDL.ints' r2;subst z1 z2;exact⟨p,p',ns,ms,rfl,rfl,i.seqT s1,i.seqT s2,q _ _ _ (.refl i) (.bl _)⟩
 ·cases e
theorem JmM(a b c d:Int):Jkr (.sh (.tup [.int a,.int b])) (.sh (.tup [.int c,.int d]))=some (.sh (.bl (if a=c then decide (b<=d) else decide (a<=c)))):=by
 show some (Sl.sh (.bl (UR [a,b] [c,d])))=_;rw[W0];split
 ·rw[W0];split
  ·next h=>rw[h];simp[UR]
  ·rfl
 ·rfl
end
end LE

namespace L2
open PySem PySem.Spec PyProof.Rows
section
open PySem.SeqAt
open PySem.AutoSeq1 (wpAny_loadPart')
open PySem.MeetsSeq PySem.MeetsSeq2 PySem.MeetsSeq3
end
section
variable{prog:Qu}{w:QJ}{A:QI}{E:Qc->Qe->Prop}{s:Qe}
end
end L2
namespace LE
open PySem L2 LR
section
variable{K:Qw}{C:Qd}
end
end LE

namespace L2
open PySem PySem.Spec PyProof.Rows
noncomputable def JoC(i j:Int):Prop:=i.natAbs<=10 ^ 200/\j.natAbs<=10 ^ 200
theorem Jhx{i:Int}(h:i.natAbs<=10 ^ 200):Rz i<=2 ^ 20:=by
 unfold Rz;split
 ·exact GS _
 ·next hz =>
  have h0:i.natAbs≠0:=fun z=>hz (by simp;omega)
  have h1:i.natAbs.log2<1000:=by rw[Nat.log2_lt h0];exact Km h (by decide +kernel)
  omega
theorem JnB{X:Cx}:OpR X (binaryOp .Mult) (rI JoC fun i j=>.int (i*j)):=opI fun _ _ _ _ _ _ _ hc q=>mul_int q (IntMulOk.of_bits (Jhx hc.1) (Jhx hc.2))
end L2
namespace LE
open PySem L2 LR
noncomputable def Jbh(a:Int):Bool:=RO a.natAbs (10 ^ 200)
noncomputable abbrev Jks:=fIc (fun a b=>Jbh a && Jbh b) fun a b=>.int (a*b)
section
variable{K:Qw}{C:Qd}
theorem Jql:OpS K C (rI JoC fun i j=>.int (i*j)) Jks:=Jla (fun i j h=>by simp only[Q9,Jbh,KN] at h;exact h) fun _ _ _=>.int _
theorem Jkt{a b:Int}(h:a.natAbs<=10 ^ 200/\b.natAbs<=10 ^ 200):Jks (.sh (.int a)) (.sh (.int b))=some (.sh (.int (a*b))):=by show(if (Jbh a && Jbh b)=true then _ else _)=_;rw[if_pos];rw[Q9];exact⟨KN.mpr h.1,KN.mpr h.2⟩
end
end LE

namespace LE
open PySem L2 LR
section
variable{K:Qw}{C:Qd}{W:XK}{t:TA}{ev:En->Option (List Sl)}{ts us:TS}{x:Xv}{H:Hp}
end
end LE

namespace PySem
open PySem.Calls PyProof.Rows PyProof.V PySem.Spec
section
variable{prog:Qu}{w:QJ}{A:QI}{E:Qc->Qe->Prop}{s:Qe}{r a:Qd}{xs:Array Qc}{n:Nat}
end
end PySem
namespace L2
open PySem PySem.Spec PyProof.Rows
end L2
namespace LE
open PySem L2 LR
section
variable{K:Qw}{C:Qd}
end
end LE

namespace L2
open PySem PySem.Spec PyProof.Rows PySem.Calls
section
variable{X:Cx}
noncomputable def JsF:V->Option Int->Option Int->Hp->VK->Prop:=fun x lo hi H Q=>∃z,x=.str z/\z.length<=Qq/\Q (.str (KY z lo hi)) H
theorem Jb5:SlR X JsF:=by
 intro pins s σ H x v vl vu lo hi sl Q I rx hs pl pu h;obtain⟨z,rfl,hz,q⟩:=h;obtain⟨t,rfl⟩:=rx;have fin:∀t' k,EP X pins σ Q (.str (KY z lo hi) t') { s with toks:=k }:=fun t' k=>⟨.str _,H,I.tok k,⟨t',rfl⟩,q⟩
 refine⟨"str",_,F.slot_str_getitem.lookup,typeIs_str _ _ _,?_⟩
 cases pl with
 | none =>
  cases pu with
  | none=>exact KJ (l:=none) (u:=none) (st:=none) hs rfl (post_val_or_str ⟨Gj (M1 z _ _) hz,fun t' k=>fin t' k⟩)
  | int j u=>exact KJ (l:=none) (u:=some (j,u)) (st:=none) hs rfl (post_val_or_str ⟨Gj (M1 z _ _) hz,fun t' k=>fin t' k⟩)
 | int i u' =>
  cases pu with
  | none=>exact KJ (l:=some (i,u')) (u:=none) (st:=none) hs rfl (post_val_or_str ⟨Gj (M1 z _ _) hz,fun t' k=>fin t' k⟩)
  | int j u=>exact KJ (l:=some (i,u')) (u:=some (j,u)) (st:=none) hs rfl (post_val_or_str ⟨Gj (M1 z _ _) hz,fun t' k=>fin t' k⟩)
noncomputable def Jio:V->List V->Hp->VK->Prop:=fun x vs H Q=>∃z y,x=.str z/\vs=[.str y]/\Q (.bl (K8 z y)) H
theorem Jc0:MtM X "str.startswith" Jio:=by intro pins s σ H x vs v us Q I rx rv h;obtain⟨z,y,rfl,rfl,q⟩:=h;obtain⟨t,rfl⟩:=rx;obtain⟨u,rfl,ru⟩:=rv.one;obtain⟨t',rfl⟩:=ru;exact SC.startswith ⟨.bl _,H,I,rfl,q⟩
noncomputable def JoQ:List V->Hp->VK->Prop:=fun xs H Q=>∃z n,xs=[.str z]/\intText? z=some n/\z.length<=640/\Q (.int n) H
theorem Jad:YD X (.type "int") JoQ:=by intro pins s σ H xs us Q I r h;obtain⟨z,n,rfl,hn,hl,q⟩:=h;obtain⟨u,rfl,t,rfl⟩:=WG r;exact PySem.W.KIN.call_text hn hl ⟨.int n,H,I.tok _,⟨_,rfl⟩,q⟩
noncomputable def Itc(z:Str):It:=⟨fun i _=>i<z.cps.size,fun i H x H'=>H'=H/\∃c,z.cps[i]?=some c/\x=.str ⟨#[c]⟩,fun i _=>i=z.cps.size⟩
theorem Jf7{P:Qu}{w:QJ}{K:Qw}{tg:Q4}(it:Qd)(z:Str)(t:Tok)(T:String)(hT:T="str_ascii_iterator"\/T="str_iterator"):Turn P w K tg (Itc z) [it] it (fun i h=>h.IsStrIter it T z t i) where
 mem:=by simp
 obj:=fun i h st b hb=>by
  have e:b=it:=by simpa using hb
  subst e;obtain⟨o,e,c,d⟩:=st
  simp_all
 keep:=fun i h h' st k=>by obtain⟨o,e,r⟩:=st;exact⟨o,k it (by simp) o e,r⟩
 item:=by
  intro X hP hw hK hc i pins s σ H E I hf st hg;subst hP hw hK;obtain⟨f0,f1,f2,f3,f4,f5⟩:=hf it (by simp);have hx:z.cps[i]?=some z.cps[i]:=Array.getElem?_eq_getElem hg
  have go:∀h',h'.IsStrIter it T z t (i+1)->Qy it s.heap h'->∃u,some (Value.str ⟨#[z.cps[i]]⟩ s.toks)=some u ∧
   wpAny (model X.prog X.w) X.A (letOwnedTupleGo tg (.ref it) u) (fun _ s2=>∃x H',Inv X pins σ H' s2/\RelV x u/\(Itc z).yld i H x H'/\s2.heap.IsStrIter it T z t (i+1)/\∀b∈[it],H' b=none) E { s with heap:=h',toks:=s.toks+1 }:=fun h' st' sb=>by
   have I1:Inv X pins σ H { s with heap:=h',toks:=s.toks+1 }:=I.turned (fun b o hb e=>(sb.2 b hb).trans e) f0 f1 f3 f4 f5;obtain⟨o,e,c,d⟩:=id st';refine⟨_,rfl,Jbs (s:={ s with heap:=h',toks:=s.toks+1 }) e c d ?_ ⟨.str ⟨#[z.cps[i]]⟩,H,I1,⟨_,rfl⟩,⟨rfl,_,hx,rfl⟩,st',fun b hb=>(hf b hb).1⟩⟩;rcases hT with rfl|rfl <;> decide
  rcases hT with rfl|rfl
  ·exact wpAny_pyNext_ascii_item st hx fun h' st' sb=>go h' st' sb
  ·exact wpAny_pyNext_wide_item st hx fun h' st' sb=>go h' st' sb
 done:=by
  intro X hP hw hK hc i pins s σ H E I hf st hg;subst hP hw hK;obtain⟨f0,f1,f2,f3,f4,f5⟩:=hf it (by simp);have hx:z.cps[i]?=none:=Array.getElem?_eq_none (RJ (show i=z.cps.size from hg).symm);rcases hT with rfl|rfl
  ·exact wpAny_pyNext_ascii_end (I.ok.hd hc) st hx fun h' eb=>⟨rfl,I.turned (t':=s.toks) (fun b o hb e=>eb b o hb e) f0 f1 f3 f4 f5⟩
  ·exact wpAny_pyNext_wide_end (I.ok.hd hc) st hx fun h' eb=>⟨rfl,I.turned (t':=s.toks) (fun b o hb e=>eb b o hb e) f0 f1 f3 f4 f5⟩
 self:=fun _ _ _ _ _ st h=>by
  rcases hT with rfl|rfl
  ·exact wpAny_pyIter_striter_ascii st h
  ·exact wpAny_pyIter_striter_wide st h
noncomputable def Jr5(tl:TE):TI:=fun σ H R=>tl σ H fun x H1=>∃z,x=.str z/\R (Itc z) H1
theorem JqH{tg l:Q4}{tl:TE}(hl:PE X l tl):PI X tg l (Jr5 tl):=by
 intro pins s σ H R I h;refine thn (hl pins s σ H _ I h) fun v s1 ⟨x,H1,I1,r1,q1⟩=>?_
 obtain⟨z,rfl,q⟩:=q1;obtain⟨t,rfl⟩:=r1
 have fr:∀b∈[s1.heap.objs.size],FpOk X pins H1 b:=fun b hb=>by
  have e:b=s1.heap.objs.size:=by simpa using hb
  subst e;exact I1.fpOk (Qo _) (I1.hok.fresh (Qo _))
 cases ha:z.cps.all (·<128)
 ·exact wpAny_pyIter_wide ha ⟨s1.heap.objs.size,[s1.heap.objs.size],_,_,H1,rfl,I1.kept (t':=s1.toks) fun b o e=>Qf _ e,Jf7 _ z t _ (.inr rfl),⟨_,Qj _ rfl,rfl,rfl⟩,fr,q⟩
 ·exact wpAny_pyIter_ascii ha ⟨s1.heap.objs.size,[s1.heap.objs.size],_,_,H1,rfl,I1.kept (t':=s1.toks) fun b o e=>Qf _ e,Jf7 _ z t _ (.inl rfl),⟨_,Qj _ rfl,rfl,rfl⟩,fr,q⟩
end
end L2
namespace L2
open PySem PySem.Spec PyProof.Rows PySem.Calls
section
variable{X:Cx}{es:List Q4}{t:TA}{x:Str}{j:Nat}{p:Pos}
end
end L2

namespace LE
open PySem L2 LR
noncomputable def inS(i j:Str):Bool:=!(GJ j i 0 j.length 1).isEmpty
noncomputable def Jkp:Sl->Sl->Option Sl
 | .sh (.str i),.sh (.str j)=>some (.sh (.bl (inS i j)))
 | _,_=>none
noncomputable def JeX(a:Ev)(lo hi:Option Ev):Ev:=fun E=>(a E).bind fun s=>(Wo lo E).bind fun l=>(Wo hi E).bind fun h=>(str? s).bind fun z=>if z.length<=16777216 then some (.sh (.str (KY z l h))) else none
noncomputable def Y2(z:Str):List Sl->Option Sl
 | [.sh (.str y)]=>some (.sh (.bl (K8 z y)))
 | _=>none
noncomputable def Zx:List Sl->Option Sl
 | [.sh (.str z)]=>if z.length<=640 then(intText? z).map fun n=>.sh (.int n) else none
 | _=>none
noncomputable def sgE(c:Nat):D:=.str ⟨#[c]⟩
noncomputable def iTx(a:Ev):En->Option (List D):=fun E=>(a E).bind fun s=>(str? s).map fun z=>z.cps.toList.map sgE
section
variable{K:Qw}{C:Qd}{te:TE}{ea:Ev}{tl th:TO}{el eh:Option Ev}{m:Bool}
theorem Jsn:OpS K C (fun x y H Q=>∃i j,x=.str i/\y=.str j/\Q (.bl (!(GJ j i 0 j.length 1).isEmpty)) H) Jkp:=by
 intro Hs H0 H x y a b c Q i hs ra rb e q;unfold Jkp at e;split at e
 ·cases e;exact⟨_,_,RD.strI ra,RD.strI rb,q _ _ _ (.refl i) (RD.bl _)⟩
 ·cases e
theorem JfL(ha:SE K C te ea)(hl:SP' K C tl (Wo el))(hh:SP' K C th (Wo eh)):SE K C (tSl JsF te tl th) (JeX ea el eh):=by
 intro B H0 H σ E c Q I e q;obtain⟨s,e1,e⟩:=bind_some e;obtain⟨l,e2,e⟩:=bind_some e;obtain⟨h,e3,e⟩:=bind_some e;obtain⟨z,e4,e⟩:=bind_some e;split at e
 ·next hz =>
  cases e;have e5:=Jcb e4;subst e5;refine ha B H0 H σ E _ _ I e1 fun x H1 H1' s1 r1=>hl B H1 H1' σ E l _ (I.step s1) e2 fun H2 H2' s2=>hh B H2 H2' σ E h _ (I.step (s1.trans s2)) e3 fun H3 H3' s3=>?_
  exact⟨z,RD.strI r1,hz,q _ _ _ ((s1.trans s2).trans s3) (RD.str _)⟩
 ·cases e
theorem ZK:MtS K C Jio Y2:=by
 intro Hs H0 H z xs as c Q i hs r e q;unfold Y2 at e;split at e
 ·cases e;obtain⟨v,rfl,r0⟩:=r.one;exact⟨z,_,rfl,by rw[RD.strI r0],q _ _ _ (.refl i) (RD.bl _)⟩
 ·cases e
theorem Jgm:V7 K C JoQ Zx:=by
 intro Hs H0 H xs as c Q i hs r e q;unfold Zx at e;split at e
 ·split at e
  ·next hl=>obtain⟨n,e1,rfl⟩:=map_some e;obtain⟨v,rfl,r0⟩:=r.one;exact⟨_,n,by rw[RD.strI r0],e1,hl,q _ _ _ (.refl i) (RD.int _)⟩
  ·cases e
 ·cases e
theorem JsN(ha:SE K C te ea):SI K C m (Jr5 te) (iTx ea):=by
 intro B H0 H σ E ds R I e q;obtain⟨s,e1,e⟩:=bind_some e;obtain⟨z,e2,rfl⟩:=map_some e;have e5:=Jcb e2;subst e5;refine ha B H0 H σ E _ _ I e1 fun x H1 H1' s1 r1=>⟨z,RD.strI r1,q _ _ _ s1 ?_⟩
 intro H0' H' st;refine⟨fun i d e=>?_,by show(z.cps.toList.map sgE).length=z.cps.size;simp⟩;rw[Qt,Array.getElem?_toList] at e
 cases hc:z.cps[i]? with
 | none=>rw[hc] at e;cases e
 | some c=>rw[hc] at e;cases e;refine⟨(K9.mp hc).1,fun x H2 ⟨e1,c',e2,e3⟩=>?_⟩;rw[hc] at e2;cases e2;subst e1 e3;exact⟨H0',.refl st.i,.str _⟩
end
end LE

namespace L2
open PySem PySem.Spec PyProof.Rows PySem.Calls
section
variable{X:Cx}
end
end L2
namespace LE
open PySem L2 LR
section
variable{K:Qw}{C:Qd}{to te:TE}{eo ea:Ev}{Hs H0 H:Hp}{v:V}
end
end LE

namespace L2
open PySem PySem.Spec PyProof.Rows PySem.Calls
section
variable{X:Cx}
theorem Jdd:∀(ys:List Str) (k:Nat),Vals (ys.map V.str) (strsFrom k ys)
 | [],_=>.nil
 | y::ys,k=>.cons ⟨k,rfl⟩ (Jdd ys (k+1))
noncomputable def Jlx:V->List V->Hp->VK->Prop:=fun x vs H Q=>∃z y,x=.str z/\vs=[.str y]/\(y.length == 0)=false/\z.length<=Qq/\(KL z y).length<=Qq/\∀l,H l=none->Q (.ref l) (upd H l (.lst ((KL z y).map V.str)))
theorem Ws:MtM X "str.split" Jlx:=by
 intro pins s σ H x vs v us Q I rx rv h;obtain⟨z,y,rfl,rfl,hy,hz,hn,q⟩:=h;obtain⟨t,rfl⟩:=rx;obtain⟨u,rfl,ru⟩:=rv.one;obtain⟨t',rfl⟩:=ru;have hne:H s.heap.objs.size=none:=I.hok.fresh (Qo _)
 have fin:∀(us:List Qc) (k:Nat),Vals ((KL z y).map V.str) us->EP X pins σ Q (.ref s.heap.objs.size) { s with heap:=s.heap.push { cls:=.type "list",data:=.seq us.toArray },toks:=k }:=fun us k r=>⟨.ref s.heap.objs.size,_,I.laid (t':=k) (fun b o x=>Qf _ x) (Qo _) (show ObjOk X.prog X.w _ _ _ (.lst ((KL z y).map V.str)) from⟨by simp_all,us,0,r,Qj _ rfl⟩),rfl,q _ hne⟩
 cases h1:(decide (z.length<y.length) || decide (Kb z<Kb y)) with
 | true=>have e:KL z y=[z]:=if_pos h1;refine call_meets MQ (typeIs_str _ _ _) Mv (Mi _ _) (meets_str_split_cannot_occur z y t t' h1) ?_;exact fin [.str z t] s.toks (by rw[e];exact .cons ⟨t,rfl⟩ .nil)
 | false =>
  cases hf:(GJ z y 0 z.length (z.length+1)).isEmpty with
  | true=>have e:KL z y=[z]:=(if_neg (ne_true_of_eq_false h1)).trans (if_pos hf);refine call_meets MQ (typeIs_str _ _ _) Mv (Mi _ _) (meets_str_split_not_found z y t t' h1 hy hf) ?_;exact fin [.str z t] s.toks (by rw[e];exact .cons ⟨t,rfl⟩ .nil)
  | false=>have e:KL z y=MG z (GJ z y 0 z.length (z.length+1)) y.length:=(if_neg (ne_true_of_eq_false h1)).trans (if_neg (ne_true_of_eq_false hf));refine call_meets MQ (typeIs_str _ _ _) Mv (Mi _ _) (meets_str_split_sep z y t t' h1 hy hf hz (by rw[<- e];exact hn)) ?_;exact fin _ _ (by rw[e];exact Jdd _ _)
noncomputable def JoP:V->List V->Hp->VK->Prop:=fun x vs H Q=>∃z y,x=.str z/\vs=[.str y]/\Q (.int (RQ z y)) H
theorem Jic:MtM X "str.find" JoP:=by intro pins s σ H x vs v us Q I rx rv h;obtain⟨z,y,rfl,rfl,q⟩:=h;obtain⟨t,rfl⟩:=rx;obtain⟨u,rfl,ru⟩:=rv.one;obtain⟨t',rfl⟩:=ru;exact SC.find ⟨.int _,H,I.tok _,⟨_,rfl⟩,q⟩
end
noncomputable def Jqk:V->Bool
 | .non=>true
 | _=>false
noncomputable def Jk8:Qc->Bool
 | .none=>true
 | _=>false
noncomputable def Jsw(K:Qw):R2:=fun x y H Q=>∃p xs,x=.non/\y=.ref p/\SqL K H p xs/\(∀v∈xs,v=.non\/(∃i,v=.int i)\/∃a ys,v=.ref a/\SqT K H a ys)/\Q (.bl (xs.any Jqk)) H
theorem Jmo{xs:List V}{us:List Qc}(r:Vals xs us)(h:∀v∈xs,v=.non\/(∃i,v=.int i)\/∃a,v=.ref a):us.any Jk8=xs.any Jqk:=by
 induction r with
 | nil=>rfl
 | cons r0 rs ih =>
  rw[GU,GU,ih fun v hv=>h v (Qh _ hv)];rcases h _ Qg with e|⟨i,e⟩|⟨a,e⟩ <;> subst e
  ·cases r0;rfl
  ·obtain⟨t,rfl⟩:=r0;rfl
  ·cases r0;rfl
theorem JpA{X:Cx}{A:QI}{pins:List (Qd×Obj)}{s:Qe}{σ:St}{H:Hp}(hu:A.units<cLine)(I:Inv X pins σ H s){xs:List V}{us:List Qc}(r:Vals xs us)(h:∀v∈xs,v=.non\/(∃i,v=.int i)\/∃a ys,v=.ref a/\SqT X.K H a ys):∀u∈us,SeqAt.EqAt A s u .none (Jk8 u):=by
 induction r with
 | nil=>intro u hu;cases hu
 | cons r0 rs ih =>
  intro u hu';rcases Qp.mp hu' with e|e
  ·subst e;rcases h _ Qg with e|⟨i,e⟩|⟨a,ys,e,q⟩ <;> subst e
   ·cases r0;exact Jpz (x:=.non) (y:=.non) rfl rfl rfl rfl
   ·obtain⟨t,rfl⟩:=r0;exact Rw i t
   ·cases r0;obtain⟨its,_,pl,_⟩:=I.tuple q;exact SeqAt.EqAt.tuple_none pl hu
  ·exact ih (fun v hv=>h v (Qh _ hv)) u e
theorem Jqv{X:Cx}{K:Qw}(hK:X.K=K)(hu:X.A.units+64<cLine):OpR X (compareOp .In) (Jsw K):=by subst hK;intro pins s σ H x y v u Q I rx ry h;obtain⟨p,xs,rfl,rfl,hq,hx,q⟩:=h;cases ry;cases rx;obtain⟨its,r,pl,hz⟩:=I.list hq;refine SeqAt.in_listAt Jk8 pl.isList (fun w hw=>JpA (show X.A.units+1<cLine by omega) I r hx w (by simpa using hw)) ⟨.bl _,H,I,rfl,?_⟩;rw[show its.toArray.any Jk8=its.any Jk8 by simp,Jmo r fun v hv=>(hx v hv).imp id (Or.imp id fun⟨a,_,e,_⟩=>⟨a,e⟩)];exact q
end L2
namespace LE
open PySem L2 LR
noncomputable def UV(z:Str):List Sl->Option Sl
 | [.sh (.str y)]=>if (y.length == 0)=false/\z.length<=16777216/\(KL z y).length<=16777216 then some (.own ((KL z y).map .str)) else none
 | _=>none
noncomputable def WY(z:Str):List Sl->Option Sl
 | [.sh (.str y)]=>some (.sh (.int (RQ z y)))
 | _=>none
noncomputable def okN:D->Bool
 | .non=>true
 | .int _=>true
 | .tup _=>true
 | _=>false
noncomputable def JmL(x y:Sl):Option Sl:=match x with
 | .sh .non=>y.r.bind fun ds=>if ds.all okN=true then some (.sh (.bl (ds.any D.isNon))) else none
 | _=>none
section
variable{K:Qw}{C:Qd}
theorem Jsm:OpS K C (Jsw K) JmL:=by
 intro Hs H0 H x y a b c Q i hs ra rb e q;unfold JmL at e;split at e
 ·obtain⟨ds,e1,e⟩:=bind_some e;split at e
  ·next hok =>
   cases e;obtain⟨l,xs,rfl,h,r⟩:=rb.r i e1
   have item:∀(j:Nat) (v:V),xs[j]?=some v->∃d,ds[j]?=some d/\RD K C H0 v d/\okN d=true:=fun j v hv=>by obtain⟨d,h1,h2⟩:=r.get' hv;exact⟨d,h1,h2,GH.mp hok d (QG h1)⟩
   have an:∀{xs:List V} {ds:List D},RDL K C H0 xs ds->ds.all okN=true->xs.any Jqk=ds.any D.isNon:=by
    intro xs
    induction xs with
    | nil=>intro ds r _;cases ds with
     | nil=>rfl
     | cons d ds=>have:=r.1;cases this
    | cons v xs ih=>intro ds r hk;cases ds with
     | nil=>have:=r.1;cases this
     | cons d ds =>
      rw[RA,Q9] at hk;rw[GU,GU,ih r.tail hk.2];congr 1;have r0:=r.head
      cases d with
      | non=>rw[RD.nonI r0];rfl
      | int i=>rw[RD.intI r0];rfl
      | tup l=>obtain⟨a,ys,rfl,_,_⟩:=RD.tupI r0;rfl
      | _=>cases hk.1
   refine⟨l,xs,RD.nonI ra,rfl,h,fun v hv=>?_,?_⟩
   ·obtain⟨j,hj⟩:=GZ.mp hv;obtain⟨d,_,h2,h3⟩:=item j v hj
    cases d with
    | non=>exact .inl (RD.nonI h2)
    | int i=>exact .inr (.inl ⟨i,RD.intI h2⟩)
    | tup l=>obtain⟨a,ys,rfl,hq,_⟩:=RD.tupI (h2.mono i);exact .inr (.inr ⟨a,ys,rfl,hq⟩)
    | _=>cases h3
   ·rw[an r hok];exact q _ _ _ (.refl i) (RD.bl _)
  ·cases e
 ·cases e
theorem JlF{H:Hp}(ns:List Str):RDL K C H (ns.map V.str) (ns.map D.str):=by refine⟨by simp,fun i x d h1 h2=>?_⟩;rw[Qt] at h1 h2;obtain⟨n,e,rfl⟩:=Q5.mp h1;rw[e] at h2;cases h2;exact .str n
theorem ZJ:MtS K C Jlx UV:=by
 intro Hs H0 H z xs as c Q i hs r e q;unfold UV at e;split at e
 ·split at e
  ·next hn=>cases e;obtain⟨v,rfl,r0⟩:=r.one;exact⟨z,_,rfl,by rw[RD.strI r0],hn.1,hn.2.1,hn.2.2,fun p hp=>UX i hs hp (JlF _) q⟩
  ·cases e
 ·cases e
theorem JkW:MtS K C JoP WY:=by
 intro Hs H0 H z xs as c Q i hs r e q;unfold WY at e;split at e
 ·cases e;obtain⟨v,rfl,r0⟩:=r.one;exact⟨z,_,rfl,by rw[RD.strI r0],q _ _ _ (.refl i) (RD.int _)⟩
 ·cases e
end
end LE

namespace PySem
open AutoSeq1 (wpAny_loadPart')
section
variable{prog:Qu}{w:QJ}{A:QI}{E:Qc->Qe->Prop}{s:Qe}
theorem JaQ{T newId initId:String}{Bn Bi:Builtin}{args:List Qc}{kw:List (Str×Qc)}{S:Spec}{Q Q₁:Qc->Qe->Prop}(ft:TypeCalled T newId initId)
 (hct:checkTypeCall T ⟨args,kw⟩=pure ()) (hcn:checkBuiltinCall newId ⟨.type T::args,kw⟩=pure ())
 (entryN:entryFor table newId=some Bn) (entryI:entryFor table initId=some Bi) (g:Meets (Bn ⟨.type T::args,kw⟩) S)
 (h:S A.in1 (wants Q₁ E) s)
 (hnext:∀obj s₁,Q₁ obj s₁->s₁.TypeIs obj T/\argsOk initId ⟨obj::args,kw⟩/\∃Si,Meets (Bi ⟨obj::args,kw⟩) Si/\Si A.in1 (wants (fun r s₂=>r=.none/\Q obj s₂) E) s₁) :
 wpAny (model prog w) A (call (.type T) args kw) Q E s:=by
 obtain⟨c,tl,hmro⟩:=ft.mro;have hmade:=ft.made;have hsub:=ft.sub;refine wpAny_call (codeAny_of_tree ?_);show wpAny _ _ (callAny (.type T) _) _ _ _;refine Qk ⟨Code.quiet_builtin _ (by decide +kernel),Ll F.entry_type_call ?_⟩;rw[Around.under_plain (weight_type_call_type T args kw) (units_type_call_type T args kw)];have h1:=ft.notType;have h2:=ft.canCreate
 repeat (any_goals (first|assumption|wp_step))
 refine Ls (codeAny_call_builtin ft.plain entryN (Kt hcn (g prog w A.in1 _ s h))) fun r s₁ hr=>?_
 cases r with
 | error e=>exact hr
 | ok fl =>
  cases fl with
  | ret obj =>
   obtain⟨hT,hok,Si,gi,hsi⟩:=hnext _ _ hr;have hli:=ft.init.lookup;have hbi:=ft.init.bind obj
   repeat (any_goals (first|assumption|wp_step))
   refine Ls (codeAny_call_builtin ft.init.plain entryI (ft.init.check _ _ _ _ _ _ _ _ hT hok (gi prog w A.in1 _ s₁ hsi))) fun r₂ s₂ hr₂=>?_
   cases r₂ with
   | error e=>exact hr₂
   | ok fl₂ =>
    cases fl₂ with
    | ret r =>
     obtain⟨rfl,hq⟩:=hr₂
     repeat (any_goals (first|assumption|wp_step))
    | _=>exact hr₂.elim
  | _=>exact hr.elim
theorem W4{T newId:String}{self a:Qc}{rest:List Qc}{kw:List (Str×Qc)}(hl:typeLookup (.type T) "__init__"=pure (some (.builtin "object.__init__")))
 (hm:Bind.madeBy (.type T)=pure (some newId)) (hne:(some newId != some "object.__new__")=true) :
 Meets (Builtin.«object.__init__» ⟨self::a::rest,kw⟩) (fun _ R s=>s.TypeIs self T/\R (.ok (.ret .none)) s):=by
 refine Meets.of_wp fun prog w A R s hs=>?_
 obtain⟨hT,hq⟩:=hs
 repeat (any_goals (first|assumption|wp_step))
 exact⟨_,rfl,hq⟩
end
theorem JeC(a b:Qc):checkTypeCall "enumerate" ⟨[a],[("start",b)]⟩=pure ():=by kernel_rfl
theorem Jfr(a b:Qc):checkBuiltinCall "enumerate.__new__" ⟨[.type "enumerate",a],[("start",b)]⟩=pure ():=by kernel_rfl
theorem JdR(o a b:Qc):argsOk "object.__init__" ⟨[o,a],[("start",b)]⟩:=by unfold argsOk;rw[signature?_of (id:="object.__init__") (n:=['_','_','t','i','n','i','_','_']) (o:=['t','c','e','j','b','o']) (by kernel_rfl) F.owner_object];kernel_rfl
abbrev Jpv(it:Qd):Obj:={ cls:=.type "enumerate",data:=.fields #[.none,.bool false,.ref it,rawInt 1,.none,.none] }
section
variable{prog:Qu}{w:QJ}{A:QI}{E:Qc->Qe->Prop}{s:Qe}
theorem Jcm{T newId:String}{Bn:Builtin}{a:Qc}{args:List Qc}{kw:List (Str×Qc)}{S:Spec}{Q:Qc->Qe->Prop}(ft:TypeCalled T newId "object.__init__")
 (hne:(some newId != some "object.__new__")=true) (hct:checkTypeCall T ⟨a::args,kw⟩=pure ()) (hcn:checkBuiltinCall newId ⟨.type T::a::args,kw⟩=pure ())
 (hok:∀obj,argsOk "object.__init__" ⟨obj::a::args,kw⟩) (entryN:entryFor table newId=some Bn) (g:Meets (Bn ⟨.type T::a::args,kw⟩) S)
 (h:S A.in1 (wants (fun obj s₁=>s₁.TypeIs obj T/\Q obj s₁) E) s):wpAny (model prog w) A (call (.type T) (a::args) kw) Q E s :=
 JaQ ft hct hcn entryN F.entry_object_init g h fun obj _ hq=>⟨hq.1,hok obj,_,W4 ft.init.lookup ft.made hne,hq.1,rfl,hq.2⟩
end
theorem JgM(b:Bool)(a:Qd)(xs:Array Qc)(t:Tok):Meets (Builtin.«enumerate.__new__» ⟨[.type "enumerate",.ref a],[("start",.int 1 t)]⟩) (fun _ R s=>IsSq b s.heap a xs ∧
 R (.ok (.ret (.ref (s.heap.push (itO b a)).objs.size))) { s with heap:=(s.heap.push (itO b a)).push (Jpv s.heap.objs.size) }) :=
 .of_wp fun prog w A R s h=>by
  obtain⟨hp,g,d,tk,os⟩:=s;obtain⟨q,h⟩:=h;have hsub:=sub_enumerate;have r:IsSq b (Ro ⟨hp,g,d,tk,os⟩) a xs:=q
  obtain⟨o,hl⟩:∃o,hp.get? a=some o:=by
   cases b with
   | true=>obtain⟨o,e,_⟩:=q;exact⟨o,e⟩
   | false=>obtain⟨o,e,_⟩:=q;exact⟨o,e⟩
  wp_walk using GR hl
  refine wpAny_stack_any fun st=>Qk ?_
  split
  ·rename_i c _ _ _ _ _;cases (c == Value.type "enumerate")
   ·wp_walk using GR hl,Ug r
    exact⟨_,rfl,h⟩
   ·wp_walk using GR hl,Ug r
    exact⟨_,rfl,h⟩
  ·wp_walk using GR hl,Ug r
   exact⟨_,rfl,h⟩
section
variable{prog:Qu}{w:QJ}{A:QI}{E:Qc->Qe->Prop}{s:Qe}{b:Bool}{a e it:Qd}{xs:Array Qc}
theorem JiZ{t:Tok}{Q:Qc->Qe->Prop}(q:IsSq b s.heap a xs)
 (h:∀h',IsEnum h' (s.heap.objs.size+1) s.heap.objs.size 1 .none->IsItr b h' s.heap.objs.size a 0->(∀c o,s.heap.get? c=some o->h'.get? c=some o)->Q (.ref (s.heap.objs.size+1)) { s with heap:=h' }) :
 wpAny (model prog w) A (call (.type "enumerate") [.ref a] [("start",.int 1 t)]) Q E s:=by
 refine Jcm F.called_enumerate (by decide) (JeC _ _) (Jfr _ _) (fun obj=>JdR obj _ _) F.entry_enumerate_new (JgM b a xs t) ⟨q,?_⟩;have hz:(s.heap.push (itO b a)).objs.size=s.heap.objs.size+1:=GD ..;have fi:(itO b a).isFreed=false:=by cases b <;> rfl
 have g2:((s.heap.push (itO b a)).push (Jpv s.heap.objs.size)).get? (s.heap.push (itO b a)).objs.size=some _:=Qj _ rfl
 have g1:((s.heap.push (itO b a)).push (Jpv s.heap.objs.size)).get? s.heap.objs.size=some _:=Qf _ (Qj _ fi)
 show _/\_;rw[hz] at g2;rw[hz];exact⟨⟨_,g2,rfl⟩,h _ g2 (.new g1) fun c o x=>Qf _ (Qf _ x)⟩
theorem Jkm{p:List Qd}{n i:Nat}{j:Int}{P:Nat->Qc->Prop}{S:Nat->Q0->Prop}{old:Qc}{Q:Qc->Qe->Prop}(D:Draws prog w A it p n P S)(he:IsEnum s.heap e it j old)(st:S i s.heap)(hi:i<n)(hne:e∉p)(him:it∈p)
 (hQ:∀x h' tk t,P i x->IsEnumOut h' e it (j+1) x s.heap.objs.size->S (i+1) h'->h'.get? s.heap.objs.size=some { cls:=.type "tuple",data:=.seq #[.int j t,x] }->h'.objs.size=s.heap.objs.size+1 ->
  (∀c o,c≠e->c≠it->s.heap.get? c=some o->h'.get? c=some o)->Q (.ref s.heap.objs.size) { s with heap:=h',toks:=tk }) :
 wpAny (model prog w) A (Builtin.«enumerate.__next__» ⟨[.ref e],[]⟩) (fun fin s'=>∃v,fin=.done (.ret v)/\Q v s') E s:=by
 obtain⟨hp,g,d,tk,os⟩:=s;have ne:e≠it:=fun q=>hne (q▸him)
 show wpAny _ _ (field (.ref e) 2 >>= _) _ _ _;refine Qa (QO he rfl (x:=.ref it) rfl (Qa (D.item i _ _ _ hi st fun x k1 t1 px s1 e1=>?_)))
 replace e1:Qy it hp k1:=e1;have E1:IsEnum k1 e it j old:=(e1.2 e ne).trans he;refine Qa (QO (s:=⟨k1,g,d,t1,os⟩) E1 rfl (x:=rawInt j) rfl ?_);show wpAny _ _ (field (.ref e) 4 >>= _) _ _ ⟨k1,g,d,t1,os⟩;refine Qa (QO (s:=⟨k1,g,d,t1,os⟩) E1 rfl (x:=.none) rfl ?_);show wpAny _ _ (mkInt j >>= _) _ _ ⟨k1,g,d,t1,os⟩;refine Qa (wpAny_mkInt ?_);show wpAny _ _ (setField (.ref e) 3 (rawInt (j+1)) >>= _) _ _ ⟨k1,g,d,t1+1,os⟩
 refine Qa (QR E1 (by simp) fun k2 E2 e2=>?_)
 replace e2:Qy e k1 k2:=e2
 replace E2:IsEnum k2 e it (j+1) old:=E2;show wpAny _ _ (setField (.ref e) 4 .none >>= _) _ _ ⟨k2,g,d,t1+1,os⟩;refine Qa (QR E2 (by simp) fun k3 E3 e3=>?_)
 replace e3:Qy e k2 k3:=e3
 replace E3:IsEnum k3 e it (j+1) old:=E3;show wpAny _ _ (newTuple [.int j t1,x] >>= _) _ _ ⟨k3,g,d,t1+1,os⟩;refine Qa (Mf ?_);have hsz:k3.objs.size=hp.objs.size:=by rw[e3.1,e2.1,e1.1]
 have elt:e<hp.objs.size:=Qm he
 have E4:IsEnum (k3.push { cls:=.type "tuple",data:=.seq #[.int j t1,x] }) e it (j+1) old:=Qf _ E3
 have T4:(k3.push { cls:=.type "tuple",data:=.seq #[.int j t1,x] }).get? hp.objs.size=some { cls:=.type "tuple",data:=.seq #[.int j t1,x] }:=by rw[<- hsz];exact Qj _ rfl
 have z4:(k3.push { cls:=.type "tuple",data:=.seq #[.int j t1,x] }).objs.size=hp.objs.size+1:=by rw[GD,hsz]
 have kp:∀c o,c≠e->k1.get? c=some o->(k3.push { cls:=.type "tuple",data:=.seq #[.int j t1,x] }).get? c=some o:=fun c o c1 q=>Qf _ (e3.extBut c o c1 (e2.extBut c o c1 q))
 show wpAny _ _ (QD (.ref e) >>= _) _ _ ⟨k3.push { cls:=.type "tuple",data:=.seq #[.int j t1,x] },g,d,t1+1,os⟩;rw[hsz]
 generalize k3.push { cls:=.type "tuple",data:=.seq #[.int j t1,x] }=k4 at E4 T4 z4 kp ⊢
 refine Qa ?_;unfold QD;refine Qa (QO (s:=⟨k4,g,d,t1+1,os⟩) E4 rfl (x:=.none) rfl (Qk ?_));simp only[if_true];refine Qa (K5 (Qa (QO (s:=⟨k4,g,d,t1+1,os⟩) E4 rfl (x:=old) rfl (Qa (QR E4 (by simp) fun k5 E5 e5=>?_)))))
 replace e5:Qy e k4 k5:=e5
 replace E5:IsEnum k5 e it (j+1) x:=E5;show wpAny _ _ (Gi (.ref e) (.ref hp.objs.size) >>= _) _ _ ⟨k5,g,d,t1+1,os⟩;refine Qa ?_;unfold Gi;refine Qa (QR E5 (by simp) fun k6 E6 e6=>?_)
 replace e6:Qy e k5 k6:=e6
 replace E6:IsEnumOut k6 e it (j+1) x hp.objs.size:=E6;refine QR E6 (by simp) fun k7 E7 e7=>?_
 replace e7:Qy e k6 k7:=e7
 replace E7:IsEnumOut k7 e it (j+1) x hp.objs.size:=E7;have up:∀c o,c≠e->k4.get? c=some o->k7.get? c=some o:=fun c o c1 q=>e7.extBut c o c1 (e6.extBut c o c1 (e5.extBut c o c1 q))
 refine Qa (Ku (Qk ⟨_,rfl,hQ x k7 (t1+1) t1 px E7 ?_ (up _ _ (Gc elt) T4) (by rw[e7.1,e6.1,e5.1,z4]) fun c o c1 c2 q=>up c o c1 (kp c o c1 (e1.extBut c o c2 q))⟩));exact D.frame _ _ _ s1 fun c hc o q=>up c o (fun z=>hne (z▸hc)) (kp c o (fun z=>hne (z▸hc)) q)
theorem Jmy{p:List Qd}{n:Nat}{j:Int}{P:Nat->Qc->Prop}{S:Nat->Q0->Prop}{old:Qc}{Q:Fin->Qe->Prop}(D:Draws prog w A it p n P S)(he:IsEnum s.heap e it j old)(st:S n s.heap)
 (hE:∀h' x tk,Lq it s.heap h'->(∃o,h'.get? x=some o/\o.cls=.type "StopIteration")->E (.ref x) { s with heap:=h',toks:=tk }) :
 wpAny (model prog w) A (Builtin.«enumerate.__next__» ⟨[.ref e],[]⟩) Q E s:=by
 show wpAny _ _ (field (.ref e) 2 >>= _) _ _ _;refine Qa (QO he rfl (x:=.ref it) rfl (Qa (D.done _ _ _ st fun k1 x e1 hx=>?_)));exact hE k1 x s.toks e1 hx
end
end PySem
namespace L2
open PySem PySem.Spec PyProof.Rows
noncomputable def Jpc(K:Qw)(b:Bool)(a:Qd):It :=
 ⟨fun i H=>∃xs x,Sq b K H a xs/\xs[i]?=some x,
  fun i H x H'=>∃p v,x=.ref p/\H p=none/\H'=upd H p (.tup [.int ((i:Int)+1),v])/\∀xs,Sq b K H a xs->xs[i]?=some v,
  fun i H=>∃xs,Sq b K H a xs/\i=xs.length⟩
theorem Jl9{P:Qu}{w:QJ}{K:Qw}{elts:List Q4}{kk:Nat}{pos:Pos}(b:Bool)(a e it:Qd)(ne:e≠it) :
 Turn P w K (.Tuple elts kk pos) (Jpc K b a) [e,it] e (fun i h=>(∃old,IsEnum h e it ((i:Int)+1) old)/\IsItr b h it a i) where
 mem:=by simp
 obj:=fun i h st c hc=>by
  obtain⟨⟨old,s1⟩,s2⟩:=st;simp only[Qp,Gd,or_false] at hc;rcases hc with rfl|rfl
  ·simp_all
  ·exact IsItr.obj (b:=b) s2
 keep:=fun i h h' st k=>by obtain⟨⟨old,s1⟩,s2⟩:=st;exact⟨⟨old,k e (by simp) _ s1⟩,IsItr.keep (b:=b) s2 fun o q=>k it (by simp) o q⟩
 item:=by
  intro X hP hw hK hc i pins s σ H E I hf st hg;subst hP hw hK;obtain⟨xs,x,q1,e1⟩:=hg;obtain⟨its,r1,p1⟩:=q1.heap I;obtain⟨⟨old,s1⟩,s2⟩:=st;have hh:X.A.in1.handled=none:=I.ok.hd hc;have ne1:a≠it:=FpOk.off I q1 (hf it (by simp));have ne2:a≠e:=FpOk.off I q1 (hf e (by simp));have D1:=Draws.sq (prog:=X.prog) (w:=X.w) (b:=b) (xs:=its.toArray) hh it ne1;have hT:s.TypeIs (.ref e) "enumerate":=⟨_,s1,rfl⟩
  have l1:i<its.toArray.size:=by have:=(Qn.mp e1).1;rw[QW,<- r1.length];exact this
  unfold pyNext;refine Qa (GK (QP (name:=Qx "__next__") hT GI (Q8 GI hT KP
   (Jkm D1 s1 ⟨s2,p1⟩ l1 (by simp[ne,QY ne2]) (by simp) fun u k tk t pu t1 t2 t3 t4 t5=>Qk ?_) (KF _))))
  refine⟨_,rfl,Mg (s:={ s with heap:=k,toks:=tk }) t1 fun k2 t9 e9=>?_⟩
  replace e9:Qy e k k2:=e9;obtain⟨ux,hx1,rx⟩:=r1.get e1
  have eu:u=ux:=by simp_all
  subst eu
  have elt:∀c∈[e,it],c<s.heap.objs.size:=fun c hc=>by
   simp only[Qp,Gd,or_false] at hc;rcases hc with rfl|rfl
   ·exact Qm s1
   ·obtain⟨_,q,_⟩:=IsItr.obj (b:=b) s2;exact Qm q
  have ri:RelV (.int ((i:Int)+1)) (.int ((i:Int)+1) t):=⟨t,rfl⟩
  have I1:Inv X pins σ (upd H s.heap.objs.size (.tup [.int ((i:Int)+1),x])) { s with heap:=s.heap.push { cls:=.type "tuple",data:=.seq #[.int ((i:Int)+1) t,u] },toks:=s.toks } :=
   I.laid (o:=.tup [.int ((i:Int)+1),x]) (fun c ob q=>Qf _ q) (Qo _) ⟨by show 2<=Qq;decide,[.int ((i:Int)+1) t,u],.cons ri (.cons rx .nil),⟨_,Qj _ rfl,rfl,_,rfl⟩⟩
  have hf1:∀c∈[e,it],FpOk X pins (upd H s.heap.objs.size (.tup [.int ((i:Int)+1),x])) c:=fun c hc=>⟨by rw[Jl (QQ (elt c hc))];exact(hf c hc).1,(hf c hc).2⟩
  have I2:Inv X pins σ (upd H s.heap.objs.size (.tup [.int ((i:Int)+1),x])) { s with heap:=k2,toks:=tk }:=Inv.turnedL (s:={ s with heap:=s.heap.push { cls:=.type "tuple",data:=.seq #[.int ((i:Int)+1) t,u] },toks:=s.toks }) I1 (fun c o hc q=>by
   simp only[Qp,Gd,or_false,not_or] at hc;refine e9.extBut c o hc.1 ?_
   by_cases hcs:c=s.heap.objs.size
   ·subst hcs;have q':(s.heap.push { cls:=.type "tuple",data:=.seq #[.int ((i:Int)+1) t,u] }).get? s.heap.objs.size=some o:=q;rw[Qj _ rfl] at q';cases q';exact t3
   ·have q':s.heap.get? c=some o:=by have q2:(s.heap.push { cls:=.type "tuple",data:=.seq #[.int ((i:Int)+1) t,u] }).get? c=some o:=q;exact(Lw s.heap c _ hcs).symm.trans q2
    exact t5 c o hc.1 hc.2 q') hf1
  refine⟨.ref s.heap.objs.size,_,I2,rfl,⟨_,x,rfl,I.hok.fresh (Qo _),rfl,fun xs' h1=>?_⟩,⟨⟨u,?_⟩,?_⟩,fun c hc=>(hf1 c hc).1⟩
  ·rw[Sq.inj I h1 q1];exact e1
  ·grind
  ·exact IsItr.keep (b:=b) t2.1 fun o q=>e9.extBut _ _ (QY ne) q
 done:=by
  intro X hP hw hK hc i pins s σ H E I hf st hg;subst hP hw hK;obtain⟨xs,q1,ei⟩:=hg;obtain⟨its,r1,p1⟩:=q1.heap I;obtain⟨⟨old,s1⟩,s2⟩:=st;have hh:X.A.in1.handled=none:=I.ok.hd hc;have D1:=Draws.sq (prog:=X.prog) (w:=X.w) (b:=b) (xs:=its.toArray) hh it (FpOk.off I q1 (hf it (by simp)));have hT:s.TypeIs (.ref e) "enumerate":=⟨_,s1,rfl⟩
  have n1:i=its.toArray.size:=by rw[QW,<- r1.length];exact ei
  subst n1;unfold pyNext;refine Qa (GK (QP (name:=Qx "__next__") hT GI (Q8 GI hT KP (Jmy D1 s1 ⟨s2,p1⟩ fun k x tk kk he=>?_) (KF _))));obtain⟨o,ho,hoc⟩:=he;refine Qa (Kh (T:="StopIteration") (b:=true) ⟨o,ho,hoc⟩ K6 (Qk ⟨rfl,?_⟩));exact I.turnedL (fun c o hc q=>by simp only[Qp,Gd,or_false,not_or] at hc;exact kk c o hc.2 q) hf
 self:=fun _ _ _ _ _ st h=>by obtain⟨⟨old,s1⟩,_⟩:=st;exact Lx s1 h
noncomputable def Jr2(K:Qw)(ta:TA):TI:=fun σ H R=>ta σ H fun vs H1=>∃(b:Bool) (a:Qd) (xs:List V),vs=[.ref a]/\Sq b K H1 a xs/\R (Jpc K b a) H1
theorem Jdo{M:Model}{A:QI}{E:Qc->Qe->Prop}{s:Qe}{env:Env}{pos:Pos}{T:String}{e:Q4}{rest:List Q4}{kws:List MV}{Q:Qc->Qe->Prop}
 (h:wpAny M A (spliced (backTo pos (starEach (e::rest) env))) (fun vs s₁=>wpAny M A (evalAll ((backToKw pos (keywordEach kws env)).map (·.2)))
  (fun kvs s₂=>wpAny M A (call (.type T) vs (((backToKw pos (keywordEach kws env)).filterMap (·.1)).zip kvs)) Q E s₂) E s₁) E s)
 (he:backTo pos (starEach (e::rest) env)=(false,eval e env)::backTo pos (starEach rest env):=by rfl)
 (hplain:(backTo pos (starEach (e::rest) env)).any (·.1)=false:=by rfl)
 (hall:(backToKw pos (keywordEach kws env)).all (·.1.isSome)=true:=by rfl)
 (hkw:(backToKw pos (keywordEach kws env)).any (·.1.isNone)=false:=by rfl) :
 wpAny M A (callWith pos (.type T) [] (backTo pos (starEach (e::rest) env)) (backToKw pos (keywordEach kws env))) Q E s:=by
 have h2:wpAny M A (evalArgs (.type T) true (backTo pos (starEach (e::rest) env)) (backToKw pos (keywordEach kws env))) (fun a s₁=>wpAny M A (call (.type T) ([]++a.pos) a.kw) Q E s₁) E s:=by rw[he] at h ⊢;exact evalArgs_kwB hall h
 unfold callWith;refine Qa (GQ (K4 h2 (fun a s₁ h₁=>Qa (wpAny_standAt ?_)) fun _ _ x=>x));simp only[hplain,hkw,LM];refine Qa (Qk ?_);exact Qa (K4 h₁ (fun r s₂ hr=>Qa (GQ (wpAny_point (Qk hr)))) fun _ _ x=>x)
theorem JjA{X:Cx}{K:Qw}{elts:List Q4}{kk:Nat}{tpos:Pos}{a ek:Q4}{ta:TA}{p pos kpos:Pos}(hK:X.K=K)(hg:Gl X "enumerate")(hm:X.mg "enumerate"=none)(ha:PA X [a] ta)(hk:PE X ek (tC (.int 1)))
 (he:backTo pos (starEach [a] X.env)=(false,eval a X.env)::backTo pos (starEach [] X.env):=by rfl) (hpl:(backTo pos (starEach [a] X.env)).any (·.1)=false:=by rfl)
:PI X (.Tuple elts kk tpos) (.Call (.Name "enumerate" p) [a] [⟨some "start",ek,kpos⟩] pos) (Jr2 K ta):=by
 subst hK;intro pins s σ H R I h;refine Kl (Vb I hg hm Zo ?_);refine Jdo (thn (ha pos pins s σ H _ I h) fun us s1 ⟨vs,H1,I1,r1,q1⟩=>?_) he hpl rfl rfl;refine kws_cons (thn (hk pins s1 σ H1 (fun v H2=>v=.int 1/\∃(b:Bool) (a:Qd) (xs:List V),vs=[.ref a]/\Sq b X.K H2 a xs/\R (Jpc X.K b a) H2) I1 ⟨rfl,q1⟩) fun w s2 ⟨v,H2,I2,rz,e2,q2⟩=>kws_nil ?_);subst e2;obtain⟨t,rfl⟩:=rz;obtain⟨b,a,xs,e,c1,q⟩:=q2;subst e
 cases r1 with
 | cons r rr =>
 cases rr;cases r;obtain⟨its,w1,p1⟩:=c1.heap I2;refine JiZ p1 fun h' t1 t2 kp=>Lx t1 ?_
 refine⟨_,[s2.heap.objs.size+1,s2.heap.objs.size],_,_,H2,rfl,I2.kept (t':=s2.toks) kp,Jl9 b a _ _ (by simp),⟨⟨_,t1⟩,t2⟩,fun c hc=>?_,q⟩
 have hle:s2.heap.objs.size<=c:=by simp only[Qp,Gd,or_false] at hc;rcases hc with rfl|rfl <;> first|exact Qo _|exact LL _ _
 exact I2.fpOk hle (I2.hok.fresh hle)
end L2
namespace LE
open PySem L2 LR
noncomputable def JdB(ds:List D):List D:=ds.mapIdx fun i d=>.tup [.int ((i:Int)+1),d]
noncomputable def JgB(m:Bool)(as:En->Option (List Sl)):En->Option (List D):=fun E=>(as E).bind fun ss=>match ss with
 | [s]=>(s.it m).map JdB
 | _=>none
section
variable{K:Qw}{C:Qd}{m:Bool}
theorem JlJ{t:TA}{ev:En->Option (List Sl)}(ha:SA K C t ev):SI K C m (Jr2 K t) (JgB m ev):=by
 intro B H0 H σ E ds R I e q;obtain⟨ss,e1,e⟩:=bind_some e;split at e
 ·next s =>
  obtain⟨ds1,e2,e⟩:=Q5.mp e;subst e;refine ha B H0 H σ E _ _ I e1 fun vs H1 H1' s1 r1=>?_
  obtain⟨v,rfl,ra⟩:=r1.one;have f:=JI (Hs:=H) s1.i;obtain⟨b1,a1,xs,rfl,k1,w1⟩:=JgA ra s1.i e2;have hA:m=true->(if m=true then H1' else B)=H1':=fun h=>if_pos h
  have sA:Same (if m=true then H1' else B) H1':=by
   split
   ·exact Same.refl _
   ·exact I.b.trans s1.h
  have st0:SStep (if m=true then H1' else B) (JT H H1 H1') (JT H H1 H1') H1':=⟨sA,Same.refl _,fun _ _ e=>.inl e,f.i⟩
  refine⟨b1,a1,xs,rfl,k1 _ hA _ _ st0,q _ _ _ (s1.comp f fun _ z=>z) ?_⟩;intro H0' H' st;have q1:=k1 _ hA _ _ st;refine⟨fun i d e=>?_,⟨xs,q1,by unfold JdB;rw[Mh,w1.1]⟩⟩;unfold JdB at e;rw[QH] at e;obtain⟨d1,g1,e⟩:=Q5.mp e;subst e;obtain⟨x,x1,x2⟩:=w1.get g1;refine⟨⟨xs,x,q1,x1⟩,?_⟩;rintro z H2 ⟨p,v',rfl,hp,rfl,hv⟩;have h1:=hv xs q1;rw[x1] at h1;cases h1;have h0:H0' p=none:=Same.free st.i hp
  refine⟨upd H0' p (.tup [.int ((i:Int)+1),x]),⟨.new hp,.new h0,fun a o e=>?_,fun a o e=>?_⟩,?_⟩
  ·by_cases h:a=p
   ·simp_all
   ·rw[Jl h] at e;exact .inl e
  ·by_cases h:a=p
   ·subst h;rw[Jw] at e ⊢;exact e
   ·rw[Jl h] at e ⊢;exact st.i a o e
  ·exact .mkT (.of Jw) (.cons (.int _) (.cons (x2.mono (st.z.trans (.new h0))) .nil))
 ·cases e
end
end LE

namespace L2
open PySem PySem.Spec PyProof.Rows PySem.Calls
section
variable{X:Cx}{K:Qw}{e:Q4}{te:TE}{p2 pos:Pos}
end
end L2
namespace LE
open PySem L2 LR
section
variable{K:Qw}{C:Qd}{te:TE}{ea:Ev}
end
end LE

namespace LE
open PySem L2 LR
section
variable{K:Qw}{C:Qd}
end
end LE

namespace L2
open PySem PySem.Spec PyProof.Rows
section
variable{X:Cx}{tg iter elt:Q4}{ifs:List Q4}{sc:L8}{cl:List (Str×Qd)}{y:Str}{N':List Str}{imp:List (Option Nat)}{pos:Pos}{wi:TI}{g:TG}{tt:TT}{te:TE}
end
end L2

namespace L2
open PySem PySem.W PyProof.Rows
structure Pm (p:Array Nat) (N:Nat):Prop where
 size:p.size=N
 low:∀a,a<N->p.getD a 0<N
 inj:∀a b,a<N->b<N->p.getD a 0=p.getD b 0->a=b
noncomputable def Dsc(lt:Nat->Nat->Bool)(p:Array Nat)(m:Nat):Prop:=∀a b,a<b->b<m->lt (p.getD b 0) (p.getD a 0)=true
section
variable{N:Nat}{lt:Nat->Nat->Bool}{cmp:Nat->Nat->(Bool->Qe->Prop)->Qe->Prop}{I:Qe->Prop}
end
end L2

namespace L2
open PySem PySem.W PyProof.Rows
section
variable{prog:Qu}{w:QJ}{A:QI}{E:Qc->Qe->Prop}{s:Qe}
end
end L2

namespace L2
open PySem PySem.W PyProof.Rows
noncomputable abbrev PrI:=Int×Int
section
variable{prog:Qu}{w:QJ}{A:QI}{E:Qc->Qe->Prop}{s:Qe}
end
end L2

namespace L2
open PySem PySem.Spec PySem.W PyProof.Rows
section
variable{prog:Qu}{w:QJ}{A:QI}{E:Qc->Qe->Prop}{s:Qe}
end
section
variable{X:Cx}
end
end L2

namespace L2
open PySem PySem.Spec PySem.W PyProof.Rows
section
variable{prog:Qu}{w:QJ}{A:QI}{E:Qc->Qe->Prop}{s:Qe}{it d v:Qd}{i ep:Nat}{es:Array DictEntry}
end
end L2

namespace L2
open PySem PySem.Spec PySem.W PyProof.Rows
noncomputable abbrev pk(p:PrI):List Key:=LE.dtK p
end L2

namespace L2
open PySem PySem.Spec PySem.W PyProof.Rows
end L2
namespace LE
open PySem L2 LR
section
variable{K:Qw}{C:Qd}{Hs H0 H:Hp}
end
section
variable{K:Qw}{C:Qd}{Hs H0 H:Hp}{td ty te tk1 tk2:TE}{ed ek ea k1 k2:Ev}
end
end LE

namespace LE
open PySem L2 LR
section
variable{K:Qw}{C:Qd}
end
end LE

namespace LE
open PySem L2 LR
section
variable{X:Cx}
end
section
variable{K:Qw}{C:Qd}
end
end LE

namespace L2
open PySem
noncomputable def Ris(xs:Array Nat):Prop:=xs.toList.Pairwise (·<·)
noncomputable def TOk(led:Bool)(t:SetTable):Prop:=(t.plain=true->Ris t.place)/\t.led=led
end L2

namespace L2
open PySem PyProof.Rows
structure SetS (prog:Qu) (w:QJ) (led:Bool) (h:Q0) (a:Qd) (S:Int->Bool) (n:Nat) (o:Obj) (es:Array (Int×Qc)) (ep:Nat) (t:SetTable):Prop where
 got:h.get? a=some o
 ex:o.ExactSet
 data:o.data=.set es ep t
 els:ElemsOf (intKind prog w) es.toList
 mem:∀k,S k=true↔∃e∈es.toList,(intKind prog w).is k e.2=true
 few:es.size<scanBound
 fits:t.fits es.size=true
 size:es.size=n
 tok:TOk led t
section
variable{prog:Qu}{w:QJ}{A:QI}{E:Qc->Qe->Prop}{s:Qe}{led:Bool}{a:Qd}{S:Int->Bool}{n:Nat}
end
section
variable{prog:Qu}{w:QJ}{A:QI}{R:MB->Qe->Prop}{I:Qd}{fp wr:List Qd}{G:Array GenState->Array GenState->Prop}{n:Nat}{P:Nat->Qc->Prop}{St:Nat->Qe->Prop}
end
end L2

namespace L2
open PySem PyProof.Rows
section
variable{prog:Qu}{w:QJ}{A:QI}{E:Qc->Qe->Prop}{s:Qe}
end
end L2

namespace L2
open PySem PyProof.Rows PySem.W
end L2

namespace L2
open PySem PyProof.Rows PySem.W
section
variable{prog:Qu}{w:QJ}{A:QI}{E:Qc->Qe->Prop}{s:Qe}{I d:Qd}{f:Qc}{i n ep:Nat}{es:Array (Int×Qc)}{t:SetTable}{o:Obj}
end
end L2

namespace L2
open PySem PyProof.Rows PySem.W PySem.Spec
section
variable{prog:Qu}{w:QJ}{A:QI}{E:Qc->Qe->Prop}{s:Qe}{d:Qd}{ep:Nat}{es:Array (Int×Qc)}{t:SetTable}
end
section
variable{X:Cx}
end
section
variable{X:Cx}{e:Q4}{te:TE}{p1 p2 q1 q2:Pos}
end
end L2

namespace LE
open PySem L2 LR
section
variable{K:Qw}{C:Qd}{td:TE}{ed:Ev}
end
end LE

namespace L2
open PySem PyProof.Rows PySem.W PySem.Spec
section
variable{X:Cx}
end
end L2
namespace LE
open PySem L2 LR
section
variable{K:Qw}{C:Qd}
end
end LE

namespace L2
open PySem PyProof.Rows PySem.W PySem.Spec
end L2
namespace LE
open PySem L2 LR
section
variable{K:Qw}{C:Qd}
end
end LE

namespace L2
open PySem PyProof.Rows PySem.W PySem.Spec
section
variable{prog:Qu}{w:QJ}{A:QI}{E:Qc->Qe->Prop}{s:Qe}
end
section
variable{prog:Qu}{w:QJ}{A:QI}{R:MB->Qe->Prop}{I:Qd}{fp wr:List Qd}{G:Array GenState->Array GenState->Prop}{n:Nat}{P:Nat->Qc->Prop}{St:Nat->Qe->Prop}
end
section
variable{prog:Qu}{w:QJ}{A:QI}{E:Qc->Qe->Prop}{s:Qe}
end
end L2

namespace L2
open PySem PyProof.Rows PySem.W PySem.Spec
end L2
namespace LE
open PySem L2 LR
section
variable{K:Qw}{C:Qd}{td:TE}{ed:Ev}
end
end LE

namespace LE
open PySem L2 LR
section
variable{K:Qw}{C:Qd}{r:R2}{f:Sl->Sl->Option Sl}{j:Nat}{ty tx tw:TE}{ek ev ew:Ev}{t u:TS}{et eu:Es}
end
end LE

namespace LE
open PySem L2 LR
section
variable{K:Qw}{C:Qd}{Hs H0 H:Hp}{td tx:TE}{ed ex:Ev}
end
end LE

namespace L2
open PySem PySem.Spec PyProof.Rows
end L2
namespace LE
open PySem L2 LR
section
variable{K:Qw}{C:Qd}{te:TE}{ea:Ev}
end
end LE

namespace LE
open PySem L2 LR
end LE

namespace L2
open PySem PySem.Spec PyProof.Rows
section
variable{X:Cx}{pos:Pos}
theorem pgN(i:Nat){x:Str}(hN:X.N.Nodup)(hi:X.N[i]?=some x:=by rfl)(hx:Loc X.env.scope x:=by exact Or.inl rfl)(hf:X.fn x=true\/X.env.scope.names.lookup x=some .local:=by exact Or.inr rfl):PG X (.Name x pos) (V8 i):=JM hN hi hx hf
theorem psN(i:Nat){x:Str}{e:Q4}{te:TE}{pos':Pos}(hN:X.N.Nodup)(he:PE X e te)(hi:X.N[i]?=some x:=by rfl)(hx:Loc X.env.scope x:=by exact Or.inl rfl)(hs:swapsWith e (some (.Name x pos')) pos.line X.env=pure false:=by rfl)(hf:X.fn x=true\/X.env.scope.names.lookup x=some .local:=by first|exact .inl rfl|exact .inr rfl|assumption):PS X (.Assign [.Name x pos'] e pos) (Jex te (V8 i)):=Jg1 hN hi hx he hs hf
theorem pxK(K:Qw){a b:Q4}{ta tb:TE}(ha:PE X a ta)(hb:PE X b tb)(hK:X.K=K:=by rfl)(hs:Jhu b:=by exact fun _ _=>rfl):PE X (.Subscript a b pos) (tOp (rIx K) ta tb):=Jst (Jm3 hK) ha hb hs
theorem piK(K:Qw){tg l:Q4}{tl:TE}(hl:PE X l tl)(hK:X.K=K:=by rfl):PI X tg l (JgD K tl):=JnK hK hl
theorem hrM{j k:Nat}{A:QI}(r:Room k A)(h:j<=k:=by decide):Room j A:=r.mono h
end
end L2
namespace LE
open PySem PyProof.Rows L2 LR
structure PB (P:Qu) (w:QJ) (base:Q0):Prop where
section
variable{P:Qu}{w:QJ}{K:Qw}{mg:Str->Option Qc}{base:Q0}{x y q:Str}{st:GB}{f:Qd}{fd:Qz}{k:Nat}{ps:List Str}{sp:Sp}
theorem JH(Z:PB P w base)(F:Fun K x q st f fd)(o:FnOk P w K mg base CX0 k f fd ps sp)(m:mg y=some (.ref f))
 (h:∀(kV doc pm:Qc) (an:Option Qd) (cdv ct:Qc) (us:List Qc),us.length=ps.length->bindArgs (fnOf x q (VU st) (Y9 st) (Jj st) .none kV doc pm an cdv ct) ⟨us,[]⟩=pure (ps.zip us)):Cal P w K mg base y k ps sp:=⟨f,fd,o,m,F.kp,F.binds h⟩
end
section
variable{P:Qu}{w:QJ}{K:Qw}{C:Qd}{mg:Str->Option Qc}{base:Q0}{x qual:Str}{st:GB}{f:Qd}{fd:Qz}{N ps:List Str}{k n:Nat}{b:Es}
theorem okE(F:Fun K x qual st f fd)(S:FnScope N ps (Jj st))(hn:n=ps.length)
 (hb:∀(cdv:Qc) (A:QI) (outer:List Env) (s:Qe) (H:Hp) (E:XK),Room k (A.deeper (envOfC qual (Jj st) s.heap.objs.size f cdv))->(A.deeper (envOfC qual (Jj st) s.heap.objs.size f cdv)).units+64<cLine ->
  ∃t,PSs (Jcp CX0 P w K mg base N qual (Jj st) f cdv A outer s H E).nox (Y9 st) t/\SS K C t b):FnOk P w K mg base CX0 (k+1) f fd ps (spE K C n (Yi N.length b)) :=
 F.ok S (fun vs H Q E h=>(Joi h).trans hn) fun cdv A outer s H vs Q E hr h=>(hb cdv A outer s H E hr hr.units).elim fun t q=>⟨t,q.1,JmU q.2 h⟩
end
end LE

namespace L2
open PySem PySem.Spec PyProof.Rows
end L2
namespace LE
open PySem L2 LR
section
variable{K:Qw}{C:Qd}{te:TE}{ea:Ev}
end
end LE

namespace L2
open PySem PySem.Spec PyProof.Rows
end L2
namespace LE
open PySem L2 LR
section
variable{K:Qw}{C:Qd}{td:TE}{ed:Ev}
end
end LE

namespace LE
open PySem L2 LR
section
variable{K:Qw}{C:Qd}{W:XK}{t:TS}{a b:Xv}
end
end LE

namespace L2
open PySem PySem.Spec PyProof.Rows PySem.Calls Builtin Builtin.ObjectAttr
section
variable{prog:Qu}{w:QJ}{A:QI}{E:Qc->Qe->Prop}{h:Q0}{g:Array GenState}{d:Drawn}{t:Nat}{os:OsState}
variable{nm q:Str}{C N:Qd}{bs bm bmB:List Qc}{hdct:Bool}{sn:List Str}{sub:List Qc}{ab:Bool}{col:Option Bool}{dd:Option Qd}{k0 k1 k2 k3 k5:Option Qc}{B Bn newId nid initId inN:String}{bmN:List Qc}
end
end L2
namespace L2
open PySem PySem.Spec PyProof.Rows PySem.Calls Builtin Builtin.ObjectAttr
section
variable{prog:Qu}{w:QJ}{A:QI}{R:MB->Qe->Prop}{s:Qe}{K:Qw}{x C:Qd}{ox:Obj}{name:Str}{tk:Tok}{v:Qc}
end
end L2
namespace L2
open PySem PySem.Spec PyProof.Rows PySem.Calls Builtin Builtin.ObjectAttr
section
variable{prog:Qu}{w:QJ}{A:QI}{E:Qc->Qe->Prop}{s:Qe}{K:Qw}{x C:Qd}{ox:Obj}{name:Str}{v:Qc}
end
section
variable{M:Model}{A:QI}{E:Qc->Qe->Prop}{s:Qe}{env:Env}
variable{nm q:Str}{C N:Qd}{bs bm bmB:List Qc}{hdct:Bool}{sn:List Str}{sub:List Qc}{ab:Bool}{col:Option Bool}{dd:Option Qd}{k0 k1 k2 k3 k5:Option Qc}{B Bn newId nid initId inN:String}{bmN:List Qc}
end
section
variable{prog:Qu}{w:QJ}{A:QI}{E:Qc->Qe->Prop}{s:Qe}{env:Env}
variable{nm q:Str}{C N:Qd}{bs bm bmB:List Qc}{hdct:Bool}{sn:List Str}{sub:List Qc}{ab:Bool}{col:Option Bool}{dd:Option Qd}{k0 k1 k2 k3 k5:Option Qc}{B Bn newId nid initId inN:String}{bmN:List Qc}
end
end L2

namespace L2
open PySem PySem.Spec PyProof.Rows PySem.Calls LE
section
variable{X:Cx}
end
end L2
namespace L2
open PySem PySem.Spec PyProof.Rows PySem.Calls LE
section
variable{X:Cx}{C f B:Qd}
end
end L2

namespace L2
open PySem PySem.Spec PyProof.Rows PySem.Calls LE
section
variable{X:Cx}{pins:List (Qd×Obj)}{σ:St}{H:Hp}{s:Qe}{C e:Qd}{h':Q0}{args:List Qc}
end
section
variable{X:Cx}{x:Str}{np cpos pos:Pos}{C f B:Qd}{fd:Qz}{E:XK}{e:Q4}{te:TE}{k:Nat}{ps:List Str}
end
end L2

namespace L2
open PySem PySem.Spec PyProof.Rows PySem.Calls LE
section
variable{X:Cx}{e:Q4}{te:TE}{pos:Pos}{K:Qw}
end
end L2
namespace LE
open PySem L2 LR
section
variable{K:Qw}{C:Qd}{te:TE}{ea:Ev}{W:XK}
end
end LE

namespace PySem
end PySem
namespace L2
open PySem PySem.Spec PyProof.Rows
end L2
namespace LE
open PySem L2 LR
section
variable{K:Qw}{C:Qd}{m:Bool}
end
end LE

namespace L2
open PySem PySem.Spec PyProof.Rows PySem.Calls LE
end L2
namespace LE
open PySem L2 LR
end LE

namespace L2
open PySem PySem.Spec PyProof.Rows
section
variable{X:Cx}{tg:Q4}
end
end L2
namespace LE
open PySem L2 LR
end LE

namespace L2
open PySem PySem.W PyProof.Rows
noncomputable def ltG(g:Nat->Int)(i j:Nat):Bool:=if g i=g j then decide (i<j) else decide (g j<g i)
structure Fall (g:Nat->Int) (N c n:Nat) (p:Array Nat):Prop where
 pm:p.toList.Perm (Kj N)
 cn:c<n
 nN:n<=N
 ds:Dsc (ltG g) p c
 fx:∀i,c<=i->i<N->p.getD i 0=i
 gr:∀i,c<=i->i<n->g i=g c
 lo:∀i,i<c->g (p.getD i 0)<g c
section
variable{N:Nat}{g:Nat->Int}{cmp:Nat->Nat->(Bool->Qe->Prop)->Qe->Prop}{I:Qe->Prop}
end
end L2

namespace L2
open PySem PySem.W PyProof.Rows
section
variable{prog:Qu}{w:QJ}{A:QI}{E:Qc->Qe->Prop}
variable{n0:Nat}{Ok:Qe->Prop}{f:Qc}{vs:List Qc}{kz:Nat->Int}{a kS:Qd}
end
end L2

namespace L2
open PySem PySem.W PySem.Calls PyProof.Rows
section
variable{prog:Qu}{w:QJ}{A:QI}{E:Qc->Qe->Prop}
end
end L2

namespace L2
open PySem PySem.Spec PyProof.Rows
end L2

namespace L2
open PySem PySem.Spec PyProof.Rows
section
variable{X:Cx}{pins:List (Qd×Obj)}{σ:St}{H:Hp}{s:Qe}{f P y:Qd}{name qual:Str}{params:Arguments}{body:Q4}{scope:L8}{pm ctv:Qc}{l c:Nat}{N ps:List Str}{t:TE}{Q:VK}
end
end L2

namespace L2
open PySem PySem.Spec PyProof.Rows LE
section
variable{X:Cx}{e:Q4}{t:TA}{v:Str}{k:Nat}{p pos kpos lpos p1 p2 p3 p4 p5:Pos}{P c:Qd}
end
end L2

namespace LE
open PySem L2 LR
section
variable{K:Qw}{C:Qd}{t:TA}{ev:En->Option (List Sl)}
end
end LE

namespace LE
open PySem L2
end LE
namespace L2
open PySem PySem.Spec PyProof.Rows LE
end L2
namespace LE
open PySem PySem.Spec PyProof.Rows L2 LR
section
variable{P:Qu}{w:QJ}{K:Qw}{mg:Str->Option Qc}{base:Q0}{C:Qd}{x qual:Str}{st:GB}{f:Qd}{fd:Qz}{N ps:List Str}{k n l c:Nat}{b:Es}
end
end LE
namespace L2
open PySem PySem.Spec PyProof.Rows LE
end L2

namespace LE
open PySem L2 LR
section
variable{K:Qw}{C:Qd}{B H0 H H0' H':Hp}{σ σ':St}{E E':En}{i j c m:Nat}{ks:List Int}{dss:List (List D)}{l a:Qd}{ls:List Qd}{ds:List D}
end
end LE

namespace LE
open PySem L2 LR
structure DkK (K:Qw) (CD:Qd):Prop where
 ns:nsIn K mainGlobals "Desk"=some (some (.ref CD))
 cl:Cls K CD
 na:NoAttr K CD "trail"
noncomputable def wo1(H:Hp)(l:Qd):Hp:=fun a=>if a=l then none else H a
noncomputable def Jbm(a:Ev):Ev:=fun E=>(a E).bind fun s=>match s with
 | .bw _ ds=>some (.sh (.lst ds))
 | _=>none
noncomputable def JeE(i:Nat)(a:Ev):Es:=fun E=>match E[i]? with
 | some (.dw k _)=>(a E).bind fun s=>s.frz.bind fun d=>match d with
  | .lst ds=>some (.nx (E.set i (.dw k ds)))
  | _=>none
 | _=>none
noncomputable def eMt(n:Nat)(f:List Sl->Option Sl)(a:Ev)(as:En->Option (List Sl)):Ev:=fun E=>(a E).bind fun s=>match s with
 | .bw k ds=>(as E).bind fun ss=>(ZQ (.bw k ds::ss)).bind fun bs=>if bs.length=n then f bs else none
 | _=>none
structure DStep (K:Qw) (C x:Qd) (H0 H:Hp) (ds:List D) (H0' H':Hp):Prop where
 k:∀a o,a≠x->H a=some o->H' a=some o
 z:Same H0 H0'
 n:∀a o,H0' a=some o->H0 a=some o\/H a=none\/isT o=true
 i:Same H0' H'
 d:∃xs,H' x=some (deO xs)/\H0' x=none/\DkC K none x xs/\RD K C H0' xs.2.2 (.lst ds)
noncomputable def Jhi(K:Qw)(C:Qd)(g:List D->D->Option (List D)):Sp:=fun vs H Q _=>∃H0 x xs v ds d ds',vs=[.ref x,v]/\Same H0 H/\H x=some (deO xs)/\H0 x=none/\DkC K none x xs/\RD K C H0 xs.2.2 (.lst ds)/\RD K C H0 v d/\g ds d=some ds' ∧
 ∀H0' H',DStep K C x H0 H ds' H0' H'->Q .non H'
noncomputable def Jhh(K:Qw)(C:Qd)(g:D->Option (List D)):Sp:=fun vs H Q _=>∃H0 x c dx v d ds,vs=[.ref x,v]/\Same H0 H/\H x=some (.ins c dx [])/\H0 x=none/\nsIn K mainGlobals "Desk"=some (some (.ref c))/\RD K C H0 v d/\g d=some ds ∧
 ∀H0' H',DStep K C x H0 H ds H0' H'->Q .non H'
noncomputable def xDo(i:Nat)(g:List D->D->Option (List D))(a:Ev):Es:=fun E=>match E[i]? with
 | some (.dw k ds)=>(a E).bind fun s=>s.frz.bind fun d=>(g ds d).bind fun ds'=>some (.nx (E.set i (.dw k ds')))
 | _=>none
noncomputable def Jki(g:D->Option (List D))(a:Ev):Ev:=fun E=>(a E).bind fun s=>s.frz.bind fun d=>(g d).bind fun ds=>some (.dw none ds)
noncomputable def JiN(i:Nat):Es:=fun E=>match E[i]? with
 | some (.own ds)=>if ds=[] then none else some (.nx (E.set i (.own ds.dropLast)))
 | _=>none
section
variable{K:Qw}{C CD:Qd}{B Hs H0 H H0' H':Hp}{σ:St}{E:En}{ta te:TE}{ea:Ev}{t:TA}{ev:En->Option (List Sl)}
theorem DkK.eq(T:DkK K CD){a:Option Qd}{l:Qd}{xs:Qd×Qd×V}(h:DkC K a l xs):xs.1=CD:=by have:=h.1.symm.trans T.ns;cases this;rfl
theorem DkC.any{a:Option Qd}{l:Qd}{xs:Qd×Qd×V}(h:DkC K a l xs):DkC K none l xs:=⟨h.1,.inl rfl⟩
theorem Jel(T:DkK K CD)(ha:SE K C ta ea):SE K C (Jol K ta "trail") (Jbm ea):=by
 intro B H0 H σ E r Q I e q;obtain⟨s,e1,e⟩:=bind_some e;refine ha B H0 H σ E s _ I e1 fun x H1 H1' s1 r1=>?_
 cases s with
 | bw k ds=>cases e;obtain⟨l,xs,rfl,h,hk,w⟩:=r1;obtain rfl:=T.eq hk;exact⟨l,_,_,_,_,rfl,h,T.cl,T.na,by simp[Rm],q _ _ _ s1 w⟩
 | _=>cases e
theorem EnvR.lose{i:Nat}{l:Qd}{t:Sl}(I:EnvR K C B H0 H σ E)(e1:E[i]?=some t)(ho:YA t=true)(e2:σ[i]?=some (some (.ref l))):EnvR K C B H0 (wo1 H l) σ (E.set i .no):=by
 obtain⟨_,h2,h3⟩:=I.ownG e1 ho e2;have nb:∀{A:Hp},A l=none->Same A H->Same A (wo1 H l):=fun {A} n s a o e=>by unfold wo1;rw[if_neg (JA e n)];exact s a o e
 refine⟨nb h3 I.b,nb h2 I.h,by simp[I.len],fun j s e=>?_,fun j k s1 s2 v hjk a1 a2 p1 p2 a3=>?_,I.t⟩
 ·rw[QU] at e
  by_cases hj:i=j
  ·subst hj;rw[if_pos rfl] at e;split at e <;> cases e;exact .inl rfl
  ·rw[if_neg hj] at e;rcases I.at' j s e with z|⟨v,q1,q2⟩
   ·exact .inl z
   ·refine .inr ⟨v,q1,?_⟩;have off:∀{l':Qd},YA s=true->v=.ref l'->l'≠l:=fun {l'} w y z=>by subst z;subst y;exact I.sep i j t _ (.ref l') hj e1 e ho w e2 q1
    cases s with
    | no=>trivial
    | sh d=>exact q2
    | bo es=>exact q2
    | bd ks es=>exact q2
    | bt ks es=>exact q2
    | bw ks es=>exact q2
    | own es=>obtain⟨l',ys,p1,p2,p3⟩:=q2;exact⟨l',ys,p1,by unfold wo1;rw[if_neg (off rfl p1)];exact p2,p3⟩
    | od ks es=>obtain⟨l',ys,p1,p2,p3⟩:=q2;exact⟨l',ys,p1,by unfold wo1;rw[if_neg (off rfl p1)];exact p2,p3⟩
    | ot ks es=>obtain⟨l',ys,p1,p2,p3⟩:=q2;exact⟨l',ys,p1,by unfold wo1;rw[if_neg (off rfl p1)];exact p2,p3⟩
    | dw ks es=>obtain⟨l',ys,p1,p2,p3⟩:=q2;exact⟨l',ys,p1,by unfold wo1;rw[if_neg (off rfl p1)];exact p2,p3⟩
 ·have own:∀{j:Nat} {u:Sl},(E.set i .no)[j]?=some u->YA u=true->E[j]?=some u:=fun {j u} a w=>by
   rw[QU] at a
   by_cases hj:i=j
   ·subst hj;rw[if_pos rfl] at a;split at a <;> cases a;cases w
   ·rw[if_neg hj] at a;exact a
  exact I.sep j k _ _ v hjk (own a1 p1) (own a2 p2) p1 p2 a3
theorem EnvR.desk{i:Nat}{l:Qd}{k:Option Qd}{ds ds':List D}(I:EnvR K C B H0 H σ E)(e1:E[i]?=some (.dw k ds))(e2:σ[i]?=some (some (.ref l)))(hk:k=none\/k=some l)(c:DStep K C l H0 H ds' H0' H'):EnvR K C B H0' H' σ (E.set i (.dw k ds')):=by
 obtain⟨h1,h2,h3⟩:=I.ownG e1 rfl e2;obtain⟨xs,d1,d2,d3,d4⟩:=c.d;have hi:=(Qn.mp e1).1;have J:=(I.lose e1 rfl e2).step (H0':=H0') (H':=H') ⟨fun a o e=>by unfold wo1 at e;split at e;cases e;exact c.k a o (by assumption) e,c.z,fun a o e=>(c.n a o e).imp id fun q=>q.imp (fun q=>by unfold wo1;split <;> first|rfl|exact q) id,c.i⟩
 have P:=J.put (v:=.ref l) (s:=.dw k ds') (i:=i) (by simpa using hi) (Hs:=wo1 H' l) (fun a q=>by
  unfold wo1 at q;split at q
  ·next z=>rw[z];exact h3
  ·exact Same.free J.b q) (fun j t l' q1 q2 q3=>by
  have nj:j≠i:=fun z=>by subst z;rw[QU] at q1;simp[hi] at q1;subst q1;cases q2
  have q1':E[j]?=some t:=by rw[QU,if_neg (fun z=>nj z.symm)] at q1;exact q1
  have nl:l'≠l:=fun z=>by subst z;exact I.sep j i _ _ (.ref l') nj q1' e1 q2 rfl q3 e2
  unfold wo1;rw[if_neg nl];exact(J.ownG q1 q2 q3).1) ⟨l,xs,rfl,d1,d2,by simp[wo1],⟨d3.1,hk⟩,d4⟩ rfl
 have e3:σ.set i (some (.ref l))=σ:=by
  apply GA
  intro j;rw[QU];split
  ·next z=>subst z;rw[e2];simp[I.len,hi]
  ·rfl
 rw[e3,List.set_set] at P;exact P
theorem JoA{i:Nat}(T:DkK K CD)(ha:SE K C te ea):SS K C (JjK K (Wi i) te "trail") (JeE i ea):=by
 intro B H0 H σ E o D I e f;unfold JeE at e;split at e
 ·next k ds h =>
  obtain⟨s,e1,e⟩:=bind_some e;obtain⟨d,e2,e⟩:=bind_some e
  cases d with
  | lst es =>
   cases e;rcases I.at' i _ h with z|⟨v,g1,l,xs,rfl,g2,g3,g4,g5,g6⟩
   ·cases z
   ·obtain rfl:=T.eq g5;refine ha B H0 H σ E s _ I e1 fun v H1 H1' s1 r1=>?_
    have s2:Step H H0 H (JT H H1 H1') H1':=s1.comp (JI s1.i) fun _ z=>z
    have I2:=I.step s2
    have m:=I2.mutG (o':=deO (xs.1,xs.2.1,v)) (t':=.dw k es) h rfl rfl g1 ⟨l,(xs.1,xs.2.1,v),rfl,Jw,(I2.ownG h rfl g1).2.1,g4,⟨g5.1,g5.2⟩,RR.frz s1.i r1 e2⟩;refine⟨_,g1,l,_,_,_,rfl,s2.h _ _ g2,T.cl,T.na,by simp,?_⟩
    have:=f _ _ _ ⟨m.b,s2.z,(s2.ss I.b).n,m.h⟩ m
    simpa [putF,deO] using this
  | _=>cases e
 ·cases e
theorem Zh{n:Nat}{m:Str}{f:List Sl->Option Sl}{X:XK}(T:DkK K CD)(hm:(m == ("trail":Str))=false)(hA:SE K C ta ea)(ha:SA K C t ev):SE K C (Jda CD m (spE K C n f) [] X ta t) (eMt n f ea ev):=by
 intro B H0 H σ E c Q I e q;obtain⟨s,e1,e⟩:=bind_some e
 cases s with
 | bw k ds =>
  obtain⟨ss,e3,e⟩:=bind_some e;obtain⟨bs,e2,e⟩:=bind_some e;split at e
  ·next hl =>
   refine hA B H0 H σ E _ _ I e1 fun x H1 H1' s1 r1=>?_
   have r1':=r1;obtain⟨l,xs,rfl,h,hk,w⟩:=r1;obtain rfl:=T.eq hk;refine⟨l,_,_,rfl,h,by simp[Rm,hm],?_⟩;refine ha B H1 H1' σ E ss _ (I.step s1) e3 fun vs H2 H2' s2 r2=>?_
   rw[Gg];have s3:=s1.trans s2;have r3:RRL K C H H2 H2' (.ref l::vs) (.bw k ds::ss):=.cons (r1'.step s2) (r2.weak fun a z=>Same.free s1.h z);obtain⟨h1,h2⟩:=r3.pass s3.i e2;have f:=JI (Hs:=H) s3.i;exact⟨I.t.mono (I.b.trans s3.h),_,bs,c,f.i,h1,h2,hl,e,fun v H4 H4' s4 r4=>q v H4 H4' ((s3.comp f fun _ z=>z).comp s4 fun a z=>Same.free s3.h z) (r4.weak fun a z=>Same.free s3.h z)⟩
  ·cases e
 | _=>cases e
theorem JsW{i:Nat}{g:List D->D->Option (List D)}{X:XK}(T:DkK K CD)(ha:SE K C te ea):SS K C (ZX (Jda CD "do" (Jhi K C g) [] X (Wi i) (Wb te Zk))) (xDo i g ea):=by
 intro B H0 H σ E o D I e f;unfold xDo at e;split at e
 ·next k ds h =>
  obtain⟨s,e1,e⟩:=bind_some e;obtain⟨d,e2,e⟩:=bind_some e;obtain⟨ds',e3,e⟩:=bind_some e;cases e;rcases I.at' i _ h with z|⟨v,g1,l,xs,rfl,g2,g3,g4,g5,g6⟩
  ·cases z
  ·obtain rfl:=T.eq g5;refine⟨_,g1,l,_,_,rfl,g2,by simp[Rm,show(("do":Str) == ("trail":Str))=false by decide +kernel],?_⟩;refine ha B H0 H σ E s _ I e1 fun v H1 H1' s1 r1=>?_
   have s2:Step H H0 H (JT H H1 H1') H1':=s1.comp (JI s1.i) fun _ z=>z
   have I2:=I.step s2
   have n2:=(I2.ownG h rfl g1).2.1;refine⟨JT H H1 H1',l,xs,v,ds,d,ds',rfl,s2.i,s2.h _ _ g2,n2,g5.any,g6.mono s2.z,RR.frz s1.i r1 e2,e3,fun H0' H' c=>?_⟩
   have J:=I2.desk h g1 g5.2 c;exact f _ _ _ ⟨J.b,s2.z.trans c.z,fun a o q=>(c.n a o q).elim (fun q=>(s2.ss I.b).n a o q) fun q=>.inr (q.imp (fun q=>Same.free (I.b.trans s2.h) q) id),c.i⟩ J
 ·cases e
theorem Jrz{i:Nat}:SS K C (ZX (Jok K "list" JqS (Wi i))) (JiN i):=by
 intro B H0 H σ E o D I e f;unfold JiN at e;split at e
 ·next ds h =>
  split at e
  ·cases e
  ·next hd =>
   cases e;obtain⟨l,xs,g1,g2,g3,g4,g5⟩:=I.slot h;have hl:0<xs.length:=by rw[g5.1];exact List.length_pos_iff.mpr hd
   have hx:xs[xs.length-1]?=some xs[xs.length-1]:=by simp[hl]
   have hd:RDL K C H0 xs.dropLast ds.dropLast:=by rw[KZ,KZ,g5.1];exact g5.take _
   have m:=I.mut (xs:=xs) h g1 hd;exact⟨_,g1,.inl ⟨rfl,_,.of g2⟩,l,xs,_,rfl,rfl,g2,hx,f _ _ _ ⟨m.b,Same.refl _,fun _ _ e=>.inl e,m.h⟩ m⟩
 ·cases e
end
end LE

namespace L2
open PySem PySem.Spec PyProof.Rows
structure CalD (P:Qu) (w:QJ) (K:Qw) (mg:Str->Option Qc) (base:Q0) (C:Qd) (m:Str) (k:Nat) (ps:List Str) (sp:Sp):Prop where
 ex:∃f fd,FnOk P w K mg base CX0 k f fd ps sp/\Meth K C m f/\Binds K fd ps []
section
variable{X:Cx}{C:Qd}{m:Str}{k:Nat}{ps:List Str}{sp:Sp}{o e:Q4}{es:List Q4}{ta:TE}{t:TA}{apos pos:Pos}
theorem VL{pl:Sem Bool}(c:CalD X.prog X.w X.K X.mg X.base C m k ps sp)(l:Cls X.K C)(hr:Room k X.A)(he:PE X o ta)(ha:PA X (e::es) t)
 (hst:starEach (e::es) X.env=(false,eval e X.env)::starEach es X.env:=by rfl) (hpl:(backTo pos (starEach es X.env)).any (·.1)=false:=by rfl)
 (ht:eval (.Call (.Attribute o m apos) (e::es) [] pos) X.env=(do
  let ov <- eval o X.env
  standAt apos.atName
  let (f,first) <- holding [ov] (getMethod ov m pl)
  callWith pos f first (backTo pos (starEach (e::es) X.env)) (backToKw pos (keywordEach [] X.env))):=by rfl):PE X (.Call (.Attribute o m apos) (e::es) [] pos) (Jda C m sp [] E0 ta t):=by
 obtain⟨f,fd,F,h1,h2⟩:=c.ex;exact JnH he l h1 F hr h2 .nil Jih ha hst hpl ht
theorem Jan{pl:Sem Bool}(c:CalD X.prog X.w X.K X.mg X.base C m k ps sp)(l:Cls X.K C)(hr:Room k X.A)(he:PE X o ta)
 (ht:eval (.Call (.Attribute o m apos) [] [] pos) X.env=(do
  let ov <- eval o X.env
  standAt apos.atName
  let (f,first) <- holding [ov] (getMethod ov m pl)
  callWith pos f first (backTo pos (starEach [] X.env)) (backToKw pos (keywordEach [] X.env))):=by rfl):PE X (.Call (.Attribute o m apos) [] [] pos) (Jda C m sp [] E0 ta Zk):=by
 obtain⟨f,fd,F,h1,h2⟩:=c.ex;exact Jlh he l h1 F hr h2 .nil Jih ht
end
end L2
namespace LE
open PySem L2 LR
section
variable{K:Qw}{C CD:Qd}{B Hs H0 H H0' H':Hp}{σ:St}{E:En}{ta te:TE}{ea:Ev}{t:TA}{ev:En->Option (List Sl)}
theorem JrY{N:List Str}{b:Es}{ts:TS}{vs:List V}{Q:VK}{W:XK}{g:List D->D->Option (List D)}(ht:Vq K=none)(hb:SS K C ts b)(hN:2<=N.length)
 (hg:∀(a:Qd) (ds:List D) (d:D) (ds':List D),g ds d=some ds'->∃E',b ([.dw (some a) ds,.sh d]++Qv (N.length-2) .no)=some (.nx E')/\E'[0]?=some (.dw (some a) ds'))
 (h:Jhi K C g vs H Q W):ts { nx:=fun _ H'=>Q .non H',rt:=Q } (L2.Y4 N vs) H:=by
 obtain⟨H0,x,xs,v,ds,d,ds',rfl,i,hx,h0,hk,w,r,e,q⟩:=h;obtain⟨E',e1,e2⟩:=hg x ds d ds' e
 have get:∀(j:Nat) (s:Sl),([Sl.dw (some x) ds,.sh d]++Qv (N.length-2) Sl.no)[j]?=some s->s=.no\/(j=0/\s=.dw (some x) ds)\/(j=1/\s=.sh d):=fun j s e=>by
  rcases j with _|_|j
  ·simp at e;exact .inr (.inl ⟨rfl,e.symm⟩)
  ·simp at e;exact .inr (.inr ⟨rfl,e.symm⟩)
  ·rw[QS (by simp)] at e;have:=QG e;simp at this;exact .inl this.2
 have I:EnvR K C (wo1 H x) H0 H (L2.Y4 N [.ref x,v]) ([Sl.dw (some x) ds,.sh d]++Qv (N.length-2) Sl.no):=by
  refine⟨fun a o e=>by unfold wo1 at e;split at e;cases e;exact e,i,by simp[L2.Y4],fun j s e=>?_,fun j k s1 s2 u hjk a1 a2 p1 p2=>?_,.no ht⟩
  ·rcases get j s e with z|⟨rfl,rfl⟩|⟨rfl,rfl⟩
   ·exact .inl z
   ·exact .inr ⟨_,rfl,x,xs,rfl,hx,h0,by simp[wo1],⟨hk.1,.inr rfl⟩,w⟩
   ·exact .inr ⟨_,rfl,r⟩
  ·have own:∀{j:Nat} {s:Sl},([Sl.dw (some x) ds,.sh d]++Qv (N.length-2) Sl.no)[j]?=some s->YA s=true->j=0:=fun {j s} e p=>by
    rcases get _ _ e with z|⟨y,_⟩|⟨_,z⟩
    ·subst z;cases p
    ·exact y
    ·subst z;cases p
   exact absurd ((own a1 p1).trans (own a2 p2).symm) hjk
 refine hb _ H0 H _ _ _ _ I e1 fun σ' H1 H1' s1 I1=>q H1 H1' ?_
 rcases I1.at' 0 _ e2 with z|⟨u,g1,l,ys,rfl,g2,g3,g4,g5,g6⟩
 ·cases z
 ·obtain rfl:x=l:=by rcases g5.2 with z|z;cases z;exact QV z
  exact⟨fun a o ne e=>s1.b a o (by unfold wo1;rw[if_neg ne];exact e),s1.z,fun a o e=>(s1.n a o e).imp id fun y=>y.imp (fun y=>by
   unfold wo1 at y;split at y
   ·next z=>subst z;rw[g3] at e;cases e
   ·exact y) id,s1.i,ys,g2,g3,g5.any,g6⟩
theorem JmX{c dx x:Qd}{fs:List (Str×V)}(s1:Step H H0 H H0' H')(hx:H x=some (.ins c dx fs))(h0:H0 x=none):JT H H0' H' x=none:=by
 have h1:=s1.h _ _ hx
 have e:H0' x=none:=by
  cases z:H0' x with
  | none=>rfl
  | some o =>
   rcases s1.n x o z with y|y|y
   ·rw[h0] at y;cases y
   ·rw[hx] at y;cases y
   ·have:=s1.i x o z;rw[h1] at this;cases this;cases y
 unfold JT;rw[e,hx,h1];rfl
theorem JmT{N:List Str}{vs:List V}{Q:VK}{W:XK}{g:D->Option (List D)}(ht:Vq K=none)(T:DkK K CD)(ha:SE K C te ea)(hN:2<=N.length)
 (hg:∀(d:D) (ds:List D),g d=some ds->∃s,ea ([.no,.sh d]++Qv (N.length-2) .no)=some s/\s.frz=some (.lst ds))
 (h:Jhh K C g vs H Q W):(JjK K (Wi 0) te "trail") { nx:=fun _ H'=>Q .non H',rt:=Q } (L2.Y4 N vs) H:=by
 obtain⟨H0,x,c,dx,v,d,ds,rfl,i,hx,h0,hn,r,e,q⟩:=h;obtain⟨s,e1,e2⟩:=hg d ds e;obtain rfl:c=CD:=by have:=hn.symm.trans T.ns;cases this;rfl
 have get:∀(j:Nat) (s:Sl),([Sl.no,.sh d]++Qv (N.length-2) Sl.no)[j]?=some s->s=.no\/(j=1/\s=.sh d):=fun j s e=>by
  rcases j with _|_|j
  ·simp at e;exact .inl e.symm
  ·simp at e;exact .inr ⟨rfl,e.symm⟩
  ·rw[QS (by simp)] at e;have:=QG e;simp at this;exact .inl this.2
 have I:EnvR K C H H0 H (L2.Y4 N [.ref x,v]) ([Sl.no,.sh d]++Qv (N.length-2) Sl.no):=by
  refine⟨Same.refl _,i,by simp[L2.Y4],fun j s e=>?_,fun j k s1 s2 u hjk a1 a2 p1 p2=>?_,.no ht⟩
  ·rcases get j s e with z|⟨rfl,rfl⟩
   ·exact .inl z
   ·exact .inr ⟨_,rfl,r⟩
  ·rcases get j s1 a1 with z|⟨_,z⟩ <;> subst z <;> cases p1
 refine ha _ H0 H _ _ s _ I e1 fun w H1 H1' s1 r1=>?_
 have s2:Step H H0 H (JT H H1 H1') H1':=s1.comp (JI s1.i) fun _ z=>z
 have z0:=JmX s1 hx h0;refine⟨_,rfl,x,_,_,_,rfl,s2.h _ _ hx,T.cl,T.na,by simp,?_⟩;refine q (JT H H1 H1') _ ⟨fun a o ne e=>by rw[Jl ne];exact s2.h _ _ e,s2.z,s2.n,fun a o e=>by rw[Jl (JA e z0)];exact s2.i _ _ e,(c,dx,w),by simp[putF,deO,Jw],z0,⟨hn,.inl rfl⟩,RR.frz s1.i r1 e2⟩
theorem Jrb{g:D->Option (List D)}{X:XK}(T:DkK K CD)(ha:SE K C te ea):SE K C (JfZ CD (Jhh K C g) [] X (Wb te Zk)) (Jki g ea):=by
 intro B H0 H σ E c Q I e q;obtain⟨s,e1,e⟩:=bind_some e;obtain⟨d,e2,e⟩:=bind_some e;obtain⟨ds,e3,e⟩:=bind_some e;cases e;refine ha B H0 H σ E s _ I e1 fun v H1 H1' s1 r1=>?_
 have s2:Step H H0 H (JT H H1 H1') H1':=s1.comp (JI s1.i) fun _ z=>z
 intro x dx nx ndx ne;have hne:∀{a:Qd} {o:HO},H1' a=some o->(upd (upd H1' dx (.own x)) x (.ins CD dx [])) a=some o:=fun {a o} e=>by rw[Jl (JA e nx),Jl (JA e ndx)];exact e
 refine⟨JT H H1 H1',x,CD,dx,v,d,ds,rfl,fun a o e=>hne (s2.i a o e),Jw,Same.free s2.i nx,T.ns,RR.frz s1.i r1 e2,e3,fun H0' H' c=>⟨rfl,?_⟩⟩;obtain⟨xs,d1,d2,d3,d4⟩:=c.d;refine q _ H0' H' ⟨fun a o e=>c.k a o (JA (s2.h _ _ e) nx) (hne (s2.h _ _ e)),s2.z.trans c.z,fun a o e=>?_,c.i⟩ ⟨x,xs,rfl,d1,d2,Same.free s2.h nx,d3,d4⟩;rcases c.n a o e with y|y|y
 ·exact s2.n a o y
 ·refine .inr (.inl ?_)
  cases z:H a with
  | none=>rfl
  | some u=>rw[hne (s2.h _ _ z)] at y;cases y
 ·exact .inr (.inr y)
end
end LE

namespace LE
open PySem L2 LR
noncomputable def JjN(K:Qw)(C:Qd)(n:Nat)(g:List D->List D->Option (D×List D)):Sp:=fun vs H Q _=>∃H0 x xs us ds as d ds',vs=.ref x::us/\Same H0 H/\H x=some (deO xs)/\H0 x=none/\DkC K none x xs/\RD K C H0 xs.2.2 (.lst ds)/\RDL K C H0 us as/\as.length+1=n/\g ds as=some (d,ds') ∧
 ∀v H0' H',DStep K C x H0 H ds' H0' H'->RD K C H0' v d->Q v H'
theorem JlW{K:Qw}{C:Qd}{n:Nat}{g:List D->List D->Option (D×List D)}{vs:List V}{H:Hp}{Q:VK}{E:XK}(h:JjN K C n g vs H Q E):vs.length=n:=by obtain⟨H0,x,xs,us,ds,as,d,ds',rfl,_,_,_,_,_,r,l,_⟩:=h;rw[Qr,r.1];exact l
theorem JlV{K:Qw}{C:Qd}{g:List D->D->Option (List D)}{vs:List V}{H:Hp}{Q:VK}{E:XK}(h:Jhi K C g vs H Q E):vs.length=2:=by obtain⟨H0,x,xs,v,ds,d,ds',rfl,_⟩:=h;rfl
theorem JlU{K:Qw}{C:Qd}{g:D->Option (List D)}{vs:List V}{H:Hp}{Q:VK}{E:XK}(h:Jhh K C g vs H Q E):vs.length=2:=by obtain⟨H0,x,c,dx,v,d,ds,rfl,_⟩:=h;rfl
section
variable(K:Qw)(C:Qd)
noncomputable def SIO(ts:TS)(f:En->Option (D×En)):Prop:=∀(B H0 H:Hp) (σ:St) (E E':En) (d:LE.D) (D:Ends),EnvR K C B H0 H σ E->f E=some (d,E')->(∀v σ' H0' H',SStep B H0 H0' H'->EnvR K C B H0' H' σ' E'->RD K C H0' v d->D.rt v H')->ts D σ H
noncomputable def STX(t:TT)(f:En->Option (Bool×En)):Prop:=∀(B H0 H:Hp) (σ:St) (E E':En) (b:Bool) (Q:Bool->Hp->Prop),EnvR K C B H0 H σ E->f E=some (b,E')->(∀H0' H',SStep B H0 H0' H'->EnvR K C B H0' H' σ E'->Q b H')->t σ H Q
end
noncomputable def JkL(a:Ev):En->Option (D×En):=fun E=>(a E).bind fun s=>s.frz.bind fun d=>some (d,E)
noncomputable def V9(b:Es)(f:En->Option (D×En)):En->Option (D×En):=fun E=>(b E).bind fun o=>match o with
 | .nx E'=>f E'
 | _=>none
noncomputable def Jf8(f:En->Option (Bool×En)):En->Option (Bool×En):=fun E=>(f E).bind fun p=>some (!p.1,p.2)
noncomputable def Jrt(f g:En->Option (Bool×En)):En->Option (Bool×En):=fun E=>(f E).bind fun p=>if p.1=true then some (true,p.2) else g p.2
noncomputable def JjR(i n:Nat)(g:List D->List D->Option (D×List D))(as:En->Option (List Sl)):En->Option (Bool×En):=fun E=>match E[i]? with
 | some (.dw k ds)=>(as E).bind fun ss=>(Jag ss).bind fun es=>if es.length+1=n then(g ds es).bind fun p=>match p.1 with
  | .bl b=>some (b,E.set i (.dw k p.2))
  | _=>none
  else none
 | _=>none
noncomputable def Joz(f:En->Option (Bool×En))(a b:Es):Es:=fun E=>(f E).bind fun p=>if p.1=true then a p.2 else b p.2
section
variable{K:Qw}{C CD:Qd}{B Hs H0 H H0' H':Hp}{σ:St}{E:En}{ta te:TE}{ea:Ev}{t:TA}{ev:En->Option (List Sl)}{ts tu:TS}{b eb:Es}{c c2:TT}{f f2:En->Option (Bool×En)}{h2:En->Option (D×En)}
theorem JpO(ha:SE K C te ea):SIO K C (Jop te) (JkL ea):=by
 intro B H0 H σ E E' d D I e q;obtain⟨s,e1,e⟩:=bind_some e;obtain⟨d',e2,e⟩:=bind_some e;cases e;refine ha B H0 H σ E s _ I e1 fun v H1 H1' s1 r1=>?_
 have s2:Step H H0 H (JT H H1 H1') H1':=s1.comp (JI s1.i) fun _ z=>z
 exact q v σ _ _ (s2.ss I.b) (I.step s2) (RR.frz s1.i r1 e2)
theorem Vu(hb:SS K C ts b)(hu:SIO K C tu h2):SIO K C (Joq ts tu) (V9 b h2):=by
 intro B H0 H σ E E' d D I e q;obtain⟨o,e1,e⟩:=bind_some e;refine hb B H0 H σ E o _ I e1 ?_
 cases o with
 | nx E1=>exact fun σ1 H1 H1' s1 I1=>hu B H1 H1' σ1 E1 E' d D I1 e fun v σ' H2 H2' s2 I2 r=>q v σ' H2 H2' (s1.trans s2) I2 r
 | _=>cases e
theorem Jhr(h:STX K C c f):STX K C (Jrl c) (Jf8 f):=by intro B H0 H σ E E' k Q I e q;obtain⟨⟨k',E1⟩,e1,e⟩:=bind_some e;cases e;exact h B H0 H σ E _ _ _ I e1 q
theorem JsT(h:STX K C c f)(h':STX K C c2 f2):STX K C (tOr c c2) (Jrt f f2):=by
 intro B H0 H σ E E' k Q I e q;obtain⟨⟨k',E1⟩,e1,e⟩:=bind_some e;refine h B H0 H σ E _ _ _ I e1 fun H1 H1' s1 I1=>?_
 cases k' with
 | true=>cases e;exact q _ _ s1 I1
 | false=>exact h' B H1 H1' σ E1 _ _ _ I1 e fun H2 H2' s2 I2=>q _ _ (s1.trans s2) I2
theorem Jo9(h:STX K C c f)(ht:SS K C ts b)(hu:SS K C tu eb):SS K C (Jon c ts tu) (Joz f b eb):=by
 intro B H0 H σ E o D I e q;obtain⟨⟨k',E1⟩,e1,e⟩:=bind_some e;refine h B H0 H σ E _ _ _ I e1 fun H1 H1' s1 I1=>?_
 cases k' with
 | true=>exact ht B H1 H1' σ E1 o D I1 e (q.step s1)
 | false=>exact hu B H1 H1' σ E1 o D I1 e (q.step s1)
theorem Jmc{i n:Nat}{g:List D->List D->Option (D×List D)}{X:XK}(ha:SA K C t ev):STX K C (Jor K (JfX (JjN K C n g) [] X (Wb (Wi i) t))) (JjR i n g ev):=by
 intro B H0 H σ E E' k Q I e q;unfold JjR at e;split at e
 ·next k0 ds h =>
  obtain⟨ss,e1,e⟩:=bind_some e;obtain⟨es,e2,e⟩:=bind_some e;split at e
  ·next hn =>
   obtain⟨⟨d,ds'⟩,e3,e⟩:=bind_some e
   cases d with
   | bl b0 =>
    cases e;rcases I.at' i _ h with z|⟨v,g1,l,xs,rfl,g2,g3,g4,g5,g6⟩
    ·cases z
    ·refine⟨_,g1,?_⟩;refine ha B H0 H σ E ss _ I e1 fun vs H1 H1' s1 r1=>?_
     dsimp only;rw[Gg];have s2:Step H H0 H (JT H H1 H1') H1':=s1.comp (JI s1.i) fun _ z=>z
     have I2:=I.step s2
     have n2:=(I2.ownG h rfl g1).2.1;refine⟨JT H H1 H1',l,xs,vs,ds,es,.bl k,ds',rfl,s2.i,s2.h _ _ g2,n2,g5.any,g6.mono s2.z,r1.frz s1.i e2,hn,e3,fun v H0' H' c rv=>?_⟩
     have J:=I2.desk h g1 g5.2 c;rw[RD.blI rv];exact⟨k,rfl,q _ _ ⟨J.b,s2.z.trans c.z,fun a o q=>(c.n a o q).elim (fun q=>(s2.ss I.b).n a o q) fun q=>.inr (q.imp (fun q=>Same.free (I.b.trans s2.h) q) id),c.i⟩ J⟩
   | _=>cases e
  ·cases e
 ·cases e
theorem JrZ{N:List Str}{vs:List V}{Q:VK}{W:XK}{n:Nat}{g:List D->List D->Option (D×List D)}(ht:Vq K=none)(hb:SIO K C ts h2)(hN:n<=N.length)
 (hg:∀(a:Qd) (ds as:List D) (d:D) (ds':List D),g ds as=some (d,ds')->∃E',h2 (.dw (some a) ds::(as.map Sl.sh++Qv (N.length-n) .no))=some (d,E')/\E'[0]?=some (.dw (some a) ds'))
 (h:JjN K C n g vs H Q W):ts { nx:=fun _ H'=>Q .non H',rt:=Q } (L2.Y4 N vs) H:=by
 obtain⟨H0,x,xs,us,ds,as,d,ds',rfl,i,hx,h0,hk,w,r,ln,e,q⟩:=h;obtain⟨E',e1,e2⟩:=hg x ds as d ds' e
 have get:∀(j:Nat) (s:Sl),(Sl.dw (some x) ds::(as.map Sl.sh++Qv (N.length-n) Sl.no))[j]?=some s->s=.no\/(j=0/\s=.dw (some x) ds)\/∃k u,j=k+1/\as[k]?=some u/\s=.sh u:=fun j s e=>by
  cases j with
  | zero=>simp at e;exact .inr (.inl ⟨rfl,e.symm⟩)
  | succ j =>
   rw[KM] at e
   by_cases hj:j<as.length
   ·rw[QE (by simpa using hj),Qt] at e;obtain⟨u,e3,e4⟩:=Q5.mp e;exact .inr (.inr ⟨j,u,rfl,e3,e4.symm⟩)
   ·rw[QS (by simpa using hj)] at e;have:=QG e;simp at this;exact .inl this.2
 have lus:=r.1
 have I:EnvR K C (wo1 H x) H0 H (L2.Y4 N (.ref x::us)) (Sl.dw (some x) ds::(as.map Sl.sh++Qv (N.length-n) Sl.no)):=by
  refine⟨fun a o e=>by unfold wo1 at e;split at e;cases e;exact e,i,by simp[L2.Y4];omega,fun j s e=>?_,fun j k s1 s2 u hjk a1 a2 p1 p2=>?_,.no ht⟩
  ·rcases get j s e with z|⟨rfl,rfl⟩|⟨k,u,rfl,z,rfl⟩
   ·exact .inl z
   ·exact .inr ⟨_,rfl,x,xs,rfl,hx,h0,by simp[wo1],⟨hk.1,.inr rfl⟩,w⟩
   ·obtain⟨y,y1,y2⟩:=r.get z;refine .inr ⟨y,?_,y2⟩;unfold L2.Y4;rw[QE (by have:=(Qn.mp y1).1;simp;omega),Qt,KM,y1];rfl
  ·have own:∀{j:Nat} {s:Sl},(Sl.dw (some x) ds::(as.map Sl.sh++Qv (N.length-n) Sl.no))[j]?=some s->YA s=true->j=0:=fun {j s} e p=>by
    rcases get _ _ e with z|⟨y,_⟩|⟨_,_,_,_,z⟩
    ·subst z;cases p
    ·exact y
    ·subst z;cases p
   exact absurd ((own a1 p1).trans (own a2 p2).symm) hjk
 refine hb _ H0 H _ _ E' d _ I e1 fun v σ' H1 H1' s1 I1 rv=>q v H1 H1' ?_ rv
 rcases I1.at' 0 _ e2 with z|⟨u,g1,l,ys,rfl,g2,g3,g4,g5,g6⟩
 ·cases z
 ·obtain rfl:x=l:=by rcases g5.2 with z|z;cases z;exact QV z
  exact⟨fun a o ne e=>s1.b a o (by unfold wo1;rw[if_neg ne];exact e),s1.z,fun a o e=>(s1.n a o e).imp id fun y=>y.imp (fun y=>by
   unfold wo1 at y;split at y
   ·next z=>subst z;rw[g3] at e;cases e
   ·exact y) id,s1.i,ys,g2,g3,g5.any,g6⟩
end
end LE

namespace L2
open PySem PySem.Spec PyProof.Rows PySem.Calls
noncomputable def Jin:V->List V->Hp->VK->Prop:=fun x vs H Q=>∃z y,x=.str z/\vs=[.str y]/\z.length<=Qq/\Q (.str (Lm z y)) H
theorem Jjt{X:Cx}:MtM X "str.lstrip" Jin:=by intro pins s σ H x vs v us Q I rx rv h;obtain⟨z,y,rfl,rfl,hz,q⟩:=h;obtain⟨t,rfl⟩:=rx;obtain⟨u,rfl,ru⟩:=rv.one;obtain⟨t',rfl⟩:=ru;exact SC.lstripChars (fun _ _=>⟨.str _,H,I.tok _,⟨_,rfl⟩,q⟩) hz
end L2
namespace LE
open PySem L2 LR
noncomputable def Zy(z:Str):List Sl->Option Sl
 | [.sh (.str y)]=>if z.length<=16777216 then some (.sh (.str (Lm z y))) else none
 | _=>none
theorem JkY{K:Qw}{C:Qd}:MtS K C Jin Zy:=by
 intro Hs H0 H z xs as c Q i hs r e q;unfold Zy at e;split at e
 ·split at e
  ·next hn=>cases e;obtain⟨v,rfl,r0⟩:=r.one;exact⟨z,_,rfl,by rw[RD.strI r0],hn,q _ _ _ (.refl i) (RD.str _)⟩
  ·cases e
 ·cases e
end LE

namespace LE
open PySem L2 LR PyProof.Rows
open Classical in
noncomputable def doG(b:Es)(n:Nat)(ds:List D)(d:D):Option (List D):=if h:∃ds',∀a:Qd,∃E',b ([.dw (some a) ds,.sh d]++Qv n .no)=some (.nx E')/\E'[0]?=some (.dw (some a) ds') then some h.choose else none
open Classical in
noncomputable def ioG(f:En->Option (D×En))(n:Nat)(ds as:List D):Option (D×List D):=if h:∃p:D×List D,∀a:Qd,∃E',f (.dw (some a) ds::(as.map Sl.sh++Qv n .no))=some (p.1,E')/\E'[0]?=some (.dw (some a) p.2) then some h.choose else none
noncomputable def lsD?:D->Option (List D)
 | .lst ds=>some ds
 | _=>none
noncomputable def diG(a:Ev)(n:Nat)(d:D):Option (List D):=(a ([.no,.sh d]++Qv n .no)).bind fun s=>s.frz.bind lsD?
theorem Jpu{b:Es}{n:Nat}{ds ds':List D}{d:D}(e:doG b n ds d=some ds')(a:Qd):∃E',b ([.dw (some a) ds,.sh d]++Qv n .no)=some (.nx E')/\E'[0]?=some (.dw (some a) ds'):=by
 unfold doG at e;split at e
 ·next h=>cases e;exact h.choose_spec a
 ·cases e
theorem Jpt{b:Es}{n:Nat}{ds ds':List D}{d:D}(h:∀a:Qd,∃E',b ([.dw (some a) ds,.sh d]++Qv n .no)=some (.nx E')/\E'[0]?=some (.dw (some a) ds')):doG b n ds d=some ds':=by
 have h':∃ds',∀a:Qd,∃E',b ([.dw (some a) ds,.sh d]++Qv n .no)=some (.nx E')/\E'[0]?=some (.dw (some a) ds'):=⟨ds',h⟩
 unfold doG;rw[dif_pos h'];obtain⟨E1,e1,e2⟩:=h 0;obtain⟨E2,e3,e4⟩:=h'.choose_spec 0;rw[e1] at e3;cases e3;rw[e2] at e4;exact congrArg some (Sl.dw.inj (QV e4)).2.symm
theorem JpN{f:En->Option (D×En)}{n:Nat}{ds as ds':List D}{d:D}(e:ioG f n ds as=some (d,ds'))(a:Qd):∃E',f (.dw (some a) ds::(as.map Sl.sh++Qv n .no))=some (d,E')/\E'[0]?=some (.dw (some a) ds'):=by
 unfold ioG at e;split at e
 ·next h=>have:=h.choose_spec a;rw[QV e] at this;exact this
 ·cases e
theorem JpM{f:En->Option (D×En)}{n:Nat}{ds as ds':List D}{d:D}(h:∀a:Qd,∃E',f (.dw (some a) ds::(as.map Sl.sh++Qv n .no))=some (d,E')/\E'[0]?=some (.dw (some a) ds')):ioG f n ds as=some (d,ds'):=by
 have h':∃p:D×List D,∀a:Qd,∃E',f (.dw (some a) ds::(as.map Sl.sh++Qv n .no))=some (p.1,E')/\E'[0]?=some (.dw (some a) p.2):=⟨(d,ds'),h⟩
 unfold ioG;rw[dif_pos h'];obtain⟨E1,e1,e2⟩:=h 0;obtain⟨E2,e3,e4⟩:=h'.choose_spec 0;rw[e1] at e3;have e5:=QV e3;have e6:=(Prod.mk.inj e5).1;have e7:=(Prod.mk.inj e5).2;rw[<- e7,e2] at e4;exact congrArg some (Lh e6.symm (Sl.dw.inj (QV e4)).2.symm)
section
variable{P:Qu}{w:QJ}{K:Qw}{C CD:Qd}{mg:Str->Option Qc}{base:Q0}{x qual:Str}{st:GB}{f:Qd}{fd:Qz}{N ps:List Str}{k n:Nat}{b:Es}{ea:Ev}{h2:En->Option (D×En)}
theorem okD(F:Fun K x qual st f fd)(S:FnScope N ps (Jj st))(hp:ps.length=2)(hN:2<=N.length)(ht:Vq K=none)
 (hb:∀(cdv:Qc) (A:QI) (outer:List Env) (s:Qe) (H:Hp) (E:XK),Room k (A.deeper (envOfC qual (Jj st) s.heap.objs.size f cdv))->(A.deeper (envOfC qual (Jj st) s.heap.objs.size f cdv)).units+64<cLine ->
  ∃t,PSs (Jcp CX0 P w K mg base N qual (Jj st) f cdv A outer s H E).nox (Y9 st) t/\SS K C t b):FnOk P w K mg base CX0 (k+1) f fd ps (Jhi K C (doG b (N.length-2))) :=
 F.ok S (fun vs H Q E h=>(JlV h).trans hp.symm) fun cdv A outer s H vs Q E hr h=>(hb cdv A outer s H E hr hr.units).elim fun t q=>⟨t,q.1,JrY ht q.2 hN (fun a ds d ds' e=>Jpu e a) h⟩
theorem Js9(F:Fun K x qual st f fd)(S:FnScope N ps (Jj st))(hp:ps.length=n)(hN:n<=N.length)(ht:Vq K=none)
 (hb:∀(cdv:Qc) (A:QI) (outer:List Env) (s:Qe) (H:Hp) (E:XK),Room k (A.deeper (envOfC qual (Jj st) s.heap.objs.size f cdv))->(A.deeper (envOfC qual (Jj st) s.heap.objs.size f cdv)).units+64<cLine ->
  ∃t,PSs (Jcp CX0 P w K mg base N qual (Jj st) f cdv A outer s H E).nox (Y9 st) t/\SIO K C t h2):FnOk P w K mg base CX0 (k+1) f fd ps (JjN K C n (ioG h2 (N.length-n))) :=
 F.ok S (fun vs H Q E h=>(JlW h).trans hp.symm) fun cdv A outer s H vs Q E hr h=>(hb cdv A outer s H E hr hr.units).elim fun t q=>⟨t,q.1,JrZ ht q.2 hN (fun a ds as d ds' e=>JpN e a) h⟩
theorem Js8(T:DkK K CD)(F:Fun K x qual st f fd)(S:FnScope N ps (Jj st))(hp:ps.length=2)(hN:2<=N.length)(ht:Vq K=none)
 (hb:∀(cdv:Qc) (A:QI) (outer:List Env) (s:Qe) (H:Hp) (E:XK),Room k (A.deeper (envOfC qual (Jj st) s.heap.objs.size f cdv))->(A.deeper (envOfC qual (Jj st) s.heap.objs.size f cdv)).units+64<cLine ->
  ∃te,PSs (Jcp CX0 P w K mg base N qual (Jj st) f cdv A outer s H E).nox (Y9 st) (JjK K (Wi 0) te "trail")/\SE K C te ea):FnOk P w K mg base CX0 (k+1) f fd ps (Jhh K C (diG ea (N.length-2))) :=
 F.ok S (fun vs H Q E h=>(JlU h).trans hp.symm) fun cdv A outer s H vs Q E hr h=>(hb cdv A outer s H E hr hr.units).elim fun t q=>⟨_,q.1,JmT ht T q.2 hN (fun d ds e=>by
  obtain⟨s,e1,e⟩:=bind_some e;obtain⟨d',e2,e⟩:=bind_some e
  cases d' with
  | lst l=>cases e;exact⟨s,e1,e2⟩
  | _=>cases e) h⟩
end
end LE

namespace L2
open PySem PySem.Spec PyProof.Rows PySem.Calls
structure CalDX (P:Qu) (w:QJ) (K:Qw) (mg:Str->Option Qc) (base:Q0) (C:Qd) (m:Str) (k:Nat) (ps:List Str) (sp:Sp):Prop where
 ex:∃f fd,FnOk P w K mg base (CX1 P w) k f fd ps sp/\Meth K C m f/\Binds K fd ps []
section
variable{X:Cx}{C:Qd}{m:Str}{k:Nat}{ps:List Str}{sp:Sp}{o e:Q4}{es:List Q4}{ta:TE}{t:TA}{apos pos:Pos}{E:XK}
end
end L2
namespace LE
open PySem L2 LR
section
variable{K:Qw}{C CD:Qd}{ta te:TE}{ea:Ev}{t:TA}{ev:En->Option (List Sl)}{W:XK}
end
end LE

end
open L2 LR
local macro_rules | `(tactic| walk_at "side")=>`(tactic| first | decide | exact⟨by decide,by decide,by decide⟩ | exact⟨by decide,by decide⟩ | (show(0:Int)<_;omega) | (show(0:Int)<_/\_<(1073741824:Int);omega) | exact Or.inl ⟨by omega,by omega⟩ | exact Or.inr ⟨by omega,by omega⟩ | assumption)
local macro_rules | `(tactic| walk_at "rd1")=>`(tactic| with_reducible first | refine Jq4 ?_ | refine JqX ?_ | refine JqY ?_ | refine JnT ?_ | refine JnZ ?_ | refine JsK ?_ | refine Jn2 ?_ | refine JqW ?_ | refine JnS ?_ | refine Jq2 ?_ | refine JsI ?_ | refine Jip ?_ | refine LR.Jir ?_ | refine Jq6 ?_ | refine JlB ?_ | refine JlA ?_ | refine JnU ?_ | refine Jn1 ?_ | refine Jq8 ?_ | refine Jtb ?_ | refine JsJ ?_ | refine JnR ?_ | refine Jn0 ?_ | refine JlC ?_ | refine JlD ?_ | refine Exists.intro _ (And.intro (LR.tru_bl _ _ _) ?_))
local macro_rules | `(tactic| walk_at "rd2")=>`(tactic| first |((with_reducible refine Jq7 (v:=?vv) ?hx ?_);(case hx=>exact rfl)) | (with_reducible refine Exists.intro _ (And.intro (Eq.refl (V.bl _)) ?_)))
local macro_rules | `(tactic| walk_at "rd")=>`(tactic| repeat (first | walk_at "rd1" | walk_at "rd2"))
noncomputable section
namespace LK
open PySem L2 LR LE
noncomputable def YF:List Sl->Option Sl:=Yi 1 (Yf (eF Jcq (aC (Jd 0) a0)))
noncomputable def Ua:List Sl->Option Sl:=Yi 2 (Ju (Jx 1 (Ud (iE true (e1 Wg (Jd 0))) (.tp (.cons (.nm 0) (.cons (.nm 1) .nil))) yes? (e2 JN (e2 JN (eU 1 YF (aC (Jd 0) a0)) (eC (.str "+"))) (eU 1 YF (aC (Jd 1) a0))) [none,none]))
 (Yf (e2 JN (eM Jbq (eC (.str " ")) (aC (e2 JN (Wf (aC (eC (.str "row")) a0)) (Jd 1)) a0)) (eC (.str "\n")))))
noncomputable def Yg:List Sl->Option Sl:=Yi 1 (Yf (eU 1 Ua (aC (e2 fIx (Jbm (Jd 0)) (e1 Jaf (eC (.int 1)))) a0)))
noncomputable def J3:List Sl->Option Sl:=Yi 1 (Yf (e2 JN (eM Jbq (eC (.str "")) (aC (e2 JN (Wf (aC (eC (.str "row")) a0)) (Ud (iE true (Jd 0)) (.tp (.cons (.nm 0) (.cons (.nm 1) .nil))) yes? (e2 JN (e2 JN (e2 JN (eC (.str " ")) (eF Jcq (aC (Jd 0) a0))) (eC (.str "+"))) (eF Jcq (aC (Jd 1) a0))) [none,none])) a0)) (eC (.str "\n"))))
noncomputable def Yq:List Sl->Option Sl:=Yi 2 (Yf (Ud (Je4 true (aC (e1 Wg (Jd 0)) a0)) (.tp (.cons (.nm 0) (.cons (.nm 1) .nil))) yes? (Vk (aC (e2 JN (e2 fIx (Jd 1) (eC (.int 0))) (e2 JdE (e2 JdE (eC (.int 2)) (Jd 2)) (Jd 0))) (aC (e2 JN (e2 fIx (Jd 1) (eC (.int 1))) (Jd 2)) a0))) [none,none,some 1]))
noncomputable def Y1:List Sl->Option Sl:=Yi 2 (Yf (eF Jbo (aC (eU 2 Yq (aC (Jd 0) (aC (Jd 1) a0))) a0)))
noncomputable def YO:List Sl->Option Sl:=Yi 2 (Yf (eF Jbp (aC (Ud (iE true (e1 Wg (Jd 0))) (.tp (.cons (.nm 0) (.cons (.nm 1) .nil))) yes? (eF JmN (aC (eC (.int 0)) (aC (eF Jae (aC (Jd 1) (aC (e2 Uh (Jd 2) (Jd 0)) a0))) a0))) [none,none,some 1]) a0)))
noncomputable def UF:List Sl->Option Sl:=Yi 8 (Ju (Jab 2 (Wf a0))
 (Ju (Jx 3 (eC (.int 0)))
 (Ju (Jaa (Je4 false (aC (Jd 1) a0)) (.tp (.cons (.nm 4) (.cons (.nm 5) .nil))) (Ju (Jx 6 (eU 2 YO (aC (Jd 0) (aC (Jd 5) a0))))
 (Ju (Jx 7 (e2 Uh (Jd 6) (Jd 3)))
 (Ju (JaW 2 (Vk (aC (e2 Uh (e2 JN (Jd 5) (e2 JdE (eC (.int 2)) (Jd 4))) (Jd 7)) (aC (e2 JN (Jd 7) (eC (.int 1))) a0))))
 (Jx 3 (Jd 6))))))
 (UN 2))))
noncomputable def U2:List Sl->Option Sl:=Yi 5 (Ju (xIf (tB? (e2 fGt (e2 JN (eF Vs (aC (e1 Wg (Jd 0)) a0)) (eF Jbp (aC (Ud (iE true (Jd 1)) (.tp (.cons (.nm 0) (.cons (.nm 1) .nil))) yes? (Jd 1) [none,none]) a0))) (eC (.int 30)))) UD JY)
 (Ju (Jab 2 (Ud (iE true (e1 Wg (Jd 0))) (.tp (.cons (.nm 0) (.cons (.nm 1) .nil))) yes? (e2 JN (Jd 0) (Jd 1)) [none,none]))
 (Ju (Jaa (iV 1) (.tp (.cons (.nm 3) (.cons (.nm 4) .nil))) (JjU 2 (e2 JmS (Wf (aC (Jd 3) a0)) (Jd 4))))
 (Yf (eF Jbo (aC (eU 2 UF (aC (Jd 0) (aC (eF Ja2 (aC (Jd 2) a0)) a0))) a0))))))
noncomputable def Yj:List Sl->Option Sl:=Yi 5 (Ju (Jx 1 (eC .non))
 (Ju (Jaa (iV 0) (.tp (.cons (.nm 2) (.cons (.nm 3) (.cons (.nm 4) .nil)))) (Ju (xIf (tOr? (tB? (e2 fLt (Jd 2) (eC (.int 1)))) (tB? (e2 fLt (Jd 4) (eC (.int 1))))) UD JY)
 (Ju (xIf (tAnd? (tB? (e2 VV (Jd 1) (eC .non))) (tB? (e2 Jkr (Vk (aC (Jd 2) (aC (Jd 3) a0))) (Jd 1)))) UD JY)
 (Jx 1 (Vk (aC (Jd 2) (aC (Jd 3) a0)))))))
 (xIf (tB? (e2 fGt (eF Jbp (aC (Ud (iE true (Jd 0)) (.tp (.cons (.nm 0) (.cons (.nm 1) (.cons (.nm 2) .nil)))) yes? (Jd 2) [none,none,none]) a0)) (eC (.int 30)))) UD JY)))
noncomputable def VF:List Sl->Option Sl:=Yi 8 (Ju (Jgd (eU 1 Yj (aC (Jd 0) a0)))
 (Ju (Jab 1 JhN)
 (Ju (Joy (iV 0) (.tp (.cons (.nm 2) (.cons (.nm 3) (.cons (.nm 4) .nil)))) 1 (Jd 2) (Vk (aC (Jd 3) (aC (Jd 4) a0))))
 (Ju (Jx 5 (Jgu (Jd 1)))
 (Ju (Jx 6 (eF Jbo (aC (Wf a0) a0)))
 (Ju (Jaa (JpI false (aC (Jkj (aC (e2 JN (Wf (aC (eC (.int 0)) a0)) (Jd 5)) (aC (Jd 5) a0))) a0)) (.tp (.cons (.nm 7) (.cons (.nm 2) .nil))) (Jx 6 (eU 2 Y1 (aC (eU 2 U2 (aC (Jd 6) (aC (Jmv (Jd 1) (Jd 2)) a0))) (aC (e2 Uh (e2 Uh (Jd 2) (Jd 7)) (eC (.int 1))) a0)))))
 (UN 6)))))))
noncomputable def UI:List Sl->Option Sl:=Yi 2 (Yf (eIf (tB? (e2 fIs (Jd 1) (eC .non))) (Jd 0) (eF Jae (aC (Jd 0) (aC (Jd 1) a0)))))
noncomputable def YR:List Sl->Option Sl:=Yi 1 (xIf (tAnd? (tB? (e2 VV (Jd 0) (eC .non))) (tB? (e2 fLt (Jd 0) (eC (.int 1))))) UD JY)
noncomputable def U8:List Sl->Option Sl:=Yi 3 (Ju (Jgd (eU 1 YR (aC (Jd 1) a0)))
 (Ju (Jgd (eU 1 Yj (aC (Jd 0) a0)))
 (Yf (Ud (iE true (Jd 0)) (.tp (.cons (.nm 0) (.cons (.nm 1) (.cons (.nm 2) .nil)))) yes? (Vk (aC (Jd 0) (aC (e2 JN (Jd 1) (e2 Jks (Jd 3) (eU 2 UI (aC (Jd 0) (aC (Jd 4) a0))))) (aC (Jd 2) a0)))) [none,none,none,some 2,some 1]))))
noncomputable def YZ:List Sl->Option Sl:=Yi 5 (Ju (Jab 1 (Wf a0))
 (Ju (Jaa (iV 0) (.tp (.cons (.nm 2) (.cons (.nm 3) .nil))) (xIf (tAnd? (tTru? (Jd 1)) (tB? (e2 fEq (eF Jbp (aC (e2 fIx (Jd 1) (e1 Jaf (eC (.int 1)))) a0)) (Jd 2)))) (Ju (Jmh 1 4 some)
 (JaW 1 (Vk (aC (e2 fIx (Jd 4) (eC (.int 0))) (aC (e2 JN (e2 fIx (Jd 4) (eC (.int 1))) (Jd 3)) a0))))) (xIf (tB? (e2 fGt (Jd 3) (eC (.int 0)))) (JaW 1 (Vk (aC (Jd 2) (aC (Jd 3) a0)))) JY)))
 (UN 1)))
noncomputable def U5:List Sl->Option Sl:=Yi 1 (Yf (Ud (JpJ true (aC (e1 Wg (Jd 0)) (aC (eSl (e1 Wg (Jd 0)) (some (eC (.int 1))) none) a0))) (.tp (.cons (.nm 0) (.cons (.nm 1) .nil))) yes? (e2 Uh (e2 fIx (Jd 1) (eC (.int 0))) (eF Jbp (aC (Jd 0) a0))) [none,none]))
noncomputable def Yh:List Sl->Option Sl:=Yi 1 (Yf (eF JhU (aC (e2 JN (Ud (iE true (e1 Wg (Jd 0))) (.tp (.cons (.nm 0) (.cons (.nm 1) .nil))) yes? (Jd 1) [none,none]) (eU 1 U5 (aC (Jd 0) a0))) a0)))
noncomputable def Yz:List Sl->Option Sl:=Yi 5 (Ju (Jx 2 (eF Jbo (aC (e1 Wg (Jd 0)) a0)))
 (Ju (Jx 3 (Jd 1))
 (Ju (Y5 (tAnd? (tB? (e2 fGt (Jd 3) (eC (.int 0)))) (tTru? (e1 Wg (Jd 2)))) (Ju (Jx 4 (eF Jae (aC (Jd 3) (aC (eU 1 Yh (aC (Jd 2) a0)) a0))))
 (Ju (Jx 2 (eF Jbo (aC (eU 1 YZ (aC (eU 2 Yq (aC (Jd 2) (aC (e1 Jaf (Jd 4)) a0))) a0)) a0)))
 (Jhs (fun i j=>i-j) 3 (Jd 4)))) 1000000)
 (UN 2))))
noncomputable def Uw:List Sl->Option Sl:=Yi 2 (Yf (eF JmI (aC (Ud (iE true (e1 Wg (Jd 0))) (.tp (.cons (.nm 0) (.cons (.nm 1) .nil))) yes? (Jgs fLe fLt (Jd 0) (Jd 2) (e2 JN (Jd 0) (Jd 1))) [none,none,some 1]) a0)))
noncomputable def U7:List Sl->Option Sl:=Yi 2 (Yf (eIf (tAnd? (tTru? (eU 2 Uw (aC (Jd 0) (aC (e2 Uh (Jd 1) (eC (.int 1))) a0)))) (tNot? (tTru? (eU 2 Uw (aC (Jd 0) (aC (Jd 1) a0)))))) (eC (.int 1)) (eC (.int 0))))
noncomputable def U3:List Sl->Option Sl:=Yi 6 (Ju (Jx 1 (eU 2 Yz (aC (Jd 0) (aC (eC (.int 1)) a0))))
 (Ju (Jab 2 JhN)
 (Ju (Jaa (Je4 false (aC (e1 Wg (Jd 0)) a0)) (.tp (.cons (.nm 3) (.cons (.nm 4) .nil))) (Ju (Jx 5 (e2 Uh (e2 Uh (eF Jbp (aC (Jd 4) a0)) (eC (.int 1))) (e2 JdE (eC (.int 2)) (Jd 3))))
 (JiL 2 (Jd 5) (e2 JN (Jgt (Jd 2) (Jd 5) (eC (.int 0))) (eC (.int 1))))))
 (JiM 2 (Yf (Ud (JgC (Jd 2)) (.tp (.cons (.nm 0) (.cons (.nm 1) .nil))) yes? (Vk (aC (Jd 0) (aC (Jd 1) (aC (eU 2 U7 (aC (Jd 2) (aC (Jd 0) a0))) a0)))) [none,none,some 1]))))))
noncomputable def UJ:List Sl->Option Sl:=Yi 5 (Ju (Jab 1 (Wf a0))
 (Ju (Jx 2 (Jd 0))
 (Ju (Jx 3 (eC (.int 0)))
 (Ju (Y5 (tTru? (e1 Wg (Jd 2))) (Ju (Jx 4 (eU 1 Yh (aC (Jd 2) a0)))
 (Ju (Jhs (fun i j=>i+j) 3 (Jd 4))
 (Ju (Jx 2 (eU 2 Yz (aC (Jd 2) (aC (e2 Uh (Jd 4) (eC (.int 1))) a0))))
 (Ju (JjU 1 (Ud (iE true (eU 1 U3 (aC (Jd 2) a0))) (.tp (.cons (.nm 0) (.cons (.nm 1) (.cons (.nm 2) .nil)))) (tB? (e2 fGt (Jd 1) (Jd 2))) (Vk (aC (Jd 3) (aC (Jd 0) (aC (e2 Uh (Jd 1) (Jd 2)) a0)))) [none,none,none,some 3]))
 (Jx 2 (eU 2 Yz (aC (Jd 2) (aC (eC (.int 1)) a0)))))))) 1000000)
 (UN 1)))))
noncomputable def Yp:List Sl->Option Sl:=Yi 3 (Yf (eU 1 VF (aC (eU 3 U8 (aC (eU 1 UJ (aC (Jd 0) a0)) (aC (Jd 1) (aC (Jd 2) a0)))) a0)))
noncomputable def JX:List Sl->Option Sl:=Yi 3 (Yf (eU 1 Ua (aC (eU 3 Yp (aC (e2 fIx (Jbm (Jd 0)) (e1 Jaf (eC (.int 1)))) (aC (Jd 1) (aC (Jd 2) a0)))) a0)))
noncomputable def YS:List Sl->Option Sl:=Yi 9 (Ju (Jx 2 (eC (.int 0)))
 (Ju (Jab 3 (Wf a0))
 (Ju (Jaa (iR1 (aC (eF Vs (aC (Jd 0) a0)) a0)) (.nm 4) (Ju (Jrw (.tp (.cons (.nm 5) (.cons (.nm 6) .nil))) (e2 fIx (Jd 0) (Jd 4)))
 (Ju (Jx 7 (Jd 6))
 (Ju (xIf (tB? (e2 VV (Jd 1) (eC .non))) (Jx 7 (eF Jae (aC (Jd 6) (aC (e2 Uh (Jd 1) (Jd 2)) a0)))) JY)
 (Ju (Jx 2 (e2 JN (Jd 2) (Jd 7)))
 (Ju (Jx 8 (Jd 2))
 (Ju (xIf (tB? (e2 fLt (e2 JN (Jd 4) (eC (.int 1))) (eF Vs (aC (Jd 0) a0)))) (Jx 8 (eF Jae (aC (Jd 2) (aC (e2 Uh (e2 Uh (e2 fIx (e2 fIx (Jd 0) (e2 JN (Jd 4) (eC (.int 1)))) (eC (.int 0))) (Jd 5)) (Jd 6)) a0)))) JY)
 (Ju (JaW 3 (Vk (aC (e2 JN (Jd 5) (Jd 7)) (aC (e2 JN (e2 Uh (Jd 6) (Jd 7)) (Jd 8)) a0))))
 (Jx 2 (e2 Uh (Jd 2) (Jd 8)))))))))))
 (UN 3))))
noncomputable def Y0:List Sl->Option Sl:=Yi 1 (Yf (e2 fIx (Wf (aC (eC .non) (aC (eC (.int 1)) (aC (eC (.int 2)) (aC (eC (.int 3)) (aC (e2 JN (eC (.int 1)) (e2 WX (e2 Je2 (Jd 0) (eC (.int 5))) (eC (.int 9)))) (aC (e2 JN (eC (.int 1)) (e2 WX (e2 Je2 (Jd 0) (eC (.int 5))) (e2 Jgx (eC (.int 10)) (eC (.int 30))))) a0))))))) (e2 WX (Jd 0) (eC (.int 6)))))
noncomputable def UH:List Sl->Option Sl:=Yi 3 (Ju (Jab 1 (eM UV (Jd 0) (aC (eC (.str "\n")) a0)))
 (Ju (Jmh 1 2 some)
 (Jox 1 (Yf (eIf (tB? (e2 fEq (Jd 2) (eC (.str "")))) (Jd 1) (e2 JN (Jd 1) (Wf (aC (eC .non) a0))))))))
noncomputable def J4:List Sl->Option Sl:=Yi 2 (Ju (Jx 1 (eIf (tTru? (eM Y2 (Jd 0) (aC (eC (.str "-")) a0))) (JeX (Jd 0) (some (eC (.int 1))) none) (Jd 0)))
 (Ju (xIf (tOr? (tB? (e2 fEq (Jd 1) (eC (.str "")))) (tB? (e2 fGt (eF Vs (aC (Jd 1) a0)) (eC (.int 200))))) (Yf (eC .non)) JY)
 (Ju (xIf (tNot? (tTru? (eF Jko (aC (Ud (iTx (Jd 1)) (.nm 0) yes? (e2 Jkp (Jd 0) (eC (.str "0123456789"))) [none]) a0)))) (Yf (eC .non)) JY)
 (Ju (xIf (tAnd? (tTru? (eM Y2 (Jd 1) (aC (eC (.str "0")) a0))) (tB? (e2 fNe (Jd 0) (eC (.str "0"))))) (Yf (eC .non)) JY)
 (Yf (eF Zx (aC (Jd 0) a0)))))))
noncomputable def J2:List Sl->Option Sl:=Yi 2 (Yf (eIf (tB? (e2 fLe (eF Vs (aC (eM Zy (Jd 0) (aC (eC (.str "-")) a0)) a0)) (Jd 1))) (eU 1 J4 (aC (Jd 0) a0)) (eC .non)))
noncomputable def YE:List Sl->Option Sl:=Yi 4 (Ju (xIf (tB? (e2 fIs (Jd 2) (eC .non))) (Yf (eC .non)) JY)
 (Ju (xIf (tB? (e2 fEq (Jd 1) (eC (.str "all")))) (Yf (eU 3 Yp (aC (Jd 0) (aC (eC .non) (aC (Jd 2) a0))))) JY)
 (Ju (Jx 3 (eU 2 J2 (aC (Jd 1) (aC (eC (.int 60)) a0))))
 (Yf (eIf (tOr? (tB? (e2 fIs (Jd 3) (eC .non))) (tB? (e2 fLt (Jd 3) (eC (.int 1))))) (eC .non) (eU 3 Yp (aC (Jd 0) (aC (Jd 3) (aC (Jd 2) a0)))))))))
noncomputable def YK:List Sl->Option Sl:=Yi 3 (Ju (xIf (tAnd? (tB? (e2 fEq (eF Vs (aC (Jd 1) a0)) (eC (.int 3)))) (tB? (e2 fEq (e2 fIx (Jd 1) (eC (.int 0))) (eC (.str "go"))))) (Yf (eU 3 YE (aC (Jd 0) (aC (e2 fIx (Jd 1) (eC (.int 1))) (aC (eU 2 J2 (aC (e2 fIx (Jd 1) (eC (.int 2))) (aC (eC (.int 30)) a0))) a0))))) JY)
 UD)
noncomputable def YQ:List Sl->Option Sl:=Yi 4 (Ju (Jx 3 (eIf (tB? (e2 fIs (Jd 1) (eC .non))) (eC .non) (eU 2 YK (aC (Jd 0) (aC (eM UV (Jd 1) (aC (eC (.str " ")) a0)) a0)))))
 (Ju (xIf (tB? (e2 fIs (Jd 3) (eC .non))) UD JY)
 (UN 3)))
noncomputable def JaC:Es:=(Ju (Jab 2 (eF JhT (aC (Jbm (Jd 0)) a0)))
 (Ju (Jaa (JgB false (aC (eU 1 UH (aC (Jd 1) a0)) a0)) (.tp (.cons (.nm 3) (.cons (.nm 4) .nil))) (xIf (tAnd? (tB? (e2 fEq (Jd 4) (eC (.str "back")))) (tB? (e2 fGt (eF Vs (aC (Jd 2) a0)) (eC (.int 1))))) (JiN 2) (JaW 2 (eU 3 YQ (aC (e2 fIx (Jd 2) (e1 Jaf (eC (.int 1)))) (aC (Jd 4) (aC (Jd 3) a0)))))))
 (Jox 2 (JeE 0 (Jd 2)))))
noncomputable def Ux:=doG JaC 3
noncomputable def Yt:List Sl->Option Sl:=Yi 1 (Ju (xIf (tB? (e2 fIs (Jd 0) (eC .non))) (Yf (eC (.str "all"))) JY)
 (Yf (eF Jcq (aC (Jd 0) a0))))
noncomputable def Ys:List Sl->Option Sl:=Yi 4 (Ju (Jab 1 (Wf a0))
 (Ju (Jaa (iE false (eSl (eM UV (JeX (Jd 0) none (some (e1 Jaf (eC (.int 1))))) (aC (eC (.str " ")) a0)) (some (eC (.int 1))) none)) (.nm 2) (Ju (Jx 3 (eM UV (Jd 2) (aC (eC (.str "+")) a0)))
 (JaW 1 (Vk (aC (eF Zx (aC (e2 fIx (Jd 3) (eC (.int 0))) a0)) (aC (eF Zx (aC (e2 fIx (Jd 3) (eC (.int 1))) a0)) a0))))))
 (UN 1)))
noncomputable def Vr:En->Option (D×En):=(V9 (Jx 4 (eU 1 J3 (aC (Jd 1) a0)))
 (V9 (Jx 5 (eMt 3 JX (Jd 0) (aC (Jd 2) (aC (Jd 3) a0))))
 (V9 (Jx 6 (eU 1 Ys (aC (Jd 5) a0)))
 (V9 (xIf (tOr? (tB? (e2 fNe (eMt 3 JX (Jd 0) (aC (Jd 2) (aC (eC (.int 0)) a0))) (Jd 4))) (tOr? (tB? (e2 fNe (eU 1 J3 (aC (Jd 6) a0)) (Jd 5))) (tB? (e2 fNe (eF Vs (aC (Jd 6) a0)) (eF Vs (aC (Jd 1) a0)))))) (Yf (eC (.bl false))) JY)
 (V9 (xIf (tB? (e2 fNe (eF Jbp (aC (Ud (iE true (Jd 6)) (.tp (.cons (.nm 0) (.cons (.nm 1) .nil))) yes? (Jd 1) [none,none]) a0)) (eF Jbp (aC (Ud (iE true (Jd 1)) (.tp (.cons (.nm 0) (.cons (.nm 1) .nil))) yes? (Jd 1) [none,none]) a0)))) (Yf (eC (.bl false))) JY)
 (V9 (xIf (tB? (e2 fNe (eU 1 J3 (aC (eU 2 YS (aC (Jd 6) (aC (Jd 2) a0))) a0)) (eMt 3 JX (Jd 0) (aC (Jd 2) (aC (e2 JN (Jd 3) (eC (.int 1))) a0))))) (Yf (eC (.bl false))) JY)
 (V9 (Jx 7 (eU 1 Yt (aC (Jd 2) a0)))
 (V9 (xDo 0 Ux (e2 JN (e2 JN (e2 JN (e2 JN (eC (.str "go ")) (Jd 7)) (eC (.str " "))) (eF Jcq (aC (Jd 3) a0))) (eC (.str "\n"))))
 (V9 (xIf (tB? (e2 fNe (eMt 1 Yg (Jd 0) a0) (Jd 5))) (Yf (eC (.bl false))) JY)
 (V9 (xDo 0 Ux (e2 JN (e2 JN (e2 JN (e2 JN (eC (.str "go ")) (Jd 7)) (eC (.str " "))) (eF Jcq (aC (e1 Jaf (Jd 3)) a0))) (eC (.str "\n"))))
 (JkL (e2 fEq (eMt 1 Yg (Jd 0) a0) (Jd 4)))))))))))))
noncomputable def YT:=ioG Vr 4
noncomputable def U6:List Sl->Option Sl:=Yi 2 (Ju (Jx 1 (e2 WX (e2 Je2 (Jd 0) (eC (.int 4))) (e2 Jgx (eC (.int 10)) (eC (.int 29)))))
 (Ju (xIf (tB? (e2 fEq (e2 WX (e2 Je2 (Jd 0) (eC (.int 2))) (eC (.int 2))) (eC (.int 1)))) (Jx 1 (e2 WX (Jd 1) (eC (.int 100)))) JY)
 (Ju (xIf (tB? (e2 fEq (e2 WX (Jd 0) (eC (.int 2))) (eC (.int 1)))) (Yf (e1 Jaf (Jd 1))) JY)
 (UN 1))))
noncomputable def Yn:List Sl->Option Sl:=Yi 4 (Ju (Jx 1 (eM WY (Jd 0) (aC (eC (.str "+")) a0)))
 (Ju (xIf (tB? (e2 fLt (Jd 1) (eC (.int 0)))) (Yf (eC .non)) JY)
 (Ju (Jx 2 (eU 1 J4 (aC (JeX (Jd 0) none (some (Jd 1))) a0)))
 (Ju (Jx 3 (eU 1 J4 (aC (JeX (Jd 0) (some (e2 JN (Jd 1) (eC (.int 1)))) none) a0)))
 (Ju (xIf (tOr? (tB? (e2 fIs (Jd 2) (eC .non))) (tOr? (tB? (e2 fIs (Jd 3) (eC .non))) (tB? (e2 fLt (Jd 3) (eC (.int 0)))))) (Yf (eC .non)) JY)
 (Yf (Vk (aC (Jd 2) (aC (Jd 3) a0)))))))))
noncomputable def Yu:List Sl->Option Sl:=Yi 3 (Ju (Jx 1 (eM UV (Jd 0) (aC (eC (.str " ")) a0)))
 (Ju (xIf (tB? (e2 fNe (e2 fIx (Jd 1) (eC (.int 0))) (eC (.str "row")))) (Yf (eC .non)) JY)
 (Ju (Jx 2 (Ud (iE true (eSl (Jd 1) (some (eC (.int 1))) none)) (.nm 0) yes? (eU 1 Yn (aC (Jd 0) a0)) [none]))
 (Yf (eIf (tB? (e2 JmL (eC .non) (Jd 2))) (eC .non) (Jd 2))))))
noncomputable def Zw:List Sl->Option Sl:=Yi 3 (Ju (Jx 1 (eM WY (Jd 0) (aC (eC (.str "\n")) a0)))
 (Ju (xIf (tB? (e2 fLt (Jd 1) (eC (.int 0)))) UD JY)
 (Ju (Jx 2 (eU 1 Yu (aC (JeX (Jd 0) none (some (Jd 1))) a0)))
 (Ju (xIf (tB? (e2 fIs (Jd 2) (eC .non))) UD JY)
 (Ju (xIf (tB? (e2 fLt (e2 JN (Jd 1) (eC (.int 1))) (eF Vs (aC (Jd 0) a0)))) UD JY)
 (Yf (eF Jbo (aC (Jd 2) a0))))))))
noncomputable def WS:Ev:=(Wf (aC (eU 1 Zw (aC (Jd 1) a0)) a0))
noncomputable def Ue:=diG WS 0
noncomputable def Yr:List Sl->Option Sl:=Yi 2 (Ju (xIf (tB? (e2 fLt (Jd 1) (eF Vs (aC (Jd 0) a0)))) (Yf (e2 fIx (Jd 0) (Jd 1))) JY)
 (Yf (eC (.int 0))))
noncomputable def Y6:List Sl->Option Sl:=Yi 9 (Ju (Jx 5 (e2 Uh (e2 WX (eU 2 Yr (aC (Jd 0) (aC (Jd 1) a0))) (e2 JN (e2 JdE (eC (.int 2)) (Jd 4)) (eC (.int 1)))) (Jd 4)))
 (Ju (Jab 6 (Wf a0))
 (Ju (Jaa (iR1 (aC (Jd 2) a0)) (.nm 7) (Ju (Jx 8 (e2 JN (eC (.int 1)) (e2 WX (eU 2 Yr (aC (Jd 0) (aC (e2 JN (e2 JN (Jd 1) (eC (.int 1))) (e2 JdE (eC (.int 2)) (Jd 7))) a0))) (Jd 3))))
 (Ju (JaW 6 (Vk (aC (Jd 5) (aC (Jd 8) a0))))
 (Jx 5 (e2 JN (e2 JN (e2 JN (Jd 5) (Jd 8)) (eC (.int 1))) (e2 WX (eU 2 Yr (aC (Jd 0) (aC (e2 JN (e2 JN (Jd 1) (eC (.int 2))) (e2 JdE (eC (.int 2)) (Jd 7))) a0))) (Jd 3)))))))
 (UN 6))))
noncomputable def UG:List Sl->Option Sl:=Yi 5 (Ju (Jx 2 (eU 2 Yr (aC (Jd 0) (aC (eC (.int 0)) a0))))
 (Ju (Jx 3 (e2 fIx (Wf (aC (eC (.int 2)) (aC (eC (.int 7)) (aC (eC (.int 1000)) (aC (e2 Jgx (eC (.int 10)) (eC (.int 30))) a0))))) (e2 WX (e2 Je2 (Jd 2) (eC (.int 31))) (eC (.int 4)))))
 (Ju (Jx 4 (e2 fIx (Wf (aC (eC (.int 3)) (aC (eC (.int 1000)) (aC (e2 Jgx (eC (.int 10)) (eC (.int 40))) a0)))) (e2 WX (e2 Je2 (Jd 2) (eC (.int 124))) (eC (.int 3)))))
 (Yf (eU 5 Y6 (aC (Jd 0) (aC (eC (.int 1)) (aC (e2 WX (Jd 2) (e2 JN (Jd 1) (eC (.int 1)))) (aC (Jd 3) (aC (Jd 4) a0))))))))))
noncomputable def Jgw:List Sl->Option Sl:=Yi 5 (Ju (Jx 1 (eU 2 UG (aC (Jd 0) (aC (eC (.int 12)) a0))))
 (Ju (Jab 2 (Jki Ue (eU 1 J3 (aC (Jd 1) a0))))
 (Ju (Joz (Jrt (Jf8 (JjR 2 4 YT (aC (Jd 1) (aC (eC .non) (aC (e1 Jaf (eC (.int 1))) a0))))) (Jf8 (JjR 2 4 YT (aC (Jd 1) (aC (eC (.int 2)) (aC (e2 Jgx (eC (.int 10)) (eC (.int 29))) a0)))))) (Yf (eC (.bl false))) JY)
 (Ju (Jaa (iR3 (aC (eC (.int 26)) (aC (eF Jae (aC (e2 Uh (eF Vs (aC (Jd 0) a0)) (eC (.int 1))) (aC (eC (.int 34)) a0))) (aC (eC (.int 2)) a0)))) (.nm 3) (Joz (Jf8 (JjR 2 4 YT (aC (Jd 1) (aC (eU 1 Y0 (aC (e2 fIx (Jd 0) (Jd 3)) a0)) (aC (eU 1 U6 (aC (e2 fIx (Jd 0) (e2 JN (Jd 3) (eC (.int 1)))) a0)) a0))))) (Yf (eC (.bl false))) JY))
 (Ju (Jaa (iR3 (aC (eC (.int 34)) (aC (e2 Uh (eF Vs (aC (Jd 0) a0)) (eC (.int 1))) (aC (eC (.int 2)) a0)))) (.nm 3) (Ju (Jx 4 (eU 1 Y0 (aC (e2 fIx (Jd 0) (Jd 3)) a0)))
 (xIf (tB? (e2 fNe (eMt 3 JX (Jd 2) (aC (Jd 4) (aC (eC (.int 1)) a0))) (eU 1 J3 (aC (eU 2 YS (aC (Jd 1) (aC (Jd 4) a0))) a0)))) (Yf (eC (.bl false))) JY)))
 (Yf (e2 fEq (eMt 1 Yg (Jd 2) a0) (eU 1 J3 (aC (Jd 1) a0)))))))))
end LK
end
namespace LK
open PySem L2 LR LE
local macro_rules | `(tactic| omega)=>`(tactic| first | lia | omega (config:={}))
local macro_rules | `(tactic| walk_at "sd")=>`(tactic| first | omega (config:={}) | assumption | (simp only[QC,QN,Lg,Qr,GL,Gy];omega (config:={})))
local macro_rules | `(tactic| walk_at "ev")=>`(tactic| simp -implicitDefEqProofs (disch:=walk_at "sd") only[Yi,Jog,Int.reduceToNat,Qr,GL,Nat.reduceAdd,Nat.reduceSub,Nat.reduceLT,Nat.reduceLeDiff,GG,Nat.zero_lt_succ,Nat.succ_lt_succ_iff,Rq,KI,KU,Gg,List.set_cons_zero,List.set_cons_succ,KM,List.getElem?_cons_zero,QN,Lg,List.length_set,QX,M8,Option.bind_none,Option.map_none,if_true,if_false,ite_true,ite_false,decide_true,decide_false,Bool.not_true,Bool.not_false,Bool.and_true,Bool.true_and,reduceIte,reduceCtorEq,Ko,Qi,G4,if_pos,
 Ju,Jki,eMt,Jbm,Zy,JkL,V9,lsD?,JjR,Jf8,Jrt,xDo,Joz,JiN,JeE,diG,xIf,Yf,UN,JY,Jab,Jx,Jrw,Jgd,JaW,JjU,Jmh,Jhs,JhN,Jmv,Jgt,JiL,JiM,JgC,Jgu,Jkj,JeX,Jkp,Y2,iTx,JmM,Sl.dk,int?,Jox,JmW,Jaa,tB?,tTru?,tAnd?,tOr?,tNot?,Jrr,e2,e1,Jd,eF,eM,eC,aC,a0,eU,ZQ,Sl.pass,Vk,Wf,Jag,Sl.frz,eIf,Jgs,sh?,bool?,str?,keep?,Jqo,Joa,Job,Jmz,JmA,
 JrS,JmP,Jkt,JmO,JmK,JmR,JmQ,JmD,JhS,JmE,JmF,JmG,JpE,JpD,JpC,JpF,JpB,JrV,JrU,JrT,JrW,JhV,JhT,JmN,Jae,Wg,Sl.q,Sl.r,Sl.m,Sl.d,Sl.it,fEq,fNe,Jpx,Jpy,fIs,VV,Jjg,Jje,Jji,Jjj,Jjf,Jjh,iE,iV,iR1,iR3,Ud,ZE,JpJ,JpI,Je4,JgB,JmL,Ja2,JhU,Jbz,eSl,Wo,fSl,JkI,JpK,JlS,JrH,JrI,Jmj,Jj0,Js2,eq_self])
noncomputable section
theorem JdW(ns:List Int)(k:Int)(hk:0<=k):Yr [.sh (.fz (ns.map .int)),.sh (.int k)]=some (.sh (.int (cell ns k))):=by
 unfold Yr;walk_at "ev"
 by_cases h:k<(ns.length:Int)
 ·simp only[h,Jdj,JeJ hk h];walk_at "ev"
 ·simp only[h,Jj9 h];walk_at "ev"
theorem Good.cons'{p:Pr}{ps:List Pr}(g:Good (p::ps)):Good ps:=⟨fun i q e=>g.one (i+1) q (by simpa using e),fun i q r e1 e2=>g.gap (i+1) q r (by simpa using e1) (by simpa using e2)⟩
theorem Good.all{ps:List Pr}(g:Good ps):∀p∈ps,1<=p.2:=fun p hp=>by obtain⟨i,hi,e⟩:=Gu.mp hp;exact g.one i p (by simp[hi,e])
theorem Good.first{p:Pr}:∀{ps:List Pr},Good (p::ps)->∀q∈ps,p.1+p.2<q.1
 | [],_,q,hq=>nomatch hq
 | r::ps,g,q,hq=>by
  have h1:=g.gap 0 p r rfl rfl;rcases Qp.mp hq with z|z
  ·rw[z];exact h1
  ·have h2:=Good.first (Good.cons' g) q z
   have h3:=g.one 1 r rfl;omega
theorem Good.pw:∀{ps:List Pr},Good ps->ps.Pairwise fun p q=>p.1+p.2<q.1
 | [],_=>.nil
 | p::ps,g=>.cons (Good.first g) (Good.pw (Good.cons' g))
theorem Jj2{α:Type}{xs:List α}{x:α}(h:xs[xs.length-1]?=some x):atI xs (-1)=some x:=by
 have hl:=(Qn.mp h).1;unfold atI ixN;rw[if_neg (by omega),if_pos (by omega)]
 have:((-1:Int)+(xs.length:Int)).toNat=xs.length-1:=by omega
 rw[this];exact h
theorem JdD(p:Pr):fIx (.sh (prE p)) (.sh (.int 0))=some (.sh (.int p.1)):=rfl
theorem Jkq(p:Pr):fIx (.sh (prE p)) (.sh (.int 1))=some (.sh (.int p.2)):=rfl
noncomputable def Vm:List Pr->List Int
 | []=>[]
 | [_]=>[]
 | p::q::r=>(q.1-(p.1+p.2))::Vm (q::r)
theorem JcQ:∀ps:List Pr,Vm ps=(List.zip ps (ps.drop 1)).map fun pq=>pq.2.1-(pq.1.1+pq.1.2)
 | []=>rfl
 | [_]=>rfl
 | p::q::r=>by rw[Vm,JcQ (q::r)];rfl
theorem JcP:∀ps:List Pr,(Vm ps).length=ps.length-1
 | []=>rfl
 | [_]=>rfl
 | p::q::r=>by rw[Vm,Qr,JcP (q::r)];simp
theorem JeQ{α:Type}(xs:List α):Jdw xs (some 1) none=xs.drop 1:=by
 unfold Jdw;have e:HT.sIx xs.length 0 (some 1)=min 1 xs.length:=rfl;rw[e,show HT.sIx xs.length xs.length none=xs.length from rfl]
 cases xs with
 | nil=>rfl
 | cons x xs=>simp
theorem Jqa(ps:List Pr)(h:ps.length<=1000):U5 [.sh (.row (ps.map prE))]=some (.own ((Vm ps).map .int)):=by
 unfold U5;walk_at "ev";rw[JeQ,<- List.map_drop,JiP];walk_at "ev";have hz:(List.zip ps (ps.drop 1)).length<=16777216:=by rw[M6];omega
 rw[if_pos hz,Yc (g:=fun pq=>D.int (pq.2.1-(pq.1.1+pq.1.2)))]
 ·walk_at "ev";rw[JcQ,QA];rfl
 ·intro pq _;walk_at "ev";rw[JdD];walk_at "ev";rw[Vl (ns:=[pq.1.1,pq.1.2]) rfl];walk_at "ev";simp
theorem JeV{α:Type}{xs r:List α}{x:α}{i:Nat}(e:xs.drop i=x::r):xs[i]?=some x/\xs.drop (i+1)=r:=by
 have h:(xs.drop i)[0]?=some x:=by rw[e];rfl
 rw[List.getElem?_drop] at h;refine⟨by simpa using h,?_⟩;have:xs.drop (i+1)=(xs.drop i).drop 1:=by rw[List.drop_drop]
 rw[this,e];rfl
theorem JeL{α:Type}{xs:List α}{k:Nat}{x:α}(h:xs[k]?=some x):atI xs (k:Int)=some x:=by obtain⟨h1,h2⟩:=Qn.mp h;rw[JeK h1,h2]
theorem Good.mk'{p:Pr}{ps:List Pr}(h1:1<=p.2)(h2:∀q,ps[0]?=some q->p.1+p.2<q.1)(g:Good ps):Good (p::ps):=by
 refine⟨fun i q e=>?_,fun i q r e1 e2=>?_⟩
 ·cases i with
  | zero=>simp at e;subst e;exact h1
  | succ i=>exact g.one i q (by simpa using e)
 ·cases i with
  | zero=>simp at e1;subst e1;exact h2 r (by simpa using e2)
  | succ i=>exact g.gap i q r (by simpa using e1) (by simpa using e2)
noncomputable def byF(k:Int)(ps:List Pr):List Pr:=ps.mapIdx fun i p=>(p.1+2*k*(i:Int),p.2+k)
theorem Wm(k:Int)(ps:List Pr):(byF k ps).length=ps.length:=by unfold byF;rw[Mh]
theorem Jdn{k:Int}{ps:List Pr}{i:Nat}{x:Pr}(e:(byF k ps)[i]?=some x):∃p,ps[i]?=some p/\x=(p.1+2*k*(i:Int),p.2+k):=by unfold byF at e;rw[QH,Q5] at e;obtain⟨p,h,rfl⟩:=e;exact⟨p,h,rfl⟩
theorem JhB(a b:Int)(ps:List Pr):byF a (byF b ps)=byF (a+b) ps:=by
 refine GA fun i=>?_
 unfold byF;rw[QH,QH,QH,KG]
 cases ps[i]? with
 | none=>rfl
 | some p=>show some (p.1+2*b*(i:Int)+2*a*(i:Int),p.2+b+a)=some (p.1+2*(a+b)*(i:Int),p.2+(a+b));rw[Mw,Kw];congr 2 <;> omega
theorem Zp(ps:List Pr):byF 0 ps=ps:=by
 refine GA fun i=>?_
 unfold byF;rw[QH]
 cases ps[i]? with
 | none=>rfl
 | some p=>simp
structure Wide (c:Int) (ps:List Pr):Prop where
 one:∀(i:Nat) (p:Pr),ps[i]?=some p->c<=p.2
 gap:∀(i:Nat) (p q:Pr),ps[i]?=some p->ps[i+1]?=some q->c<=q.1-(p.1+p.2)
theorem Wide.good{c:Int}{ps:List Pr}(h:1<=c)(w:Wide c ps):Good ps:=⟨fun i p e=>by have:=w.one i p e;omega,fun i p q e1 e2=>by have:=w.gap i p q e1 e2;omega⟩
theorem Wide.bys{c k:Int}{ps:List Pr}(w:Wide c ps):Wide (c+k) (byF k ps):=by
 refine⟨fun i x e=>?_,fun i x y e1 e2=>?_⟩
 ·obtain⟨p,h,rfl⟩:=Jdn e;have:=w.one i p h;dsimp only;omega
 ·obtain⟨p,h1,rfl⟩:=Jdn e1;obtain⟨q,h2,rfl⟩:=Jdn e2;have:=w.gap i p q h1 h2;have em:2*k*((i+1:Nat):Int)=2*k*(i:Int)+2*k:=by rw[GM,Mw];simp
  dsimp only;rw[em];omega
theorem Wide.mono{c c':Int}{ps:List Pr}(h:c'<=c)(w:Wide c ps):Wide c' ps:=⟨fun i p e=>by have:=w.one i p e;omega,fun i p q e1 e2=>by have:=w.gap i p q e1 e2;omega⟩
theorem Wide.cons{c:Int}{p:Pr}{ps:List Pr}(w:Wide c (p::ps)):Wide c ps:=⟨fun i q e=>w.one (i+1) q (by simpa using e),fun i q r e1 e2=>w.gap (i+1) q r (by simpa using e1) (by simpa using e2)⟩
noncomputable def clF:Pr->List Pr->List Pr
 | cur,[]=>[cur]
 | cur,p::r=>if cur.1+cur.2=p.1 then clF (cur.1,cur.2+p.2) r else if 0<p.2 then cur::clF p r else clF cur r
noncomputable def clN:List Pr->List Pr
 | []=>[]
 | p::r=>if 0<p.2 then clF p r else clN r
theorem Jka:∀(cur:Pr) (r:List Pr),Good (cur::r)->clF cur r=cur::r
 | cur,[],_=>rfl
 | cur,p::r,g=>by
  have h1:=g.gap 0 cur p rfl rfl
  have h2:=g.one 1 p rfl;rw[clF,if_neg (by omega),if_pos (by omega),Jka p r (Good.cons' g)]
theorem Jdu{ps:List Pr}(g:Good ps):clN ps=ps:=by
 cases ps with
 | nil=>rfl
 | cons p r=>rw[clN,if_pos (by have:=g.one 0 p rfl;omega),Jka p r g]
theorem Zq:∀(cur:Pr) (r:List Pr),1<=cur.2->Wide 0 r->(∀q,r[0]?=some q->cur.1+cur.2<=q.1)->Good (clF cur r)/\∃q,(clF cur r)[0]?=some q/\q.1=cur.1
 | cur,[],h,_,_=>⟨Good.mk' h (fun q e=>by simp at e) Good.nil,cur,rfl,rfl⟩
 | cur,p::r,h,w,hq=>by
  have h0:=w.one 0 p rfl
  have hb:=hq p rfl
  have nx:∀q,r[0]?=some q->p.1+p.2<=q.1:=fun q e=>by have:=w.gap 0 p q rfl (by simpa using e);omega
  rw[clF];split
  ·next e=>exact Zq (cur.1,cur.2+p.2) r (by dsimp only;omega) w.cons fun q e'=>by have:=nx q e';dsimp only;omega
  ·next e =>
   split
   ·next hp=>obtain⟨g,q,e1,e2⟩:=Zq p r (by omega) w.cons nx;exact⟨Good.mk' h (fun q' e'=>by rw[e1] at e';cases e';omega) g,cur,rfl,rfl⟩
   ·next hp=>exact Zq cur r h w.cons fun q e'=>by have:=nx q e';omega
theorem Jbk:∀(ps:List Pr),Wide 0 ps->Good (clN ps)
 | [],_=>Good.nil
 | p::r,w=>by
  rw[clN];split
  ·next h=>exact(Zq p r (by omega) w.cons fun q e=>by have:=w.gap 0 p q rfl (by simpa using e);omega).1
  ·exact Jbk r w.cons
theorem JaZ:∀(cur:Pr) (r:List Pr),(clF cur r).length<=r.length+1/\((clF cur r).length=r.length+1->(∀p∈r,0<p.2)/\∀(i:Nat) (p q:Pr),(cur::r)[i]?=some p->(cur::r)[i+1]?=some q->p.1+p.2≠q.1)
 | cur,[]=>⟨Qo _,fun _=>⟨fun p hp=>(by cases hp),fun i p q _ e=>(by simp at e)⟩⟩
 | cur,p::r=>by
  rw[clF,Qr];split
  ·next e=>have ih:=(JaZ (cur.1,cur.2+p.2) r).1;exact⟨by omega,fun h=>by omega⟩
  ·next e =>
   split
   ·next hp =>
    obtain⟨i1,i2⟩:=JaZ p r;refine⟨by rw[Qr];omega,fun h=>?_⟩;obtain⟨a1,a2⟩:=i2 (by rw[Qr] at h;omega);refine⟨fun q hq=>?_,fun i x y e1 e2=>?_⟩
    ·rcases Qp.mp hq with z|z
     ·rw[z];exact hp
     ·exact a1 q z
    ·cases i with
     | zero=>simp at e1 e2;subst e1 e2;exact e
     | succ i=>exact a2 i x y (by simpa using e1) (by simpa using e2)
   ·have ih:=(JaZ cur r).1;exact⟨by omega,fun h=>by omega⟩
theorem Zr:∀(ps:List Pr),(clN ps).length<=ps.length/\((clN ps).length=ps.length->(∀p∈ps,0<p.2)/\∀(i:Nat) (p q:Pr),ps[i]?=some p->ps[i+1]?=some q->p.1+p.2≠q.1)
 | []=>⟨Qo _,fun _=>⟨fun p hp=>(by cases hp),fun i p q e=>(by simp at e)⟩⟩
 | p::r=>by
  rw[clN,Qr];split
  ·next hp=>obtain⟨i1,i2⟩:=JaZ p r;refine⟨i1,fun h=>?_⟩;obtain⟨a1,a2⟩:=i2 h;exact⟨fun q hq=>(Qp.mp hq).elim (fun z=>z▸hp) (a1 q),a2⟩
  ·have ih:=(Zr r).1;exact⟨by omega,fun h=>by omega⟩
noncomputable def thF(ps:List Pr):List Pr:=clN (byF (-1) ps)
noncomputable def thN:Nat->List Pr->List Pr
 | 0,ps=>ps
 | n+1,ps=>thN n (thF ps)
theorem Jez(a b:Nat):∀ps:List Pr,thN (a+b) ps=thN b (thN a ps):=by
 induction a with
 | zero=>intro ps;rw[RS];rfl
 | succ a ih=>intro ps;rw[Nat.succ_add];exact ih (thF ps)
theorem JiH:∀n,thN n []=[]
 | 0=>rfl
 | n+1=>JiH n
theorem Yy{ps:List Pr}(g:Good ps):Good (thF ps):=Jbk _ (by
 have w:Wide 1 ps:=⟨fun i p e=>g.one i p e,fun i p q e1 e2=>by have:=g.gap i p q e1 e2;omega⟩
 exact w.bys (k:=-1))
theorem Vi:∀(n:Nat) {ps:List Pr},Good ps->Good (thN n ps)
 | 0,_,g=>g
 | n+1,_,g=>Vi n (Yy g)
theorem Jce:∀(n:Nat) {c:Int} {ps:List Pr},Wide c ps->1<=c->((n:Int)<=c)->thN n ps=clN (byF (-(n:Int)) ps)
 | 0,c,ps,w,h1,_=>by show ps=clN (byF (-((0:Nat):Int)) ps);rw[show -((0:Nat):Int)=0 by simp,Zp,Jdu (w.good h1)]
 | n+1,c,ps,w,h1,hn=>by
  show thN n (thF ps)=_
  by_cases h:n=0
  ·subst h;rfl
  ·have w1:Wide (c+-1) (byF (-1) ps):=w.bys
   have e:thF ps=byF (-1) ps:=Jdu (w1.good (by omega));rw[e,Jce n w1 (by omega) (by omega),JhB];congr 2;omega
theorem Jcf{n:Nat}{c:Int}{ps:List Pr}(w:Wide c ps)(h1:1<=c)(h:(n:Int)<c):thN n ps=byF (-(n:Int)) ps:=by rw[Jce n w h1 (by omega),Jdu ((w.bys (k:=-(n:Int))).good (by omega))]
noncomputable def Jj1(c:Int)(ps:List Pr):Prop:=(∃p∈ps,p.2=c)\/∃(i:Nat) (p q:Pr),ps[i]?=some p/\ps[i+1]?=some q/\q.1-(p.1+p.2)=c
theorem Jcg{c:Int}{ps:List Pr}(t:Jj1 c ps):(clN (byF (-c) ps)).length<ps.length:=by
 obtain⟨h1,h2⟩:=Zr (byF (-c) ps);rw[Wm] at h1 h2;rcases RP (clN (byF (-c) ps)).length ps.length with h|h
 ·exact h
 ·obtain⟨a1,a2⟩:=h2 (by omega)
  exfalso
  rcases t with ⟨p,hp,e⟩|⟨i,p,q,e1,e2,e⟩
  ·obtain⟨i,hi,rfl⟩:=Gu.mp hp
   have hx:(byF (-c) ps)[i]?=some (ps[i].1+2*-c*(i:Int),ps[i].2+-c):=by unfold byF;rw[QH,G6 hi];rfl
   have:=a1 _ (QG hx);dsimp only at this;omega
  ·have hx:(byF (-c) ps)[i]?=some (p.1+2*-c*(i:Int),p.2+-c):=by unfold byF;rw[QH,e1];rfl
   have hy:(byF (-c) ps)[i+1]?=some (q.1+2*-c*((i+1:Nat):Int),q.2+-c):=by unfold byF;rw[QH,e2];rfl
   have:=a2 i _ _ hx hy
   have em:2*-c*((i+1:Nat):Int)=2*-c*(i:Int)+2*-c:=by rw[GM,Mw];simp
   dsimp only at this;rw[em] at this;omega
noncomputable def zs(n:Nat):List Int:=Qv n 0
noncomputable def os(n:Nat):List Int:=Qv n 1
noncomputable def byR:Int->List Pr->List Pr
 | _,[]=>[]
 | c,p::r=>(p.1-c,p.2-1)::byR (c+2) r
theorem JhA:∀(ps:List Pr) (c:Int),byR c ps=ps.mapIdx fun i p=>(p.1+2*(-1)*(i:Int)-c,p.2+-1)
 | [],c=>rfl
 | p::r,c=>by
  rw[byR,List.mapIdx_cons,JhA r (c+2)];congr 1
  ·congr 1;simp
  ·refine GA fun i=>?_
   rw[QH,QH]
   cases r[i]? with
   | none=>rfl
   | some q=>simp only[M8,GM];congr 2;omega
theorem WJ(ps:List Pr):byR 0 ps=byF (-1) ps:=by
 rw[JhA];unfold byF;congr 1
 funext i p
 congr 1;omega
theorem Y3{ps:List Pr}(g:Good ps):Wide 1 ps:=⟨fun i p e=>g.one i p e,fun i p q e1 e2=>by have:=g.gap i p q e1 e2;omega⟩
theorem Jbj:∀(r:List Pr) (cur:Pr),∃q,(clF cur r)[0]?=some q/\q.1=cur.1
 | [],cur=>⟨cur,rfl,rfl⟩
 | p::r,cur=>by
  rw[clF];split
  ·obtain⟨q,h1,h2⟩:=Jbj r (cur.1,cur.2+p.2);exact⟨q,h1,h2⟩
  ·split
   ·exact⟨cur,rfl,rfl⟩
   ·exact Jbj r cur
theorem Jaz:∀(n:Nat) (ps:List Pr),thN (n+1) ps=thF (thN n ps)
 | 0,ps=>rfl
 | n+1,ps=>by show thN (n+1) (thF ps)=thF (thN n (thF ps));exact Jaz n (thF ps)
noncomputable def tkS(x prev pos:Int)(acc:List Pr):List Pr :=
 if x=1/\prev=1 then acc.dropLast++[((acc.getLastD (0,0)).1,(acc.getLastD (0,0)).2+1)] else if x=1 then acc++[(pos,1)] else acc
noncomputable def tk:Int->Int->List Pr->List Int->List Pr
 | _,_,acc,[]=>acc
 | prev,pos,acc,x::r=>tk x (pos+1) (tkS x prev pos acc) r
noncomputable def JJ(ps:List Pr)(x:Int):Int:=(ps.map fun p=>max 0 (min p.2 (x-p.1))).sum
theorem JO(p:Pr)(ps:List Pr)(x:Int):JJ (p::ps) x=max 0 (min p.2 (x-p.1))+JJ ps x:=by unfold JJ;rw[Qi,QF]
theorem Jbg{ps:List Pr}{x:Int}(h:∀p∈ps,x<=p.1):JJ ps x=0:=by
 induction ps with
 | nil=>rfl
 | cons p ps ih=>have h1:=h p Qg;rw[JO,ih fun q hq=>h q (Qh _ hq)];omega
noncomputable def J5(ps:List Pr)(y:Int):Bool:=ps.any fun p=>decide (p.1<=y) && decide (y<p.1+p.2)
theorem has_iff{ps:List Pr}{y:Int}:J5 ps y=true↔∃p∈ps,p.1<=y/\y<p.1+p.2:=by unfold J5;rw[MN];simp
theorem JdN{ps:List Pr}{y:Int}(h:∀p∈ps,p.1<=y->p.1+p.2<=y):J5 ps y=false:=by
 cases e:J5 ps y with
 | false=>rfl
 | true=>obtain⟨p,hp,h1,h2⟩:=has_iff.mp e;have:=h p hp h1;omega
theorem Jsc{l d:Int}(h0:0<=d)(h1:d<l):max 0 (min l (d+1))=max 0 (min l d)+1:=by rw[Gn (by omega),Gn (by omega),G2 (by omega),G2 h0]
theorem Jqe{l d:Int}(hl:0<=l)(h:d<0\/l<=d):max 0 (min l (d+1))=max 0 (min l d):=by
 rcases h with h|h
 ·rw[Gn (by omega),Gn (by omega),Ln (by omega),Ln (by omega)]
 ·rw[GN (by omega),GN h]
theorem Jbf(y:Int):∀{ps:List Pr},Good ps->JJ ps (y+1)=JJ ps y+(if J5 ps y=true then 1 else 0)
 | [],_=>rfl
 | p::ps,g=>by
  have ih:=Jbf y (Good.cons' g)
  have hp:=g.one 0 p rfl;rw[JO,JO,ih]
  by_cases h1:p.1<=y/\y<p.1+p.2
  ·have e1:J5 (p::ps) y=true:=has_iff.mpr ⟨p,Qg,h1⟩
   have e2:J5 ps y=false:=JdN fun q hq hy=>by
    have:=Good.first g q hq
    omega
   rw[e1,e2,if_pos rfl,if_neg (by simp),show y+1-p.1=y-p.1+1 by omega,Jsc (show 0<=y-p.1 by omega) (show y-p.1<p.2 by omega)]
   generalize max 0 (min p.2 (y-p.1))=m
   omega
  ·have e1:J5 (p::ps) y=J5 ps y:=by
    unfold J5;rw[GU]
    have:(decide (p.1<=y) && decide (y<p.1+p.2))=false:=by
     cases h:(decide (p.1<=y) && decide (y<p.1+p.2)) with
     | false=>rfl
     | true=>rw[Q9,decide_eq_true_eq,decide_eq_true_eq] at h;exact absurd h h1
    rw[this,G5]
   rw[e1,show y+1-p.1=y-p.1+1 by omega,Jqe (show 0<=p.2 by omega) (show y-p.1<0\/p.2<=y-p.1 by omega),MH]
theorem Yk(p:Pr)(ps:List Pr)(x:Int):J5 (p::ps) x=((decide (p.1<=x) && decide (x<p.1+p.2)) || J5 ps x):=by unfold J5;rw[GU]
theorem Jah{p:Pr}{ps:List Pr}{x:Int}(h1:p.1<=x)(h2:x<p.1+p.2):J5 (p::ps) x=true:=has_iff.mpr ⟨p,Qg,h1,h2⟩
theorem JdO{p:Pr}{ps:List Pr}{x:Int}(h:p.1+p.2<=x):J5 (p::ps) x=J5 ps x:=by rw[Yk];have:decide (x<p.1+p.2)=false:=decide_eq_false (by omega);rw[this,Lv,G5]
theorem VX{ps:List Pr}{x:Int}(h:∀p∈ps,x<p.1):J5 ps x=false:=JdN fun p hp hx=>by have:=h p hp;omega
theorem JdM:∀{ps qs:List Pr},Good ps->Good qs->(∀x,J5 ps x=J5 qs x)->ps=qs
 | [],[],_,_,_=>rfl
 | [],q::qs,_,g,h=>by have:=h q.1;rw[Jah (QK _) (by have:=g.one 0 q rfl;omega)] at this;cases this
 | p::ps,[],g,_,h=>by have:=h p.1;rw[Jah (QK _) (by have:=g.one 0 p rfl;omega)] at this;cases this
 | p::ps,q::qs,g,g',h=>by
  have hp:=g.one 0 p rfl
  have hq:=g'.one 0 q rfl
  have le:∀{p:Pr} {ps:List Pr} {x:Int},Good (p::ps)->J5 (p::ps) x=true->p.1<=x:=fun {p ps x} g e=>by
   obtain⟨r,hr,h1,h2⟩:=has_iff.mp e;rcases Qp.mp hr with z|z
   ·rw[<- z];exact h1
   ·have:=Good.first g r z
    have:=g.one 0 p rfl;omega
  have e1:p.1=q.1:=by
   have a:=le g' (x:=p.1) (by rw[<- h];exact Jah (QK _) (by omega))
   have b:=le g (x:=q.1) (by rw[h];exact Jah (QK _) (by omega));omega
  have off:∀{p:Pr} {ps:List Pr},Good (p::ps)->J5 (p::ps) (p.1+p.2)=false:=fun {p ps} g=>by rw[JdO (QK _)];exact VX fun z hz=>Good.first g z hz
  have e2:p.2=q.2:=by
   have a:=h (p.1+p.2);rw[off g] at a
   have b:=h (q.1+q.2);rw[off g'] at b
   by_cases c:p.2<q.2
   ·rw[Jah (p:=q) (by omega) (by omega)] at a;cases a
   ·by_cases c':q.2<p.2
    ·rw[Jah (p:=p) (by omega) (by omega)] at b;cases b
    ·omega
  have e:p=q:=Lh e1 e2;subst e;rw[JdM (Good.cons' g) (Good.cons' g') fun x=>?_]
  by_cases c:p.1+p.2<=x
  ·have:=h x
   rwa [JdO c,JdO c] at this
  ·rw[VX fun z hz=>by have:=Good.first g z hz;omega,VX fun z hz=>by have:=Good.first g' z hz;omega]
theorem Jjn(a b:Int):a<b\/b<=a:=by omega
theorem WV{ps:List Pr}(h:∀p∈ps,0<=p.2){x y:Int}(hxy:x<=y):JJ ps x<=JJ ps y:=by
 induction ps with
 | nil=>exact QK _
 | cons p r ih =>
  have i:=ih fun q hq=>h q (Qh _ hq)
  rw[JO,JO];exact Int.add_le_add (Mj.mpr ⟨Lo _ _,RT (RH.mpr ⟨LY _ _,RT (Ki _ _) (by omega)⟩) (Int.le_max_right _ _)⟩) i
theorem VS{ps:List Pr}(g:Good ps){a:Int}:∀n:Nat,JJ ps (a+(n:Int))<=JJ ps a+(n:Int)/\((∀y,a<=y->y<a+(n:Int)->J5 ps y=true)->JJ ps (a+(n:Int))=JJ ps a+(n:Int))/\((∀y,a<=y->y<a+(n:Int)->J5 ps y=false)->JJ ps (a+(n:Int))=JJ ps a)
 | 0=>by simp
 | n+1=>by
  obtain⟨i1,i2,i3⟩:=VS g (a:=a) n;have e:a+((n+1:Nat):Int)=a+(n:Int)+1:=by omega
  rw[e,Jbf (a+(n:Int)) g];refine⟨by split <;> omega,fun h=>?_,fun h=>?_⟩
  ·rw[if_pos (h (a+(n:Int)) (by omega) (by omega)),i2 fun y h1 h2=>h y h1 (by omega)];omega
  ·rw[if_neg (by rw[h (a+(n:Int)) (by omega) (by omega)];simp),i3 fun y h1 h2=>h y h1 (by omega),LA]
theorem WI{ps:List Pr}(g:Good ps){x y:Int}(h:x<=y):JJ ps y<=JJ ps x+(y-x):=by have:=(VS g (a:=x) (y-x).toNat).1;rw[show x+((y-x).toNat:Int)=y by omega] at this;omega
theorem Jgk{ps:List Pr}(g:Good ps){x y:Int}(h:x<=y)(hb:∀z,x<=z->z<y->J5 ps z=true):JJ ps y=JJ ps x+(y-x):=by
 have:=(VS g (a:=x) (y-x).toNat).2.1 fun z h1 h2=>hb z h1 (by omega (config:={}))
 rw[show x+((y-x).toNat:Int)=y by omega (config:={})] at this;omega (config:={})
theorem Jgj{ps:List Pr}(g:Good ps){x y:Int}(h:x<=y)(hb:∀z,x<=z->z<y->J5 ps z=false):JJ ps y=JJ ps x:=by
 have:=(VS g (a:=x) (y-x).toNat).2.2 fun z h1 h2=>hb z h1 (by omega (config:={}))
 rw[show x+((y-x).toNat:Int)=y by omega (config:={})] at this;omega (config:={})
noncomputable def edF(ps:List Pr):Nat->Int->List Int->List Pr
 | _,_,[]=>[]
 | i,c,s::r=>(s+2*(i:Int)-(JJ ps s-c),JJ ps s-c+1)::edF ps (i+1) (JJ ps s) r
noncomputable def flF(ps:List Pr):Int->List Int->List Pr
 | _,[]=>[]
 | c,s::r=>(s-(JJ ps s-c),JJ ps s-c)::flF ps (JJ ps s) r
theorem JoE(ps:List Pr):∀(sp:List Int) (i:Nat) (c:Int),byR (2*(i:Int)) (edF ps i c sp)=flF ps c sp
 | [],_,_=>rfl
 | s::r,i,c=>by
  rw[edF,byR,flF];congr 1
  ·congr 1 <;> dsimp only <;> omega
  ·rw[<- JoE ps r (i+1) (JJ ps s)];congr 1
theorem Jkk(ps:List Pr):∀(sp:List Int) (i:Nat) (c:Int),(edF ps i c sp).length=sp.length
 | [],_,_=>rfl
 | s::r,i,c=>by rw[edF,Qr,Qr,Jkk ps r]
theorem JhQ{ps:List Pr}(g:Good ps):∀(sp:List Int) (i:Nat) (s0:Int),(s0::sp).Pairwise (·<=·)->Good (edF ps i (JJ ps s0) sp)
 | [],_,_,_=>Good.nil
 | s::r,i,s0,hs=>by
  obtain⟨h1,h2⟩:=Q6.mp hs;have h3:=h1 s Qg;have m1:=WV (fun p hp=>by have:=Good.all g p hp;omega) h3;rw[edF];refine Good.mk' (by dsimp only;omega) (fun q e=>?_) (JhQ g r (i+1) s h2)
  cases r with
  | nil=>simp[edF] at e
  | cons s' r=>obtain⟨h4,_⟩:=Q6.mp h2;have h5:=h4 s' Qg;have l1:=WI g h5;simp[edF] at e;subst e;dsimp only;omega
theorem JhW{ps:List Pr}(g:Good ps):∀(sp:List Int) (s0:Int),(s0::sp).Pairwise (·<=·)->Wide 0 (flF ps (JJ ps s0) sp)
 | [],_,_=>⟨fun i p e=>by simp[flF] at e,fun i p q e=>by simp[flF] at e⟩
 | s::r,s0,hs=>by
  obtain⟨h1,h2⟩:=Q6.mp hs;have h3:=h1 s Qg;have m1:=WV (fun p hp=>by have:=Good.all g p hp;omega) h3;have ih:=JhW g r s h2;rw[flF];refine⟨fun i p e=>?_,fun i p q e1 e2=>?_⟩
  ·cases i with
   | zero=>simp at e;subst e;dsimp only;omega
   | succ i=>exact ih.one i p (by simpa using e)
  ·cases i with
   | zero =>
    simp at e1;subst e1
    cases r with
    | nil=>simp[flF] at e2
    | cons s' r=>obtain⟨h4,_⟩:=Q6.mp h2;have h5:=h4 s' Qg;have l1:=WI g h5;simp[flF] at e2;subst e2;dsimp only;omega
   | succ i=>exact ih.gap i p q (by simpa using e1) (by simpa using e2)
theorem Jkw{ps:List Pr}(g:Good ps):∀(sp:List Int) (s0:Int),(s0::sp).Pairwise (·<=·)->(∀p∈ps,s0<p.1+p.2->p.1+p.2∈sp) ->
 (∀x,s0<=x->J5 (flF ps (JJ ps s0) sp) x=J5 ps x)/\∀x,x<s0->J5 (flF ps (JJ ps s0) sp) x=false
 | [],s0,_,he=>by
  refine⟨fun x hx=>?_,fun x hx=>rfl⟩
  have:J5 ps x=false:=JdN fun p hp h1=>by
   rcases Jjn s0 (p.1+p.2) with z|z
   ·cases he p hp z
   ·omega
  rw[this];rfl
 | s::r,s0,hs,he=>by
  obtain⟨h1,h2⟩:=Q6.mp hs;have h3:=h1 s Qg;have hr:∀t∈r,s<=t:=(Q6.mp h2).1
  have lip:=WI g h3
  obtain⟨i1,i2⟩:=Jkw g r s h2 fun p hp h=>by
   rcases Qp.mp (he p hp (by omega)) with z|z
   ·omega
   ·exact z
  have run:∀y,s0<=y->y<s->J5 ps y=true->∀z,y<=z->z<s->J5 ps z=true:=fun y y1 y2 hy z z1 z2=>by
   obtain⟨p,hp,a1,a2⟩:=has_iff.mp hy
   have:s<=p.1+p.2:=by
    rcases Qp.mp (he p hp (by omega)) with w|w
    ·omega
    ·exact hr _ w
   exact has_iff.mpr ⟨p,hp,by omega,by omega⟩
  rw[flF];refine⟨fun x hx=>?_,fun x hx=>?_⟩
  ·rw[Yk];rcases Jjn x s with hxs|hxs
   ·rw[i2 x hxs,LM];dsimp only
    cases hb:J5 ps x with
    | true =>
     have f1:=Jgk g (x:=x) (y:=s) (by omega) fun z z1 z2=>run x hx hxs hb z z1 z2
     have f2:=WV (ps:=ps) (fun p hp=>by have:=Good.all g p hp;omega) hx;rw[decide_eq_true (by omega),decide_eq_true (by omega)];rfl
    | false =>
     have f1:=Jgj g (x:=s0) (y:=x+1) (by omega) fun z z1 z2=>by
      cases hz:J5 ps z with
      | false=>rfl
      | true=>have:=run z z1 (by omega) hz x (by omega) hxs;rw[hb] at this;cases this
     have f2:=WI g (x:=x+1) (y:=s) (by omega);rw[decide_eq_false (by omega)];rfl
   ·rw[i1 x hxs];dsimp only;rw[decide_eq_false (p:=x<_) (by omega),Lv,G5]
  ·rw[Yk,i2 x (by omega)];dsimp only;rw[decide_eq_false (by omega)];rfl
theorem Jp5(ps:List Pr)(sp:List Int):∃s0,(∀p∈ps,s0<p.1)/\∀s∈sp,s0<s:=by
 have h1:∃a,∀p∈ps,a<p.1:=by
  induction ps with
  | nil=>exact⟨0,fun p hp=>by cases hp⟩
  | cons p r ih =>
   obtain⟨a,ha⟩:=ih;refine⟨min a (p.1-1),fun q hq=>?_⟩;rcases Qp.mp hq with z|z
   ·subst z;omega (config:={})
   ·have:=ha q z;omega (config:={})
 have h2:∃a,∀s∈sp,a<s:=by
  induction sp with
  | nil=>exact⟨0,fun p hp=>by cases hp⟩
  | cons p r ih =>
   obtain⟨a,ha⟩:=ih;refine⟨min a (p-1),fun q hq=>?_⟩;rcases Qp.mp hq with z|z
   ·subst z;omega (config:={})
   ·have:=ha q z;omega (config:={})
 obtain⟨a,ha⟩:=h1;obtain⟨b,hb⟩:=h2;exact⟨min a b,fun p hp=>by have:=ha p hp;omega (config:={}),fun s hs=>by have:=hb s hs;omega (config:={})⟩
theorem JaY(x:Int):∀(r:List Pr) (cur:Pr),(∀p∈r,0<=p.2)->0<=cur.2->J5 (clF cur r) x=J5 (cur::r) x
 | [],cur,_,_=>rfl
 | p::r,cur,h,hc=>by
  have h0:=h p Qg
  have hr:=fun q hq=>h q (Qh p hq)
  rw[clF];split
  ·next e=>rw[JaY x r _ hr (by dsimp only;omega),Yk,Yk,Yk,<- LN];congr 1;rw[GC];simp only[Lk,Q9,decide_eq_true_eq];constructor <;> intro z <;> omega
  ·split
   ·rw[Yk,JaY x r p hr h0,<- Yk]
   ·rw[JaY x r cur hr hc,Yk,Yk cur,Yk p];rw[show(decide (p.1<=x) && decide (x<p.1+p.2))=false by
     rw[Rf];rcases Jjn x p.1 with z|z
     ·exact .inl (decide_eq_false (by omega))
     ·exact .inr (decide_eq_false (by omega)),G5]
theorem Jdt(x:Int):∀(ps:List Pr),(∀p∈ps,0<=p.2)->J5 (clN ps) x=J5 ps x
 | [],_=>rfl
 | p::r,h=>by
  have h0:=h p Qg
  have hr:=fun q hq=>h q (Qh p hq)
  rw[clN];split
  ·exact JaY x r p hr h0
  ·rw[Jdt x r hr,Yk p];rw[show(decide (p.1<=x) && decide (x<p.1+p.2))=false by
    rw[Rf];rcases Jjn x p.1 with z|z
    ·exact .inl (decide_eq_false (by omega))
    ·exact .inr (decide_eq_false (by omega)),G5]
theorem Jrq{ps:List Pr}(g:Good ps){sp:List Int}(hs:sp.Pairwise (·<=·))(he:∀p∈ps,p.1+p.2∈sp):Good (edF ps 0 0 sp)/\thF (edF ps 0 0 sp)=ps:=by
 obtain⟨s0,l1,l2⟩:=Jp5 ps sp;have hb:JJ ps s0=0:=Jbg fun p hp=>by have:=l1 p hp;omega
 have hs':(s0::sp).Pairwise (·<=·):=Q6.mpr ⟨fun s h=>by have:=l2 s h;omega,hs⟩
 have ge:=JhQ g sp 0 s0 hs'
 have wd:=JhW g sp s0 hs';obtain⟨f1,f2⟩:=Jkw g sp s0 hs' fun p hp _=>he p hp
 rw[hb] at ge wd f1 f2;refine⟨ge,?_⟩
 have e:thF (edF ps 0 0 sp)=clN (flF ps 0 sp):=by unfold thF;rw[<- WJ,<- JoE ps sp 0 0];rfl
 refine JdM (Yy ge) g fun x=>?_
 rw[e,Jdt x _ fun p hp=>by obtain⟨i,hi,rfl⟩:=Gu.mp hp;exact wd.one i _ (by simp)]
 rcases Jjn x s0 with z|z
 ·rw[f2 x z,VX fun p hp=>by have:=l1 p hp;omega]
 ·exact f1 x z
noncomputable def YN:List Pr->Int->List Pr
 | [],s=>[(s,1)]
 | p::r,s=>if p.1=s then(p.1,p.2+1)::r else p::YN r s
theorem VH(s:Int):∀a:List Pr,(YN a s).map (·.1)=Y7 (a.map (·.1)) s
 | []=>rfl
 | p::r=>by
  have ih:=VH s r;unfold Y7 WZ at ih ⊢;rw[YN,Qi,GU]
  by_cases h:p.1=s
  ·rw[if_pos h,decide_eq_true h,RN,if_pos rfl];rfl
  ·rw[if_neg h,decide_eq_false h,G5,Qi,ih];split <;> rfl
theorem JfS:∀(ks:List Int) (vs:List Int) (s v:Int),s∉ks->setK ks vs s v=vs
 | [],_,_,_,_=>rfl
 | _::_,[],_,_,_=>rfl
 | k::ks,x::vs,s,v,h=>by rw[setK,if_neg fun e=>h (by rw[e];exact Qg),JfS ks vs s v fun m=>h (Qh _ m)]
theorem hasK_mem{ks:List Int}{s:Int}:WZ ks s=true↔s∈ks:=by
 unfold WZ;rw[MN];constructor
 ·rintro⟨k,hk,e⟩;rw[decide_eq_true_eq] at e;subst e;exact hk
 ·intro h;exact⟨s,h,decide_eq_true rfl⟩
theorem JcR(s:Int):∀a:List Pr,(a.map (·.1)).Nodup->(YN a s).map (·.2)=putDs (a.map (·.1)) (a.map (·.2)) s ((look (a.map (·.1)) (a.map (·.2)) s).getD 0+1)
 | [],_=>rfl
 | p::r,hn=>by
  rw[Qi,Ge] at hn;have ih:=JcR s r hn.2;rw[YN,Qi,Qi]
  by_cases h:p.1=s
  ·rw[if_pos h];unfold putDs;rw[if_pos (hasK_mem.mpr (by rw[h];exact Qg)),look,if_pos h,setK,if_pos h,JfS _ _ _ _ (by rw[<- h];exact hn.1)];rfl
  ·rw[if_neg h,Qi,ih,look,if_neg h];unfold putDs
   have e:WZ (p.1::r.map (·.1)) s=WZ (r.map (·.1)) s:=by unfold WZ;rw[GU,decide_eq_false h,G5]
   rw[e];split
   ·rw[setK,if_neg h]
   ·rfl
theorem JaK{ks:List Int}(s:Int)(h:ks.Nodup):(Y7 ks s).Nodup:=by
 unfold Y7;split
 ·exact h
 ·next c =>
  rw[Mu];refine⟨h,by simp,fun a ha b hb=>?_⟩;have:b=s:=by simpa using hb
  subst this;intro e;subst e;exact c (hasK_mem.mpr ha)
noncomputable def lk(k:Int):List Pr->Int
 | []=>0
 | p::r=>if p.1=k then p.2 else lk k r
theorem Jh9(k s:Int):∀a:List Pr,lk k (YN a s)=lk k a+(if s=k then 1 else 0)
 | []=>by simp[YN,lk]
 | p::r=>by
  rw[YN]
  by_cases h:p.1=s
  ·rw[if_pos h,lk,lk];dsimp only
   by_cases c:p.1=k
   ·rw[if_pos c,if_pos c,if_pos (by omega)]
   ·rw[if_neg c,if_neg c,if_neg (by omega),LA]
  ·rw[if_neg h,lk,lk,Jh9 k s r]
   by_cases c:p.1=k
   ·rw[if_pos c,if_pos c,if_neg (by omega),LA]
   ·rw[if_neg c,if_neg c]
theorem JgI{a:List Pr}(hn:(a.map (·.1)).Nodup){p:Pr}(hp:p∈a):lk p.1 a=p.2:=by
 induction a with
 | nil=>cases hp
 | cons q r ih =>
  rw[Qi,Ge] at hn;rw[lk];rcases Qp.mp hp with z|z
  ·subst z;rw[if_pos rfl]
  ·rw[if_neg fun e=>hn.1 (by rw[e];exact QT.mpr ⟨p,z,rfl⟩)];exact ih hn.2 z
noncomputable def UU(L:List Int):List Pr:=L.foldl YN []
theorem JhF:∀(L:List Int) (a:List Pr),(a.map (·.1)).Nodup->((L.foldl YN a).map (·.1)).Nodup/\(∀k,lk k (L.foldl YN a)=lk k a+(L.count k:Int))/\∀k,k∈(L.foldl YN a).map (·.1)↔k∈a.map (·.1)\/k∈L
 | [],a,h=>⟨h,fun k=>by simp,fun k=>by simp⟩
 | s::L,a,h=>by
  have hk:=VH s a
  have hn:((YN a s).map (·.1)).Nodup:=by rw[hk];exact JaK s h
  obtain⟨i1,i2,i3⟩:=JhF L (YN a s) hn;refine⟨i1,fun k=>?_,fun k=>?_⟩
  ·rw[Ga,i2 k,Jh9,Gq]
   by_cases c:s=k
   ·rw[if_pos c,if_pos (by simpa using c)];omega
   ·rw[if_neg c,if_neg (by simpa using c)];omega
  ·rw[Ga,i3 k,hk];unfold Y7;split
   ·next c =>
    have c':=hasK_mem.mp c;constructor
    ·rintro(z|z)
     ·exact .inl z
     ·exact .inr (Qh _ z)
    ·rintro(z|z)
     ·exact .inl z
     ·rcases Qp.mp z with w|w
      ·subst w;exact .inl c'
      ·exact .inr w
   ·rw[Go,KO,Qp,or_assoc]
theorem Jkd(L:List Int):((UU L).map (·.1)).Nodup/\(∀p∈UU L,p.2=(L.count p.1:Int)/\p.1∈L)/\∀k∈L,(k,(L.count k:Int))∈UU L:=by
 obtain⟨i1,i2,i3⟩:=JhF L [] (by simp)
 have v:∀p∈UU L,p.2=(L.count p.1:Int):=fun p hp=>by rw[<- JgI i1 hp];have:=i2 p.1;rw[show lk p.1 []=0 from rfl,Ld] at this;exact this
 refine⟨i1,fun p hp=>⟨v p hp,?_⟩,fun k hk=>?_⟩
 ·have:=(i3 p.1).mp (QT.mpr ⟨p,hp,rfl⟩)
  simpa using this
 ·obtain⟨p,hp,e⟩:=QT.mp ((i3 k).mpr (.inr hk));subst e;rw[<- v p hp];exact hp
theorem JhG:∀(L:List Int) (a:List Pr),(a.map (·.1)++L).Nodup->L.foldl YN a=a++L.map fun s=>(s,1)
 | [],a,_=>by simp
 | s::L,a,h=>by
  have e:YN a s=a++[(s,1)]:=by
   have hs:s∉a.map (·.1):=fun m=>by have:=(Mu.mp h).2.2 s m s Qg;exact this rfl
   clear h
   induction a with
   | nil=>rfl
   | cons p r ih=>rw[YN,if_neg fun z=>hs (by rw[<- z];exact Qg),ih fun m=>hs (Qh _ m)];rfl
  rw[Ga,e,JhG L (a++[(s,1)]) (by simpa using h)];simp
theorem Jff(ps:List Pr)(x:Int)(h:ps.length<=1000):Uw [.sh (.row (ps.map prE)),.sh (.int x)]=some (.sh (.bl (J5 ps x))):=by
 unfold Uw;walk_at "ev";rw[Yc (g:=fun p=>D.bl (decide (p.1<=x) && decide (x<p.1+p.2)))]
 ·walk_at "ev";rw[JmJ (ns:=ps.map fun p=>decide (p.1<=x) && decide (x<p.1+p.2)) (by simp[Sl.q])];walk_at "ev";unfold J5;rw[List.any_map];rfl
 ·intro p hp;simp only[prE];walk_at "ev"
  by_cases c:p.1<=x
  ·simp only[c];walk_at "ev"
  ·simp only[c];walk_at "ev";rfl
theorem Jng(ps:List Pr)(x:Int)(h:ps.length<=1000):YO [.sh (.row (ps.map prE)),.sh (.int x)]=some (.sh (.int (JJ ps x))):=by
 unfold YO;walk_at "ev";rw[Yc (g:=fun p=>D.int (max 0 (min p.2 (x-p.1))))]
 ·walk_at "ev";rw[Vl (ns:=ps.map fun p=>max 0 (min p.2 (x-p.1))) (by simp[Sl.q])];walk_at "ev";rfl
 ·intro p hp;simp only[prE];walk_at "ev"
theorem Ja5{α β:Type}(f:Nat->α->β)(xs:List α):xs.mapIdx f=xs.zipIdx.map fun x=>f x.2 x.1:=by
 refine GA fun i=>?_
 rw[QH,Qt,La,KG];simp;rfl
theorem Jr6(ps:List Pr)(k:Int)(h:ps.length<=1000):Yq [.sh (.row (ps.map prE)),.sh (.int k)]=some (.own ((byF k ps).map prE)):=by
 unfold Yq;walk_at "ev";rw[Jbn,Ja5,Yc (g:=fun x:Pr×Nat=>prE (x.1.1+2*k*(x.2:Int),x.1.2+k))]
 ·rw[if_pos (by rw[QN,List.length_zipIdx];omega (config:={}))];walk_at "ev";rw[show ps.zipIdx.map (fun x=>prE (x.1.1+2*k*(x.2:Int),x.1.2+k))=(byF k ps).map prE by unfold byF;rw[Ja5,QA];rfl]
 ·intro x hx
  have hx2:x.2<ps.length:=by have:=List.snd_lt_of_mem_zipIdx hx;omega (config:={})
  walk_at "ev";rw[JdD,Jkq];walk_at "ev";rfl
theorem Jpq{ps:List Pr}(g:Good ps)(hne:ps≠[]):∃c,(ps.map (·.2)++Vm ps).min?=some c/\1<=c/\Wide c ps/\Jj1 c ps:=by
 cases hm:(ps.map (·.2)++Vm ps).min? with
 | none =>
  rw[List.min?_eq_none_iff] at hm
  cases ps with
  | nil=>exact absurd rfl hne
  | cons p r=>simp at hm
 | some c =>
  obtain⟨h1,h2⟩:=Rc.mp hm
  have gg:∀(ps:List Pr) (x:Int),x∈Vm ps->∃(i:Nat) (p q:Pr),ps[i]?=some p/\ps[i+1]?=some q/\q.1-(p.1+p.2)=x:=by
   intro ps
   induction ps with
   | nil=>intro x hx;cases hx
   | cons p r ih =>
    intro x hx
    cases r with
    | nil=>cases hx
    | cons q r =>
     rcases Qp.mp hx with z|z
     ·exact⟨0,p,q,rfl,rfl,z.symm⟩
     ·obtain⟨i,a,b,e1,e2,e3⟩:=ih x z;exact⟨i+1,a,b,by simpa using e1,by simpa using e2,e3⟩
  have gm:∀(ps:List Pr) (i:Nat) (p q:Pr),ps[i]?=some p->ps[i+1]?=some q->q.1-(p.1+p.2)∈Vm ps:=by
   intro ps
   induction ps with
   | nil=>intro i p q e;simp at e
   | cons a r ih =>
    intro i p q e1 e2
    cases r with
    | nil=>simp at e2
    | cons b r =>
     cases i with
     | zero=>simp at e1 e2;subst e1 e2;exact Qg
     | succ i=>exact Qh _ (ih i p q (by simpa using e1) (by simpa using e2))
  have w:Wide c ps:=⟨fun i p e=>h2 _ (K3 _ (QT.mpr ⟨p,QG e,rfl⟩)),fun i p q e1 e2=>h2 _ (Gr _ (gm ps i p q e1 e2))⟩
  have t:Jj1 c ps:=by
   rcases Go.mp h1 with z|z
   ·obtain⟨p,hp,e⟩:=QT.mp z;exact .inl ⟨p,hp,e⟩
   ·exact .inr (gg ps c z)
  refine⟨c,rfl,?_,w,t⟩;rcases t with ⟨p,hp,e⟩|⟨i,p,q,e1,e2,e⟩
  ·have:=Good.all g p hp;omega
  ·have:=g.gap i p q e1 e2;omega
theorem Jfg(ps:List Pr)(h:ps.length<=1000):Yh [.sh (.row (ps.map prE))]=some (match (ps.map (·.2)++Vm ps).min? with|some c=>.sh (.int c)|none=>.sh .non):=by
 have hgl:=JcP ps;unfold Yh;walk_at "ev";rw[Yc (g:=fun p=>D.int p.2)]
 ·walk_at "ev";rw[Jqa _ h];walk_at "ev";rw[show ps.map (fun p=>D.int p.2)++(Vm ps).map .int=(ps.map (·.2)++Vm ps).map D.int by rw[Q2,QA];rfl];walk_at "ev";cases (ps.map (·.2)++Vm ps).min? <;> rfl
 ·intro p hp;simp only[prE];walk_at "ev"
noncomputable def VT(acc:List Pr)(p:Pr):List Pr:=match acc[acc.length-1]? with
 | some q=>if q.1+q.2=p.1 then acc.dropLast++[(q.1,q.2+p.2)] else if 0<p.2 then acc++[p] else acc
 | none=>if 0<p.2 then acc++[p] else acc
theorem Zs:∀(r acc:List Pr) (cur:Pr),r.foldl VT (acc++[cur])=acc++clF cur r
 | [],acc,cur=>rfl
 | p::r,acc,cur=>by
  have e:(acc++[cur])[(acc++[cur]).length-1]?=some cur:=by simp
  have es:VT (acc++[cur]) p=if cur.1+cur.2=p.1 then acc++[(cur.1,cur.2+p.2)] else if 0<p.2 then acc++[cur]++[p] else acc++[cur]:=by unfold VT;rw[e];dsimp only;rw[List.dropLast_concat]
  rw[Ga,clF,es];split
  ·exact Zs r acc _
  ·split
   ·rw[Zs r (acc++[cur]) p,Kx];rfl
   ·exact Zs r acc cur
theorem JcJ:∀ps:List Pr,ps.foldl VT []=clN ps
 | []=>rfl
 | p::r=>by
  rw[Ga,clN];show r.foldl VT (if 0<p.2 then []++[p] else [])=_;split
  ·exact Zs r [] p
  ·exact JcJ r
theorem JkV(ps:List Pr)(h:ps.length<=1000):YZ [.sh (.lst (ps.map prE))]=some (.own ((clN ps).map prE)):=by
 unfold YZ;walk_at "ev";rw[GX];refine VI (fun(rest:List Pr) (acc:List Pr) E=>∃j2 j3 j4,E=[.sh (.lst (ps.map prE)),.own (acc.map prE),j2,j3,j4]/\acc.length+rest.length<=1000) VT [] ⟨.no,.no,.no,rfl,by simpa using h⟩ ?_ ?_
 ·rintro p rest acc E ⟨j2,j3,j4,rfl,hz⟩;rw[Qr] at hz;simp only[prE];walk_at "ev"
  cases he:acc[acc.length-1]? with
  | none =>
   have hn:acc=[]:=by
    cases acc with
    | nil=>rfl
    | cons a acc=>simp at he
   subst hn;rw[show(!(([]:List Pr).map prE).isEmpty)=false from rfl];walk_at "ev";have es:VT [] p=if 0<p.2 then [p] else []:=rfl
   rw[es]
   by_cases c:0<p.2
   ·rw[decide_eq_true c,if_pos c];walk_at "ev";exact⟨.sh (.int p.1),.sh (.int p.2),j4,rfl,by simp at hz ⊢;omega⟩
   ·rw[decide_eq_false c,if_neg c];walk_at "ev";exact⟨.sh (.int p.1),.sh (.int p.2),j4,rfl,by simp at hz ⊢;omega⟩
  | some q =>
   have hl0:acc.length-1<acc.length:=(Qn.mp he).1
   have hne:(!(acc.map prE).isEmpty)=true:=by cases acc with|nil=>simp at he|cons _ _=>rfl
   have hgq:(acc.map prE)[acc.length-1]?=some (prE q):=by rw[Qt,he];rfl
   have es:VT acc p=if q.1+q.2=p.1 then acc.dropLast++[(q.1,q.2+p.2)] else if 0<p.2 then acc++[p] else acc:=by unfold VT;rw[he]
   have hdl:acc.dropLast.length=acc.length-1:=List.length_dropLast;rw[hne,Jdj,Jj2 he,es];walk_at "ev";rw[Vl (s:=.sh (prE q)) (ns:=[q.1,q.2]) rfl];walk_at "ev";rw[show([q.1,q.2]:List Int).sum=q.1+q.2 by simp]
   by_cases c:q.1+q.2=p.1
   ·rw[decide_eq_true c,if_pos c,hgq];walk_at "ev";rw[<- List.map_dropLast];walk_at "ev";rw[JdD,Jkq];walk_at "ev";refine⟨.sh (.int p.1),.sh (.int p.2),.sh (prE q),?_,by rw[QC,Gy];omega⟩;rw[Q2];rfl
   ·rw[decide_eq_false c,if_neg c];walk_at "ev"
    by_cases c2:0<p.2
    ·rw[decide_eq_true c2,if_pos c2];walk_at "ev";refine⟨.sh (.int p.1),.sh (.int p.2),j4,?_,by rw[QC,Gy];omega⟩;rw[Q2];rfl
    ·rw[decide_eq_false c2,if_neg c2];walk_at "ev";exact⟨.sh (.int p.1),.sh (.int p.2),j4,rfl,by omega⟩
 ·rintro E' ⟨j2,j3,j4,rfl,_⟩;rw[JcJ];walk_at "ev"
noncomputable abbrev wC:En->Option Bool:=(tAnd? (tB? (e2 fGt (Jd 3) (eC (.int 0)))) (tTru? (e1 Wg (Jd 2))))
noncomputable abbrev wB:Es:=(Ju (Jx 4 (eF Jae (aC (Jd 3) (aC (eU 1 Yh (aC (Jd 2) a0)) a0)))) (Ju (Jx 2 (eF Jbo (aC (eU 1 YZ (aC (eU 2 Yq (aC (Jd 2) (aC (e1 Jaf (Jd 4)) a0))) a0)) a0))) (Jhs (fun i j=>i-j) 3 (Jd 4))))
theorem Zm(x y:Sl)(left:List Pr)(n:Nat)(j4:Sl)(fuel:Nat)(h:n=0\/left=[]) :
 ((Y5 wC wB (fuel+1) [x,y,.sh (.row (left.map prE)),.sh (.int (n:Int)),j4]).bind (Jhd (UN 2))).bind Jgv=some (.sh (.row ((thN n left).map prE))):=by
 have e:thN n left=left:=by
  rcases h with rfl|rfl
  ·rfl
  ·exact JiH n
 rw[e,Y5]
 have hc:wC [x,y,.sh (.row (left.map prE)),.sh (.int (n:Int)),j4]=some false:=by
  show tAnd? _ _ _=_;walk_at "ev";rcases h with rfl | rfl
  ·rw[show decide ((0:Int)<((0:Nat):Int))=false from rfl];walk_at "ev"
  ·by_cases c:(0:Int)<(n:Int)
   ·rw[decide_eq_true c];walk_at "ev";rfl
   ·rw[decide_eq_false c];walk_at "ev"
 rw[hc];walk_at "ev"
theorem Jmf(x y:Sl):∀(m fuel:Nat) (left:List Pr) (n:Nat) (j4:Sl),Good left->left.length<=m->left.length<=30->m<fuel ->
 ((Y5 wC wB fuel [x,y,.sh (.row (left.map prE)),.sh (.int (n:Int)),j4]).bind (Jhd (UN 2))).bind Jgv=some (.sh (.row ((thN n left).map prE))):=by
 intro m
 induction m with
 | zero =>
  intro fuel left n j4 g hm _ hf;obtain⟨f,rfl⟩:∃f,fuel=f+1:=⟨fuel-1,by omega⟩
  exact Zm x y left n j4 f (.inr (Q1 (by omega)))
 | succ m ih =>
  intro fuel left n j4 g hm h30 hf;obtain⟨f,rfl⟩:∃f,fuel=f+1:=⟨fuel-1,by omega⟩
  by_cases h0:n=0\/left=[]
  ·exact Zm x y left n j4 f h0
  ·have hn:n≠0:=fun z=>h0 (.inl z)
   have hl:left≠[]:=fun z=>h0 (.inr z)
   obtain⟨c,hc,c1,w,t⟩:=Jpq g hl;obtain⟨a,ha⟩:∃a:Nat,(a:Int)=min (n:Int) c:=⟨(min (n:Int) c).toNat,by omega⟩
   have hcl:=Jfg left (by omega);rw[hc] at hcl
   have et:thN a left=clN (byF (-(a:Int)) left):=Jce a w c1 (by omega)
   have gt:Good (thN a left):=Vi a g
   have lt:=(Zr (byF (-(a:Int)) left)).1;rw[Wm,<- et] at lt
   have hcond:wC [x,y,.sh (.row (left.map prE)),.sh (.int (n:Int)),j4]=some true:=by
    show tAnd? _ _ _=_;walk_at "ev";rw[decide_eq_true (show(0:Int)<(n:Int) by omega)];walk_at "ev"
    cases left with
    | nil=>exact absurd rfl hl
    | cons _ _=>rfl
   have hbody:wB [x,y,.sh (.row (left.map prE)),.sh (.int (n:Int)),j4]=some (.nx [x,y,.sh (.row ((thN a left).map prE)),.sh (.int ((n-a:Nat):Int)),.sh (.int (a:Int))]):=by show Ju _ _ _=_;walk_at "ev";rw[hcl];walk_at "ev";rw[<- ha,Jr6 _ _ (by omega)];walk_at "ev";rw[JkV _ (by rw[Wm];omega),<- et];walk_at "ev";rw[WK rfl gt (by omega)];walk_at "ev";rw[show(n:Int)-(a:Int)=((n-a:Nat):Int) by omega]
   have fin:thN n left=thN (n-a) (thN a left):=by rw[<- Jez];congr 1;omega
   rw[Y5,hcond,QX,if_pos rfl,hbody,QX,fin];dsimp only
   by_cases hac:(a:Int)=c
   ·have fw:=Jcg t;rw[<- hac,<- et] at fw;exact ih f _ _ _ gt (by omega) (by omega) (by omega)
   ·obtain⟨f',rfl⟩:∃f',f=f'+1:=⟨f-1,by omega⟩
    exact Zm x y _ _ _ f' (.inl (by omega))
theorem Jak(ps:List Pr)(n:Nat)(g:Good ps)(h30:ps.length<=30):Yz [.sh (.row (ps.map prE)),.sh (.int (n:Int))]=some (.sh (.row ((thN n ps).map prE))):=by unfold Yz;rw[show ∀(k:Nat) (s:Es) (ss:List Sl),Yi k s ss=Yi k s ss from fun _ _ _=>rfl];have hw:=Jmf (.sh (.row (ps.map prE))) (.sh (.int (n:Int))) 30 1000000 ps n .no g h30 h30 (by decide);walk_at "ev";rw[WK rfl g h30];walk_at "ev";exact hw
noncomputable abbrev Tr:=Int×Int×Int
noncomputable def trE(t:Tr):D:=.tup [.int t.1,.int t.2.1,.int t.2.2]
noncomputable def owF(left:List Pr)(s:Int):Int:=if J5 left (s-1)=true/\J5 left s=false then 1 else 0
theorem Jqc(ps:List Pr)(s:Int)(h:ps.length<=1000):U7 [.sh (.row (ps.map prE)),.sh (.int s)]=some (.sh (.int (owF ps s))):=by
 unfold U7 owF;walk_at "ev";rw[Jff _ _ h];walk_at "ev"
 cases h1:J5 ps (s-1) with
 | false=>walk_at "ev";rw[if_neg (by simp)]
 | true =>
  walk_at "ev";rw[Jff _ _ h];walk_at "ev"
  cases h2:J5 ps s with
  | false=>walk_at "ev";rw[if_pos (by simp)]
  | true=>walk_at "ev";rw[if_neg (by simp)]
theorem Jfd{α β:Type}(f:α->β):∀(ks:List Int) (vs:List α) (n:Int),look ks (vs.map f) n=(look ks vs n).map f
 | [],_,_=>rfl
 | _::_,[],_=>rfl
 | k::ks,v::vs,n=>by
  rw[Qi];simp only[look];split
  ·rfl
  ·exact Jfd f ks vs n
theorem JfR{α β:Type}(f:α->β):∀(ks:List Int) (vs:List α) (n:Int) (v:α),setK ks (vs.map f) n (f v)=(setK ks vs n v).map f
 | [],_,_,_=>rfl
 | _::_,[],_,_=>rfl
 | k::ks,x::vs,n,v=>by rw[Qi];simp only[setK,Qi];rw[JfR f ks vs n v];split <;> rfl
theorem JjD{α β:Type}(f:α->β)(ks:List Int)(vs:List α)(n:Int)(v:α):putDs ks (vs.map f) n (f v)=(putDs ks vs n v).map f:=by
 unfold putDs;split
 ·exact JfR f ks vs n v
 ·rw[Q2];rfl
theorem JkS(ks:List Int)(vs:List Int)(n z:Int):(look ks (vs.map D.int) n).getD (.int z)=.int ((look ks vs n).getD z):=by rw[Jfd];cases look ks vs n <;> rfl
theorem Je7(a:List Pr)(s:Int):(YN a s).length<=a.length+1:=by
 induction a with
 | nil=>simp[YN]
 | cons p r ih =>
  rw[YN];split
  ·simp
  ·simp only[Qr];omega
theorem JpU(a:List Pr):JkM (a.map (·.1)) ((a.map (·.2)).map D.int)=a.map prE:=by
 unfold JkM
 induction a with
 | nil=>rfl
 | cons p r ih=>simp only[Qi,List.zipWith_cons_cons,ih];rfl
noncomputable def spF(qs:List Pr):List Int:=qs.zipIdx.map fun x=>x.1.1+x.1.2-1-2*(x.2:Int)
noncomputable def J0(qs:List Pr):List Tr:=(UU (spF qs)).map fun p=>(p.1,p.2,owF (thF qs) p.1)
theorem Jdv(L:List Int):∀a:List Pr,(L.foldl YN a).length<=a.length+L.length:=by
 induction L with
 | nil=>intro a;simp
 | cons s L ih=>intro a;have h1:=ih (YN a s);have h2:=Je7 a s;rw[Ga,Qr];omega
theorem Jk1(qs:List Pr)(g:Good qs)(h30:qs.length<=30):U3 [.sh (.row (qs.map prE))]=some (.own ((J0 qs).map trE)):=by
 have h1:=Jak qs 1 g h30;rw[show((1:Nat):Int)=1 from rfl,show thN 1 qs=thF qs from rfl] at h1
 have hl:=(Zr (byF (-1) qs)).1;rw[Wm,show clN (byF (-1) qs)=thF qs from rfl] at hl;unfold U3;walk_at "ev";rw[h1];walk_at "ev";rw[Jbn,Ja5,GX];refine VI (f:=fun x:Pr×Nat=>D.tup [.int (x.2:Int),prE x.1]) (fun(rest:List (Pr×Nat)) (a:List Pr) E=>∃j3 j4 j5,E=[.sh (.row (qs.map prE)),.sh (.row ((thF qs).map prE)),.od (a.map (·.1)) ((a.map (·.2)).map .int),j3,j4,j5]/\(a.map (·.1)).Nodup/\a.length+rest.length<=30)
  (fun a x=>YN a (x.1.1+x.1.2-1-2*(x.2:Int))) [] ⟨.no,.no,.no,rfl,by simp,by simpa using h30⟩ ?_ ?_
 ·rintro x rest a E ⟨j3,j4,j5,rfl,hn,hz⟩;rw[Qr] at hz;have hil:=Je7 a (x.1.1+x.1.2-1-2*(x.2:Int));walk_at "ev";rw[Vl (s:=.sh (prE x.1)) (ns:=[x.1.1,x.1.2]) rfl];walk_at "ev";rw[show([x.1.1,x.1.2]:List Int).sum=x.1.1+x.1.2 by simp];rw[JkS];walk_at "ev";rw[JjD,<- VH,<- JcR _ _ hn];refine⟨.sh (.int (x.2:Int)),.sh (prE x.1),_,rfl,?_,by omega⟩;rw[VH];exact JaK _ hn
 ·rintro E' ⟨j3,j4,j5,rfl,hn,_⟩
  have ef:qs.zipIdx.foldl (fun a x=>YN a (x.1.1+x.1.2-1-2*(x.2:Int))) []=UU (spF qs):=by unfold UU spF;rw[List.foldl_map]
  have hcl:=Jdv (spF qs) []
  have hsl:(spF qs).length=qs.length:=by unfold spF;simp
  rw[ef];walk_at "ev";rw[JpU,Yc (g:=fun p=>trE (p.1,p.2,owF (thF qs) p.1))]
  ·rw[if_pos (by rw[QN];show(UU (spF qs)).length<=_;unfold UU;simp at hcl;omega)];walk_at "ev";unfold J0;rw[QA];rfl
  ·intro p hp;simp only[prE];walk_at "ev";rw[Jqc _ _ (by omega)];walk_at "ev";rfl
theorem Jnh(ps:List Pr)(sp:List Int)(hp:ps.length<=1000)(hs:sp.length<=1000):UF [.sh (.row (ps.map prE)),.sh (.lst (sp.map .int))]=some (.own ((edF ps 0 0 sp).map prE)):=by
 unfold UF;walk_at "ev";rw[Jbn,Ja5,GX];refine VI (f:=fun x:Int×Nat=>D.tup [.int (x.2:Int),.int x.1]) (fun(rest:List (Int×Nat)) (s:List Pr×Int) E=>∃j4 j5 j6 j7,E=[.sh (.row (ps.map prE)),.sh (.lst (sp.map .int)),.own (s.1.map prE),.sh (.int s.2),j4,j5,j6,j7]/\s.1.length+rest.length<=1000)
  (fun s x=>(s.1++[(x.1+2*(x.2:Int)-(JJ ps x.1-s.2),JJ ps x.1-s.2+1)],JJ ps x.1)) ([],0) ⟨.no,.no,.no,.no,rfl,by simpa using hs⟩ ?_ ?_
 ·rintro x rest ⟨acc,c⟩ E ⟨j4,j5,j6,j7,rfl,hz⟩;rw[Qr] at hz;dsimp only at hz ⊢;walk_at "ev";rw[Jng _ _ hp];walk_at "ev";refine⟨.sh (.int (x.2:Int)),.sh (.int x.1),.sh (.int (JJ ps x.1)),.sh (.int (JJ ps x.1-c)),?_,by rw[QC,Gy];omega (config:={})⟩;rw[Q2];rfl
 ·rintro E' ⟨j4,j5,j6,j7,rfl,_⟩
  have ef:∀(sp:List Int) (i:Nat) (acc:List Pr) (c:Int),((sp.zipIdx i).foldl (fun(s:List Pr×Int) x=>(s.1++[(x.1+2*(x.2:Int)-(JJ ps x.1-s.2),JJ ps x.1-s.2+1)],JJ ps x.1)) (acc,c)).1=acc++edF ps i c sp:=by
   intro sp
   induction sp with
   | nil=>intro i acc c;simp[edF]
   | cons s r ih=>intro i acc c;rw[KD,Ga,ih,edF,Kx];rfl
  rw[ef,KU];walk_at "ev"
theorem Jnp(ps:List Pr)(n:Nat)(g:Good ps)(h:ps.length<=30):Y1 [.sh (.row (ps.map prE)),.sh (.int (n:Int))]=some (.sh (.row ((byF (n:Int) ps).map prE))):=by unfold Y1;walk_at "ev";rw[Jr6 _ _ (by omega)];walk_at "ev";rw[WK rfl (((Y3 g).bys (k:=(n:Int))).good (by omega)) (by rw[Wm];exact h)];walk_at "ev"
noncomputable def Jz(ps:List Pr):List Int:=ps.map fun p=>p.1+p.2
noncomputable def Uk(prs:List Pr):List Int:=prs.flatMap fun p=>Qv p.2.toNat p.1
theorem Jsa(ps prs:List Pr)(g:Good ps)(hn:∀p∈prs,0<=p.2)(h:(ps.length:Int)+(prs.map (·.2)).sum<=30)(hp:ps.length<=30)(hq:prs.length<=30) :
 U2 [.sh (.row (ps.map prE)),.sh (.lst (prs.map prE))]=some (.sh (.row ((edF ps 0 0 (VO (Jz ps++Uk prs))).map prE))):=by
 have ml:∀(prs:List Pr),(∀p∈prs,0<=p.2)->((Uk prs).length:Int)=(prs.map (·.2)).sum:=by
  intro prs
  induction prs with
  | nil=>intro _;rfl
  | cons p r ih =>
   intro hn;have h1:=ih fun q hq=>hn q (Qh _ hq)
   have h2:=hn p Qg;unfold Uk at *;rw[Mx,QC,LF,Qi,QF];omega
 have hml:=ml prs hn
 have hsl:(VO (Jz ps++Uk prs)).length=ps.length+(Uk prs).length:=by rw[(UC _).length_eq,QC];unfold Jz;rw[QN]
 have ge:=(Jrq g (Jb7 (Jz ps++Uk prs)) fun p hp=>(UC _).mem_iff.mpr (K3 _ (QT.mpr ⟨p,hp,rfl⟩))).1
 have el:=Jkk ps (VO (Jz ps++Uk prs)) 0 0;unfold U2;walk_at "ev";rw[Yc (g:=fun p=>D.int p.2)]
 ·walk_at "ev";rw[Vl (ns:=prs.map (·.2)) (by simp[Sl.q])];walk_at "ev";rw[decide_eq_false (by omega)];walk_at "ev";rw[Yc (g:=fun p=>D.int (p.1+p.2))]
  ·walk_at "ev";rw[show ps.map (fun p=>D.int (p.1+p.2))=(Jz ps).map D.int by unfold Jz;rw[QA];rfl,GX];refine VI (fun(rest:List Pr) (L:List Int) E=>∃j3 j4,E=[.sh (.row (ps.map prE)),.sh (.lst (prs.map prE)),.own (L.map .int),j3,j4]/\(L.length:Int)+(rest.map (·.2)).sum<=30/\∀p∈rest,0<=p.2) (fun L p=>L++Qv p.2.toNat p.1) (Jz ps) ⟨.no,.no,rfl,by unfold Jz;rw[QN];exact h,hn⟩ ?_ ?_
   ·rintro p rest L E ⟨j3,j4,rfl,hz,hr⟩;have h2:=hr p Qg
    have hs:0<=(rest.map (·.2)).sum:=by
     have:=ml rest fun q hq=>hr q (Qh _ hq)
     omega
    rw[Qi,QF] at hz;simp only[prE];walk_at "ev";rw[Jku (d:=D.int p.1) rfl (JkI ⟨by omega,by omega⟩) (by omega)];walk_at "ev";rw[LF,if_pos (by omega)];refine⟨.sh (.int p.1),.sh (.int p.2),?_,by rw[QC,LF];omega,fun q hq=>hr q (Qh _ hq)⟩;rw[Q2,List.map_replicate]
   ·rintro E' ⟨j3,j4,rfl,_,_⟩
    have ef:∀(prs:List Pr) (L:List Int),prs.foldl (fun L p=>L++Qv p.2.toNat p.1) L=L++Uk prs:=by
     intro prs
     induction prs with
     | nil=>intro L;simp[Uk]
     | cons p r ih=>intro L;rw[Ga,ih];unfold Uk;rw[Mx,Kx]
    rw[ef];have hlt:(Jz ps++Uk prs).length<64:=by rw[QC];unfold Jz;rw[QN];omega
    walk_at "ev";rw[Jnh _ _ (by omega) (by omega)];walk_at "ev";rw[WK rfl ge (by omega)];walk_at "ev"
  ·intro p hp;simp only[prE];walk_at "ev"
 ·intro p hp;simp only[prE];walk_at "ev"
theorem Jeb{qs:List Pr}(g:Good qs)(s:Int):owF qs s=if s∈Jz qs then 1 else 0:=by
 unfold owF
 by_cases c:s∈Jz qs
 ·rw[if_pos c];obtain⟨p,hp,rfl⟩:=QT.mp c;have h1:=Good.all g p hp;rw[if_pos];refine⟨has_iff.mpr ⟨p,hp,by omega,by omega⟩,?_⟩
  cases h:J5 qs (p.1+p.2) with
  | false=>rfl
  | true =>
   obtain⟨q,hq,a1,a2⟩:=has_iff.mp h;have pw:=Good.pw g;obtain⟨i,hi,rfl⟩:=Gu.mp hp;obtain⟨j,hj,rfl⟩:=Gu.mp hq;rcases Nat.lt_trichotomy i j with z|z|z
   ·have:=Mq.mp pw i j hi hj z;omega
   ·subst z;omega
   ·have:=Mq.mp pw j i hj hi z;omega
 ·rw[if_neg c,if_neg];rintro⟨h1,h2⟩;obtain⟨p,hp,a1,a2⟩:=has_iff.mp h1;refine c (QT.mpr ⟨p,hp,?_⟩);rcases Jjn s (p.1+p.2) with z|z
  ·rw[has_iff.mpr ⟨p,hp,by omega,z⟩] at h2;cases h2
  ·omega
theorem JmB{ps:List Pr}(g:Good ps):(Jz ps).Pairwise (·<·):=by
 unfold Jz;rw[My];refine(Good.pw g).imp_of_mem fun {a b} _ hb h=>?_
 have:=Good.all g b hb;omega
theorem JdA{ps:List Pr}(g:Good ps):(Jz ps).Nodup:=(JmB g).imp fun {a b} h=>by omega
theorem JlX(k:Int)(ps:List Pr):spF (byF (k+1) ps)=Jz (byF k ps):=by
 unfold spF Jz;refine GA fun i=>?_
 rw[Qt,Qt,La];unfold byF;rw[QH,QH]
 cases ps[i]? with
 | none=>rfl
 | some p =>
  simp only[M8];congr 1;have e:2*(k+1)*(i:Int)=2*k*(i:Int)+2*(i:Int):=by rw[Mw,Kw];simp
  simp only[RS];rw[e];omega
theorem JjP{ps:List Pr}(g:Good ps)(n:Nat):J0 (byF ((n:Int)+1) ps)=(byF (n:Int) ps).map fun p=>(p.1+p.2,1,1):=by
 have gw:=Y3 g
 have gn:Good (byF (n:Int) ps):=(gw.bys (k:=(n:Int))).good (by omega)
 have et:thF (byF ((n:Int)+1) ps)=byF (n:Int) ps:=by have:=Jcf (n:=1) (gw.bys (k:=(n:Int)+1)) (by omega) (by omega);rw[show thF (byF ((n:Int)+1) ps)=thN 1 (byF ((n:Int)+1) ps) from rfl,this,JhB];congr 1;omega
 unfold J0 UU;rw[et,JlX,JhG (Jz (byF (n:Int) ps)) [] (by simpa using JdA gn),KU,QA];unfold Jz;rw[QA];refine QL fun p hp=>?_
 simp only[Function.comp];rw[Jeb gn,if_pos (show p.1+p.2∈Jz (byF (n:Int) ps) from QT.mpr ⟨p,hp,rfl⟩)]
theorem JcM:∀{l:List Int} {k:Int},l.Nodup->k∈l->l.count k=1
 | [],_,_,h=>by cases h
 | a::l,k,hn,h=>by
  rw[Ge] at hn;rw[Gq]
  by_cases c:a=k
  ·subst c;rw[Ml.mpr hn.1];simp
  ·have hm:k∈l:=(Qp.mp h).resolve_left fun z=>c z.symm
   rw[JcM hn.2 hm];simp[c]
theorem Jby(d:Int):∀(a:List Pr) (s:Int),YN (a.map fun p=>(p.1-d,p.2)) (s-d)=(YN a s).map fun p=>(p.1-d,p.2)
 | [],s=>rfl
 | p::r,s=>by
  rw[Qi,YN,YN];dsimp only
  by_cases h:p.1=s
  ·rw[if_pos h,if_pos (by omega)];rfl
  ·rw[if_neg h,if_neg (by omega),Jby d r s];rfl
theorem JcK(d:Int):∀(L:List Int) (a:List Pr),(L.map (·-d)).foldl YN (a.map fun p=>(p.1-d,p.2))=(L.foldl YN a).map fun p=>(p.1-d,p.2)
 | [],a=>rfl
 | s::L,a=>by rw[Qi,Ga,Ga,Jby,JcK d L]
theorem Jke:∀(L:List Int) (a:List Pr),(a.map (·.1)).Pairwise (·<·)->(∀k∈a.map (·.1),∀s∈L,k<=s)->L.Pairwise (·<=·)->((L.foldl YN a).map (·.1)).Pairwise (·<·)
 | [],a,h,_,_=>h
 | s::L,a,h,hk,hL=>by
  obtain⟨l1,l2⟩:=Q6.mp hL;rw[Ga];have e:(YN a s).map (·.1)=Y7 (a.map (·.1)) s:=VH s a;refine Jke L (YN a s) ?_ (fun k hk' t ht=>?_) l2
  ·rw[e];unfold Y7;split
   ·exact h
   ·next c =>
    rw[Rp];refine⟨h,by simp,fun k hk' t ht=>?_⟩;have ht':t=s:=by simpa using ht
    subst ht';have h1:=hk k hk' t Qg;have h2:k≠t:=fun z=>c (hasK_mem.mpr (by rw[<- z];exact hk'))
    omega
  ·rw[e] at hk';unfold Y7 at hk';split at hk'
   ·exact hk k hk' t (Qh _ ht)
   ·rcases Go.mp hk' with z|z
    ·exact hk k z t (Qh _ ht)
    ·have z':k=s:=by simpa using z
     subst z';exact l1 t ht
theorem JlZ:∀{ps:List Pr} (i:Nat),Good ps->((ps.zipIdx i).map fun x=>x.1.1+x.1.2-1-2*(x.2:Int)).Pairwise (·<=·)
 | [],_,_=>.nil
 | [p],i,_=>by simp
 | p::q::r,i,g=>by
  have ih:=JlZ (i+1) (Good.cons' g)
  have h1:=g.gap 0 p q rfl rfl
  have h2:=g.one 1 q rfl;rw[KD,Qi];refine Q6.mpr ⟨fun t ht=>?_,ih⟩;rw[KD,Qi] at ih ht
  have hq:p.1+p.2-1-2*(i:Int)<=q.1+q.2-1-2*((i+1:Nat):Int):=by omega
  rcases Qp.mp ht with z|z
  ·subst z;exact hq
  ·have:=(Q6.mp ih).1 t z;dsimp only at this ⊢;omega
noncomputable def Yv(k:Int)(qs:List Pr):List Tr:=((J0 qs).filter fun t=>decide (t.2.1>t.2.2)).map fun t=>(k,t.1,t.2.1-t.2.2)
noncomputable def tbN:Nat->Int->List Pr->List Tr
 | 0,_,_=>[]
 | n+1,k,qs=>Yv (k+1) qs++tbN n (k+1) (thF qs)
theorem Jcd:∀(n:Nat) (k:Int),tbN n k []=[]
 | 0,_=>rfl
 | n+1,k=>by rw[tbN,show thF []=[] from rfl,Jcd n (k+1)];rfl
theorem JkR{qs:List Pr}(g:Good (byF (-1) qs))(k:Int):Yv k qs=[]:=by
 have e:qs=byF (((0:Nat):Int)+1) (byF (-1) qs):=by rw[JhB,show((0:Nat):Int)+1+-1=0 by omega,Zp]
 unfold Yv;rw[e,JjP g 0,List.filter_map,QA,List.filter_eq_nil_iff.mpr]
 ·rfl
 ·intro p hp;simp
theorem Jhk(qs:List Pr):(spF qs).length=qs.length:=by unfold spF;simp
theorem Jm8(k:Int)(qs:List Pr):(Yv k qs).length<=qs.length:=by
 unfold Yv J0;rw[QN];refine Gj (List.length_filter_le _ _) ?_;rw[QN];have:=Jdv (spF qs) [];rw[Jhk] at this;unfold UU
 simpa using this
theorem Jos{c:Int}{qs:List Pr}(w:Wide c qs)(c1:1<=c):∀(j m:Nat) (k:Int),((j:Int)<c)->tbN (j+m) k qs=tbN m (k+(j:Int)) (thN j qs):=by
 intro j
 induction j generalizing c qs with
 | zero=>intro m k _;rw[RS];simp[thN]
 | succ j ih=>intro m k hj;have w1:Wide (c+-1) (byF (-1) qs):=w.bys;have g1:Good (byF (-1) qs):=w1.good (by omega);have e:thF qs=byF (-1) qs:=Jdu g1;rw[show j+1+m=(j+m)+1 by omega,tbN,JkR g1,KU,e,ih w1 (by omega) m (k+1) (by omega)];show _=tbN m (k+((j+1:Nat):Int)) (thN j (thF qs));rw[e];congr 1;omega
theorem Jrp{c:Int}{qs:List Pr}(w:Wide c qs)(c1:1<=c)(hne:qs≠[])(j:Nat)(hj:(j:Int)<c):thN j qs≠[]:=by rw[Jcf w c1 hj];intro z;have:=Wm (-(j:Int)) qs;rw[z] at this;exact hne (Q1 this.symm)
theorem Jf4{c:Int}{qs:List Pr}(w:Wide c qs)(c1:1<=c)(hne:qs≠[]){N:Nat}(hN:thN N qs=[])(k:Int):∃C:Nat,(C:Int)=c/\C<=N/\tbN N k qs=Yv (k+c) (thN (C-1) qs)++tbN (N-C) (k+c) (thN C qs)/\thN (N-C) (thN C qs)=[]:=by
 obtain⟨C,hC⟩:∃C:Nat,(C:Int)=c:=⟨c.toNat,by omega⟩
 have hCN:C<=N:=by
  rcases RP N C with z|z
  ·exact absurd hN (Jrp w c1 hne N (by omega))
  ·exact z
 refine⟨C,hC,hCN,?_,by rw[<- Jez,show C+(N-C)=N by omega];exact hN⟩;have e:=Jos w c1 (C-1) (N-C+1) k (by omega);rw[show C-1+(N-C+1)=N by omega] at e;rw[e,tbN,<- Jaz,show C-1+1=C by omega,show k+((C-1:Nat):Int)+1=k+c by omega]
theorem Vc{k:Int}{qs:List Pr}{t:Tr}(h:t∈Yv k qs):t.1=k:=by obtain⟨u,_,e⟩:=QT.mp h;rw[<- e]
theorem Jbc:∀(n:Nat) (k:Int) (qs:List Pr) (t:Tr),t∈tbN n k qs->k<t.1
 | 0,_,_,_,h=>by cases h
 | n+1,k,qs,t,h=>by
  rw[tbN] at h;rcases Go.mp h with z|z
  ·have:=Vc z;omega
  ·have:=Jbc n (k+1) (thF qs) t z;omega
theorem ZY:∀(n:Nat) (ps:List Pr),(thN n ps).length<=ps.length
 | 0,ps=>Qo _
 | n+1,ps=>by
  show(thN n (thF ps)).length<=_
  have h1:=ZY n (thF ps)
  have h2:=(Zr (byF (-1) ps)).1;rw[Wm] at h2
  have h3:(thF ps).length=(clN (byF (-1) ps)).length:=rfl;omega
noncomputable abbrev tbC:En->Option Bool:=(tTru? (e1 Wg (Jd 2)))
noncomputable abbrev tbB:Es:=(Ju (Jx 4 (eU 1 Yh (aC (Jd 2) a0))) (Ju (Jhs (fun i j=>i+j) 3 (Jd 4)) (Ju (Jx 2 (eU 2 Yz (aC (Jd 2) (aC (e2 Uh (Jd 4) (eC (.int 1))) a0)))) (Ju (JjU 1 (Ud (iE true (eU 1 U3 (aC (Jd 2) a0))) (.tp (.cons (.nm 0) (.cons (.nm 1) (.cons (.nm 2) .nil)))) (tB? (e2 fGt (Jd 1) (Jd 2))) (Vk (aC (Jd 3) (aC (Jd 0) (aC (e2 Uh (Jd 1) (Jd 2)) a0)))) [none,none,none,some 3])) (Jx 2 (eU 2 Yz (aC (Jd 2) (aC (eC (.int 1)) a0))))))))
theorem Jf1(j0 j4:Sl)(acc:List Tr)(k:Int)(fuel:Nat):((Y5 tbC tbB (fuel+1) [j0,.own (acc.map trE),.sh (.row (([]:List Pr).map prE)),.sh (.int k),j4]).bind (Jhd (UN 1))).bind Jgv=some (.own (acc.map trE)):=by rw[Y5];have hc:tbC [j0,.own (acc.map trE),.sh (.row (([]:List Pr).map prE)),.sh (.int k),j4]=some false:=rfl;rw[hc];walk_at "ev"
theorem Jro(j0:Sl):∀(m fuel:Nat) (left:List Pr) (acc:List Tr) (k:Int) (j4:Sl) (N:Nat),Good left->left.length<=m->left.length<=30->m<fuel->thN N left=[]->acc.length+30*left.length<=10000 ->
 ((Y5 tbC tbB fuel [j0,.own (acc.map trE),.sh (.row (left.map prE)),.sh (.int k),j4]).bind (Jhd (UN 1))).bind Jgv=some (.own ((acc++tbN N k left).map trE)):=by
 intro m
 induction m with
 | zero =>
  intro fuel left acc k j4 N g hm _ hf _ _;obtain⟨f,rfl⟩:∃f,fuel=f+1:=⟨fuel-1,by omega⟩
  have:left=[]:=Q1 (by omega);subst this;rw[Jf1,Jcd,Gg]
 | succ m ih =>
  intro fuel left acc k j4 N g hm h30 hf hN hacc;obtain⟨f,rfl⟩:∃f,fuel=f+1:=⟨fuel-1,by omega⟩
  by_cases h0:left=[]
  ·subst h0;rw[Jf1,Jcd,Gg]
  ·obtain⟨c,hc,c1,w,t⟩:=Jpq g h0;obtain⟨C,hC,hCN,eT,eN⟩:=Jf4 w c1 h0 hN k;have hcl:=Jfg left (by omega);rw[hc] at hcl;have g1:=Vi (C-1) g;have l1:=ZY (C-1) left;have l2:=ZY C left;have fw:=Jcg t;rw[<- hC,<- Jce C w c1 (by omega)] at fw;have ll:=Jm8 (k+c) (thN (C-1) left)
   have hcond:tbC [j0,.own (acc.map trE),.sh (.row (left.map prE)),.sh (.int k),j4]=some true:=by
    walk_at "ev"
    cases left with
    | nil=>exact absurd rfl h0
    | cons _ _=>rfl
   have hth:=Jak (thN (C-1) left) 1 g1 (by omega);rw[show((1:Nat):Int)=1 from rfl,show thN 1 (thN (C-1) left)=thN C left by rw[<- Jez,show C-1+1=C by omega]] at hth
   have hbody:tbB [j0,.own (acc.map trE),.sh (.row (left.map prE)),.sh (.int k),j4]=some (.nx [j0,.own ((acc++Yv (k+c) (thN (C-1) left)).map trE),.sh (.row ((thN C left).map prE)),.sh (.int (k+c)),.sh (.int c)]):=by
    walk_at "ev";rw[hcl];walk_at "ev";rw[show c-1=((C-1:Nat):Int) by omega,Jak _ _ g (by omega)];walk_at "ev";rw[Jk1 _ g1 (by omega)];walk_at "ev";rw[JhO (g:=fun t:Tr=>trE (k+c,t.1,t.2.1-t.2.2)) (k:=fun t:Tr=>decide (t.2.1>t.2.2))]
    ·have el:((J0 (thN (C-1) left)).filter fun t=>decide (t.2.1>t.2.2)).map (fun t:Tr=>trE (k+c,t.1,t.2.1-t.2.2))=(Yv (k+c) (thN (C-1) left)).map trE:=by unfold Yv;rw[QA];rfl
     rw[el]
     have hsl:(J0 (thN (C-1) left)).length<=30:=by unfold J0;rw[QN];have:=Jdv (spF (thN (C-1) left)) [];rw[Jhk] at this;unfold UU;simp at this;omega
     walk_at "ev";rw[hth];walk_at "ev";rw[<- Q2]
    ·intro t ht;simp only[trE];refine⟨?_,fun _=>?_⟩
     ·walk_at "ev"
      first|rfl|done
     ·walk_at "ev"
      first|rfl|done
   rw[Y5,hcond,QX,if_pos rfl,hbody,QX,eT,<- Kx];exact ih f _ _ _ _ _ (Vi C g) (by omega) (by omega) (by omega) eN (by rw[QC];omega)
theorem Jno(ps:List Pr)(N:Nat)(g:Good ps)(h:ps.length<=30)(hN:thN N ps=[]):UJ [.sh (.row (ps.map prE))]=some (.own ((tbN N 0 ps).map trE)):=by have go:=Jro (.sh (.row (ps.map prE))) 30 1000000 ps [] 0 .no N g h h (by decide) hN (by simp;omega);unfold UJ;walk_at "ev";exact go
theorem Ja0:∀(cur:Pr) (r:List Pr),(∀p∈r,0<=p.2)->((clF cur r).map (·.2)).sum=cur.2+(r.map (·.2)).sum
 | cur,[],_=>by simp[clF]
 | cur,p::r,h=>by
  have h0:=h p Qg
  have hr:=fun q hq=>h q (Qh p hq)
  rw[clF,Qi,QF];split
  ·rw[Ja0 _ r hr];dsimp only;omega
  ·split
   ·rw[Qi,QF,Ja0 p r hr]
   ·rw[Ja0 cur r hr];omega
theorem JhC:∀(ps:List Pr),(∀p∈ps,0<=p.2)->((clN ps).map (·.2)).sum=(ps.map (·.2)).sum
 | [],_=>rfl
 | p::r,h=>by
  have h0:=h p Qg
  have hr:=fun q hq=>h q (Qh p hq)
  rw[clN,Qi,QF];split
  ·exact Ja0 p r hr
  ·rw[JhC r hr];omega
theorem Jpl(k:Int):∀(ps:List Pr),((byF k ps).map (·.2)).sum=(ps.map (·.2)).sum+k*(ps.length:Int):=by
 intro ps
 have e:(byF k ps).map (·.2)=ps.map fun p=>p.2+k:=by
  refine GA fun i=>?_
  unfold byF;rw[Qt,QH,Qt,KG];rfl
 rw[e]
 induction ps with
 | nil=>simp
 | cons p r ih =>
  have ih':=ih (by
   refine GA fun i=>?_
   unfold byF;rw[Qt,QH,Qt,KG];rfl)
  rw[Qi,QF,ih',Qi,QF,Qr,GM,Mw];simp;omega
theorem Jew:∀{ps:List Pr},(∀p∈ps,1<=p.2)->(ps.length:Int)<=(ps.map (·.2)).sum
 | [],_=>QK _
 | p::ps,h=>by
  have h1:=h p Qg
  have h2:=Jew fun q hq=>h q (Qh _ hq)
  rw[Qi,QF,Qr];omega
theorem JiG{ps:List Pr}(g:Good ps):((thF ps).map (·.2)).sum=(ps.map (·.2)).sum-(ps.length:Int):=by
 unfold thF;rw[JhC,Jpl]
 ·omega
 ·intro x hx;obtain⟨i,hi,rfl⟩:=Gu.mp hx;have e:(byF (-1) ps)[i]?=some (byF (-1) ps)[i]:=by simp
  obtain⟨p,hp,e2⟩:=Jdn e;rw[e2];have:=g.one i p hp;dsimp only;omega
theorem WP:∀(n:Nat) {ps:List Pr},Good ps->(ps.map (·.2)).sum<=(n:Int)->thN n ps=[]
 | 0,ps,g,h=>by
  have:=Jew (Good.all g)
  show ps=[]
  exact Q1 (by omega)
 | n+1,ps,g,h=>by
  show thN n (thF ps)=[]
  refine WP n (Yy g) ?_;rw[JiG g]
  by_cases hl:ps.length=0
  ·have:ps=[]:=Q1 hl;subst this;simp
  ·omega
theorem JhH:∀(L:List Int) (a:List Pr),((L.foldl YN a).map (·.2)).sum=(a.map (·.2)).sum+(L.length:Int)
 | [],a=>by simp
 | s::L,a=>by
  have e:∀a:List Pr,((YN a s).map (·.2)).sum=(a.map (·.2)).sum+1:=fun a=>by
   induction a with
   | nil=>simp[YN]
   | cons p r ih =>
    rw[YN];split
    ·simp only[Qi,QF];omega
    ·simp only[Qi,QF];omega
  rw[Ga,JhH L,e,Qr];omega
theorem JiB{α:Type}:∀(l:List α),(l.map fun _=>(0:Int)).sum=0
 | []=>rfl
 | _::l=>by rw[Qi,QF,JiB l];rfl
theorem JkJ:∀(M K:List Int),M.Nodup->K.Nodup->(∀x∈M,x∈K)->(K.map fun s=>if s∈M then(1:Int) else 0).sum=(M.length:Int)
 | [],K,_,_,_=>by rw[show(fun s:Int=>if s∈([]:List Int) then(1:Int) else 0)=fun _=>0 from funext fun s=>if_neg (by simp)];exact JiB K
 | m::M,K,hm,hk,h=>by
  obtain⟨h1,h2⟩:=Ge.mp hm;have ih:=JkJ M K h2 hk fun x hx=>h x (Qh _ hx)
  have one:∀K:List Int,K.Nodup->(K.map fun s=>if s∈m::M then(1:Int) else 0).sum=(K.map fun s=>if s∈M then(1:Int) else 0).sum+(if m∈K then 1 else 0):=fun K hk=>by
   induction K with
   | nil=>rfl
   | cons k K ihK =>
    obtain⟨a1,a2⟩:=Ge.mp hk;rw[Qi,QF,Qi,QF,ihK a2]
    by_cases c:k=m
    ·subst c;rw[if_pos Qg,if_neg h1,if_neg a1,if_pos Qg];omega
    ·have e1:(k∈m::M)=(k∈M):=by simp[c]
     have e2:(m∈k::K)=(m∈K):=by simp[QY c]
     simp only[e1,e2];omega
  rw[one K hk,ih,if_pos (h m Qg),Qr];omega
theorem Zv:∀(r:List Pr) (cur:Pr) (e:Int),e∈Jz (clF cur r)->e∈Jz (cur::r)
 | [],_,_,h=>h
 | p::r,cur,e,h=>by
  unfold Jz at h ⊢;rw[clF] at h;split at h
  ·next c =>
   have:=Zv r _ e h;unfold Jz at this;simp only[Qi,Qp] at this ⊢;rcases this with z|z
   ·exact .inr (.inl (by omega))
   ·exact .inr (.inr z)
  ·split at h
   ·rw[Qi,Qp] at h;rcases h with z|z
    ·rw[z];simp
    ·have:=Zv r p e z;unfold Jz at this;rw[Qi];exact Qh _ this
   ·have:=Zv r cur e h;unfold Jz at this;simp only[Qi,Qp] at this ⊢;rcases this with z|z
    ·exact .inl z
    ·exact .inr (.inr z)
theorem JeY:∀(ps:List Pr) (e:Int),e∈Jz (clN ps)->e∈Jz ps
 | [],_,h=>h
 | p::r,e,h=>by
  rw[clN] at h;split at h
  ·exact Zv r p e h
  ·have:=JeY r e h;unfold Jz at this ⊢;rw[Qi];exact Qh _ this
theorem JhR{qs:List Pr}{e:Int}(h:e∈Jz (thF qs)):e∈spF qs:=by
 have:=JeY _ e h
 have z:=JlX (-1) qs;rw[show(-1:Int)+1=0 by omega,Zp] at z;rw[z];exact this
noncomputable def WR(l:List Tr):Int:=(l.map (·.2.2)).sum
theorem JdF{α:Type}(f:α->Int)(k:α->Bool):∀(l:List α),(∀x∈l,k x=false->f x=0)->((l.filter k).map f).sum=(l.map f).sum
 | [],_=>rfl
 | x::l,h=>by
  have ih:=JdF f k l fun y hy=>h y (Qh _ hy)
  rw[Qi,QF]
  cases c:k x with
  | true=>rw[List.filter_cons_of_pos c,Qi,QF,ih]
  | false=>rw[List.filter_cons_of_neg (by rw[c];simp),ih,h x Qg c,Ld]
theorem JiC{α:Type}(f g:α->Int):∀(l:List α),(l.map fun x=>f x-g x).sum=(l.map f).sum-(l.map g).sum
 | []=>rfl
 | x::l=>by rw[Qi,QF,Qi,QF,Qi,QF,JiC f g l];omega
theorem JiA{α:Type}(f g:α->Int):∀(l:List α),(l.map fun x=>f x+g x).sum=(l.map f).sum+(l.map g).sum
 | []=>rfl
 | x::l=>by rw[Qi,QF,Qi,QF,Qi,QF,JiA f g l];omega
theorem JdV{qs:List Pr}(g:Good qs)(k:Int):WR (Yv k qs)=(qs.length:Int)-((thF qs).length:Int):=by
 obtain⟨c1,c2,c3⟩:=Jkd (spF qs);have nd:=JdA (Yy g);unfold WR Yv;rw[QA];have e1:(((J0 qs).filter fun t=>decide (t.2.1>t.2.2)).map ((fun t:Tr=>t.2.2) ∘ fun t:Tr=>(k,t.1,t.2.1-t.2.2))).sum=(((J0 qs).filter fun t=>decide (t.2.1>t.2.2)).map fun t=>t.2.1-t.2.2).sum:=rfl;rw[e1,JdF]
 ·unfold J0;rw[QA]
  have e2:((UU (spF qs)).map ((fun t:Tr=>t.2.1-t.2.2) ∘ fun p:Pr=>((p.1,p.2,owF (thF qs) p.1):Tr))).sum=((UU (spF qs)).map fun p=>p.2-(if p.1∈Jz (thF qs) then(1:Int) else 0)).sum:=by
   congr 1;refine QL fun p _=>?_
   show p.2-owF (thF qs) p.1=_;rw[Jeb (Yy g)]
  rw[e2,JiC];have e3:=JhH (spF qs) [];have e4:=JkJ (Jz (thF qs)) ((UU (spF qs)).map (·.1)) nd c1 fun x hx=>QT.mpr ⟨_,c3 x (JhR hx),rfl⟩
  rw[QA] at e4;have e5:((UU (spF qs)).map fun p=>if p.1∈Jz (thF qs) then(1:Int) else 0).sum=((Jz (thF qs)).length:Int):=e4
  have e6:((UU (spF qs)).map (·.2)).sum=((spF qs).length:Int):=by unfold UU;rw[e3];simp
  rw[e5,e6,Jhk];unfold Jz;rw[QN]
 ·intro t ht c;unfold J0 at ht;obtain⟨p,hp,rfl⟩:=QT.mp ht;obtain⟨v1,v2⟩:=c2 p hp;have:0<(spF qs).count p.1:=Mm.mpr v2;have o:=Jeb (Yy g) p.1;have c':=of_decide_eq_false c;dsimp only at c' ⊢;rw[o] at c' ⊢
  by_cases z:p.1∈Jz (thF qs)
  ·rw[if_pos z] at c' ⊢;omega
  ·rw[if_neg z] at c' ⊢;omega
theorem Jey:∀(n:Nat) (k:Int) {qs:List Pr},Good qs->thN n qs=[]->WR (tbN n k qs)=(qs.length:Int)
 | 0,k,qs,g,h=>by have:qs=[]:=h;subst this;rfl
 | n+1,k,qs,g,h=>by
  have ih:=Jey n (k+1) (Yy g) h
  have l:=JdV g (k+1);unfold WR at *;rw[tbN,Q2,LV,ih,l];omega
theorem Jnq{a b d:Int}(ha:0<=a)(hb:0<=b):max 0 (min (a+b) d)=max 0 (min a d)+max 0 (min b (d-a)):=by
 rcases KQ d a with k|k
 ·rw[Gn (show d<=a+b by omega),Gn k,Ln (b:=min b (d-a)) (RT (Ki _ _) (by omega)),LA]
 ·rw[GN k,G2 ha];rcases KQ d (a+b) with m|m
  ·rw[Gn m,Gn (show d-a<=b by omega),G2 (by omega),G2 (by omega)];omega
  ·rw[GN m,GN (show b<=d-a by omega),G2 (by omega),G2 hb]
theorem WH(x:Int):∀(r:List Pr) (cur:Pr),(∀p∈r,0<=p.2)->0<=cur.2->JJ (clF cur r) x=JJ (cur::r) x
 | [],cur,_,_=>rfl
 | p::r,cur,h,hc=>by
  have h0:=h p Qg
  have hr:=fun q hq=>h q (Qh p hq)
  rw[clF];split
  ·next e=>rw[WH x r _ hr (by dsimp only;omega (config:={})),JO,JO,JO];dsimp only;rw[Jnq hc h0,show x-cur.1-cur.2=x-p.1 by omega (config:={}),MH]
  ·split
   ·rw[JO,WH x r p hr h0,<- JO]
   ·rw[WH x r cur hr hc,JO,JO cur,JO p,show p.2=0 by omega (config:={}),Ln (b:=min 0 _) (LY _ _),Ld]
theorem JcA(x:Int):∀(ps:List Pr),(∀p∈ps,0<=p.2)->JJ (clN ps) x=JJ ps x
 | [],_=>rfl
 | p::r,h=>by
  have h0:=h p Qg
  have hr:=fun q hq=>h q (Qh p hq)
  rw[clN];split
  ·exact WH x r p hr h0
  ·rw[JcA x r hr,JO p];omega (config:={})
theorem Jj5:∀(r:List Pr) (c x:Int),Good r->(∀q,r[0]?=some q->x<=q.1-c)->∀p∈byR c r,x<=p.1
 | [],_,_,_,_,_,h=>by cases h
 | q::r,c,x,g,hx,p,h=>by
  have h1:=hx q rfl;rcases Qp.mp h with z|z
  ·rw[z];exact h1
  ·refine Jj5 r (c+2) x (Good.cons' g) (fun q' e=>?_) p z;have:=g.gap 0 q q' rfl (by simpa using e);have:=g.one 0 q rfl;omega
theorem JhP(left:List Pr):∀(q:List Pr) (i:Nat) (base:Int),Good q->(∀p,q[0]?=some p->∀x,p.1-2*(i:Int)<=x->JJ left x=base+JJ (byR (2*(i:Int)) q) x) ->
 edF left i base ((q.zipIdx i).map fun x=>x.1.1+x.1.2-1-2*(x.2:Int))=q
 | [],_,_,_,_=>rfl
 | p::r,i,base,g,hf=>by
  have h1:=g.one 0 p rfl
  have nx:∀q,r[0]?=some q->p.1+p.2+1<=q.1:=fun q e=>by have:=g.gap 0 p q rfl (by simpa using e);omega
  have hs:=hf p rfl (p.1+p.2-1-2*(i:Int)) (by omega);rw[byR,JO,Jbg (ps:=byR (2*(i:Int)+2) r) (Jj5 r _ _ (Good.cons' g) fun q e=>by have:=nx q e;omega)] at hs;dsimp only at hs
  have e:JJ left (p.1+p.2-1-2*(i:Int))=base+(p.2-1):=by omega
  rw[KD,Qi,edF];dsimp only;rw[e,JhP left r (i+1) (base+(p.2-1)) (Good.cons' g) fun q eq x hx=>?_]
  ·congr 1;exact Lh (by dsimp only;omega) (by dsimp only;omega)
  ·have:=nx q eq;rw[hf p rfl x (by omega),byR,JO];dsimp only;rw[show 2*((i+1:Nat):Int)=2*(i:Int)+2 by omega];omega
theorem JiU{q:List Pr}(g:Good q):∀p∈byF (-1) q,0<=p.2:=fun p hp=>by obtain⟨i,hi,rfl⟩:=Gu.mp hp;have w:Wide (1+-1) (byF (-1) q):=(Y3 g).bys (k:=-1);exact w.one i _ (by simp)
theorem JrR{q:List Pr}(g:Good q):edF (thF q) 0 0 (spF q)=q:=by
 refine JhP (thF q) q 0 0 g fun p _ x _=>?_
 unfold thF;rw[JcA x _ (JiU g),Ld,show 2*((0:Nat):Int)=0 by simp,WJ]
theorem JbI(prs:List Pr)(s:Int):((Uk prs).count s:Int)=(prs.map fun p=>if p.1=s then((p.2.toNat:Nat):Int) else 0).sum:=by
 induction prs with
 | nil=>rfl
 | cons p r ih =>
  unfold Uk at *;rw[Mx,Mz,Qi,QF,<- ih,List.count_replicate];split <;> rename_i c
  ·have c':p.1=s:=by simpa using c
   rw[if_pos c'];omega
  ·have c':¬p.1=s:=by simpa using c
   rw[if_neg c'];omega
theorem Jif{a:List Pr}(f:Pr->Int)(hn:(a.map (·.1)).Nodup)(s:Int):(a.map fun p=>if p.1=s then f p else 0).sum=if s∈a.map (·.1) then f (s,lk s a) else 0:=by
 induction a with
 | nil=>rfl
 | cons p r ih =>
  rw[Qi,Ge] at hn;rw[Qi,QF,ih hn.2,lk]
  by_cases c:p.1=s
  ·subst c;rw[if_pos rfl,if_pos rfl,if_neg hn.1,if_pos (by simp)];simp
  ·rw[if_neg c,if_neg c,Ld];have:(s∈(p::r).map (·.1))=(s∈r.map (·.1)):=by simp[QY c]
   simp only[this]
noncomputable def UM(l:List Tr):List Pr:=l.map fun t=>(t.2.1,t.2.2)
theorem Jc7{q:List Pr}(g:Good q)(k:Int):VO (Jz (thF q)++Uk (UM (Yv k q)))=spF q:=by
 obtain⟨c1,c2,c3⟩:=Jkd (spF q);have gt:=Yy g;have nd:=JdA gt;refine List.Perm.eq_of_pairwise (le:=(·<=·)) (fun a b _ _ h1 h2=>by omega) (Jb7 _) (JlZ 0 g) ((UC _).trans (List.perm_iff_count.mpr fun s=>?_));rw[Mz]
 have e1:((Uk (UM (Yv k q))).count s:Int)=if s∈spF q then((spF q).count s:Int)-(if s∈Jz (thF q) then 1 else 0) else 0:=by
  rw[JbI];unfold UM Yv;rw[QA,QA];refine Eq.trans (show _=(((J0 q).filter fun t=>decide (t.2.1>t.2.2)).map fun t=>if t.1=s then(((t.2.1-t.2.2).toNat:Nat):Int) else 0).sum from rfl) ?_;rw[JdF]
  ·unfold J0;rw[QA];have f2:((UU (spF q)).map ((fun t:Tr=>if t.1=s then(((t.2.1-t.2.2).toNat:Nat):Int) else 0) ∘ fun p:Pr=>((p.1,p.2,owF (thF q) p.1):Tr))).sum=((UU (spF q)).map fun p=>if p.1=s then(((p.2-owF (thF q) p.1).toNat:Nat):Int) else 0).sum:=rfl;rw[f2,Jif (fun p=>(((p.2-owF (thF q) p.1).toNat:Nat):Int)) c1];have mm:s∈(UU (spF q)).map (·.1)↔s∈spF q:=⟨fun h=>by obtain⟨p,hp,e⟩:=QT.mp h;rw[<- e];exact(c2 p hp).2,fun h=>QT.mpr ⟨_,c3 s h,rfl⟩⟩
   by_cases h:s∈spF q
   ·rw[if_pos (mm.mpr h),if_pos h,JgI c1 (c3 s h) (p:=(s,((spF q).count s:Int)))];dsimp only;rw[Jeb gt];have:0<(spF q).count s:=Mm.mpr h;split <;> omega
   ·rw[if_neg fun z=>h (mm.mp z),if_neg h]
  ·intro t ht c;have c':=of_decide_eq_false c;split
   ·omega
   ·rfl
 have e2:(Jz (thF q)).count s=if s∈Jz (thF q) then 1 else 0:=by
  split
  ·next h=>exact JcM nd h
  ·next h=>exact Ml.mpr h
 rw[e2]
 by_cases h:s∈spF q
 ·rw[if_pos h] at e1;have:0<(spF q).count s:=Mm.mpr h;split at e1 <;> rename_i c
  ·rw[if_pos c];omega
  ·rw[if_neg c];omega
 ·rw[if_neg h] at e1;rw[if_neg fun z=>h (JhR z),Ml.mpr h];omega
noncomputable def putF(ps prs:List Pr):List Pr:=edF ps 0 0 (VO (Jz ps++Uk prs))
theorem Jls{q:List Pr}(g:Good q)(k:Int):putF (thF q) (UM (Yv k q))=q:=by unfold putF;rw[Jc7 g k,JrR g]
noncomputable abbrev Gp:=Int×List Pr
noncomputable def Vj:List Gp->Tr->List Gp
 | [],t=>[(t.1,[(t.2.1,t.2.2)])]
 | g::gs,t=>if g.1=t.1 then(g.1,g.2++[(t.2.1,t.2.2)])::gs else g::Vj gs t
noncomputable def Ur(tb:List Tr):List Gp:=tb.foldl Vj []
theorem Jcy(x:Gp):∀(tb:List Tr) (g:List Gp),(∀t∈tb,x.1≠t.1)->tb.foldl Vj (x::g)=x::tb.foldl Vj g
 | [],_,_=>rfl
 | t::tb,g,h=>by rw[Ga,Vj,if_neg (h t Qg),Ga];exact Jcy x tb _ fun u hu=>h u (Qh _ hu)
theorem Jcx(k:Int):∀(tb:List Tr) (ps:List Pr),(∀t∈tb,t.1=k)->tb.foldl Vj [(k,ps)]=[(k,ps++UM tb)]
 | [],ps,_=>by simp[UM]
 | t::tb,ps,h=>by rw[Ga,Vj,if_pos (h t Qg).symm,Jcx k tb _ fun u hu=>h u (Qh _ hu)];simp[UM]
theorem Jm0(k:Int)(a b:List Tr)(ha:a≠[])(h1:∀t∈a,t.1=k)(h2:∀t∈b,k<t.1):Ur (a++b)=(k,UM a)::Ur b:=by
 cases a with
 | nil=>exact absurd rfl ha
 | cons t a=>unfold Ur;rw[List.foldl_append,Ga,show Vj [] t=[(k,[(t.2.1,t.2.2)])] by rw[Vj,h1 t Qg],Jcx k a _ fun u hu=>h1 u (Qh _ hu),Jcy _ b [] fun u hu=>by have:=h2 u hu;dsimp only;omega];simp[UM]
noncomputable def Ww:Int->List Gp->List Pr
 | _,[]=>[]
 | k,g::gs=>byF (g.1-k-1) (putF (Ww g.1 gs) g.2)
noncomputable def OkG:Int->List Gp->Prop
 | _,[]=>True
 | k,g::gs=>k<g.1/\(∀p∈g.2,1<=p.2)/\Good (Ww g.1 gs)/\((Ww g.1 gs).length:Int)+(g.2.map (·.2)).sum<=30/\Good (putF (Ww g.1 gs) g.2)/\(putF (Ww g.1 gs) g.2).length<=30/\OkG g.1 gs
theorem ZH{k:Int}{q:List Pr}{t:Tr}(h:t∈Yv k q):1<=t.2.2:=by unfold Yv at h;obtain⟨u,hu,e⟩:=QT.mp h;obtain⟨_,c⟩:=M4.mp hu;have:=of_decide_eq_true c;rw[<- e];dsimp only;omega
theorem JnO(l:List Tr):((UM l).map (·.2)).sum=WR l:=by unfold UM WR;rw[QA];rfl
theorem Jq9:∀(m:Nat) (N:Nat) (k:Int) {ps:List Pr},ps.length<=m->Good ps->ps.length<=30->thN N ps=[]->Ww k (Ur (tbN N k ps))=ps/\OkG k (Ur (tbN N k ps)):=by
 intro m
 induction m with
 | zero=>intro N k ps hm g h30 hN;have:ps=[]:=Q1 (by omega);subst this;rw[Jcd];exact⟨rfl,trivial⟩
 | succ m ih =>
  intro N k ps hm g h30 hN
  by_cases h0:ps=[]
  ·subst h0;rw[Jcd];exact⟨rfl,trivial⟩
  ·obtain⟨c,hc,c1,w,t⟩:=Jpq g h0;obtain⟨C,hC,hCN,eT,eN⟩:=Jf4 w c1 h0 hN k;have g1:=Vi (C-1) g;have l1:=ZY (C-1) ps;have l2:=ZY C ps;have fw:=Jcg t;rw[<- hC,<- Jce C w c1 (by omega)] at fw;have eq1:thN C ps=thF (thN (C-1) ps):=by rw[<- Jaz,show C-1+1=C by omega]
   have ls:=JdV g1 (k+c);rw[<- eq1] at ls
   have hb:byF (c-1) (thN (C-1) ps)=ps:=by rw[Jcf w c1 (by omega),JhB,show c-1+-((C-1:Nat):Int)=0 by omega,Zp]
   have ll:(thN (C-1) ps).length=ps.length:=by have:=Wm (c-1) (thN (C-1) ps);rw[hb] at this;exact this.symm
   have hne:Yv (k+c) (thN (C-1) ps)≠[]:=fun z=>by rw[z] at ls;have:(0:Int)=_:=ls;omega
   have gc:=Jm0 (k+c) (Yv (k+c) (thN (C-1) ps)) (tbN (N-C) (k+c) (thN C ps)) hne (fun u hu=>Vc hu) fun u hu=>Jbc _ _ _ u hu
   obtain⟨i1,i2⟩:=ih (N-C) (k+c) (ps:=thN C ps) (by omega) (Vi C g) (by omega) eN;have pb:putF (thN C ps) (UM (Yv (k+c) (thN (C-1) ps)))=thN (C-1) ps:=by rw[eq1];exact Jls g1 (k+c)
   rw[eT,gc];refine⟨?_,?_⟩
   ·show byF (k+c-k-1) (putF (Ww (k+c) (Ur (tbN (N-C) (k+c) (thN C ps)))) (UM (Yv (k+c) (thN (C-1) ps))))=ps;rw[i1,pb,show k+c-k-1=c-1 by omega,hb]
   ·show k<k+c/\(∀p∈UM (Yv (k+c) (thN (C-1) ps)),1<=p.2)/\Good (Ww (k+c) (Ur (tbN (N-C) (k+c) (thN C ps))))/\((Ww (k+c) (Ur (tbN (N-C) (k+c) (thN C ps)))).length:Int)+((UM (Yv (k+c) (thN (C-1) ps))).map (·.2)).sum<=30/\Good (putF (Ww (k+c) (Ur (tbN (N-C) (k+c) (thN C ps)))) (UM (Yv (k+c) (thN (C-1) ps))))/\(putF (Ww (k+c) (Ur (tbN (N-C) (k+c) (thN C ps)))) (UM (Yv (k+c) (thN (C-1) ps)))).length<=30/\OkG (k+c) (Ur (tbN (N-C) (k+c) (thN C ps)))
    rw[i1,pb,JnO];refine⟨by omega,fun p hp=>?_,Vi C g,by omega,g1,by omega,i2⟩;obtain⟨u,hu,e⟩:=QT.mp hp;rw[<- e];exact ZH hu
noncomputable abbrev ctB:Es:=(Ju (xIf (tOr? (tB? (e2 fLt (Jd 2) (eC (.int 1)))) (tB? (e2 fLt (Jd 4) (eC (.int 1))))) UD JY) (Ju (xIf (tAnd? (tB? (e2 VV (Jd 1) (eC .non))) (tB? (e2 Jkr (Vk (aC (Jd 2) (aC (Jd 3) a0))) (Jd 1)))) UD JY) (Jx 1 (Vk (aC (Jd 2) (aC (Jd 3) a0))))))
noncomputable abbrev ctP:Pt:=(.tp (.cons (.nm 2) (.cons (.nm 3) (.cons (.nm 4) .nil))))
noncomputable abbrev gpP:Pt:=(.tp (.cons (.nm 2) (.cons (.nm 3) (.cons (.nm 4) .nil))))
noncomputable abbrev gpK:Ev:=(Jd 2)
noncomputable abbrev gpV:Ev:=(Vk (aC (Jd 3) (aC (Jd 4) a0)))
noncomputable abbrev roB:Es:=(Jx 6 (eU 2 Y1 (aC (eU 2 U2 (aC (Jd 6) (aC (Jmv (Jd 1) (Jd 2)) a0))) (aC (e2 Uh (e2 Uh (Jd 2) (Jd 7)) (eC (.int 1))) a0))))
noncomputable abbrev roP:Pt:=(.tp (.cons (.nm 7) (.cons (.nm 2) .nil)))
noncomputable def Jdg:Option Pr->List Tr->Prop
 | _,[]=>True
 | a,t::r=>1<=t.1/\1<=t.2.2/\(∀b,a=some b->b.1<t.1\/(b.1=t.1/\b.2<t.2.1))/\Jdg (some (t.1,t.2.1)) r
noncomputable def ahE:Option Pr->D
 | none=>.non
 | some p=>prE p
theorem JhJ(x:Sl):∀(tb:List Tr) (a:Option Pr) (j2 j3 j4:Sl),Jdg a tb->∃E',YG ctP ctB (tb.map trE) [x,.sh (ahE a),j2,j3,j4]=some (.nx (x::E'))/\E'.length=4
 | [],a,j2,j3,j4,_=>⟨_,rfl,rfl⟩
 | t::r,a,j2,j3,j4,h=>by
  obtain⟨h1,h2,h3,h4⟩:=h;obtain⟨E',ih⟩:=JhJ x r (some (t.1,t.2.1)) (.sh (.int t.1)) (.sh (.int t.2.1)) (.sh (.int t.2.2)) h4;refine⟨E',?_,ih.2⟩;rw[Qi,YG];simp only[trE];walk_at "ev";rw[decide_eq_false (show ¬t.1<1 by omega)];walk_at "ev";rw[decide_eq_false (show ¬t.2.2<1 by omega)];walk_at "ev"
  cases a with
  | none=>simp only[ahE];walk_at "ev";exact ih.1
  | some b =>
   have hb:=h3 b rfl;simp only[ahE,prE];walk_at "ev"
   have e:(if t.1=b.1 then decide (t.2.1<=b.2) else decide (t.1<=b.1))=false:=by
    split
    ·exact decide_eq_false (by omega)
    ·exact decide_eq_false (by omega)
   rw[e];walk_at "ev";exact ih.1
theorem Jr7(tb:List Tr)(h:Jdg none tb)(hs:WR tb<=30)(hl:tb.length<=30):∃r,Yj [.sh (.lst (tb.map trE))]=some r:=by
 obtain⟨E',e,el⟩:=JhJ (.sh (.lst (tb.map trE))) tb none .no .no .no h;unfold Yj;walk_at "ev";rw[show YG ctP ctB (tb.map trE) [.sh (.lst (tb.map trE)),.sh .non,.no,.no,.no]=_ from e];walk_at "ev";rw[Yc (g:=fun t:Tr=>D.int t.2.2)]
 ·walk_at "ev";rw[Vl (ns:=tb.map (·.2.2)) (by simp[Sl.q])];walk_at "ev";rw[decide_eq_false (show ¬(tb.map (·.2.2)).sum>30 from by unfold WR at hs;omega (config:={}))];walk_at "ev";exact⟨_,rfl⟩
 ·intro t _;simp only[trE];walk_at "ev"
theorem JeH:∀(g:List Gp) (t:Tr),(Vj g t).map (·.1)=Y7 (g.map (·.1)) t.1
 | [],t=>rfl
 | x::g,t=>by
  have ih:=JeH g t;unfold Y7 WZ at ih ⊢;rw[Vj,Qi,GU]
  by_cases h:x.1=t.1
  ·rw[if_pos h,decide_eq_true h,RN,if_pos rfl];rfl
  ·rw[if_neg h,decide_eq_false h,G5,Qi,ih];split <;> rfl
theorem Jcz:∀(g:List Gp) (t:Tr),Jcl (g.map (·.1)) (g.map fun x=>x.2.map prE) t.1 (prE (t.2.1,t.2.2))=(Vj g t).map fun x=>x.2.map prE
 | [],t=>rfl
 | x::g,t=>by
  rw[Qi,Qi,Jcl,Vj];split
  ·simp
  ·rw[Jcz g t];rfl
theorem Jr9(x a5 a6 a7:Sl):∀(tb:List Tr) (g:List Gp) (j2 j3 j4:Sl),∃j2' j3' j4',Zz gpP gpK gpV (tb.map trE) [x,.no,j2,j3,j4,a5,a6,a7] (g.map (·.1)) (g.map fun x=>x.2.map prE) =
 some ([x,.no,j2',j3',j4',a5,a6,a7],(tb.foldl Vj g).map (·.1),(tb.foldl Vj g).map fun x=>x.2.map prE)
 | [],g,j2,j3,j4=>⟨j2,j3,j4,rfl⟩
 | t::tb,g,j2,j3,j4=>by obtain⟨a,b,c,ih⟩:=Jr9 x a5 a6 a7 tb (Vj g t) (.sh (.int t.1)) (.sh (.int t.2.1)) (.sh (.int t.2.2));refine⟨a,b,c,?_⟩;rw[Qi,Zz];simp only[trE];walk_at "ev";rw[<- JeH,show D.tup [D.int t.2.1,D.int t.2.2]=prE (t.2.1,t.2.2) from rfl,Jcz];exact ih
theorem Jfe{p:Pt}{b:Es}(hb:∀E o,b E=some o->∃E',o=.nx E'):∀{xs ys:List D} {E E1:En},YG p b xs E=some (.nx E1)->YG p b (xs++ys) E=YG p b ys E1
 | [],ys,E,E1,h=>by cases h;rfl
 | x::xs,ys,E,E1,h=>by
  rw[YG] at h;rw[KI,YG]
  cases hp:p.bind x E with
  | none=>rw[hp] at h;cases h
  | some E2 =>
   rw[hp,QX] at h;rw[QX]
   cases ho:b E2 with
   | none=>rw[ho] at h;cases h
   | some o=>obtain⟨E3,e⟩:=hb E2 o ho;subst e;rw[ho,QX] at h;rw[QX];exact Jfe hb h
theorem Joc(i:Nat)(a:Ev):∀E o,Jx i a E=some o->∃E',o=.nx E':=fun E o e=>by
 unfold Jx at e;obtain⟨s,_,e⟩:=bind_some e;obtain⟨d,_,e⟩:=bind_some e;split at e
 ·cases e;exact⟨_,rfl⟩
 ·cases e
noncomputable def zl(k:Int)(gs:List Gp):List Pr:=List.zip (k::gs.map (·.1)) (gs.map (·.1))
theorem JoB(k:Int)(g:Gp)(gs:List Gp):zl k (g::gs)=(k,g.1)::zl g.1 gs:=rfl
theorem Jfc:∀{all:List Gp} {g:Gp},(all.map (·.1)).Nodup->g∈all->look (all.map (·.1)) ((all.map fun x=>x.2.map prE).map D.lst) g.1=some (.lst (g.2.map prE))
 | [],_,_,h=>by cases h
 | x::r,g,hn,h=>by
  rw[Qi,Ge] at hn;simp only[Qi,look];rcases Qp.mp h with z|z
  ·subst z;rw[if_pos rfl]
  ·rw[if_neg fun e=>hn.1 (by rw[e];exact QT.mpr ⟨g,z,rfl⟩)];exact Jfc hn.2 z
theorem Jnv{l:List Pr}(h:∀p∈l,1<=p.2):(l.length:Int)<=(l.map (·.2)).sum:=by
 induction l with
 | nil=>exact QK _
 | cons p r ih =>
  have:=ih fun q hq=>h q (Qh _ hq)
  have:=h p Qg;rw[Qi,QF,Qr];omega
theorem Jis(x a5:Sl)(j3 j4:Sl)(all:List Gp)(hn:(all.map (·.1)).Nodup):∀(gs:List Gp) (k:Int) (j2 j7:Sl),OkG k gs->(∀g∈gs,g∈all) ->
 ∃j2' j7',YG roP roB ((zl k gs).reverse.map prE) [x,.od (all.map (·.1)) ((all.map fun x=>x.2.map prE).map D.lst),j2,j3,j4,a5,.sh (.row (([]:List Pr).map prE)),j7]=some (.nx [x,.od (all.map (·.1)) ((all.map fun x=>x.2.map prE).map D.lst),j2',j3,j4,a5,.sh (.row ((Ww k gs).map prE)),j7'])
 | [],k,j2,j7,_,_=>⟨j2,j7,rfl⟩
 | g::gs,k,j2,j7,h,hm=>by
  obtain⟨h1,h2,h3,h4,h5,h6,h7⟩:=h;obtain⟨a,b,ih⟩:=Jis x a5 j3 j4 all hn gs g.1 j2 j7 h7 fun y hy=>hm y (Qh _ hy)
  have nl:=Jnv h2;refine⟨.sh (.int g.1),.sh (.int k),?_⟩;rw[JoB,List.reverse_cons,Q2,Jfe (Joc 6 _) ih]
  show YG roP roB [prE (k,g.1)] _=_;rw[YG];simp only[prE];walk_at "ev";rw[Jfc hn (hm g Qg)];walk_at "ev";rw[Jsa (Ww g.1 gs) g.2 h3 (fun p hp=>by have:=h2 p hp;omega) h4 (by omega) (by omega)];walk_at "ev";rw[show edF (Ww g.1 gs) 0 0 (VO (Jz (Ww g.1 gs)++Uk g.2))=putF (Ww g.1 gs) g.2 from rfl,show g.1-k-1=(((g.1-k-1).toNat:Nat):Int) by omega,Jnp _ _ h5 h6];walk_at "ev";rw[show(((g.1-k-1).toNat:Nat):Int)=g.1-k-1 by omega]
  rfl
theorem Jie:∀{gs:List Gp} {k:Int},OkG k gs->(gs.map (·.1)).Pairwise (·<·)/\∀y∈gs.map (·.1),k<y
 | [],_,_=>⟨.nil,fun _ h=>by cases h⟩
 | g::gs,k,h=>by
  obtain⟨h1,_,_,_,_,_,h7⟩:=h;obtain⟨i1,i2⟩:=Jie h7;refine⟨Q6.mpr ⟨i2,i1⟩,fun y hy=>?_⟩;rcases Qp.mp hy with z|z
  ·rw[z];exact h1
  ·have:=i2 y z;omega
theorem JeG:∀(g:List Gp) (t:Tr),(Vj g t).length<=g.length+1
 | [],t=>Qo _
 | x::g,t=>by
  have:=JeG g t;rw[Vj];split
  ·simp
  ·simp only[Qr];omega
theorem Jh0:∀(tb:List Tr) (g:List Gp),(tb.foldl Vj g).length<=g.length+tb.length
 | [],g=>by simp
 | t::tb,g=>by
  have:=Jh0 tb (Vj g t)
  have:=JeG g t;rw[Ga,Qr];omega
theorem Jnm(tb:List Tr)(h:Jdg none tb)(hs:WR tb<=30)(hl:tb.length<=30)(ok:OkG 0 (Ur tb)):VF [.sh (.lst (tb.map trE))]=some (.sh (.row ((Ww 0 (Ur tb)).map prE))):=by
 obtain⟨r,hr⟩:=Jr7 tb h hs hl;obtain⟨kp,_⟩:=Jie ok;have nd:((Ur tb).map (·.1)).Nodup:=kp.imp fun {a b} h=>by omega
 have gl:=Jh0 tb [];rw[show tb.foldl Vj []=Ur tb from rfl,GL] at gl;obtain⟨g2,g3,g4,hg⟩:=Jr9 (.sh (.lst (tb.map trE))) .no .no .no tb [] .no .no .no;rw[show tb.foldl Vj []=Ur tb from rfl] at hg;obtain⟨r2,r7,hro⟩:=Jis (.sh (.lst (tb.map trE))) (.sh (.lst (((Ur tb).map (·.1)).map .int))) g3 g4 (Ur tb) nd (Ur tb) 0 g2 .no ok (fun _ h=>h);unfold VF;walk_at "ev";rw[hr];walk_at "ev";unfold Joy;walk_at "ev";rw[show Zz gpP gpK gpV (tb.map trE) [.sh (.lst (tb.map trE)),.no,.no,.no,.no,.no,.no,.no] [] []=_ from hg]
 walk_at "ev";rw[show Jbo [.own []]=some (.sh (.row (([]:List Pr).map prE))) from WK (ps:=[]) rfl Good.nil (by simp)];walk_at "ev"
 have hz:JeF (D.int 0::((Ur tb).map (·.1)).map D.int) (((Ur tb).map (·.1)).map D.int)=(zl 0 (Ur tb)).map prE:=by rw[show D.int 0::((Ur tb).map (·.1)).map D.int=(0::(Ur tb).map (·.1)).map D.int from rfl,JiP];rfl
 rw[hz,<- List.map_reverse];rw[show YG roP roB ((zl 0 (Ur tb)).reverse.map prE) [.sh (.lst (tb.map trE)),.od ((Ur tb).map (·.1)) (((Ur tb).map fun x=>x.2.map prE).map D.lst),g2,g3,g4,.sh (.lst (((Ur tb).map (·.1)).map .int)),.sh (.row []),.no]=_ from hro];walk_at "ev"
theorem Jhv(K:Int)(rest:List Tr)(hK:1<=K)(hr:∀a',(∀b,a'=some b->b.1<=K)->Jdg a' rest):∀(L:List Tr) (a:Option Pr),(∀t∈L,t.1=K/\1<=t.2.2)->(L.map (·.2.1)).Pairwise (·<·)->(∀b,a=some b->b.1<K\/(b.1=K/\∀t∈L,b.2<t.2.1))->Jdg a (L++rest)
 | [],a,_,_,h=>hr a fun b e=>by rcases h b e with z|z <;> omega
 | t::L,a,h1,h2,h3=>by
  obtain⟨k1,k2⟩:=h1 t Qg;rw[Qi,Q6] at h2;refine⟨by omega,k2,fun b e=>?_,Jhv K rest hK hr L _ (fun u hu=>h1 u (Qh _ hu)) h2.2 fun b e=>?_⟩
  ·rcases h3 b e with z|⟨z,y⟩
   ·exact .inl (by omega)
   ·exact .inr ⟨by omega,y t Qg⟩
  ·cases e;exact .inr ⟨k1,fun u hu=>h2.1 _ (QT.mpr ⟨u,hu,rfl⟩)⟩
theorem Ja7{q:List Pr}(g:Good q)(k:Int):((Yv k q).map (·.2.1)).Pairwise (·<·):=by
 have h:=Jke (spF q) [] (by simp) (fun _ h=>by simp at h) (JlZ 0 g)
 have e:(Yv k q).map (·.2.1)=(((J0 q).filter fun t=>decide (t.2.1>t.2.2)).map (·.1)):=by unfold Yv;rw[QA];rfl
 rw[e]
 have e2:(J0 q).map (·.1)=(UU (spF q)).map (·.1):=by unfold J0;rw[QA];rfl
 have h':((J0 q).map (·.1)).Pairwise (·<·):=by rw[e2];exact h
 rw[My] at h' ⊢;exact h'.filter _
theorem Jdh:∀(n:Nat) (k:Int) (qs:List Pr) (a:Option Pr),Good qs->0<=k->(∀b,a=some b->b.1<=k)->Jdg a (tbN n k qs)
 | 0,_,_,_,_,_,_=>trivial
 | n+1,k,qs,a,g,hk,ha=>by rw[tbN];refine Jhv (k+1) _ (by omega) (fun a' h=>Jdh n (k+1) (thF qs) a' (Yy g) (by omega) h) _ a (fun t ht=>⟨Vc ht,ZH ht⟩) (Ja7 g (k+1)) fun b e=>.inl (by have:=ha b e;omega)
theorem Zn:∀{tb:List Tr} {a:Option Pr},Jdg a tb->∀t∈tb,1<=t.1/\1<=t.2.2
 | [],_,_,_,h=>by cases h
 | t::r,a,h,u,hu=>by
  obtain⟨h1,h2,_,h4⟩:=h;rcases Qp.mp hu with z|z
  ·rw[z];exact⟨h1,h2⟩
  ·exact Zn h4 u z
theorem JgQ:∀{tb:List Tr},(∀t∈tb,1<=t.2.2)->(tb.length:Int)<=WR tb/\∀t∈tb,t.2.2<=WR tb
 | [],_=>⟨QK _,fun _ h=>by cases h⟩
 | t::r,h=>by
  obtain⟨h1,h2⟩:=JgQ fun u hu=>h u (Qh t hu)
  have ht:=h t Qg
  have e:WR (t::r)=t.2.2+WR r:=by unfold WR;rw[Qi,QF]
  rw[e,Qr];refine⟨by omega,fun u hu=>?_⟩;rcases Qp.mp hu with z|z
  ·rw[z];omega
  ·have:=h2 u z;omega
theorem Jf2:∀(n:Nat) (k:Int) {qs:List Pr},Good qs->thN n qs=[]->((tbN n k qs).map fun t=>(t.1-k)*t.2.2).sum=(qs.map (·.2)).sum
 | 0,k,qs,g,h=>by have:qs=[]:=h;subst this;rfl
 | n+1,k,qs,g,h=>by
  have ih:=Jf2 n (k+1) (Yy g) h
  have l:=JdV g (k+1)
  have s:=Jey n (k+1) (Yy g) h
  have ts:=JiG g;unfold WR at l s;rw[tbN,Q2,LV]
  have e1:(Yv (k+1) qs).map (fun t=>(t.1-k)*t.2.2)=(Yv (k+1) qs).map (·.2.2):=QL fun t ht=>by rw[Vc ht,show k+1-k=1 by omega,LQ]
  have e2:(tbN n (k+1) (thF qs)).map (fun t=>(t.1-k)*t.2.2)=(tbN n (k+1) (thF qs)).map fun t=>t.2.2+(t.1-(k+1))*t.2.2:=QL fun t ht=>by rw[show t.1-k=1+(t.1-(k+1)) by omega,Kw,LQ]
  rw[e1,e2,JiA,ih,l,s,ts];omega
noncomputable def mvP(d:Int)(ps:List Pr):List Pr:=ps.map fun p=>(p.1-d,p.2)
theorem Jsd(d k:Int)(ps:List Pr):byF k (mvP d ps)=mvP d (byF k ps):=by
 refine GA fun i=>?_
 unfold byF mvP;rw[QH,Qt,Qt,QH,KG,KG]
 cases ps[i]? with
 | none=>rfl
 | some p=>exact congrArg some (Lh (by show p.1-d+2*k*(i:Int)=p.1+2*k*(i:Int)-d;omega) rfl)
theorem JdY(d:Int):∀(r:List Pr) (cur:Pr),clF (cur.1-d,cur.2) (mvP d r)=mvP d (clF cur r)
 | [],cur=>rfl
 | p::r,cur=>by
  show clF (cur.1-d,cur.2) ((p.1-d,p.2)::mvP d r)=_;rw[clF,clF];dsimp only
  by_cases h:cur.1+cur.2=p.1
  ·rw[if_pos (by omega),if_pos h];exact JdY d r (cur.1,cur.2+p.2)
  ·rw[if_neg (by omega),if_neg h];split
   ·rw[JdY d r p];rfl
   ·exact JdY d r cur
theorem JgP(d:Int):∀(ps:List Pr),clN (mvP d ps)=mvP d (clN ps)
 | []=>rfl
 | p::r=>by
  show clN ((p.1-d,p.2)::mvP d r)=_;rw[clN,clN];split
  ·exact JdY d r p
  ·exact JgP d r
theorem Jk5(d:Int)(ps:List Pr):thF (mvP d ps)=mvP d (thF ps):=by unfold thF;rw[Jsd,JgP]
theorem Jk6(d:Int):∀(n:Nat) (ps:List Pr),thN n (mvP d ps)=mvP d (thN n ps)
 | 0,_=>rfl
 | n+1,ps=>by show thN n (thF (mvP d ps))=mvP d (thN n (thF ps));rw[Jk5,Jk6 d n]
theorem Jsf(d:Int)(ps:List Pr):spF (mvP d ps)=(spF ps).map (·-d):=by
 refine GA fun i=>?_
 unfold spF mvP;rw[Qt,Qt,Qt,La,La,Qt]
 cases ps[i]? with
 | none=>rfl
 | some p=>exact congrArg some (by show p.1-d+p.2-1-2*((0+i:Nat):Int)=p.1+p.2-1-2*((0+i:Nat):Int)-d;omega)
theorem Jk4(d:Int)(ps:List Pr)(x:Int):J5 (mvP d ps) (x-d)=J5 ps x:=by
 induction ps with
 | nil=>rfl
 | cons p r ih =>
  show J5 ((p.1-d,p.2)::mvP d r) (x-d)=_;rw[Yk,Yk,ih];dsimp only;congr 2
  ·rw[decide_eq_decide];omega
  ·rw[decide_eq_decide];omega
theorem Jse(d:Int)(ps:List Pr)(x:Int):owF (mvP d ps) (x-d)=owF ps x:=by unfold owF;rw[Jk4,show x-d-1=x-1-d by omega,Jk4]
theorem Jqf(d:Int)(L:List Int):UU (L.map (·-d))=(UU L).map fun p=>(p.1-d,p.2):=by have:=JcK d L [];exact this
theorem Jqg(d k:Int)(ps:List Pr):Yv k (mvP d ps)=(Yv k ps).map fun t=>(t.1,t.2.1-d,t.2.2):=by
 have e:J0 (mvP d ps)=(J0 ps).map fun t=>(t.1-d,t.2.1,t.2.2):=by
  unfold J0;rw[Jsf,Jqf,QA,QA];refine QL fun p _=>?_
  show(p.1-d,p.2,owF (thF (mvP d ps)) (p.1-d))=(p.1-d,p.2,owF (thF ps) p.1)
  rw[Jk5,Jse]
 unfold Yv;rw[e,List.filter_map,QA,QA];rfl
theorem JoN(d:Int):∀(n:Nat) (k:Int) (ps:List Pr),tbN n k (mvP d ps)=(tbN n k ps).map fun t=>(t.1,t.2.1-d,t.2.2)
 | 0,_,_=>rfl
 | n+1,k,ps=>by rw[tbN,tbN,Q2,Jqg,Jk5,JoN d n]
theorem JsS{c1 c2 p1 p2 ins s:Int}(e:c1+c2=p1)(hc:0<=c2)(hp:0<=p2)(h0:0<=ins)(h1:ins<=s):∃t u,min c2 (s-ins)=t/\max 0 (ins+t-(p1-c1-c2))=ins+t/\min (ins+t) (p1-c1-c2)=0 ∧
 min p2 (s-(ins+t))=u/\min (c2+p2) (s-ins)=t+u/\0<=t/\t<=c2/\0<=u/\u<=p2/\(t=c2\/u=0):=by
 have z:p1-c1-c2=0:=by omega
 rw[z];rcases KQ c2 (s-ins) with h|h
 ·rw[GN h];rcases KQ p2 (s-(ins+c2)) with k|k
  ·exact⟨c2,p2,rfl,by omega,by omega,GN k,by omega,hc,QK _,hp,QK _,.inl rfl⟩
  ·exact⟨c2,s-(ins+c2),rfl,by omega,by omega,Gn k,by omega,hc,QK _,by omega,k,.inl rfl⟩
 ·rw[Gn h];exact⟨s-ins,0,rfl,by omega,by omega,by omega,by omega,by omega,h,QK _,hp,.inr rfl⟩
theorem bare{c1 c2 p1 p2 ins s:Int}(hb:c1+c2<=p1)(hp:p2=0)(hc:0<=c2)(h0:0<=ins)(h1:ins<=s):∃t m w,min c2 (s-ins)=t/\max 0 (ins+t-(p1-c1-c2))=m/\min (ins+t) (p1-c1-c2)=w/\min p2 (s-m)=0/\0<=t/\t<=c2 ∧
 ((m=0/\w=ins+t/\ins+t<=p1-c1-c2)\/(m=ins+t-(p1-c1-c2)/\w=p1-c1-c2/\p1-c1-c2<=ins+t)):=by
 obtain⟨t,ht,t0,t1,t2⟩:∃t,min c2 (s-ins)=t/\0<=t/\t<=c2/\ins+t<=s:=⟨_,rfl,by omega (config:={}),by omega (config:={}),by omega (config:={})⟩
 rw[ht];rcases KQ (ins+t) (p1-c1-c2) with h|h
 ·exact⟨t,0,ins+t,rfl,by omega (config:={}),GN h,by omega (config:={}),t0,t1,.inl ⟨rfl,rfl,h⟩⟩
 ·exact⟨t,ins+t-(p1-c1-c2),p1-c1-c2,rfl,by omega (config:={}),Gn h,by omega (config:={}),t0,t1,.inr ⟨rfl,rfl,h⟩⟩
noncomputable def goS(s:Int):Int->List Pr->List Pr
 | _,[]=>[]
 | ins,[p]=>[(p.1+min p.2 (s-ins),p.2-min p.2 (s-ins)+(ins+min p.2 (s-ins)))]
 | ins,p::q::r=>(p.1+min p.2 (s-ins),p.2-min p.2 (s-ins)+min (ins+min p.2 (s-ins)) (q.1-p.1-p.2))::goS s (max 0 (ins+min p.2 (s-ins)-(q.1-p.1-p.2))) (q::r)
theorem Ya(s ins:Int)(p q:Pr)(r:List Pr):goS s ins (p::q::r)=(p.1+min p.2 (s-ins),p.2-min p.2 (s-ins)+min (ins+min p.2 (s-ins)) (q.1-p.1-p.2))::goS s (max 0 (ins+min p.2 (s-ins)-(q.1-p.1-p.2))) (q::r):=rfl
theorem VW{s:Int}:∀(ps:List Pr) (ins:Int),Good ps->0<=ins->ins<=s-1->Good (goS s ins ps)/\∀q,(goS s ins ps)[0]?=some q->∀p,ps[0]?=some p->q.1=p.1+min p.2 (s-ins)
 | [],_,_,_,_=>⟨Good.nil,fun q e=>by simp[goS] at e⟩
 | [p],ins,g,h0,h1=>by
  have hp:=g.one 0 p rfl;refine⟨Good.mk' ?_ (fun q e=>by simp at e) Good.nil,fun q e p' e'=>?_⟩
  ·dsimp only;omega (config:={})
  ·simp[goS] at e e';subst e';rw[<- e]
 | p::q::r,ins,g,h0,h1=>by
  have hp:=g.one 0 p rfl
  have hq:=g.one 1 q rfl
  have hg:=g.gap 0 p q rfl rfl;obtain⟨t,ht,t0,t2⟩:∃t,min p.2 (s-ins)=t/\1<=t/\ins+t<=s:=⟨_,rfl,RH.mpr ⟨hp,by omega (config:={})⟩,by have:=Ki p.2 (s-ins);omega (config:={})⟩
  have t1:t<=p.2:=by rw[<- ht];exact LY _ _
  have l1:max 0 (ins+t-(q.1-p.1-p.2))<=s-1:=Mj.mpr ⟨by omega (config:={}),by omega (config:={})⟩
  have w0:1<=min (ins+t) (q.1-p.1-p.2):=RH.mpr ⟨by omega (config:={}),by omega (config:={})⟩
  have w1:=Ki (ins+t) (q.1-p.1-p.2);obtain⟨i1,i2⟩:=VW (s:=s) (q::r) (max 0 (ins+t-(q.1-p.1-p.2))) (Good.cons' g) (Lo _ _) l1
  have u0:1<=min q.2 (s-max 0 (ins+t-(q.1-p.1-p.2))):=RH.mpr ⟨hq,by omega (config:={})⟩;rw[Ya,ht]
  have ht':=ht
  clear ht;refine⟨Good.mk' ?_ (fun q' e=>?_) i1,fun q' e p' e'=>?_⟩
  ·dsimp only
   revert w0
   generalize min (ins+t) (q.1-p.1-p.2)=w
   intro w0;omega (config:={})
  ·have i3:=i2 q' e q rfl;dsimp only
   revert w0 w1 u0 i3
   generalize min (ins+t) (q.1-p.1-p.2)=w
   generalize min q.2 _=u
   intro w0 w1 u0 i3;omega (config:={})
  ·simp at e e';subst e';rw[<- e,ht']
theorem JdL(s:Int):∀(ps:List Pr) (ins:Int),(goS s ins ps).length=ps.length
 | [],_=>rfl
 | [p],_=>rfl
 | p::q::r,ins=>by rw[Ya,Qr,JdL s (q::r)];rfl
theorem Ja3:∀(ps:List Pr),Wide 0 ps->goS 0 0 ps=ps
 | [],_=>rfl
 | [p],w=>by
  have hp:=w.one 0 p rfl
  show [(p.1+min p.2 (0-0),p.2-min p.2 (0-0)+(0+min p.2 (0-0)))]=[p]
  congr 1;exact Lh (by dsimp only;omega) (by dsimp only;omega)
 | p::q::r,w=>by
  have hp:=w.one 0 p rfl
  have hg:=w.gap 0 p q rfl rfl;rw[Ya,show max 0 (0+min p.2 (0-0)-(q.1-p.1-p.2))=0 by omega,Ja3 (q::r) w.cons];congr 1;exact Lh (by dsimp only;omega) (by dsimp only;omega)
theorem JkD(s:Int):∀(ps:List Pr) (c ins:Int),Good ps->0<=ins->ins<=s-1->byR c (goS s ins ps)=mvP (-1) (goS (s-1) ins (byR c ps))
 | [],_,_,_,_,_=>rfl
 | [p],c,ins,g,h0,h1=>by
  have hp:=g.one 0 p rfl
  show [(p.1+min p.2 (s-ins)-c,p.2-min p.2 (s-ins)+(ins+min p.2 (s-ins))-1)]=[(p.1-c+min (p.2-1) (s-1-ins) - -1,p.2-1-min (p.2-1) (s-1-ins)+(ins+min (p.2-1) (s-1-ins)))]
  congr 1;exact Lh (by dsimp only;omega) (by dsimp only;omega)
 | p::q::r,c,ins,g,h0,h1=>by
  have hp:=g.one 0 p rfl
  have hg:=g.gap 0 p q rfl rfl
  have hm:min (p.2-1) (s-1-ins)=min p.2 (s-ins)-1:=by omega
  have ht:=Ki p.2 (s-ins)
  revert hm ht
  generalize ht:min p.2 (s-ins)=t
  intro hm h3;have ih:=JkD s (q::r) (c+2) (max 0 (ins+t-(q.1-p.1-p.2))) (Good.cons' g) (Lo _ _) (Mj.mpr ⟨by omega,by omega⟩);rw[Ya,ht,byR,ih];show _=mvP (-1) (goS (s-1) ins ((p.1-c,p.2-1)::(q.1-(c+2),q.2-1)::byR (c+2+2) r));rw[Ya];dsimp only;rw[hm,show q.1-(c+2)-(p.1-c)-(p.2-1)=q.1-p.1-p.2-1 by omega,show ins+(t-1)-(q.1-p.1-p.2-1)=ins+t-(q.1-p.1-p.2) by omega,show min (ins+(t-1)) (q.1-p.1-p.2-1)=min (ins+t) (q.1-p.1-p.2)-1 by omega]
  show _=(p.1-c+(t-1) - -1,p.2-1-(t-1)+(min (ins+t) (q.1-p.1-p.2)-1))::mvP (-1) (goS (s-1) (max 0 (ins+t-(q.1-p.1-p.2))) (byR (c+2) (q::r)));rw[show p.1-c+(t-1) - -1=p.1+t-c by omega,show p.2-1-(t-1)+(min (ins+t) (q.1-p.1-p.2)-1)=p.2-t+min (ins+t) (q.1-p.1-p.2)-1 by omega]
theorem Jba{A B T:Bool}(h:A=B):(A || T)=(B || T):=by rw[h]
noncomputable def inI(a b x:Int):Bool:=decide (a<=x) && decide (x<b)
theorem inI_t{a b x:Int}:inI a b x=true↔a<=x/\x<b:=by unfold inI;simp
theorem YH(p:Pr)(ps:List Pr)(x:Int):J5 (p::ps) x=(inI p.1 (p.1+p.2) x || J5 ps x):=Yk p ps x
theorem Jm1{a b c d e f x:Int}(h:(a<=x/\x<b)↔(c<=x/\x<d)\/(e<=x/\x<f)):inI a b x=(inI c d x || inI e f x):=by rw[GC,Lk,inI_t,inI_t,inI_t];exact h
theorem JG(p:Pr)(ps:List Pr):Jz (p::ps)=(p.1+p.2)::Jz ps:=rfl
theorem Je6{a c x:Int}(h:c<=a):inI a c x=false:=by rw[Bool.eq_false_iff];intro z;have:=inI_t.mp z;omega
theorem Je5{a b c d e f x:Int}(h:(c=a/\d=e/\f=b/\c<=d/\e<=f)\/(d<=c/\e=a/\f=b)\/(f<=e/\c=a/\d=b)):inI a b x=(inI c d x || inI e f x):=by
 rcases h with ⟨rfl,rfl,rfl,h1,h2⟩|⟨h1,rfl,rfl⟩|⟨h1,rfl,rfl⟩
 ·exact Jm1 (by omega (config:={}))
 ·rw[Je6 h1,G5]
 ·rw[Je6 h1,LM]
theorem JrO{A B C D x:Int}{l:List Int}(h:(A=C/\B=D)\/(A=D/\B=C)):(A::B::l).count x=(C::l).count x+(if D=x then 1 else 0):=by rcases h with ⟨rfl,rfl⟩|⟨rfl,rfl⟩ <;> simp only[Gq,beq_iff_eq] <;> omega
theorem JoI{c1 c2 p1 p2 t u w x:Int}(e:c1+c2=p1)(hz:t=c2\/u=0)(t1:t<=c2)(hw:0<=p2+w):inI (c1+(t+u)) (c1+(t+u)+(c2+p2-(t+u)+w)) x=(inI (c1+t) (c1+t+(c2-t+0)) x || inI (p1+u) (p1+u+(p2-u+w)) x):=by
 subst e;refine Je5 ?_;rcases hz with z|z
 ·exact .inr (.inl ⟨by omega,by omega,by omega⟩)
 ·exact .inl ⟨by omega,by omega,by omega,by omega,by omega⟩
theorem JoF{c1 c2 p1 p2 t u w:Int}(e:c1+c2=p1)(l:List Int):(c1+t+(c2-t+0))::(p1+u+(p2-u+w))::l=(c1+c2)::(c1+(t+u)+(c2+p2-(t+u)+w))::l:=by rw[show c1+t+(c2-t+0)=c1+c2 by omega,show p1+u+(p2-u+w)=c1+(t+u)+(c2+p2-(t+u)+w) by omega]
theorem JoJ{c1 c2 p1 p2 t v y x:Int}(hp:p2=0)(hk:y=0\/v=p1-c1-c2)(y0:0<=y)(t1:t<=c2)(v0:0<=v):inI (c1+t) (c1+t+(c2-t+(v+y))) x=(inI (c1+t) (c1+t+(c2-t+v)) x || inI (p1+0) (p1+0+(p2-0+y)) x):=by
 refine Je5 ?_;rcases hk with z|z
 ·exact .inr (.inr ⟨by omega,rfl,by omega⟩)
 ·exact .inl ⟨rfl,by omega,by omega,by omega,by omega⟩
theorem JoG{c1 c2 p1 p2 t v y x:Int}{l:List Int}(hp:p2=0)(hk:y=0\/v=p1-c1-c2):((c1+t+(c2-t+v))::(p1+0+(p2-0+y))::l).count x=((c1+t+(c2-t+(v+y)))::l).count x+(if p1=x then 1 else 0):=by
 refine JrO ?_;rcases hk with z|z
 ·exact .inl ⟨by omega,by omega⟩
 ·exact .inr ⟨by omega,by omega⟩
theorem JdK(s x:Int):∀(r:List Pr) (cur:Pr) (ins:Int),0<=cur.2->Wide 0 r->(∀q,r[0]?=some q->cur.1+cur.2<=q.1)->0<=ins->ins<=s ->
 J5 (goS s ins (clF cur r)) x=J5 (goS s ins (cur::r)) x/\(Jz (goS s ins (cur::r))).count x+(Jz (clF cur r)).count x=(Jz (goS s ins (clF cur r))).count x+(Jz (cur::r)).count x
 | [],_,_,_,_,_,_,_=>⟨rfl,rfl⟩
 | p::r,cur,ins,hc,w,hq,h0,h1=>by
  have hp:=w.one 0 p rfl
  have hb:=hq p rfl
  have nx:∀q,r[0]?=some q->p.1+p.2<=q.1:=fun q e=>by have:=w.gap 0 p q rfl (by simpa using e);omega (config:={})
  rw[clF];split
  ·next e =>
   obtain⟨i1,i2⟩:=JdK s x r (cur.1,cur.2+p.2) ins (by dsimp only;omega (config:={})) w.cons (fun q e'=>by have:=nx q e';dsimp only;omega (config:={})) h0 h1;obtain⟨t,u,ht,hl,hd,hu,hm,t0,t1,u0,u1,hz⟩:=JsS e hc hp h0 h1
   have e2:Jz (cur::p::r)=(cur.1+cur.2)::Jz ((cur.1,cur.2+p.2)::r):=by rw[JG,JG,JG];dsimp only;rw[show cur.1+(cur.2+p.2)=p.1+p.2 by omega (config:={})]
   cases r with
   | nil =>
    have f1:goS s ins [cur,p]=[(cur.1+t,cur.2-t+0),(p.1+u,p.2-u+(ins+t+u))]:=by rw[Ya,ht,hl,hd];show _::[(p.1+min p.2 (s-(ins+t)),p.2-min p.2 (s-(ins+t))+(ins+t+min p.2 (s-(ins+t))))]=_;rw[hu]
    have f2:goS s ins [(cur.1,cur.2+p.2)]=[(cur.1+(t+u),cur.2+p.2-(t+u)+(ins+t+u))]:=by show [(cur.1+min (cur.2+p.2) (s-ins),cur.2+p.2-min (cur.2+p.2) (s-ins)+(ins+min (cur.2+p.2) (s-ins)))]=_;rw[hm,MH ins]
    clear ht hl hd hu hm;refine⟨?_,?_⟩
    ·rw[i1,f1,f2,YH,YH,YH,<- LN];exact Jba (JoI e hz t1 (by omega (config:={})))
    ·have e1:Jz (goS s ins [cur,p])=(cur.1+cur.2)::Jz (goS s ins [(cur.1,cur.2+p.2)]):=by rw[f1,f2,JG,JG,JG];exact JoF e _
     rw[e1,e2,Gq,Gq];omega (config:={})
   | cons q r =>
    have hn:=nx q rfl
    have f1:goS s ins (cur::p::q::r)=(cur.1+t,cur.2-t+0)::(p.1+u,p.2-u+min (ins+t+u) (q.1-p.1-p.2))::goS s (max 0 (ins+t+u-(q.1-p.1-p.2))) (q::r):=by rw[Ya,ht,hl,hd,Ya,hu]
    have f2:goS s ins ((cur.1,cur.2+p.2)::q::r)=(cur.1+(t+u),cur.2+p.2-(t+u)+min (ins+t+u) (q.1-p.1-p.2))::goS s (max 0 (ins+t+u-(q.1-p.1-p.2))) (q::r):=by rw[Ya];dsimp only;rw[hm,show q.1-cur.1-(cur.2+p.2)=q.1-p.1-p.2 by omega (config:={}),show ins+(t+u)=ins+t+u by omega (config:={})]
    clear ht hl hd hu hm;have w0:0<=min (ins+t+u) (q.1-p.1-p.2):=by omega (config:={})
    generalize min (ins+t+u) (q.1-p.1-p.2)=v at w0 f1 f2
    refine⟨?_,?_⟩
    ·rw[i1,f1,f2,YH,YH,YH,<- LN];exact Jba (JoI e hz t1 (by omega (config:={})))
    ·have e1:Jz (goS s ins (cur::p::q::r))=(cur.1+cur.2)::Jz (goS s ins ((cur.1,cur.2+p.2)::q::r)):=by rw[f1,f2,JG,JG,JG];exact JoF e _
     rw[e1,e2,Gq,Gq];omega (config:={})
  ·next e =>
   split
   ·next hpp =>
    obtain⟨q',e1,e2⟩:=Jbj r p;obtain⟨i1,i2⟩:=JdK s x r p (max 0 (ins+min cur.2 (s-ins)-(p.1-cur.1-cur.2))) (by omega (config:={})) w.cons nx (by omega (config:={})) (by omega (config:={}))
    cases hcl:clF p r with
    | nil=>rw[hcl] at e1;cases e1
    | cons y l =>
     rw[hcl] at e1 i1 i2;have:y=q':=by simpa using e1
     subst this;rw[Ya,Ya,e2];refine⟨?_,?_⟩
     ·rw[YH,YH,i1]
     ·rw[JG _ (goS s _ (p::r)),JG cur (y::l),JG _ (goS s _ (y::l)),JG cur (p::r),Gq,Gq,Gq,Gq];omega (config:={})
   ·next hpp =>
    have hp0:p.2=0:=by omega (config:={})
    obtain⟨i1,i2⟩:=JdK s x r cur ins hc w.cons (fun q e'=>by have:=nx q e';omega (config:={})) h0 h1;obtain⟨t,m,v,ht,hl,hd,hu,t0,t1,hz⟩:=bare hb hp0 hc h0 h1;have v0:0<=v:=by rcases hz with ⟨z1,z2,z3⟩|⟨z1,z2,z3⟩ <;> omega (config:={})
    have e2:(Jz (cur::p::r)).count x=(Jz (cur::r)).count x+(if p.1=x then 1 else 0):=by rw[JG,JG,JG];exact JrO (.inl ⟨rfl,by omega (config:={})⟩)
    cases r with
    | nil =>
     obtain⟨k1,k2,k3⟩:(m+0=0\/v=p.1-cur.1-cur.2)/\ins+t=v+(m+0)/\0<=m+0:=by rcases hz with ⟨z1,z2,z3⟩|⟨z1,z2,z3⟩ <;> omega (config:={})
     have f1:goS s ins [cur,p]=[(cur.1+t,cur.2-t+v),(p.1+0,p.2-0+(m+0))]:=by rw[Ya,ht,hl,hd];show _::[(p.1+min p.2 (s-m),p.2-min p.2 (s-m)+(m+min p.2 (s-m)))]=_;rw[hu]
     have f2:goS s ins [cur]=[(cur.1+t,cur.2-t+(v+(m+0)))]:=by show [(cur.1+min cur.2 (s-ins),cur.2-min cur.2 (s-ins)+(ins+min cur.2 (s-ins)))]=_;rw[ht,k2]
     refine⟨?_,?_⟩
     ·rw[i1,f1,f2,YH,YH,YH,<- LN];exact Jba (JoJ hp0 k1 k3 t1 v0)
     ·rw[show(Jz (goS s ins [cur,p])).count x=(Jz (goS s ins [cur])).count x+(if p.1=x then 1 else 0) by rw[f1,f2,JG,JG,JG];exact JoG hp0 k1,e2]
      omega (config:={})
    | cons q r =>
     have hn:=nx q rfl
     obtain⟨y,y0,k1,k2,k3,k4⟩:∃y:Int,0<=y/\min (m+0) (q.1-p.1-p.2)=y/\min (ins+t) (q.1-cur.1-cur.2)=v+y/\max 0 (m+0-(q.1-p.1-p.2))=max 0 (ins+t-(q.1-cur.1-cur.2))/\(y=0\/v=p.1-cur.1-cur.2):=by
      rcases hz with ⟨z1,z2,z3⟩|⟨z1,z2,z3⟩
      ·subst z1 z2;exact⟨0,QK _,by omega (config:={}),by omega (config:={}),by omega (config:={}),.inl rfl⟩
      ·subst z1 z2;exact⟨_,by omega (config:={}),rfl,by omega (config:={}),by omega (config:={}),.inr rfl⟩
     have f1:goS s ins (cur::p::q::r)=(cur.1+t,cur.2-t+v)::(p.1+0,p.2-0+y)::goS s (max 0 (ins+t-(q.1-cur.1-cur.2))) (q::r):=by rw[Ya,ht,hl,hd,Ya,hu,k1,k3]
     have f2:goS s ins (cur::q::r)=(cur.1+t,cur.2-t+(v+y))::goS s (max 0 (ins+t-(q.1-cur.1-cur.2))) (q::r):=by rw[Ya,ht,k2]
     refine⟨?_,?_⟩
     ·rw[i1,f1,f2,YH,YH,YH,<- LN];exact Jba (JoJ hp0 k4 y0 t1 v0)
     ·rw[show(Jz (goS s ins (cur::p::q::r))).count x=(Jz (goS s ins (cur::q::r))).count x+(if p.1=x then 1 else 0) by rw[f1,f2,JG,JG,JG];exact JoG hp0 k4,e2]
      omega (config:={})
theorem Jgz(s x:Int)(hs:0<=s):∀(ps:List Pr),Wide 0 ps->J5 (goS s 0 (clN ps)) x=J5 (goS s 0 ps) x/\(Jz (goS s 0 ps)).count x+(Jz (clN ps)).count x=(Jz (goS s 0 (clN ps))).count x+(Jz ps).count x
 | [],_=>⟨rfl,rfl⟩
 | p::r,w=>by
  have hp:=w.one 0 p rfl;rw[clN];split
  ·next h=>exact JdK s x r p 0 hp w.cons (fun q e=>by have:=w.gap 0 p q rfl (by simpa using e);omega) (QK _) hs
  ·next h =>
   have hp0:p.2=0:=by omega
   obtain⟨i1,i2⟩:=Jgz s x hs r w.cons
   have e:goS s 0 (p::r)=p::goS s 0 r:=by
    cases r with
    | nil =>
     show [(p.1+min p.2 (s-0),p.2-min p.2 (s-0)+(0+min p.2 (s-0)))]=[p]
     congr 1;exact Lh (by dsimp only;omega) (by dsimp only;omega)
    | cons q r=>have:=w.gap 0 p q rfl rfl;rw[Ya,show max 0 (0+min p.2 (s-0)-(q.1-p.1-p.2))=0 by omega];congr 1;exact Lh (by dsimp only;omega) (by dsimp only;omega)
   rw[e];refine⟨?_,?_⟩
   ·rw[i1,YH,show inI p.1 (p.1+p.2) x=false by
     cases c:inI p.1 (p.1+p.2) x with
     | false=>rfl
     | true=>rw[inI_t] at c;omega]
    rfl
   ·rw[JG,JG p r,Gq,Gq];omega
theorem Jid(d:Int)(ps:List Pr):Jz (mvP d ps)=(Jz ps).map (·-d):=by unfold Jz mvP;rw[QA,QA];exact QL fun p _=>by show p.1-d+p.2=p.1+p.2-d;omega
theorem Jns{c d:Int}{ps:List Pr}(w:Wide c (mvP d ps)):Wide c ps:=by refine⟨fun i p e=>w.one i (p.1-d,p.2) (by unfold mvP;rw[Qt,e];rfl),fun i p q e1 e2=>?_⟩;have:=w.gap i (p.1-d,p.2) (q.1-d,q.2) (by unfold mvP;rw[Qt,e1];rfl) (by unfold mvP;rw[Qt,e2];rfl);dsimp only at this;omega
theorem Jl8{s:Int}(hs:1<=s){ps:List Pr}(g:Good ps):thF (goS s 0 ps)=mvP (-1) (goS (s-1) 0 (thF ps)):=by
 have g1:=(VW (s:=s) ps 0 g (QK _) (by omega)).1
 have e:byF (-1) (goS s 0 ps)=mvP (-1) (goS (s-1) 0 (byF (-1) ps)):=by rw[<- WJ,<- WJ];exact JkD s ps 0 0 g (QK _) (by omega)
 have w1:Wide 0 (goS (s-1) 0 (byF (-1) ps)):=by have:Wide (1+-1) (byF (-1) (goS s 0 ps)):=(Y3 g1).bys (k:=-1);rw[e] at this;exact Jns this
 have w0:Wide 0 (byF (-1) ps):=by
  have z:Wide (1+-1) (byF (-1) ps):=(Y3 g).bys (k:=-1)
  rwa [show(1:Int)+-1=0 by decide] at z
 have gt:=Yy g
 have g2:Good (goS (s-1) 0 (thF ps)):=by
  by_cases h:s-1=0
  ·rw[h,Ja3 _ ((Y3 gt).mono (by omega))];exact gt
  ·exact(VW (s:=s-1) (thF ps) 0 gt (QK _) (by omega)).1
 have key:clN (goS (s-1) 0 (byF (-1) ps))=goS (s-1) 0 (thF ps):=by
  refine JdM (Jbk _ w1) g2 fun x=>?_
  rw[Jdt x _ fun p hp=>by obtain⟨i,hi,rfl⟩:=Gu.mp hp;exact w1.one i _ (by simp)]
  exact(Jgz (s-1) x (by omega) (byF (-1) ps) w0).1.symm
 show clN (byF (-1) (goS s 0 ps))=_;rw[e,JgP,key]
theorem JsO{s:Int}(hs:1<=s){ps:List Pr}(g:Good ps)(x:Int):(spF (goS s 0 ps)).count (x+1)+(Jz (thF ps)).count x=(Jz (thF (goS s 0 ps))).count (x+1)+(spF ps).count x:=by
 have w0:Wide 0 (byF (-1) ps):=by
  have z:Wide (1+-1) (byF (-1) ps):=(Y3 g).bys (k:=-1)
  rwa [show(1:Int)+-1=0 by decide] at z
 have e:byF (-1) (goS s 0 ps)=mvP (-1) (goS (s-1) 0 (byF (-1) ps)):=by rw[<- WJ,<- WJ];exact JkD s ps 0 0 g (QK _) (by omega)
 have sb:∀q:List Pr,spF q=Jz (byF (-1) q):=fun q=>by
  have z:=JlX (-1) q
  rwa [show(-1:Int)+1=0 by omega,Zp] at z
 have cm:∀l:List Int,(l.map (· - -1)).count (x+1)=l.count x:=fun l=>by
  induction l with
  | nil=>rfl
  | cons y l ih =>
   rw[Qi,Gq,Gq,ih];congr 1
   by_cases h:y=x
   ·subst h;simp
   ·rw[if_neg (by simpa using h),if_neg (by simp;omega)]
 have k:=(Jgz (s-1) x (by omega) (byF (-1) ps) w0).2;rw[sb,e,Jid,cm,Jl8 hs g,Jid,cm,sb ps];exact k
theorem JkP:∀{a b:List Pr},(a.map (·.1)).Pairwise (·<·)->(b.map (·.1)).Pairwise (·<·)->(∀p∈a,1<=p.2)->(∀p∈b,1<=p.2)->(∀x,lk x a=lk x b)->a=b
 | [],[],_,_,_,_,_=>rfl
 | [],q::b,_,_,_,h,e=>by
  have:=e q.1;rw[lk,lk,if_pos rfl] at this
  have:=h q Qg;omega
 | p::a,[],_,_,h,_,e=>by
  have:=e p.1;rw[lk,lk,if_pos rfl] at this
  have:=h p Qg;omega
 | p::a,q::b,ha,hb,h1,h2,e=>by
  rw[Qi,Q6] at ha hb
  have out:∀{l:List Pr} {x:Int},(∀y∈l.map (·.1),x<y)->lk x l=0:=fun {l x} h=>by
   induction l with
   | nil=>rfl
   | cons r l ih=>rw[lk,if_neg fun z=>by have:=h r.1 (by simp);omega];exact ih fun y hy=>h y (by rw[Qi];exact Qh _ hy)
  have hp:=h1 p Qg
  have hq:=h2 q Qg
  have ek:p.1=q.1:=by
   rcases Int.lt_trichotomy p.1 q.1 with z|z|z
   ·have:=e p.1;rw[lk,if_pos rfl,lk,if_neg (by omega),out fun y hy=>by have:=hb.1 y hy;omega] at this;omega
   ·exact z
   ·have:=e q.1;rw[lk,if_neg (by omega),lk,if_pos rfl,out fun y hy=>by have:=ha.1 y hy;omega] at this;omega
  have ev:p.2=q.2:=by have:=e p.1;rw[lk,if_pos rfl,lk,if_pos ek.symm] at this;exact this
  have:p=q:=Lh ek ev;subst this;rw[JkP ha.2 hb.2 (fun r hr=>h1 r (Qh _ hr)) (fun r hr=>h2 r (Qh _ hr)) fun x=>?_]
  have:=e x;rw[lk,lk] at this
  by_cases c:p.1=x
  ·subst c;rw[out ha.1,out hb.1]
  ·rwa [if_neg c,if_neg c] at this
theorem Jia:∀{a:List Pr} {x:Int},x∉a.map (·.1)->lk x a=0
 | [],_,_=>rfl
 | p::r,x,h=>by rw[lk,if_neg fun z=>h (by rw[<- z];simp)];exact Jia fun m=>h (by rw[Qi];exact Qh _ m)
theorem Jm7{a:List Pr}(hn:(a.map (·.1)).Nodup)(h:∀p∈a,1<=p.2)(x:Int):lk x a=((Uk a).count x:Int):=by
 rw[JbI,Jif (fun p=>((p.2.toNat:Nat):Int)) hn];split
 ·next m=>obtain⟨p,hp,e⟩:=QT.mp m;subst e;rw[JgI hn hp];have:=h p hp;dsimp only;omega
 ·next m=>exact Jia m
theorem Jee(l:List Tr):(UM l).map (·.1)=l.map (·.2.1):=by unfold UM;rw[QA];rfl
theorem JkQ{q:List Pr}(g:Good q)(k x:Int):lk x (UM (Yv k q))+((Jz (thF q)).count x:Int)=((spF q).count x:Int):=by
 have pw:=Ja7 g k;rw[Jm7 (by rw[Jee];exact pw.imp fun {a b} h=>by omega) fun p hp=>by obtain⟨u,hu,e⟩:=QT.mp hp;rw[<- e];exact ZH hu]
 have:=((UC (Jz (thF q)++Uk (UM (Yv k q)))).count_eq x)
 rw[Jc7 g k,Mz] at this;omega
theorem Jp3{s:Int}(hs:1<=s){ps:List Pr}(g:Good ps)(k:Int):Yv k (goS s 0 ps)=(Yv k ps).map fun t=>(t.1,t.2.1+1,t.2.2):=by
 have g1:=(VW (s:=s) ps 0 g (QK _) (by omega)).1
 have pr:UM (Yv k (goS s 0 ps))=(UM (Yv k ps)).map fun p=>(p.1+1,p.2):=by
  have pw:=Ja7 g k
  have pk:(((UM (Yv k ps)).map fun p=>(p.1+1,p.2)).map (·.1))=((Yv k ps).map (·.2.1)).map (·+1):=by rw[<- Jee,QA,QA];rfl
  refine JkP (by rw[Jee];exact Ja7 g1 k) (by
   rw[pk,My];exact pw.imp fun {a b} h=>by omega) (fun p hp=>by
   obtain⟨u,hu,e⟩:=QT.mp hp;rw[<- e];exact ZH hu) (fun p hp=>by
   obtain⟨q,hq,e⟩:=QT.mp hp;obtain⟨u,hu,e'⟩:=QT.mp hq;rw[<- e,<- e'];exact ZH hu) fun x=>?_
  have sh:∀a:List Pr,lk x (a.map fun p=>(p.1+1,p.2))=lk (x-1) a:=fun a=>by
   induction a with
   | nil=>rfl
   | cons p r ih =>
    rw[Qi,lk,lk,ih];dsimp only
    by_cases c:p.1+1=x
    ·rw[if_pos c,if_pos (by omega)]
    ·rw[if_neg c,if_neg (by omega)]
  rw[sh];have e1:=JkQ g1 k x;have e2:=JkQ g k (x-1);have e3:=JsO hs g (x-1);rw[show x-1+1=x by omega] at e3;omega
 have back:∀l:List Tr,(∀t∈l,t.1=k)->l=(UM l).map fun p=>(k,p.1,p.2):=fun l h=>by
  unfold UM;rw[QA];refine(Le l).symm.trans (QL fun t ht=>?_);show t=(k,t.2.1,t.2.2)
  rw[<- h t ht]
 rw[back (Yv k (goS s 0 ps)) fun t ht=>Vc ht,pr,QA]
 conv=>rhs;rw[back (Yv k ps) fun t ht=>Vc ht]
 rw[QA];rfl
theorem Jf3:∀(n:Nat) (k s:Int) {ps:List Pr},Good ps->0<=s->tbN n k (goS s 0 ps)=(tbN n k ps).map fun t=>(t.1,t.2.1+min (t.1-k) s,t.2.2)
 | 0,_,_,_,_,_=>rfl
 | n+1,k,s,ps,g,hs=>by
  by_cases h0:s=0
  ·subst h0;rw[Ja3 ps ((Y3 g).mono (by omega))];refine(Le _).symm.trans (QL fun t ht=>?_);have:=Jbc _ _ _ t ht;show t=(t.1,t.2.1+min (t.1-k) 0,t.2.2)
   rw[show min (t.1-k) 0=0 by omega,LA]
  ·have h1:1<=s:=by omega
   rw[tbN,tbN,Q2,Jp3 h1 g,Jl8 h1 g,JoN,Jf3 n (k+1) (s-1) (Yy g) (by omega),QA];congr 1
   ·refine QL fun t ht=>?_
    rw[Vc ht,show min (k+1-k) s=1 by omega]
   ·refine QL fun t ht=>?_
    have:=Jbc _ _ _ t ht
    show(t.1,t.2.1+min (t.1-(k+1)) (s-1) - -1,t.2.2)=(t.1,t.2.1+min (t.1-k) s,t.2.2)
    rw[show t.2.1+min (t.1-(k+1)) (s-1) - -1=t.2.1+min (t.1-k) s by omega]
noncomputable def tkF(seats:Option Int)(l ins:Int):Int:=match seats with
 | none=>l
 | some s=>min l (s-ins)
noncomputable def goF(seats:Option Int):Int->List Pr->List Pr
 | _,[]=>[]
 | ins,[p]=>[(p.1+tkF seats p.2 ins,p.2-tkF seats p.2 ins+(ins+tkF seats p.2 ins))]
 | ins,p::q::r=>(p.1+tkF seats p.2 ins,p.2-tkF seats p.2 ins+min (ins+tkF seats p.2 ins) (q.1-p.1-p.2))::goF seats (ins+tkF seats p.2 ins-min (ins+tkF seats p.2 ins) (q.1-p.1-p.2)) (q::r)
noncomputable def Ye:Option Int->D
 | none=>.non
 | some s=>.int s
noncomputable def OkS(seats:Option Int):Prop:=∀s,seats=some s->1<=s
noncomputable def Sts(seats:Option Int)(s m:Int):Prop:=seats=some s\/(seats=none/\m<=s)
theorem Jiy(a g:Int):a-min a g=max 0 (a-g):=by
 rcases KQ a g with h|h
 ·rw[GN h,Ln (by omega),Int.sub_self]
 ·rw[Gn h,G2 (by omega)]
theorem JdI{seats:Option Int}{s:Int}:∀(ps:List Pr) (ins:Int),Good ps->0<=ins->ins<=s->Sts seats s (ins+(ps.map (·.2)).sum)->goF seats ins ps=goS s ins ps
 | [],_,_,_,_,_=>rfl
 | [p],ins,g,h0,h1,hs=>by
  have e:tkF seats p.2 ins=min p.2 (s-ins):=by
   rcases hs with z|⟨z,y⟩
   ·rw[z];rfl
   ·rw[z];simp at y;show p.2=_;omega
  show [(p.1+tkF seats p.2 ins,p.2-tkF seats p.2 ins+(ins+tkF seats p.2 ins))]=_;rw[e];rfl
 | p::q::r,ins,g,h0,h1,hs=>by
  have hp:=g.one 0 p rfl
  have hg:=g.gap 0 p q rfl rfl
  have al:0<=((q::r).map (·.2)).sum:=by have:=Jew (Good.all (Good.cons' g));omega
  have e:tkF seats p.2 ins=min p.2 (s-ins):=by
   rcases hs with z|⟨z,y⟩
   ·rw[z];rfl
   ·rw[z];rw[Qi,QF] at y;show p.2=_;omega
  have t1:=LY p.2 (s-ins)
  have t2:=Ki p.2 (s-ins)
  have ih:=JdI (seats:=seats) (s:=s) (q::r) (max 0 (ins+min p.2 (s-ins)-(q.1-p.1-p.2))) (Good.cons' g) (Lo _ _) (Mj.mpr ⟨by omega,by omega⟩) (by
   rcases hs with z|⟨z,y⟩
   ·exact .inl z
   ·refine .inr ⟨z,?_⟩;rw[Qi,QF] at y;have:=Mj (a:=0) (b:=ins+min p.2 (s-ins)-(q.1-p.1-p.2)) (c:=s-((q::r).map (·.2)).sum) |>.mpr ⟨by omega,by omega⟩;omega)
  show(p.1+tkF seats p.2 ins,p.2-tkF seats p.2 ins+min (ins+tkF seats p.2 ins) (q.1-p.1-p.2))::goF seats (ins+tkF seats p.2 ins-min (ins+tkF seats p.2 ins) (q.1-p.1-p.2)) (q::r)=_;rw[e,Ya,<- ih,Jiy (ins+min p.2 (s-ins))]
theorem JkE(s:Int):∀(ps:List Pr) (ins:Int),Good ps->0<=ins->ins<=s->((goS s ins ps).map (·.2)).sum=(if ps=[] then 0 else ins)+(ps.map (·.2)).sum
 | [],_,_,_,_=>rfl
 | [p],ins,g,h0,h1=>by simp[goS];omega (config:={})
 | p::q::r,ins,g,h0,h1=>by
  have hp:=g.one 0 p rfl
  have hg:=g.gap 0 p q rfl rfl
  have t2:=Ki p.2 (s-ins)
  have ih:=JkE s (q::r) (max 0 (ins+min p.2 (s-ins)-(q.1-p.1-p.2))) (Good.cons' g) (Lo _ _) (Mj.mpr ⟨by omega (config:={}),by omega (config:={})⟩);rw[if_neg (by simp)] at ih
  have e0:((p::q::r).map (·.2)).sum=p.2+((q::r).map (·.2)).sum:=by rw[Qi,QF]
  have sm:=Jiy (ins+min p.2 (s-ins)) (q.1-p.1-p.2);rw[Ya,Qi,QF,ih,e0,if_neg (by simp),<- sm];dsimp only
  generalize min (ins+min p.2 (s-ins)) (q.1-p.1-p.2)=w
  generalize min p.2 (s-ins)=t
  omega (config:={})
theorem Ja4{s:Int}{ps:List Pr}(g:Good ps)(hs:0<=s):((goS s 0 ps).map (·.2)).sum=(ps.map (·.2)).sum:=by rw[JkE s ps 0 g (QK _) hs];split <;> omega
theorem JeA:∀(n:Nat) (s:Int) {ps:List Pr},Good ps->0<=s->thN n ps=[]->thN n (goS s 0 ps)=[]
 | 0,s,ps,g,hs,h=>by have:ps=[]:=h;subst this;rfl
 | n+1,s,ps,g,hs,h=>by
  by_cases h0:s=0
  ·subst h0;rw[Ja3 ps ((Y3 g).mono (by omega))];exact h
  ·show thN n (thF (goS s 0 ps))=[]
   rw[Jl8 (by omega) g,Jk6,JeA n (s-1) (Yy g) (by omega) h];rfl
noncomputable def goI(s:Int):Nat->List Pr->List Pr
 | 0,ps=>ps
 | n+1,ps=>goI s n (goS s 0 ps)
theorem JdJ(s:Int)(hs:1<=s)(N:Nat):∀(n:Nat) {ps:List Pr},Good ps->thN N ps=[]->Good (goI s n ps)/\(goI s n ps).length=ps.length/\((goI s n ps).map (·.2)).sum=(ps.map (·.2)).sum/\thN N (goI s n ps)=[] ∧
 tbN N 0 (goI s n ps)=(tbN N 0 ps).map fun t=>(t.1,t.2.1+(n:Int)*min t.1 s,t.2.2)
 | 0,ps,g,h=>⟨g,rfl,rfl,h,by
  refine(Le _).symm.trans (QL fun t _=>?_);show t=(t.1,t.2.1+((0:Nat):Int)*min t.1 s,t.2.2)
  simp⟩
 | n+1,ps,g,h=>by
  have g1:=(VW (s:=s) ps 0 g (QK _) (by omega)).1;obtain⟨a,b,c,d,e⟩:=JdJ s hs N n g1 (JeA N s g (by omega) h);refine⟨a,by show(goI s n (goS s 0 ps)).length=_;rw[b,JdL],by show((goI s n (goS s 0 ps)).map (·.2)).sum=_;rw[c,Ja4 g (by omega)],d,?_⟩
  show tbN N 0 (goI s n (goS s 0 ps))=_;rw[e,Jf3 N 0 s g (by omega),QA];refine QL fun t _=>?_
  show(t.1,t.2.1+min (t.1-0) s+(n:Int)*min t.1 s,t.2.2)=(t.1,t.2.1+((n+1:Nat):Int)*min t.1 s,t.2.2)
  rw[L5,GM,Kw];congr 2;simp;omega
theorem Je3(s:Int):∀(n:Nat) (ps:List Pr),goI s (n+1) ps=goS s 0 (goI s n ps)
 | 0,_=>rfl
 | n+1,ps=>Je3 s n (goS s 0 ps)
theorem JsR{N:Nat}{ps:List Pr}(g:Good ps)(hN:thN N ps=[]):∀t∈tbN N 0 ps,t.1<=(ps.map (·.2)).sum:=by
 have bl:=Jf2 N 0 g hN
 have asc:=Jdh N 0 ps none g (QK _) (fun b e=>by cases e)
 have an:=Zn asc;rw[<- bl]
 clear bl
 revert an
 generalize tbN N 0 ps=l
 intro an
 have key:∀l:List Tr,(∀t∈l,1<=t.1/\1<=t.2.2)->0<=(l.map fun t=>(t.1-0)*t.2.2).sum/\∀t∈l,t.1<=(l.map fun t=>(t.1-0)*t.2.2).sum:=by
  intro l
  induction l with
  | nil=>exact fun _=>⟨QK _,fun _ h=>by cases h⟩
  | cons u l ih =>
   intro h;obtain⟨i1,i2⟩:=ih fun t ht=>h t (Qh _ ht)
   obtain⟨h1,h2⟩:=h u Qg
   have hm:u.1<=(u.1-0)*u.2.2:=by
    rw[L5];have:=Int.mul_le_mul_of_nonneg_left h2 (show 0<=u.1 by omega)
    rwa [Int.mul_one] at this
   rw[Qi,QF];refine⟨by omega,fun t ht=>?_⟩;rcases Qp.mp ht with z|z
   ·rw[z];omega
   ·have:=i2 t z;omega
 exact(key l an).2
noncomputable def Joe(seats:Option Int)(x:Int):Int:=match seats with
 | none=>x
 | some s=>min x s
theorem Jof{seats:Option Int}{s x:Int}(h:Sts seats s x):Joe seats x=min x s:=by
 rcases h with z|⟨z,y⟩
 ·rw[z];rfl
 ·rw[z];show x=_;omega
theorem Jsb(seats:Option Int)(x:Int):UI [.sh (.int x),.sh (Ye seats)]=some (.sh (.int (Joe seats x))):=by
 unfold UI
 cases seats with
 | none=>simp only[Ye,Joe];walk_at "ev"
 | some s=>simp only[Ye,Joe];walk_at "ev"
theorem Js6(seats:Option Int)(h:OkS seats):∃r,YR [.sh (Ye seats)]=some r:=by
 unfold YR
 cases seats with
 | none=>simp only[Ye];walk_at "ev";exact⟨_,rfl⟩
 | some s=>have:=h s rfl;simp only[Ye];walk_at "ev";rw[decide_eq_false (show ¬s<1 by omega)];walk_at "ev";exact⟨_,rfl⟩
noncomputable def Jp4(t:Int):List Pr->List Pr
 | []=>[]
 | h::l=>(h.1-t,h.2+t)::l
noncomputable def bkL(s:Int):List Pr->Int×List Pr
 | []=>(0,[])
 | [q]=>(min q.2 s,[(q.1,q.2-min q.2 s)])
 | q::q2::r =>
  ((bkL s (q2::r)).1-min (bkL s (q2::r)).1 (q2.1-q.1-q.2)+min q.2 (s-((bkL s (q2::r)).1-min (bkL s (q2::r)).1 (q2.1-q.1-q.2))),
    (q.1,q.2-min q.2 (s-((bkL s (q2::r)).1-min (bkL s (q2::r)).1 (q2.1-q.1-q.2))))::Jp4 (min (bkL s (q2::r)).1 (q2.1-q.1-q.2)) (bkL s (q2::r)).2)
noncomputable def bkS(s:Int)(ps:List Pr):List Pr:=Jp4 (bkL s ps).1 (bkL s ps).2
theorem Jhy{s:Int}(hs:1<=s):∀(r:List Pr) (q:Pr),Good (q::r)->∃(b x:Int) (tl:List Pr),bkL s (q::r)=(b,(q.1,q.2-x)::tl)/\1<=x/\x<=b/\b<=s/\x<=q.2/\(q.2=x\/b=s) ∧
 tl.length=r.length/\(∀t,1<=t->t<=b->Good ((q.1-t,q.2-x+t)::tl))/\∀t,0<=t->t<=b->goS s (b-t) ((q.1-t,q.2-x+t)::tl)=q::r
 | [],q,g=>by
  have hp:=g.one 0 q rfl;refine⟨min q.2 s,min q.2 s,[],rfl,by omega,by omega,by omega,by omega,by omega,rfl,fun t h1 h2=>Good.mk' (by dsimp only;omega) (fun q e=>by simp at e) Good.nil,fun t h0 h1=>?_⟩
  have e:min (q.2-min q.2 s+t) (s-(min q.2 s-t))=t:=by omega
  simp only[goS];rw[e,show q.1-t+t=q.1 by omega,show q.2-min q.2 s+t-t+(min q.2 s-t+t)=q.2 by omega]
 | q2::r,q,g=>by
  have hp:=g.one 0 q rfl
  have hg:=g.gap 0 q q2 rfl rfl;obtain⟨b2,x2,tl2,e,h1,h2,h3,h4,h5,h6,h7,h8⟩:=Jhy hs r q2 (Good.cons' g)
  obtain⟨d,hd,d1,d2,d3⟩:∃d,min b2 (q2.1-q.1-q.2)=d/\d<=b2/\1<=d/\((d=b2/\b2<=q2.1-q.1-q.2)\/(d=q2.1-q.1-q.2/\q2.1-q.1-q.2<=b2)):=by
   rcases KQ b2 (q2.1-q.1-q.2) with h|h
   ·exact⟨b2,GN h,QK _,by omega,.inl ⟨rfl,h⟩⟩
   ·exact⟨_,Gn h,h,by omega,.inr ⟨rfl,h⟩⟩
  obtain⟨x,hx,x1,x3,x4⟩:∃x,min q.2 (s-(b2-d))=x/\1<=x/\x<=q.2/\b2-d+x<=s/\(q.2=x\/b2-d+x=s):=by
   rcases KQ q.2 (s-(b2-d)) with h|h
   ·exact⟨_,GN h,hp,QK _,by omega,.inl rfl⟩
   ·exact⟨_,Gn h,by omega,h,by omega,.inr (by omega)⟩
  have x5:=x4.2;refine⟨b2-d+x,x,(q2.1-d,q2.2-x2+d)::tl2,?_,by omega,by omega,by omega,by omega,by omega,by simp[h6],fun t t1 t2=>Good.mk' (by dsimp only;omega) (fun q' e'=>?_) (h7 d (by omega) (by omega)),fun t t0 t1=>?_⟩
  ·rw[bkL,e];dsimp only;rw[hd,hx];rfl
  ·simp at e';rw[<- e'];dsimp only;omega
  ·rw[Ya];dsimp only;have e1:min (q.2-x+t) (s-(b2-d+x-t))=t:=by omega
   rw[e1,show q.1-t+t=q.1 by omega,show b2-d+x-t+t-(q2.1-d-(q.1-t)-(q.2-x+t))=b2-(q2.1-q.1-q.2) by omega,show max 0 (b2-(q2.1-q.1-q.2))=b2-d by omega,h8 d (by omega) (by omega),
    show q.2-x+t-t+min (b2-d+x-t+t) (q2.1-d-(q.1-t)-(q.2-x+t))=q.2 by omega]
theorem Jph{s:Int}(hs:1<=s){ps:List Pr}(g:Good ps):Good (bkS s ps)/\(bkS s ps).length=ps.length/\goS s 0 (bkS s ps)=ps:=by
 cases ps with
 | nil=>exact⟨Good.nil,rfl,rfl⟩
 | cons q r=>obtain⟨b,x,tl,e,h1,h2,h3,h4,h5,h6,h7,h8⟩:=Jhy hs r q g;have:=h8 b (by omega) (QK _);rw[Int.sub_self] at this;unfold bkS;rw[e];exact⟨h7 b (by omega) (QK _),by simp[Jp4,h6],this⟩
theorem JkZ(tb:List Tr)(seats:Option Int)(s times:Int)(h:Jdg none tb)(hs:WR tb<=30)(hl:tb.length<=30)(ok:OkS seats)(hm:∀t∈tb,Sts seats s t.1)(hs1:1<=s)(ht:-10 ^ 100<=times/\times<=10 ^ 100)(hb:∀t∈tb,1<=t.1/\t.1<=10 ^ 100) :
 U8 [.sh (.lst (tb.map trE)),.sh (Ye seats),.sh (.int times)]=some (.own ((tb.map fun t=>((t.1,t.2.1+times*min t.1 s,t.2.2):Tr)).map trE)):=by
 obtain⟨r1,e1⟩:=Js6 seats ok;obtain⟨r2,e2⟩:=Jr7 tb h hs hl;unfold U8;walk_at "ev";rw[e1];walk_at "ev";rw[e2];walk_at "ev";rw[Yc (g:=fun t:Tr=>trE (t.1,t.2.1+times*min t.1 s,t.2.2))]
 ·walk_at "ev";rw[QA];rfl
 ·intro t mt;have hst:=hm t mt;have hbt:=hb t mt;have hww:times.natAbs<=10 ^ 200/\(min t.1 s).natAbs<=10 ^ 200:=by omega (config:={})
  simp only[trE];walk_at "ev";rw[Jsb];rw[Jof hst];walk_at "ev"
theorem Wr(ps qs:List Pr)(N:Nat)(seats:Option Int)(s times:Int)(g:Good ps)(h30:ps.length<=30)(hN:thN N ps=[])(g':Good qs)(h30':qs.length<=30)(hN':thN N qs=[])(ok:OkS seats)(hs:Sts seats s (ps.map (·.2)).sum)(hs1:1<=s)(hb:(ps.map (·.2)).sum<=10 ^ 100)(ht:-10 ^ 100<=times/\times<=10 ^ 100)
 (e:tbN N 0 qs=(tbN N 0 ps).map fun t=>(t.1,t.2.1+times*min t.1 s,t.2.2)):Yp [.sh (.row (ps.map prE)),.sh (Ye seats),.sh (.int times)]=some (.sh (.row (qs.map prE))):=by
 have asc:=Jdh N 0 ps none g (QK _) (fun b e=>by cases e)
 have asc':=Jdh N 0 qs none g' (QK _) (fun b e=>by cases e)
 have ns:=Jey N 0 g hN
 have ns':=Jey N 0 g' hN';obtain⟨gl,_⟩:=JgQ fun t ht=>(Zn asc t ht).2
 obtain⟨gl',_⟩:=JgQ fun t ht=>(Zn asc' t ht).2
 obtain⟨rt,rk⟩:=Jq9 qs.length N 0 (Qo _) g' h30' hN';have tl:=JsR g hN;unfold Yp;walk_at "ev";rw[Jno ps N g h30 hN];walk_at "ev";rw[JkZ (tbN N 0 ps) seats s times asc (by omega) (by omega) ok (fun t ht=>by
  rcases hs with z|⟨z,y⟩
  ·exact .inl z
  ·exact .inr ⟨z,by have:=tl t ht;omega⟩) hs1 ht (fun t ht=>⟨(Zn asc t ht).1,by have:=tl t ht;omega⟩),<- e]
 walk_at "ev";rw[Jnm (tbN N 0 qs) asc' (by omega) (by omega) rk,rt];walk_at "ev"
theorem Jix(ns:List Int)(at' span p0:Int)(h0:0<span):∀i:Nat,p0<=(spr ns at' span p0 i).1/\(spr ns at' span p0 i).1<=p0+i*(2*span+1)/\(∀p∈(spr ns at' span p0 i).2,p0<=p.1/\p.1+p.2<=p0+i*(2*span+1)/\p.2<=span)/\((spr ns at' span p0 i).2.map (·.2)).sum<=i*span
 | 0=>⟨QK _,by simp[spr],fun p hp=>(by cases hp),by simp[spr]⟩
 | i+1=>by
  obtain⟨a0,a1,a2,a3⟩:=Jix ns at' span p0 h0 i;have m1:=Lj (cell ns (at'+1+2*i)) (b:=span) (by omega);have m2:=Lj (cell ns (at'+2+2*i)) (b:=span) (by omega);have m3:=Mn (cell ns (at'+1+2*i)) (b:=span) (by omega);have m4:=Mn (cell ns (at'+2+2*i)) (b:=span) (by omega);have e1:((i+1:Nat):Int)*(2*span+1)=i*(2*span+1)+(2*span+1):=by rw[GM,Kw];simp
  have e2:((i+1:Nat):Int)*span=i*span+span:=by rw[GM,Kw];simp
  rw[e1,e2];refine⟨?_,?_,fun p hp=>?_,?_⟩
  ·show p0<=_+(1+_)+1+_;omega
  ·show _+(1+_)+1+_<=_;omega
  ·rcases Go.mp hp with z|z
   ·have:=a2 p z;omega
   ·have e:p=((spr ns at' span p0 i).1,1+cell ns (at'+1+2*i) % span):=by simpa using z
    subst e;refine⟨a0,?_,?_⟩
    ·show _+(1+_)<=_;omega
    ·show 1+_<=_;omega
  ·simp only[spr,Q2,Qi,G4,LV,QF,List.sum_nil];omega
theorem Jk0(ns:List Int)(at' many span side:Int)(h1:0<=at')(h2:0<=many)(h3:many<=1000)(h4:0<span)(h5:0<=side) :
 Y6 [.sh (.fz (ns.map .int)),.sh (.int at'),.sh (.int many),.sh (.int span),.sh (.int side)]=some (.own ((spr ns at' span (cell ns at' % (2*side+1)-side) many.toNat).2.map prE)):=by
 unfold Y6;walk_at "ev";rw[JdW _ _ h1];walk_at "ev";rw[JsL,GX];refine ZI (fun i E=>∃j7 j8,E=[Sl.sh (D.fz (ns.map .int)),Sl.sh (D.int at'),Sl.sh (D.int many),Sl.sh (D.int span),Sl.sh (D.int side),Sl.sh (D.int (spr ns at' span (cell ns at' % (2*side+1)-side) i).1),Sl.own ((spr ns at' span (cell ns at' % (2*side+1)-side) i).2.map prE),j7,j8]) ⟨.no,.no,rfl⟩ ?_ ?_
 ·rintro i E hi ⟨j7,j8,rfl⟩;have hl:=WO ns at' span (cell ns at' % (2*side+1)-side) i;walk_at "ev";rw[JdW _ _ (by omega)];walk_at "ev";rw[JdW _ _ (by omega)];walk_at "ev";simp only[spr,Q2,Qi,G4];exact⟨_,_,rfl⟩
 ·rintro E' ⟨j7,j8,rfl⟩;walk_at "ev"
noncomputable def tx(l:List Nat):Str:=⟨l.toArray⟩
theorem Jmb{a b:List Nat}:tx a=tx b↔a=b:=by
 constructor
 ·intro h;have:=congrArg (fun z:Str=>z.cps.toList) h
  simpa [tx] using this
 ·rintro rfl;rfl
theorem Jo1(z:Str):z=tx z.cps.toList:=rfl
theorem YY(l:List Nat):(tx l).length=l.length:=by simp[tx,RG]
theorem UZ(l:List Nat):(tx l).cps.toList=l:=rfl
theorem Zl(a b:List Nat):tx a++tx b=tx (a++b):=by
 apply Str.mk.injEq _ _ |>.mpr
 apply Array.toList_inj.mp
 simp[tx]
noncomputable def dig(c:Nat):Bool:=decide (48<=c) && decide (c<=57)
theorem Jiz(s:Str)(c i:Nat):LB s ⟨#[c]⟩ i=(((s.cps.toList.drop i).take 1) == [c]):=by rw[StrLaws.subAt_eq];rfl
theorem Jb9(l:List Nat)(c:Nat):K8 (tx l) ⟨#[c]⟩=(l.take 1 == [c]):=by
 unfold K8;rw[Jiz,UZ,List.drop_zero]
 cases l with
 | nil=>rfl
 | cons a r =>
  have:(0+RG ⟨#[c]⟩<=(tx (a::r)).length):=by rw[YY];show 0+1<=r.length+1;omega
  rw[decide_eq_true this,Bool.true_and]
theorem JlT:∀c:Nat,c<128->inS ⟨#[c]⟩ (Qx "0123456789")=dig c:=by decide +kernel
theorem JpL(c:Nat):inS ⟨#[c]⟩ (Qx "0123456789")=dig c:=by
 by_cases h:c<128
 ·exact JlT c h
 ·have e:(Qx "0123456789").cps.toList=[48,49,50,51,52,53,54,55,56,57]:=by decide +kernel
  have no:∀i,LB (Qx "0123456789") ⟨#[c]⟩ i=false:=fun i=>by
   rw[Jiz,e]
   cases hb:((([48,49,50,51,52,53,54,55,56,57]:List Nat).drop i).take 1 == [c]) with
   | false=>rfl
   | true =>
    have e1:(([48,49,50,51,52,53,54,55,56,57]:List Nat).drop i).take 1=[c]:=by simpa using hb
    have m:c∈([48,49,50,51,52,53,54,55,56,57]:List Nat):=List.mem_of_mem_drop (List.mem_of_mem_take (show c∈(([48,49,50,51,52,53,54,55,56,57]:List Nat).drop i).take 1 by rw[e1];exact Qg));simp at m;omega
  unfold inS;rw[StrLaws.occ_eq,(StrLaws.occ_none _ _ _ _ 0 (fun i _=>GS _)).mpr (fun i _ z=>by rw[no i] at z;cases z.2)];unfold dig;rw[decide_eq_false (show ¬c<=57 by omega),Lv];rfl
theorem Jiu(l:List Nat)(k:Nat)(h:k<=l.length):KY (tx l) (some (k:Int)) none=tx (l.drop k):=by
 have e:=StrLaws.sliceText_from (x:=tx l) (i:=(k:Int)) ⟨by omega,by rw[UZ];omega⟩;rw[UZ] at e
 show RU _ _ _=_;rw[e];unfold tx;congr 2;rw[K1,LC (by rw[LI];omega)]
theorem JlQ(l:List Nat)(k:Nat)(h:k<=l.length):KY (tx l) none (some (k:Int))=tx (l.take k):=by
 have e:=StrLaws.sliceText_to (x:=tx l) (j:=(k:Int)) ⟨by omega,by rw[UZ];omega⟩;rw[UZ] at e
 show RU _ _ _=_;rw[e];unfold tx;rw[List.drop_zero,show((k:Int)-0).toNat=k by omega]
theorem JlP(l:List Nat):KY (tx l) (some 1) none=tx (l.drop 1):=by
 cases l with
 | nil=>rfl
 | cons a r=>exact Jiu (a::r) 1 (by simp)
noncomputable def Yl:List Nat->List Nat
 | []=>[]
 | c::r=>if c=45 then r else c::r
theorem Uv(c:Nat)(r:List Nat):Yl (c::r)=if c=45 then r else c::r:=rfl
noncomputable def okL(l:List Nat):Bool:=!(Yl l).isEmpty && decide ((Yl l).length<=200) && (Yl l).all dig && !((Yl l).take 1 == [48] && !(l == [48]))
noncomputable def Jga(l:List Nat):Int:=(intText? (tx l)).getD 0
noncomputable def Jld(l:List Nat):D:=if okL l=true then .int (Jga l) else .non
theorem Jhz(l:List Nat):(Yl l).length<=l.length/\l.length<=(Yl l).length+1:=by
 cases l with
 | nil=>exact⟨Qo _,Rn _⟩
 | cons c r=>rw[Uv];split <;> simp
theorem JaX{l:List Nat}(h:l.all dig=true):NumText.AllDigits l:=fun c hc=>by have:=GH.mp h c hc;unfold dig at this;simp at this;exact this
theorem JkK(l:List Nat)(h:okL l=true):intText? (tx l)=some (Jga l):=by
 unfold okL at h;simp only[Q9,Bool.not_eq_true',decide_eq_true_eq] at h;obtain⟨⟨⟨h1,h2⟩,h3⟩,_⟩:=h;have hb:=Jhz l;have hne:Yl l≠[]:=fun e=>by rw[e] at h1;cases h1
 have some_:∀{n:Int},intText? (tx l)=some n->intText? (tx l)=some (Jga l):=fun {n} e=>by unfold Jga;rw[e];rfl
 cases l with
 | nil=>exact absurd rfl hne
 | cons c r =>
  by_cases hc:c=45
  ·subst hc;have e:Yl (45::r)=r:=by rw[Uv,if_pos rfl]
   rw[e] at h3 hne h2;exact some_ (intText_neg (x:=tx (45::r)) (cs:=r) rfl (JaX h3) hne (by rw[YY];simp;omega))
  ·have e:Yl (c::r)=c::r:=by rw[Uv,if_neg hc]
   rw[e] at h3 h2;exact some_ (intText_digits (x:=tx (c::r)) (JaX h3) (by rw[UZ];simp) (by rw[YY];omega))
theorem Jn9:Qx "-"=tx [45]:=by decide +kernel
theorem Jre:Qx ""=tx []:=by decide +kernel
theorem JlM:Qx "0"=tx [48]:=by decide +kernel
theorem Jdz(a b:List Nat):decide (tx a=tx b)=decide (a=b):=by simp only[Jmb]
theorem JiS(l:List Nat):Yl l=if l.take 1=[45] then l.drop 1 else l:=by
 cases l with
 | nil=>rfl
 | cons c r =>
  rw[Uv]
  by_cases h:c=45
  ·rw[if_pos h,if_pos (by simp[h])];rfl
  ·rw[if_neg h,if_neg (by simp[h])]
theorem Jmw(b:List Nat):VE (.nm 0) yes? (e2 Jkp (Jd 0) (eC (.str (Qx "0123456789")))) [.no] (b.map sgE)=some (b.map fun c=>D.bl (dig c)):=Yc fun c _=>by simp only[sgE];walk_at "ev";rw[JpL]
theorem JdC(l:List Nat){n:Int}(hl:l.length<=640)(h:intText? (tx l)=some n):Zx [.sh (.str (tx l))]=some (.sh (.int n)):=by show(if _ then _ else _)=_;rw[if_pos (by rw[YY];exact hl),h];rfl
theorem JgJ(l:List Nat)(hl:l.length<=640):J4 [.sh (.str (tx l))]=some (.sh (Jld l)):=by
 have hb:=Jhz l
 have ll:=YY l
 have lb:=YY (Yl l)
 have st:K8 (tx l) (Qx "-")=decide (l.take 1=[45]):=by rw[Jn9];exact(Jb9 l 45).trans (by rw[GC];simp)
 have sz:K8 (tx (Yl l)) (Qx "0")=decide ((Yl l).take 1=[48]):=by rw[JlM];exact(Jb9 _ 48).trans (by rw[GC];simp)
 have fal:Jko [.own ((Yl l).map fun c=>D.bl (dig c))]=some (.sh (.bl ((Yl l).all dig))):=by
  rw[JmH (ns:=(Yl l).map dig) (by simp[Sl.q]),List.all_map]
  all_goals rfl
 have fig:∀T:Es,(Ju (Jx 1 (eIf (tTru? (eM Y2 (Jd 0) (aC (eC (.str "-")) a0))) (JeX (Jd 0) (some (eC (.int 1))) none) (Jd 0))) T) [.sh (.str (tx l)),.no]=T [.sh (.str (tx l)),.sh (.str (tx (Yl l)))]:=fun T=>by
  rw[JiS];walk_at "ev";rw[st]
  by_cases h:l.take 1=[45]
  ·rw[decide_eq_true h,if_pos h];walk_at "ev";rw[JlP]
  ·rw[decide_eq_false h,if_neg h];walk_at "ev"
 unfold J4 Yi;simp only[Qr,GL,Nat.reduceAdd,Nat.reduceSub,Rq,KI,KU];rw[fig];walk_at "ev";rw[Jre,Jdz];unfold Jld okL
 by_cases h1:Yl l=[]
 ·rw[decide_eq_true h1,h1];walk_at "ev"
  all_goals rfl
 ·have h1':(Yl l).isEmpty=false:=by cases e:Yl l with|nil=>exact absurd e h1|cons _ _=>rfl
  rw[decide_eq_false h1,h1'];walk_at "ev"
  by_cases h2:(Yl l).length<=200
  ·rw[decide_eq_false (show ¬(((tx (Yl l)).length:Int)>200) by omega),decide_eq_true h2];walk_at "ev";rw[UZ,Jmw];walk_at "ev";rw[fal];walk_at "ev"
   cases h3:(Yl l).all dig with
   | false =>
    walk_at "ev"
    all_goals rfl
   | true =>
    walk_at "ev";rw[sz];rw[JlM,Jdz];have io:=JkK l;unfold okL at io;rw[h1',decide_eq_true h2,h3] at io
    by_cases h4:(Yl l).take 1=[48]
    ·by_cases h5:l=[48]
     ·rw[decide_eq_true h4,decide_eq_true h5];have e5:(l == [48])=true:=by simp[h5]
      rw[e5,Bool.not_true,Lv] at io ⊢;walk_at "ev";rw[JdC l hl (io rfl)]
      all_goals rfl
     ·rw[decide_eq_true h4,decide_eq_false h5];have e4:((Yl l).take 1 == [48])=true:=by simp[h4]
      have e5:(l == [48])=false:=by simp[h5]
      rw[e4,e5];walk_at "ev"
      all_goals rfl
    ·rw[decide_eq_false h4];have e4:((Yl l).take 1 == [48])=false:=by simp[h4]
     rw[e4] at io ⊢;walk_at "ev";rw[JdC l hl (io rfl)]
     all_goals rfl
  ·rw[decide_eq_true (show(((tx (Yl l)).length:Int)>200) by omega),decide_eq_false h2];walk_at "ev"
   all_goals rfl
noncomputable def Uq(m:Nat):List Nat:=(M3 10 m).map Char.toNat
theorem JeT:∀d:Nat,d<10->(RB d).toNat=d+48:=by decide
theorem Zu{m:Nat}(h:m<10):Uq m=[m+48]:=by unfold Uq;rw[MR h];show [(RB m).toNat]=_;rw[JeT m h]
theorem Jdy{m:Nat}(h:¬m<10):Uq m=Uq (m / 10)++[m % 10+48]:=by
 have hm:m % 10<10:=Nat.mod_lt m (by decide)
 have t:M3 10 (m / 10)++M3 10 (m % 10)=M3 10 (10*(m / 10)+m % 10):=Nat.toDigits_append_toDigits (by decide) (by omega) hm;rw[Nat.div_add_mod] at t;unfold Uq;rw[<- t,Q2,MR hm]
 show _++[(RB _).toNat]=_;rw[JeT _ hm]
theorem Zt(m:Nat):(Uq m).all dig=true:=by
 induction m using Nat.strongRecOn with
 | _ m ih =>
  by_cases h:m<10
  ·rw[Zu h];simp[dig];omega
  ·rw[Jdy h,List.all_append,ih (m / 10) (by omega)];simp[dig];omega
theorem Wn:∀(k m:Nat),m<10 ^ (k+1)->(Uq m).length<=k+1
 | 0,m,h=>by rw[Zu (by simpa using h)];simp
 | k+1,m,h=>by
  by_cases z:m<10
  ·rw[Zu z];simp
  ·have:=Wn k (m / 10) (by rw[Nat.pow_succ] at h;omega);rw[Jdy z,QC,Gy];omega
theorem JeR(m:Nat):∃c r,Uq m=c::r/\(0<m->c≠48):=by
 induction m using Nat.strongRecOn with
 | _ m ih =>
  by_cases h:m<10
  ·exact⟨m+48,[],Zu h,fun _=>by omega⟩
  ·obtain⟨c,r,e,n⟩:=ih (m / 10) (by omega);exact⟨c,r++[m % 10+48],by rw[Jdy h,e];rfl,fun _=>n (by omega)⟩
theorem JfU(m:Nat):strI (m:Int)=tx (Uq m):=by have e:=PySem.W.KIN.signs_num m;rw[Jo1 (strI (m:Int))];exact congrArg tx e
theorem JfV(m:Nat):strI (Int.negSucc m)=tx (45::Uq (m+1)):=by rw[Jo1 (strI (Int.negSucc m))];refine congrArg tx ?_;show(Qx ("-"++Nat.repr (m+1))).cps.toList=_;rw[PyProof.Rows.signs_ofString,String.toList_append,Q2,Nat.toList_repr];rfl
theorem Jp7(n:Int)(h:n.natAbs<10 ^ 200):∃l,strI n=tx l/\l.length<=201/\okL l=true/\Jga l=n:=by
 cases n with
 | ofNat m =>
  have hl:=Wn 199 m h;obtain⟨c,r,e,z⟩:=JeR m
  have hd:=Zt m
  have hc:c≠45:=fun q=>by rw[e,q,RA] at hd;exact absurd hd (by simp[dig])
  have hb:Yl (Uq m)=Uq m:=by rw[e,Uv,if_neg hc]
  refine⟨Uq m,JfU m,by omega,?_,?_⟩
  ·unfold okL;rw[hb,hd,decide_eq_true hl,e]
   by_cases h0:m=0
   ·subst h0;rw[Zu (by decide)] at e
    injection e with e1 e2
    rw[<- e1,<- e2];rfl
   ·have:=z (by omega);simp[this]
  ·unfold Jga;rw[intText_digits (x:=tx (Uq m)) (JaX hd) (by rw[UZ,e];simp) (by rw[YY];omega),UZ];show((MS (Uq m):Nat):Int)=_;unfold Uq;rw[Rr];rfl
 | negSucc m =>
  have hl:=Wn 199 (m+1) h;obtain⟨c,r,e,z⟩:=JeR (m+1)
  have hd:=Zt (m+1)
  have hb:Yl (45::Uq (m+1))=Uq (m+1):=by rw[Uv,if_pos rfl]
  refine⟨45::Uq (m+1),JfV m,by rw[Qr];omega,?_,?_⟩
  ·unfold okL;rw[hb,hd,decide_eq_true hl,e];have:=z (by omega);simp[this]
  ·unfold Jga;rw[intText_neg (x:=tx (45::Uq (m+1))) (cs:=Uq (m+1)) rfl (JaX hd) (by rw[e];simp) (by rw[YY,Qr];omega)];show -((MS (Uq (m+1)):Nat):Int)=_;unfold Uq;rw[Rr];rfl
theorem JiK{p:Pr}(h:Uu p):(strI p.1).length<=1921/\(strI p.2).length<=1921:=⟨ZW h.1,ZW h.2⟩
theorem Jfb:((("+":String):Str)).length=1:=by decide +kernel
theorem JcW:(((" ":String):Str)).length=1:=by decide +kernel
theorem JkO:((("\n":String):Str)).length=1:=by decide +kernel
theorem Jh8:((("row":String):Str)).length=3:=by decide +kernel
theorem Jm5:((("":String):Str)).length=0:=by decide +kernel
theorem JcN{z:Str}{s:Sl}{ys:List Str}(e:s.r=some (ys.map D.str))(h:(ys.map (·.length)).sum+ys.length*z.length<=16777216):Jbq z [s]=some (.sh (.str (Ka z ys))):=by show(s.r.bind _)=_;rw[e,QX,JfW,QX,if_pos h]
theorem JbH(ps:List Pr)(hl:ps.length<=39)(hs:∀p∈ps,Uu p):J3 [.sh (.lst (ps.map prE))]=some (.sh (.str (VB ps))):=by
 unfold J3
 have hf:=JcT (ys:=("row":Str)::ps.map Wc) (z:=(("":String):Str)) (by simp;omega) (by rw[Jm5];omega) (fun y hy=>by
  rcases Qp.mp hy with z|z
  ·rw[z,Jh8];omega
  ·obtain⟨p,hp,rfl⟩:=QT.mp z;have:=JjT (hs p hp);omega)
 have hj:=JbC (z:=(("":String):Str)) (("row":Str)::ps.map Wc)
 have hn:=JkO;walk_at "ev";rw[Yc (g:=fun p=>D.str (Wc p))]
 ·walk_at "ev";rw[JcN (ys:=("row":Str)::ps.map Wc) (by simp[Sl.r]) (by omega)];walk_at "ev";rw[Jf5]
 ·intro p hp;obtain⟨a1,a2⟩:=hs p hp;obtain⟨b1,b2⟩:=JiK (hs p hp);have c1:=Jfb;have c2:=JcW;unfold Small at a1 a2;simp only[prE];walk_at "ev";have l1:=GW (((" ":String):Str)) (strI p.1);have l2:=GW (((" ":String):Str)++strI p.1) ((("+":String):Str));walk_at "ev";rfl
theorem JcX{i:Int}(h:Small i):YF [.sh (.int i)]=some (.sh (.str (strI i))):=by unfold YF;unfold Small at h;walk_at "ev"
theorem JcY(ps:List Pr)(hl:ps.length<=30)(hs:∀p∈ps,Uu p):Ua [.sh (.row (ps.map prE))]=some (.sh (.str (VB ps))):=by
 unfold Ua
 have hf:=JcT (ys:=("row":Str)::ps.map V6) (z:=((" ":String):Str)) (by simp;omega) (by rw[JcW];omega) (fun y hy=>by
  rcases Qp.mp hy with z|z
  ·rw[z,Jh8];omega
  ·obtain⟨p,hp,rfl⟩:=QT.mp z;have:=Jcj (hs p hp);omega)
 have hj:=JbC (z:=((" ":String):Str)) (("row":Str)::ps.map V6)
 have hn:=JkO;walk_at "ev";rw[Yc (g:=fun p=>D.str (V6 p))]
 ·walk_at "ev";rw[JcN (ys:=("row":Str)::ps.map V6) (by simp[Sl.r]) (by omega)];walk_at "ev";rfl
 ·intro p hp;obtain⟨a1,a2⟩:=hs p hp;obtain⟨b1,b2⟩:=JiK (hs p hp);have c1:=Jfb;simp only[prE];walk_at "ev";rw[JcX a1];walk_at "ev";rw[JcX a2];have l1:=GW (strI p.1) ((("+":String):Str));walk_at "ev";rfl
noncomputable def Vt(c:Nat):Nat->List Nat->List Nat
 | _,[]=>[]
 | k,a::l=>if a=c then k::Vt c (k+1) l else Vt c (k+1) l
noncomputable def spL(c:Nat):List Nat->List (List Nat)
 | []=>[[]]
 | a::l=>if a=c then []::spL c l else match spL c l with
  | p::ps=>(a::p)::ps
  | []=>[[a]]
theorem Jl1(x:Str)(c i:Nat):LB x ⟨#[c]⟩ i=decide (x.cps[i]?=some c):=by
 unfold LB;show(x.cps.extract i (i+1) == #[c])=_;rw[GC,beq_iff_eq,decide_eq_true_iff];constructor
 ·intro h;have h1:(x.cps.extract i (i+1))[0]?=some c:=by rw[h];rfl
  rw[Array.getElem?_extract] at h1;split at h1
  ·simpa using h1
  ·cases h1
 ·intro h;obtain⟨hi,e⟩:=K9.mp h
  apply Array.ext
  ·rw[Array.size_extract];simp;omega
  ·intro j h1 h2;have:j=0:=by simpa using h2
   subst this;simp[e]
theorem Jd2(x:Str)(c:Nat):∀(l:List Nat) (k:Nat) (found:Array Nat) (free:Nat),free<=k->found.size<=k->(∀i,l[i]?=x.cps[k+i]?) ->
 (forIn (List.range' k (l.length+1)) (found,free) (M9 x ⟨#[c]⟩ x.length (x.length+1))).run.fst.toList=found.toList++Vt c k l
 | [],k,found,free,h1,h2,h=>by
  have hk:x.cps[k]?=none:=by have:=h 0;simpa using this.symm
  have hn:¬(k+1<=x.length):=by
   have:=Array.getElem?_eq_none_iff.mp hk
   show ¬(k+1<=x.cps.size);omega
  rw[show([]:List Nat).length+1=1 from rfl,List.range'_one,KS];unfold M9;rw[if_neg fun z=>hn z.1.2];simp[Vt]
 | a::l,k,found,free,h1,h2,h=>by
  have hk:x.cps[k]?=some a:=by have:=h 0;simpa using this.symm
  obtain⟨hi,e⟩:=K9.mp hk;have hn:∀i,l[i]?=x.cps[k+1+i]?:=fun i=>by have:=h (i+1);rw[KM] at this;rw[this];congr 1;omega
  rw[Qr,List.range'_succ,KS];unfold M9;rw[Jl1,hk]
  by_cases hc:a=c
  ·rw[if_pos ⟨⟨⟨by show found.size<x.cps.size+1;omega,h1⟩,by show k+1<=x.cps.size;omega⟩,by rw[hc];simp⟩];have ih:=Jd2 x c l (k+1) (found.push k) (k+1) (Qo _) (by rw[Array.size_push];omega) hn;rw[Vt,if_pos hc];have e2:found.toList++k::Vt c (k+1) l=(found.push k).toList++Vt c (k+1) l:=by simp
   rw[e2];exact ih
  ·rw[if_neg fun z=>hc (by simpa using z.2)];have ih:=Jd2 x c l (k+1) found free (by omega) (by omega) hn;rw[Vt,if_neg hc];exact ih
theorem Jnw(x:Str)(c:Nat):GJ x ⟨#[c]⟩ 0 x.length (x.length+1)=Vt c 0 x.cps.toList:=by rw[StrLaws.occ_eq];have h:=Jd2 x c x.cps.toList 0 #[] 0 (Qo _) (by simp) (fun i=>by simp);rw[KA] at h;exact h
noncomputable def Jta(a:List Nat):List (List Nat)->List (List Nat)
 | []=>[]
 | p::ps=>(a++p)::ps
theorem W7(x:List Nat)(c:Nat):∀(l:List Nat) (k b:Nat),x.drop k=l->b<=k->((b::(Vt c k l).map (·+1)).zip (Vt c k l++[x.length])).map (fun p=>(x.take p.2).drop p.1)=Jta ((x.take k).drop b) (spL c l)
 | [],k,b,h,hb=>by
  have hk:x.length<=k:=by have:=congrArg List.length h;simp at this;omega
  show [((x.take x.length).drop b)]=[(x.take k).drop b++[]]
  rw[Gg,MM,LC hk]
 | a::l,k,b,h,hb=>by
  have hl:k<x.length:=by have:=congrArg List.length h;simp at this;omega
  have hd:x.drop (k+1)=l:=by rw[<- List.drop_drop,h];rfl
  have ha:x[k]?=some a:=by have:=congrArg (·[0]?) h;simpa using this
  have ht:x.take (k+1)=x.take k++[a]:=by rw[Ms,ha];rfl
  have hbl:b<=(x.take k).length:=by rw[Lc];omega
  by_cases hc:a=c
  ·have ih:=W7 x c l (k+1) (k+1) hd (Qo _);rw[Vt,if_pos hc,spL,if_pos hc];rw[Qi,KI,List.zip_cons_cons,Qi,ih]
   have e0:(x.take (k+1)).drop (k+1)=[]:=Lz (by rw[Lc];omega)
   cases hs:spL c l with
   | nil =>
    exfalso
    cases l with
    | nil=>cases hs
    | cons a' l' =>
     rw[spL] at hs;split at hs
     ·cases hs
     ·split at hs <;> cases hs
   | cons p ps=>show(x.take k).drop b::((x.take (k+1)).drop (k+1)++p)::ps=((x.take k).drop b++[])::p::ps;rw[e0,Gg];rfl
  ·have ih:=W7 x c l (k+1) b hd (by omega);rw[Vt,if_neg hc,spL,if_neg hc,ih]
   cases hs:spL c l with
   | nil =>
    exfalso
    cases l with
    | nil=>cases hs
    | cons a' l' =>
     rw[spL] at hs;split at hs
     ·cases hs
     ·split at hs <;> cases hs
   | cons p ps=>show((x.take (k+1)).drop b++p)::ps=((x.take k).drop b++a::p)::ps;rw[ht,List.drop_append_of_le_length hbl,Kx];rfl
theorem Jbv{c:Nat}:∀{l:List Nat} {k:Nat},Vt c k l=[]->spL c l=[l]
 | [],_,_=>rfl
 | a::l,k,h=>by
  rw[Vt] at h;split at h
  ·cases h
  ·next hc=>rw[spL,if_neg hc,Jbv h]
theorem JaH{c:Nat}:∀{l:List Nat} {k:Nat},c∉l->Vt c k l=[]
 | [],_,_=>rfl
 | a::l,k,h=>by rw[Vt,if_neg fun e=>h (by rw[e];exact Qg),JaH fun m=>h (Qh _ m)]
noncomputable def mkS(l:List Nat):Str:=⟨l.toArray⟩
theorem JjO(l:List Nat)(c:Nat)(hc:c<256):KL (mkS l) ⟨#[c]⟩=(spL c l).map mkS:=by
 have o:GJ (mkS l) ⟨#[c]⟩ 0 (mkS l).length ((mkS l).length+1)=Vt c 0 l:=by rw[Jnw];rfl
 unfold KL;split
 ·next h =>
  have k1:Kb (⟨#[c]⟩:Str)=1:=by unfold Kb;rw[if_pos (by simp[hc])]
  have k2:¬Kb (mkS l)<1:=by unfold Kb;split <;> (try split) <;> omega
  rw[k1,decide_eq_false k2,LM,decide_eq_true_iff] at h
  have:l=[]:=Q1 (by
   have h':l.toArray.size<1:=h
   simpa using h')
  subst this;rfl
 ·rw[o];split
  ·next h=>have:Vt c 0 l=[]:=List.isEmpty_iff.mp h;rw[Jbv this];rfl
  ·unfold MG;have p:=W7 l c l 0 0 rfl (Qo _)
   have e:spL c l=((0::(Vt c 0 l).map (·+1)).zip (Vt c 0 l++[l.length])).map (fun p=>(l.take p.2).drop p.1):=by
    rw[p]
    cases hs:spL c l with
    | nil=>rfl
    | cons p ps=>rfl
   rw[e,QA];have e2:(mkS l).length=l.length:=by show l.toArray.size=_;simp
   rw[e2];refine QL fun q _=>?_
   show(⟨l.toArray.extract q.1 q.2⟩:Str)=mkS ((l.take q.2).drop q.1);unfold mkS;congr 1;simp[List.extract_eq_drop_take,List.drop_take]
theorem Jhj{c:Nat}{p:List Nat}(h:c∉p):spL c p=[p]:=Jbv (k:=0) (JaH h)
theorem WN{c:Nat}:∀{p:List Nat} (r:List Nat),c∉p->spL c (p++c::r)=p::spL c r
 | [],r,_=>by show spL c (c::r)=_;rw[spL,if_pos rfl]
 | a::p,r,h=>by show spL c (a::(p++c::r))=_;rw[spL,if_neg fun e=>h (by rw[e];exact Qg),WN r fun m=>h (Qh _ m)]
theorem Jkv(l:List Nat)(c:Nat):RQ (mkS l) ⟨#[c]⟩=if c∈l then(l.idxOf c:Int) else -1:=by
 have at':∀i,StrLaws.At (mkS l) ⟨#[c]⟩ (mkS l).length i↔l[i]?=some c:=fun i=>by
  unfold StrLaws.At;rw[Jl1,decide_eq_true_iff];have e:(mkS l).cps[i]?=l[i]?:=by show l.toArray[i]?=_;simp
  rw[e];constructor
  ·exact fun h=>h.2
  ·intro h;refine⟨?_,h⟩;have:=(Qn.mp h).1;show i+1<=l.toArray.size;simp;omega
 unfold RQ;rcases StrLaws.occ_head (mkS l) ⟨#[c]⟩ 1 (Qo _) with ⟨h0,hn⟩|⟨i,r,h0,hi,hn⟩
 ·rw[h0,if_neg];intro hm;obtain⟨i,hi⟩:=GZ.mp hm;exact hn i ((at' i).mpr hi)
 ·have hi':=(at' i).mp hi
  have hm:c∈l:=QG hi';rw[h0,if_pos hm]
  show(i:Int)=_;congr 1
  have hj:=List.idxOf_lt_length_of_mem hm
  have ej:l[l.idxOf c]?=some c:=by rw[G6 hj,List.getElem_idxOf hj]
  have a1:¬l.idxOf c<i:=fun z=>hn _ z ((at' _).mpr ej)
  have first:∀(l:List Nat) (i:Nat),l[i]?=some c->l.idxOf c<=i:=by
   intro l
   induction l with
   | nil=>intro i h;cases h
   | cons a l ih =>
    intro i h
    by_cases e:a=c
    ·rw[e,Rs];omega
    ·rw[List.idxOf_cons,show(a == c)=false by simpa using e,cond_false]
     cases i with
     | zero=>simp at h;exact absurd h e
     | succ i=>have:=ih i (by simpa using h);omega
  have a2:=first l i hi'
  omega
noncomputable def YL(n:Int):List Nat:=match n with
 | Int.ofNat m=>Uq m
 | Int.negSucc m=>45::Uq (m+1)
theorem VP(n:Int):strI n=tx (YL n):=by
 cases n with
 | ofNat m=>exact JfU m
 | negSucc m=>exact JfV m
theorem Yd{n:Int}(h:n.natAbs<10 ^ 200):(YL n).length<=201/\okL (YL n)=true/\Jga (YL n)=n:=by obtain⟨l,e,h1,h2,h3⟩:=Jp7 n h;rw[VP,Jmb] at e;rw[e];exact⟨h1,h2,h3⟩
theorem Ja9{n:Int}(h:n.natAbs<10 ^ 200):Jld (YL n)=.int n:=by obtain⟨_,h2,h3⟩:=Yd h;unfold Jld;rw[if_pos h2,h3]
theorem Jk9(n:Int):∀c∈YL n,c=45\/dig c=true:=by
 cases n with
 | ofNat m=>exact fun c hc=>.inr (GH.mp (Zt m) c hc)
 | negSucc m =>
  intro c hc;rcases Qp.mp hc with e|e
  ·exact .inl e
  ·exact .inr (GH.mp (Zt (m+1)) c e)
theorem VY{n:Int}{c:Nat}(h1:c≠45)(h2:dig c=false):c∉YL n:=fun hc=>by
 rcases Jk9 n c hc with e|e
 ·exact h1 e
 ·rw[h2] at e;cases e
theorem JeD:Qx "+"=tx [43]:=by decide +kernel
theorem Jou:Qx "\n"=tx [10]:=by decide +kernel
theorem Z9:Qx " "=tx [32]:=by decide +kernel
theorem Jo5:Qx "row"=tx [114,111,119]:=by decide +kernel
noncomputable def J8(p:Pr):List Nat:=YL p.1++43::YL p.2
noncomputable def tlL:List Pr->List Nat
 | []=>[]
 | p::ps=>32::(J8 p++tlL ps)
noncomputable def Us(ps:List Pr):List Nat:=[114,111,119]++tlL ps
noncomputable def Fig(p:Pr):Prop:=p.1.natAbs<10 ^ 200/\p.2.natAbs<10 ^ 200
theorem Jgc{p:Pr}(h:Fig p):(J8 p).length<=403:=by
 have a:=(Yd h.1).1
 have b:=(Yd h.2).1;unfold J8;rw[QC,Qr];omega
theorem Jbd:∀{ps:List Pr},(∀p∈ps,Fig p)->(tlL ps).length<=404*ps.length
 | [],_=>Qo _
 | p::ps,h=>by
  have a:=Jgc (h p Qg)
  have b:=Jbd fun q hq=>h q (Qh _ hq)
  rw[tlL,Qr,QC,Qr];omega
theorem JiJ{p:Pr}{c:Nat}(h0:c≠43)(h1:c≠45)(h2:dig c=false):c∉J8 p:=fun hc=>by
 unfold J8 at hc;rcases Go.mp hc with z|z
 ·exact VY h1 h2 z
 ·rcases Qp.mp z with y|y
  ·exact h0 y
  ·exact VY h1 h2 y
theorem Jo0{c:Nat}(h:c≠32)(h0:c≠43)(h1:c≠45)(h2:dig c=false):∀ps:List Pr,c∉tlL ps
 | []=>List.not_mem_nil
 | p::ps=>fun hc=>by
  rcases Qp.mp hc with z|z
  ·exact h z
  ·rcases Go.mp z with y|y
   ·exact JiJ h0 h1 h2 y
   ·exact Jo0 h h0 h1 h2 ps y
theorem JoV:∀(ps:List Pr) (w:List Nat),32∉w->spL 32 (w++tlL ps)=w::ps.map J8
 | [],w,h=>by rw[tlL,Gg,Jhj h];rfl
 | p::ps,w,h=>by rw[tlL,WN _ h,JoV ps (J8 p) (JiJ (by decide) (by decide) (by decide))];rfl
theorem Jhl(ps:List Pr):spL 32 (Us ps)=[114,111,119]::ps.map J8:=JoV ps _ (by decide)
theorem Jh1{c:Nat}{a b:List Nat}(h:c∉a):(a++c::b).idxOf c=a.length/\c∈a++c::b:=by refine⟨?_,Gr _ Qg⟩;rw[List.idxOf_append,if_neg h,Rs];omega
theorem Jkx(l:List Nat)(c:Nat):WY (tx l) [.sh (.str (tx [c]))]=some (.sh (.int (if c∈l then(l.idxOf c:Int) else -1))):=by show some (Sl.sh (D.int (RQ (mkS l) ⟨#[c]⟩)))=_;rw[Jkv]
theorem Jb8(l:List Nat)(c:Nat)(hc:c<256)(h1:l.length<=16777216)(h2:(spL c l).length<=16777216):UV (tx l) [.sh (.str (tx [c]))]=some (.own ((spL c l).map fun p=>D.str (tx p))):=by
 have e:KL (tx l) (tx [c])=(spL c l).map mkS:=JjO l c hc
 show(if _ then _ else _)=_;rw[e,if_pos ⟨rfl,by rw[YY];exact h1,by rw[QN];exact h2⟩,QA];rfl
theorem Jjq(p:Pr)(h:Fig p)(h0:0<=p.2):Yn [.sh (.str (tx (J8 p)))]=some (.sh (prE p)):=by
 have n43:43∉YL p.1:=VY (by decide) (by decide);obtain⟨i1,i2⟩:=Jh1 (b:=YL p.2) n43
 have wl:=Jgc h
 have l1:=(Yd h.1).1
 have l2:=(Yd h.2).1
 have f:WY (tx (J8 p)) [.sh (.str (tx [43]))]=some (.sh (.int ((YL p.1).length:Int))):=by have z:=Jkx (J8 p) 43;rw[if_pos (show 43∈J8 p from i2),show(J8 p).idxOf 43=(YL p.1).length from i1] at z;exact z
 have tl:(tx (J8 p)).length<=403:=by rw[YY];exact wl
 have s1:KY (tx (J8 p)) none (some ((YL p.1).length:Int))=tx (YL p.1):=by rw[JlQ _ _ (by unfold J8;rw[QC];omega)];unfold J8;rw[Rt]
 have s2:KY (tx (J8 p)) (some ((YL p.1).length+1:Int)) none=tx (YL p.2):=by rw[show((YL p.1).length+1:Int)=(((YL p.1).length+1:Nat):Int) by omega,Jiu _ _ (by unfold J8;rw[QC,Qr];omega)];unfold J8;rw[List.drop_append];rw[Lz (by omega),Nat.add_sub_cancel_left];rfl
 have d0:decide (((YL p.1).length:Int)<0)=false:=decide_eq_false (by omega)
 have d1:decide (p.2<0)=false:=decide_eq_false (by omega);unfold Yn;walk_at "ev";rw[JeD,f];walk_at "ev";rw[d0];walk_at "ev";rw[s1,JgJ _ (by omega),Ja9 h.1];walk_at "ev";rw[s2,JgJ _ (by omega),Ja9 h.2];walk_at "ev";rw[d1];walk_at "ev";rfl
theorem Jfj(ps:List Pr)(hl:ps.length<=1000)(h:∀p∈ps,Fig p/\0<=p.2):Yu [.sh (.str (tx (Us ps)))]=some (.sh (.lst (ps.map prE))):=by
 have tl:=Jbd fun p hp=>(h p hp).1
 have rl:(Us ps).length<=500000:=by unfold Us;rw[QC];show 3+_<=_;omega
 have sp:=Jhl ps
 have f:=Jb8 (Us ps) 32 (by decide) (by omega) (by rw[sp,Qr,QN];omega);rw[sp,Qi] at f
 have c1:Jdw (D.str (tx [114,111,119])::(ps.map J8).map fun p=>D.str (tx p)) (some 1) none=(ps.map J8).map fun p=>D.str (tx p):=by unfold Jdw;rw[HT.JlH,show(1:Int)=((1:Nat):Int) from rfl,HT.Jn4];simp;exact LC (by simp)
 have nn:(ps.map prE).any D.isNon=false:=by rw[List.any_eq_false];intro d hd;obtain⟨p,_,rfl⟩:=QT.mp hd;simp[prE,D.isNon]
 have ok:(ps.map prE).all okN=true:=by rw[GH];intro d hd;obtain⟨p,_,rfl⟩:=QT.mp hd;rfl
 have a0':∀(x:D) (l:List D),atI (x::l) 0=some x:=fun x l=>by unfold atI ixN;rw[if_pos (by omega),if_pos (by rw[Qr];omega)];rfl
 have dt:decide (tx [114,111,119]=tx [114,111,119])=true:=decide_eq_true rfl;unfold Yu;walk_at "ev";rw[Z9,f];walk_at "ev";rw[a0',Jo5];walk_at "ev";rw[c1];walk_at "ev";rw[QA,Yc (g:=prE) (fun p hp=>by walk_at "ev";rw[show Yn [.sh (((fun p=>D.str (tx p)) ∘ J8) p)]=_ from Jjq p (h p hp).1 (h p hp).2];walk_at "ev")]
 walk_at "ev";rw[nn];walk_at "ev"
theorem Jqd(ps:List Pr)(g:Good ps)(hl:ps.length<=30)(h:∀p∈ps,Fig p):Zw [.sh (.str (tx (Us ps++[10])))]=some (.sh (.row (ps.map prE))):=by
 have tl:=Jbd h
 have rl:(Us ps).length<=500000:=by unfold Us;rw[QC];show 3+_<=_;omega
 have n10:10∉Us ps:=fun hc=>by
  rcases Go.mp hc with z|z
  ·revert z;decide
  ·exact Jo0 (by decide) (by decide) (by decide) (by decide) ps z
 obtain⟨i1,i2⟩:=Jh1 (b:=[]) n10
 have f:WY (tx (Us ps++[10])) [.sh (.str (tx [10]))]=some (.sh (.int ((Us ps).length:Int))):=by have z:=Jkx (Us ps++[10]) 10;rw[if_pos i2,i1] at z;exact z
 have tlen:(tx (Us ps++[10])).length=(Us ps).length+1:=by rw[YY,QC,Gy]
 have s1:KY (tx (Us ps++[10])) none (some ((Us ps).length:Int))=tx (Us ps):=by rw[JlQ _ _ (by rw[QC];omega),Rt]
 have d0:decide (((Us ps).length:Int)<0)=false:=decide_eq_false (by omega)
 have d1:decide (((Us ps).length:Int)+1<(((Us ps).length+1:Nat):Int))=false:=decide_eq_false (by omega);unfold Zw;walk_at "ev";rw[Jou,f];walk_at "ev";rw[d0];walk_at "ev";rw[s1,Jfj ps (by omega) (fun p hp=>⟨h p hp,by have:=Good.all g p hp;omega⟩)];walk_at "ev";rw[tlen,d1];walk_at "ev";rw[WK rfl g hl];walk_at "ev"

theorem Jdk(ds:List D)(x:D):atI (ds++[x]) (-1)=some x:=by
 have e:(-1+((ds.length:Int)+1)).toNat=ds.length:=by omega
 simp only[atI,ixN,QC,Gy,GM];simp;rw[if_pos (by omega),QX,e];simp
theorem Jp9(ps:List Pr)(g:Good ps)(hl:ps.length<=30)(h:∀p∈ps,Fig p):Ue (.str (tx (Us ps++[10])))=some [.row (ps.map prE)]:=by unfold Ue WS;walk_at "ev";rw[Jqd ps g hl h];walk_at "ev"
theorem JdX(a:Option Qd)(ds:List D)(ps:List Pr)(hl:ps.length<=30)(hs:∀p∈ps,Uu p):Yg [.bw a (ds++[.row (ps.map prE)])]=some (.sh (.str (VB ps))):=by unfold Yg;walk_at "ev";rw[Jdk];walk_at "ev";rw[JcY ps hl hs];walk_at "ev"
theorem Jov:Qx ""=tx []:=by decide +kernel
theorem Jni(l:List Nat)(h:10∉l)(hl:l.length<=16000000):UH [.sh (.str (tx (l++[10])))]=some (.sh (.lst [.str (tx l)])):=by
 have e:spL 10 (l++[10])=[l,[]]:=WN [] h
 have f:=Jb8 (l++[10]) 10 (by decide) (by simp;omega) (by rw[e];simp);rw[e] at f;simp only[Qi,G4] at f;unfold UH;walk_at "ev";rw[Jou,f];walk_at "ev";simp only[List.dropLast_cons₂,List.dropLast_singleton];rw[Jov];walk_at "ev"
theorem JkT(l:List Nat):(Lm (tx l) (tx [45])).length=l.length-(l.takeWhile fun c=>c == 45).length:=by
 have e:(tx l).cps.toList.takeWhile (tx [45]).cps.contains=l.takeWhile fun c=>c == 45:=by
  show l.toArray.toList.takeWhile _=_;congr 1
  funext c
  rw[GC];simp[tx]
 have hl:(tx l).length=l.length:=YY l;unfold Lm Txt.stripBy stripSame stripped stripLo stripHi;simp only[if_true,Ko,if_false,e,hl];split
 ·next h =>
  rw[hl]
  have:(l.takeWhile fun c=>c == 45).length=0:=by rw[Q9] at h;exact eq_of_beq h.1
  omega
 ·simp[Builtin.Str.strSub,RG,tx]
theorem Jme:Qx "-"=tx [45]:=by decide +kernel
theorem Jfk(l:List Nat)(most:Int)(hl:l.length<=640)(h:((l.length-(l.takeWhile fun c=>c == 45).length:Nat):Int)<=most):J2 [.sh (.str (tx l)),.sh (.int most)]=some (.sh (Jld l)):=by
 have l1:(tx l).length<=16777216:=by rw[YY];omega
 have l2:(Lm (tx l) (tx [45])).length<=16777216:=by rw[JkT];omega
 unfold J2;walk_at "ev";rw[Jme];walk_at "ev";rw[JkT,decide_eq_true h];walk_at "ev";rw[JgJ l hl];walk_at "ev"
noncomputable def Ut:Option Int->List Nat
 | none=>[97,108,108]
 | some s=>YL s
theorem Jo4:Qx "all"=tx [97,108,108]:=by decide +kernel
theorem Jjp(ps qs:List Pr)(seats:Option Int)(times:Int)(hs:∀s,seats=some s->1<=s/\s.natAbs<10 ^ 200/\(((YL s).length-((YL s).takeWhile fun c=>c == 45).length:Nat):Int)<=60)
 (hA:Yp [.sh (.row (ps.map prE)),.sh (Ye seats),.sh (.int times)]=some (.sh (.row (qs.map prE)))) :
 YE [.sh (.row (ps.map prE)),.sh (.str (tx (Ut seats))),.sh (.int times)]=some (.sh (.row (qs.map prE))):=by
 unfold YE;walk_at "ev";rw[Jo4,Jdz]
 cases seats with
 | none=>rw[show decide (Ut none=[97,108,108])=true from rfl];walk_at "ev";rw[show(Sl.sh D.non)=.sh (Ye none) from rfl,hA];walk_at "ev"
 | some s =>
  obtain⟨h1,h2,h3⟩:=hs s rfl;obtain⟨b1,b2,b3⟩:=Yd h2;have ne:¬Ut (some s)=[97,108,108]:=fun z=>VY (n:=s) (c:=97) (by decide) (by decide) (by rw[show YL s=[97,108,108] from z];simp)
  rw[decide_eq_false ne];walk_at "ev";rw[show Ut (some s)=YL s from rfl,Jfk (YL s) 60 (by omega) h3,Ja9 h2];walk_at "ev";rw[decide_eq_false (by omega)];walk_at "ev";rw[show(Sl.sh (D.int s))=.sh (Ye (some s)) from rfl,hA];walk_at "ev"
theorem JrX(n:Int)(k:Nat)(h:n.natAbs<10 ^ (k+1)):(YL n).length-((YL n).takeWhile fun c=>c == 45).length<=k+1:=by
 cases n with
 | ofNat m =>
  have:=Wn k m h
  show(Uq m).length-_<=_;omega
 | negSucc m =>
  have:=Wn k (m+1) h
  show(45::Uq (m+1)).length-((45::Uq (m+1)).takeWhile fun c=>c == 45).length<=_;simp;omega
theorem Jtc:Qx "go"=tx [103,111]:=by decide +kernel
noncomputable def goL(seats:Option Int)(times:Int):List Nat:=[103,111]++32::(Ut seats++32::YL times)
theorem Jit{seats:Option Int}{c:Nat}(h1:c≠45)(h2:dig c=false)(h3:c∉[97,108,108]):c∉Ut seats:=by
 cases seats with
 | none=>exact h3
 | some s=>exact VY h1 h2
theorem JlY(seats:Option Int)(times:Int):spL 32 (goL seats times)=[[103,111],Ut seats,YL times]:=by unfold goL;rw[WN _ (by decide),WN _ (Jit (by decide) (by decide) (by decide)),Jhj (VY (by decide) (by decide))]
theorem at3(a b c:D):atI [a,b,c] 0=some a/\atI [a,b,c] 1=some b/\atI [a,b,c] 2=some c:=⟨rfl,rfl,rfl⟩
theorem JkU(ps qs:List Pr)(seats:Option Int)(times:Int)(hs:∀s,seats=some s->1<=s/\s.natAbs<10 ^ 60)(ht:times.natAbs<10 ^ 30)
 (hA:Yp [.sh (.row (ps.map prE)),.sh (Ye seats),.sh (.int times)]=some (.sh (.row (qs.map prE)))) :
 YK [.sh (.row (ps.map prE)),.sh (.lst [.str (tx [103,111]),.str (tx (Ut seats)),.str (tx (YL times))])]=some (.sh (.row (qs.map prE))):=by
 have t2:times.natAbs<10 ^ 200:=QM ht (G7 (by decide) (by decide));obtain⟨b1,b2,b3⟩:=Yd t2
 have f:=JrX times 29 ht
 have hg:=Jjp ps qs seats times (fun s e=>⟨(hs s e).1,QM (hs s e).2 (G7 (by decide) (by decide)),by have:=JrX s 59 (hs s e).2;omega⟩) hA;unfold YK;walk_at "ev";rw[Jtc,(at3 _ _ _).1,(at3 _ _ _).2.1,(at3 _ _ _).2.2];walk_at "ev";rw[Jfk (YL times) 30 (by omega) (by omega),Ja9 t2];walk_at "ev";rw[hg];walk_at "ev"
theorem Jp8(ps qs:List Pr)(seats:Option Int)(times k:Int)(hs:∀s,seats=some s->1<=s/\s.natAbs<10 ^ 60)(ht:times.natAbs<10 ^ 30)
 (hA:Yp [.sh (.row (ps.map prE)),.sh (Ye seats),.sh (.int times)]=some (.sh (.row (qs.map prE)))) :
 YQ [.sh (.row (ps.map prE)),.sh (.str (tx (goL seats times))),.sh (.int k)]=some (.sh (.row (qs.map prE))):=by
 have t2:times.natAbs<10 ^ 200:=QM ht (G7 (by decide) (by decide));obtain⟨b1,b2,b3⟩:=Yd t2
 have hl:(goL seats times).length<=1000:=by
  cases seats with
  | none=>simp[goL,Ut];omega
  | some s=>obtain⟨c1,_,_⟩:=Yd (n:=s) (QM (hs s rfl).2 (G7 (by decide) (by decide)));simp[goL,Ut];omega
 have f:=Jb8 (goL seats times) 32 (by decide) (by omega) (by rw[JlY];simp);rw[JlY] at f;simp only[Qi,G4] at f;unfold YQ;walk_at "ev";rw[Z9,f];walk_at "ev";rw[JkU ps qs seats times hs ht hA];walk_at "ev"
theorem Jr1(seats:Option Int)(times:Int):10∉goL seats times:=by unfold goL;simp only[Go,Qp,List.not_mem_nil,or_false,not_or];exact⟨by decide,by decide,Jit (by decide) (by decide) (by decide),by decide,VY (by decide) (by decide)⟩
theorem Jrv:Qx "back"=tx [98,97,99,107]:=by decide +kernel
theorem Jr8(ds:List D)(ps qs:List Pr)(seats:Option Int)(times:Int)(hd:ds.length<=1000)(hs:∀s,seats=some s->1<=s/\s.natAbs<10 ^ 60)(ht:times.natAbs<10 ^ 30)
 (hA:Yp [.sh (.row (ps.map prE)),.sh (Ye seats),.sh (.int times)]=some (.sh (.row (qs.map prE)))) :
 Ux (ds++[.row (ps.map prE)]) (.str (tx (goL seats times++[10])))=some (ds++[.row (ps.map prE)]++[.row (qs.map prE)]):=by
 have t2:times.natAbs<10 ^ 200:=QM ht (G7 (by decide) (by decide));obtain⟨b1,b2,b3⟩:=Yd t2
 have hl:(goL seats times).length<=1000:=by
  cases seats with
  | none=>simp[goL,Ut];omega
  | some s=>obtain⟨c1,_,_⟩:=Yd (n:=s) (QM (hs s rfl).2 (G7 (by decide) (by decide)));simp[goL,Ut];omega
 have ne:¬goL seats times=[98,97,99,107]:=by intro z;unfold goL at z;simp at z
 have l3:(ds++[D.row (ps.map prE)]).length=ds.length+1:=by simp
 unfold Ux;refine Jpt fun a=>?_
 refine⟨[.dw (some a) (ds++[.row (ps.map prE)]++[.row (qs.map prE)]),.sh (.str (tx (goL seats times++[10]))),.sh (.lst (ds++[.row (ps.map prE)]++[.row (qs.map prE)])),.sh (.int 1),.sh (.str (tx (goL seats times)))],?_,rfl⟩;unfold JaC;walk_at "ev";rw[Jni (goL seats times) (Jr1 _ _) (by omega)];walk_at "ev";rw[show JdB [D.str (tx (goL seats times))]=[.tup [.int 1,.str (tx (goL seats times))]] from rfl,YG];walk_at "ev";rw[Jrv,Jdz,decide_eq_false ne]
 walk_at "ev";rw[Jdk];walk_at "ev";rw[Jp8 ps qs seats times 1 hs ht hA];walk_at "ev";rw[YG];walk_at "ev"
theorem Ja8(a:Option Qd)(ds:List D)(ps qs:List Pr)(seats:Option Int)(times:Int)(hq:qs.length<=30)(hs:∀p∈qs,Uu p)
 (hA:Yp [.sh (.row (ps.map prE)),.sh (Ye seats),.sh (.int times)]=some (.sh (.row (qs.map prE)))) :
 JX [.bw a (ds++[.row (ps.map prE)]),.sh (Ye seats),.sh (.int times)]=some (.sh (.str (VB qs))):=by
 unfold JX;walk_at "ev";rw[Jdk];walk_at "ev";rw[hA];walk_at "ev";rw[JcY qs hq hs];walk_at "ev"
theorem Jmg(p:Pr):Wc p=tx (32::J8 p):=by unfold Wc J8;rw[VP,VP];rw[show((" ":String):Str)=tx [32] from Z9,show(("+":String):Str)=tx [43] from JeD,Zl,Zl,Zl];simp
theorem Jh5:∀(ps:List Pr) (w:List Nat),Ka GO (tx w::ps.map Wc)=tx (w++tlL ps)
 | [],w=>by rw[tlL,Gg];rfl
 | p::ps,w=>by
  have ih:=Jh5 ps (32::J8 p);rw[Qi,Jmg]
  show tx w++GO++Ka GO (tx (32::J8 p)::ps.map Wc)=_;rw[ih,show GO=tx [] from rfl,Zl,Zl,Gg];rfl
theorem JiF(ps:List Pr):VB ps=tx (Us ps++[10]):=by rw[<- Jf5];have h:=Jh5 ps [114,111,119];rw[show(("":String):Str)=GO from by decide +kernel,show(("row":String):Str)=tx [114,111,119] from Jo5,h,show(("\n":String):Str)=tx [10] from Jou,Zl];rfl
theorem Jh2{n:Int}(h:n.natAbs<10 ^ 200):Zx [.sh (.str (tx (YL n)))]=some (.sh (.int n)):=by obtain⟨b1,b2,b3⟩:=Yd h;exact JdC (YL n) (by omega) (by rw[JkK _ b2,b3])
theorem Jiw(p:Pr):spL 43 (J8 p)=[YL p.1,YL p.2]:=by unfold J8;rw[WN _ (VY (by decide) (by decide)),Jhj (VY (by decide) (by decide))]
theorem at2(a b:D):atI [a,b] 0=some a/\atI [a,b] 1=some b:=⟨rfl,rfl⟩
theorem Jii(x0:Sl):∀(ps acc:List Pr) (j2 j3:Sl),(∀p∈ps,Fig p)->acc.length+ps.length<=1000 ->
 ∃u v,YG (.nm 2) (Ju (Jx 3 (eM UV (Jd 2) (aC (eC (.str "+")) a0))) (JaW 1 (Vk (aC (eF Zx (aC (e2 fIx (Jd 3) (eC (.int 0))) a0)) (aC (eF Zx (aC (e2 fIx (Jd 3) (eC (.int 1))) a0)) a0))))) (ps.map fun p=>D.str (tx (J8 p))) [x0,.own (acc.map prE),j2,j3]=some (.nx [x0,.own ((acc++ps).map prE),u,v])
 | [],acc,j2,j3,_,_=>⟨j2,j3,by rw[Gg];rfl⟩
 | p::ps,acc,j2,j3,h,hl=>by
  obtain⟨f1,f2⟩:=h p Qg;obtain⟨b1,_,_⟩:=Yd f1;obtain⟨c1,_,_⟩:=Yd f2;rw[Qr] at hl;have f:=Jb8 (J8 p) 43 (by decide) (by unfold J8;simp;omega) (by rw[Jiw];simp);rw[Jiw] at f;simp only[Qi,G4] at f;obtain⟨u,v,ih⟩:=Jii x0 ps (acc++[p]) (.sh (.str (tx (J8 p)))) (.sh (.lst [.str (tx (YL p.1)),.str (tx (YL p.2))])) (fun q hq=>h q (Qh _ hq)) (by simp;omega)
  rw[JeD] at ih;refine⟨u,v,?_⟩;rw[Qi,YG];walk_at "ev";rw[JeD,f];walk_at "ev";rw[(at2 _ _).1,(at2 _ _).2];walk_at "ev";rw[Jh2 f1,Jh2 f2];walk_at "ev";rw[show acc.map prE++[D.tup [D.int p.1,D.int p.2]]=(acc++[p]).map prE by simp[prE],ih];simp
theorem Joh(l:List Nat):KY (tx (l++[10])) none (some (-1))=tx l:=by
 have h:=JlQ (l++[10]) l.length (by simp);rw[Rt] at h;rw[<- h]
 have e:(tx (l++[10])).length=l.length+1:=by rw[YY];simp
 have z:K2 none (some (-1)) 1 (l.length+1)=K2 none (some (l.length:Int)) 1 (l.length+1):=by
  unfold K2
  grind
 simp[KY,e,z]
theorem Jnk(ps:List Pr)(h:∀p∈ps,Fig p)(hl:ps.length<=30)(hr:(Us ps).length<=16000000):Ys [.sh (.str (VB ps))]=some (.own (ps.map prE)):=by
 have f:=Jb8 (Us ps) 32 (by decide) (by omega) (by rw[Jhl];simp;omega);rw[Jhl] at f;simp only[Qi,QA] at f
 have tl:(tx (Us ps++[10])).length<=16777216:=by rw[YY];simp;omega
 obtain⟨u,v,e⟩:=Jii (.sh (.str (tx (Us ps++[10])))) ps [] .no .no h (by simp;omega);rw[JiF];unfold Ys;walk_at "ev";rw[Joh,Z9,f];walk_at "ev";rw[JeQ,List.drop_one,List.tail_cons,show((fun p=>D.str (tx p)) ∘ J8)=(fun p=>D.str (tx (J8 p))) from rfl];rw[G4] at e;rw[e];walk_at "ev"
theorem ZD{s:Int}:∀(ps:List Pr) (ins:Int),Good ps->0<=ins->ins<=s->(∀p∈ps,∃q∈goS s ins ps,p.1<=q.1/\q.1<=p.1+p.2)/\∀q∈goS s ins ps,∃p∈ps,p.1<=q.1/\q.1<=p.1+p.2
 | [],_,_,_,_=>⟨fun p hp=>(nomatch hp),fun q hq=>(nomatch hq)⟩
 | [p],ins,g,h0,h1=>by
  have h2:=Good.all g p Qg
  have h3:p.1<=p.1+min p.2 (s-ins)/\p.1+min p.2 (s-ins)<=p.1+p.2:=by omega
  refine⟨fun x hx=>⟨_,Qg,?_⟩,fun q hq=>⟨p,Qg,?_⟩⟩
  ·rw[KO.mp hx];exact h3
  ·rw[KO.mp hq];exact h3
 | p::q::r,ins,g,h0,h1=>by
  have h2:=Good.all g p Qg
  have h3:=g.gap 0 p q rfl rfl
  have h4:p.1<=p.1+min p.2 (s-ins)/\p.1+min p.2 (s-ins)<=p.1+p.2:=by omega
  obtain⟨a,b⟩:=ZD (q::r) (s:=s) (max 0 (ins+min p.2 (s-ins)-(q.1-p.1-p.2))) (Good.cons' g) (by omega) (by omega);rw[Ya];refine⟨fun x hx=>?_,fun x hx=>?_⟩
  ·rcases Qp.mp hx with z|z
   ·rw[z];exact⟨_,Qg,h4⟩
   ·obtain⟨y,hy,h⟩:=a x z;exact⟨y,Qh _ hy,h⟩
  ·rcases Qp.mp hx with z|z
   ·rw[z];exact⟨p,Qg,h4⟩
   ·obtain⟨y,hy,h⟩:=b x z;exact⟨y,Qh _ hy,h⟩
theorem Uj:∀{ps:List Pr},Good ps->0<=(ps.map (·.2)).sum/\∀p∈ps,p.2<=(ps.map (·.2)).sum
 | [],_=>⟨QK _,fun p hp=>(nomatch hp)⟩
 | q::ps,g=>by
  obtain⟨a,b⟩:=Uj (Good.cons' g);have h:=Good.all g q Qg;rw[Qi,QF];refine⟨by omega,fun p hp=>?_⟩;rcases Qp.mp hp with z|z
  ·rw[z];omega
  ·have:=b p z;omega
noncomputable def Bd(L U:Int)(ps:List Pr):Prop:=∀p∈ps,L<=p.1/\p.1<=U
theorem JkC{s:Int}(hs:1<=s){N:Nat}{ps:List Pr}(g:Good ps)(hN:thN N ps=[]){L U:Int}(b:Bd L U ps):∀n:Nat,Bd L (U+(n:Int)*(ps.map (·.2)).sum) (goI s n ps)
 | 0=>fun p hp=>by have:=b p hp;rw[Int.natCast_zero,RV];omega
 | n+1=>fun q hq=>by rw[Je3] at hq;obtain⟨a,_,c,_,_⟩:=JdJ s hs N n g hN;obtain⟨p,hp,h1,h2⟩:=(ZD (s:=s) _ 0 a (QK _) (by omega)).2 q hq;have h3:=JkC hs g hN b n p hp;have h4:=(Uj a).2 p hp;rw[c] at h4;rw[GM,Kw,Int.natCast_one,LQ];omega
theorem Js4{s:Int}(hs:1<=s){N:Nat}{ps:List Pr}(g:Good ps)(hN:(ps.map (·.2)).sum<=(N:Int)){L U:Int}(bd:Bd L U ps)(z:Int):∃qs,Good qs/\qs.length=ps.length/\(qs.map (·.2)).sum=(ps.map (·.2)).sum ∧
 (tbN N 0 qs=(tbN N 0 ps).map fun t=>(t.1,t.2.1+z*min t.1 s,t.2.2))/\Bd (L-(z.natAbs:Int)*(ps.map (·.2)).sum) (U+(z.natAbs:Int)*(ps.map (·.2)).sum) qs:=by
 have pos:=(Uj g).1
 by_cases hz:0<=z
 ·obtain⟨n,rfl⟩:∃n:Nat,z=n:=⟨z.toNat,by omega⟩
  obtain⟨a,b,c,_,e⟩:=JdJ s hs N n g (WP N g hN);refine⟨_,a,b,c,e,fun q hq=>?_⟩;have:=JkC hs g (WP N g hN) bd n q hq;have:=Int.mul_nonneg (Int.natCast_nonneg n) pos;rw[Int.natAbs_natCast];omega
 ·obtain⟨n,rfl⟩:∃n:Nat,z=-(n:Int):=⟨(-z).toNat,by omega⟩
  clear hz;rw[Ru,Int.natAbs_natCast]
  induction n with
  | zero=>exact⟨ps,g,rfl,rfl,by refine(Le _).symm.trans (QL fun t _=>?_);show t=(t.1,t.2.1+-((0:Nat):Int)*min t.1 s,t.2.2);simp,fun p hp=>by have:=bd p hp;rw[Int.natCast_zero,RV];omega⟩
  | succ n ih =>
   obtain⟨qs,a,b,c,e,bq⟩:=ih;obtain⟨a1,b1,e1⟩:=Jph hs a;have c1:((bkS s qs).map (·.2)).sum=(qs.map (·.2)).sum:=by rw[<- Ja4 a1 (show 0<=s by omega),e1]
   refine⟨bkS s qs,a1,b1.trans b,c1.trans c,?_,fun p hp=>?_⟩
   ·have tg:=Jf3 N 0 s a1 (by omega);rw[e1,e] at tg
    have tg2:=congrArg (List.map fun t:Tr=>((t.1,t.2.1-min t.1 s,t.2.2):Tr)) tg;rw[QA,QA] at tg2;refine(Eq.trans ?_ tg2.symm).trans (QL fun t _=>?_)
    ·refine(Le _).symm.trans (QL fun t _=>?_);show t=(t.1,t.2.1+min (t.1-0) s-min t.1 s,t.2.2)
     rw[L5,show t.2.1+min t.1 s-min t.1 s=t.2.1 by omega]
    ·show(t.1,t.2.1+-(n:Int)*min t.1 s-min t.1 s,t.2.2)=(t.1,t.2.1+-((n+1:Nat):Int)*min t.1 s,t.2.2)
     congr 2;rw[Int.neg_mul,Int.neg_mul,GM,Kw];simp;omega
   ·obtain⟨q,hq,h1,h2⟩:=(ZD (s:=s) _ 0 a1 (QK _) (by omega)).1 p hp;rw[e1] at hq;have h3:=bq q hq;have h4:=(Uj a1).2 p hp;rw[c1,c] at h4;rw[GM,Kw,Int.natCast_one,LQ];omega
theorem JrK(T:Es)(E0 E3 E4 E5 E7 E8:Sl)(seats:Option Int)(ins l:Int):Ju (Jx 7 (Jd 6)) (Ju (xIf (tB? (e2 VV (Jd 1) (eC .non))) (Jx 7 (eF Jae (aC (Jd 6) (aC (e2 Uh (Jd 1) (Jd 2)) a0)))) JY) T) [E0,.sh (Ye seats),.sh (.int ins),E3,E4,E5,.sh (.int l),E7,E8]=T [E0,.sh (Ye seats),.sh (.int ins),E3,E4,E5,.sh (.int l),.sh (.int (tkF seats l ins)),E8]:=by
 cases seats with
 | none=>simp only[Ye,tkF];walk_at "ev"
 | some s=>simp only[Ye,tkF];walk_at "ev"
theorem Jib(ps:List Pr)(seats:Option Int)(h:ps.length<=1000):YS [.sh (.lst (ps.map prE)),.sh (Ye seats)]=some (.own ((goF seats 0 ps).map prE)):=by
 unfold YS;walk_at "ev";rw[JsL,GX];refine ZI (fun i E=>∃acc ins j4 j5 j6 j7 j8,E=[.sh (.lst (ps.map prE)),.sh (Ye seats),.sh (.int ins),.own (acc.map prE),j4,j5,j6,j7,j8]/\acc++goF seats ins (ps.drop i)=goF seats 0 ps/\acc.length=i) ⟨[],0,.no,.no,.no,.no,.no,rfl,rfl,rfl⟩ ?_ ?_
 ·rintro i E hi ⟨acc,ins,j4,j5,j6,j7,j8,rfl,e,hl⟩;have hi':i<ps.length:=by simpa using hi
  obtain⟨p,r,hd⟩:∃p r,ps.drop i=p::r:=⟨ps[i],ps.drop (i+1),Kq hi'⟩
  obtain⟨hp,hr⟩:=JeV hd;have hg:(ps.map prE)[i]?=some (prE p):=by rw[Qt,hp];rfl
  rw[hd] at e;have hlen:(ps.drop i).length=ps.length-i:=LI;rw[hd,Qr] at hlen
  generalize hT:(Ju (Jx 2 (e2 JN (Jd 2) (Jd 7))) (Ju (Jx 8 (Jd 2)) (Ju (xIf (tB? (e2 fLt (e2 JN (Jd 4) (eC (.int 1))) (eF Vs (aC (Jd 0) a0)))) (Jx 8 (eF Jae (aC (Jd 2) (aC (e2 Uh (e2 Uh (e2 fIx (e2 fIx (Jd 0) (e2 JN (Jd 4) (eC (.int 1)))) (eC (.int 0))) (Jd 5)) (Jd 6)) a0)))) JY) (Ju (JaW 3 (Vk (aC (e2 JN (Jd 5) (Jd 7)) (aC (e2 JN (e2 Uh (Jd 6) (Jd 7)) (Jd 8)) a0)))) (Jx 2 (e2 Uh (Jd 2) (Jd 8)))))))=T
  generalize hU:Ju (Jx 7 (Jd 6)) (Ju (xIf (tB? (e2 VV (Jd 1) (eC .non))) (Jx 7 (eF Jae (aC (Jd 6) (aC (e2 Uh (Jd 1) (Jd 2)) a0)))) JY) T)=U
  walk_at "ev";rw[JeL hg];simp only[prE];walk_at "ev";rw[<- hU,JrK,<- hT];walk_at "ev"
  cases r with
  | nil =>
   have c:¬((i:Int)+1<(ps.length:Int)):=by simp at hlen;omega
   simp only[c];walk_at "ev";refine⟨acc++[(p.1+tkF seats p.2 ins,p.2-tkF seats p.2 ins+(ins+tkF seats p.2 ins))],_,_,_,_,_,_,by simp[prE];exact⟨rfl,rfl,rfl,rfl,rfl,rfl⟩,?_,by simp[hl]⟩;rw[hr,goF,Gg];exact e
  | cons q r =>
   have c:(i:Int)+1<(ps.length:Int):=by simp at hlen;omega
   obtain⟨hq,_⟩:=JeV hr;have hgq:(ps.map prE)[i+1]?=some (prE q):=by rw[Qt,hq];rfl
   have ci:(i:Int)+1=((i+1:Nat):Int):=by omega
   simp only[c];walk_at "ev";rw[ci,JeL hgq];walk_at "ev";rw[JdD];walk_at "ev";refine⟨acc++[(p.1+tkF seats p.2 ins,p.2-tkF seats p.2 ins+min (ins+tkF seats p.2 ins) (q.1-p.1-p.2))],_,_,_,_,_,_,by simp[prE];exact⟨rfl,rfl,rfl,rfl,rfl,rfl⟩,?_,by simp[hl]⟩;rw[hr,Kx];exact e
 ·rintro E' ⟨acc,ins,j4,j5,j6,j7,j8,rfl,e,hl⟩;walk_at "ev";have:ps.drop ((ps.length:Int)).toNat=[]:=by simp
  rw[this,goF,Gg] at e;rw[e]
theorem VG{p:Pr}(h:Fig p):Uu p:=by
 have z:∀x:Int,x.natAbs<10 ^ 200->Small x:=fun x hx=>Small.of (Gm hx (by decide +kernel))
 exact⟨z _ h.1,z _ h.2⟩
theorem JoW(qs:List Pr):VE (.tp (.cons (.nm 0) (.cons (.nm 1) .nil))) yes? (Jd 1) [.no,.no] (qs.map prE)=some (qs.map fun p=>D.int p.2):=Yc fun p hp=>by simp only[prE];walk_at "ev"
theorem JsU:Qx "go "=tx [103,111,32]:=by decide +kernel
theorem Jnn(seats:Option Int)(h:∀s,seats=some s->Small s):Yt [.sh (Ye seats)]=some (.sh (.str (tx (Ut seats)))):=by
 unfold Yt
 cases seats with
 | none=>simp only[Ye,Ut];walk_at "ev";rw[Jo4]
 | some s=>have hs:s.natAbs.log2<1920:=h s rfl;simp only[Ye,Ut];walk_at "ev";rw[VP]
theorem Ja1(a b:List Nat)(h:a.length+b.length<=1000000):JN (.sh (.str (tx a))) (.sh (.str (tx b)))=some (.sh (.str (tx (a++b)))):=by rw[JhS (by rw[YY,YY];omega),Zl]
theorem Jfh(seats:Option Int)(times:Int)(ok:∀s,seats=some s->1<=s/\s.natAbs<10 ^ 60)(ht:times.natAbs<10 ^ 30):((((JN (.sh (.str (Qx "go "))) (.sh (.str (tx (Ut seats))))).bind fun x=>JN x (.sh (.str (Qx " ")))).bind fun x=>(Jcq [.sh (.int times)]).bind fun y=>JN x y).bind fun x=>JN x (.sh (.str (Qx "\n"))))=some (.sh (.str (tx (goL seats times++[10])))):=by
 have ls:(Ut seats).length<=201:=by
  cases seats with
  | none=>decide
  | some s=>exact(Yd (Gm (ok s rfl).2 (by decide +kernel))).1
 have t2:times.natAbs<10 ^ 200:=Gm ht (by decide +kernel)
 have lt:=(Yd t2).1
 have zt:Small times:=Small.of (Gm t2 (by decide +kernel));rw[JsU,Z9,Jou,JhV zt,VP,Ja1 _ _ (by simp only[Qr,GL];omega),QX,Ja1 _ _ (by simp only[QC,Qr,GL];omega),QX,QX,Ja1 _ _ (by simp only[QC,Qr,GL];omega),QX,Ja1 _ _ (by simp only[QC,Qr,GL];omega)]
 simp[goL]
theorem Jnl(ds:List D)(ps:List Pr)(seats:Option Int)(times:Int)(hd:ds.length<=900)(g:Good ps)(hl:ps.length<=30)(bd:Bd (-10 ^ 50) (10 ^ 50) ps)(hm:(ps.map (·.2)).sum<=10 ^ 40)(ok:∀s,seats=some s->1<=s/\s.natAbs<10 ^ 60)(ht:times.natAbs<10 ^ 30) :
 ∃qs:List Pr,YT (ds++[.row (ps.map prE)]) [.lst (ps.map prE),Ye seats,.int times]=some (.bl true,ds++[.row (ps.map prE)]++[.row (qs.map prE)]++[.row (ps.map prE)]):=by
 have pos:=Uj g
 obtain⟨s,hs1,hs⟩:∃s,1<=s/\Sts seats s (ps.map (·.2)).sum:=by
  cases seats with
  | none=>exact⟨1+(ps.map (·.2)).sum,by omega,.inr ⟨rfl,by omega⟩⟩
  | some s=>exact⟨s,(ok s rfl).1,.inl rfl⟩
 obtain⟨N,hN⟩:∃N:Nat,(ps.map fun p:Pr=>p.2).sum<=(N:Int):=⟨(ps.map fun p:Pr=>p.2).sum.toNat,by omega⟩
 have okS:OkS seats:=fun s h=>(ok s h).1
 have tN:=WP N g hN;obtain⟨qs,q1,q2,q3,q4,q5⟩:=Js4 hs1 g hN bd times
 have qN:=WP N q1 (by rw[q3];exact hN)
 have gs:=(VW (s:=s) qs 0 q1 (QK _) (by omega)).1
 have hq:Sts seats s (qs.map (·.2)).sum:=by rw[q3];exact hs
 have eg:goF seats 0 qs=goS s 0 qs:=JdI qs 0 q1 (QK _) (by omega) (by rw[Ld];exact hq)
 have gl:=JdL s qs 0
 have gsum:=Ja4 q1 (show 0<=s by omega)
 have hb:(ps.map (·.2)).sum<=10 ^ 100:=by omega
 have fgp:∀p∈ps,Fig p:=fun p hp=>by
  have h1:=bd p hp
  have h2:=pos.2 p hp
  have h3:=Good.all g p hp;unfold Fig;omega
 have mul:(times.natAbs:Int)*(ps.map (·.2)).sum<=10 ^ 30*10 ^ 40:=Rv (by omega) hm pos.1 (by decide)
 have fgq:∀p∈qs,Fig p:=fun p hp=>by
  have h1:=q5 p hp
  have h2:=(Uj q1).2 p hp
  have h3:=Good.all q1 p hp;rw[q3] at h2;unfold Fig;omega
 have fgs:∀p∈goS s 0 qs,Fig p:=fun p hp=>by obtain⟨q,hq,h1,h2⟩:=(ZD (s:=s) qs 0 q1 (QK _) (by omega)).2 p hp;have h3:=q5 q hq;have h4:=(Uj q1).2 q hq;have h5:=(Uj gs).2 p hp;have h6:=Good.all gs p hp;rw[gsum,q3] at h5;rw[q3] at h4;unfold Fig;omega
 have m0:=Wr ps ps N seats s 0 g hl tN g hl tN okS hs hs1 hb (by omega) (by
  refine(Le _).symm.trans (QL fun t _=>?_);show t=(t.1,t.2.1+0*min t.1 s,t.2.2)
  rw[RV,LA])
 have m1:=Wr ps qs N seats s times g hl tN q1 (by omega) qN okS hs hs1 hb (by omega) q4
 have m2:=Wr qs ps N seats s (-times) q1 (by omega) qN g hl tN okS hq hs1 (by rw[q3];exact hb) (by omega) (by
  rw[q4,QA];refine(Le _).symm.trans (QL fun t _=>?_);show t=(t.1,t.2.1+times*min t.1 s+-times*min t.1 s,t.2.2)
  rw[Int.neg_mul,Int.add_neg_cancel_right])
 have m3:=Wr ps (goS s 0 qs) N seats s (times+1) g hl tN gs (by omega) (JeA N s q1 (by omega) qN) okS hs hs1 hb (by omega) (by
  rw[Jf3 N 0 s q1 (by omega),q4,QA];refine QL fun t _=>?_
  show(t.1,t.2.1+times*min t.1 s+min (t.1-0) s,t.2.2)=(t.1,t.2.1+(times+1)*min t.1 s,t.2.2)
  rw[L5,Kw,LQ,MH])
 have z:∀x:Int,x.natAbs<10 ^ 200->Small x:=fun x hx=>Small.of (Gm hx (by decide +kernel))
 have sp:∀p∈ps,Uu p:=fun p hp=>VG (fgp p hp)
 have sq:∀p∈qs,Uu p:=fun p hp=>VG (fgq p hp)
 have ss:∀p∈goS s 0 qs,Uu p:=fun p hp=>VG (fgs p hp)
 have lq:(Us qs).length<=16000000:=by have:=Jbd fgq;unfold Us;simp only[QC,Qr,GL];omega
 refine⟨qs,JpM fun a=>⟨[.dw (some a) (ds++[.row (ps.map prE)]++[.row (qs.map prE)]++[.row (ps.map prE)]),.sh (.lst (ps.map prE)),.sh (Ye seats),.sh (.int times),.sh (.str (VB ps)),.sh (.str (VB qs)),.sh (.lst (qs.map prE)),.sh (.str (tx (Ut seats)))],?_,rfl⟩⟩;show Vr [.dw (some a) (ds++[.row (ps.map prE)]),.sh (.lst (ps.map prE)),.sh (Ye seats),.sh (.int times),.no,.no,.no,.no]=_;unfold Vr;walk_at "ev";rw[JbH ps (by omega) sp]
 walk_at "ev";rw[Ja8 _ _ ps qs seats times (by omega) sq m1];walk_at "ev";rw[Jnk qs fgq (by omega) lq];walk_at "ev";rw[Ja8 _ _ ps ps seats 0 hl sp m0];walk_at "ev";rw[JbH qs (by omega) sq];walk_at "ev";rw[decide_eq_true (show(qs.length:Int)=(ps.length:Int) by omega)];walk_at "ev";rw[JoW qs];walk_at "ev";rw[Vl (ns:=qs.map (·.2)) (by simp[Sl.q])];walk_at "ev";rw[JoW ps];walk_at "ev";rw[Vl (ns:=ps.map (·.2)) (by simp[Sl.q]),q3];walk_at "ev"
 rw[Jib qs seats (by omega),eg];walk_at "ev";rw[JbH (goS s 0 qs) (by omega) ss];walk_at "ev";rw[Ja8 _ _ ps (goS s 0 qs) seats (times+1) (by omega) ss m3];walk_at "ev";rw[Jnn seats fun s e=>z s (Gm (ok s e).2 (by decide +kernel))];walk_at "ev";rw[Jfh seats times ok ht];walk_at "ev";rw[Jr8 ds ps qs seats times (by omega) ok ht m1];walk_at "ev";rw[JdX _ _ qs (by omega) sq];walk_at "ev";rw[Jfh seats (-times) ok (by rw[Ru];exact ht)]
 walk_at "ev";rw[Jr8 (ds++[D.row (ps.map prE)]) qs ps seats (-times) (by simp;omega) ok (by rw[Ru];exact ht) m2];walk_at "ev";rw[JdX _ _ ps hl sp];walk_at "ev"
theorem JhE{a b:Int}{i:Nat}(h:i<Jkc a b 2):a<=a+(i:Int)*2/\a+(i:Int)*2<b:=by unfold Jkc at h;split at h <;> omega
noncomputable def spn(ns:List Int):Int:=JfH [2,7,1000,10 ^ 30] (cell ns 0 / 31 % 4)
noncomputable def sid(ns:List Int):Int:=JfH [3,1000,10 ^ 40] (cell ns 0 / 124 % 3)
noncomputable def prs(ns:List Int):List Pr:=(spr ns 1 (spn ns) (cell ns 1 % (2*sid ns+1)-sid ns) (cell ns 0 % 13).toNat).2
theorem Jl0(ns:List Int):0<spn ns/\spn ns<=10 ^ 30:=JfI (P:=fun x=>0<x/\x<=10 ^ 30) (by omega) (by show _<(4:Int);omega) (by decide)
theorem JlO(ns:List Int):0<=sid ns/\sid ns<=10 ^ 40:=JfI (P:=fun x=>0<=x/\x<=10 ^ 40) (by omega) (by show _<(3:Int);omega) (by decide)
theorem Jnj(ns:List Int):UG [.sh (.fz (ns.map .int)),.sh (.int 12)]=some (.own ((prs ns).map prE)):=by
 have a4:=Wj (l:=[2,7,1000,10 ^ 30]) (k:=cell ns 0 / 31 % 4) (by omega) (by show _<(4:Int);omega)
 have a3:=Wj (l:=[3,1000,10 ^ 40]) (k:=cell ns 0 / 124 % 3) (by omega) (by show _<(3:Int);omega);simp only[Qi,G4] at a4 a3
 have h1:=Jl0 ns
 have h2:=JlO ns;unfold UG;walk_at "ev";rw[JdW ns 0 (by omega)];walk_at "ev";rw[a4];walk_at "ev";rw[a3];walk_at "ev"
 have m:=Jk0 ns 1 (cell ns 0 % 13) (spn ns) (sid ns) (by omega) (by omega) (by omega) h1.1 h2.1;unfold spn sid at m;rw[show(12:Int)+1=13 from rfl,m];rfl
theorem Jlm(ns:List Int):Good (prs ns)/\(prs ns).length<=12/\Bd (-10 ^ 50) (10 ^ 50) (prs ns)/\((prs ns).map (·.2)).sum<=10 ^ 40:=by
 have h1:=Jl0 ns
 have h2:=JlO ns
 have p1:=Lj (cell ns 1) (show 2*sid ns+1≠0 by omega)
 have p2:=Mn (cell ns 1) (show 0<2*sid ns+1 by omega);unfold prs;obtain⟨_,_,f3,f4⟩:=Jix ns 1 (spn ns) (cell ns 1 % (2*sid ns+1)-sid ns) h1.1 (cell ns 0 % 13).toNat
 have g:=(JfT ns 1 (spn ns) (cell ns 1 % (2*sid ns+1)-sid ns) h1.1 (cell ns 0 % 13).toNat).1
 have hk:((cell ns 0 % 13).toNat:Int)<=12:=by omega
 have b1:((cell ns 0 % 13).toNat:Int)*(2*spn ns+1)<=12*(2*10 ^ 30+1):=Rv hk (by omega) (by omega) (by decide)
 have b2:((cell ns 0 % 13).toNat:Int)*spn ns<=12*10 ^ 30:=Rv hk (by omega) (by omega) (by decide);refine⟨g,by rw[WO];omega,fun p hp=>?_,by omega⟩
 have q1:=f3 p hp
 have q2:=Good.all g p hp;omega
theorem Jfi(c:Int):∃seats,(∀s,seats=some s->1<=s/\s.natAbs<10 ^ 60)/\Y0 [.sh (.int c)]=some (.sh (Ye seats)):=by
 obtain⟨seats,ok,e⟩:∃seats,(∀s,seats=some s->1<=s/\s.natAbs<10 ^ 60)/\atI [D.non,.int 1,.int 2,.int 3,.int (1+c / 5 % 9),.int (1+c / 5 % 10 ^ 30)] (c % 6)=some (Ye seats):=by
  have:c % 6=0\/c % 6=1\/c % 6=2\/c % 6=3\/c % 6=4\/c % 6=5:=by omega
  rcases this with z|z|z|z|z|z <;> rw[z]
  ·exact⟨none,fun s e=>(nomatch e),rfl⟩
  all_goals exact⟨some _,fun s e=>by cases e;omega,rfl⟩
 refine⟨seats,ok,?_⟩;unfold Y0;walk_at "ev";rw[e];walk_at "ev"
theorem Jqb(c:Int):∃z:Int,z.natAbs<10 ^ 30/\U6 [.sh (.int c)]=some (.sh (.int z)):=by
 unfold U6;walk_at "ev"
 by_cases h:c / 2 % 2=1 <;> by_cases h':c % 2=1 <;> simp only[h] <;> walk_at "ev" <;> simp only[h'] <;> walk_at "ev"
 ·exact⟨-(c / 4 % 10 ^ 29 % 100),by omega,rfl⟩
 ·exact⟨c / 4 % 10 ^ 29 % 100,by omega,rfl⟩
 ·exact⟨-(c / 4 % 10 ^ 29),by omega,rfl⟩
 ·exact⟨c / 4 % 10 ^ 29,by omega,rfl⟩
theorem Jqq{ps:List Pr}(g:Good ps)(hl:ps.length<=30)(bd:Bd (-10 ^ 50) (10 ^ 50) ps)(hm:(ps.map (·.2)).sum<=10 ^ 40){seats:Option Int}(ok:∀s,seats=some s->1<=s/\s.natAbs<10 ^ 60) :
 ∃rs:List Pr,goF seats 0 ps=rs/\rs.length<=30/\(∀p∈rs,Uu p)/\Yp [.sh (.row (ps.map prE)),.sh (Ye seats),.sh (.int 1)]=some (.sh (.row (rs.map prE))):=by
 have pos:=Uj g
 obtain⟨s,hs1,hs⟩:∃s,1<=s/\Sts seats s (ps.map (·.2)).sum:=by
  cases seats with
  | none=>exact⟨1+(ps.map (·.2)).sum,by omega,.inr ⟨rfl,by omega⟩⟩
  | some s=>exact⟨s,(ok s rfl).1,.inl rfl⟩
 obtain⟨N,hN⟩:∃N:Nat,(ps.map fun p:Pr=>p.2).sum<=(N:Int):=⟨(ps.map fun p:Pr=>p.2).sum.toNat,by omega⟩
 have tN:=WP N g hN
 have gs:=(VW (s:=s) ps 0 g (QK _) (by omega)).1
 have gl:=JdL s ps 0
 have gsum:=Ja4 g (show 0<=s by omega);refine⟨goS s 0 ps,JdI ps 0 g (QK _) (by omega) (by rw[Ld];exact hs),by omega,fun p hp=>VG ?_,?_⟩
 ·obtain⟨q,hq,h1,h2⟩:=(ZD (s:=s) ps 0 g (QK _) (by omega)).2 p hp;have h3:=bd q hq;have h4:=pos.2 q hq;have h5:=(Uj gs).2 p hp;have h6:=Good.all gs p hp;rw[gsum] at h5;unfold Fig;omega
 ·refine Wr ps (goS s 0 ps) N seats s 1 g hl tN gs (by omega) (JeA N s g (by omega) tN) (fun s h=>(ok s h).1) hs hs1 (by omega) (by omega) ?_;rw[Jf3 N 0 s g (by omega)];refine QL fun t _=>?_
  show(t.1,t.2.1+min (t.1-0) s,t.2.2)=(t.1,t.2.1+1*min t.1 s,t.2.2)
  rw[L5,LQ]
theorem JbG(ns:List Int)(ds:List D)(seats:Option Int)(times:Int)(hd:ds.length<=900)(ok:∀s,seats=some s->1<=s/\s.natAbs<10 ^ 60)(ht:times.natAbs<10 ^ 30) :
 ∃ds':List D,ds'.length=ds.length+2/\YT (ds++[.row ((prs ns).map prE)]) [.lst ((prs ns).map prE),Ye seats,.int times]=some (.bl true,ds'++[.row ((prs ns).map prE)]):=by
 obtain⟨g,hl,bd,hm⟩:=Jlm ns;obtain⟨q,r⟩:=Jnl ds (prs ns) seats times hd g (by omega) bd hm ok ht;exact⟨_,by simp,r⟩
theorem law_true(ns:List Int)(hn:ns.length<=63):Jgw [.sh (.fz (ns.map .int))]=some (.sh (.bl true)):=by
 obtain⟨g,hl,bd,hm⟩:=Jlm ns;have pos:=Uj g
 have fg:∀p∈prs ns,Fig p:=fun p hp=>by
  have h1:=bd p hp
  have h2:=pos.2 p hp
  have h3:=Good.all g p hp;unfold Fig;omega
 have sp:∀p∈prs ns,Uu p:=fun p hp=>VG (fg p hp)
 have mt:=JbH (prs ns) (by omega) sp;obtain⟨d1,l1,r1⟩:=JbG ns [] none (-1) (by decide) (fun s e=>(nomatch e)) (by decide);obtain⟨d2,l2,r2⟩:=JbG ns d1 (some 2) (10 ^ 29) (by rw[l1];decide) (fun s e=>by cases e;omega) (by decide +kernel)
 have i1:Jbx (min ((ns.length:Int)-1) 34)=true:=in60_ok.mpr ⟨by omega,by omega⟩
 have i2:Jbx ((ns.length:Int)-1)=true:=in60_ok.mpr ⟨by omega,by omega⟩
 have i3:Jbx 26=true:=rfl
 have i4:Jbx 34=true:=rfl
 have i5:Jay 2=true:=rfl;simp only[KU,Ye] at r1 r2;simp only[GL] at l1;unfold Jgw;walk_at "ev";rw[Jnj];walk_at "ev";rw[mt];walk_at "ev";rw[JiF,Jp9 _ g (by omega) fg];walk_at "ev";rw[r1];walk_at "ev";rw[r2];walk_at "ev";unfold Jg4;rw[GX];refine ZI (fun i E=>∃ds j3,E=[.sh (.fz (ns.map .int)),.sh (.lst ((prs ns).map prE)),.dw none (ds++[.row ((prs ns).map prE)]),j3,.no]/\ds.length=4+2*i) ⟨d2,.no,rfl,by omega⟩ ?_ ?_
 ·rintro i E hi ⟨ds,j3,rfl,hds⟩;have hi':=JhE hi;obtain⟨seats,ok,hs⟩:=Jfi (JfH ns (26+(i:Int)*2));obtain⟨z,hz,hf⟩:=Jqb (JfH ns (26+(i:Int)*2+1));obtain⟨d3,l3,r3⟩:=JbG ns ds seats z (by omega) ok hz;walk_at "ev";rw[Wj (by omega) (by omega)];walk_at "ev";rw[hs];walk_at "ev";rw[Wj (by omega) (by omega)];walk_at "ev";rw[hf];walk_at "ev";rw[r3];walk_at "ev";exact⟨d3,_,rfl,by omega⟩
 ·rintro E' ⟨ds,j3,rfl,hds⟩;walk_at "ev";unfold Jg4;rw[GX];refine ZI (fun i E=>∃j3 j4,E=[.sh (.fz (ns.map .int)),.sh (.lst ((prs ns).map prE)),.dw none (ds++[.row ((prs ns).map prE)]),j3,j4]) ⟨_,_,rfl⟩ ?_ ?_
  ·rintro i E hi ⟨j3,j4,rfl⟩;have hi':=JhE hi;obtain⟨seats,ok,hs⟩:=Jfi (JfH ns (34+(i:Int)*2));obtain⟨rs,eg,hr,hsr,ha⟩:=Jqq g (by omega) bd hm ok;walk_at "ev";rw[Wj (by omega) (by omega)];walk_at "ev";rw[hs];walk_at "ev";rw[Ja8 _ _ (prs ns) rs seats 1 hr hsr ha];walk_at "ev";rw[Jib (prs ns) seats (by omega),eg];walk_at "ev";rw[JbH rs (by omega) hsr];walk_at "ev";exact⟨_,_,rfl⟩
  ·rintro E' ⟨j3,j4,rfl⟩;walk_at "ev";rw[JdX _ _ (prs ns) (by omega) sp];walk_at "ev";rw[mt];walk_at "ev"
end
end LK
noncomputable section
namespace LK
open PySem L2 LR LE
noncomputable def top(i:Nat):GB:=PySem.Challenge.pw_lumprow_k74_whole_jumps_by_text.main.body.getD i (.Pass ⟨0,0,0,0⟩)
noncomputable abbrev Vz:GB:=top 40
noncomputable abbrev Jaw:GB:=top 43
noncomputable abbrev Wy:GB:=ZF (top 53) 4
noncomputable abbrev Zf:GB:=top 65
noncomputable abbrev Up:GB:=top 11
noncomputable abbrev W9:GB:=ZF (top 10) 0
noncomputable abbrev Wz:GB:=top 21
noncomputable abbrev WF:GB:=top 24
noncomputable abbrev Vv:GB:=top 13
noncomputable abbrev Za:GB:=top 28
noncomputable abbrev JbY:GB:=top 27
noncomputable abbrev Vy:GB:=top 32
noncomputable abbrev JbZ:GB:=top 33
noncomputable abbrev Zi:GB:=top 18
noncomputable abbrev Vx:GB:=top 17
noncomputable abbrev Jau:GB:=top 35
noncomputable abbrev WA:GB:=top 22
noncomputable abbrev Jar:GB:=top 14
noncomputable abbrev WB:GB:=top 20
noncomputable abbrev Jav:GB:=top 23
noncomputable abbrev Jaq:GB:=top 12
noncomputable abbrev Jat:GB:=top 26
noncomputable abbrev Jb0:GB:=top 25
noncomputable abbrev Zj:GB:=top 31
noncomputable abbrev Jej:GB:=top 36
noncomputable abbrev V1:GB:=ZF (top 53) 6
noncomputable abbrev Zd:GB:=top 66
noncomputable abbrev WD:GB:=top 67
noncomputable abbrev Zg:GB:=top 42
noncomputable abbrev VA:GB:=top 41
noncomputable abbrev UQ:GB:=top 56
noncomputable abbrev UP:GB:=top 57
noncomputable abbrev Vg:GB:=top 55
noncomputable abbrev Vw:GB:=top 54
noncomputable abbrev Jap:GB:=ZF (top 53) 1
noncomputable abbrev UA:GB:=top 68
noncomputable abbrev Uz:GB:=top 69
noncomputable abbrev WC:GB:=top 71
noncomputable abbrev Jas:GB:=top 70
noncomputable abbrev Vh:GB:=top 46
noncomputable abbrev UB:GB:=top 45
noncomputable abbrev Jg8:GB:=top 44
noncomputable abbrev Wx:GB:=ZF (top 53) 0
noncomputable abbrev Zc:GB:=top 62
noncomputable abbrev V2:GB:=top 63
noncomputable abbrev Ze:GB:=top 64
noncomputable abbrev ZT:GB:=top 72
local macro_rules | `(tactic| walk_at "c")=>`(tactic| exact⟨rfl,rfl,rfl,by decide +kernel,rfl,by decide +kernel,by decide +kernel⟩)
theorem ZL:(["begin","length"]:List Str).Nodup:=by decide +kernel
theorem Jsi:(["ahead","stretch","layers"]:List Str).Nodup:=by decide +kernel
theorem Jnt:(["begin","length","place"]:List Str).Nodup:=by decide +kernel
theorem Jsj:(["spot","number"]:List Str).Nodup:=by decide +kernel
theorem Jqh:(["size","spot","number"]:List Str).Nodup:=by decide +kernel
theorem Jqi:(["size","spot","number","times","seats"]:List Str).Nodup:=by decide +kernel
theorem Jsk:(["left","right"]:List Str).Nodup:=by decide +kernel
theorem Jsl:(["spot","number","left"]:List Str).Nodup:=by decide +kernel
theorem Jqj:(["spot","pairs","owed","size"]:List Str).Nodup:=by decide +kernel
theorem Jsg:(["figure"]:List Str).Nodup:=by decide +kernel
theorem Jsh:(["word"]:List Str).Nodup:=by decide +kernel
section
variable{P:Qu}{w:QJ}{K:Qw}{C CD:Qd}{mg:Str->Option Qc}{base:Q0}
theorem Jb4:FnScope ["number"] ["number"] (Jj Vz):=by walk_at "c"
theorem JbQ{f:Qd}{fd:Qz}(F:Fun K "number_text" "number_text" Vz f fd)(qH:mg "str"=none):FnOk P w K mg base CX0 1 f fd ["number"] (spE K C 1 YF) :=
 okE F Jb4 rfl fun _ _ _ _ _ _ hr hu=>⟨_,(Jh (Jv (Yo U1 rfl qH Jac (Ja (pv 0) Je)))),(JL (YB JcH (Jb (Jc 0) Jg)))⟩
theorem sc_written:FnScope ["row","words"] ["row"] (Jj Jaw):=by walk_at "c"
theorem JgZ{f:Qd}{fd:Qz}(F:Fun K "written" "written" Jaw f fd)(qz:Cal P w K mg base "number_text" 1 ["number"] (spE K C 1 YF))(T:RowC K C):FnOk P w K mg base CX0 2 f fd ["row"] (spE K C 1 Ua) :=
 okE F sc_written rfl fun _ _ _ _ _ _ hr hu=>⟨_,(Jf (W8 (i:=1) (N':=["begin","length"]) (imp:=[none,none]) sc_written.nd rfl (.inl rfl) rfl (piK K (YC (K:=K) rfl (pv 0) rfl)) (JaP rfl rfl) (fun _ _ _ _=>(JR (K:=K) (n:=2) rfl rfl (Jo (pgN 0 ZL) (Jo (pgN 1 ZL) JS)) rfl rfl)) (fun _ _ _ _=>J7) (fun _ _ _ _=>(Jp (Js (K:=K) rfl) (Jp (Js (K:=K) rfl) (Jk qz (hrM hr) rfl (Ja (pv 0) Je)) JQ) (Jk qz (hrM hr) rfl (Ja (pv 1) Je)))) rfl (.inl rfl))
  (Jh (Jv (Jp (Js (K:=K) rfl) (Ym (K:=K) rfl Q7 Rg Rh (Jfq (K:=K) rfl) JQ (Ja (Jp (Js (K:=K) rfl) (YW (Ja JQ Je)) (pv 1)) Je)) JQ)))),(Jq (JB (YX (Zb (VM T (Jc 0))) (YV (JC (JZ 0) (JC (JZ 1) YU)) rfl) UT (Jn JK (Jn JK (Jt (Jb (Jc 0) Jg)) Yb) (Jt (Jb (Jc 1) Jg))) rfl))
  (JL (Jn JK (JaU JkX Yb (Jb (Jn JK (US (Jb Yb Jg)) (Jc 1)) Jg)) Yb)))⟩
theorem Jeo:FnScope ["self"] ["self"] (Jj Wy):=by walk_at "c"
theorem Jd4{f:Qd}{fd:Qz}(F:Fun K "text" "Desk.text" Wy f fd)(qE:Cal P w K mg base "written" 2 ["row"] (spE K C 1 Ua))(TD:DkK K CD):FnOk P w K mg base CX0 3 f fd ["self"] (spE K C 1 Yg) :=
 okE F Jeo rfl fun _ _ _ _ _ _ hr hu=>⟨_,(Jh (Jv (Jk qE (hrM hr) rfl (Ja (pxK K (YC (K:=K) rfl (pv 0) rfl) (ZR V5 Ji)) Je)))),(JL (Jt (Jb (Jn UO (Jel TD (Jc 0)) (Jem ZZ Jm)) Jg)))⟩
theorem JfO:FnScope ["pairs"] ["pairs"] (Jj Zf):=by walk_at "c"
theorem JfB{f:Qd}{fd:Qz}(F:Fun K "_law_text" "_law_text" Zf f fd)(qH:mg "str"=none):FnOk P w K mg base CX0 1 f fd ["pairs"] (spE K C 1 J3) :=
 okE F JfO rfl fun _ _ _ _ _ _ hr hu=>⟨_,(Jh (Jv (Jp (Js (K:=K) rfl) (Ym (K:=K) rfl Q7 Rg Rh (Jfq (K:=K) rfl) JQ (Ja (Jp (Js (K:=K) rfl) (YW (Ja JQ Je)) (YJ (N':=["begin","length"]) (imp:=[none,none]) rfl (piK K (pv 0)) (JaP rfl rfl) (fun _ _ _ _=>(JR (K:=K) (n:=2) rfl rfl (Jo (pgN 0 ZL) (Jo (pgN 1 ZL) JS)) rfl rfl)) (fun _ _ _ _=>J7) (fun _ _ _ _=>(Jp (Js (K:=K) rfl) (Jp (Js (K:=K) rfl) (Jp (Js (K:=K) rfl) JQ (Yo U1 rfl qH Jac (Ja (pv 0) Je))) JQ) (Yo U1 rfl qH Jac (Ja (pv 1) Je)))))) Je)) JQ))),(JL (Jn JK (JaU JkX Yb (Jb (Jn JK (US (Jb Yb Jg)) (YX (Zb (Jc 0)) (YV (JC (JZ 0) (JC (JZ 1) YU)) rfl) UT (Jn JK (Jn JK (Jn JK Yb (YB JcH (Jb (Jc 0) Jg))) Yb) (YB JcH (Jb (Jc 1) Jg))) rfl)) Jg)) Yb))⟩
theorem sc_check_stretches:FnScope ["stretches","behind","begin","length"] ["stretches"] (Jj Up):=by walk_at "c"
theorem W5{f:Qd}{fd:Qz}(F:Fun K "check_stretches" "check_stretches" Up f fd) :FnOk P w K mg base CX0 1 f fd ["stretches"] (Jev K):=by
 refine F.ok sc_check_stretches (fun vs H Q E h=>?_) (fun cdv A outer s H vs Q E hr h=>?_)
 ·obtain⟨v,ps,rfl,_⟩:=h;rfl
 ·obtain⟨v,ps,rfl,⟨a,vs,rfl,hq,hp⟩,g,q⟩:=h;have hu:=hr.units;refine⟨_,(Jf (psN 1 sc_check_stretches.nd JU)
   (Jh (Um Gh rfl (piK K (pv 0)) (JR (K:=K) (n:=2) rfl rfl (Jo (JM (i:=2) sc_check_stretches.nd rfl (.inl rfl)) (Jo (JM (i:=3) sc_check_stretches.nd rfl (.inl rfl)) JS)) rfl rfl) (Jf (J1 (Jr Wa (pv 3) Ji (Jy _)) (Jh YM) JF)
   (Jf (J1 (PW.pt (V0 (Jr ZP (pv 1) JU (Jy _)) (UY (Jr Jlc (pv 2) (pv 1) (Jy _))))) (Jh YM) JF)
   (Jh (psN 1 sc_check_stretches.nd (Jp (Jig (K:=K) rfl) (pv 2) (pv 3))))))))),?_⟩
  walk_at "rd";refine JjH (H1:=H) (a:=a) (xs:=vs) (fun R r=>⟨_,rfl,r⟩) hq
   (fun i σ' H'=>∃vb vl,σ'=[some (.ref a),some (Jhw ps i),vb,vl]/\H'=H) ⟨none,none,rfl,rfl⟩ (fun i σ' H' ⟨_,_,_,e⟩=>e▸Same.refl _) ?_ ?_
  ·rintro i x σ' H' hi ⟨vb,vl,rfl,rfl⟩;obtain⟨p,b,e1,rfl,sp⟩:=hp.at hi;refine Jiq sp rfl ?_;walk_at "rd";refine ifd (fun hlt=>absurd (g.one i p e1) (by omega)) (fun _=>?_);walk_at "rd"
   cases i with
   | zero=>refine ifF rfl ?_;refine ifF rfl ?_;walk_at "rd";exact⟨_,_,by rw[Wk e1];rfl,rfl⟩
   | succ j =>
    obtain⟨q1,e2⟩:∃q1,ps[j]?=some q1:=⟨ps[j]'(by have:=(Qn.mp e1).1;omega),by have:=(Qn.mp e1).1;simp[show j<ps.length by omega]⟩
    rw[Wk e2];refine ifT rfl ?_;walk_at "rd";refine ifd (fun hle=>absurd (g.gap j q1 p e2 e1) (by omega)) (fun _=>?_);walk_at "rd";exact⟨_,_,by rw[Wk e1];rfl,rfl⟩
  ·rintro σ' H' ⟨vb,vl,rfl,rfl⟩;exact q _ (Same.refl _)
theorem JfM:FnScope ["self","stretches"] ["self","stretches"] (Jj W9):=by walk_at "c"
theorem Jfw{f:Qd}{fd:Qz}(F:Fun K "__init__" "Row.__init__" W9 f fd)(wx:mg "tuple"=none)(qb:mg "len"=none)(qe:GV mg "MOST_STRETCHES" (.int 30))(qr:Cal P w K mg base "check_stretches" 1 ["stretches"] (Jev K))(T:RowC K C):FnOk P w K mg base CX0 2 f fd ["self","stretches"] (V4 C K):=by
 refine F.ok JfM (fun vs H Q E h=>?_) (fun cdv A outer s H vs Q E hr h=>?_)
 ·obtain⟨x,dx,v,ps,rfl,_⟩:=h;rfl
 ·obtain⟨x,dx,v,ps,rfl,hx,⟨a,vs,rfl,hq,hp⟩,g,hl,q⟩:=h;have hu:=hr.units;refine⟨_,(Jf (J1 (Jr JaI (JE (J9 (K:=K) rfl) rfl qb Ui (Ja (pv 1) Je)) (Ve rfl qe) (Jy _)) (Jh YM) JF)
   (Jf (Yw (Jk qr (hrM hr) rfl (Ja (pv 1) Je)))
   (Jh (Jef (K:=K) rfl (pv 0) (Yo (JeN (K:=K) rfl) rfl wx Jj3 (Ja (YJ (N':=["begin","length"]) (imp:=[none,none]) rfl (piK K (pv 1)) (JaP rfl rfl) (fun _ _ _ _=>(JR (K:=K) (n:=2) rfl rfl (Jo (pgN 0 ZL) (Jo (pgN 1 ZL) JS)) rfl rfl)) (fun _ _ _ _=>J7) (fun _ _ _ _=>(Ub (Ja (pv 0) (Ja (pv 1) Je))))) Je)) rfl)))),?_⟩
  have hn:=hp.len;walk_at "rd";refine JfK hq ?_;walk_at "rd";refine ifd (fun hgt=>absurd hl (by omega)) (fun _=>?_);walk_at "rd";refine Jkb ⟨a,vs,rfl,hq,hp⟩ g fun H1 s1=>?_
  walk_at "rd";refine Jg3 (H1:=H1) (a:=a) (xs:=vs) (fun R r=>⟨_,rfl,r⟩) (hq.imp s1.seq s1.seqT) (Kc (JjM (by omega)))
   (fun i ys σ' H'=>∃vb vl,σ'=[vb,vl]/\Same H1 H'/\Prs K H' ys (ps.take i)) ⟨none,none,rfl,Same.refl _,by rw[List.take_zero];exact RepL.nil⟩
   (fun i ys σ' H' ⟨_,_,_,_,r⟩=>by have:=r.len;rw[this,Lc];omega) (fun i ys σ' H' ⟨_,_,_,s',_⟩=>s') ?_ ?_
  ·rintro i ys y σ' H' hi ⟨vb,vl,rfl,s',r⟩;obtain⟨p,b,e1,rfl,sp⟩:=Prs.at (K:=K) (ps:=ps) (RepL.mono (s1.trans s') hp) hi;refine Jiq sp rfl ?_;walk_at "rd";refine ifT rfl ?_;walk_at "rd";refine Jpf sz2 fun t H2 nt s2 ht=>?_
   refine⟨_,_,rfl,s'.trans s2,?_⟩;rw[Ms,e1];exact Prs.snoc (RepL.mono s2 r) (JnN ht)
  ·rintro ys σ' H' ⟨vb,vl,rfl,s',r⟩ l H2 nl s2 hl2;walk_at "rd";refine JjI (.of hl2) fun t H3 nt s3 ht=>?_
   walk_at "rd";have sA:Same H H3:=((s1.trans s').trans s2).trans s3;refine⟨x,C,dx,[],rfl,sA _ _ hx,T.cl,T.ns,by decide,?_⟩;rw[hn,MM] at r;have r3:Prs K H3 ys ps:=RepL.mono (s2.trans s3) r;have ntx:t≠x:=Jk7 ht (sA _ _ hx) (by intro z;cases z);refine q _ t ys (sA.ex_trans SameEx.upd) (by rw[Jlp];exact Jw) (by rw[Jl ntx];exact ht) ?_;exact Prs.monoIns SameEx.upd (sA _ _ hx) r3
theorem Jep:FnScope ["row","layers"] ["row","layers"] (Jj Wz):=by walk_at "c"
theorem Jd5{f:Qd}{fd:Qz}(F:Fun K "by_layers" "by_layers" Wz f fd)(qa:mg "enumerate"=none)(T:RowC K C):FnOk P w K mg base CX0 1 f fd ["row","layers"] (spE K C 2 Yq) :=
 okE F Jep rfl fun _ _ _ _ _ _ hr hu=>⟨_,(Jh (Jv (YJ (N':=["ahead","stretch","layers"]) (imp:=[none,none,some 1]) rfl (JbU (K:=K) rfl rfl qa (Ja (YC (K:=K) rfl (pv 0) rfl) Je)) (JiR (own:=["ahead","stretch"]) (fr:=[("layers",1)]) rfl rfl rfl ⟨rfl,trivial⟩ rfl ⟨⟨rfl,rfl,rfl⟩,trivial⟩) (fun _ _ _ _=>(JR (K:=K) (n:=2) rfl rfl (Jo (pgN 0 Jsi) (Jo (pgN 1 Jsi) JS)) rfl rfl)) (fun _ _ _ _=>J7) (fun _ _ _ _=>(Ub (Ja (Jp (Js (K:=K) rfl) (pxK K (pv 1) Ji) (Jp W6 (Jp W6 Ji (pv 2)) (pv 0))) (Ja (Jp (Js (K:=K) rfl) (pxK K (pv 1) Ji) (pv 2)) Je))))))),(JL (YX (Jek (Jb (VM T (Jc 0)) Jg)) (YV (JC (JZ 0) (JC (JZ 1) YU)) rfl) UT (Vp (Jb (Jn JK (Jn UO (Jc 1) Jm) (Jn JbL (Jn JbL Jm (Jc 2)) (Jc 0))) (Jb (Jn JK (Jn UO (Jc 1) Jm) (Jc 2)) Jg))) rfl))⟩
theorem Jes:FnScope ["row","layers"] ["row","layers"] (Jj WF):=by walk_at "c"
theorem Jea{f:Qd}{fd:Qz}(F:Fun K "thickened" "thickened" WF f fd)(qC:CalM P w K mg base "Row" C 2 ["self","stretches"] (V4 C K))(qo:Cal P w K mg base "by_layers" 1 ["row","layers"] (spE K C 2 Yq)):FnOk P w K mg base CX0 4 f fd ["row","layers"] (spE K C 2 Y1) :=
 okE F Jes rfl fun _ _ _ _ _ _ hr hu=>⟨_,(Jh (Jv (Vf qC (hrM hr) rfl (Ja (Jk qo (hrM hr) rfl (Ja (pv 0) (Ja (pv 1) Je))) Je)))),(JL (Jc5 (Jb (Jt (Jb (Jc 0) (Jb (Jc 1) Jg))) Jg)))⟩
theorem Jb2:FnScope ["row","place"] ["row","place"] (Jj Vv):=by walk_at "c"
theorem JbM{f:Qd}{fd:Qz}(F:Fun K "balls_below" "balls_below" Vv f fd)(ql:mg "sum"=none)(wI:mg "max"=none)(qt:mg "min"=none)(T:RowC K C):FnOk P w K mg base CX0 1 f fd ["row","place"] (spE K C 2 YO) :=
 okE F Jb2 rfl fun _ _ _ _ _ _ hr hu=>⟨_,(Jh (Jv (JE (Uc (K:=K) rfl rfl) rfl ql Wl (Ja (YJ (N':=["begin","length","place"]) (imp:=[none,none,some 1]) rfl (piK K (YC (K:=K) rfl (pv 0) rfl)) (JiR (own:=["begin","length"]) (fr:=[("place",1)]) rfl rfl rfl ⟨rfl,trivial⟩ rfl ⟨⟨rfl,rfl,rfl⟩,trivial⟩) (fun _ _ _ _=>(JR (K:=K) (n:=2) rfl rfl (Jo (pgN 0 Jnt) (Jo (pgN 1 Jnt) JS)) rfl rfl)) (fun _ _ _ _=>J7) (fun _ _ _ _=>(JE (Ji2 rfl) rfl wI Jpk (Ja Ji (Ja (JE (U0 rfl) rfl qt WW (Ja (pv 1) (Ja (Jp YI (pv 2) (pv 0)) Je))) Je))))) Je)))),(JL (YB JaA (Jb (YX (Zb (VM T (Jc 0))) (YV (JC (JZ 0) (JC (JZ 1) YU)) rfl) UT (YB JrN (Jb Jm (Jb (YB JcG (Jb (Jc 1) (Jb (Jn Ul (Jc 2) (Jc 0)) Jg))) Jg))) rfl) Jg)))⟩
theorem sc_ended_at:FnScope ["row","spots","stretches","counted","ahead","spot","below","balls"] ["row","spots"] (Jj Za):=by walk_at "c"
theorem Jfx{f:Qd}{fd:Qz}(F:Fun K "ended_at" "ended_at" Za f fd)(qa:mg "enumerate"=none)(qI:Cal P w K mg base "balls_below" 1 ["row","place"] (spE K C 2 YO)):FnOk P w K mg base CX0 2 f fd ["row","spots"] (spE K C 2 UF) :=
 okE F sc_ended_at rfl fun _ _ _ _ _ _ hr hu=>⟨_,(Jf (psN 2 sc_ended_at.nd (YW Je))
  (Jf (psN 3 sc_ended_at.nd Ji)
  (Jf (Um Gh rfl (JbU (K:=K) rfl rfl qa (Ja (pv 1) Je)) (JR (K:=K) (n:=2) rfl rfl (Jo (JM (i:=4) sc_ended_at.nd rfl (.inl rfl)) (Jo (JM (i:=5) sc_ended_at.nd rfl (.inl rfl)) JS)) rfl rfl) (Jf (psN 6 sc_ended_at.nd (Jk qI (hrM hr) rfl (Ja (pv 0) (Ja (pv 5) Je))))
  (Jf (psN 7 sc_ended_at.nd (Jp YI (pv 6) (pv 3)))
  (Jf (Yw (Ym (K:=K) rfl QZ Gw Gx Uf (pv 2) (Ja (Ub (Ja (Jp YI (Jp (Js (K:=K) rfl) (pv 5) (Jp W6 Ji (pv 4))) (pv 7)) (Ja (Jp (Js (K:=K) rfl) (pv 7) Ji) Je))) Je)))
  (Jh (psN 3 sc_ended_at.nd (pv 6)))))))
  (Jh (Jv (pv 2)))))),(Jq (We (US Jg))
  (Jq (JB Jm)
  (Jq (Wd (Jek (Jb (Jc 1) Jg)) (YV (JC (JZ 4) (JC (JZ 5) YU)) rfl) (Jq (JB (Jt (Jb (Jc 0) (Jb (Jc 5) Jg))))
  (Jq (JB (Jn Ul (Jc 6) (Jc 3)))
  (Jq (Jck (Vp (Jb (Jn Ul (Jn JK (Jc 5) (Jn JbL Jm (Jc 4))) (Jc 7)) (Jb (Jn JK (Jc 7) Jm) Jg))))
  (JB (Jc 6))))))
  VC)))⟩
theorem sc_put_in:FnScope ["row","pairs","spots","spot","number"] ["row","pairs"] (Jj JbY):=by walk_at "c"
theorem Jjv{f:Qd}{fd:Qz}(F:Fun K "put_in" "put_in" JbY f fd)(wp:mg "sorted"=none)(qb:mg "len"=none)(ql:mg "sum"=none)(qe:GV mg "MOST_STRETCHES" (.int 30))(qC:CalM P w K mg base "Row" C 2 ["self","stretches"] (V4 C K))(qZ:Cal P w K mg base "ended_at" 2 ["row","spots"] (spE K C 2 UF))(T:RowC K C):FnOk P w K mg base CX0 4 f fd ["row","pairs"] (spE K C 2 U2) :=
 okE F sc_put_in rfl fun _ _ _ _ _ _ hr hu=>⟨_,(Jf (J1 (Jr JaI (Jp (Js (K:=K) rfl) (JE (J9 (K:=K) rfl) rfl qb Ui (Ja (YC (K:=K) rfl (pv 0) rfl) Je)) (JE (Uc (K:=K) rfl rfl) rfl ql Wl (Ja (YJ (N':=["spot","number"]) (imp:=[none,none]) rfl (piK K (pv 1)) (JaP rfl rfl) (fun _ _ _ _=>(JR (K:=K) (n:=2) rfl rfl (Jo (pgN 0 Jsj) (Jo (pgN 1 Jsj) JS)) rfl rfl)) (fun _ _ _ _=>J7) (fun _ _ _ _=>(pv 1))) Je))) (Ve rfl qe) (Jy _)) (Jh YM) JF)
  (Jf (W8 (i:=2) (N':=["begin","length"]) (imp:=[none,none]) sc_put_in.nd rfl (.inl rfl) rfl (piK K (YC (K:=K) rfl (pv 0) rfl)) (JaP rfl rfl) (fun _ _ _ _=>(JR (K:=K) (n:=2) rfl rfl (Jo (pgN 0 ZL) (Jo (pgN 1 ZL) JS)) rfl rfl)) (fun _ _ _ _=>J7) (fun _ _ _ _=>(Jp (Js (K:=K) rfl) (pv 0) (pv 1))) rfl (.inl rfl))
  (Jf (Um Gh rfl (piK K (pv 1)) (JR (K:=K) (n:=2) rfl rfl (Jo (JM (i:=3) sc_put_in.nd rfl (.inl rfl)) (Jo (JM (i:=4) sc_put_in.nd rfl (.inl rfl)) JS)) rfl rfl) (Jh (Yw (Ym (K:=K) rfl QZ MI MJ JcZ (pv 2) (Ja (Jp JqA (YW (Ja (pv 3) Je)) (pv 4)) Je)))))
  (Jh (Jv (Vf qC (hrM hr) rfl (Ja (Jk qZ (hrM hr) rfl (Ja (pv 0) (Ja (JE (Jdq (K:=K) rfl rfl) rfl wp JiT (Ja (pv 2) Je)) Je))) Je))))))),(Jq (Y8 (JD (Jn JgR (Jn JK (YB VD (Jb (VM T (Jc 0)) Jg)) (YB JaA (Jb (YX (Zb (Jc 1)) (YV (JC (JZ 0) (JC (JZ 1) YU)) rfl) UT (Jc 1) rfl) Jg))) Jm)) UE JV)
  (Jq (We (YX (Zb (VM T (Jc 0))) (YV (JC (JZ 0) (JC (JZ 1) YU)) rfl) UT (Jn JK (Jc 0) (Jc 1)) rfl))
  (Jq (Wd (Jn7 1) (YV (JC (JZ 3) (JC (JZ 4) YU)) rfl) (Jo7 (Jn Jsq (US (Jb (Jc 3) Jg)) (Jc 4))))
  (JL (Jc5 (Jb (Jt (Jb (Jc 0) (Jb (YB Jj6 (Jb (Jc 2) Jg)) Jg))) Jg))))))⟩
theorem sc_check_table:FnScope ["table","ahead","size","spot","number"] ["table"] (Jj Vy):=by walk_at "c"
theorem JbP{f:Qd}{fd:Qz}(F:Fun K "check_table" "check_table" Vy f fd)(ql:mg "sum"=none)(qP:GV mg "MOST_LUMPS" (.int 30)):FnOk P w K mg base CX0 1 f fd ["table"] (spE K C 1 Yj) :=
 okE F sc_check_table rfl fun _ _ _ _ _ _ hr hu=>⟨_,(Jf (psN 1 sc_check_table.nd JU)
  (Jf (Um Gh rfl (piK K (pv 0)) (JR (K:=K) (n:=3) rfl rfl (Jo (JM (i:=2) sc_check_table.nd rfl (.inl rfl)) (Jo (JM (i:=3) sc_check_table.nd rfl (.inl rfl)) (Jo (JM (i:=4) sc_check_table.nd rfl (.inl rfl)) JS))) rfl rfl) (Jf (J1 (PW.pt (JaL (Jr Wa (pv 2) Ji (Jy _)) (Jao (Jr Wa (pv 4) Ji (Jy _))))) (Jh YM) JF)
  (Jf (J1 (PW.pt (V0 (Jr ZP (pv 1) JU (Jy _)) (UY (Jr (Jqx (K:=K) rfl (Km (LL _ 64) hu)) (Ub (Ja (pv 2) (Ja (pv 3) Je))) (pv 1) (Jy _))))) (Jh YM) JF)
  (Jh (psN 1 sc_check_table.nd (Ub (Ja (pv 2) (Ja (pv 3) Je))))))))
  (Jh (J1 (Jr JaI (JE (Uc (K:=K) rfl rfl) rfl ql Wl (Ja (YJ (N':=["size","spot","number"]) (imp:=[none,none,none]) rfl (piK K (pv 0)) (JaP rfl rfl) (fun _ _ _ _=>(JR (K:=K) (n:=3) rfl rfl (Jo (pgN 0 Jqh) (Jo (pgN 1 Jqh) (Jo (pgN 2 Jqh) JS))) rfl rfl)) (fun _ _ _ _=>J7) (fun _ _ _ _=>(pv 2))) Je)) (Ve rfl qP) (Jy _)) (Jh YM) JF)))),(Jq (JB Yx)
  (Jq (Wd (Jn7 0) (YV (JC (JZ 2) (JC (JZ 3) (JC (JZ 4) YU))) rfl) (Jq (Y8 (Jb1 (JD (Jn JbK (Jc 2) Jm)) (JD (Jn JbK (Jc 4) Jm))) UE JV)
  (Jq (Y8 (WE (JD (Jn Jd0 (Jc 1) Yx)) (JD (Jn Jsp (Vp (Jb (Jc 2) (Jb (Jc 3) Jg))) (Jc 1)))) UE JV)
  (JB (Vp (Jb (Jc 2) (Jb (Jc 3) Jg)))))))
  (Y8 (JD (Jn JgR (YB JaA (Jb (YX (Zb (Jc 0)) (YV (JC (JZ 0) (JC (JZ 1) (JC (JZ 2) YU))) rfl) UT (Jc 2) rfl) Jg)) Jm)) UE JV)))⟩
theorem sc_row_of:FnScope ["table","lumps","size","spot","number","sizes","row","lesser"] ["table"] (Jj JbZ):=by walk_at "c"
theorem Jjw{f:Qd}{fd:Qz}(F:Fun K "row_of" "row_of" JbZ f fd)(q9:mg "reversed"=none)(wa:mg "list"=none)(ww:mg "zip"=none)(qR:Cal P w K mg base "thickened" 4 ["row","layers"] (spE K C 2 Y1))(wq:Cal P w K mg base "put_in" 4 ["row","pairs"] (spE K C 2 U2))(qC:CalM P w K mg base "Row" C 2 ["self","stretches"] (V4 C K))(qj:Cal P w K mg base "check_table" 1 ["table"] (spE K C 1 Yj)):FnOk P w K mg base CX0 5 f fd ["table"] (spE K C 1 VF) :=
 okE F sc_row_of rfl fun _ _ _ _ _ _ hr hu=>⟨_,(Jf (Yw (Jk qj (hrM hr) rfl (Ja (pv 0) Je)))
  (Jf (psN 1 sc_row_of.nd JfF)
  (Jf (Um Gh rfl (piK K (pv 0)) (JR (K:=K) (n:=3) rfl rfl (Jo (JM (i:=2) sc_row_of.nd rfl (.inl rfl)) (Jo (JM (i:=3) sc_row_of.nd rfl (.inl rfl)) (Jo (JM (i:=4) sc_row_of.nd rfl (.inl rfl)) JS))) rfl rfl) (Jh (Yw (Ym (K:=K) rfl QZ Gw Gx Uf (Jlg (pv 1) (pv 2) (YW Je) ⟨rfl,rfl,rfl,rfl⟩) (Ja (Ub (Ja (pv 3) (Ja (pv 4) Je))) Je)))))
  (Jf (psN 5 sc_row_of.nd (Yo (Jgn rfl) rfl wa Jdm (Ja (pv 1) Je)))
  (Jf (psN 6 sc_row_of.nd (Vf qC (hrM hr) rfl (Ja (YW Je) Je)))
  (Jf (Um Gh rfl (JnJ (K:=K) rfl rfl q9 (Ja (JfG (K:=K) rfl rfl rfl wa rfl ww (Ja (Jp (Js (K:=K) rfl) (YW (Ja Ji Je)) (pv 5)) (Ja (pv 5) Je))) Je)) (JR (K:=K) (n:=2) rfl rfl (Jo (JM (i:=7) sc_row_of.nd rfl (.inl rfl)) (Jo (JM (i:=2) sc_row_of.nd rfl (.inl rfl)) JS)) rfl rfl) (Jh (psN 6 sc_row_of.nd (Jk qR (hrM hr) rfl (Ja (Jk wq (hrM hr) rfl (Ja (pv 6) (Ja (JnE (JkH hr) (pv 1) (pv 2) (fun _ _=>rfl)) Je))) (Ja (Jp YI (Jp YI (pv 2) (pv 7)) Ji) Je))))))
  (Jh (Jv (pv 6))))))))),(Jq (Jht (Jt (Jb (Jc 0) Jg)))
  (Jq (We JlI)
  (Jq (JsX (Jn7 0) (JpH (JdH (JkB (by decide)) (JdH (JkB (by decide)) (JdH (JkB (by decide)) JpG))) rfl) (Jc 2) (Vp (Jb (Jc 3) (Jb (Jc 4) Jg))))
  (Jq (JB (Jn8 (Jc 1)))
  (Jq (JB (Jc5 (Jb (US Jg) Jg)))
  (Jq (Wd (Jrc (Jb (Jrg (Jb (Jn JK (US (Jb Jm Jg)) (Jc 5)) (Jb (Jc 5) Jg))) Jg)) (YV (JC (JZ 7) (JC (JZ 2) YU)) rfl) (JB (Jt (Jb (Jt (Jb (Jc 6) (Jb (JsM (Jc 1) (Jc 2)) Jg))) (Jb (Jn Ul (Jn Ul (Jc 2) (Jc 7)) Jm) Jg)))))
  VC))))))⟩
theorem JfP:FnScope ["size","seats"] ["size","seats"] (Jj Zi):=by walk_at "c"
theorem JfD{f:Qd}{fd:Qz}(F:Fun K "share_of" "share_of" Zi f fd)(qt:mg "min"=none):FnOk P w K mg base CX0 1 f fd ["size","seats"] (spE K C 2 UI) :=
 okE F JfP rfl fun _ _ _ _ _ _ hr hu=>⟨_,(Jh (Jv (UK (Jr UW (pv 1) JU (Jy _)) (pv 0) (JE (U0 rfl) rfl qt WW (Ja (pv 0) (Ja (pv 1) Je)))))),(JL (JaM (JD (Jn JdZ (Jc 1) Yx)) (Jc 0) (YB JcG (Jb (Jc 0) (Jb (Jc 1) Jg)))))⟩
theorem Jb3:FnScope ["seats"] ["seats"] (Jj Vx):=by walk_at "c"
theorem JbO{f:Qd}{fd:Qz}(F:Fun K "check_seats" "check_seats" Vx f fd) :FnOk P w K mg base CX0 1 f fd ["seats"] (spE K C 1 YR) :=
 okE F Jb3 rfl fun _ _ _ _ _ _ hr hu=>⟨_,(Jh (J1 (PW.pt (V0 (Jr ZP (pv 0) JU (Jy _)) (UY (Jr Wa (pv 0) Ji (Jy _))))) (Jh YM) JF)),(Y8 (WE (JD (Jn Jd0 (Jc 0) Yx)) (JD (Jn JbK (Jc 0) Jm))) UE JV)⟩
theorem Jhc:FnScope ["table","seats","times"] ["table","seats","times"] (Jj Jau):=by walk_at "c"
theorem JgX{f:Qd}{fd:Qz}(F:Fun K "shifted" "shifted" Jau f fd)(wb:Cal P w K mg base "share_of" 1 ["size","seats"] (spE K C 2 UI))(qj:Cal P w K mg base "check_table" 1 ["table"] (spE K C 1 Yj))(qJ:Cal P w K mg base "check_seats" 1 ["seats"] (spE K C 1 YR)):FnOk P w K mg base CX0 2 f fd ["table","seats","times"] (spE K C 3 U8) :=
 okE F Jhc rfl fun _ _ _ _ _ _ hr hu=>⟨_,(Jf (Yw (Jk qJ (hrM hr) rfl (Ja (pv 1) Je)))
  (Jf (Yw (Jk qj (hrM hr) rfl (Ja (pv 0) Je)))
  (Jh (Jv (YJ (N':=["size","spot","number","times","seats"]) (imp:=[none,none,none,some 2,some 1]) rfl (piK K (pv 0)) (JiR (own:=["size","spot","number"]) (fr:=[("times",2),("seats",1)]) rfl rfl rfl ⟨rfl,rfl,trivial⟩ rfl ⟨⟨rfl,rfl,rfl⟩,⟨rfl,rfl,rfl⟩,trivial⟩) (fun _ _ _ _=>(JR (K:=K) (n:=3) rfl rfl (Jo (pgN 0 Jqi) (Jo (pgN 1 Jqi) (Jo (pgN 2 Jqi) JS))) rfl rfl)) (fun _ _ _ _=>J7) (fun _ _ _ _=>(Ub (Ja (pv 0) (Ja (Jp (Js (K:=K) rfl) (pv 1) (Jp JnB (pv 3) (Jk wb (hrM hr) rfl (Ja (pv 0) (Ja (pv 4) Je))))) (Ja (pv 2) Je)))))))))),(Jq (Jht (Jt (Jb (Jc 1) Jg)))
  (Jq (Jht (Jt (Jb (Jc 0) Jg)))
  (JL (YX (Zb (Jc 0)) (YV (JC (JZ 0) (JC (JZ 1) (JC (JZ 2) YU))) rfl) UT (Vp (Jb (Jc 0) (Jb (Jn JK (Jc 1) (Jn Jql (Jc 3) (Jt (Jb (Jc 0) (Jb (Jc 4) Jg))))) (Jb (Jc 2) Jg)))) rfl))))⟩
theorem sc_closed_up:FnScope ["pairs","stretches","begin","length","ahead"] ["pairs"] (Jj WA):=by walk_at "c"
theorem Jd6{f:Qd}{fd:Qz}(F:Fun K "closed_up" "closed_up" WA f fd)(ql:mg "sum"=none):FnOk P w K mg base CX0 1 f fd ["pairs"] (spE K C 1 YZ) :=
 okE F sc_closed_up rfl fun _ _ _ _ _ _ hr hu=>⟨_,(Jf (psN 1 sc_closed_up.nd (YW Je))
  (Jf (Um Gh rfl (piK K (pv 0)) (JR (K:=K) (n:=2) rfl rfl (Jo (JM (i:=2) sc_closed_up.nd rfl (.inl rfl)) (Jo (JM (i:=3) sc_closed_up.nd rfl (.inl rfl)) JS)) rfl rfl) (Jh (J1 (PW.pt (V0 (Uo (K:=K) rfl (pv 1) (fun _=>rfl)) (UY (Jr (Vd (K:=K) rfl hu) (JE (Uc (K:=K) rfl rfl) rfl ql Wl (Ja (pxK K (pv 1) (ZR V5 Ji)) Je)) (pv 2) (Jy _))))) (Jf (psN 4 sc_closed_up.nd (Jec (K:=K) rfl QZ LG LH JgO (pv 1)))
  (Jh (Yw (Ym (K:=K) rfl QZ Gw Gx Uf (pv 1) (Ja (Ub (Ja (pxK K (pv 4) Ji) (Ja (Jp (Js (K:=K) rfl) (pxK K (pv 4) Ji) (pv 3)) Je))) Je))))) (Jh (J1 (Jr JaI (pv 3) Ji (Jy _)) (Jh (Yw (Ym (K:=K) rfl QZ Gw Gx Uf (pv 1) (Ja (Ub (Ja (pv 2) (Ja (pv 3) Je))) Je)))) JF)))))
  (Jh (Jv (pv 1))))),(Jq (We (US Jg))
  (Jq (Wd (Jn7 0) (YV (JC (JZ 2) (JC (JZ 3) YU)) rfl) (Y8 (WE (JaN (Jc 1)) (JD (Jn JbJ (YB JaA (Jb (Jn UO (Jc 1) (Jem ZZ Jm)) Jg)) (Jc 2)))) (Jq Jpa
  (Jck (Vp (Jb (Jn UO (Jc 4) Jm) (Jb (Jn JK (Jn UO (Jc 4) Jm) (Jc 3)) Jg))))) (Y8 (JD (Jn JgR (Jc 3) Jm)) (Jck (Vp (Jb (Jc 2) (Jb (Jc 3) Jg)))) JV)))
  VC))⟩
theorem Jha:FnScope ["row"] ["row"] (Jj Jar):=by walk_at "c"
theorem JgU{f:Qd}{fd:Qz}(F:Fun K "gaps_of" "gaps_of" Jar f fd)(ql:mg "sum"=none)(ww:mg "zip"=none)(T:RowC K C):FnOk P w K mg base CX0 1 f fd ["row"] (spE K C 1 U5) :=
 okE F Jha rfl fun _ _ _ _ _ _ hr hu=>⟨_,(Jh (Jv (YJ (N':=["left","right"]) (imp:=[none,none]) rfl (JnL (K:=K) rfl rfl ww (Ja (YC (K:=K) rfl (pv 0) rfl) (Ja (UL (Jet (K:=K) rfl) (YC (K:=K) rfl (pv 0) rfl) (Vo Ji) Vn) Je))) (JaP rfl rfl) (fun _ _ _ _=>(JR (K:=K) (n:=2) rfl rfl (Jo (pgN 0 Jsk) (Jo (pgN 1 Jsk) JS)) rfl rfl)) (fun _ _ _ _=>J7) (fun _ _ _ _=>(Jp YI (pxK K (pv 1) Ji) (JE (Uc (K:=K) rfl rfl) rfl ql Wl (Ja (pv 0) Je))))))),(JL (YX (Jrd (Jb (VM T (Jc 0)) (Jb (Jrf (VM T (Jc 0)) (Wu Jm) Wt) Jg))) (YV (JC (JZ 0) (JC (JZ 1) YU)) rfl) UT (Jn Ul (Jn UO (Jc 1) Jm) (YB JaA (Jb (Jc 0) Jg))) rfl))⟩
theorem Jeq:FnScope ["row"] ["row"] (Jj WB):=by walk_at "c"
theorem Jd7{f:Qd}{fd:Qz}(F:Fun K "closes_at" "closes_at" WB f fd)(qt:mg "min"=none)(wg:Cal P w K mg base "gaps_of" 1 ["row"] (spE K C 1 U5))(T:RowC K C):FnOk P w K mg base CX0 2 f fd ["row"] (spE K C 1 Yh) :=
 okE F Jeq rfl fun _ _ _ _ _ _ hr hu=>⟨_,(Jh (Jv (Jjz (Jgq (K:=K) rfl rfl) rfl qt WW (Ja (Jp (Js (K:=K) rfl) (YJ (N':=["begin","length"]) (imp:=[none,none]) rfl (piK K (YC (K:=K) rfl (pv 0) rfl)) (JaP rfl rfl) (fun _ _ _ _=>(JR (K:=K) (n:=2) rfl rfl (Jo (pgN 0 ZL) (Jo (pgN 1 ZL) JS)) rfl rfl)) (fun _ _ _ _=>J7) (fun _ _ _ _=>(pv 1))) (Jk wg (hrM hr) rfl (Ja (pv 0) Je))) Je) JU))),(JL (YB Jpn (Jb (Jn JK (YX (Zb (VM T (Jc 0))) (YV (JC (JZ 0) (JC (JZ 1) YU)) rfl) UT (Jc 1) rfl) (Jt (Jb (Jc 0) Jg))) Jg)))⟩
theorem sc_thinned:FnScope ["row","layers","left","still","at_once"] ["row","layers"] (Jj Jav):=by walk_at "c"
theorem JgY{f:Qd}{fd:Qz}(F:Fun K "thinned" "thinned" Jav f fd)(qt:mg "min"=none)(qC:CalM P w K mg base "Row" C 2 ["self","stretches"] (V4 C K))(qS:Cal P w K mg base "closed_up" 1 ["pairs"] (spE K C 1 YZ))(qo:Cal P w K mg base "by_layers" 1 ["row","layers"] (spE K C 2 Yq))(qp:Cal P w K mg base "closes_at" 2 ["row"] (spE K C 1 Yh))(T:RowC K C):FnOk P w K mg base CX0 4 f fd ["row","layers"] (spE K C 2 Yz) :=
 okE F sc_thinned rfl fun _ _ _ _ _ _ hr hu=>⟨_,(Jf (psN 2 sc_thinned.nd (Vf qC (hrM hr) rfl (Ja (YC (K:=K) rfl (pv 0) rfl) Je)))
  (Jf (psN 3 sc_thinned.nd (pv 1))
  (Jf (JfJ Gh (PW.pt (V0 (Jr JaI (pv 3) Ji (Jy _)) (UY (Uo (K:=K) rfl (YC (K:=K) rfl (pv 2) rfl) (fun _=>rfl))))) (Jf (psN 4 sc_thinned.nd (JE (U0 rfl) rfl qt WW (Ja (pv 3) (Ja (Jk qp (hrM hr) rfl (Ja (pv 2) Je)) Je))))
  (Jf (psN 2 sc_thinned.nd (Vf qC (hrM hr) rfl (Ja (Jk qS (hrM hr) rfl (Ja (Jk qo (hrM hr) rfl (Ja (pv 2) (Ja (ZR V5 (pv 4)) Je))) Je)) Je)))
  (Jh (Jln (i:=3) sc_thinned.nd rfl (.inl rfl) (pv 4) JpQ)))))
  (Jh (Jv (pv 2)))))),(Jq (JB (Jc5 (Jb (VM T (Jc 0)) Jg)))
  (Jq (JB (Jc 1))
  (Jq (JiO (WE (JD (Jn JgR (Jc 3) Jm)) (JaN (VM T (Jc 2)))) (Jq (JB (YB JcG (Jb (Jc 3) (Jb (Jt (Jb (Jc 2) Jg)) Jg))))
  (Jq (JB (Jc5 (Jb (Jt (Jb (Jt (Jb (Jc 2) (Jb (Jem ZZ (Jc 4)) Jg))) Jg)) Jg)))
  (Jo6 (Jc 4)))))
  VC)))⟩
theorem Jg9:FnScope ["row","place"] ["row","place"] (Jj Jaq):=by walk_at "c"
theorem JgT{f:Qd}{fd:Qz}(F:Fun K "ball_at" "ball_at" Jaq f fd)(wJ:mg "any"=none)(T:RowC K C):FnOk P w K mg base CX0 1 f fd ["row","place"] (spE K C 2 Uw) :=
 okE F Jg9 rfl fun _ _ _ _ _ _ hr hu=>⟨_,(Jh (Jv (JE (JiX (K:=K) rfl rfl) rfl wJ Jpj (Ja (YJ (N':=["begin","length","place"]) (imp:=[none,none,some 1]) rfl (piK K (YC (K:=K) rfl (pv 0) rfl)) (JiR (own:=["begin","length"]) (fr:=[("place",1)]) rfl rfl rfl ⟨rfl,trivial⟩ rfl ⟨⟨rfl,rfl,rfl⟩,trivial⟩) (fun _ _ _ _=>(JR (K:=K) (n:=2) rfl rfl (Jo (pgN 0 Jnt) (Jo (pgN 1 Jnt) JS)) rfl rfl)) (fun _ _ _ _=>J7) (fun _ _ _ _=>(Jle Jlc Wa (pv 0) (pv 2) (Jp (Js (K:=K) rfl) (pv 0) (pv 1))))) Je)))),(JL (YB JrM (Jb (YX (Zb (VM T (Jc 0))) (YV (JC (JZ 0) (JC (JZ 1) YU)) rfl) UT (Jn5 Jso JbK (Jc 0) (Jc 2) (Jn JK (Jc 0) (Jc 1))) rfl) Jg)))⟩
theorem Jhb:FnScope ["left","spot"] ["left","spot"] (Jj Jat):=by walk_at "c"
theorem JgW{f:Qd}{fd:Qz}(F:Fun K "owed_at" "owed_at" Jat f fd)(qW:Cal P w K mg base "ball_at" 1 ["row","place"] (spE K C 2 Uw)):FnOk P w K mg base CX0 2 f fd ["left","spot"] (spE K C 2 U7) :=
 okE F Jhb rfl fun _ _ _ _ _ _ hr hu=>⟨_,(Jh (Jv (UK (PW.pt (V0 (Uo (K:=K) rfl (Jk qW (hrM hr) rfl (Ja (pv 0) (Ja (Jp YI (pv 1) Ji) Je))) (fun _=>rfl)) (UY (JbW (Uo (K:=K) rfl (Jk qW (hrM hr) rfl (Ja (pv 0) (Ja (pv 1) Je))) (fun _=>rfl)))))) Ji Ji))),(JL (JaM (WE (JaN (Jt (Jb (Jc 0) (Jb (Jn Ul (Jc 1) Jm) Jg)))) (JlL (JaN (Jt (Jb (Jc 0) (Jb (Jc 1) Jg)))))) Jm Jm))⟩
theorem sc_struck:FnScope ["row","left","pairs","ahead","stretch","spot"] ["row"] (Jj Jb0):=by walk_at "c"
theorem Jjx{f:Qd}{fd:Qz}(F:Fun K "struck" "struck" Jb0 f fd)(qa:mg "enumerate"=none)(ql:mg "sum"=none)(wj:Cal P w K mg base "owed_at" 2 ["left","spot"] (spE K C 2 U7))(qx:Cal P w K mg base "thinned" 4 ["row","layers"] (spE K C 2 Yz))(T:RowC K C):FnOk P w K mg base CX0 5 f fd ["row"] (spE K C 1 U3) :=
 okE F sc_struck rfl fun _ _ _ _ _ _ hr hu=>⟨_,(Jf (Jg1 (i:=1) sc_struck.nd rfl (.inr rfl) (Jk qx (hrM hr) rfl (Ja (pv 0) (Ja Ji Je))))
  (Jf (psN 2 sc_struck.nd JfF)
  (Jf (Um Gh rfl (JbU (K:=K) rfl rfl qa (Ja (YC (K:=K) rfl (pv 0) rfl) Je)) (JR (K:=K) (n:=2) rfl rfl (Jo (JM (i:=3) sc_struck.nd rfl (.inl rfl)) (Jo (JM (i:=4) sc_struck.nd rfl (.inl rfl)) JS)) rfl rfl) (Jf (psN 5 sc_struck.nd (Jp YI (Jp YI (JE (Uc (K:=K) rfl rfl) rfl ql Wl (Ja (pv 4) Je)) Ji) (Jp W6 Ji (pv 3))))
  (Jh (JnP (JkH hr) (pv 2) (pv 5) (Jp (Js (K:=K) rfl) (Jlf (JkH hr) (pv 2) (pv 5) Ji ⟨rfl,rfl,rfl,rfl⟩) Ji) rfl))))
  (Jh (JnQ 2 (Jv (YJ (N':=["spot","number","left"]) (imp:=[none,none,some 1]) rfl (Jli (pv 2)) (JiR (own:=["spot","number"]) (fr:=[("left",1)]) rfl rfl rfl ⟨rfl,trivial⟩ rfl ⟨⟨rfl,rfl,rfl⟩,trivial⟩) (fun _ _ _ _=>(JR (K:=K) (n:=2) rfl rfl (Jo (pgN 0 Jsl) (Jo (pgN 1 Jsl) JS)) rfl rfl)) (fun _ _ _ _=>J7) (fun _ _ _ _=>(Ub (Ja (pv 0) (Ja (pv 1) (Ja (Jk wj (hrM hr) rfl (Ja (pv 2) (Ja (pv 0) Je))) Je)))))))))))),(Jq (JB (Jt (Jb (Jc 0) (Jb Jm Jg))))
  (Jq (We JlI)
  (Jq (Wd (Jek (Jb (VM T (Jc 0)) Jg)) (YV (JC (JZ 3) (JC (JZ 4) YU)) rfl) (Jq (JB (Jn Ul (Jn Ul (YB JaA (Jb (Jc 4) Jg)) Jm) (Jn JbL Jm (Jc 3))))
  (Jrx (Jn JK (Jn6 (Jc 2) (Jc 5) Jm) Jm) (Jc 5))))
  (Jry 2 (JL (YX (JlK (Jc 2)) (YV (JC (JZ 0) (JC (JZ 1) YU)) rfl) UT (Vp (Jb (Jc 0) (Jb (Jc 1) (Jb (Jt (Jb (Jc 2) (Jb (Jc 0) Jg))) Jg)))) rfl))))))⟩
theorem sc_table_of:FnScope ["row","table","left","size","layers"] ["row"] (Jj Zj):=by walk_at "c"
theorem JfE{f:Qd}{fd:Qz}(F:Fun K "table_of" "table_of" Zj f fd)(qx:Cal P w K mg base "thinned" 4 ["row","layers"] (spE K C 2 Yz))(wt:Cal P w K mg base "struck" 5 ["row"] (spE K C 1 U3))(qp:Cal P w K mg base "closes_at" 2 ["row"] (spE K C 1 Yh))(T:RowC K C):FnOk P w K mg base CX0 6 f fd ["row"] (spE K C 1 UJ) :=
 okE F sc_table_of rfl fun _ _ _ _ _ _ hr hu=>⟨_,(Jf (psN 1 sc_table_of.nd (YW Je))
  (Jf (psN 2 sc_table_of.nd (pv 0))
  (Jf (Jg1 (i:=3) sc_table_of.nd rfl (.inr rfl) Ji)
  (Jf (JfJ Gh (Uo (K:=K) rfl (YC (K:=K) rfl (pv 2) rfl) (fun _=>rfl)) (Jf (psN 4 sc_table_of.nd (Jk qp (hrM hr) rfl (Ja (pv 2) Je)))
  (Jf (Jln (i:=3) sc_table_of.nd rfl (.inr rfl) (pv 4) JpP)
  (Jf (psN 2 sc_table_of.nd (Jk qx (hrM hr) rfl (Ja (pv 2) (Ja (Jp YI (pv 4) Ji) Je))))
  (Jf (Yw (Ym (K:=K) rfl QZ MI MJ JcZ (pv 1) (Ja (YJ (N':=["spot","pairs","owed","size"]) (imp:=[none,none,none,some 3]) rfl (piK K (Jk wt (hrM hr) rfl (Ja (pv 2) Je))) (JiR (own:=["spot","pairs","owed"]) (fr:=[("size",3)]) rfl rfl rfl ⟨rfl,trivial⟩ rfl ⟨⟨rfl,rfl,rfl⟩,trivial⟩) (fun _ _ _ _=>(JR (K:=K) (n:=3) rfl rfl (Jo (pgN 0 Jqj) (Jo (pgN 1 Jqj) (Jo (pgN 2 Jqj) JS))) rfl rfl)) (fun _ _ _ _=>(Jlk (Jr JaI (pv 1) (pv 2) (Jy _)))) (fun _ _ _ _=>(Ub (Ja (pv 3) (Ja (pv 0) (Ja (Jp YI (pv 1) (pv 2)) Je)))))) Je)))
  (Jh (psN 2 sc_table_of.nd (Jk qx (hrM hr) rfl (Ja (pv 2) (Ja Ji Je))))))))))
  (Jh (Jv (pv 1))))))),(Jq (We (US Jg))
  (Jq (JB (Jc 0))
  (Jq (JB Jm)
  (Jq (JiO (JaN (VM T (Jc 2))) (Jq (JB (Jt (Jb (Jc 2) Jg)))
  (Jq (Jo6 (Jc 4))
  (Jq (JB (Jt (Jb (Jc 2) (Jb (Jn Ul (Jc 4) Jm) Jg))))
  (Jq (Jo7 (YX (Zb (Jt (Jb (Jc 2) Jg))) (YV (JC (JZ 0) (JC (JZ 1) (JC (JZ 2) YU))) rfl) (JD (Jn JgR (Jc 1) (Jc 2))) (Vp (Jb (Jc 3) (Jb (Jc 0) (Jb (Jn Ul (Jc 1) (Jc 2)) Jg)))) rfl))
  (JB (Jt (Jb (Jc 2) (Jb Jm Jg)))))))))
  VC))))⟩
theorem JlN:FnScope ["row","seats","times"] ["row","seats","times"] (Jj Jej):=by walk_at "c"
theorem Jlb{f:Qd}{fd:Qz}(F:Fun K "after" "after" Jej f fd)(wu:Cal P w K mg base "row_of" 5 ["table"] (spE K C 1 VF))(wk:Cal P w K mg base "shifted" 2 ["table","seats","times"] (spE K C 3 U8))(wc:Cal P w K mg base "table_of" 6 ["row"] (spE K C 1 UJ)):FnOk P w K mg base CX0 7 f fd ["row","seats","times"] (spE K C 3 Yp) :=
 okE F JlN rfl fun _ _ _ _ _ _ hr hu=>⟨_,(Jh (Jv (Jk wu (hrM hr) rfl (Ja (Jk wk (hrM hr) rfl (Ja (Jk wc (hrM hr) rfl (Ja (pv 0) Je)) (Ja (pv 1) (Ja (pv 2) Je)))) Je)))),(JL (Jt (Jb (Jt (Jb (Jt (Jb (Jc 0) Jg)) (Jb (Jc 1) (Jb (Jc 2) Jg)))) Jg)))⟩
theorem Jct:FnScope ["self","seats","times"] ["self","seats","times"] (Jj V1):=by walk_at "c"
theorem Jcr{f:Qd}{fd:Qz}(F:Fun K "ahead" "Desk.ahead" V1 f fd)(qE:Cal P w K mg base "written" 2 ["row"] (spE K C 1 Ua))(qQ:Cal P w K mg base "after" 7 ["row","seats","times"] (spE K C 3 Yp))(TD:DkK K CD):FnOk P w K mg base CX0 8 f fd ["self","seats","times"] (spE K C 3 JX) :=
 okE F Jct rfl fun _ _ _ _ _ _ hr hu=>⟨_,(Jh (Jv (Jk qE (hrM hr) rfl (Ja (Jk qQ (hrM hr) rfl (Ja (pxK K (YC (K:=K) rfl (pv 0) rfl) (ZR V5 Ji)) (Ja (pv 1) (Ja (pv 2) Je)))) Je)))),(JL (Jt (Jb (Jt (Jb (Jn UO (Jel TD (Jc 0)) (Jem ZZ Jm)) (Jb (Jc 1) (Jb (Jc 2) Jg)))) Jg)))⟩
theorem sc_law_gone:FnScope ["pairs","seats","load","found","k","begin","length","taken_now","down"] ["pairs","seats"] (Jj Zd):=by walk_at "c"
theorem Jfz{f:Qd}{fd:Qz}(F:Fun K "_law_gone" "_law_gone" Zd f fd)(qA:mg "range"=none)(qb:mg "len"=none)(qt:mg "min"=none):FnOk P w K mg base CX0 1 f fd ["pairs","seats"] (spE K C 2 YS) :=
 okE F sc_law_gone rfl fun _ _ _ _ _ _ hr hu=>⟨_,(Jf (psN 2 sc_law_gone.nd Ji)
  (Jf (psN 3 sc_law_gone.nd (YW Je))
  (Jf (Um Gh rfl (Jc2 rfl qA (Ja (JE (J9 (K:=K) rfl) rfl qb Ui (Ja (pv 0) Je)) Je)) (JM (i:=4) sc_law_gone.nd rfl (.inl rfl)) (Jf (JqJ (pxK K (pv 0) (pv 4)) (JR (K:=K) (n:=2) rfl rfl (Jo (JM (i:=5) sc_law_gone.nd rfl (.inl rfl)) (Jo (JM (i:=6) sc_law_gone.nd rfl (.inl rfl)) JS)) rfl rfl))
  (Jf (psN 7 sc_law_gone.nd (pv 6))
  (Jf (J1 (Jr ZP (pv 1) JU (Jy _)) (Jh (psN 7 sc_law_gone.nd (JE (U0 rfl) rfl qt WW (Ja (pv 6) (Ja (Jp YI (pv 1) (pv 2)) Je))))) JF)
  (Jf (psN 2 sc_law_gone.nd (Jp (Js (K:=K) rfl) (pv 2) (pv 7)))
  (Jf (psN 8 sc_law_gone.nd (pv 2))
  (Jf (J1 (Jr Wa (Jp (Js (K:=K) rfl) (pv 4) Ji) (JE (J9 (K:=K) rfl) rfl qb Ui (Ja (pv 0) Je)) (Jy _)) (Jh (psN 8 sc_law_gone.nd (JE (U0 rfl) rfl qt WW (Ja (pv 2) (Ja (Jp YI (Jp YI (pxK K (pxK K (pv 0) (Jp (Js (K:=K) rfl) (pv 4) Ji)) Ji) (pv 5)) (pv 6)) Je))))) JF)
  (Jf (Yw (Ym (K:=K) rfl QZ Gw Gx Uf (pv 3) (Ja (Ub (Ja (Jp (Js (K:=K) rfl) (pv 5) (pv 7)) (Ja (Jp (Js (K:=K) rfl) (Jp YI (pv 6) (pv 7)) (pv 8)) Je))) Je)))
  (Jh (psN 2 sc_law_gone.nd (Jp YI (pv 2) (pv 8))))))))))))
  (Jh (Jv (pv 3)))))),(Jq (JB Jm)
  (Jq (We (US Jg))
  (Jq (Wd (JoT (Jb (YB VD (Jb (Jc 0) Jg)) Jg)) (JZ 4) (Jq (JsV (Jn UO (Jc 0) (Jc 4)) (YV (JC (JZ 5) (JC (JZ 6) YU)) rfl))
  (Jq (JB (Jc 6))
  (Jq (Y8 (JD (Jn Jd0 (Jc 1) Yx)) (JB (YB JcG (Jb (Jc 6) (Jb (Jn Ul (Jc 1) (Jc 2)) Jg)))) JV)
  (Jq (JB (Jn JK (Jc 2) (Jc 7)))
  (Jq (JB (Jc 2))
  (Jq (Y8 (JD (Jn JbK (Jn JK (Jc 4) Jm) (YB VD (Jb (Jc 0) Jg)))) (JB (YB JcG (Jb (Jc 2) (Jb (Jn Ul (Jn Ul (Jn UO (Jn UO (Jc 0) (Jn JK (Jc 4) Jm)) Jm) (Jc 5)) (Jc 6)) Jg)))) JV)
  (Jq (Jck (Vp (Jb (Jn JK (Jc 5) (Jc 7)) (Jb (Jn JK (Jn Ul (Jc 6) (Jc 7)) (Jc 8)) Jg))))
  (JB (Jn Ul (Jc 2) (Jc 8)))))))))))
  VC)))⟩
theorem Jer:FnScope ["cell"] ["cell"] (Jj WD):=by walk_at "c"
theorem Jd9{f:Qd}{fd:Qz}(F:Fun K "_law_seats" "_law_seats" WD f fd) :FnOk P w K mg base CX0 1 f fd ["cell"] (spE K C 1 Y0) :=
 okE F Jer rfl fun _ _ _ _ _ _ hr hu=>⟨_,(Jh (Jv (pxK K (YW (Ja JU (Ja Ji (Ja Ji (Ja Ji (Ja (Jp (Js (K:=K) rfl) Ji (Jp Uy (Jp WM (pv 0) Ji) Ji)) (Ja (Jp (Js (K:=K) rfl) Ji (Jp Uy (Jp WM (pv 0) Ji) (Jp JbS Ji Ji))) Je))))))) (Jp Uy (pv 0) Ji)))),(JL (Jn UO (US (Jb Yx (Jb Jm (Jb Jm (Jb Jm (Jb (Jn JK Jm (Jn VJ (Jn Jc1 (Jc 0) Jm) Jm)) (Jb (Jn JK Jm (Jn VJ (Jn Jc1 (Jc 0) Jm) (Jn Jfu Jm Jm))) Jg))))))) (Jn VJ (Jc 0) Jm)))⟩
theorem sc_lines_of:FnScope ["text","lines","last"] ["text"] (Jj Zg):=by walk_at "c"
theorem JfC{f:Qd}{fd:Qz}(F:Fun K "lines_of" "lines_of" Zg f fd) :FnOk P w K mg base CX0 1 f fd ["text"] (spE K C 1 UH) :=
 okE F sc_lines_of rfl fun _ _ _ _ _ _ hr hu=>⟨_,(Jf (psN 1 sc_lines_of.nd (Ym (K:=K) rfl Q7 Kf Kg Ws (pv 0) (Ja JQ Je)))
  (Jf (psN 2 sc_lines_of.nd (Jec (K:=K) rfl QZ LG LH JgO (pv 1)))
  (Jh (Jv (UK (Jr (Vd (K:=K) rfl hu) (pv 2) JQ (Jy _)) (pv 1) (Jp (Js (K:=K) rfl) (pv 1) (YW (Ja JU Je)))))))),(Jq (We (JaU ZJ (Jc 0) (Jb Yb Jg)))
  (Jq Jpa
  (Jo8 1 (JL (JaM (JD (Jn JbJ (Jc 2) Yb)) (Jc 1) (Jn JK (Jc 1) (US (Jb Yx Jg))))))))⟩
theorem sc_number_told:FnScope ["text","figures"] ["text"] (Jj VA):=by walk_at "c"
theorem JbR{f:Qd}{fd:Qz}(F:Fun K "number_told" "number_told" VA f fd)(wv:mg "int"=none)(wK:mg "all"=none)(qb:mg "len"=none)(wm:GV mg "FIGURES" (.str "0123456789"))(qk:GV mg "MOST_FIGURES_texts" (.int 200)):FnOk P w K mg base CX0 1 f fd ["text"] (spE K C 1 J4) :=
 okE F sc_number_told rfl fun _ _ _ _ _ _ hr hu=>⟨_,(Jf (psN 1 sc_number_told.nd (UK (Uo (K:=K) rfl (Ym (K:=K) rfl Q7 L6 L7 Jc0 (pv 0) (Ja JQ Je)) (fun _=>rfl)) (UL Jb5 (pv 0) (Vo Ji) Vn) (pv 0)))
  (Jf (J1 (PW.pt (JaL (Jr (Vd (K:=K) rfl hu) (pv 1) JQ (Jy _)) (Jao (Jr JaI (JE (J9 (K:=K) rfl) rfl qb Ui (Ja (pv 1) Je)) (Ve rfl qk) (Jy _))))) (Jh (Jv JU)) JF)
  (Jf (J1 (JbW (Uo (K:=K) rfl (JE (JiV (K:=K) rfl rfl) rfl wK Jpi (Ja (YJ (N':=["figure"]) (imp:=[none]) rfl (JqH (pv 1)) (JaP rfl rfl) (fun _ _ _ _=>(pgN 0 Jsg)) (fun _ _ _ _=>J7) (fun _ _ _ _=>(Jed Jjy (pv 0) (Ve rfl wm) rfl))) Je)) (fun _=>rfl))) (Jh (Jv JU)) JF)
  (Jf (J1 (PW.pt (V0 (Uo (K:=K) rfl (Ym (K:=K) rfl Q7 L6 L7 Jc0 (pv 1) (Ja JQ Je)) (fun _=>rfl)) (UY (Jr (VZ (K:=K) rfl hu) (pv 0) JQ (Jy _))))) (Jh (Jv JU)) JF)
  (Jh (Jv (Yo Jad rfl wv Jgl (Ja (pv 0) Je)))))))),(Jq (JB (JaM (JaN (JaU ZK (Jc 0) (Jb Yb Jg))) (JfL (Jc 0) (Wu Jm) Wt) (Jc 0)))
  (Jq (Y8 (Jb1 (JD (Jn JbJ (Jc 1) Yb)) (JD (Jn JgR (YB VD (Jb (Jc 1) Jg)) Jm))) (JL Yx) JV)
  (Jq (Y8 (JlL (JaN (YB JrL (Jb (YX (JsN (Jc 1)) (JZ 0) UT (Jn Jsn (Jc 0) Yb) rfl) Jg)))) (JL Yx) JV)
  (Jq (Y8 (WE (JaN (JaU ZK (Jc 1) (Jb Yb Jg))) (JD (Jn Jd1 (Jc 0) Yb))) (JL Yx) JV)
  (JL (YB Jgm (Jb (Jc 0) Jg)))))))⟩
theorem Jax:FnScope ["word","most"] ["word","most"] (Jj UQ):=by walk_at "c"
theorem Jam{f:Qd}{fd:Qz}(F:Fun K "number_within" "number_within" UQ f fd)(qb:mg "len"=none)(qg:Cal P w K mg base "number_told" 1 ["text"] (spE K C 1 J4)):FnOk P w K mg base CX0 2 f fd ["word","most"] (spE K C 2 J2) :=
 okE F Jax rfl fun _ _ _ _ _ _ hr hu=>⟨_,(Jh (Jv (UK (Jr Jlc (JE (J9 (K:=K) rfl) rfl qb Ui (Ja (Ym (K:=K) rfl Q7 PySem.F.slot_str_lstrip PySem.F.type_str_lstrip Jjt (pv 0) (Ja JQ Je)) Je)) (pv 1) (Jy _)) (Jk qg (hrM hr) rfl (Ja (pv 0) Je)) JU))),(JL (JaM (JD (Jn Jso (YB VD (Jb (JaU JkY (Jc 0) (Jb Yb Jg)) Jg)) (Jc 1))) (Jt (Jb (Jc 0) Jg)) Yx))⟩
theorem sc_behind_goings:FnScope ["row","word","times","seats"] ["row","word","times"] (Jj UP):=by walk_at "c"
theorem Jal{f:Qd}{fd:Qz}(F:Fun K "behind_goings" "behind_goings" UP f fd)(qm:GV mg "MOST_FIGURES_desk" (.int 60))(qQ:Cal P w K mg base "after" 7 ["row","seats","times"] (spE K C 3 Yp))(qf:Cal P w K mg base "number_within" 2 ["word","most"] (spE K C 2 J2)):FnOk P w K mg base CX0 8 f fd ["row","word","times"] (spE K C 3 YE) :=
 okE F sc_behind_goings rfl fun _ _ _ _ _ _ hr hu=>⟨_,(Jf (J1 (Jr UW (pv 2) JU (Jy _)) (Jh (Jv JU)) JF)
  (Jf (J1 (Jr (Vd (K:=K) rfl hu) (pv 1) JQ (Jy _)) (Jh (Jv (Jk qQ (hrM hr) rfl (Ja (pv 0) (Ja JU (Ja (pv 2) Je)))))) JF)
  (Jf (psN 3 sc_behind_goings.nd (Jk qf (hrM hr) rfl (Ja (pv 1) (Ja (Ve rfl qm) Je))))
  (Jh (Jv (UK (PW.pt (JaL (Jr UW (pv 3) JU (Jy _)) (Jao (Jr Wa (pv 3) Ji (Jy _))))) JU (Jk qQ (hrM hr) rfl (Ja (pv 0) (Ja (pv 3) (Ja (pv 2) Je)))))))))),(Jq (Y8 (JD (Jn JdZ (Jc 2) Yx)) (JL Yx) JV)
  (Jq (Y8 (JD (Jn JbJ (Jc 1) Yb)) (JL (Jt (Jb (Jc 0) (Jb Yx (Jb (Jc 2) Jg))))) JV)
  (Jq (JB (Jt (Jb (Jc 1) (Jb Jm Jg))))
  (JL (JaM (Jb1 (JD (Jn JdZ (Jc 3) Yx)) (JD (Jn JbK (Jc 3) Jm))) Yx (Jt (Jb (Jc 0) (Jb (Jc 3) (Jb (Jc 2) Jg)))))))))⟩
theorem JaV:FnScope ["row","words","number"] ["row","words"] (Jj Vg):=by walk_at "c"
theorem JaS{f:Qd}{fd:Qz}(F:Fun K "behind_words" "behind_words" Vg f fd)(qb:mg "len"=none)(qh:GV mg "MOST_FIGURES_OF_TIMES" (.int 30))(qB:Cal P w K mg base "behind_goings" 8 ["row","word","times"] (spE K C 3 YE))(qf:Cal P w K mg base "number_within" 2 ["word","most"] (spE K C 2 J2)):FnOk P w K mg base CX0 9 f fd ["row","words"] (spE K C 2 YK) :=
 okE F JaV rfl fun _ _ _ _ _ _ hr hu=>⟨_,(Jf (J1 (PW.pt (V0 (Jr (Vd (K:=K) rfl hu) (JE (J9 (K:=K) rfl) rfl qb Ui (Ja (pv 1) Je)) Ji (Jy _)) (UY (Jr (Vd (K:=K) rfl hu) (pxK K (pv 1) Ji) JQ (Jy _))))) (Jh (Jv (Jk qB (hrM hr) rfl (Ja (pv 0) (Ja (pxK K (pv 1) Ji) (Ja (Jk qf (hrM hr) rfl (Ja (pxK K (pv 1) Ji) (Ja (Ve rfl qh) Je))) Je)))))) JF)
  JjC),(Jq (Y8 (WE (JD (Jn JbJ (YB VD (Jb (Jc 1) Jg)) Jm)) (JD (Jn JbJ (Jn UO (Jc 1) Jm) Yb))) (JL (Jt (Jb (Jc 0) (Jb (Jn UO (Jc 1) Jm) (Jb (Jt (Jb (Jn UO (Jc 1) Jm) (Jb Jm Jg))) Jg))))) JV)
  UE)⟩
theorem sc_behind_deed:FnScope ["row","line","at","behind"] ["row","line","at"] (Jj Vw):=by walk_at "c"
theorem JbN{f:Qd}{fd:Qz}(F:Fun K "behind_deed" "behind_deed" Vw f fd)(qF:Cal P w K mg base "behind_words" 9 ["row","words"] (spE K C 2 YK)):FnOk P w K mg base CX0 10 f fd ["row","line","at"] (spE K C 3 YQ) :=
 okE F sc_behind_deed rfl fun _ _ _ _ _ _ hr hu=>⟨_,(Jf (psN 3 sc_behind_deed.nd (UK (Jr UW (pv 1) JU (Jy _)) JU (Jk qF (hrM hr) rfl (Ja (pv 0) (Ja (Ym (K:=K) rfl Q7 Kf Kg Ws (pv 1) (Ja JQ Je)) Je)))))
  (Jf (J1 (Jr UW (pv 3) JU (Jy _)) (Jh YM) JF)
  (Jh (Jv (pv 3))))),(Jq (JB (JaM (JD (Jn JdZ (Jc 1) Yx)) Yx (Jt (Jb (Jc 0) (Jb (JaU ZJ (Jc 1) (Jb Yb Jg)) Jg)))))
  (Jq (Y8 (JD (Jn JdZ (Jc 3) Yx)) UE JV)
  VC))⟩
theorem sc_Desk_do:FnScope ["self","text","trail","at","line"] ["self","text"] (Jj Jap):=by walk_at "c"
theorem JgS{f:Qd}{fd:Qz}(F:Fun K "do" "Desk.do" Jap f fd)(qa:mg "enumerate"=none)(qb:mg "len"=none)(wa:mg "list"=none)(we:Cal P w K mg base "lines_of" 1 ["text"] (spE K C 1 UH))(qK:Cal P w K mg base "behind_deed" 10 ["row","line","at"] (spE K C 3 YQ))(TD:DkK K CD)(hT:Vq K=none):FnOk P w K mg base CX0 11 f fd ["self","text"] (Jhi K C Ux) :=
 okD F sc_Desk_do rfl (by decide) hT fun _ _ _ _ _ _ hr hu=>⟨_,(Jf (psN 2 sc_Desk_do.nd (Yo (Jgo (K:=K) rfl) rfl wa Jdm (Ja (YC (K:=K) rfl (pv 0) rfl) Je)))
  (Jf (Um Gh rfl (JjA (K:=K) rfl rfl qa (Ja (Jk we (hrM hr) rfl (Ja (pv 1) Je)) Je) Ji) (JR (K:=K) (n:=2) rfl rfl (Jo (JM (i:=3) sc_Desk_do.nd rfl (.inl rfl)) (Jo (JM (i:=4) sc_Desk_do.nd rfl (.inl rfl)) JS)) rfl rfl) (Jh (J1 (PW.pt (V0 (Jr (Vd (K:=K) rfl hu) (pv 4) JQ (Jy _)) (UY (Jr JaI (JE (J9 (K:=K) rfl) rfl qb Ui (Ja (pv 2) Je)) Ji (Jy _))))) (Jh (Yw (Jec (K:=K) rfl QZ LG LH JgO (pv 2)))) (Jh (Yw (Ym (K:=K) rfl QZ Gw Gx Uf (pv 2) (Ja (Jk qK (hrM hr) rfl (Ja (pxK K (pv 2) (ZR V5 Ji)) (Ja (pv 4) (Ja (pv 3) Je)))) Je)))))))
  (Jh (Jef (K:=K) rfl (pv 0) (pv 2) rfl)))),(Jq (We (YB Jpm (Jb (Jel TD (Jc 0)) Jg)))
  (Jq (Wd (JlJ (Jb (Jt (Jb (Jc 1) Jg)) Jg)) (YV (JC (JZ 3) (JC (JZ 4) YU)) rfl) (Y8 (WE (JD (Jn JbJ (Jc 4) Yb)) (JD (Jn JgR (YB VD (Jb (Jc 2) Jg)) Jm))) Jrz (Jck (Jt (Jb (Jn UO (Jc 2) (Jem ZZ Jm)) (Jb (Jc 4) (Jb (Jc 3) Jg)))))))
  (Jo8 2 (JoA TD (Jc 2)))))⟩
theorem ZU:FnScope ["seats"] ["seats"] (Jj UA):=by walk_at "c"
theorem ZN{f:Qd}{fd:Qz}(F:Fun K "_law_seats_word" "_law_seats_word" UA f fd)(qH:mg "str"=none):FnOk P w K mg base CX0 1 f fd ["seats"] (spE K C 1 Yt) :=
 okE F ZU rfl fun _ _ _ _ _ _ hr hu=>⟨_,(Jf (J1 (Jr UW (pv 0) JU (Jy _)) (Jh (Jv JQ)) JF)
  (Jh (Jv (Yo U1 rfl qH Jac (Ja (pv 0) Je))))),(Jq (Y8 (JD (Jn JdZ (Jc 0) Yx)) (JL Yb) JV)
  (JL (YB JcH (Jb (Jc 0) Jg))))⟩
theorem sc_law_pairs_told:FnScope ["text","pairs","word","parts"] ["text"] (Jj Uz):=by walk_at "c"
theorem ZM{f:Qd}{fd:Qz}(F:Fun K "_law_pairs_told" "_law_pairs_told" Uz f fd)(wv:mg "int"=none):FnOk P w K mg base CX0 1 f fd ["text"] (spE K C 1 Ys) :=
 okE F sc_law_pairs_told rfl fun _ _ _ _ _ _ hr hu=>⟨_,(Jf (psN 1 sc_law_pairs_told.nd (YW Je))
  (Jf (Um Gh rfl (piK K (UL (Jet (K:=K) rfl) (Ym (K:=K) rfl Q7 Kf Kg Ws (UL Jb5 (pv 0) Vn (Vo (ZR V5 Ji))) (Ja JQ Je)) (Vo Ji) Vn)) (JM (i:=2) sc_law_pairs_told.nd rfl (.inl rfl)) (Jf (psN 3 sc_law_pairs_told.nd (Ym (K:=K) rfl Q7 Kf Kg Ws (pv 2) (Ja JQ Je)))
  (Jh (Yw (Ym (K:=K) rfl QZ Gw Gx Uf (pv 1) (Ja (Ub (Ja (Yo Jad rfl wv Jgl (Ja (pxK K (pv 3) Ji) Je)) (Ja (Yo Jad rfl wv Jgl (Ja (pxK K (pv 3) Ji) Je)) Je))) Je))))))
  (Jh (Jv (pv 1))))),(Jq (We (US Jg))
  (Jq (Wd (Zb (Jrf (JaU ZJ (JfL (Jc 0) Wt (Wu (Jem ZZ Jm))) (Jb Yb Jg)) (Wu Jm) Wt)) (JZ 2) (Jq (JB (JaU ZJ (Jc 2) (Jb Yb Jg)))
  (Jck (Vp (Jb (YB Jgm (Jb (Jn UO (Jc 3) Jm) Jg)) (Jb (YB Jgm (Jb (Jn UO (Jc 3) Jm) Jg)) Jg))))))
  VC))⟩
theorem sc_law_right:FnScope ["desk","pairs","seats","times","start","text","there","word"] ["desk","pairs","seats","times"] (Jj WC):=by walk_at "c"
theorem Jd8{f:Qd}{fd:Qz}(F:Fun K "_law_right" "_law_right" WC f fd)(qH:mg "str"=none)(ql:mg "sum"=none)(qb:mg "len"=none)(D_text:CalD P w K mg base CD "text" 3 ["self"] (spE K C 1 Yg))(D_do:CalD P w K mg base CD "do" 11 ["self","text"] (Jhi K C Ux))(qu:Cal P w K mg base "_law_seats_word" 1 ["seats"] (spE K C 1 Yt))(qd:Cal P w K mg base "_law_text" 1 ["pairs"] (spE K C 1 J3))(qq:Cal P w K mg base "_law_gone" 1 ["pairs","seats"] (spE K C 2 YS))(D_ahead:CalD P w K mg base CD "ahead" 8 ["self","seats","times"] (spE K C 3 JX))(qv:Cal P w K mg base "_law_pairs_told" 1 ["text"] (spE K C 1 Ys))(TD:DkK K CD)(hT:Vq K=none):FnOk P w K mg base CX0 12 f fd ["desk","pairs","seats","times"] (JjN K C 4 YT) :=
 Js9 F sc_law_right rfl (by decide) hT fun _ _ _ _ _ _ hr hu=>⟨_,(Jf (psN 4 sc_law_right.nd (Jk qd (hrM hr) rfl (Ja (pv 1) Je)))
  (Jf (psN 5 sc_law_right.nd (VL D_ahead TD.cl (hrM hr) (pv 0) (Ja (pv 2) (Ja (pv 3) Je))))
  (Jf (psN 6 sc_law_right.nd (Jk qv (hrM hr) rfl (Ja (pv 5) Je)))
  (Jf (J1 (PW.pt (JaL (Jr (VZ (K:=K) rfl hu) (VL D_ahead TD.cl (hrM hr) (pv 0) (Ja (pv 2) (Ja Ji Je))) (pv 4) (Jy _)) (JaL (Jr (VZ (K:=K) rfl hu) (Jk qd (hrM hr) rfl (Ja (pv 6) Je)) (pv 5) (Jy _)) (Jao (Jr (VZ (K:=K) rfl hu) (JE (J9 (K:=K) rfl) rfl qb Ui (Ja (pv 6) Je)) (JE (J9 (K:=K) rfl) rfl qb Ui (Ja (pv 1) Je)) (Jy _)))))) (Jh (Jv JbT)) JF)
  (Jf (J1 (Jr (VZ (K:=K) rfl hu) (JE (Uc (K:=K) rfl rfl) rfl ql Wl (Ja (YJ (N':=["begin","length"]) (imp:=[none,none]) rfl (piK K (pv 6)) (JaP rfl rfl) (fun _ _ _ _=>(JR (K:=K) (n:=2) rfl rfl (Jo (pgN 0 ZL) (Jo (pgN 1 ZL) JS)) rfl rfl)) (fun _ _ _ _=>J7) (fun _ _ _ _=>(pv 1))) Je)) (JE (Uc (K:=K) rfl rfl) rfl ql Wl (Ja (YJ (N':=["begin","length"]) (imp:=[none,none]) rfl (piK K (pv 1)) (JaP rfl rfl) (fun _ _ _ _=>(JR (K:=K) (n:=2) rfl rfl (Jo (pgN 0 ZL) (Jo (pgN 1 ZL) JS)) rfl rfl)) (fun _ _ _ _=>J7) (fun _ _ _ _=>(pv 1))) Je)) (Jy _)) (Jh (Jv JbT)) JF)
  (Jf (J1 (Jr (VZ (K:=K) rfl hu) (Jk qd (hrM hr) rfl (Ja (Jk qq (hrM hr) rfl (Ja (pv 6) (Ja (pv 2) Je))) Je)) (VL D_ahead TD.cl (hrM hr) (pv 0) (Ja (pv 2) (Ja (Jp (Js (K:=K) rfl) (pv 3) Ji) Je))) (Jy _)) (Jh (Jv JbT)) JF)
  (Jf (psN 7 sc_law_right.nd (Jk qu (hrM hr) rfl (Ja (pv 2) Je)))
  (Jf (Yw (VL D_do TD.cl (hrM hr) (pv 0) (Ja (Jp (Js (K:=K) rfl) (Jp (Js (K:=K) rfl) (Jp (Js (K:=K) rfl) (Jp (Js (K:=K) rfl) JQ (pv 7)) JQ) (Yo U1 rfl qH Jac (Ja (pv 3) Je))) JQ) Je)))
  (Jf (J1 (Jr (VZ (K:=K) rfl hu) (Jan D_text TD.cl (hrM hr) (pv 0)) (pv 5) (Jy _)) (Jh (Jv JbT)) JF)
  (Jf (Yw (VL D_do TD.cl (hrM hr) (pv 0) (Ja (Jp (Js (K:=K) rfl) (Jp (Js (K:=K) rfl) (Jp (Js (K:=K) rfl) (Jp (Js (K:=K) rfl) JQ (pv 7)) JQ) (Yo U1 rfl qH Jac (Ja (ZR V5 (pv 3)) Je))) JQ) Je)))
  (Jh (Jv (Jed (Vd (K:=K) rfl hu) (Jan D_text TD.cl (hrM hr) (pv 0)) (pv 4) (Jy _)))))))))))))),(Vu (JB (Jt (Jb (Jc 1) Jg)))
  (Vu (JB (Zh TD (by decide +kernel) (Jc 0) (Jb (Jc 2) (Jb (Jc 3) Jg))))
  (Vu (JB (Jt (Jb (Jc 5) Jg)))
  (Vu (Y8 (Jb1 (JD (Jn Jd1 (Zh TD (by decide +kernel) (Jc 0) (Jb (Jc 2) (Jb Jm Jg))) (Jc 4))) (Jb1 (JD (Jn Jd1 (Jt (Jb (Jc 6) Jg)) (Jc 5))) (JD (Jn Jd1 (YB VD (Jb (Jc 6) Jg)) (YB VD (Jb (Jc 1) Jg)))))) (JL Jg7) JV)
  (Vu (Y8 (JD (Jn Jd1 (YB JaA (Jb (YX (Zb (Jc 6)) (YV (JC (JZ 0) (JC (JZ 1) YU)) rfl) UT (Jc 1) rfl) Jg)) (YB JaA (Jb (YX (Zb (Jc 1)) (YV (JC (JZ 0) (JC (JZ 1) YU)) rfl) UT (Jc 1) rfl) Jg)))) (JL Jg7) JV)
  (Vu (Y8 (JD (Jn Jd1 (Jt (Jb (Jt (Jb (Jc 6) (Jb (Jc 2) Jg))) Jg)) (Zh TD (by decide +kernel) (Jc 0) (Jb (Jc 2) (Jb (Jn JK (Jc 3) Jm) Jg))))) (JL Jg7) JV)
  (Vu (JB (Jt (Jb (Jc 2) Jg)))
  (Vu (JsW TD (Jn JK (Jn JK (Jn JK (Jn JK Yb (Jc 7)) Yb) (YB JcH (Jb (Jc 3) Jg))) Yb))
  (Vu (Y8 (JD (Jn Jd1 (Zh TD (by decide +kernel) (Jc 0) Jg) (Jc 5))) (JL Jg7) JV)
  (Vu (JsW TD (Jn JK (Jn JK (Jn JK (Jn JK Yb (Jc 7)) Yb) (YB JcH (Jb (Jem ZZ (Jc 3)) Jg))) Yb))
  (JpO (Jn JbJ (Zh TD (by decide +kernel) (Jc 0) Jg) (Jc 4)))))))))))))⟩
theorem sc_law_far:FnScope ["cell","many"] ["cell"] (Jj Jas):=by walk_at "c"
theorem JgV{f:Qd}{fd:Qz}(F:Fun K "_law_far" "_law_far" Jas f fd) :FnOk P w K mg base CX0 1 f fd ["cell"] (spE K C 1 U6) :=
 okE F sc_law_far rfl fun _ _ _ _ _ _ hr hu=>⟨_,(Jf (psN 1 sc_law_far.nd (Jp Uy (Jp WM (pv 0) Ji) (Jp JbS Ji Ji)))
  (Jf (J1 (Jr (Vd (K:=K) rfl hu) (Jp Uy (Jp WM (pv 0) Ji) Ji) Ji (Jy _)) (Jh (psN 1 sc_law_far.nd (Jp Uy (pv 1) Ji))) JF)
  (Jf (J1 (Jr (Vd (K:=K) rfl hu) (Jp Uy (pv 0) Ji) Ji (Jy _)) (Jh (Jv (ZR V5 (pv 1)))) JF)
  (Jh (Jv (pv 1)))))),(Jq (JB (Jn VJ (Jn Jc1 (Jc 0) Jm) (Jn Jfu Jm Jm)))
  (Jq (Y8 (JD (Jn JbJ (Jn VJ (Jn Jc1 (Jc 0) Jm) Jm) Jm)) (JB (Jn VJ (Jc 1) Jm)) JV)
  (Jq (Y8 (JD (Jn JbJ (Jn VJ (Jc 0) Jm) Jm)) (JL (Jem ZZ (Jc 1))) JV)
  VC)))⟩
theorem sc_stretch_told:FnScope ["word","plus","begin","length"] ["word"] (Jj Vh):=by walk_at "c"
theorem JaT{f:Qd}{fd:Qz}(F:Fun K "stretch_told" "stretch_told" Vh f fd)(qg:Cal P w K mg base "number_told" 1 ["text"] (spE K C 1 J4)):FnOk P w K mg base CX0 2 f fd ["word"] (spE K C 1 Yn) :=
 okE F sc_stretch_told rfl fun _ _ _ _ _ _ hr hu=>⟨_,(Jf (psN 1 sc_stretch_told.nd (Ym (K:=K) rfl Q7 Ri Rj Jic (pv 0) (Ja JQ Je)))
  (Jf (J1 (Jr Wa (pv 1) Ji (Jy _)) (Jh (Jv JU)) JF)
  (Jf (psN 2 sc_stretch_told.nd (Jk qg (hrM hr) rfl (Ja (UL Jb5 (pv 0) Vn (Vo (pv 1))) Je)))
  (Jf (psN 3 sc_stretch_told.nd (Jk qg (hrM hr) rfl (Ja (UL Jb5 (pv 0) (Vo (Jp (Js (K:=K) rfl) (pv 1) Ji)) Vn) Je)))
  (Jf (J1 (PW.pt (JaL (Jr UW (pv 2) JU (Jy _)) (JaL (Jr UW (pv 3) JU (Jy _)) (Jao (Jr Wa (pv 3) Ji (Jy _)))))) (Jh (Jv JU)) JF)
  (Jh (Jv (Ub (Ja (pv 2) (Ja (pv 3) Je)))))))))),(Jq (JB (JaU JkW (Jc 0) (Jb Yb Jg)))
  (Jq (Y8 (JD (Jn JbK (Jc 1) Jm)) (JL Yx) JV)
  (Jq (JB (Jt (Jb (JfL (Jc 0) Wt (Wu (Jc 1))) Jg)))
  (Jq (JB (Jt (Jb (JfL (Jc 0) (Wu (Jn JK (Jc 1) Jm)) Wt) Jg)))
  (Jq (Y8 (Jb1 (JD (Jn JdZ (Jc 2) Yx)) (Jb1 (JD (Jn JdZ (Jc 3) Yx)) (JD (Jn JbK (Jc 3) Jm)))) (JL Yx) JV)
  (JL (Vp (Jb (Jc 2) (Jb (Jc 3) Jg)))))))))⟩
theorem sc_stretches_told:FnScope ["line","words","stretches"] ["line"] (Jj UB):=by walk_at "c"
theorem ZO{f:Qd}{fd:Qz}(F:Fun K "stretches_told" "stretches_told" UB f fd)(qG:Cal P w K mg base "stretch_told" 2 ["word"] (spE K C 1 Yn)):FnOk P w K mg base CX0 3 f fd ["line"] (spE K C 1 Yu) :=
 okE F sc_stretches_told rfl fun _ _ _ _ _ _ hr hu=>⟨_,(Jf (psN 1 sc_stretches_told.nd (Ym (K:=K) rfl Q7 Kf Kg Ws (pv 0) (Ja JQ Je)))
  (Jf (J1 (Jr (VZ (K:=K) rfl hu) (pxK K (pv 1) Ji) JQ (Jy _)) (Jh (Jv JU)) JF)
  (Jf (W8 (i:=2) (N':=["word"]) (imp:=[none]) sc_stretches_told.nd rfl (.inl rfl) rfl (piK K (UL (Jet (K:=K) rfl) (pv 1) (Vo Ji) Vn)) (JaP rfl rfl) (fun _ _ _ _=>(pgN 0 Jsh)) (fun _ _ _ _=>J7) (fun _ _ _ _=>(Jk qG (hrM hr) rfl (Ja (pv 0) Je))) rfl (.inl rfl))
  (Jh (Jv (UK (Jr (Jqv (K:=K) rfl hu) JU (pv 2) rfl) JU (pv 2))))))),(Jq (JB (JaU ZJ (Jc 0) (Jb Yb Jg)))
  (Jq (Y8 (JD (Jn Jd1 (Jn UO (Jc 1) Jm) Yb)) (JL Yx) JV)
  (Jq (JB (YX (Zb (Jrf (Jc 1) (Wu Jm) Wt)) (JZ 0) UT (Jt (Jb (Jc 0) Jg)) rfl))
  (JL (JaM (JD (Jn Jsm Yx (Jc 2))) Yx (Jc 2))))))⟩
theorem sc_read:FnScope ["text","end","stretches"] ["text"] (Jj Jg8):=by walk_at "c"
theorem Jny{f:Qd}{fd:Qz}(F:Fun K "read" "read" Jg8 f fd)(qb:mg "len"=none)(qC:CalM P w K mg base "Row" C 2 ["self","stretches"] (V4 C K))(qy:Cal P w K mg base "stretches_told" 3 ["line"] (spE K C 1 Yu)):FnOk P w K mg base CX0 4 f fd ["text"] (spE K C 1 Zw) :=
 okE F sc_read rfl fun _ _ _ _ _ _ hr hu=>⟨_,(Jf (psN 1 sc_read.nd (Ym (K:=K) rfl Q7 Ri Rj Jic (pv 0) (Ja JQ Je)))
  (Jf (J1 (Jr Wa (pv 1) Ji (Jy _)) (Jh YM) JF)
  (Jf (psN 2 sc_read.nd (Jk qy (hrM hr) rfl (Ja (UL Jb5 (pv 0) Vn (Vo (pv 1))) Je)))
  (Jf (J1 (Jr UW (pv 2) JU (Jy _)) (Jh YM) JF)
  (Jf (J1 (Jr Wa (Jp (Js (K:=K) rfl) (pv 1) Ji) (JE (J9 (K:=K) rfl) rfl qb Ui (Ja (pv 0) Je)) (Jy _)) (Jh YM) JF)
  (Jh (Jv (Vf qC (hrM hr) rfl (Ja (pv 2) Je))))))))),(Jq (JB (JaU JkW (Jc 0) (Jb Yb Jg)))
  (Jq (Y8 (JD (Jn JbK (Jc 1) Jm)) UE JV)
  (Jq (JB (Jt (Jb (JfL (Jc 0) Wt (Wu (Jc 1))) Jg)))
  (Jq (Y8 (JD (Jn JdZ (Jc 2) Yx)) UE JV)
  (Jq (Y8 (JD (Jn JbK (Jn JK (Jc 1) Jm) (YB VD (Jb (Jc 0) Jg)))) UE JV)
  (JL (Jc5 (Jb (Jc 2) Jg))))))))⟩
theorem Jen:FnScope ["self","text"] ["self","text"] (Jj Wx):=by walk_at "c"
theorem Jd3{f:Qd}{fd:Qz}(F:Fun K "__init__" "Desk.__init__" Wx f fd)(wD:Cal P w K mg base "read" 4 ["text"] (spE K C 1 Zw))(TD:DkK K CD)(hT:Vq K=none):FnOk P w K mg base CX0 5 f fd ["self","text"] (Jhh K C Ue) :=
 Js8 TD F Jen rfl (by decide) hT fun _ _ _ _ _ _ hr hu=>⟨_,(Jh (Jef (K:=K) rfl (pv 0) (YW (Ja (Jk wD (hrM hr) rfl (Ja (pv 1) Je)) Je)) rfl)),(US (Jb (Jt (Jb (Jc 1) Jg)) Jg))⟩
theorem JfN:FnScope ["script","k"] ["script","k"] (Jj Zc):=by walk_at "c"
theorem Jfy{f:Qd}{fd:Qz}(F:Fun K "_law_cell" "_law_cell" Zc f fd)(qb:mg "len"=none):FnOk P w K mg base CX0 1 f fd ["script","k"] (spE K C 2 Yr) :=
 okE F JfN rfl fun _ _ _ _ _ _ hr hu=>⟨_,(Jf (J1 (Jr Wa (pv 1) (JE (J9 (K:=K) rfl) rfl qb Ui (Ja (pv 0) Je)) (Jy _)) (Jh (Jv (pxK K (pv 0) (pv 1)))) JF)
  (Jh (Jv Ji))),(Jq (Y8 (JD (Jn JbK (Jc 1) (YB VD (Jb (Jc 0) Jg)))) (JL (Jn UO (Jc 0) (Jc 1))) JV)
  (JL Jm))⟩
theorem sc_law_spread:FnScope ["script","at","many","span","side","place","pairs","k","length"] ["script","at","many","span","side"] (Jj V2):=by walk_at "c"
theorem Jcs{f:Qd}{fd:Qz}(F:Fun K "_law_spread" "_law_spread" V2 f fd)(qA:mg "range"=none)(qi:Cal P w K mg base "_law_cell" 1 ["script","k"] (spE K C 2 Yr)):FnOk P w K mg base CX0 2 f fd ["script","at","many","span","side"] (spE K C 5 Y6) :=
 okE F sc_law_spread rfl fun _ _ _ _ _ _ hr hu=>⟨_,(Jf (psN 5 sc_law_spread.nd (Jp YI (Jp Uy (Jk qi (hrM hr) rfl (Ja (pv 0) (Ja (pv 1) Je))) (Jp (Js (K:=K) rfl) (Jp W6 Ji (pv 4)) Ji)) (pv 4)))
  (Jf (psN 6 sc_law_spread.nd (YW Je))
  (Jf (Um Gh rfl (Jc2 rfl qA (Ja (pv 2) Je)) (JM (i:=7) sc_law_spread.nd rfl (.inl rfl)) (Jf (psN 8 sc_law_spread.nd (Jp (Js (K:=K) rfl) Ji (Jp Uy (Jk qi (hrM hr) rfl (Ja (pv 0) (Ja (Jp (Js (K:=K) rfl) (Jp (Js (K:=K) rfl) (pv 1) Ji) (Jp W6 Ji (pv 7))) Je))) (pv 3))))
  (Jf (Yw (Ym (K:=K) rfl QZ Gw Gx Uf (pv 6) (Ja (Ub (Ja (pv 5) (Ja (pv 8) Je))) Je)))
  (Jh (psN 5 sc_law_spread.nd (Jp (Js (K:=K) rfl) (Jp (Js (K:=K) rfl) (Jp (Js (K:=K) rfl) (pv 5) (pv 8)) Ji) (Jp Uy (Jk qi (hrM hr) rfl (Ja (pv 0) (Ja (Jp (Js (K:=K) rfl) (Jp (Js (K:=K) rfl) (pv 1) Ji) (Jp W6 Ji (pv 7))) Je))) (pv 3))))))))
  (Jh (Jv (pv 6)))))),(Jq (JB (Jn Ul (Jn VJ (Jt (Jb (Jc 0) (Jb (Jc 1) Jg))) (Jn JK (Jn JbL Jm (Jc 4)) Jm)) (Jc 4)))
  (Jq (We (US Jg))
  (Jq (Wd (JoT (Jb (Jc 2) Jg)) (JZ 7) (Jq (JB (Jn JK Jm (Jn VJ (Jt (Jb (Jc 0) (Jb (Jn JK (Jn JK (Jc 1) Jm) (Jn JbL Jm (Jc 7))) Jg))) (Jc 3))))
  (Jq (Jck (Vp (Jb (Jc 5) (Jb (Jc 8) Jg))))
  (JB (Jn JK (Jn JK (Jn JK (Jc 5) (Jc 8)) Jm) (Jn VJ (Jt (Jb (Jc 0) (Jb (Jn JK (Jn JK (Jc 1) Jm) (Jn JbL Jm (Jc 7))) Jg))) (Jc 3)))))))
  VC)))⟩
theorem sc_law_some:FnScope ["script","most","lead","span","side"] ["script","most"] (Jj Ze):=by walk_at "c"
theorem JfA{f:Qd}{fd:Qz}(F:Fun K "_law_some" "_law_some" Ze f fd)(qL:Cal P w K mg base "_law_spread" 2 ["script","at","many","span","side"] (spE K C 5 Y6))(qi:Cal P w K mg base "_law_cell" 1 ["script","k"] (spE K C 2 Yr)):FnOk P w K mg base CX0 3 f fd ["script","most"] (spE K C 2 UG) :=
 okE F sc_law_some rfl fun _ _ _ _ _ _ hr hu=>⟨_,(Jf (psN 2 sc_law_some.nd (Jk qi (hrM hr) rfl (Ja (pv 0) (Ja Ji Je))))
  (Jf (psN 3 sc_law_some.nd (pxK K (YW (Ja Ji (Ja Ji (Ja Ji (Ja (Jp JbS Ji Ji) Je))))) (Jp Uy (Jp WM (pv 2) Ji) Ji)))
  (Jf (psN 4 sc_law_some.nd (pxK K (YW (Ja Ji (Ja Ji (Ja (Jp JbS Ji Ji) Je)))) (Jp Uy (Jp WM (pv 2) Ji) Ji)))
  (Jh (Jv (Jk qL (hrM hr) rfl (Ja (pv 0) (Ja Ji (Ja (Jp Uy (pv 2) (Jp (Js (K:=K) rfl) (pv 1) Ji)) (Ja (pv 3) (Ja (pv 4) Je))))))))))),(Jq (JB (Jt (Jb (Jc 0) (Jb Jm Jg))))
  (Jq (JB (Jn UO (US (Jb Jm (Jb Jm (Jb Jm (Jb (Jn Jfu Jm Jm) Jg))))) (Jn VJ (Jn Jc1 (Jc 2) Jm) Jm)))
  (Jq (JB (Jn UO (US (Jb Jm (Jb Jm (Jb (Jn Jfu Jm Jm) Jg)))) (Jn VJ (Jn Jc1 (Jc 2) Jm) Jm)))
  (JL (Jt (Jb (Jc 0) (Jb Jm (Jb (Jn VJ (Jc 2) (Jn JK (Jc 1) Jm)) (Jb (Jc 3) (Jb (Jc 4) Jg))))))))))⟩
theorem sc_law:FnScope ["script","pairs","desk","k","seats"] ["script"] (Jj ZT):=by walk_at "c"
theorem Jqp{f:Qd}{fd:Qz}(F:Fun K "law" "law" ZT f fd)(qA:mg "range"=none)(qb:mg "len"=none)(qt:mg "min"=none)(D_text:CalD P w K mg base CD "text" 3 ["self"] (spE K C 1 Yg))(qd:Cal P w K mg base "_law_text" 1 ["pairs"] (spE K C 1 J3))(D_ahead:CalD P w K mg base CD "ahead" 8 ["self","seats","times"] (spE K C 3 JX))(qq:Cal P w K mg base "_law_gone" 1 ["pairs","seats"] (spE K C 2 YS))(qD:Cal P w K mg base "_law_seats" 1 ["cell"] (spE K C 1 Y0))(qw:Cal P w K mg base "_law_right" 12 ["desk","pairs","seats","times"] (JjN K C 4 YT))(wf:Cal P w K mg base "_law_far" 1 ["cell"] (spE K C 1 U6))(wE:CalM P w K mg base "Desk" CD 5 ["self","text"] (Jhh K C Ue))(qT:Cal P w K mg base "_law_some" 3 ["script","most"] (spE K C 2 UG))(TD:DkK K CD):FnOk P w K mg base CX0 13 f fd ["script"] (spE K C 1 Jgw) :=
 okE F sc_law rfl fun _ _ _ _ _ _ hr hu=>⟨_,(Jf (psN 1 sc_law.nd (Jk qT (hrM hr) rfl (Ja (pv 0) (Ja Ji Je))))
  (Jf (psN 2 sc_law.nd (Vf wE (hrM hr) rfl (Ja (Jk qd (hrM hr) rfl (Ja (pv 1) Je)) Je)))
  (Jf (J1 (PW.pt (JaL (JbW (Uo (K:=K) rfl (Jk qw (hrM hr) rfl (Ja (pv 2) (Ja (pv 1) (Ja JU (Ja (ZR V5 Ji) Je))))) (fun _=>rfl))) (Jao (JbW (Uo (K:=K) rfl (Jk qw (hrM hr) rfl (Ja (pv 2) (Ja (pv 1) (Ja Ji (Ja (Jp JbS Ji Ji) Je))))) (fun _=>rfl)))))) (Jh (Jv JbT)) JF)
  (Jf (Um Gh rfl (Jc3 rfl qA (Ja Ji (Ja (JE (U0 rfl) rfl qt WW (Ja (Jp YI (JE (J9 (K:=K) rfl) rfl qb Ui (Ja (pv 0) Je)) Ji) (Ja Ji Je))) (Ja Ji Je)))) (JM (i:=3) sc_law.nd rfl (.inl rfl)) (Jh (J1 (JbW (Uo (K:=K) rfl (Jk qw (hrM hr) rfl (Ja (pv 2) (Ja (pv 1) (Ja (Jk qD (hrM hr) rfl (Ja (pxK K (pv 0) (pv 3)) Je)) (Ja (Jk wf (hrM hr) rfl (Ja (pxK K (pv 0) (Jp (Js (K:=K) rfl) (pv 3) Ji)) Je)) Je))))) (fun _=>rfl))) (Jh (Jv JbT)) JF)))
  (Jf (Um Gh rfl (Jc3 rfl qA (Ja Ji (Ja (Jp YI (JE (J9 (K:=K) rfl) rfl qb Ui (Ja (pv 0) Je)) Ji) (Ja Ji Je)))) (JM (i:=3) sc_law.nd rfl (.inl rfl)) (Jf (psN 4 sc_law.nd (Jk qD (hrM hr) rfl (Ja (pxK K (pv 0) (pv 3)) Je)))
  (Jh (J1 (Jr (VZ (K:=K) rfl hu) (VL D_ahead TD.cl (hrM hr) (pv 2) (Ja (pv 4) (Ja Ji Je))) (Jk qd (hrM hr) rfl (Ja (Jk qq (hrM hr) rfl (Ja (pv 1) (Ja (pv 4) Je))) Je)) (Jy _)) (Jh (Jv JbT)) JF))))
  (Jh (Jv (Jed (Vd (K:=K) rfl hu) (Jan D_text TD.cl (hrM hr) (pv 2)) (Jk qd (hrM hr) rfl (Ja (pv 1) Je)) (Jy _))))))))),(Jq (JB (Jt (Jb (Jc 0) (Jb Jm Jg))))
  (Jq (We (Jrb TD (Jt (Jb (Jc 1) Jg))))
  (Jq (Jo9 (JsT (Jhr (Jmc (Jb (Jc 1) (Jb Yx (Jb (Jem ZZ Jm) Jg))))) (Jhr (Jmc (Jb (Jc 1) (Jb Jm (Jb (Jn Jfu Jm Jm) Jg)))))) (JL Jg7) JV)
  (Jq (Wd (JoU (Jb Jm (Jb (YB JcG (Jb (Jn Ul (YB VD (Jb (Jc 0) Jg)) Jm) (Jb Jm Jg))) (Jb Jm Jg)))) (JZ 3) (Jo9 (Jhr (Jmc (Jb (Jc 1) (Jb (Jt (Jb (Jn UO (Jc 0) (Jc 3)) Jg)) (Jb (Jt (Jb (Jn UO (Jc 0) (Jn JK (Jc 3) Jm)) Jg)) Jg))))) (JL Jg7) JV))
  (Jq (Wd (JoU (Jb Jm (Jb (Jn Ul (YB VD (Jb (Jc 0) Jg)) Jm) (Jb Jm Jg)))) (JZ 3) (Jq (JB (Jt (Jb (Jn UO (Jc 0) (Jc 3)) Jg)))
  (Y8 (JD (Jn Jd1 (Zh TD (by decide +kernel) (Jc 2) (Jb (Jc 4) (Jb Jm Jg))) (Jt (Jb (Jt (Jb (Jc 1) (Jb (Jc 4) Jg))) Jg)))) (JL Jg7) JV)))
  (JL (Jn JbJ (Zh TD (by decide +kernel) (Jc 2) Jg) (Jt (Jb (Jc 1) Jg)))))))))⟩
end
theorem vl1{α:Type}{us:List α}(h:us.length=1):∃a,us=[a]:=match us,h with|[a],_=>⟨a,rfl⟩
theorem vl2{α:Type}{us:List α}(h:us.length=2):∃a b,us=[a,b]:=match us,h with|[a,b],_=>⟨a,b,rfl⟩
theorem vl3{α:Type}{us:List α}(h:us.length=3):∃a b c,us=[a,b,c]:=match us,h with|[a,b,c],_=>⟨a,b,c,rfl⟩
theorem vl4{α:Type}{us:List α}(h:us.length=4):∃a b c d,us=[a,b,c,d]:=match us,h with|[a,b,c,d],_=>⟨a,b,c,d,rfl⟩
theorem vl5{α:Type}{us:List α}(h:us.length=5):∃a b c d e,us=[a,b,c,d,e]:=match us,h with|[a,b,c,d,e],_=>⟨a,b,c,d,e,rfl⟩
local macro_rules | `(tactic| walk_at "b")=>`(tactic| (intro _ _ _ _ _ _ us hl;first | (obtain⟨_,e⟩:=vl1 hl;subst e;rfl) | (obtain⟨_,_,e⟩:=vl2 hl;subst e;rfl) | (obtain⟨_,_,_,e⟩:=vl3 hl;subst e;rfl) | (obtain⟨_,_,_,_,e⟩:=vl4 hl;subst e;rfl) | (obtain⟨_,_,_,_,_,e⟩:=vl5 hl;subst e;rfl)))
theorem all_mk{l:PySem.W.OpenLaw}{w:QJ}{K:Qw}{h:Q0}{mg:Str->Option Qc}{fa:Qd}{CD:Qd}{C:Qd}{f47:Qd}{od47 an47:Option Qd}{sl47:Array (Option Qc)}{oc47 kV47 dc47 pm47 cd47 ct47:Qc}{f1 f2 f3 f4 f5 f6 f7 f8 f9 f10 f11 f12 f13 f14 f15 f16 f17 f18 f19 f20 f21 f22 f23 f24 f25 f26 f27 f28 f29 f30 f31 f32 f33 f34 f35 f36 f37 f38 f39 f40 f41 f42 f43 f44 f45 f46:Qd}{d1 d2 d3 d4 d5 d6 d7 d8 d9 d10 d11 d12 d13 d14 d15 d16 d17 d18 d19 d20 d21 d22 d23 d24 d25 d26 d27 d28 d29 d30 d31 d32 d33 d34 d35 d36 d37 d38 d39 d40 d41 d42 d43 d44 d45 d46:Qz}{wn:Tok}{wy:Tok}{wG:Tok}{qU:Tok}{qX:Tok}{qM:Tok}(X:K.In h)(G:h.Ns mainGlobals mg)(hfa:mg "law"=some (.ref fa))
 (aCD:nsIn K mainGlobals "Desk"=some (some (.ref CD)))
 (aC:nsIn K mainGlobals "Row"=some (some (.ref C)))
 (a1:nsIn K mainGlobals "number_text"=some (some (.ref f1)))
 (F1:Fun K "number_text" "number_text" Vz f1 d1)
 (a2:nsIn K mainGlobals "written"=some (some (.ref f2)))
 (F2:Fun K "written" "written" Jaw f2 d2)
 (a3:findIn K (.ref CD) "text"=some (some (.ref f3)))
 (i3:isFn K (.ref f3)=true)
 (F3:Fun K "text" "Desk.text" Wy f3 d3)
 (a4:nsIn K mainGlobals "_law_text"=some (some (.ref f4)))
 (F4:Fun K "_law_text" "_law_text" Zf f4 d4)
 (a5:nsIn K mainGlobals "check_stretches"=some (some (.ref f5)))
 (F5:Fun K "check_stretches" "check_stretches" Up f5 d5)
 (a6:findIn K (.ref C) "__init__"=some (some (.ref f6)))
 (i6:isFn K (.ref f6)=true)
 (F6:Fun K "__init__" "Row.__init__" W9 f6 d6)
 (a7:nsIn K mainGlobals "by_layers"=some (some (.ref f7)))
 (F7:Fun K "by_layers" "by_layers" Wz f7 d7)
 (a8:nsIn K mainGlobals "thickened"=some (some (.ref f8)))
 (F8:Fun K "thickened" "thickened" WF f8 d8)
 (a9:nsIn K mainGlobals "balls_below"=some (some (.ref f9)))
 (F9:Fun K "balls_below" "balls_below" Vv f9 d9)
 (a10:nsIn K mainGlobals "ended_at"=some (some (.ref f10)))
 (F10:Fun K "ended_at" "ended_at" Za f10 d10)
 (a11:nsIn K mainGlobals "put_in"=some (some (.ref f11)))
 (F11:Fun K "put_in" "put_in" JbY f11 d11)
 (a12:nsIn K mainGlobals "check_table"=some (some (.ref f12)))
 (F12:Fun K "check_table" "check_table" Vy f12 d12)
 (a13:nsIn K mainGlobals "row_of"=some (some (.ref f13)))
 (F13:Fun K "row_of" "row_of" JbZ f13 d13)
 (a14:nsIn K mainGlobals "share_of"=some (some (.ref f14)))
 (F14:Fun K "share_of" "share_of" Zi f14 d14)
 (a15:nsIn K mainGlobals "check_seats"=some (some (.ref f15)))
 (F15:Fun K "check_seats" "check_seats" Vx f15 d15)
 (a16:nsIn K mainGlobals "shifted"=some (some (.ref f16)))
 (F16:Fun K "shifted" "shifted" Jau f16 d16)
 (a17:nsIn K mainGlobals "closed_up"=some (some (.ref f17)))
 (F17:Fun K "closed_up" "closed_up" WA f17 d17)
 (a18:nsIn K mainGlobals "gaps_of"=some (some (.ref f18)))
 (F18:Fun K "gaps_of" "gaps_of" Jar f18 d18)
 (a19:nsIn K mainGlobals "closes_at"=some (some (.ref f19)))
 (F19:Fun K "closes_at" "closes_at" WB f19 d19)
 (a20:nsIn K mainGlobals "thinned"=some (some (.ref f20)))
 (F20:Fun K "thinned" "thinned" Jav f20 d20)
 (a21:nsIn K mainGlobals "ball_at"=some (some (.ref f21)))
 (F21:Fun K "ball_at" "ball_at" Jaq f21 d21)
 (a22:nsIn K mainGlobals "owed_at"=some (some (.ref f22)))
 (F22:Fun K "owed_at" "owed_at" Jat f22 d22)
 (a23:nsIn K mainGlobals "struck"=some (some (.ref f23)))
 (F23:Fun K "struck" "struck" Jb0 f23 d23)
 (a24:nsIn K mainGlobals "table_of"=some (some (.ref f24)))
 (F24:Fun K "table_of" "table_of" Zj f24 d24)
 (a25:nsIn K mainGlobals "after"=some (some (.ref f25)))
 (F25:Fun K "after" "after" Jej f25 d25)
 (a26:findIn K (.ref CD) "ahead"=some (some (.ref f26)))
 (i26:isFn K (.ref f26)=true)
 (F26:Fun K "ahead" "Desk.ahead" V1 f26 d26)
 (a27:nsIn K mainGlobals "_law_gone"=some (some (.ref f27)))
 (F27:Fun K "_law_gone" "_law_gone" Zd f27 d27)
 (a28:nsIn K mainGlobals "_law_seats"=some (some (.ref f28)))
 (F28:Fun K "_law_seats" "_law_seats" WD f28 d28)
 (a29:nsIn K mainGlobals "lines_of"=some (some (.ref f29)))
 (F29:Fun K "lines_of" "lines_of" Zg f29 d29)
 (a30:nsIn K mainGlobals "number_told"=some (some (.ref f30)))
 (F30:Fun K "number_told" "number_told" VA f30 d30)
 (a31:nsIn K mainGlobals "number_within"=some (some (.ref f31)))
 (F31:Fun K "number_within" "number_within" UQ f31 d31)
 (a32:nsIn K mainGlobals "behind_goings"=some (some (.ref f32)))
 (F32:Fun K "behind_goings" "behind_goings" UP f32 d32)
 (a33:nsIn K mainGlobals "behind_words"=some (some (.ref f33)))
 (F33:Fun K "behind_words" "behind_words" Vg f33 d33)
 (a34:nsIn K mainGlobals "behind_deed"=some (some (.ref f34)))
 (F34:Fun K "behind_deed" "behind_deed" Vw f34 d34)
 (a35:findIn K (.ref CD) "do"=some (some (.ref f35)))
 (i35:isFn K (.ref f35)=true)
 (F35:Fun K "do" "Desk.do" Jap f35 d35)
 (a36:nsIn K mainGlobals "_law_seats_word"=some (some (.ref f36)))
 (F36:Fun K "_law_seats_word" "_law_seats_word" UA f36 d36)
 (a37:nsIn K mainGlobals "_law_pairs_told"=some (some (.ref f37)))
 (F37:Fun K "_law_pairs_told" "_law_pairs_told" Uz f37 d37)
 (a38:nsIn K mainGlobals "_law_right"=some (some (.ref f38)))
 (F38:Fun K "_law_right" "_law_right" WC f38 d38)
 (a39:nsIn K mainGlobals "_law_far"=some (some (.ref f39)))
 (F39:Fun K "_law_far" "_law_far" Jas f39 d39)
 (a40:nsIn K mainGlobals "stretch_told"=some (some (.ref f40)))
 (F40:Fun K "stretch_told" "stretch_told" Vh f40 d40)
 (a41:nsIn K mainGlobals "stretches_told"=some (some (.ref f41)))
 (F41:Fun K "stretches_told" "stretches_told" UB f41 d41)
 (a42:nsIn K mainGlobals "read"=some (some (.ref f42)))
 (F42:Fun K "read" "read" Jg8 f42 d42)
 (a43:findIn K (.ref CD) "__init__"=some (some (.ref f43)))
 (i43:isFn K (.ref f43)=true)
 (F43:Fun K "__init__" "Desk.__init__" Wx f43 d43)
 (a44:nsIn K mainGlobals "_law_cell"=some (some (.ref f44)))
 (F44:Fun K "_law_cell" "_law_cell" Zc f44 d44)
 (a45:nsIn K mainGlobals "_law_spread"=some (some (.ref f45)))
 (F45:Fun K "_law_spread" "_law_spread" V2 f45 d45)
 (a46:nsIn K mainGlobals "_law_some"=some (some (.ref f46)))
 (F46:Fun K "_law_some" "_law_some" Ze f46 d46)
 (a47:nsIn K mainGlobals "law"=some (some (.ref f47)))
 (l47:K.lookup f47=some ⟨oc47,od47,.func (fnOf "law" "law" (VU ZT) (Y9 ZT) (Jj ZT) .none kV47 dc47 pm47 an47 cd47 ct47),sl47⟩)
 (c47:codeIn K cd47 "law"=true)
 (k47:keepIn K (.ref f47)=true)
 (pg:plainGet K C GO=true)
 (hd:hasDictIn K C=true)
 (po:plainOver K C=true)
 (sa:findIn K (.ref C) "__setattr__"=some (some (.builtin "object.__setattr__")))
 (mk:makesIn K C=true)
 (kc:keepIn K (.ref C)=true)
 (nS:findIn K (.ref C) "stretches"=some none)
 (pgD:plainGet K CD GO=true)
 (hdD:hasDictIn K CD=true)
 (poD:plainOver K CD=true)
 (saD:findIn K (.ref CD) "__setattr__"=some (some (.builtin "object.__setattr__")))
 (mkD:makesIn K CD=true)
 (kcD:keepIn K (.ref CD)=true)
 (nT:findIn K (.ref CD) "trail"=some none)
 (wQ:nsIn K mainGlobals "str"=some none)
 (wM:nsIn K mainGlobals "tuple"=some none)
 (wR:nsIn K mainGlobals "len"=some none)
 (wA:nsIn K mainGlobals "enumerate"=some none)
 (wS:nsIn K mainGlobals "sum"=some none)
 (wT:nsIn K mainGlobals "max"=some none)
 (wU:nsIn K mainGlobals "min"=some none)
 (wL:nsIn K mainGlobals "sorted"=some none)
 (wF:nsIn K mainGlobals "reversed"=some none)
 (wO:nsIn K mainGlobals "list"=some none)
 (wV:nsIn K mainGlobals "zip"=some none)
 (wW:nsIn K mainGlobals "any"=some none)
 (wN:nsIn K mainGlobals "range"=some none)
 (wX:nsIn K mainGlobals "int"=some none)
 (wY:nsIn K mainGlobals "all"=some none)
 (wo:nsIn K mainGlobals "MOST_STRETCHES"=some (some (.int 30 wn)))
 (wz:nsIn K mainGlobals "MOST_LUMPS"=some (some (.int 30 wy)))
 (wH:nsIn K mainGlobals "FIGURES"=some (some (.str "0123456789" wG)))
 (qV:nsIn K mainGlobals "MOST_FIGURES_texts"=some (some (.int 200 qU)))
 (qY:nsIn K mainGlobals "MOST_FIGURES_desk"=some (some (.int 60 qX)))
 (qO:nsIn K mainGlobals "MOST_FIGURES_OF_TIMES"=some (some (.int 30 qM)))
 (hNo:nsIn K mainGlobals "early_lines"=some none)
:∃fd:Qz,(∀(s:Qe) (v:Qc),BindsTo s fd ⟨[v],[]⟩ [("script",v)])/\∀base:Q0,K.In base->base.Ns mainGlobals mg->FnOk l.prog w K mg base CX0 13 fa fd ["script"] (Jiv K):=by
 have e:=hfa.symm.trans (mg_of X G a47);cases e
 have T:RowC K C:=⟨⟨pg,hd,po,sa⟩,nS⟩
 have wZ:=mg_of X G aC
 have TD:DkK K CD:=⟨aCD,⟨pgD,hdD,poD,saD⟩,nT⟩
 have wP:=mg_of X G aCD
 have hT:=Jf0 hNo
 have qH:=mg_none_of X G wQ
 have wx:=mg_none_of X G wM
 have qb:=mg_none_of X G wR
 have qa:=mg_none_of X G wA
 have ql:=mg_none_of X G wS
 have wI:=mg_none_of X G wT
 have qt:=mg_none_of X G wU
 have wp:=mg_none_of X G wL
 have q9:=mg_none_of X G wF
 have wa:=mg_none_of X G wO
 have ww:=mg_none_of X G wV
 have wJ:=mg_none_of X G wW
 have qA:=mg_none_of X G wN
 have wv:=mg_none_of X G wX
 have wK:=mg_none_of X G wY
 have qe:GV mg "MOST_STRETCHES" (.int 30):=⟨_,mg_of X G wo,⟨_,rfl⟩⟩
 have qP:GV mg "MOST_LUMPS" (.int 30):=⟨_,mg_of X G wz,⟨_,rfl⟩⟩
 have wm:GV mg "FIGURES" (.str "0123456789"):=⟨_,mg_of X G wH,⟨_,rfl⟩⟩
 have qk:GV mg "MOST_FIGURES_texts" (.int 200):=⟨_,mg_of X G qV,⟨_,rfl⟩⟩
 have qm:GV mg "MOST_FIGURES_desk" (.int 60):=⟨_,mg_of X G qY,⟨_,rfl⟩⟩
 have qh:GV mg "MOST_FIGURES_OF_TIMES" (.int 30):=⟨_,mg_of X G qO,⟨_,rfl⟩⟩
 have F47:=Jkz (st:=ZT) l47 c47 k47;refine⟨fnOf "law" "law" (VU ZT) (Y9 ZT) (Jj ZT) .none kV47 dc47 pm47 an47 cd47 ct47,fun s v=>.of_eq rfl,fun base _ _=>?_⟩
 have Z:PB l.prog w base:=⟨⟩
 have qz:=JH Z F1 (JbQ (C:=C) F1 qH) (mg_of X G a1) (by walk_at "b")
 have qE:=JH Z F2 (JgZ (C:=C) F2 qz T) (mg_of X G a2) (by walk_at "b")
 have D_text:CalD l.prog w K mg base CD "text" 3 ["self"] (spE K C 1 Yg):=⟨f3,_,Jd4 (C:=C) F3 qE TD,⟨a3,i3,F3.kp⟩,F3.binds (by walk_at "b")⟩
 have qd:=JH Z F4 (JfB (C:=C) F4 qH) (mg_of X G a4) (by walk_at "b")
 have qr:=JH Z F5 (W5 F5 ) (mg_of X G a5) (by walk_at "b")
 have qC:CalM l.prog w K mg base "Row" C 2 ["self","stretches"] (V4 C K):=⟨f6,_,⟨mk,a6,i6,kc⟩,Jfw F6 wx qb qe qr T,wZ,F6.binds (by walk_at "b")⟩
 have qo:=JH Z F7 (Jd5 (C:=C) F7 qa T) (mg_of X G a7) (by walk_at "b")
 have qR:=JH Z F8 (Jea (C:=C) F8 qC qo) (mg_of X G a8) (by walk_at "b")
 have qI:=JH Z F9 (JbM (C:=C) F9 ql wI qt T) (mg_of X G a9) (by walk_at "b")
 have qZ:=JH Z F10 (Jfx (C:=C) F10 qa qI) (mg_of X G a10) (by walk_at "b")
 have wq:=JH Z F11 (Jjv (C:=C) F11 wp qb ql qe qC qZ T) (mg_of X G a11) (by walk_at "b")
 have qj:=JH Z F12 (JbP (C:=C) F12 ql qP) (mg_of X G a12) (by walk_at "b")
 have wu:=JH Z F13 (Jjw (C:=C) F13 q9 wa ww qR wq qC qj) (mg_of X G a13) (by walk_at "b")
 have wb:=JH Z F14 (JfD (C:=C) F14 qt) (mg_of X G a14) (by walk_at "b")
 have qJ:=JH Z F15 (JbO (C:=C) F15 ) (mg_of X G a15) (by walk_at "b")
 have wk:=JH Z F16 (JgX (C:=C) F16 wb qj qJ) (mg_of X G a16) (by walk_at "b")
 have qS:=JH Z F17 (Jd6 (C:=C) F17 ql) (mg_of X G a17) (by walk_at "b")
 have wg:=JH Z F18 (JgU (C:=C) F18 ql ww T) (mg_of X G a18) (by walk_at "b")
 have qp:=JH Z F19 (Jd7 (C:=C) F19 qt wg T) (mg_of X G a19) (by walk_at "b")
 have qx:=JH Z F20 (JgY (C:=C) F20 qt qC qS qo qp T) (mg_of X G a20) (by walk_at "b")
 have qW:=JH Z F21 (JgT (C:=C) F21 wJ T) (mg_of X G a21) (by walk_at "b")
 have wj:=JH Z F22 (JgW (C:=C) F22 qW) (mg_of X G a22) (by walk_at "b")
 have wt:=JH Z F23 (Jjx (C:=C) F23 qa ql wj qx T) (mg_of X G a23) (by walk_at "b")
 have wc:=JH Z F24 (JfE (C:=C) F24 qx wt qp T) (mg_of X G a24) (by walk_at "b")
 have qQ:=JH Z F25 (Jlb (C:=C) F25 wu wk wc) (mg_of X G a25) (by walk_at "b")
 have D_ahead:CalD l.prog w K mg base CD "ahead" 8 ["self","seats","times"] (spE K C 3 JX):=⟨f26,_,Jcr (C:=C) F26 qE qQ TD,⟨a26,i26,F26.kp⟩,F26.binds (by walk_at "b")⟩
 have qq:=JH Z F27 (Jfz (C:=C) F27 qA qb qt) (mg_of X G a27) (by walk_at "b")
 have qD:=JH Z F28 (Jd9 (C:=C) F28 ) (mg_of X G a28) (by walk_at "b")
 have we:=JH Z F29 (JfC (C:=C) F29 ) (mg_of X G a29) (by walk_at "b")
 have qg:=JH Z F30 (JbR (C:=C) F30 wv wK qb wm qk) (mg_of X G a30) (by walk_at "b")
 have qf:=JH Z F31 (Jam (C:=C) F31 qb qg) (mg_of X G a31) (by walk_at "b")
 have qB:=JH Z F32 (Jal (C:=C) F32 qm qQ qf) (mg_of X G a32) (by walk_at "b")
 have qF:=JH Z F33 (JaS (C:=C) F33 qb qh qB qf) (mg_of X G a33) (by walk_at "b")
 have qK:=JH Z F34 (JbN (C:=C) F34 qF) (mg_of X G a34) (by walk_at "b")
 have D_do:CalD l.prog w K mg base CD "do" 11 ["self","text"] (Jhi K C Ux):=⟨f35,_,JgS (C:=C) F35 qa qb wa we qK TD hT,⟨a35,i35,F35.kp⟩,F35.binds (by walk_at "b")⟩
 have qu:=JH Z F36 (ZN (C:=C) F36 qH) (mg_of X G a36) (by walk_at "b")
 have qv:=JH Z F37 (ZM (C:=C) F37 wv) (mg_of X G a37) (by walk_at "b")
 have qw:=JH Z F38 (Jd8 (C:=C) F38 qH ql qb D_text D_do qu qd qq D_ahead qv TD hT) (mg_of X G a38) (by walk_at "b")
 have wf:=JH Z F39 (JgV (C:=C) F39 ) (mg_of X G a39) (by walk_at "b")
 have qG:=JH Z F40 (JaT (C:=C) F40 qg) (mg_of X G a40) (by walk_at "b")
 have qy:=JH Z F41 (ZO (C:=C) F41 qG) (mg_of X G a41) (by walk_at "b")
 have wD:=JH Z F42 (Jny (C:=C) F42 qb qC qy) (mg_of X G a42) (by walk_at "b")
 have wE:CalM l.prog w K mg base "Desk" CD 5 ["self","text"] (Jhh K C Ue):=⟨f43,_,⟨mkD,a43,i43,kcD⟩,Jd3 (C:=C) F43 wD TD hT,wP,F43.binds (by walk_at "b")⟩
 have qi:=JH Z F44 (Jfy (C:=C) F44 qb) (mg_of X G a44) (by walk_at "b")
 have qL:=JH Z F45 (Jcs (C:=C) F45 qA qi) (mg_of X G a45) (by walk_at "b")
 have qT:=JH Z F46 (JfA (C:=C) F46 qL qi) (mg_of X G a46) (by walk_at "b");exact Jm4 (Jqp (C:=C) F47 qA qb qt D_text qd D_ahead qq qD qw wf wE qT TD) (Jf0 hNo) law_true
theorem walk{l:PySem.W.OpenLaw}{q:Qu}{loose:List Str}{XP:(Str->Option Qc)->Q0->Prop}{YP:QJ->Q0->Prop}{d:DefRec}{K:Params->Qw}(hn:l.most=some 63)(hdf:d.params.defaults=[])
 (hY:∀(w:QJ) (h:Q0),YP w h->(K w.params).In h)
 (F:∀(w:QJ) (mg:Str->Option Qc) (fa:Qd) (h:Q0),(K w.params).In h->h.Ns mainGlobals mg->mg d.name=some (.ref fa) ->
  ∃fd:Qz,(∀(s:Qe) (u:Qc),BindsTo s fd ⟨[u],[]⟩ [("script",u)])/\∀base:Q0,(K w.params).In base->base.Ns mainGlobals mg->FnOk l.prog w (K w.params) mg base CX0 13 fa fd ["script"] (Jiv (K w.params))) :
 PySem.W.WalkO q loose XP YP l.row.toRowW d [] (fun f vs=>PySem.call f vs) :=
 L2.Jow (n:=63) (k:=13) (x:="script") (CX:=fun _=>CX0) (sp:=fun w=>Jiv (K w.params)) hn (by decide) hdf ⟨rfl,by decide,by decide⟩ hY F (fun _ _ a ns hl _ hS=>⟨a,ns,rfl,hS,hl,fun _=>rfl⟩) fun _ _ _ _ _ z=>z
end LK
end
namespace PySem.W.Fast
theorem tw9006588026259386466:True:=⟨⟩
theorem tw16437891509241655072:True:=⟨⟩
theorem tw17582987735268703885:True:=⟨⟩
theorem tw7223045680246632844:True:=⟨⟩
theorem tw146787828187535267:True:=⟨⟩
theorem tw13275883282846835528:True:=⟨⟩
theorem tw16779399543902447648:True:=⟨⟩
theorem tw10884964260741610909:True:=⟨⟩
theorem tw1038639651363183805:True:=⟨⟩
theorem tw9424244217382732802:True:=⟨⟩
theorem tw17862598527285173485:True:=⟨⟩
theorem tw14330034853729557493:True:=⟨⟩
theorem tw11600783735473282271:True:=⟨⟩
theorem tw12410313440996328593:True:=⟨⟩
theorem tw6429705801814973662:True:=⟨⟩
theorem tw1088375677267110788:True:=⟨⟩
theorem tw10309661892050911407:True:=⟨⟩
theorem tw2809188880953902301:True:=⟨⟩
theorem tw3809502683174020199:True:=⟨⟩
theorem tw8365923654840977200:True:=⟨⟩
theorem tw14557959425742997560:True:=⟨⟩
theorem tw6028915180942371871:True:=⟨⟩
theorem tw11897277630683982125:True:=⟨⟩
theorem tw11630293883272473469:True:=⟨⟩
theorem tw8956357079803354100:True:=⟨⟩
theorem tw12194804893721289833:True:=⟨⟩
theorem tw12182430912218115799:True:=⟨⟩
theorem tw6339255637463757415:True:=⟨⟩
theorem tw14188155175029869332:True:=⟨⟩
theorem tw989536202395266057:True:=⟨⟩
theorem tw12201856896773333454:True:=⟨⟩
theorem tw13840186688594151942:True:=⟨⟩
theorem tw1222676837687324824:True:=⟨⟩
theorem tw7096918788266140027:True:=⟨⟩
theorem tw5878181264806580511:True:=⟨⟩
theorem tw17927080878420278156:True:=⟨⟩
theorem tw17384415636172517534:True:=⟨⟩
theorem tw723892749001769100:True:=⟨⟩
theorem tw12266340104864450836:True:=⟨⟩
theorem tw12465120217019375956:True:=⟨⟩
theorem tw2406889348495014410:True:=⟨⟩
theorem tw17758975507503308027:True:=⟨⟩
theorem tw1230584796736971655:True:=⟨⟩
theorem tw14689697626330955480:True:=⟨⟩
theorem tw8656124316579679469:True:=⟨⟩
theorem tw2398384326579031622:True:=⟨⟩
theorem tw7382135379502241656:True:=⟨⟩
theorem tw7075758879456655579:True:=⟨⟩
theorem tw13713213507739515942:True:=⟨⟩
theorem tw10398277959208505235:True:=⟨⟩
theorem tw17494813475654420249:True:=⟨⟩
theorem tw5497889389157516765:True:=⟨⟩
theorem tw5084716962302045196:True:=⟨⟩
theorem tw13205318455575066463:True:=⟨⟩
theorem tw9915323028803746286:True:=⟨⟩
theorem tw15999216955206898595:True:=⟨⟩
theorem tw10676443809600361082:True:=⟨⟩
theorem tw9900035584763641240:True:=⟨⟩
theorem tw14770766197466334968:True:=⟨⟩
theorem tw5775781638234825964:True:=⟨⟩
theorem tw6504255019440940534:True:=⟨⟩
theorem tw10244178360233885829:True:=⟨⟩
theorem tw11828159038121183185:True:=⟨⟩
theorem tw16882362470246123145:True:=⟨⟩
theorem tw17721544941890807440:True:=⟨⟩
theorem tw3949773717463851467:True:=⟨⟩
theorem tw4090555945745992696:True:=⟨⟩
theorem tw16621388109473897793:True:=⟨⟩
theorem tw8893484810260366698:True:=⟨⟩
theorem tw2196563503820305643:True:=⟨⟩
theorem tw15628263365859679501:True:=⟨⟩
theorem tw74257859057486525:True:=⟨⟩
theorem tw12589736866245176410:True:=⟨⟩
theorem tw12886769890944323658:True:=⟨⟩
theorem tw34469853628486642:True:=⟨⟩
theorem tw1903126570219579657:True:=⟨⟩
theorem tw7269215307524018585:True:=⟨⟩
theorem tw6613445923901547148:True:=⟨⟩
theorem tw4597697180845610747:True:=⟨⟩
theorem tw6632349104054916850:True:=⟨⟩
theorem tw15660282336655677186:True:=⟨⟩
theorem tw6039602781634445706:True:=⟨⟩
theorem tw6432625314501709009:True:=⟨⟩
theorem tw7405370217300004642:True:=⟨⟩
theorem tw9842193831110496401:True:=⟨⟩
theorem tw2422223580854158345:True:=⟨⟩
theorem tw4806462706733489390:True:=⟨⟩
theorem tw9477005914137997030:True:=⟨⟩
theorem tw13796395828313114995:True:=⟨⟩
theorem tw15238726672623752715:True:=⟨⟩
theorem tw8638188419615766942:True:=⟨⟩
theorem tw2819531307661776:True:=⟨⟩
theorem tw9944407284335050924:True:=⟨⟩
theorem tw3988948533063096303:True:=⟨⟩
theorem tw18184596535841288462:True:=⟨⟩
theorem tw15461407046118250067:True:=⟨⟩
theorem tw17778993654443319103:True:=⟨⟩
theorem tw11755147018874928176:True:=⟨⟩
theorem tw10049247905421764417:True:=⟨⟩
theorem tw18259626514601469144:True:=⟨⟩
theorem tw2643295171382394952:True:=⟨⟩
theorem tw6687723346827073638:True:=⟨⟩
theorem tw9765277560064062017:True:=⟨⟩
theorem tw5234630646274488387:True:=⟨⟩
theorem tw9361870464584995864:True:=⟨⟩
theorem tw7289523962425308286:True:=⟨⟩
theorem tw6485117361700790351:True:=⟨⟩
theorem tw8382285500080814874:True:=⟨⟩
theorem tw15684654078753269038:True:=⟨⟩
theorem tw9394120823392756721:True:=⟨⟩
theorem tw3520077721141667814:True:=⟨⟩
theorem tw6403530220733123593:True:=⟨⟩
theorem tw2967343149149684335:True:=⟨⟩
theorem tw11717670387737965417:True:=⟨⟩
theorem tw8056688439084895194:True:=⟨⟩
theorem tw15556431975228261649:True:=⟨⟩
theorem tw16834858448585453133:True:=⟨⟩
theorem tw6263465011861413141:True:=⟨⟩
theorem tw15145841680150511126:True:=⟨⟩
theorem tw10091831808539515405:True:=⟨⟩
theorem tw5000254052577855785:True:=⟨⟩
theorem tw6548467070954654731:True:=⟨⟩
theorem tw5980323634421390276:True:=⟨⟩
theorem tw17140943140345688404:True:=⟨⟩
theorem tw2261516217496164884:True:=⟨⟩
theorem tw5721712591316493843:True:=⟨⟩
theorem tw13937441522489348063:True:=⟨⟩
theorem tw17868880532844744186:True:=⟨⟩
theorem tw3466219612831678186:True:=⟨⟩
theorem tw1554722320416409861:True:=⟨⟩
theorem tw16228148081328998424:True:=⟨⟩
theorem tw2946647886967265510:True:=⟨⟩
theorem tw833393922406932107:True:=⟨⟩
theorem tw11473517292803299059:True:=⟨⟩
theorem tw4046815881541023097:True:=⟨⟩
theorem tw8289480720678038448:True:=⟨⟩
theorem tw3918658110399092706:True:=⟨⟩
theorem tw896246617740193158:True:=⟨⟩
theorem tw11612547186330978006:True:=⟨⟩
theorem tw161220976945961707:True:=⟨⟩
theorem tw5227355651400629869:True:=⟨⟩
theorem tw15698522919857907440:True:=⟨⟩
theorem tw13165017480717388160:True:=⟨⟩
theorem tw17774822473436235420:True:=⟨⟩
theorem tw6878829724535740585:True:=⟨⟩
theorem tw10080521557682459576:True:=⟨⟩
theorem tw4364695991046314487:True:=⟨⟩
theorem tw4760191450917081462:True:=⟨⟩
theorem tw5385649050528842571:True:=⟨⟩
theorem tw14489551349241047173:True:=⟨⟩
theorem tw18355640059821465089:True:=⟨⟩
theorem tw6162347365850113642:True:=⟨⟩
theorem tw18205085121613688861:True:=⟨⟩
theorem tw15241225493044412232:True:=⟨⟩
theorem tw15081796188296175280:True:=⟨⟩
theorem tw2520592873966006883:True:=⟨⟩
theorem tw985607271584803039:True:=⟨⟩
theorem tw8251005481791954872:True:=⟨⟩
theorem tw8913679193824492669:True:=⟨⟩
theorem tw16196840906420157487:True:=⟨⟩
theorem tw10044486593627957260:True:=⟨⟩
theorem tw8263245828147664144:True:=⟨⟩
theorem tw5313440463373685925:True:=⟨⟩
theorem tw12359015760128426674:True:=⟨⟩
theorem tw3787287392763296865:True:=⟨⟩
theorem tw8411068720061679064:True:=⟨⟩
theorem tw4967313643482905230:True:=⟨⟩
theorem tw603660414071938456:True:=⟨⟩
theorem tw11203732384995446884:True:=⟨⟩
theorem tw12033194903143745107:True:=⟨⟩
theorem tw16234180406128440742:True:=⟨⟩
theorem tw11446522964763993066:True:=⟨⟩
theorem tw3230257964287160310:True:=⟨⟩
theorem tw3839189495945736933:True:=⟨⟩
theorem tw16865117058838464870:True:=⟨⟩
theorem tw11297321437218268304:True:=⟨⟩
theorem tw2225689060598508729:True:=⟨⟩
theorem tw12347416165244990697:True:=⟨⟩
theorem tw7010664344394569827:True:=⟨⟩
theorem tw8724109546509051941:True:=⟨⟩
theorem tw3495176722262267172:True:=⟨⟩
theorem tw12314090969779305364:True:=⟨⟩
theorem tw13977617463704615218:True:=⟨⟩
theorem tw15439494442819533807:True:=⟨⟩
theorem tw9528113328107828961:True:=⟨⟩
theorem tw11115095742693731240:True:=⟨⟩
theorem tw11877175319826155001:True:=⟨⟩
theorem tw4779724452674012924:True:=⟨⟩
theorem tw12928764582055037110:True:=⟨⟩
theorem tw6218875231012416775:True:=⟨⟩
theorem tw15706735465822175627:True:=⟨⟩
end PySem.W.Fast
open PySem PySem.W PyProof.Rows
set_option maxRecDepth 100000 in
set_option maxHeartbeats 0 in
theorem PySem.Challenge.cw_lumprow_k74_whole_jumps_by_text_holds : PySem.Challenge.rw_lumprow_k74_whole_jumps_by_text.Holds := by
 w_on; o_law; k_head; (case hw => w_witness2)
 k_fill
 refine LK.walk (l := PySem.Challenge.rw_lumprow_k74_whole_jumps_by_text) rfl rfl (fun w h Y => PySem.W.kIn_of Y) ?F
 case F =>
  intro w mg fa h KX G hmg; apply LK.all_mk KX G hmg; all_goals first | exact L2.Jkz (by k_is) (by k_is) (by k_is) | k_is
