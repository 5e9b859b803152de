import PyProof.Rows.All
import Wide.All
import OpenK.AllK
import Wide.FinOn
import Lean
import PyProof.EqAt
import PyProof.EqKinds
import PyProof.TupleCall
import PySem.Challenge.RW_lumprow_k50_settles_by_goings
open Array renaming length_toList→GJ,getD_eq_getD_getElem?→GN,getElem?_toList→LJ
open Bool renaming false_ne_true→QI,and_eq_true→QL,eq_iff_iff→GQ,false_or→G1,false_eq_true→Ks,or_eq_true→K4,and_eq_false_iff→K7,or_assoc→Lp,true_or→Rx
open False renaming elim→Gx
open Int renaming le_refl→QD,min_eq_right→G7,min_eq_left→Ki,natCast_add→KA,add_mul→KE,max_eq_right→KY,mul_add→KZ,mul_le_mul_of_nonneg_left→K0,zero_add→Li,min_le_right→Lj,add_assoc→Lq,emod_nonneg→Lu,mul_one→Ly,le_total→LH,mul_le_mul_of_nonneg_right→LS,one_mul→LW,add_zero→L9,fdiv_eq_ediv_of_nonneg→Me,emod_lt_of_pos→Ml,le_ediv_iff_mul_le→MS,max_eq_left→MW,min_le_left→MX,le_max_left→MY,max_le→Rr,sub_zero→RA,mul_comm→RB
open List renaming mem_cons_of_mem→Qc,map_cons→Qd,mem_cons_self→Qf,mem_cons→Qj,getElem?_eq_some_iff→Qk,getElem?_map→Qm,length_cons→Qo,size_toArray→Qr,mem_map→Qu,length_map→Qv,map_map→Qw,sum_cons→QA,getElem?_mapIdx→QB,replicate→QC,map_congr_left→QE,length_append→QG,getElem?_eq_getElem→QM,count_cons→QN,pairwise_cons→QO,range→QQ,eq_nil_of_length_eq_zero→QS,getElem?_append_right→QU,map_append→QV,getElem?_append_left→QW,mem_of_getElem?→QX,toArray→QY,replicate_succ→Q3,foldl_cons→Q4,ext_getElem?→Ga,mem_map_of_mem→Gc,getD_eq_getElem?_getD→Ge,getElem?_set→Gg,mem_nil_iff→Gh,not_mem_nil→Gi,getElem?_eq_none→Gj,nodup_cons→Gk,flatMap_cons→Gn,length_singleton→Gq,mem_iff_getElem?→Gr,filter_cons_of_neg→Gs,filter_cons_of_pos→Gu,mem_singleton→Gz,mem_append_right→GA,mem_append→GB,reverse_cons→GF,mem_iff_getElem→GG,pairwise_iff_getElem→GH,getElem?_reverse→GK,append_assoc→GM,length_mapIdx→GP,append_nil→GR,map_reverse→GS,length_zip→G5,length_replicate→G6,mem_reverse→G8,any_cons→Ka,flatten_cons→Kf,pairwise_map→Kg,of_mem_zip→Kh,filterMap_cons→Kj,zip→Kl,length_reverse→Km,count_pos_iff→Kt,map_replicate→Ku,sum_append→Ky,map_nil→KC,getElem?_zipIdx→KF,length_take→KO,zipIdx_cons→KQ,cons_append→KW,mem_replicate→K1,mem_filter→K2,find?_cons→K3,lookup→K9,pairwise_append→Le,all_eq_true→Lg,any_eq_true→Lh,drop_eq_getElem_cons→Ll,getElem?_eq_none_iff→Lm,nil_append→Lr,length_nil→Ls,count_eq_zero→Lx,length→Lz,eraseIdx_cons_succ→LB,count_append→LI,min?_eq_some_iff→LM,max?_eq_some_iff→LN,length_filter_le→LO,mem_append_left→LU,map_id'→Ma,snd_lt_of_mem_zipIdx→Mn,nodup_append→Mr,length_range→Ms,foldl_append→Mt,getElem?_replicate→MB,length_drop→MD,filter_cons→ME,ext_getElem→MI,mapIdx_cons→MJ,pairwise_replicate→MK,mem_flatMap→ML,getElem?_set_self→MM,filter_eq_nil_iff→MR,forIn_cons→MT,dropLast_eq_take→MZ,getElem?_zipWith→M0,min?_eq_none_iff→M4,getElem?_set_ne→M6,length_dropLast→Ra,range'→Rb,range_eq_range'→Rc,forIn_nil→Re,count_replicate→Ri,map_id→Rj
open List.Perm renaming cons_inv→Rq
open Nat renaming le_refl→Qx,ne_of_lt→QK,lt_of_lt_of_le→QT,le_trans→Q5,lt_irrefl→GD,zero_le→GZ,le_of_lt→G9,lt_succ_self→KN,ble_eq→Lb,ne_of_gt→Lf,lt_of_le_of_lt→Lv,add_sub_cancel→Lw,lt_succ_of_lt→LD,lt_or_ge→LF,le_succ_of_le→LG,le_of_eq→L5,zero_add→L8,lt_trans→MO,not_lt→Rp,min_self→Ry
open Ne renaming symm→Q2
open Option renaming bind_some→QZ,map_eq_some_iff→Gd,bind_assoc→GY,map_map→Kr,map_some→Kz,isSome_iff_exists→Mv
open Option.some renaming inj→Q0
open Prod renaming ext→Ke,swap→KB
open Prod.mk renaming injEq→Rl
open PyProof.Rows renaming slot_tuple_getitem→Q9,callWith_type1→GL,kmk_tree→M3
open PySem renaming wpAny_bind→Qa,Value→Qe,Addr→Qg,Shared→Qh,wpAny_pure→Qp,sizeLine→Qt,Program→Qy,Around→QF,World→QH,FuncData→QJ,Heap→QP,Expr→Q6,wpAny_field→Q8,wpAny_setField_rec→Gb,wpAny_callSpecial?_slot→Gf,wpAny_seqItems→Go,wpAny_newObj_type→Gw,wpAny_call_entry→GI,Stmt→G0,wpAny_truthy_bool→G2,wpAny_tryCatch→G3,wpAny_letGo→G4,mem_of_lookup→Kk,wpAny_Call_Name_kw→Kp,wpAny_passesOwn→Kx,wpAny_of_eq→KD,wpAny_mono→KG,wpAny_holding→KH,wpAny_attempt→KL,plainId_quiet→KM,wpAny_updateSeq→K5,wpAny_newFunctionEnv_cells→La,wpAny_rule→Lc,Scope→Ln,wpAny_Call_method0_late→LA,wpAny_isInstance→LQ,wpAny_updateSeq_pair→LV,wpAny_execs_nil→LX,wpAny_loadPart'→L1,codeAny_builtin→L3,evalArgs_none→L4,codeAny_mono→L6,Arguments→Mb,wpAny_pyIter_tuple→Md,isSubtype_type→Mi,wpAny_pyIter_list→Mo,Keyword→Mp,wpAny_onRaise→Mx,wpAny_specialOf→MU,Result→M7,wpAny_newTuple→Rf,isSubtype_stop→Rh,Within→Rs
open PySem.Around renaming under_plainId→Ld,frames_deeper→M8,under→Rv
open PySem.Builtin.Builtins renaming bindParams→Ko
open PySem.Builtin.List renaming listTooLong→KJ
open PySem.Builtin.Slice renaming slicePlaces→Kw,sliceAdjust→Lk,sliceApplied→Mg
open PySem.Builtin.SmallTypes renaming ownedTupleIsFree→Gm,nextOf→GU,ownedTupleHandOut→GX
open PySem.Builtin.Tuple renaming tupleExact→KI,tupleItemsOf→Mh
open PySem.Calls renaming callWith_builtin→Kn,Name_function_global→Mc,spliced_cons→Mf,evalArgs_plain→M9
open PySem.Code renaming isFrame→Rw
open PySem.F renaming plainAttrs_list→GC,slot_list_append→Kb,type_list_append→Kc,slot_tuple_iterator_next→Kq,plain_min_loop→KR,plain_max_loop→KS,slot_dict_items→KU,slot_enumerate_next→K6,plainAttrs_dict→LC,slot_dict_get→LL,args_tuple_iterator_next_1→LZ,slot_zip_next→L0,entry_tuple_iterator_next→L7,args_dict_items_1→Mm,args_tuple_add_2→Mw,entry_dict_items→My,slot_list_extend→Mz,type_list_extend→MA,entry_tuple_add→MC,args_dict_get_3→MF,args_enumerate_next_1→MG,type_dict_items→MH,slot_tuple_add→MN,entry_dict_get→MP
open PySem.Heap renaming get?_push_of_some→Qi,get?_push_size→Qn,lt_size→Qq,SameBut→QR,get?_update_other→Q1,size_push→GO,get?_update_self→Kv,get?_push_ne→Mq,ExtBut→Rg
open PySem.Heap.ExtBut renaming push→RC
open PySem.Heap.SameBut renaming update→GW
open PySem.Obj renaming mapSeq→Gy
open PySem.Paired renaming length→Mu
open PySem.PassesOwn renaming never→Gv
open PySem.PyData renaming canLayAll0→K8,eqvAll→Lo,eqv→LP,depthAll→LY,depth→MQ
open PySem.Shared renaming heap→RE
open PySem.Str renaming ofString→Q7
open PySem.W renaming Frag→Qz,codeHd_of_K→Rk,kitx_tuple→Rm,callWith_K→Rn,codeRec_of→Ro,kitx_dict→Ru
open PySem.W.KasT renaming kasWp→Mj,kasWp_bind→MV
open Sum.inl renaming inj→M5
set_option Elab.async false
set_option linter.all false
set_option maxRecDepth 100000
set_option maxHeartbeats 4000000
open PySem.W (instObj methodObj Frag lookIn plainGet hasDictIn findIn plainOver takerIn makesIn emptyDict specialIn isFn keepIn takesIn mroIn kitOne kia_one kitx_list cellsFrom_some fnOf codeIn nsIn codeHdIn kitAny kla_obj kla_fn mg_of mg_none_of)
noncomputable section
namespace L2
open PySem PySem.Spec PyProof.Rows

noncomputable abbrev Key:=Sum Int Str
noncomputable def W8:Key->Qe->Bool
 | .inl k,v=>Value.isInt k v
 | .inr x,v=>Value.isStrOf x v
noncomputable def JqK(w:QH):Key->Int
 | .inl k=>hashInt k
 | .inr x=>hashStr w x
theorem JK:∀{k:Key} {v:Qe},W8 k v=true->(∃i t,k=Sum.inl i/\v=Value.int i t)\/(∃x t,k=Sum.inr x/\v=Value.str x t)
 | .inl i,v,h=>by obtain⟨t,e⟩:=Value.isInt_shape (k:=i) (v:=v) h;exact .inl ⟨i,t,rfl,e⟩
 | .inr x,v,h=>by obtain⟨t,e⟩:=Value.isStrOf_shape (x:=x) (v:=v) h;exact .inr ⟨x,t,rfl,e⟩
theorem Jgs(i:Int)(t:Tok):W8 (.inl i) (.int i t)=true:=by simp[W8,Value.isInt]
theorem Jgt(x:Str)(t:Tok):W8 (.inr x) (.str x t)=true:=by simp[W8,Value.isStrOf]
theorem JmT(a b:Int):decide ((Sum.inl a:Key)=Sum.inl b)=(a == b):=by
 by_cases e:a=b
 ·subst e;simp
 ·have h:¬(Sum.inl a:Key)=Sum.inl b:=fun q=>e (M5 q)
  rw[decide_eq_false h];exact(beq_eq_false_iff_ne.mpr e).symm
theorem JmW(a b:Str):decide ((Sum.inr a:Key)=Sum.inr b)=decide (a=b):=by
 by_cases e:a=b
 ·subst e;simp
 ·have h:¬(Sum.inr a:Key)=Sum.inr b:=fun q=>e (Sum.inr.inj q)
  rw[decide_eq_false h,decide_eq_false e]
theorem JmU(a:Int)(b:Str):decide ((Sum.inl a:Key)=Sum.inr b)=false:=decide_eq_false (fun q=>nomatch q)
theorem JmV(a:Str)(b:Int):decide ((Sum.inr a:Key)=Sum.inl b)=false:=decide_eq_false (fun q=>nomatch q)

noncomputable def Jz(prog:Qy)(w:QH):PySem.KeyKind prog w Key where
 is:=W8
 hash:=JqK w
 inj:=fun v a b ha hb=>by
  rcases JK ha with ⟨i,t,rfl,rfl⟩|⟨x,t,rfl,rfl⟩
  ·rcases JK hb with ⟨j,u,rfl,e⟩|⟨y,u,rfl,e⟩
   ·injection e with e1 _;rw[e1]
   ·exact nomatch e
  ·rcases JK hb with ⟨j,u,rfl,e⟩|⟨y,u,rfl,e⟩
   ·exact nomatch e
   ·injection e with e1 _;rw[e1]
 byValue:=fun k v h=>by rcases JK h with ⟨i,t,rfl,rfl⟩|⟨x,t,rfl,rfl⟩ <;> rfl
 pyHash:=fun hv h=>by
  rcases JK hv with ⟨i,t,rfl,rfl⟩|⟨x,t,rfl,rfl⟩
  ·exact wpAny_pyHash_int h
  ·exact wpAny_pyHash_str h
 eqBool:=fun hu hv h=>by
  rcases JK hu with ⟨i,t,rfl,rfl⟩|⟨x,t,rfl,rfl⟩
  ·rcases JK hv with ⟨j,u,rfl,rfl⟩|⟨y,u,rfl,rfl⟩
   ·rw[JmT] at h;exact wpAny_eqBool_int h
   ·rw[JmU] at h;exact SeqAt.EqAt.int_str i t y u _ _ _ _ h
  ·rcases JK hv with ⟨j,u,rfl,rfl⟩|⟨y,u,rfl,rfl⟩
   ·rw[JmV] at h;exact SeqAt.EqAt.str_int x t j u _ _ _ _ h
   ·rw[JmW] at h;exact wpAny_eqBool_str h
 «strs»:=fun k x t v h=>by
  rcases JK h with ⟨i,u,rfl,e⟩|⟨y,u,rfl,e⟩
  ·exact nomatch e
  ·injection e with e1 _
   subst e1;cases v <;> rfl

theorem JcD(prog:Qy)(w:QH)(i:Int)(t:Tok):(Jz prog w).is (.inl i) (.int i t)=true:=Jgs i t
theorem JcE(prog:Qy)(w:QH)(x:Str)(t:Tok):(Jz prog w).is (.inr x) (.str x t)=true:=Jgt x t
end L2

namespace L2
open PySem PySem.Spec PyProof.Rows

inductive V where
 | non|bl (b:Bool)|int (i:Int)|str (x:Str)|byt (b:Array UInt8)|flt (b:UInt64)|ref (a:Qg)|ty (n:String)
 deriving DecidableEq

noncomputable def RelV:V->Qe->Prop
 | .non,u=>u=Value.none
 | .bl b,u=>u=Value.bool b
 | .int i,u=>∃t,u=Value.int i t
 | .str x,u=>∃t,u=Value.str x t
 | .byt b,u=>∃t,u=Value.bytes b t
 | .flt b,u=>∃t,u=Value.float b t
 | .ref a,u=>u=Value.ref a
 | .ty n,u=>u=Value.type n

noncomputable abbrev Vals:List V->List Qe->Prop:=Paired RelV
theorem Vals.length{xs:List V}{us:List Qe}(r:Vals xs us):xs.length=us.length:=Mu r
theorem Vals.get:∀{xs:List V} {us:List Qe} {i:Nat} {x:V},Vals xs us->xs[i]?=some x->∃u,us[i]?=some u/\RelV x u
 | _,_,_,_,.nil,e=>by simp at e
 | _,_,0,_,.cons r _,e=>by simp at e;subst e;exact⟨_,rfl,r⟩
 | _,_,i+1,x,.cons _ t,e=>by obtain⟨u,h1,h2⟩:=Vals.get (i:=i) (x:=x) t (by simpa using e);exact⟨u,by simpa using h1,h2⟩
theorem Vals.set{x:V}{u:Qe}(r:RelV x u):∀{xs:List V} {us:List Qe} (i:Nat),Vals xs us->Vals (xs.set i x) (us.set i u)
 | _,_,_,.nil=>.nil
 | _,_,0,.cons _ t=>.cons r t
 | _,_,i+1,.cons q t=>.cons q (Vals.set r i t)
theorem Vals.append:∀{xs ys:List V} {us ws:List Qe},Vals xs us->Vals ys ws->Vals (xs++ys) (us++ws)
 | _,_,_,_,.nil,s=>s
 | _,_,_,_,.cons r t,s=>.cons r (Vals.append t s)
theorem Vals.take:∀{xs:List V} {us:List Qe} (n:Nat),Vals xs us->Vals (xs.take n) (us.take n)
 | _,_,0,_=>.nil
 | _,_,_+1,.nil=>.nil
 | _,_,n+1,.cons r t=>.cons r (Vals.take n t)
theorem Vals.drop:∀{xs:List V} {us:List Qe} (n:Nat),Vals xs us->Vals (xs.drop n) (us.drop n)
 | _,_,0,r=>r
 | _,_,_+1,.nil=>.nil
 | _,_,n+1,.cons _ t=>Vals.drop n t
noncomputable def RelO:Option V->Option Qe->Prop
 | some v,some u=>RelV v u
 | none,none=>True
 | _,_=>False
noncomputable def KV{κ:Type}:List (κ×V)->List (κ×Qe)->Prop:=Paired fun(p:κ×V) (q:κ×Qe)=>p.1=q.1/\RelV p.2 q.2

noncomputable def kV:Key->V
 | .inl i=>.int i
 | .inr x=>.str x

inductive HO where
 | lst (xs:List V)
 | tup (xs:List V)
 | dK (kvs:List (Key×V))|dT (kvs:List (List Key×V))
 | set (S:Int->Bool) (n:Nat)
 | ins (C dx:Qg) (fs:List (Str×V))
 | own (x:Qg)
 | xd (fs:List (Str×V))
 | met (f x:Qg)
 | rng (lo hi:Int)
 | frz (o:Obj) (u:HO)
 | tbl (ps:Array Qe) (l c:Nat) (q:Str)
 | ext (φ:QP->Prop)

noncomputable abbrev Hp:=Qg->Option HO
noncomputable def upd(H:Hp)(a:Qg)(o:HO):Hp:=fun b=>if b=a then some o else H b
theorem Jm{H:Hp}{a:Qg}{o:HO}:upd H a o a=some o:=by unfold upd;rw[if_pos rfl]
theorem Jf{H:Hp}{a b:Qg}{o:HO}(h:b≠a):upd H a o b=H b:=by unfold upd;rw[if_neg h]
theorem JaA{H:Hp}{a b:Qg}{o u:HO}(h:H a=some o)(h':H b=some u)(d:o≠u):a≠b:=by intro e;subst e;rw[h] at h';exact d (Q0 h')
theorem Jo{H:Hp}{a b:Qg}{o:HO}(h:H a=some o)(h':H b=none):a≠b:=by intro e;subst e;rw[h] at h';cases h'

section
variable(P:Qy)(w:QH)
noncomputable def ObjOk(H:Hp)(h:QP)(a:Qg):HO->Prop
 | .lst xs=>xs.length<=Qt/\∃(its:List Qe) (n:Nat),Vals xs its/\h.get? a=some { cls:=.type "list",data:=.seq its.toArray n }
 | .tup xs=>xs.length<=Qt/\∃its:List Qe,Vals xs its/\IsTup h a its.toArray
 | .dK kvs=>kvs.length<=Qt/\(a == sysModules)=false/\∃vs,KV kvs vs/\h.DictOf (Jz P w) a vs
 | .dT kvs=>kvs.length<=Qt/\(a == sysModules)=false/\∃xs:List (List Key×Qg×Qe),
  Paired (fun(p:List Key×V) (q:List Key×Qg×Qe)=>p.1=q.1/\H q.2.1=some (.tup (p.1.map kV))/\RelV p.2 q.2.2) kvs xs ∧
  ∃o es ep,h.get? a=some o/\o.ExactDict/\o.data=.dict es ep/\es.toList=xs.map (entryOfKey (tupleKind (Jz P w)))/\(xs.map (·.1)).Nodup
 | .set S n=>h.SetOf (intKind P w) a S n
 | .ins C dx fs=>H dx=some (.own a)/\fs.length<=1000/\dx≠a/\h.get? a=some (instObj C dx) ∧
  ∃mA,h.Ns1 dx mA/\(∀f,RelO (fs.lookup f) (mA f))/\Rs mA (fs.map (·.1))
 | .own _=>∃o,h.get? a=some o
 | .xd fs=>∃mA,h.Ns1 a mA/\∀f,RelO (fs.lookup f) (mA f)
 | .rng lo hi=>∃t u v,h.get? a=some { cls:=.type "range",data:=.fields #[.int lo t,.int hi u,.int 1 v] }
 | .frz o u=>h.get? a=some o/\ObjOk H h a u
 | .tbl ps l c q=>h.get? a=some { cls:=.none,data:=.fields ps }\/∃y,H y=some (.own a)/\y≠a/\h.get? a=some { cls:=.none,data:=.fields (ps++#[rawInt l,rawInt c,.ref y]) }/\h.CodeRec (.ref y) q
 | .met f x=>h.get? a=some (methodObj (.ref f) (.ref x))
 | .ext φ=>φ h/\(∃o,h.get? a=some o)/\∀h1 h2:QP,φ h1->(∀o,h1.get? a=some o->h2.get? a=some o)->φ h2
noncomputable def HOk(H:Hp)(h:QP):Prop:=∀a o,H a=some o->ObjOk P w H h a o
end

section
variable{P:Qy}{w:QH}{H H':Hp}{h h':QP}{a:Qg}{o:HO}
theorem ObjOk.lt(x:ObjOk P w H h a o):a<h.objs.size:=by
 cases o with
 | lst xs=>obtain⟨_,_,_,_,e⟩:=x;exact Qq e
 | tup xs=>obtain⟨_,_,_,p⟩:=x;exact p.lt
 | dK kvs=>obtain⟨_,_,_,_,o,_,_,e,_⟩:=x;exact Qq e
 | dT kvs=>obtain⟨_,_,_,_,o,_,_,e,_⟩:=x;exact Qq e
 | set S n=>obtain⟨o,_,_,_,e,_⟩:=x;exact Qq e
 | ins C dx fs=>obtain⟨_,_,_,e,_⟩:=x;exact Qq e
 | own y=>obtain⟨_,e⟩:=x;exact Qq e
 | xd fs=>obtain⟨_,⟨_,_,_,e,_⟩,_⟩:=x;exact Qq e
 | rng lo hi=>obtain⟨_,_,_,e⟩:=x;exact Qq e
 | frz ob u=>obtain⟨e,_⟩:=x;exact Qq e
 | tbl ps l c q =>
  rcases x with e|⟨_,_,_,e,_⟩
  ·exact Qq e
  ·exact Qq e
 | met f y=>exact Qq (show h.get? a=some _ from x)
 | ext φ=>obtain⟨_,⟨_,e⟩,_⟩:=x;exact Qq e
theorem Paired.mapP{α β:Type}{F G:α->β->Prop}:∀{l₁:List α} {l₂:List β},Paired F l₁ l₂->(∀a b,F a b->G a b)->Paired G l₁ l₂
 | _,_,.nil,_=>.nil
 | _,_,.cons r t,f=>.cons (f _ _ r) (Paired.mapP t f)
theorem ObjOk.stay(x:ObjOk P w H h a o)(k:∀b u,(b=a\/H b=some (.own a))->h.get? b=some u->h'.get? b=some u)
 (ho:∀b,H b=some (.own a)->H' b=some (.own a)) (ht:∀b xs,H b=some (.tup xs)->H' b=some (.tup xs)):ObjOk P w H' h' a o:=by
 induction o with
 | lst xs=>obtain⟨z,its,n,r,e⟩:=x;exact⟨z,its,n,r,k _ _ (.inl rfl) e⟩
 | tup xs=>obtain⟨z,its,r,ob,e,c⟩:=x;exact⟨z,its,r,ob,k _ _ (.inl rfl) e,c⟩
 | dK kvs=>obtain⟨z,y,vs,r,ob,es,ep,e,c⟩:=x;exact⟨z,y,vs,r,ob,es,ep,k _ _ (.inl rfl) e,c⟩
 | dT kvs=>obtain⟨z,y,xs,r,ob,es,ep,e,c⟩:=x;exact⟨z,y,xs,Paired.mapP r fun p q z=>⟨z.1,ht _ _ z.2.1,z.2.2⟩,ob,es,ep,k _ _ (.inl rfl) e,c⟩
 | set S n=>obtain⟨ob,es,ep,t,e,c⟩:=x;exact⟨ob,es,ep,t,k _ _ (.inl rfl) e,c⟩
 | ins C dx fs=>obtain⟨d,z,ne,e,mA,⟨od,es,ep,e2,c⟩,r⟩:=x;exact⟨ho _ d,z,ne,k _ _ (.inl rfl) e,mA,⟨od,es,ep,k _ _ (.inr d) e2,c⟩,r⟩
 | own y=>obtain⟨ob,e⟩:=x;exact⟨ob,k _ _ (.inl rfl) e⟩
 | xd fs=>obtain⟨mA,⟨od,es,ep,e,c⟩,r⟩:=x;exact⟨mA,⟨od,es,ep,k _ _ (.inl rfl) e,c⟩,r⟩
 | rng lo hi=>obtain⟨t,u,v,e⟩:=x;exact⟨t,u,v,k _ _ (.inl rfl) e⟩
 | frz ob u ih=>obtain⟨e,q⟩:=x;exact⟨k _ _ (.inl rfl) e,ih q⟩
 | tbl ps l c q =>
  rcases x with e|⟨y,d,ne,e,y',oc,vs,t,z,e2,r⟩
  ·exact .inl (k a _ (.inl rfl) e)
  ·cases z;exact .inr ⟨y,ho _ d,ne,k a _ (.inl rfl) e,y,oc,vs,t,rfl,k _ _ (.inr d) e2,r⟩
 | met f y =>
  have e:h.get? a=some (methodObj (.ref f) (.ref y)):=x
  show h'.get? a=some (methodObj (.ref f) (.ref y));exact k a _ (.inl rfl) e
 | ext φ=>obtain⟨p,⟨o,e⟩,st⟩:=x;exact⟨st _ _ p fun o q=>k _ _ (.inl rfl) q,⟨o,k _ _ (.inl rfl) e⟩,st⟩
theorem HOk.lt(x:HOk P w H h)(e:H a=some o):a<h.objs.size:=(x a o e).lt
theorem HOk.fresh(x:HOk P w H h)(e:h.objs.size<=a):H a=none:=by
 cases q:H a with
 | none=>rfl
 | some u=>exact absurd (QT (x.lt q) e) (GD _)
theorem HOk.kept(x:HOk P w H h)(k:∀b u,h.get? b=some u->h'.get? b=some u):HOk P w H h':=fun a o e=>(x a o e).stay (fun b u _ q=>k b u q) (fun _ q=>q) fun _ _ q=>q
theorem HOk.laid(x:HOk P w H h)(k:∀b u,h.get? b=some u->h'.get? b=some u)(hp:h.objs.size<=a)(new:ObjOk P w (upd H a o) h' a o):HOk P w (upd H a o) h':=fun b u e=>by
 have hn:=x.fresh hp
 by_cases hb:b=a
 ·subst hb;rw[Jm] at e;cases e;exact new
 ·rw[Jf hb] at e;exact(x b u e).stay (fun c v _ q=>k c v q) (fun c q=>by rw[Jf (Jo q hn)];exact q) fun c xs q=>by rw[Jf (Jo q hn)];exact q
end

noncomputable def Rd(H:Hp)(a:Qg)(u:HO):Prop:=H a=some u\/∃o,H a=some (.frz o u)
theorem Rd.of{H:Hp}{a:Qg}{u:HO}(h:H a=some u):Rd H a u:=.inl h
theorem Rd.ok{P:Qy}{w:QH}{H:Hp}{h:QP}{a:Qg}{u:HO}(r:Rd H a u)(x:HOk P w H h):ObjOk P w H h a u:=by
 rcases r with r|⟨o,r⟩
 ·exact x a u r
 ·obtain⟨_,q⟩:=x a _ r;exact q
noncomputable def Mut:Option HO->Prop
 | some (.lst _)=>True
 | some (.dK _)=>True
 | some (.dT _)=>True
 | some (.set _ _)=>True
 | some (.ins _ _ _)=>True
 | some (.ext _)=>True
 | _=>False
section
variable{P:Qy}{w:QH}{H:Hp}{h h':QP}{x e:Qg}{o':HO}
theorem HOk.write(ok:HOk P w H h)(mu:Mut (H x))(he:e=x\/H e=some (.own x))(k:∀b u,b≠e->h.get? b=some u->h'.get? b=some u)(heo:∃u,h'.get? e=some u)
 (new:ObjOk P w (upd H x o') h' x o'):HOk P w (upd H x o') h':=fun b u q=>by
 have nown:∀c y,H c=some (.own y)->c≠x:=fun c y r z=>by subst z;rw[r] at mu;exact mu
 have ntup:∀c xs,H c=some (.tup xs)->c≠x:=fun c xs r z=>by subst z;rw[r] at mu;exact mu
 by_cases hb:b=x
 ·subst hb;rw[Jm] at q;cases q;exact new
 ·rw[Jf hb] at q
  by_cases hbe:b=e
  ·have q':H b=some (.own x):=by
    rcases he with z|z
    ·exact absurd (hbe.trans z) hb
    ·rw[hbe];exact z
   rw[q] at q';cases q';obtain⟨v,hv⟩:=heo;exact⟨v,by rw[hbe];exact hv⟩
  ·refine(ok b u q).stay (fun c v hc r=>k c v ?_ r) (fun c r=>by rw[Jf (nown c b r)];exact r) fun c xs r=>by rw[Jf (ntup c xs r)];exact r
   rcases hc with rfl|hc
   ·exact hbe
   ·rintro rfl;rcases he with z|z
    ·exact nown c b hc z
    ·rw[hc] at z;cases z;exact hb rfl
end

structure Un (fs ex:List Qg) (H H':Hp) (h h':QP):Prop where
 keep:∀b o,h.get? b=some o->H b=none->b∉fs->b∉ex->h'.get? b=some o
 slot:∀b o,h.get? b=some o->H b=none->b∈fs->b∉ex->∃sl,h'.get? b=some { o with slots:=sl }
 free:∀b o,h.get? b=some o->H b=none->b∉ex->H' b=none
 there:∀b o,h.get? b=some o->b∉ex->∃o',h'.get? b=some o'
 tups:∀b xs,H b=some (.tup xs)->H' b=some (.tup xs)
 frzs:∀b o u,H b=some (.frz o u)->H' b=some (.frz o u)
 tbls:∀b ps l c q,H b=some (.tbl ps l c q)->H' b=some (.tbl ps l c q)
section
variable{fs fs' ex ex':List Qg}{H H1 H2:Hp}{h h1 h2 h':QP}{a x e:Qg}{o:HO}
theorem Un.any(u:Un fs ex H H1 h h1){b:Qg}{ob:Obj}(q:h.get? b=some ob)(n:H b=none)(hx:b∉ex):∃sl,h1.get? b=some { ob with slots:=sl }:=by
 by_cases hb:b∈fs
 ·exact u.slot b ob q n hb hx
 ·exact⟨ob.slots,u.keep b ob q n hb hx⟩
theorem Un.trans(a:Un fs ex H H1 h h1)(b:Un fs ex H1 H2 h1 h2):Un fs ex H H2 h h2 where
 keep:=fun c ob q n hc hx=>b.keep c ob (a.keep c ob q n hc hx) (a.free c ob q n hx) hc hx
 slot:=fun c ob q n hc hx=>by obtain⟨sl,e1⟩:=a.slot c ob q n hc hx;obtain⟨sl',e2⟩:=b.slot c _ e1 (a.free c ob q n hx) hc hx;exact⟨sl',e2⟩
 free:=fun c ob q n hx=>by obtain⟨o',e1⟩:=a.there c ob q hx;exact b.free c o' e1 (a.free c ob q n hx) hx
 there:=fun c ob q hx=>by obtain⟨o',e1⟩:=a.there c ob q hx;exact b.there c o' e1 hx
 tups:=fun c xs q=>b.tups c xs (a.tups c xs q)
 frzs:=fun c ob xs q=>b.frzs c ob xs (a.frzs c ob xs q)
 tbls:=fun c ps l k z q=>b.tbls c ps l k z (a.tbls c ps l k z q)
theorem Un.kept(k:∀b u,h.get? b=some u->h'.get? b=some u):Un fs ex H H h h' :=
 ⟨fun b ob q _ _ _=>k b ob q,fun b ob q _ _ _=>⟨ob.slots,k b ob q⟩,fun _ _ _ n _=>n,fun b ob q _=>⟨ob,k b ob q⟩,fun _ _ q=>q,fun _ _ _ q=>q,fun _ _ _ _ _ q=>q⟩
theorem Un.refl:Un fs ex H H h h:=Un.kept fun _ _ q=>q
theorem Un.laid(k:∀b u,h.get? b=some u->h'.get? b=some u)(hp:h.objs.size<=a)(hn:H a=none):Un fs ex H (upd H a o) h h' where
 keep:=fun b u q _ _ _=>k b u q
 slot:=fun b u q _ _ _=>⟨u.slots,k b u q⟩
 free:=fun b u q n _=>by rw[Jf (QK (QT (Qq q) hp))];exact n
 there:=fun b u q _=>⟨u,k b u q⟩
 tups:=fun b xs q=>by rw[Jf (Jo q hn)];exact q
 frzs:=fun b u xs q=>by rw[Jf (Jo q hn)];exact q
 tbls:=fun b ps l c z q=>by rw[Jf (Jo q hn)];exact q
theorem Un.write(mu:Mut (H x))(he:e=x\/H e=some (.own x))(k:∀b u,b≠e->h.get? b=some u->h'.get? b=some u)(heo:∃u,h'.get? e=some u):Un fs ex H (upd H x o) h h':=by
 have hx:∀b,H b=none->b≠x:=fun b n z=>by subst z;rw[n] at mu;exact mu
 have hb:∀b,H b=none->b≠e:=fun b n z=>by
  subst z;rcases he with r|r
  ·exact hx b n r
  ·rw[n] at r;cases r
 have hm:∀b u,H b=some u->¬Mut (some u)->b≠x:=fun b u q nm z=>by subst z;rw[q] at mu;exact nm mu
 refine⟨fun b u q n _ _=>k b u (hb b n) q,fun b u q n _ _=>⟨u.slots,k b u (hb b n) q⟩,fun b u q n _=>by rw[Jf (hx b n)];exact n,fun b u q _=>?_,
  fun b xs q=>by rw[Jf (hm b _ q fun z=>z)];exact q,fun b u xs q=>by rw[Jf (hm b _ q fun z=>z)];exact q,fun b ps l c z q=>by rw[Jf (hm b _ q fun z=>z)];exact q⟩
 by_cases hbe:b=e
 ·subst hbe;exact heo
 ·exact⟨u,k b u hbe q⟩
theorem Un.mono(u:Un fs ex H H1 h h1)(hs:∀b∈fs,b∈fs')(hx:∀b∈ex,b∈ex'):Un fs' ex' H H1 h h1 :=
 ⟨fun b ob q n hb he=>u.keep b ob q n (fun z=>hb (hs b z)) fun z=>he (hx b z),fun _ _ q n _ he=>u.any q n fun z=>he (hx _ z),fun b ob q n he=>u.free b ob q n fun z=>he (hx b z),fun b ob q he=>u.there b ob q fun z=>he (hx b z),u.tups,u.frzs,u.tbls⟩
end

noncomputable def trk(h:QP)(H:Hp):List Qg:=(QQ h.objs.size).filter fun a=>(H a).isSome
noncomputable def ZN(h:QP)(H:Hp):QP:=PySem.W.hideAll h (trk h H)
theorem Jgk(h:QP)(H:Hp):(ZN h H).objs.size=h.objs.size:=PySem.W.hideAll_size _ _
theorem JhI{h:QP}{H:Hp}{b:Qg}{o:Obj}(e:h.get? b=some o)(n:H b=none):(ZN h H).get? b=some o :=
 PySem.W.hideAll_get _ e fun hm=>by have q:(H b).isSome=true:=(K2.mp hm).2;rw[n] at q;simp at q
theorem Jkv{h:QP}{H:Hp}{b:Qg}{o:Obj}(e:(ZN h H).get? b=some o):h.get? b=some o/\H b=none:=by
 have e':h.get? b=some o:=PySem.W.of_hideAll (trk h H) e;refine⟨e',?_⟩
 cases q:H b with
 | none=>rfl
 | some x =>
  have hm:b∈trk h H:=K2.mpr ⟨List.mem_range.mpr (Qq e'),by simp[q]⟩
  have z:(ZN h H).get? b=none:=PySem.W.hideAll_none (trk h H) hm;rw[z] at e;cases e

noncomputable def Jjg(g h:QP)(L:Qg):List (Qg×Obj):=(QQ h.objs.size).filterMap fun a=>if a=L\/(g.get? a).isSome=true then none else(h.get? a).map fun o=>(a,o)
noncomputable def rest(g h:QP)(L d:Qg):List (Qg×Obj):=(Jjg g h L).filter fun p=>decide (p.1≠d)
end L2

namespace L2
open PySem PySem.Spec PyProof.Rows

structure Mod (K:Qz) (mg:Str->Option Qe) (base:QP):Prop where
 kin:K.In base
 glob:base.Ns mainGlobals mg
 blt:∃mb,base.Ns builtinsNs mb/\∀x:Str,x≠"__name__"->mb x=bootBuiltins x
 nolimit:base.NoLimit

structure Cx where
 prog:Qy
 w:QH
 K:Qz
 mg:Str->Option Qe
 base:QP
 A:QF
 N:List Str
 s₀:Qh
 H₀:Hp
 env:Env
 outer:List Env
 stack:List Env
 ex:List Qg
 fn:Str->Bool
 calm:Bool
 pn:List (Qg×Obj)
 xe:Qe->Qh->Prop
noncomputable def frs(l:List Env):List Qg:=l.filterMap (·.frame)
noncomputable abbrev Cx.fs(X:Cx):List Qg:=frs X.outer

noncomputable def Vis(sc:Ln)(x:Str):Prop:=sc.names.lookup x=some .local\/sc.names.lookup x=some .cell\/sc.names.lookup x=some .free
noncomputable def Loc(sc:Ln)(x:Str):Prop:=sc.names.lookup x=some .local\/sc.names.lookup x=some .cell
noncomputable def Jqw(env:Env)(h:QP)(m:Str->Option Qe)(x:Str)(u:Qe):Prop :=
 (env.kindOf x=some .local/\m x=some u)\/((env.kindOf x=some .cell\/env.kindOf x=some .free)/\∃c,env.cells.lookup x=some c/\h.IsCell c (some u))

structure Cx.Ok (X:Cx):Prop where
 mod:Mod X.K X.mg X.base
 kind:X.env.scope.kind=.function
 glob:X.env.globals=mainGlobals
 blt:X.env.builtins=builtinsNs
 above:X.s₀.heap.objs.size<=X.env.locals
 inj:∀x y c,X.env.cells.lookup x=some c->X.env.cells.lookup y=some c->x=y
 has:∀x,(X.env.kindOf x=some .cell\/X.env.kindOf x=some .free)->∃c,X.env.cells.lookup x=some c
 cab:∀x c,X.fn x=true->X.env.cells.lookup x=some c->X.s₀.heap.objs.size<=c
 hd:X.calm=true->X.A.handled=none
 frames:X.A.frames=some X.stack
 stk:X.stack=X.outer\/(X.stack=X.env::X.outer/\X.env.frame=some X.env.locals)
 exf:∀b∈X.ex,b≠X.env.locals/\∀x c,X.env.cells.lookup x=some c->c≠b
 bs:∀b o,X.base.get? b=some o->X.s₀.heap.get? b=some o/\X.H₀ b=none
 bsz:X.base.objs.size<=X.s₀.heap.objs.size
 noex:∀b o,X.base.get? b=some o->b∉X.ex
 exfs:∀b∈X.ex,b∉X.fs
 funs:X.s₀.heap.FunFrames X.base X.outer
 frf:∀b∈X.fs,X.H₀ b=none

structure Inv (X:Cx) (pins:List (Qg×Obj)) (σ:List (Option V)) (H:Hp) (s:Qh):Prop where
 ok:X.Ok
 os:s.os=X.s₀.os
 bare:AllBare s.gens
 base:Un X.fs X.ex X.H₀ H X.s₀.heap s.heap
 loc:∃m,s.heap.Ns X.env.locals m/\∀(i:Nat) (x:Str) (v:V),X.N[i]?=some x->σ[i]?=some (some v)->Vis X.env.scope x->∃u,RelV v u/\Jqw X.env s.heap m x u
 cell:∀x c,X.env.cells.lookup x=some c->∃v,s.heap.IsCell c v
 free:H X.env.locals=none
 freeC:∀x c,X.env.cells.lookup x=some c->H c=none
 pin:∀p∈X.pn++pins,s.heap.get? p.1=some p.2/\H p.1=none/\p.1≠X.env.locals/\p.1∉X.fs/\∀v,p.2.data≠.cell v
 hok:HOk X.prog X.w H s.heap
 len:σ.length=X.N.length

section
variable{X:Cx}{pins:List (Qg×Obj)}{σ:List (Option V)}{H H':Hp}{s:Qh}{h':QP}

theorem Cx.Ok.nofr(ok:X.Ok){b:Qg}{o:Obj}(e:X.base.get? b=some o):b∉X.fs:=fun hb=>by have:=(ok.funs.mem hb).1;rw[e] at this;cases this
theorem Inv.bs(I:Inv X pins σ H s):∀b o,X.base.get? b=some o->s.heap.get? b=some o/\H b=none:=fun b o e=>⟨I.base.keep b o (I.ok.bs b o e).1 (I.ok.bs b o e).2 (I.ok.nofr e) (I.ok.noex b o e),I.base.free b o (I.ok.bs b o e).1 (I.ok.bs b o e).2 (I.ok.noex b o e)⟩
theorem Inv.bk(I:Inv X pins σ H s):∀b o,X.base.get? b=some o->s.heap.get? b=some o:=fun b o e=>(I.bs b o e).1
theorem Inv.mod(I:Inv X pins σ H s):Mod X.K X.mg X.base:=I.ok.mod
theorem Inv.kIn(I:Inv X pins σ H s):X.K.In s.heap:=I.ok.mod.kin.keeps I.bk
theorem Inv.nolimit(I:Inv X pins σ H s):s.heap.NoLimit:=I.ok.mod.nolimit.keeps I.bk
theorem Inv.fr(I:Inv X pins σ H s):∃m,Fr X.base X.env.locals s.heap m :=
 let ⟨m,hn,_⟩:=I.loc
 ⟨m,hn,I.bk,Q5 I.ok.bsz I.ok.above⟩
theorem Inv.lt(I:Inv X pins σ H s):X.env.locals<s.heap.objs.size:=let ⟨_,hn,_⟩:=I.loc;hn.lt
theorem Inv.sz(I:Inv X pins σ H s):X.s₀.heap.objs.size<=s.heap.objs.size:=Q5 I.ok.above (G9 I.lt)
theorem Inv.nofs(I:Inv X pins σ H s){a:Qg}(h:s.heap.objs.size<=a):a∉X.fs:=fun hb=>by obtain⟨_,o,ho,_⟩:=I.ok.funs.mem hb;exact absurd (QT (Qq ho) (Q5 I.sz h)) (GD _)
theorem Inv.cne(I:Inv X pins σ H s):∀x c,X.env.cells.lookup x=some c->c≠X.env.locals:=fun x c e z=>by obtain⟨v,o,ho,hd⟩:=I.cell x c e;obtain⟨m,⟨o',es,ep,ho',hd',_⟩,_⟩:=I.loc;rw[z,ho'] at ho;cases ho;rw[hd'] at hd;cases hd
theorem Inv.funs(I:Inv X pins σ H s):s.heap.FunFrames X.base X.outer:=by
 have all:∀(l:List Env),(∀b∈frs l,b∈X.fs)->X.s₀.heap.FunFrames X.base l->s.heap.FunFrames X.base l:=by
  intro l
  induction l with
  | nil=>intro _ _;trivial
  | cons env r ih =>
   intro hs hl;obtain⟨hk,⟨L,o,hf,hn,ho,hd⟩,hr⟩:=hl;have hL:L∈X.fs:=hs L (by unfold frs;rw[Kj,hf];exact Qf);obtain⟨sl,e⟩:=I.base.slot L o ho (I.ok.frf L hL) hL fun z=>I.ok.exfs L z hL
   exact⟨hk,⟨L,_,hf,hn,e,hd⟩,ih (fun b hb=>hs b (by unfold frs;rw[Kj,hf];exact Qc _ hb)) hr⟩
 exact all X.outer (fun _ hb=>hb) I.ok.funs

theorem Inv.stack(I:Inv X pins σ H s):s.heap.FunFrames X.base X.stack:=by
 rcases I.ok.stk with e|⟨e,hf⟩
 ·rw[e];exact I.funs
 ·rw[e];obtain⟨m,hn,_⟩:=I.loc;refine .cons (by rw[I.ok.kind];decide) hf hn ?_ I.funs;exact Heap.get?_none_of_le (Q5 I.ok.bsz I.ok.above)
theorem Inv.stkSub(I:Inv X pins σ H s):∀b∈frs X.stack,b∈X.env.locals::X.fs:=fun b hb=>by
 rcases I.ok.stk with e|⟨e,hf⟩
 ·rw[e] at hb;exact Qc _ hb
 ·rw[e] at hb;unfold frs at hb;rw[Kj,hf] at hb;exact hb
theorem Inv.stkFree(I:Inv X pins σ H s):∀b∈frs X.stack,H b=none:=fun b hb=>by
 rcases Qj.mp (I.stkSub b hb) with e|hb
 ·rw[e];exact I.free
 ·obtain⟨_,o,ho,_⟩:=I.ok.funs.mem hb;exact I.base.free b o ho (I.ok.frf b hb) fun z=>I.ok.exfs b z hb

theorem Inv.step{g':Array GenState}{t':Nat}{d':Drawn}{ch:List Qg}(I:Inv X pins σ H s)
 (hch:∀b∈ch,(b∈X.ex\/X.s₀.heap.objs.size<=b)/\b≠X.env.locals/\(∀x c,X.env.cells.lookup x=some c->c≠b)/\∀p∈X.pn++pins,p.1≠b)
 (keep:∀b o,b≠X.env.locals->b∉X.fs->b∉ch->s.heap.get? b=some o->H b=none->h'.get? b=some o)
 (slot:∀b o,b≠X.env.locals->b∈X.fs->b∉ch->s.heap.get? b=some o->H b=none->∃sl,h'.get? b=some { o with slots:=sl }) (free:∀b o,b∉ch->s.heap.get? b=some o->H b=none->H' b=none)
 (there:∀b o,b∉ch->s.heap.get? b=some o->∃o',h'.get? b=some o')
 (tups:∀b xs,H b=some (.tup xs)->H' b=some (.tup xs)) (frzs:∀b o u,H b=some (.frz o u)->H' b=some (.frz o u)) (tbls:∀b ps l c q,H b=some (.tbl ps l c q)->H' b=some (.tbl ps l c q))
 (ns:∀m,s.heap.Ns X.env.locals m->h'.Ns X.env.locals m) (hok:HOk X.prog X.w H' h') (hg:AllBare g') :
 Inv X pins σ H' { s with heap:=h',gens:=g',drawn:=d',toks:=t' }:=by
 have neL:∀b o,X.s₀.heap.get? b=some o->b≠X.env.locals:=fun b o e=>QK (QT (Qq e) I.ok.above)
 have neC:∀b o,X.s₀.heap.get? b=some o->b∉X.ex->b∉ch:=fun b o e hx hb=>by
  rcases(hch b hb).1 with z|z
  ·exact hx z
  ·exact absurd (QT (Qq e) z) (GD _)
 have cellK:∀x c,X.env.cells.lookup x=some c->∀v,s.heap.IsCell c v->h'.IsCell c v:=fun x c e v ⟨o,ho,hd⟩=>by
  have nch:c∉ch:=fun z=>(hch c z).2.2.1 x c e rfl
  by_cases hc:c∈X.fs
  ·obtain⟨sl,q⟩:=slot c o (I.cne x c e) hc nch ho (I.freeC x c e);exact⟨_,q,hd⟩
  ·exact⟨o,keep c o (I.cne x c e) hc nch ho (I.freeC x c e),hd⟩
 refine⟨I.ok,I.os,hg,⟨fun b o e n hb hx=>?_,fun b o e n hb hx=>?_,fun b o e n hx=>?_,fun b o e hx=>?_,fun b xs e=>tups b xs (I.base.tups b xs e),fun b o xs e=>frzs b o xs (I.base.frzs b o xs e),fun b ps l c z e=>tbls b ps l c z (I.base.tbls b ps l c z e)⟩,?_,fun x c e=>?_,?_,fun x c e=>?_,fun p hp=>?_,hok,I.len⟩
 ·exact keep b o (neL b o e) hb (neC b o e hx) (I.base.keep b o e n hb hx) (I.base.free b o e n hx)
 ·obtain⟨sl,e1⟩:=I.base.slot b o e n hb hx;obtain⟨sl',e2⟩:=slot b _ (neL b o e) hb (neC b o e hx) e1 (I.base.free b o e n hx);exact⟨sl',e2⟩
 ·obtain⟨o',e1⟩:=I.base.there b o e hx;exact free b o' (neC b o e hx) e1 (I.base.free b o e n hx)
 ·obtain⟨o',e1⟩:=I.base.there b o e hx;exact there b o' (neC b o e hx) e1
 ·obtain⟨m,hn,hl⟩:=I.loc;refine⟨m,ns m hn,fun i x v e1 e2 e3=>?_⟩;obtain⟨u,r,l⟩:=hl i x v e1 e2 e3;refine⟨u,r,?_⟩;rcases l with l|⟨k,c,e,z⟩
  ·exact .inl l
  ·exact .inr ⟨k,c,e,cellK x c e _ z⟩
 ·obtain⟨v,z⟩:=I.cell x c e;exact⟨v,cellK x c e v z⟩
 ·obtain⟨m,⟨o,_,_,ho,_⟩,_⟩:=I.loc;exact free _ o (fun z=>(hch _ z).2.1 rfl) ho I.free
 ·obtain⟨v,o,ho,hd⟩:=I.cell x c e;exact free c o (fun z=>(hch c z).2.2.1 x c e rfl) ho (I.freeC x c e)
 ·obtain⟨e,n,ne,nf,d⟩:=I.pin p hp;have nch:p.1∉ch:=fun z=>(hch p.1 z).2.2.2 p hp rfl
  exact⟨keep p.1 p.2 ne nf nch e n,free p.1 p.2 nch e n,ne,nf,d⟩
theorem Inv.un{t':Nat}(I:Inv X pins σ H s)(u:Un X.fs [] H H' s.heap h')(hok:HOk X.prog X.w H' h'):Inv X pins σ H' { s with heap:=h',toks:=t' }:=by
 obtain⟨m,⟨o,es,ep,ho,r⟩,_⟩:=id I.loc;obtain⟨sl,hL⟩:=u.any ho I.free (by simp);exact I.step (g':=s.gens) (d':=s.drawn) (ch:=[]) (fun _ z=>nomatch z) (fun b o _ hb _ e n=>u.keep b o e n hb (by simp)) (fun b o _ hb _ e n=>u.slot b o e n hb (by simp)) (fun b o _ e n=>u.free b o e n (by simp)) (fun b o _ e=>u.there b o e (by simp)) u.tups u.frzs u.tbls (fun m' hm=>by obtain⟨o',es',ep',ho',r'⟩:=hm;rw[ho] at ho';cases ho';exact⟨_,es',ep',hL,r'⟩) hok I.bare
theorem Inv.call{g':Array GenState}{t':Nat}{d':Drawn}{ch:List Qg}(I:Inv X pins σ H s)(u:Un (frs X.stack) ch H H' s.heap h')(hok:HOk X.prog X.w H' h')(hg:AllBare g')
 (hch:∀b∈ch,(b∈X.ex\/X.s₀.heap.objs.size<=b)/\b≠X.env.locals/\(∀x c,X.env.cells.lookup x=some c->c≠b)/\∀p∈X.pn++pins,p.1≠b) :
 Inv X pins σ H' { s with heap:=h',gens:=g',drawn:=d',toks:=t' }:=by
 obtain⟨m,⟨o,es,ep,ho,r⟩,_⟩:=id I.loc;obtain⟨sl,hL⟩:=u.any ho I.free fun z=>(hch _ z).2.1 rfl
 exact I.step (ch:=ch) hch (fun b o hL hb hc e n=>u.keep b o e n (fun z=>(Qj.mp (I.stkSub b z)).elim hL hb) hc) (fun b o _ _ hc e n=>u.any e n hc) (fun b o hc e n=>u.free b o e n hc) (fun b o hc e=>u.there b o e hc) u.tups u.frzs u.tbls (fun m' hm=>by obtain⟨o',es',ep',ho',r'⟩:=hm;rw[ho] at ho';cases ho';exact⟨_,es',ep',hL,r'⟩) hok hg
theorem Inv.turned{t':Nat}{it:Qg}(I:Inv X pins σ H s)(k:∀b o,b≠it->s.heap.get? b=some o->h'.get? b=some o)(hn:H it=none)(hL:it≠X.env.locals)
 (h1:it∈X.ex\/X.s₀.heap.objs.size<=it) (h2:∀x c,X.env.cells.lookup x=some c->c≠it) (h3:∀p∈X.pn++pins,p.1≠it):Inv X pins σ H { s with heap:=h',toks:=t' }:=by
 have nit:∀b u,H b=some u->b≠it:=fun b u e z=>by rw[z,hn] at e;cases e
 refine I.step (g':=s.gens) (d':=s.drawn) (ch:=[it]) (fun b hb=>?_) (fun b o _ _ hc e _=>k b o (fun z=>hc (by simp[z])) e) (fun b o _ _ hc e _=>⟨o.slots,k b o (fun z=>hc (by simp[z])) e⟩) (fun _ _ _ _ n=>n)
  (fun b o hc e=>⟨o,k b o (fun z=>hc (by simp[z])) e⟩) (fun _ _ e=>e) (fun _ _ _ e=>e) (fun _ _ _ _ _ e=>e) (fun m hm=>?_) (fun b u e=>?_) I.bare
 ·have e:b=it:=by simpa using hb
  subst e;exact⟨h1,hL,h2,h3⟩
 ·obtain⟨o,es,ep,ho,r⟩:=hm;exact⟨o,es,ep,k _ o (Q2 hL) ho,r⟩
 ·refine(I.hok b u e).stay (fun c v hc q=>k c v ?_ q) (fun _ q=>q) fun _ _ q=>q
  rcases hc with z|z
  ·rw[z];exact nit b u e
  ·exact nit c _ z
theorem Inv.tok(I:Inv X pins σ H s)(t:Nat):Inv X pins σ H { s with toks:=t }:=I.un (h':=s.heap) (t':=t) Un.refl I.hok
theorem Inv.kept{t':Nat}(I:Inv X pins σ H s)(k:∀b u,s.heap.get? b=some u->h'.get? b=some u):Inv X pins σ H { s with heap:=h',toks:=t' }:=I.un (Un.kept k) (I.hok.kept k)
theorem Inv.laid{a:Qg}{o:HO}{t':Nat}(I:Inv X pins σ H s)(k:∀b u,s.heap.get? b=some u->h'.get? b=some u)(hp:s.heap.objs.size<=a)(new:ObjOk X.prog X.w (upd H a o) h' a o) :
 Inv X pins σ (upd H a o) { s with heap:=h',toks:=t' }:=I.un (Un.laid k hp (I.hok.fresh hp)) (I.hok.laid k hp new)
theorem Inv.write{x e:Qg}{o:HO}{t':Nat}(I:Inv X pins σ H s)(mu:Mut (H x))(he:e=x\/H e=some (.own x))(k:∀b u,b≠e->s.heap.get? b=some u->h'.get? b=some u)(heo:∃u,h'.get? e=some u)
 (new:ObjOk X.prog X.w (upd H x o) h' x o):Inv X pins σ (upd H x o) { s with heap:=h',toks:=t' }:=I.un (Un.write mu he k heo) (I.hok.write mu he k heo new)
theorem Inv.weak{σ':List (Option V)}(I:Inv X pins σ H s)(hl:σ'.length=σ.length)(w:∀(i:Nat) v,σ'[i]?=some (some v)->σ[i]?=some (some v)):Inv X pins σ' H s :=
 ⟨I.ok,I.os,I.bare,I.base,let ⟨m,hn,hl'⟩:=I.loc;⟨m,hn,fun i x v e1 e2 e3=>hl' i x v e1 (w i v e2) e3⟩,I.cell,I.free,I.freeC,I.pin,I.hok,hl.trans I.len⟩
theorem Inv.pins_of{pins':List (Qg×Obj)}(I:Inv X pins σ H s)(h:∀p∈pins',s.heap.get? p.1=some p.2/\H p.1=none/\p.1≠X.env.locals/\p.1∉X.fs/\∀v,p.2.data≠.cell v):Inv X pins' σ H s :=
 ⟨I.ok,I.os,I.bare,I.base,I.loc,I.cell,I.free,I.freeC,fun p hp=>(GB.mp hp).elim (fun z=>I.pin p (LU _ z)) (h p),I.hok,I.len⟩

theorem JcH{N:List Str}(hN:N.Nodup){i j:Nat}{x:Str}(a:N[i]?=some x)(b:N[j]?=some x):i=j:=by obtain⟨h1,e1⟩:=Qk.mp a;obtain⟨h2,e2⟩:=Qk.mp b;exact(List.getElem_inj hN).mp (e1.trans e2.symm)

theorem JgR{M:Model}{A:QF}{E:Qe->Qh->Prop}{i:Nat}{x:Str}{v:V}{u:Qe}{Q:Unit->Qh->Prop}(I:Inv X pins σ H s)(hN:X.N.Nodup)(hi:X.N[i]?=some x)(hx:Loc X.env.scope x)(r:RelV v u)
 (h:∀s',Inv X pins (σ.set i (some v)) H s'->(∃a,QR a s.heap s'.heap/\(a=X.env.locals\/X.env.cells.lookup x=some a))->Q () s') (hf:X.fn x=true\/X.env.scope.names.lookup x=some .local:=by first|exact .inl rfl|exact .inr rfl|assumption):wpAny M A (storeName X.env x u) Q E s:=by
 obtain⟨m,hn,hl⟩:=id I.loc;have hcls:(X.env.scope.kind == .class || (X.env.scope.kind == .module && X.env.locals != X.env.globals))=false:=by rw[I.ok.kind];rfl
 have hiσ:i<σ.length:=by rw[I.len];exact(Qk.mp hi).1
 have cne:=I.cne
 have tracked:∀{a:Qg} {h':QP},(∃o,s.heap.get? a=some o/\H a=none)->QR a s.heap h'->HOk X.prog X.w H h':=fun {a h'} ha hs b ob e=>by
  obtain⟨_,_,hfree⟩:=ha;refine(I.hok b ob e).stay (fun c w' hc q=>(hs.2 c ?_).trans q) (fun _ q=>q) fun _ _ q=>q
  rintro rfl;rcases hc with rfl|hc
  ·rw[hfree] at e;cases e
  ·rw[hfree] at hc;cases hc
 rcases hx with hk|hk
 ·refine wpAny_storeName_local hk hn (fun h' hn' hs=>?_) hcls;obtain⟨oL,_,_,hoL,_⟩:=id hn;refine h _ ⟨I.ok,I.os,I.bare,⟨fun b o e n hb hx=>?_,fun b o e n hb hx=>?_,I.base.free,fun b o e hx=>?_,I.base.tups,I.base.frzs,I.base.tbls⟩,⟨_,hn',fun j y v' e1 e2 e3=>?_⟩,fun y c e=>?_,I.free,I.freeC,fun p hp=>?_,tracked ⟨oL,hoL,I.free⟩ hs,by simpa using I.len⟩ ⟨_,hs,.inl rfl⟩
  ·exact(hs.2 b (QK (QT (Qq e) I.ok.above))).trans (I.base.keep b o e n hb hx)
  ·obtain⟨sl,e1⟩:=I.base.slot b o e n hb hx;exact⟨sl,(hs.2 b (QK (QT (Qq e) I.ok.above))).trans e1⟩
  ·obtain⟨o',e1⟩:=I.base.there b o e hx;exact⟨o',(hs.2 b (QK (QT (Qq e) I.ok.above))).trans e1⟩
  ·by_cases hj:j=i
   ·subst hj;rw[hi] at e1;cases e1;rw[MM hiσ] at e2;cases e2;exact⟨u,r,.inl ⟨hk,by simp⟩⟩
   ·rw[M6 (Q2 hj)] at e2;obtain⟨u',r',q⟩:=hl j y v' e1 e2 e3;refine⟨u',r',?_⟩;rcases q with ⟨k,e⟩|⟨k,c,e,z⟩
    ·refine .inl ⟨k,?_⟩;have:y≠x:=fun e=>hj (JcH hN e1 (e▸hi))
     simp[this,e]
    ·exact .inr ⟨k,c,e,z.sameBut hs (cne y c e)⟩
  ·obtain⟨w',z⟩:=I.cell y c e;exact⟨w',z.sameBut hs (cne y c e)⟩
  ·obtain⟨e,n,ne,nf,d⟩:=I.pin p hp;exact⟨(hs.2 p.1 ne).trans e,n,ne,nf,d⟩
 ·have hfn:X.fn x=true:=by
   rcases hf with z|z
   ·exact z
   ·rw[z] at hk;cases hk
  obtain⟨c,hc⟩:=I.ok.has x (.inl hk);obtain⟨w',z⟩:=I.cell x c hc;refine wpAny_storeName_cell I.ok.kind hk hc z (fun h' hc' hs=>?_);obtain⟨oc,hoc,hocd⟩:=id z;refine h { s with heap:=h' } ⟨I.ok,I.os,I.bare,⟨fun b o e n hb hx=>?_,fun b o e n hb hx=>?_,I.base.free,fun b o e hx=>?_,I.base.tups,I.base.frzs,I.base.tbls⟩,⟨m,hn.sameBut hs (Q2 (cne x c hc)),fun j y v' e1 e2 e3=>?_⟩,fun y c' e=>?_,I.free,I.freeC,fun p hp=>?_,tracked ⟨oc,hoc,I.freeC x c hc⟩ hs,by simpa using I.len⟩ ⟨c,hs,.inr hc⟩
  ·exact(hs.2 b (QK (QT (Qq e) (I.ok.cab x c hfn hc)))).trans (I.base.keep b o e n hb hx)
  ·obtain⟨sl,e1⟩:=I.base.slot b o e n hb hx;exact⟨sl,(hs.2 b (QK (QT (Qq e) (I.ok.cab x c hfn hc)))).trans e1⟩
  ·obtain⟨o',e1⟩:=I.base.there b o e hx;exact⟨o',(hs.2 b (QK (QT (Qq e) (I.ok.cab x c hfn hc)))).trans e1⟩
  ·by_cases hj:j=i
   ·subst hj;rw[hi] at e1;cases e1;rw[MM hiσ] at e2;cases e2;exact⟨u,r,.inr ⟨.inl hk,c,hc,hc'⟩⟩
   ·rw[M6 (Q2 hj)] at e2;obtain⟨u',r',q⟩:=hl j y v' e1 e2 e3;refine⟨u',r',?_⟩;rcases q with q|⟨k,c',e,z'⟩
    ·exact .inl q
    ·refine .inr ⟨k,c',e,z'.sameBut hs ?_⟩;rintro rfl;exact hj (JcH hN e1 (I.ok.inj _ _ _ e hc▸hi))
  ·by_cases hcc:c'=c
   ·subst hcc;exact⟨_,hc'⟩
   ·obtain⟨w2,z2⟩:=I.cell y c' e;exact⟨w2,z2.sameBut hs hcc⟩
  ·obtain⟨e,n,ne,nf,d⟩:=I.pin p hp;refine⟨(hs.2 p.1 ?_).trans e,n,ne,nf,d⟩;intro q;rw[q,hoc] at e;have q':oc=p.2:=Q0 e;exact d w' (by rw[<- q'];exact hocd)
theorem Zy{M:Model}{A:QF}{E:Qe->Qh->Prop}{i:Nat}{x:Str}{v:V}{u:Qe}{Q:Unit->Qh->Prop}(I:Inv X pins σ H s)(hN:X.N.Nodup)(hi:X.N[i]?=some x)(hx:Loc X.env.scope x)(r:RelV v u)
 (h:∀s',Inv X pins (σ.set i (some v)) H s'->Q () s') (hf:X.fn x=true\/X.env.scope.names.lookup x=some .local:=by first|exact .inl rfl|exact .inr rfl|assumption):wpAny M A (storeName X.env x u) Q E s :=
 JgR I hN hi hx r (fun s' I' _=>h s' I') hf
theorem Inv.call'{s':Qh}{ch:List Qg}(I:Inv X pins σ H s)(ho:s'.os=s.os)(u:Un (frs X.stack) ch H H' s.heap s'.heap)(hok:HOk X.prog X.w H' s'.heap)(hg:AllBare s'.gens)
 (hch:∀b∈ch,(b∈X.ex\/X.s₀.heap.objs.size<=b)/\b≠X.env.locals/\(∀x c,X.env.cells.lookup x=some c->c≠b)/\∀p∈X.pn++pins,p.1≠b):Inv X pins σ H' s':=by
 obtain⟨h',g',d',t',o'⟩:=s';have e:o'=s.os:=ho;subst e;exact I.call (g':=g') (t':=t') (d':=d') u hok hg hch
end

noncomputable abbrev XK:=Qe->Option Qg->Hp->Prop
noncomputable abbrev St:=List (Option V)
noncomputable abbrev VK:=V->Hp->Prop
noncomputable abbrev TE:=St->Hp->VK->Prop
noncomputable abbrev TT:=St->Hp->(Bool->Hp->Prop)->Prop
noncomputable abbrev TA:=St->Hp->(List V->Hp->Prop)->Prop
structure Ends where
 nx:St->Hp->Prop
 rt:VK
 bk:St->Hp->Prop:=fun _ _=>False
 ct:St->Hp->Prop:=fun _ _=>False
noncomputable abbrev TS:=Ends->St->Hp->Prop

noncomputable def EP(X:Cx)(pins:List (Qg×Obj))(σ:St)(Q:VK)(u:Qe)(s':Qh):Prop:=∃v H',Inv X pins σ H' s'/\RelV v u/\Q v H'
noncomputable def TP(X:Cx)(pins:List (Qg×Obj))(σ:St)(Q:Bool->Hp->Prop)(b:Bool)(s':Qh):Prop:=∃H',Inv X pins σ H' s'/\Q b H'
noncomputable def AP(X:Cx)(pins:List (Qg×Obj))(σ:St)(Q:List V->Hp->Prop)(us:List Qe)(s':Qh):Prop:=∃vs H',Inv X pins σ H' s'/\Vals vs us/\Q vs H'
noncomputable def SP(X:Cx)(pins:List (Qg×Obj))(D:Ends)(f:Flow)(s':Qh):Prop :=
 match f with
 | .next=>∃σ' H',Inv X pins σ' H' s'/\D.nx σ' H'
 | .brk=>∃σ' H',Inv X pins σ' H' s'/\D.bk σ' H'
 | .cont=>∃σ' H',Inv X pins σ' H' s'/\D.ct σ' H'
 | .ret u=>∃v σ' H',Inv X pins σ' H' s'/\RelV v u/\D.rt v H'

noncomputable def PE(X:Cx)(e:Q6)(t:TE):Prop :=
 ∀(pins:List (Qg×Obj)) (s:Qh) (σ:St) (H:Hp) (Q:VK),Inv X pins σ H s->t σ H Q->wpAny (model X.prog X.w) X.A (eval e X.env) (EP X pins σ Q) X.xe s
noncomputable def PT(X:Cx)(e:Q6)(t:TT):Prop :=
 ∀(pins:List (Qg×Obj)) (s:Qh) (σ:St) (H:Hp) (Q:Bool->Hp->Prop),Inv X pins σ H s->t σ H Q->wpAny (model X.prog X.w) X.A (isTrue e X.env (eval e X.env)) (TP X pins σ Q) X.xe s
noncomputable def PW(X:Cx)(e:Q6)(t:TT):Prop :=
 ∀(whole:Sem Qe) (pins:List (Qg×Obj)) (s:Qh) (σ:St) (H:Hp) (Q:Bool->Hp->Prop),Inv X pins σ H s->t σ H Q->wpAny (model X.prog X.w) X.A (isTrue e X.env whole) (TP X pins σ Q) X.xe s
theorem PW.pt{X:Cx}{e:Q6}{t:TT}(h:PW X e t):PT X e t:=h _
noncomputable def PA(X:Cx)(es:List Q6)(t:TA):Prop :=
 ∀(pos:Pos) (pins:List (Qg×Obj)) (s:Qh) (σ:St) (H:Hp) (Q:List V->Hp->Prop),Inv X pins σ H s->t σ H Q->wpAny (model X.prog X.w) X.A (spliced (backTo pos (starEach es X.env))) (AP X pins σ Q) X.xe s
noncomputable def PS(X:Cx)(st:G0)(t:TS):Prop :=
 ∀(pins:List (Qg×Obj)) (s:Qh) (σ:St) (H:Hp) (D:Ends),Inv X pins σ H s->t D σ H->wpAny (model X.prog X.w) X.A (exec st X.env) (SP X pins D) X.xe s
noncomputable def PSs(X:Cx)(st:List G0)(t:TS):Prop :=
 ∀(pins:List (Qg×Obj)) (s:Qh) (σ:St) (H:Hp) (D:Ends),Inv X pins σ H s->t D σ H->wpAny (model X.prog X.w) X.A (execs st X.env) (SP X pins D) X.xe s
theorem thn{α:Type}{t:Sem α}{Q Q':α->Qh->Prop}{M:Model}{A:QF}{E:Qe->Qh->Prop}{s:Qh}(h:wpAny M A t Q E s)(hQ:∀a s,Q a s->Q' a s):wpAny M A t Q' E s:=KG h hQ fun _ _ x=>x
end L2

namespace L2
open PySem PySem.Spec PyProof.Rows
section
variable{X:Cx}

noncomputable def Wf(i:Nat):TE:=fun σ H Q=>∃v,σ[i]?=some (some v)/\Q v H
noncomputable def tC(v:V):TE:=fun _ H Q=>Q v H
theorem Jih{i:Nat}{x:Str}{pos:Pos}(hN:X.N[i]?=some x)(hv:Vis X.env.scope x)(hd:(x == ("__debug__":Str))=false:=by decide)(hcd:(x == ("__classdict__":Str))=false:=by decide):PE X (.Name x pos) (Wf i):=by
 intro pins s σ H Q I h;obtain⟨v,e,h⟩:=h;obtain⟨m,hn,hl⟩:=I.loc;obtain⟨u,r,l⟩:=hl i x v hN e hv;have fin:EP X pins σ Q u s:=⟨v,H,I,r,h⟩
 rcases l with ⟨hk,hm⟩|⟨hk,c,hc,hcell⟩
 ·exact wpAny_Name (wpAny_loadName_local I.ok.kind hk hn hm fin) hd
 ·rcases hk with hk|hk
  ·exact wpAny_Name (wpAny_loadName_cell I.ok.kind hk hc hcell fin) hd
  ·exact wpAny_Name (wpAny_loadName_free I.ok.kind hk hc hcell fin hcd) hd
theorem Je{i j pos}:PE X (.Constant (.int i) j pos) (tC (.int i)):=fun _ _ _ H _ I h=>wpAny_Constant_int ⟨.int i,H,I.tok _,⟨_,rfl⟩,h⟩
theorem JaC{b j pos}:PE X (.Constant (.bool b) j pos) (tC (.bl b)):=fun _ _ _ H _ I h=>Constant_bool ⟨.bl b,H,I,rfl,h⟩
theorem Uv{j pos}:PE X (.Constant .none j pos) (tC .non):=fun _ _ _ H _ I h=>Constant_none ⟨.non,H,I,rfl,h⟩
noncomputable def Gl(X:Cx)(x:Str):Prop:=X.env.kindOf x=some .globalImplicit
theorem Jbj{E:Qe->Qh->Prop}{pins:List (Qg×Obj)}{s:Qh}{σ:St}{H:Hp}{x:Str}{u:Qe}{pos:Pos}{Q:Qe->Qh->Prop}(I:Inv X pins σ H s)(hg:Gl X x)(hm:X.mg x=some u)(h:Q u s)
 (hd:(x == ("__debug__":Str))=false:=by decide):wpAny (model X.prog X.w) X.A (eval (.Name x pos) X.env) Q E s :=
 Mc I.ok.kind hg (Calls.loadGlobal_global (by rw[I.ok.glob];exact I.mod.glob.keeps I.bk) hm h) hd
theorem Ud{E:Qe->Qh->Prop}{pins:List (Qg×Obj)}{s:Qh}{σ:St}{H:Hp}{x:Str}{u:Qe}{pos:Pos}{Q:Qe->Qh->Prop}(I:Inv X pins σ H s)(hg:Gl X x)(hm:X.mg x=none)(hv:bootBuiltins x=some u)(h:Q u s)
 (hn:x≠"__name__":=by decide) (hd:(x == ("__debug__":Str))=false:=by decide):wpAny (model X.prog X.w) X.A (eval (.Name x pos) X.env) Q E s:=by
 obtain⟨mb,h1,h2⟩:=I.mod.blt;exact Mc I.ok.kind hg (Calls.loadGlobal_builtin (by rw[I.ok.glob];exact I.mod.glob.keeps I.bk) hm (by rw[I.ok.blt];exact h1.keeps I.bk) ((h2 x hn).trans hv) h) hd
theorem JkC{x:Str}{v:V}{u:Qe}{pos:Pos}(hg:Gl X x)(hm:X.mg x=some u)(r:RelV v u)(hd:(x == ("__debug__":Str))=false:=by decide):PE X (.Name x pos) (tC v) :=
 fun _ _ _ H _ I h=>Jbj I hg hm ⟨v,H,I,r,h⟩ hd
theorem Jfn{x:Str}{v:V}{u:Qe}{pos:Pos}(hg:Gl X x)(hm:X.mg x=none)(hv:bootBuiltins x=some u)(r:RelV v u)(hn:x≠"__name__":=by decide)(hd:(x == ("__debug__":Str))=false:=by decide):PE X (.Name x pos) (tC v) :=
 fun _ _ _ H _ I h=>Ud I hg hm hv ⟨v,H,I,r,h⟩ hn hd

variable{a b:Q6}{ta tb:TE}{pos:Pos}
noncomputable def tB(t:TE):TT:=fun σ H Q=>t σ H fun x H1=>∃c,x=.bl c/\Q c H1
variable{tA tB':TT}{rest:List Q6}
noncomputable def Jou(t u:TT):TT:=fun σ H Q=>t σ H fun c H1=>if c=true then u σ H1 Q else Q false H1
noncomputable def tOr(t u:TT):TT:=fun σ H Q=>t σ H fun c H1=>if c=true then Q true H1 else u σ H1 Q
noncomputable def JoA(t:TT):TT:=fun σ H Q=>t σ H fun c H1=>Q (!c) H1
theorem WG(ha:PT X a tA):PW X (.BoolOp .And [a] pos) tA:=by
 intro wh pins s σ H Q I h;refine isTrue_and (thn (ha pins s σ H Q I h) fun c s1 e=>?_)
 cases c with
 | true=>exact isTrue_and_nil e
 | false=>exact e
theorem Jis(ha:PT X a tA):PW X (.BoolOp .Or [a] pos) tA:=by
 intro wh pins s σ H Q I h;refine isTrue_or (thn (ha pins s σ H Q I h) fun c s1 e=>?_)
 cases c with
 | false=>exact isTrue_or_nil e
 | true=>exact e
theorem JbC(ha:PT X a tA)(hb:PW X (.BoolOp .And (b::rest) pos) tB'):PW X (.BoolOp .And (a::b::rest) pos) (Jou tA tB'):=by
 intro wh pins s σ H Q I h;refine isTrue_and (thn (ha pins s σ H _ I h) fun c s1 ⟨H1,I1,q1⟩=>?_)
 cases c with
 | true=>exact hb wh pins s1 σ H1 Q I1 q1
 | false=>exact⟨H1,I1,q1⟩
theorem JlP(ha:PT X a tA)(hb:PW X (.BoolOp .Or (b::rest) pos) tB'):PW X (.BoolOp .Or (a::b::rest) pos) (tOr tA tB'):=by
 intro wh pins s σ H Q I h;refine isTrue_or (thn (ha pins s σ H _ I h) fun c s1 ⟨H1,I1,q1⟩=>?_)
 cases c with
 | true=>exact⟨H1,I1,q1⟩
 | false=>exact hb wh pins s1 σ H1 Q I1 q1
theorem JbB(ha:PT X a tA):PT X (.UnaryOp .Not a pos) (JoA tA):=by intro pins s σ H Q I h;exact isTrue_not (ha pins s σ H (fun c H1=>Q (!c) H1) I h)
noncomputable def JiQ(ta tb:TE):TE:=fun σ H Q=>ta σ H fun x H1=>∃c,x=.bl c/\if c=true then tb σ H1 Q else Q (.bl false) H1
noncomputable def Jq4(ta tb:TE):TE:=fun σ H Q=>ta σ H fun x H1=>∃c,x=.bl c/\if c=true then Q (.bl true) H1 else tb σ H1 Q
noncomputable def JiW(ta:TE):TE:=fun σ H Q=>ta σ H fun x H1=>∃c,x=.bl c/\Q (.bl (!c)) H1
theorem JnD{op}{t:TE}(h:PE X a t):PE X (.BoolOp op [a] pos) t:=fun pins s σ H Q I hw=>BoolOp_one (h pins s σ H Q I hw)
theorem Jic(ha:PE X a ta)(hb:PE X (.BoolOp .And (b::rest) pos) tb):PE X (.BoolOp .And (a::b::rest) pos) (JiQ ta tb):=by
 intro pins s σ H Q I h;refine BoolOp_and (thn (ha pins s σ H _ I h) fun v s1 ⟨x,H1,I1,r1,q1⟩=>?_);obtain⟨c,rfl,q1⟩:=q1;cases r1;refine G2 ?_
 cases c with
 | true=>exact hb pins s1 σ H1 Q I1 q1
 | false=>exact⟨.bl false,H1,I1,rfl,q1⟩
theorem JnC(ha:PE X a ta):PE X (.UnaryOp .Not a pos) (JiW ta):=by intro pins s σ H Q I h;refine UnaryOp_ (thn (ha pins s σ H _ I h) fun v s1 ⟨x,H1,I1,r1,q1⟩=>?_);obtain⟨c,rfl,q1⟩:=q1;cases r1;exact not_of (G2 ⟨.bl (!c),H1,I1,rfl,q1⟩)
noncomputable def tIf(t:TT)(ta tb:TE):TE:=fun σ H Q=>t σ H fun c H1=>if c=true then ta σ H1 Q else tb σ H1 Q
theorem Jie{c:Q6}(hc:PT X c tA)(ha:PE X a ta)(hb:PE X b tb):PE X (.IfExp c a b pos) (tIf tA ta tb):=by
 intro pins s σ H Q I h;refine wpAny_IfExp (thn (hc pins s σ H _ I h) fun d s1 ⟨H1,I1,q1⟩=>?_)
 cases d with
 | true=>exact ha pins s1 σ H1 Q I1 q1
 | false=>exact hb pins s1 σ H1 Q I1 q1
end
end L2

namespace L2
open PySem PySem.Spec PyProof.Rows

noncomputable def SqL(K:Qz)(H:Hp)(a:Qg)(xs:List V):Prop :=
 Rd H a (.lst xs) ∨
  ∃(o:Obj) (its:Array Qe) (n:Nat),K.lookup a=some o/\o.cls=.type "list"/\o.dict=none/\o.data=.seq its n/\its.size<=Qt/\Vals xs its.toList
noncomputable def SqT(K:Qz)(H:Hp)(a:Qg)(xs:List V):Prop :=
 Rd H a (.tup xs) ∨
  ∃(o:Obj) (its:Array Qe) (n:Nat),K.lookup a=some o/\o.cls=.type "tuple"/\o.data=.seq its n/\its.size<=Qt/\Vals xs its.toList
noncomputable def Jqz:Qe->Option V
 | .none=>some .non
 | .bool b=>some (.bl b)
 | .int i _=>some (.int i)
 | .str x _=>some (.str x)
 | .bytes b _=>some (.byt b)
 | .float b _=>some (.flt b)
 | .ref a=>some (.ref a)
 | .type n=>some (.ty n)
 | _=>none
theorem RelV.abs{x:V}{u:Qe}(r:RelV x u):Jqz u=some x:=by
 cases x with
 | non=>cases r;rfl
 | bl _=>cases r;rfl
 | int _=>obtain⟨t,rfl⟩:=r;rfl
 | str _=>obtain⟨t,rfl⟩:=r;rfl
 | byt _=>obtain⟨t,rfl⟩:=r;rfl
 | flt _=>obtain⟨t,rfl⟩:=r;rfl
 | ref _=>cases r;rfl
 | ty _=>cases r;rfl
theorem RelV.inj{x y:V}{u:Qe}(r:RelV x u)(q:RelV y u):x=y:=Q0 (r.abs.symm.trans q.abs)
theorem Vals.inj:∀{xs ys:List V} {us:List Qe},Vals xs us->Vals ys us->xs=ys
 | _,_,_,.nil,.nil=>rfl
 | _,_,_,.cons r t,.cons r' t'=>by rw[r.inj r',Vals.inj t t']
section
variable{X:Cx}{pins:List (Qg×Obj)}{σ:St}{H:Hp}{s:Qh}{a:Qg}{xs ys:List V}
theorem SqL.of{K:Qz}(h:H a=some (.lst xs)):SqL K H a xs:=.inl (.inl h)
theorem SqT.of{K:Qz}(h:H a=some (.tup xs)):SqT K H a xs:=.inl (.inl h)
theorem Inv.list(I:Inv X pins σ H s)(h:SqL X.K H a xs):∃its:List Qe,Vals xs its/\PlainL s.heap a its.toArray/\xs.length<=Qt:=by
 rcases h with h|⟨o,its,n,hk,hc,hd,hs,hz,r⟩
 ·obtain⟨z,its,n,r,e⟩:=h.ok I.hok;exact⟨its,r,⟨_,n,e,rfl,rfl,rfl⟩,z⟩
 ·refine⟨its.toList,r,⟨o,n,I.kIn a o hk,hc,hd,by simpa using hs⟩,?_⟩;have e:=r.length;simp only[GJ] at e;omega
theorem Inv.tuple(I:Inv X pins σ H s)(h:SqT X.K H a xs):∃its:List Qe,Vals xs its/\IsTup s.heap a its.toArray/\xs.length<=Qt:=by
 rcases h with h|⟨o,its,n,hk,hc,hs,hz,r⟩
 ·obtain⟨z,its,r,p⟩:=h.ok I.hok;exact⟨its,r,p,z⟩
 ·refine⟨its.toList,r,⟨o,I.kIn a o hk,hc,n,by simpa using hs⟩,?_⟩;have e:=r.length;simp only[GJ] at e;omega
theorem Inv.list_inj(I:Inv X pins σ H s)(h:SqL X.K H a xs)(h':SqL X.K H a ys):xs=ys:=by
 obtain⟨its,r,⟨o,n,e,_,_,d⟩,_⟩:=I.list h;obtain⟨its',r',⟨o',n',e',_,_,d'⟩,_⟩:=I.list h';rw[e] at e';cases e';rw[d] at d'
 injection d' with d1 _
 have:its=its':=by simpa using congrArg Array.toList d1
 subst this;exact r.inj r'
theorem Inv.tuple_inj(I:Inv X pins σ H s)(h:SqT X.K H a xs)(h':SqT X.K H a ys):xs=ys:=by
 obtain⟨its,r,⟨o,e,_,n,d⟩,_⟩:=I.tuple h;obtain⟨its',r',⟨o',e',_,n',d'⟩,_⟩:=I.tuple h';rw[e] at e';cases e';rw[d] at d'
 injection d' with d1 _
 have:its=its':=by simpa using congrArg Array.toList d1
 subst this;exact r.inj r'
end

noncomputable abbrev Cx.wish(X:Cx)(E:Qe->Qh->Prop):Cx:={ X with xe:=E }
noncomputable abbrev Cx.nox(X:Cx):Cx:=X.wish fun _ _=>False
theorem Cx.Ok.wish{X:Cx}(ok:X.Ok)(E:Qe->Qh->Prop):(X.wish E).Ok :=
 ⟨ok.mod,ok.kind,ok.glob,ok.blt,ok.above,ok.inj,ok.has,ok.cab,ok.hd,ok.frames,ok.stk,ok.exf,ok.bs,ok.bsz,ok.noex,ok.exfs,ok.funs,ok.frf⟩
theorem Cx.Ok.unwish{X:Cx}{E:Qe->Qh->Prop}(ok:(X.wish E).Ok):X.Ok :=
 ⟨ok.mod,ok.kind,ok.glob,ok.blt,ok.above,ok.inj,ok.has,ok.cab,ok.hd,ok.frames,ok.stk,ok.exf,ok.bs,ok.bsz,ok.noex,ok.exfs,ok.funs,ok.frf⟩
section
variable{X:Cx}{pins:List (Qg×Obj)}{σ:St}{H:Hp}{s:Qh}{E:Qe->Qh->Prop}
theorem Inv.wish(I:Inv X pins σ H s)(E:Qe->Qh->Prop):Inv (X.wish E) pins σ H s:=⟨I.ok.wish E,I.os,I.bare,I.base,I.loc,I.cell,I.free,I.freeC,I.pin,I.hok,I.len⟩
theorem Inv.unwish(I:Inv (X.wish E) pins σ H s):Inv X pins σ H s:=⟨I.ok.unwish,I.os,I.bare,I.base,I.loc,I.cell,I.free,I.freeC,I.pin,I.hok,I.len⟩
theorem SP.unwish{D:Ends}{f:Flow}{s':Qh}(h:SP (X.wish E) pins D f s'):SP X pins D f s':=by
 cases f with
 | next=>obtain⟨σ',H',I,q⟩:=h;exact⟨σ',H',I.unwish,q⟩
 | brk=>obtain⟨σ',H',I,q⟩:=h;exact⟨σ',H',I.unwish,q⟩
 | cont=>obtain⟨σ',H',I,q⟩:=h;exact⟨σ',H',I.unwish,q⟩
 | ret u=>obtain⟨v,σ',H',I,r,q⟩:=h;exact⟨v,σ',H',I.unwish,r,q⟩
theorem PE.nox{e:Q6}{t:TE}(h:PE X.nox e t):PE X e t:=fun pins s σ H Q I hw=>KG (h pins s σ H Q (I.wish _) hw) (fun _ _ ⟨v,H',I',r,q⟩=>⟨v,H',I'.unwish,r,q⟩) fun _ _ z=>Gx z
theorem PT.nox{e:Q6}{t:TT}(h:PT X.nox e t):PT X e t:=fun pins s σ H Q I hw=>KG (h pins s σ H Q (I.wish _) hw) (fun _ _ ⟨H',I',q⟩=>⟨H',I'.unwish,q⟩) fun _ _ z=>Gx z
theorem PSs.nox{st:List G0}{t:TS}(h:PSs X.nox st t):PSs X st t:=fun pins s σ H D I hw=>KG (h pins s σ H D (I.wish _) hw) (fun _ _ q=>q.unwish) fun _ _ z=>Gx z
end

section
variable{X:Cx}{st:G0}{rest:List G0}{t u:TS}{e:Q6}{te:TE}{pos:Pos}
noncomputable def JiV:TS:=fun D σ H=>D.nx σ H
noncomputable def JoB(t u:TS):TS:=fun D σ H=>t { D with nx:=u D } σ H
theorem Yo:PSs X [] JiV:=fun _ _ σ H _ I h=>LX ⟨σ,H,I,h⟩
theorem Jd(h1:PS X st t)(h2:PSs X rest u):PSs X (st::rest) (JoB t u):=by
 intro pins s σ H D I h;refine wpAny_execs_cons (thn (h1 pins s σ H { D with nx:=u D } I h) fun f s1 q=>?_)
 cases f with
 | next=>obtain⟨σ',H',I',q⟩:=q;exact h2 pins s1 σ' H' D I' q
 | ret v=>exact q
 | brk=>exact q
 | cont=>exact q
theorem Jg(h1:PS X st t):PSs X [st] t:=by
 intro pins s σ H D I h;refine wpAny_execs_cons (thn (h1 pins s σ H D I h) fun f s1 q=>?_)
 cases f with
 | next=>exact LX q
 | ret v=>exact q
 | brk=>exact q
 | cont=>exact q
theorem Inv.quiet{pins:List (Qg×Obj)}{σ:St}{H:Hp}{s:Qh}(I:Inv X pins σ H s):interactive X.env=false:=by simp[interactive,I.ok.kind]
noncomputable def JfN(te:TE):TS:=fun D σ H=>te σ H fun _ H1=>D.nx σ H1
theorem Y8(he:PE X e te)(hs:swapsWith e none pos.line X.env=pure false:=by rfl):PS X (.Expr e pos) (JfN te):=by intro pins s σ H D I h;exact wpAny_Expr_any (thn (he pins s σ H _ I h) fun v s1 ⟨x,H1,I1,r1,q1⟩=>⟨σ,H1,I1,q1⟩) I.quiet hs
noncomputable def Jlm(te:TE):TS:=fun D σ H=>te σ H D.rt
theorem Jx(he:PE X e te):PS X (.Return (some e) pos) (Jlm te):=by intro pins s σ H D I h;exact wpAny_Return_some (thn (he pins s σ H _ I h) fun v s1 ⟨x,H1,I1,r1,q1⟩=>⟨x,σ,H1,I1,r1,q1⟩)
noncomputable def Jox(c:TT)(t u:TS):TS:=fun D σ H=>c σ H fun b H1=>if b=true then t D σ H1 else u D σ H1
theorem YK{c:Q6}{a b:List G0}{tc:TT}(hc:PT X c tc)(ha:PSs X a t)(hb:PSs X b u):PS X (.If c a b pos) (Jox tc t u):=by
 intro pins s σ H D I h;refine wpAny_If (thn (hc pins s σ H _ I h) fun d s1 ⟨H1,I1,q1⟩=>?_)
 cases d with
 | true=>exact ha pins s1 σ H1 D I1 q1
 | false=>exact hb pins s1 σ H1 D I1 q1
noncomputable def Joz:TS:=fun _ _ _=>False
theorem Zq:PS X st Joz:=fun _ _ _ _ _ _ h=>h.elim
end

noncomputable abbrev TG:=V->St->Hp->(St->Hp->Prop)->Prop
noncomputable abbrev TGs:=List V->St->Hp->(St->Hp->Prop)->Prop
noncomputable def PG(X:Cx)(target:Q6)(t:TG):Prop :=
 ∀(pins:List (Qg×Obj)) (s:Qh) (σ:St) (H:Hp) (v:V) (u:Qe) (Q:St->Hp->Prop),Inv X pins σ H s->RelV v u->t v σ H Q ->
  wpAny (model X.prog X.w) X.A (assign target X.env u) (fun _ s'=>∃σ' H',Inv X pins σ' H' s'/\Q σ' H') X.xe s
noncomputable def PGs(X:Cx)(ts:List Q6)(t:TGs):Prop :=
 ∀(pins:List (Qg×Obj)) (s:Qh) (σ:St) (H:Hp) (vs:List V) (us:List Qe) (Q:St->Hp->Prop),Inv X pins σ H s->Vals vs us->t vs σ H Q ->
  wpAny (model X.prog X.w) X.A (assignInOrder ((assignEach ts X.env).map (·.2)) us) (fun _ s'=>∃σ' H',Inv X pins σ' H' s'/\Q σ' H') X.xe s
noncomputable abbrev JoX:=V->V->V->Hp->(Hp->Prop)->Prop
noncomputable abbrev TIp:=V->V->Hp->VK->Prop
noncomputable def PIp(X:Cx)(op:Operator)(t:TIp):Prop :=
 ∀(pins:List (Qg×Obj)) (s:Qh) (σ:St) (H:Hp) (x y:V) (v u:Qe) (Q:VK),Inv X pins σ H s->RelV x v->RelV y u->t x y H Q ->
  wpAny (model X.prog X.w) X.A (inplaceOp op v u) (EP X pins σ Q) X.xe s
section
variable{X:Cx}{pos:Pos}
noncomputable def Vs(i:Nat):TG:=fun v σ H Q=>Q (σ.set i (some v)) H
theorem JA{i:Nat}{x:Str}(hN:X.N.Nodup)(hi:X.N[i]?=some x)(hx:Loc X.env.scope x)(hf:X.fn x=true\/X.env.scope.names.lookup x=some .local:=by first|exact .inl rfl|exact .inr rfl|assumption):PG X (.Name x pos) (Vs i):=by intro pins s σ H v u Q I r h;exact wpAny_assign_Name (Zy I hN hi hx r (fun s' I'=>⟨_,H,I',h⟩) hf)
noncomputable def JmG:TGs:=fun vs σ H Q=>vs=[]/\Q σ H
noncomputable def JhC(t:TG)(u:TGs):TGs:=fun vs σ H Q=>∃v r,vs=v::r/\t v σ H fun σ' H'=>u r σ' H' Q
theorem JH:PGs X [] JmG:=by intro pins s σ H vs us Q I r h;obtain⟨e,h⟩:=h;subst e;cases r;exact assignInOrder_nil ⟨σ,H,I,h⟩
theorem Ji{e:Q6}{es:List Q6}{t:TG}{u:TGs}(h1:PG X e t)(h2:PGs X es u)
 (hs:(assignEach (e::es) X.env).map (·.2)=assign e X.env::(assignEach es X.env).map (·.2):=by rfl):PGs X (e::es) (JhC t u):=by
 intro pins s σ H vs us Q I r h;obtain⟨v,vr,e1,h⟩:=h;subst e1
 cases r with
 | cons r rr=>rw[hs];refine assignInOrder_cons (thn (h1 pins s σ H _ _ _ I r h) fun _ s1 ⟨σ1,H1,I1,q1⟩=>?_);exact h2 pins s1 σ1 H1 _ _ Q I1 rr q1
noncomputable def JhD(K:Qz)(n:Nat)(t:TGs):TG:=fun v σ H Q=>∃a xs,v=.ref a/\SqT K H a xs/\xs.length=n/\t xs σ H Q
theorem JnE{es:List Q6}{k:Nat}{t:TGs}{n:Nat}(hc:X.calm=true)(h:PGs X es t)
 (hn:(assignEach es X.env).length=n:=by rfl) (hst:(assignEach es X.env).findIdx? (·.1)=none:=by rfl):PG X (.Tuple es k pos) (JhD X.K n t):=by
 intro pins s σ H v u Q I r hw;obtain⟨a,xs,e1,hq,hl,hw⟩:=hw;subst e1;cases r;obtain⟨its,rv,ht,hz⟩:=I.tuple hq;refine assign_Tuple_tuple (I.ok.hd hc) ht (by simp[hn,<- hl,rv.length]) hst fun h' hx=>?_
 have I1:Inv X pins σ H { s with heap:=h' }:=I.kept (t':=s.toks) fun b o e=>hx b o (QK (Qq e)) e
 exact h pins _ σ H xs _ Q I1 (by simpa using rv) hw
noncomputable def JqH(to ti:TE)(t:JoX):TG:=fun v σ H Q=>to σ H fun o H1=>ti σ H1 fun i H2=>t o i v H2 fun H3=>Q σ H3
noncomputable def Jda(te:TE)(g:TG):TS:=fun D σ H=>te σ H fun x H1=>g x σ H1 D.nx
theorem JnJ{tg e:Q6}{te:TE}{g:TG}(he:PE X e te)(hg:PG X tg g)(hs:swapsWithSole [tg] e pos.line X.env=pure false:=by rfl)(hw:swappedStores [tg] e X.env=pure none:=by rfl)
 (h1:(assignEach [tg] X.env).map (·.2)=[assign tg X.env]:=by rfl):PS X (.Assign [tg] e pos) (Jda te g):=by
 intro pins s σ H D I h;refine wpAny_Assign_stores (thn (he pins s σ H _ I h) fun v s1 ⟨x,H1,I1,r1,q1⟩=>?_) hs hw;rw[h1];exact thn (hg pins s1 σ H1 x v _ I1 r1 q1) fun _ s2 q=>q
theorem Jd6{i:Nat}{x:Str}{e:Q6}{te:TE}{pos':Pos}(hN:X.N.Nodup)(hi:X.N[i]?=some x)(hx:Loc X.env.scope x)(he:PE X e te)(hs:swapsWith e (some (.Name x pos')) pos.line X.env=pure false:=by rfl)(hf:X.fn x=true\/X.env.scope.names.lookup x=some .local:=by first|exact .inl rfl|exact .inr rfl|assumption) :
 PS X (.Assign [.Name x pos'] e pos) (Jda te (Vs i)):=by
 intro pins s σ H D I h;refine wpAny_Assign_Name (thn (he pins s σ H _ I h) fun v s1 ⟨y,H1,I1,r1,q1⟩=>?_) hs;exact Zy I1 hN hi hx r1 (fun s2 I2=>⟨_,H1,I2,q1⟩) hf
noncomputable def Jqg(i:Nat)(te:TE)(ti:TIp):TS:=fun D σ H=>∃x,σ[i]?=some (some x)/\te σ H fun y H1=>ti x y H1 fun z H2=>D.nx (σ.set i (some z)) H2
theorem Jd5{i:Nat}{x:Str}{e:Q6}{te:TE}{op:Operator}{ti:TIp}{pos':Pos}(hN:X.N.Nodup)(hi:X.N[i]?=some x)(hx:Loc X.env.scope x)(he:PE X e te)(ho:PIp X op ti)(hf:X.fn x=true\/X.env.scope.names.lookup x=some .local:=by first|exact .inl rfl|exact .inr rfl|assumption) :
 PS X (.AugAssign (.Name x pos') op e pos) (Jqg i te ti):=by
 intro pins s σ H D I h;obtain⟨v,e1,h⟩:=h;obtain⟨m,hn,hl⟩:=I.loc;have vis:Vis X.env.scope x:=by rcases hx with k|k;exact .inl k;exact .inr (.inl k)
 obtain⟨u,r,l⟩:=hl i x v hi e1 vis;refine wpAny_AugAssign_Name ?_
 have go:wpAny (model X.prog X.w) X.A (eval e X.env) (fun w s₂=>wpAny (model X.prog X.w) X.A (inplaceOp op u w) (fun r s₃=>wpAny (model X.prog X.w) X.A (storeName X.env x r) (fun _=>SP X pins D .next) X.xe s₃) X.xe s₂) X.xe s:=by
  refine thn (he pins s σ H _ I h) fun w s1 ⟨y,H1,I1,r1,q1⟩=>?_
  refine thn (ho pins s1 σ H1 v y u w _ I1 r r1 q1) fun z s2 ⟨zv,H2,I2,r2,q2⟩=>?_
  exact Zy I2 hN hi hx r2 (fun s3 I3=>⟨_,H2,I3,q2⟩) hf
 rcases l with ⟨hk,hm⟩|⟨hk,c,hc,hcell⟩
 ·exact wpAny_loadName_local I.ok.kind hk hn hm go
 ·rcases hk with hk|hk
  ·exact wpAny_loadName_cell I.ok.kind hk hc hcell go
  ·rcases hx with k|k
   ·have:X.env.scope.names.lookup x=some .free:=hk;rw[k] at this;cases this
   ·have:X.env.scope.names.lookup x=some .free:=hk;rw[k] at this;cases this
noncomputable def ipI(f:Int->Int->Int):TIp:=fun x y H Q=>∃i j,x=.int i/\y=.int j/\Q (.int (f i j)) H
theorem JhL:PIp X .Add (ipI fun i j=>i+j):=by intro pins s σ H x y v u Q I r1 r2 h;obtain⟨i,j,e1,e2,q⟩:=h;subst e1;subst e2;obtain⟨t,rfl⟩:=r1;obtain⟨t',rfl⟩:=r2;exact iadd_int ⟨.int _,H,I.tok _,⟨_,rfl⟩,q⟩
theorem JmL:PIp X .Sub (ipI fun i j=>i-j):=by intro pins s σ H x y v u Q I r1 r2 h;obtain⟨i,j,e1,e2,q⟩:=h;subst e1;subst e2;obtain⟨t,rfl⟩:=r1;obtain⟨t',rfl⟩:=r2;exact isub_int ⟨.int _,H,I.tok _,⟨_,rfl⟩,q⟩
end

section
variable{X:Cx}{pos:Pos}
noncomputable def JiY(c:TT)(tb:TS):TS:=fun D σ H=>∃W:Nat->St->Hp->Prop,(∃m,W m σ H)/\∀m σ H,W m σ H ->
 c σ H fun b H1=>if b=true then ∃N:St->Hp->Prop,(∀σ' H',N σ' H'->∃m',m'<m/\W m' σ' H')/\tb { D with nx:=N,ct:=N,bk:=D.nx } σ H1 else D.nx σ H1
theorem JcX{c:Q6}{body:List G0}{tc:TT}{tb:TS}(hp:PassesOwn (model X.prog X.w) X.A X.env X.xe)(hc:PT X c tc)(hb:PSs X body tb):PS X (.While c body [] pos) (JiY tc tb):=by
 intro pins s σ H D I h;obtain⟨W,⟨m0,w0⟩,turn⟩:=h;refine wpAny_While (codeAny_whileLoop (fun n s'=>∃σ' H',Inv X pins σ' H' s'/\W n σ' H') ?_ m0 ⟨σ,H,I,w0⟩);rintro n s1 ⟨σ1,H1,I1,w1⟩;refine Kx hp (thn (hc pins s1 σ1 H1 _ I1 (turn n σ1 H1 w1)) fun b s2 ⟨H2,I2,q2⟩=>?_)
 cases b with
 | true =>
  obtain⟨N,hN,q2⟩:=q2;rw[if_pos rfl];refine Kx hp (thn (hb pins s2 σ1 H2 _ I2 q2) fun f s3 q3=>?_)
  cases f with
  | next=>obtain⟨σ3,H3,I3,n3⟩:=q3;obtain⟨m',hm,w3⟩:=hN σ3 H3 n3;exact⟨m',hm,σ3,H3,I3,w3⟩
  | cont=>obtain⟨σ3,H3,I3,n3⟩:=q3;obtain⟨m',hm,w3⟩:=hN σ3 H3 n3;exact⟨m',hm,σ3,H3,I3,w3⟩
  | brk=>exact q3
  | ret v=>exact q3
 | false=>rw[if_neg QI];exact LX ⟨σ1,H2,I2,q2⟩
end

structure It where
 go:Nat->Hp->Prop
 yld:Nat->Hp->V->Hp->Prop
 stop:Nat->Hp->Prop
noncomputable def FpOk(X:Cx)(pins:List (Qg×Obj))(H:Hp)(b:Qg):Prop :=
 H b=none/\b≠X.env.locals/\b∉X.fs/\(b∈X.ex\/X.s₀.heap.objs.size<=b)/\(∀x c,X.env.cells.lookup x=some c->c≠b)/\∀p∈X.pn++pins,p.1≠b
theorem Inv.fpOk{X:Cx}{pins:List (Qg×Obj)}{σ:St}{H H':Hp}{s:Qh}{b:Qg}(I:Inv X pins σ H s)(hb:s.heap.objs.size<=b)(hn:H' b=none):FpOk X pins H' b:=by
 refine⟨hn,Lf (QT I.lt hb),I.nofs hb,.inr (Q5 I.sz hb),fun x c e z=>?_,fun p hp z=>?_⟩
 ·obtain⟨v,q⟩:=I.cell x c e;exact absurd (QT q.lt (by rw[z];exact hb)) (GD _)
 ·exact absurd (QT (Qq (I.pin p hp).1) (by rw[z];exact hb)) (GD _)
structure Turn (P:Qy) (w:QH) (K:Qz) (tg:Q6) (J:It) (fp:List Qg) (it:Qg) (tn:Nat->QP->Prop):Prop where
 mem:it∈fp
 obj:∀i h,tn i h->∀b∈fp,∃o,h.get? b=some o/\∀v,o.data≠.cell v
 keep:∀i h h',tn i h->(∀b∈fp,∀o,h.get? b=some o->h'.get? b=some o)->tn i h'
 item:∀(X:Cx),X.prog=P->X.w=w->X.K=K->X.calm=true->∀(i:Nat) (pins:List (Qg×Obj)) (s:Qh) (σ:St) (H:Hp) (E:Qe->Qh->Prop),Inv X pins σ H s->(∀b∈fp,FpOk X pins H b)->tn i s.heap->J.go i H ->
  wpAny (model P w) X.A (pyNext (.ref it)) (fun r s1=>∃u,r=some u ∧
   wpAny (model P w) X.A (letOwnedTupleGo tg (.ref it) u) (fun _ s2=>∃x H',Inv X pins σ H' s2/\RelV x u/\J.yld i H x H'/\tn (i+1) s2.heap/\∀b∈fp,H' b=none) E s1) E s
 done:∀(X:Cx),X.prog=P->X.w=w->X.K=K->X.calm=true->∀(i:Nat) (pins:List (Qg×Obj)) (s:Qh) (σ:St) (H:Hp) (E:Qe->Qh->Prop),Inv X pins σ H s->(∀b∈fp,FpOk X pins H b)->tn i s.heap->J.stop i H ->
  wpAny (model P w) X.A (pyNext (.ref it)) (fun r s1=>r=none/\Inv X pins σ H s1) E s
 self:∀(A:QF) (i:Nat) (s:Qh) (Q:Qe->Qh->Prop) (E:Qe->Qh->Prop),tn i s.heap->Q (.ref it) s->wpAny (model P w) A (pyIter (.ref it)) Q E s
noncomputable abbrev TI:=St->Hp->(It->Hp->Prop)->Prop
noncomputable def PIE(X:Cx)(pins:List (Qg×Obj))(σ:St)(tg:Q6)(R:It->Hp->Prop)(itv:Qe)(s2:Qh):Prop :=
 ∃(it:Qg) (fp:List Qg) (tn:Nat->QP->Prop) (J:It) (H':Hp),itv=.ref it/\Inv X pins σ H' s2/\Turn X.prog X.w X.K tg J fp it tn/\tn 0 s2.heap/\(∀b∈fp,FpOk X pins H' b)/\R J H'
noncomputable def PI(X:Cx)(tg iter:Q6)(wi:TI):Prop :=
 ∀(pins:List (Qg×Obj)) (s:Qh) (σ:St) (H:Hp) (R:It->Hp->Prop),Inv X pins σ H s->wi σ H R ->
  wpAny (model X.prog X.w) X.A (eval iter X.env) (fun v s1=>wpAny (model X.prog X.w) X.A (pyIter v) (PIE X pins σ tg R) X.xe s1) X.xe s

theorem Jcg{M:Model}{A:QF}{E:Qe->Qh->Prop}{s:Qh}{tg:Q6}{it:Qg}{u:Qe}{o:Obj}{n:String}{vs:Array Qe}{Q:Unit->Qh->Prop}(ho:s.heap.get? it=some o)(hc:o.cls=.type n)(hd:o.data=.fields vs)
 (hn:["enumerate","zip","dict_itemiterator","dict_reverseitemiterator","odict_iterator","itertools.zip_longest","itertools.pairwise"].contains n=false) (hQ:Q () s):wpAny M A (letOwnedTupleGo tg (.ref it) u) Q E s:=by
 unfold letOwnedTupleGo;cases tg <;> first
  | exact Qp hQ
  | (cases u <;> first
   | exact Qp hQ
   | (refine Qa (wpAny_load ho ?_)
      rw[hc,hd];show wpAny M A (if (["enumerate","zip","dict_itemiterator","dict_reverseitemiterator","odict_iterator","itertools.zip_longest","itertools.pairwise"].contains n && vs[0]? == some (rawInt _))=true then _ else _) Q E s;rw[if_neg (by intro h;rw[hn,Bool.false_and] at h;cases h)];exact Qp hQ))

noncomputable def Itl(K:Qz)(a:Qg):It :=
 ⟨fun i H=>∃xs x,SqL K H a xs/\xs[i]?=some x,fun i H x H'=>H'=H/\∀xs,SqL K H a xs->xs[i]?=some x,fun i H=>∃xs,SqL K H a xs/\xs.length<=i⟩
noncomputable def Itt(K:Qz)(a:Qg):It :=
 ⟨fun i H=>∃xs x,SqT K H a xs/\xs[i]?=some x,fun i H x H'=>H'=H/\∀xs,SqT K H a xs->xs[i]?=some x,fun i H=>∃xs,SqT K H a xs/\xs.length<=i⟩
noncomputable def Itr(lo:Int)(n:Nat):It:=⟨fun i _=>i<n,fun i H x H'=>H'=H/\x=.int (lo+i),fun i _=>n<=i⟩
theorem JgT{P:Qy}{w:QH}{K:Qz}{tg:Q6}(a it:Qg):Turn P w K tg (Itl K a) [it] it (fun i h=>h.IsListIter it a i) where
 mem:=by simp
 obj:=fun i h st b hb=>by
  have e:b=it:=by simpa using hb
  subst e;obtain⟨o,e,c,d⟩:=st;exact⟨o,e,fun v z=>by rw[d] at z;cases z⟩
 keep:=fun i h h' st k=>st.at fun o e=>k it (by simp) o e
 item:=by
  intro X hP hw hK hc i pins s σ H E I hf st hg;subst hP hw hK;obtain⟨xs,x,hq,hx⟩:=hg;obtain⟨its,rv,p,hz⟩:=I.list hq;obtain⟨u,hu,ru⟩:=rv.get hx;obtain⟨f0,f1,f2,f3,f4,f5⟩:=hf it (by simp);refine wpAny_pyNext_list_item st p.isList (x:=u) (by simpa using hu) fun h' st' sb=>?_
  have I1:Inv X pins σ H { s with heap:=h' }:=I.turned (t':=s.toks) (fun b o hb e=>(sb.2 b hb).trans e) f0 f1 f3 f4 f5;obtain⟨o,e,c,d⟩:=id st';exact⟨u,rfl,Jcg (s:={ s with heap:=h' }) e c d (by decide) ⟨x,H,I1,ru,⟨rfl,fun ys hy=>by rw[I.list_inj hy hq];exact hx⟩,st',fun b hb=>(hf b hb).1⟩⟩
 done:=by intro X hP hw hK hc i pins s σ H E I hf st hg;subst hP hw hK;obtain⟨xs,hq,hx⟩:=hg;obtain⟨its,rv,p,hz⟩:=I.list hq;obtain⟨f0,f1,f2,f3,f4,f5⟩:=hf it (by simp);have hl:=rv.length;exact wpAny_pyNext_list_end (I.ok.hd hc) st p.isList (by simp;omega) fun h' eb=>⟨rfl,I.turned (t':=s.toks) (fun b o hb e=>eb b o hb e) f0 f1 f3 f4 f5⟩
 self:=fun _ _ _ _ _ st h=>wpAny_pyIter_listiter st h
theorem Jeo{P:Qy}{w:QH}{K:Qz}{tg:Q6}(a it:Qg):Turn P w K tg (Itt K a) [it] it (fun i h=>h.IsTupleIter it a i) where
 mem:=by simp
 obj:=fun i h st b hb=>by
  have e:b=it:=by simpa using hb
  subst e;obtain⟨o,e,c,d⟩:=st;exact⟨o,e,fun v z=>by rw[d] at z;cases z⟩
 keep:=fun i h h' st k=>st.at fun o e=>k it (by simp) o e
 item:=by
  intro X hP hw hK hc i pins s σ H E I hf st hg;subst hP hw hK;obtain⟨xs,x,hq,hx⟩:=hg;obtain⟨its,rv,p,hz⟩:=I.tuple hq;obtain⟨u,hu,ru⟩:=rv.get hx;obtain⟨f0,f1,f2,f3,f4,f5⟩:=hf it (by simp);refine wpAny_pyNext_tuple_item st (show s.heap.IsTuple a its.toArray from p) (x:=u) (by simpa using hu) fun h' st' sb=>?_
  have I1:Inv X pins σ H { s with heap:=h' }:=I.turned (t':=s.toks) (fun b o hb e=>(sb.2 b hb).trans e) f0 f1 f3 f4 f5;obtain⟨o,e,c,d⟩:=id st';exact⟨u,rfl,Jcg (s:={ s with heap:=h' }) e c d (by decide) ⟨x,H,I1,ru,⟨rfl,fun ys hy=>by rw[I.tuple_inj hy hq];exact hx⟩,st',fun b hb=>(hf b hb).1⟩⟩
 done:=by intro X hP hw hK hc i pins s σ H E I hf st hg;subst hP hw hK;obtain⟨xs,hq,hx⟩:=hg;obtain⟨its,rv,p,hz⟩:=I.tuple hq;obtain⟨f0,f1,f2,f3,f4,f5⟩:=hf it (by simp);have hl:=rv.length;exact wpAny_pyNext_tuple_end (I.ok.hd hc) st (show s.heap.IsTuple a its.toArray from p) (by simp;omega) fun h' eb=>⟨rfl,I.turned (t':=s.toks) (fun b o hb e=>eb b o hb e) f0 f1 f3 f4 f5⟩
 self:=fun _ _ _ _ _ st h=>wpAny_pyIter_tupleiter st h
theorem Jen{P:Qy}{w:QH}{K:Qz}{tg:Q6}(it:Qg)(lo:Int)(n:Nat):Turn P w K tg (Itr lo n) [it] it (fun i h=>IsRangeIter h it (lo+(i:Nat)*1) ((n:Int)-(i:Nat)) 1) where
 mem:=by simp
 obj:=fun i h st b hb=>by
  have e:b=it:=by simpa using hb
  subst e;exact⟨_,st,fun v z=>by have z':Data.fields _=Data.cell v:=z;cases z'⟩
 keep:=fun i h h' st k=>k it (by simp) _ st
 item:=by
  intro X hP hw hK hc i pins s σ H E I hf st hg;subst hP hw hK;obtain⟨f0,f1,f2,f3,f4,f5⟩:=hf it (by simp);have W:=Walks.range (prog:=X.prog) (w:=X.w) (I.ok.hd hc) it lo 1 n;refine W.item i s _ _ hg st fun v h' tk hv st' kk=>?_
  obtain⟨t,rfl⟩:=hv;have I1:Inv X pins σ H { s with heap:=h',toks:=tk }:=I.turned (fun b o hb e=>kk b o (by simpa using hb) e) f0 f1 f3 f4 f5;refine⟨_,rfl,Jcg (s:={ s with heap:=h',toks:=tk }) (n:="range_iterator") st' rfl rfl (by decide) ⟨.int (lo+i),H,I1,⟨t,?_⟩,⟨rfl,rfl⟩,st',fun b hb=>(hf b hb).1⟩⟩;rw[Ly]
 done:=by intro X hP hw hK hc i pins s σ H E I hf st hg;subst hP hw hK;obtain⟨f0,f1,f2,f3,f4,f5⟩:=hf it (by simp);exact wpAny_pyNext_range_end (I.ok.hd hc) st (by have:n<=i:=hg;omega) fun h' eb=>⟨rfl,I.turned (t':=s.toks) (fun b o hb e=>eb b o hb e) f0 f1 f3 f4 f5⟩
 self:=fun _ _ _ _ _ st h=>wpAny_pyIter_rangeiter st h
end L2

namespace L2
open PySem PySem.Spec PyProof.Rows
section
variable{X:Cx}{tg:Q6}
noncomputable def JlG(K:Qz)(tl:TE):TI:=fun σ H R=>tl σ H fun x H1=>∃a,x=.ref a/\(∃xs,SqL K H1 a xs)/\R (Itl K a) H1
noncomputable def Jpj(K:Qz)(tl:TE):TI:=fun σ H R=>tl σ H fun x H1=>∃a,x=.ref a/\(∃xs,SqT K H1 a xs)/\R (Itt K a) H1
theorem JkF{l:Q6}{tl:TE}(hl:PE X l tl):PI X tg l (JlG X.K tl):=by
 intro pins s σ H R I h;refine thn (hl pins s σ H _ I h) fun v s1 ⟨x,H1,I1,r1,q1⟩=>?_
 obtain⟨a,e,⟨xs,hq⟩,q⟩:=q1;subst e;cases r1;obtain⟨its,rv,p,hz⟩:=I1.list hq;refine Mo p.isList ?_;refine⟨s1.heap.objs.size,[s1.heap.objs.size],_,_,H1,rfl,I1.kept (t':=s1.toks) fun b o e=>Qi _ e,JgT a _,⟨_,Qn _ rfl,rfl,rfl⟩,fun b hb=>?_,q⟩;have e:b=s1.heap.objs.size:=by simpa using hb
 subst e;exact I1.fpOk (Qx _) (I1.hok.fresh (Qx _))
theorem JnG{l:Q6}{tl:TE}(hl:PE X l tl):PI X tg l (Jpj X.K tl):=by
 intro pins s σ H R I h;refine thn (hl pins s σ H _ I h) fun v s1 ⟨x,H1,I1,r1,q1⟩=>?_
 obtain⟨a,e,⟨xs,hq⟩,q⟩:=q1;subst e;cases r1;obtain⟨its,rv,p,hz⟩:=I1.tuple hq;refine Md (show s1.heap.IsTuple a its.toArray from p) ?_;refine⟨s1.heap.objs.size,[s1.heap.objs.size],_,_,H1,rfl,I1.kept (t':=s1.toks) fun b o e=>Qi _ e,Jeo a _,⟨_,Qn _ rfl,rfl,rfl⟩,fun b hb=>?_,q⟩;have e:b=s1.heap.objs.size:=by simpa using hb
 subst e;exact I1.fpOk (Qx _) (I1.hok.fresh (Qx _))
theorem JcY{pins:List (Qg×Obj)}{σ:St}{H:Hp}{s:Qh}{R:It->Hp->Prop}{E:Qe->Qh->Prop}{lo hi:Int}{t u v:Tok}{tk:Nat}(I:Inv X pins σ H s)(h1:-(2 ^ 62)<=lo)(h2:lo<2 ^ 62)(h3:-(2 ^ 62)<=hi)(h4:hi<2 ^ 62)
 (q:R (Itr lo (hi-lo).toNat) H):wpAny (model X.prog X.w) X.A (pyIter (.ref s.heap.objs.size)) (PIE X pins σ tg R) E { s with heap:=s.heap.push { cls:=.type "range",data:=.fields #[.int lo t,.int hi u,.int 1 v] },toks:=tk }:=by
 refine wpAny_pyIter_range (IsRange.new ..) (small_one h1 h2 h3 h4) ?_;have I1:Inv X pins σ H { s with heap:=s.heap.push { cls:=.type "range",data:=.fields #[.int lo t,.int hi u,.int 1 v] },toks:=tk }:=I.kept fun b o e=>Qi _ e
 refine⟨(s.heap.push { cls:=.type "range",data:=.fields #[.int lo t,.int hi u,.int 1 v] }).objs.size,[(s.heap.push { cls:=.type "range",data:=.fields #[.int lo t,.int hi u,.int 1 v] }).objs.size],_,_,H,rfl,
  I1.kept (t':=tk) fun b o e=>Qi _ e,Jen _ lo (hi-lo).toNat,?_,fun b hb=>?_,q⟩
 ·have e1:lo+((0:Nat):Int)*1=lo:=by simp
  have e2:(((hi-lo).toNat:Nat):Int)-((0:Nat):Int)=Builtin.Range.rangeSize lo hi 1:=by rw[rangeSize_one];split <;> omega
  show IsRangeIter _ _ (lo+((0:Nat):Int)*1) ((((hi-lo).toNat:Nat):Int)-((0:Nat):Int)) 1;rw[e1,e2];exact Qn _ rfl
 ·have e:b=(s.heap.push { cls:=.type "range",data:=.fields #[.int lo t,.int hi u,.int 1 v] }).objs.size:=by simpa using hb
  subst e;exact I1.fpOk (Qx _) (I1.hok.fresh (Qx _))
noncomputable def JlH(ta:TA):TI:=fun σ H R=>ta σ H fun vs H1=>∃j:Int,vs=[.int j]/\-(2 ^ 62)<=j/\j<2 ^ 62/\R (Itr 0 j.toNat) H1
noncomputable def JlI(ta:TA):TI:=fun σ H R=>ta σ H fun vs H1=>∃i j:Int,vs=[.int i,.int j]/\(-(2 ^ 62)<=i/\i<2 ^ 62/\-(2 ^ 62)<=j/\j<2 ^ 62)/\R (Itr i (j-i).toNat) H1
theorem Uj{a:Q6}{ta:TA}{p pos:Pos}(hg:Gl X "range")(hm:X.mg "range"=none)(ha:PA X [a] ta)(hs:starEach [a] X.env=[(false,eval a X.env)]:=by rfl):PI X tg (.Call (.Name "range" p) [a] [] pos) (JlH ta):=by
 intro pins s σ H R I h;refine Call_ (Ud I hg hm boot_range (GL (thn (ha pos pins s σ H _ I h) fun us s1 ⟨vs,H1,I1,r1,q1⟩=>?_) hs rfl));obtain⟨j,e,q1,q2,q⟩:=q1;subst e
 cases r1 with
 | cons r rr=>cases rr;obtain⟨t,rfl⟩:=r;exact call_range_1 (JcY I1 (by omega) (by omega) q1 q2 (by simpa using q))
theorem JgG{a b:Q6}{ta:TA}{p pos:Pos}(hg:Gl X "range")(hm:X.mg "range"=none)(ha:PA X [a,b] ta)(hs:starEach [a,b] X.env=[(false,eval a X.env),(false,eval b X.env)]:=by rfl)(hs2:starEach [b] X.env=[(false,eval b X.env)]:=by rfl) :
 PI X tg (.Call (.Name "range" p) [a,b] [] pos) (JlI ta):=by
 intro pins s σ H R I h;refine Call_ (Ud I hg hm boot_range (GL (thn (ha pos pins s σ H _ I h) fun us s1 ⟨vs,H1,I1,r1,q1⟩=>?_) (by rw[hs,hs2]) (by rw[hs2];rfl)));obtain⟨i,j,e,⟨q1,q2,q3,q4⟩,q⟩:=q1;subst e
 cases r1 with
 | cons r rr =>
  cases rr with
  | cons r' rr=>cases rr;obtain⟨t,rfl⟩:=r;obtain⟨t',rfl⟩:=r';exact call_range_2 (JcY I1 q1 q2 q3 q4 q)

noncomputable def Jow(wi:TI)(g:TG)(tb:TS):TS:=fun D σ H=>wi σ H fun J H1=>∃W:Nat->Nat->St->Hp->Prop,(∃m,W 0 m σ H1)/\∀i m σ H,W i m σ H ->
 (J.stop i H/\D.nx σ H)\/(J.go i H/\∃N:St->Hp->Prop,(∀σ' H',N σ' H'->∃m',m'<m/\W (i+1) m' σ' H')/\∀x H',J.yld i H x H'->g x σ H' fun σ2 H2=>tb { D with nx:=N,ct:=N,bk:=D.nx } σ2 H2)
noncomputable def Zp(fp:List Qg)(h:QP):List (Qg×Obj):=fp.filterMap fun b=>(h.get? b).map fun o=>(b,o)
theorem Vc{fp:List Qg}{h:QP}{b:Qg}{o:Obj}(hb:b∈fp)(e:h.get? b=some o):(b,o)∈Zp fp h:=List.mem_filterMap.mpr ⟨b,hb,by rw[e];rfl⟩
theorem JgD{fp:List Qg}{h:QP}{p:Qg×Obj}(hp:p∈Zp fp h):p.1∈fp/\h.get? p.1=some p.2:=by
 obtain⟨b,hb,e⟩:=List.mem_filterMap.mp hp
 cases q:h.get? b with
 | none=>rw[q] at e;cases e
 | some o=>rw[q] at e;have e':(b,o)=p:=Q0 e;subst e';exact⟨hb,q⟩
theorem Inv.pinned{pins:List (Qg×Obj)}{σ:St}{H:Hp}{s:Qh}{fp:List Qg}(I:Inv X pins σ H s)(hf:∀b∈fp,FpOk X pins H b)(ho:∀b∈fp,∃o,s.heap.get? b=some o/\∀v,o.data≠.cell v):Inv X (pins++Zp fp s.heap) σ H s :=
 I.pins_of fun p hp=>(GB.mp hp).elim (fun z=>I.pin p (GA _ z)) fun z=>by obtain⟨hb,e⟩:=JgD z;obtain⟨f0,f1,f2,_⟩:=hf p.1 hb;obtain⟨o,e',d⟩:=ho p.1 hb;rw[e] at e';cases e';exact⟨e,f0,f1,f2,d⟩
theorem Inv.unpinned{pins pl:List (Qg×Obj)}{σ:St}{H:Hp}{s:Qh}(I:Inv X (pins++pl) σ H s):Inv X pins σ H s:=I.pins_of fun p hp=>I.pin p (GA _ (LU _ hp))
theorem YI{iter:Q6}{body:List G0}{wi:TI}{g:TG}{tb:TS}{pos:Pos}(hp:PassesOwn (model X.prog X.w) X.A X.env X.xe)(hc:X.calm=true)(hi:PI X tg iter wi)(hg:PG X tg g)(hb:PSs X body tb)
 (hs:∀x,foldedSetIterable iter X.env x=pure x:=by intro _;rfl):PS X (.For tg iter body [] pos) (Jow wi g tb):=by
 intro pins s σ H D I h;refine wpAny_For (thn (hi pins s σ H _ I h) fun v s1 h1=>thn h1 fun itv s2 h2=>?_) hs;obtain⟨it,fp,tn,J,H2,e,I2,T,st2,f2,W,⟨m0,w0⟩,turn⟩:=h2;subst e
 -- what stays true of the iterator's objects through the loop
 have stat:∀{H':Hp},(∀b∈fp,H' b=none)->∀b∈fp,FpOk X pins H' b:=fun hn b hb=>⟨hn b hb,(f2 b hb).2⟩
 refine codeAny_forLoop_any (fun n s'=>∃i σ' H',Inv X pins σ' H' s'/\tn i s'.heap/\(∀b∈fp,H' b=none)/\W i n σ' H') ?_ m0 ⟨0,σ,H2,I2,st2,fun b hb=>(f2 b hb).1,w0⟩;rintro n s3 ⟨i,σ3,H3,I3,st3,fr3,w3⟩;rcases turn i n σ3 H3 w3 with ⟨stop,qn⟩|⟨go,N,hN,step⟩
 ·refine Kx hp (thn (T.done X rfl rfl rfl hc i pins s3 σ3 H3 X.xe I3 (stat fr3) st3 stop) fun r s4 ⟨hr,I4⟩=>?_);subst hr;exact LX ⟨σ3,H3,I4,qn⟩
 ·refine Kx hp (thn (T.item X rfl rfl rfl hc i pins s3 σ3 H3 X.xe I3 (stat fr3) st3 go) fun r s4 ⟨u,hr,h4⟩=>?_);subst hr;refine Kx hp (thn h4 fun _ s5 ⟨x,H5,I5,r5,y5,st5,fr5⟩=>?_);have I5':=I5.pinned (stat fr5) (T.obj _ _ st5);refine Kx hp (thn (hg _ s5 σ3 H5 x u _ I5' r5 (step x H5 y5)) fun _ s6 ⟨σ6,H6,I6,q6⟩=>?_);refine Kx hp (thn (hb _ s6 σ6 H6 _ I6 q6) fun f s7 q7=>?_)
  have again:∀{σ7:St} {H7:Hp},Inv X (pins++Zp fp s5.heap) σ7 H7 s7->N σ7 H7->∃m,m<n/\∃i σ' H',Inv X pins σ' H' s7/\tn i s7.heap/\(∀b∈fp,H' b=none)/\W i m σ' H':=fun {σ7 H7} I7 n7=>by obtain⟨m',hm,w7⟩:=hN σ7 H7 n7;refine⟨m',hm,i+1,σ7,H7,I7.unpinned,T.keep _ _ _ st5 fun b hb o e=>(I7.pin (b,o) (GA _ (GA _ (Vc hb e)))).1,fun b hb=>?_,w7⟩;obtain⟨o,e,d⟩:=T.obj _ _ st5 b hb;exact(I7.pin (b,o) (GA _ (GA _ (Vc hb e)))).2.1
  cases f with
  | next=>obtain⟨σ7,H7,I7,n7⟩:=q7;exact again I7 n7
  | cont=>obtain⟨σ7,H7,I7,n7⟩:=q7;exact again I7 n7
  | brk=>obtain⟨σ7,H7,I7,q7⟩:=q7;exact⟨σ7,H7,I7.unpinned,q7⟩
  | ret v=>obtain⟨x7,σ7,H7,I7,r7,q7⟩:=q7;exact⟨x7,σ7,H7,I7.unpinned,r7,q7⟩
end

theorem JhA{K:Qz}{a:Qg}{xs:List V}{g:TG}{tb:TS}{D:Ends}{σ:St}{H:Hp}(Pv:Nat->St->Hp->Prop)(h0:Pv 0 σ H)(hl:∀i σ H,i<=xs.length->Pv i σ H->SqL K H a xs)
 (hs:∀i x σ H,xs[i]?=some x->Pv i σ H->g x σ H fun σ2 H2=>tb { D with nx:=Pv (i+1),ct:=Pv (i+1),bk:=D.nx } σ2 H2) (hd:∀σ H,Pv xs.length σ H->D.nx σ H) :
 ∃W:Nat->Nat->St->Hp->Prop,(∃m,W 0 m σ H)/\∀i m σ H,W i m σ H ->
  ((Itl K a).stop i H/\D.nx σ H)\/((Itl K a).go i H/\∃N:St->Hp->Prop,(∀σ' H',N σ' H'->∃m',m'<m/\W (i+1) m' σ' H')/\∀x H',(Itl K a).yld i H x H'->g x σ H' fun σ2 H2=>tb { D with nx:=N,ct:=N,bk:=D.nx } σ2 H2):=by
 refine⟨fun i m σ H=>m=xs.length-i/\i<=xs.length/\Pv i σ H,⟨xs.length,by simp,GZ _,h0⟩,?_⟩;rintro i m σ H ⟨rfl,hi,p⟩;have q:=hl i σ H hi p
 by_cases hlt:i<xs.length
 ·refine .inr ⟨⟨xs,xs[i],q,by simp[hlt]⟩,Pv (i+1),fun σ' H' p'=>⟨xs.length-(i+1),by omega,rfl,hlt,p'⟩,fun x H' y=>?_⟩;obtain⟨e,y⟩:=y;subst e;exact hs i x σ _ (y xs q) p
 ·have e:i=xs.length:=by omega
  subst e;exact .inl ⟨⟨xs,q,Qx _⟩,hd σ H p⟩
theorem Jj2{K:Qz}{a:Qg}{xs:List V}{g:TG}{tb:TS}{D:Ends}{σ:St}{H:Hp}(Pv:Nat->St->Hp->Prop)(h0:Pv 0 σ H)(hl:∀i σ H,i<=xs.length->Pv i σ H->SqT K H a xs)
 (hs:∀i x σ H,xs[i]?=some x->Pv i σ H->g x σ H fun σ2 H2=>tb { D with nx:=Pv (i+1),ct:=Pv (i+1),bk:=D.nx } σ2 H2) (hd:∀σ H,Pv xs.length σ H->D.nx σ H) :
 ∃W:Nat->Nat->St->Hp->Prop,(∃m,W 0 m σ H)/\∀i m σ H,W i m σ H ->
  ((Itt K a).stop i H/\D.nx σ H)\/((Itt K a).go i H/\∃N:St->Hp->Prop,(∀σ' H',N σ' H'->∃m',m'<m/\W (i+1) m' σ' H')/\∀x H',(Itt K a).yld i H x H'->g x σ H' fun σ2 H2=>tb { D with nx:=N,ct:=N,bk:=D.nx } σ2 H2):=by
 refine⟨fun i m σ H=>m=xs.length-i/\i<=xs.length/\Pv i σ H,⟨xs.length,by simp,GZ _,h0⟩,?_⟩;rintro i m σ H ⟨rfl,hi,p⟩;have q:=hl i σ H hi p
 by_cases hlt:i<xs.length
 ·refine .inr ⟨⟨xs,xs[i],q,by simp[hlt]⟩,Pv (i+1),fun σ' H' p'=>⟨xs.length-(i+1),by omega,rfl,hlt,p'⟩,fun x H' y=>?_⟩;obtain⟨e,y⟩:=y;subst e;exact hs i x σ _ (y xs q) p
 ·have e:i=xs.length:=by omega
  subst e;exact .inl ⟨⟨xs,q,Qx _⟩,hd σ H p⟩
end L2

namespace L2
open PySem PySem.Spec PyProof.Rows

noncomputable abbrev R2:=V->V->Hp->VK->Prop
noncomputable def OpR(X:Cx)(f:Qe->Qe->Sem Qe)(r:R2):Prop :=
 ∀(pins:List (Qg×Obj)) (s:Qh) (σ:St) (H:Hp) (x y:V) (v u:Qe) (Q:VK),Inv X pins σ H s->RelV x v->RelV y u->r x y H Q ->
  wpAny (model X.prog X.w) X.A (f v u) (EP X pins σ Q) X.xe s
noncomputable def UnR(X:Cx)(f:Qe->Sem Qe)(r:V->Hp->VK->Prop):Prop :=
 ∀(pins:List (Qg×Obj)) (s:Qh) (σ:St) (H:Hp) (x:V) (v:Qe) (Q:VK),Inv X pins σ H s->RelV x v->r x H Q ->
  wpAny (model X.prog X.w) X.A (f v) (EP X pins σ Q) X.xe s
noncomputable def CallR(X:Cx)(f:Qe)(r:List V->Hp->VK->Prop):Prop :=
 ∀(pins:List (Qg×Obj)) (s:Qh) (σ:St) (H:Hp) (xs:List V) (us:List Qe) (Q:VK),Inv X pins σ H s->Vals xs us->r xs H Q ->
  wpAny (model X.prog X.w) X.A (call f us) (EP X pins σ Q) X.xe s
noncomputable def Jqy(X:Cx)(r:V->Hp->(Bool->Hp->Prop)->Prop):Prop :=
 ∀(pins:List (Qg×Obj)) (s:Qh) (σ:St) (H:Hp) (x:V) (v:Qe) (Q:Bool->Hp->Prop),Inv X pins σ H s->RelV x v->r x H Q ->
  wpAny (model X.prog X.w) X.A (truthy v) (TP X pins σ Q) X.xe s

noncomputable def tOp(r:R2)(ta tb:TE):TE:=fun σ H Q=>ta σ H fun x H1=>tb σ H1 fun y H2=>r x y H2 Q
noncomputable def tUn(r:V->Hp->VK->Prop)(ta:TE):TE:=fun σ H Q=>ta σ H fun x H1=>r x H1 Q
noncomputable def rI(C:Int->Int->Prop)(g:Int->Int->V):R2:=fun x y H Q=>∃i j,x=.int i/\y=.int j/\C i j/\Q (g i j) H
noncomputable def rI0(g:Int->Int->V):R2:=fun x y H Q=>∃i j,x=.int i/\y=.int j/\Q (g i j) H
noncomputable def rU(g:Int->V):V->Hp->VK->Prop:=fun x H Q=>∃i,x=.int i/\Q (g i) H

section
variable{X:Cx}{a b c:Q6}{ta tb tc:TE}{pos:Pos}

theorem Jl9(ha:PE X a ta)(hb:PE X b tb){pins:List (Qg×Obj)}{s:Qh}{σ:St}{H:Hp}{R:V->V->Hp->Prop}(I:Inv X pins σ H s)
 (h:ta σ H fun x H1=>tb σ H1 fun y H2=>R x y H2) {Q:Qe->Qh->Prop} {f:Qe->Qe->Sem Qe}
 (hf:∀v u s2 x y H2,Inv X pins σ H2 s2->RelV x v->RelV y u->R x y H2->wpAny (model X.prog X.w) X.A (f v u) Q X.xe s2) :
 wpAny (model X.prog X.w) X.A (eval a X.env) (fun v s₁=>wpAny (model X.prog X.w) X.A (eval b X.env) (fun u s₂=>wpAny (model X.prog X.w) X.A (f v u) Q X.xe s₂) X.xe s₁) X.xe s:=by
 refine thn (ha pins s σ H _ I h) fun v s1 ⟨x,H1,I1,r1,q1⟩=>?_
 refine thn (hb pins s1 σ H1 _ I1 q1) fun u s2 ⟨y,H2,I2,r2,q2⟩=>?_
 exact hf v u s2 x y H2 I2 r1 r2 q2

theorem Jk{op:Operator}{r:R2}(ho:OpR X (binaryOp op) r)(ha:PE X a ta)(hb:PE X b tb):PE X (.BinOp a op b pos) (tOp r ta tb):=by intro pins s σ H Q I h;exact wpAny_BinOp (Jl9 ha hb I h fun v u s2 x y H2 I2 rx ry q=>ho pins s2 σ H2 x y v u Q I2 rx ry q)
theorem JcU{op:UnaryOp}{r:V->Hp->VK->Prop}(ho:UnR X (unaryOp op) r)(ha:PE X a ta):PE X (.UnaryOp op a pos) (tUn r ta):=by intro pins s σ H Q I h;exact UnaryOp_ (thn (ha pins s σ H _ I h) fun v s1 ⟨x,H1,I1,r1,q1⟩=>ho pins s1 σ H1 x v Q I1 r1 q1)
theorem opI{f:Qe->Qe->Sem Qe}{C:Int->Int->Prop}{g:Int->Int->Int}
 (rule:∀(i j:Int) (t u:Tok) (s:Qh) (Q:Qe->Qh->Prop) (E:Qe->Qh->Prop),C i j->Q (.int (g i j) s.toks) { s with toks:=s.toks+1 }->wpAny (model X.prog X.w) X.A (f (.int i t) (.int j u)) Q E s) :
 OpR X f (rI C fun i j=>.int (g i j)):=by
 intro pins s σ H x y v u Q I rx ry h;obtain⟨i,j,rfl,rfl,hc,q⟩:=h;obtain⟨t,rfl⟩:=rx;obtain⟨t',rfl⟩:=ry;exact rule i j t t' s _ _ hc ⟨.int (g i j),H,I.tok _,⟨_,rfl⟩,q⟩
theorem Jpz{f:Qe->Qe->Sem Qe}{g:Int->Int->Int}
 (rule:∀(i j:Int) (t u:Tok) (s:Qh) (Q:Qe->Qh->Prop) (E:Qe->Qh->Prop),Q (.int (g i j) s.toks) { s with toks:=s.toks+1 }->wpAny (model X.prog X.w) X.A (f (.int i t) (.int j u)) Q E s) :
 OpR X f (rI0 fun i j=>.int (g i j)):=by
 intro pins s σ H x y v u Q I rx ry h;obtain⟨i,j,rfl,rfl,q⟩:=h;obtain⟨t,rfl⟩:=rx;obtain⟨t',rfl⟩:=ry;exact rule i j t t' s _ _ ⟨.int (g i j),H,I.tok _,⟨_,rfl⟩,q⟩
theorem Jnp{f:Qe->Qe->Sem Qe}{g:Int->Int->Bool}
 (rule:∀(i j:Int) (t u:Tok) (s:Qh) (Q:Qe->Qh->Prop) (E:Qe->Qh->Prop),Q (.bool (g i j)) s->wpAny (model X.prog X.w) X.A (f (.int i t) (.int j u)) Q E s) :
 OpR X f (rI0 fun i j=>.bl (g i j)):=by
 intro pins s σ H x y v u Q I rx ry h;obtain⟨i,j,rfl,rfl,q⟩:=h;obtain⟨t,rfl⟩:=rx;obtain⟨t',rfl⟩:=ry;exact rule i j t t' s _ _ ⟨.bl (g i j),H,I,rfl,q⟩

noncomputable def JoS(i j:Int):Prop:=0<j/\j<1073741824
noncomputable def CMul(i j:Int):Prop:=(-(2 ^ 64)<i/\i<2 ^ 64)\/(-(2 ^ 64)<j/\j<2 ^ 64)
theorem CMul.ok{i j:Int}(h:CMul i j):IntMulOk i j:=by
 rcases h with ⟨h1,h2⟩|⟨h1,h2⟩
 ·exact .of_left (intBits_le_64 h1 h2)
 ·exact .of_right (intBits_le_64 h1 h2)
theorem op_add:OpR X (binaryOp .Add) (rI0 fun i j=>.int (i+j)):=Jpz fun _ _ _ _ _ _ _ q=>add_int q
theorem Jy:OpR X (binaryOp .Sub) (rI0 fun i j=>.int (i-j)):=Jpz fun _ _ _ _ _ _ _ q=>sub_int q
theorem Y0:OpR X (binaryOp .Mult) (rI CMul fun i j=>.int (i*j)):=opI fun _ _ _ _ _ _ _ hc q=>mul_int q hc.ok
theorem Jky:OpR X (binaryOp .FloorDiv) (rI JoS fun i j=>.int (i / j)):=opI fun i j _ _ _ _ _ hc q=>by
 have h1:(0:Int)<j:=hc.1
 have h2:j<1073741824:=hc.2;exact floordiv_int (by omega) (by rw[Me i (by omega)];exact q) (.inl (PyProof.noPylong_small (by omega)))
theorem Zk:OpR X (binaryOp .Mod) (rI (fun _ j=>0<j) fun i j=>.int (i % j)):=opI fun i j _ _ _ _ _ hc q=>by have h1:(0:Int)<j:=hc;exact mod_int' (by omega) (by rw[Int.fmod_eq_emod_of_nonneg i (by omega)];exact q)
theorem unI{f:Qe->Sem Qe}{g:Int->Int}
 (rule:∀(i:Int) (t:Tok) (s:Qh) (Q:Qe->Qh->Prop) (E:Qe->Qh->Prop),Q (.int (g i) s.toks) { s with toks:=s.toks+1 }->wpAny (model X.prog X.w) X.A (f (.int i t)) Q E s) :
 UnR X f (rU fun i=>.int (g i)):=by
 intro pins s σ H x v Q I rx h;obtain⟨i,rfl,q⟩:=h;obtain⟨t,rfl⟩:=rx;exact rule i t s _ _ ⟨.int (g i),H,I.tok _,⟨_,rfl⟩,q⟩
theorem ZG:UnR X (unaryOp .USub) (rU fun i=>.int (-i)):=unI fun _ _ _ _ _ q=>neg_int q
end

noncomputable def Jor:V->V->Bool
 | .non,.non=>true|.non,.int _=>true|.int _,.non=>true|.non,.bl _=>true|.bl _,.non=>true|.non,.str _=>true|.str _,.non=>true
 | .int _,.int _=>true|.bl _,.bl _=>true|.str _,.str _=>true|.byt _,.byt _=>true
 | .int _,.str _=>true|.str _,.int _=>true|.bl _,.str _=>true|.str _,.bl _=>true
 | _,_=>false
noncomputable def rEq:R2:=fun x y H Q=>Jor x y=true/\Q (.bl (decide (x=y))) H
noncomputable def rNe:R2:=fun x y H Q=>Jor x y=true/\Q (.bl (!decide (x=y))) H

theorem JeI{i j:Int}:decide (V.int i=V.int j)=(i == j):=by rw[GQ];simp
theorem Jhm{i j:Bool}:decide (V.bl i=V.bl j)=(i == j):=by rw[GQ];simp
theorem JeJ{i j:Str}:decide (V.str i=V.str j)=(i == j):=by rw[GQ];simp
theorem JeH{i j:Array UInt8}:decide (V.byt i=V.byt j)=(i.toList == j.toList):=by rw[GQ];cases i;cases j;simp

section
variable{X:Cx}{a b c:Q6}{ta tb tc:TE}{pos:Pos}
theorem Jw{pins:List (Qg×Obj)}{σ:St}{H:Hp}{s:Qh}{Q:VK}{k k':Bool}(I:Inv X pins σ H s)(q:Q (.bl k) H)(e:k=k'):EP X pins σ Q (.bool k') s:=by subst e;exact⟨.bl k,H,I,rfl,q⟩
theorem op_eq:OpR X (compareOp .Eq) rEq:=by
 intro pins s σ H x y v u Q I rx ry h;obtain⟨hs,q⟩:=h
 cases x with
 | non =>
  cases rx
  cases y with
  | non=>cases ry;exact PySem.EqNone.eq_none_none (Jw I q (by simp))
  | bl j=>cases ry;exact PySem.EqNone.eq_none_bool (Jw I q (by simp))
  | int j=>obtain⟨t',rfl⟩:=ry;exact PySem.EqNone.eq_none_int (Jw I q (by simp))
  | str j=>obtain⟨t',rfl⟩:=ry;exact PySem.EqNone.eq_none_str (Jw I q (by simp))
  | _=>exact absurd (show false=true from hs) QI
 | bl i =>
  cases rx
  cases y with
  | non=>cases ry;exact PySem.EqNone.eq_bool_none (Jw I q (by simp))
  | bl j=>cases ry;exact eq_bool (Jw I q Jhm)
  | str j=>obtain⟨t',rfl⟩:=ry;exact PySem.EqMixed.eq_bool_str (Jw I q (by simp))
  | _=>exact absurd (show false=true from hs) QI
 | int i =>
  obtain⟨t,rfl⟩:=rx
  cases y with
  | non=>cases ry;exact PySem.EqNone.eq_int_none (Jw I q (by simp))
  | int j=>obtain⟨t',rfl⟩:=ry;exact eq_int (Jw I q JeI)
  | str j=>obtain⟨t',rfl⟩:=ry;exact PySem.EqMixed.eq_int_str (Jw I q (by simp))
  | _=>exact absurd (show false=true from hs) QI
 | str i =>
  obtain⟨t,rfl⟩:=rx
  cases y with
  | non=>cases ry;exact PySem.EqNone.eq_str_none (Jw I q (by simp))
  | bl j=>cases ry;exact PySem.EqMixed.eq_str_bool (Jw I q (by simp))
  | int j=>obtain⟨t',rfl⟩:=ry;exact PySem.EqMixed.eq_str_int (Jw I q (by simp))
  | str j=>obtain⟨t',rfl⟩:=ry;exact eq_str (Jw I q JeJ)
  | _=>exact absurd (show false=true from hs) QI
 | byt i =>
  obtain⟨t,rfl⟩:=rx
  cases y with
  | byt j=>obtain⟨t',rfl⟩:=ry;exact PySem.W.eq_bytes (Jw I q JeH)
  | _=>exact absurd (show false=true from hs) QI
 | _=>cases y <;> exact absurd (show false=true from hs) QI
theorem op_ne:OpR X (compareOp .NotEq) rNe:=by
 intro pins s σ H x y v u Q I rx ry h;obtain⟨hs,q⟩:=h
 cases x with
 | non =>
  cases rx
  cases y with
  | non=>cases ry;exact PySem.EqNone.ne_none_none (Jw I q (by simp))
  | bl j=>cases ry;exact PySem.EqNone.ne_none_bool (Jw I q (by simp))
  | int j=>obtain⟨t',rfl⟩:=ry;exact PySem.EqNone.ne_none_int (Jw I q (by simp))
  | str j=>obtain⟨t',rfl⟩:=ry;exact PySem.EqNone.ne_none_str (Jw I q (by simp))
  | _=>exact absurd (show false=true from hs) QI
 | bl i =>
  cases rx
  cases y with
  | non=>cases ry;exact PySem.EqNone.ne_bool_none (Jw I q (by simp))
  | bl j=>cases ry;exact ne_bool (Jw I q (congrArg not Jhm))
  | str j=>obtain⟨t',rfl⟩:=ry;exact PySem.EqMixed.ne_bool_str (Jw I q (by simp))
  | _=>exact absurd (show false=true from hs) QI
 | int i =>
  obtain⟨t,rfl⟩:=rx
  cases y with
  | non=>cases ry;exact PySem.EqNone.ne_int_none (Jw I q (by simp))
  | int j=>obtain⟨t',rfl⟩:=ry;exact ne_int (Jw I q (congrArg not JeI))
  | str j=>obtain⟨t',rfl⟩:=ry;exact PySem.EqMixed.ne_int_str (Jw I q (by simp))
  | _=>exact absurd (show false=true from hs) QI
 | str i =>
  obtain⟨t,rfl⟩:=rx
  cases y with
  | non=>cases ry;exact PySem.EqNone.ne_str_none (Jw I q (by simp))
  | bl j=>cases ry;exact PySem.EqMixed.ne_str_bool (Jw I q (by simp))
  | int j=>obtain⟨t',rfl⟩:=ry;exact PySem.EqMixed.ne_str_int (Jw I q (by simp))
  | str j=>obtain⟨t',rfl⟩:=ry;exact ne_str (Jw I q (congrArg not JeJ))
  | _=>exact absurd (show false=true from hs) QI
 | byt i =>
  obtain⟨t,rfl⟩:=rx
  cases y with
  | byt j=>obtain⟨t',rfl⟩:=ry;exact PySem.W.ne_bytes (Jw I q (congrArg not JeH))
  | _=>exact absurd (show false=true from hs) QI
 | _=>cases y <;> exact absurd (show false=true from hs) QI

theorem JaB:OpR X (compareOp .Lt) (rI0 fun i j=>.bl (decide (i<j))):=Jnp fun _ _ _ _ _ _ _ q=>lt_int q
theorem Jfm:OpR X (compareOp .LtE) (rI0 fun i j=>.bl (decide (i<=j))):=Jnp fun _ _ _ _ _ _ _ q=>le_int q
theorem JcP:OpR X (compareOp .Gt) (rI0 fun i j=>.bl (decide (j<i))):=Jnp fun _ _ _ _ _ _ _ q=>gt_int q
theorem Jkz:OpR X (compareOp .IsNot) (fun x y H Q=>y=.non/\Q (.bl (!decide (x=.non))) H):=by
 intro pins s σ H x y v u Q I rx ry h;obtain⟨rfl,q⟩:=h;cases ry;refine isnot_none_gen (Jw I q ?_);cases x <;> first
  | (cases rx;rfl)
  | (obtain⟨t,rfl⟩:=rx;rfl)

theorem OpR.or{f:Qe->Qe->Sem Qe}{r r':R2}(h:OpR X f r)(h':OpR X f r'):OpR X f (fun x y H Q=>r x y H Q\/r' x y H Q):=by
 intro pins s σ H x y v u Q I rx ry q;rcases q with q|q
 ·exact h pins s σ H x y v u Q I rx ry q
 ·exact h' pins s σ H x y v u Q I rx ry q

theorem JU(b:Q6){op:CmpOp}(h:op≠.In:=by decide)(h2:op≠.NotIn:=by decide):behindInMarks op b=false:=by
 have e1:(op == CmpOp.In)=false:=by cases op <;> first|rfl|exact absurd rfl h
 have e2:(op == CmpOp.NotIn)=false:=by cases op <;> first|rfl|exact absurd rfl h2
 cases b <;> simp[behindInMarks,e1,e2]
theorem VA{op:CmpOp}{r:R2}(ho:OpR X (compareOp op) r)(ha:PE X a ta)(hb:PE X b tb)(hm:behindInMarks op b=false):PE X (.Compare a [op] [b] pos) (tOp r ta tb):=by intro pins s σ H Q I h;exact wpAny_Compare1 (Jl9 ha hb I h fun v u s2 x y H2 I2 rx ry q=>ho pins s2 σ H2 x y v u Q I2 rx ry q) hm
noncomputable def JiX(t:TE):TT:=fun σ H Q=>t σ H fun x H'=>∃k,x=.bl k/\Q k H'
theorem JY{op:CmpOp}{r:R2}(ho:OpR X (compareOp op) r)(ha:PE X a ta)(hb:PE X b tb)(hm:behindInMarks op b=false):PT X (.Compare a [op] [b] pos) (JiX (tOp r ta tb)):=by
 intro pins s σ H Q I h;refine wpAny_isTrue_Compare1 (thn (ha pins s σ H _ I h) fun v s1 ⟨x,H1,I1,r1,q1⟩=>thn (hb pins s1 σ H1 _ I1 q1) fun u s2 ⟨y,H2,I2,r2,q2⟩=>thn (ho pins s2 σ H2 x y v u _ I2 r1 r2 q2) fun c s3 ⟨z,H3,I3,r3,k,e,q3⟩=>?_) hm
 subst e;cases r3;exact G2 ⟨H3,I3,q3⟩
noncomputable def Jeh(r r':R2)(ta tb tc:TE):TE:=fun σ H Q=>ta σ H fun x H1=>tb σ H1 fun y H2=>r x y H2 fun z H3=>∃k,z=.bl k ∧
 (if k=true then tc σ H3 fun w' H4=>r' y w' H4 Q else Q (.bl false) H3)
theorem JcQ{op op':CmpOp}{r r':R2}(ho:OpR X (compareOp op) r)(ho':OpR X (compareOp op') r')(ha:PE X a ta)(hb:PE X b tb)(hc:PE X c tc)
 (hm:lastMarks [op,op'] [b,c]=false:=by with_unfolding_all rfl):PE X (.Compare a [op,op'] [b,c] pos) (Jeh r r' ta tb tc):=by
 intro pins s σ H Q I h;refine Compare_chain (thn (ha pins s σ H _ I h) fun v s1 ⟨x,H1,I1,r1,q1⟩=>chain_link (thn (hb pins s1 σ H1 _ I1 q1) fun u s2 ⟨y,H2,I2,r2,q2⟩=>thn (ho pins s2 σ H2 x y v u _ I2 r1 r2 q2) fun d s3 ⟨z,H3,I3,r3,k,e,q3⟩=>?_)) hm
 subst e;cases r3;refine G2 ?_
 cases k with
 | false=>exact ite_ff ⟨.bl false,H3,I3,rfl,q3⟩
 | true=>exact ite_tt (chain_last (thn (hc pins s3 σ H3 _ I3 q3) fun w' s4 ⟨z',H4,I4,r4,q4⟩=>ho' pins s4 σ H4 y z' u w' Q I4 r2 r4 q4))
noncomputable def JfY(K:Qz)(x:V)(H:Hp)(k:Bool):Prop :=
 match x with
 | .non=>k=false
 | .bl b=>k=b
 | .int i=>k=(i != 0)
 | .str y=>y.length<=Qt/\k=((y.length:Int) != 0)
 | .byt y=>y.size<=Qt/\k=((y.size:Int) != 0)
 | .ref p=>(∃xs,SqL K H p xs/\k=!xs.isEmpty)\/(∃xs,SqT K H p xs/\k=!xs.isEmpty)\/∃kvs,H p=some (.dK kvs)/\k=!kvs.isEmpty
 | _=>False
theorem JdJ{κ:Type}{kvs:List (κ×V)}{vs:List (κ×Qe)}(r:KV kvs vs):(!vs.isEmpty)=!kvs.isEmpty:=by cases r <;> rfl
theorem W6{xs:List V}{its:List Qe}(r:Vals xs its):(!its.toArray.isEmpty)=!xs.isEmpty:=by cases r <;> simp
theorem Zb:(Qt:Nat)<2 ^ 63:=by rw[sizeLine_eq];decide
theorem JoJ:Jqy X (fun x H Q=>∃k,JfY X.K x H k/\Q k H):=by
 intro pins s σ H x v Q I rx h;obtain⟨k,e,q⟩:=h;have hl:=Zb;have hs:Qt=16777216:=sizeLine_eq
 cases x with
 | non=>cases rx;have e':k=false:=e;subst e';exact truthy_none ⟨H,I,q⟩
 | bl b=>cases rx;have e':k=b:=e;subst e';exact G2 ⟨H,I,q⟩
 | int i=>obtain⟨t,rfl⟩:=rx;have e':k=(i != 0):=e;subst e';exact PySem.P.truthy_int ⟨H,I,q⟩
 | str y=>obtain⟨t,rfl⟩:=rx;obtain⟨hy,e'⟩:y.length<=Qt/\k=((y.length:Int) != 0):=e;subst e';exact PySem.P.truthy_str (by omega) ⟨H,I.tok _,q⟩
 | byt y=>obtain⟨t,rfl⟩:=rx;obtain⟨hy,e'⟩:y.size<=Qt/\k=((y.size:Int) != 0):=e;subst e';exact PySem.W.truthy_bytes (by omega) ⟨H,I.tok _,q⟩
 | ref p =>
  cases rx;have e':(∃xs,SqL X.K H p xs/\k=!xs.isEmpty)\/(∃xs,SqT X.K H p xs/\k=!xs.isEmpty)\/∃kvs,H p=some (.dK kvs)/\k=!kvs.isEmpty:=e
  rcases e' with ⟨xs,hx,e'⟩|⟨xs,hx,e'⟩|⟨kvs,hx,e'⟩
  ·subst e';obtain⟨its,r,pl,hz⟩:=I.list hx;have hlen:=r.length;exact wpAny_truthy_list pl.isList (by simp only[Qr];omega) ⟨H,I.tok _,by rw[W6 r];exact q⟩
  ·subst e';obtain⟨its,r,pl,hz⟩:=I.tuple hx;have hlen:=r.length;exact truthy_tuple pl (by simp only[Qr];omega) ⟨H,I.tok _,by rw[W6 r];exact q⟩
  ·subst e';obtain⟨hz,hS,vs,r,m⟩:kvs.length<=Qt/\(p == sysModules)=false/\∃vs,KV kvs vs/\s.heap.DictOf (Jz X.prog X.w) p vs:=I.hok p _ hx
   have hlen:kvs.length=vs.length:=Mu r;exact wpAny_truthy_dict hS m (by omega) ⟨H,I.tok _,by rw[JdJ r];exact q⟩
 | _=>exact(show False from e).elim
theorem Jio(ha:PE X a ta)(he:∀whole,isTrue a X.env whole=(do let v <- whole;standAt a.pos;holding [v] (truthy v))) :
 PT X a (fun σ H Q=>ta σ H fun x H'=>∃k,JfY X.K x H' k/\Q k H'):=by
 intro pins s σ H Q I h;exact isTrue_plain (thn (ha pins s σ H _ I h) fun v s1 ⟨x,H1,I1,r1,q1⟩=>JoJ pins s1 σ H1 x v Q I1 r1 q1) (he _)

theorem op_add_str:OpR X (binaryOp .Add) (fun x y H Q=>∃i j,x=.str i/\y=.str j/\i.length+j.length<=Qt/\Q (.str (i++j)) H):=by intro pins s σ H x y v u Q I rx ry h;obtain⟨i,j,rfl,rfl,hz,q⟩:=h;obtain⟨t,rfl⟩:=rx;obtain⟨t',rfl⟩:=ry;exact add_str (fun t' tk=>⟨.str (i++j),H,I.tok _,⟨_,rfl⟩,q⟩) hz
theorem Ws{x:V}{us:List Qe}(r:Vals [x] us):∃u,us=[u]/\RelV x u:=by
 cases r with
 | cons r1 r2=>cases r2;exact⟨_,rfl,r1⟩
theorem Jl1{x y:V}{us:List Qe}(r:Vals [x,y] us):∃u w',us=[u,w']/\RelV x u/\RelV y w':=by
 cases r with
 | cons r1 r2 =>
  cases r2 with
  | cons r3 r4=>cases r4;exact⟨_,_,rfl,r1,r3⟩
theorem Jf7(hc:X.calm=true):CallR X (.builtin "min") (fun xs H Q=>∃i j,xs=[.int i,.int j]/\Q (.int (if j<i then j else i)) H):=by
 intro pins s σ H xs us Q I r h;obtain⟨i,j,rfl,q⟩:=h;obtain⟨u,w',rfl,⟨t,rfl⟩,⟨t',rfl⟩⟩:=Jl1 r;refine min_two_ints (I.ok.hd hc) fun h' tk k=>⟨_,H,I.kept k,?_,q⟩
 by_cases hj:j<i
 ·rw[if_pos hj,if_pos hj];exact⟨_,rfl⟩
 ·rw[if_neg hj,if_neg hj];exact⟨_,rfl⟩
noncomputable def JoU(K:Qz)(x:V)(H:Hp)(n:Nat):Prop :=
 match x with
 | .str y=>y.length<=Qt/\n=y.length
 | .byt y=>y.size<=Qt/\n=y.size
 | .ref p=>(∃xs,SqL K H p xs/\n=xs.length)\/∃xs,SqT K H p xs/\n=xs.length
 | _=>False
theorem Jhf:CallR X (.builtin "len") (fun xs H Q=>∃x n,xs=[x]/\JoU X.K x H n/\Q (.int n) H):=by
 intro pins s σ H xs us Q I r h;obtain⟨x,n,rfl,e,q⟩:=h;obtain⟨u,rfl,rx⟩:=Ws r;have hl:=Zb;have hs:Qt=16777216:=sizeLine_eq
 cases x with
 | str y=>obtain⟨t,rfl⟩:=rx;obtain⟨hy,e'⟩:y.length<=Qt/\n=y.length:=e;subst e';exact len_str (by omega) ⟨.int _,H,I.tok _,⟨_,rfl⟩,q⟩
 | byt y=>obtain⟨t,rfl⟩:=rx;obtain⟨hy,e'⟩:y.size<=Qt/\n=y.size:=e;subst e';exact PySem.W.len_bytes (by omega) ⟨.int _,H,I.tok _,⟨_,rfl⟩,q⟩
 | ref p =>
  cases rx;have e':(∃xs,SqL X.K H p xs/\n=xs.length)\/∃xs,SqT X.K H p xs/\n=xs.length:=e
  rcases e' with ⟨xs,hx,e'⟩|⟨xs,hx,e'⟩
  ·subst e';obtain⟨its,r',pl,hz⟩:=I.list hx;have hlen:=r'.length;exact Calls.call_len_list pl.isList (by simp only[Qr];omega) ⟨.int xs.length,H,I.tok _,⟨_,by simp only[Qr];rw[hlen]⟩,q⟩
  ·subst e';obtain⟨its,r',pl,hz⟩:=I.tuple hx;have hlen:=r'.length;exact len_tuple pl (by simp only[Qr];omega) ⟨.int xs.length,H,I.tok _,⟨_,by simp only[Qr];rw[hlen]⟩,q⟩
 | _=>exact(show False from e).elim
end
end L2

namespace L2
open PySem PySem.Spec PyProof.Rows

structure ObjM (h:QP) (x dx C:Qg) (mA:Str->Option Qe):Prop where
 obj:h.get? x=some (instObj C dx)
 ns:h.Ns1 dx mA
 ne:dx≠x

theorem Jgv{h:QP}{dx:Qg}{mA:Str->Option Qe}(n:h.Ns1 dx mA):∃od,h.get? dx=some od/\∀name,lookIn name od=some (mA name):=by
 obtain⟨o,es,ep,ho,hd,hk,_,hm⟩:=n;refine⟨o,ho,fun name=>?_⟩;have e:=hm name;unfold nsFind findBy at e;rw[<- Array.find?_toList] at e;unfold lookIn;rw[hd];dsimp only;split
 ·rename_i y q;rw[q] at e;exact congrArg some e
 ·rename_i q;rw[q] at e
  have a:es.toList.any (·.refKey)=false:=by rw[List.any_eq_false];intro y hy;obtain⟨z,t,hkey⟩:=hk y (Array.mem_toList_iff.mp hy);simp[DictEntry.refKey,hkey]
  have a':¬es.toList.any (·.refKey)=true:=by rw[a];exact QI
  rw[if_neg a'];exact congrArg some e

theorem ObjM.look{h:QP}{x dx C:Qg}{mA:Str->Option Qe}(I:ObjM h x dx C mA):∃od,PySem.W.InstAt h x (instObj C dx) C (some od)/\∀name,lookIn name od=some (mA name) :=
 let ⟨od,ho,hl⟩:=Jgv I.ns
 ⟨od,⟨I.obj,rfl,rfl,ho⟩,hl⟩

section
variable{prog:Qy}{w:QH}{A:QF}{E:Qe->Qh->Prop}{s:Qh}{K:Qz}{x dx C f:Qg}{mA:Str->Option Qe}{name:Str}{v:Qe}

theorem Jj5{expr:Bool}{Q:Qe->Qh->Prop}(X:K.In s.heap)(I:ObjM s.heap x dx C mA)(hg:plainGet K C name=true)(hh:hasDictIn K C=true)
 (ha:findIn K (.ref C) name=some none) (hv:mA name=some v) (hv':PySem.W.handedIn v=true) (h:Q v { s with toks:=s.toks+1 }) :
 wpAny (model prog w) A (getAttr (.ref x) name expr) Q E s:=by
 obtain⟨od,J,hl⟩:=I.look;exact PySem.W.get_value X J (PySem.W.plainGet_of hg).1 (PySem.W.findObj_own hh ha rfl (by rw[hl,hv])) hv' h

theorem Jlf{ns:List Str}{Q:Unit->Qh->Prop}(X:K.In s.heap)(I:ObjM s.heap x dx C mA)
 (hs:findIn K (.ref C) "__setattr__"=some (some (.builtin "object.__setattr__"))) (hp:plainOver K C=true) (ht:takerIn K C name=some none) (hh:hasDictIn K C=true)
 (hw:Rs mA ns) (hsz:ns.length<=Qt)
 (h:∀h',ObjM h' x dx C (fun y=>if y=name then some v else mA y)->QR dx s.heap h'->Q () { s with heap:=h',toks:=s.toks+2 }) :
 wpAny (model prog w) A (setAttr (.ref x) name v) Q E s:=by
 obtain⟨od,J,hl⟩:=I.look;refine PySem.W.set_plain X J hs (PySem.W.osa_open (s:={ s with toks:=s.toks+1 }) (r:=none) X J hp ht fun b=>?_);obtain⟨cd,hc,hd'⟩:=PySem.W.any_some hh;have hx:s.heap.get? x=some ⟨.ref C,some dx,.plain,#[]⟩:=I.obj;refine Qa (Qp (Qa (Qa (wpAny_loadPart hx (Qa (PySem.W.Looks.here (s:={ s with toks:=s.toks+1 }) (PySem.W.looks_clsIn X hc) ?_))))));rw[hd'];refine Qp (a:=some dx) (Qa (Qp (Qa ?_)))
 refine wpAny_nsSet1 (s:={ s with toks:=s.toks+1 }) I.ns fun h' hn2 hs2=>?_
 obtain⟨oD,esD,epD,hoD,hdD,hcD⟩:=hn2.count (PySem.Within.cons name v hw);refine Qa (wpAny_lookBehind hoD (by rw[hdD];exact pastItsLine_dict (Q5 hcD (by rw[Qo];omega))) ?_);exact Qp (h _ ⟨(hs2.2 _ (Q2 I.ne)).trans I.obj,hn2,I.ne⟩ hs2)

theorem Jh6{R:M7->Qh->Prop}{vs:List Qe}{kw:List (Str×Qe)}(X:K.In s.heap)(hm:makesIn K C=true)
 (hi:findIn K (.ref C) "__init__"=some (some (.ref f))) (hf:PySem.W.typeIn K (.ref f)=some (.type "function"))
 (h:codeAny (model prog w) (A.under (.builtin "type.__call__" ⟨.ref C::vs,kw⟩)) (.call (.ref f) ⟨.ref (s.heap.objs.size+1)::vs,kw⟩) (PySem.W.InitBack (s.heap.objs.size+1) R)
  { s with heap:=(s.heap.push emptyDict).push (instObj C s.heap.objs.size) }) :
 codeAny (model prog w) A (.call (.ref C) ⟨vs,kw⟩) R s:=by
 obtain⟨hh,g,d,t,os⟩:=s;exact PySem.W.make_core (PySem.W.makes_of X hm) (PySem.W.looks_findIn X hi) (fun self=>PySem.W.bind_fn X self hf) (.inl rfl) h
end

noncomputable def putF(f:Str)(v:V):List (Str×V)->List (Str×V)
 | []=>[(f,v)]
 | (g,x)::r=>if g=f then(g,v)::r else(g,x)::putF f v r
theorem Wp(f g:Str)(v:V):∀fs:List (Str×V),(putF f v fs).lookup g=if g=f then some v else fs.lookup g
 | []=>by
  show K9 g [(f,v)]=_
  by_cases h:g=f
  ·have hb:(g == f)=true:=beq_iff_eq.mpr h;simp only[K9,hb,if_pos h]
  ·have hb:(g == f)=false:=beq_eq_false_iff_ne.mpr h;simp only[K9,hb,if_neg h]
 | (k,x)::r=>by
  have ih:=Wp f g v r;rw[show putF f v ((k,x)::r)=(if k=f then(k,v)::r else(k,x)::putF f v r) from rfl]
  by_cases hk:k=f
  ·rw[if_pos hk]
   by_cases h:g=k
   ·have hb:(g == k)=true:=beq_iff_eq.mpr h;simp only[K9,hb,if_pos (h.trans hk)]
   ·have hb:(g == k)=false:=beq_eq_false_iff_ne.mpr h;simp only[K9,hb,if_neg (fun e:g=f=>h (e.trans hk.symm))]
  ·rw[if_neg hk]
   by_cases h:g=k
   ·have hb:(g == k)=true:=beq_iff_eq.mpr h;simp only[K9,hb,if_neg (fun e:g=f=>hk (h.symm.trans e))]
   ·have hb:(g == k)=false:=beq_eq_false_iff_ne.mpr h;simp only[K9,hb];exact ih
theorem VZ(f:Str)(v:V):∀fs:List (Str×V),f∈(putF f v fs).map (·.1)/\∀g,g∈fs.map (·.1)->g∈(putF f v fs).map (·.1)
 | []=>⟨by simp[putF],fun g h=>by simp at h⟩
 | (k,x)::r=>by
  obtain⟨i1,i2⟩:=VZ f v r;rw[show putF f v ((k,x)::r)=(if k=f then(k,v)::r else(k,x)::putF f v r) from rfl]
  by_cases hk:k=f
  ·rw[if_pos hk];subst hk;exact⟨by simp,fun g h=>by simpa using h⟩
  ·rw[if_neg hk];refine⟨?_,fun g h=>?_⟩
   ·rw[Qd];exact Qc _ i1
   ·rw[Qd] at h ⊢;rcases Qj.mp h with e|e
    ·exact Qj.mpr (.inl e)
    ·exact Qc _ (i2 g e)
theorem Wn(f:Str)(v:V):∀fs:List (Str×V),(putF f v fs).length<=fs.length+1
 | []=>by simp[putF]
 | (k,x)::r=>by
  have ih:=Wn f v r;rw[show putF f v ((k,x)::r)=(if k=f then(k,v)::r else(k,x)::putF f v r) from rfl]
  by_cases hk:k=f
  ·rw[if_pos hk,Qo,Qo];omega
  ·rw[if_neg hk,Qo,Qo];omega

theorem RelO.some_of{v:V}{o:Option Qe}(r:RelO (some v) o):∃u,o=some u/\RelV v u:=by
 cases o with
 | none=>exact(show False from r).elim
 | some u=>exact⟨u,rfl,r⟩
theorem Jgj{v:V}{u:Qe}(r:RelV v u):PySem.W.handedIn u=true:=by
 cases v with
 | non=>cases (show u=Value.none from r);rfl
 | bl b=>cases (show u=Value.bool b from r);rfl
 | int i=>obtain⟨t,e⟩:=(show ∃t,u=Value.int i t from r);cases e;rfl
 | str x=>obtain⟨t,e⟩:=(show ∃t,u=Value.str x t from r);cases e;rfl
 | byt b=>obtain⟨t,e⟩:=(show ∃t,u=Value.bytes b t from r);cases e;rfl
 | flt b=>obtain⟨t,e⟩:=(show ∃t,u=Value.float b t from r);cases e;rfl
 | ref a=>cases (show u=Value.ref a from r);rfl
 | ty n=>cases (show u=Value.type n from r);rfl

section
variable{P:Qy}{w:QH}{H H':Hp}{h h':QP}{a C dx:Qg}{fs fs':List (Str×V)}
theorem Jbi(hok:HOk P w H h)(e:H a=some (.ins C dx fs)):∃mA,ObjM h a dx C mA/\(∀f,RelO (fs.lookup f) (mA f))/\Rs mA (fs.map (·.1))/\fs.length<=1000/\H dx=some (.own a):=by
 obtain⟨d,z,ne,ob,mA,n,r,q⟩:=(show ObjOk P w H h a (.ins C dx fs) from hok a _ e)
 exact⟨mA,⟨ob,n,ne⟩,r,q,z,d⟩
end

structure Cls (K:Qz) (C:Qg):Prop where
 pg:plainGet K C Str.empty=true
 hd:hasDictIn K C=true
 po:plainOver K C=true
 sa:findIn K (.ref C) "__setattr__"=some (some (.builtin "object.__setattr__"))
theorem Cls.get{K:Qz}{C:Qg}(c:Cls K C)(f:Str):plainGet K C f=true:=c.pg
noncomputable def NoAttr(K:Qz)(C:Qg)(f:Str):Prop:=findIn K (.ref C) f=some none
theorem NoAttr.taker{K:Qz}{C:Qg}{f:Str}(n:NoAttr K C f):takerIn K C f=some none:=by unfold takerIn;rw[show findIn K (.ref C) f=some none from n];rfl
structure Con (K:Qz) (C:Qg) (f:Str) (v:V) (u:Qe):Prop where
 at_:findIn K (.ref C) f=some (some u)
 rel:RelV v u
 get:specialIn K u "__get__"=some none
 cp:PySem.W.copiedNames.contains f=false
structure Meth (K:Qz) (C:Qg) (m:Str) (f:Qg):Prop where
 at_:findIn K (.ref C) m=some (some (.ref f))
 fn:isFn K (.ref f)=true
 kp:keepIn K (.ref f)=true

section
variable{X:Cx}{pins:List (Qg×Obj)}{σ:St}{H:Hp}{s:Qh}{a C dx:Qg}{fs:List (Str×V)}{f:Str}{v:V}{A:QF}{E:Qe->Qh->Prop}

theorem JdD{b:Bool}{Q:Qe->Qh->Prop}(I:Inv X pins σ H s)(e:H a=some (.ins C dx fs))(c:Cls X.K C)(n:NoAttr X.K C f)(l:fs.lookup f=some v)
 (h:∀u s',Inv X pins σ H s'->RelV v u->Q u s'):wpAny (model X.prog X.w) A (getAttr (.ref a) f b) Q E s:=by
 obtain⟨mA,O,r,_,_,_⟩:=Jbi I.hok e;obtain⟨u,hu,ru⟩:=RelO.some_of (v:=v) (o:=mA f) (by rw[<- l];exact r f);exact Jj5 I.kIn O (c.get f) c.hd n hu (Jgj ru) (h u _ (I.tok _) ru)

theorem Jed{y:V}{u:Qe}{Q:Unit->Qh->Prop}(I:Inv X pins σ H s)(e:H a=some (.ins C dx fs))(c:Cls X.K C)(n:NoAttr X.K C f)(hl:fs.length<1000)(ry:RelV y u)
 (h:∀s',Inv X pins σ (upd H a (.ins C dx (putF f y fs))) s'->Q () s'):wpAny (model X.prog X.w) A (setAttr (.ref a) f u) Q E s:=by
 obtain⟨mA,O,r,wi,_,ho⟩:=Jbi I.hok e;have hz:(fs.map (·.1)).length<=Qt:=by rw[Qv,sizeLine_eq];omega
 refine Jlf I.kIn O c.sa c.po n.taker c.hd wi hz fun h' O' sb=>h _ ?_
 have hd:∃o,h'.get? dx=some o:=let ⟨o,_,_,e',_⟩:=O'.ns;⟨o,e'⟩
 refine I.write (x:=a) (e:=dx) (by rw[e];exact True.intro) (.inr ho) (fun b q hb z=>(sb.2 b hb).trans z) hd ?_;refine⟨by rw[Jf O.ne];exact ho,?_,O.ne,O'.obj,_,O'.ns,fun g=>?_,fun g hg=>?_⟩
 ·have:=Wn f y fs;omega
 ·show RelO ((putF f y fs).lookup g) (if g=f then some u else mA g);rw[Wp]
  by_cases q:g=f
  ·rw[if_pos q,if_pos q];exact ry
  ·rw[if_neg q,if_neg q];exact r g
 ·by_cases q:g=f
  ·rw[q];exact(VZ f y fs).1
  ·refine(VZ f y fs).2 g (wi g fun z=>hg ?_);show(if g=f then some u else mA g)=none;rw[if_neg q];exact z

theorem Inv.made(I:Inv X pins σ H s):Inv X pins σ (upd (upd H s.heap.objs.size (.own (s.heap.objs.size+1))) (s.heap.objs.size+1) (.ins C s.heap.objs.size []))
 { s with heap:=(s.heap.push emptyDict).push (instObj C s.heap.objs.size) }:=by
 have e1:(s.heap.push emptyDict).get? s.heap.objs.size=some emptyDict:=Qn s.heap rfl
 have e2:((s.heap.push emptyDict).push (instObj C s.heap.objs.size)).get? (s.heap.objs.size+1)=some (instObj C s.heap.objs.size):=by
  have:=Qn (s.heap.push emptyDict) (o:=instObj C s.heap.objs.size) rfl
  rwa [GO] at this
 have e3:(s.heap.push emptyDict).Ns s.heap.objs.size (fun _=>none):=⟨emptyDict,#[],_,e1,rfl,(fun e he=>absurd he (by simp)),fun _=>rfl⟩
 have I1:=I.laid (a:=s.heap.objs.size) (o:=.own (s.heap.objs.size+1)) (h':=s.heap.push emptyDict) (t':=s.toks) (fun b u q=>Qi _ q) (Qx _) ⟨_,e1⟩;refine I1.laid (a:=s.heap.objs.size+1) (o:=.ins C s.heap.objs.size []) (t':=s.toks) (fun b u q=>Qi _ q) (L5 (GO _ _)) ?_
 have ne:s.heap.objs.size≠s.heap.objs.size+1:=QK (KN _);refine⟨by rw[Jf ne,Jm],GZ _,ne,e2,fun _=>none,(Heap.Ns1.of_empty e3).at fun o q=>Qi _ q,fun _=>True.intro,fun y hy=>absurd rfl hy⟩

theorem Jjj{prog:Qy}{w:QH}{env:Env}{e:Q6}{f:Str}{pos:Pos}{s:Qh}{Q:Qe->Qh->Prop}(hb:attributeBase e f env (eval e env)=eval e env)
 (h:wpAny (model prog w) A (eval e env) (fun o s₁=>wpAny (model prog w) A (getAttr o f true) Q E s₁) E s):wpAny (model prog w) A (eval (.Attribute e f pos) env) Q E s :=
 Attribute_any_ h (by rw[arm_eval_Attribute,hb])
end

noncomputable def Jll(K:Qz)(ta:TE)(f:Str):TE:=fun σ H Q=>ta σ H fun x H1=>∃a C dx fs v,x=.ref a/\H1 a=some (.ins C dx fs)/\Cls K C/\NoAttr K C f/\fs.lookup f=some v/\Q v H1
noncomputable def Jog(K:Qz)(ta tv:TE)(f:Str):TS:=fun D σ H=>tv σ H fun y H1=>ta σ H1 fun x H2=>∃a C dx fs,x=.ref a/\H2 a=some (.ins C dx fs)/\Cls K C/\NoAttr K C f/\fs.length<1000 ∧
 D.nx σ (upd H2 a (.ins C dx (putF f y fs)))
section
variable{X:Cx}{o e value:Q6}{f:Str}{pos pos' tpos:Pos}{ta tv:TE}
theorem JnB(he:PE X e ta)(hb:attributeBase e f X.env (eval e X.env)=eval e X.env):PE X (.Attribute e f pos) (Jll X.K ta f):=by intro pins s σ H Q I h;refine Jjj hb (thn (he pins s σ H _ I h) fun u s1 ⟨x,H1,I1,rx,a,C,dx,fs,v,ex,ea,c,n,l,q⟩=>?_);subst ex;obtain rfl:u=Value.ref a:=rx;exact JdD I1 ea c n l fun u' s2 I2 ru=>⟨v,H1,I2,ru,q⟩
theorem JnK(ha:PE X o ta)(hv:PE X value tv)(hs:swapsWith value (some (.Attribute o f pos')) pos.line X.env=pure false):PS X (.Assign [.Attribute o f pos'] value pos) (Jog X.K ta tv f):=by intro pins s σ H D I h;refine plainObj_wpAny_Assign_Attribute (thn (hv pins s σ H _ I h) fun u s1 ⟨y,H1,I1,ry,q⟩=>thn (ha pins s1 σ H1 _ I1 q) fun ov s2 ⟨x,H2,I2,rx,a,C,dx,fs,ex,ea,c,n,l,q2⟩=>?_) hs;subst ex;obtain rfl:ov=Value.ref a:=rx;exact Jed I2 ea c n l ry fun s3 I3=>⟨σ,_,I3,q2⟩
end

section
variable{X:Cx}{pins:List (Qg×Obj)}{σ:St}{H:Hp}{s:Qh}{A:QF}{E:Qe->Qh->Prop}{Q:Qe->Qh->Prop}{c:Qe}{b:Bool}
inductive TyOf (K:Qz) (H:Hp):V->Qe->Prop where
 | non:TyOf K H .non (.type "NoneType")
 | bl (x:Bool):TyOf K H (.bl x) (.type "bool")
 | int (i:Int):TyOf K H (.int i) (.type "int")
 | str (x:Str):TyOf K H (.str x) (.type "str")
 | flt (x:UInt64):TyOf K H (.flt x) (.type "float")
 | lst {a:Qg} {xs:List V} (e:H a=some (.lst xs)):TyOf K H (.ref a) (.type "list")
 | frz {a:Qg} {o:Obj} {xs:List V} (e:H a=some (.frz o (.lst xs))):TyOf K H (.ref a) (.type "list")
 | tup {a:Qg} {xs:List V} (e:H a=some (.tup xs)):TyOf K H (.ref a) (.type "tuple")
 | dK {a:Qg} {kvs:List (Key×V)} (e:H a=some (.dK kvs)):TyOf K H (.ref a) (.type "dict")
 | dT {a:Qg} {kvs:List (List Key×V)} (e:H a=some (.dT kvs)):TyOf K H (.ref a) (.type "dict")
 | ins {a C dx:Qg} {fs:List (Str×V)} (e:H a=some (.ins C dx fs)) (cl:Cls K C) (ha:findIn K (.ref C) "__class__"=some (some (.builtin "object.__class__")))
  (hn:specialIn K (.builtin "object.__class__") "__get__"=some (some (.builtin "getset_descriptor.__get__"))) (htk:takesIn K (.builtin "object.__class__")=some true)
  (hm:mroIn K C (.type "object")=some true):TyOf K H (.ref a) (.ref C)
theorem Jgr{x:V}{u t:Qe}(I:Inv X pins σ H s)(rx:RelV x u)(ty:TyOf X.K H x t)(e:kitOne X.K t c=some b)(h:∀tk,Q (.bool b) { s with toks:=tk }) :
 wpAny (model X.prog X.w) A (call (.builtin "isinstance") [u,c]) Q E s:=by
 cases ty with
 | non=>cases (show u=Value.none from rx);exact kia_one PySem.W.kitx_none I.kIn True.intro e (fun z=>nomatch z) h
 | bl y=>cases (show u=Value.bool y from rx);exact kia_one PySem.W.kitx_bool I.kIn True.intro e (fun z=>nomatch z) h
 | int i=>obtain⟨t,q⟩:=(show ∃t,u=Value.int i t from rx);cases q;exact kia_one PySem.W.kitx_int I.kIn True.intro e (fun z=>nomatch z) h
 | str y=>obtain⟨t,q⟩:=(show ∃t,u=Value.str y t from rx);cases q;exact kia_one PySem.W.kitx_str I.kIn True.intro e (fun z=>nomatch z) h
 | flt y=>obtain⟨t,q⟩:=(show ∃t,u=Value.float y t from rx);cases q;exact kia_one PySem.W.kitx_float I.kIn True.intro e (fun z=>nomatch z) h
 | @lst a xs ea =>
  cases (show u=Value.ref a from rx);obtain⟨_,_,n,_,h1⟩:=(show ObjOk X.prog X.w H s.heap a (.lst xs) from I.hok a _ ea)
  exact kia_one kitx_list I.kIn ⟨_,h1,rfl⟩ e (fun z=>nomatch z) h
 | @frz a ob xs ea =>
  cases (show u=Value.ref a from rx);obtain⟨_,_,_,n,_,h1⟩:=(show ObjOk X.prog X.w H s.heap a (.frz ob (.lst xs)) from I.hok a _ ea)
  exact kia_one kitx_list I.kIn ⟨_,h1,rfl⟩ e (fun z=>nomatch z) h
 | @tup a xs ea =>
  cases (show u=Value.ref a from rx);obtain⟨_,_,_,p⟩:=(show ObjOk X.prog X.w H s.heap a (.tup xs) from I.hok a _ ea)
  obtain⟨o,h1,h2,_⟩:=p;exact kia_one Rm I.kIn ⟨o,h1,h2⟩ e (fun z=>nomatch z) h
 | @dK a kvs ea =>
  cases (show u=Value.ref a from rx);obtain⟨_,_,vs,_,p⟩:=(show ObjOk X.prog X.w H s.heap a (.dK kvs) from I.hok a _ ea)
  obtain⟨o,es,ep,h1,h2,_⟩:=p;exact kia_one Ru I.kIn ⟨o,h1,h2.1⟩ e (fun z=>nomatch z) h
 | @dT a kvs ea =>
  cases (show u=Value.ref a from rx);obtain⟨_,_,xs,_,o,es,ep,h1,h2,_⟩:=(show ObjOk X.prog X.w H s.heap a (.dT kvs) from I.hok a _ ea)
  exact kia_one Ru I.kIn ⟨o,h1,h2.1⟩ e (fun z=>nomatch z) h
 | @ins a C dx fs ea cl ha hn htk hm=>cases (show u=Value.ref a from rx);obtain⟨mA,O,_⟩:=Jbi I.hok ea;obtain⟨od,J,_⟩:=O.look;exact kia_one (PySem.W.kitx_own (cl.get _) cl.hd ha hn htk hm) I.kIn J e (fun z=>nomatch z) h
end
end L2

namespace L2
open PySem PySem.Spec PyProof.Rows

structure Room (k:Nat) (A:QF):Prop where
 hd:A.handled=none
 dp:A.depth+3*k+5<recursionLimit
 un:A.units+16*k+200<cLine
theorem Room.mono{j k:Nat}{A:QF}(r:Room k A)(h:j<=k):Room j A:=⟨r.hd,by have:=r.dp;omega,by have:=r.un;omega⟩
theorem Room.deeper{k:Nat}{A:QF}(r:Room (k+1) A)(env:Env):Room k (A.deeper env) :=
 ⟨r.hd,by have:=r.dp;show A.depth+1+3*k+5<_;omega,by have:=r.un;show A.units+3+16*k+200<_;omega⟩
theorem Room.in1{k:Nat}{A:QF}(r:Room (k+1) A):Room k A.in1 :=
 ⟨r.hd,by have:=r.dp;show A.depth+3*k+5<_;omega,by have:=r.un;show A.units+1+16*k+200<_;omega⟩
theorem JdQ{A:QF}{C:Qg}{us:List Qe}{kw:List (Str×Qe)}:(A.under (.builtin "type.__call__" ⟨.ref C::us,kw⟩)).depth=A.depth+1:=by first | rfl | simp[Rv,Code.weight,Code.isCreation,Code.isGuard,Code.isCaller,Code.frames,Rw,guardIds]
theorem JdR{A:QF}{C:Qg}{us:List Qe}{kw:List (Str×Qe)}:(A.under (.builtin "type.__call__" ⟨.ref C::us,kw⟩)).units=A.units+1:=by first | rfl | simp[Rv,Code.cUnits,Code.frames,Rw]
theorem Room.make{k:Nat}{A:QF}(r:Room (k+1) A)(C:Qg)(us:List Qe)(kw:List (Str×Qe)):Room k (A.under (.builtin "type.__call__" ⟨.ref C::us,kw⟩)) :=
 ⟨r.hd,by have:=r.dp;rw[JdQ];omega,by have:=r.un;rw[JdR];omega⟩
theorem Room.depth{k:Nat}{A:QF}(r:Room k A):A.depth<recursionLimit:=by have:=r.dp;omega
theorem Room.units{k:Nat}{A:QF}(r:Room k A):A.units+64<cLine:=by have:=r.un;omega
noncomputable def Jei:TA:=fun _ H Q=>Q [] H
noncomputable def Wr(ta:TE)(tr:TA):TA:=fun σ H Q=>ta σ H fun x H1=>tr σ H1 fun xs H2=>Q (x::xs) H2
section
variable{X:Cx}{e:Q6}{es:List Q6}{te:TE}{t:TA}{pos:Pos}
theorem Jc:PA X [] Jei:=fun _ _ _ _ H Q I h=>Calls.spliced_nil ⟨[],H,I,.nil,h⟩
theorem Ja(ha:PE X e te)(hr:PA X es t)(hs:starEach (e::es) X.env=(false,eval e X.env)::starEach es X.env:=by rfl):PA X (e::es) (Wr te t):=by intro pos pins s σ H Q I h;rw[hs];show wpAny _ _ (spliced ((false,eval e X.env)::backTo pos (starEach es X.env))) _ _ s;refine Mf (thn (ha pins s σ H _ I h) fun u s1 ⟨x,H1,I1,r1,q1⟩=>?_);exact thn (hr pos pins s1 σ H1 _ I1 q1) fun us s2 ⟨xs,H2,I2,r2,q2⟩=>⟨x::xs,H2,I2,.cons r1 r2,q2⟩

noncomputable def JoC(t:TA):TE:=fun σ H Q=>t σ H fun xs H1=>xs.length<=Qt/\∀p,H1 p=none->Q (.ref p) (upd H1 p (.tup xs))
noncomputable def Joy(t:TA):TE:=fun σ H Q=>t σ H fun xs H1=>xs.length<=Qt/\∀p,H1 p=none->Q (.ref p) (upd H1 p (.lst xs))
theorem Yy{x1}(h:PA X es t):PE X (.Tuple es x1 pos) (JoC t):=by intro pins s σ H Q I hq;refine wpAny_Tuple_spliced (thn (h pos pins s σ H _ I hq) fun us s1 ⟨xs,H1,I1,r,z,q⟩=>⟨by rw[<- r.length];exact z,?_⟩);have hf:H1 s1.heap.objs.size=none:=I1.hok.fresh (Qx _);refine⟨.ref s1.heap.objs.size,upd H1 s1.heap.objs.size (.tup xs),I1.laid (t':=s1.toks) (fun b u e=>Qi _ e) (Qx _) ?_,rfl,q _ hf⟩;exact⟨z,us,r,⟨_,Qn _ rfl,rfl,_,rfl⟩⟩
theorem UH(h:PA X es t):PE X (.List es pos) (Joy t):=by intro pins s σ H Q I hq;refine wpAny_List_spliced (thn (h pos pins s σ H _ I hq) fun us s1 ⟨xs,H1,I1,r,z,q⟩=>⟨by rw[<- r.length];exact z,?_⟩);have hf:H1 s1.heap.objs.size=none:=I1.hok.fresh (Qx _);refine⟨.ref s1.heap.objs.size,upd H1 s1.heap.objs.size (.lst xs),I1.laid (t':=s1.toks) (fun b u e=>Qi _ e) (Qx _) ?_,rfl,q _ hf⟩;exact⟨z,us,0,r,Qn _ rfl⟩
end

noncomputable abbrev Sp:=List V->Hp->VK->XK->Prop
noncomputable abbrev CXT:=List Env->Hp->Qh->XK->Qe->Qh->Prop

structure Env0 (P:Qy) (w:QH) (K:Qz) (mg:Str->Option Qe) (base:QP) (A:QF) (outer:List Env) (s:Qh) (H:Hp):Prop where
 frames:A.frames=some outer
 mod:Mod K mg base
 bs:∀b o,base.get? b=some o->s.heap.get? b=some o/\H b=none
 bsz:base.objs.size<=s.heap.objs.size
 funs:s.heap.FunFrames base outer
 frf:∀b∈frs outer,H b=none
 hok:HOk P w H s.heap
 bare:AllBare s.gens
noncomputable def CE(outer:List Env)(P:Qy)(w:QH)(H:Hp)(s:Qh)(Q:VK)(u:Qe)(s':Qh):Prop :=
 ∃v H',s'.os=s.os/\AllBare s'.gens/\Un (frs outer) [] H H' s.heap s'.heap/\HOk P w H' s'.heap/\RelV v u/\Q v H'
noncomputable def CR(CX:CXT)(outer:List Env)(P:Qy)(w:QH)(H:Hp)(s:Qh)(Q:VK)(E:XK)(r:M7)(s':Qh):Prop :=
 match r with
 | .ok (.ret u)=>CE outer P w H s Q u s'
 | .ok _=>False
 | .error e=>CX outer H s E e s'
structure FnOk (P:Qy) (w:QH) (K:Qz) (mg:Str->Option Qe) (base:QP) (CX:CXT) (k:Nat) (f:Qg) (fd:QJ) (ps:List Str) (sp:Sp):Prop where
 len:∀vs H Q E,sp vs H Q E->vs.length=ps.length
 run:∀(A:QF) (outer:List Env) (s:Qh) (H:Hp) (args:Args) (us:List Qe) (vs:List V) (Q:VK) (E:XK),Room k A->Env0 P w K mg base A outer s H->BindsTo s fd args (ps.zip us)->Vals vs us->sp vs H Q E ->
  codeAny (model P w) A (.call (.ref f) args) (CR CX outer P w H s Q E) s
theorem FnOk.mono{P:Qy}{w:QH}{K:Qz}{mg:Str->Option Qe}{base:QP}{CX:CXT}{j k:Nat}{f:Qg}{fd:QJ}{ps:List Str}{sp:Sp}(F:FnOk P w K mg base CX j f fd ps sp)(h:j<=k) :
 FnOk P w K mg base CX k f fd ps sp:=⟨F.len,fun A outer s H args us vs Q E hr=>F.run A outer s H args us vs Q E (hr.mono h)⟩
theorem FnOk.imp{P:Qy}{w:QH}{K:Qz}{mg:Str->Option Qe}{base:QP}{CX:CXT}{k:Nat}{f:Qg}{fd:QJ}{ps:List Str}{sp sp':Sp}(F:FnOk P w K mg base CX k f fd ps sp)
 (h:∀vs H Q E,sp' vs H Q E->sp vs H Q E):FnOk P w K mg base CX k f fd ps sp' :=
 ⟨fun vs H Q E q=>F.len vs H Q E (h _ _ _ _ q),fun A outer s H args us vs Q E hr he hb hv hs=>F.run A outer s H args us vs Q E hr he hb hv (h _ _ _ _ hs)⟩

theorem Env0.make{P:Qy}{w:QH}{K:Qz}{mg:Str->Option Qe}{base:QP}{A:QF}{outer:List Env}{s:Qh}{H:Hp}(e:Env0 P w K mg base A outer s H)(C:Qg)(us:List Qe)(kw:List (Str×Qe)) :
 Env0 P w K mg base (A.under (.builtin "type.__call__" ⟨.ref C::us,kw⟩)) outer s H:=⟨by first | exact e.frames | (simpa [Rv,Code.envs,Rw,pushEnvs] using e.frames),e.mod,e.bs,e.bsz,e.funs,e.frf,e.hok,e.bare⟩
theorem Env0.in1{P:Qy}{w:QH}{K:Qz}{mg:Str->Option Qe}{base:QP}{A:QF}{outer:List Env}{s:Qh}{H:Hp}(e:Env0 P w K mg base A outer s H) :
 Env0 P w K mg base A.in1 outer s H:=⟨e.frames,e.mod,e.bs,e.bsz,e.funs,e.frf,e.hok,e.bare⟩

section
variable{X:Cx}{pins:List (Qg×Obj)}{σ:St}{H:Hp}{s s':Qh}
theorem Inv.env0(I:Inv X pins σ H s):Env0 X.prog X.w X.K X.mg X.base X.A X.stack s H :=
 ⟨I.ok.frames,I.ok.mod,I.bs,Q5 I.ok.bsz I.sz,I.stack,I.stkFree,I.hok,I.bare⟩
theorem Inv.after{Q:VK}{u:Qe}(I:Inv X pins σ H s)(h:CE X.stack X.prog X.w H s Q u s'):EP X pins σ Q u s':=by obtain⟨v,H',os,bare,un,hok,r,q⟩:=h;obtain⟨hh,g,d,t,os'⟩:=s';obtain rfl:os'=s.os:=os;exact⟨v,H',I.call (h':=hh) (g':=g) (d':=d) (t':=t) (ch:=[]) un hok bare (fun b z=>absurd z (by simp)),r,q⟩
end

noncomputable def JfM(sp:Sp)(dvs:List V)(E:XK)(t:TA):TE:=fun σ H Q=>t σ H fun vs H1=>sp (vs++dvs) H1 Q E
noncomputable def JfO(C:Qg)(sp:Sp)(dvs:List V)(E:XK)(t:TA):TE:=fun σ H Q=>t σ H fun vs H1=>∀x dx,H1 x=none->H1 dx=none->dx≠x ->
 sp (.ref x::(vs++dvs)) (upd (upd H1 dx (.own x)) x (.ins C dx [])) (fun v H2=>v=.non/\Q (.ref x) H2) E

noncomputable def Binds(K:Qz)(fd:QJ)(ps:List Str)(ds:List Qe):Prop :=
 ∀(s:Qh) (us:List Qe),K.In s.heap->(us++ds).length=ps.length->BindsTo s fd ⟨us,[]⟩ (ps.zip (us++ds))
theorem Binds.all{K:Qz}{fd:QJ}{ps:List Str}(h:∀us:List Qe,us.length=ps.length->bindArgs fd ⟨us,[]⟩=pure (ps.zip us)):Binds K fd ps []:=fun s us _ hl=>by rw[GR] at hl ⊢;exact .of_eq (h us hl)

noncomputable def WM(CX:CXT)(X:Cx)(E:XK):Prop:=∀(pins:List (Qg×Obj)) (σ:St) (H:Hp) (s:Qh) (e:Qe) (s':Qh),Inv X pins σ H s->CX X.stack H s E e s'->X.xe e s'

section
variable{X:Cx}{CX:CXT}{k:Nat}{f C:Qg}{fd:QJ}{ps:List Str}{sp:Sp}{dvs:List V}{ds:List Qe}{E:XK}{x m:Str}{p pos apos:Pos}{e o:Q6}{es:List Q6}{ta:TE}{t:TA}

theorem Jof{pins:List (Qg×Obj)}{σ:St}{H:Hp}{s:Qh}{Q:VK}{us:List Qe}{vs:List V}(F:FnOk X.prog X.w X.K X.mg X.base CX k f fd ps sp)(hr:Room k X.A)(hb:Binds X.K fd ps ds)(hd:Vals dvs ds)(hx:WM CX X E)
 (I:Inv X pins σ H s) (r:Vals vs us) (h:sp (vs++dvs) H Q E):wpAny (model X.prog X.w) X.A (call (.ref f) us) (EP X pins σ Q) X.xe s:=by
 have r2:Vals (vs++dvs) (us++ds):=r.append hd
 have hl:(us++ds).length=ps.length:=by rw[<- r2.length];exact F.len _ _ _ _ h
 refine wpAny_call (L6 (F.run X.A X.stack s H ⟨us,[]⟩ (us++ds) (vs++dvs) Q E hr I.env0 (hb s us I.kIn hl) r2 h) fun r s' hq=>?_)
 cases r with
 | error e=>exact hx pins σ H s e s' I hq
 | ok fl =>
  cases fl with
  | ret u=>exact I.after hq
  | next=>exact Gx hq
  | brk=>exact Gx hq
  | cont=>exact Gx hq

theorem JkB(F:FnOk X.prog X.w X.K X.mg X.base CX k f fd ps sp)(hr:Room k X.A)(hg:Gl X x)(hm:X.mg x=some (.ref f))(hk:keepIn X.K (.ref f)=true)(hb:Binds X.K fd ps ds)(hd:Vals dvs ds)(hx:WM CX X E)
 (ha:PA X (e::es) t) (hdb:(x == ("__debug__":Str))=false:=by decide) (he:starEach (e::es) X.env=(false,eval e X.env)::starEach es X.env:=by rfl) (hpl:(backTo pos (starEach es X.env)).any (·.1)=false:=by rfl) :
 PE X (.Call (.Name x p) (e::es) [] pos) (JfM sp dvs E t):=by
 intro pins s σ H Q I h;refine Kp (Jbj I hg hm ?_ hdb);refine Rn (h₀:=X.base) I.ok.mod.kin hk (thn (ha pos pins s σ H _ I h) fun us s1 ⟨vs,H1,I1,r,q⟩=>⟨I1.kIn,?_⟩) he hpl;exact Jof F hr hb hd hx I1 r q
structure Mk (K:Qz) (C f:Qg):Prop where
 makes:makesIn K C=true
 init:findIn K (.ref C) "__init__"=some (some (.ref f))
 fn:isFn K (.ref f)=true
 kp:keepIn K (.ref C)=true

theorem JiG{pins:List (Qg×Obj)}{σ:St}{H:Hp}{s:Qh}{Q:VK}{us:List Qe}{vs:List V}(M:Mk X.K C f)(F:FnOk X.prog X.w X.K X.mg X.base CX k f fd ps sp)(hr:Room (k+1) X.A)(hb:Binds X.K fd ps ds)(hd:Vals dvs ds)
 (hx:WM CX X E) (I:Inv X pins σ H s) (r:Vals vs us)
 (h:∀x dx,H x=none->H dx=none->dx≠x->sp (.ref x::(vs++dvs)) (upd (upd H dx (.own x)) x (.ins C dx [])) (fun v H2=>v=.non/\Q (.ref x) H2) E) :
 wpAny (model X.prog X.w) X.A (call (.ref C) us) (EP X pins σ Q) X.xe s:=by
 have hq:=h (s.heap.objs.size+1) s.heap.objs.size (I.hok.fresh (Nat.le_succ _)) (I.hok.fresh (Qx _)) (QK (KN _))
 have I2:=Inv.made (C:=C) I
 have r2:Vals (V.ref (s.heap.objs.size+1)::(vs++dvs)) (Value.ref (s.heap.objs.size+1)::(us++ds)):=.cons rfl (r.append hd)
 have hl:(Value.ref (s.heap.objs.size+1)::us++ds).length=ps.length:=by have e:=r2.length;rw[F.len _ _ _ _ hq] at e;exact e.symm
 refine wpAny_call (Jh6 (f:=f) I.kIn M.makes M.init (beq_iff_eq.mp M.fn) (L6 (F.run _ X.stack _ _ ⟨Value.ref (s.heap.objs.size+1)::us,[]⟩ (Value.ref (s.heap.objs.size+1)::(us++ds)) _ _ E (hr.make C us [])
  (I2.env0.make C us []) (hb _ (Value.ref (s.heap.objs.size+1)::us) I2.kIn hl) r2 hq) fun r s' hq'=>?_))
 cases r with
 | error e=>exact hx pins σ _ _ e s' I2 hq'
 | ok fl =>
  cases fl with
  | ret u=>obtain⟨v,H',I3,rv,ev,q3⟩:=I2.after hq';subst ev;exact⟨rv,⟨V.ref (s.heap.objs.size+1),H',I3,rfl,q3⟩⟩
  | next=>exact Gx hq'
  | brk=>exact Gx hq'
  | cont=>exact Gx hq'
theorem JkD(M:Mk X.K C f)(F:FnOk X.prog X.w X.K X.mg X.base CX k f fd ps sp)(hr:Room (k+1) X.A)(hg:Gl X x)(hm:X.mg x=some (.ref C))(hb:Binds X.K fd ps ds)(hd:Vals dvs ds)(hx:WM CX X E)
 (ha:PA X (e::es) t) (hdb:(x == ("__debug__":Str))=false:=by decide) (he:starEach (e::es) X.env=(false,eval e X.env)::starEach es X.env:=by rfl) (hpl:(backTo pos (starEach es X.env)).any (·.1)=false:=by rfl) :
 PE X (.Call (.Name x p) (e::es) [] pos) (JfO C sp dvs E t):=by
 intro pins s σ H Q I h;refine Kp (Jbj I hg hm ?_ hdb);refine Rn (h₀:=X.base) I.ok.mod.kin M.kp (thn (ha pos pins s σ H _ I h) fun us s1 ⟨vs,H1,I1,r,q⟩=>⟨I1.kIn,?_⟩) he hpl;exact JiG M F hr hb hd hx I1 r q
end

section
variable{X:Cx}{CX:CXT}{k:Nat}{f C:Qg}{fd:QJ}{ps ks:List Str}{sp:Sp}{E:XK}{x m:Str}{p pos apos kpos:Pos}{e o:Q6}{es:List Q6}{kws:List Mp}{te ta:TE}{t tk:TA}{nm:Option Str}
structure KBinds (K:Qz) (fd:QJ) (ps ks:List Str) (g:List Qe->List Qe->List Qe) (gV:List V->List V->List V):Prop where
 to:∀(s:Qh) (us ws:List Qe),K.In s.heap->(g us ws).length=ps.length->BindsTo s fd ⟨us,ks.zip ws⟩ (ps.zip (g us ws))
 rel:∀{vs:List V} {us:List Qe} {zs:List V} {ws:List Qe},Vals vs us->Vals zs ws->Vals (gV vs zs) (g us ws)
variable{g:List Qe->List Qe->List Qe}{gV:List V->List V->List V}
end

structure FnScope (N P:List Str) (sc:Ln):Prop where
 kind:sc.kind=.function
 co:sc.isCoroutine=false
 gen:sc.isGenerator=false
 nd:N.Nodup
 pre:N.take P.length=P
 par:∀x∈P,sc.names.lookup x=some .local\/sc.names.lookup x=some .cell
 nofree:∀y∈sc.names,y.2≠.free

theorem Jac{kindOf:Str->Option NameKind}{x:Str}:∀{binds:List (Str×Qe)} {m:Str->Option Qe},(∀v,(x,v)∉binds)->bindL kindOf binds m x=m x
 | [],_,_=>rfl
 | (n,v)::r,m,h=>by
  unfold bindL;rw[Jac fun w hw=>h w (Qc _ hw)];split
  ·have:x≠n:=by rintro rfl;exact h v Qf
   simp[this]
  ·rfl
theorem Jaa{kindOf:Str->Option NameKind}{x:Str}:∀{binds:List (Str×Qe)} {m:Str->Option Qe},(∀v,(x,v)∉binds)->bindC kindOf binds m x=m x
 | [],_,_=>rfl
 | (n,v)::r,m,h=>by
  unfold bindC;rw[Jaa fun w hw=>h w (Qc _ hw)];split
  ·rfl
  ·have:x≠n:=by rintro rfl;exact h v Qf
   simp[this]
theorem Jab{kindOf:Str->Option NameKind}{x:Str}{v:Qe}:∀{P:List Str} {vs:List Qe} {i:Nat} {m:Str->Option Qe},P.Nodup->P[i]?=some x->vs[i]?=some v->kindOf x=some .local ->
 bindL kindOf (P.zip vs) m x=some v
 | [],_,_,_,_,h,_,_=>by simp at h
 | _::_,[],_,_,_,_,h,_=>by simp at h
 | p::P,w::vs,0,m,nd,h1,h2,hk=>by simp at h1 h2;subst h1;subst h2;show bindL kindOf ((p,w)::P.zip vs) m p=_;unfold bindL;rw[Jac fun v hv=>(Gk.mp nd).1 (Kh hv).1,if_pos hk];simp
 | p::P,w::vs,i+1,m,nd,h1,h2,hk=>by show bindL kindOf ((p,w)::P.zip vs) m x=_;unfold bindL;exact Jab (i:=i) (Gk.mp nd).2 (by simpa using h1) (by simpa using h2) hk
theorem Z9{kindOf:Str->Option NameKind}{x:Str}{v:Qe}:∀{P:List Str} {vs:List Qe} {i:Nat} {m:Str->Option Qe},P.Nodup->P[i]?=some x->vs[i]?=some v->kindOf x≠some .local ->
 bindC kindOf (P.zip vs) m x=some v
 | [],_,_,_,_,h,_,_=>by simp at h
 | _::_,[],_,_,_,_,h,_=>by simp at h
 | p::P,w::vs,0,m,nd,h1,h2,hk=>by simp at h1 h2;subst h1;subst h2;show bindC kindOf ((p,w)::P.zip vs) m p=_;unfold bindC;rw[Jaa fun v hv=>(Gk.mp nd).1 (Kh hv).1,if_neg hk];simp
 | p::P,w::vs,i+1,m,nd,h1,h2,hk=>by show bindC kindOf ((p,w)::P.zip vs) m x=_;unfold bindC;exact Z9 (i:=i) (Gk.mp nd).2 (by simpa using h1) (by simpa using h2) hk

noncomputable def Yl(N:List Str)(vs:List V):St:=vs.map some++QC (N.length-vs.length) none

noncomputable def VQ(CX:CXT)(P:Qy)(w:QH)(K:Qz)(mg:Str->Option Qe)(base:QP)(N:List Str)(qual:Str)(scope:Ln)(f:Qg)(cd:Qe)(A:QF)(outer:List Env)(s:Qh)(H:Hp)(E:XK):Cx where
 prog:=P
 w:=w
 K:=K
 mg:=mg
 base:=base
 A:=A.deeper (envOfC qual scope s.heap.objs.size f cd)
 N:=N
 s₀:=s
 H₀:=H
 env:=envOfC qual scope s.heap.objs.size f cd
 outer:=outer
 stack:=envOfC qual scope s.heap.objs.size f cd::outer
 ex:=[]
 calm:=true
 fn:=fun _=>true
 pn:=[]
 xe:=fun e s'=>wpAny (model P w) (A.deeper (envOfC qual scope s.heap.objs.size f cd)) (leaving (envOfC qual scope s.heap.objs.size f cd) e) (fun _ s''=>CX outer H s E e s'') (fun e' s''=>CX outer H s E e' s'') s'

theorem Jb1{sc:Ln}{n:Nat}{x:Str}(h:sc.names.lookup x=some .cell):∃c,(cellsFrom n sc.names []).lookup x=some c:=by have q:=cellsFrom_some sc.names n [] (.inl h);exact Mv.mp q

theorem VX{CX:CXT}{P:Qy}{w:QH}{K:Qz}{mg:Str->Option Qe}{base:QP}{N ps:List Str}{qual:Str}{scope:Ln}{f:Qg}{cd:Qe}{A:QF}{outer:List Env}{s s1:Qh}{H:Hp}{E:XK}{us:List Qe}{vs:List V}
 (S:FnScope N ps scope) (hd:A.handled=none) (e0:Env0 P w K mg base A outer s H) (hl:vs.length=ps.length) (r:Vals vs us)
 (x:InCallC s s.heap.objs.size (bindL (envOfC qual scope s.heap.objs.size f cd).kindOf (ps.zip us) fun _=>none) (cellsFrom (s.heap.objs.size+1) scope.names []) (bindC (envOfC qual scope s.heap.objs.size f cd).kindOf (ps.zip us) fun _=>none) s1) :
 Inv (VQ CX P w K mg base N qual scope f cd A outer s H E) [] (Yl N vs) H s1:=by
 have hpl:ps.length<=N.length:=by have:=congrArg Lz S.pre;rw[KO] at this;omega
 obtain⟨h1,tk,rfl,hk⟩:=x.done;have noA:∀b:Qg,b∉(VQ CX P w K mg base N qual scope f cd A outer s H E).ex:=fun b z=>absurd (show b∈([]:List Qg) from z) (by simp)
 refine⟨⟨e0.mod,S.kind,rfl,rfl,Qx _,fun y z c h1 h2=>?_,fun y hy=>?_,fun y c _ h=>?_,fun _=>hd,M8 e0.frames,.inr ⟨rfl,rfl⟩,fun b z=>absurd z (noA b),e0.bs,e0.bsz,fun b _ _=>noA b,fun b z=>absurd z (noA b),e0.funs,e0.frf⟩,
  rfl,e0.bare,Un.kept hk,⟨_,x.toInCall.ns,fun i y v h1 h2 h3=>?_⟩,fun y c h=>⟨_,x.cell y c h⟩,e0.hok.fresh (Qx _),fun y c h=>?_,fun p hp=>absurd (show p∈([]:List (Qg×Obj)) from hp) (by simp),e0.hok.kept hk,?_⟩
 ·exact name_of_addr x.apart (Kk h1) (Kk h2)
 ·have hy:scope.names.lookup y=some .cell\/scope.names.lookup y=some .free:=hy;rcases hy with hy|hy
  ·exact Jb1 hy
  ·exact absurd rfl (S.nofree _ (Kk hy))
 ·exact G9 (x.above y c (Kk h))
 ·have hi:i<vs.length:=by
   unfold Yl at h2
   by_cases hi:i<vs.length
   ·exact hi
   ·rw[QU (by simpa using hi)] at h2;rw[MB] at h2;split at h2 <;> cases h2
  have ha:vs[i]?=some v:=by
   unfold Yl at h2;rw[QW (by simpa using hi),Qm] at h2
   cases e:vs[i]? with
   | none=>rw[e] at h2;cases h2
   | some a=>rw[e] at h2;cases h2;rfl
  obtain⟨u,hu,rv⟩:=r.get ha
  have hp:ps[i]?=some y:=by rw[<- S.pre,List.getElem?_take_of_lt (by omega)];exact h1
  have ndP:ps.Nodup:=by rw[<- S.pre];exact S.nd.sublist (List.take_sublist _ _)
  refine⟨u,rv,?_⟩;rcases S.par y (QX hp) with k|k
  ·exact .inl ⟨k,Jab ndP hp hu k⟩
  ·obtain⟨c,e⟩:=Jb1 (n:=s.heap.objs.size+1) k;refine .inr ⟨.inl k,c,e,?_⟩;have q:=x.cell y c e;rw[Z9 ndP hp hu (by show scope.names.lookup y≠_;rw[k];decide)] at q;exact q
 ·exact e0.hok.fresh (G9 (x.above y c (Kk h)))
 ·unfold Yl;show _=N.length;rw[QG,Qv,G6];omega

theorem JlB{CX:CXT}{P:Qy}{w:QH}{K:Qz}{mg:Str->Option Qe}{base:QP}{k:Nat}{f:Qg}{name qual:Str}{params:Mb}{body:List G0}{scope:Ln}{dV kV doc pm cdv ct oc:Qe}{an od:Option Qg}
 {osl:Array (Option Qe)} {N ps:List Str} {sp:Sp} (lk:K.lookup f=some ⟨oc,od,.func (fnOf name qual params body scope dV kV doc pm an cdv ct),osl⟩) (hcd:codeIn K cdv qual=true) (S:FnScope N ps scope)
 (len:∀vs H Q E,sp vs H Q E->vs.length=ps.length)
 (hbody:∀(A:QF) (outer:List Env) (s:Qh) (H:Hp) (vs:List V) (Q:VK) (E:XK),Room k (A.deeper (envOfC qual scope s.heap.objs.size f cdv))->sp vs H Q E ->
  ∃t,PSs (VQ CX P w K mg base N qual scope f cdv A outer s H E) body t/\t { nx:=fun _ H'=>Q .non H',rt:=Q } (Yl N vs) H) :
 FnOk P w K mg base CX (k+1) f (fnOf name qual params body scope dV kV doc pm an cdv ct) ps sp:=by
 refine⟨len,fun A outer s H args us vs Q E hr e0 hb r hsp=>?_⟩;have hl:=len _ _ _ _ hsp;have KX:K.In s.heap:=e0.mod.kin.keeps fun b o e=>(e0.bs b o e).1
 have lim:s.heap.NoLimit:=e0.mod.nolimit.keeps fun b o e=>(e0.bs b o e).1
 have hkind:∀y∈ps.zip us,scope.names.lookup y.1=some .local\/(scope.names.lookup y.1=some .cell/\((cellsFrom (s.heap.objs.size+1) scope.names []).lookup y.1).isSome=true):=fun⟨n,v⟩ hy=>by
  rcases S.par n (Kh hy).1 with q|q
  ·exact .inl q
  ·exact .inr ⟨q,cellsFrom_some _ _ _ (.inl q)⟩
 refine codeAny_call_function hr.depth (KX _ _ lk) rfl S.co S.gen rfl (Ro KX hcd) (hb _ _ _ _ ?_);refine La S.kind hkind fun env he s1 x=>?_
 subst he;refine⟨lim.keeps x.toInCall.keep,codeAny_func ?_⟩;obtain⟨t,ht,hq⟩:=hbody A outer s H vs Q E (hr.deeper _) hsp;have I:Inv (VQ CX P w K mg base N qual scope f cdv A outer s H E) [] (Yl N vs) H s1:=VX S hr.hd e0 hl r x;refine KG (ht [] s1 (Yl N vs) H _ I hq) (fun fl s' hs=>?_) fun e s' hs=>hs
 have fin:∀{σ':St} {H':Hp} {v:V} {u:Qe},Inv (VQ CX P w K mg base N qual scope f cdv A outer s H E) [] σ' H' s'->RelV v u->Q v H'->CE outer P w H s Q u s' :=
  fun {σ' H' v u} J rv q=>⟨v,H',J.os,J.bare,J.base,J.hok,rv,q⟩
 cases fl with
 | ret u=>obtain⟨v,σ',H',J,rv,q⟩:=hs;exact fin J rv q
 | next=>obtain⟨σ',H',J,q⟩:=hs;exact fin (v:=V.non) (u:=Value.none) J rfl q
 | brk=>obtain⟨_,_,_,q⟩:=hs;exact Gx q
 | cont=>obtain⟨_,_,_,q⟩:=hs;exact Gx q
end L2

namespace L2
open PySem PySem.Spec PyProof.Rows
section
variable{X:Cx}{x:Str}{p pos:Pos}{e:Q6}{es:List Q6}{t:TA}{id T:String}{r:List V->Hp->VK->Prop}

noncomputable def tCB(r:List V->Hp->VK->Prop)(t:TA):TE:=fun σ H Q=>t σ H fun vs H1=>r vs H1 Q
theorem JO(hc:CallR X (.builtin id) r)(hg:Gl X x)(hm:X.mg x=none)(hv:bootBuiltins x=some (.builtin id))(ha:PA X (e::es) t)(hn:x≠"__name__":=by decide)(hdb:(x == ("__debug__":Str))=false:=by decide)
 (he:starEach (e::es) X.env=(false,eval e X.env)::starEach es X.env:=by rfl) (hpl:(backTo pos (starEach es X.env)).any (·.1)=false:=by rfl):PE X (.Call (.Name x p) (e::es) [] pos) (tCB r t):=by
 intro pins s σ H Q I h;refine Kp (Ud I hg hm hv ?_ hn hdb);exact PyProof.Rows.callWith_builtin1 (thn (ha pos pins s σ H _ I h) fun us s1 ⟨vs,H1,I1,r1,q1⟩=>hc pins s1 σ H1 vs us Q I1 r1 q1) he hpl
theorem V6(hc:CallR X (.type T) r)(hg:Gl X x)(hm:X.mg x=none)(hv:bootBuiltins x=some (.type T))(ha:PA X (e::es) t)(hn:x≠"__name__":=by decide)(hdb:(x == ("__debug__":Str))=false:=by decide)
 (he:starEach (e::es) X.env=(false,eval e X.env)::starEach es X.env:=by rfl) (hpl:(backTo pos (starEach es X.env)).any (·.1)=false:=by rfl):PE X (.Call (.Name x p) (e::es) [] pos) (tCB r t):=by
 intro pins s σ H Q I h;refine Kp (Ud I hg hm hv ?_ hn hdb);exact GL (thn (ha pos pins s σ H _ I h) fun us s1 ⟨vs,H1,I1,r1,q1⟩=>hc pins s1 σ H1 vs us Q I1 r1 q1) he hpl
end
end L2

namespace HT
open PySem PyProof.Rows

section
open PySem.SeqAt
open PySem.AutoSeq1 (wpAny_loadPart')
open PySem.MeetsSeq PySem.MeetsSeq2 PySem.MeetsSeq3

end

section
variable{prog:Qy}{w:QH}{A:QF}{E:Qe->Qh->Prop}{s:Qh}

theorem Jjs{t b:Qg}{vs ws:List Qe}{Q:Qe->Qh->Prop}(ht:IsTup s.heap t vs.toArray)(hb:IsTup s.heap b ws.toArray)(hv:vs≠[])
 (h1:ws=[]->Q (.ref t) s) (h2:ws≠[]->Q (.ref s.heap.objs.size) { s with heap:=s.heap.push { cls:=.type "tuple",data:=.seq (vs++ws).toArray } })
 (hsz:vs.length+ws.length<=Qt):wpAny (model prog w) A (binaryOp .Add (.ref t) (.ref b)) Q E s:=by
 obtain⟨⟨cls,dd,data,sl⟩,ho,hc,n,hd⟩:=id ht;obtain⟨⟨cls2,dd2,data2,sl2⟩,ho2,hc2,n2,hd2⟩:=id hb;simp only at hc hd hc2 hd2;subst hc hd hc2 hd2;have e:vs.toArray++ws.toArray=(vs++ws).toArray:=by simp
 by_cases hw:ws=[]
 ·exact concat_meets ⟨_,ho,rfl⟩ ⟨_,ho2,rfl⟩ noFill_tuple_add seq_tuple_add MN MC (Mw _ _)
   (tuple_addW1 t b vs.toArray ws.toArray n n2 dd dd2 sl sl2 (by simpa using hv) (by simp[hw])) ⟨ho,ho2,h1 hw⟩
 ·refine concat_meets ⟨_,ho,rfl⟩ ⟨_,ho2,rfl⟩ noFill_tuple_add seq_tuple_add MN MC (Mw _ _)
   (tuple_addW2 t b vs.toArray ws.toArray n n2 dd dd2 sl sl2 (by simpa using hv) (by simpa using hw) (by rw[Qr,Qr];exact hsz)) ⟨ho,ho2,?_⟩
  rw[e];exact h2 hw

noncomputable def sIx(n d:Nat):Option Int->Nat
 | none=>d
 | some v=>if v<0 then(v+(n:Int)).toNat else min v.toNat n
theorem Joh(n d:Nat)(hd:d<=n)(o:Option Int):sIx n d o<=n:=by
 cases o with
 | none=>exact hd
 | some v =>
  show(if v<0 then(v+(n:Int)).toNat else min v.toNat n)<=n
  by_cases hv:v<0
  ·rw[if_pos hv];omega
  ·rw[if_neg hv];exact Nat.min_le_right _ _
theorem JeB(v:Int)(n d:Nat):(if v<0 then max (v+(n:Int)) 0 else min v (n:Int))=((sIx n d (some v):Nat):Int):=by
 show(if v<0 then max (v+(n:Int)) 0 else min v (n:Int))=(((if v<0 then(v+(n:Int)).toNat else min v.toNat n):Nat):Int)
 by_cases hv:v<0
 ·simp only[if_pos hv];omega
 ·simp only[if_neg hv];omega
theorem Jdk(lo hi:Option Int)(n:Nat):Lk lo hi 1 (n:Int)=(((sIx n 0 lo:Nat):Int),((sIx n n hi:Nat):Int)):=by
 have h1:¬((1:Int)<0):=by omega
 unfold Lk;simp only[h1,if_false];refine Ke ?_ ?_
 ·cases lo with
  | none=>rfl
  | some v=>exact JeB v n 0
 ·cases hi with
  | none=>rfl
  | some v=>exact JeB v n n
theorem Jd4(i j:Nat):Kw (i:Int) (j:Int) 1=j-i:=by
 unfold Kw;have h1:(1:Int)>0:=by omega
 simp only[h1,if_true,Int.ediv_one];split <;> omega
theorem Zw{v:Qe}{o:Option Int}{Q:Option Int->Qh->Prop}(p:IsPart v o)(h:Q o s):wpAny (model prog w) A (Builtin.Slice.slicePartIndex v) Q E s:=by
 cases p with
 | none=>exact slicePart_none h
 | int i t=>exact slicePart_int h
theorem Ul{sl:Qg}{vl vu:Qe}{lo hi:Option Int}{n:Nat}{Q:Int×Int×Nat->Qh->Prop}(hs:s.heap.IsSliceOf sl vl vu .none)(pl:IsPart vl lo)(pu:IsPart vu hi)
 (h:Q (((sIx n 0 lo:Nat):Int),1,sIx n n hi-sIx n 0 lo) s):wpAny (model prog w) A (Mg (.ref sl) (pure (n:Int))) Q E s:=by
 obtain⟨os,hos,hcs,hds⟩:=id hs;unfold Mg Builtin.Slice.sliceFields;refine Qa (Qa (Q8 hos hds (x:=vl) rfl (Qa (Q8 hos hds (x:=vu) rfl (Qa (Q8 hos hds (x:=.none) rfl (Qp ?_)))))));refine Qa (slicePart_none ?_);show wpAny _ _ (if ((1:Int) == 0)=true then _ else _) _ _ s;rw[if_neg (by decide)];refine Qa (Zw pl (Qa (Zw pu (Qa (Qp ?_)))))
 show wpAny _ _ (match Lk lo hi 1 (n:Int) with|(lo,hi)=>pure (lo,(1:Int),Kw lo hi 1)) _ _ s;rw[Jdk lo hi n]
 show wpAny _ _ (pure (((sIx n 0 lo:Nat):Int),(1:Int),Kw ((sIx n 0 lo:Nat):Int) ((sIx n n hi:Nat):Int) 1)) _ _ s;rw[Jd4];exact Qp h
theorem Jik(xs:Array Qe)(i k:Nat):((QQ k).filterMap fun(m:Nat)=>xs[((i:Int)+(m:Int)*1).toNat]?).toArray=((xs.toList.drop i).take k).toArray:=by
 have e:(fun(m:Nat)=>xs[((i:Int)+(m:Int)*1).toNat]?)=fun m=>xs[i+m]?:=by
  funext m
  have:((i:Int)+(m:Int)*1).toNat=i+m:=by omega
  rw[this]
 rw[e];have:=pick_run xs i k;rw[List.filterMap_map] at this;have e2:((fun x=>xs[x]?) ∘ fun x=>i+x)=fun m=>xs[i+m]?:=rfl
 rw[e2] at this;rw[this]

theorem Vu{t sl:Qg}{items:Array Qe}{vl vu:Qe}{lo hi:Option Int}{Q:Qe->Qh->Prop}(ht:IsTup s.heap t items)(hs:s.heap.IsSliceOf sl vl vu .none)(pl:IsPart vl lo)(pu:IsPart vu hi)
 (hw:¬(sIx items.size 0 lo=0/\sIx items.size items.size hi=items.size))
 (h:Q (.ref s.heap.objs.size) { s with heap:=s.heap.push { cls:=.type "tuple",data:=.seq ((items.toList.drop (sIx items.size 0 lo)).take (sIx items.size items.size hi-sIx items.size 0 lo)).toArray } })
 (hsz:items.size<=Qt):wpAny (model prog w) A (getItem (.ref t) (.ref sl)) Q E s:=by
 have htake:sizeOk (.seq ((items.toList.drop (sIx items.size 0 lo)).take (sIx items.size items.size hi-sIx items.size 0 lo)).toArray):=by show((items.toList.drop (sIx items.size 0 lo)).take (sIx items.size items.size hi-sIx items.size 0 lo)).toArray.size<=Qt;rw[Qr,KO,MD,GJ];omega
 have hj:sIx items.size items.size hi<=items.size:=Joh _ _ (Qx _) hi;obtain⟨os,hos,hcs,hds⟩:=id hs
 have hTs:s.TypeIs (.ref sl) "slice":=⟨os,hos,hcs⟩
 unfold getItem
 try with_reducible refine KH ?_
 first|refine Qa (Qp ?_)|skip
 refine Qa (wpAny_sequenceKey ht.typeIs (by decide) ?_);refine Qa (Gf (name:=Q7 "__getitem__") ht.typeIs Q9
  (GI Q9 ht.typeIs entry_tuple_getitem ?_ (args_tuple_getitem _ _)))
 show wpAny _ _ (Mh (.ref t) >>= _) _ _ s;refine Qa (tupleItemsOf_ ht ?_);refine Qa (wpAny_typeOf hTs ?_);rw[if_pos (by decide)];refine Qa (Ul hs pl pu ?_)
 have hno:¬((((sIx items.size 0 lo:Nat):Int) == 0 && (1:Int) == 1 && (sIx items.size items.size hi-sIx items.size 0 lo) == items.size)=true):=by intro q;rw[QL,QL] at q;have q1:((sIx items.size 0 lo:Nat):Int)=0:=eq_of_beq q.1.1;have q2:sIx items.size items.size hi-sIx items.size 0 lo=items.size:=eq_of_beq q.2;exact hw ⟨by omega,by omega⟩
 show wpAny _ _ (if (((sIx items.size 0 lo:Nat):Int) == 0 && (1:Int) == 1 && (sIx items.size items.size hi-sIx items.size 0 lo) == items.size)=true then _ else _) _ _ s;rw[if_neg hno,Jik]
 first
  | exact Qa (m:=KI _) (Gw (Qp ⟨_,rfl,Qp h⟩) htake)
  | exact Qa (m:=KI _) (Gw (Qa (Qp (Qp ⟨_,rfl,Qp h⟩))) htake)
  | exact Qa (Qa (m:=KI _) (Gw (Qp (Qp ⟨_,rfl,Qp h⟩)) htake))
  | exact Qa (Qa (m:=KI _) (Gw (Qp ⟨_,rfl,Qp h⟩) htake))
end
end HT

namespace L2
open PySem PySem.Spec PyProof.Rows

noncomputable abbrev TO:=St->Hp->(Option Int->Hp->Prop)->Prop
noncomputable def PO(X:Cx)(e:Option Q6)(t:TO):Prop :=
 ∀(pins:List (Qg×Obj)) (s:Qh) (σ:St) (H:Hp) (Q:Option Int->Hp->Prop),Inv X pins σ H s->t σ H Q ->
  wpAny (model X.prog X.w) X.A (evalPart e X.env) (fun u s'=>∃o H',Inv X pins σ H' s'/\IsPart u o/\Q o H') X.xe s
noncomputable def JfP:TO:=fun _ H Q=>Q none H
noncomputable def JlW(t:TE):TO:=fun σ H Q=>t σ H fun x H1=>∃i,x=.int i/\Q (some i) H1

theorem Va{ns:List Int}:∀{us:List Qe},Vals (ns.map V.int) us->IntsAre us ns:=by
 induction ns with
 | nil=>intro us r;rw[KC] at r;cases r;exact .nil
 | cons n ns ih =>
  intro us r;rw[Qd] at r
  cases r with
  | cons r1 r2=>obtain⟨t,e⟩:=r1;subst e;exact .cons n t (ih r2)

section
variable{X:Cx}{e:Q6}{te:TE}{lo hi:Option Q6}{tl th:TO}{pos p2:Pos}

theorem Jfp:PO X none JfP:=by intro pins s σ H Q I h;rw[evalPart_none];exact Qp ⟨none,H,I,.none,h⟩
theorem Jfq(h:PE X e te):PO X (some e) (JlW te):=by
 intro pins s σ H Q I hw;rw[evalPart_some];refine thn (h pins s σ H _ I hw) fun u s1 ⟨x,H1,I1,r1,q1⟩=>?_
 obtain⟨i,rfl,q⟩:=q1;obtain⟨t,rfl⟩:=r1;exact⟨some i,H1,I1,.int i t,q⟩

noncomputable def SlR(X:Cx)(r:V->Option Int->Option Int->Hp->VK->Prop):Prop :=
 ∀(pins:List (Qg×Obj)) (s:Qh) (σ:St) (H:Hp) (x:V) (v vl vu:Qe) (lo hi:Option Int) (sl:Qg) (Q:VK),Inv X pins σ H s->RelV x v->s.heap.IsSliceOf sl vl vu .none->IsPart vl lo->IsPart vu hi->r x lo hi H Q ->
  ∃T id,typeLookup (.type T) "__getitem__"=pure (some (.builtin id))/\s.TypeIs v T/\wpAny (model X.prog X.w) X.A (getItem v (.ref sl)) (EP X pins σ Q) X.xe s
theorem SlR.or{r r':V->Option Int->Option Int->Hp->VK->Prop}(h:SlR X r)(h':SlR X r'):SlR X (fun x lo hi H Q=>r x lo hi H Q\/r' x lo hi H Q):=by
 intro pins s σ H x v vl vu lo hi sl Q I rx hs pl pu q;rcases q with q|q
 ·exact h pins s σ H x v vl vu lo hi sl Q I rx hs pl pu q
 ·exact h' pins s σ H x v vl vu lo hi sl Q I rx hs pl pu q
noncomputable def tSl(r:V->Option Int->Option Int->Hp->VK->Prop)(te:TE)(tl th:TO):TE:=fun σ H Q=>te σ H fun x H1=>tl σ H1 fun l H2=>th σ H2 fun u H3=>r x l u H3 Q
theorem JcT{r:V->Option Int->Option Int->Hp->VK->Prop}(hr:SlR X r)(he:PE X e te)(hl:PO X lo tl)(hu:PO X hi th):PE X (.Subscript e (.Slice lo hi none p2) pos) (tSl r te tl th):=by
 intro pins s σ H Q I h;refine Subscript_ (thn (he pins s σ H _ I h) fun v s1 ⟨x,H1,I1,r1,q1⟩=>?_);refine wpAny_Slice (thn (hl pins s1 σ H1 _ I1 q1) fun vl s2 ⟨l,H2,I2,pl,q2⟩=>thn (hu pins s2 σ H2 _ I2 q2) fun vu s3 ⟨u,H3,I3,pu,q3⟩=>?_);rw[evalPart_none];refine Qp ?_;have I4:Inv X pins σ H3 { s3 with heap:=s3.heap.push { cls:=.type "slice",data:=.fields #[vl,vu,.none] } }:=I3.kept (t':=s3.toks) fun b ob q=>Qi _ q
 obtain⟨T,id,hT,ht,hg⟩:=hr pins { s3 with heap:=s3.heap.push { cls:=.type "slice",data:=.fields #[vl,vu,.none] } } σ H3 x v vl vu l u s3.heap.objs.size Q I4 r1 (Heap.IsSliceOf.new ..) pl pu q3;show wpAny (model X.prog X.w) X.A (subscriptTail e (.Slice lo hi none p2) v (.ref s3.heap.objs.size)) (EP X pins σ Q) X.xe { s3 with heap:=s3.heap.push { cls:=.type "slice",data:=.fields #[vl,vu,.none] } };exact tail_any (ops:=[.ref s3.heap.objs.size,v]) ht hT hg (by with_unfolding_all rfl)

noncomputable def ZL(xs:List V)(lo hi:Option Int):List V:=(xs.drop (HT.sIx xs.length 0 lo)).take (HT.sIx xs.length xs.length hi-HT.sIx xs.length 0 lo)
theorem Wl(xs:List V)(lo hi:Option Int):(ZL xs lo hi).length<=xs.length:=by unfold ZL;rw[KO,MD];omega
noncomputable def JpL(K:Qz):V->Option Int->Option Int->Hp->VK->Prop:=fun x lo hi H Q=>∃a xs,x=.ref a/\SqT K H a xs ∧
 ¬(HT.sIx xs.length 0 lo=0/\HT.sIx xs.length xs.length hi=xs.length)/\∀p,H p=none->Q (.ref p) (upd H p (.tup (ZL xs lo hi)))
theorem sl_tup:SlR X (JpL X.K):=by
 intro pins s σ H x v vl vu lo hi sl Q I rx hs pl pu h;obtain⟨a,xs,rfl,hx,hw,q⟩:=h;cases rx;obtain⟨its,r,ht,hz⟩:=I.tuple hx;have hlen:its.toArray.size=xs.length:=by rw[Qr];exact r.length.symm
 refine⟨"tuple",_,Q9.lookup,ht.typeIs,?_⟩;refine HT.Vu ht hs pl pu (by rw[hlen];exact hw) ?_ (by rw[hlen];exact hz);rw[hlen];refine⟨.ref s.heap.objs.size,_,I.laid (t':=s.toks) (o:=.tup (ZL xs lo hi)) (fun b ob q=>Qi _ q) (Qx _) ?_,rfl,q _ (I.hok.fresh (Qx _))⟩;exact⟨Q5 (Wl xs lo hi) hz,_,(r.drop (HT.sIx xs.length 0 lo)).take (HT.sIx xs.length xs.length hi-HT.sIx xs.length 0 lo),IsTup.new _ _⟩

noncomputable def JlQ(K:Qz):R2:=fun x y H Q=>∃a b xs ys,x=.ref a/\y=.ref b/\SqT K H a xs/\SqT K H b ys/\xs≠[]/\xs.length+ys.length<=Qt ∧
 (ys=[]->Q (.ref a) H)/\(ys≠[]->∀p,H p=none->Q (.ref p) (upd H p (.tup (xs++ys))))
theorem Vals.nil_iff{xs:List V}{us:List Qe}(r:Vals xs us):us=[]↔xs=[]:=by
 cases r with
 | nil=>simp
 | cons _ _=>simp
theorem Jkx:OpR X (binaryOp .Add) (JlQ X.K):=by
 intro pins s σ H x y v u Q I rx ry h;obtain⟨a,b,xs,ys,rfl,rfl,ha,hb,hx,hz,q1,q2⟩:=h;cases rx;cases ry;obtain⟨its,r1,p1,_⟩:=I.tuple ha;obtain⟨its2,r2,p2,_⟩:=I.tuple hb;refine HT.Jjs p1 p2 (fun z=>hx (r1.nil_iff.mp z)) (fun z=>⟨.ref a,H,I,rfl,q1 (r2.nil_iff.mp z)⟩) (fun z=>?_) (by rw[<- r1.length,<- r2.length];exact hz);refine⟨.ref s.heap.objs.size,_,I.laid (t':=s.toks) (o:=.tup (xs++ys)) (fun b ob q=>Qi _ q) (Qx _) ?_,rfl,q2 (fun w=>z (r2.nil_iff.mpr w)) _ (I.hok.fresh (Qx _))⟩
 exact⟨by rw[QG];exact hz,_,r1.append r2,IsTup.new _ _⟩
end
end L2

namespace L2
open PySem PySem.Spec PyProof.Rows

noncomputable def ixN(n:Nat)(i:Int):Option Nat:=if 0<=i then(if i<n then some i.toNat else none) else if -(n:Int)<=i then some (i+n).toNat else none
noncomputable def atI{α:Type}(xs:List α)(i:Int):Option α:=(ixN xs.length i).bind fun j=>xs[j]?
theorem Jkd{n:Nat}{i:Int}{j:Nat}(h:ixN n i=some j):seqIndex? i n=some j/\j<n/\-(n:Int)<=i/\i<n:=by
 unfold ixN at h
 by_cases h0:0<=i
 ·rw[if_pos h0] at h
  by_cases h1:i<n
  ·rw[if_pos h1] at h;have e:i.toNat=j:=Q0 h;exact⟨by rw[seqIndex_of h0 h1,e],by omega,by omega,h1⟩
  ·rw[if_neg h1] at h;cases h
 ·rw[if_neg h0] at h
  by_cases h1:-(n:Int)<=i
  ·rw[if_pos h1] at h;have e:(i+n).toNat=j:=Q0 h;exact⟨by rw[seqIndex_neg (by omega) h1,e],by omega,h1,by omega⟩
  ·rw[if_neg h1] at h;cases h
theorem JaO{α:Type}{xs:List α}{i:Int}{v:α}(h:atI xs i=some v):∃j,seqIndex? i xs.length=some j/\xs[j]?=some v/\j<xs.length/\-(xs.length:Int)<=i/\i<xs.length:=by
 unfold atI at h
 cases e:ixN xs.length i with
 | none=>rw[e] at h;cases h
 | some j=>rw[e] at h;obtain⟨h1,h2,h3,h4⟩:=Jkd e;exact⟨j,h1,h,h2,h3,h4⟩
noncomputable def Jep(b:Q6):Prop:=∀o i,subscripted b false o i=operate [o,i] (getItem o i)
noncomputable def IxR(X:Cx)(r:R2):Prop :=
 ∀(value slice:Q6) (pins:List (Qg×Obj)) (s:Qh) (σ:St) (H:Hp) (x y:V) (v u:Qe) (Q:VK),Inv X pins σ H s->RelV x v->RelV y u->r x y H Q ->
  subscripted slice false v u=operate [v,u] (getItem v u)->wpAny (model X.prog X.w) X.A (subscriptTail value slice v u) (EP X pins σ Q) X.xe s
noncomputable def MtR(X:Cx)(id:String)(r:V->List V->Hp->VK->Prop):Prop :=
 ∀(pins:List (Qg×Obj)) (s:Qh) (σ:St) (H:Hp) (x:V) (xs:List V) (v:Qe) (us:List Qe) (Q:VK),Inv X pins σ H s->RelV x v->Vals xs us->r x xs H Q ->
  wpAny (model X.prog X.w) X.A (call (.builtin id) (v::us)) (EP X pins σ Q) X.xe s
section
variable{X:Cx}{a b:Q6}{ta tb:TE}{pos:Pos}
theorem IxR.or{r r':R2}(h:IxR X r)(h':IxR X r'):IxR X (fun x y H Q=>r x y H Q\/r' x y H Q):=by
 intro value slice pins s σ H x y v u Q I rx ry q hs;rcases q with q|q
 ·exact h value slice pins s σ H x y v u Q I rx ry q hs
 ·exact h' value slice pins s σ H x y v u Q I rx ry q hs
theorem MtR.or{id:String}{r r':V->List V->Hp->VK->Prop}(h:MtR X id r)(h':MtR X id r'):MtR X id (fun x xs H Q=>r x xs H Q\/r' x xs H Q):=by
 intro pins s σ H x xs v us Q I rx rs q;rcases q with q|q
 ·exact h pins s σ H x xs v us Q I rx rs q
 ·exact h' pins s σ H x xs v us Q I rx rs q
theorem JlO{r:R2}(hr:IxR X r)(ha:PE X a ta)(hb:PE X b tb)(hs:Jep b):PE X (.Subscript a b pos) (tOp r ta tb):=by intro pins s σ H Q I h;exact Subscript_ (Jl9 ha hb I h fun v u s2 x y H2 I2 rx ry q=>hr a b pins s2 σ H2 x y v u Q I2 rx ry q (hs _ _))

noncomputable def JpE(K:Qz):R2:=fun x y H Q=>∃p xs i v,x=.ref p/\y=.int i/\SqL K H p xs/\atI xs i=some v/\Q v H
noncomputable def JpG(K:Qz):R2:=fun x y H Q=>∃p xs i v,x=.ref p/\y=.int i/\SqT K H p xs/\atI xs i=some v/\Q v H
noncomputable def JpF:R2:=fun x y H Q=>∃z i c,x=.str z/\y=.int i/\z.length<=Qt/\atI z.cps.toList i=some c/\Q (.str ⟨#[c]⟩) H
theorem ix_list:IxR X (JpE X.K):=by
 intro value slice pins s σ H x y v u Q I rx ry h hs;obtain⟨p,xs,i,z,rfl,rfl,hq,he,q⟩:=h;cases rx;obtain⟨t,rfl⟩:=ry;obtain⟨its,r,pl,hz⟩:=I.list hq;obtain⟨j,h1,h2,h3,h4,h5⟩:=JaO he;obtain⟨w,ew,rw'⟩:=r.get h2;have hl:=r.length;have hn:=Zb;have fin:EP X pins σ Q w s:=⟨z,H,I,rw',q⟩
 by_cases h0:0<=i
 ·have hj:i.toNat=j:=by rw[seqIndex_of h0 h5] at h1;exact Q0 h1
  exact item_listR pl.isList h0 (by omega) (by rw[hj];simpa using ew) fin hs
 ·have hj:(i+(its.toArray.size:Int)).toNat=j:=by rw[seqIndex_neg (by omega) h4] at h1;rw[Qr,<- hl];exact Q0 h1
  exact subscriptTail_builtinR (x:=w) pl.isList.typeIs slot_list_getitem.lookup
   (wpAny_getItem_list_neg (Q:=fun r s'=>r=w/\EP X pins σ Q r s') pl.isList (by omega) (by rw[Qr] <;> omega) (by omega) (by rw[hj];simpa using ew) ⟨rfl,fin⟩) hs
theorem ix_tup:IxR X (JpG X.K):=by
 intro value slice pins s σ H x y v u Q I rx ry h hs;obtain⟨p,xs,i,z,rfl,rfl,hq,he,q⟩:=h;cases rx;obtain⟨t,rfl⟩:=ry;obtain⟨its,r,pl,hz⟩:=I.tuple hq;obtain⟨j,h1,h2,h3,h4,h5⟩:=JaO he;obtain⟨w,ew,rw'⟩:=r.get h2;have hl:=r.length;have hn:=Zb;have fin:EP X pins σ Q w s:=⟨z,H,I,rw',q⟩
 exact subscriptTail_builtinR (x:=w) pl.typeIs slot_tuple_getitem.lookup
  (getItem_tuple (j:=j) (Q:=fun r s'=>r=w/\EP X pins σ Q r s') pl (by omega) (by omega) (by rw[Qr,<- hl];exact h1) (by simpa using ew) ⟨rfl,fin⟩) hs
theorem JmQ:IxR X JpF:=by
 intro value slice pins s σ H x y v u Q I rx ry h hs;obtain⟨z,i,c,rfl,rfl,hz,he,q⟩:=h;obtain⟨t,rfl⟩:=rx;obtain⟨t',rfl⟩:=ry;obtain⟨j,h1,h2,h3,h4,h5⟩:=JaO he;have hl:z.cps.toList.length=z.length:=by simp[Str.length]
 rw[hl] at h1 h4 h5;have hn:=Zb;exact tail_any (typeIs_str s z t) slot_str_getitem.lookup (getItem_str (c:=c) (by
  have e1:decide (i < -(2 ^ 63:Int))=false:=decide_eq_false (by omega)
  have e2:decide (i ≥ 2 ^ 63)=false:=decide_eq_false (by omega);rw[e1,e2,Bool.or_false]) (by rw[h1];simpa using h2) ⟨.str ⟨#[c]⟩,H,I.tok _,⟨_,rfl⟩,q⟩) hs
noncomputable def rIx(K:Qz):R2:=fun x y H Q=>JpE K x y H Q\/JpG K x y H Q\/JpF x y H Q
theorem JhT:IxR X (rIx X.K):=ix_list.or (ix_tup.or JmQ)

theorem Inv.lst{pins:List (Qg×Obj)}{σ:St}{H:Hp}{s:Qh}{p:Qg}{xs:List V}(I:Inv X pins σ H s)(h:H p=some (.lst xs)) :
 ∃(its:List Qe) (n:Nat),Vals xs its/\s.heap.get? p=some { cls:=.type "list",data:=.seq its.toArray n }/\xs.length<=Qt:=by
 obtain⟨z,its,n,r,e⟩:=I.hok p _ h;exact⟨its,n,r,e,z⟩
theorem JbG(lo hi:Option Int)(n:Nat):(sliceBounds lo hi none n).1=((HT.sIx n 0 lo:Nat):Int)/\(sliceBounds lo hi none n).2.1=((HT.sIx n n hi:Nat):Int)/\(sliceBounds lo hi none n).2.2=1:=by
 refine⟨?_,?_,rfl⟩
 ·cases lo with
  | none=>simp[sliceBounds,HT.sIx]
  | some i =>
   simp only[sliceBounds,HT.sIx,Option.getD_none,show(1:Int)>0 by decide,if_true]
   by_cases h:i<0
   ·simp only[h,if_true] <;> omega
   ·simp only[h,if_false] <;> omega
 ·cases hi with
  | none=>simp[sliceBounds,HT.sIx]
  | some i =>
   simp only[sliceBounds,HT.sIx,Option.getD_none,show(1:Int)>0 by decide,if_true]
   by_cases h:i<0
   ·simp only[h,if_true] <;> omega
   ·simp only[h,if_false] <;> omega
theorem ZV(its:List Qe)(lo hi:Option Int):slicePick its.toArray lo hi none=((its.drop (HT.sIx its.length 0 lo)).take (HT.sIx its.length its.length hi-HT.sIx its.length 0 lo)).toArray:=by obtain⟨h1,h2,h3⟩:=JbG lo hi its.toArray.size;unfold slicePick;rw[h1,h2,h3];simp only[sliceRange_one,pick_run,Qr] <;> rfl
noncomputable def JpK(K:Qz):V->Option Int->Option Int->Hp->VK->Prop:=fun x lo hi H Q=>∃a xs,x=.ref a/\SqL K H a xs/\∀p,H p=none->Q (.ref p) (upd H p (.lst (ZL xs lo hi)))
theorem sl_list:SlR X (JpK X.K):=by
 intro pins s σ H x v vl vu lo hi sl Q I rx hs pl pu h;obtain⟨a,xs,rfl,hx,q⟩:=h;cases rx;obtain⟨its,r,ht,hz⟩:=I.list hx;have hlen:=r.length;refine⟨"list",_,slot_list_getitem.lookup,ht.isList.typeIs,?_⟩;refine wpAny_getItem_list_slice ht.isList hs pl pu .none (by simp) ?_ (by rw[Qr] <;> omega);rw[ZV,<- hlen];refine⟨.ref s.heap.objs.size,_,I.laid (t':=s.toks) (o:=.lst (ZL xs lo hi)) (fun b ob q=>Qi _ q) (Qx _) ?_,rfl,q _ (I.hok.fresh (Qx _))⟩
 exact⟨Q5 (Wl xs lo hi) hz,_,0,(r.drop (HT.sIx xs.length 0 lo)).take (HT.sIx xs.length xs.length hi-HT.sIx xs.length 0 lo),Qn _ rfl⟩

theorem CallR.or{f:Qe}{r r':List V->Hp->VK->Prop}(h:CallR X f r)(h':CallR X f r'):CallR X f (fun xs H Q=>r xs H Q\/r' xs H Q):=by
 intro pins s σ H xs us Q I rs q;rcases q with q|q
 ·exact h pins s σ H xs us Q I rs q
 ·exact h' pins s σ H xs us Q I rs q
theorem ZK:CallR X (.type "tuple") (fun xs H Q=>∃p ys,xs=[.ref p]/\((SqL X.K H p ys/\∀l,H l=none->Q (.ref l) (upd H l (.tup ys)))\/(SqT X.K H p ys/\Q (.ref p) H))):=by
 intro pins s σ H xs us Q I r h;obtain⟨p,ys,rfl,h⟩:=h;obtain⟨u,rfl,rx⟩:=Ws r;cases rx;rcases h with ⟨hq,q⟩|⟨hq,q⟩
 ·obtain⟨its,r',pl,hz⟩:=I.list hq;have hlen:=r'.length;refine call_tuple_list pl.isList (fun h' kp=>?_) (by simp only[Qr] <;> omega);have I1:Inv X pins σ H { s with heap:=h' }:=I.kept (t':=s.toks) kp
  have I2:Inv X pins σ (upd H h'.objs.size (.tup ys)) { s with heap:=h'.push { cls:=.type "tuple",data:=.seq its.toArray } } :=
   I1.laid (t':=s.toks) (fun b o e=>Qi _ e) (Qx _) (show ObjOk X.prog X.w _ _ _ (.tup ys) from⟨hz,its,r',IsTup.new _ _⟩)
  exact⟨.ref h'.objs.size,_,I2,rfl,q _ (I1.hok.fresh (Qx _))⟩
 ·obtain⟨its,r',pl,hz⟩:=I.tuple hq;exact call_tuple_same pl ⟨.ref p,H,I,rfl,q⟩

noncomputable def tyV(K:Qz)(T:String)(x:V)(H:Hp):Prop:=match x with
 | .str _=>T="str"
 | .int _=>T="int"
 | .ref p=>(T="list"/\∃xs,SqL K H p xs)\/(T="tuple"/\∃o,K.lookup p=some o/\o.cls=.type "tuple"/\o.dict=none) ∨
  (T="dict"/\((∃kvs,H p=some (.dK kvs))\/∃kvs,H p=some (.dT kvs)))\/(T="set"/\∃S n,H p=some (.set S n))
 | _=>False
theorem Ji2{pins:List (Qg×Obj)}{σ:St}{H:Hp}{s:Qh}{T:String}{x:V}{v:Qe}(I:Inv X pins σ H s)(r:RelV x v)(ty:tyV X.K T x H) :
 s.TypeIs v T/\∀a,v=.ref a->∃ob,s.heap.get? a=some ob/\ob.dict=none:=by
 cases x with
 | str z=>obtain⟨t,rfl⟩:=r;cases (show T="str" from ty);exact⟨typeIs_str s z t,fun _ e=>nomatch e⟩
 | int i=>obtain⟨t,rfl⟩:=r;cases (show T="int" from ty);exact⟨typeIs_int s i t,fun _ e=>nomatch e⟩
 | ref p =>
  cases r;rcases ty with ⟨rfl,xs,hq⟩|⟨rfl,o,hk,hc,hd⟩|⟨rfl,hk⟩|⟨rfl,S,n,hk⟩
  ·obtain⟨its,_,pl,_⟩:=I.list hq;refine⟨pl.isList.typeIs,fun a e=>?_⟩;cases e;obtain⟨o,n,e,c,hd,_⟩:=pl;exact⟨o,e,hd⟩
  ·refine⟨⟨o,I.kIn p o hk,hc⟩,fun a e=>?_⟩;cases e;exact⟨o,I.kIn _ o hk,hd⟩
  ·have z:∃o,s.heap.get? p=some o/\o.ExactDict:=by
    rcases hk with ⟨kvs,hk⟩|⟨kvs,hk⟩
    ·obtain⟨_,_,_,_,o,_,_,e,ex,_⟩:=I.hok p _ hk;exact⟨o,e,ex⟩
    ·obtain⟨_,_,_,_,o,_,_,e,ex,_⟩:=I.hok p _ hk;exact⟨o,e,ex⟩
   obtain⟨o,e,ex⟩:=z;refine⟨⟨o,e,ex.1⟩,fun a e2=>?_⟩;cases e2;exact⟨o,e,ex.2.1⟩
  ·obtain⟨o,_,_,_,e,ex,_⟩:=I.hok p _ hk;refine⟨⟨o,e,ex.1⟩,fun a e2=>?_⟩;cases e2;exact⟨o,e,ex.2.1⟩
 | _=>exact Gx ty
noncomputable def Jov(K:Qz)(T:String)(r:V->List V->Hp->VK->Prop)(to:TE):TE:=fun σ H Q=>to σ H fun x H1=>tyV K T x H1/\r x [] H1 Q
noncomputable def tBM(K:Qz)(T:String)(r:V->List V->Hp->VK->Prop)(to:TE)(t:TA):TE:=fun σ H Q=>to σ H fun x H1=>tyV K T x H1/\t σ H1 fun xs H2=>r x xs H2 Q
variable{o e:Q6}{es:List Q6}{to:TE}{t:TA}{name:Str}{apos cpos:Pos}{T id:String}{r:V->List V->Hp->VK->Prop}
theorem JnA(pa:PlainAttrs T)(slot:Slot T name id)(hty:typeOf (.builtin id)=pure (.type "method_descriptor"))(hm:MtR X id r)(ho:PE X o to)
 (hbase:attributeBase o name X.env (eval o X.env)=eval o X.env:=by rfl) (hline:(apos.endLine == cpos.line)=true:=by rfl):PE X (.Call (.Attribute o name apos) [] [] cpos) (Jov X.K T r to):=by
 intro pins s σ H Q I h;refine LA hbase hline (thn (ho pins s σ H _ I h) fun v s1 ⟨x,H1,I1,r1,ty,q1⟩=>?_);obtain⟨h1,h2⟩:=Ji2 I1 r1 ty;exact⟨T,id,pa,slot,hty,h1,h2,Kn rfl (L4 (hm pins s1 σ H1 x [] v [] Q I1 r1 .nil q1))⟩
theorem JpB(pa:PlainAttrs T)(slot:Slot T name id)(hty:typeOf (.builtin id)=pure (.type "method_descriptor"))(hm:MtR X id r)(ho:PE X o to)(ha:PA X (e::es) t)
 (hbase:attributeBase o name X.env (eval o X.env)=eval o X.env:=by rfl)
 (hfew:((backTo cpos (starEach (e::es) X.env)).all (fun x=>!x.1) && (backToKw cpos (keywordEach [] X.env)).all (fun x=>x.1.isSome)
  && decide ((e::es).length+([]:List Mp).length+(if ([]:List Mp).isEmpty then 0 else 1)<30))=true:=by rfl)
 (hline:(apos.endLine == cpos.line)=true:=by rfl) (hs:starEach (e::es) X.env=(false,eval e X.env)::starEach es X.env:=by rfl) (hplain:(backTo cpos (starEach es X.env)).any (·.1)=false:=by rfl) :
 PE X (.Call (.Attribute o name apos) (e::es) [] cpos) (tBM X.K T r to t):=by
 intro pins s σ H Q I h;refine wpAny_Call_method_late hbase hfew hline rfl (thn (ho pins s σ H _ I h) fun v s1 ⟨x,H1,I1,r1,ty,q1⟩=>?_);obtain⟨h1,h2⟩:=Ji2 I1 r1 ty;refine⟨T,id,pa,slot,hty,h1,h2,?_⟩;have hA:=ha cpos pins s1 σ H1 _ I1 q1;rw[hs] at hA ⊢;refine Kn (by show(false || (backTo cpos (starEach es X.env)).any (·.1))=false;rw[hplain] <;> rfl) (M9 ?_);exact thn hA fun us s2 ⟨vs,H2,I2,r2,q2⟩=>hm pins s2 σ H2 x vs v us Q I2 r1 r2 q2
/- xs.append(e),list.index on a module's tuple .. are MtR facts of 06m -/
end
end L2

namespace L2
open PySem PySem.Spec PyProof.Rows

noncomputable def MtM(X:Cx)(id:String)(r:V->List V->Hp->VK->Prop):Prop :=
 ∀(pins:List (Qg×Obj)) (s:Qh) (σ:St) (H:Hp) (x:V) (xs:List V) (v:Qe) (us:List Qe) (Q:VK),Inv X pins σ H s->RelV x v->Vals xs us->r x xs H Q ->
  wpAny (model X.prog X.w) X.A (call (.builtin id) (v::us)) (EP X pins σ Q) X.xe s

theorem Vals.one:∀{x:V} {us:List Qe},Vals [x] us->∃u,us=[u]/\RelV x u
 | _,_,.cons r .nil=>⟨_,rfl,r⟩
theorem Vals.two:∀{x y:V} {us:List Qe},Vals [x,y] us->∃u v,us=[u,v]/\RelV x u/\RelV y v
 | _,_,_,.cons r (.cons q .nil)=>⟨_,_,rfl,r,q⟩
theorem Vals.zero:∀{us:List Qe},Vals [] us->us=[]
 | _,.nil=>rfl
theorem Vals.dropLast{xs:List V}{us:List Qe}(h:Vals xs us):Vals xs.dropLast us.dropLast:=by
 induction h with
 | nil=>exact .nil
 | cons r t ih =>
  cases t with
  | nil=>exact .nil
  | cons q t'=>exact .cons r ih
theorem Vals.eraseIdx:∀{xs:List V} {us:List Qe} (i:Nat),Vals xs us->Vals (xs.eraseIdx i) (us.eraseIdx i)
 | _,_,_,.nil=>.nil
 | _,_,0,.cons _ t=>t
 | _,_,i+1,.cons r t=>.cons r (Vals.eraseIdx i t)
theorem Vals.reverse{xs:List V}{us:List Qe}(h:Vals xs us):Vals xs.reverse us.reverse:=by
 induction h with
 | nil=>exact .nil
 | cons r t ih=>rw[GF,GF];exact Vals.append ih (.cons r .nil)
theorem Vals.rep{xs:List V}{us:List Qe}(h:Vals xs us):∀k:Nat,Vals (QC k xs).flatten (QC k us).flatten
 | 0=>.nil
 | k+1=>by rw[Q3,Q3,Kf,Kf];exact Vals.append h (Vals.rep h k)
theorem Jdw{α:Type}(l:List α):l.eraseIdx (l.length-1)=l.dropLast:=by
 induction l with
 | nil=>rfl
 | cons a r ih =>
  cases r with
  | nil=>rfl
  | cons b r =>
   have e:(a::b::r).length-1=((b::r).length-1)+1:=by
    have h1:(a::b::r).length=r.length+2:=rfl
    have h2:(b::r).length=r.length+1:=rfl;omega
   rw[e,LB,ih]
   all_goals rfl
theorem Jal(its:List Qe):∀(k:Nat) (acc:List Qe),
 List.foldl (fun x1 x2=>x1++x2) acc.toArray (QC k its.toArray)=(acc++(QC k its).flatten).toArray
 | 0,acc=>by simp
 | k+1,acc=>by
  have e:acc.toArray++its.toArray=(acc++its).toArray:=by simp
  have e2:(acc++its)++(QC k its).flatten=acc++(QC (k+1) its).flatten:=by rw[Q3,Kf,GM]
  rw[<- e2,<- Jal its k (acc++its),<- e,Q3,Q4]

section
variable{X:Cx}{pins:List (Qg×Obj)}{σ:St}{H:Hp}{s:Qh}{l b:Qg}{xs ys zs:List V}

theorem Inv.lset{its its':List Qe}{n:Nat}{f:Array Qe->Array Qe}{t':Nat}(I:Inv X pins σ H s)(hH:H l=some (.lst xs))
 (e:s.heap.get? l=some { cls:=.type "list",data:=.seq its.toArray n }) (hf:f its.toArray=its'.toArray) (hv:Vals ys its') (hz:ys.length<=Qt) :
 Inv X pins σ (upd H l (.lst ys)) { s with heap:=s.heap.update l (Gy f),toks:=t' }:=by
 have q:=PySem.IsL.update e f;rw[hf] at q;refine I.write (x:=l) (e:=l) (by rw[hH];exact trivial) (.inl rfl) (fun b' u hb hu=>(Q1 s.heap (Gy f) (Q2 hb)).trans hu) ⟨_,q⟩ ?_;exact⟨hz,its',_,hv,q⟩
theorem Inv.lnew{its:List Qe}{t':Nat}(I:Inv X pins σ H s)(hv:Vals ys its)(hz:ys.length<=Qt) :
 Inv X pins σ (upd H s.heap.objs.size (.lst ys)) { s with heap:=s.heap.push { cls:=.type "list",data:=.seq its.toArray },toks:=t' } :=
 I.laid (fun _ _ q=>Qi _ q) (Qx _) ⟨hz,its,0,hv,Qn _ rfl⟩
theorem Inv.fresh(I:Inv X pins σ H s):H s.heap.objs.size=none:=I.hok.fresh (Qx _)
theorem Inv.lstM(I:Inv X pins σ H s)(hH:H l=some (.lst xs)):xs.length<=Qt/\∃(its:List Qe) (n:Nat),Vals xs its/\xs.length=its.length/\s.heap.get? l=some { cls:=.type "list",data:=.seq its.toArray n }:=by obtain⟨z,its,n,r,e⟩:=I.hok l _ hH;exact⟨z,its,n,r,r.length,e⟩

theorem JcI{n:Nat}(h:n<=Qt):KJ n=false:=by unfold KJ;exact decide_eq_false (by omega)
end

section
variable{X:Cx}

noncomputable def Jfv:V->List V->Hp->VK->Prop:=fun x vs H Q=>∃l xs y,x=.ref l/\vs=[y]/\H l=some (.lst xs)/\xs.length<Qt/\Q .non (upd H l (.lst (xs++[y])))
theorem Ui:MtM X "list.append" Jfv:=by intro pins s σ H x vs v us Q I rx rv h;obtain⟨l,xs,y,rfl,rfl,hH,hz,q⟩:=h;cases rx;obtain⟨u,rfl,ru⟩:=rv.one;obtain⟨z,its,n,r,hl,e⟩:=I.lstM hH;refine call_meets F.slot_list_append ⟨_,e,rfl⟩ F.entry_list_append (F.args_list_append_2 _ _) (PySem.list_append l its.toArray n u (by rw[Qr];omega)) ⟨e,?_⟩;refine⟨.non,_,I.lset (its':=its++[u]) hH e (by simp) (r.append (.cons ru .nil)) ?_,rfl,q⟩;rw[QG,Gq];omega

noncomputable def Jfw:V->List V->Hp->VK->Prop:=fun x vs H Q=>∃l b xs zs,x=.ref l/\vs=[.ref b]/\H l=some (.lst xs)/\H b=some (.lst zs)/\xs.length+zs.length<=Qt/\Q .non (upd H l (.lst (xs++zs)))
theorem Jaz:MtM X "list.extend" Jfw:=by
 intro pins s σ H x vs v us Q I rx rv h;obtain⟨l,b,xs,zs,rfl,rfl,hH,hB,hz,q⟩:=h;cases rx;obtain⟨u,rfl,ru⟩:=rv.one;cases ru;obtain⟨z,its,n,r,hl,e⟩:=I.lstM hH;obtain⟨z2,its2,n2,r2,hl2,e2⟩:=I.lstM hB;have hsz:its.toArray.size+its2.toArray.size<=Qt:=by rw[Qr,Qr];omega
 have hlong:¬(!its.toArray.isEmpty && KJ (its.toArray.size+its2.toArray.size))=true:=by rw[JcI hsz,Bool.and_false];exact QI
 refine call_meets F.slot_list_extend ⟨_,e,rfl⟩ F.entry_list_extend (F.args_list_extend_2 _ _)
  (AutoSeq1.list_extend_list_list_0 l its.toArray n b its2.toArray n2 hlong (by rw[Qr];omega) (by omega)) ⟨e,e2,?_⟩
 refine⟨.non,_,I.lset (its':=its++its2) hH e (by simp) (r.append r2) ?_,rfl,q⟩;rw[QG];omega

noncomputable def JpI:V->List V->Hp->VK->Prop:=fun x vs H Q=>∃l xs y,x=.ref l/\vs=[]/\H l=some (.lst xs)/\xs[xs.length-1]?=some y/\Q y (upd H l (.lst xs.dropLast))
theorem Jnf:MtM X "list.pop" JpI:=by
 intro pins s σ H x vs v us Q I rx rv h;obtain⟨l,xs,y,rfl,rfl,hH,hy,q⟩:=h;cases rx;have hus:=rv.zero;subst hus;obtain⟨z,its,n,r,hl,e⟩:=I.lstM hH;obtain⟨u,hu,ru⟩:=r.get hy
 have hy':its.toArray[its.toArray.size-1]?=some u:=by show its.toArray[its.length-1]?=some u;rw[<- LJ,<- hl];exact hu
 refine call_meets F.slot_list_pop ⟨_,e,rfl⟩ F.entry_list_pop (F.args_list_pop_1 _) (MeetsSeq.list_pop_last l its.toArray n u hy' (by rw[Qr];omega)) ⟨e,?_⟩;refine⟨y,_,I.lset (its':=its.dropLast) hH e ?_ r.dropLast ?_,ru,q⟩
 ·show its.toArray.eraseIdxIfInBounds (its.toArray.size-1)=its.dropLast.toArray;rw[Qr,List.eraseIdxIfInBounds_toArray,Jdw]
 ·rw[Ra];omega

noncomputable def JpC:R2:=fun x y H Q=>∃l b xs zs,x=.ref l/\y=.ref b/\H l=some (.lst xs)/\H b=some (.lst zs)/\xs.length+zs.length<=Qt/\∀p,H p=none->Q (.ref p) (upd H p (.lst (xs++zs)))
theorem Jnq:OpR X (binaryOp .Add) JpC:=by
 intro pins s σ H x y v u Q I rx ry h;obtain⟨l,b,xs,zs,rfl,rfl,hH,hB,hz,q⟩:=h;cases rx;cases ry;obtain⟨z,its,n,r,hl,e⟩:=I.lstM hH;obtain⟨z2,its2,n2,r2,hl2,e2⟩:=I.lstM hB;refine PySem.P.add_list e e2 ?_ (by rw[Qr,Qr];omega);have ea:its.toArray++its2.toArray=(its++its2).toArray:=by simp
 rw[ea];exact⟨.ref _,_,I.lnew (t':=s.toks) (r.append r2) (by rw[QG];omega),rfl,q _ I.fresh⟩
noncomputable def JpJ:R2:=fun x y H Q=>∃l k xs,x=.ref l/\y=.int k/\H l=some (.lst xs)/\-(2 ^ 63)<=k/\k<2 ^ 63/\xs.length*k.toNat<=Qt ∧
 ∀p,H p=none->Q (.ref p) (upd H p (.lst (QC k.toNat xs).flatten))
theorem Jkj{α:Type}(xs:List α)(k:Nat):(QC k xs).flatten.length=k*xs.length:=by
 induction k with
 | zero=>simp
 | succ k ih=>rw[Q3,Kf,QG,ih,Nat.succ_mul,Nat.add_comm]
theorem Jnw:OpR X (binaryOp .Mult) JpJ:=by
 intro pins s σ H x y v u Q I rx ry h;obtain⟨l,k,xs,rfl,rfl,hH,h1,h2,hz,q⟩:=h;cases rx;obtain⟨t,rfl⟩:=ry;obtain⟨z,its,n,r,hl,e⟩:=I.lstM hH;have hlen:its.toArray.size*k.toNat<=Qt:=by rw[Qr,<- hl];exact hz
 have hcap:¬its.toArray.size*k.toNat>(2 ^ 63-1) / 8:=by
  have:(Qt:Nat)<=(2 ^ 63-1) / 8:=by decide
  omega
 have hfit:¬(!Builtin.List.listFitsIndex k)=true:=by rw[fitsIndex_both h1 h2];exact QI
 have hlong:¬KJ (its.toArray.size*k.toNat)=true:=by rw[JcI hlen];exact QI
 have hnew:List.foldl (fun x1 x2=>x1++x2) #[] (QC (if its.toArray.isEmpty=true then 0 else k.toNat) its.toArray)=(QC k.toNat its).flatten.toArray:=by
  have f0:∀m:Nat,List.foldl (fun x1 x2=>x1++x2) #[] (QC m its.toArray)=(QC m its).flatten.toArray:=fun m=>by have:=Jal its m [];rw[Lr] at this;exact this
  rw[f0]
  cases its with
  | nil=>simp
  | cons a r'=>rw[if_neg (by simp)]
 refine wpAny_binaryOp_repeat_ref (T:="list") (U:="int") (by decide) ⟨_,e,rfl⟩ (fun s'=>typeIs_int s' k t) noFill_list_mul F.fills_int_mul F.slot_int_rmul repeat_list F.slot_int_index.lookup
  (call_meets F.slot_int_rmul (typeIs_int s k t) F.entry_int_rmul (F.args_int_rmul_2 _ _) (int___rmul___int_list k t l its.toArray n)
   ⟨e,rfl,⟨_,e,rfl⟩,call_meets F.slot_list_mul ⟨_,e,rfl⟩ F.entry_list_mul (F.args_list_mul_2 _ _) (AutoListH.list___mul___list_int_3 l its.toArray n k t hfit hcap hlong) ⟨e,?_⟩⟩)
 rw[hnew];exact⟨.ref _,_,I.lnew (t':=s.toks) (r.rep k.toNat) (by rw[Jkj,Nat.mul_comm];exact hz),rfl,q _ I.fresh⟩

end

section
variable{prog:Qy}{w:QH}{A:QF}{E:Qe->Qh->Prop}{s:Qh}
end

section
variable{X:Cx}
end
end L2

namespace Att
open PySem PySem.W PySem.Calls PyProof.Rows

theorem Wt{P:Params}{h:QP}:∀(ns:List Int) (vs:List Qe),WellAll P h vs (ns.map WData.int)->IntsAre vs ns:=by
 intro ns
 induction ns with
 | nil=>intro vs w;rw[KC] at w;cases w;exact .nil
 | cons n ns ih =>
  intro vs w;rw[Qd] at w
  cases w with
  | cons a b=>cases a;exact .cons _ _ (ih _ b)

theorem JgO{l:OpenLaw}{n:Nat}(hn:l.most=some n){P:Params}{h:QP}{args:List WData}{vals:List Qe}
 (hpre:l.row.toRowW.claim.pre args=true) (hwl:WellAll P h vals args) :
 ∃a vs ns,vals=[Value.ref a]/\args=[WData.list (ns.map WData.int)]/\h.get? a=some { cls:=.type "list",data:=.seq vs.toArray }/\IntsAre vs ns/\ns.length<=n:=by
 have hsh:WShape.hasAll [] args [.list .int]=true:=(pre_splitW hpre).1
 have hc:l.pre.holds [] { args:=args }=true:=(pre_splitW hpre).2;obtain⟨d,r,rfl,h1,h2⟩:=hasAllW_cons hsh;obtain rfl:=hasAllW_nil h2;obtain⟨xs,rfl,h3⟩:=hasW_list h1;obtain⟨ns,rfl⟩:=items_int h3
 have hlen:ns.length<=n:=by
  unfold OpenLaw.pre at hc
  have h4:(WTm.not (.lt (.lit (.int (n:Int))) (.len (.arg 0)))).holds [] { args:=[.list (ns.map .int)] }=true:=by have h4:=(holds_andW hc).1;rw[hn] at h4;exact h4
  have h5:=condW_of h4 (w_not (w_lt w_lit (w_len_list (w_arg rfl))));rw[Qv] at h5;refine Nat.le_of_not_lt fun q=>?_
  have q':(n:Int)<((ns.length:Nat):Int):=by omega
  first
   | (rw[decide_eq_true q'] at h5;exact absurd h5 (by decide))
   | (simp at h5;omega)
 cases hwl with
 | cons w1 w2 =>
  cases w2
  cases w1 with
  | list ho hall=>exact⟨_,_,ns,rfl,rfl,ho,Wt ns _ hall,hlen⟩

theorem JgH(l:OpenLaw)(args:List WData):l.row.toRowW.claim.post args (.bool true) args=true :=
 postW_of (r:=l.row.toRowW) (X:=(true == true))
  (show WShape.has [] (.bool true) .bool=true by first|rfl|decide|simp[WShape.has,WShape.arms,WShape.armsAll])
  (show(WTm.eq .res (.lit (.bool true))).value [] { args:=args,res:=some (.bool true),after:=args }=some (.bool (true == true)) from w_eq_bool (w_res rfl) w_lit) rfl

theorem attach_call{l:OpenLaw}{n:Nat}{q:Qy}{loose:List Str}{XP:(Str->Option Qe)->QP->Prop}{YP:QH->QP->Prop}{d:DefRec}
 (hn:l.most=some n) (hdf:d.params.defaults=[])
 (call:∀(w:QH) (s₀ s₁:Qh) (mg mb:Str->Option Qe) (fa:Qg) (o:Obj) (pm cd doc:Qe) (a:Qg) (vs:List Qe) (ns:List Int),
  Ground q loose [] XP w s₀ mg mb s₁.heap->YP w s₁.heap ->
  s₁.heap.get? fa=some o->o.data=.func (docDef d.name d.params d.body d.scope pm cd doc)->s₁.heap.CodeRec cd d.name->mg d.name=some (.ref fa) ->
  s₁.heap.get? a=some { cls:=.type "list",data:=.seq vs.toArray }->IntsAre vs ns->ns.length<=n->s₁.gens=#[] ->
  codeAny (model l.prog w) callerA (.call (.ref fa) ⟨[.ref a],[]⟩) (fun r s'=>r=.ok (.ret (.bool true))/\OldK s₁.heap s'.heap/\s'.os=s₁.os/\AllBare s'.gens) s₁) :
 WalkO q loose XP YP l.row.toRowW d [] (fun f vs=>PySem.call f vs):=by
 intro w s₀ s₁ mg mb G Y fa o pm cd doc dV kV ho hd hcd hD hmg hg args vals as hpre hlay hrd hwl hlo;obtain rfl:dV=.none:=Dflts.none hD hdf;obtain rfl:kV=.none:=Dflts.noKw hD;obtain⟨a,vs,ns,rfl,rfl,hobj,hints,hlen⟩:=JgO hn hpre hwl;refine enter_call (L6 (call w s₀ s₁ mg mb fa o pm cd doc a vs ns G Y ho (fd_plain hd) hcd hmg hobj hints hlen hg) fun r s' hq=>?_);obtain⟨rfl,h2,h3,h4⟩:=hq;exact⟨.inl ⟨.bool true,.bool true,[],rfl,fun _=>rfl,.bool true,JgH l _,fun _=>⟨List.Pairwise.nil,fun _ hm=>(nomatch hm)⟩⟩,h2,h3,h4⟩

section
variable{prog:Qy}{w:QH}{A:QF}{E:Qe->Qh->Prop}{s:Qh}{K:Qz}

end
end Att

namespace L2
open PySem PySem.Spec PyProof.Rows

theorem JaL:∀{vs:List Qe} {ns:List Int},IntsAre vs ns->Vals (ns.map V.int) vs
 | _,_,.nil=>.nil
 | _,_,.cons n t h=>.cons ⟨t,rfl⟩ (JaL h)

end L2

namespace L2
open PySem PySem.Spec PyProof.Rows

end L2

namespace L2
open PySem PySem.Spec PyProof.Rows

noncomputable def Jkb(s:G0)(j:Nat):G0:=match s with
 | .ClassDef _ _ _ body _ _ _ _ _ _ _=>body.getD j (.Pass ⟨0,0,0,0⟩)
 | _=>.Pass ⟨0,0,0,0⟩
noncomputable def Us(s:G0):Mb:=match s with
 | .FunctionDef _ a _ _ _ _ _ _ _ _=>a
 | _=>{ posonlyargs:=[],args:=[],vararg:=none,kwonlyargs:=[],kw_defaults:=[],kwarg:=none,defaults:=[] }
noncomputable def Ym(s:G0):List G0:=match s with
 | .FunctionDef _ _ b _ _ _ _ _ _ _=>b
 | _=>[]
noncomputable def Jh(s:G0):Ln:=match s with
 | .FunctionDef _ _ _ _ _ _ sc _ _ _=>sc
 | _=>{ kind:=.function,names:=[],isGenerator:=false,isCoroutine:=false }

noncomputable abbrev CX0:CXT:=fun _ _ _ _ _ _=>False
noncomputable abbrev E0:XK:=fun _ _ _=>False
theorem JlN{X:Cx}:WM CX0 X E0:=fun _ _ _ _ _ _ _ h=>h.elim

structure Fun (K:Qz) (x qual:Str) (st:G0) (f:Qg) (fd:QJ):Prop where
 ex:∃(oc:Qe) (od:Option Qg) (kV doc pm:Qe) (an:Option Qg) (cdv ct:Qe) (osl:Array (Option Qe)),
  fd=fnOf x qual (Us st) (Ym st) (Jh st) .none kV doc pm an cdv ct/\K.lookup f=some ⟨oc,od,.func fd,osl⟩/\codeIn K cdv qual=true
 kp:keepIn K (.ref f)=true
section
variable{P:Qy}{w:QH}{K:Qz}{mg:Str->Option Qe}{base:QP}
theorem Fun.ok{x qual:Str}{st:G0}{f:Qg}{fd:QJ}{N ps:List Str}{k:Nat}{sp:Sp}(F:Fun K x qual st f fd)(S:FnScope N ps (Jh st))(len:∀vs H Q E,sp vs H Q E->vs.length=ps.length)
 (hbody:∀(cdv:Qe) (A:QF) (outer:List Env) (s:Qh) (H:Hp) (vs:List V) (Q:VK) (E:XK),Room k (A.deeper (envOfC qual (Jh st) s.heap.objs.size f cdv))->sp vs H Q E ->
  ∃t,PSs (VQ CX0 P w K mg base N qual (Jh st) f cdv A outer s H E).nox (Ym st) t/\t { nx:=fun _ H'=>Q .non H',rt:=Q } (Yl N vs) H):FnOk P w K mg base CX0 (k+1) f fd ps sp:=by
 obtain⟨oc,od,kV,doc,pm,an,cdv,ct,osl,rfl,lk,hcd⟩:=F.ex;refine JlB lk hcd S len fun A outer s H vs Q E hr hsp=>?_
 obtain⟨t,h,q⟩:=hbody cdv A outer s H vs Q E hr hsp;exact⟨t,h.nox,q⟩
theorem Fun.binds{x qual:Str}{st:G0}{f:Qg}{fd:QJ}{ps:List Str}(F:Fun K x qual st f fd)
 (h:∀(kV doc pm:Qe) (an:Option Qg) (cdv ct:Qe) (us:List Qe),us.length=ps.length->bindArgs (fnOf x qual (Us st) (Ym st) (Jh st) .none kV doc pm an cdv ct) ⟨us,[]⟩=pure (ps.zip us)):Binds K fd ps []:=by
 obtain⟨oc,od,kV,doc,pm,an,cdv,ct,osl,rfl,lk,hcd⟩:=F.ex;exact .all (h kV doc pm an cdv ct)
theorem JhB{x qual:Str}{st:G0}{f:Qg}{oc:Qe}{od an:Option Qg}{osl:Array (Option Qe)}{kV doc pm cdv ct:Qe}(l:K.lookup f=some ⟨oc,od,.func (fnOf x qual (Us st) (Ym st) (Jh st) .none kV doc pm an cdv ct),osl⟩)
 (c:codeIn K cdv qual=true) (k:keepIn K (.ref f)=true):Fun K x qual st f (fnOf x qual (Us st) (Ym st) (Jh st) .none kV doc pm an cdv ct):=⟨⟨oc,od,kV,doc,pm,an,cdv,ct,osl,rfl,l,c⟩,k⟩
end
theorem Je0{A:QF}{k:Nat}(hr:Room k A):A.units+1<cLine:=Lv (Nat.add_le_add_left (by decide:1<=64) _) hr.units
theorem JgP{n:Nat}(h:n<=1000):n<Qt:=Lv h (by decide)

section
variable{X:Cx}
theorem pv(i:Nat){x:Str}{pos:Pos}(hN:X.N[i]?=some x:=by rfl)(hv:Vis X.env.scope x:=by first | exact Or.inl rfl | exact Or.inr (.inl rfl) | exact Or.inr (.inr rfl))(hd:(x == ("__debug__":Str))=false:=by decide)
 (hcd:(x == ("__classdict__":Str))=false:=by decide):PE X (.Name x pos) (Wf i):=Jih hN hv hd hcd
end

noncomputable def Same(H H':Hp):Prop:=∀b o,H b=some o->H' b=some o
theorem Same.refl(H:Hp):Same H H:=fun _ _ h=>h
theorem Same.trans{H H1 H2:Hp}(a:Same H H1)(b:Same H1 H2):Same H H2:=fun c o h=>b c o (a c o h)
theorem Same.free{H H':Hp}(e:Same H H'){l:Qg}(h:H' l=Option.none):H l=Option.none:=by
 cases q:H l with
 | none=>rfl
 | some o=>rw[e l o q] at h;cases h
theorem Same.seq{K:Qz}{H H':Hp}{a:Qg}{xs:List V}(e:Same H H')(h:SqL K H a xs):SqL K H' a xs:=by
 rcases h with (h|⟨o,h⟩)|h
 ·exact .inl (.inl (e _ _ h))
 ·exact .inl (.inr ⟨o,e _ _ h⟩)
 ·exact .inr h

end L2

namespace L2
open PySem PySem.Spec PyProof.Rows

section
variable{κ:Type}[DecidableEq κ]
noncomputable def VG(kvs:List (κ×V))(k:κ):Option V:=(kvs.find? fun kv=>decide (kv.1=k)).map (·.2)
noncomputable def VB(kvs:List (κ×V))(k:κ)(v:V):List (κ×V) :=
 if (kvs.any fun kv=>decide (kv.1=k))=true then kvs.map (fun kv=>if kv.1=k then(kv.1,v) else kv) else kvs++[(k,v)]
noncomputable def Jly(kvs:List (κ×V))(k:κ):List (κ×V):=kvs.filter fun kv=>decide (kv.1≠k)

theorem VI{p:κ×V}{r:List (κ×V)}{k:κ}(e:p.1=k):VG (p::r) k=some p.2:=by simp[VG,K3,e]
theorem VH{p:κ×V}{r:List (κ×V)}{k:κ}(e:¬p.1=k):VG (p::r) k=VG r k:=by simp[VG,K3,e]
theorem Jdf(k:κ):∀kvs:List (κ×V),(kvs.any fun kv=>decide (kv.1=k))=(VG kvs k).isSome
 | []=>rfl
 | p::r=>by
  rw[Ka]
  by_cases e:p.1=k
  ·simp only[VI e,decide_eq_true e,Rx,Option.isSome_some]
  ·rw[VH e,decide_eq_false e,G1];exact Jdf k r
theorem Wo(kvs:List (κ×V))(k:κ)(v:V):(VB kvs k v).length<=kvs.length+1:=by
 unfold VB;split
 ·rw[Qv];omega
 ·rw[QG,Qo,Ls];omega
theorem RelO.isSome_eq{o:Option V}{u:Option Qe}(r:RelO o u):o.isSome=u.isSome:=by
 cases o with
 | none=>cases u with
  | none=>rfl
  | some _=>exact(show False from r).elim
 | some _=>cases u with
  | none=>exact(show False from r).elim
  | some _=>rfl
theorem RelO.getD{o:Option V}{u:Option Qe}{d:V}{d':Qe}(r:RelO o u)(rd:RelV d d'):RelV (o.getD d) (u.getD d'):=by
 cases o with
 | none=>cases u with
  | none=>exact rd
  | some _=>exact(show False from r).elim
 | some _=>cases u with
  | none=>exact(show False from r).elim
  | some _=>exact r

theorem KV.val{kvs:List (κ×V)}{vs:List (κ×Qe)}(r:KV kvs vs)(k:κ):RelO (VG kvs k) (valueAt vs k):=by
 unfold KV at r
 induction r with
 | nil=>exact True.intro
 | @cons p q ps qs h t ih =>
  obtain⟨h1,h2⟩:=h
  by_cases e:p.1=k
  ·have e':q.1=k:=h1.symm.trans e
   have b:valueAt (q::qs) k=some q.2:=by simp[valueAt,K3,e']
   rw[VI e,b];exact h2
  ·have e':¬q.1=k:=fun z=>e (h1.trans z)
   have b:valueAt (q::qs) k=valueAt qs k:=by simp[valueAt,K3,e']
   rw[VH e,b];exact ih
theorem KV.any{kvs:List (κ×V)}{vs:List (κ×Qe)}(r:KV kvs vs)(k:κ):(kvs.any fun kv=>decide (kv.1=k))=vs.any fun kv=>decide (kv.1=k):=by
 unfold KV at r
 induction r with
 | nil=>rfl
 | cons h t ih=>rw[Ka,Ka,ih,h.1]
theorem KV.repl{kvs:List (κ×V)}{vs:List (κ×Qe)}(r:KV kvs vs)(k:κ){y:V}{u:Qe}(ry:RelV y u) :
 KV (kvs.map fun kv=>if kv.1=k then(kv.1,y) else kv) (vs.map fun kv=>if kv.1=k then(kv.1,u) else kv):=by
 unfold KV at r ⊢
 induction r with
 | nil=>exact .nil
 | @cons p q ps qs h t ih =>
  rw[Qd,Qd];refine .cons ?_ ih;obtain⟨h1,h2⟩:=h
  by_cases e:p.1=k
  ·rw[if_pos e,if_pos (h1.symm.trans e)];exact⟨h1,ry⟩
  ·rw[if_neg e,if_neg (fun z=>e (h1.trans z))];exact⟨h1,h2⟩
theorem KV.put{kvs:List (κ×V)}{vs:List (κ×Qe)}(r:KV kvs vs)(k:κ){y:V}{u:Qe}(ry:RelV y u):KV (VB kvs k y) (stored vs k u):=by
 unfold VB stored;rw[r.any k]
 by_cases e:(vs.any fun kv=>decide (kv.1=k))=true
 ·rw[if_pos e,if_pos e];exact r.repl k ry
 ·rw[if_neg e,if_neg e];exact Paired.snoc r ⟨rfl,ry⟩
theorem KV.drop{kvs:List (κ×V)}{vs:List (κ×Qe)}(r:KV kvs vs)(k:κ):KV (Jly kvs k) (without vs k):=by
 unfold KV at r ⊢;unfold Jly without
 induction r with
 | nil=>exact .nil
 | @cons p q ps qs h t ih =>
  obtain⟨h1,h2⟩:=h;rw[ME,ME]
  by_cases e:p.1=k
  ·have a:¬decide (p.1≠k)=true:=by simp[e]
   have b:¬decide (q.1≠k)=true:=by simp[h1.symm.trans e]
   rw[if_neg a,if_neg b];exact ih
  ·have e':¬q.1=k:=fun z=>e (h1.trans z)
   have a:decide (p.1≠k)=true:=by simp[e]
   have b:decide (q.1≠k)=true:=by simp[e']
   rw[if_pos a,if_pos b];exact .cons ⟨h1,h2⟩ ih
theorem KV.keys{kvs:List (κ×V)}{vs:List (κ×Qe)}(r:KV kvs vs):kvs.map (·.1)=vs.map (·.1):=by
 unfold KV at r
 induction r with
 | nil=>rfl
 | cons h t ih=>rw[Qd,Qd,ih,h.1]
theorem KV.length{kvs:List (κ×V)}{vs:List (κ×Qe)}(r:KV kvs vs):kvs.length=vs.length:=Mu r
end

theorem JhV{P:Qy}{w:QH}{k:Key}{u:Qe}(r:RelV (kV k) u):(Jz P w).is k u=true:=by
 cases k with
 | inl i=>obtain⟨t,e⟩:=(show ∃t,u=Value.int i t from r);subst e;exact JcD P w i t
 | inr x=>obtain⟨t,e⟩:=(show ∃t,u=Value.str x t from r);subst e;exact JcE P w x t
theorem Jap{P:Qy}{w:QH}:∀{ks:List Key} {us:List Qe},Vals (ks.map kV) us->ItemsAre (Jz P w) ks us
 | [],_,r=>by rw[KC] at r;cases r;exact .nil
 | k::ks,_,r=>by
  rw[Qd] at r
  cases r with
  | cons h t=>exact .cons (JhV h) (Jap t)

noncomputable abbrev KT(H:Hp):List (List Key×V)->List (List Key×Qg×Qe)->Prop:=Paired fun p q=>p.1=q.1/\H q.2.1=some (.tup (p.1.map kV))/\RelV p.2 q.2.2
theorem KT.val{H:Hp}{kvs:List (List Key×V)}{xs:List (List Key×Qg×Qe)}(r:KT H kvs xs)(k:List Key):RelO (VG kvs k) ((atKey xs k).map (·.2)):=by
 induction r with
 | nil=>exact True.intro
 | @cons p q ps qs h t ih =>
  obtain⟨h1,_,h2⟩:=h
  by_cases e:p.1=k
  ·have e':q.1=k:=h1.symm.trans e
   have b:atKey (q::qs) k=some q.2:=by simp[atKey,K3,e']
   rw[VI e,b];exact h2
  ·have e':¬q.1=k:=fun z=>e (h1.trans z)
   have b:atKey (q::qs) k=atKey qs k:=by simp[atKey,K3,e']
   rw[VH e,b];exact ih
theorem KT.repl{H:Hp}{kvs:List (List Key×V)}{xs:List (List Key×Qg×Qe)}(r:KT H kvs xs)(k:List Key){y:V}{u:Qe}(ry:RelV y u) :
 KT H (kvs.map fun kv=>if kv.1=k then(kv.1,y) else kv) (xs.map (putAt k u)):=by
 induction r with
 | nil=>exact .nil
 | @cons p q ps qs h t ih =>
  rw[Qd,Qd];refine .cons ?_ ih;obtain⟨h1,h2,h3⟩:=h;unfold putAt
  by_cases e:p.1=k
  ·rw[if_pos e,if_pos (h1.symm.trans e)];exact⟨h1,h2,ry⟩
  ·rw[if_neg e,if_neg (fun z=>e (h1.trans z))];exact⟨h1,h2,h3⟩
theorem KT.put{H:Hp}{kvs:List (List Key×V)}{xs:List (List Key×Qg×Qe)}(r:KT H kvs xs)(k:List Key){b:Qg}{y:V}{u:Qe}(hb:H b=some (.tup (k.map kV)))(ry:RelV y u) :
 KT H (VB kvs k y) (storedH xs k b u):=by
 have e:(kvs.any fun kv=>decide (kv.1=k))=(atKey xs k).isSome:=by rw[Jdf,(r.val k).isSome_eq,Option.isSome_map]
 unfold VB storedH;rw[e]
 by_cases q:(atKey xs k).isSome=true
 ·rw[if_pos q,if_pos q];exact r.repl k ry
 ·rw[if_neg q,if_neg q];exact Paired.snoc r ⟨rfl,hb,ry⟩
theorem KT.keeps{H H':Hp}{kvs:List (List Key×V)}{xs:List (List Key×Qg×Qe)}(r:KT H kvs xs)(ht:∀b ys,H b=some (.tup ys)->H' b=some (.tup ys)):KT H' kvs xs :=
 Paired.mapP r fun _ _ z=>⟨z.1,ht _ _ z.2.1,z.2.2⟩

section
variable{P:Qy}{w:QH}{H:Hp}{h:QP}{a:Qg}
theorem JlR{u:HO}(ok:HOk P w H h)(e:Rd H a u):ObjOk P w H h a u:=e.ok ok
theorem Jho{kvs:List (Key×V)}(ok:HOk P w H h)(e:Rd H a (.dK kvs)):kvs.length<=Qt/\(a == sysModules)=false/\∃vs,KV kvs vs/\h.DictOf (Jz P w) a vs :=
 show ObjOk P w H h a (.dK kvs) from JlR ok e
theorem Jo5{kvs:List (Key×V)}(ok:HOk P w H h)(e:H a=some (.dK kvs)):kvs.length<=Qt/\(a == sysModules)=false/\∃vs,KV kvs vs/\h.DictOf (Jz P w) a vs:=Jho ok (.inl e)
theorem JdL{ks:List Key}(ok:HOk P w H h)(e:H a=some (.tup (ks.map kV))):(tupleKind (Jz P w)).is h ks a:=by
 obtain⟨_,its,r,o,h1,h2,n,h3⟩:=(show ObjOk P w H h a (.tup (ks.map kV)) from ok a _ e)
 exact⟨o,its.toArray,n,h1,h2,h3,by simpa using Jap r⟩
theorem Jhp{kvs:List (List Key×V)}(ok:HOk P w H h)(e:Rd H a (.dT kvs)):kvs.length<=Qt/\(a == sysModules)=false ∧
 ∃xs,KT H kvs xs/\h.DictOfH (tupleKind (Jz P w)) a xs:=by
 obtain⟨z,y,xs,r,o,es,ep,h1,h2,h3,h4,h5⟩:=(show ObjOk P w H h a (.dT kvs) from JlR ok e)
 refine⟨z,y,xs,r,o,es,ep,h1,h2,h3,h4,fun x hx=>?_,h5⟩
 have all:∀{l:List (List Key×V)} {m:List (List Key×Qg×Qe)},KT H l m->∀x∈m,(tupleKind (Jz P w)).is h x.1 x.2.1:=by
  intro l m q
  induction q with
  | nil=>intro x hx;exact nomatch hx
  | @cons p q ps qs hq t ih =>
   intro x hx;rcases Qj.mp hx with e|hx
   ·subst e;exact JdL ok (by rw[<- hq.1];exact hq.2.1)
   ·exact ih x hx
 exact all r x hx
theorem Jo6{kvs:List (List Key×V)}(ok:HOk P w H h)(e:H a=some (.dT kvs)):kvs.length<=Qt/\(a == sysModules)=false ∧
 ∃xs,KT H kvs xs/\h.DictOfH (tupleKind (Jz P w)) a xs:=Jhp ok (.inl e)
end

noncomputable def DGet(H:Hp)(a:Qg)(y:V)(r:Option V):Prop :=
 (∃kvs k,Rd H a (.dK kvs)/\y=kV k/\r=VG kvs k)\/∃kvs k b,Rd H a (.dT kvs)/\y=.ref b/\H b=some (.tup (k.map kV))/\r=VG kvs k
noncomputable def DPut(H:Hp)(a:Qg)(y v:V)(H':Hp):Prop :=
 (∃kvs k,H a=some (.dK kvs)/\y=kV k/\kvs.length<Qt/\H'=upd H a (.dK (VB kvs k v))) ∨
 ∃kvs k b,H a=some (.dT kvs)/\y=.ref b/\H b=some (.tup (k.map kV))/\kvs.length<Qt/\H'=upd H a (.dT (VB kvs k v))
theorem DGet.k{H:Hp}{a:Qg}{kvs:List (Key×V)}{k:Key}(e:H a=some (.dK kvs)):DGet H a (kV k) (VG kvs k):=.inl ⟨kvs,k,.inl e,rfl,rfl⟩
theorem DGet.t{H:Hp}{a b:Qg}{kvs:List (List Key×V)}{k:List Key}(e:H a=some (.dT kvs))(eb:H b=some (.tup (k.map kV))):DGet H a (.ref b) (VG kvs k):=.inr ⟨kvs,k,b,.inl e,rfl,eb,rfl⟩
theorem DPut.k{H:Hp}{a:Qg}{kvs:List (Key×V)}{k:Key}{v:V}(e:H a=some (.dK kvs))(hl:kvs.length<Qt):DPut H a (kV k) v (upd H a (.dK (VB kvs k v))):=.inl ⟨kvs,k,e,rfl,hl,rfl⟩
theorem DPut.t{H:Hp}{a b:Qg}{kvs:List (List Key×V)}{k:List Key}{v:V}(e:H a=some (.dT kvs))(eb:H b=some (.tup (k.map kV)))(hl:kvs.length<Qt) :
 DPut H a (.ref b) v (upd H a (.dT (VB kvs k v))):=.inr ⟨kvs,k,b,e,rfl,eb,hl,rfl⟩

section
variable{X:Cx}{pins:List (Qg×Obj)}{σ:St}{H:Hp}{s:Qh}{a:Qg}{y v:V}{u r:Qe}{o:Option V}{A:QF}{E:Qe->Qh->Prop}

theorem Inv.big(I:Inv X pins σ H s):sysModules<s.heap.objs.size:=by have h:mainGlobals<s.heap.objs.size:=(I.mod.glob.keeps I.bk).lt;exact MO (by decide) h

theorem JeG{h':QP}{t':Nat}{ob:HO}(I:Inv X pins σ H s)(mu:Mut (H a))(hs:QR a s.heap h')(he:∃q,h'.get? a=some q)(new:ObjOk X.prog X.w (upd H a ob) h' a ob) :
 Inv X pins σ (upd H a ob) { s with heap:=h',toks:=t' } :=
 I.write (x:=a) (e:=a) mu (.inl rfl) (fun b q hb z=>(hs.2 b hb).trans z) he new
theorem Jml{P:Qy}{w:QH}{H':Hp}{h':QP}{kvs:List (Key×V)}{vs:List (Key×Qe)}(z:kvs.length<=Qt)(hd:(a == sysModules)=false)(rel:KV kvs vs)(dd:h'.DictOf (Jz P w) a vs) :
 ObjOk P w H' h' a (.dK kvs):=⟨z,hd,vs,rel,dd⟩
theorem Jgd{H':Hp}{Q:Unit->Qh->Prop}(hu:A.units+1<cLine)(I:Inv X pins σ H s)(g:DPut H a y v H')(ry:RelV y u)(rv:RelV v r)(h:∀s',Inv X pins σ H' s'->Q () s') :
 wpAny (model X.prog X.w) A (setItem (.ref a) u r) Q E s:=by
 rcases g with ⟨kvs,k,e,ey,l,eH⟩|⟨kvs,k,b,e,ey,eb,l,eH⟩
 ·subst ey eH;obtain⟨z,hd,vs,rel,dd⟩:=Jo5 I.hok e;have hz:vs.length<=Qt:=by rw[<- rel.length];exact z
  have hl:(VB kvs k v).length<=Qt:=by have:=Wo kvs k v;omega
  refine wpAny_setItem_pairs (hsz:=hz) (JhV ry) dd fun h' dd' hs=>h _ ?_
  have he:∃q,h'.get? a=some q:=let ⟨q,_,_,hq,_⟩:=dd';⟨q,hq⟩
  exact JeG I (by rw[e];exact True.intro) hs he (Jml hl hd (rel.put k rv) dd')
 ·subst ey eH;cases (show u=Value.ref b from ry);obtain⟨z,hd,xs,rel,dd⟩:=Jo6 I.hok e;have hz:xs.length<=Qt:=by rw[<- Mu rel];exact z
  have hl:(VB kvs k v).length<=Qt:=by have:=Wo kvs k v;omega
  refine wpAny_setItem_heap (hsz:=hz) (tupleKind_room_in1 hu) (JdL I.hok eb) dd fun h' dd' hs=>h _ ?_
  obtain⟨q,es,ep,hq,h2,h3,h4,_,h5⟩:=dd';refine JeG I (by rw[e];exact True.intro) hs ⟨q,hq⟩ ⟨hl,hd,_,(rel.put k eb rv).keeps fun c ys ec=>?_,q,es,ep,hq,h2,h3,h4,h5⟩;rw[Jf (JaA ec e (fun z=>nomatch z))];exact ec
end

section
variable{X:Cx}{pins:List (Qg×Obj)}{σ:St}{H:Hp}{s:Qh}{a:Qg}{kvs:List (Key×V)}{k:Key}{u:Qe}{A:QF}{E:Qe->Qh->Prop}
end

noncomputable def JlS(td ty tv:TE):TS:=fun D σ H=>tv σ H fun v H1=>td σ H1 fun x H2=>ty σ H2 fun y H3=>∃a H4,x=.ref a/\DPut H3 a y v H4/\D.nx σ H4
section
variable{X:Cx}{o i e value:Q6}{pos pos' tpos:Pos}{td ty tv:TE}
theorem Jfs(hu:X.A.units+1<cLine)(ho:PE X o td)(hi:PE X i ty)(hv:PE X value tv)(hs:swapsWith value (some (.Subscript o i pos')) pos.line X.env=pure false) :
 PS X (.Assign [.Subscript o i pos'] value pos) (JlS td ty tv):=by
 intro pins s σ H D I h;refine wpAny_Assign_Subscript (thn (hv pins s σ H _ I h) fun r s1 ⟨v,H1,I1,rv,q1⟩=>thn (ho pins s1 σ H1 _ I1 q1) fun u s2 ⟨x,H2,I2,rx,q2⟩=>thn (hi pins s2 σ H2 _ I2 q2) fun iv s3 ⟨y,H3,I3,ry,a,H4,ex,g,q3⟩=>?_) hs;subst ex;obtain rfl:u=Value.ref a:=rx;exact Jgd hu I3 g ry rv fun s4 I4=>⟨σ,H4,I4,q3⟩
end

theorem Jhn{P:Qy}{w:QH}{H:Hp}(h:QP)(hb:sysModules<h.objs.size):ObjOk P w H (h.push { cls:=.type "dict",data:=.dict #[] }) h.objs.size (.dK []) :=
 ⟨GZ _,beq_eq_false_iff_ne.mpr (Q2 (QK hb)),[],.nil,Heap.DictOf.new h⟩
noncomputable def JiT:TE:=fun _ H Q=>∀p,H p=none->Q (.ref p) (upd H p (.dK []))
section
variable{X:Cx}{pos:Pos}
theorem JcS:PE X (.Dict [] [] pos) JiT:=fun pins s σ H Q I h=>wpAny_Dict_empty ⟨.ref s.heap.objs.size,_,I.laid (a:=s.heap.objs.size) (o:=.dK []) (t':=s.toks) (fun _ _ q=>Qi _ q) (Qx _) (Jhn s.heap I.big),rfl,h _ (I.hok.fresh (Qx _))⟩
end

structure M1 (X:Cx) (o:Q6) (m:Str) (apos:Pos) (e:Q6) (cpos:Pos):Prop where
 base:attributeBase o m X.env (eval o X.env)=eval o X.env
 few:((backTo cpos (starEach [e] X.env)).all (fun x=>!x.1) && (backToKw cpos (keywordEach [] X.env)).all (fun x=>x.1.isSome)
  && decide (([e]:List Q6).length+([]:List Mp).length+(if ([]:List Mp).isEmpty then 0 else 1)<30))=true
 line:(apos.endLine == cpos.line)=true
 trees:backTo cpos (starEach [e] X.env)=[(false,eval e X.env)]
structure M2 (X:Cx) (o:Q6) (m:Str) (apos:Pos) (e f:Q6) (cpos:Pos):Prop where
 base:attributeBase o m X.env (eval o X.env)=eval o X.env
 few:((backTo cpos (starEach [e,f] X.env)).all (fun x=>!x.1) && (backToKw cpos (keywordEach [] X.env)).all (fun x=>x.1.isSome)
  && decide (([e,f]:List Q6).length+([]:List Mp).length+(if ([]:List Mp).isEmpty then 0 else 1)<30))=true
 line:(apos.endLine == cpos.line)=true
 trees:backTo cpos (starEach [e,f] X.env)=[(false,eval e X.env),(false,eval f X.env)]

noncomputable def IsD(H:Hp)(a:Qg):Prop:=(∃kvs,Rd H a (.dK kvs))\/∃kvs,Rd H a (.dT kvs)
theorem JdI{X:Cx}{pins:List (Qg×Obj)}{σ:St}{H:Hp}{s:Qh}{a:Qg}(I:Inv X pins σ H s)(d:IsD H a) :
 s.TypeIs (.ref a) "dict"/\(∀b,Value.ref a=.ref b->∃ob,s.heap.get? b=some ob/\ob.dict=none)/\(a == sysModules)=false:=by
 rcases d with ⟨kvs,e⟩|⟨kvs,e⟩
 ·obtain⟨_,hd,vs,_,dd⟩:=Jho I.hok e;refine⟨dd.typeIs,fun b q=>?_,hd⟩;cases q;obtain⟨ob,_,_,h1,h2,_⟩:=dd;exact⟨ob,h1,h2.2.1⟩
 ·obtain⟨_,hd,xs,_,dd⟩:=Jhp I.hok e;refine⟨dd.typeIs,fun b q=>?_,hd⟩;cases q;obtain⟨ob,_,_,h1,h2,_⟩:=dd;exact⟨ob,h1,h2.2.1⟩

section
variable{X:Cx}{pins:List (Qg×Obj)}{σ:St}{H:Hp}{s:Qh}{a:Qg}{y d:V}{u r:Qe}{o:Option V}{A:QF}{E:Qe->Qh->Prop}
theorem Jmj{Q:Qe->Qh->Prop}(hu:A.units+1<cLine)(I:Inv X pins σ H s)(g:DGet H a y o)(ry:RelV y u)(rd:RelV d r)(h:∀w' s',Inv X pins σ H s'->RelV (o.getD d) w'->Q w' s') :
 wpAny (model X.prog X.w) A (call (.builtin "dict.get") [.ref a,u,r]) Q E s:=by
 rcases g with ⟨kvs,k,e,ey,l⟩|⟨kvs,k,b,e,ey,eb,l⟩
 ·subst ey;obtain⟨z,hd,vs,rel,dd⟩:=Jho I.hok e;refine call_meetsIn LL dd.typeIs MP (MF _ _ _) (meets_dict_get_default (Jz X.prog X.w) a (JhV ry) hd r) ⟨_,dd.mapOf,h _ _ (I.tok _) ?_⟩;rw[l];exact(rel.val k).getD rd
 ·subst ey;cases (show u=Value.ref b from ry);obtain⟨z,hd,xs,rel,dd⟩:=Jhp I.hok e;refine call_meetsIn LL dd.typeIs MP (MF _ _ _) (meetsH_dict_get_default (tupleKind (Jz X.prog X.w)) a b hd r) ⟨tupleKind_room_in1 hu,k,xs,JdL I.hok eb,dd,h _ _ (I.tok _) ?_⟩;rw[l];exact(rel.val k).getD rd
end

noncomputable def JiS(td ty tx:TE):TE:=fun σ H Q=>td σ H fun x H1=>∃a,x=.ref a/\IsD H1 a/\ty σ H1 fun y H2=>tx σ H2 fun z H3=>∃o,DGet H3 a y o/\Q (o.getD z) H3
section
variable{X:Cx}{o e f:Q6}{apos cpos:Pos}{td ty tx:TE}
theorem JcR(hu:X.A.units+1<cLine)(ho:PE X o td)(he:PE X e ty)(hf:PE X f tx)(m:M2 X o "get" apos e f cpos):PE X (.Call (.Attribute o "get" apos) [e,f] [] cpos) (JiS td ty tx):=by
 intro pins s σ H Q I h;refine wpAny_Call_method m.base m.few m.line LC LL PySem.F.type_dict_get (thn (ho pins s σ H _ I h) fun u s1 ⟨x,H1,I1,rx,a,ex,d,q1⟩=>?_);subst ex;obtain rfl:u=Value.ref a:=rx;obtain⟨t1,t2,_⟩:=JdI I1 d;refine⟨t1,t2,?_⟩;rw[m.trees];refine Kn rfl (M9 (Mf (thn (he pins s1 σ H1 _ I1 q1) fun iv s2 ⟨y,H2,I2,ry,q2⟩=>Mf (thn (hf pins s2 σ H2 _ I2 q2) fun fv s3 ⟨z,H3,I3,rz,ov,g,q3⟩=>Calls.spliced_nil ?_))))
 exact Jmj hu I3 g ry rz fun w' s4 I4 rw'=>⟨_,H3,I4,rw',q3⟩
end

section
variable{X:Cx}{pins:List (Qg×Obj)}{σ:St}{H:Hp}{s:Qh}{a:Qg}{kvs:List (Key×V)}{A:QF}{E:Qe->Qh->Prop}
end

section
variable{X:Cx}{pins:List (Qg×Obj)}{σ:St}{H:Hp}{s:Qh}{a:Qg}{y:V}{u:Qe}{A:QF}{E:Qe->Qh->Prop}
end
end L2
namespace L2
open PySem PySem.Spec PyProof.Rows

noncomputable def Jjd(X:Cx)(ifs:List Q6)(t:TT):Prop :=
 ∀(pins:List (Qg×Obj)) (s:Qh) (σ:St) (H:Hp) (Q:Bool->Hp->Prop),Inv X pins σ H s->t σ H Q ->
  wpAny (model X.prog X.w) X.A (forIn ifs true fun c r=>if r=true then do let ok <- isTrue c X.env (eval c X.env);pure (ForInStep.yield ok) else pure (ForInStep.yield r)) (TP X pins σ Q) X.xe s
noncomputable def JoD:TT:=fun _ H Q=>Q true H
theorem Yk{X:Cx}:Jjd X [] JoD:=fun _ _ _ H _ I h=>wpAny_tests_nil ⟨H,I,h⟩
theorem JcV{X:Cx}{c:Q6}{t:TT}(h:PT X c t):Jjd X [c] t:=fun pins s σ H Q I q=>wpAny_tests_one (h pins s σ H Q I q)

noncomputable def blk(X:Cx)(sc:Ln)(cl:List (Str×Qg))(N':List Str)(C:Qg)(s:Qh)(H:Hp)(fp:List Qg):Cx where
 prog:=X.prog
 w:=X.w
 K:=X.K
 mg:=X.mg
 base:=X.base
 A:=X.A
 N:=N'
 s₀:=s
 H₀:=H
 env:=compEnvC sc cl C X.env
 outer:=X.stack
 stack:=X.stack
 ex:=fp
 fn:=fun _=>false
 calm:=X.calm
 pn:=[]
 xe:=fun _ _=>False

noncomputable def W2(imp:List (Option Nat))(σ:St):St:=imp.map fun o=>match o with
 | none=>none
 | some k=>(σ[k]?).join

structure Blk (X:Cx) (sc:Ln) (cl:List (Str×Qg)) (N':List Str) (imp:List (Option Nat)):Prop where
 clos:closureFor sc X.env=pure cl
 kind:sc.kind=.function
 nocell:∀y∈sc.names,y.2≠.cell
 names:∀y∈sc.names,y.2=.local->sc.names.lookup y.1=some .local
 sub:∀p∈cl,X.env.cells.lookup p.1=some p.2
 has:∀y∈(relabel sc X.env).names,(y.2=.cell\/y.2=.free)->(cl.lookup y.1).isSome=true
 len:imp.length=N'.length
 im:∀p∈imp.zip N',∀k,p.1=some k->X.N[k]?=some p.2/\(X.env.scope.names.lookup p.2=some .cell\/X.env.scope.names.lookup p.2=some .free)/\((relabel sc X.env).names.lookup p.2=some .cell\/(relabel sc X.env).names.lookup p.2=some .free)

noncomputable def JiR(wi:TI)(g:TG)(tt:TT)(te:TE)(imp:List (Option Nat)):TE:=fun σ H Q=>wi σ H fun J H1=>∃W:Nat->Nat->List V->St->Hp->Prop,(∃m,W 0 m [] (W2 imp σ) H1)/\∀i m ys σ' H',W i m ys σ' H' ->
 (J.stop i H'/\ys.length<=Qt/\∀D,H' D=none->Q (.ref D) (upd H' D (.lst ys))) ∨
 (J.go i H'/\ys.length<Qt/\∃N:List V->St->Hp->Prop,(∀ys' σ2 H2,N ys' σ2 H2->∃m',m'<m/\W (i+1) m' ys' σ2 H2) ∧
  ∀x H2,J.yld i H' x H2->g x σ' H2 fun σ2 H3=>tt σ2 H3 fun b H4=>if b=true then te σ2 H4 fun y H5=>N (ys++[y]) σ2 H5 else N ys σ2 H4)

section
variable{P:Qy}{w:QH}{H:Hp}{h h':QP}
theorem HOk.sameBut{C:Qg}(x:HOk P w H h)(hC:H C=none)(k:∀b o,b≠C->h.get? b=some o->h'.get? b=some o):HOk P w H h':=fun a o e =>
 (x a o e).stay (fun b u hb q=>k b u (by
  rintro rfl;rcases hb with z|z
  ·rw[<- z,hC] at e;cases e
  ·rw[hC] at z;cases z) q) (fun _ q=>q) fun _ _ q=>q
theorem HOk.track{D:Qg}{o:HO}(x:HOk P w H h)(hD:H D=none)(new:ObjOk P w (upd H D o) h D o):HOk P w (upd H D o) h:=fun b u e=>by
 by_cases hb:b=D
 ·subst hb;rw[Jm] at e;cases e;exact new
 ·rw[Jf hb] at e;exact(x b u e).stay (fun c v _ q=>q) (fun c q=>by rw[Jf (Jo q hD)];exact q) fun c xs q=>by rw[Jf (Jo q hD)];exact q
end

theorem Uu{α:Type}{x:Str}{c:α}:∀{l:List (Str×α)},l.lookup x=some c->(x,c)∈l:=fun h=>Kk h

section
variable{X:Cx}{tg iter elt:Q6}{ifs:List Q6}{sc:Ln}{cl:List (Str×Qg)}{N':List Str}{imp:List (Option Nat)}{pos:Pos}{wi:TI}{g:TG}{tt:TT}{te:TE}

theorem Blk.subL(B:Blk X sc cl N' imp):∀x c,cl.lookup x=some c->X.env.cells.lookup x=some c:=fun x c e=>B.sub (x,c) (Uu e)

theorem Jjm{pins:List (Qg×Obj)}{σ:St}{H:Hp}{s:Qh}{fp:List Qg}{h₁:QP}{C:Qg}(B:Blk X sc cl N' imp)(I:Inv X pins σ H s)(hf:∀b∈fp,FpOk X pins H b)(hfo:∀b∈fp,∃o,s.heap.get? b=some o)
 (hC:s.heap.objs.size<C) (old:∀b o,s.heap.get? b=some o->h₁.get? b=some o) (ns:h₁.Ns C fun _=>none) :
 Inv (blk X sc cl N' C s H fp) [] (W2 imp σ) H { s with heap:=h₁,toks:=s.toks }:=by
 have hlt:∀b∈fp,b<s.heap.objs.size:=fun b hb=>let ⟨_,e⟩:=hfo b hb;Qq e
 have clt:∀x c,X.env.cells.lookup x=some c->c<s.heap.objs.size:=fun x c e=>let ⟨_,q⟩:=I.cell x c e;q.lt
 have ok:(blk X sc cl N' C s H fp).Ok:={
  mod:=I.ok.mod
  kind:=B.kind
  glob:=I.ok.glob
  blt:=I.ok.blt
  above:=G9 hC
  inj:=fun x y c h1 h2=>I.ok.inj x y c (B.subL x c h1) (B.subL y c h2)
  has:=fun x hx=>by
   have hx':(relabel sc X.env).names.lookup x=some .cell\/(relabel sc X.env).names.lookup x=some .free:=hx
   have:(cl.lookup x).isSome=true:=by
    rcases hx' with z|z
    ·exact B.has (x,.cell) (Uu z) (.inl rfl)
    ·exact B.has (x,.free) (Uu z) (.inr rfl)
   exact Mv.mp this
  cab:=fun x c z=>nomatch z
  hd:=I.ok.hd
  frames:=I.ok.frames
  stk:=.inl rfl
  exf:=fun b hb=>⟨QK (MO (hlt b hb) hC),fun x c e=>(hf b hb).2.2.2.2.1 x c (B.subL x c e)⟩
  bs:=I.bs
  bsz:=Q5 I.ok.bsz I.sz
  noex:=fun b o e hb=>by
   rcases(hf b hb).2.2.2.1 with z|z
   ·exact I.ok.noex b o e z
   ·exact absurd (QT (Qq e) (Q5 I.ok.bsz z)) (GD _)
  exfs:=fun b hb z=>by
   rcases Qj.mp (I.stkSub b z) with q|q
   ·exact(hf b hb).2.1 q
   ·exact(hf b hb).2.2.1 q
  funs:=I.stack
  frf:=I.stkFree }
 refine⟨ok,rfl,I.bare,Un.kept old,⟨_,ns,fun i x v h1 h2 h3=>?_⟩,fun x c e=>?_,I.hok.fresh (G9 hC),fun x c e=>I.freeC x c (B.subL x c e),fun p hp=>absurd (show p∈([]:List (Qg×Obj)) from hp) (by simp),I.hok.kept old,?_⟩
 ·have h1':N'[i]?=some x:=h1
  have h2':(imp.map fun o=>match o with|none=>none|some k=>(σ[k]?).join)[i]?=some (some v):=h2;rw[Qm] at h2'
  cases e:imp[i]? with
  | none=>rw[e] at h2';cases h2'
  | some q =>
   rw[e] at h2'
   cases q with
   | none=>cases h2'
   | some k =>
    have h2'':(σ[k]?).join=some v:=Q0 h2'
    have hk:σ[k]?=some (some v):=by
     cases e':σ[k]? with
     | none=>rw[e'] at h2'';cases h2''
     | some z=>rw[e'] at h2'';cases z with
      | none=>cases h2''
      | some z=>cases h2'';rfl
    have hm:(some k,x)∈imp.zip N':=by refine QX (i:=i) ?_;rw[List.getElem?_zip_eq_some];exact⟨e,h1'⟩
    obtain⟨b1,b2,b3⟩:=B.im _ hm k rfl;obtain⟨m,hn,hl⟩:=I.loc;obtain⟨u,r,l⟩:=hl k x v b1 hk (b2.elim (fun z=>.inr (.inl z)) fun z=>.inr (.inr z));refine⟨u,r,.inr ⟨b3,?_⟩⟩
    have hc:∃c,X.env.cells.lookup x=some c/\s.heap.IsCell c (some u):=by
     rcases l with ⟨z,_⟩|⟨_,z⟩
     ·have z':X.env.scope.names.lookup x=some .local:=z;rcases b2 with y|y <;> rw[y] at z' <;> cases z'
     ·exact z
    obtain⟨c,hc,oc,ho,hd⟩:=hc;obtain⟨c',hc'⟩:=ok.has x b3;have e2:=B.subL x c' hc';rw[hc] at e2;cases e2;exact⟨c,hc',oc,old c oc ho,hd⟩
 ·obtain⟨v,o,ho,hd⟩:=I.cell x c (B.subL x c e);exact⟨v,o,old c o ho,hd⟩
 ·show(imp.map _).length=N'.length;rw[Qv];exact B.len

theorem Jjl{pins pn:List (Qg×Obj)}{σ σ':St}{H2 H':Hp}{s2 s4:Qh}{fp:List Qg}{C D:Qg}{Cs:Qg}{ys:List V}{its:List Qe}{k:Nat}{h':QP}(I2:Inv X pins σ H2 s2)(f2:∀b∈fp,FpOk X pins H2 b)
 (I5:Inv (blk X sc cl N' C s2 H2 fp) pn σ' H' s4) (hC:s2.heap.objs.size<C) (hD:H' D=none) (hDs:s2.heap.objs.size<=D) (hDC:D≠C) (eD:s4.heap.get? D=some { cls:=.type "list",data:=.seq its.toArray k })
 (rv:Vals ys its) (hz:ys.length<=Qt) (hsb:QR C s4.heap h'):Inv X pins σ (upd H' D (.lst ys)) { s4 with heap:=h' }:=by
 have U:Un (frs X.stack) fp H2 H' s2.heap s4.heap:=I5.base
 have kk:∀b o,b≠C->s4.heap.get? b=some o->h'.get? b=some o:=hsb.extBut
 have hC':H' C=none:=I5.free
 have ok1:HOk X.prog X.w H' h':=HOk.sameBut (C:=C) I5.hok hC' kk
 have ok2:HOk X.prog X.w (upd H' D (.lst ys)) h':=ok1.track hD ⟨hz,its,k,rv,kk _ _ hDC eD⟩
 have lt:∀b o,s2.heap.get? b=some o->b≠C/\b≠D:=fun b o e=>⟨QK (MO (Qq e) hC),QK (QT (Qq e) hDs)⟩
 refine I2.call' (s':={ s4 with heap:=h' }) (ch:=fp) I5.os ⟨fun b o e n hb hx=>kk b o (lt b o e).1 (U.keep b o e n hb hx),fun b o e n hb hx=>?_,fun b o e n hx=>?_,fun b o e hx=>?_,fun b xs e=>?_,fun b o u e=>?_,fun b ps l c z e=>?_⟩ ok2 I5.bare
  fun b hb=>⟨(f2 b hb).2.2.2.1,(f2 b hb).2.1,(f2 b hb).2.2.2.2.1,(f2 b hb).2.2.2.2.2⟩
 ·obtain⟨sl,q⟩:=U.slot b o e n hb hx;exact⟨sl,kk b _ (lt b o e).1 q⟩
 ·rw[Jf (lt b o e).2];exact U.free b o e n hx
 ·obtain⟨o',q⟩:=U.there b o e hx;exact⟨o',kk b o' (lt b o e).1 q⟩
 ·have q:=U.tups b xs e;rw[Jf (Jo q hD)];exact q
 ·have q:=U.frzs b o u e;rw[Jf (Jo q hD)];exact q
 ·have q:=U.tbls b ps l c z e;rw[Jf (Jo q hD)];exact q

noncomputable def JoT(g:TG)(tt:TT)(te:TE)(imp:List (Option Nat))(σ:St)(Q:VK)(J:It)(H1:Hp):Prop:=∃W:Nat->Nat->List V->St->Hp->Prop,(∃m,W 0 m [] (W2 imp σ) H1)/\∀i m ys σ' H',W i m ys σ' H' ->
 (J.stop i H'/\ys.length<=Qt/\∀D,H' D=none->Q (.ref D) (upd H' D (.lst ys))) ∨
 (J.go i H'/\ys.length<Qt/\∃N:List V->St->Hp->Prop,(∀ys' σ2 H2,N ys' σ2 H2->∃m',m'<m/\W (i+1) m' ys' σ2 H2) ∧
  ∀x H2,J.yld i H' x H2->g x σ' H2 fun σ2 H3=>tt σ2 H3 fun b H4=>if b=true then te σ2 H4 fun y H5=>N (ys++[y]) σ2 H5 else N ys σ2 H4)
theorem Jgc{pins:List (Qg×Obj)}{σ:St}{Q:VK}{itv:Qe}{s2:Qh}{RR:Qe->Qg->M7->Qh->Prop}{E:Qe->Qh->Prop}(hc:X.calm=true)(B:Blk X sc cl N' imp)
 (hg:∀C s H fp,PG (blk X sc cl N' C s H fp) tg g) (ht:∀C s H fp,Jjd (blk X sc cl N' C s H fp) ifs tt) (he:∀C s H fp,PE (blk X sc cl N' C s H fp) elt te)
 (h2:PIE X pins σ tg (JoT g tt te imp σ Q) itv s2)
 (fin:∀(C D:Qg) (s4:Qh) (H':Hp) (ys:List V) (m:Str->Option Qe),s2.heap.objs.size<C->s4.heap.Ns C m->H' C=none->(∀h',QR C s4.heap h'->Inv X pins σ H' { s4 with heap:=h' })->Q (.ref D) H'->RR (.ref D) C (.ok .next) s4) :
 wpAny (model X.prog X.w) X.A (newList []) (fun acc s₃=>wpAny (model X.prog X.w) X.A (newFunctionEnv sc X.env.globals cl [] X.env.qual none .none (some X.env)) (fun cenv s₄=>codeAny (model X.prog X.w) X.A (.compStart (.ListComp elt [⟨tg,iter,ifs,0⟩] sc pos) 0 itv acc { cenv with scope:=relabel sc X.env }) (RR acc cenv.locals) s₄) E s₃) E s2:=by
 obtain⟨it,fp,tn,J,H2,e,I2,T,st2,f2,W,⟨m0,w0⟩,turn⟩:=h2;subst e;refine Gw (wpAny_newFunctionEnv B.nocell (by intro y hy;simp at hy) (fun h₁ hns₁ hsb₁=>?_) B.kind);dsimp only at hns₁ hsb₁ ⊢
 generalize hG:s2.heap.push { cls:=.type "list",dict:=none,data:=.seq ([]:List Qe).toArray }=G at hns₁ hsb₁ ⊢
 have hCs:G.objs.size=s2.heap.objs.size+1:=by rw[<- hG,GO]
 have hC:s2.heap.objs.size<G.objs.size:=by rw[hCs];exact KN _
 have YC:∀b,b<s2.heap.objs.size->b≠G.objs.size:=fun b hb=>QK (MO hb hC)
 have old:∀b o,s2.heap.get? b=some o->h₁.get? b=some o:=fun b o e=>hsb₁.extBut b o (YC b (Qq e)) (Qi _ (hG▸Qi _ e))
 have hD1:h₁.get? s2.heap.objs.size=some { cls:=.type "list",data:=.seq ([]:List Qe).toArray }:=hsb₁.extBut _ _ (QK hC) (Qi _ (hG▸Qn _ rfl))
 have fpo:∀b∈fp,∃o,s2.heap.get? b=some o:=fun b hb=>let ⟨o,e,_⟩:=T.obj 0 _ st2 b hb;⟨o,e⟩
 have I4:=Jjm B I2 f2 fpo hC old (show h₁.Ns G.objs.size fun _=>none from hns₁)
 -- the records of the block: the list that grows,the iterator's
 have stD:∀{H':Hp} {pn:List (Qg×Obj)},(∀b∈s2.heap.objs.size::fp,H' b=none)->(∀p∈pn,p.1∉s2.heap.objs.size::fp)->∀b∈s2.heap.objs.size::fp,FpOk (blk X sc cl N' G.objs.size s2 H2 fp) pn H' b:=fun {H' pn} hn hp b hb=>by
  have hp':∀p∈([]++pn:List (Qg×Obj)),p.1≠b:=fun p z q=>hp p (by simpa using z) (q▸hb)
  rcases Qj.mp hb with z|z
  ·subst z;refine⟨hn _ hb,QK hC,fun q=>?_,.inr (Qx _),fun x c e q=>?_,hp'⟩
   ·rcases Qj.mp (I2.stkSub _ q) with q|q
    ·exact absurd I2.lt (by rw[<- q];exact GD _)
    ·exact I2.nofs (Qx _) q
   ·obtain⟨v,qc⟩:=I2.cell x c (B.subL x c e);exact absurd qc.lt (by rw[q];exact GD _)
  ·refine⟨hn _ hb,YC b (let ⟨_,e⟩:=fpo b z;Qq e),fun q=>?_,.inl z,fun x c e=>(f2 b z).2.2.2.2.1 x c (B.subL x c e),hp'⟩;rcases Qj.mp (I2.stkSub b q) with q|q
   ·exact(f2 b z).2.1 q
   ·exact(f2 b z).2.2.1 q
 have nDf:s2.heap.objs.size∉fp:=fun z=>let ⟨_,e⟩:=fpo _ z;absurd (Qq e) (GD _)
 have loop:codeAny (model X.prog X.w) X.A (.compLoop (.ListComp elt [⟨tg,iter,ifs,0⟩] sc pos) 0 (.ref it) (.ref s2.heap.objs.size) (compEnvC sc cl G.objs.size X.env))
  (RR (.ref s2.heap.objs.size) G.objs.size) { s2 with heap:=h₁,toks:=s2.toks }:=by
  refine codeAny_loop rfl (fun n s'=>∃i ys its k σ' H',Inv (blk X sc cl N' G.objs.size s2 H2 fp) [] σ' H' s'/\tn i s'.heap/\(∀b∈s2.heap.objs.size::fp,H' b=none)/\Vals ys its/\s'.heap.get? s2.heap.objs.size=some { cls:=.type "list",data:=.seq its.toArray k }/\W i n ys σ' H') ?_ m0
   ⟨0,[],[],0,_,H2,I4,T.keep _ _ _ st2 (fun b _ o e=>old b o e),fun b hb=>?_,.nil,hD1,w0⟩
  ·rintro n s3 ⟨i,ys,its,k,σ3,H3,I3,st3,fr3,rv3,hD3,w3⟩;have fr3':∀b∈fp,FpOk (blk X sc cl N' G.objs.size s2 H2 fp) [] H3 b:=fun b hb=>stD (pn:=[]) fr3 (fun p z=>nomatch z) b (Qc _ hb)
   show wpAny _ X.A ((compTurn (.ListComp elt [⟨tg,iter,ifs,0⟩] sc pos) 0 (.ref it) (.ref s2.heap.objs.size) (compEnvC sc cl G.objs.size X.env)).onRaise (fun x=>do noteFrame x (compEnvC sc cl G.objs.size X.env);theTreesLotGoes x)) _ _ s3;refine wpAny_noted (wpAny_noRaise ?_);rw[compTurn_list];refine Qa (wpAny_standAt (Qa ?_))
   have fD:=stD (pn:=[]) fr3 (fun p z=>nomatch z) s2.heap.objs.size Qf
   have hDH:H3 s2.heap.objs.size=none:=fr3 _ Qf
   have I3p:Inv (blk X sc cl N' G.objs.size s2 H2 fp) [(s2.heap.objs.size,{ cls:=.type "list",data:=.seq its.toArray k })] σ3 H3 s3:=I3.pins_of fun p hp=>by
    have e:p=(s2.heap.objs.size,{ cls:=.type "list",data:=.seq its.toArray k }):=by simpa using hp
    subst e;exact⟨hD3,hDH,fD.2.1,fD.2.2.1,fun v z=>by cases z⟩
   have pfp:∀p∈[(s2.heap.objs.size,({ cls:=.type "list",data:=.seq its.toArray k }:Obj))],p.1∉fp:=fun p hp=>by
    have e:p=(s2.heap.objs.size,{ cls:=.type "list",data:=.seq its.toArray k }):=by simpa using hp
    subst e;exact nDf
   have fpP:∀{H':Hp},(∀b∈fp,H' b=none)->∀b∈fp,FpOk (blk X sc cl N' G.objs.size s2 H2 fp) [(s2.heap.objs.size,({ cls:=.type "list",data:=.seq its.toArray k }:Obj))] H' b:=fun {H'} hn b hb =>
    have f:=stD (pn:=[]) fr3 (fun p z=>nomatch z) b (Qc _ hb)
    ⟨hn b hb,f.2.1,f.2.2.1,f.2.2.2.1,f.2.2.2.2.1,fun p hp q=>pfp p ((GB.mp hp).elim (fun z=>nomatch (show p∈([]:List (Qg×Obj)) from z)) id) (q▸hb)⟩
   rcases turn i n ys σ3 H3 w3 with ⟨stop,hz,q⟩|⟨go,hz,N,hN,step⟩
   ·refine thn (T.done (blk X sc cl N' G.objs.size s2 H2 fp) rfl rfl rfl hc i _ s3 σ3 H3 _ I3p (fpP fun b hb=>fr3 b (Qc _ hb)) st3 stop) fun r s4 ⟨hr,I5⟩=>?_
    subst hr;refine Qp ?_;obtain⟨m,hn,_⟩:=I5.loc;have eD:=(I5.pin (s2.heap.objs.size,{ cls:=.type "list",data:=.seq its.toArray k }) (by simp)).1;have hCf:H3 G.objs.size=none:=I5.free;exact fin G.objs.size s2.heap.objs.size s4 _ ys m hC hn (by rw[Jf (Lf hC)];exact hCf) (fun h' hsb=>Jjl (Cs:=0) I2 f2 I5 hC hDH (Qx _) (QK hC) eD rv3 hz hsb) (q _ hDH)
   ·refine thn (T.item (blk X sc cl N' G.objs.size s2 H2 fp) rfl rfl rfl hc i _ s3 σ3 H3 _ I3p (fpP fun b hb=>fr3 b (Qc _ hb)) st3 go) fun r s4 ⟨u,hr,h4⟩=>?_
    subst hr;refine Qa (thn h4 fun _ s5 ⟨x,H5,I5,r5,y5,st5,fr5⟩=>?_);have I5':=I5.pinned (fpP fr5) (T.obj _ _ st5);refine Qa (thn (hg G.objs.size s2 H2 fp _ s5 σ3 H5 x u _ I5' r5 (step x H5 y5)) fun _ s6 ⟨σ6,H6,I6,q6⟩=>?_);refine Qa (thn (ht G.objs.size s2 H2 fp _ s6 σ6 H6 _ I6 q6) fun ok s7 ⟨H7,I7,q7⟩=>?_)
    -- what stays of the records
    have recs:∀{σ':St} {H':Hp} {s':Qh},Inv (blk X sc cl N' G.objs.size s2 H2 fp) ([(s2.heap.objs.size,({ cls:=.type "list",data:=.seq its.toArray k }:Obj))]++Zp fp s5.heap) σ' H' s' ->
     tn (i+1) s'.heap/\(∀b∈s2.heap.objs.size::fp,H' b=none)/\s'.heap.get? s2.heap.objs.size=some { cls:=.type "list",data:=.seq its.toArray k }:=fun {σ' H' s'} I'=>by
     have pd:=I'.pin (s2.heap.objs.size,{ cls:=.type "list",data:=.seq its.toArray k }) (by simp)
     have pf:∀b∈fp,∀o,s5.heap.get? b=some o->s'.heap.get? b=some o/\H' b=none:=fun b hb o e=>by have z:=I'.pin (b,o) (GA _ (GA _ (Vc hb e)));exact⟨z.1,z.2.1⟩
     refine⟨T.keep _ _ _ st5 fun b hb o e=>(pf b hb o e).1,fun b hb=>?_,pd.1⟩;rcases Qj.mp hb with z|z
     ·subst z;exact pd.2.1
     ·obtain⟨o,e,d⟩:=T.obj _ _ st5 b z;exact(pf b z o e).2
    cases ok with
    | false=>obtain⟨m',hm,w7⟩:=hN _ _ _ (show N ys σ6 H7 from by simpa using q7);obtain⟨r1,r2,r3⟩:=recs I7;exact Qp ⟨rfl,m',hm,i+1,ys,its,k,σ6,H7,I7.pins_of (fun p hp=>nomatch hp),r1,r2,rv3,r3,w7⟩
    | true =>
     have q7':te σ6 H7 fun y H5=>N (ys++[y]) σ6 H5:=by simpa using q7
     refine Qa (Qa (thn (he G.objs.size s2 H2 fp _ s7 σ6 H7 _ I7 q7') fun y s8 ⟨y8,H8,I8,ry,q8⟩=>Qa ?_));obtain⟨r1,r2,r3⟩:=recs I8;have hl:=rv3.length;refine wpAny_list_append_plain (hsz:=by rw[Qr];omega) ⟨k,r3⟩ fun h9 ⟨k9,hl9⟩ hs9=>Qp (Qp ?_)
     have hD8:H8 s2.heap.objs.size=none:=r2 _ Qf
     have f8:=stD (pn:=[]) r2 (fun p z=>nomatch z) s2.heap.objs.size Qf
     have I8':Inv (blk X sc cl N' G.objs.size s2 H2 fp) [] σ6 H8 s8:=I8.pins_of (fun p hp=>nomatch hp)
     have I9:Inv (blk X sc cl N' G.objs.size s2 H2 fp) [] σ6 H8 { s8 with heap:=h9 }:=I8'.turned (t':=s8.toks) (it:=s2.heap.objs.size) (fun b o hb e=>hs9.extBut b o hb e) hD8 f8.2.1 f8.2.2.2.1 f8.2.2.2.2.1 f8.2.2.2.2.2;obtain⟨m',hm,w8⟩:=hN _ _ _ q8;refine⟨rfl,m',hm,i+1,ys++[y8],its++[y],k9,σ6,H8,I9,?_,r2,rv3.append (.cons ry .nil),?_,w8⟩
     ·exact T.keep _ _ _ r1 fun b hb o e=>hs9.extBut b o (fun z=>nDf (z▸hb)) e
     ·rw[hl9];simp
  ·rcases Qj.mp hb with z|z
   ·subst z;exact I2.hok.fresh (Qx _)
   ·exact(f2 b z).1
 exact codeAny_compStart_list loop (T.self _ 0 _ _ _ (T.keep _ _ _ st2 fun b _ o e=>old b o e) loop)

theorem Yn(hc:X.calm=true)(hi:PI X tg iter wi)(B:Blk X sc cl N' imp)
 (hg:∀C s H fp,PG (blk X sc cl N' C s H fp) tg g) (ht:∀C s H fp,Jjd (blk X sc cl N' C s H fp) ifs tt) (he:∀C s H fp,PE (blk X sc cl N' C s H fp) elt te)
 (hs:∀x,foldedSetIterable iter X.env x=pure x:=by intro _;rfl):PE X (.ListComp elt [⟨tg,iter,ifs,0⟩] sc pos) (JiR wi g tt te imp):=by
 intro pins s σ H Q I h;rw[eval_ListComp];refine wpAny_comprehension_free (use:=none) rfl hs B.clos B.kind B.names (thn (hi pins s σ H _ I h) fun v s1 h1=>thn h1 fun itv s2 h2=>?_);refine Jgc (RR:=fun acc C=>compPost (model X.prog X.w) X.A X.xe none (EP X pins σ Q) acc C) hc B hg ht he h2 fun C D s4 H' ys m hC hn hCf hI q=>?_
 exact⟨m,hn,fun h' hsb=>⟨.ref D,H',hI h' hsb,rfl,q⟩⟩
end
end L2

namespace L2
open PySem PySem.Spec PyProof.Rows

inductive Rep (K:Qz) (H:Hp):V->PyData->Prop
 | non:Rep K H .non .none
 | bl (b:Bool):Rep K H (.bl b) (.bool b)
 | int (i:Int):Rep K H (.int i) (.int i)
 | str (x:Str):Rep K H (.str x) (.str x)
 | tup {a:Qg} {xs:List V} {ds:List PyData}:SqT K H a xs->xs.length=ds.length->(∀(i:Nat) (x:V) (d:PyData),xs[i]?=some x->ds[i]?=some d->Rep K H x d)->Rep K H (.ref a) (.tuple ds)
 | lst {a:Qg} {xs:List V} {ds:List PyData}:SqL K H a xs->xs.length=ds.length->(∀(i:Nat) (x:V) (d:PyData),xs[i]?=some x->ds[i]?=some d->Rep K H x d)->Rep K H (.ref a) (.list ds)

noncomputable def RepL(K:Qz)(H:Hp)(xs:List V)(ds:List PyData):Prop :=
 xs.length=ds.length/\∀(i:Nat) (x:V) (d:PyData),xs[i]?=some x->ds[i]?=some d->Rep K H x d

section
variable{K:Qz}{H H':Hp}
theorem RepL.nil:RepL K H [] []:=⟨rfl,fun i x d e=>by simp at e⟩
theorem RepL.cons{x:V}{d:PyData}{xs:List V}{ds:List PyData}(h:Rep K H x d)(r:RepL K H xs ds):RepL K H (x::xs) (d::ds):=by
 refine⟨by simp[r.1],fun i y e h1 h2=>?_⟩
 cases i with
 | zero=>simp at h1 h2;subst h1 h2;exact h
 | succ i=>exact r.2 i y e (by simpa using h1) (by simpa using h2)
theorem RepL.append{xs ys:List V}{ds es:List PyData}(r:RepL K H xs ds)(q:RepL K H ys es):RepL K H (xs++ys) (ds++es):=by
 refine⟨by simp[r.1,q.1],fun i x d h1 h2=>?_⟩
 by_cases hi:i<xs.length
 ·rw[QW hi] at h1;rw[QW (by rw[<- r.1];exact hi)] at h2;exact r.2 i x d h1 h2
 ·rw[QU (by omega)] at h1;rw[QU (by rw[<- r.1];omega)] at h2;rw[<- r.1] at h2;exact q.2 _ x d h1 h2
theorem RepL.snoc{xs:List V}{ds:List PyData}{x:V}{d:PyData}(r:RepL K H xs ds)(h:Rep K H x d):RepL K H (xs++[x]) (ds++[d]):=r.append (.cons h .nil)
theorem RepL.get{xs:List V}{ds:List PyData}{i:Nat}{d:PyData}(r:RepL K H xs ds)(e:ds[i]?=some d):∃x,xs[i]?=some x/\Rep K H x d:=by
 have hi:=(Qk.mp e).1
 have hx:i<xs.length:=by rw[r.1];exact hi
 exact⟨xs[i],by simp[hx],r.2 i _ d (by simp[hx]) e⟩
theorem RepL.get'{xs:List V}{ds:List PyData}{i:Nat}{x:V}(r:RepL K H xs ds)(e:xs[i]?=some x):∃d,ds[i]?=some d/\Rep K H x d:=by
 have hi:=(Qk.mp e).1
 have hx:i<ds.length:=by rw[<- r.1];exact hi
 exact⟨ds[i],by simp[hx],r.2 i x _ e (by simp[hx])⟩
theorem Rep.tupL{a:Qg}{xs:List V}{ds:List PyData}(h:SqT K H a xs)(r:RepL K H xs ds):Rep K H (.ref a) (.tuple ds):=.tup h r.1 r.2
theorem Rep.lstL{a:Qg}{xs:List V}{ds:List PyData}(h:SqL K H a xs)(r:RepL K H xs ds):Rep K H (.ref a) (.list ds):=.lst h r.1 r.2
theorem Rep.tupI{v:V}{ds:List PyData}(r:Rep K H v (.tuple ds)):∃a xs,v=.ref a/\SqT K H a xs/\RepL K H xs ds:=by
 cases r with
 | tup h l q=>exact⟨_,_,rfl,h,l,q⟩
theorem Rep.lstI{v:V}{ds:List PyData}(r:Rep K H v (.list ds)):∃a xs,v=.ref a/\SqL K H a xs/\RepL K H xs ds:=by
 cases r with
 | lst h l q=>exact⟨_,_,rfl,h,l,q⟩
theorem Rep.intI{v:V}{i:Int}(r:Rep K H v (.int i)):v=.int i:=by cases r;rfl
theorem Rep.strI{v:V}{i:Str}(r:Rep K H v (.str i)):v=.str i:=by cases r;rfl
theorem Rep.blI{v:V}{i:Bool}(r:Rep K H v (.bool i)):v=.bl i:=by cases r;rfl
theorem Same.seqT{a:Qg}{xs:List V}(e:Same H H')(h:SqT K H a xs):SqT K H' a xs:=by
 rcases h with (h|⟨o,h⟩)|h
 ·exact .inl (.inl (e _ _ h))
 ·exact .inl (.inr ⟨o,e _ _ h⟩)
 ·exact .inr h
theorem Rep.mono{v:V}{d:PyData}(e:Same H H')(r:Rep K H v d):Rep K H' v d:=by
 induction r with
 | non=>exact .non
 | bl b=>exact .bl b
 | int i=>exact .int i
 | str x=>exact .str x
 | tup h l _ ih=>exact .tup (e.seqT h) l ih
 | lst h l _ ih=>exact .lst (e.seq h) l ih
theorem RepL.mono{xs:List V}{ds:List PyData}(e:Same H H')(r:RepL K H xs ds):RepL K H' xs ds:=⟨r.1,fun i x d h1 h2=>(r.2 i x d h1 h2).mono e⟩

noncomputable def SameEx(l:Qg)(H H':Hp):Prop:=∀b o,b≠l->H b=some o->H' b=some o
theorem SameEx.upd{l:Qg}{o:HO}:SameEx l H (upd H l o):=fun b o' hb e=>by rw[Jf hb];exact e
theorem Same.ex{H0:Hp}{l:Qg}(s:Same H0 H)(hn:H0 l=none)(e:SameEx l H H'):Same H0 H':=fun b o h=>e b o (Jo h hn) (s b o h)
theorem Same.new{p:Qg}{o:HO}(hn:H p=none):Same H (upd H p o):=fun b o' e=>by rw[Jf (Jo e hn)];exact e
theorem SameEx.sqT{l a:Qg}{ys xs:List V}(e:SameEx l H H')(hl:H l=some (.lst ys))(h:SqT K H a xs):SqT K H' a xs:=by
 rcases h with (h|⟨o,h⟩)|h
 ·exact .inl (.inl (e _ _ (JaA h hl (by intro z;cases z)) h))
 ·exact .inl (.inr ⟨o,e _ _ (JaA h hl (by intro z;cases z)) h⟩)
 ·exact .inr h
theorem Same.ex_trans{l:Qg}{H2:Hp}(s:Same H H')(e:SameEx l H' H2):SameEx l H H2:=fun b o hb h=>e b o hb (s b o h)
inductive NoLst:PyData->Prop
 | non:NoLst .none
 | bl (b:Bool):NoLst (.bool b)
 | int (i:Int):NoLst (.int i)
 | str (x:Str):NoLst (.str x)
 | tup {ds:List PyData}:(∀d∈ds,NoLst d)->NoLst (.tuple ds)
end

theorem Vals.get':∀{xs:List V} {us:List Qe} {i:Nat} {u:Qe},Vals xs us->us[i]?=some u->∃x,xs[i]?=some x/\RelV x u
 | _,_,_,_,.nil,e=>by simp at e
 | _,_,0,_,.cons r _,e=>by simp at e;subst e;exact⟨_,rfl,r⟩
 | _,_,i+1,u,.cons _ t,e=>by obtain⟨x,h1,h2⟩:=Vals.get' (i:=i) (u:=u) t (by simpa using e);exact⟨x,by simpa using h1,h2⟩
theorem UK{h:QP}:∀(us:List Qe) (ds:List PyData),us.length=ds.length->(∀(i:Nat) (u:Qe) (d:PyData),us[i]?=some u->ds[i]?=some d->∃as,Reads h u d as)->∃as,ReadsAll h us ds as
 | [],[],_,_=>⟨_,.nil⟩
 | [],_::_,e,_=>by simp at e
 | _::_,[],e,_=>by simp at e
 | u::us,d::ds,e,f=>by
  obtain⟨as,h1⟩:=f 0 u d rfl rfl;obtain⟨bs,h2⟩:=UK us ds (by simpa using e) fun i v c q1 q2=>f (i+1) v c (by simpa using q1) (by simpa using q2)
  exact⟨_,.cons h1 h2⟩
section
variable{X:Cx}{pins:List (Qg×Obj)}{σ:St}{H:Hp}{s:Qh}
theorem Rep.reads{v:V}{d:PyData}(I:Inv X pins σ H s)(r:Rep X.K H v d):∀u,RelV v u->∃as,Reads s.heap u d as:=by
 induction r with
 | non=>intro u r;cases r;exact⟨_,.none⟩
 | bl b=>intro u r;cases r;exact⟨_,.bool b⟩
 | int i=>intro u r;obtain⟨t,rfl⟩:=r;exact⟨_,.int i t⟩
 | str x=>intro u r;obtain⟨t,rfl⟩:=r;exact⟨_,.str x t⟩
 | tup h l _ ih =>
  intro u r;cases r;obtain⟨its,rv,p,hz⟩:=I.tuple h;obtain⟨o,ho,hc,n,hd⟩:=p
  obtain⟨as,q⟩:=UK (h:=s.heap) its _ (rv.length.symm.trans l) fun i u d h1 h2=>by obtain⟨x,e1,e2⟩:=rv.get' h1;exact ih i x d e1 h2 u e2
  exact⟨_,.tuple ho hc hd q⟩
 | lst h l _ ih =>
  intro u r;cases r;obtain⟨its,rv,p,hz⟩:=I.list h;obtain⟨o,ho,hc,n,hd⟩:=p.isList
  obtain⟨as,q⟩:=UK (h:=s.heap) its _ (rv.length.symm.trans l) fun i u d h1 h2=>by obtain⟨x,e1,e2⟩:=rv.get' h1;exact ih i x d e1 h2 u e2
  exact⟨_,.list ho hc hd q⟩
end

section
variable{X:Cx}
noncomputable def Jfu(K:Qz):R2:=fun x y H Q=>rI0 (fun i j=>.int (i+j)) x y H Q\/(∃i j,x=.str i/\y=.str j/\i.length+j.length<=Qt/\Q (.str (i++j)) H)\/JpC x y H Q
theorem Jkw:OpR X (binaryOp .Add) (Jfu X.K):=op_add.or (op_add_str.or Jnq)
noncomputable def JpD(K:Qz):R2:=fun x y H Q=>∃d e,Rep K H x d/\Rep K H y e/\d.canLay0=true/\e.canLay0=true/\min d.depth e.depth<=60/\Q (.bl (LP d e)) H
noncomputable def JpH(K:Qz):R2:=fun x y H Q=>∃d e,Rep K H x d/\Rep K H y e/\d.canLay0=true/\e.canLay0=true/\min d.depth e.depth<=60/\Q (.bl (!PyData.eqv d e)) H
theorem Jns(hu:X.A.units+64<cLine):OpR X (compareOp .Eq) (JpD X.K):=by intro pins s σ H x y v u Q I rx ry h;obtain⟨d,e,h1,h2,c1,c2,hd,q⟩:=h;obtain⟨as,r1⟩:=h1.reads I v rx;obtain⟨bs,r2⟩:=h2.reads I u ry;exact SeqAt.compareEq_reads r1 r2 c1 c2 (by omega) ⟨.bl _,H,I,rfl,q⟩
theorem Jnu(hu:X.A.units+64<cLine):OpR X (compareOp .NotEq) (JpH X.K):=by intro pins s σ H x y v u Q I rx ry h;obtain⟨d,e,h1,h2,c1,c2,hd,q⟩:=h;obtain⟨as,r1⟩:=h1.reads I v rx;obtain⟨bs,r2⟩:=h2.reads I u ry;exact SeqAt.compareNe_reads r1 r2 c1 c2 (by omega) ⟨.bl _,H,I,rfl,q⟩
noncomputable def Jiu(K:Qz):R2:=fun x y H Q=>rEq x y H Q\/JpD K x y H Q
noncomputable def Jiy(K:Qz):R2:=fun x y H Q=>rNe x y H Q\/JpH K x y H Q
theorem Jnr(hu:X.A.units+64<cLine):OpR X (compareOp .Eq) (Jiu X.K):=op_eq.or (Jns hu)
theorem Jnt(hu:X.A.units+64<cLine):OpR X (compareOp .NotEq) (Jiy X.K):=op_ne.or (Jnu hu)
noncomputable def Jd7(K:Qz):List V->Hp->VK->Prop:=fun xs H Q=>∃x n,xs=[x]/\JoU K x H n/\Q (.int n) H
theorem Jf5:CallR X (.builtin "len") (Jd7 X.K):=Jhf
noncomputable def UJ(K:Qz):List V->Hp->VK->Prop:=fun xs H Q=>∃p ys,xs=[.ref p]/\((SqL K H p ys/\∀l,H l=none->Q (.ref l) (upd H l (.tup ys)))\/(SqT K H p ys/\Q (.ref p) H))
theorem Jb0:CallR X (.type "tuple") (UJ X.K):=ZK
inductive TyS (K:Qz) (H:Hp):V->Qe->Prop where
 | of {x:V} {t:Qe} (h:TyOf K H x t):TyS K H x t
 | sqT {a:Qg} {xs:List V} (h:SqT K H a xs):TyS K H (.ref a) (.type "tuple")
 | sqL {a:Qg} {xs:List V} (h:SqL K H a xs):TyS K H (.ref a) (.type "list")
theorem JdK{pins:List (Qg×Obj)}{σ:St}{H:Hp}{s:Qh}{A:QF}{E:Qe->Qh->Prop}{Q:Qe->Qh->Prop}{c:Qe}{b:Bool}{x:V}{u t:Qe}(I:Inv X pins σ H s)(rx:RelV x u)(ty:TyS X.K H x t)(e:kitOne X.K t c=some b)(h:∀tk,Q (.bool b) { s with toks:=tk }) :
 wpAny (model X.prog X.w) A (call (.builtin "isinstance") [u,c]) Q E s:=by
 cases ty with
 | of z=>exact Jgr I rx z e h
 | @sqT a xs z=>cases (show u=Value.ref a from rx);obtain⟨its,_,p,_⟩:=I.tuple z;obtain⟨o,h1,h2,_⟩:=p;exact kia_one Rm I.kIn ⟨o,h1,h2⟩ e (fun z=>nomatch z) h
 | @sqL a xs z=>cases (show u=Value.ref a from rx);obtain⟨its,_,p,_⟩:=I.list z;obtain⟨o,h1,h2,_⟩:=p.isList;exact kia_one kitx_list I.kIn ⟨o,h1,h2⟩ e (fun z=>nomatch z) h
noncomputable def JkN(K:Qz):List V->Hp->VK->Prop:=fun vs H Q=>∃x c t tc b,vs=[x,c]/\TyS K H x t/\(∀u,RelV c u->u=tc)/\kitOne K t tc=some b/\Q (.bl b) H
theorem Jhe:CallR X (.builtin "isinstance") (JkN X.K):=by intro pins s σ H xs us Q I r h;obtain⟨x,c,t,tc,b,rfl,ty,hc,e,q⟩:=h;obtain⟨u,w',rfl,r1,r2⟩:=Jl1 r;cases hc w' r2;exact JdK I r1 ty e fun tk=>⟨.bl b,H,I.tok tk,rfl,q⟩
noncomputable def JqT:R2:=fun x y H Q=>y=.non/\Q (.bl (decide (x=.non))) H
noncomputable def Jiz:R2:=fun x y H Q=>y=.non/\Q (.bl (!decide (x=.non))) H
theorem Zl:OpR X (compareOp .IsNot) Jiz:=Jkz
noncomputable def JqU:List V->Hp->VK->Prop:=fun xs H Q=>∃i j,xs=[.int i,.int j]/\Q (.int (if j>i then j else i)) H
noncomputable def JnN:List V->Hp->VK->Prop:=fun xs H Q=>∃i j,xs=[.int i,.int j]/\Q (.int (if j<i then j else i)) H
theorem VO(hc:X.calm=true):CallR X (.builtin "min") JnN:=Jf7 hc
noncomputable def Jln(K:Qz)(ta:TE):TT:=fun σ H Q=>ta σ H fun x H1=>∃k,JfY K x H1 k/\Q k H1
theorem JnL{a:Q6}{ta:TE}(ha:PE X a ta)(he:∀whole,isTrue a X.env whole=(do let v <- whole;standAt a.pos;holding [v] (truthy v))):PT X a (Jln X.K ta):=Jio ha he
noncomputable def GV(mg:Str->Option Qe)(x:Str)(v:V):Prop:=∃u,mg x=some u/\RelV v u
theorem Jid{x:Str}{v:V}{pos:Pos}(hg:Gl X x)(hm:GV X.mg x v)(hd:(x == ("__debug__":Str))=false:=by decide):PE X (.Name x pos) (tC v):=by obtain⟨u,h1,h2⟩:=hm;exact JkC hg h1 h2 hd
end
theorem VN:bootBuiltins "len"=some (.builtin "len"):=by decide +kernel
theorem U5:bootBuiltins "isinstance"=some (.builtin "isinstance"):=by decide +kernel
theorem Jmc:bootBuiltins "max"=some (.builtin "max"):=by decide +kernel
theorem WO:bootBuiltins "min"=some (.builtin "min"):=by decide +kernel
theorem Jdq:bootBuiltins "sum"=some (.builtin "sum"):=by decide +kernel
theorem Jma:bootBuiltins "any"=some (.builtin "any"):=by decide +kernel
theorem Jf1:bootBuiltins "sorted"=some (.builtin "sorted"):=by decide +kernel
theorem Jmb:bootBuiltins "int"=some (.type "int"):=by decide +kernel
theorem Jjn:bootBuiltins "bool"=some (.type "bool"):=by decide +kernel
theorem Jjo:bootBuiltins "list"=some (.type "list"):=by decide +kernel
theorem JbZ:bootBuiltins "tuple"=some (.type "tuple"):=by decide +kernel
theorem Jmd:bootBuiltins "zip"=some (.type "zip"):=by decide +kernel
theorem JaR:bootBuiltins "enumerate"=some (.type "enumerate"):=by decide +kernel
theorem JbY:bootBuiltins "reversed"=some (.type "reversed"):=by decide +kernel
structure Cal (P:Qy) (w:QH) (K:Qz) (mg:Str->Option Qe) (base:QP) (x:Str) (k:Nat) (ps:List Str) (sp:Sp):Prop where
 ex:∃(f:Qg) (fd:QJ),FnOk P w K mg base CX0 k f fd ps sp/\mg x=some (.ref f)/\keepIn K (.ref f)=true/\Binds K fd ps []
structure CalM (P:Qy) (w:QH) (K:Qz) (mg:Str->Option Qe) (base:QP) (x:Str) (C:Qg) (k:Nat) (ps:List Str) (sp:Sp):Prop where
 ex:∃(f:Qg) (fd:QJ),Mk K C f/\FnOk P w K mg base CX0 k f fd ps sp/\mg x=some (.ref C)/\Binds K fd ps []
section
variable{X:Cx}{k:Nat}{C:Qg}{ps:List Str}{sp:Sp}{x:Str}{p pos:Pos}{e:Q6}{es:List Q6}{t:TA}
theorem Jj(c:Cal X.prog X.w X.K X.mg X.base x k ps sp)(hr:Room k X.A)(hg:Gl X x)(ha:PA X (e::es) t)(hdb:(x == ("__debug__":Str))=false:=by decide)
 (he:starEach (e::es) X.env=(false,eval e X.env)::starEach es X.env:=by rfl) (hpl:(backTo pos (starEach es X.env)).any (·.1)=false:=by rfl):PE X (.Call (.Name x p) (e::es) [] pos) (JfM sp [] E0 t):=by
 obtain⟨f,fd,F,h1,h2,h3⟩:=c.ex;exact JkB F hr hg h1 h2 h3 .nil JlN ha hdb he hpl
theorem Zm(c:CalM X.prog X.w X.K X.mg X.base x C k ps sp)(hr:Room (k+1) X.A)(hg:Gl X x)(ha:PA X (e::es) t)(hdb:(x == ("__debug__":Str))=false:=by decide)
 (he:starEach (e::es) X.env=(false,eval e X.env)::starEach es X.env:=by rfl) (hpl:(backTo pos (starEach es X.env)).any (·.1)=false:=by rfl):PE X (.Call (.Name x p) (e::es) [] pos) (JfO C sp [] E0 t):=by
 obtain⟨f,fd,M,F,h1,h3⟩:=c.ex;exact JkD M F hr hg h1 h3 .nil JlN ha hdb he hpl
end

noncomputable def JdH(K:Qz)(tl:TE):TI:=fun σ H R=>JlG K tl σ H R\/Jpj K tl σ H R
theorem JnF{X:Cx}{tg l:Q6}{tl:TE}(hl:PE X l tl):PI X tg l (JdH X.K tl):=by
 intro pins s σ H R I h;rcases h with h|h
 ·exact JkF hl pins s σ H R I h
 ·exact JnG hl pins s σ H R I h

theorem JbW{X:Cx}{sc:Ln}{N':List Str}{imp:List (Option Nat)}(h1:sc.kind=.function)
 (h2:(sc.names.all (fun y=>y.2 != .free && y.2 != .cell && (y.2 != .local || sc.names.lookup y.1 == some .local)) && imp.all (·.isNone) && (imp.length == N'.length))=true):Blk X sc [] N' imp:=by
 simp only[QL,Lg] at h2;obtain⟨⟨h2,h3⟩,h4⟩:=h2
 have nofree:∀y∈sc.names,y.2≠.free:=fun y hy=>by
  have:=(h2 y hy).1.1
  simpa using this
 have nocell:∀y∈sc.names,y.2≠.cell:=fun y hy=>by
  have:=(h2 y hy).1.2
  simpa using this
 refine⟨closureFor_none nofree,h1,nocell,fun y hy hl=>?_,(fun p hp=>nomatch hp),fun y hy hk=>?_,by simpa using h4,fun p hp k e=>?_⟩
 ·have:=(h2 y hy).2;rw[hl] at this
  simpa using this
 ·have:(relabel sc X.env).names=sc.names:=by
   unfold relabel;refine map_eq_self fun x hx=>?_
   obtain⟨n,q⟩:=x;have:(q == NameKind.free)=false:=by simpa using nofree _ hx
   simp[this]
  rw[this] at hy;rcases hk with z|z
  ·exact absurd z (nocell y hy)
  ·exact absurd z (nofree y hy)
 ·have:=h3 p.1 (Kh hp).1;rw[e] at this;cases this

section
variable{K:Qz}{σ:St}{H H1:Hp}{Q:VK}{i:Nat}{v:V}{ta tb te:TE}{r:R2}{D:Ends}{t u:TS}{c:TT}
theorem Jod(h:σ[i]?=some (some v))(q:Q v H):Wf i σ H Q:=⟨v,h,q⟩
theorem JqV(q:Q v H):tC v σ H Q:=q
theorem JpQ(q:ta σ H fun x H1=>tb σ H1 fun y H2=>r x y H2 Q):tOp r ta tb σ H Q:=q
theorem JpT{r:V->Hp->VK->Prop}(q:ta σ H fun x H1=>r x H1 Q):tUn r ta σ H Q:=q
theorem JpO{g:Int->Int->V}{a b:Int}(q:Q (g a b) H):rI0 g (.int a) (.int b) H Q:=⟨a,b,rfl,rfl,q⟩
theorem JqW{C:Int->Int->Prop}{g:Int->Int->V}{a b:Int}(h:C a b)(q:Q (g a b) H):rI C g (.int a) (.int b) H Q:=⟨a,b,rfl,rfl,h,q⟩
theorem JqX{g:Int->V}{a:Int}(q:Q (g a) H):rU g (.int a) H Q:=⟨a,rfl,q⟩
theorem JkO{a b:Int}(q:Q (.int (a+b)) H):Jfu K (.int a) (.int b) H Q:=.inl ⟨a,b,rfl,rfl,q⟩
theorem JnS{a b:Int}(q:Q (.bl (decide (a=b))) H):Jiu K (.int a) (.int b) H Q:=.inl ⟨rfl,by
 have:decide (V.int a=V.int b)=decide (a=b):=by simp
 rw[this];exact q⟩
theorem Jn4{a b:Int}(q:Q (.bl (!decide (a=b))) H):Jiy K (.int a) (.int b) H Q:=.inl ⟨rfl,by
 have:decide (V.int a=V.int b)=decide (a=b):=by simp
 rw[this];exact q⟩
theorem JnT{a b:Str}(q:Q (.bl (decide (a=b))) H):Jiu K (.str a) (.str b) H Q:=.inl ⟨rfl,by
 have:decide (V.str a=V.str b)=decide (a=b):=by simp
 rw[this];exact q⟩
theorem Jn5{a b:Str}(q:Q (.bl (!decide (a=b))) H):Jiy K (.str a) (.str b) H Q:=.inl ⟨rfl,by
 have:decide (V.str a=V.str b)=decide (a=b):=by simp
 rw[this];exact q⟩
theorem JnX{x:V}(q:Q (.bl (decide (x=.non))) H):JqT x .non H Q:=⟨rfl,q⟩
theorem JkY{x:V}(q:Q (.bl (!decide (x=.non))) H):Jiz x .non H Q:=⟨rfl,q⟩
theorem Jn3{a b:Int}(q:Q (.int (max a b)) H):JqU [.int a,.int b] H Q:=⟨a,b,rfl,by
 have e:(if b>a then b else a)=max a b:=by rw[Int.max_def];split <;> split <;> omega
 rw[e];exact q⟩
theorem JiD{a b:Int}(q:Q (.int (min a b)) H):JnN [.int a,.int b] H Q:=⟨a,b,rfl,by
 have e:(if b<a then b else a)=min a b:=by rw[Int.min_def];split <;> split <;> omega
 rw[e];exact q⟩
theorem Jk2{Qb:Bool->Hp->Prop}(q:ta σ H fun x H1=>∃k,JfY K x H1 k/\Qb k H1):Jln K ta σ H Qb:=q
theorem JnU{f:Str}(q:ta σ H fun x H1=>∃a C dx fs v,x=.ref a/\H1 a=some (.ins C dx fs)/\Cls K C/\NoAttr K C f/\fs.lookup f=some v/\Q v H1):Jll K ta f σ H Q:=q
theorem Jk1{Qb:Bool->Hp->Prop}(q:te σ H fun x H'=>∃k,x=.bl k/\Qb k H'):JiX te σ H Qb:=q
theorem JpS{Qb:Bool->Hp->Prop}(q:te σ H fun x H'=>∃k,x=.bl k/\Qb k H'):tB te σ H Qb:=q
theorem JnQ{c':TT}{Qb:Bool->Hp->Prop}(q:c σ H fun b H1=>if b=true then c' σ H1 Qb else Qb false H1):Jou c c' σ H Qb:=q
theorem JpR{c':TT}{Qb:Bool->Hp->Prop}(q:c σ H fun b H1=>if b=true then Qb true H1 else c' σ H1 Qb):tOr c c' σ H Qb:=q
theorem Jn7{Qb:Bool->Hp->Prop}(q:c σ H fun b H1=>Qb (!b) H1):JoA c σ H Qb:=q
theorem JkZ(q:te σ H fun x H1=>∃b,x=.bl b/\Q (.bl (!b)) H1):JiW te σ H Q:=q
theorem JkP(q:ta σ H fun x H1=>∃b,x=.bl b/\if b=true then tb σ H1 Q else Q (.bl false) H1):JiQ ta tb σ H Q:=q
theorem Jn8(q:ta σ H fun x H1=>∃b,x=.bl b/\if b=true then Q (.bl true) H1 else tb σ H1 Q):Jq4 ta tb σ H Q:=q
theorem JnV(q:c σ H fun b H1=>if b=true then ta σ H1 Q else tb σ H1 Q):tIf c ta tb σ H Q:=q
theorem Job(q:t { D with nx:=u D } σ H):JoB t u D σ H:=q
theorem JnR{g:TG}(q:te σ H fun x H1=>g x σ H1 D.nx):Jda te g D σ H:=q
theorem JiC{Qs:St->Hp->Prop}(q:Qs (σ.set i (some v)) H):Vs i v σ H Qs:=q
theorem JnW(q:c σ H fun b H1=>if b=true then t D σ H1 else u D σ H1):Jox c t u D σ H:=q
theorem Jn9(q:te σ H D.rt):Jlm te D σ H:=q
theorem JkR(q:te σ H fun _ H1=>D.nx σ H1):JfN te D σ H:=q
theorem JkX(q:D.nx σ H):JiV D σ H:=q
theorem JkQ{tr:TA}{Ql:List V->Hp->Prop}(q:ta σ H fun x H1=>tr σ H1 fun xs H2=>Ql (x::xs) H2):Wr ta tr σ H Ql:=q
theorem Jn6{Ql:List V->Hp->Prop}(q:Ql [] H):Jei σ H Ql:=q
theorem JpN{r:List V->Hp->VK->Prop}{ts:TA}(q:ts σ H fun vs H1=>r vs H1 Q):tCB r ts σ H Q:=q
theorem Jfx{sp:Sp}{E:XK}{ts:TA}(q:ts σ H fun vs H1=>sp vs H1 Q E):JfM sp [] E ts σ H Q:=by
 have e:(fun vs H1=>sp (vs++[]) H1 Q E)=fun vs H1=>sp vs H1 Q E:=by funext vs H1;rw[GR]
 show ts σ H fun vs H1=>sp (vs++[]) H1 Q E
 rw[e];exact q
noncomputable def JgZ(xs:List V)(H:Hp)(Q:VK):Prop:=xs.length<=Qt/\∀p,H p=none->Q (.ref p) (upd H p (.tup xs))
noncomputable def Jl3(xs:List V)(H:Hp)(Q:VK):Prop:=xs.length<=Qt/\∀p,H p=none->Q (.ref p) (upd H p (.lst xs))
theorem Joc{ts:TA}(q:ts σ H fun xs H1=>JgZ xs H1 Q):JoC ts σ H Q:=q
theorem Jn2{ts:TA}(q:ts σ H fun xs H1=>Jl3 xs H1 Q):Joy ts σ H Q:=q
theorem Jl6{xs:List V}(hl:xs.length<=Qt)(q:∀p H',H p=none->Same H H'->H' p=some (.tup xs)->Q (.ref p) H'):JgZ xs H Q:=⟨hl,fun p hp=>q p _ hp (.new hp) Jm⟩
theorem JkU{a:Qg}{xs:List V}(h:SqL K H a xs)(q:Q (.int xs.length) H):Jd7 K [.ref a] H Q:=⟨_,_,rfl,.inl ⟨xs,h,rfl⟩,q⟩
theorem JkW{a:Qg}{xs:List V}(h:SqT K H a xs)(q:Q (.int xs.length) H):Jd7 K [.ref a] H Q:=⟨_,_,rfl,.inr ⟨xs,h,rfl⟩,q⟩
theorem JkV{x:Str}(h:x.length<=Qt)(q:Q (.int x.length) H):Jd7 K [.str x] H Q:=⟨_,_,rfl,⟨h,rfl⟩,q⟩
theorem JgL{a:Qg}{xs:List V}(h:SqL K H a xs)(q:∀p H',H p=none->Same H H'->H' p=some (.tup xs)->Q (.ref p) H'):UJ K [.ref a] H Q:=⟨a,xs,rfl,.inl ⟨h,fun p hp=>q p _ hp (.new hp) Jm⟩⟩
theorem JnZ{a:Qg}{xs:List V}{j:Int}{v:V}(h:SqL K H a xs)(e:atI xs j=some v)(q:Q v H):rIx K (.ref a) (.int j) H Q:=.inl ⟨a,xs,j,v,rfl,rfl,h,e,q⟩
theorem Jn1{a:Qg}{xs:List V}{j:Int}{v:V}(h:SqT K H a xs)(e:atI xs j=some v)(q:Q v H):rIx K (.ref a) (.int j) H Q:=.inr (.inl ⟨a,xs,j,v,rfl,rfl,h,e,q⟩)
theorem Jn0{z:Str}{j:Int}{c:Nat}(hz:z.length<=Qt)(e:atI z.cps.toList j=some c)(q:Q (.str ⟨#[c]⟩) H):rIx K (.str z) (.int j) H Q:=.inr (.inr ⟨z,j,c,rfl,rfl,hz,e,q⟩)
theorem JnY{x:V}{n:String}{t:Qe}{b:Bool}(ty:TyS K H x t)(e:kitOne K t (.type n)=some b)(q:Q (.bl b) H):JkN K [x,.ty n] H Q:=⟨x,_,t,_,b,rfl,ty,fun _ r=>r,e,q⟩
theorem JpP{T:String}{rm:V->List V->Hp->VK->Prop}{to:TE}{ts:TA}(q:to σ H fun x H1=>tyV K T x H1/\ts σ H1 fun xs H2=>rm x xs H2 Q):tBM K T rm to ts σ H Q:=q
theorem JkT{to ti:TE}{ts:JoX}{Qs:St->Hp->Prop}(q:to σ H fun o H1=>ti σ H1 fun i H2=>ts o i v H2 fun H3=>Qs σ H3):JqH to ti ts v σ H Qs:=q
theorem Jfy{a:Qg}{xs:List V}{n:Nat}{ts:TGs}{Qs:St->Hp->Prop}(h:SqT K H a xs)(hl:xs.length=n)(q:ts xs σ H Qs):JhD K n ts (.ref a) σ H Qs:=⟨a,xs,rfl,h,hl,q⟩
theorem JiB{t:TG}{u:TGs}{x:V}{xs:List V}{Qs:St->Hp->Prop}(q:t x σ H fun σ' H'=>u xs σ' H' Qs):JhC t u (x::xs) σ H Qs:=⟨x,xs,rfl,q⟩
theorem JkS{Qs:St->Hp->Prop}(q:Qs σ H):JmG [] σ H Qs:=⟨rfl,q⟩
theorem Jk0{f:Str}{tv:TE}(q:tv σ H fun y H1=>ta σ H1 fun x H2=>∃a C dx fs,x=.ref a/\H2 a=some (.ins C dx fs)/\Cls K C/\NoAttr K C f/\fs.length<1000/\D.nx σ (upd H2 a (.ins C dx (putF f y fs)))):Jog K ta tv f D σ H:=q
theorem JiA{r':R2}{tc:TE}(q:ta σ H fun x H1=>tb σ H1 fun y H2=>r x y H2 fun z H3=>∃k,z=.bl k/\(if k=true then tc σ H3 fun w' H4=>r' y w' H4 Q else Q (.bl false) H3)):Jeh r r' ta tb tc σ H Q:=q
theorem Joe{Qb:Bool->Hp->Prop}(q:Qb true H):JoD σ H Qb:=q
theorem ifd{c A B:Prop}[Decidable c](h1:c->A)(h2:¬c->B):if decide c=true then A else B:=by
 by_cases h:c
 ·rw[if_pos (decide_eq_true h)];exact h1 h
 ·rw[if_neg (by simpa using h)];exact h2 h
theorem ifT{b:Bool}{A B:Prop}(e:b=true)(h:A):if b=true then A else B:=by rw[if_pos e];exact h
theorem ifF{b:Bool}{A B:Prop}(e:b=false)(h:B):if b=true then A else B:=by rw[if_neg (by rw[e];exact QI)];exact h

theorem JgK{tl:TE}{g:TG}{a:Qg}{xs:List V}(hx:∀R:VK,R (.ref a) H1->tl σ H R)(hq:SqL K H1 a xs\/SqT K H1 a xs)(Pv:Nat->St->Hp->Prop)(h0:Pv 0 σ H1)(hS:∀i σ' H',Pv i σ' H'->Same H1 H')
 (hs:∀i x σ' H',xs[i]?=some x->Pv i σ' H'->g x σ' H' fun σ2 H2=>t { D with nx:=Pv (i+1),ct:=Pv (i+1),bk:=D.nx } σ2 H2) (hd:∀σ' H',Pv xs.length σ' H'->D.nx σ' H'):Jow (JdH K tl) g t D σ H:=by
 rcases hq with hq|hq
 ·exact .inl (hx _ ⟨a,rfl,⟨xs,hq⟩,JhA (xs:=xs) Pv h0 (fun i σ' H' _ p=>(hS i σ' H' p).seq hq) hs hd⟩)
 ·exact .inr (hx _ ⟨a,rfl,⟨xs,hq⟩,Jj2 (xs:=xs) Pv h0 (fun i σ' H' _ p=>(hS i σ' H' p).seqT hq) hs hd⟩)
theorem JeF{J:It}{g:TG}{tt:TT}{imp:List (Option Nat)}{n:Nat}(hn:n<=Qt)(Pv:Nat->List V->St->Hp->Prop)(h0:Pv 0 [] (W2 imp σ) H1)(hy:∀i ys σ' H',Pv i ys σ' H'->ys.length<=i)
 (hstop:∀ys σ' H',Pv n ys σ' H'->J.stop n H') (hgo:∀i ys σ' H',i<n->Pv i ys σ' H'->J.go i H')
 (hs:∀i ys x σ' H' H2,i<n->J.yld i H' x H2->Pv i ys σ' H'->g x σ' H2 fun σ2 H3=>tt σ2 H3 fun b H4=>if b=true then te σ2 H4 fun y H5=>Pv (i+1) (ys++[y]) σ2 H5 else Pv (i+1) ys σ2 H4)
 (hd:∀ys σ' H',Pv n ys σ' H'->∀p H2,H' p=none->Same H' H2->H2 p=some (.lst ys)->Q (.ref p) H2) :
 ∃W:Nat->Nat->List V->St->Hp->Prop,(∃m,W 0 m [] (W2 imp σ) H1)/\∀i m ys σ' H',W i m ys σ' H' ->
  (J.stop i H'/\ys.length<=Qt/\∀D,H' D=none->Q (.ref D) (upd H' D (.lst ys))) ∨
  (J.go i H'/\ys.length<Qt/\∃N:List V->St->Hp->Prop,(∀ys' σ2 H2,N ys' σ2 H2->∃m',m'<m/\W (i+1) m' ys' σ2 H2) ∧
   ∀x H2,J.yld i H' x H2->g x σ' H2 fun σ2 H3=>tt σ2 H3 fun b H4=>if b=true then te σ2 H4 fun y H5=>N (ys++[y]) σ2 H5 else N ys σ2 H4):=by
 refine⟨fun i m ys σ' H'=>m=n-i/\i<=n/\Pv i ys σ' H',⟨n,by simp,GZ _,h0⟩,?_⟩;rintro i m ys σ' H' ⟨rfl,hi,p⟩;have hl:=hy i ys σ' H' p
 by_cases hlt:i<n
 ·exact .inr ⟨hgo i ys σ' H' hlt p,by omega,fun ys' σ2 H2=>Pv (i+1) ys' σ2 H2,fun ys' σ2 H2 p'=>⟨n-(i+1),by omega,rfl,hlt,p'⟩,fun x H2 y=>hs i ys x σ' H' H2 hlt y p⟩
 ·have e:i=n:=by omega
  subst e;exact .inl ⟨hstop ys σ' H' p,by omega,fun q hq=>hd ys σ' H' p q _ hq (.new hq) Jm⟩
theorem Jd8{tl:TE}{g:TG}{tt:TT}{imp:List (Option Nat)}{a:Qg}{xs:List V}(hx:∀R:VK,R (.ref a) H1->tl σ H R)(hq:SqL K H1 a xs\/SqT K H1 a xs)(hn:xs.length<=Qt)(Pv:Nat->List V->St->Hp->Prop)
 (h0:Pv 0 [] (W2 imp σ) H1) (hy:∀i ys σ' H',Pv i ys σ' H'->ys.length<=i) (hS:∀i ys σ' H',Pv i ys σ' H'->Same H1 H')
 (hs:∀i ys x σ' H',xs[i]?=some x->Pv i ys σ' H'->g x σ' H' fun σ2 H3=>tt σ2 H3 fun b H4=>if b=true then te σ2 H4 fun y H5=>Pv (i+1) (ys++[y]) σ2 H5 else Pv (i+1) ys σ2 H4)
 (hd:∀ys σ' H',Pv xs.length ys σ' H'->∀p H2,H' p=none->Same H' H2->H2 p=some (.lst ys)->Q (.ref p) H2):JiR (JdH K tl) g tt te imp σ H Q:=by
 rcases hq with hq|hq
 ·refine .inl (hx _ ⟨a,rfl,⟨xs,hq⟩,JeF (n:=xs.length) hn Pv h0 hy (fun ys σ' H' p=>⟨xs,(hS _ _ _ _ p).seq hq,Qx _⟩) (fun i ys σ' H' hi p=>⟨xs,xs[i],(hS _ _ _ _ p).seq hq,by simp[hi]⟩) (fun i ys x σ' H' H2 hi y p=>?_) hd⟩);obtain⟨e,y⟩:=y;subst e;exact hs i ys x σ' _ (y xs ((hS _ _ _ _ p).seq hq)) p
 ·refine .inr (hx _ ⟨a,rfl,⟨xs,hq⟩,JeF (n:=xs.length) hn Pv h0 hy (fun ys σ' H' p=>⟨xs,(hS _ _ _ _ p).seqT hq,Qx _⟩) (fun i ys σ' H' hi p=>⟨xs,xs[i],(hS _ _ _ _ p).seqT hq,by simp[hi]⟩) (fun i ys x σ' H' H2 hi y p=>?_) hd⟩);obtain⟨e,y⟩:=y;subst e;exact hs i ys x σ' _ (y xs ((hS _ _ _ _ p).seqT hq)) p
end
end L2
namespace L2
open PySem PySem.Spec PyProof.Rows
section
variable{X:Cx}{K:Qz}{pos:Pos}
theorem Jfl(hK:X.K=K):OpR X (binaryOp .Add) (Jfu K):=hK▸Jkw
theorem V4(hK:X.K=K)(hu:X.A.units+64<cLine):OpR X (compareOp .Eq) (Jiu K):=hK▸Jnr hu
theorem Jnv(hK:X.K=K)(hu:X.A.units+64<cLine):OpR X (compareOp .NotEq) (Jiy K):=hK▸Jnt hu
theorem YO(hK:X.K=K):CallR X (.builtin "len") (Jd7 K):=hK▸Jf5
theorem Wk(hK:X.K=K):CallR X (.type "tuple") (UJ K):=hK▸Jb0
theorem Jad(hK:X.K=K):CallR X (.builtin "isinstance") (JkN K):=hK▸Jhe
theorem Jke(hK:X.K=K):IxR X (rIx K):=hK▸JhT
theorem YF{e:Q6}{ta:TE}{f:Str}(hK:X.K=K)(he:PE X e ta)(hb:attributeBase e f X.env (eval e X.env)=eval e X.env):PE X (.Attribute e f pos) (Jll K ta f):=hK▸JnB he hb
theorem JkL{o value:Q6}{f:Str}{pos':Pos}{ta tv:TE}(hK:X.K=K)(ha:PE X o ta)(hv:PE X value tv)(hs:swapsWith value (some (.Attribute o f pos')) pos.line X.env=pure false):PS X (.Assign [.Attribute o f pos'] value pos) (Jog K ta tv f):=hK▸JnK ha hv hs
theorem JkH{tg l:Q6}{tl:TE}(hK:X.K=K)(hl:PE X l tl):PI X tg l (JdH K tl):=hK▸JnF hl
theorem JG{es:List Q6}{k:Nat}{t:TGs}{n:Nat}(hK:X.K=K)(hc:X.calm=true)(h:PGs X es t)(hn:(assignEach es X.env).length=n)(hst:(assignEach es X.env).findIdx? (·.1)=none):PG X (.Tuple es k pos) (JhD K n t):=hK▸JnE hc h hn hst
theorem Yz{a:Q6}{ta:TE}(hK:X.K=K)(ha:PE X a ta)(he:∀whole,isTrue a X.env whole=(do let v <- whole;standAt a.pos;holding [v] (truthy v))):PT X a (Jln K ta):=hK▸JnL ha he
theorem Ve{o e:Q6}{es:List Q6}{to:TE}{t:TA}{name:Str}{apos cpos:Pos}{T id:String}{r:V->List V->Hp->VK->Prop}(hK:X.K=K)(pa:PlainAttrs T)(slot:Slot T name id)(hty:typeOf (.builtin id)=pure (.type "method_descriptor"))(hm:MtR X id r)(ho:PE X o to)(ha:PA X (e::es) t)
 (hbase:attributeBase o name X.env (eval o X.env)=eval o X.env:=by rfl)
 (hfew:((backTo cpos (starEach (e::es) X.env)).all (fun x=>!x.1) && (backToKw cpos (keywordEach [] X.env)).all (fun x=>x.1.isSome)
  && decide ((e::es).length+([]:List Mp).length+(if ([]:List Mp).isEmpty then 0 else 1)<30))=true:=by rfl)
 (hline:(apos.endLine == cpos.line)=true:=by rfl) (hs:starEach (e::es) X.env=(false,eval e X.env)::starEach es X.env:=by rfl) (hplain:(backTo cpos (starEach es X.env)).any (·.1)=false:=by rfl) :
 PE X (.Call (.Attribute o name apos) (e::es) [] cpos) (tBM K T r to t):=hK▸JpB pa slot hty hm ho ha hbase hfew hline hs hplain
theorem JkA{o:Q6}{to:TE}{name:Str}{apos cpos:Pos}{T id:String}{r:V->List V->Hp->VK->Prop}(hK:X.K=K)(pa:PlainAttrs T)(slot:Slot T name id)(hty:typeOf (.builtin id)=pure (.type "method_descriptor"))(hm:MtR X id r)(ho:PE X o to)
 (hbase:attributeBase o name X.env (eval o X.env)=eval o X.env:=by rfl) (hline:(apos.endLine == cpos.line)=true:=by rfl):PE X (.Call (.Attribute o name apos) [] [] cpos) (Jov K T r to):=hK▸JnA pa slot hty hm ho hbase hline
end
end L2

namespace LR
open PySem L2

theorem sz2{a b:V}:[a,b].length<=Qt:=by show 2<=Qt;decide
theorem JoI(K:Qz)(H:Hp)(k:Bool):JfY K (.bl k) H k:=rfl
noncomputable abbrev Pr:=Int×Int
noncomputable def prD(p:Pr):PyData:=.tuple [.int p.1,.int p.2]
section
variable{K:Qz}{H H':Hp}
theorem JkI{v:V}{p:Pr}(r:Rep K H v (prD p)):∃a,v=.ref a/\SqT K H a [.int p.1,.int p.2]:=by
 obtain⟨a,xs,rfl,h,l,q⟩:=r.tupI
 match xs,l,q,h with
 | [x,y],_,q,h =>
  have e1:=(q 0 x (.int p.1) rfl rfl).intI
  have e2:=(q 1 y (.int p.2) rfl rfl).intI;subst e1 e2;exact⟨a,rfl,h⟩
theorem Jil{a:Qg}{b n:Int}(h:SqT K H a [.int b,.int n]):Rep K H (.ref a) (prD (b,n)):=.tupL h (.cons (.int b) (.cons (.int n) .nil))
theorem JkJ{a:Qg}{b n:Int}(h:H a=some (.tup [.int b,.int n])):Rep K H (.ref a) (prD (b,n)):=Jil (.of h)
noncomputable abbrev Prs(K:Qz)(H:Hp)(vs:List V)(ps:List Pr):Prop:=RepL K H vs (ps.map prD)
theorem Prs.len{vs:List V}{ps:List Pr}(r:Prs K H vs ps):vs.length=ps.length:=by have:=r.1;rwa [Qv] at this
theorem Prs.at{vs:List V}{ps:List Pr}{i:Nat}{v:V}(r:Prs K H vs ps)(e:vs[i]?=some v):∃p a,ps[i]?=some p/\v=.ref a/\SqT K H a [.int p.1,.int p.2]:=by
 obtain⟨d,h1,h2⟩:=r.get' e;rw[Qm] at h1
 cases hp:ps[i]? with
 | none=>rw[hp] at h1;cases h1
 | some p=>rw[hp] at h1;cases h1;obtain⟨a,e1,e2⟩:=JkI h2;exact⟨p,a,rfl,e1,e2⟩
theorem Prs.snoc{vs:List V}{ps:List Pr}{v:V}{p:Pr}(r:Prs K H vs ps)(h:Rep K H v (prD p)):Prs K H (vs++[v]) (ps++[p]):=by show RepL K H _ _;rw[QV];exact RepL.snoc r h
noncomputable def Jjf(K:Qz)(H:Hp)(v:V)(ps:List Pr):Prop:=∃a vs,v=.ref a/\(SqL K H a vs\/SqT K H a vs)/\Prs K H vs ps
end

structure Good (ps:List Pr):Prop where
 one:∀(i:Nat) (p:Pr),ps[i]?=some p->1<=p.2
 gap:∀(i:Nat) (p q:Pr),ps[i]?=some p->ps[i+1]?=some q->p.1+p.2<q.1
theorem Good.nil:Good []:=⟨fun i p e=>by simp at e,fun i p q e=>by simp at e⟩
theorem Good.snoc{ps:List Pr}{p:Pr}(g:Good ps)(h1:1<=p.2)(h2:∀q,ps[ps.length-1]?=some q->q.1+q.2<p.1):Good (ps++[p]):=by
 refine⟨fun i q e=>?_,fun i q r e1 e2=>?_⟩
 ·by_cases hi:i<ps.length
  ·rw[QW hi] at e;exact g.one i q e
  ·rw[QU (by omega)] at e;obtain⟨h3,h4⟩:=Qk.mp e;have:i-ps.length=0:=by simp at h3;omega
   rw[this] at e;simp at e;subst e;exact h1
 ·by_cases hi:i+1<ps.length
  ·rw[QW (by omega)] at e1;rw[QW hi] at e2;exact g.gap i q r e1 e2
  ·rw[QU (by omega)] at e2;obtain⟨h3,h4⟩:=Qk.mp e2;have h5:i+1-ps.length=0:=by simp at h3;omega
   rw[h5] at e2;simp at e2;subst e2;have h6:i=ps.length-1:=by omega
   have h7:i<ps.length:=by omega
   rw[QW h7] at e1;rw[h6] at e1;exact h2 q e1

noncomputable def Jd9(t:Qg):List (Str×V):=[("stretches",.ref t)]
noncomputable def RowAt(C:Qg)(K:Qz)(H:Hp)(v:V)(ps:List Pr):Prop :=
 ∃x dx t ts,v=.ref x/\H x=some (.ins C dx (Jd9 t))/\H t=some (.tup ts)/\Prs K H ts ps
theorem RowAt.mono{C:Qg}{K:Qz}{H H':Hp}{v:V}{ps:List Pr}(e:Same H H')(r:RowAt C K H v ps):RowAt C K H' v ps:=by obtain⟨x,dx,t,ts,h0,h1,h2,h3⟩:=r;exact⟨x,dx,t,ts,h0,e _ _ h1,e _ _ h2,RepL.mono e h3⟩
structure RowC (K:Qz) (C:Qg):Prop where
 cl:Cls K C
 ns:NoAttr K C "stretches"
theorem JgM(t:Qg):(Jd9 t).lookup ("stretches":Str)=some (.ref t):=by
 unfold Jd9;rw[List.lookup_cons];have:(("stretches":Str) == ("stretches":Str))=true:=by decide +kernel
 rw[this]
theorem Jip(t:Qg):putF "stretches" (.ref t) []=Jd9 t:=rfl

noncomputable def JbI(K:Qz):Sp:=fun vs H Q _=>∃v ps,vs=[v]/\Jjf K H v ps/\Good ps/\∀H',Same H H'->Q .non H'
noncomputable def We(C:Qg)(K:Qz):Sp:=fun vs H Q _=>∃x dx v ps,vs=[.ref x,v]/\H x=some (.ins C dx [])/\Jjf K H v ps/\Good ps/\ps.length<=30 ∧
 ∀H' t ts,SameEx x H H'->H' x=some (.ins C dx (Jd9 t))->H' t=some (.tup ts)->Prs K H' ts ps->Q .non H'
noncomputable def Jg2(C:Qg)(sp:Sp)(E:XK)(vs:List V)(H1:Hp)(Q:VK):Prop:=∀x dx,H1 x=none->H1 dx=none->dx≠x ->
 sp (.ref x::vs) (upd (upd H1 dx (.own x)) x (.ins C dx [])) (fun v H2=>v=.non/\Q (.ref x) H2) E
theorem Jfz{C:Qg}{sp:Sp}{E:XK}{ts:TA}{σ:St}{H:Hp}{Q:VK}(q:ts σ H fun vs H1=>Jg2 C sp E vs H1 Q):JfO C sp [] E ts σ H Q:=by
 have e:(fun vs H1=>Jg2 C sp E vs H1 Q)=fun vs H1=>∀x dx,H1 x=none->H1 dx=none->dx≠x->sp (.ref x::(vs++[])) (upd (upd H1 dx (.own x)) x (.ins C dx [])) (fun v H2=>v=.non/\Q (.ref x) H2) E:=by funext vs H1;rw[GR];rfl
 show ts σ H _;rw[<- e];exact q
theorem Joa{C:Qg}{K:Qz}{H:Hp}{Q:VK}{v:V}{ps:List Pr}{E:XK}(h:Jjf K H v ps)(g:Good ps)(hl:ps.length<=30)(q:∀x H',H x=none->Same H H'->RowAt C K H' (.ref x) ps->Q (.ref x) H'):Jg2 C (We C K) E [v] H Q:=by
 intro x dx nx ndx nex
 have s0:Same H (upd (upd H dx (.own x)) x (.ins C dx [])):=fun b o e=>by rw[Jf (Jo e nx),Jf (Jo e ndx)];exact e
 obtain⟨a,vs,rfl,hq,hp⟩:=h;refine⟨x,dx,_,ps,rfl,Jm,⟨a,vs,rfl,hq.imp s0.seq s0.seqT,RepL.mono s0 hp⟩,g,hl,fun H' t ts e h1 h2 h3=>⟨rfl,q x H' nx (fun b o h=>e b o (Jo h nx) (s0 b o h)) ⟨x,dx,t,ts,rfl,h1,h2,h3⟩⟩⟩

noncomputable def cell(ns:List Int)(k:Int):Int:=ns.getD k.toNat 0
end LR

namespace LR
open PySem L2

theorem Jhg{ns:List Int}{k:Int}(h:¬k<(ns.length:Int)):cell ns k=0:=by unfold cell;rw[Ge,Gj (by omega)];rfl
noncomputable def spr(ns:List Int)(at' span p0:Int):Nat->Int×List Pr
 | 0=>(p0,[])
 | i+1=>((spr ns at' span p0 i).1+(1+cell ns (at'+1+2*i) % span)+1+cell ns (at'+2+2*i) % span,(spr ns at' span p0 i).2++[((spr ns at' span p0 i).1,1+cell ns (at'+1+2*i) % span)])
theorem UZ(ns:List Int)(at' span p0:Int):∀i,(spr ns at' span p0 i).2.length=i
 | 0=>rfl
 | i+1=>by show(_++[_]).length=_;rw[QG,UZ ns at' span p0 i];rfl
theorem Jc6(ns:List Int)(at' span p0:Int)(hs:0<span):∀i,Good (spr ns at' span p0 i).2/\∀q,(spr ns at' span p0 i).2[i-1]?=some q->q.1+q.2<(spr ns at' span p0 i).1
 | 0=>⟨Good.nil,fun q e=>by simp[spr] at e⟩
 | i+1=>by
  obtain⟨g,h⟩:=Jc6 ns at' span p0 hs i;have m1:=Lu (cell ns (at'+1+2*i)) (b:=span) (by omega);have m2:=Lu (cell ns (at'+2+2*i)) (b:=span) (by omega);refine⟨g.snoc (by show 1<=1+_;omega) (by rw[UZ];exact h),fun q e=>?_⟩;have e':((spr ns at' span p0 i).2++[((spr ns at' span p0 i).1,1+cell ns (at'+1+2*i) % span)])[i]?=some q:=e;rw[QU (by rw[UZ];exact Qx _),UZ] at e'
  simp at e';subst e';show _+(1+_)<_+(1+_)+1+_;omega
noncomputable def Jd3(l:List Int)(k:Int):Int:=l.getD k.toNat 0
theorem Jij{l:List Int}{k:Int}{P:Int->Prop}(h0:0<=k)(h1:k<(l.length:Int))(h:∀x∈l,P x):P (Jd3 l k):=by
 unfold Jd3;have:k.toNat<l.length:=by omega
 rw[Ge,QM this];exact h _ (List.getElem_mem this)
noncomputable def Jev(ps:List Pr):Nat->V
 | 0=>.non
 | i+1=>match ps[i]? with
  | some p=>.int (p.1+p.2)
  | none=>.non
theorem UB{ps:List Pr}{i:Nat}{p:Pr}(e:ps[i]?=some p):Jev ps (i+1)=.int (p.1+p.2):=by show(match ps[i]? with|some p=>V.int (p.1+p.2)|none=>V.non)=_;rw[e]
theorem Jhh{K:Qz}{v:V}{ps:List Pr}{H:Hp}{Q:VK}{E:XK}(h:Jjf K H v ps)(g:Good ps)(q:∀H',Same H H'->Q .non H'):JbI K [v] H Q E:=⟨v,ps,rfl,h,g,q⟩
theorem JcZ{K:Qz}{a:Qg}{xs:List V}{H:Hp}{Q:VK}(h:SqL K H a xs\/SqT K H a xs)(q:Q (.int xs.length) H):Jd7 K [.ref a] H Q:=by
 rcases h with h|h
 ·exact JkU h q
 ·exact JkW h q
theorem SameEx.sqT'{K:Qz}{H H':Hp}{x a C dx:Qg}{fs:List (Str×V)}{xs:List V}(e:SameEx x H H')(hx:H x=some (.ins C dx fs))(h:SqT K H a xs):SqT K H' a xs:=by
 rcases h with (h|⟨o,h⟩)|h
 ·exact .inl (.inl (e _ _ (JaA h hx (by intro z;cases z)) h))
 ·exact .inl (.inr ⟨o,e _ _ (JaA h hx (by intro z;cases z)) h⟩)
 ·exact .inr h
theorem Prs.monoIns{K:Qz}{H H':Hp}{x C dx:Qg}{fs:List (Str×V)}{vs:List V}{ps:List Pr}(e:SameEx x H H')(hx:H x=some (.ins C dx fs))(r:Prs K H vs ps):Prs K H' vs ps:=by refine⟨r.1,fun i v d h1 h2=>?_⟩;obtain⟨p,a,e1,e2,e3⟩:=r.at h1;rw[Qm,e1] at h2;cases h2;subst e2;exact Jil (SameEx.sqT' e hx e3)
noncomputable def Jqe(K:Qz):Sp:=fun vs H Q _=>∃(a:Qg) (ns:List Int),vs=[.ref a]/\SqL K H a (ns.map V.int)/\ns.length<=63/\∀H',Q (.bl true) H'
end LR
namespace LR
open PySem L2
end LR

namespace L2
open PySem PySem.Spec PyProof.Rows

section
variable{X:Cx}{pins:List (Qg×Obj)}{σ:St}{H:Hp}{s:Qh}
theorem Jaq{A':QF}{E:Qe->Qh->Prop}{Q:Qe->Qh->Prop}{a:Qg}{vs:List V}(hh:A'.handled=none)(I:Inv X pins σ H s)(hq:SqL X.K H a vs\/SqT X.K H a vs)
 (h:∀(its:List Qe) (J:Qg) (fp wr:List Qg) (Sx:Nat->QP->Prop) (s2:Qh),Vals vs its->Walks X.prog X.w A' J fp wr its.toArray.size (fun i v=>its.toArray[i]?=some v) Sx->Sx 0 s2.heap->(∀b∈fp,b<s2.heap.objs.size) ->
  (∀h' tk,(∀b o,b∉wr->s2.heap.get? b=some o->h'.get? b=some o)->Inv X pins σ H { s2 with heap:=h',toks:=tk })->Q (.ref J) s2):wpAny (model X.prog X.w) A' (pyIter (.ref a)) Q E s:=by
 have nin:∀b o,s.heap.get? b=some o->b∉[s.heap.objs.size]:=fun b o e z=>by
  have:b=s.heap.objs.size:=by simpa using z
  exact absurd (Qq e) (by rw[this];exact GD _)
 rcases hq with hq|hq
 ·obtain⟨its,rv,p,hz⟩:=I.list hq;have hlt:a<s.heap.objs.size:=by obtain⟨_,e,_⟩:=p.isList;exact Qq e
  refine Mo p.isList ?_;refine h its _ _ _ _ _ rv (Walks.list hh _ a (QK hlt) its.toArray) ⟨⟨_,Qn _ rfl,rfl,rfl⟩,p.isList.push _⟩ (fun b hb=>?_) fun h' tk hk=>I.kept fun b o e=>hk b o (nin b o e) (Qi _ e)
  show b<(s.heap.push _).objs.size;rw[GO];rcases Qj.mp hb with z|z
  ·rw[z];exact KN _
  ·have:b=a:=by simpa using z
   rw[this];exact LD hlt
 ·obtain⟨its,rv,p,hz⟩:=I.tuple hq;have ht:s.heap.IsTuple a its.toArray:=p;have hlt:a<s.heap.objs.size:=by obtain⟨_,e,_⟩:=ht;exact Qq e
  refine Md ht ?_;refine h its _ _ _ _ _ rv (Walks.tuple hh _ a (QK hlt) its.toArray) ⟨⟨_,Qn _ rfl,rfl,rfl⟩,?_⟩ (fun b hb=>?_) fun h' tk hk=>I.kept fun b o e=>hk b o (nin b o e) (Qi _ e)
  ·obtain⟨o,e,c⟩:=ht;exact⟨o,Qi _ e,c⟩
  ·show b<(s.heap.push _).objs.size;rw[GO];rcases Qj.mp hb with z|z
   ·rw[z];exact KN _
   ·have:b=a:=by simpa using z
    rw[this];exact LD hlt
end

theorem Wq(l:List Int):∀j,j<=l.length->preSum (fun i=>l.getD i 0) j=(l.take j).sum
 | 0,_=>by simp[preSum]
 | j+1,h=>by
  rw[preSum,Wq l j (by omega)];have hj:j<l.length:=by omega
  rw[List.take_add_one,Ky];simp[hj]
section
variable{X:Cx}
noncomputable def JnP(K:Qz):List V->Hp->VK->Prop:=fun xs H Q=>∃(a:Qg) (ns:List Int),xs=[.ref a]/\(SqL K H a (ns.map V.int)\/SqT K H a (ns.map V.int))/\Q (.int ns.sum) H
theorem Jf9(hc:X.calm=true):CallR X (.builtin "sum") (JnP X.K):=by
 intro pins s σ H xs us Q I r h;obtain⟨a,ns,rfl,hq,q⟩:=h;obtain⟨u,rfl,rx⟩:=Ws r;cases rx;refine call_sum_walkG (Jaq (A':=X.A.in1) (I.ok.hd hc) I hq fun its J fp wr Sx s2 rv W st hfp hI=>?_);have hi:=Va rv;have hl:=rv.length;rw[Qv] at hl;refine⟨J,fp,wr,_,_,Sx,fun i=>ns.getD i 0,rfl,W,st,hfp,fun i v e=>?_,fun h' tk t' hk=>?_⟩
 ·have e':its[i]?=some v:=by simpa using e
  obtain⟨x,e1,e2⟩:=rv.get' e';rw[Qm] at e1
  cases hn:ns[i]? with
  | none=>rw[hn] at e1;cases e1
  | some n=>rw[hn] at e1;cases e1;obtain⟨t,rfl⟩:=e2;exact⟨t,by simp[Ge,hn]⟩
 ·refine⟨.int ns.sum,H,hI h' tk hk,⟨t',?_⟩,q⟩;rw[show its.toArray.size=ns.length by simp[hl],Wq ns _ (Qx _),List.take_length]
noncomputable def JnM(K:Qz):List V->Hp->VK->Prop:=fun xs H Q=>∃(a:Qg) (bs:List Bool),xs=[.ref a]/\(SqL K H a (bs.map V.bl)\/SqT K H a (bs.map V.bl))/\Q (.bl (bs.any id)) H
theorem JgJ(bs:List Bool):(QQ bs.length).any (fun i=>bs.getD i false)=bs.any id:=by
 rw[GQ];simp only[Lh,List.mem_range,id];constructor
 ·rintro⟨i,hi,e⟩;simp[Ge,hi] at e;exact⟨bs[i],List.getElem_mem hi,e⟩
 ·rintro⟨b,hb,rfl⟩;obtain⟨i,hi,e⟩:=GG.mp hb;exact⟨i,hi,by simp[Ge,hi,e]⟩
theorem Jdd{A:QF}{bs:List Bool}{its:List Qe}(rv:Vals (bs.map V.bl) its):TruthOf X.prog X.w A (fun i v=>its.toArray[i]?=some v) (fun i=>bs.getD i false):=by
 intro i v s Q E e q;have e':its[i]?=some v:=by simpa using e
 obtain⟨x,e1,e2⟩:=rv.get' e';rw[Qm] at e1
 cases hn:bs[i]? with
 | none=>rw[hn] at e1;cases e1
 | some n =>
  rw[hn] at e1;cases e1;cases e2;have:bs.getD i false=n:=by simp[Ge,hn]
  have q':Q (bs.getD i false) s:=q;rw[this] at q';exact G2 q'
theorem Jf4(hc:X.calm=true):CallR X (.builtin "any") (JnM X.K):=by intro pins s σ H xs us Q I r h;obtain⟨a,bs,rfl,hq,q⟩:=h;obtain⟨u,rfl,rx⟩:=Ws r;cases rx;refine call_any_walk (Jaq (A':=X.A.in1) (I.ok.hd hc) I hq fun its J fp wr Sx s2 rv W st hfp hI=>?_);have hl:=rv.length;rw[Qv] at hl;refine⟨J,fp,wr,_,_,Sx,_,rfl,W,st,Jdd rv,fun h' tk hk=>⟨.bl _,H,hI h' tk hk,rfl,?_⟩⟩;rw[show its.toArray.size=bs.length by simp[hl],JgJ];exact q
noncomputable def strI(i:Int):Str:=(toString i:String)
end
section
variable{X:Cx}{K:Qz}
theorem VP(hK:X.K=K)(hc:X.calm=true):CallR X (.builtin "sum") (JnP K):=hK▸Jf9 hc
theorem Jf3(hK:X.K=K)(hc:X.calm=true):CallR X (.builtin "any") (JnM K):=hK▸Jf4 hc
end
section
variable{K:Qz}{H:Hp}{Q:VK}
end
end L2
namespace L2
open PySem PySem.Spec PyProof.Rows
noncomputable def AllP{α:Type}(P:α->Prop):List α->Prop
 | []=>True
 | x::xs=>P x/\AllP P xs
theorem AllP.mem{α:Type}{P:α->Prop}:∀{l:List α},AllP P l->∀x∈l,P x
 | [],_,x,hx=>nomatch hx
 | y::l,h,x,hx=>by
  rcases Qj.mp hx with z|z
  ·rw[z];exact h.1
  ·exact AllP.mem h.2 x z
theorem Vb{cl:List (Str×Qg)}{x:Str}(h:cl.any (fun p=>p.1 == x)=true):(cl.lookup x).isSome=true:=by
 induction cl with
 | nil=>simp at h
 | cons p cl ih =>
  obtain⟨n,a⟩:=p;rw[List.lookup_cons]
  by_cases e:x == n
  ·rw[e];rfl
  ·have e':(x == n)=false:=by simpa using e
   rw[e'];rw[Ka] at h;rcases Bool.or_eq_true_iff.mp h with z|z
   ·have:n=x:=eq_of_beq z;rw[this] at e';simp at e'
   ·exact ih z
theorem Jjk{X:Cx}{sc:Ln}{cl:List (Str×Qg)}{own:List Str}{fr:List (Str×Nat)}(h1:sc.kind=.function)(h2:closureFor sc X.env=pure cl)
 (h3:(sc.names.all fun y=>y.2 != .cell && (y.2 != .local || sc.names.lookup y.1 == some .local))=true) (h4:AllP (fun p=>X.env.cells.lookup p.1=some p.2) cl)
 (h5:((relabel sc X.env).names.all fun y=>(y.2 != .cell && y.2 != .free) || cl.any (fun p=>p.1 == y.1))=true)
 (h6:AllP (fun p=>X.N[p.2]?=some p.1/\X.env.scope.names.lookup p.1=some .cell/\(relabel sc X.env).names.lookup p.1=some .cell) fr) :
 Blk X sc cl (own++fr.map (·.1)) (own.map (fun _=>none)++fr.map (fun p=>some p.2)):=by
 simp only[Lg,QL] at h3;simp only[Lg] at h5;refine⟨h2,h1,fun y hy=>?_,fun y hy hl=>?_,AllP.mem h4,fun y hy hk=>?_,by simp,fun p hp k e=>?_⟩
 ·have:=(h3 y hy).1
  simpa using this
 ·have:=(h3 y hy).2;rw[hl] at this
  simpa using this
 ·have:=h5 y hy;rcases Bool.or_eq_true_iff.mp this with z|z
  ·rcases hk with q|q
   ·rw[q] at z;simp at z
   ·rw[q] at z;simp at z
  ·exact Vb z
 ·rw[List.zip_append (by simp)] at hp;rcases GB.mp hp with z|z
  ·have:=(Kh z).1;obtain⟨_,_,q⟩:=Qu.mp this;rw[<- q] at e;cases e
  ·rw[List.zip_map_left] at z;obtain⟨q,hq,eq⟩:=Qu.mp z
   have hz:q.1∈fr/\q.1.1=q.2:=by
    clear h6 e eq z hp;rw[List.zip_map_right] at hq;obtain⟨q',hq',eq'⟩:=Qu.mp hq
    have:q'.1=q'.2:=by
     clear eq' hq
     induction fr with
     | nil=>cases hq'
     | cons x fr ih =>
      rcases Qj.mp hq' with z|z
      ·rw[z]
      ·exact ih z
    rw[<- eq'];exact⟨(Kh hq').1,by show q'.1.1=q'.2.1;rw[this]⟩
   obtain⟨a1,a2,a3⟩:=AllP.mem h6 q.1 hz.1;rw[<- eq] at e ⊢;have ek:q.1.2=k:=by simpa using e
   subst ek;rw[hz.2] at a1 a2 a3;exact⟨a1,.inl a2,.inl a3⟩
end L2

namespace LR
open PySem L2

noncomputable def Small(i:Int):Prop:=i.natAbs.log2<1920
theorem Small.of{i:Int}(h:i.natAbs<2 ^ 1920):Small i:=by
 unfold Small
 by_cases h0:i.natAbs=0
 ·rw[h0];decide
 ·exact(Nat.log2_lt h0).mpr h
theorem Small.le{i:Int}(h1:-(10 ^ 100)<=i)(h2:i<=10 ^ 100):Small i:=Small.of (by
 have h3:i.natAbs<=10 ^ 100:=by omega
 exact Lv h3 (by decide +kernel))
end LR

namespace LE
open PySem L2 LR

structure Xm where
 n:Str
 k:Option Int
instance:Coe Str Xm:=⟨fun s=>⟨s,none⟩⟩
noncomputable def Jgb:Qe->Qe
 | .int i _=>.ref i.toNat
 | v=>v
noncomputable def Jhi:Qe->Option Qg
 | .int _ t=>some t
 | _=>none
inductive D where
 | non|bl (b:Bool)|int (i:Int)|str (x:Str)|tup (l:List D)|lst (l:List D)|fz (l:List D)|row (l:List D)|dct (ks:List Int) (l:List D)|dfz (ks:List Int) (l:List D)|exc (n:Xm)
noncomputable def dkO(ks:List Int)(xs:List V):HO:=.dK ((ks.map Sum.inl).zip xs)
noncomputable def dtK(p:Int×Int):List Key:=[Sum.inl p.1,Sum.inl p.2]
noncomputable def dtO(ps:List (Int×Int))(xs:List V):HO:=.dT ((ps.map dtK).zip xs)
noncomputable def XO(a:Qg)(c:Qe):HO:=.ext fun h=>∃o,h.get? a=some o/\o.cls=Jgb c/\PySem.W.notCls o=true/\o.dict=Jhi c
noncomputable def XC(K:Qz)(n:Xm)(c:Qe)(H:Hp):Prop:=∃a:Nat,nsIn K mainGlobals n.n=some (some (.ref a))/\match n.k with
 | none=>c=.ref a
 | some k=>∃t,c=.int a t/\H t=some (.xd [("at",.int k)])
theorem XC.mono{K:Qz}{n:Xm}{c:Qe}{H H':Hp}(e:Same H H')(x:XC K n c H):XC K n c H':=by
 obtain⟨a,h1,h2⟩:=x;refine⟨a,h1,?_⟩
 cases z:n.k with
 | none=>rw[z] at h2;exact h2
 | some k=>rw[z] at h2;obtain⟨t,h3,h4⟩:=h2;exact⟨t,h3,e _ _ h4⟩
theorem XC.cls{K:Qz}{n:Xm}{c:Qe}{H:Hp}(x:XC K n c H):∃a,nsIn K mainGlobals n.n=some (some (.ref a))/\Jgb c=.ref a:=by
 obtain⟨a,h1,h2⟩:=x;refine⟨a,h1,?_⟩
 cases z:n.k with
 | none=>rw[z] at h2;cases h2;rfl
 | some k=>rw[z] at h2;obtain⟨t,h3,h4⟩:=h2;cases h3;rfl
noncomputable def XdO(c:Qe)(H:Hp):Prop:=match Jhi c with
 | none=>True
 | some t=>∃fs,H t=some (.xd fs)
theorem XC.xd{K:Qz}{n:Xm}{c:Qe}{H:Hp}(x:XC K n c H):XdO c H:=by
 obtain⟨a,h1,h2⟩:=x
 cases z:n.k with
 | none=>rw[z] at h2;cases h2;exact True.intro
 | some k=>rw[z] at h2;obtain⟨t,h3,h4⟩:=h2;cases h3;exact⟨_,h4⟩

section
variable(K:Qz)(C:Qg)
inductive RD (H:Hp):V->D->Prop
 | non:RD H .non .non
 | bl (b:Bool):RD H (.bl b) (.bl b)
 | int (i:Int):RD H (.int i) (.int i)
 | str (x:Str):RD H (.str x) (.str x)
 | tup {a:Qg} {xs:List V} {ds:List D}:SqT K H a xs->xs.length=ds.length->(∀(i:Nat) (x:V) (d:D),xs[i]?=some x->ds[i]?=some d->RD H x d)->RD H (.ref a) (.tup ds)
 | lst {a:Qg} {xs:List V} {ds:List D}:H a=some (.lst xs)->xs.length=ds.length->(∀(i:Nat) (x:V) (d:D),xs[i]?=some x->ds[i]?=some d->RD H x d)->RD H (.ref a) (.lst ds)
 | fz {a:Qg} {xs:List V} {ds:List D}:SqL K H a xs->xs.length=ds.length->(∀(i:Nat) (x:V) (d:D),xs[i]?=some x->ds[i]?=some d->RD H x d)->RD H (.ref a) (.fz ds)
 | row {x dx t:Qg} {ts:List V} {ds:List D}:H x=some (.ins C dx (Jd9 t))->SqT K H t ts->ts.length=ds.length->(∀(i:Nat) (x:V) (d:D),ts[i]?=some x->ds[i]?=some d->RD H x d)->RD H (.ref x) (.row ds)
 | dct {a:Qg} {ks:List Int} {xs:List V} {ds:List D}:H a=some (dkO ks xs)->ks.length=ds.length->xs.length=ds.length->(∀(i:Nat) (x:V) (d:D),xs[i]?=some x->ds[i]?=some d->RD H x d)->RD H (.ref a) (.dct ks ds)
 | dfz {a:Qg} {ks:List Int} {xs:List V} {ds:List D} {o:Obj}:H a=some (.frz o (dkO ks xs))->ks.length=ds.length->xs.length=ds.length->(∀(i:Nat) (x:V) (d:D),xs[i]?=some x->ds[i]?=some d->RD H x d)->RD H (.ref a) (.dfz ks ds)
 | exc {a:Qg} {c:Qe} {n:Xm}:H a=some (XO a c)->XC K n c H->RD H (.ref a) (.exc n)
noncomputable def RDL(H:Hp)(xs:List V)(ds:List D):Prop:=xs.length=ds.length/\∀(i:Nat) (x:V) (d:D),xs[i]?=some x->ds[i]?=some d->RD K C H x d
end

section
variable{K:Qz}{C:Qg}{H H':Hp}
theorem RD.mono{v:V}{d:D}(e:Same H H')(r:RD K C H v d):RD K C H' v d:=by
 induction r with
 | non=>exact .non
 | bl b=>exact .bl b
 | int i=>exact .int i
 | str x=>exact .str x
 | tup h l _ ih=>exact .tup (e.seqT h) l ih
 | lst h l _ ih=>exact .lst (e _ _ h) l ih
 | fz h l _ ih=>exact .fz (e.seq h) l ih
 | row h1 h2 l _ ih=>exact .row (e _ _ h1) (e.seqT h2) l ih
 | dct h1 h2 l _ ih=>exact .dct (e _ _ h1) h2 l ih
 | dfz h1 h2 l _ ih=>exact .dfz (e _ _ h1) h2 l ih
 | exc h1 h2=>exact .exc (e _ _ h1) (h2.mono e)
theorem RDL.mono{xs:List V}{ds:List D}(e:Same H H')(r:RDL K C H xs ds):RDL K C H' xs ds:=⟨r.1,fun i x d h1 h2=>(r.2 i x d h1 h2).mono e⟩
theorem RDL.nil:RDL K C H [] []:=⟨rfl,fun i x d e=>by simp at e⟩
theorem RDL.cons{x:V}{d:D}{xs:List V}{ds:List D}(h:RD K C H x d)(r:RDL K C H xs ds):RDL K C H (x::xs) (d::ds):=by
 refine⟨by simp[r.1],fun i y e h1 h2=>?_⟩
 cases i with
 | zero=>simp at h1 h2;subst h1 h2;exact h
 | succ i=>exact r.2 i y e (by simpa using h1) (by simpa using h2)
theorem RDL.append{xs ys:List V}{ds es:List D}(r:RDL K C H xs ds)(q:RDL K C H ys es):RDL K C H (xs++ys) (ds++es):=by
 refine⟨by simp[r.1,q.1],fun i x d h1 h2=>?_⟩
 by_cases hi:i<xs.length
 ·rw[QW hi] at h1;rw[QW (by rw[<- r.1];exact hi)] at h2;exact r.2 i x d h1 h2
 ·rw[QU (by omega)] at h1;rw[QU (by rw[<- r.1];omega)] at h2;rw[<- r.1] at h2;exact q.2 _ x d h1 h2
theorem RDL.snoc{xs:List V}{ds:List D}{x:V}{d:D}(r:RDL K C H xs ds)(h:RD K C H x d):RDL K C H (xs++[x]) (ds++[d]):=r.append (.cons h .nil)
theorem RDL.get{xs:List V}{ds:List D}{i:Nat}{d:D}(r:RDL K C H xs ds)(e:ds[i]?=some d):∃x,xs[i]?=some x/\RD K C H x d:=by
 have hi:=(Qk.mp e).1
 have hx:i<xs.length:=by rw[r.1];exact hi
 exact⟨xs[i],by simp[hx],r.2 i _ d (by simp[hx]) e⟩
theorem RDL.get'{xs:List V}{ds:List D}{i:Nat}{x:V}(r:RDL K C H xs ds)(e:xs[i]?=some x):∃d,ds[i]?=some d/\RD K C H x d:=by
 have hi:=(Qk.mp e).1
 have hx:i<ds.length:=by rw[<- r.1];exact hi
 exact⟨ds[i],by simp[hx],r.2 i x _ e (by simp[hx])⟩
theorem RDL.head{x:V}{xs:List V}{d:D}{ds:List D}(r:RDL K C H (x::xs) (d::ds)):RD K C H x d:=r.2 0 x d rfl rfl
theorem RDL.tail{x:V}{xs:List V}{d:D}{ds:List D}(r:RDL K C H (x::xs) (d::ds)):RDL K C H xs ds:=⟨by have:=r.1;simpa using this,fun i y e h1 h2=>r.2 (i+1) y e (by simpa using h1) (by simpa using h2)⟩
theorem RDL.take{xs:List V}{ds:List D}(n:Nat)(r:RDL K C H xs ds):RDL K C H (xs.take n) (ds.take n):=by
 refine⟨by simp[r.1],fun i x d h1 h2=>?_⟩;rw[List.getElem?_take] at h1 h2;split at h1
 ·rw[if_pos (by assumption)] at h2;exact r.2 i x d h1 h2
 ·cases h1
theorem RDL.drop{xs:List V}{ds:List D}(n:Nat)(r:RDL K C H xs ds):RDL K C H (xs.drop n) (ds.drop n):=by refine⟨by simp[r.1],fun i x d h1 h2=>?_⟩;rw[List.getElem?_drop] at h1 h2;exact r.2 _ x d h1 h2
theorem RDL.set{xs:List V}{ds:List D}{v:V}{e:D}(n:Nat)(r:RDL K C H xs ds)(h:RD K C H v e):RDL K C H (xs.set n v) (ds.set n e):=by
 refine⟨by simp[r.1],fun i x d h1 h2=>?_⟩;rw[Gg] at h1 h2;split at h1
 ·rw[if_pos (by assumption)] at h2;split at h1
  ·rw[if_pos (by rw[<- r.1];assumption)] at h2;cases h1;cases h2;exact h
  ·cases h1
 ·rw[if_neg (by assumption)] at h2;exact r.2 i x d h1 h2
theorem RDL.reverse{xs:List V}{ds:List D}(r:RDL K C H xs ds):RDL K C H xs.reverse ds.reverse:=by
 refine⟨by simp[r.1],fun i x d h1 h2=>?_⟩;have hi:i<xs.length:=by have:=(Qk.mp h1).1;simpa using this
 rw[GK hi] at h1;rw[GK (by rw[<- r.1];exact hi)] at h2;rw[<- r.1] at h2;exact r.2 _ x d h1 h2
theorem RDL.ints:∀{xs:List V} {ns:List Int},RDL K C H xs (ns.map D.int)->xs=ns.map V.int
 | [],[],_=>rfl
 | [],_::_,r=>by have:=r.1;simp at this
 | _::_,[],r=>by have:=r.1;simp at this
 | x::xs,n::ns,r=>by have h:=r.head;cases h;rw[RDL.ints r.tail];rfl
theorem RDL.ofInts:∀(ns:List Int),RDL K C H (ns.map V.int) (ns.map D.int)
 | []=>.nil
 | n::ns=>.cons (.int n) (RDL.ofInts ns)
theorem RDL.bls:∀{xs:List V} {ns:List Bool},RDL K C H xs (ns.map D.bl)->xs=ns.map V.bl
 | [],[],_=>rfl
 | [],_::_,r=>by have:=r.1;simp at this
 | _::_,[],r=>by have:=r.1;simp at this
 | x::xs,n::ns,r=>by have h:=r.head;cases h;rw[RDL.bls r.tail];rfl
theorem RDL.strs:∀{xs:List V} {ns:List Str},RDL K C H xs (ns.map D.str)->xs=ns.map V.str
 | [],[],_=>rfl
 | [],_::_,r=>by have:=r.1;simp at this
 | _::_,[],r=>by have:=r.1;simp at this
 | x::xs,n::ns,r=>by have h:=r.head;cases h;rw[RDL.strs r.tail];rfl
theorem RD.mkT{a:Qg}{xs:List V}{ds:List D}(h:SqT K H a xs)(r:RDL K C H xs ds):RD K C H (.ref a) (.tup ds):=.tup h r.1 r.2
theorem RD.mkL{a:Qg}{xs:List V}{ds:List D}(h:H a=some (.lst xs))(r:RDL K C H xs ds):RD K C H (.ref a) (.lst ds):=.lst h r.1 r.2
theorem RD.mkF{a:Qg}{xs:List V}{ds:List D}(h:SqL K H a xs)(r:RDL K C H xs ds):RD K C H (.ref a) (.fz ds):=.fz h r.1 r.2
theorem RD.tupI{v:V}{ds:List D}(r:RD K C H v (.tup ds)):∃a xs,v=.ref a/\SqT K H a xs/\RDL K C H xs ds:=by
 cases r with
 | tup h l q=>exact⟨_,_,rfl,h,l,q⟩
theorem RD.lstI{v:V}{ds:List D}(r:RD K C H v (.lst ds)):∃a xs,v=.ref a/\H a=some (.lst xs)/\RDL K C H xs ds:=by
 cases r with
 | lst h l q=>exact⟨_,_,rfl,h,l,q⟩
theorem RD.fzI{v:V}{ds:List D}(r:RD K C H v (.fz ds)):∃a xs,v=.ref a/\SqL K H a xs/\RDL K C H xs ds:=by
 cases r with
 | fz h l q=>exact⟨_,_,rfl,h,l,q⟩
theorem RD.rowI{v:V}{ds:List D}(r:RD K C H v (.row ds)):∃x dx t ts,v=.ref x/\H x=some (.ins C dx (Jd9 t))/\SqT K H t ts/\RDL K C H ts ds:=by
 cases r with
 | row h1 h2 l q=>exact⟨_,_,_,_,rfl,h1,h2,l,q⟩
theorem RD.mkD{a:Qg}{ks:List Int}{xs:List V}{ds:List D}(h:H a=some (dkO ks xs))(hk:ks.length=ds.length)(r:RDL K C H xs ds):RD K C H (.ref a) (.dct ks ds):=.dct h hk r.1 r.2
theorem RD.dctI{v:V}{ks:List Int}{ds:List D}(r:RD K C H v (.dct ks ds)):∃a xs,v=.ref a/\H a=some (dkO ks xs)/\ks.length=ds.length/\RDL K C H xs ds:=by
 cases r with
 | dct h hk l q=>exact⟨_,_,rfl,h,hk,l,q⟩
theorem RD.mkZ{a:Qg}{ks:List Int}{xs:List V}{ds:List D}{o:Obj}(h:H a=some (.frz o (dkO ks xs)))(hk:ks.length=ds.length)(r:RDL K C H xs ds):RD K C H (.ref a) (.dfz ks ds):=.dfz h hk r.1 r.2
theorem RD.dfzI{v:V}{ks:List Int}{ds:List D}(r:RD K C H v (.dfz ks ds)):∃a xs o,v=.ref a/\H a=some (.frz o (dkO ks xs))/\ks.length=ds.length/\RDL K C H xs ds:=by
 cases r with
 | dfz h hk l q=>exact⟨_,_,_,rfl,h,hk,l,q⟩
theorem RD.intI{v:V}{i:Int}(r:RD K C H v (.int i)):v=.int i:=by cases r;rfl
theorem RD.strI{v:V}{i:Str}(r:RD K C H v (.str i)):v=.str i:=by cases r;rfl
theorem RD.blI{v:V}{i:Bool}(r:RD K C H v (.bl i)):v=.bl i:=by cases r;rfl
theorem RD.nonI{v:V}(r:RD K C H v .non):v=.non:=by cases r;rfl
end

mutual
noncomputable def D.py:D->PyData
 | .non=>.none
 | .bl b=>.bool b
 | .int i=>.int i
 | .str x=>.str x
 | .tup l=>.tuple (D.pyL l)
 | .lst l=>.list (D.pyL l)
 | .fz l=>.list (D.pyL l)
 | .row _=>.dict []
 | .dct _ _=>.dict []
 | .dfz _ _=>.dict []
 | .exc _=>.dict []
noncomputable def D.pyL:List D->List PyData
 | []=>[]
 | d::ds=>d.py::D.pyL ds
end
theorem Jft:∀ds:List D,D.pyL ds=ds.map D.py
 | []=>rfl
 | d::ds=>by rw[D.pyL,Jft ds];rfl
theorem W9:∀{ds:List PyData},K8 ds=true->∀d∈ds,d.canLay0=true
 | [],_,d,hd=>nomatch hd
 | x::ds,h,d,hd=>by
  have h':(PyData.canLay0 x && K8 ds)=true:=h;rw[QL] at h';rcases Qj.mp hd with z|z
  ·rw[z];exact h'.1
  ·exact W9 h'.2 d z
theorem RD.rep{K:Qz}{C:Qg}{H:Hp}{v:V}{d:D}(r:RD K C H v d):d.py.canLay0=true->Rep K H v d.py:=by
 have all:∀{xs:List V} {ds:List D},xs.length=ds.length->(∀(i:Nat) (x:V) (d:D),xs[i]?=some x->ds[i]?=some d->d.py.canLay0=true->Rep K H x d.py)->K8 (D.pyL ds)=true->RepL K H xs (D.pyL ds):=by
  intro xs ds l ih hc;rw[Jft] at hc ⊢;refine⟨by simpa using l,fun i x d h1 h2=>?_⟩;rw[Qm] at h2
  cases e:ds[i]? with
  | none=>rw[e] at h2;cases h2
  | some q=>rw[e] at h2;cases h2;exact ih i x q h1 e (W9 hc _ (Qu.mpr ⟨q,QX e,rfl⟩))
 induction r with
 | non=>intro _;exact .non
 | bl b=>intro _;exact .bl b
 | int i=>intro _;exact .int i
 | str x=>intro _;exact .str x
 | tup h l _ ih=>intro hc;exact .tupL h (all l ih hc)
 | lst h l _ ih=>intro hc;exact .lstL (.of h) (all l ih hc)
 | fz h l _ ih=>intro hc;exact .lstL h (all l ih hc)
 | row h1 h2 l _ ih=>intro hc;cases hc
 | dct h1 h2 l _ ih=>intro hc;cases hc
 | dfz h1 h2 l _ ih=>intro hc;cases hc
 | exc h1 h2=>intro hc;cases hc

inductive Sl where
 | no|sh (d:D)|bo (ds:List D)|own (ds:List D)|bd (ks:List Int) (ds:List D)|od (ks:List Int) (ds:List D)|bt (ps:List (Int×Int)) (ds:List D)|ot (ps:List (Int×Int)) (ds:List D)
noncomputable def JP:Sl->Bool
 | .own _=>true
 | .od _ _=>true
 | .ot _ _=>true
 | _=>false
noncomputable def JmM:Sl->Bool
 | .bo _=>true
 | .bd _ _=>true
 | .bt _ _=>true
 | _=>false

noncomputable def JdM:List G0->Option (Nat×Nat)
 | .Assign _ (.Call _ _ [⟨_,.Lambda _ _ _ pos,_⟩] _) _::_=>some (pos.line,pos.col)
 | _=>none
noncomputable def JfQ(K:Qz)(fd:QJ):Option (Qg×HO):=match fd.code,fd.body with
 | .ref c,.stmts b=>(match K.lookup c with
  | some ⟨_,_,.fields vs,_⟩=>(match (vs[11]?:Option Qe),JdM b with
   | some (.ref P),some (l,k)=>if codeHdIn K c P=true then some (P,.tbl #[] l k (fd.qualname++".<locals>."++"<lambda>")) else none
   | _,_=>none)
  | _=>none)
 | _,_=>none
noncomputable def Y2(K:Qz):Option (Qg×HO):=match nsIn K mainGlobals "early_lines" with
 | some (some (.ref f))=>(match K.lookup f with
  | some ⟨_,_,.func fd,_⟩=>JfQ K fd
  | _=>none)
 | _=>none
structure LamC (K:Qz) (qual:Str) (l k:Nat) (cdv:Qe):Prop where
 ex:∃P c,cdv=.ref c/\codeHdIn K c P=true/\Y2 K=some (P,.tbl #[] l k (qual++".<locals>."++"<lambda>"))
theorem Jkh{K:Qz}{name qual:Str}{params:Mb}{body:List G0}{scope:Ln}{dV kV doc pm cdv ct oc:Qe}{an od:Option Qg}{osl:Array (Option Qe)}{f:Qg}{l k:Nat}(a:nsIn K mainGlobals "early_lines"=some (some (.ref f)))
 (lk:K.lookup f=some ⟨oc,od,.func (fnOf name qual params body scope dV kV doc pm an cdv ct),osl⟩) (hs:(Y2 K).isSome=true) (hp:JdM body=some (l,k)):LamC K qual l k cdv:=by
 have e:Y2 K=JfQ K (fnOf name qual params body scope dV kV doc pm an cdv ct):=by unfold Y2;rw[a];dsimp only;rw[lk]
 rw[e] at hs;have e2:=e;unfold JfQ at hs e2;dsimp only at hs e2
 cases cdv with
 | ref c =>
  dsimp only at hs e2;rw[hp] at hs e2;split at hs
  ·next vs _ hk =>
   rw[hk] at e2;dsimp only at e2;split at hs
   ·next P l' k' h11 hlk =>
    rw[h11] at e2;cases hlk;dsimp only at e2;split at hs
    ·next hh=>rw[if_pos hh] at e2;exact⟨P,c,rfl,hh,e2⟩
    ·cases hs
   ·cases hs
  ·cases hs
 | _=>cases hs
noncomputable def TabK(K:Qz)(H:Hp):Prop:=∀P t,Y2 K=some (P,t)->H P=some t
theorem TabK.mono{K:Qz}{B H:Hp}(h:TabK K B)(s:∀a o,B a=some o->H a=some o):TabK K H:=fun P t e=>s P t (h P t e)
theorem TabK.no{K:Qz}{H:Hp}(h:Y2 K=none):TabK K H:=fun P t e=>by rw[h] at e;cases e
section
variable(K:Qz)(C:Qg)
noncomputable def RR(Hs H0 H:Hp)(v:V):Sl->Prop
 | .no=>False
 | .sh d=>RD K C H0 v d
 | .bo ds=>∃l xs,v=.ref l/\H l=some (.lst xs)/\RDL K C H0 xs ds
 | .own ds=>∃l xs,v=.ref l/\H l=some (.lst xs)/\H0 l=none/\Hs l=none/\RDL K C H0 xs ds
 | .bd ks ds=>∃l xs,v=.ref l/\H l=some (dkO ks xs)/\ks.length=ds.length/\RDL K C H0 xs ds
 | .bt ks ds=>∃l xs,v=.ref l/\H l=some (dtO ks xs)/\ks.length=ds.length/\RDL K C H0 xs ds
 | .od ks ds=>∃l xs,v=.ref l/\H l=some (dkO ks xs)/\H0 l=none/\Hs l=none/\ks.length=ds.length/\RDL K C H0 xs ds
 | .ot ks ds=>∃l xs,v=.ref l/\H l=some (dtO ks xs)/\H0 l=none/\Hs l=none/\ks.length=ds.length/\RDL K C H0 xs ds
noncomputable def RSl(B H0 H:Hp)(v:V):Sl->Prop
 | .no=>True
 | .sh d=>RD K C H0 v d
 | .bo ds=>∃l xs,v=.ref l/\B l=some (.lst xs)/\RDL K C H0 xs ds
 | .own ds=>∃l xs,v=.ref l/\H l=some (.lst xs)/\H0 l=none/\B l=none/\RDL K C H0 xs ds
 | .bd ks ds=>∃l xs,v=.ref l/\B l=some (dkO ks xs)/\ks.length=ds.length/\RDL K C H0 xs ds
 | .bt ks ds=>∃l xs,v=.ref l/\B l=some (dtO ks xs)/\ks.length=ds.length/\RDL K C H0 xs ds
 | .od ks ds=>∃l xs,v=.ref l/\H l=some (dkO ks xs)/\H0 l=none/\B l=none/\ks.length=ds.length/\RDL K C H0 xs ds
 | .ot ks ds=>∃l xs,v=.ref l/\H l=some (dtO ks xs)/\H0 l=none/\B l=none/\ks.length=ds.length/\RDL K C H0 xs ds
structure EnvR (B H0 H:Hp) (σ:St) (E:List Sl):Prop where
 b:Same B H
 h:Same H0 H
 len:σ.length=E.length
 at':∀(i:Nat) (s:Sl),E[i]?=some s->s=.no\/∃v,σ[i]?=some (some v)/\RSl K C B H0 H v s
 sep:∀(i j:Nat) (s t:Sl) (v:V),i≠j->E[i]?=some s->E[j]?=some t->JP s=true->JP t=true->σ[i]?=some (some v)->σ[j]?≠some (some v)
 t:TabK K B
end
noncomputable def isT:HO->Bool
 | .tup _=>true
 | .frz _ (.tup _)=>true
 | _=>false
structure Step (Hs H0 H H0' H':Hp):Prop where
 h:Same H H'
 z:Same H0 H0'
 n:∀a o,H0' a=some o->H0 a=some o\/Hs a=none\/isT o=true
 i:Same H0' H'
structure SStep (B H0 H0' H':Hp):Prop where
 b:Same B H'
 z:Same H0 H0'
 n:∀a o,H0' a=some o->H0 a=some o\/B a=none\/isT o=true
 i:Same H0' H'

section
variable{K:Qz}{C:Qg}{B Hs H0 H H0' H' H0'' H'':Hp}{σ:St}{E:List Sl}{v:V}{s:Sl}
theorem Step.refl(i:Same H0 H):Step Hs H0 H H0 H:=⟨Same.refl _,Same.refl _,fun _ _ e=>.inl e,i⟩
theorem Step.comp{Hs':Hp}(s1:Step Hs H0 H H0' H')(s2:Step Hs' H0' H' H0'' H'')(w:∀a,Hs' a=none->Hs a=none):Step Hs H0 H H0'' H'' :=
 ⟨s1.h.trans s2.h,s1.z.trans s2.z,fun a o e=>(s2.n a o e).elim (fun q=>s1.n a o q) fun q=>.inr (q.imp (w a) id),s2.i⟩
theorem Step.trans(s1:Step H H0 H H0' H')(s2:Step H' H0' H' H0'' H''):Step H H0 H H0'' H'':=s1.comp s2 fun _ q=>Same.free s1.h q
theorem Step.ss(b:Same B H)(s:Step H H0 H H0' H'):SStep B H0 H0' H':=⟨b.trans s.h,s.z,fun a o e=>(s.n a o e).imp id fun q=>q.imp (fun q=>Same.free b q) id,s.i⟩
theorem SStep.refl(b:Same B H)(i:Same H0 H):SStep B H0 H0 H:=⟨b,Same.refl _,fun _ _ e=>.inl e,i⟩
theorem SStep.trans(s1:SStep B H0 H0' H')(s2:SStep B H0' H0'' H''):SStep B H0 H0'' H'':=⟨s2.b,s1.z.trans s2.z,fun a o e=>(s2.n a o e).elim (fun q=>s1.n a o q) .inr,s2.i⟩
theorem RR.step(r:RR K C Hs H0 H v s)(st:Step H H0 H H0' H'):RR K C Hs H0' H' v s:=by
 cases s with
 | no=>exact r
 | sh d=>exact RD.mono st.z r
 | bo ds=>obtain⟨l,xs,e,h,q⟩:=r;exact⟨l,xs,e,st.h _ _ h,q.mono st.z⟩
 | bd ks ds=>obtain⟨l,xs,e,h,hk,q⟩:=r;exact⟨l,xs,e,st.h _ _ h,hk,q.mono st.z⟩
 | bt ks ds=>obtain⟨l,xs,e,h,hk,q⟩:=r;exact⟨l,xs,e,st.h _ _ h,hk,q.mono st.z⟩
 | own ds =>
  obtain⟨l,xs,e,h,n,m,q⟩:=r;refine⟨l,xs,e,st.h _ _ h,?_,m,q.mono st.z⟩
  cases z:H0' l with
  | none=>rfl
  | some o =>
   rcases st.n l o z with y|y|y
   ·rw[n] at y;cases y
   ·rw[h] at y;cases y
   ·have:=st.i l o z;rw[st.h _ _ h] at this;cases this;cases y
 | od ks ds =>
  obtain⟨l,xs,e,h,n,m,hk,q⟩:=r;refine⟨l,xs,e,st.h _ _ h,?_,m,hk,q.mono st.z⟩
  cases z:H0' l with
  | none=>rfl
  | some o =>
   rcases st.n l o z with y|y|y
   ·rw[n] at y;cases y
   ·rw[h] at y;cases y
   ·have:=st.i l o z;rw[st.h _ _ h] at this;cases this;cases y
 | ot ks ds =>
  obtain⟨l,xs,e,h,n,m,hk,q⟩:=r;refine⟨l,xs,e,st.h _ _ h,?_,m,hk,q.mono st.z⟩
  cases z:H0' l with
  | none=>rfl
  | some o =>
   rcases st.n l o z with y|y|y
   ·rw[n] at y;cases y
   ·rw[h] at y;cases y
   ·have:=st.i l o z;rw[st.h _ _ h] at this;cases this;cases y
theorem RR.weak{Hs':Hp}(r:RR K C Hs' H0 H v s)(w:∀a,Hs' a=none->Hs a=none):RR K C Hs H0 H v s:=by
 cases s with
 | own ds=>obtain⟨l,xs,e,h,n,m,q⟩:=r;exact⟨l,xs,e,h,n,w _ m,q⟩
 | od ks ds=>obtain⟨l,xs,e,h,n,m,q⟩:=r;exact⟨l,xs,e,h,n,w _ m,q⟩
 | ot ks ds=>obtain⟨l,xs,e,h,n,m,q⟩:=r;exact⟨l,xs,e,h,n,w _ m,q⟩
 | _=>exact r
theorem RSl.owned(r:RSl K C B H0 H v s)(o:JP s=true):∃l,v=.ref l/\H l≠none/\H0 l=none/\B l=none:=by
 cases s with
 | own ds=>obtain⟨l,xs,e,h,n,m,q⟩:=r;exact⟨l,e,(by rw[h];intro z;cases z),n,m⟩
 | od ks ds=>obtain⟨l,xs,e,h,n,m,q⟩:=r;exact⟨l,e,(by rw[h];intro z;cases z),n,m⟩
 | ot ks ds=>obtain⟨l,xs,e,h,n,m,q⟩:=r;exact⟨l,e,(by rw[h];intro z;cases z),n,m⟩
 | _=>cases o
theorem RR.owned(r:RR K C Hs H0 H v s)(o:JP s=true):∃l,v=.ref l/\H l≠none/\H0 l=none/\Hs l=none:=by
 cases s with
 | own ds=>obtain⟨l,xs,e,h,n,m,q⟩:=r;exact⟨l,e,(by rw[h];intro z;cases z),n,m⟩
 | od ks ds=>obtain⟨l,xs,e,h,n,m,q⟩:=r;exact⟨l,e,(by rw[h];intro z;cases z),n,m⟩
 | ot ks ds=>obtain⟨l,xs,e,h,n,m,q⟩:=r;exact⟨l,e,(by rw[h];intro z;cases z),n,m⟩
 | _=>cases o
theorem EnvR.step(I:EnvR K C B H0 H σ E)(st:Step H H0 H H0' H'):EnvR K C B H0' H' σ E:=by
 refine⟨I.b.trans st.h,st.i,I.len,fun i s e=>?_,I.sep,I.t⟩;rcases I.at' i s e with z|⟨v,h1,h2⟩
 ·exact .inl z
 ·refine .inr ⟨v,h1,?_⟩
  cases s with
  | no=>trivial
  | sh d=>exact RD.mono st.z h2
  | bo ds=>obtain⟨l,xs,e,h,q⟩:=h2;exact⟨l,xs,e,h,q.mono st.z⟩
  | own ds=>exact RR.step (Hs:=B) (s:=.own ds) h2 st
  | bd ks ds=>obtain⟨l,xs,e,h,hk,q⟩:=h2;exact⟨l,xs,e,h,hk,q.mono st.z⟩
  | bt ks ds=>obtain⟨l,xs,e,h,hk,q⟩:=h2;exact⟨l,xs,e,h,hk,q.mono st.z⟩
  | od ks ds=>exact RR.step (Hs:=B) (s:=.od ks ds) h2 st
  | ot ks ds=>exact RR.step (Hs:=B) (s:=.ot ks ds) h2 st
theorem EnvR.sub{E':List Sl}(I:EnvR K C B H0 H σ E)(hl:E'.length=E.length)(h:∀(i:Nat) (s:Sl),E'[i]?=some s->s=.no\/E[i]?=some s):EnvR K C B H0 H σ E':=by
 refine⟨I.b,I.h,I.len.trans hl.symm,fun i s e=>?_,fun i j s t v hij e1 e2 o1 o2=>?_,I.t⟩
 ·rcases h i s e with z|z
  ·exact .inl z
  ·exact I.at' i s z
 ·rcases h i _ e1 with z|z
  ·subst z;cases o1
  ·rcases h j _ e2 with y|y
   ·subst y;cases o2
   ·exact I.sep i j s t v hij z y o1 o2
theorem EnvR.put(I:EnvR K C B H0 H σ E){i:Nat}(hi:i<E.length){Hs:Hp}(hB:∀a,Hs a=none->B a=none)(hf:∀(j:Nat) (t:Sl) (l:Qg),E[j]?=some t->JP t=true->σ[j]?=some (some (.ref l))->Hs l≠none)(r:RR K C Hs H0 H v s)(hb:JmM s=false):EnvR K C B H0 H (σ.set i (some v)) (E.set i s):=by
 refine⟨I.b,I.h,by simp[I.len],fun j t e=>?_,fun j k s1 s2 u hjk e1 e2 o1 o2 e3 e4=>?_,I.t⟩
 ·rw[Gg] at e
  by_cases hj:i=j
  ·subst hj;rw[if_pos rfl,if_pos hi] at e;cases e;refine .inr ⟨v,by rw[Gg];simp[I.len,hi],?_⟩
   cases s with
   | no=>trivial
   | sh d=>exact r
   | bo ds=>cases hb
   | own ds=>obtain⟨l,xs,e,h,n,m,q⟩:=r;exact⟨l,xs,e,h,n,hB _ m,q⟩
   | bd ks ds=>cases hb
   | bt ks ds=>cases hb
   | od ks ds=>obtain⟨l,xs,e,h,n,m,q⟩:=r;exact⟨l,xs,e,h,n,hB _ m,q⟩
   | ot ks ds=>obtain⟨l,xs,e,h,n,m,q⟩:=r;exact⟨l,xs,e,h,n,hB _ m,q⟩
  ·rw[if_neg hj] at e;rcases I.at' j t e with z|⟨u,h1,h2⟩
   ·exact .inl z
   ·exact .inr ⟨u,by rw[Gg,if_neg hj];exact h1,h2⟩
 ·rw[Gg] at e1 e2 e3 e4
  by_cases hj:i=j
  ·subst hj;rw[if_neg hjk] at e2 e4;rw[if_pos rfl,if_pos hi] at e1;rw[if_pos rfl,if_pos (by rw[I.len];exact hi)] at e3;cases e3;cases e1;obtain⟨l,e,_,_,m⟩:=r.owned o1;subst e;exact hf k _ l e2 o2 e4 m
  ·rw[if_neg hj] at e1 e3
   by_cases hk:i=k
   ·subst hk;rw[if_pos rfl,if_pos hi] at e2;rw[if_pos rfl,if_pos (by rw[I.len];exact hi)] at e4;cases e2;have e4':v=u:=Q0 (Q0 e4);subst e4';obtain⟨l,e,_,_,m⟩:=r.owned o2;subst e;exact hf j _ l e1 o1 e3 m
   ·rw[if_neg hk] at e2 e4;exact I.sep j k _ _ u hjk e1 e2 o1 o2 e3 e4
theorem EnvR.ownG(I:EnvR K C B H0 H σ E){j:Nat}{t:Sl}{l:Qg}(e1:E[j]?=some t)(ho:JP t=true)(e2:σ[j]?=some (some (.ref l))):H l≠none/\H0 l=none/\B l=none:=by
 rcases I.at' j _ e1 with z|⟨v,h1,h2⟩
 ·subst z;cases ho
 ·rw[e2] at h1;cases h1;obtain⟨l',e,h⟩:=h2.owned ho;cases e;exact h
theorem EnvR.put'{H1 H01:Hp}(I:EnvR K C B H0 H σ E)(st:Step H H0 H H01 H1){i:Nat}(hi:i<E.length)(r:RR K C H H01 H1 v s)(hb:JmM s=false):EnvR K C B H01 H1 (σ.set i (some v)) (E.set i s) :=
 (I.step st).put hi (fun a q=>Same.free I.b q) (fun j t l e1 o1 e2=>(I.ownG e1 o1 e2).1) r hb
noncomputable def Je6:Option HO->Option HO
 | some o=>if isT o=true then some o else none
 | none=>none
noncomputable def Yg(Hs H0 H:Hp):Hp:=fun a=>match H0 a with
 | some o=>some o
 | none=>match Hs a with
  | none=>H a
  | some _=>Je6 (H a)
theorem W7{o:Option HO}{u:HO}(e:Je6 o=some u):o=some u/\isT u=true:=by
 cases o with
 | none=>cases e
 | some w =>
  unfold Je6 at e;dsimp only at e;split at e
  ·cases e;exact⟨rfl,by assumption⟩
  ·cases e
theorem JE(i:Same H0 H):Step Hs H0 H (Yg Hs H0 H) H:=by
 refine⟨Same.refl _,fun a o e=>by unfold Yg;rw[e],fun a o e=>?_,fun a o e=>?_⟩
 ·unfold Yg at e
  cases h:H0 a with
  | some u=>rw[h] at e;exact .inl e
  | none =>
   rw[h] at e
   cases h2:Hs a with
   | none=>exact .inr (.inl rfl)
   | some u=>rw[h2] at e;exact .inr (.inr (W7 e).2)
 ·unfold Yg at e
  cases h:H0 a with
  | some u=>rw[h] at e;cases e;exact i a _ h
  | none =>
   rw[h] at e
   cases h2:Hs a with
   | none=>rw[h2] at e;exact e
   | some u=>rw[h2] at e;exact(W7 e).1
theorem Ja9{a:Qg}{o:HO}(i:Same H0 H)(n:Hs a=none)(h:H a=some o):Yg Hs H0 H a=some o:=by
 unfold Yg
 cases z:H0 a with
 | some u=>rw[i a u z] at h;exact h
 | none=>dsimp only;rw[n];exact h
theorem JeV{a:Qg}{o:HO}(i:Same H0 H)(n:isT o=true)(h:H a=some o):Yg Hs H0 H a=some o:=by
 unfold Yg
 cases z:H0 a with
 | some u=>rw[i a u z] at h;exact h
 | none =>
  dsimp only
  cases y:Hs a with
  | none=>exact h
  | some u=>dsimp only;rw[h];unfold Je6;dsimp only;rw[if_pos n]
theorem JeU{a:Qg}{xs:List V}(i:Same H0 H)(h:SqT K H a xs):SqT K (Yg Hs H0 H) a xs:=by
 rcases h with (h|⟨o,h⟩)|h
 ·exact .inl (.inl (JeV i rfl h))
 ·exact .inl (.inr ⟨o,JeV i rfl h⟩)
 ·exact .inr h
noncomputable def Sl.frz:Sl->Option D
 | .sh d=>some d
 | .own ds=>some (.lst ds)
 | .od ks ds=>some (.dct ks ds)
 | _=>none
theorem RR.frz{d:D}(i:Same H0 H)(r:RR K C Hs H0 H v s)(e:s.frz=some d):RD K C (Yg Hs H0 H) v d:=by
 have st:Step Hs H0 H (Yg Hs H0 H) H:=JE i
 cases s with
 | no=>cases e
 | sh d'=>cases e;exact RD.mono st.z r
 | bo ds=>cases e
 | own ds=>cases e;obtain⟨l,xs,e,h,n,m,q⟩:=r;subst e;exact .mkL (Ja9 i m h) (q.mono st.z)
 | bd ks ds=>cases e
 | bt ks ds=>cases e
 | od ks ds=>cases e;obtain⟨l,xs,e,h,n,m,hk,q⟩:=r;subst e;exact .mkD (Ja9 i m h) hk (q.mono st.z)
 | ot ks ds=>cases e
end
end LE

namespace LE
open PySem L2 LR

noncomputable abbrev En:=List Sl
noncomputable abbrev Ev:=En->Option Sl
section
variable(K:Qz)(C:Qg)
noncomputable def SE(te:TE)(ev:Ev):Prop:=∀(B H0 H:Hp) (σ:St) (E:En) (r:Sl) (Q:VK),EnvR K C B H0 H σ E->ev E=some r ->
 (∀v H0' H',Step H H0 H H0' H'->RR K C H H0' H' v r->Q v H')->te σ H Q
noncomputable def ST(t:TT)(ev:En->Option Bool):Prop:=∀(B H0 H:Hp) (σ:St) (E:En) (r:Bool) (Q:Bool->Hp->Prop),EnvR K C B H0 H σ E->ev E=some r ->
 (∀H0' H',Step H H0 H H0' H'->Q r H')->t σ H Q
inductive RRL (Hs H0 H:Hp):List V->List Sl->Prop
 | nil:RRL Hs H0 H [] []
 | cons {v:V} {s:Sl} {vs:List V} {ss:List Sl}:RR K C Hs H0 H v s->RRL Hs H0 H vs ss->RRL Hs H0 H (v::vs) (s::ss)
noncomputable def SA(t:TA)(ev:En->Option (List Sl)):Prop:=∀(B H0 H:Hp) (σ:St) (E:En) (r:List Sl) (Q:List V->Hp->Prop),EnvR K C B H0 H σ E->ev E=some r ->
 (∀vs H0' H',Step H H0 H H0' H'->RRL K C H H0' H' vs r->Q vs H')->t σ H Q
noncomputable def OpS(r:R2)(f:Sl->Sl->Option Sl):Prop:=∀(Hs H0 H:Hp) (x y:V) (a b c:Sl) (Q:VK),Same H0 H->Same Hs H->RR K C Hs H0 H x a->RR K C Hs H0 H y b->f a b=some c ->
 (∀v H0' H',Step Hs H0 H H0' H'->RR K C Hs H0' H' v c->Q v H')->r x y H Q
noncomputable def UnS(r:V->Hp->VK->Prop)(f:Sl->Option Sl):Prop:=∀(Hs H0 H:Hp) (x:V) (a c:Sl) (Q:VK),Same H0 H->Same Hs H->RR K C Hs H0 H x a->f a=some c ->
 (∀v H0' H',Step Hs H0 H H0' H'->RR K C Hs H0' H' v c->Q v H')->r x H Q
noncomputable def Wj(r:List V->Hp->VK->Prop)(f:List Sl->Option Sl):Prop:=∀(Hs H0 H:Hp) (xs:List V) (as:List Sl) (c:Sl) (Q:VK),Same H0 H->Same Hs H->RRL K C Hs H0 H xs as->f as=some c ->
 (∀v H0' H',Step Hs H0 H H0' H'->RR K C Hs H0' H' v c->Q v H')->r xs H Q
end

noncomputable def Jb(i:Nat):Ev:=fun E=>match E[i]? with
 | some (.sh d)=>some (.sh d)
 | some (.bo ds)=>some (.bo ds)
 | some (.own ds)=>some (.bo ds)
 | some (.bd ks ds)=>some (.bd ks ds)
 | some (.od ks ds)=>some (.bd ks ds)
 | some (.bt ks ds)=>some (.bt ks ds)
 | some (.ot ks ds)=>some (.bt ks ds)
 | _=>none
noncomputable def eC(d:D):Ev:=fun _=>some (.sh d)
noncomputable def e2(f:Sl->Sl->Option Sl)(a b:Ev):Ev:=fun E=>(a E).bind fun x=>(b E).bind fun y=>f x y
noncomputable def e1(f:Sl->Option Sl)(a:Ev):Ev:=fun E=>(a E).bind f
noncomputable def a0:En->Option (List Sl):=fun _=>some []
noncomputable def aC(a:Ev)(as:En->Option (List Sl)):En->Option (List Sl):=fun E=>(a E).bind fun x=>(as E).bind fun xs=>some (x::xs)
noncomputable def eF(f:List Sl->Option Sl)(as:En->Option (List Sl)):Ev:=fun E=>(as E).bind f
noncomputable def bool?:Sl->Option Bool
 | .sh (.bl b)=>some b
 | _=>none
noncomputable def Jjx(a b:Ev):Ev:=fun E=>((a E).bind bool?).bind fun k=>if k=true then b E else some (.sh (.bl false))
noncomputable def Jmm(a:Ev):Ev:=fun E=>((a E).bind bool?).bind fun k=>some (.sh (.bl (!k)))
noncomputable def eIf(c:En->Option Bool)(a b:Ev):Ev:=fun E=>(c E).bind fun k=>if k=true then a E else b E
noncomputable def sh?:Sl->Option D
 | .sh d=>some d
 | _=>none
noncomputable def JaX(f g:Sl->Sl->Option Sl)(a b c:Ev):Ev:=fun E=>((a E).bind sh?).bind fun x=>((b E).bind sh?).bind fun y=>((f (.sh x) (.sh y)).bind bool?).bind fun k=>if k=true then((c E).bind sh?).bind fun z=>g (.sh y) (.sh z) else some (.sh (.bl false))
noncomputable def tB?(a:Ev):En->Option Bool:=fun E=>(a E).bind bool?
noncomputable def tAnd?(a b:En->Option Bool):En->Option Bool:=fun E=>(a E).bind fun k=>if k=true then b E else some false
noncomputable def tOr?(a b:En->Option Bool):En->Option Bool:=fun E=>(a E).bind fun k=>if k=true then some true else b E
noncomputable def tNot?(a:En->Option Bool):En->Option Bool:=fun E=>(a E).bind fun k=>some (!k)

section
variable{K:Qz}{C:Qg}
theorem bind_some{α β:Type}{x:Option α}{f:α->Option β}{b:β}(e:x.bind f=some b):∃a,x=some a/\f a=some b:=by
 cases x with
 | none=>cases e
 | some a=>exact⟨a,rfl,e⟩
theorem UU{s:Sl}{b:Bool}(e:bool? s=some b):s=.sh (.bl b):=by
 cases s with
 | sh d=>cases d with
  | bl x=>cases e;rfl
  | _=>cases e
 | _=>cases e
variable{ta tb tc te:TE}{ea eb ec:Ev}
theorem JlT(i:Nat):SE K C (Wf i) (Jb i):=by
 intro B H0 H σ E r Q I e q;unfold Jb at e
 cases h:E[i]? with
 | none=>rw[h] at e;cases e
 | some s =>
  rw[h] at e;rcases I.at' i s h with z|⟨v,h1,h2⟩
  ·subst z;cases e
  ·refine⟨v,h1,q v H0 H (.refl I.h) ?_⟩
   cases s with
   | no=>cases e
   | sh d=>cases e;exact h2
   | bo ds=>cases e;obtain⟨l,xs,e,hl,r⟩:=h2;exact⟨l,xs,e,I.b _ _ hl,r⟩
   | own ds=>cases e;obtain⟨l,xs,e,hl,_,_,r⟩:=h2;exact⟨l,xs,e,hl,r⟩
   | bd ks ds=>cases e;obtain⟨l,xs,e,hl,r⟩:=h2;exact⟨l,xs,e,I.b _ _ hl,r⟩
   | bt ks ds=>cases e;obtain⟨l,xs,e,hl,r⟩:=h2;exact⟨l,xs,e,I.b _ _ hl,r⟩
   | od ks ds=>cases e;obtain⟨l,xs,e,hl,_,_,r⟩:=h2;exact⟨l,xs,e,hl,r⟩
   | ot ks ds=>cases e;obtain⟨l,xs,e,hl,_,_,r⟩:=h2;exact⟨l,xs,e,hl,r⟩
theorem Jp5:SE K C (tC .non) (eC .non):=fun _ _ _ _ _ _ _ I e q=>by cases e;exact q _ _ _ (.refl I.h) .non
theorem JqZ{b:Bool}:SE K C (tC (.bl b)) (eC (.bl b)):=fun _ _ _ _ _ _ _ I e q=>by cases e;exact q _ _ _ (.refl I.h) (.bl b)
theorem Jp1{i:Int}:SE K C (tC (.int i)) (eC (.int i)):=fun _ _ _ _ _ _ _ I e q=>by cases e;exact q _ _ _ (.refl I.h) (.int i)
theorem Jq1{r:R2}{f:Sl->Sl->Option Sl}(ho:OpS K C r f)(ha:SE K C ta ea)(hb:SE K C tb eb):SE K C (tOp r ta tb) (e2 f ea eb):=by
 intro B H0 H σ E c Q I e q;obtain⟨a,e1,e⟩:=bind_some e;obtain⟨b,e2,e⟩:=bind_some e;exact ha B H0 H σ E a _ I e1 fun x H1 H1' s1 r1=>hb B H1 H1' σ E b _ (I.step s1) e2 fun y H2 H2' s2 r2=>ho H H2 H2' x y a b c Q s2.i (s1.h.trans s2.h) (r1.step s2) (r2.weak fun a q=>Same.free s1.h q) e fun v H3 H3' s3 r3=>q v H3 H3' ((s1.trans s2).comp s3 fun _ z=>z) r3
theorem Jq3{r:V->Hp->VK->Prop}{f:Sl->Option Sl}(ho:UnS K C r f)(ha:SE K C ta ea):SE K C (tUn r ta) (e1 f ea):=by intro B H0 H σ E c Q I e q;obtain⟨a,e1,e⟩:=bind_some e;exact ha B H0 H σ E a _ I e1 fun x H1 H1' s1 r1=>ho H H1 H1' x a c Q s1.i s1.h r1 e fun v H3 H3' s3 r3=>q v H3 H3' (s1.comp s3 fun _ z=>z) r3
theorem Jp4:SA K C Jei a0:=fun _ _ _ _ _ _ _ I e q=>by cases e;exact q _ _ _ (.refl I.h) .nil
theorem RRL.step{Hs H0 H H0' H':Hp}{vs:List V}{ss:List Sl}(r:RRL K C Hs H0 H vs ss)(st:Step H H0 H H0' H'):RRL K C Hs H0' H' vs ss:=by
 induction r with
 | nil=>exact .nil
 | cons h _ ih=>exact .cons (h.step st) ih
theorem RRL.weak{Hs Hs' H0 H:Hp}{vs:List V}{ss:List Sl}(r:RRL K C Hs' H0 H vs ss)(w:∀a,Hs' a=none->Hs a=none):RRL K C Hs H0 H vs ss:=by
 induction r with
 | nil=>exact .nil
 | cons h _ ih=>exact .cons (h.weak w) ih
theorem Jok{tr:TA}{er:En->Option (List Sl)}(ha:SE K C ta ea)(hr:SA K C tr er):SA K C (Wr ta tr) (aC ea er):=by
 intro B H0 H σ E c Q I e q;obtain⟨a,e1,e⟩:=bind_some e;obtain⟨b,e2,e⟩:=bind_some e;cases e;exact ha B H0 H σ E a _ I e1 fun x H1 H1' s1 r1=>hr B H1 H1' σ E b _ (I.step s1) e2 fun y H2 H2' s2 r2=>q _ H2 H2' (s1.trans s2) (.cons (r1.step s2) (r2.weak fun a q=>Same.free s1.h q))
theorem JqY{r:List V->Hp->VK->Prop}{t:TA}{ev:En->Option (List Sl)}{f:List Sl->Option Sl}(hc:Wj K C r f)(ha:SA K C t ev):SE K C (tCB r t) (eF f ev):=by intro B H0 H σ E c Q I e q;obtain⟨a,e1,e⟩:=bind_some e;exact ha B H0 H σ E a _ I e1 fun x H1 H1' s1 r1=>hc H H1 H1' x a c Q s1.i s1.h r1 e fun v H3 H3' s3 r3=>q v H3 H3' (s1.comp s3 fun _ z=>z) r3
theorem JpV(ha:SE K C ta ea)(hb:SE K C tb eb):SE K C (JiQ ta tb) (Jjx ea eb):=by
 intro B H0 H σ E c Q I e q;obtain⟨k,e1,e⟩:=bind_some e;obtain⟨a,e0,e1⟩:=bind_some e1;refine ha B H0 H σ E a _ I e0 fun x H1 H1' s1 r1=>?_
 rw[UU e1] at r1;refine⟨k,RD.blI r1,?_⟩
 cases k with
 | true=>exact hb B H1 H1' σ E c Q (I.step s1) e fun y H2 H2' s2 r2=>q y H2 H2' (s1.trans s2) (r2.weak fun a q=>Same.free s1.h q)
 | false=>cases e;exact q _ _ _ s1 (RD.bl false)
theorem Jp6(ha:SE K C ta ea):SE K C (JiW ta) (Jmm ea):=by
 intro B H0 H σ E c Q I e q;obtain⟨k,e1,e⟩:=bind_some e;obtain⟨a,e0,e1⟩:=bind_some e1;refine ha B H0 H σ E a _ I e0 fun x H1 H1' s1 r1=>?_
 rw[UU e1] at r1;cases e;exact⟨k,RD.blI r1,q _ _ _ s1 (RD.bl _)⟩
theorem Jp0{c:TT}{cv:En->Option Bool}(hc:ST K C c cv)(ha:SE K C ta ea)(hb:SE K C tb eb):SE K C (tIf c ta tb) (eIf cv ea eb):=by
 intro B H0 H σ E r Q I e q;obtain⟨k,e1,e⟩:=bind_some e;refine hc B H0 H σ E k _ I e1 fun H1 H1' s1=>?_
 cases k with
 | true=>exact ha B H1 H1' σ E r Q (I.step s1) e fun y H2 H2' s2 r2=>q y H2 H2' (s1.trans s2) (r2.weak fun a q=>Same.free s1.h q)
 | false=>exact hb B H1 H1' σ E r Q (I.step s1) e fun y H2 H2' s2 r2=>q y H2 H2' (s1.trans s2) (r2.weak fun a q=>Same.free s1.h q)
theorem WH{s:Sl}{d:D}(e:sh? s=some d):s=.sh d:=by
 cases s with
 | sh d'=>cases e;rfl
 | _=>cases e
theorem Jk7{r r':R2}{f g:Sl->Sl->Option Sl}(ho:OpS K C r f)(ho':OpS K C r' g)(ha:SE K C ta ea)(hb:SE K C tb eb)(hc:SE K C tc ec):SE K C (Jeh r r' ta tb tc) (JaX f g ea eb ec):=by
 intro B H0 H σ E c Q I e q;obtain⟨a,e1,e⟩:=bind_some e;obtain⟨a',e1,f1⟩:=bind_some e1;obtain rfl:=WH f1;obtain⟨b,e2,e⟩:=bind_some e;obtain⟨b',e2,f2⟩:=bind_some e2;obtain rfl:=WH f2;obtain⟨k,e3,e⟩:=bind_some e;obtain⟨z,e4,e3⟩:=bind_some e3;refine ha B H0 H σ E _ _ I e1 fun x H1 H1' s1 r1=>hb B H1 H1' σ E _ _ (I.step s1) e2 fun y H2 H2' s2 r2=>?_
 have x2:RD K C H2 x a:=RD.mono s2.z r1
 have y2:RD K C H2 y b:=r2;refine ho H2' H2 H2' x y (.sh a) (.sh b) z _ s2.i (Same.refl _) x2 y2 e4 fun w H3 H3' s3 r3=>?_
 rw[UU e3] at r3;have s13:=(s1.trans s2).trans s3;refine⟨k,RD.blI r3,?_⟩
 cases k with
 | false=>cases e;exact q _ _ _ s13 (RD.bl false)
 | true =>
  obtain⟨d,e5,e⟩:=bind_some e;obtain⟨d',e5,f5⟩:=bind_some e5;obtain rfl:=WH f5;refine hc B H3 H3' σ E _ _ (I.step s13) e5 fun u H4 H4' s4 r4=>?_
  exact ho' H H4 H4' y u (.sh b) (.sh d) c Q s4.i (s13.h.trans s4.h) (RD.mono (s3.z.trans s4.z) y2) (show RD K C H4 u d from r4) e fun v H5 H5' s5 r5=>q v H5 H5' ((s13.trans s4).comp s5 fun _ z=>z) r5

theorem Joq(ha:SE K C te ea):ST K C (JiX te) (tB? ea):=by
 intro B H0 H σ E k Q I e q;obtain⟨a,e1,e⟩:=bind_some e;refine ha B H0 H σ E a _ I e1 fun x H1 H1' s1 r1=>?_
 rw[UU e] at r1;exact⟨k,RD.blI r1,q _ _ s1⟩
theorem Joo{c d:TT}{ev ew:En->Option Bool}(hc:ST K C c ev)(hd:ST K C d ew):ST K C (Jou c d) (tAnd? ev ew):=by
 intro B H0 H σ E k Q I e q;obtain⟨a,e1,e⟩:=bind_some e;refine hc B H0 H σ E a _ I e1 fun H1 H1' s1=>?_
 cases a with
 | true=>exact hd B H1 H1' σ E k Q (I.step s1) e fun H2 H2' s2=>q H2 H2' (s1.trans s2)
 | false=>cases e;exact q _ _ s1
theorem Jp8{c d:TT}{ev ew:En->Option Bool}(hc:ST K C c ev)(hd:ST K C d ew):ST K C (tOr c d) (tOr? ev ew):=by
 intro B H0 H σ E k Q I e q;obtain⟨a,e1,e⟩:=bind_some e;refine hc B H0 H σ E a _ I e1 fun H1 H1' s1=>?_
 cases a with
 | false=>exact hd B H1 H1' σ E k Q (I.step s1) e fun H2 H2' s2=>q H2 H2' (s1.trans s2)
 | true=>cases e;exact q _ _ s1
theorem Jop{c:TT}{ev:En->Option Bool}(hc:ST K C c ev):ST K C (JoA c) (tNot? ev):=by intro B H0 H σ E k Q I e q;obtain⟨a,e1,e⟩:=bind_some e;cases e;exact hc B H0 H σ E a _ I e1 fun H1 H1' s1=>q _ _ s1
end

noncomputable def Sl.m:Sl->Option (List D)
 | .sh (.lst ds)=>some ds
 | .bo ds=>some ds
 | .own ds=>some ds
 | _=>none
noncomputable def Sl.r:Sl->Option (List D)
 | .sh (.lst ds)=>some ds
 | .sh (.fz ds)=>some ds
 | .bo ds=>some ds
 | .own ds=>some ds
 | _=>none
noncomputable def Sl.q:Sl->Option (List D)
 | .sh (.lst ds)=>some ds
 | .sh (.fz ds)=>some ds
 | .sh (.tup ds)=>some ds
 | .bo ds=>some ds
 | .own ds=>some ds
 | _=>none
noncomputable def Sl.d:Sl->Option D
 | .sh d=>some d
 | .bo ds=>some (.lst ds)
 | .own ds=>some (.lst ds)
 | .bd ks ds=>some (.dct ks ds)
 | .od ks ds=>some (.dct ks ds)
 | .bt _ _=>none
 | .ot _ _=>none
 | .no=>none
section
variable{K:Qz}{C:Qg}{Hs H0 H:Hp}{v:V}{s:Sl}{ds:List D}{d:D}
theorem RR.m(r:RR K C Hs H0 H v s)(i:Same H0 H)(e:s.m=some ds):∃l xs,v=.ref l/\H l=some (.lst xs)/\RDL K C H0 xs ds:=by
 cases s with
 | no=>cases e
 | bo es=>cases e;exact r
 | own es=>cases e;obtain⟨l,xs,h1,h2,_,_,h3⟩:=r;exact⟨l,xs,h1,h2,h3⟩
 | bd _ _=>cases e
 | bt _ _=>cases e
 | od _ _=>cases e
 | ot _ _=>cases e
 | sh d=>cases d with
  | lst es=>cases e;obtain⟨l,xs,h1,h2,h3⟩:=RD.lstI r;exact⟨l,xs,h1,i _ _ h2,h3⟩
  | _=>cases e
theorem RR.r(r:RR K C Hs H0 H v s)(i:Same H0 H)(e:s.r=some ds):∃l xs,v=.ref l/\SqL K H l xs/\RDL K C H0 xs ds:=by
 cases s with
 | no=>cases e
 | bo es=>cases e;obtain⟨l,xs,h1,h2,h3⟩:=r;exact⟨l,xs,h1,.of h2,h3⟩
 | own es=>cases e;obtain⟨l,xs,h1,h2,_,_,h3⟩:=r;exact⟨l,xs,h1,.of h2,h3⟩
 | bd _ _=>cases e
 | bt _ _=>cases e
 | od _ _=>cases e
 | ot _ _=>cases e
 | sh d=>cases d with
  | lst es=>cases e;obtain⟨l,xs,h1,h2,h3⟩:=RD.lstI r;exact⟨l,xs,h1,.of (i _ _ h2),h3⟩
  | fz es=>cases e;obtain⟨l,xs,h1,h2,h3⟩:=RD.fzI r;exact⟨l,xs,h1,i.seq h2,h3⟩
  | _=>cases e
theorem RR.q(r:RR K C Hs H0 H v s)(i:Same H0 H)(e:s.q=some ds):∃l xs,v=.ref l/\(SqL K H l xs\/SqT K H l xs)/\RDL K C H0 xs ds:=by
 cases s with
 | no=>cases e
 | bo es=>cases e;obtain⟨l,xs,h1,h2,h3⟩:=r;exact⟨l,xs,h1,.inl (.of h2),h3⟩
 | own es=>cases e;obtain⟨l,xs,h1,h2,_,_,h3⟩:=r;exact⟨l,xs,h1,.inl (.of h2),h3⟩
 | bd _ _=>cases e
 | bt _ _=>cases e
 | od _ _=>cases e
 | ot _ _=>cases e
 | sh d=>cases d with
  | lst es=>cases e;obtain⟨l,xs,h1,h2,h3⟩:=RD.lstI r;exact⟨l,xs,h1,.inl (.of (i _ _ h2)),h3⟩
  | fz es=>cases e;obtain⟨l,xs,h1,h2,h3⟩:=RD.fzI r;exact⟨l,xs,h1,.inl (i.seq h2),h3⟩
  | tup es=>cases e;obtain⟨l,xs,h1,h2,h3⟩:=RD.tupI r;exact⟨l,xs,h1,.inr (i.seqT h2),h3⟩
  | _=>cases e
theorem RR.dat(r:RR K C Hs H0 H v s)(i:Same H0 H)(e:s.d=some d):RD K C H v d:=by
 cases s with
 | no=>cases e
 | bo es=>cases e;obtain⟨l,xs,h1,h2,h3⟩:=r;subst h1;exact .mkL h2 (h3.mono i)
 | own es=>cases e;obtain⟨l,xs,h1,h2,_,_,h3⟩:=r;subst h1;exact .mkL h2 (h3.mono i)
 | bd _ _=>cases e;obtain⟨l,xs,h1,h2,hk,h3⟩:=r;subst h1;exact .mkD h2 hk (h3.mono i)
 | bt _ _=>cases e
 | od _ _=>cases e;obtain⟨l,xs,h1,h2,_,_,hk,h3⟩:=r;subst h1;exact .mkD h2 hk (h3.mono i)
 | ot _ _=>cases e
 | sh d'=>cases e;exact RD.mono i r
theorem UY{p:Qg}{xs:List V}{Q:VK}(i:Same H0 H)(hs:Same Hs H)(hp:H p=none)(r:RDL K C H0 xs ds)(q:∀v H0' H',Step Hs H0 H H0' H'->RR K C Hs H0' H' v (.own ds)->Q v H'):Q (.ref p) (upd H p (.lst xs)) :=
 q _ H0 _ ⟨.new hp,Same.refl _,fun _ _ e=>.inl e,i.trans (.new hp)⟩ ⟨p,xs,rfl,Jm,Same.free i hp,Same.free hs hp,r⟩
theorem WK{p:Qg}{xs:List V}{Q:VK}(i:Same H0 H)(hs:Same Hs H)(hp:H p=none)(r:RDL K C H0 xs ds)(q:∀v H0' H',Step Hs H0 H H0' H'->RR K C Hs H0' H' v (.sh (.tup ds))->Q v H'):Q (.ref p) (upd H p (.tup xs)):=by
 have h0:H0 p=none:=Same.free i hp;refine q _ (upd H0 p (.tup xs)) _ ⟨.new hp,.new h0,fun a o e=>?_,fun a o e=>?_⟩ ?_
 ·by_cases h:a=p
  ·subst h;exact .inr (.inl (Same.free hs hp))
  ·rw[Jf h] at e;exact .inl e
 ·by_cases h:a=p
  ·subst h;rw[Jm] at e ⊢;exact e
  ·rw[Jf h] at e ⊢;exact i a o e
 ·exact RD.mkT (.of Jm) (r.mono (.new h0))
end

noncomputable def fI(g:Int->Int->D):Sl->Sl->Option Sl
 | .sh (.int a),.sh (.int b)=>some (.sh (g a b))
 | _,_=>none
noncomputable def fIc(c:Int->Int->Bool)(g:Int->Int->D):Sl->Sl->Option Sl
 | .sh (.int a),.sh (.int b)=>if c a b=true then some (.sh (g a b)) else none
 | _,_=>none
noncomputable def Jge(x y:Sl):Option Sl:=x.m.bind fun a=>y.m.bind fun b=>if a.length+b.length<=Qt then some (.own (a++b)) else none
noncomputable def J2:Sl->Sl->Option Sl
 | .sh (.int a),.sh (.int b)=>some (.sh (.int (a+b)))
 | .sh (.str a),.sh (.str b)=>if a.length+b.length<=Qt then some (.sh (.str (a++b))) else none
 | .sh (.tup a),.sh (.tup b)=>if a.isEmpty=false/\b.isEmpty=false/\a.length+b.length<=Qt then some (.sh (.tup (a++b))) else none
 | .sh (.lst a),y=>Jge (.sh (.lst a)) y
 | .bo a,y=>Jge (.bo a) y
 | .own a,y=>Jge (.own a) y
 | _,_=>none
noncomputable abbrev J0:=fI fun a b=>.int (a-b)
noncomputable abbrev fLt:=fI fun a b=>.bl (decide (a<b))
noncomputable abbrev fLe:=fI fun a b=>.bl (decide (a<=b))
noncomputable abbrev fGt:=fI fun a b=>.bl (decide (b<a))
noncomputable def WI(a:Int):Bool:=Nat.ble a.natAbs 18446744073709551615
theorem Zx{a:Int}:WI a=true↔-18446744073709551616<a/\a<18446744073709551616:=by unfold WI;rw[Lb];omega
noncomputable def JbH(a:Int):Bool:=Nat.ble a.natAbs 1073741823 && decide (0<a)
theorem smallP_ok{a:Int}:JbH a=true↔0<a/\a<1073741824:=by unfold JbH;rw[QL,Lb,decide_eq_true_eq];omega
noncomputable abbrev VS:=fIc (fun a b=>WI a || WI b) fun a b=>.int (a*b)
noncomputable abbrev Jdz:=fIc (fun _ b=>decide (0<b)) fun a b=>.int (a % b)
noncomputable abbrev Jmw:=fIc (fun _ b=>JbH b) fun a b=>.int (a / b)
noncomputable def Jce:Sl->Option Sl
 | .sh (.int a)=>some (.sh (.int (-a)))
 | _=>none
noncomputable def eqD(d e:D):Option Bool:=if (d.py.canLay0 && e.py.canLay0 && decide (min d.py.depth e.py.depth<=60))=true then some (LP d.py e.py) else none
noncomputable def eqA:D->D->Option Bool
 | .int a,.int b=>some (decide (a=b))
 | .str a,.str b=>some (decide (a=b))
 | .bl a,.bl b=>some (decide (a=b))
 | .non,.non=>some true
 | .non,.int _=>some false
 | .int _,.non=>some false
 | .non,.str _=>some false
 | .str _,.non=>some false
 | .non,.bl _=>some false
 | .bl _,.non=>some false
 | .int _,.str _=>some false
 | .str _,.int _=>some false
 | d,e=>eqD d e
noncomputable def fEq(x y:Sl):Option Sl:=x.d.bind fun d=>y.d.bind fun e=>(eqA d e).map fun k=>.sh (.bl k)
noncomputable def fNe(x y:Sl):Option Sl:=x.d.bind fun d=>y.d.bind fun e=>(eqA d e).map fun k=>.sh (.bl (!k))
noncomputable def D.isNon:D->Bool
 | .non=>true
 | _=>false
noncomputable def WV:Sl->Sl->Option Sl
 | x,.sh .non=>x.d.map fun d=>.sh (.bl (!d.isNon))
 | _,_=>none
noncomputable def fIx:Sl->Sl->Option Sl
 | .sh (.str z),.sh (.int i)=>if z.length<=Qt then(atI z.cps.toList i).map fun c=>.sh (.str ⟨#[c]⟩) else none
 | x,.sh (.int i)=>x.q.bind fun ds=>(atI ds i).map .sh
 | _,_=>none
section
variable{K:Qz}{C:Qg}
theorem o_I{g:Int->Int->V}{g':Int->Int->D}(h:∀i j H,RD K C H (g i j) (g' i j)):OpS K C (rI0 g) (fI g'):=by
 intro Hs H0 H x y a b c Q i hs ra rb e q;unfold fI at e;split at e
 ·cases e;exact⟨_,_,RD.intI ra,RD.intI rb,q _ _ _ (.refl i) (h _ _ _)⟩
 ·cases e
theorem Jkt{P:Int->Int->Prop}{c':Int->Int->Bool}{g:Int->Int->V}{g':Int->Int->D}(hp:∀i j,c' i j=true->P i j)(h:∀i j H,RD K C H (g i j) (g' i j)):OpS K C (rI P g) (fIc c' g'):=by
 intro Hs H0 H x y a b c Q i hs ra rb e q;unfold fIc at e;split at e
 ·split at e
  ·cases e;exact⟨_,_,RD.intI ra,RD.intI rb,hp _ _ (by assumption),q _ _ _ (.refl i) (h _ _ _)⟩
  ·cases e
 ·cases e
theorem Jpy:OpS K C (rI0 fun i j=>.int (i-j)) J0:=o_I fun _ _ _=>.int _
theorem JqQ:OpS K C (rI0 fun i j=>.bl (decide (i<j))) fLt:=o_I fun _ _ _=>.bl _
theorem JqP:OpS K C (rI0 fun i j=>.bl (decide (i<=j))) fLe:=o_I fun _ _ _=>.bl _
theorem JqN:OpS K C (rI0 fun i j=>.bl (decide (j<i))) fGt:=o_I fun _ _ _=>.bl _
theorem Jpw:OpS K C (rI CMul fun i j=>.int (i*j)) VS:=Jkt (fun i j h=>by simp only[K4,Zx] at h;exact h) fun _ _ _=>.int _
theorem Jpv:OpS K C (rI (fun _ j=>0<j) fun i j=>.int (i % j)) Jdz:=Jkt (fun i j h=>by simpa using h) fun _ _ _=>.int _
theorem Jpu:OpS K C (rI JoS fun i j=>.int (i / j)) Jmw:=Jkt (fun i j h=>smallP_ok.mp h) fun _ _ _=>.int _
theorem Jqj:UnS K C (rU fun i=>.int (-i)) Jce:=by
 intro Hs H0 H x a c Q i hs ra e q;unfold Jce at e;split at e
 ·cases e;exact⟨_,RD.intI ra,q _ _ _ (.refl i) (RD.int _)⟩
 ·cases e
noncomputable def Jit(K:Qz):R2:=fun x y H Q=>Jfu K x y H Q\/JlQ K x y H Q
theorem Jv{X:Cx}(hK:X.K=K):OpR X (binaryOp .Add) (Jit K):=(Jfl hK).or (hK▸Jkx)
theorem Jpt:OpS K C (Jit K) J2:=by
 intro Hs H0 H x y a b c Q i hs ra rb e q
 have cat:∀{a b:Sl},RR K C Hs H0 H x a->RR K C Hs H0 H y b->Jge a b=some c->Jit K x y H Q:=by
  intro a b ra rb e;obtain⟨xs,e1,e⟩:=bind_some e;obtain⟨ys,e2,e⟩:=bind_some e;split at e
  ·next hz=>cases e;obtain⟨l,us,rfl,h1,r1⟩:=ra.m i e1;obtain⟨l',ws,rfl,h2,r2⟩:=rb.m i e2;exact .inl (.inr (.inr ⟨l,l',us,ws,rfl,rfl,h1,h2,by rw[r1.1,r2.1];exact hz,fun p hp=>UY i hs hp (r1.append r2) q⟩))
  ·cases e
 unfold J2 at e;split at e
 ·cases e;exact .inl (.inl ⟨_,_,RD.intI ra,RD.intI rb,q _ _ _ (.refl i) (RD.int _)⟩)
 ·split at e
  ·cases e;exact .inl (.inr (.inl ⟨_,_,RD.strI ra,RD.strI rb,by assumption,q _ _ _ (.refl i) (RD.str _)⟩))
  ·cases e
 ·split at e
  ·next hz =>
   cases e;obtain⟨l,us,rfl,h1,r1⟩:=RD.tupI ra;obtain⟨l',ws,rfl,h2,r2⟩:=RD.tupI rb;have n1:us≠[]:=by rintro rfl;have:=r1.1;have z:=hz.1;simp at this;rw[QS this.symm] at z;cases z
   have n2:ws≠[]:=by rintro rfl;have:=r2.1;have z:=hz.2.1;simp at this;rw[QS this.symm] at z;cases z
   exact .inr ⟨l,l',us,ws,rfl,rfl,i.seqT h1,i.seqT h2,n1,by rw[r1.1,r2.1];exact hz.2.2,fun z=>absurd z n2,fun _ p hp=>WK i hs hp (r1.append r2) q⟩
  ·cases e
 ·exact cat ra rb e
 ·exact cat ra rb e
 ·exact cat ra rb e
 ·cases e
theorem Jcb{d e:D}{k:Bool}(h:eqD d e=some k):d.py.canLay0=true/\e.py.canLay0=true/\min d.py.depth e.py.depth<=60/\k=LP d.py e.py:=by
 unfold eqD at h;split at h
 ·next z=>cases h;simp only[QL,decide_eq_true_eq] at z;exact⟨z.1.1,z.1.2,z.2,rfl⟩
 ·cases h
theorem map_some{α β:Type}{x:Option α}{f:α->β}{b:β}(e:x.map f=some b):∃a,x=some a/\f a=b:=by
 cases x with
 | none=>cases e
 | some a=>cases e;exact⟨a,rfl,rfl⟩
theorem Jca{H:Hp}{x y:V}{d e:D}{k:Bool}(h:eqA d e=some k)(rx:RD K C H x d)(ry:RD K C H y e):(Jor x y=true/\decide (x=y)=k)\/eqD d e=some k:=by
 unfold eqA at h;split at h
 ·cases h;rw[RD.intI rx,RD.intI ry];exact .inl ⟨rfl,by simp⟩
 ·cases h;rw[RD.strI rx,RD.strI ry];exact .inl ⟨rfl,by simp⟩
 ·cases h;rw[RD.blI rx,RD.blI ry];exact .inl ⟨rfl,by simp⟩
 ·cases h;rw[RD.nonI rx,RD.nonI ry];exact .inl ⟨rfl,by simp⟩
 ·cases h;rw[RD.nonI rx,RD.intI ry];exact .inl ⟨rfl,by simp⟩
 ·cases h;rw[RD.intI rx,RD.nonI ry];exact .inl ⟨rfl,by simp⟩
 ·cases h;rw[RD.nonI rx,RD.strI ry];exact .inl ⟨rfl,by simp⟩
 ·cases h;rw[RD.strI rx,RD.nonI ry];exact .inl ⟨rfl,by simp⟩
 ·cases h;rw[RD.nonI rx,RD.blI ry];exact .inl ⟨rfl,by simp⟩
 ·cases h;rw[RD.blI rx,RD.nonI ry];exact .inl ⟨rfl,by simp⟩
 ·cases h;rw[RD.intI rx,RD.strI ry];exact .inl ⟨rfl,by simp⟩
 ·cases h;rw[RD.strI rx,RD.intI ry];exact .inl ⟨rfl,by simp⟩
 ·exact .inr h
theorem JqM:OpS K C (Jiu K) fEq:=by
 intro Hs H0 H x y a b c Q i hs ra rb e q;obtain⟨d,e1,e⟩:=bind_some e;obtain⟨d',e2,e⟩:=bind_some e;obtain⟨k,e3,rfl⟩:=map_some e;have r1:=ra.dat i e1;have r2:=rb.dat i e2;rcases Jca e3 r1 r2 with ⟨h1,h2⟩|h
 ·exact .inl ⟨h1,by rw[h2];exact q _ _ _ (.refl i) (RD.bl _)⟩
 ·obtain⟨h1,h2,h3,rfl⟩:=Jcb h;exact .inr ⟨_,_,r1.rep h1,r2.rep h2,h1,h2,h3,q _ _ _ (.refl i) (RD.bl _)⟩
theorem JqR:OpS K C (Jiy K) fNe:=by
 intro Hs H0 H x y a b c Q i hs ra rb e q;obtain⟨d,e1,e⟩:=bind_some e;obtain⟨d',e2,e⟩:=bind_some e;obtain⟨k,e3,rfl⟩:=map_some e;have r1:=ra.dat i e1;have r2:=rb.dat i e2;rcases Jca e3 r1 r2 with ⟨h1,h2⟩|h
 ·exact .inl ⟨h1,by rw[h2];exact q _ _ _ (.refl i) (RD.bl _)⟩
 ·obtain⟨h1,h2,h3,rfl⟩:=Jcb h;exact .inr ⟨_,_,r1.rep h1,r2.rep h2,h1,h2,h3,q _ _ _ (.refl i) (RD.bl _)⟩
theorem JhN{H:Hp}{x:V}{d:D}(r:RD K C H x d):decide (x=.non)=d.isNon:=by cases r <;> simp[D.isNon]
theorem Jku:OpS K C Jiz WV:=by
 intro Hs H0 H x y a b c Q i hs ra rb e q;unfold WV at e;split at e
 ·obtain⟨d,e1,rfl⟩:=map_some e;refine⟨RD.nonI rb,?_⟩;rw[JhN (ra.dat i e1)];exact q _ _ _ (.refl i) (RD.bl _)
 ·cases e
theorem RDL.atI{H:Hp}{xs:List V}{ds:List D}{i:Int}{d:D}(r:RDL K C H xs ds)(e:L2.atI ds i=some d):∃x,L2.atI xs i=some x/\RD K C H x d:=by unfold L2.atI at e ⊢;rw[r.1];obtain⟨j,e1,e⟩:=bind_some e;obtain⟨x,e2,r2⟩:=r.get e;exact⟨x,by rw[e1];exact e2,r2⟩
theorem JqO:OpS K C (rIx K) fIx:=by
 intro Hs H0 H x y a b c Q i hs ra rb e q;unfold fIx at e;split at e
 ·split at e
  ·obtain⟨z,e1,rfl⟩:=map_some e;rw[RD.strI ra,RD.intI rb];exact Jn0 (by assumption) e1 (q _ _ _ (.refl i) (RD.str _))
  ·cases e
 ·obtain⟨ds,e1,e⟩:=bind_some e;obtain⟨d,e2,rfl⟩:=map_some e;obtain⟨l,xs,rfl,h,r⟩:=ra.q i e1;obtain⟨v,e3,r3⟩:=r.atI e2;rw[RD.intI rb];rcases h with h|h
  ·exact JnZ h e3 (q _ _ _ (.refl i) r3)
  ·exact Jn1 h e3 (q _ _ _ (.refl i) r3)
 ·cases e
end
end LE

namespace LE
open PySem L2 LR

noncomputable def WX:List Sl->Option (List D)
 | []=>some []
 | s::ss=>s.frz.bind fun d=>(WX ss).bind fun ds=>some (d::ds)
noncomputable def U2(as:En->Option (List Sl)):Ev:=fun E=>(as E).bind fun ss=>(WX ss).bind fun ds=>if ds.length<=100 then some (.sh (.tup ds)) else none
noncomputable def ZM(as:En->Option (List Sl)):Ev:=fun E=>(as E).bind fun ss=>(WX ss).bind fun ds=>if ds.length<=100 then some (.own ds) else none
section
variable{K:Qz}{C:Qg}{t:TA}{ev:En->Option (List Sl)}{Hs H0 H:Hp}{ta te:TE}{ea:Ev}
theorem RRL.frz{vs:List V}{ss:List Sl}(i:Same H0 H)(r:RRL K C Hs H0 H vs ss):∀{ds:List D},WX ss=some ds->RDL K C (Yg Hs H0 H) vs ds:=by
 induction r with
 | nil=>intro ds e;cases e;exact .nil
 | cons h _ ih=>intro ds e;obtain⟨d,e1,e⟩:=bind_some e;obtain⟨ds',e2,e⟩:=bind_some e;cases e;exact .cons (h.frz i e1) (ih e2)
theorem Jqa(ha:SA K C t ev):SE K C (JoC t) (U2 ev):=by
 intro B H0 H σ E c Q I e q;obtain⟨ss,e1,e⟩:=bind_some e;obtain⟨ds,e2,e⟩:=bind_some e;split at e
 ·next hl =>
  cases e;refine ha B H0 H σ E ss _ I e1 fun vs H1 H1' s1 r1=>?_
  have f:=JE (Hs:=H) s1.i
  have r2:=r1.frz s1.i e2;exact⟨by rw[r2.1];exact Q5 hl (by decide),fun p hp=>WK f.i s1.h hp r2 fun v H2 H2' s2 r2=>q v H2 H2' ((s1.comp f fun _ z=>z).comp s2 fun _ z=>z) r2⟩
 ·cases e
theorem Jp3(ha:SA K C t ev):SE K C (Joy t) (ZM ev):=by
 intro B H0 H σ E c Q I e q;obtain⟨ss,e1,e⟩:=bind_some e;obtain⟨ds,e2,e⟩:=bind_some e;split at e
 ·next hl =>
  cases e;refine ha B H0 H σ E ss _ I e1 fun vs H1 H1' s1 r1=>?_
  have f:=JE (Hs:=H) s1.i
  have r2:=r1.frz s1.i e2;exact⟨by rw[r2.1];exact Q5 hl (by decide),fun p hp=>UY f.i s1.h hp r2 fun v H2 H2' s2 r2=>q v H2 H2' ((s1.comp f fun _ z=>z).comp s2 fun _ z=>z) r2⟩
 ·cases e

noncomputable def Sl.pass:Sl->Option Sl
 | .sh d=>some (.sh d)
 | .own ds=>some (.sh (.lst ds))
 | .bo ds=>some (.bo ds)
 | .bd ks ds=>some (.bd ks ds)
 | .od ks ds=>some (.sh (.dct ks ds))
 | .bt _ _=>none
 | .ot _ _=>none
 | .no=>none
end
noncomputable def WF:List Sl->Option (List Sl)
 | []=>some []
 | s::ss=>s.pass.bind fun d=>(WF ss).bind fun ds=>some (d::ds)
noncomputable def spE(K:Qz)(C:Qg)(n:Nat)(f:List Sl->Option Sl):Sp:=fun vs H Q _=>TabK K H/\∃H0 as r,Same H0 H/\RRL K C H H0 H vs as/\as.all (fun s=>!JP s)=true/\as.length=n/\f as=some r ∧
 ∀v H0' H',Step H H0 H H0' H'->RR K C H H0' H' v r->Q v H'
noncomputable def eU(n:Nat)(f:List Sl->Option Sl)(as:En->Option (List Sl)):Ev:=fun E=>(as E).bind fun ss=>(WF ss).bind fun bs=>if bs.length=n then f bs else none
section
variable{K:Qz}{C:Qg}{t:TA}{ev:En->Option (List Sl)}{Hs H0 H:Hp}{ta te:TE}{ea:Ev}
theorem RRL.len{vs:List V}{ss:List Sl}(r:RRL K C Hs H0 H vs ss):vs.length=ss.length:=by
 induction r with
 | nil=>rfl
 | cons _ _ ih=>simp[ih]
theorem JfF{n:Nat}{f:List Sl->Option Sl}{vs:List V}{Q:VK}{E:XK}(h:spE K C n f vs H Q E):vs.length=n:=by obtain⟨_,H0,as,r,_,h1,_,h2,_⟩:=h;rw[h1.len];exact h2
theorem RR.pass{v:V}{s s':Sl}(i:Same H0 H)(r:RR K C Hs H0 H v s)(e:s.pass=some s'):RR K C H (Yg Hs H0 H) H v s'/\JP s'=false:=by
 have st:Step Hs H0 H (Yg Hs H0 H) H:=JE i
 cases s with
 | no=>cases e
 | sh d=>cases e;exact⟨RD.mono st.z r,rfl⟩
 | own ds=>cases e;exact⟨RR.frz (s:=.own ds) i r rfl,rfl⟩
 | bo ds=>cases e;obtain⟨l,xs,h1,h2,h3⟩:=r;exact⟨⟨l,xs,h1,h2,h3.mono st.z⟩,rfl⟩
 | od ks ds=>cases e;exact⟨RR.frz (s:=.od ks ds) i r rfl,rfl⟩
 | ot ks ds=>cases e
 | bd ks ds=>cases e;obtain⟨l,xs,h1,h2,hk,h3⟩:=r;exact⟨⟨l,xs,h1,h2,hk,h3.mono st.z⟩,rfl⟩
 | bt ks ds=>cases e
theorem RRL.pass{vs:List V}{ss:List Sl}(i:Same H0 H)(r:RRL K C Hs H0 H vs ss):∀{bs:List Sl},WF ss=some bs->RRL K C H (Yg Hs H0 H) H vs bs/\bs.all (fun s=>!JP s)=true:=by
 induction r with
 | nil=>intro bs e;cases e;exact⟨.nil,rfl⟩
 | cons h _ ih=>intro bs e;obtain⟨d,e1,e⟩:=bind_some e;obtain⟨ds',e2,e⟩:=bind_some e;cases e;obtain⟨h1,h2⟩:=h.pass i e1;obtain⟨h3,h4⟩:=ih e2;exact⟨.cons h1 h3,by rw[List.all_cons,h2,h4];rfl⟩
theorem Joi{n:Nat}{f:List Sl->Option Sl}{X:XK}(ha:SA K C t ev):SE K C (JfM (spE K C n f) [] X t) (eU n f ev):=by
 intro B H0 H σ E c Q I e q;obtain⟨ss,e1,e⟩:=bind_some e;obtain⟨bs,e2,e⟩:=bind_some e;split at e
 ·next hl=>refine Jfx (ha B H0 H σ E ss _ I e1 fun vs H1 H1' s1 r1=>?_);obtain⟨h1,h2⟩:=r1.pass s1.i e2;have f:=JE (Hs:=H) s1.i;exact⟨I.t.mono (I.b.trans s1.h),_,bs,c,f.i,h1,h2,hl,e,fun v H2 H2' s2 r2=>q v H2 H2' ((s1.comp f fun _ z=>z).comp s2 fun a z=>Same.free s1.h z) (r2.weak fun a z=>Same.free s1.h z)⟩
 ·cases e

noncomputable def prE(p:Pr):D:=.tup [.int p.1,.int p.2]
noncomputable def JoK:D->Option Pr
 | .tup [.int a,.int b]=>some (a,b)
 | _=>none
noncomputable def Jde:List D->Option (List Pr)
 | []=>some []
 | d::ds=>(JoK d).bind fun p=>(Jde ds).bind fun ps=>some (p::ps)
end
theorem JaJ:∀ps:List Pr,Jde (ps.map prE)=some ps
 | []=>rfl
 | p::ps=>by rw[Qd,Jde,JaJ ps];rfl
theorem JgU{d:D}{p:Pr}(e:JoK d=some p):d=prE p:=by
 unfold JoK at e;split at e
 ·cases e;rfl
 ·cases e
theorem ZF:∀{ds:List D} {ps:List Pr},Jde ds=some ps->ds=ps.map prE
 | [],_,e=>by cases e;rfl
 | d::ds,_,e=>by obtain⟨p,e1,e⟩:=bind_some e;obtain⟨ps,e2,e⟩:=bind_some e;cases e;rw[JgU e1,ZF e2];rfl
noncomputable def Wm:List Pr->Bool
 | []=>true
 | [p]=>decide (1<=p.2)
 | p::q::r=>decide (1<=p.2) && decide (p.1+p.2<q.1) && Wm (q::r)
theorem WZ:∀{ps:List Pr},Wm ps=true->Good ps
 | [],_=>.nil
 | [p],h=>⟨fun i q e=>by
  cases i with
  | zero=>simp at e;subst e;simpa [Wm] using h
  | succ i=>simp at e,fun i q r e1 e2=>by simp at e2⟩
 | p::q::r,h=>by
  simp only[Wm,QL,decide_eq_true_eq] at h;have g:=WZ h.2;refine⟨fun i x e=>?_,fun i x y e1 e2=>?_⟩
  ·cases i with
   | zero=>simp at e;subst e;exact h.1.1
   | succ i=>exact g.one i x (by simpa using e)
  ·cases i with
   | zero=>simp at e1 e2;subst e1 e2;exact h.1.2
   | succ i=>exact g.gap i x y (by simpa using e1) (by simpa using e2)
theorem W0:∀{ps:List Pr},Good ps->Wm ps=true
 | [],_=>rfl
 | [p],g=>by simpa [Wm] using g.one 0 p rfl
 | p::q::r,g=>by
  have g':Good (q::r):=⟨fun i x e=>g.one (i+1) x (by simpa using e),fun i x y e1 e2=>g.gap (i+1) x y (by simpa using e1) (by simpa using e2)⟩
  simp only[Wm,QL,decide_eq_true_eq];exact⟨⟨g.one 0 p rfl,g.gap 0 p q rfl rfl⟩,W0 g'⟩
noncomputable def JdA:List Sl->Option Sl
 | [s]=>s.q.bind fun ds=>(Jde ds).bind fun ps=>if (Wm ps && decide (ps.length<=30))=true then some (.sh (.row ds)) else none
 | _=>none
noncomputable def U8:Sl->Option Sl
 | .sh (.row ds)=>some (.sh (.tup ds))
 | _=>none
section
variable{K:Qz}{C:Qg}{t:TA}{ev:En->Option (List Sl)}{Hs H0 H:Hp}{ta te:TE}{ea:Ev}
theorem JnI{xs:List V}{ps:List Pr}(r:RDL K C H xs (ps.map prE)):Prs K H xs ps:=by
 refine⟨by rw[r.1];simp,fun i x d h1 h2=>?_⟩;rw[Qm] at h2
 cases e:ps[i]? with
 | none=>rw[e] at h2;cases h2
 | some p=>rw[e] at h2;cases h2;have h:=r.2 i x (prE p) h1 (by rw[Qm,e];rfl);exact RD.rep h rfl
theorem Jnl{xs:List V}{ps:List Pr}(i:Same H0 H)(r:Prs K H xs ps):RDL K C (Yg Hs H0 H) xs (ps.map prE):=by refine⟨by rw[r.len];simp,fun j x d h1 h2=>?_⟩;obtain⟨p,a,e1,e2,e3⟩:=r.at h1;rw[Qm,e1] at h2;cases h2;subst e2;exact .mkT (JeU i e3) (.cons (.int _) (.cons (.int _) .nil))
theorem Jp7{X:XK}(ha:SA K C t ev):SE K C (JfO C (We C K) [] X t) (eF JdA ev):=by
 intro B H0 H σ E c Q I e q;obtain⟨ss,e1,e⟩:=bind_some e;refine LR.Jfz (ha B H0 H σ E ss _ I e1 fun vs H1 H1' s1 r1=>?_);unfold JdA at e;split at e
 ·next s =>
  cases r1 with
  | cons r1 r1' =>
   cases r1';obtain⟨ds,e2,e⟩:=bind_some e;obtain⟨ps,e3,e⟩:=bind_some e;split at e
   ·next hg =>
    cases e;simp only[QL,decide_eq_true_eq] at hg;have e4:=ZF e3;subst e4;obtain⟨l,xs,rfl,hq,r⟩:=r1.q s1.i e2;refine Joa ⟨l,xs,rfl,hq,JnI (r.mono s1.i)⟩ (WZ hg.1) hg.2 fun x H2 nx s2 R=>?_
    obtain⟨x',dx,t',ts,ex,hx,ht,hp⟩:=R;cases ex;have i2:Same H1 H2:=s1.i.trans s2;have f:=JE (Hs:=H) i2;refine q _ (Yg H H1 H2) H2 ⟨s1.h.trans s2,s1.z.trans f.z,fun a o e=>(f.n a o e).elim (fun z=>s1.n a o z) .inr,f.i⟩ ?_;have ts':=Jnl (Hs:=H) (C:=C) i2 hp;exact .row (Ja9 i2 (Same.free s1.h nx) hx) (JeU i2 (.of ht)) ts'.1 ts'.2
   ·cases e
 ·cases e
theorem JpW{K:Qz}{C:Qg}{ta:TE}{ea:Ev}(T:RowC K C)(ha:SE K C ta ea):SE K C (Jll K ta "stretches") (e1 U8 ea):=by
 intro B H0 H σ E c Q I e q;obtain⟨a,e1,e⟩:=bind_some e;refine ha B H0 H σ E a _ I e1 fun x H1 H1' s1 r1=>?_
 unfold U8 at e;split at e
 ·cases e;obtain⟨x',dx,t',ts,rfl,hx,ht,hp⟩:=RD.rowI r1;exact⟨x',C,dx,_,_,rfl,s1.i _ _ hx,T.cl,T.ns,JgM t',q _ _ _ s1 (RD.mkT ht hp)⟩
 ·cases e

noncomputable def ints?:List D->Option (List Int)
 | []=>some []
 | .int i::ds=>(ints? ds).map (i::·)
 | _::_=>none
noncomputable def bls?:List D->Option (List Bool)
 | []=>some []
 | .bl i::ds=>(bls? ds).map (i::·)
 | _::_=>none
end
theorem W5:∀ns:List Int,ints? (ns.map .int)=some ns
 | []=>rfl
 | n::ns=>by rw[Qd,ints?,W5 ns];rfl
theorem Jew:∀ns:List Bool,bls? (ns.map .bl)=some ns
 | []=>rfl
 | n::ns=>by rw[Qd,bls?,Jew ns];rfl
theorem UW:∀{ds:List D} {ns:List Int},ints? ds=some ns->ds=ns.map .int
 | [],_,e=>by cases e;rfl
 | .int i::ds,_,e=>by obtain⟨ns,e1,e2⟩:=map_some (show(ints? ds).map (i::·)=_ from e);rw[<- e2,UW e1];rfl
 | .non::_,_,e|.bl _::_,_,e|.str _::_,_,e|.tup _::_,_,e|.lst _::_,_,e|.fz _::_,_,e|.row _::_,_,e=>by cases e
theorem JbX:∀{ds:List D} {ns:List Bool},bls? ds=some ns->ds=ns.map .bl
 | [],_,e=>by cases e;rfl
 | .bl i::ds,_,e=>by obtain⟨ns,e1,e2⟩:=map_some (show(bls? ds).map (i::·)=_ from e);rw[<- e2,JbX e1];rfl
 | .non::_,_,e|.int _::_,_,e|.str _::_,_,e|.tup _::_,_,e|.lst _::_,_,e|.fz _::_,_,e|.row _::_,_,e=>by cases e
noncomputable def VR:List Sl->Option Sl
 | [.sh (.str x)]=>if x.length<=Qt then some (.sh (.int x.length)) else none
 | [s]=>s.q.map fun ds=>.sh (.int ds.length)
 | _=>none
noncomputable def Ja6:List Sl->Option Sl
 | [s]=>s.q.map fun ds=>.sh (.tup ds)
 | _=>none
noncomputable def Jgf:List Sl->Option Sl
 | [s]=>s.q.bind fun ds=>(ints? ds).map fun ns=>.sh (.int ns.sum)
 | _=>none
noncomputable def JjS:List Sl->Option Sl
 | [s]=>s.q.bind fun ds=>(bls? ds).map fun ns=>.sh (.bl (ns.any id))
 | _=>none
noncomputable def Jdy:List Sl->Option Sl
 | [.sh (.int a),.sh (.int b)]=>some (.sh (.int (min a b)))
 | _=>none
section
variable{K:Qz}{C:Qg}{Hs H0 H:Hp}
theorem RRL.one{vs:List V}{s:Sl}(r:RRL K C Hs H0 H vs [s]):∃v,vs=[v]/\RR K C Hs H0 H v s:=by
 cases r with
 | cons h t=>cases t;exact⟨_,rfl,h⟩
theorem RRL.two{vs:List V}{s t:Sl}(r:RRL K C Hs H0 H vs [s,t]):∃v w,vs=[v,w]/\RR K C Hs H0 H v s/\RR K C Hs H0 H w t:=by
 cases r with
 | cons h r=>cases r with
  | cons h' r=>cases r;exact⟨_,_,rfl,h,h'⟩
theorem Jo1:Wj K C (Jd7 K) VR:=by
 intro Hs H0 H xs as c Q i hs r e q;unfold VR at e;split at e
 ·split at e
  ·cases e;obtain⟨v,rfl,r0⟩:=r.one;rw[RD.strI r0];exact JkV (by assumption) (q _ _ _ (.refl i) (RD.int _))
  ·cases e
 ·obtain⟨v,rfl,r0⟩:=r.one;obtain⟨ds,e1,rfl⟩:=map_some e;obtain⟨l,xs,rfl,h,r1⟩:=r0.q i e1;have z:=q (.int ds.length) _ _ (.refl i) (RD.int _);rw[<- r1.1] at z;exact JcZ h z
 ·cases e
theorem Jjq:Wj K C (UJ K) Ja6:=by
 intro Hs H0 H xs as c Q i hs r e q;unfold Ja6 at e;split at e
 ·obtain⟨v,rfl,r0⟩:=r.one;obtain⟨ds,e1,rfl⟩:=map_some e;rename_i s
  have lst:∀{l:Qg} {ys:List V},v=.ref l->SqL K H l ys->RDL K C H0 ys ds->UJ K [v] H Q:=fun {l ys} ev h r2=>by subst ev;exact⟨l,ys,rfl,.inl ⟨h,fun p hp=>WK i hs hp r2 q⟩⟩
  cases s with
  | no=>cases e1
  | bo es=>cases e1;obtain⟨l,ys,h1,h2,h3⟩:=r0;exact lst h1 (.of h2) h3
  | own es=>cases e1;obtain⟨l,ys,h1,h2,_,_,h3⟩:=r0;exact lst h1 (.of h2) h3
  | bd _ _=>cases e1
  | bt _ _=>cases e1
  | od _ _=>cases e1
  | ot _ _=>cases e1
  | sh d=>cases d with
   | lst es=>cases e1;obtain⟨l,ys,h1,h2,h3⟩:=RD.lstI r0;exact lst h1 (.of (i _ _ h2)) h3
   | fz es=>cases e1;obtain⟨l,ys,h1,h2,h3⟩:=RD.fzI r0;exact lst h1 (i.seq h2) h3
   | tup es=>cases e1;obtain⟨l,ys,rfl,h2,h3⟩:=RD.tupI r0;exact⟨l,ys,rfl,.inr ⟨i.seqT h2,q _ _ _ (.refl i) r0⟩⟩
   | _=>cases e1
 ·cases e
theorem Jo3:Wj K C (JnP K) Jgf:=by
 intro Hs H0 H xs as c Q i hs r e q;unfold Jgf at e;split at e
 ·obtain⟨v,rfl,r0⟩:=r.one;obtain⟨ds,e1,e⟩:=bind_some e;obtain⟨ns,e2,rfl⟩:=map_some e;obtain⟨l,ys,rfl,h,r1⟩:=r0.q i e1;rw[UW e2] at r1;have:=r1.ints;subst this;exact⟨l,ns,rfl,h,q _ _ _ (.refl i) (RD.int _)⟩
 ·cases e
theorem Jo0:Wj K C (JnM K) JjS:=by
 intro Hs H0 H xs as c Q i hs r e q;unfold JjS at e;split at e
 ·obtain⟨v,rfl,r0⟩:=r.one;obtain⟨ds,e1,e⟩:=bind_some e;obtain⟨ns,e2,rfl⟩:=map_some e;obtain⟨l,ys,rfl,h,r1⟩:=r0.q i e1;rw[JbX e2] at r1;have:=r1.bls;subst this;exact⟨l,ns,rfl,h,q _ _ _ (.refl i) (RD.bl _)⟩
 ·cases e
theorem Jo2:Wj K C JnN Jdy:=by
 intro Hs H0 H xs as c Q i hs r e q;unfold Jdy at e;split at e
 ·cases e;obtain⟨v,w,rfl,r1,r2⟩:=r.two;rw[RD.intI r1,RD.intI r2];exact JiD (q _ _ _ (.refl i) (RD.int _))
 ·cases e
end

noncomputable def JoH:Sl->Option Bool
 | .sh .non=>some false
 | .sh (.bl b)=>some b
 | .sh (.int i)=>some (i != 0)
 | .sh (.str y)=>if y.length<=Qt then some ((y.length:Int) != 0) else none
 | s=>s.q.map fun ds=>!ds.isEmpty
noncomputable def tTru?(a:Ev):En->Option Bool:=fun E=>(a E).bind JoH
noncomputable def tyN:D->Option String
 | .non=>some "NoneType"
 | .bl _=>some "bool"
 | .int _=>some "int"
 | .str _=>some "str"
 | .tup _=>some "tuple"
 | .lst _=>some "list"
 | .fz _=>some "list"
 | .row _=>none
 | .dct _ _=>none
 | .dfz _ _=>none
 | .exc _=>none
noncomputable def Jcp(t n:String):Bool:=t == n || (t == "bool" && n == "int")
noncomputable def Jjy(n:String)(a:Ev):Ev:=fun E=>(a E).bind fun s=>s.d.bind fun d=>(tyN d).map fun t=>.sh (.bl (Jcp t n))
noncomputable def D.isRow:D->Bool
 | .row _=>true
 | _=>false
section
variable{K:Qz}{C:Qg}{Hs H0 H:Hp}{te:TE}{ea:Ev}
theorem RDL.empty{xs:List V}{ds:List D}(r:RDL K C H xs ds):xs.isEmpty=ds.isEmpty:=by cases xs <;> cases ds <;> first|rfl|(have:=r.1;simp at this)
theorem Jp9(ha:SE K C te ea):ST K C (Jln K te) (tTru? ea):=by
 intro B H0 H σ E k Q I e q;obtain⟨a,e1,e⟩:=bind_some e;refine ha B H0 H σ E a _ I e1 fun x H1 H1' s1 r1=>?_
 have seq:∀{a:Sl},RR K C H H1 H1' x a->a.q.map (fun ds=>!ds.isEmpty)=some k->∃k',JfY K x H1' k'/\Q k' H1':=fun {a} r1 e=>by
  obtain⟨ds,e2,rfl⟩:=map_some e;obtain⟨l,xs,rfl,h,r⟩:=r1.q s1.i e2;have z:=q _ _ s1;rw[<- r.empty] at z;rcases h with h|h
  ·exact⟨_,.inl ⟨xs,h,rfl⟩,z⟩
  ·exact⟨_,.inr (.inl ⟨xs,h,rfl⟩),z⟩
 unfold JoH at e;split at e
 ·cases e;rw[RD.nonI r1];exact⟨_,rfl,q _ _ s1⟩
 ·cases e;rw[RD.blI r1];exact⟨_,rfl,q _ _ s1⟩
 ·cases e;rw[RD.intI r1];exact⟨_,rfl,q _ _ s1⟩
 ·split at e
  ·cases e;rw[RD.strI r1];exact⟨_,⟨by assumption,rfl⟩,q _ _ s1⟩
  ·cases e
 ·exact seq r1 e
theorem RD.ty{x:V}{d:D}{t:String}(r:RD K C H x d)(e:tyN d=some t):TyS K H x (.type t):=by
 cases r with
 | non=>cases e;exact .of .non
 | bl b=>cases e;exact .of (.bl b)
 | int i=>cases e;exact .of (.int i)
 | str i=>cases e;exact .of (.str i)
 | tup h _ _=>cases e;exact .sqT h
 | lst h _ _=>cases e;exact .sqL (.of h)
 | fz h _ _=>cases e;exact .sqL h
 | row _ _ _ _=>cases e
 | dct _ _ _ _=>cases e
 | dfz _ _ _ _=>cases e
 | exc _ _=>cases e
noncomputable def Jg1(K:Qz)(n:String):Prop:=∀t∈["NoneType","bool","int","str","tuple","list"],kitOne K (.type t) (.type n)=some (Jcp t n)
theorem Jlq{d:D}{t:String}(e:tyN d=some t):t∈["NoneType","bool","int","str","tuple","list"]:=by cases d <;> cases e <;> simp
theorem Jp2{n:String}(hk:Jg1 K n)(ha:SE K C te ea):SE K C (tCB (JkN K) (Wr te (Wr (tC (.ty n)) Jei))) (Jjy n ea):=by
 intro B H0 H σ E c Q I e q;obtain⟨a,e1,e⟩:=bind_some e;obtain⟨d,e2,e⟩:=bind_some e;obtain⟨t,e3,rfl⟩:=map_some e;refine ha B H0 H σ E a _ I e1 fun x H1 H1' s1 r1=>?_
 exact JnY (RD.ty (r1.dat s1.i e2) e3) (hk t (Jlq e3)) (q _ _ _ s1 (RD.bl _))
end
theorem Jkg{K:Qz}:Jg1 K "int":=fun t ht=>by simp only[Qj,Gh,or_false] at ht;rcases ht with rfl | rfl | rfl | rfl | rfl | rfl <;> kernel_rfl
theorem JhY{K:Qz}:Jg1 K "bool":=fun t ht=>by simp only[Qj,Gh,or_false] at ht;rcases ht with rfl | rfl | rfl | rfl | rfl | rfl <;> kernel_rfl
end LE

namespace LE
open PySem L2 LR

mutual
inductive Pt where
 | nm (i:Nat)
 | tp (l:Pts)
inductive Pts where
 | nil
 | cons (p:Pt) (l:Pts)
end
mutual
noncomputable def Pt.bind:Pt->D->En->Option En
 | .nm i,d,E=>if i<E.length then some (E.set i (.sh d)) else none
 | .tp l,.tup ds,E=>l.bind ds E
 | .tp _,_,_=>none
noncomputable def Pts.bind:Pts->List D->En->Option En
 | .nil,[],E=>some E
 | .cons p l,d::ds,E=>(p.bind d E).bind fun E'=>l.bind ds E'
 | _,_,_=>none
end
mutual
noncomputable def Pt.slots:Pt->List Nat
 | .nm i=>[i]
 | .tp l=>l.slots
noncomputable def Pts.slots:Pts->List Nat
 | .nil=>[]
 | .cons p l=>p.slots++l.slots
end
mutual
theorem Pt.keep:∀{p:Pt} {d:D} {E E':En},p.bind d E=some E'->E'.length=E.length/\∀i,i∉p.slots->E'[i]?=E[i]?
 | .nm i,d,E,E',e=>by
  unfold Pt.bind at e;split at e
  ·cases e;refine⟨by simp,fun j hj=>?_⟩;rw[Gg,if_neg];intro z;exact hj (by simp[Pt.slots,z])
  ·cases e
 | .tp l,d,E,E',e=>by
  cases d with
  | tup ds=>exact Pts.keep (p:=l) (ds:=ds) (by simpa [Pt.bind] using e)
  | _=>simp[Pt.bind] at e
theorem Pts.keep:∀{p:Pts} {ds:List D} {E E':En},p.bind ds E=some E'->E'.length=E.length/\∀i,i∉p.slots->E'[i]?=E[i]?
 | .nil,[],E,E',e=>by simp[Pts.bind] at e;subst e;exact⟨rfl,fun _ _=>rfl⟩
 | .nil,_::_,_,_,e=>by simp[Pts.bind] at e
 | .cons _ _,[],_,_,e=>by simp[Pts.bind] at e
 | .cons p l,d::ds,E,E',e=>by rw[Pts.bind] at e;obtain⟨E1,e1,e2⟩:=bind_some e;obtain⟨h1,h2⟩:=Pt.keep e1;obtain⟨h3,h4⟩:=Pts.keep e2;refine⟨h3.trans h1,fun i hi=>?_⟩;simp[Pts.slots] at hi;rw[h4 i hi.2,h2 i hi.1]
end
section
variable(K:Qz)(C:Qg)
noncomputable def SG(g:TG)(p:Pt):Prop:=∀(B H0 H:Hp) (σ:St) (E E':En) (x:V) (d:D) (Q:St->Hp->Prop),EnvR K C B H0 H σ E->RD K C H0 x d->p.bind d E=some E'->(∀σ',EnvR K C B H0 H σ' E'->Q σ' H)->g x σ H Q
noncomputable def SGs(g:TGs)(p:Pts):Prop:=∀(B H0 H:Hp) (σ:St) (E E':En) (xs:List V) (ds:List D) (Q:St->Hp->Prop),EnvR K C B H0 H σ E->RDL K C H0 xs ds->p.bind ds E=some E'->(∀σ',EnvR K C B H0 H σ' E'->Q σ' H)->g xs σ H Q
end
section
variable{K:Qz}{C:Qg}
theorem EnvR.setSh{B H0 H:Hp}{σ:St}{E:En}{i:Nat}{v:V}{d:D}(I:EnvR K C B H0 H σ E)(hi:i<E.length)(r:RD K C H0 v d):EnvR K C B H0 H (σ.set i (some v)) (E.set i (.sh d)) :=
 I.put' (s:=.sh d) (.refl I.h) hi r rfl
theorem JqI(i:Nat):SG K C (Vs i) (.nm i):=by
 intro B H0 H σ E E' x d Q I r e q;rw[Pt.bind] at e;split at e
 ·cases e;exact q _ (I.setSh (by assumption) r)
 ·cases e
theorem Jpg:SGs K C JmG .nil:=by
 intro B H0 H σ E E' xs ds Q I r e q
 cases ds with
 | nil =>
  cases xs with
  | nil=>rw[Pts.bind] at e;cases e;exact⟨rfl,q σ I⟩
  | cons _ _=>have:=r.1;simp at this
 | cons _ _=>simp[Pts.bind] at e
theorem JmH{g:TG}{gs:TGs}{p:Pt}{ps:Pts}(h:SG K C g p)(hs:SGs K C gs ps):SGs K C (JhC g gs) (.cons p ps):=by
 intro B H0 H σ E E' xs ds Q I r e q
 cases ds with
 | nil=>simp[Pts.bind] at e
 | cons d ds =>
  cases xs with
  | nil=>have:=r.1;simp at this
  | cons x xs=>rw[Pts.bind] at e;obtain⟨E1,e1,e2⟩:=bind_some e;exact⟨x,xs,rfl,h B H0 H σ E E1 x d _ I r.head e1 fun σ1 I1=>hs B H0 H σ1 E1 E' xs ds Q I1 r.tail e2 q⟩
theorem JqJ{n:Nat}{gs:TGs}{ps:Pts}(hn:∀(ds:List D) (E E':En),ps.bind ds E=some E'->ds.length=n)(hs:SGs K C gs ps):SG K C (JhD K n gs) (.tp ps):=by
 intro B H0 H σ E E' x d Q I r e q
 cases d with
 | tup ds=>rw[Pt.bind] at e;obtain⟨a,xs,rfl,h,r⟩:=RD.tupI r;exact⟨a,xs,rfl,I.h.seqT h,by rw[r.1];exact hn ds E E' e,hs B H0 H σ E E' xs ds Q I r e q⟩
 | _=>simp[Pt.bind] at e
noncomputable def Pts.len:Pts->Nat
 | .nil=>0
 | .cons _ l=>l.len+1
theorem Pts.bind_len:∀{ps:Pts} {ds:List D} {E E':En},ps.bind ds E=some E'->ds.length=ps.len
 | .nil,[],_,_,_=>rfl
 | .nil,_::_,_,_,e=>by simp[Pts.bind] at e
 | .cons _ _,[],_,_,e=>by simp[Pts.bind] at e
 | .cons p l,d::ds,E,E',e=>by rw[Pts.bind] at e;obtain⟨E1,e1,e2⟩:=bind_some e;rw[Qo,Pts.bind_len e2];rfl
theorem Jph{n:Nat}{gs:TGs}{ps:Pts}(hs:SGs K C gs ps)(hn:ps.len=n):SG K C (JhD K n gs) (.tp ps):=JqJ (fun _ _ _ e=>(Pts.bind_len e).trans hn) hs
end

section
variable(K:Qz)(C:Qg)
noncomputable def Jjc(A:Hp)(J:It)(ds:List D)(H0:Hp):Prop:=∀H0' H',SStep A H0 H0' H'->(∀(i:Nat) (d:D),ds[i]?=some d->J.go i H'/\∀x H2,J.yld i H' x H2->∃H02,Step H' H0' H' H02 H2/\RD K C H02 x d)/\J.stop ds.length H'
noncomputable def SI(m:Bool)(wi:TI)(ev:En->Option (List D)):Prop:=∀(B H0 H:Hp) (σ:St) (E:En) (ds:List D) (R:It->Hp->Prop),EnvR K C B H0 H σ E->ev E=some ds ->
 (∀J H0' H',Step H H0 H H0' H'->Jjc K C (if m=true then H' else B) J ds H0'->R J H')->wi σ H R
end
noncomputable def Sl.it(m:Bool):Sl->Option (List D)
 | .bo ds=>if m=true then some ds else none
 | s=>s.q
noncomputable def iE(m:Bool)(a:Ev):En->Option (List D):=fun E=>(a E).bind (Sl.it m)
noncomputable def iV(i:Nat):En->Option (List D):=fun E=>match E[i]? with
 | some (.bo ds)=>some ds
 | some (.sh d)=>(Sl.sh d).q
 | _=>none
noncomputable def rng(lo:Int)(n:Nat):List D:=(QQ n).map fun(i:Nat)=>.int (lo+(i:Int))
noncomputable def Jbg(a:Int):Bool:=Nat.ble a.natAbs 4611686018427387903
noncomputable def iR1(as:En->Option (List Sl)):En->Option (List D):=fun E=>(as E).bind fun ss=>match ss with
 | [.sh (.int n)]=>if Jbg n=true then some (rng 0 n.toNat) else none
 | _=>none
noncomputable def iR2(as:En->Option (List Sl)):En->Option (List D):=fun E=>(as E).bind fun ss=>match ss with
 | [.sh (.int a),.sh (.int b)]=>if (Jbg a && Jbg b)=true then some (rng a (b-a).toNat) else none
 | _=>none
section
variable{K:Qz}{C:Qg}{te:TE}{ea:Ev}{m:Bool}
theorem Vx{A H0:Hp}{a:Qg}{xs:List V}{ds:List D}(hd:∀H0' H',SStep A H0 H0' H'->SqL K H' a xs)(r:RDL K C H0 xs ds):Jjc K C A (Itl K a) ds H0:=by intro H0' H' st;have hq:=hd H0' H' st;refine⟨fun i d e=>?_,⟨xs,hq,by rw[r.1];exact Qx _⟩⟩;obtain⟨x,e1,r1⟩:=r.get e;refine⟨⟨xs,x,hq,e1⟩,fun y H2 ⟨e2,e3⟩=>?_⟩;subst e2;have:=e3 xs hq;rw[e1] at this;cases this;exact⟨H0',.refl st.i,r1.mono st.z⟩
theorem JmO{A H0:Hp}{a:Qg}{xs:List V}{ds:List D}(hd:∀H0' H',SStep A H0 H0' H'->SqT K H' a xs)(r:RDL K C H0 xs ds):Jjc K C A (Itt K a) ds H0:=by intro H0' H' st;have hq:=hd H0' H' st;refine⟨fun i d e=>?_,⟨xs,hq,by rw[r.1];exact Qx _⟩⟩;obtain⟨x,e1,r1⟩:=r.get e;refine⟨⟨xs,x,hq,e1⟩,fun y H2 ⟨e2,e3⟩=>?_⟩;subst e2;have:=e3 xs hq;rw[e1] at this;cases this;exact⟨H0',.refl st.i,r1.mono st.z⟩
theorem JpX(ha:SE K C te ea):SI K C m (JdH K te) (iE m ea):=by
 intro B H0 H σ E ds R I e q;obtain⟨s,e1,e⟩:=bind_some e
 cases s with
 | no=>cases e
 | bd _ _=>cases e
 | bt _ _=>cases e
 | od _ _=>cases e
 | ot _ _=>cases e
 | bo es =>
  unfold Sl.it at e;dsimp only at e;split at e
  ·next hm=>cases e;refine .inl (ha B H0 H σ E _ _ I e1 fun x H1 H1' s1 r1=>?_);obtain⟨l,xs,rfl,h,r⟩:=r1;refine⟨l,rfl,⟨xs,.of h⟩,q _ _ _ s1 ?_⟩;rw[if_pos hm];exact Vx (fun H0' H' st=>.of (st.b _ _ h)) r
  ·cases e
 | own es=>cases (show some es=some ds from e);refine .inl (ha B H0 H σ E _ _ I e1 fun x H1 H1' s1 r1=>?_);have f:=JE (Hs:=H) s1.i;have r2:=RR.frz s1.i r1 rfl;obtain⟨l,xs,rfl,h,r⟩:=RD.lstI r2;exact⟨l,rfl,⟨xs,.of (f.i _ _ h)⟩,q _ _ _ (s1.comp f fun _ z=>z) (Vx (fun H0' H' st=>.of (st.i _ _ (st.z _ _ h))) r)⟩
 | sh d =>
  cases d with
  | lst es=>cases (show some es=some ds from e);refine .inl (ha B H0 H σ E _ _ I e1 fun x H1 H1' s1 r1=>?_);obtain⟨l,xs,rfl,h,r⟩:=RD.lstI r1;exact⟨l,rfl,⟨xs,.of (s1.i _ _ h)⟩,q _ _ _ s1 (Vx (fun H0' H' st=>.of (st.i _ _ (st.z _ _ h))) r)⟩
  | fz es=>cases (show some es=some ds from e);refine .inl (ha B H0 H σ E _ _ I e1 fun x H1 H1' s1 r1=>?_);obtain⟨l,xs,rfl,h,r⟩:=RD.fzI r1;exact⟨l,rfl,⟨xs,s1.i.seq h⟩,q _ _ _ s1 (Vx (fun H0' H' st=>(st.z.trans st.i).seq h) r)⟩
  | tup es=>cases (show some es=some ds from e);refine .inr (ha B H0 H σ E _ _ I e1 fun x H1 H1' s1 r1=>?_);obtain⟨l,xs,rfl,h,r⟩:=RD.tupI r1;exact⟨l,rfl,⟨xs,s1.i.seqT h⟩,q _ _ _ s1 (JmO (fun H0' H' st=>(st.z.trans st.i).seqT h) r)⟩
  | _=>cases (show none=some ds from e)
theorem Jq0(i:Nat):SI K C false (JdH K (Wf i)) (iV i):=by
 intro B H0 H σ E ds R I e q;unfold iV at e;split at e
 ·next es h =>
  cases e;rcases I.at' i _ h with z|⟨v,h1,h2⟩
  ·cases z
  ·obtain⟨l,xs,rfl,hl,r⟩:=h2;refine .inl ⟨_,h1,l,rfl,⟨xs,.of (I.b _ _ hl)⟩,q _ _ _ (.refl I.h) (Vx (fun H0' H' st=>.of (st.b _ _ hl)) r)⟩
 ·next d h=>refine JpX (m:=false) (ea:=Jb i) (JlT i) B H0 H σ E ds R I ?_ q;show(Jb i E).bind _=_;unfold Jb;rw[h];exact e
 ·cases e
theorem Jk5{lo:Int}{n i:Nat}{d:D}(e:(rng lo n)[i]?=some d):i<n/\d=.int (lo+(i:Int)):=by
 unfold rng at e;rw[Qm] at e
 cases h:(QQ n)[i]? with
 | none=>rw[h] at e;cases e
 | some j=>rw[h] at e;cases e;obtain⟨h1,h2⟩:=Qk.mp h;simp at h1 h2;subst h2;exact⟨h1,rfl⟩
theorem JhP{A H0:Hp}{lo:Int}{n:Nat}:Jjc K C A (Itr lo n) (rng lo n) H0:=by intro H0' H' st;refine⟨fun i d e=>?_,by show n<=_;simp[rng]⟩;obtain⟨h1,rfl⟩:=Jk5 e;refine⟨h1,fun x H2 ⟨e1,e2⟩=>?_⟩;subst e1 e2;exact⟨H0',.refl st.i,.int _⟩
theorem Ut{a:Int}(h:Jbg a=true):-(2 ^ 62)<=a/\a<2 ^ 62:=by unfold Jbg at h;rw[Lb] at h;omega
theorem JpY{t:TA}{ev:En->Option (List Sl)}(ha:SA K C t ev):SI K C m (JlH t) (iR1 ev):=by
 intro B H0 H σ E ds R I e q;obtain⟨ss,e1,e⟩:=bind_some e;split at e
 ·split at e
  ·next hn =>
   cases e;refine ha B H0 H σ E _ _ I e1 fun vs H1 H1' s1 r1=>?_
   obtain⟨v,rfl,r⟩:=r1.one;rw[RD.intI r];exact⟨_,rfl,(Ut hn).1,(Ut hn).2,q _ _ _ s1 JhP⟩
  ·cases e
 ·cases e
theorem JpZ{t:TA}{ev:En->Option (List Sl)}(ha:SA K C t ev):SI K C m (JlI t) (iR2 ev):=by
 intro B H0 H σ E ds R I e q;obtain⟨ss,e1,e⟩:=bind_some e;split at e
 ·split at e
  ·next hn =>
   cases e;rw[QL] at hn;refine ha B H0 H σ E _ _ I e1 fun vs H1 H1' s1 r1=>?_
   obtain⟨v,w,rfl,r,r'⟩:=r1.two;rw[RD.intI r,RD.intI r'];exact⟨_,_,rfl,⟨(Ut hn.1).1,(Ut hn.1).2,(Ut hn.2).1,(Ut hn.2).2⟩,q _ _ _ s1 JhP⟩
  ·cases e
 ·cases e
end

noncomputable def yes?:En->Option Bool:=fun _=>some true
noncomputable def Vw(imp:List (Option Nat))(E:En):En:=imp.map fun o=>match o with
 | none=>.no
 | some k=>match E[k]? with
  | some (.own ds)=>.bo ds
  | some (.od ks ds)=>.bd ks ds
  | some (.ot ks ds)=>.bt ks ds
  | some s=>s
  | none=>.no
noncomputable def UD(p:Pt)(c:En->Option Bool)(a:Ev)(E1:En):List D->Option (List D)
 | []=>some []
 | d::ds=>(p.bind d E1).bind fun E2=>(c E2).bind fun k=>if k=true then(a E2).bind fun s=>s.frz.bind fun y=>(UD p c a E1 ds).bind fun ys=>some (y::ys) else UD p c a E1 ds
noncomputable def Y4(it:En->Option (List D))(p:Pt)(c:En->Option Bool)(a:Ev)(imp:List (Option Nat)):Ev:=fun E=>(it E).bind fun ds=>if ds.length<=Qt then(UD p c a (Vw imp E) ds).map .own else none
section
variable{K:Qz}{C:Qg}
theorem Jqb:ST K C JoD yes?:=fun _ _ _ _ _ _ _ I e q=>by cases e;exact q _ _ (.refl I.h)
theorem JjD{B H0 H:Hp}{σ:St}{E:En}{imp:List (Option Nat)}(I:EnvR K C B H0 H σ E):EnvR K C H H0 H (W2 imp σ) (Vw imp E):=by
 have get:∀(i:Nat) (s:Sl),(Vw imp E)[i]?=some s->s=.no\/∃v,(W2 imp σ)[i]?=some (some v)/\RSl K C H H0 H v s/\JP s=false:=fun i s e=>by
  unfold Vw at e;unfold W2;rw[Qm] at e ⊢
  cases h:imp[i]? with
  | none=>rw[h] at e;cases e
  | some o =>
   rw[h] at e
   cases o with
   | none=>cases e;exact .inl rfl
   | some k =>
    have e':(match E[k]? with|some (.own ds)=>Sl.bo ds|some (.od ks ds)=>Sl.bd ks ds|some (.ot ks ds)=>Sl.bt ks ds|some s=>s|none=>.no)=s:=Q0 e
    cases hE:E[k]? with
    | none=>rw[hE] at e';exact .inl e'.symm
    | some s' =>
     rw[hE] at e';rcases I.at' k s' hE with z|⟨v,h1,h2⟩
     ·subst z;exact .inl e'.symm
     ·have g:(σ[k]?).join=some v:=by rw[h1];rfl
      cases s' with
      | no=>exact .inl e'.symm
      | sh d=>dsimp only at e';subst e';exact .inr ⟨v,by show some ((σ[k]?).join)=_;rw[g],h2,rfl⟩
      | bo ds=>dsimp only at e';subst e';obtain⟨l,xs,q1,q2,q3⟩:=h2;exact .inr ⟨v,by show some ((σ[k]?).join)=_;rw[g],⟨l,xs,q1,I.b _ _ q2,q3⟩,rfl⟩
      | own ds=>dsimp only at e';subst e';obtain⟨l,xs,q1,q2,_,_,q3⟩:=h2;exact .inr ⟨v,by show some ((σ[k]?).join)=_;rw[g],⟨l,xs,q1,q2,q3⟩,rfl⟩
      | bd ks ds=>dsimp only at e';subst e';obtain⟨l,xs,q1,q2,q3⟩:=h2;exact .inr ⟨v,by show some ((σ[k]?).join)=_;rw[g],⟨l,xs,q1,I.b _ _ q2,q3⟩,rfl⟩
      | bt ks ds=>dsimp only at e';subst e';obtain⟨l,xs,q1,q2,q3⟩:=h2;exact .inr ⟨v,by show some ((σ[k]?).join)=_;rw[g],⟨l,xs,q1,I.b _ _ q2,q3⟩,rfl⟩
      | od ks ds=>dsimp only at e';subst e';obtain⟨l,xs,q1,q2,_,_,q3⟩:=h2;exact .inr ⟨v,by show some ((σ[k]?).join)=_;rw[g],⟨l,xs,q1,q2,q3⟩,rfl⟩
      | ot ks ds=>dsimp only at e';subst e';obtain⟨l,xs,q1,q2,_,_,q3⟩:=h2;exact .inr ⟨v,by show some ((σ[k]?).join)=_;rw[g],⟨l,xs,q1,q2,q3⟩,rfl⟩
 refine⟨Same.refl _,I.h,by simp[W2,Vw],fun i s e=>?_,fun i j s t v hij e1 e2 o1 o2=>?_,I.t.mono I.b⟩
 ·rcases get i s e with z|⟨v,h1,h2,_⟩
  ·exact .inl z
  ·exact .inr ⟨v,h1,h2⟩
 ·rcases get i _ e1 with z|⟨v,h1,h2,h3⟩
  ·subst z;cases o1
  ·rw[h3] at o1;cases o1
theorem Joj{wi:TI}{g:TG}{tt:TT}{te:TE}{imp:List (Option Nat)}{it:En->Option (List D)}{p:Pt}{c:En->Option Bool}{a:Ev}(hi:SI K C true wi it)(hg:SG K C g p)(hc:ST K C tt c)(ha:SE K C te a)
 (hp:(p.slots.all fun i=>match imp[i]? with|some none=>true|_=>false)=true):SE K C (JiR wi g tt te imp) (Y4 it p c a imp):=by
 intro B H0 H σ E r Q I e q;obtain⟨ds,e1,e⟩:=bind_some e;split at e
 ·next hl =>
  obtain⟨es,e2,rfl⟩:=map_some e;refine hi B H0 H σ E ds _ I e1 fun J H1 H1' s1 ok=>?_
  rw[if_pos rfl] at ok;have I1:EnvR K C H1' H1 H1' (W2 imp σ) (Vw imp E):=JjD (I.step s1)
  -- the loop: what was gathered,what comes
  refine⟨fun i m ys σ' H'=>m=ds.length-i/\i<=ds.length/\∃H0' gs rs,EnvR K C H1' H0' H' σ' (Vw imp E)/\Step H1' H1 H1' H0' H'/\RDL K C H0' ys gs/\UD p c a (Vw imp E) (ds.drop i)=some rs/\es=gs++rs/\gs.length<=i,
   ⟨ds.length,by simp,GZ _,H1,[],es,I1,.refl s1.i,.nil,e2,rfl,Qx _⟩,?_⟩
  rintro i m ys σ' H' ⟨rfl,hi',H0',gs,rs,I',st,rys,er,ees,hgl⟩;have stop:=ok H0' H' ⟨st.h,st.z,st.n,st.i⟩
  by_cases hlt:i<ds.length
  ·have hd:ds[i]?=some ds[i]:=by simp[hlt]
   obtain⟨go,yl⟩:=stop.1 i _ hd;refine .inr ⟨go,by rw[rys.1];omega,fun ys' σ2 H2=>∃H02 gs rs,EnvR K C H1' H02 H2 σ2 (Vw imp E)/\Step H1' H1 H1' H02 H2/\RDL K C H02 ys' gs/\UD p c a (Vw imp E) (ds.drop (i+1))=some rs/\es=gs++rs/\gs.length<=i+1,
    fun ys' σ2 H2 h=>⟨ds.length-(i+1),by omega,rfl,hlt,h⟩,fun x H2 y=>?_⟩
   obtain⟨H02,st2,rx⟩:=yl x H2 y;rw[Ll hlt,UD] at er;obtain⟨E2,b1,er⟩:=bind_some er;obtain⟨k,b2,er⟩:=bind_some er;refine hg H1' H02 H2 σ' (Vw imp E) E2 x _ _ (I'.step st2) rx b1 fun σ2 I2=>?_
   have back:∀{H03 H3:Hp},EnvR K C H1' H03 H3 σ2 E2->EnvR K C H1' H03 H3 σ2 (Vw imp E):=fun {H03 H3} J=>by
    obtain⟨k1,k2⟩:=Pt.keep b1;refine J.sub k1.symm fun j s ej=>?_
    by_cases hj:j∈p.slots
    ·have:=Lg.mp hp j hj
     have ej':=ej;unfold Vw at ej';rw[Qm] at ej'
     cases hm:imp[j]? with
     | none=>rw[hm] at this;cases this
     | some o =>
      rw[hm] at this ej'
      cases o with
      | none=>cases ej';exact .inl rfl
      | some _=>cases this
    ·exact .inr (by rw[k2 j hj];exact ej)
   refine hc H1' H02 H2 σ2 E2 k _ I2 b2 fun H03 H3 st3=>?_
   have st13:Step H1' H1 H1' H03 H3:=(st.trans st2).trans st3
   cases k with
   | false=>rw[if_neg (by simp)];rw[if_neg (by simp)] at er;exact⟨H03,gs,rs,back (I2.step st3),st13,rys.mono (st2.z.trans st3.z),er,ees,by omega⟩
   | true =>
    rw[if_pos rfl];rw[if_pos rfl] at er;obtain⟨s,b3,er⟩:=bind_some er;obtain⟨y',b4,er⟩:=bind_some er;obtain⟨ws,b5,er⟩:=bind_some er;cases er;refine ha H1' H03 H3 σ2 E2 s _ (I2.step st3) b3 fun v H04 H4 st4 r4=>?_
    have f:=JE (Hs:=H3) st4.i
    have st5:Step H3 H03 H3 (Yg H3 H04 H4) H4:=st4.comp f fun _ z=>z
    exact⟨_,gs++[y'],ws,back ((I2.step st3).step st5),st13.trans st5,(rys.mono ((st2.z.trans st3.z).trans st5.z)).snoc (RR.frz st4.i r4 b4),b5,by rw[ees,GM];rfl,by rw[QG];simp;exact hgl⟩
  ·have e3:i=ds.length:=by omega
   subst e3;refine .inl ⟨stop.2,by rw[rys.1];omega,fun p hp=>?_⟩;rw[List.drop_length,UD] at er;cases er;rw[GR] at ees;subst ees;exact UY (Hs:=H) st.i (s1.h.trans st.h) hp rys fun v H2 H2' s2 r2=>q v H2 H2' ((s1.trans st).comp s2 fun _ z=>z) r2
 ·cases e
end
end LE

namespace LE
open PySem L2 LR

inductive Out where
 | nx (E:En)|rt (r:Sl)|bk (E:En)|ct (E:En)
noncomputable abbrev Es:=En->Option Out
section
variable(K:Qz)(C:Qg)
noncomputable def Fin(B H0:Hp)(D:Ends):Out->Prop
 | .nx E=>∀σ' H0' H',SStep B H0 H0' H'->EnvR K C B H0' H' σ' E->D.nx σ' H'
 | .bk E=>∀σ' H0' H',SStep B H0 H0' H'->EnvR K C B H0' H' σ' E->D.bk σ' H'
 | .ct E=>∀σ' H0' H',SStep B H0 H0' H'->EnvR K C B H0' H' σ' E->D.ct σ' H'
 | .rt r=>∀v H0' H',SStep B H0 H0' H'->RR K C B H0' H' v r->D.rt v H'
noncomputable def SS(ts:TS)(ev:Es):Prop:=∀(B H0 H:Hp) (σ:St) (E:En) (o:Out) (D:Ends),EnvR K C B H0 H σ E->ev E=some o->Fin K C B H0 D o->ts D σ H
end
noncomputable def UA:Es:=fun E=>some (.nx E)
noncomputable def ZU(b:Es):Out->Option Out
 | .nx E=>b E
 | .rt r=>some (.rt r)
 | .bk E=>some (.bk E)
 | .ct E=>some (.ct E)
noncomputable def Jr(a b:Es):Es:=fun E=>(a E).bind (ZU b)
noncomputable def xIf(c:En->Option Bool)(a b:Es):Es:=fun E=>(c E).bind fun k=>if k=true then a E else b E
noncomputable def keep?:Sl->Option Sl
 | .sh d=>some (.sh d)
 | .own ds=>some (.own ds)
 | .od ks ds=>some (.od ks ds)
 | .ot ks ds=>some (.ot ks ds)
 | _=>none
noncomputable def ZW(i:Nat)(a:Ev):Es:=fun E=>(a E).bind fun s=>(keep? s).bind fun s=>if i<E.length then some (.nx (E.set i s)) else none
noncomputable def Jt(i:Nat)(a:Ev):Es:=fun E=>(a E).bind fun s=>s.frz.bind fun d=>if i<E.length then some (.nx (E.set i (.sh d))) else none
noncomputable def JoL(p:Pt)(a:Ev):Es:=fun E=>(a E).bind fun s=>s.frz.bind fun d=>(p.bind d E).map .nx
noncomputable def YB(a:Ev):Es:=fun E=>(a E).bind fun s=>(keep? s).map .rt
noncomputable def Ua(i:Nat):Es:=fun E=>match E[i]? with
 | some (.sh d)=>some (.rt (.sh d))
 | some (.own ds)=>some (.rt (.own ds))
 | some (.od ks ds)=>some (.rt (.od ks ds))
 | _=>none
noncomputable def Jdg(i:Nat)(a:Ev):Es:=fun E=>match E[i]? with
 | some (.own ds)=>(a E).bind fun s=>s.frz.bind fun d=>if ds.length<Qt then some (.nx (E.set i (.own (ds++[d])))) else none
 | _=>none
noncomputable def JgX(i:Nat)(a:Ev):Es:=fun E=>match E[i]? with
 | some (.own ds)=>(a E).bind fun s=>s.m.bind fun es=>if ds.length+es.length<=Qt then some (.nx (E.set i (.own (ds++es)))) else none
 | _=>none
noncomputable def Jls(i j:Nat)(f:Sl->Option Sl):Es:=fun E=>match E[i]? with
 | some (.own ds)=>(ds[ds.length-1]?).bind fun d=>(f (.sh d)).bind fun s=>(sh? s).bind fun d'=>if j<E.length then some (.nx ((E.set i (.own ds.dropLast)).set j (.sh d'))) else none
 | _=>none
noncomputable def Jdh(f:Int->Int->Int)(i:Nat)(a:Ev):Es:=fun E=>match E[i]? with
 | some (.sh (.int x))=>(a E).bind fun s=>match s with
  | .sh (.int y)=>some (.nx (E.set i (.sh (.int (f x y)))))
  | _=>none
 | _=>none
noncomputable def Jj3(i:Nat)(E:En):En:=match E[i]? with
 | some (.own ds)=>E.set i (.sh (.lst ds))
 | some (.od ks ds)=>E.set i (.sh (.dct ks ds))
 | _=>E
noncomputable def JoM(i:Nat)(a:Es):Es:=fun E=>a (Jj3 i E)
noncomputable def Y9(p:Pt)(b:Es):List D->Es
 | [],E=>some (.nx E)
 | d::ds,E=>(p.bind d E).bind fun E1=>(b E1).bind fun o=>match o with
  | .nx E2=>Y9 p b ds E2
  | .ct E2=>Y9 p b ds E2
  | .bk E2=>some (.nx E2)
  | .rt r=>some (.rt r)
noncomputable def Wi(it:En->Option (List D))(p:Pt)(b:Es):Es:=fun E=>(it E).bind fun ds=>Y9 p b ds E
noncomputable def Yh(c:En->Option Bool)(b:Es):Nat->Es
 | 0,_=>none
 | n+1,E=>(c E).bind fun k=>if k=true then(b E).bind fun o=>match o with
  | .nx E2=>Yh c b n E2
  | .ct E2=>Yh c b n E2
  | .bk E2=>some (.nx E2)
  | .rt r=>some (.rt r)
  else some (.nx E)
section
variable{K:Qz}{C:Qg}{B H0 H H0' H':Hp}{σ:St}{E:En}{D:Ends}{o:Out}{te:TE}{ea:Ev}{t u:TS}{et eu:Es}
theorem Fin.step(st:SStep B H0 H0' H')(f:Fin K C B H0 D o):Fin K C B H0' D o:=by
 cases o with
 | nx E=>exact fun σ' H1 H1' s1 I=>f σ' H1 H1' (st.trans s1) I
 | bk E=>exact fun σ' H1 H1' s1 I=>f σ' H1 H1' (st.trans s1) I
 | ct E=>exact fun σ' H1 H1' s1 I=>f σ' H1 H1' (st.trans s1) I
 | rt r=>exact fun v H1 H1' s1 I=>f v H1 H1' (st.trans s1) I
theorem EnvR.ss(I:EnvR K C B H0 H σ E):SStep B H0 H0 H:=.refl I.b I.h
theorem JoP:SS K C JiV UA:=fun _ _ _ _ _ _ _ I e f=>by cases e;exact f _ _ _ I.ss I
theorem Jqu(ht:SS K C t et)(hu:SS K C u eu):SS K C (JoB t u) (Jr et eu):=by
 intro B H0 H σ E o D I e f;obtain⟨o1,e1,e⟩:=bind_some e;refine ht B H0 H σ E o1 _ I e1 ?_
 cases o1 with
 | nx E1=>exact fun σ1 H1 H1' s1 I1=>hu B H1 H1' σ1 E1 o D I1 e (f.step s1)
 | bk E1=>cases e;exact f
 | ct E1=>cases e;exact f
 | rt r=>cases e;exact f
theorem Jq5{c:TT}{ec:En->Option Bool}(hc:ST K C c ec)(ht:SS K C t et)(hu:SS K C u eu):SS K C (Jox c t u) (xIf ec et eu):=by
 intro B H0 H σ E o D I e f;obtain⟨k,e1,e⟩:=bind_some e;refine hc B H0 H σ E k _ I e1 fun H1 H1' s1=>?_
 cases k with
 | true=>rw[if_pos rfl];exact ht B H1 H1' σ E o D (I.step s1) e (f.step (s1.ss I.b))
 | false=>rw[if_neg (by simp)];exact hu B H1 H1' σ E o D (I.step s1) e (f.step (s1.ss I.b))
theorem Jar{s r:Sl}(e:keep? s=some r):s=r/\JmM r=false:=by cases s <;> cases e <;> exact⟨rfl,rfl⟩
theorem Jqv{i:Nat}(ha:SE K C te ea):SS K C (Jda te (Vs i)) (ZW i ea):=by
 intro B H0 H σ E o D I e f;obtain⟨s,e1,e⟩:=bind_some e;obtain⟨s',e2,e⟩:=bind_some e;obtain⟨rfl,hb⟩:=Jar e2;split at e
 ·cases e;exact ha B H0 H σ E _ _ I e1 fun v H1 H1' s1 r1=>f _ _ _ (s1.ss I.b) (I.put' s1 (by assumption) r1 hb)
 ·cases e
theorem JoR{i:Nat}(ha:SE K C te ea):SS K C (Jda te (Vs i)) (Jt i ea):=by
 intro B H0 H σ E o D I e f;obtain⟨s,e1,e⟩:=bind_some e;obtain⟨d,e2,e⟩:=bind_some e;split at e
 ·cases e;refine ha B H0 H σ E _ _ I e1 fun v H1 H1' s1 r1=>?_
  have s2:Step H H0 H (Yg H H1 H1') H1':=s1.comp (JE s1.i) fun _ z=>z
  exact f _ _ _ (s2.ss I.b) ((I.step s2).setSh (by assumption) (RR.frz s1.i r1 e2))
 ·cases e
theorem Jqn{g:TG}{p:Pt}(ha:SE K C te ea)(hg:SG K C g p):SS K C (Jda te g) (JoL p ea):=by
 intro B H0 H σ E o D I e f;obtain⟨s,e1,e⟩:=bind_some e;obtain⟨d,e2,e⟩:=bind_some e;obtain⟨E',e3,rfl⟩:=map_some e;refine ha B H0 H σ E _ _ I e1 fun v H1 H1' s1 r1=>?_
 have s2:Step H H0 H (Yg H H1 H1') H1':=s1.comp (JE s1.i) fun _ z=>z
 exact hg B _ H1' σ E E' v d _ (I.step s2) (RR.frz s1.i r1 e2) e3 fun σ' I'=>f _ _ _ (s2.ss I.b) I'
theorem Jqt(ha:SE K C te ea):SS K C (Jlm te) (YB ea):=by intro B H0 H σ E o D I e f;obtain⟨s,e1,e⟩:=bind_some e;obtain⟨s',e2,rfl⟩:=map_some e;obtain⟨rfl,hb⟩:=Jar e2;exact ha B H0 H σ E _ _ I e1 fun v H1 H1' s1 r1=>f _ _ _ (s1.ss I.b) (r1.weak fun a z=>Same.free I.b z)
theorem JoQ{i:Nat}:SS K C (Jlm (Wf i)) (Ua i):=by
 intro B H0 H σ E o D I e f;unfold Ua at e;split at e
 ·next d h =>
  cases e;rcases I.at' i _ h with z|⟨v,h1,h2⟩
  ·cases z
  ·exact⟨v,h1,f _ _ _ I.ss h2⟩
 ·next d h =>
  cases e;rcases I.at' i _ h with z|⟨v,h1,h2⟩
  ·cases z
  ·exact⟨v,h1,f _ _ _ I.ss h2⟩
 ·next d h =>
  cases e;rcases I.at' i _ h with z|⟨v,h1,h2⟩
  ·cases z
  ·exact⟨v,h1,f _ _ _ I.ss h2⟩
 ·cases e
theorem EnvR.mutG{i:Nat}{l:Qg}{t t':Sl}{o':HO}(I:EnvR K C B H0 H σ E)(e1:E[i]?=some t)(ho:JP t=true)(ho':JP t'=true)(e2:σ[i]?=some (some (.ref l)))(r:RSl K C B H0 (upd H l o') (.ref l) t') :
 EnvR K C B H0 (upd H l o') σ (E.set i t'):=by
 obtain⟨h1,h2,h3⟩:=I.ownG e1 ho e2;have hi:i<E.length:=(Qk.mp e1).1;have nb:∀{A:Hp},A l=none->Same A H->Same A (upd H l o'):=fun {A} n s a o e=>by rw[Jf (Jo e n)];exact s a o e
 refine⟨nb h3 I.b,nb h2 I.h,by simp[I.len],fun j s e=>?_,fun j k s1 s2 v hjk a1 a2 p1 p2 a3=>?_,I.t⟩
 ·rw[Gg] at e
  by_cases hj:i=j
  ·subst hj;rw[if_pos rfl,if_pos hi] at e;cases e;exact .inr ⟨_,e2,r⟩
  ·rw[if_neg hj] at e;rcases I.at' j s e with z|⟨v,q1,q2⟩
   ·exact .inl z
   ·refine .inr ⟨v,q1,?_⟩
    cases s with
    | no=>trivial
    | sh d=>exact q2
    | bo es=>exact q2
    | bd ks es=>exact q2
    | bt ks es=>exact q2
    | own es =>
     obtain⟨l',ys,p1,p2,p3,p4,p5⟩:=q2;subst p1;have:l'≠l:=fun z=>by subst z;exact I.sep i j t _ (.ref l') hj e1 e ho rfl e2 q1
     exact⟨l',ys,rfl,by rw[Jf this];exact p2,p3,p4,p5⟩
    | od ks es =>
     obtain⟨l',ys,p1,p2,p3,p4,p5⟩:=q2;subst p1;have:l'≠l:=fun z=>by subst z;exact I.sep i j t _ (.ref l') hj e1 e ho rfl e2 q1
     exact⟨l',ys,rfl,by rw[Jf this];exact p2,p3,p4,p5⟩
    | ot ks es =>
     obtain⟨l',ys,p1,p2,p3,p4,p5⟩:=q2;subst p1;have:l'≠l:=fun z=>by subst z;exact I.sep i j t _ (.ref l') hj e1 e ho rfl e2 q1
     exact⟨l',ys,rfl,by rw[Jf this];exact p2,p3,p4,p5⟩
 ·have own:∀{j:Nat} {u:Sl},(E.set i t')[j]?=some u->JP u=true->∃g,E[j]?=some g/\JP g=true:=fun {j u} a w=>by
   rw[Gg] at a
   by_cases hj:i=j
   ·subst hj;exact⟨t,e1,ho⟩
   ·rw[if_neg hj] at a;exact⟨_,a,w⟩
  obtain⟨g1,b1,c1⟩:=own a1 p1;obtain⟨g2,b2,c2⟩:=own a2 p2;exact I.sep j k g1 g2 v hjk b1 b2 c1 c2 a3
theorem EnvR.mut{i:Nat}{l:Qg}{ds ds':List LE.D}{xs xs':List V}(I:EnvR K C B H0 H σ E)(e1:E[i]?=some (.own ds))(e2:σ[i]?=some (some (.ref l)))(r:RDL K C H0 xs' ds') :
 EnvR K C B H0 (upd H l (.lst xs')) σ (E.set i (.own ds')):=by
 obtain⟨_,h2,h3⟩:=I.ownG e1 rfl e2;exact I.mutG (t':=.own ds') e1 rfl rfl e2 ⟨l,xs',rfl,Jm,h2,h3,r⟩
theorem EnvR.slot{i:Nat}{ds:List LE.D}(I:EnvR K C B H0 H σ E)(e1:E[i]?=some (.own ds)):∃l xs,σ[i]?=some (some (.ref l))/\H l=some (.lst xs)/\H0 l=none/\B l=none/\RDL K C H0 xs ds:=by
 rcases I.at' i _ e1 with z|⟨v,h1,l,xs,rfl,h2,h3,h4,h5⟩
 ·cases z
 ·exact⟨l,xs,h1,h2,h3,h4,h5⟩
theorem Jqm{i:Nat}(ha:SE K C te ea):SS K C (JfN (tBM K "list" Jfv (Wf i) (Wr te Jei))) (Jdg i ea):=by
 intro B H0 H σ E o D I e f;unfold Jdg at e;split at e
 ·next ds h =>
  obtain⟨s,e1,e⟩:=bind_some e;obtain⟨d,e2,e⟩:=bind_some e;split at e
  ·next hz =>
   cases e;obtain⟨l,xs,g1,g2,g3,g4,g5⟩:=I.slot h;refine⟨_,g1,.inl ⟨rfl,_,.of g2⟩,?_⟩;refine ha B H0 H σ E _ _ I e1 fun v H1 H1' s1 r1=>?_
   have s2:Step H H0 H (Yg H H1 H1') H1':=s1.comp (JE s1.i) fun _ z=>z
   have I2:=I.step s2
   have m:=I2.mut (xs:=xs) h g1 ((g5.mono s2.z).snoc (RR.frz s1.i r1 e2));exact⟨l,xs,v,rfl,rfl,s2.h _ _ g2,by rw[g5.1];exact hz,f _ _ _ ⟨m.b,s2.z,(s2.ss I.b).n,m.h⟩ m⟩
  ·cases e
 ·cases e
theorem Jqp{i:Nat}(ha:SE K C te ea):SS K C (JfN (tBM K "list" Jfw (Wf i) (Wr te Jei))) (JgX i ea):=by
 intro B H0 H σ E o D I e f;unfold JgX at e;split at e
 ·next ds h =>
  obtain⟨s,e1,e⟩:=bind_some e;obtain⟨es,e2,e⟩:=bind_some e;split at e
  ·next hz =>
   cases e;obtain⟨l,xs,g1,g2,g3,g4,g5⟩:=I.slot h;refine⟨_,g1,.inl ⟨rfl,_,.of g2⟩,?_⟩;refine ha B H0 H σ E _ _ I e1 fun v H1 H1' s1 r1=>?_
   have I2:=I.step s1;obtain⟨l',ys,rfl,k1,k2⟩:=r1.m s1.i e2
   have m:=I2.mut (xs:=xs) h g1 ((g5.mono s1.z).append k2);exact⟨l,l',xs,ys,rfl,rfl,s1.h _ _ g2,k1,by rw[g5.1,k2.1];exact hz,f _ _ _ ⟨m.b,s1.z,(s1.ss I.b).n,m.h⟩ m⟩
  ·cases e
 ·cases e
theorem Jqs{i j:Nat}:SS K C (Jda (Jov K "list" JpI (Wf i)) (Vs j)) (Jls i j some):=by
 intro B H0 H σ E o D I e f;unfold Jls at e;split at e
 ·next ds h =>
  obtain⟨d,e1,e⟩:=bind_some e;obtain⟨s,e2,e⟩:=bind_some e;cases e2;obtain⟨d',e3,e⟩:=bind_some e;cases e3;split at e
  ·next hj =>
   cases e;obtain⟨l,xs,g1,g2,g3,g4,g5⟩:=I.slot h;rw[<- g5.1] at e1;obtain⟨y,e4,r4⟩:=g5.get e1;have hd:RDL K C H0 xs.dropLast ds.dropLast:=by rw[MZ,MZ,g5.1];exact g5.take _
   have m:=I.mut (xs:=xs) h g1 hd;refine⟨_,g1,.inl ⟨rfl,_,.of g2⟩,l,xs,y,rfl,rfl,g2,e4,?_⟩;exact f _ _ _ ⟨m.b,Same.refl _,fun _ _ e=>.inl e,m.h⟩ (m.setSh (by simpa using hj) r4)
  ·cases e
 ·cases e
theorem Jqo{i:Nat}{g:Int->Int->Int}(ha:SE K C te ea):SS K C (Jqg i te (ipI g)) (Jdh g i ea):=by
 intro B H0 H σ E o D I e f;unfold Jdh at e;split at e
 ·next x h =>
  obtain⟨s,e1,e⟩:=bind_some e;split at e
  ·cases e;rcases I.at' i _ h with z|⟨v,h1,h2⟩
   ·cases z
   ·have hi:i<E.length:=(Qk.mp h).1;refine⟨v,h1,ha B H0 H σ E _ _ I e1 fun w H1 H1' s1 r1=>⟨_,_,RD.intI h2,RD.intI r1,f _ _ _ (s1.ss I.b) ((I.step s1).setSh hi (.int _))⟩⟩
  ·cases e
 ·cases e
theorem EnvR.slotD{i:Nat}{ks:List Int}{ds:List LE.D}(I:EnvR K C B H0 H σ E)(e1:E[i]?=some (.od ks ds)):∃l xs,σ[i]?=some (some (.ref l))/\H l=some (dkO ks xs)/\H0 l=none/\B l=none/\ks.length=ds.length/\RDL K C H0 xs ds:=by
 rcases I.at' i _ e1 with z|⟨v,h1,l,xs,rfl,h2,h3,h4,h5⟩
 ·cases z
 ·exact⟨l,xs,h1,h2,h3,h4,h5⟩
theorem EnvR.frzG(I:EnvR K C B H0 H σ E){i:Nat}{t:Sl}{l:Qg}{o:HO}{d:LE.D}(h:E[i]?=some t)(ho:JP t=true)(g1:σ[i]?=some (some (.ref l)))(g2:H l=some o)(g5:∀H1,Same H0 H1->H1 l=some o->RD K C H1 (.ref l) d):∃H0',SStep B H0 H0' H/\EnvR K C B H0' H σ (E.set i (.sh d)):=by
 obtain⟨_,g3,g4⟩:=I.ownG h ho g1;have hi:i<E.length:=(Qk.mp h).1;have s0:Same H0 (upd H0 l o):=.new g3
 have s1:Same (upd H0 l o) H:=fun a o e=>by
  by_cases ha:a=l
  ·subst ha;rw[Jm] at e;cases e;exact g2
  ·rw[Jf ha] at e;exact I.h a o e
 refine⟨upd H0 l o,⟨I.b,s0,fun a o e=>?_,s1⟩,I.b,s1,by simp[I.len],fun j s e=>?_,fun j k u1 u2 v hjk a1 a2 w1 w2 a3=>?_,I.t⟩
 ·by_cases ha:a=l
  ·subst ha;exact .inr (.inl g4)
  ·rw[Jf ha] at e;exact .inl e
 ·rw[Gg] at e
  by_cases hj:i=j
  ·subst hj;rw[if_pos rfl,if_pos hi] at e;cases e;exact .inr ⟨_,g1,g5 _ s0 Jm⟩
  ·rw[if_neg hj] at e;rcases I.at' j s e with z|⟨v,q1,q2⟩
   ·exact .inl z
   ·refine .inr ⟨v,q1,?_⟩
    cases s with
    | no=>trivial
    | sh d=>exact RD.mono s0 q2
    | bo es=>obtain⟨l',ys,p1,p2,p3⟩:=q2;exact⟨l',ys,p1,p2,p3.mono s0⟩
    | bd ks es=>obtain⟨l',ys,p1,p2,hk,p3⟩:=q2;exact⟨l',ys,p1,p2,hk,p3.mono s0⟩
    | bt ks es=>obtain⟨l',ys,p1,p2,hk,p3⟩:=q2;exact⟨l',ys,p1,p2,hk,p3.mono s0⟩
    | own es =>
     obtain⟨l',ys,p1,p2,p3,p4,p5⟩:=q2;subst p1;have:l'≠l:=fun z=>by subst z;exact I.sep i j t _ (.ref l') hj h e ho rfl g1 q1
     exact⟨l',ys,rfl,p2,by rw[Jf this];exact p3,p4,p5.mono s0⟩
    | od ks es =>
     obtain⟨l',ys,p1,p2,p3,p4,hk,p5⟩:=q2;subst p1;have:l'≠l:=fun z=>by subst z;exact I.sep i j t _ (.ref l') hj h e ho rfl g1 q1
     exact⟨l',ys,rfl,p2,by rw[Jf this];exact p3,p4,hk,p5.mono s0⟩
    | ot ks es =>
     obtain⟨l',ys,p1,p2,p3,p4,hk,p5⟩:=q2;subst p1;have:l'≠l:=fun z=>by subst z;exact I.sep i j t _ (.ref l') hj h e ho rfl g1 q1
     exact⟨l',ys,rfl,p2,by rw[Jf this];exact p3,p4,hk,p5.mono s0⟩
 ·have own:∀{j:Nat} {u:Sl},(E.set i (.sh d))[j]?=some u->JP u=true->E[j]?=some u:=fun {j u} a w=>by
   rw[Gg] at a
   by_cases hj:i=j
   ·subst hj;rw[if_pos rfl,if_pos hi] at a;cases a;cases w
   ·rw[if_neg hj] at a;exact a
  exact I.sep j k u1 u2 v hjk (own a1 w1) (own a2 w2) w1 w2 a3
theorem EnvR.frz(I:EnvR K C B H0 H σ E)(i:Nat):∃H0',SStep B H0 H0' H/\EnvR K C B H0' H σ (Jj3 i E):=by
 unfold Jj3;split
 ·next ds h=>obtain⟨l,xs,g1,g2,g3,g4,g5⟩:=I.slot h;exact I.frzG h rfl g1 g2 fun H1 s0 hl=>.mkL hl (g5.mono s0)
 ·next ks ds h=>obtain⟨l,xs,g1,g2,g3,g4,hk,g5⟩:=I.slotD h;exact I.frzG h rfl g1 g2 fun H1 s0 hl=>.mkD hl hk (g5.mono s0)
 ·exact⟨H0,I.ss,I⟩
theorem Jqr(i:Nat)(ht:SS K C t et):SS K C t (JoM i et):=by intro B H0 H σ E o D I e f;obtain⟨H0',s,I'⟩:=I.frz i;exact ht B H0' H σ _ o D I' e (f.step s)
theorem Jqq{wi:TI}{g:TG}{it:En->Option (List LE.D)}{p:Pt}(hi:SI K C false wi it)(hg:SG K C g p)(ht:SS K C t et):SS K C (Jow wi g t) (Wi it p et):=by
 intro B H0 H σ E o D I e f;obtain⟨ds,e1,e⟩:=bind_some e;refine hi B H0 H σ E ds _ I e1 fun J H1 H1' s1 ok=>?_
 rw[if_neg (by simp)] at ok;refine⟨fun i m σ' H'=>m=ds.length-i/\i<=ds.length/\∃H0' E',EnvR K C B H0' H' σ' E'/\SStep B H1 H0' H'/\Y9 p et (ds.drop i) E'=some o,
  ⟨ds.length,by simp,GZ _,H1,E,I.step s1,.refl (I.b.trans s1.h) s1.i,e⟩,?_⟩
 rintro i m σ' H' ⟨rfl,hi',H0',E',I',st,er⟩;have stop:=ok H0' H' st;have f':Fin K C B H0' D o:=(f.step (s1.ss I.b)).step st
 by_cases hlt:i<ds.length
 ·have hd:ds[i]?=some ds[i]:=by simp[hlt]
  obtain⟨go,yl⟩:=stop.1 i _ hd;refine .inr ⟨go,fun σ2 H2=>∃H02 E2,EnvR K C B H02 H2 σ2 E2/\SStep B H1 H02 H2/\Y9 p et (ds.drop (i+1)) E2=some o,fun σ2 H2 h=>⟨ds.length-(i+1),by omega,rfl,hlt,h⟩,fun x H2 y=>?_⟩;obtain⟨H02,st2,rx⟩:=yl x H2 y;rw[Ll hlt,Y9] at er;obtain⟨E1,b1,er⟩:=bind_some er;obtain⟨o1,b2,er⟩:=bind_some er;have ss2:SStep B H0' H02 H2:=st2.ss I'.b;refine hg B H02 H2 σ' E' E1 x _ _ (I'.step st2) rx b1 fun σ2 I2=>?_
  refine ht B H02 H2 σ2 E1 o1 _ I2 b2 ?_
  cases o1 with
  | nx E2=>exact fun σ3 H3 H3' s3 I3=>⟨H3,E2,I3,(st.trans ss2).trans s3,er⟩
  | ct E2=>exact fun σ3 H3 H3' s3 I3=>⟨H3,E2,I3,(st.trans ss2).trans s3,er⟩
  | bk E2=>cases er;exact f'.step ss2
  | rt r=>cases er;exact f'.step ss2
 ·have e3:i=ds.length:=by omega
  subst e3;rw[List.drop_length,Y9] at er;cases er;exact .inl ⟨stop.2,f' _ _ _ I'.ss I'⟩
theorem Jlt{c:TT}{ec:En->Option Bool}{n:Nat}(hc:ST K C c ec)(ht:SS K C t et):SS K C (JiY c t) (Yh ec et n):=by
 intro B H0 H σ E o D I e f;refine⟨fun m σ' H'=>∃H0' E',EnvR K C B H0' H' σ' E'/\SStep B H0 H0' H'/\Yh ec et m E'=some o,⟨n,H0,E,I,I.ss,e⟩,?_⟩;rintro m σ' H' ⟨H0',E',I',st,er⟩
 cases m with
 | zero=>cases er
 | succ m =>
  rw[Yh] at er;obtain⟨k,b1,er⟩:=bind_some er;refine hc B H0' H' σ' E' k _ I' b1 fun H1 H1' s1=>?_
  have f':Fin K C B H1 D o:=(f.step st).step (s1.ss I'.b)
  cases k with
  | false=>rw[if_neg (by simp)] at er ⊢;cases er;exact f' _ _ _ (I'.step s1).ss (I'.step s1)
  | true =>
   rw[if_pos rfl] at er ⊢;obtain⟨o1,b2,er⟩:=bind_some er;refine⟨fun σ2 H2=>∃H02 E2,EnvR K C B H02 H2 σ2 E2/\SStep B H0 H02 H2/\Yh ec et m E2=some o,fun σ2 H2 h=>⟨m,KN _,h⟩,?_⟩;have st1:=st.trans (s1.ss I'.b);refine ht B H1 H1' σ' E' o1 _ (I'.step s1) b2 ?_
   cases o1 with
   | nx E2=>exact fun σ3 H3 H3' s3 I3=>⟨H3,E2,I3,st1.trans s3,er⟩
   | ct E2=>exact fun σ3 H3 H3' s3 I3=>⟨H3,E2,I3,st1.trans s3,er⟩
   | bk E2=>cases er;exact f'
   | rt r=>cases er;exact f'
end

noncomputable def Jb7:Out->Option Sl
 | .nx _=>some (.sh .non)
 | .rt r=>some r
 | .bk _=>none
 | .ct _=>none
noncomputable def Yq(N:Nat)(b:Es):List Sl->Option Sl:=fun as=>(b (as++QC (N-as.length) .no)).bind Jb7
section
variable{K:Qz}{C:Qg}
theorem RRL.get{Hs H0 H:Hp}:∀{vs:List V} {ss:List Sl} {i:Nat} {s:Sl},RRL K C Hs H0 H vs ss->ss[i]?=some s->∃v,vs[i]?=some v/\RR K C Hs H0 H v s
 | _,_,_,_,.nil,e=>by simp at e
 | _,_,0,_,.cons h _,e=>by simp at e;subst e;exact⟨_,rfl,h⟩
 | _,_,i+1,s,.cons _ t,e=>by obtain⟨v,h1,h2⟩:=RRL.get (i:=i) (s:=s) t (by simpa using e);exact⟨v,by simpa using h1,h2⟩
theorem JeT{N:List Str}{n:Nat}{b:Es}{ts:TS}{vs:List V}{H:Hp}{Q:VK}{E:XK}(hb:SS K C ts b)(h:spE K C n (Yq N.length b) vs H Q E):ts { nx:=fun _ H'=>Q .non H',rt:=Q } (L2.Yl N vs) H:=by
 obtain⟨tb,H0,as,r,i,ra,ho,hl,e,q⟩:=h;have lens:=ra.len
 have noOwn:∀(j:Nat) (s:Sl),as[j]?=some s->JP s=false:=fun j s e=>by
  have:=Lg.mp ho s (QX e)
  simpa using this
 have get:∀(j:Nat) (s:Sl),(as++QC (N.length-as.length) Sl.no)[j]?=some s->s=.no\/as[j]?=some s:=fun j s e=>by
  by_cases hj:j<as.length
  ·rw[QW hj] at e;exact .inr e
  ·rw[QU (by omega),MB] at e;split at e
   ·cases e;exact .inl rfl
   ·cases e
 have I:EnvR K C H H0 H (L2.Yl N vs) (as++QC (N.length-as.length) .no):=by
  refine⟨Same.refl _,i,by simp[L2.Yl,lens],fun j s e=>?_,fun j k s1 s2 v hjk e1 e2 w1 w2=>?_,tb⟩
  ·rcases get j s e with z|z
   ·exact .inl z
   ·obtain⟨v,h1,h2⟩:=ra.get z;refine .inr ⟨v,?_,?_⟩
    ·unfold L2.Yl;rw[QW (by have:=(Qk.mp h1).1;simpa using this),Qm,h1];rfl
    ·cases s with
     | no=>trivial
     | sh d=>exact h2
     | bo ds=>exact h2
     | own ds=>exact absurd (noOwn j _ z) (by simp[JP])
     | bd ks ds=>exact h2
     | bt ks ds=>exact h2
     | od ks ds=>exact absurd (noOwn j _ z) (by simp[JP])
     | ot ks ds=>exact absurd (noOwn j _ z) (by simp[JP])
  ·rcases get j _ e1 with z|z
   ·subst z;cases w1
   ·rw[noOwn j _ z] at w1;cases w1
 obtain⟨o,e1,e⟩:=bind_some e;refine hb H H0 H _ _ o _ I e1 ?_
 cases o with
 | nx E1=>cases e;exact fun σ' H1 H1' s1 I1=>q _ H1 H1' ⟨s1.b,s1.z,s1.n,s1.i⟩ RD.non
 | rt r'=>cases e;exact fun v H1 H1' s1 r1=>q v H1 H1' ⟨s1.b,s1.z,s1.n,s1.i⟩ r1
 | bk _=>cases e
 | ct _=>cases e
structure RowK (K:Qz) (C:Qg):Prop where
 t:RowC K C
 k1:findIn K (.ref C) "__class__"=some (some (.builtin "object.__class__"))
 k2:specialIn K (.builtin "object.__class__") "__get__"=some (some (.builtin "getset_descriptor.__get__"))
 k3:takesIn K (.builtin "object.__class__")=some true
 k4:mroIn K C (.type "object")=some true
end
end LE

namespace L2
open PySem PySem.Spec PyProof.Rows
end L2
namespace LE
open PySem L2 LR
noncomputable def JmJ(a:Int):Bool:=Nat.ble a.natAbs 1152921504606846975
theorem in60_ok{a:Int}:JmJ a=true↔-1152921504606846976<a/\a<1152921504606846976:=by unfold JmJ;rw[Lb];omega
section
variable{K:Qz}{C:Qg}{m:Bool}
noncomputable def str?:Sl->Option Str
 | .sh (.str z)=>some z
 | _=>none
end
end LE

namespace LE
open PySem L2 LR
noncomputable def okS(P:En->Prop):Option Out->Prop
 | some (.nx E)=>P E
 | some (.ct E)=>P E
 | _=>False
theorem Jnn{P:En->Prop}{E:En}:okS P (some (.nx E))=P E:=rfl
theorem Jnm{P:En->Prop}{E:En}:okS P (some (.ct E))=P E:=rfl
theorem JcJ{P:En->Prop}{o:Option Out}(h:okS P o):∃E,(o=some (.nx E)\/o=some (.ct E))/\P E:=by
 unfold okS at h;split at h
 ·exact⟨_,.inl rfl,h⟩
 ·exact⟨_,.inr rfl,h⟩
 ·exact h.elim
theorem YX{γ α β:Type}{p:Pt}{b:Es}{f:α->D}{k:Out->Option γ}{r:Option γ}(R:List α->β->En->Prop)(g:β->α->β):∀{as:List α} {E:En} (s:β) (h0:R as s E)
 (h:∀a as s E,R (a::as) s E->okS (R as (g s a)) ((p.bind (f a) E).bind b)) (fin:∀E',R [] (as.foldl g s) E'->k (.nx E')=r),(Y9 p b (as.map f) E).bind k=r
 | [],E,s,h0,_,fin=>fin E h0
 | a::as,E,s,h0,h,fin=>by
  obtain⟨E2,e2,r2⟩:=JcJ (h a as s E h0);have ih:=YX (k:=k) (r:=r) R g (as:=as) (E:=E2) (g s a) r2 h fin;rw[Qd,Y9]
  cases hp:p.bind (f a) E with
  | none=>rw[hp] at e2;rcases e2 with e2|e2 <;> cases e2
  | some E1=>rw[hp,QZ] at e2;rw[QZ];rcases e2 with e2|e2 <;> (rw[e2,QZ];exact ih)
theorem Vy{γ:Type}{p:Pt}{b:Es}{f:Nat->D}{n:Nat}{E:En}{k:Out->Option γ}{r:Option γ}(R:Nat->En->Prop)(h0:R 0 E)
 (h:∀i E,i<n->R i E->okS (R (i+1)) ((p.bind (f i) E).bind b)) (fin:∀E',R n E'->k (.nx E')=r):(Y9 p b ((QQ n).map f) E).bind k=r:=by
 refine YX (fun(as:List Nat) (i:Nat) E=>i+as.length=n/\as=Rb i as.length/\R i E) (fun i _=>i+1) 0 ⟨by simp,by simp[Rc],h0⟩ (fun a as i E ⟨hk,e,q⟩=>?_) fun E' ⟨hk,_,q⟩=>?_
 ·rw[Qo,List.range'_succ] at e;have e1:a=i:=(List.cons.inj e).1;subst e1;obtain⟨E2,e2,r2⟩:=JcJ (h a E (by rw[Qo] at hk;omega) q);have fin2:(a+1)+as.length=n/\as=Rb (a+1) as.length/\R (a+1) E2:=⟨by rw[Qo] at hk;omega,(List.cons.inj e).2,r2⟩
  rcases e2 with e2|e2 <;> (rw[e2];exact fin2)
 ·have e3:(QQ n).foldl (fun i _=>i+1) 0=n:=by simpa using hk
  rw[e3] at q;exact fin E' q
theorem Yi{α:Type}{p:Pt}{a:Ev}{E1:En}{f g:α->D}:∀{xs:List α},(∀x∈xs,((p.bind (f x) E1).bind a).bind Sl.frz=some (g x))->UD p yes? a E1 (xs.map f)=some (xs.map g)
 | [],_=>rfl
 | x::xs,h=>by have h1:=h x Qf;obtain⟨s,e1,e2⟩:=bind_some h1;obtain⟨E2,e3,e4⟩:=bind_some e1;rw[Qd,UD,e3];simp only[QZ,yes?,if_true,e4,e2];rw[Yi fun y hy=>h y (Qc _ hy)];rfl
theorem Ja0{α:Type}{p:Pt}{c:En->Option Bool}{a:Ev}{E1:En}{f g:α->D}{k:α->Bool}:∀{xs:List α},(∀x∈xs,(p.bind (f x) E1).bind c=some (k x)/\(k x=true->((p.bind (f x) E1).bind a).bind Sl.frz=some (g x)))->UD p c a E1 (xs.map f)=some ((xs.filter k).map g)
 | [],_=>rfl
 | x::xs,h=>by
  obtain⟨h1,h2⟩:=h x Qf;obtain⟨E2,e3,e4⟩:=bind_some h1;have ih:=Ja0 (xs:=xs) (fun y hy=>h y (Qc _ hy));rw[Qd,UD,e3];simp only[QZ,e4]
  cases hk:k x with
  | false=>rw[if_neg (by simp),ih,Gs (by simp[hk])]
  | true=>obtain⟨s,e1,e2⟩:=bind_some (h2 hk);rw[e3,QZ] at e1;rw[if_pos rfl,e1];simp only[QZ,e2];rw[ih,Gu hk];rfl
theorem JpU(n:Nat):rng 0 n=(QQ n).map fun i=>.int (i:Int):=by unfold rng;exact QE fun i _=>by rw[Li]
theorem Jlg:Qt=16777216:=rfl
theorem JaP{α β:Type}(f:α->β)(xs:List α)(i:Int):atI (xs.map f) i=(atI xs i).map f:=by
 unfold atI;rw[Qv]
 cases ixN xs.length i with
 | none=>rfl
 | some j=>simp
theorem JbV{α:Type}{xs:List α}{k:Nat}(h:k<xs.length):atI xs (k:Int)=some xs[k]:=by unfold atI ixN;rw[if_pos (by omega),if_pos (by omega)];simp[h]
theorem JbU{ns:List Int}{k:Int}(h0:0<=k)(h:k<(ns.length:Int)):atI ns k=some (cell ns k):=by
 obtain⟨j,rfl⟩:=Int.eq_ofNat_of_zero_le h0;have hj:j<ns.length:=by omega
 rw[JbV hj];simp[cell,hj]
theorem Jha{l:List Int}{k:Int}(h0:0<=k)(h1:k<(l.length:Int)):atI (l.map D.int) k=some (.int (Jd3 l k)):=by rw[JaP,JbU h0 h1];rfl
structure Kd {α:Type} (f:α->D) (n:Nat):Prop where
 lay:∀a,(f a).py.canLay0=true
 dep:∀a,(f a).py.depth<=n
 eqv:∀a b,LP (f a).py (f b).py=true↔a=b
theorem Kd.eq{α:Type}[DecidableEq α]{f:α->D}{n:Nat}(k:Kd f n)(h:n<=60)(a b:α):eqD (f a) (f b)=some (decide (a=b)):=by unfold eqD;have:=k.dep a;rw[k.lay a,k.lay b,if_pos (by simp;omega)];congr 1;rw[GQ,k.eqv];simp
theorem JmR:Kd D.int 1:=⟨fun _=>rfl,fun _=>by simp[D.py,MQ],fun a b=>by show(a == b)=true↔_;simp⟩
theorem VY{α:Type}{f:α->D}{n:Nat}(k:Kd f n):(∀xs:List α,K8 (D.pyL (xs.map f))=true)/\(∀xs:List α,LY (D.pyL (xs.map f))<=n)/\∀xs ys:List α,Lo (D.pyL (xs.map f)) (D.pyL (ys.map f))=true↔xs=ys:=by
 refine⟨fun xs=>?_,fun xs=>?_,fun xs=>?_⟩
 ·induction xs with
  | nil=>rfl
  | cons x xs ih=>show(PyData.canLay0 _ && K8 _)=true;rw[k.lay,ih];rfl
 ·induction xs with
  | nil=>simp[D.pyL,LY]
  | cons x xs ih=>have:=k.dep x;simp only[Qd,D.pyL,LY];omega
 ·induction xs with
  | nil=>intro ys;cases ys with
   | nil=>simp[D.pyL,Lo]
   | cons y ys=>simp[D.pyL,Lo]
  | cons x xs ih=>intro ys;cases ys with
   | nil=>simp[D.pyL,Lo]
   | cons y ys=>simp only[Qd,D.pyL,Lo,QL,k.eqv,ih,List.cons.injEq]
theorem JhX{α:Type}{f:α->D}{n:Nat}(k:Kd f n):Kd (fun xs:List α=>D.lst (xs.map f)) (n+1) :=
 ⟨fun xs=>(VY k).1 xs,fun xs=>by have:=(VY k).2.1 xs;simp only[D.py,MQ];omega,fun xs ys=>by simp only[D.py,LP];exact(VY k).2.2 xs ys⟩
theorem JmS{α:Type}{f:α->D}{n:Nat}(k:Kd f n):Kd (fun xs:List α=>D.tup (xs.map f)) (n+1) :=
 ⟨fun xs=>(VY k).1 xs,fun xs=>by have:=(VY k).2.1 xs;simp only[D.py,MQ];omega,fun xs ys=>by simp only[D.py,LP];exact(VY k).2.2 xs ys⟩
theorem kd_pr:Kd prE 2:=⟨fun _=>rfl,fun _=>by simp[prE,D.py,D.pyL,MQ,LY],fun a b=>by obtain⟨a1,a2⟩:=a;obtain⟨b1,b2⟩:=b;simp[prE,D.py,D.pyL,LP,Lo]⟩
theorem Jmv(a b:Pr):eqD (prE a) (prE b)=some (decide (a=b)):=kd_pr.eq (by decide) a b
theorem JjE(a b:List Pr):eqD (.lst (a.map prE)) (.lst (b.map prE))=some (decide (a=b)):=(JhX kd_pr).eq (by decide) a b
theorem JjF(a b:List Pr):eqD (.tup (a.map prE)) (.tup (b.map prE))=some (decide (a=b)):=(JmS kd_pr).eq (by decide) a b
theorem Jhs(a b:List Int):eqD (.lst (a.map .int)) (.lst (b.map .int))=some (decide (a=b)):=(JhX JmR).eq (by decide) a b
theorem Ja3{s:Sl}{ps:List Pr}(e:s.q=some (ps.map prE))(g:Good ps)(h:ps.length<=30):JdA [s]=some (.sh (.row (ps.map prE))):=by show(s.q.bind _)=_;rw[e,QZ,JaJ,QZ,W0 g,if_pos (by simp[h])]
section
variable{a b:Int}{xs ys:List D}{d:D}{x y:Str}{E:En}{B:Es}{r:Sl}
theorem Jld:ZU B (.nx E)=B E:=rfl
theorem Jle:ZU B (.rt r)=some (.rt r):=rfl
theorem Jlb:ZU B (.bk E)=some (.bk E):=rfl
theorem Jlc:ZU B (.ct E)=some (.ct E):=rfl
theorem JjA:Jb7 (.nx E)=some (.sh .non):=rfl
theorem JjB:Jb7 (.rt r)=some r:=rfl
theorem Jo9{g:Int->Int->D}:fI g (.sh (.int a)) (.sh (.int b))=some (.sh (g a b)):=rfl
theorem JjX(h:(-18446744073709551616<a/\a<18446744073709551616)\/(-18446744073709551616<b/\b<18446744073709551616)):VS (.sh (.int a)) (.sh (.int b))=some (.sh (.int (a*b))):=by show(if _ then _ else _)=_;rw[if_pos];simp only[K4,Zx];exact h
theorem JjW(h:0<b):Jdz (.sh (.int a)) (.sh (.int b))=some (.sh (.int (a % b))):=by show(if _ then _ else _)=_;rw[if_pos (by simpa using h)]
theorem JjU(h:0<b/\b<1073741824):Jmw (.sh (.int a)) (.sh (.int b))=some (.sh (.int (a / b))):=by show(if _ then _ else _)=_;rw[if_pos (smallP_ok.mpr h)]
theorem JjY:Jce (.sh (.int a))=some (.sh (.int (-a))):=rfl
theorem JjK:J2 (.sh (.int a)) (.sh (.int b))=some (.sh (.int (a+b))):=rfl
theorem JjR(h:x.length+y.length<=16777216):J2 (.sh (.str x)) (.sh (.str y))=some (.sh (.str (x++y))):=if_pos h
theorem Up{p q:Sl}(h1:p.m=some xs)(h2:q.m=some ys)(h:xs.length+ys.length<=16777216):Jge p q=some (.own (xs++ys)):=by unfold Jge;rw[h1,h2];exact if_pos h
theorem JjO(h:xs.length+ys.length<=16777216):J2 (.own xs) (.own ys)=some (.own (xs++ys)):=Up rfl rfl h
theorem JjN(h:xs.length+ys.length<=16777216):J2 (.own xs) (.bo ys)=some (.own (xs++ys)):=Up rfl rfl h
theorem JjI(h:xs.length+ys.length<=16777216):J2 (.bo xs) (.own ys)=some (.own (xs++ys)):=Up rfl rfl h
theorem JjH(h:xs.length+ys.length<=16777216):J2 (.bo xs) (.bo ys)=some (.own (xs++ys)):=Up rfl rfl h
theorem JjP(h:xs.length+ys.length<=16777216):J2 (.own xs) (.sh (.lst ys))=some (.own (xs++ys)):=Up rfl rfl h
theorem JjQ(h:xs.length+ys.length<=16777216):J2 (.sh (.lst xs)) (.own ys)=some (.own (xs++ys)):=Up rfl rfl h
theorem JjL(h:xs.length+ys.length<=16777216):J2 (.sh (.lst xs)) (.bo ys)=some (.own (xs++ys)):=Up rfl rfl h
theorem JjJ(h:xs.length+ys.length<=16777216):J2 (.bo xs) (.sh (.lst ys))=some (.own (xs++ys)):=Up rfl rfl h
theorem JjM(h:xs.length+ys.length<=16777216):J2 (.sh (.lst xs)) (.sh (.lst ys))=some (.own (xs++ys)):=Up rfl rfl h
theorem JmB(h:x.length<=16777216):VR [.sh (.str x)]=some (.sh (.int x.length)):=if_pos h
theorem Jmz:VR [.sh (.lst xs)]=some (.sh (.int xs.length)):=rfl
theorem Jmy:VR [.sh (.fz xs)]=some (.sh (.int xs.length)):=rfl
theorem JmC:VR [.sh (.tup xs)]=some (.sh (.int xs.length)):=rfl
theorem Jmx:VR [.bo xs]=some (.sh (.int xs.length)):=rfl
theorem JmA:VR [.own xs]=some (.sh (.int xs.length)):=rfl
theorem Jpc:fIx (.sh (.lst xs)) (.sh (.int a))=(atI xs a).map .sh:=rfl
theorem Jpb:fIx (.sh (.fz xs)) (.sh (.int a))=(atI xs a).map .sh:=rfl
theorem Jpe:fIx (.sh (.tup xs)) (.sh (.int a))=(atI xs a).map .sh:=rfl
theorem Jpa:fIx (.bo xs) (.sh (.int a))=(atI xs a).map .sh:=rfl
theorem Jpd:fIx (.own xs) (.sh (.int a))=(atI xs a).map .sh:=rfl
theorem Jms:eqA (.int a) (.int b)=some (decide (a=b)):=rfl
theorem Jmu:eqA (.str x) (.str y)=some (decide (x=y)):=rfl
theorem Jmr{p q:Bool}:eqA (.bl p) (.bl q)=some (decide (p=q)):=rfl
theorem Jmt(p q:Pr):eqA (prE p) (prE q)=some (decide (p=q)):=Jmv p q
theorem Jmp(p q:List Pr):eqA (.lst (p.map prE)) (.lst (q.map prE))=some (decide (p=q)):=JjE p q
theorem Jmq(p q:List Pr):eqA (.tup (p.map prE)) (.tup (q.map prE))=some (decide (p=q)):=JjF p q
theorem Jmo(p q:List Int):eqA (.lst (p.map .int)) (.lst (q.map .int))=some (decide (p=q)):=Jhs p q
theorem JhJ(h:-4611686018427387904<a/\a<4611686018427387904):Jbg a=true:=by unfold Jbg;rw[Lb];omega
theorem JmK(h:-1152921504606846976<a/\a<1152921504606846976):JmJ a=true:=in60_ok.mpr h
theorem JiM(h:0<a/\a<1073741824):JbH a=true:=smallP_ok.mpr h
theorem Ja5{s:Sl}{ns:List Int}(e:s.q=some (ns.map .int)):Jgf [s]=some (.sh (.int ns.sum)):=by show(s.q.bind _)=_;rw[e,QZ,W5];rfl
theorem JjT{s:Sl}{ns:List Bool}(e:s.q=some (ns.map .bl)):JjS [s]=some (.sh (.bl (ns.any id))):=by show(s.q.bind _)=_;rw[e,QZ,Jew];rfl
theorem JoV{i:Nat}:(Pt.nm i).bind d E=if i<E.length then some (E.set i (.sh d)) else none:=by rw[Pt.bind]
theorem JoW{l:Pts}:(Pt.tp l).bind (.tup xs) E=l.bind xs E:=by rw[Pt.bind]
theorem Jje:Pts.nil.bind [] E=some E:=by rw[Pts.bind]
theorem Jg3{q:Pt}{l:Pts}:(Pts.cons q l).bind (d::xs) E=(q.bind d E).bind fun E'=>l.bind xs E':=by rw[Pts.bind]
theorem JqA:((0:Nat):Int)=0:=rfl
theorem JqB:((1:Nat):Int)=1:=rfl
theorem JqC:((2:Nat):Int)=2:=rfl
theorem JqD:((3:Nat):Int)=3:=rfl
theorem JqE:((4:Nat):Int)=4:=rfl
theorem Jgn:D.isNon .non=true:=rfl
theorem Jgl:D.isNon (.int a)=false:=rfl
theorem JhM{k:Bool}:D.isNon (.bl k)=false:=rfl
theorem Jgp:D.isNon (.str x)=false:=rfl
theorem Jgq:D.isNon (.tup xs)=false:=rfl
theorem Jgm:D.isNon (.lst xs)=false:=rfl
theorem JhO:D.isNon (.fz xs)=false:=rfl
theorem Jgo:D.isNon (.row xs)=false:=rfl
theorem JmY:Jcp "int" "int"=true:=by decide
theorem Jkf:Jcp "int" "bool"=false:=by decide
theorem JmX:Jcp "bool" "bool"=true:=by decide
theorem Jm1:Jcp "tuple" "tuple"=true:=by decide
theorem JmZ:Jcp "list" "list"=true:=by decide
theorem Jm0:Jcp "str" "str"=true:=by decide
end
end LE

namespace HT
open PySem PySem.Spec PyProof.Rows
section
variable{prog:Qy}{w:QH}{A:QF}{E:Qe->Qh->Prop}{s:Qh}
theorem Vt{t sl:Qg}{items:Array Qe}{vl vu:Qe}{lo hi:Option Int}{Q:Qe->Qh->Prop}(ht:IsTup s.heap t items)(hs:s.heap.IsSliceOf sl vl vu .none)(pl:IsPart vl lo)(pu:IsPart vu hi)
 (hw:sIx items.size 0 lo=0/\sIx items.size items.size hi=items.size) (h:Q (.ref t) s):wpAny (model prog w) A (getItem (.ref t) (.ref sl)) Q E s:=by
 obtain⟨os,hos,hcs,hds⟩:=id hs;have hTs:s.TypeIs (.ref sl) "slice":=⟨os,hos,hcs⟩
 unfold getItem
 try with_reducible refine KH ?_
 first|refine Qa (Qp ?_)|skip
 refine Qa (wpAny_sequenceKey ht.typeIs (by decide) ?_);refine Qa (Gf (name:=Q7 "__getitem__") ht.typeIs Q9
  (GI Q9 ht.typeIs entry_tuple_getitem ?_ (args_tuple_getitem _ _)))
 show wpAny _ _ (Mh (.ref t) >>= _) _ _ s;refine Qa (tupleItemsOf_ ht ?_);refine Qa (wpAny_typeOf hTs ?_);rw[if_pos (by decide)];refine Qa (Ul hs pl pu ?_)
 have yes:(((sIx items.size 0 lo:Nat):Int) == 0 && (1:Int) == 1 && (sIx items.size items.size hi-sIx items.size 0 lo) == items.size)=true:=by rw[hw.1,hw.2];simp
 show wpAny _ _ (if (((sIx items.size 0 lo:Nat):Int) == 0 && (1:Int) == 1 && (sIx items.size items.size hi-sIx items.size 0 lo) == items.size)=true then _ else _) _ _ s;rw[if_pos yes];unfold Builtin.Tuple.tupleIsExact;refine Qa (Qa (wpAny_typeOf ht.typeIs (Qp ?_)));rw[if_pos (by decide)];refine Qa (Lc ?_);exact Qp ⟨_,rfl,Qp h⟩
end
end HT
namespace L2
open PySem PySem.Spec PyProof.Rows
section
variable{X:Cx}{K:Qz}
noncomputable def JpM(K:Qz):V->Option Int->Option Int->Hp->VK->Prop:=fun x lo hi H Q=>∃a xs,x=.ref a/\SqT K H a xs/\(HT.sIx xs.length 0 lo=0/\HT.sIx xs.length xs.length hi=xs.length)/\Q (.ref a) H
theorem JiL:SlR X (JpM X.K):=by
 intro pins s σ H x v vl vu lo hi sl Q I rx hs pl pu h;obtain⟨a,xs,rfl,hx,hw,q⟩:=h;cases rx;obtain⟨its,r,ht,hz⟩:=I.tuple hx;have hlen:its.toArray.size=xs.length:=by rw[Qr];exact r.length.symm
 refine⟨"tuple",_,Q9.lookup,ht.typeIs,?_⟩;exact HT.Vt ht hs pl pu (by rw[hlen];exact hw) ⟨.ref a,H,I,rfl,q⟩
noncomputable def JnO(K:Qz):V->Option Int->Option Int->Hp->VK->Prop:=fun x lo hi H Q=>JpK K x lo hi H Q\/JpL K x lo hi H Q\/JpM K x lo hi H Q
theorem JfE(hK:X.K=K):SlR X (JnO K):=by subst hK;exact sl_list.or (sl_tup.or JiL)
end
end L2
namespace LE
open PySem L2 LR
noncomputable def Jdv{α:Type}(xs:List α)(lo hi:Option Int):List α:=(xs.drop (HT.sIx xs.length 0 lo)).take (HT.sIx xs.length xs.length hi-HT.sIx xs.length 0 lo)
noncomputable def fSl(s:Sl)(lo hi:Option Int):Option Sl:=match s with
 | .sh (.tup ds)=>some (.sh (.tup (Jdv ds lo hi)))
 | s=>s.r.map fun ds=>.own (Jdv ds lo hi)
noncomputable def WT(o:Option Ev):En->Option (Option Int):=fun E=>match o with
 | none=>some none
 | some a=>(a E).bind fun s=>match s with
  | .sh (.int i)=>some (some i)
  | _=>none
noncomputable def eSl(a:Ev)(lo hi:Option Ev):Ev:=fun E=>(a E).bind fun s=>(WT lo E).bind fun l=>(WT hi E).bind fun h=>fSl s l h
section
variable{K:Qz}{C:Qg}{te:TE}{ea:Ev}{tl th:TO}{el eh:Option Ev}
noncomputable def SP'(K:Qz)(C:Qg)(t:TO)(ev:En->Option (Option Int)):Prop:=∀(B H0 H:Hp) (σ:St) (E:En) (r:Option Int) (Q:Option Int->Hp->Prop),EnvR K C B H0 H σ E->ev E=some r ->
 (∀H0' H',Step H H0 H H0' H'->Q r H')->t σ H Q
theorem Jny:SP' K C JfP (WT none):=fun _ _ _ _ _ _ _ I e q=>by cases e;exact q _ _ (.refl I.h)
theorem Jnz(ha:SE K C te ea):SP' K C (JlW te) (WT (some ea)):=by
 intro B H0 H σ E r Q I e q;obtain⟨s,e1,e⟩:=bind_some e;split at e
 ·cases e;exact ha B H0 H σ E _ _ I e1 fun x H1 H1' s1 r1=>⟨_,RD.intI r1,q _ _ s1⟩
 ·cases e
theorem RDL.cut{H:Hp}{xs:List V}{ds:List D}{lo hi:Option Int}(r:RDL K C H xs ds):RDL K C H (ZL xs lo hi) (Jdv ds lo hi):=by unfold ZL Jdv;rw[r.1];exact(r.drop _).take _
theorem Jq2(ha:SE K C te ea)(hl:SP' K C tl (WT el))(hh:SP' K C th (WT eh)):SE K C (tSl (JnO K) te tl th) (eSl ea el eh):=by
 intro B H0 H σ E c Q I e q;obtain⟨s,e1,e⟩:=bind_some e;obtain⟨l,e2,e⟩:=bind_some e;obtain⟨h,e3,e⟩:=bind_some e;refine ha B H0 H σ E _ _ I e1 fun x H1 H1' s1 r1=>hl B H1 H1' σ E l _ (I.step s1) e2 fun H2 H2' s2=>hh B H2 H2' σ E h _ (I.step (s1.trans s2)) e3 fun H3 H3' s3=>?_
 have s13:=(s1.trans s2).trans s3
 have r3:=(r1.step s2).step s3
 have lst:∀{ds:List D},s.r=some ds->c=.own (Jdv ds l h)->JnO K x l h H3' Q:=fun {ds} er ec=>by subst ec;obtain⟨a,xs,rfl,hq,r⟩:=r3.r s13.i er;exact .inl ⟨a,xs,rfl,hq,fun p hp=>UY s13.i s13.h hp r.cut fun v H4 H4' s4 r4=>q v H4 H4' (s13.comp s4 fun _ z=>z) r4⟩
 unfold fSl at e;split at e
 ·cases e;obtain⟨a,xs,rfl,hq,r⟩:=RD.tupI r3
  by_cases hw:HT.sIx xs.length 0 l=0/\HT.sIx xs.length xs.length h=xs.length
  ·refine .inr (.inr ⟨a,xs,rfl,s13.i.seqT hq,hw,q _ _ _ s13 ?_⟩);have e5:ZL xs l h=xs:=by unfold ZL;rw[hw.1,hw.2];simp
   have r5:=r.cut (lo:=l) (hi:=h);rw[e5] at r5;exact RD.mkT hq r5
  ·exact .inr (.inl ⟨a,xs,rfl,s13.i.seqT hq,hw,fun p hp=>WK s13.i s13.h hp r.cut fun v H4 H4' s4 r4=>q v H4 H4' (s13.comp s4 fun _ z=>z) r4⟩)
 ·obtain⟨ds,e4,e5⟩:=map_some e;exact lst e4 e5.symm
end
end LE

namespace PySem
section
variable{prog:Qy}{w:QH}{A:QF}
theorem Draws.tup(hh:A.handled=none)(j a:Qg)(ne:a≠j)(xs:Array Qe):Draws prog w A j [j,a] xs.size (fun i v=>xs[i]?=some v) (fun i h=>h.IsTupleIter j a i/\h.IsTuple a xs) where
 live:=fun _ _ q=>let ⟨o,ho,_⟩:=q.1;⟨o,ho⟩
 frame:=fun _ _ _ q k=>⟨q.1.at fun o e=>k j (by simp) o e,q.2.at fun o e=>k a (by simp) o e⟩
 item:=fun i s Q E hi q hQ=>by
  obtain⟨o,ho,hc,hd⟩:=id q.1;obtain⟨ol,hol,_,nl,hdl⟩:=id q.2;have hx:xs[i]?=some xs[i]:=by simp[hi]
  unfold GU;refine Qa (Gf (name:=Q7 "__next__") q.1.typeIs Kq (GI Kq q.1.typeIs L7 ?_ (LZ _)));show wpAny _ _ (field (.ref j) 0 >>= _) _ _ s;refine Qa (Q8 ho hd (x:=.ref a) rfl ?_);show wpAny _ _ (if (Value.ref a == Value.none)=true then _ else _) _ _ s;rw[if_neg (show ¬((Value.ref a == Value.none)=true) from QI)]
  show wpAny _ _ (field (.ref j) 1 >>= _) _ _ s;refine Qa (Q8 ho hd (x:=.int i 0) rfl (show wpAny _ _ (seqItems? (.ref a) >>= _) _ _ s from Qa (Go hol hdl ?_)));simp only[Int.toNat_natCast,hx];refine Qa (wpAny_setField ho hd (by simp) (Qp ⟨xs[i],rfl,Qp (hQ _ _ s.toks hx ⟨⟨_,Kv _ ho (Obj.isFreed_of_fields (Obj.data_mapFields hd _)),(Obj.cls_mapFields ..).trans hc,?_⟩,q.2.extBut (GW ..).extBut ne⟩ (GW ..))⟩))
  rw[Obj.data_mapFields hd];simp[rawInt]
 done:=fun s Q E q hE=>by
  obtain⟨o,ho,hc,hd⟩:=id q.1;obtain⟨ol,hol,_,nl,hdl⟩:=id q.2;have hx:xs[xs.size]?=none:=by simp
  unfold GU;refine Qa (Gf (name:=Q7 "__next__") q.1.typeIs Kq (GI Kq q.1.typeIs L7 ?_ (LZ _)));show wpAny _ _ (field (.ref j) 0 >>= _) _ _ s;refine Qa (Q8 ho hd (x:=.ref a) rfl ?_);show wpAny _ _ (if (Value.ref a == Value.none)=true then _ else _) _ _ s;rw[if_neg (show ¬((Value.ref a == Value.none)=true) from QI)]
  show wpAny _ _ (field (.ref j) 1 >>= _) _ _ s;refine Qa (Q8 ho hd (x:=.int xs.size 0) rfl (show wpAny _ _ (seqItems? (.ref a) >>= _) _ _ s from Qa (Go hol hdl ?_)));simp only[Int.toNat_natCast,hx];refine Qa (Lc (Qa (wpAny_setField ho hd (by simp) (show wpAny _ _ (newExc (.type "StopIteration") [] >>= _) _ _ _ from Qa ?_))));simp only[newExc,newTuple];refine Qa (Gw (Qa (m:=firstArgMember _ _) (KD (a:=Value.none) (by first | rfl | (simp only[firstArgMember];rfl)) (Gw ?_ (by size_fits)))) (by size_fits))
  simp only[raiseNew];refine Qa (wpAny_handled ?_)
  first|rw[show A.in1.handled=none from hh]|rw[hh]
  refine Qa (Qp (wpAny_throw ?_));exact hE _ _ (((GW ..).extBut.push _).push _) ⟨_,Qn _ rfl,rfl⟩
end

structure ZA (z TI TO i1 i2:Qg) (p1 p2:List Qg):Prop where
 a1:TI≠z
 a2:TO≠z
 a3:TI≠TO
 m1:i1∈p1
 m2:i2∈p2
 z1:z∉p1
 z2:z∉p2
 t1:TI∉p1
 t2:TI∉p2
 o1:TO∉p1
 o2:TO∉p2
 x1:i1∉p2
 x2:i2∉p1
section
variable{prog:Qy}{w:QH}{A:QF}{E:Qe->Qh->Prop}{s:Qh}{z TI TO i1 i2:Qg}{p1 p2:List Qg}{n1 n2 k:Nat}{P1 P2:Nat->Qe->Prop}{S1 S2:Nat->QP->Prop}
theorem JgY{a b:Qe}{Q:Qe->Qh->Prop}(D:ZA z TI TO i1 i2 p1 p2)(D1:Draws prog w A i1 p1 n1 P1 S1)(D2:Draws prog w A i2 p2 n2 P2 S2)(gz:IsZip s.heap z TI TO .none)(gI:IsPair s.heap TI (.ref i1) (.ref i2))(gO:IsPair s.heap TO a b)
 (st1:S1 k s.heap) (st2:S2 k s.heap) (l1:k<n1) (l2:k<n2)
 (hQ:∀x y h' tk,P1 k x->P2 k y->IsZip h' z TI TO (rawInt s.heap.objs.size)->IsPair h' TI (.ref i1) (.ref i2)->IsPair h' TO x y->S1 (k+1) h'->S2 (k+1) h'->IsPair h' s.heap.objs.size x y->h'.objs.size=s.heap.objs.size+1 ->
  (∀c o,c≠z->c≠TO->c≠i1->c≠i2->s.heap.get? c=some o->h'.get? c=some o)->Q (.ref s.heap.objs.size) { s with heap:=h',toks:=tk }) :
 wpAny (model prog w) A (Builtin.«zip.__next__» ⟨[.ref z],[]⟩) (fun fin s'=>∃v,fin=.done (.ret v)/\Q v s') E s:=by
 obtain⟨hp,g,d,t0,os⟩:=s;have zi1:i1≠z:=fun q=>D.z1 (q▸D.m1)
 have zi2:i2≠z:=fun q=>D.z2 (q▸D.m2)
 have oi1:i1≠TO:=fun q=>D.o1 (q▸D.m1)
 have oi2:i2≠TO:=fun q=>D.o2 (q▸D.m2)
 have ii1:i1≠TI:=fun q=>D.t1 (q▸D.m1)
 have ii2:i2≠TI:=fun q=>D.t2 (q▸D.m2)
 have i12:i1≠i2:=fun q=>D.x1 (q▸D.m2)
 show wpAny _ _ (field (.ref z) 2 >>= _) _ _ _;refine Qa (Q8 gz rfl (x:=.bool false) rfl (show wpAny _ _ (field (.ref z) 3 >>= _) _ _ _ from Qa (Q8 gz rfl (x:=.ref TI) rfl (Qa (Go gI rfl ?_)))))
 show wpAny _ _ (Gm (.ref z) >>= _) _ _ _;refine Qa ?_;unfold Gm;refine Qa (Q8 gz rfl (x:=.none) rfl (Qp ?_));simp only[if_true];refine Qa (Lc (Qa (Q8 gz rfl (x:=.ref TO) rfl (Qa (Gb gz (by simp) fun k1 y1 e1=>?_)))))
 replace y1:IsZip k1 z TI TO .ellipsis:=y1
 replace e1:QR z hp k1:=e1;refine Qa ?_;simp only[KQ,List.zipIdx_nil,MT,Re];refine Qa (Qa (Mx (show wpAny _ _ (GU (.ref i1) >>= _) _ _ _ from Qa (D1.item k _ _ _ l1 (D1.frame _ _ _ st1 fun b hb o q=>e1.extBut b o (fun r=>D.z1 (r▸hb)) q) fun x k2 t2 px s2 e2=>Qp ?_))))
 replace e2:QR i1 k1 k2:=e2;have O2:IsPair k2 TO a b:=e2.extBut _ _ (Q2 oi1) (e1.extBut _ _ D.a2 gO);refine Qa (Go (s:=⟨k2,g,d,t2,os⟩) O2 rfl (Qa (LV (s:=⟨k2,g,d,t2,os⟩) O2 fun k3 O3 e3=>?_)))
 replace O3:IsPair k3 TO x b:=O3
 replace e3:QR TO k2 k3:=e3;refine Qa (G4 (Qp ?_));have st2':S2 k k3:=D2.frame _ _ _ st2 fun b hb o q=>e3.extBut b o (fun r=>D.o2 (r▸hb)) (e2.extBut b o (fun r=>D.x1 (r▸hb)) (e1.extBut b o (fun r=>D.z2 (r▸hb)) q))
 refine Qa (Qa (Mx (show wpAny _ _ (GU (.ref i2) >>= _) _ _ _ from Qa (D2.item k _ _ _ l2 st2' fun y k4 t4 py s4 e4=>Qp ?_))))
 replace e4:QR i2 k3 k4:=e4;have O4:IsPair k4 TO x b:=e4.extBut _ _ (Q2 oi2) O3;refine Qa (Go (s:=⟨k4,g,d,t4,os⟩) O4 rfl (Qa (LV (s:=⟨k4,g,d,t4,os⟩) O4 fun k5 O5 e5=>?_)))
 replace O5:IsPair k5 TO x y:=O5
 replace e5:QR TO k4 k5:=e5;refine Qa (G4 (Qp (Qp (Qa (Go (s:=⟨k5,g,d,t4,os⟩) O5 rfl (Qa (Rf ?_)))))));have hsz:k5.objs.size=hp.objs.size:=by rw[e5.1,e4.1,e3.1,e2.1,e1.1]
 have Z5:IsZip k5 z TI TO .ellipsis:=e5.extBut _ _ (Q2 D.a2) (e4.extBut _ _ (Q2 zi2) (e3.extBut _ _ (Q2 D.a2) (e2.extBut _ _ (Q2 zi1) y1)))
 have keep5:∀c o,c≠z->c≠TO->c≠i1->c≠i2->hp.get? c=some o->k5.get? c=some o:=fun c o c1 c2 c3 c4 q=>e5.extBut _ _ c2 (e4.extBut _ _ c4 (e3.extBut _ _ c2 (e2.extBut _ _ c3 (e1.extBut _ _ c1 q))))
 have T1:S1 (k+1) k5:=D1.frame _ _ _ s2 fun b hb o q=>e5.extBut b o (fun r=>D.o1 (r▸hb)) (e4.extBut b o (fun r=>D.x2 (r▸hb)) (e3.extBut b o (fun r=>D.o1 (r▸hb)) q))
 have T2:S2 (k+1) k5:=D2.frame _ _ _ s4 fun b hb o q=>e5.extBut b o (fun r=>D.o2 (r▸hb)) q
 have zlt:z<k5.objs.size:=Qq Z5
 show wpAny _ _ (GX (.ref z) (.ref k5.objs.size) >>= _) _ _ _;refine Qa ?_;unfold GX
 have Z6:IsZip (k5.push { cls:=.type "tuple",data:=.seq #[x,y] }) z TI TO .ellipsis:=Qi _ Z5;refine Qa (Gb Z6 (by simp) fun k7 Z7 e7=>?_)
 replace Z7:IsZip k7 z TI TO (rawInt k5.objs.size):=Z7
 replace e7:QR z (k5.push { cls:=.type "tuple",data:=.seq #[x,y] }) k7:=e7;refine Gb Z7 (by simp) fun k8 Z8 e8=>?_
 replace Z8:IsZip k8 z TI TO (rawInt k5.objs.size):=Z8
 replace e8:QR z k7 k8:=e8;have up:∀c o,c≠z->k5.get? c=some o->k8.get? c=some o:=fun c o c1 q=>e8.extBut _ _ c1 (e7.extBut _ _ c1 (Qi _ q))
 have N8:IsPair k8 k5.objs.size x y:=e8.extBut _ _ (Lf zlt) (e7.extBut _ _ (Lf zlt) (Qn _ rfl))
 have z8:k8.objs.size=k5.objs.size+1:=by rw[e8.1,e7.1,GO]
 rw[hsz] at Z8 N8 z8;refine Qp ⟨_,rfl,?_⟩;show Q (.ref k5.objs.size) _;rw[hsz];refine hQ x y k8 t4 px py Z8 (up _ _ D.a1 (keep5 _ _ D.a1 D.a3 (Q2 ii1) (Q2 ii2) gI)) (up _ _ D.a2 O5) ?_ ?_ N8 z8 fun c o c1 c2 c3 c4 q=>up c o c1 (keep5 c o c1 c2 c3 c4 q)
 ·exact D1.frame _ _ _ T1 fun b hb o q=>up b o (fun r=>D.z1 (r▸hb)) q
 ·exact D2.frame _ _ _ T2 fun b hb o q=>up b o (fun r=>D.z2 (r▸hb)) q
theorem Jja{a b:Qe}{Q:Fin->Qh->Prop}(D:ZA z TI TO i1 i2 p1 p2)(D1:Draws prog w A i1 p1 n1 P1 S1)(D2:Draws prog w A i2 p2 n2 P2 S2)(gz:IsZip s.heap z TI TO .none)(gI:IsPair s.heap TI (.ref i1) (.ref i2))(gO:IsPair s.heap TO a b)
 (st1:S1 k s.heap) (st2:S2 k s.heap) (hend:k=n1\/(k<n1/\k=n2))
 (hE:∀h' e tk,(∀c o,c≠z->c≠TO->c≠i1->c≠i2->s.heap.get? c=some o->h'.get? c=some o)->(∃o,h'.get? e=some o/\o.cls=.type "StopIteration")->E (.ref e) { s with heap:=h',toks:=tk }) :
 wpAny (model prog w) A (Builtin.«zip.__next__» ⟨[.ref z],[]⟩) Q E s:=by
 obtain⟨hp,g,d,t0,os⟩:=s;have zi1:i1≠z:=fun q=>D.z1 (q▸D.m1)
 have zi2:i2≠z:=fun q=>D.z2 (q▸D.m2)
 have oi1:i1≠TO:=fun q=>D.o1 (q▸D.m1)
 show wpAny _ _ (field (.ref z) 2 >>= _) _ _ _;refine Qa (Q8 gz rfl (x:=.bool false) rfl (show wpAny _ _ (field (.ref z) 3 >>= _) _ _ _ from Qa (Q8 gz rfl (x:=.ref TI) rfl (Qa (Go gI rfl ?_)))))
 show wpAny _ _ (Gm (.ref z) >>= _) _ _ _;refine Qa ?_;unfold Gm;refine Qa (Q8 gz rfl (x:=.none) rfl (Qp ?_));simp only[if_true];refine Qa (Lc (Qa (Q8 gz rfl (x:=.ref TO) rfl (Qa (Gb gz (by simp) fun k1 y1 e1=>?_)))))
 replace y1:IsZip k1 z TI TO .ellipsis:=y1
 replace e1:QR z hp k1:=e1;refine Qa ?_;simp only[KQ,List.zipIdx_nil,MT,Re];refine Qa (Qa (Mx (show wpAny _ _ (GU (.ref i1) >>= _) _ _ _ from Qa ?_)));have q1:S1 k k1:=D1.frame _ _ _ st1 fun b hb o q=>e1.extBut b o (fun r=>D.z1 (r▸hb)) q
 rcases hend with rfl|⟨l1,rfl⟩
 ·refine D1.done _ _ _ q1 fun k2 e e2 he=>?_
  replace e2:Rg i1 k1 k2:=e2;obtain⟨oe,hoe,hce⟩:=he;have Z2:IsZip k2 z TI TO .ellipsis:=e2 _ _ (Q2 zi1) y1;have ez:e≠z:=fun q=>by subst q;rw[Z2] at hoe;cases hoe;simp at hce
  exact Gb Z2 (by simp) fun k3 _ e3=>hE k3 e t0 (fun c o c1 _ c3 _ q=>e3.extBut _ _ c1 (e2 _ _ c3 (e1.extBut _ _ c1 q))) ⟨oe,e3.extBut _ _ ez hoe,hce⟩
 ·refine D1.item k _ _ _ l1 q1 fun x k2 t2 px s2 e2=>Qp ?_
  replace e2:QR i1 k1 k2:=e2;have O2:IsPair k2 TO a b:=e2.extBut _ _ (Q2 oi1) (e1.extBut _ _ D.a2 gO);refine Qa (Go (s:=⟨k2,g,d,t2,os⟩) O2 rfl (Qa (LV (s:=⟨k2,g,d,t2,os⟩) O2 fun k3 O3 e3=>?_)))
  replace e3:QR TO k2 k3:=e3;refine Qa (G4 (Qp ?_));have st2':S2 k k3:=D2.frame _ _ _ st2 fun b hb o q=>e3.extBut b o (fun r=>D.o2 (r▸hb)) (e2.extBut b o (fun r=>D.x1 (r▸hb)) (e1.extBut b o (fun r=>D.z2 (r▸hb)) q))
  refine Qa (Qa (Mx (show wpAny _ _ (GU (.ref i2) >>= _) _ _ _ from Qa (D2.done _ _ _ st2' fun k4 e e4 he=>?_))))
  replace e4:Rg i2 k3 k4:=e4;obtain⟨oe,hoe,hce⟩:=he;have Z4:IsZip k4 z TI TO .ellipsis:=e4 _ _ (Q2 zi2) (e3.extBut _ _ (Q2 D.a2) (e2.extBut _ _ (Q2 zi1) y1));have ez:e≠z:=fun q=>by subst q;rw[Z4] at hoe;cases hoe;simp at hce
  exact Gb Z4 (by simp) fun k5 _ e5=>hE k5 e t2 (fun c o c1 c2 c3 c4 q=>e5.extBut _ _ c1 (e4 _ _ c4 (e3.extBut _ _ c2 (e2.extBut _ _ c3 (e1.extBut _ _ c1 q))))) ⟨oe,e5.extBut _ _ ez hoe,hce⟩
end
end PySem

namespace PySem
def IsSq(b:Bool)(h:QP)(a:Qg)(xs:Array Qe):Prop:=match b with
 | true=>h.IsTuple a xs
 | false=>h.IsList a xs
def IsItr(b:Bool)(h:QP)(j a:Qg)(i:Nat):Prop:=match b with
 | true=>h.IsTupleIter j a i
 | false=>h.IsListIter j a i
def itO(b:Bool)(a:Qg):Obj:=match b with
 | true=>{ cls:=.type "tuple_iterator",data:=.fields #[.ref a,.int 0 0] }
 | false=>{ cls:=.type "list_iterator",data:=.fields #[.ref a,.int 0 0] }
section
variable{prog:Qy}{w:QH}{A:QF}{E:Qe->Qh->Prop}{s:Qh}{b b1 b2:Bool}{a a1 a2:Qg}{xs ys:Array Qe}
theorem IsSq.push{h:QP}(q:IsSq b h a xs)(o:Obj):IsSq b (h.push o) a xs:=by
 cases b with
 | true=>exact Heap.IsTuple.push q o
 | false=>exact Heap.IsList.push q o
theorem IsSq.lt{h:QP}(q:IsSq b h a xs):a<h.objs.size:=by
 cases b with
 | true=>obtain⟨o,e,_⟩:=q;exact Qq e
 | false=>obtain⟨o,e,_⟩:=q;exact Qq e
theorem IsItr.new{h:QP}(e:h.get? a1=some (itO b a)):IsItr b h a1 a 0:=by
 cases b with
 | true=>exact⟨_,e,rfl,rfl⟩
 | false=>exact⟨_,e,rfl,rfl⟩
theorem Uk{Q:Qe->Qh->Prop}(q:IsSq b s.heap a xs)(h:Q (.ref s.heap.objs.size) { s with heap:=s.heap.push (itO b a) }):wpAny (model prog w) A (pyIter (.ref a)) Q E s:=by
 cases b with
 | true=>exact Md q h
 | false=>exact Mo q h
theorem Draws.sq(hh:A.handled=none)(j:Qg)(ne:a≠j):Draws prog w A j [j,a] xs.size (fun i v=>xs[i]?=some v) (fun i h=>IsItr b h j a i/\IsSq b h a xs):=by
 cases b with
 | true=>exact Draws.tup hh j a ne xs
 | false=>exact Draws.list hh j a ne xs
abbrev zP1(h:QP)(b1:Bool)(a1:Qg):QP:=h.push (itO b1 a1)
abbrev zP2(h:QP)(b1 b2:Bool)(a1 a2:Qg):QP:=(zP1 h b1 a1).push (itO b2 a2)
abbrev zP3(h:QP)(b1 b2:Bool)(a1 a2:Qg):QP:=(zP2 h b1 b2 a1 a2).push { cls:=.type "tuple",data:=.seq #[.ref h.objs.size,.ref (zP1 h b1 a1).objs.size] }
abbrev zP4(h:QP)(b1 b2:Bool)(a1 a2:Qg):QP:=(zP3 h b1 b2 a1 a2).push { cls:=.type "tuple",data:=.seq #[.none,.none] }
abbrev zP5(h:QP)(b1 b2:Bool)(a1 a2:Qg):QP:=(zP4 h b1 b2 a1 a2).push { cls:=.type "zip",data:=.fields #[.none,.bool false,.bool false,.ref (zP2 h b1 b2 a1 a2).objs.size,.ref (zP3 h b1 b2 a1 a2).objs.size] }
theorem JdS(b1 b2:Bool)(a1 a2:Qg)(xs ys:Array Qe):Meets (Builtin.«zip.__new__» ⟨[.type "zip",.ref a1,.ref a2],[]⟩) (fun _ R s=>IsSq b1 s.heap a1 xs/\IsSq b2 s.heap a2 ys ∧
 R (.ok (.ret (.ref (zP4 s.heap b1 b2 a1 a2).objs.size))) { s with heap:=zP5 s.heap b1 b2 a1 a2 }) :=
 .of_wp fun prog w A R s h=>by obtain⟨hp,g,d,tk,os⟩:=s;obtain⟨q1,q2,h⟩:=h;have hsub:=sub_zip;have r1:IsSq b1 (RE ⟨hp,g,d,tk,os⟩) a1 xs:=q1;have r2:IsSq b2 (RE ⟨hp.push (itO b1 a1),g,d,tk,os⟩) a2 ys:=IsSq.push q2 _;wp_walk using Uk r1,Uk r2;exact⟨_,rfl,h⟩
theorem Jga{Q:Qe->Qh->Prop}(q1:IsSq b1 s.heap a1 xs)(q2:IsSq b2 s.heap a2 ys)
 (h:∀h',IsZip h' (s.heap.objs.size+4) (s.heap.objs.size+2) (s.heap.objs.size+3) .none->IsPair h' (s.heap.objs.size+2) (.ref s.heap.objs.size) (.ref (s.heap.objs.size+1))->IsPair h' (s.heap.objs.size+3) .none .none ->
  IsItr b1 h' s.heap.objs.size a1 0->IsItr b2 h' (s.heap.objs.size+1) a2 0->(∀c o,s.heap.get? c=some o->h'.get? c=some o)->Q (.ref (s.heap.objs.size+4)) { s with heap:=h' }) :
 wpAny (model prog w) A (call (.type "zip") [.ref a1,.ref a2]) Q E s:=by
 refine callType_new F.called_zip (by decide) (F.typeCall_zip_2 _ _) (F.newCall_zip_2 _ _) (fun obj=>F.args_object_init_3 obj _ _) F.entry_zip_new (JdS b1 b2 a1 a2 xs ys) ⟨q1,q2,?_⟩;have z1:(zP1 s.heap b1 a1).objs.size=s.heap.objs.size+1:=GO ..;have z2:(zP2 s.heap b1 b2 a1 a2).objs.size=s.heap.objs.size+2:=by rw[GO,z1]
 have z3:(zP3 s.heap b1 b2 a1 a2).objs.size=s.heap.objs.size+3:=by rw[GO,z2]
 have z4:(zP4 s.heap b1 b2 a1 a2).objs.size=s.heap.objs.size+4:=by rw[GO,z3]
 have up:∀{k:QP} {c:Qg} {o u:Obj},k.get? c=some o->(k.push u).get? c=some o:=fun q=>Qi _ q
 have fi1:(itO b1 a1).isFreed=false:=by cases b1 <;> rfl
 have fi2:(itO b2 a2).isFreed=false:=by cases b2 <;> rfl
 have g5:(zP5 s.heap b1 b2 a1 a2).get? (zP4 s.heap b1 b2 a1 a2).objs.size=some _:=Qn _ rfl
 have g4:(zP5 s.heap b1 b2 a1 a2).get? (zP3 s.heap b1 b2 a1 a2).objs.size=some _:=up (Qn _ rfl)
 have g3:(zP5 s.heap b1 b2 a1 a2).get? (zP2 s.heap b1 b2 a1 a2).objs.size=some _:=up (up (Qn _ rfl))
 have g2:(zP5 s.heap b1 b2 a1 a2).get? (zP1 s.heap b1 a1).objs.size=some _:=up (up (up (Qn _ fi2)))
 have g1:(zP5 s.heap b1 b2 a1 a2).get? s.heap.objs.size=some _:=up (up (up (up (Qn _ fi1))))
 show _/\_;rw[z2,z3,z4] at g5;rw[z1,z2] at g3;rw[z3] at g4;rw[z1] at g2;rw[z4];exact⟨⟨_,g5,rfl⟩,h _ g5 g3 g4 (.new g1) (.new g2) fun c o q=>up (up (up (up (up q))))⟩
end
end PySem

namespace L2
open PySem PySem.Spec PyProof.Rows
section
variable{X:Cx}{pins:List (Qg×Obj)}{σ:St}{H:Hp}{s:Qh}{h':QP}
theorem Inv.turnedL{t':Nat}{fp:List Qg}(I:Inv X pins σ H s)(k:∀b o,b∉fp->s.heap.get? b=some o->h'.get? b=some o)(hf:∀b∈fp,FpOk X pins H b):Inv X pins σ H { s with heap:=h',toks:=t' }:=by
 have nit:∀b u,H b=some u->b∉fp:=fun b u e z=>by rw[(hf b z).1] at e;cases e
 refine I.step (g':=s.gens) (d':=s.drawn) (ch:=fp) (fun b hb=>?_) (fun b o _ _ hc e _=>k b o hc e) (fun b o _ _ hc e _=>⟨o.slots,k b o hc e⟩) (fun _ _ _ _ n=>n)
  (fun b o hc e=>⟨o,k b o hc e⟩) (fun _ _ e=>e) (fun _ _ _ e=>e) (fun _ _ _ _ _ e=>e) (fun m hm=>?_) (fun b u e=>?_) I.bare
 ·obtain⟨f0,f1,f2,f3,f4,f5⟩:=hf b hb;exact⟨f3,f1,f4,f5⟩
 ·obtain⟨o,es,ep,ho,r⟩:=hm;exact⟨o,es,ep,k _ o (fun z=>(hf _ z).2.1 rfl) ho,r⟩
 ·refine(I.hok b u e).stay (fun c v hc q=>k c v ?_ q) (fun _ q=>q) fun _ _ q=>q
  rcases hc with z|z
  ·rw[z];exact nit b u e
  ·exact nit c _ z
noncomputable def Sq(b:Bool)(K:Qz)(H:Hp)(a:Qg)(xs:List V):Prop:=match b with
 | true=>SqT K H a xs
 | false=>SqL K H a xs
theorem Sq.heap{b:Bool}{a:Qg}{xs:List V}(I:Inv X pins σ H s)(q:Sq b X.K H a xs):∃its:List Qe,Vals xs its/\IsSq b s.heap a its.toArray:=by
 cases b with
 | true=>obtain⟨its,r,p,_⟩:=I.tuple q;exact⟨its,r,p⟩
 | false=>obtain⟨its,r,p,_⟩:=I.list q;exact⟨its,r,p.isList⟩
theorem Sq.inj{b:Bool}{a:Qg}{xs ys:List V}(I:Inv X pins σ H s)(q:Sq b X.K H a xs)(q':Sq b X.K H a ys):xs=ys:=by
 cases b with
 | true=>exact I.tuple_inj q q'
 | false=>exact I.list_inj q q'
theorem FpOk.off{b:Bool}{a c:Qg}{xs:List V}(I:Inv X pins σ H s)(q:Sq b X.K H a xs)(f:FpOk X pins H c):a≠c:=by
 intro e;subst e;have own:∀{o:HO},H a=some o->False:=fun h=>by rw[f.1] at h;cases h
 have mod:∀{o:Obj},X.K.lookup a=some o->False:=fun {o} h=>by
  have hb:=I.ok.mod.kin a o h;rcases f.2.2.2.1 with z|z
  ·exact I.ok.noex a o hb z
  ·exact absurd (Qq hb) (Rp.mpr (Q5 I.ok.bsz z))
 cases b with
 | true =>
  rcases q with (h|⟨o,h⟩)|⟨o,its,n,h,_⟩
  ·exact own h
  ·exact own h
  ·exact mod h
 | false =>
  rcases q with (h|⟨o,h⟩)|⟨o,its,n,h,_⟩
  ·exact own h
  ·exact own h
  ·exact mod h
noncomputable def Itz(K:Qz)(b1 b2:Bool)(a1 a2:Qg):It :=
 ⟨fun i H=>∃xs ys x y,Sq b1 K H a1 xs/\Sq b2 K H a2 ys/\xs[i]?=some x/\ys[i]?=some y,
  fun i H x H'=>∃p u v,x=.ref p/\H p=none/\H'=upd H p (.tup [u,v])/\∀xs ys,Sq b1 K H a1 xs->Sq b2 K H a2 ys->xs[i]?=some u/\ys[i]?=some v,
  fun i H=>∃xs ys,Sq b1 K H a1 xs/\Sq b2 K H a2 ys/\i=min xs.length ys.length⟩
noncomputable def ZSt(b1 b2:Bool)(a1 a2 z TI TO i1 i2:Qg)(i:Nat)(h:QP):Prop:=IsZip h z TI TO .none/\IsPair h TI (.ref i1) (.ref i2)/\(∃a b,IsPair h TO a b)/\IsItr b1 h i1 a1 i/\IsItr b2 h i2 a2 i
theorem IsItr.keep{b:Bool}{h h':QP}{j a:Qg}{i:Nat}(q:IsItr b h j a i)(k:∀o,h.get? j=some o->h'.get? j=some o):IsItr b h' j a i:=by
 cases b with
 | true=>obtain⟨o,e,r⟩:=q;exact⟨o,k o e,r⟩
 | false=>obtain⟨o,e,r⟩:=q;exact⟨o,k o e,r⟩
theorem IsItr.obj{b:Bool}{h:QP}{j a:Qg}{i:Nat}(q:IsItr b h j a i):∃o,h.get? j=some o/\∀v,o.data≠.cell v:=by
 cases b with
 | true=>obtain⟨o,e,_,d⟩:=q;exact⟨o,e,fun v z=>by rw[d] at z;cases z⟩
 | false=>obtain⟨o,e,_,d⟩:=q;exact⟨o,e,fun v z=>by rw[d] at z;cases z⟩
end
theorem Jl2{X:Cx}{pins:List (Qg×Obj)}{σ:St}{H:Hp}{s:Qh}{b1 b2:Bool}{a1 a2 z TI TO i1 i2:Qg}{xs ys:List V}(I:Inv X pins σ H s)(q1:Sq b1 X.K H a1 xs)(q2:Sq b2 X.K H a2 ys)(hf:∀b∈[z,TI,TO,i1,i2],FpOk X pins H b)
 (nd:[z,TI,TO,i1,i2].Nodup):ZA z TI TO i1 i2 [i1,a1] [i2,a2]:=by
 have o1:∀c∈[z,TI,TO,i1,i2],a1≠c:=fun c hc=>FpOk.off I q1 (hf c hc)
 have o2:∀c∈[z,TI,TO,i1,i2],a2≠c:=fun c hc=>FpOk.off I q2 (hf c hc)
 simp only[Gk,Qj,Gh,or_false,not_or] at nd;obtain⟨⟨n1,n2,n3,n4⟩,⟨n5,n6,n7⟩,⟨n8,n9⟩,n10,_⟩:=nd;have c1:=o1 z (by simp);have c2:=o1 TI (by simp);have c3:=o1 TO (by simp);have c4:=o1 i2 (by simp);have d1:=o2 z (by simp);have d2:=o2 TI (by simp);have d3:=o2 TO (by simp);have d4:=o2 i1 (by simp);refine⟨Q2 n1,Q2 n2,n5,by simp,by simp,?_,?_,?_,?_,?_,?_,?_,?_⟩ <;> simp only[Qj,Gh,or_false,not_or]
 ·exact⟨n3,Q2 c1⟩
 ·exact⟨n4,Q2 d1⟩
 ·exact⟨n6,Q2 c2⟩
 ·exact⟨n7,Q2 d2⟩
 ·exact⟨n8,Q2 c3⟩
 ·exact⟨n9,Q2 d3⟩
 ·exact⟨n10,Q2 d4⟩
 ·exact⟨Q2 n10,Q2 c4⟩
theorem Ji1{P:Qy}{w:QH}{K:Qz}{elts:List Q6}{kk:Nat}{pos:Pos}(b1 b2:Bool)(a1 a2 z TI TO i1 i2:Qg)(nd:[z,TI,TO,i1,i2].Nodup) :
 Turn P w K (.Tuple elts kk pos) (Itz K b1 b2 a1 a2) [z,TI,TO,i1,i2] z (ZSt b1 b2 a1 a2 z TI TO i1 i2) where
 mem:=by simp
 obj:=fun i h st b hb=>by
  obtain⟨s1,s2,⟨u,v,s3⟩,s4,s5⟩:=st;simp only[Qj,Gh,or_false] at hb;rcases hb with rfl|rfl|rfl|rfl|rfl
  ·exact⟨_,s1,fun v z=>nomatch (show Data.fields _=Data.cell v from z)⟩
  ·exact⟨_,s2,fun v z=>nomatch (show Data.seq _ _=Data.cell v from z)⟩
  ·exact⟨_,s3,fun v z=>nomatch (show Data.seq _ _=Data.cell v from z)⟩
  ·exact IsItr.obj (b:=b1) s4
  ·exact IsItr.obj (b:=b2) s5
 keep:=fun i h h' st k=>by obtain⟨s1,s2,⟨u,v,s3⟩,s4,s5⟩:=st;exact⟨k z (by simp) _ s1,k TI (by simp) _ s2,⟨u,v,k TO (by simp) _ s3⟩,IsItr.keep (b:=b1) s4 fun o e=>k i1 (by simp) o e,IsItr.keep (b:=b2) s5 fun o e=>k i2 (by simp) o e⟩
 item:=by
  intro X hP hw hK hc i pins s σ H E I hf st hg;subst hP hw hK;obtain⟨xs,ys,x,y,q1,q2,e1,e2⟩:=hg;obtain⟨its,r1,p1⟩:=q1.heap I;obtain⟨jts,r2,p2⟩:=q2.heap I;obtain⟨s1,s2,⟨u0,v0,s3⟩,s4,s5⟩:=st;have Z:=Jl2 I q1 q2 hf nd;have hh:X.A.in1.handled=none:=I.ok.hd hc;have ne1:a1≠i1:=FpOk.off I q1 (hf i1 (by simp));have ne2:a2≠i2:=FpOk.off I q2 (hf i2 (by simp));have D1:=Draws.sq (prog:=X.prog) (w:=X.w) (b:=b1) (xs:=its.toArray) hh i1 ne1
  have D2:=Draws.sq (prog:=X.prog) (w:=X.w) (b:=b2) (xs:=jts.toArray) hh i2 ne2
  have hT:s.TypeIs (.ref z) "zip":=⟨_,s1,rfl⟩
  have l1:i<its.toArray.size:=by have:=(Qk.mp e1).1;rw[Qr,<- r1.length];exact this
  have l2:i<jts.toArray.size:=by have:=(Qk.mp e2).1;rw[Qr,<- r2.length];exact this
  unfold pyNext;refine Qa (KL (Gf (name:=Q7 "__next__") hT L0 (GI L0 hT F.entry_zip_next (JgY Z D1 D2 s1 s2 s3 ⟨s4,p1⟩ ⟨s5,p2⟩ l1 l2 fun u v k tk pu pv t1 t2 t3 t4 t5 t6 t7 t8=>Qp ?_) (F.args_zip_next_1 _))));refine⟨_,rfl,wpAny_letOwnedTupleGo_zip (s:={ s with heap:=k,toks:=tk }) t1 fun k2 t9 e9=>?_⟩
  replace e9:QR z k k2:=e9;obtain⟨ux,hx1,rx⟩:=r1.get e1;obtain⟨uy,hy1,ry⟩:=r2.get e2
  have eu:u=ux:=by
   have pu':its[i]?=some u:=by simpa using pu
   rw[hx1] at pu';exact(Q0 pu').symm
  have ev:v=uy:=by
   have pv':jts[i]?=some v:=by simpa using pv
   rw[hy1] at pv';exact(Q0 pv').symm
  subst eu ev
  have zlt:∀b∈[z,TI,TO,i1,i2],b<s.heap.objs.size:=fun b hb=>by
   simp only[Qj,Gh,or_false] at hb;rcases hb with rfl|rfl|rfl|rfl|rfl
   ·exact Qq s1
   ·exact Qq s2
   ·exact Qq s3
   ·obtain⟨_,e,_⟩:=IsItr.obj (b:=b1) s4;exact Qq e
   ·obtain⟨_,e,_⟩:=IsItr.obj (b:=b2) s5;exact Qq e
  have nz:s.heap.objs.size≠z:=Lf (zlt z (by simp))
  -- the pair is laid,then the private objects turn
  have I1:Inv X pins σ (upd H s.heap.objs.size (.tup [x,y])) { s with heap:=s.heap.push { cls:=.type "tuple",data:=.seq #[u,v] },toks:=s.toks } :=
   I.laid (o:=.tup [x,y]) (fun b ob q=>Qi _ q) (Qx _) ⟨by show 2<=Qt;decide,[u,v],.cons rx (.cons ry .nil),⟨_,Qn _ rfl,rfl,_,rfl⟩⟩
  have hf1:∀b∈[z,TI,TO,i1,i2],FpOk X pins (upd H s.heap.objs.size (.tup [x,y])) b:=fun b hb=>⟨by rw[Jf (QK (zlt b hb))];exact(hf b hb).1,(hf b hb).2⟩
  have I2:Inv X pins σ (upd H s.heap.objs.size (.tup [x,y])) { s with heap:=k2,toks:=tk }:=Inv.turnedL (s:={ s with heap:=s.heap.push { cls:=.type "tuple",data:=.seq #[u,v] },toks:=s.toks }) I1 (fun b o hb q=>by
   simp only[Qj,Gh,or_false,not_or] at hb;refine e9.extBut b o hb.1 ?_
   by_cases hbs:b=s.heap.objs.size
   ·subst hbs;have q':(s.heap.push { cls:=.type "tuple",data:=.seq #[u,v] }).get? s.heap.objs.size=some o:=q;rw[Qn _ rfl] at q';cases q';exact t6
   ·have q':s.heap.get? b=some o:=by have q2:(s.heap.push { cls:=.type "tuple",data:=.seq #[u,v] }).get? b=some o:=q;exact(Mq s.heap b _ hbs).symm.trans q2
    exact t8 b o hb.1 hb.2.2.1 hb.2.2.2.1 hb.2.2.2.2 q') hf1
  refine⟨.ref s.heap.objs.size,_,I2,rfl,⟨_,x,y,rfl,I.hok.fresh (Qx _),rfl,fun xs' ys' h1 h2=>?_⟩,⟨t9,e9.extBut _ _ Z.a1 t2,⟨_,_,e9.extBut _ _ Z.a2 t3⟩,?_,?_⟩,fun b hb=>(hf1 b hb).1⟩
  ·rw[Sq.inj I h1 q1,Sq.inj I h2 q2];exact⟨e1,e2⟩
  ·exact IsItr.keep (b:=b1) t4.1 fun o e=>e9.extBut _ _ (fun q=>Z.z1 (q▸Z.m1)) e
  ·exact IsItr.keep (b:=b2) t5.1 fun o e=>e9.extBut _ _ (fun q=>Z.z2 (q▸Z.m2)) e
 done:=by
  intro X hP hw hK hc i pins s σ H E I hf st hg;subst hP hw hK;obtain⟨xs,ys,q1,q2,ei⟩:=hg;obtain⟨its,r1,p1⟩:=q1.heap I;obtain⟨jts,r2,p2⟩:=q2.heap I;obtain⟨s1,s2,⟨u0,v0,s3⟩,s4,s5⟩:=st;have Z:=Jl2 I q1 q2 hf nd;have hh:X.A.in1.handled=none:=I.ok.hd hc;have D1:=Draws.sq (prog:=X.prog) (w:=X.w) (b:=b1) (xs:=its.toArray) hh i1 (FpOk.off I q1 (hf i1 (by simp)));have D2:=Draws.sq (prog:=X.prog) (w:=X.w) (b:=b2) (xs:=jts.toArray) hh i2 (FpOk.off I q2 (hf i2 (by simp)))
  have hT:s.TypeIs (.ref z) "zip":=⟨_,s1,rfl⟩
  have n1:its.toArray.size=xs.length:=by rw[Qr,r1.length]
  have n2:jts.toArray.size=ys.length:=by rw[Qr,r2.length]
  unfold pyNext;refine Qa (KL (Gf (name:=Q7 "__next__") hT L0 (GI L0 hT F.entry_zip_next (Jja Z D1 D2 s1 s2 s3 ⟨s4,p1⟩ ⟨s5,p2⟩ (by omega) fun k e tk kk he=>?_) (F.args_zip_next_1 _))));obtain⟨o,ho,hoc⟩:=he;refine Qa (LQ (T:="StopIteration") (b:=true) ⟨o,ho,hoc⟩ Rh (Qp ⟨rfl,?_⟩));exact I.turnedL (fun b o hb q=>by simp only[Qj,Gh,or_false,not_or] at hb;exact kk b o hb.1 hb.2.2.1 hb.2.2.2.1 hb.2.2.2.2 q) hf
 self:=fun _ _ _ _ _ st h=>wpAny_pyIter_zip st.1 h
noncomputable def iZp(K:Qz)(ta:TA):TI:=fun σ H R=>ta σ H fun vs H1=>∃(b1 b2:Bool) (a1 a2:Qg) (xs ys:List V),vs=[.ref a1,.ref a2]/\Sq b1 K H1 a1 xs/\Sq b2 K H1 a2 ys/\R (Itz K b1 b2 a1 a2) H1
theorem Jfo{X:Cx}{K:Qz}{elts:List Q6}{kk:Nat}{tpos:Pos}{a b:Q6}{ta:TA}{p pos:Pos}(hK:X.K=K)(hg:Gl X "zip")(hm:X.mg "zip"=none)(ha:PA X [a,b] ta)(hs:starEach [a,b] X.env=[(false,eval a X.env),(false,eval b X.env)]:=by rfl)
 (hs2:starEach [b] X.env=[(false,eval b X.env)]:=by rfl):PI X (.Tuple elts kk tpos) (.Call (.Name "zip" p) [a,b] [] pos) (iZp K ta):=by
 subst hK;intro pins s σ H R I h;refine Call_ (Ud I hg hm Jmd (GL (thn (ha pos pins s σ H _ I h) fun us s1 ⟨vs,H1,I1,r1,q1⟩=>?_) (by rw[hs,hs2]) (by rw[hs2];rfl)));obtain⟨b1,b2,a1,a2,xs,ys,e,c1,c2,q⟩:=q1;subst e
 cases r1 with
 | cons r rr =>
 cases rr with
 | cons r' rr =>
 cases rr;cases r;cases r';obtain⟨its,w1,p1⟩:=c1.heap I1;obtain⟨jts,w2,p2⟩:=c2.heap I1;refine Jga p1 p2 fun h' t1 t2 t3 t4 t5 kp=>wpAny_pyIter_zip t1 ?_
 refine⟨_,[s1.heap.objs.size+4,s1.heap.objs.size+2,s1.heap.objs.size+3,s1.heap.objs.size,s1.heap.objs.size+1],_,_,H1,rfl,I1.kept (t':=s1.toks) kp,Ji1 b1 b2 a1 a2 _ _ _ _ _ (by simp),⟨t1,t2,⟨_,_,t3⟩,t4,t5⟩,fun b hb=>?_,q⟩
 have hle:s1.heap.objs.size<=b:=by simp only[Qj,Gh,or_false] at hb;rcases hb with rfl|rfl|rfl|rfl|rfl <;> first|exact Qx _|exact Nat.le_add_right _ _
 exact I1.fpOk hle (I1.hok.fresh hle)
end L2

namespace LE
open PySem L2 LR
noncomputable def Ji9(ds es:List D):List D:=List.zipWith (fun a b=>.tup [a,b]) ds es
noncomputable def Jka(m:Bool)(as:En->Option (List Sl)):En->Option (List D):=fun E=>(as E).bind fun ss=>match ss with
 | [s,t]=>(s.it m).bind fun ds=>(t.it m).bind fun es=>some (Ji9 ds es)
 | _=>none
section
variable{K:Qz}{C:Qg}{m:Bool}
theorem Jj9{H H1 H1':Hp}{v:V}{s:Sl}{ds:List D}(r:RR K C H H1 H1' v s)(i:Same H1 H1')(e:s.it m=some ds) :
 ∃(b:Bool) (a:Qg) (xs:List V),v=.ref a/\(∀A,(m=true->A=H1')->∀H0' H',SStep A (Yg H H1 H1') H0' H'->Sq b K H' a xs)/\RDL K C (Yg H H1 H1') xs ds:=by
 have f:=JE (Hs:=H) i
 have shared:∀{d:D},RD K C (Yg H H1 H1') v d->(Sl.sh d).q=some ds->∃(b:Bool) (a:Qg) (xs:List V),v=.ref a/\(∀A,(m=true->A=H1')->∀H0' H',SStep A (Yg H H1 H1') H0' H'->Sq b K H' a xs)/\RDL K C (Yg H H1 H1') xs ds:=fun {d} r e=>by
  cases d with
  | lst es=>cases e;obtain⟨l,xs,h1,h2,h3⟩:=RD.lstI r;exact⟨false,l,xs,h1,fun A _ H0' H' st=>SqL.of (st.i _ _ (st.z _ _ h2)),h3⟩
  | fz es=>cases e;obtain⟨l,xs,h1,h2,h3⟩:=RD.fzI r;exact⟨false,l,xs,h1,fun A _ H0' H' st=>(st.z.trans st.i).seq h2,h3⟩
  | tup es=>cases e;obtain⟨l,xs,h1,h2,h3⟩:=RD.tupI r;exact⟨true,l,xs,h1,fun A _ H0' H' st=>(st.z.trans st.i).seqT h2,h3⟩
  | _=>cases e
 cases s with
 | no=>cases e
 | sh d=>exact shared (RD.mono f.z r) e
 | own es=>exact shared (RR.frz (s:=.own es) i r rfl) e
 | bd _ _=>cases e
 | bt _ _=>cases e
 | od _ _=>cases e
 | ot _ _=>cases e
 | bo es =>
  unfold Sl.it at e;dsimp only at e;split at e
  ·next hm=>cases e;obtain⟨l,xs,h1,h2,h3⟩:=r;refine⟨false,l,xs,h1,fun A hA H0' H' st=>?_,h3.mono f.z⟩;have:=hA hm;subst this;exact SqL.of (st.b _ _ h2)
  ·cases e
theorem Jon{t:TA}{ev:En->Option (List Sl)}(ha:SA K C t ev):SI K C m (iZp K t) (Jka m ev):=by
 intro B H0 H σ E ds R I e q;obtain⟨ss,e1,e⟩:=bind_some e;split at e
 ·next s u =>
  obtain⟨ds1,e2,e⟩:=bind_some e;obtain⟨ds2,e3,e⟩:=bind_some e;cases e;refine ha B H0 H σ E _ _ I e1 fun vs H1 H1' s1 r1=>?_
  obtain⟨v,w,rfl,ra,rb⟩:=r1.two;have f:=JE (Hs:=H) s1.i;obtain⟨b1,a1,xs,rfl,k1,w1⟩:=Jj9 ra s1.i e2;obtain⟨b2,a2,ys,rfl,k2,w2⟩:=Jj9 rb s1.i e3;have hA:m=true->(if m=true then H1' else B)=H1':=fun h=>if_pos h
  have sA:Same (if m=true then H1' else B) H1':=by
   split
   ·exact Same.refl _
   ·exact I.b.trans s1.h
  have st0:SStep (if m=true then H1' else B) (Yg H H1 H1') (Yg H H1 H1') H1':=⟨sA,Same.refl _,fun _ _ e=>.inl e,f.i⟩
  refine⟨b1,b2,a1,a2,xs,ys,rfl,k1 _ hA _ _ st0,k2 _ hA _ _ st0,q _ _ _ (s1.comp f fun _ z=>z) ?_⟩;intro H0' H' st;have q1:=k1 _ hA _ _ st;have q2:=k2 _ hA _ _ st;refine⟨fun i d e=>?_,⟨xs,ys,q1,q2,by unfold Ji9;rw[List.length_zipWith,w1.1,w2.1]⟩⟩;unfold Ji9 at e;rw[M0] at e
  cases g1:ds1[i]? with
  | none=>rw[g1] at e;cases e
  | some d1 =>
   cases g2:ds2[i]? with
   | none=>rw[g1,g2] at e;cases e
   | some d2 =>
    rw[g1,g2] at e;cases e;obtain⟨x,x1,x2⟩:=w1.get g1;obtain⟨y,y1,y2⟩:=w2.get g2;refine⟨⟨xs,ys,x,y,q1,q2,x1,y1⟩,?_⟩;rintro z H2 ⟨p,u',v',rfl,hp,rfl,hv⟩;obtain⟨h1,h2⟩:=hv xs ys q1 q2;rw[x1] at h1;cases h1;rw[y1] at h2;cases h2;have h0:H0' p=none:=Same.free st.i hp;refine⟨upd H0' p (.tup [x,y]),⟨.new hp,.new h0,fun a o e=>?_,fun a o e=>?_⟩,?_⟩
    ·by_cases h:a=p
     ·subst h;exact .inr (.inl hp)
     ·rw[Jf h] at e;exact .inl e
    ·by_cases h:a=p
     ·subst h;rw[Jm] at e ⊢;exact e
     ·rw[Jf h] at e ⊢;exact st.i a o e
    ·exact .mkT (.of Jm) (.cons (x2.mono (st.z.trans (.new h0))) (.cons (y2.mono (st.z.trans (.new h0))) .nil))
 ·cases e
theorem JfX{α β:Type}(f:α->D)(g:β->D)(xs:List α)(ys:List β):Ji9 (xs.map f) (ys.map g)=(Kl xs ys).map fun p=>.tup [f p.1,g p.2]:=by
 unfold Ji9
 induction xs generalizing ys with
 | nil=>rfl
 | cons x xs ih=>cases ys with
  | nil=>rfl
  | cons y ys=>simp[ih]
end
end LE

namespace PySem
namespace F
theorem JiH:Manifest.owners.lookup (String.ofList ['d','e','s','r','e','v','e','r'].reverse)=some Manifest.sig_reversed:=by kernel_rfl
theorem JbD:Slot "reversed" "__init__" "object.__init__" :=
 .of (owner:="object") (n:="__init__") (by rw[typeLookup_type,builtinLookup_eq_fast];kernel_rfl) (by decide +kernel) (by decide +kernel) (by decide +kernel) (by first | exact .inl (by decide +kernel) | exact .inr (by decide +kernel)) (by rw[Mi];kernel_rfl)
theorem rv_slot_next:Slot "reversed" "__next__" "reversed.__next__" :=
 .of (owner:="reversed") (n:="__next__") (by rw[typeLookup_type,builtinLookup_eq_fast];kernel_rfl) (by decide +kernel) (by decide +kernel) (by decide +kernel) (by first | exact .inl (by decide +kernel) | exact .inr (by decide +kernel)) (by rw[Mi];kernel_rfl)
theorem rv_slot_iter:Slot "reversed" "__iter__" "reversed.__iter__" :=
 .of (owner:="reversed") (n:="__iter__") (by rw[typeLookup_type,builtinLookup_eq_fast];kernel_rfl) (by decide +kernel) (by decide +kernel) (by decide +kernel) (by first | exact .inl (by decide +kernel) | exact .inr (by decide +kernel)) (by rw[Mi];kernel_rfl)
theorem rv_args_next(a:Qe):argsOk "reversed.__next__" ⟨[a],[]⟩:=by unfold argsOk;rw[signature?_of (id:="reversed.__next__") (n:=['_','_','t','x','e','n','_','_']) (o:=['d','e','s','r','e','v','e','r']) (by kernel_rfl) JiH];kernel_rfl
theorem rv_args_iter(a:Qe):argsOk "reversed.__iter__" ⟨[a],[]⟩:=by unfold argsOk;rw[signature?_of (id:="reversed.__iter__") (n:=['_','_','r','e','t','i','_','_']) (o:=['d','e','s','r','e','v','e','r']) (by kernel_rfl) JiH];kernel_rfl
theorem rv_entry_next:entryFor table "reversed.__next__"=some Builtin.«reversed.__next__»:=entryFor_of_tree (by kernel_rfl)
theorem rv_entry_iter:entryFor table "reversed.__iter__"=some Builtin.«dict_keyiterator.__iter__» :=
 entryFor_alias (id':="dict_keyiterator.__iter__") (by kernel_rfl) (by first | rfl | decide +kernel | (unfold String.splitOn;simp +decide [String.splitOnAux])) (by decide +kernel) (by kernel_rfl)
theorem rv_called:TypeCalled "reversed" "reversed.__new__" "object.__init__" :=
 ⟨by decide +kernel,by decide +kernel,⟨_,_,mro_reversed⟩,made_reversed,by decide +kernel,sub_reversed_self,JbD⟩
theorem rv_tuple_none:typeLookup (.type "tuple") "__reversed__"=pure none:=by rw[typeLookup_type,builtinLookup_eq_fast];kernel_rfl
theorem rv_tuple_dict:isSubtype (.type "tuple") (.type "dict")=pure false:=by rw[Mi];kernel_rfl
end F
abbrev Jdj(h:QP)(r a:Qg)(i:Int):Prop:=h.get? r=some { cls:=.type "reversed",dict:=none,data:=.fields #[.ref a,rawInt i],slots:=#[] }
section
variable{prog:Qy}{w:QH}{A:QF}{E:Qe->Qh->Prop}{s:Qh}{a r:Qg}{xs:Array Qe}
theorem Jh7(a:Qg)(xs:Array Qe):Meets (Builtin.«reversed.__new__» ⟨[.type "reversed",.ref a],[]⟩) (fun _ R s=>s.heap.IsTuple a xs/\(xs.size:Int)<2 ^ 63 ∧
 R (.ok (.ret (.ref s.heap.objs.size))) { s with heap:=s.heap.push { cls:=.type "reversed",data:=.fields #[.ref a,rawInt ((xs.size:Int)-1)] },toks:=s.toks+1+1 }) :=
 .of_wp fun prog w A R s h=>by
  obtain⟨hp,g,d,tk,os⟩:=s;obtain⟨q1,q2,h⟩:=h;have hT:(⟨hp,g,d,tk,os⟩:Qh).TypeIs (.ref a) "tuple":=q1.typeIs;unfold Builtin.«reversed.__new__»;refine Qa (KD (newClass_reversed _) ?_)
  try dsimp only
  refine Qa (KD (a:=()) (by first|rfl|kernel_rfl) ?_);refine Qa (KD (a:=()) (by first|rfl|kernel_rfl) ?_)
  try dsimp only
  refine Qa (MU hT F.rv_tuple_none ?_)
  try dsimp only
  refine Qa ?_;refine Qa (m:=isInstance (.ref a) (.type "dict")) (LQ hT F.rv_tuple_dict ?_);refine Qa (MU hT Q9.lookup ?_);refine Qp ?_;refine Qa (PyProof.Rows.len_tuple (s:=⟨hp,g,d,tk,os⟩) q1 q2 ?_);refine Qa (KD (a:=some (xs.size:Int)) rfl ?_)
  try dsimp only
  refine Qa ?_;show wpAny _ _ (newObj (.type "reversed") (.fields #[.ref a,rawInt ((xs.size:Int)-1)])) _ _ _;exact Gw (Qp ⟨_,rfl,h⟩) (by size_fits)
theorem Jjr{Q:Qe->Qh->Prop}(q1:s.heap.IsTuple a xs)(q2:(xs.size:Int)<2 ^ 63)
 (h:∀h' tk,Jdj h' s.heap.objs.size a ((xs.size:Int)-1)->(∀c o,s.heap.get? c=some o->h'.get? c=some o)->Q (.ref s.heap.objs.size) { s with heap:=h',toks:=tk }) :
 wpAny (model prog w) A (call (.type "reversed") [.ref a]) Q E s:=by
 refine callType_new F.rv_called (by decide) (F.typeCall_reversed_1 _) (F.newCall_reversed_1 _) (fun obj=>F.args_object_init_2 obj _) F.entry_reversed_new (Jh7 a xs) ⟨q1,q2,?_⟩;exact⟨⟨_,Qn _ rfl,rfl⟩,h _ _ (Qn _ rfl) fun c o q=>Qi _ q⟩
theorem Jks{i:Nat}{x:Qe}{Q:Option Qe->Qh->Prop}(hit:Jdj s.heap r a (i:Int))(hl:s.heap.IsTuple a xs)(hb:(i:Int)<2 ^ 63)(hx:xs[i]?=some x)
 (hQ:∀h' tk,Jdj h' r a ((i:Int)-1)->QR r s.heap h'->Q (some x) { s with heap:=h',toks:=tk }):wpAny (model prog w) A (pyNext (.ref r)) Q E s:=by
 have hT:s.TypeIs (.ref r) "reversed":=⟨_,hit,rfl⟩
 have hi:i<xs.size:=by
  by_cases z:i<xs.size
  ·exact z
  ·rw[Array.getElem?_eq_none (by omega)] at hx;cases hx
 unfold pyNext;refine Qa (KL (Gf (name:=Q7 "__next__") hT F.rv_slot_next
  (GI F.rv_slot_next hT F.rv_entry_next ?_ (F.rv_args_next _))))
 unfold Builtin.«reversed.__next__»;refine Qa (KD (a:=(Value.ref r,[])) rfl ?_)
 try dsimp only
 refine Qa (Q8 hit rfl (x:=.ref a) rfl ?_);refine Qa (Q8 hit rfl (x:=rawInt (i:Int)) rfl ?_);show wpAny _ _ (if (i:Int)<0 then _ else _) _ _ s;rw[if_neg (by omega)];show wpAny _ _ (specialOf (.ref a) _ >>= _) _ _ s;refine Qa (MU hl.typeIs Q9.lookup ?_);show wpAny _ _ (mkInt (i:Int) >>= _) _ _ s;refine Qa (wpAny_mkInt ?_);refine Qa (KL (PyProof.Rows.getItem_tuple (s:={ s with toks:=s.toks+1 }) hl (by omega) hb (j:=i) (by simp[seqIndex?];omega) hx ?_))
 show wpAny _ _ (field (.ref r) 1 >>= _) _ _ _;refine Qa (Q8 hit rfl (x:=rawInt (i:Int)) rfl ?_)
 show wpAny _ _ (setField (.ref r) 1 (rawInt ((i:Int)-1)) >>= _) _ _ _;refine Qa (Gb hit (by simp) fun k1 y1 e1=>?_);exact Qp ⟨x,rfl,Qp (hQ k1 _ y1 e1)⟩
theorem Jmn{Q:Option Qe->Qh->Prop}(hh:A.handled=none)(hit:Jdj s.heap r a (-1))
 (hQ:∀h',Rg r s.heap h'->Q none { s with heap:=h' }):wpAny (model prog w) A (pyNext (.ref r)) Q E s:=by
 have hT:s.TypeIs (.ref r) "reversed":=⟨_,hit,rfl⟩
 unfold pyNext;refine Qa (KL (Gf (name:=Q7 "__next__") hT F.rv_slot_next
  (GI F.rv_slot_next hT F.rv_entry_next ?_ (F.rv_args_next _))))
 unfold Builtin.«reversed.__next__»;refine Qa (KD (a:=(Value.ref r,[])) rfl ?_)
 try dsimp only
 refine Qa (Q8 hit rfl (x:=.ref a) rfl ?_);refine Qa (Q8 hit rfl (x:=rawInt (-1)) rfl ?_);show wpAny _ _ (if (-1:Int)<0 then _ else _) _ _ s;rw[if_pos (by decide)];refine Qa (Lc ?_);refine Qa ?_;refine Qa (m:=setField (.ref r) 1 (rawInt (-1))) (Gb hit (by simp) fun k1 y1 e1=>?_);refine Gb (s:={ s with heap:=k1 }) y1 (by simp) fun k2 y2 e2=>?_
 refine Qa ?_;show wpAny _ _ (newExc (.type "StopIteration") [] >>= _) _ _ _;refine Qa ?_;simp only[newExc,newTuple];refine Qa (Gw ?_ (by size_fits));refine Qa (m:=firstArgMember _ _) (KD (a:=Value.none) (by first | rfl | (simp only[firstArgMember];rfl)) ?_);refine Gw ?_ (by size_fits);simp only[raiseNew];refine Qa (wpAny_handled ?_)
 first|rw[show A.in1.handled=none from hh]|rw[hh]
 refine Qa (Qp (wpAny_throw ?_));refine Qa (LQ (T:="StopIteration") (b:=true) ⟨_,Qn _ rfl,rfl⟩ Rh ?_)
 replace e1:QR r s.heap k1:=e1
 replace e2:QR r k1 k2:=e2;refine Qp (hQ _ ?_);exact(RC (RC (fun b o hb q=>e2.extBut b o hb (e1.extBut b o hb q)) _) _)
theorem Je4{i:Int}{Q:Qe->Qh->Prop}(hit:Jdj s.heap r a i)(h:Q (.ref r) s):wpAny (model prog w) A (pyIter (.ref r)) Q E s:=by
 have hT:s.TypeIs (.ref r) "reversed":=⟨_,hit,rfl⟩
 refine wpAny_pyIter_slot hT F.rv_slot_iter (GI F.rv_slot_iter hT F.rv_entry_iter ?_ (F.rv_args_iter _));show wpAny _ _ (ret (.ref r)) _ _ s;exact Qp ⟨_,rfl,"reversed",_,hT,F.rv_slot_next.lookup,h⟩
end
end PySem
namespace L2
open PySem PySem.Spec PyProof.Rows
noncomputable def Itv(K:Qz)(b:Bool)(a:Qg)(n:Nat):It :=
 ⟨fun i H=>i<n/\∃xs,Sq b K H a xs/\xs.length=n,fun i H x H'=>H'=H/\∀xs,Sq b K H a xs->xs[n-1-i]?=some x,fun i _=>i=n⟩
noncomputable def Jqx(b:Bool)(r a:Qg)(i:Int)(h:QP):Prop:=match b with
 | true=>Jdj h r a i
 | false=>h.IsRevIter r a i
theorem JfT{P:Qy}{w:QH}{K:Qz}{tg:Q6}(b:Bool)(a r:Qg)(n:Nat)(hn:n<=Qt):Turn P w K tg (Itv K b a n) [r] r (fun i h=>Jqx b r a ((n:Int)-1-(i:Int)) h) where
 mem:=by simp
 obj:=fun i h st c hc=>by
  have e:c=r:=by simpa using hc
  subst e
  cases b with
  | true=>exact⟨_,st,fun v z=>nomatch (show Data.fields _=Data.cell v from z)⟩
  | false=>obtain⟨o,e,_,d⟩:=st;exact⟨o,e,fun v z=>by rw[d] at z;cases z⟩
 keep:=fun i h h' st k=>by
  cases b with
  | true=>exact k r (by simp) _ st
  | false=>exact Heap.IsRevIter.at st fun o e=>k r (by simp) o e
 item:=by
  intro X hP hw hK hc i pins s σ H E I hf st hg;subst hP hw hK;obtain⟨hi,xs,hq,hlen⟩:=hg;obtain⟨f0,f1,f2,f3,f4,f5⟩:=hf r (by simp);obtain⟨its,rv,p⟩:=hq.heap I;obtain⟨x,hx⟩:∃x,xs[n-1-i]?=some x:=⟨xs[n-1-i]'(by omega),by simp⟩
  obtain⟨u,hu,ru⟩:=rv.get hx;have e:(n:Int)-1-(i:Int)=((n-1-i:Nat):Int):=by omega
  have e2:((n-1-i:Nat):Int)-1=(n:Int)-1-((i+1:Nat):Int):=by omega
  rw[e] at st;have hz:Qt<2 ^ 63:=by decide
  cases b with
  | true =>
   refine Jks (s:=s) st p (by omega) (x:=u) (by simpa using hu) fun h' tk st' sb=>?_
   replace sb:QR r s.heap h':=sb;have I1:Inv X pins σ H { s with heap:=h',toks:=tk }:=I.turned (fun b o hb e=>(sb.2 b hb).trans e) f0 f1 f3 f4 f5;rw[e2] at st';exact⟨u,rfl,Jcg (s:={ s with heap:=h',toks:=tk }) st' rfl rfl (by decide) ⟨x,H,I1,ru,⟨rfl,fun ys hy=>by rw[Sq.inj I hy hq];exact hx⟩,st',fun b hb=>(hf b hb).1⟩⟩
  | false =>
   refine wpAny_pyNext_rev_item (s:=s) st p (x:=u) (by simpa using hu) fun h' st' sb=>?_
   have I1:Inv X pins σ H { s with heap:=h' }:=I.turned (t':=s.toks) (fun b o hb e=>(sb.2 b hb).trans e) f0 f1 f3 f4 f5;rw[e2] at st';obtain⟨o,eo,co,d⟩:=id st';exact⟨u,rfl,Jcg (s:={ s with heap:=h' }) eo co d (by decide) ⟨x,H,I1,ru,⟨rfl,fun ys hy=>by rw[Sq.inj I hy hq];exact hx⟩,st',fun b hb=>(hf b hb).1⟩⟩
 done:=by
  intro X hP hw hK hc i pins s σ H E I hf st hg;subst hP hw hK;obtain⟨f0,f1,f2,f3,f4,f5⟩:=hf r (by simp)
  replace hg:i=n:=hg;have e:(n:Int)-1-(i:Int)=-1:=by omega
  rw[e] at st
  cases b with
  | true=>exact Jmn (s:=s) (a:=a) (I.ok.hd hc) st fun h' eb=>⟨rfl,I.turned (t':=s.toks) (fun b o hb e=>eb b o hb e) f0 f1 f3 f4 f5⟩
  | false=>exact wpAny_pyNext_rev_end (s:=s) (I.ok.hd hc) st fun h' eb=>⟨rfl,I.turned (t':=s.toks) (fun b o hb e=>eb b o hb e) f0 f1 f3 f4 f5⟩
 self:=fun _ i s _ _ st h=>by
  cases b with
  | true=>exact Je4 (s:=s) st h
  | false=>exact wpAny_pyIter_revIter (s:=s) st h
noncomputable def iRv(K:Qz)(ta:TA):TI:=fun σ H R=>ta σ H fun vs H1=>∃(b:Bool) (a:Qg) (xs:List V),vs=[.ref a]/\Sq b K H1 a xs/\R (Itv K b a xs.length) H1
theorem JkG{X:Cx}{K:Qz}{tg:Q6}{a:Q6}{ta:TA}{p pos:Pos}(hK:X.K=K)(hg:Gl X "reversed")(hm:X.mg "reversed"=none)(ha:PA X [a] ta)(hs:starEach [a] X.env=[(false,eval a X.env)]:=by rfl)
:PI X tg (.Call (.Name "reversed" p) [a] [] pos) (iRv K ta):=by
 subst hK;intro pins s σ H R I h;refine Call_ (Ud I hg hm JbY (GL (thn (ha pos pins s σ H _ I h) fun us s1 ⟨vs,H1,I1,r1,q1⟩=>?_) (by rw[hs];rfl) (by rfl)));obtain⟨b,a,xs,e,c1,q⟩:=q1;subst e
 cases r1 with
 | cons r rr =>
 cases rr;cases r
 have fresh:∀c∈[s1.heap.objs.size],FpOk X pins H1 c:=fun c hc=>by
  have e:c=s1.heap.objs.size:=by simpa using hc
  subst e;exact I1.fpOk (Qx _) (I1.hok.fresh (Qx _))
 have hz:Qt<2 ^ 63:=by decide
 cases b with
 | true =>
  obtain⟨its,rv,p1,sz⟩:=I1.tuple c1;have hl:=rv.length;refine Jjr (s:=s1) (xs:=its.toArray) p1 (by rw[Qr];omega) fun h' tk t1 kp=>Je4 (s:={ s1 with heap:=h',toks:=tk }) t1 ?_
  refine⟨_,[s1.heap.objs.size],_,_,H1,rfl,I1.kept (t':=tk) kp,JfT true a _ xs.length sz,?_,fresh,q⟩;show Jdj h' s1.heap.objs.size a _;have e:(its.toArray.size:Int)-1=(xs.length:Int)-1-((0:Nat):Int):=by rw[Qr,<- hl];simp
  rw[<- e];exact t1
 | false =>
  obtain⟨its,rv,p1,sz⟩:=I1.list c1;have hl:=rv.length;refine call_reversed_list (s:=s1) p1.isList (wpAny_pyIter_revIter (l:=a) (i:=((its.toArray.size:Int)-1)) ⟨_,Qn _ rfl,rfl,rfl⟩ ?_);refine⟨_,[s1.heap.objs.size],_,_,H1,rfl,I1.kept (t':=s1.toks) fun b o e=>Qi _ e,JfT false a _ xs.length sz,?_,fresh,q⟩;refine⟨_,Qn _ rfl,rfl,?_⟩;have e:(its.toArray.size:Int)-1=(xs.length:Int)-1-((0:Nat):Int):=by rw[Qr,<- hl];simp
  rw[e];rfl
end L2
namespace LE
open PySem L2 LR
noncomputable def JmI(m:Bool)(as:En->Option (List Sl)):En->Option (List D):=fun E=>(as E).bind fun ss=>match ss with
 | [s]=>(s.it m).map List.reverse
 | _=>none
section
variable{K:Qz}{C:Qg}{m:Bool}
theorem Jom{t:TA}{ev:En->Option (List Sl)}(ha:SA K C t ev):SI K C m (iRv K t) (JmI m ev):=by
 intro B H0 H σ E ds R I e q;obtain⟨ss,e1,e⟩:=bind_some e;split at e
 ·next s =>
  obtain⟨ds1,e2,e⟩:=Gd.mp e;subst e;refine ha B H0 H σ E _ _ I e1 fun vs H1 H1' s1 r1=>?_
  obtain⟨v,rfl,ra⟩:=r1.one;have f:=JE (Hs:=H) s1.i;obtain⟨b1,a1,xs,rfl,k1,w1⟩:=Jj9 ra s1.i e2;have hA:m=true->(if m=true then H1' else B)=H1':=fun h=>if_pos h
  have sA:Same (if m=true then H1' else B) H1':=by
   split
   ·exact Same.refl _
   ·exact I.b.trans s1.h
  have st0:SStep (if m=true then H1' else B) (Yg H H1 H1') (Yg H H1 H1') H1':=⟨sA,Same.refl _,fun _ _ e=>.inl e,f.i⟩
  refine⟨b1,a1,xs,rfl,k1 _ hA _ _ st0,q _ _ _ (s1.comp f fun _ z=>z) ?_⟩;intro H0' H' st;have q1:=k1 _ hA _ _ st;refine⟨fun i d e=>?_,by rw[Km,w1.1];rfl⟩;have hi:i<ds1.length:=by have:=(Qk.mp e).1;rwa [Km] at this
  rw[GK hi,<- w1.1] at e;obtain⟨x,x1,x2⟩:=w1.get e;refine⟨⟨by rw[w1.1];exact hi,xs,q1,rfl⟩,?_⟩;rintro z H2 ⟨rfl,hv⟩;have h1:=hv xs q1;rw[x1] at h1;cases h1;exact⟨H0',.refl st.i,x2.mono st.z⟩
 ·cases e
end
end LE

namespace PySem
open AutoSeq1 (wpAny_loadPart')
abbrev enO(it:Qg):Obj:={ cls:=.type "enumerate",data:=.fields #[.none,.bool false,.ref it,rawInt 0,.none,.none] }
theorem Jgz(b:Bool)(a:Qg)(xs:Array Qe):Meets (Builtin.«enumerate.__new__» ⟨[.type "enumerate",.ref a],[]⟩) (fun _ R s=>IsSq b s.heap a xs ∧
 R (.ok (.ret (.ref (s.heap.push (itO b a)).objs.size))) { s with heap:=(s.heap.push (itO b a)).push (enO s.heap.objs.size) }) :=
 .of_wp fun prog w A R s h=>by
  obtain⟨hp,g,d,tk,os⟩:=s;obtain⟨q,h⟩:=h;have hsub:=sub_enumerate;have r:IsSq b (RE ⟨hp,g,d,tk,os⟩) a xs:=q
  obtain⟨o,hl⟩:∃o,hp.get? a=some o:=by
   cases b with
   | true=>obtain⟨o,e,_⟩:=q;exact⟨o,e⟩
   | false=>obtain⟨o,e,_⟩:=q;exact⟨o,e⟩
  wp_walk using L1 hl
  refine wpAny_stack_any fun st=>Qp ?_
  split
  ·rename_i c _ _ _ _ _;cases (c == Value.type "enumerate")
   ·wp_walk using L1 hl,Uk r
    exact⟨_,rfl,h⟩
   ·wp_walk using L1 hl,Uk r
    exact⟨_,rfl,h⟩
  ·wp_walk using L1 hl,Uk r
   exact⟨_,rfl,h⟩
section
variable{prog:Qy}{w:QH}{A:QF}{E:Qe->Qh->Prop}{s:Qh}{b:Bool}{a e it:Qg}{xs:Array Qe}
theorem Jhd{Q:Qe->Qh->Prop}(q:IsSq b s.heap a xs)
 (h:∀h',IsEnum h' (s.heap.objs.size+1) s.heap.objs.size 0 .none->IsItr b h' s.heap.objs.size a 0->(∀c o,s.heap.get? c=some o->h'.get? c=some o)->Q (.ref (s.heap.objs.size+1)) { s with heap:=h' }) :
 wpAny (model prog w) A (call (.type "enumerate") [.ref a]) Q E s:=by
 refine callType_new F.called_enumerate (by decide) (F.typeCall_enumerate_1 _) (F.newCall_enumerate_1 _) (fun obj=>F.args_object_init_2 obj _) F.entry_enumerate_new (Jgz b a xs) ⟨q,?_⟩;have hz:(s.heap.push (itO b a)).objs.size=s.heap.objs.size+1:=GO ..;have fi:(itO b a).isFreed=false:=by cases b <;> rfl
 have g2:((s.heap.push (itO b a)).push (enO s.heap.objs.size)).get? (s.heap.push (itO b a)).objs.size=some _:=Qn _ rfl
 have g1:((s.heap.push (itO b a)).push (enO s.heap.objs.size)).get? s.heap.objs.size=some _:=Qi _ (Qn _ fi)
 show _/\_;rw[hz] at g2;rw[hz];exact⟨⟨_,g2,rfl⟩,h _ g2 (.new g1) fun c o x=>Qi _ (Qi _ x)⟩
theorem Jhq{p:List Qg}{n i:Nat}{P:Nat->Qe->Prop}{S:Nat->QP->Prop}{old:Qe}{Q:Qe->Qh->Prop}(D:Draws prog w A it p n P S)(he:IsEnum s.heap e it i old)(st:S i s.heap)(hi:i<n)(hne:e∉p)(him:it∈p)
 (hQ:∀x h' tk t,P i x->IsEnumOut h' e it ((i:Int)+1) x s.heap.objs.size->S (i+1) h'->h'.get? s.heap.objs.size=some { cls:=.type "tuple",data:=.seq #[.int i t,x] }->h'.objs.size=s.heap.objs.size+1 ->
  (∀c o,c≠e->c≠it->s.heap.get? c=some o->h'.get? c=some o)->Q (.ref s.heap.objs.size) { s with heap:=h',toks:=tk }) :
 wpAny (model prog w) A (Builtin.«enumerate.__next__» ⟨[.ref e],[]⟩) (fun fin s'=>∃v,fin=.done (.ret v)/\Q v s') E s:=by
 obtain⟨hp,g,d,tk,os⟩:=s;have ne:e≠it:=fun q=>hne (q▸him)
 show wpAny _ _ (field (.ref e) 2 >>= _) _ _ _;refine Qa (Q8 he rfl (x:=.ref it) rfl (Qa (D.item i _ _ _ hi st fun x k1 t1 px s1 e1=>?_)))
 replace e1:QR it hp k1:=e1;have E1:IsEnum k1 e it i old:=(e1.2 e ne).trans he;refine Qa (Q8 (s:=⟨k1,g,d,t1,os⟩) E1 rfl (x:=rawInt i) rfl ?_);show wpAny _ _ (field (.ref e) 4 >>= _) _ _ ⟨k1,g,d,t1,os⟩;refine Qa (Q8 (s:=⟨k1,g,d,t1,os⟩) E1 rfl (x:=.none) rfl ?_);show wpAny _ _ (mkInt i >>= _) _ _ ⟨k1,g,d,t1,os⟩;refine Qa (wpAny_mkInt ?_);show wpAny _ _ (setField (.ref e) 3 (rawInt ((i:Int)+1)) >>= _) _ _ ⟨k1,g,d,t1+1,os⟩
 refine Qa (Gb E1 (by simp) fun k2 E2 e2=>?_)
 replace e2:QR e k1 k2:=e2
 replace E2:IsEnum k2 e it ((i:Int)+1) old:=E2;show wpAny _ _ (setField (.ref e) 4 .none >>= _) _ _ ⟨k2,g,d,t1+1,os⟩;refine Qa (Gb E2 (by simp) fun k3 E3 e3=>?_)
 replace e3:QR e k2 k3:=e3
 replace E3:IsEnum k3 e it ((i:Int)+1) old:=E3;show wpAny _ _ (newTuple [.int i t1,x] >>= _) _ _ ⟨k3,g,d,t1+1,os⟩;refine Qa (Rf ?_);have hsz:k3.objs.size=hp.objs.size:=by rw[e3.1,e2.1,e1.1]
 have elt:e<hp.objs.size:=Qq he
 have E4:IsEnum (k3.push { cls:=.type "tuple",data:=.seq #[.int i t1,x] }) e it ((i:Int)+1) old:=Qi _ E3
 have T4:(k3.push { cls:=.type "tuple",data:=.seq #[.int i t1,x] }).get? hp.objs.size=some { cls:=.type "tuple",data:=.seq #[.int i t1,x] }:=by rw[<- hsz];exact Qn _ rfl
 have z4:(k3.push { cls:=.type "tuple",data:=.seq #[.int i t1,x] }).objs.size=hp.objs.size+1:=by rw[GO,hsz]
 have kp:∀c o,c≠e->k1.get? c=some o->(k3.push { cls:=.type "tuple",data:=.seq #[.int i t1,x] }).get? c=some o:=fun c o c1 q=>Qi _ (e3.extBut c o c1 (e2.extBut c o c1 q))
 show wpAny _ _ (Gm (.ref e) >>= _) _ _ ⟨k3.push { cls:=.type "tuple",data:=.seq #[.int i t1,x] },g,d,t1+1,os⟩;rw[hsz]
 generalize k3.push { cls:=.type "tuple",data:=.seq #[.int i t1,x] }=k4 at E4 T4 z4 kp ⊢
 refine Qa ?_;unfold Gm;refine Qa (Q8 (s:=⟨k4,g,d,t1+1,os⟩) E4 rfl (x:=.none) rfl (Qp ?_));simp only[if_true];refine Qa (Lc (Qa (Q8 (s:=⟨k4,g,d,t1+1,os⟩) E4 rfl (x:=old) rfl (Qa (Gb E4 (by simp) fun k5 E5 e5=>?_)))))
 replace e5:QR e k4 k5:=e5
 replace E5:IsEnum k5 e it ((i:Int)+1) x:=E5;show wpAny _ _ (GX (.ref e) (.ref hp.objs.size) >>= _) _ _ ⟨k5,g,d,t1+1,os⟩;refine Qa ?_;unfold GX;refine Qa (Gb E5 (by simp) fun k6 E6 e6=>?_)
 replace e6:QR e k5 k6:=e6
 replace E6:IsEnumOut k6 e it ((i:Int)+1) x hp.objs.size:=E6;refine Gb E6 (by simp) fun k7 E7 e7=>?_
 replace e7:QR e k6 k7:=e7
 replace E7:IsEnumOut k7 e it ((i:Int)+1) x hp.objs.size:=E7;have up:∀c o,c≠e->k4.get? c=some o->k7.get? c=some o:=fun c o c1 q=>e7.extBut c o c1 (e6.extBut c o c1 (e5.extBut c o c1 q))
 refine Qa (G4 (Qp ⟨_,rfl,hQ x k7 (t1+1) t1 px E7 ?_ (up _ _ (Lf elt) T4) (by rw[e7.1,e6.1,e5.1,z4]) fun c o c1 c2 q=>up c o c1 (kp c o c1 (e1.extBut c o c2 q))⟩));exact D.frame _ _ _ s1 fun c hc o q=>up c o (fun z=>hne (z▸hc)) (kp c o (fun z=>hne (z▸hc)) q)
theorem Jjz{p:List Qg}{n:Nat}{P:Nat->Qe->Prop}{S:Nat->QP->Prop}{old:Qe}{Q:Fin->Qh->Prop}(D:Draws prog w A it p n P S)(he:IsEnum s.heap e it n old)(st:S n s.heap)
 (hE:∀h' x tk,Rg it s.heap h'->(∃o,h'.get? x=some o/\o.cls=.type "StopIteration")->E (.ref x) { s with heap:=h',toks:=tk }) :
 wpAny (model prog w) A (Builtin.«enumerate.__next__» ⟨[.ref e],[]⟩) Q E s:=by
 show wpAny _ _ (field (.ref e) 2 >>= _) _ _ _;refine Qa (Q8 he rfl (x:=.ref it) rfl (Qa (D.done _ _ _ st fun k1 x e1 hx=>?_)));exact hE k1 x s.toks e1 hx
end
end PySem
namespace L2
open PySem PySem.Spec PyProof.Rows
noncomputable def Ite(K:Qz)(b:Bool)(a:Qg):It :=
 ⟨fun i H=>∃xs x,Sq b K H a xs/\xs[i]?=some x,
  fun i H x H'=>∃p v,x=.ref p/\H p=none/\H'=upd H p (.tup [.int i,v])/\∀xs,Sq b K H a xs->xs[i]?=some v,
  fun i H=>∃xs,Sq b K H a xs/\i=xs.length⟩
theorem Jlp{P:Qy}{w:QH}{K:Qz}{elts:List Q6}{kk:Nat}{pos:Pos}(b:Bool)(a e it:Qg)(ne:e≠it) :
 Turn P w K (.Tuple elts kk pos) (Ite K b a) [e,it] e (fun i h=>(∃old,IsEnum h e it i old)/\IsItr b h it a i) where
 mem:=by simp
 obj:=fun i h st c hc=>by
  obtain⟨⟨old,s1⟩,s2⟩:=st;simp only[Qj,Gh,or_false] at hc;rcases hc with rfl|rfl
  ·exact⟨_,s1,fun v z=>nomatch (show Data.fields _=Data.cell v from z)⟩
  ·exact IsItr.obj (b:=b) s2
 keep:=fun i h h' st k=>by obtain⟨⟨old,s1⟩,s2⟩:=st;exact⟨⟨old,k e (by simp) _ s1⟩,IsItr.keep (b:=b) s2 fun o q=>k it (by simp) o q⟩
 item:=by
  intro X hP hw hK hc i pins s σ H E I hf st hg;subst hP hw hK;obtain⟨xs,x,q1,e1⟩:=hg;obtain⟨its,r1,p1⟩:=q1.heap I;obtain⟨⟨old,s1⟩,s2⟩:=st;have hh:X.A.in1.handled=none:=I.ok.hd hc;have ne1:a≠it:=FpOk.off I q1 (hf it (by simp));have ne2:a≠e:=FpOk.off I q1 (hf e (by simp));have D1:=Draws.sq (prog:=X.prog) (w:=X.w) (b:=b) (xs:=its.toArray) hh it ne1;have hT:s.TypeIs (.ref e) "enumerate":=⟨_,s1,rfl⟩
  have l1:i<its.toArray.size:=by have:=(Qk.mp e1).1;rw[Qr,<- r1.length];exact this
  unfold pyNext;refine Qa (KL (Gf (name:=Q7 "__next__") hT K6 (GI K6 hT F.entry_enumerate_next
   (Jhq D1 s1 ⟨s2,p1⟩ l1 (by simp[ne,Q2 ne2]) (by simp) fun u k tk t pu t1 t2 t3 t4 t5=>Qp ?_) (MG _))))
  refine⟨_,rfl,wpAny_letOwnedTupleGo_enum (s:={ s with heap:=k,toks:=tk }) t1 fun k2 t9 e9=>?_⟩
  replace e9:QR e k k2:=e9;obtain⟨ux,hx1,rx⟩:=r1.get e1
  have eu:u=ux:=by
   have pu':its[i]?=some u:=by simpa using pu
   rw[hx1] at pu';exact(Q0 pu').symm
  subst eu
  have elt:∀c∈[e,it],c<s.heap.objs.size:=fun c hc=>by
   simp only[Qj,Gh,or_false] at hc;rcases hc with rfl|rfl
   ·exact Qq s1
   ·obtain⟨_,q,_⟩:=IsItr.obj (b:=b) s2;exact Qq q
  have ri:RelV (.int i) (.int i t):=⟨t,rfl⟩
  have I1:Inv X pins σ (upd H s.heap.objs.size (.tup [.int i,x])) { s with heap:=s.heap.push { cls:=.type "tuple",data:=.seq #[.int i t,u] },toks:=s.toks } :=
   I.laid (o:=.tup [.int i,x]) (fun c ob q=>Qi _ q) (Qx _) ⟨by show 2<=Qt;decide,[.int i t,u],.cons ri (.cons rx .nil),⟨_,Qn _ rfl,rfl,_,rfl⟩⟩
  have hf1:∀c∈[e,it],FpOk X pins (upd H s.heap.objs.size (.tup [.int i,x])) c:=fun c hc=>⟨by rw[Jf (QK (elt c hc))];exact(hf c hc).1,(hf c hc).2⟩
  have I2:Inv X pins σ (upd H s.heap.objs.size (.tup [.int i,x])) { s with heap:=k2,toks:=tk }:=Inv.turnedL (s:={ s with heap:=s.heap.push { cls:=.type "tuple",data:=.seq #[.int i t,u] },toks:=s.toks }) I1 (fun c o hc q=>by
   simp only[Qj,Gh,or_false,not_or] at hc;refine e9.extBut c o hc.1 ?_
   by_cases hcs:c=s.heap.objs.size
   ·subst hcs;have q':(s.heap.push { cls:=.type "tuple",data:=.seq #[.int i t,u] }).get? s.heap.objs.size=some o:=q;rw[Qn _ rfl] at q';cases q';exact t3
   ·have q':s.heap.get? c=some o:=by have q2:(s.heap.push { cls:=.type "tuple",data:=.seq #[.int i t,u] }).get? c=some o:=q;exact(Mq s.heap c _ hcs).symm.trans q2
    exact t5 c o hc.1 hc.2 q') hf1
  refine⟨.ref s.heap.objs.size,_,I2,rfl,⟨_,x,rfl,I.hok.fresh (Qx _),rfl,fun xs' h1=>?_⟩,⟨⟨u,?_⟩,?_⟩,fun c hc=>(hf1 c hc).1⟩
  ·rw[Sq.inj I h1 q1];exact e1
  ·have ei:((i+1:Nat):Int)=(i:Int)+1:=by omega
   rw[ei];exact t9
  ·exact IsItr.keep (b:=b) t2.1 fun o q=>e9.extBut _ _ (Q2 ne) q
 done:=by
  intro X hP hw hK hc i pins s σ H E I hf st hg;subst hP hw hK;obtain⟨xs,q1,ei⟩:=hg;obtain⟨its,r1,p1⟩:=q1.heap I;obtain⟨⟨old,s1⟩,s2⟩:=st;have hh:X.A.in1.handled=none:=I.ok.hd hc;have D1:=Draws.sq (prog:=X.prog) (w:=X.w) (b:=b) (xs:=its.toArray) hh it (FpOk.off I q1 (hf it (by simp)));have hT:s.TypeIs (.ref e) "enumerate":=⟨_,s1,rfl⟩
  have n1:i=its.toArray.size:=by rw[Qr,<- r1.length];exact ei
  subst n1;unfold pyNext;refine Qa (KL (Gf (name:=Q7 "__next__") hT K6 (GI K6 hT F.entry_enumerate_next (Jjz D1 s1 ⟨s2,p1⟩ fun k x tk kk he=>?_) (MG _))));obtain⟨o,ho,hoc⟩:=he;refine Qa (LQ (T:="StopIteration") (b:=true) ⟨o,ho,hoc⟩ Rh (Qp ⟨rfl,?_⟩));exact I.turnedL (fun c o hc q=>by simp only[Qj,Gh,or_false,not_or] at hc;exact kk c o hc.2 q) hf
 self:=fun _ _ _ _ _ st h=>by obtain⟨⟨old,s1⟩,_⟩:=st;exact wpAny_pyIter_enum s1 h
noncomputable def iEn(K:Qz)(ta:TA):TI:=fun σ H R=>ta σ H fun vs H1=>∃(b:Bool) (a:Qg) (xs:List V),vs=[.ref a]/\Sq b K H1 a xs/\R (Ite K b a) H1
theorem Zo{X:Cx}{K:Qz}{elts:List Q6}{kk:Nat}{tpos:Pos}{a:Q6}{ta:TA}{p pos:Pos}(hK:X.K=K)(hg:Gl X "enumerate")(hm:X.mg "enumerate"=none)(ha:PA X [a] ta)(hs:starEach [a] X.env=[(false,eval a X.env)]:=by rfl)
:PI X (.Tuple elts kk tpos) (.Call (.Name "enumerate" p) [a] [] pos) (iEn K ta):=by
 subst hK;intro pins s σ H R I h;refine Call_ (Ud I hg hm JaR (GL (thn (ha pos pins s σ H _ I h) fun us s1 ⟨vs,H1,I1,r1,q1⟩=>?_) (by rw[hs];rfl) (by rfl)));obtain⟨b,a,xs,e,c1,q⟩:=q1;subst e
 cases r1 with
 | cons r rr =>
 cases rr;cases r;obtain⟨its,w1,p1⟩:=c1.heap I1;refine Jhd p1 fun h' t1 t2 kp=>wpAny_pyIter_enum t1 ?_
 refine⟨_,[s1.heap.objs.size+1,s1.heap.objs.size],_,_,H1,rfl,I1.kept (t':=s1.toks) kp,Jlp b a _ _ (by simp),⟨⟨_,t1⟩,t2⟩,fun c hc=>?_,q⟩
 have hle:s1.heap.objs.size<=c:=by simp only[Qj,Gh,or_false] at hc;rcases hc with rfl|rfl <;> first|exact Qx _|exact Nat.le_add_right _ _
 exact I1.fpOk hle (I1.hok.fresh hle)
end L2
namespace LE
open PySem L2 LR
noncomputable def Jb9(ds:List D):List D:=ds.mapIdx fun i d=>.tup [.int i,d]
noncomputable def Jcj(m:Bool)(as:En->Option (List Sl)):En->Option (List D):=fun E=>(as E).bind fun ss=>match ss with
 | [s]=>(s.it m).map Jb9
 | _=>none
section
variable{K:Qz}{C:Qg}{m:Bool}
theorem Jk9{t:TA}{ev:En->Option (List Sl)}(ha:SA K C t ev):SI K C m (iEn K t) (Jcj m ev):=by
 intro B H0 H σ E ds R I e q;obtain⟨ss,e1,e⟩:=bind_some e;split at e
 ·next s =>
  obtain⟨ds1,e2,e⟩:=Gd.mp e;subst e;refine ha B H0 H σ E _ _ I e1 fun vs H1 H1' s1 r1=>?_
  obtain⟨v,rfl,ra⟩:=r1.one;have f:=JE (Hs:=H) s1.i;obtain⟨b1,a1,xs,rfl,k1,w1⟩:=Jj9 ra s1.i e2;have hA:m=true->(if m=true then H1' else B)=H1':=fun h=>if_pos h
  have sA:Same (if m=true then H1' else B) H1':=by
   split
   ·exact Same.refl _
   ·exact I.b.trans s1.h
  have st0:SStep (if m=true then H1' else B) (Yg H H1 H1') (Yg H H1 H1') H1':=⟨sA,Same.refl _,fun _ _ e=>.inl e,f.i⟩
  refine⟨b1,a1,xs,rfl,k1 _ hA _ _ st0,q _ _ _ (s1.comp f fun _ z=>z) ?_⟩;intro H0' H' st;have q1:=k1 _ hA _ _ st;refine⟨fun i d e=>?_,⟨xs,q1,by unfold Jb9;rw[GP,w1.1]⟩⟩;unfold Jb9 at e;rw[QB] at e;obtain⟨d1,g1,e⟩:=Gd.mp e;subst e;obtain⟨x,x1,x2⟩:=w1.get g1;refine⟨⟨xs,x,q1,x1⟩,?_⟩;rintro z H2 ⟨p,v',rfl,hp,rfl,hv⟩;have h1:=hv xs q1;rw[x1] at h1;cases h1;have h0:H0' p=none:=Same.free st.i hp
  refine⟨upd H0' p (.tup [.int i,x]),⟨.new hp,.new h0,fun a o e=>?_,fun a o e=>?_⟩,?_⟩
  ·by_cases h:a=p
   ·subst h;exact .inr (.inl hp)
   ·rw[Jf h] at e;exact .inl e
  ·by_cases h:a=p
   ·subst h;rw[Jm] at e ⊢;exact e
   ·rw[Jf h] at e ⊢;exact st.i a o e
  ·exact .mkT (.of Jm) (.cons (.int _) (.cons (x2.mono (st.z.trans (.new h0))) .nil))
 ·cases e
theorem WU{α:Type}(f:α->D)(xs:List α):Jb9 (xs.map f)=xs.mapIdx fun i x=>.tup [.int i,f x]:=by
 unfold Jb9;refine Ga fun i=>?_
 rw[QB,QB,Qm,Kr];rfl
end
end LE

namespace L2
open PySem PySem.Spec PyProof.Rows
noncomputable def Um(ns:List Int):List Int:=ns.mergeSort (fun a b=>decide (a<=b))
theorem Y1(ns:List Int):(Um ns).Perm ns:=List.mergeSort_perm _ _
theorem Jc4(ns:List Int):(Um ns).Pairwise (·<=·):=by have h:=List.pairwise_mergeSort (le:=fun a b:Int=>decide (a<=b)) (by intro a b c h1 h2;simp only[decide_eq_true_eq] at *;omega) (by intro a b;simp only[K4,decide_eq_true_eq];omega) ns;exact h.imp fun {a b} h=>by simpa using h
theorem JaG:∀{xs ys:List Int},xs.Perm ys->xs.Pairwise (·<=·)->ys.Pairwise (·<=·)->xs=ys
 | [],ys,p,_,_=>by rw[List.Perm.nil_eq p]
 | x::xs,ys,p,h1,h2=>by
  cases ys with
  | nil=>exact absurd p.symm (by simp)
  | cons y ys =>
   obtain⟨a1,a2⟩:=QO.mp h1;obtain⟨b1,b2⟩:=QO.mp h2
   have e:x=y:=by
    have hx:x∈y::ys:=p.mem_iff.mp Qf
    have hy:y∈x::xs:=p.mem_iff.mpr Qf;rcases Qj.mp hx with z|z
    ·exact z
    ·rcases Qj.mp hy with w|w
     ·exact w.symm
     ·have:=a1 y w
      have:=b1 x z;omega
   subst e;rw[JaG (Rq p) a2 b2]
section
variable{X:Cx}
end
end L2
namespace LE
open PySem L2 LR
section
variable{K:Qz}{C:Qg}
end
end LE

namespace PySem
namespace F
end F
section
variable{prog:Qy}{w:QH}{A:QF}{E:Qe->Qh->Prop}{s:Qh}{l:Qg}{lo hi:Int}{t u v:Tok}
end
end PySem
namespace L2
open PySem PySem.Spec PyProof.Rows
end L2
namespace LE
open PySem L2 LR
section
variable{K:Qz}{C:Qg}{m:Bool}
end
end LE

namespace PySem
namespace F
end F
structure ZB (z TI TO i1 i2 i3:Qg) (p1 p2 p3:List Qg):Prop where
 a1:TI≠z
 a2:TO≠z
 a3:TI≠TO
 m1:i1∈p1
 m2:i2∈p2
 m3:i3∈p3
 z1:z∉p1
 z2:z∉p2
 z3:z∉p3
 t1:TI∉p1
 t2:TI∉p2
 t3:TI∉p3
 o1:TO∉p1
 o2:TO∉p2
 o3:TO∉p3
 x12:i1∉p2
 x13:i1∉p3
 x21:i2∉p1
 x23:i2∉p3
 x31:i3∉p1
 x32:i3∉p2
section
variable{prog:Qy}{w:QH}{A:QF}{E:Qe->Qh->Prop}{s:Qh}{z TI TO i1 i2 i3:Qg}{p1 p2 p3:List Qg}{n1 n2 n3 k:Nat}{P1 P2 P3:Nat->Qe->Prop}{S1 S2 S3:Nat->QP->Prop}
end
end PySem

namespace PySem
section
variable{prog:Qy}{w:QH}{A:QF}{E:Qe->Qh->Prop}{s:Qh}{b1 b2 b3:Bool}{a1 a2 a3:Qg}{xs ys zs:Array Qe}
end
end PySem
namespace L2
open PySem PySem.Spec PyProof.Rows
end L2
namespace LE
open PySem L2 LR
section
variable{K:Qz}{C:Qg}{m:Bool}
end
end LE

namespace L2
open PySem PySem.Spec PyProof.Rows
noncomputable def Vm(X:Cx)(f:Qe)(nm:Str)(z:V)(r:List V->Hp->VK->Prop):Prop :=
 ∀(pins:List (Qg×Obj)) (s:Qh) (σ:St) (H:Hp) (xs:List V) (us:List Qe) (w:Qe) (Q:VK),Inv X pins σ H s->Vals xs us->RelV z w->r xs H Q->wpAny (model X.prog X.w) X.A (call f us [(nm,w)]) (EP X pins σ Q) X.xe s
theorem V5{X:Cx}{id:String}{nm x:Str}{z:V}{r:List V->Hp->VK->Prop}{e ek:Q6}{es:List Q6}{t:TA}{p pos kpos:Pos}(hc:Vm X (.builtin id) nm z r)(hg:Gl X x)(hm:X.mg x=none)(hv:bootBuiltins x=some (.builtin id))(ha:PA X (e::es) t)(hk:PE X ek (tC z))
 (hn:x≠"__name__":=by decide) (hdb:(x == ("__debug__":Str))=false:=by decide)
 (he:backTo pos (starEach (e::es) X.env)=(false,eval e X.env)::backTo pos (starEach es X.env):=by rfl) (hpl:(backTo pos (starEach (e::es) X.env)).any (·.1)=false:=by rfl):PE X (.Call (.Name x p) (e::es) [⟨some nm,ek,kpos⟩] pos) (tCB r t):=by
 intro pins s σ H Q I h;refine Kp (Ud I hg hm hv ?_ hn hdb);refine callWith_kw (thn (ha pos pins s σ H _ I h) fun us s1 ⟨vs,H1,I1,r1,q1⟩=>?_) he hpl rfl rfl;refine kws_cons (thn (hk pins s1 σ H1 (fun v H2=>v=z/\r vs H2 Q) I1 ⟨rfl,q1⟩) fun w s2 ⟨v,H2,I2,rz,e2,q2⟩=>kws_nil ?_);subst e2;exact hc pins s2 σ H2 vs us w Q I2 r1 rz q2
section
variable{X:Cx}
end
end L2
namespace LE
open PySem L2 LR
section
variable{K:Qz}{C:Qg}
end
end LE

namespace PySem

theorem JcB(a v:Qe):argsOk "min" ⟨[a],[(Q7 "default",v)]⟩:=by unfold argsOk;kernel_rfl
section
variable{prog:Qy}{w:QH}{A:QF}{R:M7->Qh->Prop}{I:Qg}{fp wr:List Qg}{n:Nat}{P:Nat->Qe->Prop}{St:Nat->QP->Prop}
theorem JgA(W:Walks prog w A.in1 I fp wr n P St)(bt:Nat->Nat->Bool)(cm:CmpOf prog w A.in1 .Lt P bt)(S:Qg)(nS:S∉fp)(d:Qe) :
 ∀(k j:Nat) (s:Qh) (c:Nat) (arr:Array Qe),n-j=k->j<=n->St j s.heap->((j=0/\arr=#[])\/∃vb,0<j/\arr=#[vb,vb]/\P (argBest bt (j-1)) vb) ->
 s.heap.get? S=some { cls:=.type "list",dict:=none,data:=.seq arr c,slots:=#[] } ->
 (n=0->∀h' tk,(∀b o,b∉wr->b≠S->s.heap.get? b=some o->h'.get? b=some o)->R (.ok (.ret d)) { s with heap:=h',toks:=tk }) ->
 (0<n->∀v h' tk,P (argBest bt (n-1)) v->(∀b o,b∉wr->b≠S->s.heap.get? b=some o->h'.get? b=some o)->R (.ok (.ret v)) { s with heap:=h',toks:=tk }) ->
 codeAny (model prog w) A (.builtin "min.loop" ⟨[.ref I,.none,.ref S],[(Q7 "default",d)]⟩) R s:=by
 have nW:S∉wr:=fun h=>nS (W.sub _ h)
 have nm:(toString "min"++toString ".loop":String)="min.loop":=by decide
 intro k
 induction k with
 | zero =>
  intro j s c arr hk hj st best hS h0 h1;have ej:j=n:=by omega
  subst ej;refine L3 F.entry_min_loop ?_;rw[Ld KR _];rcases best with ⟨e0,rfl⟩|⟨vb,jp,rfl,pb⟩
  ·show wpAny _ A.in1 (seqItems? (.ref S) >>= _) _ _ s;refine Qa (Go hS rfl (show wpAny _ A.in1 (tryCatch (pyNext (.ref I)) _ >>= _) _ _ s from Qa (G3 (W.done s _ _ st fun h' tk hk'=>?_))));exact Qa (Lc (Qp (h0 e0 h' tk fun b o b1 _ e=>hk' b o b1 e)))
  ·show wpAny _ A.in1 (seqItems? (.ref S) >>= _) _ _ s;refine Qa (Go hS rfl (show wpAny _ A.in1 (tryCatch (pyNext (.ref I)) _ >>= _) _ _ s from Qa (G3 (W.done s _ _ st fun h' tk hk'=>?_))))
   have hS':=hk' S _ nW hS
   show wpAny _ A.in1 (updateSeq S (fun _=>#[]) >>= _) _ _ _;refine Qa (K5 hS' rfl (Qa (G4 (Qp ?_))));exact h1 jp vb _ tk pb fun b o b1 b2 e=>(Q1 _ _ (Q2 b2)).trans (hk' b o b1 e)
 | succ k ih =>
  intro j s c arr hk hj st best hS h0 h1;have lt:j<n:=by omega
  refine L3 F.entry_min_loop ?_;rw[Ld KR _];have nz:n=0->∀{s':Qh} h' tk,(∀b o,b∉wr->b≠S->s'.heap.get? b=some o->h'.get? b=some o)->R (.ok (.ret d)) { s' with heap:=h',toks:=tk }:=fun z=>absurd z (by omega)
  rcases best with ⟨e0,rfl⟩|⟨vb,jp,rfl,pb⟩
  ·subst e0;show wpAny _ A.in1 (seqItems? (.ref S) >>= _) _ _ s;refine Qa (Go hS rfl (show wpAny _ A.in1 (tryCatch (pyNext (.ref I)) _ >>= _) _ _ s from Qa (G3 (W.item 0 s _ _ lt st fun v h' tk pv st' hk'=>?_))));have hS':=hk' S _ nW hS;show wpAny _ A.in1 (updateSeq S (fun _=>#[v,v]) >>= _) _ _ _;refine Qa (K5 hS' rfl ?_);rw[nm];refine Qp ⟨KM KR _,ih 1 _ _ _ (by omega) (by omega) (W.frame _ _ _ st' fun b bf o e=>?_) (.inr ⟨v,by omega,rfl,pv⟩) (Kv _ hS' rfl) (fun z=>nz z) fun np v' h2 t2 pv' k2=>?_⟩
   ·exact(Q1 _ _ (fun h:S=b=>nS (by rw[h];exact bf))).trans e
   ·exact h1 np v' h2 t2 pv' fun b o b1 b2 e=>k2 b o b1 b2 ((Q1 _ _ (Q2 b2)).trans (hk' b o b1 e))
  ·show wpAny _ A.in1 (seqItems? (.ref S) >>= _) _ _ s;refine Qa (Go hS rfl (show wpAny _ A.in1 (tryCatch (pyNext (.ref I)) _ >>= _) _ _ s from Qa (G3 (W.item j s _ _ lt st fun v h' tk pv st' hk'=>?_))))
   have hS':=hk' S _ nW hS
   have ea:argBest bt j=if bt j (argBest bt (j-1))=true then j else argBest bt (j-1):=by
    obtain⟨i,rfl⟩:∃i,j=i+1:=⟨j-1,by omega⟩
    rfl
   show wpAny _ A.in1 (tryCatch (holding [v,v] (richCompare .Lt v vb >>= _)) _ >>= _) _ _ _;refine Qa (G3 (KH (Qa (cm j (argBest bt (j-1)) v vb _ _ _ pv pb (Qa (KH (G2 (Qa (G4 (Qp ?_))))))))))
   cases hb:bt j (argBest bt (j-1)) with
   | true =>
    simp only[if_true];refine Qa (K5 hS' rfl (Qa (G4 ?_)));rw[nm];refine Qp ⟨KM KR _,ih (j+1) _ _ _ (by omega) (by omega) (W.frame _ _ _ st' fun b bf o e=>?_) (.inr ⟨v,by omega,rfl,?_⟩) (Kv _ hS' rfl) (fun z=>nz z) fun np v' h2 t2 pv' k2=>?_⟩
    ·exact(Q1 _ _ (fun h:S=b=>nS (by rw[h];exact bf))).trans e
    ·rw[Lw,ea,hb,if_pos rfl];exact pv
    ·exact h1 np v' h2 t2 pv' fun b o b1 b2 e=>k2 b o b1 b2 ((Q1 _ _ (Q2 b2)).trans (hk' b o b1 e))
   | false =>
    simp only[Ks,if_false];refine Qa (G4 ?_);rw[nm];refine Qp ⟨KM KR _,ih (j+1) _ c _ (by omega) (by omega) st' (.inr ⟨vb,by omega,rfl,?_⟩) hS' (fun z=>nz z) fun np v' h2 t2 pv' k2=>?_⟩
    ·rw[Lw,ea,hb,if_neg QI];exact pb
    ·exact h1 np v' h2 t2 pv' fun b o b1 b2 e=>k2 b o b1 b2 (hk' b o b1 e)
end
section
variable{prog:Qy}{w:QH}{A:QF}{E:Qe->Qh->Prop}{s:Qh}{l:Qg}{xs:Array (Int×Tok)}
theorem JcC{d:Qe}{Q:Qe->Qh->Prop}(hh:A.handled=none)(hl:s.heap.IsList l (intItems xs))(h0:xs.size=0->∀h' tk,(∀b o,s.heap.get? b=some o->h'.get? b=some o)->Q d { s with heap:=h',toks:=tk })
 (h1:0<xs.size->∀v h' tk,(intItems xs)[argBest (fun i j=>decide (numAt xs i<numAt xs j)) (xs.size-1)]?=some v->(∀b o,s.heap.get? b=some o->h'.get? b=some o)->Q v { s with heap:=h',toks:=tk }) :
 wpAny (model prog w) A (call (.builtin "min") [.ref l] [(Q7 "default",d)]) Q E s:=by
 have nm:(toString "min"++toString ".loop":String)="min.loop":=by decide
 have sz:(intItems xs).size=xs.size:=by simp[intItems]
 refine M3 F.kind_min F.plain_min F.entry_min (JcB _ _) ?_;show wpAny _ A.in1 (Ko "min" ["key","default"] 0 ⟨[],[(Q7 "default",d)]⟩ >>= _) _ _ s;refine Qa (KD (show Ko "min" ["key","default"] 0 ⟨[],[(Q7 "default",d)]⟩=pure [none,some d] from rfl) ?_);refine Qa (Qp ?_);refine Qa (iter_intList hl fun s₂ e st hfp hlI=>?_);subst e;refine Qa (Gw ?_)
 rw[nm];have W:=Walks.list (prog:=prog) (w:=w) (A:=A.in1) hh _ l hlI (intItems xs);have fpS:(s.heap.push { cls:=.type "list_iterator",data:=.fields #[.ref l,.int 0 0] }).objs.size∉[s.heap.objs.size,l]:=fun hm=>GD _ (hfp _ hm)
 refine Qp ⟨KM KR _,JgA W (fun i j=>decide (numAt xs i<numAt xs j)) (CmpOf.ints_lt (numAt xs) (fun _ _=>intItems_at)) _ fpS d _ 0 _ _ #[] rfl (GZ _) (W.frame _ _ _ st fun b _ o e=>Qi _ e) (.inl ⟨rfl,rfl⟩) (Qn _ rfl) (fun z h' tk k=>?_) fun z v h' tk pv k=>?_⟩
 ·exact h0 (by rw[<- sz];exact z) h' tk (old_kept fun b o b1 e=>k b o b1 (QK (Qq e)) (Qi _ e))
 ·exact h1 (by rw[<- sz];exact z) v h' tk (by rw[sz] at pv;exact pv) (old_kept fun b o b1 e=>k b o b1 (QK (Qq e)) (Qi _ e))
end

theorem Jcz(a v:Qe):argsOk "max" ⟨[a],[(Q7 "default",v)]⟩:=by unfold argsOk;kernel_rfl
section
variable{prog:Qy}{w:QH}{A:QF}{R:M7->Qh->Prop}{I:Qg}{fp wr:List Qg}{n:Nat}{P:Nat->Qe->Prop}{St:Nat->QP->Prop}
theorem Jgy(W:Walks prog w A.in1 I fp wr n P St)(bt:Nat->Nat->Bool)(cm:CmpOf prog w A.in1 .Gt P bt)(S:Qg)(nS:S∉fp)(d:Qe) :
 ∀(k j:Nat) (s:Qh) (c:Nat) (arr:Array Qe),n-j=k->j<=n->St j s.heap->((j=0/\arr=#[])\/∃vb,0<j/\arr=#[vb,vb]/\P (argBest bt (j-1)) vb) ->
 s.heap.get? S=some { cls:=.type "list",dict:=none,data:=.seq arr c,slots:=#[] } ->
 (n=0->∀h' tk,(∀b o,b∉wr->b≠S->s.heap.get? b=some o->h'.get? b=some o)->R (.ok (.ret d)) { s with heap:=h',toks:=tk }) ->
 (0<n->∀v h' tk,P (argBest bt (n-1)) v->(∀b o,b∉wr->b≠S->s.heap.get? b=some o->h'.get? b=some o)->R (.ok (.ret v)) { s with heap:=h',toks:=tk }) ->
 codeAny (model prog w) A (.builtin "max.loop" ⟨[.ref I,.none,.ref S],[(Q7 "default",d)]⟩) R s:=by
 have nW:S∉wr:=fun h=>nS (W.sub _ h)
 have nm:(toString "max"++toString ".loop":String)="max.loop":=by decide
 intro k
 induction k with
 | zero =>
  intro j s c arr hk hj st best hS h0 h1;have ej:j=n:=by omega
  subst ej;refine L3 F.entry_max_loop ?_;rw[Ld KS _];rcases best with ⟨e0,rfl⟩|⟨vb,jp,rfl,pb⟩
  ·show wpAny _ A.in1 (seqItems? (.ref S) >>= _) _ _ s;refine Qa (Go hS rfl (show wpAny _ A.in1 (tryCatch (pyNext (.ref I)) _ >>= _) _ _ s from Qa (G3 (W.done s _ _ st fun h' tk hk'=>?_))));exact Qa (Lc (Qp (h0 e0 h' tk fun b o b1 _ e=>hk' b o b1 e)))
  ·show wpAny _ A.in1 (seqItems? (.ref S) >>= _) _ _ s;refine Qa (Go hS rfl (show wpAny _ A.in1 (tryCatch (pyNext (.ref I)) _ >>= _) _ _ s from Qa (G3 (W.done s _ _ st fun h' tk hk'=>?_))))
   have hS':=hk' S _ nW hS
   show wpAny _ A.in1 (updateSeq S (fun _=>#[]) >>= _) _ _ _;refine Qa (K5 hS' rfl (Qa (G4 (Qp ?_))));exact h1 jp vb _ tk pb fun b o b1 b2 e=>(Q1 _ _ (Q2 b2)).trans (hk' b o b1 e)
 | succ k ih =>
  intro j s c arr hk hj st best hS h0 h1;have lt:j<n:=by omega
  refine L3 F.entry_max_loop ?_;rw[Ld KS _];have nz:n=0->∀{s':Qh} h' tk,(∀b o,b∉wr->b≠S->s'.heap.get? b=some o->h'.get? b=some o)->R (.ok (.ret d)) { s' with heap:=h',toks:=tk }:=fun z=>absurd z (by omega)
  rcases best with ⟨e0,rfl⟩|⟨vb,jp,rfl,pb⟩
  ·subst e0;show wpAny _ A.in1 (seqItems? (.ref S) >>= _) _ _ s;refine Qa (Go hS rfl (show wpAny _ A.in1 (tryCatch (pyNext (.ref I)) _ >>= _) _ _ s from Qa (G3 (W.item 0 s _ _ lt st fun v h' tk pv st' hk'=>?_))));have hS':=hk' S _ nW hS;show wpAny _ A.in1 (updateSeq S (fun _=>#[v,v]) >>= _) _ _ _;refine Qa (K5 hS' rfl ?_);rw[nm];refine Qp ⟨KM KS _,ih 1 _ _ _ (by omega) (by omega) (W.frame _ _ _ st' fun b bf o e=>?_) (.inr ⟨v,by omega,rfl,pv⟩) (Kv _ hS' rfl) (fun z=>nz z) fun np v' h2 t2 pv' k2=>?_⟩
   ·exact(Q1 _ _ (fun h:S=b=>nS (by rw[h];exact bf))).trans e
   ·exact h1 np v' h2 t2 pv' fun b o b1 b2 e=>k2 b o b1 b2 ((Q1 _ _ (Q2 b2)).trans (hk' b o b1 e))
  ·show wpAny _ A.in1 (seqItems? (.ref S) >>= _) _ _ s;refine Qa (Go hS rfl (show wpAny _ A.in1 (tryCatch (pyNext (.ref I)) _ >>= _) _ _ s from Qa (G3 (W.item j s _ _ lt st fun v h' tk pv st' hk'=>?_))))
   have hS':=hk' S _ nW hS
   have ea:argBest bt j=if bt j (argBest bt (j-1))=true then j else argBest bt (j-1):=by
    obtain⟨i,rfl⟩:∃i,j=i+1:=⟨j-1,by omega⟩
    rfl
   show wpAny _ A.in1 (tryCatch (holding [v,v] (richCompare .Gt v vb >>= _)) _ >>= _) _ _ _;refine Qa (G3 (KH (Qa (cm j (argBest bt (j-1)) v vb _ _ _ pv pb (Qa (KH (G2 (Qa (G4 (Qp ?_))))))))))
   cases hb:bt j (argBest bt (j-1)) with
   | true =>
    simp only[if_true];refine Qa (K5 hS' rfl (Qa (G4 ?_)));rw[nm];refine Qp ⟨KM KS _,ih (j+1) _ _ _ (by omega) (by omega) (W.frame _ _ _ st' fun b bf o e=>?_) (.inr ⟨v,by omega,rfl,?_⟩) (Kv _ hS' rfl) (fun z=>nz z) fun np v' h2 t2 pv' k2=>?_⟩
    ·exact(Q1 _ _ (fun h:S=b=>nS (by rw[h];exact bf))).trans e
    ·rw[Lw,ea,hb,if_pos rfl];exact pv
    ·exact h1 np v' h2 t2 pv' fun b o b1 b2 e=>k2 b o b1 b2 ((Q1 _ _ (Q2 b2)).trans (hk' b o b1 e))
   | false =>
    simp only[Ks,if_false];refine Qa (G4 ?_);rw[nm];refine Qp ⟨KM KS _,ih (j+1) _ c _ (by omega) (by omega) st' (.inr ⟨vb,by omega,rfl,?_⟩) hS' (fun z=>nz z) fun np v' h2 t2 pv' k2=>?_⟩
    ·rw[Lw,ea,hb,if_neg QI];exact pb
    ·exact h1 np v' h2 t2 pv' fun b o b1 b2 e=>k2 b o b1 b2 (hk' b o b1 e)
end
section
variable{prog:Qy}{w:QH}{A:QF}{E:Qe->Qh->Prop}{s:Qh}{l:Qg}{xs:Array (Int×Tok)}
theorem JcA{d:Qe}{Q:Qe->Qh->Prop}(hh:A.handled=none)(hl:s.heap.IsList l (intItems xs))(h0:xs.size=0->∀h' tk,(∀b o,s.heap.get? b=some o->h'.get? b=some o)->Q d { s with heap:=h',toks:=tk })
 (h1:0<xs.size->∀v h' tk,(intItems xs)[argBest (fun i j=>decide (numAt xs i>numAt xs j)) (xs.size-1)]?=some v->(∀b o,s.heap.get? b=some o->h'.get? b=some o)->Q v { s with heap:=h',toks:=tk }) :
 wpAny (model prog w) A (call (.builtin "max") [.ref l] [(Q7 "default",d)]) Q E s:=by
 have nm:(toString "max"++toString ".loop":String)="max.loop":=by decide
 have sz:(intItems xs).size=xs.size:=by simp[intItems]
 refine M3 F.kind_max F.plain_max F.entry_max (Jcz _ _) ?_;show wpAny _ A.in1 (Ko "max" ["key","default"] 0 ⟨[],[(Q7 "default",d)]⟩ >>= _) _ _ s;refine Qa (KD (show Ko "max" ["key","default"] 0 ⟨[],[(Q7 "default",d)]⟩=pure [none,some d] from rfl) ?_);refine Qa (Qp ?_);refine Qa (iter_intList hl fun s₂ e st hfp hlI=>?_);subst e;refine Qa (Gw ?_)
 rw[nm];have W:=Walks.list (prog:=prog) (w:=w) (A:=A.in1) hh _ l hlI (intItems xs);have fpS:(s.heap.push { cls:=.type "list_iterator",data:=.fields #[.ref l,.int 0 0] }).objs.size∉[s.heap.objs.size,l]:=fun hm=>GD _ (hfp _ hm)
 refine Qp ⟨KM KS _,Jgy W (fun i j=>decide (numAt xs i>numAt xs j)) (CmpOf.ints_gt (numAt xs) (fun _ _=>intItems_at)) _ fpS d _ 0 _ _ #[] rfl (GZ _) (W.frame _ _ _ st fun b _ o e=>Qi _ e) (.inl ⟨rfl,rfl⟩) (Qn _ rfl) (fun z h' tk k=>?_) fun z v h' tk pv k=>?_⟩
 ·exact h0 (by rw[<- sz];exact z) h' tk (old_kept fun b o b1 e=>k b o b1 (QK (Qq e)) (Qi _ e))
 ·exact h1 (by rw[<- sz];exact z) v h' tk (by rw[sz] at pv;exact pv) (old_kept fun b o b1 e=>k b o b1 (QK (Qq e)) (Qi _ e))
end

end PySem

namespace L2
open PySem PySem.Spec PyProof.Rows

section
variable{X:Cx}
noncomputable def Jix(K:Qz):List V->Hp->VK->Prop:=fun xs H Q=>∃(a:Qg) (ns:List Int),xs=[.ref a]/\SqL K H a (ns.map V.int)/\(ns=[]->Q .non H)/\∀M,M∈ns->(∀b,b∈ns->M<=b)->Q (.int M) H
theorem Jf8(hc:X.calm=true):Vm X (.builtin "min") "default" .non (Jix X.K):=by
 intro pins s σ H xs us w Q I r rz h;obtain⟨a,ns,rfl,hq,q0,q⟩:=h;obtain⟨u,rfl,rx⟩:=Ws r;cases rx;cases rz;obtain⟨its,rv,p,hz⟩:=I.list hq;have hi:=Va rv;have hl:=p.isList;obtain⟨xs,e⟩:=hi.allInts.items;have hns:ns=xs.toList.map (·.1):=by rw[<- hi.numsOf,<- nums_intItems,<- e]
 rw[e] at hl;refine JcC (I.ok.hd hc) hl (fun z h' tk hk=>?_) fun z v h' tk hv hk=>?_
 ·refine⟨.non,H,I.kept hk,rfl,q0 ?_⟩;rw[hns];exact QS (by rw[Qv,GJ];exact z)
 ·obtain⟨t,rfl⟩:=intItems_at hv;obtain⟨h1,h2⟩:=argBest_lt (numAt xs) (xs.size-1);refine⟨.int _,H,I.kept hk,⟨t,rfl⟩,q _ ?_ fun a ha=>?_⟩
  ·rw[hns,numAt_eq];exact getD_mem (by rw[Qv,GJ];omega)
  ·rw[hns] at ha;obtain⟨j,hj,rfl⟩:=mem_getD ha;rw[Qv,GJ] at hj;rw[<- numAt_eq];exact h2 j (by omega)
end
theorem WP{X:Cx}{K:Qz}(hK:X.K=K)(hc:X.calm=true):Vm X (.builtin "min") "default" .non (Jix K):=hK▸Jf8 hc

section
variable{X:Cx}
noncomputable def Jiw(K:Qz):List V->Hp->VK->Prop:=fun xs H Q=>∃(a:Qg) (ns:List Int),xs=[.ref a]/\SqL K H a (ns.map V.int)/\(ns=[]->Q .non H)/\∀M,M∈ns->(∀b,b∈ns->b<=M)->Q (.int M) H
theorem Jf6(hc:X.calm=true):Vm X (.builtin "max") "default" .non (Jiw X.K):=by
 intro pins s σ H xs us w Q I r rz h;obtain⟨a,ns,rfl,hq,q0,q⟩:=h;obtain⟨u,rfl,rx⟩:=Ws r;cases rx;cases rz;obtain⟨its,rv,p,hz⟩:=I.list hq;have hi:=Va rv;have hl:=p.isList;obtain⟨xs,e⟩:=hi.allInts.items;have hns:ns=xs.toList.map (·.1):=by rw[<- hi.numsOf,<- nums_intItems,<- e]
 rw[e] at hl;refine JcA (I.ok.hd hc) hl (fun z h' tk hk=>?_) fun z v h' tk hv hk=>?_
 ·refine⟨.non,H,I.kept hk,rfl,q0 ?_⟩;rw[hns];exact QS (by rw[Qv,GJ];exact z)
 ·obtain⟨t,rfl⟩:=intItems_at hv;obtain⟨h1,h2⟩:=argBest_gt (numAt xs) (xs.size-1);refine⟨.int _,H,I.kept hk,⟨t,rfl⟩,q _ ?_ fun a ha=>?_⟩
  ·rw[hns,numAt_eq];exact getD_mem (by rw[Qv,GJ];omega)
  ·rw[hns] at ha;obtain⟨j,hj,rfl⟩:=mem_getD ha;rw[Qv,GJ] at hj;rw[<- numAt_eq];exact h2 j (by omega)
end
theorem Jds{X:Cx}{K:Qz}(hK:X.K=K)(hc:X.calm=true):Vm X (.builtin "max") "default" .non (Jiw K):=hK▸Jf6 hc
end L2
namespace LE
open PySem L2 LR

noncomputable def Jcd:List Sl->Option Sl
 | [s]=>s.r.bind fun ds=>(ints? ds).map fun ns=>match ns.min? with
  | some m=>.sh (.int m)
  | none=>.sh .non
 | _=>none
theorem Jmg{K:Qz}{C:Qg}:Wj K C (Jix K) Jcd:=by
 intro Hs H0 H xs as c Q i hs r e q;unfold Jcd at e;split at e
 ·obtain⟨v,rfl,r0⟩:=r.one;obtain⟨ds,e1,e⟩:=bind_some e;obtain⟨ns,e2,rfl⟩:=map_some e;obtain⟨l,ys,rfl,h,r1⟩:=r0.r i e1;rw[UW e2] at r1;have:=r1.ints;subst this;refine⟨l,ns,rfl,h,fun z=>?_,fun M hM hb=>?_⟩
  ·subst z;exact q _ _ _ (.refl i) RD.non
  ·have hm:ns.min?=some M:=LM.mpr ⟨hM,hb⟩;rw[hm] at q;exact q _ _ _ (.refl i) (RD.int _)
 ·cases e

noncomputable def JeQ:List Sl->Option Sl
 | [s]=>s.r.bind fun ds=>(ints? ds).map fun ns=>match ns.max? with
  | some m=>.sh (.int m)
  | none=>.sh .non
 | _=>none
theorem Jmf{K:Qz}{C:Qg}:Wj K C (Jiw K) JeQ:=by
 intro Hs H0 H xs as c Q i hs r e q;unfold JeQ at e;split at e
 ·obtain⟨v,rfl,r0⟩:=r.one;obtain⟨ds,e1,e⟩:=bind_some e;obtain⟨ns,e2,rfl⟩:=map_some e;obtain⟨l,ys,rfl,h,r1⟩:=r0.r i e1;rw[UW e2] at r1;have:=r1.ints;subst this;refine⟨l,ns,rfl,h,fun z=>?_,fun M hM hb=>?_⟩
  ·subst z;exact q _ _ _ (.refl i) RD.non
  ·have hm:ns.max?=some M:=LN.mpr ⟨hM,hb⟩;rw[hm] at q;exact q _ _ _ (.refl i) (RD.int _)
 ·cases e
end LE

namespace LE
open PySem L2 LR

noncomputable def look{α:Type}:List Int->List α->Int->Option α
 | k::ks,d::ds,n=>if k=n then some d else look ks ds n
 | _,_,_=>none
noncomputable def Vv(ks:List Int)(n:Int):Bool:=ks.any fun k=>decide (k=n)
noncomputable def Yt(ks:List Int)(n:Int):List Int:=if Vv ks n=true then ks else ks++[n]
noncomputable def setK{α:Type}:List Int->List α->Int->α->List α
 | k::ks,d::ds,n,v=>(if k=n then v else d)::setK ks ds n v
 | _,ds,_,_=>ds
noncomputable def putDs{α:Type}(ks:List Int)(ds:List α)(n:Int)(v:α):List α:=if Vv ks n=true then setK ks ds n v else ds++[v]
theorem Jc2{α:Type}(n:Int)(v:α):∀(ks:List Int) (ds:List α),(setK ks ds n v).length=ds.length
 | [],_=>rfl
 | _::_,[]=>rfl
 | _::ks,_::ds=>by simp[setK,Jc2 n v ks ds]
theorem JgI{α:Type}(ks:List Int)(ds:List α)(n:Int)(v:α)(h:ks.length=ds.length):(Yt ks n).length=(putDs ks ds n v).length:=by unfold Yt putDs;split <;> simp[Jc2,h]
theorem JaK:∀(ks:List Int) (xs:List V) (n:Int),VG ((ks.map Sum.inl:List Key).zip xs) (Sum.inl n)=look ks xs n
 | [],_,_=>rfl
 | _::_,[],_=>rfl
 | k::ks,x::xs,n=>by
  show VG (((Sum.inl k:Key),x)::(ks.map Sum.inl:List Key).zip xs) (Sum.inl n)=_
  by_cases h:k=n
  ·rw[VI (by rw[h]),look,if_pos h]
  ·rw[VH (fun e=>h (M5 e)),look,if_neg h];exact JaK ks xs n
theorem JbT:∀(ks:List Int) (xs:List V) (n:Int),ks.length=xs.length->(((ks.map Sum.inl:List Key).zip xs).any fun kv=>decide (kv.1=(Sum.inl n:Key)))=Vv ks n
 | [],_,_,_=>rfl
 | _::_,[],_,h=>by simp at h
 | k::ks,x::xs,n,h=>by
  show(decide ((Sum.inl k:Key)=Sum.inl n) || ((ks.map Sum.inl:List Key).zip xs).any _)=(decide (k=n) || ks.any _)
  rw[JbT ks xs n (by simpa using h)];congr 1
  by_cases e:k=n
  ·subst e;simp
  ·rw[decide_eq_false e,decide_eq_false fun z=>e (M5 z)]
theorem Jcy:∀(ks:List Int) (xs:List V) (n:Int) (v:V),ks.length=xs.length->(((ks.map Sum.inl:List Key).zip xs).map fun kv=>if kv.1=(Sum.inl n:Key) then(kv.1,v) else kv)=(ks.map Sum.inl:List Key).zip (setK ks xs n v)
 | [],_,_,_,_=>rfl
 | _::_,[],_,_,h=>by simp at h
 | k::ks,x::xs,n,v,h=>by
  show(if (Sum.inl k:Key)=Sum.inl n then((Sum.inl k:Key),v) else(Sum.inl k,x))::((ks.map Sum.inl:List Key).zip xs).map _=(Sum.inl k,if k=n then v else x)::(ks.map Sum.inl:List Key).zip (setK ks xs n v);rw[Jcy ks xs n v (by simpa using h)];congr 1
  by_cases e:k=n
  ·subst e;simp
  ·rw[if_neg e,if_neg fun z=>e (M5 z)]
theorem Jiq(ks:List Int)(xs:List V)(n:Int)(v:V)(h:ks.length=xs.length):(HO.dK (VB ((ks.map Sum.inl:List Key).zip xs) (Sum.inl n) v))=dkO (Yt ks n) (putDs ks xs n v):=by
 unfold dkO VB Yt putDs;rw[JbT ks xs n h];split
 ·rw[Jcy ks xs n v h]
 ·rw[QV,List.zip_append (by simpa using h)];rfl
section
variable{K:Qz}{C:Qg}{Hs H0 H:Hp}
theorem RDL.look:∀{ks:List Int} {xs:List V} {ds:List D} {n:Int},RDL K C H xs ds->(LE.look ks xs n=none/\LE.look ks ds n=none)\/∃x d,LE.look ks xs n=some x/\LE.look ks ds n=some d/\RD K C H x d
 | [],_,_,_,_=>.inl ⟨rfl,rfl⟩
 | _::_,[],[],_,_=>.inl ⟨rfl,rfl⟩
 | _::_,[],_::_,_,h=>by have:=h.1;simp at this
 | _::_,_::_,[],_,h=>by have:=h.1;simp at this
 | k::ks,x::xs,d::ds,n,h=>by
  simp only[LE.look]
  by_cases e:k=n
  ·rw[if_pos e,if_pos e];exact .inr ⟨x,d,rfl,rfl,h.head⟩
  ·rw[if_neg e,if_neg e];exact RDL.look h.tail
theorem RDL.setK{n:Int}{v:V}{e:D}(r:RD K C H v e):∀{ks:List Int} {xs:List V} {ds:List D},RDL K C H xs ds->RDL K C H (LE.setK ks xs n v) (LE.setK ks ds n e)
 | [],_,_,h=>h
 | _::_,[],[],_=>.nil
 | _::_,[],_::_,h=>by have:=h.1;simp at this
 | _::_,_::_,[],h=>by have:=h.1;simp at this
 | k::ks,x::xs,d::ds,h=>by
  simp only[LE.setK];refine .cons ?_ (RDL.setK r h.tail);split
  ·exact r
  ·exact h.head
theorem RDL.putDs{n:Int}{v:V}{e:D}{ks:List Int}{xs:List V}{ds:List D}(h:RDL K C H xs ds)(r:RD K C H v e):RDL K C H (LE.putDs ks xs n v) (LE.putDs ks ds n e):=by
 unfold LE.putDs;split
 ·exact RDL.setK r h
 ·exact h.snoc r
theorem Jnk{p:Qg}{ks:List Int}{xs:List V}{ds:List D}{Q:VK}(i:Same H0 H)(hs:Same Hs H)(hp:H p=none)(hk:ks.length=ds.length)(r:RDL K C H0 xs ds)(q:∀v H0' H',Step Hs H0 H H0' H'->RR K C Hs H0' H' v (.od ks ds)->Q v H'):Q (.ref p) (upd H p (dkO ks xs)) :=
 q _ H0 _ ⟨.new hp,Same.refl _,fun _ _ e=>.inl e,i.trans (.new hp)⟩ ⟨p,xs,rfl,Jm,Same.free i hp,Same.free hs hp,hk,r⟩
end
noncomputable def Sl.dk:Sl->Option (List Int×List D)
 | .sh (.dct ks ds)=>some (ks,ds)
 | .sh (.dfz ks ds)=>some (ks,ds)
 | .bd ks ds=>some (ks,ds)
 | .od ks ds=>some (ks,ds)
 | _=>none
noncomputable def int?:Sl->Option Int
 | .sh (.int i)=>some i
 | _=>none
noncomputable def JeM:Ev:=fun _=>some (.od [] [])
noncomputable def JaY(a k x:Ev):Ev:=fun E=>(a E).bind fun s=>s.dk.bind fun p=>((k E).bind int?).bind fun n=>((x E).bind sh?).bind fun d=>some (.sh ((look p.1 p.2 n).getD d))
noncomputable def Jdi(i:Nat)(k a:Ev):Es:=fun E=>match E[i]? with
 | some (.od ks ds)=>(a E).bind fun s=>s.frz.bind fun d=>((k E).bind int?).bind fun n=>if ks.length<Qt then some (.nx (E.set i (.od (Yt ks n) (putDs ks ds n d)))) else none
 | _=>none
section
variable{K:Qz}{C:Qg}{Hs H0 H:Hp}{td ty tx te:TE}{ed ek ex ea:Ev}
theorem W4{s:Sl}{n:Int}(e:int? s=some n):s=.sh (.int n):=by
 cases s with
 | sh d=>cases d with
  | int i=>cases e;rfl
  | _=>cases e
 | _=>cases e
theorem RR.dk{v:V}{s:Sl}{p:List Int×List D}(r:RR K C Hs H0 H v s)(i:Same H0 H)(e:s.dk=some p):∃l xs,v=.ref l/\Rd H l (dkO p.1 xs)/\p.1.length=p.2.length/\RDL K C H0 xs p.2:=by
 cases s with
 | bd ks ds=>cases e;obtain⟨l,xs,h1,h2,h3⟩:=r;exact⟨l,xs,h1,.inl h2,h3⟩
 | od ks ds=>cases e;obtain⟨l,xs,h1,h2,_,_,h3⟩:=r;exact⟨l,xs,h1,.inl h2,h3⟩
 | bt _ _=>cases e
 | ot _ _=>cases e
 | sh d=>cases d with
  | dct ks ds=>cases e;obtain⟨l,xs,h1,h2,h3⟩:=RD.dctI r;exact⟨l,xs,h1,.inl (i _ _ h2),h3⟩
  | dfz ks ds=>cases e;obtain⟨l,xs,o,h1,h2,h3⟩:=RD.dfzI r;exact⟨l,xs,h1,.inr ⟨o,i _ _ h2⟩,h3⟩
  | _=>cases e
 | _=>cases e
theorem JqF{l:Qg}{ks:List Int}{xs:List V}{n:Int}(h:Rd H l (dkO ks xs)):DGet H l (.int n) (look ks xs n):=.inl ⟨_,Sum.inl n,h,rfl,(JaK ks xs n).symm⟩
theorem Jol:SE K C JiT JeM:=by intro B H0 H σ E r Q I e q;cases e;intro p hp;exact Jnk (ks:=[]) (xs:=[]) (Hs:=H) I.h (Same.refl _) hp rfl .nil q
theorem Jk8(ha:SE K C td ed)(hk:SE K C ty ek)(hx:SE K C tx ex):SE K C (JiS td ty tx) (JaY ed ek ex):=by
 intro B H0 H σ E r Q I e q;obtain⟨s,e1,e⟩:=bind_some e;obtain⟨p,e2,e⟩:=bind_some e;obtain⟨n,e3,e⟩:=bind_some e;obtain⟨t,e3,e4⟩:=bind_some e3;obtain rfl:=W4 e4;obtain⟨d,e5,e⟩:=bind_some e;obtain⟨t',e5,e6⟩:=bind_some e5;obtain rfl:=WH e6;cases e;refine ha B H0 H σ E s _ I e1 fun x H1 H1' s1 r1=>?_
 obtain⟨l0,xs0,rfl,h0,_,_⟩:=r1.dk s1.i e2;refine⟨l0,rfl,.inl ⟨_,h0⟩,hk B H1 H1' σ E _ _ (I.step s1) e3 fun y H2 H2' s2 r2=>hx B H2 H2' σ E _ _ ((I.step s1).step s2) e5 fun z H3 H3' s3 r3=>?_⟩;obtain⟨l,xs,hl,h,_,rl⟩:=((r1.step s2).step s3).dk s3.i e2;cases hl;rw[RD.intI r2];refine⟨_,JqF h,q _ _ _ ((s1.trans s2).trans s3) ?_⟩;rcases RDL.look (ks:=p.1) (n:=n) rl with ⟨z1,z2⟩|⟨v,d',z1,z2,z3⟩
 ·rw[z1,z2];exact r3
 ·rw[z1,z2];exact z3
theorem JoN{i:Nat}(ha:SE K C te ea)(hk:SE K C ty ek):SS K C (JlS (Wf i) ty te) (Jdi i ek ea):=by
 intro B H0 H σ E o D I e f;unfold Jdi at e;split at e
 ·next ks ds h =>
  obtain⟨s,e1,e⟩:=bind_some e;obtain⟨d,e2,e⟩:=bind_some e;obtain⟨n,e3,e⟩:=bind_some e;obtain⟨t,e3,e4⟩:=bind_some e3;obtain rfl:=W4 e4;split at e
  ·next hz =>
   cases e;obtain⟨l,xs,g1,g2,g3,g4,gk,g5⟩:=I.slotD h;refine ha B H0 H σ E _ _ I e1 fun v H1 H1' s1 r1=>?_
   have s2:Step H H0 H (Yg H H1 H1') H1':=s1.comp (JE s1.i) fun _ z=>z
   have rv:=RR.frz s1.i r1 e2;refine⟨_,g1,?_⟩;refine hk B _ H1' σ E _ _ (I.step s2) e3 fun w H3 H3' s3 r3=>?_
   have s4:=s2.trans s3
   have hx:ks.length=xs.length:=gk.trans g5.1.symm;obtain⟨_,n0,nB⟩:=(I.step s4).ownG h rfl g1
   have rr:=(g5.mono s4.z).putDs (ks:=ks) (n:=n) (rv.mono s3.z)
   have m:=(I.step s4).mutG (t':=.od (Yt ks n) (putDs ks ds n d)) (o':=dkO (Yt ks n) (putDs ks xs n v)) h rfl rfl g1 ⟨l,_,rfl,Jm,n0,nB,JgI _ _ _ _ gk,rr⟩;rw[RD.intI r3];refine⟨l,_,rfl,.inl ⟨_,Sum.inl n,s4.h _ _ g2,rfl,?_,rfl⟩,?_⟩
   ·rw[G5,Qv,<- hx,Ry];exact hz
   ·rw[Jiq ks xs n v hx];exact f _ _ _ ⟨m.b,s4.z,(s4.ss I.b).n,m.h⟩ m
  ·cases e
 ·cases e
end

noncomputable def JjZ(x y:Sl):Option Sl:=x.m.bind fun ds=>(int? y).bind fun k=>if Jbg k=true/\ds.length*k.toNat<=Qt then some (.own (QC k.toNat ds).flatten) else none
section
variable{K:Qz}{C:Qg}{H:Hp}
theorem RDL.rep{xs:List V}{ds:List D}(r:RDL K C H xs ds):∀k:Nat,RDL K C H (QC k xs).flatten (QC k ds).flatten
 | 0=>.nil
 | k+1=>by rw[Q3,Q3,Kf,Kf];exact r.append (RDL.rep r k)
theorem Jpx:OpS K C JpJ JjZ:=by
 intro Hs H0 H x y a b c Q i hs ra rb e q;obtain⟨ds,e1,e⟩:=bind_some e;obtain⟨k,e2,e3⟩:=bind_some e;have hb:=W4 e2;subst hb;split at e3
 ·next hz=>cases e3;obtain⟨l,us,rfl,h1,r1⟩:=ra.m i e1;obtain⟨b1,b2⟩:=Ut hz.1;exact⟨l,k,us,rfl,RD.intI rb,h1,by omega,by omega,by rw[r1.1];exact hz.2,fun p hp=>UY i hs hp (r1.rep k.toNat) q⟩
 ·cases e3
end
theorem Jhx{d:D}{s:Sl}{k:Int}(e:s.m=some [d])(h1:Jbg k=true)(h2:k.toNat<=16777216):JjZ s (.sh (.int k))=some (.own (QC k.toNat d)):=by
 unfold JjZ;rw[e,QZ];show(some k).bind _=_;rw[QZ,if_pos ⟨h1,by rw[Gq,Nat.one_mul];exact h2⟩];congr 2
 generalize k.toNat=n
 induction n with
 | zero=>rfl
 | succ n ih=>rw[Q3,Kf,ih];rfl
end LE

namespace L2
open PySem PySem.Spec PyProof.Rows
noncomputable def JlV(i:Nat)(t:TS):TS:=fun D σ H=>∃a kvs,σ[i]?=some (some (.ref a))/\H a=some (.dK kvs)/\∀o,t D σ (upd H a (.frz o (.dK kvs)))
theorem Inv.freeze{X:Cx}{pins:List (Qg×Obj)}{σ:St}{H:Hp}{s:Qh}{a:Qg}{kvs:List (Key×V)}(I:Inv X pins σ H s)(e:H a=some (.dK kvs)):∃o,Inv X pins σ (upd H a (.frz o (.dK kvs))) s:=by
 obtain⟨z,y,vs,r,ob,es,ep,e1,c⟩:=(show ObjOk X.prog X.w H s.heap a (.dK kvs) from I.hok a _ e)
 have:=I.write (x:=a) (e:=a) (o:=.frz ob (.dK kvs)) (h':=s.heap) (t':=s.toks) (by rw[e];trivial) (.inl rfl) (fun b u _ q=>q) ⟨ob,e1⟩ ⟨e1,z,y,vs,r,ob,es,ep,e1,c⟩;exact⟨ob,this⟩
theorem JkM{X:Cx}{st:G0}{t:TS}(i:Nat)(h:PS X st t):PS X st (JlV i t):=by intro pins s σ H D I ⟨a,kvs,e1,e2,q⟩;obtain⟨o,I'⟩:=I.freeze e2;exact h pins s σ _ D I' (q o)
noncomputable def Itd(a:Qg)(o:Obj)(kvs:List (Key×V)):It :=
 ⟨fun i H=>H a=some (.frz o (.dK kvs))/\∃p,kvs[i]?=some p,
  fun i H x H'=>∃t k v,x=.ref t/\H t=none/\kvs[i]?=some (k,v)/\H'=upd H t (.tup [kV k,v]),
  fun i H=>H a=some (.frz o (.dK kvs))/\i=kvs.length⟩
theorem JhW{P:Qy}{w:QH}{k:Key}{u:Qe}(h:(Jz P w).is k u=true):RelV (kV k) u:=by
 rcases JK (show W8 k u=true from h) with ⟨i,t,rfl,rfl⟩|⟨x,t,rfl,rfl⟩
 ·exact⟨t,rfl⟩
 ·exact⟨t,rfl⟩
theorem KV.get{κ:Type}:∀{kvs:List (κ×V)} {vs:List (κ×Qe)} {i:Nat} {p:κ×V},KV kvs vs->kvs[i]?=some p->∃u,vs[i]?=some (p.1,u)/\RelV p.2 u
 | _,_,0,p,.cons h _,e=>by simp at e;subst e;obtain⟨h1,h2⟩:=h;rename_i q _ _;exact⟨_,by simp;exact Ke h1.symm rfl,h2⟩
 | _,_,i+1,p,.cons _ t,e=>by obtain⟨u,h1,h2⟩:=KV.get (i:=i) t (by simpa using e);exact⟨u,by simpa using h1,h2⟩
 | _,_,_,_,.nil,e=>by simp at e
theorem WS{X:Cx}{pins:List (Qg×Obj)}{σ:St}{H:Hp}{s:Qh}{a:Qg}{o:Obj}{kvs:List (Key×V)}{es:Array DictEntry}{ep:Nat}(I:Inv X pins σ H s)(h:H a=some (.frz o (.dK kvs)))(hd:o.data=.dict es ep) :
 ∃vs,KV kvs vs/\s.heap.DictAt (Jz X.prog X.w) a vs ep/\(a == sysModules)=false:=by
 obtain⟨e0,z,y,vs,r,ob,es',ep',e1,c1,c2,c3⟩:=(show ObjOk X.prog X.w H s.heap a (.frz o (.dK kvs)) from I.hok a _ h)
 rw[e0] at e1;cases e1;rw[hd] at c2;cases c2;exact⟨vs,r,⟨o,es,e0,c1,hd,c3⟩,y⟩
theorem Jem{P:Qy}{w:QH}{K:Qz}{elts:List Q6}{kk:Nat}{pos:Pos}(a it:Qg)(o:Obj)(kvs:List (Key×V))(es:Array DictEntry)(ep:Nat)(hd:o.data=.dict es ep) :
 Turn P w K (.Tuple elts kk pos) (Itd a o kvs) [it] it (fun i h=>∃ok ov,IsItemIter h it a i kvs.length ep ok ov) where
 mem:=by simp
 obj:=fun i h st c hc=>by
  obtain⟨ok,ov,s1⟩:=st;have hc':c=it:=by simpa using hc
  subst hc';exact⟨_,s1,fun v z=>nomatch (show Data.fields _=Data.cell v from z)⟩
 keep:=fun i h h' st k=>by obtain⟨ok,ov,s1⟩:=st;exact⟨ok,ov,k it (by simp) _ s1⟩
 item:=by
  intro X hP hw hK hc i pins s σ H E I hf st hg;subst hP hw hK;obtain⟨hH,⟨k,v⟩,e1⟩:=hg;obtain⟨vs,r,dd,_⟩:=WS I hH hd;obtain⟨ok,ov,s1⟩:=st;obtain⟨u,hu,ru⟩:=r.get e1;have hl:kvs.length=vs.length:=KV.length r;rw[hl] at s1;refine wpAny_pyNext_items_item s1 dd hu fun key h' hk hit' ht hz hkeep=>?_
  refine⟨_,rfl,wpAny_letOwnedTupleGo_items (s:={ s with heap:=h' }) hit' fun k2 t9 e9=>?_⟩
  replace e9:QR it h' k2:=e9;have elt:it<s.heap.objs.size:=Qq s1
  have I1:Inv X pins σ (upd H s.heap.objs.size (.tup [kV k,v])) { s with heap:=s.heap.push { cls:=.type "tuple",data:=.seq #[key,u] },toks:=s.toks } :=
   I.laid (o:=.tup [kV k,v]) (fun c ob q=>Qi _ q) (Qx _) ⟨by show 2<=Qt;decide,[key,u],.cons (JhW hk) (.cons ru .nil),⟨_,Qn _ rfl,rfl,_,rfl⟩⟩
  have hf1:∀c∈[it],FpOk X pins (upd H s.heap.objs.size (.tup [kV k,v])) c:=fun c hc=>by
   have hc':c=it:=by simpa using hc
   subst hc';exact⟨by rw[Jf (QK elt)];exact(hf c hc).1,(hf c hc).2⟩
  have I2:Inv X pins σ (upd H s.heap.objs.size (.tup [kV k,v])) { s with heap:=k2,toks:=s.toks }:=Inv.turnedL (s:={ s with heap:=s.heap.push { cls:=.type "tuple",data:=.seq #[key,u] },toks:=s.toks }) I1 (fun c ob hc q=>by
   have hc':c≠it:=fun z=>hc (by simp[z])
   refine e9.extBut c ob hc' ?_
   by_cases hcs:c=s.heap.objs.size
   ·subst hcs;have q':(s.heap.push { cls:=.type "tuple",data:=.seq #[key,u] }).get? s.heap.objs.size=some ob:=q;rw[Qn _ rfl] at q';cases q';exact ht
   ·have q':s.heap.get? c=some ob:=by have q2:(s.heap.push { cls:=.type "tuple",data:=.seq #[key,u] }).get? c=some ob:=q;exact(Mq s.heap c _ hcs).symm.trans q2
    exact hkeep c ob hc' q') hf1
  refine⟨.ref s.heap.objs.size,_,I2,rfl,⟨_,k,v,rfl,I.hok.fresh (Qx _),e1,rfl⟩,⟨key,u,?_⟩,fun c hc=>(hf1 c hc).1⟩
  ·rw[hl];exact t9
 done:=by
  intro X hP hw hK hc i pins s σ H E I hf st hg;subst hP hw hK;obtain⟨hH,ei⟩:=hg;obtain⟨vs,r,dd,_⟩:=WS I hH hd;obtain⟨ok,ov,s1⟩:=st;have hl:kvs.length=vs.length:=KV.length r;have hh:X.A.handled=none:=I.ok.hd hc;rw[hl] at s1;refine wpAny_pyNext_items_end hh s1 dd (Gj (by omega)) fun h' he=>⟨rfl,?_⟩
  exact I.turnedL (fun c ob hc q=>he c ob (fun z=>hc (by simp[z])) q) hf
 self:=fun _ _ _ _ _ st h=>by obtain⟨ok,ov,s1⟩:=st;exact PySem.W.kcp_self s1 h
noncomputable def Jpi(td:TE):TI:=fun σ H R=>td σ H fun x H1=>∃a o kvs,x=.ref a/\H1 a=some (.frz o (.dK kvs))/\R (Itd a o kvs) H1
theorem Jii{X:Cx}{elts:List Q6}{kk:Nat}{tpos:Pos}{d:Q6}{td:TE}{apos pos:Pos}(hd:PE X d td)(hbase:attributeBase d "items" X.env (eval d X.env)=eval d X.env:=by rfl)(hline:(apos.endLine == pos.line)=true:=by rfl)
:PI X (.Tuple elts kk tpos) (.Call (.Attribute d "items" apos) [] [] pos) (Jpi td):=by
 intro pins s σ H R I h;refine LA hbase hline (thn (hd pins s σ H _ I h) fun v s1 ⟨x,H1,I1,r1,a,o,kvs,ex,hH,q⟩=>?_);subst ex;cases r1;obtain⟨t1,t2,_⟩:=JdI I1 (.inl ⟨kvs,.inr ⟨o,hH⟩⟩);have hO:=(show ObjOk X.prog X.w H1 s1.heap a (.frz o (.dK kvs)) from I1.hok a _ hH)
 obtain⟨e0,z,y,vs,r,ob,es,ep,e1,c1,c2,c3⟩:=hO;rw[e0] at e1;cases e1;have dd:s1.heap.DictAt (Jz X.prog X.w) a vs ep:=⟨o,es,e0,c1,c2,c3⟩
 have hl:kvs.length=vs.length:=KV.length r;refine⟨"dict","dict.items",LC,KU,MH,t1,t2,Kn rfl (L4 ?_)⟩;refine call_meetsIn KU t1 My (Mm _) (meets_dict_items (Jz X.prog X.w) a y) ⟨⟨vs,dd.dictOf⟩,?_⟩
 have I2:Inv X pins σ H1 { s1 with heap:=s1.heap.push { cls:=.type "dict_items",data:=.fields #[.ref a] },toks:=s1.toks }:=I1.kept fun b ob q=>Qi _ q
 refine wpAny_pyIter_items (s:={ s1 with heap:=s1.heap.push { cls:=.type "dict_items",data:=.fields #[.ref a] } }) (d:=a) (kvs:=vs) (ep:=ep) (knd:=Jz X.prog X.w) ⟨_,Qn _ rfl,rfl,rfl⟩ (dd.push _) ?_;refine⟨_,[(s1.heap.push { cls:=.type "dict_items",data:=.fields #[.ref a] }).objs.size],_,_,H1,rfl,I2.kept (t':=s1.toks) fun b ob q=>Qi _ q,Jem a _ o kvs es ep c2,⟨.none,.none,?_⟩,fun c hc=>?_,q⟩
 ·rw[hl];exact Qn _ rfl
 ·have hc':c=(s1.heap.push { cls:=.type "dict_items",data:=.fields #[.ref a] }).objs.size:=by simpa using hc
  subst hc';exact I2.fpOk (Qx _) (I2.hok.fresh (Qx _))
end L2
namespace LE
open PySem L2 LR
noncomputable def JfW(i:Nat)(b:Es):Es:=fun E=>match E[i]? with
 | some (.od ks ds)=>b (E.set i (.sh (.dfz ks ds)))
 | _=>none
noncomputable def Jco:List Int->List D->List D:=List.zipWith fun k d=>.tup [.int k,d]
noncomputable def JdG(a:Ev):En->Option (List D):=fun E=>(a E).bind fun s=>match s with
 | .sh (.dfz ks ds)=>some (Jco ks ds)
 | _=>none
section
variable{K:Qz}{C:Qg}{m:Bool}{t:TS}{et:Es}{td:TE}{ed:Ev}
theorem JoO(i:Nat)(ht:SS K C t et):SS K C (JlV i t) (JfW i et):=by
 intro B H0 H σ E o D I e f;unfold JfW at e;split at e
 ·next ks ds h =>
  obtain⟨l,xs,g1,g2,g3,g4,gk,g5⟩:=I.slotD h;refine⟨l,_,g1,g2,fun ob=>?_⟩;have hi:i<E.length:=(Qk.mp h).1;have s0:Same H0 (upd H0 l (.frz ob (dkO ks xs))):=.new g3;have nb:∀{A:Hp},A l=none->Same A H->Same A (upd H l (.frz ob (dkO ks xs))):=fun {A} n s a o e=>by rw[Jf (Jo e n)];exact s a o e
  have s1:Same (upd H0 l (.frz ob (dkO ks xs))) (upd H l (.frz ob (dkO ks xs))):=fun a o e=>by
   by_cases ha:a=l
   ·subst ha;rw[Jm] at e ⊢;exact e
   ·rw[Jf ha] at e ⊢;exact I.h a o e
  have st:SStep B H0 (upd H0 l (.frz ob (dkO ks xs))) (upd H l (.frz ob (dkO ks xs))):=⟨nb g4 I.b,s0,fun a o e=>by
   by_cases ha:a=l
   ·subst ha;exact .inr (.inl g4)
   ·rw[Jf ha] at e;exact .inl e,s1⟩
  refine ht B _ _ σ _ o D ⟨nb g4 I.b,s1,by simp[I.len],fun j s e=>?_,fun j k u1 u2 v hjk a1 a2 w1 w2 a3=>?_,I.t⟩ e (f.step st)
  ·rw[Gg] at e
   by_cases hj:i=j
   ·subst hj;rw[if_pos rfl,if_pos hi] at e;cases e;exact .inr ⟨_,g1,.mkZ Jm gk (g5.mono s0)⟩
   ·rw[if_neg hj] at e;rcases I.at' j s e with z|⟨v,q1,q2⟩
    ·exact .inl z
    ·refine .inr ⟨v,q1,?_⟩
     cases s with
     | no=>trivial
     | sh d=>exact RD.mono s0 q2
     | bo es=>obtain⟨l',ys,p1,p2,p3⟩:=q2;exact⟨l',ys,p1,p2,p3.mono s0⟩
     | bd ks es=>obtain⟨l',ys,p1,p2,hk,p3⟩:=q2;exact⟨l',ys,p1,p2,hk,p3.mono s0⟩
     | bt ks es=>obtain⟨l',ys,p1,p2,hk,p3⟩:=q2;exact⟨l',ys,p1,p2,hk,p3.mono s0⟩
     | own es =>
      obtain⟨l',ys,p1,p2,p3,p4,p5⟩:=q2;subst p1;have:l'≠l:=fun z=>by subst z;exact I.sep i j _ _ (.ref l') hj h e rfl rfl g1 q1
      exact⟨l',ys,rfl,by rw[Jf this];exact p2,by rw[Jf this];exact p3,p4,p5.mono s0⟩
     | od ks es =>
      obtain⟨l',ys,p1,p2,p3,p4,hk,p5⟩:=q2;subst p1;have:l'≠l:=fun z=>by subst z;exact I.sep i j _ _ (.ref l') hj h e rfl rfl g1 q1
      exact⟨l',ys,rfl,by rw[Jf this];exact p2,by rw[Jf this];exact p3,p4,hk,p5.mono s0⟩
     | ot ks es =>
      obtain⟨l',ys,p1,p2,p3,p4,hk,p5⟩:=q2;subst p1;have:l'≠l:=fun z=>by subst z;exact I.sep i j _ _ (.ref l') hj h e rfl rfl g1 q1
      exact⟨l',ys,rfl,by rw[Jf this];exact p2,by rw[Jf this];exact p3,p4,hk,p5.mono s0⟩
  ·have own:∀{j:Nat} {u:Sl},(E.set i (.sh (.dfz ks ds)))[j]?=some u->JP u=true->E[j]?=some u:=fun {j u} a w=>by
    rw[Gg] at a
    by_cases hj:i=j
    ·subst hj;rw[if_pos rfl,if_pos hi] at a;cases a;cases w
    ·rw[if_neg hj] at a;exact a
   exact I.sep j k u1 u2 v hjk (own a1 w1) (own a2 w2) w1 w2 a3
 ·cases e
theorem ZH:∀(ks:List Int) (xs:List V) (i:Nat),((ks.map Sum.inl:List Key).zip xs)[i]?=(match ks[i]?,xs[i]? with|some k,some x=>some ((Sum.inl k:Key),x)|_,_=>none)
 | [],xs,i=>by simp
 | k::ks,[],i=>by cases h:(k::ks)[i]? <;> simp_all
 | k::ks,x::xs,0=>by simp
 | k::ks,x::xs,i+1=>by simpa using ZH ks xs i
theorem JiJ(ha:SE K C td ed):SI K C m (Jpi td) (JdG ed):=by
 intro B H0 H σ E ds R I e q;obtain⟨s,e1,e⟩:=bind_some e;split at e
 ·next ks es =>
  cases e;refine ha B H0 H σ E _ _ I e1 fun x H1 H1' s1 r1=>?_
  obtain⟨l,xs,o,rfl,h,hk,rl⟩:=RD.dfzI r1;refine⟨l,o,_,rfl,s1.i _ _ h,q _ _ _ s1 ?_⟩
  have sA:Same (if m=true then H1' else B) H1':=by
   split
   ·exact Same.refl _
   ·exact I.b.trans s1.h
  intro H0' H' st;have hl:H' l=some (.frz o (dkO ks xs)):=st.i _ _ (st.z _ _ h);refine⟨fun i d e=>?_,⟨hl,?_⟩⟩
  ·unfold Jco at e;rw[M0] at e
   cases hki:ks[i]? with
   | none=>rw[hki] at e;cases e
   | some k =>
    cases hdi:es[i]? with
    | none=>rw[hki,hdi] at e;cases e
    | some d' =>
     rw[hki,hdi] at e;cases e;obtain⟨x,hx,rx⟩:=rl.get hdi;have hz:((ks.map Sum.inl:List Key).zip xs)[i]?=some (Sum.inl k,x):=by rw[ZH,hki,hx]
     refine⟨⟨hl,_,hz⟩,?_⟩;rintro z H2 ⟨p,k',v',rfl,hp,hv,rfl⟩;rw[hz] at hv;cases hv;have h0:H0' p=none:=Same.free st.i hp;refine⟨upd H0' p (.tup [.int k,x]),⟨.new hp,.new h0,fun a o e=>?_,fun a o e=>?_⟩,?_⟩
     ·by_cases h:a=p
      ·subst h;exact .inr (.inl hp)
      ·rw[Jf h] at e;exact .inl e
     ·by_cases h:a=p
      ·subst h;rw[Jm] at e ⊢;exact e
      ·rw[Jf h] at e ⊢;exact st.i a o e
     ·exact .mkT (.of Jm) (.cons (.int _) (.cons (rx.mono (st.z.trans (.new h0))) .nil))
  ·unfold Jco;rw[List.length_zipWith,G5,Qv,rl.1]
 ·cases e
end
end LE

namespace L2
open PySem PySem.Spec PyProof.Rows
theorem JeK{X:Cx}{pins:List (Qg×Obj)}{σ:St}{H:Hp}{s:Qh}{a:Qg}{kvs:List (Key×V)}(I:Inv X pins σ H s)(h:Rd H a (.dK kvs)) :
 ∃vs ep,KV kvs vs/\s.heap.DictAt (Jz X.prog X.w) a vs ep/\(a == sysModules)=false/\kvs.length<=Qt:=by
 obtain⟨z,y,vs,r,ob,es,ep,e1,c⟩:=(show ObjOk X.prog X.w H s.heap a (.dK kvs) from h.ok I.hok)
 exact⟨vs,ep,r,⟨ob,es,e1,c⟩,y,z⟩
section
variable{prog:Qy}{w:QH}{A:QF}{E:Qe->Qh->Prop}{s:Qh}{T:String}{r d:Qg}{n:Nat}{P:Nat->Qe->Prop}{OK:QP->Prop}
end
end L2
namespace LE
open PySem L2 LR
section
variable{K:Qz}{C:Qg}{td:TE}{ed:Ev}
theorem Rd.put{H:Hp}{l p:Qg}{o u:HO}(h:Rd H l o)(hp:H p=none):Rd (upd H p u) l o:=by
 rcases h with h|⟨ob,h⟩
 ·exact .inl (by rw[Jf (Jo h hp)];exact h)
 ·exact .inr ⟨ob,by rw[Jf (Jo h hp)];exact h⟩
end
end LE

namespace L2
open PySem PySem.Spec PyProof.Rows
theorem Inv.more{X:Cx}{pins:List (Qg×Obj)}{σ:St}{H H':Hp}{s:Qh}{h':QP}{t':Nat}(I:Inv X pins σ H s)(k:∀b u,s.heap.get? b=some u->h'.get? b=some u)(hx:∀b,b<s.heap.objs.size->H' b=H b)
 (new:∀b o,s.heap.objs.size<=b->H' b=some o->ObjOk X.prog X.w H' h' b o):Inv X pins σ H' { s with heap:=h',toks:=t' }:=by
 have old:∀b o,H b=some o->H' b=some o:=fun b o e=>by rw[hx b (I.hok.lt e)];exact e
 refine I.un ⟨fun b u q _ _ _=>k b u q,fun b u q _ _ _=>⟨u.slots,k b u q⟩,fun b u q n _=>by rw[hx b (Qq q)];exact n,fun b u q _=>⟨u,k b u q⟩,fun b xs q=>old b _ q,fun b u xs q=>old b _ q,fun b _ _ _ _ q=>old b _ q⟩ fun b o e=>?_
 rcases LF b s.heap.objs.size with z|z
 ·rw[hx b z] at e;exact(I.hok b o e).stay (fun c u _ q=>k c u q) (fun c q=>old c _ q) fun c xs q=>old c _ q
 ·exact new b o z e
noncomputable def VJ(p a:Qg):HO:=.ext fun h=>h.IsItemsView p a
noncomputable def JiU(td:TE):TE:=fun σ H Q=>td σ H fun x H1=>∃a kvs,x=.ref a/\Rd H1 a (.dK kvs)/\∀p,H1 p=none->Q (.ref p) (upd H1 p (VJ p a))
theorem Jif{X:Cx}{d:Q6}{td:TE}{apos pos:Pos}(hd:PE X d td)(hbase:attributeBase d "items" X.env (eval d X.env)=eval d X.env:=by rfl)(hline:(apos.endLine == pos.line)=true:=by rfl)
:PE X (.Call (.Attribute d "items" apos) [] [] pos) (JiU td):=by
 intro pins s σ H Q I h;refine LA hbase hline (thn (hd pins s σ H _ I h) fun v s1 ⟨x,H1,I1,r1,a,kvs,ex,hH,q⟩=>?_);subst ex;cases r1;obtain⟨t1,t2,_⟩:=JdI I1 (.inl ⟨kvs,hH⟩);obtain⟨vs,ep,r,dd,y,_⟩:=JeK I1 hH;refine⟨"dict","dict.items",LC,KU,MH,t1,t2,Kn rfl (L4 ?_)⟩;refine call_meetsIn KU t1 My (Mm _) (meets_dict_items (Jz X.prog X.w) a y) ⟨⟨vs,dd.dictOf⟩,?_⟩
 have hn:H1 s1.heap.objs.size=none:=I1.hok.fresh (Qx _)
 have vw:(s1.heap.push { cls:=.type "dict_items",data:=.fields #[.ref a] }).IsItemsView s1.heap.objs.size a:=⟨_,Qn _ rfl,rfl,rfl⟩
 refine⟨.ref s1.heap.objs.size,_,I1.laid (t':=s1.toks) (o:=VJ s1.heap.objs.size a) (fun b ob q=>Qi _ q) (Qx _) ⟨vw,⟨_,Qn _ rfl⟩,fun h1 h2 p k=>?_⟩,rfl,q _ hn⟩;obtain⟨o,ho,hc⟩:=p;exact⟨o,k o ho,hc⟩
noncomputable def U3(H:Hp):List Qg->List (Key×V)->Hp
 | a::as,kv::kvs=>upd (U3 H as kvs) a (.tup [kV kv.1,kv.2])
 | _,_=>H
theorem YW{H:Hp}{b:Qg}:∀{as:List Qg} {kvs:List (Key×V)},b∉as->U3 H as kvs b=H b
 | [],_,_=>rfl
 | _::_,[],_=>rfl
 | a::as,kv::kvs,h=>by rw[U3,Jf fun z=>h (by rw[z];exact Qf)];exact YW fun m=>h (Qc _ m)
theorem WC{H:Hp}:∀{as:List Qg} {kvs:List (Key×V)} {j:Nat} {a:Qg} {kv:Key×V},as.Nodup->as[j]?=some a->kvs[j]?=some kv->U3 H as kvs a=some (.tup [kV kv.1,kv.2])
 | [],_,_,_,_,_,e,_=>by simp at e
 | _::_,[],_,_,_,_,_,e=>by simp at e
 | b::as,kv'::kvs,0,a,kv,_,e1,e2=>by simp at e1 e2;subst e1 e2;rw[U3,Jm]
 | b::as,kv'::kvs,j+1,a,kv,hn,e1,e2=>by
  rw[Gk] at hn;simp at e1 e2;have hne:a≠b:=fun z=>hn.1 (by rw[<- z];exact QX e1)
  rw[U3,Jf hne];exact WC hn.2 e1 e2
noncomputable def Jiv:List V->Hp->VK->Prop:=fun xs H Q=>∃(r a:Qg) (kvs:List (Key×V)),xs=[.ref r]/\H r=some (VJ r a)/\Rd H a (.dK kvs) ∧
 ∀(L:Qg) (as:List Qg),H L=none->as.length=kvs.length->as.Nodup->L∉as->(∀b∈as,H b=none)->Q (.ref L) (upd (U3 H as kvs) L (.lst (as.map V.ref)))
theorem Jdr{X:Cx}(hc:X.calm=true):CallR X (.type "list") Jiv:=by
 intro pins s σ H xs us Q I r h;obtain⟨p,a,kvs,rfl,hv,hq,q⟩:=h;obtain⟨u,rfl,rx⟩:=Ws r;cases rx;obtain⟨vs,ep,rl,dd,_,hz⟩:=JeK I hq;have hl:kvs.length=vs.length:=KV.length rl;have vw:s.heap.IsItemsView p a:=(show ObjOk X.prog X.w H s.heap p (VJ p a) from I.hok p _ hv).1;have hh:X.A.handled=none:=I.ok.hd hc;refine PySem.W.kdx_call hh vw dd (by rw[<- hl];exact hz) fun h' tk acc c as hk hS hal hG hacc=>?_
 have hnd:as.Nodup:=hG.rise.imp fun {x y} h=>QK h
 have hLa:s.heap.objs.size∉as:=fun m=>absurd (hG.above _ m) (GD _)
 have fr:∀b∈as,H b=none:=fun b hb=>I.hok.fresh (G9 (hG.above b hb))
 have hne:H s.heap.objs.size=none:=I.hok.fresh (Qx _)
 have hsize:as.length<=Qt:=by rw[hal,<- hl];exact hz
 refine⟨.ref s.heap.objs.size,_,I.more (t':=tk) hk (fun b hb=>?_) (fun b o hb e=>?_),rfl,q s.heap.objs.size as hne (by rw[hal,hl]) hnd hLa fr⟩
 ·rw[Jf (QK hb)];exact YW fun m=>absurd (hG.above b m) (Rp.mpr (G9 hb))
 ·by_cases hL:b=s.heap.objs.size
  ·subst hL;rw[Jm] at e;cases e;refine⟨by rw[Qv];exact hsize,acc.toList,c,?_,?_⟩
   ·rw[hacc]
    have:∀l:List Qg,Vals (l.map V.ref) (l.map Value.ref):=fun l=>by
     induction l with
     | nil=>exact .nil
     | cons x l ih=>exact .cons rfl ih
    exact this as
   ·rw[hS]
  ·rw[Jf hL] at e
   by_cases hm:b∈as
   ·obtain⟨j,hj⟩:=Gr.mp hm;obtain⟨key,k,x,e1,e2,e3⟩:=hG.pairs j b hj;have hjl:j<kvs.length:=by have:=(Qk.mp e1).1;omega
    have hkv:kvs[j]?=some kvs[j]:=QM hjl;obtain⟨u,hu,ru⟩:=rl.get hkv;rw[e1] at hu;cases hu;rw[WC hnd hj hkv] at e;cases e;exact⟨by show 2<=Qt;decide,[key,x],.cons (JhW e2) (.cons ru .nil),⟨_,e3,rfl,_,rfl⟩⟩
   ·rw[YW hm,I.hok.fresh hb] at e;cases e
end L2
namespace LE
open PySem L2 LR
noncomputable def JaZ(a:Ev):Ev:=fun E=>(a E).bind fun s=>s.dk.bind fun p=>some (.own (Jco p.1 p.2))
section
variable{K:Qz}{C:Qg}{td:TE}{ed:Ev}
theorem Jau{H:Hp}{kvs:List (Key×V)}{as:List Qg}(h:∀b∈as,H b=none):Same H (U3 H as kvs):=fun b o e=>by rw[YW fun m=>by rw[h b m] at e;cases e];exact e
theorem Je7{H:Hp}:∀{as:List Qg} {kvs:List (Key×V)} {b:Qg} {o:HO},U3 H as kvs b=some o->H b=some o\/b∈as
 | [],_,_,_,e=>.inl e
 | _::_,[],_,_,e=>.inl e
 | a::as,kv::kvs,b,o,e=>by
  by_cases c:b=a
  ·exact .inr (by rw[c];exact Qf)
  ·rw[U3,Jf c] at e;exact(Je7 e).imp id fun m=>Qc _ m
theorem RDL.items:∀{ks:List Int} {xs:List V} {ds:List D} {as:List Qg} {H:Hp},ks.length=ds.length->as.length=ks.length->(∀(j:Nat) (a:Qg) (k:Int) (x:V),as[j]?=some a->ks[j]?=some k->xs[j]?=some x->H a=some (.tup [.int k,x]))->RDL K C H xs ds->RDL K C H (as.map V.ref) (Jco ks ds)
 | [],[],[],[],_,_,_,_,_=>.nil
 | [],_,_,a::as,_,_,h,_,_=>by simp at h
 | [],_,d::ds,_,_,h,_,_,_=>by simp at h
 | k::ks,_,[],_,_,h,_,_,_=>by simp at h
 | k::ks,_,_,[],_,_,h,_,_=>by simp at h
 | [],x::xs,[],[],_,_,_,_,h=>by have:=h.1;simp at this
 | k::ks,[],d::ds,a::as,_,_,_,_,h=>by have:=h.1;simp at this
 | k::ks,x::xs,d::ds,a::as,H,h1,h2,h3,h4=>by show RDL K C H (V.ref a::as.map V.ref) (.tup [.int k,d]::Jco ks ds);refine .cons (.mkT (.of (h3 0 a k x rfl rfl rfl)) (.cons (.int k) (.cons h4.head .nil))) (RDL.items (by simpa using h1) (by simpa using h2) (fun j a k x e1 e2 e3=>h3 (j+1) a k x (by simpa using e1) (by simpa using e2) (by simpa using e3)) h4.tail)
theorem Jla(ha:SE K C td ed):SE K C (tCB Jiv (Wr (JiU td) Jei)) (JaZ ed):=by
 intro B H0 H σ E r Q I e q;obtain⟨s,e1,e⟩:=bind_some e;obtain⟨p,e2,e⟩:=bind_some e;cases e;refine ha B H0 H σ E s _ I e1 fun x H1 H1' s1 r1=>?_
 obtain⟨l,xs,rfl,h,hk,rl⟩:=r1.dk s1.i e2;refine⟨l,_,rfl,h,fun w hw=>?_⟩;have st:Step H1' H1 H1' H1 (upd H1' w (VJ w l)):=⟨.new hw,Same.refl _,fun _ _ e=>.inl e,s1.i.trans (.new hw)⟩
 have s2:=s1.trans st;refine⟨w,l,_,rfl,Jm,Rd.put h hw,fun L as hL hal hnd hLa hfr=>?_⟩;rw[G5,Qv,rl.1,hk,Ry] at hal
 have fr0:∀b∈as,H1 b=none:=fun b hb=>Same.free s2.i (hfr b hb)
 have frH:∀b∈as,H b=none:=fun b hb=>Same.free s2.h (hfr b hb)
 have hL0:H1 L=none:=Same.free s2.i hL
 have z0:Same H1 (U3 H1 as ((p.1.map Sum.inl:List Key).zip xs)):=Jau fr0
 have zz:Same (upd H1' w (VJ w l)) (U3 (upd H1' w (VJ w l)) as ((p.1.map Sum.inl:List Key).zip xs)):=Jau hfr
 have hLl:U3 (upd H1' w (VJ w l)) as ((p.1.map Sum.inl:List Key).zip xs) L=none:=by rw[YW hLa];exact hL
 have ii:Same (U3 H1 as ((p.1.map Sum.inl:List Key).zip xs)) (U3 (upd H1' w (VJ w l)) as ((p.1.map Sum.inl:List Key).zip xs)):=fun b o e=>by
  by_cases hb:b∈as
  ·obtain⟨j,hj⟩:=Gr.mp hb
   have hjl:j<((p.1.map Sum.inl:List Key).zip xs).length:=by rw[G5,Qv,rl.1,hk,Ry];have:=(Qk.mp hj).1;omega
   have hkv:=QM hjl;rw[WC hnd hj hkv] at e ⊢;exact e
  ·rw[YW hb] at e ⊢;exact s2.i b o e
 refine q _ (U3 H1 as ((p.1.map Sum.inl:List Key).zip xs)) _ ⟨(s2.h.trans zz).trans (.new hLl),s2.z.trans z0,fun b o e=>?_,ii.trans (.new hLl)⟩ ⟨L,as.map V.ref,rfl,Jm,by rw[YW hLa];exact hL0,Same.free s2.h hL,?_⟩
 ·rcases Je7 e with z|z
  ·exact s2.n b o z
  ·exact .inr (.inl (frH b z))
 ·refine RDL.items (xs:=xs) hk (by rw[hal,hk]) (fun j a k x j1 j2 j3=>?_) (rl.mono z0);exact WC hnd j1 (by rw[ZH,j2,j3])
end
end LE

namespace L2
open PySem PySem.Spec PyProof.Rows
noncomputable def wo:List Qg->QP->QP
 | [],h=>h
 | a::l,h=>(wo l h).update a fun _=>{ cls:=.none,data:=.freed }
theorem JgV(h:QP)(a:Qg):(h.update a fun _=>{ cls:=.none,data:=.freed }).get? a=none:=by
 cases q:(h.update a fun _=>({ cls:=.none,data:=.freed }:Obj)).get? a with
 | none=>rfl
 | some o =>
  obtain⟨e,f⟩:=Heap.get?_some_iff.mp q;obtain⟨os,l⟩:=h;simp only[Heap.update,Array.getElem?_modify,if_true] at e
  cases z:os[a]? with
  | none=>rw[z] at e;cases e
  | some u=>rw[z] at e;cases e;cases f
theorem JfU{h:QP}{b:Qg}:∀{l:List Qg},b∈l->(wo l h).get? b=none
 | [],hb=>nomatch hb
 | a::l,hb=>by
  unfold wo
  by_cases e:a=b
  ·subst e;exact JgV _ _
  ·rw[Q1 _ _ e];exact JfU ((Qj.mp hb).resolve_left (Q2 e))
theorem JbO{h:QP}{b:Qg}:∀{l:List Qg},b∉l->(wo l h).get? b=h.get? b
 | [],_=>rfl
 | a::l,hb=>by unfold wo;rw[Q1 _ _ (fun e=>hb (by rw[e];exact Qf))];exact JbO fun z=>hb (Qc _ z)
theorem JeR{h base base':QP}:∀{l:List Env},h.FunFrames base l->(∀b∈frs l,base'.get? b=none)->h.FunFrames base' l
 | [],_,_=>trivial
 | env::l,⟨hk,⟨L,o,hf,hn,ho,hd⟩,hr⟩,n=>by
  have e:frs (env::l)=L::frs l:=by unfold frs;rw[Kj,hf]
  rw[e] at n;exact⟨hk,⟨L,o,hf,n L Qf,ho,hd⟩,JeR hr fun b hb=>n b (Qc _ hb)⟩
theorem Jj1{h base:QP}{l:List Env}(x:h.FunFrames base l){b:Qg}(hb:b∈frs l):base.get? b=none/\∃o,h.get? b=some o/\∀vs,o.data≠.fields vs:=x.mem hb
theorem ObjOk.there{P:Qy}{w:QH}{H:Hp}{h:QP}{a:Qg}{o:HO}(x:ObjOk P w H h a o):∃u,h.get? a=some u:=by
 cases o with
 | lst xs=>obtain⟨_,_,_,_,e⟩:=x;exact⟨_,e⟩
 | tup xs=>obtain⟨_,_,_,p⟩:=x;obtain⟨o,e,_⟩:=p;exact⟨_,e⟩
 | dK kvs=>obtain⟨_,_,_,_,o,_,_,e,_⟩:=x;exact⟨_,e⟩
 | dT kvs=>obtain⟨_,_,_,_,o,_,_,e,_⟩:=x;exact⟨_,e⟩
 | set S n=>obtain⟨o,_,_,_,e,_⟩:=x;exact⟨_,e⟩
 | ins C dx fs=>obtain⟨_,_,_,e,_⟩:=x;exact⟨_,e⟩
 | own y=>obtain⟨_,e⟩:=x;exact⟨_,e⟩
 | xd fs=>obtain⟨_,⟨_,_,_,e,_⟩,_⟩:=x;exact⟨_,e⟩
 | rng lo hi=>obtain⟨_,_,_,e⟩:=x;exact⟨_,e⟩
 | frz ob u=>obtain⟨e,_⟩:=x;exact⟨_,e⟩
 | tbl ps l c q =>
  rcases x with e|⟨_,_,_,e,_⟩
  ·exact⟨_,e⟩
  ·exact⟨_,e⟩
 | met f y=>exact⟨_,(show h.get? a=some _ from x)⟩
 | ext φ=>obtain⟨_,⟨_,e⟩,_⟩:=x;exact⟨_,e⟩

noncomputable def TrD(h base:QP)(e:Qg)(cls:Qe)(dct:Option Qg)(fl:Qe):Prop :=
 ∃oe vs T oT ts,h.get? e=some oe/\(oe.cls=cls/\oe.dict=dct)/\oe.data=.fields vs/\vs[1]?=some (.ref T)/\base.get? T=none/\T≠e/\h.get? T=some oT/\oT.data=.fields ts/\ts[3]?=some fl
noncomputable def Fl(base:QP)(l:List Env)(e:Qg)(cls:Qe)(h:QP):Prop :=
 base.StaysIn h/\base.get? e=none/\h.FunFrames base l/\(TrD h base e (LE.Jgb cls) (LE.Jhi cls) .none\/∃oe vs,h.get? e=some oe/\(oe.cls=LE.Jgb cls/\oe.dict=LE.Jhi cls)/\oe.data=.fields vs/\vs[1]?=some .none)
noncomputable def Cov(fs:List Qg)(H':Hp)(h h' base:QP):Prop:=∀b o,(H' b≠none\/∃u,h.get? b=some u)->b∉fs->h'.get? b=some o->base.get? b=some o
structure XF (P:Qy) (w:QH) (l:List Env) (H:Hp) (h:QP) (a:Qg) (cls:Qe) (H':Hp) (base h':QP):Prop where
 un:Un (frs l) [] H H' h h'
 hok:HOk P w H' h'
 fl:Fl base l a cls h'
 cov:Cov (frs l) H' h h' base
 free:H' a=none
 new:h.get? a=none
noncomputable def CX1(P:Qy)(w:QH):CXT:=fun l H s E e s'=>∃(a:Qg) (cls:Qe) (H':Hp) (base:QP),e=.ref a/\s'.os=s.os/\AllBare s'.gens/\XF P w l H s.heap a cls H' base s'.heap/\E cls (some a) H'
section
variable{P:Qy}{w:QH}{l:List Env}{H H':Hp}{h h1 h2 base base0:QP}{a:Qg}{cls:Qe}
end
section
variable{M:Model}{A:QF}{E:Qe->Qh->Prop}{s:Qh}{base:QP}{env:Env}{outer l:List Env}{L e:Qg}{cls fl:Qe}{dct:Option Qg}{Q:Unit->Qh->Prop}
end

noncomputable def XP(X:Cx)(pins:List (Qg×Obj))(σ:St)(E:XK)(e:Qe)(s':Qh):Prop:=∃H s,Inv X pins σ H s/\CX1 X.prog X.w X.stack H s E e s'
section
variable{X:Cx}{pins:List (Qg×Obj)}{σ:St}{H H':Hp}{s s':Qh}{base:QP}{a:Qg}{cls:Qe}{E:XK}{e:Qe}
theorem XP.made{args:List Qe}{h':QP}{ea:Qg}(I:Inv X pins σ H s)(m:Heap.MadeExcOf s.heap h' ea cls args)(q:E cls (some ea) H)(k1:LE.Jgb cls=cls)(k2:LE.Jhi cls=none):XP X pins σ E (.ref ea) { s with heap:=h' }:=by
 have nf:∀b∈frs X.stack,∃o,s.heap.get? b=some o:=fun b hb=>by obtain⟨_,o,ho,_⟩:=Jj1 I.stack hb;exact⟨o,ho⟩
 obtain⟨t,ht,_,_⟩:=m.there;refine⟨H,s,I,ea,cls,H,wo (frs X.stack) s.heap,rfl,rfl,I.bare,⟨⟨fun b o q _ _ _=>m.keeps b o q,fun b o q _ _ _=>⟨o.slots,m.keeps b o q⟩,fun _ _ _ n _=>n,fun b o q _=>⟨o,m.keeps b o q⟩,fun _ _ z=>z,fun _ _ _ z=>z,fun _ _ _ _ _ z=>z⟩,I.hok.kept m.keeps,⟨fun b o q=>?_,?_,?_,.inr ⟨_,_,ht,⟨k1.symm,k2.symm⟩,rfl,rfl⟩⟩,fun b o hb hfr q=>?_,?_,m.new⟩,q⟩
 ·by_cases hb:b∈frs X.stack
  ·rw[JfU hb] at q;cases q
  ·rw[JbO hb] at q;exact m.keeps b o q
 ·by_cases hb:ea∈frs X.stack
  ·exact JfU hb
  ·rw[JbO hb];exact m.new
 ·exact(JeR I.stack fun b hb=>JfU hb).of_keeps fun b o q _=>⟨o,m.keeps b o q,rfl⟩
 ·rw[JbO hfr]
  have ex:∃u,s.heap.get? b=some u:=by
   rcases hb with hb|hb
   ·cases e:H b with
    | none=>exact absurd e hb
    | some u=>exact(I.hok b u e).there
   ·exact hb
  obtain⟨u,hu⟩:=ex;have:=m.keeps b u hu;have q':h'.get? b=some o:=q;rw[q'] at this;cases this;exact hu
 ·cases e:H ea with
  | none=>rfl
  | some u=>obtain⟨o,ho⟩:=(I.hok ea u e).there;rw[m.new] at ho;cases ho
end
end L2

namespace L2
open PySem PySem.Spec PyProof.Rows PySem.Calls
abbrev VEm:List Qe:=[.type "ValueError",.type "Exception",.type "BaseException",.type "object"]
section
variable{P:Qy}{w:QH}{K:Qz}{mg:Str->Option Qe}{base:QP}{N:List Str}{qual:Str}{scope:Ln}{f:Qg}{cd:Qe}{A:QF}{outer:List Env}{s:Qh}{H:Hp}{E:XK}
end
section
variable{X:Cx}{x:Str}{np cpos pos:Pos}{C:Qg}{E:XK}{e:Q6}{es:List Q6}{t:TA}
end
end L2

namespace L2
open PySem PySem.Spec PyProof.Rows PySem.Calls
structure CalX (P:Qy) (w:QH) (K:Qz) (mg:Str->Option Qe) (base:QP) (x:Str) (k:Nat) (ps:List Str) (sp:Sp):Prop where
 ex:∃(f:Qg) (fd:QJ),FnOk P w K mg base (CX1 P w) k f fd ps sp/\mg x=some (.ref f)/\keepIn K (.ref f)=true/\Binds K fd ps []
section
variable{X:Cx}{k:Nat}{C:Qg}{ps:List Str}{sp:Sp}{x:Str}{p pos:Pos}{e:Q6}{es:List Q6}{t:TA}{st:G0}{rest:List G0}{T:XK->TE}{TS1:(St->XK)->TS}{u:TS}
end
end L2
namespace L2
open PySem PySem.Spec PyProof.Rows PySem.Calls LE
section
variable{X:Cx}{pins:List (Qg×Obj)}{σ:St}{H:Hp}{s:Qh}{a:Qg}
theorem Inv.track{o:HO}(I:Inv X pins σ H s)(hx:X.ex=[])(ha:H a=none)(h0:X.s₀.heap.get? a=none)(hL:a≠X.env.locals)(hC:∀x c,X.env.cells.lookup x=some c->c≠a)(hP:∀p∈X.pn++pins,p.1≠a)(new:ObjOk X.prog X.w (upd H a o) s.heap a o):Inv X pins σ (upd H a o) s:=by
 have nt:∀b u,H b=some u->b≠a:=fun b u e z=>by rw[z,ha] at e;cases e
 refine⟨I.ok,I.os,I.bare,⟨I.base.keep,I.base.slot,fun b u e n hb=>?_,I.base.there,fun b xs e=>?_,fun b u xs e=>?_,fun b ps l c z e=>?_⟩,I.loc,I.cell,?_,fun x c e=>?_,fun p hp=>?_,fun b u e=>?_,I.len⟩
 ·rw[Jf (fun z=>by rw[z,h0] at e;cases e)];exact I.base.free b u e n hb
 ·have:=I.base.tups b xs e;rw[Jf (nt _ _ this)];exact this
 ·have:=I.base.frzs b u xs e;rw[Jf (nt _ _ this)];exact this
 ·have:=I.base.tbls b ps l c z e;rw[Jf (nt _ _ this)];exact this
 ·rw[Jf (Q2 hL)];exact I.free
 ·rw[Jf (hC x c e)];exact I.freeC x c e
 ·obtain⟨h1,h2,h3⟩:=I.pin p hp;exact⟨h1,by rw[Jf (hP p hp)];exact h2,h3⟩
 ·by_cases hb:b=a
  ·subst hb;rw[Jm] at e;cases e;exact new
  ·rw[Jf hb] at e;exact(I.hok b u e).stay (fun _ _ _ q=>q) (fun c q=>by rw[Jf (nt _ _ q)];exact q) fun c xs q=>by rw[Jf (nt _ _ q)];exact q
end
section
variable{X:Cx}{body suite:List G0}{b₀:G0}{i:Nat}{n cn:Str}{np hpos pos:Pos}{CL:Qg}{T:(St->XK)->TS}{th:TS}
end
end L2

namespace L2
open PySem PySem.Spec PyProof.Rows PySem.Calls LE
structure ExcN (K:Qz) (n:Str):Prop where
 pl:∀c,nsIn K mainGlobals n=some (some (.ref c))->findIn K (.ref c) "__getattribute__"=some (some (.builtin "BaseException.__getattribute__"))/\findIn K (.ref c) "__getattr__"=some none/\mroIn K c (.type "BaseException")=some true/\hasDictIn K c=true/\findIn K (.ref c) "__class__"=some (some (.builtin "object.__class__"))/\mroIn K c (.type "object")=some true
structure ExcG (K:Qz):Prop where
 hn:specialIn K (.builtin "object.__class__") "__get__"=some (some (.builtin "getset_descriptor.__get__"))
 htk:takesIn K (.builtin "object.__class__")=some true
section
variable{prog:Qy}{w:QH}{A:QF}{E:Qe->Qh->Prop}{s:Qh}{K:Qz}{x C D:Qg}{ox:Obj}
end
section
variable{K:Qz}{x D:Qg}{ox:Obj}{od:Option Obj}
end
section
variable{X:Cx}
inductive TyX (K:Qz) (H:Hp):V->Qe->Prop where
 | of {x:V} {t:Qe} (h:TyS K H x t):TyX K H x t
 | exc {a c:Qg} {v:Qe} {n:Str} (h:H a=some (XO a v)) (hv:Jgb v=.ref c) (hd:XdO v H) (e:nsIn K mainGlobals n=some (some (.ref c))) (N:ExcN K n) (G:ExcG K):TyX K H (.ref a) (.ref c)
end
end L2

namespace LE
open PySem L2 LR
noncomputable abbrev Xv:=En->Option Xm
section
variable(K:Qz)(C:Qg)
end
section
variable{K:Qz}{C:Qg}{W:XK}{t:TA}{ev:En->Option (List Sl)}{te:TE}{ts us:TS}{et eu:Es}{xt xu:Xv}{ex:Xv}
end
section
variable{K:Qz}{C:Qg}{B H0 H:Hp}{σ:St}{E:En}
end
section
variable{K:Qz}{C:Qg}
end
noncomputable def exB(n m:Str):Bool:=n == m || m == "LumpError"
section
variable{K:Qz}{C:Qg}{te:TE}{ea:Ev}
structure IsiN (K:Qz) (R:List Str) (m:Str) (c:Qg):Prop where
 own:∀n∈R,ExcN K n
 g:ExcG K
 k:∀n∈R,∀c',nsIn K mainGlobals n=some (some (.ref c'))->kitOne K (.ref c') (.ref c)=some (exB n m)
 o:kitOne K (.type "NoneType") (.ref c)=some false
end
end LE
namespace L2
open PySem PySem.Spec PyProof.Rows PySem.Calls LE
section
variable{X:Cx}
end
end L2
namespace LE
open PySem L2 LR
noncomputable def IsiL(K:Qz)(R:List Str):List Str->List Qg->Prop
 | [],[]=>True
 | m::ms,c::cs=>IsiN K R m c/\IsiL K R ms cs
 | _,_=>False
theorem IsiL.exc{K:Qz}{R:List Str}{n:Str}{c':Qg}(hn:n∈R)(hc:nsIn K mainGlobals n=some (some (.ref c'))):∀{ms:List Str} {cs:List Qg},IsiL K R ms cs->kitAny K (.ref c') (cs.map Value.ref)=some (ms.any (exB n))
 | [],[],_=>rfl
 | m::ms,c::cs,⟨h,t⟩=>by show(match kitOne K (.ref c') (.ref c) with|some true=>some true|some false=>kitAny K (.ref c') (cs.map Value.ref)|none=>none)=_;rw[h.k n hn c' hc,t.exc hn hc,Ka];cases exB n m <;> rfl
theorem IsiL.non{K:Qz}{R:List Str}:∀{ms:List Str} {cs:List Qg},IsiL K R ms cs->kitAny K (.type "NoneType") (cs.map Value.ref)=some false
 | [],[],_=>rfl
 | m::ms,c::cs,⟨h,t⟩=>by show(match kitOne K (.type "NoneType") (.ref c) with | some true=>some true | some false=>kitAny K (.type "NoneType") (cs.map Value.ref) | none=>none)=_;rw[h.o,t.non]
section
variable{K:Qz}{C:Qg}{te:TE}{ea:Ev}
structure IsiV (K:Qz) (R:List Str):Prop where
 own:∀n∈R,ExcN K n
 g:ExcG K
 k:∀n∈R,∀c',nsIn K mainGlobals n=some (some (.ref c'))->kitOne K (.ref c') (.type "ValueError")=some true
end
end LE

namespace L2
open PySem PySem.Spec PyProof.Rows PySem.Calls LE
section
variable{X:Cx}{K:Qz}
end
end L2
namespace LE
open PySem L2 LR
section
variable{K:Qz}{C:Qg}{ts:TS}
structure AtY (K:Qz) (n:Str) (c:Qg):Prop where
 ns:nsIn K mainGlobals n=some (some (.ref c))
 ga:findIn K (.ref c) "__getattribute__"=some (some (.builtin "BaseException.__getattribute__"))
 gn:findIn K (.ref c) "__getattr__"=some none
 mb:mroIn K c (.type "BaseException")=some true
 hd:hasDictIn K c=true
 fi:findIn K (.ref c) "__class__"=some (some (.builtin "object.__class__"))
 mr:mroIn K c (.type "object")=some true
structure AtX (K:Qz) (n:Str) (c:Qg):Prop extends AtY K n c where
 ok:PySem.W.excIn K c VEm "ValueError.__new__"=true
theorem AtY.n{n:Str}{c:Qg}(h:AtY K n c):ExcN K n:=⟨fun c' e=>by have:=h.ns.symm.trans e;cases this;exact⟨h.ga,h.gn,h.mb,h.hd,h.fi,h.mr⟩⟩
noncomputable def OwnL(K:Qz):List Str->List Qg->Prop
 | [],[]=>True
 | n::ns,c::cs=>AtY K n c/\OwnL K ns cs
 | _,_=>False
theorem OwnL.all:∀{ns:List Str} {cs:List Qg},OwnL K ns cs->∀n∈ns,ExcN K n
 | [],[],_,n,h=>nomatch h
 | m::ns,c::cs,⟨h,t⟩,n,hn=>by
  rcases Qj.mp hn with e|e
  ·rw[e];exact h.n
  ·exact t.all n e
noncomputable def ExmL(K:Qz)(CL:Qg):List Qg->Prop
 | []=>True
 | c::cs=>PySem.W.exmOne K (.ref c) (.ref CL)=some true/\ExmL K CL cs
theorem ExmL.all{CL:Qg}:∀{ns:List Str} {cs:List Qg},OwnL K ns cs->ExmL K CL cs->∀m∈ns,∀c,nsIn K mainGlobals m=some (some (.ref c))->PySem.W.exmOne K (.ref c) (.ref CL)=some true
 | [],[],_,_,n,h=>nomatch h
 | m::ns,c::cs,⟨h,t⟩,⟨h',t'⟩,n,hn=>fun c' e=>by
  rcases Qj.mp hn with z|z
  ·rw[z,h.ns] at e;cases e;exact h'
  ·exact t'.all t n z c' e
noncomputable def KitL(K:Qz)(m:Str)(c:Qg):List Str->List Qg->Prop
 | [],[]=>True
 | n::ns,d::ds=>kitOne K (.ref d) (.ref c)=some (exB n m)/\KitL K m c ns ds
 | _,_=>False
theorem KitL.all{m:Str}{c:Qg}:∀{ns:List Str} {cs:List Qg},OwnL K ns cs->KitL K m c ns cs->∀n∈ns,∀c',nsIn K mainGlobals n=some (some (.ref c'))->kitOne K (.ref c') (.ref c)=some (exB n m)
 | [],[],_,_,n,h=>nomatch h
 | m::ns,c::cs,⟨h,t⟩,⟨h',t'⟩,n,hn=>fun c' e=>by
  rcases Qj.mp hn with z|z
  ·rw[z] at e ⊢;rw[h.ns] at e;cases e;exact h'
  ·exact t'.all t n z c' e
noncomputable def KivL(K:Qz):List Qg->Prop
 | []=>True
 | c::cs=>kitOne K (.ref c) (.type "ValueError")=some true/\KivL K cs
theorem KivL.all:∀{ns:List Str} {cs:List Qg},OwnL K ns cs->KivL K cs->∀n∈ns,∀c',nsIn K mainGlobals n=some (some (.ref c'))->kitOne K (.ref c') (.type "ValueError")=some true
 | [],[],_,_,n,h=>nomatch h
 | m::ns,c::cs,⟨h,t⟩,⟨h',t'⟩,n,hn=>fun c' e=>by
  rcases Qj.mp hn with z|z
  ·rw[z,h.ns] at e;cases e;exact h'
  ·exact t'.all t n z c' e
end
section
variable(K:Qz)(C:Qg)
end
section
variable{K:Qz}{C:Qg}{W:XK}{ta te:TE}{t tr:TA}{ea:Ev}{xa xr ex:Xv}{wi:TI}
end
end LE

namespace LE
open PySem L2 LR
section
variable{K:Qz}{C:Qg}{W:XK}{t:TS}{et:Es}{xt:Xv}
end
end LE
namespace L2
open PySem PySem.Spec PyProof.Rows PySem.Calls LE
structure RoomH (k:Nat) (A:QF):Prop where
 dp:A.depth+3*k+5<recursionLimit
 un:A.units+16*k+200<cLine
theorem Room.h{k:Nat}{A:QF}(r:Room k A):RoomH k A:=⟨r.dp,r.un⟩
theorem RoomH.mono{j k:Nat}{A:QF}(r:RoomH k A)(h:j<=k):RoomH j A:=⟨by have:=r.dp;omega,by have:=r.un;omega⟩
theorem RoomH.deeper{k:Nat}{A:QF}(r:RoomH (k+1) A)(env:Env):RoomH k (A.deeper env) :=
 ⟨by have:=r.dp;show A.depth+1+3*k+5<_;omega,by have:=r.un;show A.units+3+16*k+200<_;omega⟩
theorem RoomH.units{k:Nat}{A:QF}(r:RoomH k A):A.units+64<cLine:=by have:=r.un;omega
noncomputable abbrev cxH(P:Qy)(w:QH)(K:Qz)(mg:Str->Option Qe)(base:QP)(N:List Str)(qual:Str)(scope:Ln)(f:Qg)(cd:Qe)(A:QF)(outer:List Env)(s:Qh)(H:Hp)(E:XK):Cx :=
 { VQ CX0 P w K mg base N qual scope f cd A outer s H E with calm:=false,xe:=fun _ _=>False }
structure FnH (P:Qy) (w:QH) (K:Qz) (mg:Str->Option Qe) (base:QP) (k:Nat) (f:Qg) (fd:QJ) (ps:List Str) (sp:Sp):Prop where
 len:∀vs H Q E,sp vs H Q E->vs.length=ps.length
 run:∀(A:QF) (outer:List Env) (s:Qh) (H:Hp) (args:Args) (us:List Qe) (vs:List V) (Q:VK) (E:XK),RoomH k A->Env0 P w K mg base A outer s H->BindsTo s fd args (ps.zip us)->Vals vs us->sp vs H Q E ->
  codeAny (model P w) A (.call (.ref f) args) (CR CX0 outer P w H s Q E) s
theorem JmF{P:Qy}{w:QH}{K:Qz}{mg:Str->Option Qe}{base:QP}{k:Nat}{f:Qg}{name qual:Str}{params:Mb}{body:List G0}{scope:Ln}{dV kV doc pm cdv ct oc:Qe}{an od:Option Qg}
 {osl:Array (Option Qe)} {N ps:List Str} {sp:Sp} (lk:K.lookup f=some ⟨oc,od,.func (fnOf name qual params body scope dV kV doc pm an cdv ct),osl⟩) (hcd:codeIn K cdv qual=true) (S:FnScope N ps scope)
 (len:∀vs H Q E,sp vs H Q E->vs.length=ps.length)
 (hbody:∀(A:QF) (outer:List Env) (s:Qh) (H:Hp) (vs:List V) (Q:VK) (E:XK),RoomH k (A.deeper (envOfC qual scope s.heap.objs.size f cdv))->sp vs H Q E ->
  ∃t,PSs (cxH P w K mg base N qual scope f cdv A outer s H E) body t/\t { nx:=fun _ H'=>Q .non H',rt:=Q } (Yl N vs) H) :
 FnH P w K mg base (k+1) f (fnOf name qual params body scope dV kV doc pm an cdv ct) ps sp:=by
 refine⟨len,fun A outer s H args us vs Q E hr e0 hb r hsp=>?_⟩;have hl:=len _ _ _ _ hsp;have KX:K.In s.heap:=e0.mod.kin.keeps fun b o e=>(e0.bs b o e).1
 have lim:s.heap.NoLimit:=e0.mod.nolimit.keeps fun b o e=>(e0.bs b o e).1
 have hkind:∀y∈ps.zip us,scope.names.lookup y.1=some .local\/(scope.names.lookup y.1=some .cell/\((cellsFrom (s.heap.objs.size+1) scope.names []).lookup y.1).isSome=true):=fun⟨n,v⟩ hy=>by
  rcases S.par n (Kh hy).1 with q|q
  ·exact .inl q
  ·exact .inr ⟨q,cellsFrom_some _ _ _ (.inl q)⟩
 have dep:A.depth<recursionLimit:=by have:=hr.dp;omega
 refine codeAny_call_function dep (KX _ _ lk) rfl S.co S.gen rfl (Ro KX hcd) (hb _ _ _ _ ?_);refine La S.kind hkind fun env he s1 x=>?_
 subst he;refine⟨lim.keeps x.toInCall.keep,codeAny_func ?_⟩;obtain⟨t,ht,hq⟩:=hbody A outer s H vs Q E (hr.deeper _) hsp;have e1:Env0 P w K mg base { A with handled:=none } outer s H:=⟨e0.frames,e0.mod,e0.bs,e0.bsz,e0.funs,e0.frf,e0.hok,e0.bare⟩
 have I0:Inv (VQ CX0 P w K mg base N qual scope f cdv { A with handled:=none } outer s H E) [] (Yl N vs) H s1:=VX S rfl e1 hl r x
 have I:Inv (cxH P w K mg base N qual scope f cdv A outer s H E) [] (Yl N vs) H s1 :=
  ⟨⟨I0.ok.mod,I0.ok.kind,I0.ok.glob,I0.ok.blt,I0.ok.above,I0.ok.inj,I0.ok.has,I0.ok.cab,(fun h=>nomatch h),M8 e0.frames,I0.ok.stk,I0.ok.exf,I0.ok.bs,I0.ok.bsz,I0.ok.noex,I0.ok.exfs,I0.ok.funs,I0.ok.frf⟩,I0.os,I0.bare,I0.base,I0.loc,I0.cell,I0.free,I0.freeC,I0.pin,I0.hok,I0.len⟩
 refine KG (ht [] s1 (Yl N vs) H _ I hq) (fun fl s' hs=>?_) fun e s' hs=>Gx hs
 have fin:∀{σ':St} {H':Hp} {v:V} {u:Qe},Inv (cxH P w K mg base N qual scope f cdv A outer s H E) [] σ' H' s'->RelV v u->Q v H'->CE outer P w H s Q u s' :=
  fun {σ' H' v u} J rv q=>⟨v,H',J.os,J.bare,J.base,J.hok,rv,q⟩
 cases fl with
 | ret u=>obtain⟨v,σ',H',J,rv,q⟩:=hs;exact fin J rv q
 | next=>obtain⟨σ',H',J,q⟩:=hs;exact fin (v:=V.non) (u:=Value.none) J rfl q
 | brk=>obtain⟨_,_,_,q⟩:=hs;exact Gx q
 | cont=>obtain⟨_,_,_,q⟩:=hs;exact Gx q
theorem Fun.okH{P:Qy}{w:QH}{K:Qz}{mg:Str->Option Qe}{base:QP}{x qual:Str}{st:G0}{f:Qg}{fd:QJ}{N ps:List Str}{k:Nat}{sp:Sp}(F:Fun K x qual st f fd)(S:FnScope N ps (Jh st))(len:∀vs H Q E,sp vs H Q E->vs.length=ps.length)
 (hbody:∀(cdv:Qe) (A:QF) (outer:List Env) (s:Qh) (H:Hp) (vs:List V) (Q:VK) (E:XK),RoomH k (A.deeper (envOfC qual (Jh st) s.heap.objs.size f cdv))->sp vs H Q E ->
  ∃t,PSs (cxH P w K mg base N qual (Jh st) f cdv A outer s H E) (Ym st) t/\t { nx:=fun _ H'=>Q .non H',rt:=Q } (Yl N vs) H):FnH P w K mg base (k+1) f fd ps sp:=by
 obtain⟨oc,od,kV,doc,pm,an,cdv,ct,osl,rfl,lk,hcd⟩:=F.ex;exact JmF lk hcd S len fun A outer s H vs Q E hr hsp=>hbody cdv A outer s H vs Q E hr hsp
theorem FnH.ok{P:Qy}{w:QH}{K:Qz}{mg:Str->Option Qe}{base:QP}{k:Nat}{f:Qg}{fd:QJ}{ps:List Str}{sp:Sp}(F:FnH P w K mg base k f fd ps sp):FnOk P w K mg base CX0 k f fd ps sp :=
 ⟨F.len,fun A outer s H args us vs Q E hr=>F.run A outer s H args us vs Q E hr.h⟩
structure CalH (P:Qy) (w:QH) (K:Qz) (mg:Str->Option Qe) (base:QP) (x:Str) (k:Nat) (ps:List Str) (sp:Sp):Prop where
 ex:∃(f:Qg) (fd:QJ),FnH P w K mg base k f fd ps sp/\mg x=some (.ref f)/\keepIn K (.ref f)=true/\Binds K fd ps []
section
variable{X:Cx}{k:Nat}{ps:List Str}{sp:Sp}{x:Str}{p pos:Pos}{e:Q6}{es:List Q6}{t:TA}
end
end L2

namespace L2
open PySem PySem.Spec PyProof.Rows PySem.Calls LE
structure CalMX (P:Qy) (w:QH) (K:Qz) (mg:Str->Option Qe) (base:QP) (x:Str) (C:Qg) (k:Nat) (ps:List Str) (sp:Sp):Prop where
 ex:∃(f:Qg) (fd:QJ),Mk K C f/\FnOk P w K mg base (CX1 P w) k f fd ps sp/\mg x=some (.ref C)/\Binds K fd ps []
section
variable{X:Cx}{k:Nat}{C:Qg}{ps:List Str}{sp:Sp}{x:Str}{p pos:Pos}{e:Q6}{es:List Q6}{t:TA}
end
end L2
namespace LE
open PySem L2 LR
section
variable(K:Qz)(C:Qg)
end
section
variable{K:Qz}{C:Qg}{W:XK}{t:TA}{ev:En->Option (List Sl)}{H0 H H2:Hp}
noncomputable def Jg8(ss:List Sl):Bool:=ss.all fun s=>!JP s
theorem RRL.more{vs:List V}{ss:List Sl}(st:Same H H2):Jg8 ss=true->RRL K C H H0 H vs ss->RRL K C H2 H0 H2 vs ss:=fun ho r=>by
 revert ho
 induction r with
 | nil=>exact fun _=>.nil
 | @cons v s vs ss h _ ih =>
  intro ho
  have hs:JP s=false/\Jg8 ss=true:=by unfold Jg8 at ho ⊢;rw[List.all_cons,QL] at ho;exact⟨by simpa using ho.1,ho.2⟩
  refine .cons ?_ (ih hs.2)
  cases s with
  | no=>exact h
  | sh d=>exact h
  | bo ds=>obtain⟨l,xs,e,g,q⟩:=h;exact⟨l,xs,e,st _ _ g,q⟩
  | bd ks ds=>obtain⟨l,xs,e,g,q⟩:=h;exact⟨l,xs,e,st _ _ g,q⟩
  | bt ks ds=>obtain⟨l,xs,e,g,q⟩:=h;exact⟨l,xs,e,st _ _ g,q⟩
  | own ds=>exact absurd hs.1 (by simp[JP])
  | od ks ds=>exact absurd hs.1 (by simp[JP])
  | ot ks ds=>exact absurd hs.1 (by simp[JP])
end
end LE

namespace L2
open PySem PySem.Spec PyProof.Rows PySem.Calls
section
variable{X:Cx}
end
end L2
namespace LE
open PySem L2 LR
noncomputable def lst?:Sl->Option (List D)
 | .bo ds=>some ds
 | .own ds=>some ds
 | .sh (.lst ds)=>some ds
 | _=>none
section
variable{K:Qz}{C:Qg}{to te:TE}{eo ea:Ev}{Hs H0 H:Hp}{v:V}
theorem RR.lst{s:Sl}{ds:List D}(i:Same H0 H)(r:RR K C Hs H0 H v s)(e:lst? s=some ds):∃l xs,v=.ref l/\H l=some (.lst xs)/\RDL K C H0 xs ds:=by
 cases s with
 | bo es=>cases e;exact r
 | own es=>cases e;obtain⟨l,xs,e,h,_,_,q⟩:=r;exact⟨l,xs,e,h,q⟩
 | sh d =>
  cases d with
  | lst es=>cases e;obtain⟨l,xs,e,h,q⟩:=RD.lstI r;exact⟨l,xs,e,i _ _ h,q⟩
  | _=>cases e
 | _=>cases e
end
end LE

namespace LE
open PySem L2 LR
section
variable{K:Qz}{C:Qg}
end
end LE

namespace PySem
abbrev Jl5(h:QP)(z TI TO a:Qg)(f:Bool):Prop :=
 h.get? z=some { cls:=.type "zip",dict:=none,data:=.fields #[rawInt a,.bool f,.bool false,.ref TI,.ref TO],slots:=#[] }
section
variable{prog:Qy}{w:QH}{A:QF}{E:Qe->Qh->Prop}{s:Qh}{z TI TO i1 i2 a:Qg}{f:Bool}{oa:Obj}{p1 p2:List Qg}{n1 n2 k:Nat}{P1 P2:Nat->Qe->Prop}{S1 S2:Nat->QP->Prop}
end
end PySem

namespace PySem
section
variable{prog:Qy}{w:QH}{A:QF}{E:Qe->Qh->Prop}{s:Qh}{b1 b2:Bool}{a1 a2 z TI TO i1 i2 S:Qg}{xs ys:Array Qe}{i:Nat}
def LzSt(b1 b2:Bool)(a1 a2 z TI TO i1 i2 S:Qg)(xs ys:Array Qe)(i:Nat)(h:QP):Prop :=
 IsPair h TI (.ref i1) (.ref i2)/\(IsItr b1 h i1 a1 i/\IsSq b1 h a1 xs)/\(IsItr b2 h i2 a2 i/\IsSq b2 h a2 ys) ∧
 ((IsZip h z TI TO .none/\∃u v,IsPair h TO u v)\/∃a f oa,Jl5 h z TI TO a f/\h.get? a=some oa/\a≠S/\a≠z/\a≠i1/\a≠i2)
theorem IsSq.keep{b:Bool}{h h':QP}{a:Qg}{xs:Array Qe}(q:IsSq b h a xs)(k:∀o,h.get? a=some o->h'.get? a=some o):IsSq b h' a xs:=by
 cases b with
 | true=>obtain⟨o,e,r⟩:=q;exact⟨o,k o e,r⟩
 | false=>obtain⟨o,e,r⟩:=q;exact⟨o,k o e,r⟩
theorem IsItr.keep'{b:Bool}{h h':QP}{j a:Qg}{i:Nat}(q:IsItr b h j a i)(k:∀o,h.get? j=some o->h'.get? j=some o):IsItr b h' j a i:=by
 cases b with
 | true=>obtain⟨o,e,r⟩:=q;exact⟨o,k o e,r⟩
 | false=>obtain⟨o,e,r⟩:=q;exact⟨o,k o e,r⟩
theorem LzSt.keep{h h':QP}(x:LzSt b1 b2 a1 a2 z TI TO i1 i2 S xs ys i h)(k:∀b o,b≠S->h.get? b=some o->h'.get? b=some o)(n:S∉[z,TI,TO,i1,i2,a1,a2]):LzSt b1 b2 a1 a2 z TI TO i1 i2 S xs ys i h':=by
 simp only[Qj,Gh,or_false,not_or] at n;obtain⟨n1,n2,n3,n4,n5,n6,n7⟩:=n;obtain⟨x1,x2,x3,x4⟩:=x;refine⟨k _ _ (Q2 n2) x1,⟨IsItr.keep' x2.1 fun o e=>k _ o (Q2 n4) e,IsSq.keep x2.2 fun o e=>k _ o (Q2 n6) e⟩,⟨IsItr.keep' x3.1 fun o e=>k _ o (Q2 n5) e,IsSq.keep x3.2 fun o e=>k _ o (Q2 n7) e⟩,?_⟩;rcases x4 with ⟨y1,u,v,y2⟩|⟨a,f,oa,y1,y2,y3⟩
 ·exact .inl ⟨k _ _ (Q2 n1) y1,u,v,k _ _ (Q2 n3) y2⟩
 ·exact .inr ⟨a,f,oa,k _ _ (Q2 n1) y1,k _ _ y3.1 y2,y3⟩
end
structure LzG (xs ys:Array Qe) (lo:Qg) (h:QP) (as:List Qg):Prop where
 rise:as.Pairwise (·<·)
 above:∀a∈as,lo<a
 pairs:∀(j:Nat) (a:Qg),as[j]?=some a->∃u v,xs[j]?=some u/\ys[j]?=some v/\IsPair h a u v
theorem LzG.there{xs ys:Array Qe}{lo:Qg}{h:QP}{as:List Qg}(g:LzG xs ys lo h as){a:Qg}(ha:a∈as):a<h.objs.size:=by obtain⟨j,hj⟩:=Gr.mp ha;obtain⟨_,_,_,_,e⟩:=g.pairs j a hj;exact Qq e
section
variable{prog:Qy}{w:QH}{A:QF}{s:Qh}{R:M7->Qh->Prop}{b1 b2:Bool}{a1 a2 z TI TO i1 i2 S:Qg}{xs ys:Array Qe}
end
end PySem

namespace PySem
open PySem.Calls PyProof.Rows PyProof.V PySem.Spec
section
variable{prog:Qy}{w:QH}{A:QF}{E:Qe->Qh->Prop}{s:Qh}{b1 b2:Bool}{a1 a2 z TI TO i1 i2:Qg}{xs ys:Array Qe}
end
end PySem

namespace L2
open PySem PySem.Spec PyProof.Rows
end L2

namespace LE
open PySem L2 LR
section
variable{K:Qz}{C:Qg}
end
end LE

namespace L2
open PySem PySem.Spec PyProof.Rows
section
variable{X:Cx}{pins:List (Qg×Obj)}{σ:St}{H:Hp}{s:Qh}{a:Qg}{kvs:List (Key×V)}{k:Key}{z:V}{u r:Qe}{A:QF}{E:Qe->Qh->Prop}
end
section
variable{X:Cx}{o e f:Q6}{apos cpos:Pos}{td ty tx:TE}
end
end L2
namespace LE
open PySem L2 LR
section
variable(K:Qz)(C:Qg)(j:Nat)
noncomputable def Left(σ:St)(E:En)(σ':St)(E':En):Prop:=σ'[j]?=σ[j]?/\∀(i:Nat) (s:Sl),E'[i]?=some s->JP s=true->E[i]?=some s/\σ'[i]?=σ[i]?
end
section
variable{K:Qz}{C:Qg}{j:Nat}
theorem Left.refl(σ:St)(E:En):Left j σ E σ E:=⟨rfl,fun _ _ e _=>⟨e,rfl⟩⟩
theorem Left.trans{σ σ1 σ2:St}{E E1 E2:En}(a:Left j σ E σ1 E1)(b:Left j σ1 E1 σ2 E2):Left j σ E σ2 E2 :=
 ⟨b.1.trans a.1,fun i s e o=>by obtain⟨h1,h2⟩:=b.2 i s e o;obtain⟨h3,h4⟩:=a.2 i s h1 o;exact⟨h3,h2.trans h4⟩⟩
end
end LE

namespace LE
open PySem L2 LR
section
variable(K:Qz)(C:Qg)
structure Grp (B H0 H:Hp) (σ:St) (E:En) (j c:Nat) (ks:List Int) (dss:List (List D)) (l:Qg) (ls:List Qg):Prop where
 at':σ[j]?=some (some (.ref l))
 dict:H l=some (dkO ks (ls.map V.ref))
 l0:H0 l=none
 lb:B l=none
 len:ks.length=ls.length
 len2:dss.length=ls.length
 cnt:ks.length<=c
 lists:∀(m:Nat) (a:Qg) (ds:List D),ls[m]?=some a->dss[m]?=some ds->ds.length<=c/\∃xs,H a=some (.lst xs)/\H0 a=none/\B a=none/\RDL K C H0 xs ds
 nd:(l::ls).Nodup
 own:∀(i:Nat) (s:Sl) (a:Qg),E[i]?=some s->JP s=true->σ[i]?=some (some (.ref a))->a∉l::ls
end
section
variable{K:Qz}{C:Qg}{B H0 H H0' H':Hp}{σ σ':St}{E E':En}{j c:Nat}{ks:List Int}{dss:List (List D)}{l:Qg}{ls:List Qg}
theorem Grp.there(g:Grp K C B H0 H σ E j c ks dss l ls){a:Qg}(ha:a∈l::ls):∃o,H a=some o/\isT o=false/\H0 a=none/\B a=none:=by
 rcases Qj.mp ha with z|z
 ·subst z;exact⟨_,g.dict,rfl,g.l0,g.lb⟩
 ·obtain⟨m,hm⟩:=Gr.mp z;have hl:m<dss.length:=by rw[g.len2];exact(Qk.mp hm).1
  obtain⟨_,xs,h1,h2,h3,_⟩:=g.lists m a dss[m] hm (QM hl);exact⟨_,h1,rfl,h2,h3⟩
theorem Grp.off(g:Grp K C B H0 H σ E j c ks dss l ls)(st:Step H H0 H H0' H'){a:Qg}(ha:a∈l::ls):H0' a=none:=by
 obtain⟨o,h1,h2,h3,_⟩:=g.there ha
 cases z:H0' a with
 | none=>rfl
 | some u =>
  rcases st.n a u z with y|y|y
  ·rw[h3] at y;cases y
  ·rw[h1] at y;cases y
  ·have:=st.i a u z;rw[st.h a o h1] at this;cases this;rw[h2] at y;cases y
theorem Grp.step(g:Grp K C B H0 H σ E j c ks dss l ls)(st:Step H H0 H H0' H'):Grp K C B H0' H' σ E j c ks dss l ls :=
 ⟨g.at',st.h _ _ g.dict,g.off st Qf,g.lb,g.len,g.len2,g.cnt,fun m a ds e1 e2=>by obtain⟨h0,xs,h1,h2,h3,h4⟩:=g.lists m a ds e1 e2;exact⟨h0,xs,st.h _ _ h1,g.off st (Qc _ (QX e1)),h3,h4.mono st.z⟩,g.nd,g.own⟩
theorem Grp.left(g:Grp K C B H0 H σ E j c ks dss l ls)(f:Left j σ E σ' E'):Grp K C B H0 H σ' E' j c ks dss l ls :=
 ⟨f.1.trans g.at',g.dict,g.l0,g.lb,g.len,g.len2,g.cnt,g.lists,g.nd,fun i s a e o q=>by obtain⟨h1,h2⟩:=f.2 i s e o;exact g.own i s a h1 o (by rw[<- h2];exact q)⟩
theorem Grp.free(g:Grp K C B H0 H σ E j c ks dss l ls){a:Qg}(ha:a∈l::ls):∀(i:Nat) (s:Sl),E[i]?=some s->JP s=true->σ[i]?≠some (some (.ref a)):=fun i s e o q=>g.own i s a e o q ha
theorem EnvR.fresh(I:EnvR K C B H0 H σ E){p:Qg}(hp:H p=none):∀(i:Nat) (s:Sl),E[i]?=some s->JP s=true->σ[i]?≠some (some (.ref p)):=fun i s e o q=>by
 rcases I.at' i s e with z|⟨v,q1,q2⟩
 ·subst z;cases o
 ·rw[q1] at q;cases q
  cases s with
  | own es=>obtain⟨l',ys,p1,p2,_⟩:=q2;cases p1;rw[hp] at p2;cases p2
  | od ks es=>obtain⟨l',ys,p1,p2,_⟩:=q2;cases p1;rw[hp] at p2;cases p2
  | ot ks es=>obtain⟨l',ys,p1,p2,_⟩:=q2;cases p1;rw[hp] at p2;cases p2
  | _=>cases o
end
end LE

namespace LE
open PySem L2 LR
section
variable{K:Qz}{C:Qg}{B H0 H H0' H':Hp}{σ σ':St}{E E':En}{j c:Nat}{ks:List Int}{dss:List (List D)}{l:Qg}{ls:List Qg}
noncomputable def Jgh(H0 H:Hp)(ls:List Qg):Hp:=fun a=>if a∈ls then H a else H0 a
theorem JaE{Hz:Hp}:∀{ls:List Qg} {dss:List (List D)},dss.length=ls.length->(∀(m:Nat) (a:Qg) (ds:List D),ls[m]?=some a->dss[m]?=some ds->∃xs,Hz a=some (.lst xs)/\RDL K C Hz xs ds)->RDL K C Hz (ls.map V.ref) (dss.map .lst)
 | [],[],_,_=>.nil
 | [],_::_,h,_=>by simp at h
 | _::_,[],h,_=>by simp at h
 | a::ls,ds::dss,h,f=>by obtain⟨xs,h1,h2⟩:=f 0 a ds rfl rfl;exact .cons (.mkL h1 h2) (JaE (by simpa using h) fun m a ds e1 e2=>f (m+1) a ds (by simpa using e1) (by simpa using e2))
theorem Grp.done(I:EnvR K C B H0 H σ E)(g:Grp K C B H0 H σ E j c ks dss l ls)(hj:j<E.length):SStep B H0 (Jgh H0 H ls) H/\EnvR K C B (Jgh H0 H ls) H σ (E.set j (.od ks (dss.map .lst))):=by
 have out:∀{a:Qg},a∉ls->Jgh H0 H ls a=H0 a:=fun {a} h=>if_neg h
 have inn:∀{a:Qg},a∈ls->Jgh H0 H ls a=H a:=fun {a} h=>if_pos h
 have z:Same H0 (Jgh H0 H ls):=fun a o e=>by
  by_cases c:a∈ls
  ·rw[inn c];exact I.h a o e
  ·rw[out c];exact e
 have i:Same (Jgh H0 H ls) H:=fun a o e=>by
  by_cases c:a∈ls
  ·rw[inn c] at e;exact e
  ·rw[out c] at e;exact I.h a o e
 have ln:l∉ls:=(Gk.mp g.nd).1;refine⟨⟨I.b,z,fun a o e=>?_,i⟩,I.b,i,by simp[I.len],fun k s e=>?_,fun k m s t v hkm e1 e2 o1 o2 e3 e4=>?_,I.t⟩
 ·by_cases c:a∈ls
  ·exact .inr (.inl (g.there (Qc _ c)).choose_spec.2.2.2)
  ·rw[out c] at e;exact .inl e
 ·rw[Gg] at e
  by_cases c:j=k
  ·subst c;rw[if_pos rfl,if_pos hj] at e;have e':=Q0 e;subst e';refine .inr ⟨_,g.at',l,ls.map V.ref,rfl,g.dict,by rw[out ln];exact g.l0,g.lb,by rw[Qv,g.len2];exact g.len,JaE g.len2 fun m a ds q1 q2=>?_⟩;obtain⟨_,xs,h1,_,_,h4⟩:=g.lists m a ds q1 q2;exact⟨xs,by rw[inn (QX q1)];exact h1,h4.mono z⟩
  ·rw[if_neg c] at e;rcases I.at' k s e with y|⟨v,q1,q2⟩
   ·exact .inl y
   ·refine .inr ⟨v,q1,?_⟩
    cases s with
    | no=>trivial
    | sh d=>exact RD.mono z q2
    | bo es=>obtain⟨l',ys,p1,p2,p3⟩:=q2;exact⟨l',ys,p1,p2,p3.mono z⟩
    | bd ks es=>obtain⟨l',ys,p1,p2,p3,p4⟩:=q2;exact⟨l',ys,p1,p2,p3,p4.mono z⟩
    | bt ks es=>obtain⟨l',ys,p1,p2,p3,p4⟩:=q2;exact⟨l',ys,p1,p2,p3,p4.mono z⟩
    | own es=>obtain⟨l',ys,p1,p2,p3,p4,p5⟩:=q2;subst p1;have:=g.own k _ l' e rfl q1;exact⟨l',ys,rfl,p2,by rw[out fun m=>this (Qc _ m)];exact p3,p4,p5.mono z⟩
    | od ks es=>obtain⟨l',ys,p1,p2,p3,p4,p5,p6⟩:=q2;subst p1;have:=g.own k _ l' e rfl q1;exact⟨l',ys,rfl,p2,by rw[out fun m=>this (Qc _ m)];exact p3,p4,p5,p6.mono z⟩
    | ot ks es=>obtain⟨l',ys,p1,p2,p3,p4,p5,p6⟩:=q2;subst p1;have:=g.own k _ l' e rfl q1;exact⟨l',ys,rfl,p2,by rw[out fun m=>this (Qc _ m)];exact p3,p4,p5,p6.mono z⟩
 ·have get:∀(i:Nat) (s:Sl),(E.set j (Sl.od ks (dss.map .lst)))[i]?=some s->i=j\/(i≠j/\E[i]?=some s):=fun i s e=>by
   rw[Gg] at e
   by_cases c:j=i
   ·exact .inl c.symm
   ·rw[if_neg c] at e;exact .inr ⟨fun z=>c z.symm,e⟩
  rcases get k s e1 with y1|⟨n1,y1⟩
  ·subst y1;rcases get m t e2 with y2|⟨n2,y2⟩
   ·exact hkm y2.symm
   ·rw[g.at'] at e3;have e3':=Q0 (Q0 e3);subst e3';exact g.own m t l y2 o2 e4 Qf
  ·rcases get m t e2 with y2|⟨n2,y2⟩
   ·subst y2;rw[g.at'] at e4;have e4':=Q0 (Q0 e4);subst e4';exact g.own k s l y1 o1 e3 Qf
   ·exact I.sep k m s t v hkm y1 y2 o1 o2 e3 e4
end
end LE

namespace L2
open PySem PySem.Spec PyProof.Rows
noncomputable def Jav:List Int->List Int->Bool
 | [],_=>true
 | _::_,[]=>false
 | x::xs,y::ys=>if x=y then Jav xs ys else decide (x<=y)
theorem Za(x y:Int)(xs ys:List Int):Jav (x::xs) (y::ys)=if x=y then Jav xs ys else decide (x<=y):=rfl
section
open PySem.SeqAt
open PySem.AutoSeq1 (wpAny_loadPart')
open PySem.MeetsSeq PySem.MeetsSeq2 PySem.MeetsSeq3
end
section
variable{prog:Qy}{w:QH}{A:QF}{E:Qe->Qh->Prop}{s:Qh}
end
end L2
namespace LE
open PySem L2 LR
noncomputable def JqG:Sl->Sl->Option Sl
 | .sh (.tup ds),.sh (.tup es)=>(ints? ds).bind fun ns=>(ints? es).map fun ms=>.sh (.bl (Jav ns ms))
 | _,_=>none
section
variable{K:Qz}{C:Qg}
theorem JjV(a b c d:Int):JqG (.sh (.tup [.int a,.int b])) (.sh (.tup [.int c,.int d]))=some (.sh (.bl (if a=c then decide (b<=d) else decide (a<=c)))):=by
 show some (Sl.sh (.bl (Jav [a,b] [c,d])))=_;rw[Za];split
 ·rw[Za];split
  ·next h=>rw[h];simp[Jav]
  ·rfl
 ·rfl
end
end LE

namespace L2
open PySem PySem.Spec PyProof.Rows
section
open PySem.SeqAt
open PySem.AutoSeq1 (wpAny_loadPart')
open PySem.MeetsSeq PySem.MeetsSeq2 PySem.MeetsSeq3
end
section
variable{prog:Qy}{w:QH}{A:QF}{E:Qe->Qh->Prop}{s:Qh}
end
end L2
namespace LE
open PySem L2 LR
section
variable{K:Qz}{C:Qg}
end
end LE

namespace L2
open PySem PySem.Spec PyProof.Rows
end L2
namespace LE
open PySem L2 LR
noncomputable def UC(a:Int):Bool:=Nat.ble a.natAbs (10 ^ 200)
section
variable{K:Qz}{C:Qg}
end
end LE

namespace LE
open PySem L2 LR
section
variable{K:Qz}{C:Qg}{W:XK}{t:TA}{ev:En->Option (List Sl)}{ts us:TS}{x:Xv}{H:Hp}
end
end LE

namespace PySem
open PySem.Calls PyProof.Rows PyProof.V PySem.Spec
section
variable{prog:Qy}{w:QH}{A:QF}{E:Qe->Qh->Prop}{s:Qh}{r a:Qg}{xs:Array Qe}{n:Nat}
end
end PySem
namespace L2
open PySem PySem.Spec PyProof.Rows
end L2
namespace LE
open PySem L2 LR
section
variable{K:Qz}{C:Qg}
end
end LE

namespace L2
open PySem PySem.Spec PyProof.Rows PySem.Calls
section
variable{X:Cx}
end
end L2
namespace L2
open PySem PySem.Spec PyProof.Rows PySem.Calls
section
variable{X:Cx}{es:List Q6}{t:TA}{x:Str}{j:Nat}{p:Pos}
structure PSi (X:Cx) (st:G0) (ts:TS):Prop where
 out:PS X st ts
structure PSsi (X:Cx) (ss:List G0) (ts:TS):Prop where
 out:PSs X ss ts
end
end L2

namespace LE
open PySem L2 LR
noncomputable def JoY(ys:List Str)(r:En->Option (List Sl)):En->Option (List Sl):=fun E=>(r E).map fun ss=>ys.map (fun y=>.sh (.str y))++ss
section
variable{K:Qz}{C:Qg}{te:TE}{ea:Ev}{tl th:TO}{el eh:Option Ev}{m:Bool}
end
end LE

namespace L2
open PySem PySem.Spec PyProof.Rows PySem.Calls
section
variable{X:Cx}
end
end L2
namespace LE
open PySem L2 LR
section
variable{K:Qz}{C:Qg}{to te:TE}{eo ea:Ev}{Hs H0 H:Hp}{v:V}
end
end LE

namespace L2
open PySem PySem.Spec PyProof.Rows PySem.Calls
section
variable{X:Cx}
end
end L2
namespace LE
open PySem L2 LR
section
variable{K:Qz}{C:Qg}
end
end LE

namespace PySem
open AutoSeq1 (wpAny_loadPart')
section
variable{prog:Qy}{w:QH}{A:QF}{E:Qe->Qh->Prop}{s:Qh}
end
section
variable{prog:Qy}{w:QH}{A:QF}{E:Qe->Qh->Prop}{s:Qh}
end
section
variable{prog:Qy}{w:QH}{A:QF}{E:Qe->Qh->Prop}{s:Qh}{b:Bool}{a e it:Qg}{xs:Array Qe}
end
end PySem
namespace L2
open PySem PySem.Spec PyProof.Rows
end L2
namespace LE
open PySem L2 LR
section
variable{K:Qz}{C:Qg}{m:Bool}
end
end LE

namespace L2
open PySem PySem.Spec PyProof.Rows PySem.Calls
section
variable{X:Cx}{K:Qz}{e:Q6}{te:TE}{p2 pos:Pos}
end
end L2
namespace LE
open PySem L2 LR
section
variable{K:Qz}{C:Qg}{te:TE}{ea:Ev}
end
end LE

namespace LE
open PySem L2 LR
section
variable{K:Qz}{C:Qg}
end
end LE

namespace L2
open PySem PySem.Spec PyProof.Rows
structure Blk1 (X:Cx) (sc:Ln) (cl:List (Str×Qg)) (y:Str) (N':List Str) (imp:List (Option Nat)):Prop where
 clos:closureFor sc X.env=pure cl
 kind:sc.kind=.function
 cf:∀n,cellsFrom n sc.names cl=(y,n)::cl
 cf0:∀n,cellsFrom n sc.names []=[(y,n)]
 names:∀y∈sc.names,y.2=.local->sc.names.lookup y.1=some .local
 sub:∀p∈cl,X.env.cells.lookup p.1=some p.2
 has:∀z∈(relabel sc X.env).names,(z.2=.cell\/z.2=.free)->z.1=y\/(cl.lookup z.1).isSome=true
 len:imp.length=N'.length
 im:∀p∈imp.zip N',∀k,p.1=some k->p.2≠y/\X.N[k]?=some p.2/\(X.env.scope.names.lookup p.2=some .cell\/X.env.scope.names.lookup p.2=some .free)/\((relabel sc X.env).names.lookup p.2=some .cell\/(relabel sc X.env).names.lookup p.2=some .free)
section
variable{X:Cx}{tg iter elt:Q6}{ifs:List Q6}{sc:Ln}{cl:List (Str×Qg)}{y:Str}{N':List Str}{imp:List (Option Nat)}{pos:Pos}{wi:TI}{g:TG}{tt:TT}{te:TE}
theorem Blk1.subL(B:Blk1 X sc cl y N' imp):∀x c,cl.lookup x=some c->X.env.cells.lookup x=some c:=fun x c e=>B.sub (x,c) (Uu e)
end
end L2

namespace L2
open PySem PySem.W PyProof.Rows
structure Pm (p:Array Nat) (N:Nat):Prop where
 size:p.size=N
 low:∀a,a<N->p.getD a 0<N
 inj:∀a b,a<N->b<N->p.getD a 0=p.getD b 0->a=b
theorem Jni{l:List Nat}(nd:l.Nodup){a b:Nat}(h1:a<l.length)(h2:b<l.length)(e:l[a]=l[b]):a=b:=by
 rcases Nat.lt_trichotomy a b with c|c|c
 ·exact absurd e (GH.mp nd a b h1 h2 c)
 ·exact c
 ·exact absurd e.symm (GH.mp nd b a h2 h1 c)
theorem Pm.of{p:Array Nat}{N:Nat}(h:p.toList.Perm (QQ N)):Pm p N:=by
 have hz:p.size=N:=by have:=h.length_eq;simpa using this
 have get:∀a,a<N->p.toList[a]?=some (p.getD a 0):=fun a ha=>by rw[LJ,Array.getElem?_eq_getElem (by omega)];simp[Array.getD,show a<p.size by omega]
 refine⟨hz,fun a ha=>?_,fun a b ha hb e=>?_⟩
 ·have:=h.mem_iff.mp (QX (get a ha))
  simpa using this
 ·have nd:p.toList.Nodup:=h.nodup_iff.mpr List.nodup_range
  have ga:=get a ha
  have gb:=get b hb;rw[e] at ga;obtain⟨h1,e1⟩:=Qk.mp ga;obtain⟨h2,e2⟩:=Qk.mp gb;exact Jni nd h1 h2 (e1.trans e2.symm)
noncomputable def Asc(lt:Nat->Nat->Bool)(p:Array Nat)(m:Nat):Prop:=∀a b,a<b->b<m->lt (p.getD a 0) (p.getD b 0)=true
noncomputable def Dsc(lt:Nat->Nat->Bool)(p:Array Nat)(m:Nat):Prop:=∀a b,a<b->b<m->lt (p.getD b 0) (p.getD a 0)=true
section
variable{N:Nat}{lt:Nat->Nat->Bool}{cmp:Nat->Nat->(Bool->Qh->Prop)->Qh->Prop}{I:Qh->Prop}
noncomputable def Rt(N:Nat)(lt:Nat->Nat->Bool)(I:Qh->Prop)(cmp:Nat->Nat->(Bool->Qh->Prop)->Qh->Prop):Prop:=∀i j (C:Bool->Qh->Prop) s,I s->i<N->j<N->(∀s',I s'->C (lt i j) s')->cmp i j C s
theorem Jj4{p q:Array Nat}{a b:Nat}(h:p[a]?=q[b]?):p.getD a 0=q.getD b 0:=by rw[GN,GN,h]
theorem Jk3{p:Array Nat}(P:Pm p N){m:Nat}(hm:m<=N)(h:Dsc lt p m):Asc lt (kas_rev p 0 m) m:=by
 have g:∀k,k<m->(kas_rev p 0 m).getD k 0=p.getD (m-1-k) 0:=fun k hk=>Jj4 (by unfold kas_rev;rw[getElem?_mirror_all (by rw[P.size];exact hm) k];rw[if_pos ⟨by omega,hk⟩];congr 1;omega)
 intro a b ab hb;rw[g a (by omega),g b hb];exact h (m-1-b) (m-1-a) (by omega) (by omega)
theorem Zn{p:Array Nat}(h:p.toList.Perm (QQ N))(i j:Nat):(kas_rev p i j).toList.Perm (QQ N):=((mirror_perm p i j _).toList).trans h
end
end L2

namespace L2
open PySem PySem.W PyProof.Rows
section
variable{prog:Qy}{w:QH}{A:QF}{E:Qe->Qh->Prop}{s:Qh}
theorem Jf0{lt:Nat->Nat->Bool}{p:Array Nat}{N:Nat}(h:N<2):Asc lt p N:=fun a b h1 h2=>by omega
theorem JiK(vs:List Qe):(QQ vs.length).map (fun i=>vs.getD i Value.none)=vs:=by
 refine Ga fun i=>?_
 rw[Qm]
 by_cases h:i<vs.length
 ·rw[List.getElem?_range h,Kz,QM h];simp[h]
 ·rw[Gj (by simpa using h),Gj (by omega)];rfl
end
end L2

namespace L2
open PySem PySem.W PyProof.Rows
noncomputable abbrev PrI:=Int×Int
noncomputable def Jbk(p q:PrI):Bool:=if p.1=q.1 then decide (p.2<q.2) else decide (p.1<q.1)
noncomputable def TupP(h:QP)(v:Qe)(p:PrI):Prop:=∃a o n t u,v=.ref a/\h.get? a=some o/\o.cls=.type "tuple"/\o.data=.seq #[.int p.1 t,.int p.2 u] n
section
variable{prog:Qy}{w:QH}{A:QF}{E:Qe->Qh->Prop}{s:Qh}
theorem TupP.off{h h1:QP}{a:Qg}{vs:Array Qe}{n:Nat}{v:Qe}{p:PrI}(ho:h.get? a=some (seqObj "list" vs n))(keep:∀b ob,b≠a->h.get? b=some ob->h1.get? b=some ob)(t:TupP h v p):TupP h1 v p:=by obtain⟨b,o,m,t,u,rfl,hb,hc,hd⟩:=t;refine⟨b,o,m,t,u,rfl,keep b o (fun e=>?_) hb,hc,hd⟩;subst e;rw[ho] at hb;cases hb;have z:(Value.type "list":Qe)=.type "tuple":=hc;exact absurd z (by decide)
end
end L2

namespace L2
open PySem PySem.Spec PySem.W PyProof.Rows
section
variable{prog:Qy}{w:QH}{A:QF}{E:Qe->Qh->Prop}{s:Qh}
end
section
variable{X:Cx}
theorem JgW{vs:List V}{us:List Qe}(r:Vals vs us)(p:List Nat)(h:∀i∈p,i<vs.length):Vals (p.map fun i=>vs.getD i .non) (p.map fun i=>us.getD i Value.none):=by
 induction p with
 | nil=>exact .nil
 | cons i p ih =>
  have hi:=h i Qf;refine .cons ?_ (ih fun j hj=>h j (Qc _ hj));obtain⟨u,hu,rel⟩:=r.get (QM hi)
  have e1:vs.getD i .non=vs[i]:=by simp[hi]
  have e2:us.getD i Value.none=u:=by rw[Ge,hu];rfl
  show RelV (vs.getD i .non) (us.getD i Value.none);rw[e1,e2];exact rel
end
end L2

namespace L2
open PySem PySem.Spec PySem.W PyProof.Rows
noncomputable def RawD(h:QP)(d:Qg)(es:Array DictEntry)(ep:Nat):Prop:=∃o,h.get? d=some o/\o.ExactDict/\o.data=.dict es ep
section
variable{prog:Qy}{w:QH}{A:QF}{E:Qe->Qh->Prop}{s:Qh}{it d v:Qg}{i ep:Nat}{es:Array DictEntry}
theorem RawD.at{h h':QP}(x:RawD h d es ep)(e:∀o,h.get? d=some o->h'.get? d=some o):RawD h' d es ep:=let ⟨o,ho,r⟩:=x;⟨o,e _ ho,r⟩
theorem RawD.lt{h:QP}(x:RawD h d es ep):d<h.objs.size:=let ⟨_,ho,_⟩:=x;Qq ho
end
end L2

namespace L2
open PySem PySem.Spec PySem.W PyProof.Rows
theorem Jcq(a b:PrI):Jbk a b=true↔a.1<b.1\/(a.1=b.1/\a.2<b.2):=by
 unfold Jbk
 by_cases e:a.1=b.1
 ·rw[if_pos e,decide_eq_true_iff];exact⟨fun h=>.inr ⟨e,h⟩,fun h=>h.elim (fun x=>by omega) fun x=>x.2⟩
 ·rw[if_neg e,decide_eq_true_iff];exact⟨fun h=>.inl h,fun h=>h.elim id fun x=>absurd x.1 e⟩
theorem JdN{a b c:PrI}(h:Jbk a b=true)(k:Jbk b c=true):Jbk a c=true:=by rw[Jcq] at *;omega
theorem Jh0(a:PrI):Jbk a a=false:=by
 cases h:Jbk a a with
 | false=>rfl
 | true=>rw[Jcq] at h;omega
theorem asc_uniq:∀{a b:List PrI},a.Perm b->a.Pairwise (fun a b=>Jbk a b=true)->b.Pairwise (fun a b=>Jbk a b=true)->a=b
 | [],b,h,_,_=>(List.nil_perm.mp h).symm
 | x::a,[],h,_,_=>absurd h.length_eq (by simp)
 | x::a,y::b,h,ha,hb=>by
  have hx:=QO.mp ha
  have hy:=QO.mp hb
  have e:x=y:=by
   rcases Qj.mp (h.mem_iff.mp Qf) with e|e
   ·exact e
   ·rcases Qj.mp (h.mem_iff.mpr Qf) with e'|e'
    ·exact e'.symm
    ·have:=JdN (hx.1 y e') (hy.1 x e);rw[Jh0] at this;cases this
  subst e;rw[asc_uniq (Rq h) hx.2 hy.2]
noncomputable abbrev pk(p:PrI):List Key:=LE.dtK p
theorem KT.get{H:Hp}:∀{kvs:List (List Key×V)} {xs:List (List Key×Qg×Qe)},KT H kvs xs->kvs.length=xs.length/\∀(i:Nat) (k:List Key×V) (x:List Key×Qg×Qe),kvs[i]?=some k->xs[i]?=some x->k.1=x.1/\H x.2.1=some (.tup (k.1.map kV))
 | _,_,.nil=>⟨rfl,fun i k x e=>by simp at e⟩
 | _,_,.cons h t=>by
  obtain⟨h1,h2⟩:=KT.get t;refine⟨by simp[h1],fun i k x e1 e2=>?_⟩
  cases i with
  | zero=>simp at e1 e2;subst e1 e2;exact⟨h.1,h.2.1⟩
  | succ i=>exact h2 i k x (by simpa using e1) (by simpa using e2)
end L2

namespace L2
open PySem PySem.Spec PySem.W PyProof.Rows
end L2
namespace LE
open PySem L2 LR
section
variable{K:Qz}{C:Qg}{Hs H0 H:Hp}
end
noncomputable def Sl.dt:Sl->Option (List (Int×Int)×List D)
 | .bt ks ds=>some (ks,ds)
 | .ot ks ds=>some (ks,ds)
 | _=>none
noncomputable def pr?:Sl->Option (Int×Int)
 | .sh (.tup [.int a,.int b])=>some (a,b)
 | _=>none
section
variable{K:Qz}{C:Qg}{Hs H0 H:Hp}{td ty te tk1 tk2:TE}{ed ek ea k1 k2:Ev}
theorem RR.dt{v:V}{s:Sl}{p:List (Int×Int)×List D}(r:RR K C Hs H0 H v s)(e:s.dt=some p):∃l xs,v=.ref l/\H l=some (dtO p.1 xs)/\p.1.length=p.2.length/\RDL K C H0 xs p.2:=by
 cases s with
 | bt ks ds=>cases e;exact r
 | ot ks ds=>cases e;obtain⟨l,xs,h1,h2,_,_,h3⟩:=r;exact⟨l,xs,h1,h2,h3⟩
 | _=>cases e
noncomputable def Jpk:List Sl->Option (Int×Int)
 | [.sh (.int a),.sh (.int b)]=>some (a,b)
 | _=>none
end
end LE

namespace LE
open PySem L2 LR
section
variable{K:Qz}{C:Qg}
theorem RDL.eraseIdx{H:Hp}:∀{xs:List V} {ds:List D} (k:Nat),RDL K C H xs ds->RDL K C H (xs.eraseIdx k) (ds.eraseIdx k)
 | [],[],_,h=>by simpa using h
 | [],_::_,_,h=>by have:=h.1;simp at this
 | _::_,[],_,h=>by have:=h.1;simp at this
 | x::xs,d::ds,0,h=>by simpa using h.tail
 | x::xs,d::ds,k+1,h=>by rw[LB,LB];exact .cons h.head (RDL.eraseIdx k h.tail)
end
end LE

namespace LE
open PySem L2 LR
section
variable{X:Cx}
end
section
variable{K:Qz}{C:Qg}
end
end LE

namespace L2
open PySem
noncomputable def Ris(xs:Array Nat):Prop:=xs.toList.Pairwise (·<·)
theorem Ris.lt{xs:Array Nat}(r:Ris xs){i j:Nat}(h:i<j)(hj:j<xs.size):xs[i]'(by omega)<xs[j]:=by
 have:=GH.mp r i j (by simp;omega) (by simpa using hj) h
 simpa using this
noncomputable def TOk(led:Bool)(t:SetTable):Prop:=(t.plain=true->Ris t.place)/\t.led=led
end L2

namespace L2
open PySem PyProof.Rows
structure SetS (prog:Qy) (w:QH) (led:Bool) (h:QP) (a:Qg) (S:Int->Bool) (n:Nat) (o:Obj) (es:Array (Int×Qe)) (ep:Nat) (t:SetTable):Prop where
 got:h.get? a=some o
 ex:o.ExactSet
 data:o.data=.set es ep t
 els:ElemsOf (intKind prog w) es.toList
 mem:∀k,S k=true↔∃e∈es.toList,(intKind prog w).is k e.2=true
 few:es.size<scanBound
 fits:t.fits es.size=true
 size:es.size=n
 tok:TOk led t
noncomputable def SetL(prog:Qy)(w:QH)(led:Bool)(h:QP)(a:Qg)(S:Int->Bool)(n:Nat):Prop:=∃o es ep t,SetS prog w led h a S n o es ep t
section
variable{prog:Qy}{w:QH}{A:QF}{E:Qe->Qh->Prop}{s:Qh}{led:Bool}{a:Qg}{S:Int->Bool}{n:Nat}
theorem SetL.as{h:QP}{S':Int->Bool}{n':Nat}(x:SetL prog w led h a S n)(e:∀k,S k=S' k)(en:n=n'):SetL prog w led h a S' n':=by have:S=S':=funext e;subst this en;exact x
end
section
variable{prog:Qy}{w:QH}{A:QF}{R:M7->Qh->Prop}{I:Qg}{fp wr:List Qg}{G:Array GenState->Array GenState->Prop}{n:Nat}{P:Nat->Qe->Prop}{St:Nat->Qh->Prop}
end
end L2

namespace L2
open PySem PyProof.Rows
section
variable{prog:Qy}{w:QH}{A:QF}{E:Qe->Qh->Prop}{s:Qh}
end
end L2

namespace L2
open PySem PyProof.Rows PySem.W
end L2

namespace L2
open PySem PyProof.Rows PySem.W
noncomputable def SIt(h:QP)(I d:Qg)(f:Qe)(i n ep:Nat):Prop:=∃o,h.get? I=some o/\o.cls=.type "set_iterator"/\o.data=.fields #[f,.int i 0,.ref d,.int n 0,.int ep 0]
section
variable{prog:Qy}{w:QH}{A:QF}{E:Qe->Qh->Prop}{s:Qh}{I d:Qg}{f:Qe}{i n ep:Nat}{es:Array (Int×Qe)}{t:SetTable}{o:Obj}
theorem SIt.type{s:Qh}(x:SIt s.heap I d f i n ep):s.TypeIs (.ref I) "set_iterator":=let ⟨o,ho,hc,_⟩:=x;⟨o,ho,hc⟩
theorem SIt.at{h h':QP}(x:SIt h I d f i n ep)(e:∀o,h.get? I=some o->h'.get? I=some o):SIt h' I d f i n ep:=let ⟨o,ho,r⟩:=x;⟨o,e _ ho,r⟩
noncomputable def SHas(h:QP)(d:Qg)(es:Array (Int×Qe))(ep:Nat)(t:SetTable):Prop:=∃o,h.get? d=some o/\o.ExactSet/\o.data=.set es ep t
theorem SHas.at{h h':QP}(x:SHas h d es ep t)(e:∀o,h.get? d=some o->h'.get? d=some o):SHas h' d es ep t:=let ⟨o,ho,r⟩:=x;⟨o,e _ ho,r⟩
end
end L2

namespace L2
open PySem PyProof.Rows PySem.W PySem.Spec
section
variable{prog:Qy}{w:QH}{A:QF}{E:Qe->Qh->Prop}{s:Qh}{d:Qg}{ep:Nat}{es:Array (Int×Qe)}{t:SetTable}
end
noncomputable def fM(ns:List Int):List Int:=firstMet (fun i=>ns.getD i 0) ns.length
theorem JeP(ns:List Int):fM ns=ns.foldl step_dedup []:=by
 unfold fM firstMet;congr 1;refine MI (by simp) fun i h1 h2=>?_
 simp[Ge,h2]
theorem Jb5:∀(ns acc:List Int),acc.Nodup->(ns.foldl step_dedup acc).Nodup
 | [],acc,h=>h
 | n::ns,acc,h=>by
  rw[Q4];refine Jb5 ns _ ?_;unfold step_dedup;split
  ·exact h
  ·rename_i c;refine Mr.mpr ⟨h,by simp,fun a ha b hb=>?_⟩;rw[Gz] at hb;subst hb;intro e;subst e;exact c (Lh.mpr ⟨a,ha,by simp⟩)
theorem Jhl:∀(ns acc:List Int) (k:Int),k∈ns.foldl step_dedup acc↔k∈acc\/k∈ns
 | [],acc,k=>by simp
 | n::ns,acc,k=>by
  rw[Q4,Jhl ns];unfold step_dedup;split
  ·rename_i c;obtain⟨x,hx,e⟩:=Lh.mp c;have:x=n:=by simpa using e
   subst this;simp only[Qj];constructor
   ·exact fun h=>h.elim .inl fun h=>.inr (.inr h)
   ·rintro(h|h|h)
    ·exact .inl h
    ·exact .inl (h▸hx)
    ·exact .inr h
  ·simp only[GB,Qj,Gi,or_false,or_assoc]
theorem Jcc(ns:List Int):(fM ns).Nodup:=by rw[JeP];exact Jb5 ns [] List.nodup_nil
theorem JmD(ns:List Int)(k:Int):k∈fM ns↔k∈ns:=by rw[JeP,Jhl];simp
section
variable{X:Cx}
theorem PE.imp{e:Q6}{t1 t2:TE}(h:PE X e t1)(i:∀σ H Q,t2 σ H Q->t1 σ H Q):PE X e t2:=fun pins s σ H Q I x=>h pins s σ H Q I (i σ H Q x)
end
section
variable{X:Cx}{e:Q6}{te:TE}{p1 p2 q1 q2:Pos}
end
end L2

namespace LE
open PySem L2 LR
section
variable{K:Qz}{C:Qg}{td:TE}{ed:Ev}
end
end LE

namespace L2
open PySem PyProof.Rows PySem.W PySem.Spec
section
variable{X:Cx}
end
end L2
namespace LE
open PySem L2 LR
section
variable{K:Qz}{C:Qg}
end
end LE

namespace L2
open PySem PyProof.Rows PySem.W PySem.Spec
noncomputable def Jlu(i j:Int):Prop:=0<j/\j.natAbs<=10 ^ 200
theorem Jm6{j:Int}(h:j.natAbs<=10 ^ 200):j.natAbs.log2<9000:=by
 by_cases h0:j.natAbs=0
 ·rw[h0];decide +kernel
 ·have h1:j.natAbs.log2<1000:=by rw[Nat.log2_lt h0];exact Lv h (by decide +kernel)
  omega
theorem JcO{X:Cx}:OpR X (binaryOp .FloorDiv) (rI Jlu fun i j=>.int (i / j)):=opI fun i j _ _ _ _ _ hc q=>by have h1:(0:Int)<j:=hc.1;exact floordiv_int (by omega) (by rw[Me i (by omega)];exact q) (.inl (PyProof.noPylong_of_log2 (Jm6 hc.2)))
end L2
namespace LE
open PySem L2 LR
noncomputable abbrev JeO:=fIc (fun _ b=>decide (0<b) && UC b) fun a b=>.int (a / b)
section
variable{K:Qz}{C:Qg}
theorem Jnj:OpS K C (rI Jlu fun i j=>.int (i / j)) JeO:=Jkt (fun i j h=>by simp only[QL,UC,Lb,decide_eq_true_eq] at h;exact h) fun _ _ _=>.int _
end
theorem Jhw{a b:Int}(h:0<b/\b.natAbs<=10 ^ 200):JeO (.sh (.int a)) (.sh (.int b))=some (.sh (.int (a / b))):=by show(if (decide (0<b) && UC b)=true then _ else _)=_;rw[if_pos];rw[QL];exact⟨decide_eq_true h.1,Lb.mpr h.2⟩
end LE

namespace L2
open PySem PyProof.Rows PySem.W PySem.Spec
section
variable{prog:Qy}{w:QH}{A:QF}{E:Qe->Qh->Prop}{s:Qh}
end
section
variable{prog:Qy}{w:QH}{A:QF}{R:M7->Qh->Prop}{I:Qg}{fp wr:List Qg}{G:Array GenState->Array GenState->Prop}{n:Nat}{P:Nat->Qe->Prop}{St:Nat->Qh->Prop}
end
section
variable{prog:Qy}{w:QH}{A:QF}{E:Qe->Qh->Prop}{s:Qh}
end
end L2

namespace L2
open PySem PyProof.Rows PySem.W PySem.Spec
end L2
namespace LE
open PySem L2 LR
noncomputable def prs?:List D->Option (List PrI)
 | []=>some []
 | .tup [.int a,.int b]::r=>(prs? r).map ((a,b)::·)
 | _=>none
theorem JbA:∀ps:List PrI,prs? (ps.map prE)=some ps
 | []=>rfl
 | p::ps=>by show(prs? (ps.map prE)).map _=_;rw[JbA ps];rfl
theorem JcW:∀{ds:List D} {ps:List PrI},prs? ds=some ps->ds=ps.map prE
 | [],ps,e=>by cases e;rfl
 | d::ds,ps,e=>by
  unfold prs? at e;split at e
  ·rename_i h;cases h
  ·rename_i a b r h;cases h;obtain⟨qs,e1,rfl⟩:=map_some e;rw[JcW e1];rfl
  ·cases e
section
variable{K:Qz}{C:Qg}{td:TE}{ed:Ev}
end
end LE

namespace LE
open PySem L2 LR
noncomputable def ifB(f:Sl->Sl->Option Sl)(d:D)(ew:Ev)(a b:Es):Es:=fun E=>((ew E).bind fun s=>(f (.sh d) s).bind bool?).bind fun k=>if k=true then a E else b E
section
variable{K:Qz}{C:Qg}{r:R2}{f:Sl->Sl->Option Sl}{j:Nat}{ty tx tw:TE}{ek ev ew:Ev}{t u:TS}{et eu:Es}
end
end LE

namespace LE
open PySem L2 LR
section
variable{K:Qz}{C:Qg}{Hs H0 H:Hp}{td tx:TE}{ed ex:Ev}
end
end LE

namespace L2
open PySem PySem.Spec PyProof.Rows
end L2
namespace LE
open PySem L2 LR
section
variable{K:Qz}{C:Qg}{te:TE}{ea:Ev}
end
theorem Jkq{x y:Int}{α:Type}{r:α}(h:x.natAbs<=10 ^ 200/\y.natAbs<=10 ^ 200):(if (UC x && UC y)=true then some r else none)=some r:=by rw[if_pos];simp only[QL,UC,Lb];exact h
end LE

namespace LE
open PySem L2 LR
end LE

namespace L2
open PySem PySem.Spec PyProof.Rows
section
variable{X:Cx}{pos:Pos}
theorem pgN(i:Nat){x:Str}(hN:X.N.Nodup)(hi:X.N[i]?=some x:=by rfl)(hx:Loc X.env.scope x:=by exact Or.inl rfl)(hf:X.fn x=true\/X.env.scope.names.lookup x=some .local:=by exact Or.inr rfl):PG X (.Name x pos) (Vs i):=JA hN hi hx hf
theorem psN(i:Nat){x:Str}{e:Q6}{te:TE}{pos':Pos}(hN:X.N.Nodup)(he:PE X e te)(hi:X.N[i]?=some x:=by rfl)(hx:Loc X.env.scope x:=by exact Or.inl rfl)(hs:swapsWith e (some (.Name x pos')) pos.line X.env=pure false:=by rfl)(hf:X.fn x=true\/X.env.scope.names.lookup x=some .local:=by first|exact .inl rfl|exact .inr rfl|assumption):PS X (.Assign [.Name x pos'] e pos) (Jda te (Vs i)):=Jd6 hN hi hx he hs hf
theorem pxK(K:Qz){a b:Q6}{ta tb:TE}(ha:PE X a ta)(hb:PE X b tb)(hK:X.K=K:=by rfl)(hs:Jep b:=by exact fun _ _=>rfl):PE X (.Subscript a b pos) (tOp (rIx K) ta tb):=JlO (Jke hK) ha hb hs
theorem piK(K:Qz){tg l:Q6}{tl:TE}(hl:PE X l tl)(hK:X.K=K:=by rfl):PI X tg l (JdH K tl):=JkH hK hl
theorem hrM{j k:Nat}{A:QF}(r:Room k A)(h:j<=k:=by decide):Room j A:=r.mono h
end
end L2
namespace LE
open PySem PyProof.Rows L2 LR
structure PB (P:Qy) (w:QH) (base:QP):Prop where
section
variable{P:Qy}{w:QH}{K:Qz}{mg:Str->Option Qe}{base:QP}{x y q:Str}{st:G0}{f:Qg}{fd:QJ}{k:Nat}{ps:List Str}{sp:Sp}
theorem JD(Z:PB P w base)(F:Fun K x q st f fd)(o:FnOk P w K mg base CX0 k f fd ps sp)(m:mg y=some (.ref f))
 (h:∀(kV doc pm:Qe) (an:Option Qg) (cdv ct:Qe) (us:List Qe),us.length=ps.length->bindArgs (fnOf x q (Us st) (Ym st) (Jh st) .none kV doc pm an cdv ct) ⟨us,[]⟩=pure (ps.zip us)):Cal P w K mg base y k ps sp:=⟨f,fd,o,m,F.kp,F.binds h⟩
end
section
variable{P:Qy}{w:QH}{K:Qz}{C:Qg}{mg:Str->Option Qe}{base:QP}{x qual:Str}{st:G0}{f:Qg}{fd:QJ}{N ps:List Str}{k n:Nat}{b:Es}
theorem okE(F:Fun K x qual st f fd)(S:FnScope N ps (Jh st))(hn:n=ps.length)
 (hb:∀(cdv:Qe) (A:QF) (outer:List Env) (s:Qh) (H:Hp) (E:XK),Room k (A.deeper (envOfC qual (Jh st) s.heap.objs.size f cdv))->(A.deeper (envOfC qual (Jh st) s.heap.objs.size f cdv)).units+64<cLine ->
  ∃t,PSs (VQ CX0 P w K mg base N qual (Jh st) f cdv A outer s H E).nox (Ym st) t/\SS K C t b):FnOk P w K mg base CX0 (k+1) f fd ps (spE K C n (Yq N.length b)) :=
 F.ok S (fun vs H Q E h=>(JfF h).trans hn) fun cdv A outer s H vs Q E hr h=>(hb cdv A outer s H E hr hr.units).elim fun t q=>⟨t,q.1,JeT q.2 h⟩
end
end LE

namespace L2
open PySem PySem.Spec PyProof.Rows
end L2
namespace LE
open PySem L2 LR
section
variable{K:Qz}{C:Qg}{te:TE}{ea:Ev}
end
theorem Jju{y:Int}{α:Type}{r:α}(h:0<y/\y.natAbs<=10 ^ 200):(if (decide (0<y) && UC y)=true then some r else none)=some r:=by rw[if_pos];simp only[QL,UC,Lb,decide_eq_true_eq];exact h
end LE

namespace L2
open PySem PySem.Spec PyProof.Rows
end L2
namespace LE
open PySem L2 LR
section
variable{K:Qz}{C:Qg}{td:TE}{ed:Ev}
end
end LE

namespace LE
open PySem L2 LR
section
variable{K:Qz}{C:Qg}{W:XK}{t:TS}{a b:Xv}
end
end LE

namespace L2
open PySem PySem.Spec PyProof.Rows PySem.Calls Builtin Builtin.ObjectAttr
section
variable{prog:Qy}{w:QH}{A:QF}{E:Qe->Qh->Prop}{h:QP}{g:Array GenState}{d:Drawn}{t:Nat}{os:OsState}
variable{nm q:Str}{C N:Qg}{bs bm bmB:List Qe}{hdct:Bool}{sn:List Str}{sub:List Qe}{ab:Bool}{col:Option Bool}{dd:Option Qg}{k0 k1 k2 k3 k5:Option Qe}{B Bn newId nid initId inN:String}{bmN:List Qe}
end
end L2
namespace L2
open PySem PySem.Spec PyProof.Rows PySem.Calls Builtin Builtin.ObjectAttr
noncomputable abbrev VEt:List Qe:=[.type "ValueError",.type "Exception",.type "BaseException",.type "object"]
noncomputable def JmN:Qe->Bool
 | .ref _=>true
 | _=>false
noncomputable def JpA(K:Qz)(C:Qg):Bool:=(PySem.W.clsIn K C).any fun cd=>cd.mro.dropWhile JmN == VEt && cd.hasDict
section
variable{prog:Qy}{w:QH}{A:QF}{R:M7->Qh->Prop}{s:Qh}{K:Qz}{x C:Qg}{ox:Obj}{name:Str}{tk:Tok}{v:Qe}
end
end L2
namespace L2
open PySem PySem.Spec PyProof.Rows PySem.Calls Builtin Builtin.ObjectAttr
section
variable{prog:Qy}{w:QH}{A:QF}{E:Qe->Qh->Prop}{s:Qh}{K:Qz}{x C:Qg}{ox:Obj}{name:Str}{v:Qe}
end
section
variable{M:Model}{A:QF}{E:Qe->Qh->Prop}{s:Qh}{env:Env}
variable{nm q:Str}{C N:Qg}{bs bm bmB:List Qe}{hdct:Bool}{sn:List Str}{sub:List Qe}{ab:Bool}{col:Option Bool}{dd:Option Qg}{k0 k1 k2 k3 k5:Option Qe}{B Bn newId nid initId inN:String}{bmN:List Qe}
end
section
variable{prog:Qy}{w:QH}{A:QF}{E:Qe->Qh->Prop}{s:Qh}{env:Env}
variable{nm q:Str}{C N:Qg}{bs bm bmB:List Qe}{hdct:Bool}{sn:List Str}{sub:List Qe}{ab:Bool}{col:Option Bool}{dd:Option Qg}{k0 k1 k2 k3 k5:Option Qe}{B Bn newId nid initId inN:String}{bmN:List Qe}
end
end L2

namespace L2
open PySem PySem.Spec PyProof.Rows PySem.Calls LE
noncomputable def Jo8(K:Qz)(C f:Qg):Bool:=match K.lookup C with
 | some ⟨.type "type",_,.cls cd,sl⟩=>(match cd.mro,sl.toList with
  | .ref C'::bm,[_,_,_,_,some (.builtin n),_]=>C' == C && n == "ValueError.__new__" && !cd.hasDel && PySem.W.tailIn K VEm bm && PySem.W.nsOkIn K cd.ns && nsIn K cd.ns "__init__" == some (some (.ref f))
  | _,_=>false)
 | _=>false
noncomputable def XN(a C:Qg)(d:Option Qg):HO:=.ext fun h=>∃o t0,h.get? a=some o/\o.cls=.ref C/\o.dict=d/\o.data=.fields #[.ref t0,.none,.none,.none,.bool false,.none]
noncomputable def Jqd(C:Qg):Sp:=fun vs H Q _=>∃a k,vs=[.ref a,.int k]/\k.natAbs.log2<1920/\H a=some (XN a C none)/\∀D,D≠a->H D=none->Q .non (upd (upd H a (XN a C (some D))) D (.xd [("at",.int k)]))
section
variable{X:Cx}
end
end L2
namespace L2
open PySem PySem.Spec PyProof.Rows PySem.Calls LE
structure IniC (K:Qz) (C f B:Qg):Prop where
 ok:Jo8 K C f=true
 fn:isFn K (.ref f)=true
 ov:JpA K C=true
 mo:mroIn K C (.type "object")=some true
 tk:takerIn K C "at"=some none
 sa:findIn K (.ref C) "__setattr__"=some (some (.builtin "object.__setattr__"))
 rd:PySem.W.readsIn K B (.type "type")=true
 fc:PySem.W.findCls K (.ref B) (.type "type") "__init__"=some (.val (.builtin "ValueError.__init__"))
 ga:specialIn K (.ref B) "__getattribute__"=some (some (.builtin "type.__getattribute__"))
section
variable{X:Cx}{C f B:Qg}
end
end L2

namespace L2
open PySem PySem.Spec PyProof.Rows PySem.Calls LE
section
variable{X:Cx}{pins:List (Qg×Obj)}{σ:St}{H:Hp}{s:Qh}{C e:Qg}{h':QP}{args:List Qe}
end
section
variable{X:Cx}{x:Str}{np cpos pos:Pos}{C f B:Qg}{fd:QJ}{E:XK}{e:Q6}{te:TE}{k:Nat}{ps:List Str}
end
end L2

namespace L2
open PySem PySem.Spec PyProof.Rows PySem.Calls LE
structure AtA (K:Qz) (c:Qg):Prop where
 ga:findIn K (.ref c) "__getattribute__"=some (some (.builtin "BaseException.__getattribute__"))
 gn:findIn K (.ref c) "__getattr__"=some none
 mb:mroIn K c (.type "BaseException")=some true
 hd:hasDictIn K c=true
 fa:findIn K (.ref c) "at"=some none
section
variable{X:Cx}{e:Q6}{te:TE}{pos:Pos}{K:Qz}
end
structure RaiF (P:Qy) (w:QH) (K:Qz) (mg:Str->Option Qe) (base:QP) (x:Str) (C:Qg) (k:Nat):Prop where
 ex:∃(f B:Qg) (fd:QJ) (ps:List Str),IniC K C f B/\FnOk P w K mg base CX0 k f fd ps (Jqd C)/\Binds K fd ps []/\mg x=some (.ref C)
end L2
namespace LE
open PySem L2 LR
section
variable{K:Qz}{C:Qg}{te:TE}{ea:Ev}{W:XK}
end
end LE

namespace PySem
end PySem
namespace L2
open PySem PySem.Spec PyProof.Rows
end L2
namespace LE
open PySem L2 LR
section
variable{K:Qz}{C:Qg}{m:Bool}
end
end LE

namespace L2
open PySem PySem.Spec PyProof.Rows PySem.Calls LE
end L2
namespace LE
open PySem L2 LR
end LE

namespace L2
open PySem PySem.Spec PyProof.Rows
section
variable{X:Cx}{tg:Q6}
end
end L2
namespace LE
open PySem L2 LR
end LE

namespace L2
open PySem PySem.W PyProof.Rows
noncomputable def ltG(g:Nat->Int)(i j:Nat):Bool:=if g i=g j then decide (i<j) else decide (g j<g i)
noncomputable def ltQ(g:Nat->Int)(i j:Nat):Bool:=decide (g j<g i)
structure Fall (g:Nat->Int) (N c n:Nat) (p:Array Nat):Prop where
 pm:p.toList.Perm (QQ N)
 cn:c<n
 nN:n<=N
 ds:Dsc (ltG g) p c
 fx:∀i,c<=i->i<N->p.getD i 0=i
 gr:∀i,c<=i->i<n->g i=g c
 lo:∀i,i<c->g (p.getD i 0)<g c
theorem JfB{p:Array Nat}{N i j:Nat}(hz:p.size=N)(hj:j<=N)(k:Nat):(kas_rev p i j).getD k 0=if i<=k/\k<j then p.getD (j-1-(k-i)) 0 else p.getD k 0:=by
 rw[GN];unfold kas_rev;rw[getElem?_mirror_all (by omega) k];split
 ·rw[GN];congr 2;omega
 ·rw[GN]
section
variable{N:Nat}{g:Nat->Int}{cmp:Nat->Nat->(Bool->Qh->Prop)->Qh->Prop}{I:Qh->Prop}
theorem Fall.turn{c n:Nat}{p:Array Nat}(F:Fall g N c n p):Dsc (ltG g) (kas_rev p c n) n/\(kas_rev p c n).toList.Perm (QQ N)/\(∀i,n<=i->i<N->(kas_rev p c n).getD i 0=i)/\∀i,i<n->g ((kas_rev p c n).getD i 0)<=g c:=by
 have P:=Pm.of F.pm
 have rg:=JfB (i:=c) P.size F.nN
 have low:∀a,a<c->(kas_rev p c n).getD a 0=p.getD a 0:=fun a h=>by rw[rg,if_neg (by omega)]
 have hig:∀a,c<=a->a<n->(kas_rev p c n).getD a 0=n-1-(a-c):=fun a h1 h2=>by rw[rg,if_pos ⟨h1,h2⟩];exact F.fx _ (by omega) (by have:=F.nN;omega)
 have ghi:∀a,c<=a->a<n->g ((kas_rev p c n).getD a 0)=g c:=fun a h1 h2=>by rw[hig a h1 h2];exact F.gr _ (by omega) (by omega)
 refine⟨fun a b ab hb=>?_,Zn F.pm c n,fun i h1 h2=>?_,fun i hi=>?_⟩
 ·by_cases h1:b<c
  ·rw[low a (by omega),low b h1];exact F.ds a b ab h1
  ·by_cases h2:a<c
   ·have e:=ghi b (by omega) hb
    have l:=F.lo a h2;rw[low a h2];unfold ltG;rw[if_neg (by omega),decide_eq_true_iff];omega
   ·unfold ltG;rw[ghi a (by omega) (by omega),ghi b (by omega) hb,if_pos rfl,hig a (by omega) (by omega),hig b (by omega) hb,decide_eq_true_iff];omega
 ·rw[rg,if_neg (by omega)];exact F.fx i (by have:=F.cn;omega) h2
 ·by_cases h:i<c
  ·rw[low i h];have:=F.lo i h;omega
  ·rw[ghi i (by omega) hi];exact QD _
theorem WL(mo:∀i j,i<=j->j<N->g i<=g j)(R:Rt N (ltQ g) I cmp){Q:Array Nat×Nat×Nat->Qh->Prop}:∀(f n q:Nat) (p:Array Nat) (s:Qh),I s->q+1<=n->n+f=N->Fall g N (n-(q+1)) n p ->
 (∀q' p' s',I s'->q'+1<=N->Fall g N (N-(q'+1)) N p'->Q (p',N,q') s')->(kas_desc f p n q).kasWp cmp Q s
 | 0,n,q,p,s,hI,hq,hn,F,k=>by
  obtain rfl:n=N:=by omega
  exact k q p s hI hq F
 | f+1,n,q,p,s,hI,hq,hn,F,k=>by
  have en:p.getD n 0=n:=F.fx n (by omega) (by omega)
  have en1:p.getD (n-1) 0=n-1:=F.fx (n-1) (by omega) (by omega);refine R _ _ _ s hI (by omega) (by omega) fun s' hI'=>?_
  rw[en,en1];have g1:g (n-1)=g (n-(q+1)):=F.gr _ (by omega) (by omega)
  cases e:ltQ g n (n-1) with
  | true =>
   have l:g (n-1)<g n:=by unfold ltQ at e;exact of_decide_eq_true e
   obtain⟨t1,t2,t3,t4⟩:=F.turn
   have F':Fall g N (n+1-(0+1)) (n+1) (kas_rev p (n-(q+1)) n):=by rw[show n+1-(0+1)=n by omega];refine⟨t2,by omega,by omega,t1,t3,fun i h1 h2=>by rw[show i=n by omega],fun i hi=>?_⟩;have:=t4 i hi;omega
   show Mj cmp (if q>0 then kas_desc f (kas_rev p (n-(q+1)) n) (n+1) 0 else kas_desc f p (n+1) 0) Q s';split
   ·exact WL mo R f (n+1) 0 _ s' hI' (by omega) (by omega) F' k
   ·next h =>
    have q0:q=0:=by omega
    subst q0
    have er:kas_rev p (n-(0+1)) n=p:=by unfold kas_rev;rw[show(n-(n-(0+1))) / 2=0 by omega];rfl
    rw[er] at F';exact WL mo R f (n+1) 0 _ s' hI' (by omega) (by omega) F' k
  | false =>
   have l:¬g (n-1)<g n:=by unfold ltQ at e;exact of_decide_eq_false e
   have l2:=mo (n-1) n (by omega) (by omega)
   show cmp (n-1) n _ s';refine R _ _ _ s' hI' (by omega) (by omega) fun s2 hI2=>?_
   have e2:ltQ g (n-1) n=false:=by unfold ltQ;exact decide_eq_false (by omega)
   rw[e2];show Mj cmp (kas_desc f p (n+1) (q+1)) Q s2;refine WL mo R f (n+1) (q+1) p s2 hI2 (by omega) (by omega) ?_ k;rw[show n+1-(q+1+1)=n-(q+1) by omega];refine⟨F.pm,by omega,by omega,F.ds,F.fx,fun i h1 h2=>?_,F.lo⟩
   by_cases h:i<n
   ·exact F.gr i h1 h
   ·rw[show i=n by omega];omega
theorem JfV(mo:∀i j,i<=j->j<N->g i<=g j)(R:Rt N (ltQ g) I cmp){Q:Nat->Qh->Prop}:∀(f m:Nat) (s:Qh),I s->1<=m->m+f=N->(∀i,i<m->g i=g 0) ->
 (∀m' s',I s'->1<=m'->m'<=N->(∀i,i<m'->g i=g 0)->(m'=N\/(m'<N/\g 0<g m'))->Q m' s')->(kas_asc (QY (QQ N)) f m).kasWp cmp Q s
 | 0,m,s,hI,h1,hn,h,q=>q m s hI h1 (by omega) h (.inl (by omega))
 | f+1,m,s,hI,h1,hn,h,q=>by
  have gd:∀i,i<N->(QY (QQ N)).getD i 0=i:=fun i hi=>by simp[Array.getD,hi]
  refine R _ _ _ s hI (by rw[gd m (by omega)];omega) (by rw[gd (m-1) (by omega)];omega) fun s' hI'=>?_
  rw[gd m (by omega),gd (m-1) (by omega)];have g1:=h (m-1) (by omega)
  cases e:ltQ g m (m-1) with
  | true =>
   have l:g (m-1)<g m:=by unfold ltQ at e;exact of_decide_eq_true e
   exact q m s' hI' h1 (by omega) h (.inr ⟨by omega,by omega⟩)
  | false =>
   have l:¬g (m-1)<g m:=by unfold ltQ at e;exact of_decide_eq_false e
   have l2:=mo (m-1) m (by omega) (by omega);refine JfV mo R f (m+1) s' hI' (by omega) (by omega) (fun i hi=>?_) q
   by_cases c:i<m
   ·exact h i c
   ·rw[show i=m by omega];omega
theorem Ji5(mo:∀i j,i<=j->j<N->g i<=g j)(R:Rt N (ltQ g) I cmp)(h2:2<=N){Q:Array Nat->Qh->Prop}(q:∀p s,I s->p.toList.Perm (QQ N)->Asc (ltG g) p N->Q p s)(s:Qh)(hI:I s):(kas_sort N).kasWp cmp Q s:=by
 have hp0:(QY (QQ N)).toList.Perm (QQ N):=List.Perm.refl _
 have P0:=Pm.of hp0
 have gd:∀i,i<N->(QY (QQ N)).getD i 0=i:=fun i hi=>by simp[Array.getD,hi]
 have part:∀(n:Nat) (p:Array Nat) (s:Qh),I s->1<=n->n<N->Fall g N n (n+1) p->(kas_descPart n N p).kasWp cmp (fun r s'=>(if r.1<N then kas_bin (N-max r.1 1) r.2 (max r.1 1) else KasT.ret r.2).kasWp cmp Q s') s:=fun n p s hI h1 hn F=>by
  unfold kas_descPart;rw[MV];refine WL mo R (N-(n+1)) (n+1) 0 p s hI (by omega) (by omega) F fun q' p' s' hI' hq' F'=>?_
  obtain⟨t1,t2,_,_⟩:=F'.turn
  have fin:∀p2,p2=kas_rev p' (N-(q'+1)) N->(kas_tail3 N N p2).kasWp cmp (fun r s'=>(if r.1<N then kas_bin (N-max r.1 1) r.2 (max r.1 1) else KasT.ret r.2).kasWp cmp Q s') s':=fun p2 e2=>by subst e2;unfold kas_tail3;rw[Nat.sub_self];show Mj cmp (if N<N then _ else _) Q s';rw[if_neg (GD _)];exact q _ s' hI' (Zn t2 0 N) (Jk3 (Pm.of t2) (Qx _) t1)
  show Mj cmp (if q'>0 then kas_tail3 N N (kas_rev p' (N-(q'+1)) N) else kas_tail3 N N p') _ s';split
  ·exact fin _ rfl
  ·next h =>
   refine fin p' ?_;have q0:q'=0:=by omega
   subst q0;unfold kas_rev;rw[show(N-(N-(0+1))) / 2=0 by omega];rfl
 unfold kas_sort;rw[MV];unfold kas_count;rw[MV];refine JfV mo R (N-1) 1 s hI (Qx _) (by omega) (fun i hi=>by rw[show i=0 by omega]) fun m s1 hI1 a b c d=>?_
 split
 ·next hm =>
  have hm:m=N:=by simpa using hm
  show Mj cmp (if m<N then _ else KasT.ret _) Q s1;rw[if_neg (by omega)];refine q _ s1 hI1 hp0 fun x y xy hy=>?_
  rw[gd x (by omega),gd y hy];unfold ltG;rw[c x (by omega),c y (by omega),if_pos rfl,decide_eq_true_iff];exact xy
 ·next hm =>
  have hm:m≠N:=by simpa using hm
  have gm:g 0<g m:=(d.resolve_left hm).2;split
  ·next h1 =>
   refine R _ _ _ s1 hI1 (by rw[gd 0 (by omega)];omega) (by rw[gd (m-1) (by omega)];omega) fun s2 hI2=>?_
   have e:ltQ g ((QY (QQ N)).getD 0 0) ((QY (QQ N)).getD (m-1) 0)=false:=by rw[gd 0 (by omega),gd (m-1) (by omega)];unfold ltQ;rw[c (m-1) (by omega)];exact decide_eq_false (Int.lt_irrefl _)
   rw[e];show Mj cmp (kas_descPart m N (kas_rev (QY (QQ N)) 0 m)) _ s2;have rg:=JfB (i:=0) P0.size b
   have rl:∀i,i<m->(kas_rev (QY (QQ N)) 0 m).getD i 0=m-1-i:=fun i hi=>by rw[rg,if_pos ⟨GZ _,hi⟩,gd _ (by omega)];omega
   refine part m _ s2 hI2 a (by omega) ⟨Zn hp0 0 m,by omega,by omega,fun x y xy hy=>?_,fun i h3 h4=>?_,fun i h3 h4=>by rw[show i=m by omega],fun i hi=>?_⟩
   ·rw[rl x (by omega),rl y hy];unfold ltG;rw[c _ (by omega),c (m-1-x) (by omega),if_pos rfl,decide_eq_true_iff];omega
   ·rw[rg,if_neg (by omega),gd _ h4]
   ·rw[rl i hi,c _ (by omega)];exact gm
  ·next h1 =>
   obtain rfl:m=1:=by omega
   refine part 1 _ s1 hI1 (Qx _) (by omega) ⟨hp0,by omega,by omega,fun x y xy hy=>by omega,fun i _ h4=>gd i h4,fun i h3 h4=>by rw[show i=1 by omega],fun i hi=>?_⟩;rw[show i=0 by omega,gd 0 (by omega)];exact gm
end
end L2

namespace L2
open PySem PySem.W PyProof.Rows
section
variable{prog:Qy}{w:QH}{A:QF}{E:Qe->Qh->Prop}
structure Keeps (n0:Nat) (Ok:Qh->Prop):Prop where
 up:∀(s:Qh) (h':QP) (b:Qg),Ok s->n0<=b->QR b s.heap h'->Ok { s with heap:=h' }
 psh:∀(s:Qh) (o:Obj),Ok s->Ok { s with heap:=s.heap.push o }
noncomputable def Jl4(prog:Qy)(w:QH)(A:QF)(n0:Nat)(Ok:Qh->Prop)(f:Qe)(vs:List Qe)(kz:Nat->Int):Prop:=∀(i:Nat) (v:Qe) (s:Qh),vs[i]?=some v->Ok s ->
 wpAny (model prog w) A (call f [v]) (fun k s'=>(∃t,k=.int (kz i) t)/\Ok s'/\∀b o,n0<=b->s.heap.get? b=some o->s'.heap.get? b=some o) (fun _ _=>False) s
noncomputable def KsAre(kz:Nat->Int)(ks:List Qe):Prop:=∀(j:Nat) (k:Qe),ks[j]?=some k->∃t,k=.int (kz j) t
theorem KsAre.snoc{kz:Nat->Int}{ks:List Qe}{t:Tok}(h:KsAre kz ks):KsAre kz (ks++[.int (kz ks.length) t]):=fun j k e=>by
 by_cases c:j<ks.length
 ·rw[QW c] at e;exact h j k e
 ·by_cases c2:j=ks.length
  ·subst c2;rw[QU (Qx _),Nat.sub_self] at e;cases e;exact⟨t,rfl⟩
  ·rw[Gj (by rw[QG,Gq];omega)] at e;cases e
variable{n0:Nat}{Ok:Qh->Prop}{f:Qe}{vs:List Qe}{kz:Nat->Int}{a kS:Qg}
theorem Jas(KP:Keeps n0 Ok)(R:Jl4 prog w A n0 Ok f vs kz)(h64:vs.length<64)(hk0:n0<=kS)(ha0:n0<=a)(hak:a≠kS){e1:Nat}{body:Qe->PUnit->Sem (ForInStep PUnit)}
 (hb:∀x ks e (s:Qh) (C:Qe->Qh->Prop),Lz ks<64->(∀k s',C k s'->s'.heap.get? kS=some (seqObj "list" (QY ks) e))->wpAny (model prog w) A (call f [x]) C (fun _ _=>False) s ->
  wpAny (model prog w) A (body x ⟨⟩) (fun r s'=>r=.yield ⟨⟩/\∃k s1 h' c,C k s1/\s'={ s1 with heap:=h' }/\QR kS s1.heap h'/\h'.get? kS=some (seqObj "list" (QY (ks++[k])) c)) E s) :
 ∀(r ks:List Qe) (e:Nat) (s:Qh),vs=vs.take ks.length++r->ks.length+r.length=vs.length->Ok s->s.heap.get? kS=some (seqObj "list" (QY ks) e)->s.heap.get? a=some (seqObj "list" #[] e1)->KsAre kz ks ->
  wpAny (model prog w) A (forIn r PUnit.unit body) (fun _ s'=>∃ks e,ks.length=vs.length/\Ok s'/\s'.heap.get? kS=some (seqObj "list" (QY ks) e)/\s'.heap.get? a=some (seqObj "list" #[] e1)/\KsAre kz ks) E s
 | [],ks,e,s,hv,hl,hO,hk,ha,hK=>by rw[Re];exact Qp ⟨ks,e,by simpa using hl,hO,hk,ha,hK⟩
 | x::r,ks,e,s,hv,hl,hO,hk,ha,hK=>by
  rw[Qo] at hl;rw[MT]
  have hx:vs[ks.length]?=some x:=by
   rw[hv,QU (by rw[KO];omega)];have:ks.length-(vs.take ks.length).length=0:=by rw[KO];omega
   rw[this];rfl
  refine Qa (KG (hb x ks e s (fun k s'=>(∃t,k=.int (kz ks.length) t)/\Ok s'/\∀b o,n0<=b->s.heap.get? b=some o->s'.heap.get? b=some o) (by omega) (fun k s' h=>h.2.2 _ _ hk0 hk) (R _ x s hx hO)) (fun q s' hq=>?_) fun _ _ x=>x);obtain⟨rfl,k,s1,h',c,⟨⟨t,rfl⟩,hO1,hkeep⟩,rfl,sb,hk'⟩:=hq;show wpAny (model prog w) A (forIn r PUnit.unit body) _ E _;refine Jas KP R h64 hk0 ha0 hak hb r (ks++[.int (kz ks.length) t]) c _ ?_ (by rw[QG,Gq];omega) (KP.up _ _ _ hO1 hk0 sb) hk' ((sb.2 a hak).trans (hkeep _ _ ha0 ha)) hK.snoc
  rw[QG,Gq,List.take_succ,hx,Option.toList_some,GM];exact hv
theorem Jat{ks:List Qe}(h:KsAre kz ks)(i:Nat)(hi:i<ks.length):∃t,ks.getD i Value.none=.int (kz i) t:=by obtain⟨t,e⟩:=h i ks[i] (QM hi);exact⟨t,by rw[<- e];simp[hi]⟩
theorem Jqc{s:Qh}{n:Nat}{P:PySem.Fin->Qh->Prop}(KP:Keeps n0 Ok)(R:Jl4 prog w A n0 Ok f vs kz)(mo:∀i j,i<=j->j<vs.length->kz j<=kz i)(ho:s.heap.get? a=some (seqObj "list" vs.toArray n))(h64:vs.length<64)(ha0:n0<=a)(hO:Ok s)
 (h:∀(p:Array Nat) (s':Qh) (c:Nat),p.toList.Perm (QQ vs.length)->Asc (ltG fun i=>- kz i) p vs.length->Ok s'->s'.heap.get? a=some (seqObj "list" (QY (p.toList.map fun i=>vs.getD i Value.none)) c)->P (.done (.ret .none)) s') :
 wpAny (model prog w) A (ksk_tree a f false) P E s:=by
 have ha:a<s.heap.objs.size:=Qq ho
 have room:vs.length<=Qt:=by rw[sizeLine_eq];omega
 have s1:=GW s.heap a (Gy fun _=>(#[]:Array Qe));obtain⟨e1,ho1⟩:∃e1,(s.heap.update a (Gy fun _=>(#[]:Array Qe))).get? a=some (seqObj "list" #[] e1):=⟨_,get?_update_seq ho fun _=>#[]⟩
 have hkS:((s.heap.update a (Gy fun _=>(#[]:Array Qe))).push (seqObj "tuple" vs.toArray 0)).objs.size=s.heap.objs.size+1:=by rw[size_push',Heap.size_update]
 unfold ksk_tree;refine Qa (listItems_at ho rfl ?_);refine Qa (listUpdate_at ho rfl ?_ (by rw[Qr];exact room) (GZ _));refine Qa (seqEpoch_at ho1 rfl ?_);refine Qa (Rf ?_ room);refine Qa (wpAny_newList ?_ (GZ _));refine KH ?_;show wpAny _ _ _ _ _ { s with heap:=((s.heap.update a (Gy fun _=>(#[]:Array Qe))).push (seqObj "tuple" vs.toArray 0)).push (seqObj "list" #[] 0) }
 have g1:(((s.heap.update a (Gy fun _=>(#[]:Array Qe))).push (seqObj "tuple" vs.toArray 0)).push (seqObj "list" #[] 0)).get? (s.heap.objs.size+1)=some (seqObj "list" #[] 0):=by rw[<- hkS];exact Qn _ rfl
 have g2:(((s.heap.update a (Gy fun _=>(#[]:Array Qe))).push (seqObj "tuple" vs.toArray 0)).push (seqObj "list" #[] 0)).get? a=some (seqObj "list" #[] e1):=Qi _ (Qi _ ho1)
 have g3:Ok { s with heap:=((s.heap.update a (Gy fun _=>(#[]:Array Qe))).push (seqObj "tuple" vs.toArray 0)).push (seqObj "list" #[] 0) }:=KP.psh _ _ (KP.psh _ _ (KP.up _ _ _ hO ha0 s1))
 generalize ((s.heap.update a (Gy fun _=>(#[]:Array Qe))).push (seqObj "tuple" vs.toArray 0)).push (seqObj "list" #[] 0)=G at g1 g2 g3
 rw[hkS]
 generalize hkk:s.heap.objs.size+1=kS at g1
 have hk0:n0<=kS:=by rw[<- hkk];exact Q5 ha0 (LG (G9 ha))
 have hak:a≠kS:=by rw[<- hkk];exact QK (LD ha)
 unfold ksk_rest;refine Qa (Lc ?_)
 first
  | rw[List.forIn_toArray]
  | (rw[<- Array.forIn_toList];simp only[List.toList_toArray])
  | rw[<- Array.forIn_toList]
 refine Qa (KG (Jas KP R h64 hk0 ha0 hak (e1:=e1) (fun x ks e s' C hz hC hx=>?_) vs [] 0 { s with heap:=G } (by simp) (by simp) g3 g1 g2 (fun j k z=>by simp at z)) (fun _ s' hd=>?_) fun _ _ x=>x)
 ·refine Qa (KL (KG hx (fun k s'' hk=>?_) fun _ _ hF=>hF.elim));have nk:=hC k s'' hk;have sb:=GW s''.heap kS (Gy (·.push k));have ea:(QY ks).push k=QY (ks++[k]):=by simp
  obtain⟨c2,hc2⟩:∃c2,(s''.heap.update kS (Gy (·.push k))).get? kS=some (seqObj "list" (QY (ks++[k])) c2):=⟨_,by rw[<- ea];exact get?_update_seq nk (·.push k)⟩
  try dsimp only
  refine Qa (listUpdate_at nk rfl ?_ (by rw[Qr,sizeLine_eq];omega) (Q5 (L5 (Array.size_push ..)) (by rw[Qr,sizeLine_eq];omega)));exact Qp ⟨rfl,k,s'',_,c2,hk,rfl,sb,hc2⟩
 ·obtain⟨ks,e,hl,hO',hk',ha',hK⟩:=hd
  try dsimp only
  refine Qa (listItems_at hk' rfl ?_)
  have tail:∀(st:SortSt) (p:Array Nat),(arrOf st).map (·.2)=QY (p.toList.map fun i=>vs.getD i Value.none)->failedOf st=none->p.toList.Perm (QQ vs.length)->Asc (ltG fun i=>- kz i) p vs.length->wpAny (model prog w) A (ksk_tail a false e1 (.ref kS) st) P E s':=fun st p ep hf hp hA=>by
   have t1:=GW s'.heap kS (Gy fun _=>(#[]:Array Qe))
   have na:(s'.heap.update kS (Gy fun _=>(#[]:Array Qe))).get? a=some (seqObj "list" #[] e1):=(t1.2 a hak).trans ha'
   have t2:=GW (s'.heap.update kS (Gy fun _=>(#[]:Array Qe))) a (Gy fun _=>QY (p.toList.map fun i=>vs.getD i Value.none));obtain⟨c2,hc2⟩:∃c2,((s'.heap.update kS (Gy fun _=>(#[]:Array Qe))).update a (Gy fun _=>QY (p.toList.map fun i=>vs.getD i Value.none))).get? a=some (seqObj "list" (QY (p.toList.map fun i=>vs.getD i Value.none)) c2):=⟨_,get?_update_seq na fun _=>QY (p.toList.map fun i=>vs.getD i Value.none)⟩
   have hsz:(QY (p.toList.map fun i=>vs.getD i Value.none)).size=vs.length:=by rw[Qr,Qv,hp.length_eq,Ms]
   unfold ksk_tail
   try dsimp only
   rw[ep];simp only[Ks,if_false];refine Qa (listUpdate_at hk' rfl ?_ (by rw[Qr,sizeLine_eq];omega) (GZ _));refine Qa (G4 ?_);refine Qa (seqEpoch_at na rfl ?_);refine Qa (listUpdate_at na rfl ?_ (GZ _) (Q5 (L5 hsz) (LG room)));rw[hf];simp only[bne_self_eq_false,Ks,if_false];have o1:=KP.up s' _ kS hO' hk0 t1;have o2:=KP.up _ _ a o1 ha0 t2
   exact Qp (h p _ c2 hp hA o2 hc2)
  unfold ksk_end
  try dsimp only
  simp only[Ks,if_false]
  by_cases two:vs.toArray.size<2
  ·have two':vs.length<2:=by simpa using two
   rw[if_pos two,if_pos two];refine Qa (Qp ?_);rw[StateT.run_pure];refine Qa (Qp ?_)
   try dsimp only
   refine tail _ (QY (QQ vs.length)) ?_ rfl (List.Perm.refl _) (Jf0 two');show((QY ks).zip vs.toArray).map (·.2)=QY ((QQ vs.length).map fun i=>vs.getD i Value.none);rw[JiK]
   apply Array.toList_inj.mp
   rw[Array.toList_map,Array.toList_zip];exact List.map_snd_zip (L5 hl.symm)
  ·have two1:¬vs.length<2:=by simpa using two
   have two':2<=vs.length:=by omega
   rw[if_neg two,if_neg two];refine Qa (kas_kind (T:=.type "int") (by omega) (fun v hv=>?_) rfl rfl ?_)
   ·obtain⟨j,hj,rfl⟩:=GG.mp hv;obtain⟨t,e⟩:=hK j _ (QM hj);rw[e];exact Looks.of_pure rfl
   ·have ask:Rt vs.length (ltQ fun i=>- kz i) (·=s') (kas_ask prog w A oneType' ks):=fun i j C s0 e0 hi hj hC=>by
     subst e0;obtain⟨t1,q1⟩:=Jat hK i (by omega);obtain⟨t2,q2⟩:=Jat hK j (by omega);unfold kas_ask;rw[q1,q2];refine kat_lt_int ?_
     have e:ltQ (fun i=>- kz i) i j=decide (kz i<kz j):=by unfold ltQ;exact decide_eq_decide.mpr (by dsimp only;omega)
     rw[<- e];exact hC s0 rfl
    have tree:(kas_sort vs.length).kasWp (kas_ask prog w A oneType' ks) (fun p s2=>s2=s'/\p.toList.Perm (QQ vs.length)/\Asc (ltG fun i=>- kz i) p vs.length) s' :=
     Ji5 (fun i j h1 h2=>by have:=mo i j h1 h2;omega) ask two' (fun p s2 e hp ha=>⟨e,hp,ha⟩) _ rfl
    refine Qa (KG (kat_run (ks:=ks) (Q:=fun st' s2=>s2=s'/\failedOf st'=none/\∃p:Array Nat,(arrOf st').map (·.2)=QY (p.toList.map fun i=>vs.getD i Value.none)/\p.toList.Perm (QQ vs.length)/\Asc (ltG fun i=>- kz i) p vs.length) hl two' h64
     (fun p st' s2 _ e f g=>⟨g.1,f,p,kat_snds hl e,g.2⟩) tree) ?_ fun _ _ e=>e)
    rintro⟨⟨⟩,st'⟩ s2 ⟨rfl,hf,p,ep,hp,hA⟩;exact tail st' p ep hf hp hA
end
end L2

namespace L2
open PySem PySem.W PySem.Calls PyProof.Rows
section
variable{prog:Qy}{w:QH}{A:QF}{E:Qe->Qh->Prop}
theorem Jlh{s:Qh}{Ok:Qh->Prop}{f l:Qg}{vs:List Qe}{kz:Nat->Int}{Q:Qe->Qh->Prop}(KP:Keeps s.heap.objs.size Ok)(R:Jl4 prog w A.in1.in1 s.heap.objs.size Ok (.ref f) vs kz)(mo:∀i j,i<=j->j<vs.length->kz j<=kz i)(hl:s.heap.IsList l vs.toArray)(h64:vs.length<64)(hO:Ok s)
 (h:∀(p:Array Nat) (s':Qh) (c:Nat),p.toList.Perm (QQ vs.length)->Asc (ltG fun i=>- kz i) p vs.length->Ok s'->s'.heap.get? (s.heap.objs.size+1)=some (seqObj "list" (QY (p.toList.map fun i=>vs.getD i Value.none)) c)->Q (.ref (s.heap.objs.size+1)) s') :
 wpAny (model prog w) A (call (.builtin "sorted") [.ref l] [(Q7 "key",.ref f)]) Q E s:=by
 have room:vs.length<=Qt:=by rw[sizeLine_eq];omega
 refine call_function_entry_kw kind_sorted plain_sorted entry_sorted (ksk_s1 _ _) ?_;unfold Builtin.«sorted»;refine Qa (m:=checkCount "sorted" 1 1 _) (Qp ?_);refine Qa (collect_list hl ?_ room);refine Qa (wpAny_newList ?_ room);have sz:((s.heap.push (seqObj "list" #[] 0)).update s.heap.objs.size (Gy (·++vs.toArray))).objs.size=s.heap.objs.size+1:=by rw[Heap.size_update,size_push']
 have at1:(((s.heap.push (seqObj "list" #[] 0)).update s.heap.objs.size (Gy (·++vs.toArray))).push (seqObj "list" vs.toArray 0)).get? (s.heap.objs.size+1)=some (seqObj "list" vs.toArray 0):=by rw[<- sz];exact Qn _ rfl
 show wpAny _ _ _ _ _ { s with heap:=((s.heap.push (seqObj "list" #[] 0)).update s.heap.objs.size (Gy (·++vs.toArray))).push (seqObj "list" vs.toArray 0) };rw[sz]
 have o1:=KP.psh s (seqObj "list" #[] 0) hO
 have o2:=KP.up _ _ s.heap.objs.size o1 (Qx _) (GW (s.heap.push (seqObj "list" #[] 0)) s.heap.objs.size (Gy (·++vs.toArray)))
 have o3:=KP.psh _ (seqObj "list" vs.toArray 0) o2;refine Qa (KH (wpAny_call_entry_kw slot_list_sort ⟨_,at1,rfl⟩ entry_list_sort ?body (ksk_l1 _ _)))
 case body =>
  show wpAny (model prog w) A.in1.in1 (Builtin.«list.sort» ⟨[.ref (s.heap.objs.size+1)],[(Q7 "key",.ref f)]⟩) _ _ _;rw[ksk_t1];refine Jqc KP R mo at1 h64 (Nat.le_succ _) o3 fun p s' c hp ha ho hg=>⟨_,rfl,?_⟩
  exact Qp ⟨_,rfl,h p s' c hp ha ho hg⟩
end
end L2

namespace L2
open PySem PySem.Spec PyProof.Rows
theorem Jki{CX:CXT}{P:Qy}{w:QH}{K:Qz}{mg:Str->Option Qe}{base:QP}{k:Nat}{f c':Qg}{name qual:Str}{params:Mb}{body:Q6}{scope:Ln}{pm ctv:Qe}{N ps:List Str}{A:QF}{outer:List Env}{s:Qh}{H:Hp}{us:List Qe}{vs:List V}{Q:VK}{E:XK}{t:TE}
 (S:FnScope N ps scope) (ho:s.heap.get? f=some (kla_obj name qual params body scope [] pm c' ctv)) (hcd:s.heap.CodeRec (.ref c') qual) (hr:Room (k+1) A) (e0:Env0 P w K mg base A outer s H)
 (hb:bindArgs (kla_fn name qual params body scope [] pm (.ref c') ctv) ⟨us,[]⟩=pure (ps.zip us)) (r:Vals vs us) (hl:vs.length=ps.length)
 (ht:PE (VQ CX P w K mg base N qual scope f (.ref c') A outer s H E) body t) (hq:t (Yl N vs) H Q) :
 codeAny (model P w) A (.call (.ref f) ⟨us,[]⟩) (CR CX outer P w H s Q E) s:=by
 have lim:s.heap.NoLimit:=e0.mod.nolimit.keeps fun b o e=>(e0.bs b o e).1
 have hkind:∀y∈ps.zip us,scope.names.lookup y.1=some .local\/(scope.names.lookup y.1=some .cell/\((cellsFrom (s.heap.objs.size+1) scope.names []).lookup y.1).isSome=true):=fun⟨n,v⟩ hy=>by
  rcases S.par n (Kh hy).1 with q|q
  ·exact .inl q
  ·exact .inr ⟨q,cellsFrom_some _ _ _ (.inl q)⟩
 refine PySem.W.kla_callFunE hr.depth ho rfl S.co S.gen rfl hcd ?_;rw[hb];refine Qp ?_;refine La S.kind hkind fun env he s1 x=>?_
 subst he;refine⟨lim.keeps x.toInCall.keep,PySem.W.kla_codeExpr ?_⟩;have I:Inv (VQ CX P w K mg base N qual scope f (.ref c') A outer s H E) [] (Yl N vs) H s1:=VX S hr.hd e0 hl r x;refine KG (ht [] s1 (Yl N vs) H _ I hq) (fun u s' hs=>?_) fun e s' hs=>hs
 obtain⟨v,H',J,rv,q⟩:=hs;exact⟨v,H',J.os,J.bare,J.base,J.hok,rv,q⟩
end L2

namespace L2
open PySem PySem.Spec PyProof.Rows
noncomputable def noT(H:Hp)(P y:Qg):Hp:=fun b=>if b=P\/b=y then none else H b
theorem Zg{H:Hp}{P y b:Qg}{u:HO}(e:noT H P y b=some u):H b=some u/\b≠P/\b≠y:=by
 unfold noT at e;split at e
 ·cases e
 ·next h=>exact⟨e,fun z=>h (.inl z),fun z=>h (.inr z)⟩
theorem Jbq{H:Hp}{P y b:Qg}{u:HO}(e:H b=some u)(h1:b≠P)(h2:b≠y):noT H P y b=some u:=by unfold noT;rw[if_neg fun z=>z.elim h1 h2];exact e
theorem YZ{H:Hp}{P y b:Qg}(e:H b=none):noT H P y b=none:=by
 unfold noT;split
 ·rfl
 ·exact e
theorem JeW{base h h':QP}{fs:List Qg}{H H':Hp}(u:Un fs [] H H' h h')(hH:∀b∈fs,H b=none):∀(l:List Env),(∀b∈frs l,b∈fs)->h.FunFrames base l->h'.FunFrames base l
 | [],_,_=>trivial
 | env::r,hs,hl=>by obtain⟨hk,⟨L,o,hf,hn,ho,hd⟩,hr⟩:=hl;have hL:L∈fs:=hs L (by unfold frs;rw[Kj,hf];exact Qf);obtain⟨sl,e⟩:=u.slot L o ho (hH L hL) hL (by simp);exact⟨hk,⟨L,_,hf,hn,e,hd⟩,JeW u hH r (fun b hb=>hs b (by unfold frs;rw[Kj,hf];exact Qc _ hb)) hr⟩
theorem Jli{K:Qz}{H:Hp}{P y b:Qg}{xs:List V}{l c:Nat}{q:Str}{ps:Array Qe}(hP:H P=some (.tbl ps l c q))(hy:H y=some (.own P))(h:SqT K H b xs):SqT K (noT H P y) b xs:=by
 rcases h with h|h
 ·refine .inl ?_;have h1:∀u,H b=some u->(∀p l c q,u≠.tbl p l c q)->(∀x,u≠.own x)->noT H P y b=some u:=fun u e n1 n2=>Jbq e (fun z=>by subst z;rw[hP] at e;cases e;exact n1 _ _ _ _ rfl) fun z=>by subst z;rw[hy] at e;cases e;exact n2 _ rfl
  rcases h with e|⟨o,e⟩
  ·exact .inl (h1 _ e (fun _ _ _ _ z=>nomatch z) fun _ z=>nomatch z)
  ·exact .inr ⟨o,h1 _ e (fun _ _ _ _ z=>nomatch z) fun _ z=>nomatch z⟩
 ·exact .inr h
structure Srt (X:Cx) (H:Hp) (s s3:Qh):Prop where
 os:s3.os=s.os
 bare:AllBare s3.gens
 un:Un (frs X.stack) [] H H s.heap s3.heap
 hok:HOk X.prog X.w H s3.heap
theorem Srt.keeps{X:Cx}{H:Hp}{s:Qh}(fr:∀b,s.heap.objs.size<=b->H b=none):Keeps s.heap.objs.size (Srt X H s) where
 up:=fun s3 h' b S hb sb=>by
  have low:∀(c:Qg) (o:Obj),s.heap.get? c=some o->c≠b:=fun c o e=>QK (QT (Qq e) hb)
  have lowH:∀(c:Qg) (u:HO),H c=some u->c≠b:=fun c u e z=>by rw[z,fr b hb] at e;cases e
  refine⟨S.os,S.bare,⟨fun c o e n h1 h2=>(sb.2 c (low c o e)).trans (S.un.keep c o e n h1 h2),fun c o e n h1 h2=>?_,S.un.free,fun c o e h2=>?_,S.un.tups,S.un.frzs,S.un.tbls⟩,fun c u e=>?_⟩
  ·obtain⟨sl,e1⟩:=S.un.slot c o e n h1 h2;exact⟨sl,(sb.2 c (low c o e)).trans e1⟩
  ·obtain⟨o',e1⟩:=S.un.there c o e h2;exact⟨o',(sb.2 c (low c o e)).trans e1⟩
  ·refine(S.hok c u e).stay (fun d v hd r=>(sb.2 d ?_).trans r) (fun _ r=>r) fun _ _ r=>r
   rcases hd with rfl|hd
   ·exact lowH _ _ e
   ·exact lowH _ _ hd
 psh:=fun s3 o S=>⟨S.os,S.bare,S.un.trans (Un.kept fun b u e=>Qi _ e),S.hok.kept fun b u e=>Qi _ e⟩
section
variable{X:Cx}{pins:List (Qg×Obj)}{σ:St}{H:Hp}{s:Qh}{f P y:Qg}{name qual:Str}{params:Mb}{body:Q6}{scope:Ln}{pm ctv:Qe}{l c:Nat}{N ps:List Str}{t:TE}{Q:VK}
theorem JaT(I:Inv X pins σ H s)(hP:H P=some (.tbl #[] l c qual))(hy:H y=some (.own P))(hyP:y≠P)(gP:s.heap.get? P=some { cls:=.none,data:=.fields (#[]++#[rawInt l,rawInt c,.ref y]) })(hcd:s.heap.CodeRec (.ref y) qual)
 (ho:s.heap.get? f=some (kla_obj name qual params body scope [] pm y ctv)) (hf:H f=none) (hfs:f∉frs X.stack) (S:FnScope N ps scope) (hps:ps.length=1)
 (hb:∀u,bindArgs (kla_fn name qual params body scope [] pm (.ref y) ctv) ⟨[u],[]⟩=pure (ps.zip [u])) (hr:Room 3 X.A)
 (ht:∀(A:QF) (s:Qh) (H:Hp),PE (VQ CX0 X.prog X.w X.K X.mg X.base N qual scope f (.ref y) A X.stack s H fun _ _ _=>False) body t)
 (htq:∀(b:Qg) (x z:Int) (H:Hp) (Q:VK),SqT X.K H b [.int x,.int z]->Q (.int (-x)) H->t (Yl N [.ref b]) H Q)
 {a:Qg} {vs:List V} {ns:List (Int×Int)} (hq:SqL X.K H a vs) (h64:vs.length<64) (hlen:vs.length=ns.length) (hit:∀(i:Nat) (v:V) (p:Int×Int),vs[i]?=some v->ns[i]?=some p->∃b,v=.ref b/\SqT X.K H b [.int p.1,.int p.2])
 (mo:∀i j,i<=j->j<ns.length->(ns.getD i (0,0)).1<=(ns.getD j (0,0)).1)
 (q:∀(D:Qg) (p:List Nat),H D=none->p.Perm (QQ vs.length)->(∀a b,a<b->b<vs.length->ltG (fun i=>(ns.getD i (0,0)).1) (p.getD a 0) (p.getD b 0)=true)->Q (.ref D) (upd H D (.lst (p.map fun i=>vs.getD i .non)))) :
 wpAny (model X.prog X.w) X.A (call (.builtin "sorted") [.ref a] [(Q7 "key",.ref f)]) (EP X pins σ Q) X.xe s:=by
 have frN:∀b,s.heap.objs.size<=b->noT H P y b=none:=fun b hb=>YZ (I.hok.fresh hb)
 obtain⟨its,r',pl,hz⟩:=I.list hq;have il:=r'.length;have yfs:y∉frs X.stack:=fun z=>by rw[I.stkFree y z] at hy;cases hy
 have Pfs:P∉frs X.stack:=fun z=>by rw[I.stkFree P z] at hP;cases hP
 have nP:noT H P y P=none:=by unfold noT;rw[if_pos (.inl rfl)]
 have ny:noT H P y y=none:=by unfold noT;rw[if_pos (.inr rfl)]
 obtain⟨y',oc,cvs,tq,ey,hoc,hdc,hvq⟩:=hcd;cases ey
 have hok0:HOk X.prog X.w (noT H P y) s.heap:=fun b u e=>by
  obtain⟨e1,n1,n2⟩:=Zg e;refine(I.hok b u e1).stay (fun _ _ _ r=>r) (fun d r=>Jbq r (fun z=>?_) fun z=>?_) fun d xs r=>Jbq r (fun z=>?_) fun z=>?_
  ·subst z;rw[hP] at r;cases r
  ·subst z;rw[hy] at r;cases r;exact n1 rfl
  ·subst z;rw[hP] at r;cases r
  ·subst z;rw[hy] at r;cases r
 have S0:Srt X (noT H P y) s s:=⟨rfl,I.bare,Un.refl,hok0⟩
 have stf:∀b∈frs X.stack,noT H P y b=none:=fun b hb=>YZ (I.stkFree b hb)
 refine Jlh (Ok:=Srt X (noT H P y) s) (kz:=fun i=>- (ns.getD i (0,0)).1) (Srt.keeps frN) (fun i v s3 hv T=>?_) (fun i j h1 h2=>?_) pl.isList (by omega) S0 fun p s' cc hp ha T hg=>?_
 ·have hi:i<its.length:=(Qk.mp hv).1
  have hi1:i<vs.length:=by omega
  have hi2:i<ns.length:=by omega
  obtain⟨b,eb,hbT⟩:=hit i vs[i] ns[i] (QM hi1) (QM hi2);obtain⟨u',hu,rel⟩:=r'.get (QM hi1);rw[hv] at hu;cases hu;rw[eb] at rel;have gi:ns.getD i (0,0)=ns[i]:=by simp[hi2]
  have env0:Env0 X.prog X.w X.K X.mg X.base X.A.in1.in1 X.stack s3 (noT H P y):=by
   refine⟨I.ok.frames,I.ok.mod,fun b o e=>?_,?_,JeW T.un stf X.stack (fun _ h=>h) I.stack,stf,T.hok,T.bare⟩
   ·obtain⟨e1,e2⟩:=I.bs b o e
    have nb:b∉frs X.stack:=fun z=>by have:=(I.stack.mem z).1;rw[e] at this;cases this
    exact⟨T.un.keep b o e1 (YZ e2) nb (by simp),YZ e2⟩
   ·obtain⟨m,⟨o,es,ep,hoL,r⟩,_⟩:=id I.loc;obtain⟨o',e'⟩:=T.un.there _ _ hoL (by simp);exact Q5 (Q5 I.ok.bsz I.ok.above) (G9 (Qq e'))
  have ho3:=T.un.keep f _ ho (YZ hf) hfs (by simp)
  have hy3:=T.un.keep y _ hoc ny yfs (by simp);refine wpAny_call (L6 (Jki (k:=0) (Q:=fun v H'=>v=.int (- ns[i].1)/\H'=noT H P y) (E:=fun _ _ _=>False) (CX:=CX0) S ho3 ⟨y,oc,cvs,tq,rfl,hy3,hdc,hvq⟩ hr.in1.in1 env0 (hb v) (.cons rel .nil) (by rw[hps];rfl) (ht _ _ _) (htq b _ _ _ _ (Jli hP hy hbT) ⟨rfl,rfl⟩)) fun r s' hq=>?_)
  cases r with
  | error e=>exact Gx hq
  | ok fl =>
   cases fl with
   | next=>exact Gx hq
   | brk=>exact Gx hq
   | cont=>exact Gx hq
   | ret u=>obtain⟨w',H',os,bare,un,hok',rv,e1,e2⟩:=hq;subst e1 e2;obtain⟨tk,rfl⟩:=rv;refine⟨⟨tk,by show _=Value.int (- (ns.getD i (0,0)).1) tk;rw[gi]⟩,⟨os.trans T.os,bare,T.un.trans un,hok'⟩,fun d o hd e=>un.keep d o e (frN d hd) (fun z=>?_) (by simp)⟩;obtain⟨_,o2,ho2,_⟩:=I.stack.mem z;exact absurd (Qq ho2) (Rp.mpr hd)
 ·have:=mo i j h1 (by omega)
  show-(ns.getD j (0,0)).1<=- (ns.getD i (0,0)).1;omega
 ·have perm:p.toList.Perm (QQ vs.length):=by rw[il];exact hp
  have hn:(p.toList.map fun i=>vs.getD i .non).length<=Qt:=by rw[Qv,perm.length_eq,Ms];exact hz
  have hne:H (s.heap.objs.size+1)=none:=I.hok.fresh (Nat.le_succ _)
  have neD:∀(b:Qg) (u:HO),H b=some u->b≠s.heap.objs.size+1:=fun b u e z=>by rw[z,hne] at e;cases e
  have neD':∀(b:Qg) (o:Obj),s.heap.get? b=some o->b≠s.heap.objs.size+1:=fun b o e=>QK (LD (Qq e))
  have hP':=T.un.keep P _ gP nP Pfs (by simp)
  have hy':=T.un.keep y _ hoc ny yfs (by simp)
  have okH:HOk X.prog X.w (upd H (s.heap.objs.size+1) (.lst (p.toList.map fun i=>vs.getD i .non))) s'.heap:=fun b u e=>by
   by_cases h1:b=s.heap.objs.size+1
   ·subst h1;rw[Jm] at e;cases e;exact⟨hn,p.toList.map fun i=>its.getD i Value.none,cc,JgW r' p.toList (fun i hi=>by simpa using perm.mem_iff.mp hi),hg⟩
   ·rw[Jf h1] at e;have ex:∀d v,H d=some v->upd H (s.heap.objs.size+1) (.lst (p.toList.map fun i=>vs.getD i .non)) d=some v:=fun d v r=>by rw[Jf (neD d v r)];exact r
    by_cases h2:b=P
    ·subst h2;rw[hP] at e;cases e;exact .inr ⟨y,ex _ _ hy,hyP,hP',y,oc,cvs,tq,rfl,hy',hdc,hvq⟩
    ·by_cases h3:b=y
     ·subst h3;rw[hy] at e;cases e;exact⟨_,hy'⟩
     ·exact(T.hok b u (Jbq e h2 h3)).stay (fun _ _ _ r=>r) (fun d r=>ex _ _ (Zg r).1) fun d xs r=>ex _ _ (Zg r).1
  refine⟨.ref (s.heap.objs.size+1),_,I.call' (s':=s') (ch:=[]) T.os ⟨fun b o e n h1 h2=>T.un.keep b o e (YZ n) h1 h2,fun b o e n h1 h2=>T.un.slot b o e (YZ n) h1 h2,fun b o e n _=>by rw[Jf (neD' b o e)];exact n,T.un.there,fun b xs e=>by rw[Jf (neD b _ e)];exact e,fun b o xs e=>by rw[Jf (neD b _ e)];exact e,fun b ps l c z e=>by rw[Jf (neD b _ e)];exact e⟩ okH T.bare (fun b z=>absurd z (by simp)),rfl,q _ p.toList hne perm fun x z hxz hz=>?_⟩
  have:=ha x z hxz (by omega)
  have g:∀i,p.toList.getD i 0=p.getD i 0:=fun i=>by rw[Ge,GN,LJ]
  rw[g,g];have gg:(fun i=>- - (ns.getD i (0,0)).1)=fun i=>(ns.getD i (0,0)).1:=by funext i;omega
  rw[gg] at this;exact this
end
end L2

namespace L2
open PySem PySem.Spec PyProof.Rows LE
noncomputable def JaM(mg:Str->Option Qe)(h:QP):Prop:=∃bm ob,mg "__builtins__"=some (.ref bm)/\bm≠builtinsNs/\h.get? bm=some ob/\ob.cls=.type "module"/\ob.dict=some builtinsNs/\ob.data=.plain
theorem JkE{X:Cx}{i:Nat}{v:Str}{k:Nat}{p1 p2 p3 p4:Pos}(hN:X.N[i]?=some v)(hv:Vis X.env.scope v)(hd:(v == ("__debug__":Str))=false)(hcd:(v == ("__classdict__":Str))=false) :
 PE X (.UnaryOp .USub (.Subscript (.Name v p1) (.Constant (.int 0) k p2) p3) p4) (tUn (rU fun i=>.int (-i)) (tOp (rIx X.K) (Wf i) (tC (.int 0)))) :=
 JcU ZG (JlO JhT (Jih hN hv hd hcd) Je (fun _ _=>rfl))
theorem Jib{K:Qz}{σ:St}{H:Hp}{Q:VK}{b:Qg}{x z:Int}(e:σ[0]?=some (some (.ref b)))(h:SqT K H b [.int x,.int z])(q:Q (.int (-x)) H):tUn (rU fun i=>.int (-i)) (tOp (rIx K) (Wf 0) (tC (.int 0))) σ H Q :=
 ⟨_,e,.inr (.inl ⟨b,_,0,.int x,rfl,rfl,h,rfl,x,rfl,q⟩)⟩
noncomputable def Grow(P:Qg)(H1 H2:Hp):Prop:=H2=H1\/∃y,H1 y=none/\H2=upd H1 y (.own P)
noncomputable def ltI(ns:List (Int×Int))(i j:Nat):Bool:=ltG (fun i=>(ns.getD i (0,0)).1) i j
noncomputable def tSL(K:Qz)(t:TA):TE:=fun σ H Q=>t σ H fun us H1=>∃(a:Qg) (vs:List V) (ns:List (Int×Int)),us=[.ref a]/\TabK K H1/\SqL K H1 a vs/\vs.length<64/\vs.length=ns.length/\(∀(i:Nat) (v:V) (p:Int×Int),vs[i]?=some v->ns[i]?=some p->∃b,v=.ref b/\SqT K H1 b [.int p.1,.int p.2]) ∧
 (∀i j,i<=j->j<ns.length->(ns.getD i (0,0)).1<=(ns.getD j (0,0)).1) ∧
 ∀(P:Qg) (H2:Hp) (D:Qg) (p:List Nat),Grow P H1 H2->H2 D=none->p.Perm (QQ vs.length)->(∀a b,a<b->b<vs.length->ltI ns (p.getD a 0) (p.getD b 0)=true)->Q (.ref D) (upd H2 D (.lst (p.map fun i=>vs.getD i .non)))
theorem Grow.seqT{K:Qz}{P b:Qg}{H1 H2:Hp}{xs:List V}(g:Grow P H1 H2)(h:SqT K H1 b xs):SqT K H2 b xs:=by
 rcases g with rfl|⟨y,n,rfl⟩
 ·exact h
 ·have up:∀u,H1 b=some u->upd H1 y (.own P) b=some u:=fun u e=>by rw[Jf (Jo e n)];exact e
  rcases h with (e|⟨o,e⟩)|h
  ·exact .inl (.inl (up _ e))
  ·exact .inl (.inr ⟨o,up _ e⟩)
  ·exact .inr h
theorem Grow.seqL{K:Qz}{P b:Qg}{H1 H2:Hp}{xs:List V}(g:Grow P H1 H2)(h:SqL K H1 b xs):SqL K H2 b xs:=by
 rcases g with rfl|⟨y,n,rfl⟩
 ·exact h
 ·have up:∀u,H1 b=some u->upd H1 y (.own P) b=some u:=fun u e=>by rw[Jf (Jo e n)];exact e
  rcases h with (e|⟨o,e⟩)|h
  ·exact .inl (.inl (up _ e))
  ·exact .inl (.inr ⟨o,up _ e⟩)
  ·exact .inr h
section
variable{X:Cx}{e:Q6}{t:TA}{v:Str}{k:Nat}{p pos kpos lpos p1 p2 p3 p4 p5:Pos}{P c:Qg}
noncomputable abbrev YM(v:Str)(p5:Pos):Mb:={ posonlyargs:=[],args:=[{ arg:=v,annotation:=none,pos:=p5 }],vararg:=none,kwonlyargs:=[],kw_defaults:=[],kwarg:=none,defaults:=[] }
noncomputable abbrev J3(v:Str):Ln:={ kind:=.function,names:=[(v,.local)],isGenerator:=false,isCoroutine:=false,more:=[] }
noncomputable abbrev YN(v:Str)(k:Nat)(p1 p2 p3 p4:Pos):Q6:=.UnaryOp .USub (.Subscript (.Name v p1) (.Constant (.int 0) k p2) p3) p4
theorem Jd2(hg:Gl X "sorted")(hm:X.mg "sorted"=none)(ha:PA X [e] t)(hr:Room 3 X.A)(hc:X.env.code=.ref c)(hh:codeHdIn X.K c P=true)(hT:Y2 X.K=some (P,.tbl #[] lpos.line lpos.col (X.env.qual++"<lambda>")))(hB:JaM X.mg X.base)
 (hbi:∀(u y ctv pm:Qe),bindArgs (kla_fn "<lambda>" (X.env.qual++"<lambda>") (YM v p5) (YN v k p1 p2 p3 p4) (J3 v) [] pm y ctv) ⟨[u],[]⟩=pure ([v].zip [u]))
 (hd:(v == ("__debug__":Str))=false) (hcd:(v == ("__classdict__":Str))=false) (hcl:closureFor (J3 v) X.env=pure [])
 (he:backTo pos (starEach [e] X.env)=(false,eval e X.env)::backTo pos (starEach [] X.env):=by rfl) (hpl:(backTo pos (starEach [e] X.env)).any (·.1)=false:=by rfl) :
 PE X (.Call (.Name "sorted" p) [e] [⟨some "key",.Lambda (YM v p5) (YN v k p1 p2 p3 p4) (J3 v) lpos,kpos⟩] pos) (tSL X.K t):=by
 intro pins s σ H Q I h;refine Kp (Ud (u:=.builtin "sorted") I hg hm Jf1 ?_ (by decide) (by decide));refine callWith_kw (thn (ha pos pins s σ H _ I h) fun us s1 ⟨vs,H1,I1,r1,a,ws,ns,e1,tk,hq,h64,hlen,hit,mo,q1⟩=>?_) he hpl rfl rfl;subst e1;obtain⟨u,rfl,rx⟩:=Ws r1;cases rx;have hP:=tk P _ hT;have S:FnScope [v] [v] (J3 v):=⟨rfl,rfl,rfl,by simp,rfl,fun x hx=>.inl (by rw[Gz.mp hx];simp),fun y hy=>by rw[Gz.mp hy];exact fun z=>nomatch z⟩
 have Pn:∀{b:Qg} {o:Obj},X.base.get? b=some o->b≠P:=fun {b o} e z=>by have:=(I1.bs b o e).2;rw[z,hP] at this;cases this
 have hgP:mainGlobals≠P:=by obtain⟨o,es,ep,e,_⟩:=I1.ok.mod.glob;exact Pn e
 have hns:s1.heap.Ns mainGlobals X.mg:=I1.ok.mod.glob.keeps I1.bk
 have hBA:s1.heap.BuiltinsAt X.mg P:=by obtain⟨bm,ob,b1,b2,b3,b4,b5,b6⟩:=hB;refine⟨bm,ob,b1,b2,fun z=>?_,Pn b3,I1.bk _ _ b3,b4,b5,b6⟩;obtain⟨o,es,ep,e,hd,_⟩:=I1.ok.mod.glob;rw[<- z,b3] at e;cases e;rw[b6] at hd;cases hd
 have C:=Rk I1.kIn hh
 have body:∀(H2:Hp) (s2:Qh) (f y:Qg) (pm ctv:Qe),Inv X pins σ H2 s2->Grow P H1 H2->H2 P=some (.tbl #[] lpos.line lpos.col (X.env.qual++"<lambda>"))->H2 y=some (.own P)->y≠P->s2.heap.get? P=some { cls:=.none,data:=.fields (#[]++#[rawInt lpos.line,rawInt lpos.col,.ref y]) }->s2.heap.CodeRec (.ref y) (X.env.qual++"<lambda>") ->
  s2.heap.get? f=some (kla_obj "<lambda>" (X.env.qual++"<lambda>") (YM v p5) (YN v k p1 p2 p3 p4) (J3 v) [] pm y ctv)->H2 f=none->f∉frs X.stack ->
  wpAny (model X.prog X.w) X.A (call (.builtin "sorted") [.ref a] [(Q7 "key",.ref f)]) (EP X pins σ Q) X.xe s2:=fun H2 s2 f y pm ctv I2 g hP2 hy hyP gP hcd2 ho hf hfs=>by
  refine JaT (N:=[v]) (ps:=[v]) (t:=tUn (rU fun i=>.int (-i)) (tOp (rIx X.K) (Wf 0) (tC (.int 0)))) (ns:=ns) I2 hP2 hy hyP gP hcd2 ho hf hfs S rfl (fun u=>hbi u _ _ _) hr (fun A s H=>JkE rfl (.inl (by show K9 v [(v,NameKind.local)]=_;simp)) hd hcd) (fun b x z H Q h q=>Jib rfl h q) (g.seqL hq) h64 hlen (fun i w n h1 h2=>?_) mo fun D pp hD hp ha=>q1 P H2 D pp g hD hp ha
  obtain⟨b,eb,hb⟩:=hit i w n h1 h2;exact⟨b,eb,g.seqT hb⟩
 have nofr:∀f,s1.heap.objs.size<=f->f∉frs X.stack:=fun f hf z=>by obtain⟨_,o2,ho2,_⟩:=I1.stack.mem z;exact absurd (Qq ho2) (Rp.mpr hf)
 refine kws_cons (PySem.W.kla_eval rfl ?_);rcases I1.hok P _ hP with gP|⟨y,hy,hyP,gP,hcd1⟩
 ·refine PySem.W.kla_makeFunction (mg:=X.mg) hcl I1.ok.glob hns hc C gP trivial rfl hgP hBA fun c' ctv h' tk' hx hge hlt hrec htb=>kws_nil ?_
  have hn:H1 c'=none:=I1.hok.fresh hge;obtain⟨y',oc,cvs,tq,ey,hoc,hdc,hvq⟩:=hrec;cases ey
  have cP:c'≠P:=fun z=>by rw[z,hP] at hn;cases hn
  have up:∀b u,H1 b=some u->upd H1 c' (.own P) b=some u:=fun b u e=>by rw[Jf (Jo e hn)];exact e
  have ps:∀(b:Qg) (o:Obj),h'.get? b=some o->(h'.push (kla_obj "<lambda>" (X.env.qual++"<lambda>") (YM v p5) (YN v k p1 p2 p3 p4) (J3 v) [] ((X.mg "__name__").getD .none) c' ctv)).get? b=some o:=fun b o e=>Qi _ e
  have un:Un (frs X.stack) [] H1 (upd H1 c' (.own P)) s1.heap (h'.push (kla_obj "<lambda>" (X.env.qual++"<lambda>") (YM v p5) (YN v k p1 p2 p3 p4) (J3 v) [] ((X.mg "__name__").getD .none) c' ctv)):=by
   have nb:∀b,H1 b=none->b≠P:=fun b n z=>by rw[z,hP] at n;cases n
   refine⟨fun b o e n _ _=>ps _ _ (hx b o (nb b n) e),fun b o e n _ _=>⟨o.slots,ps _ _ (hx b o (nb b n) e)⟩,fun b o e n _=>?_,fun b o e _=>?_,fun b xs e=>up _ _ e,fun b o xs e=>up _ _ e,fun b _ _ _ _ e=>up _ _ e⟩
   ·rw[Jf (QK (QT (Qq e) hge))];exact n
   ·by_cases z:b=P
    ·subst z;exact⟨_,ps _ _ htb⟩
    ·exact⟨_,ps _ _ (hx b o z e)⟩
  have hok:HOk X.prog X.w (upd H1 c' (.own P)) (h'.push (kla_obj "<lambda>" (X.env.qual++"<lambda>") (YM v p5) (YN v k p1 p2 p3 p4) (J3 v) [] ((X.mg "__name__").getD .none) c' ctv)):=fun b u e=>by
   by_cases h1:b=c'
   ·subst h1;rw[Jm] at e;cases e;exact⟨_,ps _ _ hoc⟩
   ·rw[Jf h1] at e
    by_cases h2:b=P
    ·subst h2;rw[hP] at e;cases e;exact .inr ⟨c',Jm,cP,ps _ _ htb,c',oc,cvs,tq,rfl,ps _ _ hoc,hdc,hvq⟩
    ·refine(I1.hok b u e).stay (fun d v hd r=>ps _ _ (hx d v ?_ r)) (fun d r=>up _ _ r) fun d xs r=>up _ _ r
     rcases hd with rfl|hd
     ·exact h2
     ·exact fun z=>by rw[z,hP] at hd;cases hd
  have I2:=I1.call (t':=tk') (d':=s1.drawn) (g':=s1.gens) (ch:=[]) un hok I1.bare (fun b z=>absurd z (by simp))
  have hsz:s1.heap.objs.size<=h'.objs.size:=Q5 hge (G9 hlt);exact body _ _ h'.objs.size c' _ ctv I2 (.inr ⟨c',hn,rfl⟩) (up _ _ hP) Jm cP (ps _ _ htb) ⟨c',oc,cvs,tq,rfl,ps _ _ hoc,hdc,hvq⟩ (Qn _ rfl) (by rw[Jf (Lf hlt)];exact I1.hok.fresh hsz) (nofr _ hsz)
 ·refine PySem.W.kla_makeFunctionHit (mg:=X.mg) (ps:=#[]++#[rawInt lpos.line,rawInt lpos.col,.ref y]) (cv:=.ref y) hcl I1.ok.glob hns hc C gP trivial ?_ hBA fun ctv h' tk' hk hsz=>kws_nil ?_
  ·show codeAmong lpos [rawInt lpos.line,rawInt lpos.col,.ref y]=some (.ref y);unfold rawInt codeAmong;simp
  ·have ps:∀(b:Qg) (o:Obj),s1.heap.get? b=some o->(h'.push (kla_obj "<lambda>" (X.env.qual++"<lambda>") (YM v p5) (YN v k p1 p2 p3 p4) (J3 v) [] ((X.mg "__name__").getD .none) y ctv)).get? b=some o:=fun b o e=>Qi _ (hk b o e)
   have I2:=I1.call (t':=tk') (d':=s1.drawn) (g':=s1.gens) (ch:=[]) (Un.kept (H:=H1) ps) (I1.hok.kept ps) I1.bare (fun b z=>absurd z (by simp));obtain⟨y',oc,cvs,tq,ey,hoc,hdc,hvq⟩:=hcd1;cases ey;exact body _ _ h'.objs.size y _ ctv I2 (.inl rfl) hP hy hyP (ps _ _ gP) ⟨y,oc,cvs,tq,rfl,ps _ _ hoc,hdc,hvq⟩ (Qn _ rfl) (I1.hok.fresh hsz) (nofr _ hsz)
end
end L2

namespace LE
open PySem L2 LR
noncomputable def VV(p:PrI):List PrI->List PrI
 | []=>[p]
 | q::r=>if p.1<q.1 then q::VV p r else p::q::r
noncomputable def Yf(l:List PrI):List PrI:=l.foldr VV []
noncomputable def Jbh(ns:List PrI)(i:Nat):List Nat->List Nat
 | []=>[i]
 | j::r=>if (ns.getD i (0,0)).1<(ns.getD j (0,0)).1 then j::Jbh ns i r else i::j::r
noncomputable def UE(ns:List PrI)(l:List Nat):List Nat:=l.foldr (Jbh ns) []
theorem Jcn(ns:List PrI)(i:Nat):∀l:List Nat,(Jbh ns i l).map (fun i=>ns.getD i (0,0))=VV (ns.getD i (0,0)) (l.map fun i=>ns.getD i (0,0))
 | []=>rfl
 | j::r=>by
  rw[Jbh,Qd,VV];split
  ·rw[Qd,Jcn ns i r]
  ·rw[Qd,Qd]
theorem WW(ns:List PrI):∀l:List Nat,(UE ns l).map (fun i=>ns.getD i (0,0))=Yf (l.map fun i=>ns.getD i (0,0))
 | []=>rfl
 | i::r=>by show(Jbh ns i (UE ns r)).map _=VV (ns.getD i (0,0)) (Yf (r.map fun i=>ns.getD i (0,0)));rw[Jcn,WW ns r]
theorem VW(ns:List PrI)(i:Nat):∀l:List Nat,(Jbh ns i l).Perm (i::l)
 | []=>.refl _
 | j::r=>by
  rw[Jbh];split
  ·exact((VW ns i r).cons j).trans (.swap i j r)
  ·exact .refl _
theorem Y5(ns:List PrI):∀l:List Nat,(UE ns l).Perm l
 | []=>.refl _
 | i::r=>(VW ns i (UE ns r)).trans ((Y5 ns r).cons i)
theorem ltI_iff{ns:List PrI}{a b:Nat}:ltI ns a b=true↔(ns.getD b (0,0)).1<(ns.getD a (0,0)).1\/((ns.getD a (0,0)).1=(ns.getD b (0,0)).1/\a<b):=by
 unfold ltI ltG;dsimp only;split
 ·next e=>rw[decide_eq_true_iff];exact⟨fun h=>.inr ⟨e,h⟩,fun h=>h.elim (fun h=>by omega) fun h=>h.2⟩
 ·next e=>rw[decide_eq_true_iff];exact⟨fun h=>.inl h,fun h=>h.elim id fun h=>absurd h.1 e⟩
theorem Je1(ns:List PrI)(i:Nat):∀l:List Nat,(∀j∈l,i<j)->l.Pairwise (fun a b=>ltI ns a b=true)->(Jbh ns i l).Pairwise fun a b=>ltI ns a b=true
 | [],_,_=>List.pairwise_singleton _ _
 | j::r,h,pw=>by
  obtain⟨h1,h2⟩:=QO.mp pw;have ij:=h j Qf;rw[Jbh];split
  ·next c =>
   refine QO.mpr ⟨fun a ha=>?_,Je1 ns i r (fun a ha=>h a (Qc _ ha)) h2⟩;rcases Qj.mp ((VW ns i r).mem_iff.mp ha) with rfl|ha
   ·exact ltI_iff.mpr (.inl c)
   ·exact h1 a ha
  ·next c =>
   refine QO.mpr ⟨fun a ha=>?_,pw⟩;have ia:=h a ha
   have le:(ns.getD a (0,0)).1<=(ns.getD j (0,0)).1:=by
    rcases Qj.mp ha with rfl|ha
    ·exact QD _
    ·have:=ltI_iff.mp (h1 a ha);omega
   exact ltI_iff.mpr (by omega)
theorem Jai(ns:List PrI):∀l:List Nat,l.Pairwise (·<·)->(UE ns l).Pairwise fun a b=>ltI ns a b=true
 | [],_=>.nil
 | i::r,pw=>by obtain⟨h1,h2⟩:=QO.mp pw;exact Je1 ns i _ (fun j hj=>h1 j ((Y5 ns r).mem_iff.mp hj)) (Jai ns r h2)
theorem Jkl{ns:List PrI}{a b:Nat}(h1:ltI ns a b=true)(h2:ltI ns b a=true):False:=by
 have h1:=ltI_iff.mp h1
 have h2:=ltI_iff.mp h2;omega
theorem asc_uniq{ns:List PrI}{p:List Nat}{n:Nat}(hp:p.Perm (QQ n))(ha:∀a b,a<b->b<n->ltI ns (p.getD a 0) (p.getD b 0)=true):p=UE ns (QQ n):=by
 have pl:p.length=n:=by rw[hp.length_eq,Ms]
 have pw:p.Pairwise fun a b=>ltI ns a b=true:=GH.mpr fun i j hi hj hij=>by
  have:=ha i j hij (by omega)
  simpa [hi,hj] using this
 exact(hp.trans (Y5 ns _).symm).eq_of_pairwise (le:=fun a b=>ltI ns a b=true) (fun a b _ _ h1 h2=>(Jkl h1 h2).elim) pw (Jai ns _ List.pairwise_lt_range)
noncomputable def ZI:List PrI->Bool
 | []=>true
 | [_]=>true
 | p::q::r=>decide (p.1<=q.1) && ZI (q::r)
theorem Z1:∀{p:PrI} {l:List PrI},ZI (p::l)=true->∀q∈l,p.1<=q.1
 | p,q::r,h,x,hx=>by
  rw[ZI,QL] at h;have h1:=of_decide_eq_true h.1;rcases Qj.mp hx with rfl|hx
  ·exact h1
  ·have:=Z1 h.2 x hx;omega
theorem Jes:∀{l:List PrI},ZI l=true->l.Pairwise fun p q=>p.1<=q.1
 | [],_=>.nil
 | p::l,h=>by
  refine QO.mpr ⟨Z1 h,Jes ?_⟩
  cases l with
  | nil=>rfl
  | cons q r=>rw[ZI,QL] at h;exact h.2
noncomputable def Ja4:List Sl->Option Sl
 | [s]=>s.r.bind fun ds=>(prs? ds).bind fun ps=>if ps.length<64/\ZI ps=true then some (.own ((Yf ps).map prE)) else none
 | _=>none
section
variable{K:Qz}{C:Qg}{t:TA}{ev:En->Option (List Sl)}
theorem JgN(ha:SA K C t ev):SE K C (tSL K t) (eF Ja4 ev):=by
 intro B H0 H σ E c Q I e q;obtain⟨a,e1,e⟩:=bind_some e;unfold Ja4 at e;split at e
 ·obtain⟨ds,e2,e⟩:=bind_some e;obtain⟨ps,e3,e⟩:=bind_some e;split at e
  ·next hp =>
   cases e;refine ha B H0 H σ E _ _ I e1 fun x H1 H1' s1 r1=>?_
   obtain⟨v,rfl,r0⟩:=r1.one;obtain⟨l,ys,rfl,h,r2⟩:=r0.r s1.i e2;rw[JcW e3] at r2;have len:ys.length=ps.length:=by rw[r2.1,Qv]
   refine⟨l,ys,ps,rfl,I.t.mono fun a o z=>s1.h _ _ (I.b _ _ z),h,by omega,len,fun i w p h1 h2=>?_,fun i j hij hj=>?_,fun P H2 D pp g hD hperm hasc=>?_⟩
   ·obtain⟨aa,xs,rfl,hsq,rr⟩:=RD.tupI (r2.2 i w (prE p) h1 (by rw[Qm,h2];rfl));have rr':RDL K C H1 xs ([p.1,p.2].map D.int):=rr;have:=rr'.ints;subst this;exact⟨aa,rfl,Same.seqT s1.i hsq⟩
   ·by_cases c:i=j
    ·subst c;exact QD _
    ·have pw:=Jes hp.2
     have:=GH.mp pw i j (by omega) hj (by omega)
     simpa [hj,show i<ps.length by omega] using this
   ·have ep:=asc_uniq (ns:=ps) hperm hasc
    have sm:Same H1' H2:=by
     rcases g with rfl|⟨y,n,rfl⟩
     ·exact Same.refl _
     ·exact .new n
    have s2:Step H H1 H1' H1 H2:=⟨sm,Same.refl _,fun _ _ z=>.inl z,s1.i.trans sm⟩
    refine UY (H:=H2) (Hs:=H) (H0:=H1) (s1.i.trans sm) (s1.h.trans sm) hD (ds:=(Yf ps).map prE) ?_ fun v H3 H3' s3 r3=>q v H3 H3' ⟨(s1.h.trans sm).trans s3.h,s1.z.trans s3.z,fun a o z=>?_,s3.i⟩ r3
    ·rw[ep,len]
     have em:Yf ps=(UE ps (QQ ps.length)).map fun i=>ps.getD i (0,0):=by
      rw[WW];congr 1;refine Ga fun i=>?_
      rw[Qm]
      by_cases h:i<ps.length
      ·rw[List.getElem?_range h,Kz,QM h];simp[h]
      ·rw[Gj (by simpa using h),Gj (by simpa using h)];rfl
     rw[em,Qw];refine⟨by rw[Qv,Qv],fun i w d h1 h2=>?_⟩;rw[Qm] at h1 h2
     cases hx:(UE ps (QQ ps.length))[i]? with
     | none=>rw[hx] at h1;cases h1
     | some j =>
      rw[hx] at h1 h2;have hj:j<ps.length:=by simpa using (Y5 ps _).mem_iff.mp (QX hx)
      cases h1;cases h2;refine r2.2 j _ _ ?_ ?_
      ·simp[show j<ys.length by omega]
      ·simp[hj]
    ·rcases s3.n a o z with z|z|z
     ·exact(s1.n a o z).imp id id
     ·exact .inr (.inl z)
     ·exact .inr (.inr z)
  ·cases e
 ·cases e
end
end LE

namespace LE
open PySem L2
theorem JoF{K:Qz}{P:Qg}{t:HO}(h:Y2 K=some (P,t)):∃c l k q,codeHdIn K c P=true/\t=.tbl #[] l k q:=by
 unfold Y2 at h;split at h
 ·split at h
  ·unfold JfQ at h;split at h
   ·split at h
    ·split at h
     ·split at h
      ·next hh=>cases h;exact⟨_,_,_,_,hh,rfl⟩
      ·cases h
     ·cases h
    ·cases h
   ·cases h
  ·cases h
 ·cases h
end LE
namespace L2
open PySem PySem.Spec PyProof.Rows LE
theorem Jgu{P:Qy}{w:QH}{K:Qz}{mg mb:Str->Option Qe}{CX:CXT}{k:Nat}{fa a Pt:Qg}{t:HO}{fd:QJ}{x:Str}{sp:Sp}{s₁:Qh}{vs:List Qe}{ns:List Int}
 (KX:K.In s₁.heap) (hns:s₁.heap.Ns mainGlobals mg) (hb:s₁.heap.Ns builtinsNs mb) (hbb:∀x:Str,x≠"__name__"->mb x=bootBuiltins x) (hlim:s₁.heap.NoLimit) (hg:s₁.gens=#[])
 (hBM:JaM mg s₁.heap) (hT:Y2 K=some (Pt,t)) (gP:s₁.heap.get? Pt=some { cls:=.none,data:=.fields #[] }) (hKP:K.lookup Pt=none)
 (ha:s₁.heap.get? a=some { cls:=.type "list",data:=.seq vs.toArray }) (hi:IntsAre vs ns) (hl:ns.length<=Qt) (hr:Room k callerA)
 (F:∀base:QP,K.In base->base.Ns mainGlobals mg->JaM mg base->FnOk P w K mg base CX k fa fd [x] sp) (hbind:∀(s:Qh) (u:Qe),BindsTo s fd ⟨[u],[]⟩ [(x,u)])
 (hsp:∀H:Hp,TabK K H->SqL K H a (ns.map V.int)->sp [.ref a] H (fun v _=>v=.bl true) fun _ _ _=>False)
 (hCX:∀H e s',CX [] H s₁ (fun _ _ _=>False) e s'->False) :
 codeAny (model P w) callerA (.call (.ref fa) ⟨[.ref a],[]⟩) (fun r s'=>r=.ok (.ret (.bool true))/\OldK s₁.heap s'.heap/\s'.os=s₁.os/\AllBare s'.gens) s₁:=by
 have rv:=JaL hi
 have lenV:=hi.length;obtain⟨cc,lq,kq,q,hh,rfl⟩:=JoF hT
 have aP:a≠Pt:=fun z=>by rw[z,gP] at ha;cases ha
 have code:isCodeTable s₁.heap Pt:=((Rk KX hh).tab gP).isCodeTable
 have core:∀H:Hp,H Pt=some (.tbl #[] lq kq q)->(∀b,H b=none\/b=Pt\/∃o xs,H b=some (.frz o (.lst xs)))->SqL K H a (ns.map V.int)->HOk P w H s₁.heap->(∀b,H b≠none->b=a\/b=Pt)->(H a≠none->K.lookup a=none) ->
  codeAny (model P w) callerA (.call (.ref fa) ⟨[.ref a],[]⟩) (fun r s'=>r=.ok (.ret (.bool true))/\OldK s₁.heap s'.heap/\s'.os=s₁.os/\AllBare s'.gens) s₁:=by
  intro H hPt hO hS hok hA hK;have base_of:∀{b:Qg} {o:Obj},s₁.heap.get? b=some o->H b=none->(ZN s₁.heap H).get? b=some o:=fun e n=>JhI e n
  have noA:∀{b:Qg} {o:Obj},s₁.heap.get? b=some o->(∀v n,o.data≠.seq v n)->(∀v,o.data≠.fields v)->H b=none:=fun {b o} e d1 d2=>by
   cases q:H b with
   | none=>rfl
   | some u =>
    rcases hA b (by rw[q];simp) with e'|e'
    ·subst e';rw[ha] at e;cases e;exact absurd rfl (d1 _ _)
    ·subst e';rw[gP] at e;cases e;exact absurd rfl (d2 _)
  have nsK:∀{b:Qg} {m:Str->Option Qe},s₁.heap.Ns b m->(ZN s₁.heap H).Ns b m:=fun {b m} ⟨o,es,ep,e,d,r⟩=>⟨o,es,ep,base_of e (noA e (fun _ _ z=>by rw[d] at z;cases z) fun _ z=>by rw[d] at z;cases z),d,r⟩
  have hKb:K.In (ZN s₁.heap H):=fun b o e=>base_of (KX b o e) (by
   cases q:H b with
   | none=>rfl
   | some u =>
    rcases hA b (by rw[q];simp) with e'|e'
    ·subst e';rw[hK (by rw[q];simp)] at e;cases e
    ·subst e';rw[hKP] at e;cases e)
  have hM:Mod K mg (ZN s₁.heap H):=⟨hKb,nsK hns,⟨mb,nsK hb,hbb⟩,let ⟨mc,h1,h2⟩:=hlim;⟨mc,nsK h1,h2⟩⟩
  have hBb:JaM mg (ZN s₁.heap H):=let ⟨bm,ob,b1,b2,b3,b4,b5,b6⟩:=hBM;⟨bm,ob,b1,b2,base_of b3 (noA b3 (fun _ _ z=>by rw[b6] at z;cases z) fun _ z=>by rw[b6] at z;cases z),b4,b5,b6⟩
  have e0:Env0 P w K mg (ZN s₁.heap H) callerA [] s₁ H:=⟨rfl,hM,fun b o e=>Jkv e,L5 (Jgk _ _),trivial,fun b hb=>absurd (show b∈([]:List Qg) from hb) (by simp),hok,.of_eq hg⟩
  have tk:TabK K H:=fun P' t' e=>by rw[hT] at e;cases e;exact hPt
  refine L6 ((F _ hKb (nsK hns) hBb).run callerA [] s₁ H ⟨[.ref a],[]⟩ [.ref a] [.ref a] _ _ hr e0 (hbind s₁ (.ref a)) (.cons rfl .nil) (hsp H tk hS)) fun r s' h=>?_
  cases r with
  | error e=>exact(hCX H e s' h).elim
  | ok fl =>
   cases fl with
   | next=>exact Gx h
   | brk=>exact Gx h
   | cont=>exact Gx h
   | ret u =>
    obtain⟨v,H',os,bare,un,hok',r',q⟩:=h;have q':v=.bl true:=q;subst q';obtain rfl:u=Value.bool true:=r';refine⟨rfl,⟨fun b o e=>?_,fun b o e=>un.there b o e (by simp)⟩,os,bare⟩
    by_cases bP:b=Pt
    ·subst bP;rw[gP] at e;cases e;have hP':=un.tbls b _ _ _ _ hPt;rcases hok' b _ hP' with z|⟨y,_,_,z,_⟩
     ·exact .inl z
     ·exact .inr (.inl ⟨code,rfl,#[],_,rfl,z⟩)
    ·refine .inl ?_
     cases q:H b with
     | none=>exact un.keep b o e q (by intro z;exact absurd (show b∈([]:List Qg) from z) (by simp)) (by simp)
     | some u =>
      rcases hO b with z|z|⟨ob,xs,z⟩
      ·rw[q] at z;cases z
      ·exact absurd z bP
      ·have z2:=un.frzs b ob _ z;obtain⟨e1,_⟩:=hok b _ z;obtain⟨e2,_⟩:=hok' b _ z2;rw[e] at e1;cases e1;exact e2
 cases hk:K.lookup a with
 | some o =>
  have e:=KX a o hk;rw[ha] at e;cases e;refine core (fun b=>if b=Pt then some (.tbl #[] lq kq q) else none) (if_pos rfl) (fun b=>?_) (.inr ⟨_,vs.toArray,_,hk,rfl,rfl,rfl,by rw[Qr,lenV];exact hl,by simpa using rv⟩) (fun b u z=>?_) (fun b z=>?_) fun z=>absurd (if_neg aP) z
  ·by_cases hb:b=Pt
   ·exact .inr (.inl hb)
   ·exact .inl (if_neg hb)
  ·by_cases hb:b=Pt
   ·have z':=(if_pos hb).symm.trans z;cases z';subst hb;exact .inl gP
   ·have z':=(if_neg hb).symm.trans z;cases z'
  ·by_cases hb:b=Pt
   ·exact .inr hb
   ·exact absurd (if_neg hb) z
 | none =>
  refine core (fun b=>if b=Pt then some (.tbl #[] lq kq q) else if b=a then some (.frz { cls:=.type "list",data:=.seq vs.toArray } (.lst (ns.map V.int))) else none) (if_pos rfl) (fun b=>?_) (.inl (.inr ⟨{ cls:=.type "list",data:=.seq vs.toArray },(if_neg aP).trans (if_pos rfl)⟩)) (fun b u z=>?_) (fun b z=>?_) fun _=>hk
  ·by_cases hp:b=Pt
   ·exact .inr (.inl hp)
   ·by_cases hb:b=a
    ·exact .inr (.inr ⟨_,_,(if_neg hp).trans (if_pos hb)⟩)
    ·exact .inl ((if_neg hp).trans (if_neg hb))
  ·by_cases hp:b=Pt
   ·have z':=(if_pos hp).symm.trans z;cases z';subst hp;exact .inl gP
   ·have z:=(if_neg hp).symm.trans z
    by_cases hb:b=a
    ·have z':=(if_pos hb).symm.trans z;cases z';subst hb;exact⟨ha,by rw[Qv];exact hl,vs,_,rv,ha⟩
    ·have z':=(if_neg hb).symm.trans z;cases z'
  ·by_cases hp:b=Pt
   ·exact .inr hp
   ·by_cases hb:b=a
    ·exact .inl hb
    ·exact absurd ((if_neg hp).trans (if_neg hb)) z
theorem Ji3{l:PySem.W.OpenLaw}{n k:Nat}{q:Qy}{loose:List Str}{XP:(Str->Option Qe)->QP->Prop}{YP:QH->QP->Prop}{d:DefRec}{K:Params->Qz}{CX:QH->CXT}{sp:QH->Sp}{x:Str}{Pt:Qg}
 (hn:l.most=some n) (hn2:n<=Qt) (hdf:d.params.defaults=[]) (hr:Room k callerA)
 (hY:∀(w:QH) (h:QP),YP w h->(K w.params).In h/\h.get? Pt=some { cls:=.none,data:=.fields #[] })
 (hT:∀w:QH,(Y2 (K w.params)).map (·.1)=some Pt) (hKP:∀w:QH,(K w.params).lookup Pt=none)
 (F:∀(w:QH) (mg:Str->Option Qe) (fa:Qg) (h:QP),(K w.params).In h->h.Ns mainGlobals mg->mg d.name=some (.ref fa) ->
  ∃fd:QJ,(∀(s:Qh) (u:Qe),BindsTo s fd ⟨[u],[]⟩ [(x,u)]) ∧
   ∀base:QP,(K w.params).In base->base.Ns mainGlobals mg->JaM mg base->FnOk l.prog w (K w.params) mg base (CX w) k fa fd [x] (sp w))
 (hsp:∀(w:QH) (H:Hp) (a:Qg) (ns:List Int),ns.length<=n->TabK (K w.params) H->SqL (K w.params) H a (ns.map V.int)->sp w [.ref a] H (fun v _=>v=.bl true) fun _ _ _=>False)
 (hCX:∀(w:QH) (H:Hp) (s:Qh) (e:Qe) (s':Qh),CX w [] H s (fun _ _ _=>False) e s'->False) :
 PySem.W.WalkO q loose XP YP l.row.toRowW d [] (fun f vs=>PySem.call f vs):=by
 refine Att.attach_call hn hdf fun w s₀ s₁ mg mb fa o pm cd doc a vs ns G Y ho hd hcd hmg hobj hints hlen hg=>?_
 obtain⟨KX,gP⟩:=hY w _ Y;obtain⟨⟨P',t⟩,hT',e⟩:=Gd.mp (hT w);obtain rfl:P'=Pt:=e;obtain⟨fd,hb,hF⟩:=F w mg fa _ KX G.T.g hmg;obtain⟨bm,ob,b1,b2,b3,b4,b5,b6⟩:=G.T.bmain;exact Jgu KX G.T.g G.T.b G.T.builtins G.T.nolimit hg ⟨bm,ob,b1,b2,b3,b4,b5,b6⟩ hT' gP (hKP w) hobj hints (Q5 hlen hn2) hr hF hb (fun H hO hS=>hsp w H a ns hlen hO hS) fun H e s'=>hCX w H s₁ e s'
end L2
namespace LE
open PySem PySem.Spec PyProof.Rows L2 LR
section
variable{P:Qy}{w:QH}{K:Qz}{mg:Str->Option Qe}{base:QP}{C:Qg}{x qual:Str}{st:G0}{f:Qg}{fd:QJ}{N ps:List Str}{k n l c:Nat}{b:Es}
theorem JqS(F:Fun K x qual st f fd)(S:FnScope N ps (Jh st))(hn:n=ps.length)(a:nsIn K mainGlobals "early_lines"=some (some (.ref f)))(hs:(Y2 K).isSome=true)(hp:JdM (Ym st)=some (l,c))
 (hb:∀(cdv:Qe) (A:QF) (outer:List Env) (s:Qh) (H:Hp) (E:XK),LamC K qual l c cdv->Room k (A.deeper (envOfC qual (Jh st) s.heap.objs.size f cdv))->(A.deeper (envOfC qual (Jh st) s.heap.objs.size f cdv)).units+64<cLine ->
  ∃t,PSs (VQ CX0 P w K mg base N qual (Jh st) f cdv A outer s H E).nox (Ym st) t/\SS K C t b):FnOk P w K mg base CX0 (k+1) f fd ps (spE K C n (Yq N.length b)):=by
 obtain⟨oc,od,kV,doc,pm,an,cdv,ct,osl,rfl,lk,hcd⟩:=F.ex;have L:=Jkh a lk hs hp;refine JlB lk hcd S (fun vs H Q E h=>(JfF h).trans hn) fun A outer s H vs Q E hr h=>?_
 obtain⟨t,q1,q2⟩:=hb cdv A outer s H E L hr hr.units;exact⟨t,q1.nox,JeT q2 h⟩
noncomputable def JbJ(K:Qz):Sp:=fun vs H Q E=>TabK K H/\LR.Jqe K vs H Q E
theorem JhZ{ev:List Sl->Option Sl}(F:FnOk P w K mg base CX0 k f fd ps (spE K C 1 ev))
 (h:∀ns:List Int,ns.length<=63->ev [.sh (.fz (ns.map .int))]=some (.sh (.bl true))):FnOk P w K mg base CX0 k f fd ps (JbJ K) :=
 F.imp fun vs H Q E ⟨tk,a,ns,e,hS,hl,q⟩=>by subst e;exact⟨tk,H,[.sh (.fz (ns.map .int))],_,Same.refl _,.cons (show RD K C H _ _ from RD.mkF hS (RDL.ofInts ns)) .nil,rfl,rfl,h ns hl,fun v H0' H' _ r=>by rw[RD.blI r];exact q H'⟩
end
end LE
namespace L2
open PySem PySem.Spec PyProof.Rows LE
theorem Jig{X:Cx}{K:Qz}{e:Q6}{t:TA}{v qual:Str}{k l c:Nat}{cdv:Qe}{p pos kpos lpos p1 p2 p3 p4 p5:Pos}(L:LamC K qual l c cdv)(hB:JaM X.mg X.base)(hr:Room 3 X.A)(hK:X.K=K)(hcd:X.env.code=cdv)(hq:X.env.qual=qual++".<locals>.")(hl:lpos.line=l)(hc:lpos.col=c)
 (hg:Gl X "sorted") (hm:X.mg "sorted"=none) (ha:PA X [e] t)
 (hbi:∀(u y ctv pm:Qe),bindArgs (kla_fn "<lambda>" (X.env.qual++"<lambda>") (YM v p5) (YN v k p1 p2 p3 p4) (J3 v) [] pm y ctv) ⟨[u],[]⟩=pure ([v].zip [u]))
 (hd:(v == ("__debug__":Str))=false) (hcl:(v == ("__classdict__":Str))=false) (hcf:closureFor (J3 v) X.env=pure [])
 (he:backTo pos (starEach [e] X.env)=(false,eval e X.env)::backTo pos (starEach [] X.env):=by rfl) (hpl:(backTo pos (starEach [e] X.env)).any (·.1)=false:=by rfl) :
 PE X (.Call (.Name "sorted" p) [e] [⟨some "key",.Lambda (YM v p5) (YN v k p1 p2 p3 p4) (J3 v) lpos,kpos⟩] pos) (tSL K t):=by
 subst hK hl hc;obtain⟨P,c,e1,hh,hT⟩:=L.ex;exact Jd2 hg hm ha hr (hcd.trans e1) hh (by rw[hT,hq]) hB hbi hd hcl hcf he hpl
end L2

namespace LE
open PySem L2 LR
section
variable{K:Qz}{C:Qg}{B H0 H H0' H':Hp}{σ σ':St}{E E':En}{i j c m:Nat}{ks:List Int}{dss:List (List D)}{l a:Qg}{ls:List Qg}{ds:List D}
theorem Grp.more(g:Grp K C B H0 H σ E j c ks dss l ls):Grp K C B H0 H σ E j (c+1) ks dss l ls :=
 ⟨g.at',g.dict,g.l0,g.lb,g.len,g.len2,LG g.cnt,fun m a ds e1 e2=>(g.lists m a ds e1 e2).imp LG id,g.nd,g.own⟩
end
end LE

end
open L2 LR
local macro_rules | `(tactic| walk_at "side")=>`(tactic| first | decide | exact⟨by decide,by decide,by decide⟩ | exact⟨by decide,by decide⟩ | (show(0:Int)<_;omega) | (show(0:Int)<_/\_<(1073741824:Int);omega) | exact Or.inl ⟨by omega,by omega⟩ | exact Or.inr ⟨by omega,by omega⟩ | assumption)
local macro_rules | `(tactic| walk_at "rd1")=>`(tactic| with_reducible first | refine Job ?_ | refine JnR ?_ | refine JnW ?_ | refine Jn9 ?_ | refine JkR ?_ | refine JkX ?_ | refine JpQ ?_ | refine JpT ?_ | refine Jk1 ?_ | refine JpS ?_ | refine Jk2 ?_ | refine JnQ ?_ | refine JpR ?_ | refine Jn7 ?_ | refine JkZ ?_ | refine JkP ?_ | refine Jn8 ?_ | refine JnV ?_ | refine JkQ ?_ | refine Jn6 ?_ | refine JpN ?_ | refine Jfx ?_ | refine LR.Jfz ?_ | refine Joc ?_ | refine Jn2 ?_ | refine JpP ?_ | refine JiC ?_ | refine JkT ?_ | refine JiB ?_ | refine JkS ?_ | refine JnU ?_ | refine Jk0 ?_ | refine JiA ?_ | refine Joe ?_ | refine JqV ?_ | refine JpO ?_ | refine JqX ?_ | refine JkO ?_ | refine JnS ?_ | refine Jn4 ?_ | refine JnT ?_ | refine Jn5 ?_ | refine JnX ?_ | refine JkY ?_ | refine Jn3 ?_ | refine JiD ?_ | refine Exists.intro _ (And.intro (LR.JoI _ _ _) ?_))
local macro_rules | `(tactic| walk_at "rd2")=>`(tactic| first | ((with_reducible refine JqW ?hc ?_);(case hc=>walk_at "side")) | ((with_reducible refine Jod (v:=?vv) ?hx ?_);(case hx=>exact rfl)) | (with_reducible refine Exists.intro _ (And.intro (Eq.refl (V.bl _)) ?_)))
local macro_rules | `(tactic| walk_at "rd")=>`(tactic| repeat (first | walk_at "rd1" | walk_at "rd2"))
noncomputable section
namespace LK
open PySem L2 LR LE
noncomputable def Yj:List Sl->Option Sl:=Yq 1 (YB (Jjx (Jjy "int" (Jb 0)) (Jjx (Jmm (Jjy "bool" (Jb 0))) (JaX fLe fLe (e1 Jce (eC (.int 1000))) (Jb 0) (eC (.int 1000))))))
noncomputable def J9:List Sl->Option Sl:=Yq 3 (Jr (Wi (iR2 (aC (eC (.int 1)) (aC (eF VR (aC (Jb 0) a0)) a0))) (.nm 1) (Jr (Jt 2 (e2 J0 (e2 J0 (e2 fIx (e2 fIx (Jb 0) (Jb 1)) (eC (.int 0))) (e2 fIx (e2 fIx (Jb 0) (e2 J0 (Jb 1) (eC (.int 1)))) (eC (.int 0)))) (e2 fIx (e2 fIx (Jb 0) (e2 J0 (Jb 1) (eC (.int 1)))) (eC (.int 1)))))
 (xIf (tOr? (tB? (e2 fGt (e2 fIx (e2 fIx (Jb 0) (e2 J0 (Jb 1) (eC (.int 1)))) (eC (.int 1))) (e2 fIx (e2 fIx (Jb 0) (Jb 1)) (eC (.int 1))))) (tB? (e2 fLt (Jb 2) (e2 fIx (e2 fIx (Jb 0) (e2 J0 (Jb 1) (eC (.int 1)))) (eC (.int 1)))))) (YB (eC (.bl false))) UA)))
 (YB (eC (.bl true))))
noncomputable def JJ:List Sl->Option Sl:=Yq 1 (YB (Y4 (JmI true (aC (Jb 0) a0)) (.tp (.cons (.nm 0) (.cons (.nm 1) .nil))) yes? (U2 (aC (e2 J0 (e2 J0 (eC (.int 1)) (Jb 0)) (Jb 1)) (aC (Jb 1) a0))) [none,none]))
noncomputable def Ye:List Sl->Option Sl:=Yq 10 (Jr (ZW 2 (ZM a0))
 (Jr (Jt 3 (eC (.int 0)))
 (Jr (Jt 4 (eC (.int 0)))
 (Jr (Wi (iR1 (aC (eF VR (aC (Jb 0) a0)) a0)) (.nm 5) (Jr (JoL (.tp (.cons (.nm 6) (.cons (.nm 7) .nil))) (e2 fIx (Jb 0) (Jb 5)))
 (Jr (Jt 8 (Jb 7))
 (Jr (xIf (tB? (e2 WV (Jb 1) (eC .non))) (Jt 8 (eF Jdy (aC (Jb 7) (aC (e2 J0 (Jb 1) (Jb 3)) a0)))) UA)
 (Jr (Jt 3 (e2 J2 (Jb 3) (Jb 8)))
 (Jr (Jt 4 (e2 J2 (Jb 4) (Jb 8)))
 (Jr (Jt 9 (Jb 3))
 (Jr (xIf (tB? (e2 fLt (e2 J2 (Jb 5) (eC (.int 1))) (eF VR (aC (Jb 0) a0)))) (Jt 9 (eF Jdy (aC (Jb 3) (aC (e2 J0 (e2 J0 (e2 fIx (e2 fIx (Jb 0) (e2 J2 (Jb 5) (eC (.int 1)))) (eC (.int 0))) (Jb 6)) (Jb 7)) a0)))) UA)
 (Jr (Jt 3 (e2 J0 (Jb 3) (Jb 9)))
 (Jdg 2 (U2 (aC (e2 J2 (Jb 6) (Jb 8)) (aC (e2 J2 (e2 J0 (Jb 7) (Jb 8)) (Jb 9)) a0)))))))))))))
 (JoM 2 (YB (U2 (aC (Jb 2) (aC (Jb 4) a0)))))))))
noncomputable def Yv:List Sl->Option Sl:=Yq 3 (Jr (Wi (iR1 (aC (Jb 1) a0)) (.nm 2) (Jt 0 (e2 fIx (eU 2 Ye (aC (Jb 0) (aC (eC .non) a0))) (eC (.int 0)))))
 (Jr (Wi (iR1 (aC (e2 J0 (eC (.int 0)) (Jb 1)) a0)) (.nm 2) (Jt 0 (eU 1 JJ (aC (e2 fIx (eU 2 Ye (aC (eU 1 JJ (aC (Jb 0) a0)) (aC (eC .non) a0))) (eC (.int 0))) a0))))
 (Ua 0)))
noncomputable def JL:List Sl->Option Sl:=Yq 4 (Jr (Jt 3 (eU 2 Yv (aC (Jb 0) (aC (Jb 1) a0))))
 (Jr (xIf (tTru? (Jb 2)) (Jt 3 (eU 1 JJ (aC (Jb 3) a0))) UA)
 (YB (eU 1 J9 (aC (Jb 3) a0)))))
noncomputable def JS:List Sl->Option Sl:=Yq 1 (YB (Y4 (Jka true (aC (Jb 0) (aC (eSl (Jb 0) (some (eC (.int 1))) none) a0))) (.tp (.cons (.nm 0) (.cons (.nm 1) .nil))) (tB? (e2 fNe (e2 fIx (Jb 0) (eC (.int 0))) (e2 fIx (Jb 1) (eC (.int 0))))) (U2 (aC (Jb 0) (aC (Jb 1) a0))) [none,none]))
noncomputable def Yc:List Sl->Option Sl:=Yq 5 (Jr (ZW 1 (ZM a0))
 (Jr (Wi (iV 0) (.tp (.cons (.nm 2) (.cons (.nm 3) .nil))) (xIf (tAnd? (tTru? (Jb 1)) (tB? (e2 fEq (eF Jgf (aC (e2 fIx (Jb 1) (e1 Jce (eC (.int 1)))) a0)) (Jb 2)))) (Jr (Jls 1 4 some)
 (Jdg 1 (U2 (aC (e2 fIx (Jb 4) (eC (.int 0))) (aC (e2 J2 (e2 fIx (Jb 4) (eC (.int 1))) (Jb 3)) a0))))) (xIf (tB? (e2 fGt (Jb 3) (eC (.int 0)))) (Jdg 1 (U2 (aC (Jb 2) (aC (Jb 3) a0)))) UA)))
 (Ua 1)))
noncomputable def Yb:List Sl->Option Sl:=Yq 2 (YB (Y4 (Jcj true (aC (e1 U8 (Jb 0)) a0)) (.tp (.cons (.nm 0) (.cons (.nm 1) .nil))) yes? (U2 (aC (e2 J2 (e2 fIx (Jb 1) (eC (.int 0))) (e2 VS (e2 VS (eC (.int 2)) (Jb 2)) (Jb 0))) (aC (e2 J2 (e2 fIx (Jb 1) (eC (.int 1))) (Jb 2)) a0))) [none,none,some 1]))
noncomputable def YT:List Sl->Option Sl:=Yq 1 (YB (Y4 (Jka true (aC (e1 U8 (Jb 0)) (aC (eSl (e1 U8 (Jb 0)) (some (eC (.int 1))) none) a0))) (.tp (.cons (.nm 0) (.cons (.nm 1) .nil))) yes? (e2 J0 (e2 fIx (Jb 1) (eC (.int 0))) (eF Jgf (aC (Jb 0) a0))) [none,none]))
noncomputable def JF:List Sl->Option Sl:=Yq 1 (YB (eF Jcd (aC (e2 J2 (Y4 (iE true (e1 U8 (Jb 0))) (.tp (.cons (.nm 0) (.cons (.nm 1) .nil))) yes? (Jb 1) [none,none]) (eU 1 YT (aC (Jb 0) a0))) a0)))
noncomputable def JT:List Sl->Option Sl:=Yq 5 (Jr (Jt 2 (eF JdA (aC (e1 U8 (Jb 0)) a0)))
 (Jr (Jt 3 (Jb 1))
 (Jr (Yh (tAnd? (tB? (e2 fGt (Jb 3) (eC (.int 0)))) (tTru? (e1 U8 (Jb 2)))) (Jr (Jt 4 (eF Jdy (aC (Jb 3) (aC (eU 1 JF (aC (Jb 2) a0)) a0))))
 (Jr (Jt 2 (eF JdA (aC (eU 1 Yc (aC (eU 2 Yb (aC (Jb 2) (aC (e1 Jce (Jb 4)) a0))) a0)) a0)))
 (Jdh (fun i j=>i-j) 3 (Jb 4)))) 1000000)
 (Ua 2))))
noncomputable def YD:List Sl->Option Sl:=Yq 2 (YB (eF JjS (aC (Y4 (iE true (e1 U8 (Jb 0))) (.tp (.cons (.nm 0) (.cons (.nm 1) .nil))) yes? (JaX fLe fLt (Jb 0) (Jb 2) (e2 J2 (Jb 0) (Jb 1))) [none,none,some 1]) a0)))
noncomputable def YU:List Sl->Option Sl:=Yq 2 (YB (eIf (tAnd? (tTru? (eU 2 YD (aC (Jb 0) (aC (e2 J0 (Jb 1) (eC (.int 1))) a0)))) (tNot? (tTru? (eU 2 YD (aC (Jb 0) (aC (Jb 1) a0)))))) (eC (.int 1)) (eC (.int 0))))
noncomputable def YQ:List Sl->Option Sl:=Yq 6 (Jr (Jt 1 (eU 2 JT (aC (Jb 0) (aC (eC (.int 1)) a0))))
 (Jr (ZW 2 JeM)
 (Jr (Wi (Jcj false (aC (e1 U8 (Jb 0)) a0)) (.tp (.cons (.nm 3) (.cons (.nm 4) .nil))) (Jr (Jt 5 (e2 J0 (e2 J0 (eF Jgf (aC (Jb 4) a0)) (eC (.int 1))) (e2 VS (eC (.int 2)) (Jb 3))))
 (Jdi 2 (Jb 5) (e2 J2 (JaY (Jb 2) (Jb 5) (eC (.int 0))) (eC (.int 1))))))
 (JfW 2 (YB (Y4 (JdG (Jb 2)) (.tp (.cons (.nm 0) (.cons (.nm 1) .nil))) yes? (U2 (aC (Jb 0) (aC (Jb 1) (aC (eU 2 YU (aC (Jb 2) (aC (Jb 0) a0))) a0)))) [none,none,some 1]))))))
noncomputable def Ya:List Sl->Option Sl:=Yq 5 (Jr (ZW 1 (ZM a0))
 (Jr (Jt 2 (Jb 0))
 (Jr (Jt 3 (eC (.int 0)))
 (Jr (Yh (tTru? (e1 U8 (Jb 2))) (Jr (Jt 4 (eU 1 JF (aC (Jb 2) a0)))
 (Jr (Jdh (fun i j=>i+j) 3 (Jb 4))
 (Jr (Jt 2 (eU 2 JT (aC (Jb 2) (aC (e2 J0 (Jb 4) (eC (.int 1))) a0))))
 (Jr (JgX 1 (Y4 (iE true (eU 1 YQ (aC (Jb 2) a0))) (.tp (.cons (.nm 0) (.cons (.nm 1) (.cons (.nm 2) .nil)))) (tB? (e2 fGt (Jb 1) (Jb 2))) (U2 (aC (Jb 3) (aC (Jb 0) (aC (e2 J0 (Jb 1) (Jb 2)) a0)))) [none,none,none,some 3]))
 (Jt 2 (eU 2 JT (aC (Jb 2) (aC (eC (.int 1)) a0)))))))) 1000000)
 (Ua 1)))))
noncomputable def JM:List Sl->Option Sl:=Yq 5 (Jr (ZW 1 (ZM a0))
 (Jr (Wi (iE false (eU 1 Ya (aC (Jb 0) a0))) (.tp (.cons (.nm 2) (.cons (.nm 3) (.cons (.nm 4) .nil)))) (JgX 1 (e2 JjZ (ZM (aC (U2 (aC (Jb 2) (aC (Jb 3) a0))) a0)) (Jb 4))))
 (Ua 1)))
noncomputable def Yu:List Sl->Option Sl:=Yq 5 (Jr (ZW 1 (ZM a0))
 (Jr (Jt 2 (eC (.int 0)))
 (Jr (Wi (iE false (eU 1 JM (aC (Jb 0) a0))) (.tp (.cons (.nm 3) (.cons (.nm 4) .nil))) (Jr (Jdg 1 (U2 (aC (Jb 3) (aC (e2 J2 (Jb 4) (e2 VS (eC (.int 2)) (Jb 2))) a0))))
 (Jdh (fun i j=>i+j) 2 (Jb 3))))
 (Ua 1))))
noncomputable def YV:List Sl->Option Sl:=Yq 2 (Jr (Jt 1 (eU 1 JS (aC (eU 1 Yu (aC (Jb 0) a0)) a0)))
 (YB (eF JeQ (aC (Y4 (iE true (Jb 1)) (.tp (.cons (.nm 0) (.cons (.nm 1) .nil))) yes? (e1 Jce (e2 JeO (e2 J0 (e2 J0 (e2 fIx (Jb 1) (eC (.int 1))) (e2 fIx (Jb 0) (eC (.int 1)))) (e2 VS (eC (.int 2)) (e2 fIx (Jb 0) (eC (.int 0))))) (e2 J0 (e2 fIx (Jb 1) (eC (.int 0))) (e2 fIx (Jb 0) (eC (.int 0)))))) [none,none]) a0))))
noncomputable def J8:List Sl->Option Sl:=Yq 2 (Jr (Jt 1 (eF Ja4 (aC (eU 1 JM (aC (Jb 0) a0)) a0)))
 (YB (Y4 (Jcj true (aC (Jb 1) a0)) (.tp (.cons (.nm 0) (.cons (.nm 1) .nil))) yes? (U2 (aC (e2 fIx (Jb 1) (eC (.int 0))) (aC (e2 J2 (e2 fIx (Jb 1) (eC (.int 1))) (e2 VS (e2 VS (eC (.int 2)) (e2 fIx (Jb 1) (eC (.int 0)))) (Jb 0))) a0))) [none,none])))
noncomputable def YS:List Sl->Option Sl:=Yq 2 (Jr (Jt 1 (eU 1 JS (aC (eU 1 J8 (aC (Jb 0) a0)) a0)))
 (YB (eF Jcd (aC (Y4 (iE true (Jb 1)) (.tp (.cons (.nm 0) (.cons (.nm 1) .nil))) yes? (e2 JeO (e2 J0 (e2 J0 (e2 J0 (e2 fIx (Jb 1) (eC (.int 1))) (e2 fIx (Jb 0) (eC (.int 1)))) (e2 fIx (Jb 0) (eC (.int 0)))) (e2 fIx (Jb 1) (eC (.int 0)))) (e2 J0 (e2 fIx (Jb 0) (eC (.int 0))) (e2 fIx (Jb 1) (eC (.int 0))))) [none,none]) a0))))
noncomputable def YG:List Sl->Option Sl:=Yq 5 (Jr (ZW 1 JeM)
 (Jr (Wi (iE false (eU 1 Ya (aC (Jb 0) a0))) (.tp (.cons (.nm 2) (.cons (.nm 3) (.cons (.nm 4) .nil)))) (Jdi 1 (Jb 2) (e2 J2 (JaY (Jb 1) (Jb 2) (eC (.int 0))) (Jb 4))))
 (YB (JaZ (Jb 1)))))
noncomputable def JQ:List Sl->Option Sl:=Yq 2 (Jr (xIf (tB? (e2 fLt (Jb 1) (eF VR (aC (Jb 0) a0)))) (YB (e2 fIx (Jb 0) (Jb 1))) UA)
 (YB (eC (.int 0))))
noncomputable def Yd:List Sl->Option Sl:=Yq 8 (Jr (Jt 4 (e2 J0 (e2 Jdz (eU 2 JQ (aC (Jb 0) (aC (Jb 1) a0))) (e2 J2 (e2 VS (eC (.int 2)) (Jb 3)) (eC (.int 1)))) (Jb 3)))
 (Jr (ZW 5 (ZM a0))
 (Jr (Wi (iR1 (aC (Jb 2) a0)) (.nm 6) (Jr (Jt 7 (e2 J2 (eC (.int 1)) (e2 Jdz (eU 2 JQ (aC (Jb 0) (aC (e2 J2 (e2 J2 (Jb 1) (eC (.int 1))) (e2 VS (eC (.int 2)) (Jb 6))) a0))) (Jb 3))))
 (Jr (Jdg 5 (U2 (aC (Jb 4) (aC (Jb 7) a0))))
 (Jt 4 (e2 J2 (e2 J2 (e2 J2 (Jb 4) (Jb 7)) (eC (.int 1))) (e2 Jdz (eU 2 JQ (aC (Jb 0) (aC (e2 J2 (e2 J2 (Jb 1) (eC (.int 2))) (e2 VS (eC (.int 2)) (Jb 6))) a0))) (Jb 3)))))))
 (Ua 5))))
noncomputable def Jdx:List Sl->Option Sl:=Yq 8 (Jr (Jt 1 (eU 2 JQ (aC (Jb 0) (aC (eC (.int 0)) a0))))
 (Jr (Jt 2 (eU 4 Yd (aC (Jb 0) (aC (eC (.int 1)) (aC (e2 Jdz (Jb 1) (eC (.int 7))) (aC (e2 fIx (ZM (aC (eC (.int 4)) (aC (eC (.int 7)) a0))) (e2 Jdz (e2 Jmw (Jb 1) (eC (.int 7))) (eC (.int 2)))) a0))))))
 (Jr (Jt 3 (eF JdA (aC (Jb 2) a0)))
 (Jr (Jt 4 (e2 fLt (eF VR (aC (eU 1 YG (aC (Jb 3) a0)) a0)) (eC (.int 2))))
 (Jr (Wi (iR1 (aC (eC (.int 2)) a0)) (.nm 5) (Jr (xIf (tB? (e2 fEq (Jb 5) (eC (.int 0)))) (Jt 6 (eU 1 YV (aC (Jb 3) a0))) (Jt 6 (eU 1 YS (aC (Jb 3) a0))))
 (xIf (tTru? (Jb 4)) (xIf (tB? (e2 WV (Jb 6) (eC .non))) (YB (eC (.bl false))) UA) (xIf (tNot? (tTru? (eU 1 Yj (aC (Jb 6) a0)))) (YB (eC (.bl false))) (Jr (Jt 7 (e2 J0 (eC (.int 1)) (e2 VS (eC (.int 2)) (Jb 5))))
 (Jr (xIf (tOr? (tNot? (tTru? (eU 3 JL (aC (Jb 2) (aC (Jb 6) (aC (e2 fEq (Jb 5) (eC (.int 1))) a0)))))) (tTru? (eU 3 JL (aC (Jb 2) (aC (e2 J0 (Jb 6) (Jb 7)) (aC (e2 fEq (Jb 5) (eC (.int 1))) a0)))))) (YB (eC (.bl false))) UA)
 (xIf (tNot? (tTru? (eU 3 JL (aC (Jb 2) (aC (e2 J2 (Jb 6) (Jb 7)) (aC (e2 fEq (Jb 5) (eC (.int 1))) a0)))))) (YB (eC (.bl false))) UA)))))))
 (YB (e2 fEq (e1 U8 (Jb 3)) (eF Ja6 (aC (Jb 2) a0)))))))))
end LK
end
namespace LK
open PySem L2 LR LE
local macro_rules | `(tactic| omega)=>`(tactic| first | lia | omega (config:={}))
local macro_rules | `(tactic| walk_at "sd")=>`(tactic| first | omega (config:={}) | assumption | (simp only[QG,Qv,Km,Qo,Ls,Gq];omega (config:={})))
local macro_rules | `(tactic| walk_at "ev")=>`(tactic| simp -implicitDefEqProofs (disch:=walk_at "sd") only[Yq,Jlg,Int.reduceToNat,Qo,Ls,Nat.reduceAdd,Nat.reduceSub,Nat.reduceLT,Nat.reduceLeDiff,GD,Nat.zero_lt_succ,Nat.succ_lt_succ_iff,List.reduceReplicate,KW,Lr,GR,List.set_cons_zero,List.set_cons_succ,List.getElem?_cons_succ,List.getElem?_cons_zero,Qv,Km,List.length_set,QZ,Kz,Option.bind_none,Option.map_none,if_true,if_false,ite_true,ite_false,decide_true,decide_false,Bool.not_true,Bool.not_false,Bool.and_true,Bool.true_and,reduceIte,reduceCtorEq,Ks,Qd,KC,if_pos,
 Jr,xIf,YB,Ua,UA,ZW,Jt,JoL,Jdg,JgX,Jls,Jdh,Jkq,Jju,JeM,Sl.dt,pr?,Jpk,JaY,Jdi,JfW,JdG,JaZ,JbA,ifB,lst?,JoY,JjV,Sl.dk,int?,JoM,Jj3,Wi,tB?,tTru?,tAnd?,tOr?,tNot?,JoH,e2,e1,Jb,eF,eC,aC,a0,eU,WF,Sl.pass,U2,ZM,WX,Sl.frz,Jjx,Jmm,eIf,JaX,sh?,bool?,str?,keep?,Jjy,tyN,D.isRow,Jnn,Jnm,Jld,Jle,Jlb,Jlc,JjA,JjB,
 Jo9,JjX,JjW,JjU,Jhw,JjY,JjK,JjR,JjO,JjN,JjI,JjH,JjP,JjQ,JjL,JjJ,JjM,JmB,Jmz,Jmy,JmC,Jmx,JmA,Jpc,Jpb,Jpe,Jpa,Jpd,Ja6,Jdy,U8,Sl.q,Sl.r,Sl.m,Sl.d,Sl.it,fEq,fNe,Jms,Jmu,Jmr,Jmt,Jmp,Jmq,Jmo,WV,Jgn,Jgl,JhM,Jgp,Jgq,Jgm,JhO,Jgo,iE,iV,iR1,iR2,Y4,Vw,Jka,JmI,Jcj,Jcd,JeQ,W5,eSl,WT,fSl,JhJ,JmK,JiM,JmY,Jkf,JmX,Jm1,JmZ,Jm0,JoV,JoW,Jje,Jg3,JqA,JqB,JqC,JqD,JqE,eq_self])
noncomputable section
theorem Jbn(ns:List Int)(k:Int)(hk:0<=k):JQ [.sh (.fz (ns.map .int)),.sh (.int k)]=some (.sh (.int (cell ns k))):=by
 unfold JQ;walk_at "ev"
 by_cases h:k<(ns.length:Int)
 ·simp only[h,JaP,JbU hk h];walk_at "ev"
 ·simp only[h,Jhg h];walk_at "ev"
theorem Good.cons'{p:Pr}{ps:List Pr}(g:Good (p::ps)):Good ps:=⟨fun i q e=>g.one (i+1) q (by simpa using e),fun i q r e1 e2=>g.gap (i+1) q r (by simpa using e1) (by simpa using e2)⟩
theorem Good.all{ps:List Pr}(g:Good ps):∀p∈ps,1<=p.2:=fun p hp=>by obtain⟨i,hi,e⟩:=GG.mp hp;exact g.one i p (by simp[hi,e])
theorem Good.first{p:Pr}:∀{ps:List Pr},Good (p::ps)->∀q∈ps,p.1+p.2<q.1
 | [],_,q,hq=>nomatch hq
 | r::ps,g,q,hq=>by
  have h1:=g.gap 0 p r rfl rfl;rcases Qj.mp hq with z|z
  ·rw[z];exact h1
  ·have h2:=Good.first (Good.cons' g) q z
   have h3:=g.one 1 r rfl;omega
theorem Good.pw:∀{ps:List Pr},Good ps->ps.Pairwise fun p q=>p.1+p.2<q.1
 | [],_=>.nil
 | p::ps,g=>.cons (Good.first g) (Good.pw (Good.cons' g))
theorem Jg9{α:Type}{xs:List α}{x:α}(h:xs[xs.length-1]?=some x):atI xs (-1)=some x:=by
 have hl:=(Qk.mp h).1;unfold atI ixN;rw[if_neg (by omega),if_pos (by omega)]
 have:((-1:Int)+(xs.length:Int)).toNat=xs.length-1:=by omega
 rw[this];exact h
theorem Yw(p:Pr):fIx (.sh (prE p)) (.sh (.int 0))=some (.sh (.int p.1)):=rfl
theorem Uc(p:Pr):fIx (.sh (prE p)) (.sh (.int 1))=some (.sh (.int p.2)):=rfl
noncomputable def JZ:List Pr->List Int
 | []=>[]
 | [_]=>[]
 | p::q::r=>(q.1-(p.1+p.2))::JZ (q::r)
theorem Jam:∀ps:List Pr,JZ ps=(Kl ps (ps.drop 1)).map fun pq=>pq.2.1-(pq.1.1+pq.1.2)
 | []=>rfl
 | [_]=>rfl
 | p::q::r=>by rw[JZ,Jam (q::r)];rfl
theorem VT:∀ps:List Pr,(JZ ps).length=ps.length-1
 | []=>rfl
 | [_]=>rfl
 | p::q::r=>by rw[JZ,Qo,VT (q::r)];simp
theorem Jb4{α:Type}(xs:List α):Jdv xs (some 1) none=xs.drop 1:=by
 unfold Jdv;have e:HT.sIx xs.length 0 (some 1)=min 1 xs.length:=rfl;rw[e,show HT.sIx xs.length xs.length none=xs.length from rfl]
 cases xs with
 | nil=>rfl
 | cons x xs=>simp
theorem Jna(ps:List Pr)(h:ps.length<=1000):YT [.sh (.row (ps.map prE))]=some (.own ((JZ ps).map .int)):=by
 unfold YT;walk_at "ev";rw[Jb4,<- List.map_drop,JfX];walk_at "ev";have hz:(Kl ps (ps.drop 1)).length<=16777216:=by rw[G5];omega
 rw[if_pos hz,Yi (g:=fun pq=>D.int (pq.2.1-(pq.1.1+pq.1.2)))]
 ·walk_at "ev";rw[Jam,Qw];rfl
 ·intro pq _;walk_at "ev";rw[Yw];walk_at "ev";rw[Ja5 (ns:=[pq.1.1,pq.1.2]) rfl];walk_at "ev";simp
theorem Jb6{α:Type}{xs r:List α}{x:α}{i:Nat}(e:xs.drop i=x::r):xs[i]?=some x/\xs.drop (i+1)=r:=by
 have h:(xs.drop i)[0]?=some x:=by rw[e];rfl
 rw[List.getElem?_drop] at h;refine⟨by simpa using h,?_⟩;have:xs.drop (i+1)=(xs.drop i).drop 1:=by rw[List.drop_drop]
 rw[this,e];rfl
theorem YR{α:Type}{xs:List α}{k:Nat}{x:α}(h:xs[k]?=some x):atI xs (k:Int)=some x:=by obtain⟨h1,h2⟩:=Qk.mp h;rw[JbV h1,h2]
theorem Good.mk'{p:Pr}{ps:List Pr}(h1:1<=p.2)(h2:∀q,ps[0]?=some q->p.1+p.2<q.1)(g:Good ps):Good (p::ps):=by
 refine⟨fun i q e=>?_,fun i q r e1 e2=>?_⟩
 ·cases i with
  | zero=>simp at e;subst e;exact h1
  | succ i=>exact g.one i q (by simpa using e)
 ·cases i with
  | zero=>simp at e1;subst e1;exact h2 r (by simpa using e2)
  | succ i=>exact g.gap i q r (by simpa using e1) (by simpa using e2)
noncomputable def byF(k:Int)(ps:List Pr):List Pr:=ps.mapIdx fun i p=>(p.1+2*k*(i:Int),p.2+k)
theorem Ub(k:Int)(ps:List Pr):(byF k ps).length=ps.length:=by unfold byF;rw[GP]
theorem U7{k:Int}{ps:List Pr}{i:Nat}{x:Pr}(e:(byF k ps)[i]?=some x):∃p,ps[i]?=some p/\x=(p.1+2*k*(i:Int),p.2+k):=by unfold byF at e;rw[QB,Gd] at e;obtain⟨p,h,rfl⟩:=e;exact⟨p,h,rfl⟩
theorem Jex(a b:Int)(ps:List Pr):byF a (byF b ps)=byF (a+b) ps:=by
 refine Ga fun i=>?_
 unfold byF;rw[QB,QB,QB,Kr]
 cases ps[i]? with
 | none=>rfl
 | some p=>show some (p.1+2*b*(i:Int)+2*a*(i:Int),p.2+b+a)=some (p.1+2*(a+b)*(i:Int),p.2+(a+b));rw[KZ,KE];congr 2 <;> omega
theorem Vo(ps:List Pr):byF 0 ps=ps:=by
 refine Ga fun i=>?_
 unfold byF;rw[QB]
 cases ps[i]? with
 | none=>rfl
 | some p=>simp
structure Wide (c:Int) (ps:List Pr):Prop where
 one:∀(i:Nat) (p:Pr),ps[i]?=some p->c<=p.2
 gap:∀(i:Nat) (p q:Pr),ps[i]?=some p->ps[i+1]?=some q->c<=q.1-(p.1+p.2)
theorem Wide.good{c:Int}{ps:List Pr}(h:1<=c)(w:Wide c ps):Good ps:=⟨fun i p e=>by have:=w.one i p e;omega,fun i p q e1 e2=>by have:=w.gap i p q e1 e2;omega⟩
theorem Wide.bys{c k:Int}{ps:List Pr}(w:Wide c ps):Wide (c+k) (byF k ps):=by
 refine⟨fun i x e=>?_,fun i x y e1 e2=>?_⟩
 ·obtain⟨p,h,rfl⟩:=U7 e;have:=w.one i p h;dsimp only;omega
 ·obtain⟨p,h1,rfl⟩:=U7 e1;obtain⟨q,h2,rfl⟩:=U7 e2;have:=w.gap i p q h1 h2;have em:2*k*((i+1:Nat):Int)=2*k*(i:Int)+2*k:=by rw[KA,KZ];simp
  dsimp only;rw[em];omega
theorem Wide.mono{c c':Int}{ps:List Pr}(h:c'<=c)(w:Wide c ps):Wide c' ps:=⟨fun i p e=>by have:=w.one i p e;omega,fun i p q e1 e2=>by have:=w.gap i p q e1 e2;omega⟩
theorem Wide.cons{c:Int}{p:Pr}{ps:List Pr}(w:Wide c (p::ps)):Wide c ps:=⟨fun i q e=>w.one (i+1) q (by simpa using e),fun i q r e1 e2=>w.gap (i+1) q r (by simpa using e1) (by simpa using e2)⟩
noncomputable def clF:Pr->List Pr->List Pr
 | cur,[]=>[cur]
 | cur,p::r=>if cur.1+cur.2=p.1 then clF (cur.1,cur.2+p.2) r else if 0<p.2 then cur::clF p r else clF cur r
noncomputable def clN:List Pr->List Pr
 | []=>[]
 | p::r=>if 0<p.2 then clF p r else clN r
theorem Jdt:∀(cur:Pr) (r:List Pr),Good (cur::r)->clF cur r=cur::r
 | cur,[],_=>rfl
 | cur,p::r,g=>by
  have h1:=g.gap 0 cur p rfl rfl
  have h2:=g.one 1 p rfl;rw[clF,if_neg (by omega),if_pos (by omega),Jdt p r (Good.cons' g)]
theorem JaU{ps:List Pr}(g:Good ps):clN ps=ps:=by
 cases ps with
 | nil=>rfl
 | cons p r=>rw[clN,if_pos (by have:=g.one 0 p rfl;omega),Jdt p r g]
theorem Vp:∀(cur:Pr) (r:List Pr),1<=cur.2->Wide 0 r->(∀q,r[0]?=some q->cur.1+cur.2<=q.1)->Good (clF cur r)/\∃q,(clF cur r)[0]?=some q/\q.1=cur.1
 | cur,[],h,_,_=>⟨Good.mk' h (fun q e=>by simp at e) Good.nil,cur,rfl,rfl⟩
 | cur,p::r,h,w,hq=>by
  have h0:=w.one 0 p rfl
  have hb:=hq p rfl
  have nx:∀q,r[0]?=some q->p.1+p.2<=q.1:=fun q e=>by have:=w.gap 0 p q rfl (by simpa using e);omega
  rw[clF];split
  ·next e=>exact Vp (cur.1,cur.2+p.2) r (by dsimp only;omega) w.cons fun q e'=>by have:=nx q e';dsimp only;omega
  ·next e =>
   split
   ·next hp=>obtain⟨g,q,e1,e2⟩:=Vp p r (by omega) w.cons nx;exact⟨Good.mk' h (fun q' e'=>by rw[e1] at e';cases e';omega) g,cur,rfl,rfl⟩
   ·next hp=>exact Vp cur r h w.cons fun q e'=>by have:=nx q e';omega
theorem WR:∀(ps:List Pr),Wide 0 ps->Good (clN ps)
 | [],_=>Good.nil
 | p::r,w=>by
  rw[clN];split
  ·next h=>exact(Vp p r (by omega) w.cons fun q e=>by have:=w.gap 0 p q rfl (by simpa using e);omega).1
  ·exact WR r w.cons
theorem Wx:∀(cur:Pr) (r:List Pr),(clF cur r).length<=r.length+1/\((clF cur r).length=r.length+1->(∀p∈r,0<p.2)/\∀(i:Nat) (p q:Pr),(cur::r)[i]?=some p->(cur::r)[i+1]?=some q->p.1+p.2≠q.1)
 | cur,[]=>⟨Qx _,fun _=>⟨fun p hp=>(by cases hp),fun i p q _ e=>(by simp at e)⟩⟩
 | cur,p::r=>by
  rw[clF,Qo];split
  ·next e=>have ih:=(Wx (cur.1,cur.2+p.2) r).1;exact⟨by omega,fun h=>by omega⟩
  ·next e =>
   split
   ·next hp =>
    obtain⟨i1,i2⟩:=Wx p r;refine⟨by rw[Qo];omega,fun h=>?_⟩;obtain⟨a1,a2⟩:=i2 (by rw[Qo] at h;omega);refine⟨fun q hq=>?_,fun i x y e1 e2=>?_⟩
    ·rcases Qj.mp hq with z|z
     ·rw[z];exact hp
     ·exact a1 q z
    ·cases i with
     | zero=>simp at e1 e2;subst e1 e2;exact e
     | succ i=>exact a2 i x y (by simpa using e1) (by simpa using e2)
   ·have ih:=(Wx cur r).1;exact⟨by omega,fun h=>by omega⟩
theorem Uq:∀(ps:List Pr),(clN ps).length<=ps.length/\((clN ps).length=ps.length->(∀p∈ps,0<p.2)/\∀(i:Nat) (p q:Pr),ps[i]?=some p->ps[i+1]?=some q->p.1+p.2≠q.1)
 | []=>⟨Qx _,fun _=>⟨fun p hp=>(by cases hp),fun i p q e=>(by simp at e)⟩⟩
 | p::r=>by
  rw[clN,Qo];split
  ·next hp=>obtain⟨i1,i2⟩:=Wx p r;refine⟨i1,fun h=>?_⟩;obtain⟨a1,a2⟩:=i2 h;exact⟨fun q hq=>(Qj.mp hq).elim (fun z=>z▸hp) (a1 q),a2⟩
  ·have ih:=(Uq r).1;exact⟨by omega,fun h=>by omega⟩
noncomputable def thF(ps:List Pr):List Pr:=clN (byF (-1) ps)
noncomputable def thN:Nat->List Pr->List Pr
 | 0,ps=>ps
 | n+1,ps=>thN n (thF ps)
theorem WJ(a b:Nat):∀ps:List Pr,thN (a+b) ps=thN b (thN a ps):=by
 induction a with
 | zero=>intro ps;rw[L8];rfl
 | succ a ih=>intro ps;rw[Nat.succ_add];exact ih (thF ps)
theorem JbN:∀n,thN n []=[]
 | 0=>rfl
 | n+1=>JbN n
theorem Js{ps:List Pr}(g:Good ps):Good (thF ps):=WR _ (by
 have w:Wide 1 ps:=⟨fun i p e=>g.one i p e,fun i p q e1 e2=>by have:=g.gap i p q e1 e2;omega⟩
 exact w.bys (k:=-1))
theorem Y3:∀(n:Nat) {ps:List Pr},Good ps->Good (thN n ps)
 | 0,_,g=>g
 | n+1,_,g=>Y3 n (Js g)
theorem ZC:∀(n:Nat) {c:Int} {ps:List Pr},Wide c ps->1<=c->((n:Int)<=c)->thN n ps=clN (byF (-(n:Int)) ps)
 | 0,c,ps,w,h1,_=>by show ps=clN (byF (-((0:Nat):Int)) ps);rw[show -((0:Nat):Int)=0 by simp,Vo,JaU (w.good h1)]
 | n+1,c,ps,w,h1,hn=>by
  show thN n (thF ps)=_
  by_cases h:n=0
  ·subst h;rfl
  ·have w1:Wide (c+-1) (byF (-1) ps):=w.bys
   have e:thF ps=byF (-1) ps:=JaU (w1.good (by omega));rw[e,ZC n w1 (by omega) (by omega),Jex];congr 2;omega
theorem ZD{n:Nat}{c:Int}{ps:List Pr}(w:Wide c ps)(h1:1<=c)(h:(n:Int)<c):thN n ps=byF (-(n:Int)) ps:=by rw[ZC n w h1 (by omega),JaU ((w.bys (k:=-(n:Int))).good (by omega))]
noncomputable def Jg4(c:Int)(ps:List Pr):Prop:=(∃p∈ps,p.2=c)\/∃(i:Nat) (p q:Pr),ps[i]?=some p/\ps[i+1]?=some q/\q.1-(p.1+p.2)=c
theorem ZE{c:Int}{ps:List Pr}(t:Jg4 c ps):(clN (byF (-c) ps)).length<ps.length:=by
 obtain⟨h1,h2⟩:=Uq (byF (-c) ps);rw[Ub] at h1 h2;rcases LF (clN (byF (-c) ps)).length ps.length with h|h
 ·exact h
 ·obtain⟨a1,a2⟩:=h2 (by omega)
  exfalso
  rcases t with ⟨p,hp,e⟩|⟨i,p,q,e1,e2,e⟩
  ·obtain⟨i,hi,rfl⟩:=GG.mp hp
   have hx:(byF (-c) ps)[i]?=some (ps[i].1+2*-c*(i:Int),ps[i].2+-c):=by unfold byF;rw[QB,QM hi];rfl
   have:=a1 _ (QX hx);dsimp only at this;omega
  ·have hx:(byF (-c) ps)[i]?=some (p.1+2*-c*(i:Int),p.2+-c):=by unfold byF;rw[QB,e1];rfl
   have hy:(byF (-c) ps)[i+1]?=some (q.1+2*-c*((i+1:Nat):Int),q.2+-c):=by unfold byF;rw[QB,e2];rfl
   have:=a2 i _ _ hx hy
   have em:2*-c*((i+1:Nat):Int)=2*-c*(i:Int)+2*-c:=by rw[KA,KZ];simp
   dsimp only at this;rw[em] at this;omega
noncomputable def zs(n:Nat):List Int:=QC n 0
noncomputable def os(n:Nat):List Int:=QC n 1
noncomputable def blk:Int->List Pr->List Int
 | _,[]=>[]
 | pos,p::r=>zs (p.1-pos).toNat++(os p.2.toNat++blk (p.1+p.2) r)
noncomputable def byR:Int->List Pr->List Pr
 | _,[]=>[]
 | c,p::r=>(p.1-c,p.2-1)::byR (c+2) r
theorem Wv:∀(ps:List Pr) (c:Int),byR c ps=ps.mapIdx fun i p=>(p.1+2*(-1)*(i:Int)-c,p.2+-1)
 | [],c=>rfl
 | p::r,c=>by
  rw[byR,MJ,Wv r (c+2)];congr 1
  ·congr 1;simp
  ·refine Ga fun i=>?_
   rw[QB,QB]
   cases r[i]? with
   | none=>rfl
   | some q=>simp only[Kz,KA];congr 2;omega
theorem YE(ps:List Pr):byR 0 ps=byF (-1) ps:=by
 rw[Wv];unfold byF;congr 1
 funext i p
 congr 1;omega
theorem Yr{ps:List Pr}(g:Good ps):Wide 1 ps:=⟨fun i p e=>g.one i p e,fun i p q e1 e2=>by have:=g.gap i p q e1 e2;omega⟩
theorem WQ:∀(r:List Pr) (cur:Pr),∃q,(clF cur r)[0]?=some q/\q.1=cur.1
 | [],cur=>⟨cur,rfl,rfl⟩
 | p::r,cur=>by
  rw[clF];split
  ·obtain⟨q,h1,h2⟩:=WQ r (cur.1,cur.2+p.2);exact⟨q,h1,h2⟩
  ·split
   ·exact⟨cur,rfl,rfl⟩
   ·exact WQ r cur
theorem Wh:∀(n:Nat) (ps:List Pr),thN (n+1) ps=thF (thN n ps)
 | 0,ps=>rfl
 | n+1,ps=>by show thN (n+1) (thF ps)=thF (thN n (thF ps));exact Wh n (thF ps)
noncomputable def tkS(x prev pos:Int)(acc:List Pr):List Pr :=
 if x=1/\prev=1 then acc.dropLast++[((acc.getLastD (0,0)).1,(acc.getLastD (0,0)).2+1)] else if x=1 then acc++[(pos,1)] else acc
noncomputable def tk:Int->Int->List Pr->List Int->List Pr
 | _,_,acc,[]=>acc
 | prev,pos,acc,x::r=>tk x (pos+1) (tkS x prev pos acc) r
noncomputable def YC(ps:List Pr)(x:Int):Int:=(ps.map fun p=>max 0 (min p.2 (x-p.1))).sum
theorem JC(p:Pr)(ps:List Pr)(x:Int):YC (p::ps) x=max 0 (min p.2 (x-p.1))+YC ps x:=by unfold YC;rw[Qd,QA]
theorem Jdp{ps:List Pr}{x:Int}(h:∀p∈ps,x<=p.1):YC ps x=0:=by
 induction ps with
 | nil=>rfl
 | cons p ps ih=>have h1:=h p Qf;rw[JC,ih fun q hq=>h q (Qc _ hq)];omega
noncomputable def JV(ps:List Pr)(y:Int):Bool:=ps.any fun p=>decide (p.1<=y) && decide (y<p.1+p.2)
theorem has_iff{ps:List Pr}{y:Int}:JV ps y=true↔∃p∈ps,p.1<=y/\y<p.1+p.2:=by unfold JV;rw[Lh];simp
theorem Jj8{ps:List Pr}{y:Int}(h:∀p∈ps,p.1<=y->p.1+p.2<=y):JV ps y=false:=by
 cases e:JV ps y with
 | false=>rfl
 | true=>obtain⟨p,hp,h1,h2⟩:=has_iff.mp e;have:=h p hp h1;omega
theorem Ju(p:Pr)(ps:List Pr)(x:Int):JV (p::ps) x=((decide (p.1<=x) && decide (x<p.1+p.2)) || JV ps x):=by unfold JV;rw[Ka]
theorem VU{p:Pr}{ps:List Pr}{x:Int}(h1:p.1<=x)(h2:x<p.1+p.2):JV (p::ps) x=true:=has_iff.mpr ⟨p,Qf,h1,h2⟩
theorem Jbf{p:Pr}{ps:List Pr}{x:Int}(h:p.1+p.2<=x):JV (p::ps) x=JV ps x:=by rw[Ju];have:decide (x<p.1+p.2)=false:=decide_eq_false (by omega);rw[this,Bool.and_false,G1]
theorem U9{ps:List Pr}{x:Int}(h:∀p∈ps,x<p.1):JV ps x=false:=Jj8 fun p hp hx=>by have:=h p hp;omega
theorem Jbe:∀{ps qs:List Pr},Good ps->Good qs->(∀x,JV ps x=JV qs x)->ps=qs
 | [],[],_,_,_=>rfl
 | [],q::qs,_,g,h=>by have:=h q.1;rw[VU (QD _) (by have:=g.one 0 q rfl;omega)] at this;cases this
 | p::ps,[],g,_,h=>by have:=h p.1;rw[VU (QD _) (by have:=g.one 0 p rfl;omega)] at this;cases this
 | p::ps,q::qs,g,g',h=>by
  have hp:=g.one 0 p rfl
  have hq:=g'.one 0 q rfl
  have le:∀{p:Pr} {ps:List Pr} {x:Int},Good (p::ps)->JV (p::ps) x=true->p.1<=x:=fun {p ps x} g e=>by
   obtain⟨r,hr,h1,h2⟩:=has_iff.mp e;rcases Qj.mp hr with z|z
   ·rw[<- z];exact h1
   ·have:=Good.first g r z
    have:=g.one 0 p rfl;omega
  have e1:p.1=q.1:=by
   have a:=le g' (x:=p.1) (by rw[<- h];exact VU (QD _) (by omega))
   have b:=le g (x:=q.1) (by rw[h];exact VU (QD _) (by omega));omega
  have off:∀{p:Pr} {ps:List Pr},Good (p::ps)->JV (p::ps) (p.1+p.2)=false:=fun {p ps} g=>by rw[Jbf (QD _)];exact U9 fun z hz=>Good.first g z hz
  have e2:p.2=q.2:=by
   have a:=h (p.1+p.2);rw[off g] at a
   have b:=h (q.1+q.2);rw[off g'] at b
   by_cases c:p.2<q.2
   ·rw[VU (p:=q) (by omega) (by omega)] at a;cases a
   ·by_cases c':q.2<p.2
    ·rw[VU (p:=p) (by omega) (by omega)] at b;cases b
    ·omega
  have e:p=q:=Ke e1 e2;subst e;rw[Jbe (Good.cons' g) (Good.cons' g') fun x=>?_]
  by_cases c:p.1+p.2<=x
  ·have:=h x
   rwa [Jbf c,Jbf c] at this
  ·rw[U9 fun z hz=>by have:=Good.first g z hz;omega,U9 fun z hz=>by have:=Good.first g' z hz;omega]
theorem Jm7(a b:Int):a<b\/b<=a:=by omega
noncomputable def edF(ps:List Pr):Nat->Int->List Int->List Pr
 | _,_,[]=>[]
 | i,c,s::r=>(s+2*(i:Int)-(YC ps s-c),YC ps s-c+1)::edF ps (i+1) (YC ps s) r
theorem Ww(x:Int):∀(r:List Pr) (cur:Pr),(∀p∈r,0<=p.2)->0<=cur.2->JV (clF cur r) x=JV (cur::r) x
 | [],cur,_,_=>rfl
 | p::r,cur,h,hc=>by
  have h0:=h p Qf
  have hr:=fun q hq=>h q (Qc p hq)
  rw[clF];split
  ·next e=>rw[Ww x r _ hr (by dsimp only;omega),Ju,Ju,Ju,<- Lp];congr 1;rw[GQ];simp only[K4,QL,decide_eq_true_eq];constructor <;> intro z <;> omega
  ·split
   ·rw[Ju,Ww x r p hr h0,<- Ju]
   ·rw[Ww x r cur hr hc,Ju,Ju cur,Ju p];rw[show(decide (p.1<=x) && decide (x<p.1+p.2))=false by
     rw[K7];rcases Jm7 x p.1 with z|z
     ·exact .inl (decide_eq_false (by omega))
     ·exact .inr (decide_eq_false (by omega)),G1]
theorem Jez(x:Int):∀(ps:List Pr),(∀p∈ps,0<=p.2)->JV (clN ps) x=JV ps x
 | [],_=>rfl
 | p::r,h=>by
  have h0:=h p Qf
  have hr:=fun q hq=>h q (Qc p hq)
  rw[clN];split
  ·exact Ww x r p hr h0
  ·rw[Jez x r hr,Ju p];rw[show(decide (p.1<=x) && decide (x<p.1+p.2))=false by
    rw[K7];rcases Jm7 x p.1 with z|z
    ·exact .inl (decide_eq_false (by omega))
    ·exact .inr (decide_eq_false (by omega)),G1]
noncomputable def J6:List Pr->Int->List Pr
 | [],s=>[(s,1)]
 | p::r,s=>if p.1=s then(p.1,p.2+1)::r else p::J6 r s
theorem Uh(s:Int):∀a:List Pr,(J6 a s).map (·.1)=Yt (a.map (·.1)) s
 | []=>rfl
 | p::r=>by
  have ih:=Uh s r;unfold Yt Vv at ih ⊢;rw[J6,Qd,Ka]
  by_cases h:p.1=s
  ·rw[if_pos h,decide_eq_true h,Rx,if_pos rfl];rfl
  ·rw[if_neg h,decide_eq_false h,G1,Qd,ih];split <;> rfl
theorem Zv:∀(ks:List Int) (vs:List Int) (s v:Int),s∉ks->setK ks vs s v=vs
 | [],_,_,_,_=>rfl
 | _::_,[],_,_,_=>rfl
 | k::ks,x::vs,s,v,h=>by rw[setK,if_neg fun e=>h (by rw[e];exact Qf),Zv ks vs s v fun m=>h (Qc _ m)]
theorem hasK_mem{ks:List Int}{s:Int}:Vv ks s=true↔s∈ks:=by
 unfold Vv;rw[Lh];constructor
 ·rintro⟨k,hk,e⟩;rw[decide_eq_true_eq] at e;subst e;exact hk
 ·intro h;exact⟨s,h,decide_eq_true rfl⟩
theorem Jao(s:Int):∀a:List Pr,(a.map (·.1)).Nodup->(J6 a s).map (·.2)=putDs (a.map (·.1)) (a.map (·.2)) s ((look (a.map (·.1)) (a.map (·.2)) s).getD 0+1)
 | [],_=>rfl
 | p::r,hn=>by
  rw[Qd,Gk] at hn;have ih:=Jao s r hn.2;rw[J6,Qd,Qd]
  by_cases h:p.1=s
  ·rw[if_pos h];unfold putDs;rw[if_pos (hasK_mem.mpr (by rw[h];exact Qf)),look,if_pos h,setK,if_pos h,Zv _ _ _ _ (by rw[<- h];exact hn.1)];rfl
  ·rw[if_neg h,Qd,ih,look,if_neg h];unfold putDs
   have e:Vv (p.1::r.map (·.1)) s=Vv (r.map (·.1)) s:=by unfold Vv;rw[Ka,decide_eq_false h,G1]
   rw[e];split
   ·rw[setK,if_neg h]
   ·rfl
theorem UI{ks:List Int}(s:Int)(h:ks.Nodup):(Yt ks s).Nodup:=by
 unfold Yt;split
 ·exact h
 ·next c =>
  rw[Mr];refine⟨h,by simp,fun a ha b hb=>?_⟩;have:b=s:=by simpa using hb
  subst this;intro e;subst e;exact c (hasK_mem.mpr ha)
noncomputable def lk(k:Int):List Pr->Int
 | []=>0
 | p::r=>if p.1=k then p.2 else lk k r
theorem Je8(k s:Int):∀a:List Pr,lk k (J6 a s)=lk k a+(if s=k then 1 else 0)
 | []=>by simp[J6,lk]
 | p::r=>by
  rw[J6]
  by_cases h:p.1=s
  ·rw[if_pos h,lk,lk];dsimp only
   by_cases c:p.1=k
   ·rw[if_pos c,if_pos c,if_pos (by omega)]
   ·rw[if_neg c,if_neg c,if_neg (by omega),L9]
  ·rw[if_neg h,lk,lk,Je8 k s r]
   by_cases c:p.1=k
   ·rw[if_pos c,if_pos c,if_neg (by omega),L9]
   ·rw[if_neg c,if_neg c]
theorem JdP{a:List Pr}(hn:(a.map (·.1)).Nodup){p:Pr}(hp:p∈a):lk p.1 a=p.2:=by
 induction a with
 | nil=>cases hp
 | cons q r ih =>
  rw[Qd,Gk] at hn;rw[lk];rcases Qj.mp hp with z|z
  ·subst z;rw[if_pos rfl]
  ·rw[if_neg fun e=>hn.1 (by rw[e];exact Qu.mpr ⟨p,z,rfl⟩)];exact ih hn.2 z
noncomputable def YL(L:List Int):List Pr:=L.foldl J6 []
theorem JeC:∀(L:List Int) (a:List Pr),(a.map (·.1)).Nodup->((L.foldl J6 a).map (·.1)).Nodup/\(∀k,lk k (L.foldl J6 a)=lk k a+(L.count k:Int))/\∀k,k∈(L.foldl J6 a).map (·.1)↔k∈a.map (·.1)\/k∈L
 | [],a,h=>⟨h,fun k=>by simp,fun k=>by simp⟩
 | s::L,a,h=>by
  have hk:=Uh s a
  have hn:((J6 a s).map (·.1)).Nodup:=by rw[hk];exact UI s h
  obtain⟨i1,i2,i3⟩:=JeC L (J6 a s) hn;refine⟨i1,fun k=>?_,fun k=>?_⟩
  ·rw[Q4,i2 k,Je8,QN]
   by_cases c:s=k
   ·rw[if_pos c,if_pos (by simpa using c)];omega
   ·rw[if_neg c,if_neg (by simpa using c)];omega
  ·rw[Q4,i3 k,hk];unfold Yt;split
   ·next c =>
    have c':=hasK_mem.mp c;constructor
    ·rintro(z|z)
     ·exact .inl z
     ·exact .inr (Qc _ z)
    ·rintro(z|z)
     ·exact .inl z
     ·rcases Qj.mp z with w|w
      ·subst w;exact .inl c'
      ·exact .inr w
   ·rw[GB,Gz,Qj,or_assoc]
theorem Jhj(L:List Int):((YL L).map (·.1)).Nodup/\(∀p∈YL L,p.2=(L.count p.1:Int)/\p.1∈L)/\∀k∈L,(k,(L.count k:Int))∈YL L:=by
 obtain⟨i1,i2,i3⟩:=JeC L [] (by simp)
 have v:∀p∈YL L,p.2=(L.count p.1:Int):=fun p hp=>by rw[<- JdP i1 hp];have:=i2 p.1;rw[show lk p.1 []=0 from rfl,Li] at this;exact this
 refine⟨i1,fun p hp=>⟨v p hp,?_⟩,fun k hk=>?_⟩
 ·have:=(i3 p.1).mp (Qu.mpr ⟨p,hp,rfl⟩)
  simpa using this
 ·obtain⟨p,hp,e⟩:=Qu.mp ((i3 k).mpr (.inr hk));subst e;rw[<- v p hp];exact hp
theorem JeD:∀(L:List Int) (a:List Pr),(a.map (·.1)++L).Nodup->L.foldl J6 a=a++L.map fun s=>(s,1)
 | [],a,_=>by simp
 | s::L,a,h=>by
  have e:J6 a s=a++[(s,1)]:=by
   have hs:s∉a.map (·.1):=fun m=>by have:=(Mr.mp h).2.2 s m s Qf;exact this rfl
   clear h
   induction a with
   | nil=>rfl
   | cons p r ih=>rw[J6,if_neg fun z=>hs (by rw[<- z];exact Qf),ih fun m=>hs (Qc _ m)];rfl
  rw[Q4,e,JeD L (a++[(s,1)]) (by simpa using h)];simp
theorem Jcv(ps:List Pr)(x:Int)(h:ps.length<=1000):YD [.sh (.row (ps.map prE)),.sh (.int x)]=some (.sh (.bl (JV ps x))):=by
 unfold YD;walk_at "ev";rw[Yi (g:=fun p=>D.bl (decide (p.1<=x) && decide (x<p.1+p.2)))]
 ·walk_at "ev";rw[JjT (ns:=ps.map fun p=>decide (p.1<=x) && decide (x<p.1+p.2)) (by simp[Sl.q])];walk_at "ev";unfold JV;rw[List.any_map];rfl
 ·intro p hp;simp only[prE];walk_at "ev"
  by_cases c:p.1<=x
  ·simp only[c];walk_at "ev"
  ·simp only[c];walk_at "ev";rfl
theorem WB{α β:Type}(f:Nat->α->β)(xs:List α):xs.mapIdx f=xs.zipIdx.map fun x=>f x.2 x.1:=by
 refine Ga fun i=>?_
 rw[QB,Qm,KF,Kr];simp;rfl
theorem JqL(ps:List Pr)(k:Int)(h:ps.length<=1000):Yb [.sh (.row (ps.map prE)),.sh (.int k)]=some (.own ((byF k ps).map prE)):=by
 unfold Yb;walk_at "ev";rw[WU,WB,Yi (g:=fun x:Pr×Nat=>prE (x.1.1+2*k*(x.2:Int),x.1.2+k))]
 ·rw[if_pos (by rw[Qv,List.length_zipIdx];omega (config:={}))];walk_at "ev";rw[show ps.zipIdx.map (fun x=>prE (x.1.1+2*k*(x.2:Int),x.1.2+k))=(byF k ps).map prE by unfold byF;rw[WB,Qw];rfl]
 ·intro x hx
  have hx2:x.2<ps.length:=by have:=Mn hx;omega (config:={})
  walk_at "ev";rw[Yw,Uc];walk_at "ev";rfl
theorem Jmh{ps:List Pr}(g:Good ps)(hne:ps≠[]):∃c,(ps.map (·.2)++JZ ps).min?=some c/\1<=c/\Wide c ps/\Jg4 c ps:=by
 cases hm:(ps.map (·.2)++JZ ps).min? with
 | none =>
  rw[M4] at hm
  cases ps with
  | nil=>exact absurd rfl hne
  | cons p r=>simp at hm
 | some c =>
  obtain⟨h1,h2⟩:=LM.mp hm
  have gg:∀(ps:List Pr) (x:Int),x∈JZ ps->∃(i:Nat) (p q:Pr),ps[i]?=some p/\ps[i+1]?=some q/\q.1-(p.1+p.2)=x:=by
   intro ps
   induction ps with
   | nil=>intro x hx;cases hx
   | cons p r ih =>
    intro x hx
    cases r with
    | nil=>cases hx
    | cons q r =>
     rcases Qj.mp hx with z|z
     ·exact⟨0,p,q,rfl,rfl,z.symm⟩
     ·obtain⟨i,a,b,e1,e2,e3⟩:=ih x z;exact⟨i+1,a,b,by simpa using e1,by simpa using e2,e3⟩
  have gm:∀(ps:List Pr) (i:Nat) (p q:Pr),ps[i]?=some p->ps[i+1]?=some q->q.1-(p.1+p.2)∈JZ ps:=by
   intro ps
   induction ps with
   | nil=>intro i p q e;simp at e
   | cons a r ih =>
    intro i p q e1 e2
    cases r with
    | nil=>simp at e2
    | cons b r =>
     cases i with
     | zero=>simp at e1 e2;subst e1 e2;exact Qf
     | succ i=>exact Qc _ (ih i p q (by simpa using e1) (by simpa using e2))
  have w:Wide c ps:=⟨fun i p e=>h2 _ (LU _ (Qu.mpr ⟨p,QX e,rfl⟩)),fun i p q e1 e2=>h2 _ (GA _ (gm ps i p q e1 e2))⟩
  have t:Jg4 c ps:=by
   rcases GB.mp h1 with z|z
   ·obtain⟨p,hp,e⟩:=Qu.mp z;exact .inl ⟨p,hp,e⟩
   ·exact .inr (gg ps c z)
  refine⟨c,rfl,?_,w,t⟩;rcases t with ⟨p,hp,e⟩|⟨i,p,q,e1,e2,e⟩
  ·have:=Good.all g p hp;omega
  ·have:=g.gap i p q e1 e2;omega
theorem Jcw(ps:List Pr)(h:ps.length<=1000):JF [.sh (.row (ps.map prE))]=some (match (ps.map (·.2)++JZ ps).min? with|some c=>.sh (.int c)|none=>.sh .non):=by
 have hgl:=VT ps;unfold JF;walk_at "ev";rw[Yi (g:=fun p=>D.int p.2)]
 ·walk_at "ev";rw[Jna _ h];walk_at "ev";rw[show ps.map (fun p=>D.int p.2)++(JZ ps).map .int=(ps.map (·.2)++JZ ps).map D.int by rw[QV,Qw];rfl];walk_at "ev";cases (ps.map (·.2)++JZ ps).min? <;> rfl
 ·intro p hp;simp only[prE];walk_at "ev"
noncomputable def Ur(acc:List Pr)(p:Pr):List Pr:=match acc[acc.length-1]? with
 | some q=>if q.1+q.2=p.1 then acc.dropLast++[(q.1,q.2+p.2)] else if 0<p.2 then acc++[p] else acc
 | none=>if 0<p.2 then acc++[p] else acc
theorem Vq:∀(r acc:List Pr) (cur:Pr),r.foldl Ur (acc++[cur])=acc++clF cur r
 | [],acc,cur=>rfl
 | p::r,acc,cur=>by
  have e:(acc++[cur])[(acc++[cur]).length-1]?=some cur:=by simp
  have es:Ur (acc++[cur]) p=if cur.1+cur.2=p.1 then acc++[(cur.1,cur.2+p.2)] else if 0<p.2 then acc++[cur]++[p] else acc++[cur]:=by unfold Ur;rw[e];dsimp only;rw[List.dropLast_concat]
  rw[Q4,clF,es];split
  ·exact Vq r acc _
  ·split
   ·rw[Vq r (acc++[cur]) p,GM];rfl
   ·exact Vq r acc cur
theorem Jae:∀ps:List Pr,ps.foldl Ur []=clN ps
 | []=>rfl
 | p::r=>by
  rw[Q4,clN];show r.foldl Ur (if 0<p.2 then []++[p] else [])=_;split
  ·exact Vq r [] p
  ·exact Jae r
theorem Jh2(ps:List Pr)(h:ps.length<=1000):Yc [.sh (.lst (ps.map prE))]=some (.own ((clN ps).map prE)):=by
 unfold Yc;walk_at "ev";rw[GY];refine YX (fun(rest:List Pr) (acc:List Pr) E=>∃j2 j3 j4,E=[.sh (.lst (ps.map prE)),.own (acc.map prE),j2,j3,j4]/\acc.length+rest.length<=1000) Ur [] ⟨.no,.no,.no,rfl,by simpa using h⟩ ?_ ?_
 ·rintro p rest acc E ⟨j2,j3,j4,rfl,hz⟩;rw[Qo] at hz;simp only[prE];walk_at "ev"
  cases he:acc[acc.length-1]? with
  | none =>
   have hn:acc=[]:=by
    cases acc with
    | nil=>rfl
    | cons a acc=>simp at he
   subst hn;rw[show(!(([]:List Pr).map prE).isEmpty)=false from rfl];walk_at "ev";have es:Ur [] p=if 0<p.2 then [p] else []:=rfl
   rw[es]
   by_cases c:0<p.2
   ·rw[decide_eq_true c,if_pos c];walk_at "ev";exact⟨.sh (.int p.1),.sh (.int p.2),j4,rfl,by simp at hz ⊢;omega⟩
   ·rw[decide_eq_false c,if_neg c];walk_at "ev";exact⟨.sh (.int p.1),.sh (.int p.2),j4,rfl,by simp at hz ⊢;omega⟩
  | some q =>
   have hl0:acc.length-1<acc.length:=(Qk.mp he).1
   have hne:(!(acc.map prE).isEmpty)=true:=by cases acc with|nil=>simp at he|cons _ _=>rfl
   have hgq:(acc.map prE)[acc.length-1]?=some (prE q):=by rw[Qm,he];rfl
   have es:Ur acc p=if q.1+q.2=p.1 then acc.dropLast++[(q.1,q.2+p.2)] else if 0<p.2 then acc++[p] else acc:=by unfold Ur;rw[he]
   have hdl:acc.dropLast.length=acc.length-1:=Ra;rw[hne,JaP,Jg9 he,es];walk_at "ev";rw[Ja5 (s:=.sh (prE q)) (ns:=[q.1,q.2]) rfl];walk_at "ev";rw[show([q.1,q.2]:List Int).sum=q.1+q.2 by simp]
   by_cases c:q.1+q.2=p.1
   ·rw[decide_eq_true c,if_pos c,hgq];walk_at "ev";rw[<- List.map_dropLast];walk_at "ev";rw[Yw,Uc];walk_at "ev";refine⟨.sh (.int p.1),.sh (.int p.2),.sh (prE q),?_,by rw[QG,Gq];omega⟩;rw[QV];rfl
   ·rw[decide_eq_false c,if_neg c];walk_at "ev"
    by_cases c2:0<p.2
    ·rw[decide_eq_true c2,if_pos c2];walk_at "ev";refine⟨.sh (.int p.1),.sh (.int p.2),j4,?_,by rw[QG,Gq];omega⟩;rw[QV];rfl
    ·rw[decide_eq_false c2,if_neg c2];walk_at "ev";exact⟨.sh (.int p.1),.sh (.int p.2),j4,rfl,by omega⟩
 ·rintro E' ⟨j2,j3,j4,rfl,_⟩;rw[Jae];walk_at "ev"
noncomputable abbrev wC:En->Option Bool:=(tAnd? (tB? (e2 fGt (Jb 3) (eC (.int 0)))) (tTru? (e1 U8 (Jb 2))))
noncomputable abbrev wB:Es:=(Jr (Jt 4 (eF Jdy (aC (Jb 3) (aC (eU 1 JF (aC (Jb 2) a0)) a0)))) (Jr (Jt 2 (eF JdA (aC (eU 1 Yc (aC (eU 2 Yb (aC (Jb 2) (aC (e1 Jce (Jb 4)) a0))) a0)) a0))) (Jdh (fun i j=>i-j) 3 (Jb 4))))
theorem Vk(x y:Sl)(left:List Pr)(n:Nat)(j4:Sl)(fuel:Nat)(h:n=0\/left=[]) :
 ((Yh wC wB (fuel+1) [x,y,.sh (.row (left.map prE)),.sh (.int (n:Int)),j4]).bind (ZU (Ua 2))).bind Jb7=some (.sh (.row ((thN n left).map prE))):=by
 have e:thN n left=left:=by
  rcases h with rfl|rfl
  ·rfl
  ·exact JbN n
 rw[e,Yh]
 have hc:wC [x,y,.sh (.row (left.map prE)),.sh (.int (n:Int)),j4]=some false:=by
  show tAnd? _ _ _=_;walk_at "ev";rcases h with rfl | rfl
  ·rw[show decide ((0:Int)<((0:Nat):Int))=false from rfl];walk_at "ev"
  ·by_cases c:(0:Int)<(n:Int)
   ·rw[decide_eq_true c];walk_at "ev";rfl
   ·rw[decide_eq_false c];walk_at "ev"
 rw[hc];walk_at "ev"
theorem Ji4(x y:Sl):∀(m fuel:Nat) (left:List Pr) (n:Nat) (j4:Sl),Good left->left.length<=m->left.length<=30->m<fuel ->
 ((Yh wC wB fuel [x,y,.sh (.row (left.map prE)),.sh (.int (n:Int)),j4]).bind (ZU (Ua 2))).bind Jb7=some (.sh (.row ((thN n left).map prE))):=by
 intro m
 induction m with
 | zero =>
  intro fuel left n j4 g hm _ hf;obtain⟨f,rfl⟩:∃f,fuel=f+1:=⟨fuel-1,by omega⟩
  exact Vk x y left n j4 f (.inr (QS (by omega)))
 | succ m ih =>
  intro fuel left n j4 g hm h30 hf;obtain⟨f,rfl⟩:∃f,fuel=f+1:=⟨fuel-1,by omega⟩
  by_cases h0:n=0\/left=[]
  ·exact Vk x y left n j4 f h0
  ·have hn:n≠0:=fun z=>h0 (.inl z)
   have hl:left≠[]:=fun z=>h0 (.inr z)
   obtain⟨c,hc,c1,w,t⟩:=Jmh g hl;obtain⟨a,ha⟩:∃a:Nat,(a:Int)=min (n:Int) c:=⟨(min (n:Int) c).toNat,by omega⟩
   have hcl:=Jcw left (by omega);rw[hc] at hcl
   have et:thN a left=clN (byF (-(a:Int)) left):=ZC a w c1 (by omega)
   have gt:Good (thN a left):=Y3 a g
   have lt:=(Uq (byF (-(a:Int)) left)).1;rw[Ub,<- et] at lt
   have hcond:wC [x,y,.sh (.row (left.map prE)),.sh (.int (n:Int)),j4]=some true:=by
    show tAnd? _ _ _=_;walk_at "ev";rw[decide_eq_true (show(0:Int)<(n:Int) by omega)];walk_at "ev"
    cases left with
    | nil=>exact absurd rfl hl
    | cons _ _=>rfl
   have hbody:wB [x,y,.sh (.row (left.map prE)),.sh (.int (n:Int)),j4]=some (.nx [x,y,.sh (.row ((thN a left).map prE)),.sh (.int ((n-a:Nat):Int)),.sh (.int (a:Int))]):=by show Jr _ _ _=_;walk_at "ev";rw[hcl];walk_at "ev";rw[<- ha,JqL _ _ (by omega)];walk_at "ev";rw[Jh2 _ (by rw[Ub];omega),<- et];walk_at "ev";rw[Ja3 rfl gt (by omega)];walk_at "ev";rw[show(n:Int)-(a:Int)=((n-a:Nat):Int) by omega]
   have fin:thN n left=thN (n-a) (thN a left):=by rw[<- WJ];congr 1;omega
   rw[Yh,hcond,QZ,if_pos rfl,hbody,QZ,fin];dsimp only
   by_cases hac:(a:Int)=c
   ·have fw:=ZE t;rw[<- hac,<- et] at fw;exact ih f _ _ _ gt (by omega) (by omega) (by omega)
   ·obtain⟨f',rfl⟩:∃f',f=f'+1:=⟨f-1,by omega⟩
    exact Vk x y _ _ _ f' (.inl (by omega))
theorem V2(ps:List Pr)(n:Nat)(g:Good ps)(h30:ps.length<=30):JT [.sh (.row (ps.map prE)),.sh (.int (n:Int))]=some (.sh (.row ((thN n ps).map prE))):=by unfold JT;rw[show ∀(k:Nat) (s:Es) (ss:List Sl),Yq k s ss=Yq k s ss from fun _ _ _=>rfl];have hw:=Ji4 (.sh (.row (ps.map prE))) (.sh (.int (n:Int))) 30 1000000 ps n .no g h30 h30 (by decide);walk_at "ev";rw[Ja3 rfl g h30];walk_at "ev";exact hw
noncomputable abbrev Tr:=Int×Int×Int
noncomputable def trE(t:Tr):D:=.tup [.int t.1,.int t.2.1,.int t.2.2]
noncomputable def owF(left:List Pr)(s:Int):Int:=if JV left (s-1)=true/\JV left s=false then 1 else 0
theorem Jnb(ps:List Pr)(s:Int)(h:ps.length<=1000):YU [.sh (.row (ps.map prE)),.sh (.int s)]=some (.sh (.int (owF ps s))):=by
 unfold YU owF;walk_at "ev";rw[Jcv _ _ h];walk_at "ev"
 cases h1:JV ps (s-1) with
 | false=>walk_at "ev";rw[if_neg (by simp)]
 | true =>
  walk_at "ev";rw[Jcv _ _ h];walk_at "ev"
  cases h2:JV ps s with
  | false=>walk_at "ev";rw[if_pos (by simp)]
  | true=>walk_at "ev";rw[if_neg (by simp)]
theorem Jct{α β:Type}(f:α->β):∀(ks:List Int) (vs:List α) (n:Int),look ks (vs.map f) n=(look ks vs n).map f
 | [],_,_=>rfl
 | _::_,[],_=>rfl
 | k::ks,v::vs,n=>by
  rw[Qd];simp only[look];split
  ·rfl
  ·exact Jct f ks vs n
theorem Jc3{α β:Type}(f:α->β):∀(ks:List Int) (vs:List α) (n:Int) (v:α),setK ks (vs.map f) n (f v)=(setK ks vs n v).map f
 | [],_,_,_=>rfl
 | _::_,[],_,_=>rfl
 | k::ks,x::vs,n,v=>by rw[Qd];simp only[setK,Qd];rw[Jc3 f ks vs n v];split <;> rfl
theorem JaD{α β:Type}(f:α->β)(ks:List Int)(vs:List α)(n:Int)(v:α):putDs ks (vs.map f) n (f v)=(putDs ks vs n v).map f:=by
 unfold putDs;split
 ·exact Jc3 f ks vs n v
 ·rw[QV];rfl
theorem Jcs(ks:List Int)(vs:List Int)(n z:Int):(look ks (vs.map D.int) n).getD (.int z)=.int ((look ks vs n).getD z):=by rw[Jct];cases look ks vs n <;> rfl
theorem Jcm(a:List Pr)(s:Int):(J6 a s).length<=a.length+1:=by
 induction a with
 | nil=>simp[J6]
 | cons p r ih =>
  rw[J6];split
  ·simp
  ·simp only[Qo];omega
theorem JhQ(a:List Pr):Jco (a.map (·.1)) ((a.map (·.2)).map D.int)=a.map prE:=by
 unfold Jco
 induction a with
 | nil=>rfl
 | cons p r ih=>simp only[Qd,List.zipWith_cons_cons,ih];rfl
noncomputable def spF(qs:List Pr):List Int:=qs.zipIdx.map fun x=>x.1.1+x.1.2-1-2*(x.2:Int)
noncomputable def JB(qs:List Pr):List Tr:=(YL (spF qs)).map fun p=>(p.1,p.2,owF (thF qs) p.1)
theorem JaW(L:List Int):∀a:List Pr,(L.foldl J6 a).length<=a.length+L.length:=by
 induction L with
 | nil=>intro a;simp
 | cons s L ih=>intro a;have h1:=ih (J6 a s);have h2:=Jcm a s;rw[Q4,Qo];omega
theorem Jh5(qs:List Pr)(g:Good qs)(h30:qs.length<=30):YQ [.sh (.row (qs.map prE))]=some (.own ((JB qs).map trE)):=by
 have h1:=V2 qs 1 g h30;rw[show((1:Nat):Int)=1 from rfl,show thN 1 qs=thF qs from rfl] at h1
 have hl:=(Uq (byF (-1) qs)).1;rw[Ub,show clN (byF (-1) qs)=thF qs from rfl] at hl;unfold YQ;walk_at "ev";rw[h1];walk_at "ev";rw[WU,WB,GY];refine YX (f:=fun x:Pr×Nat=>D.tup [.int (x.2:Int),prE x.1]) (fun(rest:List (Pr×Nat)) (a:List Pr) E=>∃j3 j4 j5,E=[.sh (.row (qs.map prE)),.sh (.row ((thF qs).map prE)),.od (a.map (·.1)) ((a.map (·.2)).map .int),j3,j4,j5]/\(a.map (·.1)).Nodup/\a.length+rest.length<=30)
  (fun a x=>J6 a (x.1.1+x.1.2-1-2*(x.2:Int))) [] ⟨.no,.no,.no,rfl,by simp,by simpa using h30⟩ ?_ ?_
 ·rintro x rest a E ⟨j3,j4,j5,rfl,hn,hz⟩;rw[Qo] at hz;have hil:=Jcm a (x.1.1+x.1.2-1-2*(x.2:Int));walk_at "ev";rw[Ja5 (s:=.sh (prE x.1)) (ns:=[x.1.1,x.1.2]) rfl];walk_at "ev";rw[show([x.1.1,x.1.2]:List Int).sum=x.1.1+x.1.2 by simp];rw[Jcs];walk_at "ev";rw[JaD,<- Uh,<- Jao _ _ hn];refine⟨.sh (.int (x.2:Int)),.sh (prE x.1),_,rfl,?_,by omega⟩;rw[Uh];exact UI _ hn
 ·rintro E' ⟨j3,j4,j5,rfl,hn,_⟩
  have ef:qs.zipIdx.foldl (fun a x=>J6 a (x.1.1+x.1.2-1-2*(x.2:Int))) []=YL (spF qs):=by unfold YL spF;rw[List.foldl_map]
  have hcl:=JaW (spF qs) []
  have hsl:(spF qs).length=qs.length:=by unfold spF;simp
  rw[ef];walk_at "ev";rw[JhQ,Yi (g:=fun p=>trE (p.1,p.2,owF (thF qs) p.1))]
  ·rw[if_pos (by rw[Qv];show(YL (spF qs)).length<=_;unfold YL;simp at hcl;omega)];walk_at "ev";unfold JB;rw[Qw];rfl
  ·intro p hp;simp only[prE];walk_at "ev";rw[Jnb _ _ (by omega)];walk_at "ev";rfl
noncomputable def Jl(ps:List Pr):List Int:=ps.map fun p=>p.1+p.2
noncomputable def Ys(prs:List Pr):List Int:=prs.flatMap fun p=>QC p.2.toNat p.1
theorem Jby{qs:List Pr}(g:Good qs)(s:Int):owF qs s=if s∈Jl qs then 1 else 0:=by
 unfold owF
 by_cases c:s∈Jl qs
 ·rw[if_pos c];obtain⟨p,hp,rfl⟩:=Qu.mp c;have h1:=Good.all g p hp;rw[if_pos];refine⟨has_iff.mpr ⟨p,hp,by omega,by omega⟩,?_⟩
  cases h:JV qs (p.1+p.2) with
  | false=>rfl
  | true =>
   obtain⟨q,hq,a1,a2⟩:=has_iff.mp h;have pw:=Good.pw g;obtain⟨i,hi,rfl⟩:=GG.mp hp;obtain⟨j,hj,rfl⟩:=GG.mp hq;rcases Nat.lt_trichotomy i j with z|z|z
   ·have:=GH.mp pw i j hi hj z;omega
   ·subst z;omega
   ·have:=GH.mp pw j i hj hi z;omega
 ·rw[if_neg c,if_neg];rintro⟨h1,h2⟩;obtain⟨p,hp,a1,a2⟩:=has_iff.mp h1;refine c (Qu.mpr ⟨p,hp,?_⟩);rcases Jm7 s (p.1+p.2) with z|z
  ·rw[has_iff.mpr ⟨p,hp,by omega,z⟩] at h2;cases h2
  ·omega
theorem JjC{ps:List Pr}(g:Good ps):(Jl ps).Pairwise (·<·):=by
 unfold Jl;rw[Kg];refine(Good.pw g).imp_of_mem fun {a b} _ hb h=>?_
 have:=Good.all g b hb;omega
theorem Ja1{ps:List Pr}(g:Good ps):(Jl ps).Nodup:=(JjC g).imp fun {a b} h=>by omega
theorem Jc5(k:Int)(ps:List Pr):spF (byF (k+1) ps)=Jl (byF k ps):=by
 unfold spF Jl;refine Ga fun i=>?_
 rw[Qm,Qm,KF];unfold byF;rw[QB,QB]
 cases ps[i]? with
 | none=>rfl
 | some p =>
  simp only[Kz];congr 1;have e:2*(k+1)*(i:Int)=2*k*(i:Int)+2*(i:Int):=by rw[KZ,KE];simp
  simp only[L8];rw[e];omega
theorem JgS{ps:List Pr}(g:Good ps)(n:Nat):JB (byF ((n:Int)+1) ps)=(byF (n:Int) ps).map fun p=>(p.1+p.2,1,1):=by
 have gw:=Yr g
 have gn:Good (byF (n:Int) ps):=(gw.bys (k:=(n:Int))).good (by omega)
 have et:thF (byF ((n:Int)+1) ps)=byF (n:Int) ps:=by have:=ZD (n:=1) (gw.bys (k:=(n:Int)+1)) (by omega) (by omega);rw[show thF (byF ((n:Int)+1) ps)=thN 1 (byF ((n:Int)+1) ps) from rfl,this,Jex];congr 1;omega
 unfold JB YL;rw[et,Jc5,JeD (Jl (byF (n:Int) ps)) [] (by simpa using Ja1 gn),Lr,Qw];unfold Jl;rw[Qw];refine QE fun p hp=>?_
 simp only[Function.comp];rw[Jby gn,if_pos (show p.1+p.2∈Jl (byF (n:Int) ps) from Qu.mpr ⟨p,hp,rfl⟩)]
theorem Jag:∀{l:List Int} {k:Int},l.Nodup->k∈l->l.count k=1
 | [],_,_,h=>by cases h
 | a::l,k,hn,h=>by
  rw[Gk] at hn;rw[QN]
  by_cases c:a=k
  ·subst c;rw[Lx.mpr hn.1];simp
  ·have hm:k∈l:=(Qj.mp h).resolve_left fun z=>c z.symm
   rw[Jag hn.2 hm];simp[c]
theorem W3(d:Int):∀(a:List Pr) (s:Int),J6 (a.map fun p=>(p.1-d,p.2)) (s-d)=(J6 a s).map fun p=>(p.1-d,p.2)
 | [],s=>rfl
 | p::r,s=>by
  rw[Qd,J6,J6];dsimp only
  by_cases h:p.1=s
  ·rw[if_pos h,if_pos (by omega)];rfl
  ·rw[if_neg h,if_neg (by omega),W3 d r s];rfl
theorem Jaf(d:Int):∀(L:List Int) (a:List Pr),(L.map (·-d)).foldl J6 (a.map fun p=>(p.1-d,p.2))=(L.foldl J6 a).map fun p=>(p.1-d,p.2)
 | [],a=>rfl
 | s::L,a=>by rw[Qd,Q4,Q4,W3,Jaf d L]
theorem Jhk:∀(L:List Int) (a:List Pr),(a.map (·.1)).Pairwise (·<·)->(∀k∈a.map (·.1),∀s∈L,k<=s)->L.Pairwise (·<=·)->((L.foldl J6 a).map (·.1)).Pairwise (·<·)
 | [],a,h,_,_=>h
 | s::L,a,h,hk,hL=>by
  obtain⟨l1,l2⟩:=QO.mp hL;rw[Q4];have e:(J6 a s).map (·.1)=Yt (a.map (·.1)) s:=Uh s a;refine Jhk L (J6 a s) ?_ (fun k hk' t ht=>?_) l2
  ·rw[e];unfold Yt;split
   ·exact h
   ·next c =>
    rw[Le];refine⟨h,by simp,fun k hk' t ht=>?_⟩;have ht':t=s:=by simpa using ht
    subst ht';have h1:=hk k hk' t Qf;have h2:k≠t:=fun z=>c (hasK_mem.mpr (by rw[<- z];exact hk'))
    omega
  ·rw[e] at hk';unfold Yt at hk';split at hk'
   ·exact hk k hk' t (Qc _ ht)
   ·rcases GB.mp hk' with z|z
    ·exact hk k z t (Qc _ ht)
    ·have z':k=s:=by simpa using z
     subst z';exact l1 t ht
theorem JiO:∀{ps:List Pr} (i:Nat),Good ps->((ps.zipIdx i).map fun x=>x.1.1+x.1.2-1-2*(x.2:Int)).Pairwise (·<=·)
 | [],_,_=>.nil
 | [p],i,_=>by simp
 | p::q::r,i,g=>by
  have ih:=JiO (i+1) (Good.cons' g)
  have h1:=g.gap 0 p q rfl rfl
  have h2:=g.one 1 q rfl;rw[KQ,Qd];refine QO.mpr ⟨fun t ht=>?_,ih⟩;rw[KQ,Qd] at ih ht
  have hq:p.1+p.2-1-2*(i:Int)<=q.1+q.2-1-2*((i+1:Nat):Int):=by omega
  rcases Qj.mp ht with z|z
  ·subst z;exact hq
  ·have:=(QO.mp ih).1 t z;dsimp only at this ⊢;omega
noncomputable def Jn(k:Int)(qs:List Pr):List Tr:=((JB qs).filter fun t=>decide (t.2.1>t.2.2)).map fun t=>(k,t.1,t.2.1-t.2.2)
noncomputable def tbN:Nat->Int->List Pr->List Tr
 | 0,_,_=>[]
 | n+1,k,qs=>Jn (k+1) qs++tbN n (k+1) (thF qs)
theorem Vj:∀(n:Nat) (k:Int),tbN n k []=[]
 | 0,_=>rfl
 | n+1,k=>by rw[tbN,show thF []=[] from rfl,Vj n (k+1)];rfl
theorem JiZ:∀(n m:Nat) (k:Int) (qs:List Pr),thN n qs=[]->tbN (n+m) k qs=tbN n k qs
 | 0,m,k,qs,h=>by have:qs=[]:=h;subst this;rw[Vj,Vj]
 | n+1,m,k,qs,h=>by rw[show n+1+m=(n+m)+1 by omega,tbN,tbN,JiZ n m (k+1) (thF qs) h]
theorem JbM(qs:List Pr):(thF qs).length<=qs.length:=by have:=(Uq (byF (-1) qs)).1;rw[Ub] at this;exact this
theorem Jlr{qs:List Pr}(g:Good qs)(h:(thF qs).length=qs.length):Good (byF (-1) qs):=by obtain⟨_,h2⟩:=Uq (byF (-1) qs);obtain⟨a1,a2⟩:=h2 (by rw[Ub];exact h);have w:=(Yr g).bys (k:=-1);refine⟨fun i p e=>by have:=a1 p (QX e);omega,fun i p q e1 e2=>?_⟩;have:=a2 i p q e1 e2;have:=w.gap i p q e1 e2;omega
theorem Jcr{qs:List Pr}(g:Good (byF (-1) qs))(k:Int):Jn k qs=[]:=by
 have e:qs=byF (((0:Nat):Int)+1) (byF (-1) qs):=by rw[Jex,show((0:Nat):Int)+1+-1=0 by omega,Vo]
 unfold Jn;rw[e,JgS g 0,List.filter_map,Qw,MR.mpr]
 ·rfl
 ·intro p hp;simp
theorem Jaw{qs:List Pr}(g:Good qs){k:Int}(h:Jn k qs≠[]):(thF qs).length<qs.length:=by
 rcases LF (thF qs).length qs.length with z|z
 ·exact z
 ·exact absurd (Jcr (Jlr g (Nat.le_antisymm (JbM qs) z)) k) h
theorem Jee(qs:List Pr):(spF qs).length=qs.length:=by unfold spF;simp
theorem Je9(k:Int)(qs:List Pr):(Jn k qs).length<=qs.length:=by
 unfold Jn JB;rw[Qv];refine Q5 (LO _ _) ?_;rw[Qv];have:=JaW (spF qs) [];rw[Jee] at this;unfold YL
 simpa using this
theorem Ji0:∀(n:Nat) (k:Int) (qs:List Pr),Good qs->qs.length<=30->(tbN n k qs).length<=30*qs.length
 | 0,_,_,_,_=>by simp[tbN]
 | n+1,k,qs,g,h=>by
  have l1:=Je9 (k+1) qs
  have l2:=JbM qs
  have ih:=Ji0 n (k+1) (thF qs) (Js g) (by omega);rw[tbN,QG]
  by_cases c:Jn (k+1) qs=[]
  ·rw[c,Ls];omega
  ·have:=Jaw g c;omega
theorem Jlo{c:Int}{qs:List Pr}(w:Wide c qs)(c1:1<=c):∀(j m:Nat) (k:Int),((j:Int)<c)->tbN (j+m) k qs=tbN m (k+(j:Int)) (thN j qs):=by
 intro j
 induction j generalizing c qs with
 | zero=>intro m k _;rw[L8];simp[thN]
 | succ j ih=>intro m k hj;have w1:Wide (c+-1) (byF (-1) qs):=w.bys;have g1:Good (byF (-1) qs):=w1.good (by omega);have e:thF qs=byF (-1) qs:=JaU g1;rw[show j+1+m=(j+m)+1 by omega,tbN,Jcr g1,Lr,e,ih w1 (by omega) m (k+1) (by omega)];show _=tbN m (k+((j+1:Nat):Int)) (thN j (thF qs));rw[e];congr 1;omega
theorem JoG{c:Int}{qs:List Pr}(w:Wide c qs)(c1:1<=c)(hne:qs≠[])(j:Nat)(hj:(j:Int)<c):thN j qs≠[]:=by rw[ZD w c1 hj];intro z;have:=Ub (-(j:Int)) qs;rw[z] at this;exact hne (QS this.symm)
theorem Jek:∀{a b:Nat} {qs:List Pr},a<=b->thN a qs=[]->thN b qs=[]:=fun {a b qs} h e=>by rw[show b=a+(b-a) by omega,WJ,e,JbN]
theorem Jdc{c:Int}{qs:List Pr}(w:Wide c qs)(c1:1<=c)(hne:qs≠[]){N:Nat}(hN:thN N qs=[])(k:Int):∃C:Nat,(C:Int)=c/\C<=N/\tbN N k qs=Jn (k+c) (thN (C-1) qs)++tbN (N-C) (k+c) (thN C qs)/\thN (N-C) (thN C qs)=[]:=by
 obtain⟨C,hC⟩:∃C:Nat,(C:Int)=c:=⟨c.toNat,by omega⟩
 have hCN:C<=N:=by
  rcases LF N C with z|z
  ·exact absurd hN (JoG w c1 hne N (by omega))
  ·exact z
 refine⟨C,hC,hCN,?_,by rw[<- WJ,show C+(N-C)=N by omega];exact hN⟩;have e:=Jlo w c1 (C-1) (N-C+1) k (by omega);rw[show C-1+(N-C+1)=N by omega] at e;rw[e,tbN,<- Wh,show C-1+1=C by omega,show k+((C-1:Nat):Int)+1=k+c by omega]
noncomputable def J7:List Pr->Int->Int->List Pr
 | [],s,v=>[(s,v)]
 | p::r,s,v=>if p.1=s then(p.1,p.2+v)::r else p::J7 r s v
theorem US(s v:Int):∀a:List Pr,(J7 a s v).map (·.1)=Yt (a.map (·.1)) s
 | []=>rfl
 | p::r=>by
  have ih:=US s v r;unfold Yt Vv at ih ⊢;rw[J7,Qd,Ka]
  by_cases h:p.1=s
  ·rw[if_pos h,decide_eq_true h,Rx,if_pos rfl];rfl
  ·rw[if_neg h,decide_eq_false h,G1,Qd,ih];split <;> rfl
theorem ZY(s v:Int):∀a:List Pr,(a.map (·.1)).Nodup->(J7 a s v).map (·.2)=putDs (a.map (·.1)) (a.map (·.2)) s ((look (a.map (·.1)) (a.map (·.2)) s).getD 0+v)
 | [],_=>by show [v]=[0+v];simp
 | p::r,hn=>by
  rw[Qd,Gk] at hn;have ih:=ZY s v r hn.2;rw[J7,Qd,Qd]
  by_cases h:p.1=s
  ·rw[if_pos h];unfold putDs;rw[if_pos (hasK_mem.mpr (by rw[h];exact Qf)),look,if_pos h,setK,if_pos h,Zv _ _ _ _ (by rw[<- h];exact hn.1)];rfl
  ·rw[if_neg h,Qd,ih,look,if_neg h];unfold putDs
   have e:Vv (p.1::r.map (·.1)) s=Vv (r.map (·.1)) s:=by unfold Vv;rw[Ka,decide_eq_false h,G1]
   rw[e];split
   ·rw[setK,if_neg h]
   ·rfl
noncomputable def J5(tb:List Tr)(a:List Pr):List Pr:=tb.foldl (fun a t=>J7 a t.1 t.2.2) a
theorem JN{k:Int}{qs:List Pr}{t:Tr}(h:t∈Jn k qs):t.1=k:=by obtain⟨u,_,e⟩:=Qu.mp h;rw[<- e]
theorem VD:∀(n:Nat) (k:Int) (qs:List Pr) (t:Tr),t∈tbN n k qs->k<t.1
 | 0,_,_,_,h=>by cases h
 | n+1,k,qs,t,h=>by
  rw[tbN] at h;rcases GB.mp h with z|z
  ·have:=JN z;omega
  ·have:=VD n (k+1) (thF qs) t z;omega
theorem JfK(k:Int):∀(l:List Tr) (a:List Pr),(∀t∈l,t.1=k)->(J5 l a).map (·.1)=if l=[] then a.map (·.1) else Yt (a.map (·.1)) k
 | [],a,_=>by rw[if_pos rfl];rfl
 | t::l,a,h=>by
  have ht:=h t Qf
  have ih:=JfK k l (J7 a t.1 t.2.2) fun u hu=>h u (Qc _ hu)
  rw[if_neg (by simp)];show(J5 l (J7 a t.1 t.2.2)).map (·.1)=_;rw[ih,US,ht];split
  ·rfl
  ·unfold Yt;split
   ·next c=>first|rfl|rw[if_pos c]
   ·next c=>rw[if_pos (hasK_mem.mpr (by simp))]
theorem Jeg:∀(n:Nat) (k:Int) (qs:List Pr) (a:List Pr),Good qs->(a.map (·.1)).Pairwise (·<·)->(∀x∈a.map (·.1),x<=k)->((J5 (tbN n k qs) a).map (·.1)).Pairwise (·<·)/\(J5 (tbN n k qs) a).length<=a.length+qs.length
 | 0,_,_,a,_,h,_=>⟨h,by simp[tbN,J5]⟩
 | n+1,k,qs,a,g,h,hk=>by
  have e:J5 (tbN (n+1) k qs) a=J5 (tbN n (k+1) (thF qs)) (J5 (Jn (k+1) qs) a):=by unfold J5;rw[tbN,Mt]
  have e1:=JfK (k+1) (Jn (k+1) qs) a fun t ht=>JN ht
  have len:∀a b:List Pr,a.map (·.1)=b.map (·.1)->a.length=b.length:=fun a b z=>by
   have:=congrArg Lz z
   simpa using this
  have l2:=JbM qs;rw[e]
  by_cases c:Jn (k+1) qs=[]
  ·rw[if_pos c] at e1;obtain⟨i1,i2⟩:=Jeg n (k+1) (thF qs) (J5 (Jn (k+1) qs) a) (Js g) (by rw[e1];exact h) (fun x hx=>by rw[e1] at hx;have:=hk x hx;omega);have:=len _ _ e1;exact⟨i1,by omega⟩
  ·rw[if_neg c] at e1;have hnot:¬Vv (a.map (·.1)) (k+1)=true:=fun z=>by have:=hk _ (hasK_mem.mp z);omega
   unfold Yt at e1;rw[if_neg hnot] at e1;have hl:=congrArg Lz e1;rw[QG,Qv,Qv,Gq] at hl;have fw:=Jaw g c
   obtain⟨i1,i2⟩:=Jeg n (k+1) (thF qs) (J5 (Jn (k+1) qs) a) (Js g) (by
    rw[e1,Le];refine⟨h,by simp,fun x hx y hy=>?_⟩;have:=hk x hx;have:y=k+1:=by simpa using hy
    omega) (fun x hx=>by
    rw[e1] at hx;rcases GB.mp hx with z|z
    ·have:=hk x z;omega
    ·have:x=k+1:=by simpa using z
     omega)
   exact⟨i1,by omega⟩
theorem Jg5(a:List Pr)(s v:Int):(J7 a s v).length<=a.length+1:=by
 induction a with
 | nil=>simp[J7]
 | cons p r ih =>
  rw[J7];split
  ·simp
  ·simp only[Qo];omega
theorem VE:∀(n:Nat) (ps:List Pr),(thN n ps).length<=ps.length
 | 0,ps=>Qx _
 | n+1,ps=>by
  show(thN n (thF ps)).length<=_
  have h1:=VE n (thF ps)
  have h2:=(Uq (byF (-1) ps)).1;rw[Ub] at h2
  have h3:(thF ps).length=(clN (byF (-1) ps)).length:=rfl;omega
noncomputable abbrev tbC:En->Option Bool:=(tTru? (e1 U8 (Jb 2)))
noncomputable abbrev tbB:Es:=(Jr (Jt 4 (eU 1 JF (aC (Jb 2) a0))) (Jr (Jdh (fun i j=>i+j) 3 (Jb 4)) (Jr (Jt 2 (eU 2 JT (aC (Jb 2) (aC (e2 J0 (Jb 4) (eC (.int 1))) a0)))) (Jr (JgX 1 (Y4 (iE true (eU 1 YQ (aC (Jb 2) a0))) (.tp (.cons (.nm 0) (.cons (.nm 1) (.cons (.nm 2) .nil)))) (tB? (e2 fGt (Jb 1) (Jb 2))) (U2 (aC (Jb 3) (aC (Jb 0) (aC (e2 J0 (Jb 1) (Jb 2)) a0)))) [none,none,none,some 3])) (Jt 2 (eU 2 JT (aC (Jb 2) (aC (eC (.int 1)) a0))))))))
theorem Jdb(j0 j4:Sl)(acc:List Tr)(k:Int)(fuel:Nat):((Yh tbC tbB (fuel+1) [j0,.own (acc.map trE),.sh (.row (([]:List Pr).map prE)),.sh (.int k),j4]).bind (ZU (Ua 1))).bind Jb7=some (.own (acc.map trE)):=by rw[Yh];have hc:tbC [j0,.own (acc.map trE),.sh (.row (([]:List Pr).map prE)),.sh (.int k),j4]=some false:=rfl;rw[hc];walk_at "ev"
theorem JoE(j0:Sl):∀(m fuel:Nat) (left:List Pr) (acc:List Tr) (k:Int) (j4:Sl) (N:Nat),Good left->left.length<=m->left.length<=30->m<fuel->thN N left=[]->acc.length+30*left.length<=10000 ->
 ((Yh tbC tbB fuel [j0,.own (acc.map trE),.sh (.row (left.map prE)),.sh (.int k),j4]).bind (ZU (Ua 1))).bind Jb7=some (.own ((acc++tbN N k left).map trE)):=by
 intro m
 induction m with
 | zero =>
  intro fuel left acc k j4 N g hm _ hf _ _;obtain⟨f,rfl⟩:∃f,fuel=f+1:=⟨fuel-1,by omega⟩
  have:left=[]:=QS (by omega);subst this;rw[Jdb,Vj,GR]
 | succ m ih =>
  intro fuel left acc k j4 N g hm h30 hf hN hacc;obtain⟨f,rfl⟩:∃f,fuel=f+1:=⟨fuel-1,by omega⟩
  by_cases h0:left=[]
  ·subst h0;rw[Jdb,Vj,GR]
  ·obtain⟨c,hc,c1,w,t⟩:=Jmh g h0;obtain⟨C,hC,hCN,eT,eN⟩:=Jdc w c1 h0 hN k;have hcl:=Jcw left (by omega);rw[hc] at hcl;have g1:=Y3 (C-1) g;have l1:=VE (C-1) left;have l2:=VE C left;have fw:=ZE t;rw[<- hC,<- ZC C w c1 (by omega)] at fw;have ll:=Je9 (k+c) (thN (C-1) left)
   have hcond:tbC [j0,.own (acc.map trE),.sh (.row (left.map prE)),.sh (.int k),j4]=some true:=by
    walk_at "ev"
    cases left with
    | nil=>exact absurd rfl h0
    | cons _ _=>rfl
   have hth:=V2 (thN (C-1) left) 1 g1 (by omega);rw[show((1:Nat):Int)=1 from rfl,show thN 1 (thN (C-1) left)=thN C left by rw[<- WJ,show C-1+1=C by omega]] at hth
   have hbody:tbB [j0,.own (acc.map trE),.sh (.row (left.map prE)),.sh (.int k),j4]=some (.nx [j0,.own ((acc++Jn (k+c) (thN (C-1) left)).map trE),.sh (.row ((thN C left).map prE)),.sh (.int (k+c)),.sh (.int c)]):=by
    walk_at "ev";rw[hcl];walk_at "ev";rw[show c-1=((C-1:Nat):Int) by omega,V2 _ _ g (by omega)];walk_at "ev";rw[Jh5 _ g1 (by omega)];walk_at "ev";rw[Ja0 (g:=fun t:Tr=>trE (k+c,t.1,t.2.1-t.2.2)) (k:=fun t:Tr=>decide (t.2.1>t.2.2))]
    ·have el:((JB (thN (C-1) left)).filter fun t=>decide (t.2.1>t.2.2)).map (fun t:Tr=>trE (k+c,t.1,t.2.1-t.2.2))=(Jn (k+c) (thN (C-1) left)).map trE:=by unfold Jn;rw[Qw];rfl
     rw[el]
     have hsl:(JB (thN (C-1) left)).length<=30:=by unfold JB;rw[Qv];have:=JaW (spF (thN (C-1) left)) [];rw[Jee] at this;unfold YL;simp at this;omega
     walk_at "ev";rw[hth];walk_at "ev";rw[<- QV]
    ·intro t ht;simp only[trE];refine⟨?_,fun _=>?_⟩
     ·walk_at "ev"
      first|rfl|done
     ·walk_at "ev"
      first|rfl|done
   rw[Yh,hcond,QZ,if_pos rfl,hbody,QZ,eT,<- GM];exact ih f _ _ _ _ _ (Y3 C g) (by omega) (by omega) (by omega) eN (by rw[QG];omega)
theorem Jfd(ps:List Pr)(N:Nat)(g:Good ps)(h:ps.length<=30)(hN:thN N ps=[]):Ya [.sh (.row (ps.map prE))]=some (.own ((tbN N 0 ps).map trE)):=by have go:=JoE (.sh (.row (ps.map prE))) 30 1000000 ps [] 0 .no N g h h (by decide) hN (by simp;omega);unfold Ya;walk_at "ev";exact go
theorem Jkn(ps:List Pr)(N:Nat)(g:Good ps)(h:ps.length<=30)(hN:thN N ps=[]):YG [.sh (.row (ps.map prE))]=some (.own ((J5 (tbN N 0 ps) []).map prE)):=by
 have tl:=Ji0 N 0 ps g h;unfold YG;walk_at "ev";rw[Jfd ps N g h hN];walk_at "ev";rw[GY];refine YX (fun(rest:List Tr) (a:List Pr) E=>∃j2 j3 j4,E=[.sh (.row (ps.map prE)),.od (a.map (·.1)) ((a.map (·.2)).map .int),j2,j3,j4]/\(a.map (·.1)).Nodup/\a.length+rest.length<=1000) (fun a t=>J7 a t.1 t.2.2) [] ⟨.no,.no,.no,rfl,by simp,by simp;omega⟩ ?_ ?_
 ·rintro t rest a E ⟨j2,j3,j4,rfl,hn,hz⟩;rw[Qo] at hz;have hal:=Jg5 a t.1 t.2.2;simp only[trE];walk_at "ev";rw[Jcs];walk_at "ev";rw[JaD,<- US t.1 t.2.2,<- ZY _ _ _ hn];refine⟨.sh (.int t.1),.sh (.int t.2.1),.sh (.int t.2.2),rfl,?_,by omega⟩;rw[US];exact UI _ hn
 ·rintro E' ⟨j2,j3,j4,rfl,hn,_⟩;walk_at "ev";rw[JhQ];rfl
theorem Wy:∀(cur:Pr) (r:List Pr),(∀p∈r,0<=p.2)->((clF cur r).map (·.2)).sum=cur.2+(r.map (·.2)).sum
 | cur,[],_=>by simp[clF]
 | cur,p::r,h=>by
  have h0:=h p Qf
  have hr:=fun q hq=>h q (Qc p hq)
  rw[clF,Qd,QA];split
  ·rw[Wy _ r hr];dsimp only;omega
  ·split
   ·rw[Qd,QA,Wy p r hr]
   ·rw[Wy cur r hr];omega
theorem JeA:∀(ps:List Pr),(∀p∈ps,0<=p.2)->((clN ps).map (·.2)).sum=(ps.map (·.2)).sum
 | [],_=>rfl
 | p::r,h=>by
  have h0:=h p Qf
  have hr:=fun q hq=>h q (Qc p hq)
  rw[clN,Qd,QA];split
  ·exact Wy p r hr
  ·rw[JeA r hr];omega
theorem Jme(k:Int):∀(ps:List Pr),((byF k ps).map (·.2)).sum=(ps.map (·.2)).sum+k*(ps.length:Int):=by
 intro ps
 have e:(byF k ps).map (·.2)=ps.map fun p=>p.2+k:=by
  refine Ga fun i=>?_
  unfold byF;rw[Qm,QB,Qm,Kr];rfl
 rw[e]
 induction ps with
 | nil=>simp
 | cons p r ih =>
  have ih':=ih (by
   refine Ga fun i=>?_
   unfold byF;rw[Qm,QB,Qm,Kr];rfl)
  rw[Qd,QA,ih',Qd,QA,Qo,KA,KZ];simp;omega
theorem JbL:∀{ps:List Pr},(∀p∈ps,1<=p.2)->(ps.length:Int)<=(ps.map (·.2)).sum
 | [],_=>QD _
 | p::ps,h=>by
  have h1:=h p Qf
  have h2:=JbL fun q hq=>h q (Qc _ hq)
  rw[Qd,QA,Qo];omega
theorem JfR{ps:List Pr}(g:Good ps):((thF ps).map (·.2)).sum=(ps.map (·.2)).sum-(ps.length:Int):=by
 unfold thF;rw[JeA,Jme]
 ·omega
 ·intro x hx;obtain⟨i,hi,rfl⟩:=GG.mp hx;have e:(byF (-1) ps)[i]?=some (byF (-1) ps)[i]:=by simp
  obtain⟨p,hp,e2⟩:=U7 e;rw[e2];have:=g.one i p hp;dsimp only;omega
theorem U1:∀(n:Nat) {ps:List Pr},Good ps->(ps.map (·.2)).sum<=(n:Int)->thN n ps=[]
 | 0,ps,g,h=>by
  have:=JbL (Good.all g)
  show ps=[]
  exact QS (by omega)
 | n+1,ps,g,h=>by
  show thN n (thF ps)=[]
  refine U1 n (Js g) ?_;rw[JfR g]
  by_cases hl:ps.length=0
  ·have:ps=[]:=QS hl;subst this;simp
  ·omega
theorem Jqi{c1 c2 p1 p2 ins s:Int}(e:c1+c2=p1)(hc:0<=c2)(hp:0<=p2)(h0:0<=ins)(h1:ins<=s):∃t u,min c2 (s-ins)=t/\max 0 (ins+t-(p1-c1-c2))=ins+t/\min (ins+t) (p1-c1-c2)=0 ∧
 min p2 (s-(ins+t))=u/\min (c2+p2) (s-ins)=t+u/\0<=t/\t<=c2/\0<=u/\u<=p2/\(t=c2\/u=0):=by
 have z:p1-c1-c2=0:=by omega
 rw[z];rcases LH c2 (s-ins) with h|h
 ·rw[Ki h];rcases LH p2 (s-(ins+c2)) with k|k
  ·exact⟨c2,p2,rfl,by omega,by omega,Ki k,by omega,hc,QD _,hp,QD _,.inl rfl⟩
  ·exact⟨c2,s-(ins+c2),rfl,by omega,by omega,G7 k,by omega,hc,QD _,by omega,k,.inl rfl⟩
 ·rw[G7 h];exact⟨s-ins,0,rfl,by omega,by omega,by omega,by omega,by omega,h,QD _,hp,.inr rfl⟩
theorem bare{c1 c2 p1 p2 ins s:Int}(hb:c1+c2<=p1)(hp:p2=0)(hc:0<=c2)(h0:0<=ins)(h1:ins<=s):∃t m w,min c2 (s-ins)=t/\max 0 (ins+t-(p1-c1-c2))=m/\min (ins+t) (p1-c1-c2)=w/\min p2 (s-m)=0/\0<=t/\t<=c2 ∧
 ((m=0/\w=ins+t/\ins+t<=p1-c1-c2)\/(m=ins+t-(p1-c1-c2)/\w=p1-c1-c2/\p1-c1-c2<=ins+t)):=by
 obtain⟨t,ht,t0,t1,t2⟩:∃t,min c2 (s-ins)=t/\0<=t/\t<=c2/\ins+t<=s:=⟨_,rfl,by omega (config:={}),by omega (config:={}),by omega (config:={})⟩
 rw[ht];rcases LH (ins+t) (p1-c1-c2) with h|h
 ·exact⟨t,0,ins+t,rfl,by omega (config:={}),Ki h,by omega (config:={}),t0,t1,.inl ⟨rfl,rfl,h⟩⟩
 ·exact⟨t,ins+t-(p1-c1-c2),p1-c1-c2,rfl,by omega (config:={}),G7 h,by omega (config:={}),t0,t1,.inr ⟨rfl,rfl,h⟩⟩
theorem JeE:∀(L:List Int) (a:List Pr),((L.foldl J6 a).map (·.2)).sum=(a.map (·.2)).sum+(L.length:Int)
 | [],a=>by simp
 | s::L,a=>by
  have e:∀a:List Pr,((J6 a s).map (·.2)).sum=(a.map (·.2)).sum+1:=fun a=>by
   induction a with
   | nil=>simp[J6]
   | cons p r ih =>
    rw[J6];split
    ·simp only[Qd,QA];omega
    ·simp only[Qd,QA];omega
  rw[Q4,JeE L,e,Qo];omega
theorem JfJ{α:Type}:∀(l:List α),(l.map fun _=>(0:Int)).sum=0
 | []=>rfl
 | _::l=>by rw[Qd,QA,JfJ l];rfl
theorem JhK:∀(M K:List Int),M.Nodup->K.Nodup->(∀x∈M,x∈K)->(K.map fun s=>if s∈M then(1:Int) else 0).sum=(M.length:Int)
 | [],K,_,_,_=>by rw[show(fun s:Int=>if s∈([]:List Int) then(1:Int) else 0)=fun _=>0 from funext fun s=>if_neg (by simp)];exact JfJ K
 | m::M,K,hm,hk,h=>by
  obtain⟨h1,h2⟩:=Gk.mp hm;have ih:=JhK M K h2 hk fun x hx=>h x (Qc _ hx)
  have one:∀K:List Int,K.Nodup->(K.map fun s=>if s∈m::M then(1:Int) else 0).sum=(K.map fun s=>if s∈M then(1:Int) else 0).sum+(if m∈K then 1 else 0):=fun K hk=>by
   induction K with
   | nil=>rfl
   | cons k K ihK =>
    obtain⟨a1,a2⟩:=Gk.mp hk;rw[Qd,QA,Qd,QA,ihK a2]
    by_cases c:k=m
    ·subst c;rw[if_pos Qf,if_neg h1,if_neg a1,if_pos Qf];omega
    ·have e1:(k∈m::M)=(k∈M):=by simp[c]
     have e2:(m∈k::K)=(m∈K):=by simp[Q2 c]
     simp only[e1,e2];omega
  rw[one K hk,ih,if_pos (h m Qf),Qo];omega
theorem Vr:∀(r:List Pr) (cur:Pr) (e:Int),e∈Jl (clF cur r)->e∈Jl (cur::r)
 | [],_,_,h=>h
 | p::r,cur,e,h=>by
  unfold Jl at h ⊢;rw[clF] at h;split at h
  ·next c =>
   have:=Vr r _ e h;unfold Jl at this;simp only[Qd,Qj] at this ⊢;rcases this with z|z
   ·exact .inr (.inl (by omega))
   ·exact .inr (.inr z)
  ·split at h
   ·rw[Qd,Qj] at h;rcases h with z|z
    ·rw[z];simp
    ·have:=Vr r p e z;unfold Jl at this;rw[Qd];exact Qc _ this
   ·have:=Vr r cur e h;unfold Jl at this;simp only[Qd,Qj] at this ⊢;rcases this with z|z
    ·exact .inl z
    ·exact .inr (.inr z)
theorem Jb8:∀(ps:List Pr) (e:Int),e∈Jl (clN ps)->e∈Jl ps
 | [],_,h=>h
 | p::r,e,h=>by
  rw[clN] at h;split at h
  ·exact Vr r p e h
  ·have:=Jb8 r e h;unfold Jl at this ⊢;rw[Qd];exact Qc _ this
theorem Ja2{qs:List Pr}{e:Int}(h:e∈Jl (thF qs)):e∈spF qs:=by
 have:=Jb8 _ e h
 have z:=Jc5 (-1) qs;rw[show(-1:Int)+1=0 by omega,Vo] at z;rw[z];exact this
noncomputable def YH(l:List Tr):Int:=(l.map (·.2.2)).sum
theorem Ja8{α:Type}(f:α->Int)(k:α->Bool):∀(l:List α),(∀x∈l,k x=false->f x=0)->((l.filter k).map f).sum=(l.map f).sum
 | [],_=>rfl
 | x::l,h=>by
  have ih:=Ja8 f k l fun y hy=>h y (Qc _ hy)
  rw[Qd,QA]
  cases c:k x with
  | true=>rw[Gu c,Qd,QA,ih]
  | false=>rw[Gs (by rw[c];simp),ih,h x Qf c,Li]
theorem JfL{α:Type}(f g:α->Int):∀(l:List α),(l.map fun x=>f x-g x).sum=(l.map f).sum-(l.map g).sum
 | []=>rfl
 | x::l=>by rw[Qd,QA,Qd,QA,Qd,QA,JfL f g l];omega
theorem JfI{α:Type}(f g:α->Int):∀(l:List α),(l.map fun x=>f x+g x).sum=(l.map f).sum+(l.map g).sum
 | []=>rfl
 | x::l=>by rw[Qd,QA,Qd,QA,Qd,QA,JfI f g l];omega
theorem UX{qs:List Pr}(g:Good qs)(k:Int):YH (Jn k qs)=(qs.length:Int)-((thF qs).length:Int):=by
 obtain⟨c1,c2,c3⟩:=Jhj (spF qs);have nd:=Ja1 (Js g);unfold YH Jn;rw[Qw];have e1:(((JB qs).filter fun t=>decide (t.2.1>t.2.2)).map ((fun t:Tr=>t.2.2) ∘ fun t:Tr=>(k,t.1,t.2.1-t.2.2))).sum=(((JB qs).filter fun t=>decide (t.2.1>t.2.2)).map fun t=>t.2.1-t.2.2).sum:=rfl;rw[e1,Ja8]
 ·unfold JB;rw[Qw]
  have e2:((YL (spF qs)).map ((fun t:Tr=>t.2.1-t.2.2) ∘ fun p:Pr=>((p.1,p.2,owF (thF qs) p.1):Tr))).sum=((YL (spF qs)).map fun p=>p.2-(if p.1∈Jl (thF qs) then(1:Int) else 0)).sum:=by
   congr 1;refine QE fun p _=>?_
   show p.2-owF (thF qs) p.1=_;rw[Jby (Js g)]
  rw[e2,JfL];have e3:=JeE (spF qs) [];have e4:=JhK (Jl (thF qs)) ((YL (spF qs)).map (·.1)) nd c1 fun x hx=>Qu.mpr ⟨_,c3 x (Ja2 hx),rfl⟩
  rw[Qw] at e4;have e5:((YL (spF qs)).map fun p=>if p.1∈Jl (thF qs) then(1:Int) else 0).sum=((Jl (thF qs)).length:Int):=e4
  have e6:((YL (spF qs)).map (·.2)).sum=((spF qs).length:Int):=by unfold YL;rw[e3];simp
  rw[e5,e6,Jee];unfold Jl;rw[Qv]
 ·intro t ht c;unfold JB at ht;obtain⟨p,hp,rfl⟩:=Qu.mp ht;obtain⟨v1,v2⟩:=c2 p hp;have:0<(spF qs).count p.1:=Kt.mpr v2;have o:=Jby (Js g) p.1;have c':=of_decide_eq_false c;dsimp only at c' ⊢;rw[o] at c' ⊢
  by_cases z:p.1∈Jl (thF qs)
  ·rw[if_pos z] at c' ⊢;omega
  ·rw[if_neg z] at c' ⊢;omega
theorem Wg:∀(n:Nat) (k:Int) {qs:List Pr},Good qs->thN n qs=[]->YH (tbN n k qs)=(qs.length:Int)
 | 0,k,qs,g,h=>by have:qs=[]:=h;subst this;rfl
 | n+1,k,qs,g,h=>by
  have ih:=Wg n (k+1) (Js g) h
  have l:=UX g (k+1);unfold YH at *;rw[tbN,QV,Ky,ih,l];omega
theorem JbS(f:Int->Int)(s v:Int):∀(a:List Pr),((J7 a s v).map fun p=>p.2*f p.1).sum=(a.map fun p=>p.2*f p.1).sum+v*f s
 | []=>by simp[J7]
 | p::r=>by
  rw[J7];split
  ·next c=>rw[Qd,QA,Qd,QA];dsimp only;rw[KE,c];omega
  ·rw[Qd,QA,Qd,QA,JbS f s v r];omega
theorem Jc9(f:Int->Int):∀(tb:List Tr) (a:List Pr),((J5 tb a).map fun p=>p.2*f p.1).sum=(a.map fun p=>p.2*f p.1).sum+(tb.map fun t=>t.2.2*f t.1).sum
 | [],a=>by simp[J5]
 | t::tb,a=>by show((J5 tb (J7 a t.1 t.2.2)).map fun p=>p.2*f p.1).sum=_;rw[Jc9 f tb,JbS,Qd,QA];omega
theorem JbQ(s v:Int):∀(a:List Pr) (p:Pr),p∈J7 a s v->p.1=s\/p.1∈a.map (·.1)
 | [],p,h=>by
  have:p=(s,v):=by simpa [J7] using h
  exact .inl (by rw[this])
 | q::r,p,h=>by
  rw[J7] at h;split at h
  ·rcases Qj.mp h with z|z
   ·exact .inr (by rw[z];simp)
   ·exact .inr (Qu.mpr ⟨p,Qc _ z,rfl⟩)
  ·rcases Qj.mp h with z|z
   ·exact .inr (by rw[z];simp)
   ·rcases JbQ s v r p z with y|y
    ·exact .inl y
    ·exact .inr (by rw[Qd];exact Qc _ y)
theorem Jc7:∀(tb:List Tr) (a:List Pr) (p:Pr),p∈J5 tb a->(∃t∈tb,t.1=p.1)\/p.1∈a.map (·.1)
 | [],a,p,h=>.inr (Qu.mpr ⟨p,h,rfl⟩)
 | t::tb,a,p,h=>by
  rcases Jc7 tb (J7 a t.1 t.2.2) p h with ⟨u,h1,h2⟩|z
  ·exact .inl ⟨u,Qc _ h1,h2⟩
  ·obtain⟨q,hq,e⟩:=Qu.mp z;rcases JbQ t.1 t.2.2 a q hq with y|y
   ·exact .inl ⟨t,Qf,by rw[<- e,y]⟩
   ·exact .inr (by rw[<- e];exact y)
theorem Jkp{a b d:Int}(ha:0<=a)(hb:0<=b):max 0 (min (a+b) d)=max 0 (min a d)+max 0 (min b (d-a)):=by
 rcases LH d a with k|k
 ·rw[G7 (show d<=a+b by omega),G7 k,MW (b:=min b (d-a)) (Int.le_trans (Lj _ _) (by omega)),L9]
 ·rw[Ki k,KY ha];rcases LH d (a+b) with m|m
  ·rw[G7 m,G7 (show d-a<=b by omega),KY (by omega),KY (by omega)];omega
  ·rw[Ki m,Ki (show b<=d-a by omega),KY (by omega),KY hb]
theorem UT(x:Int):∀(r:List Pr) (cur:Pr),(∀p∈r,0<=p.2)->0<=cur.2->YC (clF cur r) x=YC (cur::r) x
 | [],cur,_,_=>rfl
 | p::r,cur,h,hc=>by
  have h0:=h p Qf
  have hr:=fun q hq=>h q (Qc p hq)
  rw[clF];split
  ·next e=>rw[UT x r _ hr (by dsimp only;omega (config:={})),JC,JC,JC];dsimp only;rw[Jkp hc h0,show x-cur.1-cur.2=x-p.1 by omega (config:={}),Lq]
  ·split
   ·rw[JC,UT x r p hr h0,<- JC]
   ·rw[UT x r cur hr hc,JC,JC cur,JC p,show p.2=0 by omega (config:={}),MW (b:=min 0 _) (MX _ _),Li]
theorem Z3(x:Int):∀(ps:List Pr),(∀p∈ps,0<=p.2)->YC (clN ps) x=YC ps x
 | [],_=>rfl
 | p::r,h=>by
  have h0:=h p Qf
  have hr:=fun q hq=>h q (Qc p hq)
  rw[clN];split
  ·exact UT x r p hr h0
  ·rw[Z3 x r hr,JC p];omega (config:={})
theorem JaS:∀(r:List Pr) (c x:Int),Good r->(∀q,r[0]?=some q->x<=q.1-c)->∀p∈byR c r,x<=p.1
 | [],_,_,_,_,_,h=>by cases h
 | q::r,c,x,g,hx,p,h=>by
  have h1:=hx q rfl;rcases Qj.mp h with z|z
  ·rw[z];exact h1
  ·refine JaS r (c+2) x (Good.cons' g) (fun q' e=>?_) p z;have:=g.gap 0 q q' rfl (by simpa using e);have:=g.one 0 q rfl;omega
theorem JeN(left:List Pr):∀(q:List Pr) (i:Nat) (base:Int),Good q->(∀p,q[0]?=some p->∀x,p.1-2*(i:Int)<=x->YC left x=base+YC (byR (2*(i:Int)) q) x) ->
 edF left i base ((q.zipIdx i).map fun x=>x.1.1+x.1.2-1-2*(x.2:Int))=q
 | [],_,_,_,_=>rfl
 | p::r,i,base,g,hf=>by
  have h1:=g.one 0 p rfl
  have nx:∀q,r[0]?=some q->p.1+p.2+1<=q.1:=fun q e=>by have:=g.gap 0 p q rfl (by simpa using e);omega
  have hs:=hf p rfl (p.1+p.2-1-2*(i:Int)) (by omega);rw[byR,JC,Jdp (ps:=byR (2*(i:Int)+2) r) (JaS r _ _ (Good.cons' g) fun q e=>by have:=nx q e;omega)] at hs;dsimp only at hs
  have e:YC left (p.1+p.2-1-2*(i:Int))=base+(p.2-1):=by omega
  rw[KQ,Qd,edF];dsimp only;rw[e,JeN left r (i+1) (base+(p.2-1)) (Good.cons' g) fun q eq x hx=>?_]
  ·congr 1;exact Ke (by dsimp only;omega) (by dsimp only;omega)
  ·have:=nx q eq;rw[hf p rfl x (by omega),byR,JC];dsimp only;rw[show 2*((i+1:Nat):Int)=2*(i:Int)+2 by omega];omega
theorem Jf2{q:List Pr}(g:Good q):∀p∈byF (-1) q,0<=p.2:=fun p hp=>by obtain⟨i,hi,rfl⟩:=GG.mp hp;have w:Wide (1+-1) (byF (-1) q):=(Yr g).bys (k:=-1);exact w.one i _ (by simp)
theorem Jo7{q:List Pr}(g:Good q):edF (thF q) 0 0 (spF q)=q:=by
 refine JeN (thF q) q 0 0 g fun p _ x _=>?_
 unfold thF;rw[Z3 x _ (Jf2 g),Li,show 2*((0:Nat):Int)=0 by simp,YE]
theorem Zf(prs:List Pr)(s:Int):((Ys prs).count s:Int)=(prs.map fun p=>if p.1=s then((p.2.toNat:Nat):Int) else 0).sum:=by
 induction prs with
 | nil=>rfl
 | cons p r ih =>
  unfold Ys at *;rw[Gn,LI,Qd,QA,<- ih,Ri];split <;> rename_i c
  ·have c':p.1=s:=by simpa using c
   rw[if_pos c'];omega
  ·have c':¬p.1=s:=by simpa using c
   rw[if_neg c'];omega
theorem Jfk{a:List Pr}(f:Pr->Int)(hn:(a.map (·.1)).Nodup)(s:Int):(a.map fun p=>if p.1=s then f p else 0).sum=if s∈a.map (·.1) then f (s,lk s a) else 0:=by
 induction a with
 | nil=>rfl
 | cons p r ih =>
  rw[Qd,Gk] at hn;rw[Qd,QA,ih hn.2,lk]
  by_cases c:p.1=s
  ·subst c;rw[if_pos rfl,if_pos rfl,if_neg hn.1,if_pos (by simp)];simp
  ·rw[if_neg c,if_neg c,Li];have:(s∈(p::r).map (·.1))=(s∈r.map (·.1)):=by simp[Q2 c]
   simp only[this]
noncomputable def JI(l:List Tr):List Pr:=l.map fun t=>(t.2.1,t.2.2)
theorem JaH{q:List Pr}(g:Good q)(k:Int):Um (Jl (thF q)++Ys (JI (Jn k q)))=spF q:=by
 obtain⟨c1,c2,c3⟩:=Jhj (spF q);have gt:=Js g;have nd:=Ja1 gt;refine List.Perm.eq_of_pairwise (le:=(·<=·)) (fun a b _ _ h1 h2=>by omega) (Jc4 _) (JiO 0 g) ((Y1 _).trans (List.perm_iff_count.mpr fun s=>?_));rw[LI]
 have e1:((Ys (JI (Jn k q))).count s:Int)=if s∈spF q then((spF q).count s:Int)-(if s∈Jl (thF q) then 1 else 0) else 0:=by
  rw[Zf];unfold JI Jn;rw[Qw,Qw];refine Eq.trans (show _=(((JB q).filter fun t=>decide (t.2.1>t.2.2)).map fun t=>if t.1=s then(((t.2.1-t.2.2).toNat:Nat):Int) else 0).sum from rfl) ?_;rw[Ja8]
  ·unfold JB;rw[Qw];have f2:((YL (spF q)).map ((fun t:Tr=>if t.1=s then(((t.2.1-t.2.2).toNat:Nat):Int) else 0) ∘ fun p:Pr=>((p.1,p.2,owF (thF q) p.1):Tr))).sum=((YL (spF q)).map fun p=>if p.1=s then(((p.2-owF (thF q) p.1).toNat:Nat):Int) else 0).sum:=rfl;rw[f2,Jfk (fun p=>(((p.2-owF (thF q) p.1).toNat:Nat):Int)) c1];have mm:s∈(YL (spF q)).map (·.1)↔s∈spF q:=⟨fun h=>by obtain⟨p,hp,e⟩:=Qu.mp h;rw[<- e];exact(c2 p hp).2,fun h=>Qu.mpr ⟨_,c3 s h,rfl⟩⟩
   by_cases h:s∈spF q
   ·rw[if_pos (mm.mpr h),if_pos h,JdP c1 (c3 s h) (p:=(s,((spF q).count s:Int)))];dsimp only;rw[Jby gt];have:0<(spF q).count s:=Kt.mpr h;split <;> omega
   ·rw[if_neg fun z=>h (mm.mp z),if_neg h]
  ·intro t ht c;have c':=of_decide_eq_false c;split
   ·omega
   ·rfl
 have e2:(Jl (thF q)).count s=if s∈Jl (thF q) then 1 else 0:=by
  split
  ·next h=>exact Jag nd h
  ·next h=>exact Lx.mpr h
 rw[e2]
 by_cases h:s∈spF q
 ·rw[if_pos h] at e1;have:0<(spF q).count s:=Kt.mpr h;split at e1 <;> rename_i c
  ·rw[if_pos c];omega
  ·rw[if_neg c];omega
 ·rw[if_neg h] at e1;rw[if_neg fun z=>h (Ja2 z),Lx.mpr h];omega
noncomputable def putF(ps prs:List Pr):List Pr:=edF ps 0 0 (Um (Jl ps++Ys prs))
theorem Jir{q:List Pr}(g:Good q)(k:Int):putF (thF q) (JI (Jn k q))=q:=by unfold putF;rw[JaH g k,Jo7 g]
noncomputable abbrev Gp:=Int×List Pr
noncomputable def JaN:List Gp->Tr->List Gp
 | [],t=>[(t.1,[(t.2.1,t.2.2)])]
 | g::gs,t=>if g.1=t.1 then(g.1,g.2++[(t.2.1,t.2.2)])::gs else g::JaN gs t
noncomputable def W1(tb:List Tr):List Gp:=tb.foldl JaN []
theorem Z0(x:Gp):∀(tb:List Tr) (g:List Gp),(∀t∈tb,x.1≠t.1)->tb.foldl JaN (x::g)=x::tb.foldl JaN g
 | [],_,_=>rfl
 | t::tb,g,h=>by rw[Q4,JaN,if_neg (h t Qf),Q4];exact Z0 x tb _ fun u hu=>h u (Qc _ hu)
theorem ZZ(k:Int):∀(tb:List Tr) (ps:List Pr),(∀t∈tb,t.1=k)->tb.foldl JaN [(k,ps)]=[(k,ps++JI tb)]
 | [],ps,_=>by simp[JI]
 | t::tb,ps,h=>by rw[Q4,JaN,if_pos (h t Qf).symm,ZZ k tb _ fun u hu=>h u (Qc _ hu)];simp[JI]
theorem Jj6(k:Int)(a b:List Tr)(ha:a≠[])(h1:∀t∈a,t.1=k)(h2:∀t∈b,k<t.1):W1 (a++b)=(k,JI a)::W1 b:=by
 cases a with
 | nil=>exact absurd rfl ha
 | cons t a=>unfold W1;rw[Mt,Q4,show JaN [] t=[(k,[(t.2.1,t.2.2)])] by rw[JaN,h1 t Qf],ZZ k a _ fun u hu=>h1 u (Qc _ hu),Z0 _ b [] fun u hu=>by have:=h2 u hu;dsimp only;omega];simp[JI]
noncomputable def Zr:Int->List Gp->List Pr
 | _,[]=>[]
 | k,g::gs=>byF (g.1-k-1) (putF (Zr g.1 gs) g.2)
noncomputable def OkG:Int->List Gp->Prop
 | _,[]=>True
 | k,g::gs=>k<g.1/\(∀p∈g.2,1<=p.2)/\Good (Zr g.1 gs)/\((Zr g.1 gs).length:Int)+(g.2.map (·.2)).sum<=30/\Good (putF (Zr g.1 gs) g.2)/\(putF (Zr g.1 gs) g.2).length<=30/\OkG g.1 gs
theorem Yx{k:Int}{q:List Pr}{t:Tr}(h:t∈Jn k q):1<=t.2.2:=by unfold Jn at h;obtain⟨u,hu,e⟩:=Qu.mp h;obtain⟨_,c⟩:=K2.mp hu;have:=of_decide_eq_true c;rw[<- e];dsimp only;omega
theorem JkK(l:List Tr):((JI l).map (·.2)).sum=YH l:=by unfold JI YH;rw[Qw];rfl
theorem JiF:∀(m:Nat) (N:Nat) (k:Int) {ps:List Pr},ps.length<=m->Good ps->ps.length<=30->thN N ps=[]->Zr k (W1 (tbN N k ps))=ps/\OkG k (W1 (tbN N k ps)):=by
 intro m
 induction m with
 | zero=>intro N k ps hm g h30 hN;have:ps=[]:=QS (by omega);subst this;rw[Vj];exact⟨rfl,trivial⟩
 | succ m ih =>
  intro N k ps hm g h30 hN
  by_cases h0:ps=[]
  ·subst h0;rw[Vj];exact⟨rfl,trivial⟩
  ·obtain⟨c,hc,c1,w,t⟩:=Jmh g h0;obtain⟨C,hC,hCN,eT,eN⟩:=Jdc w c1 h0 hN k;have g1:=Y3 (C-1) g;have l1:=VE (C-1) ps;have l2:=VE C ps;have fw:=ZE t;rw[<- hC,<- ZC C w c1 (by omega)] at fw;have eq1:thN C ps=thF (thN (C-1) ps):=by rw[<- Wh,show C-1+1=C by omega]
   have ls:=UX g1 (k+c);rw[<- eq1] at ls
   have hb:byF (c-1) (thN (C-1) ps)=ps:=by rw[ZD w c1 (by omega),Jex,show c-1+-((C-1:Nat):Int)=0 by omega,Vo]
   have ll:(thN (C-1) ps).length=ps.length:=by have:=Ub (c-1) (thN (C-1) ps);rw[hb] at this;exact this.symm
   have hne:Jn (k+c) (thN (C-1) ps)≠[]:=fun z=>by rw[z] at ls;have:(0:Int)=_:=ls;omega
   have gc:=Jj6 (k+c) (Jn (k+c) (thN (C-1) ps)) (tbN (N-C) (k+c) (thN C ps)) hne (fun u hu=>JN hu) fun u hu=>VD _ _ _ u hu
   obtain⟨i1,i2⟩:=ih (N-C) (k+c) (ps:=thN C ps) (by omega) (Y3 C g) (by omega) eN;have pb:putF (thN C ps) (JI (Jn (k+c) (thN (C-1) ps)))=thN (C-1) ps:=by rw[eq1];exact Jir g1 (k+c)
   rw[eT,gc];refine⟨?_,?_⟩
   ·show byF (k+c-k-1) (putF (Zr (k+c) (W1 (tbN (N-C) (k+c) (thN C ps)))) (JI (Jn (k+c) (thN (C-1) ps))))=ps;rw[i1,pb,show k+c-k-1=c-1 by omega,hb]
   ·show k<k+c/\(∀p∈JI (Jn (k+c) (thN (C-1) ps)),1<=p.2)/\Good (Zr (k+c) (W1 (tbN (N-C) (k+c) (thN C ps))))/\((Zr (k+c) (W1 (tbN (N-C) (k+c) (thN C ps)))).length:Int)+((JI (Jn (k+c) (thN (C-1) ps))).map (·.2)).sum<=30/\Good (putF (Zr (k+c) (W1 (tbN (N-C) (k+c) (thN C ps)))) (JI (Jn (k+c) (thN (C-1) ps))))/\(putF (Zr (k+c) (W1 (tbN (N-C) (k+c) (thN C ps)))) (JI (Jn (k+c) (thN (C-1) ps)))).length<=30/\OkG (k+c) (W1 (tbN (N-C) (k+c) (thN C ps)))
    rw[i1,pb,JkK];refine⟨by omega,fun p hp=>?_,Y3 C g,by omega,g1,by omega,i2⟩;obtain⟨u,hu,e⟩:=Qu.mp hp;rw[<- e];exact Yx hu
noncomputable def ZJ:Option Pr->List Tr->Prop
 | _,[]=>True
 | a,t::r=>1<=t.1/\1<=t.2.2/\(∀b,a=some b->b.1<t.1\/(b.1=t.1/\b.2<t.2.1))/\ZJ (some (t.1,t.2.1)) r
theorem Jet(K:Int)(rest:List Tr)(hK:1<=K)(hr:∀a',(∀b,a'=some b->b.1<=K)->ZJ a' rest):∀(L:List Tr) (a:Option Pr),(∀t∈L,t.1=K/\1<=t.2.2)->(L.map (·.2.1)).Pairwise (·<·)->(∀b,a=some b->b.1<K\/(b.1=K/\∀t∈L,b.2<t.2.1))->ZJ a (L++rest)
 | [],a,_,_,h=>hr a fun b e=>by rcases h b e with z|z <;> omega
 | t::L,a,h1,h2,h3=>by
  obtain⟨k1,k2⟩:=h1 t Qf;rw[Qd,QO] at h2;refine⟨by omega,k2,fun b e=>?_,Jet K rest hK hr L _ (fun u hu=>h1 u (Qc _ hu)) h2.2 fun b e=>?_⟩
  ·rcases h3 b e with z|⟨z,y⟩
   ·exact .inl (by omega)
   ·exact .inr ⟨by omega,y t Qf⟩
  ·cases e;exact .inr ⟨k1,fun u hu=>h2.1 _ (Qu.mpr ⟨u,hu,rfl⟩)⟩
theorem Y6{q:List Pr}(g:Good q)(k:Int):((Jn k q).map (·.2.1)).Pairwise (·<·):=by
 have h:=Jhk (spF q) [] (by simp) (fun _ h=>by simp at h) (JiO 0 g)
 have e:(Jn k q).map (·.2.1)=(((JB q).filter fun t=>decide (t.2.1>t.2.2)).map (·.1)):=by unfold Jn;rw[Qw];rfl
 rw[e]
 have e2:(JB q).map (·.1)=(YL (spF q)).map (·.1):=by unfold JB;rw[Qw];rfl
 have h':((JB q).map (·.1)).Pairwise (·<·):=by rw[e2];exact h
 rw[Kg] at h' ⊢;exact h'.filter _
theorem Yp:∀(n:Nat) (k:Int) (qs:List Pr) (a:Option Pr),Good qs->0<=k->(∀b,a=some b->b.1<=k)->ZJ a (tbN n k qs)
 | 0,_,_,_,_,_,_=>trivial
 | n+1,k,qs,a,g,hk,ha=>by rw[tbN];refine Jet (k+1) _ (by omega) (fun a' h=>Yp n (k+1) (thF qs) a' (Js g) (by omega) h) _ a (fun t ht=>⟨JN ht,Yx ht⟩) (Y6 g (k+1)) fun b e=>.inl (by have:=ha b e;omega)
theorem JW:∀{tb:List Tr} {a:Option Pr},ZJ a tb->∀t∈tb,1<=t.1/\1<=t.2.2
 | [],_,_,_,h=>by cases h
 | t::r,a,h,u,hu=>by
  obtain⟨h1,h2,_,h4⟩:=h;rcases Qj.mp hu with z|z
  ·rw[z];exact⟨h1,h2⟩
  ·exact JW h4 u z
theorem JdV:∀{tb:List Tr},(∀t∈tb,1<=t.2.2)->(tb.length:Int)<=YH tb/\∀t∈tb,t.2.2<=YH tb
 | [],_=>⟨QD _,fun _ h=>by cases h⟩
 | t::r,h=>by
  obtain⟨h1,h2⟩:=JdV fun u hu=>h u (Qc t hu)
  have ht:=h t Qf
  have e:YH (t::r)=t.2.2+YH r:=by unfold YH;rw[Qd,QA]
  rw[e,Qo];refine⟨by omega,fun u hu=>?_⟩;rcases Qj.mp hu with z|z
  ·rw[z];omega
  ·have:=h2 u z;omega
theorem Zz:∀(n:Nat) (k:Int) {qs:List Pr},Good qs->thN n qs=[]->((tbN n k qs).map fun t=>(t.1-k)*t.2.2).sum=(qs.map (·.2)).sum
 | 0,k,qs,g,h=>by have:qs=[]:=h;subst this;rfl
 | n+1,k,qs,g,h=>by
  have ih:=Zz n (k+1) (Js g) h
  have l:=UX g (k+1)
  have s:=Wg n (k+1) (Js g) h
  have ts:=JfR g;unfold YH at l s;rw[tbN,QV,Ky]
  have e1:(Jn (k+1) qs).map (fun t=>(t.1-k)*t.2.2)=(Jn (k+1) qs).map (·.2.2):=QE fun t ht=>by rw[JN ht,show k+1-k=1 by omega,LW]
  have e2:(tbN n (k+1) (thF qs)).map (fun t=>(t.1-k)*t.2.2)=(tbN n (k+1) (thF qs)).map fun t=>t.2.2+(t.1-(k+1))*t.2.2:=QE fun t ht=>by rw[show t.1-k=1+(t.1-(k+1)) by omega,KE,LW]
  rw[e1,e2,JfI,ih,l,s,ts];omega
noncomputable def mvP(d:Int)(ps:List Pr):List Pr:=ps.map fun p=>(p.1-d,p.2)
theorem Jh9(d:Int)(ps:List Pr):(mvP d ps).length=ps.length:=by unfold mvP;simp
theorem Jbp{d:Int}{ps:List Pr}(g:Good ps):Good (mvP d ps):=by
 refine⟨fun i p e=>?_,fun i p q e1 e2=>?_⟩
 ·unfold mvP at e;rw[Qm,Gd] at e;obtain⟨x,hx,rfl⟩:=e;exact g.one i x hx
 ·unfold mvP at e1 e2;rw[Qm,Gd] at e1 e2;obtain⟨x,hx,rfl⟩:=e1;obtain⟨y,hy,rfl⟩:=e2;have:=g.gap i x y hx hy;dsimp only;omega
theorem Jpl(d k:Int)(ps:List Pr):byF k (mvP d ps)=mvP d (byF k ps):=by
 refine Ga fun i=>?_
 unfold byF mvP;rw[QB,Qm,Qm,QB,Kr,Kr]
 cases ps[i]? with
 | none=>rfl
 | some p=>exact congrArg some (Ke (by show p.1-d+2*k*(i:Int)=p.1+2*k*(i:Int)-d;omega) rfl)
theorem Jbo(d:Int):∀(r:List Pr) (cur:Pr),clF (cur.1-d,cur.2) (mvP d r)=mvP d (clF cur r)
 | [],cur=>rfl
 | p::r,cur=>by
  show clF (cur.1-d,cur.2) ((p.1-d,p.2)::mvP d r)=_;rw[clF,clF];dsimp only
  by_cases h:cur.1+cur.2=p.1
  ·rw[if_pos (by omega),if_pos h];exact Jbo d r (cur.1,cur.2+p.2)
  ·rw[if_neg (by omega),if_neg h];split
   ·rw[Jbo d r p];rfl
   ·exact Jbo d r cur
theorem JdT(d:Int):∀(ps:List Pr),clN (mvP d ps)=mvP d (clN ps)
 | []=>rfl
 | p::r=>by
  show clN ((p.1-d,p.2)::mvP d r)=_;rw[clN,clN];split
  ·exact Jbo d r p
  ·exact JdT d r
theorem Jfi(d:Int)(ps:List Pr):thF (mvP d ps)=mvP d (thF ps):=by unfold thF;rw[Jpl,JdT]
theorem Jpo(d:Int)(ps:List Pr):spF (mvP d ps)=(spF ps).map (·-d):=by
 refine Ga fun i=>?_
 unfold spF mvP;rw[Qm,Qm,Qm,KF,KF,Qm]
 cases ps[i]? with
 | none=>rfl
 | some p=>exact congrArg some (by show p.1-d+p.2-1-2*((0+i:Nat):Int)=p.1+p.2-1-2*((0+i:Nat):Int)-d;omega)
theorem JdU(d:Int)(ps:List Pr)(x:Int):JV (mvP d ps) (x-d)=JV ps x:=by
 induction ps with
 | nil=>rfl
 | cons p r ih =>
  show JV ((p.1-d,p.2)::mvP d r) (x-d)=_;rw[Ju,Ju,ih];dsimp only;congr 2
  ·rw[decide_eq_decide];omega
  ·rw[decide_eq_decide];omega
theorem Jpn(d:Int)(ps:List Pr)(x:Int):owF (mvP d ps) (x-d)=owF ps x:=by unfold owF;rw[JdU,show x-d-1=x-1-d by omega,JdU]
theorem Jng(d:Int)(L:List Int):YL (L.map (·-d))=(YL L).map fun p=>(p.1-d,p.2):=by have:=Jaf d L [];exact this
theorem Jia(d k:Int)(ps:List Pr):Jn k (mvP d ps)=(Jn k ps).map fun t=>(t.1,t.2.1-d,t.2.2):=by
 have e:JB (mvP d ps)=(JB ps).map fun t=>(t.1-d,t.2.1,t.2.2):=by
  unfold JB;rw[Jpo,Jng,Qw,Qw];refine QE fun p _=>?_
  show(p.1-d,p.2,owF (thF (mvP d ps)) (p.1-d))=(p.1-d,p.2,owF (thF ps) p.1)
  rw[Jfi,Jpn]
 unfold Jn;rw[e,List.filter_map,Qw,Qw];rfl
theorem JlM(d:Int):∀(n:Nat) (k:Int) (ps:List Pr),tbN n k (mvP d ps)=(tbN n k ps).map fun t=>(t.1,t.2.1-d,t.2.2)
 | 0,_,_=>rfl
 | n+1,k,ps=>by rw[tbN,tbN,QV,Jia,Jfi,JlM d n]
noncomputable def goS(s:Int):Int->List Pr->List Pr
 | _,[]=>[]
 | ins,[p]=>[(p.1+min p.2 (s-ins),p.2-min p.2 (s-ins)+(ins+min p.2 (s-ins)))]
 | ins,p::q::r=>(p.1+min p.2 (s-ins),p.2-min p.2 (s-ins)+min (ins+min p.2 (s-ins)) (q.1-p.1-p.2))::goS s (max 0 (ins+min p.2 (s-ins)-(q.1-p.1-p.2))) (q::r)
theorem JX(s ins:Int)(p q:Pr)(r:List Pr):goS s ins (p::q::r)=(p.1+min p.2 (s-ins),p.2-min p.2 (s-ins)+min (ins+min p.2 (s-ins)) (q.1-p.1-p.2))::goS s (max 0 (ins+min p.2 (s-ins)-(q.1-p.1-p.2))) (q::r):=rfl
theorem Wz{s:Int}:∀(ps:List Pr) (ins:Int),Good ps->0<=ins->ins<=s-1->Good (goS s ins ps)/\∀q,(goS s ins ps)[0]?=some q->∀p,ps[0]?=some p->q.1=p.1+min p.2 (s-ins)
 | [],_,_,_,_=>⟨Good.nil,fun q e=>by simp[goS] at e⟩
 | [p],ins,g,h0,h1=>by
  have hp:=g.one 0 p rfl;refine⟨Good.mk' ?_ (fun q e=>by simp at e) Good.nil,fun q e p' e'=>?_⟩
  ·dsimp only;omega (config:={})
  ·simp[goS] at e e';subst e';rw[<- e]
 | p::q::r,ins,g,h0,h1=>by
  have hp:=g.one 0 p rfl
  have hq:=g.one 1 q rfl
  have hg:=g.gap 0 p q rfl rfl;obtain⟨t,ht,t0,t2⟩:∃t,min p.2 (s-ins)=t/\1<=t/\ins+t<=s:=⟨_,rfl,Int.le_min.mpr ⟨hp,by omega (config:={})⟩,by have:=Lj p.2 (s-ins);omega (config:={})⟩
  have t1:t<=p.2:=by rw[<- ht];exact MX _ _
  have l1:max 0 (ins+t-(q.1-p.1-p.2))<=s-1:=Rr.mpr ⟨by omega (config:={}),by omega (config:={})⟩
  have w0:1<=min (ins+t) (q.1-p.1-p.2):=Int.le_min.mpr ⟨by omega (config:={}),by omega (config:={})⟩
  have w1:=Lj (ins+t) (q.1-p.1-p.2);obtain⟨i1,i2⟩:=Wz (s:=s) (q::r) (max 0 (ins+t-(q.1-p.1-p.2))) (Good.cons' g) (MY _ _) l1
  have u0:1<=min q.2 (s-max 0 (ins+t-(q.1-p.1-p.2))):=Int.le_min.mpr ⟨hq,by omega (config:={})⟩;rw[JX,ht]
  have ht':=ht
  clear ht;refine⟨Good.mk' ?_ (fun q' e=>?_) i1,fun q' e p' e'=>?_⟩
  ·dsimp only
   revert w0
   generalize min (ins+t) (q.1-p.1-p.2)=w
   intro w0;omega (config:={})
  ·have i3:=i2 q' e q rfl;dsimp only
   revert w0 w1 u0 i3
   generalize min (ins+t) (q.1-p.1-p.2)=w
   generalize min q.2 _=u
   intro w0 w1 u0 i3;omega (config:={})
  ·simp at e e';subst e';rw[<- e,ht']
theorem Jbc:∀(ps:List Pr),Wide 0 ps->goS 0 0 ps=ps
 | [],_=>rfl
 | [p],w=>by
  have hp:=w.one 0 p rfl
  show [(p.1+min p.2 (0-0),p.2-min p.2 (0-0)+(0+min p.2 (0-0)))]=[p]
  congr 1;exact Ke (by dsimp only;omega) (by dsimp only;omega)
 | p::q::r,w=>by
  have hp:=w.one 0 p rfl
  have hg:=w.gap 0 p q rfl rfl;rw[JX,show max 0 (0+min p.2 (0-0)-(q.1-p.1-p.2))=0 by omega,Jbc (q::r) w.cons];congr 1;exact Ke (by dsimp only;omega) (by dsimp only;omega)
theorem JhF(s:Int):∀(ps:List Pr) (c ins:Int),Good ps->0<=ins->ins<=s-1->byR c (goS s ins ps)=mvP (-1) (goS (s-1) ins (byR c ps))
 | [],_,_,_,_,_=>rfl
 | [p],c,ins,g,h0,h1=>by
  have hp:=g.one 0 p rfl
  show [(p.1+min p.2 (s-ins)-c,p.2-min p.2 (s-ins)+(ins+min p.2 (s-ins))-1)]=[(p.1-c+min (p.2-1) (s-1-ins) - -1,p.2-1-min (p.2-1) (s-1-ins)+(ins+min (p.2-1) (s-1-ins)))]
  congr 1;exact Ke (by dsimp only;omega) (by dsimp only;omega)
 | p::q::r,c,ins,g,h0,h1=>by
  have hp:=g.one 0 p rfl
  have hg:=g.gap 0 p q rfl rfl
  have hm:min (p.2-1) (s-1-ins)=min p.2 (s-ins)-1:=by omega
  have ht:=Lj p.2 (s-ins)
  revert hm ht
  generalize ht:min p.2 (s-ins)=t
  intro hm h3;have ih:=JhF s (q::r) (c+2) (max 0 (ins+t-(q.1-p.1-p.2))) (Good.cons' g) (MY _ _) (Rr.mpr ⟨by omega,by omega⟩);rw[JX,ht,byR,ih];show _=mvP (-1) (goS (s-1) ins ((p.1-c,p.2-1)::(q.1-(c+2),q.2-1)::byR (c+2+2) r));rw[JX];dsimp only;rw[hm,show q.1-(c+2)-(p.1-c)-(p.2-1)=q.1-p.1-p.2-1 by omega,show ins+(t-1)-(q.1-p.1-p.2-1)=ins+t-(q.1-p.1-p.2) by omega,show min (ins+(t-1)) (q.1-p.1-p.2-1)=min (ins+t) (q.1-p.1-p.2)-1 by omega]
  show _=(p.1-c+(t-1) - -1,p.2-1-(t-1)+(min (ins+t) (q.1-p.1-p.2)-1))::mvP (-1) (goS (s-1) (max 0 (ins+t-(q.1-p.1-p.2))) (byR (c+2) (q::r)));rw[show p.1-c+(t-1) - -1=p.1+t-c by omega,show p.2-1-(t-1)+(min (ins+t) (q.1-p.1-p.2)-1)=p.2-t+min (ins+t) (q.1-p.1-p.2)-1 by omega]
theorem WE{A B T:Bool}(h:A=B):(A || T)=(B || T):=by rw[h]
noncomputable def inI(a b x:Int):Bool:=decide (a<=x) && decide (x<b)
theorem inI_t{a b x:Int}:inI a b x=true↔a<=x/\x<b:=by unfold inI;simp
theorem J1(p:Pr)(ps:List Pr)(x:Int):JV (p::ps) x=(inI p.1 (p.1+p.2) x || JV ps x):=Ju p ps x
theorem Jkc{a b c d e f x:Int}(h:(a<=x/\x<b)↔(c<=x/\x<d)\/(e<=x/\x<f)):inI a b x=(inI c d x || inI e f x):=by rw[GQ,K4,inI_t,inI_t,inI_t];exact h
theorem Jp(p:Pr)(ps:List Pr):Jl (p::ps)=(p.1+p.2)::Jl ps:=rfl
theorem Jcl{a c x:Int}(h:c<=a):inI a c x=false:=by rw[Bool.eq_false_iff];intro z;have:=inI_t.mp z;omega
theorem Jck{a b c d e f x:Int}(h:(c=a/\d=e/\f=b/\c<=d/\e<=f)\/(d<=c/\e=a/\f=b)\/(f<=e/\c=a/\d=b)):inI a b x=(inI c d x || inI e f x):=by
 rcases h with ⟨rfl,rfl,rfl,h1,h2⟩|⟨h1,rfl,rfl⟩|⟨h1,rfl,rfl⟩
 ·exact Jkc (by omega (config:={}))
 ·rw[Jcl h1,G1]
 ·rw[Jcl h1,Bool.or_false]
theorem Jo4{A B C D x:Int}{l:List Int}(h:(A=C/\B=D)\/(A=D/\B=C)):(A::B::l).count x=(C::l).count x+(if D=x then 1 else 0):=by rcases h with ⟨rfl,rfl⟩|⟨rfl,rfl⟩ <;> simp only[QN,beq_iff_eq] <;> omega
theorem JlD{c1 c2 p1 p2 t u w x:Int}(e:c1+c2=p1)(hz:t=c2\/u=0)(t1:t<=c2)(hw:0<=p2+w):inI (c1+(t+u)) (c1+(t+u)+(c2+p2-(t+u)+w)) x=(inI (c1+t) (c1+t+(c2-t+0)) x || inI (p1+u) (p1+u+(p2-u+w)) x):=by
 subst e;refine Jck ?_;rcases hz with z|z
 ·exact .inr (.inl ⟨by omega,by omega,by omega⟩)
 ·exact .inl ⟨by omega,by omega,by omega,by omega,by omega⟩
theorem Jlz{c1 c2 p1 p2 t u w:Int}(e:c1+c2=p1)(l:List Int):(c1+t+(c2-t+0))::(p1+u+(p2-u+w))::l=(c1+c2)::(c1+(t+u)+(c2+p2-(t+u)+w))::l:=by rw[show c1+t+(c2-t+0)=c1+c2 by omega,show p1+u+(p2-u+w)=c1+(t+u)+(c2+p2-(t+u)+w) by omega]
theorem JlE{c1 c2 p1 p2 t v y x:Int}(hp:p2=0)(hk:y=0\/v=p1-c1-c2)(y0:0<=y)(t1:t<=c2)(v0:0<=v):inI (c1+t) (c1+t+(c2-t+(v+y))) x=(inI (c1+t) (c1+t+(c2-t+v)) x || inI (p1+0) (p1+0+(p2-0+y)) x):=by
 refine Jck ?_;rcases hk with z|z
 ·exact .inr (.inr ⟨by omega,rfl,by omega⟩)
 ·exact .inl ⟨rfl,by omega,by omega,by omega,by omega⟩
theorem JlA{c1 c2 p1 p2 t v y x:Int}{l:List Int}(hp:p2=0)(hk:y=0\/v=p1-c1-c2):((c1+t+(c2-t+v))::(p1+0+(p2-0+y))::l).count x=((c1+t+(c2-t+(v+y)))::l).count x+(if p1=x then 1 else 0):=by
 refine Jo4 ?_;rcases hk with z|z
 ·exact .inl ⟨by omega,by omega⟩
 ·exact .inr ⟨by omega,by omega⟩
theorem Jbb(s x:Int):∀(r:List Pr) (cur:Pr) (ins:Int),0<=cur.2->Wide 0 r->(∀q,r[0]?=some q->cur.1+cur.2<=q.1)->0<=ins->ins<=s ->
 JV (goS s ins (clF cur r)) x=JV (goS s ins (cur::r)) x/\(Jl (goS s ins (cur::r))).count x+(Jl (clF cur r)).count x=(Jl (goS s ins (clF cur r))).count x+(Jl (cur::r)).count x
 | [],_,_,_,_,_,_,_=>⟨rfl,rfl⟩
 | p::r,cur,ins,hc,w,hq,h0,h1=>by
  have hp:=w.one 0 p rfl
  have hb:=hq p rfl
  have nx:∀q,r[0]?=some q->p.1+p.2<=q.1:=fun q e=>by have:=w.gap 0 p q rfl (by simpa using e);omega (config:={})
  rw[clF];split
  ·next e =>
   obtain⟨i1,i2⟩:=Jbb s x r (cur.1,cur.2+p.2) ins (by dsimp only;omega (config:={})) w.cons (fun q e'=>by have:=nx q e';dsimp only;omega (config:={})) h0 h1;obtain⟨t,u,ht,hl,hd,hu,hm,t0,t1,u0,u1,hz⟩:=Jqi e hc hp h0 h1
   have e2:Jl (cur::p::r)=(cur.1+cur.2)::Jl ((cur.1,cur.2+p.2)::r):=by rw[Jp,Jp,Jp];dsimp only;rw[show cur.1+(cur.2+p.2)=p.1+p.2 by omega (config:={})]
   cases r with
   | nil =>
    have f1:goS s ins [cur,p]=[(cur.1+t,cur.2-t+0),(p.1+u,p.2-u+(ins+t+u))]:=by rw[JX,ht,hl,hd];show _::[(p.1+min p.2 (s-(ins+t)),p.2-min p.2 (s-(ins+t))+(ins+t+min p.2 (s-(ins+t))))]=_;rw[hu]
    have f2:goS s ins [(cur.1,cur.2+p.2)]=[(cur.1+(t+u),cur.2+p.2-(t+u)+(ins+t+u))]:=by show [(cur.1+min (cur.2+p.2) (s-ins),cur.2+p.2-min (cur.2+p.2) (s-ins)+(ins+min (cur.2+p.2) (s-ins)))]=_;rw[hm,Lq ins]
    clear ht hl hd hu hm;refine⟨?_,?_⟩
    ·rw[i1,f1,f2,J1,J1,J1,<- Lp];exact WE (JlD e hz t1 (by omega (config:={})))
    ·have e1:Jl (goS s ins [cur,p])=(cur.1+cur.2)::Jl (goS s ins [(cur.1,cur.2+p.2)]):=by rw[f1,f2,Jp,Jp,Jp];exact Jlz e _
     rw[e1,e2,QN,QN];omega (config:={})
   | cons q r =>
    have hn:=nx q rfl
    have f1:goS s ins (cur::p::q::r)=(cur.1+t,cur.2-t+0)::(p.1+u,p.2-u+min (ins+t+u) (q.1-p.1-p.2))::goS s (max 0 (ins+t+u-(q.1-p.1-p.2))) (q::r):=by rw[JX,ht,hl,hd,JX,hu]
    have f2:goS s ins ((cur.1,cur.2+p.2)::q::r)=(cur.1+(t+u),cur.2+p.2-(t+u)+min (ins+t+u) (q.1-p.1-p.2))::goS s (max 0 (ins+t+u-(q.1-p.1-p.2))) (q::r):=by rw[JX];dsimp only;rw[hm,show q.1-cur.1-(cur.2+p.2)=q.1-p.1-p.2 by omega (config:={}),show ins+(t+u)=ins+t+u by omega (config:={})]
    clear ht hl hd hu hm;have w0:0<=min (ins+t+u) (q.1-p.1-p.2):=by omega (config:={})
    generalize min (ins+t+u) (q.1-p.1-p.2)=v at w0 f1 f2
    refine⟨?_,?_⟩
    ·rw[i1,f1,f2,J1,J1,J1,<- Lp];exact WE (JlD e hz t1 (by omega (config:={})))
    ·have e1:Jl (goS s ins (cur::p::q::r))=(cur.1+cur.2)::Jl (goS s ins ((cur.1,cur.2+p.2)::q::r)):=by rw[f1,f2,Jp,Jp,Jp];exact Jlz e _
     rw[e1,e2,QN,QN];omega (config:={})
  ·next e =>
   split
   ·next hpp =>
    obtain⟨q',e1,e2⟩:=WQ r p;obtain⟨i1,i2⟩:=Jbb s x r p (max 0 (ins+min cur.2 (s-ins)-(p.1-cur.1-cur.2))) (by omega (config:={})) w.cons nx (by omega (config:={})) (by omega (config:={}))
    cases hcl:clF p r with
    | nil=>rw[hcl] at e1;cases e1
    | cons y l =>
     rw[hcl] at e1 i1 i2;have:y=q':=by simpa using e1
     subst this;rw[JX,JX,e2];refine⟨?_,?_⟩
     ·rw[J1,J1,i1]
     ·rw[Jp _ (goS s _ (p::r)),Jp cur (y::l),Jp _ (goS s _ (y::l)),Jp cur (p::r),QN,QN,QN,QN];omega (config:={})
   ·next hpp =>
    have hp0:p.2=0:=by omega (config:={})
    obtain⟨i1,i2⟩:=Jbb s x r cur ins hc w.cons (fun q e'=>by have:=nx q e';omega (config:={})) h0 h1;obtain⟨t,m,v,ht,hl,hd,hu,t0,t1,hz⟩:=bare hb hp0 hc h0 h1;have v0:0<=v:=by rcases hz with ⟨z1,z2,z3⟩|⟨z1,z2,z3⟩ <;> omega (config:={})
    have e2:(Jl (cur::p::r)).count x=(Jl (cur::r)).count x+(if p.1=x then 1 else 0):=by rw[Jp,Jp,Jp];exact Jo4 (.inl ⟨rfl,by omega (config:={})⟩)
    cases r with
    | nil =>
     obtain⟨k1,k2,k3⟩:(m+0=0\/v=p.1-cur.1-cur.2)/\ins+t=v+(m+0)/\0<=m+0:=by rcases hz with ⟨z1,z2,z3⟩|⟨z1,z2,z3⟩ <;> omega (config:={})
     have f1:goS s ins [cur,p]=[(cur.1+t,cur.2-t+v),(p.1+0,p.2-0+(m+0))]:=by rw[JX,ht,hl,hd];show _::[(p.1+min p.2 (s-m),p.2-min p.2 (s-m)+(m+min p.2 (s-m)))]=_;rw[hu]
     have f2:goS s ins [cur]=[(cur.1+t,cur.2-t+(v+(m+0)))]:=by show [(cur.1+min cur.2 (s-ins),cur.2-min cur.2 (s-ins)+(ins+min cur.2 (s-ins)))]=_;rw[ht,k2]
     refine⟨?_,?_⟩
     ·rw[i1,f1,f2,J1,J1,J1,<- Lp];exact WE (JlE hp0 k1 k3 t1 v0)
     ·rw[show(Jl (goS s ins [cur,p])).count x=(Jl (goS s ins [cur])).count x+(if p.1=x then 1 else 0) by rw[f1,f2,Jp,Jp,Jp];exact JlA hp0 k1,e2]
      omega (config:={})
    | cons q r =>
     have hn:=nx q rfl
     obtain⟨y,y0,k1,k2,k3,k4⟩:∃y:Int,0<=y/\min (m+0) (q.1-p.1-p.2)=y/\min (ins+t) (q.1-cur.1-cur.2)=v+y/\max 0 (m+0-(q.1-p.1-p.2))=max 0 (ins+t-(q.1-cur.1-cur.2))/\(y=0\/v=p.1-cur.1-cur.2):=by
      rcases hz with ⟨z1,z2,z3⟩|⟨z1,z2,z3⟩
      ·subst z1 z2;exact⟨0,QD _,by omega (config:={}),by omega (config:={}),by omega (config:={}),.inl rfl⟩
      ·subst z1 z2;exact⟨_,by omega (config:={}),rfl,by omega (config:={}),by omega (config:={}),.inr rfl⟩
     have f1:goS s ins (cur::p::q::r)=(cur.1+t,cur.2-t+v)::(p.1+0,p.2-0+y)::goS s (max 0 (ins+t-(q.1-cur.1-cur.2))) (q::r):=by rw[JX,ht,hl,hd,JX,hu,k1,k3]
     have f2:goS s ins (cur::q::r)=(cur.1+t,cur.2-t+(v+y))::goS s (max 0 (ins+t-(q.1-cur.1-cur.2))) (q::r):=by rw[JX,ht,k2]
     refine⟨?_,?_⟩
     ·rw[i1,f1,f2,J1,J1,J1,<- Lp];exact WE (JlE hp0 k4 y0 t1 v0)
     ·rw[show(Jl (goS s ins (cur::p::q::r))).count x=(Jl (goS s ins (cur::q::r))).count x+(if p.1=x then 1 else 0) by rw[f1,f2,Jp,Jp,Jp];exact JlA hp0 k4,e2]
      omega (config:={})
theorem JdE(s x:Int)(hs:0<=s):∀(ps:List Pr),Wide 0 ps->JV (goS s 0 (clN ps)) x=JV (goS s 0 ps) x/\(Jl (goS s 0 ps)).count x+(Jl (clN ps)).count x=(Jl (goS s 0 (clN ps))).count x+(Jl ps).count x
 | [],_=>⟨rfl,rfl⟩
 | p::r,w=>by
  have hp:=w.one 0 p rfl;rw[clN];split
  ·next h=>exact Jbb s x r p 0 hp w.cons (fun q e=>by have:=w.gap 0 p q rfl (by simpa using e);omega) (QD _) hs
  ·next h =>
   have hp0:p.2=0:=by omega
   obtain⟨i1,i2⟩:=JdE s x hs r w.cons
   have e:goS s 0 (p::r)=p::goS s 0 r:=by
    cases r with
    | nil =>
     show [(p.1+min p.2 (s-0),p.2-min p.2 (s-0)+(0+min p.2 (s-0)))]=[p]
     congr 1;exact Ke (by dsimp only;omega) (by dsimp only;omega)
    | cons q r=>have:=w.gap 0 p q rfl rfl;rw[JX,show max 0 (0+min p.2 (s-0)-(q.1-p.1-p.2))=0 by omega];congr 1;exact Ke (by dsimp only;omega) (by dsimp only;omega)
   rw[e];refine⟨?_,?_⟩
   ·rw[i1,J1,show inI p.1 (p.1+p.2) x=false by
     cases c:inI p.1 (p.1+p.2) x with
     | false=>rfl
     | true=>rw[inI_t] at c;omega]
    rfl
   ·rw[Jp,Jp p r,QN,QN];omega
theorem Jfh(d:Int)(ps:List Pr):Jl (mvP d ps)=(Jl ps).map (·-d):=by unfold Jl mvP;rw[Qw,Qw];exact QE fun p _=>by show p.1-d+p.2=p.1+p.2-d;omega
theorem Jkr{c d:Int}{ps:List Pr}(w:Wide c (mvP d ps)):Wide c ps:=by refine⟨fun i p e=>w.one i (p.1-d,p.2) (by unfold mvP;rw[Qm,e];rfl),fun i p q e1 e2=>?_⟩;have:=w.gap i (p.1-d,p.2) (q.1-d,q.2) (by unfold mvP;rw[Qm,e1];rfl) (by unfold mvP;rw[Qm,e2];rfl);dsimp only at this;omega
theorem Jl0{s:Int}(hs:1<=s){ps:List Pr}(g:Good ps):thF (goS s 0 ps)=mvP (-1) (goS (s-1) 0 (thF ps)):=by
 have g1:=(Wz (s:=s) ps 0 g (QD _) (by omega)).1
 have e:byF (-1) (goS s 0 ps)=mvP (-1) (goS (s-1) 0 (byF (-1) ps)):=by rw[<- YE,<- YE];exact JhF s ps 0 0 g (QD _) (by omega)
 have w1:Wide 0 (goS (s-1) 0 (byF (-1) ps)):=by have:Wide (1+-1) (byF (-1) (goS s 0 ps)):=(Yr g1).bys (k:=-1);rw[e] at this;exact Jkr this
 have w0:Wide 0 (byF (-1) ps):=by
  have z:Wide (1+-1) (byF (-1) ps):=(Yr g).bys (k:=-1)
  rwa [show(1:Int)+-1=0 by decide] at z
 have gt:=Js g
 have g2:Good (goS (s-1) 0 (thF ps)):=by
  by_cases h:s-1=0
  ·rw[h,Jbc _ ((Yr gt).mono (by omega))];exact gt
  ·exact(Wz (s:=s-1) (thF ps) 0 gt (QD _) (by omega)).1
 have key:clN (goS (s-1) 0 (byF (-1) ps))=goS (s-1) 0 (thF ps):=by
  refine Jbe (WR _ w1) g2 fun x=>?_
  rw[Jez x _ fun p hp=>by obtain⟨i,hi,rfl⟩:=GG.mp hp;exact w1.one i _ (by simp)]
  exact(JdE (s-1) x (by omega) (byF (-1) ps) w0).1.symm
 show clN (byF (-1) (goS s 0 ps))=_;rw[e,JdT,key]
theorem Jqf{s:Int}(hs:1<=s){ps:List Pr}(g:Good ps)(x:Int):(spF (goS s 0 ps)).count (x+1)+(Jl (thF ps)).count x=(Jl (thF (goS s 0 ps))).count (x+1)+(spF ps).count x:=by
 have w0:Wide 0 (byF (-1) ps):=by
  have z:Wide (1+-1) (byF (-1) ps):=(Yr g).bys (k:=-1)
  rwa [show(1:Int)+-1=0 by decide] at z
 have e:byF (-1) (goS s 0 ps)=mvP (-1) (goS (s-1) 0 (byF (-1) ps)):=by rw[<- YE,<- YE];exact JhF s ps 0 0 g (QD _) (by omega)
 have sb:∀q:List Pr,spF q=Jl (byF (-1) q):=fun q=>by
  have z:=Jc5 (-1) q
  rwa [show(-1:Int)+1=0 by omega,Vo] at z
 have cm:∀l:List Int,(l.map (· - -1)).count (x+1)=l.count x:=fun l=>by
  induction l with
  | nil=>rfl
  | cons y l ih =>
   rw[Qd,QN,QN,ih];congr 1
   by_cases h:y=x
   ·subst h;simp
   ·rw[if_neg (by simpa using h),if_neg (by simp;omega)]
 have k:=(JdE (s-1) x (by omega) (byF (-1) ps) w0).2;rw[sb,e,Jfh,cm,Jl0 hs g,Jfh,cm,sb ps];exact k
theorem JdO:∀{a b:List Pr},(a.map (·.1)).Pairwise (·<·)->(b.map (·.1)).Pairwise (·<·)->(∀p∈a,1<=p.2)->(∀p∈b,1<=p.2)->(∀x,lk x a=lk x b)->a=b
 | [],[],_,_,_,_,_=>rfl
 | [],q::b,_,_,_,h,e=>by
  have:=e q.1;rw[lk,lk,if_pos rfl] at this
  have:=h q Qf;omega
 | p::a,[],_,_,h,_,e=>by
  have:=e p.1;rw[lk,lk,if_pos rfl] at this
  have:=h p Qf;omega
 | p::a,q::b,ha,hb,h1,h2,e=>by
  rw[Qd,QO] at ha hb
  have out:∀{l:List Pr} {x:Int},(∀y∈l.map (·.1),x<y)->lk x l=0:=fun {l x} h=>by
   induction l with
   | nil=>rfl
   | cons r l ih=>rw[lk,if_neg fun z=>by have:=h r.1 (by simp);omega];exact ih fun y hy=>h y (by rw[Qd];exact Qc _ hy)
  have hp:=h1 p Qf
  have hq:=h2 q Qf
  have ek:p.1=q.1:=by
   rcases Int.lt_trichotomy p.1 q.1 with z|z|z
   ·have:=e p.1;rw[lk,if_pos rfl,lk,if_neg (by omega),out fun y hy=>by have:=hb.1 y hy;omega] at this;omega
   ·exact z
   ·have:=e q.1;rw[lk,if_neg (by omega),lk,if_pos rfl,out fun y hy=>by have:=ha.1 y hy;omega] at this;omega
  have ev:p.2=q.2:=by have:=e p.1;rw[lk,if_pos rfl,lk,if_pos ek.symm] at this;exact this
  have:p=q:=Ke ek ev;subst this;rw[JdO ha.2 hb.2 (fun r hr=>h1 r (Qc _ hr)) (fun r hr=>h2 r (Qc _ hr)) fun x=>?_]
  have:=e x;rw[lk,lk] at this
  by_cases c:p.1=x
  ·subst c;rw[out ha.1,out hb.1]
  ·rwa [if_neg c,if_neg c] at this
theorem WD:∀{a:List Pr} {x:Int},x∉a.map (·.1)->lk x a=0
 | [],_,_=>rfl
 | p::r,x,h=>by rw[lk,if_neg fun z=>h (by rw[<- z];simp)];exact WD fun m=>h (by rw[Qd];exact Qc _ m)
theorem Jbl{a:List Pr}(hn:(a.map (·.1)).Nodup)(h:∀p∈a,1<=p.2)(x:Int):lk x a=((Ys a).count x:Int):=by
 rw[Zf,Jfk (fun p=>((p.2.toNat:Nat):Int)) hn];split
 ·next m=>obtain⟨p,hp,e⟩:=Qu.mp m;subst e;rw[JdP hn hp];have:=h p hp;dsimp only;omega
 ·next m=>exact WD m
theorem Y7(l:List Tr):(JI l).map (·.1)=l.map (·.2.1):=by unfold JI;rw[Qw];rfl
theorem V0{q:List Pr}(g:Good q)(k x:Int):lk x (JI (Jn k q))+((Jl (thF q)).count x:Int)=((spF q).count x:Int):=by
 have pw:=Y6 g k;rw[Jbl (by rw[Y7];exact pw.imp fun {a b} h=>by omega) fun p hp=>by obtain⟨u,hu,e⟩:=Qu.mp hp;rw[<- e];exact Yx hu]
 have:=((Y1 (Jl (thF q)++Ys (JI (Jn k q)))).count_eq x)
 rw[JaH g k,LI] at this;omega
theorem Jm4{s:Int}(hs:1<=s){ps:List Pr}(g:Good ps)(k:Int):Jn k (goS s 0 ps)=(Jn k ps).map fun t=>(t.1,t.2.1+1,t.2.2):=by
 have g1:=(Wz (s:=s) ps 0 g (QD _) (by omega)).1
 have pr:JI (Jn k (goS s 0 ps))=(JI (Jn k ps)).map fun p=>(p.1+1,p.2):=by
  have pw:=Y6 g k
  have pk:(((JI (Jn k ps)).map fun p=>(p.1+1,p.2)).map (·.1))=((Jn k ps).map (·.2.1)).map (·+1):=by rw[<- Y7,Qw,Qw];rfl
  refine JdO (by rw[Y7];exact Y6 g1 k) (by
   rw[pk,Kg];exact pw.imp fun {a b} h=>by omega) (fun p hp=>by
   obtain⟨u,hu,e⟩:=Qu.mp hp;rw[<- e];exact Yx hu) (fun p hp=>by
   obtain⟨q,hq,e⟩:=Qu.mp hp;obtain⟨u,hu,e'⟩:=Qu.mp hq;rw[<- e,<- e'];exact Yx hu) fun x=>?_
  have sh:∀a:List Pr,lk x (a.map fun p=>(p.1+1,p.2))=lk (x-1) a:=fun a=>by
   induction a with
   | nil=>rfl
   | cons p r ih =>
    rw[Qd,lk,lk,ih];dsimp only
    by_cases c:p.1+1=x
    ·rw[if_pos c,if_pos (by omega)]
    ·rw[if_neg c,if_neg (by omega)]
  rw[sh];have e1:=V0 g1 k x;have e2:=V0 g k (x-1);have e3:=Jqf hs g (x-1);rw[show x-1+1=x by omega] at e3;omega
 have back:∀l:List Tr,(∀t∈l,t.1=k)->l=(JI l).map fun p=>(k,p.1,p.2):=fun l h=>by
  unfold JI;rw[Qw];refine(Ma l).symm.trans (QE fun t ht=>?_);show t=(k,t.2.1,t.2.2)
  rw[<- h t ht]
 rw[back (Jn k (goS s 0 ps)) fun t ht=>JN ht,pr,Qw]
 conv=>rhs;rw[back (Jn k ps) fun t ht=>JN ht]
 rw[Qw];rfl
theorem JlX:∀(n:Nat) (k s:Int) {ps:List Pr},Good ps->0<=s->tbN n k (goS s 0 ps)=(tbN n k ps).map fun t=>(t.1,t.2.1+min (t.1-k) s,t.2.2)
 | 0,_,_,_,_,_=>rfl
 | n+1,k,s,ps,g,hs=>by
  by_cases h0:s=0
  ·subst h0;rw[Jbc ps ((Yr g).mono (by omega))];refine(Ma _).symm.trans (QE fun t ht=>?_);have:=VD _ _ _ t ht;show t=(t.1,t.2.1+min (t.1-k) 0,t.2.2)
   rw[show min (t.1-k) 0=0 by omega,L9]
  ·have h1:1<=s:=by omega
   rw[tbN,tbN,QV,Jm4 h1 g,Jl0 h1 g,JlM,JlX n (k+1) (s-1) (Js g) (by omega),Qw];congr 1
   ·refine QE fun t ht=>?_
    rw[JN ht,show min (k+1-k) s=1 by omega]
   ·refine QE fun t ht=>?_
    have:=VD _ _ _ t ht
    show(t.1,t.2.1+min (t.1-(k+1)) (s-1) - -1,t.2.2)=(t.1,t.2.1+min (t.1-k) s,t.2.2)
    rw[show t.2.1+min (t.1-(k+1)) (s-1) - -1=t.2.1+min (t.1-k) s by omega]
noncomputable def tkF(seats:Option Int)(l ins:Int):Int:=match seats with
 | none=>l
 | some s=>min l (s-ins)
noncomputable def goF(seats:Option Int):Int->List Pr->List Pr
 | _,[]=>[]
 | ins,[p]=>[(p.1+tkF seats p.2 ins,p.2-tkF seats p.2 ins+(ins+tkF seats p.2 ins))]
 | ins,p::q::r=>(p.1+tkF seats p.2 ins,p.2-tkF seats p.2 ins+min (ins+tkF seats p.2 ins) (q.1-p.1-p.2))::goF seats (ins+tkF seats p.2 ins-min (ins+tkF seats p.2 ins) (q.1-p.1-p.2)) (q::r)
noncomputable def Zu:Option Int->D
 | none=>.non
 | some s=>.int s
noncomputable def OkS(seats:Option Int):Prop:=∀s,seats=some s->1<=s
noncomputable def Sts(seats:Option Int)(s m:Int):Prop:=seats=some s\/(seats=none/\m<=s)
theorem Jlk(a g:Int):a-min a g=max 0 (a-g):=by
 rcases LH a g with h|h
 ·rw[Ki h,MW (by omega),Int.sub_self]
 ·rw[G7 h,KY (by omega)]
theorem JeX{seats:Option Int}{s:Int}:∀(ps:List Pr) (ins:Int),Good ps->0<=ins->ins<=s->Sts seats s (ins+(ps.map (·.2)).sum)->goF seats ins ps=goS s ins ps
 | [],_,_,_,_,_=>rfl
 | [p],ins,g,h0,h1,hs=>by
  have e:tkF seats p.2 ins=min p.2 (s-ins):=by
   rcases hs with z|⟨z,y⟩
   ·rw[z];rfl
   ·rw[z];simp at y;show p.2=_;omega
  show [(p.1+tkF seats p.2 ins,p.2-tkF seats p.2 ins+(ins+tkF seats p.2 ins))]=_;rw[e];rfl
 | p::q::r,ins,g,h0,h1,hs=>by
  have hp:=g.one 0 p rfl
  have hg:=g.gap 0 p q rfl rfl
  have al:0<=((q::r).map (·.2)).sum:=by have:=JbL (Good.all (Good.cons' g));omega
  have e:tkF seats p.2 ins=min p.2 (s-ins):=by
   rcases hs with z|⟨z,y⟩
   ·rw[z];rfl
   ·rw[z];rw[Qd,QA] at y;show p.2=_;omega
  have t1:=MX p.2 (s-ins)
  have t2:=Lj p.2 (s-ins)
  have ih:=JeX (seats:=seats) (s:=s) (q::r) (max 0 (ins+min p.2 (s-ins)-(q.1-p.1-p.2))) (Good.cons' g) (MY _ _) (Rr.mpr ⟨by omega,by omega⟩) (by
   rcases hs with z|⟨z,y⟩
   ·exact .inl z
   ·refine .inr ⟨z,?_⟩;rw[Qd,QA] at y;have:=Rr (a:=0) (b:=ins+min p.2 (s-ins)-(q.1-p.1-p.2)) (c:=s-((q::r).map (·.2)).sum) |>.mpr ⟨by omega,by omega⟩;omega)
  show(p.1+tkF seats p.2 ins,p.2-tkF seats p.2 ins+min (ins+tkF seats p.2 ins) (q.1-p.1-p.2))::goF seats (ins+tkF seats p.2 ins-min (ins+tkF seats p.2 ins) (q.1-p.1-p.2)) (q::r)=_;rw[e,JX,<- ih,Jlk (ins+min p.2 (s-ins))]
theorem JlZ{N:Nat}{ps:List Pr}(g:Good ps)(hN:thN N ps=[]):∀t∈tbN N 0 ps,t.1<=(ps.map (·.2)).sum:=by
 have bl:=Zz N 0 g hN
 have asc:=Yp N 0 ps none g (QD _) (fun b e=>by cases e)
 have an:=JW asc;rw[<- bl]
 clear bl
 revert an
 generalize tbN N 0 ps=l
 intro an
 have key:∀l:List Tr,(∀t∈l,1<=t.1/\1<=t.2.2)->0<=(l.map fun t=>(t.1-0)*t.2.2).sum/\∀t∈l,t.1<=(l.map fun t=>(t.1-0)*t.2.2).sum:=by
  intro l
  induction l with
  | nil=>exact fun _=>⟨QD _,fun _ h=>by cases h⟩
  | cons u l ih =>
   intro h;obtain⟨i1,i2⟩:=ih fun t ht=>h t (Qc _ ht)
   obtain⟨h1,h2⟩:=h u Qf
   have hm:u.1<=(u.1-0)*u.2.2:=by
    rw[RA];have:=K0 h2 (show 0<=u.1 by omega)
    rwa [Ly] at this
   rw[Qd,QA];refine⟨by omega,fun t ht=>?_⟩;rcases Qj.mp ht with z|z
   ·rw[z];omega
   ·have:=i2 t z;omega
 exact(key l an).2
theorem Jkm(ns:List Int)(at' many span:Int)(h1:0<=at')(h2:0<=many)(h3:many<=1000)(h4:0<span) :
 Yd [.sh (.fz (ns.map .int)),.sh (.int at'),.sh (.int many),.sh (.int span)]=some (.own ((spr ns at' span (cell ns at' % (2*span+1)-span) many.toNat).2.map prE)):=by
 unfold Yd;walk_at "ev";rw[Jbn _ _ h1];walk_at "ev";rw[JpU,GY];refine Vy (fun i E=>∃j6 j7,E=[Sl.sh (D.fz (ns.map .int)),Sl.sh (D.int at'),Sl.sh (D.int many),Sl.sh (D.int span),Sl.sh (D.int (spr ns at' span (cell ns at' % (2*span+1)-span) i).1),Sl.own ((spr ns at' span (cell ns at' % (2*span+1)-span) i).2.map prE),j6,j7]) ⟨.no,.no,rfl⟩ ?_ ?_
 ·rintro i E hi ⟨j6,j7,rfl⟩;have hl:=UZ ns at' span (cell ns at' % (2*span+1)-span) i;walk_at "ev";rw[Jbn _ _ (by omega)];walk_at "ev";rw[Jbn _ _ (by omega)];walk_at "ev";simp only[spr,QV,Qd,KC];exact⟨_,_,rfl⟩
 ·rintro E' ⟨j6,j7,rfl⟩;walk_at "ev"
noncomputable def wt(n:Int):List Pr->Int
 | []=>0
 | p::xs=>(if p.1=n then p.2 else 0)+wt n xs
noncomputable def JbP:Int->List Pr->Prop
 | _,[]=>True
 | k,p::xs=>k<p.1/\1<=p.2/\JbP p.1 xs
theorem Vl:∀(xs:List Pr) (k n:Int),JbP k xs->n<=k->wt n xs=0
 | [],_,_,_,_=>rfl
 | p::xs,k,n,h,hn=>by obtain⟨h1,_,h3⟩:=h;rw[wt,if_neg (by omega),Vl xs p.1 n h3 (by omega)];rfl
theorem Ji6:∀(xs ys:List Pr) (k:Int),JbP k xs->JbP k ys->(∀n,k<n->wt n xs=wt n ys)->xs=ys
 | [],[],_,_,_,_=>rfl
 | [],q::ys,k,_,h,e=>by
  have:=e q.1 h.1;rw[wt,wt,if_pos rfl,Vl ys q.1 q.1 h.2.2 (by omega)] at this
  have:=h.2.1;omega
 | p::xs,[],k,h,_,e=>by
  have:=e p.1 h.1;rw[wt,wt,if_pos rfl,Vl xs p.1 p.1 h.2.2 (by omega)] at this
  have:=h.2.1;omega
 | p::xs,q::ys,k,hx,hy,e=>by
  have e1:=e p.1 hx.1
  have e2:=e q.1 hy.1
  have lx:=Vl xs p.1 p.1 hx.2.2 (by omega)
  have ly:=Vl ys q.1 q.1 hy.2.2 (by omega)
  have px:=hx.2.1
  have py:=hy.2.1;rw[wt,wt,if_pos rfl] at e1;rw[wt,wt,if_pos rfl] at e2
  have h1:p.1=q.1:=by
   by_cases a:p.1<q.1
   ·have:=Vl ys q.1 p.1 hy.2.2 (by omega);rw[if_neg (by omega)] at e1;omega
   ·by_cases b:q.1<p.1
    ·have:=Vl xs p.1 q.1 hx.2.2 (by omega);rw[if_neg (by omega)] at e2;omega
    ·omega
  rw[if_pos h1.symm] at e1;have l2:wt p.1 ys=0:=by rw[h1];exact ly
  have h2:p.2=q.2:=by omega
  have t:xs=ys:=Ji6 xs ys p.1 hx.2.2 (by rw[h1];exact hy.2.2) fun n hn=>by have:=e n (by have:=hx.1;omega);rw[wt,wt,if_neg (by omega),if_neg (by omega)] at this;omega
  rw[t,show p=q from Ke h1 h2]
theorem Jdo:∀(xs:List Pr) (k:Int),(xs.map (·.1)).Pairwise (·<·)->(∀p∈xs,k<p.1)->(∀p∈xs,1<=p.2)->JbP k xs
 | [],_,_,_,_=>trivial
 | p::xs,k,h,h1,h2=>by rw[Qd,QO] at h;exact⟨h1 p Qf,h2 p Qf,Jdo xs p.1 h.2 (fun q hq=>h.1 q.1 (Gc hq)) fun q hq=>h2 q (Qc _ hq)⟩
theorem JbR(s v:Int)(hv:1<=v):∀a:List Pr,(∀p∈a,1<=p.2)->∀p∈J7 a s v,1<=p.2
 | [],_,p,hp=>by rw[J7,Gz] at hp;rw[hp];exact hv
 | q::r,h,p,hp=>by
  have hq:=h q Qf;rw[J7] at hp;split at hp
  ·rcases Qj.mp hp with e|e
   ·rw[e];show 1<=q.2+v;omega
   ·exact h p (Qc _ e)
  ·rcases Qj.mp hp with e|e
   ·rw[e];exact hq
   ·exact JbR s v hv r (fun x hx=>h x (Qc _ hx)) p e
theorem Jc8:∀(tb:List Tr) (a:List Pr),(∀t∈tb,1<=t.2.2)->(∀p∈a,1<=p.2)->∀p∈J5 tb a,1<=p.2
 | [],a,_,h,p,hp=>h p hp
 | t::tb,a,ht,h,p,hp=>Jc8 tb (J7 a t.1 t.2.2) (fun u hu=>ht u (Qc _ hu)) (JbR t.1 t.2.2 (ht t Qf) a h) p hp
theorem JfZ{ps:List Pr}(g:Good ps)(N:Nat)(ht:∀t∈tbN N 0 ps,1<=t.1/\1<=t.2.2):JbP 0 (J5 (tbN N 0 ps) []):=by
 refine Jdo _ 0 (Jeg N 0 ps [] g List.Pairwise.nil (fun x hx=>absurd hx Gi)).1 (fun p hp=>?_) (Jc8 _ [] (fun t h=>(ht t h).2) (fun p h=>absurd h Gi));rcases Jc7 _ [] p hp with ⟨t,h1,h2⟩|z
 ·have:=(ht t h1).1;omega
 ·exact absurd z Gi
theorem Jej:∀(n:Nat) (k:Int) (qs:List Pr),0<=k->∀t∈tbN n k qs,1<=t.1/\1<=t.2.2
 | 0,_,_,_,t,h=>absurd h Gi
 | n+1,k,qs,hk,t,h=>by
  rw[tbN] at h;rcases GB.mp h with h|h
  ·unfold Jn at h;obtain⟨u,hu,rfl⟩:=Qu.mp h;have:=of_decide_eq_true (K2.mp hu).2;exact⟨by show 1<=k+1;omega,by show 1<=u.2.1-u.2.2;omega⟩
  ·exact Jej n (k+1) (thF qs) (by omega) t h
theorem Jji{ps:List Pr}(g:Good ps)(N:Nat):JbP 0 (J5 (tbN N 0 ps) []):=JfZ g N (Jej N 0 ps (QD _))
noncomputable def Uz:List Pr->Prop
 | p::q::r=>p.2<=q.2/\p.2<=q.1-(p.1+p.2)/\Uz (q::r)
 | _=>True
noncomputable def apT(tb:List Tr):List Pr:=tb.flatMap fun t=>QC t.2.2.toNat (t.1,t.2.1)
noncomputable def apF(k:Int):Int->List Pr->List Pr
 | _,[]=>[]
 | c,p::r=>(p.2+k,p.1-2*c)::apF k (c+p.2) r
theorem Jhy(k:Int):∀(ps:List Pr) (c:Int) (i:Int),apF (k+1) c (byR (2*i) ps)=apF k (c+i) ps
 | [],_,_=>rfl
 | p::r,c,i=>by
  have ih:=Jhy k r (c+(p.2-1)) (i+1);rw[byR,apF,apF,show 2*i+2=2*(i+1) by omega,ih];congr 1
  ·exact Ke (by show p.2-1+(k+1)=p.2+k;omega) (by show p.1-2*i-2*c=p.1-2*(c+i);omega)
  ·congr 1;omega
theorem Jhc:∀(ps:List Pr) (c:Int),Good ps->Uz ps->(∀p,ps[0]?=some p->2<=p.2)->Good (byR c ps)/\∀p∈byR c ps,0<p.2
 | [],_,_,_,_=>⟨Good.nil,fun p hp=>(Gi hp).elim⟩
 | [p],c,g,_,h=>by
  have h2:=h p rfl;refine⟨⟨fun i q e=>?_,fun i q r e1 e2=>?_⟩,fun q hq=>?_⟩
  ·cases i with
   | zero=>simp[byR] at e;subst e;show 1<=p.2-1;omega
   | succ i=>simp[byR] at e
  ·simp[byR] at e2
  ·simp[byR] at hq;subst hq;show 0<p.2-1;omega
 | p::q::r,c,g,s,h=>by
  obtain⟨s1,s2,s3⟩:=s;have h2:=h p rfl;obtain⟨g1,g2⟩:=Jhc (q::r) (c+2) (Good.cons' g) s3 fun x hx=>by simp at hx;subst hx;omega
  refine⟨⟨fun i x e=>?_,fun i x y e1 e2=>?_⟩,fun x hx=>?_⟩
  ·cases i with
   | zero=>simp[byR] at e;subst e;show 1<=p.2-1;omega
   | succ i=>exact g1.one i x (by simpa [byR] using e)
  ·cases i with
   | zero=>simp[byR] at e1 e2;subst e1 e2;show p.1-c+(p.2-1)<q.1-(c+2);omega
   | succ i=>exact g1.gap i x y (by simpa [byR] using e1) (by simpa [byR] using e2)
  ·rw[byR] at hx;rcases Qj.mp hx with e|e
   ·rw[e];show 0<p.2-1;omega
   ·exact g2 x e
theorem Jhz:∀{p:Pr} {r:List Pr},Uz (p::r)->Uz r
 | _,[],_=>trivial
 | _,_::_,h=>h.2.2
theorem JdC:∀(ps:List Pr) (i:Int),Good ps->Uz ps->clN (byR (2*i) ps)=(byR (2*i) ps).filter (fun p=>decide (0<p.2)) ∧
 ∀k,(((byR (2*i) ps).filter (fun p=>!decide (0<p.2))).map fun p=>((k+1,p.1+p.2):Pr))++apF (k+1) 0 ((byR (2*i) ps).filter fun p=>decide (0<p.2))=apF k i ps
 | [],_,_,_=>⟨rfl,fun k=>rfl⟩
 | p::r,i,g,s=>by
  have p1:=Good.all g p (by simp)
  by_cases c:p.2=1
  ·obtain⟨h1,h2⟩:=JdC r (i+1) (Good.cons' g) (Jhz s)

   have e2:2*i+2=2*(i+1):=by omega
   refine⟨?_,fun k=>?_⟩
   ·rw[byR,clN,if_neg (by show ¬(0<p.2-1);omega),e2,h1,Gs (by show ¬(decide (0<p.2-1)=true);simp;omega)]
   ·rw[byR,e2,Gu (by show(!decide (0<p.2-1))=true;simp;omega),Gs (by show ¬(decide (0<p.2-1)=true);simp;omega),Qd,KW,h2 k,apF];congr 1
    ·exact Ke (by show k+1=p.2+k;omega) (by show p.1-2*i+(p.2-1)=p.1-2*i;omega)
    ·congr 1;omega
  ·obtain⟨g1,g2⟩:=Jhc (p::r) (2*i) g s fun x hx=>by simp at hx;subst hx;omega
   have f1:(byR (2*i) (p::r)).filter (fun p=>decide (0<p.2))=byR (2*i) (p::r):=List.filter_eq_self.mpr fun x hx=>decide_eq_true (g2 x hx)
   have f2:(byR (2*i) (p::r)).filter (fun p=>!decide (0<p.2))=[]:=MR.mpr fun x hx=>by simp[g2 x hx]
   refine⟨?_,fun k=>?_⟩
   ·rw[f1];have g0:=g1;rw[byR] at g0 ⊢;rw[clN,if_pos (by show 0<p.2-1;omega),Jdt _ _ g0]
   ·rw[f1,f2,Jhy k (p::r) 0 i];simp
theorem Jcf:∀(ps:List Pr) (c:Int),Good ps->Uz ps->Uz ((byR c ps).filter fun p=>decide (0<p.2))
 | [],_,_,_=>trivial
 | [p],c,_,_=>by rw[byR,byR,ME];split <;> trivial
 | p::q::r,c,g,s=>by
  obtain⟨s1,s2,s3⟩:=s;have ih:=Jcf (q::r) (c+2) (Good.cons' g) s3;rw[byR]
  by_cases d:0<p.2-1
  ·rw[Gu (by show decide (0<p.2-1)=true;simp;omega)];rw[byR] at ih ⊢;rw[Gu (by show decide (0<q.2-1)=true;simp;omega)] at ih ⊢;refine⟨by show p.2-1<=q.2-1;omega,?_,ih⟩;show p.2-1<=q.1-(c+2)-(p.1-c+(p.2-1));omega
  ·rw[Gs (by show ¬(decide (0<p.2-1)=true);simp;omega)];exact ih
theorem Jjb:∀(ps:List Pr) (c:Int),Good ps->(((byR c ps).filter fun p=>!decide (0<p.2)).map fun p=>p.1+p.2).Pairwise (·<=·)
 | [],_,_=>List.Pairwise.nil
 | p::r,c,g=>by
  have ih:=Jjb r (c+2) (Good.cons' g);rw[byR]
  by_cases d:0<p.2-1
  ·rw[Gs (by show ¬((!decide (0<p.2-1))=true);simp;omega)];exact ih
  ·rw[Gu (by show(!decide (0<p.2-1))=true;simp;omega),Qd];refine QO.mpr ⟨fun y hy=>?_,ih⟩;obtain⟨x,hx,rfl⟩:=Qu.mp hy;have hx':=(K2.mp hx).1;have p1:=Good.all g p (by simp)
   have x0:0<=x.2:=by obtain⟨j,hj⟩:=Gr.mp hx';rw[Wv,QB,Gd] at hj;obtain⟨q,hq,rfl⟩:=hj;have:=Good.all (Good.cons' g) q (QX hq);show 0<=q.2+-1;omega
   have:=JaS r (c+2) (p.1+p.2+1-(c+2)) (Good.cons' g) (fun q hq=>by have:=g.gap 0 p q rfl (by simpa using hq);omega) x hx'
   show p.1-c+(p.2-1)<=x.1+x.2;omega
theorem Jdn:∀{r:List Tr} {b:Pr},ZJ (some b) r->∀u∈r,b.1<u.1\/(b.1=u.1/\b.2<u.2.1)
 | [],_,_,_,h=>by cases h
 | t::r,b,h,u,hu=>by
  obtain⟨h1,h2,h3,h4⟩:=h;have h5:=h3 b rfl;rcases Qj.mp hu with z|z
  ·subst z;exact h5
  ·have:=Jdn h4 u z;dsimp only at this;omega
theorem Jdl(a b:List Tr):apT (a++b)=apT a++apT b:=by unfold apT;rw[List.flatMap_append]
theorem Jdm(k:Int):∀(l:List Tr),(∀t∈l,t.1=k)->apT l=(Ys (JI l)).map fun x=>((k,x):Pr)
 | [],_=>rfl
 | t::l,h=>by
  have ih:=Jdm k l fun u hu=>h u (Qc _ hu)
  unfold apT Ys JI at ih ⊢;rw[Qd,Gn,Gn,ih,QV,Ku,h t Qf]
theorem JcF:∀(l:List Pr),(l.map (·.1)).Pairwise (·<·)->(Ys l).Pairwise (·<=·)
 | [],_=>List.Pairwise.nil
 | p::l,h=>by rw[Qd] at h;obtain⟨h1,h2⟩:=QO.mp h;unfold Ys;rw[Gn];refine Le.mpr ⟨MK.mpr (.inr (QD _)),JcF l h2,fun a ha b hb=>?_⟩;obtain⟨_,rfl⟩:=K1.mp ha;obtain⟨q,hq,hb⟩:=ML.mp hb;obtain⟨_,rfl⟩:=K1.mp hb;exact Int.le_of_lt (h1 _ (Gc hq))
theorem Jak{α:Type}(f:α->Int)(c:α->Bool)(x:Int):∀(l:List α),(l.map f).count x=((l.filter c).map f).count x+((l.filter fun a=>!c a).map f).count x
 | []=>rfl
 | a::l=>by
  have ih:=Jak f c x l
  cases h:c a with
  | true=>rw[Gu h,Gs (by simp[h]),Qd,Qd,QN,QN,ih];omega
  | false=>rw[Gs (by simp[h]),Gu (by simp[h]),Qd,Qd,QN,QN,ih];omega
theorem Ja7{ps:List Pr}(g:Good ps)(s:Uz ps):thF ps=(byR 0 ps).filter fun p=>decide (0<p.2):=by unfold thF;rw[<- YE];exact(JdC ps 0 g s).1
theorem Jj0{ps:List Pr}(g:Good ps)(s:Uz ps)(k:Int):Ys (JI (Jn k ps))=((byR 0 ps).filter fun p=>!decide (0<p.2)).map fun p=>p.1+p.2:=by
 have sb:spF ps=(byR 0 ps).map fun p=>p.1+p.2:=by
  have hb:byF 0 ps=ps:=by
   unfold byF;refine MI (by simp) fun i h1 h2=>?_
   simp
  have:=Jc5 (-1) ps;rw[show(-1:Int)+1=0 by omega,hb] at this;rw[this,YE];rfl
 have asc:=Y6 g k
 have key:((JI (Jn k ps)).map (·.1)).Pairwise (·<·):=by rw[Y7];exact asc
 have nd:((JI (Jn k ps)).map (·.1)).Nodup:=key.imp fun h=>by omega
 have pos:∀p∈JI (Jn k ps),1<=p.2:=fun p hp=>by obtain⟨t,ht,rfl⟩:=Qu.mp hp;exact Yx ht
 refine JaG (List.perm_iff_count.mpr fun x=>?_) (JcF _ key) (Jjb ps 0 g);have e1:=Jbl nd pos x;have e2:=V0 g k x;have e3:=Jak (fun p:Pr=>p.1+p.2) (fun p=>decide (0<p.2)) x (byR 0 ps);rw[sb] at e2;rw[Ja7 g s] at e2;unfold Jl at e2;omega
theorem JdB:∀(N:Nat) (k:Int) (ps:List Pr),Good ps->Uz ps->thN N ps=[]->apT (tbN N k ps)=apF k 0 ps
 | 0,k,ps,_,_,h=>by have:ps=[]:=h;subst this;rfl
 | N+1,k,ps,g,s,h=>by
  have gt:Good (thF ps):=Js g
  have ih:=JdB N (k+1) (thF ps) gt (by rw[Ja7 g s];exact Jcf ps 0 g s) h;rw[tbN,Jdl,ih,Jdm (k+1) _ (fun t ht=>JN ht),Jj0 g s,Qw,Ja7 g s];exact(JdC ps 0 g s).2 k
noncomputable def lnF:Int->List Pr->List Pr
 | _,[]=>[]
 | c,q::r=>(q.1,q.2+2*c)::lnF (c+q.1) r
theorem Jh1:∀(l:List Pr) (c:Int),(lnF c l).length=l.length
 | [],_=>rfl
 | _::r,c=>by rw[lnF,Qo,Qo,Jh1 r]
theorem V1:∀(l:List Pr) (c:Int),(lnF c l).map (·.1)=l.map (·.1)
 | [],_=>rfl
 | q::r,c=>by rw[lnF,Qd,Qd,V1 r]
theorem JlJ:∀(ps:List Pr) (c:Int),lnF c (apF 0 c ps)=ps.map KB
 | [],_=>rfl
 | p::r,c=>by rw[apF,lnF,Qd];show((p.2+0,p.1-2*c+2*c):Pr)::lnF (c+(p.2+0)) (apF 0 (c+p.2) r)=_;rw[show c+(p.2+0)=c+p.2 by omega,JlJ r (c+p.2)];congr 1;exact Ke (by show p.2+0=p.2;omega) (by show p.1-2*c+2*c=p.1;omega)
theorem Jlv:∀(l:List Pr) (c:Int),apF 0 c ((lnF c l).map KB)=l
 | [],_=>rfl
 | q::r,c=>by rw[lnF,Qd,apF];show((q.1+0,q.2+2*c-2*c):Pr)::apF 0 (c+q.1) ((lnF (c+q.1) r).map KB)=_;rw[Jlv r (c+q.1)];congr 1;exact Ke (by show q.1+0=q.1;omega) (by show q.2+2*c-2*c=q.2;omega)
theorem JfA{x:Pr}:∀(n m:Nat) {a b:List Pr},x∉a->x∉b->QC n x++a=QC m x++b->n=m/\a=b
 | 0,0,_,_,_,_,e=>⟨rfl,by simpa using e⟩
 | 0,m+1,a,b,ha,_,e=>by
  rw[Q3] at e;have:a=x::(QC m x++b):=by simpa using e
  exact absurd (this▸Qf) ha
 | n+1,0,a,b,_,hb,e=>by
  rw[Q3] at e;have:b=x::(QC n x++a):=by simpa using e.symm
  exact absurd (this▸Qf) hb
 | n+1,m+1,a,b,ha,hb,e=>by
  rw[Q3,Q3] at e;have e':QC n x++a=QC m x++b:=by simpa using e
  obtain⟨h1,h2⟩:=JfA n m ha hb e';exact⟨by omega,h2⟩
theorem Uo{tb:List Tr}{x:Pr}(h:x∈apT tb):∃t∈tb,x=(t.1,t.2.1):=by obtain⟨t,ht,hx⟩:=ML.mp h;exact⟨t,ht,(K1.mp hx).2⟩
theorem Jg7:∀{a b:List Tr} {o o':Option Pr},ZJ o a->ZJ o' b->apT a=apT b->a=b
 | [],[],_,_,_,_,_=>rfl
 | [],t::b,_,_,_,h,e=>by
  have:=JW h t (by simp)
  exfalso
  have e':[]=QC t.2.2.toNat (t.1,t.2.1)++apT b:=e
  have l:=congrArg Lz e';rw[QG,G6] at l;simp at l;omega
 | t::a,[],_,_,h,_,e=>by
  have:=JW h t (by simp)
  exfalso
  have e':QC t.2.2.toNat (t.1,t.2.1)++apT a=[]:=e
  have l:=congrArg Lz e';rw[QG,G6] at l;simp at l;omega
 | t::a,u::b,o,o',h,h',e=>by
  have n1:=JW h t (by simp)
  have n2:=JW h' u (by simp)
  have e':QC t.2.2.toNat (t.1,t.2.1)++apT a=QC u.2.2.toNat (u.1,u.2.1)++apT b:=e
  have hd:((t.1,t.2.1):Pr)=(u.1,u.2.1):=by
   have e2:=congrArg (fun l=>l[0]?) e';obtain⟨m,hm⟩:∃m,t.2.2.toNat=m+1:=⟨t.2.2.toNat-1,by omega⟩
   obtain⟨m',hm'⟩:∃m,u.2.2.toNat=m+1:=⟨u.2.2.toNat-1,by omega⟩
   rw[hm,hm',Q3,Q3] at e2
   simpa using e2
  have out:∀{t:Tr} {r:List Tr} {o:Option Pr},ZJ o (t::r)->((t.1,t.2.1):Pr)∉apT r:=fun {t r o} h m=>by obtain⟨v,hv,ev⟩:=Uo m;have ord:=Jdn h.2.2.2 v hv;simp only at ord;rw[Rl] at ev;omega
  rw[<- hd] at e';obtain⟨h1,h2⟩:=JfA _ _ (out h) (by rw[hd];exact out h') e';have ih:=Jg7 h.2.2.2 h'.2.2.2 h2;rw[ih];congr 1;rw[Rl] at hd;exact Ke hd.1 (Ke hd.2 (by omega))
theorem WN:∀(tb:List Tr),(∀t∈tb,1<=t.2.2)->((apT tb).length:Int)=YH tb
 | [],_=>rfl
 | t::tb,h=>by
  have ih:=WN tb fun u hu=>h u (Qc _ hu)
  have h1:=h t Qf;unfold apT YH at ih ⊢;rw[Gn,QG,G6,Qd,QA,<- ih];omega
theorem Jeq(k:Int):∀(ps:List Pr) (c:Int),(apF k c ps).length=ps.length
 | [],_=>rfl
 | p::r,c=>by rw[apF,Qo,Qo,Jeq k r]
theorem Jk6{R qs:List Pr}(gR:Good R)(h30:R.length<=30){N:Nat}(hN:thN N R=[])(gq:Good qs)(sq:Uz qs)(e:apT (tbN N 0 R)=apF 0 0 qs):R=qs:=by
 obtain⟨m,hm⟩:∃m:Nat,m=(qs.map fun p:Pr=>p.2).sum.toNat:=⟨_,rfl⟩
 have nn:∀o:Option Pr,o=none->∀b,o=some b->b.1<=(0:Int):=fun o h b hb=>by rw[h] at hb;cases hb
 have aR:=Yp (N+m) 0 R none gR (QD _) (nn none rfl)
 have aq:=Yp (N+m) 0 qs none gq (QD _) (nn none rfl)
 have hq:thN (N+m) qs=[]:=U1 _ gq (by omega)
 have hR:thN (N+m) R=[]:=Jek (by omega) hN
 have eR:=JiZ N m 0 R hN
 have fq:=JdB _ 0 qs gq sq hq
 have same:tbN (N+m) 0 R=tbN (N+m) 0 qs:=Jg7 aR aq (by rw[eR,e,fq])
 have l1:=WN _ fun t ht=>(JW aR t ht).2
 have l2:=Wg (N+m) 0 gR hR
 have ql:qs.length=R.length:=by have:=congrArg Lz e;rw[Jeq,<- eR] at this;omega
 have r1:=(JiF 30 _ 0 h30 gR h30 hR).1
 have r2:=(JiF 30 _ 0 (by omega) gq (by omega) hq).1;rw[<- r1,<- r2,same]
noncomputable def shL(z:Int)(q:Pr):Pr:=(q.1,q.2+q.1*z)
theorem Jlw(z:Int):∀(tb:List Tr),apT (tb.map fun t=>(t.1,t.2.1+z*t.1,t.2.2))=(apT tb).map (shL z)
 | []=>rfl
 | t::tb=>by
  have ih:=Jlw z tb;unfold apT at ih ⊢;rw[Qd,Gn,Gn,ih,QV,Ku]
  show QC t.2.2.toNat ((t.1,t.2.1+z*t.1):Pr)++_=QC t.2.2.toNat (t.1,t.2.1+t.1*z)++_;rw[RB z]
theorem JlL(z:Int):∀(l:List Pr) (c:Int),lnF c (l.map (shL z))=(lnF c l).map (shL z)
 | [],_=>rfl
 | q::r,c=>by rw[Qd,lnF,lnF,Qd];show((q.1,q.2+q.1*z+2*c):Pr)::lnF (c+q.1) (r.map (shL z))=(q.1,q.2+2*c+q.1*z)::_;rw[JlL z r,show q.2+q.1*z+2*c=q.2+2*c+q.1*z by omega]
noncomputable def chL:List Pr->Prop
 | q::r::l=>q.1<=r.1/\(q.1=r.1->q.2+2*q.1<=r.2)/\chL (r::l)
 | _=>True
noncomputable def Jnx(q r:Pr):Prop:=q.1<r.1\/(q.1=r.1/\q.2<=r.2)
theorem VL:∀{tb:List Tr} {o:Option Pr},ZJ o tb->(apT tb).Pairwise Jnx
 | [],_,_=>List.Pairwise.nil
 | t::tb,o,h=>by unfold apT;rw[Gn];refine Le.mpr ⟨MK.mpr (.inr (.inr ⟨rfl,QD _⟩)),VL h.2.2.2,fun a ha b hb=>?_⟩;obtain⟨_,rfl⟩:=K1.mp ha;obtain⟨u,hu,rfl⟩:=Uo (tb:=tb) hb;have:=Jdn h.2.2.2 u hu;simp only at this;show t.1<u.1\/(t.1=u.1/\t.2.1<=u.2.1);omega
theorem Jb2:∀(l:List Pr) (c:Int),l.Pairwise Jnx->chL (lnF c l)
 | [],_,_=>trivial
 | [q],_,_=>trivial
 | q::r::l,c,h=>by
  obtain⟨h1,h2⟩:=QO.mp h;have ih:=Jb2 (r::l) (c+q.1) h2;rw[lnF] at ih;rw[lnF,lnF];have o:q.1<r.1\/(q.1=r.1/\q.2<=r.2):=h1 r Qf;refine⟨by show q.1<=r.1;omega,?_,ih⟩;show q.1=r.1->q.2+2*c+2*q.1<=r.2+2*(c+q.1)
  omega
noncomputable def prL:List Pr->List (Pr×Pr)
 | q::r::l=>if q.1≠r.1 then(q,r)::prL (r::l) else prL (r::l)
 | _=>[]
noncomputable def vlL(x:Pr×Pr):Int:=-((x.2.2-x.1.2-2*x.1.1) / (x.2.1-x.1.1))
theorem Jjv{g d z:Int}(hd:0<d):-(g / d)<=z↔0<=g+d*z:=by have:=MS (a:=-z) (b:=g) hd;rw[show -(g / d)<=z↔-z<=g / d by omega,this,Int.neg_mul,RB z d];omega
theorem JfD(z:Int):∀(l:List Pr),chL l->(Uz ((l.map (shL z)).map KB)↔∀x∈prL l,vlL x<=z)
 | [],_=>⟨fun _ x hx=>(Gi hx).elim,fun _=>trivial⟩
 | [q],_=>⟨fun _ x hx=>(Gi hx).elim,fun _=>trivial⟩
 | q::r::l,h=>by
  obtain⟨h1,h2,h3⟩:=h;have ih:=JfD z (r::l) h3
  have key:Uz (((q::r::l).map (shL z)).map KB)↔(q.1<=r.1/\q.1<=r.2+r.1*z-(q.2+q.1*z+q.1))/\Uz (((r::l).map (shL z)).map KB):=by show(q.1<=r.1/\q.1<=r.2+r.1*z-(q.2+q.1*z+q.1)/\_)↔_;rw[and_assoc];rfl
  rw[key,ih,prL];have ex:r.2+r.1*z-(q.2+q.1*z+q.1)=r.2-q.2-q.1+(r.1-q.1)*z:=by rw[Int.sub_mul];omega
  by_cases c:q.1=r.1
  ·rw[if_neg (by simpa using c)];have:=h2 c;refine⟨fun x=>x.2,fun x=>⟨⟨h1,?_⟩,x⟩⟩;rw[ex,c,Int.sub_self,Int.zero_mul];omega
  ·rw[if_pos c];have d:=Jjv (g:=r.2-q.2-2*q.1) (d:=r.1-q.1) (z:=z) (by omega);refine⟨fun x y hy=>?_,fun x=>⟨⟨h1,?_⟩,fun y hy=>x y (Qc _ hy)⟩⟩
   ·rcases Qj.mp hy with e|e
    ·subst e;show -((r.2-q.2-2*q.1) / (r.1-q.1))<=z;rw[d];have:=x.1.2;rw[ex] at this;omega
    ·exact x.2 y e
   ·have:-((r.2-q.2-2*q.1) / (r.1-q.1))<=z:=x (q,r) Qf;rw[d] at this;rw[ex];omega
theorem Jci:∀(l:List Pr),Uz (l.map KB)->(∀q∈l,1<=q.1)->Good (l.map KB)
 | [],_,_=>Good.nil
 | [q],_,h=>⟨fun i p e=>by
  cases i with
  | zero=>simp at e;subst e;exact h q (by simp)
  | succ i=>simp at e,fun i p r _ e2=>by simp at e2⟩
 | q::r::l,s,h=>by
  obtain⟨s1,s2,s3⟩:=s;have ih:=Jci (r::l) s3 fun x hx=>h x (Qc _ hx)
  have hq:=h q Qf;refine⟨fun i p e=>?_,fun i p p' e1 e2=>?_⟩
  ·cases i with
   | zero=>simp at e;subst e;exact hq
   | succ i=>exact ih.one i p (by simpa using e)
  ·cases i with
   | zero=>simp at e1 e2;subst e1 e2;have s2':q.1<=r.2-(q.2+q.1):=s2;show q.2+q.1<r.2;omega
   | succ i=>exact ih.gap i p p' (by simpa using e1) (by simpa using e2)
theorem JmE{ps qs:List Pr}(g:Good ps)(h30:ps.length<=30){N:Nat}(hN:thN N ps=[])(gq:Good qs)(hq30:qs.length<=30)(hqN:thN N qs=[]){z:Int}(e:tbN N 0 qs=(tbN N 0 ps).map fun t=>(t.1,t.2.1+z*t.1,t.2.2)) :
 (Uz (((lnF 0 (apT (tbN N 0 ps))).map (shL z)).map KB)->qs=((lnF 0 (apT (tbN N 0 ps))).map (shL z)).map KB)/\(Uz qs->Uz (((lnF 0 (apT (tbN N 0 ps))).map (shL z)).map KB)):=by
 have asc:=Yp N 0 ps none g (QD _) (fun b e=>by cases e)
 have ea:apT (tbN N 0 qs)=(apT (tbN N 0 ps)).map (shL z):=by rw[e,Jlw]
 have el:lnF 0 (apT (tbN N 0 qs))=(lnF 0 (apT (tbN N 0 ps))).map (shL z):=by rw[ea,JlL]
 refine⟨fun s=>?_,fun s=>?_⟩
 ·refine Jk6 gq hq30 hqN (Jci _ s fun q hq=>?_) s ?_
  ·obtain⟨x,hx,rfl⟩:=Qu.mp hq;have hx1:x.1∈(lnF 0 (apT (tbN N 0 ps))).map (·.1):=Gc hx;rw[V1] at hx1;obtain⟨y,hy,ey⟩:=Qu.mp hx1;obtain⟨t,ht,rfl⟩:=Uo hy;have:=(JW asc t ht).1;show 1<=x.1;rw[<- ey];exact this
  ·rw[<- el,Jlv]
 ·rw[<- el,JdB N 0 qs gq s hqN,JlJ,Qw];have:(KB ∘ KB:Pr->Pr)=id:=by funext x;cases x;rfl
  rw[this,Rj];exact s
theorem JiN(ps:List Pr):spF ps=(byR 0 ps).map fun p=>p.1+p.2:=by
 have hb:byF 0 ps=ps:=by
  unfold byF;refine MI (by simp) fun i h1 h2=>?_
  simp
 have:=Jc5 (-1) ps;rw[show(-1:Int)+1=0 by omega,hb] at this;rw[this,YE];rfl
theorem Jlx{ps:List Pr}{lo hi:Int}(g:Good ps)(h:∀p∈ps,lo<=p.1/\p.1+p.2<=hi):∀x∈byR 0 ps,lo<=x.1/\0<=x.2/\x.1+x.2<=hi:=fun x hx=>by
 have h1:=JaS ps 0 lo g (fun q hq=>by have:=(h q (QX hq)).1;omega) x hx;obtain⟨j,hj⟩:=Gr.mp hx;rw[Wv,QB,Gd] at hj;obtain⟨q,hq,rfl⟩:=hj
 have hm:=QX hq
 have a:=Good.all g q hm
 have b:=(h q hm).2;refine⟨h1,?_,?_⟩
 ·show 0<=q.2+-1;omega
 ·show q.1+2*(-1)*(j:Int)-0+(q.2+-1)<=hi;omega
theorem JlU{ps:List Pr}{lo hi:Int}(g:Good ps)(h:∀p∈ps,lo<=p.1/\p.1+p.2<=hi):∀e∈spF ps,lo<=e/\e<=hi:=fun e he=>by rw[JiN] at he;obtain⟨x,hx,rfl⟩:=Qu.mp he;have:=Jlx g h x hx;omega
theorem JaV:∀(r:List Pr) (cur p:Pr),p∈clF cur r->p.1=cur.1\/∃q∈r,p.1=q.1
 | [],cur,p,h=>by rw[clF,Gz] at h;exact .inl (by rw[h])
 | q::r,cur,p,h=>by
  rw[clF] at h;split at h
  ·rcases JaV r _ p h with e|⟨x,hx,e⟩
   ·exact .inl e
   ·exact .inr ⟨x,Qc _ hx,e⟩
  ·split at h
   ·rcases Qj.mp h with e|e
    ·exact .inl (by rw[e])
    ·rcases JaV r q p e with e|⟨x,hx,e⟩
     ·exact .inr ⟨q,Qf,e⟩
     ·exact .inr ⟨x,Qc _ hx,e⟩
   ·rcases JaV r _ p h with e|⟨x,hx,e⟩
    ·exact .inl e
    ·exact .inr ⟨x,Qc _ hx,e⟩
theorem Jey:∀(l:List Pr) (p:Pr),p∈clN l->∃q∈l,p.1=q.1
 | [],p,h=>(Gi h).elim
 | q::r,p,h=>by
  rw[clN] at h;split at h
  ·rcases JaV r q p h with e|⟨x,hx,e⟩
   ·exact⟨q,Qf,e⟩
   ·exact⟨x,Qc _ hx,e⟩
  ·obtain⟨x,hx,e⟩:=Jey r p h;exact⟨x,Qc _ hx,e⟩
theorem Jqh{ps:List Pr}{lo hi:Int}(g:Good ps)(h:∀p∈ps,lo<=p.1/\p.1+p.2<=hi):∀p∈thF ps,lo<=p.1/\p.1+p.2<=hi:=fun p hp=>by refine⟨?_,(JlU g h _ (Ja2 (Gc (f:=fun p:Pr=>p.1+p.2) hp))).2⟩;unfold thF at hp;rw[<- YE] at hp;obtain⟨x,hx,e⟩:=Jey _ p hp;rw[e];exact(Jlx g h x hx).1
theorem Jm5{ps:List Pr}{k:Int}(g:Good ps){t:Tr}(ht:t∈Jn k ps):t.2.1∈spF ps:=by
 have key:((JI (Jn k ps)).map (·.1)).Pairwise (·<·):=by rw[Y7];exact Y6 g k
 have pos:∀p∈JI (Jn k ps),1<=p.2:=fun p hp=>by obtain⟨t,ht,rfl⟩:=Qu.mp hp;exact Yx ht
 have e1:=Jbl (key.imp fun h=>by omega) pos t.2.1
 have e2:=V0 g k t.2.1
 have m:t.2.1∈Ys (JI (Jn k ps)):=by refine ML.mpr ⟨(t.2.1,t.2.2),Qu.mpr ⟨t,ht,rfl⟩,K1.mpr ⟨?_,rfl⟩⟩;have:=Yx ht;show t.2.2.toNat≠0;omega
 have c:=Kt.mpr m;exact Kt.mp (by omega)
theorem JlY:∀(n:Nat) (k:Int) {ps:List Pr} {lo hi:Int},Good ps->(∀p∈ps,lo<=p.1/\p.1+p.2<=hi)->∀t∈tbN n k ps,lo<=t.2.1/\t.2.1<=hi
 | 0,_,_,_,_,_,_,t,h=>(Gi h).elim
 | n+1,k,ps,lo,hi,g,h,t,ht=>by
  rw[tbN] at ht;rcases GB.mp ht with e|e
  ·exact JlU g h _ (Jm5 g e)
  ·exact JlY n (k+1) (Js g) (Jqh g h) t e
theorem JlK:∀(l:List Pr) (c S lo hi:Int),0<=c->c+(l.map (·.1)).sum<=S->(∀q∈l,1<=q.1/\lo<=q.2/\q.2<=hi)->∀q∈lnF c l,lo<=q.2/\q.2<=hi+2*S
 | [],_,_,_,_,_,_,_,q,hq=>(Gi hq).elim
 | x::l,c,S,lo,hi,h0,hs,h,q,hq=>by
  have hx:=h x Qf
  have nn:∀l:List Pr,(∀q∈l,1<=q.1/\lo<=q.2/\q.2<=hi)->0<=(l.map (·.1)).sum:=fun l hl=>by
   induction l with
   | nil=>exact QD _
   | cons y l ih =>
    have:=hl y Qf
    have:=ih fun q hq=>hl q (Qc _ hq)
    rw[Qd,QA];omega
  have nl:=nn l fun q hq=>h q (Qc _ hq)
  rw[Qd,QA] at hs;rw[lnF] at hq;rcases Qj.mp hq with e|e
  ·subst e;show lo<=x.2+2*c/\x.2+2*c<=hi+2*S;omega
  ·exact JlK l (c+x.1) S lo hi (by omega) (by omega) (fun q hq=>h q (Qc _ hq)) q e
theorem V7:∀(l:List Pr) (x:Pr×Pr),x∈prL l->x.1∈l/\x.2∈l/\x.1.1≠x.2.1
 | [],x,h=>(Gi h).elim
 | [q],x,h=>(Gi h).elim
 | q::r::l,x,h=>by
  rw[prL] at h;split at h
  ·rename_i c;rcases Qj.mp h with e|e
   ·subst e;exact⟨Qf,Qc _ Qf,c⟩
   ·obtain⟨a,b,d⟩:=V7 (r::l) x e;exact⟨Qc _ a,Qc _ b,d⟩
  ·obtain⟨a,b,d⟩:=V7 (r::l) x h;exact⟨Qc _ a,Qc _ b,d⟩
theorem Jb3:∀(l:List Pr),chL l->∀x∈prL l,x.1.1<x.2.1
 | [],_,x,h=>(Gi h).elim
 | [q],_,x,h=>(Gi h).elim
 | q::r::l,hc,x,h=>by
  obtain⟨h1,_,h3⟩:=hc;rw[prL] at h;split at h
  ·rename_i c;rcases Qj.mp h with e|e
   ·subst e;show q.1<r.1;omega
   ·exact Jb3 (r::l) h3 x e
  ·exact Jb3 (r::l) h3 x h
theorem Jmk(g d B:Int)(hd:0<d)(h:-B<=g/\g<=B):-B<=g / d/\g / d<=B:=by
 have hB:0<=B:=by omega
 constructor
 ·rw[MS hd]
  have:B<=B*d:=by have:=K0 (show(1:Int)<=d by omega) hB;omega
  rw[Int.neg_mul];omega
 ·have:g / d<B+1:=by rw[Int.ediv_lt_iff_lt_mul hd];have:=K0 (show(1:Int)<=d by omega) (show 0<=B+1 by omega);omega
  omega
theorem Jqk{x:Pr×Pr}{B:Int}(h1:x.1.1<x.2.1)(h2:1<=x.1.1/\x.1.1<=B)(h3:-B<=x.1.2/\x.1.2<=B)(h4:-B<=x.2.2/\x.2.2<=B):-(4*B)<=vlL x/\vlL x<=4*B:=by
 have hd:0<x.2.1-x.1.1:=by omega
 have a:=Jmk (x.2.2-x.1.2-2*x.1.1) (x.2.1-x.1.1) (4*B) hd (by omega);unfold vlL;omega
theorem Jer:∀(tb:List Tr) (L:List Pr),tb.foldl (fun L t=>L++QC t.2.2.toNat ((t.1,t.2.1):Pr)) L=L++apT tb
 | [],L=>by simp[apT]
 | t::tb,L=>by rw[Q4,Jer tb];unfold apT;rw[Gn,GM]
theorem Jfb(ps:List Pr)(N:Nat)(g:Good ps)(h:ps.length<=30)(hN:thN N ps=[]):JM [.sh (.row (ps.map prE))]=some (.own ((apT (tbN N 0 ps)).map prE)):=by
 have asc:=Yp N 0 ps none g (QD _) (fun b e=>by cases e)
 have ns:=Wg N 0 g hN
 have nm:∀t∈tbN N 0 ps,1<=t.2.2:=fun t ht=>(JW asc t ht).2
 unfold JM;walk_at "ev";rw[Jfd ps N g h hN];walk_at "ev";rw[GY];refine YX (fun(rest:List Tr) (L:List Pr) E=>∃j2 j3 j4,E=[.sh (.row (ps.map prE)),.own (L.map prE),j2,j3,j4]/\(L.length:Int)+YH rest<=30/\∀t∈rest,1<=t.2.2) (fun L t=>L++QC t.2.2.toNat (t.1,t.2.1)) [] ⟨.no,.no,.no,rfl,by rw[ns];simp;omega,nm⟩ ?_ ?_
 ·rintro t rest L E ⟨j2,j3,j4,rfl,hz,hr⟩;have h1:=hr t Qf
  have hs:0<=YH rest:=by have:=(JdV (tb:=rest) fun u hu=>hr u (Qc _ hu)).1;omega
  have hz':(L.length:Int)+(t.2.2+YH rest)<=30:=by
   have e:YH (t::rest)=t.2.2+YH rest:=by unfold YH;rw[Qd,QA]
   rw[<- e];exact hz
  simp only[trE];walk_at "ev";rw[Jhx (d:=D.tup [.int t.1,.int t.2.1]) rfl (JhJ ⟨by omega,by omega⟩) (by omega)];walk_at "ev";rw[G6,if_pos (by omega)];refine⟨.sh (.int t.1),.sh (.int t.2.1),.sh (.int t.2.2),?_,by rw[QG,G6];omega,fun u hu=>hr u (Qc _ hu)⟩;rw[QV,Ku];rfl
 ·rintro E' ⟨j2,j3,j4,rfl,_,_⟩;rw[Jer,Lr];walk_at "ev"
theorem Vn{ps:List Pr}{N:Nat}(g:Good ps)(hN:thN N ps=[]):(apT (tbN N 0 ps)).length=ps.length:=by
 have asc:=Yp N 0 ps none g (QD _) (fun b e=>by cases e)
 have l1:=WN _ fun t ht=>(JW asc t ht).2
 have ns:=Wg N 0 g hN;omega
theorem Jfa:∀(l:List Pr) (L:List Pr) (c:Int),l.foldl (fun(s:List Pr×Int) q=>(s.1++[((q.1,q.2+2*s.2):Pr)],s.2+q.1)) (L,c)=(L++lnF c l,c+(l.map (·.1)).sum)
 | [],L,c=>by simp[lnF]
 | q::r,L,c=>by rw[Q4,Jfa r,lnF,Qd,QA];show(L++[((q.1,q.2+2*c):Pr)]++lnF (c+q.1) r,c+q.1+(r.map (·.1)).sum)=_;rw[GM,Lq];rfl
theorem Jm9(ps:List Pr)(N:Nat)(g:Good ps)(h:ps.length<=30)(hN:thN N ps=[]):Yu [.sh (.row (ps.map prE))]=some (.own ((lnF 0 (apT (tbN N 0 ps))).map prE)):=by
 have al:=Vn g hN;unfold Yu;walk_at "ev";rw[Jfb ps N g h hN];walk_at "ev";rw[GY];refine YX (fun(rest:List Pr) (s:List Pr×Int) E=>∃j3 j4,E=[.sh (.row (ps.map prE)),.own (s.1.map prE),.sh (.int s.2),j3,j4]/\s.1.length+rest.length<=30) (fun s q=>(s.1++[(q.1,q.2+2*s.2)],s.2+q.1)) ([],0) ⟨.no,.no,rfl,by rw[al];simpa using h⟩ ?_ ?_
 ·rintro q rest ⟨L,c⟩ E ⟨j3,j4,rfl,hz⟩;rw[Qo] at hz;simp only[prE] at hz ⊢;walk_at "ev";refine⟨.sh (.int q.1),.sh (.int q.2),?_,by rw[QG];simp;omega⟩;rw[QV];rfl
 ·rintro E' ⟨j3,j4,rfl,_⟩;rw[Jfa];walk_at "ev"
noncomputable def ppE(x:Pr×Pr):D:=.tup [prE x.1,prE x.2]
theorem Jbz:∀l:List Pr,(Kl l (l.drop 1)).filter (fun x=>decide (x.1.1≠x.2.1))=prL l
 | []=>rfl
 | [_]=>rfl
 | q::r::l=>by
  have ih:=Jbz (r::l)
  show((q,r)::Kl (r::l) ((r::l).drop 1)).filter _=_;rw[prL]
  by_cases c:q.1=r.1
  ·rw[Gs (by simp[c]),ih,if_neg (by simpa using c)]
  ·rw[Gu (by simp[c]),ih,if_pos c]
theorem Jfc(l:List Pr)(h:l.length<=30):JS [.sh (.lst (l.map prE))]=some (.own ((prL l).map ppE)):=by
 unfold JS;walk_at "ev";rw[Jb4,<- List.map_drop,JfX];walk_at "ev";have hz:(Kl l (l.drop 1)).length<=16777216:=by rw[G5];omega
 rw[if_pos hz,Ja0 (g:=ppE) (k:=fun x=>decide (x.1.1≠x.2.1))]
 ·rw[Jbz];walk_at "ev"
 ·intro x _;refine⟨?_,fun _=>?_⟩
  ·walk_at "ev";rw[Yw,Yw];walk_at "ev"
   by_cases c:x.1.1=x.2.1 <;> simp[c]
  ·walk_at "ev";rfl
noncomputable def Wu:List Pr->Bool
 | p::q::r=>(decide (p.2<=q.2) && decide (p.2<=q.1-(p.1+p.2))) && Wu (q::r)
 | _=>true
theorem JfC:∀(ps:List Pr),Wu ps=true↔Uz ps
 | []=>⟨fun _=>trivial,fun _=>rfl⟩
 | [_]=>⟨fun _=>trivial,fun _=>rfl⟩
 | p::q::r=>by rw[Wu,QL,QL,decide_eq_true_eq,decide_eq_true_eq,JfC (q::r),and_assoc];rfl
noncomputable def mxO(l:List Int):D:=match l.max? with
 | some m=>.int m
 | none=>.non
theorem Jgx(ps:List Pr)(N:Nat)(g:Good ps)(h:ps.length<=30)(hN:thN N ps=[])(hb:∀q∈apT (tbN N 0 ps),q.1<=10 ^ 100):YV [.sh (.row (ps.map prE))]=some (.sh (mxO ((prL (lnF 0 (apT (tbN N 0 ps)))).map vlL))):=by
 have al:=Vn g hN
 have asc:=Yp N 0 ps none g (QD _) (fun b e=>by cases e)
 have ch:=Jb2 (apT (tbN N 0 ps)) 0 (VL asc)
 have ll:=Jh1 (apT (tbN N 0 ps)) 0
 have sz:∀q∈lnF 0 (apT (tbN N 0 ps)),1<=q.1/\q.1<=10 ^ 100:=fun q hq=>by
  have hx1:q.1∈(lnF 0 (apT (tbN N 0 ps))).map (·.1):=Gc hq;rw[V1] at hx1;obtain⟨y,hy,ey⟩:=Qu.mp hx1
  have h2:=hb y hy;obtain⟨t,ht,rfl⟩:=Uo hy
  have h1:=(JW asc t ht).1;rw[<- ey];exact⟨h1,h2⟩
 unfold YV;walk_at "ev";rw[Jm9 ps N g h hN];walk_at "ev";rw[Jfc _ (by omega)];walk_at "ev"
 have pl:(prL (lnF 0 (apT (tbN N 0 ps)))).length<=30:=by rw[<- Jbz];refine Q5 (LO _ _) ?_;rw[G5];omega
 rw[if_pos (by omega),Yi (g:=fun x=>D.int (vlL x))]
 ·walk_at "ev";rw[show(prL (lnF 0 (apT (tbN N 0 ps)))).map (fun x=>D.int (vlL x))=((prL (lnF 0 (apT (tbN N 0 ps)))).map vlL).map D.int by rw[Qw];rfl];walk_at "ev";unfold mxO;cases ((prL (lnF 0 (apT (tbN N 0 ps)))).map vlL).max? <;> rfl
 ·intro x hx;obtain⟨m1,m2,_⟩:=V7 _ x hx;have c:=Jb3 _ ch x hx;have s1:=sz _ m1;have s2:=sz _ m2
  have cc:0<x.2.1-x.1.1/\(x.2.1-x.1.1).natAbs<=10 ^ 200:=⟨by omega,by
   have:(10:Nat) ^ 100<=10 ^ 200:=by decide +kernel
   have:(10:Int) ^ 100=((10 ^ 100:Nat):Int):=by norm_cast
   omega⟩
  simp only[ppE];walk_at "ev";rw[Uc,Uc];walk_at "ev";rw[Yw,Yw];walk_at "ev";rfl
theorem JfG(ns:List Int)(at' span p0:Int)(h0:0<span):∀i:Nat,p0<=(spr ns at' span p0 i).1/\(spr ns at' span p0 i).1<=p0+i*(2*span+1)/\(∀p∈(spr ns at' span p0 i).2,p0<=p.1/\p.1+p.2<=p0+i*(2*span+1)/\p.2<=span)/\((spr ns at' span p0 i).2.map (·.2)).sum<=i*span
 | 0=>⟨QD _,by simp[spr],fun p hp=>(by cases hp),by simp[spr]⟩
 | i+1=>by
  obtain⟨a0,a1,a2,a3⟩:=JfG ns at' span p0 h0 i;have m1:=Lu (cell ns (at'+1+2*i)) (b:=span) (by omega);have m2:=Lu (cell ns (at'+2+2*i)) (b:=span) (by omega);have m3:=Ml (cell ns (at'+1+2*i)) (b:=span) (by omega);have m4:=Ml (cell ns (at'+2+2*i)) (b:=span) (by omega);have e1:((i+1:Nat):Int)*(2*span+1)=i*(2*span+1)+(2*span+1):=by rw[KA,KE];simp
  have e2:((i+1:Nat):Int)*span=i*span+span:=by rw[KA,KE];simp
  rw[e1,e2];refine⟨?_,?_,fun p hp=>?_,?_⟩
  ·show p0<=_+(1+_)+1+_;omega
  ·show _+(1+_)+1+_<=_;omega
  ·rcases GB.mp hp with z|z
   ·have:=a2 p z;omega
   ·have e:p=((spr ns at' span p0 i).1,1+cell ns (at'+1+2*i) % span):=by simpa using z
    subst e;refine⟨a0,?_,?_⟩
    ·show _+(1+_)<=_;omega
    ·show 1+_<=_;omega
  ·simp only[spr,QV,Qd,KC,Ky,QA,List.sum_nil];omega
noncomputable def U6(ps:List Pr):Option Int->Int
 | none=>(ps.map (·.2)).sum
 | some s=>s
structure Stp where
 b:Int
 l:Int
 t:Int
 s:Int
noncomputable def stF(most:Int):Int->List (Pr×Int)->List Stp
 | _,[]=>[]
 | load,(p,g)::r=>⟨p.1,p.2,min p.2 (most-load),min (load+min p.2 (most-load)) g⟩::stF most (load+min p.2 (most-load)-min (load+min p.2 (most-load)) g) r
noncomputable def Jef(ps:List Pr)(seats:Option Int):List Stp:=stF (U6 ps seats) 0 (Kl ps (JZ ps++[U6 ps seats]))
theorem JfH(most:Int):∀(l:List (Pr×Int)) (load:Int),(stF most load l).length=l.length
 | [],_=>rfl
 | (p,g)::r,load=>by rw[stF,Qo,JfH most r];rfl
theorem JgQ(ps:List Pr)(seats:Option Int):(Jef ps seats).length=ps.length:=by unfold Jef;rw[JfH,G5,QG,VT];simp;omega
noncomputable def VF(x:Stp):Pr:=(x.b+x.t,x.l-x.t+x.s)
noncomputable def YJ(ps:List Pr)(seats:Option Int):List Pr:=(Jef ps seats).map VF
theorem Jan{most:Int}(hm:1<=most):∀(ps:List Pr) (load:Int),Good ps->0<=load->load<=most ->
 Good ((stF most load (Kl ps (JZ ps++[most]))).map VF)/\∀q,((stF most load (Kl ps (JZ ps++[most]))).map VF)[0]?=some q->∀p,ps[0]?=some p->q.1=p.1+min p.2 (most-load)
 | [],load,_,_,_=>⟨Good.nil,fun q e=>by simp[JZ,stF] at e⟩
 | [p],load,g,h0,h1=>by
  have hp:=g.one 0 p rfl;refine⟨Good.mk' ?_ (fun q e=>by simp[stF] at e) Good.nil,fun q e r er=>?_⟩
  ·show 1<=p.2-min p.2 (most-load)+min (load+min p.2 (most-load)) most;omega
  ·simp[JZ,stF,VF] at e er;subst er;rw[<- e]
 | p::q::r,load,g,h0,h1=>by
  have hp:=g.one 0 p rfl
  have hq:=g.one 1 q rfl
  have hg:=g.gap 0 p q rfl rfl
  have ih:=Jan hm (q::r) (load+min p.2 (most-load)-min (load+min p.2 (most-load)) (q.1-(p.1+p.2))) (Good.cons' g) (by omega) (by omega)
  have e0:(stF most load (Kl (p::q::r) (JZ (p::q::r)++[most]))).map VF=VF ⟨p.1,p.2,min p.2 (most-load),min (load+min p.2 (most-load)) (q.1-(p.1+p.2))⟩::(stF most (load+min p.2 (most-load)-min (load+min p.2 (most-load)) (q.1-(p.1+p.2))) (Kl (q::r) (JZ (q::r)++[most]))).map VF:=rfl;rw[e0];refine⟨Good.mk' ?_ (fun q' e=>?_) ih.1,fun q' e p' ep=>?_⟩
  ·show 1<=p.2-min p.2 (most-load)+min (load+min p.2 (most-load)) (q.1-(p.1+p.2));omega
  ·have:=ih.2 q' e q rfl
   show p.1+min p.2 (most-load)+(p.2-min p.2 (most-load)+min (load+min p.2 (most-load)) (q.1-(p.1+p.2)))<q'.1;omega
  ·simp at e ep;subst ep;rw[<- e];rfl
theorem Vz{ps:List Pr}(g:Good ps)(seats:Option Int)(hs:OkS seats)(h:ps≠[]):1<=U6 ps seats:=by
 cases seats with
 | some s=>exact hs s rfl
 | none =>
  cases ps with
  | nil=>exact absurd rfl h
  | cons p ps =>
   have h1:=g.one 0 p rfl
   have h2:0<=(ps.map (·.2)).sum:=by
    have al:=Good.all (Good.cons' g)
    clear h1 h g
    induction ps with
    | nil=>exact QD _
    | cons q ps ih =>
     have a1:=al q Qf
     have a2:=ih fun x hx=>al x (Qc _ hx)
     rw[Qd,QA];omega
   show 1<=((p::ps).map (·.2)).sum;rw[Qd,QA];omega
theorem JdF{ps:List Pr}(g:Good ps)(seats:Option Int)(hs:OkS seats):Good (YJ ps seats):=by
 by_cases h:ps=[]
 ·subst h;exact Good.nil
 ·have:=Vz g seats hs h;exact(Jan this ps 0 g (QD _) (by omega)).1
theorem Jgi(ps:List Pr)(seats:Option Int):(YJ ps seats).length=ps.length:=by unfold YJ;rw[Qv,JgQ]
noncomputable def Jg0(seats:Option Int)(most load:Int)(ps:List Pr):Prop:=0<=load/\load<=most/\(seats=some most\/(seats=none/\load+(ps.map (·.2)).sum<=most))
theorem JeS{seats:Option Int}{most load:Int}{p:Pr}{ps:List Pr}(f:Jg0 seats most load (p::ps))(h:∀q∈ps,1<=q.2):tkF seats p.2 load=min p.2 (most-load):=by
 obtain⟨_,_,e|⟨e,hs⟩⟩:=f
 ·rw[e];rfl
 ·rw[e];show p.2=_
  have h0:0<=(ps.map (·.2)).sum:=by
   clear hs e
   induction ps with
   | nil=>exact QD _
   | cons q ps ih =>
    have a1:=h q Qf
    have a2:=ih fun x hx=>h x (Qc _ hx)
    rw[Qd,QA];omega
  rw[Qd,QA] at hs;omega
theorem Jgg{seats:Option Int}{most load s:Int}{p:Pr}{ps:List Pr}(f:Jg0 seats most load (p::ps))(hp:1<=p.2)(h0:0<=s)(h1:s<=load+min p.2 (most-load)):Jg0 seats most (load+min p.2 (most-load)-s) ps:=by obtain⟨f0,f1,e⟩:=f;refine⟨by omega,by omega,e.imp id fun⟨e,hs⟩=>⟨e,?_⟩⟩;rw[Qd,QA] at hs;omega
theorem JhE{seats:Option Int}{most:Int}:∀(ps:List Pr) (load:Int),Good ps->Jg0 seats most load ps->(stF most load (Kl ps (JZ ps++[most]))).map VF=goF seats load ps
 | [],_,_,_=>rfl
 | [p],load,g,f=>by
  have hp:=g.one 0 p rfl
  have ht:=JeS f fun q hq=>nomatch hq
  obtain⟨f0,f1,_⟩:=f;show [VF ⟨p.1,p.2,min p.2 (most-load),min (load+min p.2 (most-load)) most⟩]=_;rw[goF,ht];have:min (load+min p.2 (most-load)) most=load+min p.2 (most-load):=by omega
  simp[VF,this]
 | p::q::r,load,g,f=>by
  have hp:=g.one 0 p rfl
  have hg:=g.gap 0 p q rfl rfl
  have ht:=JeS f (Good.all (Good.cons' g))
  have e1:q.1-(p.1+p.2)=q.1-p.1-p.2:=by omega
  have f':=Jgg (s:=min (load+min p.2 (most-load)) (q.1-p.1-p.2)) f hp (by obtain⟨f0,f1,_⟩:=f;omega) (by omega)
  have ih:=JhE (q::r) _ (Good.cons' g) f'
  show VF ⟨p.1,p.2,min p.2 (most-load),min (load+min p.2 (most-load)) (q.1-(p.1+p.2))⟩::(stF most (load+min p.2 (most-load)-min (load+min p.2 (most-load)) (q.1-(p.1+p.2))) (Kl (q::r) (JZ (q::r)++[most]))).map VF=_;rw[goF,ht,e1,ih];rfl
theorem Jpf{ps:List Pr}(g:Good ps)(seats:Option Int)(hs:OkS seats):Jg0 seats (U6 ps seats) 0 ps:=by
 cases seats with
 | some s=>have:=hs s rfl;exact⟨QD _,by show 0<=s;omega,.inl rfl⟩
 | none =>
  refine⟨QD _,?_,.inr ⟨rfl,by show 0+_<=(ps.map (·.2)).sum;omega⟩⟩
  by_cases h:ps=[]
  ·subst h;exact QD _
  ·have:=Vz g none hs h;omega
theorem WY{ps:List Pr}(g:Good ps)(seats:Option Int)(hs:OkS seats):goF seats 0 ps=YJ ps seats:=(JhE ps 0 g (Jpf g seats hs)).symm
noncomputable def YY(p:Pr):Pr:=(1-p.1-p.2,p.2)
noncomputable def Jq(ps:List Pr):List Pr:=ps.reverse.map YY
theorem JgB(p:Pr):YY (YY p)=p:=by unfold YY;dsimp only;rw[show 1-(1-p.1-p.2)-p.2=p.1 by omega]
theorem J4(ps:List Pr):(Jq ps).length=ps.length:=by unfold Jq;rw[Qv,Km]
theorem V3(ps:List Pr):Jq (Jq ps)=ps:=by
 unfold Jq;rw[<- GS,List.reverse_reverse,Qw];have:YY ∘ YY=id:=by funext p;exact JgB p
 rw[this,Rj]
theorem UF{ps:List Pr}{j:Nat}{q:Pr}(e:(Jq ps)[j]?=some q):∃p,ps[ps.length-1-j]?=some p/\q=YY p/\j<ps.length:=by
 unfold Jq at e;rw[Qm,Gd] at e;obtain⟨p,e,rfl⟩:=e;have hj:j<ps.length:=by have:=(Qk.mp e).1;rwa [Km] at this
 rw[GK hj] at e;exact⟨p,e,rfl,hj⟩
theorem UG(ps:List Pr):((Jq ps).map (·.2)).sum=(ps.map (·.2)).sum:=by unfold Jq;rw[Qw,show(fun p:Pr=>p.2) ∘ YY=(fun p=>p.2) from rfl,GS,List.sum_reverse]
theorem JR{ps:List Pr}(g:Good ps):Good (Jq ps):=by
 refine⟨fun j q e=>?_,fun j q r e1 e2=>?_⟩
 ·obtain⟨p,h,rfl,_⟩:=UF e;exact g.one _ p h
 ·obtain⟨p,h,rfl,hj⟩:=UF e1;obtain⟨p',h',rfl,hj'⟩:=UF e2;have:ps.length-1-j=ps.length-1-(j+1)+1:=by omega
  rw[this] at h;have:=g.gap _ p' p h' h;unfold YY;dsimp only;omega
structure GoIx (most:Int) (ps:List Pr) (a t s:Nat->Int):Prop where
 ht:∀i p,ps[i]?=some p->t i=min p.2 (most-a i)
 hs:∀i p q,ps[i]?=some p->ps[i+1]?=some q->s i=min (a i+t i) (q.1-(p.1+p.2))
 hz:∀i p,ps[i]?=some p->ps[i+1]?=none->s i=min (a i+t i) most
 ha:∀i,i<ps.length->a (i+1)=a i+t i-s i
theorem JlF{most:Int}:∀(ps:List Pr) (a t s:Nat->Int),GoIx most ps a t s->stF most (a 0) (Kl ps (JZ ps++[most]))=ps.mapIdx fun i p=>⟨p.1,p.2,t i,s i⟩
 | [],a,t,s,_=>rfl
 | [p],a,t,s,h=>by
  have h1:=h.ht 0 p rfl
  have h2:=h.hz 0 p rfl rfl
  show [(⟨p.1,p.2,min p.2 (most-a 0),min (a 0+min p.2 (most-a 0)) most⟩:Stp)]=[⟨p.1,p.2,t 0,s 0⟩]
  rw[<- h1,<- h2]
 | p::q::r,a,t,s,h=>by
  have h1:=h.ht 0 p rfl
  have h2:=h.hs 0 p q rfl rfl
  have h3:=h.ha 0 (by simp)
  have ih:=JlF (q::r) (fun i=>a (i+1)) (fun i=>t (i+1)) (fun i=>s (i+1)) ⟨fun i x e=>h.ht (i+1) x (by simpa using e),fun i x y e1 e2=>h.hs (i+1) x y (by simpa using e1) (by simpa using e2),fun i x e1 e2=>h.hz (i+1) x (by simpa using e1) (by simpa using e2),fun i hi=>h.ha (i+1) (by simp at hi ⊢;omega)⟩;rw[MJ]
  show(⟨p.1,p.2,min p.2 (most-a 0),min (a 0+min p.2 (most-a 0)) (q.1-(p.1+p.2))⟩:Stp)::stF most (a 0+min p.2 (most-a 0)-min (a 0+min p.2 (most-a 0)) (q.1-(p.1+p.2))) (Kl (q::r) (JZ (q::r)++[most]))=_;rw[<- h1,<- h2,<- h3,ih]
noncomputable def sft(x:Int)(f:Nat->Int):Nat->Int
 | 0=>x
 | i+1=>f i
theorem JhS{most:Int}:∀(ps:List Pr) (load:Int),∃a t s,a 0=load/\GoIx most ps a t s
 | [],load=>⟨fun _=>load,fun _=>0,fun _=>0,rfl,⟨fun i p e=>by simp at e,fun i p q e=>by simp at e,fun i p e=>by simp at e,fun i hi=>by simp at hi⟩⟩
 | p::ps,load=>by
  let t0:=min p.2 (most-load)
  let s0:=match ps[0]? with
   | some q=>min (load+t0) (q.1-(p.1+p.2))
   | none=>min (load+t0) most
  obtain⟨a,t,s,h0,h⟩:=JhS (most:=most) ps (load+t0-s0);refine⟨sft load a,sft t0 t,sft s0 s,rfl,⟨fun i x e=>?_,fun i x y e1 e2=>?_,fun i x e1 e2=>?_,fun i hi=>?_⟩⟩
  ·cases i with
   | zero=>simp at e;subst e;rfl
   | succ i=>exact h.ht i x (by simpa using e)
  ·cases i with
   | zero =>
    have e2':ps[0]?=some y:=by simpa using e2
    simp at e1;subst e1;show s0=min (load+t0) _;simp only[s0,e2']
   | succ i=>exact h.hs i x y (by simpa using e1) (by simpa using e2)
  ·cases i with
   | zero =>
    have e2':ps[0]?=none:=by simpa using e2
    simp at e1;subst e1;show s0=min (load+t0) most;simp only[s0,e2']
   | succ i=>exact h.hz i x (by simpa using e1) (by simpa using e2)
  ·cases i with
   | zero=>show a 0=load+t0-s0;exact h0
   | succ i=>exact h.ha i (by simpa using hi)
theorem Je5{most:Int}{ps:List Pr}{a t s:Nat->Int}(g:Good ps)(h:GoIx most ps a t s)(h0:a 0=0)(hm:0<=most):∀i,i<=ps.length->0<=a i/\a i<=most
 | 0,_=>by rw[h0];omega
 | i+1,hi=>by
  obtain⟨b0,b1⟩:=Je5 g h h0 hm i (by omega);have e:ps[i]?=some (ps[i]'(by omega)):=by simp
  have ht:=h.ht i _ e
  have ha:=h.ha i (by omega)
  have hp:=g.one i _ e
  cases en:ps[i+1]? with
  | none=>have hs:=h.hz i _ e en;omega
  | some q=>have hs:=h.hs i _ q e en;have:=g.gap i _ q e en;omega
theorem JhR{most:Int}{ps:List Pr}{a t s:Nat->Int}(g:Good ps)(h:GoIx most ps a t s)(h0:a 0=0)(hm:0<=most):a ps.length=0:=by
 cases hn:ps.length with
 | zero=>exact h0
 | succ n =>
  have e:ps[n]?=some (ps[n]'(by omega)):=by simp
  have ht:=h.ht n _ e
  have ha:=h.ha n (by omega)
  have hs:=h.hz n _ e (by simp[hn]);obtain⟨b0,b1⟩:=Je5 g h h0 hm n (by omega)
  have hp:=g.one n _ e;omega
theorem Jbd{most:Int}{ps:List Pr}{a t s:Nat->Int}(h:GoIx most ps a t s)(h0:a 0=0):(stF most 0 (Kl ps (JZ ps++[most]))).map VF=ps.mapIdx fun i p=>(p.1+t i,p.2-t i+s i):=by
 rw[<- h0,JlF ps a t s h];refine Ga fun j=>?_
 rw[Qm,QB,QB,Kr];rfl
theorem JmP{most:Int}{ps:List Pr}{a t s:Nat->Int}(g:Good ps)(hm:0<=most)(h:GoIx most ps a t s)(h0:a 0=0) :
 GoIx most (Jq (ps.mapIdx fun i p=>(p.1+t i,p.2-t i+s i))) (fun j=>a (ps.length-j)) (fun j=>s (ps.length-1-j)) (fun j=>t (ps.length-1-j)):=by
 have key:∀i p,ps[i]?=some p->a (i+1)=a i+t i-s i/\t i=min p.2 (most-a i):=fun i p e=>⟨h.ha i (Qk.mp e).1,h.ht i p e⟩
 have get:∀{j:Nat} {q:Pr},(Jq (ps.mapIdx fun i p=>(p.1+t i,p.2-t i+s i)))[j]?=some q->j<ps.length/\∃p,ps[ps.length-1-j]?=some p/\q=YY (p.1+t (ps.length-1-j),p.2-t (ps.length-1-j)+s (ps.length-1-j)):=by intro j q e;obtain⟨x,e',rfl,hj⟩:=UF e;rw[GP] at e' hj;rw[QB,Gd] at e';obtain⟨p,e',rfl⟩:=e';exact⟨hj,p,e',rfl⟩
 refine⟨fun j q e=>?_,fun j q r e1 e2=>?_,fun j q e1 e2=>?_,fun j hj=>?_⟩
 ·obtain⟨hj,p,e',rfl⟩:=get e;obtain⟨k1,k2⟩:=key _ p e';have hp:=g.one _ p e';have ei:ps.length-j=ps.length-1-j+1:=by omega
  rw[ei];show s (ps.length-1-j)=min (p.2-t (ps.length-1-j)+s (ps.length-1-j)) _;rw[k1];omega
 ·obtain⟨hj,p,e',rfl⟩:=get e1;obtain⟨hj2,p',e2',rfl⟩:=get e2;obtain⟨k1,k2⟩:=key _ p e';obtain⟨i,hi⟩:∃i,ps.length-1-(j+1)=i:=⟨_,rfl⟩
  have ej:ps.length-1-j=i+1:=by omega
  have ei:ps.length-j=i+2:=by omega
  have hil:i+1<ps.length:=by omega
  rw[hi] at e2';rw[ej] at e' k1 k2;show t (ps.length-1-j)=min (a (ps.length-j)+s (ps.length-1-j)) _;rw[ei,ej,hi,k1];obtain⟨k3,k4⟩:=key _ p' e2';have hs:=h.hs _ p' p e2' e';obtain⟨b0,b1⟩:=Je5 g h h0 hm (i+1) (by omega);obtain⟨b2,b3⟩:=Je5 g h h0 hm i (by omega);have hg:=g.gap i p' p e2' e';have hp':=g.one i p' e2';unfold YY;dsimp only;omega
 ·obtain⟨hj,p,e',rfl⟩:=get e1
  have hl:ps.length<=j+1:=by rw[Lm,J4,GP] at e2;exact e2
  have ej:ps.length-1-j=0:=by omega
  have ei:ps.length-j=1:=by omega
  rw[ej] at e';obtain⟨k1,k2⟩:=key _ p e';show t (ps.length-1-j)=min (a (ps.length-j)+s (ps.length-1-j)) most;rw[ei,ej,k1,h0];have hp:=g.one 0 p e';omega
 ·rw[J4,GP] at hj;show a (ps.length-(j+1))=a (ps.length-j)+s (ps.length-1-j)-t (ps.length-1-j);have ei:ps.length-j=ps.length-1-j+1:=by omega
  have ej:ps.length-(j+1)=ps.length-1-j:=by omega
  have k1:=h.ha (ps.length-1-j) (by omega);rw[ei,ej,k1];omega
theorem JhU{most:Int}:∀{ps:List Pr} {a t s:Nat->Int},GoIx most ps a t s->((ps.mapIdx fun i p=>((p.1+t i,p.2-t i+s i):Pr)).map (·.2)).sum=(ps.map (·.2)).sum-a ps.length+a 0
 | [],a,t,s,_=>by simp;omega
 | p::ps,a,t,s,h=>by
  have ih:=JhU (ps:=ps) (a:=fun i=>a (i+1)) (t:=fun i=>t (i+1)) (s:=fun i=>s (i+1)) ⟨fun i x e=>h.ht (i+1) x (by simpa using e),fun i x y e1 e2=>h.hs (i+1) x y (by simpa using e1) (by simpa using e2),fun i x e1 e2=>h.hz (i+1) x (by simpa using e1) (by simpa using e2),fun i hi=>h.ha (i+1) (by simp;omega)⟩
  have h3:=h.ha 0 (by simp);rw[MJ,Qd,QA,ih,Qd,QA,Qo];dsimp only at ih h3 ⊢;rw[L8] at h3;rw[L8];omega
theorem Jch{ps:List Pr}(g:Good ps)(seats:Option Int)(hs:OkS seats):((YJ ps seats).map (·.2)).sum=(ps.map (·.2)).sum:=by
 by_cases h:ps=[]
 ·subst h;rfl
 ·have hm:=Vz g seats hs h;obtain⟨a,t,s,h0,hi⟩:=JhS (most:=U6 ps seats) ps 0
  have e:YJ ps seats=ps.mapIdx fun i p=>(p.1+t i,p.2-t i+s i):=Jbd hi h0
  rw[e,JhU hi,JhR g hi h0 (by omega),h0];omega
theorem JhG{ps:List Pr}(g:Good ps)(seats:Option Int)(hs:OkS seats):YJ (Jq (YJ ps seats)) seats=Jq ps:=by
 by_cases h:ps=[]
 ·subst h;rfl
 ·have hm:=Vz g seats hs h;obtain⟨a,t,s,h0,hi⟩:=JhS (most:=U6 ps seats) ps 0
  have e:YJ ps seats=ps.mapIdx fun i p=>(p.1+t i,p.2-t i+s i):=Jbd hi h0
  have em:U6 (Jq (YJ ps seats)) seats=U6 ps seats:=by
   cases seats with
   | some s=>rfl
   | none=>show((Jq (YJ ps none)).map (·.2)).sum=_;rw[UG,Jch g none hs];rfl
  have hz:(fun j=>a (ps.length-j)) 0=0:=JhR g hi h0 (by omega)
  have X:=Jbd (JmP g (by omega) hi h0) hz
  show(stF (U6 (Jq (YJ ps seats)) seats) 0 (Kl (Jq (YJ ps seats)) (JZ (Jq (YJ ps seats))++[U6 (Jq (YJ ps seats)) seats]))).map VF=_;rw[em,e,X];refine Ga fun j=>?_
  rw[QB]
  by_cases hj:j<ps.length
  ·unfold Jq;rw[Qm,GK (by rw[GP];exact hj),GP,QB,Qm,GK hj]
   cases ps[ps.length-1-j]? with
   | none=>rfl
   | some p=>simp only[Kz,YY];congr 1;rw[Rl];constructor <;> omega
  ·have h1:(Jq (ps.mapIdx fun i p=>((p.1+t i,p.2-t i+s i):Pr)))[j]?=none:=by rw[Lm,J4,GP];omega
   have h2:(Jq ps)[j]?=none:=by rw[Lm,J4];omega
   rw[h1,h2];rfl
theorem Jk4{α β:Type}(f:α->β)(xs:List α):(xs.map f).reverse=xs.reverse.map f:=GS.symm
theorem Zd(ps:List Pr)(h:ps.length<=1000):JJ [.sh (.lst (ps.map prE))]=some (.own ((Jq ps).map prE)):=by
 have hl:=J4 ps;unfold JJ;walk_at "ev";rw[Jk4,Yi (g:=fun p=>prE (YY p))]
 ·walk_at "ev";have e:ps.reverse.map (fun p=>prE (YY p))=(Jq ps).map prE:=by unfold Jq;rw[Qw];rfl
  rw[e]
 ·intro p _;simp only[prE];walk_at "ev";rfl
noncomputable def Jdu(xs:List Int):List Pr:=(Um (fM xs)).map fun x=>(x,(xs.count x:Int))
theorem JiP(xs:List Int):(Um (fM xs)).Pairwise (·<·):=by
 have a:=Jc4 (fM xs)
 have b:(Um (fM xs)).Pairwise (·≠·):=(Y1 (fM xs)).nodup_iff.mpr (Jcc xs);exact(List.pairwise_and_iff.mpr ⟨a,b⟩).imp fun h=>by omega
theorem U0(xs:List Int)(x:Int):x∈Um (fM xs)↔x∈xs:=by rw[(Y1 (fM xs)).mem_iff,JmD]
theorem Jjt{xs:List Int}(h:∀x∈xs,0<x):JbP 0 (Jdu xs):=by
 unfold Jdu;refine Jdo _ 0 ?_ (fun p hp=>?_) (fun p hp=>?_)
 ·rw[Qw];exact(Rj _).symm▸JiP xs
 ·obtain⟨x,hx,rfl⟩:=Qu.mp hp;exact h x ((U0 xs x).mp hx)
 ·obtain⟨x,hx,rfl⟩:=Qu.mp hp;have:=Kt.mpr ((U0 xs x).mp hx);show(1:Int)<=(xs.count x:Int);omega
theorem Ji7(f:Int->Int)(n:Int):∀(l:List Int),l.Nodup->wt n (l.map fun x=>(x,f x))=if n∈l then f n else 0
 | [],_=>rfl
 | x::l,nd=>by
  obtain⟨h1,h2⟩:=Gk.mp nd;have ih:=Ji7 f n l h2;rw[Qd,wt,ih]
  by_cases c:x=n
  ·subst c;simp[h1]
  ·have c':¬n=x:=fun e=>c e.symm
   simp[c,c']
theorem Jmi(xs:List Int)(n:Int):wt n (Jdu xs)=(xs.count n:Int):=by
 unfold Jdu;rw[Ji7 (fun x=>(xs.count x:Int)) n _ ((Y1 (fM xs)).nodup_iff.mpr (Jcc xs))];split
 ·rfl
 ·rename_i c;rw[U0] at c;rw[Lx.mpr c];rfl
theorem WA(x:Int):∀(r:List Pr) (cur:Pr),0<=cur.2->(∀p∈r,0<=p.2)->JV (clF cur r) x=JV (cur::r) x
 | [],cur,_,_=>rfl
 | p::r,cur,h0,h=>by
  have hp:=h p Qf
  have hr:=fun q hq=>h q (Qc p hq)
  rw[clF]
  by_cases c:cur.1+cur.2=p.1
  ·rw[if_pos c,WA x r _ (by dsimp only;omega) hr,Ju,Ju,Ju,<- Lp];congr 1;rw[GQ];simp only[K4,QL,decide_eq_true_eq];omega
  ·rw[if_neg c]
   by_cases c2:0<p.2
   ·rw[if_pos c2,Ju,WA x r p hp hr,Ju cur]
   ·rw[if_neg c2,WA x r cur h0 hr,Ju,Ju,Ju];rw[show(decide (p.1<=x) && decide (x<p.1+p.2))=false from by
     rw[K7]
     by_cases z:p.1<=x
     ·exact .inr (decide_eq_false (by omega))
     ·exact .inl (decide_eq_false z),G1]
theorem JeZ(x:Int):∀(ps:List Pr),(∀p∈ps,0<=p.2)->JV (clN ps) x=JV ps x
 | [],_=>rfl
 | p::r,h=>by
  have hp:=h p Qf
  have hr:=fun q hq=>h q (Qc p hq)
  rw[clN]
  by_cases c:0<p.2
  ·rw[if_pos c,WA x r p hp hr]
  ·rw[if_neg c,JeZ x r hr,Ju,show(decide (p.1<=x) && decide (x<p.1+p.2))=false from by
       rw[K7]
       by_cases z:p.1<=x
       ·exact .inr (decide_eq_false (by omega))
       ·exact .inl (decide_eq_false z),G1]
theorem JhH{ps:List Pr}(g:Good ps)(x:Int):JV (thF ps) x=true↔∃(i:Nat) (p:Pr),ps[i]?=some p/\p.1-2*(i:Int)<=x/\x<p.1-2*(i:Int)+p.2-1:=by
 unfold thF;rw[JeZ,has_iff]
 ·constructor
  ·rintro⟨p,hp,h1,h2⟩;obtain⟨i,hi⟩:=Gr.mp hp;obtain⟨q,hq,rfl⟩:=U7 hi;exact⟨i,q,hq,by dsimp only at h1;omega,by dsimp only at h2;omega⟩
  ·rintro⟨i,p,hp,h1,h2⟩;refine⟨(p.1+2*(-1)*(i:Int),p.2+-1),Gr.mpr ⟨i,?_⟩,by dsimp only;omega,by dsimp only;omega⟩;unfold byF;rw[QB,hp];rfl
 ·intro p hp;obtain⟨i,hi⟩:=Gr.mp hp;obtain⟨q,hq,rfl⟩:=U7 hi;have:=g.one i q hq;dsimp only;omega
theorem Jj7(ps:List Pr)(x:Int):JV (Jq ps) x=JV ps (-x):=by
 rw[GQ,has_iff,has_iff];unfold Jq;constructor
 ·rintro⟨q,hq,h1,h2⟩;obtain⟨p,hp,rfl⟩:=Qu.mp hq;unfold YY at h1 h2;exact⟨p,G8.mp hp,by dsimp only at h2;omega,by dsimp only at h1;omega⟩
 ·rintro⟨p,hp,h1,h2⟩;refine⟨YY p,Qu.mpr ⟨p,G8.mpr hp,rfl⟩,?_,?_⟩ <;> (unfold YY;dsimp only;omega)
theorem Jfe{ps:List Pr}{i:Nat}{p:Pr}(e:ps[i]?=some p):(Jq ps)[ps.length-1-i]?=some (YY p):=by
 have hi:i<ps.length:=by
  rcases LF i ps.length with z|z
  ·exact z
  ·rw[Gj z] at e;cases e
 unfold Jq;rw[Qm,GK (by omega),show ps.length-1-(ps.length-1-i)=i by omega,e];rfl
theorem Jel{ps:List Pr}(g:Good ps):thF (Jq ps)=Jq (mvP (1-2*(ps.length:Int)) (thF ps)):=by
 refine Jbe (Js (JR g)) (JR (Jbp (Js g))) fun x=>?_
 have gm:=JR g;rw[Jj7,show -x=(-x+(1-2*(ps.length:Int)))-(1-2*(ps.length:Int)) by omega,JdU,GQ,JhH gm,JhH g];constructor
 ·rintro⟨j,q,hq,h1,h2⟩;obtain⟨p,hp,rfl,hj⟩:=UF hq;refine⟨_,p,hp,?_,?_⟩ <;> (unfold YY at h1 h2;dsimp only at h1 h2;omega)
 ·rintro⟨i,p,hp,h1,h2⟩
  have hi:i<ps.length:=by
   rcases LF i ps.length with z|z
   ·exact z
   ·rw[Gj z] at hp;cases hp
  refine⟨_,_,Jfe hp,?_,?_⟩ <;> (unfold YY;dsimp only;omega)
theorem JfS:∀(n:Nat) {ps:List Pr} (d:Int),Good ps->∃d',thN n (Jq (mvP d ps))=Jq (mvP d' (thN n ps))
 | 0,ps,d,_=>⟨d,rfl⟩
 | n+1,ps,d,g=>by
  have e:=Jel (Jbp (d:=d) g);rw[Jfi] at e;obtain⟨d',ih⟩:=JfS n (1-2*((mvP d ps).length:Int)+d) (Js g);refine⟨d',?_⟩
  show thN n (thF (Jq (mvP d ps)))=Jq (mvP d' (thN n (thF ps)));rw[e,<- ih];congr 2;unfold mvP;rw[Qw];refine QE fun p _=>?_
  show((p.1-d-(1-2*((List.map (fun p:Pr=>(p.1-d,p.2)) ps).length:Int)),p.2):Pr)=_;congr 1;omega
theorem Jfj(ps:List Pr):mvP 0 ps=ps:=by unfold mvP;refine(QE fun p _=>?_).trans (Rj ps);show((p.1-0,p.2):Pr)=p;rw[RA]
theorem Jh8{ps:List Pr}(g:Good ps)(n:Nat):(thN n (Jq ps)).length=(thN n ps).length:=by obtain⟨d',e⟩:=JfS n 0 g;rw[Jfj] at e;rw[e,J4,Jh9]
theorem ZX(s v w:Int):∀a:List Pr,J7 (J7 a s v) s w=J7 a s (v+w)
 | []=>by simp[J7]
 | p::r=>by
  rw[J7,J7]
  by_cases c:p.1=s
  ·rw[if_pos c,if_pos c,J7,if_pos c];dsimp only;rw[Lq]
  ·rw[if_neg c,if_neg c,J7,if_neg c,ZX s v w r]
theorem JbK(K:Int):∀(L:List Tr) (a:List Pr),(∀t∈L,t.1=K)->L≠[]->J5 L a=J7 a K (YH L)
 | [],_,_,h=>absurd rfl h
 | [t],a,h,_=>by have:=h t Qf;simp[J5,YH,this]
 | t::u::L,a,h,_=>by
  have:=h t Qf
  have ih:=JbK K (u::L) (J7 a K t.2.2) (fun x hx=>h x (Qc _ hx)) (by simp)
  show J5 (u::L) (J7 a t.1 t.2.2)=_;rw[this,ih,ZX];congr 1
theorem lmp_nz{qs:List Pr}{k:Int}:Jn k qs=[]↔YH (Jn k qs)=0:=by
 constructor
 ·intro h;rw[h];rfl
 ·intro h
  have:=JdV (tb:=Jn k qs) fun t ht=>by unfold Jn at ht;obtain⟨u,hu,rfl⟩:=Qu.mp ht;have:=of_decide_eq_true (K2.mp hu).2;dsimp only;omega
  exact QS (by omega)
theorem JaI:∀(n:Nat) (k:Int) {ps qs:List Pr} (a:List Pr),Good ps->Good qs->(∀i,(thN i ps).length=(thN i qs).length)->J5 (tbN n k ps) a=J5 (tbN n k qs) a
 | 0,_,_,_,_,_,_,_=>rfl
 | n+1,k,ps,qs,a,gp,gq,h=>by
  have e:∀{qs:List Pr},J5 (tbN (n+1) k qs) a=J5 (tbN n (k+1) (thF qs)) (J5 (Jn (k+1) qs) a):=fun {qs}=>by unfold J5;rw[tbN,Mt]
  rw[e,e];have h0:=h 0;have h1:=h 1
  have eN:YH (Jn (k+1) ps)=YH (Jn (k+1) qs):=by rw[UX gp,UX gq];have h0':ps.length=qs.length:=h0;have h1':(thF ps).length=(thF qs).length:=h1;omega
  have eA:J5 (Jn (k+1) ps) a=J5 (Jn (k+1) qs) a:=by
   by_cases c:Jn (k+1) ps=[]
   ·have c':Jn (k+1) qs=[]:=lmp_nz.mpr (by rw[<- eN];exact lmp_nz.mp c);rw[c,c']
   ·have c':Jn (k+1) qs≠[]:=fun z=>c (lmp_nz.mpr (by rw[eN];exact lmp_nz.mp z))
    rw[JbK (k+1) _ _ (fun t ht=>JN ht) c,JbK (k+1) _ _ (fun t ht=>JN ht) c',eN]
  rw[eA];exact JaI n (k+1) _ (Js gp) (Js gq) fun i=>h (i+1)
noncomputable def lcF(seats:Option Int):Int->Int->List Pr->Int
 | _,c,[]=>c
 | ins,c,[p]=>c+tkF seats p.2 ins
 | ins,c,p::q::r=>lcF seats (ins+tkF seats p.2 ins-min (ins+tkF seats p.2 ins) (q.1-p.1-p.2)) (c+tkF seats p.2 ins) (q::r)
theorem Jcx(ps:List Pr)(seats:Option Int)(h:ps.length<=1000):Ye [.sh (.lst (ps.map prE)),.sh (Zu seats)]=some (.sh (.tup [.lst ((goF seats 0 ps).map prE),.int (lcF seats 0 0 ps)])):=by
 unfold Ye;walk_at "ev";rw[JpU,GY];refine Vy (fun i E=>∃acc ins cnt j5 j6 j7 j8 j9,E=[.sh (.lst (ps.map prE)),.sh (Zu seats),.own (acc.map prE),.sh (.int ins),.sh (.int cnt),j5,j6,j7,j8,j9]/\acc++goF seats ins (ps.drop i)=goF seats 0 ps/\lcF seats ins cnt (ps.drop i)=lcF seats 0 0 ps/\acc.length=i) ⟨[],0,0,.no,.no,.no,.no,.no,rfl,rfl,rfl,rfl⟩ ?_ ?_
 ·rintro i E hi ⟨acc,ins,cnt,j5,j6,j7,j8,j9,rfl,e,ec,hl⟩;have hi':i<ps.length:=by simpa using hi
  obtain⟨p,r,hd⟩:∃p r,ps.drop i=p::r:=⟨ps[i],ps.drop (i+1),Ll hi'⟩
  obtain⟨hp,hr⟩:=Jb6 hd;have hg:(ps.map prE)[i]?=some (prE p):=by rw[Qm,hp];rfl
  rw[hd] at e ec;have hlen:(ps.drop i).length=ps.length-i:=MD;rw[hd,Qo] at hlen;walk_at "ev";rw[YR hg];simp only[prE];walk_at "ev"
  cases r with
  | nil =>
   have c:¬((i:Int)+1<(ps.length:Int)):=by simp at hlen;omega
   cases seats with
   | none =>
    simp only[Zu];walk_at "ev";simp only[c];walk_at "ev";refine⟨acc++[(p.1+p.2,p.2-p.2+(ins+p.2))],_,_,_,_,_,_,_,by simp[prE];exact⟨rfl,rfl,rfl,rfl,rfl,rfl,rfl⟩,?_,?_,by simp[hl]⟩
    ·rw[hr,goF,GR];exact e
    ·rw[hr];exact ec
   | some s =>
    simp only[Zu];walk_at "ev";simp only[c];walk_at "ev";refine⟨acc++[(p.1+min p.2 (s-ins),p.2-min p.2 (s-ins)+(ins+min p.2 (s-ins)))],_,_,_,_,_,_,_,by simp[prE];exact⟨rfl,rfl,rfl,rfl,rfl,rfl,rfl⟩,?_,?_,by simp[hl]⟩
    ·rw[hr,goF,GR];exact e
    ·rw[hr];exact ec
  | cons q r =>
   have c:(i:Int)+1<(ps.length:Int):=by simp at hlen;omega
   obtain⟨hq,_⟩:=Jb6 hr;have hgq:(ps.map prE)[i+1]?=some (prE q):=by rw[Qm,hq];rfl
   have ci:(i:Int)+1=((i+1:Nat):Int):=by omega
   cases seats with
   | none =>
    simp only[Zu];walk_at "ev";simp only[c];walk_at "ev";rw[ci,YR hgq];walk_at "ev";rw[Yw];walk_at "ev";refine⟨acc++[(p.1+p.2,p.2-p.2+min (ins+p.2) (q.1-p.1-p.2))],_,_,_,_,_,_,_,by simp[prE];exact⟨rfl,rfl,rfl,rfl,rfl,rfl,rfl⟩,?_,?_,by simp[hl]⟩
    ·rw[hr,GM];exact e
    ·rw[hr];exact ec
   | some s =>
    simp only[Zu];walk_at "ev";simp only[c];walk_at "ev";rw[ci,YR hgq];walk_at "ev";rw[Yw];walk_at "ev";refine⟨acc++[(p.1+min p.2 (s-ins),p.2-min p.2 (s-ins)+min (ins+min p.2 (s-ins)) (q.1-p.1-p.2))],_,_,_,_,_,_,_,by simp[prE];exact⟨rfl,rfl,rfl,rfl,rfl,rfl,rfl⟩,?_,?_,by simp[hl]⟩
    ·rw[hr,GM];exact e
    ·rw[hr];exact ec
 ·rintro E' ⟨acc,ins,cnt,j5,j6,j7,j8,j9,rfl,e,ec,hl⟩;have:ps.drop ((ps.length:Int)).toNat=[]:=by simp
  rw[this,goF,GR] at e;rw[this,lcF] at ec;subst e ec;walk_at "ev"

noncomputable def VM(ps:List Pr):List Int:=ps.map fun p=>p.1
theorem JaQ(x:Int):∀(r:List Pr) (cur:Pr),(∀p∈r,0<=p.2)->(Jl (cur::r)).count x+(VM (clF cur r)).count x=(Jl (clF cur r)).count x+(VM (cur::r)).count x
 | [],cur,_=>rfl
 | p::r,cur,h=>by
  have hp:=h p Qf
  have hr:=fun q hq=>h q (Qc p hq)
  rw[clF]
  by_cases c:cur.1+cur.2=p.1
  ·rw[if_pos c];have ih:=JaQ x r (cur.1,cur.2+p.2) hr;simp only[Jl,VM,Qd,QN] at ih ⊢;rw[show cur.1+(cur.2+p.2)=p.1+p.2 by omega] at ih;rw[c];omega
  ·rw[if_neg c]
   by_cases c2:0<p.2
   ·rw[if_pos c2];have ih:=JaQ x r p hr;simp only[Jl,VM,Qd,QN] at ih ⊢;omega
   ·rw[if_neg c2];have ih:=JaQ x r cur hr;simp only[Jl,VM,Qd,QN] at ih ⊢;rw[show p.1+p.2=p.1 by omega];omega
theorem Jhb(x:Int):∀(r:List Pr),(∀p∈r,0<=p.2)->(Jl r).count x+(VM (clN r)).count x=(Jl (clN r)).count x+(VM r).count x
 | [],_=>rfl
 | p::r,h=>by
  have hp:=h p Qf
  have hr:=fun q hq=>h q (Qc p hq)
  rw[clN]
  by_cases c:0<p.2
  ·rw[if_pos c];exact JaQ x r p hr
  ·rw[if_neg c];have ih:=Jhb x r hr;simp only[Jl,VM,Qd,QN] at ih ⊢;rw[show p.1+p.2=p.1 by omega];omega
theorem Jah(c x:Int):∀(l:List Int),((l.map fun y=>c-y).reverse).count x=l.count (c-x):=fun l=>by
 rw[List.count_reverse]
 induction l with
 | nil=>rfl
 | cons y l ih =>
  rw[Qd,QN,QN,ih]
  by_cases h:y=c-x
  ·have h':c-(c-x)=x:=by omega
   rw[h,h'];simp
  ·have h':¬c-y=x:=by omega
   simp[h,h']
theorem Jot(ps:List Pr):spF (Jq ps)=((VM (byF (-1) ps)).map fun y=>2-2*(ps.length:Int)-y).reverse:=by
 refine Ga fun j=>?_
 have hl:=J4 ps
 by_cases h:j<ps.length
 ·have hi:ps.length-1-j<ps.length:=by omega
  have e:=Jfe (QM hi);rw[show ps.length-1-(ps.length-1-j)=j by omega] at e;unfold spF VM byF;rw[Qm,KF,e,GK (by simpa using h),Qm,Qm,QB];simp only[Qv,GP,QM hi,Kz,YY,Option.some.injEq];omega
 ·rw[Gj (by unfold spF;simp;omega),Gj (by simp[VM,Ub];omega)]
theorem Jhr(d:Int)(ps:List Pr):Jl (Jq (mvP d ps))=((VM ps).map fun y=>1+d-y).reverse:=by
 unfold Jl Jq mvP VM;rw[Qw,Qw,<- GS,<- GS,Qw];refine QE fun p _=>?_
 simp only[Function.comp,YY];omega
theorem JoZ{ps:List Pr}(g:Good ps):∀p∈byF (-1) ps,0<=p.2:=fun p hp=>by obtain⟨i,hi⟩:=Gr.mp hp;obtain⟨q,hq,rfl⟩:=U7 hi;have:=g.one i q hq;dsimp only;omega
theorem Jm2{ps:List Pr}(g:Good ps)(k x:Int):lk x (JI (Jn k (Jq ps)))=lk (2-2*(ps.length:Int)-x) (JI (Jn k ps)):=by
 have e1:=V0 (JR g) k x
 have e2:=V0 g k (2-2*(ps.length:Int)-x)
 have e3:=Jhb (2-2*(ps.length:Int)-x) (byF (-1) ps) (JoZ g);rw[Jel g,Jhr,show(1+(1-2*(ps.length:Int)))=2-2*(ps.length:Int) by omega,Jah,Jot,Jah] at e1;rw[JiN,YE] at e2
 have e4:thF ps=clN (byF (-1) ps):=rfl;rw[<- e4] at e3
 have e5:Jl (byF (-1) ps)=(byF (-1) ps).map fun p=>p.1+p.2:=rfl
 rw[e5] at e3;omega
theorem Jm3(c x:Int):∀(a:List Pr),(a.map (·.1)).Nodup->lk x ((a.map fun p=>((c-p.1,p.2):Pr)).reverse)=lk (c-x) a:=fun a nd=>by
 have key:∀(a b:List Pr),(∀p,p∈a↔p∈b)->(a.map (·.1)).Nodup->(b.map (·.1)).Nodup->∀y,lk y a=lk y b:=fun a b h na nb y=>by
  have mem:∀(a:List Pr),(a.map (·.1)).Nodup->∀p∈a,lk p.1 a=p.2:=fun a=>by
   induction a with
   | nil=>intro _ p hp;cases hp
   | cons q a ih =>
    intro nd p hp;rw[Qd,Gk] at nd;rw[lk];rcases Qj.mp hp with rfl|hp
    ·rw[if_pos rfl]
    ·rw[if_neg fun z=>nd.1 (by rw[z];exact Gc hp)];exact ih nd.2 p hp
  by_cases c:y∈a.map (·.1)
  ·obtain⟨p,hp,rfl⟩:=Qu.mp c;rw[mem a na p hp,mem b nb p ((h p).mp hp)]
  ·have c':y∉b.map (·.1):=fun z=>c (by obtain⟨p,hp,rfl⟩:=Qu.mp z;exact Gc ((h p).mpr hp))
   rw[WD c,WD c']
 have nd2:((a.map fun p=>((c-p.1,p.2):Pr)).map (·.1)).Nodup:=by rw[Qw];refine Kg.mpr ((Kg.mp nd).imp fun {x y} h z=>h ?_);have z:c-x.1=c-y.1:=z;omega
 rw[key _ (a.map fun p=>((c-p.1,p.2):Pr)) (fun p=>G8) (by rw[GS];exact(List.reverse_perm _).nodup_iff.mpr nd2) nd2]
 clear key nd nd2
 induction a with
 | nil=>rfl
 | cons p a ih =>
  rw[Qd,lk,lk,ih]
  by_cases h:c-p.1=x
  ·rw[if_pos h,if_pos (by omega)]
  ·rw[if_neg h,if_neg (by omega)]
theorem Jkk{ps:List Pr}(g:Good ps)(k:Int):Jn k (Jq ps)=((Jn k ps).map fun t=>(t.1,2-2*(ps.length:Int)-t.2.1,t.2.2)).reverse:=by
 have pw:=Y6 g k
 have nd:((JI (Jn k ps)).map (·.1)).Nodup:=by rw[Y7];exact pw.imp fun {a b} h=>by omega
 have pr:JI (Jn k (Jq ps))=((JI (Jn k ps)).map fun p=>((2-2*(ps.length:Int)-p.1,p.2):Pr)).reverse:=by
  refine JdO (by rw[Y7];exact Y6 (JR g) k) ?_ (fun p hp=>by
   obtain⟨u,hu,e⟩:=Qu.mp hp;rw[<- e];exact Yx hu) (fun p hp=>by
   obtain⟨q,hq,e⟩:=Qu.mp (G8.mp hp);obtain⟨u,hu,e'⟩:=Qu.mp hq;rw[<- e,<- e'];exact Yx hu) fun x=>?_
  ·rw[GS,List.pairwise_reverse,Qw,Kg];have pw2:=pw;rw[<- Y7,Kg] at pw2;refine pw2.imp fun {x y} h=>?_
   show 2-2*(ps.length:Int)-y.1<2-2*(ps.length:Int)-x.1;omega
  ·rw[Jm3 _ _ _ nd,Jm2 g]
 have back:∀l:List Tr,(∀t∈l,t.1=k)->l=(JI l).map fun p=>(k,p.1,p.2):=fun l h=>by
  unfold JI;rw[Qw];refine(Ma l).symm.trans (QE fun t ht=>?_);show t=(k,t.2.1,t.2.2)
  rw[<- h t ht]
 rw[back (Jn k (Jq ps)) fun t ht=>JN ht,pr]
 conv=>rhs;rw[back (Jn k ps) fun t ht=>JN ht]
 rw[Qw,GS,Qw];rfl
noncomputable def erL:Int->List Pr->List Pr
 | _,[]=>[]
 | c,q::r=>(q.1,q.2+2*q.1*c)::erL (c+1) r
theorem Jht:∀(a b:List Pr) (c:Int),erL c (a++b)=erL c a++erL (c+(a.length:Int)) b
 | [],b,c=>by simp[erL]
 | q::a,b,c=>by rw[KW,erL,erL,Jht a b (c+1),KW,Qo];congr 3;omega
theorem Jhu:∀(a:List Pr) (c:Int),(erL c a).length=a.length
 | [],_=>rfl
 | q::a,c=>by rw[erL,Qo,Qo,Jhu a]
theorem Jbm:∀(a b:List Pr) (c:Int),lnF c (a++b)=lnF c a++lnF (c+(a.map (·.1)).sum) b
 | [],b,c=>by simp[lnF]
 | q::a,b,c=>by rw[KW,lnF,lnF,Jbm a b (c+q.1),KW,Qd,QA,Lq]
theorem Jaj(s:Int):∀(a b:List Pr),(∀p∈a,p.1=s)->(∀q∈b,s<q.1)->Yf (a++b)=Yf b++a
 | [],b,_,_=>by simp
 | p::a,b,ha,hb=>by
  have ih:=Jaj s a b (fun q hq=>ha q (Qc _ hq)) hb
  show VV p (Yf (a++b))=_;rw[ih]
  have hp:=ha p Qf
  have ins:∀(l:List Pr),(∀q∈l,s<q.1)->VV p (l++a)=l++p::a:=fun l=>by
   induction l with
   | nil =>
    intro _
    cases a with
    | nil=>rfl
    | cons q a =>
     have hq:=ha q (by simp)
     show(if p.1<q.1 then _ else _)=_;rw[if_neg (by omega)];rfl
   | cons q l ih=>intro h;have hq:=h q Qf;show(if p.1<q.1 then q::VV p (l++a) else _)=_;rw[if_pos (by omega),ih fun r hr=>h r (Qc _ hr)];rfl
  refine ins _ fun q hq=>hb q ?_
  have pm:∀l:List Pr,∀q∈Yf l,q∈l:=fun l=>by
   induction l with
   | nil=>intro q hq;exact hq
   | cons p l ih =>
    intro q hq
    have im:∀(m:List Pr),q∈VV p m->q=p\/q∈m:=fun m=>by
     induction m with
     | nil=>intro h;exact .inl (Gz.mp h)
     | cons r m ih =>
      intro h;rw[VV] at h;split at h
      ·rcases Qj.mp h with rfl|h
       ·exact .inr Qf
       ·exact(ih h).imp id (Qc _)
      ·exact(Qj.mp h)
    rcases im _ hq with rfl|h
    ·exact Qf
    ·exact Qc _ (ih q h)
  exact pm b q hq
theorem UV:∀(l:List Pr),(Yf l).length=l.length
 | []=>rfl
 | p::l=>by
  have im:∀(m:List Pr),(VV p m).length=m.length+1:=fun m=>by
   induction m with
   | nil=>rfl
   | cons r m ih =>
    rw[VV];split
    ·rw[Qo,ih,Qo]
    ·rfl
  show(VV p (Yf l)).length=_;rw[im,UV l,Qo]
theorem JeY(s β γ a:Int):∀(xs:List Int) (c:Int),β+2*a+2*(s*((xs.length:Int)-1))=γ-s-2*(s*c) ->
 lnF a ((xs.map fun x=>((s,β-x):Pr)).reverse)=((erL c (xs.map fun x=>((s,x):Pr))).map fun q=>((q.1,γ-q.1-q.2):Pr)).reverse
 | [],_,_=>rfl
 | x::xs,c,h=>by
  rw[Qo,show((xs.length+1:Nat):Int)-1=(xs.length:Int) by omega] at h;have e1:s*((xs.length:Int)-1)=s*(xs.length:Int)-s:=by rw[Int.mul_sub,Ly]
  have e2:s*(c+1)=s*c+s:=by rw[KZ,Ly]
  have ih:=JeY s β γ a xs (c+1) (by rw[e1,e2];omega)
  have sm:(((xs.map fun x=>((s,β-x):Pr)).reverse).map (·.1)).sum=s*(xs.length:Int):=by
   rw[GS,Qw]
   have:∀l:List Int,(((l.map ((fun p:Pr=>p.1) ∘ fun x=>((s,β-x):Pr))).reverse).sum:Int)=s*(l.length:Int):=fun l=>by
    induction l with
    | nil=>simp
    | cons y l ih=>rw[Qd,GF,Ky,ih,Qo,show((l.length+1:Nat):Int)=(l.length:Int)+1 by omega,KZ,Ly];simp
   exact this xs
  rw[Qd,GF,Jbm,ih,sm,Qd,erL,Qd,GF];congr 1;show [((s,β-x+2*(a+s*(xs.length:Int))):Pr)]=[(s,γ-s-(x+2*s*c))]
  rw[Int.mul_assoc];congr 2;omega
theorem Jl7(tb:List Tr):apT tb.reverse=(apT tb).reverse:=by
 unfold apT
 induction tb with
 | nil=>rfl
 | cons t tb ih=>rw[GF,List.flatMap_append,ih];simp
theorem Jpm(d e:Int)(ps:List Pr):mvP d (mvP e ps)=mvP (d+e) ps:=by
 unfold mvP;rw[Qw];refine QE fun p _=>?_
 show((p.1-e-d,p.2):Pr)=(p.1-(d+e),p.2)
 congr 1;omega
theorem Jjh{ps:List Pr}{n:Nat}{k:Int}(hk:0<=k)(g:Good ps)(hN:thN n ps=[]):(apT (tbN n k ps)).length=ps.length:=by
 have l1:=WN (tbN n k ps) fun t ht=>(Jej n k ps hk t ht).2
 have ns:=Wg n k g hN;omega
theorem Jay:∀(n:Nat) (k d a:Int) (ps:List Pr),0<=k->Good ps->thN n ps=[] ->
 lnF a (apT (tbN n k (Jq (mvP d ps))))=((erL 0 (Yf (apT (tbN n k ps)))).map fun q=>((q.1,1+d+2*a+2*(k*(ps.length:Int))-k-q.1-q.2):Pr)).reverse
 | 0,k,d,a,ps,_,_,_=>rfl
 | n+1,k,d,a,ps,hk,g,hN=>by
  have gm:=Jbp (d:=d) g
  have gt:=Js g
  have hN':thN n (thF ps)=[]:=hN
  have ml:=Jh9 d ps
  have l1:Jn (k+1) (Jq (mvP d ps))=((Jn (k+1) ps).map fun t=>(t.1,(2-2*(ps.length:Int)+d)-t.2.1,t.2.2)).reverse:=by
   rw[Jkk gm,Jia,Qw,ml];congr 1;refine QE fun t _=>?_
   show(t.1,2-2*(ps.length:Int)-(t.2.1-d),t.2.2)=_;congr 2;omega
  have t1:thF (Jq (mvP d ps))=Jq (mvP (1-2*(ps.length:Int)+d) (thF ps)):=by rw[Jel gm,Jfi,ml,Jpm]
  have a1:apT (Jn (k+1) ps)=(Ys (JI (Jn (k+1) ps))).map fun x=>((k+1,x):Pr):=Jdm (k+1) _ fun t ht=>JN ht
  have a2:apT ((Jn (k+1) ps).map fun t=>(t.1,(2-2*(ps.length:Int)+d)-t.2.1,t.2.2))=(Ys (JI (Jn (k+1) ps))).map fun x=>((k+1,(2-2*(ps.length:Int)+d)-x):Pr):=by
   have:∀l:List Tr,(∀t∈l,t.1=k+1)->apT (l.map fun t=>(t.1,(2-2*(ps.length:Int)+d)-t.2.1,t.2.2))=(Ys (JI l)).map fun x=>((k+1,(2-2*(ps.length:Int)+d)-x):Pr):=fun l=>by
    induction l with
    | nil=>intro _;rfl
    | cons t l ih =>
     intro h;have ih:=ih fun u hu=>h u (Qc _ hu)
     have ht:=h t Qf;unfold apT Ys JI at ih ⊢;rw[Qd,Gn,ih,Qd,Gn,QV,Ku,ht]
   exact this _ fun t ht=>JN ht
  have ms:((Ys (JI (Jn (k+1) ps))).length:Int)+((thF ps).length:Int)=(ps.length:Int):=by
   have e1:=WN (Jn (k+1) ps) fun t ht=>Yx ht
   rw[a1,Qv] at e1;have e2:=UX g (k+1);omega
  have hm:Yf (apT (tbN (n+1) k ps))=Yf (apT (tbN n (k+1) (thF ps)))++(Ys (JI (Jn (k+1) ps))).map fun x=>((k+1,x):Pr):=by
   rw[tbN,Jdl,a1];refine Jaj (k+1) _ _ (fun p hp=>?_) fun q hq=>?_
   ·obtain⟨x,_,rfl⟩:=Qu.mp hp;rfl
   ·obtain⟨t,ht,rfl⟩:=Uo hq;exact VD n (k+1) _ t ht
  have fl:(Yf (apT (tbN n (k+1) (thF ps)))).length=(thF ps).length:=by rw[UV,Jjh (by omega) gt hN']
  rw[hm,Jht,QV,List.reverse_append,tbN,Jdl,l1,Jl7,a2,Jbm,t1]
  generalize Ys (JI (Jn (k+1) ps))=xs at *
  have sm:((((xs.map fun x=>((k+1,(2-2*(ps.length:Int)+d)-x):Pr)).reverse).map (·.1)).sum:Int)=(k+1)*(xs.length:Int):=by
   have:∀l:List Int,((((l.map fun x=>((k+1,(2-2*(ps.length:Int)+d)-x):Pr)).reverse).map (·.1)).sum:Int)=(k+1)*(l.length:Int):=fun l=>by
    induction l with
    | nil=>simp
    | cons y l ih=>rw[Qd,GF,QV,Ky,ih,Qo,show((l.length+1:Nat):Int)=(l.length:Int)+1 by omega,KZ,Ly];simp
   exact this xs
  rw[sm,Jay n (k+1) (1-2*(ps.length:Int)+d) (a+(k+1)*(xs.length:Int)) (thF ps) (by omega) gt hN',fl,Li];have p1:k*(ps.length:Int)=k*(xs.length:Int)+k*((thF ps).length:Int):=by rw[<- ms,KZ]
  have p2:(k+1)*(xs.length:Int)=k*(xs.length:Int)+(xs.length:Int):=by rw[KE,LW]
  have p3:(k+1)*((thF ps).length:Int)=k*((thF ps).length:Int)+((thF ps).length:Int):=by rw[KE,LW]
  have p4:(k+1)*((xs.length:Int)-1)=k*(xs.length:Int)+(xs.length:Int)-k-1:=by rw[Int.mul_sub,Ly,p2];omega
  congr 1
  ·refine JeY (k+1) (2-2*(ps.length:Int)+d) (1+d+2*a+2*(k*(ps.length:Int))-k) a xs _ ?_;rw[p1,p3,p4];omega
  ·congr 1;refine QE fun q _=>?_
   congr 1;rw[p1,p2,p3];omega
noncomputable def muP(q:Pr):Pr:=(q.1,1-q.1-q.2)
noncomputable def evL(x:Pr×Pr):Int:=(x.2.2-x.1.2-x.1.1-x.2.1) / (x.1.1-x.2.1)
theorem Jfr(q r:Pr):∀(l:List Pr),prL (l++[q,r])=prL (l++[q])++(if q.1≠r.1 then [(q,r)] else [])
 | []=>by show(if q.1≠r.1 then(q,r)::prL [r] else prL [r])=_;split <;> rfl
 | [p]=>by
  show(if p.1≠q.1 then(p,q)::prL [q,r] else prL [q,r])=(if p.1≠q.1 then(p,q)::prL [q] else prL [q])++_
  have e:prL [q,r]=(if q.1≠r.1 then [(q,r)] else []):=by show(if q.1≠r.1 then(q,r)::prL [r] else prL [r])=_;split <;> rfl
  rw[e];split <;> rfl
 | p::p'::l=>by
  have ih:=Jfr q r (p'::l)
  show(if p.1≠p'.1 then(p,p')::prL ((p'::l)++[q,r]) else prL ((p'::l)++[q,r]))=(if p.1≠p'.1 then(p,p')::prL ((p'::l)++[q]) else prL ((p'::l)++[q]))++_;rw[ih];split <;> rfl
theorem Jim:∀(l:List Pr),prL ((l.map muP).reverse)=((prL l).map fun x=>(muP x.2,muP x.1)).reverse
 | []=>rfl
 | [p]=>rfl
 | p::q::l=>by
  have ih:=Jim (q::l);rw[Qd,GF] at ih;rw[Qd,Qd,GF,GF,GM,List.singleton_append,Jfr,ih,prL]
  by_cases c:p.1=q.1
  ·rw[if_neg (by show ¬¬q.1=p.1;simp[c]),if_neg (by simp[c]),GR]
  ·rw[if_pos (by show ¬q.1=p.1;exact fun z=>c z.symm),if_pos c,Qd,GF]
theorem Jql(x:Pr×Pr):vlL (muP x.2,muP x.1)=- evL x:=by unfold vlL evL muP;dsimp only;rw[show 1-x.1.1-x.1.2-(1-x.2.1-x.2.2)-2*x.2.1=x.2.2-x.1.2-x.1.1-x.2.1 by omega]
noncomputable def ngO:D->D
 | .int m=>.int (-m)
 | d=>d
theorem Jnc(l:List Int):(match l.min? with|some m=>D.int m|none=>.non)=ngO (mxO ((l.map fun x=>- x).reverse)):=by
 unfold mxO
 cases hm:l.min? with
 | none=>rw[M4] at hm;subst hm;rfl
 | some m =>
  obtain⟨h1,h2⟩:=LM.mp hm
  have:((l.map fun x=>- x).reverse).max?=some (-m):=LN.mpr ⟨G8.mpr (Qu.mpr ⟨m,h1,rfl⟩),fun b hb=>by obtain⟨c,hc,rfl⟩:=Qu.mp (G8.mp hb);have:=h2 c hc;omega⟩
  rw[this];show D.int m=.int (- - m);rw[Int.neg_neg]
theorem Jeu:∀{l:List Pr},l.Pairwise Jnx->ZI l=true
 | [],_=>rfl
 | [p],_=>rfl
 | p::q::l,h=>by obtain⟨h1,h2⟩:=QO.mp h;rw[ZI,QL,Jeu h2];refine⟨decide_eq_true ?_,rfl⟩;rcases h1 q Qf with z|z <;> omega
theorem Jlj{ps:List Pr}(h1:ps.length<64)(h2:ZI ps=true):Ja4 [.own (ps.map prE)]=some (.own ((Yf ps).map prE)):=by show((prs? (ps.map prE)).bind fun ps=>if ps.length<64/\ZI ps=true then some (Sl.own ((Yf ps).map prE)) else none)=_;rw[JbA,QZ,if_pos ⟨h1,h2⟩]
theorem Jhv:∀(l:List Pr) (i:Nat),(l.zipIdx i).map (fun x=>((x.1.1,x.1.2+2*x.1.1*(x.2:Int)):Pr))=erL (i:Int) l
 | [],_=>rfl
 | q::l,i=>by rw[KQ,Qd,Jhv l (i+1),erL];rfl
theorem JjG(l:List Pr):l.zipIdx.map (fun x=>prE (x.1.1,x.1.2+2*x.1.1*(x.2:Int)))=(erL 0 l).map prE:=by have e:=Jhv l 0;rw[show((0:Nat):Int)=0 from rfl] at e;rw[<- e,Qw];rfl
theorem Jko(ps:List Pr)(N:Nat)(g:Good ps)(hN:thN N ps=[]):lnF 0 (apT (tbN N 0 (Jq ps)))=((erL 0 (Yf (apT (tbN N 0 ps)))).map muP).reverse:=by
 have e:=Jay N 0 0 0 ps (QD _) g hN;rw[Jfj] at e;rw[e];congr 1;refine QE fun q _=>?_
 unfold muP;congr 1;omega
theorem Jm8(ps:List Pr)(N:Nat)(g:Good ps)(h:ps.length<=30)(hN:thN N ps=[]):J8 [.sh (.row (ps.map prE))]=some (.own ((erL 0 (Yf (apT (tbN N 0 ps)))).map prE)):=by
 have al:=Vn g hN
 have asc:=Yp N 0 ps none g (QD _) (fun b e=>by cases e)
 have fl:=UV (apT (tbN N 0 ps));unfold J8;walk_at "ev";rw[Jfb ps N g h hN];walk_at "ev";rw[Jlj (by omega) (Jeu (VL asc))];walk_at "ev";rw[WU,WB,Yi (g:=fun x:Pr×Nat=>prE (x.1.1,x.1.2+2*x.1.1*(x.2:Int)))]
 ·rw[if_pos (by rw[Qv,List.length_zipIdx];omega)];walk_at "ev";rw[JjG]
 ·intro x hx
  have hx2:x.2<(Yf (apT (tbN N 0 ps))).length:=by have:=Mn hx;omega
  walk_at "ev";rw[Yw,Uc];walk_at "ev";rfl
theorem Jgw(ps:List Pr)(N:Nat)(g:Good ps)(h:ps.length<=30)(hN:thN N ps=[])(hb:∀q∈apT (tbN N 0 (Jq ps)),q.1<=10 ^ 100):YS [.sh (.row (ps.map prE))]=some (.sh (ngO (mxO ((prL (lnF 0 (apT (tbN N 0 (Jq ps))))).map vlL)))):=by
 have mf:=Jko ps N g hN
 have gm:=JR g
 have al:=Vn g hN
 have asc:=Yp N 0 (Jq ps) none gm (QD _) (fun b e=>by cases e)
 have ch:=Jb2 (apT (tbN N 0 (Jq ps))) 0 (VL asc)
 have sz:∀q∈lnF 0 (apT (tbN N 0 (Jq ps))),1<=q.1/\q.1<=10 ^ 100:=fun q hq=>by
  have hx1:q.1∈(lnF 0 (apT (tbN N 0 (Jq ps)))).map (·.1):=Gc hq;rw[V1] at hx1;obtain⟨y,hy,ey⟩:=Qu.mp hx1
  have h2:=hb y hy;obtain⟨t,ht,rfl⟩:=Uo hy
  have h1:=(JW asc t ht).1;rw[<- ey];exact⟨h1,h2⟩
 rw[mf] at ch sz ⊢;have fl:(erL 0 (Yf (apT (tbN N 0 ps)))).length<=30:=by rw[Jhu,UV];omega
 unfold YS;walk_at "ev";rw[Jm8 ps N g h hN]
 generalize erL 0 (Yf (apT (tbN N 0 ps)))=E at *
 walk_at "ev";rw[Jfc _ fl];walk_at "ev"
 have pl:(prL E).length<=30:=by rw[<- Jbz];refine Q5 (LO _ _) ?_;rw[G5];omega
 rw[if_pos (by omega),Yi (g:=fun x=>D.int (evL x))]
 ·walk_at "ev";rw[show(prL E).map (fun x=>D.int (evL x))=((prL E).map evL).map D.int by rw[Qw];rfl];walk_at "ev"
  have e1:(prL ((E.map muP).reverse)).map vlL=(((prL E).map evL).map fun x=>- x).reverse:=by rw[Jim,GS,Qw,Qw];congr 1;exact QE fun x _=>Jql x
  rw[e1,<- Jnc];cases ((prL E).map evL).min? <;> rfl
 ·intro x hx
  have hx':(muP x.2,muP x.1)∈prL ((E.map muP).reverse):=by rw[Jim];exact G8.mpr (Qu.mpr ⟨x,hx,rfl⟩)
  obtain⟨m1,m2,_⟩:=V7 _ _ hx';have c:x.2.1<x.1.1:=Jb3 _ ch _ hx';have s1:1<=x.2.1/\x.2.1<=10 ^ 100:=sz (muP x.2) m1;have s2:1<=x.1.1/\x.1.1<=10 ^ 100:=sz (muP x.1) m2
  have cc:0<x.1.1-x.2.1/\(x.1.1-x.2.1).natAbs<=10 ^ 200:=⟨by omega,by
   have:(10:Nat) ^ 100<=10 ^ 200:=by decide +kernel
   have:(10:Int) ^ 100=((10 ^ 100:Nat):Int):=by norm_cast
   omega⟩
  simp only[ppE];walk_at "ev";rw[Uc,Uc];walk_at "ev";rw[Yw,Yw];walk_at "ev";rfl
theorem Zc(ps:List Pr)(h:ps.length<=1000):J9 [.sh (.lst (ps.map prE))]=some (.sh (.bl (Wu ps))):=by
 unfold J9;walk_at "ev"
 have go:∀(rest pre:List Pr) (p:Pr) (j1 j2:Sl),ps=pre++p::rest ->
  ((Y9 (.nm 1) (Jr (Jt 2 (e2 J0 (e2 J0 (e2 fIx (e2 fIx (Jb 0) (Jb 1)) (eC (.int 0))) (e2 fIx (e2 fIx (Jb 0) (e2 J0 (Jb 1) (eC (.int 1)))) (eC (.int 0)))) (e2 fIx (e2 fIx (Jb 0) (e2 J0 (Jb 1) (eC (.int 1)))) (eC (.int 1)))))
 (xIf (tOr? (tB? (e2 fGt (e2 fIx (e2 fIx (Jb 0) (e2 J0 (Jb 1) (eC (.int 1)))) (eC (.int 1))) (e2 fIx (e2 fIx (Jb 0) (Jb 1)) (eC (.int 1))))) (tB? (e2 fLt (Jb 2) (e2 fIx (e2 fIx (Jb 0) (e2 J0 (Jb 1) (eC (.int 1)))) (eC (.int 1)))))) (YB (eC (.bl false))) UA)) ((Rb pre.length rest.length).map fun(i:Nat)=>D.int (1+(i:Int))) [.sh (.lst (ps.map prE)),j1,j2]).bind (ZU (YB (eC (.bl true))))).bind Jb7=some (.sh (.bl (Wu (p::rest)))):=by
  intro rest
  induction rest with
  | nil=>intro pre p j1 j2 e;rw[Ls,List.range'_zero,KC,Y9];walk_at "ev";rfl
  | cons q rest ih =>
   intro pre p j1 j2 e;have ihq:=ih (pre++[p]) q (.sh (.int (1+(pre.length:Int)))) (.sh (.int (q.1-p.1-p.2))) (by rw[e];simp);rw[QG,Gq] at ihq;have gp:(ps.map prE)[pre.length]?=some (prE p):=by rw[Qm,e];simp
   have gq:(ps.map prE)[pre.length+1]?=some (prE q):=by rw[Qm,e,QU (by omega)];simp
   have k1:(1:Int)+(pre.length:Int)=((pre.length+1:Nat):Int):=by omega
   have k2:(1:Int)+(pre.length:Int)-1=(pre.length:Int):=by omega
   rw[Qo,List.range'_succ,Qd,Y9];walk_at "ev";rw[k2];rw[k1] at ihq ⊢;rw[YR gq];walk_at "ev";rw[Yw];walk_at "ev";rw[YR gp];walk_at "ev";rw[Yw,Uc];walk_at "ev";rw[show((pre.length+1:Nat):Int)-1=(pre.length:Int) by omega,YR gp,YR gq];walk_at "ev";rw[Uc p,Uc q];walk_at "ev";rw[Wu]
   by_cases c1:q.2<p.2
   ·rw[decide_eq_true c1,show decide (p.2<=q.2)=false from decide_eq_false (by omega)];walk_at "ev";rfl
   ·rw[decide_eq_false c1,show decide (p.2<=q.2)=true from decide_eq_true (by omega)];walk_at "ev"
    by_cases c2:q.1-p.1-p.2<p.2
    ·rw[decide_eq_true c2,show decide (p.2<=q.1-(p.1+p.2))=false from decide_eq_false (by omega)];walk_at "ev";rfl
    ·rw[decide_eq_false c2,show decide (p.2<=q.1-(p.1+p.2))=true from decide_eq_true (by omega)];walk_at "ev";exact ihq
 cases ps with
 | nil=>walk_at "ev";rfl
 | cons p rest =>
  have g:=go rest [] p .no .no rfl;rw[show rng 1 (((p::rest).length:Int)-1).toNat=(Rb 0 rest.length).map (fun(i:Nat)=>D.int (1+(i:Int))) by rw[show(((p::rest).length:Int)-1).toNat=rest.length by rw[Qo];omega,<- Rc];rfl]
  exact g
theorem Jg6(n:Int):∀(tb:List Tr),(∀t∈tb,1<=t.2.2)->(tb.map fun t=>t.2.2*(if t.1=n then 1 else 0)).sum=(((apT tb).map (·.1)).count n:Int)
 | [],_=>rfl
 | t::tb,h=>by
  have ih:=Jg6 n tb fun u hu=>h u (Qc _ hu)
  have h1:=h t Qf;unfold apT at ih ⊢;rw[Qd,QA,ih,Gn,QV,Ku,LI,Ri]
  by_cases c:t.1=n
  ·subst c;simp;omega
  ·simp[c]
theorem Ji8(n:Int):∀(xs:List Pr),wt n xs=(xs.map fun p=>p.2*(if p.1=n then 1 else 0)).sum
 | []=>rfl
 | p::xs=>by rw[wt,Ji8 n xs,Qd,QA];split <;> simp
theorem Jcu{ps:List Pr}(g:Good ps)(N:Nat):J5 (tbN N 0 ps) []=Jdu ((apT (tbN N 0 ps)).map (·.1)):=by
 have asc:=Yp N 0 ps none g (QD _) (fun b e=>by cases e)
 have pos:∀x∈(apT (tbN N 0 ps)).map (·.1),0<x:=fun x hx=>by obtain⟨q,hq,rfl⟩:=Qu.mp hx;obtain⟨t,ht,rfl⟩:=Uo hq;have:=(JW asc t ht).1;show 0<t.1;omega
 refine Ji6 _ _ 0 (Jji g N) (Jjt pos) fun n hn=>?_
 rw[Jmi,Ji8,Jc9 (fun x=>if x=n then 1 else 0),<- Jg6 n _ fun t ht=>(JW asc t ht).2];simp
noncomputable def fwF(ps:List Pr):List Pr:=goF none 0 ps
noncomputable def bwF(ps:List Pr):List Pr:=Jq (goF none 0 (Jq ps))
noncomputable def itF(f:List Pr->List Pr):Nat->List Pr->List Pr
 | 0,ps=>ps
 | n+1,ps=>f (itF f n ps)
noncomputable def U4(z:Int)(ps:List Pr):List Pr:=itF bwF (0-z).toNat (itF fwF z.toNat ps)
theorem JaF:(D.non:D)=Zu none:=rfl
theorem Jl8(a b:D):atI [a,b] 0=some a:=rfl
theorem okn:OkS none:=fun s e=>by cases e
structure Rz (N:Nat) (ps:List Pr) (z:Int) (qs:List Pr):Prop where
 good:Good qs
 len:qs.length=ps.length
 sum:(qs.map (·.2)).sum=(ps.map (·.2)).sum
 tb:tbN N 0 qs=(tbN N 0 ps).map fun t=>(t.1,t.2.1+z*t.1,t.2.2)
theorem Rz.refl{N:Nat}{ps:List Pr}(g:Good ps):Rz N ps 0 ps:=⟨g,rfl,rfl,by
 refine(Ma _).symm.trans (QE fun t _=>?_);show t=(t.1,t.2.1+0*t.1,t.2.2)
 rw[Int.zero_mul,L9]⟩
theorem JlC{N:Nat}{qs:List Pr}(g:Good qs)(h1:1<=N)(hN:(qs.map (·.2)).sum<=(N:Int)):tbN N 0 (fwF qs)=(tbN N 0 qs).map fun t=>(t.1,t.2.1+t.1,t.2.2):=by
 have e:fwF qs=goS (N:Int) 0 qs:=JeX qs 0 g (QD _) (by omega) (.inr ⟨rfl,by omega⟩);rw[e,JlX N 0 (N:Int) g (by omega)];refine QE fun t ht=>?_
 have:=JlZ g (U1 N g hN) t ht;rw[RA,Ki (by omega)]
theorem Jba{qs:List Pr}(g:Good qs):Good (fwF qs)/\(fwF qs).length=qs.length/\((fwF qs).map (·.2)).sum=(qs.map (·.2)).sum:=by unfold fwF;rw[WY g none okn];exact⟨JdF g none okn,Jgi _ _,Jch g none okn⟩
theorem Jjp{qs:List Pr}(g:Good qs):Good (bwF qs)/\(bwF qs).length=qs.length/\((bwF qs).map (·.2)).sum=(qs.map (·.2)).sum/\fwF (bwF qs)=qs:=by
 obtain⟨a,b,c⟩:=Jba (JR g);refine⟨JR a,?_,?_,?_⟩
 ·show(Jq (fwF (Jq qs))).length=_;rw[J4,b,J4]
 ·show((Jq (fwF (Jq qs))).map (·.2)).sum=_;rw[UG,c,UG]
 ·have e:bwF qs=Jq (YJ (Jq qs) none):=by unfold bwF;rw[WY (JR g) none okn]
  unfold fwF;have gb:Good (bwF qs):=JR a;rw[WY gb none okn,e,JhG (JR g) none okn,V3]
theorem Rz.fw{N:Nat}{ps qs:List Pr}{z:Int}(r:Rz N ps z qs)(h1:1<=N)(hN:(ps.map (·.2)).sum<=(N:Int)):Rz N ps (z+1) (fwF qs):=by
 obtain⟨a,b,c⟩:=Jba r.good;refine⟨a,b.trans r.len,c.trans r.sum,?_⟩;rw[JlC r.good h1 (by rw[r.sum];exact hN),r.tb,Qw];refine QE fun t _=>?_
 show(t.1,t.2.1+z*t.1+t.1,t.2.2)=(t.1,t.2.1+(z+1)*t.1,t.2.2)
 rw[KE,LW,Lq]
theorem Rz.bw{N:Nat}{ps qs:List Pr}{z:Int}(r:Rz N ps z qs)(h1:1<=N)(hN:(ps.map (·.2)).sum<=(N:Int)):Rz N ps (z-1) (bwF qs):=by
 obtain⟨a,b,c,d⟩:=Jjp r.good;refine⟨a,b.trans r.len,c.trans r.sum,?_⟩;have e:=JlC a h1 (by rw[c,r.sum];exact hN);rw[d,r.tb] at e;have e2:=congrArg (List.map fun t:Tr=>((t.1,t.2.1-t.1,t.2.2):Tr)) e;rw[Qw,Qw] at e2
 have e3:(tbN N 0 (bwF qs)).map ((fun t:Tr=>((t.1,t.2.1-t.1,t.2.2):Tr)) ∘ fun t=>(t.1,t.2.1+t.1,t.2.2))=tbN N 0 (bwF qs):=by refine(QE fun t _=>?_).trans (Ma _);show(t.1,t.2.1+t.1-t.1,t.2.2)=t;rw[Int.add_sub_cancel]
 rw[e3] at e2;rw[<- e2];refine QE fun t _=>?_
 show(t.1,t.2.1+z*t.1-t.1,t.2.2)=(t.1,t.2.1+(z-1)*t.1,t.2.2)
 rw[Int.sub_mul,LW];congr 2;omega
theorem Je3{N:Nat}{ps:List Pr}(h1:1<=N)(hN:(ps.map (·.2)).sum<=(N:Int))(g:Good ps):∀n:Nat,Rz N ps (n:Int) (itF fwF n ps)
 | 0=>Rz.refl g
 | n+1=>by have:=(Je3 h1 hN g n).fw h1 hN;exact this
theorem Je2{N:Nat}{ps:List Pr}(h1:1<=N)(hN:(ps.map (·.2)).sum<=(N:Int))(g:Good ps):∀n:Nat,Rz N ps (-(n:Int)) (itF bwF n ps)
 | 0=>Rz.refl g
 | n+1=>by have:=(Je2 h1 hN g n).bw h1 hN;rw[show -(n:Int)-1=-((n+1:Nat):Int) by omega] at this;exact this
theorem JiI{N:Nat}{ps:List Pr}(h1:1<=N)(hN:(ps.map (·.2)).sum<=(N:Int))(g:Good ps)(z:Int):Rz N ps z (U4 z ps):=by
 unfold U4
 by_cases h:0<=z
 ·rw[show(0-z).toNat=0 by omega];have:=Je3 h1 hN g z.toNat;rw[show((z.toNat:Nat):Int)=z by omega] at this;exact this
 ·rw[show z.toNat=0 by omega];have:=Je2 h1 hN g (0-z).toNat;rw[show -(((0-z).toNat:Nat):Int)=z by omega] at this;exact this
theorem Jne(ps:List Pr):Jq (fwF ps)=bwF (Jq ps):=by unfold fwF bwF;rw[V3]
theorem Jnd(ps:List Pr):Jq (bwF ps)=fwF (Jq ps):=by unfold fwF bwF;rw[V3]
theorem Jfg:∀(n:Nat) (ps:List Pr),Jq (itF fwF n ps)=itF bwF n (Jq ps)
 | 0,_=>rfl
 | n+1,ps=>by show Jq (fwF (itF fwF n ps))=bwF (itF bwF n (Jq ps));rw[Jne,Jfg n]
theorem Jff:∀(n:Nat) (ps:List Pr),Jq (itF bwF n ps)=itF fwF n (Jq ps)
 | 0,_=>rfl
 | n+1,ps=>by show Jq (bwF (itF bwF n ps))=fwF (itF fwF n (Jq ps));rw[Jnd,Jff n]
theorem Ze(z:Int)(ps:List Pr):Jq (U4 z ps)=U4 (-z) (Jq ps):=by
 unfold U4
 by_cases h:0<=z
 ·rw[show(0-z).toNat=0 by omega,show(-z).toNat=0 by omega,show(0 - -z).toNat=z.toNat by omega];exact Jfg _ _
 ·rw[show z.toNat=0 by omega,show(-z).toNat=(0-z).toNat by omega,show(0 - -z).toNat=0 by omega];exact Jff _ _
theorem JiE(z:Int){ps:List Pr}(g:Good ps):(U4 z ps).length=ps.length:=(JiI (N:=(ps.map fun p:Pr=>p.2).sum.toNat+1) (by omega) (by omega) g z).len
theorem Jos{N:Nat}{ps:List Pr}(h1:1<=N)(hN:(ps.map (·.2)).sum<=(N:Int))(g:Good ps)(h30:ps.length<=30)(z:Int):Wu (U4 z ps)=true↔∀x∈prL (lnF 0 (apT (tbN N 0 ps))),vlL x<=z:=by
 have r:=JiI h1 hN g z
 have asc:=Yp N 0 ps none g (QD _) (fun b e=>by cases e)
 have ch:=Jb2 (apT (tbN N 0 ps)) 0 (VL asc)
 have fa:=JmE g h30 (U1 N g hN) r.good (by rw[r.len];exact h30) (U1 N r.good (by rw[r.sum];exact hN)) (z:=z) r.tb;rw[JfC,<- JfD z _ ch];refine⟨fa.2,fun s=>?_⟩;rw[fa.1 s];exact s
theorem Jh4(ps:List Pr)(z:Int)(g:Good ps)(h:ps.length<=30)(hz:-2000<=z/\z<=2000):Yv [.sh (.lst (ps.map prE)),.sh (.int z)]=some (.sh (.lst ((U4 z ps).map prE))):=by
 have lf:∀n,(itF fwF n ps).length=ps.length:=fun n=>(Je3 (N:=(ps.map fun p:Pr=>p.2).sum.toNat+1) (by omega) (by omega) g n).len
 unfold Yv;walk_at "ev";rw[GY];refine Vy (fun i E=>∃j2,E=[.sh (.lst ((itF fwF i ps).map prE)),.sh (.int z),j2]) ⟨.no,rfl⟩ ?_ ?_
 ·rintro i E hi ⟨j2,rfl⟩;walk_at "ev";rw[JaF,Jcx _ none (by rw[lf];omega)];walk_at "ev";exact⟨_,rfl⟩
 ·rintro E' ⟨j2,rfl⟩;have gf:=(Je3 (N:=(ps.map fun p:Pr=>p.2).sum.toNat+1) (by omega) (by omega) g z.toNat).good;have lf0:=lf z.toNat;unfold U4
  generalize itF fwF z.toNat ps=qs at *
  have lb:∀n,(itF bwF n qs).length=qs.length:=fun n=>(Je2 (N:=(qs.map fun p:Pr=>p.2).sum.toNat+1) (by omega) (by omega) gf n).len
  walk_at "ev";rw[GY];refine Vy (fun i E=>∃j2,E=[.sh (.lst ((itF bwF i qs).map prE)),.sh (.int z),j2]) ⟨j2,rfl⟩ ?_ ?_
  ·rintro i E hi ⟨j2,rfl⟩;have l1:=lb i;have l2:=J4 (itF bwF i qs);walk_at "ev";rw[Zd _ (by omega)];walk_at "ev";rw[JaF,Jcx _ none (by omega)];walk_at "ev"
   have l3:(goF none 0 (Jq (itF bwF i qs))).length=qs.length:=by
    have gi:=(Je2 (N:=(qs.map fun p:Pr=>p.2).sum.toNat+1) (by omega) (by omega) gf i).good
    have:=(Jba (JR gi)).2.1;unfold fwF at this;omega
   rw[Jl8];walk_at "ev";rw[Zd _ (by omega)];walk_at "ev";exact⟨_,rfl⟩
  ·rintro E' ⟨j2,rfl⟩;walk_at "ev"
theorem Jax(ps:List Pr)(z:Int)(b:Bool)(g:Good ps)(h:ps.length<=30)(hz:-2000<=z/\z<=2000):JL [.sh (.lst (ps.map prE)),.sh (.int z),.sh (.bl b)]=some (.sh (.bl (Wu (if b=true then Jq (U4 z ps) else U4 z ps)))):=by
 have l:=JiE z g
 have l2:=J4 (U4 z ps);unfold JL;walk_at "ev";rw[Jh4 ps z g h hz];walk_at "ev"
 cases b with
 | true=>walk_at "ev";rw[Zd _ (by omega)];walk_at "ev";rw[Zc _ (by omega)];walk_at "ev"
 | false=>walk_at "ev";rw[Zc _ (by omega)];walk_at "ev"
theorem Jin:∀{l:List Pr},prL l=[]->∀p∈l,∀q∈l,p.1=q.1
 | [],_,p,hp,_,_=>by cases hp
 | [a],_,p,hp,q,hq=>by rw[Gz.mp hp,Gz.mp hq]
 | a::b::l,h,p,hp,q,hq=>by
  rw[prL] at h;split at h
  ·cases h
  ·next c =>
   have c:a.1=b.1:=Classical.not_not.mp c
   have ih:=Jin h
   have to:∀x∈a::b::l,x.1=b.1:=fun x hx=>by
    rcases Qj.mp hx with rfl|hx
    ·exact c
    ·exact ih x hx b Qf
   rw[to p hp,to q hq]
theorem JnH{l:List Pr}(h:∀p∈l,∀q∈l,p.1=q.1):prL l=[]:=by
 cases e:prL l with
 | nil=>rfl
 | cons x r=>obtain⟨a,b,c⟩:=V7 l x (by rw[e];exact Qf);exact absurd (h _ a _ b) c
theorem JeL(l:List Pr):(Um (fM (l.map (·.1)))).length<2↔prL l=[]:=by
 constructor
 ·intro h;refine JnH fun p hp q hq=>?_
  have a:=(U0 (l.map (·.1)) p.1).mpr (Gc hp)
  have b:=(U0 (l.map (·.1)) q.1).mpr (Gc hq)
  revert h a b
  cases Um (fM (l.map (·.1))) with
  | nil=>intro _ a;cases a
  | cons x r =>
   cases r with
   | nil=>intro _ a b;rw[Gz.mp a,Gz.mp b]
   | cons y r=>intro h;simp only[Qo] at h;omega
 ·intro h;have all:=Jin h;have pw:=JiP (l.map (·.1));have mm:=U0 (l.map (·.1))
  revert pw mm
  cases Um (fM (l.map (·.1))) with
  | nil=>intro _ _;simp
  | cons x r =>
   cases r with
   | nil=>intro _ _;simp
   | cons y r=>intro pw mm;have lt:=(QO.mp pw).1 y Qf;obtain⟨p,hp,ep⟩:=Qu.mp ((mm x).mp Qf);obtain⟨q,hq,eq⟩:=Qu.mp ((mm y).mp (by simp));have:=all p hp q hq;omega
structure R5 (ps:List Pr) (N:Nat):Prop where
 good:Good ps
 len:ps.length<=30
 sum:(ps.map (·.2)).sum<=42
 inn:∀p∈ps,-100<=p.1/\p.1+p.2<=100
 top:(ps.map (·.2)).sum<=(N:Int)
 one:1<=N
theorem R5.mir{ps:List Pr}{N:Nat}(r:R5 ps N)(h:∀p∈ps,-99<=p.1/\p.1+p.2<=100):R5 (Jq ps) N:=by refine⟨JR r.good,by rw[J4];exact r.len,by rw[UG];exact r.sum,fun p hp=>?_,by rw[UG];exact r.top,r.one⟩;unfold Jq at hp;obtain⟨q,hq,rfl⟩:=Qu.mp hp;have:=h q (G8.mp hq);unfold YY;dsimp only;omega
theorem R5.th{ps:List Pr}{N:Nat}(r:R5 ps N):thN N ps=[]:=U1 N r.good r.top
theorem R5.size{ps:List Pr}{N:Nat}(r:R5 ps N):∀q∈apT (tbN N 0 ps),1<=q.1/\q.1<=42:=fun q hq=>by obtain⟨t,ht,rfl⟩:=Uo hq;have asc:=Yp N 0 ps none r.good (QD _) (fun b e=>by cases e);have h1:=(JW asc t ht).1;have h2:=JlZ r.good r.th t ht;have h3:=r.sum;exact⟨h1,by show t.1<=42;omega⟩
theorem R5.lsum{ps:List Pr}{N:Nat}(r:R5 ps N):((apT (tbN N 0 ps)).map (·.1)).sum=(ps.map (·.2)).sum:=by
 have asc:=Yp N 0 ps none r.good (QD _) (fun b e=>by cases e);rw[<- Zz N 0 r.good r.th]
 have nm:∀t∈tbN N 0 ps,1<=t.2.2:=fun t ht=>(JW asc t ht).2
 revert nm
 generalize tbN N 0 ps=tb
 intro nm
 induction tb with
 | nil=>rfl
 | cons t tb ih =>
  have h1:=nm t Qf
  have ih':=ih fun u hu=>nm u (Qc _ hu)
  unfold apT at ih' ⊢;rw[Gn,QV,Ky,ih',Qd,QA,Ku]
  have:∀(n:Nat) (x:Int),(QC n x).sum=n*x:=fun n x=>by
   induction n with
   | zero=>simp
   | succ n ih=>rw[Q3,QA,ih,KA,KE];omega
  rw[this,show((t.2.2.toNat:Nat):Int)=t.2.2 by omega,RB t.2.2];simp
theorem R5.vals{ps:List Pr}{N:Nat}(r:R5 ps N):∀x∈prL (lnF 0 (apT (tbN N 0 ps))),-800<=vlL x/\vlL x<=800:=fun x hx=>by
 have asc:=Yp N 0 ps none r.good (QD _) (fun b e=>by cases e)
 have ch:=Jb2 (apT (tbN N 0 ps)) 0 (VL asc);obtain⟨m1,m2,_⟩:=V7 _ x hx
 have hs:=r.sum
 have hl:=JlK (apT (tbN N 0 ps)) 0 42 (-100) 100 (QD _) (by rw[r.lsum];omega) (fun q hq=>by have h1:=(r.size q hq).1;obtain⟨t,ht,rfl⟩:=Uo hq;exact⟨h1,JlY N 0 r.good r.inn t ht⟩)
 have l1:=hl _ m1
 have l2:=hl _ m2
 have s1:1<=x.1.1/\x.1.1<=42:=by have hx1:x.1.1∈(lnF 0 (apT (tbN N 0 ps))).map (·.1):=Gc m1;rw[V1] at hx1;obtain⟨y,hy,ey⟩:=Qu.mp hx1;rw[<- ey];exact r.size y hy
 have:=Jqk (B:=200) (Jb3 _ ch x hx) ⟨s1.1,by omega⟩ (by omega) (by omega);omega
theorem R5.told{ps:List Pr}{N:Nat}(r:R5 ps N)(hne:prL (lnF 0 (apT (tbN N 0 ps)))≠[]):∃m:Int,-800<=m/\m<=800/\mxO ((prL (lnF 0 (apT (tbN N 0 ps)))).map vlL)=.int m/\Wu (U4 m ps)=true/\Wu (U4 (m-1) ps)=false/\Wu (U4 (m+1) ps)=true:=by
 have sa:=Jos r.one r.top r.good r.len
 cases hm:((prL (lnF 0 (apT (tbN N 0 ps)))).map vlL).max? with
 | none=>rw[List.max?_eq_none_iff,List.map_eq_nil_iff] at hm;exact absurd hm hne
 | some m =>
  obtain⟨mm,mx⟩:=LN.mp hm;obtain⟨x0,hx0,e0⟩:=Qu.mp mm;have v0:=r.vals x0 hx0;refine⟨m,by omega,by omega,by unfold mxO;rw[hm],(sa m).mpr fun x hx=>mx _ (Gc hx),?_,(sa (m+1)).mpr fun x hx=>?_⟩
  ·cases hq:Wu (U4 (m-1) ps) with
   | false=>rfl
   | true=>have:=(sa (m-1)).mp hq x0 hx0;omega
  ·have:=mx _ (Gc hx);omega
theorem Jjw(ns:List Int):∃ps N,R5 ps N/\R5 (Jq ps) N/\Yd [.sh (.fz (ns.map .int)),.sh (.int 1),.sh (.int (cell ns 0 % 7)),.sh (.int (Jd3 [4,7] (cell ns 0 / 7 % 2)))]=some (.own (ps.map prE)):=by
 have sp:0<Jd3 [4,7] (cell ns 0 / 7 % 2)/\Jd3 [4,7] (cell ns 0 / 7 % 2)<=7:=Jij (P:=fun x=>0<x/\x<=7) (by omega) (by show _<(2:Int);omega) (by decide)
 revert sp
 generalize Jd3 [4,7] (cell ns 0 / 7 % 2)=span
 intro sp;have b0:=Lu (cell ns 1) (b:=2*span+1) (by omega);have b1:=Ml (cell ns 1) (b:=2*span+1) (by omega);obtain⟨n,hn⟩:∃n:Nat,n=(cell ns 0 % 7).toNat:=⟨_,rfl⟩
 have n6:n<=6:=by omega
 obtain⟨f1,f2,f3,f4⟩:=JfG ns 1 span (cell ns 1 % (2*span+1)-span) sp.1 n;have m1:(n:Int)*(2*span+1)<=6*(2*span+1):=LS (by omega) (by omega);have m2:(n:Int)*span<=6*span:=LS (by omega) (by omega)
 have r:R5 (spr ns 1 span (cell ns 1 % (2*span+1)-span) n).2 (((spr ns 1 span (cell ns 1 % (2*span+1)-span) n).2.map fun p:Pr=>p.2).sum.toNat+1):=⟨(Jc6 ns 1 _ _ sp.1 _).1,by rw[UZ];omega,by omega,fun p hp=>by have:=f3 p hp;omega,by omega,by omega⟩
 refine⟨_,_,r,r.mir fun p hp=>?_,?_⟩
 ·have:=f3 p hp;omega
 ·rw[hn];exact Jkm ns 1 _ span (by omega) (by omega) (by omega) sp.1
theorem Jh3(m:Int)(h1:-1000<=m)(h2:m<=1000):Yj [.sh (.int m)]=some (.sh (.bl true)):=by unfold Yj;walk_at "ev";rw[decide_eq_true h1];walk_at "ev";rw[decide_eq_true h2]
theorem d10:decide ((1:Int)=0)=false:=rfl
theorem d01:decide ((0:Int)=1)=false:=rfl
theorem law_true(ns:List Int)(hn:ns.length<=63):Jdx [.sh (.fz (ns.map .int))]=some (.sh (.bl true)):=by
 obtain⟨ps,N,r,rm,hd⟩:=Jjw ns;have a2:=Jha (l:=[4,7]) (k:=cell ns 0 / 7 % 2) (by omega) (by show _<(2:Int);omega);simp only[Qd,KC] at a2;have hl:=r.len;have s1:=Jgx ps N r.good r.len r.th (fun q hq=>by have:=(r.size q hq).2;omega);have s2:=Jgw ps N r.good r.len r.th (fun q hq=>by have:=(rm.size q hq).2;omega);have lu:=Jkn ps N r.good r.len r.th;have du1:=JeL (lnF 0 (apT (tbN N 0 ps)));have du2:=JeL (lnF 0 (apT (tbN N 0 (Jq ps))))
 have same:J5 (tbN N 0 (Jq ps)) []=J5 (tbN N 0 ps) []:=JaI N 0 [] (JR r.good) r.good fun i=>Jh8 r.good i
 rw[V1] at du1 du2;have c1:(J5 (tbN N 0 ps) []).length=(Um (fM ((apT (tbN N 0 ps)).map (·.1)))).length:=by rw[Jcu r.good N];unfold Jdu;rw[Qv]
 have c2:(J5 (tbN N 0 ps) []).length=(Um (fM ((apT (tbN N 0 (Jq ps))).map (·.1)))).length:=by rw[<- same,Jcu rm.good N];unfold Jdu;rw[Qv]
 rw[<- c1] at du1;rw[<- c2] at du2;unfold Jdx;walk_at "ev";rw[Jbn _ _ (by omega)];walk_at "ev";rw[a2];walk_at "ev";rw[hd];walk_at "ev";rw[Ja3 rfl r.good r.len];walk_at "ev";rw[lu];walk_at "ev";rw[show rng 0 2=[D.int 0,D.int 1] from rfl];simp only[Y9]
 by_cases du:(J5 (tbN N 0 ps) []).length<2
 ·rw[decide_eq_true (show((J5 (tbN N 0 ps) []).length:Int)<2 by omega)];rw[du1.mp du] at s1;rw[du2.mp du] at s2;simp only[KC,mxO,List.max?_nil,ngO] at s1 s2;walk_at "ev";rw[s1];walk_at "ev";rw[d10];walk_at "ev";rw[s2];walk_at "ev"
 ·rw[decide_eq_false (show ¬((J5 (tbN N 0 ps) []).length:Int)<2 by omega)];obtain⟨m,m1,m2,em,t1,t2,t3⟩:=r.told fun z=>du (du1.mpr z)
  obtain⟨n,n1,n2,en,u1,u2,u3⟩:=rm.told fun z=>du (du2.mpr z)
  rw[em] at s1;rw[en] at s2;simp only[ngO] at s2;have q1:JL [.sh (.lst (ps.map prE)),.sh (.int m),.sh (.bl false)]=some (.sh (.bl true)):=by rw[Jax ps m false r.good hl (by omega),if_neg (by decide),t1]
  have q2:JL [.sh (.lst (ps.map prE)),.sh (.int (m-(1-2*0))),.sh (.bl false)]=some (.sh (.bl false)):=by rw[show m-(1-2*0)=m-1 by omega,Jax ps (m-1) false r.good hl (by omega),if_neg (by decide),t2]
  have q3:JL [.sh (.lst (ps.map prE)),.sh (.int (m+(1-2*0))),.sh (.bl false)]=some (.sh (.bl true)):=by rw[show m+(1-2*0)=m+1 by omega,Jax ps (m+1) false r.good hl (by omega),if_neg (by decide),t3]
  have p1:JL [.sh (.lst (ps.map prE)),.sh (.int (-n)),.sh (.bl true)]=some (.sh (.bl true)):=by rw[Jax ps (-n) true r.good hl (by omega),if_pos rfl,Ze,Int.neg_neg,u1]
  have p2:JL [.sh (.lst (ps.map prE)),.sh (.int (-n-(1-2*1))),.sh (.bl true)]=some (.sh (.bl false)):=by rw[Jax ps _ true r.good hl (by omega),if_pos rfl,Ze,show -(-n-(1-2*1))=n-1 by omega,u2]
  have p3:JL [.sh (.lst (ps.map prE)),.sh (.int (-n+(1-2*1))),.sh (.bl true)]=some (.sh (.bl true)):=by rw[Jax ps _ true r.good hl (by omega),if_pos rfl,Ze,show -(-n+(1-2*1))=n+1 by omega,u3]
  walk_at "ev";rw[s1];walk_at "ev";rw[Jh3 m (by omega) (by omega)];walk_at "ev";rw[d01,q1];walk_at "ev";rw[q2];walk_at "ev";rw[d01,q3];walk_at "ev";rw[d10];walk_at "ev";rw[s2];walk_at "ev";rw[Jh3 (-n) (by omega) (by omega)];walk_at "ev";rw[p1];walk_at "ev";rw[p2];walk_at "ev";rw[p3];walk_at "ev"
end
end LK
noncomputable section
namespace LK
open PySem L2 LR LE
local macro_rules | `(tactic| walk_at "s")=>`(tactic| repeat' first | rfl | assumption | with_reducible apply JlT | with_reducible apply Jq1 | with_reducible apply Jok | with_reducible apply Jp4 | with_reducible apply Jp1 | with_reducible apply Jqu | with_reducible apply JqI | with_reducible apply JqO | with_reducible apply Joi | with_reducible apply JoR | with_reducible apply JmH | with_reducible apply Jpy | with_reducible apply Jpt | with_reducible apply Jqt | with_reducible apply Jpg | with_reducible apply Jph | with_reducible apply JqY | with_reducible apply Jqa | with_reducible apply Jq5 | with_reducible apply Joq | with_reducible apply Jpw | with_reducible apply Joj | with_reducible apply Jp9 | with_reducible apply Jqq | with_reducible apply JpW | with_reducible apply Jqb | with_reducible apply JoP | with_reducible apply JpX | with_reducible apply Jp3 | with_reducible apply Jqv | with_reducible apply JoQ | with_reducible apply JqM | with_reducible apply JqZ | with_reducible apply Jo1 | with_reducible apply JqQ | with_reducible apply Jpv | with_reducible apply JpY | with_reducible apply Jqm | with_reducible apply JqN | with_reducible apply Jp5 | with_reducible apply Jop | with_reducible apply Jq3 | with_reducible apply Jqj | with_reducible apply Jo2 | with_reducible apply Jo3 | with_reducible apply JqP | with_reducible apply Jk9 | with_reducible apply Jp7 | with_reducible apply Joo | with_reducible apply Jqo | with_reducible apply Jmg | with_reducible apply Jnj | with_reducible apply Jku | with_reducible apply Jny | with_reducible apply Jnz | with_reducible apply JpV | with_reducible apply Jk7 | with_reducible apply Jk8 | with_reducible apply Jol | with_reducible apply Jon | with_reducible apply Jp2 | with_reducible apply Jq2 | with_reducible apply Jp8 | with_reducible apply JoN | with_reducible apply Jqp | with_reducible apply Jlt | with_reducible apply Jo0 | with_reducible apply Jmf | with_reducible apply Jjq | with_reducible apply JhY | with_reducible apply Jkg | with_reducible apply Jpu | with_reducible apply JqR | with_reducible apply Jpx | with_reducible apply JiJ | with_reducible apply JpZ | with_reducible apply Jom | with_reducible apply Jq0 | with_reducible apply Jp0 | with_reducible apply Jla | with_reducible apply Jp6 | with_reducible apply JgN | with_reducible apply Jqn | with_reducible apply Jqr | with_reducible apply JoO | with_reducible apply Jqs)
noncomputable def top(i:Nat):G0:=PySem.Challenge.pw_lumprow_k50_settles_by_goings.main.body.getD i (.Pass ⟨0,0,0,0⟩)
noncomputable abbrev Uw:G0:=top 34
noncomputable abbrev Uf:G0:=top 33
noncomputable abbrev Ux:G0:=top 31
noncomputable abbrev UQ:G0:=top 30
noncomputable abbrev UR:G0:=top 32
noncomputable abbrev Zs:G0:=top 35
noncomputable abbrev Uy:G0:=top 24
noncomputable abbrev YA:G0:=top 7
noncomputable abbrev Vf:G0:=Jkb (top 6) 0
noncomputable abbrev UM:G0:=top 13
noncomputable abbrev UL:G0:=top 12
noncomputable abbrev Wa:G0:=top 9
noncomputable abbrev UN:G0:=top 11
noncomputable abbrev Wd:G0:=top 14
noncomputable abbrev V8:G0:=top 8
noncomputable abbrev Wb:G0:=top 16
noncomputable abbrev Zt:G0:=top 15
noncomputable abbrev Vi:G0:=top 18
noncomputable abbrev Ug:G0:=top 20
noncomputable abbrev UO:G0:=top 22
noncomputable abbrev Wc:G0:=top 25
noncomputable abbrev Ue:G0:=top 23
noncomputable abbrev V9:G0:=top 26
noncomputable abbrev Vh:G0:=top 19
noncomputable abbrev Vg:G0:=top 28
noncomputable abbrev UP:G0:=top 29
noncomputable abbrev VC:G0:=top 36
local macro_rules | `(tactic| walk_at "c")=>`(tactic| exact⟨rfl,rfl,rfl,by decide +kernel,rfl,by decide +kernel,by decide +kernel⟩)
theorem JgC:(["begin","length"]:List Str).Nodup:=by decide +kernel
theorem JcG:(["left","right"]:List Str).Nodup:=by decide +kernel
theorem Jpp:(["ahead","stretch","layers"]:List Str).Nodup:=by decide +kernel
theorem Jpq:(["begin","length","place"]:List Str).Nodup:=by decide +kernel
theorem Jpr:(["spot","number","left"]:List Str).Nodup:=by decide +kernel
theorem Jnh:(["spot","pairs","owed","size"]:List Str).Nodup:=by decide +kernel
theorem Jps:(["left","lump"]:List Str).Nodup:=by decide +kernel
section
variable{P:Qy}{w:QH}{K:Qz}{C:Qg}{mg:Str->Option Qe}{base:QP}
theorem ZR:FnScope ["found"] ["found"] (Jh Uw):=by walk_at "c"
theorem ZO{f:Qg}{fd:QJ}(F:Fun K "_law_number" "_law_number" Uw f fd)(qp:mg "isinstance"=none)(qT:mg "bool"=none)(qW:mg "int"=none):FnOk P w K mg base CX0 1 f fd ["found"] (spE K C 1 Yj) :=
 okE F ZR rfl fun _ _ _ _ _ _ hr hu=>⟨_,(Jg (Jx (Jic (JO (Jad (K:=K) rfl) rfl qp U5 (Ja (pv 0) (Ja (Jfn (v:=V.ty "int") rfl qW Jmb rfl) Jc))) (Jic (JnC (JO (Jad (K:=K) rfl) rfl qp U5 (Ja (pv 0) (Ja (Jfn (v:=V.ty "bool") rfl qT Jjn rfl) Jc)))) (JnD (JcQ Jfm Jfm (JcU ZG Je) (pv 0) Je)))))),by walk_at "s"⟩
theorem sc_law_settled:FnScope ["row","k","gap"] ["row"] (Jh Uf):=by walk_at "c"
theorem Zi{f:Qg}{fd:QJ}(F:Fun K "_law_settled" "_law_settled" Uf f fd)(qd:mg "range"=none)(qo:mg "len"=none):FnOk P w K mg base CX0 1 f fd ["row"] (spE K C 1 J9) :=
 okE F sc_law_settled rfl fun _ _ _ _ _ _ hr hu=>⟨_,(Jd (YI Gv rfl (JgG rfl qd (Ja Je (Ja (JO (YO (K:=K) rfl) rfl qo VN (Ja (pv 0) Jc)) Jc))) (JA (i:=1) sc_law_settled.nd rfl (.inl rfl)) (Jd (psN 2 sc_law_settled.nd (Jk Jy (Jk Jy (pxK K (pxK K (pv 0) (pv 1)) Je) (pxK K (pxK K (pv 0) (Jk Jy (pv 1) Je)) Je)) (pxK K (pxK K (pv 0) (Jk Jy (pv 1) Je)) Je)))
  (Jg (YK (PW.pt (JlP (JY JcP (pxK K (pxK K (pv 0) (Jk Jy (pv 1) Je)) Je) (pxK K (pxK K (pv 0) (pv 1)) Je) (JU _)) (Jis (JY JaB (pv 2) (pxK K (pxK K (pv 0) (Jk Jy (pv 1) Je)) Je) (JU _))))) (Jg (Jx JaC)) Yo))))
  (Jg (Jx JaC))),by walk_at "s"⟩
theorem ZS:FnScope ["row"] ["row"] (Jh Ux):=by walk_at "c"
theorem ZP{f:Qg}{fd:QJ}(F:Fun K "_law_turned" "_law_turned" Ux f fd)(qE:mg "reversed"=none):FnOk P w K mg base CX0 1 f fd ["row"] (spE K C 1 JJ) :=
 okE F ZS rfl fun _ _ _ _ _ _ hr hu=>⟨_,(Jg (Jx (Yn (N':=["begin","length"]) (imp:=[none,none]) rfl (JkG (K:=K) rfl rfl qE (Ja (pv 0) Jc)) (JbW rfl rfl) (fun _ _ _ _=>(JG (K:=K) (n:=2) rfl rfl (Ji (pgN 0 JgC) (Ji (pgN 1 JgC) JH)) rfl rfl)) (fun _ _ _ _=>Yk) (fun _ _ _ _=>(Yy (Ja (Jk Jy (Jk Jy Je (pv 0)) (pv 1)) (Ja (pv 1) Jc))))))),by walk_at "s"⟩
theorem sc_law_ferry:FnScope ["row","seats","told","load","count","k","begin","length","takes","sets"] ["row","seats"] (Jh UQ):=by walk_at "c"
theorem Jbw{f:Qg}{fd:QJ}(F:Fun K "_law_ferry" "_law_ferry" UQ f fd)(qd:mg "range"=none)(qo:mg "len"=none)(qv:mg "min"=none):FnOk P w K mg base CX0 1 f fd ["row","seats"] (spE K C 2 Ye) :=
 okE F sc_law_ferry rfl fun _ _ _ _ _ _ hr hu=>⟨_,(Jd (psN 2 sc_law_ferry.nd (UH Jc))
  (Jd (psN 3 sc_law_ferry.nd Je)
  (Jd (psN 4 sc_law_ferry.nd Je)
  (Jd (YI Gv rfl (Uj rfl qd (Ja (JO (YO (K:=K) rfl) rfl qo VN (Ja (pv 0) Jc)) Jc)) (JA (i:=5) sc_law_ferry.nd rfl (.inl rfl)) (Jd (JnJ (pxK K (pv 0) (pv 5)) (JG (K:=K) (n:=2) rfl rfl (Ji (JA (i:=6) sc_law_ferry.nd rfl (.inl rfl)) (Ji (JA (i:=7) sc_law_ferry.nd rfl (.inl rfl)) JH)) rfl rfl))
  (Jd (psN 8 sc_law_ferry.nd (pv 7))
  (Jd (YK (JY Zl (pv 1) Uv (JU _)) (Jg (psN 8 sc_law_ferry.nd (JO (VO rfl) rfl qv WO (Ja (pv 7) (Ja (Jk Jy (pv 1) (pv 3)) Jc))))) Yo)
  (Jd (psN 3 sc_law_ferry.nd (Jk (Jv (K:=K) rfl) (pv 3) (pv 8)))
  (Jd (psN 4 sc_law_ferry.nd (Jk (Jv (K:=K) rfl) (pv 4) (pv 8)))
  (Jd (psN 9 sc_law_ferry.nd (pv 3))
  (Jd (YK (JY JaB (Jk (Jv (K:=K) rfl) (pv 5) Je) (JO (YO (K:=K) rfl) rfl qo VN (Ja (pv 0) Jc)) (JU _)) (Jg (psN 9 sc_law_ferry.nd (JO (VO rfl) rfl qv WO (Ja (pv 3) (Ja (Jk Jy (Jk Jy (pxK K (pxK K (pv 0) (Jk (Jv (K:=K) rfl) (pv 5) Je)) Je) (pv 6)) (pv 7)) Jc))))) Yo)
  (Jd (psN 3 sc_law_ferry.nd (Jk Jy (pv 3) (pv 9)))
  (Jg (Y8 (Ve (K:=K) rfl GC Kb Kc Ui (pv 2) (Ja (Yy (Ja (Jk (Jv (K:=K) rfl) (pv 6) (pv 8)) (Ja (Jk (Jv (K:=K) rfl) (Jk Jy (pv 7) (pv 8)) (pv 9)) Jc))) Jc)))))))))))))
  (Jg (Jx (Yy (Ja (pv 2) (Ja (pv 4) Jc))))))))),by walk_at "s"⟩
theorem sc_law_steps:FnScope ["row","times","k"] ["row","times"] (Jh UR):=by walk_at "c"
theorem Jbx{f:Qg}{fd:QJ}(F:Fun K "_law_steps" "_law_steps" UR f fd)(qd:mg "range"=none)(qb:Cal P w K mg base "_law_turned" 1 ["row"] (spE K C 1 JJ))(qq:Cal P w K mg base "_law_ferry" 1 ["row","seats"] (spE K C 2 Ye)):FnOk P w K mg base CX0 2 f fd ["row","times"] (spE K C 2 Yv) :=
 okE F sc_law_steps rfl fun _ _ _ _ _ _ hr hu=>⟨_,(Jd (YI Gv rfl (Uj rfl qd (Ja (pv 1) Jc)) (JA (i:=2) sc_law_steps.nd rfl (.inl rfl)) (Jg (psN 0 sc_law_steps.nd (pxK K (Jj qq (hrM hr) rfl (Ja (pv 0) (Ja Uv Jc))) Je))))
  (Jd (YI Gv rfl (Uj rfl qd (Ja (Jk Jy Je (pv 1)) Jc)) (JA (i:=2) sc_law_steps.nd rfl (.inl rfl)) (Jg (psN 0 sc_law_steps.nd (Jj qb (hrM hr) rfl (Ja (pxK K (Jj qq (hrM hr) rfl (Ja (Jj qb (hrM hr) rfl (Ja (pv 0) Jc)) (Ja Uv Jc))) Je) Jc)))))
  (Jg (Jx (pv 0))))),by walk_at "s"⟩
theorem sc_law_at:FnScope ["row","times","back_too","here"] ["row","times","back_too"] (Jh Zs):=by walk_at "c"
theorem JgE{f:Qg}{fd:QJ}(F:Fun K "_law_at" "_law_at" Zs f fd)(qr:Cal P w K mg base "_law_settled" 1 ["row"] (spE K C 1 J9))(qb:Cal P w K mg base "_law_turned" 1 ["row"] (spE K C 1 JJ))(qx:Cal P w K mg base "_law_steps" 2 ["row","times"] (spE K C 2 Yv)):FnOk P w K mg base CX0 3 f fd ["row","times","back_too"] (spE K C 3 JL) :=
 okE F sc_law_at rfl fun _ _ _ _ _ _ hr hu=>⟨_,(Jd (psN 3 sc_law_at.nd (Jj qx (hrM hr) rfl (Ja (pv 0) (Ja (pv 1) Jc))))
  (Jd (YK (Yz (K:=K) rfl (pv 2) (fun _=>rfl)) (Jg (psN 3 sc_law_at.nd (Jj qb (hrM hr) rfl (Ja (pv 3) Jc)))) Yo)
  (Jg (Jx (Jj qr (hrM hr) rfl (Ja (pv 3) Jc)))))),by walk_at "s"⟩
theorem ZT:FnScope ["lines"] ["lines"] (Jh Uy):=by walk_at "c"
theorem ZQ{f:Qg}{fd:QJ}(F:Fun K "neighbours" "neighbours" Uy f fd)(qQ:mg "zip"=none):FnOk P w K mg base CX0 1 f fd ["lines"] (spE K C 1 JS) :=
 okE F ZT rfl fun _ _ _ _ _ _ hr hu=>⟨_,(Jg (Jx (Yn (N':=["left","right"]) (imp:=[none,none]) rfl (Jfo (K:=K) rfl rfl qQ (Ja (pv 0) (Ja (JcT (JfE (K:=K) rfl) (pv 0) (Jfq Je) Jfp) Jc))) (JbW rfl rfl) (fun _ _ _ _=>(JG (K:=K) (n:=2) rfl rfl (Ji (pgN 0 JcG) (Ji (pgN 1 JcG) JH)) rfl rfl)) (fun _ _ _ _=>(JcV (JY (Jnv (K:=K) rfl hu) (pxK K (pv 0) Je) (pxK K (pv 1) Je) (JU _)))) (fun _ _ _ _=>(Yy (Ja (pv 0) (Ja (pv 1) Jc))))))),by walk_at "s"⟩
theorem sc_check_stretches:FnScope ["stretches","behind","begin","length"] ["stretches"] (Jh YA):=by walk_at "c"
theorem Vd{f:Qg}{fd:QJ}(F:Fun K "check_stretches" "check_stretches" YA f fd) :FnOk P w K mg base CX0 1 f fd ["stretches"] (JbI K):=by
 refine F.ok sc_check_stretches (fun vs H Q E h=>?_) (fun cdv A outer s H vs Q E hr h=>?_)
 ·obtain⟨v,ps,rfl,_⟩:=h;rfl
 ·obtain⟨v,ps,rfl,⟨a,vs,rfl,hq,hp⟩,g,q⟩:=h;have hu:=hr.units;refine⟨_,(Jd (psN 1 sc_check_stretches.nd Uv)
   (Jg (YI Gv rfl (piK K (pv 0)) (JG (K:=K) (n:=2) rfl rfl (Ji (JA (i:=2) sc_check_stretches.nd rfl (.inl rfl)) (Ji (JA (i:=3) sc_check_stretches.nd rfl (.inl rfl)) JH)) rfl rfl) (Jd (YK (JY JaB (pv 3) Je (JU _)) (Jg Zq) Yo)
   (Jd (YK (PW.pt (JbC (JY Zl (pv 1) Uv (JU _)) (WG (JY Jfm (pv 2) (pv 1) (JU _))))) (Jg Zq) Yo)
   (Jg (psN 1 sc_check_stretches.nd (Jk (Jfl (K:=K) rfl) (pv 2) (pv 3))))))))),?_⟩
  walk_at "rd";refine JgK (H1:=H) (a:=a) (xs:=vs) (fun R r=>⟨_,rfl,r⟩) hq
   (fun i σ' H'=>∃vb vl,σ'=[some (.ref a),some (Jev ps i),vb,vl]/\H'=H) ⟨none,none,rfl,rfl⟩ (fun i σ' H' ⟨_,_,_,e⟩=>e▸Same.refl _) ?_ ?_
  ·rintro i x σ' H' hi ⟨vb,vl,rfl,rfl⟩;obtain⟨p,b,e1,rfl,sp⟩:=hp.at hi;refine Jfy sp rfl ?_;walk_at "rd";refine ifd (fun hlt=>absurd (g.one i p e1) (by omega)) (fun _=>?_);walk_at "rd"
   cases i with
   | zero=>refine ifF rfl ?_;refine ifF rfl ?_;walk_at "rd";exact⟨_,_,by rw[UB e1];rfl,rfl⟩
   | succ j =>
    obtain⟨q1,e2⟩:∃q1,ps[j]?=some q1:=⟨ps[j]'(by have:=(Qk.mp e1).1;omega),by have:=(Qk.mp e1).1;simp[show j<ps.length by omega]⟩
    rw[UB e2];refine ifT rfl ?_;walk_at "rd";refine ifd (fun hle=>absurd (g.gap j q1 p e2 e1) (by omega)) (fun _=>?_);walk_at "rd";exact⟨_,_,by rw[UB e1];rfl,rfl⟩
  ·rintro σ' H' ⟨vb,vl,rfl,rfl⟩;exact q _ (Same.refl _)
theorem Jc0:FnScope ["self","stretches"] ["self","stretches"] (Jh Vf):=by walk_at "c"
theorem JcK{f:Qg}{fd:QJ}(F:Fun K "__init__" "Row.__init__" Vf f fd)(qC:mg "tuple"=none)(qo:mg "len"=none)(qj:GV mg "MOST_STRETCHES" (.int 30))(qi:Cal P w K mg base "check_stretches" 1 ["stretches"] (JbI K))(T:RowC K C):FnOk P w K mg base CX0 2 f fd ["self","stretches"] (We C K):=by
 refine F.ok Jc0 (fun vs H Q E h=>?_) (fun cdv A outer s H vs Q E hr h=>?_)
 ·obtain⟨x,dx,v,ps,rfl,_⟩:=h;rfl
 ·obtain⟨x,dx,v,ps,rfl,hx,⟨a,vs,rfl,hq,hp⟩,g,hl,q⟩:=h;have hu:=hr.units;refine⟨_,(Jd (YK (JY JcP (JO (YO (K:=K) rfl) rfl qo VN (Ja (pv 1) Jc)) (Jid rfl qj) (JU _)) (Jg Zq) Yo)
   (Jd (Y8 (Jj qi (hrM hr) rfl (Ja (pv 1) Jc)))
   (Jg (JkL (K:=K) rfl (pv 0) (V6 (Wk (K:=K) rfl) rfl qC JbZ (Ja (Yn (N':=["begin","length"]) (imp:=[none,none]) rfl (piK K (pv 1)) (JbW rfl rfl) (fun _ _ _ _=>(JG (K:=K) (n:=2) rfl rfl (Ji (pgN 0 JgC) (Ji (pgN 1 JgC) JH)) rfl rfl)) (fun _ _ _ _=>Yk) (fun _ _ _ _=>(Yy (Ja (pv 0) (Ja (pv 1) Jc))))) Jc)) rfl)))),?_⟩
  have hn:=hp.len;walk_at "rd";refine JcZ hq ?_;walk_at "rd";refine ifd (fun hgt=>absurd hl (by omega)) (fun _=>?_);walk_at "rd";refine Jhh ⟨a,vs,rfl,hq,hp⟩ g fun H1 s1=>?_
  walk_at "rd";refine Jd8 (H1:=H1) (a:=a) (xs:=vs) (fun R r=>⟨_,rfl,r⟩) (hq.imp s1.seq s1.seqT) (G9 (JgP (by omega)))
   (fun i ys σ' H'=>∃vb vl,σ'=[vb,vl]/\Same H1 H'/\Prs K H' ys (ps.take i)) ⟨none,none,rfl,Same.refl _,by rw[List.take_zero];exact RepL.nil⟩
   (fun i ys σ' H' ⟨_,_,_,_,r⟩=>by have:=r.len;rw[this,KO];omega) (fun i ys σ' H' ⟨_,_,_,s',_⟩=>s') ?_ ?_
  ·rintro i ys y σ' H' hi ⟨vb,vl,rfl,s',r⟩;obtain⟨p,b,e1,rfl,sp⟩:=Prs.at (K:=K) (ps:=ps) (RepL.mono (s1.trans s') hp) hi;refine Jfy sp rfl ?_;walk_at "rd";refine ifT rfl ?_;walk_at "rd";refine Jl6 sz2 fun t H2 nt s2 ht=>?_
   refine⟨_,_,rfl,s'.trans s2,?_⟩;rw[List.take_add_one,e1];exact Prs.snoc (RepL.mono s2 r) (JkJ ht)
  ·rintro ys σ' H' ⟨vb,vl,rfl,s',r⟩ l H2 nl s2 hl2;walk_at "rd";refine JgL (.of hl2) fun t H3 nt s3 ht=>?_
   walk_at "rd";have sA:Same H H3:=((s1.trans s').trans s2).trans s3;refine⟨x,C,dx,[],rfl,sA _ _ hx,T.cl,T.ns,by decide,?_⟩;rw[hn,List.take_length] at r;have r3:Prs K H3 ys ps:=RepL.mono (s2.trans s3) r;have ntx:t≠x:=JaA ht (sA _ _ hx) (by intro z;cases z);refine q _ t ys (sA.ex_trans SameEx.upd) (by rw[Jip];exact Jm) (by rw[Jf ntx];exact ht) ?_;exact Prs.monoIns SameEx.upd (sA _ _ hx) r3
theorem sc_closed_up:FnScope ["pairs","stretches","begin","length","ahead"] ["pairs"] (Jh UM):=by walk_at "c"
theorem Jbs{f:Qg}{fd:QJ}(F:Fun K "closed_up" "closed_up" UM f fd)(qG:mg "sum"=none):FnOk P w K mg base CX0 1 f fd ["pairs"] (spE K C 1 Yc) :=
 okE F sc_closed_up rfl fun _ _ _ _ _ _ hr hu=>⟨_,(Jd (psN 1 sc_closed_up.nd (UH Jc))
  (Jd (YI Gv rfl (piK K (pv 0)) (JG (K:=K) (n:=2) rfl rfl (Ji (JA (i:=2) sc_closed_up.nd rfl (.inl rfl)) (Ji (JA (i:=3) sc_closed_up.nd rfl (.inl rfl)) JH)) rfl rfl) (Jg (YK (PW.pt (JbC (Yz (K:=K) rfl (pv 1) (fun _=>rfl)) (WG (JY (V4 (K:=K) rfl hu) (JO (VP (K:=K) rfl rfl) rfl qG Jdq (Ja (pxK K (pv 1) (JcU ZG Je)) Jc)) (pv 2) (JU _))))) (Jd (psN 4 sc_closed_up.nd (JkA (K:=K) rfl GC PySem.F.slot_list_pop PySem.F.type_list_pop Jnf (pv 1)))
  (Jg (Y8 (Ve (K:=K) rfl GC Kb Kc Ui (pv 1) (Ja (Yy (Ja (pxK K (pv 4) Je) (Ja (Jk (Jv (K:=K) rfl) (pxK K (pv 4) Je) (pv 3)) Jc))) Jc))))) (Jg (YK (JY JcP (pv 3) Je (JU _)) (Jg (Y8 (Ve (K:=K) rfl GC Kb Kc Ui (pv 1) (Ja (Yy (Ja (pv 2) (Ja (pv 3) Jc))) Jc)))) Yo)))))
  (Jg (Jx (pv 1))))),by walk_at "s"⟩
theorem JbE:FnScope ["row","layers"] ["row","layers"] (Jh UL):=by walk_at "c"
theorem Jbr{f:Qg}{fd:QJ}(F:Fun K "by_layers" "by_layers" UL f fd)(qa:mg "enumerate"=none)(T:RowC K C):FnOk P w K mg base CX0 1 f fd ["row","layers"] (spE K C 2 Yb) :=
 okE F JbE rfl fun _ _ _ _ _ _ hr hu=>⟨_,(Jg (Jx (Yn (N':=["ahead","stretch","layers"]) (imp:=[none,none,some 1]) rfl (Zo (K:=K) rfl rfl qa (Ja (YF (K:=K) rfl (pv 0) rfl) Jc)) (Jjk (own:=["ahead","stretch"]) (fr:=[("layers",1)]) rfl rfl rfl ⟨rfl,trivial⟩ rfl ⟨⟨rfl,rfl,rfl⟩,trivial⟩) (fun _ _ _ _=>(JG (K:=K) (n:=2) rfl rfl (Ji (pgN 0 Jpp) (Ji (pgN 1 Jpp) JH)) rfl rfl)) (fun _ _ _ _=>Yk) (fun _ _ _ _=>(Yy (Ja (Jk (Jv (K:=K) rfl) (pxK K (pv 1) Je) (Jk Y0 (Jk Y0 Je (pv 2)) (pv 0))) (Ja (Jk (Jv (K:=K) rfl) (pxK K (pv 1) Je) (pv 2)) Jc))))))),by walk_at "s"⟩
theorem Jeb:FnScope ["row"] ["row"] (Jh Wa):=by walk_at "c"
theorem JdY{f:Qg}{fd:QJ}(F:Fun K "gaps_of" "gaps_of" Wa f fd)(qG:mg "sum"=none)(qQ:mg "zip"=none)(T:RowC K C):FnOk P w K mg base CX0 1 f fd ["row"] (spE K C 1 YT) :=
 okE F Jeb rfl fun _ _ _ _ _ _ hr hu=>⟨_,(Jg (Jx (Yn (N':=["left","right"]) (imp:=[none,none]) rfl (Jfo (K:=K) rfl rfl qQ (Ja (YF (K:=K) rfl (pv 0) rfl) (Ja (JcT (JfE (K:=K) rfl) (YF (K:=K) rfl (pv 0) rfl) (Jfq Je) Jfp) Jc))) (JbW rfl rfl) (fun _ _ _ _=>(JG (K:=K) (n:=2) rfl rfl (Ji (pgN 0 JcG) (Ji (pgN 1 JcG) JH)) rfl rfl)) (fun _ _ _ _=>Yk) (fun _ _ _ _=>(Jk Jy (pxK K (pv 1) Je) (JO (VP (K:=K) rfl rfl) rfl qG Jdq (Ja (pv 0) Jc))))))),by walk_at "s"⟩
theorem JbF:FnScope ["row"] ["row"] (Jh UN):=by walk_at "c"
theorem Jbt{f:Qg}{fd:QJ}(F:Fun K "closes_at" "closes_at" UN f fd)(qv:mg "min"=none)(qH:Cal P w K mg base "gaps_of" 1 ["row"] (spE K C 1 YT))(T:RowC K C):FnOk P w K mg base CX0 2 f fd ["row"] (spE K C 1 JF) :=
 okE F JbF rfl fun _ _ _ _ _ _ hr hu=>⟨_,(Jg (Jx (V5 (WP (K:=K) rfl rfl) rfl qv WO (Ja (Jk (Jv (K:=K) rfl) (Yn (N':=["begin","length"]) (imp:=[none,none]) rfl (piK K (YF (K:=K) rfl (pv 0) rfl)) (JbW rfl rfl) (fun _ _ _ _=>(JG (K:=K) (n:=2) rfl rfl (Ji (pgN 0 JgC) (Ji (pgN 1 JgC) JH)) rfl rfl)) (fun _ _ _ _=>Yk) (fun _ _ _ _=>(pv 1))) (Jj qH (hrM hr) rfl (Ja (pv 0) Jc))) Jc) Uv))),by walk_at "s"⟩
theorem sc_thinned:FnScope ["row","layers","left","still","at_once"] ["row","layers"] (Jh Wd):=by walk_at "c"
theorem Jd1{f:Qg}{fd:QJ}(F:Fun K "thinned" "thinned" Wd f fd)(qv:mg "min"=none)(qN:CalM P w K mg base "Row" C 2 ["self","stretches"] (We C K))(qz:Cal P w K mg base "closed_up" 1 ["pairs"] (spE K C 1 Yc))(qA:Cal P w K mg base "by_layers" 1 ["row","layers"] (spE K C 2 Yb))(qh:Cal P w K mg base "closes_at" 2 ["row"] (spE K C 1 JF))(T:RowC K C):FnOk P w K mg base CX0 4 f fd ["row","layers"] (spE K C 2 JT) :=
 okE F sc_thinned rfl fun _ _ _ _ _ _ hr hu=>⟨_,(Jd (psN 2 sc_thinned.nd (Zm qN (hrM hr) rfl (Ja (YF (K:=K) rfl (pv 0) rfl) Jc)))
  (Jd (psN 3 sc_thinned.nd (pv 1))
  (Jd (JcX Gv (PW.pt (JbC (JY JcP (pv 3) Je (JU _)) (WG (Yz (K:=K) rfl (YF (K:=K) rfl (pv 2) rfl) (fun _=>rfl))))) (Jd (psN 4 sc_thinned.nd (JO (VO rfl) rfl qv WO (Ja (pv 3) (Ja (Jj qh (hrM hr) rfl (Ja (pv 2) Jc)) Jc))))
  (Jd (psN 2 sc_thinned.nd (Zm qN (hrM hr) rfl (Ja (Jj qz (hrM hr) rfl (Ja (Jj qA (hrM hr) rfl (Ja (pv 2) (Ja (JcU ZG (pv 4)) Jc))) Jc)) Jc)))
  (Jg (Jd5 (i:=3) sc_thinned.nd rfl (.inl rfl) (pv 4) JmL)))))
  (Jg (Jx (pv 2)))))),by walk_at "s"⟩
theorem Jea:FnScope ["row","place"] ["row","place"] (Jh V8):=by walk_at "c"
theorem JdW{f:Qg}{fd:QJ}(F:Fun K "ball_at" "ball_at" V8 f fd)(qX:mg "any"=none)(T:RowC K C):FnOk P w K mg base CX0 1 f fd ["row","place"] (spE K C 2 YD) :=
 okE F Jea rfl fun _ _ _ _ _ _ hr hu=>⟨_,(Jg (Jx (JO (Jf3 (K:=K) rfl rfl) rfl qX Jma (Ja (Yn (N':=["begin","length","place"]) (imp:=[none,none,some 1]) rfl (piK K (YF (K:=K) rfl (pv 0) rfl)) (Jjk (own:=["begin","length"]) (fr:=[("place",1)]) rfl rfl rfl ⟨rfl,trivial⟩ rfl ⟨⟨rfl,rfl,rfl⟩,trivial⟩) (fun _ _ _ _=>(JG (K:=K) (n:=2) rfl rfl (Ji (pgN 0 Jpq) (Ji (pgN 1 Jpq) JH)) rfl rfl)) (fun _ _ _ _=>Yk) (fun _ _ _ _=>(JcQ Jfm JaB (pv 0) (pv 2) (Jk (Jv (K:=K) rfl) (pv 0) (pv 1))))) Jc)))),by walk_at "s"⟩
theorem Jec:FnScope ["left","spot"] ["left","spot"] (Jh Wb):=by walk_at "c"
theorem JdZ{f:Qg}{fd:QJ}(F:Fun K "owed_at" "owed_at" Wb f fd)(qD:Cal P w K mg base "ball_at" 1 ["row","place"] (spE K C 2 YD)):FnOk P w K mg base CX0 2 f fd ["left","spot"] (spE K C 2 YU) :=
 okE F Jec rfl fun _ _ _ _ _ _ hr hu=>⟨_,(Jg (Jx (Jie (PW.pt (JbC (Yz (K:=K) rfl (Jj qD (hrM hr) rfl (Ja (pv 0) (Ja (Jk Jy (pv 1) Je) Jc))) (fun _=>rfl)) (WG (JbB (Yz (K:=K) rfl (Jj qD (hrM hr) rfl (Ja (pv 0) (Ja (pv 1) Jc))) (fun _=>rfl)))))) Je Je))),by walk_at "s"⟩
theorem sc_struck:FnScope ["row","left","pairs","ahead","stretch","spot"] ["row"] (Jh Zt):=by walk_at "c"
theorem JgF{f:Qg}{fd:QJ}(F:Fun K "struck" "struck" Zt f fd)(qa:mg "enumerate"=none)(qG:mg "sum"=none)(qI:Cal P w K mg base "owed_at" 2 ["left","spot"] (spE K C 2 YU))(qk:Cal P w K mg base "thinned" 4 ["row","layers"] (spE K C 2 JT))(T:RowC K C):FnOk P w K mg base CX0 5 f fd ["row"] (spE K C 1 YQ) :=
 okE F sc_struck rfl fun _ _ _ _ _ _ hr hu=>⟨_,(Jd (Jd6 (i:=1) sc_struck.nd rfl (.inr rfl) (Jj qk (hrM hr) rfl (Ja (pv 0) (Ja Je Jc))))
  (Jd (psN 2 sc_struck.nd JcS)
  (Jd (YI Gv rfl (Zo (K:=K) rfl rfl qa (Ja (YF (K:=K) rfl (pv 0) rfl) Jc)) (JG (K:=K) (n:=2) rfl rfl (Ji (JA (i:=3) sc_struck.nd rfl (.inl rfl)) (Ji (JA (i:=4) sc_struck.nd rfl (.inl rfl)) JH)) rfl rfl) (Jd (psN 5 sc_struck.nd (Jk Jy (Jk Jy (JO (VP (K:=K) rfl rfl) rfl qG Jdq (Ja (pv 4) Jc)) Je) (Jk Y0 Je (pv 3))))
  (Jg (Jfs (Je0 hr) (pv 2) (pv 5) (Jk (Jv (K:=K) rfl) (JcR (Je0 hr) (pv 2) (pv 5) Je ⟨rfl,rfl,rfl,rfl⟩) Je) rfl))))
  (Jg (JkM 2 (Jx (Yn (N':=["spot","number","left"]) (imp:=[none,none,some 1]) rfl (Jii (pv 2)) (Jjk (own:=["spot","number"]) (fr:=[("left",1)]) rfl rfl rfl ⟨rfl,trivial⟩ rfl ⟨⟨rfl,rfl,rfl⟩,trivial⟩) (fun _ _ _ _=>(JG (K:=K) (n:=2) rfl rfl (Ji (pgN 0 Jpr) (Ji (pgN 1 Jpr) JH)) rfl rfl)) (fun _ _ _ _=>Yk) (fun _ _ _ _=>(Yy (Ja (pv 0) (Ja (pv 1) (Ja (Jj qI (hrM hr) rfl (Ja (pv 2) (Ja (pv 0) Jc))) Jc)))))))))))),by walk_at "s"⟩
theorem sc_table_of:FnScope ["row","table","left","size","layers"] ["row"] (Jh Vi):=by walk_at "c"
theorem JcN{f:Qg}{fd:QJ}(F:Fun K "table_of" "table_of" Vi f fd)(qk:Cal P w K mg base "thinned" 4 ["row","layers"] (spE K C 2 JT))(qO:Cal P w K mg base "struck" 5 ["row"] (spE K C 1 YQ))(qh:Cal P w K mg base "closes_at" 2 ["row"] (spE K C 1 JF))(T:RowC K C):FnOk P w K mg base CX0 6 f fd ["row"] (spE K C 1 Ya) :=
 okE F sc_table_of rfl fun _ _ _ _ _ _ hr hu=>⟨_,(Jd (psN 1 sc_table_of.nd (UH Jc))
  (Jd (psN 2 sc_table_of.nd (pv 0))
  (Jd (Jd6 (i:=3) sc_table_of.nd rfl (.inr rfl) Je)
  (Jd (JcX Gv (Yz (K:=K) rfl (YF (K:=K) rfl (pv 2) rfl) (fun _=>rfl)) (Jd (psN 4 sc_table_of.nd (Jj qh (hrM hr) rfl (Ja (pv 2) Jc)))
  (Jd (Jd5 (i:=3) sc_table_of.nd rfl (.inr rfl) (pv 4) JhL)
  (Jd (psN 2 sc_table_of.nd (Jj qk (hrM hr) rfl (Ja (pv 2) (Ja (Jk Jy (pv 4) Je) Jc))))
  (Jd (Y8 (Ve (K:=K) rfl GC Mz MA Jaz (pv 1) (Ja (Yn (N':=["spot","pairs","owed","size"]) (imp:=[none,none,none,some 3]) rfl (piK K (Jj qO (hrM hr) rfl (Ja (pv 2) Jc))) (Jjk (own:=["spot","pairs","owed"]) (fr:=[("size",3)]) rfl rfl rfl ⟨rfl,trivial⟩ rfl ⟨⟨rfl,rfl,rfl⟩,trivial⟩) (fun _ _ _ _=>(JG (K:=K) (n:=3) rfl rfl (Ji (pgN 0 Jnh) (Ji (pgN 1 Jnh) (Ji (pgN 2 Jnh) JH))) rfl rfl)) (fun _ _ _ _=>(JcV (JY JcP (pv 1) (pv 2) (JU _)))) (fun _ _ _ _=>(Yy (Ja (pv 3) (Ja (pv 0) (Ja (Jk Jy (pv 1) (pv 2)) Jc)))))) Jc)))
  (Jg (psN 2 sc_table_of.nd (Jj qk (hrM hr) rfl (Ja (pv 2) (Ja Je Jc))))))))))
  (Jg (Jx (pv 1))))))),by walk_at "s"⟩
theorem sc_lumps_apart:FnScope ["row","lumps","size","spot","number"] ["row"] (Jh Ug):=by walk_at "c"
theorem Zj{f:Qg}{fd:QJ}(F:Fun K "lumps_apart" "lumps_apart" Ug f fd)(qm:Cal P w K mg base "table_of" 6 ["row"] (spE K C 1 Ya)):FnOk P w K mg base CX0 7 f fd ["row"] (spE K C 1 JM) :=
 okE F sc_lumps_apart rfl fun _ _ _ _ _ _ hr hu=>⟨_,(Jd (psN 1 sc_lumps_apart.nd (UH Jc))
  (Jd (YI Gv rfl (piK K (Jj qm (hrM hr) rfl (Ja (pv 0) Jc))) (JG (K:=K) (n:=3) rfl rfl (Ji (JA (i:=2) sc_lumps_apart.nd rfl (.inl rfl)) (Ji (JA (i:=3) sc_lumps_apart.nd rfl (.inl rfl)) (Ji (JA (i:=4) sc_lumps_apart.nd rfl (.inl rfl)) JH))) rfl rfl) (Jg (Y8 (Ve (K:=K) rfl GC Mz MA Jaz (pv 1) (Ja (Jk Jnw (UH (Ja (Yy (Ja (pv 2) (Ja (pv 3) Jc))) Jc)) (pv 4)) Jc)))))
  (Jg (Jx (pv 1))))),by walk_at "s"⟩
theorem sc_far_lines:FnScope ["row","lines","left","size","spot"] ["row"] (Jh UO):=by walk_at "c"
theorem Jbu{f:Qg}{fd:QJ}(F:Fun K "far_lines" "far_lines" UO f fd)(qf:Cal P w K mg base "lumps_apart" 7 ["row"] (spE K C 1 JM)):FnOk P w K mg base CX0 8 f fd ["row"] (spE K C 1 Yu) :=
 okE F sc_far_lines rfl fun _ _ _ _ _ _ hr hu=>⟨_,(Jd (psN 1 sc_far_lines.nd (UH Jc))
  (Jd (psN 2 sc_far_lines.nd Je)
  (Jd (YI Gv rfl (piK K (Jj qf (hrM hr) rfl (Ja (pv 0) Jc))) (JG (K:=K) (n:=2) rfl rfl (Ji (JA (i:=3) sc_far_lines.nd rfl (.inl rfl)) (Ji (JA (i:=4) sc_far_lines.nd rfl (.inl rfl)) JH)) rfl rfl) (Jd (Y8 (Ve (K:=K) rfl GC Kb Kc Ui (pv 1) (Ja (Yy (Ja (pv 3) (Ja (Jk (Jv (K:=K) rfl) (pv 4) (Jk Y0 Je (pv 2))) Jc))) Jc)))
  (Jg (Jd5 (i:=2) sc_far_lines.nd rfl (.inl rfl) (pv 3) JhL))))
  (Jg (Jx (pv 1)))))),by walk_at "s"⟩
theorem sc_settles:FnScope ["row","pairs"] ["row"] (Jh Wc):=by walk_at "c"
theorem Jd0{f:Qg}{fd:QJ}(F:Fun K "settles" "settles" Wc f fd)(qY:mg "max"=none)(qg:Cal P w K mg base "neighbours" 1 ["lines"] (spE K C 1 JS))(qB:Cal P w K mg base "far_lines" 8 ["row"] (spE K C 1 Yu)):FnOk P w K mg base CX0 9 f fd ["row"] (spE K C 1 YV) :=
 okE F sc_settles rfl fun _ _ _ _ _ _ hr hu=>⟨_,(Jd (psN 1 sc_settles.nd (Jj qg (hrM hr) rfl (Ja (Jj qB (hrM hr) rfl (Ja (pv 0) Jc)) Jc)))
  (Jg (Jx (V5 (Jds (K:=K) rfl rfl) rfl qY Jmc (Ja (Yn (N':=["left","right"]) (imp:=[none,none]) rfl (piK K (pv 1)) (JbW rfl rfl) (fun _ _ _ _=>(JG (K:=K) (n:=2) rfl rfl (Ji (pgN 0 JcG) (Ji (pgN 1 JcG) JH)) rfl rfl)) (fun _ _ _ _=>Yk) (fun _ _ _ _=>(JcU ZG (Jk JcO (Jk Jy (Jk Jy (pxK K (pv 1) Je) (pxK K (pv 0) Je)) (Jk Y0 Je (pxK K (pv 0) Je))) (Jk Jy (pxK K (pv 1) Je) (pxK K (pv 0) Je)))))) Jc) Uv)))),by walk_at "s"⟩
theorem sc_early_lines:FnScope ["row","lumps"] ["row"] (Jh Ue):=by walk_at "c"
theorem Zh{f:Qg}{fd:QJ}(F:Fun K "early_lines" "early_lines" Ue f fd)(qa:mg "enumerate"=none)(qP:mg "sorted"=none)(qf:Cal P w K mg base "lumps_apart" 7 ["row"] (spE K C 1 JM))(aL:nsIn K mainGlobals "early_lines"=some (some (.ref f)))(hTs:(Y2 K).isSome=true)(hB:JaM mg base):FnOk P w K mg base CX0 8 f fd ["row"] (spE K C 1 J8) :=
 JqS F sc_early_lines rfl aL hTs rfl fun _ _ _ _ _ _ L hr hu=>⟨_,(Jd (psN 1 sc_early_lines.nd (Jig L hB (hrM hr) rfl rfl rfl rfl rfl rfl qP (Ja (Jj qf (hrM hr) rfl (Ja (pv 0) Jc)) Jc) (fun _ _ _ _=>rfl) (by decide) (by decide) rfl))
  (Jg (Jx (Yn (N':=["left","lump"]) (imp:=[none,none]) rfl (Zo (K:=K) rfl rfl qa (Ja (pv 1) Jc)) (JbW rfl rfl) (fun _ _ _ _=>(JG (K:=K) (n:=2) rfl rfl (Ji (pgN 0 Jps) (Ji (pgN 1 Jps) JH)) rfl rfl)) (fun _ _ _ _=>Yk) (fun _ _ _ _=>(Yy (Ja (pxK K (pv 1) Je) (Ja (Jk (Jv (K:=K) rfl) (pxK K (pv 1) Je) (Jk Y0 (Jk Y0 Je (pxK K (pv 1) Je)) (pv 0))) Jc)))))))),by walk_at "s"⟩
theorem sc_earlies:FnScope ["row","pairs"] ["row"] (Jh V9):=by walk_at "c"
theorem JdX{f:Qg}{fd:QJ}(F:Fun K "earlies" "earlies" V9 f fd)(qv:mg "min"=none)(qg:Cal P w K mg base "neighbours" 1 ["lines"] (spE K C 1 JS))(qt:Cal P w K mg base "early_lines" 8 ["row"] (spE K C 1 J8)):FnOk P w K mg base CX0 9 f fd ["row"] (spE K C 1 YS) :=
 okE F sc_earlies rfl fun _ _ _ _ _ _ hr hu=>⟨_,(Jd (psN 1 sc_earlies.nd (Jj qg (hrM hr) rfl (Ja (Jj qt (hrM hr) rfl (Ja (pv 0) Jc)) Jc)))
  (Jg (Jx (V5 (WP (K:=K) rfl rfl) rfl qv WO (Ja (Yn (N':=["left","right"]) (imp:=[none,none]) rfl (piK K (pv 1)) (JbW rfl rfl) (fun _ _ _ _=>(JG (K:=K) (n:=2) rfl rfl (Ji (pgN 0 JcG) (Ji (pgN 1 JcG) JH)) rfl rfl)) (fun _ _ _ _=>Yk) (fun _ _ _ _=>(Jk JcO (Jk Jy (Jk Jy (Jk Jy (pxK K (pv 1) Je) (pxK K (pv 0) Je)) (pxK K (pv 0) Je)) (pxK K (pv 1) Je)) (Jk Jy (pxK K (pv 0) Je) (pxK K (pv 1) Je))))) Jc) Uv)))),by walk_at "s"⟩
theorem sc_lumps_of:FnScope ["row","numbers","size","spot","number"] ["row"] (Jh Vh):=by walk_at "c"
theorem JcM{f:Qg}{fd:QJ}(F:Fun K "lumps_of" "lumps_of" Vh f fd)(qU:mg "list"=none)(qm:Cal P w K mg base "table_of" 6 ["row"] (spE K C 1 Ya)):FnOk P w K mg base CX0 7 f fd ["row"] (spE K C 1 YG) :=
 okE F sc_lumps_of rfl fun _ _ _ _ _ _ hr hu=>⟨_,(Jd (psN 1 sc_lumps_of.nd JcS)
  (Jd (YI Gv rfl (piK K (Jj qm (hrM hr) rfl (Ja (pv 0) Jc))) (JG (K:=K) (n:=3) rfl rfl (Ji (JA (i:=2) sc_lumps_of.nd rfl (.inl rfl)) (Ji (JA (i:=3) sc_lumps_of.nd rfl (.inl rfl)) (Ji (JA (i:=4) sc_lumps_of.nd rfl (.inl rfl)) JH))) rfl rfl) (Jg (Jfs (Je0 hr) (pv 1) (pv 2) (Jk (Jv (K:=K) rfl) (JcR (Je0 hr) (pv 1) (pv 2) Je ⟨rfl,rfl,rfl,rfl⟩) (pv 4)) rfl)))
  (Jg (Jx (V6 (Jdr rfl) rfl qU Jjo (Ja (Jif (pv 1)) Jc)))))),by walk_at "s"⟩
theorem Jc1:FnScope ["script","k"] ["script","k"] (Jh Vg):=by walk_at "c"
theorem JcL{f:Qg}{fd:QJ}(F:Fun K "_law_cell" "_law_cell" Vg f fd)(qo:mg "len"=none):FnOk P w K mg base CX0 1 f fd ["script","k"] (spE K C 2 JQ) :=
 okE F Jc1 rfl fun _ _ _ _ _ _ hr hu=>⟨_,(Jd (YK (JY JaB (pv 1) (JO (YO (K:=K) rfl) rfl qo VN (Ja (pv 0) Jc)) (JU _)) (Jg (Jx (pxK K (pv 0) (pv 1)))) Yo)
  (Jg (Jx Je))),by walk_at "s"⟩
theorem sc_law_drawn:FnScope ["script","first","many","span","at","row","k","length"] ["script","first","many","span"] (Jh UP):=by walk_at "c"
theorem Jbv{f:Qg}{fd:QJ}(F:Fun K "_law_drawn" "_law_drawn" UP f fd)(qd:mg "range"=none)(qe:Cal P w K mg base "_law_cell" 1 ["script","k"] (spE K C 2 JQ)):FnOk P w K mg base CX0 2 f fd ["script","first","many","span"] (spE K C 4 Yd) :=
 okE F sc_law_drawn rfl fun _ _ _ _ _ _ hr hu=>⟨_,(Jd (psN 4 sc_law_drawn.nd (Jk Jy (Jk Zk (Jj qe (hrM hr) rfl (Ja (pv 0) (Ja (pv 1) Jc))) (Jk (Jv (K:=K) rfl) (Jk Y0 Je (pv 3)) Je)) (pv 3)))
  (Jd (psN 5 sc_law_drawn.nd (UH Jc))
  (Jd (YI Gv rfl (Uj rfl qd (Ja (pv 2) Jc)) (JA (i:=6) sc_law_drawn.nd rfl (.inl rfl)) (Jd (psN 7 sc_law_drawn.nd (Jk (Jv (K:=K) rfl) Je (Jk Zk (Jj qe (hrM hr) rfl (Ja (pv 0) (Ja (Jk (Jv (K:=K) rfl) (Jk (Jv (K:=K) rfl) (pv 1) Je) (Jk Y0 Je (pv 6))) Jc))) (pv 3))))
  (Jd (Y8 (Ve (K:=K) rfl GC Kb Kc Ui (pv 5) (Ja (Yy (Ja (pv 4) (Ja (pv 7) Jc))) Jc)))
  (Jg (psN 4 sc_law_drawn.nd (Jk (Jv (K:=K) rfl) (Jk (Jv (K:=K) rfl) (Jk (Jv (K:=K) rfl) (pv 4) (pv 7)) Je) (Jk Zk (Jj qe (hrM hr) rfl (Ja (pv 0) (Ja (Jk (Jv (K:=K) rfl) (Jk (Jv (K:=K) rfl) (pv 1) Je) (Jk Y0 Je (pv 6))) Jc))) (pv 3))))))))
  (Jg (Jx (pv 5)))))),by walk_at "s"⟩
theorem sc_law:FnScope ["script","lead","drawn","row","due","which","found","step"] ["script"] (Jh VC):=by walk_at "c"
theorem Jno{f:Qg}{fd:QJ}(F:Fun K "law" "law" VC f fd)(qC:mg "tuple"=none)(qd:mg "range"=none)(qo:mg "len"=none)(qu:Cal P w K mg base "_law_number" 1 ["found"] (spE K C 1 Yj))(qw:Cal P w K mg base "_law_at" 3 ["row","times","back_too"] (spE K C 3 JL))(qJ:Cal P w K mg base "settles" 9 ["row"] (spE K C 1 YV))(qK:Cal P w K mg base "earlies" 9 ["row"] (spE K C 1 YS))(qF:Cal P w K mg base "lumps_of" 7 ["row"] (spE K C 1 YG))(qN:CalM P w K mg base "Row" C 2 ["self","stretches"] (We C K))(qy:Cal P w K mg base "_law_drawn" 2 ["script","first","many","span"] (spE K C 4 Yd))(qe:Cal P w K mg base "_law_cell" 1 ["script","k"] (spE K C 2 JQ))(T:RowC K C):FnOk P w K mg base CX0 10 f fd ["script"] (spE K C 1 Jdx) :=
 okE F sc_law rfl fun _ _ _ _ _ _ hr hu=>⟨_,(Jd (psN 1 sc_law.nd (Jj qe (hrM hr) rfl (Ja (pv 0) (Ja Je Jc))))
  (Jd (psN 2 sc_law.nd (Jj qy (hrM hr) rfl (Ja (pv 0) (Ja Je (Ja (Jk Zk (pv 1) Je) (Ja (pxK K (UH (Ja Je (Ja Je Jc))) (Jk Zk (Jk Jky (pv 1) Je) Je)) Jc))))))
  (Jd (psN 3 sc_law.nd (Zm qN (hrM hr) rfl (Ja (pv 2) Jc)))
  (Jd (psN 4 sc_law.nd (VA JaB (JO (YO (K:=K) rfl) rfl qo VN (Ja (Jj qF (hrM hr) rfl (Ja (pv 3) Jc)) Jc)) Je (JU _)))
  (Jd (YI Gv rfl (Uj rfl qd (Ja Je Jc)) (JA (i:=5) sc_law.nd rfl (.inl rfl)) (Jd (YK (JY (V4 (K:=K) rfl hu) (pv 5) Je (JU _)) (Jg (psN 6 sc_law.nd (Jj qJ (hrM hr) rfl (Ja (pv 3) Jc)))) (Jg (psN 6 sc_law.nd (Jj qK (hrM hr) rfl (Ja (pv 3) Jc)))))
  (Jg (YK (Yz (K:=K) rfl (pv 4) (fun _=>rfl)) (Jg (YK (JY Zl (pv 6) Uv (JU _)) (Jg (Jx JaC)) Yo)) (Jg (YK (JbB (Yz (K:=K) rfl (Jj qu (hrM hr) rfl (Ja (pv 6) Jc)) (fun _=>rfl))) (Jg (Jx JaC)) (Jd (psN 7 sc_law.nd (Jk Jy Je (Jk Y0 Je (pv 5))))
  (Jd (YK (PW.pt (JlP (JbB (Yz (K:=K) rfl (Jj qw (hrM hr) rfl (Ja (pv 2) (Ja (pv 6) (Ja (VA (V4 (K:=K) rfl hu) (pv 5) Je (JU _)) Jc)))) (fun _=>rfl))) (Jis (Yz (K:=K) rfl (Jj qw (hrM hr) rfl (Ja (pv 2) (Ja (Jk Jy (pv 6) (pv 7)) (Ja (VA (V4 (K:=K) rfl hu) (pv 5) Je (JU _)) Jc)))) (fun _=>rfl))))) (Jg (Jx JaC)) Yo)
  (Jg (YK (JbB (Yz (K:=K) rfl (Jj qw (hrM hr) rfl (Ja (pv 2) (Ja (Jk (Jv (K:=K) rfl) (pv 6) (pv 7)) (Ja (VA (V4 (K:=K) rfl hu) (pv 5) Je (JU _)) Jc)))) (fun _=>rfl))) (Jg (Jx JaC)) Yo))))))))))
  (Jg (Jx (VA (V4 (K:=K) rfl hu) (YF (K:=K) rfl (pv 3) rfl) (V6 (Wk (K:=K) rfl) rfl qC JbZ (Ja (pv 2) Jc)) (JU _))))))))),by walk_at "s"⟩
end
theorem vl1{α:Type}{us:List α}(h:us.length=1):∃a,us=[a]:=match us,h with|[a],_=>⟨a,rfl⟩
theorem vl2{α:Type}{us:List α}(h:us.length=2):∃a b,us=[a,b]:=match us,h with|[a,b],_=>⟨a,b,rfl⟩
theorem vl3{α:Type}{us:List α}(h:us.length=3):∃a b c,us=[a,b,c]:=match us,h with|[a,b,c],_=>⟨a,b,c,rfl⟩
theorem vl4{α:Type}{us:List α}(h:us.length=4):∃a b c d,us=[a,b,c,d]:=match us,h with|[a,b,c,d],_=>⟨a,b,c,d,rfl⟩
local macro_rules | `(tactic| walk_at "b")=>`(tactic| (intro _ _ _ _ _ _ us hl;first | (obtain⟨_,e⟩:=vl1 hl;subst e;rfl) | (obtain⟨_,_,e⟩:=vl2 hl;subst e;rfl) | (obtain⟨_,_,_,e⟩:=vl3 hl;subst e;rfl) | (obtain⟨_,_,_,_,e⟩:=vl4 hl;subst e;rfl)))
theorem all_mk{l:PySem.W.OpenLaw}{w:QH}{K:Qz}{h:QP}{mg:Str->Option Qe}{fa:Qg}{C:Qg}{f27:Qg}{od27 an27:Option Qg}{sl27:Array (Option Qe)}{oc27 kV27 dc27 pm27 cd27 ct27:Qe}{f1 f2 f3 f4 f5 f6 f7 f8 f9 f10 f11 f12 f13 f14 f15 f16 f17 f18 f19 f20 f21 f22 f23 f24 f25 f26:Qg}{d1 d2 d3 d4 d5 d6 d7 d8 d9 d10 d11 d12 d13 d14 d15 d16 d17 d18 d19 d20 d21 d22 d23 d24 d25 d26:QJ}{qL:Tok}(X:K.In h)(G:h.Ns mainGlobals mg)(hfa:mg "law"=some (.ref fa))
 (aC:nsIn K mainGlobals "Row"=some (some (.ref C)))
 (a1:nsIn K mainGlobals "_law_number"=some (some (.ref f1)))
 (F1:Fun K "_law_number" "_law_number" Uw f1 d1)
 (a2:nsIn K mainGlobals "_law_settled"=some (some (.ref f2)))
 (F2:Fun K "_law_settled" "_law_settled" Uf f2 d2)
 (a3:nsIn K mainGlobals "_law_turned"=some (some (.ref f3)))
 (F3:Fun K "_law_turned" "_law_turned" Ux f3 d3)
 (a4:nsIn K mainGlobals "_law_ferry"=some (some (.ref f4)))
 (F4:Fun K "_law_ferry" "_law_ferry" UQ f4 d4)
 (a5:nsIn K mainGlobals "_law_steps"=some (some (.ref f5)))
 (F5:Fun K "_law_steps" "_law_steps" UR f5 d5)
 (a6:nsIn K mainGlobals "_law_at"=some (some (.ref f6)))
 (F6:Fun K "_law_at" "_law_at" Zs f6 d6)
 (a7:nsIn K mainGlobals "neighbours"=some (some (.ref f7)))
 (F7:Fun K "neighbours" "neighbours" Uy f7 d7)
 (a8:nsIn K mainGlobals "check_stretches"=some (some (.ref f8)))
 (F8:Fun K "check_stretches" "check_stretches" YA f8 d8)
 (a9:findIn K (.ref C) "__init__"=some (some (.ref f9)))
 (i9:isFn K (.ref f9)=true)
 (F9:Fun K "__init__" "Row.__init__" Vf f9 d9)
 (a10:nsIn K mainGlobals "closed_up"=some (some (.ref f10)))
 (F10:Fun K "closed_up" "closed_up" UM f10 d10)
 (a11:nsIn K mainGlobals "by_layers"=some (some (.ref f11)))
 (F11:Fun K "by_layers" "by_layers" UL f11 d11)
 (a12:nsIn K mainGlobals "gaps_of"=some (some (.ref f12)))
 (F12:Fun K "gaps_of" "gaps_of" Wa f12 d12)
 (a13:nsIn K mainGlobals "closes_at"=some (some (.ref f13)))
 (F13:Fun K "closes_at" "closes_at" UN f13 d13)
 (a14:nsIn K mainGlobals "thinned"=some (some (.ref f14)))
 (F14:Fun K "thinned" "thinned" Wd f14 d14)
 (a15:nsIn K mainGlobals "ball_at"=some (some (.ref f15)))
 (F15:Fun K "ball_at" "ball_at" V8 f15 d15)
 (a16:nsIn K mainGlobals "owed_at"=some (some (.ref f16)))
 (F16:Fun K "owed_at" "owed_at" Wb f16 d16)
 (a17:nsIn K mainGlobals "struck"=some (some (.ref f17)))
 (F17:Fun K "struck" "struck" Zt f17 d17)
 (a18:nsIn K mainGlobals "table_of"=some (some (.ref f18)))
 (F18:Fun K "table_of" "table_of" Vi f18 d18)
 (a19:nsIn K mainGlobals "lumps_apart"=some (some (.ref f19)))
 (F19:Fun K "lumps_apart" "lumps_apart" Ug f19 d19)
 (a20:nsIn K mainGlobals "far_lines"=some (some (.ref f20)))
 (F20:Fun K "far_lines" "far_lines" UO f20 d20)
 (a21:nsIn K mainGlobals "settles"=some (some (.ref f21)))
 (F21:Fun K "settles" "settles" Wc f21 d21)
 (a22:nsIn K mainGlobals "early_lines"=some (some (.ref f22)))
 (F22:Fun K "early_lines" "early_lines" Ue f22 d22)
 (a23:nsIn K mainGlobals "earlies"=some (some (.ref f23)))
 (F23:Fun K "earlies" "earlies" V9 f23 d23)
 (a24:nsIn K mainGlobals "lumps_of"=some (some (.ref f24)))
 (F24:Fun K "lumps_of" "lumps_of" Vh f24 d24)
 (a25:nsIn K mainGlobals "_law_cell"=some (some (.ref f25)))
 (F25:Fun K "_law_cell" "_law_cell" Vg f25 d25)
 (a26:nsIn K mainGlobals "_law_drawn"=some (some (.ref f26)))
 (F26:Fun K "_law_drawn" "_law_drawn" UP f26 d26)
 (a27:nsIn K mainGlobals "law"=some (some (.ref f27)))
 (l27:K.lookup f27=some ⟨oc27,od27,.func (fnOf "law" "law" (Us VC) (Ym VC) (Jh VC) .none kV27 dc27 pm27 an27 cd27 ct27),sl27⟩)
 (c27:codeIn K cd27 "law"=true)
 (k27:keepIn K (.ref f27)=true)
 (pg:plainGet K C Str.empty=true)
 (hd:hasDictIn K C=true)
 (po:plainOver K C=true)
 (sa:findIn K (.ref C) "__setattr__"=some (some (.builtin "object.__setattr__")))
 (mk:makesIn K C=true)
 (kc:keepIn K (.ref C)=true)
 (nS:findIn K (.ref C) "stretches"=some none)
 (qR:nsIn K mainGlobals "isinstance"=some none)
 (wa:nsIn K mainGlobals "bool"=some none)
 (wc:nsIn K mainGlobals "int"=some none)
 (q5:nsIn K mainGlobals "range"=some none)
 (wd:nsIn K mainGlobals "len"=some none)
 (qV:nsIn K mainGlobals "reversed"=some none)
 (we:nsIn K mainGlobals "min"=some none)
 (wf:nsIn K mainGlobals "zip"=some none)
 (q9:nsIn K mainGlobals "tuple"=some none)
 (wg:nsIn K mainGlobals "sum"=some none)
 (qS:nsIn K mainGlobals "enumerate"=some none)
 (wj:nsIn K mainGlobals "any"=some none)
 (wk:nsIn K mainGlobals "max"=some none)
 (qZ:nsIn K mainGlobals "sorted"=some none)
 (wb:nsIn K mainGlobals "list"=some none)
 (qM:nsIn K mainGlobals "MOST_STRETCHES"=some (some (.int 30 qL)))
 (hTs:(Y2 K).isSome=true)
:∃fd:QJ,(∀(s:Qh) (v:Qe),BindsTo s fd ⟨[v],[]⟩ [("script",v)])/\∀base:QP,K.In base->base.Ns mainGlobals mg->JaM mg base->FnOk l.prog w K mg base CX0 10 fa fd ["script"] (JbJ K):=by
 have e:=hfa.symm.trans (mg_of X G a27);cases e
 have T:RowC K C:=⟨⟨pg,hd,po,sa⟩,nS⟩
 have wl:=mg_of X G aC
 have qp:=mg_none_of X G qR
 have qT:=mg_none_of X G wa
 have qW:=mg_none_of X G wc
 have qd:=mg_none_of X G q5
 have qo:=mg_none_of X G wd
 have qE:=mg_none_of X G qV
 have qv:=mg_none_of X G we
 have qQ:=mg_none_of X G wf
 have qC:=mg_none_of X G q9
 have qG:=mg_none_of X G wg
 have qa:=mg_none_of X G qS
 have qX:=mg_none_of X G wj
 have qY:=mg_none_of X G wk
 have qP:=mg_none_of X G qZ
 have qU:=mg_none_of X G wb
 have qj:GV mg "MOST_STRETCHES" (.int 30):=⟨_,mg_of X G qM,⟨_,rfl⟩⟩
 have F27:=JhB (st:=VC) l27 c27 k27;refine⟨fnOf "law" "law" (Us VC) (Ym VC) (Jh VC) .none kV27 dc27 pm27 an27 cd27 ct27,fun s v=>.of_eq rfl,fun base _ _ hB=>?_⟩
 have aL:=a22
 have Z:PB l.prog w base:=⟨⟩
 have qu:=JD Z F1 (ZO (C:=C) F1 qp qT qW) (mg_of X G a1) (by walk_at "b")
 have qr:=JD Z F2 (Zi (C:=C) F2 qd qo) (mg_of X G a2) (by walk_at "b")
 have qb:=JD Z F3 (ZP (C:=C) F3 qE) (mg_of X G a3) (by walk_at "b")
 have qq:=JD Z F4 (Jbw (C:=C) F4 qd qo qv) (mg_of X G a4) (by walk_at "b")
 have qx:=JD Z F5 (Jbx (C:=C) F5 qd qb qq) (mg_of X G a5) (by walk_at "b")
 have qw:=JD Z F6 (JgE (C:=C) F6 qr qb qx) (mg_of X G a6) (by walk_at "b")
 have qg:=JD Z F7 (ZQ (C:=C) F7 qQ) (mg_of X G a7) (by walk_at "b")
 have qi:=JD Z F8 (Vd F8 ) (mg_of X G a8) (by walk_at "b")
 have qN:CalM l.prog w K mg base "Row" C 2 ["self","stretches"] (We C K):=⟨f9,_,⟨mk,a9,i9,kc⟩,JcK F9 qC qo qj qi T,wl,F9.binds (by walk_at "b")⟩
 have qz:=JD Z F10 (Jbs (C:=C) F10 qG) (mg_of X G a10) (by walk_at "b")
 have qA:=JD Z F11 (Jbr (C:=C) F11 qa T) (mg_of X G a11) (by walk_at "b")
 have qH:=JD Z F12 (JdY (C:=C) F12 qG qQ T) (mg_of X G a12) (by walk_at "b")
 have qh:=JD Z F13 (Jbt (C:=C) F13 qv qH T) (mg_of X G a13) (by walk_at "b")
 have qk:=JD Z F14 (Jd1 (C:=C) F14 qv qN qz qA qh T) (mg_of X G a14) (by walk_at "b")
 have qD:=JD Z F15 (JdW (C:=C) F15 qX T) (mg_of X G a15) (by walk_at "b")
 have qI:=JD Z F16 (JdZ (C:=C) F16 qD) (mg_of X G a16) (by walk_at "b")
 have qO:=JD Z F17 (JgF (C:=C) F17 qa qG qI qk T) (mg_of X G a17) (by walk_at "b")
 have qm:=JD Z F18 (JcN (C:=C) F18 qk qO qh T) (mg_of X G a18) (by walk_at "b")
 have qf:=JD Z F19 (Zj (C:=C) F19 qm) (mg_of X G a19) (by walk_at "b")
 have qB:=JD Z F20 (Jbu (C:=C) F20 qf) (mg_of X G a20) (by walk_at "b")
 have qJ:=JD Z F21 (Jd0 (C:=C) F21 qY qg qB) (mg_of X G a21) (by walk_at "b")
 have qt:=JD Z F22 (Zh (C:=C) F22 qa qP qf aL hTs hB) (mg_of X G a22) (by walk_at "b")
 have qK:=JD Z F23 (JdX (C:=C) F23 qv qg qt) (mg_of X G a23) (by walk_at "b")
 have qF:=JD Z F24 (JcM (C:=C) F24 qU qm) (mg_of X G a24) (by walk_at "b")
 have qe:=JD Z F25 (JcL (C:=C) F25 qo) (mg_of X G a25) (by walk_at "b")
 have qy:=JD Z F26 (Jbv (C:=C) F26 qd qe) (mg_of X G a26) (by walk_at "b");exact JhZ (Jno (C:=C) F27 qC qd qo qu qw qJ qK qF qN qy qe T) law_true
theorem walk{l:PySem.W.OpenLaw}{q:Qy}{loose:List Str}{XP:(Str->Option Qe)->QP->Prop}{YP:QH->QP->Prop}{d:DefRec}{K:Params->Qz}{Pt:Qg}(hn:l.most=some 63)(hdf:d.params.defaults=[])
 (hY:∀(w:QH) (h:QP),YP w h->(K w.params).In h/\h.get? Pt=some { cls:=.none,data:=.fields #[] })
 (hT:∀w:QH,(Y2 (K w.params)).map (·.1)=some Pt) (hKP:∀w:QH,(K w.params).lookup Pt=none)
 (F:∀(w:QH) (mg:Str->Option Qe) (fa:Qg) (h:QP),(K w.params).In h->h.Ns mainGlobals mg->mg d.name=some (.ref fa) ->
  ∃fd:QJ,(∀(s:Qh) (u:Qe),BindsTo s fd ⟨[u],[]⟩ [("script",u)])/\∀base:QP,(K w.params).In base->base.Ns mainGlobals mg->JaM mg base->FnOk l.prog w (K w.params) mg base CX0 10 fa fd ["script"] (JbJ (K w.params))) :
 PySem.W.WalkO q loose XP YP l.row.toRowW d [] (fun f vs=>PySem.call f vs) :=
 L2.Ji3 (n:=63) (k:=10) (x:="script") (CX:=fun _=>CX0) (sp:=fun w=>JbJ (K w.params)) hn (by decide) hdf ⟨rfl,by decide,by decide⟩ hY hT hKP F (fun _ _ a ns hl tk hS=>⟨tk,a,ns,rfl,hS,hl,fun _=>rfl⟩) fun _ _ _ _ _ z=>z
end LK
end
namespace PySem.W.Fast
theorem tw10558086959499950207:True:=⟨⟩
theorem tw8649908463001938538:True:=⟨⟩
theorem tw5468316363041818810:True:=⟨⟩
theorem tw15610514558589347290:True:=⟨⟩
theorem tw4675998107896082250:True:=⟨⟩
theorem tw203272086878568287:True:=⟨⟩
theorem tw6728382663633147891:True:=⟨⟩
theorem tw14372524695997161251:True:=⟨⟩
theorem tw2796580060532508096:True:=⟨⟩
theorem tw5795147056189937270:True:=⟨⟩
theorem tw10700367281146651813:True:=⟨⟩
theorem tw12030247682301820448:True:=⟨⟩
theorem tw7639506298654258103:True:=⟨⟩
theorem tw17905568527412401864:True:=⟨⟩
theorem tw18373829190856824938:True:=⟨⟩
theorem tw10216606936663748009:True:=⟨⟩
theorem tw9425025546746101328:True:=⟨⟩
theorem tw5793382581657671604:True:=⟨⟩
theorem tw3116403688098943313:True:=⟨⟩
theorem tw558609403081508740:True:=⟨⟩
theorem tw12500648515312726855:True:=⟨⟩
theorem tw1342271138251705865:True:=⟨⟩
theorem tw8701778208810920466:True:=⟨⟩
theorem tw4974679210667965071:True:=⟨⟩
theorem tw15596764950300935915:True:=⟨⟩
theorem tw13978099819809087206:True:=⟨⟩
theorem tw10892620819959423972:True:=⟨⟩
theorem tw5041083106346775838:True:=⟨⟩
theorem tw6890610145629961769:True:=⟨⟩
theorem tw13024239305761019853:True:=⟨⟩
theorem tw16887877019043089650:True:=⟨⟩
theorem tw6221537198575242955:True:=⟨⟩
theorem tw341013315461143564:True:=⟨⟩
theorem tw14088974131873705480:True:=⟨⟩
theorem tw4019571129822802076:True:=⟨⟩
theorem tw15981269689016659454:True:=⟨⟩
theorem tw7209153441273863111:True:=⟨⟩
theorem tw9910527328972237706:True:=⟨⟩
theorem tw2208557519320027153:True:=⟨⟩
theorem tw6053273626200862736:True:=⟨⟩
theorem tw7607870515677837022:True:=⟨⟩
theorem tw16293087284284384074:True:=⟨⟩
theorem tw7009271700546787364:True:=⟨⟩
theorem tw14633832214638571841:True:=⟨⟩
theorem tw8044710210569652772:True:=⟨⟩
theorem tw16690488524196710194:True:=⟨⟩
theorem tw625843514901691592:True:=⟨⟩
theorem tw2015342783808852190:True:=⟨⟩
theorem tw15099800044483064368:True:=⟨⟩
theorem tw4415510363845033821:True:=⟨⟩
theorem tw7617792105765760027:True:=⟨⟩
theorem tw14556748164768814610:True:=⟨⟩
theorem tw16699884263449696415:True:=⟨⟩
theorem tw9404841266436098954:True:=⟨⟩
theorem tw15793893911880017890:True:=⟨⟩
theorem tw13457157945636529129:True:=⟨⟩
theorem tw11796157728886920201:True:=⟨⟩
theorem tw14821480286644201636:True:=⟨⟩
theorem tw2045545456759111548:True:=⟨⟩
theorem tw2257732629609560042:True:=⟨⟩
theorem tw10145332040796189416:True:=⟨⟩
theorem tw14835351846963964565:True:=⟨⟩
theorem tw6096386126345264803:True:=⟨⟩
theorem tw570323981889579531:True:=⟨⟩
theorem tw13013064575890870816:True:=⟨⟩
theorem tw16650641283168871659:True:=⟨⟩
theorem tw6412777991034048357:True:=⟨⟩
theorem tw1624666399460969784:True:=⟨⟩
theorem tw5204543802589273458:True:=⟨⟩
theorem tw1532300633092066304:True:=⟨⟩
theorem tw3472512143416685057:True:=⟨⟩
theorem tw5289457087405993144:True:=⟨⟩
theorem tw11391298780740759729:True:=⟨⟩
theorem tw15552301233159735420:True:=⟨⟩
theorem tw17569790961978902323:True:=⟨⟩
theorem tw1992467534516862328:True:=⟨⟩
theorem tw13261878309775560402:True:=⟨⟩
theorem tw8510334965545436408:True:=⟨⟩
theorem tw15919271222343470160:True:=⟨⟩
theorem tw427026640360972903:True:=⟨⟩
theorem tw16194812147358328659:True:=⟨⟩
theorem tw5173628239679298913:True:=⟨⟩
theorem tw8165707687134873380:True:=⟨⟩
theorem tw13748340809205438203:True:=⟨⟩
theorem tw16435277549345074940:True:=⟨⟩
theorem tw16266415388899439862:True:=⟨⟩
theorem tw10338842219862005818:True:=⟨⟩
theorem tw9993579521042709947:True:=⟨⟩
theorem tw8634573883056081294:True:=⟨⟩
theorem tw13081581208129120212:True:=⟨⟩
end PySem.W.Fast
open PySem PySem.W PyProof.Rows
set_option maxRecDepth 100000 in
set_option maxHeartbeats 0 in
theorem PySem.Challenge.cw_lumprow_k50_settles_by_goings_holds : PySem.Challenge.rw_lumprow_k50_settles_by_goings.Holds := by
 w_on; o_law; k_head; (case hw => w_witness2)
 k_fill
 refine LK.walk (l := PySem.Challenge.rw_lumprow_k50_settles_by_goings) rfl rfl (fun w h Y => ⟨PySem.W.km_in_of Y, PySem.W.km_tabs_of Y _ (List.Mem.head _)⟩) (fun w => ?hT) (fun w => ?hKP) ?F
 case hT => kernel_rfl
 case hKP => kernel_rfl
 case F =>
  intro w mg fa h KX G hmg; apply LK.all_mk KX G hmg; all_goals first | exact L2.JhB (by k_is) (by k_is) (by k_is) | k_is | kernel_rfl
