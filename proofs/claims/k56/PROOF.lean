import PyProof.Rows.All
import Wide.All
import OpenK.AllK
import Wide.FinOn
import Lean
import PyProof.EqAt
import PyProof.EqKinds
import PyProof.TupleCall
import PySem.Challenge.RW_lumprow_k56_counts_by_trial
open Array renaming length_toList→QX,getElem?_eq_some_iff→G9,getElem?_eq_getElem→Kq,forIn_toList→KJ,getD_eq_getD_getElem?→K1,getElem?_toList→M5,getElem_toList→Re
open Bool renaming false_ne_true→Qz,and_eq_true→QU,false_eq_true→Gd,eq_iff_iff→KN,not_true→KR,or_eq_true→MX
open False renaming elim→GJ
open Int renaming toNat_natCast→GH,fdiv_eq_ediv_of_nonneg→Kk,le_of_lt→Lo
open List renaming getElem?_eq_some_iff→Qi,mem_cons_of_mem→Qq,mem_cons→Qr,getElem?_set→Qv,getElem?_map→Qy,getElem?_append_left→QA,length_map→QB,mem_cons_self→QD,mem_of_getElem?→QG,replicate→QQ,getElem?_set_ne→QS,size_toArray→QW,mem_iff_getElem?→Q0,getElem?_append_right→Q2,mem_map→Gb,nodup_cons→Gc,getElem?_eq_getElem→Gh,mem_singleton→Gi,mem_nil_iff→Gj,map_cons→Gx,mem_append_right→GF,mem_append→GL,map_append→GN,drop_eq_getElem_cons→GP,range→GS,eq_nil_of_length_eq_zero→GW,map_map→Kh,all_eq_true→Kj,pairwise_cons→Ko,replicate_succ→Ky,cons_append→KE,dropLast_eq_take→KS,getElem?_eq_none→KW,any_eq_true→K6,length_cons→K7,drop_length→K8,pairwise_iff_getElem→Ld,length_reverse→Le,map_congr_left→Lf,append_nil→Li,of_mem_zip→Lj,length_append→Lk,flatten_cons→Lr,nodup_append→Lv,length_range→Lw,getElem?_reverse→Lz,length_singleton→LA,length_take→LD,ext_getElem→LH,mem_iff_getElem→LM,pairwise_append→LO,find?_cons→LP,forIn_cons→LS,length_zip→LU,filterMap_cons→LY,forIn_nil→Mb,getElem?_zip_eq_some→Mf,getElem?_inj→Mp,getElem_inj→Mx,length_drop→MA,getElem_mem→MD,pairwise_singleton→MH,eraseIdx_cons_succ→MI,getElem?_set_self→MO,map_nil→MS,zip_append→MW,length_set→MZ,length_nil→M0,getElem?_zipWith→M3,mem_append_left→M9,any_cons→Rk
open List.cons renaming injEq→RA
open Nat renaming le_refl→Qn,ne_of_lt→Qw,le_trans→QJ,lt_of_lt_of_le→QN,ne_of_gt→Q1,le_of_lt→Gk,zero_le→Gm,lt_trans→Go,lt_irrefl→Gv,lt_of_le_of_lt→GB,lt_succ_self→GO,lt_succ_of_lt→G7,ble_eq→G8,le_add_right→K9,not_lt→LI,le_succ→LL,lt_trichotomy→Mm,le_succ_of_le→Mn,add_assoc→Mw,lt_or_ge→MU,le_of_eq→Ro,ble→Rs
open Ne renaming symm→QL
open Option renaming map_eq_some_iff→QT,isSome_iff_exists→Lg,getD_none→MB
open Option.some renaming inj→Q6
open PyProof renaming noPylong_of_log2→Mv,noPylong_small→MP
open PyProof.Rows renaming slot_tuple_getitem→Q7,callWith_type1→Q8
open PyProof.Rows.F renaming plain_set_update_loop→Lm,entry_set_update_loop→MJ
open PyProof.Rows.IntsAre renaming length→Rf
open PySem renaming wpAny_bind→Qa,Value→Qc,Addr→Qd,Shared→Qe,wpAny_pure→Qf,sizeLine→Qk,Program→Qm,World→Qp,FuncData→Qt,Around→Qx,Heap→QC,wpAny_callSpecial?_slot→QF,wpAny_call_entry→QH,wpAny_field→QM,wpAny_newObj_type→QO,Expr→QV,wpAny_setField_rec→Q4,wpAny_seqItems→Gf,wpAny_holding→Gg,Stmt→Gs,wpAny_isInstance→Gu,wpAny_truthy_bool→Gw,wpAny_attempt→Gy,wpAny_setField→GC,wpAny_specialOf→GM,wpAny_setState_of→GX,plainId_quiet→GY,codeAny_builtin→GZ,wpAny_mono→G5,wpAny_updateSeq→Ka,wpAny_rule→Kb,wpAny_of_eq→Kc,mem_of_lookup→Ke,wpAny_Call_Name_kw→Km,wpAny_passesOwn→Kr,isSubtype_stop→KB,wpAny_letGo→KG,wpAny_typeNameOfWhole_keyiter→KH,codeAny_mono→KI,wpAny_execs_nil→KM,wpAny_loadPart'→KO,wpAny_ite_split→KP,wpAny_forIn_list→La,wpAny_askSetting→Lb,wpAny_typeNameOf_keyiter→Lh,wpAny_Call_method0_late→Ll,wpAny_pyIter_list→Ln,wpAny_typeOf→Lq,wpAny_pyIter_slot→Ls,wpAny_tryCatch→Lu,isSubtype_tuple_tuple→LC,wpAny_updateSeq_pair→LN,Scope→LX,evalArgs_none→LZ,wpAny_setEntries_of→L3,wpAny_pyIter_tuple→L8,Result→L9,wpAny_newTuple→Mc,wpAny_tupleItemsOf→Md,Keyword→Mj,wpAny_handled→Ms,wpAny_onRaise→Mt,wpAny_execs_cons→My,wpAny_pyIter_zip→ME,wpAny_throw→Rb,wpAny_fieldsOf→Rc,Within→Rn
open PySem.Around renaming under_plainId→GK,under→Rq
open PySem.Builtin renaming bitAnd→Ra
open PySem.Builtin.Builtins renaming bindParams→L5
open PySem.Builtin.Dict renaming showsAll→M4
open PySem.Builtin.Int renaming intBits→Rj
open PySem.Builtin.List renaming listExtendWith→GI,listLengthHint→Kg,listTooLong→Ku,listSameRef→Kv,listItems→MV
open PySem.Builtin.Range renaming rangeSize→QZ,small→Kf,rangeFitsLong→KZ
open PySem.Builtin.Slice renaming slicePlaces→Kp,sliceAdjust→Lc,sliceApplied→Ma
open PySem.Builtin.SmallTypes renaming ownedTupleIsFree→QK,nextOf→QY,ownedTupleHandOut→GU
open PySem.Builtin.Tuple renaming tupleHashOf→GR,tupleExact→Kt,tupleItemsOf→K2
open PySem.Calls renaming callWith_builtin→G6,spliced_cons→Kl,evalArgs_plain→K3,spliced_nil→Lp,Name_function_global→L7
open PySem.Code renaming isFrame→Rr
open PySem.EntryCells renaming newEntry→Rh
open PySem.F renaming plainAttrs_list→QI,slot_list_append→Gq,type_list_append→Gr,plain_extend_loop→GA,slot_zip_next→GD,slot_tuple_iterator_next→Kn,args_zip_next_1→Ks,slot_list_extend→Kw,type_list_extend→Kx,plainAttrs_dict→Kz,entry_zip_next→KA,plain_min_loop→KC,slot_dict_items→KD,called_set→KL,slot_dict_keyiterator_next→KQ,slot_enumerate_next→KU,excBase_ValueError→K5,slot_tuple_hash→Lx,slot_dict_get→Ly,args_tuple_iterator_next_1→LQ,slot_dict_setdefault→LV,slot_tuple_eq→LW,entry_tuple_iterator_next→L4,attrBase_ValueError→L6,slot_dict_getitem→Me,args_dict_items_1→Mg,entry_extend_loop→Mh,args_tuple_add_2→Mr,entry_dict_items→Mu,entry_tuple_add→Mz,args_dict_get_3→MC,args_enumerate_next_1→MF,type_dict_items→MG,plain_list_iadd→MK,slot_list_count→ML,type_list_count→MM,slot_tuple_add→MR,entry_dict_get→MT,slot_list_pop→M6,type_list_pop→M7
open PySem.Heap renaming get?_push_of_some→Qg,get?_push_size→Qh,lt_size→Qj,SameBut→Qu,get?_update_other→QE,get?_update_self→QP,size_push→Ge,ExtBut→Ki,get?_push_ne→Ml
open PySem.Heap.ExtBut renaming push→Rx
open PySem.Heap.SameBut renaming update→Q9,refl→Rt
open PySem.IntMulOk renaming of_bits→Ry
open PySem.MeetsSeq renaming list_count→Ri
open PySem.Obj renaming data_mapFields→Q3,isFreed_of_fields→GG,mapFields→G4,cls_mapFields→K0,mapSeq→K4
open PySem.Paired renaming length→Mq
open PySem.PassesOwn renaming never→QR,leaving→Rw
open PySem.PyData renaming canLayAll0→KY,eqv→LG,eqvAll→LJ,depthAll→MY
open PySem.SetTable renaming below→Q5,grown→KF,laid→Rl
open PySem.SetTable.below renaming go→Ru
open PySem.SetTable.probe renaming go→Mo
open PySem.Shared renaming heap→Rz
open PySem.Str renaming ofString→Ga
open PySem.Value renaming isInt_shape→Mi,isInt→M8
open PySem.W renaming Frag→Qo,cellsFrom_some→MQ,KdlKeysView→Rg,kitx_tuple→Rm,kitx_dict→Rp
open PySem.pickOrder renaming go→Rv
set_option Elab.async false
set_option linter.all false
set_option maxRecDepth 100000
set_option maxHeartbeats 4000000
open PySem.W (instObj methodObj Frag lookIn InstAt plainGet hasDictIn findIn plainOver takerIn any_some makesIn emptyDict looks_findIn specialIn isFn keepIn takesIn mroIn kitOne kia_one kitx_list callWith_K fnOf codeIn nsIn notCls excIn exmOne findObj clsIn kitAny mg_of)
set_option compiler.extract_closed false
noncomputable section
namespace L2
open PySem PySem.Spec PyProof.Rows

noncomputable abbrev Key:=Sum Int Str
noncomputable def W5:Key->Qc->Bool
 | .inl k,v=>M8 k v
 | .inr x,v=>Value.isStrOf x v
noncomputable def Jsi(w:Qp):Key->Int
 | .inl k=>hashInt k
 | .inr x=>hashStr w x
theorem JL:∀{k:Key} {v:Qc},W5 k v=true->(∃i t,k=Sum.inl i/\v=Value.int i t)\/(∃x t,k=Sum.inr x/\v=Value.str x t)
 | .inl i,v,h=>by obtain⟨t,e⟩:=Mi (k:=i) (v:=v) h;exact .inl ⟨i,t,rfl,e⟩
 | .inr x,v,h=>by obtain⟨t,e⟩:=Value.isStrOf_shape (x:=x) (v:=v) h;exact .inr ⟨x,t,rfl,e⟩
theorem JfR(i:Int)(t:Tok):W5 (.inl i) (.int i t)=true:=by simp[W5,M8]
theorem JfS(x:Str)(t:Tok):W5 (.inr x) (.str x t)=true:=by simp[W5,Value.isStrOf]
theorem Jm1(a b:Int):decide ((Sum.inl a:Key)=Sum.inl b)=(a == b):=by lia
theorem Jm4(a b:Str):decide ((Sum.inr a:Key)=Sum.inr b)=decide (a=b):=by simp_all
theorem Jm2(a:Int)(b:Str):decide ((Sum.inl a:Key)=Sum.inr b)=false:=decide_eq_false (fun q=>nomatch q)
theorem Jm3(a:Str)(b:Int):decide ((Sum.inr a:Key)=Sum.inl b)=false:=decide_eq_false (fun q=>nomatch q)

noncomputable def JE(prog:Qm)(w:Qp):PySem.KeyKind prog w Key where
 is:=W5
 hash:=Jsi w
 inj:=fun v a b ha hb=>by
  rcases JL ha with ⟨i,t,rfl,rfl⟩|⟨x,t,rfl,rfl⟩
  ·rcases JL hb with ⟨j,u,rfl,e⟩|⟨y,u,rfl,e⟩
   ·simp_all
   ·exact nomatch e
  ·rcases JL hb with ⟨j,u,rfl,e⟩|⟨y,u,rfl,e⟩
   ·exact nomatch e
   simp_all
 byValue:=fun k v h=>by rcases JL h with ⟨i,t,rfl,rfl⟩|⟨x,t,rfl,rfl⟩ <;> rfl
 pyHash:=fun hv h=>by
  rcases JL hv with ⟨i,t,rfl,rfl⟩|⟨x,t,rfl,rfl⟩
  ·exact wpAny_pyHash_int h
  ·exact wpAny_pyHash_str h
 eqBool:=fun hu hv h=>by
  rcases JL hu with ⟨i,t,rfl,rfl⟩|⟨x,t,rfl,rfl⟩
  ·rcases JL hv with ⟨j,u,rfl,rfl⟩|⟨y,u,rfl,rfl⟩
   ·rw[Jm1] at h;exact wpAny_eqBool_int h
   ·rw[Jm2] at h;exact SeqAt.EqAt.int_str i t y u _ _ _ _ h
  ·rcases JL hv with ⟨j,u,rfl,rfl⟩|⟨y,u,rfl,rfl⟩
   ·rw[Jm3] at h;exact SeqAt.EqAt.str_int x t j u _ _ _ _ h
   ·rw[Jm4] at h;exact wpAny_eqBool_str h
 «strs»:=fun k x t v h=>by
  rcases JL h with ⟨i,u,rfl,e⟩|⟨y,u,rfl,e⟩
  ·exact nomatch e
  ·injection e with e1 _
   subst e1;cases v <;> rfl

theorem Jcz(prog:Qm)(w:Qp)(i:Int)(t:Tok):(JE prog w).is (.inl i) (.int i t)=true:=JfR i t
theorem JcA(prog:Qm)(w:Qp)(x:Str)(t:Tok):(JE prog w).is (.inr x) (.str x t)=true:=JfS x t
end L2

namespace L2
open PySem PySem.Spec PyProof.Rows

inductive V where
 | non|bl (b:Bool)|int (i:Int)|str (x:Str)|byt (b:Array UInt8)|flt (b:UInt64)|ref (a:Qd)|ty (n:String)
 deriving DecidableEq

noncomputable def RelV:V->Qc->Prop
 | .non,u=>u=Value.none
 | .bl b,u=>u=Value.bool b
 | .int i,u=>∃t,u=Value.int i t
 | .str x,u=>∃t,u=Value.str x t
 | .byt b,u=>∃t,u=Value.bytes b t
 | .flt b,u=>∃t,u=Value.float b t
 | .ref a,u=>u=Value.ref a
 | .ty n,u=>u=Value.type n

noncomputable abbrev Vals:List V->List Qc->Prop:=Paired RelV
theorem Vals.length{xs:List V}{us:List Qc}(r:Vals xs us):xs.length=us.length:=Mq r
theorem Vals.get{xs:List V}{us:List Qc}{i:Nat}{x:V}(h:Vals xs us)(e:xs[i]?=some x):∃u,us[i]?=some u/\RelV x u:=by
 induction h generalizing i with
 | nil=>simp at e
 | cons r _ ih =>
  cases i with
  | zero=>simp_all
  | succ i=>exact ih (i:=i) (by simpa using e)
theorem Vals.set{x:V}{u:Qc}(r:RelV x u){xs:List V}{us:List Qc}(i:Nat)(h:Vals xs us):Vals (xs.set i x) (us.set i u):=by
 induction h generalizing i with
 | nil=>exact .nil
 | cons q t ih=>cases i <;> first|exact .cons r t|exact .cons q (ih _)
theorem Vals.append{xs ys:List V}{us ws:List Qc}(h:Vals xs us)(s:Vals ys ws):Vals (xs++ys) (us++ws):=by
 induction h with
 | nil=>exact s
 | cons r _ ih=>exact .cons r ih
theorem Vals.take{xs:List V}{us:List Qc}(n:Nat)(h:Vals xs us):Vals (xs.take n) (us.take n):=by
 induction h generalizing n with
 | nil=>cases n <;> exact .nil
 | cons r _ ih=>cases n <;> first|exact .nil|exact .cons r (ih _)
theorem Vals.drop{xs:List V}{us:List Qc}(n:Nat)(h:Vals xs us):Vals (xs.drop n) (us.drop n):=by
 induction h generalizing n with
 | nil=>cases n <;> exact .nil
 | cons r t ih=>cases n <;> first|exact .cons r t|exact ih _
noncomputable def RelO:Option V->Option Qc->Prop
 | some v,some u=>RelV v u
 | none,none=>True
 | _,_=>False
noncomputable def KV{κ:Type}:List (κ×V)->List (κ×Qc)->Prop:=Paired fun(p:κ×V) (q:κ×Qc)=>p.1=q.1/\RelV p.2 q.2

noncomputable def kV:Key->V
 | .inl i=>.int i
 | .inr x=>.str x

inductive HO where
 | lst (xs:List V)
 | tup (xs:List V)
 | dK (kvs:List (Key×V))|dT (kvs:List (List Key×V))
 | set (S:Int->Bool) (n:Nat)
 | ins (C dx:Qd) (fs:List (Str×V))
 | own (x:Qd)
 | xd (fs:List (Str×V))
 | met (f x:Qd)
 | rng (lo hi:Int)
 | frz (o:Obj) (u:HO)
 | tbl (ps:Array Qc) (l c:Nat) (q:Str)
 | ext (φ:QC->Prop)

noncomputable abbrev Hp:=Qd->Option HO
noncomputable def upd(H:Hp)(a:Qd)(o:HO):Hp:=fun b=>if b=a then some o else H b
theorem Jl{H:Hp}{a:Qd}{o:HO}:upd H a o a=some o:=by unfold upd;rw[if_pos rfl]
theorem Jf{H:Hp}{a b:Qd}{o:HO}(h:b≠a):upd H a o b=H b:=by unfold upd;rw[if_neg h]
theorem JcB{H:Hp}{a b:Qd}{o u:HO}(h:H a=some o)(h':H b=some u)(d:o≠u):a≠b:=by lia
theorem Jp{H:Hp}{a b:Qd}{o:HO}(h:H a=some o)(h':H b=none):a≠b:=by lia

section
variable(P:Qm)(w:Qp)
noncomputable def ObjOk(H:Hp)(h:QC)(a:Qd):HO->Prop
 | .lst xs=>xs.length<=Qk/\∃(its:List Qc) (n:Nat),Vals xs its/\h.get? a=some { cls:=.type "list",data:=.seq its.toArray n }
 | .tup xs=>xs.length<=Qk/\∃its:List Qc,Vals xs its/\IsTup h a its.toArray
 | .dK kvs=>kvs.length<=Qk/\(a == sysModules)=false/\∃vs,KV kvs vs/\h.DictOf (JE P w) a vs
 | .dT kvs=>kvs.length<=Qk/\(a == sysModules)=false/\∃xs:List (List Key×Qd×Qc),
  Paired (fun(p:List Key×V) (q:List Key×Qd×Qc)=>p.1=q.1/\H q.2.1=some (.tup (p.1.map kV))/\RelV p.2 q.2.2) kvs xs ∧
  ∃o es ep,h.get? a=some o/\o.ExactDict/\o.data=.dict es ep/\es.toList=xs.map (entryOfKey (tupleKind (JE P w)))/\(xs.map (·.1)).Nodup
 | .set S n=>h.SetOf (intKind P w) a S n
 | .ins C dx fs=>H dx=some (.own a)/\fs.length<=1000/\dx≠a/\h.get? a=some (instObj C dx) ∧
  ∃mA,h.Ns1 dx mA/\(∀f,RelO (fs.lookup f) (mA f))/\Rn mA (fs.map (·.1))
 | .own _=>∃o,h.get? a=some o
 | .xd fs=>∃mA,h.Ns1 a mA/\∀f,RelO (fs.lookup f) (mA f)
 | .rng lo hi=>∃t u v,h.get? a=some { cls:=.type "range",data:=.fields #[.int lo t,.int hi u,.int 1 v] }
 | .frz o u=>h.get? a=some o/\ObjOk H h a u
 | .tbl ps l c q=>h.get? a=some { cls:=.none,data:=.fields ps }\/∃y,H y=some (.own a)/\y≠a/\h.get? a=some { cls:=.none,data:=.fields (ps++#[rawInt l,rawInt c,.ref y]) }/\h.CodeRec (.ref y) q
 | .met f x=>h.get? a=some (methodObj (.ref f) (.ref x))
 | .ext φ=>φ h/\(∃o,h.get? a=some o)/\∀h1 h2:QC,φ h1->(∀o,h1.get? a=some o->h2.get? a=some o)->φ h2
noncomputable def HOk(H:Hp)(h:QC):Prop:=∀a o,H a=some o->ObjOk P w H h a o
end

section
variable{P:Qm}{w:Qp}{H H':Hp}{h h':QC}{a:Qd}{o:HO}
theorem ObjOk.lt(x:ObjOk P w H h a o):a<h.objs.size:=by
 cases o with
 | lst xs=>obtain⟨_,_,_,_,e⟩:=x;exact Qj e
 | tup xs=>obtain⟨_,_,_,p⟩:=x;exact p.lt
 | dK kvs=>obtain⟨_,_,_,_,o,_,_,e,_⟩:=x;exact Qj e
 | dT kvs=>obtain⟨_,_,_,_,o,_,_,e,_⟩:=x;exact Qj e
 | set S n=>obtain⟨o,_,_,_,e,_⟩:=x;exact Qj e
 | ins C dx fs=>obtain⟨_,_,_,e,_⟩:=x;exact Qj e
 | own y=>obtain⟨_,e⟩:=x;exact Qj e
 | xd fs=>obtain⟨_,⟨_,_,_,e,_⟩,_⟩:=x;exact Qj e
 | rng lo hi=>obtain⟨_,_,_,e⟩:=x;exact Qj e
 | frz ob u=>obtain⟨e,_⟩:=x;exact Qj e
 | tbl ps l c q =>
  rcases x with e|⟨_,_,_,e,_⟩
  ·exact Qj e
  ·exact Qj e
 | met f y=>exact Qj (show h.get? a=some _ from x)
 | ext φ=>obtain⟨_,⟨_,e⟩,_⟩:=x;exact Qj e
theorem Paired.mapP{α β:Type}{F G:α->β->Prop}{l₁:List α}{l₂:List β}(h:Paired F l₁ l₂)(f:∀a b,F a b->G a b):Paired G l₁ l₂:=by
 induction h with
 | nil=>exact .nil
 | cons r _ ih=>exact .cons (f _ _ r) ih
theorem ObjOk.stay(x:ObjOk P w H h a o)(k:∀b u,(b=a\/H b=some (.own a))->h.get? b=some u->h'.get? b=some u)
 (ho:∀b,H b=some (.own a)->H' b=some (.own a)) (ht:∀b xs,H b=some (.tup xs)->H' b=some (.tup xs)):ObjOk P w H' h' a o:=by
 induction o with
 | lst xs=>obtain⟨z,its,n,r,e⟩:=x;exact⟨z,its,n,r,k _ _ (.inl rfl) e⟩
 | tup xs=>obtain⟨z,its,r,ob,e,c⟩:=x;exact⟨z,its,r,ob,k _ _ (.inl rfl) e,c⟩
 | dK kvs=>obtain⟨z,y,vs,r,ob,es,ep,e,c⟩:=x;exact⟨z,y,vs,r,ob,es,ep,k _ _ (.inl rfl) e,c⟩
 | dT kvs=>obtain⟨z,y,xs,r,ob,es,ep,e,c⟩:=x;exact⟨z,y,xs,Paired.mapP r fun p q z=>⟨z.1,ht _ _ z.2.1,z.2.2⟩,ob,es,ep,k _ _ (.inl rfl) e,c⟩
 | set S n=>obtain⟨ob,es,ep,t,e,c⟩:=x;exact⟨ob,es,ep,t,k _ _ (.inl rfl) e,c⟩
 | ins C dx fs=>obtain⟨d,z,ne,e,mA,⟨od,es,ep,e2,c⟩,r⟩:=x;exact⟨ho _ d,z,ne,k _ _ (.inl rfl) e,mA,⟨od,es,ep,k _ _ (.inr d) e2,c⟩,r⟩
 | own y=>obtain⟨ob,e⟩:=x;exact⟨ob,k _ _ (.inl rfl) e⟩
 | xd fs=>obtain⟨mA,⟨od,es,ep,e,c⟩,r⟩:=x;exact⟨mA,⟨od,es,ep,k _ _ (.inl rfl) e,c⟩,r⟩
 | rng lo hi=>obtain⟨t,u,v,e⟩:=x;exact⟨t,u,v,k _ _ (.inl rfl) e⟩
 | frz ob u ih=>obtain⟨e,q⟩:=x;exact⟨k _ _ (.inl rfl) e,ih q⟩
 | tbl ps l c q =>
  rcases x with e|⟨y,d,ne,e,y',oc,vs,t,z,e2,r⟩
  ·exact .inl (k a _ (.inl rfl) e)
  ·cases z;exact .inr ⟨y,ho _ d,ne,k a _ (.inl rfl) e,y,oc,vs,t,rfl,k _ _ (.inr d) e2,r⟩
 | met f y =>
  have e:h.get? a=some (methodObj (.ref f) (.ref y)):=x
  show h'.get? a=some (methodObj (.ref f) (.ref y));exact k a _ (.inl rfl) e
 | ext φ=>obtain⟨p,⟨o,e⟩,st⟩:=x;exact⟨st _ _ p fun o q=>k _ _ (.inl rfl) q,⟨o,k _ _ (.inl rfl) e⟩,st⟩
theorem HOk.lt(x:HOk P w H h)(e:H a=some o):a<h.objs.size:=(x a o e).lt
theorem HOk.fresh(x:HOk P w H h)(e:h.objs.size<=a):H a=none:=by
 cases q:H a with
 | none=>rfl
 | some u=>exact absurd (QN (x.lt q) e) (Gv _)
theorem HOk.kept(x:HOk P w H h)(k:∀b u,h.get? b=some u->h'.get? b=some u):HOk P w H h':=fun a o e=>(x a o e).stay (fun b u _ q=>k b u q) (fun _ q=>q) fun _ _ q=>q
theorem HOk.laid(x:HOk P w H h)(k:∀b u,h.get? b=some u->h'.get? b=some u)(hp:h.objs.size<=a)(new:ObjOk P w (upd H a o) h' a o):HOk P w (upd H a o) h':=fun b u e=>by
 have hn:=x.fresh hp
 by_cases hb:b=a
 ·subst hb;rw[Jl] at e;cases e;exact new
 ·rw[Jf hb] at e;exact(x b u e).stay (fun c v _ q=>k c v q) (fun c q=>by rw[Jf (Jp q hn)];exact q) fun c xs q=>by rw[Jf (Jp q hn)];exact q
end

noncomputable def Rd(H:Hp)(a:Qd)(u:HO):Prop:=H a=some u\/∃o,H a=some (.frz o u)
theorem Rd.of{H:Hp}{a:Qd}{u:HO}(h:H a=some u):Rd H a u:=.inl h
theorem Rd.ok{P:Qm}{w:Qp}{H:Hp}{h:QC}{a:Qd}{u:HO}(r:Rd H a u)(x:HOk P w H h):ObjOk P w H h a u:=by
 rcases r with r|⟨o,r⟩
 ·exact x a u r
 ·obtain⟨_,q⟩:=x a _ r;exact q
noncomputable def Mut:Option HO->Prop
 | some (.lst _)=>True
 | some (.dK _)=>True
 | some (.dT _)=>True
 | some (.set _ _)=>True
 | some (.ins _ _ _)=>True
 | some (.ext _)=>True
 | _=>False
section
variable{P:Qm}{w:Qp}{H:Hp}{h h':QC}{x e:Qd}{o':HO}
theorem HOk.write(ok:HOk P w H h)(mu:Mut (H x))(he:e=x\/H e=some (.own x))(k:∀b u,b≠e->h.get? b=some u->h'.get? b=some u)(heo:∃u,h'.get? e=some u)
 (new:ObjOk P w (upd H x o') h' x o'):HOk P w (upd H x o') h':=fun b u q=>by
 have nown:∀c y,H c=some (.own y)->c≠x:=fun c y r z=>by subst z;rw[r] at mu;exact mu
 have ntup:∀c xs,H c=some (.tup xs)->c≠x:=fun c xs r z=>by subst z;rw[r] at mu;exact mu
 by_cases hb:b=x
 ·subst hb;rw[Jl] at q;cases q;exact new
 ·rw[Jf hb] at q
  by_cases hbe:b=e
  ·have q':H b=some (.own x):=by simp_all
   rw[q] at q';cases q';obtain⟨v,hv⟩:=heo;exact⟨v,by rw[hbe];exact hv⟩
  ·refine(ok b u q).stay (fun c v hc r=>k c v ?_ r) (fun c r=>by rw[Jf (nown c b r)];exact r) fun c xs r=>by rw[Jf (ntup c xs r)];exact r
   grind
end

structure Un (fs ex:List Qd) (H H':Hp) (h h':QC):Prop where
 keep:∀b o,h.get? b=some o->H b=none->b∉fs->b∉ex->h'.get? b=some o
 slot:∀b o,h.get? b=some o->H b=none->b∈fs->b∉ex->∃sl,h'.get? b=some { o with slots:=sl }
 free:∀b o,h.get? b=some o->H b=none->b∉ex->H' b=none
 there:∀b o,h.get? b=some o->b∉ex->∃o',h'.get? b=some o'
 tups:∀b xs,H b=some (.tup xs)->H' b=some (.tup xs)
 frzs:∀b o u,H b=some (.frz o u)->H' b=some (.frz o u)
 tbls:∀b ps l c q,H b=some (.tbl ps l c q)->H' b=some (.tbl ps l c q)
section
variable{fs fs' ex ex':List Qd}{H H1 H2:Hp}{h h1 h2 h':QC}{a x e:Qd}{o:HO}
theorem Un.any(u:Un fs ex H H1 h h1){b:Qd}{ob:Obj}(q:h.get? b=some ob)(n:H b=none)(hx:b∉ex):∃sl,h1.get? b=some { ob with slots:=sl }:=by
 by_cases hb:b∈fs
 ·exact u.slot b ob q n hb hx
 ·exact⟨ob.slots,u.keep b ob q n hb hx⟩
theorem Un.trans(a:Un fs ex H H1 h h1)(b:Un fs ex H1 H2 h1 h2):Un fs ex H H2 h h2 where
 keep:=fun c ob q n hc hx=>b.keep c ob (a.keep c ob q n hc hx) (a.free c ob q n hx) hc hx
 slot:=fun c ob q n hc hx=>by obtain⟨sl,e1⟩:=a.slot c ob q n hc hx;obtain⟨sl',e2⟩:=b.slot c _ e1 (a.free c ob q n hx) hc hx;exact⟨sl',e2⟩
 free:=fun c ob q n hx=>by obtain⟨o',e1⟩:=a.there c ob q hx;exact b.free c o' e1 (a.free c ob q n hx) hx
 there:=fun c ob q hx=>by obtain⟨o',e1⟩:=a.there c ob q hx;exact b.there c o' e1 hx
 tups:=fun c xs q=>b.tups c xs (a.tups c xs q)
 frzs:=fun c ob xs q=>b.frzs c ob xs (a.frzs c ob xs q)
 tbls:=fun c ps l k z q=>b.tbls c ps l k z (a.tbls c ps l k z q)
theorem Un.kept(k:∀b u,h.get? b=some u->h'.get? b=some u):Un fs ex H H h h' :=
 ⟨fun b ob q _ _ _=>k b ob q,fun b ob q _ _ _=>⟨ob.slots,k b ob q⟩,fun _ _ _ n _=>n,fun b ob q _=>⟨ob,k b ob q⟩,fun _ _ q=>q,fun _ _ _ q=>q,fun _ _ _ _ _ q=>q⟩
theorem Un.refl:Un fs ex H H h h:=Un.kept fun _ _ q=>q
theorem Un.laid(k:∀b u,h.get? b=some u->h'.get? b=some u)(hp:h.objs.size<=a)(hn:H a=none):Un fs ex H (upd H a o) h h' where
 keep:=fun b u q _ _ _=>k b u q
 slot:=fun b u q _ _ _=>⟨u.slots,k b u q⟩
 free:=fun b u q n _=>by rw[Jf (Qw (QN (Qj q) hp))];exact n
 there:=fun b u q _=>⟨u,k b u q⟩
 tups:=fun b xs q=>by rw[Jf (Jp q hn)];exact q
 frzs:=fun b u xs q=>by rw[Jf (Jp q hn)];exact q
 tbls:=fun b ps l c z q=>by rw[Jf (Jp q hn)];exact q
theorem Un.write(mu:Mut (H x))(he:e=x\/H e=some (.own x))(k:∀b u,b≠e->h.get? b=some u->h'.get? b=some u)(heo:∃u,h'.get? e=some u):Un fs ex H (upd H x o) h h':=by
 have hx:∀b,H b=none->b≠x:=fun b n z=>by subst z;rw[n] at mu;exact mu
 have hb:∀b,H b=none->b≠e:=fun b n z=>by simp_all
 have hm:∀b u,H b=some u->¬Mut (some u)->b≠x:=fun b u q nm z=>by simp_all
 refine⟨fun b u q n _ _=>k b u (hb b n) q,fun b u q n _ _=>⟨u.slots,k b u (hb b n) q⟩,fun b u q n _=>by rw[Jf (hx b n)];exact n,fun b u q _=>?_,
  fun b xs q=>by rw[Jf (hm b _ q fun z=>z)];exact q,fun b u xs q=>by rw[Jf (hm b _ q fun z=>z)];exact q,fun b ps l c z q=>by rw[Jf (hm b _ q fun z=>z)];exact q⟩
 grind
theorem Un.mono(u:Un fs ex H H1 h h1)(hs:∀b∈fs,b∈fs')(hx:∀b∈ex,b∈ex'):Un fs' ex' H H1 h h1 :=
 ⟨fun b ob q n hb he=>u.keep b ob q n (fun z=>hb (hs b z)) fun z=>he (hx b z),fun _ _ q n _ he=>u.any q n fun z=>he (hx _ z),fun b ob q n he=>u.free b ob q n fun z=>he (hx b z),fun b ob q he=>u.there b ob q fun z=>he (hx b z),u.tups,u.frzs,u.tbls⟩
end

noncomputable def trk(h:QC)(H:Hp):List Qd:=(GS h.objs.size).filter fun a=>(H a).isSome
noncomputable def Jbv(h:QC)(H:Hp):QC:=PySem.W.hideAll h (trk h H)
theorem JfE(h:QC)(H:Hp):(Jbv h H).objs.size=h.objs.size:=PySem.W.hideAll_size _ _
theorem Jhi{h:QC}{H:Hp}{b:Qd}{o:Obj}(e:h.get? b=some o)(n:H b=none):(Jbv h H).get? b=some o :=
 PySem.W.hideAll_get _ e fun hm=>by have q:(H b).isSome=true:=(List.mem_filter.mp hm).2;rw[n] at q;simp at q
theorem Jj7{h:QC}{H:Hp}{b:Qd}{o:Obj}(e:(Jbv h H).get? b=some o):h.get? b=some o/\H b=none:=by
 have e':h.get? b=some o:=PySem.W.of_hideAll (trk h H) e;refine⟨e',?_⟩
 cases q:H b with
 | none=>rfl
 | some x =>
  have hm:b∈trk h H:=List.mem_filter.mpr ⟨List.mem_range.mpr (Qj e'),by simp[q]⟩
  have z:(Jbv h H).get? b=none:=PySem.W.hideAll_none (trk h H) hm;rw[z] at e;cases e

noncomputable def Ji0(g h:QC)(L:Qd):List (Qd×Obj):=(GS h.objs.size).filterMap fun a=>if a=L\/(g.get? a).isSome=true then none else(h.get? a).map fun o=>(a,o)
noncomputable def YV(g h:QC)(L d:Qd):List (Qd×Obj):=(Ji0 g h L).filter fun p=>decide (p.1≠d)
end L2

namespace L2
open PySem PySem.Spec PyProof.Rows

structure Mod (K:Qo) (mg:Str->Option Qc) (base:QC):Prop where
 kin:K.In base
 glob:base.Ns mainGlobals mg
 blt:∃mb,base.Ns builtinsNs mb/\∀x:Str,x≠"__name__"->mb x=bootBuiltins x
 nolimit:base.NoLimit

structure Cx where
 prog:Qm
 w:Qp
 K:Qo
 mg:Str->Option Qc
 base:QC
 A:Qx
 N:List Str
 s₀:Qe
 H₀:Hp
 env:Env
 outer:List Env
 stack:List Env
 ex:List Qd
 fn:Str->Bool
 calm:Bool
 pn:List (Qd×Obj)
 xe:Qc->Qe->Prop
noncomputable def frs(l:List Env):List Qd:=l.filterMap (·.frame)
noncomputable abbrev Cx.fs(X:Cx):List Qd:=frs X.outer

noncomputable def Vis(sc:LX)(x:Str):Prop:=sc.names.lookup x=some .local\/sc.names.lookup x=some .cell\/sc.names.lookup x=some .free
noncomputable def Loc(sc:LX)(x:Str):Prop:=sc.names.lookup x=some .local\/sc.names.lookup x=some .cell
noncomputable def Jo6(env:Env)(h:QC)(m:Str->Option Qc)(x:Str)(u:Qc):Prop :=
 (env.kindOf x=some .local/\m x=some u)\/((env.kindOf x=some .cell\/env.kindOf x=some .free)/\∃c,env.cells.lookup x=some c/\h.IsCell c (some u))

structure Cx.Ok (X:Cx):Prop where
 mod:Mod X.K X.mg X.base
 kind:X.env.scope.kind=.function
 glob:X.env.globals=mainGlobals
 blt:X.env.builtins=builtinsNs
 above:X.s₀.heap.objs.size<=X.env.locals
 inj:∀x y c,X.env.cells.lookup x=some c->X.env.cells.lookup y=some c->x=y
 has:∀x,(X.env.kindOf x=some .cell\/X.env.kindOf x=some .free)->∃c,X.env.cells.lookup x=some c
 cab:∀x c,X.fn x=true->X.env.cells.lookup x=some c->X.s₀.heap.objs.size<=c
 hd:X.calm=true->X.A.handled=none
 frames:X.A.frames=some X.stack
 stk:X.stack=X.outer\/(X.stack=X.env::X.outer/\X.env.frame=some X.env.locals)
 exf:∀b∈X.ex,b≠X.env.locals/\∀x c,X.env.cells.lookup x=some c->c≠b
 bs:∀b o,X.base.get? b=some o->X.s₀.heap.get? b=some o/\X.H₀ b=none
 bsz:X.base.objs.size<=X.s₀.heap.objs.size
 noex:∀b o,X.base.get? b=some o->b∉X.ex
 exfs:∀b∈X.ex,b∉X.fs
 funs:X.s₀.heap.FunFrames X.base X.outer
 frf:∀b∈X.fs,X.H₀ b=none

structure Inv (X:Cx) (pins:List (Qd×Obj)) (σ:List (Option V)) (H:Hp) (s:Qe):Prop where
 ok:X.Ok
 os:s.os=X.s₀.os
 bare:AllBare s.gens
 base:Un X.fs X.ex X.H₀ H X.s₀.heap s.heap
 loc:∃m,s.heap.Ns X.env.locals m/\∀(i:Nat) (x:Str) (v:V),X.N[i]?=some x->σ[i]?=some (some v)->Vis X.env.scope x->∃u,RelV v u/\Jo6 X.env s.heap m x u
 cell:∀x c,X.env.cells.lookup x=some c->∃v,s.heap.IsCell c v
 free:H X.env.locals=none
 freeC:∀x c,X.env.cells.lookup x=some c->H c=none
 pin:∀p∈X.pn++pins,s.heap.get? p.1=some p.2/\H p.1=none/\p.1≠X.env.locals/\p.1∉X.fs/\∀v,p.2.data≠.cell v
 hok:HOk X.prog X.w H s.heap
 len:σ.length=X.N.length

section
variable{X:Cx}{pins:List (Qd×Obj)}{σ:List (Option V)}{H H':Hp}{s:Qe}{h':QC}

theorem Cx.Ok.nofr(ok:X.Ok){b:Qd}{o:Obj}(e:X.base.get? b=some o):b∉X.fs:=fun hb=>by have:=(ok.funs.mem hb).1;rw[e] at this;cases this
theorem Inv.bs(I:Inv X pins σ H s):∀b o,X.base.get? b=some o->s.heap.get? b=some o/\H b=none:=fun b o e=>⟨I.base.keep b o (I.ok.bs b o e).1 (I.ok.bs b o e).2 (I.ok.nofr e) (I.ok.noex b o e),I.base.free b o (I.ok.bs b o e).1 (I.ok.bs b o e).2 (I.ok.noex b o e)⟩
theorem Inv.bk(I:Inv X pins σ H s):∀b o,X.base.get? b=some o->s.heap.get? b=some o:=fun b o e=>(I.bs b o e).1
theorem Inv.mod(I:Inv X pins σ H s):Mod X.K X.mg X.base:=I.ok.mod
theorem Inv.kIn(I:Inv X pins σ H s):X.K.In s.heap:=I.ok.mod.kin.keeps I.bk
theorem Inv.nolimit(I:Inv X pins σ H s):s.heap.NoLimit:=I.ok.mod.nolimit.keeps I.bk
theorem Inv.fr(I:Inv X pins σ H s):∃m,Fr X.base X.env.locals s.heap m:=by obtain⟨m,hn,_⟩:=I.loc;exact⟨m,hn,I.bk,QJ I.ok.bsz I.ok.above⟩
theorem Inv.lt(I:Inv X pins σ H s):X.env.locals<s.heap.objs.size:=by obtain⟨_,hn,_⟩:=I.loc;exact hn.lt
theorem Inv.sz(I:Inv X pins σ H s):X.s₀.heap.objs.size<=s.heap.objs.size:=QJ I.ok.above (Gk I.lt)
theorem Inv.nofs(I:Inv X pins σ H s){a:Qd}(h:s.heap.objs.size<=a):a∉X.fs:=fun hb=>by obtain⟨_,o,ho,_⟩:=I.ok.funs.mem hb;exact absurd (QN (Qj ho) (QJ I.sz h)) (Gv _)
theorem Inv.cne(I:Inv X pins σ H s):∀x c,X.env.cells.lookup x=some c->c≠X.env.locals:=fun x c e z=>by
 obtain⟨v,o,ho,hd⟩:=I.cell x c e;obtain⟨m,⟨o',es,ep,ho',hd',_⟩,_⟩:=I.loc
 simp_all
theorem Inv.funs(I:Inv X pins σ H s):s.heap.FunFrames X.base X.outer:=by
 have all:∀(l:List Env),(∀b∈frs l,b∈X.fs)->X.s₀.heap.FunFrames X.base l->s.heap.FunFrames X.base l:=by
  intro l
  induction l with
  | nil=>intro _ _;trivial
  | cons env r ih =>
   intro hs hl;obtain⟨hk,⟨L,o,hf,hn,ho,hd⟩,hr⟩:=hl;have hL:L∈X.fs:=hs L (by unfold frs;simp_all);obtain⟨sl,e⟩:=I.base.slot L o ho (I.ok.frf L hL) hL fun z=>I.ok.exfs L z hL
   exact⟨hk,⟨L,_,hf,hn,e,hd⟩,ih (fun b hb=>hs b (by unfold frs;rw[LY,hf];exact Qq _ hb)) hr⟩
 exact all X.outer (fun _ hb=>hb) I.ok.funs

theorem Inv.stack(I:Inv X pins σ H s):s.heap.FunFrames X.base X.stack:=by
 rcases I.ok.stk with e|⟨e,hf⟩
 ·rw[e];exact I.funs
 ·rw[e];obtain⟨m,hn,_⟩:=I.loc;refine .cons (by rw[I.ok.kind];decide) hf hn ?_ I.funs;exact Heap.get?_none_of_le (QJ I.ok.bsz I.ok.above)
theorem Inv.stkSub(I:Inv X pins σ H s):∀b∈frs X.stack,b∈X.env.locals::X.fs:=fun b hb=>by
 rcases I.ok.stk with e|⟨e,hf⟩
 ·simp_all
 ·rw[e] at hb;unfold frs at hb;rw[LY,hf] at hb;exact hb
theorem Inv.stkFree(I:Inv X pins σ H s):∀b∈frs X.stack,H b=none:=fun b hb=>by
 rcases Qr.mp (I.stkSub b hb) with e|hb
 ·rw[e];exact I.free
 ·obtain⟨_,o,ho,_⟩:=I.ok.funs.mem hb;exact I.base.free b o ho (I.ok.frf b hb) fun z=>I.ok.exfs b z hb

theorem Inv.step{g':Array GenState}{t':Nat}{d':Drawn}{ch:List Qd}(I:Inv X pins σ H s)
 (hch:∀b∈ch,(b∈X.ex\/X.s₀.heap.objs.size<=b)/\b≠X.env.locals/\(∀x c,X.env.cells.lookup x=some c->c≠b)/\∀p∈X.pn++pins,p.1≠b)
 (keep:∀b o,b≠X.env.locals->b∉X.fs->b∉ch->s.heap.get? b=some o->H b=none->h'.get? b=some o)
 (slot:∀b o,b≠X.env.locals->b∈X.fs->b∉ch->s.heap.get? b=some o->H b=none->∃sl,h'.get? b=some { o with slots:=sl }) (free:∀b o,b∉ch->s.heap.get? b=some o->H b=none->H' b=none)
 (there:∀b o,b∉ch->s.heap.get? b=some o->∃o',h'.get? b=some o')
 (tups:∀b xs,H b=some (.tup xs)->H' b=some (.tup xs)) (frzs:∀b o u,H b=some (.frz o u)->H' b=some (.frz o u)) (tbls:∀b ps l c q,H b=some (.tbl ps l c q)->H' b=some (.tbl ps l c q))
 (ns:∀m,s.heap.Ns X.env.locals m->h'.Ns X.env.locals m) (hok:HOk X.prog X.w H' h') (hg:AllBare g') :
 Inv X pins σ H' { s with heap:=h',gens:=g',drawn:=d',toks:=t' }:=by
 have neL:∀b o,X.s₀.heap.get? b=some o->b≠X.env.locals:=fun b o e=>Qw (QN (Qj e) I.ok.above)
 have neC:∀b o,X.s₀.heap.get? b=some o->b∉X.ex->b∉ch:=fun b o e hx hb=>by
  rcases(hch b hb).1 with z|z
  ·exact hx z
  ·exact absurd (QN (Qj e) z) (Gv _)
 have cellK:∀x c,X.env.cells.lookup x=some c->∀v,s.heap.IsCell c v->h'.IsCell c v:=fun x c e v ⟨o,ho,hd⟩=>by
  have nch:c∉ch:=fun z=>(hch c z).2.2.1 x c e rfl
  by_cases hc:c∈X.fs
  ·obtain⟨sl,q⟩:=slot c o (I.cne x c e) hc nch ho (I.freeC x c e);exact⟨_,q,hd⟩
  ·exact⟨o,keep c o (I.cne x c e) hc nch ho (I.freeC x c e),hd⟩
 refine⟨I.ok,I.os,hg,⟨fun b o e n hb hx=>?_,fun b o e n hb hx=>?_,fun b o e n hx=>?_,fun b o e hx=>?_,fun b xs e=>tups b xs (I.base.tups b xs e),fun b o xs e=>frzs b o xs (I.base.frzs b o xs e),fun b ps l c z e=>tbls b ps l c z (I.base.tbls b ps l c z e)⟩,?_,fun x c e=>?_,?_,fun x c e=>?_,fun p hp=>?_,hok,I.len⟩
 ·exact keep b o (neL b o e) hb (neC b o e hx) (I.base.keep b o e n hb hx) (I.base.free b o e n hx)
 ·obtain⟨sl,e1⟩:=I.base.slot b o e n hb hx;obtain⟨sl',e2⟩:=slot b _ (neL b o e) hb (neC b o e hx) e1 (I.base.free b o e n hx);exact⟨sl',e2⟩
 ·obtain⟨o',e1⟩:=I.base.there b o e hx;exact free b o' (neC b o e hx) e1 (I.base.free b o e n hx)
 ·obtain⟨o',e1⟩:=I.base.there b o e hx;exact there b o' (neC b o e hx) e1
 ·obtain⟨m,hn,hl⟩:=I.loc;refine⟨m,ns m hn,fun i x v e1 e2 e3=>?_⟩;obtain⟨u,r,l⟩:=hl i x v e1 e2 e3;refine⟨u,r,?_⟩;rcases l with l|⟨k,c,e,z⟩
  ·exact .inl l
  ·exact .inr ⟨k,c,e,cellK x c e _ z⟩
 ·obtain⟨v,z⟩:=I.cell x c e;exact⟨v,cellK x c e v z⟩
 ·obtain⟨m,⟨o,_,_,ho,_⟩,_⟩:=I.loc;exact free _ o (fun z=>(hch _ z).2.1 rfl) ho I.free
 ·obtain⟨v,o,ho,hd⟩:=I.cell x c e;exact free c o (fun z=>(hch c z).2.2.1 x c e rfl) ho (I.freeC x c e)
 ·obtain⟨e,n,ne,nf,d⟩:=I.pin p hp;have nch:p.1∉ch:=fun z=>(hch p.1 z).2.2.2 p hp rfl
  exact⟨keep p.1 p.2 ne nf nch e n,free p.1 p.2 nch e n,ne,nf,d⟩
theorem Inv.un{t':Nat}(I:Inv X pins σ H s)(u:Un X.fs [] H H' s.heap h')(hok:HOk X.prog X.w H' h'):Inv X pins σ H' { s with heap:=h',toks:=t' }:=by
 obtain⟨m,⟨o,es,ep,ho,r⟩,_⟩:=id I.loc;obtain⟨sl,hL⟩:=u.any ho I.free (by simp);exact I.step (g':=s.gens) (d':=s.drawn) (ch:=[]) (fun _ z=>nomatch z) (fun b o _ hb _ e n=>u.keep b o e n hb (by simp)) (fun b o _ hb _ e n=>u.slot b o e n hb (by simp)) (fun b o _ e n=>u.free b o e n (by simp)) (fun b o _ e=>u.there b o e (by simp)) u.tups u.frzs u.tbls (fun m' hm=>by obtain⟨o',es',ep',ho',r'⟩:=hm;rw[ho] at ho';cases ho';exact⟨_,es',ep',hL,r'⟩) hok I.bare
theorem Inv.call{g':Array GenState}{t':Nat}{d':Drawn}{ch:List Qd}(I:Inv X pins σ H s)(u:Un (frs X.stack) ch H H' s.heap h')(hok:HOk X.prog X.w H' h')(hg:AllBare g')
 (hch:∀b∈ch,(b∈X.ex\/X.s₀.heap.objs.size<=b)/\b≠X.env.locals/\(∀x c,X.env.cells.lookup x=some c->c≠b)/\∀p∈X.pn++pins,p.1≠b) :
 Inv X pins σ H' { s with heap:=h',gens:=g',drawn:=d',toks:=t' }:=by
 obtain⟨m,⟨o,es,ep,ho,r⟩,_⟩:=id I.loc;obtain⟨sl,hL⟩:=u.any ho I.free fun z=>(hch _ z).2.1 rfl
 exact I.step (ch:=ch) hch (fun b o hL hb hc e n=>u.keep b o e n (fun z=>(Qr.mp (I.stkSub b z)).elim hL hb) hc) (fun b o _ _ hc e n=>u.any e n hc) (fun b o hc e n=>u.free b o e n hc) (fun b o hc e=>u.there b o e hc) u.tups u.frzs u.tbls (fun m' hm=>by obtain⟨o',es',ep',ho',r'⟩:=hm;rw[ho] at ho';cases ho';exact⟨_,es',ep',hL,r'⟩) hok hg
theorem Inv.turned{t':Nat}{it:Qd}(I:Inv X pins σ H s)(k:∀b o,b≠it->s.heap.get? b=some o->h'.get? b=some o)(hn:H it=none)(hL:it≠X.env.locals)
 (h1:it∈X.ex\/X.s₀.heap.objs.size<=it) (h2:∀x c,X.env.cells.lookup x=some c->c≠it) (h3:∀p∈X.pn++pins,p.1≠it):Inv X pins σ H { s with heap:=h',toks:=t' }:=by
 have nit:∀b u,H b=some u->b≠it:=fun b u e z=>by rw[z,hn] at e;cases e
 refine I.step (g':=s.gens) (d':=s.drawn) (ch:=[it]) (fun b hb=>?_) (fun b o _ _ hc e _=>k b o (fun z=>hc (by simp[z])) e) (fun b o _ _ hc e _=>⟨o.slots,k b o (fun z=>hc (by simp[z])) e⟩) (fun _ _ _ _ n=>n)
  (fun b o hc e=>⟨o,k b o (fun z=>hc (by simp[z])) e⟩) (fun _ _ e=>e) (fun _ _ _ e=>e) (fun _ _ _ _ _ e=>e) (fun m hm=>?_) (fun b u e=>?_) I.bare
 ·have e:b=it:=by simpa using hb
  subst e;exact⟨h1,hL,h2,h3⟩
 ·obtain⟨o,es,ep,ho,r⟩:=hm;exact⟨o,es,ep,k _ o (QL hL) ho,r⟩
 ·refine(I.hok b u e).stay (fun c v hc q=>k c v ?_ q) (fun _ q=>q) fun _ _ q=>q
  lia
theorem Inv.tok(I:Inv X pins σ H s)(t:Nat):Inv X pins σ H { s with toks:=t }:=I.un (h':=s.heap) (t':=t) Un.refl I.hok
theorem Inv.kept{t':Nat}(I:Inv X pins σ H s)(k:∀b u,s.heap.get? b=some u->h'.get? b=some u):Inv X pins σ H { s with heap:=h',toks:=t' }:=I.un (Un.kept k) (I.hok.kept k)
theorem Inv.laid{a:Qd}{o:HO}{t':Nat}(I:Inv X pins σ H s)(k:∀b u,s.heap.get? b=some u->h'.get? b=some u)(hp:s.heap.objs.size<=a)(new:ObjOk X.prog X.w (upd H a o) h' a o) :
 Inv X pins σ (upd H a o) { s with heap:=h',toks:=t' }:=I.un (Un.laid k hp (I.hok.fresh hp)) (I.hok.laid k hp new)
theorem Inv.write{x e:Qd}{o:HO}{t':Nat}(I:Inv X pins σ H s)(mu:Mut (H x))(he:e=x\/H e=some (.own x))(k:∀b u,b≠e->s.heap.get? b=some u->h'.get? b=some u)(heo:∃u,h'.get? e=some u)
 (new:ObjOk X.prog X.w (upd H x o) h' x o):Inv X pins σ (upd H x o) { s with heap:=h',toks:=t' }:=I.un (Un.write mu he k heo) (I.hok.write mu he k heo new)
theorem Inv.weak{σ':List (Option V)}(I:Inv X pins σ H s)(hl:σ'.length=σ.length)(w:∀(i:Nat) v,σ'[i]?=some (some v)->σ[i]?=some (some v)):Inv X pins σ' H s :=
 ⟨I.ok,I.os,I.bare,I.base,by obtain⟨m,hn,hl'⟩:=I.loc;exact⟨m,hn,fun i x v e1 e2 e3=>hl' i x v e1 (w i v e2) e3⟩,I.cell,I.free,I.freeC,I.pin,I.hok,hl.trans I.len⟩
theorem Inv.pins_of{pins':List (Qd×Obj)}(I:Inv X pins σ H s)(h:∀p∈pins',s.heap.get? p.1=some p.2/\H p.1=none/\p.1≠X.env.locals/\p.1∉X.fs/\∀v,p.2.data≠.cell v):Inv X pins' σ H s :=
 ⟨I.ok,I.os,I.bare,I.base,I.loc,I.cell,I.free,I.freeC,fun p hp=>(GL.mp hp).elim (fun z=>I.pin p (M9 _ z)) (h p),I.hok,I.len⟩

theorem JcD{N:List Str}(hN:N.Nodup){i j:Nat}{x:Str}(a:N[i]?=some x)(b:N[j]?=some x):i=j:=by obtain⟨h1,e1⟩:=Qi.mp a;obtain⟨h2,e2⟩:=Qi.mp b;exact(Mx hN).mp (e1.trans e2.symm)

theorem Ja9{M:Model}{A:Qx}{E:Qc->Qe->Prop}{i:Nat}{x:Str}{v:V}{u:Qc}{Q:Unit->Qe->Prop}(I:Inv X pins σ H s)(hN:X.N.Nodup)(hi:X.N[i]?=some x)(hx:Loc X.env.scope x)(r:RelV v u)
 (h:∀s',Inv X pins (σ.set i (some v)) H s'->(∃a,Qu a s.heap s'.heap/\(a=X.env.locals\/X.env.cells.lookup x=some a))->Q () s') (hf:X.fn x=true\/X.env.scope.names.lookup x=some .local:=by first|exact .inl rfl|exact .inr rfl|assumption):wpAny M A (storeName X.env x u) Q E s:=by
 obtain⟨m,hn,hl⟩:=id I.loc;have hcls:(X.env.scope.kind == .class || (X.env.scope.kind == .module && X.env.locals != X.env.globals))=false:=by rw[I.ok.kind];rfl
 have hiσ:i<σ.length:=by rw[I.len];exact(Qi.mp hi).1
 have cne:=I.cne
 have tracked:∀{a:Qd} {h':QC},(∃o,s.heap.get? a=some o/\H a=none)->Qu a s.heap h'->HOk X.prog X.w H h':=fun {a h'} ha hs b ob e=>by
  obtain⟨_,_,hfree⟩:=ha;refine(I.hok b ob e).stay (fun c w' hc q=>(hs.2 c ?_).trans q) (fun _ q=>q) fun _ _ q=>q
  lia
 rcases hx with hk|hk
 ·refine wpAny_storeName_local hk hn (fun h' hn' hs=>?_) hcls;obtain⟨oL,_,_,hoL,_⟩:=id hn;refine h _ ⟨I.ok,I.os,I.bare,⟨fun b o e n hb hx=>?_,fun b o e n hb hx=>?_,I.base.free,fun b o e hx=>?_,I.base.tups,I.base.frzs,I.base.tbls⟩,⟨_,hn',fun j y v' e1 e2 e3=>?_⟩,fun y c e=>?_,I.free,I.freeC,fun p hp=>?_,tracked ⟨oL,hoL,I.free⟩ hs,by simpa using I.len⟩ ⟨_,hs,.inl rfl⟩
  ·exact(hs.2 b (Qw (QN (Qj e) I.ok.above))).trans (I.base.keep b o e n hb hx)
  ·obtain⟨sl,e1⟩:=I.base.slot b o e n hb hx;exact⟨sl,(hs.2 b (Qw (QN (Qj e) I.ok.above))).trans e1⟩
  ·obtain⟨o',e1⟩:=I.base.there b o e hx;exact⟨o',(hs.2 b (Qw (QN (Qj e) I.ok.above))).trans e1⟩
  ·by_cases hj:j=i
   ·subst hj;rw[hi] at e1;cases e1;rw[MO hiσ] at e2;cases e2;exact⟨u,r,.inl ⟨hk,by simp⟩⟩
   ·rw[QS (QL hj)] at e2;obtain⟨u',r',q⟩:=hl j y v' e1 e2 e3;refine⟨u',r',?_⟩;rcases q with ⟨k,e⟩|⟨k,c,e,z⟩
    ·refine .inl ⟨k,?_⟩;have:y≠x:=fun e=>hj (JcD hN e1 (e▸hi))
     simp[this,e]
    ·exact .inr ⟨k,c,e,z.sameBut hs (cne y c e)⟩
  ·obtain⟨w',z⟩:=I.cell y c e;exact⟨w',z.sameBut hs (cne y c e)⟩
  ·obtain⟨e,n,ne,nf,d⟩:=I.pin p hp;exact⟨(hs.2 p.1 ne).trans e,n,ne,nf,d⟩
 ·have hfn:X.fn x=true:=by simp_all
  obtain⟨c,hc⟩:=I.ok.has x (.inl hk);obtain⟨w',z⟩:=I.cell x c hc;refine wpAny_storeName_cell I.ok.kind hk hc z (fun h' hc' hs=>?_);obtain⟨oc,hoc,hocd⟩:=id z;refine h { s with heap:=h' } ⟨I.ok,I.os,I.bare,⟨fun b o e n hb hx=>?_,fun b o e n hb hx=>?_,I.base.free,fun b o e hx=>?_,I.base.tups,I.base.frzs,I.base.tbls⟩,⟨m,hn.sameBut hs (QL (cne x c hc)),fun j y v' e1 e2 e3=>?_⟩,fun y c' e=>?_,I.free,I.freeC,fun p hp=>?_,tracked ⟨oc,hoc,I.freeC x c hc⟩ hs,by simpa using I.len⟩ ⟨c,hs,.inr hc⟩
  ·exact(hs.2 b (Qw (QN (Qj e) (I.ok.cab x c hfn hc)))).trans (I.base.keep b o e n hb hx)
  ·obtain⟨sl,e1⟩:=I.base.slot b o e n hb hx;exact⟨sl,(hs.2 b (Qw (QN (Qj e) (I.ok.cab x c hfn hc)))).trans e1⟩
  ·obtain⟨o',e1⟩:=I.base.there b o e hx;exact⟨o',(hs.2 b (Qw (QN (Qj e) (I.ok.cab x c hfn hc)))).trans e1⟩
  ·by_cases hj:j=i
   ·subst hj;rw[hi] at e1;cases e1;rw[MO hiσ] at e2;cases e2;exact⟨u,r,.inr ⟨.inl hk,c,hc,hc'⟩⟩
   ·rw[QS (QL hj)] at e2;obtain⟨u',r',q⟩:=hl j y v' e1 e2 e3;refine⟨u',r',?_⟩;rcases q with q|⟨k,c',e,z'⟩
    ·exact .inl q
    ·refine .inr ⟨k,c',e,z'.sameBut hs ?_⟩;rintro rfl;exact hj (JcD hN e1 (I.ok.inj _ _ _ e hc▸hi))
  ·by_cases hcc:c'=c
   ·grind
   ·obtain⟨w2,z2⟩:=I.cell y c' e;exact⟨w2,z2.sameBut hs hcc⟩
  ·obtain⟨e,n,ne,nf,d⟩:=I.pin p hp;refine⟨(hs.2 p.1 ?_).trans e,n,ne,nf,d⟩
   grind
theorem WB{M:Model}{A:Qx}{E:Qc->Qe->Prop}{i:Nat}{x:Str}{v:V}{u:Qc}{Q:Unit->Qe->Prop}(I:Inv X pins σ H s)(hN:X.N.Nodup)(hi:X.N[i]?=some x)(hx:Loc X.env.scope x)(r:RelV v u)
 (h:∀s',Inv X pins (σ.set i (some v)) H s'->Q () s') (hf:X.fn x=true\/X.env.scope.names.lookup x=some .local:=by first|exact .inl rfl|exact .inr rfl|assumption):wpAny M A (storeName X.env x u) Q E s :=
 Ja9 I hN hi hx r (fun s' I' _=>h s' I') hf
theorem Inv.call'{s':Qe}{ch:List Qd}(I:Inv X pins σ H s)(ho:s'.os=s.os)(u:Un (frs X.stack) ch H H' s.heap s'.heap)(hok:HOk X.prog X.w H' s'.heap)(hg:AllBare s'.gens)
 (hch:∀b∈ch,(b∈X.ex\/X.s₀.heap.objs.size<=b)/\b≠X.env.locals/\(∀x c,X.env.cells.lookup x=some c->c≠b)/\∀p∈X.pn++pins,p.1≠b):Inv X pins σ H' s':=by
 obtain⟨h',g',d',t',o'⟩:=s';have e:o'=s.os:=ho;subst e;exact I.call (g':=g') (t':=t') (d':=d') u hok hg hch
end

noncomputable abbrev XK:=Qc->Option Qd->Hp->Prop
noncomputable abbrev St:=List (Option V)
noncomputable abbrev VK:=V->Hp->Prop
noncomputable abbrev TE:=St->Hp->VK->Prop
noncomputable abbrev TT:=St->Hp->(Bool->Hp->Prop)->Prop
noncomputable abbrev TA:=St->Hp->(List V->Hp->Prop)->Prop
structure Ends where
 nx:St->Hp->Prop
 rt:VK
 bk:St->Hp->Prop:=fun _ _=>False
 ct:St->Hp->Prop:=fun _ _=>False
noncomputable abbrev TS:=Ends->St->Hp->Prop

noncomputable def EP(X:Cx)(pins:List (Qd×Obj))(σ:St)(Q:VK)(u:Qc)(s':Qe):Prop:=∃v H',Inv X pins σ H' s'/\RelV v u/\Q v H'
noncomputable def TP(X:Cx)(pins:List (Qd×Obj))(σ:St)(Q:Bool->Hp->Prop)(b:Bool)(s':Qe):Prop:=∃H',Inv X pins σ H' s'/\Q b H'
noncomputable def AP(X:Cx)(pins:List (Qd×Obj))(σ:St)(Q:List V->Hp->Prop)(us:List Qc)(s':Qe):Prop:=∃vs H',Inv X pins σ H' s'/\Vals vs us/\Q vs H'
noncomputable def SP(X:Cx)(pins:List (Qd×Obj))(D:Ends)(f:Flow)(s':Qe):Prop :=
 match f with
 | .next=>∃σ' H',Inv X pins σ' H' s'/\D.nx σ' H'
 | .brk=>∃σ' H',Inv X pins σ' H' s'/\D.bk σ' H'
 | .cont=>∃σ' H',Inv X pins σ' H' s'/\D.ct σ' H'
 | .ret u=>∃v σ' H',Inv X pins σ' H' s'/\RelV v u/\D.rt v H'

noncomputable def PE(X:Cx)(e:QV)(t:TE):Prop :=
 ∀(pins:List (Qd×Obj)) (s:Qe) (σ:St) (H:Hp) (Q:VK),Inv X pins σ H s->t σ H Q->wpAny (model X.prog X.w) X.A (eval e X.env) (EP X pins σ Q) X.xe s
noncomputable def PT(X:Cx)(e:QV)(t:TT):Prop :=
 ∀(pins:List (Qd×Obj)) (s:Qe) (σ:St) (H:Hp) (Q:Bool->Hp->Prop),Inv X pins σ H s->t σ H Q->wpAny (model X.prog X.w) X.A (isTrue e X.env (eval e X.env)) (TP X pins σ Q) X.xe s
noncomputable def PW(X:Cx)(e:QV)(t:TT):Prop :=
 ∀(whole:Sem Qc) (pins:List (Qd×Obj)) (s:Qe) (σ:St) (H:Hp) (Q:Bool->Hp->Prop),Inv X pins σ H s->t σ H Q->wpAny (model X.prog X.w) X.A (isTrue e X.env whole) (TP X pins σ Q) X.xe s
theorem PW.pt{X:Cx}{e:QV}{t:TT}(h:PW X e t):PT X e t:=h _
noncomputable def PA(X:Cx)(es:List QV)(t:TA):Prop :=
 ∀(pos:Pos) (pins:List (Qd×Obj)) (s:Qe) (σ:St) (H:Hp) (Q:List V->Hp->Prop),Inv X pins σ H s->t σ H Q->wpAny (model X.prog X.w) X.A (spliced (backTo pos (starEach es X.env))) (AP X pins σ Q) X.xe s
noncomputable def PS(X:Cx)(st:Gs)(t:TS):Prop :=
 ∀(pins:List (Qd×Obj)) (s:Qe) (σ:St) (H:Hp) (D:Ends),Inv X pins σ H s->t D σ H->wpAny (model X.prog X.w) X.A (exec st X.env) (SP X pins D) X.xe s
noncomputable def PSs(X:Cx)(st:List Gs)(t:TS):Prop :=
 ∀(pins:List (Qd×Obj)) (s:Qe) (σ:St) (H:Hp) (D:Ends),Inv X pins σ H s->t D σ H->wpAny (model X.prog X.w) X.A (execs st X.env) (SP X pins D) X.xe s
theorem thn{α:Type}{t:Sem α}{Q Q':α->Qe->Prop}{M:Model}{A:Qx}{E:Qc->Qe->Prop}{s:Qe}(h:wpAny M A t Q E s)(hQ:∀a s,Q a s->Q' a s):wpAny M A t Q' E s:=G5 h hQ fun _ _ x=>x
theorem thE{X:Cx}{pins:List (Qd×Obj)}{σ:St}{t:Sem Qc}{P:VK}{Q':Qc->Qe->Prop}{M:Model}{A:Qx}{E:Qc->Qe->Prop}{s:Qe}(h:wpAny M A t (EP X pins σ P) E s)(k:∀v s x H,Inv X pins σ H s->RelV x v->P x H->Q' v s):wpAny M A t Q' E s:=thn h fun v s zz=>by obtain⟨x,H,I,r,q⟩:=zz;exact k v s x H I r q
theorem thA{X:Cx}{pins:List (Qd×Obj)}{σ:St}{t:Sem (List Qc)}{P:List V->Hp->Prop}{Q':List Qc->Qe->Prop}{M:Model}{A:Qx}{E:Qc->Qe->Prop}{s:Qe}(h:wpAny M A t (AP X pins σ P) E s)(k:∀v s x H,Inv X pins σ H s->Vals x v->P x H->Q' v s):wpAny M A t Q' E s:=thn h fun v s zz=>by obtain⟨x,H,I,r,q⟩:=zz;exact k v s x H I r q
end L2

namespace L2
open PySem PySem.Spec PyProof.Rows
section
variable{X:Cx}

noncomputable def Y0(i:Nat):TE:=fun σ H Q=>∃v,σ[i]?=some (some v)/\Q v H
noncomputable def tC(v:V):TE:=fun _ H Q=>Q v H
theorem JnM{i:Nat}{x:Str}{pos:Pos}(hN:X.N[i]?=some x)(hv:Vis X.env.scope x)(hd:(x == ("__debug__":Str))=false:=by decide)(hcd:(x == ("__classdict__":Str))=false:=by decide):PE X (.Name x pos) (Y0 i):=by
 intro pins s σ H Q I h;obtain⟨v,e,h⟩:=h;obtain⟨m,hn,hl⟩:=I.loc;obtain⟨u,r,l⟩:=hl i x v hN e hv;have fin:EP X pins σ Q u s:=⟨v,H,I,r,h⟩
 rcases l with ⟨hk,hm⟩|⟨hk,c,hc,hcell⟩
 ·exact wpAny_Name (wpAny_loadName_local I.ok.kind hk hn hm fin) hd
 ·rcases hk with hk|hk
  ·exact wpAny_Name (wpAny_loadName_cell I.ok.kind hk hc hcell fin) hd
  ·exact wpAny_Name (wpAny_loadName_free I.ok.kind hk hc hcell fin hcd) hd
theorem Jh{i j pos}:PE X (.Constant (.int i) j pos) (tC (.int i)):=fun _ _ _ H _ I h=>wpAny_Constant_int ⟨.int i,H,I.tok _,⟨_,rfl⟩,h⟩
theorem Wr{b j pos}:PE X (.Constant (.bool b) j pos) (tC (.bl b)):=fun _ _ _ H _ I h=>Constant_bool ⟨.bl b,H,I,rfl,h⟩
theorem Uv{j pos}:PE X (.Constant .none j pos) (tC .non):=fun _ _ _ H _ I h=>Constant_none ⟨.non,H,I,rfl,h⟩
theorem JbN{x j pos}:PE X (.Constant (.str x) j pos) (tC (.str x)):=fun _ _ _ H _ I h=>Calls.Constant_str ⟨.str x,H,I.tok _,⟨_,rfl⟩,h⟩

noncomputable def Gl(X:Cx)(x:Str):Prop:=X.env.kindOf x=some .globalImplicit
theorem VB{E:Qc->Qe->Prop}{pins:List (Qd×Obj)}{s:Qe}{σ:St}{H:Hp}{x:Str}{u:Qc}{pos:Pos}{Q:Qc->Qe->Prop}(I:Inv X pins σ H s)(hg:Gl X x)(hm:X.mg x=some u)(h:Q u s)
 (hd:(x == ("__debug__":Str))=false:=by decide):wpAny (model X.prog X.w) X.A (eval (.Name x pos) X.env) Q E s :=
 L7 I.ok.kind hg (Calls.loadGlobal_global (by rw[I.ok.glob];exact I.mod.glob.keeps I.bk) hm h) hd
theorem YY{E:Qc->Qe->Prop}{pins:List (Qd×Obj)}{s:Qe}{σ:St}{H:Hp}{x:Str}{u:Qc}{pos:Pos}{Q:Qc->Qe->Prop}(I:Inv X pins σ H s)(hg:Gl X x)(hm:X.mg x=none)(hv:bootBuiltins x=some u)(h:Q u s)
 (hn:x≠"__name__":=by decide) (hd:(x == ("__debug__":Str))=false:=by decide):wpAny (model X.prog X.w) X.A (eval (.Name x pos) X.env) Q E s:=by
 obtain⟨mb,h1,h2⟩:=I.mod.blt;exact L7 I.ok.kind hg (Calls.loadGlobal_builtin (by rw[I.ok.glob];exact I.mod.glob.keeps I.bk) hm (by rw[I.ok.blt];exact h1.keeps I.bk) ((h2 x hn).trans hv) h) hd
theorem YB{x:Str}{v:V}{u:Qc}{pos:Pos}(hg:Gl X x)(hm:X.mg x=some u)(r:RelV v u)(hd:(x == ("__debug__":Str))=false:=by decide):PE X (.Name x pos) (tC v) :=
 fun _ _ _ H _ I h=>VB I hg hm ⟨v,H,I,r,h⟩ hd
theorem JbL{x:Str}{v:V}{u:Qc}{pos:Pos}(hg:Gl X x)(hm:X.mg x=none)(hv:bootBuiltins x=some u)(r:RelV v u)(hn:x≠"__name__":=by decide)(hd:(x == ("__debug__":Str))=false:=by decide):PE X (.Name x pos) (tC v) :=
 fun _ _ _ H _ I h=>YY I hg hm hv ⟨v,H,I,r,h⟩ hn hd

variable{a b:QV}{ta tb:TE}{pos:Pos}
noncomputable def PC(X:Cx)(op:CmpOp)(a b:QV)(t:TE):Prop :=
 ∀(pins:List (Qd×Obj)) (s:Qe) (σ:St) (H:Hp) (Q:VK),Inv X pins σ H s->t σ H Q ->
  wpAny (model X.prog X.w) X.A (eval a X.env) (fun v s₁=>wpAny (model X.prog X.w) X.A (eval b X.env) (fun u s₂=>wpAny (model X.prog X.w) X.A (compareOp op v u) (EP X pins σ Q) X.xe s₂) X.xe s₁) X.xe s
theorem JcC(b:QV){op:CmpOp}(h:op≠.In)(h2:op≠.NotIn):behindInMarks op b=false:=by
 have e1:(op == CmpOp.In)=false:=by simp_all
 have e2:(op == CmpOp.NotIn)=false:=by simp_all
 cases b with
 | Set=>show(_ && (_ || _) && _)=false;rw[e1,e2];simp
 | _=>rfl
noncomputable def tB(t:TE):TT:=fun σ H Q=>t σ H fun x H1=>∃c,x=.bl c/\Q c H1
theorem JnU{op:CmpOp}{t:TE}(h:PC X op a b t)(h1:behindInMarks op b=false:=by first|exact JcC _ (by decide) (by decide)|rfl):PT X (.Compare a [op] [b] pos) (tB t):=by intro pins s σ H Q I hw;refine wpAny_isTrue_Compare1 (thn (h pins s σ H _ I hw) fun v s1 h1=>thn h1 fun u s2 h2=>thE h2 fun c s3 x H1 I1 r1 q1=>?_) h1;obtain⟨d,rfl,q⟩:=q1;cases r1;exact Gw ⟨H1,I1,q⟩
variable{tA tB':TT}{YV:List QV}
noncomputable def JoF(t u:TT):TT:=fun σ H Q=>t σ H fun c H1=>if c=true then u σ H1 Q else Q false H1
noncomputable def tOr(t u:TT):TT:=fun σ H Q=>t σ H fun c H1=>if c=true then Q true H1 else u σ H1 Q
noncomputable def JoG(t:TT):TT:=fun σ H Q=>t σ H fun c H1=>Q (!c) H1
theorem Ut(ha:PT X a tA):PW X (.BoolOp .And [a] pos) tA:=by
 intro wh pins s σ H Q I h;refine isTrue_and (thn (ha pins s σ H Q I h) fun c s1 e=>?_)
 cases c with
 | true=>exact isTrue_and_nil e
 | false=>exact e
theorem JbR(ha:PT X a tA):PW X (.BoolOp .Or [a] pos) tA:=by
 intro wh pins s σ H Q I h;refine isTrue_or (thn (ha pins s σ H Q I h) fun c s1 e=>?_)
 cases c with
 | false=>exact isTrue_or_nil e
 | true=>exact e
theorem Vm(ha:PT X a tA)(hb:PW X (.BoolOp .And (b::YV) pos) tB'):PW X (.BoolOp .And (a::b::YV) pos) (JoF tA tB'):=by
 intro wh pins s σ H Q I h;refine isTrue_and (thn (ha pins s σ H _ I h) fun c s1 zz=>?_);obtain⟨H1,I1,q1⟩:=zz
 cases c with
 | true=>exact hb wh pins s1 σ H1 Q I1 q1
 | false=>exact⟨H1,I1,q1⟩
theorem Ja6(ha:PT X a tA)(hb:PW X (.BoolOp .Or (b::YV) pos) tB'):PW X (.BoolOp .Or (a::b::YV) pos) (tOr tA tB'):=by
 intro wh pins s σ H Q I h;refine isTrue_or (thn (ha pins s σ H _ I h) fun c s1 zz=>?_);obtain⟨H1,I1,q1⟩:=zz
 cases c with
 | true=>exact⟨H1,I1,q1⟩
 | false=>exact hb wh pins s1 σ H1 Q I1 q1
theorem Jaf(ha:PT X a tA):PT X (.UnaryOp .Not a pos) (JoG tA):=by intro pins s σ H Q I h;exact isTrue_not (ha pins s σ H (fun c H1=>Q (!c) H1) I h)
noncomputable def JiA(ta tb:TE):TE:=fun σ H Q=>ta σ H fun x H1=>∃c,x=.bl c/\if c=true then tb σ H1 Q else Q (.bl false) H1
noncomputable def JsD(ta tb:TE):TE:=fun σ H Q=>ta σ H fun x H1=>∃c,x=.bl c/\if c=true then Q (.bl true) H1 else tb σ H1 Q
noncomputable def JrP(ta:TE):TE:=fun σ H Q=>ta σ H fun x H1=>∃c,x=.bl c/\Q (.bl (!c)) H1
theorem JdV{op}{t:TE}(h:PE X a t):PE X (.BoolOp op [a] pos) t:=fun pins s σ H Q I hw=>BoolOp_one (h pins s σ H Q I hw)
theorem JbK(ha:PE X a ta)(hb:PE X (.BoolOp .And (b::YV) pos) tb):PE X (.BoolOp .And (a::b::YV) pos) (JiA ta tb):=by
 intro pins s σ H Q I h;refine BoolOp_and (thE (ha pins s σ H _ I h) fun v s1 x H1 I1 r1 q1=>?_);obtain⟨c,rfl,q1⟩:=q1;cases r1;refine Gw ?_
 cases c with
 | true=>exact hb pins s1 σ H1 Q I1 q1
 | false=>exact⟨.bl false,H1,I1,rfl,q1⟩
noncomputable def tIf(t:TT)(ta tb:TE):TE:=fun σ H Q=>t σ H fun c H1=>if c=true then ta σ H1 Q else tb σ H1 Q
theorem Z3{c:QV}(hc:PT X c tA)(ha:PE X a ta)(hb:PE X b tb):PE X (.IfExp c a b pos) (tIf tA ta tb):=by
 intro pins s σ H Q I h;refine wpAny_IfExp (thn (hc pins s σ H _ I h) fun d s1 zz=>?_);obtain⟨H1,I1,q1⟩:=zz
 cases d with
 | true=>exact ha pins s1 σ H1 Q I1 q1
 | false=>exact hb pins s1 σ H1 Q I1 q1
end
end L2

namespace L2
open PySem PySem.Spec PyProof.Rows

noncomputable def SqL(K:Qo)(H:Hp)(a:Qd)(xs:List V):Prop :=
 Rd H a (.lst xs) ∨
  ∃(o:Obj) (its:Array Qc) (n:Nat),K.lookup a=some o/\o.cls=.type "list"/\o.dict=none/\o.data=.seq its n/\its.size<=Qk/\Vals xs its.toList
noncomputable def SqT(K:Qo)(H:Hp)(a:Qd)(xs:List V):Prop :=
 Rd H a (.tup xs) ∨
  ∃(o:Obj) (its:Array Qc) (n:Nat),K.lookup a=some o/\o.cls=.type "tuple"/\o.data=.seq its n/\its.size<=Qk/\Vals xs its.toList
noncomputable def Jr8:Qc->Option V
 | .none=>some .non
 | .bool b=>some (.bl b)
 | .int i _=>some (.int i)
 | .str x _=>some (.str x)
 | .bytes b _=>some (.byt b)
 | .float b _=>some (.flt b)
 | .ref a=>some (.ref a)
 | .type n=>some (.ty n)
 | _=>none
theorem RelV.abs{x:V}{u:Qc}(r:RelV x u):Jr8 u=some x:=by
 cases x with
 | non=>cases r;rfl
 | bl _=>cases r;rfl
 | int _=>obtain⟨t,rfl⟩:=r;rfl
 | str _=>obtain⟨t,rfl⟩:=r;rfl
 | byt _=>obtain⟨t,rfl⟩:=r;rfl
 | flt _=>obtain⟨t,rfl⟩:=r;rfl
 | ref _=>cases r;rfl
 | ty _=>cases r;rfl
theorem RelV.inj{x y:V}{u:Qc}(r:RelV x u)(q:RelV y u):x=y:=Q6 (r.abs.symm.trans q.abs)
theorem Vals.inj{xs ys:List V}{us:List Qc}(h:Vals xs us)(k:Vals ys us):xs=ys:=by
 induction h generalizing ys with
 | nil=>cases k;rfl
 | cons r t ih =>
  cases k with
  | cons r' t'=>rw[r.inj r',ih t']
section
variable{X:Cx}{pins:List (Qd×Obj)}{σ:St}{H:Hp}{s:Qe}{a:Qd}{xs ys:List V}
theorem SqL.of{K:Qo}(h:H a=some (.lst xs)):SqL K H a xs:=.inl (.inl h)
theorem SqT.of{K:Qo}(h:H a=some (.tup xs)):SqT K H a xs:=.inl (.inl h)
theorem Inv.list(I:Inv X pins σ H s)(h:SqL X.K H a xs):∃its:List Qc,Vals xs its/\PlainL s.heap a its.toArray/\xs.length<=Qk:=by
 rcases h with h|⟨o,its,n,hk,hc,hd,hs,hz,r⟩
 ·obtain⟨z,its,n,r,e⟩:=h.ok I.hok;exact⟨its,r,⟨_,n,e,rfl,rfl,rfl⟩,z⟩
 ·refine⟨its.toList,r,⟨o,n,I.kIn a o hk,hc,hd,by simpa using hs⟩,?_⟩;have e:=r.length
  simp_all
theorem Inv.tuple(I:Inv X pins σ H s)(h:SqT X.K H a xs):∃its:List Qc,Vals xs its/\IsTup s.heap a its.toArray/\xs.length<=Qk:=by
 rcases h with h|⟨o,its,n,hk,hc,hs,hz,r⟩
 ·obtain⟨z,its,r,p⟩:=h.ok I.hok;exact⟨its,r,p,z⟩
 ·refine⟨its.toList,r,⟨o,I.kIn a o hk,hc,n,by simpa using hs⟩,?_⟩;have e:=r.length
  simp_all
theorem Inv.list_inj(I:Inv X pins σ H s)(h:SqL X.K H a xs)(h':SqL X.K H a ys):xs=ys:=by
 obtain⟨its,r,⟨o,n,e,_,_,d⟩,_⟩:=I.list h;obtain⟨its',r',⟨o',n',e',_,_,d'⟩,_⟩:=I.list h';rw[e] at e';cases e';rw[d] at d'
 injection d' with d1 _
 have:its=its':=by simp_all
 subst this;exact r.inj r'
theorem Inv.tuple_inj(I:Inv X pins σ H s)(h:SqT X.K H a xs)(h':SqT X.K H a ys):xs=ys:=by
 obtain⟨its,r,⟨o,e,_,n,d⟩,_⟩:=I.tuple h;obtain⟨its',r',⟨o',e',_,n',d'⟩,_⟩:=I.tuple h';rw[e] at e';cases e';rw[d] at d'
 injection d' with d1 _
 have:its=its':=by simp_all
 subst this;exact r.inj r'
end

noncomputable abbrev Cx.wish(X:Cx)(E:Qc->Qe->Prop):Cx:={ X with xe:=E }
noncomputable abbrev Cx.nox(X:Cx):Cx:=X.wish fun _ _=>False
theorem Cx.Ok.wish{X:Cx}(ok:X.Ok)(E:Qc->Qe->Prop):(X.wish E).Ok :=
 ⟨ok.mod,ok.kind,ok.glob,ok.blt,ok.above,ok.inj,ok.has,ok.cab,ok.hd,ok.frames,ok.stk,ok.exf,ok.bs,ok.bsz,ok.noex,ok.exfs,ok.funs,ok.frf⟩
theorem Cx.Ok.unwish{X:Cx}{E:Qc->Qe->Prop}(ok:(X.wish E).Ok):X.Ok :=
 ⟨ok.mod,ok.kind,ok.glob,ok.blt,ok.above,ok.inj,ok.has,ok.cab,ok.hd,ok.frames,ok.stk,ok.exf,ok.bs,ok.bsz,ok.noex,ok.exfs,ok.funs,ok.frf⟩
section
variable{X:Cx}{pins:List (Qd×Obj)}{σ:St}{H:Hp}{s:Qe}{E:Qc->Qe->Prop}
theorem Inv.wish(I:Inv X pins σ H s)(E:Qc->Qe->Prop):Inv (X.wish E) pins σ H s:=⟨I.ok.wish E,I.os,I.bare,I.base,I.loc,I.cell,I.free,I.freeC,I.pin,I.hok,I.len⟩
theorem Inv.unwish(I:Inv (X.wish E) pins σ H s):Inv X pins σ H s:=⟨I.ok.unwish,I.os,I.bare,I.base,I.loc,I.cell,I.free,I.freeC,I.pin,I.hok,I.len⟩
theorem SP.unwish{D:Ends}{f:Flow}{s':Qe}(h:SP (X.wish E) pins D f s'):SP X pins D f s':=by
 cases f with
 | next=>obtain⟨σ',H',I,q⟩:=h;exact⟨σ',H',I.unwish,q⟩
 | brk=>obtain⟨σ',H',I,q⟩:=h;exact⟨σ',H',I.unwish,q⟩
 | cont=>obtain⟨σ',H',I,q⟩:=h;exact⟨σ',H',I.unwish,q⟩
 | ret u=>obtain⟨v,σ',H',I,r,q⟩:=h;exact⟨v,σ',H',I.unwish,r,q⟩
theorem PE.nox{e:QV}{t:TE}(h:PE X.nox e t):PE X e t:=fun pins s σ H Q I hw=>G5 (h pins s σ H Q (I.wish _) hw) (fun _ _ z=>by obtain⟨v,H',I',r,q⟩:=z;exact⟨v,H',I'.unwish,r,q⟩) fun _ _ z=>GJ z
theorem PT.nox{e:QV}{t:TT}(h:PT X.nox e t):PT X e t:=fun pins s σ H Q I hw=>G5 (h pins s σ H Q (I.wish _) hw) (fun _ _ z=>by obtain⟨H',I',q⟩:=z;exact⟨H',I'.unwish,q⟩) fun _ _ z=>GJ z
theorem PSs.nox{st:List Gs}{t:TS}(h:PSs X.nox st t):PSs X st t:=fun pins s σ H D I hw=>G5 (h pins s σ H D (I.wish _) hw) (fun _ _ q=>q.unwish) fun _ _ z=>GJ z
end

section
variable{X:Cx}{st:Gs}{YV:List Gs}{t u:TS}{e:QV}{te:TE}{pos:Pos}
noncomputable def Jba:TS:=fun D σ H=>D.nx σ H
noncomputable def Jdc(t u:TS):TS:=fun D σ H=>t { D with nx:=u D } σ H
theorem JD:PSs X [] Jba:=fun _ _ σ H _ I h=>KM ⟨σ,H,I,h⟩
theorem Jd(h1:PS X st t)(h2:PSs X YV u):PSs X (st::YV) (Jdc t u):=by
 intro pins s σ H D I h;refine My (thn (h1 pins s σ H { D with nx:=u D } I h) fun f s1 q=>?_)
 cases f with
 | next=>obtain⟨σ',H',I',q⟩:=q;exact h2 pins s1 σ' H' D I' q
 | ret v=>exact q
 | brk=>exact q
 | cont=>exact q
theorem Je(h1:PS X st t):PSs X [st] t:=by
 intro pins s σ H D I h;refine My (thn (h1 pins s σ H D I h) fun f s1 q=>?_)
 cases f with
 | next=>exact KM q
 | ret v=>exact q
 | brk=>exact q
 | cont=>exact q
theorem Inv.quiet{pins:List (Qd×Obj)}{σ:St}{H:Hp}{s:Qe}(I:Inv X pins σ H s):interactive X.env=false:=by simp[interactive,I.ok.kind]
noncomputable def WD(te:TE):TS:=fun D σ H=>te σ H fun _ H1=>D.nx σ H1
theorem JP(he:PE X e te)(hs:swapsWith e none pos.line X.env=pure false:=by rfl):PS X (.Expr e pos) (WD te):=by intro pins s σ H D I h;exact wpAny_Expr_any (thE (he pins s σ H _ I h) fun v s1 x H1 I1 r1 q1=>⟨σ,H1,I1,q1⟩) I.quiet hs
noncomputable def Jgl(te:TE):TS:=fun D σ H=>te σ H D.rt
theorem Jw(he:PE X e te):PS X (.Return (some e) pos) (Jgl te):=by intro pins s σ H D I h;exact wpAny_Return_some (thE (he pins s σ H _ I h) fun v s1 x H1 I1 r1 q1=>⟨x,σ,H1,I1,r1,q1⟩)
noncomputable def Jea(c:TT)(t u:TS):TS:=fun D σ H=>c σ H fun b H1=>if b=true then t D σ H1 else u D σ H1
theorem JS{c:QV}{a b:List Gs}{tc:TT}(hc:PT X c tc)(ha:PSs X a t)(hb:PSs X b u):PS X (.If c a b pos) (Jea tc t u):=by
 intro pins s σ H D I h;refine wpAny_If (thn (hc pins s σ H _ I h) fun d s1 zz=>?_);obtain⟨H1,I1,q1⟩:=zz
 cases d with
 | true=>exact ha pins s1 σ H1 D I1 q1
 | false=>exact hb pins s1 σ H1 D I1 q1
noncomputable def JiG:TS:=fun _ _ _=>False
theorem Yn:PS X st JiG:=fun _ _ _ _ _ _ h=>h.elim
end

noncomputable abbrev TG:=V->St->Hp->(St->Hp->Prop)->Prop
noncomputable abbrev TGs:=List V->St->Hp->(St->Hp->Prop)->Prop
noncomputable def PG(X:Cx)(target:QV)(t:TG):Prop :=
 ∀(pins:List (Qd×Obj)) (s:Qe) (σ:St) (H:Hp) (v:V) (u:Qc) (Q:St->Hp->Prop),Inv X pins σ H s->RelV v u->t v σ H Q ->
  wpAny (model X.prog X.w) X.A (assign target X.env u) (fun _ s'=>∃σ' H',Inv X pins σ' H' s'/\Q σ' H') X.xe s
noncomputable def PGs(X:Cx)(ts:List QV)(t:TGs):Prop :=
 ∀(pins:List (Qd×Obj)) (s:Qe) (σ:St) (H:Hp) (vs:List V) (us:List Qc) (Q:St->Hp->Prop),Inv X pins σ H s->Vals vs us->t vs σ H Q ->
  wpAny (model X.prog X.w) X.A (assignInOrder ((assignEach ts X.env).map (·.2)) us) (fun _ s'=>∃σ' H',Inv X pins σ' H' s'/\Q σ' H') X.xe s
noncomputable abbrev Jo9:=V->V->V->Hp->(Hp->Prop)->Prop
noncomputable abbrev TIp:=V->V->Hp->VK->Prop
noncomputable def PIp(X:Cx)(op:Operator)(t:TIp):Prop :=
 ∀(pins:List (Qd×Obj)) (s:Qe) (σ:St) (H:Hp) (x y:V) (v u:Qc) (Q:VK),Inv X pins σ H s->RelV x v->RelV y u->t x y H Q ->
  wpAny (model X.prog X.w) X.A (inplaceOp op v u) (EP X pins σ Q) X.xe s
section
variable{X:Cx}{pos:Pos}
noncomputable def YS(i:Nat):TG:=fun v σ H Q=>Q (σ.set i (some v)) H
theorem Jr{i:Nat}{x:Str}(hN:X.N.Nodup)(hi:X.N[i]?=some x)(hx:Loc X.env.scope x)(hf:X.fn x=true\/X.env.scope.names.lookup x=some .local:=by first|exact .inl rfl|exact .inr rfl|assumption):PG X (.Name x pos) (YS i):=by intro pins s σ H v u Q I r h;exact wpAny_assign_Name (WB I hN hi hx r (fun s' I'=>⟨_,H,I',h⟩) hf)
noncomputable def JjF:TGs:=fun vs σ H Q=>vs=[]/\Q σ H
noncomputable def Jex(t:TG)(u:TGs):TGs:=fun vs σ H Q=>∃v r,vs=v::r/\t v σ H fun σ' H'=>u r σ' H' Q
theorem Jz:PGs X [] JjF:=by intro pins s σ H vs us Q I r h;obtain⟨e,h⟩:=h;subst e;cases r;exact assignInOrder_nil ⟨σ,H,I,h⟩
theorem Jg{e:QV}{es:List QV}{t:TG}{u:TGs}(h1:PG X e t)(h2:PGs X es u)
 (hs:(assignEach (e::es) X.env).map (·.2)=assign e X.env::(assignEach es X.env).map (·.2):=by rfl):PGs X (e::es) (Jex t u):=by
 intro pins s σ H vs us Q I r h;obtain⟨v,vr,e1,h⟩:=h;subst e1
 cases r with
 | cons r rr=>rw[hs];refine assignInOrder_cons (thn (h1 pins s σ H _ _ _ I r h) fun _ s1 zz=>?_);obtain⟨σ1,H1,I1,q1⟩:=zz;exact h2 pins s1 σ1 H1 _ _ Q I1 rr q1
noncomputable def JfA(K:Qo)(n:Nat)(t:TGs):TG:=fun v σ H Q=>∃a xs,v=.ref a/\SqT K H a xs/\xs.length=n/\t xs σ H Q
theorem JnN{es:List QV}{k:Nat}{t:TGs}{n:Nat}(hc:X.calm=true)(h:PGs X es t)
 (hn:(assignEach es X.env).length=n:=by rfl) (hst:(assignEach es X.env).findIdx? (·.1)=none:=by rfl):PG X (.Tuple es k pos) (JfA X.K n t):=by
 intro pins s σ H v u Q I r hw;obtain⟨a,xs,e1,hq,hl,hw⟩:=hw;subst e1;cases r;obtain⟨its,rv,ht,hz⟩:=I.tuple hq;refine assign_Tuple_tuple (I.ok.hd hc) ht (by simp[hn,<- hl,rv.length]) hst fun h' hx=>?_
 have I1:Inv X pins σ H { s with heap:=h' }:=I.kept (t':=s.toks) fun b o e=>hx b o (Qw (Qj e)) e
 exact h pins _ σ H xs _ Q I1 (by simpa using rv) hw
noncomputable def Jsf(to ti:TE)(t:Jo9):TG:=fun v σ H Q=>to σ H fun o H1=>ti σ H1 fun i H2=>t o i v H2 fun H3=>Q σ H3
noncomputable def Zh(te:TE)(g:TG):TS:=fun D σ H=>te σ H fun x H1=>g x σ H1 D.nx
theorem JnR{tg e:QV}{te:TE}{g:TG}(he:PE X e te)(hg:PG X tg g)(hs:swapsWithSole [tg] e pos.line X.env=pure false:=by rfl)(hw:swappedStores [tg] e X.env=pure none:=by rfl)
 (h1:(assignEach [tg] X.env).map (·.2)=[assign tg X.env]:=by rfl):PS X (.Assign [tg] e pos) (Zh te g):=by
 intro pins s σ H D I h;refine wpAny_Assign_stores (thE (he pins s σ H _ I h) fun v s1 x H1 I1 r1 q1=>?_) hs hw;rw[h1];exact thn (hg pins s1 σ H1 x v _ I1 r1 q1) fun _ s2 q=>q
theorem JbQ{i:Nat}{x:Str}{e:QV}{te:TE}{pos':Pos}(hN:X.N.Nodup)(hi:X.N[i]?=some x)(hx:Loc X.env.scope x)(he:PE X e te)(hs:swapsWith e (some (.Name x pos')) pos.line X.env=pure false:=by rfl)(hf:X.fn x=true\/X.env.scope.names.lookup x=some .local:=by first|exact .inl rfl|exact .inr rfl|assumption) :
 PS X (.Assign [.Name x pos'] e pos) (Zh te (YS i)):=by
 intro pins s σ H D I h;refine wpAny_Assign_Name (thE (he pins s σ H _ I h) fun v s1 y H1 I1 r1 q1=>?_) hs;exact WB I1 hN hi hx r1 (fun s2 I2=>⟨_,H1,I2,q1⟩) hf
noncomputable def Jld(i:Nat)(te:TE)(ti:TIp):TS:=fun D σ H=>∃x,σ[i]?=some (some x)/\te σ H fun y H1=>ti x y H1 fun z H2=>D.nx (σ.set i (some z)) H2
theorem Jac{i:Nat}{x:Str}{e:QV}{te:TE}{op:Operator}{ti:TIp}{pos':Pos}(hN:X.N.Nodup)(hi:X.N[i]?=some x)(hx:Loc X.env.scope x)(he:PE X e te)(ho:PIp X op ti)(hf:X.fn x=true\/X.env.scope.names.lookup x=some .local:=by first|exact .inl rfl|exact .inr rfl|assumption) :
 PS X (.AugAssign (.Name x pos') op e pos) (Jld i te ti):=by
 intro pins s σ H D I h;obtain⟨v,e1,h⟩:=h;obtain⟨m,hn,hl⟩:=I.loc;have vis:Vis X.env.scope x:=by rcases hx with k|k;exact .inl k;exact .inr (.inl k)
 obtain⟨u,r,l⟩:=hl i x v hi e1 vis;refine wpAny_AugAssign_Name ?_
 have go:wpAny (model X.prog X.w) X.A (eval e X.env) (fun w s₂=>wpAny (model X.prog X.w) X.A (inplaceOp op u w) (fun r s₃=>wpAny (model X.prog X.w) X.A (storeName X.env x r) (fun _=>SP X pins D .next) X.xe s₃) X.xe s₂) X.xe s:=by
  refine thE (he pins s σ H _ I h) fun w s1 y H1 I1 r1 q1=>?_
  refine thE (ho pins s1 σ H1 v y u w _ I1 r r1 q1) fun z s2 zv H2 I2 r2 q2=>?_
  exact WB I2 hN hi hx r2 (fun s3 I3=>⟨_,H2,I3,q2⟩) hf
 rcases l with ⟨hk,hm⟩|⟨hk,c,hc,hcell⟩
 ·exact wpAny_loadName_local I.ok.kind hk hn hm go
 ·rcases hk with hk|hk
  ·exact wpAny_loadName_cell I.ok.kind hk hc hcell go
  ·rcases hx with k|k
   ·have:X.env.scope.names.lookup x=some .free:=hk;rw[k] at this;cases this
   ·have:X.env.scope.names.lookup x=some .free:=hk;rw[k] at this;cases this
noncomputable def ipI(f:Int->Int->Int):TIp:=fun x y H Q=>∃i j,x=.int i/\y=.int j/\Q (.int (f i j)) H
theorem JmS:PIp X .Add (ipI fun i j=>i+j):=by intro pins s σ H x y v u Q I r1 r2 h;obtain⟨i,j,e1,e2,q⟩:=h;subst e1;subst e2;obtain⟨t,rfl⟩:=r1;obtain⟨t',rfl⟩:=r2;exact iadd_int ⟨.int _,H,I.tok _,⟨_,rfl⟩,q⟩
theorem Jhl:PIp X .Sub (ipI fun i j=>i-j):=by intro pins s σ H x y v u Q I r1 r2 h;obtain⟨i,j,e1,e2,q⟩:=h;subst e1;subst e2;obtain⟨t,rfl⟩:=r1;obtain⟨t',rfl⟩:=r2;exact isub_int ⟨.int _,H,I.tok _,⟨_,rfl⟩,q⟩
end

section
variable{X:Cx}{pos:Pos}
noncomputable def JiI(c:TT)(tb:TS):TS:=fun D σ H=>∃W:Nat->St->Hp->Prop,(∃m,W m σ H)/\∀m σ H,W m σ H ->
 c σ H fun b H1=>if b=true then ∃N:St->Hp->Prop,(∀σ' H',N σ' H'->∃m',m'<m/\W m' σ' H')/\tb { D with nx:=N,ct:=N,bk:=D.nx } σ H1 else D.nx σ H1
theorem Jae{c:QV}{body:List Gs}{tc:TT}{tb:TS}(hp:PassesOwn (model X.prog X.w) X.A X.env X.xe)(hc:PT X c tc)(hb:PSs X body tb):PS X (.While c body [] pos) (JiI tc tb):=by
 intro pins s σ H D I h;obtain⟨W,⟨m0,w0⟩,turn⟩:=h;refine wpAny_While (codeAny_whileLoop (fun n s'=>∃σ' H',Inv X pins σ' H' s'/\W n σ' H') ?_ m0 ⟨σ,H,I,w0⟩);rintro n s1 ⟨σ1,H1,I1,w1⟩;refine Kr hp (thn (hc pins s1 σ1 H1 _ I1 (turn n σ1 H1 w1)) fun b s2 zz=>?_);obtain⟨H2,I2,q2⟩:=zz
 cases b with
 | true =>
  obtain⟨N,hN,q2⟩:=q2;rw[if_pos rfl];refine Kr hp (thn (hb pins s2 σ1 H2 _ I2 q2) fun f s3 q3=>?_)
  cases f with
  | next=>obtain⟨σ3,H3,I3,n3⟩:=q3;obtain⟨m',hm,w3⟩:=hN σ3 H3 n3;exact⟨m',hm,σ3,H3,I3,w3⟩
  | cont=>obtain⟨σ3,H3,I3,n3⟩:=q3;obtain⟨m',hm,w3⟩:=hN σ3 H3 n3;exact⟨m',hm,σ3,H3,I3,w3⟩
  | brk=>exact q3
  | ret v=>exact q3
 | false=>rw[if_neg Qz];exact KM ⟨σ1,H2,I2,q2⟩
end

structure It where
 go:Nat->Hp->Prop
 yld:Nat->Hp->V->Hp->Prop
 stop:Nat->Hp->Prop
noncomputable def FpOk(X:Cx)(pins:List (Qd×Obj))(H:Hp)(b:Qd):Prop :=
 H b=none/\b≠X.env.locals/\b∉X.fs/\(b∈X.ex\/X.s₀.heap.objs.size<=b)/\(∀x c,X.env.cells.lookup x=some c->c≠b)/\∀p∈X.pn++pins,p.1≠b
theorem Inv.fpOk{X:Cx}{pins:List (Qd×Obj)}{σ:St}{H H':Hp}{s:Qe}{b:Qd}(I:Inv X pins σ H s)(hb:s.heap.objs.size<=b)(hn:H' b=none):FpOk X pins H' b:=by
 refine⟨hn,Q1 (QN I.lt hb),I.nofs hb,.inr (QJ I.sz hb),fun x c e z=>?_,fun p hp z=>?_⟩
 ·obtain⟨v,q⟩:=I.cell x c e;exact absurd (QN q.lt (by rw[z];exact hb)) (Gv _)
 ·exact absurd (QN (Qj (I.pin p hp).1) (by rw[z];exact hb)) (Gv _)
structure Turn (P:Qm) (w:Qp) (K:Qo) (tg:QV) (J:It) (fp:List Qd) (it:Qd) (tn:Nat->QC->Prop):Prop where
 mem:it∈fp
 obj:∀i h,tn i h->∀b∈fp,∃o,h.get? b=some o/\∀v,o.data≠.cell v
 keep:∀i h h',tn i h->(∀b∈fp,∀o,h.get? b=some o->h'.get? b=some o)->tn i h'
 item:∀(X:Cx),X.prog=P->X.w=w->X.K=K->X.calm=true->∀(i:Nat) (pins:List (Qd×Obj)) (s:Qe) (σ:St) (H:Hp) (E:Qc->Qe->Prop),Inv X pins σ H s->(∀b∈fp,FpOk X pins H b)->tn i s.heap->J.go i H ->
  wpAny (model P w) X.A (pyNext (.ref it)) (fun r s1=>∃u,r=some u ∧
   wpAny (model P w) X.A (letOwnedTupleGo tg (.ref it) u) (fun _ s2=>∃x H',Inv X pins σ H' s2/\RelV x u/\J.yld i H x H'/\tn (i+1) s2.heap/\∀b∈fp,H' b=none) E s1) E s
 done:∀(X:Cx),X.prog=P->X.w=w->X.K=K->X.calm=true->∀(i:Nat) (pins:List (Qd×Obj)) (s:Qe) (σ:St) (H:Hp) (E:Qc->Qe->Prop),Inv X pins σ H s->(∀b∈fp,FpOk X pins H b)->tn i s.heap->J.stop i H ->
  wpAny (model P w) X.A (pyNext (.ref it)) (fun r s1=>r=none/\Inv X pins σ H s1) E s
 self:∀(A:Qx) (i:Nat) (s:Qe) (Q:Qc->Qe->Prop) (E:Qc->Qe->Prop),tn i s.heap->Q (.ref it) s->wpAny (model P w) A (pyIter (.ref it)) Q E s
noncomputable abbrev TI:=St->Hp->(It->Hp->Prop)->Prop
noncomputable def PIE(X:Cx)(pins:List (Qd×Obj))(σ:St)(tg:QV)(R:It->Hp->Prop)(itv:Qc)(s2:Qe):Prop :=
 ∃(it:Qd) (fp:List Qd) (tn:Nat->QC->Prop) (J:It) (H':Hp),itv=.ref it/\Inv X pins σ H' s2/\Turn X.prog X.w X.K tg J fp it tn/\tn 0 s2.heap/\(∀b∈fp,FpOk X pins H' b)/\R J H'
noncomputable def PI(X:Cx)(tg iter:QV)(wi:TI):Prop :=
 ∀(pins:List (Qd×Obj)) (s:Qe) (σ:St) (H:Hp) (R:It->Hp->Prop),Inv X pins σ H s->wi σ H R ->
  wpAny (model X.prog X.w) X.A (eval iter X.env) (fun v s1=>wpAny (model X.prog X.w) X.A (pyIter v) (PIE X pins σ tg R) X.xe s1) X.xe s

theorem ZH{M:Model}{A:Qx}{E:Qc->Qe->Prop}{s:Qe}{tg:QV}{it:Qd}{u:Qc}{o:Obj}{n:String}{vs:Array Qc}{Q:Unit->Qe->Prop}(ho:s.heap.get? it=some o)(hc:o.cls=.type n)(hd:o.data=.fields vs)
 (hn:["enumerate","zip","dict_itemiterator","dict_reverseitemiterator","odict_iterator","itertools.zip_longest","itertools.pairwise"].contains n=false) (hQ:Q () s):wpAny M A (letOwnedTupleGo tg (.ref it) u) Q E s:=by
 unfold letOwnedTupleGo;cases tg <;> first
  | exact Qf hQ
  | (cases u <;> first
   | exact Qf hQ
   | (refine Qa (wpAny_load ho ?_)
      rw[hc,hd];show wpAny M A (if (["enumerate","zip","dict_itemiterator","dict_reverseitemiterator","odict_iterator","itertools.zip_longest","itertools.pairwise"].contains n && vs[0]? == some (rawInt _))=true then _ else _) Q E s;rw[if_neg (by intro h;rw[hn,Bool.false_and] at h;cases h)];exact Qf hQ))

noncomputable def Itl(K:Qo)(a:Qd):It :=
 ⟨fun i H=>∃xs x,SqL K H a xs/\xs[i]?=some x,fun i H x H'=>H'=H/\∀xs,SqL K H a xs->xs[i]?=some x,fun i H=>∃xs,SqL K H a xs/\xs.length<=i⟩
noncomputable def Itt(K:Qo)(a:Qd):It :=
 ⟨fun i H=>∃xs x,SqT K H a xs/\xs[i]?=some x,fun i H x H'=>H'=H/\∀xs,SqT K H a xs->xs[i]?=some x,fun i H=>∃xs,SqT K H a xs/\xs.length<=i⟩
noncomputable def Itr(lo:Int)(n:Nat):It:=⟨fun i _=>i<n,fun i H x H'=>H'=H/\x=.int (lo+i),fun i _=>n<=i⟩
theorem Jgo{P:Qm}{w:Qp}{K:Qo}{tg:QV}(a it:Qd):Turn P w K tg (Itl K a) [it] it (fun i h=>h.IsListIter it a i) where
 mem:=by simp
 obj:=fun i h st b hb=>by
  have e:b=it:=by simpa using hb
  subst e;obtain⟨o,e,c,d⟩:=st
  simp_all
 keep:=fun i h h' st k=>st.at fun o e=>k it (by simp) o e
 item:=by
  intro X hP hw hK hc i pins s σ H E I hf st hg;subst hP hw hK;obtain⟨xs,x,hq,hx⟩:=hg;obtain⟨its,rv,p,hz⟩:=I.list hq;obtain⟨u,hu,ru⟩:=rv.get hx;obtain⟨f0,f1,f2,f3,f4,f5⟩:=hf it (by simp);refine wpAny_pyNext_list_item st p.isList (x:=u) (by simpa using hu) fun h' st' sb=>?_
  have I1:Inv X pins σ H { s with heap:=h' }:=I.turned (t':=s.toks) (fun b o hb e=>(sb.2 b hb).trans e) f0 f1 f3 f4 f5;obtain⟨o,e,c,d⟩:=id st';exact⟨u,rfl,ZH (s:={ s with heap:=h' }) e c d (by decide) ⟨x,H,I1,ru,⟨rfl,fun ys hy=>by rw[I.list_inj hy hq];exact hx⟩,st',fun b hb=>(hf b hb).1⟩⟩
 done:=by intro X hP hw hK hc i pins s σ H E I hf st hg;subst hP hw hK;obtain⟨xs,hq,hx⟩:=hg;obtain⟨its,rv,p,hz⟩:=I.list hq;obtain⟨f0,f1,f2,f3,f4,f5⟩:=hf it (by simp);have hl:=rv.length;exact wpAny_pyNext_list_end (I.ok.hd hc) st p.isList (by simp;simp_all) fun h' eb=>⟨rfl,I.turned (t':=s.toks) (fun b o hb e=>eb b o hb e) f0 f1 f3 f4 f5⟩
 self:=fun _ _ _ _ _ st h=>wpAny_pyIter_listiter st h
theorem Jeh{P:Qm}{w:Qp}{K:Qo}{tg:QV}(a it:Qd):Turn P w K tg (Itt K a) [it] it (fun i h=>h.IsTupleIter it a i) where
 mem:=by simp
 obj:=fun i h st b hb=>by
  have e:b=it:=by simpa using hb
  subst e;obtain⟨o,e,c,d⟩:=st
  simp_all
 keep:=fun i h h' st k=>st.at fun o e=>k it (by simp) o e
 item:=by
  intro X hP hw hK hc i pins s σ H E I hf st hg;subst hP hw hK;obtain⟨xs,x,hq,hx⟩:=hg;obtain⟨its,rv,p,hz⟩:=I.tuple hq;obtain⟨u,hu,ru⟩:=rv.get hx;obtain⟨f0,f1,f2,f3,f4,f5⟩:=hf it (by simp);refine wpAny_pyNext_tuple_item st (show s.heap.IsTuple a its.toArray from p) (x:=u) (by simpa using hu) fun h' st' sb=>?_
  have I1:Inv X pins σ H { s with heap:=h' }:=I.turned (t':=s.toks) (fun b o hb e=>(sb.2 b hb).trans e) f0 f1 f3 f4 f5;obtain⟨o,e,c,d⟩:=id st';exact⟨u,rfl,ZH (s:={ s with heap:=h' }) e c d (by decide) ⟨x,H,I1,ru,⟨rfl,fun ys hy=>by rw[I.tuple_inj hy hq];exact hx⟩,st',fun b hb=>(hf b hb).1⟩⟩
 done:=by intro X hP hw hK hc i pins s σ H E I hf st hg;subst hP hw hK;obtain⟨xs,hq,hx⟩:=hg;obtain⟨its,rv,p,hz⟩:=I.tuple hq;obtain⟨f0,f1,f2,f3,f4,f5⟩:=hf it (by simp);have hl:=rv.length;exact wpAny_pyNext_tuple_end (I.ok.hd hc) st (show s.heap.IsTuple a its.toArray from p) (by simp;omega) fun h' eb=>⟨rfl,I.turned (t':=s.toks) (fun b o hb e=>eb b o hb e) f0 f1 f3 f4 f5⟩
 self:=fun _ _ _ _ _ st h=>wpAny_pyIter_tupleiter st h
theorem Jeg{P:Qm}{w:Qp}{K:Qo}{tg:QV}(it:Qd)(lo:Int)(n:Nat):Turn P w K tg (Itr lo n) [it] it (fun i h=>IsRangeIter h it (lo+(i:Nat)*1) ((n:Int)-(i:Nat)) 1) where
 mem:=by simp
 obj:=fun i h st b hb=>by simp_all
 keep:=fun i h h' st k=>k it (by simp) _ st
 item:=by
  intro X hP hw hK hc i pins s σ H E I hf st hg;subst hP hw hK;obtain⟨f0,f1,f2,f3,f4,f5⟩:=hf it (by simp);have W:=Walks.range (prog:=X.prog) (w:=X.w) (I.ok.hd hc) it lo 1 n;refine W.item i s _ _ hg st fun v h' tk hv st' kk=>?_
  obtain⟨t,rfl⟩:=hv;have I1:Inv X pins σ H { s with heap:=h',toks:=tk }:=I.turned (fun b o hb e=>kk b o (by simpa using hb) e) f0 f1 f3 f4 f5;refine⟨_,rfl,ZH (s:={ s with heap:=h',toks:=tk }) (n:="range_iterator") st' rfl rfl (by decide) ⟨.int (lo+i),H,I1,⟨t,?_⟩,⟨rfl,rfl⟩,st',fun b hb=>(hf b hb).1⟩⟩;rw[Int.mul_one]
 done:=by intro X hP hw hK hc i pins s σ H E I hf st hg;subst hP hw hK;obtain⟨f0,f1,f2,f3,f4,f5⟩:=hf it (by simp);exact wpAny_pyNext_range_end (I.ok.hd hc) st (by have:n<=i:=hg;lia) fun h' eb=>⟨rfl,I.turned (t':=s.toks) (fun b o hb e=>eb b o hb e) f0 f1 f3 f4 f5⟩
 self:=fun _ _ _ _ _ st h=>wpAny_pyIter_rangeiter st h
end L2

namespace L2
open PySem PySem.Spec PyProof.Rows
section
variable{X:Cx}{tg:QV}
noncomputable def JlI(K:Qo)(tl:TE):TI:=fun σ H R=>tl σ H fun x H1=>∃a,x=.ref a/\(∃xs,SqL K H1 a xs)/\R (Itl K a) H1
noncomputable def JpA(K:Qo)(tl:TE):TI:=fun σ H R=>tl σ H fun x H1=>∃a,x=.ref a/\(∃xs,SqT K H1 a xs)/\R (Itt K a) H1
theorem Jkl{l:QV}{tl:TE}(hl:PE X l tl):PI X tg l (JlI X.K tl):=by
 intro pins s σ H R I h;refine thE (hl pins s σ H _ I h) fun v s1 x H1 I1 r1 q1=>?_
 obtain⟨a,e,⟨xs,hq⟩,q⟩:=q1;subst e;cases r1;obtain⟨its,rv,p,hz⟩:=I1.list hq;refine Ln p.isList ?_;refine⟨s1.heap.objs.size,[s1.heap.objs.size],_,_,H1,rfl,I1.kept (t':=s1.toks) fun b o e=>Qg _ e,Jgo a _,⟨_,Qh _ rfl,rfl,rfl⟩,fun b hb=>?_,q⟩;have e:b=s1.heap.objs.size:=by simpa using hb
 subst e;exact I1.fpOk (Qn _) (I1.hok.fresh (Qn _))
theorem JnP{l:QV}{tl:TE}(hl:PE X l tl):PI X tg l (JpA X.K tl):=by
 intro pins s σ H R I h;refine thE (hl pins s σ H _ I h) fun v s1 x H1 I1 r1 q1=>?_
 obtain⟨a,e,⟨xs,hq⟩,q⟩:=q1;subst e;cases r1;obtain⟨its,rv,p,hz⟩:=I1.tuple hq;refine L8 (show s1.heap.IsTuple a its.toArray from p) ?_;refine⟨s1.heap.objs.size,[s1.heap.objs.size],_,_,H1,rfl,I1.kept (t':=s1.toks) fun b o e=>Qg _ e,Jeh a _,⟨_,Qh _ rfl,rfl,rfl⟩,fun b hb=>?_,q⟩;have e:b=s1.heap.objs.size:=by simpa using hb
 subst e;exact I1.fpOk (Qn _) (I1.hok.fresh (Qn _))
theorem Jia{pins:List (Qd×Obj)}{σ:St}{H:Hp}{s:Qe}{R:It->Hp->Prop}{E:Qc->Qe->Prop}{lo hi:Int}{t u v:Tok}{tk:Nat}(I:Inv X pins σ H s)(h1:-(2 ^ 62)<=lo)(h2:lo<2 ^ 62)(h3:-(2 ^ 62)<=hi)(h4:hi<2 ^ 62)
 (q:R (Itr lo (hi-lo).toNat) H):wpAny (model X.prog X.w) X.A (pyIter (.ref s.heap.objs.size)) (PIE X pins σ tg R) E { s with heap:=s.heap.push { cls:=.type "range",data:=.fields #[.int lo t,.int hi u,.int 1 v] },toks:=tk }:=by
 refine wpAny_pyIter_range (IsRange.new ..) (small_one h1 h2 h3 h4) ?_;have I1:Inv X pins σ H { s with heap:=s.heap.push { cls:=.type "range",data:=.fields #[.int lo t,.int hi u,.int 1 v] },toks:=tk }:=I.kept fun b o e=>Qg _ e
 refine⟨(s.heap.push { cls:=.type "range",data:=.fields #[.int lo t,.int hi u,.int 1 v] }).objs.size,[(s.heap.push { cls:=.type "range",data:=.fields #[.int lo t,.int hi u,.int 1 v] }).objs.size],_,_,H,rfl,
  I1.kept (t':=tk) fun b o e=>Qg _ e,Jeg _ lo (hi-lo).toNat,?_,fun b hb=>?_,q⟩
 ·have e1:lo+((0:Nat):Int)*1=lo:=by simp
  have e2:(((hi-lo).toNat:Nat):Int)-((0:Nat):Int)=QZ lo hi 1:=by rw[rangeSize_one];split <;> omega
  show IsRangeIter _ _ (lo+((0:Nat):Int)*1) ((((hi-lo).toNat:Nat):Int)-((0:Nat):Int)) 1;rw[e1,e2];exact Qh _ rfl
 ·have e:b=(s.heap.push { cls:=.type "range",data:=.fields #[.int lo t,.int hi u,.int 1 v] }).objs.size:=by simpa using hb
  subst e;exact I1.fpOk (Qn _) (I1.hok.fresh (Qn _))
noncomputable def JlJ(ta:TA):TI:=fun σ H R=>ta σ H fun vs H1=>∃j:Int,vs=[.int j]/\-(2 ^ 62)<=j/\j<2 ^ 62/\R (Itr 0 j.toNat) H1
theorem UK{a:QV}{ta:TA}{p pos:Pos}(hg:Gl X "range")(hm:X.mg "range"=none)(ha:PA X [a] ta)(hs:starEach [a] X.env=[(false,eval a X.env)]:=by rfl):PI X tg (.Call (.Name "range" p) [a] [] pos) (JlJ ta):=by
 intro pins s σ H R I h;refine Call_ (YY I hg hm boot_range (Q8 (thA (ha pos pins s σ H _ I h) fun us s1 vs H1 I1 r1 q1=>?_) hs rfl));obtain⟨j,e,q1,q2,q⟩:=q1;subst e
 cases r1 with
 | cons r rr=>cases rr;obtain⟨t,rfl⟩:=r;exact call_range_1 (Jia I1 (by simp[*]) (by simp[*]) q1 q2 (by simpa using q))
noncomputable def Jda(wi:TI)(g:TG)(tb:TS):TS:=fun D σ H=>wi σ H fun J H1=>∃W:Nat->Nat->St->Hp->Prop,(∃m,W 0 m σ H1)/\∀i m σ H,W i m σ H ->
 (J.stop i H/\D.nx σ H)\/(J.go i H/\∃N:St->Hp->Prop,(∀σ' H',N σ' H'->∃m',m'<m/\W (i+1) m' σ' H')/\∀x H',J.yld i H x H'->g x σ H' fun σ2 H2=>tb { D with nx:=N,ct:=N,bk:=D.nx } σ2 H2)
noncomputable def Jab(fp:List Qd)(h:QC):List (Qd×Obj):=fp.filterMap fun b=>(h.get? b).map fun o=>(b,o)
theorem VT{fp:List Qd}{h:QC}{b:Qd}{o:Obj}(hb:b∈fp)(e:h.get? b=some o):(b,o)∈Jab fp h:=List.mem_filterMap.mpr ⟨b,hb,by rw[e];rfl⟩
theorem Jf1{fp:List Qd}{h:QC}{p:Qd×Obj}(hp:p∈Jab fp h):p.1∈fp/\h.get? p.1=some p.2:=by
 obtain⟨b,hb,e⟩:=List.mem_filterMap.mp hp
 cases q:h.get? b with
 | none=>rw[q] at e;cases e
 | some o=>grind
theorem Inv.pinned{pins:List (Qd×Obj)}{σ:St}{H:Hp}{s:Qe}{fp:List Qd}(I:Inv X pins σ H s)(hf:∀b∈fp,FpOk X pins H b)(ho:∀b∈fp,∃o,s.heap.get? b=some o/\∀v,o.data≠.cell v):Inv X (pins++Jab fp s.heap) σ H s :=
 I.pins_of fun p hp=>(GL.mp hp).elim (fun z=>I.pin p (GF _ z)) fun z=>by obtain⟨hb,e⟩:=Jf1 z;obtain⟨f0,f1,f2,_⟩:=hf p.1 hb;obtain⟨o,e',d⟩:=ho p.1 hb;rw[e] at e';cases e';exact⟨e,f0,f1,f2,d⟩
theorem Inv.unpinned{pins pl:List (Qd×Obj)}{σ:St}{H:Hp}{s:Qe}(I:Inv X (pins++pl) σ H s):Inv X pins σ H s:=I.pins_of fun p hp=>I.pin p (GF _ (M9 _ hp))
theorem JX{iter:QV}{body:List Gs}{wi:TI}{g:TG}{tb:TS}{pos:Pos}(hp:PassesOwn (model X.prog X.w) X.A X.env X.xe)(hc:X.calm=true)(hi:PI X tg iter wi)(hg:PG X tg g)(hb:PSs X body tb)
 (hs:∀x,foldedSetIterable iter X.env x=pure x:=by intro _;rfl):PS X (.For tg iter body [] pos) (Jda wi g tb):=by
 intro pins s σ H D I h;refine wpAny_For (thn (hi pins s σ H _ I h) fun v s1 h1=>thn h1 fun itv s2 h2=>?_) hs;obtain⟨it,fp,tn,J,H2,e,I2,T,st2,f2,W,⟨m0,w0⟩,turn⟩:=h2;subst e
 -- what stays true of the iterator's objects through the loop
 have stat:∀{H':Hp},(∀b∈fp,H' b=none)->∀b∈fp,FpOk X pins H' b:=fun hn b hb=>⟨hn b hb,(f2 b hb).2⟩
 refine codeAny_forLoop_any (fun n s'=>∃i σ' H',Inv X pins σ' H' s'/\tn i s'.heap/\(∀b∈fp,H' b=none)/\W i n σ' H') ?_ m0 ⟨0,σ,H2,I2,st2,fun b hb=>(f2 b hb).1,w0⟩;rintro n s3 ⟨i,σ3,H3,I3,st3,fr3,w3⟩;rcases turn i n σ3 H3 w3 with ⟨stop,qn⟩|⟨go,N,hN,step⟩
 ·refine Kr hp (thn (T.done X rfl rfl rfl hc i pins s3 σ3 H3 X.xe I3 (stat fr3) st3 stop) fun r s4 ⟨hr,I4⟩=>?_);subst hr;exact KM ⟨σ3,H3,I4,qn⟩
 ·refine Kr hp (thn (T.item X rfl rfl rfl hc i pins s3 σ3 H3 X.xe I3 (stat fr3) st3 go) fun r s4 ⟨u,hr,h4⟩=>?_);subst hr;refine Kr hp (thn h4 fun _ s5 zz=>?_);obtain⟨x,H5,I5,r5,y5,st5,fr5⟩:=zz;have I5':=I5.pinned (stat fr5) (T.obj _ _ st5);refine Kr hp (thn (hg _ s5 σ3 H5 x u _ I5' r5 (step x H5 y5)) fun _ s6 zz=>?_);obtain⟨σ6,H6,I6,q6⟩:=zz;refine Kr hp (thn (hb _ s6 σ6 H6 _ I6 q6) fun f s7 q7=>?_)
  have again:∀{σ7:St} {H7:Hp},Inv X (pins++Jab fp s5.heap) σ7 H7 s7->N σ7 H7->∃m,m<n/\∃i σ' H',Inv X pins σ' H' s7/\tn i s7.heap/\(∀b∈fp,H' b=none)/\W i m σ' H':=fun {σ7 H7} I7 n7=>by obtain⟨m',hm,w7⟩:=hN σ7 H7 n7;refine⟨m',hm,i+1,σ7,H7,I7.unpinned,T.keep _ _ _ st5 fun b hb o e=>(I7.pin (b,o) (GF _ (GF _ (VT hb e)))).1,fun b hb=>?_,w7⟩;obtain⟨o,e,d⟩:=T.obj _ _ st5 b hb;exact(I7.pin (b,o) (GF _ (GF _ (VT hb e)))).2.1
  cases f with
  | next=>obtain⟨σ7,H7,I7,n7⟩:=q7;exact again I7 n7
  | cont=>obtain⟨σ7,H7,I7,n7⟩:=q7;exact again I7 n7
  | brk=>obtain⟨σ7,H7,I7,q7⟩:=q7;exact⟨σ7,H7,I7.unpinned,q7⟩
  | ret v=>obtain⟨x7,σ7,H7,I7,r7,q7⟩:=q7;exact⟨x7,σ7,H7,I7.unpinned,r7,q7⟩
end

theorem Jhc{K:Qo}{a:Qd}{xs:List V}{g:TG}{tb:TS}{D:Ends}{σ:St}{H:Hp}(Pv:Nat->St->Hp->Prop)(h0:Pv 0 σ H)(hl:∀i σ H,i<=xs.length->Pv i σ H->SqL K H a xs)
 (hs:∀i x σ H,xs[i]?=some x->Pv i σ H->g x σ H fun σ2 H2=>tb { D with nx:=Pv (i+1),ct:=Pv (i+1),bk:=D.nx } σ2 H2) (hd:∀σ H,Pv xs.length σ H->D.nx σ H) :
 ∃W:Nat->Nat->St->Hp->Prop,(∃m,W 0 m σ H)/\∀i m σ H,W i m σ H ->
  ((Itl K a).stop i H/\D.nx σ H)\/((Itl K a).go i H/\∃N:St->Hp->Prop,(∀σ' H',N σ' H'->∃m',m'<m/\W (i+1) m' σ' H')/\∀x H',(Itl K a).yld i H x H'->g x σ H' fun σ2 H2=>tb { D with nx:=N,ct:=N,bk:=D.nx } σ2 H2):=by
 refine⟨fun i m σ H=>m=xs.length-i/\i<=xs.length/\Pv i σ H,⟨xs.length,by simp,Gm _,h0⟩,?_⟩;rintro i m σ H ⟨rfl,hi,p⟩;have q:=hl i σ H hi p
 by_cases hlt:i<xs.length
 ·refine .inr ⟨⟨xs,xs[i],q,by simp[hlt]⟩,Pv (i+1),fun σ' H' p'=>⟨xs.length-(i+1),by grind,rfl,hlt,p'⟩,fun x H' y=>?_⟩;obtain⟨e,y⟩:=y;subst e;exact hs i x σ _ (y xs q) p
 ·have e:i=xs.length:=by lia
  subst e;exact .inl ⟨⟨xs,q,Qn _⟩,hd σ H p⟩
theorem JjC{K:Qo}{a:Qd}{xs:List V}{g:TG}{tb:TS}{D:Ends}{σ:St}{H:Hp}(Pv:Nat->St->Hp->Prop)(h0:Pv 0 σ H)(hl:∀i σ H,i<=xs.length->Pv i σ H->SqT K H a xs)
 (hs:∀i x σ H,xs[i]?=some x->Pv i σ H->g x σ H fun σ2 H2=>tb { D with nx:=Pv (i+1),ct:=Pv (i+1),bk:=D.nx } σ2 H2) (hd:∀σ H,Pv xs.length σ H->D.nx σ H) :
 ∃W:Nat->Nat->St->Hp->Prop,(∃m,W 0 m σ H)/\∀i m σ H,W i m σ H ->
  ((Itt K a).stop i H/\D.nx σ H)\/((Itt K a).go i H/\∃N:St->Hp->Prop,(∀σ' H',N σ' H'->∃m',m'<m/\W (i+1) m' σ' H')/\∀x H',(Itt K a).yld i H x H'->g x σ H' fun σ2 H2=>tb { D with nx:=N,ct:=N,bk:=D.nx } σ2 H2):=by
 refine⟨fun i m σ H=>m=xs.length-i/\i<=xs.length/\Pv i σ H,⟨xs.length,by simp,Gm _,h0⟩,?_⟩;rintro i m σ H ⟨rfl,hi,p⟩;have q:=hl i σ H hi p
 by_cases hlt:i<xs.length
 ·refine .inr ⟨⟨xs,xs[i],q,by simp[hlt]⟩,Pv (i+1),fun σ' H' p'=>⟨xs.length-(i+1),by omega,rfl,hlt,p'⟩,fun x H' y=>?_⟩;obtain⟨e,y⟩:=y;subst e;exact hs i x σ _ (y xs q) p
 ·have e:i=xs.length:=by omega
  subst e;exact .inl ⟨⟨xs,q,Qn _⟩,hd σ H p⟩
end L2

namespace L2
open PySem PySem.Spec PyProof.Rows

noncomputable abbrev R2:=V->V->Hp->VK->Prop
noncomputable def OpR(X:Cx)(f:Qc->Qc->Sem Qc)(r:R2):Prop :=
 ∀(pins:List (Qd×Obj)) (s:Qe) (σ:St) (H:Hp) (x y:V) (v u:Qc) (Q:VK),Inv X pins σ H s->RelV x v->RelV y u->r x y H Q ->
  wpAny (model X.prog X.w) X.A (f v u) (EP X pins σ Q) X.xe s
noncomputable def UnR(X:Cx)(f:Qc->Sem Qc)(r:V->Hp->VK->Prop):Prop :=
 ∀(pins:List (Qd×Obj)) (s:Qe) (σ:St) (H:Hp) (x:V) (v:Qc) (Q:VK),Inv X pins σ H s->RelV x v->r x H Q ->
  wpAny (model X.prog X.w) X.A (f v) (EP X pins σ Q) X.xe s
noncomputable def CallR(X:Cx)(f:Qc)(r:List V->Hp->VK->Prop):Prop :=
 ∀(pins:List (Qd×Obj)) (s:Qe) (σ:St) (H:Hp) (xs:List V) (us:List Qc) (Q:VK),Inv X pins σ H s->Vals xs us->r xs H Q ->
  wpAny (model X.prog X.w) X.A (call f us) (EP X pins σ Q) X.xe s
noncomputable def Jr7(X:Cx)(r:V->Hp->(Bool->Hp->Prop)->Prop):Prop :=
 ∀(pins:List (Qd×Obj)) (s:Qe) (σ:St) (H:Hp) (x:V) (v:Qc) (Q:Bool->Hp->Prop),Inv X pins σ H s->RelV x v->r x H Q ->
  wpAny (model X.prog X.w) X.A (truthy v) (TP X pins σ Q) X.xe s

noncomputable def tOp(r:R2)(ta tb:TE):TE:=fun σ H Q=>ta σ H fun x H1=>tb σ H1 fun y H2=>r x y H2 Q
noncomputable def tUn(r:V->Hp->VK->Prop)(ta:TE):TE:=fun σ H Q=>ta σ H fun x H1=>r x H1 Q
noncomputable def rI(C:Int->Int->Prop)(g:Int->Int->V):R2:=fun x y H Q=>∃i j,x=.int i/\y=.int j/\C i j/\Q (g i j) H
noncomputable def rI0(g:Int->Int->V):R2:=fun x y H Q=>∃i j,x=.int i/\y=.int j/\Q (g i j) H
noncomputable def rU(g:Int->V):V->Hp->VK->Prop:=fun x H Q=>∃i,x=.int i/\Q (g i) H

section
variable{X:Cx}{a b c:QV}{ta tb tc:TE}{pos:Pos}

theorem Jl9(ha:PE X a ta)(hb:PE X b tb){pins:List (Qd×Obj)}{s:Qe}{σ:St}{H:Hp}{R:V->V->Hp->Prop}(I:Inv X pins σ H s)
 (h:ta σ H fun x H1=>tb σ H1 fun y H2=>R x y H2) {Q:Qc->Qe->Prop} {f:Qc->Qc->Sem Qc}
 (hf:∀v u s2 x y H2,Inv X pins σ H2 s2->RelV x v->RelV y u->R x y H2->wpAny (model X.prog X.w) X.A (f v u) Q X.xe s2) :
 wpAny (model X.prog X.w) X.A (eval a X.env) (fun v s₁=>wpAny (model X.prog X.w) X.A (eval b X.env) (fun u s₂=>wpAny (model X.prog X.w) X.A (f v u) Q X.xe s₂) X.xe s₁) X.xe s:=by
 refine thE (ha pins s σ H _ I h) fun v s1 x H1 I1 r1 q1=>?_
 refine thE (hb pins s1 σ H1 _ I1 q1) fun u s2 y H2 I2 r2 q2=>?_
 exact hf v u s2 x y H2 I2 r1 r2 q2

theorem Jo{op:Operator}{r:R2}(ho:OpR X (binaryOp op) r)(ha:PE X a ta)(hb:PE X b tb):PE X (.BinOp a op b pos) (tOp r ta tb):=by intro pins s σ H Q I h;exact wpAny_BinOp (Jl9 ha hb I h fun v u s2 x y H2 I2 rx ry q=>ho pins s2 σ H2 x y v u Q I2 rx ry q)
theorem Z9{op:UnaryOp}{r:V->Hp->VK->Prop}(ho:UnR X (unaryOp op) r)(ha:PE X a ta):PE X (.UnaryOp op a pos) (tUn r ta):=by intro pins s σ H Q I h;exact UnaryOp_ (thE (ha pins s σ H _ I h) fun v s1 x H1 I1 r1 q1=>ho pins s1 σ H1 x v Q I1 r1 q1)
theorem opI{f:Qc->Qc->Sem Qc}{C:Int->Int->Prop}{g:Int->Int->Int}
 (rule:∀(i j:Int) (t u:Tok) (s:Qe) (Q:Qc->Qe->Prop) (E:Qc->Qe->Prop),C i j->Q (.int (g i j) s.toks) { s with toks:=s.toks+1 }->wpAny (model X.prog X.w) X.A (f (.int i t) (.int j u)) Q E s) :
 OpR X f (rI C fun i j=>.int (g i j)):=by
 intro pins s σ H x y v u Q I rx ry h;obtain⟨i,j,rfl,rfl,hc,q⟩:=h;obtain⟨t,rfl⟩:=rx;obtain⟨t',rfl⟩:=ry;exact rule i j t t' s _ _ hc ⟨.int (g i j),H,I.tok _,⟨_,rfl⟩,q⟩
theorem Jnu{f:Qc->Qc->Sem Qc}{g:Int->Int->Int}
 (rule:∀(i j:Int) (t u:Tok) (s:Qe) (Q:Qc->Qe->Prop) (E:Qc->Qe->Prop),Q (.int (g i j) s.toks) { s with toks:=s.toks+1 }->wpAny (model X.prog X.w) X.A (f (.int i t) (.int j u)) Q E s) :
 OpR X f (rI0 fun i j=>.int (g i j)):=by
 intro pins s σ H x y v u Q I rx ry h;obtain⟨i,j,rfl,rfl,q⟩:=h;obtain⟨t,rfl⟩:=rx;obtain⟨t',rfl⟩:=ry;exact rule i j t t' s _ _ ⟨.int (g i j),H,I.tok _,⟨_,rfl⟩,q⟩
theorem Jnt{f:Qc->Qc->Sem Qc}{g:Int->Int->Bool}
 (rule:∀(i j:Int) (t u:Tok) (s:Qe) (Q:Qc->Qe->Prop) (E:Qc->Qe->Prop),Q (.bool (g i j)) s->wpAny (model X.prog X.w) X.A (f (.int i t) (.int j u)) Q E s) :
 OpR X f (rI0 fun i j=>.bl (g i j)):=by
 intro pins s σ H x y v u Q I rx ry h;obtain⟨i,j,rfl,rfl,q⟩:=h;obtain⟨t,rfl⟩:=rx;obtain⟨t',rfl⟩:=ry;exact rule i j t t' s _ _ ⟨.bl (g i j),H,I,rfl,q⟩

noncomputable def Jo1(i j:Int):Prop:=0<j/\j<1073741824
noncomputable def Jo2(i j:Int):Prop:=0<=j/\j<=1000000/\i.natAbs<2 ^ 64
noncomputable def CMul(i j:Int):Prop:=(-(2 ^ 64)<i/\i<2 ^ 64)\/(-(2 ^ 64)<j/\j<2 ^ 64)
theorem CMul.ok{i j:Int}(h:CMul i j):IntMulOk i j:=by
 rcases h with ⟨h1,h2⟩|⟨h1,h2⟩
 ·exact .of_left (intBits_le_64 h1 h2)
 ·exact .of_right (intBits_le_64 h1 h2)
theorem Jei(k:Nat):(0:Int)<=2 ^ k:=by rw[two_pow_cast];exact Int.natCast_nonneg _

theorem op_add:OpR X (binaryOp .Add) (rI0 fun i j=>.int (i+j)):=Jnu fun _ _ _ _ _ _ _ q=>add_int q
theorem JI:OpR X (binaryOp .Sub) (rI0 fun i j=>.int (i-j)):=Jnu fun _ _ _ _ _ _ _ q=>sub_int q
theorem U2:OpR X (binaryOp .Mult) (rI CMul fun i j=>.int (i*j)):=opI fun _ _ _ _ _ _ _ hc q=>mul_int q hc.ok
theorem Zo:OpR X (binaryOp .FloorDiv) (rI Jo1 fun i j=>.int (i / j)):=opI fun i j _ _ _ _ _ hc q=>by
 have h1:(0:Int)<j:=hc.1
 have h2:j<1073741824:=hc.2;exact floordiv_int (by lia) (by rw[Kk i (by exact Lo ‹_›)];exact q) (.inl (MP (by omega)))
theorem JhJ:OpR X (binaryOp .Mod) (rI (fun _ j=>0<j) fun i j=>.int (i % j)):=opI fun i j _ _ _ _ _ hc q=>by have h1:(0:Int)<j:=hc;exact mod_int' (by lia) (by rw[Int.fmod_eq_emod_of_nonneg i (by exact Lo ‹_›)];exact q)
theorem JnD:OpR X (binaryOp .LShift) (rI Jo2 fun i j=>.int (i*2 ^ j.toNat)):=opI fun _ _ _ _ _ _ _ hc q=>lshift_int_small hc.1 hc.2.1 hc.2.2 q
theorem JnE:OpR X (binaryOp .RShift) (rI (fun _ j=>0<=j) fun i j=>.int (i / 2 ^ j.toNat)):=opI fun i j _ _ _ _ _ hc q=>rshift_int hc (by rw[Kk i (Jei _)];exact q)
theorem Jnv:OpR X (binaryOp .BitAnd) (rI0 fun i j=>.int (Ra i j)):=Jnu fun _ _ _ _ _ _ _ q=>and_int q
theorem unI{f:Qc->Sem Qc}{g:Int->Int}
 (rule:∀(i:Int) (t:Tok) (s:Qe) (Q:Qc->Qe->Prop) (E:Qc->Qe->Prop),Q (.int (g i) s.toks) { s with toks:=s.toks+1 }->wpAny (model X.prog X.w) X.A (f (.int i t)) Q E s) :
 UnR X f (rU fun i=>.int (g i)):=by
 intro pins s σ H x v Q I rx h;obtain⟨i,rfl,q⟩:=h;obtain⟨t,rfl⟩:=rx;exact rule i t s _ _ ⟨.int (g i),H,I.tok _,⟨_,rfl⟩,q⟩
theorem Wa:UnR X (unaryOp .USub) (rU fun i=>.int (-i)):=unI fun _ _ _ _ _ q=>neg_int q
end

noncomputable def JoD:V->V->Bool
 | .non,.non=>true|.non,.int _=>true|.int _,.non=>true|.non,.bl _=>true|.bl _,.non=>true|.non,.str _=>true|.str _,.non=>true
 | .int _,.int _=>true|.bl _,.bl _=>true|.str _,.str _=>true|.byt _,.byt _=>true
 | .int _,.str _=>true|.str _,.int _=>true|.bl _,.str _=>true|.str _,.bl _=>true
 | _,_=>false
noncomputable def rEq:R2:=fun x y H Q=>JoD x y=true/\Q (.bl (decide (x=y))) H
noncomputable def rNe:R2:=fun x y H Q=>JoD x y=true/\Q (.bl (!decide (x=y))) H

theorem Jer{i j:Int}:decide (V.int i=V.int j)=(i == j):=by rw[KN];simp
theorem JgV{i j:Bool}:decide (V.bl i=V.bl j)=(i == j):=by rw[KN];simp
theorem Jes{i j:Str}:decide (V.str i=V.str j)=(i == j):=by rw[KN];simp
theorem Jeq{i j:Array UInt8}:decide (V.byt i=V.byt j)=(i.toList == j.toList):=by rw[KN];cases i;cases j;simp

section
variable{X:Cx}{a b c:QV}{ta tb tc:TE}{pos:Pos}
theorem JH{pins:List (Qd×Obj)}{σ:St}{H:Hp}{s:Qe}{Q:VK}{k k':Bool}(I:Inv X pins σ H s)(q:Q (.bl k) H)(e:k=k'):EP X pins σ Q (.bool k') s:=by subst e;exact⟨.bl k,H,I,rfl,q⟩
theorem op_eq:OpR X (compareOp .Eq) rEq:=by
 intro pins s σ H x y v u Q I rx ry h;obtain⟨hs,q⟩:=h
 cases x with
 | non =>
  cases rx
  cases y with
  | non=>cases ry;exact PySem.EqNone.eq_none_none (JH I q (by simp))
  | bl j=>cases ry;exact PySem.EqNone.eq_none_bool (JH I q (by simp))
  | int j=>obtain⟨t',rfl⟩:=ry;exact PySem.EqNone.eq_none_int (JH I q (by simp))
  | str j=>obtain⟨t',rfl⟩:=ry;exact PySem.EqNone.eq_none_str (JH I q (by simp))
  | _=>exact absurd (show false=true from hs) Qz
 | bl i =>
  cases rx
  cases y with
  | non=>cases ry;exact PySem.EqNone.eq_bool_none (JH I q (by simp))
  | bl j=>cases ry;exact eq_bool (JH I q JgV)
  | str j=>obtain⟨t',rfl⟩:=ry;exact PySem.EqMixed.eq_bool_str (JH I q (by simp))
  | _=>exact absurd (show false=true from hs) Qz
 | int i =>
  obtain⟨t,rfl⟩:=rx
  cases y with
  | non=>cases ry;exact PySem.EqNone.eq_int_none (JH I q (by simp))
  | int j=>obtain⟨t',rfl⟩:=ry;exact eq_int (JH I q Jer)
  | str j=>obtain⟨t',rfl⟩:=ry;exact PySem.EqMixed.eq_int_str (JH I q (by simp))
  | _=>exact absurd (show false=true from hs) Qz
 | str i =>
  obtain⟨t,rfl⟩:=rx
  cases y with
  | non=>cases ry;exact PySem.EqNone.eq_str_none (JH I q (by simp))
  | bl j=>cases ry;exact PySem.EqMixed.eq_str_bool (JH I q (by simp))
  | int j=>obtain⟨t',rfl⟩:=ry;exact PySem.EqMixed.eq_str_int (JH I q (by simp))
  | str j=>obtain⟨t',rfl⟩:=ry;exact eq_str (JH I q Jes)
  | _=>exact absurd (show false=true from hs) Qz
 | byt i =>
  obtain⟨t,rfl⟩:=rx
  cases y with
  | byt j=>obtain⟨t',rfl⟩:=ry;exact PySem.W.eq_bytes (JH I q Jeq)
  | _=>exact absurd (show false=true from hs) Qz
 | _=>cases y <;> exact absurd (show false=true from hs) Qz
theorem op_ne:OpR X (compareOp .NotEq) rNe:=by
 intro pins s σ H x y v u Q I rx ry h;obtain⟨hs,q⟩:=h
 cases x with
 | non =>
  cases rx
  cases y with
  | non=>cases ry;exact PySem.EqNone.ne_none_none (JH I q (by simp))
  | bl j=>cases ry;exact PySem.EqNone.ne_none_bool (JH I q (by simp))
  | int j=>obtain⟨t',rfl⟩:=ry;exact PySem.EqNone.ne_none_int (JH I q (by simp))
  | str j=>obtain⟨t',rfl⟩:=ry;exact PySem.EqNone.ne_none_str (JH I q (by simp))
  | _=>exact absurd (show false=true from hs) Qz
 | bl i =>
  cases rx
  cases y with
  | non=>cases ry;exact PySem.EqNone.ne_bool_none (JH I q (by simp))
  | bl j=>cases ry;exact ne_bool (JH I q (congrArg not JgV))
  | str j=>obtain⟨t',rfl⟩:=ry;exact PySem.EqMixed.ne_bool_str (JH I q (by simp))
  | _=>exact absurd (show false=true from hs) Qz
 | int i =>
  obtain⟨t,rfl⟩:=rx
  cases y with
  | non=>cases ry;exact PySem.EqNone.ne_int_none (JH I q (by simp))
  | int j=>obtain⟨t',rfl⟩:=ry;exact ne_int (JH I q (congrArg not Jer))
  | str j=>obtain⟨t',rfl⟩:=ry;exact PySem.EqMixed.ne_int_str (JH I q (by simp))
  | _=>exact absurd (show false=true from hs) Qz
 | str i =>
  obtain⟨t,rfl⟩:=rx
  cases y with
  | non=>cases ry;exact PySem.EqNone.ne_str_none (JH I q (by simp))
  | bl j=>cases ry;exact PySem.EqMixed.ne_str_bool (JH I q (by simp))
  | int j=>obtain⟨t',rfl⟩:=ry;exact PySem.EqMixed.ne_str_int (JH I q (by simp))
  | str j=>obtain⟨t',rfl⟩:=ry;exact ne_str (JH I q (congrArg not Jes))
  | _=>exact absurd (show false=true from hs) Qz
 | byt i =>
  obtain⟨t,rfl⟩:=rx
  cases y with
  | byt j=>obtain⟨t',rfl⟩:=ry;exact PySem.W.ne_bytes (JH I q (congrArg not Jeq))
  | _=>exact absurd (show false=true from hs) Qz
 | _=>cases y <;> exact absurd (show false=true from hs) Qz

theorem Uj:OpR X (compareOp .Lt) (rI0 fun i j=>.bl (decide (i<j))):=Jnt fun _ _ _ _ _ _ _ q=>lt_int q
theorem JeI:OpR X (compareOp .LtE) (rI0 fun i j=>.bl (decide (i<=j))):=Jnt fun _ _ _ _ _ _ _ q=>le_int q
theorem Vl:OpR X (compareOp .Gt) (rI0 fun i j=>.bl (decide (j<i))):=Jnt fun _ _ _ _ _ _ _ q=>gt_int q
theorem Jnz:OpR X (compareOp .Is) (fun x y H Q=>y=.non/\Q (.bl (decide (x=.non))) H):=by
 intro pins s σ H x y v u Q I rx ry h;obtain⟨rfl,q⟩:=h;cases ry;refine is_none_gen (JH I q ?_);cases x <;> first
  | (cases rx;rfl)
  | (obtain⟨t,rfl⟩:=rx;rfl)
theorem Jke:OpR X (compareOp .IsNot) (fun x y H Q=>y=.non/\Q (.bl (!decide (x=.non))) H):=by
 intro pins s σ H x y v u Q I rx ry h;obtain⟨rfl,q⟩:=h;cases ry;refine isnot_none_gen (JH I q ?_);cases x <;> first
  | (cases rx;rfl)
  | (obtain⟨t,rfl⟩:=rx;rfl)

theorem OpR.or{f:Qc->Qc->Sem Qc}{r r':R2}(h:OpR X f r)(h':OpR X f r'):OpR X f (fun x y H Q=>r x y H Q\/r' x y H Q):=by
 intro pins s σ H x y v u Q I rx ry q;rcases q with q|q
 ·exact h pins s σ H x y v u Q I rx ry q
 ·exact h' pins s σ H x y v u Q I rx ry q

theorem Jv(b:QV){op:CmpOp}(h:op≠.In:=by decide)(h2:op≠.NotIn:=by decide):behindInMarks op b=false:=JcC b h h2
theorem JbM{op:CmpOp}{r:R2}(ho:OpR X (compareOp op) r)(ha:PE X a ta)(hb:PE X b tb)(hm:behindInMarks op b=false):PE X (.Compare a [op] [b] pos) (tOp r ta tb):=by intro pins s σ H Q I h;exact wpAny_Compare1 (Jl9 ha hb I h fun v u s2 x y H2 I2 rx ry q=>ho pins s2 σ H2 x y v u Q I2 rx ry q) hm
noncomputable def Jdd(t:TE):TT:=fun σ H Q=>t σ H fun x H'=>∃k,x=.bl k/\Q k H'
theorem Js{op:CmpOp}{r:R2}(ho:OpR X (compareOp op) r)(ha:PE X a ta)(hb:PE X b tb)(hm:behindInMarks op b=false):PT X (.Compare a [op] [b] pos) (Jdd (tOp r ta tb)):=by
 intro pins s σ H Q I h;refine wpAny_isTrue_Compare1 (thE (ha pins s σ H _ I h) fun v s1 x H1 I1 r1 q1=>thE (hb pins s1 σ H1 _ I1 q1) fun u s2 y H2 I2 r2 q2=>thE (ho pins s2 σ H2 x y v u _ I2 r1 r2 q2) fun c s3 z H3 I3 r3 zz=>?_) hm
 obtain⟨k,e,q3⟩:=zz;subst e;cases r3;exact Gw ⟨H3,I3,q3⟩
noncomputable def Jb3(r r':R2)(ta tb tc:TE):TE:=fun σ H Q=>ta σ H fun x H1=>tb σ H1 fun y H2=>r x y H2 fun z H3=>∃k,z=.bl k ∧
 (if k=true then tc σ H3 fun w' H4=>r' y w' H4 Q else Q (.bl false) H3)
theorem JhN{op op':CmpOp}{r r':R2}(ho:OpR X (compareOp op) r)(ho':OpR X (compareOp op') r')(ha:PE X a ta)(hb:PE X b tb)(hc:PE X c tc)
 (hm:lastMarks [op,op'] [b,c]=false:=by with_unfolding_all rfl):PE X (.Compare a [op,op'] [b,c] pos) (Jb3 r r' ta tb tc):=by
 intro pins s σ H Q I h;refine Compare_chain (thE (ha pins s σ H _ I h) fun v s1 x H1 I1 r1 q1=>chain_link (thE (hb pins s1 σ H1 _ I1 q1) fun u s2 y H2 I2 r2 q2=>thE (ho pins s2 σ H2 x y v u _ I2 r1 r2 q2) fun d s3 z H3 I3 r3 zz=>?_)) hm
 obtain⟨k,e,q3⟩:=zz;subst e;cases r3;refine Gw ?_
 cases k with
 | false=>exact ite_ff ⟨.bl false,H3,I3,rfl,q3⟩
 | true=>exact ite_tt (chain_last (thE (hc pins s3 σ H3 _ I3 q3) fun w' s4 z' H4 I4 r4 q4=>ho' pins s4 σ H4 y z' u w' Q I4 r2 r4 q4))
theorem JhY{op op':CmpOp}{r r':R2}(ho:OpR X (compareOp op) r)(ho':OpR X (compareOp op') r')(ha:PE X a ta)(hb:PE X b tb)(hc:PE X c tc)
 (hm:lastMarks [op,op'] [b,c]=false:=by with_unfolding_all rfl):PT X (.Compare a [op,op'] [b,c] pos) (Jdd (Jb3 r r' ta tb tc)):=by
 intro pins s σ H Q I h;refine isTrue_chain (thE (ha pins s σ H _ I h) fun v s1 x H1 I1 r1 q1=>test_link (thE (hb pins s1 σ H1 _ I1 q1) fun u s2 y H2 I2 r2 q2=>thE (ho pins s2 σ H2 x y v u _ I2 r1 r2 q2) fun d s3 z H3 I3 r3 zz=>?_)) hm
 obtain⟨k,e,q3⟩:=zz;subst e;cases r3;refine Gw ?_
 cases k with
 | false=>obtain⟨k',e',q'⟩:=q3;cases e';exact ite_ff ⟨H3,I3,q'⟩
 | true=>refine ite_tt (test_last (thE (hc pins s3 σ H3 _ I3 q3) fun w' s4 z' H4 I4 r4 q4=>thE (ho' pins s4 σ H4 y z' u w' _ I4 r2 r4 q4) fun d' s5 z2 H5 I5 r5 zz=>?_));obtain⟨k2,e2,q5⟩:=zz;subst e2;cases r5;exact Gw ⟨H5,I5,q5⟩

noncomputable def Jfh(K:Qo)(x:V)(H:Hp)(k:Bool):Prop :=
 match x with
 | .non=>k=false
 | .bl b=>k=b
 | .int i=>k=(i != 0)
 | .str y=>y.length<=Qk/\k=((y.length:Int) != 0)
 | .byt y=>y.size<=Qk/\k=((y.size:Int) != 0)
 | .ref p=>(∃xs,SqL K H p xs/\k=!xs.isEmpty)\/(∃xs,SqT K H p xs/\k=!xs.isEmpty)\/∃kvs,H p=some (.dK kvs)/\k=!kvs.isEmpty
 | _=>False
theorem JdH{κ:Type}{kvs:List (κ×V)}{vs:List (κ×Qc)}(r:KV kvs vs):(!vs.isEmpty)=!kvs.isEmpty:=by cases r <;> rfl
theorem ZK{xs:List V}{its:List Qc}(r:Vals xs its):(!its.toArray.isEmpty)=!xs.isEmpty:=by cases r <;> simp
theorem ZQ:(Qk:Nat)<2 ^ 63:=by rw[sizeLine_eq];decide
theorem JoL:Jr7 X (fun x H Q=>∃k,Jfh X.K x H k/\Q k H):=by
 intro pins s σ H x v Q I rx h;obtain⟨k,e,q⟩:=h;have hl:=ZQ;have hs:Qk=16777216:=sizeLine_eq
 cases x with
 | non=>cases rx;have e':k=false:=e;subst e';exact truthy_none ⟨H,I,q⟩
 | bl b=>cases rx;have e':k=b:=e;subst e';exact Gw ⟨H,I,q⟩
 | int i=>obtain⟨t,rfl⟩:=rx;have e':k=(i != 0):=e;subst e';exact PySem.P.truthy_int ⟨H,I,q⟩
 | str y=>obtain⟨t,rfl⟩:=rx;obtain⟨hy,e'⟩:y.length<=Qk/\k=((y.length:Int) != 0):=e;subst e';exact PySem.P.truthy_str (by lia) ⟨H,I.tok _,q⟩
 | byt y=>obtain⟨t,rfl⟩:=rx;obtain⟨hy,e'⟩:y.size<=Qk/\k=((y.size:Int) != 0):=e;subst e';exact PySem.W.truthy_bytes (by exact QJ ‹_› (by decide)) ⟨H,I.tok _,q⟩
 | ref p =>
  cases rx;have e':(∃xs,SqL X.K H p xs/\k=!xs.isEmpty)\/(∃xs,SqT X.K H p xs/\k=!xs.isEmpty)\/∃kvs,H p=some (.dK kvs)/\k=!kvs.isEmpty:=e
  rcases e' with ⟨xs,hx,e'⟩|⟨xs,hx,e'⟩|⟨kvs,hx,e'⟩
  ·subst e';obtain⟨its,r,pl,hz⟩:=I.list hx;have hlen:=r.length;exact wpAny_truthy_list pl.isList (by grind) ⟨H,I.tok _,by rw[ZK r];exact q⟩
  ·subst e';obtain⟨its,r,pl,hz⟩:=I.tuple hx;have hlen:=r.length;exact truthy_tuple pl (by grind) ⟨H,I.tok _,by rw[ZK r];exact q⟩
  ·subst e';obtain⟨hz,hS,vs,r,m⟩:kvs.length<=Qk/\(p == sysModules)=false/\∃vs,KV kvs vs/\s.heap.DictOf (JE X.prog X.w) p vs:=I.hok p _ hx
   have hlen:kvs.length=vs.length:=Mq r;exact wpAny_truthy_dict hS m (by lia) ⟨H,I.tok _,by rw[JdH r];exact q⟩
 | _=>exact(show False from e).elim
theorem JhZ(ha:PE X a ta)(he:∀whole,isTrue a X.env whole=(do let v <- whole;standAt a.pos;holding [v] (truthy v))) :
 PT X a (fun σ H Q=>ta σ H fun x H'=>∃k,Jfh X.K x H' k/\Q k H'):=by
 intro pins s σ H Q I h;exact isTrue_plain (thE (ha pins s σ H _ I h) fun v s1 x H1 I1 r1 q1=>JoL pins s1 σ H1 x v Q I1 r1 q1) (he _)

theorem op_add_str:OpR X (binaryOp .Add) (fun x y H Q=>∃i j,x=.str i/\y=.str j/\i.length+j.length<=Qk/\Q (.str (i++j)) H):=by intro pins s σ H x y v u Q I rx ry h;obtain⟨i,j,rfl,rfl,hz,q⟩:=h;obtain⟨t,rfl⟩:=rx;obtain⟨t',rfl⟩:=ry;exact add_str (fun t' tk=>⟨.str (i++j),H,I.tok _,⟨_,rfl⟩,q⟩) hz
theorem U9{x:V}{us:List Qc}(r:Vals [x] us):∃u,us=[u]/\RelV x u:=by
 cases r with
 | cons r1 r2=>cases r2;exact⟨_,rfl,r1⟩
theorem Je9{x y:V}{us:List Qc}(r:Vals [x,y] us):∃u w',us=[u,w']/\RelV x u/\RelV y w':=by
 cases r with
 | cons r1 r2 =>
  cases r2 with
  | cons r3 r4=>cases r4;exact⟨_,_,rfl,r1,r3⟩
theorem Jfn(hc:X.calm=true):CallR X (.builtin "max") (fun xs H Q=>∃i j,xs=[.int i,.int j]/\Q (.int (if j>i then j else i)) H):=by
 intro pins s σ H xs us Q I r h;obtain⟨i,j,rfl,q⟩:=h;obtain⟨u,w',rfl,⟨t,rfl⟩,⟨t',rfl⟩⟩:=Je9 r;refine max_two_ints (I.ok.hd hc) fun h' tk k=>⟨_,H,I.kept k,?_,q⟩
 by_cases hj:j>i
 ·rw[if_pos hj,if_pos hj];exact⟨_,rfl⟩
 ·rw[if_neg hj,if_neg hj];exact⟨_,rfl⟩
theorem Jfp(hc:X.calm=true):CallR X (.builtin "min") (fun xs H Q=>∃i j,xs=[.int i,.int j]/\Q (.int (if j<i then j else i)) H):=by
 intro pins s σ H xs us Q I r h;obtain⟨i,j,rfl,q⟩:=h;obtain⟨u,w',rfl,⟨t,rfl⟩,⟨t',rfl⟩⟩:=Je9 r;refine min_two_ints (I.ok.hd hc) fun h' tk k=>⟨_,H,I.kept k,?_,q⟩
 by_cases hj:j<i
 ·rw[if_pos hj,if_pos hj];exact⟨_,rfl⟩
 ·rw[if_neg hj,if_neg hj];exact⟨_,rfl⟩
noncomputable def Jo5(K:Qo)(x:V)(H:Hp)(n:Nat):Prop :=
 match x with
 | .str y=>y.length<=Qk/\n=y.length
 | .byt y=>y.size<=Qk/\n=y.size
 | .ref p=>(∃xs,SqL K H p xs/\n=xs.length)\/∃xs,SqT K H p xs/\n=xs.length
 | _=>False
theorem JgS:CallR X (.builtin "len") (fun xs H Q=>∃x n,xs=[x]/\Jo5 X.K x H n/\Q (.int n) H):=by
 intro pins s σ H xs us Q I r h;obtain⟨x,n,rfl,e,q⟩:=h;obtain⟨u,rfl,rx⟩:=U9 r;have hl:=ZQ;have hs:Qk=16777216:=sizeLine_eq
 cases x with
 | str y=>obtain⟨t,rfl⟩:=rx;obtain⟨hy,e'⟩:y.length<=Qk/\n=y.length:=e;subst e';exact len_str (by omega) ⟨.int _,H,I.tok _,⟨_,rfl⟩,q⟩
 | byt y=>obtain⟨t,rfl⟩:=rx;obtain⟨hy,e'⟩:y.size<=Qk/\n=y.size:=e;subst e';exact PySem.W.len_bytes (by omega) ⟨.int _,H,I.tok _,⟨_,rfl⟩,q⟩
 | ref p =>
  cases rx;have e':(∃xs,SqL X.K H p xs/\n=xs.length)\/∃xs,SqT X.K H p xs/\n=xs.length:=e
  rcases e' with ⟨xs,hx,e'⟩|⟨xs,hx,e'⟩
  ·subst e';obtain⟨its,r',pl,hz⟩:=I.list hx;have hlen:=r'.length;exact Calls.call_len_list pl.isList (by simp only[QW];lia) ⟨.int xs.length,H,I.tok _,⟨_,by simp only[QW];rw[hlen]⟩,q⟩
  ·subst e';obtain⟨its,r',pl,hz⟩:=I.tuple hx;have hlen:=r'.length;exact len_tuple pl (by simp only[QW];lia) ⟨.int xs.length,H,I.tok _,⟨_,by simp only[QW];rw[hlen]⟩,q⟩
 | _=>exact(show False from e).elim
end
end L2

namespace L2
open PySem PySem.Spec PyProof.Rows

structure ObjM (h:QC) (x dx C:Qd) (mA:Str->Option Qc):Prop where
 obj:h.get? x=some (instObj C dx)
 ns:h.Ns1 dx mA
 ne:dx≠x

theorem JfU{h:QC}{dx:Qd}{mA:Str->Option Qc}(n:h.Ns1 dx mA):∃od,h.get? dx=some od/\∀name,lookIn name od=some (mA name):=by
 obtain⟨o,es,ep,ho,hd,hk,_,hm⟩:=n;refine⟨o,ho,fun name=>?_⟩;have e:=hm name;unfold nsFind findBy at e;rw[<- Array.find?_toList] at e;unfold lookIn;rw[hd];dsimp only;split
 ·simp_all
 ·rename_i q;rw[q] at e
  have a:es.toList.any (·.refKey)=false:=by rw[List.any_eq_false];intro y hy;obtain⟨z,t,hkey⟩:=hk y (Array.mem_toList_iff.mp hy);simp[DictEntry.refKey,hkey]
  simp_all

theorem ObjM.look{h:QC}{x dx C:Qd}{mA:Str->Option Qc}(I:ObjM h x dx C mA):∃od,InstAt h x (instObj C dx) C (some od)/\∀name,lookIn name od=some (mA name) :=
 by obtain⟨od,ho,hl⟩:=JfU I.ns;exact⟨od,⟨I.obj,rfl,rfl,ho⟩,hl⟩

section
variable{prog:Qm}{w:Qp}{A:Qx}{E:Qc->Qe->Prop}{s:Qe}{K:Qo}{x dx C f:Qd}{mA:Str->Option Qc}{name:Str}{v:Qc}

theorem JjG{expr:Bool}{Q:Qc->Qe->Prop}(X:K.In s.heap)(I:ObjM s.heap x dx C mA)(hg:plainGet K C name=true)(hh:hasDictIn K C=true)
 (ha:findIn K (.ref C) name=some none) (hv:mA name=some v) (hv':PySem.W.handedIn v=true) (h:Q v { s with toks:=s.toks+1 }) :
 wpAny (model prog w) A (getAttr (.ref x) name expr) Q E s:=by
 obtain⟨od,J,hl⟩:=I.look;exact PySem.W.get_value X J (PySem.W.plainGet_of hg).1 (PySem.W.findObj_own hh ha rfl (by rw[hl,hv])) hv' h

theorem Jk6{ns:List Str}{Q:Unit->Qe->Prop}(X:K.In s.heap)(I:ObjM s.heap x dx C mA)
 (hs:findIn K (.ref C) "__setattr__"=some (some (.builtin "object.__setattr__"))) (hp:plainOver K C=true) (ht:takerIn K C name=some none) (hh:hasDictIn K C=true)
 (hw:Rn mA ns) (hsz:ns.length<=Qk)
 (h:∀h',ObjM h' x dx C (fun y=>if y=name then some v else mA y)->Qu dx s.heap h'->Q () { s with heap:=h',toks:=s.toks+2 }) :
 wpAny (model prog w) A (setAttr (.ref x) name v) Q E s:=by
 obtain⟨od,J,hl⟩:=I.look;refine PySem.W.set_plain X J hs (PySem.W.osa_open (s:={ s with toks:=s.toks+1 }) (r:=none) X J hp ht fun b=>?_);obtain⟨cd,hc,hd'⟩:=any_some hh;have hx:s.heap.get? x=some ⟨.ref C,some dx,.plain,#[]⟩:=I.obj;refine Qa (Qf (Qa (Qa (wpAny_loadPart hx (Qa (PySem.W.Looks.here (s:={ s with toks:=s.toks+1 }) (PySem.W.looks_clsIn X hc) ?_))))));rw[hd'];refine Qf (a:=some dx) (Qa (Qf (Qa ?_)))
 refine wpAny_nsSet1 (s:={ s with toks:=s.toks+1 }) I.ns fun h' hn2 hs2=>?_
 obtain⟨oD,esD,epD,hoD,hdD,hcD⟩:=hn2.count (PySem.Within.cons name v hw);refine Qa (wpAny_lookBehind hoD (by rw[hdD];exact pastItsLine_dict (QJ hcD (by simp_all))) ?_);exact Qf (h _ ⟨(hs2.2 _ (QL I.ne)).trans I.obj,hn2,I.ne⟩ hs2)

theorem Jhu{R:L9->Qe->Prop}{vs:List Qc}{kw:List (Str×Qc)}(X:K.In s.heap)(hm:makesIn K C=true)
 (hi:findIn K (.ref C) "__init__"=some (some (.ref f))) (hf:PySem.W.typeIn K (.ref f)=some (.type "function"))
 (h:codeAny (model prog w) (A.under (.builtin "type.__call__" ⟨.ref C::vs,kw⟩)) (.call (.ref f) ⟨.ref (s.heap.objs.size+1)::vs,kw⟩) (PySem.W.InitBack (s.heap.objs.size+1) R)
  { s with heap:=(s.heap.push emptyDict).push (instObj C s.heap.objs.size) }) :
 codeAny (model prog w) A (.call (.ref C) ⟨vs,kw⟩) R s:=by
 obtain⟨hh,g,d,t,os⟩:=s;exact PySem.W.make_core (PySem.W.makes_of X hm) (looks_findIn X hi) (fun self=>PySem.W.bind_fn X self hf) (.inl rfl) h
end

noncomputable def Vb(f:Str)(v:V):List (Str×V)->List (Str×V)
 | []=>[(f,v)]
 | (g,x)::r=>if g=f then(g,v)::r else(g,x)::Vb f v r
theorem W7(f g:Str)(v:V):∀fs:List (Str×V),(Vb f v fs).lookup g=if g=f then some v else fs.lookup g
 | []=>by
  show List.lookup g [(f,v)]=_
  grind
 | (k,x)::r=>by
  have ih:=W7 f g v r;rw[show Vb f v ((k,x)::r)=(if k=f then(k,v)::r else(k,x)::Vb f v r) from rfl]
  grind
theorem WS(f:Str)(v:V):∀fs:List (Str×V),f∈(Vb f v fs).map (·.1)/\∀g,g∈fs.map (·.1)->g∈(Vb f v fs).map (·.1)
 | []=>⟨by simp[Vb],fun g h=>by simp at h⟩
 | (k,x)::r=>by
  obtain⟨i1,i2⟩:=WS f v r;rw[show Vb f v ((k,x)::r)=(if k=f then(k,v)::r else(k,x)::Vb f v r) from rfl]
  grind
theorem W6(f:Str)(v:V):∀fs:List (Str×V),(Vb f v fs).length<=fs.length+1
 | []=>by simp[Vb]
 | (k,x)::r=>by
  have ih:=W6 f v r;rw[show Vb f v ((k,x)::r)=(if k=f then(k,v)::r else(k,x)::Vb f v r) from rfl]
  grind

theorem RelO.some_of{v:V}{o:Option Qc}(r:RelO (some v) o):∃u,o=some u/\RelV v u:=by
 cases o with
 | none=>exact(show False from r).elim
 | some u=>exact⟨u,rfl,r⟩
theorem JfC{v:V}{u:Qc}(r:RelV v u):PySem.W.handedIn u=true:=by
 cases v with
 | non=>cases (show u=Value.none from r);rfl
 | bl b=>cases (show u=Value.bool b from r);rfl
 | int i=>obtain⟨t,e⟩:=(show ∃t,u=Value.int i t from r);cases e;rfl
 | str x=>obtain⟨t,e⟩:=(show ∃t,u=Value.str x t from r);cases e;rfl
 | byt b=>obtain⟨t,e⟩:=(show ∃t,u=Value.bytes b t from r);cases e;rfl
 | flt b=>obtain⟨t,e⟩:=(show ∃t,u=Value.float b t from r);cases e;rfl
 | ref a=>cases (show u=Value.ref a from r);rfl
 | ty n=>cases (show u=Value.type n from r);rfl

section
variable{P:Qm}{w:Qp}{H H':Hp}{h h':QC}{a C dx:Qd}{fs fs':List (Str×V)}
theorem Jbx(hok:HOk P w H h)(e:H a=some (.ins C dx fs)):∃mA,ObjM h a dx C mA/\(∀f,RelO (fs.lookup f) (mA f))/\Rn mA (fs.map (·.1))/\fs.length<=1000/\H dx=some (.own a):=by
 obtain⟨d,z,ne,ob,mA,n,r,q⟩:=(show ObjOk P w H h a (.ins C dx fs) from hok a _ e)
 exact⟨mA,⟨ob,n,ne⟩,r,q,z,d⟩
end

structure Cls (K:Qo) (C:Qd):Prop where
 pg:plainGet K C Str.empty=true
 hd:hasDictIn K C=true
 po:plainOver K C=true
 sa:findIn K (.ref C) "__setattr__"=some (some (.builtin "object.__setattr__"))
theorem Cls.get{K:Qo}{C:Qd}(c:Cls K C)(f:Str):plainGet K C f=true:=c.pg
noncomputable def NoAttr(K:Qo)(C:Qd)(f:Str):Prop:=findIn K (.ref C) f=some none
theorem NoAttr.taker{K:Qo}{C:Qd}{f:Str}(n:NoAttr K C f):takerIn K C f=some none:=by unfold takerIn;rw[show findIn K (.ref C) f=some none from n];rfl
structure Con (K:Qo) (C:Qd) (f:Str) (v:V) (u:Qc):Prop where
 at_:findIn K (.ref C) f=some (some u)
 rel:RelV v u
 get:specialIn K u "__get__"=some none
 cp:PySem.W.copiedNames.contains f=false
structure Meth (K:Qo) (C:Qd) (m:Str) (f:Qd):Prop where
 at_:findIn K (.ref C) m=some (some (.ref f))
 fn:isFn K (.ref f)=true
 kp:keepIn K (.ref f)=true

section
variable{X:Cx}{pins:List (Qd×Obj)}{σ:St}{H:Hp}{s:Qe}{a C dx:Qd}{fs:List (Str×V)}{f:Str}{v:V}{A:Qx}{E:Qc->Qe->Prop}

theorem JdC{b:Bool}{Q:Qc->Qe->Prop}(I:Inv X pins σ H s)(e:H a=some (.ins C dx fs))(c:Cls X.K C)(n:NoAttr X.K C f)(l:fs.lookup f=some v)
 (h:∀u s',Inv X pins σ H s'->RelV v u->Q u s'):wpAny (model X.prog X.w) A (getAttr (.ref a) f b) Q E s:=by
 obtain⟨mA,O,r,_,_,_⟩:=Jbx I.hok e;obtain⟨u,hu,ru⟩:=RelO.some_of (v:=v) (o:=mA f) (by rw[<- l];exact r f);exact JjG I.kIn O (c.get f) c.hd n hu (JfC ru) (h u _ (I.tok _) ru)

theorem Jd5{y:V}{u:Qc}{Q:Unit->Qe->Prop}(I:Inv X pins σ H s)(e:H a=some (.ins C dx fs))(c:Cls X.K C)(n:NoAttr X.K C f)(hl:fs.length<1000)(ry:RelV y u)
 (h:∀s',Inv X pins σ (upd H a (.ins C dx (Vb f y fs))) s'->Q () s'):wpAny (model X.prog X.w) A (setAttr (.ref a) f u) Q E s:=by
 obtain⟨mA,O,r,wi,_,ho⟩:=Jbx I.hok e;have hz:(fs.map (·.1)).length<=Qk:=by rw[QB,sizeLine_eq];exact QJ ‹_› (by decide)
 refine Jk6 I.kIn O c.sa c.po n.taker c.hd wi hz fun h' O' sb=>h _ ?_
 have hd:∃o,h'.get? dx=some o:=by obtain⟨o,_,_,e',_⟩:=O'.ns;exact⟨o,e'⟩
 refine I.write (x:=a) (e:=dx) (by rw[e];exact True.intro) (.inr ho) (fun b q hb z=>(sb.2 b hb).trans z) hd ?_;refine⟨by rw[Jf O.ne];exact ho,?_,O.ne,O'.obj,_,O'.ns,fun g=>?_,fun g hg=>?_⟩
 ·have:=W6 f y fs;exact QJ ‹_› ‹_›
 ·show RelO ((Vb f y fs).lookup g) (if g=f then some u else mA g);rw[W7]
  by_cases q:g=f
  ·rw[if_pos q,if_pos q];exact ry
  simp_all
 ·by_cases q:g=f
  ·rw[q];exact(WS f y fs).1
  ·refine(WS f y fs).2 g (wi g fun z=>hg ?_)
   simp_all

theorem Inv.made(I:Inv X pins σ H s):Inv X pins σ (upd (upd H s.heap.objs.size (.own (s.heap.objs.size+1))) (s.heap.objs.size+1) (.ins C s.heap.objs.size []))
 { s with heap:=(s.heap.push emptyDict).push (instObj C s.heap.objs.size) }:=by
 have e1:(s.heap.push emptyDict).get? s.heap.objs.size=some emptyDict:=Qh s.heap rfl
 have e2:((s.heap.push emptyDict).push (instObj C s.heap.objs.size)).get? (s.heap.objs.size+1)=some (instObj C s.heap.objs.size):=by
  have:=Qh (s.heap.push emptyDict) (o:=instObj C s.heap.objs.size) rfl
  simp_all
 have e3:(s.heap.push emptyDict).Ns s.heap.objs.size (fun _=>none):=⟨emptyDict,#[],_,e1,rfl,(fun e he=>absurd he (by simp)),fun _=>rfl⟩
 have I1:=I.laid (a:=s.heap.objs.size) (o:=.own (s.heap.objs.size+1)) (h':=s.heap.push emptyDict) (t':=s.toks) (fun b u q=>Qg _ q) (Qn _) ⟨_,e1⟩;refine I1.laid (a:=s.heap.objs.size+1) (o:=.ins C s.heap.objs.size []) (t':=s.toks) (fun b u q=>Qg _ q) (Ro (Ge _ _)) ?_
 have ne:s.heap.objs.size≠s.heap.objs.size+1:=Qw (GO _);refine⟨by rw[Jf ne,Jl],Gm _,ne,e2,fun _=>none,(Heap.Ns1.of_empty e3).at fun o q=>Qg _ q,fun _=>True.intro,fun y hy=>absurd rfl hy⟩

theorem Ji2{prog:Qm}{w:Qp}{env:Env}{e:QV}{f:Str}{pos:Pos}{s:Qe}{Q:Qc->Qe->Prop}(hb:attributeBase e f env (eval e env)=eval e env)
 (h:wpAny (model prog w) A (eval e env) (fun o s₁=>wpAny (model prog w) A (getAttr o f true) Q E s₁) E s):wpAny (model prog w) A (eval (.Attribute e f pos) env) Q E s :=
 Attribute_any_ h (by rw[arm_eval_Attribute,hb])
end

noncomputable def Jlf(K:Qo)(ta:TE)(f:Str):TE:=fun σ H Q=>ta σ H fun x H1=>∃a C dx fs v,x=.ref a/\H1 a=some (.ins C dx fs)/\Cls K C/\NoAttr K C f/\fs.lookup f=some v/\Q v H1
noncomputable def Jow(K:Qo)(ta tv:TE)(f:Str):TS:=fun D σ H=>tv σ H fun y H1=>ta σ H1 fun x H2=>∃a C dx fs,x=.ref a/\H2 a=some (.ins C dx fs)/\Cls K C/\NoAttr K C f/\fs.length<1000 ∧
 D.nx σ (upd H2 a (.ins C dx (Vb f y fs)))
section
variable{X:Cx}{o e value:QV}{f:Str}{pos pos' tpos:Pos}{ta tv:TE}
theorem JnK(he:PE X e ta)(hb:attributeBase e f X.env (eval e X.env)=eval e X.env):PE X (.Attribute e f pos) (Jlf X.K ta f):=by intro pins s σ H Q I h;refine Ji2 hb (thE (he pins s σ H _ I h) fun u s1 x H1 I1 rx zz=>?_);obtain⟨a,C,dx,fs,v,ex,ea,c,n,l,q⟩:=zz;subst ex;obtain rfl:u=Value.ref a:=rx;exact JdC I1 ea c n l fun u' s2 I2 ru=>⟨v,H1,I2,ru,q⟩
theorem JnS(ha:PE X o ta)(hv:PE X value tv)(hs:swapsWith value (some (.Attribute o f pos')) pos.line X.env=pure false):PS X (.Assign [.Attribute o f pos'] value pos) (Jow X.K ta tv f):=by intro pins s σ H D I h;refine plainObj_wpAny_Assign_Attribute (thE (hv pins s σ H _ I h) fun u s1 y H1 I1 ry q=>thE (ha pins s1 σ H1 _ I1 q) fun ov s2 x H2 I2 rx zz=>?_) hs;obtain⟨a,C,dx,fs,ex,ea,c,n,l,q2⟩:=zz;subst ex;obtain rfl:ov=Value.ref a:=rx;exact Jd5 I2 ea c n l ry fun s3 I3=>⟨σ,_,I3,q2⟩
end

section
variable{X:Cx}{pins:List (Qd×Obj)}{σ:St}{H:Hp}{s:Qe}{A:Qx}{E:Qc->Qe->Prop}{Q:Qc->Qe->Prop}{c:Qc}{b:Bool}
inductive TyOf (K:Qo) (H:Hp):V->Qc->Prop where
 | non:TyOf K H .non (.type "NoneType")
 | bl (x:Bool):TyOf K H (.bl x) (.type "bool")
 | int (i:Int):TyOf K H (.int i) (.type "int")
 | str (x:Str):TyOf K H (.str x) (.type "str")
 | flt (x:UInt64):TyOf K H (.flt x) (.type "float")
 | lst {a:Qd} {xs:List V} (e:H a=some (.lst xs)):TyOf K H (.ref a) (.type "list")
 | frz {a:Qd} {o:Obj} {xs:List V} (e:H a=some (.frz o (.lst xs))):TyOf K H (.ref a) (.type "list")
 | tup {a:Qd} {xs:List V} (e:H a=some (.tup xs)):TyOf K H (.ref a) (.type "tuple")
 | dK {a:Qd} {kvs:List (Key×V)} (e:H a=some (.dK kvs)):TyOf K H (.ref a) (.type "dict")
 | dT {a:Qd} {kvs:List (List Key×V)} (e:H a=some (.dT kvs)):TyOf K H (.ref a) (.type "dict")
 | ins {a C dx:Qd} {fs:List (Str×V)} (e:H a=some (.ins C dx fs)) (cl:Cls K C) (ha:findIn K (.ref C) "__class__"=some (some (.builtin "object.__class__")))
  (hn:specialIn K (.builtin "object.__class__") "__get__"=some (some (.builtin "getset_descriptor.__get__"))) (htk:takesIn K (.builtin "object.__class__")=some true)
  (hm:mroIn K C (.type "object")=some true):TyOf K H (.ref a) (.ref C)
theorem JfO{x:V}{u t:Qc}(I:Inv X pins σ H s)(rx:RelV x u)(ty:TyOf X.K H x t)(e:kitOne X.K t c=some b)(h:∀tk,Q (.bool b) { s with toks:=tk }) :
 wpAny (model X.prog X.w) A (call (.builtin "isinstance") [u,c]) Q E s:=by
 cases ty with
 | non=>cases (show u=Value.none from rx);exact kia_one PySem.W.kitx_none I.kIn True.intro e (fun z=>nomatch z) h
 | bl y=>cases (show u=Value.bool y from rx);exact kia_one PySem.W.kitx_bool I.kIn True.intro e (fun z=>nomatch z) h
 | int i=>obtain⟨t,q⟩:=(show ∃t,u=Value.int i t from rx);cases q;exact kia_one PySem.W.kitx_int I.kIn True.intro e (fun z=>nomatch z) h
 | str y=>obtain⟨t,q⟩:=(show ∃t,u=Value.str y t from rx);cases q;exact kia_one PySem.W.kitx_str I.kIn True.intro e (fun z=>nomatch z) h
 | flt y=>obtain⟨t,q⟩:=(show ∃t,u=Value.float y t from rx);cases q;exact kia_one PySem.W.kitx_float I.kIn True.intro e (fun z=>nomatch z) h
 | @lst a xs ea =>
  cases (show u=Value.ref a from rx);obtain⟨_,_,n,_,h1⟩:=(show ObjOk X.prog X.w H s.heap a (.lst xs) from I.hok a _ ea)
  exact kia_one kitx_list I.kIn ⟨_,h1,rfl⟩ e (fun z=>nomatch z) h
 | @frz a ob xs ea =>
  cases (show u=Value.ref a from rx);obtain⟨_,_,_,n,_,h1⟩:=(show ObjOk X.prog X.w H s.heap a (.frz ob (.lst xs)) from I.hok a _ ea)
  exact kia_one kitx_list I.kIn ⟨_,h1,rfl⟩ e (fun z=>nomatch z) h
 | @tup a xs ea =>
  cases (show u=Value.ref a from rx);obtain⟨_,_,_,p⟩:=(show ObjOk X.prog X.w H s.heap a (.tup xs) from I.hok a _ ea)
  obtain⟨o,h1,h2,_⟩:=p;exact kia_one Rm I.kIn ⟨o,h1,h2⟩ e (fun z=>nomatch z) h
 | @dK a kvs ea =>
  cases (show u=Value.ref a from rx);obtain⟨_,_,vs,_,p⟩:=(show ObjOk X.prog X.w H s.heap a (.dK kvs) from I.hok a _ ea)
  obtain⟨o,es,ep,h1,h2,_⟩:=p;exact kia_one Rp I.kIn ⟨o,h1,h2.1⟩ e (fun z=>nomatch z) h
 | @dT a kvs ea =>
  cases (show u=Value.ref a from rx);obtain⟨_,_,xs,_,o,es,ep,h1,h2,_⟩:=(show ObjOk X.prog X.w H s.heap a (.dT kvs) from I.hok a _ ea)
  exact kia_one Rp I.kIn ⟨o,h1,h2.1⟩ e (fun z=>nomatch z) h
 | @ins a C dx fs ea cl ha hn htk hm=>cases (show u=Value.ref a from rx);obtain⟨mA,O,_⟩:=Jbx I.hok ea;obtain⟨od,J,_⟩:=O.look;exact kia_one (PySem.W.kitx_own (cl.get _) cl.hd ha hn htk hm) I.kIn J e (fun z=>nomatch z) h
end
end L2

namespace L2
open PySem PySem.Spec PyProof.Rows

structure Room (k:Nat) (A:Qx):Prop where
 hd:A.handled=none
 dp:A.depth+3*k+5<recursionLimit
 un:A.units+16*k+200<cLine
theorem Room.mono{j k:Nat}{A:Qx}(r:Room k A)(h:j<=k):Room j A:=⟨r.hd,by have:=r.dp;lia,by have:=r.un;lia⟩
theorem Room.deeper{k:Nat}{A:Qx}(r:Room (k+1) A)(env:Env):Room k (A.deeper env) :=
 ⟨r.hd,by have:=r.dp;show A.depth+1+3*k+5<_;lia,by have:=r.un;show A.units+3+16*k+200<_;lia⟩
theorem Room.in1{k:Nat}{A:Qx}(r:Room (k+1) A):Room k A.in1 :=
 ⟨r.hd,by have:=r.dp;lia,by have:=r.un;lia⟩
theorem JdK{A:Qx}{C:Qd}{us:List Qc}{kw:List (Str×Qc)}:(A.under (.builtin "type.__call__" ⟨.ref C::us,kw⟩)).depth=A.depth+1:=by first | rfl | simp[Rq,Code.weight,Code.isCreation,Code.isGuard,Code.isCaller,Code.frames,Rr,guardIds]
theorem JdL{A:Qx}{C:Qd}{us:List Qc}{kw:List (Str×Qc)}:(A.under (.builtin "type.__call__" ⟨.ref C::us,kw⟩)).units=A.units+1:=by first | rfl | simp[Rq,Code.cUnits,Code.frames,Rr]
theorem Room.make{k:Nat}{A:Qx}(r:Room (k+1) A)(C:Qd)(us:List Qc)(kw:List (Str×Qc)):Room k (A.under (.builtin "type.__call__" ⟨.ref C::us,kw⟩)) :=
 ⟨r.hd,by have:=r.dp;rw[JdK];lia,by have:=r.un;rw[JdL];lia⟩
theorem Room.depth{k:Nat}{A:Qx}(r:Room k A):A.depth<recursionLimit:=by have:=r.dp;lia
theorem Room.units{k:Nat}{A:Qx}(r:Room k A):A.units+64<cLine:=by have:=r.un;lia
noncomputable def YZ:TA:=fun _ H Q=>Q [] H
noncomputable def Yf(ta:TE)(tr:TA):TA:=fun σ H Q=>ta σ H fun x H1=>tr σ H1 fun xs H2=>Q (x::xs) H2
section
variable{X:Cx}{e:QV}{es:List QV}{te:TE}{t:TA}{pos:Pos}
theorem Jc:PA X [] YZ:=fun _ _ _ _ H Q I h=>Lp ⟨[],H,I,.nil,h⟩
theorem Ja(ha:PE X e te)(hr:PA X es t)(hs:starEach (e::es) X.env=(false,eval e X.env)::starEach es X.env:=by rfl):PA X (e::es) (Yf te t):=by intro pos pins s σ H Q I h;rw[hs];show wpAny _ _ (spliced ((false,eval e X.env)::backTo pos (starEach es X.env))) _ _ s;refine Kl (thE (ha pins s σ H _ I h) fun u s1 x H1 I1 r1 q1=>?_);exact thA (hr pos pins s1 σ H1 _ I1 q1) fun us s2 xs H2 I2 r2 q2=>⟨x::xs,H2,I2,.cons r1 r2,q2⟩

noncomputable def JoI(t:TA):TE:=fun σ H Q=>t σ H fun xs H1=>xs.length<=Qk/\∀p,H1 p=none->Q (.ref p) (upd H1 p (.tup xs))
noncomputable def Jeb(t:TA):TE:=fun σ H Q=>t σ H fun xs H1=>xs.length<=Qk/\∀p,H1 p=none->Q (.ref p) (upd H1 p (.lst xs))
theorem Yc{x1}(h:PA X es t):PE X (.Tuple es x1 pos) (JoI t):=by intro pins s σ H Q I hq;refine wpAny_Tuple_spliced (thA (h pos pins s σ H _ I hq) fun us s1 xs H1 I1 r q=>⟨by rw[<- r.length];exact q.1,?_⟩);have hf:H1 s1.heap.objs.size=none:=I1.hok.fresh (Qn _);refine⟨.ref s1.heap.objs.size,upd H1 s1.heap.objs.size (.tup xs),I1.laid (t':=s1.toks) (fun b u e=>Qg _ e) (Qn _) ?_,rfl,q.2 _ hf⟩;exact⟨q.1,us,r,⟨_,Qh _ rfl,rfl,_,rfl⟩⟩
theorem J7(h:PA X es t):PE X (.List es pos) (Jeb t):=by intro pins s σ H Q I hq;refine wpAny_List_spliced (thA (h pos pins s σ H _ I hq) fun us s1 xs H1 I1 r q=>⟨by rw[<- r.length];exact q.1,?_⟩);have hf:H1 s1.heap.objs.size=none:=I1.hok.fresh (Qn _);refine⟨.ref s1.heap.objs.size,upd H1 s1.heap.objs.size (.lst xs),I1.laid (t':=s1.toks) (fun b u e=>Qg _ e) (Qn _) ?_,rfl,q.2 _ hf⟩;exact⟨q.1,us,0,r,Qh _ rfl⟩
end

noncomputable abbrev Sp:=List V->Hp->VK->XK->Prop
noncomputable abbrev CXT:=List Env->Hp->Qe->XK->Qc->Qe->Prop

structure Env0 (P:Qm) (w:Qp) (K:Qo) (mg:Str->Option Qc) (base:QC) (A:Qx) (outer:List Env) (s:Qe) (H:Hp):Prop where
 frames:A.frames=some outer
 mod:Mod K mg base
 bs:∀b o,base.get? b=some o->s.heap.get? b=some o/\H b=none
 bsz:base.objs.size<=s.heap.objs.size
 funs:s.heap.FunFrames base outer
 frf:∀b∈frs outer,H b=none
 hok:HOk P w H s.heap
 bare:AllBare s.gens
noncomputable def CE(outer:List Env)(P:Qm)(w:Qp)(H:Hp)(s:Qe)(Q:VK)(u:Qc)(s':Qe):Prop :=
 ∃v H',s'.os=s.os/\AllBare s'.gens/\Un (frs outer) [] H H' s.heap s'.heap/\HOk P w H' s'.heap/\RelV v u/\Q v H'
noncomputable def CR(CX:CXT)(outer:List Env)(P:Qm)(w:Qp)(H:Hp)(s:Qe)(Q:VK)(E:XK)(r:L9)(s':Qe):Prop :=
 match r with
 | .ok (.ret u)=>CE outer P w H s Q u s'
 | .ok _=>False
 | .error e=>CX outer H s E e s'
structure FnOk (P:Qm) (w:Qp) (K:Qo) (mg:Str->Option Qc) (base:QC) (CX:CXT) (k:Nat) (f:Qd) (fd:Qt) (ps:List Str) (sp:Sp):Prop where
 len:∀vs H Q E,sp vs H Q E->vs.length=ps.length
 run:∀(A:Qx) (outer:List Env) (s:Qe) (H:Hp) (args:Args) (us:List Qc) (vs:List V) (Q:VK) (E:XK),Room k A->Env0 P w K mg base A outer s H->BindsTo s fd args (ps.zip us)->Vals vs us->sp vs H Q E ->
  codeAny (model P w) A (.call (.ref f) args) (CR CX outer P w H s Q E) s
theorem FnOk.mono{P:Qm}{w:Qp}{K:Qo}{mg:Str->Option Qc}{base:QC}{CX:CXT}{j k:Nat}{f:Qd}{fd:Qt}{ps:List Str}{sp:Sp}(F:FnOk P w K mg base CX j f fd ps sp)(h:j<=k) :
 FnOk P w K mg base CX k f fd ps sp:=⟨F.len,fun A outer s H args us vs Q E hr=>F.run A outer s H args us vs Q E (hr.mono h)⟩
theorem FnOk.imp{P:Qm}{w:Qp}{K:Qo}{mg:Str->Option Qc}{base:QC}{CX:CXT}{k:Nat}{f:Qd}{fd:Qt}{ps:List Str}{sp sp':Sp}(F:FnOk P w K mg base CX k f fd ps sp)
 (h:∀vs H Q E,sp' vs H Q E->sp vs H Q E):FnOk P w K mg base CX k f fd ps sp' :=
 ⟨fun vs H Q E q=>F.len vs H Q E (h _ _ _ _ q),fun A outer s H args us vs Q E hr he hb hv hs=>F.run A outer s H args us vs Q E hr he hb hv (h _ _ _ _ hs)⟩

theorem Env0.make{P:Qm}{w:Qp}{K:Qo}{mg:Str->Option Qc}{base:QC}{A:Qx}{outer:List Env}{s:Qe}{H:Hp}(e:Env0 P w K mg base A outer s H)(C:Qd)(us:List Qc)(kw:List (Str×Qc)) :
 Env0 P w K mg base (A.under (.builtin "type.__call__" ⟨.ref C::us,kw⟩)) outer s H:=⟨by first | exact e.frames | (simpa [Rq,Code.envs,Rr,pushEnvs] using e.frames),e.mod,e.bs,e.bsz,e.funs,e.frf,e.hok,e.bare⟩
theorem Env0.in1{P:Qm}{w:Qp}{K:Qo}{mg:Str->Option Qc}{base:QC}{A:Qx}{outer:List Env}{s:Qe}{H:Hp}(e:Env0 P w K mg base A outer s H) :
 Env0 P w K mg base A.in1 outer s H:=⟨e.frames,e.mod,e.bs,e.bsz,e.funs,e.frf,e.hok,e.bare⟩

section
variable{X:Cx}{pins:List (Qd×Obj)}{σ:St}{H:Hp}{s s':Qe}
theorem Inv.env0(I:Inv X pins σ H s):Env0 X.prog X.w X.K X.mg X.base X.A X.stack s H :=
 ⟨I.ok.frames,I.ok.mod,I.bs,QJ I.ok.bsz I.sz,I.stack,I.stkFree,I.hok,I.bare⟩
theorem Inv.after{Q:VK}{u:Qc}(I:Inv X pins σ H s)(h:CE X.stack X.prog X.w H s Q u s'):EP X pins σ Q u s':=by obtain⟨v,H',os,bare,un,hok,r,q⟩:=h;obtain⟨hh,g,d,t,os'⟩:=s';obtain rfl:os'=s.os:=os;exact⟨v,H',I.call (h':=hh) (g':=g) (d':=d) (t':=t) (ch:=[]) un hok bare (fun b z=>absurd z (by simp)),r,q⟩
end

noncomputable def Za(sp:Sp)(dvs:List V)(E:XK)(t:TA):TE:=fun σ H Q=>t σ H fun vs H1=>sp (vs++dvs) H1 Q E
noncomputable def Je4(C:Qd)(sp:Sp)(dvs:List V)(E:XK)(t:TA):TE:=fun σ H Q=>t σ H fun vs H1=>∀x dx,H1 x=none->H1 dx=none->dx≠x ->
 sp (.ref x::(vs++dvs)) (upd (upd H1 dx (.own x)) x (.ins C dx [])) (fun v H2=>v=.non/\Q (.ref x) H2) E

noncomputable def Binds(K:Qo)(fd:Qt)(ps:List Str)(ds:List Qc):Prop :=
 ∀(s:Qe) (us:List Qc),K.In s.heap->(us++ds).length=ps.length->BindsTo s fd ⟨us,[]⟩ (ps.zip (us++ds))
theorem Binds.all{K:Qo}{fd:Qt}{ps:List Str}(h:∀us:List Qc,us.length=ps.length->bindArgs fd ⟨us,[]⟩=pure (ps.zip us)):Binds K fd ps []:=fun s us _ hl=>by rw[Li] at hl ⊢;exact .of_eq (h us hl)

noncomputable def Vd(CX:CXT)(X:Cx)(E:XK):Prop:=∀(pins:List (Qd×Obj)) (σ:St) (H:Hp) (s:Qe) (e:Qc) (s':Qe),Inv X pins σ H s->CX X.stack H s E e s'->X.xe e s'

section
variable{X:Cx}{CX:CXT}{k:Nat}{f C:Qd}{fd:Qt}{ps:List Str}{sp:Sp}{dvs:List V}{ds:List Qc}{E:XK}{x m:Str}{p pos apos:Pos}{e o:QV}{es:List QV}{ta:TE}{t:TA}

theorem Jou{pins:List (Qd×Obj)}{σ:St}{H:Hp}{s:Qe}{Q:VK}{us:List Qc}{vs:List V}(F:FnOk X.prog X.w X.K X.mg X.base CX k f fd ps sp)(hr:Room k X.A)(hb:Binds X.K fd ps ds)(hd:Vals dvs ds)(hx:Vd CX X E)
 (I:Inv X pins σ H s) (r:Vals vs us) (h:sp (vs++dvs) H Q E):wpAny (model X.prog X.w) X.A (call (.ref f) us) (EP X pins σ Q) X.xe s:=by
 have r2:Vals (vs++dvs) (us++ds):=r.append hd
 have hl:(us++ds).length=ps.length:=by rw[<- r2.length];exact F.len _ _ _ _ h
 refine wpAny_call (KI (F.run X.A X.stack s H ⟨us,[]⟩ (us++ds) (vs++dvs) Q E hr I.env0 (hb s us I.kIn hl) r2 h) fun r s' hq=>?_)
 cases r with
 | error e=>exact hx pins σ H s e s' I hq
 | ok fl =>
  cases fl with
  | ret u=>exact I.after hq
  | next=>exact GJ hq
  | brk=>exact GJ hq
  | cont=>exact GJ hq

theorem JeK(F:FnOk X.prog X.w X.K X.mg X.base CX k f fd ps sp)(hr:Room k X.A)(hg:Gl X x)(hm:X.mg x=some (.ref f))(hk:keepIn X.K (.ref f)=true)(hb:Binds X.K fd ps ds)(hd:Vals dvs ds)(hx:Vd CX X E)
 (ha:PA X (e::es) t) (hdb:(x == ("__debug__":Str))=false:=by decide) (he:starEach (e::es) X.env=(false,eval e X.env)::starEach es X.env:=by rfl) (hpl:(backTo pos (starEach es X.env)).any (·.1)=false:=by rfl) :
 PE X (.Call (.Name x p) (e::es) [] pos) (Za sp dvs E t):=by
 intro pins s σ H Q I h;refine Km (VB I hg hm ?_ hdb);refine callWith_K (h₀:=X.base) I.ok.mod.kin hk (thA (ha pos pins s σ H _ I h) fun us s1 vs H1 I1 r q=>⟨I1.kIn,?_⟩) he hpl;exact Jou F hr hb hd hx I1 r q
structure Mk (K:Qo) (C f:Qd):Prop where
 makes:makesIn K C=true
 init:findIn K (.ref C) "__init__"=some (some (.ref f))
 fn:isFn K (.ref f)=true
 kp:keepIn K (.ref C)=true

theorem Jil{pins:List (Qd×Obj)}{σ:St}{H:Hp}{s:Qe}{Q:VK}{us:List Qc}{vs:List V}(M:Mk X.K C f)(F:FnOk X.prog X.w X.K X.mg X.base CX k f fd ps sp)(hr:Room (k+1) X.A)(hb:Binds X.K fd ps ds)(hd:Vals dvs ds)
 (hx:Vd CX X E) (I:Inv X pins σ H s) (r:Vals vs us)
 (h:∀x dx,H x=none->H dx=none->dx≠x->sp (.ref x::(vs++dvs)) (upd (upd H dx (.own x)) x (.ins C dx [])) (fun v H2=>v=.non/\Q (.ref x) H2) E) :
 wpAny (model X.prog X.w) X.A (call (.ref C) us) (EP X pins σ Q) X.xe s:=by
 have hq:=h (s.heap.objs.size+1) s.heap.objs.size (I.hok.fresh (LL _)) (I.hok.fresh (Qn _)) (Qw (GO _))
 have I2:=Inv.made (C:=C) I
 have r2:Vals (V.ref (s.heap.objs.size+1)::(vs++dvs)) (Value.ref (s.heap.objs.size+1)::(us++ds)):=.cons rfl (r.append hd)
 have hl:(Value.ref (s.heap.objs.size+1)::us++ds).length=ps.length:=by have e:=r2.length;rw[F.len _ _ _ _ hq] at e;exact e.symm
 refine wpAny_call (Jhu (f:=f) I.kIn M.makes M.init (beq_iff_eq.mp M.fn) (KI (F.run _ X.stack _ _ ⟨Value.ref (s.heap.objs.size+1)::us,[]⟩ (Value.ref (s.heap.objs.size+1)::(us++ds)) _ _ E (hr.make C us [])
  (I2.env0.make C us []) (hb _ (Value.ref (s.heap.objs.size+1)::us) I2.kIn hl) r2 hq) fun r s' hq'=>?_))
 cases r with
 | error e=>exact hx pins σ _ _ e s' I2 hq'
 | ok fl =>
  cases fl with
  | ret u=>obtain⟨v,H',I3,rv,ev,q3⟩:=I2.after hq';subst ev;exact⟨rv,⟨V.ref (s.heap.objs.size+1),H',I3,rfl,q3⟩⟩
  | next=>exact GJ hq'
  | brk=>exact GJ hq'
  | cont=>exact GJ hq'
theorem Jkh(M:Mk X.K C f)(F:FnOk X.prog X.w X.K X.mg X.base CX k f fd ps sp)(hr:Room (k+1) X.A)(hg:Gl X x)(hm:X.mg x=some (.ref C))(hb:Binds X.K fd ps ds)(hd:Vals dvs ds)(hx:Vd CX X E)
 (ha:PA X (e::es) t) (hdb:(x == ("__debug__":Str))=false:=by decide) (he:starEach (e::es) X.env=(false,eval e X.env)::starEach es X.env:=by rfl) (hpl:(backTo pos (starEach es X.env)).any (·.1)=false:=by rfl) :
 PE X (.Call (.Name x p) (e::es) [] pos) (Je4 C sp dvs E t):=by
 intro pins s σ H Q I h;refine Km (VB I hg hm ?_ hdb);refine callWith_K (h₀:=X.base) I.ok.mod.kin M.kp (thA (ha pos pins s σ H _ I h) fun us s1 vs H1 I1 r q=>⟨I1.kIn,?_⟩) he hpl;exact Jil M F hr hb hd hx I1 r q
end

section
variable{X:Cx}{CX:CXT}{k:Nat}{f C:Qd}{fd:Qt}{ps ks:List Str}{sp:Sp}{E:XK}{x m:Str}{p pos apos kpos:Pos}{e o:QV}{es:List QV}{kws:List Mj}{te ta:TE}{t tk:TA}{nm:Option Str}
structure KBinds (K:Qo) (fd:Qt) (ps ks:List Str) (g:List Qc->List Qc->List Qc) (gV:List V->List V->List V):Prop where
 to:∀(s:Qe) (us ws:List Qc),K.In s.heap->(g us ws).length=ps.length->BindsTo s fd ⟨us,ks.zip ws⟩ (ps.zip (g us ws))
 rel:∀{vs:List V} {us:List Qc} {zs:List V} {ws:List Qc},Vals vs us->Vals zs ws->Vals (gV vs zs) (g us ws)
variable{g:List Qc->List Qc->List Qc}{gV:List V->List V->List V}
end

structure FnScope (N P:List Str) (sc:LX):Prop where
 kind:sc.kind=.function
 co:sc.isCoroutine=false
 gen:sc.isGenerator=false
 nd:N.Nodup
 pre:N.take P.length=P
 par:∀x∈P,sc.names.lookup x=some .local\/sc.names.lookup x=some .cell
 nofree:∀y∈sc.names,y.2≠.free

theorem JaL{kindOf:Str->Option NameKind}{x:Str}:∀{binds:List (Str×Qc)} {m:Str->Option Qc},(∀v,(x,v)∉binds)->bindL kindOf binds m x=m x
 | [],_,_=>rfl
 | (n,v)::r,m,h=>by
  unfold bindL;rw[JaL fun w hw=>h w (Qq _ hw)];split
  ·grind
  ·rfl
theorem JaK{kindOf:Str->Option NameKind}{x:Str}:∀{binds:List (Str×Qc)} {m:Str->Option Qc},(∀v,(x,v)∉binds)->bindC kindOf binds m x=m x
 | [],_,_=>rfl
 | (n,v)::r,m,h=>by
  unfold bindC;rw[JaK fun w hw=>h w (Qq _ hw)];split
  ·rfl
  grind
theorem Jfj{kindOf:Str->Option NameKind}{x:Str}{v:Qc}{P:List Str}:∀{vs:List Qc} {i:Nat} {m:Str->Option Qc},P.Nodup->P[i]?=some x->vs[i]?=some v->kindOf x=some .local ->
 bindL kindOf (P.zip vs) m x=some v:=by
 induction P with
 | nil=>intro _ _ _ _ h;simp at h
 | cons p P ih =>
  intro vs i m nd h1 h2 hk
  cases vs with
  | nil=>simp at h2
  | cons w vs =>
   show bindL kindOf ((p,w)::P.zip vs) m x=_;unfold bindL
   cases i with
   | zero=>simp at h1 h2;subst h1;subst h2;rw[JaL fun v hv=>(Gc.mp nd).1 (Lj hv).1,if_pos hk];simp
   | succ i=>exact ih (Gc.mp nd).2 (by simpa using h1) (by simpa using h2) hk
theorem Jfi{kindOf:Str->Option NameKind}{x:Str}{v:Qc}{P:List Str}:∀{vs:List Qc} {i:Nat} {m:Str->Option Qc},P.Nodup->P[i]?=some x->vs[i]?=some v->kindOf x≠some .local ->
 bindC kindOf (P.zip vs) m x=some v:=by
 induction P with
 | nil=>intro _ _ _ _ h;simp at h
 | cons p P ih =>
  intro vs i m nd h1 h2 hk
  cases vs with
  | nil=>simp at h2
  | cons w vs =>
   show bindC kindOf ((p,w)::P.zip vs) m x=_;unfold bindC
   cases i with
   | zero=>simp at h1 h2;subst h1;subst h2;rw[JaK fun v hv=>(Gc.mp nd).1 (Lj hv).1,if_neg hk];simp
   | succ i=>exact ih (Gc.mp nd).2 (by simpa using h1) (by simpa using h2) hk

noncomputable def YW(N:List Str)(vs:List V):St:=vs.map some++QQ (N.length-vs.length) none

noncomputable def Jay(CX:CXT)(P:Qm)(w:Qp)(K:Qo)(mg:Str->Option Qc)(base:QC)(N:List Str)(qual:Str)(scope:LX)(f:Qd)(cd:Qc)(A:Qx)(outer:List Env)(s:Qe)(H:Hp)(E:XK):Cx where
 prog:=P
 w:=w
 K:=K
 mg:=mg
 base:=base
 A:=A.deeper (envOfC qual scope s.heap.objs.size f cd)
 N:=N
 s₀:=s
 H₀:=H
 env:=envOfC qual scope s.heap.objs.size f cd
 outer:=outer
 stack:=envOfC qual scope s.heap.objs.size f cd::outer
 ex:=[]
 calm:=true
 fn:=fun _=>true
 pn:=[]
 xe:=fun e s'=>wpAny (model P w) (A.deeper (envOfC qual scope s.heap.objs.size f cd)) (leaving (envOfC qual scope s.heap.objs.size f cd) e) (fun _ s''=>CX outer H s E e s'') (fun e' s''=>CX outer H s E e' s'') s'

theorem Jcc{sc:LX}{n:Nat}{x:Str}(h:sc.names.lookup x=some .cell):∃c,(cellsFrom n sc.names []).lookup x=some c:=by have q:=MQ sc.names n [] (.inl h);exact Lg.mp q

theorem JfH{CX:CXT}{P:Qm}{w:Qp}{K:Qo}{mg:Str->Option Qc}{base:QC}{N ps:List Str}{qual:Str}{scope:LX}{f:Qd}{cd:Qc}{A:Qx}{outer:List Env}{s s1:Qe}{H:Hp}{E:XK}{us:List Qc}{vs:List V}
 (S:FnScope N ps scope) (hd:A.handled=none) (e0:Env0 P w K mg base A outer s H) (hl:vs.length=ps.length) (r:Vals vs us)
 (x:InCallC s s.heap.objs.size (bindL (envOfC qual scope s.heap.objs.size f cd).kindOf (ps.zip us) fun _=>none) (cellsFrom (s.heap.objs.size+1) scope.names []) (bindC (envOfC qual scope s.heap.objs.size f cd).kindOf (ps.zip us) fun _=>none) s1) :
 Inv (Jay CX P w K mg base N qual scope f cd A outer s H E) [] (YW N vs) H s1:=by
 have hpl:ps.length<=N.length:=by have:=congrArg List.length S.pre;grind
 obtain⟨h1,tk,rfl,hk⟩:=x.done;have noA:∀b:Qd,b∉(Jay CX P w K mg base N qual scope f cd A outer s H E).ex:=fun b z=>absurd (show b∈([]:List Qd) from z) (by simp)
 refine⟨⟨e0.mod,S.kind,rfl,rfl,Qn _,fun y z c h1 h2=>?_,fun y hy=>?_,fun y c _ h=>?_,fun _=>hd,Around.frames_deeper e0.frames,.inr ⟨rfl,rfl⟩,fun b z=>absurd z (noA b),e0.bs,e0.bsz,fun b _ _=>noA b,fun b z=>absurd z (noA b),e0.funs,e0.frf⟩,
  rfl,e0.bare,Un.kept hk,⟨_,x.toInCall.ns,fun i y v h1 h2 h3=>?_⟩,fun y c h=>⟨_,x.cell y c h⟩,e0.hok.fresh (Qn _),fun y c h=>?_,fun p hp=>absurd (show p∈([]:List (Qd×Obj)) from hp) (by simp),e0.hok.kept hk,?_⟩
 ·exact name_of_addr x.apart (Ke h1) (Ke h2)
 ·have hy:scope.names.lookup y=some .cell\/scope.names.lookup y=some .free:=hy;rcases hy with hy|hy
  ·exact Jcc hy
  ·exact absurd rfl (S.nofree _ (Ke hy))
 ·exact Gk (x.above y c (Ke h))
 ·have hi:i<vs.length:=by
   unfold YW at h2
   by_cases hi:i<vs.length
   ·exact hi
   ·rw[Q2 (by simpa using hi)] at h2;rw[List.getElem?_replicate] at h2;split at h2 <;> cases h2
  have ha:vs[i]?=some v:=by
   unfold YW at h2;rw[QA (by simpa using hi),Qy] at h2
   cases e:vs[i]? with
   | none=>rw[e] at h2;cases h2
   | some a=>rw[e] at h2;cases h2;rfl
  obtain⟨u,hu,rv⟩:=r.get ha
  have hp:ps[i]?=some y:=by rw[<- S.pre,List.getElem?_take_of_lt (by simp_all)];exact h1
  have ndP:ps.Nodup:=by rw[<- S.pre];exact S.nd.sublist (List.take_sublist _ _)
  refine⟨u,rv,?_⟩;rcases S.par y (QG hp) with k|k
  ·exact .inl ⟨k,Jfj ndP hp hu k⟩
  ·obtain⟨c,e⟩:=Jcc (n:=s.heap.objs.size+1) k;refine .inr ⟨.inl k,c,e,?_⟩;have q:=x.cell y c e;rw[Jfi ndP hp hu (by show scope.names.lookup y≠_;rw[k];decide)] at q;exact q
 ·exact e0.hok.fresh (Gk (x.above y c (Ke h)))
 ·unfold YW;show _=N.length
  simp_all

theorem JlG{CX:CXT}{P:Qm}{w:Qp}{K:Qo}{mg:Str->Option Qc}{base:QC}{k:Nat}{f:Qd}{name qual:Str}{params:Arguments}{body:List Gs}{scope:LX}{dV kV doc pm cdv ct oc:Qc}{an od:Option Qd}
 {osl:Array (Option Qc)} {N ps:List Str} {sp:Sp} (lk:K.lookup f=some ⟨oc,od,.func (fnOf name qual params body scope dV kV doc pm an cdv ct),osl⟩) (hcd:codeIn K cdv qual=true) (S:FnScope N ps scope)
 (len:∀vs H Q E,sp vs H Q E->vs.length=ps.length)
 (hbody:∀(A:Qx) (outer:List Env) (s:Qe) (H:Hp) (vs:List V) (Q:VK) (E:XK),Room k (A.deeper (envOfC qual scope s.heap.objs.size f cdv))->sp vs H Q E ->
  ∃t,PSs (Jay CX P w K mg base N qual scope f cdv A outer s H E) body t/\t { nx:=fun _ H'=>Q .non H',rt:=Q } (YW N vs) H) :
 FnOk P w K mg base CX (k+1) f (fnOf name qual params body scope dV kV doc pm an cdv ct) ps sp:=by
 refine⟨len,fun A outer s H args us vs Q E hr e0 hb r hsp=>?_⟩;have hl:=len _ _ _ _ hsp;have KX:K.In s.heap:=e0.mod.kin.keeps fun b o e=>(e0.bs b o e).1
 have lim:s.heap.NoLimit:=e0.mod.nolimit.keeps fun b o e=>(e0.bs b o e).1
 have hkind:∀y∈ps.zip us,scope.names.lookup y.1=some .local\/(scope.names.lookup y.1=some .cell/\((cellsFrom (s.heap.objs.size+1) scope.names []).lookup y.1).isSome=true):=fun⟨n,v⟩ hy=>by
  rcases S.par n (Lj hy).1 with q|q
  ·exact .inl q
  ·exact .inr ⟨q,MQ _ _ _ (.inl q)⟩
 refine codeAny_call_function hr.depth (KX _ _ lk) rfl S.co S.gen rfl (PySem.W.codeRec_of KX hcd) (hb _ _ _ _ ?_);refine wpAny_newFunctionEnv_cells S.kind hkind fun env he s1 x=>?_
 subst he;refine⟨lim.keeps x.toInCall.keep,codeAny_func ?_⟩;obtain⟨t,ht,hq⟩:=hbody A outer s H vs Q E (hr.deeper _) hsp;have I:Inv (Jay CX P w K mg base N qual scope f cdv A outer s H E) [] (YW N vs) H s1:=JfH S hr.hd e0 hl r x;refine G5 (ht [] s1 (YW N vs) H _ I hq) (fun fl s' hs=>?_) fun e s' hs=>hs
 have fin:∀{σ':St} {H':Hp} {v:V} {u:Qc},Inv (Jay CX P w K mg base N qual scope f cdv A outer s H E) [] σ' H' s'->RelV v u->Q v H'->CE outer P w H s Q u s' :=
  fun {σ' H' v u} J rv q=>⟨v,H',J.os,J.bare,J.base,J.hok,rv,q⟩
 cases fl with
 | ret u=>obtain⟨v,σ',H',J,rv,q⟩:=hs;exact fin J rv q
 | next=>obtain⟨σ',H',J,q⟩:=hs;exact fin (v:=V.non) (u:=Value.none) J rfl q
 | brk=>obtain⟨_,_,_,q⟩:=hs;exact GJ q
 | cont=>obtain⟨_,_,_,q⟩:=hs;exact GJ q
end L2

namespace L2
open PySem PySem.Spec PyProof.Rows
section
variable{X:Cx}{x:Str}{p pos:Pos}{e:QV}{es:List QV}{t:TA}{id T:String}{r:List V->Hp->VK->Prop}

noncomputable def tCB(r:List V->Hp->VK->Prop)(t:TA):TE:=fun σ H Q=>t σ H fun vs H1=>r vs H1 Q
theorem Jm(hc:CallR X (.builtin id) r)(hg:Gl X x)(hm:X.mg x=none)(hv:bootBuiltins x=some (.builtin id))(ha:PA X (e::es) t)(hn:x≠"__name__":=by decide)(hdb:(x == ("__debug__":Str))=false:=by decide)
 (he:starEach (e::es) X.env=(false,eval e X.env)::starEach es X.env:=by rfl) (hpl:(backTo pos (starEach es X.env)).any (·.1)=false:=by rfl):PE X (.Call (.Name x p) (e::es) [] pos) (tCB r t):=by
 intro pins s σ H Q I h;refine Km (YY I hg hm hv ?_ hn hdb);exact PyProof.Rows.callWith_builtin1 (thA (ha pos pins s σ H _ I h) fun us s1 vs H1 I1 r1 q1=>hc pins s1 σ H1 vs us Q I1 r1 q1) he hpl
theorem Yr(hc:CallR X (.type T) r)(hg:Gl X x)(hm:X.mg x=none)(hv:bootBuiltins x=some (.type T))(ha:PA X (e::es) t)(hn:x≠"__name__":=by decide)(hdb:(x == ("__debug__":Str))=false:=by decide)
 (he:starEach (e::es) X.env=(false,eval e X.env)::starEach es X.env:=by rfl) (hpl:(backTo pos (starEach es X.env)).any (·.1)=false:=by rfl):PE X (.Call (.Name x p) (e::es) [] pos) (tCB r t):=by
 intro pins s σ H Q I h;refine Km (YY I hg hm hv ?_ hn hdb);exact Q8 (thA (ha pos pins s σ H _ I h) fun us s1 vs H1 I1 r1 q1=>hc pins s1 σ H1 vs us Q I1 r1 q1) he hpl
end
end L2

namespace HT
open PySem PyProof.Rows

theorem Jg2(A:Qx)(s:Qe)(a:Int)(t:Tok)(c:Int)(u:Tok):∃e,SeqAt.EqAt A s (.int a t) (.int c u) e/\(e=true↔a=c) :=
 ⟨(a == c),SeqAt.EqAt.int_int a t c u,by simp⟩
section
open PySem.SeqAt
open PySem.AutoSeq1 (wpAny_loadPart')
open PySem.MeetsSeq PySem.MeetsSeq2 PySem.MeetsSeq3

end

section
variable{prog:Qm}{w:Qp}{A:Qx}{E:Qc->Qe->Prop}{s:Qe}

theorem Ji8{t b:Qd}{vs ws:List Qc}{Q:Qc->Qe->Prop}(ht:IsTup s.heap t vs.toArray)(hb:IsTup s.heap b ws.toArray)(hv:vs≠[])
 (h1:ws=[]->Q (.ref t) s) (h2:ws≠[]->Q (.ref s.heap.objs.size) { s with heap:=s.heap.push { cls:=.type "tuple",data:=.seq (vs++ws).toArray } })
 (hsz:vs.length+ws.length<=Qk):wpAny (model prog w) A (binaryOp .Add (.ref t) (.ref b)) Q E s:=by
 obtain⟨⟨cls,dd,data,sl⟩,ho,hc,n,hd⟩:=id ht;obtain⟨⟨cls2,dd2,data2,sl2⟩,ho2,hc2,n2,hd2⟩:=id hb;simp only at hc hd hc2 hd2;subst hc hd hc2 hd2;have e:vs.toArray++ws.toArray=(vs++ws).toArray:=by simp
 by_cases hw:ws=[]
 ·exact concat_meets ⟨_,ho,rfl⟩ ⟨_,ho2,rfl⟩ noFill_tuple_add seq_tuple_add MR Mz (Mr _ _)
   (tuple_addW1 t b vs.toArray ws.toArray n n2 dd dd2 sl sl2 (by simpa using hv) (by simp[hw])) ⟨ho,ho2,h1 hw⟩
 ·refine concat_meets ⟨_,ho,rfl⟩ ⟨_,ho2,rfl⟩ noFill_tuple_add seq_tuple_add MR Mz (Mr _ _)
   (tuple_addW2 t b vs.toArray ws.toArray n n2 dd dd2 sl sl2 (by simpa using hv) (by simpa using hw) (by omega)) ⟨ho,ho2,?_⟩
  rw[e];exact h2 hw

noncomputable def sIx(n d:Nat):Option Int->Nat
 | none=>d
 | some v=>if v<0 then(v+(n:Int)).toNat else min v.toNat n
theorem Jox(n d:Nat)(hd:d<=n)(o:Option Int):sIx n d o<=n:=by
 cases o with
 | none=>exact hd
 | some v =>
  show(if v<0 then(v+(n:Int)).toNat else min v.toNat n)<=n
  lia
theorem Jeo(v:Int)(n d:Nat):(if v<0 then max (v+(n:Int)) 0 else min v (n:Int))=((sIx n d (some v):Nat):Int):=by
 show(if v<0 then max (v+(n:Int)) 0 else min v (n:Int))=(((if v<0 then(v+(n:Int)).toNat else min v.toNat n):Nat):Int)
 lia
theorem Jdm(lo hi:Option Int)(n:Nat):Lc lo hi 1 (n:Int)=(((sIx n 0 lo:Nat):Int),((sIx n n hi:Nat):Int)):=by
 have h1:¬((1:Int)<0):=by decide
 unfold Lc;simp only[h1,if_false];refine Prod.ext ?_ ?_
 ·cases lo with
  | none=>rfl
  | some v=>exact Jeo v n 0
 ·cases hi with
  | none=>rfl
  | some v=>exact Jeo v n n
theorem JdW(i j:Nat):Kp (i:Int) (j:Int) 1=j-i:=by
 unfold Kp;have h1:(1:Int)>0:=by decide
 simp only[h1,if_true,Int.ediv_one];split <;> omega
theorem Jao{v:Qc}{o:Option Int}{Q:Option Int->Qe->Prop}(p:IsPart v o)(h:Q o s):wpAny (model prog w) A (Builtin.Slice.slicePartIndex v) Q E s:=by
 cases p with
 | none=>exact slicePart_none h
 | int i t=>exact slicePart_int h
theorem UO{sl:Qd}{vl vu:Qc}{lo hi:Option Int}{n:Nat}{Q:Int×Int×Nat->Qe->Prop}(hs:s.heap.IsSliceOf sl vl vu .none)(pl:IsPart vl lo)(pu:IsPart vu hi)
 (h:Q (((sIx n 0 lo:Nat):Int),1,sIx n n hi-sIx n 0 lo) s):wpAny (model prog w) A (Ma (.ref sl) (pure (n:Int))) Q E s:=by
 obtain⟨os,hos,hcs,hds⟩:=id hs;unfold Ma Builtin.Slice.sliceFields;refine Qa (Qa (QM hos hds (x:=vl) rfl (Qa (QM hos hds (x:=vu) rfl (Qa (QM hos hds (x:=.none) rfl (Qf ?_)))))));refine Qa (slicePart_none ?_);show wpAny _ _ (if ((1:Int) == 0)=true then _ else _) _ _ s;rw[if_neg (by decide)];refine Qa (Jao pl (Qa (Jao pu (Qa (Qf ?_)))))
 show wpAny _ _ (match Lc lo hi 1 (n:Int) with|(lo,hi)=>pure (lo,(1:Int),Kp lo hi 1)) _ _ s;rw[Jdm lo hi n]
 show wpAny _ _ (pure (((sIx n 0 lo:Nat):Int),(1:Int),Kp ((sIx n 0 lo:Nat):Int) ((sIx n n hi:Nat):Int) 1)) _ _ s;rw[JdW];exact Qf h
theorem JhU(xs:Array Qc)(i k:Nat):((GS k).filterMap fun(m:Nat)=>xs[((i:Int)+(m:Int)*1).toNat]?).toArray=((xs.toList.drop i).take k).toArray:=by
 have e:(fun(m:Nat)=>xs[((i:Int)+(m:Int)*1).toNat]?)=fun m=>xs[i+m]?:=by grind
 rw[e];have:=pick_run xs i k;rw[List.filterMap_map] at this;have e2:((fun x=>xs[x]?) ∘ fun x=>i+x)=fun m=>xs[i+m]?:=rfl
 rw[e2] at this;rw[this]

theorem Wk{t sl:Qd}{items:Array Qc}{vl vu:Qc}{lo hi:Option Int}{Q:Qc->Qe->Prop}(ht:IsTup s.heap t items)(hs:s.heap.IsSliceOf sl vl vu .none)(pl:IsPart vl lo)(pu:IsPart vu hi)
 (hw:¬(sIx items.size 0 lo=0/\sIx items.size items.size hi=items.size))
 (h:Q (.ref s.heap.objs.size) { s with heap:=s.heap.push { cls:=.type "tuple",data:=.seq ((items.toList.drop (sIx items.size 0 lo)).take (sIx items.size items.size hi-sIx items.size 0 lo)).toArray } })
 (hsz:items.size<=Qk):wpAny (model prog w) A (getItem (.ref t) (.ref sl)) Q E s:=by
 have htake:sizeOk (.seq ((items.toList.drop (sIx items.size 0 lo)).take (sIx items.size items.size hi-sIx items.size 0 lo)).toArray):=by show((items.toList.drop (sIx items.size 0 lo)).take (sIx items.size items.size hi-sIx items.size 0 lo)).toArray.size<=Qk;rw[QW,LD,MA,QX];omega
 have hj:sIx items.size items.size hi<=items.size:=Jox _ _ (Qn _) hi;obtain⟨os,hos,hcs,hds⟩:=id hs
 have hTs:s.TypeIs (.ref sl) "slice":=⟨os,hos,hcs⟩
 unfold getItem
 try with_reducible refine Gg ?_
 first|refine Qa (Qf ?_)|skip
 refine Qa (wpAny_sequenceKey ht.typeIs (by decide) ?_);refine Qa (QF (name:=Ga "__getitem__") ht.typeIs Q7
  (QH Q7 ht.typeIs entry_tuple_getitem ?_ (args_tuple_getitem _ _)))
 show wpAny _ _ (K2 (.ref t) >>= _) _ _ s;refine Qa (tupleItemsOf_ ht ?_);refine Qa (Lq hTs ?_);rw[if_pos (by decide)];refine Qa (UO hs pl pu ?_)
 have hno:¬((((sIx items.size 0 lo:Nat):Int) == 0 && (1:Int) == 1 && (sIx items.size items.size hi-sIx items.size 0 lo) == items.size)=true):=by simp_all
 show wpAny _ _ (if (((sIx items.size 0 lo:Nat):Int) == 0 && (1:Int) == 1 && (sIx items.size items.size hi-sIx items.size 0 lo) == items.size)=true then _ else _) _ _ s;rw[if_neg hno,JhU]
 first
  | exact Qa (m:=Kt _) (QO (Qf ⟨_,rfl,Qf h⟩) htake)
  | exact Qa (m:=Kt _) (QO (Qa (Qf (Qf ⟨_,rfl,Qf h⟩))) htake)
  | exact Qa (Qa (m:=Kt _) (QO (Qf (Qf ⟨_,rfl,Qf h⟩)) htake))
  | exact Qa (Qa (m:=Kt _) (QO (Qf ⟨_,rfl,Qf h⟩) htake))
end
end HT

namespace L2
open PySem PySem.Spec PyProof.Rows

noncomputable abbrev TO:=St->Hp->(Option Int->Hp->Prop)->Prop
noncomputable def PO(X:Cx)(e:Option QV)(t:TO):Prop :=
 ∀(pins:List (Qd×Obj)) (s:Qe) (σ:St) (H:Hp) (Q:Option Int->Hp->Prop),Inv X pins σ H s->t σ H Q ->
  wpAny (model X.prog X.w) X.A (evalPart e X.env) (fun u s'=>∃o H',Inv X pins σ H' s'/\IsPart u o/\Q o H') X.xe s
noncomputable def Je6:TO:=fun _ H Q=>Q none H
noncomputable def JlZ(t:TE):TO:=fun σ H Q=>t σ H fun x H1=>∃i,x=.int i/\Q (some i) H1

theorem Yp{ns:List Int}:∀{us:List Qc},Vals (ns.map V.int) us->IntsAre us ns:=by
 induction ns with
 | nil=>intro us r;rw[MS] at r;cases r;exact .nil
 | cons n ns ih =>
  intro us r;rw[Gx] at r
  cases r with
  | cons r1 r2=>obtain⟨t,e⟩:=r1;subst e;exact .cons n t (ih r2)

section
variable{X:Cx}{e:QV}{te:TE}{lo hi:Option QV}{tl th:TO}{pos p2:Pos}

theorem Jko:PO X none Je6:=by intro pins s σ H Q I h;rw[evalPart_none];exact Qf ⟨none,H,I,.none,h⟩
theorem Jkp(h:PE X e te):PO X (some e) (JlZ te):=by
 intro pins s σ H Q I hw;rw[evalPart_some];refine thE (h pins s σ H _ I hw) fun u s1 x H1 I1 r1 q1=>?_
 obtain⟨i,rfl,q⟩:=q1;obtain⟨t,rfl⟩:=r1;exact⟨some i,H1,I1,.int i t,q⟩

noncomputable def SlR(X:Cx)(r:V->Option Int->Option Int->Hp->VK->Prop):Prop :=
 ∀(pins:List (Qd×Obj)) (s:Qe) (σ:St) (H:Hp) (x:V) (v vl vu:Qc) (lo hi:Option Int) (sl:Qd) (Q:VK),Inv X pins σ H s->RelV x v->s.heap.IsSliceOf sl vl vu .none->IsPart vl lo->IsPart vu hi->r x lo hi H Q ->
  ∃T id,typeLookup (.type T) "__getitem__"=pure (some (.builtin id))/\s.TypeIs v T/\wpAny (model X.prog X.w) X.A (getItem v (.ref sl)) (EP X pins σ Q) X.xe s
theorem SlR.or{r r':V->Option Int->Option Int->Hp->VK->Prop}(h:SlR X r)(h':SlR X r'):SlR X (fun x lo hi H Q=>r x lo hi H Q\/r' x lo hi H Q):=by
 intro pins s σ H x v vl vu lo hi sl Q I rx hs pl pu q;rcases q with q|q
 ·exact h pins s σ H x v vl vu lo hi sl Q I rx hs pl pu q
 ·exact h' pins s σ H x v vl vu lo hi sl Q I rx hs pl pu q
noncomputable def tSl(r:V->Option Int->Option Int->Hp->VK->Prop)(te:TE)(tl th:TO):TE:=fun σ H Q=>te σ H fun x H1=>tl σ H1 fun l H2=>th σ H2 fun u H3=>r x l u H3 Q
theorem JhR{r:V->Option Int->Option Int->Hp->VK->Prop}(hr:SlR X r)(he:PE X e te)(hl:PO X lo tl)(hu:PO X hi th):PE X (.Subscript e (.Slice lo hi none p2) pos) (tSl r te tl th):=by
 intro pins s σ H Q I h;refine Subscript_ (thE (he pins s σ H _ I h) fun v s1 x H1 I1 r1 q1=>?_);refine wpAny_Slice (thn (hl pins s1 σ H1 _ I1 q1) fun vl s2 zz=>?_);obtain⟨l,H2,I2,pl,q2⟩:=zz;refine thn (hu pins s2 σ H2 _ I2 q2) fun vu s3 zz=>?_
 obtain⟨u,H3,I3,pu,q3⟩:=zz;rw[evalPart_none];refine Qf ?_;have I4:Inv X pins σ H3 { s3 with heap:=s3.heap.push { cls:=.type "slice",data:=.fields #[vl,vu,.none] } }:=I3.kept (t':=s3.toks) fun b ob q=>Qg _ q
 obtain⟨T,id,hT,ht,hg⟩:=hr pins { s3 with heap:=s3.heap.push { cls:=.type "slice",data:=.fields #[vl,vu,.none] } } σ H3 x v vl vu l u s3.heap.objs.size Q I4 r1 (Heap.IsSliceOf.new ..) pl pu q3;show wpAny (model X.prog X.w) X.A (subscriptTail e (.Slice lo hi none p2) v (.ref s3.heap.objs.size)) (EP X pins σ Q) X.xe { s3 with heap:=s3.heap.push { cls:=.type "slice",data:=.fields #[vl,vu,.none] } };exact tail_any (ops:=[.ref s3.heap.objs.size,v]) ht hT hg (by with_unfolding_all rfl)

noncomputable def Jax(xs:List V)(lo hi:Option Int):List V:=(xs.drop (HT.sIx xs.length 0 lo)).take (HT.sIx xs.length xs.length hi-HT.sIx xs.length 0 lo)
theorem W2(xs:List V)(lo hi:Option Int):(Jax xs lo hi).length<=xs.length:=by
 unfold Jax;rw[LD,MA]
 lia
noncomputable def Jqa(K:Qo):V->Option Int->Option Int->Hp->VK->Prop:=fun x lo hi H Q=>∃a xs,x=.ref a/\SqT K H a xs ∧
 ¬(HT.sIx xs.length 0 lo=0/\HT.sIx xs.length xs.length hi=xs.length)/\∀p,H p=none->Q (.ref p) (upd H p (.tup (Jax xs lo hi)))
theorem sl_tup:SlR X (Jqa X.K):=by
 intro pins s σ H x v vl vu lo hi sl Q I rx hs pl pu h;obtain⟨a,xs,rfl,hx,hw,q⟩:=h;cases rx;obtain⟨its,r,ht,hz⟩:=I.tuple hx;have hlen:its.toArray.size=xs.length:=by rw[QW];exact r.length.symm
 refine⟨"tuple",_,Q7.lookup,ht.typeIs,?_⟩;refine HT.Wk ht hs pl pu (by rw[hlen];exact hw) ?_ (by rw[hlen];exact hz);rw[hlen];refine⟨.ref s.heap.objs.size,_,I.laid (t':=s.toks) (o:=.tup (Jax xs lo hi)) (fun b ob q=>Qg _ q) (Qn _) ?_,rfl,q _ (I.hok.fresh (Qn _))⟩;exact⟨QJ (W2 xs lo hi) hz,_,(r.drop (HT.sIx xs.length 0 lo)).take (HT.sIx xs.length xs.length hi-HT.sIx xs.length 0 lo),IsTup.new _ _⟩

noncomputable def JlQ(K:Qo):R2:=fun x y H Q=>∃a b xs ys,x=.ref a/\y=.ref b/\SqT K H a xs/\SqT K H b ys/\xs≠[]/\xs.length+ys.length<=Qk ∧
 (ys=[]->Q (.ref a) H)/\(ys≠[]->∀p,H p=none->Q (.ref p) (upd H p (.tup (xs++ys))))
theorem Vals.nil_iff{xs:List V}{us:List Qc}(r:Vals xs us):us=[]↔xs=[]:=by
 cases r with
 | nil=>simp
 | cons _ _=>simp
theorem Jkb:OpR X (binaryOp .Add) (JlQ X.K):=by
 intro pins s σ H x y v u Q I rx ry h;obtain⟨a,b,xs,ys,rfl,rfl,ha,hb,hx,hz,q1,q2⟩:=h;cases rx;cases ry;obtain⟨its,r1,p1,_⟩:=I.tuple ha;obtain⟨its2,r2,p2,_⟩:=I.tuple hb;refine HT.Ji8 p1 p2 (fun z=>hx (r1.nil_iff.mp z)) (fun z=>⟨.ref a,H,I,rfl,q1 (r2.nil_iff.mp z)⟩) (fun z=>?_) (by rw[<- r1.length,<- r2.length];exact hz);refine⟨.ref s.heap.objs.size,_,I.laid (t':=s.toks) (o:=.tup (xs++ys)) (fun b ob q=>Qg _ q) (Qn _) ?_,rfl,q2 (fun w=>z (r2.nil_iff.mpr w)) _ (I.hok.fresh (Qn _))⟩
 exact⟨by simp_all,_,r1.append r2,IsTup.new _ _⟩
end
end L2

namespace L2
open PySem PySem.Spec PyProof.Rows

noncomputable def ixN(n:Nat)(i:Int):Option Nat:=if 0<=i then(if i<n then some i.toNat else none) else if -(n:Int)<=i then some (i+n).toNat else none
noncomputable def atI{α:Type}(xs:List α)(i:Int):Option α:=(ixN xs.length i).bind fun j=>xs[j]?
theorem JjM{n:Nat}{i:Int}{j:Nat}(h:ixN n i=some j):seqIndex? i n=some j/\j<n/\-(n:Int)<=i/\i<n:=by
 unfold ixN at h
 by_cases h0:0<=i
 ·rw[if_pos h0] at h
  by_cases h1:i<n
  ·rw[if_pos h1] at h;have e:i.toNat=j:=Q6 h;exact⟨by rw[seqIndex_of h0 h1,e],by lia,by lia,h1⟩
  simp_all
 ·rw[if_neg h0] at h
  by_cases h1:-(n:Int)<=i
  ·rw[if_pos h1] at h;have e:(i+n).toNat=j:=Q6 h;exact⟨by rw[seqIndex_neg (by simp_all) h1,e],by lia,h1,by lia⟩
  simp_all
theorem Jbg{α:Type}{xs:List α}{i:Int}{v:α}(h:atI xs i=some v):∃j,seqIndex? i xs.length=some j/\xs[j]?=some v/\j<xs.length/\-(xs.length:Int)<=i/\i<xs.length:=by
 unfold atI at h
 cases e:ixN xs.length i with
 | none=>rw[e] at h;cases h
 | some j=>rw[e] at h;obtain⟨h1,h2,h3,h4⟩:=JjM e;exact⟨j,h1,h,h2,h3,h4⟩
noncomputable def Jek(b:QV):Prop:=∀o i,subscripted b false o i=operate [o,i] (getItem o i)
noncomputable def IxR(X:Cx)(r:R2):Prop :=
 ∀(value slice:QV) (pins:List (Qd×Obj)) (s:Qe) (σ:St) (H:Hp) (x y:V) (v u:Qc) (Q:VK),Inv X pins σ H s->RelV x v->RelV y u->r x y H Q ->
  subscripted slice false v u=operate [v,u] (getItem v u)->wpAny (model X.prog X.w) X.A (subscriptTail value slice v u) (EP X pins σ Q) X.xe s
noncomputable def MtR(X:Cx)(id:String)(r:V->List V->Hp->VK->Prop):Prop :=
 ∀(pins:List (Qd×Obj)) (s:Qe) (σ:St) (H:Hp) (x:V) (xs:List V) (v:Qc) (us:List Qc) (Q:VK),Inv X pins σ H s->RelV x v->Vals xs us->r x xs H Q ->
  wpAny (model X.prog X.w) X.A (call (.builtin id) (v::us)) (EP X pins σ Q) X.xe s
section
variable{X:Cx}{a b:QV}{ta tb:TE}{pos:Pos}
theorem IxR.or{r r':R2}(h:IxR X r)(h':IxR X r'):IxR X (fun x y H Q=>r x y H Q\/r' x y H Q):=by
 intro value slice pins s σ H x y v u Q I rx ry q hs;rcases q with q|q
 ·exact h value slice pins s σ H x y v u Q I rx ry q hs
 ·exact h' value slice pins s σ H x y v u Q I rx ry q hs
theorem MtR.or{id:String}{r r':V->List V->Hp->VK->Prop}(h:MtR X id r)(h':MtR X id r'):MtR X id (fun x xs H Q=>r x xs H Q\/r' x xs H Q):=by
 intro pins s σ H x xs v us Q I rx rs q;rcases q with q|q
 ·exact h pins s σ H x xs v us Q I rx rs q
 ·exact h' pins s σ H x xs v us Q I rx rs q
theorem JpZ{r:R2}(hr:IxR X r)(ha:PE X a ta)(hb:PE X b tb)(hs:Jek b):PE X (.Subscript a b pos) (tOp r ta tb):=by intro pins s σ H Q I h;exact Subscript_ (Jl9 ha hb I h fun v u s2 x y H2 I2 rx ry q=>hr a b pins s2 σ H2 x y v u Q I2 rx ry q (hs _ _))

noncomputable def Jp3(K:Qo):R2:=fun x y H Q=>∃p xs i v,x=.ref p/\y=.int i/\SqL K H p xs/\atI xs i=some v/\Q v H
noncomputable def Jp5(K:Qo):R2:=fun x y H Q=>∃p xs i v,x=.ref p/\y=.int i/\SqT K H p xs/\atI xs i=some v/\Q v H
noncomputable def Jp4:R2:=fun x y H Q=>∃z i c,x=.str z/\y=.int i/\z.length<=Qk/\atI z.cps.toList i=some c/\Q (.str ⟨#[c]⟩) H
theorem ix_list:IxR X (Jp3 X.K):=by
 intro value slice pins s σ H x y v u Q I rx ry h hs;obtain⟨p,xs,i,z,rfl,rfl,hq,he,q⟩:=h;cases rx;obtain⟨t,rfl⟩:=ry;obtain⟨its,r,pl,hz⟩:=I.list hq;obtain⟨j,h1,h2,h3,h4,h5⟩:=Jbg he;obtain⟨w,ew,rw'⟩:=r.get h2;have hl:=r.length;have hn:=ZQ;have fin:EP X pins σ Q w s:=⟨z,H,I,rw',q⟩
 by_cases h0:0<=i
 ·have hj:i.toNat=j:=by rw[seqIndex_of h0 h5] at h1;exact Q6 h1
  exact item_listR pl.isList h0 (by lia) (by rw[hj];simpa using ew) fin hs
 ·have hj:(i+(its.toArray.size:Int)).toNat=j:=by
   rw[seqIndex_neg (by simp_all) h4] at h1
   simp_all
  exact subscriptTail_builtinR (x:=w) pl.isList.typeIs slot_list_getitem.lookup
   (wpAny_getItem_list_neg (Q:=fun r s'=>r=w/\EP X pins σ Q r s') pl.isList (by simp_all) (by simp_all) (by lia) (by rw[hj];simpa using ew) ⟨rfl,fin⟩) hs
theorem ix_tup:IxR X (Jp5 X.K):=by
 intro value slice pins s σ H x y v u Q I rx ry h hs;obtain⟨p,xs,i,z,rfl,rfl,hq,he,q⟩:=h;cases rx;obtain⟨t,rfl⟩:=ry;obtain⟨its,r,pl,hz⟩:=I.tuple hq;obtain⟨j,h1,h2,h3,h4,h5⟩:=Jbg he;obtain⟨w,ew,rw'⟩:=r.get h2;have hl:=r.length;have hn:=ZQ;have fin:EP X pins σ Q w s:=⟨z,H,I,rw',q⟩
 exact subscriptTail_builtinR (x:=w) pl.typeIs slot_tuple_getitem.lookup
  (getItem_tuple (j:=j) (Q:=fun r s'=>r=w/\EP X pins σ Q r s') pl (by lia) (by lia) (by simp_all) (by simpa using ew) ⟨rfl,fin⟩) hs
theorem JmY:IxR X Jp4:=by
 intro value slice pins s σ H x y v u Q I rx ry h hs;obtain⟨z,i,c,rfl,rfl,hz,he,q⟩:=h;obtain⟨t,rfl⟩:=rx;obtain⟨t',rfl⟩:=ry;obtain⟨j,h1,h2,h3,h4,h5⟩:=Jbg he;have hl:z.cps.toList.length=z.length:=by simp[Str.length]
 rw[hl] at h1 h4 h5;have hn:=ZQ;exact tail_any (typeIs_str s z t) slot_str_getitem.lookup (getItem_str (c:=c) (by
  lia) (by rw[h1];simpa using h2) ⟨.str ⟨#[c]⟩,H,I.tok _,⟨_,rfl⟩,q⟩) hs
noncomputable def rIx(K:Qo):R2:=fun x y H Q=>Jp3 K x y H Q\/Jp5 K x y H Q\/Jp4 x y H Q
theorem JmX:IxR X (rIx X.K):=ix_list.or (ix_tup.or JmY)

theorem Inv.lst{pins:List (Qd×Obj)}{σ:St}{H:Hp}{s:Qe}{p:Qd}{xs:List V}(I:Inv X pins σ H s)(h:H p=some (.lst xs)) :
 ∃(its:List Qc) (n:Nat),Vals xs its/\s.heap.get? p=some { cls:=.type "list",data:=.seq its.toArray n }/\xs.length<=Qk:=by
 obtain⟨z,its,n,r,e⟩:=I.hok p _ h;exact⟨its,n,r,e,z⟩
theorem Jb1(lo hi:Option Int)(n:Nat):(sliceBounds lo hi none n).1=((HT.sIx n 0 lo:Nat):Int)/\(sliceBounds lo hi none n).2.1=((HT.sIx n n hi:Nat):Int)/\(sliceBounds lo hi none n).2.2=1:=by
 refine⟨?_,?_,rfl⟩
 ·cases lo with
  | none=>simp[sliceBounds,HT.sIx]
  | some i =>
   simp only[sliceBounds,HT.sIx,MB,show(1:Int)>0 by decide,if_true]
   lia
 ·cases hi with
  | none=>simp[sliceBounds,HT.sIx]
  | some i =>
   simp only[sliceBounds,HT.sIx,MB,show(1:Int)>0 by decide,if_true]
   lia
theorem JaG(its:List Qc)(lo hi:Option Int):slicePick its.toArray lo hi none=((its.drop (HT.sIx its.length 0 lo)).take (HT.sIx its.length its.length hi-HT.sIx its.length 0 lo)).toArray:=by obtain⟨h1,h2,h3⟩:=Jb1 lo hi its.toArray.size;unfold slicePick;rw[h1,h2,h3];simp only[sliceRange_one,pick_run,QW] <;> rfl
noncomputable def Jp9(K:Qo):V->Option Int->Option Int->Hp->VK->Prop:=fun x lo hi H Q=>∃a xs,x=.ref a/\SqL K H a xs/\∀p,H p=none->Q (.ref p) (upd H p (.lst (Jax xs lo hi)))
theorem sl_list:SlR X (Jp9 X.K):=by
 intro pins s σ H x v vl vu lo hi sl Q I rx hs pl pu h;obtain⟨a,xs,rfl,hx,q⟩:=h;cases rx;obtain⟨its,r,ht,hz⟩:=I.list hx;have hlen:=r.length;refine⟨"list",_,slot_list_getitem.lookup,ht.isList.typeIs,?_⟩;refine wpAny_getItem_list_slice ht.isList hs pl pu .none (by simp) ?_ (by simp_all);rw[JaG,<- hlen];refine⟨.ref s.heap.objs.size,_,I.laid (t':=s.toks) (o:=.lst (Jax xs lo hi)) (fun b ob q=>Qg _ q) (Qn _) ?_,rfl,q _ (I.hok.fresh (Qn _))⟩
 exact⟨QJ (W2 xs lo hi) hz,_,0,(r.drop (HT.sIx xs.length 0 lo)).take (HT.sIx xs.length xs.length hi-HT.sIx xs.length 0 lo),Qh _ rfl⟩

theorem CallR.or{f:Qc}{r r':List V->Hp->VK->Prop}(h:CallR X f r)(h':CallR X f r'):CallR X f (fun xs H Q=>r xs H Q\/r' xs H Q):=by
 intro pins s σ H xs us Q I rs q;rcases q with q|q
 ·exact h pins s σ H xs us Q I rs q
 ·exact h' pins s σ H xs us Q I rs q
theorem Jbi:CallR X (.type "list") (fun xs H Q=>∃p ys,xs=[.ref p]/\(SqL X.K H p ys\/SqT X.K H p ys)/\∀l,H l=none->Q (.ref l) (upd H l (.lst ys))):=by
 intro pins s σ H xs us Q I r h;obtain⟨p,ys,rfl,hq,q⟩:=h;obtain⟨u,rfl,rx⟩:=U9 r;cases rx
 have fin:∀(its:List Qc),Vals ys its->ys.length<=Qk->∀(h':QC) (c':Nat),(∀b o',s.heap.get? b=some o'->h'.get? b=some o') ->
  h'.get? s.heap.objs.size=some { cls:=.type "list",dict:=none,data:=.seq its.toArray c',slots:=#[] }->EP X pins σ Q (.ref s.heap.objs.size) { s with heap:=h' }:=fun its r' hz h' c' kp e =>
  ⟨.ref s.heap.objs.size,_,I.laid (t':=s.toks) kp (Qn _) (show ObjOk X.prog X.w _ h' _ (.lst ys) from⟨hz,its,c',r',e⟩),rfl,q _ (I.hok.fresh (Qn _))⟩
 rcases hq with hq|hq
 ·obtain⟨its,r',pl,hz⟩:=I.list hq;have hlen:=r'.length;obtain⟨o,ho,hc,n,hd⟩:=pl.isList;exact call_list_seq p (.inl rfl) ho hc hd (fun h' c' kp e=>fin its r' hz h' c' kp e) (by simp_all)
 ·obtain⟨its,r',pl,hz⟩:=I.tuple hq;have hlen:=r'.length;obtain⟨o,ho,hc,n,hd⟩:=pl;exact call_list_seq p (.inr rfl) ho hc hd (fun h' c' kp e=>fin its r' hz h' c' kp e) (by simp_all)
theorem Jau:CallR X (.type "tuple") (fun xs H Q=>∃p ys,xs=[.ref p]/\((SqL X.K H p ys/\∀l,H l=none->Q (.ref l) (upd H l (.tup ys)))\/(SqT X.K H p ys/\Q (.ref p) H))):=by
 intro pins s σ H xs us Q I r h;obtain⟨p,ys,rfl,h⟩:=h;obtain⟨u,rfl,rx⟩:=U9 r;cases rx;rcases h with ⟨hq,q⟩|⟨hq,q⟩
 ·obtain⟨its,r',pl,hz⟩:=I.list hq;have hlen:=r'.length;refine call_tuple_list pl.isList (fun h' kp=>?_) (by simp_all);have I1:Inv X pins σ H { s with heap:=h' }:=I.kept (t':=s.toks) kp
  have I2:Inv X pins σ (upd H h'.objs.size (.tup ys)) { s with heap:=h'.push { cls:=.type "tuple",data:=.seq its.toArray } } :=
   I1.laid (t':=s.toks) (fun b o e=>Qg _ e) (Qn _) (show ObjOk X.prog X.w _ _ _ (.tup ys) from⟨hz,its,r',IsTup.new _ _⟩)
  exact⟨.ref h'.objs.size,_,I2,rfl,q _ (I1.hok.fresh (Qn _))⟩
 ·obtain⟨its,r',pl,hz⟩:=I.tuple hq;exact call_tuple_same pl ⟨.ref p,H,I,rfl,q⟩

noncomputable def tyV(K:Qo)(T:String)(x:V)(H:Hp):Prop:=match x with
 | .str _=>T="str"
 | .int _=>T="int"
 | .ref p=>(T="list"/\∃xs,SqL K H p xs)\/(T="tuple"/\∃o,K.lookup p=some o/\o.cls=.type "tuple"/\o.dict=none) ∨
  (T="dict"/\((∃kvs,H p=some (.dK kvs))\/∃kvs,H p=some (.dT kvs)))\/(T="set"/\∃S n,H p=some (.set S n))
 | _=>False
theorem JiN{pins:List (Qd×Obj)}{σ:St}{H:Hp}{s:Qe}{T:String}{x:V}{v:Qc}(I:Inv X pins σ H s)(r:RelV x v)(ty:tyV X.K T x H) :
 s.TypeIs v T/\∀a,v=.ref a->∃ob,s.heap.get? a=some ob/\ob.dict=none:=by
 cases x with
 | str z=>obtain⟨t,rfl⟩:=r;cases (show T="str" from ty);exact⟨typeIs_str s z t,fun _ e=>nomatch e⟩
 | int i=>obtain⟨t,rfl⟩:=r;cases (show T="int" from ty);exact⟨typeIs_int s i t,fun _ e=>nomatch e⟩
 | ref p =>
  cases r;rcases ty with ⟨rfl,xs,hq⟩|⟨rfl,o,hk,hc,hd⟩|⟨rfl,hk⟩|⟨rfl,S,n,hk⟩
  ·obtain⟨its,_,pl,_⟩:=I.list hq;refine⟨pl.isList.typeIs,fun a e=>?_⟩;cases e;obtain⟨o,n,e,c,hd,_⟩:=pl;exact⟨o,e,hd⟩
  ·refine⟨⟨o,I.kIn p o hk,hc⟩,fun a e=>?_⟩;cases e;exact⟨o,I.kIn _ o hk,hd⟩
  ·have z:∃o,s.heap.get? p=some o/\o.ExactDict:=by
    rcases hk with ⟨kvs,hk⟩|⟨kvs,hk⟩
    ·obtain⟨_,_,_,_,o,_,_,e,ex,_⟩:=I.hok p _ hk;exact⟨o,e,ex⟩
    ·obtain⟨_,_,_,_,o,_,_,e,ex,_⟩:=I.hok p _ hk;exact⟨o,e,ex⟩
   obtain⟨o,e,ex⟩:=z;refine⟨⟨o,e,ex.1⟩,fun a e2=>?_⟩;cases e2;exact⟨o,e,ex.2.1⟩
  ·obtain⟨o,_,_,_,e,ex,_⟩:=I.hok p _ hk;refine⟨⟨o,e,ex.1⟩,fun a e2=>?_⟩;cases e2;exact⟨o,e,ex.2.1⟩
 | _=>exact GJ ty
noncomputable def Jle(K:Qo)(T:String)(r:V->List V->Hp->VK->Prop)(to:TE):TE:=fun σ H Q=>to σ H fun x H1=>tyV K T x H1/\r x [] H1 Q
noncomputable def tBM(K:Qo)(T:String)(r:V->List V->Hp->VK->Prop)(to:TE)(t:TA):TE:=fun σ H Q=>to σ H fun x H1=>tyV K T x H1/\t σ H1 fun xs H2=>r x xs H2 Q
variable{o e:QV}{es:List QV}{to:TE}{t:TA}{name:Str}{apos cpos:Pos}{T id:String}{r:V->List V->Hp->VK->Prop}
theorem JnJ(pa:PlainAttrs T)(slot:Slot T name id)(hty:typeOf (.builtin id)=pure (.type "method_descriptor"))(hm:MtR X id r)(ho:PE X o to)
 (hbase:attributeBase o name X.env (eval o X.env)=eval o X.env:=by rfl) (hline:(apos.endLine == cpos.line)=true:=by rfl):PE X (.Call (.Attribute o name apos) [] [] cpos) (Jle X.K T r to):=by
 intro pins s σ H Q I h;refine Ll hbase hline (thE (ho pins s σ H _ I h) fun v s1 x H1 I1 r1 zz=>?_);obtain⟨ty,q1⟩:=zz;obtain⟨h1,h2⟩:=JiN I1 r1 ty;exact⟨T,id,pa,slot,hty,h1,h2,G6 rfl (LZ (hm pins s1 σ H1 x [] v [] Q I1 r1 .nil q1))⟩
theorem JpY(pa:PlainAttrs T)(slot:Slot T name id)(hty:typeOf (.builtin id)=pure (.type "method_descriptor"))(hm:MtR X id r)(ho:PE X o to)(ha:PA X (e::es) t)
 (hbase:attributeBase o name X.env (eval o X.env)=eval o X.env:=by rfl)
 (hfew:((backTo cpos (starEach (e::es) X.env)).all (fun x=>!x.1) && (backToKw cpos (keywordEach [] X.env)).all (fun x=>x.1.isSome)
  && decide ((e::es).length+([]:List Mj).length+(if ([]:List Mj).isEmpty then 0 else 1)<30))=true:=by rfl)
 (hline:(apos.endLine == cpos.line)=true:=by rfl) (hs:starEach (e::es) X.env=(false,eval e X.env)::starEach es X.env:=by rfl) (hplain:(backTo cpos (starEach es X.env)).any (·.1)=false:=by rfl) :
 PE X (.Call (.Attribute o name apos) (e::es) [] cpos) (tBM X.K T r to t):=by
 intro pins s σ H Q I h;refine wpAny_Call_method_late hbase hfew hline rfl (thE (ho pins s σ H _ I h) fun v s1 x H1 I1 r1 zz=>?_);obtain⟨ty,q1⟩:=zz;obtain⟨h1,h2⟩:=JiN I1 r1 ty;refine⟨T,id,pa,slot,hty,h1,h2,?_⟩;have hA:=ha cpos pins s1 σ H1 _ I1 q1;rw[hs] at hA ⊢;refine G6 (by show(false || (backTo cpos (starEach es X.env)).any (·.1))=false;rw[hplain] <;> rfl) (K3 ?_);exact thA hA fun us s2 vs H2 I2 r2 q2=>hm pins s2 σ H2 x vs v us Q I2 r1 r2 q2
/- xs.append(e),list.index on a module's tuple .. are MtR facts of 06m -/
end
end L2

namespace L2
open PySem PySem.Spec PyProof.Rows

noncomputable def MtM(X:Cx)(id:String)(r:V->List V->Hp->VK->Prop):Prop :=
 ∀(pins:List (Qd×Obj)) (s:Qe) (σ:St) (H:Hp) (x:V) (xs:List V) (v:Qc) (us:List Qc) (Q:VK),Inv X pins σ H s->RelV x v->Vals xs us->r x xs H Q ->
  wpAny (model X.prog X.w) X.A (call (.builtin id) (v::us)) (EP X pins σ Q) X.xe s

theorem Vals.one{x:V}{us:List Qc}(h:Vals [x] us):∃u,us=[u]/\RelV x u:=by
 cases h with
 | cons r t=>cases t;exact⟨_,rfl,r⟩
theorem Vals.two{x y:V}{us:List Qc}(h:Vals [x,y] us):∃u v,us=[u,v]/\RelV x u/\RelV y v:=by
 cases h with
 | cons r t=>obtain⟨v,rfl,q⟩:=Vals.one t;exact⟨_,_,rfl,r,q⟩
theorem Vals.zero{us:List Qc}(h:Vals [] us):us=[]:=by cases h;rfl
theorem Vals.dropLast{xs:List V}{us:List Qc}(h:Vals xs us):Vals xs.dropLast us.dropLast:=by
 induction h with
 | nil=>exact .nil
 | cons r t ih =>
  cases t with
  | nil=>exact .nil
  | cons q t'=>exact .cons r ih
theorem Vals.eraseIdx{xs:List V}{us:List Qc}(i:Nat)(h:Vals xs us):Vals (xs.eraseIdx i) (us.eraseIdx i):=by
 induction h generalizing i with
 | nil=>exact .nil
 | cons r t ih =>
  cases i with
  | zero=>exact t
  | succ i=>exact .cons r (ih i)
theorem Vals.reverse{xs:List V}{us:List Qc}(h:Vals xs us):Vals xs.reverse us.reverse:=by
 induction h with
 | nil=>exact .nil
 | cons r t ih=>rw[List.reverse_cons,List.reverse_cons];exact Vals.append ih (.cons r .nil)
theorem Vals.rep{xs:List V}{us:List Qc}(h:Vals xs us):∀k:Nat,Vals (QQ k xs).flatten (QQ k us).flatten
 | 0=>.nil
 | k+1=>by rw[Ky,Ky,Lr,Lr];exact Vals.append h (Vals.rep h k)
theorem JaU(its:List Qc):∀(k:Nat) (acc:List Qc),
 List.foldl (fun x1 x2=>x1++x2) acc.toArray (QQ k its.toArray)=(acc++(QQ k its).flatten).toArray
 | 0,acc=>by simp
 | k+1,acc=>by
  have e:acc.toArray++its.toArray=(acc++its).toArray:=by simp
  have e2:(acc++its)++(QQ k its).flatten=acc++(QQ (k+1) its).flatten:=by grind
  rw[<- e2,<- JaU its k (acc++its),<- e,Ky,List.foldl_cons]

section
variable{X:Cx}{pins:List (Qd×Obj)}{σ:St}{H:Hp}{s:Qe}{l b:Qd}{xs ys zs:List V}

theorem Inv.lset{its its':List Qc}{n:Nat}{f:Array Qc->Array Qc}{t':Nat}(I:Inv X pins σ H s)(hH:H l=some (.lst xs))
 (e:s.heap.get? l=some { cls:=.type "list",data:=.seq its.toArray n }) (hf:f its.toArray=its'.toArray) (hv:Vals ys its') (hz:ys.length<=Qk) :
 Inv X pins σ (upd H l (.lst ys)) { s with heap:=s.heap.update l (K4 f),toks:=t' }:=by
 have q:=PySem.IsL.update e f;rw[hf] at q;refine I.write (x:=l) (e:=l) (by rw[hH];exact trivial) (.inl rfl) (fun b' u hb hu=>(QE s.heap (K4 f) (QL hb)).trans hu) ⟨_,q⟩ ?_;exact⟨hz,its',_,hv,q⟩
theorem Inv.lnew{its:List Qc}{t':Nat}(I:Inv X pins σ H s)(hv:Vals ys its)(hz:ys.length<=Qk) :
 Inv X pins σ (upd H s.heap.objs.size (.lst ys)) { s with heap:=s.heap.push { cls:=.type "list",data:=.seq its.toArray },toks:=t' } :=
 I.laid (fun _ _ q=>Qg _ q) (Qn _) ⟨hz,its,0,hv,Qh _ rfl⟩
theorem Inv.fresh(I:Inv X pins σ H s):H s.heap.objs.size=none:=I.hok.fresh (Qn _)
theorem Inv.lstM(I:Inv X pins σ H s)(hH:H l=some (.lst xs)):xs.length<=Qk/\∃(its:List Qc) (n:Nat),Vals xs its/\xs.length=its.length/\s.heap.get? l=some { cls:=.type "list",data:=.seq its.toArray n }:=by obtain⟨z,its,n,r,e⟩:=I.hok l _ hH;exact⟨z,its,n,r,r.length,e⟩

theorem JcF{n:Nat}(h:n<=Qk):Ku n=false:=by
 unfold Ku
 simp_all
end

section
variable{X:Cx}

noncomputable def VG:V->List V->Hp->VK->Prop:=fun x vs H Q=>∃l xs y,x=.ref l/\vs=[y]/\H l=some (.lst xs)/\xs.length<Qk/\Q .non (upd H l (.lst (xs++[y])))
theorem Yq:MtM X "list.append" VG:=by
 intro pins s σ H x vs v us Q I rx rv h;obtain⟨l,xs,y,rfl,rfl,hH,hz,q⟩:=h;cases rx;obtain⟨u,rfl,ru⟩:=rv.one;obtain⟨z,its,n,r,hl,e⟩:=I.lstM hH;refine call_meets F.slot_list_append ⟨_,e,rfl⟩ F.entry_list_append (F.args_list_append_2 _ _) (PySem.list_append l its.toArray n u (by simp_all)) ⟨e,?_⟩;refine⟨.non,_,I.lset (its':=its++[u]) hH e (by simp) (r.append (.cons ru .nil)) ?_,rfl,q⟩
 grind

noncomputable def JeR:V->List V->Hp->VK->Prop:=fun x vs H Q=>∃l b xs zs,x=.ref l/\vs=[.ref b]/\H l=some (.lst xs)/\H b=some (.lst zs)/\xs.length+zs.length<=Qk/\Q .non (upd H l (.lst (xs++zs)))
theorem VD:MtM X "list.extend" JeR:=by
 intro pins s σ H x vs v us Q I rx rv h;obtain⟨l,b,xs,zs,rfl,rfl,hH,hB,hz,q⟩:=h;cases rx;obtain⟨u,rfl,ru⟩:=rv.one;cases ru;obtain⟨z,its,n,r,hl,e⟩:=I.lstM hH;obtain⟨z2,its2,n2,r2,hl2,e2⟩:=I.lstM hB;have hsz:its.toArray.size+its2.toArray.size<=Qk:=by simp_all
 have hlong:¬(!its.toArray.isEmpty && Ku (its.toArray.size+its2.toArray.size))=true:=by rw[JcF hsz,Bool.and_false];exact Qz
 refine call_meets F.slot_list_extend ⟨_,e,rfl⟩ F.entry_list_extend (F.args_list_extend_2 _ _)
  (AutoSeq1.list_extend_list_list_0 l its.toArray n b its2.toArray n2 hlong (by simp_all) (by exact QJ ‹_› (by decide))) ⟨e,e2,?_⟩
 refine⟨.non,_,I.lset (its':=its++its2) hH e (by simp) (r.append r2) ?_,rfl,q⟩
 simp_all

noncomputable def Jn1:V->List V->Hp->VK->Prop:=fun x vs H Q=>∃l xs y,x=.ref l/\vs=[]/\H l=some (.lst xs)/\xs[xs.length-1]?=some y/\Q y (upd H l (.lst xs.dropLast))
theorem Jhw:MtM X "list.pop" Jn1:=by
 intro pins s σ H x vs v us Q I rx rv h;obtain⟨l,xs,y,rfl,rfl,hH,hy,q⟩:=h;cases rx;have hus:=rv.zero;subst hus;obtain⟨z,its,n,r,hl,e⟩:=I.lstM hH;obtain⟨u,hu,ru⟩:=r.get hy
 have hy':its.toArray[its.toArray.size-1]?=some u:=by simp_all
 refine call_meets F.slot_list_pop ⟨_,e,rfl⟩ F.entry_list_pop (F.args_list_pop_1 _) (MeetsSeq.list_pop_last l its.toArray n u hy' (by simp_all)) ⟨e,?_⟩;refine⟨y,_,I.lset (its':=its.dropLast) hH e ?_ r.dropLast ?_,ru,q⟩
 ·simp_all
 grind

noncomputable def Jp1:R2:=fun x y H Q=>∃l b xs zs,x=.ref l/\y=.ref b/\H l=some (.lst xs)/\H b=some (.lst zs)/\xs.length+zs.length<=Qk/\∀p,H p=none->Q (.ref p) (upd H p (.lst (xs++zs)))
theorem Jnw:OpR X (binaryOp .Add) Jp1:=by
 intro pins s σ H x y v u Q I rx ry h;obtain⟨l,b,xs,zs,rfl,rfl,hH,hB,hz,q⟩:=h;cases rx;cases ry;obtain⟨z,its,n,r,hl,e⟩:=I.lstM hH;obtain⟨z2,its2,n2,r2,hl2,e2⟩:=I.lstM hB;refine PySem.P.add_list e e2 ?_ (by simp_all);have ea:its.toArray++its2.toArray=(its++its2).toArray:=by simp
 rw[ea];exact⟨.ref _,_,I.lnew (t':=s.toks) (r.append r2) (by simp_all),rfl,q _ I.fresh⟩
noncomputable def Jp8:R2:=fun x y H Q=>∃l k xs,x=.ref l/\y=.int k/\H l=some (.lst xs)/\-(2 ^ 63)<=k/\k<2 ^ 63/\xs.length*k.toNat<=Qk ∧
 ∀p,H p=none->Q (.ref p) (upd H p (.lst (QQ k.toNat xs).flatten))
theorem JjS{α:Type}(xs:List α)(k:Nat):(QQ k xs).flatten.length=k*xs.length:=by simp_all
theorem JhK:OpR X (binaryOp .Mult) Jp8:=by
 intro pins s σ H x y v u Q I rx ry h;obtain⟨l,k,xs,rfl,rfl,hH,h1,h2,hz,q⟩:=h;cases rx;obtain⟨t,rfl⟩:=ry;obtain⟨z,its,n,r,hl,e⟩:=I.lstM hH;have hlen:its.toArray.size*k.toNat<=Qk:=by simp_all
 have hcap:¬its.toArray.size*k.toNat>(2 ^ 63-1) / 8:=by
  have:(Qk:Nat)<=(2 ^ 63-1) / 8:=by decide
  lia
 have hfit:¬(!Builtin.List.listFitsIndex k)=true:=by rw[fitsIndex_both h1 h2];exact Qz
 have hlong:¬Ku (its.toArray.size*k.toNat)=true:=by rw[JcF hlen];exact Qz
 have hnew:List.foldl (fun x1 x2=>x1++x2) #[] (QQ (if its.toArray.isEmpty=true then 0 else k.toNat) its.toArray)=(QQ k.toNat its).flatten.toArray:=by
  have f0:∀m:Nat,List.foldl (fun x1 x2=>x1++x2) #[] (QQ m its.toArray)=(QQ m its).flatten.toArray:=fun m=>by
   have:=JaU its m []
   simp_all
  rw[f0]
  cases its with
  | nil=>simp
  | cons a r'=>rw[if_neg (by simp)]
 refine wpAny_binaryOp_repeat_ref (T:="list") (U:="int") (by decide) ⟨_,e,rfl⟩ (fun s'=>typeIs_int s' k t) noFill_list_mul F.fills_int_mul F.slot_int_rmul repeat_list F.slot_int_index.lookup
  (call_meets F.slot_int_rmul (typeIs_int s k t) F.entry_int_rmul (F.args_int_rmul_2 _ _) (int___rmul___int_list k t l its.toArray n)
   ⟨e,rfl,⟨_,e,rfl⟩,call_meets F.slot_list_mul ⟨_,e,rfl⟩ F.entry_list_mul (F.args_list_mul_2 _ _) (AutoListH.list___mul___list_int_3 l its.toArray n k t hfit hcap hlong) ⟨e,?_⟩⟩)
 rw[hnew];exact⟨.ref _,_,I.lnew (t':=s.toks) (r.rep k.toNat) (by rw[JjS,Nat.mul_comm];exact hz),rfl,q _ I.fresh⟩

end

section
variable{prog:Qm}{w:Qp}{A:Qx}{E:Qc->Qe->Prop}{s:Qe}
end

section
variable{X:Cx}
end
end L2

namespace Att
open PySem PySem.W PySem.Calls PyProof.Rows

theorem Zc{P:Params}{h:QC}:∀(ns:List Int) (vs:List Qc),WellAll P h vs (ns.map WData.int)->IntsAre vs ns:=by
 intro ns
 induction ns with
 | nil=>intro vs w;rw[MS] at w;cases w;exact .nil
 | cons n ns ih =>
  intro vs w;rw[Gx] at w
  cases w with
  | cons a b=>cases a;exact .cons _ _ (ih _ b)

theorem Jgj{l:OpenLaw}{n:Nat}(hn:l.most=some n){P:Params}{h:QC}{args:List WData}{vals:List Qc}
 (hpre:l.row.toRowW.claim.pre args=true) (hwl:WellAll P h vals args) :
 ∃a vs ns,vals=[Value.ref a]/\args=[WData.list (ns.map WData.int)]/\h.get? a=some { cls:=.type "list",data:=.seq vs.toArray }/\IntsAre vs ns/\ns.length<=n:=by
 have hsh:WShape.hasAll [] args [.list .int]=true:=(pre_splitW hpre).1
 have hc:l.pre.holds [] { args:=args }=true:=(pre_splitW hpre).2;obtain⟨d,r,rfl,h1,h2⟩:=hasAllW_cons hsh;obtain rfl:=hasAllW_nil h2;obtain⟨xs,rfl,h3⟩:=hasW_list h1;obtain⟨ns,rfl⟩:=items_int h3
 have hlen:ns.length<=n:=by
  unfold OpenLaw.pre at hc
  have h4:(WTm.not (.lt (.lit (.int (n:Int))) (.len (.arg 0)))).holds [] { args:=[.list (ns.map .int)] }=true:=by
   have h4:=(holds_andW hc).1
   simp_all
  have h5:=condW_of h4 (w_not (w_lt w_lit (w_len_list (w_arg rfl))))
  simp_all
 cases hwl with
 | cons w1 w2 =>
  cases w2
  cases w1 with
  | list ho hall=>exact⟨_,_,ns,rfl,rfl,ho,Zc ns _ hall,hlen⟩

theorem Jga(l:OpenLaw)(args:List WData):l.row.toRowW.claim.post args (.bool true) args=true :=
 postW_of (r:=l.row.toRowW) (X:=(true == true))
  (show WShape.has [] (.bool true) .bool=true by first|rfl|decide|simp[WShape.has,WShape.arms,WShape.armsAll])
  (show(WTm.eq .res (.lit (.bool true))).value [] { args:=args,res:=some (.bool true),after:=args }=some (.bool (true == true)) from w_eq_bool (w_res rfl) w_lit) rfl

theorem attach_call{l:OpenLaw}{n:Nat}{q:Qm}{loose:List Str}{XP:(Str->Option Qc)->QC->Prop}{YP:Qp->QC->Prop}{d:DefRec}
 (hn:l.most=some n) (hdf:d.params.defaults=[])
 (call:∀(w:Qp) (s₀ s₁:Qe) (mg mb:Str->Option Qc) (fa:Qd) (o:Obj) (pm cd doc:Qc) (a:Qd) (vs:List Qc) (ns:List Int),
  Ground q loose [] XP w s₀ mg mb s₁.heap->YP w s₁.heap ->
  s₁.heap.get? fa=some o->o.data=.func (docDef d.name d.params d.body d.scope pm cd doc)->s₁.heap.CodeRec cd d.name->mg d.name=some (.ref fa) ->
  s₁.heap.get? a=some { cls:=.type "list",data:=.seq vs.toArray }->IntsAre vs ns->ns.length<=n->s₁.gens=#[] ->
  codeAny (model l.prog w) callerA (.call (.ref fa) ⟨[.ref a],[]⟩) (fun r s'=>r=.ok (.ret (.bool true))/\OldK s₁.heap s'.heap/\s'.os=s₁.os/\AllBare s'.gens) s₁) :
 WalkO q loose XP YP l.row.toRowW d [] (fun f vs=>PySem.call f vs):=by
 intro w s₀ s₁ mg mb G Y fa o pm cd doc dV kV ho hd hcd hD hmg hg args vals as hpre hlay hrd hwl hlo;obtain rfl:dV=.none:=Dflts.none hD hdf;obtain rfl:kV=.none:=Dflts.noKw hD;obtain⟨a,vs,ns,rfl,rfl,hobj,hints,hlen⟩:=Jgj hn hpre hwl;refine enter_call (KI (call w s₀ s₁ mg mb fa o pm cd doc a vs ns G Y ho (fd_plain hd) hcd hmg hobj hints hlen hg) fun r s' hq=>?_);obtain⟨rfl,h2,h3,h4⟩:=hq;exact⟨.inl ⟨.bool true,.bool true,[],rfl,fun _=>rfl,.bool true,Jga l _,fun _=>⟨List.Pairwise.nil,fun _ hm=>(nomatch hm)⟩⟩,h2,h3,h4⟩

section
variable{prog:Qm}{w:Qp}{A:Qx}{E:Qc->Qe->Prop}{s:Qe}{K:Qo}

end
end Att

namespace L2
open PySem PySem.Spec PyProof.Rows

theorem Jgr{vs:List Qc}{ns:List Int}(h:IntsAre vs ns):Vals (ns.map V.int) vs:=by
 induction h with
 | nil=>exact .nil
 | cons n t _ ih=>exact .cons ⟨t,rfl⟩ ih

noncomputable def Jl6(H:Hp):Prop:=∀b,H b=none\/∃o xs,H b=some (.frz o (.lst xs))

theorem Jhs{P:Qm}{w:Qp}{K:Qo}{mg mb:Str->Option Qc}{CX:CXT}{k:Nat}{fa a:Qd}{fd:Qt}{x:Str}{sp:Sp}{s₁:Qe}{vs:List Qc}{ns:List Int}
 (KX:K.In s₁.heap) (hns:s₁.heap.Ns mainGlobals mg) (hb:s₁.heap.Ns builtinsNs mb) (hbb:∀x:Str,x≠"__name__"->mb x=bootBuiltins x) (hlim:s₁.heap.NoLimit) (hg:s₁.gens=#[])
 (ha:s₁.heap.get? a=some { cls:=.type "list",data:=.seq vs.toArray }) (hi:IntsAre vs ns) (hl:ns.length<=Qk) (hr:Room k callerA)
 (F:∀base:QC,K.In base->base.Ns mainGlobals mg->FnOk P w K mg base CX k fa fd [x] sp) (hbind:∀(s:Qe) (u:Qc),BindsTo s fd ⟨[u],[]⟩ [(x,u)])
 (hsp:∀H:Hp,Jl6 H->SqL K H a (ns.map V.int)->sp [.ref a] H (fun v _=>v=.bl true) fun _ _ _=>False)
 (hCX:∀H e s',CX [] H s₁ (fun _ _ _=>False) e s'->False) :
 codeAny (model P w) callerA (.call (.ref fa) ⟨[.ref a],[]⟩) (fun r s'=>r=.ok (.ret (.bool true))/\OldK s₁.heap s'.heap/\s'.os=s₁.os/\AllBare s'.gens) s₁:=by
 have rv:=Jgr hi
 have lenV:=hi.length
 -- from an abstract heap in which nothing but the script may be tracked
 have core:∀H:Hp,Jl6 H->SqL K H a (ns.map V.int)->HOk P w H s₁.heap->(∀b,H b≠none->b=a)->(H a≠none->K.lookup a=none) ->
  codeAny (model P w) callerA (.call (.ref fa) ⟨[.ref a],[]⟩) (fun r s'=>r=.ok (.ret (.bool true))/\OldK s₁.heap s'.heap/\s'.os=s₁.os/\AllBare s'.gens) s₁:=by
  intro H hO hS hok hA hK;have base_of:∀{b:Qd} {o:Obj},s₁.heap.get? b=some o->H b=none->(Jbv s₁.heap H).get? b=some o:=fun e n=>Jhi e n
  have noA:∀{b:Qd} {o:Obj} {es:Array DictEntry} {ep:Nat},s₁.heap.get? b=some o->o.data=.dict es ep->H b=none:=fun {b o es ep} e d=>by grind
  have nsK:∀{b:Qd} {m:Str->Option Qc},s₁.heap.Ns b m->(Jbv s₁.heap H).Ns b m:=fun {b m} z=>by obtain⟨o,es,ep,e,d,r⟩:=z;exact⟨o,es,ep,base_of e (noA e d),d,r⟩
  have hKb:K.In (Jbv s₁.heap H):=fun b o e=>base_of (KX b o e) (by grind)
  have hM:Mod K mg (Jbv s₁.heap H):=⟨hKb,nsK hns,⟨mb,nsK hb,hbb⟩,by obtain⟨mc,h1,h2⟩:=hlim;exact⟨mc,nsK h1,h2⟩⟩
  have e0:Env0 P w K mg (Jbv s₁.heap H) callerA [] s₁ H:=⟨rfl,hM,fun b o e=>Jj7 e,Ro (JfE _ _),trivial,fun b hb=>absurd (show b∈([]:List Qd) from hb) (by simp),hok,.of_eq hg⟩
  refine KI ((F _ hKb (nsK hns)).run callerA [] s₁ H ⟨[.ref a],[]⟩ [.ref a] [.ref a] _ _ hr e0 (hbind s₁ (.ref a)) (.cons rfl .nil) (hsp H hO hS)) fun r s' h=>?_
  cases r with
  | error e=>exact(hCX H e s' h).elim
  | ok fl =>
   cases fl with
   | next=>exact GJ h
   | brk=>exact GJ h
   | cont=>exact GJ h
   | ret u =>
    obtain⟨v,H',os,bare,un,hok',r',q⟩:=h;have q':v=.bl true:=q;subst q';obtain rfl:u=Value.bool true:=r';refine⟨rfl,OldK.of_keep fun b o e=>?_,os,bare⟩
    cases q:H b with
    | none=>exact un.keep b o e q (by intro z;exact absurd (show b∈([]:List Qd) from z) (by simp)) (by simp)
    | some u =>
     rcases hO b with z|⟨ob,xs,z⟩
     ·rw[q] at z;cases z
     ·have z2:=un.frzs b ob _ z;obtain⟨e1,_⟩:=hok b _ z;obtain⟨e2,_⟩:=hok' b _ z2
      simp_all
 cases hk:K.lookup a with
 | some o =>
  -- the script is one of the module's own objects
  have e:=KX a o hk;rw[ha] at e;cases e;refine core (fun _=>none) (fun _=>.inl rfl) (.inr ⟨_,vs.toArray,_,hk,rfl,rfl,rfl,by simp_all,by simpa using rv⟩) (fun b u z=>by simp_all) (fun b z=>absurd rfl z) fun z=>absurd rfl z
 | none =>
  refine core (fun b=>if b=a then some (.frz { cls:=.type "list",data:=.seq vs.toArray } (.lst (ns.map V.int))) else none) (fun b=>?_) (.inl (.inr ⟨{ cls:=.type "list",data:=.seq vs.toArray },if_pos rfl⟩)) (fun b u z=>?_) (fun b z=>?_) fun _=>hk
  ·grind
  ·by_cases hb:b=a
   ·have z':=(if_pos hb).symm.trans z;cases z';subst hb;exact⟨ha,by simp_all,vs,_,rv,ha⟩
   simp_all
  simp_all
end L2

namespace L2
open PySem PySem.Spec PyProof.Rows

theorem Jll{l:PySem.W.OpenLaw}{n k:Nat}{q:Qm}{loose:List Str}{XP:(Str->Option Qc)->QC->Prop}{YP:Qp->QC->Prop}{d:DefRec}{K:Params->Qo}{CX:Qp->CXT}{sp:Qp->Sp}{x:Str}
 (hn:l.most=some n) (hn2:n<=Qk) (hdf:d.params.defaults=[]) (hr:Room k callerA)
 (hY:∀(w:Qp) (h:QC),YP w h->(K w.params).In h)
 (F:∀(w:Qp) (mg:Str->Option Qc) (fa:Qd) (h:QC),(K w.params).In h->h.Ns mainGlobals mg->mg d.name=some (.ref fa) ->
  ∃fd:Qt,(∀(s:Qe) (u:Qc),BindsTo s fd ⟨[u],[]⟩ [(x,u)]) ∧
   ∀base:QC,(K w.params).In base->base.Ns mainGlobals mg->FnOk l.prog w (K w.params) mg base (CX w) k fa fd [x] (sp w))
 (hsp:∀(w:Qp) (H:Hp) (a:Qd) (ns:List Int),ns.length<=n->Jl6 H->SqL (K w.params) H a (ns.map V.int)->sp w [.ref a] H (fun v _=>v=.bl true) fun _ _ _=>False)
 (hCX:∀(w:Qp) (H:Hp) (s:Qe) (e:Qc) (s':Qe),CX w [] H s (fun _ _ _=>False) e s'->False) :
 PySem.W.WalkO q loose XP YP l.row.toRowW d [] (fun f vs=>PySem.call f vs):=by
 refine Att.attach_call hn hdf fun w s₀ s₁ mg mb fa o pm cd doc a vs ns G Y ho hd hcd hmg hobj hints hlen hg=>?_
 have KX:=hY w _ Y;obtain⟨fd,hb,hF⟩:=F w mg fa _ KX G.T.g hmg;exact Jhs KX G.T.g G.T.b G.T.builtins G.T.nolimit hg hobj hints (QJ hlen hn2) hr hF hb (fun H hO hS=>hsp w H a ns hlen hO hS) fun H e s'=>hCX w H s₁ e s'
end L2

namespace L2
open PySem PySem.Spec PyProof.Rows

noncomputable def JjH(s:Gs)(j:Nat):Gs:=match s with
 | .ClassDef _ _ _ body _ _ _ _ _ _ _=>body.getD j (.Pass ⟨0,0,0,0⟩)
 | _=>.Pass ⟨0,0,0,0⟩
noncomputable def UV(s:Gs):Arguments:=match s with
 | .FunctionDef _ a _ _ _ _ _ _ _ _=>a
 | _=>{ posonlyargs:=[],args:=[],vararg:=none,kwonlyargs:=[],kw_defaults:=[],kwarg:=none,defaults:=[] }
noncomputable def YM(s:Gs):List Gs:=match s with
 | .FunctionDef _ _ b _ _ _ _ _ _ _=>b
 | _=>[]
noncomputable def Ji(s:Gs):LX:=match s with
 | .FunctionDef _ _ _ _ _ _ sc _ _ _=>sc
 | _=>{ kind:=.function,names:=[],isGenerator:=false,isCoroutine:=false }

noncomputable abbrev CX0:CXT:=fun _ _ _ _ _ _=>False
noncomputable abbrev E0:XK:=fun _ _ _=>False
theorem JlP{X:Cx}:Vd CX0 X E0:=fun _ _ _ _ _ _ _ h=>h.elim

structure Fun (K:Qo) (x qual:Str) (st:Gs) (f:Qd) (fd:Qt):Prop where
 ex:∃(oc:Qc) (od:Option Qd) (kV doc pm:Qc) (an:Option Qd) (cdv ct:Qc) (osl:Array (Option Qc)),
  fd=fnOf x qual (UV st) (YM st) (Ji st) .none kV doc pm an cdv ct/\K.lookup f=some ⟨oc,od,.func fd,osl⟩/\codeIn K cdv qual=true
 kp:keepIn K (.ref f)=true
section
variable{P:Qm}{w:Qp}{K:Qo}{mg:Str->Option Qc}{base:QC}
theorem Fun.ok{x qual:Str}{st:Gs}{f:Qd}{fd:Qt}{N ps:List Str}{k:Nat}{sp:Sp}(F:Fun K x qual st f fd)(S:FnScope N ps (Ji st))(len:∀vs H Q E,sp vs H Q E->vs.length=ps.length)
 (hbody:∀(cdv:Qc) (A:Qx) (outer:List Env) (s:Qe) (H:Hp) (vs:List V) (Q:VK) (E:XK),Room k (A.deeper (envOfC qual (Ji st) s.heap.objs.size f cdv))->sp vs H Q E ->
  ∃t,PSs (Jay CX0 P w K mg base N qual (Ji st) f cdv A outer s H E).nox (YM st) t/\t { nx:=fun _ H'=>Q .non H',rt:=Q } (YW N vs) H):FnOk P w K mg base CX0 (k+1) f fd ps sp:=by
 obtain⟨oc,od,kV,doc,pm,an,cdv,ct,osl,rfl,lk,hcd⟩:=F.ex;refine JlG lk hcd S len fun A outer s H vs Q E hr hsp=>?_
 obtain⟨t,h,q⟩:=hbody cdv A outer s H vs Q E hr hsp;exact⟨t,h.nox,q⟩
theorem Fun.binds{x qual:Str}{st:Gs}{f:Qd}{fd:Qt}{ps:List Str}(F:Fun K x qual st f fd)
 (h:∀(kV doc pm:Qc) (an:Option Qd) (cdv ct:Qc) (us:List Qc),us.length=ps.length->bindArgs (fnOf x qual (UV st) (YM st) (Ji st) .none kV doc pm an cdv ct) ⟨us,[]⟩=pure (ps.zip us)):Binds K fd ps []:=by
 obtain⟨oc,od,kV,doc,pm,an,cdv,ct,osl,rfl,lk,hcd⟩:=F.ex;exact .all (h kV doc pm an cdv ct)
theorem JdA{x qual:Str}{st:Gs}{f:Qd}{oc:Qc}{od an:Option Qd}{osl:Array (Option Qc)}{kV doc pm cdv ct:Qc}(l:K.lookup f=some ⟨oc,od,.func (fnOf x qual (UV st) (YM st) (Ji st) .none kV doc pm an cdv ct),osl⟩)
 (c:codeIn K cdv qual=true) (k:keepIn K (.ref f)=true):Fun K x qual st f (fnOf x qual (UV st) (YM st) (Ji st) .none kV doc pm an cdv ct):=⟨⟨oc,od,kV,doc,pm,an,cdv,ct,osl,rfl,l,c⟩,k⟩
end
theorem W4{A:Qx}{k:Nat}(hr:Room k A):A.units+1<cLine:=GB (Nat.add_le_add_left (by decide:1<=64) _) hr.units
theorem Jgk{n:Nat}(h:n<=1000):n<Qk:=GB h (by decide)

section
variable{X:Cx}
theorem pv(i:Nat){x:Str}{pos:Pos}(hN:X.N[i]?=some x:=by rfl)(hv:Vis X.env.scope x:=by first | exact Or.inl rfl | exact Or.inr (.inl rfl) | exact Or.inr (.inr rfl))(hd:(x == ("__debug__":Str))=false:=by decide)
 (hcd:(x == ("__classdict__":Str))=false:=by decide):PE X (.Name x pos) (Y0 i):=JnM hN hv hd hcd
end

noncomputable def Same(H H':Hp):Prop:=∀b o,H b=some o->H' b=some o
theorem Same.refl(H:Hp):Same H H:=fun _ _ h=>h
theorem Same.trans{H H1 H2:Hp}(a:Same H H1)(b:Same H1 H2):Same H H2:=fun c o h=>b c o (a c o h)
theorem Same.free{H H':Hp}(e:Same H H'){l:Qd}(h:H' l=Option.none):H l=Option.none:=by
 cases q:H l with
 | none=>rfl
 | some o=>rw[e l o q] at h;cases h
theorem Same.seq{K:Qo}{H H':Hp}{a:Qd}{xs:List V}(e:Same H H')(h:SqL K H a xs):SqL K H' a xs:=by
 rcases h with (h|⟨o,h⟩)|h
 ·exact .inl (.inl (e _ _ h))
 ·exact .inl (.inr ⟨o,e _ _ h⟩)
 ·exact .inr h

end L2

namespace L2
open PySem PySem.Spec PyProof.Rows

section
variable{κ:Type}[DecidableEq κ]
noncomputable def Uo(kvs:List (κ×V))(k:κ):Option V:=(kvs.find? fun kv=>decide (kv.1=k)).map (·.2)
noncomputable def UL(kvs:List (κ×V))(k:κ)(v:V):List (κ×V) :=
 if (kvs.any fun kv=>decide (kv.1=k))=true then kvs.map (fun kv=>if kv.1=k then(kv.1,v) else kv) else kvs++[(k,v)]
noncomputable def JlD(kvs:List (κ×V))(k:κ):List (κ×V):=kvs.filter fun kv=>decide (kv.1≠k)

theorem WF{p:κ×V}{r:List (κ×V)}{k:κ}(e:p.1=k):Uo (p::r) k=some p.2:=by simp[Uo,LP,e]
theorem WE{p:κ×V}{r:List (κ×V)}{k:κ}(e:¬p.1=k):Uo (p::r) k=Uo r k:=by simp[Uo,LP,e]
theorem Jaq(k:κ):∀kvs:List (κ×V),(kvs.any fun kv=>decide (kv.1=k))=(Uo kvs k).isSome
 | []=>rfl
 | p::r=>by
  rw[Rk]
  by_cases e:p.1=k
  ·simp only[WF e,decide_eq_true e,Bool.true_or,Option.isSome_some]
  ·rw[WE e,decide_eq_false e,Bool.false_or];exact Jaq k r
theorem Vk(kvs:List (κ×V))(k:κ)(v:V):(UL kvs k v).length<=kvs.length+1:=by
 unfold UL
 grind
theorem Jh1{kvs:List (κ×V)}{k:κ}(v:V)(h:Uo kvs k=none):UL kvs k v=kvs++[(k,v)]:=by unfold UL;rw[Jaq,h];exact if_neg (by decide)

theorem RelO.isSome_eq{o:Option V}{u:Option Qc}(r:RelO o u):o.isSome=u.isSome:=by
 cases o with
 | none=>cases u with
  | none=>rfl
  | some _=>solve_by_elim
 | some _=>cases u with
  | none=>solve_by_elim
  | some _=>rfl
theorem RelO.getD{o:Option V}{u:Option Qc}{d:V}{d':Qc}(r:RelO o u)(rd:RelV d d'):RelV (o.getD d) (u.getD d'):=by
 cases o with
 | none=>cases u with
  | none=>exact rd
  | some _=>solve_by_elim
 | some _=>cases u with
  | none=>solve_by_elim
  | some _=>exact r

theorem KV.val{kvs:List (κ×V)}{vs:List (κ×Qc)}(r:KV kvs vs)(k:κ):RelO (Uo kvs k) (valueAt vs k):=by
 unfold KV at r
 induction r with
 | nil=>exact True.intro
 | @cons p q ps qs h t ih =>
  obtain⟨h1,h2⟩:=h
  by_cases e:p.1=k
  ·have e':q.1=k:=h1.symm.trans e
   have b:valueAt (q::qs) k=some q.2:=by simp[valueAt,LP,e']
   rw[WF e,b];exact h2
  grind[valueAt,WE]
theorem KV.any{kvs:List (κ×V)}{vs:List (κ×Qc)}(r:KV kvs vs)(k:κ):(kvs.any fun kv=>decide (kv.1=k))=vs.any fun kv=>decide (kv.1=k):=by
 unfold KV at r
 induction r with
 | nil=>rfl
 | cons h t ih=>simp_all
theorem KV.repl{kvs:List (κ×V)}{vs:List (κ×Qc)}(r:KV kvs vs)(k:κ){y:V}{u:Qc}(ry:RelV y u) :
 KV (kvs.map fun kv=>if kv.1=k then(kv.1,y) else kv) (vs.map fun kv=>if kv.1=k then(kv.1,u) else kv):=by
 unfold KV at r ⊢
 induction r with
 | nil=>exact .nil
 | @cons p q ps qs h t ih =>
  rw[Gx,Gx];refine .cons ?_ ih
  lia
theorem KV.put{kvs:List (κ×V)}{vs:List (κ×Qc)}(r:KV kvs vs)(k:κ){y:V}{u:Qc}(ry:RelV y u):KV (UL kvs k y) (stored vs k u):=by
 unfold UL stored;rw[r.any k]
 by_cases e:(vs.any fun kv=>decide (kv.1=k))=true
 ·rw[if_pos e,if_pos e];exact r.repl k ry
 ·rw[if_neg e,if_neg e];exact Paired.snoc r ⟨rfl,ry⟩
theorem KV.drop{kvs:List (κ×V)}{vs:List (κ×Qc)}(r:KV kvs vs)(k:κ):KV (JlD kvs k) (without vs k):=by
 unfold KV at r ⊢;unfold JlD without
 induction r with
 | nil=>exact .nil
 | @cons p q ps qs h t ih =>
  obtain⟨h1,h2⟩:=h;rw[List.filter_cons,List.filter_cons]
  by_cases e:p.1=k
  ·simp_all
  ·have e':¬q.1=k:=fun z=>e (h1.trans z)
   have a:decide (p.1≠k)=true:=by simp[e]
   have b:decide (q.1≠k)=true:=by simp[e']
   rw[if_pos a,if_pos b];solve_by_elim
theorem KV.keys{kvs:List (κ×V)}{vs:List (κ×Qc)}(r:KV kvs vs):kvs.map (·.1)=vs.map (·.1):=by
 unfold KV at r
 induction r with
 | nil=>rfl
 | cons h t ih=>simp_all
theorem KV.length{kvs:List (κ×V)}{vs:List (κ×Qc)}(r:KV kvs vs):kvs.length=vs.length:=Mq r
end

theorem Jcu{P:Qm}{w:Qp}{k:Key}{u:Qc}(r:RelV (kV k) u):(JE P w).is k u=true:=by
 cases k with
 | inl i=>obtain⟨t,e⟩:=(show ∃t,u=Value.int i t from r);subst e;exact Jcz P w i t
 | inr x=>obtain⟨t,e⟩:=(show ∃t,u=Value.str x t from r);subst e;exact JcA P w x t
theorem WQ{P:Qm}{w:Qp}:∀{ks:List Key} {us:List Qc},Vals (ks.map kV) us->ItemsAre (JE P w) ks us
 | [],_,r=>by rw[MS] at r;cases r;exact .nil
 | k::ks,_,r=>by
  rw[Gx] at r
  cases r with
  | cons h t=>exact .cons (Jcu h) (WQ t)

noncomputable abbrev KT(H:Hp):List (List Key×V)->List (List Key×Qd×Qc)->Prop:=Paired fun p q=>p.1=q.1/\H q.2.1=some (.tup (p.1.map kV))/\RelV p.2 q.2.2
theorem KT.val{H:Hp}{kvs:List (List Key×V)}{xs:List (List Key×Qd×Qc)}(r:KT H kvs xs)(k:List Key):RelO (Uo kvs k) ((atKey xs k).map (·.2)):=by
 induction r with
 | nil=>exact True.intro
 | @cons p q ps qs h t ih =>
  obtain⟨h1,_,h2⟩:=h
  by_cases e:p.1=k
  ·have e':q.1=k:=h1.symm.trans e
   have b:atKey (q::qs) k=some q.2:=by simp[atKey,LP,e']
   rw[WF e,b];exact h2
  grind[atKey,WE]
theorem KT.repl{H:Hp}{kvs:List (List Key×V)}{xs:List (List Key×Qd×Qc)}(r:KT H kvs xs)(k:List Key){y:V}{u:Qc}(ry:RelV y u) :
 KT H (kvs.map fun kv=>if kv.1=k then(kv.1,y) else kv) (xs.map (putAt k u)):=by
 induction r with
 | nil=>exact .nil
 | @cons p q ps qs h t ih =>
  rw[Gx,Gx];refine .cons ?_ ih;obtain⟨h1,h2,h3⟩:=h;unfold putAt
  by_cases e:p.1=k
  ·rw[if_pos e,if_pos (h1.symm.trans e)];exact⟨h1,h2,ry⟩
  ·rw[if_neg e,if_neg (fun z=>e (h1.trans z))];exact⟨h1,h2,h3⟩
theorem KT.put{H:Hp}{kvs:List (List Key×V)}{xs:List (List Key×Qd×Qc)}(r:KT H kvs xs)(k:List Key){b:Qd}{y:V}{u:Qc}(hb:H b=some (.tup (k.map kV)))(ry:RelV y u) :
 KT H (UL kvs k y) (storedH xs k b u):=by
 have e:(kvs.any fun kv=>decide (kv.1=k))=(atKey xs k).isSome:=by rw[Jaq,(r.val k).isSome_eq,Option.isSome_map]
 unfold UL storedH;rw[e]
 by_cases q:(atKey xs k).isSome=true
 ·rw[if_pos q,if_pos q];exact r.repl k ry
 ·rw[if_neg q,if_neg q];exact Paired.snoc r ⟨rfl,hb,ry⟩
theorem KT.keeps{H H':Hp}{kvs:List (List Key×V)}{xs:List (List Key×Qd×Qc)}(r:KT H kvs xs)(ht:∀b ys,H b=some (.tup ys)->H' b=some (.tup ys)):KT H' kvs xs :=
 Paired.mapP r fun _ _ z=>⟨z.1,ht _ _ z.2.1,z.2.2⟩

section
variable{P:Qm}{w:Qp}{H:Hp}{h:QC}{a:Qd}
theorem Jii{u:HO}(ok:HOk P w H h)(e:Rd H a u):ObjOk P w H h a u:=e.ok ok
theorem Jcf{kvs:List (Key×V)}(ok:HOk P w H h)(e:Rd H a (.dK kvs)):kvs.length<=Qk/\(a == sysModules)=false/\∃vs,KV kvs vs/\h.DictOf (JE P w) a vs :=
 show ObjOk P w H h a (.dK kvs) from Jii ok e
theorem JlB{kvs:List (Key×V)}(ok:HOk P w H h)(e:H a=some (.dK kvs)):kvs.length<=Qk/\(a == sysModules)=false/\∃vs,KV kvs vs/\h.DictOf (JE P w) a vs:=Jcf ok (.inl e)
theorem Jbz{ks:List Key}(ok:HOk P w H h)(e:H a=some (.tup (ks.map kV))):(tupleKind (JE P w)).is h ks a:=by
 obtain⟨_,its,r,o,h1,h2,n,h3⟩:=(show ObjOk P w H h a (.tup (ks.map kV)) from ok a _ e)
 exact⟨o,its.toArray,n,h1,h2,h3,by simpa using WQ r⟩
theorem Jcg{kvs:List (List Key×V)}(ok:HOk P w H h)(e:Rd H a (.dT kvs)):kvs.length<=Qk/\(a == sysModules)=false ∧
 ∃xs,KT H kvs xs/\h.DictOfH (tupleKind (JE P w)) a xs:=by
 obtain⟨z,y,xs,r,o,es,ep,h1,h2,h3,h4,h5⟩:=(show ObjOk P w H h a (.dT kvs) from Jii ok e)
 refine⟨z,y,xs,r,o,es,ep,h1,h2,h3,h4,fun x hx=>?_,h5⟩
 have all:∀{l:List (List Key×V)} {m:List (List Key×Qd×Qc)},KT H l m->∀x∈m,(tupleKind (JE P w)).is h x.1 x.2.1:=by
  intro l m q
  induction q with
  | nil=>simp_all
  | @cons p q ps qs hq t ih =>
   intro x hx;rcases Qr.mp hx with e|hx
   ·subst e;exact Jbz ok (by rw[<- hq.1];exact hq.2.1)
   ·exact ih x hx
 exact all r x hx
theorem Jph{kvs:List (List Key×V)}(ok:HOk P w H h)(e:H a=some (.dT kvs)):kvs.length<=Qk/\(a == sysModules)=false ∧
 ∃xs,KT H kvs xs/\h.DictOfH (tupleKind (JE P w)) a xs:=Jcg ok (.inl e)
end

noncomputable def DGet(H:Hp)(a:Qd)(y:V)(r:Option V):Prop :=
 (∃kvs k,Rd H a (.dK kvs)/\y=kV k/\r=Uo kvs k)\/∃kvs k b,Rd H a (.dT kvs)/\y=.ref b/\H b=some (.tup (k.map kV))/\r=Uo kvs k
noncomputable def DPut(H:Hp)(a:Qd)(y v:V)(H':Hp):Prop :=
 (∃kvs k,H a=some (.dK kvs)/\y=kV k/\kvs.length<Qk/\H'=upd H a (.dK (UL kvs k v))) ∨
 ∃kvs k b,H a=some (.dT kvs)/\y=.ref b/\H b=some (.tup (k.map kV))/\kvs.length<Qk/\H'=upd H a (.dT (UL kvs k v))
theorem DGet.k{H:Hp}{a:Qd}{kvs:List (Key×V)}{k:Key}(e:H a=some (.dK kvs)):DGet H a (kV k) (Uo kvs k):=.inl ⟨kvs,k,.inl e,rfl,rfl⟩
theorem DGet.t{H:Hp}{a b:Qd}{kvs:List (List Key×V)}{k:List Key}(e:H a=some (.dT kvs))(eb:H b=some (.tup (k.map kV))):DGet H a (.ref b) (Uo kvs k):=.inr ⟨kvs,k,b,.inl e,rfl,eb,rfl⟩
theorem DPut.k{H:Hp}{a:Qd}{kvs:List (Key×V)}{k:Key}{v:V}(e:H a=some (.dK kvs))(hl:kvs.length<Qk):DPut H a (kV k) v (upd H a (.dK (UL kvs k v))):=.inl ⟨kvs,k,e,rfl,hl,rfl⟩
theorem DPut.t{H:Hp}{a b:Qd}{kvs:List (List Key×V)}{k:List Key}{v:V}(e:H a=some (.dT kvs))(eb:H b=some (.tup (k.map kV)))(hl:kvs.length<Qk) :
 DPut H a (.ref b) v (upd H a (.dT (UL kvs k v))):=.inr ⟨kvs,k,b,e,rfl,eb,hl,rfl⟩

section
variable{X:Cx}{pins:List (Qd×Obj)}{σ:St}{H:Hp}{s:Qe}{a:Qd}{y v:V}{u r:Qc}{o:Option V}{A:Qx}{E:Qc->Qe->Prop}

theorem Inv.big(I:Inv X pins σ H s):sysModules<s.heap.objs.size:=by have h:mainGlobals<s.heap.objs.size:=(I.mod.glob.keeps I.bk).lt;exact Go (by decide) h

theorem Jfu{Q:Qc->Qe->Prop}(hu:A.units+1<cLine)(I:Inv X pins σ H s)(g:DGet H a y (some v))(ry:RelV y u)(h:∀w' s',Inv X pins σ H s'->RelV v w'->Q w' s') :
 wpAny (model X.prog X.w) A (getItem (.ref a) u) Q E s:=by
 rcases g with ⟨kvs,k,e,ey,l⟩|⟨kvs,k,b,e,ey,eb,l⟩
 ·subst ey;obtain⟨z,hd,vs,rel,dd⟩:=Jcf I.hok e;obtain⟨w',hw,rw'⟩:=RelO.some_of (v:=v) (o:=valueAt vs k) (by rw[l];exact rel.val k);exact wpAny_getItem_of (Jcu ry) dd.mapOf hw (h w' _ (I.tok _) rw')
 ·subst ey;cases (show u=Value.ref b from ry);obtain⟨z,hd,xs,rel,dd⟩:=Jcg I.hok e;obtain⟨w',hw,rw'⟩:=RelO.some_of (v:=v) (o:=(atKey xs k).map (·.2)) (by rw[l];exact rel.val k);obtain⟨p,hp,hp2⟩:=QT.mp hw;refine wpAny_getItem_heap (tupleKind_room_in1 hu) (Jbz I.hok eb) dd hp ?_;rw[hp2];exact h w' _ (I.tok _) rw'
theorem Zk{h':QC}{t':Nat}{ob:HO}(I:Inv X pins σ H s)(mu:Mut (H a))(hs:Qu a s.heap h')(he:∃q,h'.get? a=some q)(new:ObjOk X.prog X.w (upd H a ob) h' a ob) :
 Inv X pins σ (upd H a ob) { s with heap:=h',toks:=t' } :=
 I.write (x:=a) (e:=a) mu (.inl rfl) (fun b q hb z=>(hs.2 b hb).trans z) he new
theorem JgX{P:Qm}{w:Qp}{H':Hp}{h':QC}{kvs:List (Key×V)}{vs:List (Key×Qc)}(z:kvs.length<=Qk)(hd:(a == sysModules)=false)(rel:KV kvs vs)(dd:h'.DictOf (JE P w) a vs) :
 ObjOk P w H' h' a (.dK kvs):=⟨z,hd,vs,rel,dd⟩
theorem Jfv{H':Hp}{Q:Unit->Qe->Prop}(hu:A.units+1<cLine)(I:Inv X pins σ H s)(g:DPut H a y v H')(ry:RelV y u)(rv:RelV v r)(h:∀s',Inv X pins σ H' s'->Q () s') :
 wpAny (model X.prog X.w) A (setItem (.ref a) u r) Q E s:=by
 rcases g with ⟨kvs,k,e,ey,l,eH⟩|⟨kvs,k,b,e,ey,eb,l,eH⟩
 ·subst ey eH;obtain⟨z,hd,vs,rel,dd⟩:=JlB I.hok e;have hz:vs.length<=Qk:=by rw[<- rel.length];exact z
  have hl:(UL kvs k v).length<=Qk:=by grind[Vk]
  refine wpAny_setItem_pairs (hsz:=hz) (Jcu ry) dd fun h' dd' hs=>h _ ?_
  have he:∃q,h'.get? a=some q:=let ⟨q,_,_,hq,_⟩:=dd';⟨q,hq⟩
  exact Zk I (by rw[e];exact True.intro) hs he (JgX hl hd (rel.put k rv) dd')
 ·subst ey eH;cases (show u=Value.ref b from ry);obtain⟨z,hd,xs,rel,dd⟩:=Jph I.hok e;have hz:xs.length<=Qk:=by rw[<- Mq rel];exact z
  have hl:(UL kvs k v).length<=Qk:=by grind[Vk]
  refine wpAny_setItem_heap (hsz:=hz) (tupleKind_room_in1 hu) (Jbz I.hok eb) dd fun h' dd' hs=>h _ ?_
  obtain⟨q,es,ep,hq,h2,h3,h4,_,h5⟩:=dd';refine Zk I (by rw[e];exact True.intro) hs ⟨q,hq⟩ ⟨hl,hd,_,(rel.put k eb rv).keeps fun c ys ec=>?_,q,es,ep,hq,h2,h3,h4,h5⟩
  grind[Jf]
end

section
variable{X:Cx}{pins:List (Qd×Obj)}{σ:St}{H:Hp}{s:Qe}{a:Qd}{kvs:List (Key×V)}{k:Key}{u:Qc}{A:Qx}{E:Qc->Qe->Prop}
end

noncomputable def JiW(i:QV):Prop:=∀ov iv,subscripted i false ov iv=operate [ov,iv] (getItem ov iv)
theorem Je2{prog:Qm}{w:Qp}{A:Qx}{E:Qc->Qe->Prop}{s:Qe}{env:Env}{value slice:QV}{pos:Pos}{T id:String}{Q:Qc->Qe->Prop}
 (hl:typeLookup (.type T) "__getitem__"=pure (some (.builtin id))) (hs:JiW slice)
 (h:wpAny (model prog w) A (eval value env) (fun o s₁=>wpAny (model prog w) A (eval slice env) (fun i s₂=>s₂.TypeIs o T/\wpAny (model prog w) A (getItem o i) Q E s₂) E s₁) E s) :
 wpAny (model prog w) A (eval (.Subscript value slice pos) env) Q E s:=by
 refine Subscript_ (G5 h (fun o s₁ h₁=>G5 h₁ (fun i s₂ h₂=>?_) fun _ _ x=>x) fun _ _ x=>x);obtain⟨hT,h₂⟩:=h₂;unfold subscriptTail;refine Qa ?_;rw[getitemInPython_of_ne hT.not_modules];refine Qa (GM hT hl ?_)
 have fin:wpAny (model prog w) A (subscripted slice false o i) (fun r s₃=>wpAny (model prog w) A (letTemporaryGo value o r >>= fun _=>pure r) Q E s₃) E s₂:=by rw[hs o i];exact wpAny_operating (G5 h₂ (fun r s₃ h₃=>Qa (wpAny_letTemporaryGo (Qf h₃))) fun _ _ x=>x)
 first
  | exact Qf (Qa fin)
  | exact Qa (Qf (Qa fin))
  | exact Qa fin

theorem Jce{X:Cx}{pins:List (Qd×Obj)}{σ:St}{H:Hp}{s:Qe}{a:Qd}{y:V}{o:Option V}(I:Inv X pins σ H s)(g:DGet H a y o):s.TypeIs (.ref a) "dict":=by
 rcases g with ⟨kvs,k,e,_,_⟩|⟨kvs,k,b,e,_,_,_⟩
 ·obtain⟨_,_,vs,_,dd⟩:=Jcf I.hok e;exact dd.typeIs
 ·obtain⟨_,_,xs,_,dd⟩:=Jcg I.hok e;exact dd.typeIs
noncomputable def JlW(td ty:TE):TE:=fun σ H Q=>td σ H fun x H1=>ty σ H1 fun y H2=>∃a v,x=.ref a/\DGet H2 a y (some v)/\Q v H2
noncomputable def Jim(td ty tv:TE):TS:=fun D σ H=>tv σ H fun v H1=>td σ H1 fun x H2=>ty σ H2 fun y H3=>∃a H4,x=.ref a/\DPut H3 a y v H4/\D.nx σ H4
section
variable{X:Cx}{o i e value:QV}{pos pos' tpos:Pos}{td ty tv:TE}
theorem Jkg(hu:X.A.units+1<cLine)(ho:PE X o td)(hi:PE X i ty)(hs:JiW i):PE X (.Subscript o i pos) (JlW td ty):=by intro pins s σ H Q I h;refine Je2 Me.lookup hs (thE (ho pins s σ H _ I h) fun u s1 x H1 I1 rx q1=>thE (hi pins s1 σ H1 _ I1 q1) fun iv s2 y H2 I2 ry zz=>?_);obtain⟨a,v,ex,g,q2⟩:=zz;subst ex;obtain rfl:u=Value.ref a:=rx;exact⟨Jce I2 g,Jfu hu I2 g ry fun w' s3 I3 rw'=>⟨v,H2,I3,rw',q2⟩⟩
theorem JbP(hu:X.A.units+1<cLine)(ho:PE X o td)(hi:PE X i ty)(hv:PE X value tv)(hs:swapsWith value (some (.Subscript o i pos')) pos.line X.env=pure false) :
 PS X (.Assign [.Subscript o i pos'] value pos) (Jim td ty tv):=by
 intro pins s σ H D I h;refine wpAny_Assign_Subscript (thE (hv pins s σ H _ I h) fun r s1 v H1 I1 rv q1=>thE (ho pins s1 σ H1 _ I1 q1) fun u s2 x H2 I2 rx q2=>thE (hi pins s2 σ H2 _ I2 q2) fun iv s3 y H3 I3 ry zz=>?_) hs;obtain⟨a,H4,ex,g,q3⟩:=zz;subst ex;obtain rfl:u=Value.ref a:=rx;exact Jfv hu I3 g ry rv fun s4 I4=>⟨σ,H4,I4,q3⟩
end

theorem JgW{P:Qm}{w:Qp}{H:Hp}(h:QC)(hb:sysModules<h.objs.size):ObjOk P w H (h.push { cls:=.type "dict",data:=.dict #[] }) h.objs.size (.dK []) :=
 ⟨Gm _,beq_eq_false_iff_ne.mpr (QL (Qw hb)),[],.nil,Heap.DictOf.new h⟩
noncomputable def JiC:TE:=fun _ H Q=>∀p,H p=none->Q (.ref p) (upd H p (.dK []))
section
variable{X:Cx}{pos:Pos}
theorem Wt:PE X (.Dict [] [] pos) JiC:=fun pins s σ H Q I h=>wpAny_Dict_empty ⟨.ref s.heap.objs.size,_,I.laid (a:=s.heap.objs.size) (o:=.dK []) (t':=s.toks) (fun _ _ q=>Qg _ q) (Qn _) (JgW s.heap I.big),rfl,h _ (I.hok.fresh (Qn _))⟩
end

structure M1 (X:Cx) (o:QV) (m:Str) (apos:Pos) (e:QV) (cpos:Pos):Prop where
 base:attributeBase o m X.env (eval o X.env)=eval o X.env
 few:((backTo cpos (starEach [e] X.env)).all (fun x=>!x.1) && (backToKw cpos (keywordEach [] X.env)).all (fun x=>x.1.isSome)
  && decide (([e]:List QV).length+([]:List Mj).length+(if ([]:List Mj).isEmpty then 0 else 1)<30))=true
 line:(apos.endLine == cpos.line)=true
 trees:backTo cpos (starEach [e] X.env)=[(false,eval e X.env)]
structure M2 (X:Cx) (o:QV) (m:Str) (apos:Pos) (e f:QV) (cpos:Pos):Prop where
 base:attributeBase o m X.env (eval o X.env)=eval o X.env
 few:((backTo cpos (starEach [e,f] X.env)).all (fun x=>!x.1) && (backToKw cpos (keywordEach [] X.env)).all (fun x=>x.1.isSome)
  && decide (([e,f]:List QV).length+([]:List Mj).length+(if ([]:List Mj).isEmpty then 0 else 1)<30))=true
 line:(apos.endLine == cpos.line)=true
 trees:backTo cpos (starEach [e,f] X.env)=[(false,eval e X.env),(false,eval f X.env)]

noncomputable def IsD(H:Hp)(a:Qd):Prop:=(∃kvs,Rd H a (.dK kvs))\/∃kvs,Rd H a (.dT kvs)
theorem Jby{X:Cx}{pins:List (Qd×Obj)}{σ:St}{H:Hp}{s:Qe}{a:Qd}(I:Inv X pins σ H s)(d:IsD H a) :
 s.TypeIs (.ref a) "dict"/\(∀b,Value.ref a=.ref b->∃ob,s.heap.get? b=some ob/\ob.dict=none)/\(a == sysModules)=false:=by
 rcases d with ⟨kvs,e⟩|⟨kvs,e⟩
 ·obtain⟨_,hd,vs,_,dd⟩:=Jcf I.hok e;refine⟨dd.typeIs,fun b q=>?_,hd⟩;cases q;obtain⟨ob,_,_,h1,h2,_⟩:=dd;exact⟨ob,h1,h2.2.1⟩
 ·obtain⟨_,hd,xs,_,dd⟩:=Jcg I.hok e;refine⟨dd.typeIs,fun b q=>?_,hd⟩;cases q;obtain⟨ob,_,_,h1,h2,_⟩:=dd;exact⟨ob,h1,h2.2.1⟩

section
variable{X:Cx}{pins:List (Qd×Obj)}{σ:St}{H:Hp}{s:Qe}{a:Qd}{y d:V}{u r:Qc}{o:Option V}{A:Qx}{E:Qc->Qe->Prop}
theorem Jmf{Q:Qc->Qe->Prop}(hu:A.units+1<cLine)(I:Inv X pins σ H s)(g:DGet H a y o)(ry:RelV y u)(rd:RelV d r)(h:∀w' s',Inv X pins σ H s'->RelV (o.getD d) w'->Q w' s') :
 wpAny (model X.prog X.w) A (call (.builtin "dict.get") [.ref a,u,r]) Q E s:=by
 rcases g with ⟨kvs,k,e,ey,l⟩|⟨kvs,k,b,e,ey,eb,l⟩
 ·subst ey;obtain⟨z,hd,vs,rel,dd⟩:=Jcf I.hok e;refine call_meetsIn Ly dd.typeIs MT (MC _ _ _) (meets_dict_get_default (JE X.prog X.w) a (Jcu ry) hd r) ⟨_,dd.mapOf,h _ _ (I.tok _) ?_⟩;rw[l];exact(rel.val k).getD rd
 ·subst ey;cases (show u=Value.ref b from ry);obtain⟨z,hd,xs,rel,dd⟩:=Jcg I.hok e;refine call_meetsIn Ly dd.typeIs MT (MC _ _ _) (meetsH_dict_get_default (tupleKind (JE X.prog X.w)) a b hd r) ⟨tupleKind_room_in1 hu,k,xs,Jbz I.hok eb,dd,h _ _ (I.tok _) ?_⟩;rw[l];exact(rel.val k).getD rd
end

noncomputable def JiB(td ty tx:TE):TE:=fun σ H Q=>td σ H fun x H1=>∃a,x=.ref a/\IsD H1 a/\ty σ H1 fun y H2=>tx σ H2 fun z H3=>∃o,DGet H3 a y o/\Q (o.getD z) H3
section
variable{X:Cx}{o e f:QV}{apos cpos:Pos}{td ty tx:TE}
theorem Ws(hu:X.A.units+1<cLine)(ho:PE X o td)(he:PE X e ty)(hf:PE X f tx)(m:M2 X o "get" apos e f cpos):PE X (.Call (.Attribute o "get" apos) [e,f] [] cpos) (JiB td ty tx):=by
 intro pins s σ H Q I h;refine wpAny_Call_method m.base m.few m.line Kz Ly PySem.F.type_dict_get (thE (ho pins s σ H _ I h) fun u s1 x H1 I1 rx zz=>?_);obtain⟨a,ex,d,q1⟩:=zz;subst ex;obtain rfl:u=Value.ref a:=rx;obtain⟨t1,t2,_⟩:=Jby I1 d;refine⟨t1,t2,?_⟩;rw[m.trees];refine G6 rfl (K3 (Kl (thE (he pins s1 σ H1 _ I1 q1) fun iv s2 y H2 I2 ry q2=>Kl (thE (hf pins s2 σ H2 _ I2 q2) fun fv s3 z H3 I3 rz zz=>Lp ?_))))
 obtain⟨ov,g,q3⟩:=zz;exact Jmf hu I3 g ry rz fun w' s4 I4 rw'=>⟨_,H3,I4,rw',q3⟩
end

section
variable{X:Cx}{pins:List (Qd×Obj)}{σ:St}{H:Hp}{s:Qe}{a:Qd}{kvs:List (Key×V)}{A:Qx}{E:Qc->Qe->Prop}
end

section
variable{X:Cx}{pins:List (Qd×Obj)}{σ:St}{H:Hp}{s:Qe}{a:Qd}{y:V}{u:Qc}{A:Qx}{E:Qc->Qe->Prop}
end
end L2

namespace L2
open PySem PySem.Spec PyProof.Rows

noncomputable def JgD(X:Cx)(ifs:List QV)(t:TT):Prop :=
 ∀(pins:List (Qd×Obj)) (s:Qe) (σ:St) (H:Hp) (Q:Bool->Hp->Prop),Inv X pins σ H s->t σ H Q ->
  wpAny (model X.prog X.w) X.A (forIn ifs true fun c r=>if r=true then do let ok <- isTrue c X.env (eval c X.env);pure (ForInStep.yield ok) else pure (ForInStep.yield r)) (TP X pins σ Q) X.xe s
noncomputable def JoJ:TT:=fun _ H Q=>Q true H
theorem JN{X:Cx}:JgD X [] JoJ:=fun _ _ _ H _ I h=>wpAny_tests_nil ⟨H,I,h⟩
theorem Jaa{X:Cx}{c:QV}{t:TT}(h:PT X c t):JgD X [c] t:=fun pins s σ H Q I q=>wpAny_tests_one (h pins s σ H Q I q)

noncomputable def blk(X:Cx)(sc:LX)(cl:List (Str×Qd))(N':List Str)(C:Qd)(s:Qe)(H:Hp)(fp:List Qd):Cx where
 prog:=X.prog
 w:=X.w
 K:=X.K
 mg:=X.mg
 base:=X.base
 A:=X.A
 N:=N'
 s₀:=s
 H₀:=H
 env:=compEnvC sc cl C X.env
 outer:=X.stack
 stack:=X.stack
 ex:=fp
 fn:=fun _=>false
 calm:=X.calm
 pn:=[]
 xe:=fun _ _=>False

noncomputable def ZJ(imp:List (Option Nat))(σ:St):St:=imp.map fun o=>match o with
 | none=>none
 | some k=>(σ[k]?).join

structure Blk (X:Cx) (sc:LX) (cl:List (Str×Qd)) (N':List Str) (imp:List (Option Nat)):Prop where
 clos:closureFor sc X.env=pure cl
 kind:sc.kind=.function
 nocell:∀y∈sc.names,y.2≠.cell
 names:∀y∈sc.names,y.2=.local->sc.names.lookup y.1=some .local
 sub:∀p∈cl,X.env.cells.lookup p.1=some p.2
 has:∀y∈(relabel sc X.env).names,(y.2=.cell\/y.2=.free)->(cl.lookup y.1).isSome=true
 len:imp.length=N'.length
 im:∀p∈imp.zip N',∀k,p.1=some k->X.N[k]?=some p.2/\(X.env.scope.names.lookup p.2=some .cell\/X.env.scope.names.lookup p.2=some .free)/\((relabel sc X.env).names.lookup p.2=some .cell\/(relabel sc X.env).names.lookup p.2=some .free)

noncomputable def Je3(wi:TI)(g:TG)(tt:TT)(te:TE)(imp:List (Option Nat)):TE:=fun σ H Q=>wi σ H fun J H1=>∃W:Nat->Nat->List V->St->Hp->Prop,(∃m,W 0 m [] (ZJ imp σ) H1)/\∀i m ys σ' H',W i m ys σ' H' ->
 (J.stop i H'/\ys.length<=Qk/\∀D,H' D=none->Q (.ref D) (upd H' D (.lst ys))) ∨
 (J.go i H'/\ys.length<Qk/\∃N:List V->St->Hp->Prop,(∀ys' σ2 H2,N ys' σ2 H2->∃m',m'<m/\W (i+1) m' ys' σ2 H2) ∧
  ∀x H2,J.yld i H' x H2->g x σ' H2 fun σ2 H3=>tt σ2 H3 fun b H4=>if b=true then te σ2 H4 fun y H5=>N (ys++[y]) σ2 H5 else N ys σ2 H4)

section
variable{P:Qm}{w:Qp}{H:Hp}{h h':QC}
theorem HOk.sameBut{C:Qd}(x:HOk P w H h)(hC:H C=none)(k:∀b o,b≠C->h.get? b=some o->h'.get? b=some o):HOk P w H h':=fun a o e =>
 (x a o e).stay (fun b u hb q=>k b u (by lia) q) (fun _ q=>q) fun _ _ q=>q
theorem HOk.track{D:Qd}{o:HO}(x:HOk P w H h)(hD:H D=none)(new:ObjOk P w (upd H D o) h D o):HOk P w (upd H D o) h:=fun b u e=>by
 by_cases hb:b=D
 ·grind[Jl]
 ·rw[Jf hb] at e;exact(x b u e).stay (fun c v _ q=>q) (fun c q=>by rw[Jf (Jp q hD)];exact q) fun c xs q=>by rw[Jf (Jp q hD)];exact q
end

theorem U1{α:Type}{x:Str}{c:α}:∀{l:List (Str×α)},l.lookup x=some c->(x,c)∈l:=fun h=>Ke h

section
variable{X:Cx}{tg iter elt:QV}{ifs:List QV}{sc:LX}{cl:List (Str×Qd)}{N':List Str}{imp:List (Option Nat)}{pos:Pos}{wi:TI}{g:TG}{tt:TT}{te:TE}

theorem Blk.subL(B:Blk X sc cl N' imp):∀x c,cl.lookup x=some c->X.env.cells.lookup x=some c:=fun x c e=>B.sub (x,c) (U1 e)

theorem Ji4{pins:List (Qd×Obj)}{σ:St}{H:Hp}{s:Qe}{fp:List Qd}{h₁:QC}{C:Qd}(B:Blk X sc cl N' imp)(I:Inv X pins σ H s)(hf:∀b∈fp,FpOk X pins H b)(hfo:∀b∈fp,∃o,s.heap.get? b=some o)
 (hC:s.heap.objs.size<C) (old:∀b o,s.heap.get? b=some o->h₁.get? b=some o) (ns:h₁.Ns C fun _=>none) :
 Inv (blk X sc cl N' C s H fp) [] (ZJ imp σ) H { s with heap:=h₁,toks:=s.toks }:=by
 have hlt:∀b∈fp,b<s.heap.objs.size:=fun b hb=>let ⟨_,e⟩:=hfo b hb;Qj e
 have clt:∀x c,X.env.cells.lookup x=some c->c<s.heap.objs.size:=fun x c e=>let ⟨_,q⟩:=I.cell x c e;q.lt
 have ok:(blk X sc cl N' C s H fp).Ok:={
  mod:=I.ok.mod
  kind:=B.kind
  glob:=I.ok.glob
  blt:=I.ok.blt
  above:=Gk hC
  inj:=fun x y c h1 h2=>I.ok.inj x y c (B.subL x c h1) (B.subL y c h2)
  has:=fun x hx=>by
   have hx':(relabel sc X.env).names.lookup x=some .cell\/(relabel sc X.env).names.lookup x=some .free:=hx
   have:(cl.lookup x).isSome=true:=by
    rcases hx' with z|z
    ·exact B.has (x,.cell) (U1 z) (.inl rfl)
    ·exact B.has (x,.free) (U1 z) (.inr rfl)
   exact Lg.mp this
  cab:=fun x c z=>nomatch z
  hd:=I.ok.hd
  frames:=I.ok.frames
  stk:=.inl rfl
  exf:=fun b hb=>⟨Qw (Go (hlt b hb) hC),fun x c e=>(hf b hb).2.2.2.2.1 x c (B.subL x c e)⟩
  bs:=I.bs
  bsz:=QJ I.ok.bsz I.sz
  noex:=fun b o e hb=>by
   rcases(hf b hb).2.2.2.1 with z|z
   ·exact I.ok.noex b o e z
   ·exact absurd (QN (Qj e) (QJ I.ok.bsz z)) (Gv _)
  exfs:=fun b hb z=>by
   rcases Qr.mp (I.stkSub b z) with q|q
   ·exact(hf b hb).2.1 q
   ·exact(hf b hb).2.2.1 q
  funs:=I.stack
  frf:=I.stkFree }
 refine⟨ok,rfl,I.bare,Un.kept old,⟨_,ns,fun i x v h1 h2 h3=>?_⟩,fun x c e=>?_,I.hok.fresh (Gk hC),fun x c e=>I.freeC x c (B.subL x c e),fun p hp=>absurd (show p∈([]:List (Qd×Obj)) from hp) (by simp),I.hok.kept old,?_⟩
 ·have h1':N'[i]?=some x:=h1
  have h2':(imp.map fun o=>match o with|none=>none|some k=>(σ[k]?).join)[i]?=some (some v):=h2;rw[Qy] at h2'
  cases e:imp[i]? with
  | none=>simp_all
  | some q =>
   rw[e] at h2'
   cases q with
   | none=>cases h2'
   | some k =>
    have h2'':(σ[k]?).join=some v:=Q6 h2'
    have hk:σ[k]?=some (some v):=by grind
    have hm:(some k,x)∈imp.zip N':=by refine QG (i:=i) ?_;rw[Mf];exact⟨e,h1'⟩
    obtain⟨b1,b2,b3⟩:=B.im _ hm k rfl;obtain⟨m,hn,hl⟩:=I.loc;obtain⟨u,r,l⟩:=hl k x v b1 hk (b2.elim (fun z=>.inr (.inl z)) fun z=>.inr (.inr z));refine⟨u,r,.inr ⟨b3,?_⟩⟩
    have hc:∃c,X.env.cells.lookup x=some c/\s.heap.IsCell c (some u):=by
     rcases l with ⟨z,_⟩|⟨_,z⟩
     ·have z':X.env.scope.names.lookup x=some .local:=z
      simp_all
     ·exact z
    obtain⟨c,hc,oc,ho,hd⟩:=hc;obtain⟨c',hc'⟩:=ok.has x b3;have e2:=B.subL x c' hc';rw[hc] at e2;cases e2;exact⟨c,hc',oc,old c oc ho,hd⟩
 ·obtain⟨v,o,ho,hd⟩:=I.cell x c (B.subL x c e);exact⟨v,o,old c o ho,hd⟩
 ·show(imp.map _).length=N'.length;rw[QB];exact B.len

theorem Ji3{pins pn:List (Qd×Obj)}{σ σ':St}{H2 H':Hp}{s2 s4:Qe}{fp:List Qd}{C D:Qd}{Cs:Qd}{ys:List V}{its:List Qc}{k:Nat}{h':QC}(I2:Inv X pins σ H2 s2)(f2:∀b∈fp,FpOk X pins H2 b)
 (I5:Inv (blk X sc cl N' C s2 H2 fp) pn σ' H' s4) (hC:s2.heap.objs.size<C) (hD:H' D=none) (hDs:s2.heap.objs.size<=D) (hDC:D≠C) (eD:s4.heap.get? D=some { cls:=.type "list",data:=.seq its.toArray k })
 (rv:Vals ys its) (hz:ys.length<=Qk) (hsb:Qu C s4.heap h'):Inv X pins σ (upd H' D (.lst ys)) { s4 with heap:=h' }:=by
 have U:Un (frs X.stack) fp H2 H' s2.heap s4.heap:=I5.base
 have kk:∀b o,b≠C->s4.heap.get? b=some o->h'.get? b=some o:=hsb.extBut
 have hC':H' C=none:=I5.free
 have ok1:HOk X.prog X.w H' h':=HOk.sameBut (C:=C) I5.hok hC' kk
 have ok2:HOk X.prog X.w (upd H' D (.lst ys)) h':=ok1.track hD ⟨hz,its,k,rv,kk _ _ hDC eD⟩
 have lt:∀b o,s2.heap.get? b=some o->b≠C/\b≠D:=fun b o e=>⟨Qw (Go (Qj e) hC),Qw (QN (Qj e) hDs)⟩
 refine I2.call' (s':={ s4 with heap:=h' }) (ch:=fp) I5.os ⟨fun b o e n hb hx=>kk b o (lt b o e).1 (U.keep b o e n hb hx),fun b o e n hb hx=>?_,fun b o e n hx=>?_,fun b o e hx=>?_,fun b xs e=>?_,fun b o u e=>?_,fun b ps l c z e=>?_⟩ ok2 I5.bare
  fun b hb=>⟨(f2 b hb).2.2.2.1,(f2 b hb).2.1,(f2 b hb).2.2.2.2.1,(f2 b hb).2.2.2.2.2⟩
 ·obtain⟨sl,q⟩:=U.slot b o e n hb hx;exact⟨sl,kk b _ (lt b o e).1 q⟩
 ·rw[Jf (lt b o e).2];exact U.free b o e n hx
 ·obtain⟨o',q⟩:=U.there b o e hx;exact⟨o',kk b o' (lt b o e).1 q⟩
 ·have q:=U.tups b xs e;rw[Jf (Jp q hD)];exact q
 ·have q:=U.frzs b o u e;rw[Jf (Jp q hD)];exact q
 ·have q:=U.tbls b ps l c z e;rw[Jf (Jp q hD)];exact q

noncomputable def Jo3(g:TG)(tt:TT)(te:TE)(imp:List (Option Nat))(σ:St)(Q:VK)(J:It)(H1:Hp):Prop:=∃W:Nat->Nat->List V->St->Hp->Prop,(∃m,W 0 m [] (ZJ imp σ) H1)/\∀i m ys σ' H',W i m ys σ' H' ->
 (J.stop i H'/\ys.length<=Qk/\∀D,H' D=none->Q (.ref D) (upd H' D (.lst ys))) ∨
 (J.go i H'/\ys.length<Qk/\∃N:List V->St->Hp->Prop,(∀ys' σ2 H2,N ys' σ2 H2->∃m',m'<m/\W (i+1) m' ys' σ2 H2) ∧
  ∀x H2,J.yld i H' x H2->g x σ' H2 fun σ2 H3=>tt σ2 H3 fun b H4=>if b=true then te σ2 H4 fun y H5=>N (ys++[y]) σ2 H5 else N ys σ2 H4)
theorem JaP{pins:List (Qd×Obj)}{σ:St}{Q:VK}{itv:Qc}{s2:Qe}{RR:Qc->Qd->L9->Qe->Prop}{E:Qc->Qe->Prop}(hc:X.calm=true)(B:Blk X sc cl N' imp)
 (hg:∀C s H fp,PG (blk X sc cl N' C s H fp) tg g) (ht:∀C s H fp,JgD (blk X sc cl N' C s H fp) ifs tt) (he:∀C s H fp,PE (blk X sc cl N' C s H fp) elt te)
 (h2:PIE X pins σ tg (Jo3 g tt te imp σ Q) itv s2)
 (fin:∀(C D:Qd) (s4:Qe) (H':Hp) (ys:List V) (m:Str->Option Qc),s2.heap.objs.size<C->s4.heap.Ns C m->H' C=none->(∀h',Qu C s4.heap h'->Inv X pins σ H' { s4 with heap:=h' })->Q (.ref D) H'->RR (.ref D) C (.ok .next) s4) :
 wpAny (model X.prog X.w) X.A (newList []) (fun acc s₃=>wpAny (model X.prog X.w) X.A (newFunctionEnv sc X.env.globals cl [] X.env.qual none .none (some X.env)) (fun cenv s₄=>codeAny (model X.prog X.w) X.A (.compStart (.ListComp elt [⟨tg,iter,ifs,0⟩] sc pos) 0 itv acc { cenv with scope:=relabel sc X.env }) (RR acc cenv.locals) s₄) E s₃) E s2:=by
 obtain⟨it,fp,tn,J,H2,e,I2,T,st2,f2,W,⟨m0,w0⟩,turn⟩:=h2;subst e;refine QO (wpAny_newFunctionEnv B.nocell (by intro y hy;simp at hy) (fun h₁ hns₁ hsb₁=>?_) B.kind);dsimp only at hns₁ hsb₁ ⊢
 generalize hG:s2.heap.push { cls:=.type "list",dict:=none,data:=.seq ([]:List Qc).toArray }=G at hns₁ hsb₁ ⊢
 have hCs:G.objs.size=s2.heap.objs.size+1:=by rw[<- hG,Ge]
 have hC:s2.heap.objs.size<G.objs.size:=by rw[hCs];exact GO _
 have below:∀b,b<s2.heap.objs.size->b≠G.objs.size:=fun b hb=>Qw (Go hb hC)
 have old:∀b o,s2.heap.get? b=some o->h₁.get? b=some o:=fun b o e=>hsb₁.extBut b o (below b (Qj e)) (Qg _ (hG▸Qg _ e))
 have hD1:h₁.get? s2.heap.objs.size=some { cls:=.type "list",data:=.seq ([]:List Qc).toArray }:=hsb₁.extBut _ _ (Qw hC) (Qg _ (hG▸Qh _ rfl))
 have fpo:∀b∈fp,∃o,s2.heap.get? b=some o:=fun b hb=>let ⟨o,e,_⟩:=T.obj 0 _ st2 b hb;⟨o,e⟩
 have I4:=Ji4 B I2 f2 fpo hC old (show h₁.Ns G.objs.size fun _=>none from hns₁)
 -- the records of the block: the list that grows,the iterator's
 have stD:∀{H':Hp} {pn:List (Qd×Obj)},(∀b∈s2.heap.objs.size::fp,H' b=none)->(∀p∈pn,p.1∉s2.heap.objs.size::fp)->∀b∈s2.heap.objs.size::fp,FpOk (blk X sc cl N' G.objs.size s2 H2 fp) pn H' b:=fun {H' pn} hn hp b hb=>by
  have hp':∀p∈([]++pn:List (Qd×Obj)),p.1≠b:=fun p z q=>hp p (by simpa using z) (q▸hb)
  rcases Qr.mp hb with z|z
  ·subst z;refine⟨hn _ hb,Qw hC,fun q=>?_,.inr (Qn _),fun x c e q=>?_,hp'⟩
   ·rcases Qr.mp (I2.stkSub _ q) with q|q
    ·exact absurd I2.lt (by simp_all)
    ·exact I2.nofs (Qn _) q
   ·obtain⟨v,qc⟩:=I2.cell x c (B.subL x c e);exact absurd qc.lt (by simp_all)
  ·refine⟨hn _ hb,below b (let ⟨_,e⟩:=fpo b z;Qj e),fun q=>?_,.inl z,fun x c e=>(f2 b z).2.2.2.2.1 x c (B.subL x c e),hp'⟩;rcases Qr.mp (I2.stkSub b q) with q|q
   ·exact(f2 b z).2.1 q
   ·exact(f2 b z).2.2.1 q
 have nDf:s2.heap.objs.size∉fp:=fun z=>let ⟨_,e⟩:=fpo _ z;absurd (Qj e) (Gv _)
 have loop:codeAny (model X.prog X.w) X.A (.compLoop (.ListComp elt [⟨tg,iter,ifs,0⟩] sc pos) 0 (.ref it) (.ref s2.heap.objs.size) (compEnvC sc cl G.objs.size X.env))
  (RR (.ref s2.heap.objs.size) G.objs.size) { s2 with heap:=h₁,toks:=s2.toks }:=by
  refine codeAny_loop rfl (fun n s'=>∃i ys its k σ' H',Inv (blk X sc cl N' G.objs.size s2 H2 fp) [] σ' H' s'/\tn i s'.heap/\(∀b∈s2.heap.objs.size::fp,H' b=none)/\Vals ys its/\s'.heap.get? s2.heap.objs.size=some { cls:=.type "list",data:=.seq its.toArray k }/\W i n ys σ' H') ?_ m0
   ⟨0,[],[],0,_,H2,I4,T.keep _ _ _ st2 (fun b _ o e=>old b o e),fun b hb=>?_,.nil,hD1,w0⟩
  ·rintro n s3 ⟨i,ys,its,k,σ3,H3,I3,st3,fr3,rv3,hD3,w3⟩;have fr3':∀b∈fp,FpOk (blk X sc cl N' G.objs.size s2 H2 fp) [] H3 b:=fun b hb=>stD (pn:=[]) fr3 (fun p z=>nomatch z) b (Qq _ hb)
   show wpAny _ X.A ((compTurn (.ListComp elt [⟨tg,iter,ifs,0⟩] sc pos) 0 (.ref it) (.ref s2.heap.objs.size) (compEnvC sc cl G.objs.size X.env)).onRaise (fun x=>do noteFrame x (compEnvC sc cl G.objs.size X.env);theTreesLotGoes x)) _ _ s3;refine wpAny_noted (wpAny_noRaise ?_);rw[compTurn_list];refine Qa (wpAny_standAt (Qa ?_))
   have fD:=stD (pn:=[]) fr3 (fun p z=>nomatch z) s2.heap.objs.size QD
   have hDH:H3 s2.heap.objs.size=none:=fr3 _ QD
   have I3p:Inv (blk X sc cl N' G.objs.size s2 H2 fp) [(s2.heap.objs.size,{ cls:=.type "list",data:=.seq its.toArray k })] σ3 H3 s3:=I3.pins_of fun p hp=>by
    have e:p=(s2.heap.objs.size,{ cls:=.type "list",data:=.seq its.toArray k }):=by simpa using hp
    subst e;exact⟨hD3,hDH,fD.2.1,fD.2.2.1,fun v z=>by cases z⟩
   have pfp:∀p∈[(s2.heap.objs.size,({ cls:=.type "list",data:=.seq its.toArray k }:Obj))],p.1∉fp:=fun p hp=>by simp_all
   have fpP:∀{H':Hp},(∀b∈fp,H' b=none)->∀b∈fp,FpOk (blk X sc cl N' G.objs.size s2 H2 fp) [(s2.heap.objs.size,({ cls:=.type "list",data:=.seq its.toArray k }:Obj))] H' b:=fun {H'} hn b hb =>
    have f:=stD (pn:=[]) fr3 (fun p z=>nomatch z) b (Qq _ hb)
    ⟨hn b hb,f.2.1,f.2.2.1,f.2.2.2.1,f.2.2.2.2.1,fun p hp q=>pfp p ((GL.mp hp).elim (fun z=>nomatch (show p∈([]:List (Qd×Obj)) from z)) id) (q▸hb)⟩
   rcases turn i n ys σ3 H3 w3 with ⟨stop,hz,q⟩|⟨go,hz,N,hN,step⟩
   ·refine thn (T.done (blk X sc cl N' G.objs.size s2 H2 fp) rfl rfl rfl hc i _ s3 σ3 H3 _ I3p (fpP fun b hb=>fr3 b (Qq _ hb)) st3 stop) fun r s4 ⟨hr,I5⟩=>?_
    subst hr;refine Qf ?_;obtain⟨m,hn,_⟩:=I5.loc;have eD:=(I5.pin (s2.heap.objs.size,{ cls:=.type "list",data:=.seq its.toArray k }) (by simp)).1;have hCf:H3 G.objs.size=none:=I5.free;exact fin G.objs.size s2.heap.objs.size s4 _ ys m hC hn (by rw[Jf (Q1 hC)];exact hCf) (fun h' hsb=>Ji3 (Cs:=0) I2 f2 I5 hC hDH (Qn _) (Qw hC) eD rv3 hz hsb) (q _ hDH)
   ·refine thn (T.item (blk X sc cl N' G.objs.size s2 H2 fp) rfl rfl rfl hc i _ s3 σ3 H3 _ I3p (fpP fun b hb=>fr3 b (Qq _ hb)) st3 go) fun r s4 ⟨u,hr,h4⟩=>?_
    subst hr;refine Qa (thn h4 fun _ s5 zz=>?_);obtain⟨x,H5,I5,r5,y5,st5,fr5⟩:=zz;have I5':=I5.pinned (fpP fr5) (T.obj _ _ st5);refine Qa (thn (hg G.objs.size s2 H2 fp _ s5 σ3 H5 x u _ I5' r5 (step x H5 y5)) fun _ s6 zz=>?_);obtain⟨σ6,H6,I6,q6⟩:=zz;refine Qa (thn (ht G.objs.size s2 H2 fp _ s6 σ6 H6 _ I6 q6) fun ok s7 zz=>?_);obtain⟨H7,I7,q7⟩:=zz
    -- what stays of the records
    have recs:∀{σ':St} {H':Hp} {s':Qe},Inv (blk X sc cl N' G.objs.size s2 H2 fp) ([(s2.heap.objs.size,({ cls:=.type "list",data:=.seq its.toArray k }:Obj))]++Jab fp s5.heap) σ' H' s' ->
     tn (i+1) s'.heap/\(∀b∈s2.heap.objs.size::fp,H' b=none)/\s'.heap.get? s2.heap.objs.size=some { cls:=.type "list",data:=.seq its.toArray k }:=fun {σ' H' s'} I'=>by
     have pd:=I'.pin (s2.heap.objs.size,{ cls:=.type "list",data:=.seq its.toArray k }) (by simp)
     have pf:∀b∈fp,∀o,s5.heap.get? b=some o->s'.heap.get? b=some o/\H' b=none:=fun b hb o e=>by have z:=I'.pin (b,o) (GF _ (GF _ (VT hb e)));exact⟨z.1,z.2.1⟩
     refine⟨T.keep _ _ _ st5 fun b hb o e=>(pf b hb o e).1,fun b hb=>?_,pd.1⟩;rcases Qr.mp hb with z|z
     ·subst z;exact pd.2.1
     ·obtain⟨o,e,d⟩:=T.obj _ _ st5 b z;exact(pf b z o e).2
    cases ok with
    | false=>obtain⟨m',hm,w7⟩:=hN _ _ _ (show N ys σ6 H7 from by simpa using q7);obtain⟨r1,r2,r3⟩:=recs I7;exact Qf ⟨rfl,m',hm,i+1,ys,its,k,σ6,H7,I7.pins_of (fun p hp=>nomatch hp),r1,r2,rv3,r3,w7⟩
    | true =>
     have q7':te σ6 H7 fun y H5=>N (ys++[y]) σ6 H5:=by simpa using q7
     refine Qa (Qa (thn (he G.objs.size s2 H2 fp _ s7 σ6 H7 _ I7 q7') fun y s8 ⟨y8,H8,I8,ry,q8⟩=>Qa ?_));obtain⟨r1,r2,r3⟩:=recs I8;have hl:=rv3.length;refine wpAny_list_append_plain (hsz:=by grind) ⟨k,r3⟩ fun h9 ⟨k9,hl9⟩ hs9=>Qf (Qf ?_)
     have hD8:H8 s2.heap.objs.size=none:=r2 _ QD
     have f8:=stD (pn:=[]) r2 (fun p z=>nomatch z) s2.heap.objs.size QD
     have I8':Inv (blk X sc cl N' G.objs.size s2 H2 fp) [] σ6 H8 s8:=I8.pins_of (fun p hp=>nomatch hp)
     have I9:Inv (blk X sc cl N' G.objs.size s2 H2 fp) [] σ6 H8 { s8 with heap:=h9 }:=I8'.turned (t':=s8.toks) (it:=s2.heap.objs.size) (fun b o hb e=>hs9.extBut b o hb e) hD8 f8.2.1 f8.2.2.2.1 f8.2.2.2.2.1 f8.2.2.2.2.2;obtain⟨m',hm,w8⟩:=hN _ _ _ q8;refine⟨rfl,m',hm,i+1,ys++[y8],its++[y],k9,σ6,H8,I9,?_,r2,rv3.append (.cons ry .nil),?_,w8⟩
     ·exact T.keep _ _ _ r1 fun b hb o e=>hs9.extBut b o (fun z=>nDf (z▸hb)) e
     ·rw[hl9];simp
  ·rcases Qr.mp hb with z|z
   ·subst z;exact I2.hok.fresh (Qn _)
   ·exact(f2 b z).1
 exact codeAny_compStart_list loop (T.self _ 0 _ _ _ (T.keep _ _ _ st2 fun b _ o e=>old b o e) loop)

theorem J0(hc:X.calm=true)(hi:PI X tg iter wi)(B:Blk X sc cl N' imp)
 (hg:∀C s H fp,PG (blk X sc cl N' C s H fp) tg g) (ht:∀C s H fp,JgD (blk X sc cl N' C s H fp) ifs tt) (he:∀C s H fp,PE (blk X sc cl N' C s H fp) elt te)
 (hs:∀x,foldedSetIterable iter X.env x=pure x:=by intro _;rfl):PE X (.ListComp elt [⟨tg,iter,ifs,0⟩] sc pos) (Je3 wi g tt te imp):=by
 intro pins s σ H Q I h;rw[eval_ListComp];refine wpAny_comprehension_free (use:=none) rfl hs B.clos B.kind B.names (thn (hi pins s σ H _ I h) fun v s1 h1=>thn h1 fun itv s2 h2=>?_);refine JaP (RR:=fun acc C=>compPost (model X.prog X.w) X.A X.xe none (EP X pins σ Q) acc C) hc B hg ht he h2 fun C D s4 H' ys m hC hn hCf hI q=>?_
 exact⟨m,hn,fun h' hsb=>⟨.ref D,H',hI h' hsb,rfl,q⟩⟩
theorem Jad{i:Nat}{x:Str}{pos' spos:Pos}(hN:X.N.Nodup)(hx1:X.N[i]?=some x)(hx2:Loc X.env.scope x)(hc:X.calm=true)(hi:PI X tg iter wi)(B:Blk X sc cl N' imp)
 (hg:∀C s H fp,PG (blk X sc cl N' C s H fp) tg g) (ht:∀C s H fp,JgD (blk X sc cl N' C s H fp) ifs tt) (he:∀C s H fp,PE (blk X sc cl N' C s H fp) elt te)
 (hsw:swapsWith (.ListComp elt [⟨tg,iter,ifs,0⟩] sc pos) (some (.Name x pos')) spos.line X.env=pure true) (hf:X.fn x=true\/X.env.scope.names.lookup x=some .local)
 (hs:∀x,foldedSetIterable iter X.env x=pure x:=by intro _;rfl):PS X (.Assign [.Name x pos'] (.ListComp elt [⟨tg,iter,ifs,0⟩] sc pos) spos) (Zh (Je3 wi g tt te imp) (YS i)):=by
 intro pins s σ H D I h;rw[exec_Assign_Name_used _ _ _ _ hsw];refine Qa (wpAny_standAt (Qa ?_));show wpAny _ X.A (do let _ <- comprehension (.ListComp elt [⟨tg,iter,ifs,0⟩] sc pos) sc X.env _ (newList []) false (eval iter X.env) (some (assign (.Name x pos') X.env))) _ _ s;refine Qa (G5 (wpAny_comprehension_free (use:=some (assign (.Name x pos') X.env)) (Q:=fun _ s'=>SP X pins D .next s') rfl hs B.clos B.kind B.names
  (thn (hi pins s σ H _ I h) fun v s1 h1=>thn h1 fun itv s2 h2=>?_)) (fun _ s' hq=>Qf (Qf hq)) fun _ _ e=>e)
 refine JaP (Q:=fun y H1=>YS i y σ H1 D.nx) (RR:=fun acc C=>compPost (model X.prog X.w) X.A X.xe (some (assign (.Name x pos') X.env)) (fun _ s'=>SP X pins D .next s') acc C) hc B hg ht he h2 fun C Dl s4 H' ys m hC hn hCf hI q=>?_
 obtain⟨it,fp,tn,J,H2,e,I2,_⟩:=h2;have I4:Inv X pins σ H' s4:=hI s4.heap (.refl ..);have neC:X.env.locals≠C:=Qw (Go I2.lt hC)
 have neCc:∀y c,X.env.cells.lookup y=some c->c≠C:=fun y c e=>by obtain⟨v,qc⟩:=I2.cell y c e;exact Qw (Go qc.lt hC)
 show wpAny _ X.A (assign (.Name x pos') X.env (.ref Dl)) _ _ s4;refine wpAny_assign_Name (Ja9 I4 hN hx1 hx2 (v:=.ref Dl) rfl (fun s5 I5 zz=>?_) hf);obtain⟨c0,hs5,hc0⟩:=zz
 have ne0:C≠c0:=by grind
 refine⟨m,hn.sameBut hs5 ne0,fun h' hsb=>⟨_,H',?_,q⟩⟩;refine I5.turned (t':=s5.toks) (it:=C) (fun b o hb e=>hsb.extBut b o hb e) hCf (QL neC) (.inr (Gk (GB I2.sz hC))) neCc fun p hp z=>?_
 have:=Qj (I2.pin p hp).1;rw[z] at this;exact absurd (Go this hC) (Gv _)
end
end L2

namespace L2
open PySem PySem.Spec PyProof.Rows

inductive Rep (K:Qo) (H:Hp):V->PyData->Prop
 | non:Rep K H .non .none
 | bl (b:Bool):Rep K H (.bl b) (.bool b)
 | int (i:Int):Rep K H (.int i) (.int i)
 | str (x:Str):Rep K H (.str x) (.str x)
 | tup {a:Qd} {xs:List V} {ds:List PyData}:SqT K H a xs->xs.length=ds.length->(∀(i:Nat) (x:V) (d:PyData),xs[i]?=some x->ds[i]?=some d->Rep K H x d)->Rep K H (.ref a) (.tuple ds)
 | lst {a:Qd} {xs:List V} {ds:List PyData}:SqL K H a xs->xs.length=ds.length->(∀(i:Nat) (x:V) (d:PyData),xs[i]?=some x->ds[i]?=some d->Rep K H x d)->Rep K H (.ref a) (.list ds)

noncomputable def RepL(K:Qo)(H:Hp)(xs:List V)(ds:List PyData):Prop :=
 xs.length=ds.length/\∀(i:Nat) (x:V) (d:PyData),xs[i]?=some x->ds[i]?=some d->Rep K H x d

section
variable{K:Qo}{H H':Hp}
theorem RepL.nil:RepL K H [] []:=⟨rfl,fun i x d e=>by simp at e⟩
theorem RepL.cons{x:V}{d:PyData}{xs:List V}{ds:List PyData}(h:Rep K H x d)(r:RepL K H xs ds):RepL K H (x::xs) (d::ds):=by
 refine⟨by simp[r.1],fun i y e h1 h2=>?_⟩
 cases i with
 | zero=>simp_all
 | succ i=>exact r.2 i y e (by simpa using h1) (by simpa using h2)
theorem RepL.append{xs ys:List V}{ds es:List PyData}(r:RepL K H xs ds)(q:RepL K H ys es):RepL K H (xs++ys) (ds++es):=by
 refine⟨by simp[r.1,q.1],fun i x d h1 h2=>?_⟩
 by_cases hi:i<xs.length
 ·rw[QA hi] at h1;rw[QA (by rw[<- r.1];exact hi)] at h2;exact r.2 i x d h1 h2
 ·rw[Q2 (by simp_all)] at h1;rw[Q2 (by rw[<- r.1];simp_all)] at h2;rw[<- r.1] at h2;exact q.2 _ x d h1 h2
theorem RepL.snoc{xs:List V}{ds:List PyData}{x:V}{d:PyData}(r:RepL K H xs ds)(h:Rep K H x d):RepL K H (xs++[x]) (ds++[d]):=r.append (.cons h .nil)
theorem RepL.get{xs:List V}{ds:List PyData}{i:Nat}{d:PyData}(r:RepL K H xs ds)(e:ds[i]?=some d):∃x,xs[i]?=some x/\Rep K H x d:=by
 have hi:=(Qi.mp e).1
 have hx:i<xs.length:=by rw[r.1];exact hi
 exact⟨xs[i],by simp[hx],r.2 i _ d (by simp[hx]) e⟩
theorem RepL.get'{xs:List V}{ds:List PyData}{i:Nat}{x:V}(r:RepL K H xs ds)(e:xs[i]?=some x):∃d,ds[i]?=some d/\Rep K H x d:=by
 have hi:=(Qi.mp e).1
 have hx:i<ds.length:=by rw[<- r.1];exact hi
 exact⟨ds[i],by simp[hx],r.2 i x _ e (by simp[hx])⟩
theorem Rep.tupL{a:Qd}{xs:List V}{ds:List PyData}(h:SqT K H a xs)(r:RepL K H xs ds):Rep K H (.ref a) (.tuple ds):=.tup h r.1 r.2
theorem Rep.lstL{a:Qd}{xs:List V}{ds:List PyData}(h:SqL K H a xs)(r:RepL K H xs ds):Rep K H (.ref a) (.list ds):=.lst h r.1 r.2
theorem Rep.tupI{v:V}{ds:List PyData}(r:Rep K H v (.tuple ds)):∃a xs,v=.ref a/\SqT K H a xs/\RepL K H xs ds:=by
 cases r with
 | tup h l q=>exact⟨_,_,rfl,h,l,q⟩
theorem Rep.lstI{v:V}{ds:List PyData}(r:Rep K H v (.list ds)):∃a xs,v=.ref a/\SqL K H a xs/\RepL K H xs ds:=by
 cases r with
 | lst h l q=>exact⟨_,_,rfl,h,l,q⟩
theorem Rep.intI{v:V}{i:Int}(r:Rep K H v (.int i)):v=.int i:=by cases r;rfl
theorem Rep.strI{v:V}{i:Str}(r:Rep K H v (.str i)):v=.str i:=by cases r;rfl
theorem Rep.blI{v:V}{i:Bool}(r:Rep K H v (.bool i)):v=.bl i:=by cases r;rfl
theorem Same.seqT{a:Qd}{xs:List V}(e:Same H H')(h:SqT K H a xs):SqT K H' a xs:=by
 rcases h with (h|⟨o,h⟩)|h
 ·solve_by_elim
 ·exact .inl (.inr ⟨o,e _ _ h⟩)
 ·exact .inr h
theorem Rep.mono{v:V}{d:PyData}(e:Same H H')(r:Rep K H v d):Rep K H' v d:=by
 induction r with
 | non=>exact .non
 | bl b=>exact .bl b
 | int i=>exact .int i
 | str x=>exact .str x
 | tup h l _ ih=>exact .tup (e.seqT h) l ih
 | lst h l _ ih=>exact .lst (e.seq h) l ih
theorem RepL.mono{xs:List V}{ds:List PyData}(e:Same H H')(r:RepL K H xs ds):RepL K H' xs ds:=⟨r.1,fun i x d h1 h2=>(r.2 i x d h1 h2).mono e⟩

noncomputable def SameEx(l:Qd)(H H':Hp):Prop:=∀b o,b≠l->H b=some o->H' b=some o
theorem SameEx.upd{l:Qd}{o:HO}:SameEx l H (upd H l o):=fun b o' hb e=>by rw[Jf hb];exact e
theorem Same.ex{H0:Hp}{l:Qd}(s:Same H0 H)(hn:H0 l=none)(e:SameEx l H H'):Same H0 H':=fun b o h=>e b o (Jp h hn) (s b o h)
theorem Same.new{p:Qd}{o:HO}(hn:H p=none):Same H (upd H p o):=fun b o' e=>by rw[Jf (Jp e hn)];exact e
theorem SameEx.sqT{l a:Qd}{ys xs:List V}(e:SameEx l H H')(hl:H l=some (.lst ys))(h:SqT K H a xs):SqT K H' a xs:=by
 rcases h with (h|⟨o,h⟩)|h
 ·exact .inl (.inl (e _ _ (JcB h hl (by intro z;cases z)) h))
 ·exact .inl (.inr ⟨o,e _ _ (JcB h hl (by intro z;cases z)) h⟩)
 ·exact .inr h
theorem Same.ex_trans{l:Qd}{H2:Hp}(s:Same H H')(e:SameEx l H' H2):SameEx l H H2:=fun b o hb h=>e b o hb (s b o h)
inductive NoLst:PyData->Prop
 | non:NoLst .none
 | bl (b:Bool):NoLst (.bool b)
 | int (i:Int):NoLst (.int i)
 | str (x:Str):NoLst (.str x)
 | tup {ds:List PyData}:(∀d∈ds,NoLst d)->NoLst (.tuple ds)
end

theorem Vals.get'{xs:List V}{us:List Qc}{i:Nat}{u:Qc}(h:Vals xs us)(e:us[i]?=some u):∃x,xs[i]?=some x/\RelV x u:=by
 induction h generalizing i with
 | nil=>simp at e
 | cons r _ ih =>
  cases i with
  | zero=>simp_all
  | succ i=>exact ih (i:=i) (by simpa using e)
theorem Vo{h:QC}:∀(us:List Qc) (ds:List PyData),us.length=ds.length->(∀(i:Nat) (u:Qc) (d:PyData),us[i]?=some u->ds[i]?=some d->∃as,Reads h u d as)->∃as,ReadsAll h us ds as
 | [],[],_,_=>⟨_,.nil⟩
 | [],_::_,e,_=>by simp at e
 | _::_,[],e,_=>by simp at e
 | u::us,d::ds,e,f=>by
  obtain⟨as,h1⟩:=f 0 u d rfl rfl;obtain⟨bs,h2⟩:=Vo us ds (by simpa using e) fun i v c q1 q2=>f (i+1) v c (by simpa using q1) (by simpa using q2)
  exact⟨_,.cons h1 h2⟩
section
variable{X:Cx}{pins:List (Qd×Obj)}{σ:St}{H:Hp}{s:Qe}
theorem Rep.reads{v:V}{d:PyData}(I:Inv X pins σ H s)(r:Rep X.K H v d):∀u,RelV v u->∃as,Reads s.heap u d as:=by
 induction r with
 | non=>intro u r;cases r;exact⟨_,.none⟩
 | bl b=>intro u r;cases r;exact⟨_,.bool b⟩
 | int i=>intro u r;obtain⟨t,rfl⟩:=r;exact⟨_,.int i t⟩
 | str x=>intro u r;obtain⟨t,rfl⟩:=r;exact⟨_,.str x t⟩
 | tup h l _ ih =>
  intro u r;cases r;obtain⟨its,rv,p,hz⟩:=I.tuple h;obtain⟨o,ho,hc,n,hd⟩:=p
  obtain⟨as,q⟩:=Vo (h:=s.heap) its _ (rv.length.symm.trans l) fun i u d h1 h2=>by obtain⟨x,e1,e2⟩:=rv.get' h1;exact ih i x d e1 h2 u e2
  exact⟨_,.tuple ho hc hd q⟩
 | lst h l _ ih =>
  intro u r;cases r;obtain⟨its,rv,p,hz⟩:=I.list h;obtain⟨o,ho,hc,n,hd⟩:=p.isList
  obtain⟨as,q⟩:=Vo (h:=s.heap) its _ (rv.length.symm.trans l) fun i u d h1 h2=>by obtain⟨x,e1,e2⟩:=rv.get' h1;exact ih i x d e1 h2 u e2
  exact⟨_,.list ho hc hd q⟩
end

section
variable{X:Cx}
noncomputable def JeO(K:Qo):R2:=fun x y H Q=>rI0 (fun i j=>.int (i+j)) x y H Q\/(∃i j,x=.str i/\y=.str j/\i.length+j.length<=Qk/\Q (.str (i++j)) H)\/Jp1 x y H Q
theorem Jka:OpR X (binaryOp .Add) (JeO X.K):=op_add.or (op_add_str.or Jnw)
noncomputable def Jp2(K:Qo):R2:=fun x y H Q=>∃d e,Rep K H x d/\Rep K H y e/\d.canLay0=true/\e.canLay0=true/\min d.depth e.depth<=60/\Q (.bl (LG d e)) H
noncomputable def Jp7(K:Qo):R2:=fun x y H Q=>∃d e,Rep K H x d/\Rep K H y e/\d.canLay0=true/\e.canLay0=true/\min d.depth e.depth<=60/\Q (.bl (!PyData.eqv d e)) H
theorem Jny(hu:X.A.units+64<cLine):OpR X (compareOp .Eq) (Jp2 X.K):=by intro pins s σ H x y v u Q I rx ry h;obtain⟨d,e,h1,h2,c1,c2,hd,q⟩:=h;obtain⟨as,r1⟩:=h1.reads I v rx;obtain⟨bs,r2⟩:=h2.reads I u ry;exact SeqAt.compareEq_reads r1 r2 c1 c2 (by lia) ⟨.bl _,H,I,rfl,q⟩
theorem JnC(hu:X.A.units+64<cLine):OpR X (compareOp .NotEq) (Jp7 X.K):=by intro pins s σ H x y v u Q I rx ry h;obtain⟨d,e,h1,h2,c1,c2,hd,q⟩:=h;obtain⟨as,r1⟩:=h1.reads I v rx;obtain⟨bs,r2⟩:=h2.reads I u ry;exact SeqAt.compareNe_reads r1 r2 c1 c2 (by omega) ⟨.bl _,H,I,rfl,q⟩
noncomputable def Jh3(K:Qo):R2:=fun x y H Q=>rEq x y H Q\/Jp2 K x y H Q
noncomputable def Jh8(K:Qo):R2:=fun x y H Q=>rNe x y H Q\/Jp7 K x y H Q
theorem Jnx(hu:X.A.units+64<cLine):OpR X (compareOp .Eq) (Jh3 X.K):=op_eq.or (Jny hu)
theorem JnB(hu:X.A.units+64<cLine):OpR X (compareOp .NotEq) (Jh8 X.K):=op_ne.or (JnC hu)
noncomputable def JdY(K:Qo):List V->Hp->VK->Prop:=fun xs H Q=>∃x n,xs=[x]/\Jo5 K x H n/\Q (.int n) H
theorem Jfm:CallR X (.builtin "len") (JdY X.K):=JgS
noncomputable def Vn(K:Qo):List V->Hp->VK->Prop:=fun xs H Q=>∃p ys,xs=[.ref p]/\((SqL K H p ys/\∀l,H l=none->Q (.ref l) (upd H l (.tup ys)))\/(SqT K H p ys/\Q (.ref p) H))
theorem Jcb:CallR X (.type "tuple") (Vn X.K):=Jau
noncomputable def JbS(K:Qo):List V->Hp->VK->Prop:=fun xs H Q=>∃p ys,xs=[.ref p]/\(SqL K H p ys\/SqT K H p ys)/\∀l,H l=none->Q (.ref l) (upd H l (.lst ys))
theorem Jdq:CallR X (.type "list") (JbS X.K):=Jbi
inductive TyS (K:Qo) (H:Hp):V->Qc->Prop where
 | of {x:V} {t:Qc} (h:TyOf K H x t):TyS K H x t
 | sqT {a:Qd} {xs:List V} (h:SqT K H a xs):TyS K H (.ref a) (.type "tuple")
 | sqL {a:Qd} {xs:List V} (h:SqL K H a xs):TyS K H (.ref a) (.type "list")
theorem ZL{pins:List (Qd×Obj)}{σ:St}{H:Hp}{s:Qe}{A:Qx}{E:Qc->Qe->Prop}{Q:Qc->Qe->Prop}{c:Qc}{b:Bool}{x:V}{u t:Qc}(I:Inv X pins σ H s)(rx:RelV x u)(ty:TyS X.K H x t)(e:kitOne X.K t c=some b)(h:∀tk,Q (.bool b) { s with toks:=tk }) :
 wpAny (model X.prog X.w) A (call (.builtin "isinstance") [u,c]) Q E s:=by
 cases ty with
 | of z=>exact JfO I rx z e h
 | @sqT a xs z=>cases (show u=Value.ref a from rx);obtain⟨its,_,p,_⟩:=I.tuple z;obtain⟨o,h1,h2,_⟩:=p;exact kia_one Rm I.kIn ⟨o,h1,h2⟩ e (fun z=>nomatch z) h
 | @sqL a xs z=>cases (show u=Value.ref a from rx);obtain⟨its,_,p,_⟩:=I.list z;obtain⟨o,h1,h2,_⟩:=p.isList;exact kia_one kitx_list I.kIn ⟨o,h1,h2⟩ e (fun z=>nomatch z) h
noncomputable def Jkz(K:Qo):List V->Hp->VK->Prop:=fun vs H Q=>∃x c t tc b,vs=[x,c]/\TyS K H x t/\(∀u,RelV c u->u=tc)/\kitOne K t tc=some b/\Q (.bl b) H
theorem JgR:CallR X (.builtin "isinstance") (Jkz X.K):=by intro pins s σ H xs us Q I r h;obtain⟨x,c,t,tc,b,rfl,ty,hc,e,q⟩:=h;obtain⟨u,w',rfl,r1,r2⟩:=Je9 r;cases hc w' r2;exact ZL I r1 ty e fun tk=>⟨.bl b,H,I.tok tk,rfl,q⟩
noncomputable def JnY:R2:=fun x y H Q=>y=.non/\Q (.bl (decide (x=.non))) H
noncomputable def Jh9:R2:=fun x y H Q=>y=.non/\Q (.bl (!decide (x=.non))) H
theorem Jkc:OpR X (compareOp .Is) JnY:=Jnz
theorem Wp:OpR X (compareOp .IsNot) Jh9:=Jke
noncomputable def JnZ:List V->Hp->VK->Prop:=fun xs H Q=>∃i j,xs=[.int i,.int j]/\Q (.int (if j>i then j else i)) H
noncomputable def Jn0:List V->Hp->VK->Prop:=fun xs H Q=>∃i j,xs=[.int i,.int j]/\Q (.int (if j<i then j else i)) H
theorem Jfo(hc:X.calm=true):CallR X (.builtin "max") JnZ:=Jfn hc
theorem UF(hc:X.calm=true):CallR X (.builtin "min") Jn0:=Jfp hc
noncomputable def Jlg(K:Qo)(ta:TE):TT:=fun σ H Q=>ta σ H fun x H1=>∃k,Jfh K x H1 k/\Q k H1
theorem JnV{a:QV}{ta:TE}(ha:PE X a ta)(he:∀whole,isTrue a X.env whole=(do let v <- whole;standAt a.pos;holding [v] (truthy v))):PT X a (Jlg X.K ta):=JhZ ha he
noncomputable def GV(mg:Str->Option Qc)(x:Str)(v:V):Prop:=∃u,mg x=some u/\RelV v u
theorem UI{x:Str}{v:V}{pos:Pos}(hg:Gl X x)(hm:GV X.mg x v)(hd:(x == ("__debug__":Str))=false:=by decide):PE X (.Name x pos) (tC v):=by obtain⟨u,h1,h2⟩:=hm;exact YB hg h1 h2 hd
end
theorem YX:bootBuiltins "len"=some (.builtin "len"):=by decide +kernel
theorem JC:bootBuiltins "isinstance"=some (.builtin "isinstance"):=by decide +kernel
theorem Jmb:bootBuiltins "max"=some (.builtin "max"):=by decide +kernel
theorem WK:bootBuiltins "min"=some (.builtin "min"):=by decide +kernel
theorem Ua:bootBuiltins "sum"=some (.builtin "sum"):=by decide +kernel
theorem Jma:bootBuiltins "any"=some (.builtin "any"):=by decide +kernel
theorem JaM:bootBuiltins "sorted"=some (.builtin "sorted"):=by decide +kernel
theorem Ji5:bootBuiltins "bool"=some (.type "bool"):=by decide +kernel
theorem Vz:bootBuiltins "list"=some (.type "list"):=by decide +kernel
theorem Zv:bootBuiltins "tuple"=some (.type "tuple"):=by decide +kernel
theorem JgM:bootBuiltins "zip"=some (.type "zip"):=by decide +kernel
theorem Jbh:bootBuiltins "enumerate"=some (.type "enumerate"):=by decide +kernel
theorem Jca:bootBuiltins "reversed"=some (.type "reversed"):=by decide +kernel
structure Cal (P:Qm) (w:Qp) (K:Qo) (mg:Str->Option Qc) (base:QC) (x:Str) (k:Nat) (ps:List Str) (sp:Sp):Prop where
 ex:∃(f:Qd) (fd:Qt),FnOk P w K mg base CX0 k f fd ps sp/\mg x=some (.ref f)/\keepIn K (.ref f)=true/\Binds K fd ps []
structure CalM (P:Qm) (w:Qp) (K:Qo) (mg:Str->Option Qc) (base:QC) (x:Str) (C:Qd) (k:Nat) (ps:List Str) (sp:Sp):Prop where
 ex:∃(f:Qd) (fd:Qt),Mk K C f/\FnOk P w K mg base CX0 k f fd ps sp/\mg x=some (.ref C)/\Binds K fd ps []
section
variable{X:Cx}{k:Nat}{C:Qd}{ps:List Str}{sp:Sp}{x:Str}{p pos:Pos}{e:QV}{es:List QV}{t:TA}
theorem Jk(c:Cal X.prog X.w X.K X.mg X.base x k ps sp)(hr:Room k X.A)(hg:Gl X x)(ha:PA X (e::es) t)(hdb:(x == ("__debug__":Str))=false:=by decide)
 (he:starEach (e::es) X.env=(false,eval e X.env)::starEach es X.env:=by rfl) (hpl:(backTo pos (starEach es X.env)).any (·.1)=false:=by rfl):PE X (.Call (.Name x p) (e::es) [] pos) (Za sp [] E0 t):=by
 obtain⟨f,fd,F,h1,h2,h3⟩:=c.ex;exact JeK F hr hg h1 h2 h3 .nil JlP ha hdb he hpl
theorem UJ(c:CalM X.prog X.w X.K X.mg X.base x C k ps sp)(hr:Room (k+1) X.A)(hg:Gl X x)(ha:PA X (e::es) t)(hdb:(x == ("__debug__":Str))=false:=by decide)
 (he:starEach (e::es) X.env=(false,eval e X.env)::starEach es X.env:=by rfl) (hpl:(backTo pos (starEach es X.env)).any (·.1)=false:=by rfl):PE X (.Call (.Name x p) (e::es) [] pos) (Je4 C sp [] E0 t):=by
 obtain⟨f,fd,M,F,h1,h3⟩:=c.ex;exact Jkh M F hr hg h1 h3 .nil JlP ha hdb he hpl
end

noncomputable def Jco(K:Qo)(tl:TE):TI:=fun σ H R=>JlI K tl σ H R\/JpA K tl σ H R
theorem JnO{X:Cx}{tg l:QV}{tl:TE}(hl:PE X l tl):PI X tg l (Jco X.K tl):=by
 intro pins s σ H R I h;rcases h with h|h
 ·exact Jkl hl pins s σ H R I h
 ·exact JnP hl pins s σ H R I h

theorem Jb7{X:Cx}{sc:LX}{N':List Str}{imp:List (Option Nat)}(h1:sc.kind=.function)
 (h2:(sc.names.all (fun y=>y.2 != .free && y.2 != .cell && (y.2 != .local || sc.names.lookup y.1 == some .local)) && imp.all (·.isNone) && (imp.length == N'.length))=true):Blk X sc [] N' imp:=by
 simp only[QU,Kj] at h2;obtain⟨⟨h2,h3⟩,h4⟩:=h2
 have nofree:∀y∈sc.names,y.2≠.free:=fun y hy=>by
  have:=(h2 y hy).1.1
  simpa using this
 have nocell:∀y∈sc.names,y.2≠.cell:=fun y hy=>by
  have:=(h2 y hy).1.2
  simpa using this
 refine⟨closureFor_none nofree,h1,nocell,fun y hy hl=>?_,(fun p hp=>nomatch hp),fun y hy hk=>?_,by simpa using h4,fun p hp k e=>?_⟩
 ·have:=(h2 y hy).2;rw[hl] at this
  simpa using this
 ·have:(relabel sc X.env).names=sc.names:=by
   unfold relabel;refine map_eq_self fun x hx=>?_
   obtain⟨n,q⟩:=x;have:(q == NameKind.free)=false:=by simpa using nofree _ hx
   simp[this]
  rw[this] at hy;rcases hk with z|z
  ·exact absurd z (nocell y hy)
  ·exact absurd z (nofree y hy)
 ·have:=h3 p.1 (Lj hp).1
  simp_all

section
variable{K:Qo}{σ:St}{H H1:Hp}{Q:VK}{i:Nat}{v:V}{ta tb te:TE}{r:R2}{D:Ends}{t u:TS}{c:TT}
theorem Jor(h:σ[i]?=some (some v))(q:Q v H):Y0 i σ H Q:=⟨v,h,q⟩
theorem Jsm(q:Q v H):tC v σ H Q:=q
theorem Jqf(q:ta σ H fun x H1=>tb σ H1 fun y H2=>r x y H2 Q):tOp r ta tb σ H Q:=q
theorem Jqi{r:V->Hp->VK->Prop}(q:ta σ H fun x H1=>r x H1 Q):tUn r ta σ H Q:=q
theorem Jqd{g:Int->Int->V}{a b:Int}(q:Q (g a b) H):rI0 g (.int a) (.int b) H Q:=⟨a,b,rfl,rfl,q⟩
theorem Jsn{C:Int->Int->Prop}{g:Int->Int->V}{a b:Int}(h:C a b)(q:Q (g a b) H):rI C g (.int a) (.int b) H Q:=⟨a,b,rfl,rfl,h,q⟩
theorem Jso{g:Int->V}{a:Int}(q:Q (g a) H):rU g (.int a) H Q:=⟨a,rfl,q⟩
theorem JkA{a b:Int}(q:Q (.int (a+b)) H):JeO K (.int a) (.int b) H Q:=.inl ⟨a,b,rfl,rfl,q⟩
theorem Jn7{a b:Int}(q:Q (.bl (decide (a=b))) H):Jh3 K (.int a) (.int b) H Q:=.inl ⟨rfl,by simp_all⟩
theorem Joi{a b:Int}(q:Q (.bl (!decide (a=b))) H):Jh8 K (.int a) (.int b) H Q:=.inl ⟨rfl,by simp_all⟩
theorem Jn8{a b:Str}(q:Q (.bl (decide (a=b))) H):Jh3 K (.str a) (.str b) H Q:=.inl ⟨rfl,by simp_all⟩
theorem Joj{a b:Str}(q:Q (.bl (!decide (a=b))) H):Jh8 K (.str a) (.str b) H Q:=.inl ⟨rfl,by simp_all⟩
theorem Joc{x:V}(q:Q (.bl (decide (x=.non))) H):JnY x .non H Q:=⟨rfl,q⟩
theorem JkK{x:V}(q:Q (.bl (!decide (x=.non))) H):Jh9 x .non H Q:=⟨rfl,q⟩
theorem Jig{a b:Int}(q:Q (.int (max a b)) H):JnZ [.int a,.int b] H Q:=⟨a,b,rfl,by grind⟩
theorem Jih{a b:Int}(q:Q (.int (min a b)) H):Jn0 [.int a,.int b] H Q:=⟨a,b,rfl,by lia⟩
theorem JkO{Qb:Bool->Hp->Prop}(q:ta σ H fun x H1=>∃k,Jfh K x H1 k/\Qb k H1):Jlg K ta σ H Qb:=q
theorem Jn9{f:Str}(q:ta σ H fun x H1=>∃a C dx fs v,x=.ref a/\H1 a=some (.ins C dx fs)/\Cls K C/\NoAttr K C f/\fs.lookup f=some v/\Q v H1):Jlf K ta f σ H Q:=q
theorem JkN{Qb:Bool->Hp->Prop}(q:te σ H fun x H'=>∃k,x=.bl k/\Qb k H'):Jdd te σ H Qb:=q
theorem Jqh{Qb:Bool->Hp->Prop}(q:te σ H fun x H'=>∃k,x=.bl k/\Qb k H'):tB te σ H Qb:=q
theorem Jn5{c':TT}{Qb:Bool->Hp->Prop}(q:c σ H fun b H1=>if b=true then c' σ H1 Qb else Qb false H1):JoF c c' σ H Qb:=q
theorem Jqg{c':TT}{Qb:Bool->Hp->Prop}(q:c σ H fun b H1=>if b=true then Qb true H1 else c' σ H1 Qb):tOr c c' σ H Qb:=q
theorem Jol{Qb:Bool->Hp->Prop}(q:c σ H fun b H1=>Qb (!b) H1):JoG c σ H Qb:=q
theorem JkL(q:te σ H fun x H1=>∃b,x=.bl b/\Q (.bl (!b)) H1):JrP te σ H Q:=q
theorem JkB(q:ta σ H fun x H1=>∃b,x=.bl b/\if b=true then tb σ H1 Q else Q (.bl false) H1):JiA ta tb σ H Q:=q
theorem Jom(q:ta σ H fun x H1=>∃b,x=.bl b/\if b=true then Q (.bl true) H1 else tb σ H1 Q):JsD ta tb σ H Q:=q
theorem Joa(q:c σ H fun b H1=>if b=true then ta σ H1 Q else tb σ H1 Q):tIf c ta tb σ H Q:=q
theorem Jop(q:t { D with nx:=u D } σ H):Jdc t u D σ H:=q
theorem Jn6{g:TG}(q:te σ H fun x H1=>g x σ H1 D.nx):Zh te g D σ H:=q
theorem Jif{Qs:St->Hp->Prop}(q:Qs (σ.set i (some v)) H):YS i v σ H Qs:=q
theorem Job(q:c σ H fun b H1=>if b=true then t D σ H1 else u D σ H1):Jea c t u D σ H:=q
theorem Jon(q:te σ H D.rt):Jgl te D σ H:=q
theorem JkD(q:te σ H fun _ H1=>D.nx σ H1):WD te D σ H:=q
theorem JkJ(q:D.nx σ H):Jba D σ H:=q
theorem JkC{tr:TA}{Ql:List V->Hp->Prop}(q:ta σ H fun x H1=>tr σ H1 fun xs H2=>Ql (x::xs) H2):Yf ta tr σ H Ql:=q
theorem Jok{Ql:List V->Hp->Prop}(q:Ql [] H):YZ σ H Ql:=q
theorem Jqc{r:List V->Hp->VK->Prop}{ts:TA}(q:ts σ H fun vs H1=>r vs H1 Q):tCB r ts σ H Q:=q
theorem Zp{sp:Sp}{E:XK}{ts:TA}(q:ts σ H fun vs H1=>sp vs H1 Q E):Za sp [] E ts σ H Q:=by
 have e:(fun vs H1=>sp (vs++[]) H1 Q E)=fun vs H1=>sp vs H1 Q E:=by simp_all
 show ts σ H fun vs H1=>sp (vs++[]) H1 Q E
 rw[e];exact q
noncomputable def Jgv(xs:List V)(H:Hp)(Q:VK):Prop:=xs.length<=Qk/\∀p,H p=none->Q (.ref p) (upd H p (.tup xs))
noncomputable def Jl4(xs:List V)(H:Hp)(Q:VK):Prop:=xs.length<=Qk/\∀p,H p=none->Q (.ref p) (upd H p (.lst xs))
theorem Joq{ts:TA}(q:ts σ H fun xs H1=>Jgv xs H1 Q):JoI ts σ H Q:=q
theorem Joh{ts:TA}(q:ts σ H fun xs H1=>Jl4 xs H1 Q):Jeb ts σ H Q:=q
theorem Jl8{xs:List V}(hl:xs.length<=Qk)(q:∀p H',H p=none->Same H H'->H' p=some (.tup xs)->Q (.ref p) H'):Jgv xs H Q:=⟨hl,fun p hp=>q p _ hp (.new hp) Jl⟩
theorem JkG{a:Qd}{xs:List V}(h:SqL K H a xs)(q:Q (.int xs.length) H):JdY K [.ref a] H Q:=⟨_,_,rfl,.inl ⟨xs,h,rfl⟩,q⟩
theorem JkI{a:Qd}{xs:List V}(h:SqT K H a xs)(q:Q (.int xs.length) H):JdY K [.ref a] H Q:=⟨_,_,rfl,.inr ⟨xs,h,rfl⟩,q⟩
theorem JkH{x:Str}(h:x.length<=Qk)(q:Q (.int x.length) H):JdY K [.str x] H Q:=⟨_,_,rfl,⟨h,rfl⟩,q⟩
theorem Jge{a:Qd}{xs:List V}(h:SqL K H a xs)(q:∀p H',H p=none->Same H H'->H' p=some (.tup xs)->Q (.ref p) H'):Vn K [.ref a] H Q:=⟨a,xs,rfl,.inl ⟨h,fun p hp=>q p _ hp (.new hp) Jl⟩⟩
theorem Joe{a:Qd}{xs:List V}{j:Int}{v:V}(h:SqL K H a xs)(e:atI xs j=some v)(q:Q v H):rIx K (.ref a) (.int j) H Q:=.inl ⟨a,xs,j,v,rfl,rfl,h,e,q⟩
theorem Jog{a:Qd}{xs:List V}{j:Int}{v:V}(h:SqT K H a xs)(e:atI xs j=some v)(q:Q v H):rIx K (.ref a) (.int j) H Q:=.inr (.inl ⟨a,xs,j,v,rfl,rfl,h,e,q⟩)
theorem Jof{z:Str}{j:Int}{c:Nat}(hz:z.length<=Qk)(e:atI z.cps.toList j=some c)(q:Q (.str ⟨#[c]⟩) H):rIx K (.str z) (.int j) H Q:=.inr (.inr ⟨z,j,c,rfl,rfl,hz,e,q⟩)
theorem Jod{x:V}{n:String}{t:Qc}{b:Bool}(ty:TyS K H x t)(e:kitOne K t (.type n)=some b)(q:Q (.bl b) H):Jkz K [x,.ty n] H Q:=⟨x,_,t,_,b,rfl,ty,fun _ r=>r,e,q⟩
theorem Jqe{T:String}{rm:V->List V->Hp->VK->Prop}{to:TE}{ts:TA}(q:to σ H fun x H1=>tyV K T x H1/\ts σ H1 fun xs H2=>rm x xs H2 Q):tBM K T rm to ts σ H Q:=q
theorem JkF{to ti:TE}{ts:Jo9}{Qs:St->Hp->Prop}(q:to σ H fun o H1=>ti σ H1 fun i H2=>ts o i v H2 fun H3=>Qs σ H3):Jsf to ti ts v σ H Qs:=q
theorem JeS{a:Qd}{xs:List V}{n:Nat}{ts:TGs}{Qs:St->Hp->Prop}(h:SqT K H a xs)(hl:xs.length=n)(q:ts xs σ H Qs):JfA K n ts (.ref a) σ H Qs:=⟨a,xs,rfl,h,hl,q⟩
theorem Jie{t:TG}{u:TGs}{x:V}{xs:List V}{Qs:St->Hp->Prop}(q:t x σ H fun σ' H'=>u xs σ' H' Qs):Jex t u (x::xs) σ H Qs:=⟨x,xs,rfl,q⟩
theorem JkE{Qs:St->Hp->Prop}(q:Qs σ H):JjF [] σ H Qs:=⟨rfl,q⟩
theorem JkM{f:Str}{tv:TE}(q:tv σ H fun y H1=>ta σ H1 fun x H2=>∃a C dx fs,x=.ref a/\H2 a=some (.ins C dx fs)/\Cls K C/\NoAttr K C f/\fs.length<1000/\D.nx σ (upd H2 a (.ins C dx (Vb f y fs)))):Jow K ta tv f D σ H:=q
theorem Jid{r':R2}{tc:TE}(q:ta σ H fun x H1=>tb σ H1 fun y H2=>r x y H2 fun z H3=>∃k,z=.bl k/\(if k=true then tc σ H3 fun w' H4=>r' y w' H4 Q else Q (.bl false) H3)):Jb3 r r' ta tb tc σ H Q:=q
theorem Jos{Qb:Bool->Hp->Prop}(q:Qb true H):JoJ σ H Qb:=q
theorem ifd{c A B:Prop}[Decidable c](h1:c->A)(h2:¬c->B):if decide c=true then A else B:=by simp_all
theorem ifT{b:Bool}{A B:Prop}(e:b=true)(h:A):if b=true then A else B:=by rw[if_pos e];exact h
theorem ifF{b:Bool}{A B:Prop}(e:b=false)(h:B):if b=true then A else B:=by simp_all

theorem Jgd{tl:TE}{g:TG}{a:Qd}{xs:List V}(hx:∀R:VK,R (.ref a) H1->tl σ H R)(hq:SqL K H1 a xs\/SqT K H1 a xs)(Pv:Nat->St->Hp->Prop)(h0:Pv 0 σ H1)(hS:∀i σ' H',Pv i σ' H'->Same H1 H')
 (hs:∀i x σ' H',xs[i]?=some x->Pv i σ' H'->g x σ' H' fun σ2 H2=>t { D with nx:=Pv (i+1),ct:=Pv (i+1),bk:=D.nx } σ2 H2) (hd:∀σ' H',Pv xs.length σ' H'->D.nx σ' H'):Jda (Jco K tl) g t D σ H:=by
 rcases hq with hq|hq
 ·exact .inl (hx _ ⟨a,rfl,⟨xs,hq⟩,Jhc (xs:=xs) Pv h0 (fun i σ' H' _ p=>(hS i σ' H' p).seq hq) hs hd⟩)
 ·exact .inr (hx _ ⟨a,rfl,⟨xs,hq⟩,JjC (xs:=xs) Pv h0 (fun i σ' H' _ p=>(hS i σ' H' p).seqT hq) hs hd⟩)
theorem Jep{J:It}{g:TG}{tt:TT}{imp:List (Option Nat)}{n:Nat}(hn:n<=Qk)(Pv:Nat->List V->St->Hp->Prop)(h0:Pv 0 [] (ZJ imp σ) H1)(hy:∀i ys σ' H',Pv i ys σ' H'->ys.length<=i)
 (hstop:∀ys σ' H',Pv n ys σ' H'->J.stop n H') (hgo:∀i ys σ' H',i<n->Pv i ys σ' H'->J.go i H')
 (hs:∀i ys x σ' H' H2,i<n->J.yld i H' x H2->Pv i ys σ' H'->g x σ' H2 fun σ2 H3=>tt σ2 H3 fun b H4=>if b=true then te σ2 H4 fun y H5=>Pv (i+1) (ys++[y]) σ2 H5 else Pv (i+1) ys σ2 H4)
 (hd:∀ys σ' H',Pv n ys σ' H'->∀p H2,H' p=none->Same H' H2->H2 p=some (.lst ys)->Q (.ref p) H2) :
 ∃W:Nat->Nat->List V->St->Hp->Prop,(∃m,W 0 m [] (ZJ imp σ) H1)/\∀i m ys σ' H',W i m ys σ' H' ->
  (J.stop i H'/\ys.length<=Qk/\∀D,H' D=none->Q (.ref D) (upd H' D (.lst ys))) ∨
  (J.go i H'/\ys.length<Qk/\∃N:List V->St->Hp->Prop,(∀ys' σ2 H2,N ys' σ2 H2->∃m',m'<m/\W (i+1) m' ys' σ2 H2) ∧
   ∀x H2,J.yld i H' x H2->g x σ' H2 fun σ2 H3=>tt σ2 H3 fun b H4=>if b=true then te σ2 H4 fun y H5=>N (ys++[y]) σ2 H5 else N ys σ2 H4):=by
 refine⟨fun i m ys σ' H'=>m=n-i/\i<=n/\Pv i ys σ' H',⟨n,by simp,Gm _,h0⟩,?_⟩;rintro i m ys σ' H' ⟨rfl,hi,p⟩;have hl:=hy i ys σ' H' p
 by_cases hlt:i<n
 ·exact .inr ⟨hgo i ys σ' H' hlt p,by lia,fun ys' σ2 H2=>Pv (i+1) ys' σ2 H2,fun ys' σ2 H2 p'=>⟨n-(i+1),by grind,rfl,hlt,p'⟩,fun x H2 y=>hs i ys x σ' H' H2 hlt y p⟩
 ·have e:i=n:=by lia
  subst e;exact .inl ⟨hstop ys σ' H' p,by exact QJ ‹_› ‹_›,fun q hq=>hd ys σ' H' p q _ hq (.new hq) Jl⟩
theorem JdZ{tl:TE}{g:TG}{tt:TT}{imp:List (Option Nat)}{a:Qd}{xs:List V}(hx:∀R:VK,R (.ref a) H1->tl σ H R)(hq:SqL K H1 a xs\/SqT K H1 a xs)(hn:xs.length<=Qk)(Pv:Nat->List V->St->Hp->Prop)
 (h0:Pv 0 [] (ZJ imp σ) H1) (hy:∀i ys σ' H',Pv i ys σ' H'->ys.length<=i) (hS:∀i ys σ' H',Pv i ys σ' H'->Same H1 H')
 (hs:∀i ys x σ' H',xs[i]?=some x->Pv i ys σ' H'->g x σ' H' fun σ2 H3=>tt σ2 H3 fun b H4=>if b=true then te σ2 H4 fun y H5=>Pv (i+1) (ys++[y]) σ2 H5 else Pv (i+1) ys σ2 H4)
 (hd:∀ys σ' H',Pv xs.length ys σ' H'->∀p H2,H' p=none->Same H' H2->H2 p=some (.lst ys)->Q (.ref p) H2):Je3 (Jco K tl) g tt te imp σ H Q:=by
 rcases hq with hq|hq
 ·refine .inl (hx _ ⟨a,rfl,⟨xs,hq⟩,Jep (n:=xs.length) hn Pv h0 hy (fun ys σ' H' p=>⟨xs,(hS _ _ _ _ p).seq hq,Qn _⟩) (fun i ys σ' H' hi p=>⟨xs,xs[i],(hS _ _ _ _ p).seq hq,by simp[hi]⟩) (fun i ys x σ' H' H2 hi y p=>?_) hd⟩);obtain⟨e,y⟩:=y;subst e;exact hs i ys x σ' _ (y xs ((hS _ _ _ _ p).seq hq)) p
 ·refine .inr (hx _ ⟨a,rfl,⟨xs,hq⟩,Jep (n:=xs.length) hn Pv h0 hy (fun ys σ' H' p=>⟨xs,(hS _ _ _ _ p).seqT hq,Qn _⟩) (fun i ys σ' H' hi p=>⟨xs,xs[i],(hS _ _ _ _ p).seqT hq,by simp[hi]⟩) (fun i ys x σ' H' H2 hi y p=>?_) hd⟩);obtain⟨e,y⟩:=y;subst e;exact hs i ys x σ' _ (y xs ((hS _ _ _ _ p).seqT hq)) p
end
end L2
namespace L2
open PySem PySem.Spec PyProof.Rows
section
variable{X:Cx}{K:Qo}{pos:Pos}
theorem JeH(hK:X.K=K):OpR X (binaryOp .Add) (JeO K):=hK▸Jka
theorem VW(hK:X.K=K)(hu:X.A.units+64<cLine):OpR X (compareOp .Eq) (Jh3 K):=hK▸Jnx hu
theorem VX(hK:X.K=K)(hu:X.A.units+64<cLine):OpR X (compareOp .NotEq) (Jh8 K):=hK▸JnB hu
theorem JY(hK:X.K=K):CallR X (.builtin "len") (JdY K):=hK▸Jfm
theorem W0(hK:X.K=K):CallR X (.type "tuple") (Vn K):=hK▸Jcb
theorem Zw(hK:X.K=K):CallR X (.type "list") (JbS K):=hK▸Jdq
theorem JaN(hK:X.K=K):CallR X (.builtin "isinstance") (Jkz K):=hK▸JgR
theorem JjN(hK:X.K=K):IxR X (rIx K):=hK▸JmX
theorem Yb{e:QV}{ta:TE}{f:Str}(hK:X.K=K)(he:PE X e ta)(hb:attributeBase e f X.env (eval e X.env)=eval e X.env):PE X (.Attribute e f pos) (Jlf K ta f):=hK▸JnK he hb
theorem Jks{o value:QV}{f:Str}{pos':Pos}{ta tv:TE}(hK:X.K=K)(ha:PE X o ta)(hv:PE X value tv)(hs:swapsWith value (some (.Attribute o f pos')) pos.line X.env=pure false):PS X (.Assign [.Attribute o f pos'] value pos) (Jow K ta tv f):=hK▸JnS ha hv hs
theorem Jkn{tg l:QV}{tl:TE}(hK:X.K=K)(hl:PE X l tl):PI X tg l (Jco K tl):=hK▸JnO hl
theorem Jy{es:List QV}{k:Nat}{t:TGs}{n:Nat}(hK:X.K=K)(hc:X.calm=true)(h:PGs X es t)(hn:(assignEach es X.env).length=n)(hst:(assignEach es X.env).findIdx? (·.1)=none):PG X (.Tuple es k pos) (JfA K n t):=hK▸JnN hc h hn hst
theorem YO{a:QV}{ta:TE}(hK:X.K=K)(ha:PE X a ta)(he:∀whole,isTrue a X.env whole=(do let v <- whole;standAt a.pos;holding [v] (truthy v))):PT X a (Jlg K ta):=hK▸JnV ha he
theorem YA{o e:QV}{es:List QV}{to:TE}{t:TA}{name:Str}{apos cpos:Pos}{T id:String}{r:V->List V->Hp->VK->Prop}(hK:X.K=K)(pa:PlainAttrs T)(slot:Slot T name id)(hty:typeOf (.builtin id)=pure (.type "method_descriptor"))(hm:MtR X id r)(ho:PE X o to)(ha:PA X (e::es) t)
 (hbase:attributeBase o name X.env (eval o X.env)=eval o X.env:=by rfl)
 (hfew:((backTo cpos (starEach (e::es) X.env)).all (fun x=>!x.1) && (backToKw cpos (keywordEach [] X.env)).all (fun x=>x.1.isSome)
  && decide ((e::es).length+([]:List Mj).length+(if ([]:List Mj).isEmpty then 0 else 1)<30))=true:=by rfl)
 (hline:(apos.endLine == cpos.line)=true:=by rfl) (hs:starEach (e::es) X.env=(false,eval e X.env)::starEach es X.env:=by rfl) (hplain:(backTo cpos (starEach es X.env)).any (·.1)=false:=by rfl) :
 PE X (.Call (.Attribute o name apos) (e::es) [] cpos) (tBM K T r to t):=hK▸JpY pa slot hty hm ho ha hbase hfew hline hs hplain
theorem JeJ{o:QV}{to:TE}{name:Str}{apos cpos:Pos}{T id:String}{r:V->List V->Hp->VK->Prop}(hK:X.K=K)(pa:PlainAttrs T)(slot:Slot T name id)(hty:typeOf (.builtin id)=pure (.type "method_descriptor"))(hm:MtR X id r)(ho:PE X o to)
 (hbase:attributeBase o name X.env (eval o X.env)=eval o X.env:=by rfl) (hline:(apos.endLine == cpos.line)=true:=by rfl):PE X (.Call (.Attribute o name apos) [] [] cpos) (Jle K T r to):=hK▸JnJ pa slot hty hm ho hbase hline
end
end L2

namespace LR
open PySem L2

theorem sz2{a b:V}:[a,b].length<=Qk:=by show 2<=Qk;decide
theorem JoK(K:Qo)(H:Hp)(k:Bool):Jfh K (.bl k) H k:=rfl
noncomputable abbrev Pr:=Int×Int
noncomputable def prD(p:Pr):PyData:=.tuple [.int p.1,.int p.2]
section
variable{K:Qo}{H H':Hp}
theorem Jkq{v:V}{p:Pr}(r:Rep K H v (prD p)):∃a,v=.ref a/\SqT K H a [.int p.1,.int p.2]:=by
 obtain⟨a,xs,rfl,h,l,q⟩:=r.tupI
 cases xs with
 | nil=>simp at l
 | cons x xs =>
 cases xs with
 | nil=>simp at l
 | cons y xs =>
 cases xs with
 | cons _ _=>simp at l
 | nil =>
  have e1:=(q 0 x (.int p.1) rfl rfl).intI
  have e2:=(q 1 y (.int p.2) rfl rfl).intI
  simp_all
theorem JhV{a:Qd}{b n:Int}(h:SqT K H a [.int b,.int n]):Rep K H (.ref a) (prD (b,n)):=.tupL h (.cons (.int b) (.cons (.int n) .nil))
theorem Jkr{a:Qd}{b n:Int}(h:H a=some (.tup [.int b,.int n])):Rep K H (.ref a) (prD (b,n)):=JhV (.of h)
noncomputable abbrev Prs(K:Qo)(H:Hp)(vs:List V)(ps:List Pr):Prop:=RepL K H vs (ps.map prD)
theorem Prs.len{vs:List V}{ps:List Pr}(r:Prs K H vs ps):vs.length=ps.length:=by have:=r.1;simp_all
theorem Prs.at{vs:List V}{ps:List Pr}{i:Nat}{v:V}(r:Prs K H vs ps)(e:vs[i]?=some v):∃p a,ps[i]?=some p/\v=.ref a/\SqT K H a [.int p.1,.int p.2]:=by
 obtain⟨d,h1,h2⟩:=r.get' e;rw[Qy] at h1
 cases hp:ps[i]? with
 | none=>rw[hp] at h1;cases h1
 | some p=>rw[hp] at h1;cases h1;obtain⟨a,e1,e2⟩:=Jkq h2;exact⟨p,a,rfl,e1,e2⟩
theorem Prs.snoc{vs:List V}{ps:List Pr}{v:V}{p:Pr}(r:Prs K H vs ps)(h:Rep K H v (prD p)):Prs K H (vs++[v]) (ps++[p]):=by show RepL K H _ _;rw[GN];exact RepL.snoc r h
noncomputable def JiZ(K:Qo)(H:Hp)(v:V)(ps:List Pr):Prop:=∃a vs,v=.ref a/\(SqL K H a vs\/SqT K H a vs)/\Prs K H vs ps
end

structure Good (ps:List Pr):Prop where
 one:∀(i:Nat) (p:Pr),ps[i]?=some p->1<=p.2
 gap:∀(i:Nat) (p q:Pr),ps[i]?=some p->ps[i+1]?=some q->p.1+p.2<q.1
theorem Good.nil:Good []:=⟨fun i p e=>by simp at e,fun i p q e=>by simp at e⟩
theorem Good.snoc{ps:List Pr}{p:Pr}(g:Good ps)(h1:1<=p.2)(h2:∀q,ps[ps.length-1]?=some q->q.1+q.2<p.1):Good (ps++[p]):=by
 refine⟨fun i q e=>?_,fun i q r e1 e2=>?_⟩
 ·by_cases hi:i<ps.length
  ·rw[QA hi] at e;exact g.one i q e
  ·rw[Q2 (by simp_all)] at e;obtain⟨h3,h4⟩:=Qi.mp e;have:i-ps.length=0:=by simp at h3;omega
   rw[this] at e;simp at e;subst e;exact h1
 ·by_cases hi:i+1<ps.length
  ·rw[QA (by exact Gk ‹_›)] at e1;rw[QA hi] at e2;exact g.gap i q r e1 e2
  ·rw[Q2 (by simp_all)] at e2;obtain⟨h3,h4⟩:=Qi.mp e2;have h5:i+1-ps.length=0:=by simp at h3;omega
   rw[h5] at e2;simp at e2;subst e2;have h6:i=ps.length-1:=by omega
   have h7:i<ps.length:=by grind
   rw[QA h7] at e1;rw[h6] at e1;exact h2 q e1

noncomputable def Jd0(t:Qd):List (Str×V):=[("stretches",.ref t)]
noncomputable def RowAt(C:Qd)(K:Qo)(H:Hp)(v:V)(ps:List Pr):Prop :=
 ∃x dx t ts,v=.ref x/\H x=some (.ins C dx (Jd0 t))/\H t=some (.tup ts)/\Prs K H ts ps
theorem RowAt.mono{C:Qd}{K:Qo}{H H':Hp}{v:V}{ps:List Pr}(e:Same H H')(r:RowAt C K H v ps):RowAt C K H' v ps:=by obtain⟨x,dx,t,ts,h0,h1,h2,h3⟩:=r;exact⟨x,dx,t,ts,h0,e _ _ h1,e _ _ h2,RepL.mono e h3⟩
structure RowC (K:Qo) (C:Qd):Prop where
 cl:Cls K C
 ns:NoAttr K C "stretches"
theorem Jgf(t:Qd):(Jd0 t).lookup ("stretches":Str)=some (.ref t):=by
 unfold Jd0
 simp_all
theorem Jh0(t:Qd):Vb "stretches" (.ref t) []=Jd0 t:=rfl

noncomputable def Jb2(K:Qo):Sp:=fun vs H Q _=>∃v ps,vs=[v]/\JiZ K H v ps/\Good ps/\∀H',Same H H'->Q .non H'
noncomputable def U6(C:Qd)(K:Qo):Sp:=fun vs H Q _=>∃x dx v ps,vs=[.ref x,v]/\H x=some (.ins C dx [])/\JiZ K H v ps/\Good ps/\ps.length<=30 ∧
 ∀H' t ts,SameEx x H H'->H' x=some (.ins C dx (Jd0 t))->H' t=some (.tup ts)->Prs K H' ts ps->Q .non H'
noncomputable def JgC(C:Qd)(sp:Sp)(E:XK)(vs:List V)(H1:Hp)(Q:VK):Prop:=∀x dx,H1 x=none->H1 dx=none->dx≠x ->
 sp (.ref x::vs) (upd (upd H1 dx (.own x)) x (.ins C dx [])) (fun v H2=>v=.non/\Q (.ref x) H2) E
theorem JeT{C:Qd}{sp:Sp}{E:XK}{ts:TA}{σ:St}{H:Hp}{Q:VK}(q:ts σ H fun vs H1=>JgC C sp E vs H1 Q):Je4 C sp [] E ts σ H Q:=by
 have e:(fun vs H1=>JgC C sp E vs H1 Q)=fun vs H1=>∀x dx,H1 x=none->H1 dx=none->dx≠x->sp (.ref x::(vs++[])) (upd (upd H1 dx (.own x)) x (.ins C dx [])) (fun v H2=>v=.non/\Q (.ref x) H2) E:=by funext vs H1;rw[Li];rfl
 show ts σ H _;rw[<- e];exact q
theorem Joo{C:Qd}{K:Qo}{H:Hp}{Q:VK}{v:V}{ps:List Pr}{E:XK}(h:JiZ K H v ps)(g:Good ps)(hl:ps.length<=30)(q:∀x H',H x=none->Same H H'->RowAt C K H' (.ref x) ps->Q (.ref x) H'):JgC C (U6 C K) E [v] H Q:=by
 intro x dx nx ndx nex
 have s0:Same H (upd (upd H dx (.own x)) x (.ins C dx [])):=fun b o e=>by rw[Jf (Jp e nx),Jf (Jp e ndx)];exact e
 obtain⟨a,vs,rfl,hq,hp⟩:=h;refine⟨x,dx,_,ps,rfl,Jl,⟨a,vs,rfl,hq.imp s0.seq s0.seqT,RepL.mono s0 hp⟩,g,hl,fun H' t ts e h1 h2 h3=>⟨rfl,q x H' nx (fun b o h=>e b o (Jp h nx) (s0 b o h)) ⟨x,dx,t,ts,rfl,h1,h2,h3⟩⟩⟩

noncomputable def cell(ns:List Int)(k:Int):Int:=ns.getD k.toNat 0
end LR

namespace LR
open PySem L2

theorem JgT{ns:List Int}{k:Int}(h:¬k<(ns.length:Int)):cell ns k=0:=by
 unfold cell
 grind
noncomputable def Jel(ps:List Pr):Nat->V
 | 0=>.non
 | i+1=>match ps[i]? with
  | some p=>.int (p.1+p.2)
  | none=>.non
theorem Ve{ps:List Pr}{i:Nat}{p:Pr}(e:ps[i]?=some p):Jel ps (i+1)=.int (p.1+p.2):=by show(match ps[i]? with|some p=>V.int (p.1+p.2)|none=>V.non)=_;rw[e]
theorem JgU{K:Qo}{v:V}{ps:List Pr}{H:Hp}{Q:VK}{E:XK}(h:JiZ K H v ps)(g:Good ps)(q:∀H',Same H H'->Q .non H'):Jb2 K [v] H Q E:=⟨v,ps,rfl,h,g,q⟩
theorem JcX{K:Qo}{a:Qd}{xs:List V}{H:Hp}{Q:VK}(h:SqL K H a xs\/SqT K H a xs)(q:Q (.int xs.length) H):JdY K [.ref a] H Q:=by
 rcases h with h|h
 ·exact JkG h q
 ·exact JkI h q
theorem SameEx.sqT'{K:Qo}{H H':Hp}{x a C dx:Qd}{fs:List (Str×V)}{xs:List V}(e:SameEx x H H')(hx:H x=some (.ins C dx fs))(h:SqT K H a xs):SqT K H' a xs:=by
 rcases h with (h|⟨o,h⟩)|h
 ·exact .inl (.inl (e _ _ (JcB h hx (by intro z;cases z)) h))
 ·exact .inl (.inr ⟨o,e _ _ (JcB h hx (by intro z;cases z)) h⟩)
 ·exact .inr h
theorem Prs.monoIns{K:Qo}{H H':Hp}{x C dx:Qd}{fs:List (Str×V)}{vs:List V}{ps:List Pr}(e:SameEx x H H')(hx:H x=some (.ins C dx fs))(r:Prs K H vs ps):Prs K H' vs ps:=by refine⟨r.1,fun i v d h1 h2=>?_⟩;obtain⟨p,a,e1,e2,e3⟩:=r.at h1;rw[Qy,e1] at h2;cases h2;subst e2;exact JhV (SameEx.sqT' e hx e3)
noncomputable def Je1(K:Qo):Sp:=fun vs H Q _=>∃(a:Qd) (ns:List Int),vs=[.ref a]/\SqL K H a (ns.map V.int)/\ns.length<=63/\∀H',Q (.bl true) H'
end LR
namespace LR
open PySem L2
end LR

namespace L2
open PySem PySem.Spec PyProof.Rows

section
variable{X:Cx}{pins:List (Qd×Obj)}{σ:St}{H:Hp}{s:Qe}
theorem JaZ{A':Qx}{E:Qc->Qe->Prop}{Q:Qc->Qe->Prop}{a:Qd}{vs:List V}(hh:A'.handled=none)(I:Inv X pins σ H s)(hq:SqL X.K H a vs\/SqT X.K H a vs)
 (h:∀(its:List Qc) (J:Qd) (fp wr:List Qd) (Sx:Nat->QC->Prop) (s2:Qe),Vals vs its->Walks X.prog X.w A' J fp wr its.toArray.size (fun i v=>its.toArray[i]?=some v) Sx->Sx 0 s2.heap->(∀b∈fp,b<s2.heap.objs.size) ->
  (∀h' tk,(∀b o,b∉wr->s2.heap.get? b=some o->h'.get? b=some o)->Inv X pins σ H { s2 with heap:=h',toks:=tk })->Q (.ref J) s2):wpAny (model X.prog X.w) A' (pyIter (.ref a)) Q E s:=by
 have nin:∀b o,s.heap.get? b=some o->b∉[s.heap.objs.size]:=fun b o e z=>by
  have:b=s.heap.objs.size:=by simpa using z
  exact absurd (Qj e) (by simp_all)
 rcases hq with hq|hq
 ·obtain⟨its,rv,p,hz⟩:=I.list hq;have hlt:a<s.heap.objs.size:=by obtain⟨_,e,_⟩:=p.isList;exact Qj e
  refine Ln p.isList ?_;refine h its _ _ _ _ _ rv (Walks.list hh _ a (Qw hlt) its.toArray) ⟨⟨_,Qh _ rfl,rfl,rfl⟩,p.isList.push _⟩ (fun b hb=>?_) fun h' tk hk=>I.kept fun b o e=>hk b o (nin b o e) (Qg _ e)
  show b<(s.heap.push _).objs.size;rw[Ge];rcases Qr.mp hb with z|z
  ·rw[z];exact GO _
  ·have:b=a:=by simpa using z
   rw[this];exact G7 hlt
 ·obtain⟨its,rv,p,hz⟩:=I.tuple hq;have ht:s.heap.IsTuple a its.toArray:=p;have hlt:a<s.heap.objs.size:=by obtain⟨_,e,_⟩:=ht;exact Qj e
  refine L8 ht ?_;refine h its _ _ _ _ _ rv (Walks.tuple hh _ a (Qw hlt) its.toArray) ⟨⟨_,Qh _ rfl,rfl,rfl⟩,?_⟩ (fun b hb=>?_) fun h' tk hk=>I.kept fun b o e=>hk b o (nin b o e) (Qg _ e)
  ·obtain⟨o,e,c⟩:=ht;exact⟨o,Qg _ e,c⟩
  grind[Ge]
end

theorem W9(l:List Int):∀j,j<=l.length->preSum (fun i=>l.getD i 0) j=(l.take j).sum
 | 0,_=>by simp[preSum]
 | j+1,h=>by
  rw[preSum,W9 l j (by exact Gk ‹_›)];have hj:j<l.length:=by assumption
  rw[List.take_add_one,List.sum_append];simp[hj]
section
variable{X:Cx}
noncomputable def Jn4(K:Qo):List V->Hp->VK->Prop:=fun xs H Q=>∃(a:Qd) (ns:List Int),xs=[.ref a]/\(SqL K H a (ns.map V.int)\/SqT K H a (ns.map V.int))/\Q (.int ns.sum) H
theorem Jft(hc:X.calm=true):CallR X (.builtin "sum") (Jn4 X.K):=by
 intro pins s σ H xs us Q I r h;obtain⟨a,ns,rfl,hq,q⟩:=h;obtain⟨u,rfl,rx⟩:=U9 r;cases rx;refine call_sum_walkG (JaZ (A':=X.A.in1) (I.ok.hd hc) I hq fun its J fp wr Sx s2 rv W st hfp hI=>?_);have hi:=Yp rv;have hl:=rv.length;rw[QB] at hl;refine⟨J,fp,wr,_,_,Sx,fun i=>ns.getD i 0,rfl,W,st,hfp,fun i v e=>?_,fun h' tk t' hk=>?_⟩
 ·have e':its[i]?=some v:=by simpa using e
  obtain⟨x,e1,e2⟩:=rv.get' e';rw[Qy] at e1
  cases hn:ns[i]? with
  | none=>rw[hn] at e1;cases e1
  | some n =>
   rw[hn] at e1;cases e1;obtain⟨t,rfl⟩:=e2
   simp_all
 ·refine⟨.int ns.sum,H,hI h' tk hk,⟨t',?_⟩,q⟩;rw[show its.toArray.size=ns.length by simp[hl],W9 ns _ (Qn _),List.take_length]
noncomputable def JnX(K:Qo):List V->Hp->VK->Prop:=fun xs H Q=>∃(a:Qd) (bs:List Bool),xs=[.ref a]/\(SqL K H a (bs.map V.bl)\/SqT K H a (bs.map V.bl))/\Q (.bl (bs.any id)) H
theorem Jgb(bs:List Bool):(GS bs.length).any (fun i=>bs.getD i false)=bs.any id:=by
 rw[KN];simp only[K6,List.mem_range,id];constructor
 ·rintro⟨i,hi,e⟩;simp[List.getD_eq_getElem?_getD,hi] at e;exact⟨bs[i],MD hi,e⟩
 ·rintro⟨b,hb,rfl⟩;obtain⟨i,hi,e⟩:=LM.mp hb;exact⟨i,hi,by simp_all⟩
theorem Jde{A:Qx}{bs:List Bool}{its:List Qc}(rv:Vals (bs.map V.bl) its):TruthOf X.prog X.w A (fun i v=>its.toArray[i]?=some v) (fun i=>bs.getD i false):=by
 intro i v s Q E e q;have e':its[i]?=some v:=by simpa using e
 obtain⟨x,e1,e2⟩:=rv.get' e';rw[Qy] at e1
 cases hn:bs[i]? with
 | none=>rw[hn] at e1;cases e1
 | some n =>
  rw[hn] at e1;cases e1;cases e2;have:bs.getD i false=n:=by simp_all
  have q':Q (bs.getD i false) s:=q;rw[this] at q';exact Gw q'
theorem Jfl(hc:X.calm=true):CallR X (.builtin "any") (JnX X.K):=by intro pins s σ H xs us Q I r h;obtain⟨a,bs,rfl,hq,q⟩:=h;obtain⟨u,rfl,rx⟩:=U9 r;cases rx;refine call_any_walk (JaZ (A':=X.A.in1) (I.ok.hd hc) I hq fun its J fp wr Sx s2 rv W st hfp hI=>?_);have hl:=rv.length;rw[QB] at hl;refine⟨J,fp,wr,_,_,Sx,_,rfl,W,st,Jde rv,fun h' tk hk=>⟨.bl _,H,hI h' tk hk,rfl,?_⟩⟩;rw[show its.toArray.size=bs.length by simp[hl],Jgb];exact q
noncomputable def strI(i:Int):Str:=(toString i:String)
end
section
variable{X:Cx}{K:Qo}
theorem J5(hK:X.K=K)(hc:X.calm=true):CallR X (.builtin "sum") (Jn4 K):=hK▸Jft hc
theorem Jfk(hK:X.K=K)(hc:X.calm=true):CallR X (.builtin "any") (JnX K):=hK▸Jfl hc
end
section
variable{K:Qo}{H:Hp}{Q:VK}
end
end L2
namespace L2
open PySem PySem.Spec PyProof.Rows
noncomputable def AllP{α:Type}(P:α->Prop):List α->Prop
 | []=>True
 | x::xs=>P x/\AllP P xs
theorem AllP.mem{α:Type}{P:α->Prop}:∀{l:List α},AllP P l->∀x∈l,P x
 | [],_,x,hx=>nomatch hx
 | y::l,h,x,hx=>by
  rcases Qr.mp hx with z|z
  ·rw[z];exact h.1
  ·exact AllP.mem h.2 x z
theorem VS{cl:List (Str×Qd)}{x:Str}(h:cl.any (fun p=>p.1 == x)=true):(cl.lookup x).isSome=true:=by simp_all
theorem Zu{X:Cx}{sc:LX}{cl:List (Str×Qd)}{own:List Str}{fr:List (Str×Nat)}(h1:sc.kind=.function)(h2:closureFor sc X.env=pure cl)
 (h3:(sc.names.all fun y=>y.2 != .cell && (y.2 != .local || sc.names.lookup y.1 == some .local))=true) (h4:AllP (fun p=>X.env.cells.lookup p.1=some p.2) cl)
 (h5:((relabel sc X.env).names.all fun y=>(y.2 != .cell && y.2 != .free) || cl.any (fun p=>p.1 == y.1))=true)
 (h6:AllP (fun p=>X.N[p.2]?=some p.1/\X.env.scope.names.lookup p.1=some .cell/\(relabel sc X.env).names.lookup p.1=some .cell) fr) :
 Blk X sc cl (own++fr.map (·.1)) (own.map (fun _=>none)++fr.map (fun p=>some p.2)):=by
 simp only[Kj,QU] at h3;simp only[Kj] at h5;refine⟨h2,h1,fun y hy=>?_,fun y hy hl=>?_,AllP.mem h4,fun y hy hk=>?_,by simp,fun p hp k e=>?_⟩
 ·have:=(h3 y hy).1
  simpa using this
 ·have:=(h3 y hy).2;rw[hl] at this
  simpa using this
 ·have:=h5 y hy;rcases Bool.or_eq_true_iff.mp this with z|z
  ·simp_all
  ·exact VS z
 ·rw[MW (by simp)] at hp;rcases GL.mp hp with z|z
  ·have:=(Lj z).1
   simp_all
  ·rw[List.zip_map_left] at z;obtain⟨q,hq,eq⟩:=Gb.mp z
   have hz:q.1∈fr/\q.1.1=q.2:=by
    clear h6 e eq z hp;rw[List.zip_map_right] at hq
    grind
   obtain⟨a1,a2,a3⟩:=AllP.mem h6 q.1 hz.1
   grind
end L2

namespace LR
open PySem L2

noncomputable def Small(i:Int):Prop:=i.natAbs.log2<1920
theorem Small.of{i:Int}(h:i.natAbs<2 ^ 1920):Small i:=by
 unfold Small
 by_cases h0:i.natAbs=0
 ·rw[h0];decide
 ·exact(Nat.log2_lt h0).mpr h
theorem Small.le{i:Int}(h1:-(10 ^ 100)<=i)(h2:i<=10 ^ 100):Small i:=Small.of (by omega)
end LR

namespace LE
open PySem L2 LR

structure Xm where
 n:Str
 k:Option Int
instance:Coe Str Xm:=⟨fun s=>⟨s,none⟩⟩
noncomputable def Jav:Qc->Qc
 | .int i _=>.ref i.toNat
 | v=>v
noncomputable def Jdu:Qc->Option Qd
 | .int _ t=>some t
 | _=>none
inductive D where
 | non|bl (b:Bool)|int (i:Int)|str (x:Str)|tup (l:List D)|lst (l:List D)|fz (l:List D)|row (l:List D)|dct (ks:List Int) (l:List D)|dfz (ks:List Int) (l:List D)|exc (n:Xm)
noncomputable def dkO(ks:List Int)(xs:List V):HO:=.dK ((ks.map Sum.inl).zip xs)
noncomputable def dtK(p:Int×Int):List Key:=[Sum.inl p.1,Sum.inl p.2]
noncomputable def dtO(ps:List (Int×Int))(xs:List V):HO:=.dT ((ps.map dtK).zip xs)
noncomputable def deO(xs:Qd×Qd×V):HO:=.ins xs.1 xs.2.1 [("trail",xs.2.2)]
noncomputable def DkC(K:Qo)(a:Option Qd)(l:Qd)(xs:Qd×Qd×V):Prop:=nsIn K mainGlobals "Desk"=some (some (.ref xs.1))/\(a=none\/a=some l)
noncomputable def XO(a:Qd)(c:Qc):HO:=.ext fun h=>∃o,h.get? a=some o/\o.cls=Jav c/\notCls o=true/\o.dict=Jdu c
noncomputable def XC(K:Qo)(n:Xm)(c:Qc)(H:Hp):Prop:=∃a:Nat,nsIn K mainGlobals n.n=some (some (.ref a))/\match n.k with
 | none=>c=.ref a
 | some k=>∃t,c=.int a t/\H t=some (.xd [("at",.int k)])
theorem XC.mono{K:Qo}{n:Xm}{c:Qc}{H H':Hp}(e:Same H H')(x:XC K n c H):XC K n c H':=by
 obtain⟨a,h1,h2⟩:=x;refine⟨a,h1,?_⟩
 cases z:n.k with
 | none=>rw[z] at h2;exact h2
 | some k=>rw[z] at h2;obtain⟨t,h3,h4⟩:=h2;exact⟨t,h3,e _ _ h4⟩
theorem XC.cls{K:Qo}{n:Xm}{c:Qc}{H:Hp}(x:XC K n c H):∃a,nsIn K mainGlobals n.n=some (some (.ref a))/\Jav c=.ref a:=by
 obtain⟨a,h1,h2⟩:=x;refine⟨a,h1,?_⟩
 cases z:n.k with
 | none=>rw[z] at h2;cases h2;rfl
 | some k=>rw[z] at h2;obtain⟨t,h3,h4⟩:=h2;cases h3;rfl
noncomputable def XdO(c:Qc)(H:Hp):Prop:=match Jdu c with
 | none=>True
 | some t=>∃fs,H t=some (.xd fs)
theorem XC.xd{K:Qo}{n:Xm}{c:Qc}{H:Hp}(x:XC K n c H):XdO c H:=by
 obtain⟨a,h1,h2⟩:=x
 cases z:n.k with
 | none=>rw[z] at h2;cases h2;exact True.intro
 | some k=>rw[z] at h2;obtain⟨t,h3,h4⟩:=h2;cases h3;exact⟨_,h4⟩

section
variable(K:Qo)(C:Qd)
inductive RD (H:Hp):V->D->Prop
 | non:RD H .non .non
 | bl (b:Bool):RD H (.bl b) (.bl b)
 | int (i:Int):RD H (.int i) (.int i)
 | str (x:Str):RD H (.str x) (.str x)
 | tup {a:Qd} {xs:List V} {ds:List D}:SqT K H a xs->xs.length=ds.length->(∀(i:Nat) (x:V) (d:D),xs[i]?=some x->ds[i]?=some d->RD H x d)->RD H (.ref a) (.tup ds)
 | lst {a:Qd} {xs:List V} {ds:List D}:H a=some (.lst xs)->xs.length=ds.length->(∀(i:Nat) (x:V) (d:D),xs[i]?=some x->ds[i]?=some d->RD H x d)->RD H (.ref a) (.lst ds)
 | fz {a:Qd} {xs:List V} {ds:List D}:SqL K H a xs->xs.length=ds.length->(∀(i:Nat) (x:V) (d:D),xs[i]?=some x->ds[i]?=some d->RD H x d)->RD H (.ref a) (.fz ds)
 | row {x dx t:Qd} {ts:List V} {ds:List D}:H x=some (.ins C dx (Jd0 t))->SqT K H t ts->ts.length=ds.length->(∀(i:Nat) (x:V) (d:D),ts[i]?=some x->ds[i]?=some d->RD H x d)->RD H (.ref x) (.row ds)
 | dct {a:Qd} {ks:List Int} {xs:List V} {ds:List D}:H a=some (dkO ks xs)->ks.length=ds.length->xs.length=ds.length->(∀(i:Nat) (x:V) (d:D),xs[i]?=some x->ds[i]?=some d->RD H x d)->RD H (.ref a) (.dct ks ds)
 | dfz {a:Qd} {ks:List Int} {xs:List V} {ds:List D} {o:Obj}:H a=some (.frz o (dkO ks xs))->ks.length=ds.length->xs.length=ds.length->(∀(i:Nat) (x:V) (d:D),xs[i]?=some x->ds[i]?=some d->RD H x d)->RD H (.ref a) (.dfz ks ds)
 | exc {a:Qd} {c:Qc} {n:Xm}:H a=some (XO a c)->XC K n c H->RD H (.ref a) (.exc n)
noncomputable def RDL(H:Hp)(xs:List V)(ds:List D):Prop:=xs.length=ds.length/\∀(i:Nat) (x:V) (d:D),xs[i]?=some x->ds[i]?=some d->RD K C H x d
end

section
variable{K:Qo}{C:Qd}{H H':Hp}
theorem RD.mono{v:V}{d:D}(e:Same H H')(r:RD K C H v d):RD K C H' v d:=by
 induction r with
 | non=>exact .non
 | bl b=>exact .bl b
 | int i=>exact .int i
 | str x=>exact .str x
 | tup h l _ ih=>exact .tup (e.seqT h) l ih
 | lst h l _ ih=>exact .lst (e _ _ h) l ih
 | fz h l _ ih=>exact .fz (e.seq h) l ih
 | row h1 h2 l _ ih=>exact .row (e _ _ h1) (e.seqT h2) l ih
 | dct h1 h2 l _ ih=>exact .dct (e _ _ h1) h2 l ih
 | dfz h1 h2 l _ ih=>exact .dfz (e _ _ h1) h2 l ih
 | exc h1 h2=>exact .exc (e _ _ h1) (h2.mono e)
theorem RDL.mono{xs:List V}{ds:List D}(e:Same H H')(r:RDL K C H xs ds):RDL K C H' xs ds:=⟨r.1,fun i x d h1 h2=>(r.2 i x d h1 h2).mono e⟩
theorem RDL.nil:RDL K C H [] []:=⟨rfl,fun i x d e=>by simp at e⟩
theorem RDL.cons{x:V}{d:D}{xs:List V}{ds:List D}(h:RD K C H x d)(r:RDL K C H xs ds):RDL K C H (x::xs) (d::ds):=by
 refine⟨by simp[r.1],fun i y e h1 h2=>?_⟩
 cases i with
 | zero=>simp_all
 | succ i=>exact r.2 i y e (by simpa using h1) (by simpa using h2)
theorem RDL.append{xs ys:List V}{ds es:List D}(r:RDL K C H xs ds)(q:RDL K C H ys es):RDL K C H (xs++ys) (ds++es):=by
 refine⟨by simp[r.1,q.1],fun i x d h1 h2=>?_⟩
 by_cases hi:i<xs.length
 ·rw[QA hi] at h1;rw[QA (by rw[<- r.1];exact hi)] at h2;exact r.2 i x d h1 h2
 ·rw[Q2 (by simp_all)] at h1;rw[Q2 (by rw[<- r.1];simp_all)] at h2;rw[<- r.1] at h2;exact q.2 _ x d h1 h2
theorem RDL.snoc{xs:List V}{ds:List D}{x:V}{d:D}(r:RDL K C H xs ds)(h:RD K C H x d):RDL K C H (xs++[x]) (ds++[d]):=r.append (.cons h .nil)
theorem RDL.get{xs:List V}{ds:List D}{i:Nat}{d:D}(r:RDL K C H xs ds)(e:ds[i]?=some d):∃x,xs[i]?=some x/\RD K C H x d:=by
 have hi:=(Qi.mp e).1
 have hx:i<xs.length:=by rw[r.1];exact hi
 exact⟨xs[i],by simp[hx],r.2 i _ d (by simp[hx]) e⟩
theorem RDL.get'{xs:List V}{ds:List D}{i:Nat}{x:V}(r:RDL K C H xs ds)(e:xs[i]?=some x):∃d,ds[i]?=some d/\RD K C H x d:=by
 have hi:=(Qi.mp e).1
 have hx:i<ds.length:=by rw[<- r.1];exact hi
 exact⟨ds[i],by simp[hx],r.2 i x _ e (by simp[hx])⟩
theorem RDL.head{x:V}{xs:List V}{d:D}{ds:List D}(r:RDL K C H (x::xs) (d::ds)):RD K C H x d:=r.2 0 x d rfl rfl
theorem RDL.tail{x:V}{xs:List V}{d:D}{ds:List D}(r:RDL K C H (x::xs) (d::ds)):RDL K C H xs ds:=⟨by have:=r.1;simpa using this,fun i y e h1 h2=>r.2 (i+1) y e (by simpa using h1) (by simpa using h2)⟩
theorem RDL.take{xs:List V}{ds:List D}(n:Nat)(r:RDL K C H xs ds):RDL K C H (xs.take n) (ds.take n):=by
 refine⟨by simp[r.1],fun i x d h1 h2=>?_⟩;rw[List.getElem?_take] at h1 h2;split at h1
 ·rw[if_pos (by assumption)] at h2;exact r.2 i x d h1 h2
 ·cases h1
theorem RDL.drop{xs:List V}{ds:List D}(n:Nat)(r:RDL K C H xs ds):RDL K C H (xs.drop n) (ds.drop n):=by refine⟨by simp[r.1],fun i x d h1 h2=>?_⟩;rw[List.getElem?_drop] at h1 h2;exact r.2 _ x d h1 h2
theorem RDL.set{xs:List V}{ds:List D}{v:V}{e:D}(n:Nat)(r:RDL K C H xs ds)(h:RD K C H v e):RDL K C H (xs.set n v) (ds.set n e):=by
 refine⟨by simp[r.1],fun i x d h1 h2=>?_⟩;rw[Qv] at h1 h2;split at h1
 ·simp_all
 ·rw[if_neg (by assumption)] at h2;exact r.2 i x d h1 h2
theorem RDL.reverse{xs:List V}{ds:List D}(r:RDL K C H xs ds):RDL K C H xs.reverse ds.reverse:=by
 refine⟨by simp[r.1],fun i x d h1 h2=>?_⟩;have hi:i<xs.length:=by have:=(Qi.mp h1).1;simpa using this
 rw[Lz hi] at h1;rw[Lz (by rw[<- r.1];exact hi)] at h2;rw[<- r.1] at h2;exact r.2 _ x d h1 h2
theorem RDL.mapI{α:Type}{f:α->D}{g:α->V}{xs:List V}{ns:List α}(hf:∀x n,RD K C H x (f n)->x=g n)(r:RDL K C H xs (ns.map f)):xs=ns.map g:=by
 refine LH (by simpa using r.1) fun i h1 h2=>?_
 rw[List.getElem_map];exact hf _ _ (r.2 i _ _ (Gh h1) (by simp at h2;simp[h2]))
theorem RDL.ints{xs:List V}{ns:List Int}(r:RDL K C H xs (ns.map D.int)):xs=ns.map V.int:=r.mapI fun _ _ h=>by cases h;rfl
theorem RDL.ofInts(ns:List Int):RDL K C H (ns.map V.int) (ns.map D.int):=by
 induction ns with
 | nil=>exact .nil
 | cons n _ ih=>exact .cons (.int n) ih
theorem RDL.bls{xs:List V}{ns:List Bool}(r:RDL K C H xs (ns.map D.bl)):xs=ns.map V.bl:=r.mapI fun _ _ h=>by cases h;rfl
theorem RDL.strs{xs:List V}{ns:List Str}(r:RDL K C H xs (ns.map D.str)):xs=ns.map V.str:=r.mapI fun _ _ h=>by cases h;rfl
theorem RD.mkT{a:Qd}{xs:List V}{ds:List D}(h:SqT K H a xs)(r:RDL K C H xs ds):RD K C H (.ref a) (.tup ds):=.tup h r.1 r.2
theorem RD.mkL{a:Qd}{xs:List V}{ds:List D}(h:H a=some (.lst xs))(r:RDL K C H xs ds):RD K C H (.ref a) (.lst ds):=.lst h r.1 r.2
theorem RD.mkF{a:Qd}{xs:List V}{ds:List D}(h:SqL K H a xs)(r:RDL K C H xs ds):RD K C H (.ref a) (.fz ds):=.fz h r.1 r.2
theorem RD.tupI{v:V}{ds:List D}(r:RD K C H v (.tup ds)):∃a xs,v=.ref a/\SqT K H a xs/\RDL K C H xs ds:=by
 cases r with
 | tup h l q=>exact⟨_,_,rfl,h,l,q⟩
theorem RD.lstI{v:V}{ds:List D}(r:RD K C H v (.lst ds)):∃a xs,v=.ref a/\H a=some (.lst xs)/\RDL K C H xs ds:=by
 cases r with
 | lst h l q=>exact⟨_,_,rfl,h,l,q⟩
theorem RD.fzI{v:V}{ds:List D}(r:RD K C H v (.fz ds)):∃a xs,v=.ref a/\SqL K H a xs/\RDL K C H xs ds:=by
 cases r with
 | fz h l q=>exact⟨_,_,rfl,h,l,q⟩
theorem RD.rowI{v:V}{ds:List D}(r:RD K C H v (.row ds)):∃x dx t ts,v=.ref x/\H x=some (.ins C dx (Jd0 t))/\SqT K H t ts/\RDL K C H ts ds:=by
 cases r with
 | row h1 h2 l q=>exact⟨_,_,_,_,rfl,h1,h2,l,q⟩
theorem RD.mkD{a:Qd}{ks:List Int}{xs:List V}{ds:List D}(h:H a=some (dkO ks xs))(hk:ks.length=ds.length)(r:RDL K C H xs ds):RD K C H (.ref a) (.dct ks ds):=.dct h hk r.1 r.2
theorem RD.dctI{v:V}{ks:List Int}{ds:List D}(r:RD K C H v (.dct ks ds)):∃a xs,v=.ref a/\H a=some (dkO ks xs)/\ks.length=ds.length/\RDL K C H xs ds:=by
 cases r with
 | dct h hk l q=>exact⟨_,_,rfl,h,hk,l,q⟩
theorem RD.mkZ{a:Qd}{ks:List Int}{xs:List V}{ds:List D}{o:Obj}(h:H a=some (.frz o (dkO ks xs)))(hk:ks.length=ds.length)(r:RDL K C H xs ds):RD K C H (.ref a) (.dfz ks ds):=.dfz h hk r.1 r.2
theorem RD.dfzI{v:V}{ks:List Int}{ds:List D}(r:RD K C H v (.dfz ks ds)):∃a xs o,v=.ref a/\H a=some (.frz o (dkO ks xs))/\ks.length=ds.length/\RDL K C H xs ds:=by
 cases r with
 | dfz h hk l q=>exact⟨_,_,_,rfl,h,hk,l,q⟩
theorem RD.excI{v:V}{n:Xm}(r:RD K C H v (.exc n)):∃a c,v=.ref a/\H a=some (XO a c)/\XC K n c H:=by
 cases r with
 | exc h1 h2=>exact⟨_,_,rfl,h1,h2⟩
theorem RD.intI{v:V}{i:Int}(r:RD K C H v (.int i)):v=.int i:=by cases r;rfl
theorem RD.strI{v:V}{i:Str}(r:RD K C H v (.str i)):v=.str i:=by cases r;rfl
theorem RD.blI{v:V}{i:Bool}(r:RD K C H v (.bl i)):v=.bl i:=by cases r;rfl
theorem RD.nonI{v:V}(r:RD K C H v .non):v=.non:=by cases r;rfl
end

mutual
noncomputable def D.py:D->PyData
 | .non=>.none
 | .bl b=>.bool b
 | .int i=>.int i
 | .str x=>.str x
 | .tup l=>.tuple (D.pyL l)
 | .lst l=>.list (D.pyL l)
 | .fz l=>.list (D.pyL l)
 | .row _=>.dict []
 | .dct _ _=>.dict []
 | .dfz _ _=>.dict []
 | .exc _=>.dict []
noncomputable def D.pyL:List D->List PyData
 | []=>[]
 | d::ds=>d.py::D.pyL ds
end
theorem JeN:∀ds:List D,D.pyL ds=ds.map D.py
 | []=>rfl
 | d::ds=>by rw[D.pyL,JeN ds];rfl
theorem ZP:∀{ds:List PyData},KY ds=true->∀d∈ds,d.canLay0=true
 | [],_,d,hd=>nomatch hd
 | x::ds,h,d,hd=>by
  have h':(PyData.canLay0 x && KY ds)=true:=h;rw[QU] at h';rcases Qr.mp hd with z|z
  ·rw[z];exact h'.1
  ·exact ZP h'.2 d z
theorem RD.rep{K:Qo}{C:Qd}{H:Hp}{v:V}{d:D}(r:RD K C H v d):d.py.canLay0=true->Rep K H v d.py:=by
 have all:∀{xs:List V} {ds:List D},xs.length=ds.length->(∀(i:Nat) (x:V) (d:D),xs[i]?=some x->ds[i]?=some d->d.py.canLay0=true->Rep K H x d.py)->KY (D.pyL ds)=true->RepL K H xs (D.pyL ds):=by
  intro xs ds l ih hc;rw[JeN] at hc ⊢;refine⟨by simpa using l,fun i x d h1 h2=>?_⟩;rw[Qy] at h2
  cases e:ds[i]? with
  | none=>rw[e] at h2;cases h2
  | some q=>rw[e] at h2;cases h2;exact ih i x q h1 e (ZP hc _ (Gb.mpr ⟨q,QG e,rfl⟩))
 induction r with
 | non=>intro _;exact .non
 | bl b=>intro _;exact .bl b
 | int i=>intro _;exact .int i
 | str x=>intro _;exact .str x
 | tup h l _ ih=>intro hc;exact .tupL h (all l ih hc)
 | lst h l _ ih=>intro hc;exact .lstL (.of h) (all l ih hc)
 | fz h l _ ih=>intro hc;exact .lstL h (all l ih hc)
 | row h1 h2 l _ ih|dct h1 h2 l _ ih|dfz h1 h2 l _ ih=>intro hc;cases hc
 | exc h1 h2=>intro hc;cases hc

inductive Sl where
 | no|sh (d:D)|bo (ds:List D)|own (ds:List D)|bd (ks:List Int) (ds:List D)|od (ks:List Int) (ds:List D)|bt (ps:List (Int×Int)) (ds:List D)|ot (ps:List (Int×Int)) (ds:List D)|bw (a:Option Qd) (ds:List D)|dw (a:Option Qd) (ds:List D)
noncomputable def JR:Sl->Bool
 | .own _=>true
 | .od _ _=>true
 | .ot _ _=>true
 | .dw _ _=>true
 | _=>false
noncomputable def JmT:Sl->Bool
 | .bo _=>true
 | .bd _ _=>true
 | .bt _ _=>true
 | .bw _ _=>true
 | _=>false

noncomputable def Jna:List Gs->Option (Nat×Nat)
 | .Assign _ (.Call _ _ [⟨_,.Lambda _ _ _ pos,_⟩] _) _::_=>some (pos.line,pos.col)
 | _=>none
noncomputable def JrQ(K:Qo)(fd:Qt):Option (Qd×HO):=match fd.code,fd.body with
 | .ref c,.stmts b=>(match K.lookup c with
  | some ⟨_,_,.fields vs,_⟩=>(match (vs[11]?:Option Qc),Jna b with
   | some (.ref P),some (l,k)=>if PySem.W.codeHdIn K c P=true then some (P,.tbl #[] l k (fd.qualname++".<locals>."++"<lambda>")) else none
   | _,_=>none)
  | _=>none)
 | _,_=>none
noncomputable def Jbb(K:Qo):Option (Qd×HO):=match nsIn K mainGlobals "early_lines" with
 | some (some (.ref f))=>(match K.lookup f with
  | some ⟨_,_,.func fd,_⟩=>JrQ K fd
  | _=>none)
 | _=>none
theorem JiJ{K:Qo}(h:nsIn K mainGlobals "early_lines"=some none):Jbb K=none:=by unfold Jbb;rw[h]
structure LamC (K:Qo) (qual:Str) (l k:Nat) (cdv:Qc):Prop where
 ex:∃P c,cdv=.ref c/\PySem.W.codeHdIn K c P=true/\Jbb K=some (P,.tbl #[] l k (qual++".<locals>."++"<lambda>"))
noncomputable def TabK(K:Qo)(H:Hp):Prop:=∀P t,Jbb K=some (P,t)->H P=some t
theorem TabK.mono{K:Qo}{B H:Hp}(h:TabK K B)(s:∀a o,B a=some o->H a=some o):TabK K H:=fun P t e=>s P t (h P t e)
theorem TabK.no{K:Qo}{H:Hp}(h:Jbb K=none):TabK K H:=fun P t e=>by rw[h] at e;cases e
section
variable(K:Qo)(C:Qd)
noncomputable def RR(Hs H0 H:Hp)(v:V):Sl->Prop
 | .no=>False
 | .sh d=>RD K C H0 v d
 | .bo ds=>∃l xs,v=.ref l/\H l=some (.lst xs)/\RDL K C H0 xs ds
 | .own ds=>∃l xs,v=.ref l/\H l=some (.lst xs)/\H0 l=none/\Hs l=none/\RDL K C H0 xs ds
 | .bd ks ds=>∃l xs,v=.ref l/\H l=some (dkO ks xs)/\ks.length=ds.length/\RDL K C H0 xs ds
 | .bt ks ds=>∃l xs,v=.ref l/\H l=some (dtO ks xs)/\ks.length=ds.length/\RDL K C H0 xs ds
 | .bw ks ds=>∃l xs,v=.ref l/\H l=some (deO xs)/\DkC K ks l xs/\RD K C H0 xs.2.2 (.lst ds)
 | .od ks ds=>∃l xs,v=.ref l/\H l=some (dkO ks xs)/\H0 l=none/\Hs l=none/\ks.length=ds.length/\RDL K C H0 xs ds
 | .ot ks ds=>∃l xs,v=.ref l/\H l=some (dtO ks xs)/\H0 l=none/\Hs l=none/\ks.length=ds.length/\RDL K C H0 xs ds
 | .dw ks ds=>∃l xs,v=.ref l/\H l=some (deO xs)/\H0 l=none/\Hs l=none/\DkC K ks l xs/\RD K C H0 xs.2.2 (.lst ds)
noncomputable def RSl(B H0 H:Hp)(v:V):Sl->Prop
 | .no=>True
 | .sh d=>RD K C H0 v d
 | .bo ds=>∃l xs,v=.ref l/\B l=some (.lst xs)/\RDL K C H0 xs ds
 | .own ds=>∃l xs,v=.ref l/\H l=some (.lst xs)/\H0 l=none/\B l=none/\RDL K C H0 xs ds
 | .bd ks ds=>∃l xs,v=.ref l/\B l=some (dkO ks xs)/\ks.length=ds.length/\RDL K C H0 xs ds
 | .bt ks ds=>∃l xs,v=.ref l/\B l=some (dtO ks xs)/\ks.length=ds.length/\RDL K C H0 xs ds
 | .bw ks ds=>∃l xs,v=.ref l/\B l=some (deO xs)/\DkC K ks l xs/\RD K C H0 xs.2.2 (.lst ds)
 | .od ks ds=>∃l xs,v=.ref l/\H l=some (dkO ks xs)/\H0 l=none/\B l=none/\ks.length=ds.length/\RDL K C H0 xs ds
 | .ot ks ds=>∃l xs,v=.ref l/\H l=some (dtO ks xs)/\H0 l=none/\B l=none/\ks.length=ds.length/\RDL K C H0 xs ds
 | .dw ks ds=>∃l xs,v=.ref l/\H l=some (deO xs)/\H0 l=none/\B l=none/\DkC K ks l xs/\RD K C H0 xs.2.2 (.lst ds)
structure EnvR (B H0 H:Hp) (σ:St) (E:List Sl):Prop where
 b:Same B H
 h:Same H0 H
 len:σ.length=E.length
 at':∀(i:Nat) (s:Sl),E[i]?=some s->s=.no\/∃v,σ[i]?=some (some v)/\RSl K C B H0 H v s
 sep:∀(i j:Nat) (s t:Sl) (v:V),i≠j->E[i]?=some s->E[j]?=some t->JR s=true->JR t=true->σ[i]?=some (some v)->σ[j]?≠some (some v)
 t:TabK K B
end
noncomputable def isT:HO->Bool
 | .tup _=>true
 | .frz _ (.tup _)=>true
 | _=>false
structure Step (Hs H0 H H0' H':Hp):Prop where
 h:Same H H'
 z:Same H0 H0'
 n:∀a o,H0' a=some o->H0 a=some o\/Hs a=none\/isT o=true
 i:Same H0' H'
structure SStep (B H0 H0' H':Hp):Prop where
 b:Same B H'
 z:Same H0 H0'
 n:∀a o,H0' a=some o->H0 a=some o\/B a=none\/isT o=true
 i:Same H0' H'

section
variable{K:Qo}{C:Qd}{B Hs H0 H H0' H' H0'' H'':Hp}{σ:St}{E:List Sl}{v:V}{s:Sl}
theorem Step.refl(i:Same H0 H):Step Hs H0 H H0 H:=⟨Same.refl _,Same.refl _,fun _ _ e=>.inl e,i⟩
theorem Step.comp{Hs':Hp}(s1:Step Hs H0 H H0' H')(s2:Step Hs' H0' H' H0'' H'')(w:∀a,Hs' a=none->Hs a=none):Step Hs H0 H H0'' H'' :=
 ⟨s1.h.trans s2.h,s1.z.trans s2.z,fun a o e=>(s2.n a o e).elim (fun q=>s1.n a o q) fun q=>.inr (q.imp (w a) id),s2.i⟩
theorem Step.trans(s1:Step H H0 H H0' H')(s2:Step H' H0' H' H0'' H''):Step H H0 H H0'' H'':=s1.comp s2 fun _ q=>Same.free s1.h q
theorem Step.ss(b:Same B H)(s:Step H H0 H H0' H'):SStep B H0 H0' H':=⟨b.trans s.h,s.z,fun a o e=>(s.n a o e).imp id fun q=>q.imp (fun q=>Same.free b q) id,s.i⟩
theorem SStep.refl(b:Same B H)(i:Same H0 H):SStep B H0 H0 H:=⟨b,Same.refl _,fun _ _ e=>.inl e,i⟩
theorem SStep.trans(s1:SStep B H0 H0' H')(s2:SStep B H0' H0'' H''):SStep B H0 H0'' H'':=⟨s2.b,s1.z.trans s2.z,fun a o e=>(s2.n a o e).elim (fun q=>s1.n a o q) .inr,s2.i⟩
theorem RR.step(r:RR K C Hs H0 H v s)(st:Step H H0 H H0' H'):RR K C Hs H0' H' v s:=by
 cases s with
 | no=>exact r
 | sh d=>exact RD.mono st.z r
 | bo ds=>obtain⟨l,xs,e,h,q⟩:=r;exact⟨l,xs,e,st.h _ _ h,q.mono st.z⟩
 | bd ks ds|bt ks ds|bw ks ds=>obtain⟨l,xs,e,h,hk,q⟩:=r;exact⟨l,xs,e,st.h _ _ h,hk,q.mono st.z⟩
 | own ds =>
  obtain⟨l,xs,e,h,n,m,q⟩:=r;refine⟨l,xs,e,st.h _ _ h,?_,m,q.mono st.z⟩
  cases z:H0' l with
  | none=>rfl
  | some o =>
   rcases st.n l o z with y|y|y
   ·rw[n] at y;cases y
   ·rw[h] at y;cases y
   ·have:=st.i l o z;rw[st.h _ _ h] at this;cases this;cases y
 | od ks ds|ot ks ds|dw ks ds =>
  obtain⟨l,xs,e,h,n,m,hk,q⟩:=r;refine⟨l,xs,e,st.h _ _ h,?_,m,hk,q.mono st.z⟩
  cases z:H0' l with
  | none=>rfl
  | some o =>
   rcases st.n l o z with y|y|y
   ·rw[n] at y;cases y
   ·rw[h] at y;cases y
   ·have:=st.i l o z;rw[st.h _ _ h] at this;cases this;cases y
theorem RR.weak{Hs':Hp}(r:RR K C Hs' H0 H v s)(w:∀a,Hs' a=none->Hs a=none):RR K C Hs H0 H v s:=by
 cases s with
 | own ds=>obtain⟨l,xs,e,h,n,m,q⟩:=r;exact⟨l,xs,e,h,n,w _ m,q⟩
 | od ks ds|ot ks ds|dw ks ds=>obtain⟨l,xs,e,h,n,m,q⟩:=r;exact⟨l,xs,e,h,n,w _ m,q⟩
 | _=>exact r
theorem RSl.owned(r:RSl K C B H0 H v s)(o:JR s=true):∃l,v=.ref l/\H l≠none/\H0 l=none/\B l=none:=by
 cases s with
 | own ds=>obtain⟨l,xs,e,h,n,m,q⟩:=r;simp_all
 | od ks ds|ot ks ds|dw ks ds=>obtain⟨l,xs,e,h,n,m,q⟩:=r;simp_all
 | _=>cases o
theorem RR.owned(r:RR K C Hs H0 H v s)(o:JR s=true):∃l,v=.ref l/\H l≠none/\H0 l=none/\Hs l=none:=by
 cases s with
 | own ds=>obtain⟨l,xs,e,h,n,m,q⟩:=r;simp_all
 | od ks ds|ot ks ds|dw ks ds=>obtain⟨l,xs,e,h,n,m,q⟩:=r;simp_all
 | _=>cases o
theorem EnvR.step(I:EnvR K C B H0 H σ E)(st:Step H H0 H H0' H'):EnvR K C B H0' H' σ E:=by
 refine⟨I.b.trans st.h,st.i,I.len,fun i s e=>?_,I.sep,I.t⟩;rcases I.at' i s e with z|⟨v,h1,h2⟩
 ·exact .inl z
 ·refine .inr ⟨v,h1,?_⟩
  cases s with
  | no=>trivial
  | sh d=>exact RD.mono st.z h2
  | bo ds=>obtain⟨l,xs,e,h,q⟩:=h2;exact⟨l,xs,e,h,q.mono st.z⟩
  | own ds=>exact RR.step (Hs:=B) (s:=.own ds) h2 st
  | bd ks ds|bt ks ds|bw ks ds=>obtain⟨l,xs,e,h,hk,q⟩:=h2;exact⟨l,xs,e,h,hk,q.mono st.z⟩
  | od ks ds=>exact RR.step (Hs:=B) (s:=.od ks ds) h2 st
  | ot ks ds=>exact RR.step (Hs:=B) (s:=.ot ks ds) h2 st
  | dw ks ds=>exact RR.step (Hs:=B) (s:=.dw ks ds) h2 st
theorem EnvR.sub{E':List Sl}(I:EnvR K C B H0 H σ E)(hl:E'.length=E.length)(h:∀(i:Nat) (s:Sl),E'[i]?=some s->s=.no\/E[i]?=some s):EnvR K C B H0 H σ E':=by
 refine⟨I.b,I.h,I.len.trans hl.symm,fun i s e=>?_,fun i j s t v hij e1 e2 o1 o2=>?_,I.t⟩
 ·rcases h i s e with z|z
  ·exact .inl z
  ·exact I.at' i s z
 ·rcases h i _ e1 with z|z
  ·subst z;cases o1
  ·rcases h j _ e2 with y|y
   ·subst y;cases o2
   ·exact I.sep i j s t v hij z y o1 o2
theorem EnvR.put(I:EnvR K C B H0 H σ E){i:Nat}(hi:i<E.length){Hs:Hp}(hB:∀a,Hs a=none->B a=none)(hf:∀(j:Nat) (t:Sl) (l:Qd),E[j]?=some t->JR t=true->σ[j]?=some (some (.ref l))->Hs l≠none)(r:RR K C Hs H0 H v s)(hb:JmT s=false):EnvR K C B H0 H (σ.set i (some v)) (E.set i s):=by
 refine⟨I.b,I.h,by simp[I.len],fun j t e=>?_,fun j k s1 s2 u hjk e1 e2 o1 o2 e3 e4=>?_,I.t⟩
 ·rw[Qv] at e
  by_cases hj:i=j
  ·subst hj;rw[if_pos rfl,if_pos hi] at e;cases e;refine .inr ⟨v,by rw[Qv];simp[I.len,hi],?_⟩
   cases s with
   | no=>trivial
   | sh d=>exact r
   | own ds=>obtain⟨l,xs,e,h,n,m,q⟩:=r;exact⟨l,xs,e,h,n,hB _ m,q⟩
   | od ks ds|ot ks ds|dw ks ds=>obtain⟨l,xs,e,h,n,m,q⟩:=r;exact⟨l,xs,e,h,n,hB _ m,q⟩
   | _=>cases hb
  ·rw[if_neg hj] at e;rcases I.at' j t e with z|⟨u,h1,h2⟩
   ·exact .inl z
   simp_all
 ·rw[Qv] at e1 e2 e3 e4
  by_cases hj:i=j
  ·subst hj;rw[if_neg hjk] at e2 e4;rw[if_pos rfl,if_pos hi] at e1;rw[if_pos rfl,if_pos (by rw[I.len];exact hi)] at e3;cases e3;cases e1;obtain⟨l,e,_,_,m⟩:=r.owned o1;subst e;exact hf k _ l e2 o2 e4 m
  ·rw[if_neg hj] at e1 e3
   by_cases hk:i=k
   ·subst hk;rw[if_pos rfl,if_pos hi] at e2;rw[if_pos rfl,if_pos (by rw[I.len];exact hi)] at e4;cases e2;have e4':v=u:=Q6 (Q6 e4);subst e4';obtain⟨l,e,_,_,m⟩:=r.owned o2;subst e;exact hf j _ l e1 o1 e3 m
   ·rw[if_neg hk] at e2 e4;exact I.sep j k _ _ u hjk e1 e2 o1 o2 e3 e4
theorem EnvR.ownG(I:EnvR K C B H0 H σ E){j:Nat}{t:Sl}{l:Qd}(e1:E[j]?=some t)(ho:JR t=true)(e2:σ[j]?=some (some (.ref l))):H l≠none/\H0 l=none/\B l=none:=by
 rcases I.at' j _ e1 with z|⟨v,h1,h2⟩
 ·subst z;cases ho
 ·rw[e2] at h1;cases h1;obtain⟨l',e,h⟩:=h2.owned ho;cases e;exact h
theorem EnvR.put'{H1 H01:Hp}(I:EnvR K C B H0 H σ E)(st:Step H H0 H H01 H1){i:Nat}(hi:i<E.length)(r:RR K C H H01 H1 v s)(hb:JmT s=false):EnvR K C B H01 H1 (σ.set i (some v)) (E.set i s) :=
 (I.step st).put hi (fun a q=>Same.free I.b q) (fun j t l e1 o1 e2=>(I.ownG e1 o1 e2).1) r hb
noncomputable def JeC:Option HO->Option HO
 | some o=>if isT o=true then some o else none
 | none=>none
noncomputable def JK(Hs H0 H:Hp):Hp:=fun a=>match H0 a with
 | some o=>some o
 | none=>match Hs a with
  | none=>H a
  | some _=>JeC (H a)
theorem ZM{o:Option HO}{u:HO}(e:JeC o=some u):o=some u/\isT u=true:=by
 cases o with
 | none=>cases e
 | some w=>grind[JeC]
theorem JF(i:Same H0 H):Step Hs H0 H (JK Hs H0 H) H:=by
 refine⟨Same.refl _,fun a o e=>by unfold JK;rw[e],fun a o e=>?_,fun a o e=>?_⟩
 ·grind[JK,ZM]
 ·unfold JK at e
  cases h:H0 a with
  | some u=>rw[h] at e;cases e;exact i a _ h
  | none =>
   rw[h] at e
   cases h2:Hs a with
   | none=>rw[h2] at e;exact e
   | some u=>rw[h2] at e;exact(ZM e).1
theorem Jbs{a:Qd}{o:HO}(i:Same H0 H)(n:Hs a=none)(h:H a=some o):JK Hs H0 H a=some o:=by
 unfold JK
 cases z:H0 a with
 | some u=>rw[i a u z] at h;exact h
 | none=>simp_all
theorem Jew{a:Qd}{o:HO}(i:Same H0 H)(n:isT o=true)(h:H a=some o):JK Hs H0 H a=some o:=by
 unfold JK
 cases z:H0 a with
 | some u=>rw[i a u z] at h;exact h
 | none=>grind[JeC]
theorem Jev{a:Qd}{xs:List V}(i:Same H0 H)(h:SqT K H a xs):SqT K (JK Hs H0 H) a xs:=by
 rcases h with (h|⟨o,h⟩)|h
 ·exact .inl (.inl (Jew i rfl h))
 ·exact .inl (.inr ⟨o,Jew i rfl h⟩)
 ·exact .inr h
noncomputable def Sl.frz:Sl->Option D
 | .no=>none
 | .sh d=>some d
 | .bo _=>none
 | .own ds=>some (.lst ds)
 | .bd _ _=>none
 | .od ks ds=>some (.dct ks ds)
 | .bt _ _=>none
 | .ot _ _=>none
 | .bw _ _=>none
 | .dw _ _=>none
theorem RR.frz{d:D}(i:Same H0 H)(r:RR K C Hs H0 H v s)(e:s.frz=some d):RD K C (JK Hs H0 H) v d:=by
 have st:Step Hs H0 H (JK Hs H0 H) H:=JF i
 cases s with
 | sh d'=>cases e;exact RD.mono st.z r
 | own ds=>cases e;obtain⟨l,xs,e,h,n,m,q⟩:=r;subst e;exact .mkL (Jbs i m h) (q.mono st.z)
 | od ks ds=>cases e;obtain⟨l,xs,e,h,n,m,hk,q⟩:=r;subst e;exact .mkD (Jbs i m h) hk (q.mono st.z)
 | _=>cases e
end
end LE

namespace LE
open PySem L2 LR

noncomputable abbrev En:=List Sl
noncomputable abbrev Ev:=En->Option Sl
section
variable(K:Qo)(C:Qd)
noncomputable def SE(te:TE)(ev:Ev):Prop:=∀(B H0 H:Hp) (σ:St) (E:En) (r:Sl) (Q:VK),EnvR K C B H0 H σ E->ev E=some r ->
 (∀v H0' H',Step H H0 H H0' H'->RR K C H H0' H' v r->Q v H')->te σ H Q
noncomputable def ST(t:TT)(ev:En->Option Bool):Prop:=∀(B H0 H:Hp) (σ:St) (E:En) (r:Bool) (Q:Bool->Hp->Prop),EnvR K C B H0 H σ E->ev E=some r ->
 (∀H0' H',Step H H0 H H0' H'->Q r H')->t σ H Q
inductive RRL (Hs H0 H:Hp):List V->List Sl->Prop
 | nil:RRL Hs H0 H [] []
 | cons {v:V} {s:Sl} {vs:List V} {ss:List Sl}:RR K C Hs H0 H v s->RRL Hs H0 H vs ss->RRL Hs H0 H (v::vs) (s::ss)
noncomputable def SA(t:TA)(ev:En->Option (List Sl)):Prop:=∀(B H0 H:Hp) (σ:St) (E:En) (r:List Sl) (Q:List V->Hp->Prop),EnvR K C B H0 H σ E->ev E=some r ->
 (∀vs H0' H',Step H H0 H H0' H'->RRL K C H H0' H' vs r->Q vs H')->t σ H Q
noncomputable def OpS(r:R2)(f:Sl->Sl->Option Sl):Prop:=∀(Hs H0 H:Hp) (x y:V) (a b c:Sl) (Q:VK),Same H0 H->Same Hs H->RR K C Hs H0 H x a->RR K C Hs H0 H y b->f a b=some c ->
 (∀v H0' H',Step Hs H0 H H0' H'->RR K C Hs H0' H' v c->Q v H')->r x y H Q
noncomputable def UnS(r:V->Hp->VK->Prop)(f:Sl->Option Sl):Prop:=∀(Hs H0 H:Hp) (x:V) (a c:Sl) (Q:VK),Same H0 H->Same Hs H->RR K C Hs H0 H x a->f a=some c ->
 (∀v H0' H',Step Hs H0 H H0' H'->RR K C Hs H0' H' v c->Q v H')->r x H Q
noncomputable def Vc(r:List V->Hp->VK->Prop)(f:List Sl->Option Sl):Prop:=∀(Hs H0 H:Hp) (xs:List V) (as:List Sl) (c:Sl) (Q:VK),Same H0 H->Same Hs H->RRL K C Hs H0 H xs as->f as=some c ->
 (∀v H0' H',Step Hs H0 H H0' H'->RR K C Hs H0' H' v c->Q v H')->r xs H Q
end

noncomputable def Sl.lend:Sl->Option Sl
 | .no=>none
 | .sh d=>some (.sh d)
 | .bo ds=>some (.bo ds)
 | .own ds=>some (.bo ds)
 | .bd ks ds=>some (.bd ks ds)
 | .od ks ds=>some (.bd ks ds)
 | .bt ks ds=>some (.bt ks ds)
 | .ot ks ds=>some (.bt ks ds)
 | .bw ks ds=>some (.bw ks ds)
 | .dw ks ds=>some (.bw ks ds)
noncomputable def Jb(i:Nat):Ev:=fun E=>E[i]?.bind Sl.lend
noncomputable def eC(d:D):Ev:=fun _=>some (.sh d)
noncomputable def e2(f:Sl->Sl->Option Sl)(a b:Ev):Ev:=fun E=>(a E).bind fun x=>(b E).bind fun y=>f x y
noncomputable def e1(f:Sl->Option Sl)(a:Ev):Ev:=fun E=>(a E).bind f
noncomputable def a0:En->Option (List Sl):=fun _=>some []
noncomputable def aC(a:Ev)(as:En->Option (List Sl)):En->Option (List Sl):=fun E=>(a E).bind fun x=>(as E).bind fun xs=>some (x::xs)
noncomputable def eF(f:List Sl->Option Sl)(as:En->Option (List Sl)):Ev:=fun E=>(as E).bind f
noncomputable def bool?:Sl->Option Bool
 | .sh (.bl b)=>some b
 | _=>none
noncomputable def Jdv(a b:Ev):Ev:=fun E=>((a E).bind bool?).bind fun k=>if k=true then b E else some (.sh (.bl false))
noncomputable def eIf(c:En->Option Bool)(a b:Ev):Ev:=fun E=>(c E).bind fun k=>if k=true then a E else b E
noncomputable def sh?:Sl->Option D
 | .sh d=>some d
 | _=>none
noncomputable def Jbl(f g:Sl->Sl->Option Sl)(a b c:Ev):Ev:=fun E=>((a E).bind sh?).bind fun x=>((b E).bind sh?).bind fun y=>((f (.sh x) (.sh y)).bind bool?).bind fun k=>if k=true then((c E).bind sh?).bind fun z=>g (.sh y) (.sh z) else some (.sh (.bl false))
noncomputable def tB?(a:Ev):En->Option Bool:=fun E=>(a E).bind bool?
noncomputable def tAnd?(a b:En->Option Bool):En->Option Bool:=fun E=>(a E).bind fun k=>if k=true then b E else some false
noncomputable def tOr?(a b:En->Option Bool):En->Option Bool:=fun E=>(a E).bind fun k=>if k=true then some true else b E
noncomputable def tNot?(a:En->Option Bool):En->Option Bool:=fun E=>(a E).bind fun k=>some (!k)

section
variable{K:Qo}{C:Qd}
theorem bind_some{α β:Type}{x:Option α}{f:α->Option β}{b:β}(e:x.bind f=some b):∃a,x=some a/\f a=some b:=by
 cases x with
 | none=>cases e
 | some a=>exact⟨a,rfl,e⟩
theorem UE{s:Sl}{b:Bool}(e:bool? s=some b):s=.sh (.bl b):=by
 cases s with
 | sh d=>cases d with
  | bl x=>cases e;rfl
  | _=>cases e
 | _=>cases e
variable{ta tb tc te:TE}{ea eb ec:Ev}
theorem Jj(i:Nat):SE K C (Y0 i) (Jb i):=by
 intro B H0 H σ E r Q I e q;obtain⟨s,h,e⟩:=bind_some e;rcases I.at' i s h with z|⟨v,h1,h2⟩
 ·subst z;cases e
 ·refine⟨v,h1,q v H0 H (.refl I.h) ?_⟩
  cases s with
  | no=>cases e
  | sh d=>cases e;exact h2
  | bo ds=>cases e;obtain⟨l,xs,e,hl,r⟩:=h2;exact⟨l,xs,e,I.b _ _ hl,r⟩
  | own ds=>cases e;obtain⟨l,xs,e,hl,_,_,r⟩:=h2;exact⟨l,xs,e,hl,r⟩
  | bd ks ds|bt ks ds|bw ks ds=>cases e;obtain⟨l,xs,e,hl,r⟩:=h2;exact⟨l,xs,e,I.b _ _ hl,r⟩
  | od ks ds|ot ks ds|dw ks ds=>cases e;obtain⟨l,xs,e,hl,_,_,r⟩:=h2;exact⟨l,xs,e,hl,r⟩
theorem JlU:SE K C (tC .non) (eC .non):=fun _ _ _ _ _ _ _ I e q=>by cases e;exact q _ _ _ (.refl I.h) .non
theorem Jsp{b:Bool}:SE K C (tC (.bl b)) (eC (.bl b)):=fun _ _ _ _ _ _ _ I e q=>by cases e;exact q _ _ _ (.refl I.h) (.bl b)
theorem JW{i:Int}:SE K C (tC (.int i)) (eC (.int i)):=fun _ _ _ _ _ _ _ I e q=>by cases e;exact q _ _ _ (.refl I.h) (.int i)
theorem JeV{x:Str}:SE K C (tC (.str x)) (eC (.str x)):=fun _ _ _ _ _ _ _ I e q=>by cases e;exact q _ _ _ (.refl I.h) (.str x)
theorem JV{r:R2}{f:Sl->Sl->Option Sl}(ho:OpS K C r f)(ha:SE K C ta ea)(hb:SE K C tb eb):SE K C (tOp r ta tb) (e2 f ea eb):=by
 intro B H0 H σ E c Q I e q;obtain⟨a,e1,e⟩:=bind_some e;obtain⟨b,e2,e⟩:=bind_some e;exact ha B H0 H σ E a _ I e1 fun x H1 H1' s1 r1=>hb B H1 H1' σ E b _ (I.step s1) e2 fun y H2 H2' s2 r2=>ho H H2 H2' x y a b c Q s2.i (s1.h.trans s2.h) (r1.step s2) (r2.weak fun a q=>Same.free s1.h q) e fun v H3 H3' s3 r3=>q v H3 H3' ((s1.trans s2).comp s3 fun _ z=>z) r3
theorem Jgh{r:V->Hp->VK->Prop}{f:Sl->Option Sl}(ho:UnS K C r f)(ha:SE K C ta ea):SE K C (tUn r ta) (e1 f ea):=by intro B H0 H σ E c Q I e q;obtain⟨a,e1,e⟩:=bind_some e;exact ha B H0 H σ E a _ I e1 fun x H1 H1' s1 r1=>ho H H1 H1' x a c Q s1.i s1.h r1 e fun v H3 H3' s3 r3=>q v H3 H3' (s1.comp s3 fun _ z=>z) r3
theorem JG:SA K C YZ a0:=fun _ _ _ _ _ _ _ I e q=>by cases e;exact q _ _ _ (.refl I.h) .nil
theorem RRL.step{Hs H0 H H0' H':Hp}{vs:List V}{ss:List Sl}(r:RRL K C Hs H0 H vs ss)(st:Step H H0 H H0' H'):RRL K C Hs H0' H' vs ss:=by
 induction r with
 | nil=>exact .nil
 | cons h _ ih=>exact .cons (h.step st) ih
theorem RRL.weak{Hs Hs' H0 H:Hp}{vs:List V}{ss:List Sl}(r:RRL K C Hs' H0 H vs ss)(w:∀a,Hs' a=none->Hs a=none):RRL K C Hs H0 H vs ss:=by
 induction r with
 | nil=>exact .nil
 | cons h _ ih=>exact .cons (h.weak w) ih
theorem Jn{tr:TA}{er:En->Option (List Sl)}(ha:SE K C ta ea)(hr:SA K C tr er):SA K C (Yf ta tr) (aC ea er):=by
 intro B H0 H σ E c Q I e q;obtain⟨a,e1,e⟩:=bind_some e;obtain⟨b,e2,e⟩:=bind_some e;cases e;exact ha B H0 H σ E a _ I e1 fun x H1 H1' s1 r1=>hr B H1 H1' σ E b _ (I.step s1) e2 fun y H2 H2' s2 r2=>q _ H2 H2' (s1.trans s2) (.cons (r1.step s2) (r2.weak fun a q=>Same.free s1.h q))
theorem Jgg{r:List V->Hp->VK->Prop}{t:TA}{ev:En->Option (List Sl)}{f:List Sl->Option Sl}(hc:Vc K C r f)(ha:SA K C t ev):SE K C (tCB r t) (eF f ev):=by intro B H0 H σ E c Q I e q;obtain⟨a,e1,e⟩:=bind_some e;exact ha B H0 H σ E a _ I e1 fun x H1 H1' s1 r1=>hc H H1 H1' x a c Q s1.i s1.h r1 e fun v H3 H3' s3 r3=>q v H3 H3' (s1.comp s3 fun _ z=>z) r3
theorem JlS(ha:SE K C ta ea)(hb:SE K C tb eb):SE K C (JiA ta tb) (Jdv ea eb):=by
 intro B H0 H σ E c Q I e q;obtain⟨k,e1,e⟩:=bind_some e;obtain⟨a,e0,e1⟩:=bind_some e1;refine ha B H0 H σ E a _ I e0 fun x H1 H1' s1 r1=>?_
 rw[UE e1] at r1;refine⟨k,RD.blI r1,?_⟩
 cases k with
 | true=>exact hb B H1 H1' σ E c Q (I.step s1) e fun y H2 H2' s2 r2=>q y H2 H2' (s1.trans s2) (r2.weak fun a q=>Same.free s1.h q)
 | false=>cases e;solve_by_elim
theorem Jqs{c:TT}{cv:En->Option Bool}(hc:ST K C c cv)(ha:SE K C ta ea)(hb:SE K C tb eb):SE K C (tIf c ta tb) (eIf cv ea eb):=by
 intro B H0 H σ E r Q I e q;obtain⟨k,e1,e⟩:=bind_some e;refine hc B H0 H σ E k _ I e1 fun H1 H1' s1=>?_
 cases k with
 | true=>exact ha B H1 H1' σ E r Q (I.step s1) e fun y H2 H2' s2 r2=>q y H2 H2' (s1.trans s2) (r2.weak fun a q=>Same.free s1.h q)
 | false=>exact hb B H1 H1' σ E r Q (I.step s1) e fun y H2 H2' s2 r2=>q y H2 H2' (s1.trans s2) (r2.weak fun a q=>Same.free s1.h q)
theorem Wx{s:Sl}{d:D}(e:sh? s=some d):s=.sh d:=by
 cases s with
 | sh d'=>cases e;rfl
 | _=>cases e
theorem JkS{r r':R2}{f g:Sl->Sl->Option Sl}(ho:OpS K C r f)(ho':OpS K C r' g)(ha:SE K C ta ea)(hb:SE K C tb eb)(hc:SE K C tc ec):SE K C (Jb3 r r' ta tb tc) (Jbl f g ea eb ec):=by
 intro B H0 H σ E c Q I e q;obtain⟨a,e1,e⟩:=bind_some e;obtain⟨a',e1,f1⟩:=bind_some e1;obtain rfl:=Wx f1;obtain⟨b,e2,e⟩:=bind_some e;obtain⟨b',e2,f2⟩:=bind_some e2;obtain rfl:=Wx f2;obtain⟨k,e3,e⟩:=bind_some e;obtain⟨z,e4,e3⟩:=bind_some e3;refine ha B H0 H σ E _ _ I e1 fun x H1 H1' s1 r1=>hb B H1 H1' σ E _ _ (I.step s1) e2 fun y H2 H2' s2 r2=>?_
 have x2:RD K C H2 x a:=RD.mono s2.z r1
 have y2:RD K C H2 y b:=r2;refine ho H2' H2 H2' x y (.sh a) (.sh b) z _ s2.i (Same.refl _) x2 y2 e4 fun w H3 H3' s3 r3=>?_
 rw[UE e3] at r3;have s13:=(s1.trans s2).trans s3;refine⟨k,RD.blI r3,?_⟩
 cases k with
 | false=>cases e;solve_by_elim
 | true =>
  obtain⟨d,e5,e⟩:=bind_some e;obtain⟨d',e5,f5⟩:=bind_some e5;obtain rfl:=Wx f5;refine hc B H3 H3' σ E _ _ (I.step s13) e5 fun u H4 H4' s4 r4=>?_
  exact ho' H H4 H4' y u (.sh b) (.sh d) c Q s4.i (s13.h.trans s4.h) (RD.mono (s3.z.trans s4.z) y2) (show RD K C H4 u d from r4) e fun v H5 H5' s5 r5=>q v H5 H5' ((s13.trans s4).comp s5 fun _ z=>z) r5

theorem JM(ha:SE K C te ea):ST K C (Jdd te) (tB? ea):=by
 intro B H0 H σ E k Q I e q;obtain⟨a,e1,e⟩:=bind_some e;refine ha B H0 H σ E a _ I e1 fun x H1 H1' s1 r1=>?_
 rw[UE e] at r1;exact⟨k,RD.blI r1,q _ _ s1⟩
theorem JoA{c d:TT}{ev ew:En->Option Bool}(hc:ST K C c ev)(hd:ST K C d ew):ST K C (JoF c d) (tAnd? ev ew):=by
 intro B H0 H σ E k Q I e q;obtain⟨a,e1,e⟩:=bind_some e;refine hc B H0 H σ E a _ I e1 fun H1 H1' s1=>?_
 cases a with
 | true=>exact hd B H1 H1' σ E k Q (I.step s1) e fun H2 H2' s2=>q H2 H2' (s1.trans s2)
 | false=>cases e;exact q _ _ s1
theorem Ja8{c d:TT}{ev ew:En->Option Bool}(hc:ST K C c ev)(hd:ST K C d ew):ST K C (tOr c d) (tOr? ev ew):=by
 intro B H0 H σ E k Q I e q;obtain⟨a,e1,e⟩:=bind_some e;refine hc B H0 H σ E a _ I e1 fun H1 H1' s1=>?_
 cases a with
 | false=>exact hd B H1 H1' σ E k Q (I.step s1) e fun H2 H2' s2=>q H2 H2' (s1.trans s2)
 | true=>cases e;exact q _ _ s1
theorem JoB{c:TT}{ev:En->Option Bool}(hc:ST K C c ev):ST K C (JoG c) (tNot? ev):=by
 intro B H0 H σ E k Q I e q;obtain⟨a,e1,e⟩:=bind_some e;cases e
 solve_by_elim
end

noncomputable def int?:Sl->Option Int
 | .sh (.int i)=>some i
 | _=>none
noncomputable def str?:Sl->Option Str
 | .sh (.str i)=>some i
 | _=>none
noncomputable def tup?:Sl->Option (List D)
 | .sh (.tup i)=>some i
 | _=>none
noncomputable def own?:Sl->Option (List D)
 | .own i=>some i
 | _=>none
theorem JnG{i:List D}:own? (.own i)=some i:=rfl
theorem JA{s:Sl}{i:Int}(e:int? s=some i):s=.sh (.int i):=by
 cases s with
 | sh d=>cases d with
  | int x=>cases e;rfl
  | _=>cases e
 | _=>cases e
theorem WC{s:Sl}{i:Str}(e:str? s=some i):s=.sh (.str i):=by
 cases s with
 | sh d=>cases d with
  | str x=>cases e;rfl
  | _=>cases e
 | _=>cases e
theorem Vy{s:Sl}{i:List D}(e:tup? s=some i):s=.sh (.tup i):=by
 cases s with
 | sh d=>cases d with
  | tup x=>cases e;rfl
  | _=>cases e
 | _=>cases e
theorem JbJ{s:Option Sl}{i:List D}(e:s.bind own?=some i):s=some (.own i):=by
 obtain⟨s,rfl,e⟩:=bind_some e
 cases s with
 | own x=>cases e;rfl
 | _=>cases e
noncomputable def on1{α:Type}(f:Sl->Option α):List Sl->Option α
 | [s]=>f s
 | _=>none
noncomputable def on2{α:Type}(f:Sl->Sl->Option α):List Sl->Option α
 | [s,t]=>f s t
 | _=>none
section
variable{α:Type}{as:List Sl}{c:α}
theorem Jnn{f:Sl->Option α}{s:Sl}:on1 f [s]=f s:=rfl
theorem Jno{f:Sl->Sl->Option α}{s t:Sl}:on2 f [s,t]=f s t:=rfl
theorem Yd{f:Sl->Option α}(e:on1 f as=some c):∃s,as=[s]/\f s=some c:=by
 rcases as with _|⟨s,_|⟨t,u⟩⟩
 ·cases e
 ·exact⟨s,rfl,e⟩
 ·cases e
theorem Z0{f:Sl->Sl->Option α}(e:on2 f as=some c):∃s t,as=[s,t]/\f s t=some c:=by
 rcases as with _|⟨s,_|⟨t,_|⟨u,w⟩⟩⟩
 ·cases e
 ·cases e
 ·exact⟨s,t,rfl,e⟩
 ·cases e
end
noncomputable def onI{α:Type}(f:Int->Option α):List Sl->Option α:=on1 fun s=>(int? s).bind f
noncomputable def JhG{α:Type}(f:Int->Int->Option α):List Sl->Option α:=on2 fun s t=>(int? s).bind fun a=>(int? t).bind (f a)
noncomputable def onT{α:Type}(f:Str->Option α):List Sl->Option α:=on1 fun s=>(str? s).bind f
section
variable{α:Type}{as:List Sl}{c:α}
theorem Jnr{f:Int->Option α}{i:Int}:onI f [.sh (.int i)]=f i:=rfl
theorem Jj9{f:Int->Int->Option α}{i j:Int}:JhG f [.sh (.int i),.sh (.int j)]=f i j:=rfl
theorem Jns{f:Str->Option α}{i:Str}:onT f [.sh (.str i)]=f i:=rfl
theorem JhH{f:Int->Option α}(e:onI f as=some c):∃i,as=[.sh (.int i)]/\f i=some c:=by obtain⟨s,rfl,e⟩:=Yd e;obtain⟨i,e1,e⟩:=bind_some e;exact⟨i,by rw[JA e1],e⟩
theorem Ja3{f:Int->Int->Option α}(e:JhG f as=some c):∃i j,as=[.sh (.int i),.sh (.int j)]/\f i j=some c:=by obtain⟨s,t,rfl,e⟩:=Z0 e;obtain⟨i,e1,e⟩:=bind_some e;obtain⟨j,e2,e⟩:=bind_some e;exact⟨i,j,by rw[JA e1,JA e2],e⟩
end
noncomputable def D.m:D->Option (List D)
 | .lst ds=>some ds
 | _=>none
noncomputable def D.r:D->Option (List D)
 | .lst ds=>some ds
 | .fz ds=>some ds
 | _=>none
noncomputable def D.q:D->Option (List D)
 | .lst ds=>some ds
 | .fz ds=>some ds
 | .tup ds=>some ds
 | _=>none
noncomputable def Sl.c(f:D->Option (List D)):Sl->Option (List D)
 | .sh d=>f d
 | .bo ds=>some ds
 | .own ds=>some ds
 | .no=>none
 | .bd _ _=>none
 | .od _ _=>none
 | .bt _ _=>none
 | .ot _ _=>none
 | .bw _ _=>none
 | .dw _ _=>none
noncomputable def Sl.m:Sl->Option (List D):=Sl.c D.m
noncomputable def Sl.r:Sl->Option (List D):=Sl.c D.r
noncomputable def Sl.q:Sl->Option (List D):=Sl.c D.q
noncomputable def Sl.d:Sl->Option D
 | .sh d=>some d
 | .bo ds=>some (.lst ds)
 | .own ds=>some (.lst ds)
 | .bd ks ds=>some (.dct ks ds)
 | .od ks ds=>some (.dct ks ds)
 | .bt _ _=>none
 | .bw _ _=>none
 | .ot _ _=>none
 | .dw _ _=>none
 | .no=>none
section
variable{K:Qo}{C:Qd}{Hs H0 H:Hp}{v:V}{s:Sl}{ds:List D}{d:D}
theorem RR.m(r:RR K C Hs H0 H v s)(i:Same H0 H)(e:s.m=some ds):∃l xs,v=.ref l/\H l=some (.lst xs)/\RDL K C H0 xs ds:=by
 cases s with
 | bo es=>cases e;exact r
 | own es=>cases e;obtain⟨l,xs,h1,h2,_,_,h3⟩:=r;exact⟨l,xs,h1,h2,h3⟩
 | sh d=>cases d with
  | lst es=>cases e;obtain⟨l,xs,h1,h2,h3⟩:=RD.lstI r;exact⟨l,xs,h1,i _ _ h2,h3⟩
  | _=>cases e
 | _=>cases e
theorem RR.r(r:RR K C Hs H0 H v s)(i:Same H0 H)(e:s.r=some ds):∃l xs,v=.ref l/\SqL K H l xs/\RDL K C H0 xs ds:=by
 cases s with
 | bo es=>cases e;obtain⟨l,xs,h1,h2,h3⟩:=r;exact⟨l,xs,h1,.of h2,h3⟩
 | own es=>cases e;obtain⟨l,xs,h1,h2,_,_,h3⟩:=r;exact⟨l,xs,h1,.of h2,h3⟩
 | sh d=>cases d with
  | lst es=>cases e;obtain⟨l,xs,h1,h2,h3⟩:=RD.lstI r;exact⟨l,xs,h1,.of (i _ _ h2),h3⟩
  | fz es=>cases e;obtain⟨l,xs,h1,h2,h3⟩:=RD.fzI r;exact⟨l,xs,h1,i.seq h2,h3⟩
  | _=>cases e
 | _=>cases e
theorem RR.q(r:RR K C Hs H0 H v s)(i:Same H0 H)(e:s.q=some ds):∃l xs,v=.ref l/\(SqL K H l xs\/SqT K H l xs)/\RDL K C H0 xs ds:=by
 cases s with
 | bo es=>cases e;obtain⟨l,xs,h1,h2,h3⟩:=r;exact⟨l,xs,h1,.inl (.of h2),h3⟩
 | own es=>cases e;obtain⟨l,xs,h1,h2,_,_,h3⟩:=r;exact⟨l,xs,h1,.inl (.of h2),h3⟩
 | sh d=>cases d with
  | lst es=>cases e;obtain⟨l,xs,h1,h2,h3⟩:=RD.lstI r;exact⟨l,xs,h1,.inl (.of (i _ _ h2)),h3⟩
  | fz es=>cases e;obtain⟨l,xs,h1,h2,h3⟩:=RD.fzI r;exact⟨l,xs,h1,.inl (i.seq h2),h3⟩
  | tup es=>cases e;obtain⟨l,xs,h1,h2,h3⟩:=RD.tupI r;exact⟨l,xs,h1,.inr (i.seqT h2),h3⟩
  | _=>cases e
 | _=>cases e
theorem RR.dat(r:RR K C Hs H0 H v s)(i:Same H0 H)(e:s.d=some d):RD K C H v d:=by
 cases s with
 | bo es=>cases e;obtain⟨l,xs,h1,h2,h3⟩:=r;subst h1;exact .mkL h2 (h3.mono i)
 | own es=>cases e;obtain⟨l,xs,h1,h2,_,_,h3⟩:=r;subst h1;exact .mkL h2 (h3.mono i)
 | bd _ _=>cases e;obtain⟨l,xs,h1,h2,hk,h3⟩:=r;subst h1;exact .mkD h2 hk (h3.mono i)
 | od _ _=>cases e;obtain⟨l,xs,h1,h2,_,_,hk,h3⟩:=r;subst h1;exact .mkD h2 hk (h3.mono i)
 | sh d'=>cases e;exact RD.mono i r
 | _=>cases e
theorem YN{p:Qd}{xs:List V}{Q:VK}(i:Same H0 H)(hs:Same Hs H)(hp:H p=none)(r:RDL K C H0 xs ds)(q:∀v H0' H',Step Hs H0 H H0' H'->RR K C Hs H0' H' v (.own ds)->Q v H'):Q (.ref p) (upd H p (.lst xs)) :=
 q _ H0 _ ⟨.new hp,Same.refl _,fun _ _ e=>.inl e,i.trans (.new hp)⟩ ⟨p,xs,rfl,Jl,Same.free i hp,Same.free hs hp,r⟩
theorem Zr{p:Qd}{xs:List V}{Q:VK}(i:Same H0 H)(hs:Same Hs H)(hp:H p=none)(r:RDL K C H0 xs ds)(q:∀v H0' H',Step Hs H0 H H0' H'->RR K C Hs H0' H' v (.sh (.tup ds))->Q v H'):Q (.ref p) (upd H p (.tup xs)):=by
 have h0:H0 p=none:=Same.free i hp;refine q _ (upd H0 p (.tup xs)) _ ⟨.new hp,.new h0,fun a o e=>?_,fun a o e=>?_⟩ ?_
 ·by_cases h:a=p
  ·subst h;exact .inr (.inl (Same.free hs hp))
  ·rw[Jf h] at e;exact .inl e
 ·by_cases h:a=p
  ·subst h;rw[Jl] at e ⊢;exact e
  ·rw[Jf h] at e ⊢;exact i a o e
 ·exact RD.mkT (.of Jl) (r.mono (.new h0))
end

noncomputable def fI(g:Int->Int->D)(x y:Sl):Option Sl:=(int? x).bind fun a=>(int? y).bind fun b=>some (.sh (g a b))
noncomputable def fIc(c:Int->Int->Bool)(g:Int->Int->D)(x y:Sl):Option Sl:=(int? x).bind fun a=>(int? y).bind fun b=>if c a b=true then some (.sh (g a b)) else none
noncomputable def Jjt(x y:Sl):Option Sl:=x.m.bind fun a=>y.m.bind fun b=>if a.length+b.length<=Qk then some (.own (a++b)) else none
noncomputable def JO(x y:Sl):Option Sl:=match int? x with
 | some a=>(int? y).bind fun b=>some (.sh (.int (a+b)))
 | none=>match str? x with
  | some a=>(str? y).bind fun b=>if a.length+b.length<=Qk then some (.sh (.str (a++b))) else none
  | none=>match tup? x with
   | some a=>(tup? y).bind fun b=>if a.isEmpty=false/\b.isEmpty=false/\a.length+b.length<=Qk then some (.sh (.tup (a++b))) else none
   | none=>Jjt x y
noncomputable abbrev Ys:=fI fun a b=>.int (a-b)
noncomputable abbrev fLt:=fI fun a b=>.bl (decide (a<b))
noncomputable abbrev fLe:=fI fun a b=>.bl (decide (a<=b))
noncomputable abbrev fGt:=fI fun a b=>.bl (decide (b<a))
noncomputable def WA(a:Int):Bool:=Rs a.natAbs 18446744073709551615
theorem V8{a:Int}:WA a=true↔-18446744073709551616<a/\a<18446744073709551616:=by unfold WA;rw[G8];omega
noncomputable def Jap(a:Int):Bool:=Rs a.natAbs 1073741823 && decide (0<a)
theorem smallP_ok{a:Int}:Jap a=true↔0<a/\a<1073741824:=by grind[Jap,G8]
noncomputable abbrev Zb:=fIc (fun a b=>WA a || WA b) fun a b=>.int (a*b)
noncomputable abbrev Jjx:=fIc (fun _ b=>decide (0<b)) fun a b=>.int (a % b)
noncomputable abbrev Jck:=fIc (fun _ b=>Jap b) fun a b=>.int (a / b)
noncomputable def WO(x:Sl):Option Sl:=(int? x).bind fun a=>some (.sh (.int (-a)))
noncomputable def eqD(d e:D):Option Bool:=if (d.py.canLay0 && e.py.canLay0 && decide (min d.py.depth e.py.depth<=60))=true then some (LG d.py e.py) else none
noncomputable def eqA:D->D->Option Bool
 | .int a,.int b=>some (decide (a=b))
 | .str a,.str b=>some (decide (a=b))
 | .bl a,.bl b=>some (decide (a=b))
 | .non,.non=>some true
 | .non,.int _=>some false
 | .int _,.non=>some false
 | .non,.str _=>some false
 | .str _,.non=>some false
 | .non,.bl _=>some false
 | .bl _,.non=>some false
 | .int _,.str _=>some false
 | .str _,.int _=>some false
 | d,e=>eqD d e
noncomputable def fEq(x y:Sl):Option Sl:=x.d.bind fun d=>y.d.bind fun e=>(eqA d e).map fun k=>.sh (.bl k)
noncomputable def fNe(x y:Sl):Option Sl:=x.d.bind fun d=>y.d.bind fun e=>(eqA d e).map fun k=>.sh (.bl (!k))
noncomputable def D.isNon:D->Bool
 | .non=>true
 | _=>false
noncomputable def non?:Sl->Option Unit
 | .sh .non=>some ()
 | _=>none
theorem JcE{s:Sl}{u:Unit}(e:non? s=some u):s=.sh .non:=by
 cases s with
 | sh d=>cases d with
  | non=>rfl
  | _=>cases e
 | _=>cases e
noncomputable def fIs(x y:Sl):Option Sl:=(non? y).bind fun _=>x.d.map fun d=>.sh (.bl d.isNon)
noncomputable def ZF(x y:Sl):Option Sl:=(non? y).bind fun _=>x.d.map fun d=>.sh (.bl (!d.isNon))
noncomputable def fIx(x y:Sl):Option Sl:=(int? y).bind fun i=>match str? x with
 | some z=>if z.length<=Qk then(atI z.cps.toList i).map fun c=>.sh (.str ⟨#[c]⟩) else none
 | none=>x.q.bind fun ds=>(atI ds i).map .sh
section
variable{K:Qo}{C:Qd}
theorem o_I{g:Int->Int->V}{g':Int->Int->D}(h:∀i j H,RD K C H (g i j) (g' i j)):OpS K C (rI0 g) (fI g'):=by intro Hs H0 H x y a b c Q i hs ra rb e q;obtain⟨x',e1,e⟩:=bind_some e;obtain⟨y',e2,e⟩:=bind_some e;rw[JA e1] at ra;rw[JA e2] at rb;cases e;exact⟨_,_,RD.intI ra,RD.intI rb,q _ _ _ (.refl i) (h _ _ _)⟩
theorem JdN{P:Int->Int->Prop}{c':Int->Int->Bool}{g:Int->Int->V}{g':Int->Int->D}(hp:∀i j,c' i j=true->P i j)(h:∀i j H,RD K C H (g i j) (g' i j)):OpS K C (rI P g) (fIc c' g'):=by
 intro Hs H0 H x y a b c Q i hs ra rb e q;obtain⟨x',e1,e⟩:=bind_some e;obtain⟨y',e2,e⟩:=bind_some e;rw[JA e1] at ra;rw[JA e2] at rb;split at e
 ·cases e;exact⟨_,_,RD.intI ra,RD.intI rb,hp _ _ (by assumption),q _ _ _ (.refl i) (h _ _ _)⟩
 ·cases e
theorem JeG:OpS K C (rI0 fun i j=>.int (i-j)) Ys:=o_I fun _ _ _=>.int _
theorem JaB:OpS K C (rI0 fun i j=>.bl (decide (i<j))) fLt:=o_I fun _ _ _=>.bl _
theorem JhC:OpS K C (rI0 fun i j=>.bl (decide (i<=j))) fLe:=o_I fun _ _ _=>.bl _
theorem JcH:OpS K C (rI0 fun i j=>.bl (decide (j<i))) fGt:=o_I fun _ _ _=>.bl _
theorem JlO:OpS K C (rI CMul fun i j=>.int (i*j)) Zb:=JdN (fun i j h=>by simp only[MX,V8] at h;exact h) fun _ _ _=>.int _
theorem JpS:OpS K C (rI (fun _ j=>0<j) fun i j=>.int (i % j)) Jjx:=JdN (fun i j h=>by simpa using h) fun _ _ _=>.int _
theorem JpQ:OpS K C (rI Jo1 fun i j=>.int (i / j)) Jck:=JdN (fun i j h=>smallP_ok.mp h) fun _ _ _=>.int _
theorem Jbc:UnS K C (rU fun i=>.int (-i)) WO:=by intro Hs H0 H x a c Q i hs ra e q;obtain⟨x',e1,e⟩:=bind_some e;rw[JA e1] at ra;cases e;exact⟨_,RD.intI ra,q _ _ _ (.refl i) (RD.int _)⟩
noncomputable def Jh2(K:Qo):R2:=fun x y H Q=>JeO K x y H Q\/JlQ K x y H Q
theorem JB{X:Cx}(hK:X.K=K):OpR X (binaryOp .Add) (Jh2 K):=(JeH hK).or (hK▸Jkb)
theorem JcG:OpS K C (Jh2 K) JO:=by
 intro Hs H0 H x y a b c Q i hs ra rb e q
 have cat:∀{a b:Sl},RR K C Hs H0 H x a->RR K C Hs H0 H y b->Jjt a b=some c->Jh2 K x y H Q:=by
  intro a b ra rb e;obtain⟨xs,e1,e⟩:=bind_some e;obtain⟨ys,e2,e⟩:=bind_some e;split at e
  ·next hz=>cases e;obtain⟨l,us,rfl,h1,r1⟩:=ra.m i e1;obtain⟨l',ws,rfl,h2,r2⟩:=rb.m i e2;exact .inl (.inr (.inr ⟨l,l',us,ws,rfl,rfl,h1,h2,by rw[r1.1,r2.1];exact hz,fun p hp=>YN i hs hp (r1.append r2) q⟩))
  ·cases e
 unfold JO at e
 cases h1:int? a with
 | some x'=>rw[h1] at e;obtain⟨y',h2,e⟩:=bind_some e;rw[JA h1] at ra;rw[JA h2] at rb;cases e;exact .inl (.inl ⟨_,_,RD.intI ra,RD.intI rb,q _ _ _ (.refl i) (RD.int _)⟩)
 | none =>
  rw[h1] at e
  cases h1:str? a with
  | some x' =>
   rw[h1] at e;obtain⟨y',h2,e⟩:=bind_some e;rw[WC h1] at ra;rw[WC h2] at rb;split at e
   ·cases e;exact .inl (.inr (.inl ⟨_,_,RD.strI ra,RD.strI rb,by assumption,q _ _ _ (.refl i) (RD.str _)⟩))
   ·cases e
  | none =>
   rw[h1] at e
   cases h1:tup? a with
   | some x' =>
    rw[h1] at e;obtain⟨y',h2,e⟩:=bind_some e;rw[Vy h1] at ra;rw[Vy h2] at rb;split at e
    ·next hz =>
     cases e;obtain⟨l,us,rfl,h1,r1⟩:=RD.tupI ra;obtain⟨l',ws,rfl,h2,r2⟩:=RD.tupI rb;have n1:us≠[]:=by rintro rfl;have:=r1.1;grind
     have n2:ws≠[]:=by rintro rfl;have:=r2.1;grind
     exact .inr ⟨l,l',us,ws,rfl,rfl,i.seqT h1,i.seqT h2,n1,by rw[r1.1,r2.1];exact hz.2.2,fun z=>absurd z n2,fun _ p hp=>Zr i hs hp (r1.append r2) q⟩
    ·cases e
   | none=>rw[h1] at e;exact cat ra rb e
theorem Jci{d e:D}{k:Bool}(h:eqD d e=some k):d.py.canLay0=true/\e.py.canLay0=true/\min d.py.depth e.py.depth<=60/\k=LG d.py e.py:=by
 unfold eqD at h
 simp_all
theorem map_some{α β:Type}{x:Option α}{f:α->β}{b:β}(e:x.map f=some b):∃a,x=some a/\f a=b:=by simp_all
theorem Jch{H:Hp}{x y:V}{d e:D}{k:Bool}(h:eqA d e=some k)(rx:RD K C H x d)(ry:RD K C H y e):(JoD x y=true/\decide (x=y)=k)\/eqD d e=some k:=by
 cases d <;> (try exact .inr h) <;> cases e <;> first
  | exact .inr h
  | (cases h;(first|rw[RD.intI rx]|rw[RD.strI rx]|rw[RD.blI rx]|rw[RD.nonI rx]);(first|rw[RD.intI ry]|rw[RD.strI ry]|rw[RD.blI ry]|rw[RD.nonI ry]);(first|exact .inl ⟨rfl,by simp⟩|solve_by_elim))
theorem JhB:OpS K C (Jh3 K) fEq:=by
 intro Hs H0 H x y a b c Q i hs ra rb e q;obtain⟨d,e1,e⟩:=bind_some e;obtain⟨d',e2,e⟩:=bind_some e;obtain⟨k,e3,rfl⟩:=map_some e;have r1:=ra.dat i e1;have r2:=rb.dat i e2;rcases Jch e3 r1 r2 with ⟨h1,h2⟩|h
 ·exact .inl ⟨h1,by rw[h2];exact q _ _ _ (.refl i) (RD.bl _)⟩
 ·obtain⟨h1,h2,h3,rfl⟩:=Jci h;exact .inr ⟨_,_,r1.rep h1,r2.rep h2,h1,h2,h3,q _ _ _ (.refl i) (RD.bl _)⟩
theorem Jsk:OpS K C (Jh8 K) fNe:=by
 intro Hs H0 H x y a b c Q i hs ra rb e q;obtain⟨d,e1,e⟩:=bind_some e;obtain⟨d',e2,e⟩:=bind_some e;obtain⟨k,e3,rfl⟩:=map_some e;have r1:=ra.dat i e1;have r2:=rb.dat i e2;rcases Jch e3 r1 r2 with ⟨h1,h2⟩|h
 ·exact .inl ⟨h1,by rw[h2];exact q _ _ _ (.refl i) (RD.bl _)⟩
 ·obtain⟨h1,h2,h3,rfl⟩:=Jci h;exact .inr ⟨_,_,r1.rep h1,r2.rep h2,h1,h2,h3,q _ _ _ (.refl i) (RD.bl _)⟩
theorem Jct{H:Hp}{x:V}{d:D}(r:RD K C H x d):decide (x=.non)=d.isNon:=by cases r <;> simp[D.isNon]
theorem Jsj:OpS K C JnY fIs:=by
 intro Hs H0 H x y a b c Q i hs ra rb e q;obtain⟨_,e2,e⟩:=bind_some e;rw[JcE e2] at rb
 ·obtain⟨d,e1,rfl⟩:=map_some e;refine⟨RD.nonI rb,?_⟩;rw[Jct (ra.dat i e1)];exact q _ _ _ (.refl i) (RD.bl _)
theorem Jj6:OpS K C Jh9 ZF:=by
 intro Hs H0 H x y a b c Q i hs ra rb e q;obtain⟨_,e2,e⟩:=bind_some e;rw[JcE e2] at rb
 ·obtain⟨d,e1,rfl⟩:=map_some e;refine⟨RD.nonI rb,?_⟩;rw[Jct (ra.dat i e1)];exact q _ _ _ (.refl i) (RD.bl _)
theorem RDL.atI{H:Hp}{xs:List V}{ds:List D}{i:Int}{d:D}(r:RDL K C H xs ds)(e:L2.atI ds i=some d):∃x,L2.atI xs i=some x/\RD K C H x d:=by
 unfold L2.atI at e ⊢;rw[r.1];obtain⟨j,e1,e⟩:=bind_some e;obtain⟨x,e2,r2⟩:=r.get e
 simp_all
theorem Zd:OpS K C (rIx K) fIx:=by
 intro Hs H0 H x y a b c Q i hs ra rb e q;obtain⟨j,e0,e⟩:=bind_some e;rw[JA e0] at rb
 cases h0:str? a with
 | some z =>
  rw[h0] at e;rw[WC h0] at ra;dsimp only at e;split at e
  ·obtain⟨z,e1,rfl⟩:=map_some e;rw[RD.strI ra,RD.intI rb];exact Jof (by assumption) e1 (q _ _ _ (.refl i) (RD.str _))
  ·cases e
 | none =>
  rw[h0] at e;obtain⟨ds,e1,e⟩:=bind_some e;obtain⟨d,e2,rfl⟩:=map_some e;obtain⟨l,xs,rfl,h,r⟩:=ra.q i e1;obtain⟨v,e3,r3⟩:=r.atI e2;rw[RD.intI rb];rcases h with h|h
  ·exact Joe h e3 (q _ _ _ (.refl i) r3)
  ·exact Jog h e3 (q _ _ _ (.refl i) r3)
end
end LE

namespace LE
open PySem L2 LR

noncomputable def WP:List Sl->Option (List D)
 | []=>some []
 | s::ss=>s.frz.bind fun d=>(WP ss).bind fun ds=>some (d::ds)
noncomputable def Um(as:En->Option (List Sl)):Ev:=fun E=>(as E).bind fun ss=>(WP ss).bind fun ds=>if ds.length<=100 then some (.sh (.tup ds)) else none
noncomputable def Ub(as:En->Option (List Sl)):Ev:=fun E=>(as E).bind fun ss=>(WP ss).bind fun ds=>if ds.length<=100 then some (.own ds) else none
section
variable{K:Qo}{C:Qd}{t:TA}{ev:En->Option (List Sl)}{Hs H0 H:Hp}{ta te:TE}{ea:Ev}
theorem RRL.frz{vs:List V}{ss:List Sl}(i:Same H0 H)(r:RRL K C Hs H0 H vs ss):∀{ds:List D},WP ss=some ds->RDL K C (JK Hs H0 H) vs ds:=by
 induction r with
 | nil=>intro ds e;cases e;exact .nil
 | cons h _ ih=>intro ds e;obtain⟨d,e1,e⟩:=bind_some e;obtain⟨ds',e2,e⟩:=bind_some e;cases e;exact .cons (h.frz i e1) (ih e2)
theorem JeW(ha:SA K C t ev):SE K C (JoI t) (Um ev):=by
 intro B H0 H σ E c Q I e q;obtain⟨ss,e1,e⟩:=bind_some e;obtain⟨ds,e2,e⟩:=bind_some e;split at e
 ·next hl =>
  cases e;refine ha B H0 H σ E ss _ I e1 fun vs H1 H1' s1 r1=>?_
  have f:=JF (Hs:=H) s1.i
  have r2:=r1.frz s1.i e2;exact⟨by rw[r2.1];exact QJ hl (by decide),fun p hp=>Zr f.i s1.h hp r2 fun v H2 H2' s2 r2=>q v H2 H2' ((s1.comp f fun _ z=>z).comp s2 fun _ z=>z) r2⟩
 ·cases e
theorem Jiq(ha:SA K C t ev):SE K C (Jeb t) (Ub ev):=by
 intro B H0 H σ E c Q I e q;obtain⟨ss,e1,e⟩:=bind_some e;obtain⟨ds,e2,e⟩:=bind_some e;split at e
 ·next hl =>
  cases e;refine ha B H0 H σ E ss _ I e1 fun vs H1 H1' s1 r1=>?_
  have f:=JF (Hs:=H) s1.i
  have r2:=r1.frz s1.i e2;exact⟨by rw[r2.1];exact QJ hl (by decide),fun p hp=>YN f.i s1.h hp r2 fun v H2 H2' s2 r2=>q v H2 H2' ((s1.comp f fun _ z=>z).comp s2 fun _ z=>z) r2⟩
 ·cases e

noncomputable def Sl.pass:Sl->Option Sl
 | .sh d=>some (.sh d)
 | .own ds=>some (.sh (.lst ds))
 | .bo ds=>some (.bo ds)
 | .bd ks ds=>some (.bd ks ds)
 | .od ks ds=>some (.sh (.dct ks ds))
 | .bt _ _=>none
 | .bw a ds=>some (.bw a ds)
 | .ot _ _=>none
 | .dw _ _=>none
 | .no=>none
end
noncomputable def Wq:List Sl->Option (List Sl)
 | []=>some []
 | s::ss=>s.pass.bind fun d=>(Wq ss).bind fun ds=>some (d::ds)
noncomputable def spE(K:Qo)(C:Qd)(n:Nat)(f:List Sl->Option Sl):Sp:=fun vs H Q _=>TabK K H/\∃H0 as r,Same H0 H/\RRL K C H H0 H vs as/\as.all (fun s=>!JR s)=true/\as.length=n/\f as=some r ∧
 ∀v H0' H',Step H H0 H H0' H'->RR K C H H0' H' v r->Q v H'
noncomputable def eU(n:Nat)(f:List Sl->Option Sl)(as:En->Option (List Sl)):Ev:=fun E=>(as E).bind fun ss=>(Wq ss).bind fun bs=>if bs.length=n then f bs else none
section
variable{K:Qo}{C:Qd}{t:TA}{ev:En->Option (List Sl)}{Hs H0 H:Hp}{ta te:TE}{ea:Ev}
theorem RRL.len{vs:List V}{ss:List Sl}(r:RRL K C Hs H0 H vs ss):vs.length=ss.length:=by
 induction r with
 | nil=>rfl
 | cons _ _ ih=>simp[ih]
theorem Jlb{n:Nat}{f:List Sl->Option Sl}{vs:List V}{Q:VK}{E:XK}(h:spE K C n f vs H Q E):vs.length=n:=by obtain⟨_,H0,as,r,_,h1,_,h2,_⟩:=h;rw[h1.len];exact h2
theorem RR.pass{v:V}{s s':Sl}(i:Same H0 H)(r:RR K C Hs H0 H v s)(e:s.pass=some s'):RR K C H (JK Hs H0 H) H v s'/\JR s'=false:=by
 have st:Step Hs H0 H (JK Hs H0 H) H:=JF i
 cases s with
 | sh d=>cases e;exact⟨RD.mono st.z r,rfl⟩
 | own ds=>cases e;exact⟨RR.frz (s:=.own ds) i r rfl,rfl⟩
 | bo ds=>cases e;obtain⟨l,xs,h1,h2,h3⟩:=r;exact⟨⟨l,xs,h1,h2,h3.mono st.z⟩,rfl⟩
 | od ks ds=>cases e;exact⟨RR.frz (s:=.od ks ds) i r rfl,rfl⟩
 | bd ks ds|bw ks ds=>cases e;obtain⟨l,xs,h1,h2,hk,h3⟩:=r;exact⟨⟨l,xs,h1,h2,hk,h3.mono st.z⟩,rfl⟩
 | _=>cases e
theorem RRL.pass{vs:List V}{ss:List Sl}(i:Same H0 H)(r:RRL K C Hs H0 H vs ss):∀{bs:List Sl},Wq ss=some bs->RRL K C H (JK Hs H0 H) H vs bs/\bs.all (fun s=>!JR s)=true:=by
 induction r with
 | nil=>intro bs e;cases e;exact⟨.nil,rfl⟩
 | cons h _ ih=>intro bs e;obtain⟨d,e1,e⟩:=bind_some e;obtain⟨ds',e2,e⟩:=bind_some e;cases e;obtain⟨h1,h2⟩:=h.pass i e1;obtain⟨h3,h4⟩:=ih e2;exact⟨.cons h1 h3,by rw[List.all_cons,h2,h4];rfl⟩
theorem Ym{n:Nat}{f:List Sl->Option Sl}{X:XK}(ha:SA K C t ev):SE K C (Za (spE K C n f) [] X t) (eU n f ev):=by
 intro B H0 H σ E c Q I e q;obtain⟨ss,e1,e⟩:=bind_some e;obtain⟨bs,e2,e⟩:=bind_some e;split at e
 ·next hl=>refine Zp (ha B H0 H σ E ss _ I e1 fun vs H1 H1' s1 r1=>?_);obtain⟨h1,h2⟩:=r1.pass s1.i e2;have f:=JF (Hs:=H) s1.i;exact⟨I.t.mono (I.b.trans s1.h),_,bs,c,f.i,h1,h2,hl,e,fun v H2 H2' s2 r2=>q v H2 H2' ((s1.comp f fun _ z=>z).comp s2 fun a z=>Same.free s1.h z) (r2.weak fun a z=>Same.free s1.h z)⟩
 ·cases e

noncomputable def prE(p:Pr):D:=.tup [.int p.1,.int p.2]
noncomputable def D.i?:D->Option Int
 | .int i=>some i
 | _=>none
noncomputable def D.t2?:D->Option (D×D)
 | .tup [a,b]=>some (a,b)
 | _=>none
noncomputable def JrT(d:D):Option Pr:=d.t2?.bind fun p=>p.1.i?.bind fun a=>p.2.i?.bind fun b=>some (a,b)
noncomputable def Je8:List D->Option (List Pr)
 | []=>some []
 | d::ds=>(JrT d).bind fun p=>(Je8 ds).bind fun ps=>some (p::ps)
end
theorem JdE{d:D}{i:Int}(e:d.i?=some i):d=.int i:=by
 cases d with
 | int x=>cases e;rfl
 | _=>cases e
theorem Jlc{d:D}{p:D×D}(e:d.t2?=some p):d=.tup [p.1,p.2]:=by
 cases d with
 | tup l =>
  rcases l with _|⟨x,_|⟨y,_|⟨z,w⟩⟩⟩
  ·cases e
  ·cases e
  ·cases e;rfl
  ·cases e
 | _=>cases e
theorem Jgp{d:D}{p:Pr}(e:JrT d=some p):d=prE p:=by obtain⟨⟨x,y⟩,e1,e⟩:=bind_some e;obtain⟨a,e2,e⟩:=bind_some e;obtain⟨b,e3,e⟩:=bind_some e;cases e;rw[Jlc e1,show x=_ from JdE e2,show y=_ from JdE e3];rfl
theorem V9:∀{ds:List D} {ps:List Pr},Je8 ds=some ps->ds=ps.map prE
 | [],_,e=>by cases e;rfl
 | d::ds,_,e=>by obtain⟨p,e1,e⟩:=bind_some e;obtain⟨ps,e2,e⟩:=bind_some e;cases e;rw[Jgp e1,V9 e2];rfl
noncomputable def Jcm:List Pr->Bool
 | []=>true
 | [p]=>decide (1<=p.2)
 | p::q::r=>decide (1<=p.2) && decide (p.1+p.2<q.1) && Jcm (q::r)
theorem ZI:∀{ps:List Pr},Jcm ps=true->Good ps
 | [],_=>.nil
 | [p],h=>⟨fun i q e=>by
  cases i with
  | zero=>simp at e;subst e;simpa [Jcm] using h
  | succ i=>simp at e,fun i q r e1 e2=>by simp at e2⟩
 | p::q::r,h=>by
  simp only[Jcm,QU,decide_eq_true_eq] at h;have g:=ZI h.2;refine⟨fun i x e=>?_,fun i x y e1 e2=>?_⟩
  ·cases i with
   | zero=>simp at e;subst e;exact h.1.1
   | succ i=>exact g.one i x (by simpa using e)
  ·cases i with
   | zero=>simp at e1 e2;subst e1 e2;exact h.1.2
   | succ i=>exact g.gap i x y (by simpa using e1) (by simpa using e2)
noncomputable def Jdz(as:List Sl):Option Sl:=on1 (fun s=>s.q.bind fun ds=>(Je8 ds).bind fun ps=>if (Jcm ps && decide (ps.length<=30))=true then some (.sh (.row ds)) else none) as
noncomputable def row?:Sl->Option (List D)
 | .sh (.row i)=>some i
 | _=>none
theorem Jot{i:List D}:row? (.sh (.row i))=some i:=rfl
theorem Jik{s:Sl}{i:List D}(e:row? s=some i):s=.sh (.row i):=by
 cases s with
 | sh d=>cases d with
  | row x=>cases e;rfl
  | _=>cases e
 | _=>cases e
noncomputable def UH(x:Sl):Option Sl:=(row? x).bind fun ds=>some (.sh (.tup ds))
section
variable{K:Qo}{C:Qd}{t:TA}{ev:En->Option (List Sl)}{Hs H0 H:Hp}{ta te:TE}{ea:Ev}
theorem JnQ{xs:List V}{ps:List Pr}(r:RDL K C H xs (ps.map prE)):Prs K H xs ps:=by
 refine⟨by rw[r.1];simp,fun i x d h1 h2=>?_⟩;rw[Qy] at h2
 cases e:ps[i]? with
 | none=>rw[e] at h2;cases h2
 | some p=>rw[e] at h2;cases h2;have h:=r.2 i x (prE p) h1 (by simp_all);exact RD.rep h rfl
theorem Jnj{xs:List V}{ps:List Pr}(i:Same H0 H)(r:Prs K H xs ps):RDL K C (JK Hs H0 H) xs (ps.map prE):=by refine⟨by rw[r.len];simp,fun j x d h1 h2=>?_⟩;obtain⟨p,a,e1,e2,e3⟩:=r.at h1;rw[Qy,e1] at h2;cases h2;subst e2;exact .mkT (Jev i e3) (.cons (.int _) (.cons (.int _) .nil))
theorem JlV{X:XK}(ha:SA K C t ev):SE K C (Je4 C (U6 C K) [] X t) (eF Jdz ev):=by
 intro B H0 H σ E c Q I e q;obtain⟨ss,e1,e⟩:=bind_some e;refine LR.JeT (ha B H0 H σ E ss _ I e1 fun vs H1 H1' s1 r1=>?_)
 replace e:=Yd e;obtain⟨s,rfl,e⟩:=e
 cases r1 with
 | cons r1 r1' =>
  cases r1';obtain⟨ds,e2,e⟩:=bind_some e;obtain⟨ps,e3,e⟩:=bind_some e;split at e
  ·next hg =>
   cases e;simp only[QU,decide_eq_true_eq] at hg;have e4:=V9 e3;subst e4;obtain⟨l,xs,rfl,hq,r⟩:=r1.q s1.i e2;refine Joo ⟨l,xs,rfl,hq,JnQ (r.mono s1.i)⟩ (ZI hg.1) hg.2 fun x H2 nx s2 R=>?_
   obtain⟨x',dx,t',ts,ex,hx,ht,hp⟩:=R;cases ex;have i2:Same H1 H2:=s1.i.trans s2;have f:=JF (Hs:=H) i2;refine q _ (JK H H1 H2) H2 ⟨s1.h.trans s2,s1.z.trans f.z,fun a o e=>(f.n a o e).elim (fun z=>s1.n a o z) .inr,f.i⟩ ?_;have ts':=Jnj (Hs:=H) (C:=C) i2 hp;exact .row (Jbs i2 (Same.free s1.h nx) hx) (Jev i2 (.of ht)) ts'.1 ts'.2
  ·cases e
theorem Jqp{K:Qo}{C:Qd}{ta:TE}{ea:Ev}(T:RowC K C)(ha:SE K C ta ea):SE K C (Jlf K ta "stretches") (e1 UH ea):=by
 intro B H0 H σ E c Q I e q;obtain⟨a,e1,e⟩:=bind_some e;refine ha B H0 H σ E a _ I e1 fun x H1 H1' s1 r1=>?_
 replace e:=bind_some e;obtain⟨ds,e0,e⟩:=e;obtain rfl:=Jik e0;cases e;obtain⟨x',dx,t',ts,rfl,hx,ht,hp⟩:=RD.rowI r1;exact⟨x',C,dx,_,_,rfl,s1.i _ _ hx,T.cl,T.ns,Jgf t',q _ _ _ s1 (RD.mkT ht hp)⟩

noncomputable def ints?:List D->Option (List Int)
 | []=>some []
 | d::ds=>d.i?.bind fun i=>(ints? ds).map (i::·)
noncomputable def D.bl?:D->Option Bool
 | .bl i=>some i
 | _=>none
noncomputable def bls?:List D->Option (List Bool)
 | []=>some []
 | d::ds=>d.bl?.bind fun i=>(bls? ds).map (i::·)
noncomputable def D.str?:D->Option Str
 | .str i=>some i
 | _=>none
end
theorem Jcq:∀ns:List Int,ints? (ns.map .int)=some ns
 | []=>rfl
 | n::ns=>by rw[Gx,ints?,Jcq ns];rfl
theorem YK{ds:List D}{ns:List Int}(e:ints? ds=some ns):ds=ns.map .int:=by
 induction ds generalizing ns with
 | nil=>cases e;rfl
 | cons d ds ih=>obtain⟨i,e0,e⟩:=bind_some e;obtain⟨ns,e1,e2⟩:=map_some e;rw[<- e2,ih e1,JdE e0];rfl
theorem JgL{d:D}{i:Bool}(e:d.bl?=some i):d=.bl i:=by
 cases d with
 | bl x=>cases e;rfl
 | _=>cases e
theorem Jb8{ds:List D}{ns:List Bool}(e:bls? ds=some ns):ds=ns.map .bl:=by
 induction ds generalizing ns with
 | nil=>cases e;rfl
 | cons d ds ih=>obtain⟨i,e0,e⟩:=bind_some e;obtain⟨ns,e1,e2⟩:=map_some e;rw[<- e2,ih e1,JgL e0];rfl
noncomputable def Ug(as:List Sl):Option Sl:=on1 (fun s=>match str? s with
 | some x=>if x.length<=Qk then some (.sh (.int x.length)) else none
 | none=>s.q.map fun ds=>.sh (.int ds.length)) as
noncomputable def Jbp(as:List Sl):Option Sl:=on1 (fun s=>s.q.map fun ds=>.sh (.tup ds)) as
noncomputable def JaT(as:List Sl):Option Sl:=on1 (fun s=>s.q.map fun ds=>.own ds) as
noncomputable def Wh(as:List Sl):Option Sl:=on1 (fun s=>s.q.bind fun ds=>(ints? ds).map fun ns=>.sh (.int ns.sum)) as
noncomputable def Jpl(as:List Sl):Option Sl:=on1 (fun s=>s.q.bind fun ds=>(bls? ds).map fun ns=>.sh (.bl (ns.any id))) as
noncomputable def JmD(as:List Sl):Option Sl:=JhG (fun a b=>some (.sh (.int (max a b)))) as
noncomputable def Jdy(as:List Sl):Option Sl:=JhG (fun a b=>some (.sh (.int (min a b)))) as
section
variable{K:Qo}{C:Qd}{Hs H0 H:Hp}
theorem RRL.one{vs:List V}{s:Sl}(r:RRL K C Hs H0 H vs [s]):∃v,vs=[v]/\RR K C Hs H0 H v s:=by
 cases r with
 | cons h t=>cases t;exact⟨_,rfl,h⟩
theorem RRL.two{vs:List V}{s t:Sl}(r:RRL K C Hs H0 H vs [s,t]):∃v w,vs=[v,w]/\RR K C Hs H0 H v s/\RR K C Hs H0 H w t:=by
 cases r with
 | cons h r=>cases r with
  | cons h' r=>cases r;exact⟨_,_,rfl,h,h'⟩
theorem Jem:Vc K C (JdY K) Ug:=by
 intro Hs H0 H xs as c Q i hs r e q;have e':=Yd e
 clear e;obtain⟨s,rfl,e⟩:=e';obtain⟨v,rfl,r0⟩:=r.one
 cases h:str? s with
 | some x =>
  rw[h] at e;rw[WC h] at r0;dsimp only at e;split at e
  ·cases e;rw[RD.strI r0];exact JkH (by assumption) (q _ _ _ (.refl i) (RD.int _))
  ·cases e
 | none=>rw[h] at e;obtain⟨ds,e1,rfl⟩:=map_some e;obtain⟨l,xs,rfl,h,r1⟩:=r0.q i e1;have z:=q (.int ds.length) _ _ (.refl i) (RD.int _);rw[<- r1.1] at z;exact JcX h z
theorem Ji6:Vc K C (Vn K) Jbp:=by
 intro Hs H0 H xs as c Q i hs r e q
 replace e:=Yd e;obtain⟨s,rfl,e⟩:=e;obtain⟨v,rfl,r0⟩:=r.one;obtain⟨ds,e1,rfl⟩:=map_some e
 have lst:∀{l:Qd} {ys:List V},v=.ref l->SqL K H l ys->RDL K C H0 ys ds->Vn K [v] H Q:=fun {l ys} ev h r2=>by subst ev;exact⟨l,ys,rfl,.inl ⟨h,fun p hp=>Zr i hs hp r2 q⟩⟩
 cases s with
 | bo es=>cases e1;obtain⟨l,ys,h1,h2,h3⟩:=r0;exact lst h1 (.of h2) h3
 | own es=>cases e1;obtain⟨l,ys,h1,h2,_,_,h3⟩:=r0;exact lst h1 (.of h2) h3
 | sh d=>cases d with
  | lst es=>cases e1;obtain⟨l,ys,h1,h2,h3⟩:=RD.lstI r0;exact lst h1 (.of (i _ _ h2)) h3
  | fz es=>cases e1;obtain⟨l,ys,h1,h2,h3⟩:=RD.fzI r0;exact lst h1 (i.seq h2) h3
  | tup es=>cases e1;obtain⟨l,ys,rfl,h2,h3⟩:=RD.tupI r0;exact⟨l,ys,rfl,.inr ⟨i.seqT h2,q _ _ _ (.refl i) r0⟩⟩
  | _=>cases e1
 | _=>cases e1
theorem Jmc:Vc K C (JbS K) JaT:=by
 intro Hs H0 H xs as c Q i hs r e q
 replace e:=Yd e;obtain⟨s,rfl,e⟩:=e;obtain⟨v,rfl,r0⟩:=r.one;obtain⟨ds,e1,rfl⟩:=map_some e;obtain⟨l,ys,rfl,h,r1⟩:=r0.q i e1;exact⟨l,ys,rfl,h,fun p hp=>YN i hs hp r1 q⟩
theorem JgO:Vc K C (Jn4 K) Wh:=by
 intro Hs H0 H xs as c Q i hs r e q
 replace e:=Yd e;obtain⟨s,rfl,e⟩:=e;obtain⟨v,rfl,r0⟩:=r.one;obtain⟨ds,e1,e⟩:=bind_some e;obtain⟨ns,e2,rfl⟩:=map_some e;obtain⟨l,ys,rfl,h,r1⟩:=r0.q i e1;rw[YK e2] at r1;have:=r1.ints;subst this;exact⟨l,ns,rfl,h,q _ _ _ (.refl i) (RD.int _)⟩
theorem Jpd:Vc K C (JnX K) Jpl:=by
 intro Hs H0 H xs as c Q i hs r e q
 replace e:=Yd e;obtain⟨s,rfl,e⟩:=e;obtain⟨v,rfl,r0⟩:=r.one;obtain⟨ds,e1,e⟩:=bind_some e;obtain⟨ns,e2,rfl⟩:=map_some e;obtain⟨l,ys,rfl,h,r1⟩:=r0.q i e1;rw[Jb8 e2] at r1;have:=r1.bls;subst this;exact⟨l,ns,rfl,h,q _ _ _ (.refl i) (RD.bl _)⟩
theorem Jpe:Vc K C JnZ JmD:=by
 intro Hs H0 H xs as c Q i hs r e q
 replace e:=Ja3 e;obtain⟨i',j',rfl,e⟩:=e;cases e;obtain⟨v,w,rfl,r1,r2⟩:=r.two;rw[RD.intI r1,RD.intI r2];exact Jig (q _ _ _ (.refl i) (RD.int _))
theorem Jpf:Vc K C Jn0 Jdy:=by
 intro Hs H0 H xs as c Q i hs r e q
 replace e:=Ja3 e;obtain⟨i',j',rfl,e⟩:=e;cases e;obtain⟨v,w,rfl,r1,r2⟩:=r.two;rw[RD.intI r1,RD.intI r2];exact Jih (q _ _ _ (.refl i) (RD.int _))
end

noncomputable def D.tru:D->Option Bool
 | .non=>some false
 | .bl b=>some b
 | .int i=>some (i != 0)
 | .str y=>if y.length<=Qk then some ((y.length:Int) != 0) else none
 | .tup l=>some (!l.isEmpty)
 | .lst l=>some (!l.isEmpty)
 | .fz l=>some (!l.isEmpty)
 | .row _=>none
 | .dct _ _=>none
 | .dfz _ _=>none
 | .exc _=>none
noncomputable def JiL:Sl->Option Bool
 | .no=>none
 | .sh d=>d.tru
 | .bo l=>some (!l.isEmpty)
 | .own l=>some (!l.isEmpty)
 | .bd _ _=>none
 | .od _ _=>none
 | .bt _ _=>none
 | .ot _ _=>none
 | .bw _ _=>none
 | .dw _ _=>none
noncomputable def tTru?(a:Ev):En->Option Bool:=fun E=>(a E).bind JiL
noncomputable def tyN:D->Option String
 | .non=>some "NoneType"
 | .bl _=>some "bool"
 | .int _=>some "int"
 | .str _=>some "str"
 | .tup _=>some "tuple"
 | .lst _=>some "list"
 | .fz _=>some "list"
 | .row _=>none
 | .dct _ _=>none
 | .dfz _ _=>none
 | .exc _=>none
noncomputable def Jcv(t n:String):Bool:=t == n || (t == "bool" && n == "int")
noncomputable def Jfw(n:String)(a:Ev):Ev:=fun E=>(a E).bind fun s=>s.d.bind fun d=>(tyN d).map fun t=>.sh (.bl (Jcv t n))
noncomputable def D.isRow:D->Bool
 | .row _=>true
 | _=>false
section
variable{K:Qo}{C:Qd}{Hs H0 H:Hp}{te:TE}{ea:Ev}
theorem RDL.empty{xs:List V}{ds:List D}(r:RDL K C H xs ds):xs.isEmpty=ds.isEmpty:=by cases xs <;> cases ds <;> first|rfl|(have:=r.1;simp at this)
theorem Jqv(ha:SE K C te ea):ST K C (Jlg K te) (tTru? ea):=by
 intro B H0 H σ E k Q I e q;obtain⟨a,e1,e⟩:=bind_some e;refine ha B H0 H σ E a _ I e1 fun x H1 H1' s1 r1=>?_
 have seq:∀{a:Sl},RR K C H H1 H1' x a->a.q.map (fun ds=>!ds.isEmpty)=some k->∃k',Jfh K x H1' k'/\Q k' H1':=fun {a} r1 e=>by
  obtain⟨ds,e2,rfl⟩:=map_some e;obtain⟨l,xs,rfl,h,r⟩:=r1.q s1.i e2;have z:=q _ _ s1;rw[<- r.empty] at z;rcases h with h|h
  ·exact⟨_,.inl ⟨xs,h,rfl⟩,z⟩
  ·exact⟨_,.inr (.inl ⟨xs,h,rfl⟩),z⟩
 cases a with
 | sh d=>cases d with
  | non=>cases e;rw[RD.nonI r1];exact⟨_,rfl,q _ _ s1⟩
  | bl b=>cases e;rw[RD.blI r1];exact⟨_,rfl,q _ _ s1⟩
  | int j=>cases e;rw[RD.intI r1];exact⟨_,rfl,q _ _ s1⟩
  | str y =>
   rw[JiL,D.tru] at e;split at e
   ·cases e;rw[RD.strI r1];exact⟨_,⟨by assumption,rfl⟩,q _ _ s1⟩
   ·cases e
  | tup l=>exact seq r1 e
  | lst l=>exact seq r1 e
  | fz l=>exact seq r1 e
  | _=>cases e
 | bo l|own l=>exact seq r1 e
 | _=>cases e
theorem RD.ty{x:V}{d:D}{t:String}(r:RD K C H x d)(e:tyN d=some t):TyS K H x (.type t):=by
 cases r with
 | non=>cases e;exact .of .non
 | bl b=>cases e;exact .of (.bl b)
 | int i=>cases e;exact .of (.int i)
 | str i=>cases e;exact .of (.str i)
 | tup h _ _=>cases e;exact .sqT h
 | lst h _ _=>cases e;exact .sqL (.of h)
 | fz h _ _=>cases e;exact .sqL h
 | _=>cases e
noncomputable def JgB(K:Qo)(n:String):Prop:=∀t∈["NoneType","bool","int","str","tuple","list"],kitOne K (.type t) (.type n)=some (Jcv t n)
theorem Jlk{d:D}{t:String}(e:tyN d=some t):t∈["NoneType","bool","int","str","tuple","list"]:=by cases d <;> cases e <;> simp
theorem Jqu{n:String}(hk:JgB K n)(ha:SE K C te ea):SE K C (tCB (Jkz K) (Yf te (Yf (tC (.ty n)) YZ))) (Jfw n ea):=by
 intro B H0 H σ E c Q I e q;obtain⟨a,e1,e⟩:=bind_some e;obtain⟨d,e2,e⟩:=bind_some e;obtain⟨t,e3,rfl⟩:=map_some e;refine ha B H0 H σ E a _ I e1 fun x H1 H1' s1 r1=>?_
 exact Jod (RD.ty (r1.dat s1.i e2) e3) (hk t (Jlk e3)) (q _ _ _ s1 (RD.bl _))
end
theorem Jhq{K:Qo}:JgB K "bool":=fun t ht=>by simp only[Qr,Gj,or_false] at ht;rcases ht with rfl | rfl | rfl | rfl | rfl | rfl <;> kernel_rfl
theorem JfT{K:Qo}:JgB K "tuple":=fun t ht=>by simp only[Qr,Gj,or_false] at ht;rcases ht with rfl | rfl | rfl | rfl | rfl | rfl <;> kernel_rfl
end LE

namespace LE
open PySem L2 LR

mutual
inductive Pt where
 | nm (i:Nat)
 | tp (l:Pts)
inductive Pts where
 | nil
 | cons (p:Pt) (l:Pts)
end
mutual
noncomputable def Pt.bind:Pt->D->En->Option En
 | .nm i,d,E=>if i<E.length then some (E.set i (.sh d)) else none
 | .tp l,.tup ds,E=>l.bind ds E
 | .tp _,_,_=>none
noncomputable def Pts.bind:Pts->List D->En->Option En
 | .nil,[],E=>some E
 | .cons p l,d::ds,E=>(p.bind d E).bind fun E'=>l.bind ds E'
 | _,_,_=>none
end
mutual
noncomputable def Pt.slots:Pt->List Nat
 | .nm i=>[i]
 | .tp l=>l.slots
noncomputable def Pts.slots:Pts->List Nat
 | .nil=>[]
 | .cons p l=>p.slots++l.slots
end
mutual
theorem Pt.keep:∀{p:Pt} {d:D} {E E':En},p.bind d E=some E'->E'.length=E.length/\∀i,i∉p.slots->E'[i]?=E[i]?
 | .nm i,d,E,E',e=>by
  unfold Pt.bind at e;split at e
  ·cases e;refine⟨by simp,fun j hj=>?_⟩;rw[Qv,if_neg];intro z;exact hj (by simp[Pt.slots,z])
  ·cases e
 | .tp l,d,E,E',e=>by
  cases d with
  | tup ds=>exact Pts.keep (p:=l) (ds:=ds) (by simpa [Pt.bind] using e)
  | _=>simp[Pt.bind] at e
theorem Pts.keep:∀{p:Pts} {ds:List D} {E E':En},p.bind ds E=some E'->E'.length=E.length/\∀i,i∉p.slots->E'[i]?=E[i]?
 | .nil,[],E,E',e=>by simp[Pts.bind] at e;simp_all
 | .nil,_::_,_,_,e=>by simp[Pts.bind] at e
 | .cons _ _,[],_,_,e=>by simp[Pts.bind] at e
 | .cons p l,d::ds,E,E',e=>by rw[Pts.bind] at e;obtain⟨E1,e1,e2⟩:=bind_some e;obtain⟨h1,h2⟩:=Pt.keep e1;obtain⟨h3,h4⟩:=Pts.keep e2;refine⟨h3.trans h1,fun i hi=>?_⟩;simp[Pts.slots] at hi;rw[h4 i hi.2,h2 i hi.1]
end
section
variable(K:Qo)(C:Qd)
noncomputable def SG(g:TG)(p:Pt):Prop:=∀(B H0 H:Hp) (σ:St) (E E':En) (x:V) (d:D) (Q:St->Hp->Prop),EnvR K C B H0 H σ E->RD K C H0 x d->p.bind d E=some E'->(∀σ',EnvR K C B H0 H σ' E'->Q σ' H)->g x σ H Q
noncomputable def SGs(g:TGs)(p:Pts):Prop:=∀(B H0 H:Hp) (σ:St) (E E':En) (xs:List V) (ds:List D) (Q:St->Hp->Prop),EnvR K C B H0 H σ E->RDL K C H0 xs ds->p.bind ds E=some E'->(∀σ',EnvR K C B H0 H σ' E'->Q σ' H)->g xs σ H Q
end
section
variable{K:Qo}{C:Qd}
theorem EnvR.setSh{B H0 H:Hp}{σ:St}{E:En}{i:Nat}{v:V}{d:D}(I:EnvR K C B H0 H σ E)(hi:i<E.length)(r:RD K C H0 v d):EnvR K C B H0 H (σ.set i (some v)) (E.set i (.sh d)) :=
 I.put' (s:=.sh d) (.refl I.h) hi r rfl
theorem YI(i:Nat):SG K C (YS i) (.nm i):=by
 intro B H0 H σ E E' x d Q I r e q;rw[Pt.bind] at e;split at e
 ·cases e;exact q _ (I.setSh (by assumption) r)
 ·cases e
theorem Ur:SGs K C JjF .nil:=by
 intro B H0 H σ E E' xs ds Q I r e q
 cases ds with
 | nil =>
  cases xs with
  | nil=>rw[Pts.bind] at e;cases e;exact⟨rfl,q σ I⟩
  | cons _ _=>have:=r.1;simp at this
 | cons _ _=>simp[Pts.bind] at e
theorem JJ{g:TG}{gs:TGs}{p:Pt}{ps:Pts}(h:SG K C g p)(hs:SGs K C gs ps):SGs K C (Jex g gs) (.cons p ps):=by
 intro B H0 H σ E E' xs ds Q I r e q
 cases ds with
 | nil=>simp[Pts.bind] at e
 | cons d ds =>
  cases xs with
  | nil=>have:=r.1;simp at this
  | cons x xs=>rw[Pts.bind] at e;obtain⟨E1,e1,e2⟩:=bind_some e;exact⟨x,xs,rfl,h B H0 H σ E E1 x d _ I r.head e1 fun σ1 I1=>hs B H0 H σ1 E1 E' xs ds Q I1 r.tail e2 q⟩
theorem Jsh{n:Nat}{gs:TGs}{ps:Pts}(hn:∀(ds:List D) (E E':En),ps.bind ds E=some E'->ds.length=n)(hs:SGs K C gs ps):SG K C (JfA K n gs) (.tp ps):=by
 intro B H0 H σ E E' x d Q I r e q
 cases d with
 | tup ds=>rw[Pt.bind] at e;obtain⟨a,xs,rfl,h,r⟩:=RD.tupI r;exact⟨a,xs,rfl,I.h.seqT h,by rw[r.1];exact hn ds E E' e,hs B H0 H σ E E' xs ds Q I r e q⟩
 | _=>simp[Pt.bind] at e
noncomputable def Pts.len:Pts->Nat
 | .nil=>0
 | .cons _ l=>l.len+1
theorem Pts.bind_len:∀{ps:Pts} {ds:List D} {E E':En},ps.bind ds E=some E'->ds.length=ps.len
 | .nil,[],_,_,_=>rfl
 | .nil,_::_,_,_,e=>by simp[Pts.bind] at e
 | .cons _ _,[],_,_,e=>by simp[Pts.bind] at e
 | .cons p l,d::ds,E,E',e=>by rw[Pts.bind] at e;obtain⟨E1,e1,e2⟩:=bind_some e;rw[K7,Pts.bind_len e2];rfl
theorem Us{n:Nat}{gs:TGs}{ps:Pts}(hs:SGs K C gs ps)(hn:ps.len=n):SG K C (JfA K n gs) (.tp ps):=Jsh (fun _ _ _ e=>(Pts.bind_len e).trans hn) hs
end

section
variable(K:Qo)(C:Qd)
noncomputable def JgA(A:Hp)(J:It)(ds:List D)(H0:Hp):Prop:=∀H0' H',SStep A H0 H0' H'->(∀(i:Nat) (d:D),ds[i]?=some d->J.go i H'/\∀x H2,J.yld i H' x H2->∃H02,Step H' H0' H' H02 H2/\RD K C H02 x d)/\J.stop ds.length H'
noncomputable def SI(m:Bool)(wi:TI)(ev:En->Option (List D)):Prop:=∀(B H0 H:Hp) (σ:St) (E:En) (ds:List D) (R:It->Hp->Prop),EnvR K C B H0 H σ E->ev E=some ds ->
 (∀J H0' H',Step H H0 H H0' H'->JgA K C (if m=true then H' else B) J ds H0'->R J H')->wi σ H R
end
noncomputable def Sl.it(m:Bool):Sl->Option (List D)
 | .no=>none
 | .sh d=>d.q
 | .bo ds=>if m=true then some ds else none
 | .own ds=>some ds
 | .bd _ _=>none
 | .od _ _=>none
 | .bt _ _=>none
 | .ot _ _=>none
 | .bw _ _=>none
 | .dw _ _=>none
noncomputable def iE(m:Bool)(a:Ev):En->Option (List D):=fun E=>(a E).bind (Sl.it m)
noncomputable def Sl.iv:Sl->Option (List D)
 | .no=>none
 | .sh d=>d.q
 | .bo ds=>some ds
 | .own _=>none
 | .bd _ _=>none
 | .od _ _=>none
 | .bt _ _=>none
 | .ot _ _=>none
 | .bw _ _=>none
 | .dw _ _=>none
noncomputable def iV(i:Nat):En->Option (List D):=fun E=>E[i]?.bind Sl.iv
noncomputable def rng(lo:Int)(n:Nat):List D:=(GS n).map fun(i:Nat)=>.int (lo+(i:Int))
noncomputable def JfF(a:Int):Bool:=Rs a.natAbs 4611686018427387903
noncomputable def iR1(as:En->Option (List Sl)):En->Option (List D):=fun E=>(as E).bind (onI fun n=>if JfF n=true then some (rng 0 n.toNat) else none)
section
variable{K:Qo}{C:Qd}{te:TE}{ea:Ev}{m:Bool}
theorem Wm{A H0:Hp}{a:Qd}{xs:List V}{ds:List D}(hd:∀H0' H',SStep A H0 H0' H'->SqL K H' a xs)(r:RDL K C H0 xs ds):JgA K C A (Itl K a) ds H0:=by intro H0' H' st;have hq:=hd H0' H' st;refine⟨fun i d e=>?_,⟨xs,hq,by rw[r.1];exact Qn _⟩⟩;obtain⟨x,e1,r1⟩:=r.get e;refine⟨⟨xs,x,hq,e1⟩,fun y H2 zz=>?_⟩;obtain⟨e2,e3⟩:=zz;subst e2;have:=e3 xs hq;rw[e1] at this;cases this;exact⟨H0',.refl st.i,r1.mono st.z⟩
theorem JmW{A H0:Hp}{a:Qd}{xs:List V}{ds:List D}(hd:∀H0' H',SStep A H0 H0' H'->SqT K H' a xs)(r:RDL K C H0 xs ds):JgA K C A (Itt K a) ds H0:=by intro H0' H' st;have hq:=hd H0' H' st;refine⟨fun i d e=>?_,⟨xs,hq,by rw[r.1];exact Qn _⟩⟩;obtain⟨x,e1,r1⟩:=r.get e;refine⟨⟨xs,x,hq,e1⟩,fun y H2 zz=>?_⟩;obtain⟨e2,e3⟩:=zz;subst e2;have:=e3 xs hq;rw[e1] at this;cases this;exact⟨H0',.refl st.i,r1.mono st.z⟩
theorem Zf(ha:SE K C te ea):SI K C m (Jco K te) (iE m ea):=by
 intro B H0 H σ E ds R I e q;obtain⟨s,e1,e⟩:=bind_some e
 cases s with
 | bo es =>
  unfold Sl.it at e;dsimp only at e;split at e
  ·next hm=>cases e;refine .inl (ha B H0 H σ E _ _ I e1 fun x H1 H1' s1 r1=>?_);obtain⟨l,xs,rfl,h,r⟩:=r1;refine⟨l,rfl,⟨xs,.of h⟩,q _ _ _ s1 ?_⟩;rw[if_pos hm];exact Wm (fun H0' H' st=>.of (st.b _ _ h)) r
  ·cases e
 | own es=>cases (show some es=some ds from e);refine .inl (ha B H0 H σ E _ _ I e1 fun x H1 H1' s1 r1=>?_);have f:=JF (Hs:=H) s1.i;have r2:=RR.frz s1.i r1 rfl;obtain⟨l,xs,rfl,h,r⟩:=RD.lstI r2;exact⟨l,rfl,⟨xs,.of (f.i _ _ h)⟩,q _ _ _ (s1.comp f fun _ z=>z) (Wm (fun H0' H' st=>.of (st.i _ _ (st.z _ _ h))) r)⟩
 | sh d =>
  cases d with
  | lst es=>cases (show some es=some ds from e);refine .inl (ha B H0 H σ E _ _ I e1 fun x H1 H1' s1 r1=>?_);obtain⟨l,xs,rfl,h,r⟩:=RD.lstI r1;exact⟨l,rfl,⟨xs,.of (s1.i _ _ h)⟩,q _ _ _ s1 (Wm (fun H0' H' st=>.of (st.i _ _ (st.z _ _ h))) r)⟩
  | fz es=>cases (show some es=some ds from e);refine .inl (ha B H0 H σ E _ _ I e1 fun x H1 H1' s1 r1=>?_);obtain⟨l,xs,rfl,h,r⟩:=RD.fzI r1;exact⟨l,rfl,⟨xs,s1.i.seq h⟩,q _ _ _ s1 (Wm (fun H0' H' st=>(st.z.trans st.i).seq h) r)⟩
  | tup es=>cases (show some es=some ds from e);refine .inr (ha B H0 H σ E _ _ I e1 fun x H1 H1' s1 r1=>?_);obtain⟨l,xs,rfl,h,r⟩:=RD.tupI r1;exact⟨l,rfl,⟨xs,s1.i.seqT h⟩,q _ _ _ s1 (JmW (fun H0' H' st=>(st.z.trans st.i).seqT h) r)⟩
  | _=>cases (show none=some ds from e)
 | _=>cases e
theorem JkW(i:Nat):SI K C false (Jco K (Y0 i)) (iV i):=by
 intro B H0 H σ E ds R I e q;obtain⟨s,h,e⟩:=bind_some e
 cases s with
 | bo es =>
  cases e;rcases I.at' i _ h with z|⟨v,h1,h2⟩
  ·cases z
  ·obtain⟨l,xs,rfl,hl,r⟩:=h2;refine .inl ⟨_,h1,l,rfl,⟨xs,.of (I.b _ _ hl)⟩,q _ _ _ (.refl I.h) (Wm (fun H0' H' st=>.of (st.b _ _ hl)) r)⟩
 | sh d=>refine Zf (m:=false) (ea:=Jb i) (Jj i) B H0 H σ E ds R I ?_ q;show(Jb i E).bind _=_;unfold Jb;rw[h];exact e
 | _=>cases e
theorem JkR{lo:Int}{n i:Nat}{d:D}(e:(rng lo n)[i]?=some d):i<n/\d=.int (lo+(i:Int)):=by
 unfold rng at e;rw[Qy] at e
 cases h:(GS n)[i]? with
 | none=>rw[h] at e;cases e
 | some j=>rw[h] at e;cases e;obtain⟨h1,h2⟩:=Qi.mp h;simp at h1 h2;subst h2;exact⟨h1,rfl⟩
theorem JmV{A H0:Hp}{lo:Int}{n:Nat}:JgA K C A (Itr lo n) (rng lo n) H0:=by intro H0' H' st;refine⟨fun i d e=>?_,by show n<=_;simp[rng]⟩;obtain⟨h1,rfl⟩:=JkR e;refine⟨h1,fun x H2 zz=>?_⟩;obtain⟨e1,e2⟩:=zz;subst e1 e2;exact⟨H0',.refl st.i,.int _⟩
theorem Jbw{a:Int}(h:JfF a=true):-(2 ^ 62)<=a/\a<2 ^ 62:=by unfold JfF at h;rw[G8] at h;omega
theorem Jqq{t:TA}{ev:En->Option (List Sl)}(ha:SA K C t ev):SI K C m (JlJ t) (iR1 ev):=by
 intro B H0 H σ E ds R I e q;obtain⟨ss,e1,e⟩:=bind_some e
 replace e:=JhH e;obtain⟨i',rfl,e⟩:=e;split at e
 ·next hn =>
  cases e;refine ha B H0 H σ E _ _ I e1 fun vs H1 H1' s1 r1=>?_
  obtain⟨v,rfl,r⟩:=r1.one;rw[RD.intI r];exact⟨_,rfl,(Jbw hn).1,(Jbw hn).2,q _ _ _ s1 JmV⟩
 ·cases e
end

noncomputable def yes?:En->Option Bool:=fun _=>some true
noncomputable def Sl.bor:Sl->Sl
 | .no=>.no
 | .sh d=>.sh d
 | .bo ds=>.bo ds
 | .own ds=>.bo ds
 | .bd ks ds=>.bd ks ds
 | .od ks ds=>.bd ks ds
 | .bt ks ds=>.bt ks ds
 | .ot ks ds=>.bt ks ds
 | .bw ks ds=>.bw ks ds
 | .dw ks ds=>.bw ks ds
noncomputable def Wl(imp:List (Option Nat))(E:En):En:=imp.map fun o=>((o.bind fun k=>E[k]?).map Sl.bor).getD .no
noncomputable def Zy(p:Pt)(c:En->Option Bool)(a:Ev)(E1:En):List D->Option (List D)
 | []=>some []
 | d::ds=>(p.bind d E1).bind fun E2=>(c E2).bind fun k=>if k=true then(a E2).bind fun s=>s.frz.bind fun y=>(Zy p c a E1 ds).bind fun ys=>some (y::ys) else Zy p c a E1 ds
noncomputable def J9(it:En->Option (List D))(p:Pt)(c:En->Option Bool)(a:Ev)(imp:List (Option Nat)):Ev:=fun E=>(it E).bind fun ds=>if ds.length<=Qk then(Zy p c a (Wl imp E) ds).map .own else none
section
variable{K:Qo}{C:Qd}
theorem JeX:ST K C JoJ yes?:=fun _ _ _ _ _ _ _ I e q=>by cases e;exact q _ _ (.refl I.h)
theorem Jjd{B H0 H:Hp}{σ:St}{E:En}{imp:List (Option Nat)}(I:EnvR K C B H0 H σ E):EnvR K C H H0 H (ZJ imp σ) (Wl imp E):=by
 have get:∀(i:Nat) (s:Sl),(Wl imp E)[i]?=some s->s=.no\/∃v,(ZJ imp σ)[i]?=some (some v)/\RSl K C H H0 H v s/\JR s=false:=fun i s e=>by
  unfold Wl at e;unfold ZJ;rw[Qy] at e ⊢
  cases h:imp[i]? with
  | none=>rw[h] at e;cases e
  | some o =>
   rw[h] at e
   cases o with
   | none=>cases e;exact .inl rfl
   | some k =>
    have e':((E[k]?).map Sl.bor).getD .no=s:=Q6 e
    cases hE:E[k]? with
    | none=>rw[hE] at e';exact .inl e'.symm
    | some s' =>
     rw[hE] at e';rcases I.at' k s' hE with z|⟨v,h1,h2⟩
     ·subst z;exact .inl e'.symm
     ·have g:(σ[k]?).join=some v:=by rw[h1];rfl
      cases s' with
      | no=>exact .inl e'.symm
      | sh d=>subst e';exact .inr ⟨v,by simp_all,h2,rfl⟩
      | bo ds=>subst e';obtain⟨l,xs,q1,q2,q3⟩:=h2;exact .inr ⟨v,by simp_all,⟨l,xs,q1,I.b _ _ q2,q3⟩,rfl⟩
      | own ds=>subst e';obtain⟨l,xs,q1,q2,_,_,q3⟩:=h2;exact .inr ⟨v,by simp_all,⟨l,xs,q1,q2,q3⟩,rfl⟩
      | bd ks ds|bt ks ds|bw ks ds=>subst e';obtain⟨l,xs,q1,q2,q3⟩:=h2;exact .inr ⟨v,by simp_all,⟨l,xs,q1,I.b _ _ q2,q3⟩,rfl⟩
      | od ks ds|ot ks ds|dw ks ds=>subst e';obtain⟨l,xs,q1,q2,_,_,q3⟩:=h2;exact .inr ⟨v,by simp_all,⟨l,xs,q1,q2,q3⟩,rfl⟩
 refine⟨Same.refl _,I.h,by simp[ZJ,Wl],fun i s e=>?_,fun i j s t v hij e1 e2 o1 o2=>?_,I.t.mono I.b⟩
 ·rcases get i s e with z|⟨v,h1,h2,_⟩
  ·exact .inl z
  ·exact .inr ⟨v,h1,h2⟩
 ·rcases get i _ e1 with z|⟨v,h1,h2,h3⟩
  ·subst z;cases o1
  simp_all
theorem Vt{wi:TI}{g:TG}{tt:TT}{te:TE}{imp:List (Option Nat)}{it:En->Option (List D)}{p:Pt}{c:En->Option Bool}{a:Ev}(hi:SI K C true wi it)(hg:SG K C g p)(hc:ST K C tt c)(ha:SE K C te a)
 (hp:(p.slots.all fun i=>match imp[i]? with|some none=>true|_=>false)=true):SE K C (Je3 wi g tt te imp) (J9 it p c a imp):=by
 intro B H0 H σ E r Q I e q;obtain⟨ds,e1,e⟩:=bind_some e;split at e
 ·next hl =>
  obtain⟨es,e2,rfl⟩:=map_some e;refine hi B H0 H σ E ds _ I e1 fun J H1 H1' s1 ok=>?_
  rw[if_pos rfl] at ok;have I1:EnvR K C H1' H1 H1' (ZJ imp σ) (Wl imp E):=Jjd (I.step s1)
  -- the loop: what was gathered,what comes
  refine⟨fun i m ys σ' H'=>m=ds.length-i/\i<=ds.length/\∃H0' gs rs,EnvR K C H1' H0' H' σ' (Wl imp E)/\Step H1' H1 H1' H0' H'/\RDL K C H0' ys gs/\Zy p c a (Wl imp E) (ds.drop i)=some rs/\es=gs++rs/\gs.length<=i,
   ⟨ds.length,by simp,Gm _,H1,[],es,I1,.refl s1.i,.nil,e2,rfl,Qn _⟩,?_⟩
  rintro i m ys σ' H' ⟨rfl,hi',H0',gs,rs,I',st,rys,er,ees,hgl⟩;have stop:=ok H0' H' ⟨st.h,st.z,st.n,st.i⟩
  by_cases hlt:i<ds.length
  ·have hd:ds[i]?=some ds[i]:=by simp[hlt]
   obtain⟨go,yl⟩:=stop.1 i _ hd;refine .inr ⟨go,by rw[rys.1];lia,fun ys' σ2 H2=>∃H02 gs rs,EnvR K C H1' H02 H2 σ2 (Wl imp E)/\Step H1' H1 H1' H02 H2/\RDL K C H02 ys' gs/\Zy p c a (Wl imp E) (ds.drop (i+1))=some rs/\es=gs++rs/\gs.length<=i+1,
    fun ys' σ2 H2 h=>⟨ds.length-(i+1),by grind,rfl,hlt,h⟩,fun x H2 y=>?_⟩
   obtain⟨H02,st2,rx⟩:=yl x H2 y;rw[GP hlt,Zy] at er;obtain⟨E2,b1,er⟩:=bind_some er;obtain⟨k,b2,er⟩:=bind_some er;refine hg H1' H02 H2 σ' (Wl imp E) E2 x _ _ (I'.step st2) rx b1 fun σ2 I2=>?_
   have back:∀{H03 H3:Hp},EnvR K C H1' H03 H3 σ2 E2->EnvR K C H1' H03 H3 σ2 (Wl imp E):=fun {H03 H3} J=>by
    obtain⟨k1,k2⟩:=Pt.keep b1;refine J.sub k1.symm fun j s ej=>?_
    by_cases hj:j∈p.slots
    ·have:=Kj.mp hp j hj
     have ej':=ej;unfold Wl at ej';rw[Qy] at ej'
     cases hm:imp[j]? with
     | none=>rw[hm] at this;cases this
     | some o =>
      rw[hm] at this ej'
      cases o with
      | none=>cases ej';exact .inl rfl
      | some _=>cases this
    simp_all
   refine hc H1' H02 H2 σ2 E2 k _ I2 b2 fun H03 H3 st3=>?_
   have st13:Step H1' H1 H1' H03 H3:=(st.trans st2).trans st3
   cases k with
   | false=>rw[if_neg (by simp)];rw[if_neg (by simp)] at er;exact⟨H03,gs,rs,back (I2.step st3),st13,rys.mono (st2.z.trans st3.z),er,ees,by lia⟩
   | true =>
    rw[if_pos rfl];rw[if_pos rfl] at er;obtain⟨s,b3,er⟩:=bind_some er;obtain⟨y',b4,er⟩:=bind_some er;obtain⟨ws,b5,er⟩:=bind_some er;cases er;refine ha H1' H03 H3 σ2 E2 s _ (I2.step st3) b3 fun v H04 H4 st4 r4=>?_
    have f:=JF (Hs:=H3) st4.i
    have st5:Step H3 H03 H3 (JK H3 H04 H4) H4:=st4.comp f fun _ z=>z
    exact⟨_,gs++[y'],ws,back ((I2.step st3).step st5),st13.trans st5,(rys.mono ((st2.z.trans st3.z).trans st5.z)).snoc (RR.frz st4.i r4 b4),b5,by simp_all,by simp_all⟩
  ·have e3:i=ds.length:=by lia
   subst e3;refine .inl ⟨stop.2,by rw[rys.1];exact QJ ‹_› ‹_›,fun p hp=>?_⟩;rw[K8,Zy] at er;cases er;rw[Li] at ees;subst ees;exact YN (Hs:=H) st.i (s1.h.trans st.h) hp rys fun v H2 H2' s2 r2=>q v H2 H2' ((s1.trans st).comp s2 fun _ z=>z) r2
 ·cases e
end
end LE

namespace LE
open PySem L2 LR

inductive Out where
 | nx (E:En)|rt (r:Sl)|bk (E:En)|ct (E:En)
noncomputable abbrev Es:=En->Option Out
section
variable(K:Qo)(C:Qd)
noncomputable def Fin(B H0:Hp)(D:Ends):Out->Prop
 | .nx E=>∀σ' H0' H',SStep B H0 H0' H'->EnvR K C B H0' H' σ' E->D.nx σ' H'
 | .bk E=>∀σ' H0' H',SStep B H0 H0' H'->EnvR K C B H0' H' σ' E->D.bk σ' H'
 | .ct E=>∀σ' H0' H',SStep B H0 H0' H'->EnvR K C B H0' H' σ' E->D.ct σ' H'
 | .rt r=>∀v H0' H',SStep B H0 H0' H'->RR K C B H0' H' v r->D.rt v H'
noncomputable def SS(ts:TS)(ev:Es):Prop:=∀(B H0 H:Hp) (σ:St) (E:En) (o:Out) (D:Ends),EnvR K C B H0 H σ E->ev E=some o->Fin K C B H0 D o->ts D σ H
end
noncomputable def J1:Es:=fun E=>some (.nx E)
noncomputable def Jis(b:Es):Out->Option Out
 | .nx E=>b E
 | .rt r=>some (.rt r)
 | .bk E=>some (.bk E)
 | .ct E=>some (.ct E)
noncomputable def Jq(a b:Es):Es:=fun E=>(a E).bind (Jis b)
noncomputable def xIf(c:En->Option Bool)(a b:Es):Es:=fun E=>(c E).bind fun k=>if k=true then a E else b E
noncomputable def keep?:Sl->Option Sl
 | .no=>none
 | .sh d=>some (.sh d)
 | .bo _=>none
 | .own ds=>some (.own ds)
 | .bd _ _=>none
 | .od ks ds=>some (.od ks ds)
 | .bt _ _=>none
 | .ot ks ds=>some (.ot ks ds)
 | .bw _ _=>none
 | .dw ks ds=>some (.dw ks ds)
noncomputable def Wb(i:Nat)(a:Ev):Es:=fun E=>(a E).bind fun s=>(keep? s).bind fun s=>if i<E.length then some (.nx (E.set i s)) else none
noncomputable def Jt(i:Nat)(a:Ev):Es:=fun E=>(a E).bind fun s=>s.frz.bind fun d=>if i<E.length then some (.nx (E.set i (.sh d))) else none
noncomputable def JoM(p:Pt)(a:Ev):Es:=fun E=>(a E).bind fun s=>s.frz.bind fun d=>(p.bind d E).map .nx
noncomputable def Va(a:Ev):Es:=fun E=>(a E).map fun _=>.nx E
noncomputable def Yk(a:Ev):Es:=fun E=>(a E).bind fun s=>(keep? s).map .rt
noncomputable def Sl.rv:Sl->Option Sl
 | .no=>none
 | .sh d=>some (.sh d)
 | .bo _=>none
 | .own ds=>some (.own ds)
 | .bd _ _=>none
 | .od ks ds=>some (.od ks ds)
 | .bt _ _=>none
 | .ot _ _=>none
 | .bw _ _=>none
 | .dw _ _=>none
noncomputable def US(i:Nat):Es:=fun E=>(E[i]?.bind Sl.rv).map .rt
noncomputable def J8:Es:=fun _=>none
theorem int_at{s:Option Sl}{i:Int}(e:s.bind int?=some i):s=some (.sh (.int i)):=by obtain⟨s,rfl,e⟩:=bind_some e;rw[JA e]
noncomputable def Jdg(i:Nat)(a:Ev):Es:=fun E=>(E[i]?.bind own?).bind fun ds=>(a E).bind fun s=>s.frz.bind fun d=>if ds.length<Qk then some (.nx (E.set i (.own (ds++[d])))) else none
noncomputable def Jgs(i:Nat)(a:Ev):Es:=fun E=>(E[i]?.bind own?).bind fun ds=>(a E).bind fun s=>s.m.bind fun es=>if ds.length+es.length<=Qk then some (.nx (E.set i (.own (ds++es)))) else none
noncomputable def JiR(i j:Nat)(f:Sl->Option Sl):Es:=fun E=>(E[i]?.bind own?).bind fun ds=>(ds[ds.length-1]?).bind fun d=>(f (.sh d)).bind fun s=>(sh? s).bind fun d'=>if j<E.length then some (.nx ((E.set i (.own ds.dropLast)).set j (.sh d'))) else none
noncomputable def JiO(f:Int->Int->Int)(i:Nat)(a:Ev):Es:=fun E=>(E[i]?.bind int?).bind fun x=>(a E).bind fun s=>(int? s).bind fun y=>some (.nx (E.set i (.sh (.int (f x y)))))
noncomputable def Sl.fe:Sl->Option D
 | .no=>none
 | .sh _=>none
 | .bo _=>none
 | .own ds=>some (.lst ds)
 | .bd _ _=>none
 | .od ks ds=>some (.dct ks ds)
 | .bt _ _=>none
 | .ot _ _=>none
 | .bw _ _=>none
 | .dw _ _=>none
noncomputable def JjD(i:Nat)(E:En):En:=((E[i]?.bind Sl.fe).map fun d=>E.set i (.sh d)).getD E
noncomputable def JoN(i:Nat)(a:Es):Es:=fun E=>a (JjD i E)
noncomputable def Jar(p:Pt)(b:Es):List D->Es
 | [],E=>some (.nx E)
 | d::ds,E=>(p.bind d E).bind fun E1=>(b E1).bind fun o=>match o with
  | .nx E2=>Jar p b ds E2
  | .ct E2=>Jar p b ds E2
  | .bk E2=>some (.nx E2)
  | .rt r=>some (.rt r)
noncomputable def UR(it:En->Option (List D))(p:Pt)(b:Es):Es:=fun E=>(it E).bind fun ds=>Jar p b ds E
noncomputable def U7(c:En->Option Bool)(b:Es):Nat->Es
 | 0,_=>none
 | n+1,E=>(c E).bind fun k=>if k=true then(b E).bind fun o=>match o with
  | .nx E2=>U7 c b n E2
  | .ct E2=>U7 c b n E2
  | .bk E2=>some (.nx E2)
  | .rt r=>some (.rt r)
  else some (.nx E)
section
variable{K:Qo}{C:Qd}{B H0 H H0' H':Hp}{σ:St}{E:En}{D:Ends}{o:Out}{te:TE}{ea:Ev}{t u:TS}{et eu:Es}
theorem Fin.step(st:SStep B H0 H0' H')(f:Fin K C B H0 D o):Fin K C B H0' D o:=by
 cases o with
 | nx E|bk E|ct E=>exact fun σ' H1 H1' s1 I=>f σ' H1 H1' (st.trans s1) I
 | rt r=>exact fun v H1 H1' s1 I=>f v H1 H1' (st.trans s1) I
theorem EnvR.ss(I:EnvR K C B H0 H σ E):SStep B H0 H0 H:=.refl I.b I.h
theorem Y1:SS K C Jba J1:=fun _ _ _ _ _ _ _ I e f=>by cases e;exact f _ _ _ I.ss I
theorem Jlm:SS K C JiG J8:=fun _ _ _ _ _ _ _ _ e _=>by cases e
theorem Ya(ht:SS K C t et)(hu:SS K C u eu):SS K C (Jdc t u) (Jq et eu):=by
 intro B H0 H σ E o D I e f;obtain⟨o1,e1,e⟩:=bind_some e;refine ht B H0 H σ E o1 _ I e1 ?_
 cases o1 with
 | nx E1=>exact fun σ1 H1 H1' s1 I1=>hu B H1 H1' σ1 E1 o D I1 e (f.step s1)
 | bk E1|ct E1=>cases e;exact f
 | rt r=>cases e;exact f
theorem Zi{c:TT}{ec:En->Option Bool}(hc:ST K C c ec)(ht:SS K C t et)(hu:SS K C u eu):SS K C (Jea c t u) (xIf ec et eu):=by
 intro B H0 H σ E o D I e f;obtain⟨k,e1,e⟩:=bind_some e;refine hc B H0 H σ E k _ I e1 fun H1 H1' s1=>?_
 cases k with
 | true=>rw[if_pos rfl];exact ht B H1 H1' σ E o D (I.step s1) e (f.step (s1.ss I.b))
 | false=>rw[if_neg (by simp)];exact hu B H1 H1' σ E o D (I.step s1) e (f.step (s1.ss I.b))
theorem Ja0{s r:Sl}(e:keep? s=some r):s=r/\JmT r=false:=by cases s <;> cases e <;> exact⟨rfl,rfl⟩
theorem Jl2{i:Nat}(ha:SE K C te ea):SS K C (Zh te (YS i)) (Wb i ea):=by
 intro B H0 H σ E o D I e f;obtain⟨s,e1,e⟩:=bind_some e;obtain⟨s',e2,e⟩:=bind_some e;obtain⟨rfl,hb⟩:=Ja0 e2;split at e
 ·cases e;exact ha B H0 H σ E _ _ I e1 fun v H1 H1' s1 r1=>f _ _ _ (s1.ss I.b) (I.put' s1 (by assumption) r1 hb)
 ·cases e
theorem JU{i:Nat}(ha:SE K C te ea):SS K C (Zh te (YS i)) (Jt i ea):=by
 intro B H0 H σ E o D I e f;obtain⟨s,e1,e⟩:=bind_some e;obtain⟨d,e2,e⟩:=bind_some e;split at e
 ·cases e;refine ha B H0 H σ E _ _ I e1 fun v H1 H1' s1 r1=>?_
  have s2:Step H H0 H (JK H H1 H1') H1':=s1.comp (JF s1.i) fun _ z=>z
  exact f _ _ _ (s2.ss I.b) ((I.step s2).setSh (by assumption) (RR.frz s1.i r1 e2))
 ·cases e
theorem JrV{g:TG}{p:Pt}(ha:SE K C te ea)(hg:SG K C g p):SS K C (Zh te g) (JoM p ea):=by
 intro B H0 H σ E o D I e f;obtain⟨s,e1,e⟩:=bind_some e;obtain⟨d,e2,e⟩:=bind_some e;obtain⟨E',e3,rfl⟩:=map_some e;refine ha B H0 H σ E _ _ I e1 fun v H1 H1' s1 r1=>?_
 have s2:Step H H0 H (JK H H1 H1') H1':=s1.comp (JF s1.i) fun _ z=>z
 exact hg B _ H1' σ E E' v d _ (I.step s2) (RR.frz s1.i r1 e2) e3 fun σ' I'=>f _ _ _ (s2.ss I.b) I'
theorem Wc(ha:SE K C te ea):SS K C (WD te) (Va ea):=by intro B H0 H σ E o D I e f;obtain⟨s,e1,rfl⟩:=map_some e;exact ha B H0 H σ E _ _ I e1 fun v H1 H1' s1 r1=>f _ _ _ (s1.ss I.b) (I.step s1)
theorem Jbd(ha:SE K C te ea):SS K C (Jgl te) (Yk ea):=by intro B H0 H σ E o D I e f;obtain⟨s,e1,e⟩:=bind_some e;obtain⟨s',e2,rfl⟩:=map_some e;obtain⟨rfl,hb⟩:=Ja0 e2;exact ha B H0 H σ E _ _ I e1 fun v H1 H1' s1 r1=>f _ _ _ (s1.ss I.b) (r1.weak fun a z=>Same.free I.b z)
theorem JiS{i:Nat}:SS K C (Jgl (Y0 i)) (US i):=by
 intro B H0 H σ E o D I e f
 replace e:=map_some e;obtain⟨r,e,rfl⟩:=e;obtain⟨s,h,e⟩:=bind_some e;rcases I.at' i _ h with z|⟨v,h1,h2⟩
 ·rw[z] at e;cases e
 ·cases s <;> cases e <;> exact⟨v,h1,f _ _ _ I.ss h2⟩
theorem EnvR.mutG{i:Nat}{l:Qd}{t t':Sl}{o':HO}(I:EnvR K C B H0 H σ E)(e1:E[i]?=some t)(ho:JR t=true)(ho':JR t'=true)(e2:σ[i]?=some (some (.ref l)))(r:RSl K C B H0 (upd H l o') (.ref l) t') :
 EnvR K C B H0 (upd H l o') σ (E.set i t'):=by
 obtain⟨h1,h2,h3⟩:=I.ownG e1 ho e2;have hi:i<E.length:=(Qi.mp e1).1;have nb:∀{A:Hp},A l=none->Same A H->Same A (upd H l o'):=fun {A} n s a o e=>by rw[Jf (Jp e n)];exact s a o e
 refine⟨nb h3 I.b,nb h2 I.h,by simp[I.len],fun j s e=>?_,fun j k s1 s2 v hjk a1 a2 p1 p2 a3=>?_,I.t⟩
 ·rw[Qv] at e
  by_cases hj:i=j
  ·simp_all
  ·rw[if_neg hj] at e;rcases I.at' j s e with z|⟨v,q1,q2⟩
   ·exact .inl z
   ·refine .inr ⟨v,q1,?_⟩
    cases s with
    | no=>trivial
    | sh d=>exact q2
    | bo es=>exact q2
    | bd ks es|bt ks es|bw ks es=>exact q2
    | own es =>
     obtain⟨l',ys,p1,p2,p3,p4,p5⟩:=q2;subst p1;have:l'≠l:=fun z=>by subst z;exact I.sep i j t _ (.ref l') hj e1 e ho rfl e2 q1
     exact⟨l',ys,rfl,by rw[Jf this];exact p2,p3,p4,p5⟩
    | od ks es|ot ks es|dw ks es =>
     obtain⟨l',ys,p1,p2,p3,p4,p5⟩:=q2;subst p1;have:l'≠l:=fun z=>by subst z;exact I.sep i j t _ (.ref l') hj e1 e ho rfl e2 q1
     exact⟨l',ys,rfl,by rw[Jf this];exact p2,p3,p4,p5⟩
 ·have own:∀{j:Nat} {u:Sl},(E.set i t')[j]?=some u->JR u=true->∃g,E[j]?=some g/\JR g=true:=fun {j u} a w=>by
   rw[Qv] at a
   by_cases hj:i=j
   ·subst hj;exact⟨t,e1,ho⟩
   ·rw[if_neg hj] at a;exact⟨_,a,w⟩
  obtain⟨g1,b1,c1⟩:=own a1 p1;obtain⟨g2,b2,c2⟩:=own a2 p2;exact I.sep j k g1 g2 v hjk b1 b2 c1 c2 a3
theorem EnvR.mut{i:Nat}{l:Qd}{ds ds':List LE.D}{xs xs':List V}(I:EnvR K C B H0 H σ E)(e1:E[i]?=some (.own ds))(e2:σ[i]?=some (some (.ref l)))(r:RDL K C H0 xs' ds') :
 EnvR K C B H0 (upd H l (.lst xs')) σ (E.set i (.own ds')):=by
 obtain⟨_,h2,h3⟩:=I.ownG e1 rfl e2;exact I.mutG (t':=.own ds') e1 rfl rfl e2 ⟨l,xs',rfl,Jl,h2,h3,r⟩
theorem EnvR.slot{i:Nat}{ds:List LE.D}(I:EnvR K C B H0 H σ E)(e1:E[i]?=some (.own ds)):∃l xs,σ[i]?=some (some (.ref l))/\H l=some (.lst xs)/\H0 l=none/\B l=none/\RDL K C H0 xs ds:=by
 rcases I.at' i _ e1 with z|⟨v,h1,l,xs,rfl,h2,h3,h4,h5⟩
 ·cases z
 ·exact⟨l,xs,h1,h2,h3,h4,h5⟩
theorem JrU{i:Nat}(ha:SE K C te ea):SS K C (WD (tBM K "list" VG (Y0 i) (Yf te YZ))) (Jdg i ea):=by
 intro B H0 H σ E o D I e f;obtain⟨ds,h,e⟩:=bind_some e;have h:=JbJ h;obtain⟨s,e1,e⟩:=bind_some e;obtain⟨d,e2,e⟩:=bind_some e;split at e
 ·next hz =>
  cases e;obtain⟨l,xs,g1,g2,g3,g4,g5⟩:=I.slot h;refine⟨_,g1,.inl ⟨rfl,_,.of g2⟩,?_⟩;refine ha B H0 H σ E _ _ I e1 fun v H1 H1' s1 r1=>?_
  have s2:Step H H0 H (JK H H1 H1') H1':=s1.comp (JF s1.i) fun _ z=>z
  have I2:=I.step s2
  have m:=I2.mut (xs:=xs) h g1 ((g5.mono s2.z).snoc (RR.frz s1.i r1 e2));exact⟨l,xs,v,rfl,rfl,s2.h _ _ g2,by rw[g5.1];exact hz,f _ _ _ ⟨m.b,s2.z,(s2.ss I.b).n,m.h⟩ m⟩
 ·cases e
theorem JrX{i:Nat}(ha:SE K C te ea):SS K C (WD (tBM K "list" JeR (Y0 i) (Yf te YZ))) (Jgs i ea):=by
 intro B H0 H σ E o D I e f;obtain⟨ds,h,e⟩:=bind_some e;have h:=JbJ h;obtain⟨s,e1,e⟩:=bind_some e;obtain⟨es,e2,e⟩:=bind_some e;split at e
 ·next hz =>
  cases e;obtain⟨l,xs,g1,g2,g3,g4,g5⟩:=I.slot h;refine⟨_,g1,.inl ⟨rfl,_,.of g2⟩,?_⟩;refine ha B H0 H σ E _ _ I e1 fun v H1 H1' s1 r1=>?_
  have I2:=I.step s1;obtain⟨l',ys,rfl,k1,k2⟩:=r1.m s1.i e2
  have m:=I2.mut (xs:=xs) h g1 ((g5.mono s1.z).append k2);exact⟨l,l',xs,ys,rfl,rfl,s1.h _ _ g2,k1,by rw[g5.1,k2.1];exact hz,f _ _ _ ⟨m.b,s1.z,(s1.ss I.b).n,m.h⟩ m⟩
 ·cases e
theorem Jr0{i j:Nat}:SS K C (Zh (Jle K "list" Jn1 (Y0 i)) (YS j)) (JiR i j some):=by
 intro B H0 H σ E o D I e f;obtain⟨ds,h,e⟩:=bind_some e;have h:=JbJ h;obtain⟨d,e1,e⟩:=bind_some e;obtain⟨s,e2,e⟩:=bind_some e;cases e2;obtain⟨d',e3,e⟩:=bind_some e;cases e3;split at e
 ·next hj =>
  cases e;obtain⟨l,xs,g1,g2,g3,g4,g5⟩:=I.slot h;rw[<- g5.1] at e1;obtain⟨y,e4,r4⟩:=g5.get e1;have hd:RDL K C H0 xs.dropLast ds.dropLast:=by rw[KS,KS,g5.1];exact g5.take _
  have m:=I.mut (xs:=xs) h g1 hd;refine⟨_,g1,.inl ⟨rfl,_,.of g2⟩,l,xs,y,rfl,rfl,g2,e4,?_⟩;exact f _ _ _ ⟨m.b,Same.refl _,fun _ _ e=>.inl e,m.h⟩ (m.setSh (by simpa using hj) r4)
 ·cases e
theorem Jln{i j:Nat}{k:Int}:SS K C (Zh (tOp (rIx K) (Jle K "list" Jn1 (Y0 i)) (tC (.int k))) (YS j)) (JiR i j fun s=>fIx s (.sh (.int k))):=by
 intro B H0 H σ E o D I e f;obtain⟨ds,h,e⟩:=bind_some e;have h:=JbJ h;obtain⟨d,e1,e⟩:=bind_some e;obtain⟨s,e2,e⟩:=bind_some e;obtain⟨d',e3,e⟩:=bind_some e;obtain rfl:=Wx e3;split at e
 ·next hj =>
  cases e;obtain⟨l,xs,g1,g2,g3,g4,g5⟩:=I.slot h;rw[<- g5.1] at e1;obtain⟨y,e4,r4⟩:=g5.get e1;have hd:RDL K C H0 xs.dropLast ds.dropLast:=by rw[KS,KS,g5.1];exact g5.take _
  have m:=I.mut (xs:=xs) h g1 hd;refine⟨_,g1,.inl ⟨rfl,_,.of g2⟩,l,xs,y,rfl,rfl,g2,e4,?_⟩;refine Zd (K:=K) (C:=C) _ H0 _ y (.int k) (.sh d) (.sh (.int k)) (.sh d') _ m.h (Same.refl _) r4 (RD.int k) e2 fun v H2 H2' s2 r2=>?_
  exact f _ _ _ ⟨m.b.trans s2.h,s2.z,fun a o z=>(s2.n a o z).imp id fun z=>z.imp (fun z=>Same.free m.b z) id,s2.i⟩ ((m.step s2).setSh (by simpa using hj) r2)
 ·cases e
theorem JrW{i:Nat}{g:Int->Int->Int}(ha:SE K C te ea):SS K C (Jld i te (ipI g)) (JiO g i ea):=by
 intro B H0 H σ E o D I e f;obtain⟨x,h,e⟩:=bind_some e;have h:=int_at h;obtain⟨s,e1,e⟩:=bind_some e
 replace e:=bind_some e;obtain⟨y,e0,e⟩:=e;obtain rfl:=JA e0;cases e;rcases I.at' i _ h with z|⟨v,h1,h2⟩
 ·cases z
 ·have hi:i<E.length:=(Qi.mp h).1;refine⟨v,h1,ha B H0 H σ E _ _ I e1 fun w H1 H1' s1 r1=>⟨_,_,RD.intI h2,RD.intI r1,f _ _ _ (s1.ss I.b) ((I.step s1).setSh hi (.int _))⟩⟩
theorem EnvR.slotD{i:Nat}{ks:List Int}{ds:List LE.D}(I:EnvR K C B H0 H σ E)(e1:E[i]?=some (.od ks ds)):∃l xs,σ[i]?=some (some (.ref l))/\H l=some (dkO ks xs)/\H0 l=none/\B l=none/\ks.length=ds.length/\RDL K C H0 xs ds:=by
 rcases I.at' i _ e1 with z|⟨v,h1,l,xs,rfl,h2,h3,h4,h5⟩
 ·cases z
 ·exact⟨l,xs,h1,h2,h3,h4,h5⟩
theorem EnvR.frzG(I:EnvR K C B H0 H σ E){i:Nat}{t:Sl}{l:Qd}{o:HO}{d:LE.D}(h:E[i]?=some t)(ho:JR t=true)(g1:σ[i]?=some (some (.ref l)))(g2:H l=some o)(g5:∀H1,Same H0 H1->H1 l=some o->RD K C H1 (.ref l) d):∃H0',SStep B H0 H0' H/\EnvR K C B H0' H σ (E.set i (.sh d)):=by
 obtain⟨_,g3,g4⟩:=I.ownG h ho g1;have hi:i<E.length:=(Qi.mp h).1;have s0:Same H0 (upd H0 l o):=.new g3
 have s1:Same (upd H0 l o) H:=fun a o e=>by
  by_cases ha:a=l
  ·grind[Jl]
  ·rw[Jf ha] at e;exact I.h a o e
 refine⟨upd H0 l o,⟨I.b,s0,fun a o e=>?_,s1⟩,I.b,s1,by simp[I.len],fun j s e=>?_,fun j k u1 u2 v hjk a1 a2 w1 w2 a3=>?_,I.t⟩
 ·grind[Jf]
 ·rw[Qv] at e
  by_cases hj:i=j
  ·subst hj;rw[if_pos rfl,if_pos hi] at e;cases e;exact .inr ⟨_,g1,g5 _ s0 Jl⟩
  ·rw[if_neg hj] at e;rcases I.at' j s e with z|⟨v,q1,q2⟩
   ·exact .inl z
   ·refine .inr ⟨v,q1,?_⟩
    cases s with
    | no=>trivial
    | sh d=>exact RD.mono s0 q2
    | bo es=>obtain⟨l',ys,p1,p2,p3⟩:=q2;exact⟨l',ys,p1,p2,p3.mono s0⟩
    | bd ks es|bt ks es|bw ks es=>obtain⟨l',ys,p1,p2,hk,p3⟩:=q2;exact⟨l',ys,p1,p2,hk,p3.mono s0⟩
    | own es =>
     obtain⟨l',ys,p1,p2,p3,p4,p5⟩:=q2;subst p1;have:l'≠l:=fun z=>by subst z;exact I.sep i j t _ (.ref l') hj h e ho rfl g1 q1
     exact⟨l',ys,rfl,p2,by rw[Jf this];exact p3,p4,p5.mono s0⟩
    | od ks es|ot ks es|dw ks es =>
     obtain⟨l',ys,p1,p2,p3,p4,hk,p5⟩:=q2;subst p1;have:l'≠l:=fun z=>by subst z;exact I.sep i j t _ (.ref l') hj h e ho rfl g1 q1
     exact⟨l',ys,rfl,p2,by rw[Jf this];exact p3,p4,hk,p5.mono s0⟩
 ·have own:∀{j:Nat} {u:Sl},(E.set i (.sh d))[j]?=some u->JR u=true->E[j]?=some u:=fun {j u} a w=>by
   rw[Qv] at a
   by_cases hj:i=j
   ·subst hj;rw[if_pos rfl,if_pos hi] at a;cases a;cases w
   simp_all
  exact I.sep j k u1 u2 v hjk (own a1 w1) (own a2 w2) w1 w2 a3
theorem EnvR.frz(I:EnvR K C B H0 H σ E)(i:Nat):∃H0',SStep B H0 H0' H/\EnvR K C B H0' H σ (JjD i E):=by
 unfold JjD
 cases h0:E[i]?.bind Sl.fe with
 | none=>exact⟨H0,I.ss,I⟩
 | some d =>
  obtain⟨s,h,e⟩:=bind_some h0
  cases s with
  | own ds=>cases e;obtain⟨l,xs,g1,g2,g3,g4,g5⟩:=I.slot h;exact I.frzG h rfl g1 g2 fun H1 s0 hl=>.mkL hl (g5.mono s0)
  | od ks ds=>cases e;obtain⟨l,xs,g1,g2,g3,g4,hk,g5⟩:=I.slotD h;exact I.frzG h rfl g1 g2 fun H1 s0 hl=>.mkD hl hk (g5.mono s0)
  | _=>cases e
theorem JrY(i:Nat)(ht:SS K C t et):SS K C t (JoN i et):=by intro B H0 H σ E o D I e f;obtain⟨H0',s,I'⟩:=I.frz i;exact ht B H0' H σ _ o D I' e (f.step s)
theorem Jdi{wi:TI}{g:TG}{it:En->Option (List LE.D)}{p:Pt}(hi:SI K C false wi it)(hg:SG K C g p)(ht:SS K C t et):SS K C (Jda wi g t) (UR it p et):=by
 intro B H0 H σ E o D I e f;obtain⟨ds,e1,e⟩:=bind_some e;refine hi B H0 H σ E ds _ I e1 fun J H1 H1' s1 ok=>?_
 rw[if_neg (by simp)] at ok;refine⟨fun i m σ' H'=>m=ds.length-i/\i<=ds.length/\∃H0' E',EnvR K C B H0' H' σ' E'/\SStep B H1 H0' H'/\Jar p et (ds.drop i) E'=some o,
  ⟨ds.length,by simp,Gm _,H1,E,I.step s1,.refl (I.b.trans s1.h) s1.i,e⟩,?_⟩
 rintro i m σ' H' ⟨rfl,hi',H0',E',I',st,er⟩;have stop:=ok H0' H' st;have f':Fin K C B H0' D o:=(f.step (s1.ss I.b)).step st
 by_cases hlt:i<ds.length
 ·have hd:ds[i]?=some ds[i]:=by simp[hlt]
  obtain⟨go,yl⟩:=stop.1 i _ hd;refine .inr ⟨go,fun σ2 H2=>∃H02 E2,EnvR K C B H02 H2 σ2 E2/\SStep B H1 H02 H2/\Jar p et (ds.drop (i+1)) E2=some o,fun σ2 H2 h=>⟨ds.length-(i+1),by grind,rfl,hlt,h⟩,fun x H2 y=>?_⟩;obtain⟨H02,st2,rx⟩:=yl x H2 y;rw[GP hlt,Jar] at er;obtain⟨E1,b1,er⟩:=bind_some er;obtain⟨o1,b2,er⟩:=bind_some er;have ss2:SStep B H0' H02 H2:=st2.ss I'.b;refine hg B H02 H2 σ' E' E1 x _ _ (I'.step st2) rx b1 fun σ2 I2=>?_
  refine ht B H02 H2 σ2 E1 o1 _ I2 b2 ?_
  cases o1 with
  | nx E2|ct E2=>exact fun σ3 H3 H3' s3 I3=>⟨H3,E2,I3,(st.trans ss2).trans s3,er⟩
  | bk E2=>cases er;exact f'.step ss2
  | rt r=>cases er;exact f'.step ss2
 ·have e3:i=ds.length:=by lia
  subst e3;rw[K8,Jar] at er;cases er;exact .inl ⟨stop.2,f' _ _ _ I'.ss I'⟩
theorem Jlo{c:TT}{ec:En->Option Bool}{n:Nat}(hc:ST K C c ec)(ht:SS K C t et):SS K C (JiI c t) (U7 ec et n):=by
 intro B H0 H σ E o D I e f;refine⟨fun m σ' H'=>∃H0' E',EnvR K C B H0' H' σ' E'/\SStep B H0 H0' H'/\U7 ec et m E'=some o,⟨n,H0,E,I,I.ss,e⟩,?_⟩;rintro m σ' H' ⟨H0',E',I',st,er⟩
 cases m with
 | zero=>cases er
 | succ m =>
  rw[U7] at er;obtain⟨k,b1,er⟩:=bind_some er;refine hc B H0' H' σ' E' k _ I' b1 fun H1 H1' s1=>?_
  have f':Fin K C B H1 D o:=(f.step st).step (s1.ss I'.b)
  cases k with
  | false=>rw[if_neg (by simp)] at er ⊢;cases er;exact f' _ _ _ (I'.step s1).ss (I'.step s1)
  | true =>
   rw[if_pos rfl] at er ⊢;obtain⟨o1,b2,er⟩:=bind_some er;refine⟨fun σ2 H2=>∃H02 E2,EnvR K C B H02 H2 σ2 E2/\SStep B H0 H02 H2/\U7 ec et m E2=some o,fun σ2 H2 h=>⟨m,GO _,h⟩,?_⟩;have st1:=st.trans (s1.ss I'.b);refine ht B H1 H1' σ' E' o1 _ (I'.step s1) b2 ?_
   cases o1 with
   | nx E2|ct E2=>exact fun σ3 H3 H3' s3 I3=>⟨H3,E2,I3,st1.trans s3,er⟩
   | bk E2=>cases er;exact f'
   | rt r=>cases er;exact f'
end

noncomputable def Jmi:Out->Option Sl
 | .nx _=>some (.sh .non)
 | .rt r=>some r
 | .bk _=>none
 | .ct _=>none
noncomputable def JZ(N:Nat)(b:Es):List Sl->Option Sl:=fun as=>(b (as++QQ (N-as.length) .no)).bind Jmi
section
variable{K:Qo}{C:Qd}
theorem RRL.get{Hs H0 H:Hp}{vs:List V}{ss:List Sl}{i:Nat}{s:Sl}(h:RRL K C Hs H0 H vs ss)(e:ss[i]?=some s):∃v,vs[i]?=some v/\RR K C Hs H0 H v s:=by
 induction h generalizing i with
 | nil=>simp at e
 | cons r _ ih =>
  cases i with
  | zero=>simp_all
  | succ i=>exact ih (i:=i) (by simpa using e)
theorem Jeu{N:List Str}{n:Nat}{b:Es}{ts:TS}{vs:List V}{H:Hp}{Q:VK}{E:XK}(hb:SS K C ts b)(h:spE K C n (JZ N.length b) vs H Q E):ts { nx:=fun _ H'=>Q .non H',rt:=Q } (L2.YW N vs) H:=by
 obtain⟨tb,H0,as,r,i,ra,ho,hl,e,q⟩:=h;have lens:=ra.len
 have noOwn:∀(j:Nat) (s:Sl),as[j]?=some s->JR s=false:=fun j s e=>by
  have:=Kj.mp ho s (QG e)
  simpa using this
 have get:∀(j:Nat) (s:Sl),(as++QQ (N.length-as.length) Sl.no)[j]?=some s->s=.no\/as[j]?=some s:=fun j s e=>by grind
 have I:EnvR K C H H0 H (L2.YW N vs) (as++QQ (N.length-as.length) .no):=by
  refine⟨Same.refl _,i,by simp[L2.YW,lens],fun j s e=>?_,fun j k s1 s2 v hjk e1 e2 w1 w2=>?_,tb⟩
  ·rcases get j s e with z|z
   ·exact .inl z
   ·obtain⟨v,h1,h2⟩:=ra.get z;refine .inr ⟨v,?_,?_⟩
    ·unfold L2.YW;rw[QA (by have:=(Qi.mp h1).1;simpa using this),Qy,h1];rfl
    ·cases s with
     | no=>trivial
     | sh d=>exact h2
     | bo ds=>exact h2
     | own ds=>solve_by_elim
     | bd ks ds|bt ks ds|bw ks ds=>exact h2
     | od ks ds|ot ks ds|dw ks ds=>solve_by_elim
  ·rcases get j _ e1 with z|z
   ·subst z;cases w1
   ·rw[noOwn j _ z] at w1;cases w1
 obtain⟨o,e1,e⟩:=bind_some e;refine hb H H0 H _ _ o _ I e1 ?_
 cases o with
 | nx E1=>cases e;exact fun σ' H1 H1' s1 I1=>q _ H1 H1' ⟨s1.b,s1.z,s1.n,s1.i⟩ RD.non
 | rt r'=>cases e;exact fun v H1 H1' s1 r1=>q v H1 H1' ⟨s1.b,s1.z,s1.n,s1.i⟩ r1
 | _=>cases e
theorem JjR{P:Qm}{w:Qp}{mg:Str->Option Qc}{base:QC}{k:Nat}{f:Qd}{fd:Qt}{ps:List Str}{ev:List Sl->Option Sl}(F:FnOk P w K mg base CX0 k f fd ps (spE K C 1 ev))(ht:Jbb K=none)
 (h:∀ns:List Int,ns.length<=63->ev [.sh (.fz (ns.map .int))]=some (.sh (.bl true))):FnOk P w K mg base CX0 k f fd ps (Je1 K) :=
 F.imp fun vs H Q E ⟨a,ns,e,hS,hl,q⟩=>by subst e;exact⟨.no ht,H,[.sh (.fz (ns.map .int))],_,Same.refl _,.cons (show RD K C H _ _ from RD.mkF hS (RDL.ofInts ns)) .nil,rfl,rfl,h ns hl,fun v H0' H' _ r=>by rw[RD.blI r];exact q H'⟩
structure RowK (K:Qo) (C:Qd):Prop where
 t:RowC K C
 k1:findIn K (.ref C) "__class__"=some (some (.builtin "object.__class__"))
 k2:specialIn K (.builtin "object.__class__") "__get__"=some (some (.builtin "getset_descriptor.__get__"))
 k3:takesIn K (.builtin "object.__class__")=some true
 k4:mroIn K C (.type "object")=some true
end
end LE

namespace L2
open PySem PySem.Spec PyProof.Rows
noncomputable def Jl5(lo c:Int)(n:Nat):It:=⟨fun i _=>i<n,fun i H x H'=>H'=H/\x=.int (lo+i*c),fun i _=>n<=i⟩
theorem Jdf{P:Qm}{w:Qp}{K:Qo}{tg:QV}(it:Qd)(lo c:Int)(n:Nat):Turn P w K tg (Jl5 lo c n) [it] it (fun i h=>IsRangeIter h it (lo+(i:Nat)*c) ((n:Int)-(i:Nat)) c) where
 mem:=by simp
 obj:=fun i h st b hb=>by simp_all
 keep:=fun i h h' st k=>k it (by simp) _ st
 item:=by
  intro X hP hw hK hc i pins s σ H E I hf st hg;subst hP hw hK;have fo:=hf it (by simp);refine(Walks.range (prog:=X.prog) (w:=X.w) (I.ok.hd hc) it lo c n).item i s _ _ hg st fun v h' tk hv st' kk=>?_
  obtain⟨t,rfl⟩:=hv;refine⟨_,rfl,ZH (s:={ s with heap:=h',toks:=tk }) (n:="range_iterator") st' rfl rfl (by decide) ⟨.int (lo+i*c),H,?_,⟨t,rfl⟩,⟨rfl,rfl⟩,st',fun b hb=>(hf b hb).1⟩⟩;exact I.turned (fun b o hb e=>kk b o (by simpa using hb) e) fo.1 fo.2.1 fo.2.2.2.1 fo.2.2.2.2.1 fo.2.2.2.2.2
 done:=by intro X hP hw hK hc i pins s σ H E I hf st hg;subst hP hw hK;have fo:=hf it (by simp);have le:n<=i:=hg;exact wpAny_pyNext_range_end (I.ok.hd hc) st (by lia) fun h' eb=>⟨rfl,I.turned (t':=s.toks) (fun b o hb e=>eb b o hb e) fo.1 fo.2.1 fo.2.2.2.1 fo.2.2.2.2.1 fo.2.2.2.2.2⟩
 self:=fun _ _ _ _ _ st h=>wpAny_pyIter_rangeiter st h
noncomputable def Jme(a b c:Int):Nat:=if a<b then((b-a-1) / c+1).toNat else 0
theorem Jd8{a b c:Int}(hc:0<c)(hc':c<1073741824)(ha:-(2 ^ 60)<=a)(ha':a<2 ^ 60)(hb:-(2 ^ 60)<=b)(hb':b<2 ^ 60):Kf a b c=true:=by
 have sz:QZ a b c<=2 ^ 61/\0<=QZ a b c:=by
  unfold QZ;rw[if_pos hc];split
  ·have h1:0<=(b-a-1) / c:=Int.ediv_nonneg (by lia) (by exact Lo ‹_›)
   have h2:(b-a-1) / c<=b-a-1:=Int.ediv_le_self _ (by lia)
   grind
  ·decide
 grind[Kf,KZ]
theorem Jd7{a b:Int}(ha:-(2 ^ 60)<=a)(ha':a<2 ^ 60)(hb:-(2 ^ 60)<=b)(hb':b<2 ^ 60):Kf a b (-1)=true/\QZ a b (-1)=((a-b).toNat:Int):=by
 have sz:QZ a b (-1)=((a-b).toNat:Int):=by
  unfold QZ
  lia
 refine⟨?_,sz⟩;unfold Kf;simp only[KZ,QU,MX,decide_eq_true_eq,beq_iff_eq,sz,show ¬((-1:Int)>0) by decide,if_false]
 lia
noncomputable def Rg3(i j c:Int)(n:Nat):Prop:=(0<c/\c<1073741824/\n=Jme i j c)\/(c=-1/\n=(i-j).toNat)
noncomputable def JlK(ta:TA):TI:=fun σ H R=>ta σ H fun vs H1=>∃(i j c:Int) (n:Nat),vs=[.int i,.int j,.int c]/\(Rg3 i j c n/\-(2 ^ 60)<=i/\i<2 ^ 60/\-(2 ^ 60)<=j/\j<2 ^ 60)/\R (Jl5 i c n) H1
theorem Jf9{X:Cx}{tg:QV}{a b c:QV}{ta:TA}{p pos:Pos}(hg:Gl X "range")(hm:X.mg "range"=none)(ha:PA X [a,b,c] ta)(hs:starEach [a,b,c] X.env=[(false,eval a X.env),(false,eval b X.env),(false,eval c X.env)]:=by rfl)
 (hs2:starEach [b,c] X.env=[(false,eval b X.env),(false,eval c X.env)]:=by rfl):PI X tg (.Call (.Name "range" p) [a,b,c] [] pos) (JlK ta):=by
 intro pins s σ H R I h;refine Call_ (YY I hg hm boot_range (Q8 (thA (ha pos pins s σ H _ I h) fun us s1 vs H1 I1 r1 q1=>?_) (by rw[hs,hs2]) (by rw[hs2];rfl)));obtain⟨lo,hi,st,n,e,⟨c1,c3,c4,c5,c6⟩,q⟩:=q1;subst e
 cases r1 with
 | cons r rr =>
 cases rr with
 | cons r' rr =>
 cases rr with
 | cons r'' rr =>
 cases rr;obtain⟨t,rfl⟩:=r;obtain⟨t',rfl⟩:=r';obtain⟨t'',rfl⟩:=r'';have c0:st≠0:=by rcases c1 with ⟨c1,_,_⟩|⟨c1,_⟩ <;> omega
 have cs:Kf lo hi st=true/\QZ lo hi st=(n:Int):=by
  rcases c1 with ⟨c1,c2,rfl⟩|⟨rfl,rfl⟩
  ·refine⟨Jd8 c1 c2 c3 c4 c5 c6,?_⟩;unfold Jme QZ;rw[if_pos c1];split
   ·have h1:0<=(hi-lo-1) / st:=Int.ediv_nonneg (by omega) (by omega);omega
   ·rfl
  ·exact Jd7 c3 c4 c5 c6
 refine call_range_3 (by omega) ?_ (.inl (MP (by rcases c1 with ⟨c1,c2,_⟩ | ⟨c1,_⟩ <;> omega)));refine wpAny_pyIter_range (IsRange.new ..) cs.1 ?_;have I2:Inv X pins σ H1 { s1 with heap:=s1.heap.push { cls:=.type "range",data:=.fields #[.int lo t,.int hi t',.int st t''] },toks:=s1.toks }:=I1.kept fun b o e=>Qg _ e
 refine⟨_,[_],_,_,H1,rfl,I2.kept (t':=s1.toks) fun b o e=>Qg _ e,Jdf _ lo st n,?_,fun b hb=>?_,q⟩
 ·have e1:lo+((0:Nat):Int)*st=lo:=by simp
  have e2:((n:Nat):Int)-((0:Nat):Int)=QZ lo hi st:=by rw[cs.2];simp
  show IsRangeIter _ _ (lo+((0:Nat):Int)*st) (((n:Nat):Int)-((0:Nat):Int)) st;rw[e1,e2];exact Qh _ rfl
 ·have e:b=_:=Gi.mp hb;subst e;exact I2.fpOk (Qn _) (I2.hok.fresh (Qn _))
end L2
namespace LE
open PySem L2 LR
noncomputable def Jij(lo c:Int)(n:Nat):List D:=(GS n).map fun(i:Nat)=>.int (lo+(i:Int)*c)
noncomputable def JdF(a:Int):Bool:=Rs a.natAbs 1152921504606846975
theorem in60_ok{a:Int}:JdF a=true↔-1152921504606846976<a/\a<1152921504606846976:=by unfold JdF;rw[G8];omega
noncomputable def on3{α:Type}(f:Sl->Sl->Sl->Option α):List Sl->Option α
 | [s,t,u]=>f s t u
 | _=>none
noncomputable def Jnq{α:Type}(f:Int->Int->Int->Option α):List Sl->Option α:=on3 fun s t u=>(int? s).bind fun a=>(int? t).bind fun b=>(int? u).bind (f a b)
theorem Jnp{α:Type}{f:Sl->Sl->Sl->Option α}{s t u:Sl}:on3 f [s,t,u]=f s t u:=rfl
theorem Jj8{α:Type}{f:Int->Int->Int->Option α}{i j k:Int}:Jnq f [.sh (.int i),.sh (.int j),.sh (.int k)]=f i j k:=rfl
theorem JhF{α:Type}{as:List Sl}{c:α}{f:Sl->Sl->Sl->Option α}(e:on3 f as=some c):∃s t u,as=[s,t,u]/\f s t u=some c:=by
 rcases as with _|⟨s,_|⟨t,_|⟨u,_|⟨v,w⟩⟩⟩⟩
 ·cases e
 ·cases e
 ·cases e
 ·exact⟨s,t,u,rfl,e⟩
 ·cases e
theorem Jf6{α:Type}{as:List Sl}{c:α}{f:Int->Int->Int->Option α}(e:Jnq f as=some c):∃i j k,as=[.sh (.int i),.sh (.int j),.sh (.int k)]/\f i j k=some c:=by obtain⟨s,t,u,rfl,e⟩:=JhF e;obtain⟨i,e1,e⟩:=bind_some e;obtain⟨j,e2,e⟩:=bind_some e;obtain⟨k,e3,e⟩:=bind_some e;exact⟨i,j,k,by rw[JA e1,JA e2,JA e3],e⟩
noncomputable def iR3(as:En->Option (List Sl)):En->Option (List D):=fun E=>(as E).bind (Jnq fun a b c=>if (JdF a && JdF b && Jap c)=true then some (Jij a c (Jme a b c)) else if (JdF a && JdF b && decide (c=-1))=true then some (Jij a c (a-b).toNat) else none)
section
variable{K:Qo}{C:Qd}{m:Bool}
theorem RRL.three{Hs H0 H:Hp}{vs:List V}{s t u:Sl}(r:RRL K C Hs H0 H vs [s,t,u]):∃v w x,vs=[v,w,x]/\RR K C Hs H0 H v s/\RR K C Hs H0 H w t/\RR K C Hs H0 H x u:=by
 cases r with
 | cons h r=>cases r with
  | cons h' r=>cases r with
   | cons h'' r=>cases r;exact⟨_,_,_,rfl,h,h',h''⟩
theorem JeA{A H0:Hp}{lo c:Int}{n:Nat}:JgA K C A (Jl5 lo c n) (Jij lo c n) H0:=by intro H0' H' st;refine⟨fun i d e=>?_,by show n<=_;simp[Jij]⟩;unfold Jij at e;rw[Qy] at e;obtain⟨j,e1,e2⟩:=map_some e;obtain⟨h1,h2⟩:=Qi.mp e1;simp at h1 h2;subst h2 e2;refine⟨h1,fun x H2 zz=>?_⟩;obtain⟨e1,e2⟩:=zz;subst e1 e2;exact⟨H0',.refl st.i,.int _⟩
theorem Jqr{t:TA}{ev:En->Option (List Sl)}(ha:SA K C t ev):SI K C m (JlK t) (iR3 ev):=by
 intro B H0 H σ E ds R I e q;obtain⟨ss,e1,e⟩:=bind_some e
 replace e:=Jf6 e;obtain⟨i',j',k',rfl,e⟩:=e;split at e
 ·next hn =>
  cases e;simp only[QU,smallP_ok,in60_ok] at hn;refine ha B H0 H σ E _ _ I e1 fun vs H1 H1' s1 r1=>?_
  obtain⟨v,w,x,rfl,r,r',r''⟩:=r1.three;rw[RD.intI r,RD.intI r',RD.intI r''];exact⟨_,_,_,_,rfl,⟨.inl ⟨hn.2.1,hn.2.2,rfl⟩,by omega⟩,q _ _ _ s1 JeA⟩
 ·split at e
  ·next hn =>
   cases e;simp only[QU,in60_ok,decide_eq_true_eq] at hn;refine ha B H0 H σ E _ _ I e1 fun vs H1 H1' s1 r1=>?_
   obtain⟨v,w,x,rfl,r,r',r''⟩:=r1.three;rw[RD.intI r,RD.intI r',RD.intI r''];exact⟨_,_,_,_,rfl,⟨.inr ⟨hn.2,rfl⟩,by omega⟩,q _ _ _ s1 JeA⟩
  ·cases e
end
end LE

namespace LE
open PySem L2 LR
noncomputable def okS(P:En->Prop):Option Out->Prop
 | some (.nx E)=>P E
 | some (.ct E)=>P E
 | _=>False
theorem Jnl{P:En->Prop}{E:En}:okS P (some (.nx E))=P E:=rfl
theorem Jnk{P:En->Prop}{E:En}:okS P (some (.ct E))=P E:=rfl
theorem Jk8:Qk=16777216:=rfl
theorem Ji1{α β:Type}(f:α->β)(xs:List α)(i:Int):atI (xs.map f) i=(atI xs i).map f:=by
 unfold atI;rw[QB]
 cases ixN xs.length i with
 | none=>rfl
 | some j=>simp
theorem JgI{α:Type}{xs:List α}{k:Nat}(h:k<xs.length):atI xs (k:Int)=some xs[k]:=by
 unfold atI ixN
 simp_all
theorem JgH{ns:List Int}{k:Int}(h0:0<=k)(h:k<(ns.length:Int)):atI ns k=some (cell ns k):=by
 obtain⟨j,rfl⟩:=Int.eq_ofNat_of_zero_le h0;have hj:j<ns.length:=by simp_all
 rw[JgI hj];simp[cell,hj]
structure Kd {α:Type} (f:α->D) (n:Nat):Prop where
 lay:∀a,(f a).py.canLay0=true
 dep:∀a,(f a).py.depth<=n
 eqv:∀a b,LG (f a).py (f b).py=true↔a=b
theorem Kd.eq{α:Type}[DecidableEq α]{f:α->D}{n:Nat}(k:Kd f n)(h:n<=60)(a b:α):eqD (f a) (f b)=some (decide (a=b)):=by unfold eqD;have:=k.dep a;rw[k.lay a,k.lay b,if_pos (by simp;grind)];congr 1;rw[KN,k.eqv];simp
theorem JmZ:Kd D.int 1:=⟨fun _=>rfl,fun _=>by solve_by_elim,fun a b=>by show(a == b)=true↔_;simp⟩
theorem WR{α:Type}{f:α->D}{n:Nat}(k:Kd f n):(∀xs:List α,KY (D.pyL (xs.map f))=true)/\(∀xs:List α,MY (D.pyL (xs.map f))<=n)/\∀xs ys:List α,LJ (D.pyL (xs.map f)) (D.pyL (ys.map f))=true↔xs=ys:=by
 refine⟨fun xs=>?_,fun xs=>?_,fun xs=>?_⟩
 ·induction xs with
  | nil=>rfl
  | cons x xs ih=>show(PyData.canLay0 _ && KY _)=true;rw[k.lay,ih];rfl
 ·induction xs with
  | nil=>simp[D.pyL,MY]
  | cons x xs ih =>
   have:=k.dep x
   grind[D.pyL,MY]
 ·induction xs with
  | nil=>intro ys;cases ys with
   | nil=>solve_by_elim
   | cons y ys=>simp[D.pyL,LJ]
  | cons x xs ih=>intro ys;cases ys with
   | nil=>simp[D.pyL,LJ]
   | cons y ys=>simp only[Gx,D.pyL,LJ,QU,k.eqv,ih,RA]
theorem Jhp{α:Type}{f:α->D}{n:Nat}(k:Kd f n):Kd (fun xs:List α=>D.lst (xs.map f)) (n+1) :=
 ⟨fun xs=>(WR k).1 xs,fun xs=>by have:=(WR k).2.1 xs;simp only[D.py,PyData.depth];simp[*],fun xs ys=>by simp only[D.py,LG];exact(WR k).2.2 xs ys⟩
theorem Jm0{α:Type}{f:α->D}{n:Nat}(k:Kd f n):Kd (fun xs:List α=>D.tup (xs.map f)) (n+1) :=
 ⟨fun xs=>(WR k).1 xs,fun xs=>by have:=(WR k).2.1 xs;simp only[D.py,PyData.depth];omega,fun xs ys=>by simp only[D.py,LG];exact(WR k).2.2 xs ys⟩
theorem kd_pr:Kd prE 2:=⟨fun _=>rfl,fun _=>by solve_by_elim,fun a b=>by obtain⟨a1,a2⟩:=a;obtain⟨b1,b2⟩:=b;simp[prE,D.py,D.pyL,LG,LJ]⟩
theorem Jmr(a b:Pr):eqD (prE a) (prE b)=some (decide (a=b)):=kd_pr.eq (by decide) a b
theorem Jje(a b:List Pr):eqD (.lst (a.map prE)) (.lst (b.map prE))=some (decide (a=b)):=(Jhp kd_pr).eq (by decide) a b
theorem Jjf(a b:List Pr):eqD (.tup (a.map prE)) (.tup (b.map prE))=some (decide (a=b)):=(Jm0 kd_pr).eq (by decide) a b
theorem Jg3(a b:List Int):eqD (.lst (a.map .int)) (.lst (b.map .int))=some (decide (a=b)):=(Jhp JmZ).eq (by decide) a b
section
variable{a b:Int}{xs ys:List D}{d:D}{x y:Str}{E:En}{B:Es}{r:Sl}
theorem Jk2:Jis B (.nx E)=B E:=rfl
theorem Jk3:Jis B (.rt r)=some (.rt r):=rfl
theorem Jk0:Jis B (.bk E)=some (.bk E):=rfl
theorem Jk1:Jis B (.ct E)=some (.ct E):=rfl
theorem Jjb:Jmi (.nx E)=some (.sh .non):=rfl
theorem Jjc:Jmi (.rt r)=some r:=rfl
theorem Jpn{g:Int->Int->D}:fI g (.sh (.int a)) (.sh (.int b))=some (.sh (g a b)):=rfl
theorem Jjz(h:(-18446744073709551616<a/\a<18446744073709551616)\/(-18446744073709551616<b/\b<18446744073709551616)):Zb (.sh (.int a)) (.sh (.int b))=some (.sh (.int (a*b))):=by show(if _ then _ else _)=_;rw[if_pos];simp only[MX,V8];exact h
theorem Jjy(h:0<b):Jjx (.sh (.int a)) (.sh (.int b))=some (.sh (.int (a % b))):=by
 show(if _ then _ else _)=_
 simp_all
theorem Jju(h:0<b/\b<1073741824):Jck (.sh (.int a)) (.sh (.int b))=some (.sh (.int (a / b))):=by show(if _ then _ else _)=_;rw[if_pos (smallP_ok.mpr h)]
theorem JjA:WO (.sh (.int a))=some (.sh (.int (-a))):=rfl
theorem Jjl:JO (.sh (.int a)) (.sh (.int b))=some (.sh (.int (a+b))):=rfl
theorem Jjs(h:x.length+y.length<=16777216):JO (.sh (.str x)) (.sh (.str y))=some (.sh (.str (x++y))):=if_pos h
theorem UU{p q:Sl}(h1:p.m=some xs)(h2:q.m=some ys)(h:xs.length+ys.length<=16777216):Jjt p q=some (.own (xs++ys)):=by unfold Jjt;rw[h1,h2];exact if_pos h
theorem Jjp(h:xs.length+ys.length<=16777216):JO (.own xs) (.own ys)=some (.own (xs++ys)):=UU rfl rfl h
theorem Jjo(h:xs.length+ys.length<=16777216):JO (.own xs) (.bo ys)=some (.own (xs++ys)):=UU rfl rfl h
theorem Jjj(h:xs.length+ys.length<=16777216):JO (.bo xs) (.own ys)=some (.own (xs++ys)):=UU rfl rfl h
theorem Jji(h:xs.length+ys.length<=16777216):JO (.bo xs) (.bo ys)=some (.own (xs++ys)):=UU rfl rfl h
theorem Jjq(h:xs.length+ys.length<=16777216):JO (.own xs) (.sh (.lst ys))=some (.own (xs++ys)):=UU rfl rfl h
theorem Jjr(h:xs.length+ys.length<=16777216):JO (.sh (.lst xs)) (.own ys)=some (.own (xs++ys)):=UU rfl rfl h
theorem Jjm(h:xs.length+ys.length<=16777216):JO (.sh (.lst xs)) (.bo ys)=some (.own (xs++ys)):=UU rfl rfl h
theorem Jjk(h:xs.length+ys.length<=16777216):JO (.bo xs) (.sh (.lst ys))=some (.own (xs++ys)):=UU rfl rfl h
theorem Jjn(h:xs.length+ys.length<=16777216):JO (.sh (.lst xs)) (.sh (.lst ys))=some (.own (xs++ys)):=UU rfl rfl h
theorem JmA(h:x.length<=16777216):Ug [.sh (.str x)]=some (.sh (.int x.length)):=if_pos h
theorem Jmy:Ug [.sh (.lst xs)]=some (.sh (.int xs.length)):=rfl
theorem Jmx:Ug [.sh (.fz xs)]=some (.sh (.int xs.length)):=rfl
theorem JmB:Ug [.sh (.tup xs)]=some (.sh (.int xs.length)):=rfl
theorem Jmw:Ug [.bo xs]=some (.sh (.int xs.length)):=rfl
theorem Jmz:Ug [.own xs]=some (.sh (.int xs.length)):=rfl
theorem Jpq:fIx (.sh (.lst xs)) (.sh (.int a))=(atI xs a).map .sh:=rfl
theorem Jpp:fIx (.sh (.fz xs)) (.sh (.int a))=(atI xs a).map .sh:=rfl
theorem Jps:fIx (.sh (.tup xs)) (.sh (.int a))=(atI xs a).map .sh:=rfl
theorem Jpo:fIx (.bo xs) (.sh (.int a))=(atI xs a).map .sh:=rfl
theorem Jpr:fIx (.own xs) (.sh (.int a))=(atI xs a).map .sh:=rfl
theorem Jmo:eqA (.int a) (.int b)=some (decide (a=b)):=rfl
theorem Jmq:eqA (.str x) (.str y)=some (decide (x=y)):=rfl
theorem Jmn{p q:Bool}:eqA (.bl p) (.bl q)=some (decide (p=q)):=rfl
theorem Jmp(p q:Pr):eqA (prE p) (prE q)=some (decide (p=q)):=Jmr p q
theorem Jml(p q:List Pr):eqA (.lst (p.map prE)) (.lst (q.map prE))=some (decide (p=q)):=Jje p q
theorem Jmm(p q:List Pr):eqA (.tup (p.map prE)) (.tup (q.map prE))=some (decide (p=q)):=Jjf p q
theorem Jmk(p q:List Int):eqA (.lst (p.map .int)) (.lst (q.map .int))=some (decide (p=q)):=Jg3 p q
theorem JmR(h:-4611686018427387904<a/\a<4611686018427387904):JfF a=true:=by unfold JfF;rw[G8];omega
theorem JmQ(h:-1152921504606846976<a/\a<1152921504606846976):JdF a=true:=in60_ok.mpr h
theorem Jiy(h:0<a/\a<1073741824):Jap a=true:=smallP_ok.mpr h
theorem Jo7{i:Nat}:(Pt.nm i).bind d E=if i<E.length then some (E.set i (.sh d)) else none:=by rw[Pt.bind]
theorem Jo8{l:Pts}:(Pt.tp l).bind (.tup xs) E=l.bind xs E:=by rw[Pt.bind]
theorem JiX:Pts.nil.bind [] E=some E:=by rw[Pts.bind]
theorem JgE{q:Pt}{l:Pts}:(Pts.cons q l).bind (d::xs) E=(q.bind d E).bind fun E'=>l.bind xs E':=by rw[Pts.bind]
theorem Jr9:((0:Nat):Int)=0:=rfl
theorem Jsa:((1:Nat):Int)=1:=rfl
theorem Jsb:((2:Nat):Int)=2:=rfl
theorem Jsc:((3:Nat):Int)=3:=rfl
theorem Jsd:((4:Nat):Int)=4:=rfl
theorem JfK:D.isNon .non=true:=rfl
theorem JfI:D.isNon (.int a)=false:=rfl
theorem Jhm{k:Bool}:D.isNon (.bl k)=false:=rfl
theorem JfM:D.isNon (.str x)=false:=rfl
theorem JfN:D.isNon (.tup xs)=false:=rfl
theorem JfJ:D.isNon (.lst xs)=false:=rfl
theorem Jhn:D.isNon (.fz xs)=false:=rfl
theorem JfL:D.isNon (.row xs)=false:=rfl
theorem Jm6:Jcv "int" "int"=true:=by decide
theorem JjP:Jcv "int" "bool"=false:=by decide
theorem Jm5:Jcv "bool" "bool"=true:=by decide
theorem Jm9:Jcv "tuple" "tuple"=true:=by decide
theorem Jm7:Jcv "list" "list"=true:=by decide
theorem Jm8:Jcv "str" "str"=true:=by decide
end
end LE

namespace HT
open PySem PySem.Spec PyProof.Rows
section
variable{prog:Qm}{w:Qp}{A:Qx}{E:Qc->Qe->Prop}{s:Qe}
theorem Wj{t sl:Qd}{items:Array Qc}{vl vu:Qc}{lo hi:Option Int}{Q:Qc->Qe->Prop}(ht:IsTup s.heap t items)(hs:s.heap.IsSliceOf sl vl vu .none)(pl:IsPart vl lo)(pu:IsPart vu hi)
 (hw:sIx items.size 0 lo=0/\sIx items.size items.size hi=items.size) (h:Q (.ref t) s):wpAny (model prog w) A (getItem (.ref t) (.ref sl)) Q E s:=by
 obtain⟨os,hos,hcs,hds⟩:=id hs;have hTs:s.TypeIs (.ref sl) "slice":=⟨os,hos,hcs⟩
 unfold getItem
 try with_reducible refine Gg ?_
 first|refine Qa (Qf ?_)|skip
 refine Qa (wpAny_sequenceKey ht.typeIs (by decide) ?_);refine Qa (QF (name:=Ga "__getitem__") ht.typeIs Q7
  (QH Q7 ht.typeIs entry_tuple_getitem ?_ (args_tuple_getitem _ _)))
 show wpAny _ _ (K2 (.ref t) >>= _) _ _ s;refine Qa (tupleItemsOf_ ht ?_);refine Qa (Lq hTs ?_);rw[if_pos (by decide)];refine Qa (UO hs pl pu ?_)
 have yes:(((sIx items.size 0 lo:Nat):Int) == 0 && (1:Int) == 1 && (sIx items.size items.size hi-sIx items.size 0 lo) == items.size)=true:=by rw[hw.1,hw.2];simp
 show wpAny _ _ (if (((sIx items.size 0 lo:Nat):Int) == 0 && (1:Int) == 1 && (sIx items.size items.size hi-sIx items.size 0 lo) == items.size)=true then _ else _) _ _ s;rw[if_pos yes];unfold Builtin.Tuple.tupleIsExact;refine Qa (Qa (Lq ht.typeIs (Qf ?_)));rw[if_pos (by decide)];refine Qa (Kb ?_);exact Qf ⟨_,rfl,Qf h⟩
end
end HT
namespace L2
open PySem PySem.Spec PyProof.Rows
section
variable{X:Cx}{K:Qo}
noncomputable def Jqb(K:Qo):V->Option Int->Option Int->Hp->VK->Prop:=fun x lo hi H Q=>∃a xs,x=.ref a/\SqT K H a xs/\(HT.sIx xs.length 0 lo=0/\HT.sIx xs.length xs.length hi=xs.length)/\Q (.ref a) H
theorem Jix:SlR X (Jqb X.K):=by
 intro pins s σ H x v vl vu lo hi sl Q I rx hs pl pu h;obtain⟨a,xs,rfl,hx,hw,q⟩:=h;cases rx;obtain⟨its,r,ht,hz⟩:=I.tuple hx;have hlen:its.toArray.size=xs.length:=by rw[QW];exact r.length.symm
 refine⟨"tuple",_,Q7.lookup,ht.typeIs,?_⟩;exact HT.Wj ht hs pl pu (by rw[hlen];exact hw) ⟨.ref a,H,I,rfl,q⟩
noncomputable def Jn2(K:Qo):V->Option Int->Option Int->Hp->VK->Prop:=fun x lo hi H Q=>Jp9 K x lo hi H Q\/Jqa K x lo hi H Q\/Jqb K x lo hi H Q
theorem Jk9(hK:X.K=K):SlR X (Jn2 K):=by subst hK;exact sl_list.or (sl_tup.or Jix)
end
end L2
namespace LE
open PySem L2 LR
noncomputable def Jaw{α:Type}(xs:List α)(lo hi:Option Int):List α:=(xs.drop (HT.sIx xs.length 0 lo)).take (HT.sIx xs.length xs.length hi-HT.sIx xs.length 0 lo)
noncomputable def fSl(s:Sl)(lo hi:Option Int):Option Sl:=match tup? s with
 | some ds=>some (.sh (.tup (Jaw ds lo hi)))
 | none=>s.r.map fun ds=>.own (Jaw ds lo hi)
noncomputable def ZC(o:Option Ev):En->Option (Option Int):=fun E=>match o with
 | none=>some none
 | some a=>(a E).bind fun s=>(int? s).map some
noncomputable def eSl(a:Ev)(lo hi:Option Ev):Ev:=fun E=>(a E).bind fun s=>(ZC lo E).bind fun l=>(ZC hi E).bind fun h=>fSl s l h
section
variable{K:Qo}{C:Qd}{te:TE}{ea:Ev}{tl th:TO}{el eh:Option Ev}
noncomputable def SP'(K:Qo)(C:Qd)(t:TO)(ev:En->Option (Option Int)):Prop:=∀(B H0 H:Hp) (σ:St) (E:En) (r:Option Int) (Q:Option Int->Hp->Prop),EnvR K C B H0 H σ E->ev E=some r ->
 (∀H0' H',Step H H0 H H0' H'->Q r H')->t σ H Q
theorem JnH:SP' K C Je6 (ZC none):=fun _ _ _ _ _ _ _ I e q=>by cases e;exact q _ _ (.refl I.h)
theorem JnI(ha:SE K C te ea):SP' K C (JlZ te) (ZC (some ea)):=by intro B H0 H σ E r Q I e q;obtain⟨s,e1,e⟩:=bind_some e;obtain⟨i,e0,rfl⟩:=map_some e;rw[JA e0] at e1;exact ha B H0 H σ E _ _ I e1 fun x H1 H1' s1 r1=>⟨_,RD.intI r1,q _ _ s1⟩
theorem RDL.cut{H:Hp}{xs:List V}{ds:List D}{lo hi:Option Int}(r:RDL K C H xs ds):RDL K C H (Jax xs lo hi) (Jaw ds lo hi):=by unfold Jax Jaw;rw[r.1];exact(r.drop _).take _
theorem Jss(ha:SE K C te ea)(hl:SP' K C tl (ZC el))(hh:SP' K C th (ZC eh)):SE K C (tSl (Jn2 K) te tl th) (eSl ea el eh):=by
 intro B H0 H σ E c Q I e q;obtain⟨s,e1,e⟩:=bind_some e;obtain⟨l,e2,e⟩:=bind_some e;obtain⟨h,e3,e⟩:=bind_some e;refine ha B H0 H σ E _ _ I e1 fun x H1 H1' s1 r1=>hl B H1 H1' σ E l _ (I.step s1) e2 fun H2 H2' s2=>hh B H2 H2' σ E h _ (I.step (s1.trans s2)) e3 fun H3 H3' s3=>?_
 have s13:=(s1.trans s2).trans s3
 have r3:=(r1.step s2).step s3
 have lst:∀{ds:List D},s.r=some ds->c=.own (Jaw ds l h)->Jn2 K x l h H3' Q:=fun {ds} er ec=>by subst ec;obtain⟨a,xs,rfl,hq,r⟩:=r3.r s13.i er;exact .inl ⟨a,xs,rfl,hq,fun p hp=>YN s13.i s13.h hp r.cut fun v H4 H4' s4 r4=>q v H4 H4' (s13.comp s4 fun _ z=>z) r4⟩
 unfold fSl at e;split at e
 ·next ds' hd =>
  cases e;rw[Vy hd] at r3;obtain⟨a,xs,rfl,hq,r⟩:=RD.tupI r3
  by_cases hw:HT.sIx xs.length 0 l=0/\HT.sIx xs.length xs.length h=xs.length
  ·refine .inr (.inr ⟨a,xs,rfl,s13.i.seqT hq,hw,q _ _ _ s13 ?_⟩);have e5:Jax xs l h=xs:=by unfold Jax;rw[hw.1,hw.2];simp
   have r5:=r.cut (lo:=l) (hi:=h);rw[e5] at r5;exact RD.mkT hq r5
  ·exact .inr (.inl ⟨a,xs,rfl,s13.i.seqT hq,hw,fun p hp=>Zr s13.i s13.h hp r.cut fun v H4 H4' s4 r4=>q v H4 H4' (s13.comp s4 fun _ z=>z) r4⟩)
 ·obtain⟨ds,e4,e5⟩:=map_some e;exact lst e4 e5.symm
end
end LE

namespace PySem
section
variable{prog:Qm}{w:Qp}{A:Qx}
theorem Draws.tup(hh:A.handled=none)(j a:Qd)(ne:a≠j)(xs:Array Qc):Draws prog w A j [j,a] xs.size (fun i v=>xs[i]?=some v) (fun i h=>h.IsTupleIter j a i/\h.IsTuple a xs) where
 live:=fun _ _ q=>let ⟨o,ho,_⟩:=q.1;⟨o,ho⟩
 frame:=fun _ _ _ q k=>⟨q.1.at fun o e=>k j (by simp) o e,q.2.at fun o e=>k a (by simp) o e⟩
 item:=fun i s Q E hi q hQ=>by
  obtain⟨o,ho,hc,hd⟩:=id q.1;obtain⟨ol,hol,_,nl,hdl⟩:=id q.2;have hx:xs[i]?=some xs[i]:=by simp[hi]
  unfold QY;refine Qa (QF (name:=Ga "__next__") q.1.typeIs Kn (QH Kn q.1.typeIs L4 ?_ (LQ _)));show wpAny _ _ (field (.ref j) 0 >>= _) _ _ s;refine Qa (QM ho hd (x:=.ref a) rfl ?_);show wpAny _ _ (if (Value.ref a == Value.none)=true then _ else _) _ _ s;rw[if_neg (show ¬((Value.ref a == Value.none)=true) from Qz)]
  show wpAny _ _ (field (.ref j) 1 >>= _) _ _ s;refine Qa (QM ho hd (x:=.int i 0) rfl (show wpAny _ _ (seqItems? (.ref a) >>= _) _ _ s from Qa (Gf hol hdl ?_)));simp only[GH,hx];refine Qa (GC ho hd (by simp) (Qf ⟨xs[i],rfl,Qf (hQ _ _ s.toks hx ⟨⟨_,QP _ ho (GG (Q3 hd _)),(K0 ..).trans hc,?_⟩,q.2.extBut (Q9 ..).extBut ne⟩ (Q9 ..))⟩))
  rw[Q3 hd];simp[rawInt]
 done:=fun s Q E q hE=>by
  obtain⟨o,ho,hc,hd⟩:=id q.1;obtain⟨ol,hol,_,nl,hdl⟩:=id q.2;have hx:xs[xs.size]?=none:=by simp
  unfold QY;refine Qa (QF (name:=Ga "__next__") q.1.typeIs Kn (QH Kn q.1.typeIs L4 ?_ (LQ _)));show wpAny _ _ (field (.ref j) 0 >>= _) _ _ s;refine Qa (QM ho hd (x:=.ref a) rfl ?_);show wpAny _ _ (if (Value.ref a == Value.none)=true then _ else _) _ _ s;rw[if_neg (show ¬((Value.ref a == Value.none)=true) from Qz)]
  show wpAny _ _ (field (.ref j) 1 >>= _) _ _ s;refine Qa (QM ho hd (x:=.int xs.size 0) rfl (show wpAny _ _ (seqItems? (.ref a) >>= _) _ _ s from Qa (Gf hol hdl ?_)));simp only[GH,hx];refine Qa (Kb (Qa (GC ho hd (by simp) (show wpAny _ _ (newExc (.type "StopIteration") [] >>= _) _ _ _ from Qa ?_))));simp only[newExc,newTuple];refine Qa (QO (Qa (m:=firstArgMember _ _) (Kc (a:=Value.none) (by rfl) (QO ?_ (by size_fits)))) (by size_fits))
  simp only[raiseNew];refine Qa (Ms ?_)
  first|rw[show A.in1.handled=none from hh]|rw[hh]
  refine Qa (Qf (Rb ?_));exact hE _ _ (((Q9 ..).extBut.push _).push _) ⟨_,Qh _ rfl,rfl⟩
end

structure ZA (z TI TO i1 i2:Qd) (p1 p2:List Qd):Prop where
 a1:TI≠z
 a2:TO≠z
 a3:TI≠TO
 m1:i1∈p1
 m2:i2∈p2
 z1:z∉p1
 z2:z∉p2
 t1:TI∉p1
 t2:TI∉p2
 o1:TO∉p1
 o2:TO∉p2
 x1:i1∉p2
 x2:i2∉p1
section
variable{prog:Qm}{w:Qp}{A:Qx}{E:Qc->Qe->Prop}{s:Qe}{z TI TO i1 i2:Qd}{p1 p2:List Qd}{n1 n2 k:Nat}{P1 P2:Nat->Qc->Prop}{S1 S2:Nat->QC->Prop}
theorem Jbe{a b:Qc}{Q:Qc->Qe->Prop}(D:ZA z TI TO i1 i2 p1 p2)(D1:Draws prog w A i1 p1 n1 P1 S1)(D2:Draws prog w A i2 p2 n2 P2 S2)(gz:IsZip s.heap z TI TO .none)(gI:IsPair s.heap TI (.ref i1) (.ref i2))(gO:IsPair s.heap TO a b)
 (st1:S1 k s.heap) (st2:S2 k s.heap) (l1:k<n1) (l2:k<n2)
 (hQ:∀x y h' tk,P1 k x->P2 k y->IsZip h' z TI TO (rawInt s.heap.objs.size)->IsPair h' TI (.ref i1) (.ref i2)->IsPair h' TO x y->S1 (k+1) h'->S2 (k+1) h'->IsPair h' s.heap.objs.size x y->h'.objs.size=s.heap.objs.size+1 ->
  (∀c o,c≠z->c≠TO->c≠i1->c≠i2->s.heap.get? c=some o->h'.get? c=some o)->Q (.ref s.heap.objs.size) { s with heap:=h',toks:=tk }) :
 wpAny (model prog w) A (Builtin.«zip.__next__» ⟨[.ref z],[]⟩) (fun fin s'=>∃v,fin=.done (.ret v)/\Q v s') E s:=by
 obtain⟨hp,g,d,t0,os⟩:=s;have zi1:i1≠z:=fun q=>D.z1 (q▸D.m1)
 have zi2:i2≠z:=fun q=>D.z2 (q▸D.m2)
 have oi1:i1≠TO:=fun q=>D.o1 (q▸D.m1)
 have oi2:i2≠TO:=fun q=>D.o2 (q▸D.m2)
 have ii1:i1≠TI:=fun q=>D.t1 (q▸D.m1)
 have ii2:i2≠TI:=fun q=>D.t2 (q▸D.m2)
 have i12:i1≠i2:=fun q=>D.x1 (q▸D.m2)
 show wpAny _ _ (field (.ref z) 2 >>= _) _ _ _;refine Qa (QM gz rfl (x:=.bool false) rfl (show wpAny _ _ (field (.ref z) 3 >>= _) _ _ _ from Qa (QM gz rfl (x:=.ref TI) rfl (Qa (Gf gI rfl ?_)))))
 show wpAny _ _ (QK (.ref z) >>= _) _ _ _;refine Qa ?_;unfold QK;refine Qa (QM gz rfl (x:=.none) rfl (Qf ?_));simp only[if_true];refine Qa (Kb (Qa (QM gz rfl (x:=.ref TO) rfl (Qa (Q4 gz (by simp) fun k1 y1 e1=>?_)))))
 replace y1:IsZip k1 z TI TO .ellipsis:=y1
 replace e1:Qu z hp k1:=e1;refine Qa ?_;simp only[List.zipIdx_cons,List.zipIdx_nil,LS,Mb];refine Qa (Qa (Mt (show wpAny _ _ (QY (.ref i1) >>= _) _ _ _ from Qa (D1.item k _ _ _ l1 (D1.frame _ _ _ st1 fun b hb o q=>e1.extBut b o (fun r=>D.z1 (r▸hb)) q) fun x k2 t2 px s2 e2=>Qf ?_))))
 replace e2:Qu i1 k1 k2:=e2;have O2:IsPair k2 TO a b:=e2.extBut _ _ (QL oi1) (e1.extBut _ _ D.a2 gO);refine Qa (Gf (s:=⟨k2,g,d,t2,os⟩) O2 rfl (Qa (LN (s:=⟨k2,g,d,t2,os⟩) O2 fun k3 O3 e3=>?_)))
 replace O3:IsPair k3 TO x b:=O3
 replace e3:Qu TO k2 k3:=e3;refine Qa (KG (Qf ?_));have st2':S2 k k3:=D2.frame _ _ _ st2 fun b hb o q=>e3.extBut b o (fun r=>D.o2 (r▸hb)) (e2.extBut b o (fun r=>D.x1 (r▸hb)) (e1.extBut b o (fun r=>D.z2 (r▸hb)) q))
 refine Qa (Qa (Mt (show wpAny _ _ (QY (.ref i2) >>= _) _ _ _ from Qa (D2.item k _ _ _ l2 st2' fun y k4 t4 py s4 e4=>Qf ?_))))
 replace e4:Qu i2 k3 k4:=e4;have O4:IsPair k4 TO x b:=e4.extBut _ _ (QL oi2) O3;refine Qa (Gf (s:=⟨k4,g,d,t4,os⟩) O4 rfl (Qa (LN (s:=⟨k4,g,d,t4,os⟩) O4 fun k5 O5 e5=>?_)))
 replace O5:IsPair k5 TO x y:=O5
 replace e5:Qu TO k4 k5:=e5;refine Qa (KG (Qf (Qf (Qa (Gf (s:=⟨k5,g,d,t4,os⟩) O5 rfl (Qa (Mc ?_)))))));have hsz:k5.objs.size=hp.objs.size:=by rw[e5.1,e4.1,e3.1,e2.1,e1.1]
 have Z5:IsZip k5 z TI TO .ellipsis:=e5.extBut _ _ (QL D.a2) (e4.extBut _ _ (QL zi2) (e3.extBut _ _ (QL D.a2) (e2.extBut _ _ (QL zi1) y1)))
 have keep5:∀c o,c≠z->c≠TO->c≠i1->c≠i2->hp.get? c=some o->k5.get? c=some o:=fun c o c1 c2 c3 c4 q=>e5.extBut _ _ c2 (e4.extBut _ _ c4 (e3.extBut _ _ c2 (e2.extBut _ _ c3 (e1.extBut _ _ c1 q))))
 have T1:S1 (k+1) k5:=D1.frame _ _ _ s2 fun b hb o q=>e5.extBut b o (fun r=>D.o1 (r▸hb)) (e4.extBut b o (fun r=>D.x2 (r▸hb)) (e3.extBut b o (fun r=>D.o1 (r▸hb)) q))
 have T2:S2 (k+1) k5:=D2.frame _ _ _ s4 fun b hb o q=>e5.extBut b o (fun r=>D.o2 (r▸hb)) q
 have zlt:z<k5.objs.size:=Qj Z5
 show wpAny _ _ (GU (.ref z) (.ref k5.objs.size) >>= _) _ _ _;refine Qa ?_;unfold GU
 have Z6:IsZip (k5.push { cls:=.type "tuple",data:=.seq #[x,y] }) z TI TO .ellipsis:=Qg _ Z5;refine Qa (Q4 Z6 (by simp) fun k7 Z7 e7=>?_)
 replace Z7:IsZip k7 z TI TO (rawInt k5.objs.size):=Z7
 replace e7:Qu z (k5.push { cls:=.type "tuple",data:=.seq #[x,y] }) k7:=e7;refine Q4 Z7 (by simp) fun k8 Z8 e8=>?_
 replace Z8:IsZip k8 z TI TO (rawInt k5.objs.size):=Z8
 replace e8:Qu z k7 k8:=e8;have up:∀c o,c≠z->k5.get? c=some o->k8.get? c=some o:=fun c o c1 q=>e8.extBut _ _ c1 (e7.extBut _ _ c1 (Qg _ q))
 have N8:IsPair k8 k5.objs.size x y:=e8.extBut _ _ (Q1 zlt) (e7.extBut _ _ (Q1 zlt) (Qh _ rfl))
 have z8:k8.objs.size=k5.objs.size+1:=by rw[e8.1,e7.1,Ge]
 rw[hsz] at Z8 N8 z8;refine Qf ⟨_,rfl,?_⟩;show Q (.ref k5.objs.size) _;rw[hsz];refine hQ x y k8 t4 px py Z8 (up _ _ D.a1 (keep5 _ _ D.a1 D.a3 (QL ii1) (QL ii2) gI)) (up _ _ D.a2 O5) ?_ ?_ N8 z8 fun c o c1 c2 c3 c4 q=>up c o c1 (keep5 c o c1 c2 c3 c4 q)
 ·exact D1.frame _ _ _ T1 fun b hb o q=>up b o (fun r=>D.z1 (r▸hb)) q
 ·exact D2.frame _ _ _ T2 fun b hb o q=>up b o (fun r=>D.z2 (r▸hb)) q
theorem Jdj{a b:Qc}{Q:Fin->Qe->Prop}(D:ZA z TI TO i1 i2 p1 p2)(D1:Draws prog w A i1 p1 n1 P1 S1)(D2:Draws prog w A i2 p2 n2 P2 S2)(gz:IsZip s.heap z TI TO .none)(gI:IsPair s.heap TI (.ref i1) (.ref i2))(gO:IsPair s.heap TO a b)
 (st1:S1 k s.heap) (st2:S2 k s.heap) (hend:k=n1\/(k<n1/\k=n2))
 (hE:∀h' e tk,(∀c o,c≠z->c≠TO->c≠i1->c≠i2->s.heap.get? c=some o->h'.get? c=some o)->(∃o,h'.get? e=some o/\o.cls=.type "StopIteration")->E (.ref e) { s with heap:=h',toks:=tk }) :
 wpAny (model prog w) A (Builtin.«zip.__next__» ⟨[.ref z],[]⟩) Q E s:=by
 obtain⟨hp,g,d,t0,os⟩:=s;have zi1:i1≠z:=fun q=>D.z1 (q▸D.m1)
 have zi2:i2≠z:=fun q=>D.z2 (q▸D.m2)
 have oi1:i1≠TO:=fun q=>D.o1 (q▸D.m1)
 show wpAny _ _ (field (.ref z) 2 >>= _) _ _ _;refine Qa (QM gz rfl (x:=.bool false) rfl (show wpAny _ _ (field (.ref z) 3 >>= _) _ _ _ from Qa (QM gz rfl (x:=.ref TI) rfl (Qa (Gf gI rfl ?_)))))
 show wpAny _ _ (QK (.ref z) >>= _) _ _ _;refine Qa ?_;unfold QK;refine Qa (QM gz rfl (x:=.none) rfl (Qf ?_));simp only[if_true];refine Qa (Kb (Qa (QM gz rfl (x:=.ref TO) rfl (Qa (Q4 gz (by simp) fun k1 y1 e1=>?_)))))
 replace y1:IsZip k1 z TI TO .ellipsis:=y1
 replace e1:Qu z hp k1:=e1;refine Qa ?_;simp only[List.zipIdx_cons,List.zipIdx_nil,LS,Mb];refine Qa (Qa (Mt (show wpAny _ _ (QY (.ref i1) >>= _) _ _ _ from Qa ?_)));have q1:S1 k k1:=D1.frame _ _ _ st1 fun b hb o q=>e1.extBut b o (fun r=>D.z1 (r▸hb)) q
 rcases hend with rfl|⟨l1,rfl⟩
 ·refine D1.done _ _ _ q1 fun k2 e e2 he=>?_
  replace e2:Ki i1 k1 k2:=e2;obtain⟨oe,hoe,hce⟩:=he;have Z2:IsZip k2 z TI TO .ellipsis:=e2 _ _ (QL zi1) y1;have ez:e≠z:=fun q=>by lia
  exact Q4 Z2 (by simp) fun k3 _ e3=>hE k3 e t0 (fun c o c1 _ c3 _ q=>e3.extBut _ _ c1 (e2 _ _ c3 (e1.extBut _ _ c1 q))) ⟨oe,e3.extBut _ _ ez hoe,hce⟩
 ·refine D1.item k _ _ _ l1 q1 fun x k2 t2 px s2 e2=>Qf ?_
  replace e2:Qu i1 k1 k2:=e2;have O2:IsPair k2 TO a b:=e2.extBut _ _ (QL oi1) (e1.extBut _ _ D.a2 gO);refine Qa (Gf (s:=⟨k2,g,d,t2,os⟩) O2 rfl (Qa (LN (s:=⟨k2,g,d,t2,os⟩) O2 fun k3 O3 e3=>?_)))
  replace e3:Qu TO k2 k3:=e3;refine Qa (KG (Qf ?_));have st2':S2 k k3:=D2.frame _ _ _ st2 fun b hb o q=>e3.extBut b o (fun r=>D.o2 (r▸hb)) (e2.extBut b o (fun r=>D.x1 (r▸hb)) (e1.extBut b o (fun r=>D.z2 (r▸hb)) q))
  refine Qa (Qa (Mt (show wpAny _ _ (QY (.ref i2) >>= _) _ _ _ from Qa (D2.done _ _ _ st2' fun k4 e e4 he=>?_))))
  replace e4:Ki i2 k3 k4:=e4;obtain⟨oe,hoe,hce⟩:=he;have Z4:IsZip k4 z TI TO .ellipsis:=e4 _ _ (QL zi2) (e3.extBut _ _ (QL D.a2) (e2.extBut _ _ (QL zi1) y1));have ez:e≠z:=fun q=>by lia
  exact Q4 Z4 (by simp) fun k5 _ e5=>hE k5 e t2 (fun c o c1 c2 c3 c4 q=>e5.extBut _ _ c1 (e4 _ _ c4 (e3.extBut _ _ c2 (e2.extBut _ _ c3 (e1.extBut _ _ c1 q))))) ⟨oe,e5.extBut _ _ ez hoe,hce⟩
end
end PySem

namespace PySem
def IsSq(b:Bool)(h:QC)(a:Qd)(xs:Array Qc):Prop:=match b with
 | true=>h.IsTuple a xs
 | false=>h.IsList a xs
def IsItr(b:Bool)(h:QC)(j a:Qd)(i:Nat):Prop:=match b with
 | true=>h.IsTupleIter j a i
 | false=>h.IsListIter j a i
def itO(b:Bool)(a:Qd):Obj:=match b with
 | true=>{ cls:=.type "tuple_iterator",data:=.fields #[.ref a,.int 0 0] }
 | false=>{ cls:=.type "list_iterator",data:=.fields #[.ref a,.int 0 0] }
section
variable{prog:Qm}{w:Qp}{A:Qx}{E:Qc->Qe->Prop}{s:Qe}{b b1 b2:Bool}{a a1 a2:Qd}{xs ys:Array Qc}
theorem IsSq.push{h:QC}(q:IsSq b h a xs)(o:Obj):IsSq b (h.push o) a xs:=by
 cases b with
 | true=>exact Heap.IsTuple.push q o
 | false=>exact Heap.IsList.push q o
theorem IsSq.lt{h:QC}(q:IsSq b h a xs):a<h.objs.size:=by
 cases b with
 | true|false=>obtain⟨o,e,_⟩:=q;exact Qj e
theorem IsItr.new{h:QC}(e:h.get? a1=some (itO b a)):IsItr b h a1 a 0:=by
 cases b with
 | true|false=>exact⟨_,e,rfl,rfl⟩
theorem UN{Q:Qc->Qe->Prop}(q:IsSq b s.heap a xs)(h:Q (.ref s.heap.objs.size) { s with heap:=s.heap.push (itO b a) }):wpAny (model prog w) A (pyIter (.ref a)) Q E s:=by
 cases b with
 | true=>exact L8 q h
 | false=>exact Ln q h
theorem Draws.sq(hh:A.handled=none)(j:Qd)(ne:a≠j):Draws prog w A j [j,a] xs.size (fun i v=>xs[i]?=some v) (fun i h=>IsItr b h j a i/\IsSq b h a xs):=by
 cases b with
 | true=>exact Draws.tup hh j a ne xs
 | false=>exact Draws.list hh j a ne xs
abbrev zP1(h:QC)(b1:Bool)(a1:Qd):QC:=h.push (itO b1 a1)
abbrev zP2(h:QC)(b1 b2:Bool)(a1 a2:Qd):QC:=(zP1 h b1 a1).push (itO b2 a2)
abbrev zP3(h:QC)(b1 b2:Bool)(a1 a2:Qd):QC:=(zP2 h b1 b2 a1 a2).push { cls:=.type "tuple",data:=.seq #[.ref h.objs.size,.ref (zP1 h b1 a1).objs.size] }
abbrev zP4(h:QC)(b1 b2:Bool)(a1 a2:Qd):QC:=(zP3 h b1 b2 a1 a2).push { cls:=.type "tuple",data:=.seq #[.none,.none] }
abbrev zP5(h:QC)(b1 b2:Bool)(a1 a2:Qd):QC:=(zP4 h b1 b2 a1 a2).push { cls:=.type "zip",data:=.fields #[.none,.bool false,.bool false,.ref (zP2 h b1 b2 a1 a2).objs.size,.ref (zP3 h b1 b2 a1 a2).objs.size] }
theorem JdM(b1 b2:Bool)(a1 a2:Qd)(xs ys:Array Qc):Meets (Builtin.«zip.__new__» ⟨[.type "zip",.ref a1,.ref a2],[]⟩) (fun _ R s=>IsSq b1 s.heap a1 xs/\IsSq b2 s.heap a2 ys ∧
 R (.ok (.ret (.ref (zP4 s.heap b1 b2 a1 a2).objs.size))) { s with heap:=zP5 s.heap b1 b2 a1 a2 }) :=
 .of_wp fun prog w A R s h=>by obtain⟨hp,g,d,tk,os⟩:=s;obtain⟨q1,q2,h⟩:=h;have hsub:=sub_zip;have r1:IsSq b1 (Rz ⟨hp,g,d,tk,os⟩) a1 xs:=q1;have r2:IsSq b2 (Rz ⟨hp.push (itO b1 a1),g,d,tk,os⟩) a2 ys:=IsSq.push q2 _;wp_walk using UN r1,UN r2;exact⟨_,rfl,h⟩
theorem JaO{Q:Qc->Qe->Prop}(q1:IsSq b1 s.heap a1 xs)(q2:IsSq b2 s.heap a2 ys)
 (h:∀h',IsZip h' (s.heap.objs.size+4) (s.heap.objs.size+2) (s.heap.objs.size+3) .none->IsPair h' (s.heap.objs.size+2) (.ref s.heap.objs.size) (.ref (s.heap.objs.size+1))->IsPair h' (s.heap.objs.size+3) .none .none ->
  IsItr b1 h' s.heap.objs.size a1 0->IsItr b2 h' (s.heap.objs.size+1) a2 0->(∀c o,s.heap.get? c=some o->h'.get? c=some o)->Q (.ref (s.heap.objs.size+4)) { s with heap:=h' }) :
 wpAny (model prog w) A (call (.type "zip") [.ref a1,.ref a2]) Q E s:=by
 refine callType_new F.called_zip (by decide) (F.typeCall_zip_2 _ _) (F.newCall_zip_2 _ _) (fun obj=>F.args_object_init_3 obj _ _) F.entry_zip_new (JdM b1 b2 a1 a2 xs ys) ⟨q1,q2,?_⟩;have z1:(zP1 s.heap b1 a1).objs.size=s.heap.objs.size+1:=Ge ..;have z2:(zP2 s.heap b1 b2 a1 a2).objs.size=s.heap.objs.size+2:=by rw[Ge,z1]
 have z3:(zP3 s.heap b1 b2 a1 a2).objs.size=s.heap.objs.size+3:=by rw[Ge,z2]
 have z4:(zP4 s.heap b1 b2 a1 a2).objs.size=s.heap.objs.size+4:=by rw[Ge,z3]
 have up:∀{k:QC} {c:Qd} {o u:Obj},k.get? c=some o->(k.push u).get? c=some o:=fun q=>Qg _ q
 have fi1:(itO b1 a1).isFreed=false:=by cases b1 <;> rfl
 have fi2:(itO b2 a2).isFreed=false:=by cases b2 <;> rfl
 have g5:(zP5 s.heap b1 b2 a1 a2).get? (zP4 s.heap b1 b2 a1 a2).objs.size=some _:=Qh _ rfl
 have g4:(zP5 s.heap b1 b2 a1 a2).get? (zP3 s.heap b1 b2 a1 a2).objs.size=some _:=up (Qh _ rfl)
 have g3:(zP5 s.heap b1 b2 a1 a2).get? (zP2 s.heap b1 b2 a1 a2).objs.size=some _:=up (up (Qh _ rfl))
 have g2:(zP5 s.heap b1 b2 a1 a2).get? (zP1 s.heap b1 a1).objs.size=some _:=up (up (up (Qh _ fi2)))
 have g1:(zP5 s.heap b1 b2 a1 a2).get? s.heap.objs.size=some _:=up (up (up (up (Qh _ fi1))))
 show _/\_;rw[z2,z3,z4] at g5;rw[z1,z2] at g3;rw[z3] at g4;rw[z1] at g2;rw[z4];exact⟨⟨_,g5,rfl⟩,h _ g5 g3 g4 (.new g1) (.new g2) fun c o q=>up (up (up (up (up q))))⟩
end
end PySem

namespace L2
open PySem PySem.Spec PyProof.Rows
section
variable{X:Cx}{pins:List (Qd×Obj)}{σ:St}{H:Hp}{s:Qe}{h':QC}
theorem Inv.turnedL{t':Nat}{fp:List Qd}(I:Inv X pins σ H s)(k:∀b o,b∉fp->s.heap.get? b=some o->h'.get? b=some o)(hf:∀b∈fp,FpOk X pins H b):Inv X pins σ H { s with heap:=h',toks:=t' }:=by
 have nit:∀b u,H b=some u->b∉fp:=fun b u e z=>by rw[(hf b z).1] at e;cases e
 refine I.step (g':=s.gens) (d':=s.drawn) (ch:=fp) (fun b hb=>?_) (fun b o _ _ hc e _=>k b o hc e) (fun b o _ _ hc e _=>⟨o.slots,k b o hc e⟩) (fun _ _ _ _ n=>n)
  (fun b o hc e=>⟨o,k b o hc e⟩) (fun _ _ e=>e) (fun _ _ _ e=>e) (fun _ _ _ _ _ e=>e) (fun m hm=>?_) (fun b u e=>?_) I.bare
 ·obtain⟨f0,f1,f2,f3,f4,f5⟩:=hf b hb;exact⟨f3,f1,f4,f5⟩
 ·obtain⟨o,es,ep,ho,r⟩:=hm;exact⟨o,es,ep,k _ o (fun z=>(hf _ z).2.1 rfl) ho,r⟩
 ·refine(I.hok b u e).stay (fun c v hc q=>k c v ?_ q) (fun _ q=>q) fun _ _ q=>q
  grind
noncomputable def Sq(b:Bool)(K:Qo)(H:Hp)(a:Qd)(xs:List V):Prop:=match b with
 | true=>SqT K H a xs
 | false=>SqL K H a xs
theorem Sq.heap{b:Bool}{a:Qd}{xs:List V}(I:Inv X pins σ H s)(q:Sq b X.K H a xs):∃its:List Qc,Vals xs its/\IsSq b s.heap a its.toArray:=by
 cases b with
 | true=>obtain⟨its,r,p,_⟩:=I.tuple q;exact⟨its,r,p⟩
 | false=>obtain⟨its,r,p,_⟩:=I.list q;exact⟨its,r,p.isList⟩
theorem Sq.inj{b:Bool}{a:Qd}{xs ys:List V}(I:Inv X pins σ H s)(q:Sq b X.K H a xs)(q':Sq b X.K H a ys):xs=ys:=by
 cases b with
 | true=>exact I.tuple_inj q q'
 | false=>exact I.list_inj q q'
theorem FpOk.off{b:Bool}{a c:Qd}{xs:List V}(I:Inv X pins σ H s)(q:Sq b X.K H a xs)(f:FpOk X pins H c):a≠c:=by
 intro e;subst e;have own:∀{o:HO},H a=some o->False:=fun h=>by rw[f.1] at h;cases h
 have mod:∀{o:Obj},X.K.lookup a=some o->False:=fun {o} h=>by
  have hb:=I.ok.mod.kin a o h;rcases f.2.2.2.1 with z|z
  ·exact I.ok.noex a o hb z
  ·exact absurd (Qj hb) (LI.mpr (QJ I.ok.bsz z))
 cases b with
 | true|false =>
  rcases q with (h|⟨o,h⟩)|⟨o,its,n,h,_⟩
  ·exact own h
  ·exact own h
  ·exact mod h
noncomputable def Itz(K:Qo)(b1 b2:Bool)(a1 a2:Qd):It :=
 ⟨fun i H=>∃xs ys x y,Sq b1 K H a1 xs/\Sq b2 K H a2 ys/\xs[i]?=some x/\ys[i]?=some y,
  fun i H x H'=>∃p u v,x=.ref p/\H p=none/\H'=upd H p (.tup [u,v])/\∀xs ys,Sq b1 K H a1 xs->Sq b2 K H a2 ys->xs[i]?=some u/\ys[i]?=some v,
  fun i H=>∃xs ys,Sq b1 K H a1 xs/\Sq b2 K H a2 ys/\i=min xs.length ys.length⟩
noncomputable def ZSt(b1 b2:Bool)(a1 a2 z TI TO i1 i2:Qd)(i:Nat)(h:QC):Prop:=IsZip h z TI TO .none/\IsPair h TI (.ref i1) (.ref i2)/\(∃a b,IsPair h TO a b)/\IsItr b1 h i1 a1 i/\IsItr b2 h i2 a2 i
theorem IsItr.keep{b:Bool}{h h':QC}{j a:Qd}{i:Nat}(q:IsItr b h j a i)(k:∀o,h.get? j=some o->h'.get? j=some o):IsItr b h' j a i:=by
 cases b with
 | true|false=>obtain⟨o,e,r⟩:=q;exact⟨o,k o e,r⟩
theorem IsItr.obj{b:Bool}{h:QC}{j a:Qd}{i:Nat}(q:IsItr b h j a i):∃o,h.get? j=some o/\∀v,o.data≠.cell v:=by
 cases b with
 | true|false=>obtain⟨o,e,_,d⟩:=q;simp_all
end
theorem Jl3{X:Cx}{pins:List (Qd×Obj)}{σ:St}{H:Hp}{s:Qe}{b1 b2:Bool}{a1 a2 z TI TO i1 i2:Qd}{xs ys:List V}(I:Inv X pins σ H s)(q1:Sq b1 X.K H a1 xs)(q2:Sq b2 X.K H a2 ys)(hf:∀b∈[z,TI,TO,i1,i2],FpOk X pins H b)
 (nd:[z,TI,TO,i1,i2].Nodup):ZA z TI TO i1 i2 [i1,a1] [i2,a2]:=by
 have o1:∀c∈[z,TI,TO,i1,i2],a1≠c:=fun c hc=>FpOk.off I q1 (hf c hc)
 have o2:∀c∈[z,TI,TO,i1,i2],a2≠c:=fun c hc=>FpOk.off I q2 (hf c hc)
 simp only[Gc,Qr,Gj,or_false,not_or] at nd;obtain⟨⟨n1,n2,n3,n4⟩,⟨n5,n6,n7⟩,⟨n8,n9⟩,n10,_⟩:=nd;have c1:=o1 z (by simp);have c2:=o1 TI (by simp);have c3:=o1 TO (by simp);have c4:=o1 i2 (by simp);have d1:=o2 z (by simp);have d2:=o2 TI (by simp);have d3:=o2 TO (by simp);have d4:=o2 i1 (by simp);refine⟨QL n1,QL n2,n5,by simp,by simp,?_,?_,?_,?_,?_,?_,?_,?_⟩ <;> simp only[Qr,Gj,or_false,not_or]
 ·exact⟨n3,QL c1⟩
 ·exact⟨n4,QL d1⟩
 ·exact⟨n6,QL c2⟩
 ·exact⟨n7,QL d2⟩
 ·exact⟨n8,QL c3⟩
 ·exact⟨n9,QL d3⟩
 ·exact⟨n10,QL d4⟩
 ·exact⟨QL n10,QL c4⟩
theorem JiM{P:Qm}{w:Qp}{K:Qo}{elts:List QV}{kk:Nat}{pos:Pos}(b1 b2:Bool)(a1 a2 z TI TO i1 i2:Qd)(nd:[z,TI,TO,i1,i2].Nodup) :
 Turn P w K (.Tuple elts kk pos) (Itz K b1 b2 a1 a2) [z,TI,TO,i1,i2] z (ZSt b1 b2 a1 a2 z TI TO i1 i2) where
 mem:=by simp
 obj:=fun i h st b hb=>by
  obtain⟨s1,s2,⟨u,v,s3⟩,s4,s5⟩:=st
  grind[IsItr.obj]
 keep:=fun i h h' st k=>by obtain⟨s1,s2,⟨u,v,s3⟩,s4,s5⟩:=st;exact⟨k z (by simp) _ s1,k TI (by simp) _ s2,⟨u,v,k TO (by simp) _ s3⟩,IsItr.keep (b:=b1) s4 fun o e=>k i1 (by simp) o e,IsItr.keep (b:=b2) s5 fun o e=>k i2 (by simp) o e⟩
 item:=by
  intro X hP hw hK hc i pins s σ H E I hf st hg;subst hP hw hK;obtain⟨xs,ys,x,y,q1,q2,e1,e2⟩:=hg;obtain⟨its,r1,p1⟩:=q1.heap I;obtain⟨jts,r2,p2⟩:=q2.heap I;obtain⟨s1,s2,⟨u0,v0,s3⟩,s4,s5⟩:=st;have Z:=Jl3 I q1 q2 hf nd;have hh:X.A.in1.handled=none:=I.ok.hd hc;have ne1:a1≠i1:=FpOk.off I q1 (hf i1 (by simp));have ne2:a2≠i2:=FpOk.off I q2 (hf i2 (by simp));have D1:=Draws.sq (prog:=X.prog) (w:=X.w) (b:=b1) (xs:=its.toArray) hh i1 ne1
  have D2:=Draws.sq (prog:=X.prog) (w:=X.w) (b:=b2) (xs:=jts.toArray) hh i2 ne2
  have hT:s.TypeIs (.ref z) "zip":=⟨_,s1,rfl⟩
  have l1:i<its.toArray.size:=by have:=(Qi.mp e1).1;rw[QW,<- r1.length];exact this
  have l2:i<jts.toArray.size:=by have:=(Qi.mp e2).1;rw[QW,<- r2.length];exact this
  unfold pyNext;refine Qa (Gy (QF (name:=Ga "__next__") hT GD (QH GD hT KA (Jbe Z D1 D2 s1 s2 s3 ⟨s4,p1⟩ ⟨s5,p2⟩ l1 l2 fun u v k tk pu pv t1 t2 t3 t4 t5 t6 t7 t8=>Qf ?_) (Ks _))));refine⟨_,rfl,wpAny_letOwnedTupleGo_zip (s:={ s with heap:=k,toks:=tk }) t1 fun k2 t9 e9=>?_⟩
  replace e9:Qu z k k2:=e9;obtain⟨ux,hx1,rx⟩:=r1.get e1;obtain⟨uy,hy1,ry⟩:=r2.get e2
  have eu:u=ux:=by simp_all
  have ev:v=uy:=by simp_all
  subst eu ev
  have zlt:∀b∈[z,TI,TO,i1,i2],b<s.heap.objs.size:=fun b hb=>by
   simp only[Qr,Gj,or_false] at hb;rcases hb with rfl|rfl|rfl|rfl|rfl
   ·exact Qj s1
   ·exact Qj s2
   ·exact Qj s3
   ·obtain⟨_,e,_⟩:=IsItr.obj (b:=b1) s4;exact Qj e
   ·obtain⟨_,e,_⟩:=IsItr.obj (b:=b2) s5;exact Qj e
  have nz:s.heap.objs.size≠z:=Q1 (zlt z (by simp))
  -- the pair is laid,then the private objects turn
  have I1:Inv X pins σ (upd H s.heap.objs.size (.tup [x,y])) { s with heap:=s.heap.push { cls:=.type "tuple",data:=.seq #[u,v] },toks:=s.toks } :=
   I.laid (o:=.tup [x,y]) (fun b ob q=>Qg _ q) (Qn _) ⟨by show 2<=Qk;decide,[u,v],.cons rx (.cons ry .nil),⟨_,Qh _ rfl,rfl,_,rfl⟩⟩
  have hf1:∀b∈[z,TI,TO,i1,i2],FpOk X pins (upd H s.heap.objs.size (.tup [x,y])) b:=fun b hb=>⟨by rw[Jf (Qw (zlt b hb))];exact(hf b hb).1,(hf b hb).2⟩
  have I2:Inv X pins σ (upd H s.heap.objs.size (.tup [x,y])) { s with heap:=k2,toks:=tk }:=Inv.turnedL (s:={ s with heap:=s.heap.push { cls:=.type "tuple",data:=.seq #[u,v] },toks:=s.toks }) I1 (fun b o hb q=>by
   simp only[Qr,Gj,or_false,not_or] at hb;refine e9.extBut b o hb.1 ?_
   by_cases hbs:b=s.heap.objs.size
   ·subst hbs;have q':(s.heap.push { cls:=.type "tuple",data:=.seq #[u,v] }).get? s.heap.objs.size=some o:=q;rw[Qh _ rfl] at q'
    simp_all
   grind[Ml]) hf1
  refine⟨.ref s.heap.objs.size,_,I2,rfl,⟨_,x,y,rfl,I.hok.fresh (Qn _),rfl,fun xs' ys' h1 h2=>?_⟩,⟨t9,e9.extBut _ _ Z.a1 t2,⟨_,_,e9.extBut _ _ Z.a2 t3⟩,?_,?_⟩,fun b hb=>(hf1 b hb).1⟩
  ·rw[Sq.inj I h1 q1,Sq.inj I h2 q2];exact⟨e1,e2⟩
  ·exact IsItr.keep (b:=b1) t4.1 fun o e=>e9.extBut _ _ (fun q=>Z.z1 (q▸Z.m1)) e
  ·exact IsItr.keep (b:=b2) t5.1 fun o e=>e9.extBut _ _ (fun q=>Z.z2 (q▸Z.m2)) e
 done:=by
  intro X hP hw hK hc i pins s σ H E I hf st hg;subst hP hw hK;obtain⟨xs,ys,q1,q2,ei⟩:=hg;obtain⟨its,r1,p1⟩:=q1.heap I;obtain⟨jts,r2,p2⟩:=q2.heap I;obtain⟨s1,s2,⟨u0,v0,s3⟩,s4,s5⟩:=st;have Z:=Jl3 I q1 q2 hf nd;have hh:X.A.in1.handled=none:=I.ok.hd hc;have D1:=Draws.sq (prog:=X.prog) (w:=X.w) (b:=b1) (xs:=its.toArray) hh i1 (FpOk.off I q1 (hf i1 (by simp)));have D2:=Draws.sq (prog:=X.prog) (w:=X.w) (b:=b2) (xs:=jts.toArray) hh i2 (FpOk.off I q2 (hf i2 (by simp)))
  have hT:s.TypeIs (.ref z) "zip":=⟨_,s1,rfl⟩
  have n1:its.toArray.size=xs.length:=by rw[QW,r1.length]
  have n2:jts.toArray.size=ys.length:=by rw[QW,r2.length]
  unfold pyNext;refine Qa (Gy (QF (name:=Ga "__next__") hT GD (QH GD hT KA (Jdj Z D1 D2 s1 s2 s3 ⟨s4,p1⟩ ⟨s5,p2⟩ (by lia) fun k e tk kk he=>?_) (Ks _))));obtain⟨o,ho,hoc⟩:=he;refine Qa (Gu (T:="StopIteration") (b:=true) ⟨o,ho,hoc⟩ KB (Qf ⟨rfl,?_⟩));exact I.turnedL (fun b o hb q=>by simp_all) hf
 self:=fun _ _ _ _ _ st h=>ME st.1 h
noncomputable def iZp(K:Qo)(ta:TA):TI:=fun σ H R=>ta σ H fun vs H1=>∃(b1 b2:Bool) (a1 a2:Qd) (xs ys:List V),vs=[.ref a1,.ref a2]/\Sq b1 K H1 a1 xs/\Sq b2 K H1 a2 ys/\R (Itz K b1 b2 a1 a2) H1
theorem JbO{X:Cx}{K:Qo}{elts:List QV}{kk:Nat}{tpos:Pos}{a b:QV}{ta:TA}{p pos:Pos}(hK:X.K=K)(hg:Gl X "zip")(hm:X.mg "zip"=none)(ha:PA X [a,b] ta)(hs:starEach [a,b] X.env=[(false,eval a X.env),(false,eval b X.env)]:=by rfl)
 (hs2:starEach [b] X.env=[(false,eval b X.env)]:=by rfl):PI X (.Tuple elts kk tpos) (.Call (.Name "zip" p) [a,b] [] pos) (iZp K ta):=by
 subst hK;intro pins s σ H R I h;refine Call_ (YY I hg hm JgM (Q8 (thA (ha pos pins s σ H _ I h) fun us s1 vs H1 I1 r1 q1=>?_) (by rw[hs,hs2]) (by rw[hs2];rfl)));obtain⟨b1,b2,a1,a2,xs,ys,e,c1,c2,q⟩:=q1;subst e
 cases r1 with
 | cons r rr =>
 cases rr with
 | cons r' rr =>
 cases rr;cases r;cases r';obtain⟨its,w1,p1⟩:=c1.heap I1;obtain⟨jts,w2,p2⟩:=c2.heap I1;refine JaO p1 p2 fun h' t1 t2 t3 t4 t5 kp=>ME t1 ?_
 refine⟨_,[s1.heap.objs.size+4,s1.heap.objs.size+2,s1.heap.objs.size+3,s1.heap.objs.size,s1.heap.objs.size+1],_,_,H1,rfl,I1.kept (t':=s1.toks) kp,JiM b1 b2 a1 a2 _ _ _ _ _ (by simp),⟨t1,t2,⟨_,_,t3⟩,t4,t5⟩,fun b hb=>?_,q⟩
 have hle:s1.heap.objs.size<=b:=by simp only[Qr,Gj,or_false] at hb;rcases hb with rfl|rfl|rfl|rfl|rfl <;> first|exact Qn _|exact K9 _ _
 exact I1.fpOk hle (I1.hok.fresh hle)
end L2

namespace LE
open PySem L2 LR
noncomputable def Jgt(ds es:List D):List D:=List.zipWith (fun a b=>.tup [a,b]) ds es
noncomputable def Jhk(m:Bool)(as:En->Option (List Sl)):En->Option (List D):=fun E=>(as E).bind (on2 fun s t=>(s.it m).bind fun ds=>(t.it m).bind fun es=>some (Jgt ds es))
section
variable{K:Qo}{C:Qd}{m:Bool}
theorem JfD{H H1 H1':Hp}{v:V}{s:Sl}{ds:List D}(r:RR K C H H1 H1' v s)(i:Same H1 H1')(e:s.it m=some ds) :
 ∃(b:Bool) (a:Qd) (xs:List V),v=.ref a/\(∀A,(m=true->A=H1')->∀H0' H',SStep A (JK H H1 H1') H0' H'->Sq b K H' a xs)/\RDL K C (JK H H1 H1') xs ds:=by
 have f:=JF (Hs:=H) i
 have shared:∀{d:D},RD K C (JK H H1 H1') v d->(Sl.sh d).q=some ds->∃(b:Bool) (a:Qd) (xs:List V),v=.ref a/\(∀A,(m=true->A=H1')->∀H0' H',SStep A (JK H H1 H1') H0' H'->Sq b K H' a xs)/\RDL K C (JK H H1 H1') xs ds:=fun {d} r e=>by
  cases d with
  | lst es=>cases e;obtain⟨l,xs,h1,h2,h3⟩:=RD.lstI r;exact⟨false,l,xs,h1,fun A _ H0' H' st=>SqL.of (st.i _ _ (st.z _ _ h2)),h3⟩
  | fz es=>cases e;obtain⟨l,xs,h1,h2,h3⟩:=RD.fzI r;exact⟨false,l,xs,h1,fun A _ H0' H' st=>(st.z.trans st.i).seq h2,h3⟩
  | tup es=>cases e;obtain⟨l,xs,h1,h2,h3⟩:=RD.tupI r;exact⟨true,l,xs,h1,fun A _ H0' H' st=>(st.z.trans st.i).seqT h2,h3⟩
  | _=>cases e
 cases s with
 | sh d=>exact shared (RD.mono f.z r) e
 | own es=>exact shared (RR.frz (s:=.own es) i r rfl) e
 | bo es =>
  unfold Sl.it at e;dsimp only at e;split at e
  ·next hm=>cases e;obtain⟨l,xs,h1,h2,h3⟩:=r;refine⟨false,l,xs,h1,fun A hA H0' H' st=>?_,h3.mono f.z⟩;have:=hA hm;subst this;exact SqL.of (st.b _ _ h2)
  ·cases e
 | _=>cases e
theorem Joz{t:TA}{ev:En->Option (List Sl)}(ha:SA K C t ev):SI K C m (iZp K t) (Jhk m ev):=by
 intro B H0 H σ E ds R I e q;obtain⟨ss,e1,e⟩:=bind_some e
 replace e:=Z0 e;obtain⟨s,u,rfl,e⟩:=e;obtain⟨ds1,e2,e⟩:=bind_some e;obtain⟨ds2,e3,e⟩:=bind_some e;cases e;refine ha B H0 H σ E _ _ I e1 fun vs H1 H1' s1 r1=>?_
 obtain⟨v,w,rfl,ra,rb⟩:=r1.two;have f:=JF (Hs:=H) s1.i;obtain⟨b1,a1,xs,rfl,k1,w1⟩:=JfD ra s1.i e2;obtain⟨b2,a2,ys,rfl,k2,w2⟩:=JfD rb s1.i e3;have hA:m=true->(if m=true then H1' else B)=H1':=fun h=>if_pos h
 have sA:Same (if m=true then H1' else B) H1':=by
  split
  ·exact Same.refl _
  ·exact I.b.trans s1.h
 have st0:SStep (if m=true then H1' else B) (JK H H1 H1') (JK H H1 H1') H1':=⟨sA,Same.refl _,fun _ _ e=>.inl e,f.i⟩
 refine⟨b1,b2,a1,a2,xs,ys,rfl,k1 _ hA _ _ st0,k2 _ hA _ _ st0,q _ _ _ (s1.comp f fun _ z=>z) ?_⟩;intro H0' H' st;have q1:=k1 _ hA _ _ st;have q2:=k2 _ hA _ _ st;refine⟨fun i d e=>?_,⟨xs,ys,q1,q2,by unfold Jgt;rw[List.length_zipWith,w1.1,w2.1]⟩⟩;unfold Jgt at e;rw[M3] at e
 cases g1:ds1[i]? with
 | none=>rw[g1] at e;cases e
 | some d1 =>
  cases g2:ds2[i]? with
  | none=>simp_all
  | some d2 =>
   rw[g1,g2] at e;cases e;obtain⟨x,x1,x2⟩:=w1.get g1;obtain⟨y,y1,y2⟩:=w2.get g2;refine⟨⟨xs,ys,x,y,q1,q2,x1,y1⟩,?_⟩;rintro z H2 ⟨p,u',v',rfl,hp,rfl,hv⟩;obtain⟨h1,h2⟩:=hv xs ys q1 q2;rw[x1] at h1;cases h1;rw[y1] at h2;cases h2;have h0:H0' p=none:=Same.free st.i hp;refine⟨upd H0' p (.tup [x,y]),⟨.new hp,.new h0,fun a o e=>?_,fun a o e=>?_⟩,?_⟩
   ·grind[Jf]
   ·by_cases h:a=p
    ·subst h;rw[Jl] at e ⊢;exact e
    ·rw[Jf h] at e ⊢;exact st.i a o e
   ·exact .mkT (.of Jl) (.cons (x2.mono (st.z.trans (.new h0))) (.cons (y2.mono (st.z.trans (.new h0))) .nil))
end
end LE

namespace PySem
namespace F
theorem JbU:Slot "reversed" "__init__" "object.__init__" :=
 .of (owner:="object") (n:="__init__") (by rfl) (by decide +kernel) (by decide +kernel) (by decide +kernel) (by solve_by_elim) (by rfl)
theorem rv_slot_next:Slot "reversed" "__next__" "reversed.__next__" :=
 .of (owner:="reversed") (n:="__next__") (by rfl) (by decide +kernel) (by decide +kernel) (by decide +kernel) (by solve_by_elim) (by rfl)
theorem rv_slot_iter:Slot "reversed" "__iter__" "reversed.__iter__" :=
 .of (owner:="reversed") (n:="__iter__") (by rfl) (by decide +kernel) (by decide +kernel) (by decide +kernel) (by solve_by_elim) (by rfl)
theorem rv_args_next(a:Qc):argsOk "reversed.__next__" ⟨[a],[]⟩:=by rfl
theorem rv_args_iter(a:Qc):argsOk "reversed.__iter__" ⟨[a],[]⟩:=by rfl
theorem rv_entry_next:entryFor table "reversed.__next__"=some Builtin.«reversed.__next__»:=entryFor_of_tree (by kernel_rfl)
theorem rv_entry_iter:entryFor table "reversed.__iter__"=some Builtin.«dict_keyiterator.__iter__» :=
 entryFor_alias (id':="dict_keyiterator.__iter__") (by kernel_rfl) (by rfl) (by decide +kernel) (by kernel_rfl)
theorem rv_called:TypeCalled "reversed" "reversed.__new__" "object.__init__" :=
 ⟨by decide +kernel,by decide +kernel,⟨_,_,mro_reversed⟩,made_reversed,by decide +kernel,sub_reversed_self,JbU⟩
theorem rv_tuple_none:typeLookup (.type "tuple") "__reversed__"=pure none:=by rfl
theorem rv_tuple_dict:isSubtype (.type "tuple") (.type "dict")=pure false:=by rfl
end F
abbrev Jdl(h:QC)(r a:Qd)(i:Int):Prop:=h.get? r=some { cls:=.type "reversed",dict:=none,data:=.fields #[.ref a,rawInt i],slots:=#[] }
section
variable{prog:Qm}{w:Qp}{A:Qx}{E:Qc->Qe->Prop}{s:Qe}{a r:Qd}{xs:Array Qc}
theorem Jhv(a:Qd)(xs:Array Qc):Meets (Builtin.«reversed.__new__» ⟨[.type "reversed",.ref a],[]⟩) (fun _ R s=>s.heap.IsTuple a xs/\(xs.size:Int)<2 ^ 63 ∧
 R (.ok (.ret (.ref s.heap.objs.size))) { s with heap:=s.heap.push { cls:=.type "reversed",data:=.fields #[.ref a,rawInt ((xs.size:Int)-1)] },toks:=s.toks+1+1 }) :=
 .of_wp fun prog w A R s h=>by
  obtain⟨hp,g,d,tk,os⟩:=s;obtain⟨q1,q2,h⟩:=h;have hT:(⟨hp,g,d,tk,os⟩:Qe).TypeIs (.ref a) "tuple":=q1.typeIs;unfold Builtin.«reversed.__new__»;refine Qa (Kc (newClass_reversed _) ?_)
  try dsimp only
  refine Qa (Kc (a:=()) (by rfl) ?_);refine Qa (Kc (a:=()) (by rfl) ?_)
  try dsimp only
  refine Qa (GM hT F.rv_tuple_none ?_)
  try dsimp only
  refine Qa ?_;refine Qa (m:=isInstance (.ref a) (.type "dict")) (Gu hT F.rv_tuple_dict ?_);refine Qa (GM hT Q7.lookup ?_);refine Qf ?_;refine Qa (PyProof.Rows.len_tuple (s:=⟨hp,g,d,tk,os⟩) q1 q2 ?_);refine Qa (Kc (a:=some (xs.size:Int)) rfl ?_)
  try dsimp only
  refine Qa ?_;show wpAny _ _ (newObj (.type "reversed") (.fields #[.ref a,rawInt ((xs.size:Int)-1)])) _ _ _;exact QO (Qf ⟨_,rfl,h⟩) (by size_fits)
theorem Ji7{Q:Qc->Qe->Prop}(q1:s.heap.IsTuple a xs)(q2:(xs.size:Int)<2 ^ 63)
 (h:∀h' tk,Jdl h' s.heap.objs.size a ((xs.size:Int)-1)->(∀c o,s.heap.get? c=some o->h'.get? c=some o)->Q (.ref s.heap.objs.size) { s with heap:=h',toks:=tk }) :
 wpAny (model prog w) A (call (.type "reversed") [.ref a]) Q E s:=by
 refine callType_new F.rv_called (by decide) (F.typeCall_reversed_1 _) (F.newCall_reversed_1 _) (fun obj=>F.args_object_init_2 obj _) F.entry_reversed_new (Jhv a xs) ⟨q1,q2,?_⟩;exact⟨⟨_,Qh _ rfl,rfl⟩,h _ _ (Qh _ rfl) fun c o q=>Qg _ q⟩
theorem Jj5{i:Nat}{x:Qc}{Q:Option Qc->Qe->Prop}(hit:Jdl s.heap r a (i:Int))(hl:s.heap.IsTuple a xs)(hb:(i:Int)<2 ^ 63)(hx:xs[i]?=some x)
 (hQ:∀h' tk,Jdl h' r a ((i:Int)-1)->Qu r s.heap h'->Q (some x) { s with heap:=h',toks:=tk }):wpAny (model prog w) A (pyNext (.ref r)) Q E s:=by
 have hT:s.TypeIs (.ref r) "reversed":=⟨_,hit,rfl⟩
 have hi:i<xs.size:=by grind
 unfold pyNext;refine Qa (Gy (QF (name:=Ga "__next__") hT F.rv_slot_next
  (QH F.rv_slot_next hT F.rv_entry_next ?_ (F.rv_args_next _))))
 unfold Builtin.«reversed.__next__»;refine Qa (Kc (a:=(Value.ref r,[])) rfl ?_)
 try dsimp only
 refine Qa (QM hit rfl (x:=.ref a) rfl ?_);refine Qa (QM hit rfl (x:=rawInt (i:Int)) rfl ?_);show wpAny _ _ (if (i:Int)<0 then _ else _) _ _ s;rw[if_neg (by simp[*])];show wpAny _ _ (specialOf (.ref a) _ >>= _) _ _ s;refine Qa (GM hl.typeIs Q7.lookup ?_);show wpAny _ _ (mkInt (i:Int) >>= _) _ _ s;refine Qa (wpAny_mkInt ?_);refine Qa (Gy (PyProof.Rows.getItem_tuple (s:={ s with toks:=s.toks+1 }) hl (by simp[*]) hb (j:=i) (by simp[seqIndex?];lia) hx ?_))
 show wpAny _ _ (field (.ref r) 1 >>= _) _ _ _;refine Qa (QM hit rfl (x:=rawInt (i:Int)) rfl ?_)
 show wpAny _ _ (setField (.ref r) 1 (rawInt ((i:Int)-1)) >>= _) _ _ _;refine Qa (Q4 hit (by simp) fun k1 y1 e1=>?_);exact Qf ⟨x,rfl,Qf (hQ k1 _ y1 e1)⟩
theorem Jmj{Q:Option Qc->Qe->Prop}(hh:A.handled=none)(hit:Jdl s.heap r a (-1))
 (hQ:∀h',Ki r s.heap h'->Q none { s with heap:=h' }):wpAny (model prog w) A (pyNext (.ref r)) Q E s:=by
 have hT:s.TypeIs (.ref r) "reversed":=⟨_,hit,rfl⟩
 unfold pyNext;refine Qa (Gy (QF (name:=Ga "__next__") hT F.rv_slot_next
  (QH F.rv_slot_next hT F.rv_entry_next ?_ (F.rv_args_next _))))
 unfold Builtin.«reversed.__next__»;refine Qa (Kc (a:=(Value.ref r,[])) rfl ?_)
 try dsimp only
 refine Qa (QM hit rfl (x:=.ref a) rfl ?_);refine Qa (QM hit rfl (x:=rawInt (-1)) rfl ?_);show wpAny _ _ (if (-1:Int)<0 then _ else _) _ _ s;rw[if_pos (by decide)];refine Qa (Kb ?_);refine Qa ?_;refine Qa (m:=setField (.ref r) 1 (rawInt (-1))) (Q4 hit (by simp) fun k1 y1 e1=>?_);refine Q4 (s:={ s with heap:=k1 }) y1 (by simp) fun k2 y2 e2=>?_
 refine Qa ?_;show wpAny _ _ (newExc (.type "StopIteration") [] >>= _) _ _ _;refine Qa ?_;simp only[newExc,newTuple];refine Qa (QO ?_ (by size_fits));refine Qa (m:=firstArgMember _ _) (Kc (a:=Value.none) (by rfl) ?_);refine QO ?_ (by size_fits);simp only[raiseNew];refine Qa (Ms ?_)
 first|rw[show A.in1.handled=none from hh]|rw[hh]
 refine Qa (Qf (Rb ?_));refine Qa (Gu (T:="StopIteration") (b:=true) ⟨_,Qh _ rfl,rfl⟩ KB ?_)
 replace e1:Qu r s.heap k1:=e1
 replace e2:Qu r k1 k2:=e2;refine Qf (hQ _ ?_);exact(Rx (Rx (fun b o hb q=>e2.extBut b o hb (e1.extBut b o hb q)) _) _)
theorem JeB{i:Int}{Q:Qc->Qe->Prop}(hit:Jdl s.heap r a i)(h:Q (.ref r) s):wpAny (model prog w) A (pyIter (.ref r)) Q E s:=by
 have hT:s.TypeIs (.ref r) "reversed":=⟨_,hit,rfl⟩
 refine Ls hT F.rv_slot_iter (QH F.rv_slot_iter hT F.rv_entry_iter ?_ (F.rv_args_iter _));show wpAny _ _ (ret (.ref r)) _ _ s;exact Qf ⟨_,rfl,"reversed",_,hT,F.rv_slot_next.lookup,h⟩
end
end PySem
namespace L2
open PySem PySem.Spec PyProof.Rows
noncomputable def Itv(K:Qo)(b:Bool)(a:Qd)(n:Nat):It :=
 ⟨fun i H=>i<n/\∃xs,Sq b K H a xs/\xs.length=n,fun i H x H'=>H'=H/\∀xs,Sq b K H a xs->xs[n-1-i]?=some x,fun i _=>i=n⟩
noncomputable def Jr6(b:Bool)(r a:Qd)(i:Int)(h:QC):Prop:=match b with
 | true=>Jdl h r a i
 | false=>h.IsRevIter r a i
theorem Je7{P:Qm}{w:Qp}{K:Qo}{tg:QV}(b:Bool)(a r:Qd)(n:Nat)(hn:n<=Qk):Turn P w K tg (Itv K b a n) [r] r (fun i h=>Jr6 b r a ((n:Int)-1-(i:Int)) h) where
 mem:=by simp
 obj:=fun i h st c hc=>by
  have e:c=r:=by simpa using hc
  subst e
  cases b with
  | true=>exact⟨_,st,fun v z=>nomatch (show Data.fields _=Data.cell v from z)⟩
  | false=>obtain⟨o,e,_,d⟩:=st;simp_all
 keep:=fun i h h' st k=>by
  cases b with
  | true=>solve_by_elim
  | false=>exact Heap.IsRevIter.at st fun o e=>k r (by simp) o e
 item:=by
  intro X hP hw hK hc i pins s σ H E I hf st hg;subst hP hw hK;obtain⟨hi,xs,hq,hlen⟩:=hg;obtain⟨f0,f1,f2,f3,f4,f5⟩:=hf r (by simp);obtain⟨its,rv,p⟩:=hq.heap I;obtain⟨x,hx⟩:∃x,xs[n-1-i]?=some x:=⟨xs[n-1-i]'(by omega),by simp⟩
  obtain⟨u,hu,ru⟩:=rv.get hx;have e:(n:Int)-1-(i:Int)=((n-1-i:Nat):Int):=by grind
  have e2:((n-1-i:Nat):Int)-1=(n:Int)-1-((i+1:Nat):Int):=by lia
  rw[e] at st;have hz:Qk<2 ^ 63:=by decide
  cases b with
  | true =>
   refine Jj5 (s:=s) st p (by lia) (x:=u) (by simpa using hu) fun h' tk st' sb=>?_
   replace sb:Qu r s.heap h':=sb;have I1:Inv X pins σ H { s with heap:=h',toks:=tk }:=I.turned (fun b o hb e=>(sb.2 b hb).trans e) f0 f1 f3 f4 f5;rw[e2] at st';exact⟨u,rfl,ZH (s:={ s with heap:=h',toks:=tk }) st' rfl rfl (by decide) ⟨x,H,I1,ru,⟨rfl,fun ys hy=>by rw[Sq.inj I hy hq];exact hx⟩,st',fun b hb=>(hf b hb).1⟩⟩
  | false =>
   refine wpAny_pyNext_rev_item (s:=s) st p (x:=u) (by simpa using hu) fun h' st' sb=>?_
   have I1:Inv X pins σ H { s with heap:=h' }:=I.turned (t':=s.toks) (fun b o hb e=>(sb.2 b hb).trans e) f0 f1 f3 f4 f5;rw[e2] at st';obtain⟨o,eo,co,d⟩:=id st';exact⟨u,rfl,ZH (s:={ s with heap:=h' }) eo co d (by decide) ⟨x,H,I1,ru,⟨rfl,fun ys hy=>by rw[Sq.inj I hy hq];exact hx⟩,st',fun b hb=>(hf b hb).1⟩⟩
 done:=by
  intro X hP hw hK hc i pins s σ H E I hf st hg;subst hP hw hK;obtain⟨f0,f1,f2,f3,f4,f5⟩:=hf r (by simp)
  replace hg:i=n:=hg;have e:(n:Int)-1-(i:Int)=-1:=by simp +arith [*]
  rw[e] at st
  cases b with
  | true=>exact Jmj (s:=s) (a:=a) (I.ok.hd hc) st fun h' eb=>⟨rfl,I.turned (t':=s.toks) (fun b o hb e=>eb b o hb e) f0 f1 f3 f4 f5⟩
  | false=>exact wpAny_pyNext_rev_end (s:=s) (I.ok.hd hc) st fun h' eb=>⟨rfl,I.turned (t':=s.toks) (fun b o hb e=>eb b o hb e) f0 f1 f3 f4 f5⟩
 self:=fun _ i s _ _ st h=>by
  cases b with
  | true=>exact JeB (s:=s) st h
  | false=>exact wpAny_pyIter_revIter (s:=s) st h
noncomputable def iRv(K:Qo)(ta:TA):TI:=fun σ H R=>ta σ H fun vs H1=>∃(b:Bool) (a:Qd) (xs:List V),vs=[.ref a]/\Sq b K H1 a xs/\R (Itv K b a xs.length) H1
theorem Jkm{X:Cx}{K:Qo}{tg:QV}{a:QV}{ta:TA}{p pos:Pos}(hK:X.K=K)(hg:Gl X "reversed")(hm:X.mg "reversed"=none)(ha:PA X [a] ta)(hs:starEach [a] X.env=[(false,eval a X.env)]:=by rfl)
:PI X tg (.Call (.Name "reversed" p) [a] [] pos) (iRv K ta):=by
 subst hK;intro pins s σ H R I h;refine Call_ (YY I hg hm Jca (Q8 (thA (ha pos pins s σ H _ I h) fun us s1 vs H1 I1 r1 q1=>?_) (by rw[hs];rfl) (by rfl)));obtain⟨b,a,xs,e,c1,q⟩:=q1;subst e
 cases r1 with
 | cons r rr =>
 cases rr;cases r
 have fresh:∀c∈[s1.heap.objs.size],FpOk X pins H1 c:=fun c hc=>by
  have e:c=s1.heap.objs.size:=by simpa using hc
  subst e;exact I1.fpOk (Qn _) (I1.hok.fresh (Qn _))
 have hz:Qk<2 ^ 63:=by decide
 cases b with
 | true =>
  obtain⟨its,rv,p1,sz⟩:=I1.tuple c1;have hl:=rv.length;refine Ji7 (s:=s1) (xs:=its.toArray) p1 (by grind) fun h' tk t1 kp=>JeB (s:={ s1 with heap:=h',toks:=tk }) t1 ?_
  refine⟨_,[s1.heap.objs.size],_,_,H1,rfl,I1.kept (t':=tk) kp,Je7 true a _ xs.length sz,?_,fresh,q⟩;show Jdl h' s1.heap.objs.size a _;have e:(its.toArray.size:Int)-1=(xs.length:Int)-1-((0:Nat):Int):=by rw[QW,<- hl];simp
  rw[<- e];exact t1
 | false =>
  obtain⟨its,rv,p1,sz⟩:=I1.list c1;have hl:=rv.length;refine call_reversed_list (s:=s1) p1.isList (wpAny_pyIter_revIter (l:=a) (i:=((its.toArray.size:Int)-1)) ⟨_,Qh _ rfl,rfl,rfl⟩ ?_);refine⟨_,[s1.heap.objs.size],_,_,H1,rfl,I1.kept (t':=s1.toks) fun b o e=>Qg _ e,Je7 false a _ xs.length sz,?_,fresh,q⟩;refine⟨_,Qh _ rfl,rfl,?_⟩;have e:(its.toArray.size:Int)-1=(xs.length:Int)-1-((0:Nat):Int):=by simp_all
  rw[e];rfl
end L2
namespace LE
open PySem L2 LR
noncomputable def JmP(m:Bool)(as:En->Option (List Sl)):En->Option (List D):=fun E=>(as E).bind (on1 fun s=>(s.it m).map List.reverse)
section
variable{K:Qo}{C:Qd}{m:Bool}
theorem Joy{t:TA}{ev:En->Option (List Sl)}(ha:SA K C t ev):SI K C m (iRv K t) (JmP m ev):=by
 intro B H0 H σ E ds R I e q;obtain⟨ss,e1,e⟩:=bind_some e
 replace e:=Yd e;obtain⟨s,rfl,e⟩:=e;obtain⟨ds1,e2,e⟩:=QT.mp e;subst e;refine ha B H0 H σ E _ _ I e1 fun vs H1 H1' s1 r1=>?_
 obtain⟨v,rfl,ra⟩:=r1.one;have f:=JF (Hs:=H) s1.i;obtain⟨b1,a1,xs,rfl,k1,w1⟩:=JfD ra s1.i e2;have hA:m=true->(if m=true then H1' else B)=H1':=fun h=>if_pos h
 have sA:Same (if m=true then H1' else B) H1':=by
  split
  ·exact Same.refl _
  ·exact I.b.trans s1.h
 have st0:SStep (if m=true then H1' else B) (JK H H1 H1') (JK H H1 H1') H1':=⟨sA,Same.refl _,fun _ _ e=>.inl e,f.i⟩
 refine⟨b1,a1,xs,rfl,k1 _ hA _ _ st0,q _ _ _ (s1.comp f fun _ z=>z) ?_⟩;intro H0' H' st;have q1:=k1 _ hA _ _ st;refine⟨fun i d e=>?_,by rw[Le,w1.1];rfl⟩;have hi:i<ds1.length:=by have:=(Qi.mp e).1;rwa [Le] at this
 rw[Lz hi,<- w1.1] at e;obtain⟨x,x1,x2⟩:=w1.get e;refine⟨⟨by rw[w1.1];exact hi,xs,q1,rfl⟩,?_⟩;rintro z H2 ⟨rfl,hv⟩;have h1:=hv xs q1;rw[x1] at h1;cases h1;exact⟨H0',.refl st.i,x2.mono st.z⟩
end
end LE

namespace PySem
open AutoSeq1 (wpAny_loadPart')
abbrev enO(it:Qd):Obj:={ cls:=.type "enumerate",data:=.fields #[.none,.bool false,.ref it,rawInt 0,.none,.none] }
theorem JfW(b:Bool)(a:Qd)(xs:Array Qc):Meets (Builtin.«enumerate.__new__» ⟨[.type "enumerate",.ref a],[]⟩) (fun _ R s=>IsSq b s.heap a xs ∧
 R (.ok (.ret (.ref (s.heap.push (itO b a)).objs.size))) { s with heap:=(s.heap.push (itO b a)).push (enO s.heap.objs.size) }) :=
 .of_wp fun prog w A R s h=>by
  obtain⟨hp,g,d,tk,os⟩:=s;obtain⟨q,h⟩:=h;have hsub:=sub_enumerate;have r:IsSq b (Rz ⟨hp,g,d,tk,os⟩) a xs:=q
  obtain⟨o,hl⟩:∃o,hp.get? a=some o:=by
   cases b with
   | true|false=>obtain⟨o,e,_⟩:=q;exact⟨o,e⟩
  wp_walk using KO hl
  refine wpAny_stack_any fun st=>Qf ?_
  split
  ·rename_i c _ _ _ _ _;cases (c == Value.type "enumerate")
   ·wp_walk using KO hl,UN r
    exact⟨_,rfl,h⟩
   ·wp_walk using KO hl,UN r
    exact⟨_,rfl,h⟩
  ·wp_walk using KO hl,UN r
   exact⟨_,rfl,h⟩
section
variable{prog:Qm}{w:Qp}{A:Qx}{E:Qc->Qe->Prop}{s:Qe}{b:Bool}{a e it:Qd}{xs:Array Qc}
theorem JgP{Q:Qc->Qe->Prop}(q:IsSq b s.heap a xs)
 (h:∀h',IsEnum h' (s.heap.objs.size+1) s.heap.objs.size 0 .none->IsItr b h' s.heap.objs.size a 0->(∀c o,s.heap.get? c=some o->h'.get? c=some o)->Q (.ref (s.heap.objs.size+1)) { s with heap:=h' }) :
 wpAny (model prog w) A (call (.type "enumerate") [.ref a]) Q E s:=by
 refine callType_new F.called_enumerate (by decide) (F.typeCall_enumerate_1 _) (F.newCall_enumerate_1 _) (fun obj=>F.args_object_init_2 obj _) F.entry_enumerate_new (JfW b a xs) ⟨q,?_⟩;have hz:(s.heap.push (itO b a)).objs.size=s.heap.objs.size+1:=Ge ..;have fi:(itO b a).isFreed=false:=by cases b <;> rfl
 have g2:((s.heap.push (itO b a)).push (enO s.heap.objs.size)).get? (s.heap.push (itO b a)).objs.size=some _:=Qh _ rfl
 have g1:((s.heap.push (itO b a)).push (enO s.heap.objs.size)).get? s.heap.objs.size=some _:=Qg _ (Qh _ fi)
 show _/\_;rw[hz] at g2;rw[hz];exact⟨⟨_,g2,rfl⟩,h _ g2 (.new g1) fun c o x=>Qg _ (Qg _ x)⟩
theorem JgZ{p:List Qd}{n i:Nat}{P:Nat->Qc->Prop}{S:Nat->QC->Prop}{old:Qc}{Q:Qc->Qe->Prop}(D:Draws prog w A it p n P S)(he:IsEnum s.heap e it i old)(st:S i s.heap)(hi:i<n)(hne:e∉p)(him:it∈p)
 (hQ:∀x h' tk t,P i x->IsEnumOut h' e it ((i:Int)+1) x s.heap.objs.size->S (i+1) h'->h'.get? s.heap.objs.size=some { cls:=.type "tuple",data:=.seq #[.int i t,x] }->h'.objs.size=s.heap.objs.size+1 ->
  (∀c o,c≠e->c≠it->s.heap.get? c=some o->h'.get? c=some o)->Q (.ref s.heap.objs.size) { s with heap:=h',toks:=tk }) :
 wpAny (model prog w) A (Builtin.«enumerate.__next__» ⟨[.ref e],[]⟩) (fun fin s'=>∃v,fin=.done (.ret v)/\Q v s') E s:=by
 obtain⟨hp,g,d,tk,os⟩:=s;have ne:e≠it:=fun q=>hne (q▸him)
 show wpAny _ _ (field (.ref e) 2 >>= _) _ _ _;refine Qa (QM he rfl (x:=.ref it) rfl (Qa (D.item i _ _ _ hi st fun x k1 t1 px s1 e1=>?_)))
 replace e1:Qu it hp k1:=e1;have E1:IsEnum k1 e it i old:=(e1.2 e ne).trans he;refine Qa (QM (s:=⟨k1,g,d,t1,os⟩) E1 rfl (x:=rawInt i) rfl ?_);show wpAny _ _ (field (.ref e) 4 >>= _) _ _ ⟨k1,g,d,t1,os⟩;refine Qa (QM (s:=⟨k1,g,d,t1,os⟩) E1 rfl (x:=.none) rfl ?_);show wpAny _ _ (mkInt i >>= _) _ _ ⟨k1,g,d,t1,os⟩;refine Qa (wpAny_mkInt ?_);show wpAny _ _ (setField (.ref e) 3 (rawInt ((i:Int)+1)) >>= _) _ _ ⟨k1,g,d,t1+1,os⟩
 refine Qa (Q4 E1 (by simp) fun k2 E2 e2=>?_)
 replace e2:Qu e k1 k2:=e2
 replace E2:IsEnum k2 e it ((i:Int)+1) old:=E2;show wpAny _ _ (setField (.ref e) 4 .none >>= _) _ _ ⟨k2,g,d,t1+1,os⟩;refine Qa (Q4 E2 (by simp) fun k3 E3 e3=>?_)
 replace e3:Qu e k2 k3:=e3
 replace E3:IsEnum k3 e it ((i:Int)+1) old:=E3;show wpAny _ _ (newTuple [.int i t1,x] >>= _) _ _ ⟨k3,g,d,t1+1,os⟩;refine Qa (Mc ?_);have hsz:k3.objs.size=hp.objs.size:=by rw[e3.1,e2.1,e1.1]
 have elt:e<hp.objs.size:=Qj he
 have E4:IsEnum (k3.push { cls:=.type "tuple",data:=.seq #[.int i t1,x] }) e it ((i:Int)+1) old:=Qg _ E3
 have T4:(k3.push { cls:=.type "tuple",data:=.seq #[.int i t1,x] }).get? hp.objs.size=some { cls:=.type "tuple",data:=.seq #[.int i t1,x] }:=by rw[<- hsz];exact Qh _ rfl
 have z4:(k3.push { cls:=.type "tuple",data:=.seq #[.int i t1,x] }).objs.size=hp.objs.size+1:=by simp_all
 have kp:∀c o,c≠e->k1.get? c=some o->(k3.push { cls:=.type "tuple",data:=.seq #[.int i t1,x] }).get? c=some o:=fun c o c1 q=>Qg _ (e3.extBut c o c1 (e2.extBut c o c1 q))
 show wpAny _ _ (QK (.ref e) >>= _) _ _ ⟨k3.push { cls:=.type "tuple",data:=.seq #[.int i t1,x] },g,d,t1+1,os⟩;rw[hsz]
 generalize k3.push { cls:=.type "tuple",data:=.seq #[.int i t1,x] }=k4 at E4 T4 z4 kp ⊢
 refine Qa ?_;unfold QK;refine Qa (QM (s:=⟨k4,g,d,t1+1,os⟩) E4 rfl (x:=.none) rfl (Qf ?_));simp only[if_true];refine Qa (Kb (Qa (QM (s:=⟨k4,g,d,t1+1,os⟩) E4 rfl (x:=old) rfl (Qa (Q4 E4 (by simp) fun k5 E5 e5=>?_)))))
 replace e5:Qu e k4 k5:=e5
 replace E5:IsEnum k5 e it ((i:Int)+1) x:=E5;show wpAny _ _ (GU (.ref e) (.ref hp.objs.size) >>= _) _ _ ⟨k5,g,d,t1+1,os⟩;refine Qa ?_;unfold GU;refine Qa (Q4 E5 (by simp) fun k6 E6 e6=>?_)
 replace e6:Qu e k5 k6:=e6
 replace E6:IsEnumOut k6 e it ((i:Int)+1) x hp.objs.size:=E6;refine Q4 E6 (by simp) fun k7 E7 e7=>?_
 replace e7:Qu e k6 k7:=e7
 replace E7:IsEnumOut k7 e it ((i:Int)+1) x hp.objs.size:=E7;have up:∀c o,c≠e->k4.get? c=some o->k7.get? c=some o:=fun c o c1 q=>e7.extBut c o c1 (e6.extBut c o c1 (e5.extBut c o c1 q))
 refine Qa (KG (Qf ⟨_,rfl,hQ x k7 (t1+1) t1 px E7 ?_ (up _ _ (Q1 elt) T4) (by rw[e7.1,e6.1,e5.1,z4]) fun c o c1 c2 q=>up c o c1 (kp c o c1 (e1.extBut c o c2 q))⟩));exact D.frame _ _ _ s1 fun c hc o q=>up c o (fun z=>hne (z▸hc)) (kp c o (fun z=>hne (z▸hc)) q)
theorem Jja{p:List Qd}{n:Nat}{P:Nat->Qc->Prop}{S:Nat->QC->Prop}{old:Qc}{Q:Fin->Qe->Prop}(D:Draws prog w A it p n P S)(he:IsEnum s.heap e it n old)(st:S n s.heap)
 (hE:∀h' x tk,Ki it s.heap h'->(∃o,h'.get? x=some o/\o.cls=.type "StopIteration")->E (.ref x) { s with heap:=h',toks:=tk }) :
 wpAny (model prog w) A (Builtin.«enumerate.__next__» ⟨[.ref e],[]⟩) Q E s:=by
 show wpAny _ _ (field (.ref e) 2 >>= _) _ _ _;refine Qa (QM he rfl (x:=.ref it) rfl (Qa (D.done _ _ _ st fun k1 x e1 hx=>?_)));exact hE k1 x s.toks e1 hx
end
end PySem
namespace L2
open PySem PySem.Spec PyProof.Rows
noncomputable def Ite(K:Qo)(b:Bool)(a:Qd):It :=
 ⟨fun i H=>∃xs x,Sq b K H a xs/\xs[i]?=some x,
  fun i H x H'=>∃p v,x=.ref p/\H p=none/\H'=upd H p (.tup [.int i,v])/\∀xs,Sq b K H a xs->xs[i]?=some v,
  fun i H=>∃xs,Sq b K H a xs/\i=xs.length⟩
theorem Jlj{P:Qm}{w:Qp}{K:Qo}{elts:List QV}{kk:Nat}{pos:Pos}(b:Bool)(a e it:Qd)(ne:e≠it) :
 Turn P w K (.Tuple elts kk pos) (Ite K b a) [e,it] e (fun i h=>(∃old,IsEnum h e it i old)/\IsItr b h it a i) where
 mem:=by simp
 obj:=fun i h st c hc=>by grind[IsItr.obj]
 keep:=fun i h h' st k=>by obtain⟨⟨old,s1⟩,s2⟩:=st;exact⟨⟨old,k e (by simp) _ s1⟩,IsItr.keep (b:=b) s2 fun o q=>k it (by simp) o q⟩
 item:=by
  intro X hP hw hK hc i pins s σ H E I hf st hg;subst hP hw hK;obtain⟨xs,x,q1,e1⟩:=hg;obtain⟨its,r1,p1⟩:=q1.heap I;obtain⟨⟨old,s1⟩,s2⟩:=st;have hh:X.A.in1.handled=none:=I.ok.hd hc;have ne1:a≠it:=FpOk.off I q1 (hf it (by simp));have ne2:a≠e:=FpOk.off I q1 (hf e (by simp));have D1:=Draws.sq (prog:=X.prog) (w:=X.w) (b:=b) (xs:=its.toArray) hh it ne1;have hT:s.TypeIs (.ref e) "enumerate":=⟨_,s1,rfl⟩
  have l1:i<its.toArray.size:=by have:=(Qi.mp e1).1;rw[QW,<- r1.length];exact this
  unfold pyNext;refine Qa (Gy (QF (name:=Ga "__next__") hT KU (QH KU hT F.entry_enumerate_next
   (JgZ D1 s1 ⟨s2,p1⟩ l1 (by simp[ne,QL ne2]) (by simp) fun u k tk t pu t1 t2 t3 t4 t5=>Qf ?_) (MF _))))
  refine⟨_,rfl,wpAny_letOwnedTupleGo_enum (s:={ s with heap:=k,toks:=tk }) t1 fun k2 t9 e9=>?_⟩
  replace e9:Qu e k k2:=e9;obtain⟨ux,hx1,rx⟩:=r1.get e1
  have eu:u=ux:=by simp_all
  subst eu
  have elt:∀c∈[e,it],c<s.heap.objs.size:=fun c hc=>by
   simp only[Qr,Gj,or_false] at hc;rcases hc with rfl|rfl
   ·exact Qj s1
   ·obtain⟨_,q,_⟩:=IsItr.obj (b:=b) s2;exact Qj q
  have ri:RelV (.int i) (.int i t):=⟨t,rfl⟩
  have I1:Inv X pins σ (upd H s.heap.objs.size (.tup [.int i,x])) { s with heap:=s.heap.push { cls:=.type "tuple",data:=.seq #[.int i t,u] },toks:=s.toks } :=
   I.laid (o:=.tup [.int i,x]) (fun c ob q=>Qg _ q) (Qn _) ⟨by show 2<=Qk;decide,[.int i t,u],.cons ri (.cons rx .nil),⟨_,Qh _ rfl,rfl,_,rfl⟩⟩
  have hf1:∀c∈[e,it],FpOk X pins (upd H s.heap.objs.size (.tup [.int i,x])) c:=fun c hc=>⟨by rw[Jf (Qw (elt c hc))];exact(hf c hc).1,(hf c hc).2⟩
  have I2:Inv X pins σ (upd H s.heap.objs.size (.tup [.int i,x])) { s with heap:=k2,toks:=tk }:=Inv.turnedL (s:={ s with heap:=s.heap.push { cls:=.type "tuple",data:=.seq #[.int i t,u] },toks:=s.toks }) I1 (fun c o hc q=>by
   simp only[Qr,Gj,or_false,not_or] at hc;refine e9.extBut c o hc.1 ?_
   by_cases hcs:c=s.heap.objs.size
   ·subst hcs;have q':(s.heap.push { cls:=.type "tuple",data:=.seq #[.int i t,u] }).get? s.heap.objs.size=some o:=q;rw[Qh _ rfl] at q'
    simp_all
   grind[Ml]) hf1
  refine⟨.ref s.heap.objs.size,_,I2,rfl,⟨_,x,rfl,I.hok.fresh (Qn _),rfl,fun xs' h1=>?_⟩,⟨⟨u,?_⟩,?_⟩,fun c hc=>(hf1 c hc).1⟩
  ·rw[Sq.inj I h1 q1];exact e1
  ·assumption
  ·exact IsItr.keep (b:=b) t2.1 fun o q=>e9.extBut _ _ (QL ne) q
 done:=by
  intro X hP hw hK hc i pins s σ H E I hf st hg;subst hP hw hK;obtain⟨xs,q1,ei⟩:=hg;obtain⟨its,r1,p1⟩:=q1.heap I;obtain⟨⟨old,s1⟩,s2⟩:=st;have hh:X.A.in1.handled=none:=I.ok.hd hc;have D1:=Draws.sq (prog:=X.prog) (w:=X.w) (b:=b) (xs:=its.toArray) hh it (FpOk.off I q1 (hf it (by simp)));have hT:s.TypeIs (.ref e) "enumerate":=⟨_,s1,rfl⟩
  have n1:i=its.toArray.size:=by rw[QW,<- r1.length];exact ei
  subst n1;unfold pyNext;refine Qa (Gy (QF (name:=Ga "__next__") hT KU (QH KU hT F.entry_enumerate_next (Jja D1 s1 ⟨s2,p1⟩ fun k x tk kk he=>?_) (MF _))));obtain⟨o,ho,hoc⟩:=he;refine Qa (Gu (T:="StopIteration") (b:=true) ⟨o,ho,hoc⟩ KB (Qf ⟨rfl,?_⟩));exact I.turnedL (fun c o hc q=>by simp only[Qr,Gj,or_false,not_or] at hc;exact kk c o hc.2 q) hf
 self:=fun _ _ _ _ _ st h=>by obtain⟨⟨old,s1⟩,_⟩:=st;exact wpAny_pyIter_enum s1 h
noncomputable def iEn(K:Qo)(ta:TA):TI:=fun σ H R=>ta σ H fun vs H1=>∃(b:Bool) (a:Qd) (xs:List V),vs=[.ref a]/\Sq b K H1 a xs/\R (Ite K b a) H1
theorem Wv{X:Cx}{K:Qo}{elts:List QV}{kk:Nat}{tpos:Pos}{a:QV}{ta:TA}{p pos:Pos}(hK:X.K=K)(hg:Gl X "enumerate")(hm:X.mg "enumerate"=none)(ha:PA X [a] ta)(hs:starEach [a] X.env=[(false,eval a X.env)]:=by rfl)
:PI X (.Tuple elts kk tpos) (.Call (.Name "enumerate" p) [a] [] pos) (iEn K ta):=by
 subst hK;intro pins s σ H R I h;refine Call_ (YY I hg hm Jbh (Q8 (thA (ha pos pins s σ H _ I h) fun us s1 vs H1 I1 r1 q1=>?_) (by rw[hs];rfl) (by rfl)));obtain⟨b,a,xs,e,c1,q⟩:=q1;subst e
 cases r1 with
 | cons r rr =>
 cases rr;cases r;obtain⟨its,w1,p1⟩:=c1.heap I1;refine JgP p1 fun h' t1 t2 kp=>wpAny_pyIter_enum t1 ?_
 refine⟨_,[s1.heap.objs.size+1,s1.heap.objs.size],_,_,H1,rfl,I1.kept (t':=s1.toks) kp,Jlj b a _ _ (by simp),⟨⟨_,t1⟩,t2⟩,fun c hc=>?_,q⟩
 have hle:s1.heap.objs.size<=c:=by grind
 exact I1.fpOk hle (I1.hok.fresh hle)
end L2
namespace LE
open PySem L2 LR
noncomputable def Jg1(ds:List D):List D:=ds.mapIdx fun i d=>.tup [.int i,d]
noncomputable def JaW(m:Bool)(as:En->Option (List Sl)):En->Option (List D):=fun E=>(as E).bind (on1 fun s=>(s.it m).map Jg1)
section
variable{K:Qo}{C:Qd}{m:Bool}
theorem JkV{t:TA}{ev:En->Option (List Sl)}(ha:SA K C t ev):SI K C m (iEn K t) (JaW m ev):=by
 intro B H0 H σ E ds R I e q;obtain⟨ss,e1,e⟩:=bind_some e
 replace e:=Yd e;obtain⟨s,rfl,e⟩:=e;obtain⟨ds1,e2,e⟩:=QT.mp e;subst e;refine ha B H0 H σ E _ _ I e1 fun vs H1 H1' s1 r1=>?_
 obtain⟨v,rfl,ra⟩:=r1.one;have f:=JF (Hs:=H) s1.i;obtain⟨b1,a1,xs,rfl,k1,w1⟩:=JfD ra s1.i e2;have hA:m=true->(if m=true then H1' else B)=H1':=fun h=>if_pos h
 have sA:Same (if m=true then H1' else B) H1':=by
  split
  ·exact Same.refl _
  ·exact I.b.trans s1.h
 have st0:SStep (if m=true then H1' else B) (JK H H1 H1') (JK H H1 H1') H1':=⟨sA,Same.refl _,fun _ _ e=>.inl e,f.i⟩
 refine⟨b1,a1,xs,rfl,k1 _ hA _ _ st0,q _ _ _ (s1.comp f fun _ z=>z) ?_⟩;intro H0' H' st;have q1:=k1 _ hA _ _ st;refine⟨fun i d e=>?_,⟨xs,q1,by unfold Jg1;rw[List.length_mapIdx,w1.1]⟩⟩;unfold Jg1 at e;rw[List.getElem?_mapIdx] at e;obtain⟨d1,g1,e⟩:=QT.mp e;subst e;obtain⟨x,x1,x2⟩:=w1.get g1;refine⟨⟨xs,x,q1,x1⟩,?_⟩;rintro z H2 ⟨p,v',rfl,hp,rfl,hv⟩;have h1:=hv xs q1;rw[x1] at h1;cases h1;have h0:H0' p=none:=Same.free st.i hp
 refine⟨upd H0' p (.tup [.int i,x]),⟨.new hp,.new h0,fun a o e=>?_,fun a o e=>?_⟩,?_⟩
 ·grind[Jf]
 ·by_cases h:a=p
  ·subst h;rw[Jl] at e ⊢;exact e
  ·rw[Jf h] at e ⊢;exact st.i a o e
 ·exact .mkT (.of Jl) (.cons (.int _) (.cons (x2.mono (st.z.trans (.new h0))) .nil))
end
end LE

namespace L2
open PySem PySem.Spec PyProof.Rows
noncomputable def JdG(a:Int):List Int->List Int
 | []=>[a]
 | b::l=>if a<=b then a::b::l else b::JdG a l
noncomputable def UP(ns:List Int):List Int:=ns.foldr JdG []
theorem JaX(a:Int)(l:List Int):(JdG a l).Perm (a::l):=by
 induction l with
 | nil=>exact .refl _
 | cons b l ih =>
  rw[JdG];split
  ·exact .refl _
  ·exact(ih.cons b).trans (.swap _ _ _)
theorem JjI(a:Int)(l:List Int)(h:l.Pairwise (·<=·)):(JdG a l).Pairwise (·<=·):=by
 induction l with
 | nil=>simp[JdG]
 | cons b l ih =>
  obtain⟨h1,h2⟩:=Ko.mp h;rw[JdG];split
  ·refine Ko.mpr ⟨fun x hx=>?_,h⟩;rcases Qr.mp hx with z|z
   ·omega
   ·have:=h1 x z;omega
  ·refine Ko.mpr ⟨fun x hx=>?_,ih h2⟩;rcases Qr.mp ((JaX a l).mem_iff.mp hx) with z|z
   ·omega
   ·exact h1 x z
theorem U5(ns:List Int):(UP ns).Perm ns:=by
 induction ns with
 | nil=>exact .refl _
 | cons a l ih=>exact(JaX a _).trans (ih.cons a)
theorem Jc9(ns:List Int):(UP ns).Pairwise (·<=·):=by
 induction ns with
 | nil=>exact .nil
 | cons a l ih=>exact JjI a _ ih
theorem WZ:∀{xs ys:List Int},xs.Perm ys->xs.Pairwise (·<=·)->ys.Pairwise (·<=·)->xs=ys
 | [],ys,p,_,_=>by rw[List.Perm.nil_eq p]
 | x::xs,ys,p,h1,h2=>by
  cases ys with
  | nil=>simp_all
  | cons y ys =>
   obtain⟨a1,a2⟩:=Ko.mp h1;obtain⟨b1,b2⟩:=Ko.mp h2
   have e:x=y:=by grind[QD]
   subst e;rw[WZ (List.Perm.cons_inv p) a2 b2]
noncomputable def JbT(K:Qo):List V->Hp->VK->Prop:=fun xs H Q=>∃(a:Qd) (ns:List Int),xs=[.ref a]/\SqL K H a (ns.map V.int)/\ns.length<64/\∀l,H l=none->Q (.ref l) (upd H l (.lst ((UP ns).map V.int)))
theorem Y9:∀{ns:List Int} {us:List Qc},IntsAre us ns->Vals (ns.map V.int) us:=by
 intro ns us h
 induction h with
 | nil=>exact .nil
 | cons _ _ _ ih=>solve_by_elim
section
variable{X:Cx}
theorem Jbj:CallR X (.builtin "sorted") (JbT X.K):=by
 intro pins s σ H xs us Q I r h;obtain⟨p,ns,rfl,hq,hl,q⟩:=h;obtain⟨u,rfl,rx⟩:=U9 r;cases rx;obtain⟨its,r',pl,hz⟩:=I.list hq;have hlen:=r'.length;rw[QB] at hlen hz;refine sorted_ints pl.isList (Yp r') (by simp_all) fun out ns' a1 a2 a3=>?_
 have es:ns'=UP ns:=WZ (a2.trans (U5 ns).symm) a3 (Jc9 ns);subst es;obtain⟨e,he⟩:=sortedAll_at s.heap its out
 have hn:((UP ns).map V.int).length<=Qk:=by rw[QB,(U5 ns).length_eq];exact hz
 have hne:H (s.heap.objs.size+1)=none:=I.hok.fresh (LL _);refine⟨.ref (s.heap.objs.size+1),_,I.laid (t':=s.toks) (fun b o x=>sortedAll_old x) (LL _) (show ObjOk X.prog X.w _ _ _ (.lst ((UP ns).map V.int)) from⟨hn,out.toList,e,Y9 a1,?_⟩),rfl,q _ hne⟩;rw[he]
end
theorem Wd{X:Cx}{K:Qo}(hK:X.K=K)(hc:X.calm=true):CallR X (.builtin "sorted") (JbT K):=hK▸Jbj
end L2
namespace LE
open PySem L2 LR
noncomputable def Wg(as:List Sl):Option Sl:=on1 (fun s=>s.r.bind fun ds=>(ints? ds).bind fun ns=>if ns.length<64 then some (.own ((UP ns).map .int)) else none) as
section
variable{K:Qo}{C:Qd}
theorem JcY{H:Hp}(ns:List Int):RDL K C H (ns.map V.int) (ns.map D.int):=by refine⟨by simp,fun i x d h1 h2=>?_⟩;rw[Qy] at h1 h2;obtain⟨n,e,rfl⟩:=QT.mp h1;rw[e] at h2;cases h2;exact .int n
theorem JgN:Vc K C (JbT K) Wg:=by
 intro Hs H0 H xs as c Q i hs r e q
 replace e:=Yd e;obtain⟨s,rfl,e⟩:=e;obtain⟨v,rfl,r0⟩:=r.one;obtain⟨ds,e1,e⟩:=bind_some e;obtain⟨ns,e2,e⟩:=bind_some e;split at e
 ·next hn=>cases e;obtain⟨l,ys,rfl,h,r1⟩:=r0.r i e1;rw[YK e2] at r1;have:=r1.ints;subst this;exact⟨l,ns,rfl,h,hn,fun p hp=>YN i hs hp (JcY _) q⟩
 ·cases e
end
end LE

namespace PySem
namespace F
end F
section
variable{prog:Qm}{w:Qp}{A:Qx}{E:Qc->Qe->Prop}{s:Qe}{l:Qd}{lo hi:Int}{t u v:Tok}
end
end PySem
namespace L2
open PySem PySem.Spec PyProof.Rows
end L2
namespace LE
open PySem L2 LR
section
variable{K:Qo}{C:Qd}{m:Bool}
end
end LE

namespace PySem
namespace F
end F
structure ZB (z TI TO i1 i2 i3:Qd) (p1 p2 p3:List Qd):Prop where
 a1:TI≠z
 a2:TO≠z
 a3:TI≠TO
 m1:i1∈p1
 m2:i2∈p2
 m3:i3∈p3
 z1:z∉p1
 z2:z∉p2
 z3:z∉p3
 t1:TI∉p1
 t2:TI∉p2
 t3:TI∉p3
 o1:TO∉p1
 o2:TO∉p2
 o3:TO∉p3
 x12:i1∉p2
 x13:i1∉p3
 x21:i2∉p1
 x23:i2∉p3
 x31:i3∉p1
 x32:i3∉p2
section
variable{prog:Qm}{w:Qp}{A:Qx}{E:Qc->Qe->Prop}{s:Qe}{z TI TO i1 i2 i3:Qd}{p1 p2 p3:List Qd}{n1 n2 n3 k:Nat}{P1 P2 P3:Nat->Qc->Prop}{S1 S2 S3:Nat->QC->Prop}
end
end PySem

namespace PySem
section
variable{prog:Qm}{w:Qp}{A:Qx}{E:Qc->Qe->Prop}{s:Qe}{b1 b2 b3:Bool}{a1 a2 a3:Qd}{xs ys zs:Array Qc}
end
end PySem
namespace L2
open PySem PySem.Spec PyProof.Rows
end L2
namespace LE
open PySem L2 LR
section
variable{K:Qo}{C:Qd}{m:Bool}
end
end LE

namespace L2
open PySem PySem.Spec PyProof.Rows
noncomputable def Jbf(X:Cx)(f:Qc)(nm:Str)(z:V)(r:List V->Hp->VK->Prop):Prop :=
 ∀(pins:List (Qd×Obj)) (s:Qe) (σ:St) (H:Hp) (xs:List V) (us:List Qc) (w:Qc) (Q:VK),Inv X pins σ H s->Vals xs us->RelV z w->r xs H Q->wpAny (model X.prog X.w) X.A (call f us [(nm,w)]) (EP X pins σ Q) X.xe s
theorem Jf8{X:Cx}{id:String}{nm x:Str}{z:V}{r:List V->Hp->VK->Prop}{e ek:QV}{es:List QV}{t:TA}{p pos kpos:Pos}(hc:Jbf X (.builtin id) nm z r)(hg:Gl X x)(hm:X.mg x=none)(hv:bootBuiltins x=some (.builtin id))(ha:PA X (e::es) t)(hk:PE X ek (tC z))
 (hn:x≠"__name__":=by decide) (hdb:(x == ("__debug__":Str))=false:=by decide)
 (he:backTo pos (starEach (e::es) X.env)=(false,eval e X.env)::backTo pos (starEach es X.env):=by rfl) (hpl:(backTo pos (starEach (e::es) X.env)).any (·.1)=false:=by rfl):PE X (.Call (.Name x p) (e::es) [⟨some nm,ek,kpos⟩] pos) (tCB r t):=by
 intro pins s σ H Q I h;refine Km (YY I hg hm hv ?_ hn hdb);refine callWith_kw (thA (ha pos pins s σ H _ I h) fun us s1 vs H1 I1 r1 q1=>?_) he hpl rfl rfl;refine kws_cons (thE (hk pins s1 σ H1 (fun v H2=>v=z/\r vs H2 Q) I1 ⟨rfl,q1⟩) fun w s2 v H2 I2 rz zz=>kws_nil ?_);obtain⟨e2,q2⟩:=zz;subst e2;exact hc pins s2 σ H2 vs us w Q I2 r1 rz q2
section
variable{X:Cx}
end
end L2
namespace LE
open PySem L2 LR
section
variable{K:Qo}{C:Qd}
end
end LE

namespace PySem

theorem Jcx(a v:Qc):argsOk "min" ⟨[a],[(Ga "default",v)]⟩:=by rfl
section
variable{prog:Qm}{w:Qp}{A:Qx}{R:L9->Qe->Prop}{I:Qd}{fp wr:List Qd}{n:Nat}{P:Nat->Qc->Prop}{St:Nat->QC->Prop}
theorem JfX(W:Walks prog w A.in1 I fp wr n P St)(bt:Nat->Nat->Bool)(cm:CmpOf prog w A.in1 .Lt P bt)(S:Qd)(nS:S∉fp)(d:Qc) :
 ∀(k j:Nat) (s:Qe) (c:Nat) (arr:Array Qc),n-j=k->j<=n->St j s.heap->((j=0/\arr=#[])\/∃vb,0<j/\arr=#[vb,vb]/\P (argBest bt (j-1)) vb) ->
 s.heap.get? S=some { cls:=.type "list",dict:=none,data:=.seq arr c,slots:=#[] } ->
 (n=0->∀h' tk,(∀b o,b∉wr->b≠S->s.heap.get? b=some o->h'.get? b=some o)->R (.ok (.ret d)) { s with heap:=h',toks:=tk }) ->
 (0<n->∀v h' tk,P (argBest bt (n-1)) v->(∀b o,b∉wr->b≠S->s.heap.get? b=some o->h'.get? b=some o)->R (.ok (.ret v)) { s with heap:=h',toks:=tk }) ->
 codeAny (model prog w) A (.builtin "min.loop" ⟨[.ref I,.none,.ref S],[(Ga "default",d)]⟩) R s:=by
 have nW:S∉wr:=fun h=>nS (W.sub _ h)
 have nm:(toString "min"++toString ".loop":String)="min.loop":=by decide
 intro k
 induction k with
 | zero =>
  intro j s c arr hk hj st best hS h0 h1;have ej:j=n:=by grind
  subst ej;refine GZ F.entry_min_loop ?_;rw[GK KC _];rcases best with ⟨e0,rfl⟩|⟨vb,jp,rfl,pb⟩
  ·show wpAny _ A.in1 (seqItems? (.ref S) >>= _) _ _ s;refine Qa (Gf hS rfl (show wpAny _ A.in1 (tryCatch (pyNext (.ref I)) _ >>= _) _ _ s from Qa (Lu (W.done s _ _ st fun h' tk hk'=>?_))));exact Qa (Kb (Qf (h0 e0 h' tk fun b o b1 _ e=>hk' b o b1 e)))
  ·show wpAny _ A.in1 (seqItems? (.ref S) >>= _) _ _ s;refine Qa (Gf hS rfl (show wpAny _ A.in1 (tryCatch (pyNext (.ref I)) _ >>= _) _ _ s from Qa (Lu (W.done s _ _ st fun h' tk hk'=>?_))))
   have hS':=hk' S _ nW hS
   show wpAny _ A.in1 (updateSeq S (fun _=>#[]) >>= _) _ _ _;refine Qa (Ka hS' rfl (Qa (KG (Qf ?_))));exact h1 jp vb _ tk pb fun b o b1 b2 e=>(QE _ _ (QL b2)).trans (hk' b o b1 e)
 | succ k ih =>
  intro j s c arr hk hj st best hS h0 h1;have lt:j<n:=by grind
  refine GZ F.entry_min_loop ?_;rw[GK KC _];have nz:n=0->∀{s':Qe} h' tk,(∀b o,b∉wr->b≠S->s'.heap.get? b=some o->h'.get? b=some o)->R (.ok (.ret d)) { s' with heap:=h',toks:=tk }:=fun z=>absurd z (by simp_all)
  rcases best with ⟨e0,rfl⟩|⟨vb,jp,rfl,pb⟩
  ·subst e0;show wpAny _ A.in1 (seqItems? (.ref S) >>= _) _ _ s;refine Qa (Gf hS rfl (show wpAny _ A.in1 (tryCatch (pyNext (.ref I)) _ >>= _) _ _ s from Qa (Lu (W.item 0 s _ _ lt st fun v h' tk pv st' hk'=>?_))));have hS':=hk' S _ nW hS;show wpAny _ A.in1 (updateSeq S (fun _=>#[v,v]) >>= _) _ _ _;refine Qa (Ka hS' rfl ?_);rw[nm];refine Qf ⟨GY KC _,ih 1 _ _ _ (by simp_all) (by assumption) (W.frame _ _ _ st' fun b bf o e=>?_) (.inr ⟨v,by simp[*],rfl,pv⟩) (QP _ hS' rfl) (fun z=>nz z) fun np v' h2 t2 pv' k2=>?_⟩
   ·exact(QE _ _ (fun h:S=b=>nS (by rw[h];exact bf))).trans e
   ·exact h1 np v' h2 t2 pv' fun b o b1 b2 e=>k2 b o b1 b2 ((QE _ _ (QL b2)).trans (hk' b o b1 e))
  ·show wpAny _ A.in1 (seqItems? (.ref S) >>= _) _ _ s;refine Qa (Gf hS rfl (show wpAny _ A.in1 (tryCatch (pyNext (.ref I)) _ >>= _) _ _ s from Qa (Lu (W.item j s _ _ lt st fun v h' tk pv st' hk'=>?_))))
   have hS':=hk' S _ nW hS
   have ea:argBest bt j=if bt j (argBest bt (j-1))=true then j else argBest bt (j-1):=by
    obtain⟨i,rfl⟩:∃i,j=i+1:=⟨j-1,by lia⟩
    rfl
   show wpAny _ A.in1 (tryCatch (holding [v,v] (richCompare .Lt v vb >>= _)) _ >>= _) _ _ _;refine Qa (Lu (Gg (Qa (cm j (argBest bt (j-1)) v vb _ _ _ pv pb (Qa (Gg (Gw (Qa (KG (Qf ?_))))))))))
   cases hb:bt j (argBest bt (j-1)) with
   | true =>
    simp only[if_true];refine Qa (Ka hS' rfl (Qa (KG ?_)));rw[nm];refine Qf ⟨GY KC _,ih (j+1) _ _ _ (by grind) (by assumption) (W.frame _ _ _ st' fun b bf o e=>?_) (.inr ⟨v,by simp[*],rfl,?_⟩) (QP _ hS' rfl) (fun z=>nz z) fun np v' h2 t2 pv' k2=>?_⟩
    ·exact(QE _ _ (fun h:S=b=>nS (by rw[h];exact bf))).trans e
    ·simp_all
    ·exact h1 np v' h2 t2 pv' fun b o b1 b2 e=>k2 b o b1 b2 ((QE _ _ (QL b2)).trans (hk' b o b1 e))
   | false =>
    simp only[Gd,if_false];refine Qa (KG ?_);rw[nm];refine Qf ⟨GY KC _,ih (j+1) _ c _ (by grind) (by assumption) st' (.inr ⟨vb,by simp[*],rfl,?_⟩) hS' (fun z=>nz z) fun np v' h2 t2 pv' k2=>?_⟩
    ·simp_all
    ·exact h1 np v' h2 t2 pv' fun b o b1 b2 e=>k2 b o b1 b2 (hk' b o b1 e)
end
section
variable{prog:Qm}{w:Qp}{A:Qx}{E:Qc->Qe->Prop}{s:Qe}{l:Qd}{xs:Array (Int×Tok)}
theorem Jcy{d:Qc}{Q:Qc->Qe->Prop}(hh:A.handled=none)(hl:s.heap.IsList l (intItems xs))(h0:xs.size=0->∀h' tk,(∀b o,s.heap.get? b=some o->h'.get? b=some o)->Q d { s with heap:=h',toks:=tk })
 (h1:0<xs.size->∀v h' tk,(intItems xs)[argBest (fun i j=>decide (numAt xs i<numAt xs j)) (xs.size-1)]?=some v->(∀b o,s.heap.get? b=some o->h'.get? b=some o)->Q v { s with heap:=h',toks:=tk }) :
 wpAny (model prog w) A (call (.builtin "min") [.ref l] [(Ga "default",d)]) Q E s:=by
 have nm:(toString "min"++toString ".loop":String)="min.loop":=by decide
 have sz:(intItems xs).size=xs.size:=by simp[intItems]
 refine PyProof.Rows.kmk_tree F.kind_min F.plain_min F.entry_min (Jcx _ _) ?_;show wpAny _ A.in1 (L5 "min" ["key","default"] 0 ⟨[],[(Ga "default",d)]⟩ >>= _) _ _ s;refine Qa (Kc (show L5 "min" ["key","default"] 0 ⟨[],[(Ga "default",d)]⟩=pure [none,some d] from rfl) ?_);refine Qa (Qf ?_);refine Qa (iter_intList hl fun s₂ e st hfp hlI=>?_);subst e;refine Qa (QO ?_)
 rw[nm];have W:=Walks.list (prog:=prog) (w:=w) (A:=A.in1) hh _ l hlI (intItems xs);have fpS:(s.heap.push { cls:=.type "list_iterator",data:=.fields #[.ref l,.int 0 0] }).objs.size∉[s.heap.objs.size,l]:=fun hm=>Gv _ (hfp _ hm)
 refine Qf ⟨GY KC _,JfX W (fun i j=>decide (numAt xs i<numAt xs j)) (CmpOf.ints_lt (numAt xs) (fun _ _=>intItems_at)) _ fpS d _ 0 _ _ #[] rfl (Gm _) (W.frame _ _ _ st fun b _ o e=>Qg _ e) (.inl ⟨rfl,rfl⟩) (Qh _ rfl) (fun z h' tk k=>?_) fun z v h' tk pv k=>?_⟩
 ·exact h0 (by rw[<- sz];exact z) h' tk (old_kept fun b o b1 e=>k b o b1 (Qw (Qj e)) (Qg _ e))
 ·exact h1 (by rw[<- sz];exact z) v h' tk (by rw[sz] at pv;exact pv) (old_kept fun b o b1 e=>k b o b1 (Qw (Qj e)) (Qg _ e))
end

section
variable{prog:Qm}{w:Qp}{A:Qx}{R:L9->Qe->Prop}{I:Qd}{fp wr:List Qd}{n:Nat}{P:Nat->Qc->Prop}{St:Nat->QC->Prop}
end
section
variable{prog:Qm}{w:Qp}{A:Qx}{E:Qc->Qe->Prop}{s:Qe}{l:Qd}{xs:Array (Int×Tok)}
end

end PySem

namespace L2
open PySem PySem.Spec PyProof.Rows

section
variable{X:Cx}
noncomputable def Jh7(K:Qo):List V->Hp->VK->Prop:=fun xs H Q=>∃(a:Qd) (ns:List Int),xs=[.ref a]/\SqL K H a (ns.map V.int)/\(ns=[]->Q .non H)/\∀M,M∈ns->(∀b,b∈ns->M<=b)->Q (.int M) H
theorem Jfq(hc:X.calm=true):Jbf X (.builtin "min") "default" .non (Jh7 X.K):=by
 intro pins s σ H xs us w Q I r rz h;obtain⟨a,ns,rfl,hq,q0,q⟩:=h;obtain⟨u,rfl,rx⟩:=U9 r;cases rx;cases rz;obtain⟨its,rv,p,hz⟩:=I.list hq;have hi:=Yp rv;have hl:=p.isList;obtain⟨xs,e⟩:=hi.allInts.items;have hns:ns=xs.toList.map (·.1):=by rw[<- hi.numsOf,<- nums_intItems,<- e]
 rw[e] at hl;refine Jcy (I.ok.hd hc) hl (fun z h' tk hk=>?_) fun z v h' tk hv hk=>?_
 ·refine⟨.non,H,I.kept hk,rfl,q0 ?_⟩
  simp_all
 ·obtain⟨t,rfl⟩:=intItems_at hv;obtain⟨h1,h2⟩:=argBest_lt (numAt xs) (xs.size-1);refine⟨.int _,H,I.kept hk,⟨t,rfl⟩,q _ ?_ fun a ha=>?_⟩
  ·rw[hns,numAt_eq];exact getD_mem (by rw[QB,QX];omega)
  ·rw[hns] at ha;obtain⟨j,hj,rfl⟩:=mem_getD ha;rw[QB,QX] at hj;rw[<- numAt_eq];exact h2 j (by lia)
end
theorem Jds{X:Cx}{K:Qo}(hK:X.K=K)(hc:X.calm=true):Jbf X (.builtin "min") "default" .non (Jh7 K):=hK▸Jfq hc

section
variable{X:Cx}
end
end L2
namespace LE
open PySem L2 LR

noncomputable def Jg9(as:List Sl):Option Sl:=on1 (fun s=>s.r.bind fun ds=>(ints? ds).map fun ns=>match ns.min? with
 | some m=>.sh (.int m)
 | none=>.sh .non) as
theorem Jmd{K:Qo}{C:Qd}:Vc K C (Jh7 K) Jg9:=by
 intro Hs H0 H xs as c Q i hs r e q
 replace e:=Yd e;obtain⟨s,rfl,e⟩:=e;obtain⟨v,rfl,r0⟩:=r.one;obtain⟨ds,e1,e⟩:=bind_some e;obtain⟨ns,e2,rfl⟩:=map_some e;obtain⟨l,ys,rfl,h,r1⟩:=r0.r i e1;rw[YK e2] at r1;have:=r1.ints;subst this;refine⟨l,ns,rfl,h,fun z=>?_,fun M hM hb=>?_⟩
 ·subst z;exact q _ _ _ (.refl i) RD.non
 ·have hm:ns.min?=some M:=List.min?_eq_some_iff.mpr ⟨hM,hb⟩;rw[hm] at q;exact q _ _ _ (.refl i) (RD.int _)

end LE

namespace LE
open PySem L2 LR

noncomputable def look{α:Type}:List Int->List α->Int->Option α
 | k::ks,d::ds,n=>if k=n then some d else look ks ds n
 | _,_,_=>none
noncomputable def Jcn(ks:List Int)(n:Int):Bool:=ks.any fun k=>decide (k=n)
noncomputable def UM(ks:List Int)(n:Int):List Int:=if Jcn ks n=true then ks else ks++[n]
noncomputable def setK{α:Type}:List Int->List α->Int->α->List α
 | k::ks,d::ds,n,v=>(if k=n then v else d)::setK ks ds n v
 | _,ds,_,_=>ds
noncomputable def putDs{α:Type}(ks:List Int)(ds:List α)(n:Int)(v:α):List α:=if Jcn ks n=true then setK ks ds n v else ds++[v]
theorem Jc2{α:Type}(n:Int)(v:α):∀(ks:List Int) (ds:List α),(setK ks ds n v).length=ds.length
 | [],_=>rfl
 | _::_,[]=>rfl
 | _::ks,_::ds=>by simp[setK,Jc2 n v ks ds]
theorem Ja5{α:Type}(ks:List Int)(ds:List α)(n:Int)(v:α)(h:ks.length=ds.length):(UM ks n).length=(putDs ks ds n v).length:=by unfold UM putDs;split <;> simp[Jc2,h]
theorem UQ:∀(ks:List Int) (xs:List V) (n:Int),Uo ((ks.map Sum.inl:List Key).zip xs) (Sum.inl n)=look ks xs n
 | [],_,_=>rfl
 | _::_,[],_=>rfl
 | k::ks,x::xs,n=>by
  show Uo (((Sum.inl k:Key),x)::(ks.map Sum.inl:List Key).zip xs) (Sum.inl n)=_
  by_cases h:k=n
  ·rw[WF (by rw[h]),look,if_pos h]
  ·rw[WE (fun e=>h (Sum.inl.inj e)),look,if_neg h];exact UQ ks xs n
theorem Jb6:∀(ks:List Int) (xs:List V) (n:Int),ks.length=xs.length->(((ks.map Sum.inl:List Key).zip xs).any fun kv=>decide (kv.1=(Sum.inl n:Key)))=Jcn ks n
 | [],_,_,_=>rfl
 | _::_,[],_,h=>by simp at h
 | k::ks,x::xs,n,h=>by
  show(decide ((Sum.inl k:Key)=Sum.inl n) || ((ks.map Sum.inl:List Key).zip xs).any _)=(decide (k=n) || ks.any _)
  rw[Jb6 ks xs n (by simpa using h)];congr 1
  simp_all
theorem Jcw:∀(ks:List Int) (xs:List V) (n:Int) (v:V),ks.length=xs.length->(((ks.map Sum.inl:List Key).zip xs).map fun kv=>if kv.1=(Sum.inl n:Key) then(kv.1,v) else kv)=(ks.map Sum.inl:List Key).zip (setK ks xs n v)
 | [],_,_,_,_=>rfl
 | _::_,[],_,_,h=>by simp at h
 | k::ks,x::xs,n,v,h=>by
  show(if (Sum.inl k:Key)=Sum.inl n then((Sum.inl k:Key),v) else(Sum.inl k,x))::((ks.map Sum.inl:List Key).zip xs).map _=(Sum.inl k,if k=n then v else x)::(ks.map Sum.inl:List Key).zip (setK ks xs n v);rw[Jcw ks xs n v (by simpa using h)]
  lia
theorem JcV(ks:List Int)(xs:List V)(n:Int)(v:V)(h:ks.length=xs.length):(HO.dK (UL ((ks.map Sum.inl:List Key).zip xs) (Sum.inl n) v))=dkO (UM ks n) (putDs ks xs n v):=by
 unfold dkO UL UM putDs;rw[Jb6 ks xs n h];split
 ·rw[Jcw ks xs n v h]
 ·rw[GN,MW (by simpa using h)];rfl
section
variable{K:Qo}{C:Qd}{Hs H0 H:Hp}
theorem RDL.look:∀{ks:List Int} {xs:List V} {ds:List D} {n:Int},RDL K C H xs ds->(LE.look ks xs n=none/\LE.look ks ds n=none)\/∃x d,LE.look ks xs n=some x/\LE.look ks ds n=some d/\RD K C H x d
 | [],_,_,_,_=>.inl ⟨rfl,rfl⟩
 | _::_,[],[],_,_=>.inl ⟨rfl,rfl⟩
 | _::_,[],_::_,_,h=>by have:=h.1;simp at this
 | _::_,_::_,[],_,h=>by have:=h.1;simp at this
 | k::ks,x::xs,d::ds,n,h=>by
  simp only[LE.look]
  by_cases e:k=n
  ·rw[if_pos e,if_pos e];exact .inr ⟨x,d,rfl,rfl,h.head⟩
  ·rw[if_neg e,if_neg e];exact RDL.look h.tail
theorem RDL.setK{n:Int}{v:V}{e:D}(r:RD K C H v e):∀{ks:List Int} {xs:List V} {ds:List D},RDL K C H xs ds->RDL K C H (LE.setK ks xs n v) (LE.setK ks ds n e)
 | [],_,_,h=>h
 | _::_,[],[],_=>.nil
 | _::_,[],_::_,h=>by have:=h.1;simp at this
 | _::_,_::_,[],h=>by have:=h.1;simp at this
 | k::ks,x::xs,d::ds,h=>by
  simp only[LE.setK];refine .cons ?_ (RDL.setK r h.tail);split
  ·exact r
  ·exact h.head
theorem RDL.putDs{n:Int}{v:V}{e:D}{ks:List Int}{xs:List V}{ds:List D}(h:RDL K C H xs ds)(r:RD K C H v e):RDL K C H (LE.putDs ks xs n v) (LE.putDs ks ds n e):=by
 unfold LE.putDs;split
 ·exact RDL.setK r h
 ·exact h.snoc r
theorem Jni{p:Qd}{ks:List Int}{xs:List V}{ds:List D}{Q:VK}(i:Same H0 H)(hs:Same Hs H)(hp:H p=none)(hk:ks.length=ds.length)(r:RDL K C H0 xs ds)(q:∀v H0' H',Step Hs H0 H H0' H'->RR K C Hs H0' H' v (.od ks ds)->Q v H'):Q (.ref p) (upd H p (dkO ks xs)) :=
 q _ H0 _ ⟨.new hp,Same.refl _,fun _ _ e=>.inl e,i.trans (.new hp)⟩ ⟨p,xs,rfl,Jl,Same.free i hp,Same.free hs hp,hk,r⟩
end
noncomputable def D.dk:D->Option (List Int×List D)
 | .dct ks ds=>some (ks,ds)
 | .dfz ks ds=>some (ks,ds)
 | _=>none
noncomputable def Sl.dk:Sl->Option (List Int×List D)
 | .no=>none
 | .sh d=>d.dk
 | .bo _=>none
 | .own _=>none
 | .bd ks ds=>some (ks,ds)
 | .od ks ds=>some (ks,ds)
 | .bt _ _=>none
 | .ot _ _=>none
 | .bw _ _=>none
 | .dw _ _=>none
noncomputable def od?:Sl->Option (List Int×List D)
 | .od ks ds=>some (ks,ds)
 | _=>none
theorem JpW{ks:List Int}{ds:List D}:od? (.od ks ds)=some (ks,ds):=rfl
theorem JhD{s:Option Sl}{p:List Int×List D}(e:s.bind od?=some p):s=some (.od p.1 p.2):=by
 obtain⟨s,rfl,e⟩:=bind_some e
 cases s with
 | od _ _=>cases e;rfl
 | _=>cases e

noncomputable def JaS:Ev:=fun _=>some (.od [] [])
noncomputable def Jmh(a k:Ev):Ev:=fun E=>(a E).bind fun s=>s.dk.bind fun p=>((k E).bind int?).bind fun n=>(look p.1 p.2 n).map .sh
noncomputable def Vf(a k x:Ev):Ev:=fun E=>(a E).bind fun s=>s.dk.bind fun p=>((k E).bind int?).bind fun n=>((x E).bind sh?).bind fun d=>some (.sh ((look p.1 p.2 n).getD d))
noncomputable def Jdh(i:Nat)(k a:Ev):Es:=fun E=>(E[i]?.bind od?).bind fun p=>(a E).bind fun s=>s.frz.bind fun d=>((k E).bind int?).bind fun n=>if p.1.length<Qk then some (.nx (E.set i (.od (UM p.1 n) (putDs p.1 p.2 n d)))) else none
section
variable{K:Qo}{C:Qd}{Hs H0 H:Hp}{td ty tx te:TE}{ed ek ex ea:Ev}
theorem RR.dk{v:V}{s:Sl}{p:List Int×List D}(r:RR K C Hs H0 H v s)(i:Same H0 H)(e:s.dk=some p):∃l xs,v=.ref l/\Rd H l (dkO p.1 xs)/\p.1.length=p.2.length/\RDL K C H0 xs p.2:=by
 cases s with
 | bd ks ds=>cases e;obtain⟨l,xs,h1,h2,h3⟩:=r;exact⟨l,xs,h1,.inl h2,h3⟩
 | od ks ds=>cases e;obtain⟨l,xs,h1,h2,_,_,h3⟩:=r;exact⟨l,xs,h1,.inl h2,h3⟩
 | sh d=>cases d with
  | dct ks ds=>cases e;obtain⟨l,xs,h1,h2,h3⟩:=RD.dctI r;exact⟨l,xs,h1,.inl (i _ _ h2),h3⟩
  | dfz ks ds=>cases e;obtain⟨l,xs,o,h1,h2,h3⟩:=RD.dfzI r;exact⟨l,xs,h1,.inr ⟨o,i _ _ h2⟩,h3⟩
  | _=>cases e
 | _=>cases e
theorem Jpg{l:Qd}{ks:List Int}{xs:List V}{n:Int}(h:Rd H l (dkO ks xs)):DGet H l (.int n) (look ks xs n):=.inl ⟨_,Sum.inl n,h,rfl,(UQ ks xs n).symm⟩
theorem Jio:SE K C JiC JaS:=by intro B H0 H σ E r Q I e q;cases e;intro p hp;exact Jni (ks:=[]) (xs:=[]) (Hs:=H) I.h (Same.refl _) hp rfl .nil q
theorem Jqo(ha:SE K C td ed)(hk:SE K C ty ek):SE K C (JlW td ty) (Jmh ed ek):=by
 intro B H0 H σ E r Q I e q;obtain⟨s,e1,e⟩:=bind_some e;obtain⟨p,e2,e⟩:=bind_some e;obtain⟨n,e3,e⟩:=bind_some e;obtain⟨t,e3,e4⟩:=bind_some e3;obtain rfl:=JA e4;obtain⟨d,e5,rfl⟩:=map_some e;refine ha B H0 H σ E s _ I e1 fun x H1 H1' s1 r1=>hk B H1 H1' σ E _ _ (I.step s1) e3 fun y H2 H2' s2 r2=>?_
 obtain⟨l,xs,rfl,h,_,rl⟩:=(r1.step s2).dk s2.i e2;rw[RD.intI r2];rcases RDL.look (ks:=p.1) (n:=n) rl with ⟨_,z⟩|⟨v,d',z1,z2,z3⟩
 ·rw[z] at e5;cases e5
 ·rw[z2] at e5;cases e5;exact⟨l,v,rfl,z1▸Jpg h,q _ _ _ (s1.trans s2) z3⟩
theorem JkU(ha:SE K C td ed)(hk:SE K C ty ek)(hx:SE K C tx ex):SE K C (JiB td ty tx) (Vf ed ek ex):=by
 intro B H0 H σ E r Q I e q;obtain⟨s,e1,e⟩:=bind_some e;obtain⟨p,e2,e⟩:=bind_some e;obtain⟨n,e3,e⟩:=bind_some e;obtain⟨t,e3,e4⟩:=bind_some e3;obtain rfl:=JA e4;obtain⟨d,e5,e⟩:=bind_some e;obtain⟨t',e5,e6⟩:=bind_some e5;obtain rfl:=Wx e6;cases e;refine ha B H0 H σ E s _ I e1 fun x H1 H1' s1 r1=>?_
 obtain⟨l0,xs0,rfl,h0,_,_⟩:=r1.dk s1.i e2;refine⟨l0,rfl,.inl ⟨_,h0⟩,hk B H1 H1' σ E _ _ (I.step s1) e3 fun y H2 H2' s2 r2=>hx B H2 H2' σ E _ _ ((I.step s1).step s2) e5 fun z H3 H3' s3 r3=>?_⟩;obtain⟨l,xs,hl,h,_,rl⟩:=((r1.step s2).step s3).dk s3.i e2;cases hl;rw[RD.intI r2];refine⟨_,Jpg h,q _ _ _ ((s1.trans s2).trans s3) ?_⟩;rcases RDL.look (ks:=p.1) (n:=n) rl with ⟨z1,z2⟩|⟨v,d',z1,z2,z3⟩
 ·rw[z1,z2];exact r3
 ·rw[z1,z2];exact z3
theorem JoR{i:Nat}(ha:SE K C te ea)(hk:SE K C ty ek):SS K C (Jim (Y0 i) ty te) (Jdh i ek ea):=by
 intro B H0 H σ E o D I e f;obtain⟨⟨ks,ds⟩,h,e⟩:=bind_some e;have h:=JhD h;dsimp only at h e;obtain⟨s,e1,e⟩:=bind_some e;obtain⟨d,e2,e⟩:=bind_some e;obtain⟨n,e3,e⟩:=bind_some e;obtain⟨t,e3,e4⟩:=bind_some e3;obtain rfl:=JA e4;split at e
 ·next hz =>
  cases e;obtain⟨l,xs,g1,g2,g3,g4,gk,g5⟩:=I.slotD h;refine ha B H0 H σ E _ _ I e1 fun v H1 H1' s1 r1=>?_
  have s2:Step H H0 H (JK H H1 H1') H1':=s1.comp (JF s1.i) fun _ z=>z
  have rv:=RR.frz s1.i r1 e2;refine⟨_,g1,?_⟩;refine hk B _ H1' σ E _ _ (I.step s2) e3 fun w H3 H3' s3 r3=>?_
  have s4:=s2.trans s3
  have hx:ks.length=xs.length:=gk.trans g5.1.symm;obtain⟨_,n0,nB⟩:=(I.step s4).ownG h rfl g1
  have rr:=(g5.mono s4.z).putDs (ks:=ks) (n:=n) (rv.mono s3.z)
  have m:=(I.step s4).mutG (t':=.od (UM ks n) (putDs ks ds n d)) (o':=dkO (UM ks n) (putDs ks xs n v)) h rfl rfl g1 ⟨l,_,rfl,Jl,n0,nB,Ja5 _ _ _ _ gk,rr⟩;rw[RD.intI r3];refine⟨l,_,rfl,.inl ⟨_,Sum.inl n,s4.h _ _ g2,rfl,?_,rfl⟩,?_⟩
  ·simp_all
  ·rw[JcV ks xs n v hx];exact f _ _ _ ⟨m.b,s4.z,(s4.ss I.b).n,m.h⟩ m
 ·cases e
end

noncomputable def JmE(x y:Sl):Option Sl:=x.m.bind fun ds=>(int? y).bind fun k=>if JfF k=true/\ds.length*k.toNat<=Qk then some (.own (QQ k.toNat ds).flatten) else none
section
variable{K:Qo}{C:Qd}{H:Hp}
theorem RDL.rep{xs:List V}{ds:List D}(r:RDL K C H xs ds):∀k:Nat,RDL K C H (QQ k xs).flatten (QQ k ds).flatten
 | 0=>.nil
 | k+1=>by rw[Ky,Ky,Lr,Lr];exact r.append (RDL.rep r k)
theorem JpT:OpS K C Jp8 JmE:=by
 intro Hs H0 H x y a b c Q i hs ra rb e q;obtain⟨ds,e1,e⟩:=bind_some e;obtain⟨k,e2,e3⟩:=bind_some e;have hb:=JA e2;subst hb;split at e3
 ·next hz=>cases e3;obtain⟨l,us,rfl,h1,r1⟩:=ra.m i e1;obtain⟨b1,b2⟩:=Jbw hz.1;exact⟨l,k,us,rfl,RD.intI rb,h1,by lia,by exact Int.le_trans ‹_› (by decide),by rw[r1.1];exact hz.2,fun p hp=>YN i hs hp (r1.rep k.toNat) q⟩
 ·cases e3
end
end LE

namespace L2
open PySem PySem.Spec PyProof.Rows
noncomputable def JlX(i:Nat)(t:TS):TS:=fun D σ H=>∃a kvs,σ[i]?=some (some (.ref a))/\H a=some (.dK kvs)/\∀o,t D σ (upd H a (.frz o (.dK kvs)))
theorem Inv.freeze{X:Cx}{pins:List (Qd×Obj)}{σ:St}{H:Hp}{s:Qe}{a:Qd}{kvs:List (Key×V)}(I:Inv X pins σ H s)(e:H a=some (.dK kvs)):∃o,Inv X pins σ (upd H a (.frz o (.dK kvs))) s:=by
 obtain⟨z,y,vs,r,ob,es,ep,e1,c⟩:=(show ObjOk X.prog X.w H s.heap a (.dK kvs) from I.hok a _ e)
 have:=I.write (x:=a) (e:=a) (o:=.frz ob (.dK kvs)) (h':=s.heap) (t':=s.toks) (by rw[e];trivial) (.inl rfl) (fun b u _ q=>q) ⟨ob,e1⟩ ⟨e1,z,y,vs,r,ob,es,ep,e1,c⟩;exact⟨ob,this⟩
theorem Jkt{X:Cx}{st:Gs}{t:TS}(i:Nat)(h:PS X st t):PS X st (JlX i t):=by
 intro pins s σ H D I ⟨a,kvs,e1,e2,q⟩;obtain⟨o,I'⟩:=I.freeze e2
 solve_by_elim
noncomputable def Itd(a:Qd)(o:Obj)(kvs:List (Key×V)):It :=
 ⟨fun i H=>H a=some (.frz o (.dK kvs))/\∃p,kvs[i]?=some p,
  fun i H x H'=>∃t k v,x=.ref t/\H t=none/\kvs[i]?=some (k,v)/\H'=upd H t (.tup [kV k,v]),
  fun i H=>H a=some (.frz o (.dK kvs))/\i=kvs.length⟩
theorem Jho{P:Qm}{w:Qp}{k:Key}{u:Qc}(h:(JE P w).is k u=true):RelV (kV k) u:=by
 rcases JL (show W5 k u=true from h) with ⟨i,t,rfl,rfl⟩|⟨x,t,rfl,rfl⟩
 ·exact⟨t,rfl⟩
 ·exact⟨t,rfl⟩
theorem KV.get{κ:Type}{kvs:List (κ×V)}{vs:List (κ×Qc)}{i:Nat}{p:κ×V}(h:KV kvs vs)(e:kvs[i]?=some p):∃u,vs[i]?=some (p.1,u)/\RelV p.2 u:=by
 induction h generalizing i with
 | nil=>simp at e
 | cons h _ ih =>
  cases i with
  | zero=>grind
  | succ i=>exact ih (i:=i) (by simpa using e)
theorem Zx{X:Cx}{pins:List (Qd×Obj)}{σ:St}{H:Hp}{s:Qe}{a:Qd}{o:Obj}{kvs:List (Key×V)}{es:Array DictEntry}{ep:Nat}(I:Inv X pins σ H s)(h:H a=some (.frz o (.dK kvs)))(hd:o.data=.dict es ep) :
 ∃vs,KV kvs vs/\s.heap.DictAt (JE X.prog X.w) a vs ep/\(a == sysModules)=false:=by
 obtain⟨e0,z,y,vs,r,ob,es',ep',e1,c1,c2,c3⟩:=(show ObjOk X.prog X.w H s.heap a (.frz o (.dK kvs)) from I.hok a _ h)
 rw[e0] at e1;cases e1;rw[hd] at c2;cases c2;exact⟨vs,r,⟨o,es,e0,c1,hd,c3⟩,y⟩
theorem Jee{P:Qm}{w:Qp}{K:Qo}{elts:List QV}{kk:Nat}{pos:Pos}(a it:Qd)(o:Obj)(kvs:List (Key×V))(es:Array DictEntry)(ep:Nat)(hd:o.data=.dict es ep) :
 Turn P w K (.Tuple elts kk pos) (Itd a o kvs) [it] it (fun i h=>∃ok ov,IsItemIter h it a i kvs.length ep ok ov) where
 mem:=by simp
 obj:=fun i h st c hc=>by grind
 keep:=fun i h h' st k=>by obtain⟨ok,ov,s1⟩:=st;exact⟨ok,ov,k it (by simp) _ s1⟩
 item:=by
  intro X hP hw hK hc i pins s σ H E I hf st hg;subst hP hw hK;obtain⟨hH,⟨k,v⟩,e1⟩:=hg;obtain⟨vs,r,dd,_⟩:=Zx I hH hd;obtain⟨ok,ov,s1⟩:=st;obtain⟨u,hu,ru⟩:=r.get e1;have hl:kvs.length=vs.length:=KV.length r;rw[hl] at s1;refine wpAny_pyNext_items_item s1 dd hu fun key h' hk hit' ht hz hkeep=>?_
  refine⟨_,rfl,wpAny_letOwnedTupleGo_items (s:={ s with heap:=h' }) hit' fun k2 t9 e9=>?_⟩
  replace e9:Qu it h' k2:=e9;have elt:it<s.heap.objs.size:=Qj s1
  have I1:Inv X pins σ (upd H s.heap.objs.size (.tup [kV k,v])) { s with heap:=s.heap.push { cls:=.type "tuple",data:=.seq #[key,u] },toks:=s.toks } :=
   I.laid (o:=.tup [kV k,v]) (fun c ob q=>Qg _ q) (Qn _) ⟨by show 2<=Qk;decide,[key,u],.cons (Jho hk) (.cons ru .nil),⟨_,Qh _ rfl,rfl,_,rfl⟩⟩
  have hf1:∀c∈[it],FpOk X pins (upd H s.heap.objs.size (.tup [kV k,v])) c:=fun c hc=>by
   have hc':c=it:=by simpa using hc
   subst hc';exact⟨by rw[Jf (Qw elt)];exact(hf c hc).1,(hf c hc).2⟩
  have I2:Inv X pins σ (upd H s.heap.objs.size (.tup [kV k,v])) { s with heap:=k2,toks:=s.toks }:=Inv.turnedL (s:={ s with heap:=s.heap.push { cls:=.type "tuple",data:=.seq #[key,u] },toks:=s.toks }) I1 (fun c ob hc q=>by
   have hc':c≠it:=fun z=>hc (by simp[z])
   refine e9.extBut c ob hc' ?_
   by_cases hcs:c=s.heap.objs.size
   ·subst hcs;have q':(s.heap.push { cls:=.type "tuple",data:=.seq #[key,u] }).get? s.heap.objs.size=some ob:=q;rw[Qh _ rfl] at q'
    simp_all
   grind[Ml]) hf1
  refine⟨.ref s.heap.objs.size,_,I2,rfl,⟨_,k,v,rfl,I.hok.fresh (Qn _),e1,rfl⟩,⟨key,u,?_⟩,fun c hc=>(hf1 c hc).1⟩
  ·rw[hl];exact t9
 done:=by
  intro X hP hw hK hc i pins s σ H E I hf st hg;subst hP hw hK;obtain⟨hH,ei⟩:=hg;obtain⟨vs,r,dd,_⟩:=Zx I hH hd;obtain⟨ok,ov,s1⟩:=st;have hl:kvs.length=vs.length:=KV.length r;have hh:X.A.handled=none:=I.ok.hd hc;rw[hl] at s1;refine wpAny_pyNext_items_end hh s1 dd (KW (by simp[*])) fun h' he=>⟨rfl,?_⟩
  exact I.turnedL (fun c ob hc q=>he c ob (fun z=>hc (by simp[z])) q) hf
 self:=fun _ _ _ _ _ st h=>by obtain⟨ok,ov,s1⟩:=st;exact PySem.W.kcp_self s1 h
noncomputable def Jpz(td:TE):TI:=fun σ H R=>td σ H fun x H1=>∃a o kvs,x=.ref a/\H1 a=some (.frz o (.dK kvs))/\R (Itd a o kvs) H1
theorem JhT{X:Cx}{elts:List QV}{kk:Nat}{tpos:Pos}{d:QV}{td:TE}{apos pos:Pos}(hd:PE X d td)(hbase:attributeBase d "items" X.env (eval d X.env)=eval d X.env:=by rfl)(hline:(apos.endLine == pos.line)=true:=by rfl)
:PI X (.Tuple elts kk tpos) (.Call (.Attribute d "items" apos) [] [] pos) (Jpz td):=by
 intro pins s σ H R I h;refine Ll hbase hline (thE (hd pins s σ H _ I h) fun v s1 x H1 I1 r1 zz=>?_);obtain⟨a,o,kvs,ex,hH,q⟩:=zz;subst ex;cases r1;obtain⟨t1,t2,_⟩:=Jby I1 (.inl ⟨kvs,.inr ⟨o,hH⟩⟩);have hO:=(show ObjOk X.prog X.w H1 s1.heap a (.frz o (.dK kvs)) from I1.hok a _ hH)
 obtain⟨e0,z,y,vs,r,ob,es,ep,e1,c1,c2,c3⟩:=hO;rw[e0] at e1;cases e1;have dd:s1.heap.DictAt (JE X.prog X.w) a vs ep:=⟨o,es,e0,c1,c2,c3⟩
 have hl:kvs.length=vs.length:=KV.length r;refine⟨"dict","dict.items",Kz,KD,MG,t1,t2,G6 rfl (LZ ?_)⟩;refine call_meetsIn KD t1 Mu (Mg _) (meets_dict_items (JE X.prog X.w) a y) ⟨⟨vs,dd.dictOf⟩,?_⟩
 have I2:Inv X pins σ H1 { s1 with heap:=s1.heap.push { cls:=.type "dict_items",data:=.fields #[.ref a] },toks:=s1.toks }:=I1.kept fun b ob q=>Qg _ q
 refine wpAny_pyIter_items (s:={ s1 with heap:=s1.heap.push { cls:=.type "dict_items",data:=.fields #[.ref a] } }) (d:=a) (kvs:=vs) (ep:=ep) (knd:=JE X.prog X.w) ⟨_,Qh _ rfl,rfl,rfl⟩ (dd.push _) ?_;refine⟨_,[(s1.heap.push { cls:=.type "dict_items",data:=.fields #[.ref a] }).objs.size],_,_,H1,rfl,I2.kept (t':=s1.toks) fun b ob q=>Qg _ q,Jee a _ o kvs es ep c2,⟨.none,.none,?_⟩,fun c hc=>?_,q⟩
 ·rw[hl];exact Qh _ rfl
 ·have hc':c=(s1.heap.push { cls:=.type "dict_items",data:=.fields #[.ref a] }).objs.size:=by simpa using hc
  subst hc';exact I2.fpOk (Qn _) (I2.hok.fresh (Qn _))
end L2
namespace LE
open PySem L2 LR
noncomputable def JiP(i:Nat)(b:Es):Es:=fun E=>(E[i]?.bind od?).bind fun p=>b (E.set i (.sh (.dfz p.1 p.2)))
noncomputable def JfQ:List Int->List D->List D:=List.zipWith fun k d=>.tup [.int k,d]
noncomputable def JdD(a:Ev):En->Option (List D):=fun E=>(a E).bind fun s=>match s with
 | .sh (.dfz ks ds)=>some (JfQ ks ds)
 | _=>none
section
variable{K:Qo}{C:Qd}{m:Bool}{t:TS}{et:Es}{td:TE}{ed:Ev}
theorem JoS(i:Nat)(ht:SS K C t et):SS K C (JlX i t) (JiP i et):=by
 intro B H0 H σ E o D I e f;obtain⟨⟨ks,ds⟩,h,e⟩:=bind_some e;have h:=JhD h;dsimp only at h e;obtain⟨l,xs,g1,g2,g3,g4,gk,g5⟩:=I.slotD h;refine⟨l,_,g1,g2,fun ob=>?_⟩;have hi:i<E.length:=(Qi.mp h).1;have s0:Same H0 (upd H0 l (.frz ob (dkO ks xs))):=.new g3;have nb:∀{A:Hp},A l=none->Same A H->Same A (upd H l (.frz ob (dkO ks xs))):=fun {A} n s a o e=>by rw[Jf (Jp e n)];exact s a o e
 have s1:Same (upd H0 l (.frz ob (dkO ks xs))) (upd H l (.frz ob (dkO ks xs))):=fun a o e=>by
  by_cases ha:a=l
  ·grind[Jl]
  ·rw[Jf ha] at e ⊢;exact I.h a o e
 have st:SStep B H0 (upd H0 l (.frz ob (dkO ks xs))) (upd H l (.frz ob (dkO ks xs))):=⟨nb g4 I.b,s0,fun a o e=>by grind[Jf],s1⟩
 refine ht B _ _ σ _ o D ⟨nb g4 I.b,s1,by simp[I.len],fun j s e=>?_,fun j k u1 u2 v hjk a1 a2 w1 w2 a3=>?_,I.t⟩ e (f.step st)
 ·rw[Qv] at e
  by_cases hj:i=j
  ·subst hj;rw[if_pos rfl,if_pos hi] at e;cases e;exact .inr ⟨_,g1,.mkZ Jl gk (g5.mono s0)⟩
  ·rw[if_neg hj] at e;rcases I.at' j s e with z|⟨v,q1,q2⟩
   ·exact .inl z
   ·refine .inr ⟨v,q1,?_⟩
    cases s with
    | no=>trivial
    | sh d=>exact RD.mono s0 q2
    | bo es=>obtain⟨l',ys,p1,p2,p3⟩:=q2;exact⟨l',ys,p1,p2,p3.mono s0⟩
    | bd ks es|bt ks es|bw ks es=>obtain⟨l',ys,p1,p2,hk,p3⟩:=q2;exact⟨l',ys,p1,p2,hk,p3.mono s0⟩
    | own es =>
     obtain⟨l',ys,p1,p2,p3,p4,p5⟩:=q2;subst p1;have:l'≠l:=fun z=>by subst z;exact I.sep i j _ _ (.ref l') hj h e rfl rfl g1 q1
     exact⟨l',ys,rfl,by rw[Jf this];exact p2,by rw[Jf this];exact p3,p4,p5.mono s0⟩
    | od ks es|ot ks es|dw ks es =>
     obtain⟨l',ys,p1,p2,p3,p4,hk,p5⟩:=q2;subst p1;have:l'≠l:=fun z=>by subst z;exact I.sep i j _ _ (.ref l') hj h e rfl rfl g1 q1
     exact⟨l',ys,rfl,by rw[Jf this];exact p2,by rw[Jf this];exact p3,p4,hk,p5.mono s0⟩
 ·have own:∀{j:Nat} {u:Sl},(E.set i (.sh (.dfz ks ds)))[j]?=some u->JR u=true->E[j]?=some u:=fun {j u} a w=>by
   rw[Qv] at a
   by_cases hj:i=j
   ·subst hj;rw[if_pos rfl,if_pos hi] at a;cases a;cases w
   simp_all
  exact I.sep j k u1 u2 v hjk (own a1 w1) (own a2 w2) w1 w2 a3
theorem Jas:∀(ks:List Int) (xs:List V) (i:Nat),((ks.map Sum.inl:List Key).zip xs)[i]?=(match ks[i]?,xs[i]? with|some k,some x=>some ((Sum.inl k:Key),x)|_,_=>none)
 | [],xs,i=>by simp
 | k::ks,[],i=>by cases h:(k::ks)[i]? <;> simp_all
 | k::ks,x::xs,0=>by simp
 | k::ks,x::xs,i+1=>by simpa using Jas ks xs i
theorem Jip(ha:SE K C td ed):SI K C m (Jpz td) (JdD ed):=by
 intro B H0 H σ E ds R I e q;obtain⟨s,e1,e⟩:=bind_some e;split at e
 ·next ks es =>
  cases e;refine ha B H0 H σ E _ _ I e1 fun x H1 H1' s1 r1=>?_
  obtain⟨l,xs,o,rfl,h,hk,rl⟩:=RD.dfzI r1;refine⟨l,o,_,rfl,s1.i _ _ h,q _ _ _ s1 ?_⟩
  have sA:Same (if m=true then H1' else B) H1':=by
   split
   ·exact Same.refl _
   ·exact I.b.trans s1.h
  intro H0' H' st;have hl:H' l=some (.frz o (dkO ks xs)):=st.i _ _ (st.z _ _ h);refine⟨fun i d e=>?_,⟨hl,?_⟩⟩
  ·unfold JfQ at e;rw[M3] at e
   cases hki:ks[i]? with
   | none=>rw[hki] at e;cases e
   | some k =>
    cases hdi:es[i]? with
    | none=>simp_all
    | some d' =>
     rw[hki,hdi] at e;cases e;obtain⟨x,hx,rx⟩:=rl.get hdi;have hz:((ks.map Sum.inl:List Key).zip xs)[i]?=some (Sum.inl k,x):=by rw[Jas,hki,hx]
     refine⟨⟨hl,_,hz⟩,?_⟩;rintro z H2 ⟨p,k',v',rfl,hp,hv,rfl⟩;rw[hz] at hv;cases hv;have h0:H0' p=none:=Same.free st.i hp;refine⟨upd H0' p (.tup [.int k,x]),⟨.new hp,.new h0,fun a o e=>?_,fun a o e=>?_⟩,?_⟩
     ·grind[Jf]
     ·by_cases h:a=p
      ·subst h;rw[Jl] at e ⊢;exact e
      ·rw[Jf h] at e ⊢;exact st.i a o e
     ·exact .mkT (.of Jl) (.cons (.int _) (.cons (rx.mono (st.z.trans (.new h0))) .nil))
  ·unfold JfQ;rw[List.length_zipWith,LU,QB,rl.1]
 ·cases e
end
end LE

namespace L2
open PySem PySem.Spec PyProof.Rows
noncomputable def Jl1(p a:Qd):HO:=.ext fun h=>Rg h p a
theorem Jbk{X:Cx}{pins:List (Qd×Obj)}{σ:St}{H:Hp}{s:Qe}{a:Qd}{kvs:List (Key×V)}(I:Inv X pins σ H s)(h:Rd H a (.dK kvs)) :
 ∃vs ep,KV kvs vs/\s.heap.DictAt (JE X.prog X.w) a vs ep/\(a == sysModules)=false/\kvs.length<=Qk:=by
 obtain⟨z,y,vs,r,ob,es,ep,e1,c⟩:=(show ObjOk X.prog X.w H s.heap a (.dK kvs) from h.ok I.hok)
 exact⟨vs,ep,r,⟨ob,es,e1,c⟩,y,z⟩
noncomputable def Jo4(H:Hp)(r a:Qd):Prop:=r=a\/H r=some (Jl1 r a)
theorem JoE{X:Cx}{pins:List (Qd×Obj)}{σ:St}{H:Hp}{s:Qe}{r a:Qd}{kvs:List (Key×V)}(I:Inv X pins σ H s)(d:Jo4 H r a)(h:Rd H a (.dK kvs)) :
 ∃vs T OK,KV kvs vs/\PySem.W.KdlSrc X.prog X.w T r a vs.length (fun i v=>∃k x,vs[i]?=some (k,x)/\(JE X.prog X.w).is k v=true) OK/\OK s.heap/\vs.length<=Qk:=by
 obtain⟨vs,ep,rl,dd,y,z⟩:=Jbk I h;rw[KV.length rl] at z;rcases d with e|e
 ·subst e;exact⟨vs,_,_,rl,PySem.W.kdl_dict (ep:=ep) y,dd,z⟩
 ·have vw:Rg s.heap r a:=(show ObjOk X.prog X.w H s.heap r (Jl1 r a) from I.hok r _ e).1;exact⟨vs,_,_,rl,PySem.W.kdl_keys (ep:=ep),⟨vw,dd⟩,z⟩
theorem Jcs{P:Qm}{w:Qp}:∀{ks:List Int} {xs:List V} {vs:List (Key×Qc)} {acc:List Qc},ks.length=xs.length->KV ((ks.map Sum.inl:List Key).zip xs) vs->acc.length=vs.length ->
 (∀(j:Nat) (v:Qc),acc[j]?=some v->∃k x,vs[j]?=some (k,x)/\(JE P w).is k v=true)->IntsAre acc ks
 | [],[],_,acc,_,r,hl,_=>by
  cases r
  cases acc with
  | nil=>exact .nil
  | cons _ _=>simp at hl
 | [],_::_,_,_,h,_,_,_=>by simp at h
 | _::_,[],_,_,h,_,_,_=>by simp at h
 | k::ks,x::xs,vs,acc,h,r,hl,hv=>by
  cases r with
  | cons r1 r2 =>
   cases acc with
   | nil=>simp at hl
   | cons u acc =>
    obtain⟨k',x',e1,e2⟩:=hv 0 u rfl;simp at e1;obtain⟨r1a,r1b⟩:=r1;subst e1;have ek:k'=Sum.inl k:=r1a.symm;subst ek;rcases JL (show W5 (Sum.inl k) u=true from e2) with ⟨i,t,e,rfl⟩|⟨y,t,e,_⟩
    ·cases e;exact .cons k t (Jcs (by simpa using h) r2 (by simpa using hl) fun j v e=>hv (j+1) v (by simpa using e))
    ·cases e
section
variable{prog:Qm}{w:Qp}{A:Qx}{E:Qc->Qe->Prop}{s:Qe}{T:String}{r d:Qd}{n:Nat}{P:Nat->Qc->Prop}{OK:QC->Prop}
end
noncomputable def Jh5:List V->Hp->VK->Prop:=fun xs H Q=>∃(r a:Qd) (ks:List Int) (vs:List V),xs=[.ref r]/\Jo4 H r a/\Rd H a (.dK ((ks.map Sum.inl:List Key).zip vs))/\ks.length=vs.length/\∀l,H l=none->Q (.ref l) (upd H l (.lst (ks.map V.int)))
theorem Jdp{X:Cx}(hc:X.calm=true):CallR X (.type "list") Jh5:=by
 intro pins s σ H xs us Q I r h;obtain⟨p,a,ks,vs0,rfl,ds,hq,hlk,q⟩:=h;obtain⟨u,rfl,rx⟩:=U9 r;cases rx;obtain⟨vs,T,OK,rl,K,ok,hz⟩:=JoE I ds hq;have hh:X.A.handled=none:=I.ok.hd hc
 have hl:vs.length=ks.length:=by
  have:=KV.length rl
  simp_all
 refine PySem.W.kdl_call K hh ok hz fun h' tk acc c' hk hS items=>?_
 have hI:IntsAre acc.toList ks:=Jcs (P:=X.prog) (w:=X.w) hlk rl (by rw[QX,items.1]) fun j v e=>items.2 j v (by simp_all)
 have hne:H s.heap.objs.size=none:=I.hok.fresh (Qn _);refine⟨.ref s.heap.objs.size,_,I.laid (t':=tk) hk (Qn _) (show ObjOk X.prog X.w _ _ _ (.lst (ks.map V.int)) from⟨by simp_all,acc.toList,c',Y9 hI,?_⟩),rfl,q _ hne⟩;rw[hS]
end L2
namespace LE
open PySem L2 LR
noncomputable def Jdw(a:Ev):Ev:=fun E=>(a E).bind fun s=>s.dk.bind fun p=>some (.own (p.1.map .int))
section
variable{K:Qo}{C:Qd}{td:TE}{ed:Ev}
theorem Rd.put{H:Hp}{l p:Qd}{o u:HO}(h:Rd H l o)(hp:H p=none):Rd (upd H p u) l o:=by
 rcases h with h|⟨ob,h⟩
 ·exact .inl (by rw[Jf (Jp h hp)];exact h)
 ·exact .inr ⟨ob,by rw[Jf (Jp h hp)];exact h⟩
theorem JkY(ha:SE K C td ed):SE K C (tCB Jh5 (Yf td YZ)) (Jdw ed):=by
 intro B H0 H σ E r Q I e q;obtain⟨s,e1,e⟩:=bind_some e;obtain⟨p,e2,e⟩:=bind_some e;cases e;refine ha B H0 H σ E s _ I e1 fun x H1 H1' s1 r1=>?_
 obtain⟨l,xs,rfl,h,hk,rl⟩:=r1.dk s1.i e2;exact⟨l,l,p.1,xs,rfl,.inl rfl,h,by rw[hk,rl.1],fun z hz=>YN s1.i s1.h hz (RDL.ofInts _) fun v H2 H2' s2 r2=>q v H2 H2' (s1.comp s2 fun _ y=>y) r2⟩
end
end LE

namespace L2
open PySem PySem.Spec PyProof.Rows
theorem Inv.more{X:Cx}{pins:List (Qd×Obj)}{σ:St}{H H':Hp}{s:Qe}{h':QC}{t':Nat}(I:Inv X pins σ H s)(k:∀b u,s.heap.get? b=some u->h'.get? b=some u)(hx:∀b,b<s.heap.objs.size->H' b=H b)
 (new:∀b o,s.heap.objs.size<=b->H' b=some o->ObjOk X.prog X.w H' h' b o):Inv X pins σ H' { s with heap:=h',toks:=t' }:=by
 have old:∀b o,H b=some o->H' b=some o:=fun b o e=>by rw[hx b (I.hok.lt e)];exact e
 refine I.un ⟨fun b u q _ _ _=>k b u q,fun b u q _ _ _=>⟨u.slots,k b u q⟩,fun b u q n _=>by rw[hx b (Qj q)];exact n,fun b u q _=>⟨u,k b u q⟩,fun b xs q=>old b _ q,fun b u xs q=>old b _ q,fun b _ _ _ _ q=>old b _ q⟩ fun b o e=>?_
 rcases MU b s.heap.objs.size with z|z
 ·rw[hx b z] at e;exact(I.hok b o e).stay (fun c u _ q=>k c u q) (fun c q=>old c _ q) fun c xs q=>old c _ q
 ·exact new b o z e
noncomputable def WG(p a:Qd):HO:=.ext fun h=>h.IsItemsView p a
noncomputable def JiE(td:TE):TE:=fun σ H Q=>td σ H fun x H1=>∃a kvs,x=.ref a/\Rd H1 a (.dK kvs)/\∀p,H1 p=none->Q (.ref p) (upd H1 p (WG p a))
theorem JhQ{X:Cx}{d:QV}{td:TE}{apos pos:Pos}(hd:PE X d td)(hbase:attributeBase d "items" X.env (eval d X.env)=eval d X.env:=by rfl)(hline:(apos.endLine == pos.line)=true:=by rfl)
:PE X (.Call (.Attribute d "items" apos) [] [] pos) (JiE td):=by
 intro pins s σ H Q I h;refine Ll hbase hline (thE (hd pins s σ H _ I h) fun v s1 x H1 I1 r1 zz=>?_);obtain⟨a,kvs,ex,hH,q⟩:=zz;subst ex;cases r1;obtain⟨t1,t2,_⟩:=Jby I1 (.inl ⟨kvs,hH⟩);obtain⟨vs,ep,r,dd,y,_⟩:=Jbk I1 hH;refine⟨"dict","dict.items",Kz,KD,MG,t1,t2,G6 rfl (LZ ?_)⟩;refine call_meetsIn KD t1 Mu (Mg _) (meets_dict_items (JE X.prog X.w) a y) ⟨⟨vs,dd.dictOf⟩,?_⟩
 have hn:H1 s1.heap.objs.size=none:=I1.hok.fresh (Qn _)
 have vw:(s1.heap.push { cls:=.type "dict_items",data:=.fields #[.ref a] }).IsItemsView s1.heap.objs.size a:=⟨_,Qh _ rfl,rfl,rfl⟩
 refine⟨.ref s1.heap.objs.size,_,I1.laid (t':=s1.toks) (o:=WG s1.heap.objs.size a) (fun b ob q=>Qg _ q) (Qn _) ⟨vw,⟨_,Qh _ rfl⟩,fun h1 h2 p k=>?_⟩,rfl,q _ hn⟩;obtain⟨o,ho,hc⟩:=p;exact⟨o,k o ho,hc⟩
noncomputable def VI(H:Hp):List Qd->List (Key×V)->Hp
 | a::as,kv::kvs=>upd (VI H as kvs) a (.tup [kV kv.1,kv.2])
 | _,_=>H
theorem Uh{H:Hp}{b:Qd}:∀{as:List Qd} {kvs:List (Key×V)},b∉as->VI H as kvs b=H b
 | [],_,_=>rfl
 | _::_,[],_=>rfl
 | a::as,kv::kvs,h=>by rw[VI,Jf fun z=>h (by simp_all)];exact Uh fun m=>h (Qq _ m)
theorem Zl{H:Hp}:∀{as:List Qd} {kvs:List (Key×V)} {j:Nat} {a:Qd} {kv:Key×V},as.Nodup->as[j]?=some a->kvs[j]?=some kv->VI H as kvs a=some (.tup [kV kv.1,kv.2])
 | [],_,_,_,_,_,e,_=>by simp at e
 | _::_,[],_,_,_,_,_,e=>by simp at e
 | b::as,kv'::kvs,0,a,kv,_,e1,e2=>by simp at e1 e2;subst e1 e2;rw[VI,Jl]
 | b::as,kv'::kvs,j+1,a,kv,hn,e1,e2=>by
  rw[Gc] at hn;simp at e1 e2;have hne:a≠b:=fun z=>hn.1 (by rw[<- z];exact QG e1)
  rw[VI,Jf hne];exact Zl hn.2 e1 e2
noncomputable def Jh4:List V->Hp->VK->Prop:=fun xs H Q=>∃(r a:Qd) (kvs:List (Key×V)),xs=[.ref r]/\H r=some (WG r a)/\Rd H a (.dK kvs) ∧
 ∀(L:Qd) (as:List Qd),H L=none->as.length=kvs.length->as.Nodup->L∉as->(∀b∈as,H b=none)->Q (.ref L) (upd (VI H as kvs) L (.lst (as.map V.ref)))
theorem Jdo{X:Cx}(hc:X.calm=true):CallR X (.type "list") Jh4:=by
 intro pins s σ H xs us Q I r h;obtain⟨p,a,kvs,rfl,hv,hq,q⟩:=h;obtain⟨u,rfl,rx⟩:=U9 r;cases rx;obtain⟨vs,ep,rl,dd,_,hz⟩:=Jbk I hq;have hl:kvs.length=vs.length:=KV.length rl;have vw:s.heap.IsItemsView p a:=(show ObjOk X.prog X.w H s.heap p (WG p a) from I.hok p _ hv).1;have hh:X.A.handled=none:=I.ok.hd hc;refine PySem.W.kdx_call hh vw dd (by rw[<- hl];exact hz) fun h' tk acc c as hk hS hal hG hacc=>?_
 have hnd:as.Nodup:=hG.rise.imp fun {x y} h=>Qw h
 have hLa:s.heap.objs.size∉as:=fun m=>absurd (hG.above _ m) (Gv _)
 have fr:∀b∈as,H b=none:=fun b hb=>I.hok.fresh (Gk (hG.above b hb))
 have hne:H s.heap.objs.size=none:=I.hok.fresh (Qn _)
 have hsize:as.length<=Qk:=by simp_all
 refine⟨.ref s.heap.objs.size,_,I.more (t':=tk) hk (fun b hb=>?_) (fun b o hb e=>?_),rfl,q s.heap.objs.size as hne (by rw[hal,hl]) hnd hLa fr⟩
 ·rw[Jf (Qw hb)];exact Uh fun m=>absurd (hG.above b m) (LI.mpr (Gk hb))
 ·by_cases hL:b=s.heap.objs.size
  ·subst hL;rw[Jl] at e;cases e;refine⟨by simp_all,acc.toList,c,?_,?_⟩
   ·rw[hacc]
    have:∀l:List Qd,Vals (l.map V.ref) (l.map Value.ref):=fun l=>by
     induction l with
     | nil=>exact .nil
     | cons x l ih=>exact .cons rfl ih
    exact this as
   ·rw[hS]
  ·rw[Jf hL] at e
   by_cases hm:b∈as
   ·obtain⟨j,hj⟩:=Q0.mp hm;obtain⟨key,k,x,e1,e2,e3⟩:=hG.pairs j b hj;have hjl:j<kvs.length:=by grind
    have hkv:kvs[j]?=some kvs[j]:=Gh hjl;obtain⟨u,hu,ru⟩:=rl.get hkv;rw[e1] at hu;cases hu;rw[Zl hnd hj hkv] at e;cases e;exact⟨by show 2<=Qk;decide,[key,x],.cons (Jho e2) (.cons ru .nil),⟨_,e3,rfl,_,rfl⟩⟩
   ·rw[Uh hm,I.hok.fresh hb] at e;cases e
end L2
namespace LE
open PySem L2 LR
noncomputable def Jbm(a:Ev):Ev:=fun E=>(a E).bind fun s=>s.dk.bind fun p=>some (.own (JfQ p.1 p.2))
section
variable{K:Qo}{C:Qd}{td:TE}{ed:Ev}
theorem Ja1{H:Hp}{kvs:List (Key×V)}{as:List Qd}(h:∀b∈as,H b=none):Same H (VI H as kvs):=fun b o e=>by grind[Uh]
theorem JeE{H:Hp}:∀{as:List Qd} {kvs:List (Key×V)} {b:Qd} {o:HO},VI H as kvs b=some o->H b=some o\/b∈as
 | [],_,_,_,e=>.inl e
 | _::_,[],_,_,e=>.inl e
 | a::as,kv::kvs,b,o,e=>by
  by_cases c:b=a
  ·simp_all
  ·rw[VI,Jf c] at e;exact(JeE e).imp id fun m=>Qq _ m
theorem RDL.items:∀{ks:List Int} {xs:List V} {ds:List D} {as:List Qd} {H:Hp},ks.length=ds.length->as.length=ks.length->(∀(j:Nat) (a:Qd) (k:Int) (x:V),as[j]?=some a->ks[j]?=some k->xs[j]?=some x->H a=some (.tup [.int k,x]))->RDL K C H xs ds->RDL K C H (as.map V.ref) (JfQ ks ds)
 | [],[],[],[],_,_,_,_,_=>.nil
 | [],_,_,a::as,_,_,h,_,_=>by simp at h
 | [],_,d::ds,_,_,h,_,_,_=>by simp at h
 | k::ks,_,[],_,_,h,_,_,_=>by simp at h
 | k::ks,_,_,[],_,_,h,_,_=>by simp at h
 | [],x::xs,[],[],_,_,_,_,h=>by have:=h.1;simp at this
 | k::ks,[],d::ds,a::as,_,_,_,_,h=>by have:=h.1;simp at this
 | k::ks,x::xs,d::ds,a::as,H,h1,h2,h3,h4=>by show RDL K C H (V.ref a::as.map V.ref) (.tup [.int k,d]::JfQ ks ds);refine .cons (.mkT (.of (h3 0 a k x rfl rfl rfl)) (.cons (.int k) (.cons h4.head .nil))) (RDL.items (by simpa using h1) (by simpa using h2) (fun j a k x e1 e2 e3=>h3 (j+1) a k x (by simpa using e1) (by simpa using e2) (by simpa using e3)) h4.tail)
theorem JkX(ha:SE K C td ed):SE K C (tCB Jh4 (Yf (JiE td) YZ)) (Jbm ed):=by
 intro B H0 H σ E r Q I e q;obtain⟨s,e1,e⟩:=bind_some e;obtain⟨p,e2,e⟩:=bind_some e;cases e;refine ha B H0 H σ E s _ I e1 fun x H1 H1' s1 r1=>?_
 obtain⟨l,xs,rfl,h,hk,rl⟩:=r1.dk s1.i e2;refine⟨l,_,rfl,h,fun w hw=>?_⟩;have st:Step H1' H1 H1' H1 (upd H1' w (WG w l)):=⟨.new hw,Same.refl _,fun _ _ e=>.inl e,s1.i.trans (.new hw)⟩
 have s2:=s1.trans st;refine⟨w,l,_,rfl,Jl,Rd.put h hw,fun L as hL hal hnd hLa hfr=>?_⟩;rw[LU,QB,rl.1,hk,Nat.min_self] at hal
 have fr0:∀b∈as,H1 b=none:=fun b hb=>Same.free s2.i (hfr b hb)
 have frH:∀b∈as,H b=none:=fun b hb=>Same.free s2.h (hfr b hb)
 have hL0:H1 L=none:=Same.free s2.i hL
 have z0:Same H1 (VI H1 as ((p.1.map Sum.inl:List Key).zip xs)):=Ja1 fr0
 have zz:Same (upd H1' w (WG w l)) (VI (upd H1' w (WG w l)) as ((p.1.map Sum.inl:List Key).zip xs)):=Ja1 hfr
 have hLl:VI (upd H1' w (WG w l)) as ((p.1.map Sum.inl:List Key).zip xs) L=none:=by rw[Uh hLa];exact hL
 have ii:Same (VI H1 as ((p.1.map Sum.inl:List Key).zip xs)) (VI (upd H1' w (WG w l)) as ((p.1.map Sum.inl:List Key).zip xs)):=fun b o e=>by
  by_cases hb:b∈as
  ·obtain⟨j,hj⟩:=Q0.mp hb
   have hjl:j<((p.1.map Sum.inl:List Key).zip xs).length:=by
    rw[LU,QB,rl.1,hk,Nat.min_self]
    grind
   have hkv:=Gh hjl;rw[Zl hnd hj hkv] at e ⊢;exact e
  ·rw[Uh hb] at e ⊢;exact s2.i b o e
 refine q _ (VI H1 as ((p.1.map Sum.inl:List Key).zip xs)) _ ⟨(s2.h.trans zz).trans (.new hLl),s2.z.trans z0,fun b o e=>?_,ii.trans (.new hLl)⟩ ⟨L,as.map V.ref,rfl,Jl,by rw[Uh hLa];exact hL0,Same.free s2.h hL,?_⟩
 ·rcases JeE e with z|z
  ·exact s2.n b o z
  ·exact .inr (.inl (frH b z))
 ·refine RDL.items (xs:=xs) hk (by rw[hal,hk]) (fun j a k x j1 j2 j3=>?_) (rl.mono z0);exact Zl hnd j1 (by rw[Jas,j2,j3])
end
end LE

namespace L2
open PySem PySem.Spec PyProof.Rows
noncomputable def wo:List Qd->QC->QC
 | [],h=>h
 | a::l,h=>(wo l h).update a fun _=>{ cls:=.none,data:=.freed }
theorem Jgq(h:QC)(a:Qd):(h.update a fun _=>{ cls:=.none,data:=.freed }).get? a=none:=by
 cases q:(h.update a fun _=>({ cls:=.none,data:=.freed }:Obj)).get? a with
 | none=>rfl
 | some o =>
  obtain⟨e,f⟩:=Heap.get?_some_iff.mp q;obtain⟨os,l⟩:=h;simp only[Heap.update,Array.getElem?_modify,if_true] at e
  cases z:os[a]? with
  | none=>rw[z] at e;cases e
  | some u=>rw[z] at e;cases e;cases f
theorem Jfa{h:QC}{b:Qd}:∀{l:List Qd},b∈l->(wo l h).get? b=none
 | [],hb=>nomatch hb
 | a::l,hb=>by
  unfold wo
  by_cases e:a=b
  ·subst e;exact Jgq _ _
  ·rw[QE _ _ e];exact Jfa ((Qr.mp hb).resolve_left (QL e))
theorem Jb4{h:QC}{b:Qd}:∀{l:List Qd},b∉l->(wo l h).get? b=h.get? b
 | [],_=>rfl
 | a::l,hb=>by unfold wo;rw[QE _ _ (fun e=>hb (by rw[e];exact QD))];exact Jb4 fun z=>hb (Qq _ z)
theorem JjB{h base base':QC}{l:List Env}:h.FunFrames base l->(∀b∈frs l,base'.get? b=none)->h.FunFrames base' l:=by
 induction l with
 | nil=>intros;trivial
 | cons env l ih =>
  intro z n;obtain⟨hk,⟨L,o,hf,hn,ho,hd⟩,hr⟩:=z;have e:frs (env::l)=L::frs l:=by unfold frs;simp_all
  rw[e] at n;exact⟨hk,⟨L,o,hf,n L QD,ho,hd⟩,ih hr fun b hb=>n b (Qq _ hb)⟩
theorem Jbq{h base:QC}{l:List Env}(x:h.FunFrames base l){b:Qd}(hb:b∈frs l):base.get? b=none/\∃o,h.get? b=some o/\∀vs,o.data≠.fields vs:=x.mem hb
theorem ObjOk.there{P:Qm}{w:Qp}{H:Hp}{h:QC}{a:Qd}{o:HO}(x:ObjOk P w H h a o):∃u,h.get? a=some u:=by
 cases o with
 | lst xs=>obtain⟨_,_,_,_,e⟩:=x;exact⟨_,e⟩
 | tup xs=>obtain⟨_,_,_,p⟩:=x;obtain⟨o,e,_⟩:=p;exact⟨_,e⟩
 | dK kvs|dT kvs=>obtain⟨_,_,_,_,o,_,_,e,_⟩:=x;exact⟨_,e⟩
 | set S n=>obtain⟨o,_,_,_,e,_⟩:=x;exact⟨_,e⟩
 | ins C dx fs=>obtain⟨_,_,_,e,_⟩:=x;exact⟨_,e⟩
 | own y=>solve_by_elim
 | xd fs=>obtain⟨_,⟨_,_,_,e,_⟩,_⟩:=x;exact⟨_,e⟩
 | rng lo hi=>obtain⟨_,_,_,e⟩:=x;exact⟨_,e⟩
 | frz ob u=>obtain⟨e,_⟩:=x;exact⟨_,e⟩
 | tbl ps l c q =>
  rcases x with e|⟨_,_,_,e,_⟩
  ·exact⟨_,e⟩
  ·exact⟨_,e⟩
 | met f y=>exact⟨_,(show h.get? a=some _ from x)⟩
 | ext φ=>obtain⟨_,⟨_,e⟩,_⟩:=x;exact⟨_,e⟩

noncomputable def TrD(h base:QC)(e:Qd)(cls:Qc)(dct:Option Qd)(fl:Qc):Prop :=
 ∃oe vs T oT ts,h.get? e=some oe/\(oe.cls=cls/\oe.dict=dct)/\oe.data=.fields vs/\vs[1]?=some (.ref T)/\base.get? T=none/\T≠e/\h.get? T=some oT/\oT.data=.fields ts/\ts[3]?=some fl
noncomputable def Fl(base:QC)(l:List Env)(e:Qd)(cls:Qc)(h:QC):Prop :=
 base.StaysIn h/\base.get? e=none/\h.FunFrames base l/\(TrD h base e (LE.Jav cls) (LE.Jdu cls) .none\/∃oe vs,h.get? e=some oe/\(oe.cls=LE.Jav cls/\oe.dict=LE.Jdu cls)/\oe.data=.fields vs/\vs[1]?=some .none)
noncomputable def Cov(fs:List Qd)(H':Hp)(h h' base:QC):Prop:=∀b o,(H' b≠none\/∃u,h.get? b=some u)->b∉fs->h'.get? b=some o->base.get? b=some o
structure XF (P:Qm) (w:Qp) (l:List Env) (H:Hp) (h:QC) (a:Qd) (cls:Qc) (H':Hp) (base h':QC):Prop where
 un:Un (frs l) [] H H' h h'
 hok:HOk P w H' h'
 fl:Fl base l a cls h'
 cov:Cov (frs l) H' h h' base
 free:H' a=none
 new:h.get? a=none
noncomputable def CX1(P:Qm)(w:Qp):CXT:=fun l H s E e s'=>∃(a:Qd) (cls:Qc) (H':Hp) (base:QC),e=.ref a/\s'.os=s.os/\AllBare s'.gens/\XF P w l H s.heap a cls H' base s'.heap/\E cls (some a) H'
section
variable{P:Qm}{w:Qp}{l:List Env}{H H':Hp}{h h1 h2 base base0:QC}{a:Qd}{cls:Qc}
theorem XF.on(x:XF P w l H h a cls H' base h1)(hf:h.FunFrames base0 l)(hn:∀b∈frs l,H b=none)(k:base.StaysIn h2)(us:h1.UpToSlots h2)(fl:Fl base l a cls h2):XF P w l H h a cls H' base h2:=by
 have ff:∀b∈frs l,∃o,h1.get? b=some o/\∀vs,o.data≠.fields vs:=fun b hb=>(Jbq x.fl.2.2.1 hb).2
 have nfr:∀b u,H' b=some u->b∉frs l:=fun b u e hb=>by obtain⟨_,o,ho,_⟩:=Jbq hf hb;rw[x.un.free b o ho (hn b hb) (by simp)] at e;cases e
 refine⟨⟨fun b o q n hb hx=>?_,fun b o q n hb hx=>?_,x.un.free,fun b o q hx=>?_,x.un.tups,x.un.frzs,x.un.tbls⟩,fun b u e=>?_,fl,fun b o hb hfr q=>?_,x.free,x.new⟩
 ·exact k b o (x.cov b o (.inr ⟨_,q⟩) hb (x.un.keep b o q n hb hx))
 ·obtain⟨sl,e1⟩:=x.un.slot b o q n hb hx;obtain⟨o',e2,nf⟩:=ff b hb;rw[e1] at e2;cases e2;obtain⟨sl',e3⟩:=us b _ e1 nf;exact⟨sl',e3⟩
 ·obtain⟨o',e1⟩:=x.un.there b o q hx
  by_cases hb:b∈frs l
  ·obtain⟨o2,e2,nf⟩:=ff b hb;obtain⟨sl',e3⟩:=us b _ e2 nf;exact⟨_,e3⟩
  ·exact⟨o',k b o' (x.cov b o' (.inr ⟨_,q⟩) hb e1)⟩
 ·refine(x.hok b u e).stay (fun c v hc q=>?_) (fun _ z=>z) fun _ _ z=>z
  have tr:∃u',H' c=some u':=by grind
  obtain⟨u',e'⟩:=tr;exact k c v (x.cov c v (.inl (by simp_all)) (nfr c u' e') q)
 ·have ex:∃o',h1.get? b=some o':=by
   rcases hb with hb|⟨u,hb⟩
   ·cases e:H' b with
    | none=>exact absurd e hb
    | some u=>exact(x.hok b u e).there
   ·exact x.un.there b u hb (by simp)
  obtain⟨o',e1⟩:=ex;have e2:=x.cov b o' hb hfr e1;have e3:=k b o' e2
  simp_all
end
theorem Jj0(o:Obj)(f:Array Qc->Array Qc):(o.mapFields f).dict=o.dict:=by obtain⟨c,d,dt,sl⟩:=o;cases dt <;> rfl
section
variable{M:Model}{A:Qx}{E:Qc->Qe->Prop}{s:Qe}{base:QC}{env:Env}{outer l:List Env}{L e:Qd}{cls fl:Qc}{dct:Option Qd}{Q:Unit->Qe->Prop}
theorem Jg0{oe:Obj}{vs:Array Qc}{head:Qc}{had:Bool}(hfr:A.frames=some (env::outer))(hl:s.heap.FunFrames base (env::outer))(hf:env.frame=some L)
 (he:s.heap.get? e=some oe) (hkb:base.StaysIn s.heap) (hen:base.get? e=none) (hd:oe.data=.fields vs) (hsz:1<vs.size)
 (h:∀h',base.StaysIn h'->h'.FunFrames base (env::outer)->TrD h' base e oe.cls oe.dict (rawInt L)->s.heap.UpToSlots h'->Q () { s with heap:=h' }) :
 wpAny M A (do let a <- frameOf env;let pl <- entryPlaceOf L had;let b <- Rh head a .none (rawInt L) .none pl;setField (.ref e) 1 b) Q E s:=by
 refine Qa (wpAny_frameOf_fun hfr hl hf fun h₁ hs₁=>Qa (wpAny_entryPlaceOf fun pl hpl=>?_));unfold Rh newFields;refine Qa (QO ?_ (hpl.sizeOk5 _ _ _ _ _))
 have ne:e∉(env::outer).filterMap (·.frame):=fun hm=>by
  obtain⟨_,o,ho,nf⟩:=hl.mem hm
  simp_all
 have e1:h₁.get? e=some oe:=(hs₁.2.1 e ne).trans he
 have b1:base.StaysIn h₁:=fun b o hb=>(hs₁.2.1 b fun hm=>by rw[(hl.mem hm).1] at hb;cases hb).trans (hkb b o hb)
 generalize hot:({ cls:=.type "traceback",dict:=none,data:=.fields ([head,.ref L,.none,rawInt L,.none]++(if pl.isEmpty then QQ 6 Value.none else pl)).toArray }:Obj)=ot
 have hotd:ot.data=.fields ([head,.ref L,.none,rawInt L,.none]++(if pl.isEmpty then QQ 6 Value.none else pl)).toArray:=by rw[<- hot]
 have hotf:ot.isFreed=false:=by rw[<- hot];rfl
 have e2:=Qg (h:=h₁) ot e1;refine GC e2 hd hsz ?_
 have d3:=Q3 hd (·.setIfInBounds 1 (Value.ref h₁.objs.size))
 have e3:=QP (G4 (·.setIfInBounds 1 (Value.ref h₁.objs.size))) e2 (GG d3)
 have tne:h₁.objs.size≠e:=Q1 (Qj e1)
 have t3:=(QE (h₁.push ot) (G4 (·.setIfInBounds 1 (Value.ref h₁.objs.size))) (QL tne)).trans (Qh h₁ hotf)
 have keep:∀b o,b≠e->h₁.get? b=some o->((h₁.push ot).update e (G4 (·.setIfInBounds 1 (Value.ref h₁.objs.size)))).get? b=some o:=fun b o hb q=>by rw[QE _ _ (QL hb)];exact Qg _ q
 have nrec:∀b o,s.heap.get? b=some o->(∀ws,o.data≠.fields ws)->b≠e:=fun b o hb nf z=>by simp_all
 refine h _ (fun b o hb=>keep b o (fun z=>by simp_all) (b1 b o hb)) (hl.of_keeps fun b o hb nf=>?_) ⟨_,_,h₁.objs.size,_,_,e3,⟨K0 _ _,Jj0 _ _⟩,d3,by simp[hsz],b1.fresh,tne,t3,hotd,by simp_all⟩ fun b o hb nf=>?_
 ·obtain⟨sl,hs⟩:=hs₁.2.2 b o hb;exact⟨_,keep b _ (nrec b o hb nf) hs,rfl⟩
 ·obtain⟨sl,hs⟩:=hs₁.2.2 b o hb;exact⟨sl,keep b _ (nrec b o hb nf) hs⟩
theorem Jbr(hkb:base.StaysIn s.heap)(hl:s.heap.FunFrames base l)(ht:TrD s.heap base e cls dct fl)
 (h:∀h',base.StaysIn h'->h'.FunFrames base l->TrD h' base e cls dct .none->s.heap.UpToSlots h'->Q () { s with heap:=h' }):wpAny M A (setFlight (.ref e) none) Q E s:=by
 obtain⟨oe,vs,T,oT,ts,he,hc,hd,h1,nT,hTe,hT,dT,h3⟩:=ht;have sz:3<ts.size:=(G9.mp h3).1;unfold setFlight;refine Qa (QM he hd h1 ?_);rw[if_pos (show(Value.ref T != Value.none)=true from by simp)];have other:∀b,b≠T->(s.heap.update T (G4 (·.setIfInBounds 3 ((none:Option Qd).elim Value.none fun f=>rawInt f)))).get? b=s.heap.get? b:=fun b hb=>QE _ _ (QL hb)
 have nrec:∀b o,s.heap.get? b=some o->(∀ws,o.data≠.fields ws)->b≠T:=fun b o hb nf z=>by simp_all
 refine GC hT dT sz (h _ (fun b o hb=>(other b fun z=>by simp_all).trans (hkb b o hb)) (hl.of_keeps fun b o hb nf=>⟨o,(other b (nrec b o hb nf)).trans hb,rfl⟩) ?_ fun b o hb nf=>⟨o.slots,(other b (nrec b o hb nf)).trans hb⟩);exact⟨oe,vs,T,_,_,(other e (QL hTe)).trans he,hc,hd,h1,nT,hTe,QP _ hT (GG (Q3 dT _)),Q3 dT _,by simp[sz]⟩
theorem Jet(hfr:A.frames=some (env::outer))(hf:env.frame=some L)(x:Fl base (env::outer) e cls s.heap)
 (hQ:∀h',base.StaysIn h'->h'.FunFrames base (env::outer)->TrD h' base e (LE.Jav cls) (LE.Jdu cls) (rawInt L)->s.heap.UpToSlots h'->Q () { s with heap:=h' }):wpAny M A (noteFrame (.ref e) env) Q E s:=by
 obtain⟨k1,k2,k3,tr|⟨oe,vs,he,hc,hd,h1⟩⟩:=x
 ·obtain⟨oe,vs,T,oT,ts,he,hc,hd,h1,nT,hTe,hT,dT,h3⟩:=tr;unfold noteFrame;simp only[hf];refine Qa (QM he hd h1 ?_);rw[if_pos (show(Value.ref T != Value.none)=true from by simp)];refine Qa (QM hT dT h3 ?_);rw[if_neg (show ¬((Value.none == rawInt L)=true) from by simp[rawInt])];refine Qa (GC hT dT (G9.mp h3).1 ?_);have other:∀b,b≠T->(s.heap.update T (G4 (·.setIfInBounds 3 Value.none))).get? b=s.heap.get? b:=fun b hb=>QE _ _ (QL hb)
  have nrec:∀b o,s.heap.get? b=some o->(∀ws,o.data≠.fields ws)->b≠T:=fun b o hb nf z=>by simp_all
  refine Jg0 hfr (k3.of_keeps fun b o hb nf=>⟨o,(other b (nrec b o hb nf)).trans hb,rfl⟩) hf ((other e (QL hTe)).trans he)
   (fun b o hb=>(other b fun z=>by simp_all).trans (k1 b o hb)) k2 hd (G9.mp h1).1 fun h' x1 x2 x3 x4=>?_
  rw[hc.1,hc.2] at x3;exact hQ h' x1 x2 x3 fun b o hb nf=>x4 b o ((other b (nrec b o hb nf)).trans hb) nf
 ·unfold noteFrame;simp only[hf];refine Qa (QM he hd h1 ?_);rw[if_neg (by decide)];refine Jg0 hfr k3 hf he k1 k2 hd (G9.mp h1).1 fun h' x1 x2 x3 x4=>?_
  simp_all
theorem Jhb(hfr:A.frames=some (env::outer))(hf:env.frame=some L)(x:Fl base (env::outer) e cls s.heap)
 (hQ:∀h',Fl base (env::outer) e cls h'->Fl base outer e cls h'->s.heap.UpToSlots h'->Q () { s with heap:=h' }):wpAny M A (leaving env (.ref e)) Q E s:=by
 have k2:=x.2.1;unfold leaving;refine Qa (Jet hfr hf x fun h1 x1 x2 x3 x4=>?_);refine Jbr (s:={ s with heap:=h1 }) x1 x2 x3 fun h2 y1 y2 y3 y4=>?_
 exact hQ h2 ⟨y1,k2,y2,.inl y3⟩ ⟨y1,k2,y2.2.2,.inl y3⟩ (x4.trans y4)
end

noncomputable def XP(X:Cx)(pins:List (Qd×Obj))(σ:St)(E:XK)(e:Qc)(s':Qe):Prop:=∃H s,Inv X pins σ H s/\CX1 X.prog X.w X.stack H s E e s'
section
variable{X:Cx}{pins:List (Qd×Obj)}{σ:St}{H H':Hp}{s s':Qe}{base:QC}{a:Qd}{cls:Qc}{E:XK}{e:Qc}
theorem Inv.fly(I:Inv X pins σ H s)(ho:s'.os=s.os)(hg:AllBare s'.gens)(x:XF X.prog X.w X.stack H s.heap a cls H' base s'.heap):Inv X pins σ H' s':=I.call' ho x.un x.hok hg fun b hb=>nomatch hb
theorem XP.made{args:List Qc}{h':QC}{ea:Qd}(I:Inv X pins σ H s)(m:Heap.MadeExcOf s.heap h' ea cls args)(q:E cls (some ea) H)(k1:LE.Jav cls=cls)(k2:LE.Jdu cls=none):XP X pins σ E (.ref ea) { s with heap:=h' }:=by
 have nf:∀b∈frs X.stack,∃o,s.heap.get? b=some o:=fun b hb=>by obtain⟨_,o,ho,_⟩:=Jbq I.stack hb;exact⟨o,ho⟩
 obtain⟨t,ht,_,_⟩:=m.there;refine⟨H,s,I,ea,cls,H,wo (frs X.stack) s.heap,rfl,rfl,I.bare,⟨⟨fun b o q _ _ _=>m.keeps b o q,fun b o q _ _ _=>⟨o.slots,m.keeps b o q⟩,fun _ _ _ n _=>n,fun b o q _=>⟨o,m.keeps b o q⟩,fun _ _ z=>z,fun _ _ _ z=>z,fun _ _ _ _ _ z=>z⟩,I.hok.kept m.keeps,⟨fun b o q=>?_,?_,?_,.inr ⟨_,_,ht,⟨k1.symm,k2.symm⟩,rfl,rfl⟩⟩,fun b o hb hfr q=>?_,?_,m.new⟩,q⟩
 ·by_cases hb:b∈frs X.stack
  ·rw[Jfa hb] at q;cases q
  ·rw[Jb4 hb] at q;exact m.keeps b o q
 ·by_cases hb:ea∈frs X.stack
  ·exact Jfa hb
  ·rw[Jb4 hb];exact m.new
 ·exact(JjB I.stack fun b hb=>Jfa hb).of_keeps fun b o q _=>⟨o,m.keeps b o q,rfl⟩
 ·rw[Jb4 hfr]
  have ex:∃u,s.heap.get? b=some u:=by
   rcases hb with hb|hb
   ·cases e:H b with
    | none=>exact absurd e hb
    | some u=>exact(I.hok b u e).there
   ·exact hb
  obtain⟨u,hu⟩:=ex;have:=m.keeps b u hu
  simp_all
 ·cases e:H ea with
  | none=>rfl
  | some u=>obtain⟨o,ho⟩:=(I.hok ea u e).there;rw[m.new] at ho;cases ho
theorem XP.leave{M:Model}{E':Qc->Qe->Prop}{A:Qx}(hA:A.frames=some X.stack)(hs:X.stack=X.env::X.outer)(hf:X.env.frame=some X.env.locals)(hx:X.ex=[])(x:XP X pins σ E e s') :
 wpAny M A (leaving X.env e) (fun _ s''=>CX1 X.prog X.w X.outer X.H₀ X.s₀ E e s'') E' s':=by
 obtain⟨H,s,I,a,cls,H',base,rfl,ho,hg,xf,q⟩:=x;have fl:=xf.fl;rw[hs] at fl hA;refine Jhb hA hf fl fun h' f1 f2 us=>?_
 have y:=xf.on I.stack I.stkFree f1.1 us (by rw[hs];exact f1)
 have J:Inv X pins σ H' { s' with heap:=h' }:=I.fly ho hg y
 have hfs:frs X.stack=X.env.locals::frs X.outer:=by rw[hs];unfold frs;simp_all
 have nl:∀b o,X.s₀.heap.get? b=some o->b≠X.env.locals:=fun b o q z=>by have h1:=Qj q;rw[z] at h1;exact absurd h1 (LI.mpr I.ok.above)
 refine⟨a,cls,H',base,rfl,J.os,hg,⟨?_,J.hok,f2,fun b o hb hfr q=>?_,y.free,?_⟩,q⟩
 ·have:=J.base;simp_all
 ·refine y.cov b o ?_ ?_ q
  ·rcases hb with hb|⟨u,hb⟩
   ·exact .inl hb
   ·exact .inr (I.base.there b u hb (by rw[hx];simp))
  ·rw[hfs];intro z;rcases Qr.mp z with z|z
   ·rcases hb with hb|⟨u,hb⟩
    ·rw[z] at hb;exact hb J.free
    ·exact nl b u hb z
   ·exact hfr z
 ·cases z:X.s₀.heap.get? a with
  | none=>rfl
  | some u=>obtain⟨o,e⟩:=I.base.there a u z (by rw[hx];simp);rw[y.new] at e;cases e
end
end L2

namespace L2
open PySem PySem.Spec PyProof.Rows PySem.Calls
abbrev VEm:List Qc:=[.type "ValueError",.type "Exception",.type "BaseException",.type "object"]
section
variable{P:Qm}{w:Qp}{K:Qo}{mg:Str->Option Qc}{base:QC}{N:List Str}{qual:Str}{scope:LX}{f:Qd}{cd:Qc}{A:Qx}{outer:List Env}{s:Qe}{H:Hp}{E:XK}
noncomputable def XOk(X:Cx)(E:XK):Prop:=∀(pins:List (Qd×Obj)) (σ:St) (e:Qc) (s':Qe),XP X pins σ E e s'->X.xe e s'
theorem xok_cx:XOk (Jay (CX1 P w) P w K mg base N qual scope f cd A outer s H E) E:=fun pins σ e s' x=>by
 have hA:(A.deeper (envOfC qual scope s.heap.objs.size f cd)).frames=some (Jay (CX1 P w) P w K mg base N qual scope f cd A outer s H E).stack:=by obtain⟨H1,s1,I,_⟩:=x;exact I.ok.frames
 exact XP.leave hA rfl rfl rfl x
theorem XOk.passes{X:Cx}{E:XK}(h:XOk X E):Vd (CX1 X.prog X.w) X E:=fun pins σ H s e s' I cx=>h pins σ e s' ⟨H,s,I,cx⟩
noncomputable def EF:XK:=fun _ _ _=>False
theorem JcS{X:Cx}:Vd (CX1 X.prog X.w) X EF:=fun _ _ _ _ _ _ _ z=>by obtain⟨_,_,_,_,_,_,_,_,q⟩:=z;exact q.elim
theorem Fun.okX{x qual:Str}{st:Gs}{f:Qd}{fd:Qt}{N ps:List Str}{k:Nat}{sp:Sp}(F:Fun K x qual st f fd)(S:FnScope N ps (Ji st))(len:∀vs H Q E,sp vs H Q E->vs.length=ps.length)
 (hbody:∀(cdv:Qc) (A:Qx) (outer:List Env) (s:Qe) (H:Hp) (vs:List V) (Q:VK) (E:XK),Room k (A.deeper (envOfC qual (Ji st) s.heap.objs.size f cdv))->sp vs H Q E ->
  ∃t,PSs (Jay (CX1 P w) P w K mg base N qual (Ji st) f cdv A outer s H E) (YM st) t/\t { nx:=fun _ H'=>Q .non H',rt:=Q } (YW N vs) H):FnOk P w K mg base (CX1 P w) (k+1) f fd ps sp:=by
 obtain⟨oc,od,kV,doc,pm,an,cdv,ct,osl,rfl,lk,hcd⟩:=F.ex;exact JlG lk hcd S len fun A outer s H vs Q E hr hsp=>hbody cdv A outer s H vs Q E hr hsp
end
noncomputable def Jec(C:Qd)(E:XK)(t:TA):TS:=fun D σ H=>t σ H fun vs H1=>vs.length<=Qk/\∀a,E (.ref C) (some a) H1
section
variable{X:Cx}{x:Str}{np cpos pos:Pos}{C:Qd}{E:XK}{e:QV}{es:List QV}{t:TA}
theorem Jjg{K:Qo}{h:QC}{bmB:List Qc}{newId:String}(X:K.In h)(q:excIn K C bmB newId=true):∃bm N nm q bs hdct sn sub ab col dd k0 k1 k2 k3 k5 mN,h.get? C=some (excClassObj nm q C N bs bm hdct sn sub ab col dd k0 k1 k2 k3 k5 newId)/\h.Ns N mN/\mN "__init__"=none/\OwnTail h bmB bm:=by
 unfold excIn at q;split at q
 ·rename_i dd cd sl ho;split at q
  ·rename_i C' bm k0 k1 k2 k3 n k5 hm hs;simp only[QU,beq_iff_eq,Bool.not_eq_true'] at q;obtain⟨⟨⟨⟨⟨rfl,rfl⟩,hdel⟩,ht⟩,hok⟩,hni⟩:=q;obtain⟨nm,bs,mro,ns,qn,hd,sn,sub,ab,col,del⟩:=cd;dsimp only at hm hdel hok hni;subst hm hdel
   have hsl:sl=#[k0,k1,k2,k3,some (.builtin n),k5]:=by obtain⟨l⟩:=sl;simp only at hs;rw[hs]
   subst hsl;exact⟨bm,ns,nm,qn,bs,hd,sn,sub,ab,col,dd,k0,k1,k2,k3,k5,_,X _ _ ho,.of_isNs (PySem.W.isNs_of_in X hok),PySem.W.nsMap_none_of_in X hok hni,PySem.W.tail_of_in X ht⟩
  ·cases q
 ·cases q
theorem JhX(ok:excIn X.K C VEm "ValueError.__new__"=true)(hg:Gl X x)(hm:X.mg x=some (.ref C))(hc:X.calm=true)(hx:XOk X E)(ha:PA X (e::es) t)(hdb:(x == ("__debug__":Str))=false:=by decide)
 (he:starEach (e::es) X.env=(false,eval e X.env)::starEach es X.env:=by rfl) (hpl:(backTo cpos (starEach es X.env)).any (·.1)=false:=by rfl) :
 PS X (.Raise (some (.Call (.Name x np) (e::es) [] cpos)) none pos) (Jec C E t):=by
 intro pins s σ H D I h;obtain⟨tl,N,nm,q,bs,hdct,sn,sub,ab,col,dd,k0,k1,k2,k3,k5,mN,hC,hN,hni,T⟩:=Jjg (h:=X.base) I.ok.mod.kin ok;refine wpAny_Raise_call_subU (C:=C) (nm:=nm) (q:=q) (N:=N) (bs:=bs) (bm:=tl) (hdct:=hdct) (sn:=sn) (sub:=sub) (ab:=ab) (col:=col) (dd:=dd) (k0:=k0) (k1:=k1) (k2:=k2) (k3:=k3) (k5:=k5)
  K5 (by decide) K5 (mN:=mN) (T.hasType K5.hasBase) (I.ok.hd hc) (by rw[he];show(false || (backTo cpos (starEach es X.env)).any (·.1))=false;rw[hpl];rfl) hni (VB I hg hm ⟨rfl,?_⟩ hdb)
 have h1:=ha cpos pins s σ H _ I h;rw[he] at h1 ⊢;refine K3 (G5 h1 (fun us s₂ ⟨vs,H1,I1,r,hl,q⟩=>⟨rfl,by rw[<- r.length];exact hl,I1.bk _ _ hC,hN.keeps I1.bk,T.keeps I1.bk,fun h' a m=>hx pins σ _ _ (XP.made I1 m (q a) rfl rfl)⟩) fun _ _ y=>y)
end
end L2

namespace L2
open PySem PySem.Spec PyProof.Rows PySem.Calls
noncomputable def XS(X:Cx)(pins:List (Qd×Obj))(E:St->XK)(e:Qc)(s':Qe):Prop:=∃σ',XP X pins σ' (E σ') e s'
noncomputable def PX(X:Cx)(e:QV)(T:XK->TE):Prop :=
 ∀(pins:List (Qd×Obj)) (s:Qe) (σ:St) (H:Hp) (Q:VK) (E:XK),Inv X pins σ H s->T E σ H Q->wpAny (model X.prog X.w) X.A (eval e X.env) (EP X pins σ Q) (XP X pins σ E) s
noncomputable def PCS(X:Cx)(st:Gs)(T:(St->XK)->TS):Prop :=
 ∀(pins:List (Qd×Obj)) (s:Qe) (σ:St) (H:Hp) (D:Ends) (E:St->XK),Inv X pins σ H s->T E D σ H->wpAny (model X.prog X.w) X.A (exec st X.env) (SP X pins D) (XS X pins E) s
noncomputable def Jl7(X:Cx)(st:List Gs)(T:(St->XK)->TS):Prop :=
 ∀(pins:List (Qd×Obj)) (s:Qe) (σ:St) (H:Hp) (D:Ends) (E:St->XK),Inv X pins σ H s->T E D σ H->wpAny (model X.prog X.w) X.A (execs st X.env) (SP X pins D) (XS X pins E) s
structure CalX (P:Qm) (w:Qp) (K:Qo) (mg:Str->Option Qc) (base:QC) (x:Str) (k:Nat) (ps:List Str) (sp:Sp):Prop where
 ex:∃(f:Qd) (fd:Qt),FnOk P w K mg base (CX1 P w) k f fd ps sp/\mg x=some (.ref f)/\keepIn K (.ref f)=true/\Binds K fd ps []
noncomputable def Jed(T:XK->TE):(St->XK)->TS:=fun E D σ H=>T (E σ) σ H fun _ H1=>D.nx σ H1
section
variable{X:Cx}{k:Nat}{C:Qd}{ps:List Str}{sp:Sp}{x:Str}{p pos:Pos}{e:QV}{es:List QV}{t:TA}{st:Gs}{YV:List Gs}{T:XK->TE}{TS1:(St->XK)->TS}{u:TS}
theorem YU{E:XK}(c:CalX X.prog X.w X.K X.mg X.base x k ps sp)(hr:Room k X.A)(hg:Gl X x)(hx:Vd (CX1 X.prog X.w) X E)(ha:PA X (e::es) t)(hdb:(x == ("__debug__":Str))=false:=by decide)
 (he:starEach (e::es) X.env=(false,eval e X.env)::starEach es X.env:=by rfl) (hpl:(backTo pos (starEach es X.env)).any (·.1)=false:=by rfl):PE X (.Call (.Name x p) (e::es) [] pos) (Za sp [] E t):=by
 obtain⟨f,fd,F,h1,h2,h3⟩:=c.ex;exact JeK F hr hg h1 h2 h3 .nil hx ha hdb he hpl
theorem Jkx(c:CalX X.prog X.w X.K X.mg X.base x k ps sp)(hr:Room k X.A)(hg:Gl X x)(ha:PA X.nox (e::es) t)(hdb:(x == ("__debug__":Str))=false:=by decide)
 (he:starEach (e::es) X.env=(false,eval e X.env)::starEach es X.env:=by rfl) (hpl:(backTo pos (starEach es X.env)).any (·.1)=false:=by rfl):PX X (.Call (.Name x p) (e::es) [] pos) (fun E=>Za sp [] E t):=by
 obtain⟨f,fd,F,h1,h2,h3⟩:=c.ex;intro pins s σ H Q E I h;refine Km (VB I hg h1 ?_ hdb);refine callWith_K (h₀:=X.base) I.ok.mod.kin h2 (G5 (ha pos pins s σ H _ (I.wish _) h) (fun us s1 ⟨vs,H1,I1,r,q⟩=>⟨I1.unwish.kIn,?_⟩) fun _ _ z=>GJ z) he hpl;have I1:=I1.unwish;have r2:Vals (vs++[]) (us++[]):=r.append .nil;have hl:(us++[]).length=ps.length:=by rw[<- r2.length];exact F.len _ _ _ _ q
 refine wpAny_call (KI (F.run X.A X.stack s1 H1 ⟨us,[]⟩ (us++[]) (vs++[]) Q E hr I1.env0 (h3 s1 us I1.kIn hl) r2 q) fun r s' hq=>?_)
 cases r with
 | error e=>exact⟨H1,s1,I1,hq⟩
 | ok fl =>
  cases fl with
  | ret u=>exact I1.after hq
  | next|brk|cont=>exact GJ hq
theorem JhM(h:PCS X st TS1):Jl7 X [st] TS1:=by
 intro pins s σ H D E I q;refine My (thn (h pins s σ H D E I q) fun f s1 q=>?_)
 cases f with
 | next=>exact KM q
 | ret v=>exact q
 | brk|cont=>exact q
theorem JhL(he:PX X e T)(hs:swapsWith e none pos.line X.env=pure false:=by rfl):PCS X (.Expr e pos) (Jed T):=by intro pins s σ H D E I h;exact wpAny_Expr_any (G5 (he pins s σ H _ _ I h) (fun v s1 ⟨x,H1,I1,r1,q1⟩=>⟨σ,H1,I1,q1⟩) fun _ _ z=>⟨σ,z⟩) I.quiet hs
end
end L2
namespace L2
open PySem PySem.Spec PyProof.Rows PySem.Calls LE
noncomputable abbrev Cx.hand(X:Cx)(a:Qd):Cx:={ X with A:=X.A.mark (some (.ref a)),calm:=false,xe:=fun _ _=>False }
noncomputable def JoH(K:Qo)(CL:Qd)(i:Nat)(T:(St->XK)->TS)(th:TS):TS:=fun D σ H=>T (fun σ' c oa H'=>∃a,oa=some a/\exmOne K (Jav c) (.ref CL)=some true ∧
 (H' a=none->th { nx:=fun σ2 H2=>D.nx (σ2.set i none) H2,rt:=D.rt,bk:=fun σ2 H2=>D.bk (σ2.set i none) H2,ct:=fun σ2 H2=>D.ct (σ2.set i none) H2 } (σ'.set i (some (.ref a))) (upd H' a (XO a c)))) D σ H
section
variable{X:Cx}{pins:List (Qd×Obj)}{σ:St}{H:Hp}{s:Qe}{a:Qd}
theorem Inv.hand(I:Inv X pins σ H s)(a:Qd):Inv (X.hand a) pins σ H s :=
 ⟨⟨I.ok.mod,I.ok.kind,I.ok.glob,I.ok.blt,I.ok.above,I.ok.inj,I.ok.has,I.ok.cab,(fun h=>nomatch h),I.ok.frames,I.ok.stk,I.ok.exf,I.ok.bs,I.ok.bsz,I.ok.noex,I.ok.exfs,I.ok.funs,I.ok.frf⟩,I.os,I.bare,I.base,I.loc,I.cell,I.free,I.freeC,I.pin,I.hok,I.len⟩
theorem Inv.unhand(hd:X.calm=true->X.A.handled=none)(I:Inv (X.hand a) pins σ H s):Inv X pins σ H s :=
 ⟨⟨I.ok.mod,I.ok.kind,I.ok.glob,I.ok.blt,I.ok.above,I.ok.inj,I.ok.has,I.ok.cab,hd,I.ok.frames,I.ok.stk,I.ok.exf,I.ok.bs,I.ok.bsz,I.ok.noex,I.ok.exfs,I.ok.funs,I.ok.frf⟩,I.os,I.bare,I.base,I.loc,I.cell,I.free,I.freeC,I.pin,I.hok,I.len⟩
theorem Inv.goes{i:Nat}{n:Str}{m:Str->Option Qc}{v:Option Qc}{h':QC}{t':Nat}(I:Inv X pins σ H s)(hi:X.N[i]?=some n)(hn:s.heap.Ns X.env.locals m)
 (hl:∀(i:Nat) (x:Str) (v:V),X.N[i]?=some x->σ[i]?=some (some v)->Vis X.env.scope x->∃u,RelV v u/\Jo6 X.env s.heap m x u) (hN:X.N.Nodup) (hn':h'.Ns X.env.locals (fun x=>if x=n then v else m x)) (hs:Qu X.env.locals s.heap h'):Inv X pins (σ.set i none) H { s with heap:=h',toks:=t' }:=by
 obtain⟨oL,_,_,hoL,_⟩:=id hn;have cne:=I.cne;have hiσ:i<σ.length:=by rw[I.len];exact(Qi.mp hi).1
 refine⟨I.ok,I.os,I.bare,⟨fun b o e n hb hx=>?_,fun b o e n hb hx=>?_,I.base.free,fun b o e hx=>?_,I.base.tups,I.base.frzs,I.base.tbls⟩,⟨_,hn',fun j y v' e1 e2 e3=>?_⟩,fun y c e=>?_,I.free,I.freeC,fun p hp=>?_,fun b ob e=>?_,by simpa using I.len⟩
 ·exact(hs.2 b (Qw (QN (Qj e) I.ok.above))).trans (I.base.keep b o e n hb hx)
 ·obtain⟨sl,e1⟩:=I.base.slot b o e n hb hx;exact⟨sl,(hs.2 b (Qw (QN (Qj e) I.ok.above))).trans e1⟩
 ·obtain⟨o',e1⟩:=I.base.there b o e hx;exact⟨o',(hs.2 b (Qw (QN (Qj e) I.ok.above))).trans e1⟩
 ·by_cases hj:j=i
  ·simp_all
  ·rw[QS (QL hj)] at e2;obtain⟨u',r',q⟩:=hl j y v' e1 e2 e3;refine⟨u',r',?_⟩
   have hyn:y≠n:=fun z=>hj (by
    rw[z] at e1;have h1:=(Qi.mp e1)
    have h2:=(Qi.mp hi)
    exact(Mx hN).mp (h1.2.trans h2.2.symm))
   rcases q with ⟨k1,k2⟩|⟨k1,c,k2,k3⟩
   ·exact .inl ⟨k1,by simp_all⟩
   ·refine .inr ⟨k1,c,k2,?_⟩;obtain⟨oc,e4,e5⟩:=k3;exact⟨oc,(hs.2 c (cne y c k2)).trans e4,e5⟩
 ·obtain⟨v,oc,e4,e5⟩:=I.cell y c e;exact⟨v,oc,(hs.2 c (cne y c e)).trans e4,e5⟩
 ·obtain⟨h1,h2,h3,h4⟩:=I.pin p hp;exact⟨(hs.2 p.1 h3).trans h1,h2,h3,h4⟩
 ·refine(I.hok b ob e).stay (fun c w' hc q=>(hs.2 c ?_).trans q) (fun _ q=>q) fun _ _ q=>q
  rintro rfl;rcases hc with rfl|hc
  ·rw[I.free] at e;cases e
  ·rw[I.free] at hc;cases hc
theorem Inv.track{o:HO}(I:Inv X pins σ H s)(hx:X.ex=[])(ha:H a=none)(h0:X.s₀.heap.get? a=none)(hL:a≠X.env.locals)(hC:∀x c,X.env.cells.lookup x=some c->c≠a)(hP:∀p∈X.pn++pins,p.1≠a)(new:ObjOk X.prog X.w (upd H a o) s.heap a o):Inv X pins σ (upd H a o) s:=by
 have nt:∀b u,H b=some u->b≠a:=fun b u e z=>by simp_all
 refine⟨I.ok,I.os,I.bare,⟨I.base.keep,I.base.slot,fun b u e n hb=>?_,I.base.there,fun b xs e=>?_,fun b u xs e=>?_,fun b ps l c z e=>?_⟩,I.loc,I.cell,?_,fun x c e=>?_,fun p hp=>?_,fun b u e=>?_,I.len⟩
 ·rw[Jf (fun z=>by simp_all)];exact I.base.free b u e n hb
 ·have:=I.base.tups b xs e;rw[Jf (nt _ _ this)];exact this
 ·have:=I.base.frzs b u xs e;rw[Jf (nt _ _ this)];exact this
 ·have:=I.base.tbls b ps l c z e;rw[Jf (nt _ _ this)];exact this
 ·rw[Jf (QL hL)];exact I.free
 ·rw[Jf (hC x c e)];exact I.freeC x c e
 ·obtain⟨h1,h2,h3⟩:=I.pin p hp;exact⟨h1,by rw[Jf (hP p hp)];exact h2,h3⟩
 ·by_cases hb:b=a
  ·grind[Jl]
  ·rw[Jf hb] at e;exact(I.hok b u e).stay (fun _ _ _ q=>q) (fun c q=>by rw[Jf (nt _ _ q)];exact q) fun c xs q=>by rw[Jf (nt _ _ q)];exact q
end
section
variable{X:Cx}{body suite:List Gs}{b₀:Gs}{i:Nat}{n cn:Str}{np hpos pos:Pos}{CL:Qd}{T:(St->XK)->TS}{th:TS}
theorem JnT(hs:X.stack=X.env::X.outer)(hf:X.env.frame=some X.env.locals)(hx:X.ex=[])(hN:X.N.Nodup)(hi:X.N[i]?=some n)(hk:X.env.kindOf n=some .local)(hg:Gl X cn)(hm:X.mg cn=some (.ref CL))
 (hb:Jl7 X body T) (hh:∀a,PSs (X.hand a) (b₀::suite) th) (hdb:(cn == ("__debug__":Str))=false:=by decide) :
 PS X (.Try body [.ExceptHandler (some (.Name cn np)) (some n) (b₀::suite) hpos] [] [] pos) (JoH X.K CL i T th):=by
 intro pins s σ H D I h;refine wpAny_Try_except (G5 (hb pins s σ H D _ I h) (fun f s1 q=>?_) fun e s1 zz=>?_)
 ·cases f with
  | next=>exact KM q
  | ret v=>exact q
  | brk|cont=>exact q
 ·obtain⟨σ',Hc,sc,Ic,a,cls,H',base,he,ho,hgn,xf,a',ea,hxm,hth⟩:=zz;subst he;cases ea;have fl:=xf.fl;rw[hs] at fl;have hfr:X.A.frames=some (X.env::X.outer):=by rw[<- hs];exact Ic.ok.frames
  refine Jet hfr hf fl fun h1 x1 x2 x3 x4=>?_
  refine Jbr (s:={ s1 with heap:=h1 }) x1 x2 x3 fun h2 y1 y2 y3 y4=>?_
  have J:Inv X pins σ' H' { s1 with heap:=h2 }:=Ic.fly ho hgn (xf.on Ic.stack Ic.stkFree y1 (x4.trans y4) (by rw[hs];exact⟨y1,fl.2.1,y2,.inl y3⟩))
  have LT:PySem.W.Looks (model X.prog X.w) h2 (typeOf (.ref a)) (Jav cls):=by obtain⟨oe,_,_,_,_,he,⟨hc,_⟩,_⟩:=y3;exact hc▸(PySem.W.Looks.ld he).andThen .now
  refine wpAny_handleBy_cons (codeAny_handlers_test (VB (X:=X.hand a) (J.hand a) hg hm ?_ hdb)) (by intro q;cases q);refine PySem.W.exm_one J.kIn LT hxm _ _ _ _ (fun _ _ q=>q) ?_;rw[if_pos rfl];refine codeAny_handlers_suite_as ?_;refine Jbr (s:={ s1 with heap:=h2 }) y1 y2 y3 fun h3 z1 z2 z3 z4=>?_
  have Y3:=xf.on Ic.stack Ic.stkFree z1 ((x4.trans y4).trans z4) (by rw[hs];exact⟨z1,fl.2.1,z2,.inl z3⟩)
  have J3:Inv X pins σ' H' { s1 with heap:=h3 }:=Ic.fly ho hgn Y3;obtain⟨oe,vs,_,_,_,he,⟨hc,hdn⟩,hd,_⟩:=z3
  have ncl:notCls oe=true:=by unfold notCls;rw[hd]
  have was:∀b o,sc.heap.get? b=some o->b≠a:=fun b o q z=>by rw[z,xf.new] at q;cases q
  have J4:Inv X pins σ' (upd H' a (XO a cls)) { s1 with heap:=h3 }:=by
   refine J3.track hx xf.free ?_ ?_ (fun x c e=>?_) (fun p hp=>?_) ⟨⟨oe,he,hc,ncl,hdn⟩,⟨oe,he⟩,fun g1 g2 ⟨o,q,r⟩ k=>⟨o,k o q,r⟩⟩
   ·cases z:X.s₀.heap.get? a with
    | none=>rfl
    | some u=>obtain⟨o,e⟩:=Ic.base.there a u z (by rw[hx];simp);exact absurd rfl (was a o e)
   ·obtain⟨m,⟨o,_,_,e,_⟩,_⟩:=Ic.loc;exact QL (was _ o e)
   ·obtain⟨v,o,e,_⟩:=Ic.cell x c e;exact was c o e
   ·exact was _ _ (Ic.pin p hp).1
  refine WB (X:=X.hand a) (J4.hand a) hN hi (.inl hk) (show RelV (.ref a) (.ref a) from rfl) (fun s4 I4=>?_) (.inr hk);refine G5 (hh a pins s4 _ _ _ I4 (hth xf.free)) (fun f s5 q=>?_) fun _ _ z=>GJ z
  have hp:(X.env.scope.kind == .class || (X.env.scope.kind == .module && X.env.locals != X.env.globals))=false:=by rw[I.ok.kind];rfl
  cases f with
  | next|brk|cont=>obtain⟨σ5,H5,I5,q5⟩:=q;have I5':=I5.unhand I.ok.hd;obtain⟨m,hn,hl⟩:=id I5'.loc;exact wpAny_nameGoes_keeps hk hn hp fun h6 v n6 s6=>⟨_,H5,I5'.goes hi hn hl hN n6 s6,q5⟩
  | ret u=>obtain⟨v5,σ5,H5,I5,r5,q5⟩:=q;have I5':=I5.unhand I.ok.hd;obtain⟨m,hn,hl⟩:=id I5'.loc;exact wpAny_nameGoes_keeps hk hn hp fun h6 v n6 s6=>⟨v5,_,H5,I5'.goes hi hn hl hN n6 s6,r5,q5⟩
end
end L2

namespace L2
open PySem PySem.Spec PyProof.Rows PySem.Calls LE
structure ExcN (K:Qo) (n:Str):Prop where
 pl:∀c,nsIn K mainGlobals n=some (some (.ref c))->findIn K (.ref c) "__getattribute__"=some (some (.builtin "BaseException.__getattribute__"))/\findIn K (.ref c) "__getattr__"=some none/\mroIn K c (.type "BaseException")=some true/\hasDictIn K c=true/\findIn K (.ref c) "__class__"=some (some (.builtin "object.__class__"))/\mroIn K c (.type "object")=some true
structure ExcG (K:Qo):Prop where
 hn:specialIn K (.builtin "object.__class__") "__get__"=some (some (.builtin "getset_descriptor.__get__"))
 htk:takesIn K (.builtin "object.__class__")=some true
section
variable{prog:Qm}{w:Qp}{A:Qx}{E:Qc->Qe->Prop}{s:Qe}{K:Qo}{x C D:Qd}{ox:Obj}
theorem Jfy{Q:Option Qc->Qe->Prop}(X:K.In s.heap){od:Option Obj}(I:InstAt s.heap x ox D od)(hga:findIn K (.ref D) "__getattribute__"=some (some (.builtin "BaseException.__getattribute__")))
 (hgn:findIn K (.ref D) "__getattr__"=some none) (hmB:mroIn K D (.type "BaseException")=some true)
 (hf:findObj K D od "__class__"=some (.bind (.builtin "getset_descriptor.__get__") (.builtin "object.__class__"))) (hm:mroIn K D (.type "object")=some true)
 (h:Q (some (.ref D)) { s with toks:=s.toks+1 }):wpAny (model prog w) A (getAttr? (.ref x) "__class__") Q E s:=by
 obtain⟨hh,g,d,t,os⟩:=s;have L0:=I.type (M:=model prog w);have L1:=looks_findIn (M:=model prog w) X hga;have L2:=looks_findIn (M:=model prog w) X hgn;have f3:=L6.ga.bind (.ref x);unfold getAttr? getAttrBy? getAttrBy;refine Qa (wpAny_mkText (Qa (Gy (Gg (Qa (L0.at (Qa (L1.at ?_))))))));have hx2:(Value.builtin "BaseException.__getattribute__" == Value.builtin "object.__getattribute__")=false:=by decide +kernel
 have hx1:(onTheHeap (Value.ref D) && Value.builtin "BaseException.__getattribute__" == Value.builtin "object.__getattribute__")=false:=by rw[hx2];rfl
 repeat (any_goals (first|assumption|(with_reducible refine L0.at ?_)|(with_reducible refine L1.at ?_)|(with_reducible refine L2.at ?_)|wp_step))
 have LB:=PySem.W.looks_mroIn (M:=model prog w) X hmB
 have LF:=PySem.W.looks_find (M:=model prog w) X I hf
 have hk:builtinKind "BaseException.__getattribute__"=some .slot:=by decide +kernel
 have hsplit:splitId "BaseException.__getattribute__"=some ("BaseException","__getattribute__"):=by decide +kernel
 have hag:=PySem.F.args_bexc_ga (.ref x) (Value.str "__class__" t);refine codeAny_call_builtin L6.ga.plain PySem.F.entry_bexc_ga ?_;simp only[KE,List.nil_append,checkBuiltinCall,hk,hsplit];refine Qa ?_;unfold isInstance
 repeat (first|(with_reducible refine L0.at ?_)|(with_reducible refine LB.at ?_)|(with_reducible refine LF.at ?_)|wp_step)
 refine PySem.W.class_get (s:=⟨hh,g,d,t+1,os⟩) (ox:=ox) (od:=od) X I hm ?_;show wpAny (model prog w) A.in1 (ret (Value.ref D)) _ _ _;refine Qf ?_;exact PySem.W.handed_on rfl (Qf h)
end
section
variable{K:Qo}{x D:Qd}{ox:Obj}{od:Option Obj}
theorem Jaz{a g:Qc}{name:Str}(hc:(clsIn K D).isSome=true)(ha:findIn K (.ref D) name=some (some a))(hg:specialIn K a "__get__"=some (some g))(ht:takesIn K a=some true):findObj K D od name=some (.bind g a):=by
 obtain⟨cd,hc⟩:=Lg.mp hc;unfold findObj
 simp_all
theorem Jhr(hga:findIn K (.ref D) "__getattribute__"=some (some (.builtin "BaseException.__getattribute__")))(hgn:findIn K (.ref D) "__getattr__"=some none)(hmB:mroIn K D (.type "BaseException")=some true)(hdct:hasDictIn K D=true)(ha:findIn K (.ref D) "__class__"=some (some (.builtin "object.__class__")))
 (hn:specialIn K (.builtin "object.__class__") "__get__"=some (some (.builtin "getset_descriptor.__get__"))) (htk:takesIn K (.builtin "object.__class__")=some true) (hm:mroIn K D (.type "object")=some true) :
 PySem.W.KitX K (.ref x) (.ref D) (fun h=>InstAt h x ox D od) where
 ty:=fun _ _ _ I=>I.type
 it:=fun _ _ X _=>by
  obtain⟨cdD,hcD,_⟩:=any_some hdct;unfold clsIn at hcD;split at hcD
  ·rename_i c' d' cd' sl' ho;intro A' Q' E' s' k q;unfold isType loadHead;exact Qa (wpAny_loadPart (k _ _ (X _ _ ho)) (Qf q))
  ·cases hcD
 ne:=fun h tp dd its n sl X htp=>by
  obtain⟨cdD,hcD,_⟩:=any_some hdct;refine Bool.eq_false_iff.mpr fun q=>?_
  have e:D=tp:=Value.ref.inj (beq_iff_eq.mp q);subst e;unfold clsIn at hcD;split at hcD
  ·rename_i c' d' cd' sl' ho;have z:=(X _ _ ho).symm.trans htp;cases z
  ·cases hcD
 ca:=fun {_ _ _ _ _ s} X I k=>by have hf:findObj K D od "__class__"=some (.bind (.builtin "getset_descriptor.__get__") (.builtin "object.__class__")):=Jaz (by obtain⟨cd,hc,_⟩:=any_some hdct;rw[hc];rfl) ha hn htk;exact Jfy X I hga hgn hmB hf hm k
end
section
variable{X:Cx}
inductive TyX (K:Qo) (H:Hp):V->Qc->Prop where
 | of {x:V} {t:Qc} (h:TyS K H x t):TyX K H x t
 | exc {a c:Qd} {v:Qc} {n:Str} (h:H a=some (XO a v)) (hv:Jav v=.ref c) (hd:XdO v H) (e:nsIn K mainGlobals n=some (some (.ref c))) (N:ExcN K n) (G:ExcG K):TyX K H (.ref a) (.ref c)
theorem Jmt{pins:List (Qd×Obj)}{σ:St}{H:Hp}{s:Qe}{a c:Qd}{v:Qc}(I:Inv X pins σ H s)(z:H a=some (XO a v))(hv:Jav v=.ref c)(hd:XdO v H):∃o od,InstAt s.heap a o c od:=by
 obtain⟨⟨o,h1,h2,h3,h4⟩,_⟩:=(show ObjOk X.prog X.w H s.heap a (XO a v) from I.hok a _ z)
 unfold XdO at hd
 cases q:Jdu v with
 | none=>rw[q] at h4;exact⟨o,none,h1,h2.trans hv,h3,by rw[h4];trivial⟩
 | some t =>
  rw[q] at h4 hd;obtain⟨fs,hd⟩:=hd;obtain⟨_,⟨od,_,_,e,_⟩,_⟩:=(show ObjOk X.prog X.w H s.heap t (.xd fs) from I.hok t _ hd)
  exact⟨o,some od,h1,h2.trans hv,h3,by rw[h4];exact e⟩
theorem JdI{pins:List (Qd×Obj)}{σ:St}{H:Hp}{s:Qe}{A:Qx}{E:Qc->Qe->Prop}{Q:Qc->Qe->Prop}{c:Qc}{b:Bool}{x:V}{u t:Qc}(I:Inv X pins σ H s)(rx:RelV x u)(ty:TyX X.K H x t)(e:kitOne X.K t c=some b)(h:∀tk,Q (.bool b) { s with toks:=tk }) :
 wpAny (model X.prog X.w) A (call (.builtin "isinstance") [u,c]) Q E s:=by
 cases ty with
 | of z=>exact ZL I rx z e h
 | @exc a c' v n z hv hd e' N G=>cases (show u=Value.ref a from rx);obtain⟨o,od,J⟩:=Jmt I z hv hd;obtain⟨q1,q2,q3,p2,p3,p4⟩:=N.pl c' e';exact kia_one (Jhr q1 q2 q3 p2 p3 G.hn G.htk p4) I.kIn J e (fun z=>nomatch z) h
noncomputable def Jky(K:Qo):List V->Hp->VK->Prop:=fun vs H Q=>∃x c t tc b,vs=[x,c]/\TyX K H x t/\(∀u,RelV c u->u=tc)/\kitOne K t tc=some b/\Q (.bl b) H
theorem JgQ:CallR X (.builtin "isinstance") (Jky X.K):=by intro pins s σ H xs us Q I r h;obtain⟨x,c,t,tc,b,rfl,ty,hc,e,q⟩:=h;obtain⟨u,w',rfl,r1,r2⟩:=Je9 r;cases hc w' r2;exact JdI I r1 ty e fun tk=>⟨.bl b,H,I.tok tk,rfl,q⟩
end
end L2

namespace LE
open PySem L2 LR
noncomputable abbrev Xv:=En->Option Xm
section
variable(K:Qo)(C:Qd)
noncomputable def spR(n:Nat)(ex:List Sl->Option Xm):Sp:=fun vs H Q W=>TabK K H/\∃H0 as m,Same H0 H/\RRL K C H H0 H vs as/\as.all (fun s=>!JR s)=true/\as.length=n/\ex as=some m ∧
 ∀c a H0' H',XC K m c H0'->Step H H0 H H0' H'->W c (some a) H'
noncomputable def spX(n:Nat)(f:List Sl->Option Sl)(ex:List Sl->Option Xm):Sp:=fun vs H Q W=>spE K C n f vs H Q W\/spR K C n ex vs H Q W
noncomputable def SXE(W:XK)(te:TE)(ex:Xv):Prop:=∀(B H0 H:Hp) (σ:St) (E:En) (m:Xm) (Q:VK),EnvR K C B H0 H σ E->ex E=some m ->
 (∀c a H0' H',XC K m c H0'->Step H H0 H H0' H'->W c (some a) H')->te σ H Q
noncomputable def SXS(W:XK)(ts:TS)(ex:Xv):Prop:=∀(B H0 H:Hp) (σ:St) (E:En) (m:Xm) (D:Ends),EnvR K C B H0 H σ E->ex E=some m ->
 (∀c a H0' H',XC K m c H0'->SStep B H0 H0' H'->W c (some a) H')->ts D σ H
noncomputable def SXT(T:(St->XK)->TS)(ex:Xv):Prop:=∀(B H0 H:Hp) (σ:St) (E:En) (m:Xm) (D:Ends) (W:St->XK),EnvR K C B H0 H σ E->ex E=some m ->
 (∀c a H0' H',XC K m c H0'->Step H H0 H H0' H'->W σ c (some a) H')->T W D σ H
end
theorem Zq{K:Qo}{C:Qd}{n:Nat}{f:List Sl->Option Sl}{ex:List Sl->Option Xm}{vs:List V}{H:Hp}{Q:VK}{W:XK}(h:spX K C n f ex vs H Q W):vs.length=n:=by
 rcases h with ⟨_,_,as,_,_,r,_,hl,_⟩|⟨_,_,as,_,_,r,_,hl,_⟩
 ·rw[r.len,hl]
 ·rw[r.len,hl]
noncomputable def We:Xv:=fun _=>none
noncomputable def UG(a:Es)(ea eb:Xv):Xv:=fun E=>match ea E with
 | some m=>some m
 | none=>match a E with
  | some (.nx E')=>eb E'
  | _=>none
noncomputable def Jg5(c:En->Option Bool)(a b:Xv):Xv:=fun E=>(c E).bind fun k=>if k=true then a E else b E
noncomputable def exU(n:Nat)(ex:List Sl->Option Xm)(as:En->Option (List Sl)):Xv:=fun E=>(as E).bind fun ss=>(Wq ss).bind fun bs=>if bs.length=n then ex bs else none
noncomputable def Wf(m:Str)(as:En->Option (List Sl)):Xv:=fun E=>(as E).bind fun ss=>if ss.length<=1000 then some (m:Xm) else none
noncomputable def Jcj(N:Nat)(b:Xv):List Sl->Option Xm:=fun as=>b (as++QQ (N-as.length) .no)
section
variable{K:Qo}{C:Qd}{W:XK}{t:TA}{ev:En->Option (List Sl)}{te:TE}{ts us:TS}{et eu:Es}{xt xu:Xv}{ex:Xv}
theorem Y8{n:Nat}{f:List Sl->Option Sl}{x:List Sl->Option Xm}{W:XK}(ha:SA K C t ev):SE K C (Za (spX K C n f x) [] W t) (eU n f ev):=by
 intro B H0 H σ E c Q I e q;obtain⟨ss,e1,e⟩:=bind_some e;obtain⟨bs,e2,e⟩:=bind_some e;split at e
 ·next hl=>refine Zp (ha B H0 H σ E ss _ I e1 fun vs H1 H1' s1 r1=>?_);obtain⟨h1,h2⟩:=r1.pass s1.i e2;have f:=JF (Hs:=H) s1.i;exact .inl ⟨I.t.mono (I.b.trans s1.h),_,bs,c,f.i,h1,h2,hl,e,fun v H2 H2' s2 r2=>q v H2 H2' ((s1.comp f fun _ z=>z).comp s2 fun a z=>Same.free s1.h z) (r2.weak fun a z=>Same.free s1.h z)⟩
 ·cases e
theorem Zs{n:Nat}{f:List Sl->Option Sl}{x:List Sl->Option Xm}(ha:SA K C t ev):SXE K C W (Za (spX K C n f x) [] W t) (exU n x ev):=by
 intro B H0 H σ E m Q I e q;obtain⟨ss,e1,e⟩:=bind_some e;obtain⟨bs,e2,e⟩:=bind_some e;split at e
 ·next hl=>refine Zp (ha B H0 H σ E ss _ I e1 fun vs H1 H1' s1 r1=>?_);obtain⟨h1,h2⟩:=r1.pass s1.i e2;have f:=JF (Hs:=H) s1.i;exact .inr ⟨I.t.mono (I.b.trans s1.h),_,bs,m,f.i,h1,h2,hl,e,fun c a H2 H2' hc s2=>q c a H2 H2' hc ((s1.comp f fun _ z=>z).comp s2 fun a z=>Same.free s1.h z)⟩
 ·cases e
theorem UT:SXS K C W ts We:=fun _ _ _ _ _ _ _ _ e _=>by cases e
theorem Ul(h1:SS K C ts et)(x1:SXS K C W ts xt)(x2:SXS K C W us xu):SXS K C W (Jdc ts us) (UG et xt xu):=by
 intro B H0 H σ E m D I e q;unfold UG at e;split at e
 ·next m' hm=>cases e;solve_by_elim
 ·split at e
  ·next E' hE=>refine h1 B H0 H σ E _ _ I hE ?_;exact fun σ' H1 H1' s1 I1=>x2 B H1 H1' σ' E' m D I1 e fun c a H2 H2' hc s2=>q c a H2 H2' hc (s1.trans s2)
  ·cases e
theorem Jff{c:TT}{ec:En->Option Bool}(hc:ST K C c ec)(x1:SXS K C W ts xt)(x2:SXS K C W us xu):SXS K C W (Jea c ts us) (Jg5 ec xt xu):=by
 intro B H0 H σ E m D I e q;obtain⟨k,e1,e⟩:=bind_some e;refine hc B H0 H σ E k _ I e1 fun H1 H1' s1=>?_
 have s1':=s1.ss I.b
 cases k with
 | true=>rw[if_pos rfl] at e ⊢;exact x1 B H1 H1' σ E m D (I.step s1) e fun c a H2 H2' hc s2=>q c a H2 H2' hc (s1'.trans s2)
 | false=>rw[if_neg (by decide)] at e ⊢;exact x2 B H1 H1' σ E m D (I.step s1) e fun c a H2 H2' hc s2=>q c a H2 H2' hc (s1'.trans s2)
theorem Jfd(h:SXE K C W te ex):SXS K C W (WD te) ex:=fun B H0 H σ E m D I e q=>h B H0 H σ E m _ I e fun c a H1 H1' hc s1=>q c a H1 H1' hc (s1.ss I.b)
theorem WJ{m:Str}{c:Qd}(hc:nsIn K mainGlobals m=some (some (.ref c)))(ha:SA K C t ev):SXS K C W (Jec c W t) (Wf m ev):=by
 intro B H0 H σ E m' D I e q;obtain⟨ss,e1,e⟩:=bind_some e;split at e
 ·next hl =>
  cases e;refine ha B H0 H σ E ss _ I e1 fun vs H1 H1' s1 r1=>⟨?_,fun a=>q (.ref c) a H1 H1' ⟨c,hc,rfl⟩ (s1.ss I.b)⟩
  rw[r1.len];exact QJ hl (by decide)
 ·cases e
theorem Jlp{T:XK->TE}{ex:Xv}(h:∀W,SXE K C W (T W) ex):SXT K C (Jed T) ex:=fun B H0 H σ E m D W I e q=>h (W σ) B H0 H σ E m _ I e q
end
section
variable{K:Qo}{C:Qd}{B H0 H:Hp}{σ:St}{E:En}
theorem Jfx{N:List Str}{vs:List V}{as:List Sl}(tb:TabK K H)(i:Same H0 H)(ra:RRL K C H H0 H vs as)(ho:as.all (fun s=>!JR s)=true):EnvR K C H H0 H (L2.YW N vs) (as++QQ (N.length-as.length) .no):=by
 have lens:=ra.len
 have noOwn:∀(j:Nat) (s:Sl),as[j]?=some s->JR s=false:=fun j s e=>by
  have:=Kj.mp ho s (QG e)
  simpa using this
 have get:∀(j:Nat) (s:Sl),(as++QQ (N.length-as.length) Sl.no)[j]?=some s->s=.no\/as[j]?=some s:=fun j s e=>by grind
 refine⟨Same.refl _,i,by simp[L2.YW,lens],fun j s e=>?_,fun j k s1 s2 v hjk e1 e2 w1 w2=>?_,tb⟩
 ·rcases get j s e with z|z
  ·exact .inl z
  ·obtain⟨v,h1,h2⟩:=ra.get z;refine .inr ⟨v,?_,?_⟩
   ·unfold L2.YW;rw[QA (by have:=(Qi.mp h1).1;simpa using this),Qy,h1];rfl
   ·cases s with
    | no=>trivial
    | sh d=>exact h2
    | bo ds=>exact h2
    | own ds=>solve_by_elim
    | bd ks ds|bt ks ds|bw ks ds=>exact h2
    | od ks ds|ot ks ds|dw ks ds=>solve_by_elim
 ·rcases get j _ e1 with z|z
  ·subst z;cases w1
  ·rw[noOwn j _ z] at w1;cases w1
theorem Wi{N:List Str}{n:Nat}{b:Es}{x:Xv}{ts:TS}{vs:List V}{Q:VK}{W:XK}(hb:SS K C ts b)(hx:SXS K C W ts x)(h:spX K C n (JZ N.length b) (Jcj N.length x) vs H Q W):ts { nx:=fun _ H'=>Q .non H',rt:=Q } (L2.YW N vs) H:=by
 rcases h with h|⟨tb,H0,as,m,i,ra,ho,hl,e,q⟩
 ·exact Jeu hb h
 ·exact hx H H0 H _ _ m _ (Jfx tb i ra ho) e fun c a H1 H1' hc s1=>q c a H1 H1' hc ⟨s1.b,s1.z,s1.n,s1.i⟩
theorem EnvR.del(I:EnvR K C B H0 H σ E)(i:Nat):EnvR K C B H0 H (σ.set i none) (E.set i .no):=by
 refine⟨I.b,I.h,by simp[I.len],fun j s e=>?_,fun j k s1 s2 v hjk e1 e2 o1 o2 e3 e4=>?_,I.t⟩
 ·rw[Qv] at e
  by_cases hj:i=j
  ·simp_all
  ·rw[if_neg hj] at e;rcases I.at' j s e with z|⟨v,h1,h2⟩
   ·exact .inl z
   simp_all
 ·have ne:∀(j:Nat) (s:Sl),(E.set i Sl.no)[j]?=some s->JR s=true->i≠j/\E[j]?=some s:=fun j s e o=>by
   rw[Qv] at e
   by_cases hj:i=j
   ·rw[if_pos hj] at e;split at e
    ·cases e;cases o
    ·cases e
   simp_all
  obtain⟨n1,f1⟩:=ne j s1 e1 o1;obtain⟨n2,f2⟩:=ne k s2 e2 o2;rw[Qv,if_neg n1] at e3;rw[Qv,if_neg n2] at e4;exact I.sep j k s1 s2 v hjk f1 f2 o1 o2 e3 e4
end
noncomputable def JnF(i:Nat):Out->Out
 | .nx E=>.nx (E.set i .no)
 | .rt r=>.rt r
 | .bk E=>.bk (E.set i .no)
 | .ct E=>.ct (E.set i .no)
noncomputable def JoP(R:List Str)(i:Nat)(b:Es)(x:Xv)(h:Es):Es:=fun E=>match b E with
 | some o=>some o
 | none=>(x E).bind fun m=>if m.n∈R/\i<E.length then(h (E.set i (.sh (.exc m)))).map (JnF i) else none
section
variable{K:Qo}{C:Qd}
theorem Jr1{R:List Str}{CL:Qd}{i:Nat}{T:(St->XK)->TS}{th:TS}{b h:Es}{x:Xv}(hm:∀m∈R,∀c,nsIn K mainGlobals m=some (some (.ref c))->exmOne K (.ref c) (.ref CL)=some true)
 (hb:∀W,SS K C (T W) b) (hx:SXT K C T x) (hh:SS K C th h):SS K C (JoH K CL i T th) (JoP R i b x h):=by
 intro B H0 H σ E o D I e fin;unfold JoP at e;split at e
 ·next o' hE=>cases e;solve_by_elim
 ·obtain⟨m,e1,e⟩:=bind_some e;split at e
  ·next hR =>
   obtain⟨o',e2,rfl⟩:=map_some e;refine hx B H0 H σ E m D _ I e1 fun c a H1 H1' hc s1=>⟨a,rfl,(by obtain⟨c',k1,k2⟩:=hc.cls;rw[k2];exact hm m.n hR.1 c' k1),fun ha=>?_⟩
   have ha0:H1 a=none:=by
    cases z:H1 a with
    | none=>rfl
    | some u=>rw[s1.i a u z] at ha;cases ha
   have I1:=I.step s1
   have st:Step H1' H1 H1' (upd H1 a (XO a c)) (upd H1' a (XO a c)):=by
    refine⟨fun b u z=>?_,fun b u z=>?_,fun b u z=>?_,fun b u z=>?_⟩
    ·rw[Jf (Jp z ha)];exact z
    ·rw[Jf (Jp z ha0)];exact z
    ·grind[Jf]
    ·by_cases hb:b=a
     ·subst hb;rw[Jl] at z ⊢;exact z
     ·rw[Jf hb] at z ⊢;exact s1.i b u z
   have I2:EnvR K C B (upd H1 a (XO a c)) (upd H1' a (XO a c)) (σ.set i (some (.ref a))) (E.set i (.sh (.exc m))) :=
    I1.put' st hR.2 (show RR K C H1' _ _ (.ref a) (.sh (.exc m)) from RD.exc Jl (hc.mono fun b u z=>by rw[Jf (Jp z ha0)];exact z)) rfl
   have ss:SStep B H0 (upd H1 a (XO a c)) (upd H1' a (XO a c)):=(s1.ss I.b).trans (st.ss I1.b);refine hh B _ _ _ _ o' _ I2 e2 ?_
   cases o' with
   | nx E2|bk E2|ct E2=>exact fun σ' H2 H2' s2 I3=>fin _ H2 H2' (ss.trans s2) (I3.del i)
   | rt r=>exact fun v H2 H2' s2 r2=>fin v H2 H2' (ss.trans s2) r2
  ·cases e
end
noncomputable def exB(n m:Str):Bool:=n == m || m == "LumpError"
noncomputable def Jse(R:List Str)(m:Str):D->Option Bool
 | .exc n=>if n.n∈R then some (exB n.n m) else none
 | .non=>some false
 | _=>none
noncomputable def Zz(R:List Str)(m:Str)(a:Ev):Ev:=fun E=>(a E).bind fun s=>s.d.bind fun d=>(Jse R m d).map fun b=>.sh (.bl b)
noncomputable def Jpj(R:List Str)(a:Ev):Ev:=fun E=>(a E).bind fun s=>s.d.bind fun d=>(match d with|.exc n=>if n.n∈R then some true else none|.non=>some false|_=>none).map fun b=>.sh (.bl b)
section
variable{K:Qo}{C:Qd}{te:TE}{ea:Ev}
structure IsiN (K:Qo) (R:List Str) (m:Str) (c:Qd):Prop where
 own:∀n∈R,ExcN K n
 g:ExcG K
 k:∀n∈R,∀c',nsIn K mainGlobals n=some (some (.ref c'))->kitOne K (.ref c') (.ref c)=some (exB n m)
 o:kitOne K (.type "NoneType") (.ref c)=some false
theorem JlT{R:List Str}{m:Str}{c:Qd}(N:IsiN K R m c)(ha:SE K C te ea):SE K C (tCB (Jky K) (Yf te (Yf (tC (.ref c)) YZ))) (Zz R m ea):=by
 intro B H0 H σ E r Q I e q;obtain⟨a,e1,e⟩:=bind_some e;obtain⟨d,e2,e⟩:=bind_some e;obtain⟨b,e3,rfl⟩:=map_some e;refine ha B H0 H σ E a _ I e1 fun x H1 H1' s1 r1=>?_
 have rd:=r1.dat s1.i e2
 cases d with
 | exc n =>
  have e3:(if n.n∈R then some (exB n.n m) else none)=some b:=e3;split at e3
  ·next hn=>cases e3;obtain⟨a',c',rfl,hx,hc⟩:=RD.excI rd;obtain⟨c1,k1,k2⟩:=hc.cls;exact⟨_,_,_,_,_,rfl,.exc hx k2 hc.xd k1 (N.own n.n hn) N.g,fun u z=>z,N.k n.n hn c1 k1,q _ _ _ s1 (RD.bl _)⟩
  ·cases e3
 | non=>cases e3;cases RD.nonI rd;exact⟨_,_,_,_,_,rfl,.of (.of .non),fun u z=>z,N.o,q _ _ _ s1 (RD.bl _)⟩
 | _=>cases e3
end
end LE
namespace L2
open PySem PySem.Spec PyProof.Rows PySem.Calls LE
section
variable{X:Cx}
end
end L2
namespace LE
open PySem L2 LR
noncomputable def IsiL(K:Qo)(R:List Str):List Str->List Qd->Prop
 | [],[]=>True
 | m::ms,c::cs=>IsiN K R m c/\IsiL K R ms cs
 | _,_=>False
theorem IsiL.exc{K:Qo}{R:List Str}{n:Str}{c':Qd}(hn:n∈R)(hc:nsIn K mainGlobals n=some (some (.ref c'))):∀{ms:List Str} {cs:List Qd},IsiL K R ms cs->kitAny K (.ref c') (cs.map Value.ref)=some (ms.any (exB n))
 | [],[],_=>rfl
 | m::ms,c::cs,⟨h,t⟩=>by show(match kitOne K (.ref c') (.ref c) with|some true=>some true|some false=>kitAny K (.ref c') (cs.map Value.ref)|none=>none)=_;rw[h.k n hn c' hc,t.exc hn hc,Rk];cases exB n m <;> rfl
theorem IsiL.non{K:Qo}{R:List Str}:∀{ms:List Str} {cs:List Qd},IsiL K R ms cs->kitAny K (.type "NoneType") (cs.map Value.ref)=some false
 | [],[],_=>rfl
 | m::ms,c::cs,⟨h,t⟩=>by show(match kitOne K (.type "NoneType") (.ref c) with | some true=>some true | some false=>kitAny K (.type "NoneType") (cs.map Value.ref) | none=>none)=_;rw[h.o,t.non]
section
variable{K:Qo}{C:Qd}{te:TE}{ea:Ev}
structure IsiV (K:Qo) (R:List Str):Prop where
 own:∀n∈R,ExcN K n
 g:ExcG K
 k:∀n∈R,∀c',nsIn K mainGlobals n=some (some (.ref c'))->kitOne K (.ref c') (.type "ValueError")=some true
theorem JpG{K:Qo}:kitOne K (.type "NoneType") (.type "ValueError")=some false:=by kernel_rfl
theorem Jqt{R:List Str}(N:IsiV K R)(ha:SE K C te ea):SE K C (tCB (Jky K) (Yf te (Yf (tC (.ty "ValueError")) YZ))) (Jpj R ea):=by
 intro B H0 H σ E r Q I e q;obtain⟨a,e1,e⟩:=bind_some e;obtain⟨d,e2,e⟩:=bind_some e;obtain⟨b,e3,rfl⟩:=map_some e;refine ha B H0 H σ E a _ I e1 fun x H1 H1' s1 r1=>?_
 have rd:=r1.dat s1.i e2
 cases d with
 | exc n =>
  have e3:(if n.n∈R then some true else none)=some b:=e3;split at e3
  ·next hn=>cases e3;obtain⟨a',c',rfl,hx,hc⟩:=RD.excI rd;obtain⟨c1,k1,k2⟩:=hc.cls;exact⟨_,_,_,_,_,rfl,.exc hx k2 hc.xd k1 (N.own n.n hn) N.g,fun u z=>z,N.k n.n hn c1 k1,q _ _ _ s1 (RD.bl _)⟩
  ·cases e3
 | non=>cases e3;cases RD.nonI rd;exact⟨_,_,_,_,_,rfl,.of (.of .non),fun u z=>z,JpG,q _ _ _ s1 (RD.bl _)⟩
 | _=>cases e3
end
end LE

namespace L2
open PySem PySem.Spec PyProof.Rows PySem.Calls LE
theorem Jat:bootBuiltins "ValueError"=some (.type "ValueError"):=by decide +kernel
section
variable{X:Cx}{K:Qo}
theorem J2(h:X.K=K):CallR X (.builtin "isinstance") (Jky K):=by subst h;exact JgQ
theorem Jkw{body suite:List Gs}{b₀:Gs}{i:Nat}{n cn:Str}{np hpos pos:Pos}{CL:Qd}{T:(St->XK)->TS}{th:TS}(h:X.K=K)(hs:X.stack=X.env::X.outer)(hf:X.env.frame=some X.env.locals)(hx:X.ex=[])(hN:X.N.Nodup)(hi:X.N[i]?=some n)(hk:X.env.kindOf n=some .local)(hg:Gl X cn)(hm:X.mg cn=some (.ref CL))
 (hb:Jl7 X body T) (hh:∀a,PSs (X.hand a) (b₀::suite) th) (hdb:(cn == ("__debug__":Str))=false:=by decide) :
 PS X (.Try body [.ExceptHandler (some (.Name cn np)) (some n) (b₀::suite) hpos] [] [] pos) (JoH K CL i T th):=by subst h;exact JnT hs hf hx hN hi hk hg hm hb hh hdb
theorem VF{x:Str}{np cpos pos:Pos}{C:Qd}{E:XK}{e:QV}{es:List QV}{t:TA}(h:X.K=K)(ok:excIn K C VEm "ValueError.__new__"=true)(hg:Gl X x)(hm:X.mg x=some (.ref C))(hc:X.calm=true)(hx:XOk X E)(ha:PA X (e::es) t)(hdb:(x == ("__debug__":Str))=false:=by decide)
 (he:starEach (e::es) X.env=(false,eval e X.env)::starEach es X.env:=by rfl) (hpl:(backTo cpos (starEach es X.env)).any (·.1)=false:=by rfl) :
 PS X (.Raise (some (.Call (.Name x np) (e::es) [] cpos)) none pos) (Jec C E t):=by subst h;exact JhX ok hg hm hc hx ha hdb he hpl
end
end L2
namespace LE
open PySem L2 LR
section
variable{K:Qo}{C:Qd}{ts:TS}
theorem YE:SS K C ts J8:=fun _ _ _ _ _ _ _ _ e _=>by cases e
theorem JiT{T:XK->TE}{ea:Ev}(h:∀W,SE K C (T W) ea)(W:St->XK):SS K C (Jed T W) (Va ea):=Wc (te:=fun σ H Q=>T (W σ) σ H Q) fun B H0 H σ E r Q I e q=>h (W σ) B H0 H σ E r Q I e q
structure AtY (K:Qo) (n:Str) (c:Qd):Prop where
 ns:nsIn K mainGlobals n=some (some (.ref c))
 ga:findIn K (.ref c) "__getattribute__"=some (some (.builtin "BaseException.__getattribute__"))
 gn:findIn K (.ref c) "__getattr__"=some none
 mb:mroIn K c (.type "BaseException")=some true
 hd:hasDictIn K c=true
 fi:findIn K (.ref c) "__class__"=some (some (.builtin "object.__class__"))
 mr:mroIn K c (.type "object")=some true
structure AtX (K:Qo) (n:Str) (c:Qd):Prop extends AtY K n c where
 ok:excIn K c VEm "ValueError.__new__"=true
theorem AtY.n{n:Str}{c:Qd}(h:AtY K n c):ExcN K n:=⟨fun c' e=>by have:=h.ns.symm.trans e;cases this;exact⟨h.ga,h.gn,h.mb,h.hd,h.fi,h.mr⟩⟩
noncomputable def OwnL(K:Qo):List Str->List Qd->Prop
 | [],[]=>True
 | n::ns,c::cs=>AtY K n c/\OwnL K ns cs
 | _,_=>False
theorem Jkf:OwnL K [] []:=trivial
theorem Z1{ns:List Str}{cs:List Qd}{n:Str}{c:Qd}(h:AtY K n c)(t:OwnL K ns cs):OwnL K (n::ns) (c::cs):=⟨h,t⟩
theorem OwnL.all:∀{ns:List Str} {cs:List Qd},OwnL K ns cs->∀n∈ns,ExcN K n
 | [],[],_,n,h=>nomatch h
 | m::ns,c::cs,⟨h,t⟩,n,hn=>by
  rcases Qr.mp hn with e|e
  ·rw[e];exact h.n
  ·exact t.all n e
noncomputable def ExmL(K:Qo)(CL:Qd):List Qd->Prop
 | []=>True
 | c::cs=>exmOne K (.ref c) (.ref CL)=some true/\ExmL K CL cs
theorem Jjh{CL:Qd}:ExmL K CL []:=trivial
theorem ZE{CL c:Qd}{cs:List Qd}(h:exmOne K (.ref c) (.ref CL)=some true)(t:ExmL K CL cs):ExmL K CL (c::cs):=⟨h,t⟩
theorem ExmL.all{CL:Qd}:∀{ns:List Str} {cs:List Qd},OwnL K ns cs->ExmL K CL cs->∀m∈ns,∀c,nsIn K mainGlobals m=some (some (.ref c))->exmOne K (.ref c) (.ref CL)=some true
 | [],[],_,_,n,h=>nomatch h
 | m::ns,c::cs,⟨h,t⟩,⟨h',t'⟩,n,hn=>fun c' e=>by
  rcases Qr.mp hn with z|z
  ·rw[z,h.ns] at e;cases e;exact h'
  ·exact t'.all t n z c' e
noncomputable def KitL(K:Qo)(m:Str)(c:Qd):List Str->List Qd->Prop
 | [],[]=>True
 | n::ns,d::ds=>kitOne K (.ref d) (.ref c)=some (exB n m)/\KitL K m c ns ds
 | _,_=>False
theorem Y7{m:Str}{c:Qd}:KitL K m c [] []:=trivial
theorem Jx{m n:Str}{c d:Qd}{ns:List Str}{ds:List Qd}{b:Bool}(h:kitOne K (.ref d) (.ref c)=some b)(e:exB n m=b)(t:KitL K m c ns ds):KitL K m c (n::ns) (d::ds):=⟨by rw[e];exact h,t⟩
theorem KitL.all{m:Str}{c:Qd}:∀{ns:List Str} {cs:List Qd},OwnL K ns cs->KitL K m c ns cs->∀n∈ns,∀c',nsIn K mainGlobals n=some (some (.ref c'))->kitOne K (.ref c') (.ref c)=some (exB n m)
 | [],[],_,_,n,h=>nomatch h
 | m::ns,c::cs,⟨h,t⟩,⟨h',t'⟩,n,hn=>fun c' e=>by
  rcases Qr.mp hn with z|z
  ·rw[z] at e ⊢;rw[h.ns] at e;cases e;exact h'
  ·exact t'.all t n z c' e
theorem Y6{m:Str}{c:Qd}{ns:List Str}{cs:List Qd}(o:OwnL K ns cs)(g:ExcG K)(k:KitL K m c ns cs)(z:kitOne K (.type "NoneType") (.ref c)=some false):IsiN K ns m c:=⟨o.all,g,k.all o,z⟩
noncomputable def KivL(K:Qo):List Qd->Prop
 | []=>True
 | c::cs=>kitOne K (.ref c) (.type "ValueError")=some true/\KivL K cs
theorem JjQ:KivL K []:=trivial
theorem ZO{c:Qd}{cs:List Qd}(h:kitOne K (.ref c) (.type "ValueError")=some true)(t:KivL K cs):KivL K (c::cs):=⟨h,t⟩
theorem KivL.all:∀{ns:List Str} {cs:List Qd},OwnL K ns cs->KivL K cs->∀n∈ns,∀c',nsIn K mainGlobals n=some (some (.ref c'))->kitOne K (.ref c') (.type "ValueError")=some true
 | [],[],_,_,n,h=>nomatch h
 | m::ns,c::cs,⟨h,t⟩,⟨h',t'⟩,n,hn=>fun c' e=>by
  rcases Qr.mp hn with z|z
  ·rw[z,h.ns] at e;cases e;exact h'
  ·exact t'.all t n z c' e
theorem JjL{ns:List Str}{cs:List Qd}(o:OwnL K ns cs)(g:ExcG K)(k:KivL K cs):IsiV K ns:=⟨o.all,g,k.all o⟩
end
section
variable(K:Qo)(C:Qd)
noncomputable def SXI(W:XK)(wi:TI)(ex:Xv):Prop:=∀(B H0 H:Hp) (σ:St) (E:En) (m:Xm) (R:It->Hp->Prop),EnvR K C B H0 H σ E->ex E=some m ->
 (∀c a H0' H',XC K m c H0'->Step H H0 H H0' H'->W c (some a) H')->wi σ H R
end
noncomputable def Jms(a b:Xv):Xv:=fun E=>match a E with
 | some m=>some m
 | none=>b E
section
variable{K:Qo}{C:Qd}{W:XK}{ta te:TE}{t tr:TA}{ea:Ev}{xa xr ex:Xv}{wi:TI}
theorem Jlq(h:SXE K C W te ex):SXI K C W (Jco K te) ex:=fun B H0 H σ E m R I e q=>.inl (h B H0 H σ E m _ I e q)
theorem JoV{g:TG}{tb:TS}(h:SXI K C W wi ex):SXS K C W (Jda wi g tb) ex:=fun B H0 H σ E m D I e q=>h B H0 H σ E m _ I e fun c a H1 H1' hc s1=>q c a H1 H1' hc (s1.ss I.b)
end
end LE

namespace LE
open PySem L2 LR
noncomputable def VQ(p:Pt)(b:Es)(x:Xv):List D->Xv
 | []=>fun _=>none
 | d::ds=>fun E=>(p.bind d E).bind fun E1=>match x E1 with
  | some m=>some m
  | none=>match b E1 with
   | some (.nx E2)=>VQ p b x ds E2
   | some (.ct E2)=>VQ p b x ds E2
   | _=>none
noncomputable def Jg4(it:En->Option (List D))(p:Pt)(b:Es)(x:Xv):Xv:=fun E=>(it E).bind fun ds=>VQ p b x ds E
section
variable{K:Qo}{C:Qd}{W:XK}{t:TS}{et:Es}{xt:Xv}
theorem Jfe{wi:TI}{g:TG}{it:En->Option (List LE.D)}{p:Pt}(hi:SI K C false wi it)(hg:SG K C g p)(ht:SS K C t et)(hx:SXS K C W t xt):SXS K C W (Jda wi g t) (Jg4 it p et xt):=by
 intro B H0 H σ E m D I e f;obtain⟨ds,e1,e⟩:=bind_some e;refine hi B H0 H σ E ds _ I e1 fun J H1 H1' s1 ok=>?_
 rw[if_neg (by simp)] at ok;refine⟨fun i k σ' H'=>k=ds.length-i/\i<=ds.length/\∃H0' E',EnvR K C B H0' H' σ' E'/\SStep B H1 H0' H'/\VQ p et xt (ds.drop i) E'=some m,
  ⟨ds.length,by simp,Gm _,H1,E,I.step s1,.refl (I.b.trans s1.h) s1.i,e⟩,?_⟩
 rintro i k σ' H' ⟨rfl,hi',H0',E',I',st,er⟩;have stop:=ok H0' H' st
 by_cases hlt:i<ds.length
 ·have hd:ds[i]?=some ds[i]:=by simp[hlt]
  obtain⟨go,yl⟩:=stop.1 i _ hd;refine .inr ⟨go,fun σ2 H2=>∃H02 E2,EnvR K C B H02 H2 σ2 E2/\SStep B H1 H02 H2/\VQ p et xt (ds.drop (i+1)) E2=some m,fun σ2 H2 h=>⟨ds.length-(i+1),by grind,rfl,hlt,h⟩,fun x H2 y=>?_⟩;obtain⟨H02,st2,rx⟩:=yl x H2 y;rw[GP hlt,VQ] at er;obtain⟨E1,b1,er⟩:=bind_some er;have ss2:SStep B H0' H02 H2:=st2.ss I'.b;have all:SStep B H0 H02 H2:=((s1.ss I.b).trans st).trans ss2;refine hg B H02 H2 σ' E' E1 x _ _ (I'.step st2) rx b1 fun σ2 I2=>?_
  split at er
  ·next m' hm=>cases er;exact hx B H02 H2 σ2 E1 m _ I2 hm fun c a H3 H3' hc s3=>f c a H3 H3' hc (all.trans s3)
  ·split at er
   ·next E2 hb=>exact ht B H02 H2 σ2 E1 _ _ I2 hb fun σ3 H3 H3' s3 I3=>⟨H3,E2,I3,(st.trans ss2).trans s3,er⟩
   ·next E2 hb=>exact ht B H02 H2 σ2 E1 _ _ I2 hb fun σ3 H3 H3' s3 I3=>⟨H3,E2,I3,(st.trans ss2).trans s3,er⟩
   ·cases er
 ·have e3:i=ds.length:=by lia
  subst e3;rw[K8,VQ] at er;cases er
end
end LE
namespace L2
open PySem PySem.Spec PyProof.Rows PySem.Calls LE
structure RoomH (k:Nat) (A:Qx):Prop where
 dp:A.depth+3*k+5<recursionLimit
 un:A.units+16*k+200<cLine
theorem Room.h{k:Nat}{A:Qx}(r:Room k A):RoomH k A:=⟨r.dp,r.un⟩
theorem RoomH.mono{j k:Nat}{A:Qx}(r:RoomH k A)(h:j<=k):RoomH j A:=⟨by have:=r.dp;lia,by have:=r.un;lia⟩
theorem RoomH.mark{k:Nat}{A:Qx}(r:RoomH k A)(v:Option Qc):RoomH k (A.mark v):=⟨r.dp,r.un⟩
theorem RoomH.deeper{k:Nat}{A:Qx}(r:RoomH (k+1) A)(env:Env):RoomH k (A.deeper env) :=
 ⟨by have:=r.dp;show A.depth+1+3*k+5<_;lia,by have:=r.un;show A.units+3+16*k+200<_;lia⟩
theorem RoomH.units{k:Nat}{A:Qx}(r:RoomH k A):A.units+64<cLine:=by have:=r.un;lia
structure FnH (P:Qm) (w:Qp) (K:Qo) (mg:Str->Option Qc) (base:QC) (k:Nat) (f:Qd) (fd:Qt) (ps:List Str) (sp:Sp):Prop where
 len:∀vs H Q E,sp vs H Q E->vs.length=ps.length
 run:∀(A:Qx) (outer:List Env) (s:Qe) (H:Hp) (args:Args) (us:List Qc) (vs:List V) (Q:VK) (E:XK),RoomH k A->Env0 P w K mg base A outer s H->BindsTo s fd args (ps.zip us)->Vals vs us->sp vs H Q E ->
  codeAny (model P w) A (.call (.ref f) args) (CR CX0 outer P w H s Q E) s
theorem FnH.ok{P:Qm}{w:Qp}{K:Qo}{mg:Str->Option Qc}{base:QC}{k:Nat}{f:Qd}{fd:Qt}{ps:List Str}{sp:Sp}(F:FnH P w K mg base k f fd ps sp):FnOk P w K mg base CX0 k f fd ps sp :=
 ⟨F.len,fun A outer s H args us vs Q E hr=>F.run A outer s H args us vs Q E hr.h⟩
structure CalH (P:Qm) (w:Qp) (K:Qo) (mg:Str->Option Qc) (base:QC) (x:Str) (k:Nat) (ps:List Str) (sp:Sp):Prop where
 ex:∃(f:Qd) (fd:Qt),FnH P w K mg base k f fd ps sp/\mg x=some (.ref f)/\keepIn K (.ref f)=true/\Binds K fd ps []
section
variable{X:Cx}{k:Nat}{ps:List Str}{sp:Sp}{x:Str}{p pos:Pos}{e:QV}{es:List QV}{t:TA}
end
end L2

namespace L2
open PySem PySem.Spec PyProof.Rows PySem.Calls LE
structure CalMX (P:Qm) (w:Qp) (K:Qo) (mg:Str->Option Qc) (base:QC) (x:Str) (C:Qd) (k:Nat) (ps:List Str) (sp:Sp):Prop where
 ex:∃(f:Qd) (fd:Qt),Mk K C f/\FnOk P w K mg base (CX1 P w) k f fd ps sp/\mg x=some (.ref C)/\Binds K fd ps []
section
variable{X:Cx}{k:Nat}{C:Qd}{ps:List Str}{sp:Sp}{x:Str}{p pos:Pos}{e:QV}{es:List QV}{t:TA}
end
end L2
namespace LE
open PySem L2 LR
section
variable(K:Qo)(C:Qd)
end
section
variable{K:Qo}{C:Qd}{W:XK}{t:TA}{ev:En->Option (List Sl)}{H0 H H2:Hp}
noncomputable def JgG(ss:List Sl):Bool:=ss.all fun s=>!JR s
theorem RRL.more{vs:List V}{ss:List Sl}(st:Same H H2):JgG ss=true->RRL K C H H0 H vs ss->RRL K C H2 H0 H2 vs ss:=fun ho r=>by
 revert ho
 induction r with
 | nil=>exact fun _=>.nil
 | @cons v s vs ss h _ ih =>
  intro ho
  have hs:JR s=false/\JgG ss=true:=by
   unfold JgG at ho ⊢
   simp_all
  refine .cons ?_ (ih hs.2)
  cases s with
  | no=>exact h
  | sh d=>exact h
  | bo ds=>obtain⟨l,xs,e,g,q⟩:=h;exact⟨l,xs,e,st _ _ g,q⟩
  | bd ks ds|bt ks ds|bw ks ds=>obtain⟨l,xs,e,g,q⟩:=h;exact⟨l,xs,e,st _ _ g,q⟩
  | own ds=>exact absurd hs.1 (by simp[JR])
  | od ks ds|ot ks ds|dw ks ds=>exact absurd hs.1 (by simp[JR])
end
end LE

namespace L2
open PySem PySem.Spec PyProof.Rows PySem.Calls
theorem Jbo(a b:Bool):MeetsSeq.EqGives (.bool a) (.bool b) (a == b):=fun prog w A E s Q h=>by
 unfold eqBool;show wpAny _ _ (if (Value.bool a == Value.bool b)=true then _ else _) Q E s
 by_cases hab:(Value.bool a == Value.bool b)=true
 ·rw[if_pos hab];have e:a=b:=by simp_all
  subst e;exact Qa (Kb (Qf (by simpa using h)))
 ·rw[if_neg hab];exact Qa (PyProof.Rows.eq_bool (Gw h))
theorem Jb9:∀{bs:List Bool} {its:List Qc},Vals (bs.map V.bl) its->its=bs.map Value.bool
 | [],_,r=>by cases r;rfl
 | b::bs,_,r=>by
  cases r with
  | cons h t=>cases (show _=Value.bool b from h);rw[Jb9 t];rfl
noncomputable def JeP:V->List V->Hp->VK->Prop:=fun x vs H Q=>∃(l:Qd) (bs:List Bool) (b:Bool),x=.ref l/\vs=[.bl b]/\H l=some (.lst (bs.map V.bl))/\Q (.int (bs.count b:Nat)) H
noncomputable def efB(b:Bool):Qc->Bool:=fun v=>match v with
 | .bool a=>a == b
 | _=>false
theorem JaQ(b:Bool):∀bs:List Bool,(bs.map Value.bool).countP (efB b)=bs.count b
 | []=>rfl
 | a::bs=>by rw[Gx,List.countP_cons,JaQ b bs,List.count_cons];rfl
section
variable{X:Cx}
theorem JfY:MtR X "list.count" JeP:=by
 intro pins s σ H x vs v us Q I rx rv h;obtain⟨l,bs,b,rfl,rfl,hH,q⟩:=h;cases rx;obtain⟨u,rfl,hu⟩:=rv.one;cases (show u=Value.bool b from hu);obtain⟨z,its,n,r,hl,e⟩:=I.lstM hH;cases Jb9 r;refine call_meets F.slot_list_count ⟨_,e,rfl⟩ F.entry_list_count (F.args_list_count_2 _ _) (Ri l (bs.map Value.bool).toArray n (.bool b) (efB b) (fun y hy=>?_)) ⟨e,?_⟩
 ·have hy':y∈bs.map Value.bool:=by simpa using hy
  obtain⟨a,_,rfl⟩:=Gb.mp hy';exact Jbo a b
 ·refine⟨.int (bs.count b:Nat),H,I.tok _,⟨s.toks,?_⟩,q⟩
  grind[JaQ]
end
end L2
namespace LE
open PySem L2 LR
noncomputable def lst?:Sl->Option (List D)
 | .bo ds=>some ds
 | .own ds=>some ds
 | .sh (.lst ds)=>some ds
 | _=>none
noncomputable def eMB(f:List Bool->Bool->Option Int)(o a:Ev):Ev:=fun E=>(o E).bind fun s=>(lst? s).bind fun ds=>(bls? ds).bind fun bs=>(a E).bind fun y=>(bool? y).bind fun b=>(f bs b).map fun i=>.sh (.int i)
noncomputable def Jpm(bs:List Bool)(b:Bool):Option Int:=some (bs.count b:Nat)
section
variable{K:Qo}{C:Qd}{to te:TE}{eo ea:Ev}{Hs H0 H:Hp}{v:V}
theorem RR.lst{s:Sl}{ds:List D}(i:Same H0 H)(r:RR K C Hs H0 H v s)(e:lst? s=some ds):∃l xs,v=.ref l/\H l=some (.lst xs)/\RDL K C H0 xs ds:=by
 cases s with
 | bo es=>cases e;exact r
 | own es=>cases e;obtain⟨l,xs,e,h,_,_,q⟩:=r;exact⟨l,xs,e,h,q⟩
 | sh d =>
  cases d with
  | lst es=>cases e;obtain⟨l,xs,e,h,q⟩:=RD.lstI r;exact⟨l,xs,e,i _ _ h,q⟩
  | _=>cases e
 | _=>cases e
theorem Jsq{rm:V->List V->Hp->VK->Prop}{f:List Bool->Bool->Option Int}(hm:∀(l:Qd) (bs:List Bool) (b:Bool) (i:Int) (H:Hp) (Q:VK),H l=some (.lst (bs.map V.bl))->f bs b=some i->Q (.int i) H->rm (.ref l) [.bl b] H Q)
 (ho:SE K C to eo) (ha:SE K C te ea):SE K C (tBM K "list" rm to (Yf te YZ)) (eMB f eo ea):=by
 intro B H0 H σ E r Q I e q;obtain⟨s,e1,e⟩:=bind_some e;obtain⟨ds,e2,e⟩:=bind_some e;obtain⟨bs,e3,e⟩:=bind_some e;obtain⟨y,e4,e⟩:=bind_some e;obtain⟨b,e5,e⟩:=bind_some e;obtain⟨i,e6,rfl⟩:=map_some e;refine ho B H0 H σ E s _ I e1 fun x H1 H1' s1 r1=>?_
 obtain⟨l,xs,rfl,hl,rl⟩:=r1.lst s1.i e2;refine⟨.inl ⟨rfl,_,.of hl⟩,?_⟩;refine ha B H1 H1' σ E y _ (I.step s1) e4 fun u H2 H2' s2 r2=>?_
 rw[UE e5] at r2;cases RD.blI r2;rw[Jb8 e3] at rl;have hx:=RDL.bls rl;subst hx;exact hm l bs b i H2' Q (s2.h _ _ hl) e6 (q _ _ _ (s1.trans s2) (RD.int i))
theorem JkT(ho:SE K C to eo)(ha:SE K C te ea):SE K C (tBM K "list" JeP to (Yf te YZ)) (eMB Jpm eo ea) :=
 Jsq (fun l bs b i H Q h e q=>by cases e;exact⟨l,bs,b,rfl,rfl,h,q⟩) ho ha
end
end LE

namespace LE
open PySem L2 LR
section
variable{K:Qo}{C:Qd}
end
end LE

namespace PySem
abbrev VN(h:QC)(z TI TO a:Qd)(f:Bool):Prop :=
 h.get? z=some { cls:=.type "zip",dict:=none,data:=.fields #[rawInt a,.bool f,.bool false,.ref TI,.ref TO],slots:=#[] }
section
variable{prog:Qm}{w:Qp}{A:Qx}{E:Qc->Qe->Prop}{s:Qe}{z TI TO i1 i2 a:Qd}{f:Bool}{oa:Obj}{p1 p2:List Qd}{n1 n2 k:Nat}{P1 P2:Nat->Qc->Prop}{S1 S2:Nat->QC->Prop}
theorem Jdk{Q:Bool->Qe->Prop}(gz:VN s.heap z TI TO a f)(ha:s.heap.get? a=some oa)(h:∀h',VN h' z TI TO a true->Qu z s.heap h'->Q false { s with heap:=h' }):wpAny (model prog w) A (QK (.ref z)) Q E s:=by
 unfold QK;refine Qa (QM gz rfl (x:=rawInt a) rfl ?_);show wpAny _ _ (loadIfAlive (Int.toNat (a:Int)) >>= _) _ _ _;rw[GH];refine Qa (PySem.W.kdx_alive ha ?_);show wpAny _ _ (field (.ref z) 1 >>= _) _ _ _;refine Qa (QM gz rfl (x:=.bool f) rfl ?_)
 cases f with
 | true=>exact Qf (h _ gz (Rt _ _))
 | false=>exact Qa (Q4 gz (by simp) fun h' y e=>Qf (h h' y e))
theorem Jgu{Q:Qc->Qe->Prop}(D:ZA z TI TO i1 i2 p1 p2)(D1:Draws prog w A i1 p1 n1 P1 S1)(D2:Draws prog w A i2 p2 n2 P2 S2)(gz:VN s.heap z TI TO a f)(ha:s.heap.get? a=some oa)(gI:IsPair s.heap TI (.ref i1) (.ref i2))
 (st1:S1 k s.heap) (st2:S2 k s.heap) (l1:k<n1) (l2:k<n2)
 (hQ:∀x y h' tk,P1 k x->P2 k y->VN h' z TI TO a true->S1 (k+1) h'->S2 (k+1) h'->IsPair h' s.heap.objs.size x y->h'.objs.size=s.heap.objs.size+1 ->
  (∀c o,c≠z->c≠i1->c≠i2->s.heap.get? c=some o->h'.get? c=some o)->Q (.ref s.heap.objs.size) { s with heap:=h',toks:=tk }) :
 wpAny (model prog w) A (Builtin.«zip.__next__» ⟨[.ref z],[]⟩) (fun fin s'=>∃v,fin=.done (.ret v)/\Q v s') E s:=by
 obtain⟨hp,g,d,t0,os⟩:=s;have zi1:i1≠z:=fun q=>D.z1 (q▸D.m1)
 have zi2:i2≠z:=fun q=>D.z2 (q▸D.m2)
 show wpAny _ _ (field (.ref z) 2 >>= _) _ _ _;refine Qa (QM gz rfl (x:=.bool false) rfl (show wpAny _ _ (field (.ref z) 3 >>= _) _ _ _ from Qa (QM gz rfl (x:=.ref TI) rfl (Qa (Gf gI rfl ?_)))))
 show wpAny _ _ (QK (.ref z) >>= _) _ _ _;refine Qa (Jdk gz ha fun k1 y1 e1=>?_)
 replace e1:Qu z hp k1:=e1;simp only[Gd,if_false];refine Qa ?_;simp only[<- KJ,LS,Mb];refine Qa (Qa (Gg (show wpAny _ _ (QY (.ref i1) >>= _) _ _ _ from Qa (D1.item k _ _ _ l1 (D1.frame _ _ _ st1 fun b hb o q=>e1.extBut b o (fun r=>D.z1 (r▸hb)) q) fun x k2 t2 px s2 e2=>Qf ?_))))
 replace e2:Qu i1 k1 k2:=e2;refine Qf ?_;have st2':S2 k k2:=D2.frame _ _ _ st2 fun b hb o q=>e2.extBut b o (fun r=>D.x1 (r▸hb)) (e1.extBut b o (fun r=>D.z2 (r▸hb)) q)
 refine Qa (Qa (Gg (show wpAny _ _ (QY (.ref i2) >>= _) _ _ _ from Qa (D2.item k _ _ _ l2 st2' fun y k4 t4 py s4 e4=>Qf ?_))))
 replace e4:Qu i2 k2 k4:=e4;refine Qf (Qf (Qa (Mc (hsz:=show 2<=Qk by decide) (Qf ⟨_,rfl,?_⟩))));have hsz:k4.objs.size=hp.objs.size:=by rw[e4.1,e2.1,e1.1]
 have Z4:VN k4 z TI TO a true:=e4.extBut _ _ (QL zi2) (e2.extBut _ _ (QL zi1) y1)
 show Q (.ref k4.objs.size) _;rw[hsz];refine hQ x y _ t4 px py (Qg _ Z4) ?_ ?_ ?_ (by rw[Ge,hsz]) fun c o c1 c2 c3 q=>Qg _ (e4.extBut _ _ c3 (e2.extBut _ _ c2 (e1.extBut _ _ c1 q)))
 ·exact D1.frame _ _ _ s2 fun b hb o q=>Qg _ (e4.extBut b o (fun r=>D.x2 (r▸hb)) q)
 ·exact D2.frame _ _ _ s4 fun b hb o q=>Qg _ q
 ·show(k4.push _).get? hp.objs.size=_;rw[<- hsz];exact Qh _ rfl
theorem JiV{Q:Fin->Qe->Prop}(D:ZA z TI TO i1 i2 p1 p2)(D1:Draws prog w A i1 p1 n1 P1 S1)(D2:Draws prog w A i2 p2 n2 P2 S2)(gz:VN s.heap z TI TO a f)(ha:s.heap.get? a=some oa)(gI:IsPair s.heap TI (.ref i1) (.ref i2))
 (st1:S1 k s.heap) (st2:S2 k s.heap) (hend:k=n1\/(k<n1/\k=n2))
 (hE:∀h' e tk,(∀c o,c≠z->c≠i1->c≠i2->s.heap.get? c=some o->h'.get? c=some o)->(∃o,h'.get? e=some o/\o.cls=.type "StopIteration")->E (.ref e) { s with heap:=h',toks:=tk }) :
 wpAny (model prog w) A (Builtin.«zip.__next__» ⟨[.ref z],[]⟩) Q E s:=by
 obtain⟨hp,g,d,t0,os⟩:=s;show wpAny _ _ (field (.ref z) 2 >>= _) _ _ _;refine Qa (QM gz rfl (x:=.bool false) rfl (show wpAny _ _ (field (.ref z) 3 >>= _) _ _ _ from Qa (QM gz rfl (x:=.ref TI) rfl (Qa (Gf gI rfl ?_)))));show wpAny _ _ (QK (.ref z) >>= _) _ _ _;refine Qa (Jdk gz ha fun k1 y1 e1=>?_)
 replace e1:Qu z hp k1:=e1;simp only[Gd,if_false];refine Qa ?_;simp only[<- KJ,LS,Mb];have q1:S1 k k1:=D1.frame _ _ _ st1 fun b hb o q=>e1.extBut b o (fun r=>D.z1 (r▸hb)) q
 rcases hend with rfl|⟨l1,rfl⟩
 ·refine Qa (Qa (Gg (show wpAny _ _ (QY (.ref i1) >>= _) _ _ _ from Qa (D1.done _ _ _ q1 fun k2 e e2 he=>?_))))
  replace e2:Ki i1 k1 k2:=e2;exact hE k2 e t0 (fun c o c1 c2 _ q=>e2 _ _ c2 (e1.extBut _ _ c1 q)) he
 ·refine Qa (Qa (Gg (show wpAny _ _ (QY (.ref i1) >>= _) _ _ _ from Qa (D1.item k _ _ _ l1 q1 fun x k2 t2 px s2 e2=>Qf ?_))))
  replace e2:Qu i1 k1 k2:=e2;refine Qf ?_;have st2':S2 k k2:=D2.frame _ _ _ st2 fun b hb o q=>e2.extBut b o (fun r=>D.x1 (r▸hb)) (e1.extBut b o (fun r=>D.z2 (r▸hb)) q)
  refine Qa (Qa (Gg (show wpAny _ _ (QY (.ref i2) >>= _) _ _ _ from Qa (D2.done _ _ _ st2' fun k4 e e4 he=>?_))))
  replace e4:Ki i2 k2 k4:=e4;exact hE k4 e t2 (fun c o c1 c2 c3 q=>e4 _ _ c3 (e2.extBut _ _ c2 (e1.extBut _ _ c1 q))) he
end
end PySem

namespace PySem
section
variable{prog:Qm}{w:Qp}{A:Qx}{E:Qc->Qe->Prop}{s:Qe}{b1 b2:Bool}{a1 a2 z TI TO i1 i2 S:Qd}{xs ys:Array Qc}{i:Nat}
def LzSt(b1 b2:Bool)(a1 a2 z TI TO i1 i2 S:Qd)(xs ys:Array Qc)(i:Nat)(h:QC):Prop :=
 IsPair h TI (.ref i1) (.ref i2)/\(IsItr b1 h i1 a1 i/\IsSq b1 h a1 xs)/\(IsItr b2 h i2 a2 i/\IsSq b2 h a2 ys) ∧
 ((IsZip h z TI TO .none/\∃u v,IsPair h TO u v)\/∃a f oa,VN h z TI TO a f/\h.get? a=some oa/\a≠S/\a≠z/\a≠i1/\a≠i2)
theorem IsSq.keep{b:Bool}{h h':QC}{a:Qd}{xs:Array Qc}(q:IsSq b h a xs)(k:∀o,h.get? a=some o->h'.get? a=some o):IsSq b h' a xs:=by
 cases b with
 | true|false=>obtain⟨o,e,r⟩:=q;exact⟨o,k o e,r⟩
theorem IsItr.keep'{b:Bool}{h h':QC}{j a:Qd}{i:Nat}(q:IsItr b h j a i)(k:∀o,h.get? j=some o->h'.get? j=some o):IsItr b h' j a i:=by
 cases b with
 | true|false=>obtain⟨o,e,r⟩:=q;exact⟨o,k o e,r⟩
theorem LzSt.keep{h h':QC}(x:LzSt b1 b2 a1 a2 z TI TO i1 i2 S xs ys i h)(k:∀b o,b≠S->h.get? b=some o->h'.get? b=some o)(n:S∉[z,TI,TO,i1,i2,a1,a2]):LzSt b1 b2 a1 a2 z TI TO i1 i2 S xs ys i h':=by
 simp only[Qr,Gj,or_false,not_or] at n;obtain⟨n1,n2,n3,n4,n5,n6,n7⟩:=n;obtain⟨x1,x2,x3,x4⟩:=x;refine⟨k _ _ (QL n2) x1,⟨IsItr.keep' x2.1 fun o e=>k _ o (QL n4) e,IsSq.keep x2.2 fun o e=>k _ o (QL n6) e⟩,⟨IsItr.keep' x3.1 fun o e=>k _ o (QL n5) e,IsSq.keep x3.2 fun o e=>k _ o (QL n7) e⟩,?_⟩;rcases x4 with ⟨y1,u,v,y2⟩|⟨a,f,oa,y1,y2,y3⟩
 ·exact .inl ⟨k _ _ (QL n1) y1,u,v,k _ _ (QL n3) y2⟩
 ·exact .inr ⟨a,f,oa,k _ _ (QL n1) y1,k _ _ y3.1 y2,y3⟩
theorem JjX{Q:Option Qc->Qe->Prop}(hh:A.handled=none)(Z:ZA z TI TO i1 i2 [i1,a1] [i2,a2])(st:LzSt b1 b2 a1 a2 z TI TO i1 i2 S xs ys i s.heap)(hS:S<s.heap.objs.size)(l1:i<xs.size)(l2:i<ys.size)
 (hQ:∀u v h' tk,xs[i]?=some u->ys[i]?=some v->LzSt b1 b2 a1 a2 z TI TO i1 i2 S xs ys (i+1) h'->IsPair h' s.heap.objs.size u v->h'.objs.size=s.heap.objs.size+1 ->
  (∀c o,c≠z->c≠TO->c≠i1->c≠i2->s.heap.get? c=some o->h'.get? c=some o)->Q (some (.ref s.heap.objs.size)) { s with heap:=h',toks:=tk }) :
 wpAny (model prog w) A (pyNext (.ref z)) Q E s:=by
 obtain⟨x1,x2,x3,x4⟩:=st
 have ne1:a1≠i1:=fun q=>by
  have:=Z.x1;subst q;rcases x2 with ⟨e1,e2⟩
  cases b1 with
  | true|false=>obtain⟨o,h1,h2,_⟩:=e1;obtain⟨o',h3,h4,_⟩:=e2;simp_all
 have ne2:a2≠i2:=fun q=>by
  subst q;rcases x3 with ⟨e1,e2⟩
  cases b2 with
  | true|false=>obtain⟨o,h1,h2,_⟩:=e1;obtain⟨o',h3,h4,_⟩:=e2;simp_all
 have hh1:A.in1.handled=none:=hh
 have D1:=Draws.sq (prog:=prog) (w:=w) (b:=b1) (xs:=xs) hh1 i1 ne1
 have D2:=Draws.sq (prog:=prog) (w:=w) (b:=b2) (xs:=ys) hh1 i2 ne2
 have Tt:∀o,s.heap.get? z=some o->o.cls=.type "zip"->s.TypeIs (.ref z) "zip":=fun o e c=>⟨o,e,c⟩
 have i1lt:i1<s.heap.objs.size:=by
  cases b1 with
  | true|false=>obtain⟨o,h1,_⟩:=x2.1;exact Qj h1
 have i2lt:i2<s.heap.objs.size:=by
  cases b2 with
  | true|false=>obtain⟨o,h1,_⟩:=x3.1;exact Qj h1
 rcases x4 with ⟨y1,u0,v0,y2⟩|⟨a,f,oa,y1,y2,y3,y4,y5,y6⟩
 ·have hT:=Tt _ y1 rfl;unfold pyNext;refine Qa (Gy (QF (name:=Ga "__next__") hT GD (QH GD hT KA (Jbe Z D1 D2 y1 x1 y2 x2 x3 l1 l2 fun u v k tk pu pv t1 t2 t3 t4 t5 t6 t7 t8=>Qf ?_) (Ks _))));exact hQ u v k tk pu pv ⟨t2,t4,t5,.inr ⟨_,false,_,t1,t6,Q1 hS,Q1 (Qj y1),Q1 i1lt,Q1 i2lt⟩⟩ t6 t7 t8
 ·have hT:=Tt _ y1 rfl;unfold pyNext;refine Qa (Gy (QF (name:=Ga "__next__") hT GD (QH GD hT KA (Jgu Z D1 D2 y1 y2 x1 x2 x3 l1 l2 fun u v k tk pu pv t1 t4 t5 t6 t7 t8=>Qf ?_) (Ks _))))
  have ti1:TI≠i1:=fun q=>Z.t1 (by rw[q];simp)
  have ti2:TI≠i2:=fun q=>Z.t2 (by rw[q];simp)
  exact hQ u v k tk pu pv ⟨t8 _ _ Z.a1 ti1 ti2 x1,t4,t5,.inr ⟨a,true,oa,t1,t8 _ _ y4 y5 y6 y2,y3,y4,y5,y6⟩⟩ t6 t7 fun c o c1 _ c3 c4 q=>t8 c o c1 c3 c4 q
theorem JjU{Q:Option Qc->Qe->Prop}(hh:A.handled=none)(Z:ZA z TI TO i1 i2 [i1,a1] [i2,a2])(st:LzSt b1 b2 a1 a2 z TI TO i1 i2 S xs ys i s.heap)(hend:i=xs.size\/(i<xs.size/\i=ys.size))
 (hQ:∀h' tk,(∀c o,c≠z->c≠TO->c≠i1->c≠i2->s.heap.get? c=some o->h'.get? c=some o)->Q none { s with heap:=h',toks:=tk }) :
 wpAny (model prog w) A (pyNext (.ref z)) Q E s:=by
 obtain⟨x1,x2,x3,x4⟩:=st
 have ne1:a1≠i1:=fun q=>by
  subst q;rcases x2 with ⟨e1,e2⟩
  cases b1 with
  | true|false=>obtain⟨o,h1,h2,_⟩:=e1;obtain⟨o',h3,h4,_⟩:=e2;simp_all
 have ne2:a2≠i2:=fun q=>by
  subst q;rcases x3 with ⟨e1,e2⟩
  cases b2 with
  | true|false=>obtain⟨o,h1,h2,_⟩:=e1;obtain⟨o',h3,h4,_⟩:=e2;simp_all
 have hh1:A.in1.handled=none:=hh
 have D1:=Draws.sq (prog:=prog) (w:=w) (b:=b1) (xs:=xs) hh1 i1 ne1
 have D2:=Draws.sq (prog:=prog) (w:=w) (b:=b2) (xs:=ys) hh1 i2 ne2;rcases x4 with ⟨y1,u0,v0,y2⟩|⟨a,f,oa,y1,y2,y3,y4,y5,y6⟩
 ·have hT:s.TypeIs (.ref z) "zip":=⟨_,y1,rfl⟩
  unfold pyNext;refine Qa (Gy (QF (name:=Ga "__next__") hT GD (QH GD hT KA (Jdj Z D1 D2 y1 x1 y2 x2 x3 hend fun k e tk kk he=>?_) (Ks _))));obtain⟨o,ho,hoc⟩:=he;exact Qa (Gu (T:="StopIteration") (b:=true) ⟨o,ho,hoc⟩ KB (Qf (hQ k tk kk)))
 ·have hT:s.TypeIs (.ref z) "zip":=⟨_,y1,rfl⟩
  unfold pyNext;refine Qa (Gy (QF (name:=Ga "__next__") hT GD (QH GD hT KA (JiV Z D1 D2 y1 y2 x1 x2 x3 hend fun k e tk kk he=>?_) (Ks _))));obtain⟨o,ho,hoc⟩:=he;exact Qa (Gu (T:="StopIteration") (b:=true) ⟨o,ho,hoc⟩ KB (Qf (hQ k tk fun c o c1 _ c3 c4 q=>kk c o c1 c3 c4 q)))
end
structure LzG (xs ys:Array Qc) (lo:Qd) (h:QC) (as:List Qd):Prop where
 rise:as.Pairwise (·<·)
 above:∀a∈as,lo<a
 pairs:∀(j:Nat) (a:Qd),as[j]?=some a->∃u v,xs[j]?=some u/\ys[j]?=some v/\IsPair h a u v
theorem LzG.there{xs ys:Array Qc}{lo:Qd}{h:QC}{as:List Qd}(g:LzG xs ys lo h as){a:Qd}(ha:a∈as):a<h.objs.size:=by obtain⟨j,hj⟩:=Q0.mp ha;obtain⟨_,_,_,_,e⟩:=g.pairs j a hj;exact Qj e
section
variable{prog:Qm}{w:Qp}{A:Qx}{s:Qe}{R:L9->Qe->Prop}{b1 b2:Bool}{a1 a2 z TI TO i1 i2 S:Qd}{xs ys:Array Qc}
theorem JjZ(hh:A.handled=none)(Z:ZA z TI TO i1 i2 [i1,a1] [i2,a2])(nS:S∉[z,TI,TO,i1,i2,a1,a2])(hlo:∀b∈[z,TI,TO,i1,i2],b<S)(n:Nat)(hn:n=min xs.size ys.size)(hz:n<=Qk)(res:Qc){h₁:QC}
 (hR:∀h' tk acc c as,(∀b o,b≠S->b≠z->b≠TO->b≠i1->b≠i2->h₁.get? b=some o->h'.get? b=some o)->h'.get? S=some { cls:=.type "list",dict:=none,data:=.seq acc c,slots:=#[] }->as.length=n->LzG xs ys S h' as ->
  acc.toList=as.map Value.ref->R (.ok (.ret res)) { s with heap:=h',toks:=tk }) :
 ∀(k i:Nat) (h:QC) (tk c:Nat) (acc:Array Qc) (as:List Qd),n-i=k->i<=n->LzSt b1 b2 a1 a2 z TI TO i1 i2 S xs ys i h->(∀b o,b≠S->b≠z->b≠TO->b≠i1->b≠i2->h₁.get? b=some o->h.get? b=some o) ->
  h.get? S=some { cls:=.type "list",dict:=none,data:=.seq acc c,slots:=#[] }->acc.toList=as.map Value.ref->as.length=i->LzG xs ys S h as ->
  codeAny (model prog w) A (.builtin "list.extend.loop" ⟨[.ref S,.ref z,res],[]⟩) R { s with heap:=h,toks:=tk }:=by
 have Sz:S≠z:=Q1 (hlo z (by simp))
 have ST:S≠TO:=Q1 (hlo TO (by simp))
 have S1:S≠i1:=Q1 (hlo i1 (by simp))
 have S2:S≠i2:=Q1 (hlo i2 (by simp))
 have off:∀{b:Qd},S<b->b≠z/\b≠TO/\b≠i1/\b≠i2:=fun {b} h=>⟨Q1 (Go (hlo z (by simp)) h),Q1 (Go (hlo TO (by simp)) h),Q1 (Go (hlo i1 (by simp)) h),Q1 (Go (hlo i2 (by simp)) h)⟩
 intro k
 induction k with
 | zero =>
  intro i h tk c acc as hk hi hst hkeep hS hacc hal hG;have hin:i=n:=by grind
  refine GZ Mh ?_;rw[GK GA _];show wpAny _ A.in1 (pyNext (.ref z) >>= _) _ _ _;refine Qa (JjU (s:={ s with heap:=h,toks:=tk }) (A:=A.in1) hh Z hst (by lia) fun h' tk' he=>?_);refine Qf (hR h' tk' acc c as (fun b o h1 h2 h3 h4 h5 e=>he b o h2 h3 h4 h5 (hkeep b o h1 h2 h3 h4 h5 e)) (he S _ Sz ST S1 S2 hS) (by simp[*]) ⟨hG.rise,hG.above,fun j a hj=>?_⟩ hacc);obtain⟨u,v,e1,e2,e3⟩:=hG.pairs j a hj
  obtain⟨o1,o2,o3,o4⟩:=off (hG.above a (QG hj));exact⟨u,v,e1,e2,he a _ o1 o2 o3 o4 e3⟩
 | succ k ih =>
  intro i h tk c acc as hk hi hst hkeep hS hacc hal hG;have hlt:i<n:=by lia
  have hsz:acc.size=i:=by grind[QB]
  have hSl:S<h.objs.size:=Qj hS;refine GZ Mh ?_;rw[GK GA _]
  show wpAny _ A.in1 (pyNext (.ref z) >>= _) _ _ _;refine Qa (JjX (s:={ s with heap:=h,toks:=tk }) (A:=A.in1) hh Z hst hSl (by grind) (by grind) fun u v h' tk' pu pv hst' ht hz' hkp=>?_);dsimp only at ht hz' hkp ⊢
  have hS':=hkp S _ Sz ST S1 S2 hS
  have up:∀b o,b≠S->h'.get? b=some o->(h'.update S (K4 (·.push (Value.ref h.objs.size)))).get? b=some o:=fun b o hb e=>(QE _ _ (QL hb)).trans e
  show wpAny _ A.in1 (updateSeq S (·.push (Value.ref h.objs.size)) >>= _) _ _ _;refine Qa ?_;refine Ka hS' rfl (Qf ⟨GY GA _,ih (i+1) _ tk' _ (acc.push (Value.ref h.objs.size)) (as++[h.objs.size]) (by grind) hlt (hst'.keep up nS)
   (fun b o h1 h2 h3 h4 h5 e=>up b o h1 (hkp b o h2 h3 h4 h5 (hkeep b o h1 h2 h3 h4 h5 e))) (QP _ hS' rfl) (by simp_all) (by simp_all) ⟨?_,?_,?_⟩⟩) (by rw[hsz];exact QJ ‹_› ‹_›) (by grind)
  ·refine LO.mpr ⟨hG.rise,MH _ _,fun a ha b hb=>?_⟩;rw[Gi.mp hb];exact hG.there ha
  ·intro a ha;rcases GL.mp ha with ha|ha
   ·exact hG.above a ha
   simp_all
  ·intro j b hj;rcases Mm j as.length with h1|h1|h1
   ·rw[QA h1] at hj;obtain⟨u',v',e1,e2,e3⟩:=hG.pairs j b hj;have hb:=hG.above b (QG hj);obtain⟨o1,o2,o3,o4⟩:=off hb;exact⟨u',v',e1,e2,up b _ (Q1 hb) (hkp b _ o1 o2 o3 o4 e3)⟩
   ·subst h1;have hb:h.objs.size=b:=by simpa using hj
    subst hb;exact⟨u,v,by rw[hal];exact pu,by rw[hal];exact pv,up _ _ (Q1 hSl) ht⟩
   ·have hnone:(as++[h.objs.size])[j]?=none:=KW (by rw[Lk,LA];assumption);rw[hnone] at hj;cases hj
end
end PySem

namespace PySem
open PySem.Calls PyProof.Rows PyProof.V PySem.Spec
theorem Jnb:typeLookup (.type "zip") "__len__"=pure none:=by rfl
theorem JjY:typeLookup (.type "zip") "__length_hint__"=pure none:=by rfl
section
variable{prog:Qm}{w:Qp}{A:Qx}{E:Qc->Qe->Prop}{s:Qe}{b1 b2:Bool}{a1 a2 z TI TO i1 i2:Qd}{xs ys:Array Qc}
theorem JjV(hT:s.TypeIs (.ref z) "zip"){Q:Bool->Qe->Prop}(h:Q true s):wpAny (model prog w) A (Kg (.ref z)) Q E s:=by unfold Kg;refine Qa (GM hT Jnb ?_);refine KP (fun hab=>absurd hab (by decide)) (fun _=>?_);refine KP (fun hab=>absurd hab (by decide)) (fun _=>?_);refine Qa (GM hT JjY ?_);exact Qf h
theorem JfV{R:L9->Qe->Prop}(hh:A.handled=none)(S:Qd)(Z:ZA z TI TO i1 i2 [i1,a1] [i2,a2])(nS:S∉[z,TI,TO,i1,i2,a1,a2])(hlo:∀b∈[z,TI,TO,i1,i2],b<S)(n:Nat)(hn:n=min xs.size ys.size)(hz:n<=Qk)
 (hzip:IsZip s.heap z TI TO .none) (st:LzSt b1 b2 a1 a2 z TI TO i1 i2 S xs ys 0 s.heap) (res:Qc) (c₀:Nat) (hS:s.heap.get? S=some { cls:=.type "list",data:=.seq #[] c₀ })
 (hR:∀h' tk acc c as,(∀b o,b≠S->b≠z->b≠TO->b≠i1->b≠i2->s.heap.get? b=some o->h'.get? b=some o)->h'.get? S=some { cls:=.type "list",dict:=none,data:=.seq acc c,slots:=#[] }->as.length=n->LzG xs ys S h' as ->
  acc.toList=as.map Value.ref->R (.ok (.ret res)) { s with heap:=h',toks:=tk }) :
 wpAny (model prog w) A.in1 (GI (.ref S) (.ref z) res)
  (fun fin s'=>match fin with|.done f=>R (.ok f) s'|.again c'=>c'.quiet=true/\codeAny (model prog w) A c' R s') (fun e s'=>R (.error e) s') s:=by
 have key:∀(h:QC) (c₁ tk:Nat),(∀b o,b≠S->s.heap.get? b=some o->h.get? b=some o) ->
  h.get? S=some { cls:=.type "list",data:=.seq #[] c₁ }->codeAny (model prog w) A (.builtin "list.extend.loop" ⟨[.ref S,.ref z,res],[]⟩) R { s with heap:=h,toks:=tk }:=by
  intro h c₁ tk hk hS₁;exact JjZ (s:=s) (h₁:=s.heap) hh Z nS hlo n hn hz res hR n 0 h tk c₁ #[] [] (Nat.sub_zero _) (Gm _) (st.keep hk nS) (fun b o hb _ _ _ _ e=>hk b o hb e) hS₁ rfl rfl
   ⟨List.Pairwise.nil,(fun _ ha=>nomatch ha),(fun j a hj=>by simp at hj)⟩
 have hT:s.TypeIs (.ref z) "zip":=⟨_,hzip,rfl⟩
 have hSz:S≠z:=Q1 (hlo z (by simp));unfold GI;refine Qa (Lq (T:="zip") hT ?_)
 have h1:Kv (.ref S) (.ref z)=false:=by simp[Kv,hSz]
 have h2:(Value.type "zip" == Value.type "list")=false:=by decide
 have h3:(Value.type "zip" == Value.type "tuple")=false:=by decide
 simp only[h1,h2,h3,Bool.or_false,Gd,if_false];refine Qa (ME hzip ?_);refine Qa (Gg (JjV hT ?_));refine KP (fun _=>?_) (fun _=>Qf ⟨GY GA _,key _ c₀ _ (fun b o _ e=>e) hS⟩);refine Qa (Kb ?_);refine Qa ?_;show wpAny _ _ (updateSeq S (·.push .none) >>= fun _=>updateSeq S (·.pop)) _ _ _;refine Qa (Ka hS rfl ?_);have hS₂:=QP (K4 (·.push Value.none)) hS rfl
 refine Ka (hz:=by seq_fits) hS₂ rfl ?_;have hS₃:=QP (K4 (·.pop)) hS₂ rfl;refine Qf ⟨GY GA _,key _ _ _ (fun b o hb e=>?_) hS₃⟩
 grind[QE]
theorem JjW{R:L9->Qe->Prop}(hh:A.handled=none)(S:Qd)(Z:ZA z TI TO i1 i2 [i1,a1] [i2,a2])(nS:S∉[z,TI,TO,i1,i2,a1,a2])(hlo:∀b∈[z,TI,TO,i1,i2],b<S)(n:Nat)(hn:n=min xs.size ys.size)(hz:n<=Qk)
 (hzip:IsZip s.heap z TI TO .none) (st:LzSt b1 b2 a1 a2 z TI TO i1 i2 S xs ys 0 s.heap) (hS:s.heap.get? S=some { cls:=.type "list",data:=.seq #[] })
 (hR:∀h' tk acc c as,(∀b o,b≠S->b≠z->b≠TO->b≠i1->b≠i2->s.heap.get? b=some o->h'.get? b=some o)->h'.get? S=some { cls:=.type "list",dict:=none,data:=.seq acc c,slots:=#[] }->as.length=n->LzG xs ys S h' as ->
  acc.toList=as.map Value.ref->R (.ok (.ret .none)) { s with heap:=h',toks:=tk }) :
 wpAny (model prog w) A.in1 (Builtin.«list.__init__» ⟨[.ref S,.ref z],[]⟩)
  (fun fin s'=>match fin with|.done f=>R (.ok f) s'|.again c'=>c'.quiet=true/\codeAny (model prog w) A c' R s') (fun e s'=>R (.error e) s') s:=by
 have hSz:S≠z:=Q1 (hlo z (by simp))
 show wpAny _ _ (do let old <- MV (.ref S);Builtin.List.listUpdate (.ref S) (fun _=>#[]);letGo old.toList.reverse;GI (.ref S) (.ref z) .none) _ _ s;refine Qa ?_;unfold MV;refine Qa (Gf hS rfl (Qf ?_))
 show wpAny _ _ (updateSeq S (fun _=>#[]) >>= fun _=>letGo (#[]:Array Qc).toList.reverse >>= fun _=>GI (.ref S) (.ref z) .none) _ _ s;refine Qa (Ka hS rfl ?_)
 have hS₂:=QP (K4 (fun _=>(#[]:Array Qc))) hS rfl
 have oth:∀b o,b≠S->s.heap.get? b=some o->(s.heap.update S (K4 (fun _=>(#[]:Array Qc)))).get? b=some o :=
  fun b o hb e=>(QE _ _ (QL hb)).trans e
 refine Qa (KG ?_);exact JfV hh S Z nS hlo n hn hz (oth _ _ hSz.symm hzip) (st.keep oth nS) .none _ hS₂ (fun h' tk acc c as hk hS' hl hG hacc=>hR h' tk acc c as (fun b o hb h1 h2 h3 h4 e=>hk b o hb h1 h2 h3 h4 (oth b o hb e)) hS' hl hG hacc)
theorem JjT{Q:Qc->Qe->Prop}(hh:A.handled=none)(Z:ZA z TI TO i1 i2 [i1,a1] [i2,a2])(n:Nat)(hn:n=min xs.size ys.size)(hz:n<=Qk)
 (hzip:IsZip s.heap z TI TO .none) (gI:IsPair s.heap TI (.ref i1) (.ref i2)) (gO:IsPair s.heap TO .none .none) (t1:IsItr b1 s.heap i1 a1 0) (t2:IsItr b2 s.heap i2 a2 0) (q1:IsSq b1 s.heap a1 xs) (q2:IsSq b2 s.heap a2 ys)
 (hQ:∀h' tk acc c as,(∀b o,b≠z->b≠TO->b≠i1->b≠i2->s.heap.get? b=some o->h'.get? b=some o)->h'.get? s.heap.objs.size=some { cls:=.type "list",dict:=none,data:=.seq acc c,slots:=#[] }->as.length=n->LzG xs ys s.heap.objs.size h' as ->
  acc.toList=as.map Value.ref->Q (.ref s.heap.objs.size) { s with heap:=h',toks:=tk }) :
 wpAny (model prog w) A (call (.type "list") [.ref z]) Q E s:=by
 refine callType_codes (Q₁:=fun obj s₁=>obj=.ref s.heap.objs.size/\s₁={ s with heap:=s.heap.push { cls:=.type "list",data:=.seq #[] } }) PySem.F.called_list (PySem.F.typeCall_list_1 _) PySem.F.entry_list_init
  (code_list_new _ ⟨rfl,rfl⟩) fun obj s₁ h₁=>?_
 obtain⟨rfl,rfl⟩:=h₁;have hS:(s.heap.push { cls:=.type "list",data:=.seq #[] }).get? s.heap.objs.size=some { cls:=.type "list",data:=.seq #[] }:=Qh _ rfl;have up:∀b o,s.heap.get? b=some o->(s.heap.push { cls:=.type "list",data:=.seq #[] }).get? b=some o:=fun b o e=>Qg _ e
 have i1lt:i1<s.heap.objs.size:=by
  cases b1 with
  | true|false=>obtain⟨o,h1,_⟩:=t1;exact Qj h1
 have i2lt:i2<s.heap.objs.size:=by
  cases b2 with
  | true|false=>obtain⟨o,h1,_⟩:=t2;exact Qj h1
 have lo:∀b∈[z,TI,TO,i1,i2],b<s.heap.objs.size:=fun b hb=>by
  simp only[Qr,Gj,or_false] at hb;rcases hb with rfl|rfl|rfl|rfl|rfl
  ·exact Qj hzip
  ·exact Qj gI
  ·exact Qj gO
  ·exact i1lt
  ·exact i2lt
 have nS:s.heap.objs.size∉[z,TI,TO,i1,i2,a1,a2]:=fun hm=>by
  simp only[Qr,Gj,or_false] at hm;rcases hm with e|e|e|e|e|e|e
  ·exact absurd (Qj hzip) (by rw[e];exact Gv _)
  ·exact absurd (Qj gI) (by rw[e];exact Gv _)
  ·exact absurd (Qj gO) (by rw[e];exact Gv _)
  ·simp_all
  ·simp_all
  ·exact absurd q1.lt (by simp_all)
  ·exact absurd q2.lt (by simp_all)
 refine⟨⟨_,hS,rfl⟩,PySem.F.args_list_init_2 _ _,JjW (A:=A.in1) (b1:=b1) (b2:=b2) hh _ Z nS lo n hn hz (up _ _ hzip) ⟨up _ _ gI,⟨IsItr.keep' t1 fun o e=>up _ o e,q1.push _⟩,⟨IsItr.keep' t2 fun o e=>up _ o e,q2.push _⟩,.inl ⟨up _ _ hzip,_,_,up _ _ gO⟩⟩ hS (fun h' tk acc c as hk hS' hl hG hacc=>?_)⟩;exact⟨rfl,hQ h' tk acc c as (fun b o h1 h2 h3 h4 e=>hk b o (Qw (Qj e)) h1 h2 h3 h4 (up b o e)) hS' hl hG hacc⟩
end
end PySem

namespace L2
open PySem PySem.Spec PyProof.Rows
noncomputable def VJ(H:Hp):List Qd->List (V×V)->Hp
 | a::as,kv::kvs=>upd (VJ H as kvs) a (.tup [kv.1,kv.2])
 | _,_=>H
theorem Ui{H:Hp}{b:Qd}:∀{as:List Qd} {kvs:List (V×V)},b∉as->VJ H as kvs b=H b
 | [],_,_=>rfl
 | _::_,[],_=>rfl
 | a::as,kv::kvs,h=>by rw[VJ,Jf fun z=>h (by simp_all)];exact Ui fun m=>h (Qq _ m)
theorem Zm{H:Hp}:∀{as:List Qd} {kvs:List (V×V)} {j:Nat} {a:Qd} {kv:V×V},as.Nodup->as[j]?=some a->kvs[j]?=some kv->VJ H as kvs a=some (.tup [kv.1,kv.2])
 | [],_,_,_,_,_,e,_=>by simp at e
 | _::_,[],_,_,_,_,_,e=>by simp at e
 | b::as,kv'::kvs,0,a,kv,_,e1,e2=>by simp at e1 e2;subst e1 e2;rw[VJ,Jl]
 | b::as,kv'::kvs,j+1,a,kv,hn,e1,e2=>by
  rw[Gc] at hn;simp at e1 e2;have hne:a≠b:=fun z=>hn.1 (by rw[<- z];exact QG e1)
  rw[VJ,Jf hne];exact Zm hn.2 e1 e2
theorem nm2{x y z:Nat}(h1:x≠y)(h2:x≠z):x∉[y,z]:=by simp[h1,h2]
theorem Jsl{n b:Nat}(h:b<n):b≠n+4/\b≠n+3/\b≠n/\b≠n+1/\b≠n+2:=by lia
theorem za5{n a1 a2:Nat}(h1:a1<n)(h2:a2<n):ZA (n+4) (n+2) (n+3) n (n+1) [n,a1] [n+1,a2] :=
 ⟨show(n+2:Nat)≠n+4 by simp[*],show(n+3:Nat)≠n+4 by simp[*],show(n+2:Nat)≠n+3 by simp[*],by simp,by simp,
  nm2 (by simp[*]) (by lia),nm2 (by simp[*]) (by lia),nm2 (by simp[*]) (by lia),nm2 (by simp[*]) (by lia),nm2 (by simp[*]) (by lia),nm2 (by simp[*]) (by lia),nm2 (by simp[*]) (by lia),nm2 (by simp[*]) (by lia)⟩
noncomputable def Jdb(K:Qo)(ta:TA):TE:=fun σ H Q=>ta σ H fun vs H1=>∃(b1 b2:Bool) (a1 a2:Qd) (xs ys:List V),vs=[.ref a1,.ref a2]/\Sq b1 K H1 a1 xs/\Sq b2 K H1 a2 ys/\(xs.zip ys).length<=Qk ∧
 ∀(L:Qd) (as:List Qd),H1 L=none->as.length=(xs.zip ys).length->as.Nodup->L∉as->(∀b∈as,H1 b=none)->Q (.ref L) (upd (VJ H1 as (xs.zip ys)) L (.lst (as.map V.ref)))
theorem JcT{X:Cx}{K:Qo}{a b:QV}{ta:TA}{p pos p2 pos2:Pos}(hK:X.K=K)(hc:X.calm=true)(hgl:Gl X "list")(hml:X.mg "list"=none)(hg:Gl X "zip")(hm:X.mg "zip"=none)(ha:PA X [a,b] ta)(hs:starEach [a,b] X.env=[(false,eval a X.env),(false,eval b X.env)]:=by rfl)
 (hs2:starEach [b] X.env=[(false,eval b X.env)]:=by rfl):PE X (.Call (.Name "list" p) [.Call (.Name "zip" p2) [a,b] [] pos2] [] pos) (Jdb K ta):=by
 subst hK;intro pins s σ H Q I h;refine Call_ (YY I hgl hml Vz (Q8 ?_ rfl rfl));show wpAny _ _ (spliced ((false,eval (.Call (.Name "zip" p2) [a,b] [] pos2) X.env)::backTo pos (starEach [] X.env))) _ _ s;refine Kl ?_;refine Call_ (YY I hg hm JgM (Q8 (thn (ha pos2 pins s σ H _ I h) fun us s1 zz=>?_) (by rw[hs,hs2]) (by rw[hs2];rfl)));obtain⟨vs,H1,I1,r1,q1⟩:=zz;obtain⟨b1,b2,a1,a2,xs,ys,e,c1,c2,hz,q⟩:=q1
 subst e
 cases r1 with
 | cons r rr =>
 cases rr with
 | cons r' rr =>
 cases rr;cases r;cases r';obtain⟨its,w1,p1⟩:=c1.heap I1;obtain⟨jts,w2,p2'⟩:=c2.heap I1;have hh:X.A.handled=none:=I1.ok.hd hc;have n1:its.toArray.size=xs.length:=by rw[QW,w1.length]
 have n2:jts.toArray.size=ys.length:=by rw[QW,w2.length]
 have hzl:(xs.zip ys).length=min its.toArray.size jts.toArray.size:=by simp_all
 refine JaO p1 p2' fun h' t1 t2 t3 t4 t5 kp=>Lp ?_
 have Z:ZA (s1.heap.objs.size+4) (s1.heap.objs.size+2) (s1.heap.objs.size+3) s1.heap.objs.size (s1.heap.objs.size+1) [s1.heap.objs.size,a1] [s1.heap.objs.size+1,a2]:=za5 p1.lt p2'.lt;refine JjT (s:={ s1 with heap:=h' }) hh Z (xs.zip ys).length hzl hz t1 t2 t3 t4 t5 (p1.keep fun o e=>kp _ o e) (p2'.keep fun o e=>kp _ o e) fun h2 tk acc c as hk hS hal hG hacc=>?_
 have hle:s1.heap.objs.size<h'.objs.size:=GB (K9 _ 4) (Qj t1)
 have hnd:as.Nodup:=hG.rise.imp fun {x y} h=>Qw h
 have hLa:h'.objs.size∉as:=fun m=>absurd (hG.above _ m) (Gv _)
 have fr:∀b∈as,H1 b=none:=fun b hb=>I1.hok.fresh (Gk (Go hle (hG.above b hb)))
 have hne:H1 h'.objs.size=none:=I1.hok.fresh (Gk hle);refine⟨.ref h'.objs.size,_,I1.more (t':=tk) (fun b u e=>?_) (fun b hb=>?_) (fun b o hb e=>?_),rfl,q h'.objs.size as hne hal hnd hLa fr⟩
 ·obtain⟨o1,o2,o3,o4,_⟩:=Jsl (Qj e);exact hk b u o1 o2 o3 o4 (kp b u e)
 ·rw[Jf (Qw (Go hb hle))];exact Ui fun m=>absurd (hG.above b m) (LI.mpr (Gk (Go hb hle)))
 ·by_cases hL:b=h'.objs.size
  ·subst hL;rw[Jl] at e;cases e;refine⟨by simp_all,acc.toList,c,?_,?_⟩
   ·rw[hacc]
    have:∀l:List Qd,Vals (l.map V.ref) (l.map Value.ref):=fun l=>by
     induction l with
     | nil=>exact .nil
     | cons x l ih=>exact .cons rfl ih
    exact this as
   ·rw[hS]
  ·rw[Jf hL] at e
   by_cases hm:b∈as
   ·obtain⟨j,hj⟩:=Q0.mp hm;obtain⟨u,v,e1,e2,e3⟩:=hG.pairs j b hj;have hjl:j<(xs.zip ys).length:=by grind
    have hkv:(xs.zip ys)[j]?=some (xs.zip ys)[j]:=Gh hjl
    have hx:xs[j]?=some (xs.zip ys)[j].1:=by simp_all
    have hy:ys[j]?=some (xs.zip ys)[j].2:=by simp_all
    obtain⟨ux,hux,rux⟩:=w1.get hx;obtain⟨uy,huy,ruy⟩:=w2.get hy
    have eu:u=ux:=by simp_all
    have ev:v=uy:=by simp_all
    subst eu ev;rw[Zm hnd hj hkv] at e;cases e;exact⟨by show 2<=Qk;decide,[u,v],.cons rux (.cons ruy .nil),⟨_,e3,rfl,_,rfl⟩⟩
   ·rw[Ui hm,I1.hok.fresh hb] at e;cases e
end L2

namespace LE
open PySem L2 LR
noncomputable def JgY(as:En->Option (List Sl)):Ev:=fun E=>(as E).bind (on2 fun s t=>(s.it true).bind fun ds=>(t.it true).bind fun es=>if ds.length<=Qk then some (.own (Jgt ds es)) else none)
section
variable{K:Qo}{C:Qd}
theorem Ja2{H:Hp}{kvs:List (V×V)}{as:List Qd}(h:∀b∈as,H b=none):Same H (VJ H as kvs):=fun b o e=>by grind[Ui]
theorem JeF{H:Hp}:∀{as:List Qd} {kvs:List (V×V)} {b:Qd} {o:HO},VJ H as kvs b=some o->H b=some o\/b∈as
 | [],_,_,_,e=>.inl e
 | _::_,[],_,_,e=>.inl e
 | a::as,kv::kvs,b,o,e=>by
  by_cases c:b=a
  ·simp_all
  ·rw[VJ,Jf c] at e;exact(JeF e).imp id fun m=>Qq _ m
theorem RDL.zips:∀{xs ys:List V} {ds es:List D} {as:List Qd} {H:Hp},as.length=(xs.zip ys).length->(∀(j:Nat) (a:Qd) (x y:V),as[j]?=some a->xs[j]?=some x->ys[j]?=some y->H a=some (.tup [x,y]))->RDL K C H xs ds->RDL K C H ys es->RDL K C H (as.map V.ref) (Jgt ds es)
 | [],ys,ds,es,as,H,h1,_,r,r'=>by
  have:ds=[]:=by
   cases ds with
   | nil=>rfl
   | cons d ds=>have:=r.1;simp at this
  subst this;have:as=[]:=GW (by simpa using h1);subst this;exact .nil
 | x::xs,[],ds,es,as,H,h1,_,r,r'=>by
  have:es=[]:=by
   cases es with
   | nil=>rfl
   | cons d ds=>have:=r'.1;simp at this
  subst this;have:as=[]:=GW (by simpa using h1);subst this;cases ds <;> exact .nil
 | x::xs,y::ys,[],es,as,H,h1,_,r,r'=>by have:=r.1;simp at this
 | x::xs,y::ys,d::ds,[],as,H,h1,_,r,r'=>by have:=r'.1;simp at this
 | x::xs,y::ys,d::ds,e::es,[],H,h1,_,r,r'=>by simp at h1
 | x::xs,y::ys,d::ds,e::es,a::as,H,h1,h3,r,r'=>by show RDL K C H (V.ref a::as.map V.ref) (.tup [d,e]::Jgt ds es);exact .cons (.mkT (.of (h3 0 a x y rfl rfl rfl)) (.cons r.head (.cons r'.head .nil))) (RDL.zips (by simpa using h1) (fun j a x y e1 e2 e3=>h3 (j+1) a x y (by simpa using e1) (by simpa using e2) (by simpa using e3)) r.tail r'.tail)
theorem JoC{t:TA}{ev:En->Option (List Sl)}(ha:SA K C t ev):SE K C (Jdb K t) (JgY ev):=by
 intro B H0 H σ E r Q I e q;obtain⟨ss,e1,e⟩:=bind_some e
 replace e:=Z0 e;obtain⟨s,u,rfl,e⟩:=e;obtain⟨ds1,e2,e⟩:=bind_some e;obtain⟨ds2,e3,e⟩:=bind_some e;split at e
 ·next hz =>
  cases e;refine ha B H0 H σ E _ _ I e1 fun vs H1 H1' s1 r1=>?_
  obtain⟨v,w,rfl,ra,rb⟩:=r1.two;have f:=JF (Hs:=H) s1.i;obtain⟨b1,a1,xs,rfl,k1,w1⟩:=JfD (m:=true) ra s1.i e2;obtain⟨b2,a2,ys,rfl,k2,w2⟩:=JfD (m:=true) rb s1.i e3;have st0:SStep H1' (JK H H1 H1') (JK H H1 H1') H1':=⟨Same.refl _,Same.refl _,fun _ _ e=>.inl e,f.i⟩
  have s2:=s1.comp f fun _ z=>z
  refine⟨b1,b2,a1,a2,xs,ys,rfl,k1 _ (fun _=>rfl) _ _ st0,k2 _ (fun _=>rfl) _ _ st0,?_,fun L as hL hal hnd hLa hfr=>?_⟩
  ·rw[LU,w1.1];exact QJ (Nat.min_le_left _ _) hz
  have fr0:∀b∈as,JK H H1 H1' b=none:=fun b hb=>Same.free s2.i (hfr b hb)
  have frH:∀b∈as,H b=none:=fun b hb=>Same.free s2.h (hfr b hb)
  have hL0:JK H H1 H1' L=none:=Same.free s2.i hL
  have z0:Same (JK H H1 H1') (VJ (JK H H1 H1') as (xs.zip ys)):=Ja2 fr0
  have zz:Same H1' (VJ H1' as (xs.zip ys)):=Ja2 hfr
  have hLl:VJ H1' as (xs.zip ys) L=none:=by rw[Ui hLa];exact hL
  have ii:Same (VJ (JK H H1 H1') as (xs.zip ys)) (VJ H1' as (xs.zip ys)):=fun b o e=>by
   by_cases hb:b∈as
   ·obtain⟨j,hj⟩:=Q0.mp hb
    have hjl:j<(xs.zip ys).length:=by grind
    have hkv:=Gh hjl;rw[Zm hnd hj hkv] at e ⊢;exact e
   ·rw[Ui hb] at e ⊢;exact s2.i b o e
  refine q _ (VJ (JK H H1 H1') as (xs.zip ys)) _ ⟨(s2.h.trans zz).trans (.new hLl),s2.z.trans z0,fun b o e=>?_,ii.trans (.new hLl)⟩ ⟨L,as.map V.ref,rfl,Jl,by rw[Ui hLa];exact hL0,Same.free s2.h hL,?_⟩
  ·rcases JeF e with z|z
   ·exact s2.n b o z
   ·exact .inr (.inl (frH b z))
  ·refine RDL.zips hal (fun j a x y j1 j2 j3=>?_) (w1.mono z0) (w2.mono z0);exact Zm (kv:=(x,y)) hnd j1 (by rw[Mf];exact⟨j2,j3⟩)
 ·cases e
end
end LE

namespace L2
open PySem PySem.Spec PyProof.Rows
section
variable{X:Cx}{pins:List (Qd×Obj)}{σ:St}{H:Hp}{s:Qe}{a:Qd}{kvs:List (Key×V)}{k:Key}{z:V}{u r:Qc}{A:Qx}{E:Qc->Qe->Prop}
theorem Jmg{Q:Qc->Qe->Prop}(I:Inv X pins σ H s)(e:H a=some (.dK kvs))(ry:RelV (kV k) u)(rz:RelV z r)(l:kvs.length<Qk)
 (h1:∀v w' s',Uo kvs k=some v->Inv X pins σ H s'->RelV v w'->Q w' s') (h2:Uo kvs k=none->∀s',Inv X pins σ (upd H a (.dK (UL kvs k z))) s'->Q r s') :
 wpAny (model X.prog X.w) A (call (.builtin "dict.setdefault") [.ref a,u,r]) Q E s:=by
 obtain⟨hz,hd,vs,rel,dd⟩:=JlB I.hok e;have hzl:vs.length<=Qk:=by rw[<- rel.length];exact hz
 have hl:(UL kvs k z).length<=Qk:=by grind[Vk]
 refine call_meetsIn LV dd.typeIs PySem.F.entry_dict_setdefault (PySem.F.args_dict_setdefault_3 _ _ _) (kt_meets_setdefault (JE X.prog X.w) a (Jcu ry) hd r) ⟨vs,dd,hzl,fun v hv=>?_,fun hn h' dd' hs=>?_⟩
 ·have rv:=rel.val k;rw[hv] at rv
  cases hk:Uo kvs k with
  | none=>rw[hk] at rv;cases rv
  | some y=>rw[hk] at rv;exact h1 y v _ hk (I.tok _) rv
 ·have rv:=rel.val k;rw[hn] at rv
  have hk:Uo kvs k=none:=by
   cases hk:Uo kvs k with
   | none=>rfl
   | some y=>rw[hk] at rv;cases rv
  refine h2 hk _ ?_;have he:∃q,h'.get? a=some q:=let ⟨q,_,_,hq,_⟩:=dd';⟨q,hq⟩
  exact Zk I (by rw[e];exact True.intro) hs he (JgX hl hd (rel.put k rz) dd')
end
noncomputable def Jd9(td ty tx:TE):TE:=fun σ H Q=>td σ H fun x H1=>∃a,x=.ref a/\IsD H1 a/\ty σ H1 fun y H2=>tx σ H2 fun z H3=>∃kvs k,H3 a=some (.dK kvs)/\y=kV k/\kvs.length<Qk ∧
 (∀v,Uo kvs k=some v->Q v H3)/\(Uo kvs k=none->Q z (upd H3 a (.dK (UL kvs k z))))
section
variable{X:Cx}{o e f:QV}{apos cpos:Pos}{td ty tx:TE}
theorem JhP(ho:PE X o td)(he:PE X e ty)(hf:PE X f tx)(m:M2 X o "setdefault" apos e f cpos):PE X (.Call (.Attribute o "setdefault" apos) [e,f] [] cpos) (Jd9 td ty tx):=by
 intro pins s σ H Q I h;refine wpAny_Call_method m.base m.few m.line Kz LV PySem.F.type_dict_setdefault (thE (ho pins s σ H _ I h) fun u s1 x H1 I1 rx zz=>?_);obtain⟨a,ex,d,q1⟩:=zz;subst ex;obtain rfl:u=Value.ref a:=rx;obtain⟨t1,t2,_⟩:=Jby I1 d;refine⟨t1,t2,?_⟩;rw[m.trees];refine G6 rfl (K3 (Kl (thE (he pins s1 σ H1 _ I1 q1) fun iv s2 y H2 I2 ry q2=>Kl (thE (hf pins s2 σ H2 _ I2 q2) fun fv s3 z H3 I3 rz zz=>Lp ?_))))
 obtain⟨kvs,k,e1,e2,l,q3,q4⟩:=zz;subst e2;exact Jmg I3 e1 ry rz l (fun v w' s' hv I4 rv=>⟨v,H3,I4,rv,q3 v hv⟩) fun hn s' I4=>⟨z,_,I4,rz,q4 hn⟩
end
end L2
namespace LE
open PySem L2 LR
section
variable(K:Qo)(C:Qd)(j:Nat)
noncomputable def Left(σ:St)(E:En)(σ':St)(E':En):Prop:=σ'[j]?=σ[j]?/\∀(i:Nat) (s:Sl),E'[i]?=some s->JR s=true->E[i]?=some s/\σ'[i]?=σ[i]?
noncomputable def SGJ(g:TG)(p:Pt):Prop:=∀(B H0 H:Hp) (σ:St) (E E':En) (x:V) (d:D) (Q:St->Hp->Prop),EnvR K C B H0 H σ E->RD K C H0 x d->p.bind d E=some E'->(∀σ',EnvR K C B H0 H σ' E'->Left j σ E σ' E'->Q σ' H)->g x σ H Q
noncomputable def JiY(g:TGs)(p:Pts):Prop:=∀(B H0 H:Hp) (σ:St) (E E':En) (xs:List V) (ds:List D) (Q:St->Hp->Prop),EnvR K C B H0 H σ E->RDL K C H0 xs ds->p.bind ds E=some E'->(∀σ',EnvR K C B H0 H σ' E'->Left j σ E σ' E'->Q σ' H)->g xs σ H Q
end
section
variable{K:Qo}{C:Qd}{j:Nat}
theorem Left.refl(σ:St)(E:En):Left j σ E σ E:=⟨rfl,fun _ _ e _=>⟨e,rfl⟩⟩
theorem Left.trans{σ σ1 σ2:St}{E E1 E2:En}(a:Left j σ E σ1 E1)(b:Left j σ1 E1 σ2 E2):Left j σ E σ2 E2 :=
 ⟨b.1.trans a.1,fun i s e o=>by obtain⟨h1,h2⟩:=b.2 i s e o;obtain⟨h3,h4⟩:=a.2 i s h1 o;exact⟨h3,h2.trans h4⟩⟩
theorem Jhf{i:Nat}(h:i≠j):SGJ K C j (YS i) (.nm i):=by
 intro B H0 H σ E E' x d Q I r e q;rw[Pt.bind] at e;split at e
 ·cases e;refine q _ (I.setSh (by assumption) r) ⟨by simp_all,fun i' s e o=>?_⟩;rw[Qv] at e
  by_cases c:i=i'
  ·rw[if_pos c] at e
   by_cases hl:i<E.length
   ·rw[if_pos hl] at e;have e':Sl.sh d=s:=Q6 e;rw[<- e'] at o;exact absurd o Qz
   ·rw[if_neg hl] at e;exact absurd e (by simp)
  simp_all
 ·cases e
theorem JmN:JiY K C j JjF .nil:=by
 intro B H0 H σ E E' xs ds Q I r e q
 cases ds with
 | nil =>
  cases xs with
  | nil=>rw[Pts.bind] at e;cases e;exact⟨rfl,q σ I (.refl σ _)⟩
  | cons _ _=>have:=r.1;simp at this
 | cons _ _=>simp[Pts.bind] at e
theorem Jbu{g:TG}{gs:TGs}{p:Pt}{ps:Pts}(h:SGJ K C j g p)(hs:JiY K C j gs ps):JiY K C j (Jex g gs) (.cons p ps):=by
 intro B H0 H σ E E' xs ds Q I r e q
 cases ds with
 | nil=>simp[Pts.bind] at e
 | cons d ds =>
  cases xs with
  | nil=>have:=r.1;simp at this
  | cons x xs=>rw[Pts.bind] at e;obtain⟨E1,e1,e2⟩:=bind_some e;exact⟨x,xs,rfl,h B H0 H σ E E1 x d _ I r.head e1 fun σ1 I1 l1=>hs B H0 H σ1 E1 E' xs ds Q I1 r.tail e2 fun σ2 I2 l2=>q σ2 I2 (l1.trans l2)⟩
theorem JmO{n:Nat}{gs:TGs}{ps:Pts}(hs:JiY K C j gs ps)(hn:ps.len=n):SGJ K C j (JfA K n gs) (.tp ps):=by
 intro B H0 H σ E E' x d Q I r e q
 cases d with
 | tup ds=>rw[Pt.bind] at e;obtain⟨a,xs,rfl,h,r⟩:=RD.tupI r;exact⟨a,xs,rfl,I.h.seqT h,by rw[r.1];exact(Pts.bind_len e).trans hn,hs B H0 H σ E E' xs ds Q I r e q⟩
 | _=>simp[Pt.bind] at e
theorem EnvR.poke{B H0 H:Hp}{σ:St}{E:En}{a:Qd}{o:HO}(I:EnvR K C B H0 H σ E)(h0:H0 a=none)(hb:B a=none)(ho:∀(i:Nat) (s:Sl),E[i]?=some s->JR s=true->σ[i]?≠some (some (.ref a))):EnvR K C B H0 (upd H a o) σ E:=by
 have nb:∀{A:Hp},A a=none->Same A H->Same A (upd H a o):=fun {A} n s b o e=>by rw[Jf (Jp e n)];exact s b o e
 refine⟨nb hb I.b,nb h0 I.h,I.len,fun i s e=>?_,I.sep,I.t⟩;rcases I.at' i s e with z|⟨v,q1,q2⟩
 ·exact .inl z
 ·refine .inr ⟨v,q1,?_⟩
  cases s with
  | no=>trivial
  | sh d=>exact q2
  | bo es=>exact q2
  | bd ks es|bt ks es|bw ks es=>exact q2
  | own es =>
   obtain⟨l',ys,p1,p2,p3⟩:=q2;subst p1;have:l'≠a:=fun z=>ho i _ e rfl (by rw[q1,z])
   exact⟨l',ys,rfl,by rw[Jf this];exact p2,p3⟩
  | od ks es|ot ks es|dw ks es =>
   obtain⟨l',ys,p1,p2,p3⟩:=q2;subst p1;have:l'≠a:=fun z=>ho i _ e rfl (by rw[q1,z])
   exact⟨l',ys,rfl,by rw[Jf this];exact p2,p3⟩
end
end LE

namespace LE
open PySem L2 LR
noncomputable def Jb5:List Int->List (List D)->Int->D->List (List D)
 | k::ks,x::xs,n,d=>if k=n then(x++[d])::xs else x::Jb5 ks xs n d
 | _,xs,_,d=>xs++[[d]]
noncomputable def JaV(p:Pt)(ek ev:Ev):List D->En->List Int->List (List D)->Option (En×List Int×List (List D))
 | [],E,ks,dss=>some (E,ks,dss)
 | d::ds,E,ks,dss=>(p.bind d E).bind fun E1=>((ek E1).bind int?).bind fun n=>(ev E1).bind fun s=>s.frz.bind fun dv=>JaV p ek ev ds E1 (UM ks n) (Jb5 ks dss n dv)
noncomputable def JoO(it:En->Option (List D))(p:Pt)(j:Nat)(ek ev:Ev):Es:=fun E=>match E[j]? with
 | some (.od [] [])=>(it E).bind fun ds=>if ds.length<Qk then(JaV p ek ev ds (E.set j .no) [] []).bind fun r=>if j<r.1.length then some (.nx (r.1.set j (.od r.2.1 (r.2.2.map .lst)))) else none else none
 | _=>none
theorem Zt:∀{ks:List Int} {ls:List Qd} {n:Int} {a:Qd},look ks ls n=some a->∃m,ls[m]?=some a/\Jcn ks n=true/\∀dss:List (List D),dss.length=ls.length->∃ds,dss[m]?=some ds/\∀d,Jb5 ks dss n d=dss.set m (ds++[d])
 | [],_,_,_,e=>by cases e
 | _::_,[],_,_,e=>by cases e
 | k::ks,l::ls,n,a,e=>by
  simp only[look] at e
  by_cases c:k=n
  ·rw[if_pos c] at e;cases e;refine⟨0,rfl,by unfold Jcn;simp[c],fun dss hl=>?_⟩
   cases dss with
   | nil=>simp at hl
   | cons x xs=>exact⟨x,rfl,fun d=>by rw[Jb5,if_pos c];rfl⟩
  ·rw[if_neg c] at e;obtain⟨m,h1,h2,h3⟩:=Zt e;refine⟨m+1,by simpa using h1,by unfold Jcn at h2 ⊢;rw[Rk,h2,Bool.or_true],fun dss hl=>?_⟩
   cases dss with
   | nil=>simp at hl
   | cons x xs=>obtain⟨ds,g1,g2⟩:=h3 xs (by simpa using hl);exact⟨ds,by simpa using g1,fun d=>by rw[Jb5,if_neg c,g2 d];rfl⟩
theorem JaI:∀{ks:List Int} {ls:List Qd} {n:Int},ks.length=ls.length->look ks ls n=none->Jcn ks n=false/\∀(dss:List (List D)) (d:D),dss.length=ls.length->Jb5 ks dss n d=dss++[[d]]
 | [],[],_,_,_=>⟨rfl,fun dss d _=>by cases dss <;> rfl⟩
 | [],_::_,_,h,_=>by simp at h
 | _::_,[],_,h,_=>by simp at h
 | k::ks,l::ls,n,h,e=>by
  simp only[look] at e
  by_cases c:k=n
  ·simp_all
  ·rw[if_neg c] at e;obtain⟨h1,h2⟩:=JaI (by simpa using h) e;refine⟨by grind[Jcn],fun dss d hl=>?_⟩
   cases dss with
   | nil=>simp at hl
   | cons x xs=>rw[Jb5,if_neg c,h2 xs d (by simpa using hl)];rfl
section
variable(K:Qo)(C:Qd)
structure Grp (B H0 H:Hp) (σ:St) (E:En) (j c:Nat) (ks:List Int) (dss:List (List D)) (l:Qd) (ls:List Qd):Prop where
 at':σ[j]?=some (some (.ref l))
 dict:H l=some (dkO ks (ls.map V.ref))
 l0:H0 l=none
 lb:B l=none
 len:ks.length=ls.length
 len2:dss.length=ls.length
 cnt:ks.length<=c
 lists:∀(m:Nat) (a:Qd) (ds:List D),ls[m]?=some a->dss[m]?=some ds->ds.length<=c/\∃xs,H a=some (.lst xs)/\H0 a=none/\B a=none/\RDL K C H0 xs ds
 nd:(l::ls).Nodup
 own:∀(i:Nat) (s:Sl) (a:Qd),E[i]?=some s->JR s=true->σ[i]?=some (some (.ref a))->a∉l::ls
end
section
variable{K:Qo}{C:Qd}{B H0 H H0' H':Hp}{σ σ':St}{E E':En}{j c:Nat}{ks:List Int}{dss:List (List D)}{l:Qd}{ls:List Qd}
theorem Grp.there(g:Grp K C B H0 H σ E j c ks dss l ls){a:Qd}(ha:a∈l::ls):∃o,H a=some o/\isT o=false/\H0 a=none/\B a=none:=by
 rcases Qr.mp ha with z|z
 ·subst z;exact⟨_,g.dict,rfl,g.l0,g.lb⟩
 ·obtain⟨m,hm⟩:=Q0.mp z;have hl:m<dss.length:=by rw[g.len2];exact(Qi.mp hm).1
  obtain⟨_,xs,h1,h2,h3,_⟩:=g.lists m a dss[m] hm (Gh hl);exact⟨_,h1,rfl,h2,h3⟩
theorem Grp.off(g:Grp K C B H0 H σ E j c ks dss l ls)(st:Step H H0 H H0' H'){a:Qd}(ha:a∈l::ls):H0' a=none:=by
 obtain⟨o,h1,h2,h3,_⟩:=g.there ha
 cases z:H0' a with
 | none=>rfl
 | some u =>
  rcases st.n a u z with y|y|y
  ·rw[h3] at y;cases y
  ·rw[h1] at y;cases y
  ·have:=st.i a u z;rw[st.h a o h1] at this
   simp_all
theorem Grp.step(g:Grp K C B H0 H σ E j c ks dss l ls)(st:Step H H0 H H0' H'):Grp K C B H0' H' σ E j c ks dss l ls :=
 ⟨g.at',st.h _ _ g.dict,g.off st QD,g.lb,g.len,g.len2,g.cnt,fun m a ds e1 e2=>by obtain⟨h0,xs,h1,h2,h3,h4⟩:=g.lists m a ds e1 e2;exact⟨h0,xs,st.h _ _ h1,g.off st (Qq _ (QG e1)),h3,h4.mono st.z⟩,g.nd,g.own⟩
theorem Grp.left(g:Grp K C B H0 H σ E j c ks dss l ls)(f:Left j σ E σ' E'):Grp K C B H0 H σ' E' j c ks dss l ls :=
 ⟨f.1.trans g.at',g.dict,g.l0,g.lb,g.len,g.len2,g.cnt,g.lists,g.nd,fun i s a e o q=>by obtain⟨h1,h2⟩:=f.2 i s e o;exact g.own i s a h1 o (by rw[<- h2];exact q)⟩
theorem Grp.free(g:Grp K C B H0 H σ E j c ks dss l ls){a:Qd}(ha:a∈l::ls):∀(i:Nat) (s:Sl),E[i]?=some s->JR s=true->σ[i]?≠some (some (.ref a)):=fun i s e o q=>g.own i s a e o q ha
theorem EnvR.fresh(I:EnvR K C B H0 H σ E){p:Qd}(hp:H p=none):∀(i:Nat) (s:Sl),E[i]?=some s->JR s=true->σ[i]?≠some (some (.ref p)):=fun i s e o q=>by
 rcases I.at' i s e with z|⟨v,q1,q2⟩
 ·subst z;cases o
 ·rw[q1] at q;cases q
  cases s with
  | own es=>obtain⟨l',ys,p1,p2,_⟩:=q2;simp_all
  | od ks es|ot ks es|dw ks es=>obtain⟨l',ys,p1,p2,_⟩:=q2;simp_all
  | _=>cases o
theorem VC{α β:Type}(f:α->β):∀(ks:List Int) (vs:List α) (n:Int),look ks (vs.map f) n=(look ks vs n).map f
 | [],_,_=>rfl
 | _::_,[],_=>rfl
 | k::ks,v::vs,n=>by
  rw[Gx];simp only[look];split
  ·rfl
  ·exact VC f ks vs n
theorem Jhh{tk tv:TE}{ek ev:Ev}(hk:SE K C tk ek)(hv:SE K C tv ev)(I:EnvR K C B H0 H σ E)(g:Grp K C B H0 H σ E j c ks dss l ls)(hc:c<Qk){n:Int}{s:Sl}{dv:D}(e1:ek E=some (.sh (.int n)))(e2:ev E=some s)(e3:s.frz=some dv){D:Ends}
 (f:∀H0' H' ls',SStep B H0 H0' H'->EnvR K C B H0' H' σ E->Grp K C B H0' H' σ E j (c+1) (UM ks n) (Jb5 ks dss n dv) l ls'->D.nx σ H') :
 WD (tBM K "list" VG (Jd9 (Y0 j) tk (Jeb YZ)) (Yf tv YZ)) D σ H:=by
 have hkl:=g.len
 have hcn:=g.cnt;refine⟨.ref l,g.at',l,rfl,.inl ⟨_,.inl g.dict⟩,hk B H0 H σ E _ _ I e1 fun y H1 H1' s1 r1=>?_⟩
 have ry:y=.int n:=RD.intI r1;subst ry
 have I1:=I.step s1
 have g1:=g.step s1;refine⟨Gm _,fun p hp=>?_⟩
 have p0:H1 p=none:=Same.free s1.i hp
 have pb:B p=none:=Same.free I1.b hp
 have pn:p∉l::ls:=fun m=>by obtain⟨o,h1,_⟩:=g1.there m;rw[hp] at h1;cases h1
 have I2:EnvR K C B H1 (upd H1' p (.lst [])) σ E:=I1.poke p0 pb (I1.fresh hp)
 have ne:∀{a:Qd},a∈l::ls->a≠p:=fun {a} m z=>pn (z▸m)
 have dl:upd H1' p (.lst []) l=some (dkO ks (ls.map V.ref)):=by rw[Jf (ne QD)];exact g1.dict
 have ss1:SStep B H0 H1 H1':=s1.ss I.b;refine⟨_,(Sum.inl n:Key),dl,rfl,?_,fun v hv'=>?_,fun hn=>?_⟩
 ·grind
 ·-- the list is there
  rw[UQ,VC] at hv';obtain⟨a,ha,rfl⟩:=QT.mp hv';obtain⟨m,m1,m2,m3⟩:=Zt ha;obtain⟨ds,d1,d2⟩:=m3 dss g.len2;have ham:a∈l::ls:=Qq _ (QG m1);obtain⟨hd,xs,x1,x2,x3,x4⟩:=g1.lists m a ds m1 d1;have xa:upd H1' p (.lst []) a=some (.lst xs):=by rw[Jf (ne ham)];exact x1
  refine⟨.inl ⟨rfl,xs,.of xa⟩,?_⟩;refine hv B H1 _ σ E _ _ I2 e2 fun v H3 H3' s3 r3=>?_
  have s4:Step (upd H1' p (.lst [])) H1 (upd H1' p (.lst [])) (JK (upd H1' p (.lst [])) H3 H3') H3':=s3.comp (JF s3.i) fun _ z=>z
  have g2:Grp K C B H1 (upd H1' p (.lst [])) σ E j c ks dss l ls:=⟨g1.at',dl,g1.l0,g1.lb,g1.len,g1.len2,g1.cnt,fun m' a' ds' q1 q2=>by obtain⟨h0,xs',h1,h2⟩:=g1.lists m' a' ds' q1 q2;exact⟨h0,xs',by rw[Jf (ne (Qq _ (QG q1)))];exact h1,h2⟩,g1.nd,g1.own⟩
  have g3:=g2.step s4
  have I3:=I2.step s4
  have ha3:H3' a=some (.lst xs):=s4.h _ _ xa
  have rv:RDL K C (JK (upd H1' p (.lst [])) H3 H3') (xs++[v]) (ds++[dv]):=(x4.mono s4.z).snoc (RR.frz s3.i r3 e3);refine⟨a,xs,v,rfl,rfl,ha3,by rw[x4.1];lia,?_⟩
  have al:a≠l:=fun z=>(Gc.mp g.nd).1 (z▸QG m1)
  refine f (JK (upd H1' p (.lst [])) H3 H3') _ ls ?_ (I3.poke (g3.off (.refl I3.h) ham) (g3.there ham).choose_spec.2.2.2 (g3.free ham)) ?_
  ·have sb:SStep B H1 (JK (upd H1' p (.lst [])) H3 H3') H3':=s4.ss I2.b
   have:=ss1.trans sb
   have na:JK (upd H1' p (.lst [])) H3 H3' a=none:=g3.off (.refl I3.h) ham
   have nb:B a=none:=x3;exact⟨fun b o q=>by rw[Jf (Jp q nb)];exact this.b b o q,this.z,this.n,fun b o q=>by rw[Jf (Jp q na)];exact this.i b o q⟩
  ·have hp':UM ks n=ks:=if_pos m2;rw[hp',d2 dv];refine⟨g3.at',by rw[Jf (QL al)];exact g3.dict,g3.l0,g3.lb,g3.len,by rw[MZ];exact g3.len2,Mn g3.cnt,fun m' a' ds' q1 q2=>?_,g3.nd,g3.own⟩;rw[Qv] at q2
   by_cases hm:m=m'
   ·subst hm;rw[m1] at q1;cases q1;rw[if_pos rfl] at q2;split at q2
    ·cases q2;exact⟨by simp_all,_,Jl,g3.off (.refl I3.h) ham,x3,rv⟩
    ·cases q2
   ·rw[if_neg hm] at q2;obtain⟨h0,xs',h1,h2⟩:=g3.lists m' a' ds' q1 q2
    have:a'≠a:=fun z=>by subst z;have nd:=(Gc.mp g.nd).2;obtain⟨b1,b2⟩:=Qi.mp m1;obtain⟨c1,c2⟩:=Qi.mp q1;exact hm ((Mx nd).mp (b2.trans c2.symm))
    exact⟨by lia,xs',by rw[Jf this];exact h1,h2⟩
 ·-- a new list
  rw[UQ,VC] at hn;have hn':look ks ls n=none:=Option.map_eq_none_iff.mp hn;obtain⟨m2,m3⟩:=JaI g.len hn'
  have hkv:UL ((ks.map Sum.inl:List Key).zip (ls.map V.ref)) (Sum.inl n) (.ref p)=((ks++[n]).map Sum.inl:List Key).zip ((ls++[p]).map V.ref):=by rw[Jh1 _ (by rw[UQ,VC,hn'];rfl),GN,GN,MW (by simp_all)];rfl
  rw[hkv];have lp:l≠p:=ne QD;have xp:upd (upd H1' p (.lst [])) l (dkO (ks++[n]) ((ls++[p]).map V.ref)) p=some (.lst []):=by rw[Jf (QL lp),Jl]
  have I2':EnvR K C B H1 (upd (upd H1' p (.lst [])) l (dkO (ks++[n]) ((ls++[p]).map V.ref))) σ E:=I2.poke g1.l0 g1.lb (g1.free QD)
  suffices key:∀Hn,upd (upd H1' p (.lst [])) l (dkO (ks++[n]) ((ls++[p]).map V.ref))=Hn->Hn p=some (.lst [])->EnvR K C B H1 Hn σ E->(tyV K "list" (.ref p) Hn/\Yf tv YZ σ Hn fun xs H2=>VG (.ref p) xs H2 fun _ H1=>D.nx σ H1) from key _ rfl xp I2'
  clear xp I2';intro Hn hHn xp I2';refine⟨.inl ⟨rfl,[],.of xp⟩,?_⟩;refine hv B H1 Hn σ E _ _ I2' e2 fun v H3 H3' s3 r3=>?_
  have s4:Step Hn H1 Hn (JK Hn H3 H3') H3':=s3.comp (JF s3.i) fun _ z=>z
  have nd':(l::(ls++[p])).Nodup:=by
   rw[<- KE,Lv];refine⟨g.nd,by simp,fun x hx y hy=>?_⟩
   grind
  have g2:Grp K C B H1 Hn σ E j (c+1) (ks++[n]) (dss++[[]]) l (ls++[p]):=⟨g1.at',by rw[<- hHn];exact Jl,g1.l0,g1.lb,by simp[g.len],by simp[g.len2],by simp;omega,fun m' a' ds' q1 q2=>by
   by_cases hm:m'<ls.length
   ·rw[QA hm] at q1;rw[QA (by rw[g.len2];exact hm)] at q2;obtain⟨h0,xs',h1,h2⟩:=g1.lists m' a' ds' q1 q2;have hal:a'∈ls:=QG q1;exact⟨by lia,xs',by rw[<- hHn,Jf fun z=>(Gc.mp g.nd).1 (by rw[<- z];exact hal),Jf (ne (Qq _ hal))];exact h1,h2⟩
   ·have hm1:m'=ls.length:=by
     have:=(Qi.mp q1).1;simp at this
     lia
    subst hm1
    have ea:a'=p:=by simp_all
    have ed:ds'=[]:=by
     rw[Q2 (by rw[g.len2];exact Qn _),g.len2] at q2
     simpa using q2.symm
    subst ea ed;exact⟨Gm _,[],xp,p0,pb,.nil⟩,nd',fun i s a e o q m=>by
     rw[<- KE] at m;rcases GL.mp m with z|z
     ·exact g1.own i s a e o q z
     ·have:a=p:=by simpa using z
      subst this;exact I1.fresh hp i s e o q⟩
  have g3:=g2.step s4
  have I3:=I2'.step s4
  have pm:p∈l::(ls++[p]):=by simp
  have p3:H3' p=some (.lst []):=s4.h _ _ xp
  have rv:RDL K C (JK Hn H3 H3') [v] [dv]:=.cons (RR.frz s3.i r3 e3) .nil;refine⟨p,[],v,rfl,rfl,p3,by show 0<Qk;decide,?_⟩
  have n0:JK Hn H3 H3' p=none:=g3.off (.refl I3.h) pm;refine f (JK Hn H3 H3') _ (ls++[p]) ?_ (I3.poke n0 pb (g3.free pm)) ?_
  ·have sb:SStep B H1 (JK Hn H3 H3') H3':=s4.ss I2'.b
   have:=ss1.trans sb;exact⟨fun b o q=>by rw[Jf (Jp q pb)];exact this.b b o q,this.z,this.n,fun b o q=>by rw[Jf (Jp q n0)];exact this.i b o q⟩
  ·have hp':UM ks n=ks++[n]:=if_neg (by simp_all);rw[hp',m3 dss dv g.len2];refine⟨g3.at',by rw[Jf lp];exact g3.dict,g3.l0,g3.lb,g3.len,by simp[g.len2],g3.cnt,fun m' a' ds' q1 q2=>?_,g3.nd,g3.own⟩
   by_cases hm:m'<ls.length
   ·have q2':(dss++[[]])[m']?=some ds':=by rw[QA (by rw[g.len2];exact hm)] at q2 ⊢;exact q2
    obtain⟨h0,xs',h1,h2⟩:=g3.lists m' a' ds' q1 q2'
    have:a'≠p:=by rw[QA hm] at q1;exact ne (Qq _ (QG q1))
    exact⟨h0,xs',by rw[Jf this];exact h1,h2⟩
   ·have hm1:m'=ls.length:=by
     have:=(Qi.mp q1).1;simp at this
     lia
    subst hm1
    have ea:a'=p:=by simp_all
    have ed:ds'=[dv]:=by
     rw[Q2 (by rw[g.len2];exact Qn _),g.len2] at q2
     simpa using q2.symm
    subst ea ed;exact⟨by simp,[v],Jl,n0,pb,rv⟩
end
end LE

namespace LE
open PySem L2 LR
section
variable{K:Qo}{C:Qd}{B H0 H H0' H':Hp}{σ σ':St}{E E':En}{j c:Nat}{ks:List Int}{dss:List (List D)}{l:Qd}{ls:List Qd}
theorem EnvR.unslot(I:EnvR K C B H0 H σ E)(j:Nat):EnvR K C B H0 H σ (E.set j .no):=by
 have get:∀(i:Nat) (s:Sl),(E.set j Sl.no)[i]?=some s->s=.no\/(i≠j/\E[i]?=some s):=fun i s e=>by
  rw[Qv] at e
  by_cases c:j=i
  ·rw[if_pos c] at e
   by_cases hl:j<E.length
   ·rw[if_pos hl] at e;exact .inl (Q6 e).symm
   ·rw[if_neg hl] at e;exact absurd e (by simp)
  ·rw[if_neg c] at e;exact .inr ⟨fun z=>c z.symm,e⟩
 refine⟨I.b,I.h,by simp[I.len],fun i s e=>?_,fun i k s t v hik e1 e2 o1 o2 e3 e4=>?_,I.t⟩
 ·rcases get i s e with z|⟨_,z⟩
  ·exact .inl z
  ·exact I.at' i s z
 ·rcases get i s e1 with z|⟨_,z⟩
  ·subst z;cases o1
  ·rcases get k t e2 with y|⟨_,y⟩
   ·subst y;cases o2
   ·exact I.sep i k s t v hik z y o1 o2 e3 e4
noncomputable def Jfz(H0 H:Hp)(ls:List Qd):Hp:=fun a=>if a∈ls then H a else H0 a
theorem Ja7{Hz:Hp}:∀{ls:List Qd} {dss:List (List D)},dss.length=ls.length->(∀(m:Nat) (a:Qd) (ds:List D),ls[m]?=some a->dss[m]?=some ds->∃xs,Hz a=some (.lst xs)/\RDL K C Hz xs ds)->RDL K C Hz (ls.map V.ref) (dss.map .lst)
 | [],[],_,_=>.nil
 | [],_::_,h,_=>by simp at h
 | _::_,[],h,_=>by simp at h
 | a::ls,ds::dss,h,f=>by obtain⟨xs,h1,h2⟩:=f 0 a ds rfl rfl;exact .cons (.mkL h1 h2) (Ja7 (by simpa using h) fun m a ds e1 e2=>f (m+1) a ds (by simpa using e1) (by simpa using e2))
theorem Grp.done(I:EnvR K C B H0 H σ E)(g:Grp K C B H0 H σ E j c ks dss l ls)(hj:j<E.length):SStep B H0 (Jfz H0 H ls) H/\EnvR K C B (Jfz H0 H ls) H σ (E.set j (.od ks (dss.map .lst))):=by
 have out:∀{a:Qd},a∉ls->Jfz H0 H ls a=H0 a:=fun {a} h=>if_neg h
 have inn:∀{a:Qd},a∈ls->Jfz H0 H ls a=H a:=fun {a} h=>if_pos h
 have z:Same H0 (Jfz H0 H ls):=fun a o e=>by
  by_cases c:a∈ls
  ·rw[inn c];exact I.h a o e
  ·rw[out c];exact e
 have i:Same (Jfz H0 H ls) H:=fun a o e=>by
  by_cases c:a∈ls
  ·rw[inn c] at e;exact e
  ·rw[out c] at e;exact I.h a o e
 have ln:l∉ls:=(Gc.mp g.nd).1;refine⟨⟨I.b,z,fun a o e=>?_,i⟩,I.b,i,by simp[I.len],fun k s e=>?_,fun k m s t v hkm e1 e2 o1 o2 e3 e4=>?_,I.t⟩
 ·by_cases c:a∈ls
  ·exact .inr (.inl (g.there (Qq _ c)).choose_spec.2.2.2)
  ·rw[out c] at e;exact .inl e
 ·rw[Qv] at e
  by_cases c:j=k
  ·subst c;rw[if_pos rfl,if_pos hj] at e;have e':=Q6 e;subst e';refine .inr ⟨_,g.at',l,ls.map V.ref,rfl,g.dict,by rw[out ln];exact g.l0,g.lb,by rw[QB,g.len2];exact g.len,Ja7 g.len2 fun m a ds q1 q2=>?_⟩;obtain⟨_,xs,h1,_,_,h4⟩:=g.lists m a ds q1 q2;exact⟨xs,by rw[inn (QG q1)];exact h1,h4.mono z⟩
  ·rw[if_neg c] at e;rcases I.at' k s e with y|⟨v,q1,q2⟩
   ·exact .inl y
   ·refine .inr ⟨v,q1,?_⟩
    cases s with
    | no=>trivial
    | sh d=>exact RD.mono z q2
    | bo es=>obtain⟨l',ys,p1,p2,p3⟩:=q2;exact⟨l',ys,p1,p2,p3.mono z⟩
    | bd ks es|bt ks es|bw ks es=>obtain⟨l',ys,p1,p2,p3,p4⟩:=q2;exact⟨l',ys,p1,p2,p3,p4.mono z⟩
    | own es=>obtain⟨l',ys,p1,p2,p3,p4,p5⟩:=q2;subst p1;have:=g.own k _ l' e rfl q1;exact⟨l',ys,rfl,p2,by simp_all,p4,p5.mono z⟩
    | od ks es|ot ks es|dw ks es=>obtain⟨l',ys,p1,p2,p3,p4,p5,p6⟩:=q2;subst p1;have:=g.own k _ l' e rfl q1;exact⟨l',ys,rfl,p2,by simp_all,p4,p5,p6.mono z⟩
 ·have get:∀(i:Nat) (s:Sl),(E.set j (Sl.od ks (dss.map .lst)))[i]?=some s->i=j\/(i≠j/\E[i]?=some s):=fun i s e=>by grind
  rcases get k s e1 with y1|⟨n1,y1⟩
  ·subst y1;rcases get m t e2 with y2|⟨n2,y2⟩
   ·exact hkm y2.symm
   ·rw[g.at'] at e3;have e3':=Q6 (Q6 e3);subst e3';exact g.own m t l y2 o2 e4 QD
  ·rcases get m t e2 with y2|⟨n2,y2⟩
   ·subst y2;rw[g.at'] at e4;have e4':=Q6 (Q6 e4);subst e4';exact g.own k s l y1 o1 e3 QD
   ·exact I.sep k m s t v hkm y1 y2 o1 o2 e3 e4
theorem JrZ{wi:TI}{g:TG}{it:En->Option (List LE.D)}{p:Pt}{tk tv:TE}{ek ev:Ev}(hi:SI K C false wi it)(hg:SGJ K C j g p)(hk:SE K C tk ek)(hv:SE K C tv ev) :
 SS K C (Jda wi g (WD (tBM K "list" VG (Jd9 (Y0 j) tk (Jeb YZ)) (Yf tv YZ)))) (JoO it p j ek ev):=by
 intro B H0 H σ E o D I e f;unfold JoO at e;split at e
 ·next h =>
  obtain⟨ds,e1,e⟩:=bind_some e;split at e
  ·next hz =>
   obtain⟨⟨E',ks,dss⟩,e2,e⟩:=bind_some e;split at e
   ·next hjl =>
    cases e;refine hi B H0 H σ E ds _ I e1 fun J H1 H1' s1 ok=>?_
    rw[if_neg (by simp)] at ok;have I1:=I.step s1;rcases I1.at' j _ h with y|⟨v,h1,l,xs,rfl,hl,hl0,hlb,_,rx⟩
    ·cases y
    have hx:xs=[]:=GW (by have:=rx.1;simpa using this);subst hx
    have G0:Grp K C B H1 H1' σ (E.set j .no) j 0 [] [] l []:=⟨h1,hl,hl0,hlb,rfl,rfl,Qn _,fun m a ds q=>by simp at q,by simp,fun i s a q o q' m=>by
     rw[Qv] at q
     by_cases c:j=i
     ·rw[if_pos c] at q
      by_cases hl:j<E.length
      ·rw[if_pos hl] at q;have q':=Q6 q;rw[<- q'] at o;exact absurd o Qz
      simp_all
     ·rw[if_neg c] at q;have:a=l:=by simpa using m
      subst this;exact I1.sep j i _ s (.ref a) c h q rfl o h1 q'⟩
    refine⟨fun i k σ' H'=>k=ds.length-i/\i<=ds.length/\∃H0' E1 ks1 dss1 l ls,EnvR K C B H0' H' σ' E1/\SStep B H1 H0' H'/\Grp K C B H0' H' σ' E1 j i ks1 dss1 l ls/\JaV p ek ev (ds.drop i) E1 ks1 dss1=some (E',ks,dss),
     ⟨ds.length,by simp,Gm _,H1,E.set j .no,[],[],l,[],I1.unslot j,.refl (I.b.trans s1.h) s1.i,G0,e2⟩,?_⟩
    rintro i k σ' H' ⟨rfl,hi',H0',E1,ks1,dss1,l,ls,I',st,G,er⟩;have stop:=ok H0' H' st
    by_cases hlt:i<ds.length
    ·have hd:ds[i]?=some ds[i]:=by simp[hlt]
     obtain⟨go,yl⟩:=stop.1 i _ hd;refine .inr ⟨go,fun σ2 H2=>∃H0' E1 ks1 dss1 l ls,EnvR K C B H0' H2 σ2 E1/\SStep B H1 H0' H2/\Grp K C B H0' H2 σ2 E1 j (i+1) ks1 dss1 l ls/\JaV p ek ev (ds.drop (i+1)) E1 ks1 dss1=some (E',ks,dss),fun σ2 H2 h=>⟨ds.length-(i+1),by grind,rfl,hlt,h⟩,fun x H2 y=>?_⟩;obtain⟨H02,st2,rx⟩:=yl x H2 y;rw[GP hlt,JaV] at er;obtain⟨E2,b1,er⟩:=bind_some er;obtain⟨n,b2,er⟩:=bind_some er;obtain⟨s,b3,er⟩:=bind_some er
     obtain⟨dv,b4,er⟩:=bind_some er;obtain⟨sn,b5,b6⟩:=bind_some b2;have b7:=JA b6;subst b7;have ss2:SStep B H0' H02 H2:=st2.ss I'.b;refine hg B H02 H2 σ' E1 E2 x _ _ (I'.step st2) rx b1 fun σ2 I2 lf=>?_
     exact Jhh hk hv I2 ((G.step st2).left lf) (by lia) b5 b3 b4 fun H03 H3 ls' ss I3 G3=>⟨H03,E2,_,_,l,ls',I3,(st.trans ss2).trans ss,G3,er⟩
    ·have hd:ds.drop i=[]:=List.drop_eq_nil_of_le (by simp_all)
     have hin:i=ds.length:=by lia
     rw[hd,JaV] at er;have er':=Q6 er;cases er';obtain⟨d1,d2⟩:=G.done I' hjl;refine .inl ⟨by rw[hin];exact stop.2,f σ' _ H' (((s1.ss I.b).trans st).trans d1) d2⟩
   ·cases e
  ·cases e
 ·cases e
end
end LE

namespace L2
open PySem PySem.Spec PyProof.Rows
noncomputable def Y2:List Int->List Int->Bool
 | [],_=>true
 | _::_,[]=>false
 | x::xs,y::ys=>if x=y then Y2 xs ys else decide (x<=y)
theorem VR(x y:Int)(xs ys:List Int):Y2 (x::xs) (y::ys)=if x=y then Y2 xs ys else decide (x<=y):=rfl
theorem Jic(A:Qx)(s:Qe)(a:Int)(t:Tok)(c:Int)(u:Tok)(prog:Qm)(w:Qp)(E:Qc->Qe->Prop)(Q:Qc->Qe->Prop)(h:Q (.bool (decide (a<=c))) s) :
 wpAny (model prog w) A (richCompare .LtE (.int a t) (.int c u)) Q E s :=
 (PyProof.Rows.le_int h:wpAny (model prog w) A (compareOp .LtE (.int a t) (.int c u)) Q E s)
section
open PySem.SeqAt
open PySem.AutoSeq1 (wpAny_loadPart')
open PySem.MeetsSeq PySem.MeetsSeq2 PySem.MeetsSeq3
theorem JaH(l b:Qd)(items items2:Array Qc)(n n2:Nat)(dd dd2:Option Qd)(sl sl2:Array (Option Qc))(ns ms:List Int)(hi:IntsAre items.toList ns)(hj:IntsAre items2.toList ms) :
 Meets (Builtin.«tuple.__le__» ⟨[.ref l,.ref b],[]⟩)
  (fun _ R s=>s.heap.get? l=some { cls:=.type "tuple",dict:=dd,data:=.seq items n,slots:=sl }/\s.heap.get? b=some { cls:=.type "tuple",dict:=dd2,data:=.seq items2 n2,slots:=sl2 } ∧
   R (.ok (.ret (.bool (Y2 ns ms)))) s) :=
 .of_wp fun prog w A R s h=>by
  obtain⟨hp,g,d,tk,os⟩:=s;obtain⟨hl,hb,h⟩:=h;have f2:=AutoSeq1.sub_tuple_tuple;have z1:items.size=ns.length:=by rw[<- hi.length];simp
  have z2:items2.size=ms.length:=by rw[<- hj.length];simp
  wp_walk using KO hl,KO hb,La _ (fun YV b s'=>b.1=none/\s'=⟨hp,g,d,tk,os⟩/\∃(vs ws:List Qc) (ns' ms':List Int),YV=vs.zip ws ∧
   IntsAre vs ns'/\IntsAre ws ms'/\ns'.length+items2.size=ms'.length+items.size/\R (.ok (.ret (.bool (Y2 ns' ms')))) ⟨hp,g,d,tk,os⟩) _
  case turn =>
   rintro⟨y,x⟩ YV b s' ⟨hb',rfl,vs,ws,ns',ms',hz,hvi,hwi,hlen,hR⟩
   cases hvi with
   | nil=>simp_all
   | cons a t hvi' =>
    cases hwi with
    | nil=>simp_all
    | cons c u hwi' =>
     rw[List.zip_cons_cons] at hz
     injection hz with hyx hrest
     injection hyx with hy hx
     subst hy hx;rw[VR] at hR;simp only[K7] at hlen;obtain⟨e,he,hiff⟩:=HT.Jg2 A.in1 ⟨hp,g,d,tk,os⟩ a t c u;refine Qa (he prog w _ _ ?_)
     cases e with
     | true =>
      rw[if_pos (hiff.mp rfl)] at hR;wp_walk
      grind
     | false =>
      rw[if_neg (fun q=>absurd (hiff.mpr q) Qz)] at hR;have hri:=Jic A.in1 ⟨hp,g,d,tk,os⟩ a t c u prog w;wp_walk using hri
      simp_all
  case fin =>
   rintro⟨b1,b2⟩ s' ⟨hb',rfl,vs,ws,ns',ms',hz,hvi,hwi,hlen,hR⟩;simp only at hb';subst hb'
   have hv:Y2 ns' ms'=decide (items.size<=items2.size):=by
    cases hvi with
    | nil =>
     simp only[M0] at hlen;rw[show Y2 [] ms'=true from rfl]
     simp_all
    | cons a t hv =>
     cases hwi with
     | nil=>grind[Y2]
     | cons c u hw=>simp_all
   rw[hv] at hR;wp_walk;exact⟨_,rfl,by simpa [Builtin.Tuple.tupleCompareSizes] using hR⟩
  case h=>exact⟨rfl,rfl,items.toList,items2.toList,ns,ms,rfl,hi,hj,by simp +arith [*],h⟩
end
section
variable{prog:Qm}{w:Qp}{A:Qx}{E:Qc->Qe->Prop}{s:Qe}
theorem JdJ{l b:Qd}{items items2:Array Qc}{ns ms:List Int}{Q:Qc->Qe->Prop}(hl:s.heap.IsTuple l items)(hb:s.heap.IsTuple b items2)(hi:IntsAre items.toList ns)(hj:IntsAre items2.toList ms)
 (hu:A.units<cLine) (h:Q (.bool (Y2 ns ms)) s):wpAny (model prog w) A (compareOp .LtE (.ref l) (.ref b)) Q E s:=by
 obtain⟨⟨cls,dd,data,sl⟩,ho,hc,n,hd⟩:=id hl;obtain⟨⟨cls2,dd2,data2,sl2⟩,ho2,hc2,n2,hd2⟩:=id hb;simp only at hc hd hc2 hd2;subst hc hd hc2 hd2;exact richCompare_meets_room (op:=.LtE) ⟨_,ho,rfl⟩ ⟨_,ho2,rfl⟩ PySem.F.slot_tuple_le PySem.F.entry_tuple_le (PySem.F.args_tuple_le_2 _ _) (JaH l b items items2 n n2 dd dd2 sl sl2 ns ms hi hj)
  ⟨ho,ho2,show Value.bool (Y2 ns ms)≠Value.notImplemented/\Q (.bool (Y2 ns ms)) s from⟨(fun x=>nomatch x),h⟩⟩ hu
end
noncomputable def Jp6(K:Qo):R2:=fun x y H Q=>∃a b ns ms,x=.ref a/\y=.ref b/\SqT K H a (ns.map V.int)/\SqT K H b (ms.map V.int)/\Q (.bl (Y2 ns ms)) H
theorem JnA{X:Cx}{K:Qo}(hK:X.K=K)(hu:X.A.units<cLine):OpR X (compareOp .LtE) (Jp6 K):=by subst hK;intro pins s σ H x y v u Q I rx ry h;obtain⟨a,b,ns,ms,rfl,rfl,ha,hb,q⟩:=h;cases rx;cases ry;obtain⟨its,r1,p1,_⟩:=I.tuple ha;obtain⟨its2,r2,p2,_⟩:=I.tuple hb;have i1:IntsAre its.toArray.toList ns:=Yp r1;have i2:IntsAre its2.toArray.toList ms:=Yp r2;exact JdJ p1 p2 i1 i2 hu ⟨.bl (Y2 ns ms),H,I,rfl,q⟩
end L2
namespace LE
open PySem L2 LR
noncomputable def Jmv(x y:Sl):Option Sl:=(tup? x).bind fun ds=>(tup? y).bind fun es=>(ints? ds).bind fun ns=>(ints? es).map fun ms=>.sh (.bl (Y2 ns ms))
section
variable{K:Qo}{C:Qd}
theorem RDL.ints'{H:Hp}{xs:List V}{ns:List Int}(r:RDL K C H xs (ns.map .int)):xs=ns.map V.int:=r.ints
theorem JpR:OpS K C (Jp6 K) Jmv:=by
 intro Hs H0 H x y a b c Q i hs ra rb e q
 replace e:=bind_some e;obtain⟨ds,e0,e⟩:=e
 replace e:=bind_some e;obtain⟨es,e0',e⟩:=e;rw[Vy e0] at ra;rw[Vy e0'] at rb;obtain⟨ns,e1,e⟩:=bind_some e;obtain⟨ms,e2,e⟩:=QT.mp e;subst e;have h1:=YK e1;have h2:=YK e2;subst h1 h2;obtain⟨p,xs,rfl,s1,r1⟩:=RD.tupI ra;obtain⟨p',ys,rfl,s2,r2⟩:=RD.tupI rb;have z1:=RDL.ints' r1;have z2:=RDL.ints' r2;subst z1 z2;exact⟨p,p',ns,ms,rfl,rfl,i.seqT s1,i.seqT s2,q _ _ _ (.refl i) (.bl _)⟩
theorem Jjv(a b c d:Int):Jmv (.sh (.tup [.int a,.int b])) (.sh (.tup [.int c,.int d]))=some (.sh (.bl (if a=c then decide (b<=d) else decide (a<=c)))):=by
 show some (Sl.sh (.bl (Y2 [a,b] [c,d])))=_;rw[VR];split
 ·rw[VR];split
  ·next h=>rw[h];simp[Y2]
  ·rfl
 ·rfl
end
end LE

namespace L2
open PySem PySem.Spec PyProof.Rows
section
open PySem.SeqAt
open PySem.AutoSeq1 (wpAny_loadPart')
open PySem.MeetsSeq PySem.MeetsSeq2 PySem.MeetsSeq3
end
section
variable{prog:Qm}{w:Qp}{A:Qx}{E:Qc->Qe->Prop}{s:Qe}
end
end L2
namespace LE
open PySem L2 LR
section
variable{K:Qo}{C:Qd}
end
end LE

namespace L2
open PySem PySem.Spec PyProof.Rows
noncomputable def Jgx(i j:Int):Prop:=i.natAbs<=10 ^ 200/\j.natAbs<=10 ^ 200
theorem Zj{i:Int}(h:i.natAbs<=10 ^ 200):Rj i<=2 ^ 20:=by
 unfold Rj;split
 ·exact Gm _
 ·next hz =>
  have h0:i.natAbs≠0:=fun z=>hz (by simp;simp_all)
  have h1:i.natAbs.log2<1000:=by rw[Nat.log2_lt h0];exact GB h (by decide +kernel)
  exact QJ ‹_› (by decide)
theorem Jkd{X:Cx}:OpR X (binaryOp .Mult) (rI Jgx fun i j=>.int (i*j)):=opI fun _ _ _ _ _ _ _ hc q=>mul_int q (Ry (Zj hc.1) (Zj hc.2))
end L2
namespace LE
open PySem L2 LR
noncomputable def Ye(a:Int):Bool:=Rs a.natAbs (10 ^ 200)
noncomputable abbrev Jcl:=fIc (fun a b=>Ye a && Ye b) fun a b=>.int (a*b)
section
variable{K:Qo}{C:Qd}
theorem JdO:OpS K C (rI Jgx fun i j=>.int (i*j)) Jcl:=JdN (fun i j h=>by simp only[QU,Ye,G8] at h;exact h) fun _ _ _=>.int _
theorem Jha{a b:Int}(h:a.natAbs<=10 ^ 200/\b.natAbs<=10 ^ 200):Jcl (.sh (.int a)) (.sh (.int b))=some (.sh (.int (a*b))):=by show(if (Ye a && Ye b)=true then _ else _)=_;rw[if_pos];rw[QU];exact⟨G8.mpr h.1,G8.mpr h.2⟩
end
end LE

namespace LE
open PySem L2 LR
section
variable{K:Qo}{C:Qd}{W:XK}{t:TA}{ev:En->Option (List Sl)}{ts us:TS}{x:Xv}{H:Hp}
end
end LE

namespace PySem
open PySem.Calls PyProof.Rows PyProof.V PySem.Spec
section
variable{prog:Qm}{w:Qp}{A:Qx}{E:Qc->Qe->Prop}{s:Qe}{r a:Qd}{xs:Array Qc}{n:Nat}
end
end PySem
namespace L2
open PySem PySem.Spec PyProof.Rows
end L2
namespace LE
open PySem L2 LR
section
variable{K:Qo}{C:Qd}
end
end LE

namespace L2
open PySem PySem.Spec PyProof.Rows PySem.Calls
section
variable{X:Cx}
end
end L2
namespace L2
open PySem PySem.Spec PyProof.Rows PySem.Calls
section
variable{X:Cx}{es:List QV}{t:TA}{x:Str}{j:Nat}{p:Pos}
structure PSi (X:Cx) (st:Gs) (ts:TS):Prop where
 out:PS X st ts
structure PSsi (X:Cx) (ss:List Gs) (ts:TS):Prop where
 out:PSs X ss ts
end
end L2

namespace LE
open PySem L2 LR
noncomputable def Jpb(ys:List Str)(r:En->Option (List Sl)):En->Option (List Sl):=fun E=>(r E).map fun ss=>ys.map (fun y=>.sh (.str y))++ss
section
variable{K:Qo}{C:Qd}{te:TE}{ea:Ev}{tl th:TO}{el eh:Option Ev}{m:Bool}
end
end LE

namespace L2
open PySem PySem.Spec PyProof.Rows PySem.Calls
noncomputable def JeQ:V->List V->Hp->VK->Prop:=fun x vs H Q=>∃(l:Qd) (ns:List Int) (b:Int),x=.ref l/\vs=[.int b]/\H l=some (.lst (ns.map V.int))/\Q (.int (ns.count b:Nat)) H
theorem W1(b:Int):∀{vs:List Qc} {ns:List Int},IntsAre vs ns->vs.countP (isInt b)=ns.count b
 | _,_,.nil=>rfl
 | _,_,.cons n t h=>by rw[List.countP_cons,W1 b h,List.count_cons];rfl
section
variable{X:Cx}
theorem JfZ:MtR X "list.count" JeQ:=by
 intro pins s σ H x vs v us Q I rx rv h;obtain⟨l,ns,b,rfl,rfl,hH,q⟩:=h;cases rx;obtain⟨u,rfl,hu⟩:=rv.one;obtain⟨t,rfl⟩:=hu;obtain⟨z,its,n,r,hl,e⟩:=I.lstM hH;have ia:=Yp r;refine call_meets F.slot_list_count ⟨_,e,rfl⟩ F.entry_list_count (F.args_list_count_2 _ _) (Ri l its.toArray n (.int b t) (isInt b) (fun y hy=>eq_isInt b t ia y (by simpa using hy))) ⟨e,?_⟩;refine⟨.int (ns.count b:Nat),H,I.tok _,⟨s.toks,?_⟩,q⟩
 grind[W1]
end
end L2
namespace LE
open PySem L2 LR
noncomputable def eMI(f:List Int->Int->Option Int)(o a:Ev):Ev:=fun E=>(o E).bind fun s=>(lst? s).bind fun ds=>(ints? ds).bind fun ns=>(a E).bind fun y=>(int? y).bind fun b=>(f ns b).map fun i=>.sh (.int i)
noncomputable def JlE(ns:List Int)(b:Int):Option Int:=some (ns.count b:Nat)
section
variable{K:Qo}{C:Qd}{to te:TE}{eo ea:Ev}{Hs H0 H:Hp}{v:V}
theorem Jsr{rm:V->List V->Hp->VK->Prop}{f:List Int->Int->Option Int}(hm:∀(l:Qd) (ns:List Int) (b:Int) (i:Int) (H:Hp) (Q:VK),H l=some (.lst (ns.map V.int))->f ns b=some i->Q (.int i) H->rm (.ref l) [.int b] H Q)
 (ho:SE K C to eo) (ha:SE K C te ea):SE K C (tBM K "list" rm to (Yf te YZ)) (eMI f eo ea):=by
 intro B H0 H σ E r Q I e q;obtain⟨s,e1,e⟩:=bind_some e;obtain⟨ds,e2,e⟩:=bind_some e;obtain⟨ns,e3,e⟩:=bind_some e;obtain⟨y,e4,e⟩:=bind_some e;obtain⟨b,e5,e⟩:=bind_some e;obtain⟨i,e6,rfl⟩:=map_some e;refine ho B H0 H σ E s _ I e1 fun x H1 H1' s1 r1=>?_
 obtain⟨l,xs,rfl,hl,rl⟩:=r1.lst s1.i e2;refine⟨.inl ⟨rfl,_,.of hl⟩,?_⟩;refine ha B H1 H1' σ E y _ (I.step s1) e4 fun u H2 H2' s2 r2=>?_
 rw[JA e5] at r2;cases RD.intI r2;rw[YK e3] at rl;have hx:=RDL.ints rl;subst hx;exact hm l ns b i H2' Q (s2.h _ _ hl) e6 (q _ _ _ (s1.trans s2) (RD.int i))
theorem Jin(ho:SE K C to eo)(ha:SE K C te ea):SE K C (tBM K "list" JeQ to (Yf te YZ)) (eMI JlE eo ea) :=
 Jsr (fun l ns b i H Q h e q=>by cases e;exact⟨l,ns,b,rfl,rfl,h,q⟩) ho ha
end
end LE

namespace L2
open PySem PySem.Spec PyProof.Rows PySem.Calls
section
variable{X:Cx}
end
end L2
namespace LE
open PySem L2 LR
section
variable{K:Qo}{C:Qd}
end
end LE

namespace PySem
open AutoSeq1 (wpAny_loadPart')
section
variable{prog:Qm}{w:Qp}{A:Qx}{E:Qc->Qe->Prop}{s:Qe}
end
section
variable{prog:Qm}{w:Qp}{A:Qx}{E:Qc->Qe->Prop}{s:Qe}
end
section
variable{prog:Qm}{w:Qp}{A:Qx}{E:Qc->Qe->Prop}{s:Qe}{b:Bool}{a e it:Qd}{xs:Array Qc}
end
end PySem
namespace L2
open PySem PySem.Spec PyProof.Rows
end L2
namespace LE
open PySem L2 LR
section
variable{K:Qo}{C:Qd}{m:Bool}
end
end LE

namespace L2
open PySem PySem.Spec PyProof.Rows PySem.Calls
section
variable{X:Cx}{K:Qo}{e:QV}{te:TE}{p2 pos:Pos}
end
end L2
namespace LE
open PySem L2 LR
section
variable{K:Qo}{C:Qd}{te:TE}{ea:Ev}
end
end LE

namespace LE
open PySem L2 LR
section
variable{K:Qo}{C:Qd}
end
end LE

namespace L2
open PySem PySem.Spec PyProof.Rows
structure Blk1 (X:Cx) (sc:LX) (cl:List (Str×Qd)) (y:Str) (N':List Str) (imp:List (Option Nat)):Prop where
 clos:closureFor sc X.env=pure cl
 kind:sc.kind=.function
 cf:∀n,cellsFrom n sc.names cl=(y,n)::cl
 cf0:∀n,cellsFrom n sc.names []=[(y,n)]
 names:∀y∈sc.names,y.2=.local->sc.names.lookup y.1=some .local
 sub:∀p∈cl,X.env.cells.lookup p.1=some p.2
 has:∀z∈(relabel sc X.env).names,(z.2=.cell\/z.2=.free)->z.1=y\/(cl.lookup z.1).isSome=true
 len:imp.length=N'.length
 im:∀p∈imp.zip N',∀k,p.1=some k->p.2≠y/\X.N[k]?=some p.2/\(X.env.scope.names.lookup p.2=some .cell\/X.env.scope.names.lookup p.2=some .free)/\((relabel sc X.env).names.lookup p.2=some .cell\/(relabel sc X.env).names.lookup p.2=some .free)
section
variable{X:Cx}{tg iter elt:QV}{ifs:List QV}{sc:LX}{cl:List (Str×Qd)}{y:Str}{N':List Str}{imp:List (Option Nat)}{pos:Pos}{wi:TI}{g:TG}{tt:TT}{te:TE}
theorem Blk1.subL(B:Blk1 X sc cl y N' imp):∀x c,cl.lookup x=some c->X.env.cells.lookup x=some c:=fun x c e=>B.sub (x,c) (U1 e)
end
end L2

namespace L2
open PySem PySem.W PyProof.Rows
structure Pm (p:Array Nat) (N:Nat):Prop where
 size:p.size=N
 low:∀a,a<N->p.getD a 0<N
 inj:∀a b,a<N->b<N->p.getD a 0=p.getD b 0->a=b
theorem Jne{l:List Nat}(nd:l.Nodup){a b:Nat}(h1:a<l.length)(h2:b<l.length)(e:l[a]=l[b]):a=b:=by
 rcases Mm a b with c|c|c
 ·exact absurd e (Ld.mp nd a b h1 h2 c)
 ·exact c
 ·exact absurd e.symm (Ld.mp nd b a h2 h1 c)
theorem Pm.of{p:Array Nat}{N:Nat}(h:p.toList.Perm (GS N)):Pm p N:=by
 have hz:p.size=N:=by have:=h.length_eq;simpa using this
 have get:∀a,a<N->p.toList[a]?=some (p.getD a 0):=fun a ha=>by simp_all
 refine⟨hz,fun a ha=>?_,fun a b ha hb e=>?_⟩
 ·have:=h.mem_iff.mp (QG (get a ha))
  simpa using this
 ·have nd:p.toList.Nodup:=h.nodup_iff.mpr List.nodup_range
  have ga:=get a ha
  have gb:=get b hb;rw[e] at ga;obtain⟨h1,e1⟩:=Qi.mp ga;obtain⟨h2,e2⟩:=Qi.mp gb;exact Jne nd h1 h2 (e1.trans e2.symm)
noncomputable def Dsc(lt:Nat->Nat->Bool)(p:Array Nat)(m:Nat):Prop:=∀a b,a<b->b<m->lt (p.getD b 0) (p.getD a 0)=true
section
variable{N:Nat}{lt:Nat->Nat->Bool}{cmp:Nat->Nat->(Bool->Qe->Prop)->Qe->Prop}{I:Qe->Prop}
theorem JhS{p:Array Nat}(h:p.toList.Perm (GS N))(i j:Nat):(kas_rev p i j).toList.Perm (GS N):=((mirror_perm p i j _).toList).trans h
end
end L2

namespace L2
open PySem PySem.W PyProof.Rows
section
variable{prog:Qm}{w:Qp}{A:Qx}{E:Qc->Qe->Prop}{s:Qe}
end
end L2

namespace L2
open PySem PySem.W PyProof.Rows
noncomputable abbrev PrI:=Int×Int
noncomputable def TupP(h:QC)(v:Qc)(p:PrI):Prop:=∃a o n t u,v=.ref a/\h.get? a=some o/\o.cls=.type "tuple"/\o.data=.seq #[.int p.1 t,.int p.2 u] n
section
variable{prog:Qm}{w:Qp}{A:Qx}{E:Qc->Qe->Prop}{s:Qe}
theorem TupP.off{h h1:QC}{a:Qd}{vs:Array Qc}{n:Nat}{v:Qc}{p:PrI}(ho:h.get? a=some (seqObj "list" vs n))(keep:∀b ob,b≠a->h.get? b=some ob->h1.get? b=some ob)(t:TupP h v p):TupP h1 v p:=by
 obtain⟨b,o,m,t,u,rfl,hb,hc,hd⟩:=t;refine⟨b,o,m,t,u,rfl,keep b o (fun e=>?_) hb,hc,hd⟩
 lia
end
end L2

namespace L2
open PySem PySem.Spec PySem.W PyProof.Rows
section
variable{prog:Qm}{w:Qp}{A:Qx}{E:Qc->Qe->Prop}{s:Qe}
end
section
variable{X:Cx}
end
end L2

namespace L2
open PySem PySem.Spec PySem.W PyProof.Rows
noncomputable def RawD(h:QC)(d:Qd)(es:Array DictEntry)(ep:Nat):Prop:=∃o,h.get? d=some o/\o.ExactDict/\o.data=.dict es ep
section
variable{prog:Qm}{w:Qp}{A:Qx}{E:Qc->Qe->Prop}{s:Qe}{it d v:Qd}{i ep:Nat}{es:Array DictEntry}
theorem RawD.at{h h':QC}(x:RawD h d es ep)(e:∀o,h.get? d=some o->h'.get? d=some o):RawD h' d es ep:=let ⟨o,ho,r⟩:=x;⟨o,e _ ho,r⟩
theorem RawD.lt{h:QC}(x:RawD h d es ep):d<h.objs.size:=let ⟨_,ho,_⟩:=x;Qj ho
theorem JcW{Q:Option Qc->Qe->Prop}(hh:A.handled=none)(hit:s.heap.IsKeyIter it d i es.size ep)(hm:RawD s.heap d es ep)
 (item:∀e h',es[i]?=some e->h'.IsKeyIter it d (i+1) es.size ep->Qu it s.heap h'->Q (some e.key) { s with heap:=h' })
 (done:es[i]?=none->∀h',Ki it s.heap h'->Q none { s with heap:=h' }):wpAny (model prog w) A (pyNext (.ref it)) Q E s:=by
 obtain⟨o,ho,hc,hd⟩:=id hit;obtain⟨od,hod,-,hdd⟩:=id hm;have own:Builtin.Dict_items.ownsTuple "dict_keyiterator"=false:=by decide
 unfold pyNext;refine Qa (Gy (QF (name:=Ga "__next__") hit.typeIs KQ (QH KQ hit.typeIs F.entry_dict_keyiterator_next ?_ (F.args_dict_keyiterator_next_1 _))));refine Qa (Qf (Qa (Qa ?_)))
 first|refine Qa (KH hit.typeIs (Qf ?_))|refine Qa (Lh hit.typeIs (Qf ?_))
 refine Qa (Rc ho hd ?_);simp only[own,Gd,if_false];show wpAny _ _ (if (Value.ref d == Value.none)=true then _ else _) _ _ s;rw[if_neg (show ¬((Value.ref d == Value.none)=true) from Qz)];refine Qa (Qf (Qa (wpAny_dictEntries hod hdd ?_)));rw[if_neg (by simp)];refine Qa (Qf (Qa (wpAny_dictEpoch hod hdd ?_)));rw[if_neg (by simp)];refine Qf ?_;simp only[show ¬((i:Int)<0) from by simp[*],if_false,GH]
 cases hx:es[i]? with
 | some e =>
  have hit':(s.heap.update it (G4 (·.setIfInBounds 1 (rawInt ((i:Int)+1))))).IsKeyIter it d (i+1) es.size ep :=
   ⟨_,QP _ ho (GG (Q3 hd _)),(K0 ..).trans hc,by rw[Q3 hd];simp[rawInt]⟩
  refine Qa ?_
  first|refine Qa (KH hit.typeIs (Qf ?_))|refine Qa (Lh hit.typeIs (Qf ?_))
  refine Qa (wpAny_isOneOf_keyiter hit.typeIs ?_);show wpAny _ _ (setField (.ref it) 1 (rawInt ((i:Int)+1)) >>= _) _ _ s;refine Qa (GC ho hd (by simp) (Qa (Gg ?_)));refine Qa (wpAny_isOneOf_keyiter (s:={ s with heap:=s.heap.update it (G4 (·.setIfInBounds 1 (rawInt ((i:Int)+1)))) }) hit'.typeIs ?_);show wpAny _ _ (pure e.key) _ _ _;exact Qf (Qf ⟨_,rfl,Qf (item e _ hx hit' (Q9 ..))⟩)
 | none =>
  refine Qa ?_
  first|refine Qa (KH hit.typeIs (Qf ?_))|refine Qa (Lh hit.typeIs (Qf ?_))
  show wpAny _ _ (setField (.ref it) 0 .none >>= _) _ _ s;refine Qa (GC ho hd (by simp) ?_)
  show wpAny _ _ (newExc (.type "StopIteration") [] >>= _) _ _ _;refine Qa ?_;simp only[newExc,newTuple];refine Qa (QO ?_ (by size_fits));refine Qa (m:=firstArgMember _ _) (Kc (a:=Value.none) (by first | rfl | (simp only[firstArgMember];rfl)) ?_);refine QO ?_ (by size_fits);simp only[raiseNew];refine Qa (Ms ?_);rw[show A.in1.handled=none from hh];refine Qa (Qf (Rb ?_))
  refine Qa (Gu (T:="StopIteration") (b:=true) ⟨_,Qh _ rfl,rfl⟩ KB ?_);exact Qf (done hx _ (((Q9 ..).extBut.push _).push _))
theorem Jgc{Q:Qc->Qe->Prop}(hd:(d == sysModules)=false)(hm:RawD s.heap d es ep)
 (hQ:Q (.ref s.heap.objs.size) { s with heap:=s.heap.push { cls:=.type "dict_keyiterator",data:=.fields #[.ref d,.int 0 0,.int es.size 0,.int ep 0] } }) :
 wpAny (model prog w) A (pyIter (.ref d)) Q E s:=by
 obtain⟨o,ho,hc,hdat⟩:=id hm;have hT:s.TypeIs (.ref d) "dict":=⟨o,ho,hc.1⟩
 refine Ls hT F.slot_dict_iter (QH F.slot_dict_iter hT F.entry_dict_iter ?_ (F.args_dict_iter_1 _));unfold Builtin.«dict.__iter__»;refine Qa ?_;unfold Builtin.Dict.dictSlotNone;refine Qa (wpAny_notOrdered_dict hT ?_);show wpAny _ _ (pure (Value.ref d)) _ _ s;refine Qf ?_;show wpAny _ _ (M4 d >>= _) _ _ s;unfold M4;rw[if_neg (by rw[hd];exact Qz)];refine Qa (Qf ?_)
 refine Qa (wpAny_dictEntries ho hdat ?_);refine Qa (wpAny_dictEpoch ho hdat ?_);refine Qa (QO (Qf ⟨_,rfl,"dict_keyiterator",_,⟨_,Qh _ rfl,rfl⟩,KQ.lookup,?_⟩))
 simpa [rawInt] using hQ
end
end L2

namespace L2
open PySem PySem.Spec PySem.W PyProof.Rows
noncomputable abbrev pk(p:PrI):List Key:=LE.dtK p
theorem KT.get{H:Hp}{kvs:List (List Key×V)}{xs:List (List Key×Qd×Qc)}(z:KT H kvs xs):kvs.length=xs.length/\∀(i:Nat) (k:List Key×V) (x:List Key×Qd×Qc),kvs[i]?=some k->xs[i]?=some x->k.1=x.1/\H x.2.1=some (.tup (k.1.map kV)):=by
 induction z with
 | nil=>exact⟨rfl,fun i k x e=>by simp at e⟩
 | cons h t ih =>
  obtain⟨h1,h2⟩:=ih;refine⟨by simp[h1],fun i k x e1 e2=>?_⟩
  cases i with
  | zero=>simp at e1 e2;subst e1 e2;exact⟨h.1,h.2.1⟩
  | succ i=>exact h2 i k x (by simpa using e1) (by simpa using e2)
end L2

namespace L2
open PySem PySem.Spec PySem.W PyProof.Rows
end L2
namespace LE
open PySem L2 LR
section
variable{K:Qo}{C:Qd}{Hs H0 H:Hp}
end
noncomputable def Sl.dt:Sl->Option (List (Int×Int)×List D)
 | .bt ks ds=>some (ks,ds)
 | .ot ks ds=>some (ks,ds)
 | _=>none
noncomputable def pr?:Sl->Option (Int×Int)
 | .sh (.tup [.int a,.int b])=>some (a,b)
 | _=>none
section
variable{K:Qo}{C:Qd}{Hs H0 H:Hp}{td ty te tk1 tk2:TE}{ed ek ea k1 k2:Ev}
theorem RR.dt{v:V}{s:Sl}{p:List (Int×Int)×List D}(r:RR K C Hs H0 H v s)(e:s.dt=some p):∃l xs,v=.ref l/\H l=some (dtO p.1 xs)/\p.1.length=p.2.length/\RDL K C H0 xs p.2:=by
 cases s with
 | bt ks ds=>cases e;exact r
 | ot ks ds=>cases e;obtain⟨l,xs,h1,h2,_,_,h3⟩:=r;exact⟨l,xs,h1,h2,h3⟩
 | _=>cases e
noncomputable def JpB(as:List Sl):Option (Int×Int):=JhG (fun a b=>some (a,b)) as
end
end LE

namespace LE
open PySem L2 LR
section
variable{K:Qo}{C:Qd}
theorem RDL.eraseIdx{H:Hp}:∀{xs:List V} {ds:List D} (k:Nat),RDL K C H xs ds->RDL K C H (xs.eraseIdx k) (ds.eraseIdx k)
 | [],[],_,h=>by simpa using h
 | [],_::_,_,h=>by have:=h.1;simp at this
 | _::_,[],_,h=>by have:=h.1;simp at this
 | x::xs,d::ds,0,h=>by simpa using h.tail
 | x::xs,d::ds,k+1,h=>by rw[MI,MI];exact .cons h.head (RDL.eraseIdx k h.tail)
end
end LE

namespace LE
open PySem L2 LR
section
variable{X:Cx}
end
section
variable{K:Qo}{C:Qd}
end
end LE

namespace L2
open PySem
noncomputable def Ris(xs:Array Nat):Prop:=xs.toList.Pairwise (·<·)
theorem Ris.lt{xs:Array Nat}(r:Ris xs){i j:Nat}(h:i<j)(hj:j<xs.size):xs[i]'(by lia)<xs[j]:=by
 have:=Ld.mp r i j (by simp;lia) (by simpa using hj) h
 simpa using this
theorem Jdn{xs:Array Nat}(r:Ris xs)(j:Nat):∀(fuel lo hi:Nat),hi-lo<=fuel->lo<=hi->hi<=xs.size->(∀i,(h:i<xs.size)->i<lo->xs[i]<j)->(∀i,(h:i<xs.size)->hi<=i->j<=xs[i]) ->
 ∃p,Ru xs j fuel lo hi=p/\p<=xs.size/\(∀i,(h:i<xs.size)->i<p->xs[i]<j)/\∀i,(h:i<xs.size)->p<=i->j<=xs[i]
 | 0,lo,hi,hf,h1,h2,ha,hb=>⟨lo,rfl,by exact QJ ‹_› ‹_›,ha,fun i hi' hp=>hb i hi' (by lia)⟩
 | fuel+1,lo,hi,hf,h1,h2,ha,hb=>by
  unfold Ru
  by_cases c:lo<hi
  ·rw[if_pos c];have hm:(lo+hi) / 2<xs.size:=by lia
   have e:xs.getD ((lo+hi) / 2) j=xs[(lo+hi) / 2]:=by simp[Array.getD,hm]
   dsimp only;rw[e]
   by_cases d:xs[(lo+hi) / 2]<j
   ·rw[if_pos d];refine Jdn r j fuel _ _ (by omega) (by lia) h2 (fun i h hi'=>?_) hb;rcases MU i ((lo+hi) / 2) with q|q
    ·exact Go (r.lt q hm) d
    grind
   ·rw[if_neg d];refine Jdn r j fuel _ _ (by omega) (by lia) (by exact Gk ‹_›) ha (fun i h hi'=>?_);rcases MU ((lo+hi) / 2) i with q|q
    ·exact QJ (LI.mp d) (Gk (r.lt q h))
    grind
  ·rw[if_neg c];exact⟨lo,rfl,by exact QJ ‹_› ‹_›,ha,fun i hi' hp=>hb i hi' (by lia)⟩
theorem bel{xs:Array Nat}(r:Ris xs)(j:Nat):Q5 xs j<=xs.size/\(∀i,(h:i<xs.size)->i<Q5 xs j->xs[i]<j)/\∀i,(h:i<xs.size)->Q5 xs j<=i->j<=xs[i]:=by obtain⟨p,e,h1,h2,h3⟩:=Jdn r j xs.size 0 xs.size (by simp[*]) (by simp[*]) (Qn _) (fun i _ h=>by simp_all) (fun i h h'=>by lia);have e':Q5 xs j=p:=e;rw[e'];exact⟨h1,h2,h3⟩
theorem JgJ{xs:Array Nat}(r:Ris xs){i:Nat}(hi:i<xs.size):Q5 xs (xs[i]+1)=i+1:=by
 obtain⟨h1,h2,h3⟩:=bel r (xs[i]+1);rcases Mm (Q5 xs (xs[i]+1)) (i+1) with c|c|c
 ·grind
 ·exact c
 ·have l:i+1<xs.size:=by exact QJ ‹_› ‹_›
  have:=h2 (i+1) l c
  have:=r.lt (i:=i) (j:=i+1) (GO i) l
  lia
theorem JgK{xs:Array Nat}(r:Ris xs):Q5 xs 0=0:=by
 obtain⟨h1,h2,h3⟩:=bel r 0;rcases Nat.eq_zero_or_pos (Q5 xs 0) with c|c
 ·exact c
 ·have:=h2 0 (by exact QJ ‹_› ‹_›) c;simp_all
theorem JkQ{xs:Array Nat}(r:Ris xs){j:Nat}(no:xs[Q5 xs j]?≠some j):Ris (SetTable.insertAt xs (Q5 xs j) j):=by
 obtain⟨h1,h2,h3⟩:=bel r j;unfold Ris;rw[SetTable.toList_insertAt];have r':=r;unfold Ris at r';rw[<- List.take_append_drop (Q5 xs j) xs.toList] at r';obtain⟨ra,rb,rc⟩:=LO.mp r'
 have low:∀x∈xs.toList.take (Q5 xs j),x<j:=fun x hx=>by obtain⟨i,hi,e⟩:=LM.mp hx;rw[LD,QX] at hi;rw[List.getElem_take,Re] at e;rw[<- e];exact h2 i (by grind) (by simp_all)
 have high:∀x∈xs.toList.drop (Q5 xs j),j<x:=fun x hx=>by
  obtain⟨i,hi,e⟩:=LM.mp hx;rw[MA,QX] at hi;rw[List.getElem_drop,Re] at e;have g:=h3 (Q5 xs j+i) (by lia) (by simp[*]);rw[e] at g;rcases MU j x with q|q
  ·exact q
  ·exfalso
   have ex:x=j:=by lia
   apply no
   have b0:Q5 xs j<xs.size:=by lia
   rw[Kq b0];have g0:=h3 (Q5 xs j) b0 (Qn _);rcases Nat.eq_zero_or_pos i with z|z
   ·simp_all
   ·have:=r.lt (i:=Q5 xs j) (j:=Q5 xs j+i) (by simp[*]) (by lia);rw[e] at this;omega
 refine LO.mpr ⟨ra,Ko.mpr ⟨high,rb⟩,fun a ha b hb=>?_⟩;rcases Qr.mp hb with e|e
 ·rw[e];exact low a ha
 ·exact rc a ha b e
noncomputable def Vac(t:SetTable)(j:Nat):Prop:=t.place[Q5 t.place j]?≠some j
theorem Jc8{t:SetTable}{j:Nat}(h:∀i,t.slot j≠.live i):Vac t j:=by
 intro e
 grind[SetTable.slot]
theorem JaJ(t:SetTable)(p:SetTable.Probe):(t.advance p).dummy=p.dummy:=by unfold SetTable.advance;split <;> rfl
theorem WT{t:SetTable}{hashAt:Nat->Int}{h:Int}:∀(fuel:Nat) (p:SetTable.Probe) {j:Nat} {d:Option Nat},(∀x,p.dummy=some x->Vac t x)->Mo t hashAt h fuel p=some (.empty j d)->Vac t j/\∀x,d=some x->Vac t x
 | 0,p,j,d,hp,e=>by simp[Mo] at e
 | fuel+1,p,j,d,hp,e=>by
  unfold Mo at e;split at e
  ·grind[Jc8]
  ·rename_i c;refine WT fuel _ (fun x hx=>?_) e
   grind[JaJ,Jc8]
  ·split at e
   ·simp_all
   ·exact WT fuel _ (fun x hx=>hp x (by rwa [JaJ] at hx)) e
theorem Jhd{t:SetTable}{h:Int}{j:Nat}{b:Bool}(e:t.freeSlot h=some (j,b)):Vac t j:=by
 unfold SetTable.freeSlot at e;split at e
 ·rename_i j' d c
  injection e with e
  injection e with e1 _
  unfold SetTable.probe at c;obtain⟨a1,a2⟩:=WT _ _ (fun x hx=>by simp[SetTable.probeStart] at hx) c
  cases d with
  | none=>simp_all
  | some x=>simp_all
 ·cases e
noncomputable def TOk(led:Bool)(t:SetTable):Prop:=(t.plain=true->Ris t.place)/\t.led=led
theorem VH(led:Bool)(t:SetTable)(n:Nat)(h:t.led=led):TOk led (t.standIn n):=⟨fun e=>by simp[SetTable.standIn] at e,h⟩
theorem Jlh{led:Bool}{t:SetTable}(h:TOk led t)(es:Array (Int×Qc))(k:Int)(x:Qc):TOk led (layNew t es k x).2.1:=by
 unfold layNew;split
 ·rename_i j b c;dsimp only;unfold SetTable.orStandIn;split
  ·exact⟨fun e=>JkQ (h.1 (by solve_by_elim)) (Jhd c),by simpa [SetTable.put] using h.2⟩
  ·exact VH _ _ _ (by simpa [SetTable.put] using h.2)
 ·exact VH _ _ _ h.2
theorem ZR(g:Nat->Option Nat):∀l:List Nat,((l.filterMap fun j=>(g j).map (j,·)).map (·.1)).Sublist l
 | []=>.slnil
 | j::l=>by
  rw[LY]
  cases h:g j with
  | none=>exact(ZR g l).cons _
  | some k=>exact(ZR g l).cons₂ _
theorem JiK{t:SetTable}{mask f m:Nat}{led plain:Bool}{hs:Array Int}{o:Array Nat}(e:Rl mask f m led plain hs=some (t,o)):TOk led t:=by
 unfold Rl at e
 cases c:SetTable.layClean mask hs with
 | none=>rw[c] at e;cases e
 | some ow =>
  rw[c] at e;have e':some _=some (t,o):=e
  injection e' with e'
  injection e' with e1 e2
  subst e1;refine⟨fun _=>?_,rfl⟩;show List.Pairwise _ _;refine List.Pairwise.sublist (ZR _ _) ?_;exact List.pairwise_lt_range
theorem Jgn{led:Bool}{t:SetTable}(h:TOk led t)(es:Array (Int×Qc))(n:Nat):TOk led (relayAll t es n).2.1:=by
 unfold relayAll;split
 ·rename_i t' o c;dsimp only;split
  ·have:=JiK (show Rl _ _ _ _ _ _=some (t',o) from c);rw[h.2] at this;exact this
  ·exact VH _ _ _ h.2
 ·exact VH _ _ _ h.2
theorem Jgm(a b:Nat)(led:Bool):TOk led (.fresh a b led):=⟨fun _=>List.Pairwise.nil,rfl⟩
theorem ZD{α:Type}:∀{l:List α} {i:Nat} (h:i<l.length),(l[i]::l.eraseIdx i).Perm l
 | x::l,0,_=>.refl _
 | x::l,i+1,h=>by have:=ZD (l:=l) (i:=i) (by simpa using h);exact(List.Perm.swap x (l[i]'(by simpa using h)) _).trans (this.cons x)
theorem JeL{α:Type}(next:Nat->Nat):∀(fuel k:Nat) (left:List α) (out:Array α),left.length=fuel->(Rv next fuel k left out).toList.Perm (out.toList++left)
 | 0,k,left,out,h=>by have:left=[]:=GW h;subst this;simp[Rv]
 | fuel+1,k,left,out,h=>by
  unfold Rv;have hl:next k % left.length<left.length:=Nat.mod_lt _ (by simp[*])
  rw[Gh hl];dsimp only;refine(JeL next fuel (k+1) _ _ (by grind)).trans ?_;rw[Array.toList_push,List.append_assoc];refine List.Perm.append_left _ ?_;exact(ZD hl)
theorem Ja4{α:Type}(next:Nat->Nat)(xs:Array α):(pickOrder next xs).toList.Perm xs.toList:=by
 have:=JeL next xs.size 0 xs.toList #[] (by simp)
 simpa [pickOrder] using this
theorem JaR{prog:Qm}{w:Qp}{A:Qx}{E:Qc->Qe->Prop}{α:Type}:∀(n:Nat) (xs:List α) (s:Qe) (Q:List α->Qe->Prop),xs.length=n->(∀ys d,ys.Perm xs->Q ys { s with drawn:=d })->wpAny (model prog w) A (drawOrder n xs) Q E s
 | 0,xs,s,Q,hl,h=>by
  have:xs=[]:=GW hl;subst this
  solve_by_elim
 | n+1,xs,s,Q,hl,h=>by
  cases xs with
  | nil=>simp at hl
  | cons x xs =>
   show wpAny _ A ((choose .order (x::xs).length) >>= _) Q E s;refine Qa ?_;intro Γ p hΓ;unfold choose;rw[Sem.wp_choose];refine⟨by simp,?_⟩;rw[Sem.wp_pure]
   generalize hi:(model prog w).w.draws Source.order (s.drawn.get Source.order) % (x::xs).length=i
   have hlt:i<(x::xs).length:=by rw[<- hi];exact Nat.mod_lt _ (by simp)
   rw[Gh hlt];show wpAny _ A (drawOrder n ((x::xs).eraseIdx i) >>= _) Q E _;refine Qa (JaR n _ _ _ (by rw[List.length_eraseIdx_of_lt hlt];simp[*]) fun ys d hp=>?_);refine Qf (h ((x::xs)[i]::ys) d ?_);exact(hp.cons _).trans (ZD hlt)
end L2

namespace L2
open PySem PyProof.Rows
structure SetS (prog:Qm) (w:Qp) (led:Bool) (h:QC) (a:Qd) (S:Int->Bool) (n:Nat) (o:Obj) (es:Array (Int×Qc)) (ep:Nat) (t:SetTable):Prop where
 got:h.get? a=some o
 ex:o.ExactSet
 data:o.data=.set es ep t
 els:ElemsOf (intKind prog w) es.toList
 mem:∀k,S k=true↔∃e∈es.toList,(intKind prog w).is k e.2=true
 few:es.size<scanBound
 fits:t.fits es.size=true
 size:es.size=n
 tok:TOk led t
noncomputable def SetL(prog:Qm)(w:Qp)(led:Bool)(h:QC)(a:Qd)(S:Int->Bool)(n:Nat):Prop:=∃o es ep t,SetS prog w led h a S n o es ep t
section
variable{prog:Qm}{w:Qp}{A:Qx}{E:Qc->Qe->Prop}{s:Qe}{led:Bool}{a:Qd}{S:Int->Bool}{n:Nat}
theorem SetL.move{h h':QC}(x:SetL prog w led h a S n)(e:∀o,h.get? a=some o->h'.get? a=some o):SetL prog w led h' a S n :=
 let ⟨o,es,ep,t,z⟩:=x;⟨o,es,ep,t,{ z with got:=e _ z.got }⟩
theorem SetL.as{h:QC}{S':Int->Bool}{n':Nat}(x:SetL prog w led h a S n)(e:∀k,S k=S' k)(en:n=n'):SetL prog w led h a S' n':=by have:S=S':=funext e;subst this en;exact x
theorem Jc3{h:QC}{o:Obj}{es:Array (Int×Qc)}{ep:Nat}{t:SetTable}(ho:h.get? a=some o)(hex:o.ExactSet)(hd:o.data=.set es ep t){es':Array (Int×Qc)}{t':SetTable}{S':Int->Bool}
 (h1:ElemsOf (intKind prog w) es'.toList) (h2:∀k,S' k=true↔∃e∈es'.toList,(intKind prog w).is k e.2=true) (h3:es'.size<scanBound) (h4:t'.fits es'.size=true) (h5:TOk led t') :
 SetS prog w led (h.update a (Obj.putSet es' t')) a S' es'.size { o with data:=.set es' (ep+1) t' } es' (ep+1) t' :=
 ⟨(SetOf_store (knd:=intKind prog w) ho hex hd h1 h2 h3 h4).1,hex,rfl,h1,h2,h3,h4,rfl,h5⟩
theorem Jc6{g:Bool->Sem Unit}(hg:∀(b:Bool) (s1:Qe) (Q:Unit->Qe->Prop),Q () s1->wpAny (model prog w) A (g b) Q E s1)
 {o:Obj} {es:Array (Int×Qc)} {ep:Nat} {t:SetTable} (ho:s.heap.get? a=some o) (hex:o.ExactSet) (hd:o.data=.set es ep t) {es1:Array (Int×Qc)} {t2:SetTable} {S':Int->Bool}
 (h1:ElemsOf (intKind prog w) es1.toList) (h2:∀k,S' k=true↔∃e∈es1.toList,(intKind prog w).is k e.2=true) (h3:es1.size<scanBound) (h4:t2.fits es1.size=true) (h5:TOk led t2) {dm:Bool} {R:Option Bool->Qe->Prop}
 (h:∀h',Qu a s.heap h'->SetL prog w led h' a S' es1.size->R (some true) { s with heap:=h' }) :
 wpAny (model prog w) A (storeSet a es1 t2 >>= fun _=>if (!dm && t2.tooFull)=true then
  (g (relayAll t2 es1 (KF es1.size)).2.2 >>= fun _=>storeSet a (relayAll t2 es1 (KF es1.size)).1 (relayAll t2 es1 (KF es1.size)).2.1 >>= fun _=>pure (some true))
  else pure (some true)) R E s:=by
 refine Qa (wpAny_storeSet_of ho hd ?_ (fits_of_scanBound h3));have z:=Jc3 (prog:=prog) (w:=w) ho hex hd h1 h2 h3 h4 h5;have sb:=Q9 s.heap a (Obj.putSet es1 t2);split
 ·have hp:=relayAll_perm t2 es1 (KF es1.size)
  have hf:=relayAll_fits t2 es1 (KF es1.size)
  have hk:=Jgn h5 es1 (KF es1.size)
  generalize relayAll t2 es1 (KF es1.size)=T at hp hf hk ⊢
  obtain⟨es2,t3,gv⟩:=T;dsimp only at hp hf hk ⊢;have sz:es2.size=es1.size:=by rw[<- QX,hp.length_eq,QX]
  refine Qa (hg _ _ _ ?_);refine Qa (wpAny_storeSet_of z.got rfl ?_ (fits_of_scanBound (by rw[sz];exact h3)));have z2:=Jc3 (prog:=prog) (w:=w) (led:=led) (S':=S') (es':=es2) (t':=t3) z.got hex rfl (h1.perm hp) (fun k=>(h2 k).trans ⟨fun⟨e,he,q⟩=>⟨e,hp.mem_iff.mpr he,q⟩,fun⟨e,he,q⟩=>⟨e,hp.mem_iff.mp he,q⟩⟩) (by rw[sz];exact h3) hf hk;rw[sz] at z2;exact Qf (h _ (sb.trans (Q9 _ a _)) ⟨_,_,_,_,z2⟩)
 ·exact Qf (h _ sb ⟨_,_,_,_,z⟩)
theorem Jk5{k:Int}{tk:Tok}{Q:Bool->Qe->Prop}(hS:SetL prog w led s.heap a S n)(room:n+1<scanBound)
 (h:∀h',Qu a s.heap h'->SetL prog w led h' a (fun k'=>S k' || decide (k'=k)) (if S k then n else n+1)->Q (!S k) { s with heap:=h' }) :
 wpAny (model prog w) A (setAddHashed a (.int k tk) ((intKind prog w).hash k)) Q E s:=by
 have key:(intKind prog w).is k (.int k tk)=true:=intKind_is _ _ _ _;obtain⟨o,es,ep,t,z⟩:=hS
 have few1:es.size+1<scanBound:=by rw[z.size];exact room
 unfold setAddHashed setAddHashedIn;refine Gg (Qa (GX z.got z.data z.fits ?_));dsimp only;rw[byScan_of (x:=.int k tk) rfl z.few z.els];simp only[↓reduceIte];unfold setAddByScan;refine Qa (Qa (Kb (Qa (wpAny_setScan_of key z.got z.data z.fits z.els ?_))))
 cases hr:List.findIdx? (fun e=>(intKind prog w).is k e.2) es.toList with
 | some j =>
  dsimp only;obtain⟨hj,hpj,_⟩:=List.findIdx?_eq_some_iff_getElem.mp hr;have yes:S k=true:=(z.mem k).mpr ⟨es.toList[j],MD hj,hpj⟩;refine Qf (Qf ?_)
  have:=h s.heap (Rt a s.heap) (SetL.as ⟨o,es,ep,t,z⟩ (fun k'=>by simp_all) (by rw[yes];rfl))
  simp_all
 | none =>
  dsimp only
  have no:S k=false:=by
   cases hk:S k with
   | false=>rfl
   | true=>obtain⟨e,he,hp⟩:=(z.mem k).mp hk;grind
  have hp:=layNew_perm t es ((intKind prog w).hash k) (.int k tk)
  have hf:=layNew_fits t es ((intKind prog w).hash k) (.int k tk)
  have ht:=Jlh z.tok es ((intKind prog w).hash k) (.int k tk)
  generalize layNew t es ((intKind prog w).hash k) (.int k tk)=L at hp hf ht ⊢
  obtain⟨es1,t1,dm,gv⟩:=L;dsimp only at hp hf ht ⊢;rw[Array.toList_push] at hp;have e1:ElemsOf (intKind prog w) es1.toList:=(z.els.push key rfl).perm hp;have m1:=mem_push_iff key z.mem hp;have sz1:es1.size=n+1:=by rw[<- QX,hp.length_eq,Lk,QX,z.size];rfl
  have f1:es1.size<scanBound:=by rw[sz1];exact room
  have gw:∀(b:Bool) {s1:Qe} {Q':Unit->Qe->Prop},Q' () s1->wpAny (model prog w) A (match b with | true=>rule "set.scan.the-table-gave-way" | false=>pure ()) Q' E s1:=fun b s1 Q' hq=>by
   cases b
   ·exact Qf hq
   ·exact Kb hq
  refine Qa (gw _ ?_)
  have fin:∀h',Qu a s.heap h'->SetL prog w led h' a (fun k'=>S k' || decide (k'=k)) es1.size->Q true { s with heap:=h' }:=by simp_all
  split
  ·refine Qa ?_;rw[hashByValue_scannable 8 (x:=.int k tk) rfl];refine Qf ?_;refine Jc6 (led:=led) ?_ z.got z.ex z.data e1 m1 f1 ?_ ?_ ?_
   ·solve_by_elim
   ·solve_by_elim
   ·solve_by_elim
   ·intro h' sb hS';dsimp only;exact Qf (fin h' sb hS')
  ·refine Qa (Qf ?_);simp only[↓reduceIte];refine Jc6 (led:=led) ?_ z.got z.ex z.data e1 m1 f1 hf ht ?_
   ·solve_by_elim
   ·intro h' sb hS';dsimp only;exact Qf (fin h' sb hS')
end
section
variable{prog:Qm}{w:Qp}{A:Qx}{R:L9->Qe->Prop}{I:Qd}{fp wr:List Qd}{G:Array GenState->Array GenState->Prop}{n:Nat}{P:Nat->Qc->Prop}{St:Nat->Qe->Prop}
theorem Jiu{led:Bool}(W:WalksS prog w A.in1 I fp wr G n P St)(a:Qd)(hf:a∉fp)(val:Nat->Int)(hv:∀i v,P i v->∃t,v=.int (val i) t)(hb:n+1<scanBound) :
 ∀(k i:Nat) (s:Qe),n-i=k->i<=n->St i s->SetL prog w led s.heap a (fun k'=>(firstMet val i).any (· == k')) (firstMet val i).length ->
  (∀s',Moved (a::wr) G s s'->SetL prog w led s'.heap a (fun k'=>(firstMet val n).any (· == k')) (firstMet val n).length->R (.ok (.ret .none)) s') ->
  codeAny (model prog w) A (.builtin "set.update.loop" ⟨[.ref a,.ref I],[]⟩) R s:=by
 have hw:a∉wr:=fun h=>hf (W.sub _ h)
 have up:∀b∈wr,b∈a::wr:=fun b hb=>Qq _ hb
 intro k
 induction k with
 | zero =>
  intro i s hk hi st hS hR;obtain rfl:i=n:=by grind
  refine GZ MJ ?_;rw[GK Lm _];show wpAny _ A.in1 (pyNext (.ref I) >>= _) _ _ s;exact Qa (W.done s _ _ st fun s' hm=>Qf (hR s' (hm.mono up) (hS.move fun o e=>hm.heap a _ hw e)))
 | succ k ih =>
  intro i s hk hi st hS hR;have lt:i<n:=by omega
  refine GZ MJ ?_;rw[GK Lm _];show wpAny _ A.in1 (pyNext (.ref I) >>= _) _ _ s;refine Qa (W.item i s _ _ lt st fun v s' hP st' hm=>?_);obtain⟨t,rfl⟩:=hv i v hP;have hS':=hS.move (h':=s'.heap) fun o e=>hm.heap a _ hw e
  show wpAny _ A.in1 (holding [Value.int (val i) t] (setAdd a (.int (val i) t)) >>= _) _ _ s';refine Qa (Gg ?_);unfold setAdd;refine Gg (Qa ((intKind prog w).pyHash (k:=val i) (intKind_is _ _ _ _) ?_))
  have room:(firstMet val i).length+1<scanBound:=by grind[firstMet_length_le]
  refine Jk5 (s:={ s' with toks:=s'.toks+1 }) hS' room fun h' sb hS2=>?_
  have hS3:=hS2.as (S':=fun k'=>(firstMet val (i+1)).any (· == k')) (n':=(firstMet val (i+1)).length) (fun k'=>by rw[firstMet_succ,step_any]) (by rw[firstMet_succ,step_length]);refine Qf ⟨GY Lm _,ih (i+1) _ (by grind) lt (W.frame _ s' _ _ st' (LL _) fun b hb o e=>?_) hS3 fun s'' hm'' hS''=>?_⟩
  ·rw[sb.2 b (fun h:b=a=>hf (by rw[<- h];exact hb))];exact e
  ·refine hR s'' (Moved.trans W.gtrans ((hm.mono up).then_heap (LL _) fun b o hb e=>?_) hm'') hS'';rw[sb.2 b (fun h:b=a=>hb (by simp_all))];exact e
end
end L2

namespace L2
open PySem PyProof.Rows
noncomputable def YF(w:Qp):Bool:=!(w.params.followText "set-order")
noncomputable def UD(led:Bool):Obj:={ cls:=.type "set",dict:=none,data:=.set #[] 0 (.fresh 0 0 led) }
section
variable{prog:Qm}{w:Qp}{A:Qx}{E:Qc->Qe->Prop}{s:Qe}
theorem Jit(led:Bool){h:QC}{a:Qd}(e:h.get? a=some (UD led)):SetL prog w led h a (fun _=>false) 0 :=
 ⟨_,#[],0,_,e,⟨rfl,rfl,rfl⟩,rfl,fun e he=>by simp at he,fun k=>by simp,by decide,by rfl,rfl,Jgm 0 0 led⟩
theorem Jc5(a:Qc){Q:Qc->Qe->Prop}(h:Q (.ref s.heap.objs.size) { s with heap:=s.heap.push (UD (YF w)) }) :
 codeAny (model prog w) A (.call (.builtin "set.__new__") ⟨[.type "set",a],[]⟩) (wants Q E) s:=by
 refine codeAny_of_tree ?_;show wpAny _ A.in1 (checkBuiltinCall "set.__new__" ⟨[.type "set",a],[]⟩ >>= fun _=>again (.builtin "set.__new__" ⟨[.type "set",a],[]⟩)) _ _ s;refine Qa (Kc (F.newCall_set_1 a) (Qf ⟨GY F.plain_set_new _,GZ F.entry_set_new ?_⟩))
 solve_by_elim
theorem Jfr{l:Qd}{items:Array Qc}{ns:List Int}{Q:Qc->Qe->Prop}(hh:A.handled=none)(hl:s.heap.IsList l items)(hi:IntsAre items.toList ns)(hb:items.size+1<scanBound)
 (h:∀(h':QC) (tk:Nat),SetL prog w (YF w) h' s.heap.objs.size (fun k'=>(firstMet (fun i=>ns.getD i 0) items.size).any (· == k')) (firstMet (fun i=>ns.getD i 0) items.size).length ->
  (∀b o,s.heap.get? b=some o->h'.get? b=some o)->Q (.ref s.heap.objs.size) { s with heap:=h',toks:=tk }) :
 wpAny (model prog w) A (call (.type "set") [.ref l]) Q E s:=by
 obtain⟨c,tl,hmro⟩:=KL.mro;have hmade:=KL.made;have hsub:=KL.sub;refine wpAny_call (codeAny_of_tree ?_);show wpAny _ _ (callAny (.type "set") _) _ _ _;refine Qf ⟨Code.quiet_builtin _ (by decide +kernel),GZ F.entry_type_call ?_⟩;rw[Around.under_plain (weight_type_call_type "set" [.ref l] []) rfl];have n1:=KL.notType;have n2:=KL.canCreate;have n3:=F.typeCall_set_1 (.ref l)
 repeat (any_goals (first|assumption|wp_step))
 refine KI (Jc5 (.ref l) (E:=E) (Q:=fun obj s1=>obj=.ref s.heap.objs.size/\s1={ s with heap:=s.heap.push (UD (YF w)) }) ⟨rfl,rfl⟩) fun r s1 hr=>?_
 cases r with
 | error e=>exact hr
 | ok fl =>
  cases fl with
  | ret obj =>
   obtain⟨rfl,rfl⟩:=hr;have hS:(s.heap.push (UD (YF w))).get? s.heap.objs.size=some (UD (YF w)):=Qh _ rfl;have hT:Shared.TypeIs { s with heap:=s.heap.push (UD (YF w)) } (.ref s.heap.objs.size) "set":=⟨_,hS,rfl⟩
   have i1:=KL.init.lookup
   have i2:=KL.init.bind (.ref s.heap.objs.size)
   repeat (any_goals (first|assumption|wp_step))
   refine KI (codeAny_call_builtin (R:=wants (fun r s2=>r=.none/\∃h' tk,s2={ s with heap:=h',toks:=tk } ∧
    SetL prog w (YF w) h' s.heap.objs.size (fun k'=>(firstMet (fun i=>ns.getD i 0) items.size).any (· == k')) (firstMet (fun i=>ns.getD i 0) items.size).length ∧
    (∀b o,s.heap.get? b=some o->h'.get? b=some o)) E) KL.init.plain F.entry_set_init (check_set_init_1 hT ?_)) fun r2 s2 hr2=>?_
   ·obtain⟨ol,hol,hcl,nl,hdl⟩:=hl;obtain⟨oc,od,oda,osl⟩:=ol;simp only at hcl hdl;subst hcl;subst hdl;have hol':(s.heap.push (UD (YF w))).get? l=some { cls:=.type "list",dict:=od,data:=.seq items nl,slots:=osl }:=Qg _ hol;have b1:=F.sub_list_set;have b2:=F.sub_list_frozenset;have b3:(Value.type "list" == Value.type "dict")=false:=by decide
    have hl1:(s.heap.push (UD (YF w))).IsList l items:=⟨_,hol',rfl,nl,rfl⟩
    unfold Builtin.«set.__init__» noKeywords Builtin.Frozenset.updateFrom
    generalize hPI:pyIter=PI
    wp_walk
    subst hPI;refine Ln hl1 (Qa (wpAny_runValue ?_));have lS:l<s.heap.objs.size:=Qj hol;have hh3:A.in1.in1.in1.handled=none:=by simp[hh]
    have neI:l≠(s.heap.push (UD (YF w))).objs.size:=by rw[Ge];exact Qw (G7 lS)
    have off:s.heap.objs.size∉[(s.heap.push (UD (YF w))).objs.size,l]:=by rw[Ge];grind
    refine Jiu (led:=YF w) ((Walks.list hh3 _ l neI items).toS) s.heap.objs.size off (fun i=>ns.getD i 0) (fun i v hv=>IntsAre.int_at hi i v (by simp_all)) hb (items.size-0) 0 _ (by simp[*]) (Gm _)
     ⟨⟨_,Qh _ rfl,rfl,rfl⟩,(hl1.push _)⟩ (Jit _ (Qg _ hS)) fun s' hm hS'=>?_
    obtain⟨h',g',d',tk',os'⟩:=s';have eg:g'=s.gens:=hm.gens;have ed:d'=s.drawn:=hm.drawn;have eo:os'=s.os:=hm.os;subst eg;subst ed;subst eo;show wpAny _ _ _ _ _ _;refine Qf ?_;show wpAny _ _ (ret Value.none) _ _ _;refine Qf ⟨rfl,h',tk',rfl,hS',fun b o e=>?_⟩;have hb0:=Qj e;refine hm.heap b o ?_ (Qg _ (Qg _ e))
    grind[Ge]
   ·cases r2 with
    | error e=>exact hr2
    | ok fl2 =>
     cases fl2 with
     | ret r =>
      obtain⟨rfl,h',tk,rfl,hS',hk'⟩:=hr2
      repeat (any_goals (first|assumption|wp_step))
      exact h _ _ hS' hk'
     | _=>exact hr2.elim
  | _=>exact hr.elim
end
end L2

namespace L2
open PySem PyProof.Rows PySem.W
theorem si_slot_next:Slot "set_iterator" "__next__" "set_iterator.__next__" :=
 .of (owner:="set_iterator") (n:="__next__") (by rfl) (by decide +kernel) (by decide +kernel) (by decide +kernel) (.inl (by decide +kernel)) (by rfl)
theorem VM:entryFor table "set_iterator.__next__"=some Builtin.«set_iterator.__next__»:=entryFor_of_tree (by kernel_rfl)
theorem Wy(a:Qc):argsOk "set_iterator.__next__" ⟨[a],[]⟩:=by rfl
theorem Wz:Slot "set_iterator" "__iter__" "set_iterator.__iter__" :=
 .of (owner:="set_iterator") (n:="__iter__") (by rfl) (by decide +kernel) (by decide +kernel) (by decide +kernel) (.inl (by decide +kernel)) (by rfl)
theorem JaF:entryFor table "set_iterator.__iter__"=some Builtin.«dict_keyiterator.__iter__»:=entryFor_alias (id':="dict_keyiterator.__iter__") (by kernel_rfl) rfl (by decide +kernel) (by kernel_rfl)
theorem Jb0(a:Qc):argsOk "set_iterator.__iter__" ⟨[a],[]⟩:=by rfl
theorem Jan:entryFor table "set.__iter__"=some Builtin.«frozenset.__iter__»:=entryFor_alias (id':="frozenset.__iter__") (by kernel_rfl) rfl (by decide +kernel) (by kernel_rfl)
end L2

namespace L2
open PySem PyProof.Rows PySem.W
noncomputable def SIt(h:QC)(I d:Qd)(f:Qc)(i n ep:Nat):Prop:=∃o,h.get? I=some o/\o.cls=.type "set_iterator"/\o.data=.fields #[f,.int i 0,.ref d,.int n 0,.int ep 0]
section
variable{prog:Qm}{w:Qp}{A:Qx}{E:Qc->Qe->Prop}{s:Qe}{I d:Qd}{f:Qc}{i n ep:Nat}{es:Array (Int×Qc)}{t:SetTable}{o:Obj}
theorem SIt.type{s:Qe}(x:SIt s.heap I d f i n ep):s.TypeIs (.ref I) "set_iterator":=let ⟨o,ho,hc,_⟩:=x;⟨o,ho,hc⟩
theorem SIt.at{h h':QC}(x:SIt h I d f i n ep)(e:∀o,h.get? I=some o->h'.get? I=some o):SIt h' I d f i n ep:=let ⟨o,ho,r⟩:=x;⟨o,e _ ho,r⟩
theorem JeZ{Q:Qc->Qe->Prop}(hit:SIt s.heap I d f i n ep)(h:Q (.ref I) s):wpAny (model prog w) A (pyIter (.ref I)) Q E s:=by refine Ls hit.type Wz (QH Wz hit.type JaF ?_ (Jb0 _));show wpAny _ _ (ret (.ref I)) _ _ s;exact Qf ⟨_,rfl,"set_iterator",_,hit.type,si_slot_next.lookup,h⟩
theorem Je0{Q:Option Qc->Qe->Prop}(hh:A.handled=none){h1:QC}(hx:∀h',Ki I s.heap h'->Q none { s with heap:=h' })(he:Ki I s.heap h1) :
 wpAny (model prog w) A.in1 (newExc (.type "StopIteration") [] >>= fun e=>raiseNew e) (fun(fin:Fin) s'=>∃r,fin=.done (.ret r)/\wpAny (model prog w) A (pure (some r)) Q E s') (fun e s'=>wpAny (model prog w) A (isInstance e (.type "StopIteration") >>= fun b=>if b=true then pure none else throw e) Q E s') { s with heap:=h1 }:=by
 refine Qa ?_;simp only[newExc,newTuple];refine Qa (QO ?_ (by size_fits));refine Qa (m:=firstArgMember _ _) (Kc (a:=Value.none) (by rfl) ?_);refine QO ?_ (by size_fits);simp only[raiseNew];refine Qa (Ms ?_);rw[show A.in1.handled=none from hh];refine Qa (Qf (Rb ?_));refine Qa (Gu (T:="StopIteration") (b:=true) ⟨_,Qh _ rfl,rfl⟩ KB ?_)
 exact Qf (hx _ ((he.push _).push _))
theorem JeY{Q:Option Qc->Qe->Prop}{sl:Nat}{r:Option (Qc×Nat)}(hh:A.handled=none)(hit:SIt s.heap I d (.int sl 0) i es.size ep)(ho:s.heap.get? d=some o)(hd:o.data=.set es ep t)(hf:t.fits es.size=true)
 (nx:∀(A:Qx) (E:Qc->Qe->Prop) (Q:Option (Qc×Nat)->Qe->Prop),Q r s->wpAny (model prog w) A (setNext d sl i ep) Q E s)
 (item:∀x j h',r=some (x,j)->SIt h' I d (.int j 0) (i+1) es.size ep->Qu I s.heap h'->Q (some x) { s with heap:=h' })
 (done:r=none->∀h',Ki I s.heap h'->Q none { s with heap:=h' }):wpAny (model prog w) A (pyNext (.ref I)) Q E s:=by
 obtain⟨oi,hoi,hci,hdi⟩:=id hit;unfold pyNext;refine Qa (Gy (QF (name:=Ga "__next__") hit.type si_slot_next (QH si_slot_next hit.type VM ?_ (Wy _))));unfold Builtin.«set_iterator.__next__»;refine Qa (Qf (Qa (Rc hoi hdi ?_)));show wpAny _ _ (setEntries d >>= _) _ _ s;refine Qa (L3 ho hd hf ?_);rw[if_neg (by simp)];show wpAny _ _ (setNext d ((sl:Int).toNat) ((i:Int).toNat) ((ep:Int).toNat) >>= _) _ _ s
 rw[GH,GH,GH];refine Qa (nx _ _ _ ?_)
 cases hr:r with
 | some p =>
  obtain⟨x,j⟩:=p;dsimp only;refine Qa (GC hoi hdi (by simp) ?_);have h1:=QP (G4 (·.setIfInBounds 0 (rawInt j))) hoi (GG (Q3 hdi _));have d1:=Q3 hdi (·.setIfInBounds 0 (rawInt j));refine Qa (GC h1 d1 (by simp) ?_);refine Qf ⟨_,rfl,Qf (item x j _ hr ⟨_,QP _ h1 (GG (Q3 d1 _)),?_,?_⟩ ((Q9 ..).trans (Q9 ..)))⟩
  ·grind[K0]
  ·rw[Q3 d1];simp[rawInt]
 | none=>dsimp only;refine Qa (GC hoi hdi (by simp) ?_);exact Je0 hh (done hr) (Q9 ..).extBut
theorem Jc7{Q:Option Qc->Qe->Prop}{T:Qd}{ps:List Nat}{oT:Obj}{cT:Nat}(hh:A.handled=none)(hit:SIt s.heap I d (.ref T) i es.size ep)(ho:s.heap.get? d=some o)(hd:o.data=.set es ep t)(hf:t.fits es.size=true)
 (hT:s.heap.get? T=some oT) (hTd:oT.data=.seq (ps.map fun(i:Nat)=>rawInt i).toArray cT)
 (item:∀p e h',ps[i]?=some p->es[p]?=some e->SIt h' I d (.ref T) (i+1) es.size ep->Qu I s.heap h'->Q (some e.2) { s with heap:=h' }) (inn:∀p∈ps,p<es.size)
 (done:ps[i]?=none->∀h',Ki I s.heap h'->Q none { s with heap:=h' }):wpAny (model prog w) A (pyNext (.ref I)) Q E s:=by
 obtain⟨oi,hoi,hci,hdi⟩:=id hit;unfold pyNext;refine Qa (Gy (QF (name:=Ga "__next__") hit.type si_slot_next (QH si_slot_next hit.type VM ?_ (Wy _))));unfold Builtin.«set_iterator.__next__»;refine Qa (Qf (Qa (Rc hoi hdi ?_)));show wpAny _ _ (setEntries d >>= _) _ _ s;refine Qa (L3 ho hd hf ?_);rw[if_neg (by simp)];show wpAny _ _ (seqItems? (.ref T) >>= _) _ _ s
 unfold seqItems?;refine Qa (Qa (wpAny_load hT ?_));rw[hTd];refine Qf ?_;dsimp only;rw[GH];have ee:(ps.map fun(i:Nat)=>rawInt i).toArray[i]?=(ps[i]?).map fun(i:Nat)=>rawInt i:=by simp
 rw[ee]
 cases hp:ps[i]? with
 | some p =>
  have hlt:=inn p (QG hp)
  show wpAny _ _ (setNextDrawn d ((p:Int).toNat) ((ep:Int).toNat) >>= _) _ _ s;rw[GH,GH];unfold setNextDrawn;refine Qa (Qa (GX ho hd hf ?_));dsimp only;rw[if_neg (by simp)];refine Qa (Qf ?_);rw[Kq hlt];dsimp only;refine Qf ?_;refine Qa (GC hoi hdi (by simp) ?_);refine Qf ⟨_,rfl,Qf (item p es[p] _ hp (Kq hlt) ⟨_,QP _ hoi (GG (Q3 hdi _)),?_,?_⟩ (Q9 ..))⟩
  ·rw[K0];exact hci
  ·rw[Q3 hdi];simp[rawInt]
 | none =>
  show wpAny _ _ (setField (.ref I) 0 (rawInt 0) >>= _) _ _ s;refine Qa (GC hoi hdi (by simp) ?_)
  have h1:=QP (G4 (·.setIfInBounds 0 (rawInt 0))) hoi (GG (Q3 hdi _))
  have d1:=Q3 hdi (·.setIfInBounds 0 (rawInt 0))
  generalize hg:s.heap.update I (G4 (·.setIfInBounds 0 (rawInt 0)))=g at h1
  have sb:Qu I s.heap g:=by rw[<- hg];exact Q9 ..
  generalize G4 (·.setIfInBounds 0 (rawInt 0)) oi=oj at h1 d1
  refine Qa (GC (s:={ s with heap:=g }) h1 d1 (by simp) ?_);exact Je0 (s:=s) hh (done hp) (sb.trans (Q9 ..)).extBut
noncomputable def SHas(h:QC)(d:Qd)(es:Array (Int×Qc))(ep:Nat)(t:SetTable):Prop:=∃o,h.get? d=some o/\o.ExactSet/\o.data=.set es ep t
theorem SHas.at{h h':QC}(x:SHas h d es ep t)(e:∀o,h.get? d=some o->h'.get? d=some o):SHas h' d es ep t:=let ⟨o,ho,r⟩:=x;⟨o,e _ ho,r⟩
theorem Jla{Q:Option (Qc×Nat)->Qe->Prop}(bt:w.params.followText "set-order"=true)(hs:SHas s.heap d es ep t)(hf:t.fits es.size=true){sl:Nat}
 (h:Q (((pickOrder (w.params.setOrder d ep) es)[i]?).map fun e=>(e.2,sl)) s):wpAny (model prog w) A (setNext d sl i ep) Q E s:=by
 obtain⟨o,ho,_,hd⟩:=hs;unfold setNext setsByText;refine Qa (GX ho hd hf (Qa (Qa (Lb (Qf ?_)))));show wpAny _ _ (if w.params.followText "set-order"=true then _ else _) _ _ s;rw[if_pos bt,if_neg (by simp)];refine Qa ?_;unfold setWalk setsByText;refine Qa (GX ho hd hf (Qa (Qa (Lb (Qf ?_)))));show wpAny _ _ (if w.params.followText "set-order"=true then _ else _) _ _ s
 rw[if_pos bt];exact Qa (Lb (Qf (Qf h)))
noncomputable def Jd6(t:SetTable)(i:Nat):Nat:=if i=0 then 0 else t.place.getD (i-1) 0+1
theorem Jiw{t:SetTable}(r:Ris t.place){i:Nat}(h:i<=t.place.size):Q5 t.place (Jd6 t i)=i:=by
 unfold Jd6
 by_cases c:i=0
 ·rw[if_pos c,c];exact JgK r
 ·rw[if_neg c];have hi:i-1<t.place.size:=by lia
  have e:t.place.getD (i-1) 0=t.place[i-1]:=by simp[Array.getD,hi]
  rw[e,JgJ r hi]
  lia
theorem Jiz{Q:Option (Qc×Nat)->Qe->Prop}(bt:w.params.followText "set-order"=false)(hs:SHas s.heap d es ep t)(hf:t.fits es.size=true)(tok:TOk (YF w) t)(nd:(!t.plain && decide (es.size>1))=false)(hi:i<=es.size)
 (h:Q ((es[i]?).map fun e=>(e.2,Jd6 t (i+1))) s):wpAny (model prog w) A (setNext d (Jd6 t i) i ep) Q E s:=by
 obtain⟨o,ho,_,hd⟩:=hs;have hp:t.place.size=es.size:=by grind[SetTable.fits]
 have ris:Ris t.place:=by
  cases c:t.plain with
  | true=>exact tok.1 c
  | false =>
   rw[c] at nd;have z:es.size<=1:=by simpa using nd
   unfold Ris;have:t.place.toList.length<=1:=by simp_all
   match t.place.toList,this with
   | [],_=>exact .nil
   | [x],_=>exact MH _ _
 have led:t.led=true:=by rw[tok.2];unfold YF;rw[bt];rfl
 unfold setNext setsByText;refine Qa (GX ho hd hf (Qa (Qa (Lb (Qf ?_)))));show wpAny _ _ (if w.params.followText "set-order"=true then _ else _) _ _ s;rw[if_neg (by simp_all)];show wpAny _ _ (if (!t.plain && decide (es.size>1))=true then _ else _) _ _ s;rw[if_neg (by rw[nd];exact Qz)];refine Qa (m:=if (!t.led && !es.isEmpty)=true then _ else _) ?_;rw[if_neg (by rw[led];simp)];refine Qf ?_
 dsimp only;rw[Jiw ris (by simp[*])];refine Qf ?_
 cases c:es[i]? with
 | none=>rw[c] at h;exact h
 | some e =>
  have hlt:i<t.place.size:=by rw[hp];exact(G9.mp c).1
  rw[Kq hlt];rw[c] at h
  have:Jd6 t (i+1)=t.place[i]+1:=by unfold Jd6;rw[if_neg (by simp[*])];simp[Array.getD,hlt]
  simp_all
theorem Jk7{Q:Qc->Qe->Prop}(hh:A.handled=none)(hs:SHas s.heap d es ep t)(hf:t.fits es.size=true)(tok:TOk (YF w) t)(hz:es.size<=Qk)
 (h:∀(I:Qd) (h':QC) (dr:Drawn) (ys:List Qc) (fp:List Qd) (St:Nat->QC->Prop),ys.Perm (es.toList.map (·.2))->s.heap.objs.size<=I->(∀b o,s.heap.get? b=some o->h'.get? b=some o) ->
  Walks prog w A I fp [I] es.size (fun i v=>ys[i]?=some v) St->St 0 h'->(∀b∈fp,s.heap.objs.size<=b\/b=d)->(∀b∈fp,b<h'.objs.size)->Q (.ref I) { s with heap:=h',drawn:=dr }) :
 wpAny (model prog w) A (pyIter (.ref d)) Q E s:=by
 obtain⟨o,ho,hex,hd⟩:=id hs;have hT:s.TypeIs (.ref d) "set":=⟨o,ho,hex.1⟩
 have dlt:d<s.heap.objs.size:=Qj ho;refine Ls hT F.slot_set_iter (QH F.slot_set_iter hT Jan ?_ (F.args_set_iter_1 _));unfold Builtin.«frozenset.__iter__» Builtin.Frozenset.slot0 Builtin.Frozenset.sizeOf Builtin.Frozenset.addrOf;refine Qa (Qa (Qf (Qf ?_)));refine Qa (Qa (L3 ho hd hf (Qf ?_)));refine Qa ?_;unfold setDrawn setsByText;refine Qa (GX ho hd hf (Qa (Qa (Lb (Qf (Qf ?_))))))
 show wpAny _ _ (if (!w.params.followText "set-order" && (!t.plain && decide (es.size>1)))=true then _ else _) _ _ s
 have one:∀(sl:Nat->Nat) (ys:List Qc),sl 0=0->ys.Perm (es.toList.map (·.2))->ys.length=es.size ->
  (∀(i:Nat) (s:Qe),i<=es.size->SHas s.heap d es ep t->∀(A:Qx) (E:Qc->Qe->Prop) (Q:Option (Qc×Nat)->Qe->Prop),Q ((ys[i]?).map fun v=>(v,sl (i+1))) s->wpAny (model prog w) A (setNext d (sl i) i ep) Q E s) ->
  Walks prog w A s.heap.objs.size [s.heap.objs.size,d] [s.heap.objs.size] es.size (fun i v=>ys[i]?=some v) (fun i h=>SIt h s.heap.objs.size d (.int (sl i) 0) i es.size ep/\SHas h d es ep t/\i<=es.size):=fun sl ys s0 pm yl nx=>{
  sub:=fun b hb=>by simp at hb;simp[hb]
  frame:=fun i h h' st hk=>⟨st.1.at fun o e=>hk _ (by simp) o e,st.2.1.at fun o e=>hk d (by simp) o e,st.2.2⟩
  item:=fun i s1 Q E hi st hQ=>by
   obtain⟨o1,ho1,_,hd1⟩:=id st.2.1;refine JeY hh st.1 ho1 hd1 hf (fun A E Q hq=>nx i s1 st.2.2 st.2.1 A E Q hq) (fun x j h' e hit' hs'=>?_) (fun e=>?_)
   ·obtain⟨v,e1,e2⟩:=QT.mp e;cases e2;exact hQ _ h' s1.toks e1 ⟨hit',st.2.1.at fun o x=>hs'.extBut d o (Qw dlt) x,hi⟩ fun b o hb x=>hs'.extBut b o (fun h=>hb (by simp[h])) x
   simp_all
  done:=fun s1 Q E st hQ=>by
   obtain⟨o1,ho1,_,hd1⟩:=id st.2.1;refine JeY hh st.1 ho1 hd1 hf (fun A E Q hq=>nx _ s1 st.2.2 st.2.1 A E Q hq) (fun x j h' e _ _=>?_) (fun _ h' he=>hQ h' s1.toks fun b o hb e=>he b o (fun h=>hb (by simp[h])) e)
   simp_all
  self:=fun _ _ _ _ st hQ=>JeZ st.1 hQ }
 have enter:∀(sl:Nat->Nat) (ys:List Qc),sl 0=0->ys.Perm (es.toList.map (·.2))->ys.length=es.size ->
  (∀(i:Nat) (s:Qe),i<=es.size->SHas s.heap d es ep t->∀(A:Qx) (E:Qc->Qe->Prop) (Q:Option (Qc×Nat)->Qe->Prop),Q ((ys[i]?).map fun v=>(v,sl (i+1))) s->wpAny (model prog w) A (setNext d (sl i) i ep) Q E s) ->
  Q (.ref s.heap.objs.size) { s with heap:=s.heap.push { cls:=.type "set_iterator",data:=.fields #[.int 0 0,.int 0 0,.ref d,.int es.size 0,.int ep 0] } }:=fun sl ys s0 pm yl nx=>by
  refine h s.heap.objs.size _ s.drawn ys [s.heap.objs.size,d] _ pm (Qn _) (fun b o e=>Qg _ e) (one sl ys s0 pm yl nx) ⟨⟨_,Qh _ rfl,rfl,?_⟩,hs.at fun o e=>Qg _ e,Gm _⟩ (fun b hb=>?_) (fun b hb=>?_)
  ·rw[s0];rfl
  ·rcases Qr.mp hb with e|e
   ·exact .inl (Ro e.symm)
   ·exact .inr (by simpa using e)
  ·rw[Ge];rcases Qr.mp hb with e|e
   ·rw[e];exact GO _
   ·rw[Gi.mp e];exact G7 dlt
 cases bt:w.params.followText "set-order" with
 | true =>
  rw[if_neg (by simp)];refine Qa (Qf ?_);unfold setEpoch;refine Qa (Qa (GX ho hd hf (Qf ?_)));refine Qa (QO ?_);refine Qf ⟨_,rfl,"set_iterator",_,⟨_,Qh _ rfl,rfl⟩,si_slot_next.lookup,?_⟩;refine enter (fun _=>0) ((pickOrder (w.params.setOrder d ep) es).toList.map (·.2)) rfl ((Ja4 _ es).map _) (by rw[QB,(Ja4 _ es).length_eq,QX]) fun i s1 hi hs1 A E Q hq=>Jla bt hs1 hf ?_
  rw[Qy,M5,Option.map_map] at hq;exact hq
 | false =>
  cases dw:(!t.plain && decide (es.size>1)) with
  | false =>
   rw[if_neg (by simp)];refine Qa (Qf ?_);unfold setEpoch;refine Qa (Qa (GX ho hd hf (Qf ?_)));refine Qa (QO ?_);refine Qf ⟨_,rfl,"set_iterator",_,⟨_,Qh _ rfl,rfl⟩,si_slot_next.lookup,?_⟩;refine enter (Jd6 t) (es.toList.map (·.2)) rfl (.refl _) (by simp_all) fun i s1 hi hs1 A E Q hq=>Jiz bt hs1 hf tok dw hi ?_
   rw[Qy,M5,Option.map_map] at hq;exact hq
  | true =>
   rw[if_pos (by simp)];refine Qa (JaR _ _ _ _ (by rw[Lw]) fun ps dr pm=>?_);refine Qa (Mc (items:=ps.map fun(i:Nat)=>rawInt i) ?_ (by rw[QB,pm.length_eq,Lw];exact hz));have hT1:(s.heap.push { cls:=.type "tuple",data:=.seq (ps.map fun(i:Nat)=>rawInt i).toArray }).get? s.heap.objs.size=some { cls:=.type "tuple",data:=.seq (ps.map fun(i:Nat)=>rawInt i).toArray }:=Qh _ rfl
   have ho1:(s.heap.push { cls:=.type "tuple",data:=.seq (ps.map fun(i:Nat)=>rawInt i).toArray }).get? d=some o:=Qg _ ho
   generalize hg:s.heap.push { cls:=.type "tuple",data:=.seq (ps.map fun(i:Nat)=>rawInt i).toArray }=g at hT1 ho1 ⊢
   have gz:g.objs.size=s.heap.objs.size+1:=by rw[<- hg,Ge]
   have gk:∀b o,s.heap.get? b=some o->g.get? b=some o:=fun b o e=>by rw[<- hg];exact Qg _ e
   unfold setEpoch;refine Qa (Qa (GX (s:={ s with heap:=g,drawn:=dr }) ho1 hd hf (Qf ?_)));refine Qa (QO ?_);refine Qf ⟨_,rfl,"set_iterator",_,⟨_,Qh _ rfl,rfl⟩,si_slot_next.lookup,?_⟩;have inn:∀p∈ps,p<es.size:=fun p hp=>by simpa using pm.mem_iff.mp hp
   have pl:ps.length=es.size:=by rw[pm.length_eq,Lw]
   have dne:d≠g.objs.size:=by rw[gz];exact Qw (G7 dlt)
   have tne:s.heap.objs.size≠g.objs.size:=by rw[gz];exact Qw (GO _)
   refine h g.objs.size _ dr (ps.map fun p=>(es[p]?.map (·.2)).getD Value.none) [g.objs.size,d,s.heap.objs.size] (fun i h=>SIt h g.objs.size d (.ref s.heap.objs.size) i es.size ep/\SHas h d es ep t/\h.get? s.heap.objs.size=some { cls:=.type "tuple",data:=.seq (ps.map fun(i:Nat)=>rawInt i).toArray }) ?_ (by rw[gz];exact LL _) (fun b o e=>Qg _ (gk b o e)) ?_ ⟨⟨_,Qh _ rfl,rfl,rfl⟩,⟨o,Qg _ ho1,hex,hd⟩,Qg _ hT1⟩ (fun b hb=>?_) (fun b hb=>?_)
   ·refine(pm.map _).trans (.of_eq ?_);refine LH (by simp) fun i h1 h2=>?_
    have hi:i<es.size:=by simpa using h1
    simp[hi]
   ·exact {
     sub:=fun b hb=>by simp at hb;simp[hb]
     frame:=fun i h h' st hk=>⟨st.1.at fun o e=>hk _ (by simp) o e,st.2.1.at fun o e=>hk d (by simp) o e,hk _ (by simp) _ st.2.2⟩
     item:=fun i s1 Q E hi st hQ=>by
      obtain⟨o1,ho1,_,hd1⟩:=id st.2.1;refine Jc7 hh st.1 ho1 hd1 hf st.2.2 rfl (fun p e h' e1 e2 hit' hs'=>?_) inn (fun e=>?_)
      ·exact hQ _ h' s1.toks (by rw[Qy,e1];simp[e2]) ⟨hit',st.2.1.at fun o x=>hs'.extBut d o dne x,hs'.extBut _ _ tne st.2.2⟩ fun b o hb x=>hs'.extBut b o (fun h=>hb (by simp[h])) x
      simp_all
     done:=fun s1 Q E st hQ=>by
      obtain⟨o1,ho1,_,hd1⟩:=id st.2.1;refine Jc7 hh st.1 ho1 hd1 hf st.2.2 rfl (fun p e h' e1 _ _ _=>?_) inn (fun _ h' he=>hQ h' s1.toks fun b o hb e=>he b o (fun h=>hb (by simp[h])) e)
      simp_all
     self:=fun _ _ _ _ st hQ=>JeZ st.1 hQ }
   ·grind
   ·rw[Ge,gz];simp only[Qr,List.not_mem_nil,or_false] at hb;rcases hb with e|e|e
    ·rw[e,gz];exact GO _
    ·rw[e];exact G7 (G7 dlt)
    ·rw[e];exact G7 (GO _)
end
end L2

namespace L2
open PySem PyProof.Rows PySem.W PySem.Spec
section
variable{prog:Qm}{w:Qp}{A:Qx}{E:Qc->Qe->Prop}{s:Qe}{d:Qd}{ep:Nat}{es:Array (Int×Qc)}{t:SetTable}
theorem Jhj{Q:Bool->Qe->Prop}(hT:s.TypeIs (.ref d) "set")(h:Q false s):wpAny (model prog w) A (Kg (.ref d)) Q E s:=by
 unfold Kg;refine Qa (GM hT PySem.F.slot_set_len.lookup ?_)
 generalize hid:("set.__len__":String)=id0
 wp_delta
 rw[show splitId id0=some ("set","__len__") from by subst hid;decide +kernel];subst hid;refine Qa (Gu (T:="set") (b:=true) hT (by rfl) ?_);refine KP (fun hab=>absurd hab (by decide)) (fun _=>?_);refine KP (fun _=>?_) (fun hab=>absurd (by decide +kernel) hab);exact Qa (Lq hT (Qf h))
theorem Jd4{R:L9->Qe->Prop}(hh:A.handled=none)(hs:SHas s.heap d es ep t)(hf:t.fits es.size=true)(tok:TOk (YF w) t)(hz:es.size<=Qk)(S:Qd)(ne:S≠d)(res:Qc)(hS:s.heap.get? S=some { cls:=.type "list",data:=.seq #[] })
 (hR:∀h' tk dr acc c,(∀b o,b≠S->s.heap.get? b=some o->h'.get? b=some o)->h'.get? S=some { cls:=.type "list",dict:=none,data:=.seq acc c,slots:=#[] }->acc.toList.Perm (es.toList.map (·.2))->R (.ok (.ret res)) { s with heap:=h',toks:=tk,drawn:=dr }) :
 wpAny (model prog w) A.in1 (GI (.ref S) (.ref d) res)
  (fun fin s'=>match fin with|.done f=>R (.ok f) s'|.again c'=>c'.quiet=true/\codeAny (model prog w) A c' R s') (fun e s'=>R (.error e) s') s:=by
 obtain⟨o,ho,hex,hd⟩:=id hs;have hT:s.TypeIs (.ref d) "set":=⟨o,ho,hex.1⟩
 have Slt:S<s.heap.objs.size:=Qj hS;unfold GI;refine Qa (Lq (T:="set") hT ?_)
 have h1:Kv (.ref S) (.ref d)=false:=by simp[Kv,ne]
 have h2:(Value.type "set" == Value.type "list")=false:=by decide
 have h3:(Value.type "set" == Value.type "tuple")=false:=by decide
 simp only[h1,h2,h3,Bool.or_false,Gd,if_false];refine Qa (Jk7 (A:=A.in1) hh hs hf tok hz fun I h' dr ys fp St pm le old W st fpo fpl=>?_);have SI:S∉fp:=fun m=>(fpo S m).elim (fun x=>absurd Slt (LI.mpr x)) fun x=>ne x
 have hS1:=old S _ hS
 have key:∀(g:QC) (c1 tk:Nat),St 0 g->(∀b o,b≠S->s.heap.get? b=some o->g.get? b=some o)->g.get? S=some { cls:=.type "list",data:=.seq #[] c1 } ->
  codeAny (model prog w) A (.builtin "list.extend.loop" ⟨[.ref S,.ref I,res],[]⟩) R { s with heap:=g,toks:=tk,drawn:=dr }:=by
  intro g c1 tk st1 hk hS2;refine codeAny_extend_loopS W.toS hz S SI res es.size 0 _ #[] c1 rfl (Gm _) st1 hS2 (ItemsOf.nil _) fun s' acc c' hm hS' hacc=>?_
  rw[Moved.eq_with hm];refine hR s'.heap s'.toks dr acc c' (fun b o hb e=>hm.heap b o (fun m=>?_) (hk b o hb e)) hS' ?_
  ·rcases Qr.mp m with e'|m
   ·exact hb e'
   ·rw[Gi] at m;exact absurd (Qj e) (LI.mpr (m▸le))
  ·have yl:ys.length=es.size:=by rw[pm.length_eq,QB,QX]
   have:acc.toList=ys:=LH (by rw[QX,hacc.1,yl]) fun i a1 a2=>by have:ys[i]?=some acc.toList[i]:=hacc.2 i acc.toList[i] (by simp_all);rw[Gh a2] at this;exact(Q6 this).symm
   rw[this];exact pm
 refine Qa (Gg (Jhj (s:={ s with heap:=h',drawn:=dr }) ⟨o,old _ _ ho,hex.1⟩ ?_));refine KP (fun _=>?_) (fun _=>Qf ⟨GY GA _,key _ _ _ st (fun b o _ e=>old b o e) hS1⟩);refine Qa (Kb (Qa ?_));show wpAny _ _ (updateSeq S (·.push .none) >>= fun _=>updateSeq S (·.pop)) _ _ _;refine Qa (Ka hS1 rfl ?_);have hS2:=QP (K4 (·.push Value.none)) hS1 rfl
 refine Ka (hz:=by seq_fits) hS2 rfl ?_;have hS3:=QP (K4 (·.pop)) hS2 rfl;refine Qf ⟨GY GA _,key _ _ _ ?_ (fun b o hb e=>?_) hS3⟩
 ·refine W.frame 0 _ _ st fun b hb o e=>?_
  have bS:b≠S:=fun h=>SI (h▸hb)
  exact(QE _ _ (QL bS)).trans ((QE _ _ (QL bS)).trans e)
 grind[QE]
theorem Jc4{R:List Qc->Qe->Prop}(hh:A.handled=none)(hs:SHas s.heap d es ep t)(hf:t.fits es.size=true)(tok:TOk (YF w) t)(hz:es.size<=Qk)
 (h:∀(h':QC) (tk:Nat) (dr:Drawn) (acc:Array Qc),(∀b o,s.heap.get? b=some o->h'.get? b=some o)->s.heap.objs.size<h'.objs.size->acc.toList.Perm (es.toList.map (·.2))->R acc.toList { s with heap:=h',toks:=tk,drawn:=dr }):wpAny (model prog w) A (collect (.ref d)) R E s:=by
 obtain⟨o,ho,hex,hd⟩:=id hs;have dlt:d<s.heap.objs.size:=Qj ho;have old:∀b o,s.heap.get? b=some o->(s.heap.push { cls:=.type "list",data:=.seq ([]:List Qc).toArray }).get? b=some o:=fun b o e=>Qg _ e
 unfold collect;refine Qa (wpAny_runValue (GZ entry_proto_collect' ?_));rw[GK PySem.F.plain_proto_collect _];show wpAny _ A.in1 (newList [] >>= fun l=>again (.builtin "list.__iadd__" ⟨[l,.ref d],[]⟩)) _ _ s;refine Qa (QO (Qf ⟨GY MK _,GZ entry_list_iadd' ?_⟩));rw[GK MK _];have at0:(s.heap.push { cls:=.type "list",data:=.seq ([]:List Qc).toArray }).get? s.heap.objs.size=some { cls:=.type "list",data:=.seq #[] }:=Qh _ rfl
 have fin:∀(h':QC) (tk:Nat) (dr:Drawn) (acc:Array Qc) (c:Nat),(∀b o,s.heap.get? b=some o->h'.get? b=some o)->h'.get? s.heap.objs.size=some { cls:=.type "list",dict:=none,data:=.seq acc c,slots:=#[] }->acc.toList.Perm (es.toList.map (·.2)) ->
  wpAny (model prog w) A (load s.heap.objs.size >>= fun o=>match o.data with | .seq xs _=>pure xs.toList | _=>unsupported "internal:collect") R E { s with heap:=h',toks:=tk,drawn:=dr }:=fun h' tk dr acc c hk hS hi=>Qa (wpAny_load hS (Qf (h h' tk dr acc hk (Qj hS) hi)))
 have got:=Jd4 (prog:=prog) (A:=A) (s:={ s with heap:=s.heap.push { cls:=.type "list",data:=.seq ([]:List Qc).toArray } }) (R:=fun q s'=>∃h' tk dr acc c,q=.ok (.ret (.ref s.heap.objs.size))/\s'={ s with heap:=h',toks:=tk,drawn:=dr }/\(∀b o,s.heap.get? b=some o->h'.get? b=some o)/\h'.get? s.heap.objs.size=some { cls:=.type "list",dict:=none,data:=.seq acc c,slots:=#[] }/\acc.toList.Perm (es.toList.map (·.2)))
  hh (hs.at fun o e=>old _ o e) hf tok hz s.heap.objs.size (Q1 dlt) (.ref s.heap.objs.size) at0 (fun h' tk dr acc c hk hS hi=>⟨h',tk,dr,acc,c,rfl,rfl,fun b o e=>hk b o (Qw (Qj e)) (old b o e),hS,hi⟩)
 refine G5 got (fun f s' x=>?_) fun e s' ⟨_,_,_,_,_,z,_⟩=>nomatch z
 cases f with
 | done f=>obtain⟨h',tk,dr,acc,c,e,rfl,hk,hS,hi⟩:=x;cases e;exact fin h' tk dr acc c hk hS hi
 | again c1=>exact⟨x.1,KI x.2 fun q s2 ⟨h',tk,dr,acc,c,e1,e2,hk,hS,hi⟩=>by subst e1;subst e2;exact fin h' tk dr acc c hk hS hi⟩
end
noncomputable def fM(ns:List Int):List Int:=firstMet (fun i=>ns.getD i 0) ns.length
theorem Jjw(ns:List Int):fM ns=ns.foldl step_dedup []:=by
 unfold fM firstMet;congr 1;refine LH (by simp) fun i h1 h2=>?_
 simp_all
theorem Jcd:∀(ns acc:List Int),acc.Nodup->(ns.foldl step_dedup acc).Nodup
 | [],acc,h=>h
 | n::ns,acc,h=>by
  rw[List.foldl_cons];refine Jcd ns _ ?_;unfold step_dedup;split
  ·exact h
  ·rename_i c;refine Lv.mpr ⟨h,by simp,fun a ha b hb=>?_⟩;rw[Gi] at hb;subst hb;intro e;subst e;exact c (K6.mpr ⟨a,ha,by simp⟩)
theorem Jg8(ns:List Int):(fM ns).Nodup:=by rw[Jjw];exact Jcd ns [] List.nodup_nil
theorem JmC(ns:List Int):(fM ns).length<=ns.length:=firstMet_length_le _ _
theorem W8:∀{a b:List Int},a.Nodup->(∀x∈a,x∈b)->b.length=a.length->b.Perm a
 | [],b,_,_,h=>by simp_all
 | x::a,b,nd,sub,h=>by
  have hx:=sub x QD
  have pb:=List.perm_cons_erase hx;refine pb.trans (List.Perm.cons x ?_)
  have nd':=Gc.mp nd;refine W8 nd'.2 (fun y hy=>?_) (by simp_all)
  grind
theorem Jcp{prog:Qm}{w:Qp}:∀{l:List (Int×Qc)},ElemsOf (intKind prog w) l->∃ks:List Int,IntsAre (l.map (·.2)) ks
 | [],_=>⟨[],.nil⟩
 | e::l,h=>by obtain⟨ks,r⟩:=Jcp h.tail;obtain⟨⟨k,hk,_⟩,_⟩:=h.head;obtain⟨tk,e2⟩:=Mi (show M8 k e.2=true from hk);refine⟨k::ks,?_⟩;rw[Gx,e2];exact .cons k tk r
theorem Jcr{x:Int}:∀{vs:List Qc} {ks:List Int},IntsAre vs ks->∀v∈vs,M8 x v=true->x∈ks
 | _,_,.nil,v,h,_=>by simp at h
 | _,_,.cons n t r,v,h,e=>by
  rcases Qr.mp h with q|q
  ·grind[Mi]
  ·exact Qq _ (Jcr r v q e)
theorem JfG{a b:List Qc}(p:a.Perm b):∀{ks:List Int},IntsAre a ks->∃ks',IntsAre b ks'/\ks'.Perm ks:=by
 induction p with
 | nil=>intro ks r;exact⟨ks,r,.refl _⟩
 | cons x p ih =>
  intro ks r
  cases r with
  | cons n t r=>obtain⟨ks',r',q⟩:=ih r;exact⟨n::ks',.cons n t r',q.cons n⟩
 | swap x y l =>
  intro ks r
  cases r with
  | cons n t r=>cases r with
   | cons m u r=>exact⟨m::n::_,.cons m u (.cons n t r),List.Perm.swap _ _ _⟩
 | trans p q ih1 ih2=>intro ks r;obtain⟨k1,r1,q1⟩:=ih1 r;obtain⟨k2,r2,q2⟩:=ih2 r1;exact⟨k2,r2,q2.trans q1⟩
theorem Jiv{prog:Qm}{w:Qp}{led:Bool}{h:QC}{a:Qd}{ns:List Int}(x:SetL prog w led h a (fun k=>(fM ns).any (· == k)) (fM ns).length) :
 ∃es ep t ks,SHas h a es ep t/\t.fits es.size=true/\TOk led t/\es.size=(fM ns).length/\IntsAre (es.toList.map (·.2)) ks/\ks.Perm (fM ns):=by
 obtain⟨o,es,ep,t,z⟩:=x;obtain⟨ks,r⟩:=Jcp z.els;refine⟨es,ep,t,ks,⟨o,z.got,z.ex,z.data⟩,z.fits,z.tok,z.size,r,?_⟩;refine W8 (Jg8 ns) (fun y hy=>?_) ?_
 ·obtain⟨e,he,hi⟩:=(z.mem y).mp (K6.mpr ⟨y,hy,by simp⟩);exact Jcr r e.2 (Gb.mpr ⟨e,he,rfl⟩) hi
 ·have:=Rf r;rw[QB,QX] at this;rw[<- this,z.size]
noncomputable def Jk4(X:Cx)(l:Qd)(ns:List Int):HO:=.ext fun h=>SetL X.prog X.w (YF X.w) h l (fun k=>(fM ns).any (· == k)) (fM ns).length
noncomputable def JlR(X:Cx):List V->Hp->VK->Prop:=fun xs H Q=>∃a ns,xs=[.ref a]/\SqL X.K H a (ns.map V.int)/\ns.length+1<scanBound/\∀l,H l=none->Q (.ref l) (upd H l (Jk4 X l ns))
noncomputable def Jn3(X:Cx):List V->Hp->VK->Prop:=fun xs H Q=>∃r ns,xs=[.ref r]/\H r=some (Jk4 X r ns)/\ns.length<64/\∀l,H l=none->Q (.ref l) (upd H l (.lst ((UP (fM ns)).map V.int)))
section
variable{X:Cx}
theorem Inv.drew{pins:List (Qd×Obj)}{σ:List (Option V)}{H:Hp}{s:Qe}{d:Drawn}(I:Inv X pins σ H s):Inv X pins σ H { s with drawn:=d } :=
 ⟨I.ok,I.os,I.bare,I.base,I.loc,I.cell,I.free,I.freeC,I.pin,I.hok,I.len⟩
theorem Jfs(hc:X.calm=true):CallR X (.type "set") (JlR X):=by
 intro pins s σ H xs us Q I r h;obtain⟨a,ns,rfl,hq,hb,q⟩:=h;obtain⟨u,rfl,rx⟩:=U9 r;cases rx;obtain⟨its,r',pl,hz⟩:=I.list hq;have hh:X.A.handled=none:=I.ok.hd hc;have hi:=Yp r';have il:its.length=ns.length:=Rf hi;have hne:H s.heap.objs.size=none:=I.hok.fresh (Qn _);refine Jfr (ns:=ns) hh pl.isList hi (by simp_all) fun h' tk hS old=>?_
 have ez:its.toArray.size=ns.length:=by simp_all
 rw[ez] at hS;refine⟨.ref s.heap.objs.size,_,I.laid (t':=tk) (o:=Jk4 X s.heap.objs.size ns) old (Qn _) ⟨hS,?_,fun h1 h2 p k=>p.move k⟩,rfl,q _ hne⟩;obtain⟨o,_,_,_,z⟩:=hS;exact⟨o,z.got⟩
theorem Jdt(hc:X.calm=true):CallR X (.builtin "sorted") (Jn3 X):=by
 intro pins s σ H xs us Q I r h;obtain⟨p,ns,rfl,ds,h64,q⟩:=h;obtain⟨u,rfl,rx⟩:=U9 r;cases rx;have z:=(show ObjOk X.prog X.w H s.heap p (Jk4 X p ns) from I.hok p _ ds).1;obtain⟨es,ep,t,ks,hs,hf,tok,sz,ri,pm⟩:=Jiv z;have hh:X.A.in1.handled=none:=I.ok.hd hc;have fl:=JmC ns;have room:∀n:Nat,n<64->n<=Qk:=fun n h=>by show n<=16777216;lia
 refine Calls.call_function_entry kind_sorted plain_sorted entry_sorted (args_sorted1 _) ?_;unfold Builtin.«sorted»;refine Qa (m:=checkCount "sorted" 1 1 _) (Qf ?_);refine Qa (Jc4 hh hs hf tok (room _ (by lia)) fun h' tk dr acc hk hsz pa=>?_);obtain⟨k2,hI,p2⟩:=JfG pa.symm ri;have pk:=p2.trans pm;have hal:acc.toList.length=(fM ns).length:=by rw[Rf hI,pk.length_eq]
 refine Qa (wpAny_newList ?_ (room _ (by lia)));have hoL:(h'.push (seqObj "list" acc.toList.toArray 0)).get? h'.objs.size=some (seqObj "list" acc.toList.toArray 0):=Qh _ rfl;refine Qa (Gg (QH slot_list_sort ⟨_,hoL,rfl⟩ entry_list_sort (list_sort_tree hoL hI (by lia) fun out ns' a1 a2 a3=>⟨_,rfl,?_⟩) (args_list_sort _)));refine Qf ⟨_,rfl,?_⟩;have e0:ns'=UP (fM ns):=WZ ((a2.trans pk).trans (U5 _).symm) a3 (Jc9 _)
 subst e0;obtain⟨e,he⟩:=sortedHeap_at (out:=out) hoL;have hle:s.heap.objs.size<=h'.objs.size:=Gk hsz;have hne:H h'.objs.size=none:=I.hok.fresh hle;have hn:((UP (fM ns)).map V.int).length<=Qk:=by rw[QB,(U5 _).length_eq];exact room _ (by lia)
 refine⟨.ref h'.objs.size,_,(I.drew (d:=dr)).laid (t':=tk) (fun b o x=>?_) hle (show ObjOk X.prog X.w _ _ _ (.lst ((UP (fM ns)).map V.int)) from⟨hn,out.toList,e,Y9 a1,?_⟩),rfl,q _ hne⟩
 ·have hx:=hk b o x
  have hlt:b<h'.objs.size:=Qj hx;rw[sortedHeap_old (Qw hlt) (by rw[size_push'];exact G7 hlt)];exact Qg _ hx
 ·rw[he]
noncomputable def tUp(te:TE):TE:=fun σ H Q=>∃A:VK,te σ H A/\∀x H1,A x H1->Q x H1
theorem Jp0{e:QV}{te:TE}(h:PE X e te):PE X e (tUp te):=by intro pins s σ H Q I ⟨A,h1,h2⟩;exact thE (h pins s σ H A I h1) fun v s1 x H1 I1 r1 a=>⟨x,H1,I1,r1,h2 x H1 a⟩
theorem PE.imp{e:QV}{t1 t2:TE}(h:PE X e t1)(i:∀σ H Q,t2 σ H Q->t1 σ H Q):PE X e t2:=fun pins s σ H Q I x=>h pins s σ H Q I (i σ H Q x)
end
noncomputable def JiH(K:Qo)(te:TE):TE:=fun σ H Q=>te σ H fun x H1=>∃a ns,x=.ref a/\SqL K H1 a (ns.map V.int)/\ns.length<64/\∀l o l',H1 l=none->upd H1 l o l'=none->Q (.ref l') (upd (upd H1 l o) l' (.lst ((UP (fM ns)).map V.int)))
section
variable{X:Cx}{e:QV}{te:TE}{p1 p2 q1 q2:Pos}
theorem JnL(hc:X.calm=true)(hg:Gl X "set")(hm:X.mg "set"=none)(he:PE X e te)(h1:starEach [e] X.env=(false,eval e X.env)::starEach [] X.env:=by rfl):PE X (.Call (.Name "set" p1) [e] [] q1) (tCB (JlR X) (Yf (tUp te) YZ)) :=
 Yr (Jfs hc) hg hm (by rfl) (Ja (Jp0 he) Jc h1) (he:=h1)
theorem JcU{K:Qo}(hK:X.K=K)(hc:X.calm=true)(hg:Gl X "sorted")(hm:X.mg "sorted"=none)(hg2:Gl X "set")(hm2:X.mg "set"=none)(he:PE X e te)(h1:starEach [e] X.env=(false,eval e X.env)::starEach [] X.env:=by rfl)
 (h2:starEach [Expr.Call (.Name "set" p1) [e] [] q1] X.env=(false,eval (.Call (.Name "set" p1) [e] [] q1) X.env)::starEach [] X.env:=by rfl):PE X (.Call (.Name "sorted" p2) [.Call (.Name "set" p1) [e] [] q1] [] q2) (JiH K te):=by
 subst hK;refine PE.imp (Jm (Jdt hc) hg hm (by rfl) (Ja (JnL hc hg2 hm2 he h1) Jc h2) (he:=h2)) fun σ H Q h=>⟨_,h,?_⟩
 rintro x H1 ⟨a,ns,rfl,hq,h64,q⟩;exact⟨a,ns,rfl,hq,by show ns.length+1<4096;exact GB ‹_› (by decide),fun l hl=>⟨l,ns,rfl,Jl,h64,fun l' hl'=>q l _ l' hl hl'⟩⟩
end
end L2

namespace LE
open PySem L2 LR
noncomputable def Jbn(a:Ev):Ev:=fun E=>(a E).bind fun s=>s.r.bind fun ds=>(ints? ds).bind fun ns=>if ns.length<64 then some (.own ((UP (fM ns)).map .int)) else none
section
variable{K:Qo}{C:Qd}{td:TE}{ed:Ev}
theorem JkZ(ha:SE K C td ed):SE K C (JiH K td) (Jbn ed):=by
 intro B H0 H σ E r Q I e q;obtain⟨s,e1,e⟩:=bind_some e;obtain⟨ds,e2,e⟩:=bind_some e;obtain⟨ns,e3,e⟩:=bind_some e;split at e
 ·next h64 =>
  cases e;refine ha B H0 H σ E s _ I e1 fun x H1 H1' s1 r1=>?_
  obtain⟨l,ys,rfl,h,r2⟩:=r1.r s1.i e2;rw[YK e3] at r2;have:=r2.ints;subst this;refine⟨l,ns,rfl,h,h64,fun w o l' hw hl'=>?_⟩;have st:Step H1' H1 H1' H1 (upd H1' w o):=⟨.new hw,Same.refl _,fun _ _ e=>.inl e,s1.i.trans (.new hw)⟩
  have s2:=s1.trans st;exact YN s2.i s2.h hl' (JcY _) fun v H2 H2' s3 r3=>q v H2 H2' (s2.comp s3 fun _ y=>y) r3
 ·cases e
end
end LE

namespace L2
open PySem PyProof.Rows PySem.W PySem.Spec
section
variable{X:Cx}
end
end L2
namespace LE
open PySem L2 LR
section
variable{K:Qo}{C:Qd}
end
end LE

namespace L2
open PySem PyProof.Rows PySem.W PySem.Spec
noncomputable def Jgw(i j:Int):Prop:=0<j/\j.natAbs<=10 ^ 200
theorem Jht{j:Int}(h:j.natAbs<=10 ^ 200):j.natAbs.log2<9000:=by
 by_cases h0:j.natAbs=0
 ·rw[h0];decide +kernel
 ·have h1:j.natAbs.log2<1000:=by rw[Nat.log2_lt h0];exact GB h (by decide +kernel)
  exact QJ ‹_› (by decide)
theorem JhI{X:Cx}:OpR X (binaryOp .FloorDiv) (rI Jgw fun i j=>.int (i / j)):=opI fun i j _ _ _ _ _ hc q=>by have h1:(0:Int)<j:=hc.1;exact floordiv_int (by lia) (by rw[Kk i (by exact Lo ‹_›)];exact q) (.inl (Mv (Jht hc.2)))
end L2
namespace LE
open PySem L2 LR
noncomputable abbrev Jg6:=fIc (fun _ b=>decide (0<b) && Ye b) fun a b=>.int (a / b)
section
variable{K:Qo}{C:Qd}
theorem Jnh:OpS K C (rI Jgw fun i j=>.int (i / j)) Jg6:=JdN (fun i j h=>by simp only[QU,Ye,G8,decide_eq_true_eq] at h;exact h) fun _ _ _=>.int _
end
theorem Jg7{a b:Int}(h:0<b/\b.natAbs<=10 ^ 200):Jg6 (.sh (.int a)) (.sh (.int b))=some (.sh (.int (a / b))):=by show(if (decide (0<b) && Ye b)=true then _ else _)=_;rw[if_pos];rw[QU];exact⟨decide_eq_true h.1,G8.mpr h.2⟩
end LE

namespace L2
open PySem PyProof.Rows PySem.W PySem.Spec
section
variable{prog:Qm}{w:Qp}{A:Qx}{E:Qc->Qe->Prop}{s:Qe}
end
section
variable{prog:Qm}{w:Qp}{A:Qx}{R:L9->Qe->Prop}{I:Qd}{fp wr:List Qd}{G:Array GenState->Array GenState->Prop}{n:Nat}{P:Nat->Qc->Prop}{St:Nat->Qe->Prop}
end
section
variable{prog:Qm}{w:Qp}{A:Qx}{E:Qc->Qe->Prop}{s:Qe}
end
end L2

namespace L2
open PySem PyProof.Rows PySem.W PySem.Spec
end L2
namespace LE
open PySem L2 LR
noncomputable def prs?:List D->Option (List PrI)
 | []=>some []
 | .tup [.int a,.int b]::r=>(prs? r).map ((a,b)::·)
 | _=>none
theorem JeM:∀ps:List PrI,prs? (ps.map prE)=some ps
 | []=>rfl
 | p::ps=>by show(prs? (ps.map prE)).map _=_;rw[JeM ps];rfl
section
variable{K:Qo}{C:Qd}{td:TE}{ed:Ev}
end
end LE

namespace LE
open PySem L2 LR
noncomputable def ifB(f:Sl->Sl->Option Sl)(d:D)(ew:Ev)(a b:Es):Es:=fun E=>((ew E).bind fun s=>(f (.sh d) s).bind bool?).bind fun k=>if k=true then a E else b E
section
variable{K:Qo}{C:Qd}{r:R2}{f:Sl->Sl->Option Sl}{j:Nat}{ty tx tw:TE}{ek ev ew:Ev}{t u:TS}{et eu:Es}
end
end LE

namespace LE
open PySem L2 LR
section
variable{K:Qo}{C:Qd}{Hs H0 H:Hp}{td tx:TE}{ed ex:Ev}
end
end LE

namespace L2
open PySem PySem.Spec PyProof.Rows
noncomputable def JpF:TIp:=fun x y H Q=>∃i j,x=.int i/\y=.int j/\Jgx i j/\Q (.int (i*j)) H
theorem JjK{X:Cx}:PIp X .Mult JpF:=by intro pins s σ H x y v u Q I r1 r2 h;obtain⟨i,j,e1,e2,hc,q⟩:=h;subst e1;subst e2;obtain⟨t,rfl⟩:=r1;obtain⟨t',rfl⟩:=r2;exact imul_int ⟨.int _,H,I.tok _,⟨_,rfl⟩,q⟩ (Ry (Zj hc.1) (Zj hc.2))
end L2
namespace LE
open PySem L2 LR
noncomputable def Jfc(i:Nat)(a:Ev):Es:=fun E=>match E[i]? with
 | some (.sh (.int x))=>(a E).bind fun s=>match s with
  | .sh (.int y)=>if (Ye x && Ye y)=true then some (.nx (E.set i (.sh (.int (x*y))))) else none
  | _=>none
 | _=>none
section
variable{K:Qo}{C:Qd}{te:TE}{ea:Ev}
theorem JoU{i:Nat}(ha:SE K C te ea):SS K C (Jld i te JpF) (Jfc i ea):=by
 intro B H0 H σ E o D I e f;unfold Jfc at e;split at e
 ·next x h =>
  obtain⟨s,e1,e⟩:=bind_some e;split at e
  ·split at e
   ·next hb =>
    cases e;simp only[QU,Ye,G8] at hb;rcases I.at' i _ h with z|⟨v,h1,h2⟩
    ·cases z
    ·have hi:i<E.length:=(Qi.mp h).1;refine⟨v,h1,ha B H0 H σ E _ _ I e1 fun w H1 H1' s1 r1=>⟨_,_,RD.intI h2,RD.intI r1,hb,f _ _ _ (s1.ss I.b) ((I.step s1).setSh hi (.int _))⟩⟩
   ·cases e
  ·cases e
 ·cases e
end
theorem Jj1{x y:Int}{α:Type}{r:α}(h:x.natAbs<=10 ^ 200/\y.natAbs<=10 ^ 200):(if (Ye x && Ye y)=true then some r else none)=some r:=by rw[if_pos];simp only[QU,Ye,G8];exact h
end LE

namespace LE
open PySem L2 LR
end LE

namespace L2
open PySem PySem.Spec PyProof.Rows
section
variable{X:Cx}{pos:Pos}
theorem pgN(i:Nat){x:Str}(hN:X.N.Nodup)(hi:X.N[i]?=some x:=by rfl)(hx:Loc X.env.scope x:=by exact Or.inl rfl)(hf:X.fn x=true\/X.env.scope.names.lookup x=some .local:=by exact Or.inr rfl):PG X (.Name x pos) (YS i):=Jr hN hi hx hf
theorem psN(i:Nat){x:Str}{e:QV}{te:TE}{pos':Pos}(hN:X.N.Nodup)(he:PE X e te)(hi:X.N[i]?=some x:=by rfl)(hx:Loc X.env.scope x:=by exact Or.inl rfl)(hs:swapsWith e (some (.Name x pos')) pos.line X.env=pure false:=by rfl)(hf:X.fn x=true\/X.env.scope.names.lookup x=some .local:=by first|exact .inl rfl|exact .inr rfl|assumption):PS X (.Assign [.Name x pos'] e pos) (Zh te (YS i)):=JbQ hN hi hx he hs hf
theorem pxK(K:Qo){a b:QV}{ta tb:TE}(ha:PE X a ta)(hb:PE X b tb)(hK:X.K=K:=by rfl)(hs:Jek b:=by exact fun _ _=>rfl):PE X (.Subscript a b pos) (tOp (rIx K) ta tb):=JpZ (JjN hK) ha hb hs
theorem piK(K:Qo){tg l:QV}{tl:TE}(hl:PE X l tl)(hK:X.K=K:=by rfl):PI X tg l (Jco K tl):=Jkn hK hl
theorem hrM{j k:Nat}{A:Qx}(r:Room k A)(h:j<=k:=by decide):Room j A:=r.mono h
end
end L2
namespace LE
open PySem PyProof.Rows L2 LR
section
variable{P:Qm}{w:Qp}{K:Qo}{mg:Str->Option Qc}{base:QC}{x y q:Str}{st:Gs}{f:Qd}{fd:Qt}{k:Nat}{ps:List Str}{sp:Sp}
end
section
variable{P:Qm}{w:Qp}{K:Qo}{C:Qd}{mg:Str->Option Qc}{base:QC}{x qual:Str}{st:Gs}{f:Qd}{fd:Qt}{N ps:List Str}{k n:Nat}{b:Es}
theorem okE(F:Fun K x qual st f fd)(S:FnScope N ps (Ji st))(hn:n=ps.length)
 (hb:∀(cdv:Qc) (A:Qx) (outer:List Env) (s:Qe) (H:Hp) (E:XK),Room k (A.deeper (envOfC qual (Ji st) s.heap.objs.size f cdv))->(A.deeper (envOfC qual (Ji st) s.heap.objs.size f cdv)).units+64<cLine ->
  ∃t,PSs (Jay CX0 P w K mg base N qual (Ji st) f cdv A outer s H E).nox (YM st) t/\SS K C t b):FnOk P w K mg base CX0 (k+1) f fd ps (spE K C n (JZ N.length b)) :=
 F.ok S (fun vs H Q E h=>(Jlb h).trans hn) fun cdv A outer s H vs Q E hr h=>(hb cdv A outer s H E hr hr.units).elim fun t q=>⟨t,q.1,Jeu q.2 h⟩
end
end LE

namespace L2
open PySem PySem.Spec PyProof.Rows
noncomputable def JpE:TIp:=fun x y H Q=>∃i j,x=.int i/\y=.int j/\Jgw i j/\Q (.int (i / j)) H
theorem JjJ{X:Cx}:PIp X .FloorDiv JpE:=by intro pins s σ H x y v u Q I r1 r2 h;obtain⟨i,j,e1,e2,hc,q⟩:=h;subst e1;subst e2;obtain⟨t,rfl⟩:=r1;obtain⟨t',rfl⟩:=r2;have h1:(0:Int)<j:=hc.1;exact ifloordiv_int (by lia) (by rw[Kk i (by exact Lo ‹_›)];exact⟨.int _,H,I.tok _,⟨_,rfl⟩,q⟩) (.inl (Mv (Jht hc.2)))
end L2
namespace LE
open PySem L2 LR
noncomputable def Jfb(i:Nat)(a:Ev):Es:=fun E=>match E[i]? with
 | some (.sh (.int x))=>(a E).bind fun s=>match s with
  | .sh (.int y)=>if (decide (0<y) && Ye y)=true then some (.nx (E.set i (.sh (.int (x / y))))) else none
  | _=>none
 | _=>none
section
variable{K:Qo}{C:Qd}{te:TE}{ea:Ev}
theorem JoQ{i:Nat}(ha:SE K C te ea):SS K C (Jld i te JpE) (Jfb i ea):=by
 intro B H0 H σ E o D I e f;unfold Jfb at e;split at e
 ·next x h =>
  obtain⟨s,e1,e⟩:=bind_some e;split at e
  ·split at e
   ·next hb =>
    cases e;simp only[QU,Ye,G8,decide_eq_true_eq] at hb;rcases I.at' i _ h with z|⟨v,h1,h2⟩
    ·cases z
    ·have hi:i<E.length:=(Qi.mp h).1;refine⟨v,h1,ha B H0 H σ E _ _ I e1 fun w H1 H1' s1 r1=>⟨_,_,RD.intI h2,RD.intI r1,hb,f _ _ _ (s1.ss I.b) ((I.step s1).setSh hi (.int _))⟩⟩
   ·cases e
  ·cases e
 ·cases e
end
theorem Ji9{y:Int}{α:Type}{r:α}(h:0<y/\y.natAbs<=10 ^ 200):(if (decide (0<y) && Ye y)=true then some r else none)=some r:=by rw[if_pos];simp only[QU,Ye,G8,decide_eq_true_eq];exact h
end LE

namespace L2
open PySem PySem.Spec PyProof.Rows
end L2
namespace LE
open PySem L2 LR
section
variable{K:Qo}{C:Qd}{td:TE}{ed:Ev}
end
end LE

namespace LE
open PySem L2 LR
section
variable{K:Qo}{C:Qd}{W:XK}{t:TS}{a b:Xv}
theorem JoW(h1:SXS K C W t a)(h2:SXS K C W t b):SXS K C W t (Jms a b):=by
 intro B H0 H σ E m D I e q;unfold Jms at e;split at e
 ·next m' hm=>cases e;exact h1 B H0 H σ E _ D I hm q
 ·exact h2 B H0 H σ E m D I e q
end
end LE

namespace L2
open PySem PySem.Spec PyProof.Rows PySem.Calls Builtin Builtin.ObjectAttr
section
variable{prog:Qm}{w:Qp}{A:Qx}{E:Qc->Qe->Prop}{h:QC}{g:Array GenState}{d:Drawn}{t:Nat}{os:OsState}
variable{nm q:Str}{C N:Qd}{bs bm bmB:List Qc}{hdct:Bool}{sn:List Str}{sub:List Qc}{ab:Bool}{col:Option Bool}{dd:Option Qd}{k0 k1 k2 k3 k5:Option Qc}{B Bn newId nid initId inN:String}{bmN:List Qc}
end
end L2
namespace L2
open PySem PySem.Spec PyProof.Rows PySem.Calls Builtin Builtin.ObjectAttr
noncomputable abbrev VEt:List Qc:=[.type "ValueError",.type "Exception",.type "BaseException",.type "object"]
noncomputable def JmU:Qc->Bool
 | .ref _=>true
 | _=>false
noncomputable def JpX(K:Qo)(C:Qd):Bool:=(clsIn K C).any fun cd=>cd.mro.dropWhile JmU == VEt && cd.hasDict
section
variable{prog:Qm}{w:Qp}{A:Qx}{R:L9->Qe->Prop}{s:Qe}{K:Qo}{x C:Qd}{ox:Obj}{name:Str}{tk:Tok}{v:Qc}
end
end L2
namespace L2
open PySem PySem.Spec PyProof.Rows PySem.Calls Builtin Builtin.ObjectAttr
section
variable{prog:Qm}{w:Qp}{A:Qx}{E:Qc->Qe->Prop}{s:Qe}{K:Qo}{x C:Qd}{ox:Obj}{name:Str}{v:Qc}
end
section
variable{M:Model}{A:Qx}{E:Qc->Qe->Prop}{s:Qe}{env:Env}
variable{nm q:Str}{C N:Qd}{bs bm bmB:List Qc}{hdct:Bool}{sn:List Str}{sub:List Qc}{ab:Bool}{col:Option Bool}{dd:Option Qd}{k0 k1 k2 k3 k5:Option Qc}{B Bn newId nid initId inN:String}{bmN:List Qc}
end
section
variable{prog:Qm}{w:Qp}{A:Qx}{E:Qc->Qe->Prop}{s:Qe}{env:Env}
variable{nm q:Str}{C N:Qd}{bs bm bmB:List Qc}{hdct:Bool}{sn:List Str}{sub:List Qc}{ab:Bool}{col:Option Bool}{dd:Option Qd}{k0 k1 k2 k3 k5:Option Qc}{B Bn newId nid initId inN:String}{bmN:List Qc}
end
end L2

namespace L2
open PySem PySem.Spec PyProof.Rows PySem.Calls LE
noncomputable def Jpk(K:Qo)(C f:Qd):Bool:=match K.lookup C with
 | some ⟨.type "type",_,.cls cd,sl⟩=>(match cd.mro,sl.toList with
  | .ref C'::bm,[_,_,_,_,some (.builtin n),_]=>C' == C && n == "ValueError.__new__" && !cd.hasDel && PySem.W.tailIn K VEm bm && PySem.W.nsOkIn K cd.ns && nsIn K cd.ns "__init__" == some (some (.ref f))
  | _,_=>false)
 | _=>false
noncomputable def XN(a C:Qd)(d:Option Qd):HO:=.ext fun h=>∃o t0,h.get? a=some o/\o.cls=.ref C/\o.dict=d/\o.data=.fields #[.ref t0,.none,.none,.none,.bool false,.none]
noncomputable def Jqw(C:Qd):Sp:=fun vs H Q _=>∃a k,vs=[.ref a,.int k]/\k.natAbs.log2<1920/\H a=some (XN a C none)/\∀D,D≠a->H D=none->Q .non (upd (upd H a (XN a C (some D))) D (.xd [("at",.int k)]))
section
variable{X:Cx}
end
end L2
namespace L2
open PySem PySem.Spec PyProof.Rows PySem.Calls LE
structure IniC (K:Qo) (C f B:Qd):Prop where
 ok:Jpk K C f=true
 fn:isFn K (.ref f)=true
 ov:JpX K C=true
 mo:mroIn K C (.type "object")=some true
 tk:takerIn K C "at"=some none
 sa:findIn K (.ref C) "__setattr__"=some (some (.builtin "object.__setattr__"))
 rd:PySem.W.readsIn K B (.type "type")=true
 fc:PySem.W.findCls K (.ref B) (.type "type") "__init__"=some (.val (.builtin "ValueError.__init__"))
 ga:specialIn K (.ref B) "__getattribute__"=some (some (.builtin "type.__getattribute__"))
section
variable{X:Cx}{C f B:Qd}
end
end L2

namespace L2
open PySem PySem.Spec PyProof.Rows PySem.Calls LE
section
variable{X:Cx}{pins:List (Qd×Obj)}{σ:St}{H:Hp}{s:Qe}{C e:Qd}{h':QC}{args:List Qc}
end
section
variable{X:Cx}{x:Str}{np cpos pos:Pos}{C f B:Qd}{fd:Qt}{E:XK}{e:QV}{te:TE}{k:Nat}{ps:List Str}
end
end L2

namespace L2
open PySem PySem.Spec PyProof.Rows PySem.Calls LE
structure AtA (K:Qo) (c:Qd):Prop where
 ga:findIn K (.ref c) "__getattribute__"=some (some (.builtin "BaseException.__getattribute__"))
 gn:findIn K (.ref c) "__getattr__"=some none
 mb:mroIn K c (.type "BaseException")=some true
 hd:hasDictIn K c=true
 fa:findIn K (.ref c) "at"=some none
section
variable{X:Cx}{e:QV}{te:TE}{pos:Pos}{K:Qo}
end
structure RaiF (P:Qm) (w:Qp) (K:Qo) (mg:Str->Option Qc) (base:QC) (x:Str) (C:Qd) (k:Nat):Prop where
 ex:∃(f B:Qd) (fd:Qt) (ps:List Str),IniC K C f B/\FnOk P w K mg base CX0 k f fd ps (Jqw C)/\Binds K fd ps []/\mg x=some (.ref C)
end L2
namespace LE
open PySem L2 LR
section
variable{K:Qo}{C:Qd}{te:TE}{ea:Ev}{W:XK}
end
end LE

namespace PySem
end PySem
namespace L2
open PySem PySem.Spec PyProof.Rows
end L2
namespace LE
open PySem L2 LR
section
variable{K:Qo}{C:Qd}{m:Bool}
end
end LE

namespace L2
open PySem PySem.Spec PyProof.Rows PySem.Calls LE
end L2
namespace LE
open PySem L2 LR
end LE

namespace L2
open PySem PySem.Spec PyProof.Rows
section
variable{X:Cx}{tg:QV}
end
end L2
namespace LE
open PySem L2 LR
end LE

namespace L2
open PySem PySem.W PyProof.Rows
noncomputable def ltG(g:Nat->Int)(i j:Nat):Bool:=if g i=g j then decide (i<j) else decide (g j<g i)
structure Fall (g:Nat->Int) (N c n:Nat) (p:Array Nat):Prop where
 pm:p.toList.Perm (GS N)
 cn:c<n
 nN:n<=N
 ds:Dsc (ltG g) p c
 fx:∀i,c<=i->i<N->p.getD i 0=i
 gr:∀i,c<=i->i<n->g i=g c
 lo:∀i,i<c->g (p.getD i 0)<g c
theorem JkP{p:Array Nat}{N i j:Nat}(hz:p.size=N)(hj:j<=N)(k:Nat):(kas_rev p i j).getD k 0=if i<=k/\k<j then p.getD (j-1-(k-i)) 0 else p.getD k 0:=by
 rw[K1];unfold kas_rev;rw[getElem?_mirror_all (by simp[*]) k];split
 ·rw[K1];congr 2;lia
 ·rw[K1]
section
variable{N:Nat}{g:Nat->Int}{cmp:Nat->Nat->(Bool->Qe->Prop)->Qe->Prop}{I:Qe->Prop}
theorem Fall.turn{c n:Nat}{p:Array Nat}(F:Fall g N c n p):Dsc (ltG g) (kas_rev p c n) n/\(kas_rev p c n).toList.Perm (GS N)/\(∀i,n<=i->i<N->(kas_rev p c n).getD i 0=i)/\∀i,i<n->g ((kas_rev p c n).getD i 0)<=g c:=by
 have P:=Pm.of F.pm
 have rg:=JkP (i:=c) P.size F.nN
 have low:∀a,a<c->(kas_rev p c n).getD a 0=p.getD a 0:=fun a h=>by rw[rg,if_neg (by lia)]
 have hig:∀a,c<=a->a<n->(kas_rev p c n).getD a 0=n-1-(a-c):=fun a h1 h2=>by rw[rg,if_pos ⟨h1,h2⟩];exact F.fx _ (by omega) (by have:=F.nN;omega)
 have ghi:∀a,c<=a->a<n->g ((kas_rev p c n).getD a 0)=g c:=fun a h1 h2=>by rw[hig a h1 h2];exact F.gr _ (by omega) (by omega)
 refine⟨fun a b ab hb=>?_,JhS F.pm c n,fun i h1 h2=>?_,fun i hi=>?_⟩
 ·by_cases h1:b<c
  ·rw[low a (by lia),low b h1];exact F.ds a b ab h1
  ·by_cases h2:a<c
   ·have e:=ghi b (by simp_all) hb
    have l:=F.lo a h2;rw[low a h2];unfold ltG;rw[if_neg (by omega),decide_eq_true_iff];omega
   ·unfold ltG;rw[ghi a (by simp_all) (by lia),ghi b (by simp_all) hb,if_pos rfl,hig a (by simp_all) (by lia),hig b (by simp_all) hb,decide_eq_true_iff];omega
 ·rw[rg,if_neg (by simp[*])];exact F.fx i (by have:=F.cn;lia) h2
 ·by_cases h:i<c
  ·rw[low i h];have:=F.lo i h;exact Lo ‹_›
  ·rw[ghi i (by simp_all) hi];exact Int.le_refl _
end
end L2

namespace L2
open PySem PySem.W PyProof.Rows
section
variable{prog:Qm}{w:Qp}{A:Qx}{E:Qc->Qe->Prop}
structure Keeps (n0:Nat) (Ok:Qe->Prop):Prop where
 up:∀(s:Qe) (h':QC) (b:Qd),Ok s->n0<=b->Qu b s.heap h'->Ok { s with heap:=h' }
 psh:∀(s:Qe) (o:Obj),Ok s->Ok { s with heap:=s.heap.push o }
noncomputable def KsAre(kz:Nat->Int)(ks:List Qc):Prop:=∀(j:Nat) (k:Qc),ks[j]?=some k->∃t,k=.int (kz j) t
theorem KsAre.snoc{kz:Nat->Int}{ks:List Qc}{t:Tok}(h:KsAre kz ks):KsAre kz (ks++[.int (kz ks.length) t]):=fun j k e=>by
 by_cases c:j<ks.length
 ·rw[QA c] at e;exact h j k e
 ·by_cases c2:j=ks.length
  ·subst c2;rw[Q2 (Qn _),Nat.sub_self] at e;cases e;exact⟨t,rfl⟩
  ·rw[KW (by rw[Lk,LA];lia)] at e;cases e
variable{n0:Nat}{Ok:Qe->Prop}{f:Qc}{vs:List Qc}{kz:Nat->Int}{a kS:Qd}
end
end L2

namespace L2
open PySem PySem.W PySem.Calls PyProof.Rows
section
variable{prog:Qm}{w:Qp}{A:Qx}{E:Qc->Qe->Prop}
end
end L2

namespace L2
open PySem PySem.Spec PyProof.Rows
end L2

namespace L2
open PySem PySem.Spec PyProof.Rows
structure Srt (X:Cx) (H:Hp) (s s3:Qe):Prop where
 os:s3.os=s.os
 bare:AllBare s3.gens
 un:Un (frs X.stack) [] H H s.heap s3.heap
 hok:HOk X.prog X.w H s3.heap
theorem Srt.keeps{X:Cx}{H:Hp}{s:Qe}(fr:∀b,s.heap.objs.size<=b->H b=none):Keeps s.heap.objs.size (Srt X H s) where
 up:=fun s3 h' b S hb sb=>by
  have low:∀(c:Qd) (o:Obj),s.heap.get? c=some o->c≠b:=fun c o e=>Qw (QN (Qj e) hb)
  have lowH:∀(c:Qd) (u:HO),H c=some u->c≠b:=fun c u e z=>by rw[z,fr b hb] at e;cases e
  refine⟨S.os,S.bare,⟨fun c o e n h1 h2=>(sb.2 c (low c o e)).trans (S.un.keep c o e n h1 h2),fun c o e n h1 h2=>?_,S.un.free,fun c o e h2=>?_,S.un.tups,S.un.frzs,S.un.tbls⟩,fun c u e=>?_⟩
  ·obtain⟨sl,e1⟩:=S.un.slot c o e n h1 h2;exact⟨sl,(sb.2 c (low c o e)).trans e1⟩
  ·obtain⟨o',e1⟩:=S.un.there c o e h2;exact⟨o',(sb.2 c (low c o e)).trans e1⟩
  ·refine(S.hok c u e).stay (fun d v hd r=>(sb.2 d ?_).trans r) (fun _ r=>r) fun _ _ r=>r
   rcases hd with rfl|hd
   ·exact lowH _ _ e
   ·exact lowH _ _ hd
 psh:=fun s3 o S=>⟨S.os,S.bare,S.un.trans (Un.kept fun b u e=>Qg _ e),S.hok.kept fun b u e=>Qg _ e⟩
section
variable{X:Cx}{pins:List (Qd×Obj)}{σ:St}{H:Hp}{s:Qe}{f P y:Qd}{name qual:Str}{params:Arguments}{body:QV}{scope:LX}{pm ctv:Qc}{l c:Nat}{N ps:List Str}{t:TE}{Q:VK}
end
end L2

namespace L2
open PySem PySem.Spec PyProof.Rows LE
noncomputable def Grow(P:Qd)(H1 H2:Hp):Prop:=H2=H1\/∃y,H1 y=none/\H2=upd H1 y (.own P)
theorem Grow.seqT{K:Qo}{P b:Qd}{H1 H2:Hp}{xs:List V}(g:Grow P H1 H2)(h:SqT K H1 b xs):SqT K H2 b xs:=by
 rcases g with rfl|⟨y,n,rfl⟩
 ·exact h
 ·have up:∀u,H1 b=some u->upd H1 y (.own P) b=some u:=fun u e=>by rw[Jf (Jp e n)];exact e
  rcases h with (e|⟨o,e⟩)|h
  ·exact .inl (.inl (up _ e))
  ·exact .inl (.inr ⟨o,up _ e⟩)
  ·exact .inr h
section
variable{X:Cx}{e:QV}{t:TA}{v:Str}{k:Nat}{p pos kpos lpos p1 p2 p3 p4 p5:Pos}{P c:Qd}
end
end L2

namespace LE
open PySem L2 LR
section
variable{K:Qo}{C:Qd}{t:TA}{ev:En->Option (List Sl)}
end
end LE

namespace LE
open PySem L2
end LE
namespace L2
open PySem PySem.Spec PyProof.Rows LE
end L2
namespace LE
open PySem PySem.Spec PyProof.Rows L2 LR
section
variable{P:Qm}{w:Qp}{K:Qo}{mg:Str->Option Qc}{base:QC}{C:Qd}{x qual:Str}{st:Gs}{f:Qd}{fd:Qt}{N ps:List Str}{k n l c:Nat}{b:Es}
end
end LE
namespace L2
open PySem PySem.Spec PyProof.Rows LE
end L2

namespace LE
open PySem L2 LR
section
variable{K:Qo}{C:Qd}{B H0 H H0' H':Hp}{σ σ':St}{E E':En}{i j c m:Nat}{ks:List Int}{dss:List (List D)}{l a:Qd}{ls:List Qd}{ds:List D}
theorem Grp.more(g:Grp K C B H0 H σ E j c ks dss l ls):Grp K C B H0 H σ E j (c+1) ks dss l ls :=
 ⟨g.at',g.dict,g.l0,g.lb,g.len,g.len2,Mn g.cnt,fun m a ds e1 e2=>(g.lists m a ds e1 e2).imp Mn id,g.nd,g.own⟩
end
end LE

namespace LE
open PySem L2 LR
structure DkK (K:Qo) (CD:Qd):Prop where
 ns:nsIn K mainGlobals "Desk"=some (some (.ref CD))
 cl:Cls K CD
 na:NoAttr K CD "trail"
noncomputable def dw?:Sl->Option (Option Qd×List D)
 | .dw k ds=>some (k,ds)
 | _=>none
theorem Jpi{k:Option Qd}{ds:List D}:dw? (.dw k ds)=some (k,ds):=rfl
structure DStep (K:Qo) (C x:Qd) (H0 H:Hp) (ds:List D) (H0' H':Hp):Prop where
 k:∀a o,a≠x->H a=some o->H' a=some o
 z:Same H0 H0'
 n:∀a o,H0' a=some o->H0 a=some o\/H a=none\/isT o=true
 i:Same H0' H'
 d:∃xs,H' x=some (deO xs)/\H0' x=none/\DkC K none x xs/\RD K C H0' xs.2.2 (.lst ds)
section
variable{K:Qo}{C CD:Qd}{B Hs H0 H H0' H':Hp}{σ:St}{E:En}{ta te:TE}{ea:Ev}{t:TA}{ev:En->Option (List Sl)}
theorem DkK.eq(T:DkK K CD){a:Option Qd}{l:Qd}{xs:Qd×Qd×V}(h:DkC K a l xs):xs.1=CD:=by have:=h.1.symm.trans T.ns;cases this;rfl
theorem DkC.any{a:Option Qd}{l:Qd}{xs:Qd×Qd×V}(h:DkC K a l xs):DkC K none l xs:=⟨h.1,.inl rfl⟩
end
end LE

namespace L2
open PySem PySem.Spec PyProof.Rows
structure CalD (P:Qm) (w:Qp) (K:Qo) (mg:Str->Option Qc) (base:QC) (C:Qd) (m:Str) (k:Nat) (ps:List Str) (sp:Sp):Prop where
 ex:∃f fd,FnOk P w K mg base CX0 k f fd ps sp/\Meth K C m f/\Binds K fd ps []
section
variable{X:Cx}{C:Qd}{m:Str}{k:Nat}{ps:List Str}{sp:Sp}{o e:QV}{es:List QV}{ta:TE}{t:TA}{apos pos:Pos}
end
end L2
namespace LE
open PySem L2 LR
section
variable{K:Qo}{C CD:Qd}{B Hs H0 H H0' H':Hp}{σ:St}{E:En}{ta te:TE}{ea:Ev}{t:TA}{ev:En->Option (List Sl)}
end
end LE

namespace LE
open PySem L2 LR
section
variable(K:Qo)(C:Qd)
end
noncomputable def JpC(a:Ev):En->Option (D×En):=fun E=>(a E).bind fun s=>s.frz.bind fun d=>some (d,E)
noncomputable def JpD(b:Es)(f:En->Option (D×En)):En->Option (D×En):=fun E=>(b E).bind fun o=>match o with
 | .nx E'=>f E'
 | _=>none
noncomputable def txP(c:En->Option Bool):En->Option (Bool×En):=fun E=>(c E).bind fun b=>some (b,E)
noncomputable def JrS(f:En->Option (Bool×En)):En->Option (Bool×En):=fun E=>(f E).bind fun p=>some (!p.1,p.2)
noncomputable def JsG(f g:En->Option (Bool×En)):En->Option (Bool×En):=fun E=>(f E).bind fun p=>if p.1=true then some (true,p.2) else g p.2
noncomputable def JrR(f g:En->Option (Bool×En)):En->Option (Bool×En):=fun E=>(f E).bind fun p=>if p.1=true then g p.2 else some (false,p.2)
noncomputable def JsF(i n:Nat)(g:List D->List D->Option (D×List D))(as:En->Option (List Sl)):En->Option (Bool×En):=fun E=>match E[i]? with
 | some (.dw k ds)=>(as E).bind fun ss=>(WP ss).bind fun es=>if es.length+1=n then(g ds es).bind fun p=>match p.1 with
  | .bl b=>some (b,E.set i (.dw k p.2))
  | _=>none
  else none
 | _=>none
section
variable{K:Qo}{C CD:Qd}{B Hs H0 H H0' H':Hp}{σ:St}{E:En}{ta te:TE}{ea:Ev}{t:TA}{ev:En->Option (List Sl)}{ts tu:TS}{b eb:Es}{c c2:TT}{f f2:En->Option (Bool×En)}{h2:En->Option (D×En)}
end
end LE

namespace L2
open PySem PySem.Spec PyProof.Rows PySem.Calls
end L2
namespace LE
open PySem L2 LR
end LE

namespace LE
open PySem L2 LR PyProof.Rows
open Classical in
open Classical in
noncomputable def lsD?:D->Option (List D)
 | .lst ds=>some ds
 | _=>none
noncomputable def diG(a:Ev)(n:Nat)(d:D):Option (List D):=(a ([.no,.sh d]++QQ n .no)).bind fun s=>s.frz.bind lsD?
section
variable{P:Qm}{w:Qp}{K:Qo}{C CD:Qd}{mg:Str->Option Qc}{base:QC}{x qual:Str}{st:Gs}{f:Qd}{fd:Qt}{N ps:List Str}{k n:Nat}{b:Es}{ea:Ev}{h2:En->Option (D×En)}
end
end LE

namespace L2
open PySem PySem.Spec PyProof.Rows PySem.Calls
structure CalDX (P:Qm) (w:Qp) (K:Qo) (mg:Str->Option Qc) (base:QC) (C:Qd) (m:Str) (k:Nat) (ps:List Str) (sp:Sp):Prop where
 ex:∃f fd,FnOk P w K mg base (CX1 P w) k f fd ps sp/\Meth K C m f/\Binds K fd ps []
section
variable{X:Cx}{C:Qd}{m:Str}{k:Nat}{ps:List Str}{sp:Sp}{o e:QV}{es:List QV}{ta:TE}{t:TA}{apos pos:Pos}{E:XK}
end
end L2
namespace LE
open PySem L2 LR
section
variable{K:Qo}{C CD:Qd}{ta te:TE}{ea:Ev}{t:TA}{ev:En->Option (List Sl)}{W:XK}
end
end LE

namespace LE
open PySem L2 LR
section
variable{K:Qo}{C:Qd}{B H0 H:Hp}{σ:St}{E:En}{te:TE}{ea:Ev}
end
end LE
namespace L2
open PySem PySem.Spec PyProof.Rows
section
variable{X:Cx}
structure PIi (X:Cx) (tg l:QV) (wi:TI):Prop where
 out:PI X tg l wi
end
end L2
namespace LE
open PySem L2 LR
noncomputable def JgF:List Int->En->Option (List Sl)
 | []=>a0
 | n::ns=>aC (eC (.int n)) (JgF ns)
noncomputable def Jpa:List (List Int)->En->Option (List Sl)
 | []=>a0
 | a::r=>aC (Ub (JgF a)) (Jpa r)
section
variable{K:Qo}{C:Qd}
end
end LE

namespace LE
open PySem L2 LR
noncomputable def JsE(i:Nat)(g:List D->D->Option (List D))(a:Ev):En->Option (Bool×En):=fun E=>(E[i]?.bind dw?).bind fun p=>(a E).bind fun s=>s.frz.bind fun d=>(g p.2 d).bind fun ds'=>some (false,E.set i (.dw p.1 ds'))
section
variable{K:Qo}{C CD:Qd}{te:TE}{ea:Ev}
end
end LE

namespace L2
end L2
namespace LE
open PySem L2 LR
section
variable{K:Qo}{C:Qd}
end
end LE

namespace LE
open PySem L2 LR
section
variable{K:Qo}{C:Qd}{W:XK}{te:TE}{ex:Xv}
end
end LE

namespace L2
open PySem PySem.Spec PyProof.Rows
section
open PySem.SeqAt
open PySem.AutoSeq1 (wpAny_loadPart')
open PySem.MeetsSeq PySem.MeetsSeq2 PySem.MeetsSeq3
end
section
variable{prog:Qm}{w:Qp}{A:Qx}{E:Qc->Qe->Prop}{s:Qe}
end
end L2

namespace L2
open PySem PySem.Spec PyProof.Rows
end L2
namespace LE
open PySem L2 LR
section
variable{K:Qo}{C:Qd}
end
section
variable{K:Qo}{C:Qd}{B H0 H:Hp}{σ:St}{E:En}
end
end LE

namespace PySem
section
variable{prog:Qm}{w:Qp}{K:Type}[DecidableEq K](knd:HeapKind prog w K)
inductive NestOf (h:QC):List K->List Qc->Prop
 | nil:NestOf h [] []
 | cons {k:K} {a:Qd} {ks:List K} {vs:List Qc}:knd.is h k a->NestOf h ks vs->NestOf h (k::ks) (.ref a::vs)
def IsNestKey(h:QC)(ks:List K)(a:Qd):Prop:=∃o items n,h.get? a=some o/\o.cls=.type "tuple"/\o.data=.seq items n/\NestOf knd h ks items.toList
variable{knd}
theorem NestOf.inj{h:QC}{x y:List K}{vs:List Qc}(hx:NestOf knd h x vs)(hy:NestOf knd h y vs):x=y:=by
 induction hx generalizing y with
 | nil=>cases hy;rfl
 | cons h1 _ ih =>
  cases hy with
  | cons h2 hy'=>rw[knd.inj h1 h2,ih hy']
theorem IsNestKey.typeIs{s:Qe}{ks:List K}{a:Qd}(x:IsNestKey knd s.heap ks a):s.TypeIs (.ref a) "tuple":=by obtain⟨o,_,_,ho,hc,_⟩:=x;exact⟨o,ho,hc⟩
theorem IsNestKey.inj{h:QC}{a:Qd}{x y:List K}(hx:IsNestKey knd h x a)(hy:IsNestKey knd h y a):x=y:=by obtain⟨o,xs,n,ho,_,hd,hi⟩:=hx;obtain⟨o',ys,n',ho',_,hd',hi'⟩:=hy;rw[ho] at ho';cases ho';rw[hd] at hd';cases hd';exact hi.inj hi'
theorem NestOf.keeps{h h':QC}{ks:List K}{vs:List Qc}{d:Qd}{o:Obj}{es ep}(x:NestOf knd h ks vs)(ho:h.get? d=some o)(hd:o.data=.dict es ep)(hs:Qu d h h'):NestOf knd h' ks vs:=by
 induction x with
 | nil=>exact .nil
 | cons h1 _ ih=>exact .cons (knd.keeps h1 ho hd hs) ih
theorem IsNestKey.keeps{h h':QC}{ks:List K}{a d:Qd}{o:Obj}{es ep}(x:IsNestKey knd h ks a)(ho:h.get? d=some o)(hd:o.data=.dict es ep)(hs:Qu d h h'):IsNestKey knd h' ks a:=by
 obtain⟨u,xs,n,hu,hc,hx,hi⟩:=x
 have hne:a≠d:=fun e=>by subst e;rw[hu] at ho;cases ho;rw[hx] at hd;cases hd
 exact⟨u,xs,n,(hs.2 a hne).trans hu,hc,hx,hi.keeps ho hd hs⟩
end
section
variable{prog:Qm}{w:Qp}{K:Type}[DecidableEq K]{k0:KeyKind prog w K}{A:Qx}{E:Qc->Qe->Prop}{s:Qe}
def ZS(k0:KeyKind prog w K)(ks:List (List K)):Int:=reduceHash (GR (ks.map (tupleKeyHash k0)))
def VE(ks:List (List K)):Nat:=(ks.map fun k=>k.length+1).sum+1
theorem WI{ks:List (List K)}{a:Qd}{Q:Int->Qe->Prop}(hu:A.units+2<cLine)(hk:IsNestKey (tupleKind k0) s.heap ks a)(h:Q (ZS k0 ks) { s with toks:=s.toks+VE ks }) :
 wpAny (model prog w) A (pyHash (.ref a)) Q E s:=by
 have hT:=hk.typeIs;obtain⟨o,items,n,ho,_,hd,hi⟩:=hk;unfold pyHash
 first|unfold pyHashByItsType|skip
 first|refine Qa (wpAny_cRoomFor_or (.inr (by omega)) ?_)|skip
 refine Qa (GM hT Lx.lookup ?_);show wpAny _ _ (if (some (Value.builtin "tuple.__hash__") == some Value.none)=true then _ else _) Q E s;rw[if_neg (by rw[beq_builtin_none];exact Qz)];refine Qa (GM hT Lx.lookup ?_);show wpAny _ _ (callSpecialIfBoundUnlessNone? (.ref a) "__hash__" _ >>= _) Q E s;refine Qa (wpAny_callSpecialIfBoundUnlessNone?_slot hT Lx (QH Lx hT F.entry_tuple_hash ?_ (F.args_tuple_hash_1 _)))
 show wpAny _ _ (K2 (.ref a) >>= _) _ _ s;refine Qa (Md ho hd ?_);refine Qa ?_;rw[<- KJ];refine La _
  (fun YV (b:Array Int) s'=>∃done left,ks=done++left/\NestOf (tupleKind k0) s.heap left YV/\b.toList=done.map (tupleKeyHash k0)/\s'={ s with toks:=s.toks+(done.map fun k=>k.length+1).sum })
  _ ?_ ?_ _ _ ⟨[],ks,rfl,hi,rfl,rfl⟩
 ·rintro x YV b s' ⟨done,left,rfl,hl,hb,rfl⟩
  cases hl with
  | @cons k c ks' _ h1 hl' =>
   refine Qa ((tupleKind k0).pyHash ?_ h1 ?_)
   ·first|exact GB (K9 _ 2) hu|(show A.units+1<cLine;omega)
   first
    | exact Qf ⟨done++[k],ks',by simp,hl',by simp[hb];rfl,by simp[Mw];rfl⟩
    | exact Qa (Qf (Qf ⟨done++[k],ks',by simp,hl',by simp[hb];rfl,by simp[Mw];rfl⟩))
 ·rintro b s' ⟨done,left,rfl,hl,hb,rfl⟩;cases hl;rw[Li] at h;show wpAny _ _ (retInt (GR b.toList)) _ _ _;rw[hb];refine wpAny_ret_mkInt ?_;show wpAny _ _ (if (decide (-(2:Int) ^ 63<=GR (done.map (tupleKeyHash k0))) && decide (GR (done.map (tupleKeyHash k0))<2 ^ 63))=true then _ else _) Q E _;unfold ZS reduceHash at h
  by_cases hr:(decide (-(2:Int) ^ 63<=GR (done.map (tupleKeyHash k0))) && decide (GR (done.map (tupleKeyHash k0))<2 ^ 63))=true
  ·rw[if_pos hr];rw[if_pos hr] at h;exact Qf (by simpa [Mw,VE] using h)
  ·rw[if_neg hr];rw[if_neg hr] at h;exact Qa (Kb (Qf (by simpa [Mw,VE] using h)))
theorem JbA{x y:List (List K)}{a b:Qd}{P:Fin->Qe->Prop}(hu:A.units+2<cLine)(hx:IsNestKey (tupleKind k0) s.heap x a)(hy:IsNestKey (tupleKind k0) s.heap y b)(h:P (.done (.ret (.bool (decide (x=y))))) s) :
 wpAny (model prog w) A (Builtin.«tuple.__eq__» ⟨[.ref a,.ref b],[]⟩) P E s:=by
 have hTb:=hy.typeIs;obtain⟨oa,xs,na,hoa,_,hda,hia⟩:=hx;obtain⟨ob,ys,nb,hob,_,hdb,hib⟩:=hy
 show wpAny _ _ (isInstance (.ref b) (.type "tuple") >>= _) _ _ s;refine Qa (Gu hTb LC ?_);simp only[KR,Gd,if_false];refine Qa (Md hoa hda ?_);refine Qa (Md hob hdb ?_);refine Qa ?_;refine La _
  (fun YV r s'=>r.1=none/\s'=s/\∃x' y' xs' ys',YV=List.zip xs' ys'/\NestOf (tupleKind k0) s.heap x' xs'/\NestOf (tupleKind k0) s.heap y' ys'/\decide (x'=y')=decide (x=y)/\(xs'.length == ys'.length)=(xs.size == ys.size))
  _ ?_ ?_ _ _ ⟨rfl,rfl,x,y,xs.toList,ys.toList,rfl,hia,hib,rfl,by simp⟩
 ·rintro⟨u,v⟩ YV r s' ⟨hr,rfl,x',y',xs',ys',hz,hx',hy',hdec,hlen⟩
  cases hx' with
  | nil=>simp at hz
  | @cons k1 u' x'' xs'' h1 hx'' =>
   cases hy' with
   | nil=>simp at hz
   | @cons k2 v' y'' ys'' h2 hy'' =>
    simp only[List.zip_cons_cons,RA,Prod.mk.injEq] at hz;obtain⟨⟨rfl,rfl⟩,rfl⟩:=hz;refine Qa ((tupleKind k0).eqBool ?_ h1 h2 ?_)
    ·first|exact GB (K9 _ 2) hu|(show A.units+1<cLine;omega)
    by_cases hk:k1=k2
    ·subst hk;rw[decide_eq_true rfl];simp only[KR,Gd,if_false];refine Qf ⟨rfl,rfl,x'',y'',xs'',ys'',rfl,hx'',hy'',?_,by simpa using hlen⟩;rw[<- hdec]
     by_cases hxy:x''=y''
     ·simp[hxy]
     ·simp[hxy]
    ·rw[decide_eq_false hk];simp only[Bool.not_false,if_true];have hf:decide (x=y)=false:=by rw[<- hdec];simp[hk]
     rw[hf] at h;exact Qa (Qf (Qf (Qf h)))
 ·rintro⟨r1,r2⟩ s' ⟨hr,rfl,x',y',xs',ys',hz,hx',hy',hdec,hlen⟩;simp only at hr;subst hr;refine Qf ?_
  have hfin:(xs.size == ys.size)=decide (x=y):=by
   rw[<- hdec,<- hlen]
   cases hx' with
   | nil =>
    cases hy' with
    | nil=>simp
    | cons _ _=>simp
   | cons _ _ =>
    cases hy' with
    | nil=>simp
    | cons _ _=>simp at hz
  show P (.done (.ret (.bool (xs.size == ys.size)))) s';rw[hfin];exact h
theorem WH{x y:List (List K)}{a b:Qd}{Q:Bool->Qe->Prop}(hu:A.units+4<cLine)(hx:IsNestKey (tupleKind k0) s.heap x a)(hy:IsNestKey (tupleKind k0) s.heap y b)(h:Q (decide (x=y)) s) :
 wpAny (model prog w) A (eqBool (.ref a) (.ref b)) Q E s:=by
 unfold eqBool
 try with_reducible refine Gg ?_
 show wpAny _ _ (if (Value.ref a == Value.ref b)=true then _ else _) Q E s
 by_cases hab:(Value.ref a == Value.ref b)=true
 ·rw[if_pos hab];have e:a=b:=by have:=eq_of_beq hab;injection this
  subst e;obtain rfl:=hx.inj hy;exact Qa (Kb (Qf (by simpa using h)))
 ·rw[if_neg hab];refine Qa (wpAny_richCompare_same_room (op:=.Eq) hx.typeIs hy.typeIs LW
   (QH LW hx.typeIs F.entry_tuple_eq (JbA ?_ hx hy ⟨_,rfl,(fun e=>nomatch e),Gw h⟩) (F.args_tuple_eq_2 _ _)) (by omega))
  show A.units+1+2<cLine;omega
theorem JnW{ks:List K}{a:Qd}{Q:Bool->Qe->Prop}(hk:IsTupleKey k0 s.heap ks a)(h:Q true s):wpAny (model prog w) A (eqIsQuiet 7 (.ref a)) Q E s:=by
 have hT:=hk.typeIs;obtain⟨o,items,n,ho,_,hd,hi⟩:=hk;unfold eqIsQuiet;refine Qa (GM hT LW.lookup ?_)
 show wpAny _ _ (isInstance (.ref a) (.type "tuple") >>= _) _ _ s;refine Qa (Gu hT LC ?_);simp only[KR,Gd,if_false];refine Qa (Gf ho hd ?_);refine Qa ?_
 show wpAny _ _ (forIn items _ _) _ _ s;rw[<- KJ];refine La _ (fun YV r s'=>r.1=none/\s'=s/\∀v∈YV,carriedByValue v=true) _ ?_ ?_ _ _ ⟨rfl,rfl,hi.byValue⟩
 ·rintro v YV r s' ⟨hr,rfl,hall⟩;rw[eqIsQuiet_byValue _ (hall v QD)];refine Qa (Qf ?_);simp only[KR,Gd,if_false];exact Qf ⟨rfl,rfl,fun u hu'=>hall u (Qq _ hu')⟩
 ·rintro⟨r1,r2⟩ s' ⟨hr,rfl,_⟩;simp only at hr;subst hr;exact Qf h
theorem JdX{ks:List (List K)}{a:Qd}{Q:Bool->Qe->Prop}(hk:IsNestKey (tupleKind k0) s.heap ks a)(h:Q true s):wpAny (model prog w) A (eqIsQuiet 8 (.ref a)) Q E s:=by
 have hT:=hk.typeIs;obtain⟨o,items,n,ho,_,hd,hi⟩:=hk;unfold eqIsQuiet;refine Qa (GM hT LW.lookup ?_)
 show wpAny _ _ (isInstance (.ref a) (.type "tuple") >>= _) _ _ s;refine Qa (Gu hT LC ?_);simp only[KR,Gd,if_false];refine Qa (Gf ho hd ?_);refine Qa ?_
 show wpAny _ _ (forIn items _ _) _ _ s;rw[<- KJ];refine La _ (fun YV r s'=>r.1=none/\s'=s/\∃left,NestOf (tupleKind k0) s.heap left YV) _ ?_ ?_ _ _ ⟨rfl,rfl,ks,hi⟩
 ·rintro v YV r s' ⟨hr,rfl,left,hl⟩
  cases hl with
  | cons h1 hl'=>refine Qa (JnW h1 ?_);simp only[KR,Gd,if_false];exact Qf ⟨rfl,rfl,_,hl'⟩
 ·rintro⟨r1,r2⟩ s' ⟨hr,rfl,_⟩;simp only at hr;subst hr;exact Qf h
def JhA(k0:KeyKind prog w K):HeapKind prog w (List (List K)) where
 is:=IsNestKey (tupleKind k0)
 hash:=ZS k0
 draws:=VE
 room:=fun A=>A.units+4<cLine
 inj:=fun hx hy=>hx.inj hy
 keeps:=fun x ho hd hs=>x.keeps ho hd hs
 pyHash:=fun hu hk h=>WI (by omega) hk h
 eqBool:=fun hu hx hy h=>WH hu hx hy h
 quiet:=fun hk h=>JdX hk h
end
end PySem

namespace L2
open PySem PySem.Spec PyProof.Rows
noncomputable abbrev nKd(P:Qm)(w:Qp):HeapKind P w (List (List Key)):=JhA (JE P w)
noncomputable abbrev NX:=List (List Key)×Qd×Qc
noncomputable def DN(P:Qm)(w:Qp)(a:Qd)(xs:List NX):HO:=.ext fun h=>∃o es ep,h.get? a=some o/\o.ExactDict/\o.data=.dict es ep/\es.toList=xs.map (entryOfKey (nKd P w))/\(xs.map (·.1)).Nodup
noncomputable def NTup(K:Qo)(H:Hp)(b:Qd)(ks:List (List Key)):Prop:=∃cs:List Qd,SqT K H b (cs.map V.ref)/\Paired (fun c k=>SqT K H c (k.map kV)) cs ks
structure NDict (P:Qm) (w:Qp) (K:Qo) (H:Hp) (a:Qd) (xs:List NX):Prop where
 here:Rd H a (DN P w a xs)
 sm:(a == sysModules)=false
 len:xs.length<Qk
 keys:∀x∈xs,NTup K H x.2.1 x.1
theorem NTup.mono{K:Qo}{H H':Hp}{b:Qd}{ks:List (List Key)}(t:NTup K H b ks)(k:∀c xs,SqT K H c xs->SqT K H' c xs):NTup K H' b ks:=by obtain⟨cs,e,r⟩:=t;exact⟨cs,k _ _ e,L2.Paired.mapP r fun c q z=>k _ _ z⟩
section
variable{X:Cx}{pins:List (Qd×Obj)}{σ:St}{H:Hp}{s:Qe}{a b:Qd}{ks:List (List Key)}{xs:List NX}
theorem Zn(I:Inv X pins σ H s)(t:NTup X.K H b ks):(nKd X.prog X.w).is s.heap ks b:=by
 obtain⟨cs,e,r⟩:=t;obtain⟨its,rv,⟨o,h1,h2,n,h3⟩,_⟩:=I.tuple e;refine⟨o,its.toArray,n,h1,h2,h3,?_⟩
 have go:∀{cs:List Qd} {ks:List (List Key)} {its:List Qc},Vals (cs.map V.ref) its->Paired (fun c k=>SqT X.K H c (k.map kV)) cs ks->NestOf (tupleKind (JE X.prog X.w)) s.heap ks its:=by
  intro cs ks its rv r
  induction r generalizing its with
  | nil=>cases rv;exact .nil
  | @cons c k cs ks e _ ih =>
   cases rv with
   | @cons x v xs vs r1 r2=>cases (show v=Value.ref c from r1);obtain⟨jts,rw',⟨o',g1,g2,n',g3⟩,_⟩:=I.tuple e;exact .cons ⟨o',jts.toArray,n',g1,g2,g3,by simpa using WQ rw'⟩ (ih r2)
 simpa using go rv r
theorem Wn(I:Inv X pins σ H s)(d:NDict X.prog X.w X.K H a xs):s.heap.DictOfH (nKd X.prog X.w) a xs:=by
 obtain⟨⟨o,es,ep,h1,h2,h3,h4,h5⟩,_⟩:=(show ObjOk X.prog X.w H s.heap a (DN X.prog X.w a xs) from Jii I.hok d.here)
 exact⟨o,es,ep,h1,h2,h3,h4,fun x hx=>Zn I (d.keys x hx),h5⟩
end
section
variable{P:Qm}{w:Qp}{H:Hp}{h:QC}{a b:Qd}{ks:List (List Key)}{xs:List NX}
theorem JlC{H':Hp}{h':QC}(dd:h'.DictOfH (nKd P w) a xs):ObjOk P w H' h' a (DN P w a xs):=by obtain⟨o,es,ep,h1,h2,h3,h4,_,h5⟩:=dd;refine⟨⟨o,es,ep,h1,h2,h3,h4,h5⟩,⟨o,h1⟩,fun g1 g2 q k=>?_⟩;obtain⟨o,es,ep,h1,h2,h3,h4,h5⟩:=q;exact⟨o,es,ep,k _ h1,h2,h3,h4,h5⟩
end
section
variable{X:Cx}{pins:List (Qd×Obj)}{σ:St}{H:Hp}{s:Qe}{a b:Qd}{A:Qx}{E:Qc->Qe->Prop}{ks:List (List Key)}{xs:List NX}
theorem Jnd{p:Qd×Qc}{Q:Qc->Qe->Prop}(hu:A.units+6<cLine)(I:Inv X pins σ H s)(d:NDict X.prog X.w X.K H a xs)(t:NTup X.K H b ks)(hp:atKey xs ks=some p)(h:∀s',Inv X pins σ H s'->Q p.2 s'):wpAny (model X.prog X.w) A (getItem (.ref a) (.ref b)) Q E s :=
 wpAny_getItem_heap (knd:=nKd X.prog X.w) (show A.units+1+4<cLine by omega) (Zn I t) (Wn I d) hp (h _ (I.tok _))
theorem Jhz{Q:Qc->Qe->Prop}(hu:A.units+6<cLine)(I:Inv X pins σ H s)(d:NDict X.prog X.w X.K H a xs)(t:NTup X.K H b ks)(h:∀s',Inv X pins σ H s'->Q (.bool (!(atKey xs ks).isSome)) s'):wpAny (model X.prog X.w) A (compareOp .NotIn (.ref b) (.ref a)) Q E s :=
 wpAny_notIn_heap (knd:=nKd X.prog X.w) (show A.units+1+4<cLine by omega) (Zn I t) d.sm (Wn I d) (h _ (I.tok _))
theorem Jj4{P:Qm}{w:Qp}{K:Qo}{H:Hp}{o':HO}(e:H a=some (DN P w a xs)):∀c ys,SqT K H c ys->SqT K (upd H a o') c ys:=fun c ys q=>by
 rcases q with (q|⟨u,q⟩)|q
 ·exact .inl (.inl (by rw[Jf (fun z=>by subst z;rw[e] at q;cases q)];exact q))
 ·exact .inl (.inr ⟨u,by rw[Jf (fun z=>by subst z;rw[e] at q;cases q)];exact q⟩)
 ·exact .inr q
theorem NDict.put{P:Qm}{w:Qp}{K:Qo}{H:Hp}{v:Qc}(d:NDict P w K H a xs)(e:H a=some (DN P w a xs))(t:NTup K H b ks)(hl:(storedH xs ks b v).length<Qk):NDict P w K (upd H a (DN P w a (storedH xs ks b v))) a (storedH xs ks b v):=by
 have k:=Jj4 (K:=K) (o':=DN P w a (storedH xs ks b v)) e;refine⟨.inl Jl,d.sm,hl,fun x hx=>?_⟩;unfold storedH at hx;split at hx
 ·obtain⟨y,hy,rfl⟩:=Gb.mp hx;unfold putAt;split <;> exact(d.keys y hy).mono k
 ·rcases GL.mp hx with q|q
  ·exact(d.keys x q).mono k
  ·rw[Gi.mp q];exact t.mono k
theorem Jnf{v:V}{r:Qc}{Q:Unit->Qe->Prop}(hu:A.units+6<cLine)(I:Inv X pins σ H s)(d:NDict X.prog X.w X.K H a xs)(e:H a=some (DN X.prog X.w a xs))(t:NTup X.K H b ks)(h:∀s',Inv X pins σ (upd H a (DN X.prog X.w a (storedH xs ks b r))) s'->Q () s'):wpAny (model X.prog X.w) A (setItem (.ref a) (.ref b) r) Q E s:=by
 refine wpAny_setItem_heap (knd:=nKd X.prog X.w) (hsz:=Gk d.len) (show A.units+1+4<cLine by omega) (Zn I t) (Wn I d) fun h' dd hs=>h _ ?_
 have he:∃q,h'.get? a=some q:=by obtain⟨q,_,_,hq,_⟩:=dd;exact⟨q,hq⟩
 exact Zk I (by rw[e];exact True.intro) hs he (JlC dd)
end
noncomputable def JiF(P:Qm)(w:Qp)(K:Qo)(ty td:TE):TE:=fun σ H Q=>ty σ H fun y H1=>td σ H1 fun x H2=>∃a b xs ks,x=.ref a/\y=.ref b/\NDict P w K H2 a xs/\NTup K H2 b ks/\Q (.bl (!(atKey xs ks).isSome)) H2
noncomputable def JeU(P:Qm)(w:Qp)(K:Qo)(td ty tv:TE):TS:=fun D σ H=>tv σ H fun v H1=>td σ H1 fun x H2=>ty σ H2 fun y H3=>∃a b c xs ks,x=.ref a/\y=.ref b/\v=.ref c/\NDict P w K H3 a xs/\H3 a=some (DN P w a xs)/\NTup K H3 b ks/\D.nx σ (upd H3 a (DN P w a (storedH xs ks b (.ref c))))
noncomputable def Je5(P:Qm)(w:Qp)(K:Qo)(td ty:TE):TE:=fun σ H Q=>td σ H fun x H1=>ty σ H1 fun y H2=>∃a b xs ks p c,x=.ref a/\y=.ref b/\NDict P w K H2 a xs/\NTup K H2 b ks/\atKey xs ks=some (p,.ref c)/\Q (.ref c) H2
section
variable{X:Cx}{o i value:QV}{pos pos':Pos}{td ty tv:TE}
theorem Jf7(hu:X.A.units+6<cLine)(hi:PE X i ty)(ho:PE X o td):PC X .NotIn i o (JiF X.prog X.w X.K ty td):=by
 intro pins s σ H Q I h;refine thE (hi pins s σ H _ I h) fun iv s1 y H1 I1 ry q1=>thE (ho pins s1 σ H1 _ I1 q1) fun u s2 x H2 I2 rx zz=>?_
 obtain⟨a,b,xs,ks,rfl,rfl,d,t,q⟩:=zz;obtain rfl:u=Value.ref a:=rx;obtain rfl:iv=Value.ref b:=ry;exact Jhz hu I2 d t fun s3 I3=>⟨.bl (!(atKey xs ks).isSome),H2,I3,rfl,q⟩
theorem Jkv(hu:X.A.units+6<cLine)(ho:PE X o td)(hi:PE X i ty)(hv:PE X value tv)(hs:swapsWith value (some (.Subscript o i pos')) pos.line X.env=pure false) :
 PS X (.Assign [.Subscript o i pos'] value pos) (JeU X.prog X.w X.K td ty tv):=by
 intro pins s σ H D I h;refine wpAny_Assign_Subscript (thE (hv pins s σ H _ I h) fun r s1 v H1 I1 rv q1=>thE (ho pins s1 σ H1 _ I1 q1) fun u s2 x H2 I2 rx q2=>thE (hi pins s2 σ H2 _ I2 q2) fun iv s3 y H3 I3 ry zz=>?_) hs;obtain⟨a,b,c,xs,ks,rfl,rfl,rfl,d,e,t,q⟩:=zz;obtain rfl:u=Value.ref a:=rx;obtain rfl:iv=Value.ref b:=ry;obtain rfl:r=Value.ref c:=rv;exact Jnf (v:=.ref c) hu I3 d e t fun s4 I4=>⟨σ,_,I4,q⟩
theorem Jki(hu:X.A.units+6<cLine)(ho:PE X o td)(hi:PE X i ty)(hs:JiW i):PE X (.Subscript o i pos) (Je5 X.prog X.w X.K td ty):=by intro pins s σ H Q I h;refine Je2 Me.lookup hs (thE (ho pins s σ H _ I h) fun u s1 x H1 I1 rx q1=>thE (hi pins s1 σ H1 _ I1 q1) fun iv s2 y H2 I2 ry zz=>?_);obtain⟨a,b,xs,ks,p,c,rfl,rfl,d,t,e,q⟩:=zz;obtain rfl:u=Value.ref a:=rx;obtain rfl:iv=Value.ref b:=ry;exact⟨(Wn I2 d).typeIs,Jnd hu I2 d t e fun s3 I3=>⟨.ref c,H2,I3,rfl,q⟩⟩
end
end L2

namespace L2
open PySem PySem.Spec PyProof.Rows
noncomputable def JlY(P:Qm)(w:Qp)(i:Nat)(t:TS):TS:=fun D σ H=>∃a xs,σ[i]?=some (some (.ref a))/\H a=some (DN P w a xs)/\∀o,t D σ (upd H a (.frz o (DN P w a xs)))
theorem Jku{X:Cx}{st:Gs}{t:TS}(i:Nat)(h:PS X st t):PS X st (JlY X.prog X.w i t):=by
 intro pins s σ H D I z;obtain⟨a,xs,e1,e2,q⟩:=z;obtain⟨p,⟨o,e⟩,st'⟩:=(show ObjOk X.prog X.w H s.heap a (DN X.prog X.w a xs) from I.hok a _ e2)
 exact h pins s σ _ D (I.write (x:=a) (e:=a) (o:=.frz o (DN X.prog X.w a xs)) (h':=s.heap) (t':=s.toks) (by rw[e2];trivial) (.inl rfl) (fun b u _ q=>q) ⟨o,e⟩ ⟨e,p,⟨o,e⟩,st'⟩) (q o)
noncomputable def Itn(P:Qm)(w:Qp)(a:Qd)(o:Obj)(xs:List NX):It :=
 ⟨fun i H=>H a=some (.frz o (DN P w a xs))/\∃p,xs[i]?=some p,
  fun i H x H'=>∃k b v,x=.ref b/\xs[i]?=some (k,b,v)/\H'=H,
  fun i H=>H a=some (.frz o (DN P w a xs))/\i=xs.length⟩
theorem Jib{X:Cx}{pins:List (Qd×Obj)}{σ:St}{H:Hp}{s:Qe}{a:Qd}{o:Obj}{xs:List NX}{es:Array DictEntry}{ep:Nat}(I:Inv X pins σ H s)(h:H a=some (.frz o (DN X.prog X.w a xs)))(hd:o.data=.dict es ep) :
 RawD s.heap a es ep/\es.toList=xs.map (entryOfKey (nKd X.prog X.w)):=by
 obtain⟨e0,⟨o',es',ep',h1,h2,h3,h4,_⟩,_⟩:=(show ObjOk X.prog X.w H s.heap a (.frz o (DN X.prog X.w a xs)) from I.hok a _ h)
 rw[e0] at h1;cases h1;rw[hd] at h3;cases h3;exact⟨⟨o,e0,h2,hd⟩,h4⟩
theorem Jef{P:Qm}{w:Qp}{K:Qo}{tg:QV}(a it:Qd)(o:Obj)(xs:List NX)(es:Array DictEntry)(ep:Nat)(hd:o.data=.dict es ep) :
 Turn P w K tg (Itn P w a o xs) [it] it (fun i h=>h.IsKeyIter it a i es.size ep) where
 mem:=by simp
 obj:=fun i h st b hb=>by
  have e:b=it:=by simpa using hb
  subst e;obtain⟨o,e,c,d⟩:=st
  simp_all
 keep:=fun i h h' st k=>st.at fun o e=>k it (by simp) o e
 item:=by
  intro X hP hw hK hc i pins s σ H E I hf st hg;subst hP hw hK;obtain⟨hH,⟨k,b,v⟩,e1⟩:=hg;obtain⟨rd,eq⟩:=Jib I hH hd;obtain⟨f0,f1,f2,f3,f4,f5⟩:=hf it (by simp)
  have ei:es[i]?=some (entryOfKey (nKd X.prog X.w) (k,b,v)):=by rw[entry_at eq,e1];rfl
  refine JcW (I.ok.hd hc) st rd (fun e h' he hit' sb=>?_) fun e=>by rw[ei] at e;cases e
  rw[ei] at he;cases he;have I1:Inv X pins σ H { s with heap:=h' }:=I.turned (t':=s.toks) (fun b o hb e=>(sb.2 b hb).trans e) f0 f1 f3 f4 f5;obtain⟨o',e',c',d'⟩:=id hit';exact⟨_,rfl,ZH (s:={ s with heap:=h' }) e' c' d' (by decide) ⟨.ref b,H,I1,rfl,⟨k,b,v,rfl,e1,rfl⟩,hit',fun b hb=>(hf b hb).1⟩⟩
 done:=by
  intro X hP hw hK hc i pins s σ H E I hf st hg;subst hP hw hK;obtain⟨hH,ei⟩:=hg;obtain⟨rd,eq⟩:=Jib I hH hd;obtain⟨f0,f1,f2,f3,f4,f5⟩:=hf it (by simp);have en:es[i]?=none:=by rw[entry_at eq,ei,KW (Qn _)];rfl
  exact JcW (I.ok.hd hc) st rd (fun e h' he _ _=>by rw[en] at he;cases he) fun _ h' eb=>⟨rfl,I.turned (t':=s.toks) (fun b o hb e=>eb b o hb e) f0 f1 f3 f4 f5⟩
 self:=fun _ _ _ _ _ st h=>wpAny_pyIter_keyiter st h
noncomputable def JlH(P:Qm)(w:Qp)(td:TE):TI:=fun σ H R=>td σ H fun x H1=>∃a o xs,x=.ref a/\(a == sysModules)=false/\H1 a=some (.frz o (DN P w a xs))/\R (Itn P w a o xs) H1
theorem Jkk{X:Cx}{tg d:QV}{td:TE}(hd:PE X d td):PI X tg d (JlH X.prog X.w td):=by
 intro pins s σ H R I h;refine thE (hd pins s σ H _ I h) fun v s1 x H1 I1 r1 q1=>?_
 obtain⟨a,o,xs,e,sm,hH,q⟩:=q1;subst e;cases r1;obtain⟨e0,⟨o',es,ep,h1,h2,h3,h4,_⟩,_⟩:=(show ObjOk X.prog X.w H1 s1.heap a (.frz o (DN X.prog X.w a xs)) from I1.hok a _ hH)
 rw[e0] at h1;cases h1;refine Jgc sm ⟨o,e0,h2,h3⟩ ?_;refine⟨s1.heap.objs.size,[s1.heap.objs.size],_,_,H1,rfl,I1.kept (t':=s1.toks) fun b o e=>Qg _ e,Jef a _ o xs es ep h3,⟨_,Qh _ rfl,rfl,rfl⟩,fun b hb=>?_,q⟩;have e:b=s1.heap.objs.size:=by simpa using hb
 subst e;exact I1.fpOk (Qn _) (I1.hok.fresh (Qn _))
end L2

namespace L2
open PySem PySem.Spec PyProof.Rows
noncomputable def JiD(P:Qm)(w:Qp):TE:=fun _ H Q=>∀p,H p=none->(p == sysModules)=false->Q (.ref p) (upd H p (DN P w p []))
theorem JhO{X:Cx}{pos:Pos}:PE X (.Dict [] [] pos) (JiD X.prog X.w):=fun pins s σ H Q I h=>wpAny_Dict_empty ⟨.ref s.heap.objs.size,_,I.laid (a:=s.heap.objs.size) (o:=DN X.prog X.w s.heap.objs.size []) (t':=s.toks) (fun _ _ q=>Qg _ q) (Qn _) (JlC (Heap.DictOfH.new s.heap)),rfl,h _ (I.hok.fresh (Qn _)) (beq_eq_false_iff_ne.mpr (QL (Qw I.big)))⟩
end L2
namespace LE
open PySem L2 LR
noncomputable abbrev GQ:=List Pr×List Int×Qd×Qd
noncomputable abbrev Gp:=List (List Pr×List Int)
noncomputable def kyP(ps:List Pr):List (List Key):=ps.map fun p=>[Sum.inl p.1,Sum.inl p.2]
noncomputable def gx(g:GQ):NX:=(kyP g.1,g.2.2.1,Value.ref g.2.2.2)
noncomputable def gG(g:GQ):List Pr×List Int:=(g.1,g.2.1)
theorem JeD{ps qs:List Pr}(h:kyP ps=kyP qs):ps=qs:=by unfold kyP at h;refine List.map_inj_right (fun a b e=>?_) |>.mp h;simp at e;exact Prod.ext e.1 e.2
section
variable(P:Qm)(w:Qp)(K:Qo)(C:Qd)
structure Gn (B H0 H:Hp) (σ:St) (E:En) (j:Nat) (l:Qd) (gs:List GQ):Prop where
 at':σ[j]?=some (some (.ref l))
 d:H l=some (DN P w l (gs.map gx))
 sm:(l == sysModules)=false
 keys:∀g∈gs,NTup K H0 g.2.2.1 (kyP g.1)
 lists:∀g∈gs,H g.2.2.2=some (.lst (g.2.1.map V.int))
 off:∀a∈l::gs.map (·.2.2.2),H0 a=none/\B a=none
 nd:(l::gs.map (·.2.2.2)).Nodup
 kn:(gs.map (·.1)).Nodup
 own:∀(i:Nat) (s:Sl) (a:Qd),E[i]?=some s->JR s=true->σ[i]?=some (some (.ref a))->a∉l::gs.map (·.2.2.2)
 no:E[j]?=some .no
end
section
variable{P:Qm}{w:Qp}{K:Qo}{C:Qd}{B H0 H H0' H':Hp}{σ σ':St}{E E':En}{j:Nat}{l:Qd}{gs:List GQ}
theorem Gn.there(g:Gn P w K B H0 H σ E j l gs){a:Qd}(ha:a∈l::gs.map (·.2.2.2)):∃o,H a=some o/\isT o=false:=by
 rcases Qr.mp ha with z|z
 ·subst z;exact⟨_,g.d,rfl⟩
 ·obtain⟨q,hq,rfl⟩:=Gb.mp z;exact⟨_,g.lists q hq,rfl⟩
theorem Gn.off'(g:Gn P w K B H0 H σ E j l gs)(st:Step H H0 H H0' H'){a:Qd}(ha:a∈l::gs.map (·.2.2.2)):H0' a=none:=by
 obtain⟨o,h1,h2⟩:=g.there ha
 cases z:H0' a with
 | none=>rfl
 | some u =>
  rcases st.n a u z with y|y|y
  ·rw[(g.off a ha).1] at y;cases y
  ·rw[h1] at y;cases y
  ·have:=st.i a u z;rw[st.h a o h1] at this;cases this;rw[h2] at y;cases y
theorem Gn.step(g:Gn P w K B H0 H σ E j l gs)(st:Step H H0 H H0' H'):Gn P w K B H0' H' σ E j l gs :=
 ⟨g.at',st.h _ _ g.d,g.sm,fun q hq=>(g.keys q hq).mono fun _ _ z=>st.z.seqT z,fun q hq=>st.h _ _ (g.lists q hq),fun a ha=>⟨g.off' st ha,(g.off a ha).2⟩,g.nd,g.kn,g.own,g.no⟩
theorem Gn.set(g:Gn P w K B H0 H σ E j l gs){i:Nat}(hi:i≠j)(v:V)(d:D):Gn P w K B H0 H (σ.set i (some v)) (E.set i (.sh d)) j l gs:=by
 refine⟨by rw[QS hi];exact g.at',g.d,g.sm,g.keys,g.lists,g.off,g.nd,g.kn,fun k s a e o q=>?_,by rw[QS hi];exact g.no⟩
 by_cases h:i=k
 ·subst h;rw[Qv] at e;simp at e;obtain⟨_,rfl⟩:=e;cases o
 ·rw[QS h] at e q;exact g.own k s a e o q
theorem Gn.rd(g:Gn P w K B H0 H σ E j l gs)(i:Same H0 H)(hl:gs.length<1000):NDict P w K H l (gs.map gx) :=
 ⟨.inl g.d,g.sm,by rw[QB];exact Go hl (by decide),fun x hx=>by obtain⟨q,hq,rfl⟩:=Gb.mp hx;exact(g.keys q hq).mono fun _ _ z=>i.seqT z⟩
end
section
variable(P:Qm)(w:Qp)(K:Qo)(C:Qd)(j:Nat)
noncomputable abbrev Eg:=En->Gp->Option (Out×Gp)
noncomputable def FinG(B H0:Hp)(D:Ends):Out->Gp->Prop
 | .nx E,G=>∀σ' H0' H' l gs,SStep B H0 H0' H'->EnvR K C B H0' H' σ' E->Gn P w K B H0' H' σ' E j l gs->gs.map gG=G->D.nx σ' H'
 | .rt r,_=>∀v H0' H',SStep B H0 H0' H'->RR K C B H0' H' v r->D.rt v H'
 | _,_=>False
noncomputable def SS2(ts:TS)(ev:Eg):Prop:=∀(B H0 H:Hp) (σ:St) (E:En) (l:Qd) (gs:List GQ) (o:Out) (G:Gp) (D:Ends),EnvR K C B H0 H σ E->Gn P w K B H0 H σ E j l gs->ev E (gs.map gG)=some (o,G)->FinG P w K C j B H0 D o G->ts D σ H
end
noncomputable def YT(a b:Eg):Eg:=fun E G=>(a E G).bind fun r=>match r with
 | (.nx E1,G1)=>b E1 G1
 | (.rt s,G1)=>some (.rt s,G1)
 | _=>none
noncomputable def gIf(c:En->Gp->Option Bool)(a b:Eg):Eg:=fun E G=>(c E G).bind fun k=>if k=true then a E G else b E G
noncomputable def Jbt(a:Ev):Eg:=fun E G=>(Yk a E).map fun o=>(o,G)
noncomputable def VL:Eg:=fun E G=>some (.nx E,G)
noncomputable def U8(j i:Nat)(a:Ev):Eg:=fun E G=>if i=j then none else(Jt i a E).map fun o=>(o,G)
noncomputable def Yl(p:Nat)(b:Eg):List D->Eg
 | []=>VL
 | d::ds=>fun E G=>(if p<E.length then b (E.set p (.sh d)) G else none).bind fun r=>match r with
  | (.nx E1,G1)=>Yl p b ds E1 G1
  | (.rt s,G1)=>some (.rt s,G1)
  | _=>none
noncomputable def JaA(j:Nat)(it:En->Option (List D))(p:Nat)(b:Eg):Eg:=fun E G=>if p=j then none else(it E).bind fun ds=>Yl p b ds E G
section
variable{P:Qm}{w:Qp}{K:Qo}{C:Qd}{j:Nat}{t u:TS}{et eu:Eg}{te:TE}{ea:Ev}
theorem FinG.step{B H0 H0' H':Hp}{D:Ends}{o:Out}{G:Gp}(st:SStep B H0 H0' H')(f:FinG P w K C j B H0 D o G):FinG P w K C j B H0' D o G:=by
 cases o with
 | nx E=>exact fun σ' H1 H1' l gs s1=>f σ' H1 H1' l gs (st.trans s1)
 | rt r=>exact fun v H1 H1' s1=>f v H1 H1' (st.trans s1)
 | _=>exact f
theorem JmL:SS2 P w K C j Jba VL:=fun B H0 H σ E l gs o G D I g e f=>by cases e;exact f _ _ _ _ _ I.ss I g rfl
theorem Jpy(ht:SS2 P w K C j t et)(hu:SS2 P w K C j u eu):SS2 P w K C j (Jdc t u) (YT et eu):=by
 intro B H0 H σ E l gs o G D I g e f;obtain⟨⟨o1,G1⟩,e1,e⟩:=bind_some e;refine ht B H0 H σ E l gs o1 G1 _ I g e1 ?_
 cases o1 with
 | nx E1=>exact fun σ1 H1 H1' l1 gs1 s1 I1 g1 eg=>hu B H1 H1' σ1 E1 l1 gs1 o G D I1 g1 (by rw[eg];exact e) (f.step s1)
 | rt r=>cases e;exact f
 | _=>cases e
theorem Jsg{c:TT}{ec:En->Option Bool}(hc:ST K C c ec)(ht:SS2 P w K C j t et)(hu:SS2 P w K C j u eu):SS2 P w K C j (Jea c t u) (gIf (fun E _=>ec E) et eu):=by
 intro B H0 H σ E l gs o G D I g e f;obtain⟨k,e1,e⟩:=bind_some e;refine hc B H0 H σ E k _ I e1 fun H1 H1' s1=>?_
 cases k with
 | true=>rw[if_pos rfl] at e ⊢;exact ht B H1 H1' σ E l gs o G D (I.step s1) (g.step s1) e (f.step (s1.ss I.b))
 | false=>rw[if_neg (by simp)] at e ⊢;exact hu B H1 H1' σ E l gs o G D (I.step s1) (g.step s1) e (f.step (s1.ss I.b))
theorem Jpx(ha:SE K C te ea):SS2 P w K C j (Jgl te) (Jbt ea):=by intro B H0 H σ E l gs o G D I g e f;obtain⟨o',eo,e⟩:=QT.mp e;cases e;have eo':=eo;obtain⟨s,e1,e2⟩:=bind_some eo;obtain⟨s',e3,rfl⟩:=map_some e2;exact Jbd ha B H0 H σ E (.rt s') D I eo' f
theorem JmM{i:Nat}(ha:SE K C te ea):SS2 P w K C j (Zh te (YS i)) (U8 j i ea):=by
 intro B H0 H σ E l gs o G D I g e f;unfold U8 at e;split at e
 ·cases e
 ·next hij =>
  obtain⟨o',eo,e⟩:=QT.mp e;cases e;obtain⟨s,e1,eo⟩:=bind_some eo;obtain⟨d,e2,e3⟩:=bind_some eo;split at e3
  ·cases e3;refine ha B H0 H σ E _ _ I e1 fun v H1 H1' s1 r1=>?_
   have s2:Step H H0 H (JK H H1 H1') H1':=s1.comp (JF s1.i) fun _ z=>z
   exact f _ _ _ l gs (s2.ss I.b) ((I.step s2).setSh (by assumption) (RR.frz s1.i r1 e2)) ((g.step s2).set hij v d) rfl
  ·cases e3
theorem Jpv{wi:TI}{it:En->Option (List LE.D)}{p:Nat}(hi:SI K C false wi it)(ht:SS2 P w K C j t et):SS2 P w K C j (Jda wi (YS p) t) (JaA j it p et):=by
 intro B H0 H σ E l gs o G D I g e f;unfold JaA at e;split at e
 ·cases e
 next hpj =>
 obtain⟨ds,e1,e⟩:=bind_some e;refine hi B H0 H σ E ds _ I e1 fun J H1 H1' s1 ok=>?_
 rw[if_neg (by simp)] at ok;refine⟨fun i m σ' H'=>m=ds.length-i/\i<=ds.length/\∃H0' E' l' gs',EnvR K C B H0' H' σ' E'/\SStep B H1 H0' H'/\Gn P w K B H0' H' σ' E' j l' gs'/\Yl p et (ds.drop i) E' (gs'.map gG)=some (o,G),
  ⟨ds.length,by simp,Gm _,H1,E,l,gs,I.step s1,.refl (I.b.trans s1.h) s1.i,g.step s1,e⟩,?_⟩
 rintro i m σ' H' ⟨rfl,hi',H0',E',l',gs',I',st,g',er⟩;have stop:=ok H0' H' st;have f':FinG P w K C j B H0' D o G:=(f.step (s1.ss I.b)).step st
 by_cases hlt:i<ds.length
 ·have hd:ds[i]?=some ds[i]:=by simp[hlt]
  obtain⟨go,yl⟩:=stop.1 i _ hd;refine .inr ⟨go,fun σ2 H2=>∃H02 E2 l2 gs2,EnvR K C B H02 H2 σ2 E2/\SStep B H1 H02 H2/\Gn P w K B H02 H2 σ2 E2 j l2 gs2/\Yl p et (ds.drop (i+1)) E2 (gs2.map gG)=some (o,G),fun σ2 H2 h=>⟨ds.length-(i+1),by omega,rfl,hlt,h⟩,fun x H2 y=>?_⟩;obtain⟨H02,st2,rx⟩:=yl x H2 y;rw[GP hlt] at er;obtain⟨⟨o1,G1⟩,b2,er⟩:=bind_some er
  have hp:p<E'.length:=by
   false_or_by_contra
   rw[if_neg (by assumption)] at b2;cases b2
  rw[if_pos hp] at b2;have ss2:SStep B H0' H02 H2:=st2.ss I'.b;have I2:=(I'.step st2).setSh (i:=p) hp rx;have g2:=(g'.step st2).set hpj x ds[i];refine ht B H02 H2 _ _ l' gs' o1 G1 _ I2 g2 b2 ?_
  cases o1 with
  | nx E2=>exact fun σ3 H3 H3' l3 gs3 s3 I3 g3 eg=>⟨H3,E2,l3,gs3,I3,(st.trans ss2).trans s3,g3,by rw[eg];exact er⟩
  | rt r=>cases er;exact f'.step ss2
  | _=>cases er
 ·have e3:i=ds.length:=by omega
  subst e3;rw[K8] at er;cases er;exact .inl ⟨stop.2,f' _ _ _ _ _ I'.ss I' g' rfl⟩
end
end LE

namespace LE
open PySem L2 LR
noncomputable def keyP?:Sl->Option (List Pr)
 | .sh (.tup ds)=>Je8 ds
 | _=>none
noncomputable def JjE(G:Gp)(ps:List Pr):Bool:=G.any fun g=>decide (g.1=ps)
noncomputable def Jpt(G:Gp)(ps:List Pr)(n:Int):Gp:=G.map fun g=>if g.1=ps then(g.1,g.2++[n]) else g
noncomputable def JmI(k:Nat):Eg:=fun E G=>(E[k]?.bind keyP?).bind fun ps=>if G.length<999 then some (.nx E,if JjE G ps=true then G else G++[(ps,[])]) else none
noncomputable def JmH(k:Nat)(a:Ev):Eg:=fun E G=>(E[k]?.bind keyP?).bind fun ps=>((a E).bind int?).bind fun n=>if G.length<1000/\JjE G ps=true/\G.all (fun g=>decide (g.2.length<1000))=true then some (.nx E,Jpt G ps n) else none
section
variable{P:Qm}{w:Qp}{K:Qo}{C:Qd}{j:Nat}{B H0 H H0' H':Hp}{σ:St}{E:En}{l:Qd}{gs:List GQ}
theorem JjO{b:Qd}{ps:List Pr}(r:RD K C H (.ref b) (.tup (ps.map prE))):NTup K H b (kyP ps):=by
 obtain⟨a,xs,e,q,rl⟩:=RD.tupI r;cases e
 have go:∀{ps:List Pr} {xs:List V},RDL K C H xs (ps.map prE)->∃cs:List Qd,xs=cs.map V.ref/\Paired (fun c k=>SqT K H c (k.map kV)) cs (kyP ps):=by
  intro ps
  induction ps with
  | nil =>
   intro xs rl
   cases xs with
   | nil=>exact⟨[],rfl,.nil⟩
   | cons x xs=>have:=rl.1;simp at this
  | cons p ps ih =>
   intro xs rl
   cases xs with
   | nil=>have:=rl.1;simp at this
   | cons x xs=>obtain⟨cs,rfl,pr⟩:=ih rl.tail;obtain⟨c,ys,rfl,qc,rc⟩:=RD.tupI rl.head;have e2:ys=[p.1,p.2].map V.int:=RDL.ints (ns:=[p.1,p.2]) rc;subst e2;exact⟨c::cs,rfl,.cons qc pr⟩
 obtain⟨cs,rfl,pr⟩:=go rl;exact⟨cs,q,pr⟩
theorem ZN{k:Nat}{ps:List Pr}(I:EnvR K C B H0 H σ E)(e:E[k]?.bind keyP?=some ps):∃b,σ[k]?=some (some (.ref b))/\NTup K H0 b (kyP ps):=by
 obtain⟨s,e1,e2⟩:=bind_some e;unfold keyP? at e2;split at e2
 ·next ds =>
  have e3:ds=ps.map prE:=V9 e2;subst e3;rcases I.at' k _ e1 with z|⟨v,h1,h2⟩
  ·cases z
  ·obtain⟨b,_,rfl,_⟩:=RD.tupI h2;exact⟨b,h1,JjO h2⟩
 ·cases e2
theorem JdB(hn:(gs.map (·.1)).Nodup)(ps:List Pr):(∃g∈gs,g.1=ps/\atKey (gs.map gx) (kyP ps)=some (g.2.2.1,.ref g.2.2.2)/\JjE (gs.map gG) ps=true)\/(atKey (gs.map gx) (kyP ps)=none/\JjE (gs.map gG) ps=false/\∀g∈gs,g.1≠ps):=by
 by_cases h:∃g∈gs,g.1=ps
 ·obtain⟨g,hg,rfl⟩:=h;obtain⟨m,hm⟩:=Q0.mp hg;refine .inl ⟨g,hg,rfl,?_,?_⟩
  ·refine atKey_of_get ?_ (i:=m) (by rw[Qy,hm];rfl);rw[Kh];have:(gs.map ((·.1) ∘ gx))=(gs.map (·.1)).map kyP:=by rw[Kh];rfl
   rw[this];exact List.Pairwise.map _ (fun a b ne e=>ne (JeD e)) hn
  ·exact K6.mpr ⟨gG g,Gb.mpr ⟨g,hg,rfl⟩,decide_eq_true rfl⟩
 ·refine .inr ⟨atKey_none_of_get fun i p e=>?_,?_,fun g hg e=>h ⟨g,hg,e⟩⟩
  ·rw[Qy] at e;obtain⟨g,hg,eg⟩:=QT.mp e;have:kyP g.1=kyP ps:=congrArg (·.1) eg;exact h ⟨g,QG hg,JeD this⟩
  ·rw[Bool.eq_false_iff];intro q;obtain⟨x,hx,e⟩:=K6.mp q;obtain⟨g,hg,rfl⟩:=Gb.mp hx;exact h ⟨g,hg,of_decide_eq_true e⟩
theorem Jpw{k:Nat}:SS2 P w K C j (Jea (tB (JiF P w K (Y0 k) (Y0 j))) (JeU P w K (Y0 j) (Y0 k) (Jeb YZ)) Jba) (JmI k):=by
 intro B H0 H σ E l gs o G D I g e f;obtain⟨ps,e1,e⟩:=bind_some e;split at e
 ·next hl =>
  rw[QB] at hl;obtain⟨b,hb,nt⟩:=ZN I e1;have nt':NTup K H b (kyP ps):=nt.mono fun _ _ z=>I.h.seqT z
  have nd:=g.rd I.h (by omega);refine⟨_,hb,_,g.at',l,b,_,kyP ps,rfl,rfl,nd,nt',_,rfl,?_⟩;rcases JdB g.kn ps with ⟨q,hq,e2,e3,e4⟩|⟨e3,e4,ne⟩
  ·rw[e4,if_pos rfl] at e;cases e;rw[e3];exact f _ _ _ l gs I.ss I g rfl
  ·rw[e4,if_neg (by simp)] at e;cases e;rw[e3];show JeU P w K (Y0 j) (Y0 k) (Jeb YZ) D σ H;refine⟨Gm _,fun p hp=>?_⟩;have pn:p∉l::gs.map (·.2.2.2):=fun m=>by obtain⟨o,h1,_⟩:=g.there m;rw[hp] at h1;cases h1
   have pl:l≠p:=fun z=>pn (by rw[z];exact QD)
   have p0:H0 p=none:=Same.free I.h hp
   have pb:B p=none:=Same.free I.b hp
   have dl:upd H p (.lst []) l=some (DN P w l (gs.map gx)):=by rw[Jf pl];exact g.d
   have sq:∀c ys,SqT K H c ys->SqT K (upd H p (.lst [])) c ys:=fun c ys q=>by have sm:Same H (upd H p (.lst [])):=.new hp;exact sm.seqT q
   refine⟨_,g.at',_,hb,l,b,p,gs.map gx,kyP ps,rfl,rfl,rfl,⟨.inl dl,nd.sm,nd.len,fun x hx=>(nd.keys x hx).mono sq⟩,dl,nt'.mono sq,?_⟩;rw[storedH_new e3];have I1:EnvR K C B H0 (upd H p (.lst [])) σ E:=I.poke p0 pb (I.fresh hp);have I2:EnvR K C B H0 (upd (upd H p (.lst [])) l (DN P w l (gs.map gx++[(kyP ps,b,Value.ref p)]))) σ E:=I1.poke (g.off l QD).1 (g.off l QD).2 fun i s e o q=>g.own i s l e o q QD
   refine f _ _ _ l (gs++[(ps,[],b,p)]) ⟨I2.b,Same.refl _,fun _ _ z=>.inl z,I2.h⟩ I2 ⟨g.at',?_,g.sm,fun q hq=>?_,fun q hq=>?_,fun a ha=>?_,?_,?_,fun i s a e o q=>?_,g.no⟩ ?_
   ·rw[Jl,GN];rfl
   ·rcases GL.mp hq with z|z
    ·exact g.keys q z
    ·rw[Gi.mp z];exact nt
   ·rcases GL.mp hq with z|z
    ·have ql:q.2.2.2≠l:=fun y=>by have:=(Gc.mp g.nd).1;exact this (y▸Gb.mpr ⟨q,z,rfl⟩)
     have qp:q.2.2.2≠p:=fun y=>pn (y▸Qq _ (Gb.mpr ⟨q,z,rfl⟩))
     rw[Jf ql,Jf qp];exact g.lists q z
    ·rw[Gi.mp z];show upd _ l _ p=_;rw[Jf (QL pl),Jl];rfl
   ·rw[GN] at ha;rcases Qr.mp ha with z|z
    ·rw[z];exact g.off l QD
    ·rcases GL.mp z with y|y
     ·exact g.off a (Qq _ y)
     ·rw[Gi.mp y];exact⟨p0,pb⟩
   ·rw[GN,<- KE];exact Lv.mpr ⟨g.nd,by simp,fun a ha c hc z=>by rw[Gi.mp hc] at z;subst z;exact pn ha⟩
   ·rw[GN];exact Lv.mpr ⟨g.kn,by simp,fun a ha c hc z=>by rw[Gi.mp hc] at z;obtain⟨q,hq,rfl⟩:=Gb.mp ha;exact ne q hq z⟩
   ·rw[GN,<- KE];intro m;rcases GL.mp m with z|z
    ·exact g.own i s a e o q z
    ·rw[Gi.mp z] at q;exact I.fresh hp i s e o q
   ·rw[GN];rfl
 ·cases e
end
end LE

namespace LE
open PySem L2 LR
noncomputable def gQ(ps:List Pr)(n:Int)(g:GQ):GQ:=if g.1=ps then(g.1,g.2.1++[n],g.2.2) else g
theorem Jhe(ps:List Pr)(n:Int)(g:GQ):(gQ ps n g).1=g.1/\(gQ ps n g).2.2=g.2.2/\gx (gQ ps n g)=gx g:=by unfold gQ;split <;> exact⟨rfl,rfl,rfl⟩
section
variable{P:Qm}{w:Qp}{K:Qo}{C:Qd}{j:Nat}{te:TE}{ea:Ev}
theorem Jpu{k:Nat}(ha:SE K C te ea):SS2 P w K C j (WD (tBM K "list" VG (Je5 P w K (Y0 j) (Y0 k)) (Yf te YZ))) (JmH k ea):=by
 intro B H0 H σ E l gs o G D I g e f;obtain⟨ps,e1,e⟩:=bind_some e;obtain⟨n,e2,e⟩:=bind_some e;obtain⟨s,e2,e2'⟩:=bind_some e2;obtain rfl:=JA e2';split at e
 ·next hc =>
  obtain⟨hl,hh,ha1⟩:=hc;cases e;rw[QB] at hl;obtain⟨b,hb,nt⟩:=ZN I e1;have nd:=g.rd I.h hl;rcases JdB g.kn ps with ⟨q,hq,e4,e3,_⟩|⟨_,e4,_⟩
  ·refine⟨_,g.at',_,hb,l,b,_,kyP ps,_,_,rfl,rfl,nd,nt.mono fun _ _ z=>I.h.seqT z,e3,.inl ⟨rfl,_,.of (g.lists q hq)⟩,?_⟩;refine ha B H0 H σ E _ _ I e2 fun v H1 H1' s1 r1=>?_
   have ev:v=.int n:=RD.intI r1;subst ev
   have g1:=g.step s1
   have I1:=I.step s1
   have hz:q.2.1.length<1000:=of_decide_eq_true (Kj.mp ha1 (gG q) (Gb.mpr ⟨q,hq,rfl⟩));refine⟨q.2.2.2,_,.int n,rfl,rfl,g1.lists q hq,by rw[QB];exact Go hz (by decide),?_⟩
   have qm:q.2.2.2∈l::gs.map (·.2.2.2):=Qq _ (Gb.mpr ⟨q,hq,rfl⟩)
   have I2:EnvR K C B H1 (upd H1' q.2.2.2 (.lst (q.2.1.map V.int++[.int n]))) σ E:=I1.poke (g1.off _ qm).1 (g1.off _ qm).2 fun i s e o z=>g1.own i s _ e o z qm
   have m2:(gs.map (gQ ps n)).map (·.2.2.2)=gs.map (·.2.2.2):=by rw[Kh];exact Lf fun x _=>by show(gQ ps n x).2.2.2=_;rw[(Jhe ps n x).2.1]
   have m1:(gs.map (gQ ps n)).map (·.1)=gs.map (·.1):=by rw[Kh];exact Lf fun x _=>(Jhe ps n x).1
   have m3:(gs.map (gQ ps n)).map gx=gs.map gx:=by rw[Kh];exact Lf fun x _=>(Jhe ps n x).2.2
   have ql:l≠q.2.2.2:=fun z=>(Gc.mp g.nd).1 (z▸Gb.mpr ⟨q,hq,rfl⟩)
   refine f _ _ _ l (gs.map (gQ ps n)) ⟨I2.b,s1.z,(s1.ss I.b).n,I2.h⟩ I2 ⟨g.at',?_,g.sm,fun x hx=>?_,fun x hx=>?_,?_,?_,?_,?_,g.no⟩ ?_
   ·rw[m3,Jf ql];exact g1.d
   ·obtain⟨y,hy,rfl⟩:=Gb.mp hx;rw[(Jhe ps n y).1,(Jhe ps n y).2.1];exact g1.keys y hy
   ·obtain⟨y,hy,rfl⟩:=Gb.mp hx
    by_cases c:y.1=ps
    ·obtain rfl:y=q:=by
      obtain⟨m,hm⟩:=Q0.mp hy;obtain⟨m',hm'⟩:=Q0.mp hq;have i1:(gs.map (·.1))[m]?=some ps:=by rw[Qy,hm,<- c];rfl
      have i2:(gs.map (·.1))[m']?=some ps:=by rw[Qy,hm',<- e4];rfl
      have:=(Mp (Qi.mp i1).1 g.kn).mp (i1.trans i2.symm);subst this;rw[hm] at hm';cases hm';rfl
     unfold gQ;rw[if_pos c];show upd _ _ _ y.2.2.2=_;rw[Jl,GN];rfl
    ·unfold gQ;rw[if_neg c]
     have yq:y.2.2.2≠q.2.2.2:=fun z=>by
      obtain⟨m,hm⟩:=Q0.mp hy;obtain⟨m',hm'⟩:=Q0.mp hq;have i1:(gs.map (·.2.2.2))[m]?=some y.2.2.2:=by rw[Qy,hm];rfl
      have i2:(gs.map (·.2.2.2))[m']?=some y.2.2.2:=by rw[Qy,hm',z];rfl
      have:=(Mp (Qi.mp i1).1 (Gc.mp g.nd).2).mp (i1.trans i2.symm);subst this;rw[hm] at hm';cases hm';exact c e4
     rw[Jf yq];exact g1.lists y hy
   ·rw[m2];exact g1.off
   ·rw[m2];exact g.nd
   ·rw[m1];exact g.kn
   ·rw[m2];exact g.own
   ·unfold Jpt;rw[Kh,Kh];refine Lf fun x _=>?_
    show gG (gQ ps n x)=if (gG x).1=ps then((gG x).1,(gG x).2++[n]) else gG x
    unfold gQ gG;split <;> rfl
  ·rw[e4] at hh;cases hh
 ·cases e
noncomputable def Jey(j i:Nat)(ek ea:Ev):Eg:=fun E G=>if i=j then none else(Jdh i ek ea E).map fun o=>(o,G)
theorem JmJ{i:Nat}{ty:TE}{ek:Ev}(ha:SE K C te ea)(hk:SE K C ty ek):SS2 P w K C j (Jim (Y0 i) ty te) (Jey j i ek ea):=by
 intro B H0 H σ E l gs o G D I g e f;unfold Jey at e;split at e
 ·cases e
 next hij =>
 obtain⟨o',eo,e⟩:=QT.mp e;cases e;obtain⟨⟨ks,ds⟩,h,e⟩:=bind_some eo;have h:=JhD h;dsimp only at h e;obtain⟨s,e1,e⟩:=bind_some e;obtain⟨d,e2,e⟩:=bind_some e;obtain⟨n,e3,e⟩:=bind_some e;obtain⟨t,e3,e4⟩:=bind_some e3;obtain rfl:=JA e4;split at e
 ·next hz =>
  cases e;obtain⟨c,xs,g1,g2,g3,g4,gk,g5⟩:=I.slotD h;refine ha B H0 H σ E _ _ I e1 fun v H1 H1' s1 r1=>?_
  have s2:Step H H0 H (JK H H1 H1') H1':=s1.comp (JF s1.i) fun _ z=>z
  have rv:=RR.frz s1.i r1 e2;refine⟨_,g1,?_⟩;refine hk B _ H1' σ E _ _ (I.step s2) e3 fun w' H3 H3' s3 r3=>?_
  have s4:=s2.trans s3
  have hx:ks.length=xs.length:=gk.trans g5.1.symm;obtain⟨_,n0,nB⟩:=(I.step s4).ownG h rfl g1
  have rr:=(g5.mono s4.z).putDs (ks:=ks) (n:=n) (rv.mono s3.z)
  have m:=(I.step s4).mutG (t':=.od (UM ks n) (putDs ks ds n d)) (o':=dkO (UM ks n) (putDs ks xs n v)) h rfl rfl g1 ⟨c,_,rfl,Jl,n0,nB,Ja5 _ _ _ _ gk,rr⟩;rw[RD.intI r3];refine⟨c,_,rfl,.inl ⟨_,Sum.inl n,s4.h _ _ g2,rfl,?_,rfl⟩,?_⟩
  ·simp_all
  ·rw[JcV ks xs n v hx];have g4':=g.step s4;have nc:c∉l::gs.map (·.2.2.2):=g.own i _ c h rfl g1;refine f _ _ _ l gs ⟨m.b,s4.z,(s4.ss I.b).n,m.h⟩ m ⟨g.at',?_,g.sm,g4'.keys,fun q hq=>?_,g4'.off,g.nd,g.kn,fun k s a e o q=>?_,?_⟩ rfl
   ·rw[Jf (show l≠c from fun z=>nc (z▸QD))];exact g4'.d
   ·rw[Jf (show q.2.2.2≠c from fun z=>nc (z▸Qq _ (Gb.mpr ⟨q,hq,rfl⟩)))];exact g4'.lists q hq
   ·by_cases hik:i=k
    ·subst hik;rw[g1] at q;cases q;exact nc
    ·rw[QS hik] at e;exact g.own k s a e o q
   ·rw[QS hij];exact g.no
 ·cases e
noncomputable def xGN(j:Nat)(b:Eg):Es:=fun E=>if j<E.length then(b (E.set j .no) []).bind fun r=>match r.1 with
 | .rt s=>some (.rt s)
 | _=>none else none
theorem JsH{t:TS}{b:Eg}(ht:SS2 P w K C j t b):SS K C (Jdc (Zh (JiD P w) (YS j)) t) (xGN j b):=by
 intro B H0 H σ E o D I e f;unfold xGN at e;split at e
 ·next hj =>
  obtain⟨⟨o1,G1⟩,e1,e⟩:=bind_some e;intro p hp hs;have p0:H0 p=none:=Same.free I.h hp;have pb:B p=none:=Same.free I.b hp;have I1:EnvR K C B H0 (upd H p (DN P w p [])) σ E:=I.poke p0 pb (I.fresh hp)
  have I2:EnvR K C B H0 (upd H p (DN P w p [])) (σ.set j (some (.ref p))) (E.set j .no):=by
   refine⟨I1.b,I1.h,by simp[I1.len],fun i s e=>?_,fun i k s1 s2 v hik e1 e2 o1 o2 e3 e4=>?_,I1.t⟩
   ·by_cases h:j=i
    ·subst h;rw[Qv] at e;simp at e;exact .inl e.2.symm
    ·rw[QS h] at e ⊢;exact I1.at' i s e
   ·by_cases h:j=i
    ·subst h;rw[Qv] at e1;simp at e1;rw[<- e1.2] at o1;cases o1
    ·by_cases h':j=k
     ·subst h';rw[Qv] at e2;simp at e2;rw[<- e2.2] at o2;cases o2
     ·rw[QS h] at e1 e3;rw[QS h'] at e2 e4;exact I1.sep i k s1 s2 v hik e1 e2 o1 o2 e3 e4
  refine ht B H0 _ _ _ p [] o1 G1 D I2 ⟨?_,Jl,hs,(fun g hg=>nomatch hg),(fun g hg=>nomatch hg),fun a ha=>?_,(by simp),(by simp),fun i s a e o q=>?_,?_⟩ e1 ?_
  ·rw[Qv];simp[I.len,hj]
  ·have:a=p:=by simpa using ha
   subst this;exact⟨p0,pb⟩
  ·by_cases h:j=i
   ·subst h;rw[Qv] at e;simp at e;rw[<- e.2] at o;cases o
   ·rw[QS h] at e q;intro m;have:a=p:=by simpa using m
    subst this;exact I.fresh hp i s e o q
  ·rw[Qv];simp[hj]
  ·cases o1 with
   | rt s=>cases e;exact f
   | _=>cases e
 ·cases e
end
end LE

namespace L2
open PySem PySem.Spec PyProof.Rows
noncomputable def Jl0(ta:TA):TE:=fun σ H Q=>ta σ H fun vs H1=>∃j:Int,vs=[.int j]/\∀l,H1 l=none->Q (.ref l) (upd H1 l (.rng 0 j))
theorem Jkj{X:Cx}{a:QV}{ta:TA}{p pos:Pos}(hg:Gl X "range")(hm:X.mg "range"=none)(ha:PA X [a] ta)(hs:starEach [a] X.env=[(false,eval a X.env)]:=by rfl) :
 PE X (.Call (.Name "range" p) [a] [] pos) (Jl0 ta):=by
 intro pins s σ H Q I h;refine Call_ (YY I hg hm boot_range (Q8 (thA (ha pos pins s σ H _ I h) fun us s1 vs H1 I1 r1 q1=>?_) hs rfl));obtain⟨j,e,q⟩:=q1;subst e
 cases r1 with
 | cons r rr =>
 cases rr;obtain⟨t,rfl⟩:=r;exact call_range_1 ⟨.ref s1.heap.objs.size,_,I1.laid (o:=.rng 0 j) (fun b o e=>Qg _ e) (Qn _) (show ObjOk X.prog X.w _ _ _ (.rng 0 j) from⟨_,_,_,Qh _ rfl⟩),rfl,q _ (I1.hok.fresh (Qn _))⟩
noncomputable def Jh6:List V->Hp->VK->Prop:=fun xs H Q=>∃(r:Qd) (n:Nat),xs=[.ref r]/\H r=some (.rng 0 (n:Int))/\n<=1000/\∀l,H l=none->Q (.ref l) (upd H l (.lst ((GS n).map fun i:Nat=>.int (i:Int))))
theorem JaY:∀(l:List Qc) (k:Nat),(∀(j:Nat) (v:Qc),l[j]?=some v->∃t,v=.int ((k+j:Nat):Int) t)->IntsAre l ((List.range' k l.length).map fun i:Nat=>(i:Int))
 | [],_,_=>.nil
 | v::l,k,h=>by
  obtain⟨t,rfl⟩:=h 0 v rfl;rw[K7,List.range'_succ,Gx];exact .cons _ t (JaY l (k+1) fun j u e=>by obtain⟨t,e'⟩:=h (j+1) u (by simpa using e);exact⟨t,by rw[e',show k+(j+1)=k+1+j by omega]⟩)
theorem Jdr{X:Cx}(hc:X.calm=true):CallR X (.type "list") Jh6:=by
 intro pins s σ H xs us Q I r h;obtain⟨p,n,rfl,hp,hn,q⟩:=h;obtain⟨u,rfl,rx⟩:=U9 r;cases rx;obtain⟨t,u,v,e⟩:=(show ObjOk X.prog X.w H s.heap p (.rng 0 (n:Int)) from I.hok p _ hp)
 have hh:X.A.handled=none:=I.ok.hd hc
 have hr:QZ 0 (n:Int) 1=n:=by
  unfold QZ;rw[if_pos (by decide)];split
  ·rw[Int.ediv_one];omega
  ·omega
 refine call_list_range (n:=n) hh e ?_ hr (QJ hn (by decide)) fun h' tk acc c' hk hS items=>?_
 ·simp[Kf,KZ,hr];omega
 ·have hl:acc.toList.length=n:=by rw[QX];exact items.1
  have hI:=JaY acc.toList 0 fun j v e=>by obtain⟨t,e'⟩:=items.2 j v (by simpa using e);exact⟨t,by rw[e'];congr 1;omega⟩
  rw[hl,<- List.range_eq_range'] at hI;have hv:=Y9 hI;rw[Kh] at hv;exact⟨.ref s.heap.objs.size,_,I.laid (t':=tk) hk (Qn _) (show ObjOk X.prog X.w _ _ _ (.lst ((GS n).map fun i:Nat=>V.int (i:Int))) from⟨by rw[QB,Lw];exact QJ hn (by decide),acc.toList,c',hv,hS⟩),rfl,q _ (I.hok.fresh (Qn _))⟩
end L2
namespace LE
open PySem L2 LR
noncomputable abbrev JmF:=fIc (fun a b=>decide (0<=b) && Rs b.natAbs 1000000 && WA a) fun a b=>.int (a*2 ^ b.toNat)
noncomputable abbrev JmG:=fIc (fun _ b=>decide (0<=b)) fun a b=>.int (a / 2 ^ b.toNat)
noncomputable abbrev Jmu:=fI fun a b=>.int (Ra a b)
noncomputable def eLR(as:En->Option (List Sl)):Ev:=fun E=>(as E).bind fun ss=>on1 (fun s=>(int? s).bind fun n=>if decide (0<=n) && decide (n<=1000) then some (.own ((GS n.toNat).map fun i:Nat=>.int (i:Int))) else none) ss
section
variable{K:Qo}{C:Qd}{t:TA}{ev:En->Option (List Sl)}
theorem JpU:OpS K C (rI Jo2 fun i j=>.int (i*2 ^ j.toNat)) JmF:=JdN (fun i j h=>by simp only[QU,decide_eq_true_eq,G8,V8] at h;refine⟨h.1.1,by lia,?_⟩;omega) fun _ _ _=>.int _
theorem JpV:OpS K C (rI (fun _ j=>0<=j) fun i j=>.int (i / 2 ^ j.toNat)) JmG:=JdN (fun i j h=>of_decide_eq_true h) fun _ _ _=>.int _
theorem Jng:OpS K C (rI0 fun i j=>.int (Ra i j)) Jmu:=o_I fun _ _ _=>.int _
end
end LE

namespace LE
open PySem L2 LR
section
variable(P:Qm)(w:Qp)(K:Qo)(C:Qd)(j:Nat)
structure Gz (ob:Obj) (H0 H:Hp) (σ:St) (l:Qd) (gs:List GQ):Prop where
 at':σ[j]?=some (some (.ref l))
 d:H l=some (.frz ob (DN P w l (gs.map gx)))
 sm:(l == sysModules)=false
 len:gs.length<1000
 keys:∀g∈gs,NTup K H0 g.2.2.1 (kyP g.1)
 lists:∀g∈gs,H g.2.2.2=some (.lst (g.2.1.map V.int))
 kn:(gs.map (·.1)).Nodup
noncomputable def SEz(t:TE)(ev:En->Gp->Option Sl):Prop:=∀(ob:Obj) (B H0 H:Hp) (σ:St) (E:En) (l:Qd) (gs:List GQ) (r:Sl) (Q:VK),EnvR K C B H0 H σ E->Gz P w K j ob H0 H σ l gs->ev E (gs.map gG)=some r ->
 (∀v H0' H',Step H H0 H H0' H'->RR K C H H0' H' v r->Q v H')->t σ H Q
noncomputable def SAz(t:TA)(ev:En->Gp->Option (List Sl)):Prop:=∀(ob:Obj) (B H0 H:Hp) (σ:St) (E:En) (l:Qd) (gs:List GQ) (r:List Sl) (Q:List V->Hp->Prop),EnvR K C B H0 H σ E->Gz P w K j ob H0 H σ l gs->ev E (gs.map gG)=some r ->
 (∀vs H0' H',Step H H0 H H0' H'->RRL K C H H0' H' vs r->Q vs H')->t σ H Q
noncomputable def STz(t:TT)(ev:En->Gp->Option Bool):Prop:=∀(ob:Obj) (B H0 H:Hp) (σ:St) (E:En) (l:Qd) (gs:List GQ) (r:Bool) (Q:Bool->Hp->Prop),EnvR K C B H0 H σ E->Gz P w K j ob H0 H σ l gs->ev E (gs.map gG)=some r ->
 (∀H0' H',Step H H0 H H0' H'->Q r H')->t σ H Q
noncomputable def SSz(t:TS)(ev:En->Gp->Option (Option Sl)):Prop:=∀(ob:Obj) (B H0 H:Hp) (σ:St) (E:En) (l:Qd) (gs:List GQ) (r:Option Sl) (D:Ends),EnvR K C B H0 H σ E->Gz P w K j ob H0 H σ l gs->ev E (gs.map gG)=some r ->
 (r=none->∀H0' H',Step H H0 H H0' H'->D.nx σ H')->(∀s,r=some s->∀v H0' H',SStep B H0 H0' H'->RR K C B H0' H' v s->D.rt v H')->t D σ H
end
noncomputable def zE(a:Ev):En->Gp->Option Sl:=fun E _=>a E
noncomputable def zC(a:En->Gp->Option Sl)(as:En->Gp->Option (List Sl)):En->Gp->Option (List Sl):=fun E G=>(a E G).bind fun x=>(as E G).bind fun xs=>some (x::xs)
noncomputable def z0:En->Gp->Option (List Sl):=fun _ _=>some []
noncomputable def zF(f:List Sl->Option Sl)(as:En->Gp->Option (List Sl)):En->Gp->Option Sl:=fun E G=>(as E G).bind f
noncomputable def z2(f:Sl->Sl->Option Sl)(a b:En->Gp->Option Sl):En->Gp->Option Sl:=fun E G=>(a E G).bind fun x=>(b E G).bind fun y=>f x y
noncomputable def zT(a:En->Gp->Option Sl):En->Gp->Option Bool:=fun E G=>(a E G).bind bool?
noncomputable def zLR(as:En->Gp->Option (List Sl)):En->Gp->Option Sl:=fun E G=>(as E G).bind fun ss=>eLR (fun _=>some ss) E
noncomputable def Jej(k:Nat):En->Gp->Option Sl:=fun E G=>(E[k]?.bind keyP?).bind fun ps=>(G.find? fun g=>decide (g.1=ps)).map fun g=>.bo (g.2.map .int)
noncomputable def JiU(c:En->Gp->Option Bool)(a:Ev):En->Gp->Option (Option Sl):=fun E G=>(c E G).bind fun k=>if k=true then(a E).bind fun s=>(keep? s).map some else some none
noncomputable def JoX(a b:En->Gp->Option (Option Sl)):En->Gp->Option (Option Sl):=fun E G=>(a E G).bind fun r=>match r with
 | none=>b E G
 | some s=>some (some s)
section
variable{P:Qm}{w:Qp}{K:Qo}{C:Qd}{j:Nat}{ta tb te:TE}{ea eb:En->Gp->Option Sl}{t:TA}{ev:En->Gp->Option (List Sl)}
theorem Gz.step{ob:Obj}{H0 H H0' H':Hp}{σ:St}{l:Qd}{gs:List GQ}(g:Gz P w K j ob H0 H σ l gs)(st:Step H H0 H H0' H'):Gz P w K j ob H0' H' σ l gs :=
 ⟨g.at',st.h _ _ g.d,g.sm,g.len,fun q hq=>(g.keys q hq).mono fun _ _ z=>st.z.seqT z,fun q hq=>st.h _ _ (g.lists q hq),g.kn⟩
theorem JoZ{a:Ev}(h:SE K C te a):SEz P w K C j te (zE a):=fun _ B H0 H σ E _ _ r Q I _ e q=>h B H0 H σ E r Q I e q
theorem JsK{r:R2}{f:Sl->Sl->Option Sl}(ho:OpS K C r f)(ha:SEz P w K C j ta ea)(hb:SEz P w K C j tb eb):SEz P w K C j (tOp r ta tb) (z2 f ea eb):=by
 intro ob B H0 H σ E l gs c Q I g e q;obtain⟨a,e1,e⟩:=bind_some e;obtain⟨b,e2,e⟩:=bind_some e;exact ha ob B H0 H σ E l gs a _ I g e1 fun x H1 H1' s1 r1=>hb ob B H1 H1' σ E l gs b _ (I.step s1) (g.step s1) e2 fun y H2 H2' s2 r2=>ho H H2 H2' x y a b c Q s2.i (s1.h.trans s2.h) (r1.step s2) (r2.weak fun a q=>Same.free s1.h q) e fun v H3 H3' s3 r3=>q v H3 H3' ((s1.trans s2).comp s3 fun _ z=>z) r3
theorem Jr4:SAz P w K C j YZ z0:=fun _ _ _ _ _ _ _ _ _ _ I _ e q=>by cases e;exact q _ _ _ (.refl I.h) .nil
theorem JoY(ha:SEz P w K C j ta ea)(hr:SAz P w K C j t ev):SAz P w K C j (Yf ta t) (zC ea ev):=by
 intro ob B H0 H σ E l gs c Q I g e q;obtain⟨a,e1,e⟩:=bind_some e;obtain⟨b,e2,e⟩:=bind_some e;cases e;exact ha ob B H0 H σ E l gs a _ I g e1 fun x H1 H1' s1 r1=>hr ob B H1 H1' σ E l gs b _ (I.step s1) (g.step s1) e2 fun y H2 H2' s2 r2=>q _ H2 H2' (s1.trans s2) (.cons (r1.step s2) (r2.weak fun a q=>Same.free s1.h q))
theorem JsI{r:List V->Hp->VK->Prop}{f:List Sl->Option Sl}(hc:Vc K C r f)(ha:SAz P w K C j t ev):SEz P w K C j (tCB r t) (zF f ev):=by intro ob B H0 H σ E l gs c Q I g e q;obtain⟨a,e1,e⟩:=bind_some e;exact ha ob B H0 H σ E l gs a _ I g e1 fun x H1 H1' s1 r1=>hc H H1 H1' x a c Q s1.i s1.h r1 e fun v H3 H3' s3 r3=>q v H3 H3' (s1.comp s3 fun _ z=>z) r3
theorem Jo0(ha:SEz P w K C j te ea):STz P w K C j (Jdd te) (zT ea):=by
 intro ob B H0 H σ E l gs k Q I g e q;obtain⟨a,e1,e⟩:=bind_some e;refine ha ob B H0 H σ E l gs a _ I g e1 fun x H1 H1' s1 r1=>?_
 rw[UE e] at r1;exact⟨k,RD.blI r1,q _ _ s1⟩
theorem JsJ(ha:SAz P w K C j t ev):SEz P w K C j (tCB Jh6 (Yf (Jl0 t) YZ)) (zLR ev):=by
 intro ob B H0 H σ E l gs c Q I g e q;obtain⟨a,e1,e5⟩:=bind_some e;obtain⟨ss,e2,e6⟩:=bind_some e5;cases e2;obtain⟨s,ea,e7⟩:=Yd e6;subst ea;obtain⟨n,e3,e8⟩:=bind_some e7;have es:=JA e3;subst es;split at e8
 ·next hn =>
  cases e8;simp only[QU,decide_eq_true_eq] at hn;refine ha ob B H0 H σ E l gs _ _ I g e1 fun x H1 H1' s1 r1=>?_
  cases r1 with
  | cons r r2 =>
   cases r2;rw[RD.intI r];refine⟨n,rfl,fun p hp=>?_⟩;refine⟨p,n.toNat,rfl,?_,by omega,fun z hz=>?_⟩
   ·rw[Jl];congr 2;omega
   ·have sn:Step H1' H1 H1' H1 (upd H1' p (.rng 0 n)):=⟨.new hp,Same.refl _,fun _ _ e=>.inl e,s1.i.trans (.new hp)⟩
    have s2:=s1.trans sn
    have hl:((GS n.toNat).map fun i:Nat=>V.int (i:Int))=(((GS n.toNat).map fun i:Nat=>(i:Int))).map V.int:=by rw[Kh];rfl
    rw[hl];exact YN s2.i s2.h hz (RDL.ofInts _) fun v H3 H3' s3 r3=>q v H3 H3' (s2.comp s3 fun _ y=>y) (by rw[Kh] at r3;exact r3)
 ·cases e8
theorem Jr2{k:Nat}:SEz P w K C j (Je5 P w K (Y0 j) (Y0 k)) (Jej k):=by
 intro ob B H0 H σ E l gs c Q I g e q;obtain⟨ps,e1,e⟩:=bind_some e;obtain⟨x,e2,rfl⟩:=QT.mp e;obtain⟨b,hb,nt⟩:=ZN I e1;have hx:=List.mem_of_find?_eq_some e2;have hf:=List.find?_some e2;have hp:x.1=ps:=of_decide_eq_true (show decide (x.1=ps)=true from hf);obtain⟨y,hy,rfl⟩:=Gb.mp hx;rcases JdB g.kn ps with ⟨z,hz,z1,z2,_⟩|⟨_,_,ne⟩
 ·have:z=y:=by
   obtain⟨m,hm⟩:=Q0.mp hy;obtain⟨m',hm'⟩:=Q0.mp hz;have i1:(gs.map (·.1))[m]?=some ps:=by rw[Qy,hm,<- hp];rfl
   have i2:(gs.map (·.1))[m']?=some ps:=by rw[Qy,hm',<- z1];rfl
   have:=(Mp (Qi.mp i1).1 g.kn).mp (i1.trans i2.symm);subst this;rw[hm] at hm';cases hm';rfl
  subst this;refine⟨_,g.at',_,hb,l,b,gs.map gx,kyP ps,z.2.2.1,z.2.2.2,rfl,rfl,⟨.inr ⟨ob,g.d⟩,g.sm,by rw[QB];exact Go g.len (by decide),fun x hx=>?_⟩,nt.mono fun _ _ z=>I.h.seqT z,z2,q _ _ _ (.refl I.h) ⟨z.2.2.2,_,rfl,g.lists z hz,RDL.ofInts _⟩⟩;obtain⟨u,hu,rfl⟩:=Gb.mp hx;exact(g.keys u hu).mono fun _ _ z=>I.h.seqT z
 ·exact absurd hp (ne y hy)
theorem Jr3{c:TT}{ec:En->Gp->Option Bool}{a:Ev}(hc:STz P w K C j c ec)(ha:SE K C te a):SSz P w K C j (Jea c (Jgl te) Jba) (JiU ec a):=by
 intro ob B H0 H σ E l gs r D I g e f1 f2;obtain⟨k,e1,e⟩:=bind_some e;refine hc ob B H0 H σ E l gs k _ I g e1 fun H1 H1' s1=>?_
 cases k with
 | true=>rw[if_pos rfl] at e ⊢;obtain⟨s,e2,e⟩:=bind_some e;obtain⟨s',e3,e⟩:=QT.mp e;cases e;exact Jbd ha B H1 H1' σ E (.rt s') D (I.step s1) (by unfold Yk;rw[e2];show(keep? s).map _=_;rw[e3];rfl) fun v H2 H2' s2 r2=>f2 s' rfl v H2 H2' ((s1.ss I.b).trans s2) r2
 | false=>rw[if_neg (by simp)] at e ⊢;cases e;exact f1 rfl _ _ s1
theorem Jr5{t u:TS}{et eu:En->Gp->Option (Option Sl)}(ht:SSz P w K C j t et)(hu:SSz P w K C j u eu):SSz P w K C j (Jdc t u) (JoX et eu):=by
 intro ob B H0 H σ E l gs r D I g e f1 f2;obtain⟨r1,e1,e⟩:=bind_some e;refine ht ob B H0 H σ E l gs r1 _ I g e1 (fun z H1 H1' s1=>?_) fun s z v H1 H1' s1 r2=>?_
 ·subst z;exact hu ob B H1 H1' σ E l gs r D (I.step s1) (g.step s1) e (fun z H2 H2' s2=>f1 z H2 H2' (s1.trans s2)) fun s z v H2 H2' s2 r2=>f2 s z v H2 H2' ((s1.ss I.b).trans s2) r2
 ·subst z;cases e;exact f2 s rfl v H1 H1' s1 r2
end
end LE

namespace LE
open PySem L2 LR
noncomputable def Jfg(k:Nat)(b:En->Gp->Option (Option Sl))(G:Gp):Gp->En->Option (En×Option Sl)
 | [],E=>some (E,none)
 | g::r,E=>(if k<E.length then b (E.set k (.sh (.tup (g.1.map prE)))) G else none).bind fun x=>match x with
  | none=>Jfg k b G r (E.set k (.sh (.tup (g.1.map prE))))
  | some s=>some (E,some s)
noncomputable def Jez(j k:Nat)(b:En->Gp->Option (Option Sl))(e7:Es):Eg:=fun E G=>if k=j\/1000<=G.length then none else(Jfg k b G G E).bind fun r=>match r with
 | (_,some s)=>some (.rt s,G)
 | (E1,none)=>(e7 E1).bind fun o=>match o with
  | .rt s=>some (.rt s,G)
  | _=>none
section
variable{P:Qm}{w:Qp}{K:Qo}{C:Qd}{j:Nat}
theorem Jli{H:Hp}{b:Qd}{ps:List Pr}(t:NTup K H b (kyP ps)):RD K C H (.ref b) (.tup (ps.map prE)):=by
 obtain⟨cs,q,pr⟩:=t;refine .mkT q ?_
 have go:∀{ps:List Pr} {cs:List Qd},Paired (fun c k=>SqT K H c (k.map kV)) cs (kyP ps)->RDL K C H (cs.map V.ref) (ps.map prE):=by
  intro ps
  induction ps with
  | nil=>intro cs pr;cases pr;exact .nil
  | cons p ps ih =>
   intro cs pr
   cases pr with
   | cons h r=>exact .cons (.mkT h (RDL.ofInts [p.1,p.2])) (ih r)
 exact go pr
theorem JmK{k:Nat}{tb t7:TS}{eb:En->Gp->Option (Option Sl)}{e7:Es}(hb:SSz P w K C j tb eb)(h7:SS K C t7 e7) :
 SS2 P w K C j (Jdc (JlY P w j (Jda (JlH P w (Y0 j)) (YS k) tb)) t7) (Jez j k eb e7):=by
 intro B H0 H σ E l gs o G D I g e f;unfold Jez at e;split at e
 ·cases e
 next hc =>
 have hkj:k≠j:=fun z=>hc (.inl z)
 have hlen:gs.length<1000:=by
  have:¬1000<=(gs.map gG).length:=fun z=>hc (.inr z)
  rw[QB] at this;omega
 obtain⟨⟨Ez,rz⟩,ez,e⟩:=bind_some e;have l0:=g.off l QD;refine⟨l,gs.map gx,g.at',g.d,fun ob=>⟨_,g.at',l,ob,gs.map gx,rfl,g.sm,Jl,?_⟩⟩;have I1:EnvR K C B H0 (upd H l (.frz ob (DN P w l (gs.map gx)))) σ E:=I.poke l0.1 l0.2 fun i s e o q=>g.own i s l e o q QD
 have ln:∀q∈gs,q.2.2.2≠l:=fun q hq z=>(Gc.mp g.nd).1 (z▸Gb.mpr ⟨q,hq,rfl⟩)
 have z1:Gz P w K j ob H0 (upd H l (.frz ob (DN P w l (gs.map gx)))) σ l gs:=⟨g.at',Jl,g.sm,hlen,g.keys,fun q hq=>by rw[Jf (ln q hq)];exact g.lists q hq,g.kn⟩
 have ss1:SStep B H0 H0 (upd H l (.frz ob (DN P w l (gs.map gx)))):=I1.ss;refine⟨fun i m σ' H'=>m=gs.length-i/\i<=gs.length/\∃H0' E',EnvR K C B H0' H' σ' E'/\SStep B H0 H0' H'/\Gz P w K j ob H0' H' σ' l gs/\Jfg k eb (gs.map gG) ((gs.drop i).map gG) E'=some (Ez,rz),
  ⟨gs.length,by simp,Gm _,H0,E,I1,ss1,z1,ez⟩,?_⟩
 rintro i m σ' H' ⟨rfl,hi',H0',E',I',st,z',er⟩
 by_cases hlt:i<gs.length
 ·have hd:gs[i]?=some gs[i]:=by simp[hlt]
  refine .inr ⟨⟨z'.d,gx gs[i],by rw[Qy,hd];rfl⟩,fun σ2 H2=>∃H02 E2,EnvR K C B H02 H2 σ2 E2/\SStep B H0 H02 H2/\Gz P w K j ob H02 H2 σ2 l gs/\Jfg k eb (gs.map gG) ((gs.drop (i+1)).map gG) E2=some (Ez,rz),fun σ2 H2 h=>⟨gs.length-(i+1),by omega,rfl,hlt,h⟩,fun x H2 y=>?_⟩;obtain⟨kk,b,v,rfl,ey,rfl⟩:=y;rw[Qy,hd] at ey;cases ey;rw[GP hlt,Gx] at er;obtain⟨x,b2,er⟩:=bind_some er
  have hp:k<E'.length:=by
   false_or_by_contra
   rw[if_neg (by assumption)] at b2;cases b2
  rw[if_pos hp] at b2;have gm:gs[i]∈gs:=MD hlt;have I2:=I'.setSh (i:=k) hp (Jli (z'.keys _ gm));have z2:Gz P w K j ob H0' H2 (σ'.set k (some (.ref gs[i].2.2.1))) l gs:=⟨by rw[QS hkj];exact z'.at',z'.d,z'.sm,z'.len,z'.keys,z'.lists,z'.kn⟩
  refine hb ob B H0' H2 _ _ l gs x _ I2 z2 b2 (fun hx H3 H3' s3=>?_) fun s hx v H3 H3' s3 r3=>?_
  ·subst hx;exact⟨H3,_,I2.step s3,st.trans (s3.ss I2.b),z2.step s3,er⟩
  ·subst hx;cases er;cases e;exact f v H3 H3' (st.trans s3) r3
 ·have e3:i=gs.length:=by omega
  subst e3;rw[K8] at er;cases er;refine .inl ⟨⟨z'.d,by rw[QB]⟩,?_⟩;obtain⟨o7,e7',e⟩:=bind_some e
  cases o7 with
  | rt s=>cases e;exact h7 B H0' H' σ' Ez (.rt s) D I' e7' fun v H3 H3' s3 r3=>f v H3 H3' (st.trans s3) r3
  | _=>cases e
end
end LE
namespace L2
theorem hu6{a c:Nat}(h:a+64<c):a+6<c:=by omega
end L2
namespace LE
open PySem L2 LR
noncomputable def JiQ(i:Nat)(b:Es):Es:=fun E=>b (E.set i .no)
theorem JoT{K:Qo}{C:Qd}{t:TS}{b:Es}(i:Nat)(h:SS K C t b):SS K C t (JiQ i b):=by
 intro B H0 H σ E o D I e f;refine h B H0 H σ (E.set i .no) o D ⟨I.b,I.h,by rw[MZ];exact I.len,fun j s e=>?_,fun j k s1 s2 v hjk e1 e2 o1 o2=>?_,I.t⟩ e f
 ·by_cases q:i=j
  ·subst q;rw[Qv] at e;simp at e;exact .inl e.2.symm
  ·rw[QS q] at e;exact I.at' j s e
 ·by_cases q:i=j
  ·subst q;rw[Qv] at e1;simp at e1;rw[<- e1.2] at o1;cases o1
  ·by_cases q':i=k
   ·subst q';rw[Qv] at e2;simp at e2;rw[<- e2.2] at o2;cases o2
   ·rw[QS q] at e1;rw[QS q'] at e2;exact I.sep j k s1 s2 v hjk e1 e2 o1 o2
end LE
namespace L2
open PySem PySem.Spec PyProof.Rows
section
variable{X:Cx}{K:Qo}{o i value:QV}{pos pos':Pos}{td ty tv:TE}
theorem JdU(h:X.K=K)(hu:X.A.units+6<cLine)(hi:PE X i ty)(ho:PE X o td):PC X .NotIn i o (JiF X.prog X.w K ty td):=by subst h;exact Jf7 hu hi ho
theorem JhW(h:X.K=K)(hu:X.A.units+6<cLine)(ho:PE X o td)(hi:PE X i ty)(hv:PE X value tv)(hs:swapsWith value (some (.Subscript o i pos')) pos.line X.env=pure false) :
 PS X (.Assign [.Subscript o i pos'] value pos) (JeU X.prog X.w K td ty tv):=by
 subst h;exact Jkv hu ho hi hv hs
theorem Wu(h:X.K=K)(hu:X.A.units+6<cLine)(ho:PE X o td)(hi:PE X i ty)(hs:JiW i):PE X (.Subscript o i pos) (Je5 X.prog X.w K td ty):=by subst h;exact Jki hu ho hi hs
end
end L2

end
open L2 LR
local macro_rules | `(tactic| walk_at "side")=>`(tactic| first | decide | exact⟨by decide,by decide,by decide⟩ | exact⟨by decide,by decide⟩ | (show(0:Int)<_;omega) | (show(0:Int)<_/\_<(1073741824:Int);omega) | exact Or.inl ⟨by omega,by omega⟩ | exact Or.inr ⟨by omega,by omega⟩ | assumption)
local macro_rules | `(tactic| walk_at "rd1")=>`(tactic| with_reducible first | refine Jop ?_ | refine Jn6 ?_ | refine Job ?_ | refine Jon ?_ | refine JkD ?_ | refine JkJ ?_ | refine Jqf ?_ | refine Jqi ?_ | refine JkN ?_ | refine Jqh ?_ | refine JkO ?_ | refine Jn5 ?_ | refine Jqg ?_ | refine Jol ?_ | refine JkL ?_ | refine JkB ?_ | refine Jom ?_ | refine Joa ?_ | refine JkC ?_ | refine Jok ?_ | refine Jqc ?_ | refine Zp ?_ | refine LR.JeT ?_ | refine Joq ?_ | refine Joh ?_ | refine Jqe ?_ | refine Jif ?_ | refine JkF ?_ | refine Jie ?_ | refine JkE ?_ | refine Jn9 ?_ | refine JkM ?_ | refine Jid ?_ | refine Jos ?_ | refine Jsm ?_ | refine Jqd ?_ | refine Jso ?_ | refine JkA ?_ | refine Jn7 ?_ | refine Joi ?_ | refine Jn8 ?_ | refine Joj ?_ | refine Joc ?_ | refine JkK ?_ | refine Jig ?_ | refine Jih ?_ | refine Exists.intro _ (And.intro (LR.JoK _ _ _) ?_))
local macro_rules | `(tactic| walk_at "rd2")=>`(tactic| first | ((with_reducible refine Jsn ?hc ?_);(case hc=>walk_at "side")) | ((with_reducible refine Jor (v:=?vv) ?hx ?_);(case hx=>exact rfl)) | (with_reducible refine Exists.intro _ (And.intro (Eq.refl (V.bl _)) ?_)))
local macro_rules | `(tactic| walk_at "rd")=>`(tactic| repeat (first | walk_at "rd1" | walk_at "rd2"))
noncomputable section
namespace LK
open PySem L2 LR LE
noncomputable def Vh:List Sl->Option Sl:=JZ 4 (Jq (Wb 1 (Ub a0))
 (Jq (UR (iV 0) (.nm 2) (Jq (Jt 3 (Jb 2))
 (Jq (xIf (tAnd? (tTru? (Jb 1)) (tB? (e2 fEq (eF Wh (aC (e2 fIx (Jb 1) (e1 WO (eC (.int 1)))) a0)) (Jb 2)))) (JiR 1 3 fun s=>fIx s (.sh (.int 0))) J1)
 (Jdg 1 (Um (aC (Jb 3) (aC (e2 Ys (e2 JO (Jb 2) (eC (.int 1))) (Jb 3)) a0)))))))
 (US 1)))
noncomputable def Yo:List Sl->Option Sl:=JZ 1 (Jq (xIf (tB? (e2 fGt (eF Ug (aC (Jb 0) a0)) (eC (.int 400)))) J8 J1)
 (Yk (eF Jdz (aC (eU 1 Vh (aC (Jbn (Jb 0)) a0)) a0))))
noncomputable def UZ:List Sl->Option Sl:=JZ 10 (Jq (Wb 2 (Ub a0))
 (Jq (Jt 3 (eC (.int 0)))
 (Jq (Jt 4 (eC (.int 0)))
 (Jq (UR (iR1 (aC (eF Ug (aC (Jb 0) a0)) a0)) (.nm 5) (Jq (JoM (.tp (.cons (.nm 6) (.cons (.nm 7) .nil))) (e2 fIx (Jb 0) (Jb 5)))
 (Jq (Jt 8 (Jb 7))
 (Jq (xIf (tB? (e2 ZF (Jb 1) (eC .non))) (Jt 8 (eF Jdy (aC (Jb 7) (aC (e2 Ys (Jb 1) (Jb 3)) a0)))) J1)
 (Jq (Jt 3 (e2 JO (Jb 3) (Jb 8)))
 (Jq (Jt 4 (e2 JO (Jb 4) (Jb 8)))
 (Jq (Jt 9 (Jb 3))
 (Jq (xIf (tB? (e2 fLt (e2 JO (Jb 5) (eC (.int 1))) (eF Ug (aC (Jb 0) a0)))) (Jt 9 (eF Jdy (aC (Jb 3) (aC (e2 Ys (e2 Ys (e2 fIx (e2 fIx (Jb 0) (e2 JO (Jb 5) (eC (.int 1)))) (eC (.int 0))) (Jb 6)) (Jb 7)) a0)))) J1)
 (Jq (Jt 3 (e2 Ys (Jb 3) (Jb 9)))
 (Jdg 2 (Um (aC (e2 JO (Jb 6) (Jb 8)) (aC (e2 JO (e2 Ys (Jb 7) (Jb 8)) (Jb 9)) a0)))))))))))))
 (JoN 2 (Yk (Um (aC (Jb 2) (aC (Jb 4) a0)))))))))
noncomputable def Up:List Sl->Option Sl:=JZ 3 (Jq (UR (iE false (Ub (aC (Jb 0) (aC (e2 fIx (eU 2 UZ (aC (Jb 0) (aC (eC .non) a0))) (eC (.int 0))) a0)))) (.nm 2) (xIf (tAnd? (tB? (e2 fNe (Jb 2) (Ub a0))) (tOr? (tB? (e2 fLt (e2 fIx (e2 fIx (Jb 2) (eC (.int 0))) (eC (.int 0))) (eC (.int 0)))) (tB? (e2 fGt (e2 JO (e2 fIx (e2 fIx (Jb 2) (e1 WO (eC (.int 1)))) (eC (.int 0))) (e2 fIx (e2 fIx (Jb 2) (e1 WO (eC (.int 1)))) (eC (.int 1)))) (Jb 1))))) (Yk (eC (.bl false))) J1))
 (Yk (eC (.bl true))))
noncomputable def UY:List Sl->Option Sl:=JZ 2 (Jq (Jt 1 (Ub (aC (Zz ["BadTable","NoRow","TooMany"] "BadRow" (Jb 0)) (aC (Zz ["BadTable","NoRow","TooMany"] "TooMany" (Jb 0)) (aC (Zz ["BadTable","NoRow","TooMany"] "BadText" (Jb 0)) (aC (Zz ["BadTable","NoRow","TooMany"] "BadSeats" (Jb 0)) a0))))))
 (Jq (Jt 1 (e2 JO (Jb 1) (Ub (aC (Zz ["BadTable","NoRow","TooMany"] "BadTable" (Jb 0)) (aC (Zz ["BadTable","NoRow","TooMany"] "BadDeed" (Jb 0)) (aC (Zz ["BadTable","NoRow","TooMany"] "Unlike" (Jb 0)) (aC (Zz ["BadTable","NoRow","TooMany"] "NoRow" (Jb 0)) a0)))))))
 (Yk (Jdv (e2 fEq (eMB Jpm (Jb 1) (eC (.bl true))) (eC (.int 1))) (Jdv (Zz ["BadTable","NoRow","TooMany"] "LumpError" (Jb 0)) (Jpj ["BadTable","NoRow","TooMany"] (Jb 0)))))))
noncomputable def Vi:List Sl->Option Sl:=JZ 2 (Yk (eIf (tB? (e2 fIs (Jb 1) (eC .non))) (Jb 0) (eF Jdy (aC (Jb 0) (aC (Jb 1) a0)))))
noncomputable def Yi:List Sl->Option Sl:=JZ 2 (xIf (tB? (e2 fGt (eF Wh (aC (J9 (iE true (Jb 0)) (.tp (.cons (.nm 0) (.cons (.nm 1) .nil))) yes? (Jb 1) [none,none]) a0)) (Jb 1))) J8 J1)
noncomputable def Y4:List Sl->Option Xm:=Jcj 2 (Jg5 (tB? (e2 fGt (eF Wh (aC (J9 (iE true (Jb 0)) (.tp (.cons (.nm 0) (.cons (.nm 1) .nil))) yes? (Jb 1) [none,none]) a0)) (Jb 1))) (Wf "TooMany" (aC (eC (.str "so many lumps are too many in all")) a0)) We)
noncomputable def J6:List Sl->Option Sl:=JZ 4 (Jq (Jt 1 (eC (.int 0)))
 (UR (iV 0) (.tp (.cons (.nm 2) (.cons (.nm 3) .nil))) (Jq (xIf (tB? (e2 fLe (Jb 2) (Jb 1))) J8 J1)
 (Jq (xIf (tB? (e2 fLt (Jb 3) (eC (.int 1)))) J8 J1)
 (Jt 1 (Jb 2))))))
noncomputable def Yz:List Sl->Option Xm:=Jcj 4 (UG (Jt 1 (eC (.int 0)))
 We (Jg4 (iV 0) (.tp (.cons (.nm 2) (.cons (.nm 3) .nil))) (Jq (xIf (tB? (e2 fLe (Jb 2) (Jb 1))) J8 J1)
 (Jq (xIf (tB? (e2 fLt (Jb 3) (eC (.int 1)))) J8 J1)
 (Jt 1 (Jb 2)))) (UG (xIf (tB? (e2 fLe (Jb 2) (Jb 1))) J8 J1)
 (Jg5 (tB? (e2 fLe (Jb 2) (Jb 1))) (Wf "BadTable" (aC (eC (.str "sizes of lumps are from 1 on, ascending, each of them once")) a0)) We) (UG (xIf (tB? (e2 fLt (Jb 3) (eC (.int 1)))) J8 J1)
 (Jg5 (tB? (e2 fLt (Jb 3) (eC (.int 1)))) (Wf "BadTable" (aC (eC (.str "numbers of lumps are from 1 on")) a0)) We) We))))
noncomputable def Ud:List Sl->Option Sl:=JZ 1 (xIf (tAnd? (tB? (e2 ZF (Jb 0) (eC .non))) (tB? (e2 fLt (Jb 0) (eC (.int 1))))) J8 J1)
noncomputable def Uf:List Sl->Option Sl:=JZ 2 (Jq (Va (eU 1 Ud (aC (Jb 1) a0)))
 (Jq (Va (eU 1 J6 (aC (Jb 0) a0)))
 (Jq (Va (eU 2 Yi (aC (Jb 0) (aC (eC (.int 30)) a0))))
 (Yk (eF Wh (aC (J9 (iE true (Jb 0)) (.tp (.cons (.nm 0) (.cons (.nm 1) .nil))) yes? (e2 Zb (Jb 1) (eU 2 Vi (aC (Jb 0) (aC (Jb 2) a0)))) [none,none,some 1]) a0))))))
noncomputable def Yx:List Sl->Option Sl:=JZ 2 (Jq (Va (eU 1 J6 (aC (Jb 1) a0)))
 (Jq (Va (eU 2 Yi (aC (Jb 1) (aC (eC (.int 12)) a0))))
 (Yk (J9 (iE true (Jb 1)) (.tp (.cons (.nm 0) (.cons (.nm 1) .nil))) yes? (Um (aC (Jb 0) (aC (e2 Ys (Jb 2) (e2 Zb (eC (.int 2)) (eU 2 Uf (aC (Jb 3) (aC (Jb 0) a0))))) a0))) [none,none,some 0,some 1]))))
noncomputable def Vj:List Sl->Option Xm:=Jcj 2 (UG (Va (eU 1 J6 (aC (Jb 1) a0)))
 (exU 1 Yz (aC (Jb 1) a0)) (UG (Va (eU 2 Yi (aC (Jb 1) (aC (eC (.int 12)) a0))))
 (exU 2 Y4 (aC (Jb 1) (aC (eC (.int 12)) a0))) We))
noncomputable def YG:List Sl->Option Sl:=JZ 4 (Jq (xIf (tB? (e2 fLt (Jb 1) (eC (.int 0)))) (Yk (eC (.int 0))) J1)
 (Jq (Jt 2 (eC (.int 1)))
 (Jq (UR (iR1 (aC (Jb 1) a0)) (.nm 3) (Jt 2 (e2 Jck (e2 Zb (Jb 2) (e2 Ys (Jb 0) (Jb 3))) (e2 JO (Jb 3) (eC (.int 1))))))
 (US 2))))
noncomputable def Ju:List Sl->Option Sl:=JZ 2 (Yk (eIf (tB? (e2 fLt (Jb 0) (eC (.int 0)))) (eC (.int 0)) (eU 2 YG (aC (e2 JO (Jb 0) (Jb 1)) (aC (Jb 1) a0)))))
noncomputable def JT:List Sl->Option Sl:=JZ 3 (Jq (Jt 2 (eF Wh (aC (J9 (JaW true (aC (Jb 1) a0)) (.tp (.cons (.nm 0) (.cons (.nm 1) .nil))) yes? (eU 2 Ju (aC (e2 Ys (e2 Ys (Jb 2) (Jb 1)) (eC (.int 1))) (aC (e2 Ys (eF Ug (aC (Jb 3) a0)) (Jb 0)) a0))) [none,none,some 0,some 1]) a0)))
 (Yk (e2 Ys (e2 Ys (eU 2 Ju (aC (Jb 0) (aC (eF Ug (aC (Jb 1) a0)) a0))) (eC (.int 1))) (Jb 2))))
noncomputable def UX:List Sl->Option Sl:=JZ 5 (Jq (Wb 1 (Ub a0))
 (Jq (UR (iV 0) (.tp (.cons (.nm 2) (.cons (.nm 3) .nil))) (xIf (tAnd? (tTru? (Jb 1)) (tB? (e2 fEq (eF Wh (aC (e2 fIx (Jb 1) (e1 WO (eC (.int 1)))) a0)) (Jb 2)))) (Jq (JiR 1 4 some)
 (Jdg 1 (Um (aC (e2 fIx (Jb 4) (eC (.int 0))) (aC (e2 JO (e2 fIx (Jb 4) (eC (.int 1))) (Jb 3)) a0))))) (xIf (tB? (e2 fGt (Jb 3) (eC (.int 0)))) (Jdg 1 (Um (aC (Jb 2) (aC (Jb 3) a0)))) J1)))
 (US 1)))
noncomputable def Yt:List Sl->Option Sl:=JZ 2 (Yk (J9 (JaW true (aC (e1 UH (Jb 0)) a0)) (.tp (.cons (.nm 0) (.cons (.nm 1) .nil))) yes? (Um (aC (e2 JO (e2 fIx (Jb 1) (eC (.int 0))) (e2 Zb (e2 Zb (eC (.int 2)) (Jb 2)) (Jb 0))) (aC (e2 JO (e2 fIx (Jb 1) (eC (.int 1))) (Jb 2)) a0))) [none,none,some 1]))
noncomputable def VO:List Sl->Option Sl:=JZ 1 (Yk (J9 (Jhk true (aC (e1 UH (Jb 0)) (aC (eSl (e1 UH (Jb 0)) (some (eC (.int 1))) none) a0))) (.tp (.cons (.nm 0) (.cons (.nm 1) .nil))) yes? (e2 Ys (e2 fIx (Jb 1) (eC (.int 0))) (eF Wh (aC (Jb 0) a0))) [none,none]))
noncomputable def Yu:List Sl->Option Sl:=JZ 1 (Yk (eF Jg9 (aC (e2 JO (J9 (iE true (e1 UH (Jb 0))) (.tp (.cons (.nm 0) (.cons (.nm 1) .nil))) yes? (Jb 1) [none,none]) (eU 1 VO (aC (Jb 0) a0))) a0)))
noncomputable def YH:List Sl->Option Sl:=JZ 5 (Jq (Jt 2 (eF Jdz (aC (e1 UH (Jb 0)) a0)))
 (Jq (Jt 3 (Jb 1))
 (Jq (U7 (tAnd? (tB? (e2 fGt (Jb 3) (eC (.int 0)))) (tTru? (e1 UH (Jb 2)))) (Jq (Jt 4 (eF Jdy (aC (Jb 3) (aC (eU 1 Yu (aC (Jb 2) a0)) a0))))
 (Jq (Jt 2 (eF Jdz (aC (eU 1 UX (aC (eU 2 Yt (aC (Jb 2) (aC (e1 WO (Jb 4)) a0))) a0)) a0)))
 (JiO (fun i j=>i-j) 3 (Jb 4)))) 1000000)
 (US 2))))
noncomputable def UW:List Sl->Option Sl:=JZ 2 (Yk (eF Jpl (aC (J9 (iE true (e1 UH (Jb 0))) (.tp (.cons (.nm 0) (.cons (.nm 1) .nil))) yes? (Jbl fLe fLt (Jb 0) (Jb 2) (e2 JO (Jb 0) (Jb 1))) [none,none,some 1]) a0)))
noncomputable def VP:List Sl->Option Sl:=JZ 2 (Yk (eIf (tAnd? (tTru? (eU 2 UW (aC (Jb 0) (aC (e2 Ys (Jb 1) (eC (.int 1))) a0)))) (tNot? (tTru? (eU 2 UW (aC (Jb 0) (aC (Jb 1) a0)))))) (eC (.int 1)) (eC (.int 0))))
noncomputable def WN:List Sl->Option Sl:=JZ 6 (Jq (Jt 1 (eU 2 YH (aC (Jb 0) (aC (eC (.int 1)) a0))))
 (Jq (Wb 2 JaS)
 (Jq (UR (JaW false (aC (e1 UH (Jb 0)) a0)) (.tp (.cons (.nm 3) (.cons (.nm 4) .nil))) (Jq (Jt 5 (e2 Ys (e2 Ys (eF Wh (aC (Jb 4) a0)) (eC (.int 1))) (e2 Zb (eC (.int 2)) (Jb 3))))
 (Jdh 2 (Jb 5) (e2 JO (Vf (Jb 2) (Jb 5) (eC (.int 0))) (eC (.int 1))))))
 (JiP 2 (Yk (J9 (JdD (Jb 2)) (.tp (.cons (.nm 0) (.cons (.nm 1) .nil))) yes? (Um (aC (Jb 0) (aC (Jb 1) (aC (eU 2 VP (aC (Jb 2) (aC (Jb 0) a0))) a0)))) [none,none,some 1]))))))
noncomputable def YR:List Sl->Option Sl:=JZ 5 (Jq (Wb 1 (Ub a0))
 (Jq (Jt 2 (Jb 0))
 (Jq (Jt 3 (eC (.int 0)))
 (Jq (U7 (tTru? (e1 UH (Jb 2))) (Jq (Jt 4 (eU 1 Yu (aC (Jb 2) a0)))
 (Jq (JiO (fun i j=>i+j) 3 (Jb 4))
 (Jq (Jt 2 (eU 2 YH (aC (Jb 2) (aC (e2 Ys (Jb 4) (eC (.int 1))) a0))))
 (Jq (Jgs 1 (J9 (iE true (eU 1 WN (aC (Jb 2) a0))) (.tp (.cons (.nm 0) (.cons (.nm 1) (.cons (.nm 2) .nil)))) (tB? (e2 fGt (Jb 1) (Jb 2))) (Um (aC (Jb 3) (aC (Jb 0) (aC (e2 Ys (Jb 1) (Jb 2)) a0)))) [none,none,none,some 3]))
 (Jt 2 (eU 2 YH (aC (Jb 2) (aC (eC (.int 1)) a0)))))))) 1000000)
 (US 1)))))
noncomputable def Yw:List Sl->Option Sl:=JZ 5 (Jq (Wb 1 (Ub a0))
 (Jq (UR (iE false (eU 1 YR (aC (Jb 0) a0))) (.tp (.cons (.nm 2) (.cons (.nm 3) (.cons (.nm 4) .nil)))) (Jgs 1 (e2 JmE (Ub (aC (Um (aC (Jb 2) (aC (Jb 3) a0))) a0)) (Jb 4))))
 (US 1)))
noncomputable def Yh:List Sl->Option Sl:=JZ 5 (Jq (Wb 1 JaS)
 (Jq (UR (iE false (eU 1 YR (aC (Jb 0) a0))) (.tp (.cons (.nm 2) (.cons (.nm 3) (.cons (.nm 4) .nil)))) (Jdh 1 (Jb 2) (e2 JO (Vf (Jb 1) (Jb 2) (eC (.int 0))) (Jb 4))))
 (Yk (Jbm (Jb 1)))))
noncomputable def Yj:List Sl->Option Sl:=JZ 8 (Jq (Jt 2 (eU 1 Yh (aC (Jb 1) a0)))
 (Jq (Jt 3 (eU 1 Yw (aC (Jb 1) a0)))
 (Jq (Jt 4 (eC (.int 0)))
 (Jq (UR (iE false (eU 2 Yx (aC (Jb 0) (aC (Jb 2) a0)))) (.tp (.cons (.nm 5) (.cons (.nm 6) .nil))) (Jq (Jt 7 (J9 (iE true (Jb 3)) (.tp (.cons (.nm 0) (.cons (.nm 1) .nil))) (tB? (e2 fEq (Jb 0) (Jb 2))) (Jb 1) [none,none,some 5]))
 (Jq (xIf (tOr? (tB? (e2 fLt (e2 fIx (Jb 7) (eC (.int 0))) (eC (.int 0)))) (tB? (e2 fGt (e2 fIx (Jb 7) (e1 WO (eC (.int 1)))) (Jb 6)))) J8 J1)
 (Jt 4 (e2 JO (e2 Jcl (Jb 4) (eU 2 Ju (aC (Jb 6) (aC (eF Ug (aC (Jb 7) a0)) a0)))) (eU 2 JT (aC (Jb 6) (aC (Jb 7) a0))))))))
 (Yk (Um (aC (Jb 2) (aC (Jb 4) a0))))))))
noncomputable def Y5:List Sl->Option Xm:=Jcj 8 (UG (Jt 2 (eU 1 Yh (aC (Jb 1) a0)))
 We (UG (Jt 3 (eU 1 Yw (aC (Jb 1) a0)))
 We (UG (Jt 4 (eC (.int 0)))
 We (UG (UR (iE false (eU 2 Yx (aC (Jb 0) (aC (Jb 2) a0)))) (.tp (.cons (.nm 5) (.cons (.nm 6) .nil))) (Jq (Jt 7 (J9 (iE true (Jb 3)) (.tp (.cons (.nm 0) (.cons (.nm 1) .nil))) (tB? (e2 fEq (Jb 0) (Jb 2))) (Jb 1) [none,none,some 5]))
 (Jq (xIf (tOr? (tB? (e2 fLt (e2 fIx (Jb 7) (eC (.int 0))) (eC (.int 0)))) (tB? (e2 fGt (e2 fIx (Jb 7) (e1 WO (eC (.int 1)))) (Jb 6)))) J8 J1)
 (Jt 4 (e2 JO (e2 Jcl (Jb 4) (eU 2 Ju (aC (Jb 6) (aC (eF Ug (aC (Jb 7) a0)) a0)))) (eU 2 JT (aC (Jb 6) (aC (Jb 7) a0))))))))
 (Jms (Jg4 (iE false (eU 2 Yx (aC (Jb 0) (aC (Jb 2) a0)))) (.tp (.cons (.nm 5) (.cons (.nm 6) .nil))) (Jq (Jt 7 (J9 (iE true (Jb 3)) (.tp (.cons (.nm 0) (.cons (.nm 1) .nil))) (tB? (e2 fEq (Jb 0) (Jb 2))) (Jb 1) [none,none,some 5]))
 (Jq (xIf (tOr? (tB? (e2 fLt (e2 fIx (Jb 7) (eC (.int 0))) (eC (.int 0)))) (tB? (e2 fGt (e2 fIx (Jb 7) (e1 WO (eC (.int 1)))) (Jb 6)))) J8 J1)
 (Jt 4 (e2 JO (e2 Jcl (Jb 4) (eU 2 Ju (aC (Jb 6) (aC (eF Ug (aC (Jb 7) a0)) a0)))) (eU 2 JT (aC (Jb 6) (aC (Jb 7) a0))))))) (UG (Jt 7 (J9 (iE true (Jb 3)) (.tp (.cons (.nm 0) (.cons (.nm 1) .nil))) (tB? (e2 fEq (Jb 0) (Jb 2))) (Jb 1) [none,none,some 5]))
 We (UG (xIf (tOr? (tB? (e2 fLt (e2 fIx (Jb 7) (eC (.int 0))) (eC (.int 0)))) (tB? (e2 fGt (e2 fIx (Jb 7) (e1 WO (eC (.int 1)))) (Jb 6)))) J8 J1)
 (Jg5 (tOr? (tB? (e2 fLt (e2 fIx (Jb 7) (eC (.int 0))) (eC (.int 0)))) (tB? (e2 fGt (e2 fIx (Jb 7) (e1 WO (eC (.int 1)))) (Jb 6)))) (Wf "NoRow" (aC (eC (.str "the boxes don't hold this row")) a0)) We) We))) (exU 2 Vj (aC (Jb 0) (aC (Jb 2) a0)))) We))))
noncomputable def Yv:List Sl->Option Sl:=JZ 4 (Jq (Jt 2 (eC .non))
 (Jq (JoP ["BadTable","NoRow","TooMany"] 3 (Va (eU 2 Yj (aC (Jb 0) (aC (Jb 1) a0)))) (exU 2 Y5 (aC (Jb 0) (aC (Jb 1) a0))) (Jt 2 (Jb 3)))
 (Yk (Jdv (Zz ["BadTable","NoRow","TooMany"] "NoRow" (Jb 2)) (eU 1 UY (aC (Jb 2) a0))))))
noncomputable def U0:List Sl->Option Sl:=JZ 2 (Yk (eF Jdz (aC (eU 2 Yt (aC (Jb 0) (aC (Jb 1) a0))) a0)))
noncomputable def Uc:List Sl->Option Sl:=JZ 2 (Yk (eF Wh (aC (J9 (iE true (e1 UH (Jb 0))) (.tp (.cons (.nm 0) (.cons (.nm 1) .nil))) yes? (eF JmD (aC (eC (.int 0)) (aC (eF Jdy (aC (Jb 1) (aC (e2 Ys (Jb 2) (Jb 0)) a0))) a0))) [none,none,some 1]) a0)))
noncomputable def Vg:List Sl->Option Sl:=JZ 8 (Jq (Wb 2 (Ub a0))
 (Jq (Jt 3 (eC (.int 0)))
 (Jq (UR (JaW false (aC (Jb 1) a0)) (.tp (.cons (.nm 4) (.cons (.nm 5) .nil))) (Jq (Jt 6 (eU 2 Uc (aC (Jb 0) (aC (Jb 5) a0))))
 (Jq (Jt 7 (e2 Ys (Jb 6) (Jb 3)))
 (Jq (Jdg 2 (Um (aC (e2 Ys (e2 JO (Jb 5) (e2 Zb (eC (.int 2)) (Jb 4))) (Jb 7)) (aC (e2 JO (Jb 7) (eC (.int 1))) a0))))
 (Jt 3 (Jb 6))))))
 (US 2))))
noncomputable def WL:List Sl->Option Sl:=JZ 5 (Jq (xIf (tB? (e2 fGt (e2 JO (eF Ug (aC (e1 UH (Jb 0)) a0)) (eF Wh (aC (J9 (iE true (Jb 1)) (.tp (.cons (.nm 0) (.cons (.nm 1) .nil))) yes? (Jb 1) [none,none]) a0))) (eC (.int 30)))) J8 J1)
 (Jq (Wb 2 (J9 (iE true (e1 UH (Jb 0))) (.tp (.cons (.nm 0) (.cons (.nm 1) .nil))) yes? (e2 JO (Jb 0) (Jb 1)) [none,none]))
 (Jq (UR (iV 1) (.tp (.cons (.nm 3) (.cons (.nm 4) .nil))) (Jgs 2 (e2 JmE (Ub (aC (Jb 3) a0)) (Jb 4))))
 (Yk (eF Jdz (aC (eU 2 Vg (aC (Jb 0) (aC (eF Wg (aC (Jb 2) a0)) a0))) a0))))))
noncomputable def Ue:List Sl->Option Sl:=JZ 5 (Jq (Jt 1 (eC .non))
 (Jq (UR (iV 0) (.tp (.cons (.nm 2) (.cons (.nm 3) (.cons (.nm 4) .nil)))) (Jq (xIf (tOr? (tB? (e2 fLt (Jb 2) (eC (.int 1)))) (tB? (e2 fLt (Jb 4) (eC (.int 1))))) J8 J1)
 (Jq (xIf (tAnd? (tB? (e2 ZF (Jb 1) (eC .non))) (tB? (e2 Jmv (Um (aC (Jb 2) (aC (Jb 3) a0))) (Jb 1)))) J8 J1)
 (Jt 1 (Um (aC (Jb 2) (aC (Jb 3) a0)))))))
 (xIf (tB? (e2 fGt (eF Wh (aC (J9 (iE true (Jb 0)) (.tp (.cons (.nm 0) (.cons (.nm 1) (.cons (.nm 2) .nil)))) yes? (Jb 2) [none,none,none]) a0)) (eC (.int 30)))) J8 J1)))
noncomputable def WM:List Sl->Option Sl:=JZ 8 (Jq (Va (eU 1 Ue (aC (Jb 0) a0)))
 (Jq (Wb 1 JaS)
 (Jq (JoO (iV 0) (.tp (.cons (.nm 2) (.cons (.nm 3) (.cons (.nm 4) .nil)))) 1 (Jb 2) (Um (aC (Jb 3) (aC (Jb 4) a0))))
 (Jq (Jt 5 (Jdw (Jb 1)))
 (Jq (Jt 6 (eF Jdz (aC (Ub a0) a0)))
 (Jq (UR (JmP false (aC (JgY (aC (e2 JO (Ub (aC (eC (.int 0)) a0)) (Jb 5)) (aC (Jb 5) a0))) a0)) (.tp (.cons (.nm 7) (.cons (.nm 2) .nil))) (Jt 6 (eU 2 U0 (aC (eU 2 WL (aC (Jb 6) (aC (Jmh (Jb 1) (Jb 2)) a0))) (aC (e2 Ys (e2 Ys (Jb 2) (Jb 7)) (eC (.int 1))) a0)))))
 (US 6)))))))
noncomputable def Uu:List Sl->Option Sl:=JZ 6 (Jq (Jt 3 (eC (.int 0)))
 (Jq (Jt 4 (Jb 0))
 (Jq (U7 (tB? (e2 fLt (Jb 3) (Jb 4))) (Jq (Jt 5 (e2 Jck (e2 JO (Jb 3) (Jb 4)) (eC (.int 2))))
 (xIf (tB? (e2 fLt (eU 2 Ju (aC (Jb 5) (aC (Jb 1) a0))) (Jb 2))) (Jt 3 (e2 JO (Jb 5) (eC (.int 1)))) (Jt 4 (Jb 5)))) 1000000)
 (US 3))))
noncomputable def Yy:List Sl->Option Sl:=JZ 7 (Jq (Wb 3 (Ub a0))
 (Jq (Jt 4 (e2 Ys (eU 2 Ju (aC (Jb 0) (aC (Jb 1) a0))) (Jb 2)))
 (Jq (UR (iR3 (aC (Jb 1) (aC (eC (.int 0)) (aC (e1 WO (eC (.int 1))) a0)))) (.nm 5) (Jq (Jt 6 (eU 3 Uu (aC (Jb 0) (aC (Jb 5) (aC (Jb 4) a0)))))
 (Jq (JiO (fun i j=>i-j) 4 (eU 2 Ju (aC (e2 Ys (Jb 6) (eC (.int 1))) (aC (Jb 5) a0))))
 (Jdg 3 (e2 Ys (Jb 0) (Jb 6))))))
 (US 3))))
noncomputable def JQ:List Sl->Option Sl:=JZ 5 (Jq (Jt 2 (eC (.int 1)))
 (Jq (UR (Jhk false (aC (eU 2 Yx (aC (Jb 0) (aC (Jb 1) a0))) (aC (Jb 1) a0))) (.tp (.cons (.nm 3) (.cons (.nm 4) .nil))) (Jfc 2 (eU 2 Ju (aC (e2 fIx (Jb 3) (eC (.int 1))) (aC (e2 fIx (Jb 4) (eC (.int 1))) a0)))))
 (US 2)))
noncomputable def Uq:List Sl->Option Sl:=JZ 9 (Jq (Jt 3 (eU 2 JQ (aC (Jb 0) (aC (Jb 1) a0))))
 (Jq (xIf (tNot? (tB? (Jbl fLe fLt (eC (.int 0)) (Jb 2) (Jb 3)))) J8 J1)
 (Jq (Wb 4 (Ub a0))
 (Jq (Jt 5 (Jb 2))
 (Jq (UR (Jhk false (aC (eU 2 Yx (aC (Jb 0) (aC (Jb 1) a0))) (aC (Jb 1) a0))) (.tp (.cons (.nm 6) (.cons (.nm 7) .nil))) (Jq (Jfb 3 (eU 2 Ju (aC (e2 fIx (Jb 6) (eC (.int 1))) (aC (e2 fIx (Jb 7) (eC (.int 1))) a0))))
 (Jq (Jt 8 (eU 3 Yy (aC (e2 fIx (Jb 6) (eC (.int 1))) (aC (e2 fIx (Jb 7) (eC (.int 1))) (aC (e2 Jg6 (Jb 5) (Jb 3)) a0)))))
 (Jq (Jt 5 (e2 Jjx (Jb 5) (Jb 3)))
 (Jgs 4 (J9 (iE true (Jbn (Jb 8))) (.nm 0) yes? (Um (aC (e2 fIx (Jb 1) (eC (.int 0))) (aC (Jb 0) (aC (eMI JlE (Jb 2) (Jb 0)) a0)))) [none,some 7,some 8]))))))
 (Yk (eU 1 WM (aC (Jb 4) a0))))))))
noncomputable def VA:List Sl->Option Sl:=JZ 2 (Jq (xIf (tB? (e2 fGt (e2 Zb (eC (.int 2)) (Jb 1)) (Jb 0))) (Yk (eC (.int 0))) J1)
 (Yk (e2 Ys (eU 2 YG (aC (Jb 0) (aC (Jb 1) a0))) (eU 2 YG (aC (Jb 0) (aC (e2 Ys (Jb 1) (eC (.int 1))) a0))))))
noncomputable def YQ:List Sl->Option Sl:=JZ 2 (Jq (xIf (tB? (e2 fLt (Jb 1) (eF Ug (aC (Jb 0) a0)))) (Yk (e2 fIx (Jb 0) (Jb 1))) J1)
 (Yk (eC (.int 0))))
noncomputable def Jdx:List Sl->Option Sl:=JZ 10 (Jq (Jt 1 (e2 Jjx (eU 2 YQ (aC (Jb 0) (aC (eC (.int 0)) a0))) (eC (.int 8))))
 (Jq (Wb 2 JaS)
 (JiQ 0 (xGN 3 (YT (JaA 3 (iR1 (aC (e2 JmF (eC (.int 1)) (Jb 1)) a0)) 4 (YT (U8 3 5 (eU 1 Yo (aC (J9 (iR1 (aC (Jb 1) a0)) (.nm 0) (tB? (e2 fEq (e2 Jmu (e2 JmG (Jb 1) (Jb 0)) (eC (.int 1))) (eC (.int 1)))) (Jb 0) [none,some 4]) a0)))
 (gIf (fun E _=>(tNot? (tTru? (eU 2 Up (aC (eF JaT (aC (e1 UH (Jb 5)) a0)) (aC (Jb 1) a0))))) E) (gIf (fun E _=>(tNot? (tTru? (eU 2 Yv (aC (Jb 1) (aC (Jb 5) a0))))) E) (Jbt (eC (.bl false))) VL) (YT (U8 3 6 (eU 1 Yh (aC (Jb 5) a0)))
 (YT (U8 3 7 (eU 2 Yj (aC (Jb 1) (aC (Jb 5) a0))))
 (YT (gIf (fun E _=>(tOr? (tNot? (tTru? (Jfw "tuple" (Jb 7)))) (tOr? (tB? (e2 fNe (eF Ug (aC (Jb 7) a0)) (eC (.int 2)))) (tOr? (tB? (e2 fNe (e2 fIx (Jb 7) (eC (.int 0))) (Jb 6))) (tTru? (Jfw "bool" (e2 fIx (Jb 7) (eC (.int 1)))))))) E) (Jbt (eC (.bl false))) VL)
 (YT (U8 3 8 (eF Jbp (aC (Jb 6) a0)))
 (YT (JmI 8)
 (YT (JmH 8 (e2 fIx (Jb 7) (eC (.int 1))))
 (YT (U8 3 9 (eF Wh (aC (J9 (iE true (Jb 6)) (.tp (.cons (.nm 0) (.cons (.nm 1) .nil))) yes? (e2 Zb (Jb 0) (Jb 1)) [none,none]) a0)))
 (YT (Jey 3 2 (Jb 9) (e2 JO (Vf (Jb 2) (Jb 9) (eC (.int 0))) (eC (.int 1))))
 (gIf (fun E _=>(tB? (e2 fNe (e1 UH (eU 3 Uq (aC (Jb 1) (aC (Jb 6) (aC (e2 fIx (Jb 7) (eC (.int 1))) a0))))) (e1 UH (Jb 5)))) E) (Jbt (eC (.bl false))) VL))))))))))))
 (YT (JaA 3 (iR1 (aC (e2 JO (Jb 1) (eC (.int 2))) a0)) 9 (gIf (fun E _=>(tB? (e2 fNe (eU 2 VA (aC (Jb 1) (aC (Jb 9) a0))) (Vf (Jb 2) (Jb 9) (eC (.int 0))))) E) (Jbt (eC (.bl false))) VL))
 (Jez 3 8 (JoX (JiU (zT (z2 fNe (zE (eU 2 JQ (aC (Jb 1) (aC (eF JaT (aC (Jb 8) a0)) a0)))) (zF Ug (zC (Jej 8) z0)))) (eC (.bl false)))
 (JiU (zT (z2 fNe (zF Wg (zC (Jej 8) z0)) (zLR (zC (zF Ug (zC (Jej 8) z0)) z0)))) (eC (.bl false)))) (Yk (Jdv (e2 fEq (eU 2 JQ (aC (Jb 1) (aC (Ub (aC (Um (aC (eC (.int 1)) (aC (e2 JO (e2 Jck (Jb 1) (eC (.int 2))) (eC (.int 1))) a0))) a0)) a0))) (eC (.int 0))) (e2 fEq (eU 2 JQ (aC (Jb 1) (aC (Ub (aC (Um (aC (e2 JO (e2 Jck (Jb 1) (eC (.int 2))) (eC (.int 1))) (aC (eC (.int 1)) a0))) a0)) a0))) (eC (.int 0))))))))))))
end LK
end
namespace LK
open PySem L2 LR LE
section
variable{d:D}{ds:List D}{ks:List Int}{ps:List (Int×Int)}{o:Option Qd}{b:Bool}{z:Str}{i:Int}
theorem Jst:Sl.d (.sh d)=some d:=rfl
theorem Jsu:Sl.d (.bo ds)=some (.lst ds):=rfl
theorem Jsv:Sl.d (.own ds)=some (.lst ds):=rfl
theorem Jsw:Sl.d (.bd ks ds)=some (.dct ks ds):=rfl
theorem Jsx:Sl.d (.od ks ds)=some (.dct ks ds):=rfl
theorem Jsy:Sl.q (.sh (.lst ds))=some ds:=rfl
theorem Jsz:Sl.q (.sh (.fz ds))=some ds:=rfl
theorem JsA:Sl.q (.sh (.tup ds))=some ds:=rfl
theorem JsB:Sl.q (.bo ds)=some ds:=rfl
theorem JsC:Sl.q (.own ds)=some ds:=rfl
theorem Jqx:Sl.r (.sh (.lst ds))=some ds:=rfl
theorem Jqy:Sl.r (.sh (.fz ds))=some ds:=rfl
theorem Jqz:Sl.r (.bo ds)=some ds:=rfl
theorem JqA:Sl.r (.own ds)=some ds:=rfl
theorem JqB:Sl.m (.sh (.lst ds))=some ds:=rfl
theorem JqC:Sl.m (.bo ds)=some ds:=rfl
theorem JqD:Sl.m (.own ds)=some ds:=rfl
theorem JqE:Sl.frz (.sh d)=some d:=rfl
theorem JqF:Sl.frz (.own ds)=some (.lst ds):=rfl
theorem JqG:Sl.frz (.od ks ds)=some (.dct ks ds):=rfl
theorem JqH:Sl.pass (.sh d)=some (.sh d):=rfl
theorem JqI:Sl.pass (.own ds)=some (.sh (.lst ds)):=rfl
theorem JqJ:Sl.pass (.bo ds)=some (.bo ds):=rfl
theorem JqK:Sl.pass (.bd ks ds)=some (.bd ks ds):=rfl
theorem JqL:Sl.pass (.od ks ds)=some (.sh (.dct ks ds)):=rfl
theorem JqM:Sl.pass (.bw o ds)=some (.bw o ds):=rfl
theorem JqN:keep? (.sh d)=some (.sh d):=rfl
theorem JqO:keep? (.own ds)=some (.own ds):=rfl
theorem JqP:keep? (.od ks ds)=some (.od ks ds):=rfl
theorem JqQ:keep? (.dw o ds)=some (.dw o ds):=rfl
theorem JqR:Sl.dk (.sh (.dct ks ds))=some (ks,ds):=rfl
theorem JqS:Sl.dk (.sh (.dfz ks ds))=some (ks,ds):=rfl
theorem JqT:Sl.dk (.bd ks ds)=some (ks,ds):=rfl
theorem JqU:Sl.dk (.od ks ds)=some (ks,ds):=rfl
theorem JqV:sh? (.sh d)=some d:=rfl
theorem JqW:bool? (.sh (.bl b))=some b:=rfl
theorem JqX:str? (.sh (.str z))=some z:=rfl
theorem JqY:lst? (.bo ds)=some ds:=rfl
theorem JqZ:lst? (.own ds)=some ds:=rfl
theorem Jq0:lst? (.sh (.lst ds))=some ds:=rfl
theorem Jq1:int? (.sh (.int i))=some i:=rfl
theorem Jq2:D.q (.lst ds)=some ds:=rfl
theorem Jq3:D.q (.fz ds)=some ds:=rfl
theorem Jq4:D.q (.tup ds)=some ds:=rfl
theorem Jq5:D.m (.lst ds)=some ds:=rfl
theorem Jq6:Sl.it b (.sh d)=d.q:=rfl
theorem Jq7:Sl.it b (.bo ds)=if b=true then some ds else none:=rfl
theorem Jq8:Sl.it b (.own ds)=some ds:=rfl
theorem Jq9:Sl.lend (.sh d)=some (.sh d):=rfl
theorem Jra:Sl.lend (.bo ds)=some (.bo ds):=rfl
theorem Jrb:Sl.lend (.own ds)=some (.bo ds):=rfl
theorem Jrc:Sl.lend (.bd ks ds)=some (.bd ks ds):=rfl
theorem Jrd:Sl.lend (.od ks ds)=some (.bd ks ds):=rfl
theorem Jre:Sl.lend (.bw o ds)=some (.bw o ds):=rfl
theorem Jrf:Sl.lend (.dw o ds)=some (.bw o ds):=rfl
theorem Jrg:Sl.rv (.sh d)=some (.sh d):=rfl
theorem Jrh:Sl.rv (.own ds)=some (.own ds):=rfl
theorem Jri:Sl.rv (.od ks ds)=some (.od ks ds):=rfl
theorem Jrj:Sl.fe (.own ds)=some (.lst ds):=rfl
theorem Jrk:Sl.fe (.od ks ds)=some (.dct ks ds):=rfl
theorem Jrl:Sl.iv (.sh d)=d.q:=rfl
theorem Jrm:Sl.iv (.bo ds)=some ds:=rfl
theorem Jrn:Sl.bor (.sh d)=.sh d:=rfl
theorem Jro:Sl.bor (.bo ds)=.bo ds:=rfl
theorem Jrp:Sl.bor (.own ds)=.bo ds:=rfl
theorem Jrq:Sl.bor (.bd ks ds)=.bd ks ds:=rfl
theorem Jrr:Sl.bor (.od ks ds)=.bd ks ds:=rfl
theorem Jrs:JiL (.sh d)=d.tru:=rfl
theorem Jrt:JiL (.bo ds)=some (!ds.isEmpty):=rfl
theorem Jru:JiL (.own ds)=some (!ds.isEmpty):=rfl
theorem Jrv:D.tru (.bl b)=some b:=rfl
theorem Jrw:D.tru (.int i)=some (i != 0):=rfl
theorem Jrx:D.tru .non=some false:=rfl
theorem Jry:D.tru (.lst ds)=some (!ds.isEmpty):=rfl
theorem Jrz:D.tru (.tup ds)=some (!ds.isEmpty):=rfl
theorem JrA{l h:Option Int}:fSl (.sh (.tup ds)) l h=some (.sh (.tup (Jaw ds l h))):=rfl
theorem JrB{l h:Option Int}:fSl (.sh (.lst ds)) l h=some (.own (Jaw ds l h)):=rfl
theorem JrC{l h:Option Int}:fSl (.own ds) l h=some (.own (Jaw ds l h)):=rfl
theorem JrD{l h:Option Int}:fSl (.bo ds) l h=some (.own (Jaw ds l h)):=rfl
theorem JrE{l h:Option Int}:fSl (.sh (.fz ds)) l h=some (.own (Jaw ds l h)):=rfl
theorem JrF{x:Sl}:fIs x (.sh .non)=x.d.map fun d=>.sh (.bl d.isNon):=rfl
theorem JrG{x:Sl}:ZF x (.sh .non)=x.d.map fun d=>.sh (.bl (!d.isNon)):=rfl
end
local macro_rules | `(tactic| walk_at "sd")=>`(tactic| first | omega | assumption | (simp only[Lk,QB,Le,K7,M0,LA];omega))
local macro_rules | `(tactic| walk_at "ev")=>`(tactic| simp (disch:=walk_at "sd") only[JZ,Jk8,Int.reduceToNat,K7,M0,Nat.reduceAdd,Nat.reduceSub,Nat.reduceLT,Nat.reduceLeDiff,Gv,Nat.zero_lt_succ,Nat.succ_lt_succ_iff,List.reduceReplicate,KE,List.nil_append,Li,List.set_cons_zero,List.set_cons_succ,List.getElem?_cons_succ,List.getElem?_cons_zero,QB,Le,MZ,Option.bind_some,Option.map_some,Option.bind_none,Option.map_none,if_true,if_false,ite_true,ite_false,decide_true,decide_false,KR,Bool.not_false,Bool.and_true,Bool.true_and,reduceIte,reduceCtorEq,Gd,Gx,MS,if_pos,
 Jq,JpC,JpD,lsD?,JrR,JsE,JsF,JrS,JsG,txP,Jpa,JgF,diG,xIf,Yk,US,J1,Wb,Jt,JoM,Va,Jdg,Jgs,JiR,JiO,Jfc,Jj1,Jfb,Ji9,JaS,pr?,JpB,Jmh,Vf,Jdh,JiP,JdD,Jbm,Jdw,Jbn,JeM,ifB,JgY,JqY,JqZ,Jq0,Jpb,eMI,Jjv,JqR,JqS,JqT,JqU,Jq1,JoN,JjD,UR,tB?,tTru?,tAnd?,tOr?,tNot?,Jq6,Jq7,Jq8,Jq9,Jra,Jrb,Jrc,Jrd,Jre,Jrf,Jrg,Jrh,Jri,Jrj,Jrk,Jrl,Jrm,Jrn,Jro,Jrp,Jrq,Jrr,Jrs,Jrt,Jru,Jrv,Jrw,Jrx,Jry,Jrz,JrA,JrB,JrC,JrD,JrE,Jnn,Jno,Jnp,Jnr,Jj9,Jj8,Jns,JnG,JpW,Jpi,Jot,Jq2,Jq3,Jq4,Jq5,Option.getD_some,MB,e2,e1,Jb,eF,eC,aC,a0,eU,Wq,JqH,JqI,JqJ,JqK,JqL,JqM,Um,Ub,WP,JqE,JqF,JqG,Jdv,eIf,Jbl,JqV,JqW,JqX,JqN,JqO,JqP,JqQ,Jfw,tyN,D.isRow,Jnl,Jnk,Jk2,Jk3,Jk0,Jk1,Jjb,Jjc,
 Jpn,Jjz,Jha,Jjy,Jju,Jg7,JjA,Jjl,Jjs,Jjp,Jjo,Jjj,Jji,Jjq,Jjr,Jjm,Jjk,Jjn,JmA,Jmy,Jmx,JmB,Jmw,Jmz,Jpq,Jpp,Jps,Jpo,Jpr,Jbp,JaT,JmD,Jdy,UH,Jsy,Jsz,JsA,JsB,JsC,Jqx,Jqy,Jqz,JqA,JqB,JqC,JqD,Jst,Jsu,Jsv,Jsw,Jsx,fEq,fNe,Jmo,Jmq,Jmn,Jmp,Jml,Jmm,Jmk,JrF,JrG,JfK,JfI,Jhm,JfM,JfN,JfJ,Jhn,JfL,iE,iV,iR1,iR3,J9,Wl,Jhk,JmP,JaW,Wg,Jg9,Jcq,eSl,ZC,JmR,JmQ,Jiy,Jm6,JjP,Jm5,Jm9,Jm7,Jm8,Jo7,Jo8,JiX,JgE,Jr9,Jsa,Jsb,Jsc,Jsd,eq_self])
noncomputable section
theorem Jnc(ns:List Int)(k:Int)(hk:0<=k):YQ [.sh (.fz (ns.map .int)),.sh (.int k)]=some (.sh (.int (cell ns k))):=by
 unfold YQ;walk_at "ev"
 by_cases h:k<(ns.length:Int)
 ·simp only[h,Ji1,JgH hk h];walk_at "ev"
 ·simp only[h,JgT h];walk_at "ev"
noncomputable def JfP:En->Option (List D):=(iR1 (aC (e2 JmF (eC (.int 1)) (Jb 1)) a0))
noncomputable def c56:Eg:=(YT (U8 3 5 (eU 1 Yo (aC (J9 (iR1 (aC (Jb 1) a0)) (.nm 0) (tB? (e2 fEq (e2 Jmu (e2 JmG (Jb 1) (Jb 0)) (eC (.int 1))) (eC (.int 1)))) (Jb 0) [none,some 4]) a0))) (gIf (fun E _=>(tNot? (tTru? (eU 2 Up (aC (eF JaT (aC (e1 UH (Jb 5)) a0)) (aC (Jb 1) a0))))) E) (gIf (fun E _=>(tNot? (tTru? (eU 2 Yv (aC (Jb 1) (aC (Jb 5) a0))))) E) (Jbt (eC (.bl false))) VL) (YT (U8 3 6 (eU 1 Yh (aC (Jb 5) a0))) (YT (U8 3 7 (eU 2 Yj (aC (Jb 1) (aC (Jb 5) a0)))) (YT (gIf (fun E _=>(tOr? (tNot? (tTru? (Jfw "tuple" (Jb 7)))) (tOr? (tB? (e2 fNe (eF Ug (aC (Jb 7) a0)) (eC (.int 2)))) (tOr? (tB? (e2 fNe (e2 fIx (Jb 7) (eC (.int 0))) (Jb 6))) (tTru? (Jfw "bool" (e2 fIx (Jb 7) (eC (.int 1)))))))) E) (Jbt (eC (.bl false))) VL) (YT (U8 3 8 (eF Jbp (aC (Jb 6) a0))) (YT (JmI 8) (YT (JmH 8 (e2 fIx (Jb 7) (eC (.int 1)))) (YT (U8 3 9 (eF Wh (aC (J9 (iE true (Jb 6)) (.tp (.cons (.nm 0) (.cons (.nm 1) .nil))) yes? (e2 Zb (Jb 0) (Jb 1)) [none,none]) a0))) (YT (Jey 3 2 (Jb 9) (e2 JO (Vf (Jb 2) (Jb 9) (eC (.int 0))) (eC (.int 1)))) (gIf (fun E _=>(tB? (e2 fNe (e1 UH (eU 3 Uq (aC (Jb 1) (aC (Jb 6) (aC (e2 fIx (Jb 7) (eC (.int 1))) a0))))) (e1 UH (Jb 5)))) E) (Jbt (eC (.bl false))) VL)))))))))))
noncomputable def r56:Eg:=(YT (JaA 3 (iR1 (aC (e2 JO (Jb 1) (eC (.int 2))) a0)) 9 (gIf (fun E _=>(tB? (e2 fNe (eU 2 VA (aC (Jb 1) (aC (Jb 9) a0))) (Vf (Jb 2) (Jb 9) (eC (.int 0))))) E) (Jbt (eC (.bl false))) VL)) (Jez 3 8 (JoX (JiU (zT (z2 fNe (zE (eU 2 JQ (aC (Jb 1) (aC (eF JaT (aC (Jb 8) a0)) a0)))) (zF Ug (zC (Jej 8) z0)))) (eC (.bl false))) (JiU (zT (z2 fNe (zF Wg (zC (Jej 8) z0)) (zLR (zC (zF Ug (zC (Jej 8) z0)) z0)))) (eC (.bl false)))) (Yk (Jdv (e2 fEq (eU 2 JQ (aC (Jb 1) (aC (Ub (aC (Um (aC (eC (.int 1)) (aC (e2 JO (e2 Jck (Jb 1) (eC (.int 2))) (eC (.int 1))) a0))) a0)) a0))) (eC (.int 0))) (e2 fEq (eU 2 JQ (aC (Jb 1) (aC (Ub (aC (Um (aC (e2 JO (e2 Jck (Jb 1) (eC (.int 2))) (eC (.int 1))) (aC (eC (.int 1)) a0))) a0)) a0))) (eC (.int 0)))))))
noncomputable abbrev b56:Es:=(xGN 3 (YT (JaA 3 JfP 4 c56) r56))
noncomputable abbrev e56(n:Int):En:=[.no,.sh (.int n),.od [] [],.no,.no,.no,.no,.no,.no,.no]
noncomputable def Jhg:Option (Out×Gp)->Bool
 | some (.rt (.sh (.bl b)),_)=>b
 | _=>false
theorem JfB{o:Option (Out×Gp)}(h:Jhg o=true):∃G,o=some (.rt (.sh (.bl true)),G):=by
 unfold Jhg at h;split at h
 ·subst h;exact⟨_,rfl⟩
 ·cases h
theorem ZG(p:Nat)(b:Eg):∀(xs ys:List D) (E:En) (G:Gp) {E1:En} {G1:Gp},Yl p b xs E G=some (.nx E1,G1)->Yl p b (xs++ys) E G=Yl p b ys E1 G1
 | [],_,_,_,_,_,h=>by cases h;rfl
 | x::xs,ys,E,G,E1,G1,h=>by
  obtain⟨⟨o,G2⟩,e1,e2⟩:=bind_some h;show((if p<E.length then b (E.set p (.sh x)) G else none).bind _)=_;rw[e1]
  cases o with
  | nx E2=>exact ZG p b xs ys E2 G2 e2
  | _=>cases e2
theorem JlF{n:Int}{ds:List D}{E:En}{G:Gp}(h:JfP (e56 n)=some ds)(hl:Yl 4 c56 ds (e56 n) []=some (.nx E,G))(hr:Jhg (r56 E G)=true):b56 (e56 n)=some (.rt (.sh (.bl true))):=by
 obtain⟨G',e⟩:=JfB hr
 have h1:JaA 3 JfP 4 c56 (e56 n) []=some (.nx E,G):=by unfold JaA;rw[if_neg (by decide),h];exact hl
 have h2:YT (JaA 3 JfP 4 c56) r56 (e56 n) []=some (.rt (.sh (.bl true)),G'):=by unfold YT;rw[h1];exact e
 show(xGN 3 (YT (JaA 3 JfP 4 c56) r56)) (e56 n)=_;unfold xGN;rw[if_pos (by show 3<10;decide),show(e56 n).set 3 .no=e56 n from rfl,h2];rfl
noncomputable abbrev Jlt:En:=[.no,(.sh (.int 7)),(.od [0,1,2,3] [(.int 1),(.int 5),(.int 10),(.int 9)]),.no,(.sh (.int 31)),(.sh (.row [(.tup [(.int 0),(.int 5)])])),(.sh (.lst [(.tup [(.int 1),(.int 1)]),(.tup [(.int 2),(.int 1)])])),(.sh (.tup [(.lst [(.tup [(.int 1),(.int 1)]),(.tup [(.int 2),(.int 1)])]),(.int 3)])),(.sh (.tup [(.tup [(.int 1),(.int 1)]),(.tup [(.int 2),(.int 1)])])),(.sh (.int 3))]
noncomputable abbrev Jly:Gp:=[([],[0]),([(1,1)],[0,1,2,3,4]),([(2,1)],[0,1,2,3]),([(1,2)],[0,1,4,2,5,7]),([(3,1)],[0,1]),([(1,1),(2,1)],[2,0,4,5,1,3]),([(1,3)],[0])]
noncomputable abbrev Jlu:En:=[.no,(.sh (.int 7)),(.od [0,1,2,3] [(.int 1),(.int 6),(.int 14),(.int 14)]),.no,(.sh (.int 63)),(.sh (.row [(.tup [(.int 0),(.int 6)])])),(.sh (.lst [(.tup [(.int 1),(.int 3)])])),(.sh (.tup [(.lst [(.tup [(.int 1),(.int 3)])]),(.int 3)])),(.sh (.tup [(.tup [(.int 1),(.int 3)])])),(.sh (.int 3))]
noncomputable abbrev Jlz:Gp:=[([],[0]),([(1,1)],[0,1,2,3,4,5]),([(2,1)],[0,1,2,3]),([(1,2)],[0,1,4,2,5,7,3,6,8,9]),([(3,1)],[0,1]),([(1,1),(2,1)],[2,0,4,5,1,3,6,7]),([(1,3)],[0,1,2,3])]
noncomputable abbrev Jlv:En:=[.no,(.sh (.int 7)),(.od [0,1,2,3] [(.int 1),(.int 6),(.int 14),(.int 14)]),.no,(.sh (.int 95)),(.sh (.row [(.tup [(.int 0),(.int 5)]),(.tup [(.int 6),(.int 1)])])),(.sh (.lst [(.tup [(.int 1),(.int 3)])])),(.sh (.tup [(.lst [(.tup [(.int 1),(.int 3)])]),(.int 3)])),(.sh (.tup [(.tup [(.int 1),(.int 3)])])),(.sh (.int 3))]
noncomputable abbrev JlA:Gp:=[([],[0]),([(1,1)],[0,1,2,3,4,5]),([(2,1)],[0,1,2,3]),([(1,2)],[0,1,4,2,5,7,3,6,8,9]),([(3,1)],[0,1]),([(1,1),(2,1)],[2,0,4,5,1,3,6,7]),([(1,3)],[0,1,2,3])]
noncomputable abbrev Jgy:En:=[.no,(.sh (.int 7)),(.od [0,1,2,3] [(.int 1),(.int 6),(.int 14),(.int 14)]),.no,(.sh (.int 127)),(.sh (.row [(.tup [(.int 0),(.int 7)])])),(.sh (.lst [(.tup [(.int 1),(.int 3)])])),(.sh (.tup [(.lst [(.tup [(.int 1),(.int 3)])]),(.int 3)])),(.sh (.tup [(.tup [(.int 1),(.int 3)])])),(.sh (.int 3))]
noncomputable abbrev Jgz:Gp:=[([],[0]),([(1,1)],[0,1,2,3,4,5]),([(2,1)],[0,1,2,3]),([(1,2)],[0,1,4,2,5,7,3,6,8,9]),([(3,1)],[0,1]),([(1,1),(2,1)],[2,0,4,5,1,3,6,7]),([(1,3)],[0,1,2,3])]
noncomputable abbrev Jlr:En:=[.no,(.sh (.int 6)),(.od [0,1,2,3] [(.int 1),(.int 5),(.int 9),(.int 5)]),.no,(.sh (.int 31)),(.sh (.row [(.tup [(.int 0),(.int 5)])])),(.sh (.lst [(.tup [(.int 1),(.int 3)])])),(.sh (.tup [(.lst [(.tup [(.int 1),(.int 3)])]),(.int 0)])),(.sh (.tup [(.tup [(.int 1),(.int 3)])])),(.sh (.int 3))]
noncomputable abbrev Jlw:Gp:=[([],[0]),([(1,1)],[0,1,2,3,4]),([(2,1)],[0,1,2]),([(1,2)],[0,1,3,2,4,5]),([(3,1)],[0]),([(1,1),(2,1)],[1,0,2]),([(1,3)],[0])]
noncomputable abbrev Jls:En:=[.no,(.sh (.int 6)),(.od [0,1,2,3] [(.int 1),(.int 5),(.int 9),(.int 5)]),.no,(.sh (.int 63)),(.sh (.row [(.tup [(.int 0),(.int 6)])])),(.sh (.lst [(.tup [(.int 1),(.int 3)])])),(.sh (.tup [(.lst [(.tup [(.int 1),(.int 3)])]),(.int 0)])),(.sh (.tup [(.tup [(.int 1),(.int 3)])])),(.sh (.int 3))]
noncomputable abbrev Jlx:Gp:=[([],[0]),([(1,1)],[0,1,2,3,4]),([(2,1)],[0,1,2]),([(1,2)],[0,1,3,2,4,5]),([(3,1)],[0]),([(1,1),(2,1)],[1,0,2]),([(1,3)],[0])]
theorem Jql:Yl 4 c56 (rng 0 32) (e56 7) []=some (.nx Jlt,Jly):=by kernel_rfl
theorem Jqm:Yl 4 c56 (rng 32 32) Jlt Jly=some (.nx Jlu,Jlz):=by kernel_rfl
theorem Jqn:Yl 4 c56 (rng 64 32) Jlu Jlz=some (.nx Jlv,JlA):=by kernel_rfl
theorem Jov:Yl 4 c56 (rng 96 32) Jlv JlA=some (.nx Jgy,Jgz):=by kernel_rfl
theorem Jqj:Yl 4 c56 (rng 0 32) (e56 6) []=some (.nx Jlr,Jlw):=by kernel_rfl
theorem Jqk:Yl 4 c56 (rng 32 32) Jlr Jlw=some (.nx Jls,Jlx):=by kernel_rfl
theorem l7:Yl 4 c56 (rng 0 32++(rng 32 32++(rng 64 32++rng 96 32))) (e56 7) []=some (.nx Jgy,Jgz):=by rw[ZG _ _ _ _ _ _ Jql,ZG _ _ _ _ _ _ Jqm,ZG _ _ _ _ _ _ Jqn];exact Jov
theorem l6:Yl 4 c56 (rng 0 32++rng 32 32) (e56 6) []=some (.nx Jls,Jlx):=by rw[ZG _ _ _ _ _ _ Jqj];exact Jqk
theorem JrO:b56 (e56 7)=some (.rt (.sh (.bl true))):=JlF (by kernel_rfl) l7 (by decide +kernel)
theorem JrN:b56 (e56 6)=some (.rt (.sh (.bl true))):=JlF (by kernel_rfl) l6 (by decide +kernel)
noncomputable def W3:Option Out->Bool
 | some (.rt (.sh (.bl b)))=>b
 | _=>false
theorem YJ{o:Option Out}(h:W3 o=true):o=some (.rt (.sh (.bl true))):=by
 unfold W3 at h;split at h
 ·subst h;rfl
 ·cases h
theorem JrH:W3 (b56 (e56 0))=true:=by decide +kernel
theorem JrI:W3 (b56 (e56 1))=true:=by decide +kernel
theorem JrJ:W3 (b56 (e56 2))=true:=by decide +kernel
theorem JrK:W3 (b56 (e56 3))=true:=by decide +kernel
theorem JrL:W3 (b56 (e56 4))=true:=by decide +kernel
theorem JrM:W3 (b56 (e56 5))=true:=by decide +kernel
theorem Jpc(n:Int)(h:0<=n/\n<8):b56 (e56 n)=some (.rt (.sh (.bl true))):=by
 have:n=0\/n=1\/n=2\/n=3\/n=4\/n=5\/n=6\/n=7:=by omega
 rcases this with rfl|rfl|rfl|rfl|rfl|rfl|rfl|rfl
 ·exact YJ JrH
 ·exact YJ JrI
 ·exact YJ JrJ
 ·exact YJ JrK
 ·exact YJ JrL
 ·exact YJ JrM
 ·exact JrN
 ·exact JrO
theorem law_true(ns:List Int)(hn:ns.length<=63):Jdx [.sh (.fz (ns.map .int))]=some (.sh (.bl true)):=by
 have h:=Jpc (cell ns 0 % 8) (by omega);obtain⟨T,hT⟩:∃T:Es,T=b56:=⟨_,rfl⟩
 rw[<- hT] at h;unfold b56 JfP c56 r56 at hT;unfold Jdx;rw[<- hT];walk_at "ev";rw[Jnc _ _ (by decide)];walk_at "ev";unfold JiQ;simp only[List.set_cons_zero];rw[h];rfl
end
end LK
noncomputable section
namespace LK
open PySem L2 LR LE
local macro_rules | `(tactic| walk_at "s")=>`(tactic| repeat' first | rfl | assumption | with_reducible first | apply Jj | apply Jn | apply JV | apply JG | apply JW | apply Ya | apply YI | apply JJ | apply Ym | apply JU | apply JM | apply Jgg | apply Zd | apply JcG | apply JeG | apply Jbd | apply Ur | apply Us | apply Zi | apply Jiq | apply Vt | apply Jqp | apply JeW | apply Y1 | apply Jdi | apply Zf | apply JeX | apply JaB | apply Jl2 | apply Jpy | apply Jem | apply JgO | apply Jqv | apply JiS | apply Jsp | apply JlT | apply JcH | apply JlO | apply Jsk | apply JoA | apply Jlm | apply JhB | apply JlU | apply Jgh | apply Jbc | apply JrU | apply Jpf | apply Jsg | apply JmM | apply Y8 | apply Jqq | apply JlV | apply JoB | apply Ja8 | apply JmL | apply Jpx | apply JpQ | apply JkU | apply JkV | apply JkW | apply JrX | apply JoY | apply Jr4 | apply Jj6 | apply JlS | apply Jio | apply Joz | apply Jqs | apply JrW | apply Wc | apply Jlo | apply JsI | apply Jr2 | apply Jmc | apply JgN | apply Jpv | apply JhC | apply JpS | apply JpT | apply JkS | apply Jqu | apply JkZ | apply JoR | apply Jr3 | apply JsK | apply Jo0 | apply Jpd | apply Jpe | apply Jmd | apply Ji6 | apply Jpu | apply JmJ | apply JmK | apply Jpw | apply w6 | apply vp | apply wH | apply wI | apply w9 | apply wn | apply wA | apply va | apply vq | apply Jhq | apply JfT | apply Jng | apply Jnh | apply Jsj | apply JpR | apply JpU | apply JpV | apply JnH | apply JnI | apply JkT | apply Jin | apply Jip | apply Jqr | apply Jqt | apply JkX | apply Jss | apply JrV | apply JoQ | apply JrY | apply JoS | apply JsH | apply JoT | apply JoU | apply Jr0 | apply Jln | apply JsJ | apply JoZ | apply Jr5)
noncomputable def top(i:Nat):Gs:=PySem.Challenge.pw_lumprow_k56_counts_by_trial.main.body.getD i (.Pass ⟨0,0,0,0⟩)
noncomputable abbrev YC:Gs:=top 14
noncomputable abbrev VY:Gs:=JjH (top 13) 0
noncomputable abbrev V0:Gs:=top 16
noncomputable abbrev Uk:Gs:=top 15
noncomputable abbrev Vv:Gs:=top 58
noncomputable abbrev V3:Gs:=top 59
noncomputable abbrev Vu:Gs:=top 60
noncomputable abbrev V6:Gs:=top 22
noncomputable abbrev Vq:Gs:=top 42
noncomputable abbrev Ux:Gs:=top 41
noncomputable abbrev Uy:Gs:=top 21
noncomputable abbrev UC:Gs:=top 43
noncomputable abbrev JbV:Gs:=top 46
noncomputable abbrev WV:Gs:=top 47
noncomputable abbrev U4:Gs:=top 48
noncomputable abbrev YD:Gs:=top 53
noncomputable abbrev Vr:Gs:=top 26
noncomputable abbrev Vp:Gs:=top 25
noncomputable abbrev WW:Gs:=top 19
noncomputable abbrev Vs:Gs:=top 24
noncomputable abbrev WY:Gs:=top 27
noncomputable abbrev WU:Gs:=top 17
noncomputable abbrev WX:Gs:=top 30
noncomputable abbrev Jaj:Gs:=top 29
noncomputable abbrev V7:Gs:=top 35
noncomputable abbrev UB:Gs:=top 39
noncomputable abbrev V4:Gs:=top 38
noncomputable abbrev Vw:Gs:=top 55
noncomputable abbrev UA:Gs:=top 61
noncomputable abbrev Vx:Gs:=top 28
noncomputable abbrev Uw:Gs:=top 18
noncomputable abbrev VZ:Gs:=top 32
noncomputable abbrev Jah:Gs:=top 31
noncomputable abbrev Uz:Gs:=top 36
noncomputable abbrev Jai:Gs:=top 37
noncomputable abbrev U3:Gs:=top 52
noncomputable abbrev YL:Gs:=top 51
noncomputable abbrev V1:Gs:=top 49
noncomputable abbrev V5:Gs:=top 50
noncomputable abbrev Jag:Gs:=top 54
noncomputable abbrev V2:Gs:=top 57
noncomputable abbrev Ww:Gs:=top 62
local macro_rules | `(tactic| walk_at "c")=>`(tactic| exact⟨rfl,rfl,rfl,by decide +kernel,rfl,by decide +kernel,by decide +kernel⟩)
theorem Jf0:(["begin","length"]:List Str).Nodup:=by decide +kernel
theorem Jj2:(["size","number"]:List Str).Nodup:=by decide +kernel
theorem JpJ:(["size","number","seats"]:List Str).Nodup:=by decide +kernel
theorem JpK:(["size","number","boxes","lumps"]:List Str).Nodup:=by decide +kernel
theorem JpL:(["ahead","spot","room","spots"]:List Str).Nodup:=by decide +kernel
theorem JpM:(["ahead","stretch","layers"]:List Str).Nodup:=by decide +kernel
theorem JpN:(["left","right"]:List Str).Nodup:=by decide +kernel
theorem Jj3:(["begin","length","place"]:List Str).Nodup:=by decide +kernel
theorem JpO:(["spot","number","left"]:List Str).Nodup:=by decide +kernel
theorem Jhx:(["spot","pairs","owed","size"]:List Str).Nodup:=by decide +kernel
theorem JlM:(["other","spot","size"]:List Str).Nodup:=by decide +kernel
theorem JlN:(["spot","number"]:List Str).Nodup:=by decide +kernel
theorem Jhy:(["size","spot","number"]:List Str).Nodup:=by decide +kernel
theorem JpH:(["spot","lump","spots"]:List Str).Nodup:=by decide +kernel
theorem JpI:(["k","mask"]:List Str).Nodup:=by decide +kernel
section
variable{P:Qm}{w:Qp}{K:Qo}{C:Qd}{mg:Str->Option Qc}{base:QC}{qg:Qd}{qe:Qd}{qA:Qd}{qu:Qd}{qa:Qd}{qk:Qd}{qv:Qd}{qb:Qd}{qB:Qd}
theorem sc_check_stretches:FnScope ["stretches","behind","begin","length"] ["stretches"] (Ji YC):=by walk_at "c"
theorem VU{f:Qd}{fd:Qt}(F:Fun K "check_stretches" "check_stretches" YC f fd) :FnOk P w K mg base CX0 1 f fd ["stretches"] (Jb2 K):=by
 refine F.ok sc_check_stretches (fun vs H Q E h=>?_) (fun cdv A outer s H vs Q E hr h=>?_)
 ·obtain⟨v,ps,rfl,_⟩:=h;rfl
 ·obtain⟨v,ps,rfl,⟨a,vs,rfl,hq,hp⟩,g,q⟩:=h;have hu:=hr.units;refine⟨_,(Jd (psN 1 sc_check_stretches.nd Uv)
   (Je (JX QR rfl (piK K (pv 0)) (Jy (K:=K) (n:=2) rfl rfl (Jg (Jr (i:=2) sc_check_stretches.nd rfl (.inl rfl)) (Jg (Jr (i:=3) sc_check_stretches.nd rfl (.inl rfl)) Jz)) rfl rfl) (Jd (JS (Js Uj (pv 3) Jh (Jv _)) (Je Yn) JD)
   (Jd (JS (PW.pt (Vm (Js Wp (pv 1) Uv (Jv _)) (Ut (Js JeI (pv 2) (pv 1) (Jv _))))) (Je Yn) JD)
   (Je (psN 1 sc_check_stretches.nd (Jo (JeH (K:=K) rfl) (pv 2) (pv 3))))))))),?_⟩
  walk_at "rd";refine Jgd (H1:=H) (a:=a) (xs:=vs) (fun R r=>⟨_,rfl,r⟩) hq
   (fun i σ' H'=>∃vb vl,σ'=[some (.ref a),some (Jel ps i),vb,vl]/\H'=H) ⟨none,none,rfl,rfl⟩ (fun i σ' H' ⟨_,_,_,e⟩=>e▸Same.refl _) ?_ ?_
  ·rintro i x σ' H' hi ⟨vb,vl,rfl,rfl⟩;obtain⟨p,b,e1,rfl,sp⟩:=hp.at hi;refine JeS sp rfl ?_;walk_at "rd";refine ifd (fun hlt=>absurd (g.one i p e1) (by omega)) (fun _=>?_);walk_at "rd"
   cases i with
   | zero=>refine ifF rfl ?_;refine ifF rfl ?_;walk_at "rd";exact⟨_,_,by rw[Ve e1];rfl,rfl⟩
   | succ j =>
    obtain⟨q1,e2⟩:∃q1,ps[j]?=some q1:=⟨ps[j]'(by have:=(Qi.mp e1).1;omega),by have:=(Qi.mp e1).1;simp[show j<ps.length by omega]⟩
    rw[Ve e2];refine ifT rfl ?_;walk_at "rd";refine ifd (fun hle=>absurd (g.gap j q1 p e2 e1) (by omega)) (fun _=>?_);walk_at "rd";exact⟨_,_,by rw[Ve e1];rfl,rfl⟩
  ·rintro σ' H' ⟨vb,vl,rfl,rfl⟩;exact q _ (Same.refl _)
theorem JcZ:FnScope ["self","stretches"] ["self","stretches"] (Ji VY):=by walk_at "c"
theorem JcI{f:Qd}{fd:Qt}(F:Fun K "__init__" "Row.__init__" VY f fd)(wd:mg "tuple"=none)(qo:mg "len"=none)(qj:GV mg "MOST_STRETCHES" (.int 30))(qH:Cal P w K mg base "check_stretches" 1 ["stretches"] (Jb2 K))(T:RowC K C):FnOk P w K mg base CX0 2 f fd ["self","stretches"] (U6 C K):=by
 refine F.ok JcZ (fun vs H Q E h=>?_) (fun cdv A outer s H vs Q E hr h=>?_)
 ·obtain⟨x,dx,v,ps,rfl,_⟩:=h;rfl
 ·obtain⟨x,dx,v,ps,rfl,hx,⟨a,vs,rfl,hq,hp⟩,g,hl,q⟩:=h;have hu:=hr.units;refine⟨_,(Jd (JS (Js Vl (Jm (JY (K:=K) rfl) rfl qo YX (Ja (pv 1) Jc)) (UI rfl qj) (Jv _)) (Je Yn) JD)
   (Jd (JP (Jk qH (hrM hr) rfl (Ja (pv 1) Jc)))
   (Je (Jks (K:=K) rfl (pv 0) (Yr (W0 (K:=K) rfl) rfl wd Zv (Ja (J0 (N':=["begin","length"]) (imp:=[none,none]) rfl (piK K (pv 1)) (Jb7 rfl rfl) (fun _ _ _ _=>(Jy (K:=K) (n:=2) rfl rfl (Jg (pgN 0 Jf0) (Jg (pgN 1 Jf0) Jz)) rfl rfl)) (fun _ _ _ _=>JN) (fun _ _ _ _=>(Yc (Ja (pv 0) (Ja (pv 1) Jc))))) Jc)) rfl)))),?_⟩
  have hn:=hp.len;walk_at "rd";refine JcX hq ?_;walk_at "rd";refine ifd (fun hgt=>absurd hl (by omega)) (fun _=>?_);walk_at "rd";refine JgU ⟨a,vs,rfl,hq,hp⟩ g fun H1 s1=>?_
  walk_at "rd";refine JdZ (H1:=H1) (a:=a) (xs:=vs) (fun R r=>⟨_,rfl,r⟩) (hq.imp s1.seq s1.seqT) (Gk (Jgk (by omega)))
   (fun i ys σ' H'=>∃vb vl,σ'=[vb,vl]/\Same H1 H'/\Prs K H' ys (ps.take i)) ⟨none,none,rfl,Same.refl _,by rw[List.take_zero];exact RepL.nil⟩
   (fun i ys σ' H' ⟨_,_,_,_,r⟩=>by have:=r.len;rw[this,LD];omega) (fun i ys σ' H' ⟨_,_,_,s',_⟩=>s') ?_ ?_
  ·rintro i ys y σ' H' hi ⟨vb,vl,rfl,s',r⟩;obtain⟨p,b,e1,rfl,sp⟩:=Prs.at (K:=K) (ps:=ps) (RepL.mono (s1.trans s') hp) hi;refine JeS sp rfl ?_;walk_at "rd";refine ifT rfl ?_;walk_at "rd";refine Jl8 sz2 fun t H2 nt s2 ht=>?_
   refine⟨_,_,rfl,s'.trans s2,?_⟩;rw[List.take_add_one,e1];exact Prs.snoc (RepL.mono s2 r) (Jkr ht)
  ·rintro ys σ' H' ⟨vb,vl,rfl,s',r⟩ l H2 nl s2 hl2;walk_at "rd";refine Jge (.of hl2) fun t H3 nt s3 ht=>?_
   walk_at "rd";have sA:Same H H3:=((s1.trans s').trans s2).trans s3;refine⟨x,C,dx,[],rfl,sA _ _ hx,T.cl,T.ns,by decide,?_⟩;rw[hn,List.take_length] at r;have r3:Prs K H3 ys ps:=RepL.mono (s2.trans s3) r;have ntx:t≠x:=JcB ht (sA _ _ hx) (by intro z;cases z);refine q _ t ys (sA.ex_trans SameEx.upd) (by rw[Jh0];exact Jl) (by rw[Jf ntx];exact ht) ?_;exact Prs.monoIns SameEx.upd (sA _ _ hx) r3
theorem sc_gathered:FnScope ["places","stretches","place","begin"] ["places"] (Ji V0):=by walk_at "c"
theorem JcK{f:Qd}{fd:Qt}(F:Fun K "gathered" "gathered" V0 f fd)(qi:mg "sum"=none):FnOk P w K mg base CX0 1 f fd ["places"] (spE K C 1 Vh) :=
 okE F sc_gathered rfl fun _ _ _ _ _ _ hr hu=>⟨_,(Jd (psN 1 sc_gathered.nd (J7 Jc))
  (Jd (JX QR rfl (piK K (pv 0)) (Jr (i:=2) sc_gathered.nd rfl (.inl rfl)) (Jd (psN 3 sc_gathered.nd (pv 2))
  (Jd (JS (PW.pt (Vm (YO (K:=K) rfl (pv 1) (fun _=>rfl)) (Ut (Js (VW (K:=K) rfl hu) (Jm (J5 (K:=K) rfl rfl) rfl qi Ua (Ja (pxK K (pv 1) (Z9 Wa Jh)) Jc)) (pv 2) (Jv _))))) (Je (psN 3 sc_gathered.nd (pxK K (JeJ (K:=K) rfl QI M6 M7 Jhw (pv 1)) Jh))) JD)
  (Je (JP (YA (K:=K) rfl QI Gq Gr Yq (pv 1) (Ja (Yc (Ja (pv 3) (Ja (Jo JI (Jo (JB (K:=K) rfl) (pv 2) Jh) (pv 3)) Jc))) Jc)))))))
  (Je (Jw (pv 1))))),by walk_at "s"⟩
theorem Zg:FnScope ["places"] ["places"] (Ji Uk):=by walk_at "c"
theorem Ze{f:Qd}{fd:Qt}(F:Fun K "row_of_balls" "row_of_balls" Uk f fd)(qt:mg "sorted"=none)(vI:mg "set"=none)(qo:mg "len"=none)(qX:GV mg "MOST_PLACES" (.int 400))(qQ:CalM P w K mg base "Row" C 2 ["self","stretches"] (U6 C K))(wJ:Cal P w K mg base "gathered" 1 ["places"] (spE K C 1 Vh)):FnOk P w K mg base CX0 4 f fd ["places"] (spE K C 1 Yo) :=
 okE F Zg rfl fun _ _ _ _ _ _ hr hu=>⟨_,(Jd (JS (Js Vl (Jm (JY (K:=K) rfl) rfl qo YX (Ja (pv 0) Jc)) (UI rfl qX) (Jv _)) (Je Yn) JD)
  (Je (Jw (UJ qQ (hrM hr) rfl (Ja (Jk wJ (hrM hr) rfl (Ja (JcU (K:=K) rfl rfl rfl qt rfl vI (pv 0)) Jc)) Jc))))),by walk_at "s"⟩
theorem sc_law_ferry:FnScope ["row","seats","told","load","count","k","begin","length","takes","sets"] ["row","seats"] (Ji Vv):=by walk_at "c"
theorem JbG{f:Qd}{fd:Qt}(F:Fun K "_law_ferry" "_law_ferry" Vv f fd)(qr:mg "range"=none)(qo:mg "len"=none)(qR:mg "min"=none):FnOk P w K mg base CX0 1 f fd ["row","seats"] (spE K C 2 UZ) :=
 okE F sc_law_ferry rfl fun _ _ _ _ _ _ hr hu=>⟨_,(Jd (psN 2 sc_law_ferry.nd (J7 Jc))
  (Jd (psN 3 sc_law_ferry.nd Jh)
  (Jd (psN 4 sc_law_ferry.nd Jh)
  (Jd (JX QR rfl (UK rfl qr (Ja (Jm (JY (K:=K) rfl) rfl qo YX (Ja (pv 0) Jc)) Jc)) (Jr (i:=5) sc_law_ferry.nd rfl (.inl rfl)) (Jd (JnR (pxK K (pv 0) (pv 5)) (Jy (K:=K) (n:=2) rfl rfl (Jg (Jr (i:=6) sc_law_ferry.nd rfl (.inl rfl)) (Jg (Jr (i:=7) sc_law_ferry.nd rfl (.inl rfl)) Jz)) rfl rfl))
  (Jd (psN 8 sc_law_ferry.nd (pv 7))
  (Jd (JS (Js Wp (pv 1) Uv (Jv _)) (Je (psN 8 sc_law_ferry.nd (Jm (UF rfl) rfl qR WK (Ja (pv 7) (Ja (Jo JI (pv 1) (pv 3)) Jc))))) JD)
  (Jd (psN 3 sc_law_ferry.nd (Jo (JB (K:=K) rfl) (pv 3) (pv 8)))
  (Jd (psN 4 sc_law_ferry.nd (Jo (JB (K:=K) rfl) (pv 4) (pv 8)))
  (Jd (psN 9 sc_law_ferry.nd (pv 3))
  (Jd (JS (Js Uj (Jo (JB (K:=K) rfl) (pv 5) Jh) (Jm (JY (K:=K) rfl) rfl qo YX (Ja (pv 0) Jc)) (Jv _)) (Je (psN 9 sc_law_ferry.nd (Jm (UF rfl) rfl qR WK (Ja (pv 3) (Ja (Jo JI (Jo JI (pxK K (pxK K (pv 0) (Jo (JB (K:=K) rfl) (pv 5) Jh)) Jh) (pv 6)) (pv 7)) Jc))))) JD)
  (Jd (psN 3 sc_law_ferry.nd (Jo JI (pv 3) (pv 9)))
  (Je (JP (YA (K:=K) rfl QI Gq Gr Yq (pv 2) (Ja (Yc (Ja (Jo (JB (K:=K) rfl) (pv 6) (pv 8)) (Ja (Jo (JB (K:=K) rfl) (Jo JI (pv 7) (pv 8)) (pv 9)) Jc))) Jc)))))))))))))
  (Je (Jw (Yc (Ja (pv 2) (Ja (pv 4) Jc))))))))),by walk_at "s"⟩
theorem sc_law_held:FnScope ["row","boxes","told"] ["row","boxes"] (Ji V3):=by walk_at "c"
theorem JcN{f:Qd}{fd:Qt}(F:Fun K "_law_held" "_law_held" V3 f fd)(we:Cal P w K mg base "_law_ferry" 1 ["row","seats"] (spE K C 2 UZ)):FnOk P w K mg base CX0 2 f fd ["row","boxes"] (spE K C 2 Up) :=
 okE F sc_law_held rfl fun _ _ _ _ _ _ hr hu=>⟨_,(Jd (JX QR rfl (piK K (J7 (Ja (pv 0) (Ja (pxK K (Jk we (hrM hr) rfl (Ja (pv 0) (Ja Uv Jc))) Jh) Jc)))) (Jr (i:=2) sc_law_held.nd rfl (.inl rfl)) (Je (JS (PW.pt (Vm (Js (VX (K:=K) rfl hu) (pv 2) (J7 Jc) (Jv _)) (Ut (PW.pt (Ja6 (Js Uj (pxK K (pxK K (pv 2) Jh) Jh) Jh (Jv _)) (JbR (Js Vl (Jo (JB (K:=K) rfl) (pxK K (pxK K (pv 2) (Z9 Wa Jh)) Jh) (pxK K (pxK K (pv 2) (Z9 Wa Jh)) Jh)) (pv 1) (Jv _)))))))) (Je (Jw Wr)) JD)))
  (Je (Jw Wr))),by walk_at "s"⟩
theorem sc_law_alone:FnScope ["e","kinds"] ["e"] (Ji Vu):=by walk_at "c"
theorem JbF{f:Qd}{fd:Qt}(F:Fun K "_law_alone" "_law_alone" Vu f fd)(qf:mg "isinstance"=none)(wf:mg "ValueError"=none)(xG:ExcG K)(xO:OwnL K ["BadTable","NoRow","TooMany"] [qa,qe,qb])(iV:IsiV K ["BadTable","NoRow","TooMany"])(qE:mg "LumpError"=some (.ref qg))(wn:IsiN K ["BadTable","NoRow","TooMany"] "LumpError" qg)(qS:mg "NoRow"=some (.ref qe))(wA:IsiN K ["BadTable","NoRow","TooMany"] "NoRow" qe)(vt:mg "Unlike"=some (.ref qA))(vq:IsiN K ["BadTable","NoRow","TooMany"] "Unlike" qA)(vc:mg "BadDeed"=some (.ref qu))(w6:IsiN K ["BadTable","NoRow","TooMany"] "BadDeed" qu)(qC:mg "BadTable"=some (.ref qa))(wI:IsiN K ["BadTable","NoRow","TooMany"] "BadTable" qa)(wK:mg "BadSeats"=some (.ref qk))(wH:IsiN K ["BadTable","NoRow","TooMany"] "BadSeats" qk)(vd:mg "BadText"=some (.ref qv))(w9:IsiN K ["BadTable","NoRow","TooMany"] "BadText" qv)(qT:mg "TooMany"=some (.ref qb))(va:IsiN K ["BadTable","NoRow","TooMany"] "TooMany" qb)(vx:mg "BadRow"=some (.ref qB))(vp:IsiN K ["BadTable","NoRow","TooMany"] "BadRow" qB):FnOk P w K mg base CX0 1 f fd ["e"] (spE K C 1 UY) :=
 okE F sc_law_alone rfl fun _ _ _ _ _ _ hr hu=>⟨_,(Jd (psN 1 sc_law_alone.nd (J7 (Ja (Jm (J2 (K:=K) rfl) rfl qf JC (Ja (pv 0) (Ja (YB (v:=V.ref qB) rfl vx rfl) Jc))) (Ja (Jm (J2 (K:=K) rfl) rfl qf JC (Ja (pv 0) (Ja (YB (v:=V.ref qb) rfl qT rfl) Jc))) (Ja (Jm (J2 (K:=K) rfl) rfl qf JC (Ja (pv 0) (Ja (YB (v:=V.ref qv) rfl vd rfl) Jc))) (Ja (Jm (J2 (K:=K) rfl) rfl qf JC (Ja (pv 0) (Ja (YB (v:=V.ref qk) rfl wK rfl) Jc))) Jc))))))
  (Jd (psN 1 sc_law_alone.nd (Jo (JB (K:=K) rfl) (pv 1) (J7 (Ja (Jm (J2 (K:=K) rfl) rfl qf JC (Ja (pv 0) (Ja (YB (v:=V.ref qa) rfl qC rfl) Jc))) (Ja (Jm (J2 (K:=K) rfl) rfl qf JC (Ja (pv 0) (Ja (YB (v:=V.ref qu) rfl vc rfl) Jc))) (Ja (Jm (J2 (K:=K) rfl) rfl qf JC (Ja (pv 0) (Ja (YB (v:=V.ref qA) rfl vt rfl) Jc))) (Ja (Jm (J2 (K:=K) rfl) rfl qf JC (Ja (pv 0) (Ja (YB (v:=V.ref qe) rfl qS rfl) Jc))) Jc)))))))
  (Je (Jw (JbK (JbM (VW (K:=K) rfl hu) (YA (K:=K) rfl QI ML MM JfY (pv 1) (Ja Wr Jc)) Jh (Jv _)) (JbK (Jm (J2 (K:=K) rfl) rfl qf JC (Ja (pv 0) (Ja (YB (v:=V.ref qg) rfl qE rfl) Jc))) (JdV (Jm (J2 (K:=K) rfl) rfl qf JC (Ja (pv 0) (Ja (JbL (v:=V.ty "ValueError") rfl wf Jat rfl) Jc)))))))))),by walk_at "s"⟩
theorem Jc1:FnScope ["size","seats"] ["size","seats"] (Ji V6):=by walk_at "c"
theorem JcQ{f:Qd}{fd:Qt}(F:Fun K "share_of" "share_of" V6 f fd)(qR:mg "min"=none):FnOk P w K mg base CX0 1 f fd ["size","seats"] (spE K C 2 Vi) :=
 okE F Jc1 rfl fun _ _ _ _ _ _ hr hu=>⟨_,(Je (Jw (Z3 (Js Jkc (pv 1) Uv (Jv _)) (pv 0) (Jm (UF rfl) rfl qR WK (Ja (pv 0) (Ja (pv 1) Jc)))))),by walk_at "s"⟩
theorem JbX:FnScope ["lumps","most"] ["lumps","most"] (Ji Vq):=by walk_at "c"
theorem JbC{f:Qd}{fd:Qt}(F:Fun K "check_few" "check_few" Vq f fd)(qi:mg "sum"=none)(qT:mg "TooMany"=some (.ref qb))(wc:AtX K "TooMany" qb):FnOk P w K mg base (CX1 P w) 1 f fd ["lumps","most"] (spX K C 2 Yi Y4):=by
 refine Fun.okX F JbX (fun vs H Q E h=>Zq h) (fun cdv A outer s H vs Q E hr h=>?_);have hu:=hr.units;refine⟨_,(Je (JS (Js Vl (Jm (J5 (K:=K) rfl rfl) rfl qi Ua (Ja (J0 (N':=["size","number"]) (imp:=[none,none]) rfl (piK K (pv 0)) (Jb7 rfl rfl) (fun _ _ _ _=>(Jy (K:=K) (n:=2) rfl rfl (Jg (pgN 0 Jj2) (Jg (pgN 1 Jj2) Jz)) rfl rfl)) (fun _ _ _ _=>JN) (fun _ _ _ _=>(pv 1))) Jc)) (pv 1) (Jv _)) (Je (VF (K:=K) rfl wc.ok rfl qT rfl xok_cx (Ja JbN Jc))) JD)),?_⟩
 exact Wi (N:=["lumps","most"]) (Zi (JM (JV JcH (Jgg JgO (Jn (Vt (Zf (Jj 0)) (Us (JJ (YI 0) (JJ (YI 1) Ur)) rfl) JeX (Jj 1) rfl) JG)) (Jj 1))) YE Y1) (Jff (JM (JV JcH (Jgg JgO (Jn (Vt (Zf (Jj 0)) (Us (JJ (YI 0) (JJ (YI 1) Ur)) rfl) JeX (Jj 1) rfl) JG)) (Jj 1))) (WJ wc.ns (Jn JeV JG)) UT) h
theorem sc_check_lumps:FnScope ["lumps","ahead","size","number"] ["lumps"] (Ji Ux):=by walk_at "c"
theorem ZU{f:Qd}{fd:Qt}(F:Fun K "check_lumps" "check_lumps" Ux f fd)(qC:mg "BadTable"=some (.ref qa))(qD:AtX K "BadTable" qa):FnOk P w K mg base (CX1 P w) 1 f fd ["lumps"] (spX K C 1 J6 Yz):=by
 refine Fun.okX F sc_check_lumps (fun vs H Q E h=>Zq h) (fun cdv A outer s H vs Q E hr h=>?_);have hu:=hr.units;refine⟨_,(Jd (psN 1 sc_check_lumps.nd Jh)
  (Je (JX Rw rfl (piK K (pv 0)) (Jy (K:=K) (n:=2) rfl rfl (Jg (Jr (i:=2) sc_check_lumps.nd rfl (.inl rfl)) (Jg (Jr (i:=3) sc_check_lumps.nd rfl (.inl rfl)) Jz)) rfl rfl) (Jd (JS (Js JeI (pv 2) (pv 1) (Jv _)) (Je (VF (K:=K) rfl qD.ok rfl qC rfl xok_cx (Ja JbN Jc))) JD)
  (Jd (JS (Js Uj (pv 3) Jh (Jv _)) (Je (VF (K:=K) rfl qD.ok rfl qC rfl xok_cx (Ja JbN Jc))) JD)
  (Je (psN 1 sc_check_lumps.nd (pv 2)))))))),?_⟩
 exact Wi (N:=["lumps","ahead","size","number"]) (Ya (JU JW)
  (Jdi (JkW 0) (Us (JJ (YI 2) (JJ (YI 3) Ur)) rfl) (Ya (Zi (JM (JV JhC (Jj 2) (Jj 1))) YE Y1)
  (Ya (Zi (JM (JV JaB (Jj 3) JW)) YE Y1)
  (JU (Jj 2)))))) (Ul (JU JW)
  UT (Jfe (JkW 0) (Us (JJ (YI 2) (JJ (YI 3) Ur)) rfl) (Ya (Zi (JM (JV JhC (Jj 2) (Jj 1))) YE Y1)
  (Ya (Zi (JM (JV JaB (Jj 3) JW)) YE Y1)
  (JU (Jj 2)))) (Ul (Zi (JM (JV JhC (Jj 2) (Jj 1))) YE Y1)
  (Jff (JM (JV JhC (Jj 2) (Jj 1))) (WJ qD.ns (Jn JeV JG)) UT) (Ul (Zi (JM (JV JaB (Jj 3) JW)) YE Y1)
  (Jff (JM (JV JaB (Jj 3) JW)) (WJ qD.ns (Jn JeV JG)) UT) UT)))) h
theorem Jal:FnScope ["seats"] ["seats"] (Ji Uy):=by walk_at "c"
theorem ZV{f:Qd}{fd:Qt}(F:Fun K "check_seats" "check_seats" Uy f fd) :FnOk P w K mg base CX0 1 f fd ["seats"] (spE K C 1 Ud) :=
 okE F Jal rfl fun _ _ _ _ _ _ hr hu=>⟨_,(Je (JS (PW.pt (Vm (Js Wp (pv 0) Uv (Jv _)) (Ut (Js Uj (pv 0) Jh (Jv _))))) (Je Yn) JD)),by walk_at "s"⟩
theorem Jam:FnScope ["lumps","seats"] ["lumps","seats"] (Ji UC):=by walk_at "c"
theorem ZZ{f:Qd}{fd:Qt}(F:Fun K "told_taking" "told_taking" UC f fd)(qi:mg "sum"=none)(qx:GV mg "MOST_LUMPS" (.int 30))(wL:Cal P w K mg base "share_of" 1 ["size","seats"] (spE K C 2 Vi))(qy:CalX P w K mg base "check_few" 1 ["lumps","most"] (spX K C 2 Yi Y4))(qq:CalX P w K mg base "check_lumps" 1 ["lumps"] (spX K C 1 J6 Yz))(qY:Cal P w K mg base "check_seats" 1 ["seats"] (spE K C 1 Ud)):FnOk P w K mg base CX0 2 f fd ["lumps","seats"] (spE K C 2 Uf) :=
 okE F Jam rfl fun _ _ _ _ _ _ hr hu=>⟨_,(Jd (JP (Jk qY (hrM hr) rfl (Ja (pv 1) Jc)))
  (Jd (JP (YU qq (hrM hr) rfl JcS (Ja (pv 0) Jc)))
  (Jd (JP (YU qy (hrM hr) rfl JcS (Ja (pv 0) (Ja (UI rfl qx) Jc))))
  (Je (Jw (Jm (J5 (K:=K) rfl rfl) rfl qi Ua (Ja (J0 (N':=["size","number","seats"]) (imp:=[none,none,some 1]) rfl (piK K (pv 0)) (Zu (own:=["size","number"]) (fr:=[("seats",1)]) rfl rfl rfl ⟨rfl,trivial⟩ rfl ⟨⟨rfl,rfl,rfl⟩,trivial⟩) (fun _ _ _ _=>(Jy (K:=K) (n:=2) rfl rfl (Jg (pgN 0 JpJ) (Jg (pgN 1 JpJ) Jz)) rfl rfl)) (fun _ _ _ _=>JN) (fun _ _ _ _=>(Jo U2 (pv 1) (Jk wL (hrM hr) rfl (Ja (pv 0) (Ja (pv 2) Jc)))))) Jc))))))),by walk_at "s"⟩
theorem Jir:FnScope ["boxes","lumps"] ["boxes","lumps"] (Ji JbV):=by walk_at "c"
theorem JhE{f:Qd}{fd:Qt}(F:Fun K "rooms" "rooms" JbV f fd)(qU:GV mg "MOST_COUNTED" (.int 12))(qZ:Cal P w K mg base "told_taking" 2 ["lumps","seats"] (spE K C 2 Uf))(qy:CalX P w K mg base "check_few" 1 ["lumps","most"] (spX K C 2 Yi Y4))(qq:CalX P w K mg base "check_lumps" 1 ["lumps"] (spX K C 1 J6 Yz)):FnOk P w K mg base (CX1 P w) 3 f fd ["boxes","lumps"] (spX K C 2 Yx Vj):=by
 refine Fun.okX F Jir (fun vs H Q E h=>Zq h) (fun cdv A outer s H vs Q E hr h=>?_);have hu:=hr.units;refine⟨_,(Jd (JP (YU qq (hrM hr) rfl xok_cx.passes (Ja (pv 1) Jc)))
  (Jd (JP (YU qy (hrM hr) rfl xok_cx.passes (Ja (pv 1) (Ja (UI rfl qU) Jc))))
  (Je (Jw (J0 (N':=["size","number","boxes","lumps"]) (imp:=[none,none,some 0,some 1]) rfl (piK K (pv 1)) (Zu (own:=["size","number"]) (fr:=[("boxes",0),("lumps",1)]) rfl rfl rfl ⟨rfl,rfl,trivial⟩ rfl ⟨⟨rfl,rfl,rfl⟩,⟨rfl,rfl,rfl⟩,trivial⟩) (fun _ _ _ _=>(Jy (K:=K) (n:=2) rfl rfl (Jg (pgN 0 JpK) (Jg (pgN 1 JpK) Jz)) rfl rfl)) (fun _ _ _ _=>JN) (fun _ _ _ _=>(Yc (Ja (pv 0) (Ja (Jo JI (pv 2) (Jo U2 Jh (Jk qZ (hrM hr) rfl (Ja (pv 3) (Ja (pv 0) Jc))))) Jc))))))))),?_⟩
 exact Wi (N:=["boxes","lumps"]) (Ya (Wc (Y8 (Jn (Jj 1) JG)))
  (Ya (Wc (Y8 (Jn (Jj 1) (Jn JW JG))))
  (Jbd (Vt (Zf (Jj 1)) (Us (JJ (YI 0) (JJ (YI 1) Ur)) rfl) JeX (JeW (Jn (Jj 0) (Jn (JV JeG (Jj 2) (JV JlO JW (Ym (Jn (Jj 3) (Jn (Jj 0) JG))))) JG))) rfl)))) (Ul (Wc (Y8 (Jn (Jj 1) JG)))
  (Jfd (Zs (Jn (Jj 1) JG))) (Ul (Wc (Y8 (Jn (Jj 1) (Jn JW JG))))
  (Jfd (Zs (Jn (Jj 1) (Jn JW JG)))) UT)) h
theorem sc_choices:FnScope ["many","few","told","chosen"] ["many","few"] (Ji WV):=by walk_at "c"
theorem JdQ{f:Qd}{fd:Qt}(F:Fun K "choices" "choices" WV f fd)(qr:mg "range"=none):FnOk P w K mg base CX0 1 f fd ["many","few"] (spE K C 2 YG) :=
 okE F sc_choices rfl fun _ _ _ _ _ _ hr hu=>⟨_,(Jd (JS (Js Uj (pv 1) Jh (Jv _)) (Je (Jw Jh)) JD)
  (Jd (psN 2 sc_choices.nd Jh)
  (Jd (JX QR rfl (UK rfl qr (Ja (pv 1) Jc)) (Jr (i:=3) sc_choices.nd rfl (.inl rfl)) (Je (psN 2 sc_choices.nd (Jo Zo (Jo U2 (pv 2) (Jo JI (pv 0) (pv 3))) (Jo (JB (K:=K) rfl) (pv 3) Jh)))))
  (Je (Jw (pv 2)))))),by walk_at "s"⟩
theorem JaE:FnScope ["room","count"] ["room","count"] (Ji U4):=by walk_at "c"
theorem JaD{f:Qd}{fd:Qt}(F:Fun K "spot_lists" "spot_lists" U4 f fd)(qK:Cal P w K mg base "choices" 1 ["many","few"] (spE K C 2 YG)):FnOk P w K mg base CX0 2 f fd ["room","count"] (spE K C 2 Ju) :=
 okE F JaE rfl fun _ _ _ _ _ _ hr hu=>⟨_,(Je (Jw (Z3 (Js Uj (pv 0) Jh (Jv _)) Jh (Jk qK (hrM hr) rfl (Ja (Jo (JB (K:=K) rfl) (pv 0) (pv 1)) (Ja (pv 1) Jc)))))),by walk_at "s"⟩
theorem sc_number_of_spots:FnScope ["room","spots","behind"] ["room","spots"] (Ji YD):=by walk_at "c"
theorem VV{f:Qd}{fd:Qt}(F:Fun K "number_of_spots" "number_of_spots" YD f fd)(qo:mg "len"=none)(qi:mg "sum"=none)(qh:mg "enumerate"=none)(qd:Cal P w K mg base "spot_lists" 2 ["room","count"] (spE K C 2 Ju)):FnOk P w K mg base CX0 3 f fd ["room","spots"] (spE K C 2 JT) :=
 okE F sc_number_of_spots rfl fun _ _ _ _ _ _ hr hu=>⟨_,(Jd (psN 2 sc_number_of_spots.nd (Jm (J5 (K:=K) rfl rfl) rfl qi Ua (Ja (J0 (N':=["ahead","spot","room","spots"]) (imp:=[none,none,some 0,some 1]) rfl (Wv (K:=K) rfl rfl qh (Ja (pv 1) Jc)) (Zu (own:=["ahead","spot"]) (fr:=[("room",0),("spots",1)]) rfl rfl rfl ⟨rfl,rfl,trivial⟩ rfl ⟨⟨rfl,rfl,rfl⟩,⟨rfl,rfl,rfl⟩,trivial⟩) (fun _ _ _ _=>(Jy (K:=K) (n:=2) rfl rfl (Jg (pgN 0 JpL) (Jg (pgN 1 JpL) Jz)) rfl rfl)) (fun _ _ _ _=>JN) (fun _ _ _ _=>(Jk qd (hrM hr) rfl (Ja (Jo JI (Jo JI (pv 2) (pv 1)) Jh) (Ja (Jo JI (Jm (JY (K:=K) rfl) rfl qo YX (Ja (pv 3) Jc)) (pv 0)) Jc))))) Jc)))
  (Je (Jw (Jo JI (Jo JI (Jk qd (hrM hr) rfl (Ja (pv 0) (Ja (Jm (JY (K:=K) rfl) rfl qo YX (Ja (pv 1) Jc)) Jc))) Jh) (pv 2))))),by walk_at "s"⟩
theorem sc_closed_up:FnScope ["pairs","stretches","begin","length","ahead"] ["pairs"] (Ji Vr):=by walk_at "c"
theorem JbD{f:Qd}{fd:Qt}(F:Fun K "closed_up" "closed_up" Vr f fd)(qi:mg "sum"=none):FnOk P w K mg base CX0 1 f fd ["pairs"] (spE K C 1 UX) :=
 okE F sc_closed_up rfl fun _ _ _ _ _ _ hr hu=>⟨_,(Jd (psN 1 sc_closed_up.nd (J7 Jc))
  (Jd (JX QR rfl (piK K (pv 0)) (Jy (K:=K) (n:=2) rfl rfl (Jg (Jr (i:=2) sc_closed_up.nd rfl (.inl rfl)) (Jg (Jr (i:=3) sc_closed_up.nd rfl (.inl rfl)) Jz)) rfl rfl) (Je (JS (PW.pt (Vm (YO (K:=K) rfl (pv 1) (fun _=>rfl)) (Ut (Js (VW (K:=K) rfl hu) (Jm (J5 (K:=K) rfl rfl) rfl qi Ua (Ja (pxK K (pv 1) (Z9 Wa Jh)) Jc)) (pv 2) (Jv _))))) (Jd (psN 4 sc_closed_up.nd (JeJ (K:=K) rfl QI M6 M7 Jhw (pv 1)))
  (Je (JP (YA (K:=K) rfl QI Gq Gr Yq (pv 1) (Ja (Yc (Ja (pxK K (pv 4) Jh) (Ja (Jo (JB (K:=K) rfl) (pxK K (pv 4) Jh) (pv 3)) Jc))) Jc))))) (Je (JS (Js Vl (pv 3) Jh (Jv _)) (Je (JP (YA (K:=K) rfl QI Gq Gr Yq (pv 1) (Ja (Yc (Ja (pv 2) (Ja (pv 3) Jc))) Jc)))) JD)))))
  (Je (Jw (pv 1))))),by walk_at "s"⟩
theorem JbW:FnScope ["row","layers"] ["row","layers"] (Ji Vp):=by walk_at "c"
theorem JbB{f:Qd}{fd:Qt}(F:Fun K "by_layers" "by_layers" Vp f fd)(qh:mg "enumerate"=none)(T:RowC K C):FnOk P w K mg base CX0 1 f fd ["row","layers"] (spE K C 2 Yt) :=
 okE F JbW rfl fun _ _ _ _ _ _ hr hu=>⟨_,(Je (Jw (J0 (N':=["ahead","stretch","layers"]) (imp:=[none,none,some 1]) rfl (Wv (K:=K) rfl rfl qh (Ja (Yb (K:=K) rfl (pv 0) rfl) Jc)) (Zu (own:=["ahead","stretch"]) (fr:=[("layers",1)]) rfl rfl rfl ⟨rfl,trivial⟩ rfl ⟨⟨rfl,rfl,rfl⟩,trivial⟩) (fun _ _ _ _=>(Jy (K:=K) (n:=2) rfl rfl (Jg (pgN 0 JpM) (Jg (pgN 1 JpM) Jz)) rfl rfl)) (fun _ _ _ _=>JN) (fun _ _ _ _=>(Yc (Ja (Jo (JB (K:=K) rfl) (pxK K (pv 1) Jh) (Jo U2 (Jo U2 Jh (pv 2)) (pv 0))) (Ja (Jo (JB (K:=K) rfl) (pxK K (pv 1) Jh) (pv 2)) Jc))))))),by walk_at "s"⟩
theorem Jd2:FnScope ["row"] ["row"] (Ji WW):=by walk_at "c"
theorem JdR{f:Qd}{fd:Qt}(F:Fun K "gaps_of" "gaps_of" WW f fd)(qi:mg "sum"=none)(wk:mg "zip"=none)(T:RowC K C):FnOk P w K mg base CX0 1 f fd ["row"] (spE K C 1 VO) :=
 okE F Jd2 rfl fun _ _ _ _ _ _ hr hu=>⟨_,(Je (Jw (J0 (N':=["left","right"]) (imp:=[none,none]) rfl (JbO (K:=K) rfl rfl wk (Ja (Yb (K:=K) rfl (pv 0) rfl) (Ja (JhR (Jk9 (K:=K) rfl) (Yb (K:=K) rfl (pv 0) rfl) (Jkp Jh) Jko) Jc))) (Jb7 rfl rfl) (fun _ _ _ _=>(Jy (K:=K) (n:=2) rfl rfl (Jg (pgN 0 JpN) (Jg (pgN 1 JpN) Jz)) rfl rfl)) (fun _ _ _ _=>JN) (fun _ _ _ _=>(Jo JI (pxK K (pv 1) Jh) (Jm (J5 (K:=K) rfl rfl) rfl qi Ua (Ja (pv 0) Jc))))))),by walk_at "s"⟩
theorem JbY:FnScope ["row"] ["row"] (Ji Vs):=by walk_at "c"
theorem JbE{f:Qd}{fd:Qt}(F:Fun K "closes_at" "closes_at" Vs f fd)(qR:mg "min"=none)(ve:Cal P w K mg base "gaps_of" 1 ["row"] (spE K C 1 VO))(T:RowC K C):FnOk P w K mg base CX0 2 f fd ["row"] (spE K C 1 Yu) :=
 okE F JbY rfl fun _ _ _ _ _ _ hr hu=>⟨_,(Je (Jw (Jf8 (Jds (K:=K) rfl rfl) rfl qR WK (Ja (Jo (JB (K:=K) rfl) (J0 (N':=["begin","length"]) (imp:=[none,none]) rfl (piK K (Yb (K:=K) rfl (pv 0) rfl)) (Jb7 rfl rfl) (fun _ _ _ _=>(Jy (K:=K) (n:=2) rfl rfl (Jg (pgN 0 Jf0) (Jg (pgN 1 Jf0) Jz)) rfl rfl)) (fun _ _ _ _=>JN) (fun _ _ _ _=>(pv 1))) (Jk ve (hrM hr) rfl (Ja (pv 0) Jc))) Jc) Uv))),by walk_at "s"⟩
theorem sc_thinned:FnScope ["row","layers","left","still","at_once"] ["row","layers"] (Ji WY):=by walk_at "c"
theorem JdT{f:Qd}{fd:Qt}(F:Fun K "thinned" "thinned" WY f fd)(qR:mg "min"=none)(qQ:CalM P w K mg base "Row" C 2 ["self","stretches"] (U6 C K))(wp:Cal P w K mg base "closed_up" 1 ["pairs"] (spE K C 1 UX))(qF:Cal P w K mg base "by_layers" 1 ["row","layers"] (spE K C 2 Yt))(qG:Cal P w K mg base "closes_at" 2 ["row"] (spE K C 1 Yu))(T:RowC K C):FnOk P w K mg base CX0 4 f fd ["row","layers"] (spE K C 2 YH) :=
 okE F sc_thinned rfl fun _ _ _ _ _ _ hr hu=>⟨_,(Jd (psN 2 sc_thinned.nd (UJ qQ (hrM hr) rfl (Ja (Yb (K:=K) rfl (pv 0) rfl) Jc)))
  (Jd (psN 3 sc_thinned.nd (pv 1))
  (Jd (Jae QR (PW.pt (Vm (Js Vl (pv 3) Jh (Jv _)) (Ut (YO (K:=K) rfl (Yb (K:=K) rfl (pv 2) rfl) (fun _=>rfl))))) (Jd (psN 4 sc_thinned.nd (Jm (UF rfl) rfl qR WK (Ja (pv 3) (Ja (Jk qG (hrM hr) rfl (Ja (pv 2) Jc)) Jc))))
  (Jd (psN 2 sc_thinned.nd (UJ qQ (hrM hr) rfl (Ja (Jk wp (hrM hr) rfl (Ja (Jk qF (hrM hr) rfl (Ja (pv 2) (Ja (Z9 Wa (pv 4)) Jc))) Jc)) Jc)))
  (Je (Jac (i:=3) sc_thinned.nd rfl (.inl rfl) (pv 4) Jhl)))))
  (Je (Jw (pv 2)))))),by walk_at "s"⟩
theorem Jd1:FnScope ["row","place"] ["row","place"] (Ji WU):=by walk_at "c"
theorem JdP{f:Qd}{fd:Qt}(F:Fun K "ball_at" "ball_at" WU f fd)(ko:mg "any"=none)(T:RowC K C):FnOk P w K mg base CX0 1 f fd ["row","place"] (spE K C 2 UW) :=
 okE F Jd1 rfl fun _ _ _ _ _ _ hr hu=>⟨_,(Je (Jw (Jm (Jfk (K:=K) rfl rfl) rfl ko Jma (Ja (J0 (N':=["begin","length","place"]) (imp:=[none,none,some 1]) rfl (piK K (Yb (K:=K) rfl (pv 0) rfl)) (Zu (own:=["begin","length"]) (fr:=[("place",1)]) rfl rfl rfl ⟨rfl,trivial⟩ rfl ⟨⟨rfl,rfl,rfl⟩,trivial⟩) (fun _ _ _ _=>(Jy (K:=K) (n:=2) rfl rfl (Jg (pgN 0 Jj3) (Jg (pgN 1 Jj3) Jz)) rfl rfl)) (fun _ _ _ _=>JN) (fun _ _ _ _=>(JhN JeI Uj (pv 0) (pv 2) (Jo (JB (K:=K) rfl) (pv 0) (pv 1))))) Jc)))),by walk_at "s"⟩
theorem Jd3:FnScope ["left","spot"] ["left","spot"] (Ji WX):=by walk_at "c"
theorem JdS{f:Qd}{fd:Qt}(F:Fun K "owed_at" "owed_at" WX f fd)(wB:Cal P w K mg base "ball_at" 1 ["row","place"] (spE K C 2 UW)):FnOk P w K mg base CX0 2 f fd ["left","spot"] (spE K C 2 VP) :=
 okE F Jd3 rfl fun _ _ _ _ _ _ hr hu=>⟨_,(Je (Jw (Z3 (PW.pt (Vm (YO (K:=K) rfl (Jk wB (hrM hr) rfl (Ja (pv 0) (Ja (Jo JI (pv 1) Jh) Jc))) (fun _=>rfl)) (Ut (Jaf (YO (K:=K) rfl (Jk wB (hrM hr) rfl (Ja (pv 0) (Ja (pv 1) Jc))) (fun _=>rfl)))))) Jh Jh))),by walk_at "s"⟩
theorem sc_struck:FnScope ["row","left","pairs","ahead","stretch","spot"] ["row"] (Ji Jaj):=by walk_at "c"
theorem Jf5{f:Qd}{fd:Qt}(F:Fun K "struck" "struck" Jaj f fd)(qh:mg "enumerate"=none)(qi:mg "sum"=none)(vf:Cal P w K mg base "owed_at" 2 ["left","spot"] (spE K C 2 VP))(qL:Cal P w K mg base "thinned" 4 ["row","layers"] (spE K C 2 YH))(T:RowC K C):FnOk P w K mg base CX0 5 f fd ["row"] (spE K C 1 WN) :=
 okE F sc_struck rfl fun _ _ _ _ _ _ hr hu=>⟨_,(Jd (JbQ (i:=1) sc_struck.nd rfl (.inr rfl) (Jk qL (hrM hr) rfl (Ja (pv 0) (Ja Jh Jc))))
  (Jd (psN 2 sc_struck.nd Wt)
  (Jd (JX QR rfl (Wv (K:=K) rfl rfl qh (Ja (Yb (K:=K) rfl (pv 0) rfl) Jc)) (Jy (K:=K) (n:=2) rfl rfl (Jg (Jr (i:=3) sc_struck.nd rfl (.inl rfl)) (Jg (Jr (i:=4) sc_struck.nd rfl (.inl rfl)) Jz)) rfl rfl) (Jd (psN 5 sc_struck.nd (Jo JI (Jo JI (Jm (J5 (K:=K) rfl rfl) rfl qi Ua (Ja (pv 4) Jc)) Jh) (Jo U2 Jh (pv 3))))
  (Je (JbP (W4 hr) (pv 2) (pv 5) (Jo (JB (K:=K) rfl) (Ws (W4 hr) (pv 2) (pv 5) Jh ⟨rfl,rfl,rfl,rfl⟩) Jh) rfl))))
  (Je (Jkt 2 (Jw (J0 (N':=["spot","number","left"]) (imp:=[none,none,some 1]) rfl (JhT (pv 2)) (Zu (own:=["spot","number"]) (fr:=[("left",1)]) rfl rfl rfl ⟨rfl,trivial⟩ rfl ⟨⟨rfl,rfl,rfl⟩,trivial⟩) (fun _ _ _ _=>(Jy (K:=K) (n:=2) rfl rfl (Jg (pgN 0 JpO) (Jg (pgN 1 JpO) Jz)) rfl rfl)) (fun _ _ _ _=>JN) (fun _ _ _ _=>(Yc (Ja (pv 0) (Ja (pv 1) (Ja (Jk vf (hrM hr) rfl (Ja (pv 2) (Ja (pv 0) Jc))) Jc)))))))))))),by walk_at "s"⟩
theorem sc_table_of:FnScope ["row","table","left","size","layers"] ["row"] (Ji V7):=by walk_at "c"
theorem JcR{f:Qd}{fd:Qt}(F:Fun K "table_of" "table_of" V7 f fd)(qL:Cal P w K mg base "thinned" 4 ["row","layers"] (spE K C 2 YH))(vy:Cal P w K mg base "struck" 5 ["row"] (spE K C 1 WN))(qG:Cal P w K mg base "closes_at" 2 ["row"] (spE K C 1 Yu))(T:RowC K C):FnOk P w K mg base CX0 6 f fd ["row"] (spE K C 1 YR) :=
 okE F sc_table_of rfl fun _ _ _ _ _ _ hr hu=>⟨_,(Jd (psN 1 sc_table_of.nd (J7 Jc))
  (Jd (psN 2 sc_table_of.nd (pv 0))
  (Jd (JbQ (i:=3) sc_table_of.nd rfl (.inr rfl) Jh)
  (Jd (Jae QR (YO (K:=K) rfl (Yb (K:=K) rfl (pv 2) rfl) (fun _=>rfl)) (Jd (psN 4 sc_table_of.nd (Jk qG (hrM hr) rfl (Ja (pv 2) Jc)))
  (Jd (Jac (i:=3) sc_table_of.nd rfl (.inr rfl) (pv 4) JmS)
  (Jd (psN 2 sc_table_of.nd (Jk qL (hrM hr) rfl (Ja (pv 2) (Ja (Jo JI (pv 4) Jh) Jc))))
  (Jd (JP (YA (K:=K) rfl QI Kw Kx VD (pv 1) (Ja (J0 (N':=["spot","pairs","owed","size"]) (imp:=[none,none,none,some 3]) rfl (piK K (Jk vy (hrM hr) rfl (Ja (pv 2) Jc))) (Zu (own:=["spot","pairs","owed"]) (fr:=[("size",3)]) rfl rfl rfl ⟨rfl,trivial⟩ rfl ⟨⟨rfl,rfl,rfl⟩,trivial⟩) (fun _ _ _ _=>(Jy (K:=K) (n:=3) rfl rfl (Jg (pgN 0 Jhx) (Jg (pgN 1 Jhx) (Jg (pgN 2 Jhx) Jz))) rfl rfl)) (fun _ _ _ _=>(Jaa (Js Vl (pv 1) (pv 2) (Jv _)))) (fun _ _ _ _=>(Yc (Ja (pv 3) (Ja (pv 0) (Ja (Jo JI (pv 1) (pv 2)) Jc)))))) Jc)))
  (Je (psN 2 sc_table_of.nd (Jk qL (hrM hr) rfl (Ja (pv 2) (Ja Jh Jc))))))))))
  (Je (Jw (pv 1))))))),by walk_at "s"⟩
theorem sc_lumps_apart:FnScope ["row","lumps","size","spot","number"] ["row"] (Ji UB):=by walk_at "c"
theorem ZY{f:Qd}{fd:Qt}(F:Fun K "lumps_apart" "lumps_apart" UB f fd)(qM:Cal P w K mg base "table_of" 6 ["row"] (spE K C 1 YR)):FnOk P w K mg base CX0 7 f fd ["row"] (spE K C 1 Yw) :=
 okE F sc_lumps_apart rfl fun _ _ _ _ _ _ hr hu=>⟨_,(Jd (psN 1 sc_lumps_apart.nd (J7 Jc))
  (Jd (JX QR rfl (piK K (Jk qM (hrM hr) rfl (Ja (pv 0) Jc))) (Jy (K:=K) (n:=3) rfl rfl (Jg (Jr (i:=2) sc_lumps_apart.nd rfl (.inl rfl)) (Jg (Jr (i:=3) sc_lumps_apart.nd rfl (.inl rfl)) (Jg (Jr (i:=4) sc_lumps_apart.nd rfl (.inl rfl)) Jz))) rfl rfl) (Je (JP (YA (K:=K) rfl QI Kw Kx VD (pv 1) (Ja (Jo JhK (J7 (Ja (Yc (Ja (pv 2) (Ja (pv 3) Jc))) Jc)) (pv 4)) Jc)))))
  (Je (Jw (pv 1))))),by walk_at "s"⟩
theorem sc_lumps_of:FnScope ["row","numbers","size","spot","number"] ["row"] (Ji V4):=by walk_at "c"
theorem JcO{f:Qd}{fd:Qt}(F:Fun K "lumps_of" "lumps_of" V4 f fd)(qP:mg "list"=none)(qM:Cal P w K mg base "table_of" 6 ["row"] (spE K C 1 YR)):FnOk P w K mg base CX0 7 f fd ["row"] (spE K C 1 Yh) :=
 okE F sc_lumps_of rfl fun _ _ _ _ _ _ hr hu=>⟨_,(Jd (psN 1 sc_lumps_of.nd Wt)
  (Jd (JX QR rfl (piK K (Jk qM (hrM hr) rfl (Ja (pv 0) Jc))) (Jy (K:=K) (n:=3) rfl rfl (Jg (Jr (i:=2) sc_lumps_of.nd rfl (.inl rfl)) (Jg (Jr (i:=3) sc_lumps_of.nd rfl (.inl rfl)) (Jg (Jr (i:=4) sc_lumps_of.nd rfl (.inl rfl)) Jz))) rfl rfl) (Je (JbP (W4 hr) (pv 1) (pv 2) (Jo (JB (K:=K) rfl) (Ws (W4 hr) (pv 1) (pv 2) Jh ⟨rfl,rfl,rfl,rfl⟩) (pv 4)) rfl)))
  (Je (Jw (Yr (Jdo rfl) rfl qP Vz (Ja (JhQ (pv 1)) Jc)))))),by walk_at "s"⟩
theorem sc_number_of:FnScope ["boxes","row","lumps","apart","told","size","room","spots"] ["boxes","row"] (Ji Vw):=by walk_at "c"
theorem JbH{f:Qd}{fd:Qt}(F:Fun K "number_of" "number_of" Vw f fd)(qo:mg "len"=none)(qI:CalX P w K mg base "rooms" 3 ["boxes","lumps"] (spX K C 2 Yx Vj))(qd:Cal P w K mg base "spot_lists" 2 ["room","count"] (spE K C 2 Ju))(qJ:Cal P w K mg base "number_of_spots" 3 ["room","spots"] (spE K C 2 JT))(q9:Cal P w K mg base "lumps_apart" 7 ["row"] (spE K C 1 Yw))(qN:Cal P w K mg base "lumps_of" 7 ["row"] (spE K C 1 Yh))(qS:mg "NoRow"=some (.ref qe))(wW:AtX K "NoRow" qe):FnOk P w K mg base (CX1 P w) 8 f fd ["boxes","row"] (spX K C 2 Yj Y5):=by
 refine Fun.okX F sc_number_of (fun vs H Q E h=>Zq h) (fun cdv A outer s H vs Q E hr h=>?_);have hu:=hr.units;refine⟨_,(Jd (psN 2 sc_number_of.nd (Jk qN (hrM hr) rfl (Ja (pv 1) Jc)))
  (Jd (psN 3 sc_number_of.nd (Jk q9 (hrM hr) rfl (Ja (pv 1) Jc)))
  (Jd (psN 4 sc_number_of.nd Jh)
  (Jd (JX Rw rfl (piK K (YU qI (hrM hr) rfl xok_cx.passes (Ja (pv 0) (Ja (pv 2) Jc)))) (Jy (K:=K) (n:=2) rfl rfl (Jg (Jr (i:=5) sc_number_of.nd rfl (.inr rfl)) (Jg (Jr (i:=6) sc_number_of.nd rfl (.inl rfl)) Jz)) rfl rfl) (Jd (Jad (i:=7) (N':=["other","spot","size"]) (imp:=[none,none,some 5]) sc_number_of.nd rfl (.inl rfl) rfl (piK K (pv 3)) (Zu (own:=["other","spot"]) (fr:=[("size",5)]) rfl rfl rfl ⟨rfl,trivial⟩ rfl ⟨⟨rfl,rfl,rfl⟩,trivial⟩) (fun _ _ _ _=>(Jy (K:=K) (n:=2) rfl rfl (Jg (pgN 0 JlM) (Jg (pgN 1 JlM) Jz)) rfl rfl)) (fun _ _ _ _=>(Jaa (Js (VW (K:=K) rfl hu) (pv 0) (pv 2) (Jv _)))) (fun _ _ _ _=>(pv 1)) rfl (.inl rfl))
  (Jd (JS (PW.pt (Ja6 (Js Uj (pxK K (pv 7) Jh) Jh (Jv _)) (JbR (Js Vl (pxK K (pv 7) (Z9 Wa Jh)) (pv 6) (Jv _))))) (Je (VF (K:=K) rfl wW.ok rfl qS rfl xok_cx (Ja JbN Jc))) JD)
  (Je (psN 4 sc_number_of.nd (Jo (JB (K:=K) rfl) (Jo Jkd (pv 4) (Jk qd (hrM hr) rfl (Ja (pv 6) (Ja (Jm (JY (K:=K) rfl) rfl qo YX (Ja (pv 7) Jc)) Jc)))) (Jk qJ (hrM hr) rfl (Ja (pv 6) (Ja (pv 7) Jc)))))))))
  (Je (Jw (Yc (Ja (pv 2) (Ja (pv 4) Jc))))))))),?_⟩
 exact Wi (N:=["boxes","row","lumps","apart","told","size","room","spots"]) (Ya (JU (Ym (Jn (Jj 1) JG)))
  (Ya (JU (Ym (Jn (Jj 1) JG)))
  (Ya (JU JW)
  (Ya (Jdi (Zf (Y8 (Jn (Jj 0) (Jn (Jj 2) JG)))) (Us (JJ (YI 5) (JJ (YI 6) Ur)) rfl) (Ya (JU (Vt (Zf (Jj 3)) (Us (JJ (YI 0) (JJ (YI 1) Ur)) rfl) (JM (JV JhB (Jj 0) (Jj 2))) (Jj 1) rfl))
  (Ya (Zi (Ja8 (JM (JV JaB (JV Zd (Jj 7) JW) JW)) (JM (JV JcH (JV Zd (Jj 7) (Jgh Jbc JW)) (Jj 6)))) YE Y1)
  (JU (JV JcG (JV JdO (Jj 4) (Ym (Jn (Jj 6) (Jn (Jgg Jem (Jn (Jj 7) JG)) JG)))) (Ym (Jn (Jj 6) (Jn (Jj 7) JG))))))))
  (Jbd (JeW (Jn (Jj 2) (Jn (Jj 4) JG)))))))) (Ul (JU (Ym (Jn (Jj 1) JG)))
  UT (Ul (JU (Ym (Jn (Jj 1) JG)))
  UT (Ul (JU JW)
  UT (Ul (Jdi (Zf (Y8 (Jn (Jj 0) (Jn (Jj 2) JG)))) (Us (JJ (YI 5) (JJ (YI 6) Ur)) rfl) (Ya (JU (Vt (Zf (Jj 3)) (Us (JJ (YI 0) (JJ (YI 1) Ur)) rfl) (JM (JV JhB (Jj 0) (Jj 2))) (Jj 1) rfl))
  (Ya (Zi (Ja8 (JM (JV JaB (JV Zd (Jj 7) JW) JW)) (JM (JV JcH (JV Zd (Jj 7) (Jgh Jbc JW)) (Jj 6)))) YE Y1)
  (JU (JV JcG (JV JdO (Jj 4) (Ym (Jn (Jj 6) (Jn (Jgg Jem (Jn (Jj 7) JG)) JG)))) (Ym (Jn (Jj 6) (Jn (Jj 7) JG))))))))
  (JoW (Jfe (Zf (Y8 (Jn (Jj 0) (Jn (Jj 2) JG)))) (Us (JJ (YI 5) (JJ (YI 6) Ur)) rfl) (Ya (JU (Vt (Zf (Jj 3)) (Us (JJ (YI 0) (JJ (YI 1) Ur)) rfl) (JM (JV JhB (Jj 0) (Jj 2))) (Jj 1) rfl))
  (Ya (Zi (Ja8 (JM (JV JaB (JV Zd (Jj 7) JW) JW)) (JM (JV JcH (JV Zd (Jj 7) (Jgh Jbc JW)) (Jj 6)))) YE Y1)
  (JU (JV JcG (JV JdO (Jj 4) (Ym (Jn (Jj 6) (Jn (Jgg Jem (Jn (Jj 7) JG)) JG)))) (Ym (Jn (Jj 6) (Jn (Jj 7) JG))))))) (Ul (JU (Vt (Zf (Jj 3)) (Us (JJ (YI 0) (JJ (YI 1) Ur)) rfl) (JM (JV JhB (Jj 0) (Jj 2))) (Jj 1) rfl))
  UT (Ul (Zi (Ja8 (JM (JV JaB (JV Zd (Jj 7) JW) JW)) (JM (JV JcH (JV Zd (Jj 7) (Jgh Jbc JW)) (Jj 6)))) YE Y1)
  (Jff (Ja8 (JM (JV JaB (JV Zd (Jj 7) JW) JW)) (JM (JV JcH (JV Zd (Jj 7) (Jgh Jbc JW)) (Jj 6)))) (WJ wW.ns (Jn JeV JG)) UT) UT))) (JoV (Jlq (Zs (Jn (Jj 0) (Jn (Jj 2) JG)))))) UT)))) h
theorem sc_law_refused:FnScope ["boxes","row","found","e"] ["boxes","row"] (Ji UA):=by walk_at "c"
theorem ZX{f:Qd}{fd:Qt}(F:Fun K "_law_refused" "_law_refused" UA f fd)(qf:mg "isinstance"=none)(wg:Cal P w K mg base "_law_alone" 1 ["e"] (spE K C 1 UY))(qz:CalX P w K mg base "number_of" 8 ["boxes","row"] (spX K C 2 Yj Y5))(qS:mg "NoRow"=some (.ref qe))(xG:ExcG K)(xO:OwnL K ["BadTable","NoRow","TooMany"] [qa,qe,qb])(wA:IsiN K ["BadTable","NoRow","TooMany"] "NoRow" qe)(qE:mg "LumpError"=some (.ref qg))(wq:ExmL K qg [qa,qe,qb]):FnOk P w K mg base CX0 9 f fd ["boxes","row"] (spE K C 2 Yv) :=
 okE F sc_law_refused rfl fun _ _ _ _ _ _ hr hu=>⟨_,(Jd (psN 2 sc_law_refused.nd Uv)
  (Jd (Jkw (K:=K) (i:=3) rfl rfl rfl rfl sc_law_refused.nd rfl rfl rfl qE (JhM (JhL (Jkx qz (hrM hr) rfl (Ja (pv 0) (Ja (pv 1) Jc))))) (fun a=>(Je (psN 2 sc_law_refused.nd (pv 3)))))
  (Je (Jw (JbK (Jm (J2 (K:=K) rfl) rfl qf JC (Ja (pv 2) (Ja (YB (v:=V.ref qe) rfl qS rfl) Jc))) (JdV (Jk wg (hrM hr) rfl (Ja (pv 2) Jc)))))))),(Ya (JU JlU)
  (Ya (Jr1 (wq.all xO) (fun W=>(JiT (fun W=>Y8 (Jn (Jj 0) (Jn (Jj 1) JG))) W)) (Jlp (fun W=>Zs (Jn (Jj 0) (Jn (Jj 1) JG)))) (JU (Jj 3)))
  (Jbd (JlS (JlT wA (Jj 2)) (Ym (Jn (Jj 2) JG))))))⟩
theorem JbZ:FnScope ["row","layers"] ["row","layers"] (Ji Vx):=by walk_at "c"
theorem JbI{f:Qd}{fd:Qt}(F:Fun K "thickened" "thickened" Vx f fd)(qQ:CalM P w K mg base "Row" C 2 ["self","stretches"] (U6 C K))(qF:Cal P w K mg base "by_layers" 1 ["row","layers"] (spE K C 2 Yt)):FnOk P w K mg base CX0 4 f fd ["row","layers"] (spE K C 2 U0) :=
 okE F JbZ rfl fun _ _ _ _ _ _ hr hu=>⟨_,(Je (Jw (UJ qQ (hrM hr) rfl (Ja (Jk qF (hrM hr) rfl (Ja (pv 0) (Ja (pv 1) Jc))) Jc)))),by walk_at "s"⟩
theorem Jak:FnScope ["row","place"] ["row","place"] (Ji Uw):=by walk_at "c"
theorem ZT{f:Qd}{fd:Qt}(F:Fun K "balls_below" "balls_below" Uw f fd)(qi:mg "sum"=none)(kq:mg "max"=none)(qR:mg "min"=none)(T:RowC K C):FnOk P w K mg base CX0 1 f fd ["row","place"] (spE K C 2 Uc) :=
 okE F Jak rfl fun _ _ _ _ _ _ hr hu=>⟨_,(Je (Jw (Jm (J5 (K:=K) rfl rfl) rfl qi Ua (Ja (J0 (N':=["begin","length","place"]) (imp:=[none,none,some 1]) rfl (piK K (Yb (K:=K) rfl (pv 0) rfl)) (Zu (own:=["begin","length"]) (fr:=[("place",1)]) rfl rfl rfl ⟨rfl,trivial⟩ rfl ⟨⟨rfl,rfl,rfl⟩,trivial⟩) (fun _ _ _ _=>(Jy (K:=K) (n:=2) rfl rfl (Jg (pgN 0 Jj3) (Jg (pgN 1 Jj3) Jz)) rfl rfl)) (fun _ _ _ _=>JN) (fun _ _ _ _=>(Jm (Jfo rfl) rfl kq Jmb (Ja Jh (Ja (Jm (UF rfl) rfl qR WK (Ja (pv 1) (Ja (Jo JI (pv 2) (pv 0)) Jc))) Jc))))) Jc)))),by walk_at "s"⟩
theorem sc_ended_at:FnScope ["row","spots","stretches","counted","ahead","spot","below","balls"] ["row","spots"] (Ji VZ):=by walk_at "c"
theorem JcJ{f:Qd}{fd:Qt}(F:Fun K "ended_at" "ended_at" VZ f fd)(qh:mg "enumerate"=none)(wa:Cal P w K mg base "balls_below" 1 ["row","place"] (spE K C 2 Uc)):FnOk P w K mg base CX0 2 f fd ["row","spots"] (spE K C 2 Vg) :=
 okE F sc_ended_at rfl fun _ _ _ _ _ _ hr hu=>⟨_,(Jd (psN 2 sc_ended_at.nd (J7 Jc))
  (Jd (psN 3 sc_ended_at.nd Jh)
  (Jd (JX QR rfl (Wv (K:=K) rfl rfl qh (Ja (pv 1) Jc)) (Jy (K:=K) (n:=2) rfl rfl (Jg (Jr (i:=4) sc_ended_at.nd rfl (.inl rfl)) (Jg (Jr (i:=5) sc_ended_at.nd rfl (.inl rfl)) Jz)) rfl rfl) (Jd (psN 6 sc_ended_at.nd (Jk wa (hrM hr) rfl (Ja (pv 0) (Ja (pv 5) Jc))))
  (Jd (psN 7 sc_ended_at.nd (Jo JI (pv 6) (pv 3)))
  (Jd (JP (YA (K:=K) rfl QI Gq Gr Yq (pv 2) (Ja (Yc (Ja (Jo JI (Jo (JB (K:=K) rfl) (pv 5) (Jo U2 Jh (pv 4))) (pv 7)) (Ja (Jo (JB (K:=K) rfl) (pv 7) Jh) Jc))) Jc)))
  (Je (psN 3 sc_ended_at.nd (pv 6)))))))
  (Je (Jw (pv 2)))))),by walk_at "s"⟩
theorem sc_put_in:FnScope ["row","pairs","spots","spot","number"] ["row","pairs"] (Ji Jah):=by walk_at "c"
theorem Jf3{f:Qd}{fd:Qt}(F:Fun K "put_in" "put_in" Jah f fd)(qt:mg "sorted"=none)(qo:mg "len"=none)(qi:mg "sum"=none)(qj:GV mg "MOST_STRETCHES" (.int 30))(qQ:CalM P w K mg base "Row" C 2 ["self","stretches"] (U6 C K))(wM:Cal P w K mg base "ended_at" 2 ["row","spots"] (spE K C 2 Vg))(T:RowC K C):FnOk P w K mg base CX0 4 f fd ["row","pairs"] (spE K C 2 WL) :=
 okE F sc_put_in rfl fun _ _ _ _ _ _ hr hu=>⟨_,(Jd (JS (Js Vl (Jo (JB (K:=K) rfl) (Jm (JY (K:=K) rfl) rfl qo YX (Ja (Yb (K:=K) rfl (pv 0) rfl) Jc)) (Jm (J5 (K:=K) rfl rfl) rfl qi Ua (Ja (J0 (N':=["spot","number"]) (imp:=[none,none]) rfl (piK K (pv 1)) (Jb7 rfl rfl) (fun _ _ _ _=>(Jy (K:=K) (n:=2) rfl rfl (Jg (pgN 0 JlN) (Jg (pgN 1 JlN) Jz)) rfl rfl)) (fun _ _ _ _=>JN) (fun _ _ _ _=>(pv 1))) Jc))) (UI rfl qj) (Jv _)) (Je Yn) JD)
  (Jd (Jad (i:=2) (N':=["begin","length"]) (imp:=[none,none]) sc_put_in.nd rfl (.inl rfl) rfl (piK K (Yb (K:=K) rfl (pv 0) rfl)) (Jb7 rfl rfl) (fun _ _ _ _=>(Jy (K:=K) (n:=2) rfl rfl (Jg (pgN 0 Jf0) (Jg (pgN 1 Jf0) Jz)) rfl rfl)) (fun _ _ _ _=>JN) (fun _ _ _ _=>(Jo (JB (K:=K) rfl) (pv 0) (pv 1))) rfl (.inl rfl))
  (Jd (JX QR rfl (piK K (pv 1)) (Jy (K:=K) (n:=2) rfl rfl (Jg (Jr (i:=3) sc_put_in.nd rfl (.inl rfl)) (Jg (Jr (i:=4) sc_put_in.nd rfl (.inl rfl)) Jz)) rfl rfl) (Je (JP (YA (K:=K) rfl QI Kw Kx VD (pv 2) (Ja (Jo JhK (J7 (Ja (pv 3) Jc)) (pv 4)) Jc)))))
  (Je (Jw (UJ qQ (hrM hr) rfl (Ja (Jk wM (hrM hr) rfl (Ja (pv 0) (Ja (Jm (Wd (K:=K) rfl rfl) rfl qt JaM (Ja (pv 2) Jc)) Jc))) Jc))))))),by walk_at "s"⟩
theorem sc_check_table:FnScope ["table","ahead","size","spot","number"] ["table"] (Ji Uz):=by walk_at "c"
theorem ZW{f:Qd}{fd:Qt}(F:Fun K "check_table" "check_table" Uz f fd)(qi:mg "sum"=none)(qx:GV mg "MOST_LUMPS" (.int 30)):FnOk P w K mg base CX0 1 f fd ["table"] (spE K C 1 Ue) :=
 okE F sc_check_table rfl fun _ _ _ _ _ _ hr hu=>⟨_,(Jd (psN 1 sc_check_table.nd Uv)
  (Jd (JX QR rfl (piK K (pv 0)) (Jy (K:=K) (n:=3) rfl rfl (Jg (Jr (i:=2) sc_check_table.nd rfl (.inl rfl)) (Jg (Jr (i:=3) sc_check_table.nd rfl (.inl rfl)) (Jg (Jr (i:=4) sc_check_table.nd rfl (.inl rfl)) Jz))) rfl rfl) (Jd (JS (PW.pt (Ja6 (Js Uj (pv 2) Jh (Jv _)) (JbR (Js Uj (pv 4) Jh (Jv _))))) (Je Yn) JD)
  (Jd (JS (PW.pt (Vm (Js Wp (pv 1) Uv (Jv _)) (Ut (Js (JnA (K:=K) rfl (GB (K9 _ 64) hu)) (Yc (Ja (pv 2) (Ja (pv 3) Jc))) (pv 1) (Jv _))))) (Je Yn) JD)
  (Je (psN 1 sc_check_table.nd (Yc (Ja (pv 2) (Ja (pv 3) Jc))))))))
  (Je (JS (Js Vl (Jm (J5 (K:=K) rfl rfl) rfl qi Ua (Ja (J0 (N':=["size","spot","number"]) (imp:=[none,none,none]) rfl (piK K (pv 0)) (Jb7 rfl rfl) (fun _ _ _ _=>(Jy (K:=K) (n:=3) rfl rfl (Jg (pgN 0 Jhy) (Jg (pgN 1 Jhy) (Jg (pgN 2 Jhy) Jz))) rfl rfl)) (fun _ _ _ _=>JN) (fun _ _ _ _=>(pv 2))) Jc)) (UI rfl qx) (Jv _)) (Je Yn) JD)))),by walk_at "s"⟩
theorem sc_row_of:FnScope ["table","lumps","size","spot","number","sizes","row","lesser"] ["table"] (Ji Jai):=by walk_at "c"
theorem Jf4{f:Qd}{fd:Qt}(F:Fun K "row_of" "row_of" Jai f fd)(wN:mg "reversed"=none)(qP:mg "list"=none)(wk:mg "zip"=none)(wt:Cal P w K mg base "thickened" 4 ["row","layers"] (spE K C 2 U0))(vz:Cal P w K mg base "put_in" 4 ["row","pairs"] (spE K C 2 WL))(qQ:CalM P w K mg base "Row" C 2 ["self","stretches"] (U6 C K))(wb:Cal P w K mg base "check_table" 1 ["table"] (spE K C 1 Ue)):FnOk P w K mg base CX0 5 f fd ["table"] (spE K C 1 WM) :=
 okE F sc_row_of rfl fun _ _ _ _ _ _ hr hu=>⟨_,(Jd (JP (Jk wb (hrM hr) rfl (Ja (pv 0) Jc)))
  (Jd (psN 1 sc_row_of.nd Wt)
  (Jd (JX QR rfl (piK K (pv 0)) (Jy (K:=K) (n:=3) rfl rfl (Jg (Jr (i:=2) sc_row_of.nd rfl (.inl rfl)) (Jg (Jr (i:=3) sc_row_of.nd rfl (.inl rfl)) (Jg (Jr (i:=4) sc_row_of.nd rfl (.inl rfl)) Jz))) rfl rfl) (Je (JP (YA (K:=K) rfl QI Gq Gr Yq (JhP (pv 1) (pv 2) (J7 Jc) ⟨rfl,rfl,rfl,rfl⟩) (Ja (Yc (Ja (pv 3) (Ja (pv 4) Jc))) Jc)))))
  (Jd (psN 5 sc_row_of.nd (Yr (Jdp rfl) rfl qP Vz (Ja (pv 1) Jc)))
  (Jd (psN 6 sc_row_of.nd (UJ qQ (hrM hr) rfl (Ja (J7 Jc) Jc)))
  (Jd (JX QR rfl (Jkm (K:=K) rfl rfl wN (Ja (JcT (K:=K) rfl rfl rfl qP rfl wk (Ja (Jo (JB (K:=K) rfl) (J7 (Ja Jh Jc)) (pv 5)) (Ja (pv 5) Jc))) Jc)) (Jy (K:=K) (n:=2) rfl rfl (Jg (Jr (i:=7) sc_row_of.nd rfl (.inl rfl)) (Jg (Jr (i:=2) sc_row_of.nd rfl (.inl rfl)) Jz)) rfl rfl) (Je (psN 6 sc_row_of.nd (Jk wt (hrM hr) rfl (Ja (Jk vz (hrM hr) rfl (Ja (pv 6) (Ja (Jkg (W4 hr) (pv 1) (pv 2) (fun _ _=>rfl)) Jc))) (Ja (Jo JI (Jo JI (pv 2) (pv 7)) Jh) Jc))))))
  (Je (Jw (pv 6))))))))),(Ya (Wc (Ym (Jn (Jj 0) JG)))
  (Ya (Jl2 Jio)
  (Ya (JrZ (JkW 0) (JmO (Jbu (Jhf (by decide)) (Jbu (Jhf (by decide)) (Jbu (Jhf (by decide)) JmN))) rfl) (Jj 2) (JeW (Jn (Jj 3) (Jn (Jj 4) JG))))
  (Ya (JU (JkY (Jj 1)))
  (Ya (JU (JlV (Jn (Jiq JG) JG)))
  (Ya (Jdi (Joy (Jn (JoC (Jn (JV JcG (Jiq (Jn JW JG)) (Jj 5)) (Jn (Jj 5) JG))) JG)) (Us (JJ (YI 7) (JJ (YI 2) Ur)) rfl) (JU (Ym (Jn (Ym (Jn (Jj 6) (Jn (Jqo (Jj 1) (Jj 2)) JG))) (Jn (JV JeG (JV JeG (Jj 2) (Jj 7)) JW) JG)))))
  JiS))))))⟩
theorem sc_least_room:FnScope ["greatest","count","lists","low","high","middle"] ["greatest","count","lists"] (Ji U3):=by walk_at "c"
theorem JaC{f:Qd}{fd:Qt}(F:Fun K "least_room" "least_room" U3 f fd)(qd:Cal P w K mg base "spot_lists" 2 ["room","count"] (spE K C 2 Ju)):FnOk P w K mg base CX0 3 f fd ["greatest","count","lists"] (spE K C 3 Uu) :=
 okE F sc_least_room rfl fun _ _ _ _ _ _ hr hu=>⟨_,(Jd (psN 3 sc_least_room.nd Jh)
  (Jd (psN 4 sc_least_room.nd (pv 0))
  (Jd (Jae QR (Js Uj (pv 3) (pv 4) (Jv _)) (Jd (psN 5 sc_least_room.nd (Jo Zo (Jo (JB (K:=K) rfl) (pv 3) (pv 4)) Jh))
  (Je (JS (Js Uj (Jk qd (hrM hr) rfl (Ja (pv 5) (Ja (pv 1) Jc))) (pv 2) (Jv _)) (Je (psN 3 sc_least_room.nd (Jo (JB (K:=K) rfl) (pv 5) Jh))) (Je (psN 4 sc_least_room.nd (pv 5)))))))
  (Je (Jw (pv 3)))))),by walk_at "s"⟩
theorem sc_spots_numbered:FnScope ["room","count","number","spots","still","spots_left","rest"] ["room","count","number"] (Ji YL):=by walk_at "c"
theorem Wo{f:Qd}{fd:Qt}(F:Fun K "spots_numbered" "spots_numbered" YL f fd)(qr:mg "range"=none)(qd:Cal P w K mg base "spot_lists" 2 ["room","count"] (spE K C 2 Ju))(wj:Cal P w K mg base "least_room" 3 ["greatest","count","lists"] (spE K C 3 Uu)):FnOk P w K mg base CX0 4 f fd ["room","count","number"] (spE K C 3 Yy) :=
 okE F sc_spots_numbered rfl fun _ _ _ _ _ _ hr hu=>⟨_,(Jd (psN 3 sc_spots_numbered.nd (J7 Jc))
  (Jd (psN 4 sc_spots_numbered.nd (Jo JI (Jk qd (hrM hr) rfl (Ja (pv 0) (Ja (pv 1) Jc))) (pv 2)))
  (Jd (JX QR rfl (Jf9 rfl qr (Ja (pv 1) (Ja Jh (Ja (Z9 Wa Jh) Jc)))) (Jr (i:=5) sc_spots_numbered.nd rfl (.inl rfl)) (Jd (psN 6 sc_spots_numbered.nd (Jk wj (hrM hr) rfl (Ja (pv 0) (Ja (pv 5) (Ja (pv 4) Jc)))))
  (Jd (Jac (i:=4) sc_spots_numbered.nd rfl (.inl rfl) (Jk qd (hrM hr) rfl (Ja (Jo JI (pv 6) Jh) (Ja (pv 5) Jc))) Jhl)
  (Je (JP (YA (K:=K) rfl QI Gq Gr Yq (pv 3) (Ja (Jo JI (pv 0) (pv 6)) Jc)))))))
  (Je (Jw (pv 3)))))),by walk_at "s"⟩
theorem sc_how_many:FnScope ["boxes","lumps","told","room","lump"] ["boxes","lumps"] (Ji V1):=by walk_at "c"
theorem JcL{f:Qd}{fd:Qt}(F:Fun K "how_many" "how_many" V1 f fd)(wk:mg "zip"=none)(qI:CalX P w K mg base "rooms" 3 ["boxes","lumps"] (spX K C 2 Yx Vj))(qd:Cal P w K mg base "spot_lists" 2 ["room","count"] (spE K C 2 Ju)):FnOk P w K mg base CX0 4 f fd ["boxes","lumps"] (spE K C 2 JQ) :=
 okE F sc_how_many rfl fun _ _ _ _ _ _ hr hu=>⟨_,(Jd (psN 2 sc_how_many.nd Jh)
  (Jd (JX QR rfl (JbO (K:=K) rfl rfl wk (Ja (YU qI (hrM hr) rfl JcS (Ja (pv 0) (Ja (pv 1) Jc))) (Ja (pv 1) Jc))) (Jy (K:=K) (n:=2) rfl rfl (Jg (Jr (i:=3) sc_how_many.nd rfl (.inl rfl)) (Jg (Jr (i:=4) sc_how_many.nd rfl (.inl rfl)) Jz)) rfl rfl) (Je (Jac (i:=2) sc_how_many.nd rfl (.inl rfl) (Jk qd (hrM hr) rfl (Ja (pxK K (pv 3) Jh) (Ja (pxK K (pv 4) Jh) Jc))) JjK)))
  (Je (Jw (pv 2))))),by walk_at "s"⟩
theorem sc_numbered:FnScope ["boxes","lumps","number","same","table","left","room","lump","spots"] ["boxes","lumps","number"] (Ji V5):=by walk_at "c"
theorem JcP{f:Qd}{fd:Qt}(F:Fun K "numbered" "numbered" V5 f fd)(wk:mg "zip"=none)(qt:mg "sorted"=none)(vI:mg "set"=none)(vA:Cal P w K mg base "row_of" 5 ["table"] (spE K C 1 WM))(qI:CalX P w K mg base "rooms" 3 ["boxes","lumps"] (spX K C 2 Yx Vj))(qO:Cal P w K mg base "spots_numbered" 4 ["room","count","number"] (spE K C 3 Yy))(qd:Cal P w K mg base "spot_lists" 2 ["room","count"] (spE K C 2 Ju))(qw:Cal P w K mg base "how_many" 4 ["boxes","lumps"] (spE K C 2 JQ)):FnOk P w K mg base CX0 6 f fd ["boxes","lumps","number"] (spE K C 3 Uq) :=
 okE F sc_numbered rfl fun _ _ _ _ _ _ hr hu=>⟨_,(Jd (psN 3 sc_numbered.nd (Jk qw (hrM hr) rfl (Ja (pv 0) (Ja (pv 1) Jc))))
  (Jd (JS (Jaf (JhY JeI Uj Jh (pv 2) (pv 3))) (Je Yn) JD)
  (Jd (psN 4 sc_numbered.nd (J7 Jc))
  (Jd (psN 5 sc_numbered.nd (pv 2))
  (Jd (JX QR rfl (JbO (K:=K) rfl rfl wk (Ja (YU qI (hrM hr) rfl JcS (Ja (pv 0) (Ja (pv 1) Jc))) (Ja (pv 1) Jc))) (Jy (K:=K) (n:=2) rfl rfl (Jg (Jr (i:=6) sc_numbered.nd rfl (.inl rfl)) (Jg (Jr (i:=7) sc_numbered.nd rfl (.inr rfl)) Jz)) rfl rfl) (Jd (Jac (i:=3) sc_numbered.nd rfl (.inl rfl) (Jk qd (hrM hr) rfl (Ja (pxK K (pv 6) Jh) (Ja (pxK K (pv 7) Jh) Jc))) JjJ)
  (Jd (JbQ (i:=8) sc_numbered.nd rfl (.inr rfl) (Jk qO (hrM hr) rfl (Ja (pxK K (pv 6) Jh) (Ja (pxK K (pv 7) Jh) (Ja (Jo JhI (pv 5) (pv 3)) Jc)))))
  (Jd (psN 5 sc_numbered.nd (Jo JhJ (pv 5) (pv 3)))
  (Je (JP (YA (K:=K) rfl QI Kw Kx VD (pv 4) (Ja (J0 (N':=["spot","lump","spots"]) (imp:=[none,some 7,some 8]) rfl (piK K (JcU (K:=K) rfl rfl rfl qt rfl vI (pv 8))) (Zu (own:=["spot"]) (fr:=[("lump",7),("spots",8)]) rfl rfl rfl ⟨rfl,rfl,trivial⟩ rfl ⟨⟨rfl,rfl,rfl⟩,⟨rfl,rfl,rfl⟩,trivial⟩) (fun _ _ _ _=>(pgN 0 JpH)) (fun _ _ _ _=>JN) (fun _ _ _ _=>(Yc (Ja (pxK K (pv 1) Jh) (Ja (pv 0) (Ja (YA (K:=K) rfl QI ML MM JfZ (pv 2) (Ja (pv 0) Jc)) Jc)))))) Jc))))))))
  (Je (Jw (Jk vA (hrM hr) rfl (Ja (pv 4) Jc))))))))),by walk_at "s"⟩
theorem Jgi:FnScope ["boxes","balls"] ["boxes","balls"] (Ji Jag):=by walk_at "c"
theorem Jf2{f:Qd}{fd:Qt}(F:Fun K "in_all" "in_all" Jag f fd)(qK:Cal P w K mg base "choices" 1 ["many","few"] (spE K C 2 YG)):FnOk P w K mg base CX0 2 f fd ["boxes","balls"] (spE K C 2 VA) :=
 okE F Jgi rfl fun _ _ _ _ _ _ hr hu=>⟨_,(Jd (JS (Js Vl (Jo U2 Jh (pv 1)) (pv 0) (Jv _)) (Je (Jw Jh)) JD)
  (Je (Jw (Jo JI (Jk qK (hrM hr) rfl (Ja (pv 0) (Ja (pv 1) Jc))) (Jk qK (hrM hr) rfl (Ja (pv 0) (Ja (Jo JI (pv 1) Jh) Jc))))))),by walk_at "s"⟩
theorem Jc0:FnScope ["script","k"] ["script","k"] (Ji V2):=by walk_at "c"
theorem JcM{f:Qd}{fd:Qt}(F:Fun K "_law_cell" "_law_cell" V2 f fd)(qo:mg "len"=none):FnOk P w K mg base CX0 1 f fd ["script","k"] (spE K C 2 YQ) :=
 okE F Jc0 rfl fun _ _ _ _ _ _ hr hu=>⟨_,(Jd (JS (Js Uj (pv 1) (Jm (JY (K:=K) rfl) rfl qo YX (Ja (pv 0) Jc)) (Jv _)) (Je (Jw (pxK K (pv 0) (pv 1)))) JD)
  (Je (Jw Jh))),by walk_at "s"⟩
theorem sc_law:FnScope ["script","boxes","by_balls","by_lumps","mask","row","lumps","found","key","balls"] ["script"] (Ji Ww):=by walk_at "c"
theorem Jnm{f:Qd}{fd:Qt}(F:Fun K "law" "law" Ww f fd)(qr:mg "range"=none)(qP:mg "list"=none)(qf:mg "isinstance"=none)(v2:mg "bool"=none)(qo:mg "len"=none)(wd:mg "tuple"=none)(qi:mg "sum"=none)(qt:mg "sorted"=none)(qV:Cal P w K mg base "row_of_balls" 4 ["places"] (spE K C 1 Yo))(wu:Cal P w K mg base "_law_held" 2 ["row","boxes"] (spE K C 2 Up))(qW:Cal P w K mg base "_law_refused" 9 ["boxes","row"] (spE K C 2 Yv))(qN:Cal P w K mg base "lumps_of" 7 ["row"] (spE K C 1 Yh))(qz:CalX P w K mg base "number_of" 8 ["boxes","row"] (spX K C 2 Yj Y5))(wO:Cal P w K mg base "numbered" 6 ["boxes","lumps","number"] (spE K C 3 Uq))(vB:Cal P w K mg base "in_all" 2 ["boxes","balls"] (spE K C 2 VA))(qw:Cal P w K mg base "how_many" 4 ["boxes","lumps"] (spE K C 2 JQ))(wv:Cal P w K mg base "_law_cell" 1 ["script","k"] (spE K C 2 YQ))(T:RowC K C):FnOk P w K mg base CX0 10 f fd ["script"] (spE K C 1 Jdx) :=
 okE F sc_law rfl fun _ _ _ _ _ _ hr hu=>⟨_,(Jd (psN 1 sc_law.nd (Jo JhJ (Jk wv (hrM hr) rfl (Ja (pv 0) (Ja Jh Jc))) Jh))
  (Jd (psN 2 sc_law.nd Wt)
  (Jd (psN 3 sc_law.nd JhO)
  (Jd (JX QR rfl (UK rfl qr (Ja (Jo JnD Jh (pv 1)) Jc)) (Jr (i:=4) sc_law.nd rfl (.inr rfl)) (Jd (psN 5 sc_law.nd (Jk qV (hrM hr) rfl (Ja (J0 (N':=["k","mask"]) (imp:=[none,some 4]) rfl (UK rfl qr (Ja (pv 1) Jc)) (Zu (own:=["k"]) (fr:=[("mask",4)]) rfl rfl rfl ⟨rfl,trivial⟩ rfl ⟨⟨rfl,rfl,rfl⟩,trivial⟩) (fun _ _ _ _=>(pgN 0 JpI)) (fun _ _ _ _=>(Jaa (Js (VW (K:=K) rfl hu) (Jo Jnv (Jo JnE (pv 1) (pv 0)) Jh) Jh (Jv _)))) (fun _ _ _ _=>(pv 0))) Jc)))
  (Je (JS (Jaf (YO (K:=K) rfl (Jk wu (hrM hr) rfl (Ja (Yr (Zw (K:=K) rfl) rfl qP Vz (Ja (Yb (K:=K) rfl (pv 5) rfl) Jc)) (Ja (pv 1) Jc))) (fun _=>rfl))) (Je (JS (Jaf (YO (K:=K) rfl (Jk qW (hrM hr) rfl (Ja (pv 1) (Ja (pv 5) Jc))) (fun _=>rfl))) (Je (Jw Wr)) JD)) (Jd (psN 6 sc_law.nd (Jk qN (hrM hr) rfl (Ja (pv 5) Jc)))
  (Jd (psN 7 sc_law.nd (YU qz (hrM hr) rfl JcS (Ja (pv 1) (Ja (pv 5) Jc))))
  (Jd (JS (PW.pt (Ja6 (Jaf (YO (K:=K) rfl (Jm (JaN (K:=K) rfl) rfl qf JC (Ja (pv 7) (Ja (JbL (v:=V.ty "tuple") rfl wd Zv rfl) Jc))) (fun _=>rfl))) (Ja6 (Js (VX (K:=K) rfl hu) (Jm (JY (K:=K) rfl) rfl qo YX (Ja (pv 7) Jc)) Jh (Jv _)) (Ja6 (Js (VX (K:=K) rfl hu) (pxK K (pv 7) Jh) (pv 6) (Jv _)) (JbR (YO (K:=K) rfl (Jm (JaN (K:=K) rfl) rfl qf JC (Ja (pxK K (pv 7) Jh) (Ja (JbL (v:=V.ty "bool") rfl v2 Ji5 rfl) Jc))) (fun _=>rfl))))))) (Je (Jw Wr)) JD)
  (Jd (psN 8 sc_law.nd (Yr (W0 (K:=K) rfl) rfl wd Zv (Ja (pv 6) Jc)))
  (Jd (JS (JnU (JdU (K:=K) rfl (hu6 hu) (pv 8) (pv 3))) (Je (JhW (K:=K) rfl (hu6 hu) (pv 3) (pv 8) (J7 Jc) rfl)) JD)
  (Jd (JP (YA (K:=K) rfl QI Gq Gr Yq (Wu (K:=K) rfl (hu6 hu) (pv 3) (pv 8) (fun _ _=>rfl)) (Ja (pxK K (pv 7) Jh) Jc)))
  (Jd (psN 9 sc_law.nd (Jm (J5 (K:=K) rfl rfl) rfl qi Ua (Ja (J0 (N':=["size","number"]) (imp:=[none,none]) rfl (piK K (pv 6)) (Jb7 rfl rfl) (fun _ _ _ _=>(Jy (K:=K) (n:=2) rfl rfl (Jg (pgN 0 Jj2) (Jg (pgN 1 Jj2) Jz)) rfl rfl)) (fun _ _ _ _=>JN) (fun _ _ _ _=>(Jo U2 (pv 0) (pv 1)))) Jc)))
  (Jd (JbP (W4 hr) (pv 2) (pv 9) (Jo (JB (K:=K) rfl) (Ws (W4 hr) (pv 2) (pv 9) Jh ⟨rfl,rfl,rfl,rfl⟩) Jh) rfl)
  (Je (JS (Js (VX (K:=K) rfl hu) (Yb (K:=K) rfl (Jk wO (hrM hr) rfl (Ja (pv 1) (Ja (pv 6) (Ja (pxK K (pv 7) Jh) Jc)))) rfl) (Yb (K:=K) rfl (pv 5) rfl) (Jv _)) (Je (Jw Wr)) JD))))))))))))))
  (Jd (JX QR rfl (UK rfl qr (Ja (Jo (JB (K:=K) rfl) (pv 1) Jh) Jc)) (Jr (i:=9) sc_law.nd rfl (.inl rfl)) (Je (JS (Js (VX (K:=K) rfl hu) (Jk vB (hrM hr) rfl (Ja (pv 1) (Ja (pv 9) Jc))) (Ws (W4 hr) (pv 2) (pv 9) Jh ⟨rfl,rfl,rfl,rfl⟩) (Jv _)) (Je (Jw Wr)) JD)))
  (Jd (Jku 3 (JX QR rfl (Jkk (pv 3)) (Jr (i:=8) sc_law.nd rfl (.inl rfl)) (Jd (JS (Js (VX (K:=K) rfl hu) (Jk qw (hrM hr) rfl (Ja (pv 1) (Ja (Yr (Zw (K:=K) rfl) rfl qP Vz (Ja (pv 8) Jc)) Jc))) (Jm (JY (K:=K) rfl) rfl qo YX (Ja (Wu (K:=K) rfl (hu6 hu) (pv 3) (pv 8) (fun _ _=>rfl)) Jc)) (Jv _)) (Je (Jw Wr)) JD)
  (Je (JS (Js (VX (K:=K) rfl hu) (Jm (Wd (K:=K) rfl rfl) rfl qt JaM (Ja (Wu (K:=K) rfl (hu6 hu) (pv 3) (pv 8) (fun _ _=>rfl)) Jc)) (Yr (Jdr rfl) rfl qP Vz (Ja (Jkj rfl qr (Ja (Jm (JY (K:=K) rfl) rfl qo YX (Ja (Wu (K:=K) rfl (hu6 hu) (pv 3) (pv 8) (fun _ _=>rfl)) Jc)) Jc)) Jc)) (Jv _)) (Je (Jw Wr)) JD)))))
  (Je (Jw (JbK (JbM (VW (K:=K) rfl hu) (Jk qw (hrM hr) rfl (Ja (pv 1) (Ja (J7 (Ja (Yc (Ja Jh (Ja (Jo (JB (K:=K) rfl) (Jo Zo (pv 1) Jh) Jh) Jc))) Jc)) Jc))) Jh (Jv _)) (JdV (JbM (VW (K:=K) rfl hu) (Jk qw (hrM hr) rfl (Ja (pv 1) (Ja (J7 (Ja (Yc (Ja (Jo (JB (K:=K) rfl) (Jo Zo (pv 1) Jh) Jh) (Ja Jh Jc))) Jc)) Jc))) Jh (Jv _)))))))))))),by walk_at "s"⟩
end
theorem vl1{α:Type}{us:List α}(h:us.length=1):∃a,us=[a]:=match us,h with|[a],_=>⟨a,rfl⟩
theorem vl2{α:Type}{us:List α}(h:us.length=2):∃a b,us=[a,b]:=match us,h with|[a,b],_=>⟨a,b,rfl⟩
theorem vl3{α:Type}{us:List α}(h:us.length=3):∃a b c,us=[a,b,c]:=match us,h with|[a,b,c],_=>⟨a,b,c,rfl⟩
local macro_rules | `(tactic| walk_at "b")=>`(tactic| (intro _ _ _ _ _ _ us hl;first | (obtain⟨_,e⟩:=vl1 hl;subst e;rfl) | (obtain⟨_,_,e⟩:=vl2 hl;subst e;rfl) | (obtain⟨_,_,_,e⟩:=vl3 hl;subst e;rfl)))
structure FG (K:Qo) (x:Str) (st:Gs) (f:Qd) (d:Qt):Prop where
 a:nsIn K mainGlobals x=some (some (.ref f))
 F:Fun K x x st f d
structure FM (K:Qo) (c:Qd) (x q:Str) (st:Gs) (f:Qd) (d:Qt):Prop where
 a:findIn K (.ref c) x=some (some (.ref f))
 i:isFn K (.ref f)=true
 F:Fun K x q st f d
structure ZB (P:Qm) (w:Qp) (K:Qo) (mg:Str->Option Qc) (base:QC):Prop where
 z:∃h:QC,K.In h/\h.Ns mainGlobals mg
noncomputable def NN(K:Qo):List Str->Prop
 | []=>True
 | x::l=>nsIn K mainGlobals x=some none/\NN K l
noncomputable def MN(mg:Str->Option Qc):List Str->Prop
 | []=>True
 | x::l=>mg x=none/\MN mg l
theorem JpP{K:Qo}{x:Str}{l:List Str}(a:nsIn K mainGlobals x=some none)(b:NN K l):NN K (x::l):=⟨a,b⟩
theorem JlL{K:Qo}{h:QC}{mg:Str->Option Qc}(X:K.In h)(G:h.Ns mainGlobals mg):∀{l:List Str},NN K l->MN mg l
 | [],_=>trivial
 | _::_,z=>⟨PySem.W.mg_none_of X G z.1,JlL X G z.2⟩
section
variable{P:Qm}{w:Qp}{K:Qo}{mg:Str->Option Qc}{base:QC}{x q:Str}{st:Gs}{c f:Qd}{d:Qt}{k:Nat}{ps:List Str}{sp:Sp}{v:Qc}
theorem ZB.g(Z:ZB P w K mg base)(e:nsIn K mainGlobals x=some (some v)):mg x=some v:=by obtain⟨_,X,G⟩:=Z.z;exact mg_of X G e
noncomputable abbrev BB(x q:Str)(st:Gs)(ps:List Str):Prop:=∀(kV doc pm:Qc) (an:Option Qd) (cdv ct:Qc) (us:List Qc),us.length=ps.length->bindArgs (fnOf x q (UV st) (YM st) (Ji st) .none kV doc pm an cdv ct) ⟨us,[]⟩=pure (ps.zip us)
theorem Yg(Z:ZB P w K mg base)(A:FG K x st f d)(o:FnOk P w K mg base CX0 k f d ps sp)(h:BB x x st ps:=by walk_at "b"):Cal P w K mg base x k ps sp:=⟨f,d,o,Z.g A.a,A.F.kp,A.F.binds h⟩
theorem Jen(Z:ZB P w K mg base)(A:FG K x st f d)(o:FnOk P w K mg base (CX1 P w) k f d ps sp)(h:BB x x st ps:=by walk_at "b"):CalX P w K mg base x k ps sp:=⟨f,d,o,Z.g A.a,A.F.kp,A.F.binds h⟩
end
theorem all_mk{l:PySem.W.OpenLaw}{w:Qp}{K:Qo}{h:QC}{mg:Str->Option Qc}{fa:Qd}{C:Qd}{f42:Qd}{od42 an42:Option Qd}{sl42:Array (Option Qc)}{oc42 kV42 dc42 pm42 cd42 ct42:Qc}{f1 f2 f3 f4 f5 f6 f7 f8 f9 f10 f11 f12 f13 f14 f15 f16 f17 f18 f19 f20 f21 f22 f23 f24 f25 f26 f27 f28 f29 f30 f31 f32 f33 f34 f35 f36 f37 f38 f39 f40 f41:Qd}{d1 d2 d3 d4 d5 d6 d7 d8 d9 d10 d11 d12 d13 d14 d15 d16 d17 d18 d19 d20 d21 d22 d23 d24 d25 d26 d27 d28 d29 d30 d31 d32 d33 d34 d35 d36 d37 d38 d39 d40 d41:Qt}{qe:Qd}{qa:Qd}{qb:Qd}{qg:Qd}{qA:Qd}{qu:Qd}{qk:Qd}{qv:Qd}{qB:Qd}{vg:Tok}{vG:Tok}{vK:Tok}{vC:Tok}(X:K.In h)(G:h.Ns mainGlobals mg)(hfa:mg "law"=some (.ref fa))
 (aC:nsIn K mainGlobals "Row"=some (some (.ref C)))
 (A1:FG K "check_stretches" YC f1 d1)
 (A2:FM K C "__init__" "Row.__init__" VY f2 d2)
 (A3:FG K "gathered" V0 f3 d3)
 (A4:FG K "row_of_balls" Uk f4 d4)
 (A5:FG K "_law_ferry" Vv f5 d5)
 (A6:FG K "_law_held" V3 f6 d6)
 (A7:FG K "_law_alone" Vu f7 d7)
 (A8:FG K "share_of" V6 f8 d8)
 (A9:FG K "check_few" Vq f9 d9)
 (A10:FG K "check_lumps" Ux f10 d10)
 (A11:FG K "check_seats" Uy f11 d11)
 (A12:FG K "told_taking" UC f12 d12)
 (A13:FG K "rooms" JbV f13 d13)
 (A14:FG K "choices" WV f14 d14)
 (A15:FG K "spot_lists" U4 f15 d15)
 (A16:FG K "number_of_spots" YD f16 d16)
 (A17:FG K "closed_up" Vr f17 d17)
 (A18:FG K "by_layers" Vp f18 d18)
 (A19:FG K "gaps_of" WW f19 d19)
 (A20:FG K "closes_at" Vs f20 d20)
 (A21:FG K "thinned" WY f21 d21)
 (A22:FG K "ball_at" WU f22 d22)
 (A23:FG K "owed_at" WX f23 d23)
 (A24:FG K "struck" Jaj f24 d24)
 (A25:FG K "table_of" V7 f25 d25)
 (A26:FG K "lumps_apart" UB f26 d26)
 (A27:FG K "lumps_of" V4 f27 d27)
 (A28:FG K "number_of" Vw f28 d28)
 (A29:FG K "_law_refused" UA f29 d29)
 (A30:FG K "thickened" Vx f30 d30)
 (A31:FG K "balls_below" Uw f31 d31)
 (A32:FG K "ended_at" VZ f32 d32)
 (A33:FG K "put_in" Jah f33 d33)
 (A34:FG K "check_table" Uz f34 d34)
 (A35:FG K "row_of" Jai f35 d35)
 (A36:FG K "least_room" U3 f36 d36)
 (A37:FG K "spots_numbered" YL f37 d37)
 (A38:FG K "how_many" V1 f38 d38)
 (A39:FG K "numbered" V5 f39 d39)
 (A40:FG K "in_all" Jag f40 d40)
 (A41:FG K "_law_cell" V2 f41 d41)
 (a42:nsIn K mainGlobals "law"=some (some (.ref f42)))
 (l42:K.lookup f42=some ⟨oc42,od42,.func (fnOf "law" "law" (UV Ww) (YM Ww) (Ji Ww) .none kV42 dc42 pm42 an42 cd42 ct42),sl42⟩)
 (c42:codeIn K cd42 "law"=true)
 (k42:keepIn K (.ref f42)=true)
 (pg:plainGet K C Str.empty=true)
 (hd:hasDictIn K C=true)
 (po:plainOver K C=true)
 (sa:findIn K (.ref C) "__setattr__"=some (some (.builtin "object.__setattr__")))
 (mk:makesIn K C=true)
 (kc:keepIn K (.ref C)=true)
 (nS:findIn K (.ref C) "stretches"=some none)
 (ke:nsIn K mainGlobals "NoRow"=some (some (.ref qe)))
 (vD:nsIn K mainGlobals "BadTable"=some (some (.ref qa)))
 (vJ:nsIn K mainGlobals "TooMany"=some (some (.ref qb)))
 (vQ:nsIn K mainGlobals "LumpError"=some (some (.ref qg)))
 (kr:nsIn K mainGlobals "Unlike"=some (some (.ref qA)))
 (kf:nsIn K mainGlobals "BadDeed"=some (some (.ref qu)))
 (v3:nsIn K mainGlobals "BadSeats"=some (some (.ref qk)))
 (kg:nsIn K mainGlobals "BadText"=some (some (.ref qv)))
 (kt:nsIn K mainGlobals "BadRow"=some (some (.ref qB)))
 (vR:excIn K qa VEm "ValueError.__new__"=true)
 (vL:findIn K (.ref qa) "__getattribute__"=some (some (.builtin "BaseException.__getattribute__")))
 (vM:findIn K (.ref qa) "__getattr__"=some none)
 (vN:mroIn K qa (.type "BaseException")=some true)
 (vS:hasDictIn K qa=true)
 (vT:findIn K (.ref qa) "__class__"=some (some (.builtin "object.__class__")))
 (vU:mroIn K qa (.type "object")=some true)
 (ku:excIn K qe VEm "ValueError.__new__"=true)
 (kh:findIn K (.ref qe) "__getattribute__"=some (some (.builtin "BaseException.__getattribute__")))
 (ki:findIn K (.ref qe) "__getattr__"=some none)
 (kj:mroIn K qe (.type "BaseException")=some true)
 (kx:hasDictIn K qe=true)
 (ky:findIn K (.ref qe) "__class__"=some (some (.builtin "object.__class__")))
 (kA:mroIn K qe (.type "object")=some true)
 (v4:excIn K qb VEm "ValueError.__new__"=true)
 (vV:findIn K (.ref qb) "__getattribute__"=some (some (.builtin "BaseException.__getattribute__")))
 (vW:findIn K (.ref qb) "__getattr__"=some none)
 (vX:mroIn K qb (.type "BaseException")=some true)
 (v6:hasDictIn K qb=true)
 (v7:findIn K (.ref qb) "__class__"=some (some (.builtin "object.__class__")))
 (v8:mroIn K qb (.type "object")=some true)
 (xg1:specialIn K (.builtin "object.__class__") "__get__"=some (some (.builtin "getset_descriptor.__get__")))
 (xg2:takesIn K (.builtin "object.__class__")=some true)
 (vY:kitOne K (.ref qa) (.type "ValueError")=some true)
 (kB:kitOne K (.ref qe) (.type "ValueError")=some true)
 (v9:kitOne K (.ref qb) (.type "ValueError")=some true)
 (wl:kitOne K (.ref qa) (.ref qg)=some true)
 (wP:kitOne K (.ref qe) (.ref qg)=some true)
 (ww:kitOne K (.ref qb) (.ref qg)=some true)
 (vO:kitOne K (.type "NoneType") (.ref qg)=some false)
 (wX:kitOne K (.ref qa) (.ref qe)=some false)
 (vE:kitOne K (.ref qe) (.ref qe)=some true)
 (vh:kitOne K (.ref qb) (.ref qe)=some false)
 (kC:kitOne K (.type "NoneType") (.ref qe)=some false)
 (wQ:kitOne K (.ref qa) (.ref qA)=some false)
 (vn:kitOne K (.ref qe) (.ref qA)=some false)
 (wY:kitOne K (.ref qb) (.ref qA)=some false)
 (kl:kitOne K (.type "NoneType") (.ref qA)=some false)
 (wC:kitOne K (.ref qa) (.ref qu)=some false)
 (vi:kitOne K (.ref qe) (.ref qu)=some false)
 (wR:kitOne K (.ref qb) (.ref qu)=some false)
 (ka:kitOne K (.type "NoneType") (.ref qu)=some false)
 (wx:kitOne K (.ref qa) (.ref qa)=some true)
 (wZ:kitOne K (.ref qe) (.ref qa)=some false)
 (wD:kitOne K (.ref qb) (.ref qa)=some false)
 (vZ:kitOne K (.type "NoneType") (.ref qa)=some false)
 (wy:kitOne K (.ref qa) (.ref qk)=some false)
 (w4:kitOne K (.ref qe) (.ref qk)=some false)
 (wE:kitOne K (.ref qb) (.ref qk)=some false)
 (v1:kitOne K (.type "NoneType") (.ref qk)=some false)
 (wF:kitOne K (.ref qa) (.ref qv)=some false)
 (vj:kitOne K (.ref qe) (.ref qv)=some false)
 (wS:kitOne K (.ref qb) (.ref qv)=some false)
 (kb:kitOne K (.type "NoneType") (.ref qv)=some false)
 (wG:kitOne K (.ref qa) (.ref qb)=some false)
 (vk:kitOne K (.ref qe) (.ref qb)=some false)
 (wT:kitOne K (.ref qb) (.ref qb)=some true)
 (kd:kitOne K (.type "NoneType") (.ref qb)=some false)
 (wU:kitOne K (.ref qa) (.ref qB)=some false)
 (vo:kitOne K (.ref qe) (.ref qB)=some false)
 (w5:kitOne K (.ref qb) (.ref qB)=some false)
 (km:kitOne K (.type "NoneType") (.ref qB)=some false)
 (wm:exmOne K (.ref qa) (.ref qg)=some true)
 (wV:exmOne K (.ref qe) (.ref qg)=some true)
 (wz:exmOne K (.ref qb) (.ref qg)=some true)
 (zs:NN K ["tuple","len","sum","sorted","set","range","min","isinstance","ValueError","enumerate","zip","any","list","max","reversed","bool"])
 (vm:nsIn K mainGlobals "MOST_STRETCHES"=some (some (.int 30 vg)))
 (vH:nsIn K mainGlobals "MOST_PLACES"=some (some (.int 400 vG)))
 (vP:nsIn K mainGlobals "MOST_LUMPS"=some (some (.int 30 vK)))
 (vF:nsIn K mainGlobals "MOST_COUNTED"=some (some (.int 12 vC)))
 (hNo:nsIn K mainGlobals "early_lines"=some none)
:∃fd:Qt,(∀(s:Qe) (v:Qc),BindsTo s fd ⟨[v],[]⟩ [("script",v)])/\∀base:QC,K.In base->base.Ns mainGlobals mg->FnOk l.prog w K mg base CX0 10 fa fd ["script"] (Je1 K):=by
 have e:=hfa.symm.trans (mg_of X G a42);cases e
 have T:RowC K C:=⟨⟨pg,hd,po,sa⟩,nS⟩
 have kD:=mg_of X G aC
 have qE:=mg_of X G vQ
 have qS:=mg_of X G ke
 have vt:=mg_of X G kr
 have vc:=mg_of X G kf
 have qC:=mg_of X G vD
 have wK:=mg_of X G v3
 have vd:=mg_of X G kg
 have qT:=mg_of X G vJ
 have vx:=mg_of X G kt
 have qD:AtX K "BadTable" qa:=⟨⟨vD,vL,vM,vN,vS,vT,vU⟩,vR⟩
 have wW:AtX K "NoRow" qe:=⟨⟨ke,kh,ki,kj,kx,ky,kA⟩,ku⟩
 have wc:AtX K "TooMany" qb:=⟨⟨vJ,vV,vW,vX,v6,v7,v8⟩,v4⟩
 have xG:ExcG K:=⟨xg1,xg2⟩
 have xO:OwnL K ["BadTable","NoRow","TooMany"] [qa,qe,qb]:=Z1 qD.toAtY (Z1 wW.toAtY (Z1 wc.toAtY (Jkf)))
 have iV:IsiV K ["BadTable","NoRow","TooMany"]:=JjL xO xG (ZO vY (ZO kB (ZO v9 (JjQ))))
 have wn:IsiN K ["BadTable","NoRow","TooMany"] "LumpError" qg:=Y6 xO xG (Jx wl (by decide +kernel) (Jx wP (by decide +kernel) (Jx ww (by decide +kernel) (Y7)))) vO
 have wA:IsiN K ["BadTable","NoRow","TooMany"] "NoRow" qe:=Y6 xO xG (Jx wX (by decide +kernel) (Jx vE (by decide +kernel) (Jx vh (by decide +kernel) (Y7)))) kC
 have vq:IsiN K ["BadTable","NoRow","TooMany"] "Unlike" qA:=Y6 xO xG (Jx wQ (by decide +kernel) (Jx vn (by decide +kernel) (Jx wY (by decide +kernel) (Y7)))) kl
 have w6:IsiN K ["BadTable","NoRow","TooMany"] "BadDeed" qu:=Y6 xO xG (Jx wC (by decide +kernel) (Jx vi (by decide +kernel) (Jx wR (by decide +kernel) (Y7)))) ka
 have wI:IsiN K ["BadTable","NoRow","TooMany"] "BadTable" qa:=Y6 xO xG (Jx wx (by decide +kernel) (Jx wZ (by decide +kernel) (Jx wD (by decide +kernel) (Y7)))) vZ
 have wH:IsiN K ["BadTable","NoRow","TooMany"] "BadSeats" qk:=Y6 xO xG (Jx wy (by decide +kernel) (Jx w4 (by decide +kernel) (Jx wE (by decide +kernel) (Y7)))) v1
 have w9:IsiN K ["BadTable","NoRow","TooMany"] "BadText" qv:=Y6 xO xG (Jx wF (by decide +kernel) (Jx vj (by decide +kernel) (Jx wS (by decide +kernel) (Y7)))) kb
 have va:IsiN K ["BadTable","NoRow","TooMany"] "TooMany" qb:=Y6 xO xG (Jx wG (by decide +kernel) (Jx vk (by decide +kernel) (Jx wT (by decide +kernel) (Y7)))) kd
 have vp:IsiN K ["BadTable","NoRow","TooMany"] "BadRow" qB:=Y6 xO xG (Jx wU (by decide +kernel) (Jx vo (by decide +kernel) (Jx w5 (by decide +kernel) (Y7)))) km
 have wq:ExmL K qg [qa,qe,qb]:=ZE wm (ZE wV (ZE wz (Jjh)));obtain⟨wd,qo,qi,qt,vI,qr,qR,qf,wf,qh,wk,ko,qP,kq,wN,v2,_⟩:=JlL X G zs
 have qj:GV mg "MOST_STRETCHES" (.int 30):=⟨_,mg_of X G vm,⟨_,rfl⟩⟩
 have qX:GV mg "MOST_PLACES" (.int 400):=⟨_,mg_of X G vH,⟨_,rfl⟩⟩
 have qx:GV mg "MOST_LUMPS" (.int 30):=⟨_,mg_of X G vP,⟨_,rfl⟩⟩
 have qU:GV mg "MOST_COUNTED" (.int 12):=⟨_,mg_of X G vF,⟨_,rfl⟩⟩
 have F42:=JdA (st:=Ww) l42 c42 k42;refine⟨fnOf "law" "law" (UV Ww) (YM Ww) (Ji Ww) .none kV42 dc42 pm42 an42 cd42 ct42,fun s v=>.of_eq rfl,fun base _ _=>?_⟩
 have Z:ZB l.prog w K mg base:=⟨_,X,G⟩
 have qH:=Yg Z A1 (VU A1.F )
 have qQ:CalM l.prog w K mg base "Row" C 2 ["self","stretches"] (U6 C K):=⟨f2,_,⟨mk,A2.a,A2.i,kc⟩,JcI A2.F wd qo qj qH T,kD,A2.F.binds (by walk_at "b")⟩
 have wJ:=Yg Z A3 (JcK (C:=C) A3.F qi)
 have qV:=Yg Z A4 (Ze (C:=C) A4.F qt vI qo qX qQ wJ)
 have we:=Yg Z A5 (JbG (C:=C) A5.F qr qo qR)
 have wu:=Yg Z A6 (JcN (C:=C) A6.F we)
 have wg:=Yg Z A7 (JbF (C:=C) A7.F qf wf xG xO iV qE wn qS wA vt vq vc w6 qC wI wK wH vd w9 qT va vx vp)
 have wL:=Yg Z A8 (JcQ (C:=C) A8.F qR)
 have qy:=Jen Z A9 (JbC (C:=C) A9.F qi qT wc)
 have qq:=Jen Z A10 (ZU (C:=C) A10.F qC qD)
 have qY:=Yg Z A11 (ZV (C:=C) A11.F )
 have qZ:=Yg Z A12 (ZZ (C:=C) A12.F qi qx wL qy qq qY)
 have qI:=Jen Z A13 (JhE (C:=C) A13.F qU qZ qy qq)
 have qK:=Yg Z A14 (JdQ (C:=C) A14.F qr)
 have qd:=Yg Z A15 (JaD (C:=C) A15.F qK)
 have qJ:=Yg Z A16 (VV (C:=C) A16.F qo qi qh qd)
 have wp:=Yg Z A17 (JbD (C:=C) A17.F qi)
 have qF:=Yg Z A18 (JbB (C:=C) A18.F qh T)
 have ve:=Yg Z A19 (JdR (C:=C) A19.F qi wk T)
 have qG:=Yg Z A20 (JbE (C:=C) A20.F qR ve T)
 have qL:=Yg Z A21 (JdT (C:=C) A21.F qR qQ wp qF qG T)
 have wB:=Yg Z A22 (JdP (C:=C) A22.F ko T)
 have vf:=Yg Z A23 (JdS (C:=C) A23.F wB)
 have vy:=Yg Z A24 (Jf5 (C:=C) A24.F qh qi vf qL T)
 have qM:=Yg Z A25 (JcR (C:=C) A25.F qL vy qG T)
 have q9:=Yg Z A26 (ZY (C:=C) A26.F qM)
 have qN:=Yg Z A27 (JcO (C:=C) A27.F qP qM)
 have qz:=Jen Z A28 (JbH (C:=C) A28.F qo qI qd qJ q9 qN qS wW)
 have qW:=Yg Z A29 (ZX (C:=C) A29.F qf wg qz qS xG xO wA qE wq)
 have wt:=Yg Z A30 (JbI (C:=C) A30.F qQ qF)
 have wa:=Yg Z A31 (ZT (C:=C) A31.F qi kq qR T)
 have wM:=Yg Z A32 (JcJ (C:=C) A32.F qh wa)
 have vz:=Yg Z A33 (Jf3 (C:=C) A33.F qt qo qi qj qQ wM T)
 have wb:=Yg Z A34 (ZW (C:=C) A34.F qi qx)
 have vA:=Yg Z A35 (Jf4 (C:=C) A35.F wN qP wk wt vz qQ wb)
 have wj:=Yg Z A36 (JaC (C:=C) A36.F qd)
 have qO:=Yg Z A37 (Wo (C:=C) A37.F qr qd wj)
 have qw:=Yg Z A38 (JcL (C:=C) A38.F wk qI qd)
 have wO:=Yg Z A39 (JcP (C:=C) A39.F wk qt vI vA qI qO qd qw)
 have vB:=Yg Z A40 (Jf2 (C:=C) A40.F qK)
 have wv:=Yg Z A41 (JcM (C:=C) A41.F qo);exact JjR (Jnm (C:=C) F42 qr qP qf v2 qo wd qi qt qV wu qW qN qz wO vB qw wv T) (JiJ hNo) law_true
theorem walk{l:PySem.W.OpenLaw}{q:Qm}{loose:List Str}{XP:(Str->Option Qc)->QC->Prop}{YP:Qp->QC->Prop}{d:DefRec}{K:Params->Qo}(hn:l.most=some 63)(hdf:d.params.defaults=[])
 (hY:∀(w:Qp) (h:QC),YP w h->(K w.params).In h)
 (F:∀(w:Qp) (mg:Str->Option Qc) (fa:Qd) (h:QC),(K w.params).In h->h.Ns mainGlobals mg->mg d.name=some (.ref fa) ->
  ∃fd:Qt,(∀(s:Qe) (u:Qc),BindsTo s fd ⟨[u],[]⟩ [("script",u)])/\∀base:QC,(K w.params).In base->base.Ns mainGlobals mg->FnOk l.prog w (K w.params) mg base CX0 10 fa fd ["script"] (Je1 (K w.params))) :
 PySem.W.WalkO q loose XP YP l.row.toRowW d [] (fun f vs=>PySem.call f vs) :=
 L2.Jll (n:=63) (k:=10) (x:="script") (CX:=fun _=>CX0) (sp:=fun w=>Je1 (K w.params)) hn (by decide) hdf ⟨rfl,by decide,by decide⟩ hY F (fun _ _ a ns hl _ hS=>⟨a,ns,rfl,hS,hl,fun _=>rfl⟩) fun _ _ _ _ _ z=>z
end LK
end
namespace PySem.W.Fast
theorem tw7310156070090766032:True:=⟨⟩
theorem tw10215714949287633533:True:=⟨⟩
theorem tw7793026878595024576:True:=⟨⟩
theorem tw3375067377005101878:True:=⟨⟩
theorem tw9056213951501908440:True:=⟨⟩
theorem tw6122733139930540244:True:=⟨⟩
theorem tw10040391832905735895:True:=⟨⟩
theorem tw12990363119273959663:True:=⟨⟩
theorem tw1605413667773345625:True:=⟨⟩
theorem tw11198630712107301425:True:=⟨⟩
theorem tw17677542690639776593:True:=⟨⟩
theorem tw13476951867025142897:True:=⟨⟩
theorem tw14100363998498164456:True:=⟨⟩
theorem tw2230197799816025247:True:=⟨⟩
theorem tw6506906038134248413:True:=⟨⟩
theorem tw5316479803197202795:True:=⟨⟩
theorem tw11949202759010835856:True:=⟨⟩
theorem tw7703891672402934888:True:=⟨⟩
theorem tw5710147434491846396:True:=⟨⟩
theorem tw451278110749536680:True:=⟨⟩
theorem tw13331197090950887309:True:=⟨⟩
theorem tw1428081895110369672:True:=⟨⟩
theorem tw14699989424423417636:True:=⟨⟩
theorem tw6509335991002984604:True:=⟨⟩
theorem tw14892296997268078608:True:=⟨⟩
theorem tw17988520074298133352:True:=⟨⟩
theorem tw816366823228082316:True:=⟨⟩
theorem tw2138294265326993307:True:=⟨⟩
theorem tw5771760358971644686:True:=⟨⟩
theorem tw1853612005860542999:True:=⟨⟩
theorem tw7250398639152392734:True:=⟨⟩
theorem tw1506856354992557750:True:=⟨⟩
theorem tw2152194620960059999:True:=⟨⟩
theorem tw11986704370091186564:True:=⟨⟩
theorem tw11286290304823206285:True:=⟨⟩
theorem tw1197144422537211802:True:=⟨⟩
theorem tw10185270828539177381:True:=⟨⟩
theorem tw5720281418904868092:True:=⟨⟩
theorem tw11676175306417369310:True:=⟨⟩
theorem tw16462520741436994096:True:=⟨⟩
theorem tw13647767542191985878:True:=⟨⟩
theorem tw11878777259224324211:True:=⟨⟩
theorem tw13646021517097767494:True:=⟨⟩
theorem tw11767980441478237484:True:=⟨⟩
theorem tw7068171281399707944:True:=⟨⟩
theorem tw3955957870104181021:True:=⟨⟩
theorem tw17474424863441346158:True:=⟨⟩
theorem tw3914249870985041458:True:=⟨⟩
theorem tw1611212284684323575:True:=⟨⟩
theorem tw11887259214568294472:True:=⟨⟩
theorem tw10629803809820890735:True:=⟨⟩
theorem tw818707763371184801:True:=⟨⟩
theorem tw15379891262192537695:True:=⟨⟩
theorem tw16391680906763536356:True:=⟨⟩
theorem tw8008335033118593184:True:=⟨⟩
theorem tw1562222975198334785:True:=⟨⟩
theorem tw1579665363302224900:True:=⟨⟩
theorem tw4182103071250987406:True:=⟨⟩
theorem tw15407813024627523132:True:=⟨⟩
theorem tw161715784814744693:True:=⟨⟩
theorem tw12038142565947143895:True:=⟨⟩
theorem tw11356043297909166359:True:=⟨⟩
theorem tw14567418173375616458:True:=⟨⟩
theorem tw16872276399666153176:True:=⟨⟩
theorem tw7200939772401581846:True:=⟨⟩
theorem tw2809655727722646524:True:=⟨⟩
theorem tw1455293868433301191:True:=⟨⟩
theorem tw2884191619096733089:True:=⟨⟩
theorem tw17864841104344518702:True:=⟨⟩
theorem tw5524902179490906671:True:=⟨⟩
theorem tw10259740209400872346:True:=⟨⟩
theorem tw6413557423074382736:True:=⟨⟩
theorem tw16325141522165873398:True:=⟨⟩
theorem tw11340305816068692905:True:=⟨⟩
theorem tw18219856351478451784:True:=⟨⟩
theorem tw10046970392003302787:True:=⟨⟩
theorem tw16232452165424870031:True:=⟨⟩
theorem tw16211457316127414345:True:=⟨⟩
theorem tw1220120282016465509:True:=⟨⟩
theorem tw4762826347432611264:True:=⟨⟩
theorem tw6863581292627377649:True:=⟨⟩
theorem tw17207214149185574619:True:=⟨⟩
theorem tw2592253149954009335:True:=⟨⟩
theorem tw7715635821415632501:True:=⟨⟩
theorem tw10294781958432309485:True:=⟨⟩
theorem tw9582138690147028833:True:=⟨⟩
theorem tw3791997739235697778:True:=⟨⟩
theorem tw17649612427812663573:True:=⟨⟩
theorem tw110543369036534412:True:=⟨⟩
theorem tw11870011589276256264:True:=⟨⟩
theorem tw14310962191595441073:True:=⟨⟩
theorem tw11979894135567815798:True:=⟨⟩
theorem tw3821217187790648329:True:=⟨⟩
theorem tw4189910874256926721:True:=⟨⟩
theorem tw1054937150433829370:True:=⟨⟩
theorem tw17623068384544694196:True:=⟨⟩
theorem tw11394720445070586019:True:=⟨⟩
theorem tw14113704369799185398:True:=⟨⟩
theorem tw13731088592611896280:True:=⟨⟩
theorem tw18006301614067898884:True:=⟨⟩
theorem tw4904156544375471009:True:=⟨⟩
theorem tw17944724754907708024:True:=⟨⟩
theorem tw7482331360718623238:True:=⟨⟩
theorem tw18151614692671714617:True:=⟨⟩
theorem tw7961723057866700504:True:=⟨⟩
theorem tw988661409067877017:True:=⟨⟩
theorem tw6710629730446960164:True:=⟨⟩
theorem tw9610757642589190591:True:=⟨⟩
theorem tw7215162897452849038:True:=⟨⟩
theorem tw11451601259432856821:True:=⟨⟩
theorem tw13874566087147744264:True:=⟨⟩
theorem tw12481589648113532610:True:=⟨⟩
theorem tw14985685061213255111:True:=⟨⟩
theorem tw12852989856002699265:True:=⟨⟩
theorem tw14701757530061009234:True:=⟨⟩
theorem tw5331255531912814769:True:=⟨⟩
theorem tw15049153296765752305:True:=⟨⟩
theorem tw16111298207665286922:True:=⟨⟩
theorem tw16995394882974219231:True:=⟨⟩
theorem tw8941781422968293798:True:=⟨⟩
theorem tw165321065831808290:True:=⟨⟩
theorem tw1610226083866252609:True:=⟨⟩
theorem tw3676745969025543688:True:=⟨⟩
theorem tw5413420173686320173:True:=⟨⟩
theorem tw17442874883417585112:True:=⟨⟩
theorem tw8045041040901190068:True:=⟨⟩
theorem tw6420634776901587228:True:=⟨⟩
theorem tw17005554204354368707:True:=⟨⟩
theorem tw8225119696222941047:True:=⟨⟩
theorem tw6855118541229407057:True:=⟨⟩
theorem tw17932155977432981120:True:=⟨⟩
theorem tw2609085206370934293:True:=⟨⟩
theorem tw11270502460133093457:True:=⟨⟩
theorem tw1796516016494065464:True:=⟨⟩
theorem tw3119772311589072712:True:=⟨⟩
theorem tw14376769037901366270:True:=⟨⟩
theorem tw897927756999770504:True:=⟨⟩
theorem tw7522608095733020762:True:=⟨⟩
theorem tw12111180456496818958:True:=⟨⟩
theorem tw11382980365682710996:True:=⟨⟩
theorem tw7910487654622147171:True:=⟨⟩
theorem tw9259556288147787977:True:=⟨⟩
theorem tw16628238156065518203:True:=⟨⟩
theorem tw6823205309675525657:True:=⟨⟩
theorem tw2523244628258819584:True:=⟨⟩
theorem tw9393835597601659100:True:=⟨⟩
theorem tw535890305196742357:True:=⟨⟩
theorem tw3195581419984989725:True:=⟨⟩
theorem tw7197754164978815145:True:=⟨⟩
theorem tw15542998369377432950:True:=⟨⟩
theorem tw15799222257449604847:True:=⟨⟩
theorem tw2358967635855887225:True:=⟨⟩
theorem tw7517614413308496979:True:=⟨⟩
theorem tw11927680081451557269:True:=⟨⟩
theorem tw15427497295940741396:True:=⟨⟩
theorem tw16701869605598070692:True:=⟨⟩
theorem tw627361853639243074:True:=⟨⟩
theorem tw5849737450554889567:True:=⟨⟩
theorem tw13137681781431667409:True:=⟨⟩
theorem tw15017111395880100408:True:=⟨⟩
theorem tw1417358618700828521:True:=⟨⟩
theorem tw1235279979183615023:True:=⟨⟩
theorem tw9817807523170352524:True:=⟨⟩
theorem tw1627317292515598886:True:=⟨⟩
theorem tw16114596643636188055:True:=⟨⟩
theorem tw2957749208556210141:True:=⟨⟩
theorem tw18028999377325534594:True:=⟨⟩
theorem tw5209631735659314358:True:=⟨⟩
theorem tw2625495745909620587:True:=⟨⟩
theorem tw10041447468532708970:True:=⟨⟩
theorem tw3333552021369173372:True:=⟨⟩
theorem tw15157860624789491130:True:=⟨⟩
theorem tw4798003006596864105:True:=⟨⟩
theorem tw15435886370114175670:True:=⟨⟩
theorem tw15761075535311435324:True:=⟨⟩
theorem tw17986701459944261024:True:=⟨⟩
theorem tw14441232310850313905:True:=⟨⟩
theorem tw9952136148480625296:True:=⟨⟩
theorem tw121116040052704133:True:=⟨⟩
theorem tw13272004376665388123:True:=⟨⟩
theorem tw8959461824005877379:True:=⟨⟩
theorem tw8073495204460963257:True:=⟨⟩
theorem tw18075939786149540021:True:=⟨⟩
theorem tw17340652570353431299:True:=⟨⟩
theorem tw6620426125355630323:True:=⟨⟩
theorem tw372867682062164247:True:=⟨⟩
theorem tw13657433403026392682:True:=⟨⟩
theorem tw2899514017752939051:True:=⟨⟩
theorem tw3635804805821212119:True:=⟨⟩
theorem tw6678157644415302601:True:=⟨⟩
theorem tw17420199955752115778:True:=⟨⟩
theorem tw14685851164707594088:True:=⟨⟩
theorem tw5258173572638842636:True:=⟨⟩
theorem tw6871733524803665896:True:=⟨⟩
theorem tw14985519623835229673:True:=⟨⟩
theorem tw11918390421663297108:True:=⟨⟩
theorem tw3662774603176026941:True:=⟨⟩
theorem tw11969672577800083281:True:=⟨⟩
theorem tw1214462565349671272:True:=⟨⟩
theorem tw16248490226221383630:True:=⟨⟩
theorem tw15886844620351164119:True:=⟨⟩
theorem tw10568793837392668939:True:=⟨⟩
theorem tw13373807230074275489:True:=⟨⟩
theorem tw7291168803858140214:True:=⟨⟩
theorem tw14042579089290343532:True:=⟨⟩
theorem tw1089310832784972400:True:=⟨⟩
theorem tw7734996032574203919:True:=⟨⟩
theorem tw8278806951224767818:True:=⟨⟩
theorem tw1402055710272101929:True:=⟨⟩
theorem tw3931566503460592149:True:=⟨⟩
theorem tw16396061785511151126:True:=⟨⟩
theorem tw9182647866725864995:True:=⟨⟩
theorem tw2299762619492948795:True:=⟨⟩
theorem tw16823967196861225722:True:=⟨⟩
theorem tw17517034632473268927:True:=⟨⟩
theorem tw7582715908898788390:True:=⟨⟩
theorem tw6112570159640042891:True:=⟨⟩
theorem tw15283861064654544333:True:=⟨⟩
theorem tw2399182751039719929:True:=⟨⟩
theorem tw6379825354119189738:True:=⟨⟩
theorem tw9616769840425519037:True:=⟨⟩
theorem tw8801559999575425498:True:=⟨⟩
theorem tw2125470006521725584:True:=⟨⟩
theorem tw2237747459453695583:True:=⟨⟩
theorem tw4252988408219957577:True:=⟨⟩
theorem tw11292539377941009882:True:=⟨⟩
theorem tw18212871314885865802:True:=⟨⟩
theorem tw14205281955609730656:True:=⟨⟩
theorem tw2042670682747406527:True:=⟨⟩
theorem tw14929148506922646448:True:=⟨⟩
theorem tw9356452606856989772:True:=⟨⟩
theorem tw6930411179705630139:True:=⟨⟩
theorem tw16797736748438646363:True:=⟨⟩
theorem tw6169518917779405254:True:=⟨⟩
theorem tw2385775862820348701:True:=⟨⟩
theorem tw1732760512964711598:True:=⟨⟩
theorem tw7695385984704133325:True:=⟨⟩
theorem tw14080179955214781413:True:=⟨⟩
theorem tw2498860551284316926:True:=⟨⟩
theorem tw9062172660638948637:True:=⟨⟩
theorem tw12077953674607889069:True:=⟨⟩
theorem tw9311527178440844751:True:=⟨⟩
theorem tw7553042042212640815:True:=⟨⟩
theorem tw12448992206800643318:True:=⟨⟩
theorem tw16787582930563177981:True:=⟨⟩
theorem tw10389148464027837710:True:=⟨⟩
theorem tw14615241482205237968:True:=⟨⟩
theorem tw12716150199075464360:True:=⟨⟩
theorem tw1038983898837128893:True:=⟨⟩
theorem tw615679637218715327:True:=⟨⟩
theorem tw14438778875866567483:True:=⟨⟩
theorem tw4435427645549025659:True:=⟨⟩
theorem tw9831388523145687584:True:=⟨⟩
theorem tw16022223363284473669:True:=⟨⟩
theorem tw8100089903254691047:True:=⟨⟩
theorem tw11936211041640720109:True:=⟨⟩
theorem tw15866147313305701864:True:=⟨⟩
theorem tw5497902051305467741:True:=⟨⟩
theorem tw1218862655806827795:True:=⟨⟩
theorem tw14316252667091773843:True:=⟨⟩
theorem tw1655078836168877389:True:=⟨⟩
theorem tw12677130914767047544:True:=⟨⟩
theorem tw15296832204094095563:True:=⟨⟩
theorem tw15222755715790436455:True:=⟨⟩
theorem tw15817441567828939143:True:=⟨⟩
theorem tw17142830537156412541:True:=⟨⟩
theorem tw9853359074987008612:True:=⟨⟩
theorem tw17004641244269978234:True:=⟨⟩
theorem tw4746934186180308959:True:=⟨⟩
theorem tw14500550084897814299:True:=⟨⟩
theorem tw14630861977821672331:True:=⟨⟩
end PySem.W.Fast
open PySem PySem.W PyProof.Rows
set_option maxRecDepth 100000 in
set_option maxHeartbeats 0 in
theorem PySem.Challenge.cw_lumprow_k56_counts_by_trial_holds : PySem.Challenge.rw_lumprow_k56_counts_by_trial.Holds := by
 w_on; o_law; k_head; (case hw => w_witness2)
 k_fill
 refine LK.walk (l := PySem.Challenge.rw_lumprow_k56_counts_by_trial) rfl rfl (fun w h Y => PySem.W.kIn_of Y) ?F
 case F =>
  intro w mg fa h KX G hmg; apply LK.all_mk KX G hmg; all_goals first | exact ⟨by k_is, L2.JdA (by k_is) (by k_is) (by k_is)⟩ | exact ⟨by k_is, by k_is, L2.JdA (by k_is) (by k_is) (by k_is)⟩ | k_is | k_exc | kit_is | kts_exm | (refine LK.JpP (by k_is) ?_; repeat' first | exact trivial | refine LK.JpP (by k_is) ?_)
