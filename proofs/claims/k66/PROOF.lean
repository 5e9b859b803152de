import PyProof.Rows.All
import Wide.All
import OpenK.AllK
import Wide.FinOn
import Lean
import PyProof.EqAt
import PyProof.EqKinds
import PyProof.TupleCall
import PySem.Challenge.RW_lumprow_k66_whole_ways_put_together
open Array renaming getD_eq_getD_getElem?→Gq,length_toList→Gs,getElem?_toList→Kf
open Bool renaming false_ne_true→Qt,and_eq_true→QT,false_eq_true→GF,false_or→GX,eq_iff_iff→G5,or_eq_true→Lc,or_assoc→LC,or_false→Mw,and_eq_false_iff→M4,and_false→M8,true_or→Rr
open False renaming elim→G4
open Int renaming le_refl→QD,min_eq_right→Gd,min_eq_left→GH,max_eq_right→GW,min_le_right→KC,mul_le_mul_of_nonneg_left→KF,le_total→KL,natCast_add→KU,toNat_natCast→KY,max_eq_left→Lf,mul_add→Lm,zero_add→Lo,add_zero→Ls,add_mul→LH,le_max_left→LV,emod_nonneg→LW,sub_zero→L4,fdiv_eq_ediv_of_nonneg→L7,emod_lt_of_pos→Mj,add_assoc→MA,le_trans→MT,mul_comm→MV,min_le_left→MX,one_mul→Ra,neg_mul→Rb,max_le→Rk,le_min→Rl
open List renaming mem_cons_of_mem→Qc,mem_cons_self→Qd,map_cons→Qe,mem_cons→Qh,length_map→Qk,getElem?_eq_some_iff→Qn,length_cons→Qo,size_toArray→Qp,getElem?_map→Qq,map_map→Qr,sum_cons→Qu,length_append→Qv,pairwise_cons→Qw,mem_map→Qx,map_congr_left→Qy,map_append→Qz,getElem?_mapIdx→QC,eq_nil_of_length_eq_zero→QE,mem_of_getElem?→QF,replicate→QH,getElem?_eq_getElem→QI,foldl_cons→QL,nodup_cons→QP,getElem?_append_left→QQ,getD_eq_getElem?_getD→QU,mem_singleton→QW,getElem?_set→QX,range→Q0,getElem?_append_right→Q2,not_mem_nil→Q5,mem_append→Q6,flatMap_cons→Q9,mem_nil_iff→Ga,ext_getElem?→Ge,count_cons→Gf,length_singleton→Gg,length_zip→Gh,mem_append_right→Gr,append_assoc→Gu,mem_iff_getElem→Gw,pairwise_iff_getElem→Gx,length_replicate→GA,getElem?_eq_none→GB,replicate_succ→GK,any_cons→GM,nil_append→GP,append_nil→GR,mem_iff_getElem?→GU,toArray→GY,flatten_cons→G1,cons_append→Ka,length_nil→Ki,pairwise_append→Kn,getElem?_zipIdx→Ko,zipIdx_cons→Ky,map_nil→KI,map_id'→KM,of_mem_zip→KN,find?_cons→KP,mem_append_left→K0,length_drop→K2,all_eq_true→K3,any_eq_true→K4,getElem?_zip_eq_some→K6,drop_eq_getElem_cons→K7,length_reverse→K9,lookup→Li,filter_cons_of_neg→Lj,filter_cons_of_pos→Lk,nodup_append→Lr,pairwise_map→Lu,count_append→Lv,map→Lw,take_of_length_le→Lx,length_take→Lz,zip→LG,mem_filter→LI,sum_append→LL,zip_append→LM,forIn_cons→LP,filterMap_cons→LX,forIn_nil→Mb,zip_cons_cons→Me,map_replicate→Mf,count_eq_zero→Mg,count_pos_iff→Mh,mem_replicate→Mi,length_range→Ms,getElem?_replicate→MC,pairwise_singleton→MJ,getElem?_set_self→MK,filter_eq_nil_iff→MU,dropLast_eq_take→MY,getElem?_zipWith→M0,min?_eq_some_iff→M1,length_filter_le→M5,getElem?_set_ne→M7,length_dropLast→M9,map_drop→Rf,foldl→Ri
open List.Perm renaming cons_inv→Rj
open Nat renaming le_refl→Qm,ne_of_lt→QA,lt_of_lt_of_le→QV,lt_irrefl→QZ,ne_of_gt→Q1,le_trans→Gi,zero_le→Gv,lt_trans→GJ,le_of_lt→GO,lt_of_le_of_lt→GQ,ble_eq→Ks,lt_succ_self→Kw,min_self→KJ,lt_trichotomy→Lq,le_add_right→LB,zero_add→L3,lt_succ_of_lt→Mp,le_succ_of_le→Mr,lt_or_ge→MQ
open Ne renaming symm→QO
open Option renaming bind_some→QM,map_eq_some_iff→Gj,bind_assoc→GD,map_map→Ke,map_some→Le,isSome_iff_exists→Mu
open Option.some renaming inj→QG
open Prod renaming ext→KO
open PyProof.Rows renaming slot_tuple_getitem→Q8,callWith_type1→Go
open PySem renaming wpAny_bind→Qa,wpAny_pure→Qg,wpAny_callSpecial?_slot→QK,wpAny_field→QN,wpAny_call_entry→QS,wpAny_newObj_type→Q3,wpAny_setField_rec→Q4,wpAny_seqItems→Gk,wpAny_holding→GG,wpAny_attempt→GN,mem_of_lookup→G6,wpAny_isInstance→G9,wpAny_passesOwn→Kh,wpAny_updateSeq→Kj,wpAny_truthy_bool→Kk,wpAny_of_eq→Kl,plainId_quiet→Kt,wpAny_Call_method0_late→Kx,wpAny_letGo→KD,wpAny_typeNameOfWhole_keyiter→KE,wpAny_mono→KG,wpAny_Call_Name_kw→KH,wpAny_specialOf→KQ,wpAny_loadPart'→KR,codeAny_builtin→KS,isSubtype_stop→K1,evalArgs_none→K8,wpAny_typeNameOf_keyiter→Lb,wpAny_rule→Lg,wpAny_tryCatch→Lp,wpAny_updateSeq_pair→LF,wpAny_execs_nil→LJ,codeAny_mono→LY,wpAny_pyIter_tuple→L6,wpAny_setField→Ma,wpAny_newTuple→Mc,isSubtype_type→Md,wpAny_pyIter_list→Mo,wpAny_onRaise→Mx,wpAny_eqBool_int→MB,wpAny_pyIter_zip→MF,wpAny_typeOf→MN,wpAny_ite_split→MW,Within→Rm
open PySem.Around renaming under_plainId→GZ,under→Rp
open PySem.Builtin.Builtins renaming bindParams→L0
open PySem.Builtin.Dict renaming showsAll→M3,noArgs→Re
open PySem.Builtin.Dict_items renaming ownsTuple→LS
open PySem.Builtin.Int renaming intBits→Rc
open PySem.Builtin.List renaming listExtendWith→G8,listTooLong→Kr,listLengthHint→L1,listSameRef→Mz,listItems→MR
open PySem.Builtin.Slice renaming slicePlaces→Kg,sliceAdjust→K5,sliceApplied→L8
open PySem.Builtin.SmallTypes renaming ownedTupleIsFree→QJ,nextOf→QY,ownedTupleHandOut→GL
open PySem.Builtin.Tuple renaming tupleExact→Kp,tupleItemsOf→L9
open PySem.Calls renaming callWith_builtin→GI,spliced_cons→Kb,spliced_nil→Ln,evalArgs_plain→LD,Name_function_global→L5
open PySem.Code renaming isFrame→Rq
open PySem.F renaming plainAttrs_list→QR,slot_list_append→Gm,type_list_append→Gn,slot_zip_next→Gz,plain_extend_loop→GS,plainAttrs_dict→G2,slot_tuple_iterator_next→Kc,args_zip_next_1→Km,slot_list_extend→Ku,type_list_extend→Kv,entry_zip_next→Kz,plain_min_loop→KA,slot_dict_items→KB,slot_enumerate_next→KW,slot_dict_get→Ly,args_tuple_iterator_next_1→LO,slot_dict_setdefault→LQ,slot_dict_keyiterator_next→LU,entry_tuple_iterator_next→LZ,slot_dict_getitem→Ml,args_dict_items_1→Mm,entry_extend_loop→Mn,args_tuple_add_2→Mv,entry_dict_items→My,entry_tuple_add→MD,args_dict_get_3→ME,args_enumerate_next_1→MG,type_dict_items→MH,plain_list_iadd→MI,slot_tuple_add→MM,entry_dict_get→MO,slot_dict_keys→MS
open PySem.Heap renaming get?_push_of_some→Qf,get?_push_size→Qi,lt_size→Qj,SameBut→QB,get?_update_other→Gc,size_push→Gy,get?_update_self→GC,ExtBut→Ll,get?_push_ne→Mq
open PySem.Heap.ExtBut renaming push→Rs
open PySem.Heap.SameBut renaming update→G7
open PySem.Obj renaming mapSeq→Kq,data_mapFields→Lh,isFreed_of_fields→MZ
open PySem.Paired renaming length→Mt
open PySem.PassesOwn renaming never→Q7
open PySem.PyData renaming canLayAll0→KZ,eqvAll→La,eqv→LA,depthAll→LN,depth→MP
open PySem.Shared renaming heap→Ru
open PySem.Str renaming ofString→Gb
open PySem.W renaming cellsFrom_some→ML,kitx_tuple→Rg,callWith_K→Rh,specialIn→Rn,kitx_dict→Ro
open PySem.W.KasT renaming kasWp_bind→Ld
open Sum.inl renaming inj→M6
set_option Elab.async false
set_option linter.all false
set_option maxRecDepth 100000
set_option maxHeartbeats 4000000
open PySem.W (instObj methodObj Frag lookIn plainGet hasDictIn findIn plainOver takerIn makesIn emptyDict mroIn kitOne kia_one kitx_list keepIn fnOf codeIn nsIn KdlKeysView kitAny mg_of mg_none_of)
noncomputable section
namespace L2
open PySem PySem.Spec PyProof.Rows

noncomputable abbrev Key:=Sum Int Str
noncomputable def Zd:Key->Value->Bool
 | .inl k,v=>Value.isInt k v
 | .inr x,v=>Value.isStrOf x v
noncomputable def Jqh(w:World):Key->Int
 | .inl k=>hashInt k
 | .inr x=>hashStr w x
theorem J4:∀{k:Key} {v:Value},Zd k v=true->(∃i t,k=Sum.inl i/\v=Value.int i t)\/(∃x t,k=Sum.inr x/\v=Value.str x t)
 | .inl i,v,h=>by obtain⟨t,e⟩:=Value.isInt_shape (k:=i) (v:=v) h;exact .inl ⟨i,t,rfl,e⟩
 | .inr x,v,h=>by obtain⟨t,e⟩:=Value.isStrOf_shape (x:=x) (v:=v) h;exact .inr ⟨x,t,rfl,e⟩
theorem Jhc(i:Int)(t:Tok):Zd (.inl i) (.int i t)=true:=by simp[Zd,Value.isInt]
theorem Jhd(x:Str)(t:Tok):Zd (.inr x) (.str x t)=true:=by simp[Zd,Value.isStrOf]
theorem JnA(a b:Int):decide ((Sum.inl a:Key)=Sum.inl b)=(a == b):=by
 by_cases e:a=b
 ·subst e;simp
 ·have h:¬(Sum.inl a:Key)=Sum.inl b:=fun q=>e (M6 q)
  rw[decide_eq_false h];exact(beq_eq_false_iff_ne.mpr e).symm
theorem JnD(a b:Str):decide ((Sum.inr a:Key)=Sum.inr b)=decide (a=b):=by
 by_cases e:a=b
 ·subst e;simp
 ·have h:¬(Sum.inr a:Key)=Sum.inr b:=fun q=>e (Sum.inr.inj q)
  rw[decide_eq_false h,decide_eq_false e]
theorem JnB(a:Int)(b:Str):decide ((Sum.inl a:Key)=Sum.inr b)=false:=decide_eq_false (fun q=>nomatch q)
theorem JnC(a:Str)(b:Int):decide ((Sum.inr a:Key)=Sum.inl b)=false:=decide_eq_false (fun q=>nomatch q)

noncomputable def JO(prog:Program)(w:World):PySem.KeyKind prog w Key where
 is:=Zd
 hash:=Jqh w
 inj:=fun v a b ha hb=>by
  rcases J4 ha with ⟨i,t,rfl,rfl⟩|⟨x,t,rfl,rfl⟩
  ·rcases J4 hb with ⟨j,u,rfl,e⟩|⟨y,u,rfl,e⟩
   ·injection e with e1 _;rw[e1]
   ·exact nomatch e
  ·rcases J4 hb with ⟨j,u,rfl,e⟩|⟨y,u,rfl,e⟩
   ·exact nomatch e
   ·injection e with e1 _;rw[e1]
 byValue:=fun k v h=>by rcases J4 h with ⟨i,t,rfl,rfl⟩|⟨x,t,rfl,rfl⟩ <;> rfl
 pyHash:=fun hv h=>by
  rcases J4 hv with ⟨i,t,rfl,rfl⟩|⟨x,t,rfl,rfl⟩
  ·exact wpAny_pyHash_int h
  ·exact wpAny_pyHash_str h
 eqBool:=fun hu hv h=>by
  rcases J4 hu with ⟨i,t,rfl,rfl⟩|⟨x,t,rfl,rfl⟩
  ·rcases J4 hv with ⟨j,u,rfl,rfl⟩|⟨y,u,rfl,rfl⟩
   ·rw[JnA] at h;exact MB h
   ·rw[JnB] at h;exact SeqAt.EqAt.int_str i t y u _ _ _ _ h
  ·rcases J4 hv with ⟨j,u,rfl,rfl⟩|⟨y,u,rfl,rfl⟩
   ·rw[JnC] at h;exact SeqAt.EqAt.str_int x t j u _ _ _ _ h
   ·rw[JnD] at h;exact wpAny_eqBool_str h
 «strs»:=fun k x t v h=>by
  rcases J4 h with ⟨i,u,rfl,e⟩|⟨y,u,rfl,e⟩
  ·exact nomatch e
  ·injection e with e1 _
   subst e1;cases v <;> rfl

theorem Jdm(prog:Program)(w:World)(i:Int)(t:Tok):(JO prog w).is (.inl i) (.int i t)=true:=Jhc i t
theorem Jdn(prog:Program)(w:World)(x:Str)(t:Tok):(JO prog w).is (.inr x) (.str x t)=true:=Jhd x t
end L2

namespace L2
open PySem PySem.Spec PyProof.Rows

inductive V where
 | non|bl (b:Bool)|int (i:Int)|str (x:Str)|byt (b:Array UInt8)|flt (b:UInt64)|ref (a:Addr)|ty (n:String)
 deriving DecidableEq

noncomputable def RelV:V->Value->Prop
 | .non,u=>u=Value.none
 | .bl b,u=>u=Value.bool b
 | .int i,u=>∃t,u=Value.int i t
 | .str x,u=>∃t,u=Value.str x t
 | .byt b,u=>∃t,u=Value.bytes b t
 | .flt b,u=>∃t,u=Value.float b t
 | .ref a,u=>u=Value.ref a
 | .ty n,u=>u=Value.type n

noncomputable abbrev Vals:List V->List Value->Prop:=Paired RelV
theorem Vals.length{xs:List V}{us:List Value}(r:Vals xs us):xs.length=us.length:=Mt r
theorem Vals.get:∀{xs:List V} {us:List Value} {i:Nat} {x:V},Vals xs us->xs[i]?=some x->∃u,us[i]?=some u/\RelV x u
 | _,_,_,_,.nil,e=>by simp at e
 | _,_,0,_,.cons r _,e=>by simp at e;subst e;exact⟨_,rfl,r⟩
 | _,_,i+1,x,.cons _ t,e=>by obtain⟨u,h1,h2⟩:=Vals.get (i:=i) (x:=x) t (by simpa using e);exact⟨u,by simpa using h1,h2⟩
theorem Vals.append:∀{xs ys:List V} {us ws:List Value},Vals xs us->Vals ys ws->Vals (xs++ys) (us++ws)
 | _,_,_,_,.nil,s=>s
 | _,_,_,_,.cons r t,s=>.cons r (Vals.append t s)
theorem Vals.take:∀{xs:List V} {us:List Value} (n:Nat),Vals xs us->Vals (xs.take n) (us.take n)
 | _,_,0,_=>.nil
 | _,_,_+1,.nil=>.nil
 | _,_,n+1,.cons r t=>.cons r (Vals.take n t)
theorem Vals.drop:∀{xs:List V} {us:List Value} (n:Nat),Vals xs us->Vals (xs.drop n) (us.drop n)
 | _,_,0,r=>r
 | _,_,_+1,.nil=>.nil
 | _,_,n+1,.cons _ t=>Vals.drop n t
noncomputable def RelO:Option V->Option Value->Prop
 | some v,some u=>RelV v u
 | none,none=>True
 | _,_=>False
noncomputable def KV{κ:Type}:List (κ×V)->List (κ×Value)->Prop:=Paired fun(p:κ×V) (q:κ×Value)=>p.1=q.1/\RelV p.2 q.2

noncomputable def kV:Key->V
 | .inl i=>.int i
 | .inr x=>.str x

inductive HO where
 | lst (xs:List V)
 | tup (xs:List V)
 | dK (kvs:List (Key×V))|dT (kvs:List (List Key×V))
 | set (S:Int->Bool) (n:Nat)
 | ins (C dx:Addr) (fs:List (Str×V))
 | own (x:Addr)
 | xd (fs:List (Str×V))
 | met (f x:Addr)
 | rng (lo hi:Int)
 | frz (o:Obj) (u:HO)
 | tbl (ps:Array Value)
 | ext (φ:Heap->Prop)

noncomputable abbrev Hp:=Addr->Option HO
noncomputable def upd(H:Hp)(a:Addr)(o:HO):Hp:=fun b=>if b=a then some o else H b
theorem Js{H:Hp}{a:Addr}{o:HO}:upd H a o a=some o:=by unfold upd;rw[if_pos rfl]
theorem Jm{H:Hp}{a b:Addr}{o:HO}(h:b≠a):upd H a o b=H b:=by unfold upd;rw[if_neg h]
theorem Jbk{H:Hp}{a b:Addr}{o u:HO}(h:H a=some o)(h':H b=some u)(d:o≠u):a≠b:=by intro e;subst e;rw[h] at h';exact d (QG h')
theorem Jw{H:Hp}{a b:Addr}{o:HO}(h:H a=some o)(h':H b=none):a≠b:=by intro e;subst e;rw[h] at h';cases h'

section
variable(P:Program)(w:World)
noncomputable def ObjOk(H:Hp)(h:Heap)(a:Addr):HO->Prop
 | .lst xs=>xs.length<=sizeLine/\∃(its:List Value) (n:Nat),Vals xs its/\h.get? a=some { cls:=.type "list",data:=.seq its.toArray n }
 | .tup xs=>xs.length<=sizeLine/\∃its:List Value,Vals xs its/\IsTup h a its.toArray
 | .dK kvs=>kvs.length<=sizeLine/\(a == sysModules)=false/\∃vs,KV kvs vs/\h.DictOf (JO P w) a vs
 | .dT kvs=>kvs.length<=sizeLine/\(a == sysModules)=false/\∃xs:List (List Key×Addr×Value),
  Paired (fun(p:List Key×V) (q:List Key×Addr×Value)=>p.1=q.1/\H q.2.1=some (.tup (p.1.map kV))/\RelV p.2 q.2.2) kvs xs ∧
  ∃o es ep,h.get? a=some o/\o.ExactDict/\o.data=.dict es ep/\es.toList=xs.map (entryOfKey (tupleKind (JO P w)))/\(xs.map (·.1)).Nodup
 | .set S n=>h.SetOf (intKind P w) a S n
 | .ins C dx fs=>H dx=some (.own a)/\fs.length<=1000/\dx≠a/\h.get? a=some (instObj C dx) ∧
  ∃mA,h.Ns1 dx mA/\(∀f,RelO (fs.lookup f) (mA f))/\Rm mA (fs.map (·.1))
 | .own _=>∃o,h.get? a=some o
 | .xd fs=>∃mA,h.Ns1 a mA/\∀f,RelO (fs.lookup f) (mA f)
 | .rng lo hi=>∃t u v,h.get? a=some { cls:=.type "range",data:=.fields #[.int lo t,.int hi u,.int 1 v] }
 | .frz o u=>h.get? a=some o/\ObjOk H h a u
 | .tbl ps=>h.get? a=some { cls:=.none,data:=.fields ps }
 | .met f x=>h.get? a=some (methodObj (.ref f) (.ref x))
 | .ext φ=>φ h/\(∃o,h.get? a=some o)/\∀h1 h2:Heap,φ h1->(∀o,h1.get? a=some o->h2.get? a=some o)->φ h2
noncomputable def HOk(H:Hp)(h:Heap):Prop:=∀a o,H a=some o->ObjOk P w H h a o
end

section
variable{P:Program}{w:World}{H H':Hp}{h h':Heap}{a:Addr}{o:HO}
theorem ObjOk.lt(x:ObjOk P w H h a o):a<h.objs.size:=by
 cases o with
 | lst xs=>obtain⟨_,_,_,_,e⟩:=x;exact Qj e
 | tup xs=>obtain⟨_,_,_,p⟩:=x;exact p.lt
 | dK kvs=>obtain⟨_,_,_,_,o,_,_,e,_⟩:=x;exact Qj e
 | dT kvs=>obtain⟨_,_,_,_,o,_,_,e,_⟩:=x;exact Qj e
 | set S n=>obtain⟨o,_,_,_,e,_⟩:=x;exact Qj e
 | ins C dx fs=>obtain⟨_,_,_,e,_⟩:=x;exact Qj e
 | own y=>obtain⟨_,e⟩:=x;exact Qj e
 | xd fs=>obtain⟨_,⟨_,_,_,e,_⟩,_⟩:=x;exact Qj e
 | rng lo hi=>obtain⟨_,_,_,e⟩:=x;exact Qj e
 | frz ob u=>obtain⟨e,_⟩:=x;exact Qj e
 | tbl ps=>exact Qj (show h.get? a=some _ from x)
 | met f y=>exact Qj (show h.get? a=some _ from x)
 | ext φ=>obtain⟨_,⟨_,e⟩,_⟩:=x;exact Qj e
theorem Paired.mapP{α β:Type}{F G:α->β->Prop}:∀{l₁:List α} {l₂:List β},Paired F l₁ l₂->(∀a b,F a b->G a b)->Paired G l₁ l₂
 | _,_,.nil,_=>.nil
 | _,_,.cons r t,f=>.cons (f _ _ r) (Paired.mapP t f)
theorem ObjOk.stay(x:ObjOk P w H h a o)(k:∀b u,(b=a\/H b=some (.own a))->h.get? b=some u->h'.get? b=some u)
 (ho:∀b,H b=some (.own a)->H' b=some (.own a)) (ht:∀b xs,H b=some (.tup xs)->H' b=some (.tup xs)):ObjOk P w H' h' a o:=by
 induction o with
 | lst xs=>obtain⟨z,its,n,r,e⟩:=x;exact⟨z,its,n,r,k _ _ (.inl rfl) e⟩
 | tup xs=>obtain⟨z,its,r,ob,e,c⟩:=x;exact⟨z,its,r,ob,k _ _ (.inl rfl) e,c⟩
 | dK kvs=>obtain⟨z,y,vs,r,ob,es,ep,e,c⟩:=x;exact⟨z,y,vs,r,ob,es,ep,k _ _ (.inl rfl) e,c⟩
 | dT kvs=>obtain⟨z,y,xs,r,ob,es,ep,e,c⟩:=x;exact⟨z,y,xs,Paired.mapP r fun p q z=>⟨z.1,ht _ _ z.2.1,z.2.2⟩,ob,es,ep,k _ _ (.inl rfl) e,c⟩
 | set S n=>obtain⟨ob,es,ep,t,e,c⟩:=x;exact⟨ob,es,ep,t,k _ _ (.inl rfl) e,c⟩
 | ins C dx fs=>obtain⟨d,z,ne,e,mA,⟨od,es,ep,e2,c⟩,r⟩:=x;exact⟨ho _ d,z,ne,k _ _ (.inl rfl) e,mA,⟨od,es,ep,k _ _ (.inr d) e2,c⟩,r⟩
 | own y=>obtain⟨ob,e⟩:=x;exact⟨ob,k _ _ (.inl rfl) e⟩
 | xd fs=>obtain⟨mA,⟨od,es,ep,e,c⟩,r⟩:=x;exact⟨mA,⟨od,es,ep,k _ _ (.inl rfl) e,c⟩,r⟩
 | rng lo hi=>obtain⟨t,u,v,e⟩:=x;exact⟨t,u,v,k _ _ (.inl rfl) e⟩
 | frz ob u ih=>obtain⟨e,q⟩:=x;exact⟨k _ _ (.inl rfl) e,ih q⟩
 | tbl ps =>
  have e:h.get? a=some { cls:=.none,data:=.fields ps }:=x
  show h'.get? a=some { cls:=.none,data:=.fields ps };exact k a _ (.inl rfl) e
 | met f y =>
  have e:h.get? a=some (methodObj (.ref f) (.ref y)):=x
  show h'.get? a=some (methodObj (.ref f) (.ref y));exact k a _ (.inl rfl) e
 | ext φ=>obtain⟨p,⟨o,e⟩,st⟩:=x;exact⟨st _ _ p fun o q=>k _ _ (.inl rfl) q,⟨o,k _ _ (.inl rfl) e⟩,st⟩
theorem HOk.lt(x:HOk P w H h)(e:H a=some o):a<h.objs.size:=(x a o e).lt
theorem HOk.fresh(x:HOk P w H h)(e:h.objs.size<=a):H a=none:=by
 cases q:H a with
 | none=>rfl
 | some u=>exact absurd (QV (x.lt q) e) (QZ _)
theorem HOk.kept(x:HOk P w H h)(k:∀b u,h.get? b=some u->h'.get? b=some u):HOk P w H h':=fun a o e=>(x a o e).stay (fun b u _ q=>k b u q) (fun _ q=>q) fun _ _ q=>q
theorem HOk.laid(x:HOk P w H h)(k:∀b u,h.get? b=some u->h'.get? b=some u)(hp:h.objs.size<=a)(new:ObjOk P w (upd H a o) h' a o):HOk P w (upd H a o) h':=fun b u e=>by
 have hn:=x.fresh hp
 by_cases hb:b=a
 ·subst hb;rw[Js] at e;cases e;exact new
 ·rw[Jm hb] at e;exact(x b u e).stay (fun c v _ q=>k c v q) (fun c q=>by rw[Jm (Jw q hn)];exact q) fun c xs q=>by rw[Jm (Jw q hn)];exact q
end

noncomputable def Rd(H:Hp)(a:Addr)(u:HO):Prop:=H a=some u\/∃o,H a=some (.frz o u)
theorem Rd.ok{P:Program}{w:World}{H:Hp}{h:Heap}{a:Addr}{u:HO}(r:Rd H a u)(x:HOk P w H h):ObjOk P w H h a u:=by
 rcases r with r|⟨o,r⟩
 ·exact x a u r
 ·obtain⟨_,q⟩:=x a _ r;exact q
noncomputable def Mut:Option HO->Prop
 | some (.lst _)=>True
 | some (.dK _)=>True
 | some (.dT _)=>True
 | some (.set _ _)=>True
 | some (.ins _ _ _)=>True
 | some (.ext _)=>True
 | _=>False
section
variable{P:Program}{w:World}{H:Hp}{h h':Heap}{x e:Addr}{o':HO}
theorem HOk.write(ok:HOk P w H h)(mu:Mut (H x))(he:e=x\/H e=some (.own x))(k:∀b u,b≠e->h.get? b=some u->h'.get? b=some u)(heo:∃u,h'.get? e=some u)
 (new:ObjOk P w (upd H x o') h' x o'):HOk P w (upd H x o') h':=fun b u q=>by
 have nown:∀c y,H c=some (.own y)->c≠x:=fun c y r z=>by subst z;rw[r] at mu;exact mu
 have ntup:∀c xs,H c=some (.tup xs)->c≠x:=fun c xs r z=>by subst z;rw[r] at mu;exact mu
 by_cases hb:b=x
 ·subst hb;rw[Js] at q;cases q;exact new
 ·rw[Jm hb] at q
  by_cases hbe:b=e
  ·have q':H b=some (.own x):=by
    rcases he with z|z
    ·exact absurd (hbe.trans z) hb
    ·rw[hbe];exact z
   rw[q] at q';cases q';obtain⟨v,hv⟩:=heo;exact⟨v,by rw[hbe];exact hv⟩
  ·refine(ok b u q).stay (fun c v hc r=>k c v ?_ r) (fun c r=>by rw[Jm (nown c b r)];exact r) fun c xs r=>by rw[Jm (ntup c xs r)];exact r
   rcases hc with rfl|hc
   ·exact hbe
   ·rintro rfl;rcases he with z|z
    ·exact nown c b hc z
    ·rw[hc] at z;cases z;exact hb rfl
end

structure Un (fs ex:List Addr) (H H':Hp) (h h':Heap):Prop where
 keep:∀b o,h.get? b=some o->H b=none->b∉fs->b∉ex->h'.get? b=some o
 slot:∀b o,h.get? b=some o->H b=none->b∈fs->b∉ex->∃sl,h'.get? b=some { o with slots:=sl }
 free:∀b o,h.get? b=some o->H b=none->b∉ex->H' b=none
 there:∀b o,h.get? b=some o->b∉ex->∃o',h'.get? b=some o'
 tups:∀b xs,H b=some (.tup xs)->H' b=some (.tup xs)
 frzs:∀b o u,H b=some (.frz o u)->H' b=some (.frz o u)
 tbls:∀b ps,H b=some (.tbl ps)->∃more,H' b=some (.tbl (ps++more))
section
variable{fs fs' ex ex':List Addr}{H H1 H2:Hp}{h h1 h2 h':Heap}{a x e:Addr}{o:HO}
theorem Un.any(u:Un fs ex H H1 h h1){b:Addr}{ob:Obj}(q:h.get? b=some ob)(n:H b=none)(hx:b∉ex):∃sl,h1.get? b=some { ob with slots:=sl }:=by
 by_cases hb:b∈fs
 ·exact u.slot b ob q n hb hx
 ·exact⟨ob.slots,u.keep b ob q n hb hx⟩
theorem Un.kept(k:∀b u,h.get? b=some u->h'.get? b=some u):Un fs ex H H h h' :=
 ⟨fun b ob q _ _ _=>k b ob q,fun b ob q _ _ _=>⟨ob.slots,k b ob q⟩,fun _ _ _ n _=>n,fun b ob q _=>⟨ob,k b ob q⟩,fun _ _ q=>q,fun _ _ _ q=>q,fun _ ps q=>⟨#[],by rw[q];simp⟩⟩
theorem Un.refl:Un fs ex H H h h:=Un.kept fun _ _ q=>q
theorem Un.laid(k:∀b u,h.get? b=some u->h'.get? b=some u)(hp:h.objs.size<=a)(hn:H a=none):Un fs ex H (upd H a o) h h' where
 keep:=fun b u q _ _ _=>k b u q
 slot:=fun b u q _ _ _=>⟨u.slots,k b u q⟩
 free:=fun b u q n _=>by rw[Jm (QA (QV (Qj q) hp))];exact n
 there:=fun b u q _=>⟨u,k b u q⟩
 tups:=fun b xs q=>by rw[Jm (Jw q hn)];exact q
 frzs:=fun b u xs q=>by rw[Jm (Jw q hn)];exact q
 tbls:=fun b ps q=>⟨#[],by rw[Jm (Jw q hn),q];simp⟩
theorem Un.write(mu:Mut (H x))(he:e=x\/H e=some (.own x))(k:∀b u,b≠e->h.get? b=some u->h'.get? b=some u)(heo:∃u,h'.get? e=some u):Un fs ex H (upd H x o) h h':=by
 have hx:∀b,H b=none->b≠x:=fun b n z=>by subst z;rw[n] at mu;exact mu
 have hb:∀b,H b=none->b≠e:=fun b n z=>by
  subst z;rcases he with r|r
  ·exact hx b n r
  ·rw[n] at r;cases r
 have hm:∀b u,H b=some u->¬Mut (some u)->b≠x:=fun b u q nm z=>by subst z;rw[q] at mu;exact nm mu
 refine⟨fun b u q n _ _=>k b u (hb b n) q,fun b u q n _ _=>⟨u.slots,k b u (hb b n) q⟩,fun b u q n _=>by rw[Jm (hx b n)];exact n,fun b u q _=>?_,
  fun b xs q=>by rw[Jm (hm b _ q fun z=>z)];exact q,fun b u xs q=>by rw[Jm (hm b _ q fun z=>z)];exact q,fun b ps q=>⟨#[],by rw[Jm (hm b _ q fun z=>z),q];simp⟩⟩
 by_cases hbe:b=e
 ·subst hbe;exact heo
 ·exact⟨u,k b u hbe q⟩
end

noncomputable def trk(h:Heap)(H:Hp):List Addr:=(Q0 h.objs.size).filter fun a=>(H a).isSome
noncomputable def JbY(h:Heap)(H:Hp):Heap:=PySem.W.hideAll h (trk h H)
theorem Jg3(h:Heap)(H:Hp):(JbY h H).objs.size=h.objs.size:=PySem.W.hideAll_size _ _
theorem JiK{h:Heap}{H:Hp}{b:Addr}{o:Obj}(e:h.get? b=some o)(n:H b=none):(JbY h H).get? b=some o :=
 PySem.W.hideAll_get _ e fun hm=>by have q:(H b).isSome=true:=(LI.mp hm).2;rw[n] at q;simp at q
theorem Jlr{h:Heap}{H:Hp}{b:Addr}{o:Obj}(e:(JbY h H).get? b=some o):h.get? b=some o/\H b=none:=by
 have e':h.get? b=some o:=PySem.W.of_hideAll (trk h H) e;refine⟨e',?_⟩
 cases q:H b with
 | none=>rfl
 | some x =>
  have hm:b∈trk h H:=LI.mpr ⟨List.mem_range.mpr (Qj e'),by simp[q]⟩
  have z:(JbY h H).get? b=none:=PySem.W.hideAll_none (trk h H) hm;rw[z] at e;cases e

noncomputable def Jkx(g h:Heap)(L:Addr):List (Addr×Obj):=(Q0 h.objs.size).filterMap fun a=>if a=L\/(g.get? a).isSome=true then none else(h.get? a).map fun o=>(a,o)
noncomputable def rest(g h:Heap)(L d:Addr):List (Addr×Obj):=(Jkx g h L).filter fun p=>decide (p.1≠d)
end L2

namespace L2
open PySem PySem.Spec PyProof.Rows

structure Mod (K:Frag) (mg:Str->Option Value) (base:Heap):Prop where
 kin:K.In base
 glob:base.Ns mainGlobals mg
 blt:∃mb,base.Ns builtinsNs mb/\∀x:Str,x≠"__name__"->mb x=bootBuiltins x
 nolimit:base.NoLimit

structure Cx where
 prog:Program
 w:World
 K:Frag
 mg:Str->Option Value
 base:Heap
 A:Around
 N:List Str
 s₀:Shared
 H₀:Hp
 env:Env
 outer:List Env
 stack:List Env
 ex:List Addr
 fn:Str->Bool
 calm:Bool
 pn:List (Addr×Obj)
 xe:Value->Shared->Prop
noncomputable def frs(l:List Env):List Addr:=l.filterMap (·.frame)
noncomputable abbrev Cx.fs(X:Cx):List Addr:=frs X.outer

noncomputable def Vis(sc:Scope)(x:Str):Prop:=sc.names.lookup x=some .local\/sc.names.lookup x=some .cell\/sc.names.lookup x=some .free
noncomputable def Loc(sc:Scope)(x:Str):Prop:=sc.names.lookup x=some .local\/sc.names.lookup x=some .cell
noncomputable def Jqc(env:Env)(h:Heap)(m:Str->Option Value)(x:Str)(u:Value):Prop :=
 (env.kindOf x=some .local/\m x=some u)\/((env.kindOf x=some .cell\/env.kindOf x=some .free)/\∃c,env.cells.lookup x=some c/\h.IsCell c (some u))

structure Cx.Ok (X:Cx):Prop where
 mod:Mod X.K X.mg X.base
 kind:X.env.scope.kind=.function
 glob:X.env.globals=mainGlobals
 blt:X.env.builtins=builtinsNs
 above:X.s₀.heap.objs.size<=X.env.locals
 inj:∀x y c,X.env.cells.lookup x=some c->X.env.cells.lookup y=some c->x=y
 has:∀x,(X.env.kindOf x=some .cell\/X.env.kindOf x=some .free)->∃c,X.env.cells.lookup x=some c
 cab:∀x c,X.fn x=true->X.env.cells.lookup x=some c->X.s₀.heap.objs.size<=c
 hd:X.calm=true->X.A.handled=none
 frames:X.A.frames=some X.stack
 stk:X.stack=X.outer\/(X.stack=X.env::X.outer/\X.env.frame=some X.env.locals)
 exf:∀b∈X.ex,b≠X.env.locals/\∀x c,X.env.cells.lookup x=some c->c≠b
 bs:∀b o,X.base.get? b=some o->X.s₀.heap.get? b=some o/\X.H₀ b=none
 bsz:X.base.objs.size<=X.s₀.heap.objs.size
 noex:∀b o,X.base.get? b=some o->b∉X.ex
 exfs:∀b∈X.ex,b∉X.fs
 funs:X.s₀.heap.FunFrames X.base X.outer
 frf:∀b∈X.fs,X.H₀ b=none

structure Inv (X:Cx) (pins:List (Addr×Obj)) (σ:List (Option V)) (H:Hp) (s:Shared):Prop where
 ok:X.Ok
 os:s.os=X.s₀.os
 bare:AllBare s.gens
 base:Un X.fs X.ex X.H₀ H X.s₀.heap s.heap
 loc:∃m,s.heap.Ns X.env.locals m/\∀(i:Nat) (x:Str) (v:V),X.N[i]?=some x->σ[i]?=some (some v)->Vis X.env.scope x->∃u,RelV v u/\Jqc X.env s.heap m x u
 cell:∀x c,X.env.cells.lookup x=some c->∃v,s.heap.IsCell c v
 free:H X.env.locals=none
 freeC:∀x c,X.env.cells.lookup x=some c->H c=none
 pin:∀p∈X.pn++pins,s.heap.get? p.1=some p.2/\H p.1=none/\p.1≠X.env.locals/\p.1∉X.fs/\∀v,p.2.data≠.cell v
 hok:HOk X.prog X.w H s.heap
 len:σ.length=X.N.length

section
variable{X:Cx}{pins:List (Addr×Obj)}{σ:List (Option V)}{H H':Hp}{s:Shared}{h':Heap}

theorem Cx.Ok.nofr(ok:X.Ok){b:Addr}{o:Obj}(e:X.base.get? b=some o):b∉X.fs:=fun hb=>by have:=(ok.funs.mem hb).1;rw[e] at this;cases this
theorem Inv.bs(I:Inv X pins σ H s):∀b o,X.base.get? b=some o->s.heap.get? b=some o/\H b=none:=fun b o e=>⟨I.base.keep b o (I.ok.bs b o e).1 (I.ok.bs b o e).2 (I.ok.nofr e) (I.ok.noex b o e),I.base.free b o (I.ok.bs b o e).1 (I.ok.bs b o e).2 (I.ok.noex b o e)⟩
theorem Inv.bk(I:Inv X pins σ H s):∀b o,X.base.get? b=some o->s.heap.get? b=some o:=fun b o e=>(I.bs b o e).1
theorem Inv.mod(I:Inv X pins σ H s):Mod X.K X.mg X.base:=I.ok.mod
theorem Inv.kIn(I:Inv X pins σ H s):X.K.In s.heap:=I.ok.mod.kin.keeps I.bk
theorem Inv.nolimit(I:Inv X pins σ H s):s.heap.NoLimit:=I.ok.mod.nolimit.keeps I.bk
theorem Inv.fr(I:Inv X pins σ H s):∃m,Fr X.base X.env.locals s.heap m :=
 let ⟨m,hn,_⟩:=I.loc
 ⟨m,hn,I.bk,Gi I.ok.bsz I.ok.above⟩
theorem Inv.lt(I:Inv X pins σ H s):X.env.locals<s.heap.objs.size:=let ⟨_,hn,_⟩:=I.loc;hn.lt
theorem Inv.sz(I:Inv X pins σ H s):X.s₀.heap.objs.size<=s.heap.objs.size:=Gi I.ok.above (GO I.lt)
theorem Inv.nofs(I:Inv X pins σ H s){a:Addr}(h:s.heap.objs.size<=a):a∉X.fs:=fun hb=>by obtain⟨_,o,ho,_⟩:=I.ok.funs.mem hb;exact absurd (QV (Qj ho) (Gi I.sz h)) (QZ _)
theorem Inv.cne(I:Inv X pins σ H s):∀x c,X.env.cells.lookup x=some c->c≠X.env.locals:=fun x c e z=>by obtain⟨v,o,ho,hd⟩:=I.cell x c e;obtain⟨m,⟨o',es,ep,ho',hd',_⟩,_⟩:=I.loc;rw[z,ho'] at ho;cases ho;rw[hd'] at hd;cases hd
theorem Inv.funs(I:Inv X pins σ H s):s.heap.FunFrames X.base X.outer:=by
 have all:∀(l:List Env),(∀b∈frs l,b∈X.fs)->X.s₀.heap.FunFrames X.base l->s.heap.FunFrames X.base l:=by
  intro l
  induction l with
  | nil=>intro _ _;trivial
  | cons env r ih =>
   intro hs hl;obtain⟨hk,⟨L,o,hf,hn,ho,hd⟩,hr⟩:=hl;have hL:L∈X.fs:=hs L (by unfold frs;rw[LX,hf];exact Qd);obtain⟨sl,e⟩:=I.base.slot L o ho (I.ok.frf L hL) hL fun z=>I.ok.exfs L z hL
   exact⟨hk,⟨L,_,hf,hn,e,hd⟩,ih (fun b hb=>hs b (by unfold frs;rw[LX,hf];exact Qc _ hb)) hr⟩
 exact all X.outer (fun _ hb=>hb) I.ok.funs

theorem Inv.stack(I:Inv X pins σ H s):s.heap.FunFrames X.base X.stack:=by
 rcases I.ok.stk with e|⟨e,hf⟩
 ·rw[e];exact I.funs
 ·rw[e];obtain⟨m,hn,_⟩:=I.loc;refine .cons (by rw[I.ok.kind];decide) hf hn ?_ I.funs;exact Heap.get?_none_of_le (Gi I.ok.bsz I.ok.above)
theorem Inv.stkSub(I:Inv X pins σ H s):∀b∈frs X.stack,b∈X.env.locals::X.fs:=fun b hb=>by
 rcases I.ok.stk with e|⟨e,hf⟩
 ·rw[e] at hb;exact Qc _ hb
 ·rw[e] at hb;unfold frs at hb;rw[LX,hf] at hb;exact hb
theorem Inv.stkFree(I:Inv X pins σ H s):∀b∈frs X.stack,H b=none:=fun b hb=>by
 rcases Qh.mp (I.stkSub b hb) with e|hb
 ·rw[e];exact I.free
 ·obtain⟨_,o,ho,_⟩:=I.ok.funs.mem hb;exact I.base.free b o ho (I.ok.frf b hb) fun z=>I.ok.exfs b z hb

theorem Inv.step{g':Array GenState}{t':Nat}{d':Drawn}{ch:List Addr}(I:Inv X pins σ H s)
 (hch:∀b∈ch,(b∈X.ex\/X.s₀.heap.objs.size<=b)/\b≠X.env.locals/\(∀x c,X.env.cells.lookup x=some c->c≠b)/\∀p∈X.pn++pins,p.1≠b)
 (keep:∀b o,b≠X.env.locals->b∉X.fs->b∉ch->s.heap.get? b=some o->H b=none->h'.get? b=some o)
 (slot:∀b o,b≠X.env.locals->b∈X.fs->b∉ch->s.heap.get? b=some o->H b=none->∃sl,h'.get? b=some { o with slots:=sl }) (free:∀b o,b∉ch->s.heap.get? b=some o->H b=none->H' b=none)
 (there:∀b o,b∉ch->s.heap.get? b=some o->∃o',h'.get? b=some o')
 (tups:∀b xs,H b=some (.tup xs)->H' b=some (.tup xs)) (frzs:∀b o u,H b=some (.frz o u)->H' b=some (.frz o u)) (tbls:∀b ps,H b=some (.tbl ps)->∃more,H' b=some (.tbl (ps++more)))
 (ns:∀m,s.heap.Ns X.env.locals m->h'.Ns X.env.locals m) (hok:HOk X.prog X.w H' h') (hg:AllBare g') :
 Inv X pins σ H' { s with heap:=h',gens:=g',drawn:=d',toks:=t' }:=by
 have neL:∀b o,X.s₀.heap.get? b=some o->b≠X.env.locals:=fun b o e=>QA (QV (Qj e) I.ok.above)
 have neC:∀b o,X.s₀.heap.get? b=some o->b∉X.ex->b∉ch:=fun b o e hx hb=>by
  rcases(hch b hb).1 with z|z
  ·exact hx z
  ·exact absurd (QV (Qj e) z) (QZ _)
 have cellK:∀x c,X.env.cells.lookup x=some c->∀v,s.heap.IsCell c v->h'.IsCell c v:=fun x c e v ⟨o,ho,hd⟩=>by
  have nch:c∉ch:=fun z=>(hch c z).2.2.1 x c e rfl
  by_cases hc:c∈X.fs
  ·obtain⟨sl,q⟩:=slot c o (I.cne x c e) hc nch ho (I.freeC x c e);exact⟨_,q,hd⟩
  ·exact⟨o,keep c o (I.cne x c e) hc nch ho (I.freeC x c e),hd⟩
 refine⟨I.ok,I.os,hg,⟨fun b o e n hb hx=>?_,fun b o e n hb hx=>?_,fun b o e n hx=>?_,fun b o e hx=>?_,fun b xs e=>tups b xs (I.base.tups b xs e),fun b o xs e=>frzs b o xs (I.base.frzs b o xs e),fun b ps e=>?_⟩,?_,fun x c e=>?_,?_,fun x c e=>?_,fun p hp=>?_,hok,I.len⟩
 ·exact keep b o (neL b o e) hb (neC b o e hx) (I.base.keep b o e n hb hx) (I.base.free b o e n hx)
 ·obtain⟨sl,e1⟩:=I.base.slot b o e n hb hx;obtain⟨sl',e2⟩:=slot b _ (neL b o e) hb (neC b o e hx) e1 (I.base.free b o e n hx);exact⟨sl',e2⟩
 ·obtain⟨o',e1⟩:=I.base.there b o e hx;exact free b o' (neC b o e hx) e1 (I.base.free b o e n hx)
 ·obtain⟨o',e1⟩:=I.base.there b o e hx;exact there b o' (neC b o e hx) e1
 ·obtain⟨m1,e1⟩:=I.base.tbls b ps e;obtain⟨m2,e2⟩:=tbls b _ e1;exact⟨m1++m2,by rw[e2,Array.append_assoc]⟩
 ·obtain⟨m,hn,hl⟩:=I.loc;refine⟨m,ns m hn,fun i x v e1 e2 e3=>?_⟩;obtain⟨u,r,l⟩:=hl i x v e1 e2 e3;refine⟨u,r,?_⟩;rcases l with l|⟨k,c,e,z⟩
  ·exact .inl l
  ·exact .inr ⟨k,c,e,cellK x c e _ z⟩
 ·obtain⟨v,z⟩:=I.cell x c e;exact⟨v,cellK x c e v z⟩
 ·obtain⟨m,⟨o,_,_,ho,_⟩,_⟩:=I.loc;exact free _ o (fun z=>(hch _ z).2.1 rfl) ho I.free
 ·obtain⟨v,o,ho,hd⟩:=I.cell x c e;exact free c o (fun z=>(hch c z).2.2.1 x c e rfl) ho (I.freeC x c e)
 ·obtain⟨e,n,ne,nf,d⟩:=I.pin p hp;have nch:p.1∉ch:=fun z=>(hch p.1 z).2.2.2 p hp rfl
  exact⟨keep p.1 p.2 ne nf nch e n,free p.1 p.2 nch e n,ne,nf,d⟩
theorem Inv.un{t':Nat}(I:Inv X pins σ H s)(u:Un X.fs [] H H' s.heap h')(hok:HOk X.prog X.w H' h'):Inv X pins σ H' { s with heap:=h',toks:=t' }:=by
 obtain⟨m,⟨o,es,ep,ho,r⟩,_⟩:=id I.loc;obtain⟨sl,hL⟩:=u.any ho I.free (by simp);exact I.step (g':=s.gens) (d':=s.drawn) (ch:=[]) (fun _ z=>nomatch z) (fun b o _ hb _ e n=>u.keep b o e n hb (by simp)) (fun b o _ hb _ e n=>u.slot b o e n hb (by simp)) (fun b o _ e n=>u.free b o e n (by simp)) (fun b o _ e=>u.there b o e (by simp)) u.tups u.frzs u.tbls (fun m' hm=>by obtain⟨o',es',ep',ho',r'⟩:=hm;rw[ho] at ho';cases ho';exact⟨_,es',ep',hL,r'⟩) hok I.bare
theorem Inv.call{g':Array GenState}{t':Nat}{d':Drawn}{ch:List Addr}(I:Inv X pins σ H s)(u:Un (frs X.stack) ch H H' s.heap h')(hok:HOk X.prog X.w H' h')(hg:AllBare g')
 (hch:∀b∈ch,(b∈X.ex\/X.s₀.heap.objs.size<=b)/\b≠X.env.locals/\(∀x c,X.env.cells.lookup x=some c->c≠b)/\∀p∈X.pn++pins,p.1≠b) :
 Inv X pins σ H' { s with heap:=h',gens:=g',drawn:=d',toks:=t' }:=by
 obtain⟨m,⟨o,es,ep,ho,r⟩,_⟩:=id I.loc;obtain⟨sl,hL⟩:=u.any ho I.free fun z=>(hch _ z).2.1 rfl
 exact I.step (ch:=ch) hch (fun b o hL hb hc e n=>u.keep b o e n (fun z=>(Qh.mp (I.stkSub b z)).elim hL hb) hc) (fun b o _ _ hc e n=>u.any e n hc) (fun b o hc e n=>u.free b o e n hc) (fun b o hc e=>u.there b o e hc) u.tups u.frzs u.tbls (fun m' hm=>by obtain⟨o',es',ep',ho',r'⟩:=hm;rw[ho] at ho';cases ho';exact⟨_,es',ep',hL,r'⟩) hok hg
theorem Inv.turned{t':Nat}{it:Addr}(I:Inv X pins σ H s)(k:∀b o,b≠it->s.heap.get? b=some o->h'.get? b=some o)(hn:H it=none)(hL:it≠X.env.locals)
 (h1:it∈X.ex\/X.s₀.heap.objs.size<=it) (h2:∀x c,X.env.cells.lookup x=some c->c≠it) (h3:∀p∈X.pn++pins,p.1≠it):Inv X pins σ H { s with heap:=h',toks:=t' }:=by
 have nit:∀b u,H b=some u->b≠it:=fun b u e z=>by rw[z,hn] at e;cases e
 refine I.step (g':=s.gens) (d':=s.drawn) (ch:=[it]) (fun b hb=>?_) (fun b o _ _ hc e _=>k b o (fun z=>hc (by simp[z])) e) (fun b o _ _ hc e _=>⟨o.slots,k b o (fun z=>hc (by simp[z])) e⟩) (fun _ _ _ _ n=>n)
  (fun b o hc e=>⟨o,k b o (fun z=>hc (by simp[z])) e⟩) (fun _ _ e=>e) (fun _ _ _ e=>e) (fun b ps e=>⟨#[],by rw[e];simp⟩) (fun m hm=>?_) (fun b u e=>?_) I.bare
 ·have e:b=it:=by simpa using hb
  subst e;exact⟨h1,hL,h2,h3⟩
 ·obtain⟨o,es,ep,ho,r⟩:=hm;exact⟨o,es,ep,k _ o (QO hL) ho,r⟩
 ·refine(I.hok b u e).stay (fun c v hc q=>k c v ?_ q) (fun _ q=>q) fun _ _ q=>q
  rcases hc with z|z
  ·rw[z];exact nit b u e
  ·exact nit c _ z
theorem Inv.tok(I:Inv X pins σ H s)(t:Nat):Inv X pins σ H { s with toks:=t }:=I.un (h':=s.heap) (t':=t) Un.refl I.hok
theorem Inv.kept{t':Nat}(I:Inv X pins σ H s)(k:∀b u,s.heap.get? b=some u->h'.get? b=some u):Inv X pins σ H { s with heap:=h',toks:=t' }:=I.un (Un.kept k) (I.hok.kept k)
theorem Inv.laid{a:Addr}{o:HO}{t':Nat}(I:Inv X pins σ H s)(k:∀b u,s.heap.get? b=some u->h'.get? b=some u)(hp:s.heap.objs.size<=a)(new:ObjOk X.prog X.w (upd H a o) h' a o) :
 Inv X pins σ (upd H a o) { s with heap:=h',toks:=t' }:=I.un (Un.laid k hp (I.hok.fresh hp)) (I.hok.laid k hp new)
theorem Inv.write{x e:Addr}{o:HO}{t':Nat}(I:Inv X pins σ H s)(mu:Mut (H x))(he:e=x\/H e=some (.own x))(k:∀b u,b≠e->s.heap.get? b=some u->h'.get? b=some u)(heo:∃u,h'.get? e=some u)
 (new:ObjOk X.prog X.w (upd H x o) h' x o):Inv X pins σ (upd H x o) { s with heap:=h',toks:=t' }:=I.un (Un.write mu he k heo) (I.hok.write mu he k heo new)
theorem Inv.pins_of{pins':List (Addr×Obj)}(I:Inv X pins σ H s)(h:∀p∈pins',s.heap.get? p.1=some p.2/\H p.1=none/\p.1≠X.env.locals/\p.1∉X.fs/\∀v,p.2.data≠.cell v):Inv X pins' σ H s :=
 ⟨I.ok,I.os,I.bare,I.base,I.loc,I.cell,I.free,I.freeC,fun p hp=>(Q6.mp hp).elim (fun z=>I.pin p (K0 _ z)) (h p),I.hok,I.len⟩

theorem Jdo{N:List Str}(hN:N.Nodup){i j:Nat}{x:Str}(a:N[i]?=some x)(b:N[j]?=some x):i=j:=by obtain⟨h1,e1⟩:=Qn.mp a;obtain⟨h2,e2⟩:=Qn.mp b;exact(List.getElem_inj hN).mp (e1.trans e2.symm)

theorem Jbs{M:Model}{A:Around}{E:Value->Shared->Prop}{i:Nat}{x:Str}{v:V}{u:Value}{Q:Unit->Shared->Prop}(I:Inv X pins σ H s)(hN:X.N.Nodup)(hi:X.N[i]?=some x)(hx:Loc X.env.scope x)(r:RelV v u)
 (h:∀s',Inv X pins (σ.set i (some v)) H s'->(∃a,QB a s.heap s'.heap/\(a=X.env.locals\/X.env.cells.lookup x=some a))->Q () s') (hf:X.fn x=true\/X.env.scope.names.lookup x=some .local:=by first|exact .inl rfl|exact .inr rfl|assumption):wpAny M A (storeName X.env x u) Q E s:=by
 obtain⟨m,hn,hl⟩:=id I.loc;have hcls:(X.env.scope.kind == .class || (X.env.scope.kind == .module && X.env.locals != X.env.globals))=false:=by rw[I.ok.kind];rfl
 have hiσ:i<σ.length:=by rw[I.len];exact(Qn.mp hi).1
 have cne:=I.cne
 have tracked:∀{a:Addr} {h':Heap},(∃o,s.heap.get? a=some o/\H a=none)->QB a s.heap h'->HOk X.prog X.w H h':=fun {a h'} ha hs b ob e=>by
  obtain⟨_,_,hfree⟩:=ha;refine(I.hok b ob e).stay (fun c w' hc q=>(hs.2 c ?_).trans q) (fun _ q=>q) fun _ _ q=>q
  rintro rfl;rcases hc with rfl|hc
  ·rw[hfree] at e;cases e
  ·rw[hfree] at hc;cases hc
 rcases hx with hk|hk
 ·refine wpAny_storeName_local hk hn (fun h' hn' hs=>?_) hcls;obtain⟨oL,_,_,hoL,_⟩:=id hn;refine h _ ⟨I.ok,I.os,I.bare,⟨fun b o e n hb hx=>?_,fun b o e n hb hx=>?_,I.base.free,fun b o e hx=>?_,I.base.tups,I.base.frzs,I.base.tbls⟩,⟨_,hn',fun j y v' e1 e2 e3=>?_⟩,fun y c e=>?_,I.free,I.freeC,fun p hp=>?_,tracked ⟨oL,hoL,I.free⟩ hs,by simpa using I.len⟩ ⟨_,hs,.inl rfl⟩
  ·exact(hs.2 b (QA (QV (Qj e) I.ok.above))).trans (I.base.keep b o e n hb hx)
  ·obtain⟨sl,e1⟩:=I.base.slot b o e n hb hx;exact⟨sl,(hs.2 b (QA (QV (Qj e) I.ok.above))).trans e1⟩
  ·obtain⟨o',e1⟩:=I.base.there b o e hx;exact⟨o',(hs.2 b (QA (QV (Qj e) I.ok.above))).trans e1⟩
  ·by_cases hj:j=i
   ·subst hj;rw[hi] at e1;cases e1;rw[MK hiσ] at e2;cases e2;exact⟨u,r,.inl ⟨hk,by simp⟩⟩
   ·rw[M7 (QO hj)] at e2;obtain⟨u',r',q⟩:=hl j y v' e1 e2 e3;refine⟨u',r',?_⟩;rcases q with ⟨k,e⟩|⟨k,c,e,z⟩
    ·refine .inl ⟨k,?_⟩;have:y≠x:=fun e=>hj (Jdo hN e1 (e▸hi))
     simp[this,e]
    ·exact .inr ⟨k,c,e,z.sameBut hs (cne y c e)⟩
  ·obtain⟨w',z⟩:=I.cell y c e;exact⟨w',z.sameBut hs (cne y c e)⟩
  ·obtain⟨e,n,ne,nf,d⟩:=I.pin p hp;exact⟨(hs.2 p.1 ne).trans e,n,ne,nf,d⟩
 ·have hfn:X.fn x=true:=by
   rcases hf with z|z
   ·exact z
   ·rw[z] at hk;cases hk
  obtain⟨c,hc⟩:=I.ok.has x (.inl hk);obtain⟨w',z⟩:=I.cell x c hc;refine wpAny_storeName_cell I.ok.kind hk hc z (fun h' hc' hs=>?_);obtain⟨oc,hoc,hocd⟩:=id z;refine h { s with heap:=h' } ⟨I.ok,I.os,I.bare,⟨fun b o e n hb hx=>?_,fun b o e n hb hx=>?_,I.base.free,fun b o e hx=>?_,I.base.tups,I.base.frzs,I.base.tbls⟩,⟨m,hn.sameBut hs (QO (cne x c hc)),fun j y v' e1 e2 e3=>?_⟩,fun y c' e=>?_,I.free,I.freeC,fun p hp=>?_,tracked ⟨oc,hoc,I.freeC x c hc⟩ hs,by simpa using I.len⟩ ⟨c,hs,.inr hc⟩
  ·exact(hs.2 b (QA (QV (Qj e) (I.ok.cab x c hfn hc)))).trans (I.base.keep b o e n hb hx)
  ·obtain⟨sl,e1⟩:=I.base.slot b o e n hb hx;exact⟨sl,(hs.2 b (QA (QV (Qj e) (I.ok.cab x c hfn hc)))).trans e1⟩
  ·obtain⟨o',e1⟩:=I.base.there b o e hx;exact⟨o',(hs.2 b (QA (QV (Qj e) (I.ok.cab x c hfn hc)))).trans e1⟩
  ·by_cases hj:j=i
   ·subst hj;rw[hi] at e1;cases e1;rw[MK hiσ] at e2;cases e2;exact⟨u,r,.inr ⟨.inl hk,c,hc,hc'⟩⟩
   ·rw[M7 (QO hj)] at e2;obtain⟨u',r',q⟩:=hl j y v' e1 e2 e3;refine⟨u',r',?_⟩;rcases q with q|⟨k,c',e,z'⟩
    ·exact .inl q
    ·refine .inr ⟨k,c',e,z'.sameBut hs ?_⟩;rintro rfl;exact hj (Jdo hN e1 (I.ok.inj _ _ _ e hc▸hi))
  ·by_cases hcc:c'=c
   ·subst hcc;exact⟨_,hc'⟩
   ·obtain⟨w2,z2⟩:=I.cell y c' e;exact⟨w2,z2.sameBut hs hcc⟩
  ·obtain⟨e,n,ne,nf,d⟩:=I.pin p hp;refine⟨(hs.2 p.1 ?_).trans e,n,ne,nf,d⟩;intro q;rw[q,hoc] at e;have q':oc=p.2:=QG e;exact d w' (by rw[<- q'];exact hocd)
theorem JaB{M:Model}{A:Around}{E:Value->Shared->Prop}{i:Nat}{x:Str}{v:V}{u:Value}{Q:Unit->Shared->Prop}(I:Inv X pins σ H s)(hN:X.N.Nodup)(hi:X.N[i]?=some x)(hx:Loc X.env.scope x)(r:RelV v u)
 (h:∀s',Inv X pins (σ.set i (some v)) H s'->Q () s') (hf:X.fn x=true\/X.env.scope.names.lookup x=some .local:=by first|exact .inl rfl|exact .inr rfl|assumption):wpAny M A (storeName X.env x u) Q E s :=
 Jbs I hN hi hx r (fun s' I' _=>h s' I') hf
theorem Inv.call'{s':Shared}{ch:List Addr}(I:Inv X pins σ H s)(ho:s'.os=s.os)(u:Un (frs X.stack) ch H H' s.heap s'.heap)(hok:HOk X.prog X.w H' s'.heap)(hg:AllBare s'.gens)
 (hch:∀b∈ch,(b∈X.ex\/X.s₀.heap.objs.size<=b)/\b≠X.env.locals/\(∀x c,X.env.cells.lookup x=some c->c≠b)/\∀p∈X.pn++pins,p.1≠b):Inv X pins σ H' s':=by
 obtain⟨h',g',d',t',o'⟩:=s';have e:o'=s.os:=ho;subst e;exact I.call (g':=g') (t':=t') (d':=d') u hok hg hch
end

noncomputable abbrev XK:=Value->Option Addr->Hp->Prop
noncomputable abbrev St:=List (Option V)
noncomputable abbrev VK:=V->Hp->Prop
noncomputable abbrev TE:=St->Hp->VK->Prop
noncomputable abbrev TT:=St->Hp->(Bool->Hp->Prop)->Prop
noncomputable abbrev TA:=St->Hp->(List V->Hp->Prop)->Prop
structure Ends where
 nx:St->Hp->Prop
 rt:VK
 bk:St->Hp->Prop:=fun _ _=>False
 ct:St->Hp->Prop:=fun _ _=>False
noncomputable abbrev TS:=Ends->St->Hp->Prop

noncomputable def EP(X:Cx)(pins:List (Addr×Obj))(σ:St)(Q:VK)(u:Value)(s':Shared):Prop:=∃v H',Inv X pins σ H' s'/\RelV v u/\Q v H'
noncomputable def TP(X:Cx)(pins:List (Addr×Obj))(σ:St)(Q:Bool->Hp->Prop)(b:Bool)(s':Shared):Prop:=∃H',Inv X pins σ H' s'/\Q b H'
noncomputable def AP(X:Cx)(pins:List (Addr×Obj))(σ:St)(Q:List V->Hp->Prop)(us:List Value)(s':Shared):Prop:=∃vs H',Inv X pins σ H' s'/\Vals vs us/\Q vs H'
noncomputable def SP(X:Cx)(pins:List (Addr×Obj))(D:Ends)(f:Flow)(s':Shared):Prop :=
 match f with
 | .next=>∃σ' H',Inv X pins σ' H' s'/\D.nx σ' H'
 | .brk=>∃σ' H',Inv X pins σ' H' s'/\D.bk σ' H'
 | .cont=>∃σ' H',Inv X pins σ' H' s'/\D.ct σ' H'
 | .ret u=>∃v σ' H',Inv X pins σ' H' s'/\RelV v u/\D.rt v H'

noncomputable def PE(X:Cx)(e:Expr)(t:TE):Prop :=
 ∀(pins:List (Addr×Obj)) (s:Shared) (σ:St) (H:Hp) (Q:VK),Inv X pins σ H s->t σ H Q->wpAny (model X.prog X.w) X.A (eval e X.env) (EP X pins σ Q) X.xe s
noncomputable def PT(X:Cx)(e:Expr)(t:TT):Prop :=
 ∀(pins:List (Addr×Obj)) (s:Shared) (σ:St) (H:Hp) (Q:Bool->Hp->Prop),Inv X pins σ H s->t σ H Q->wpAny (model X.prog X.w) X.A (isTrue e X.env (eval e X.env)) (TP X pins σ Q) X.xe s
noncomputable def PW(X:Cx)(e:Expr)(t:TT):Prop :=
 ∀(whole:Sem Value) (pins:List (Addr×Obj)) (s:Shared) (σ:St) (H:Hp) (Q:Bool->Hp->Prop),Inv X pins σ H s->t σ H Q->wpAny (model X.prog X.w) X.A (isTrue e X.env whole) (TP X pins σ Q) X.xe s
theorem PW.pt{X:Cx}{e:Expr}{t:TT}(h:PW X e t):PT X e t:=h _
noncomputable def PA(X:Cx)(es:List Expr)(t:TA):Prop :=
 ∀(pos:Pos) (pins:List (Addr×Obj)) (s:Shared) (σ:St) (H:Hp) (Q:List V->Hp->Prop),Inv X pins σ H s->t σ H Q->wpAny (model X.prog X.w) X.A (spliced (backTo pos (starEach es X.env))) (AP X pins σ Q) X.xe s
noncomputable def PS(X:Cx)(st:Stmt)(t:TS):Prop :=
 ∀(pins:List (Addr×Obj)) (s:Shared) (σ:St) (H:Hp) (D:Ends),Inv X pins σ H s->t D σ H->wpAny (model X.prog X.w) X.A (exec st X.env) (SP X pins D) X.xe s
noncomputable def PSs(X:Cx)(st:List Stmt)(t:TS):Prop :=
 ∀(pins:List (Addr×Obj)) (s:Shared) (σ:St) (H:Hp) (D:Ends),Inv X pins σ H s->t D σ H->wpAny (model X.prog X.w) X.A (execs st X.env) (SP X pins D) X.xe s
theorem thn{α:Type}{t:Sem α}{Q Q':α->Shared->Prop}{M:Model}{A:Around}{E:Value->Shared->Prop}{s:Shared}(h:wpAny M A t Q E s)(hQ:∀a s,Q a s->Q' a s):wpAny M A t Q' E s:=KG h hQ fun _ _ x=>x
end L2

namespace L2
open PySem PySem.Spec PyProof.Rows
section
variable{X:Cx}

noncomputable def WE(i:Nat):TE:=fun σ H Q=>∃v,σ[i]?=some (some v)/\Q v H
noncomputable def tC(v:V):TE:=fun _ H Q=>Q v H
theorem Joa{i:Nat}{x:Str}{pos:Pos}(hN:X.N[i]?=some x)(hv:Vis X.env.scope x)(hd:(x == ("__debug__":Str))=false:=by decide)(hcd:(x == ("__classdict__":Str))=false:=by decide):PE X (.Name x pos) (WE i):=by
 intro pins s σ H Q I h;obtain⟨v,e,h⟩:=h;obtain⟨m,hn,hl⟩:=I.loc;obtain⟨u,r,l⟩:=hl i x v hN e hv;have fin:EP X pins σ Q u s:=⟨v,H,I,r,h⟩
 rcases l with ⟨hk,hm⟩|⟨hk,c,hc,hcell⟩
 ·exact wpAny_Name (wpAny_loadName_local I.ok.kind hk hn hm fin) hd
 ·rcases hk with hk|hk
  ·exact wpAny_Name (wpAny_loadName_cell I.ok.kind hk hc hcell fin) hd
  ·exact wpAny_Name (wpAny_loadName_free I.ok.kind hk hc hcell fin hcd) hd
theorem Jh{i j pos}:PE X (.Constant (.int i) j pos) (tC (.int i)):=fun _ _ _ H _ I h=>wpAny_Constant_int ⟨.int i,H,I.tok _,⟨_,rfl⟩,h⟩
theorem Jf5{b j pos}:PE X (.Constant (.bool b) j pos) (tC (.bl b)):=fun _ _ _ H _ I h=>Constant_bool ⟨.bl b,H,I,rfl,h⟩
theorem UF{j pos}:PE X (.Constant .none j pos) (tC .non):=fun _ _ _ H _ I h=>Constant_none ⟨.non,H,I,rfl,h⟩
noncomputable def Gl(X:Cx)(x:Str):Prop:=X.env.kindOf x=some .globalImplicit
theorem Jb4{E:Value->Shared->Prop}{pins:List (Addr×Obj)}{s:Shared}{σ:St}{H:Hp}{x:Str}{u:Value}{pos:Pos}{Q:Value->Shared->Prop}(I:Inv X pins σ H s)(hg:Gl X x)(hm:X.mg x=some u)(h:Q u s)
 (hd:(x == ("__debug__":Str))=false:=by decide):wpAny (model X.prog X.w) X.A (eval (.Name x pos) X.env) Q E s :=
 L5 I.ok.kind hg (Calls.loadGlobal_global (by rw[I.ok.glob];exact I.mod.glob.keeps I.bk) hm h) hd
theorem Vb{E:Value->Shared->Prop}{pins:List (Addr×Obj)}{s:Shared}{σ:St}{H:Hp}{x:Str}{u:Value}{pos:Pos}{Q:Value->Shared->Prop}(I:Inv X pins σ H s)(hg:Gl X x)(hm:X.mg x=none)(hv:bootBuiltins x=some u)(h:Q u s)
 (hn:x≠"__name__":=by decide) (hd:(x == ("__debug__":Str))=false:=by decide):wpAny (model X.prog X.w) X.A (eval (.Name x pos) X.env) Q E s:=by
 obtain⟨mb,h1,h2⟩:=I.mod.blt;exact L5 I.ok.kind hg (Calls.loadGlobal_builtin (by rw[I.ok.glob];exact I.mod.glob.keeps I.bk) hm (by rw[I.ok.blt];exact h1.keeps I.bk) ((h2 x hn).trans hv) h) hd
theorem JlA{x:Str}{v:V}{u:Value}{pos:Pos}(hg:Gl X x)(hm:X.mg x=some u)(r:RelV v u)(hd:(x == ("__debug__":Str))=false:=by decide):PE X (.Name x pos) (tC v) :=
 fun _ _ _ H _ I h=>Jb4 I hg hm ⟨v,H,I,r,h⟩ hd
theorem Jcl{x:Str}{v:V}{u:Value}{pos:Pos}(hg:Gl X x)(hm:X.mg x=none)(hv:bootBuiltins x=some u)(r:RelV v u)(hn:x≠"__name__":=by decide)(hd:(x == ("__debug__":Str))=false:=by decide):PE X (.Name x pos) (tC v) :=
 fun _ _ _ H _ I h=>Vb I hg hm hv ⟨v,H,I,r,h⟩ hn hd

variable{a b:Expr}{ta tb:TE}{pos:Pos}
variable{tA tB':TT}{rest:List Expr}
noncomputable def JoK(t u:TT):TT:=fun σ H Q=>t σ H fun c H1=>if c=true then u σ H1 Q else Q false H1
noncomputable def tOr(t u:TT):TT:=fun σ H Q=>t σ H fun c H1=>if c=true then Q true H1 else u σ H1 Q
noncomputable def Jp6(t:TT):TT:=fun σ H Q=>t σ H fun c H1=>Q (!c) H1
theorem VW(ha:PT X a tA):PW X (.BoolOp .And [a] pos) tA:=by
 intro wh pins s σ H Q I h;refine isTrue_and (thn (ha pins s σ H Q I h) fun c s1 e=>?_)
 cases c with
 | true=>exact isTrue_and_nil e
 | false=>exact e
theorem JjD(ha:PT X a tA):PW X (.BoolOp .Or [a] pos) tA:=by
 intro wh pins s σ H Q I h;refine isTrue_or (thn (ha pins s σ H Q I h) fun c s1 e=>?_)
 cases c with
 | false=>exact isTrue_or_nil e
 | true=>exact e
theorem W0(ha:PT X a tA)(hb:PW X (.BoolOp .And (b::rest) pos) tB'):PW X (.BoolOp .And (a::b::rest) pos) (JoK tA tB'):=by
 intro wh pins s σ H Q I h;refine isTrue_and (thn (ha pins s σ H _ I h) fun c s1 ⟨H1,I1,q1⟩=>?_)
 cases c with
 | true=>exact hb wh pins s1 σ H1 Q I1 q1
 | false=>exact⟨H1,I1,q1⟩
theorem JjC(ha:PT X a tA)(hb:PW X (.BoolOp .Or (b::rest) pos) tB'):PW X (.BoolOp .Or (a::b::rest) pos) (tOr tA tB'):=by
 intro wh pins s σ H Q I h;refine isTrue_or (thn (ha pins s σ H _ I h) fun c s1 ⟨H1,I1,q1⟩=>?_)
 cases c with
 | true=>exact⟨H1,I1,q1⟩
 | false=>exact hb wh pins s1 σ H1 Q I1 q1
theorem Jco(ha:PT X a tA):PT X (.UnaryOp .Not a pos) (Jp6 tA):=by intro pins s σ H Q I h;exact isTrue_not (ha pins s σ H (fun c H1=>Q (!c) H1) I h)
noncomputable def JmV(ta tb:TE):TE:=fun σ H Q=>ta σ H fun x H1=>∃c,x=.bl c/\if c=true then tb σ H1 Q else Q (.bl false) H1
theorem Jn9{op}{t:TE}(h:PE X a t):PE X (.BoolOp op [a] pos) t:=fun pins s σ H Q I hw=>BoolOp_one (h pins s σ H Q I hw)
theorem Jn6(ha:PE X a ta)(hb:PE X (.BoolOp .And (b::rest) pos) tb):PE X (.BoolOp .And (a::b::rest) pos) (JmV ta tb):=by
 intro pins s σ H Q I h;refine BoolOp_and (thn (ha pins s σ H _ I h) fun v s1 ⟨x,H1,I1,r1,q1⟩=>?_);obtain⟨c,rfl,q1⟩:=q1;cases r1;refine Kk ?_
 cases c with
 | true=>exact hb pins s1 σ H1 Q I1 q1
 | false=>exact⟨.bl false,H1,I1,rfl,q1⟩
noncomputable def tIf(t:TT)(ta tb:TE):TE:=fun σ H Q=>t σ H fun c H1=>if c=true then ta σ H1 Q else tb σ H1 Q
theorem JdB{c:Expr}(hc:PT X c tA)(ha:PE X a ta)(hb:PE X b tb):PE X (.IfExp c a b pos) (tIf tA ta tb):=by
 intro pins s σ H Q I h;refine wpAny_IfExp (thn (hc pins s σ H _ I h) fun d s1 ⟨H1,I1,q1⟩=>?_)
 cases d with
 | true=>exact ha pins s1 σ H1 Q I1 q1
 | false=>exact hb pins s1 σ H1 Q I1 q1
end
end L2

namespace L2
open PySem PySem.Spec PyProof.Rows

noncomputable def SqL(K:Frag)(H:Hp)(a:Addr)(xs:List V):Prop :=
 Rd H a (.lst xs) ∨
  ∃(o:Obj) (its:Array Value) (n:Nat),K.lookup a=some o/\o.cls=.type "list"/\o.dict=none/\o.data=.seq its n/\its.size<=sizeLine/\Vals xs its.toList
noncomputable def SqT(K:Frag)(H:Hp)(a:Addr)(xs:List V):Prop :=
 Rd H a (.tup xs) ∨
  ∃(o:Obj) (its:Array Value) (n:Nat),K.lookup a=some o/\o.cls=.type "tuple"/\o.data=.seq its n/\its.size<=sizeLine/\Vals xs its.toList
noncomputable def Jqf:Value->Option V
 | .none=>some .non
 | .bool b=>some (.bl b)
 | .int i _=>some (.int i)
 | .str x _=>some (.str x)
 | .bytes b _=>some (.byt b)
 | .float b _=>some (.flt b)
 | .ref a=>some (.ref a)
 | .type n=>some (.ty n)
 | _=>none
theorem RelV.abs{x:V}{u:Value}(r:RelV x u):Jqf u=some x:=by
 cases x with
 | non=>cases r;rfl
 | bl _=>cases r;rfl
 | int _=>obtain⟨t,rfl⟩:=r;rfl
 | str _=>obtain⟨t,rfl⟩:=r;rfl
 | byt _=>obtain⟨t,rfl⟩:=r;rfl
 | flt _=>obtain⟨t,rfl⟩:=r;rfl
 | ref _=>cases r;rfl
 | ty _=>cases r;rfl
theorem RelV.inj{x y:V}{u:Value}(r:RelV x u)(q:RelV y u):x=y:=QG (r.abs.symm.trans q.abs)
theorem Vals.inj:∀{xs ys:List V} {us:List Value},Vals xs us->Vals ys us->xs=ys
 | _,_,_,.nil,.nil=>rfl
 | _,_,_,.cons r t,.cons r' t'=>by rw[r.inj r',Vals.inj t t']
section
variable{X:Cx}{pins:List (Addr×Obj)}{σ:St}{H:Hp}{s:Shared}{a:Addr}{xs ys:List V}
theorem SqL.of{K:Frag}(h:H a=some (.lst xs)):SqL K H a xs:=.inl (.inl h)
theorem SqT.of{K:Frag}(h:H a=some (.tup xs)):SqT K H a xs:=.inl (.inl h)
theorem Inv.list(I:Inv X pins σ H s)(h:SqL X.K H a xs):∃its:List Value,Vals xs its/\PlainL s.heap a its.toArray/\xs.length<=sizeLine:=by
 rcases h with h|⟨o,its,n,hk,hc,hd,hs,hz,r⟩
 ·obtain⟨z,its,n,r,e⟩:=h.ok I.hok;exact⟨its,r,⟨_,n,e,rfl,rfl,rfl⟩,z⟩
 ·refine⟨its.toList,r,⟨o,n,I.kIn a o hk,hc,hd,by simpa using hs⟩,?_⟩;have e:=r.length;simp only[Gs] at e;omega
theorem Inv.tuple(I:Inv X pins σ H s)(h:SqT X.K H a xs):∃its:List Value,Vals xs its/\IsTup s.heap a its.toArray/\xs.length<=sizeLine:=by
 rcases h with h|⟨o,its,n,hk,hc,hs,hz,r⟩
 ·obtain⟨z,its,r,p⟩:=h.ok I.hok;exact⟨its,r,p,z⟩
 ·refine⟨its.toList,r,⟨o,I.kIn a o hk,hc,n,by simpa using hs⟩,?_⟩;have e:=r.length;simp only[Gs] at e;omega
theorem Inv.list_inj(I:Inv X pins σ H s)(h:SqL X.K H a xs)(h':SqL X.K H a ys):xs=ys:=by
 obtain⟨its,r,⟨o,n,e,_,_,d⟩,_⟩:=I.list h;obtain⟨its',r',⟨o',n',e',_,_,d'⟩,_⟩:=I.list h';rw[e] at e';cases e';rw[d] at d'
 injection d' with d1 _
 have:its=its':=by simpa using congrArg Array.toList d1
 subst this;exact r.inj r'
theorem Inv.tuple_inj(I:Inv X pins σ H s)(h:SqT X.K H a xs)(h':SqT X.K H a ys):xs=ys:=by
 obtain⟨its,r,⟨o,e,_,n,d⟩,_⟩:=I.tuple h;obtain⟨its',r',⟨o',e',_,n',d'⟩,_⟩:=I.tuple h';rw[e] at e';cases e';rw[d] at d'
 injection d' with d1 _
 have:its=its':=by simpa using congrArg Array.toList d1
 subst this;exact r.inj r'
end

noncomputable abbrev Cx.wish(X:Cx)(E:Value->Shared->Prop):Cx:={ X with xe:=E }
noncomputable abbrev Cx.nox(X:Cx):Cx:=X.wish fun _ _=>False
theorem Cx.Ok.wish{X:Cx}(ok:X.Ok)(E:Value->Shared->Prop):(X.wish E).Ok :=
 ⟨ok.mod,ok.kind,ok.glob,ok.blt,ok.above,ok.inj,ok.has,ok.cab,ok.hd,ok.frames,ok.stk,ok.exf,ok.bs,ok.bsz,ok.noex,ok.exfs,ok.funs,ok.frf⟩
theorem Cx.Ok.unwish{X:Cx}{E:Value->Shared->Prop}(ok:(X.wish E).Ok):X.Ok :=
 ⟨ok.mod,ok.kind,ok.glob,ok.blt,ok.above,ok.inj,ok.has,ok.cab,ok.hd,ok.frames,ok.stk,ok.exf,ok.bs,ok.bsz,ok.noex,ok.exfs,ok.funs,ok.frf⟩
section
variable{X:Cx}{pins:List (Addr×Obj)}{σ:St}{H:Hp}{s:Shared}{E:Value->Shared->Prop}
theorem Inv.wish(I:Inv X pins σ H s)(E:Value->Shared->Prop):Inv (X.wish E) pins σ H s:=⟨I.ok.wish E,I.os,I.bare,I.base,I.loc,I.cell,I.free,I.freeC,I.pin,I.hok,I.len⟩
theorem Inv.unwish(I:Inv (X.wish E) pins σ H s):Inv X pins σ H s:=⟨I.ok.unwish,I.os,I.bare,I.base,I.loc,I.cell,I.free,I.freeC,I.pin,I.hok,I.len⟩
theorem SP.unwish{D:Ends}{f:Flow}{s':Shared}(h:SP (X.wish E) pins D f s'):SP X pins D f s':=by
 cases f with
 | next=>obtain⟨σ',H',I,q⟩:=h;exact⟨σ',H',I.unwish,q⟩
 | brk=>obtain⟨σ',H',I,q⟩:=h;exact⟨σ',H',I.unwish,q⟩
 | cont=>obtain⟨σ',H',I,q⟩:=h;exact⟨σ',H',I.unwish,q⟩
 | ret u=>obtain⟨v,σ',H',I,r,q⟩:=h;exact⟨v,σ',H',I.unwish,r,q⟩
theorem PSs.nox{st:List Stmt}{t:TS}(h:PSs X.nox st t):PSs X st t:=fun pins s σ H D I hw=>KG (h pins s σ H D (I.wish _) hw) (fun _ _ q=>q.unwish) fun _ _ z=>G4 z
end

section
variable{X:Cx}{st:Stmt}{rest:List Stmt}{t u:TS}{e:Expr}{te:TE}{pos:Pos}
noncomputable def Jka:TS:=fun D σ H=>D.nx σ H
noncomputable def JoO(t u:TS):TS:=fun D σ H=>t { D with nx:=u D } σ H
theorem Yj:PSs X [] Jka:=fun _ _ σ H _ I h=>LJ ⟨σ,H,I,h⟩
theorem Jf(h1:PS X st t)(h2:PSs X rest u):PSs X (st::rest) (JoO t u):=by
 intro pins s σ H D I h;refine wpAny_execs_cons (thn (h1 pins s σ H { D with nx:=u D } I h) fun f s1 q=>?_)
 cases f with
 | next=>obtain⟨σ',H',I',q⟩:=q;exact h2 pins s1 σ' H' D I' q
 | ret v=>exact q
 | brk=>exact q
 | cont=>exact q
theorem Jl(h1:PS X st t):PSs X [st] t:=by
 intro pins s σ H D I h;refine wpAny_execs_cons (thn (h1 pins s σ H D I h) fun f s1 q=>?_)
 cases f with
 | next=>exact LJ q
 | ret v=>exact q
 | brk=>exact q
 | cont=>exact q
theorem Inv.quiet{pins:List (Addr×Obj)}{σ:St}{H:Hp}{s:Shared}(I:Inv X pins σ H s):interactive X.env=false:=by simp[interactive,I.ok.kind]
noncomputable def JaC(te:TE):TS:=fun D σ H=>te σ H fun _ H1=>D.nx σ H1
theorem Yr(he:PE X e te)(hs:swapsWith e none pos.line X.env=pure false:=by rfl):PS X (.Expr e pos) (JaC te):=by intro pins s σ H D I h;exact wpAny_Expr_any (thn (he pins s σ H _ I h) fun v s1 ⟨x,H1,I1,r1,q1⟩=>⟨σ,H1,I1,q1⟩) I.quiet hs
noncomputable def JoN(te:TE):TS:=fun D σ H=>te σ H D.rt
theorem JN(he:PE X e te):PS X (.Return (some e) pos) (JoN te):=by intro pins s σ H D I h;exact wpAny_Return_some (thn (he pins s σ H _ I h) fun v s1 ⟨x,H1,I1,r1,q1⟩=>⟨x,σ,H1,I1,r1,q1⟩)
noncomputable def Jmj(c:TT)(t u:TS):TS:=fun D σ H=>c σ H fun b H1=>if b=true then t D σ H1 else u D σ H1
theorem Uj{c:Expr}{a b:List Stmt}{tc:TT}(hc:PT X c tc)(ha:PSs X a t)(hb:PSs X b u):PS X (.If c a b pos) (Jmj tc t u):=by
 intro pins s σ H D I h;refine wpAny_If (thn (hc pins s σ H _ I h) fun d s1 ⟨H1,I1,q1⟩=>?_)
 cases d with
 | true=>exact ha pins s1 σ H1 D I1 q1
 | false=>exact hb pins s1 σ H1 D I1 q1
noncomputable def Jj9:TS:=fun _ _ _=>False
theorem UB:PS X st Jj9:=fun _ _ _ _ _ _ h=>h.elim
end

noncomputable abbrev TG:=V->St->Hp->(St->Hp->Prop)->Prop
noncomputable abbrev TGs:=List V->St->Hp->(St->Hp->Prop)->Prop
noncomputable def PG(X:Cx)(target:Expr)(t:TG):Prop :=
 ∀(pins:List (Addr×Obj)) (s:Shared) (σ:St) (H:Hp) (v:V) (u:Value) (Q:St->Hp->Prop),Inv X pins σ H s->RelV v u->t v σ H Q ->
  wpAny (model X.prog X.w) X.A (assign target X.env u) (fun _ s'=>∃σ' H',Inv X pins σ' H' s'/\Q σ' H') X.xe s
noncomputable def PGs(X:Cx)(ts:List Expr)(t:TGs):Prop :=
 ∀(pins:List (Addr×Obj)) (s:Shared) (σ:St) (H:Hp) (vs:List V) (us:List Value) (Q:St->Hp->Prop),Inv X pins σ H s->Vals vs us->t vs σ H Q ->
  wpAny (model X.prog X.w) X.A (assignInOrder ((assignEach ts X.env).map (·.2)) us) (fun _ s'=>∃σ' H',Inv X pins σ' H' s'/\Q σ' H') X.xe s
noncomputable abbrev TIp:=V->V->Hp->VK->Prop
noncomputable def PIp(X:Cx)(op:Operator)(t:TIp):Prop :=
 ∀(pins:List (Addr×Obj)) (s:Shared) (σ:St) (H:Hp) (x y:V) (v u:Value) (Q:VK),Inv X pins σ H s->RelV x v->RelV y u->t x y H Q ->
  wpAny (model X.prog X.w) X.A (inplaceOp op v u) (EP X pins σ Q) X.xe s
section
variable{X:Cx}{pos:Pos}
noncomputable def V1(i:Nat):TG:=fun v σ H Q=>Q (σ.set i (some v)) H
theorem Jj{i:Nat}{x:Str}(hN:X.N.Nodup)(hi:X.N[i]?=some x)(hx:Loc X.env.scope x)(hf:X.fn x=true\/X.env.scope.names.lookup x=some .local:=by first|exact .inl rfl|exact .inr rfl|assumption):PG X (.Name x pos) (V1 i):=by intro pins s σ H v u Q I r h;exact wpAny_assign_Name (JaB I hN hi hx r (fun s' I'=>⟨_,H,I',h⟩) hf)
noncomputable def Jk1:TGs:=fun vs σ H Q=>vs=[]/\Q σ H
noncomputable def JfH(t:TG)(u:TGs):TGs:=fun vs σ H Q=>∃v r,vs=v::r/\t v σ H fun σ' H'=>u r σ' H' Q
theorem JG:PGs X [] Jk1:=by intro pins s σ H vs us Q I r h;obtain⟨e,h⟩:=h;subst e;cases r;exact assignInOrder_nil ⟨σ,H,I,h⟩
theorem Jg{e:Expr}{es:List Expr}{t:TG}{u:TGs}(h1:PG X e t)(h2:PGs X es u)
 (hs:(assignEach (e::es) X.env).map (·.2)=assign e X.env::(assignEach es X.env).map (·.2):=by rfl):PGs X (e::es) (JfH t u):=by
 intro pins s σ H vs us Q I r h;obtain⟨v,vr,e1,h⟩:=h;subst e1
 cases r with
 | cons r rr=>rw[hs];refine assignInOrder_cons (thn (h1 pins s σ H _ _ _ I r h) fun _ s1 ⟨σ1,H1,I1,q1⟩=>?_);exact h2 pins s1 σ1 H1 _ _ Q I1 rr q1
noncomputable def Jg0(K:Frag)(n:Nat)(t:TGs):TG:=fun v σ H Q=>∃a xs,v=.ref a/\SqT K H a xs/\xs.length=n/\t xs σ H Q
theorem Job{es:List Expr}{k:Nat}{t:TGs}{n:Nat}(hc:X.calm=true)(h:PGs X es t)
 (hn:(assignEach es X.env).length=n:=by rfl) (hst:(assignEach es X.env).findIdx? (·.1)=none:=by rfl):PG X (.Tuple es k pos) (Jg0 X.K n t):=by
 intro pins s σ H v u Q I r hw;obtain⟨a,xs,e1,hq,hl,hw⟩:=hw;subst e1;cases r;obtain⟨its,rv,ht,hz⟩:=I.tuple hq;refine assign_Tuple_tuple (I.ok.hd hc) ht (by simp[hn,<- hl,rv.length]) hst fun h' hx=>?_
 have I1:Inv X pins σ H { s with heap:=h' }:=I.kept (t':=s.toks) fun b o e=>hx b o (QA (Qj e)) e
 exact h pins _ σ H xs _ Q I1 (by simpa using rv) hw
noncomputable def JhG(te:TE)(g:TG):TS:=fun D σ H=>te σ H fun x H1=>g x σ H1 D.nx
theorem Jv{i:Nat}{x:Str}{e:Expr}{te:TE}{pos':Pos}(hN:X.N.Nodup)(hi:X.N[i]?=some x)(hx:Loc X.env.scope x)(he:PE X e te)(hs:swapsWith e (some (.Name x pos')) pos.line X.env=pure false:=by rfl)(hf:X.fn x=true\/X.env.scope.names.lookup x=some .local:=by first|exact .inl rfl|exact .inr rfl|assumption) :
 PS X (.Assign [.Name x pos'] e pos) (JhG te (V1 i)):=by
 intro pins s σ H D I h;refine wpAny_Assign_Name (thn (he pins s σ H _ I h) fun v s1 ⟨y,H1,I1,r1,q1⟩=>?_) hs;exact JaB I1 hN hi hx r1 (fun s2 I2=>⟨_,H1,I2,q1⟩) hf
noncomputable def Jp5(i:Nat)(te:TE)(ti:TIp):TS:=fun D σ H=>∃x,σ[i]?=some (some x)/\te σ H fun y H1=>ti x y H1 fun z H2=>D.nx (σ.set i (some z)) H2
theorem Jju{i:Nat}{x:Str}{e:Expr}{te:TE}{op:Operator}{ti:TIp}{pos':Pos}(hN:X.N.Nodup)(hi:X.N[i]?=some x)(hx:Loc X.env.scope x)(he:PE X e te)(ho:PIp X op ti)(hf:X.fn x=true\/X.env.scope.names.lookup x=some .local:=by first|exact .inl rfl|exact .inr rfl|assumption) :
 PS X (.AugAssign (.Name x pos') op e pos) (Jp5 i te ti):=by
 intro pins s σ H D I h;obtain⟨v,e1,h⟩:=h;obtain⟨m,hn,hl⟩:=I.loc;have vis:Vis X.env.scope x:=by rcases hx with k|k;exact .inl k;exact .inr (.inl k)
 obtain⟨u,r,l⟩:=hl i x v hi e1 vis;refine wpAny_AugAssign_Name ?_
 have go:wpAny (model X.prog X.w) X.A (eval e X.env) (fun w s₂=>wpAny (model X.prog X.w) X.A (inplaceOp op u w) (fun r s₃=>wpAny (model X.prog X.w) X.A (storeName X.env x r) (fun _=>SP X pins D .next) X.xe s₃) X.xe s₂) X.xe s:=by
  refine thn (he pins s σ H _ I h) fun w s1 ⟨y,H1,I1,r1,q1⟩=>?_
  refine thn (ho pins s1 σ H1 v y u w _ I1 r r1 q1) fun z s2 ⟨zv,H2,I2,r2,q2⟩=>?_
  exact JaB I2 hN hi hx r2 (fun s3 I3=>⟨_,H2,I3,q2⟩) hf
 rcases l with ⟨hk,hm⟩|⟨hk,c,hc,hcell⟩
 ·exact wpAny_loadName_local I.ok.kind hk hn hm go
 ·rcases hk with hk|hk
  ·exact wpAny_loadName_cell I.ok.kind hk hc hcell go
  ·rcases hx with k|k
   ·have:X.env.scope.names.lookup x=some .free:=hk;rw[k] at this;cases this
   ·have:X.env.scope.names.lookup x=some .free:=hk;rw[k] at this;cases this
noncomputable def ipI(f:Int->Int->Int):TIp:=fun x y H Q=>∃i j,x=.int i/\y=.int j/\Q (.int (f i j)) H
theorem Jnq:PIp X .Add (ipI fun i j=>i+j):=by intro pins s σ H x y v u Q I r1 r2 h;obtain⟨i,j,e1,e2,q⟩:=h;subst e1;subst e2;obtain⟨t,rfl⟩:=r1;obtain⟨t',rfl⟩:=r2;exact iadd_int ⟨.int _,H,I.tok _,⟨_,rfl⟩,q⟩
theorem Jnr:PIp X .Sub (ipI fun i j=>i-j):=by intro pins s σ H x y v u Q I r1 r2 h;obtain⟨i,j,e1,e2,q⟩:=h;subst e1;subst e2;obtain⟨t,rfl⟩:=r1;obtain⟨t',rfl⟩:=r2;exact isub_int ⟨.int _,H,I.tok _,⟨_,rfl⟩,q⟩
end

section
variable{X:Cx}{pos:Pos}
noncomputable def Jkc(c:TT)(tb:TS):TS:=fun D σ H=>∃W:Nat->St->Hp->Prop,(∃m,W m σ H)/\∀m σ H,W m σ H ->
 c σ H fun b H1=>if b=true then ∃N:St->Hp->Prop,(∀σ' H',N σ' H'->∃m',m'<m/\W m' σ' H')/\tb { D with nx:=N,ct:=N,bk:=D.nx } σ H1 else D.nx σ H1
theorem JdF{c:Expr}{body:List Stmt}{tc:TT}{tb:TS}(hp:PassesOwn (model X.prog X.w) X.A X.env X.xe)(hc:PT X c tc)(hb:PSs X body tb):PS X (.While c body [] pos) (Jkc tc tb):=by
 intro pins s σ H D I h;obtain⟨W,⟨m0,w0⟩,turn⟩:=h;refine wpAny_While (codeAny_whileLoop (fun n s'=>∃σ' H',Inv X pins σ' H' s'/\W n σ' H') ?_ m0 ⟨σ,H,I,w0⟩);rintro n s1 ⟨σ1,H1,I1,w1⟩;refine Kh hp (thn (hc pins s1 σ1 H1 _ I1 (turn n σ1 H1 w1)) fun b s2 ⟨H2,I2,q2⟩=>?_)
 cases b with
 | true =>
  obtain⟨N,hN,q2⟩:=q2;rw[if_pos rfl];refine Kh hp (thn (hb pins s2 σ1 H2 _ I2 q2) fun f s3 q3=>?_)
  cases f with
  | next=>obtain⟨σ3,H3,I3,n3⟩:=q3;obtain⟨m',hm,w3⟩:=hN σ3 H3 n3;exact⟨m',hm,σ3,H3,I3,w3⟩
  | cont=>obtain⟨σ3,H3,I3,n3⟩:=q3;obtain⟨m',hm,w3⟩:=hN σ3 H3 n3;exact⟨m',hm,σ3,H3,I3,w3⟩
  | brk=>exact q3
  | ret v=>exact q3
 | false=>rw[if_neg Qt];exact LJ ⟨σ1,H2,I2,q2⟩
end

structure It where
 go:Nat->Hp->Prop
 yld:Nat->Hp->V->Hp->Prop
 stop:Nat->Hp->Prop
noncomputable def FpOk(X:Cx)(pins:List (Addr×Obj))(H:Hp)(b:Addr):Prop :=
 H b=none/\b≠X.env.locals/\b∉X.fs/\(b∈X.ex\/X.s₀.heap.objs.size<=b)/\(∀x c,X.env.cells.lookup x=some c->c≠b)/\∀p∈X.pn++pins,p.1≠b
theorem Inv.fpOk{X:Cx}{pins:List (Addr×Obj)}{σ:St}{H H':Hp}{s:Shared}{b:Addr}(I:Inv X pins σ H s)(hb:s.heap.objs.size<=b)(hn:H' b=none):FpOk X pins H' b:=by
 refine⟨hn,Q1 (QV I.lt hb),I.nofs hb,.inr (Gi I.sz hb),fun x c e z=>?_,fun p hp z=>?_⟩
 ·obtain⟨v,q⟩:=I.cell x c e;exact absurd (QV q.lt (by rw[z];exact hb)) (QZ _)
 ·exact absurd (QV (Qj (I.pin p hp).1) (by rw[z];exact hb)) (QZ _)
structure Turn (P:Program) (w:World) (K:Frag) (tg:Expr) (J:It) (fp:List Addr) (it:Addr) (tn:Nat->Heap->Prop):Prop where
 mem:it∈fp
 obj:∀i h,tn i h->∀b∈fp,∃o,h.get? b=some o/\∀v,o.data≠.cell v
 keep:∀i h h',tn i h->(∀b∈fp,∀o,h.get? b=some o->h'.get? b=some o)->tn i h'
 item:∀(X:Cx),X.prog=P->X.w=w->X.K=K->X.calm=true->∀(i:Nat) (pins:List (Addr×Obj)) (s:Shared) (σ:St) (H:Hp) (E:Value->Shared->Prop),Inv X pins σ H s->(∀b∈fp,FpOk X pins H b)->tn i s.heap->J.go i H ->
  wpAny (model P w) X.A (pyNext (.ref it)) (fun r s1=>∃u,r=some u ∧
   wpAny (model P w) X.A (letOwnedTupleGo tg (.ref it) u) (fun _ s2=>∃x H',Inv X pins σ H' s2/\RelV x u/\J.yld i H x H'/\tn (i+1) s2.heap/\∀b∈fp,H' b=none) E s1) E s
 done:∀(X:Cx),X.prog=P->X.w=w->X.K=K->X.calm=true->∀(i:Nat) (pins:List (Addr×Obj)) (s:Shared) (σ:St) (H:Hp) (E:Value->Shared->Prop),Inv X pins σ H s->(∀b∈fp,FpOk X pins H b)->tn i s.heap->J.stop i H ->
  wpAny (model P w) X.A (pyNext (.ref it)) (fun r s1=>r=none/\Inv X pins σ H s1) E s
 self:∀(A:Around) (i:Nat) (s:Shared) (Q:Value->Shared->Prop) (E:Value->Shared->Prop),tn i s.heap->Q (.ref it) s->wpAny (model P w) A (pyIter (.ref it)) Q E s
noncomputable abbrev TI:=St->Hp->(It->Hp->Prop)->Prop
noncomputable def PIE(X:Cx)(pins:List (Addr×Obj))(σ:St)(tg:Expr)(R:It->Hp->Prop)(itv:Value)(s2:Shared):Prop :=
 ∃(it:Addr) (fp:List Addr) (tn:Nat->Heap->Prop) (J:It) (H':Hp),itv=.ref it/\Inv X pins σ H' s2/\Turn X.prog X.w X.K tg J fp it tn/\tn 0 s2.heap/\(∀b∈fp,FpOk X pins H' b)/\R J H'
noncomputable def PI(X:Cx)(tg iter:Expr)(wi:TI):Prop :=
 ∀(pins:List (Addr×Obj)) (s:Shared) (σ:St) (H:Hp) (R:It->Hp->Prop),Inv X pins σ H s->wi σ H R ->
  wpAny (model X.prog X.w) X.A (eval iter X.env) (fun v s1=>wpAny (model X.prog X.w) X.A (pyIter v) (PIE X pins σ tg R) X.xe s1) X.xe s

theorem Jc2{M:Model}{A:Around}{E:Value->Shared->Prop}{s:Shared}{tg:Expr}{it:Addr}{u:Value}{o:Obj}{n:String}{vs:Array Value}{Q:Unit->Shared->Prop}(ho:s.heap.get? it=some o)(hc:o.cls=.type n)(hd:o.data=.fields vs)
 (hn:["enumerate","zip","dict_itemiterator","dict_reverseitemiterator","odict_iterator","itertools.zip_longest","itertools.pairwise"].contains n=false) (hQ:Q () s):wpAny M A (letOwnedTupleGo tg (.ref it) u) Q E s:=by
 unfold letOwnedTupleGo;cases tg <;> first
  | exact Qg hQ
  | (cases u <;> first
   | exact Qg hQ
   | (refine Qa (wpAny_load ho ?_)
      rw[hc,hd];show wpAny M A (if (["enumerate","zip","dict_itemiterator","dict_reverseitemiterator","odict_iterator","itertools.zip_longest","itertools.pairwise"].contains n && vs[0]? == some (rawInt _))=true then _ else _) Q E s;rw[if_neg (by intro h;rw[hn,Bool.false_and] at h;cases h)];exact Qg hQ))

noncomputable def Itl(K:Frag)(a:Addr):It :=
 ⟨fun i H=>∃xs x,SqL K H a xs/\xs[i]?=some x,fun i H x H'=>H'=H/\∀xs,SqL K H a xs->xs[i]?=some x,fun i H=>∃xs,SqL K H a xs/\xs.length<=i⟩
noncomputable def Itt(K:Frag)(a:Addr):It :=
 ⟨fun i H=>∃xs x,SqT K H a xs/\xs[i]?=some x,fun i H x H'=>H'=H/\∀xs,SqT K H a xs->xs[i]?=some x,fun i H=>∃xs,SqT K H a xs/\xs.length<=i⟩
noncomputable def Itr(lo:Int)(n:Nat):It:=⟨fun i _=>i<n,fun i H x H'=>H'=H/\x=.int (lo+i),fun i _=>n<=i⟩
theorem JhH{P:Program}{w:World}{K:Frag}{tg:Expr}(a it:Addr):Turn P w K tg (Itl K a) [it] it (fun i h=>h.IsListIter it a i) where
 mem:=by simp
 obj:=fun i h st b hb=>by
  have e:b=it:=by simpa using hb
  subst e;obtain⟨o,e,c,d⟩:=st;exact⟨o,e,fun v z=>by rw[d] at z;cases z⟩
 keep:=fun i h h' st k=>st.at fun o e=>k it (by simp) o e
 item:=by
  intro X hP hw hK hc i pins s σ H E I hf st hg;subst hP hw hK;obtain⟨xs,x,hq,hx⟩:=hg;obtain⟨its,rv,p,hz⟩:=I.list hq;obtain⟨u,hu,ru⟩:=rv.get hx;obtain⟨f0,f1,f2,f3,f4,f5⟩:=hf it (by simp);refine wpAny_pyNext_list_item st p.isList (x:=u) (by simpa using hu) fun h' st' sb=>?_
  have I1:Inv X pins σ H { s with heap:=h' }:=I.turned (t':=s.toks) (fun b o hb e=>(sb.2 b hb).trans e) f0 f1 f3 f4 f5;obtain⟨o,e,c,d⟩:=id st';exact⟨u,rfl,Jc2 (s:={ s with heap:=h' }) e c d (by decide) ⟨x,H,I1,ru,⟨rfl,fun ys hy=>by rw[I.list_inj hy hq];exact hx⟩,st',fun b hb=>(hf b hb).1⟩⟩
 done:=by intro X hP hw hK hc i pins s σ H E I hf st hg;subst hP hw hK;obtain⟨xs,hq,hx⟩:=hg;obtain⟨its,rv,p,hz⟩:=I.list hq;obtain⟨f0,f1,f2,f3,f4,f5⟩:=hf it (by simp);have hl:=rv.length;exact wpAny_pyNext_list_end (I.ok.hd hc) st p.isList (by simp;omega) fun h' eb=>⟨rfl,I.turned (t':=s.toks) (fun b o hb e=>eb b o hb e) f0 f1 f3 f4 f5⟩
 self:=fun _ _ _ _ _ st h=>wpAny_pyIter_listiter st h
theorem Je9{P:Program}{w:World}{K:Frag}{tg:Expr}(a it:Addr):Turn P w K tg (Itt K a) [it] it (fun i h=>h.IsTupleIter it a i) where
 mem:=by simp
 obj:=fun i h st b hb=>by
  have e:b=it:=by simpa using hb
  subst e;obtain⟨o,e,c,d⟩:=st;exact⟨o,e,fun v z=>by rw[d] at z;cases z⟩
 keep:=fun i h h' st k=>st.at fun o e=>k it (by simp) o e
 item:=by
  intro X hP hw hK hc i pins s σ H E I hf st hg;subst hP hw hK;obtain⟨xs,x,hq,hx⟩:=hg;obtain⟨its,rv,p,hz⟩:=I.tuple hq;obtain⟨u,hu,ru⟩:=rv.get hx;obtain⟨f0,f1,f2,f3,f4,f5⟩:=hf it (by simp);refine wpAny_pyNext_tuple_item st (show s.heap.IsTuple a its.toArray from p) (x:=u) (by simpa using hu) fun h' st' sb=>?_
  have I1:Inv X pins σ H { s with heap:=h' }:=I.turned (t':=s.toks) (fun b o hb e=>(sb.2 b hb).trans e) f0 f1 f3 f4 f5;obtain⟨o,e,c,d⟩:=id st';exact⟨u,rfl,Jc2 (s:={ s with heap:=h' }) e c d (by decide) ⟨x,H,I1,ru,⟨rfl,fun ys hy=>by rw[I.tuple_inj hy hq];exact hx⟩,st',fun b hb=>(hf b hb).1⟩⟩
 done:=by intro X hP hw hK hc i pins s σ H E I hf st hg;subst hP hw hK;obtain⟨xs,hq,hx⟩:=hg;obtain⟨its,rv,p,hz⟩:=I.tuple hq;obtain⟨f0,f1,f2,f3,f4,f5⟩:=hf it (by simp);have hl:=rv.length;exact wpAny_pyNext_tuple_end (I.ok.hd hc) st (show s.heap.IsTuple a its.toArray from p) (by simp;omega) fun h' eb=>⟨rfl,I.turned (t':=s.toks) (fun b o hb e=>eb b o hb e) f0 f1 f3 f4 f5⟩
 self:=fun _ _ _ _ _ st h=>wpAny_pyIter_tupleiter st h
theorem Je8{P:Program}{w:World}{K:Frag}{tg:Expr}(it:Addr)(lo:Int)(n:Nat):Turn P w K tg (Itr lo n) [it] it (fun i h=>IsRangeIter h it (lo+(i:Nat)*1) ((n:Int)-(i:Nat)) 1) where
 mem:=by simp
 obj:=fun i h st b hb=>by
  have e:b=it:=by simpa using hb
  subst e;exact⟨_,st,fun v z=>by have z':Data.fields _=Data.cell v:=z;cases z'⟩
 keep:=fun i h h' st k=>k it (by simp) _ st
 item:=by
  intro X hP hw hK hc i pins s σ H E I hf st hg;subst hP hw hK;obtain⟨f0,f1,f2,f3,f4,f5⟩:=hf it (by simp);have W:=Walks.range (prog:=X.prog) (w:=X.w) (I.ok.hd hc) it lo 1 n;refine W.item i s _ _ hg st fun v h' tk hv st' kk=>?_
  obtain⟨t,rfl⟩:=hv;have I1:Inv X pins σ H { s with heap:=h',toks:=tk }:=I.turned (fun b o hb e=>kk b o (by simpa using hb) e) f0 f1 f3 f4 f5;refine⟨_,rfl,Jc2 (s:={ s with heap:=h',toks:=tk }) (n:="range_iterator") st' rfl rfl (by decide) ⟨.int (lo+i),H,I1,⟨t,?_⟩,⟨rfl,rfl⟩,st',fun b hb=>(hf b hb).1⟩⟩;rw[Int.mul_one]
 done:=by intro X hP hw hK hc i pins s σ H E I hf st hg;subst hP hw hK;obtain⟨f0,f1,f2,f3,f4,f5⟩:=hf it (by simp);exact wpAny_pyNext_range_end (I.ok.hd hc) st (by have:n<=i:=hg;omega) fun h' eb=>⟨rfl,I.turned (t':=s.toks) (fun b o hb e=>eb b o hb e) f0 f1 f3 f4 f5⟩
 self:=fun _ _ _ _ _ st h=>wpAny_pyIter_rangeiter st h
end L2

namespace L2
open PySem PySem.Spec PyProof.Rows
section
variable{X:Cx}{tg:Expr}
noncomputable def JmJ(K:Frag)(tl:TE):TI:=fun σ H R=>tl σ H fun x H1=>∃a,x=.ref a/\(∃xs,SqL K H1 a xs)/\R (Itl K a) H1
noncomputable def Jpo(K:Frag)(tl:TE):TI:=fun σ H R=>tl σ H fun x H1=>∃a,x=.ref a/\(∃xs,SqT K H1 a xs)/\R (Itt K a) H1
theorem JlC{l:Expr}{tl:TE}(hl:PE X l tl):PI X tg l (JmJ X.K tl):=by
 intro pins s σ H R I h;refine thn (hl pins s σ H _ I h) fun v s1 ⟨x,H1,I1,r1,q1⟩=>?_
 obtain⟨a,e,⟨xs,hq⟩,q⟩:=q1;subst e;cases r1;obtain⟨its,rv,p,hz⟩:=I1.list hq;refine Mo p.isList ?_;refine⟨s1.heap.objs.size,[s1.heap.objs.size],_,_,H1,rfl,I1.kept (t':=s1.toks) fun b o e=>Qf _ e,JhH a _,⟨_,Qi _ rfl,rfl,rfl⟩,fun b hb=>?_,q⟩;have e:b=s1.heap.objs.size:=by simpa using hb
 subst e;exact I1.fpOk (Qm _) (I1.hok.fresh (Qm _))
theorem Jod{l:Expr}{tl:TE}(hl:PE X l tl):PI X tg l (Jpo X.K tl):=by
 intro pins s σ H R I h;refine thn (hl pins s σ H _ I h) fun v s1 ⟨x,H1,I1,r1,q1⟩=>?_
 obtain⟨a,e,⟨xs,hq⟩,q⟩:=q1;subst e;cases r1;obtain⟨its,rv,p,hz⟩:=I1.tuple hq;refine L6 (show s1.heap.IsTuple a its.toArray from p) ?_;refine⟨s1.heap.objs.size,[s1.heap.objs.size],_,_,H1,rfl,I1.kept (t':=s1.toks) fun b o e=>Qf _ e,Je9 a _,⟨_,Qi _ rfl,rfl,rfl⟩,fun b hb=>?_,q⟩;have e:b=s1.heap.objs.size:=by simpa using hb
 subst e;exact I1.fpOk (Qm _) (I1.hok.fresh (Qm _))
theorem JjJ{pins:List (Addr×Obj)}{σ:St}{H:Hp}{s:Shared}{R:It->Hp->Prop}{E:Value->Shared->Prop}{lo hi:Int}{t u v:Tok}{tk:Nat}(I:Inv X pins σ H s)(h1:-(2 ^ 62)<=lo)(h2:lo<2 ^ 62)(h3:-(2 ^ 62)<=hi)(h4:hi<2 ^ 62)
 (q:R (Itr lo (hi-lo).toNat) H):wpAny (model X.prog X.w) X.A (pyIter (.ref s.heap.objs.size)) (PIE X pins σ tg R) E { s with heap:=s.heap.push { cls:=.type "range",data:=.fields #[.int lo t,.int hi u,.int 1 v] },toks:=tk }:=by
 refine wpAny_pyIter_range (IsRange.new ..) (small_one h1 h2 h3 h4) ?_;have I1:Inv X pins σ H { s with heap:=s.heap.push { cls:=.type "range",data:=.fields #[.int lo t,.int hi u,.int 1 v] },toks:=tk }:=I.kept fun b o e=>Qf _ e
 refine⟨(s.heap.push { cls:=.type "range",data:=.fields #[.int lo t,.int hi u,.int 1 v] }).objs.size,[(s.heap.push { cls:=.type "range",data:=.fields #[.int lo t,.int hi u,.int 1 v] }).objs.size],_,_,H,rfl,
  I1.kept (t':=tk) fun b o e=>Qf _ e,Je8 _ lo (hi-lo).toNat,?_,fun b hb=>?_,q⟩
 ·have e1:lo+((0:Nat):Int)*1=lo:=by simp
  have e2:(((hi-lo).toNat:Nat):Int)-((0:Nat):Int)=Builtin.Range.rangeSize lo hi 1:=by rw[rangeSize_one];split <;> omega
  show IsRangeIter _ _ (lo+((0:Nat):Int)*1) ((((hi-lo).toNat:Nat):Int)-((0:Nat):Int)) 1;rw[e1,e2];exact Qi _ rfl
 ·have e:b=(s.heap.push { cls:=.type "range",data:=.fields #[.int lo t,.int hi u,.int 1 v] }).objs.size:=by simpa using hb
  subst e;exact I1.fpOk (Qm _) (I1.hok.fresh (Qm _))
noncomputable def JmK(ta:TA):TI:=fun σ H R=>ta σ H fun vs H1=>∃j:Int,vs=[.int j]/\-(2 ^ 62)<=j/\j<2 ^ 62/\R (Itr 0 j.toNat) H1
theorem Jhs{a:Expr}{ta:TA}{p pos:Pos}(hg:Gl X "range")(hm:X.mg "range"=none)(ha:PA X [a] ta)(hs:starEach [a] X.env=[(false,eval a X.env)]:=by rfl):PI X tg (.Call (.Name "range" p) [a] [] pos) (JmK ta):=by
 intro pins s σ H R I h;refine Call_ (Vb I hg hm boot_range (Go (thn (ha pos pins s σ H _ I h) fun us s1 ⟨vs,H1,I1,r1,q1⟩=>?_) hs rfl));obtain⟨j,e,q1,q2,q⟩:=q1;subst e
 cases r1 with
 | cons r rr=>cases rr;obtain⟨t,rfl⟩:=r;exact call_range_1 (JjJ I1 (by omega) (by omega) q1 q2 (by simpa using q))
noncomputable def Jmi(wi:TI)(g:TG)(tb:TS):TS:=fun D σ H=>wi σ H fun J H1=>∃W:Nat->Nat->St->Hp->Prop,(∃m,W 0 m σ H1)/\∀i m σ H,W i m σ H ->
 (J.stop i H/\D.nx σ H)\/(J.go i H/\∃N:St->Hp->Prop,(∀σ' H',N σ' H'->∃m',m'<m/\W (i+1) m' σ' H')/\∀x H',J.yld i H x H'->g x σ H' fun σ2 H2=>tb { D with nx:=N,ct:=N,bk:=D.nx } σ2 H2)
noncomputable def Jas(fp:List Addr)(h:Heap):List (Addr×Obj):=fp.filterMap fun b=>(h.get? b).map fun o=>(b,o)
theorem Wa{fp:List Addr}{h:Heap}{b:Addr}{o:Obj}(hb:b∈fp)(e:h.get? b=some o):(b,o)∈Jas fp h:=List.mem_filterMap.mpr ⟨b,hb,by rw[e];rfl⟩
theorem Jhm{fp:List Addr}{h:Heap}{p:Addr×Obj}(hp:p∈Jas fp h):p.1∈fp/\h.get? p.1=some p.2:=by
 obtain⟨b,hb,e⟩:=List.mem_filterMap.mp hp
 cases q:h.get? b with
 | none=>rw[q] at e;cases e
 | some o=>rw[q] at e;have e':(b,o)=p:=QG e;subst e';exact⟨hb,q⟩
theorem Inv.pinned{pins:List (Addr×Obj)}{σ:St}{H:Hp}{s:Shared}{fp:List Addr}(I:Inv X pins σ H s)(hf:∀b∈fp,FpOk X pins H b)(ho:∀b∈fp,∃o,s.heap.get? b=some o/\∀v,o.data≠.cell v):Inv X (pins++Jas fp s.heap) σ H s :=
 I.pins_of fun p hp=>(Q6.mp hp).elim (fun z=>I.pin p (Gr _ z)) fun z=>by obtain⟨hb,e⟩:=Jhm z;obtain⟨f0,f1,f2,_⟩:=hf p.1 hb;obtain⟨o,e',d⟩:=ho p.1 hb;rw[e] at e';cases e';exact⟨e,f0,f1,f2,d⟩
theorem Inv.unpinned{pins pl:List (Addr×Obj)}{σ:St}{H:Hp}{s:Shared}(I:Inv X (pins++pl) σ H s):Inv X pins σ H s:=I.pins_of fun p hp=>I.pin p (Gr _ (K0 _ hp))
theorem Y0{iter:Expr}{body:List Stmt}{wi:TI}{g:TG}{tb:TS}{pos:Pos}(hp:PassesOwn (model X.prog X.w) X.A X.env X.xe)(hc:X.calm=true)(hi:PI X tg iter wi)(hg:PG X tg g)(hb:PSs X body tb)
 (hs:∀x,foldedSetIterable iter X.env x=pure x:=by intro _;rfl):PS X (.For tg iter body [] pos) (Jmi wi g tb):=by
 intro pins s σ H D I h;refine wpAny_For (thn (hi pins s σ H _ I h) fun v s1 h1=>thn h1 fun itv s2 h2=>?_) hs;obtain⟨it,fp,tn,J,H2,e,I2,T,st2,f2,W,⟨m0,w0⟩,turn⟩:=h2;subst e
 -- what stays true of the iterator's objects through the loop
 have stat:∀{H':Hp},(∀b∈fp,H' b=none)->∀b∈fp,FpOk X pins H' b:=fun hn b hb=>⟨hn b hb,(f2 b hb).2⟩
 refine codeAny_forLoop_any (fun n s'=>∃i σ' H',Inv X pins σ' H' s'/\tn i s'.heap/\(∀b∈fp,H' b=none)/\W i n σ' H') ?_ m0 ⟨0,σ,H2,I2,st2,fun b hb=>(f2 b hb).1,w0⟩;rintro n s3 ⟨i,σ3,H3,I3,st3,fr3,w3⟩;rcases turn i n σ3 H3 w3 with ⟨stop,qn⟩|⟨go,N,hN,step⟩
 ·refine Kh hp (thn (T.done X rfl rfl rfl hc i pins s3 σ3 H3 X.xe I3 (stat fr3) st3 stop) fun r s4 ⟨hr,I4⟩=>?_);subst hr;exact LJ ⟨σ3,H3,I4,qn⟩
 ·refine Kh hp (thn (T.item X rfl rfl rfl hc i pins s3 σ3 H3 X.xe I3 (stat fr3) st3 go) fun r s4 ⟨u,hr,h4⟩=>?_);subst hr;refine Kh hp (thn h4 fun _ s5 ⟨x,H5,I5,r5,y5,st5,fr5⟩=>?_);have I5':=I5.pinned (stat fr5) (T.obj _ _ st5);refine Kh hp (thn (hg _ s5 σ3 H5 x u _ I5' r5 (step x H5 y5)) fun _ s6 ⟨σ6,H6,I6,q6⟩=>?_);refine Kh hp (thn (hb _ s6 σ6 H6 _ I6 q6) fun f s7 q7=>?_)
  have again:∀{σ7:St} {H7:Hp},Inv X (pins++Jas fp s5.heap) σ7 H7 s7->N σ7 H7->∃m,m<n/\∃i σ' H',Inv X pins σ' H' s7/\tn i s7.heap/\(∀b∈fp,H' b=none)/\W i m σ' H':=fun {σ7 H7} I7 n7=>by obtain⟨m',hm,w7⟩:=hN σ7 H7 n7;refine⟨m',hm,i+1,σ7,H7,I7.unpinned,T.keep _ _ _ st5 fun b hb o e=>(I7.pin (b,o) (Gr _ (Gr _ (Wa hb e)))).1,fun b hb=>?_,w7⟩;obtain⟨o,e,d⟩:=T.obj _ _ st5 b hb;exact(I7.pin (b,o) (Gr _ (Gr _ (Wa hb e)))).2.1
  cases f with
  | next=>obtain⟨σ7,H7,I7,n7⟩:=q7;exact again I7 n7
  | cont=>obtain⟨σ7,H7,I7,n7⟩:=q7;exact again I7 n7
  | brk=>obtain⟨σ7,H7,I7,q7⟩:=q7;exact⟨σ7,H7,I7.unpinned,q7⟩
  | ret v=>obtain⟨x7,σ7,H7,I7,r7,q7⟩:=q7;exact⟨x7,σ7,H7,I7.unpinned,r7,q7⟩
end

theorem Jiy{K:Frag}{a:Addr}{xs:List V}{g:TG}{tb:TS}{D:Ends}{σ:St}{H:Hp}(Pv:Nat->St->Hp->Prop)(h0:Pv 0 σ H)(hl:∀i σ H,i<=xs.length->Pv i σ H->SqL K H a xs)
 (hs:∀i x σ H,xs[i]?=some x->Pv i σ H->g x σ H fun σ2 H2=>tb { D with nx:=Pv (i+1),ct:=Pv (i+1),bk:=D.nx } σ2 H2) (hd:∀σ H,Pv xs.length σ H->D.nx σ H) :
 ∃W:Nat->Nat->St->Hp->Prop,(∃m,W 0 m σ H)/\∀i m σ H,W i m σ H ->
  ((Itl K a).stop i H/\D.nx σ H)\/((Itl K a).go i H/\∃N:St->Hp->Prop,(∀σ' H',N σ' H'->∃m',m'<m/\W (i+1) m' σ' H')/\∀x H',(Itl K a).yld i H x H'->g x σ H' fun σ2 H2=>tb { D with nx:=N,ct:=N,bk:=D.nx } σ2 H2):=by
 refine⟨fun i m σ H=>m=xs.length-i/\i<=xs.length/\Pv i σ H,⟨xs.length,by simp,Gv _,h0⟩,?_⟩;rintro i m σ H ⟨rfl,hi,p⟩;have q:=hl i σ H hi p
 by_cases hlt:i<xs.length
 ·refine .inr ⟨⟨xs,xs[i],q,by simp[hlt]⟩,Pv (i+1),fun σ' H' p'=>⟨xs.length-(i+1),by omega,rfl,hlt,p'⟩,fun x H' y=>?_⟩;obtain⟨e,y⟩:=y;subst e;exact hs i x σ _ (y xs q) p
 ·have e:i=xs.length:=by omega
  subst e;exact .inl ⟨⟨xs,q,Qm _⟩,hd σ H p⟩
theorem Jk0{K:Frag}{a:Addr}{xs:List V}{g:TG}{tb:TS}{D:Ends}{σ:St}{H:Hp}(Pv:Nat->St->Hp->Prop)(h0:Pv 0 σ H)(hl:∀i σ H,i<=xs.length->Pv i σ H->SqT K H a xs)
 (hs:∀i x σ H,xs[i]?=some x->Pv i σ H->g x σ H fun σ2 H2=>tb { D with nx:=Pv (i+1),ct:=Pv (i+1),bk:=D.nx } σ2 H2) (hd:∀σ H,Pv xs.length σ H->D.nx σ H) :
 ∃W:Nat->Nat->St->Hp->Prop,(∃m,W 0 m σ H)/\∀i m σ H,W i m σ H ->
  ((Itt K a).stop i H/\D.nx σ H)\/((Itt K a).go i H/\∃N:St->Hp->Prop,(∀σ' H',N σ' H'->∃m',m'<m/\W (i+1) m' σ' H')/\∀x H',(Itt K a).yld i H x H'->g x σ H' fun σ2 H2=>tb { D with nx:=N,ct:=N,bk:=D.nx } σ2 H2):=by
 refine⟨fun i m σ H=>m=xs.length-i/\i<=xs.length/\Pv i σ H,⟨xs.length,by simp,Gv _,h0⟩,?_⟩;rintro i m σ H ⟨rfl,hi,p⟩;have q:=hl i σ H hi p
 by_cases hlt:i<xs.length
 ·refine .inr ⟨⟨xs,xs[i],q,by simp[hlt]⟩,Pv (i+1),fun σ' H' p'=>⟨xs.length-(i+1),by omega,rfl,hlt,p'⟩,fun x H' y=>?_⟩;obtain⟨e,y⟩:=y;subst e;exact hs i x σ _ (y xs q) p
 ·have e:i=xs.length:=by omega
  subst e;exact .inl ⟨⟨xs,q,Qm _⟩,hd σ H p⟩
end L2

namespace L2
open PySem PySem.Spec PyProof.Rows

noncomputable abbrev R2:=V->V->Hp->VK->Prop
noncomputable def OpR(X:Cx)(f:Value->Value->Sem Value)(r:R2):Prop :=
 ∀(pins:List (Addr×Obj)) (s:Shared) (σ:St) (H:Hp) (x y:V) (v u:Value) (Q:VK),Inv X pins σ H s->RelV x v->RelV y u->r x y H Q ->
  wpAny (model X.prog X.w) X.A (f v u) (EP X pins σ Q) X.xe s
noncomputable def UnR(X:Cx)(f:Value->Sem Value)(r:V->Hp->VK->Prop):Prop :=
 ∀(pins:List (Addr×Obj)) (s:Shared) (σ:St) (H:Hp) (x:V) (v:Value) (Q:VK),Inv X pins σ H s->RelV x v->r x H Q ->
  wpAny (model X.prog X.w) X.A (f v) (EP X pins σ Q) X.xe s
noncomputable def YS(X:Cx)(f:Value)(r:List V->Hp->VK->Prop):Prop :=
 ∀(pins:List (Addr×Obj)) (s:Shared) (σ:St) (H:Hp) (xs:List V) (us:List Value) (Q:VK),Inv X pins σ H s->Vals xs us->r xs H Q ->
  wpAny (model X.prog X.w) X.A (call f us) (EP X pins σ Q) X.xe s
noncomputable def Jqe(X:Cx)(r:V->Hp->(Bool->Hp->Prop)->Prop):Prop :=
 ∀(pins:List (Addr×Obj)) (s:Shared) (σ:St) (H:Hp) (x:V) (v:Value) (Q:Bool->Hp->Prop),Inv X pins σ H s->RelV x v->r x H Q ->
  wpAny (model X.prog X.w) X.A (truthy v) (TP X pins σ Q) X.xe s

noncomputable def tOp(r:R2)(ta tb:TE):TE:=fun σ H Q=>ta σ H fun x H1=>tb σ H1 fun y H2=>r x y H2 Q
noncomputable def tUn(r:V->Hp->VK->Prop)(ta:TE):TE:=fun σ H Q=>ta σ H fun x H1=>r x H1 Q
noncomputable def rI(C:Int->Int->Prop)(g:Int->Int->V):R2:=fun x y H Q=>∃i j,x=.int i/\y=.int j/\C i j/\Q (g i j) H
noncomputable def rI0(g:Int->Int->V):R2:=fun x y H Q=>∃i j,x=.int i/\y=.int j/\Q (g i j) H
noncomputable def rU(g:Int->V):V->Hp->VK->Prop:=fun x H Q=>∃i,x=.int i/\Q (g i) H

section
variable{X:Cx}{a b c:Expr}{ta tb tc:TE}{pos:Pos}

theorem Jm5(ha:PE X a ta)(hb:PE X b tb){pins:List (Addr×Obj)}{s:Shared}{σ:St}{H:Hp}{R:V->V->Hp->Prop}(I:Inv X pins σ H s)
 (h:ta σ H fun x H1=>tb σ H1 fun y H2=>R x y H2) {Q:Value->Shared->Prop} {f:Value->Value->Sem Value}
 (hf:∀v u s2 x y H2,Inv X pins σ H2 s2->RelV x v->RelV y u->R x y H2->wpAny (model X.prog X.w) X.A (f v u) Q X.xe s2) :
 wpAny (model X.prog X.w) X.A (eval a X.env) (fun v s₁=>wpAny (model X.prog X.w) X.A (eval b X.env) (fun u s₂=>wpAny (model X.prog X.w) X.A (f v u) Q X.xe s₂) X.xe s₁) X.xe s:=by
 refine thn (ha pins s σ H _ I h) fun v s1 ⟨x,H1,I1,r1,q1⟩=>?_
 refine thn (hb pins s1 σ H1 _ I1 q1) fun u s2 ⟨y,H2,I2,r2,q2⟩=>?_
 exact hf v u s2 x y H2 I2 r1 r2 q2

theorem Jt{op:Operator}{r:R2}(ho:OpR X (binaryOp op) r)(ha:PE X a ta)(hb:PE X b tb):PE X (.BinOp a op b pos) (tOp r ta tb):=by intro pins s σ H Q I h;exact wpAny_BinOp (Jm5 ha hb I h fun v u s2 x y H2 I2 rx ry q=>ho pins s2 σ H2 x y v u Q I2 rx ry q)
theorem Jf7{op:UnaryOp}{r:V->Hp->VK->Prop}(ho:UnR X (unaryOp op) r)(ha:PE X a ta):PE X (.UnaryOp op a pos) (tUn r ta):=by intro pins s σ H Q I h;exact UnaryOp_ (thn (ha pins s σ H _ I h) fun v s1 ⟨x,H1,I1,r1,q1⟩=>ho pins s1 σ H1 x v Q I1 r1 q1)
theorem opI{f:Value->Value->Sem Value}{C:Int->Int->Prop}{g:Int->Int->Int}
 (rule:∀(i j:Int) (t u:Tok) (s:Shared) (Q:Value->Shared->Prop) (E:Value->Shared->Prop),C i j->Q (.int (g i j) s.toks) { s with toks:=s.toks+1 }->wpAny (model X.prog X.w) X.A (f (.int i t) (.int j u)) Q E s) :
 OpR X f (rI C fun i j=>.int (g i j)):=by
 intro pins s σ H x y v u Q I rx ry h;obtain⟨i,j,rfl,rfl,hc,q⟩:=h;obtain⟨t,rfl⟩:=rx;obtain⟨t',rfl⟩:=ry;exact rule i j t t' s _ _ hc ⟨.int (g i j),H,I.tok _,⟨_,rfl⟩,q⟩
theorem JpC{f:Value->Value->Sem Value}{g:Int->Int->Int}
 (rule:∀(i j:Int) (t u:Tok) (s:Shared) (Q:Value->Shared->Prop) (E:Value->Shared->Prop),Q (.int (g i j) s.toks) { s with toks:=s.toks+1 }->wpAny (model X.prog X.w) X.A (f (.int i t) (.int j u)) Q E s) :
 OpR X f (rI0 fun i j=>.int (g i j)):=by
 intro pins s σ H x y v u Q I rx ry h;obtain⟨i,j,rfl,rfl,q⟩:=h;obtain⟨t,rfl⟩:=rx;obtain⟨t',rfl⟩:=ry;exact rule i j t t' s _ _ ⟨.int (g i j),H,I.tok _,⟨_,rfl⟩,q⟩
theorem JnY{f:Value->Value->Sem Value}{g:Int->Int->Bool}
 (rule:∀(i j:Int) (t u:Tok) (s:Shared) (Q:Value->Shared->Prop) (E:Value->Shared->Prop),Q (.bool (g i j)) s->wpAny (model X.prog X.w) X.A (f (.int i t) (.int j u)) Q E s) :
 OpR X f (rI0 fun i j=>.bl (g i j)):=by
 intro pins s σ H x y v u Q I rx ry h;obtain⟨i,j,rfl,rfl,q⟩:=h;obtain⟨t,rfl⟩:=rx;obtain⟨t',rfl⟩:=ry;exact rule i j t t' s _ _ ⟨.bl (g i j),H,I,rfl,q⟩

noncomputable def Jo0(i j:Int):Prop:=0<j/\j<1073741824
noncomputable def Jo1(i j:Int):Prop:=0<=j/\j<=1000000/\i.natAbs<2 ^ 64
noncomputable def CMul(i j:Int):Prop:=(-(2 ^ 64)<i/\i<2 ^ 64)\/(-(2 ^ 64)<j/\j<2 ^ 64)
theorem CMul.ok{i j:Int}(h:CMul i j):IntMulOk i j:=by
 rcases h with ⟨h1,h2⟩|⟨h1,h2⟩
 ·exact .of_left (intBits_le_64 h1 h2)
 ·exact .of_right (intBits_le_64 h1 h2)
theorem op_add:OpR X (binaryOp .Add) (rI0 fun i j=>.int (i+j)):=JpC fun _ _ _ _ _ _ _ q=>add_int q
theorem YB:OpR X (binaryOp .Sub) (rI0 fun i j=>.int (i-j)):=JpC fun _ _ _ _ _ _ _ q=>sub_int q
theorem UD:OpR X (binaryOp .Mult) (rI CMul fun i j=>.int (i*j)):=opI fun _ _ _ _ _ _ _ hc q=>mul_int q hc.ok
theorem Jch:OpR X (binaryOp .FloorDiv) (rI Jo0 fun i j=>.int (i / j)):=opI fun i j _ _ _ _ _ hc q=>by
 have h1:(0:Int)<j:=hc.1
 have h2:j<1073741824:=hc.2;exact floordiv_int (by omega) (by rw[L7 i (by omega)];exact q) (.inl (PyProof.noPylong_small (by omega)))
theorem Vt:OpR X (binaryOp .Mod) (rI (fun _ j=>0<j) fun i j=>.int (i % j)):=opI fun i j _ _ _ _ _ hc q=>by have h1:(0:Int)<j:=hc;exact mod_int' (by omega) (by rw[Int.fmod_eq_emod_of_nonneg i (by omega)];exact q)
theorem Jjh:OpR X (binaryOp .Pow) (rI Jo1 fun i j=>.int (i ^ j.toNat)):=opI fun _ _ _ _ _ _ _ hc q=>pow_int_small hc.1 hc.2.1 hc.2.2 q
theorem unI{f:Value->Sem Value}{g:Int->Int}
 (rule:∀(i:Int) (t:Tok) (s:Shared) (Q:Value->Shared->Prop) (E:Value->Shared->Prop),Q (.int (g i) s.toks) { s with toks:=s.toks+1 }->wpAny (model X.prog X.w) X.A (f (.int i t)) Q E s) :
 UnR X f (rU fun i=>.int (g i)):=by
 intro pins s σ H x v Q I rx h;obtain⟨i,rfl,q⟩:=h;obtain⟨t,rfl⟩:=rx;exact rule i t s _ _ ⟨.int (g i),H,I.tok _,⟨_,rfl⟩,q⟩
theorem JcA:UnR X (unaryOp .USub) (rU fun i=>.int (-i)):=unI fun _ _ _ _ _ q=>neg_int q
end

noncomputable def JoH:V->V->Bool
 | .non,.non=>true|.non,.int _=>true|.int _,.non=>true|.non,.bl _=>true|.bl _,.non=>true|.non,.str _=>true|.str _,.non=>true
 | .int _,.int _=>true|.bl _,.bl _=>true|.str _,.str _=>true|.byt _,.byt _=>true
 | .int _,.str _=>true|.str _,.int _=>true|.bl _,.str _=>true|.str _,.bl _=>true
 | _,_=>false
noncomputable def rEq:R2:=fun x y H Q=>JoH x y=true/\Q (.bl (decide (x=y))) H
noncomputable def rNe:R2:=fun x y H Q=>JoH x y=true/\Q (.bl (!decide (x=y))) H

theorem Jfu{i j:Int}:decide (V.int i=V.int j)=(i == j):=by rw[G5];simp
theorem Jid{i j:Bool}:decide (V.bl i=V.bl j)=(i == j):=by rw[G5];simp
theorem Jfv{i j:Str}:decide (V.str i=V.str j)=(i == j):=by rw[G5];simp
theorem Jft{i j:Array UInt8}:decide (V.byt i=V.byt j)=(i.toList == j.toList):=by rw[G5];cases i;cases j;simp

section
variable{X:Cx}{a b c:Expr}{ta tb tc:TE}{pos:Pos}
theorem JS{pins:List (Addr×Obj)}{σ:St}{H:Hp}{s:Shared}{Q:VK}{k k':Bool}(I:Inv X pins σ H s)(q:Q (.bl k) H)(e:k=k'):EP X pins σ Q (.bool k') s:=by subst e;exact⟨.bl k,H,I,rfl,q⟩
theorem op_eq:OpR X (compareOp .Eq) rEq:=by
 intro pins s σ H x y v u Q I rx ry h;obtain⟨hs,q⟩:=h
 cases x with
 | non =>
  cases rx
  cases y with
  | non=>cases ry;exact PySem.EqNone.eq_none_none (JS I q (by simp))
  | bl j=>cases ry;exact PySem.EqNone.eq_none_bool (JS I q (by simp))
  | int j=>obtain⟨t',rfl⟩:=ry;exact PySem.EqNone.eq_none_int (JS I q (by simp))
  | str j=>obtain⟨t',rfl⟩:=ry;exact PySem.EqNone.eq_none_str (JS I q (by simp))
  | _=>exact absurd (show false=true from hs) Qt
 | bl i =>
  cases rx
  cases y with
  | non=>cases ry;exact PySem.EqNone.eq_bool_none (JS I q (by simp))
  | bl j=>cases ry;exact eq_bool (JS I q Jid)
  | str j=>obtain⟨t',rfl⟩:=ry;exact PySem.EqMixed.eq_bool_str (JS I q (by simp))
  | _=>exact absurd (show false=true from hs) Qt
 | int i =>
  obtain⟨t,rfl⟩:=rx
  cases y with
  | non=>cases ry;exact PySem.EqNone.eq_int_none (JS I q (by simp))
  | int j=>obtain⟨t',rfl⟩:=ry;exact eq_int (JS I q Jfu)
  | str j=>obtain⟨t',rfl⟩:=ry;exact PySem.EqMixed.eq_int_str (JS I q (by simp))
  | _=>exact absurd (show false=true from hs) Qt
 | str i =>
  obtain⟨t,rfl⟩:=rx
  cases y with
  | non=>cases ry;exact PySem.EqNone.eq_str_none (JS I q (by simp))
  | bl j=>cases ry;exact PySem.EqMixed.eq_str_bool (JS I q (by simp))
  | int j=>obtain⟨t',rfl⟩:=ry;exact PySem.EqMixed.eq_str_int (JS I q (by simp))
  | str j=>obtain⟨t',rfl⟩:=ry;exact eq_str (JS I q Jfv)
  | _=>exact absurd (show false=true from hs) Qt
 | byt i =>
  obtain⟨t,rfl⟩:=rx
  cases y with
  | byt j=>obtain⟨t',rfl⟩:=ry;exact PySem.W.eq_bytes (JS I q Jft)
  | _=>exact absurd (show false=true from hs) Qt
 | _=>cases y <;> exact absurd (show false=true from hs) Qt
theorem op_ne:OpR X (compareOp .NotEq) rNe:=by
 intro pins s σ H x y v u Q I rx ry h;obtain⟨hs,q⟩:=h
 cases x with
 | non =>
  cases rx
  cases y with
  | non=>cases ry;exact PySem.EqNone.ne_none_none (JS I q (by simp))
  | bl j=>cases ry;exact PySem.EqNone.ne_none_bool (JS I q (by simp))
  | int j=>obtain⟨t',rfl⟩:=ry;exact PySem.EqNone.ne_none_int (JS I q (by simp))
  | str j=>obtain⟨t',rfl⟩:=ry;exact PySem.EqNone.ne_none_str (JS I q (by simp))
  | _=>exact absurd (show false=true from hs) Qt
 | bl i =>
  cases rx
  cases y with
  | non=>cases ry;exact PySem.EqNone.ne_bool_none (JS I q (by simp))
  | bl j=>cases ry;exact ne_bool (JS I q (congrArg not Jid))
  | str j=>obtain⟨t',rfl⟩:=ry;exact PySem.EqMixed.ne_bool_str (JS I q (by simp))
  | _=>exact absurd (show false=true from hs) Qt
 | int i =>
  obtain⟨t,rfl⟩:=rx
  cases y with
  | non=>cases ry;exact PySem.EqNone.ne_int_none (JS I q (by simp))
  | int j=>obtain⟨t',rfl⟩:=ry;exact ne_int (JS I q (congrArg not Jfu))
  | str j=>obtain⟨t',rfl⟩:=ry;exact PySem.EqMixed.ne_int_str (JS I q (by simp))
  | _=>exact absurd (show false=true from hs) Qt
 | str i =>
  obtain⟨t,rfl⟩:=rx
  cases y with
  | non=>cases ry;exact PySem.EqNone.ne_str_none (JS I q (by simp))
  | bl j=>cases ry;exact PySem.EqMixed.ne_str_bool (JS I q (by simp))
  | int j=>obtain⟨t',rfl⟩:=ry;exact PySem.EqMixed.ne_str_int (JS I q (by simp))
  | str j=>obtain⟨t',rfl⟩:=ry;exact ne_str (JS I q (congrArg not Jfv))
  | _=>exact absurd (show false=true from hs) Qt
 | byt i =>
  obtain⟨t,rfl⟩:=rx
  cases y with
  | byt j=>obtain⟨t',rfl⟩:=ry;exact PySem.W.ne_bytes (JS I q (congrArg not Jft))
  | _=>exact absurd (show false=true from hs) Qt
 | _=>cases y <;> exact absurd (show false=true from hs) Qt

theorem Jbl:OpR X (compareOp .Lt) (rI0 fun i j=>.bl (decide (i<j))):=JnY fun _ _ _ _ _ _ _ q=>lt_int q
theorem JmQ:OpR X (compareOp .LtE) (rI0 fun i j=>.bl (decide (i<=j))):=JnY fun _ _ _ _ _ _ _ q=>le_int q
theorem Jam:OpR X (compareOp .Gt) (rI0 fun i j=>.bl (decide (j<i))):=JnY fun _ _ _ _ _ _ _ q=>gt_int q
theorem Jn2:OpR X (compareOp .Is) (fun x y H Q=>y=.non/\Q (.bl (decide (x=.non))) H):=by
 intro pins s σ H x y v u Q I rx ry h;obtain⟨rfl,q⟩:=h;cases ry;refine is_none_gen (JS I q ?_);cases x <;> first
  | (cases rx;rfl)
  | (obtain⟨t,rfl⟩:=rx;rfl)
theorem Jlw:OpR X (compareOp .IsNot) (fun x y H Q=>y=.non/\Q (.bl (!decide (x=.non))) H):=by
 intro pins s σ H x y v u Q I rx ry h;obtain⟨rfl,q⟩:=h;cases ry;refine isnot_none_gen (JS I q ?_);cases x <;> first
  | (cases rx;rfl)
  | (obtain⟨t,rfl⟩:=rx;rfl)

theorem OpR.or{f:Value->Value->Sem Value}{r r':R2}(h:OpR X f r)(h':OpR X f r'):OpR X f (fun x y H Q=>r x y H Q\/r' x y H Q):=by
 intro pins s σ H x y v u Q I rx ry q;rcases q with q|q
 ·exact h pins s σ H x y v u Q I rx ry q
 ·exact h' pins s σ H x y v u Q I rx ry q

theorem JX(b:Expr){op:CmpOp}(h:op≠.In:=by decide)(h2:op≠.NotIn:=by decide):behindInMarks op b=false:=by
 have e1:(op == CmpOp.In)=false:=by cases op <;> first|rfl|exact absurd rfl h
 have e2:(op == CmpOp.NotIn)=false:=by cases op <;> first|rfl|exact absurd rfl h2
 cases b <;> simp[behindInMarks,e1,e2]
theorem Jf6{op:CmpOp}{r:R2}(ho:OpR X (compareOp op) r)(ha:PE X a ta)(hb:PE X b tb)(hm:behindInMarks op b=false):PE X (.Compare a [op] [b] pos) (tOp r ta tb):=by intro pins s σ H Q I h;exact wpAny_Compare1 (Jm5 ha hb I h fun v u s2 x y H2 I2 rx ry q=>ho pins s2 σ H2 x y v u Q I2 rx ry q) hm
noncomputable def Jgs(t:TE):TT:=fun σ H Q=>t σ H fun x H'=>∃k,x=.bl k/\Q k H'
theorem JR{op:CmpOp}{r:R2}(ho:OpR X (compareOp op) r)(ha:PE X a ta)(hb:PE X b tb)(hm:behindInMarks op b=false):PT X (.Compare a [op] [b] pos) (Jgs (tOp r ta tb)):=by
 intro pins s σ H Q I h;refine wpAny_isTrue_Compare1 (thn (ha pins s σ H _ I h) fun v s1 ⟨x,H1,I1,r1,q1⟩=>thn (hb pins s1 σ H1 _ I1 q1) fun u s2 ⟨y,H2,I2,r2,q2⟩=>thn (ho pins s2 σ H2 x y v u _ I2 r1 r2 q2) fun c s3 ⟨z,H3,I3,r3,k,e,q3⟩=>?_) hm
 subst e;cases r3;exact Kk ⟨H3,I3,q3⟩
noncomputable def Jj4(r r':R2)(ta tb tc:TE):TE:=fun σ H Q=>ta σ H fun x H1=>tb σ H1 fun y H2=>r x y H2 fun z H3=>∃k,z=.bl k ∧
 (if k=true then tc σ H3 fun w' H4=>r' y w' H4 Q else Q (.bl false) H3)
theorem Jjj{op op':CmpOp}{r r':R2}(ho:OpR X (compareOp op) r)(ho':OpR X (compareOp op') r')(ha:PE X a ta)(hb:PE X b tb)(hc:PE X c tc)
 (hm:lastMarks [op,op'] [b,c]=false:=by with_unfolding_all rfl):PE X (.Compare a [op,op'] [b,c] pos) (Jj4 r r' ta tb tc):=by
 intro pins s σ H Q I h;refine Compare_chain (thn (ha pins s σ H _ I h) fun v s1 ⟨x,H1,I1,r1,q1⟩=>chain_link (thn (hb pins s1 σ H1 _ I1 q1) fun u s2 ⟨y,H2,I2,r2,q2⟩=>thn (ho pins s2 σ H2 x y v u _ I2 r1 r2 q2) fun d s3 ⟨z,H3,I3,r3,k,e,q3⟩=>?_)) hm
 subst e;cases r3;refine Kk ?_
 cases k with
 | false=>exact ite_ff ⟨.bl false,H3,I3,rfl,q3⟩
 | true=>exact ite_tt (chain_last (thn (hc pins s3 σ H3 _ I3 q3) fun w' s4 ⟨z',H4,I4,r4,q4⟩=>ho' pins s4 σ H4 y z' u w' Q I4 r2 r4 q4))
noncomputable def Jkw(K:Frag)(x:V)(H:Hp)(k:Bool):Prop :=
 match x with
 | .non=>k=false
 | .bl b=>k=b
 | .int i=>k=(i != 0)
 | .str y=>y.length<=sizeLine/\k=((y.length:Int) != 0)
 | .byt y=>y.size<=sizeLine/\k=((y.size:Int) != 0)
 | .ref p=>(∃xs,SqL K H p xs/\k=!xs.isEmpty)\/(∃xs,SqT K H p xs/\k=!xs.isEmpty)\/∃kvs,H p=some (.dK kvs)/\k=!kvs.isEmpty
 | _=>False
theorem Jex{κ:Type}{kvs:List (κ×V)}{vs:List (κ×Value)}(r:KV kvs vs):(!vs.isEmpty)=!kvs.isEmpty:=by cases r <;> rfl
theorem Jaa{xs:List V}{its:List Value}(r:Vals xs its):(!its.toArray.isEmpty)=!xs.isEmpty:=by cases r <;> simp
theorem Jaf:(sizeLine:Nat)<2 ^ 63:=by rw[sizeLine_eq];decide
theorem JoT:Jqe X (fun x H Q=>∃k,Jkw X.K x H k/\Q k H):=by
 intro pins s σ H x v Q I rx h;obtain⟨k,e,q⟩:=h;have hl:=Jaf;have hs:sizeLine=16777216:=sizeLine_eq
 cases x with
 | non=>cases rx;have e':k=false:=e;subst e';exact truthy_none ⟨H,I,q⟩
 | bl b=>cases rx;have e':k=b:=e;subst e';exact Kk ⟨H,I,q⟩
 | int i=>obtain⟨t,rfl⟩:=rx;have e':k=(i != 0):=e;subst e';exact PySem.P.truthy_int ⟨H,I,q⟩
 | str y=>obtain⟨t,rfl⟩:=rx;obtain⟨hy,e'⟩:y.length<=sizeLine/\k=((y.length:Int) != 0):=e;subst e';exact PySem.P.truthy_str (by omega) ⟨H,I.tok _,q⟩
 | byt y=>obtain⟨t,rfl⟩:=rx;obtain⟨hy,e'⟩:y.size<=sizeLine/\k=((y.size:Int) != 0):=e;subst e';exact PySem.W.truthy_bytes (by omega) ⟨H,I.tok _,q⟩
 | ref p =>
  cases rx;have e':(∃xs,SqL X.K H p xs/\k=!xs.isEmpty)\/(∃xs,SqT X.K H p xs/\k=!xs.isEmpty)\/∃kvs,H p=some (.dK kvs)/\k=!kvs.isEmpty:=e
  rcases e' with ⟨xs,hx,e'⟩|⟨xs,hx,e'⟩|⟨kvs,hx,e'⟩
  ·subst e';obtain⟨its,r,pl,hz⟩:=I.list hx;have hlen:=r.length;exact wpAny_truthy_list pl.isList (by simp only[Qp];omega) ⟨H,I.tok _,by rw[Jaa r];exact q⟩
  ·subst e';obtain⟨its,r,pl,hz⟩:=I.tuple hx;have hlen:=r.length;exact truthy_tuple pl (by simp only[Qp];omega) ⟨H,I.tok _,by rw[Jaa r];exact q⟩
  ·subst e';obtain⟨hz,hS,vs,r,m⟩:kvs.length<=sizeLine/\(p == sysModules)=false/\∃vs,KV kvs vs/\s.heap.DictOf (JO X.prog X.w) p vs:=I.hok p _ hx
   have hlen:kvs.length=vs.length:=Mt r;exact wpAny_truthy_dict hS m (by omega) ⟨H,I.tok _,by rw[Jex r];exact q⟩
 | _=>exact(show False from e).elim
theorem Jjv(ha:PE X a ta)(he:∀whole,isTrue a X.env whole=(do let v <- whole;standAt a.pos;holding [v] (truthy v))) :
 PT X a (fun σ H Q=>ta σ H fun x H'=>∃k,Jkw X.K x H' k/\Q k H'):=by
 intro pins s σ H Q I h;exact isTrue_plain (thn (ha pins s σ H _ I h) fun v s1 ⟨x,H1,I1,r1,q1⟩=>JoT pins s1 σ H1 x v Q I1 r1 q1) (he _)

theorem op_add_str:OpR X (binaryOp .Add) (fun x y H Q=>∃i j,x=.str i/\y=.str j/\i.length+j.length<=sizeLine/\Q (.str (i++j)) H):=by intro pins s σ H x y v u Q I rx ry h;obtain⟨i,j,rfl,rfl,hz,q⟩:=h;obtain⟨t,rfl⟩:=rx;obtain⟨t',rfl⟩:=ry;exact add_str (fun t' tk=>⟨.str (i++j),H,I.tok _,⟨_,rfl⟩,q⟩) hz
theorem WH{x:V}{us:List Value}(r:Vals [x] us):∃u,us=[u]/\RelV x u:=by
 cases r with
 | cons r1 r2=>cases r2;exact⟨_,rfl,r1⟩
theorem Jkk{x y:V}{us:List Value}(r:Vals [x,y] us):∃u w',us=[u,w']/\RelV x u/\RelV y w':=by
 cases r with
 | cons r1 r2 =>
  cases r2 with
  | cons r3 r4=>cases r4;exact⟨_,_,rfl,r1,r3⟩
theorem JgP(hc:X.calm=true):YS X (.builtin "max") (fun xs H Q=>∃i j,xs=[.int i,.int j]/\Q (.int (if j>i then j else i)) H):=by
 intro pins s σ H xs us Q I r h;obtain⟨i,j,rfl,q⟩:=h;obtain⟨u,w',rfl,⟨t,rfl⟩,⟨t',rfl⟩⟩:=Jkk r;refine max_two_ints (I.ok.hd hc) fun h' tk k=>⟨_,H,I.kept k,?_,q⟩
 by_cases hj:j>i
 ·rw[if_pos hj,if_pos hj];exact⟨_,rfl⟩
 ·rw[if_neg hj,if_neg hj];exact⟨_,rfl⟩
theorem JgR(hc:X.calm=true):YS X (.builtin "min") (fun xs H Q=>∃i j,xs=[.int i,.int j]/\Q (.int (if j<i then j else i)) H):=by
 intro pins s σ H xs us Q I r h;obtain⟨i,j,rfl,q⟩:=h;obtain⟨u,w',rfl,⟨t,rfl⟩,⟨t',rfl⟩⟩:=Jkk r;refine min_two_ints (I.ok.hd hc) fun h' tk k=>⟨_,H,I.kept k,?_,q⟩
 by_cases hj:j<i
 ·rw[if_pos hj,if_pos hj];exact⟨_,rfl⟩
 ·rw[if_neg hj,if_neg hj];exact⟨_,rfl⟩
noncomputable def Jo5(K:Frag)(x:V)(H:Hp)(n:Nat):Prop :=
 match x with
 | .str y=>y.length<=sizeLine/\n=y.length
 | .byt y=>y.size<=sizeLine/\n=y.size
 | .ref p=>(∃xs,SqL K H p xs/\n=xs.length)\/∃xs,SqT K H p xs/\n=xs.length
 | _=>False
theorem Jh7:YS X (.builtin "len") (fun xs H Q=>∃x n,xs=[x]/\Jo5 X.K x H n/\Q (.int n) H):=by
 intro pins s σ H xs us Q I r h;obtain⟨x,n,rfl,e,q⟩:=h;obtain⟨u,rfl,rx⟩:=WH r;have hl:=Jaf;have hs:sizeLine=16777216:=sizeLine_eq
 cases x with
 | str y=>obtain⟨t,rfl⟩:=rx;obtain⟨hy,e'⟩:y.length<=sizeLine/\n=y.length:=e;subst e';exact len_str (by omega) ⟨.int _,H,I.tok _,⟨_,rfl⟩,q⟩
 | byt y=>obtain⟨t,rfl⟩:=rx;obtain⟨hy,e'⟩:y.size<=sizeLine/\n=y.size:=e;subst e';exact PySem.W.len_bytes (by omega) ⟨.int _,H,I.tok _,⟨_,rfl⟩,q⟩
 | ref p =>
  cases rx;have e':(∃xs,SqL X.K H p xs/\n=xs.length)\/∃xs,SqT X.K H p xs/\n=xs.length:=e
  rcases e' with ⟨xs,hx,e'⟩|⟨xs,hx,e'⟩
  ·subst e';obtain⟨its,r',pl,hz⟩:=I.list hx;have hlen:=r'.length;exact Calls.call_len_list pl.isList (by simp only[Qp];omega) ⟨.int xs.length,H,I.tok _,⟨_,by simp only[Qp];rw[hlen]⟩,q⟩
  ·subst e';obtain⟨its,r',pl,hz⟩:=I.tuple hx;have hlen:=r'.length;exact len_tuple pl (by simp only[Qp];omega) ⟨.int xs.length,H,I.tok _,⟨_,by simp only[Qp];rw[hlen]⟩,q⟩
 | _=>exact(show False from e).elim
end
end L2

namespace L2
open PySem PySem.Spec PyProof.Rows

structure ObjM (h:Heap) (x dx C:Addr) (mA:Str->Option Value):Prop where
 obj:h.get? x=some (instObj C dx)
 ns:h.Ns1 dx mA
 ne:dx≠x

theorem Jhe{h:Heap}{dx:Addr}{mA:Str->Option Value}(n:h.Ns1 dx mA):∃od,h.get? dx=some od/\∀name,lookIn name od=some (mA name):=by
 obtain⟨o,es,ep,ho,hd,hk,_,hm⟩:=n;refine⟨o,ho,fun name=>?_⟩;have e:=hm name;unfold nsFind findBy at e;rw[<- Array.find?_toList] at e;unfold lookIn;rw[hd];dsimp only;split
 ·rename_i y q;rw[q] at e;exact congrArg some e
 ·rename_i q;rw[q] at e
  have a:es.toList.any (·.refKey)=false:=by rw[List.any_eq_false];intro y hy;obtain⟨z,t,hkey⟩:=hk y (Array.mem_toList_iff.mp hy);simp[DictEntry.refKey,hkey]
  have a':¬es.toList.any (·.refKey)=true:=by rw[a];exact Qt
  rw[if_neg a'];exact congrArg some e

theorem ObjM.look{h:Heap}{x dx C:Addr}{mA:Str->Option Value}(I:ObjM h x dx C mA):∃od,PySem.W.InstAt h x (instObj C dx) C (some od)/\∀name,lookIn name od=some (mA name) :=
 let ⟨od,ho,hl⟩:=Jhe I.ns
 ⟨od,⟨I.obj,rfl,rfl,ho⟩,hl⟩

section
variable{prog:Program}{w:World}{A:Around}{E:Value->Shared->Prop}{s:Shared}{K:Frag}{x dx C f:Addr}{mA:Str->Option Value}{name:Str}{v:Value}

theorem Jk3{expr:Bool}{Q:Value->Shared->Prop}(X:K.In s.heap)(I:ObjM s.heap x dx C mA)(hg:plainGet K C name=true)(hh:hasDictIn K C=true)
 (ha:findIn K (.ref C) name=some none) (hv:mA name=some v) (hv':PySem.W.handedIn v=true) (h:Q v { s with toks:=s.toks+1 }) :
 wpAny (model prog w) A (getAttr (.ref x) name expr) Q E s:=by
 obtain⟨od,J,hl⟩:=I.look;exact PySem.W.get_value X J (PySem.W.plainGet_of hg).1 (PySem.W.findObj_own hh ha rfl (by rw[hl,hv])) hv' h

theorem Jmf{ns:List Str}{Q:Unit->Shared->Prop}(X:K.In s.heap)(I:ObjM s.heap x dx C mA)
 (hs:findIn K (.ref C) "__setattr__"=some (some (.builtin "object.__setattr__"))) (hp:plainOver K C=true) (ht:takerIn K C name=some none) (hh:hasDictIn K C=true)
 (hw:Rm mA ns) (hsz:ns.length<=sizeLine)
 (h:∀h',ObjM h' x dx C (fun y=>if y=name then some v else mA y)->QB dx s.heap h'->Q () { s with heap:=h',toks:=s.toks+2 }) :
 wpAny (model prog w) A (setAttr (.ref x) name v) Q E s:=by
 obtain⟨od,J,hl⟩:=I.look;refine PySem.W.set_plain X J hs (PySem.W.osa_open (s:={ s with toks:=s.toks+1 }) (r:=none) X J hp ht fun b=>?_);obtain⟨cd,hc,hd'⟩:=PySem.W.any_some hh;have hx:s.heap.get? x=some ⟨.ref C,some dx,.plain,#[]⟩:=I.obj;refine Qa (Qg (Qa (Qa (wpAny_loadPart hx (Qa (PySem.W.Looks.here (s:={ s with toks:=s.toks+1 }) (PySem.W.looks_clsIn X hc) ?_))))));rw[hd'];refine Qg (a:=some dx) (Qa (Qg (Qa ?_)))
 refine wpAny_nsSet1 (s:={ s with toks:=s.toks+1 }) I.ns fun h' hn2 hs2=>?_
 obtain⟨oD,esD,epD,hoD,hdD,hcD⟩:=hn2.count (PySem.Within.cons name v hw);refine Qa (wpAny_lookBehind hoD (by rw[hdD];exact pastItsLine_dict (Gi hcD (by rw[Qo];omega))) ?_);exact Qg (h _ ⟨(hs2.2 _ (QO I.ne)).trans I.obj,hn2,I.ne⟩ hs2)

theorem Ji2{R:Result->Shared->Prop}{vs:List Value}{kw:List (Str×Value)}(X:K.In s.heap)(hm:makesIn K C=true)
 (hi:findIn K (.ref C) "__init__"=some (some (.ref f))) (hf:PySem.W.typeIn K (.ref f)=some (.type "function"))
 (h:codeAny (model prog w) (A.under (.builtin "type.__call__" ⟨.ref C::vs,kw⟩)) (.call (.ref f) ⟨.ref (s.heap.objs.size+1)::vs,kw⟩) (PySem.W.InitBack (s.heap.objs.size+1) R)
  { s with heap:=(s.heap.push emptyDict).push (instObj C s.heap.objs.size) }) :
 codeAny (model prog w) A (.call (.ref C) ⟨vs,kw⟩) R s:=by
 obtain⟨hh,g,d,t,os⟩:=s;exact PySem.W.make_core (PySem.W.makes_of X hm) (PySem.W.looks_findIn X hi) (fun self=>PySem.W.bind_fn X self hf) (.inl rfl) h
end

noncomputable def putF(f:Str)(v:V):List (Str×V)->List (Str×V)
 | []=>[(f,v)]
 | (g,x)::r=>if g=f then(g,v)::r else(g,x)::putF f v r
theorem Zf(f g:Str)(v:V):∀fs:List (Str×V),(putF f v fs).lookup g=if g=f then some v else fs.lookup g
 | []=>by
  show Li g [(f,v)]=_
  by_cases h:g=f
  ·have hb:(g == f)=true:=beq_iff_eq.mpr h;simp only[Li,hb,if_pos h]
  ·have hb:(g == f)=false:=beq_eq_false_iff_ne.mpr h;simp only[Li,hb,if_neg h]
 | (k,x)::r=>by
  have ih:=Zf f g v r;rw[show putF f v ((k,x)::r)=(if k=f then(k,v)::r else(k,x)::putF f v r) from rfl]
  by_cases hk:k=f
  ·rw[if_pos hk]
   by_cases h:g=k
   ·have hb:(g == k)=true:=beq_iff_eq.mpr h;simp only[Li,hb,if_pos (h.trans hk)]
   ·have hb:(g == k)=false:=beq_eq_false_iff_ne.mpr h;simp only[Li,hb,if_neg (fun e:g=f=>h (e.trans hk.symm))]
  ·rw[if_neg hk]
   by_cases h:g=k
   ·have hb:(g == k)=true:=beq_iff_eq.mpr h;simp only[Li,hb,if_neg (fun e:g=f=>hk (h.symm.trans e))]
   ·have hb:(g == k)=false:=beq_eq_false_iff_ne.mpr h;simp only[Li,hb];exact ih
theorem WV(f:Str)(v:V):∀fs:List (Str×V),f∈(putF f v fs).map (·.1)/\∀g,g∈fs.map (·.1)->g∈(putF f v fs).map (·.1)
 | []=>⟨by simp[putF],fun g h=>by simp at h⟩
 | (k,x)::r=>by
  obtain⟨i1,i2⟩:=WV f v r;rw[show putF f v ((k,x)::r)=(if k=f then(k,v)::r else(k,x)::putF f v r) from rfl]
  by_cases hk:k=f
  ·rw[if_pos hk];subst hk;exact⟨by simp,fun g h=>by simpa using h⟩
  ·rw[if_neg hk];refine⟨?_,fun g h=>?_⟩
   ·rw[Qe];exact Qc _ i1
   ·rw[Qe] at h ⊢;rcases Qh.mp h with e|e
    ·exact Qh.mpr (.inl e)
    ·exact Qc _ (i2 g e)
theorem Ze(f:Str)(v:V):∀fs:List (Str×V),(putF f v fs).length<=fs.length+1
 | []=>by simp[putF]
 | (k,x)::r=>by
  have ih:=Ze f v r;rw[show putF f v ((k,x)::r)=(if k=f then(k,v)::r else(k,x)::putF f v r) from rfl]
  by_cases hk:k=f
  ·rw[if_pos hk,Qo,Qo];omega
  ·rw[if_neg hk,Qo,Qo];omega

theorem RelO.some_of{v:V}{o:Option Value}(r:RelO (some v) o):∃u,o=some u/\RelV v u:=by
 cases o with
 | none=>exact(show False from r).elim
 | some u=>exact⟨u,rfl,r⟩
theorem Jg1{v:V}{u:Value}(r:RelV v u):PySem.W.handedIn u=true:=by
 cases v with
 | non=>cases (show u=Value.none from r);rfl
 | bl b=>cases (show u=Value.bool b from r);rfl
 | int i=>obtain⟨t,e⟩:=(show ∃t,u=Value.int i t from r);cases e;rfl
 | str x=>obtain⟨t,e⟩:=(show ∃t,u=Value.str x t from r);cases e;rfl
 | byt b=>obtain⟨t,e⟩:=(show ∃t,u=Value.bytes b t from r);cases e;rfl
 | flt b=>obtain⟨t,e⟩:=(show ∃t,u=Value.float b t from r);cases e;rfl
 | ref a=>cases (show u=Value.ref a from r);rfl
 | ty n=>cases (show u=Value.type n from r);rfl

section
variable{P:Program}{w:World}{H H':Hp}{h h':Heap}{a C dx:Addr}{fs fs':List (Str×V)}
theorem Jb0(hok:HOk P w H h)(e:H a=some (.ins C dx fs)):∃mA,ObjM h a dx C mA/\(∀f,RelO (fs.lookup f) (mA f))/\Rm mA (fs.map (·.1))/\fs.length<=1000/\H dx=some (.own a):=by
 obtain⟨d,z,ne,ob,mA,n,r,q⟩:=(show ObjOk P w H h a (.ins C dx fs) from hok a _ e)
 exact⟨mA,⟨ob,n,ne⟩,r,q,z,d⟩
end

structure Cls (K:Frag) (C:Addr):Prop where
 pg:plainGet K C Str.empty=true
 hd:hasDictIn K C=true
 po:plainOver K C=true
 sa:findIn K (.ref C) "__setattr__"=some (some (.builtin "object.__setattr__"))
theorem Cls.get{K:Frag}{C:Addr}(c:Cls K C)(f:Str):plainGet K C f=true:=c.pg
noncomputable def NoAttr(K:Frag)(C:Addr)(f:Str):Prop:=findIn K (.ref C) f=some none
theorem NoAttr.taker{K:Frag}{C:Addr}{f:Str}(n:NoAttr K C f):takerIn K C f=some none:=by unfold takerIn;rw[show findIn K (.ref C) f=some none from n];rfl
section
variable{X:Cx}{pins:List (Addr×Obj)}{σ:St}{H:Hp}{s:Shared}{a C dx:Addr}{fs:List (Str×V)}{f:Str}{v:V}{A:Around}{E:Value->Shared->Prop}

theorem Jer{b:Bool}{Q:Value->Shared->Prop}(I:Inv X pins σ H s)(e:H a=some (.ins C dx fs))(c:Cls X.K C)(n:NoAttr X.K C f)(l:fs.lookup f=some v)
 (h:∀u s',Inv X pins σ H s'->RelV v u->Q u s'):wpAny (model X.prog X.w) A (getAttr (.ref a) f b) Q E s:=by
 obtain⟨mA,O,r,_,_,_⟩:=Jb0 I.hok e;obtain⟨u,hu,ru⟩:=RelO.some_of (v:=v) (o:=mA f) (by rw[<- l];exact r f);exact Jk3 I.kIn O (c.get f) c.hd n hu (Jg1 ru) (h u _ (I.tok _) ru)

theorem Je1{y:V}{u:Value}{Q:Unit->Shared->Prop}(I:Inv X pins σ H s)(e:H a=some (.ins C dx fs))(c:Cls X.K C)(n:NoAttr X.K C f)(hl:fs.length<1000)(ry:RelV y u)
 (h:∀s',Inv X pins σ (upd H a (.ins C dx (putF f y fs))) s'->Q () s'):wpAny (model X.prog X.w) A (setAttr (.ref a) f u) Q E s:=by
 obtain⟨mA,O,r,wi,_,ho⟩:=Jb0 I.hok e;have hz:(fs.map (·.1)).length<=sizeLine:=by rw[Qk,sizeLine_eq];omega
 refine Jmf I.kIn O c.sa c.po n.taker c.hd wi hz fun h' O' sb=>h _ ?_
 have hd:∃o,h'.get? dx=some o:=let ⟨o,_,_,e',_⟩:=O'.ns;⟨o,e'⟩
 refine I.write (x:=a) (e:=dx) (by rw[e];exact True.intro) (.inr ho) (fun b q hb z=>(sb.2 b hb).trans z) hd ?_;refine⟨by rw[Jm O.ne];exact ho,?_,O.ne,O'.obj,_,O'.ns,fun g=>?_,fun g hg=>?_⟩
 ·have:=Ze f y fs;omega
 ·show RelO ((putF f y fs).lookup g) (if g=f then some u else mA g);rw[Zf]
  by_cases q:g=f
  ·rw[if_pos q,if_pos q];exact ry
  ·rw[if_neg q,if_neg q];exact r g
 ·by_cases q:g=f
  ·rw[q];exact(WV f y fs).1
  ·refine(WV f y fs).2 g (wi g fun z=>hg ?_);show(if g=f then some u else mA g)=none;rw[if_neg q];exact z

theorem Inv.made(I:Inv X pins σ H s):Inv X pins σ (upd (upd H s.heap.objs.size (.own (s.heap.objs.size+1))) (s.heap.objs.size+1) (.ins C s.heap.objs.size []))
 { s with heap:=(s.heap.push emptyDict).push (instObj C s.heap.objs.size) }:=by
 have e1:(s.heap.push emptyDict).get? s.heap.objs.size=some emptyDict:=Qi s.heap rfl
 have e2:((s.heap.push emptyDict).push (instObj C s.heap.objs.size)).get? (s.heap.objs.size+1)=some (instObj C s.heap.objs.size):=by
  have:=Qi (s.heap.push emptyDict) (o:=instObj C s.heap.objs.size) rfl
  rwa [Gy] at this
 have e3:(s.heap.push emptyDict).Ns s.heap.objs.size (fun _=>none):=⟨emptyDict,#[],_,e1,rfl,(fun e he=>absurd he (by simp)),fun _=>rfl⟩
 have I1:=I.laid (a:=s.heap.objs.size) (o:=.own (s.heap.objs.size+1)) (h':=s.heap.push emptyDict) (t':=s.toks) (fun b u q=>Qf _ q) (Qm _) ⟨_,e1⟩;refine I1.laid (a:=s.heap.objs.size+1) (o:=.ins C s.heap.objs.size []) (t':=s.toks) (fun b u q=>Qf _ q) (Nat.le_of_eq (Gy _ _)) ?_
 have ne:s.heap.objs.size≠s.heap.objs.size+1:=QA (Kw _);refine⟨by rw[Jm ne,Js],Gv _,ne,e2,fun _=>none,(Heap.Ns1.of_empty e3).at fun o q=>Qf _ q,fun _=>True.intro,fun y hy=>absurd rfl hy⟩

theorem Jky{prog:Program}{w:World}{env:Env}{e:Expr}{f:Str}{pos:Pos}{s:Shared}{Q:Value->Shared->Prop}(hb:attributeBase e f env (eval e env)=eval e env)
 (h:wpAny (model prog w) A (eval e env) (fun o s₁=>wpAny (model prog w) A (getAttr o f true) Q E s₁) E s):wpAny (model prog w) A (eval (.Attribute e f pos) env) Q E s :=
 Attribute_any_ h (by rw[arm_eval_Attribute,hb])
end

noncomputable def JoM(K:Frag)(ta:TE)(f:Str):TE:=fun σ H Q=>ta σ H fun x H1=>∃a C dx fs v,x=.ref a/\H1 a=some (.ins C dx fs)/\Cls K C/\NoAttr K C f/\fs.lookup f=some v/\Q v H1
noncomputable def JoD(K:Frag)(ta tv:TE)(f:Str):TS:=fun D σ H=>tv σ H fun y H1=>ta σ H1 fun x H2=>∃a C dx fs,x=.ref a/\H2 a=some (.ins C dx fs)/\Cls K C/\NoAttr K C f/\fs.length<1000 ∧
 D.nx σ (upd H2 a (.ins C dx (putF f y fs)))
section
variable{X:Cx}{o e value:Expr}{f:Str}{pos pos' tpos:Pos}{ta tv:TE}
theorem Jn8(he:PE X e ta)(hb:attributeBase e f X.env (eval e X.env)=eval e X.env):PE X (.Attribute e f pos) (JoM X.K ta f):=by intro pins s σ H Q I h;refine Jky hb (thn (he pins s σ H _ I h) fun u s1 ⟨x,H1,I1,rx,a,C,dx,fs,v,ex,ea,c,n,l,q⟩=>?_);subst ex;obtain rfl:u=Value.ref a:=rx;exact Jer I1 ea c n l fun u' s2 I2 ru=>⟨v,H1,I2,ru,q⟩
theorem Jog(ha:PE X o ta)(hv:PE X value tv)(hs:swapsWith value (some (.Attribute o f pos')) pos.line X.env=pure false):PS X (.Assign [.Attribute o f pos'] value pos) (JoD X.K ta tv f):=by intro pins s σ H D I h;refine plainObj_wpAny_Assign_Attribute (thn (hv pins s σ H _ I h) fun u s1 ⟨y,H1,I1,ry,q⟩=>thn (ha pins s1 σ H1 _ I1 q) fun ov s2 ⟨x,H2,I2,rx,a,C,dx,fs,ex,ea,c,n,l,q2⟩=>?_) hs;subst ex;obtain rfl:ov=Value.ref a:=rx;exact Je1 I2 ea c n l ry fun s3 I3=>⟨σ,_,I3,q2⟩
end

section
variable{X:Cx}{pins:List (Addr×Obj)}{σ:St}{H:Hp}{s:Shared}{A:Around}{E:Value->Shared->Prop}{Q:Value->Shared->Prop}{c:Value}{b:Bool}
inductive TyOf (K:Frag) (H:Hp):V->Value->Prop where
 | non:TyOf K H .non (.type "NoneType")
 | bl (x:Bool):TyOf K H (.bl x) (.type "bool")
 | int (i:Int):TyOf K H (.int i) (.type "int")
 | str (x:Str):TyOf K H (.str x) (.type "str")
 | flt (x:UInt64):TyOf K H (.flt x) (.type "float")
 | lst {a:Addr} {xs:List V} (e:H a=some (.lst xs)):TyOf K H (.ref a) (.type "list")
 | frz {a:Addr} {o:Obj} {xs:List V} (e:H a=some (.frz o (.lst xs))):TyOf K H (.ref a) (.type "list")
 | tup {a:Addr} {xs:List V} (e:H a=some (.tup xs)):TyOf K H (.ref a) (.type "tuple")
 | dK {a:Addr} {kvs:List (Key×V)} (e:H a=some (.dK kvs)):TyOf K H (.ref a) (.type "dict")
 | dT {a:Addr} {kvs:List (List Key×V)} (e:H a=some (.dT kvs)):TyOf K H (.ref a) (.type "dict")
 | ins {a C dx:Addr} {fs:List (Str×V)} (e:H a=some (.ins C dx fs)) (cl:Cls K C) (ha:findIn K (.ref C) "__class__"=some (some (.builtin "object.__class__")))
  (hn:Rn K (.builtin "object.__class__") "__get__"=some (some (.builtin "getset_descriptor.__get__"))) (htk:PySem.W.takesIn K (.builtin "object.__class__")=some true)
  (hm:mroIn K C (.type "object")=some true):TyOf K H (.ref a) (.ref C)
theorem Jhb{x:V}{u t:Value}(I:Inv X pins σ H s)(rx:RelV x u)(ty:TyOf X.K H x t)(e:kitOne X.K t c=some b)(h:∀tk,Q (.bool b) { s with toks:=tk }) :
 wpAny (model X.prog X.w) A (call (.builtin "isinstance") [u,c]) Q E s:=by
 cases ty with
 | non=>cases (show u=Value.none from rx);exact kia_one PySem.W.kitx_none I.kIn True.intro e (fun z=>nomatch z) h
 | bl y=>cases (show u=Value.bool y from rx);exact kia_one PySem.W.kitx_bool I.kIn True.intro e (fun z=>nomatch z) h
 | int i=>obtain⟨t,q⟩:=(show ∃t,u=Value.int i t from rx);cases q;exact kia_one PySem.W.kitx_int I.kIn True.intro e (fun z=>nomatch z) h
 | str y=>obtain⟨t,q⟩:=(show ∃t,u=Value.str y t from rx);cases q;exact kia_one PySem.W.kitx_str I.kIn True.intro e (fun z=>nomatch z) h
 | flt y=>obtain⟨t,q⟩:=(show ∃t,u=Value.float y t from rx);cases q;exact kia_one PySem.W.kitx_float I.kIn True.intro e (fun z=>nomatch z) h
 | @lst a xs ea =>
  cases (show u=Value.ref a from rx);obtain⟨_,_,n,_,h1⟩:=(show ObjOk X.prog X.w H s.heap a (.lst xs) from I.hok a _ ea)
  exact kia_one kitx_list I.kIn ⟨_,h1,rfl⟩ e (fun z=>nomatch z) h
 | @frz a ob xs ea =>
  cases (show u=Value.ref a from rx);obtain⟨_,_,_,n,_,h1⟩:=(show ObjOk X.prog X.w H s.heap a (.frz ob (.lst xs)) from I.hok a _ ea)
  exact kia_one kitx_list I.kIn ⟨_,h1,rfl⟩ e (fun z=>nomatch z) h
 | @tup a xs ea =>
  cases (show u=Value.ref a from rx);obtain⟨_,_,_,p⟩:=(show ObjOk X.prog X.w H s.heap a (.tup xs) from I.hok a _ ea)
  obtain⟨o,h1,h2,_⟩:=p;exact kia_one Rg I.kIn ⟨o,h1,h2⟩ e (fun z=>nomatch z) h
 | @dK a kvs ea =>
  cases (show u=Value.ref a from rx);obtain⟨_,_,vs,_,p⟩:=(show ObjOk X.prog X.w H s.heap a (.dK kvs) from I.hok a _ ea)
  obtain⟨o,es,ep,h1,h2,_⟩:=p;exact kia_one Ro I.kIn ⟨o,h1,h2.1⟩ e (fun z=>nomatch z) h
 | @dT a kvs ea =>
  cases (show u=Value.ref a from rx);obtain⟨_,_,xs,_,o,es,ep,h1,h2,_⟩:=(show ObjOk X.prog X.w H s.heap a (.dT kvs) from I.hok a _ ea)
  exact kia_one Ro I.kIn ⟨o,h1,h2.1⟩ e (fun z=>nomatch z) h
 | @ins a C dx fs ea cl ha hn htk hm=>cases (show u=Value.ref a from rx);obtain⟨mA,O,_⟩:=Jb0 I.hok ea;obtain⟨od,J,_⟩:=O.look;exact kia_one (PySem.W.kitx_own (cl.get _) cl.hd ha hn htk hm) I.kIn J e (fun z=>nomatch z) h
end
end L2

namespace L2
open PySem PySem.Spec PyProof.Rows

structure Room (k:Nat) (A:Around):Prop where
 hd:A.handled=none
 dp:A.depth+3*k+5<recursionLimit
 un:A.units+16*k+200<cLine
theorem Room.mono{j k:Nat}{A:Around}(r:Room k A)(h:j<=k):Room j A:=⟨r.hd,by have:=r.dp;omega,by have:=r.un;omega⟩
theorem Room.deeper{k:Nat}{A:Around}(r:Room (k+1) A)(env:Env):Room k (A.deeper env) :=
 ⟨r.hd,by have:=r.dp;show A.depth+1+3*k+5<_;omega,by have:=r.un;show A.units+3+16*k+200<_;omega⟩
theorem JeE{A:Around}{C:Addr}{us:List Value}{kw:List (Str×Value)}:(A.under (.builtin "type.__call__" ⟨.ref C::us,kw⟩)).depth=A.depth+1:=by first | rfl | simp[Rp,Code.weight,Code.isCreation,Code.isGuard,Code.isCaller,Code.frames,Rq,guardIds]
theorem JeF{A:Around}{C:Addr}{us:List Value}{kw:List (Str×Value)}:(A.under (.builtin "type.__call__" ⟨.ref C::us,kw⟩)).units=A.units+1:=by first | rfl | simp[Rp,Code.cUnits,Code.frames,Rq]
theorem Room.make{k:Nat}{A:Around}(r:Room (k+1) A)(C:Addr)(us:List Value)(kw:List (Str×Value)):Room k (A.under (.builtin "type.__call__" ⟨.ref C::us,kw⟩)) :=
 ⟨r.hd,by have:=r.dp;rw[JeE];omega,by have:=r.un;rw[JeF];omega⟩
theorem Room.depth{k:Nat}{A:Around}(r:Room k A):A.depth<recursionLimit:=by have:=r.dp;omega
theorem Room.units{k:Nat}{A:Around}(r:Room k A):A.units+64<cLine:=by have:=r.un;omega
noncomputable def WD:TA:=fun _ H Q=>Q [] H
noncomputable def Vn(ta:TE)(tr:TA):TA:=fun σ H Q=>ta σ H fun x H1=>tr σ H1 fun xs H2=>Q (x::xs) H2
section
variable{X:Cx}{e:Expr}{es:List Expr}{te:TE}{t:TA}{pos:Pos}
theorem Je:PA X [] WD:=fun _ _ _ _ H Q I h=>Ln ⟨[],H,I,.nil,h⟩
theorem Ja(ha:PE X e te)(hr:PA X es t)(hs:starEach (e::es) X.env=(false,eval e X.env)::starEach es X.env:=by rfl):PA X (e::es) (Vn te t):=by intro pos pins s σ H Q I h;rw[hs];show wpAny _ _ (spliced ((false,eval e X.env)::backTo pos (starEach es X.env))) _ _ s;refine Kb (thn (ha pins s σ H _ I h) fun u s1 ⟨x,H1,I1,r1,q1⟩=>?_);exact thn (hr pos pins s1 σ H1 _ I1 q1) fun us s2 ⟨xs,H2,I2,r2,q2⟩=>⟨x::xs,H2,I2,.cons r1 r2,q2⟩

noncomputable def Jkb(t:TA):TE:=fun σ H Q=>t σ H fun xs H1=>xs.length<=sizeLine/\∀p,H1 p=none->Q (.ref p) (upd H1 p (.tup xs))
noncomputable def Jmk(t:TA):TE:=fun σ H Q=>t σ H fun xs H1=>xs.length<=sizeLine/\∀p,H1 p=none->Q (.ref p) (upd H1 p (.lst xs))
theorem J9{x1}(h:PA X es t):PE X (.Tuple es x1 pos) (Jkb t):=by intro pins s σ H Q I hq;refine wpAny_Tuple_spliced (thn (h pos pins s σ H _ I hq) fun us s1 ⟨xs,H1,I1,r,z,q⟩=>⟨by rw[<- r.length];exact z,?_⟩);have hf:H1 s1.heap.objs.size=none:=I1.hok.fresh (Qm _);refine⟨.ref s1.heap.objs.size,upd H1 s1.heap.objs.size (.tup xs),I1.laid (t':=s1.toks) (fun b u e=>Qf _ e) (Qm _) ?_,rfl,q _ hf⟩;exact⟨z,us,r,⟨_,Qi _ rfl,rfl,_,rfl⟩⟩
theorem YL(h:PA X es t):PE X (.List es pos) (Jmk t):=by intro pins s σ H Q I hq;refine wpAny_List_spliced (thn (h pos pins s σ H _ I hq) fun us s1 ⟨xs,H1,I1,r,z,q⟩=>⟨by rw[<- r.length];exact z,?_⟩);have hf:H1 s1.heap.objs.size=none:=I1.hok.fresh (Qm _);refine⟨.ref s1.heap.objs.size,upd H1 s1.heap.objs.size (.lst xs),I1.laid (t':=s1.toks) (fun b u e=>Qf _ e) (Qm _) ?_,rfl,q _ hf⟩;exact⟨z,us,0,r,Qi _ rfl⟩
end

noncomputable abbrev Sp:=List V->Hp->VK->XK->Prop
noncomputable abbrev CXT:=List Env->Hp->Shared->XK->Value->Shared->Prop

structure Env0 (P:Program) (w:World) (K:Frag) (mg:Str->Option Value) (base:Heap) (A:Around) (outer:List Env) (s:Shared) (H:Hp):Prop where
 frames:A.frames=some outer
 mod:Mod K mg base
 bs:∀b o,base.get? b=some o->s.heap.get? b=some o/\H b=none
 bsz:base.objs.size<=s.heap.objs.size
 funs:s.heap.FunFrames base outer
 frf:∀b∈frs outer,H b=none
 hok:HOk P w H s.heap
 bare:AllBare s.gens
noncomputable def CE(outer:List Env)(P:Program)(w:World)(H:Hp)(s:Shared)(Q:VK)(u:Value)(s':Shared):Prop :=
 ∃v H',s'.os=s.os/\AllBare s'.gens/\Un (frs outer) [] H H' s.heap s'.heap/\HOk P w H' s'.heap/\RelV v u/\Q v H'
noncomputable def CR(CX:CXT)(outer:List Env)(P:Program)(w:World)(H:Hp)(s:Shared)(Q:VK)(E:XK)(r:Result)(s':Shared):Prop :=
 match r with
 | .ok (.ret u)=>CE outer P w H s Q u s'
 | .ok _=>False
 | .error e=>CX outer H s E e s'
structure FnOk (P:Program) (w:World) (K:Frag) (mg:Str->Option Value) (base:Heap) (CX:CXT) (k:Nat) (f:Addr) (fd:FuncData) (ps:List Str) (sp:Sp):Prop where
 len:∀vs H Q E,sp vs H Q E->vs.length=ps.length
 run:∀(A:Around) (outer:List Env) (s:Shared) (H:Hp) (args:Args) (us:List Value) (vs:List V) (Q:VK) (E:XK),Room k A->Env0 P w K mg base A outer s H->BindsTo s fd args (ps.zip us)->Vals vs us->sp vs H Q E ->
  codeAny (model P w) A (.call (.ref f) args) (CR CX outer P w H s Q E) s
theorem FnOk.imp{P:Program}{w:World}{K:Frag}{mg:Str->Option Value}{base:Heap}{CX:CXT}{k:Nat}{f:Addr}{fd:FuncData}{ps:List Str}{sp sp':Sp}(F:FnOk P w K mg base CX k f fd ps sp)
 (h:∀vs H Q E,sp' vs H Q E->sp vs H Q E):FnOk P w K mg base CX k f fd ps sp' :=
 ⟨fun vs H Q E q=>F.len vs H Q E (h _ _ _ _ q),fun A outer s H args us vs Q E hr he hb hv hs=>F.run A outer s H args us vs Q E hr he hb hv (h _ _ _ _ hs)⟩

theorem Env0.make{P:Program}{w:World}{K:Frag}{mg:Str->Option Value}{base:Heap}{A:Around}{outer:List Env}{s:Shared}{H:Hp}(e:Env0 P w K mg base A outer s H)(C:Addr)(us:List Value)(kw:List (Str×Value)) :
 Env0 P w K mg base (A.under (.builtin "type.__call__" ⟨.ref C::us,kw⟩)) outer s H:=⟨by first | exact e.frames | (simpa [Rp,Code.envs,Rq,pushEnvs] using e.frames),e.mod,e.bs,e.bsz,e.funs,e.frf,e.hok,e.bare⟩
section
variable{X:Cx}{pins:List (Addr×Obj)}{σ:St}{H:Hp}{s s':Shared}
theorem Inv.env0(I:Inv X pins σ H s):Env0 X.prog X.w X.K X.mg X.base X.A X.stack s H :=
 ⟨I.ok.frames,I.ok.mod,I.bs,Gi I.ok.bsz I.sz,I.stack,I.stkFree,I.hok,I.bare⟩
theorem Inv.after{Q:VK}{u:Value}(I:Inv X pins σ H s)(h:CE X.stack X.prog X.w H s Q u s'):EP X pins σ Q u s':=by obtain⟨v,H',os,bare,un,hok,r,q⟩:=h;obtain⟨hh,g,d,t,os'⟩:=s';obtain rfl:os'=s.os:=os;exact⟨v,H',I.call (h':=hh) (g':=g) (d':=d) (t':=t) (ch:=[]) un hok bare (fun b z=>absurd z (by simp)),r,q⟩
end

noncomputable def Jgo(sp:Sp)(dvs:List V)(E:XK)(t:TA):TE:=fun σ H Q=>t σ H fun vs H1=>sp (vs++dvs) H1 Q E
noncomputable def Jgq(C:Addr)(sp:Sp)(dvs:List V)(E:XK)(t:TA):TE:=fun σ H Q=>t σ H fun vs H1=>∀x dx,H1 x=none->H1 dx=none->dx≠x ->
 sp (.ref x::(vs++dvs)) (upd (upd H1 dx (.own x)) x (.ins C dx [])) (fun v H2=>v=.non/\Q (.ref x) H2) E

noncomputable def Binds(K:Frag)(fd:FuncData)(ps:List Str)(ds:List Value):Prop :=
 ∀(s:Shared) (us:List Value),K.In s.heap->(us++ds).length=ps.length->BindsTo s fd ⟨us,[]⟩ (ps.zip (us++ds))
theorem Binds.all{K:Frag}{fd:FuncData}{ps:List Str}(h:∀us:List Value,us.length=ps.length->bindArgs fd ⟨us,[]⟩=pure (ps.zip us)):Binds K fd ps []:=fun s us _ hl=>by rw[GR] at hl ⊢;exact .of_eq (h us hl)

noncomputable def ZI(CX:CXT)(X:Cx)(E:XK):Prop:=∀(pins:List (Addr×Obj)) (σ:St) (H:Hp) (s:Shared) (e:Value) (s':Shared),Inv X pins σ H s->CX X.stack H s E e s'->X.xe e s'

section
variable{X:Cx}{CX:CXT}{k:Nat}{f C:Addr}{fd:FuncData}{ps:List Str}{sp:Sp}{dvs:List V}{ds:List Value}{E:XK}{x m:Str}{p pos apos:Pos}{e o:Expr}{es:List Expr}{ta:TE}{t:TA}

theorem JoC{pins:List (Addr×Obj)}{σ:St}{H:Hp}{s:Shared}{Q:VK}{us:List Value}{vs:List V}(F:FnOk X.prog X.w X.K X.mg X.base CX k f fd ps sp)(hr:Room k X.A)(hb:Binds X.K fd ps ds)(hd:Vals dvs ds)(hx:ZI CX X E)
 (I:Inv X pins σ H s) (r:Vals vs us) (h:sp (vs++dvs) H Q E):wpAny (model X.prog X.w) X.A (call (.ref f) us) (EP X pins σ Q) X.xe s:=by
 have r2:Vals (vs++dvs) (us++ds):=r.append hd
 have hl:(us++ds).length=ps.length:=by rw[<- r2.length];exact F.len _ _ _ _ h
 refine wpAny_call (LY (F.run X.A X.stack s H ⟨us,[]⟩ (us++ds) (vs++dvs) Q E hr I.env0 (hb s us I.kIn hl) r2 h) fun r s' hq=>?_)
 cases r with
 | error e=>exact hx pins σ H s e s' I hq
 | ok fl =>
  cases fl with
  | ret u=>exact I.after hq
  | next=>exact G4 hq
  | brk=>exact G4 hq
  | cont=>exact G4 hq

theorem Jly(F:FnOk X.prog X.w X.K X.mg X.base CX k f fd ps sp)(hr:Room k X.A)(hg:Gl X x)(hm:X.mg x=some (.ref f))(hk:keepIn X.K (.ref f)=true)(hb:Binds X.K fd ps ds)(hd:Vals dvs ds)(hx:ZI CX X E)
 (ha:PA X (e::es) t) (hdb:(x == ("__debug__":Str))=false:=by decide) (he:starEach (e::es) X.env=(false,eval e X.env)::starEach es X.env:=by rfl) (hpl:(backTo pos (starEach es X.env)).any (·.1)=false:=by rfl) :
 PE X (.Call (.Name x p) (e::es) [] pos) (Jgo sp dvs E t):=by
 intro pins s σ H Q I h;refine KH (Jb4 I hg hm ?_ hdb);refine Rh (h₀:=X.base) I.ok.mod.kin hk (thn (ha pos pins s σ H _ I h) fun us s1 ⟨vs,H1,I1,r,q⟩=>⟨I1.kIn,?_⟩) he hpl;exact JoC F hr hb hd hx I1 r q
structure Mk (K:Frag) (C f:Addr):Prop where
 makes:makesIn K C=true
 init:findIn K (.ref C) "__init__"=some (some (.ref f))
 fn:PySem.W.isFn K (.ref f)=true
 kp:keepIn K (.ref C)=true

theorem JjS{pins:List (Addr×Obj)}{σ:St}{H:Hp}{s:Shared}{Q:VK}{us:List Value}{vs:List V}(M:Mk X.K C f)(F:FnOk X.prog X.w X.K X.mg X.base CX k f fd ps sp)(hr:Room (k+1) X.A)(hb:Binds X.K fd ps ds)(hd:Vals dvs ds)
 (hx:ZI CX X E) (I:Inv X pins σ H s) (r:Vals vs us)
 (h:∀x dx,H x=none->H dx=none->dx≠x->sp (.ref x::(vs++dvs)) (upd (upd H dx (.own x)) x (.ins C dx [])) (fun v H2=>v=.non/\Q (.ref x) H2) E) :
 wpAny (model X.prog X.w) X.A (call (.ref C) us) (EP X pins σ Q) X.xe s:=by
 have hq:=h (s.heap.objs.size+1) s.heap.objs.size (I.hok.fresh (Nat.le_succ _)) (I.hok.fresh (Qm _)) (QA (Kw _))
 have I2:=Inv.made (C:=C) I
 have r2:Vals (V.ref (s.heap.objs.size+1)::(vs++dvs)) (Value.ref (s.heap.objs.size+1)::(us++ds)):=.cons rfl (r.append hd)
 have hl:(Value.ref (s.heap.objs.size+1)::us++ds).length=ps.length:=by have e:=r2.length;rw[F.len _ _ _ _ hq] at e;exact e.symm
 refine wpAny_call (Ji2 (f:=f) I.kIn M.makes M.init (beq_iff_eq.mp M.fn) (LY (F.run _ X.stack _ _ ⟨Value.ref (s.heap.objs.size+1)::us,[]⟩ (Value.ref (s.heap.objs.size+1)::(us++ds)) _ _ E (hr.make C us [])
  (I2.env0.make C us []) (hb _ (Value.ref (s.heap.objs.size+1)::us) I2.kIn hl) r2 hq) fun r s' hq'=>?_))
 cases r with
 | error e=>exact hx pins σ _ _ e s' I2 hq'
 | ok fl =>
  cases fl with
  | ret u=>obtain⟨v,H',I3,rv,ev,q3⟩:=I2.after hq';subst ev;exact⟨rv,⟨V.ref (s.heap.objs.size+1),H',I3,rfl,q3⟩⟩
  | next=>exact G4 hq'
  | brk=>exact G4 hq'
  | cont=>exact G4 hq'
theorem JlB(M:Mk X.K C f)(F:FnOk X.prog X.w X.K X.mg X.base CX k f fd ps sp)(hr:Room (k+1) X.A)(hg:Gl X x)(hm:X.mg x=some (.ref C))(hb:Binds X.K fd ps ds)(hd:Vals dvs ds)(hx:ZI CX X E)
 (ha:PA X (e::es) t) (hdb:(x == ("__debug__":Str))=false:=by decide) (he:starEach (e::es) X.env=(false,eval e X.env)::starEach es X.env:=by rfl) (hpl:(backTo pos (starEach es X.env)).any (·.1)=false:=by rfl) :
 PE X (.Call (.Name x p) (e::es) [] pos) (Jgq C sp dvs E t):=by
 intro pins s σ H Q I h;refine KH (Jb4 I hg hm ?_ hdb);refine Rh (h₀:=X.base) I.ok.mod.kin M.kp (thn (ha pos pins s σ H _ I h) fun us s1 ⟨vs,H1,I1,r,q⟩=>⟨I1.kIn,?_⟩) he hpl;exact JjS M F hr hb hd hx I1 r q
end

section
variable{X:Cx}{CX:CXT}{k:Nat}{f C:Addr}{fd:FuncData}{ps ks:List Str}{sp:Sp}{E:XK}{x m:Str}{p pos apos kpos:Pos}{e o:Expr}{es:List Expr}{kws:List Keyword}{te ta:TE}{t tk:TA}{nm:Option Str}
variable{g:List Value->List Value->List Value}{gV:List V->List V->List V}
end

structure FnScope (N P:List Str) (sc:Scope):Prop where
 kind:sc.kind=.function
 co:sc.isCoroutine=false
 gen:sc.isGenerator=false
 nd:N.Nodup
 pre:N.take P.length=P
 par:∀x∈P,sc.names.lookup x=some .local\/sc.names.lookup x=some .cell
 nofree:∀y∈sc.names,y.2≠.free

theorem Ja2{kindOf:Str->Option NameKind}{x:Str}:∀{binds:List (Str×Value)} {m:Str->Option Value},(∀v,(x,v)∉binds)->bindL kindOf binds m x=m x
 | [],_,_=>rfl
 | (n,v)::r,m,h=>by
  unfold bindL;rw[Ja2 fun w hw=>h w (Qc _ hw)];split
  ·have:x≠n:=by rintro rfl;exact h v Qd
   simp[this]
  ·rfl
theorem Ja0{kindOf:Str->Option NameKind}{x:Str}:∀{binds:List (Str×Value)} {m:Str->Option Value},(∀v,(x,v)∉binds)->bindC kindOf binds m x=m x
 | [],_,_=>rfl
 | (n,v)::r,m,h=>by
  unfold bindC;rw[Ja0 fun w hw=>h w (Qc _ hw)];split
  ·rfl
  ·have:x≠n:=by rintro rfl;exact h v Qd
   simp[this]
theorem Ja1{kindOf:Str->Option NameKind}{x:Str}{v:Value}:∀{P:List Str} {vs:List Value} {i:Nat} {m:Str->Option Value},P.Nodup->P[i]?=some x->vs[i]?=some v->kindOf x=some .local ->
 bindL kindOf (P.zip vs) m x=some v
 | [],_,_,_,_,h,_,_=>by simp at h
 | _::_,[],_,_,_,_,h,_=>by simp at h
 | p::P,w::vs,0,m,nd,h1,h2,hk=>by simp at h1 h2;subst h1;subst h2;show bindL kindOf ((p,w)::P.zip vs) m p=_;unfold bindL;rw[Ja2 fun v hv=>(QP.mp nd).1 (KN hv).1,if_pos hk];simp
 | p::P,w::vs,i+1,m,nd,h1,h2,hk=>by show bindL kindOf ((p,w)::P.zip vs) m x=_;unfold bindL;exact Ja1 (i:=i) (QP.mp nd).2 (by simpa using h1) (by simpa using h2) hk
theorem JaZ{kindOf:Str->Option NameKind}{x:Str}{v:Value}:∀{P:List Str} {vs:List Value} {i:Nat} {m:Str->Option Value},P.Nodup->P[i]?=some x->vs[i]?=some v->kindOf x≠some .local ->
 bindC kindOf (P.zip vs) m x=some v
 | [],_,_,_,_,h,_,_=>by simp at h
 | _::_,[],_,_,_,_,h,_=>by simp at h
 | p::P,w::vs,0,m,nd,h1,h2,hk=>by simp at h1 h2;subst h1;subst h2;show bindC kindOf ((p,w)::P.zip vs) m p=_;unfold bindC;rw[Ja0 fun v hv=>(QP.mp nd).1 (KN hv).1,if_neg hk];simp
 | p::P,w::vs,i+1,m,nd,h1,h2,hk=>by show bindC kindOf ((p,w)::P.zip vs) m x=_;unfold bindC;exact JaZ (i:=i) (QP.mp nd).2 (by simpa using h1) (by simpa using h2) hk

noncomputable def Vw(N:List Str)(vs:List V):St:=vs.map some++QH (N.length-vs.length) none

noncomputable def JgU(CX:CXT)(P:Program)(w:World)(K:Frag)(mg:Str->Option Value)(base:Heap)(N:List Str)(qual:Str)(scope:Scope)(f:Addr)(cd:Value)(A:Around)(outer:List Env)(s:Shared)(H:Hp)(E:XK):Cx where
 prog:=P
 w:=w
 K:=K
 mg:=mg
 base:=base
 A:=A.deeper (envOfC qual scope s.heap.objs.size f cd)
 N:=N
 s₀:=s
 H₀:=H
 env:=envOfC qual scope s.heap.objs.size f cd
 outer:=outer
 stack:=envOfC qual scope s.heap.objs.size f cd::outer
 ex:=[]
 calm:=true
 fn:=fun _=>true
 pn:=[]
 xe:=fun e s'=>wpAny (model P w) (A.deeper (envOfC qual scope s.heap.objs.size f cd)) (leaving (envOfC qual scope s.heap.objs.size f cd) e) (fun _ s''=>CX outer H s E e s'') (fun e' s''=>CX outer H s E e' s'') s'

theorem JcQ{sc:Scope}{n:Nat}{x:Str}(h:sc.names.lookup x=some .cell):∃c,(cellsFrom n sc.names []).lookup x=some c:=by have q:=ML sc.names n [] (.inl h);exact Mu.mp q

theorem Jg6{CX:CXT}{P:Program}{w:World}{K:Frag}{mg:Str->Option Value}{base:Heap}{N ps:List Str}{qual:Str}{scope:Scope}{f:Addr}{cd:Value}{A:Around}{outer:List Env}{s s1:Shared}{H:Hp}{E:XK}{us:List Value}{vs:List V}
 (S:FnScope N ps scope) (hd:A.handled=none) (e0:Env0 P w K mg base A outer s H) (hl:vs.length=ps.length) (r:Vals vs us)
 (x:InCallC s s.heap.objs.size (bindL (envOfC qual scope s.heap.objs.size f cd).kindOf (ps.zip us) fun _=>none) (cellsFrom (s.heap.objs.size+1) scope.names []) (bindC (envOfC qual scope s.heap.objs.size f cd).kindOf (ps.zip us) fun _=>none) s1) :
 Inv (JgU CX P w K mg base N qual scope f cd A outer s H E) [] (Vw N vs) H s1:=by
 have hpl:ps.length<=N.length:=by have:=congrArg List.length S.pre;rw[Lz] at this;omega
 obtain⟨h1,tk,rfl,hk⟩:=x.done;have noA:∀b:Addr,b∉(JgU CX P w K mg base N qual scope f cd A outer s H E).ex:=fun b z=>absurd (show b∈([]:List Addr) from z) (by simp)
 refine⟨⟨e0.mod,S.kind,rfl,rfl,Qm _,fun y z c h1 h2=>?_,fun y hy=>?_,fun y c _ h=>?_,fun _=>hd,Around.frames_deeper e0.frames,.inr ⟨rfl,rfl⟩,fun b z=>absurd z (noA b),e0.bs,e0.bsz,fun b _ _=>noA b,fun b z=>absurd z (noA b),e0.funs,e0.frf⟩,
  rfl,e0.bare,Un.kept hk,⟨_,x.toInCall.ns,fun i y v h1 h2 h3=>?_⟩,fun y c h=>⟨_,x.cell y c h⟩,e0.hok.fresh (Qm _),fun y c h=>?_,fun p hp=>absurd (show p∈([]:List (Addr×Obj)) from hp) (by simp),e0.hok.kept hk,?_⟩
 ·exact name_of_addr x.apart (G6 h1) (G6 h2)
 ·have hy:scope.names.lookup y=some .cell\/scope.names.lookup y=some .free:=hy;rcases hy with hy|hy
  ·exact JcQ hy
  ·exact absurd rfl (S.nofree _ (G6 hy))
 ·exact GO (x.above y c (G6 h))
 ·have hi:i<vs.length:=by
   unfold Vw at h2
   by_cases hi:i<vs.length
   ·exact hi
   ·rw[Q2 (by simpa using hi)] at h2;rw[MC] at h2;split at h2 <;> cases h2
  have ha:vs[i]?=some v:=by
   unfold Vw at h2;rw[QQ (by simpa using hi),Qq] at h2
   cases e:vs[i]? with
   | none=>rw[e] at h2;cases h2
   | some a=>rw[e] at h2;cases h2;rfl
  obtain⟨u,hu,rv⟩:=r.get ha
  have hp:ps[i]?=some y:=by rw[<- S.pre,List.getElem?_take_of_lt (by omega)];exact h1
  have ndP:ps.Nodup:=by rw[<- S.pre];exact S.nd.sublist (List.take_sublist _ _)
  refine⟨u,rv,?_⟩;rcases S.par y (QF hp) with k|k
  ·exact .inl ⟨k,Ja1 ndP hp hu k⟩
  ·obtain⟨c,e⟩:=JcQ (n:=s.heap.objs.size+1) k;refine .inr ⟨.inl k,c,e,?_⟩;have q:=x.cell y c e;rw[JaZ ndP hp hu (by show scope.names.lookup y≠_;rw[k];decide)] at q;exact q
 ·exact e0.hok.fresh (GO (x.above y c (G6 h)))
 ·unfold Vw;show _=N.length;rw[Qv,Qk,GA];omega

theorem Jpl{CX:CXT}{P:Program}{w:World}{K:Frag}{mg:Str->Option Value}{base:Heap}{k:Nat}{f:Addr}{name qual:Str}{params:Arguments}{body:List Stmt}{scope:Scope}{dV kV doc pm cdv ct oc:Value}{an od:Option Addr}
 {osl:Array (Option Value)} {N ps:List Str} {sp:Sp} (lk:K.lookup f=some ⟨oc,od,.func (fnOf name qual params body scope dV kV doc pm an cdv ct),osl⟩) (hcd:codeIn K cdv qual=true) (S:FnScope N ps scope)
 (len:∀vs H Q E,sp vs H Q E->vs.length=ps.length)
 (hbody:∀(A:Around) (outer:List Env) (s:Shared) (H:Hp) (vs:List V) (Q:VK) (E:XK),Room k (A.deeper (envOfC qual scope s.heap.objs.size f cdv))->sp vs H Q E ->
  ∃t,PSs (JgU CX P w K mg base N qual scope f cdv A outer s H E) body t/\t { nx:=fun _ H'=>Q .non H',rt:=Q } (Vw N vs) H) :
 FnOk P w K mg base CX (k+1) f (fnOf name qual params body scope dV kV doc pm an cdv ct) ps sp:=by
 refine⟨len,fun A outer s H args us vs Q E hr e0 hb r hsp=>?_⟩;have hl:=len _ _ _ _ hsp;have KX:K.In s.heap:=e0.mod.kin.keeps fun b o e=>(e0.bs b o e).1
 have lim:s.heap.NoLimit:=e0.mod.nolimit.keeps fun b o e=>(e0.bs b o e).1
 have hkind:∀y∈ps.zip us,scope.names.lookup y.1=some .local\/(scope.names.lookup y.1=some .cell/\((cellsFrom (s.heap.objs.size+1) scope.names []).lookup y.1).isSome=true):=fun⟨n,v⟩ hy=>by
  rcases S.par n (KN hy).1 with q|q
  ·exact .inl q
  ·exact .inr ⟨q,ML _ _ _ (.inl q)⟩
 refine codeAny_call_function hr.depth (KX _ _ lk) rfl S.co S.gen rfl (PySem.W.codeRec_of KX hcd) (hb _ _ _ _ ?_);refine wpAny_newFunctionEnv_cells S.kind hkind fun env he s1 x=>?_
 subst he;refine⟨lim.keeps x.toInCall.keep,codeAny_func ?_⟩;obtain⟨t,ht,hq⟩:=hbody A outer s H vs Q E (hr.deeper _) hsp;have I:Inv (JgU CX P w K mg base N qual scope f cdv A outer s H E) [] (Vw N vs) H s1:=Jg6 S hr.hd e0 hl r x;refine KG (ht [] s1 (Vw N vs) H _ I hq) (fun fl s' hs=>?_) fun e s' hs=>hs
 have fin:∀{σ':St} {H':Hp} {v:V} {u:Value},Inv (JgU CX P w K mg base N qual scope f cdv A outer s H E) [] σ' H' s'->RelV v u->Q v H'->CE outer P w H s Q u s' :=
  fun {σ' H' v u} J rv q=>⟨v,H',J.os,J.bare,J.base,J.hok,rv,q⟩
 cases fl with
 | ret u=>obtain⟨v,σ',H',J,rv,q⟩:=hs;exact fin J rv q
 | next=>obtain⟨σ',H',J,q⟩:=hs;exact fin (v:=V.non) (u:=Value.none) J rfl q
 | brk=>obtain⟨_,_,_,q⟩:=hs;exact G4 q
 | cont=>obtain⟨_,_,_,q⟩:=hs;exact G4 q
end L2

namespace L2
open PySem PySem.Spec PyProof.Rows
section
variable{X:Cx}{x:Str}{p pos:Pos}{e:Expr}{es:List Expr}{t:TA}{id T:String}{r:List V->Hp->VK->Prop}

noncomputable def tCB(r:List V->Hp->VK->Prop)(t:TA):TE:=fun σ H Q=>t σ H fun vs H1=>r vs H1 Q
theorem JV(hc:YS X (.builtin id) r)(hg:Gl X x)(hm:X.mg x=none)(hv:bootBuiltins x=some (.builtin id))(ha:PA X (e::es) t)(hn:x≠"__name__":=by decide)(hdb:(x == ("__debug__":Str))=false:=by decide)
 (he:starEach (e::es) X.env=(false,eval e X.env)::starEach es X.env:=by rfl) (hpl:(backTo pos (starEach es X.env)).any (·.1)=false:=by rfl):PE X (.Call (.Name x p) (e::es) [] pos) (tCB r t):=by
 intro pins s σ H Q I h;refine KH (Vb I hg hm hv ?_ hn hdb);exact PyProof.Rows.callWith_builtin1 (thn (ha pos pins s σ H _ I h) fun us s1 ⟨vs,H1,I1,r1,q1⟩=>hc pins s1 σ H1 vs us Q I1 r1 q1) he hpl
theorem WZ(hc:YS X (.type T) r)(hg:Gl X x)(hm:X.mg x=none)(hv:bootBuiltins x=some (.type T))(ha:PA X (e::es) t)(hn:x≠"__name__":=by decide)(hdb:(x == ("__debug__":Str))=false:=by decide)
 (he:starEach (e::es) X.env=(false,eval e X.env)::starEach es X.env:=by rfl) (hpl:(backTo pos (starEach es X.env)).any (·.1)=false:=by rfl):PE X (.Call (.Name x p) (e::es) [] pos) (tCB r t):=by
 intro pins s σ H Q I h;refine KH (Vb I hg hm hv ?_ hn hdb);exact Go (thn (ha pos pins s σ H _ I h) fun us s1 ⟨vs,H1,I1,r1,q1⟩=>hc pins s1 σ H1 vs us Q I1 r1 q1) he hpl
end
end L2

namespace HT
open PySem PyProof.Rows

theorem Jip(A:Around)(s:Shared)(a:Int)(t:Tok)(c:Int)(u:Tok):∃e,SeqAt.EqAt A s (.int a t) (.int c u) e/\(e=true↔a=c) :=
 ⟨(a == c),SeqAt.EqAt.int_int a t c u,by simp⟩
section
open PySem.SeqAt
open PySem.AutoSeq1 (wpAny_loadPart')
open PySem.MeetsSeq PySem.MeetsSeq2 PySem.MeetsSeq3

end

section
variable{prog:Program}{w:World}{A:Around}{E:Value->Shared->Prop}{s:Shared}

theorem JkC{t b:Addr}{vs ws:List Value}{Q:Value->Shared->Prop}(ht:IsTup s.heap t vs.toArray)(hb:IsTup s.heap b ws.toArray)(hv:vs≠[])
 (h1:ws=[]->Q (.ref t) s) (h2:ws≠[]->Q (.ref s.heap.objs.size) { s with heap:=s.heap.push { cls:=.type "tuple",data:=.seq (vs++ws).toArray } })
 (hsz:vs.length+ws.length<=sizeLine):wpAny (model prog w) A (binaryOp .Add (.ref t) (.ref b)) Q E s:=by
 obtain⟨⟨cls,dd,data,sl⟩,ho,hc,n,hd⟩:=id ht;obtain⟨⟨cls2,dd2,data2,sl2⟩,ho2,hc2,n2,hd2⟩:=id hb;simp only at hc hd hc2 hd2;subst hc hd hc2 hd2;have e:vs.toArray++ws.toArray=(vs++ws).toArray:=by simp
 by_cases hw:ws=[]
 ·exact concat_meets ⟨_,ho,rfl⟩ ⟨_,ho2,rfl⟩ noFill_tuple_add seq_tuple_add MM MD (Mv _ _)
   (tuple_addW1 t b vs.toArray ws.toArray n n2 dd dd2 sl sl2 (by simpa using hv) (by simp[hw])) ⟨ho,ho2,h1 hw⟩
 ·refine concat_meets ⟨_,ho,rfl⟩ ⟨_,ho2,rfl⟩ noFill_tuple_add seq_tuple_add MM MD (Mv _ _)
   (tuple_addW2 t b vs.toArray ws.toArray n n2 dd dd2 sl sl2 (by simpa using hv) (by simpa using hw) (by rw[Qp,Qp];exact hsz)) ⟨ho,ho2,?_⟩
  rw[e];exact h2 hw

noncomputable def sIx(n d:Nat):Option Int->Nat
 | none=>d
 | some v=>if v<0 then(v+(n:Int)).toNat else min v.toNat n
theorem JdJ(n d:Nat):sIx n d none=d:=rfl
theorem Jl1(n d k:Nat):sIx n d (some (k:Int))=min k n:=by show(if (k:Int)<0 then((k:Int)+(n:Int)).toNat else min (k:Int).toNat n)=min k n;rw[if_neg (by omega),KY]
theorem JoE(n d:Nat)(hd:d<=n)(o:Option Int):sIx n d o<=n:=by
 cases o with
 | none=>exact hd
 | some v =>
  show(if v<0 then(v+(n:Int)).toNat else min v.toNat n)<=n
  by_cases hv:v<0
  ·rw[if_pos hv];omega
  ·rw[if_neg hv];exact Nat.min_le_right _ _
theorem Jfn(v:Int)(n d:Nat):(if v<0 then max (v+(n:Int)) 0 else min v (n:Int))=((sIx n d (some v):Nat):Int):=by
 show(if v<0 then max (v+(n:Int)) 0 else min v (n:Int))=(((if v<0 then(v+(n:Int)).toNat else min v.toNat n):Nat):Int)
 by_cases hv:v<0
 ·simp only[if_pos hv];omega
 ·simp only[if_neg hv];omega
theorem Jd4(lo hi:Option Int)(n:Nat):K5 lo hi 1 (n:Int)=(((sIx n 0 lo:Nat):Int),((sIx n n hi:Nat):Int)):=by
 have h1:¬((1:Int)<0):=by omega
 unfold K5;simp only[h1,if_false];refine KO ?_ ?_
 ·cases lo with
  | none=>rfl
  | some v=>exact Jfn v n 0
 ·cases hi with
  | none=>rfl
  | some v=>exact Jfn v n n
theorem JeO(i j:Nat):Kg (i:Int) (j:Int) 1=j-i:=by
 unfold Kg;have h1:(1:Int)>0:=by omega
 simp only[h1,if_true,Int.ediv_one];split <;> omega
theorem Jaz{v:Value}{o:Option Int}{Q:Option Int->Shared->Prop}(p:IsPart v o)(h:Q o s):wpAny (model prog w) A (Builtin.Slice.slicePartIndex v) Q E s:=by
 cases p with
 | none=>exact slicePart_none h
 | int i t=>exact slicePart_int h
theorem Vm{sl:Addr}{vl vu:Value}{lo hi:Option Int}{n:Nat}{Q:Int×Int×Nat->Shared->Prop}(hs:s.heap.IsSliceOf sl vl vu .none)(pl:IsPart vl lo)(pu:IsPart vu hi)
 (h:Q (((sIx n 0 lo:Nat):Int),1,sIx n n hi-sIx n 0 lo) s):wpAny (model prog w) A (L8 (.ref sl) (pure (n:Int))) Q E s:=by
 obtain⟨os,hos,hcs,hds⟩:=id hs;unfold L8 Builtin.Slice.sliceFields;refine Qa (Qa (QN hos hds (x:=vl) rfl (Qa (QN hos hds (x:=vu) rfl (Qa (QN hos hds (x:=.none) rfl (Qg ?_)))))));refine Qa (slicePart_none ?_);show wpAny _ _ (if ((1:Int) == 0)=true then _ else _) _ _ s;rw[if_neg (by decide)];refine Qa (Jaz pl (Qa (Jaz pu (Qa (Qg ?_)))))
 show wpAny _ _ (match K5 lo hi 1 (n:Int) with|(lo,hi)=>pure (lo,(1:Int),Kg lo hi 1)) _ _ s;rw[Jd4 lo hi n]
 show wpAny _ _ (pure (((sIx n 0 lo:Nat):Int),(1:Int),Kg ((sIx n 0 lo:Nat):Int) ((sIx n n hi:Nat):Int) 1)) _ _ s;rw[JeO];exact Qg h
theorem Jjr(xs:Array Value)(i k:Nat):((Q0 k).filterMap fun(m:Nat)=>xs[((i:Int)+(m:Int)*1).toNat]?).toArray=((xs.toList.drop i).take k).toArray:=by
 have e:(fun(m:Nat)=>xs[((i:Int)+(m:Int)*1).toNat]?)=fun m=>xs[i+m]?:=by
  funext m
  have:((i:Int)+(m:Int)*1).toNat=i+m:=by omega
  rw[this]
 rw[e];have:=pick_run xs i k;rw[List.filterMap_map] at this;have e2:((fun x=>xs[x]?) ∘ fun x=>i+x)=fun m=>xs[i+m]?:=rfl
 rw[e2] at this;rw[this]

theorem Wp{t sl:Addr}{items:Array Value}{vl vu:Value}{lo hi:Option Int}{Q:Value->Shared->Prop}(ht:IsTup s.heap t items)(hs:s.heap.IsSliceOf sl vl vu .none)(pl:IsPart vl lo)(pu:IsPart vu hi)
 (hw:¬(sIx items.size 0 lo=0/\sIx items.size items.size hi=items.size))
 (h:Q (.ref s.heap.objs.size) { s with heap:=s.heap.push { cls:=.type "tuple",data:=.seq ((items.toList.drop (sIx items.size 0 lo)).take (sIx items.size items.size hi-sIx items.size 0 lo)).toArray } })
 (hsz:items.size<=sizeLine):wpAny (model prog w) A (getItem (.ref t) (.ref sl)) Q E s:=by
 have htake:sizeOk (.seq ((items.toList.drop (sIx items.size 0 lo)).take (sIx items.size items.size hi-sIx items.size 0 lo)).toArray):=by show((items.toList.drop (sIx items.size 0 lo)).take (sIx items.size items.size hi-sIx items.size 0 lo)).toArray.size<=sizeLine;rw[Qp,Lz,K2,Gs];omega
 have hj:sIx items.size items.size hi<=items.size:=JoE _ _ (Qm _) hi;obtain⟨os,hos,hcs,hds⟩:=id hs
 have hTs:s.TypeIs (.ref sl) "slice":=⟨os,hos,hcs⟩
 unfold getItem
 try with_reducible refine GG ?_
 first|refine Qa (Qg ?_)|skip
 refine Qa (wpAny_sequenceKey ht.typeIs (by decide) ?_);refine Qa (QK (name:=Gb "__getitem__") ht.typeIs Q8
  (QS Q8 ht.typeIs entry_tuple_getitem ?_ (args_tuple_getitem _ _)))
 show wpAny _ _ (L9 (.ref t) >>= _) _ _ s;refine Qa (tupleItemsOf_ ht ?_);refine Qa (MN hTs ?_);rw[if_pos (by decide)];refine Qa (Vm hs pl pu ?_)
 have hno:¬((((sIx items.size 0 lo:Nat):Int) == 0 && (1:Int) == 1 && (sIx items.size items.size hi-sIx items.size 0 lo) == items.size)=true):=by intro q;rw[QT,QT] at q;have q1:((sIx items.size 0 lo:Nat):Int)=0:=eq_of_beq q.1.1;have q2:sIx items.size items.size hi-sIx items.size 0 lo=items.size:=eq_of_beq q.2;exact hw ⟨by omega,by omega⟩
 show wpAny _ _ (if (((sIx items.size 0 lo:Nat):Int) == 0 && (1:Int) == 1 && (sIx items.size items.size hi-sIx items.size 0 lo) == items.size)=true then _ else _) _ _ s;rw[if_neg hno,Jjr]
 first
  | exact Qa (m:=Kp _) (Q3 (Qg ⟨_,rfl,Qg h⟩) htake)
  | exact Qa (m:=Kp _) (Q3 (Qa (Qg (Qg ⟨_,rfl,Qg h⟩))) htake)
  | exact Qa (Qa (m:=Kp _) (Q3 (Qg (Qg ⟨_,rfl,Qg h⟩)) htake))
  | exact Qa (Qa (m:=Kp _) (Q3 (Qg ⟨_,rfl,Qg h⟩) htake))
end
end HT

namespace L2
open PySem PySem.Spec PyProof.Rows

noncomputable abbrev TO:=St->Hp->(Option Int->Hp->Prop)->Prop
noncomputable def PO(X:Cx)(e:Option Expr)(t:TO):Prop :=
 ∀(pins:List (Addr×Obj)) (s:Shared) (σ:St) (H:Hp) (Q:Option Int->Hp->Prop),Inv X pins σ H s->t σ H Q ->
  wpAny (model X.prog X.w) X.A (evalPart e X.env) (fun u s'=>∃o H',Inv X pins σ H' s'/\IsPart u o/\Q o H') X.xe s
noncomputable def Jgr:TO:=fun _ H Q=>Q none H
noncomputable def JmY(t:TE):TO:=fun σ H Q=>t σ H fun x H1=>∃i,x=.int i/\Q (some i) H1

theorem UW{ns:List Int}:∀{us:List Value},Vals (ns.map V.int) us->IntsAre us ns:=by
 induction ns with
 | nil=>intro us r;rw[KI] at r;cases r;exact .nil
 | cons n ns ih =>
  intro us r;rw[Qe] at r
  cases r with
  | cons r1 r2=>obtain⟨t,e⟩:=r1;subst e;exact .cons n t (ih r2)

section
variable{X:Cx}{e:Expr}{te:TE}{lo hi:Option Expr}{tl th:TO}{pos p2:Pos}

theorem Zy:PO X none Jgr:=by intro pins s σ H Q I h;rw[evalPart_none];exact Qg ⟨none,H,I,.none,h⟩
theorem Zz(h:PE X e te):PO X (some e) (JmY te):=by
 intro pins s σ H Q I hw;rw[evalPart_some];refine thn (h pins s σ H _ I hw) fun u s1 ⟨x,H1,I1,r1,q1⟩=>?_
 obtain⟨i,rfl,q⟩:=q1;obtain⟨t,rfl⟩:=r1;exact⟨some i,H1,I1,.int i t,q⟩

noncomputable def SlR(X:Cx)(r:V->Option Int->Option Int->Hp->VK->Prop):Prop :=
 ∀(pins:List (Addr×Obj)) (s:Shared) (σ:St) (H:Hp) (x:V) (v vl vu:Value) (lo hi:Option Int) (sl:Addr) (Q:VK),Inv X pins σ H s->RelV x v->s.heap.IsSliceOf sl vl vu .none->IsPart vl lo->IsPart vu hi->r x lo hi H Q ->
  ∃T id,typeLookup (.type T) "__getitem__"=pure (some (.builtin id))/\s.TypeIs v T/\wpAny (model X.prog X.w) X.A (getItem v (.ref sl)) (EP X pins σ Q) X.xe s
theorem SlR.or{r r':V->Option Int->Option Int->Hp->VK->Prop}(h:SlR X r)(h':SlR X r'):SlR X (fun x lo hi H Q=>r x lo hi H Q\/r' x lo hi H Q):=by
 intro pins s σ H x v vl vu lo hi sl Q I rx hs pl pu q;rcases q with q|q
 ·exact h pins s σ H x v vl vu lo hi sl Q I rx hs pl pu q
 ·exact h' pins s σ H x v vl vu lo hi sl Q I rx hs pl pu q
noncomputable def tSl(r:V->Option Int->Option Int->Hp->VK->Prop)(te:TE)(tl th:TO):TE:=fun σ H Q=>te σ H fun x H1=>tl σ H1 fun l H2=>th σ H2 fun u H3=>r x l u H3 Q
theorem Wv{r:V->Option Int->Option Int->Hp->VK->Prop}(hr:SlR X r)(he:PE X e te)(hl:PO X lo tl)(hu:PO X hi th):PE X (.Subscript e (.Slice lo hi none p2) pos) (tSl r te tl th):=by
 intro pins s σ H Q I h;refine Subscript_ (thn (he pins s σ H _ I h) fun v s1 ⟨x,H1,I1,r1,q1⟩=>?_);refine wpAny_Slice (thn (hl pins s1 σ H1 _ I1 q1) fun vl s2 ⟨l,H2,I2,pl,q2⟩=>thn (hu pins s2 σ H2 _ I2 q2) fun vu s3 ⟨u,H3,I3,pu,q3⟩=>?_);rw[evalPart_none];refine Qg ?_;have I4:Inv X pins σ H3 { s3 with heap:=s3.heap.push { cls:=.type "slice",data:=.fields #[vl,vu,.none] } }:=I3.kept (t':=s3.toks) fun b ob q=>Qf _ q
 obtain⟨T,id,hT,ht,hg⟩:=hr pins { s3 with heap:=s3.heap.push { cls:=.type "slice",data:=.fields #[vl,vu,.none] } } σ H3 x v vl vu l u s3.heap.objs.size Q I4 r1 (Heap.IsSliceOf.new ..) pl pu q3;show wpAny (model X.prog X.w) X.A (subscriptTail e (.Slice lo hi none p2) v (.ref s3.heap.objs.size)) (EP X pins σ Q) X.xe { s3 with heap:=s3.heap.push { cls:=.type "slice",data:=.fields #[vl,vu,.none] } };exact tail_any (ops:=[.ref s3.heap.objs.size,v]) ht hT hg (by with_unfolding_all rfl)

noncomputable def JaN(xs:List V)(lo hi:Option Int):List V:=(xs.drop (HT.sIx xs.length 0 lo)).take (HT.sIx xs.length xs.length hi-HT.sIx xs.length 0 lo)
theorem Zb(xs:List V)(lo hi:Option Int):(JaN xs lo hi).length<=xs.length:=by unfold JaN;rw[Lz,K2];omega
noncomputable def JpR(K:Frag):V->Option Int->Option Int->Hp->VK->Prop:=fun x lo hi H Q=>∃a xs,x=.ref a/\SqT K H a xs ∧
 ¬(HT.sIx xs.length 0 lo=0/\HT.sIx xs.length xs.length hi=xs.length)/\∀p,H p=none->Q (.ref p) (upd H p (.tup (JaN xs lo hi)))
theorem sl_tup:SlR X (JpR X.K):=by
 intro pins s σ H x v vl vu lo hi sl Q I rx hs pl pu h;obtain⟨a,xs,rfl,hx,hw,q⟩:=h;cases rx;obtain⟨its,r,ht,hz⟩:=I.tuple hx;have hlen:its.toArray.size=xs.length:=by rw[Qp];exact r.length.symm
 refine⟨"tuple",_,Q8.lookup,ht.typeIs,?_⟩;refine HT.Wp ht hs pl pu (by rw[hlen];exact hw) ?_ (by rw[hlen];exact hz);rw[hlen];refine⟨.ref s.heap.objs.size,_,I.laid (t':=s.toks) (o:=.tup (JaN xs lo hi)) (fun b ob q=>Qf _ q) (Qm _) ?_,rfl,q _ (I.hok.fresh (Qm _))⟩;exact⟨Gi (Zb xs lo hi) hz,_,(r.drop (HT.sIx xs.length 0 lo)).take (HT.sIx xs.length xs.length hi-HT.sIx xs.length 0 lo),IsTup.new _ _⟩

noncomputable def JmS(K:Frag):R2:=fun x y H Q=>∃a b xs ys,x=.ref a/\y=.ref b/\SqT K H a xs/\SqT K H b ys/\xs≠[]/\xs.length+ys.length<=sizeLine ∧
 (ys=[]->Q (.ref a) H)/\(ys≠[]->∀p,H p=none->Q (.ref p) (upd H p (.tup (xs++ys))))
theorem Vals.nil_iff{xs:List V}{us:List Value}(r:Vals xs us):us=[]↔xs=[]:=by
 cases r with
 | nil=>simp
 | cons _ _=>simp
theorem Jlv:OpR X (binaryOp .Add) (JmS X.K):=by
 intro pins s σ H x y v u Q I rx ry h;obtain⟨a,b,xs,ys,rfl,rfl,ha,hb,hx,hz,q1,q2⟩:=h;cases rx;cases ry;obtain⟨its,r1,p1,_⟩:=I.tuple ha;obtain⟨its2,r2,p2,_⟩:=I.tuple hb;refine HT.JkC p1 p2 (fun z=>hx (r1.nil_iff.mp z)) (fun z=>⟨.ref a,H,I,rfl,q1 (r2.nil_iff.mp z)⟩) (fun z=>?_) (by rw[<- r1.length,<- r2.length];exact hz);refine⟨.ref s.heap.objs.size,_,I.laid (t':=s.toks) (o:=.tup (xs++ys)) (fun b ob q=>Qf _ q) (Qm _) ?_,rfl,q2 (fun w=>z (r2.nil_iff.mpr w)) _ (I.hok.fresh (Qm _))⟩
 exact⟨by rw[Qv];exact hz,_,r1.append r2,IsTup.new _ _⟩
end
end L2

namespace L2
open PySem PySem.Spec PyProof.Rows

noncomputable def ixN(n:Nat)(i:Int):Option Nat:=if 0<=i then(if i<n then some i.toNat else none) else if -(n:Int)<=i then some (i+n).toNat else none
noncomputable def atI{α:Type}(xs:List α)(i:Int):Option α:=(ixN xs.length i).bind fun j=>xs[j]?
theorem Jk7{n:Nat}{i:Int}{j:Nat}(h:ixN n i=some j):seqIndex? i n=some j/\j<n/\-(n:Int)<=i/\i<n:=by
 unfold ixN at h
 by_cases h0:0<=i
 ·rw[if_pos h0] at h
  by_cases h1:i<n
  ·rw[if_pos h1] at h;have e:i.toNat=j:=QG h;exact⟨by rw[seqIndex_of h0 h1,e],by omega,by omega,h1⟩
  ·rw[if_neg h1] at h;cases h
 ·rw[if_neg h0] at h
  by_cases h1:-(n:Int)<=i
  ·rw[if_pos h1] at h;have e:(i+n).toNat=j:=QG h;exact⟨by rw[seqIndex_neg (by omega) h1,e],by omega,h1,by omega⟩
  ·rw[if_neg h1] at h;cases h
theorem Jbx{α:Type}{xs:List α}{i:Int}{v:α}(h:atI xs i=some v):∃j,seqIndex? i xs.length=some j/\xs[j]?=some v/\j<xs.length/\-(xs.length:Int)<=i/\i<xs.length:=by
 unfold atI at h
 cases e:ixN xs.length i with
 | none=>rw[e] at h;cases h
 | some j=>rw[e] at h;obtain⟨h1,h2,h3,h4⟩:=Jk7 e;exact⟨j,h1,h,h2,h3,h4⟩
noncomputable def Jks(b:Expr):Prop:=∀o i,subscripted b false o i=operate [o,i] (getItem o i)
noncomputable def IxR(X:Cx)(r:R2):Prop :=
 ∀(value slice:Expr) (pins:List (Addr×Obj)) (s:Shared) (σ:St) (H:Hp) (x y:V) (v u:Value) (Q:VK),Inv X pins σ H s->RelV x v->RelV y u->r x y H Q ->
  subscripted slice false v u=operate [v,u] (getItem v u)->wpAny (model X.prog X.w) X.A (subscriptTail value slice v u) (EP X pins σ Q) X.xe s
noncomputable def MtR(X:Cx)(id:String)(r:V->List V->Hp->VK->Prop):Prop :=
 ∀(pins:List (Addr×Obj)) (s:Shared) (σ:St) (H:Hp) (x:V) (xs:List V) (v:Value) (us:List Value) (Q:VK),Inv X pins σ H s->RelV x v->Vals xs us->r x xs H Q ->
  wpAny (model X.prog X.w) X.A (call (.builtin id) (v::us)) (EP X pins σ Q) X.xe s
section
variable{X:Cx}{a b:Expr}{ta tb:TE}{pos:Pos}
theorem IxR.or{r r':R2}(h:IxR X r)(h':IxR X r'):IxR X (fun x y H Q=>r x y H Q\/r' x y H Q):=by
 intro value slice pins s σ H x y v u Q I rx ry q hs;rcases q with q|q
 ·exact h value slice pins s σ H x y v u Q I rx ry q hs
 ·exact h' value slice pins s σ H x y v u Q I rx ry q hs
theorem JZ{r:R2}(hr:IxR X r)(ha:PE X a ta)(hb:PE X b tb)(hs:Jks b):PE X (.Subscript a b pos) (tOp r ta tb):=by intro pins s σ H Q I h;exact Subscript_ (Jm5 ha hb I h fun v u s2 x y H2 I2 rx ry q=>hr a b pins s2 σ H2 x y v u Q I2 rx ry q (hs _ _))

noncomputable def JpJ(K:Frag):R2:=fun x y H Q=>∃p xs i v,x=.ref p/\y=.int i/\SqL K H p xs/\atI xs i=some v/\Q v H
noncomputable def JpL(K:Frag):R2:=fun x y H Q=>∃p xs i v,x=.ref p/\y=.int i/\SqT K H p xs/\atI xs i=some v/\Q v H
noncomputable def JpK:R2:=fun x y H Q=>∃z i c,x=.str z/\y=.int i/\z.length<=sizeLine/\atI z.cps.toList i=some c/\Q (.str ⟨#[c]⟩) H
theorem ix_list:IxR X (JpJ X.K):=by
 intro value slice pins s σ H x y v u Q I rx ry h hs;obtain⟨p,xs,i,z,rfl,rfl,hq,he,q⟩:=h;cases rx;obtain⟨t,rfl⟩:=ry;obtain⟨its,r,pl,hz⟩:=I.list hq;obtain⟨j,h1,h2,h3,h4,h5⟩:=Jbx he;obtain⟨w,ew,rw'⟩:=r.get h2;have hl:=r.length;have hn:=Jaf;have fin:EP X pins σ Q w s:=⟨z,H,I,rw',q⟩
 by_cases h0:0<=i
 ·have hj:i.toNat=j:=by rw[seqIndex_of h0 h5] at h1;exact QG h1
  exact item_listR pl.isList h0 (by omega) (by rw[hj];simpa using ew) fin hs
 ·have hj:(i+(its.toArray.size:Int)).toNat=j:=by rw[seqIndex_neg (by omega) h4] at h1;rw[Qp,<- hl];exact QG h1
  exact subscriptTail_builtinR (x:=w) pl.isList.typeIs slot_list_getitem.lookup
   (wpAny_getItem_list_neg (Q:=fun r s'=>r=w/\EP X pins σ Q r s') pl.isList (by omega) (by rw[Qp] <;> omega) (by omega) (by rw[hj];simpa using ew) ⟨rfl,fin⟩) hs
theorem ix_tup:IxR X (JpL X.K):=by
 intro value slice pins s σ H x y v u Q I rx ry h hs;obtain⟨p,xs,i,z,rfl,rfl,hq,he,q⟩:=h;cases rx;obtain⟨t,rfl⟩:=ry;obtain⟨its,r,pl,hz⟩:=I.tuple hq;obtain⟨j,h1,h2,h3,h4,h5⟩:=Jbx he;obtain⟨w,ew,rw'⟩:=r.get h2;have hl:=r.length;have hn:=Jaf;have fin:EP X pins σ Q w s:=⟨z,H,I,rw',q⟩
 exact subscriptTail_builtinR (x:=w) pl.typeIs slot_tuple_getitem.lookup
  (getItem_tuple (j:=j) (Q:=fun r s'=>r=w/\EP X pins σ Q r s') pl (by omega) (by omega) (by rw[Qp,<- hl];exact h1) (by simpa using ew) ⟨rfl,fin⟩) hs
theorem Jnx:IxR X JpK:=by
 intro value slice pins s σ H x y v u Q I rx ry h hs;obtain⟨z,i,c,rfl,rfl,hz,he,q⟩:=h;obtain⟨t,rfl⟩:=rx;obtain⟨t',rfl⟩:=ry;obtain⟨j,h1,h2,h3,h4,h5⟩:=Jbx he;have hl:z.cps.toList.length=z.length:=by simp[Str.length]
 rw[hl] at h1 h4 h5;have hn:=Jaf;exact tail_any (typeIs_str s z t) slot_str_getitem.lookup (getItem_str (c:=c) (by
  have e1:decide (i < -(2 ^ 63:Int))=false:=decide_eq_false (by omega)
  have e2:decide (i ≥ 2 ^ 63)=false:=decide_eq_false (by omega);rw[e1,e2,Mw]) (by rw[h1];simpa using h2) ⟨.str ⟨#[c]⟩,H,I.tok _,⟨_,rfl⟩,q⟩) hs
noncomputable def rIx(K:Frag):R2:=fun x y H Q=>JpJ K x y H Q\/JpL K x y H Q\/JpK x y H Q
theorem Jnw:IxR X (rIx X.K):=ix_list.or (ix_tup.or Jnx)

theorem Jcx(lo hi:Option Int)(n:Nat):(sliceBounds lo hi none n).1=((HT.sIx n 0 lo:Nat):Int)/\(sliceBounds lo hi none n).2.1=((HT.sIx n n hi:Nat):Int)/\(sliceBounds lo hi none n).2.2=1:=by
 refine⟨?_,?_,rfl⟩
 ·cases lo with
  | none=>simp[sliceBounds,HT.sIx]
  | some i =>
   simp only[sliceBounds,HT.sIx,Option.getD_none,show(1:Int)>0 by decide,if_true]
   by_cases h:i<0
   ·simp only[h,if_true] <;> omega
   ·simp only[h,if_false] <;> omega
 ·cases hi with
  | none=>simp[sliceBounds,HT.sIx]
  | some i =>
   simp only[sliceBounds,HT.sIx,Option.getD_none,show(1:Int)>0 by decide,if_true]
   by_cases h:i<0
   ·simp only[h,if_true] <;> omega
   ·simp only[h,if_false] <;> omega
theorem JaQ(its:List Value)(lo hi:Option Int):slicePick its.toArray lo hi none=((its.drop (HT.sIx its.length 0 lo)).take (HT.sIx its.length its.length hi-HT.sIx its.length 0 lo)).toArray:=by obtain⟨h1,h2,h3⟩:=Jcx lo hi its.toArray.size;unfold slicePick;rw[h1,h2,h3];simp only[sliceRange_one,pick_run,Qp] <;> rfl
noncomputable def JpQ(K:Frag):V->Option Int->Option Int->Hp->VK->Prop:=fun x lo hi H Q=>∃a xs,x=.ref a/\SqL K H a xs/\∀p,H p=none->Q (.ref p) (upd H p (.lst (JaN xs lo hi)))
theorem sl_list:SlR X (JpQ X.K):=by
 intro pins s σ H x v vl vu lo hi sl Q I rx hs pl pu h;obtain⟨a,xs,rfl,hx,q⟩:=h;cases rx;obtain⟨its,r,ht,hz⟩:=I.list hx;have hlen:=r.length;refine⟨"list",_,slot_list_getitem.lookup,ht.isList.typeIs,?_⟩;refine wpAny_getItem_list_slice ht.isList hs pl pu .none (by simp) ?_ (by rw[Qp] <;> omega);rw[JaQ,<- hlen];refine⟨.ref s.heap.objs.size,_,I.laid (t':=s.toks) (o:=.lst (JaN xs lo hi)) (fun b ob q=>Qf _ q) (Qm _) ?_,rfl,q _ (I.hok.fresh (Qm _))⟩
 exact⟨Gi (Zb xs lo hi) hz,_,0,(r.drop (HT.sIx xs.length 0 lo)).take (HT.sIx xs.length xs.length hi-HT.sIx xs.length 0 lo),Qi _ rfl⟩

theorem JaM:YS X (.type "tuple") (fun xs H Q=>∃p ys,xs=[.ref p]/\((SqL X.K H p ys/\∀l,H l=none->Q (.ref l) (upd H l (.tup ys)))\/(SqT X.K H p ys/\Q (.ref p) H))):=by
 intro pins s σ H xs us Q I r h;obtain⟨p,ys,rfl,h⟩:=h;obtain⟨u,rfl,rx⟩:=WH r;cases rx;rcases h with ⟨hq,q⟩|⟨hq,q⟩
 ·obtain⟨its,r',pl,hz⟩:=I.list hq;have hlen:=r'.length;refine call_tuple_list pl.isList (fun h' kp=>?_) (by simp only[Qp] <;> omega);have I1:Inv X pins σ H { s with heap:=h' }:=I.kept (t':=s.toks) kp
  have I2:Inv X pins σ (upd H h'.objs.size (.tup ys)) { s with heap:=h'.push { cls:=.type "tuple",data:=.seq its.toArray } } :=
   I1.laid (t':=s.toks) (fun b o e=>Qf _ e) (Qm _) (show ObjOk X.prog X.w _ _ _ (.tup ys) from⟨hz,its,r',IsTup.new _ _⟩)
  exact⟨.ref h'.objs.size,_,I2,rfl,q _ (I1.hok.fresh (Qm _))⟩
 ·obtain⟨its,r',pl,hz⟩:=I.tuple hq;exact call_tuple_same pl ⟨.ref p,H,I,rfl,q⟩

noncomputable def tyV(K:Frag)(T:String)(x:V)(H:Hp):Prop:=match x with
 | .str _=>T="str"
 | .int _=>T="int"
 | .ref p=>(T="list"/\∃xs,SqL K H p xs)\/(T="tuple"/\∃o,K.lookup p=some o/\o.cls=.type "tuple"/\o.dict=none) ∨
  (T="dict"/\((∃kvs,H p=some (.dK kvs))\/∃kvs,H p=some (.dT kvs)))\/(T="set"/\∃S n,H p=some (.set S n))
 | _=>False
theorem Jkj{pins:List (Addr×Obj)}{σ:St}{H:Hp}{s:Shared}{T:String}{x:V}{v:Value}(I:Inv X pins σ H s)(r:RelV x v)(ty:tyV X.K T x H) :
 s.TypeIs v T/\∀a,v=.ref a->∃ob,s.heap.get? a=some ob/\ob.dict=none:=by
 cases x with
 | str z=>obtain⟨t,rfl⟩:=r;cases (show T="str" from ty);exact⟨typeIs_str s z t,fun _ e=>nomatch e⟩
 | int i=>obtain⟨t,rfl⟩:=r;cases (show T="int" from ty);exact⟨typeIs_int s i t,fun _ e=>nomatch e⟩
 | ref p =>
  cases r;rcases ty with ⟨rfl,xs,hq⟩|⟨rfl,o,hk,hc,hd⟩|⟨rfl,hk⟩|⟨rfl,S,n,hk⟩
  ·obtain⟨its,_,pl,_⟩:=I.list hq;refine⟨pl.isList.typeIs,fun a e=>?_⟩;cases e;obtain⟨o,n,e,c,hd,_⟩:=pl;exact⟨o,e,hd⟩
  ·refine⟨⟨o,I.kIn p o hk,hc⟩,fun a e=>?_⟩;cases e;exact⟨o,I.kIn _ o hk,hd⟩
  ·have z:∃o,s.heap.get? p=some o/\o.ExactDict:=by
    rcases hk with ⟨kvs,hk⟩|⟨kvs,hk⟩
    ·obtain⟨_,_,_,_,o,_,_,e,ex,_⟩:=I.hok p _ hk;exact⟨o,e,ex⟩
    ·obtain⟨_,_,_,_,o,_,_,e,ex,_⟩:=I.hok p _ hk;exact⟨o,e,ex⟩
   obtain⟨o,e,ex⟩:=z;refine⟨⟨o,e,ex.1⟩,fun a e2=>?_⟩;cases e2;exact⟨o,e,ex.2.1⟩
  ·obtain⟨o,_,_,_,e,ex,_⟩:=I.hok p _ hk;refine⟨⟨o,e,ex.1⟩,fun a e2=>?_⟩;cases e2;exact⟨o,e,ex.2.1⟩
 | _=>exact G4 ty
noncomputable def JoL(K:Frag)(T:String)(r:V->List V->Hp->VK->Prop)(to:TE):TE:=fun σ H Q=>to σ H fun x H1=>tyV K T x H1/\r x [] H1 Q
noncomputable def tBM(K:Frag)(T:String)(r:V->List V->Hp->VK->Prop)(to:TE)(t:TA):TE:=fun σ H Q=>to σ H fun x H1=>tyV K T x H1/\t σ H1 fun xs H2=>r x xs H2 Q
variable{o e:Expr}{es:List Expr}{to:TE}{t:TA}{name:Str}{apos cpos:Pos}{T id:String}{r:V->List V->Hp->VK->Prop}
theorem Jn7(pa:PlainAttrs T)(slot:Slot T name id)(hty:typeOf (.builtin id)=pure (.type "method_descriptor"))(hm:MtR X id r)(ho:PE X o to)
 (hbase:attributeBase o name X.env (eval o X.env)=eval o X.env:=by rfl) (hline:(apos.endLine == cpos.line)=true:=by rfl):PE X (.Call (.Attribute o name apos) [] [] cpos) (JoL X.K T r to):=by
 intro pins s σ H Q I h;refine Kx hbase hline (thn (ho pins s σ H _ I h) fun v s1 ⟨x,H1,I1,r1,ty,q1⟩=>?_);obtain⟨h1,h2⟩:=Jkj I1 r1 ty;exact⟨T,id,pa,slot,hty,h1,h2,GI rfl (K8 (hm pins s1 σ H1 x [] v [] Q I1 r1 .nil q1))⟩
theorem JpE(pa:PlainAttrs T)(slot:Slot T name id)(hty:typeOf (.builtin id)=pure (.type "method_descriptor"))(hm:MtR X id r)(ho:PE X o to)(ha:PA X (e::es) t)
 (hbase:attributeBase o name X.env (eval o X.env)=eval o X.env:=by rfl)
 (hfew:((backTo cpos (starEach (e::es) X.env)).all (fun x=>!x.1) && (backToKw cpos (keywordEach [] X.env)).all (fun x=>x.1.isSome)
  && decide ((e::es).length+([]:List Keyword).length+(if ([]:List Keyword).isEmpty then 0 else 1)<30))=true:=by rfl)
 (hline:(apos.endLine == cpos.line)=true:=by rfl) (hs:starEach (e::es) X.env=(false,eval e X.env)::starEach es X.env:=by rfl) (hplain:(backTo cpos (starEach es X.env)).any (·.1)=false:=by rfl) :
 PE X (.Call (.Attribute o name apos) (e::es) [] cpos) (tBM X.K T r to t):=by
 intro pins s σ H Q I h;refine wpAny_Call_method_late hbase hfew hline rfl (thn (ho pins s σ H _ I h) fun v s1 ⟨x,H1,I1,r1,ty,q1⟩=>?_);obtain⟨h1,h2⟩:=Jkj I1 r1 ty;refine⟨T,id,pa,slot,hty,h1,h2,?_⟩;have hA:=ha cpos pins s1 σ H1 _ I1 q1;rw[hs] at hA ⊢;refine GI (by show(false || (backTo cpos (starEach es X.env)).any (·.1))=false;rw[hplain] <;> rfl) (LD ?_);exact thn hA fun us s2 ⟨vs,H2,I2,r2,q2⟩=>hm pins s2 σ H2 x vs v us Q I2 r1 r2 q2
/- xs.append(e),list.index on a module's tuple .. are MtR facts of 06m -/
end
end L2

namespace L2
open PySem PySem.Spec PyProof.Rows

noncomputable def MtM(X:Cx)(id:String)(r:V->List V->Hp->VK->Prop):Prop :=
 ∀(pins:List (Addr×Obj)) (s:Shared) (σ:St) (H:Hp) (x:V) (xs:List V) (v:Value) (us:List Value) (Q:VK),Inv X pins σ H s->RelV x v->Vals xs us->r x xs H Q ->
  wpAny (model X.prog X.w) X.A (call (.builtin id) (v::us)) (EP X pins σ Q) X.xe s

theorem Vals.one:∀{x:V} {us:List Value},Vals [x] us->∃u,us=[u]/\RelV x u
 | _,_,.cons r .nil=>⟨_,rfl,r⟩
theorem Vals.zero:∀{us:List Value},Vals [] us->us=[]
 | _,.nil=>rfl
theorem Vals.dropLast{xs:List V}{us:List Value}(h:Vals xs us):Vals xs.dropLast us.dropLast:=by
 induction h with
 | nil=>exact .nil
 | cons r t ih =>
  cases t with
  | nil=>exact .nil
  | cons q t'=>exact .cons r ih
theorem Vals.rep{xs:List V}{us:List Value}(h:Vals xs us):∀k:Nat,Vals (QH k xs).flatten (QH k us).flatten
 | 0=>.nil
 | k+1=>by rw[GK,GK,G1,G1];exact Vals.append h (Vals.rep h k)
theorem Jeo{α:Type}(l:List α):l.eraseIdx (l.length-1)=l.dropLast:=by
 induction l with
 | nil=>rfl
 | cons a r ih =>
  cases r with
  | nil=>rfl
  | cons b r =>
   have e:(a::b::r).length-1=((b::r).length-1)+1:=by
    have h1:(a::b::r).length=r.length+2:=rfl
    have h2:(b::r).length=r.length+1:=rfl;omega
   rw[e,List.eraseIdx_cons_succ,ih]
   all_goals rfl
theorem Jbb(its:List Value):∀(k:Nat) (acc:List Value),
 Ri (fun x1 x2=>x1++x2) acc.toArray (QH k its.toArray)=(acc++(QH k its).flatten).toArray
 | 0,acc=>by simp
 | k+1,acc=>by
  have e:acc.toArray++its.toArray=(acc++its).toArray:=by simp
  have e2:(acc++its)++(QH k its).flatten=acc++(QH (k+1) its).flatten:=by rw[GK,G1,Gu]
  rw[<- e2,<- Jbb its k (acc++its),<- e,GK,QL]

section
variable{X:Cx}{pins:List (Addr×Obj)}{σ:St}{H:Hp}{s:Shared}{l b:Addr}{xs ys zs:List V}

theorem Inv.lset{its its':List Value}{n:Nat}{f:Array Value->Array Value}{t':Nat}(I:Inv X pins σ H s)(hH:H l=some (.lst xs))
 (e:s.heap.get? l=some { cls:=.type "list",data:=.seq its.toArray n }) (hf:f its.toArray=its'.toArray) (hv:Vals ys its') (hz:ys.length<=sizeLine) :
 Inv X pins σ (upd H l (.lst ys)) { s with heap:=s.heap.update l (Kq f),toks:=t' }:=by
 have q:=PySem.IsL.update e f;rw[hf] at q;refine I.write (x:=l) (e:=l) (by rw[hH];exact trivial) (.inl rfl) (fun b' u hb hu=>(Gc s.heap (Kq f) (QO hb)).trans hu) ⟨_,q⟩ ?_;exact⟨hz,its',_,hv,q⟩
theorem Inv.lnew{its:List Value}{t':Nat}(I:Inv X pins σ H s)(hv:Vals ys its)(hz:ys.length<=sizeLine) :
 Inv X pins σ (upd H s.heap.objs.size (.lst ys)) { s with heap:=s.heap.push { cls:=.type "list",data:=.seq its.toArray },toks:=t' } :=
 I.laid (fun _ _ q=>Qf _ q) (Qm _) ⟨hz,its,0,hv,Qi _ rfl⟩
theorem Inv.fresh(I:Inv X pins σ H s):H s.heap.objs.size=none:=I.hok.fresh (Qm _)
theorem Inv.lstM(I:Inv X pins σ H s)(hH:H l=some (.lst xs)):xs.length<=sizeLine/\∃(its:List Value) (n:Nat),Vals xs its/\xs.length=its.length/\s.heap.get? l=some { cls:=.type "list",data:=.seq its.toArray n }:=by obtain⟨z,its,n,r,e⟩:=I.hok l _ hH;exact⟨z,its,n,r,r.length,e⟩

theorem Jdp{n:Nat}(h:n<=sizeLine):Kr n=false:=by unfold Kr;exact decide_eq_false (by omega)
end

section
variable{X:Cx}

noncomputable def Ww:V->List V->Hp->VK->Prop:=fun x vs H Q=>∃l xs y,x=.ref l/\vs=[y]/\H l=some (.lst xs)/\xs.length<sizeLine/\Q .non (upd H l (.lst (xs++[y])))
theorem Y9:MtM X "list.append" Ww:=by intro pins s σ H x vs v us Q I rx rv h;obtain⟨l,xs,y,rfl,rfl,hH,hz,q⟩:=h;cases rx;obtain⟨u,rfl,ru⟩:=rv.one;obtain⟨z,its,n,r,hl,e⟩:=I.lstM hH;refine call_meets F.slot_list_append ⟨_,e,rfl⟩ F.entry_list_append (F.args_list_append_2 _ _) (PySem.list_append l its.toArray n u (by rw[Qp];omega)) ⟨e,?_⟩;refine⟨.non,_,I.lset (its':=its++[u]) hH e (by simp) (r.append (.cons ru .nil)) ?_,rfl,q⟩;rw[Qv,Gg];omega

noncomputable def Jgb:V->List V->Hp->VK->Prop:=fun x vs H Q=>∃l b xs zs,x=.ref l/\vs=[.ref b]/\H l=some (.lst xs)/\H b=some (.lst zs)/\xs.length+zs.length<=sizeLine/\Q .non (upd H l (.lst (xs++zs)))
theorem VV:MtM X "list.extend" Jgb:=by
 intro pins s σ H x vs v us Q I rx rv h;obtain⟨l,b,xs,zs,rfl,rfl,hH,hB,hz,q⟩:=h;cases rx;obtain⟨u,rfl,ru⟩:=rv.one;cases ru;obtain⟨z,its,n,r,hl,e⟩:=I.lstM hH;obtain⟨z2,its2,n2,r2,hl2,e2⟩:=I.lstM hB;have hsz:its.toArray.size+its2.toArray.size<=sizeLine:=by rw[Qp,Qp];omega
 have hlong:¬(!its.toArray.isEmpty && Kr (its.toArray.size+its2.toArray.size))=true:=by rw[Jdp hsz,M8];exact Qt
 refine call_meets F.slot_list_extend ⟨_,e,rfl⟩ F.entry_list_extend (F.args_list_extend_2 _ _)
  (AutoSeq1.list_extend_list_list_0 l its.toArray n b its2.toArray n2 hlong (by rw[Qp];omega) (by omega)) ⟨e,e2,?_⟩
 refine⟨.non,_,I.lset (its':=its++its2) hH e (by simp) (r.append r2) ?_,rfl,q⟩;rw[Qv];omega

noncomputable def JpO:V->List V->Hp->VK->Prop:=fun x vs H Q=>∃l xs y,x=.ref l/\vs=[]/\H l=some (.lst xs)/\xs[xs.length-1]?=some y/\Q y (upd H l (.lst xs.dropLast))
theorem JnQ:MtM X "list.pop" JpO:=by
 intro pins s σ H x vs v us Q I rx rv h;obtain⟨l,xs,y,rfl,rfl,hH,hy,q⟩:=h;cases rx;have hus:=rv.zero;subst hus;obtain⟨z,its,n,r,hl,e⟩:=I.lstM hH;obtain⟨u,hu,ru⟩:=r.get hy
 have hy':its.toArray[its.toArray.size-1]?=some u:=by show its.toArray[its.length-1]?=some u;rw[<- Kf,<- hl];exact hu
 refine call_meets F.slot_list_pop ⟨_,e,rfl⟩ F.entry_list_pop (F.args_list_pop_1 _) (MeetsSeq.list_pop_last l its.toArray n u hy' (by rw[Qp];omega)) ⟨e,?_⟩;refine⟨y,_,I.lset (its':=its.dropLast) hH e ?_ r.dropLast ?_,ru,q⟩
 ·show its.toArray.eraseIdxIfInBounds (its.toArray.size-1)=its.dropLast.toArray;rw[Qp,List.eraseIdxIfInBounds_toArray,Jeo]
 ·rw[M9];omega

noncomputable def JpG:R2:=fun x y H Q=>∃l b xs zs,x=.ref l/\y=.ref b/\H l=some (.lst xs)/\H b=some (.lst zs)/\xs.length+zs.length<=sizeLine/\∀p,H p=none->Q (.ref p) (upd H p (.lst (xs++zs)))
theorem JnZ:OpR X (binaryOp .Add) JpG:=by
 intro pins s σ H x y v u Q I rx ry h;obtain⟨l,b,xs,zs,rfl,rfl,hH,hB,hz,q⟩:=h;cases rx;cases ry;obtain⟨z,its,n,r,hl,e⟩:=I.lstM hH;obtain⟨z2,its2,n2,r2,hl2,e2⟩:=I.lstM hB;refine PySem.P.add_list e e2 ?_ (by rw[Qp,Qp];omega);have ea:its.toArray++its2.toArray=(its++its2).toArray:=by simp
 rw[ea];exact⟨.ref _,_,I.lnew (t':=s.toks) (r.append r2) (by rw[Qv];omega),rfl,q _ I.fresh⟩
noncomputable def JpP:R2:=fun x y H Q=>∃l k xs,x=.ref l/\y=.int k/\H l=some (.lst xs)/\-(2 ^ 63)<=k/\k<2 ^ 63/\xs.length*k.toNat<=sizeLine ∧
 ∀p,H p=none->Q (.ref p) (upd H p (.lst (QH k.toNat xs).flatten))
theorem Jk9{α:Type}(xs:List α)(k:Nat):(QH k xs).flatten.length=k*xs.length:=by
 induction k with
 | zero=>simp
 | succ k ih=>rw[GK,G1,Qv,ih,Nat.succ_mul,Nat.add_comm]
theorem Jji:OpR X (binaryOp .Mult) JpP:=by
 intro pins s σ H x y v u Q I rx ry h;obtain⟨l,k,xs,rfl,rfl,hH,h1,h2,hz,q⟩:=h;cases rx;obtain⟨t,rfl⟩:=ry;obtain⟨z,its,n,r,hl,e⟩:=I.lstM hH;have hlen:its.toArray.size*k.toNat<=sizeLine:=by rw[Qp,<- hl];exact hz
 have hcap:¬its.toArray.size*k.toNat>(2 ^ 63-1) / 8:=by
  have:(sizeLine:Nat)<=(2 ^ 63-1) / 8:=by decide
  omega
 have hfit:¬(!Builtin.List.listFitsIndex k)=true:=by rw[fitsIndex_both h1 h2];exact Qt
 have hlong:¬Kr (its.toArray.size*k.toNat)=true:=by rw[Jdp hlen];exact Qt
 have hnew:Ri (fun x1 x2=>x1++x2) #[] (QH (if its.toArray.isEmpty=true then 0 else k.toNat) its.toArray)=(QH k.toNat its).flatten.toArray:=by
  have f0:∀m:Nat,Ri (fun x1 x2=>x1++x2) #[] (QH m its.toArray)=(QH m its).flatten.toArray:=fun m=>by have:=Jbb its m [];rw[GP] at this;exact this
  rw[f0]
  cases its with
  | nil=>simp
  | cons a r'=>rw[if_neg (by simp)]
 refine wpAny_binaryOp_repeat_ref (T:="list") (U:="int") (by decide) ⟨_,e,rfl⟩ (fun s'=>typeIs_int s' k t) noFill_list_mul F.fills_int_mul F.slot_int_rmul repeat_list F.slot_int_index.lookup
  (call_meets F.slot_int_rmul (typeIs_int s k t) F.entry_int_rmul (F.args_int_rmul_2 _ _) (int___rmul___int_list k t l its.toArray n)
   ⟨e,rfl,⟨_,e,rfl⟩,call_meets F.slot_list_mul ⟨_,e,rfl⟩ F.entry_list_mul (F.args_list_mul_2 _ _) (AutoListH.list___mul___list_int_3 l its.toArray n k t hfit hcap hlong) ⟨e,?_⟩⟩)
 rw[hnew];exact⟨.ref _,_,I.lnew (t':=s.toks) (r.rep k.toNat) (by rw[Jk9,Nat.mul_comm];exact hz),rfl,q _ I.fresh⟩

end

section
variable{prog:Program}{w:World}{A:Around}{E:Value->Shared->Prop}{s:Shared}
end

section
variable{X:Cx}
end
end L2

namespace Att
open PySem PySem.W PySem.Calls PyProof.Rows

theorem Zm{P:Params}{h:Heap}:∀(ns:List Int) (vs:List Value),WellAll P h vs (ns.map WData.int)->IntsAre vs ns:=by
 intro ns
 induction ns with
 | nil=>intro vs w;rw[KI] at w;cases w;exact .nil
 | cons n ns ih =>
  intro vs w;rw[Qe] at w
  cases w with
  | cons a b=>cases a;exact .cons _ _ (ih _ b)

theorem JhD{l:OpenLaw}{n:Nat}(hn:l.most=some n){P:Params}{h:Heap}{args:List WData}{vals:List Value}
 (hpre:l.row.toRowW.claim.pre args=true) (hwl:WellAll P h vals args) :
 ∃a vs ns,vals=[Value.ref a]/\args=[WData.list (ns.map WData.int)]/\h.get? a=some { cls:=.type "list",data:=.seq vs.toArray }/\IntsAre vs ns/\ns.length<=n:=by
 have hsh:WShape.hasAll [] args [.list .int]=true:=(pre_splitW hpre).1
 have hc:l.pre.holds [] { args:=args }=true:=(pre_splitW hpre).2;obtain⟨d,r,rfl,h1,h2⟩:=hasAllW_cons hsh;obtain rfl:=hasAllW_nil h2;obtain⟨xs,rfl,h3⟩:=hasW_list h1;obtain⟨ns,rfl⟩:=items_int h3
 have hlen:ns.length<=n:=by
  unfold OpenLaw.pre at hc
  have h4:(WTm.not (.lt (.lit (.int (n:Int))) (.len (.arg 0)))).holds [] { args:=[.list (ns.map .int)] }=true:=by have h4:=(holds_andW hc).1;rw[hn] at h4;exact h4
  have h5:=condW_of h4 (w_not (w_lt w_lit (w_len_list (w_arg rfl))));rw[Qk] at h5;refine Nat.le_of_not_lt fun q=>?_
  have q':(n:Int)<((ns.length:Nat):Int):=by omega
  first
   | (rw[decide_eq_true q'] at h5;exact absurd h5 (by decide))
   | (simp at h5;omega)
 cases hwl with
 | cons w1 w2 =>
  cases w2
  cases w1 with
  | list ho hall=>exact⟨_,_,ns,rfl,rfl,ho,Zm ns _ hall,hlen⟩

theorem Jht(l:OpenLaw)(args:List WData):l.row.toRowW.claim.post args (.bool true) args=true :=
 postW_of (r:=l.row.toRowW) (X:=(true == true))
  (show WShape.has [] (.bool true) .bool=true by first|rfl|decide|simp[WShape.has,WShape.arms,WShape.armsAll])
  (show(WTm.eq .res (.lit (.bool true))).value [] { args:=args,res:=some (.bool true),after:=args }=some (.bool (true == true)) from w_eq_bool (w_res rfl) w_lit) rfl

theorem attach_call{l:OpenLaw}{n:Nat}{q:Program}{loose:List Str}{XP:(Str->Option Value)->Heap->Prop}{YP:World->Heap->Prop}{d:DefRec}
 (hn:l.most=some n) (hdf:d.params.defaults=[])
 (call:∀(w:World) (s₀ s₁:Shared) (mg mb:Str->Option Value) (fa:Addr) (o:Obj) (pm cd doc:Value) (a:Addr) (vs:List Value) (ns:List Int),
  Ground q loose [] XP w s₀ mg mb s₁.heap->YP w s₁.heap ->
  s₁.heap.get? fa=some o->o.data=.func (docDef d.name d.params d.body d.scope pm cd doc)->s₁.heap.CodeRec cd d.name->mg d.name=some (.ref fa) ->
  s₁.heap.get? a=some { cls:=.type "list",data:=.seq vs.toArray }->IntsAre vs ns->ns.length<=n->s₁.gens=#[] ->
  codeAny (model l.prog w) callerA (.call (.ref fa) ⟨[.ref a],[]⟩) (fun r s'=>r=.ok (.ret (.bool true))/\OldK s₁.heap s'.heap/\s'.os=s₁.os/\AllBare s'.gens) s₁) :
 WalkO q loose XP YP l.row.toRowW d [] (fun f vs=>PySem.call f vs):=by
 intro w s₀ s₁ mg mb G Y fa o pm cd doc dV kV ho hd hcd hD hmg hg args vals as hpre hlay hrd hwl hlo;obtain rfl:dV=.none:=Dflts.none hD hdf;obtain rfl:kV=.none:=Dflts.noKw hD;obtain⟨a,vs,ns,rfl,rfl,hobj,hints,hlen⟩:=JhD hn hpre hwl;refine enter_call (LY (call w s₀ s₁ mg mb fa o pm cd doc a vs ns G Y ho (fd_plain hd) hcd hmg hobj hints hlen hg) fun r s' hq=>?_);obtain⟨rfl,h2,h3,h4⟩:=hq;exact⟨.inl ⟨.bool true,.bool true,[],rfl,fun _=>rfl,.bool true,Jht l _,fun _=>⟨List.Pairwise.nil,fun _ hm=>(nomatch hm)⟩⟩,h2,h3,h4⟩

section
variable{prog:Program}{w:World}{A:Around}{E:Value->Shared->Prop}{s:Shared}{K:Frag}

end
end Att

namespace L2
open PySem PySem.Spec PyProof.Rows

theorem Jbu:∀{vs:List Value} {ns:List Int},IntsAre vs ns->Vals (ns.map V.int) vs
 | _,_,.nil=>.nil
 | _,_,.cons n t h=>.cons ⟨t,rfl⟩ (Jbu h)

noncomputable def Jm3(H:Hp):Prop:=∀b,H b=none\/∃o xs,H b=some (.frz o (.lst xs))

theorem JiQ{P:Program}{w:World}{K:Frag}{mg mb:Str->Option Value}{CX:CXT}{k:Nat}{fa a:Addr}{fd:FuncData}{x:Str}{sp:Sp}{s₁:Shared}{vs:List Value}{ns:List Int}
 (KX:K.In s₁.heap) (hns:s₁.heap.Ns mainGlobals mg) (hb:s₁.heap.Ns builtinsNs mb) (hbb:∀x:Str,x≠"__name__"->mb x=bootBuiltins x) (hlim:s₁.heap.NoLimit) (hg:s₁.gens=#[])
 (ha:s₁.heap.get? a=some { cls:=.type "list",data:=.seq vs.toArray }) (hi:IntsAre vs ns) (hl:ns.length<=sizeLine) (hr:Room k callerA)
 (F:∀base:Heap,K.In base->base.Ns mainGlobals mg->FnOk P w K mg base CX k fa fd [x] sp) (hbind:∀(s:Shared) (u:Value),BindsTo s fd ⟨[u],[]⟩ [(x,u)])
 (hsp:∀H:Hp,Jm3 H->SqL K H a (ns.map V.int)->sp [.ref a] H (fun v _=>v=.bl true) fun _ _ _=>False)
 (hCX:∀H e s',CX [] H s₁ (fun _ _ _=>False) e s'->False) :
 codeAny (model P w) callerA (.call (.ref fa) ⟨[.ref a],[]⟩) (fun r s'=>r=.ok (.ret (.bool true))/\OldK s₁.heap s'.heap/\s'.os=s₁.os/\AllBare s'.gens) s₁:=by
 have rv:=Jbu hi
 have lenV:=hi.length
 -- from an abstract heap in which nothing but the script may be tracked
 have core:∀H:Hp,Jm3 H->SqL K H a (ns.map V.int)->HOk P w H s₁.heap->(∀b,H b≠none->b=a)->(H a≠none->K.lookup a=none) ->
  codeAny (model P w) callerA (.call (.ref fa) ⟨[.ref a],[]⟩) (fun r s'=>r=.ok (.ret (.bool true))/\OldK s₁.heap s'.heap/\s'.os=s₁.os/\AllBare s'.gens) s₁:=by
  intro H hO hS hok hA hK;have base_of:∀{b:Addr} {o:Obj},s₁.heap.get? b=some o->H b=none->(JbY s₁.heap H).get? b=some o:=fun e n=>JiK e n
  have noA:∀{b:Addr} {o:Obj} {es:Array DictEntry} {ep:Nat},s₁.heap.get? b=some o->o.data=.dict es ep->H b=none:=fun {b o es ep} e d=>by
   cases q:H b with
   | none=>rfl
   | some u =>
    have e':b=a:=hA b (by rw[q];simp);subst e';rw[ha] at e;cases e
    have d':Data.seq vs.toArray _=Data.dict es ep:=d;cases d'
  have nsK:∀{b:Addr} {m:Str->Option Value},s₁.heap.Ns b m->(JbY s₁.heap H).Ns b m:=fun {b m} ⟨o,es,ep,e,d,r⟩=>⟨o,es,ep,base_of e (noA e d),d,r⟩
  have hKb:K.In (JbY s₁.heap H):=fun b o e=>base_of (KX b o e) (by
   cases q:H b with
   | none=>rfl
   | some u=>have e':b=a:=hA b (by rw[q];simp);subst e';rw[hK (by rw[q];simp)] at e;cases e)
  have hM:Mod K mg (JbY s₁.heap H):=⟨hKb,nsK hns,⟨mb,nsK hb,hbb⟩,let ⟨mc,h1,h2⟩:=hlim;⟨mc,nsK h1,h2⟩⟩
  have e0:Env0 P w K mg (JbY s₁.heap H) callerA [] s₁ H:=⟨rfl,hM,fun b o e=>Jlr e,Nat.le_of_eq (Jg3 _ _),trivial,fun b hb=>absurd (show b∈([]:List Addr) from hb) (by simp),hok,.of_eq hg⟩
  refine LY ((F _ hKb (nsK hns)).run callerA [] s₁ H ⟨[.ref a],[]⟩ [.ref a] [.ref a] _ _ hr e0 (hbind s₁ (.ref a)) (.cons rfl .nil) (hsp H hO hS)) fun r s' h=>?_
  cases r with
  | error e=>exact(hCX H e s' h).elim
  | ok fl =>
   cases fl with
   | next=>exact G4 h
   | brk=>exact G4 h
   | cont=>exact G4 h
   | ret u =>
    obtain⟨v,H',os,bare,un,hok',r',q⟩:=h;have q':v=.bl true:=q;subst q';obtain rfl:u=Value.bool true:=r';refine⟨rfl,OldK.of_keep fun b o e=>?_,os,bare⟩
    cases q:H b with
    | none=>exact un.keep b o e q (by intro z;exact absurd (show b∈([]:List Addr) from z) (by simp)) (by simp)
    | some u =>
     rcases hO b with z|⟨ob,xs,z⟩
     ·rw[q] at z;cases z
     ·have z2:=un.frzs b ob _ z;obtain⟨e1,_⟩:=hok b _ z;obtain⟨e2,_⟩:=hok' b _ z2;rw[e] at e1;cases e1;exact e2
 cases hk:K.lookup a with
 | some o =>
  -- the script is one of the module's own objects
  have e:=KX a o hk;rw[ha] at e;cases e;refine core (fun _=>none) (fun _=>.inl rfl) (.inr ⟨_,vs.toArray,_,hk,rfl,rfl,rfl,by rw[Qp,lenV];exact hl,by simpa using rv⟩) (fun b u z=>by have z':(none:Option HO)=some u:=z;cases z') (fun b z=>absurd rfl z) fun z=>absurd rfl z
 | none =>
  refine core (fun b=>if b=a then some (.frz { cls:=.type "list",data:=.seq vs.toArray } (.lst (ns.map V.int))) else none) (fun b=>?_) (.inl (.inr ⟨{ cls:=.type "list",data:=.seq vs.toArray },if_pos rfl⟩)) (fun b u z=>?_) (fun b z=>?_) fun _=>hk
  ·by_cases hb:b=a
   ·exact .inr ⟨_,_,if_pos hb⟩
   ·exact .inl (if_neg hb)
  ·by_cases hb:b=a
   ·have z':=(if_pos hb).symm.trans z;cases z';subst hb;exact⟨ha,by rw[Qk];exact hl,vs,_,rv,ha⟩
   ·have z':=(if_neg hb).symm.trans z;cases z'
  ·by_cases hb:b=a
   ·exact hb
   ·exact absurd (if_neg hb) z
end L2

namespace L2
open PySem PySem.Spec PyProof.Rows

theorem Jmn{l:PySem.W.OpenLaw}{n k:Nat}{q:Program}{loose:List Str}{XP:(Str->Option Value)->Heap->Prop}{YP:World->Heap->Prop}{d:DefRec}{K:Params->Frag}{CX:World->CXT}{sp:World->Sp}{x:Str}
 (hn:l.most=some n) (hn2:n<=sizeLine) (hdf:d.params.defaults=[]) (hr:Room k callerA)
 (hY:∀(w:World) (h:Heap),YP w h->(K w.params).In h)
 (F:∀(w:World) (mg:Str->Option Value) (fa:Addr) (h:Heap),(K w.params).In h->h.Ns mainGlobals mg->mg d.name=some (.ref fa) ->
  ∃fd:FuncData,(∀(s:Shared) (u:Value),BindsTo s fd ⟨[u],[]⟩ [(x,u)]) ∧
   ∀base:Heap,(K w.params).In base->base.Ns mainGlobals mg->FnOk l.prog w (K w.params) mg base (CX w) k fa fd [x] (sp w))
 (hsp:∀(w:World) (H:Hp) (a:Addr) (ns:List Int),ns.length<=n->Jm3 H->SqL (K w.params) H a (ns.map V.int)->sp w [.ref a] H (fun v _=>v=.bl true) fun _ _ _=>False)
 (hCX:∀(w:World) (H:Hp) (s:Shared) (e:Value) (s':Shared),CX w [] H s (fun _ _ _=>False) e s'->False) :
 PySem.W.WalkO q loose XP YP l.row.toRowW d [] (fun f vs=>PySem.call f vs):=by
 refine Att.attach_call hn hdf fun w s₀ s₁ mg mb fa o pm cd doc a vs ns G Y ho hd hcd hmg hobj hints hlen hg=>?_
 have KX:=hY w _ Y;obtain⟨fd,hb,hF⟩:=F w mg fa _ KX G.T.g hmg;exact JiQ KX G.T.g G.T.b G.T.builtins G.T.nolimit hg hobj hints (Gi hlen hn2) hr hF hb (fun H hO hS=>hsp w H a ns hlen hO hS) fun H e s'=>hCX w H s₁ e s'
end L2

namespace L2
open PySem PySem.Spec PyProof.Rows

noncomputable def Jk5(s:Stmt)(j:Nat):Stmt:=match s with
 | .ClassDef _ _ _ body _ _ _ _ _ _ _=>body.getD j (.Pass ⟨0,0,0,0⟩)
 | _=>.Pass ⟨0,0,0,0⟩
noncomputable def JC(s:Stmt):Arguments:=match s with
 | .FunctionDef _ a _ _ _ _ _ _ _ _=>a
 | _=>{ posonlyargs:=[],args:=[],vararg:=none,kwonlyargs:=[],kw_defaults:=[],kwarg:=none,defaults:=[] }
noncomputable def JA(s:Stmt):List Stmt:=match s with
 | .FunctionDef _ _ b _ _ _ _ _ _ _=>b
 | _=>[]
noncomputable def Ji(s:Stmt):Scope:=match s with
 | .FunctionDef _ _ _ _ _ _ sc _ _ _=>sc
 | _=>{ kind:=.function,names:=[],isGenerator:=false,isCoroutine:=false }

noncomputable abbrev CX0:CXT:=fun _ _ _ _ _ _=>False
noncomputable abbrev E0:XK:=fun _ _ _=>False
theorem JmR{X:Cx}:ZI CX0 X E0:=fun _ _ _ _ _ _ _ h=>h.elim

structure Fun (K:Frag) (x qual:Str) (st:Stmt) (f:Addr) (fd:FuncData):Prop where
 ex:∃(oc:Value) (od:Option Addr) (kV doc pm:Value) (an:Option Addr) (cdv ct:Value) (osl:Array (Option Value)),
  fd=fnOf x qual (JC st) (JA st) (Ji st) .none kV doc pm an cdv ct/\K.lookup f=some ⟨oc,od,.func fd,osl⟩/\codeIn K cdv qual=true
 kp:keepIn K (.ref f)=true
section
variable{P:Program}{w:World}{K:Frag}{mg:Str->Option Value}{base:Heap}
theorem Fun.ok{x qual:Str}{st:Stmt}{f:Addr}{fd:FuncData}{N ps:List Str}{k:Nat}{sp:Sp}(F:Fun K x qual st f fd)(S:FnScope N ps (Ji st))(len:∀vs H Q E,sp vs H Q E->vs.length=ps.length)
 (hbody:∀(cdv:Value) (A:Around) (outer:List Env) (s:Shared) (H:Hp) (vs:List V) (Q:VK) (E:XK),Room k (A.deeper (envOfC qual (Ji st) s.heap.objs.size f cdv))->sp vs H Q E ->
  ∃t,PSs (JgU CX0 P w K mg base N qual (Ji st) f cdv A outer s H E).nox (JA st) t/\t { nx:=fun _ H'=>Q .non H',rt:=Q } (Vw N vs) H):FnOk P w K mg base CX0 (k+1) f fd ps sp:=by
 obtain⟨oc,od,kV,doc,pm,an,cdv,ct,osl,rfl,lk,hcd⟩:=F.ex;refine Jpl lk hcd S len fun A outer s H vs Q E hr hsp=>?_
 obtain⟨t,h,q⟩:=hbody cdv A outer s H vs Q E hr hsp;exact⟨t,h.nox,q⟩
theorem Fun.binds{x qual:Str}{st:Stmt}{f:Addr}{fd:FuncData}{ps:List Str}(F:Fun K x qual st f fd)
 (h:∀(kV doc pm:Value) (an:Option Addr) (cdv ct:Value) (us:List Value),us.length=ps.length->bindArgs (fnOf x qual (JC st) (JA st) (Ji st) .none kV doc pm an cdv ct) ⟨us,[]⟩=pure (ps.zip us)):Binds K fd ps []:=by
 obtain⟨oc,od,kV,doc,pm,an,cdv,ct,osl,rfl,lk,hcd⟩:=F.ex;exact .all (h kV doc pm an cdv ct)
theorem JU{x qual:Str}{st:Stmt}{f:Addr}{oc:Value}{od an:Option Addr}{osl:Array (Option Value)}{kV doc pm cdv ct:Value}(l:K.lookup f=some ⟨oc,od,.func (fnOf x qual (JC st) (JA st) (Ji st) .none kV doc pm an cdv ct),osl⟩)
 (c:codeIn K cdv qual=true) (k:keepIn K (.ref f)=true):Fun K x qual st f (fnOf x qual (JC st) (JA st) (Ji st) .none kV doc pm an cdv ct):=⟨⟨oc,od,kV,doc,pm,an,cdv,ct,osl,rfl,l,c⟩,k⟩
end
theorem Jbe{A:Around}{k:Nat}(hr:Room k A):A.units+1<cLine:=GQ (Nat.add_le_add_left (by decide:1<=64) _) hr.units
theorem JhE{n:Nat}(h:n<=1000):n<sizeLine:=GQ h (by decide)

section
variable{X:Cx}
theorem pv(i:Nat){x:Str}{pos:Pos}(hN:X.N[i]?=some x:=by rfl)(hv:Vis X.env.scope x:=by first | exact Or.inl rfl | exact Or.inr (.inl rfl) | exact Or.inr (.inr rfl))(hd:(x == ("__debug__":Str))=false:=by decide)
 (hcd:(x == ("__classdict__":Str))=false:=by decide):PE X (.Name x pos) (WE i):=Joa hN hv hd hcd
end

noncomputable def Same(H H':Hp):Prop:=∀b o,H b=some o->H' b=some o
theorem Same.refl(H:Hp):Same H H:=fun _ _ h=>h
theorem Same.trans{H H1 H2:Hp}(a:Same H H1)(b:Same H1 H2):Same H H2:=fun c o h=>b c o (a c o h)
theorem Same.free{H H':Hp}(e:Same H H'){l:Addr}(h:H' l=Option.none):H l=Option.none:=by
 cases q:H l with
 | none=>rfl
 | some o=>rw[e l o q] at h;cases h
theorem Same.seq{K:Frag}{H H':Hp}{a:Addr}{xs:List V}(e:Same H H')(h:SqL K H a xs):SqL K H' a xs:=by
 rcases h with (h|⟨o,h⟩)|h
 ·exact .inl (.inl (e _ _ h))
 ·exact .inl (.inr ⟨o,e _ _ h⟩)
 ·exact .inr h

end L2

namespace L2
open PySem PySem.Spec PyProof.Rows

section
variable{κ:Type}[DecidableEq κ]
noncomputable def U1(kvs:List (κ×V))(k:κ):Option V:=(kvs.find? fun kv=>decide (kv.1=k)).map (·.2)
noncomputable def Vf(kvs:List (κ×V))(k:κ)(v:V):List (κ×V) :=
 if (kvs.any fun kv=>decide (kv.1=k))=true then kvs.map (fun kv=>if kv.1=k then(kv.1,v) else kv) else kvs++[(k,v)]
theorem VI{p:κ×V}{r:List (κ×V)}{k:κ}(e:p.1=k):U1 (p::r) k=some p.2:=by simp[U1,KP,e]
theorem VH{p:κ×V}{r:List (κ×V)}{k:κ}(e:¬p.1=k):U1 (p::r) k=U1 r k:=by simp[U1,KP,e]
theorem JaH(k:κ):∀kvs:List (κ×V),(kvs.any fun kv=>decide (kv.1=k))=(U1 kvs k).isSome
 | []=>rfl
 | p::r=>by
  rw[GM]
  by_cases e:p.1=k
  ·simp only[VI e,decide_eq_true e,Rr,Option.isSome_some]
  ·rw[VH e,decide_eq_false e,GX];exact JaH k r
theorem VB(kvs:List (κ×V))(k:κ)(v:V):(Vf kvs k v).length<=kvs.length+1:=by
 unfold Vf;split
 ·rw[Qk];omega
 ·rw[Qv,Qo,Ki];omega
theorem Jjx{kvs:List (κ×V)}{k:κ}(v:V)(h:U1 kvs k=none):Vf kvs k v=kvs++[(k,v)]:=by unfold Vf;rw[JaH,h];exact if_neg (by decide)

theorem RelO.isSome_eq{o:Option V}{u:Option Value}(r:RelO o u):o.isSome=u.isSome:=by
 cases o with
 | none=>cases u with
  | none=>rfl
  | some _=>exact(show False from r).elim
 | some _=>cases u with
  | none=>exact(show False from r).elim
  | some _=>rfl
theorem RelO.getD{o:Option V}{u:Option Value}{d:V}{d':Value}(r:RelO o u)(rd:RelV d d'):RelV (o.getD d) (u.getD d'):=by
 cases o with
 | none=>cases u with
  | none=>exact rd
  | some _=>exact(show False from r).elim
 | some _=>cases u with
  | none=>exact(show False from r).elim
  | some _=>exact r

theorem KV.val{kvs:List (κ×V)}{vs:List (κ×Value)}(r:KV kvs vs)(k:κ):RelO (U1 kvs k) (valueAt vs k):=by
 unfold KV at r
 induction r with
 | nil=>exact True.intro
 | @cons p q ps qs h t ih =>
  obtain⟨h1,h2⟩:=h
  by_cases e:p.1=k
  ·have e':q.1=k:=h1.symm.trans e
   have b:valueAt (q::qs) k=some q.2:=by simp[valueAt,KP,e']
   rw[VI e,b];exact h2
  ·have e':¬q.1=k:=fun z=>e (h1.trans z)
   have b:valueAt (q::qs) k=valueAt qs k:=by simp[valueAt,KP,e']
   rw[VH e,b];exact ih
theorem KV.any{kvs:List (κ×V)}{vs:List (κ×Value)}(r:KV kvs vs)(k:κ):(kvs.any fun kv=>decide (kv.1=k))=vs.any fun kv=>decide (kv.1=k):=by
 unfold KV at r
 induction r with
 | nil=>rfl
 | cons h t ih=>rw[GM,GM,ih,h.1]
theorem KV.repl{kvs:List (κ×V)}{vs:List (κ×Value)}(r:KV kvs vs)(k:κ){y:V}{u:Value}(ry:RelV y u) :
 KV (kvs.map fun kv=>if kv.1=k then(kv.1,y) else kv) (vs.map fun kv=>if kv.1=k then(kv.1,u) else kv):=by
 unfold KV at r ⊢
 induction r with
 | nil=>exact .nil
 | @cons p q ps qs h t ih =>
  rw[Qe,Qe];refine .cons ?_ ih;obtain⟨h1,h2⟩:=h
  by_cases e:p.1=k
  ·rw[if_pos e,if_pos (h1.symm.trans e)];exact⟨h1,ry⟩
  ·rw[if_neg e,if_neg (fun z=>e (h1.trans z))];exact⟨h1,h2⟩
theorem KV.put{kvs:List (κ×V)}{vs:List (κ×Value)}(r:KV kvs vs)(k:κ){y:V}{u:Value}(ry:RelV y u):KV (Vf kvs k y) (stored vs k u):=by
 unfold Vf stored;rw[r.any k]
 by_cases e:(vs.any fun kv=>decide (kv.1=k))=true
 ·rw[if_pos e,if_pos e];exact r.repl k ry
 ·rw[if_neg e,if_neg e];exact Paired.snoc r ⟨rfl,ry⟩
theorem KV.length{kvs:List (κ×V)}{vs:List (κ×Value)}(r:KV kvs vs):kvs.length=vs.length:=Mt r
end

theorem Jdb{P:Program}{w:World}{k:Key}{u:Value}(r:RelV (kV k) u):(JO P w).is k u=true:=by
 cases k with
 | inl i=>obtain⟨t,e⟩:=(show ∃t,u=Value.int i t from r);subst e;exact Jdm P w i t
 | inr x=>obtain⟨t,e⟩:=(show ∃t,u=Value.str x t from r);subst e;exact Jdn P w x t
theorem WT{P:Program}{w:World}:∀{ks:List Key} {us:List Value},Vals (ks.map kV) us->ItemsAre (JO P w) ks us
 | [],_,r=>by rw[KI] at r;cases r;exact .nil
 | k::ks,_,r=>by
  rw[Qe] at r
  cases r with
  | cons h t=>exact .cons (Jdb h) (WT t)

noncomputable abbrev KT(H:Hp):List (List Key×V)->List (List Key×Addr×Value)->Prop:=Paired fun p q=>p.1=q.1/\H q.2.1=some (.tup (p.1.map kV))/\RelV p.2 q.2.2
theorem KT.val{H:Hp}{kvs:List (List Key×V)}{xs:List (List Key×Addr×Value)}(r:KT H kvs xs)(k:List Key):RelO (U1 kvs k) ((atKey xs k).map (·.2)):=by
 induction r with
 | nil=>exact True.intro
 | @cons p q ps qs h t ih =>
  obtain⟨h1,_,h2⟩:=h
  by_cases e:p.1=k
  ·have e':q.1=k:=h1.symm.trans e
   have b:atKey (q::qs) k=some q.2:=by simp[atKey,KP,e']
   rw[VI e,b];exact h2
  ·have e':¬q.1=k:=fun z=>e (h1.trans z)
   have b:atKey (q::qs) k=atKey qs k:=by simp[atKey,KP,e']
   rw[VH e,b];exact ih
theorem KT.repl{H:Hp}{kvs:List (List Key×V)}{xs:List (List Key×Addr×Value)}(r:KT H kvs xs)(k:List Key){y:V}{u:Value}(ry:RelV y u) :
 KT H (kvs.map fun kv=>if kv.1=k then(kv.1,y) else kv) (xs.map (putAt k u)):=by
 induction r with
 | nil=>exact .nil
 | @cons p q ps qs h t ih =>
  rw[Qe,Qe];refine .cons ?_ ih;obtain⟨h1,h2,h3⟩:=h;unfold putAt
  by_cases e:p.1=k
  ·rw[if_pos e,if_pos (h1.symm.trans e)];exact⟨h1,h2,ry⟩
  ·rw[if_neg e,if_neg (fun z=>e (h1.trans z))];exact⟨h1,h2,h3⟩
theorem KT.put{H:Hp}{kvs:List (List Key×V)}{xs:List (List Key×Addr×Value)}(r:KT H kvs xs)(k:List Key){b:Addr}{y:V}{u:Value}(hb:H b=some (.tup (k.map kV)))(ry:RelV y u) :
 KT H (Vf kvs k y) (storedH xs k b u):=by
 have e:(kvs.any fun kv=>decide (kv.1=k))=(atKey xs k).isSome:=by rw[JaH,(r.val k).isSome_eq,Option.isSome_map]
 unfold Vf storedH;rw[e]
 by_cases q:(atKey xs k).isSome=true
 ·rw[if_pos q,if_pos q];exact r.repl k ry
 ·rw[if_neg q,if_neg q];exact Paired.snoc r ⟨rfl,hb,ry⟩
theorem KT.keeps{H H':Hp}{kvs:List (List Key×V)}{xs:List (List Key×Addr×Value)}(r:KT H kvs xs)(ht:∀b ys,H b=some (.tup ys)->H' b=some (.tup ys)):KT H' kvs xs :=
 Paired.mapP r fun _ _ z=>⟨z.1,ht _ _ z.2.1,z.2.2⟩

section
variable{P:Program}{w:World}{H:Hp}{h:Heap}{a:Addr}
theorem JmT{u:HO}(ok:HOk P w H h)(e:Rd H a u):ObjOk P w H h a u:=e.ok ok
theorem JcU{kvs:List (Key×V)}(ok:HOk P w H h)(e:Rd H a (.dK kvs)):kvs.length<=sizeLine/\(a == sysModules)=false/\∃vs,KV kvs vs/\h.DictOf (JO P w) a vs :=
 show ObjOk P w H h a (.dK kvs) from JmT ok e
theorem Jmz{kvs:List (Key×V)}(ok:HOk P w H h)(e:H a=some (.dK kvs)):kvs.length<=sizeLine/\(a == sysModules)=false/\∃vs,KV kvs vs/\h.DictOf (JO P w) a vs:=JcU ok (.inl e)
theorem Jb2{ks:List Key}(ok:HOk P w H h)(e:H a=some (.tup (ks.map kV))):(tupleKind (JO P w)).is h ks a:=by
 obtain⟨_,its,r,o,h1,h2,n,h3⟩:=(show ObjOk P w H h a (.tup (ks.map kV)) from ok a _ e)
 exact⟨o,its.toArray,n,h1,h2,h3,by simpa using WT r⟩
theorem ZQ{kvs:List (List Key×V)}(ok:HOk P w H h)(e:Rd H a (.dT kvs)):kvs.length<=sizeLine/\(a == sysModules)=false ∧
 ∃xs,KT H kvs xs/\h.DictOfH (tupleKind (JO P w)) a xs:=by
 obtain⟨z,y,xs,r,o,es,ep,h1,h2,h3,h4,h5⟩:=(show ObjOk P w H h a (.dT kvs) from JmT ok e)
 refine⟨z,y,xs,r,o,es,ep,h1,h2,h3,h4,fun x hx=>?_,h5⟩
 have all:∀{l:List (List Key×V)} {m:List (List Key×Addr×Value)},KT H l m->∀x∈m,(tupleKind (JO P w)).is h x.1 x.2.1:=by
  intro l m q
  induction q with
  | nil=>intro x hx;exact nomatch hx
  | @cons p q ps qs hq t ih =>
   intro x hx;rcases Qh.mp hx with e|hx
   ·subst e;exact Jb2 ok (by rw[<- hq.1];exact hq.2.1)
   ·exact ih x hx
 exact all r x hx
theorem Jpe{kvs:List (List Key×V)}(ok:HOk P w H h)(e:H a=some (.dT kvs)):kvs.length<=sizeLine/\(a == sysModules)=false ∧
 ∃xs,KT H kvs xs/\h.DictOfH (tupleKind (JO P w)) a xs:=ZQ ok (.inl e)
end

noncomputable def JgI(H:Hp)(a:Addr)(y:V)(r:Option V):Prop :=
 (∃kvs k,Rd H a (.dK kvs)/\y=kV k/\r=U1 kvs k)\/∃kvs k b,Rd H a (.dT kvs)/\y=.ref b/\H b=some (.tup (k.map kV))/\r=U1 kvs k
noncomputable def Jo3(H:Hp)(a:Addr)(y v:V)(H':Hp):Prop :=
 (∃kvs k,H a=some (.dK kvs)/\y=kV k/\kvs.length<sizeLine/\H'=upd H a (.dK (Vf kvs k v))) ∨
 ∃kvs k b,H a=some (.dT kvs)/\y=.ref b/\H b=some (.tup (k.map kV))/\kvs.length<sizeLine/\H'=upd H a (.dT (Vf kvs k v))
section
variable{X:Cx}{pins:List (Addr×Obj)}{σ:St}{H:Hp}{s:Shared}{a:Addr}{y v:V}{u r:Value}{o:Option V}{A:Around}{E:Value->Shared->Prop}

theorem Inv.big(I:Inv X pins σ H s):sysModules<s.heap.objs.size:=by have h:mainGlobals<s.heap.objs.size:=(I.mod.glob.keeps I.bk).lt;exact GJ (by decide) h

theorem JgV{Q:Value->Shared->Prop}(hu:A.units+1<cLine)(I:Inv X pins σ H s)(g:JgI H a y (some v))(ry:RelV y u)(h:∀w' s',Inv X pins σ H s'->RelV v w'->Q w' s') :
 wpAny (model X.prog X.w) A (getItem (.ref a) u) Q E s:=by
 rcases g with ⟨kvs,k,e,ey,l⟩|⟨kvs,k,b,e,ey,eb,l⟩
 ·subst ey;obtain⟨z,hd,vs,rel,dd⟩:=JcU I.hok e;obtain⟨w',hw,rw'⟩:=RelO.some_of (v:=v) (o:=valueAt vs k) (by rw[l];exact rel.val k);exact wpAny_getItem_of (Jdb ry) dd.mapOf hw (h w' _ (I.tok _) rw')
 ·subst ey;cases (show u=Value.ref b from ry);obtain⟨z,hd,xs,rel,dd⟩:=ZQ I.hok e;obtain⟨w',hw,rw'⟩:=RelO.some_of (v:=v) (o:=(atKey xs k).map (·.2)) (by rw[l];exact rel.val k);obtain⟨p,hp,hp2⟩:=Gj.mp hw;refine wpAny_getItem_heap (tupleKind_room_in1 hu) (Jb2 I.hok eb) dd hp ?_;rw[hp2];exact h w' _ (I.tok _) rw'
theorem JbH{h':Heap}{t':Nat}{ob:HO}(I:Inv X pins σ H s)(mu:Mut (H a))(hs:QB a s.heap h')(he:∃q,h'.get? a=some q)(new:ObjOk X.prog X.w (upd H a ob) h' a ob) :
 Inv X pins σ (upd H a ob) { s with heap:=h',toks:=t' } :=
 I.write (x:=a) (e:=a) mu (.inl rfl) (fun b q hb z=>(hs.2 b hb).trans z) he new
theorem Jii{P:Program}{w:World}{H':Hp}{h':Heap}{kvs:List (Key×V)}{vs:List (Key×Value)}(z:kvs.length<=sizeLine)(hd:(a == sysModules)=false)(rel:KV kvs vs)(dd:h'.DictOf (JO P w) a vs) :
 ObjOk P w H' h' a (.dK kvs):=⟨z,hd,vs,rel,dd⟩
theorem JgW{H':Hp}{Q:Unit->Shared->Prop}(hu:A.units+1<cLine)(I:Inv X pins σ H s)(g:Jo3 H a y v H')(ry:RelV y u)(rv:RelV v r)(h:∀s',Inv X pins σ H' s'->Q () s') :
 wpAny (model X.prog X.w) A (setItem (.ref a) u r) Q E s:=by
 rcases g with ⟨kvs,k,e,ey,l,eH⟩|⟨kvs,k,b,e,ey,eb,l,eH⟩
 ·subst ey eH;obtain⟨z,hd,vs,rel,dd⟩:=Jmz I.hok e;have hz:vs.length<=sizeLine:=by rw[<- rel.length];exact z
  have hl:(Vf kvs k v).length<=sizeLine:=by have:=VB kvs k v;omega
  refine wpAny_setItem_pairs (hsz:=hz) (Jdb ry) dd fun h' dd' hs=>h _ ?_
  have he:∃q,h'.get? a=some q:=let ⟨q,_,_,hq,_⟩:=dd';⟨q,hq⟩
  exact JbH I (by rw[e];exact True.intro) hs he (Jii hl hd (rel.put k rv) dd')
 ·subst ey eH;cases (show u=Value.ref b from ry);obtain⟨z,hd,xs,rel,dd⟩:=Jpe I.hok e;have hz:xs.length<=sizeLine:=by rw[<- Mt rel];exact z
  have hl:(Vf kvs k v).length<=sizeLine:=by have:=VB kvs k v;omega
  refine wpAny_setItem_heap (hsz:=hz) (tupleKind_room_in1 hu) (Jb2 I.hok eb) dd fun h' dd' hs=>h _ ?_
  obtain⟨q,es,ep,hq,h2,h3,h4,_,h5⟩:=dd';refine JbH I (by rw[e];exact True.intro) hs ⟨q,hq⟩ ⟨hl,hd,_,(rel.put k eb rv).keeps fun c ys ec=>?_,q,es,ep,hq,h2,h3,h4,h5⟩;rw[Jm (Jbk ec e (fun z=>nomatch z))];exact ec
end

section
variable{X:Cx}{pins:List (Addr×Obj)}{σ:St}{H:Hp}{s:Shared}{a:Addr}{kvs:List (Key×V)}{k:Key}{u:Value}{A:Around}{E:Value->Shared->Prop}
end

noncomputable def Jkr(i:Expr):Prop:=∀ov iv,subscripted i false ov iv=operate [ov,iv] (getItem ov iv)
theorem Jgk{prog:Program}{w:World}{A:Around}{E:Value->Shared->Prop}{s:Shared}{env:Env}{value slice:Expr}{pos:Pos}{T id:String}{Q:Value->Shared->Prop}
 (hl:typeLookup (.type T) "__getitem__"=pure (some (.builtin id))) (hs:Jkr slice)
 (h:wpAny (model prog w) A (eval value env) (fun o s₁=>wpAny (model prog w) A (eval slice env) (fun i s₂=>s₂.TypeIs o T/\wpAny (model prog w) A (getItem o i) Q E s₂) E s₁) E s) :
 wpAny (model prog w) A (eval (.Subscript value slice pos) env) Q E s:=by
 refine Subscript_ (KG h (fun o s₁ h₁=>KG h₁ (fun i s₂ h₂=>?_) fun _ _ x=>x) fun _ _ x=>x);obtain⟨hT,h₂⟩:=h₂;unfold subscriptTail;refine Qa ?_;rw[getitemInPython_of_ne hT.not_modules];refine Qa (KQ hT hl ?_)
 have fin:wpAny (model prog w) A (subscripted slice false o i) (fun r s₃=>wpAny (model prog w) A (letTemporaryGo value o r >>= fun _=>pure r) Q E s₃) E s₂:=by rw[hs o i];exact wpAny_operating (KG h₂ (fun r s₃ h₃=>Qa (wpAny_letTemporaryGo (Qg h₃))) fun _ _ x=>x)
 first
  | exact Qg (Qa fin)
  | exact Qa (Qg (Qa fin))
  | exact Qa fin

theorem JcT{X:Cx}{pins:List (Addr×Obj)}{σ:St}{H:Hp}{s:Shared}{a:Addr}{y:V}{o:Option V}(I:Inv X pins σ H s)(g:JgI H a y o):s.TypeIs (.ref a) "dict":=by
 rcases g with ⟨kvs,k,e,_,_⟩|⟨kvs,k,b,e,_,_,_⟩
 ·obtain⟨_,_,vs,_,dd⟩:=JcU I.hok e;exact dd.typeIs
 ·obtain⟨_,_,xs,_,dd⟩:=ZQ I.hok e;exact dd.typeIs
noncomputable def JmW(td ty:TE):TE:=fun σ H Q=>td σ H fun x H1=>ty σ H1 fun y H2=>∃a v,x=.ref a/\JgI H2 a y (some v)/\Q v H2
noncomputable def JjV(td ty tv:TE):TS:=fun D σ H=>tv σ H fun v H1=>td σ H1 fun x H2=>ty σ H2 fun y H3=>∃a H4,x=.ref a/\Jo3 H3 a y v H4/\D.nx σ H4
section
variable{X:Cx}{o i e value:Expr}{pos pos' tpos:Pos}{td ty tv:TE}
theorem Jlz(hu:X.A.units+1<cLine)(ho:PE X o td)(hi:PE X i ty)(hs:Jkr i):PE X (.Subscript o i pos) (JmW td ty):=by intro pins s σ H Q I h;refine Jgk Ml.lookup hs (thn (ho pins s σ H _ I h) fun u s1 ⟨x,H1,I1,rx,q1⟩=>thn (hi pins s1 σ H1 _ I1 q1) fun iv s2 ⟨y,H2,I2,ry,a,v,ex,g,q2⟩=>?_);subst ex;obtain rfl:u=Value.ref a:=rx;exact⟨JcT I2 g,JgV hu I2 g ry fun w' s3 I3 rw'=>⟨v,H2,I3,rw',q2⟩⟩
theorem Jf8(hu:X.A.units+1<cLine)(ho:PE X o td)(hi:PE X i ty)(hv:PE X value tv)(hs:swapsWith value (some (.Subscript o i pos')) pos.line X.env=pure false) :
 PS X (.Assign [.Subscript o i pos'] value pos) (JjV td ty tv):=by
 intro pins s σ H D I h;refine wpAny_Assign_Subscript (thn (hv pins s σ H _ I h) fun r s1 ⟨v,H1,I1,rv,q1⟩=>thn (ho pins s1 σ H1 _ I1 q1) fun u s2 ⟨x,H2,I2,rx,q2⟩=>thn (hi pins s2 σ H2 _ I2 q2) fun iv s3 ⟨y,H3,I3,ry,a,H4,ex,g,q3⟩=>?_) hs;subst ex;obtain rfl:u=Value.ref a:=rx;exact JgW hu I3 g ry rv fun s4 I4=>⟨σ,H4,I4,q3⟩
end

theorem Jig{P:Program}{w:World}{H:Hp}(h:Heap)(hb:sysModules<h.objs.size):ObjOk P w H (h.push { cls:=.type "dict",data:=.dict #[] }) h.objs.size (.dK []) :=
 ⟨Gv _,beq_eq_false_iff_ne.mpr (QO (QA hb)),[],.nil,Heap.DictOf.new h⟩
theorem Jik{P:Program}{w:World}{H:Hp}(h:Heap)(hb:sysModules<h.objs.size):ObjOk P w H (h.push { cls:=.type "dict",data:=.dict #[] }) h.objs.size (.dT []) :=
 ⟨Gv _,beq_eq_false_iff_ne.mpr (QO (QA hb)),[],.nil,_,#[],0,Qi _ rfl,⟨rfl,rfl,rfl⟩,rfl,rfl,List.nodup_nil⟩
noncomputable def Jj5:TE:=fun _ H Q=>∀p,H p=none->Q (.ref p) (upd H p (.dK []))
noncomputable def Jj6:TE:=fun _ H Q=>∀p,H p=none->Q (.ref p) (upd H p (.dT []))
section
variable{X:Cx}{pos:Pos}
theorem Jap:PE X (.Dict [] [] pos) Jj5:=fun pins s σ H Q I h=>wpAny_Dict_empty ⟨.ref s.heap.objs.size,_,I.laid (a:=s.heap.objs.size) (o:=.dK []) (t':=s.toks) (fun _ _ q=>Qf _ q) (Qm _) (Jig s.heap I.big),rfl,h _ (I.hok.fresh (Qm _))⟩
theorem Jjl:PE X (.Dict [] [] pos) Jj6:=fun pins s σ H Q I h=>wpAny_Dict_empty ⟨.ref s.heap.objs.size,_,I.laid (a:=s.heap.objs.size) (o:=.dT []) (t':=s.toks) (fun _ _ q=>Qf _ q) (Qm _) (Jik s.heap I.big),rfl,h _ (I.hok.fresh (Qm _))⟩
end

structure M2 (X:Cx) (o:Expr) (m:Str) (apos:Pos) (e f:Expr) (cpos:Pos):Prop where
 base:attributeBase o m X.env (eval o X.env)=eval o X.env
 few:((backTo cpos (starEach [e,f] X.env)).all (fun x=>!x.1) && (backToKw cpos (keywordEach [] X.env)).all (fun x=>x.1.isSome)
  && decide (([e,f]:List Expr).length+([]:List Keyword).length+(if ([]:List Keyword).isEmpty then 0 else 1)<30))=true
 line:(apos.endLine == cpos.line)=true
 trees:backTo cpos (starEach [e,f] X.env)=[(false,eval e X.env),(false,eval f X.env)]

noncomputable def IsD(H:Hp)(a:Addr):Prop:=(∃kvs,Rd H a (.dK kvs))\/∃kvs,Rd H a (.dT kvs)
theorem Z9{X:Cx}{pins:List (Addr×Obj)}{σ:St}{H:Hp}{s:Shared}{a:Addr}(I:Inv X pins σ H s)(d:IsD H a) :
 s.TypeIs (.ref a) "dict"/\(∀b,Value.ref a=.ref b->∃ob,s.heap.get? b=some ob/\ob.dict=none)/\(a == sysModules)=false:=by
 rcases d with ⟨kvs,e⟩|⟨kvs,e⟩
 ·obtain⟨_,hd,vs,_,dd⟩:=JcU I.hok e;refine⟨dd.typeIs,fun b q=>?_,hd⟩;cases q;obtain⟨ob,_,_,h1,h2,_⟩:=dd;exact⟨ob,h1,h2.2.1⟩
 ·obtain⟨_,hd,xs,_,dd⟩:=ZQ I.hok e;refine⟨dd.typeIs,fun b q=>?_,hd⟩;cases q;obtain⟨ob,_,_,h1,h2,_⟩:=dd;exact⟨ob,h1,h2.2.1⟩

section
variable{X:Cx}{pins:List (Addr×Obj)}{σ:St}{H:Hp}{s:Shared}{a:Addr}{y d:V}{u r:Value}{o:Option V}{A:Around}{E:Value->Shared->Prop}
theorem Jnd{Q:Value->Shared->Prop}(hu:A.units+1<cLine)(I:Inv X pins σ H s)(g:JgI H a y o)(ry:RelV y u)(rd:RelV d r)(h:∀w' s',Inv X pins σ H s'->RelV (o.getD d) w'->Q w' s') :
 wpAny (model X.prog X.w) A (call (.builtin "dict.get") [.ref a,u,r]) Q E s:=by
 rcases g with ⟨kvs,k,e,ey,l⟩|⟨kvs,k,b,e,ey,eb,l⟩
 ·subst ey;obtain⟨z,hd,vs,rel,dd⟩:=JcU I.hok e;refine call_meetsIn Ly dd.typeIs MO (ME _ _ _) (meets_dict_get_default (JO X.prog X.w) a (Jdb ry) hd r) ⟨_,dd.mapOf,h _ _ (I.tok _) ?_⟩;rw[l];exact(rel.val k).getD rd
 ·subst ey;cases (show u=Value.ref b from ry);obtain⟨z,hd,xs,rel,dd⟩:=ZQ I.hok e;refine call_meetsIn Ly dd.typeIs MO (ME _ _ _) (meetsH_dict_get_default (tupleKind (JO X.prog X.w)) a b hd r) ⟨tupleKind_room_in1 hu,k,xs,Jb2 I.hok eb,dd,h _ _ (I.tok _) ?_⟩;rw[l];exact(rel.val k).getD rd
end

noncomputable def Je5(td ty tx:TE):TE:=fun σ H Q=>td σ H fun x H1=>∃a,x=.ref a/\IsD H1 a/\ty σ H1 fun y H2=>tx σ H2 fun z H3=>∃o,JgI H3 a y o/\Q (o.getD z) H3
section
variable{X:Cx}{o e f:Expr}{apos cpos:Pos}{td ty tx:TE}
theorem Jdz(hu:X.A.units+1<cLine)(ho:PE X o td)(he:PE X e ty)(hf:PE X f tx)(m:M2 X o "get" apos e f cpos):PE X (.Call (.Attribute o "get" apos) [e,f] [] cpos) (Je5 td ty tx):=by
 intro pins s σ H Q I h;refine wpAny_Call_method m.base m.few m.line G2 Ly PySem.F.type_dict_get (thn (ho pins s σ H _ I h) fun u s1 ⟨x,H1,I1,rx,a,ex,d,q1⟩=>?_);subst ex;obtain rfl:u=Value.ref a:=rx;obtain⟨t1,t2,_⟩:=Z9 I1 d;refine⟨t1,t2,?_⟩;rw[m.trees];refine GI rfl (LD (Kb (thn (he pins s1 σ H1 _ I1 q1) fun iv s2 ⟨y,H2,I2,ry,q2⟩=>Kb (thn (hf pins s2 σ H2 _ I2 q2) fun fv s3 ⟨z,H3,I3,rz,ov,g,q3⟩=>Ln ?_))))
 exact Jnd hu I3 g ry rz fun w' s4 I4 rw'=>⟨_,H3,I4,rw',q3⟩
end

section
variable{X:Cx}{pins:List (Addr×Obj)}{σ:St}{H:Hp}{s:Shared}{a:Addr}{kvs:List (Key×V)}{A:Around}{E:Value->Shared->Prop}
end

section
variable{X:Cx}{pins:List (Addr×Obj)}{σ:St}{H:Hp}{s:Shared}{a:Addr}{y:V}{u:Value}{A:Around}{E:Value->Shared->Prop}
end
end L2
namespace L2
open PySem PySem.Spec PyProof.Rows

noncomputable def JhM(X:Cx)(ifs:List Expr)(t:TT):Prop :=
 ∀(pins:List (Addr×Obj)) (s:Shared) (σ:St) (H:Hp) (Q:Bool->Hp->Prop),Inv X pins σ H s->t σ H Q ->
  wpAny (model X.prog X.w) X.A (forIn ifs true fun c r=>if r=true then do let ok <- isTrue c X.env (eval c X.env);pure (ForInStep.yield ok) else pure (ForInStep.yield r)) (TP X pins σ Q) X.xe s
noncomputable def JoQ:TT:=fun _ H Q=>Q true H
theorem J7{X:Cx}:JhM X [] JoQ:=fun _ _ _ H _ I h=>wpAny_tests_nil ⟨H,I,h⟩
theorem JdE{X:Cx}{c:Expr}{t:TT}(h:PT X c t):JhM X [c] t:=fun pins s σ H Q I q=>wpAny_tests_one (h pins s σ H Q I q)

noncomputable def blk(X:Cx)(sc:Scope)(cl:List (Str×Addr))(N':List Str)(C:Addr)(s:Shared)(H:Hp)(fp:List Addr):Cx where
 prog:=X.prog
 w:=X.w
 K:=X.K
 mg:=X.mg
 base:=X.base
 A:=X.A
 N:=N'
 s₀:=s
 H₀:=H
 env:=compEnvC sc cl C X.env
 outer:=X.stack
 stack:=X.stack
 ex:=fp
 fn:=fun _=>false
 calm:=X.calm
 pn:=[]
 xe:=fun _ _=>False

noncomputable def ZZ(imp:List (Option Nat))(σ:St):St:=imp.map fun o=>match o with
 | none=>none
 | some k=>(σ[k]?).join

structure Blk (X:Cx) (sc:Scope) (cl:List (Str×Addr)) (N':List Str) (imp:List (Option Nat)):Prop where
 clos:closureFor sc X.env=pure cl
 kind:sc.kind=.function
 nocell:∀y∈sc.names,y.2≠.cell
 names:∀y∈sc.names,y.2=.local->sc.names.lookup y.1=some .local
 sub:∀p∈cl,X.env.cells.lookup p.1=some p.2
 has:∀y∈(relabel sc X.env).names,(y.2=.cell\/y.2=.free)->(cl.lookup y.1).isSome=true
 len:imp.length=N'.length
 im:∀p∈imp.zip N',∀k,p.1=some k->X.N[k]?=some p.2/\(X.env.scope.names.lookup p.2=some .cell\/X.env.scope.names.lookup p.2=some .free)/\((relabel sc X.env).names.lookup p.2=some .cell\/(relabel sc X.env).names.lookup p.2=some .free)

noncomputable def Jgp(wi:TI)(g:TG)(tt:TT)(te:TE)(imp:List (Option Nat)):TE:=fun σ H Q=>wi σ H fun J H1=>∃W:Nat->Nat->List V->St->Hp->Prop,(∃m,W 0 m [] (ZZ imp σ) H1)/\∀i m ys σ' H',W i m ys σ' H' ->
 (J.stop i H'/\ys.length<=sizeLine/\∀D,H' D=none->Q (.ref D) (upd H' D (.lst ys))) ∨
 (J.go i H'/\ys.length<sizeLine/\∃N:List V->St->Hp->Prop,(∀ys' σ2 H2,N ys' σ2 H2->∃m',m'<m/\W (i+1) m' ys' σ2 H2) ∧
  ∀x H2,J.yld i H' x H2->g x σ' H2 fun σ2 H3=>tt σ2 H3 fun b H4=>if b=true then te σ2 H4 fun y H5=>N (ys++[y]) σ2 H5 else N ys σ2 H4)

section
variable{P:Program}{w:World}{H:Hp}{h h':Heap}
theorem HOk.sameBut{C:Addr}(x:HOk P w H h)(hC:H C=none)(k:∀b o,b≠C->h.get? b=some o->h'.get? b=some o):HOk P w H h':=fun a o e =>
 (x a o e).stay (fun b u hb q=>k b u (by
  rintro rfl;rcases hb with z|z
  ·rw[<- z,hC] at e;cases e
  ·rw[hC] at z;cases z) q) (fun _ q=>q) fun _ _ q=>q
theorem HOk.track{D:Addr}{o:HO}(x:HOk P w H h)(hD:H D=none)(new:ObjOk P w (upd H D o) h D o):HOk P w (upd H D o) h:=fun b u e=>by
 by_cases hb:b=D
 ·subst hb;rw[Js] at e;cases e;exact new
 ·rw[Jm hb] at e;exact(x b u e).stay (fun c v _ q=>q) (fun c q=>by rw[Jm (Jw q hD)];exact q) fun c xs q=>by rw[Jm (Jw q hD)];exact q
end

theorem V8{α:Type}{x:Str}{c:α}:∀{l:List (Str×α)},l.lookup x=some c->(x,c)∈l:=fun h=>G6 h

section
variable{X:Cx}{tg iter elt:Expr}{ifs:List Expr}{sc:Scope}{cl:List (Str×Addr)}{N':List Str}{imp:List (Option Nat)}{pos:Pos}{wi:TI}{g:TG}{tt:TT}{te:TE}

theorem Blk.subL(B:Blk X sc cl N' imp):∀x c,cl.lookup x=some c->X.env.cells.lookup x=some c:=fun x c e=>B.sub (x,c) (V8 e)

theorem JkA{pins:List (Addr×Obj)}{σ:St}{H:Hp}{s:Shared}{fp:List Addr}{h₁:Heap}{C:Addr}(B:Blk X sc cl N' imp)(I:Inv X pins σ H s)(hf:∀b∈fp,FpOk X pins H b)(hfo:∀b∈fp,∃o,s.heap.get? b=some o)
 (hC:s.heap.objs.size<C) (old:∀b o,s.heap.get? b=some o->h₁.get? b=some o) (ns:h₁.Ns C fun _=>none) :
 Inv (blk X sc cl N' C s H fp) [] (ZZ imp σ) H { s with heap:=h₁,toks:=s.toks }:=by
 have hlt:∀b∈fp,b<s.heap.objs.size:=fun b hb=>let ⟨_,e⟩:=hfo b hb;Qj e
 have clt:∀x c,X.env.cells.lookup x=some c->c<s.heap.objs.size:=fun x c e=>let ⟨_,q⟩:=I.cell x c e;q.lt
 have ok:(blk X sc cl N' C s H fp).Ok:={
  mod:=I.ok.mod
  kind:=B.kind
  glob:=I.ok.glob
  blt:=I.ok.blt
  above:=GO hC
  inj:=fun x y c h1 h2=>I.ok.inj x y c (B.subL x c h1) (B.subL y c h2)
  has:=fun x hx=>by
   have hx':(relabel sc X.env).names.lookup x=some .cell\/(relabel sc X.env).names.lookup x=some .free:=hx
   have:(cl.lookup x).isSome=true:=by
    rcases hx' with z|z
    ·exact B.has (x,.cell) (V8 z) (.inl rfl)
    ·exact B.has (x,.free) (V8 z) (.inr rfl)
   exact Mu.mp this
  cab:=fun x c z=>nomatch z
  hd:=I.ok.hd
  frames:=I.ok.frames
  stk:=.inl rfl
  exf:=fun b hb=>⟨QA (GJ (hlt b hb) hC),fun x c e=>(hf b hb).2.2.2.2.1 x c (B.subL x c e)⟩
  bs:=I.bs
  bsz:=Gi I.ok.bsz I.sz
  noex:=fun b o e hb=>by
   rcases(hf b hb).2.2.2.1 with z|z
   ·exact I.ok.noex b o e z
   ·exact absurd (QV (Qj e) (Gi I.ok.bsz z)) (QZ _)
  exfs:=fun b hb z=>by
   rcases Qh.mp (I.stkSub b z) with q|q
   ·exact(hf b hb).2.1 q
   ·exact(hf b hb).2.2.1 q
  funs:=I.stack
  frf:=I.stkFree }
 refine⟨ok,rfl,I.bare,Un.kept old,⟨_,ns,fun i x v h1 h2 h3=>?_⟩,fun x c e=>?_,I.hok.fresh (GO hC),fun x c e=>I.freeC x c (B.subL x c e),fun p hp=>absurd (show p∈([]:List (Addr×Obj)) from hp) (by simp),I.hok.kept old,?_⟩
 ·have h1':N'[i]?=some x:=h1
  have h2':(imp.map fun o=>match o with|none=>none|some k=>(σ[k]?).join)[i]?=some (some v):=h2;rw[Qq] at h2'
  cases e:imp[i]? with
  | none=>rw[e] at h2';cases h2'
  | some q =>
   rw[e] at h2'
   cases q with
   | none=>cases h2'
   | some k =>
    have h2'':(σ[k]?).join=some v:=QG h2'
    have hk:σ[k]?=some (some v):=by
     cases e':σ[k]? with
     | none=>rw[e'] at h2'';cases h2''
     | some z=>rw[e'] at h2'';cases z with
      | none=>cases h2''
      | some z=>cases h2'';rfl
    have hm:(some k,x)∈imp.zip N':=by refine QF (i:=i) ?_;rw[K6];exact⟨e,h1'⟩
    obtain⟨b1,b2,b3⟩:=B.im _ hm k rfl;obtain⟨m,hn,hl⟩:=I.loc;obtain⟨u,r,l⟩:=hl k x v b1 hk (b2.elim (fun z=>.inr (.inl z)) fun z=>.inr (.inr z));refine⟨u,r,.inr ⟨b3,?_⟩⟩
    have hc:∃c,X.env.cells.lookup x=some c/\s.heap.IsCell c (some u):=by
     rcases l with ⟨z,_⟩|⟨_,z⟩
     ·have z':X.env.scope.names.lookup x=some .local:=z;rcases b2 with y|y <;> rw[y] at z' <;> cases z'
     ·exact z
    obtain⟨c,hc,oc,ho,hd⟩:=hc;obtain⟨c',hc'⟩:=ok.has x b3;have e2:=B.subL x c' hc';rw[hc] at e2;cases e2;exact⟨c,hc',oc,old c oc ho,hd⟩
 ·obtain⟨v,o,ho,hd⟩:=I.cell x c (B.subL x c e);exact⟨v,o,old c o ho,hd⟩
 ·show(imp.map _).length=N'.length;rw[Qk];exact B.len

theorem Jkz{pins pn:List (Addr×Obj)}{σ σ':St}{H2 H':Hp}{s2 s4:Shared}{fp:List Addr}{C D:Addr}{Cs:Addr}{ys:List V}{its:List Value}{k:Nat}{h':Heap}(I2:Inv X pins σ H2 s2)(f2:∀b∈fp,FpOk X pins H2 b)
 (I5:Inv (blk X sc cl N' C s2 H2 fp) pn σ' H' s4) (hC:s2.heap.objs.size<C) (hD:H' D=none) (hDs:s2.heap.objs.size<=D) (hDC:D≠C) (eD:s4.heap.get? D=some { cls:=.type "list",data:=.seq its.toArray k })
 (rv:Vals ys its) (hz:ys.length<=sizeLine) (hsb:QB C s4.heap h'):Inv X pins σ (upd H' D (.lst ys)) { s4 with heap:=h' }:=by
 have U:Un (frs X.stack) fp H2 H' s2.heap s4.heap:=I5.base
 have kk:∀b o,b≠C->s4.heap.get? b=some o->h'.get? b=some o:=hsb.extBut
 have hC':H' C=none:=I5.free
 have ok1:HOk X.prog X.w H' h':=HOk.sameBut (C:=C) I5.hok hC' kk
 have ok2:HOk X.prog X.w (upd H' D (.lst ys)) h':=ok1.track hD ⟨hz,its,k,rv,kk _ _ hDC eD⟩
 have lt:∀b o,s2.heap.get? b=some o->b≠C/\b≠D:=fun b o e=>⟨QA (GJ (Qj e) hC),QA (QV (Qj e) hDs)⟩
 refine I2.call' (s':={ s4 with heap:=h' }) (ch:=fp) I5.os ⟨fun b o e n hb hx=>kk b o (lt b o e).1 (U.keep b o e n hb hx),fun b o e n hb hx=>?_,fun b o e n hx=>?_,fun b o e hx=>?_,fun b xs e=>?_,fun b o u e=>?_,fun b ps e=>?_⟩ ok2 I5.bare
  fun b hb=>⟨(f2 b hb).2.2.2.1,(f2 b hb).2.1,(f2 b hb).2.2.2.2.1,(f2 b hb).2.2.2.2.2⟩
 ·obtain⟨sl,q⟩:=U.slot b o e n hb hx;exact⟨sl,kk b _ (lt b o e).1 q⟩
 ·rw[Jm (lt b o e).2];exact U.free b o e n hx
 ·obtain⟨o',q⟩:=U.there b o e hx;exact⟨o',kk b o' (lt b o e).1 q⟩
 ·have q:=U.tups b xs e;rw[Jm (Jw q hD)];exact q
 ·have q:=U.frzs b o u e;rw[Jm (Jw q hD)];exact q
 ·obtain⟨more,q⟩:=U.tbls b ps e;exact⟨more,by rw[Jm (Jw q hD)];exact q⟩

noncomputable def Jo2(g:TG)(tt:TT)(te:TE)(imp:List (Option Nat))(σ:St)(Q:VK)(J:It)(H1:Hp):Prop:=∃W:Nat->Nat->List V->St->Hp->Prop,(∃m,W 0 m [] (ZZ imp σ) H1)/\∀i m ys σ' H',W i m ys σ' H' ->
 (J.stop i H'/\ys.length<=sizeLine/\∀D,H' D=none->Q (.ref D) (upd H' D (.lst ys))) ∨
 (J.go i H'/\ys.length<sizeLine/\∃N:List V->St->Hp->Prop,(∀ys' σ2 H2,N ys' σ2 H2->∃m',m'<m/\W (i+1) m' ys' σ2 H2) ∧
  ∀x H2,J.yld i H' x H2->g x σ' H2 fun σ2 H3=>tt σ2 H3 fun b H4=>if b=true then te σ2 H4 fun y H5=>N (ys++[y]) σ2 H5 else N ys σ2 H4)
theorem Ja8{pins:List (Addr×Obj)}{σ:St}{Q:VK}{itv:Value}{s2:Shared}{RR:Value->Addr->Result->Shared->Prop}{E:Value->Shared->Prop}(hc:X.calm=true)(B:Blk X sc cl N' imp)
 (hg:∀C s H fp,PG (blk X sc cl N' C s H fp) tg g) (ht:∀C s H fp,JhM (blk X sc cl N' C s H fp) ifs tt) (he:∀C s H fp,PE (blk X sc cl N' C s H fp) elt te)
 (h2:PIE X pins σ tg (Jo2 g tt te imp σ Q) itv s2)
 (fin:∀(C D:Addr) (s4:Shared) (H':Hp) (ys:List V) (m:Str->Option Value),s2.heap.objs.size<C->s4.heap.Ns C m->H' C=none->(∀h',QB C s4.heap h'->Inv X pins σ H' { s4 with heap:=h' })->Q (.ref D) H'->RR (.ref D) C (.ok .next) s4) :
 wpAny (model X.prog X.w) X.A (newList []) (fun acc s₃=>wpAny (model X.prog X.w) X.A (newFunctionEnv sc X.env.globals cl [] X.env.qual none .none (some X.env)) (fun cenv s₄=>codeAny (model X.prog X.w) X.A (.compStart (.ListComp elt [⟨tg,iter,ifs,0⟩] sc pos) 0 itv acc { cenv with scope:=relabel sc X.env }) (RR acc cenv.locals) s₄) E s₃) E s2:=by
 obtain⟨it,fp,tn,J,H2,e,I2,T,st2,f2,W,⟨m0,w0⟩,turn⟩:=h2;subst e;refine Q3 (wpAny_newFunctionEnv B.nocell (by intro y hy;simp at hy) (fun h₁ hns₁ hsb₁=>?_) B.kind);dsimp only at hns₁ hsb₁ ⊢
 generalize hG:s2.heap.push { cls:=.type "list",dict:=none,data:=.seq ([]:List Value).toArray }=G at hns₁ hsb₁ ⊢
 have hCs:G.objs.size=s2.heap.objs.size+1:=by rw[<- hG,Gy]
 have hC:s2.heap.objs.size<G.objs.size:=by rw[hCs];exact Kw _
 have JH:∀b,b<s2.heap.objs.size->b≠G.objs.size:=fun b hb=>QA (GJ hb hC)
 have old:∀b o,s2.heap.get? b=some o->h₁.get? b=some o:=fun b o e=>hsb₁.extBut b o (JH b (Qj e)) (Qf _ (hG▸Qf _ e))
 have hD1:h₁.get? s2.heap.objs.size=some { cls:=.type "list",data:=.seq ([]:List Value).toArray }:=hsb₁.extBut _ _ (QA hC) (Qf _ (hG▸Qi _ rfl))
 have fpo:∀b∈fp,∃o,s2.heap.get? b=some o:=fun b hb=>let ⟨o,e,_⟩:=T.obj 0 _ st2 b hb;⟨o,e⟩
 have I4:=JkA B I2 f2 fpo hC old (show h₁.Ns G.objs.size fun _=>none from hns₁)
 -- the records of the block: the list that grows,the iterator's
 have stD:∀{H':Hp} {pn:List (Addr×Obj)},(∀b∈s2.heap.objs.size::fp,H' b=none)->(∀p∈pn,p.1∉s2.heap.objs.size::fp)->∀b∈s2.heap.objs.size::fp,FpOk (blk X sc cl N' G.objs.size s2 H2 fp) pn H' b:=fun {H' pn} hn hp b hb=>by
  have hp':∀p∈([]++pn:List (Addr×Obj)),p.1≠b:=fun p z q=>hp p (by simpa using z) (q▸hb)
  rcases Qh.mp hb with z|z
  ·subst z;refine⟨hn _ hb,QA hC,fun q=>?_,.inr (Qm _),fun x c e q=>?_,hp'⟩
   ·rcases Qh.mp (I2.stkSub _ q) with q|q
    ·exact absurd I2.lt (by rw[<- q];exact QZ _)
    ·exact I2.nofs (Qm _) q
   ·obtain⟨v,qc⟩:=I2.cell x c (B.subL x c e);exact absurd qc.lt (by rw[q];exact QZ _)
  ·refine⟨hn _ hb,JH b (let ⟨_,e⟩:=fpo b z;Qj e),fun q=>?_,.inl z,fun x c e=>(f2 b z).2.2.2.2.1 x c (B.subL x c e),hp'⟩;rcases Qh.mp (I2.stkSub b q) with q|q
   ·exact(f2 b z).2.1 q
   ·exact(f2 b z).2.2.1 q
 have nDf:s2.heap.objs.size∉fp:=fun z=>let ⟨_,e⟩:=fpo _ z;absurd (Qj e) (QZ _)
 have loop:codeAny (model X.prog X.w) X.A (.compLoop (.ListComp elt [⟨tg,iter,ifs,0⟩] sc pos) 0 (.ref it) (.ref s2.heap.objs.size) (compEnvC sc cl G.objs.size X.env))
  (RR (.ref s2.heap.objs.size) G.objs.size) { s2 with heap:=h₁,toks:=s2.toks }:=by
  refine codeAny_loop rfl (fun n s'=>∃i ys its k σ' H',Inv (blk X sc cl N' G.objs.size s2 H2 fp) [] σ' H' s'/\tn i s'.heap/\(∀b∈s2.heap.objs.size::fp,H' b=none)/\Vals ys its/\s'.heap.get? s2.heap.objs.size=some { cls:=.type "list",data:=.seq its.toArray k }/\W i n ys σ' H') ?_ m0
   ⟨0,[],[],0,_,H2,I4,T.keep _ _ _ st2 (fun b _ o e=>old b o e),fun b hb=>?_,.nil,hD1,w0⟩
  ·rintro n s3 ⟨i,ys,its,k,σ3,H3,I3,st3,fr3,rv3,hD3,w3⟩;have fr3':∀b∈fp,FpOk (blk X sc cl N' G.objs.size s2 H2 fp) [] H3 b:=fun b hb=>stD (pn:=[]) fr3 (fun p z=>nomatch z) b (Qc _ hb)
   show wpAny _ X.A ((compTurn (.ListComp elt [⟨tg,iter,ifs,0⟩] sc pos) 0 (.ref it) (.ref s2.heap.objs.size) (compEnvC sc cl G.objs.size X.env)).onRaise (fun x=>do noteFrame x (compEnvC sc cl G.objs.size X.env);theTreesLotGoes x)) _ _ s3;refine wpAny_noted (wpAny_noRaise ?_);rw[compTurn_list];refine Qa (wpAny_standAt (Qa ?_))
   have fD:=stD (pn:=[]) fr3 (fun p z=>nomatch z) s2.heap.objs.size Qd
   have hDH:H3 s2.heap.objs.size=none:=fr3 _ Qd
   have I3p:Inv (blk X sc cl N' G.objs.size s2 H2 fp) [(s2.heap.objs.size,{ cls:=.type "list",data:=.seq its.toArray k })] σ3 H3 s3:=I3.pins_of fun p hp=>by
    have e:p=(s2.heap.objs.size,{ cls:=.type "list",data:=.seq its.toArray k }):=by simpa using hp
    subst e;exact⟨hD3,hDH,fD.2.1,fD.2.2.1,fun v z=>by cases z⟩
   have pfp:∀p∈[(s2.heap.objs.size,({ cls:=.type "list",data:=.seq its.toArray k }:Obj))],p.1∉fp:=fun p hp=>by
    have e:p=(s2.heap.objs.size,{ cls:=.type "list",data:=.seq its.toArray k }):=by simpa using hp
    subst e;exact nDf
   have fpP:∀{H':Hp},(∀b∈fp,H' b=none)->∀b∈fp,FpOk (blk X sc cl N' G.objs.size s2 H2 fp) [(s2.heap.objs.size,({ cls:=.type "list",data:=.seq its.toArray k }:Obj))] H' b:=fun {H'} hn b hb =>
    have f:=stD (pn:=[]) fr3 (fun p z=>nomatch z) b (Qc _ hb)
    ⟨hn b hb,f.2.1,f.2.2.1,f.2.2.2.1,f.2.2.2.2.1,fun p hp q=>pfp p ((Q6.mp hp).elim (fun z=>nomatch (show p∈([]:List (Addr×Obj)) from z)) id) (q▸hb)⟩
   rcases turn i n ys σ3 H3 w3 with ⟨stop,hz,q⟩|⟨go,hz,N,hN,step⟩
   ·refine thn (T.done (blk X sc cl N' G.objs.size s2 H2 fp) rfl rfl rfl hc i _ s3 σ3 H3 _ I3p (fpP fun b hb=>fr3 b (Qc _ hb)) st3 stop) fun r s4 ⟨hr,I5⟩=>?_
    subst hr;refine Qg ?_;obtain⟨m,hn,_⟩:=I5.loc;have eD:=(I5.pin (s2.heap.objs.size,{ cls:=.type "list",data:=.seq its.toArray k }) (by simp)).1;have hCf:H3 G.objs.size=none:=I5.free;exact fin G.objs.size s2.heap.objs.size s4 _ ys m hC hn (by rw[Jm (Q1 hC)];exact hCf) (fun h' hsb=>Jkz (Cs:=0) I2 f2 I5 hC hDH (Qm _) (QA hC) eD rv3 hz hsb) (q _ hDH)
   ·refine thn (T.item (blk X sc cl N' G.objs.size s2 H2 fp) rfl rfl rfl hc i _ s3 σ3 H3 _ I3p (fpP fun b hb=>fr3 b (Qc _ hb)) st3 go) fun r s4 ⟨u,hr,h4⟩=>?_
    subst hr;refine Qa (thn h4 fun _ s5 ⟨x,H5,I5,r5,y5,st5,fr5⟩=>?_);have I5':=I5.pinned (fpP fr5) (T.obj _ _ st5);refine Qa (thn (hg G.objs.size s2 H2 fp _ s5 σ3 H5 x u _ I5' r5 (step x H5 y5)) fun _ s6 ⟨σ6,H6,I6,q6⟩=>?_);refine Qa (thn (ht G.objs.size s2 H2 fp _ s6 σ6 H6 _ I6 q6) fun ok s7 ⟨H7,I7,q7⟩=>?_)
    -- what stays of the records
    have recs:∀{σ':St} {H':Hp} {s':Shared},Inv (blk X sc cl N' G.objs.size s2 H2 fp) ([(s2.heap.objs.size,({ cls:=.type "list",data:=.seq its.toArray k }:Obj))]++Jas fp s5.heap) σ' H' s' ->
     tn (i+1) s'.heap/\(∀b∈s2.heap.objs.size::fp,H' b=none)/\s'.heap.get? s2.heap.objs.size=some { cls:=.type "list",data:=.seq its.toArray k }:=fun {σ' H' s'} I'=>by
     have pd:=I'.pin (s2.heap.objs.size,{ cls:=.type "list",data:=.seq its.toArray k }) (by simp)
     have pf:∀b∈fp,∀o,s5.heap.get? b=some o->s'.heap.get? b=some o/\H' b=none:=fun b hb o e=>by have z:=I'.pin (b,o) (Gr _ (Gr _ (Wa hb e)));exact⟨z.1,z.2.1⟩
     refine⟨T.keep _ _ _ st5 fun b hb o e=>(pf b hb o e).1,fun b hb=>?_,pd.1⟩;rcases Qh.mp hb with z|z
     ·subst z;exact pd.2.1
     ·obtain⟨o,e,d⟩:=T.obj _ _ st5 b z;exact(pf b z o e).2
    cases ok with
    | false=>obtain⟨m',hm,w7⟩:=hN _ _ _ (show N ys σ6 H7 from by simpa using q7);obtain⟨r1,r2,r3⟩:=recs I7;exact Qg ⟨rfl,m',hm,i+1,ys,its,k,σ6,H7,I7.pins_of (fun p hp=>nomatch hp),r1,r2,rv3,r3,w7⟩
    | true =>
     have q7':te σ6 H7 fun y H5=>N (ys++[y]) σ6 H5:=by simpa using q7
     refine Qa (Qa (thn (he G.objs.size s2 H2 fp _ s7 σ6 H7 _ I7 q7') fun y s8 ⟨y8,H8,I8,ry,q8⟩=>Qa ?_));obtain⟨r1,r2,r3⟩:=recs I8;have hl:=rv3.length;refine wpAny_list_append_plain (hsz:=by rw[Qp];omega) ⟨k,r3⟩ fun h9 ⟨k9,hl9⟩ hs9=>Qg (Qg ?_)
     have hD8:H8 s2.heap.objs.size=none:=r2 _ Qd
     have f8:=stD (pn:=[]) r2 (fun p z=>nomatch z) s2.heap.objs.size Qd
     have I8':Inv (blk X sc cl N' G.objs.size s2 H2 fp) [] σ6 H8 s8:=I8.pins_of (fun p hp=>nomatch hp)
     have I9:Inv (blk X sc cl N' G.objs.size s2 H2 fp) [] σ6 H8 { s8 with heap:=h9 }:=I8'.turned (t':=s8.toks) (it:=s2.heap.objs.size) (fun b o hb e=>hs9.extBut b o hb e) hD8 f8.2.1 f8.2.2.2.1 f8.2.2.2.2.1 f8.2.2.2.2.2;obtain⟨m',hm,w8⟩:=hN _ _ _ q8;refine⟨rfl,m',hm,i+1,ys++[y8],its++[y],k9,σ6,H8,I9,?_,r2,rv3.append (.cons ry .nil),?_,w8⟩
     ·exact T.keep _ _ _ r1 fun b hb o e=>hs9.extBut b o (fun z=>nDf (z▸hb)) e
     ·rw[hl9];simp
  ·rcases Qh.mp hb with z|z
   ·subst z;exact I2.hok.fresh (Qm _)
   ·exact(f2 b z).1
 exact codeAny_compStart_list loop (T.self _ 0 _ _ _ (T.keep _ _ _ st2 fun b _ o e=>old b o e) loop)

theorem Ym(hc:X.calm=true)(hi:PI X tg iter wi)(B:Blk X sc cl N' imp)
 (hg:∀C s H fp,PG (blk X sc cl N' C s H fp) tg g) (ht:∀C s H fp,JhM (blk X sc cl N' C s H fp) ifs tt) (he:∀C s H fp,PE (blk X sc cl N' C s H fp) elt te)
 (hs:∀x,foldedSetIterable iter X.env x=pure x:=by intro _;rfl):PE X (.ListComp elt [⟨tg,iter,ifs,0⟩] sc pos) (Jgp wi g tt te imp):=by
 intro pins s σ H Q I h;rw[eval_ListComp];refine wpAny_comprehension_free (use:=none) rfl hs B.clos B.kind B.names (thn (hi pins s σ H _ I h) fun v s1 h1=>thn h1 fun itv s2 h2=>?_);refine Ja8 (RR:=fun acc C=>compPost (model X.prog X.w) X.A X.xe none (EP X pins σ Q) acc C) hc B hg ht he h2 fun C D s4 H' ys m hC hn hCf hI q=>?_
 exact⟨m,hn,fun h' hsb=>⟨.ref D,H',hI h' hsb,rfl,q⟩⟩
theorem Jat{i:Nat}{x:Str}{pos' spos:Pos}(hN:X.N.Nodup)(hx1:X.N[i]?=some x)(hx2:Loc X.env.scope x)(hc:X.calm=true)(hi:PI X tg iter wi)(B:Blk X sc cl N' imp)
 (hg:∀C s H fp,PG (blk X sc cl N' C s H fp) tg g) (ht:∀C s H fp,JhM (blk X sc cl N' C s H fp) ifs tt) (he:∀C s H fp,PE (blk X sc cl N' C s H fp) elt te)
 (hsw:swapsWith (.ListComp elt [⟨tg,iter,ifs,0⟩] sc pos) (some (.Name x pos')) spos.line X.env=pure true) (hf:X.fn x=true\/X.env.scope.names.lookup x=some .local)
 (hs:∀x,foldedSetIterable iter X.env x=pure x:=by intro _;rfl):PS X (.Assign [.Name x pos'] (.ListComp elt [⟨tg,iter,ifs,0⟩] sc pos) spos) (JhG (Jgp wi g tt te imp) (V1 i)):=by
 intro pins s σ H D I h;rw[exec_Assign_Name_used _ _ _ _ hsw];refine Qa (wpAny_standAt (Qa ?_));show wpAny _ X.A (do let _ <- comprehension (.ListComp elt [⟨tg,iter,ifs,0⟩] sc pos) sc X.env _ (newList []) false (eval iter X.env) (some (assign (.Name x pos') X.env))) _ _ s;refine Qa (KG (wpAny_comprehension_free (use:=some (assign (.Name x pos') X.env)) (Q:=fun _ s'=>SP X pins D .next s') rfl hs B.clos B.kind B.names
  (thn (hi pins s σ H _ I h) fun v s1 h1=>thn h1 fun itv s2 h2=>?_)) (fun _ s' hq=>Qg (Qg hq)) fun _ _ e=>e)
 refine Ja8 (Q:=fun y H1=>V1 i y σ H1 D.nx) (RR:=fun acc C=>compPost (model X.prog X.w) X.A X.xe (some (assign (.Name x pos') X.env)) (fun _ s'=>SP X pins D .next s') acc C) hc B hg ht he h2 fun C Dl s4 H' ys m hC hn hCf hI q=>?_
 obtain⟨it,fp,tn,J,H2,e,I2,_⟩:=h2;have I4:Inv X pins σ H' s4:=hI s4.heap (.refl ..);have neC:X.env.locals≠C:=QA (GJ I2.lt hC)
 have neCc:∀y c,X.env.cells.lookup y=some c->c≠C:=fun y c e=>by obtain⟨v,qc⟩:=I2.cell y c e;exact QA (GJ qc.lt hC)
 show wpAny _ X.A (assign (.Name x pos') X.env (.ref Dl)) _ _ s4;refine wpAny_assign_Name (Jbs I4 hN hx1 hx2 (v:=.ref Dl) rfl (fun s5 I5 ⟨c0,hs5,hc0⟩=>?_) hf)
 have ne0:C≠c0:=by
  rcases hc0 with z|z
  ·rw[z];exact QO neC
  ·exact QO (neCc _ _ z)
 refine⟨m,hn.sameBut hs5 ne0,fun h' hsb=>⟨_,H',?_,q⟩⟩;refine I5.turned (t':=s5.toks) (it:=C) (fun b o hb e=>hsb.extBut b o hb e) hCf (QO neC) (.inr (GO (GQ I2.sz hC))) neCc fun p hp z=>?_
 have:=Qj (I2.pin p hp).1;rw[z] at this;exact absurd (GJ this hC) (QZ _)
end
end L2

namespace L2
open PySem PySem.Spec PyProof.Rows

inductive Rep (K:Frag) (H:Hp):V->PyData->Prop
 | non:Rep K H .non .none
 | bl (b:Bool):Rep K H (.bl b) (.bool b)
 | int (i:Int):Rep K H (.int i) (.int i)
 | str (x:Str):Rep K H (.str x) (.str x)
 | tup {a:Addr} {xs:List V} {ds:List PyData}:SqT K H a xs->xs.length=ds.length->(∀(i:Nat) (x:V) (d:PyData),xs[i]?=some x->ds[i]?=some d->Rep K H x d)->Rep K H (.ref a) (.tuple ds)
 | lst {a:Addr} {xs:List V} {ds:List PyData}:SqL K H a xs->xs.length=ds.length->(∀(i:Nat) (x:V) (d:PyData),xs[i]?=some x->ds[i]?=some d->Rep K H x d)->Rep K H (.ref a) (.list ds)

noncomputable def RepL(K:Frag)(H:Hp)(xs:List V)(ds:List PyData):Prop :=
 xs.length=ds.length/\∀(i:Nat) (x:V) (d:PyData),xs[i]?=some x->ds[i]?=some d->Rep K H x d

section
variable{K:Frag}{H H':Hp}
theorem RepL.nil:RepL K H [] []:=⟨rfl,fun i x d e=>by simp at e⟩
theorem RepL.cons{x:V}{d:PyData}{xs:List V}{ds:List PyData}(h:Rep K H x d)(r:RepL K H xs ds):RepL K H (x::xs) (d::ds):=by
 refine⟨by simp[r.1],fun i y e h1 h2=>?_⟩
 cases i with
 | zero=>simp at h1 h2;subst h1 h2;exact h
 | succ i=>exact r.2 i y e (by simpa using h1) (by simpa using h2)
theorem RepL.append{xs ys:List V}{ds es:List PyData}(r:RepL K H xs ds)(q:RepL K H ys es):RepL K H (xs++ys) (ds++es):=by
 refine⟨by simp[r.1,q.1],fun i x d h1 h2=>?_⟩
 by_cases hi:i<xs.length
 ·rw[QQ hi] at h1;rw[QQ (by rw[<- r.1];exact hi)] at h2;exact r.2 i x d h1 h2
 ·rw[Q2 (by omega)] at h1;rw[Q2 (by rw[<- r.1];omega)] at h2;rw[<- r.1] at h2;exact q.2 _ x d h1 h2
theorem RepL.snoc{xs:List V}{ds:List PyData}{x:V}{d:PyData}(r:RepL K H xs ds)(h:Rep K H x d):RepL K H (xs++[x]) (ds++[d]):=r.append (.cons h .nil)
theorem RepL.get'{xs:List V}{ds:List PyData}{i:Nat}{x:V}(r:RepL K H xs ds)(e:xs[i]?=some x):∃d,ds[i]?=some d/\Rep K H x d:=by
 have hi:=(Qn.mp e).1
 have hx:i<ds.length:=by rw[<- r.1];exact hi
 exact⟨ds[i],by simp[hx],r.2 i x _ e (by simp[hx])⟩
theorem Rep.tupL{a:Addr}{xs:List V}{ds:List PyData}(h:SqT K H a xs)(r:RepL K H xs ds):Rep K H (.ref a) (.tuple ds):=.tup h r.1 r.2
theorem Rep.lstL{a:Addr}{xs:List V}{ds:List PyData}(h:SqL K H a xs)(r:RepL K H xs ds):Rep K H (.ref a) (.list ds):=.lst h r.1 r.2
theorem Rep.tupI{v:V}{ds:List PyData}(r:Rep K H v (.tuple ds)):∃a xs,v=.ref a/\SqT K H a xs/\RepL K H xs ds:=by
 cases r with
 | tup h l q=>exact⟨_,_,rfl,h,l,q⟩
theorem Rep.intI{v:V}{i:Int}(r:Rep K H v (.int i)):v=.int i:=by cases r;rfl
theorem Same.seqT{a:Addr}{xs:List V}(e:Same H H')(h:SqT K H a xs):SqT K H' a xs:=by
 rcases h with (h|⟨o,h⟩)|h
 ·exact .inl (.inl (e _ _ h))
 ·exact .inl (.inr ⟨o,e _ _ h⟩)
 ·exact .inr h
theorem Rep.mono{v:V}{d:PyData}(e:Same H H')(r:Rep K H v d):Rep K H' v d:=by
 induction r with
 | non=>exact .non
 | bl b=>exact .bl b
 | int i=>exact .int i
 | str x=>exact .str x
 | tup h l _ ih=>exact .tup (e.seqT h) l ih
 | lst h l _ ih=>exact .lst (e.seq h) l ih
theorem RepL.mono{xs:List V}{ds:List PyData}(e:Same H H')(r:RepL K H xs ds):RepL K H' xs ds:=⟨r.1,fun i x d h1 h2=>(r.2 i x d h1 h2).mono e⟩

noncomputable def SameEx(l:Addr)(H H':Hp):Prop:=∀b o,b≠l->H b=some o->H' b=some o
theorem SameEx.upd{l:Addr}{o:HO}:SameEx l H (upd H l o):=fun b o' hb e=>by rw[Jm hb];exact e
theorem Same.ex{H0:Hp}{l:Addr}(s:Same H0 H)(hn:H0 l=none)(e:SameEx l H H'):Same H0 H':=fun b o h=>e b o (Jw h hn) (s b o h)
theorem Same.new{p:Addr}{o:HO}(hn:H p=none):Same H (upd H p o):=fun b o' e=>by rw[Jm (Jw e hn)];exact e
theorem SameEx.sqT{l a:Addr}{ys xs:List V}(e:SameEx l H H')(hl:H l=some (.lst ys))(h:SqT K H a xs):SqT K H' a xs:=by
 rcases h with (h|⟨o,h⟩)|h
 ·exact .inl (.inl (e _ _ (Jbk h hl (by intro z;cases z)) h))
 ·exact .inl (.inr ⟨o,e _ _ (Jbk h hl (by intro z;cases z)) h⟩)
 ·exact .inr h
theorem Same.ex_trans{l:Addr}{H2:Hp}(s:Same H H')(e:SameEx l H' H2):SameEx l H H2:=fun b o hb h=>e b o hb (s b o h)
end

theorem Vals.get':∀{xs:List V} {us:List Value} {i:Nat} {u:Value},Vals xs us->us[i]?=some u->∃x,xs[i]?=some x/\RelV x u
 | _,_,_,_,.nil,e=>by simp at e
 | _,_,0,_,.cons r _,e=>by simp at e;subst e;exact⟨_,rfl,r⟩
 | _,_,i+1,u,.cons _ t,e=>by obtain⟨x,h1,h2⟩:=Vals.get' (i:=i) (u:=u) t (by simpa using e);exact⟨x,by simpa using h1,h2⟩
theorem VE{h:Heap}:∀(us:List Value) (ds:List PyData),us.length=ds.length->(∀(i:Nat) (u:Value) (d:PyData),us[i]?=some u->ds[i]?=some d->∃as,Reads h u d as)->∃as,ReadsAll h us ds as
 | [],[],_,_=>⟨_,.nil⟩
 | [],_::_,e,_=>by simp at e
 | _::_,[],e,_=>by simp at e
 | u::us,d::ds,e,f=>by
  obtain⟨as,h1⟩:=f 0 u d rfl rfl;obtain⟨bs,h2⟩:=VE us ds (by simpa using e) fun i v c q1 q2=>f (i+1) v c (by simpa using q1) (by simpa using q2)
  exact⟨_,.cons h1 h2⟩
section
variable{X:Cx}{pins:List (Addr×Obj)}{σ:St}{H:Hp}{s:Shared}
theorem Rep.reads{v:V}{d:PyData}(I:Inv X pins σ H s)(r:Rep X.K H v d):∀u,RelV v u->∃as,Reads s.heap u d as:=by
 induction r with
 | non=>intro u r;cases r;exact⟨_,.none⟩
 | bl b=>intro u r;cases r;exact⟨_,.bool b⟩
 | int i=>intro u r;obtain⟨t,rfl⟩:=r;exact⟨_,.int i t⟩
 | str x=>intro u r;obtain⟨t,rfl⟩:=r;exact⟨_,.str x t⟩
 | tup h l _ ih =>
  intro u r;cases r;obtain⟨its,rv,p,hz⟩:=I.tuple h;obtain⟨o,ho,hc,n,hd⟩:=p
  obtain⟨as,q⟩:=VE (h:=s.heap) its _ (rv.length.symm.trans l) fun i u d h1 h2=>by obtain⟨x,e1,e2⟩:=rv.get' h1;exact ih i x d e1 h2 u e2
  exact⟨_,.tuple ho hc hd q⟩
 | lst h l _ ih =>
  intro u r;cases r;obtain⟨its,rv,p,hz⟩:=I.list h;obtain⟨o,ho,hc,n,hd⟩:=p.isList
  obtain⟨as,q⟩:=VE (h:=s.heap) its _ (rv.length.symm.trans l) fun i u d h1 h2=>by obtain⟨x,e1,e2⟩:=rv.get' h1;exact ih i x d e1 h2 u e2
  exact⟨_,.list ho hc hd q⟩
end

section
variable{X:Cx}
noncomputable def Jga(K:Frag):R2:=fun x y H Q=>rI0 (fun i j=>.int (i+j)) x y H Q\/(∃i j,x=.str i/\y=.str j/\i.length+j.length<=sizeLine/\Q (.str (i++j)) H)\/JpG x y H Q
theorem Jlu:OpR X (binaryOp .Add) (Jga X.K):=op_add.or (op_add_str.or JnZ)
noncomputable def JpH(K:Frag):R2:=fun x y H Q=>∃d e,Rep K H x d/\Rep K H y e/\d.canLay0=true/\e.canLay0=true/\min d.depth e.depth<=60/\Q (.bl (LA d e)) H
noncomputable def JpN(K:Frag):R2:=fun x y H Q=>∃d e,Rep K H x d/\Rep K H y e/\d.canLay0=true/\e.canLay0=true/\min d.depth e.depth<=60/\Q (.bl (!PyData.eqv d e)) H
theorem Jn1(hu:X.A.units+64<cLine):OpR X (compareOp .Eq) (JpH X.K):=by intro pins s σ H x y v u Q I rx ry h;obtain⟨d,e,h1,h2,c1,c2,hd,q⟩:=h;obtain⟨as,r1⟩:=h1.reads I v rx;obtain⟨bs,r2⟩:=h2.reads I u ry;exact SeqAt.compareEq_reads r1 r2 c1 c2 (by omega) ⟨.bl _,H,I,rfl,q⟩
theorem Jn5(hu:X.A.units+64<cLine):OpR X (compareOp .NotEq) (JpN X.K):=by intro pins s σ H x y v u Q I rx ry h;obtain⟨d,e,h1,h2,c1,c2,hd,q⟩:=h;obtain⟨as,r1⟩:=h1.reads I v rx;obtain⟨bs,r2⟩:=h2.reads I u ry;exact SeqAt.compareNe_reads r1 r2 c1 c2 (by omega) ⟨.bl _,H,I,rfl,q⟩
noncomputable def Joj(K:Frag):R2:=fun x y H Q=>rEq x y H Q\/JpH K x y H Q
noncomputable def Jom(K:Frag):R2:=fun x y H Q=>rNe x y H Q\/JpN K x y H Q
theorem Jn0(hu:X.A.units+64<cLine):OpR X (compareOp .Eq) (Joj X.K):=op_eq.or (Jn1 hu)
theorem Jn4(hu:X.A.units+64<cLine):OpR X (compareOp .NotEq) (Jom X.K):=op_ne.or (Jn5 hu)
noncomputable def JeP(K:Frag):List V->Hp->VK->Prop:=fun xs H Q=>∃x n,xs=[x]/\Jo5 K x H n/\Q (.int n) H
theorem JgO:YS X (.builtin "len") (JeP X.K):=Jh7
noncomputable def Jau(K:Frag):List V->Hp->VK->Prop:=fun xs H Q=>∃p ys,xs=[.ref p]/\((SqL K H p ys/\∀l,H l=none->Q (.ref l) (upd H l (.tup ys)))\/(SqT K H p ys/\Q (.ref p) H))
theorem JcP:YS X (.type "tuple") (Jau X.K):=JaM
inductive TyS (K:Frag) (H:Hp):V->Value->Prop where
 | of {x:V} {t:Value} (h:TyOf K H x t):TyS K H x t
 | sqT {a:Addr} {xs:List V} (h:SqT K H a xs):TyS K H (.ref a) (.type "tuple")
 | sqL {a:Addr} {xs:List V} (h:SqL K H a xs):TyS K H (.ref a) (.type "list")
theorem Jey{pins:List (Addr×Obj)}{σ:St}{H:Hp}{s:Shared}{A:Around}{E:Value->Shared->Prop}{Q:Value->Shared->Prop}{c:Value}{b:Bool}{x:V}{u t:Value}(I:Inv X pins σ H s)(rx:RelV x u)(ty:TyS X.K H x t)(e:kitOne X.K t c=some b)(h:∀tk,Q (.bool b) { s with toks:=tk }) :
 wpAny (model X.prog X.w) A (call (.builtin "isinstance") [u,c]) Q E s:=by
 cases ty with
 | of z=>exact Jhb I rx z e h
 | @sqT a xs z=>cases (show u=Value.ref a from rx);obtain⟨its,_,p,_⟩:=I.tuple z;obtain⟨o,h1,h2,_⟩:=p;exact kia_one Rg I.kIn ⟨o,h1,h2⟩ e (fun z=>nomatch z) h
 | @sqL a xs z=>cases (show u=Value.ref a from rx);obtain⟨its,_,p,_⟩:=I.list z;obtain⟨o,h1,h2,_⟩:=p.isList;exact kia_one kitx_list I.kIn ⟨o,h1,h2⟩ e (fun z=>nomatch z) h
noncomputable def JlM(K:Frag):List V->Hp->VK->Prop:=fun vs H Q=>∃x c t tc b,vs=[x,c]/\TyS K H x t/\(∀u,RelV c u->u=tc)/\kitOne K t tc=some b/\Q (.bl b) H
theorem Jh6:YS X (.builtin "isinstance") (JlM X.K):=by intro pins s σ H xs us Q I r h;obtain⟨x,c,t,tc,b,rfl,ty,hc,e,q⟩:=h;obtain⟨u,w',rfl,r1,r2⟩:=Jkk r;cases hc w' r2;exact Jey I r1 ty e fun tk=>⟨.bl b,H,I.tok tk,rfl,q⟩
noncomputable def JpI:R2:=fun x y H Q=>y=.non/\Q (.bl (decide (x=.non))) H
noncomputable def JjI:R2:=fun x y H Q=>y=.non/\Q (.bl (!decide (x=.non))) H
theorem Jf3:OpR X (compareOp .Is) JpI:=Jn2
theorem Jao:OpR X (compareOp .IsNot) JjI:=Jlw
noncomputable def Jok:List V->Hp->VK->Prop:=fun xs H Q=>∃i j,xs=[.int i,.int j]/\Q (.int (if j>i then j else i)) H
noncomputable def Jol:List V->Hp->VK->Prop:=fun xs H Q=>∃i j,xs=[.int i,.int j]/\Q (.int (if j<i then j else i)) H
theorem JgQ(hc:X.calm=true):YS X (.builtin "max") Jok:=JgP hc
theorem WO(hc:X.calm=true):YS X (.builtin "min") Jol:=JgR hc
noncomputable def JoP(K:Frag)(ta:TE):TT:=fun σ H Q=>ta σ H fun x H1=>∃k,Jkw K x H1 k/\Q k H1
theorem Joh{a:Expr}{ta:TE}(ha:PE X a ta)(he:∀whole,isTrue a X.env whole=(do let v <- whole;standAt a.pos;holding [v] (truthy v))):PT X a (JoP X.K ta):=Jjv ha he
noncomputable def GV(mg:Str->Option Value)(x:Str)(v:V):Prop:=∃u,mg x=some u/\RelV v u
theorem Jaq{x:Str}{v:V}{pos:Pos}(hg:Gl X x)(hm:GV X.mg x v)(hd:(x == ("__debug__":Str))=false:=by decide):PE X (.Name x pos) (tC v):=by obtain⟨u,h1,h2⟩:=hm;exact JlA hg h1 h2 hd
end
theorem Jeb:bootBuiltins "len"=some (.builtin "len"):=by decide +kernel
theorem U9:bootBuiltins "isinstance"=some (.builtin "isinstance"):=by decide +kernel
theorem Jm8:bootBuiltins "max"=some (.builtin "max"):=by decide +kernel
theorem JbA:bootBuiltins "min"=some (.builtin "min"):=by decide +kernel
theorem WL:bootBuiltins "sum"=some (.builtin "sum"):=by decide +kernel
theorem Jm7:bootBuiltins "any"=some (.builtin "any"):=by decide +kernel
theorem Ja3:bootBuiltins "sorted"=some (.builtin "sorted"):=by decide +kernel
theorem VP:bootBuiltins "list"=some (.type "list"):=by decide +kernel
theorem Jh0:bootBuiltins "tuple"=some (.type "tuple"):=by decide +kernel
theorem Jh1:bootBuiltins "zip"=some (.type "zip"):=by decide +kernel
theorem Jbz:bootBuiltins "enumerate"=some (.type "enumerate"):=by decide +kernel
theorem JcL:bootBuiltins "reversed"=some (.type "reversed"):=by decide +kernel
structure Cal (P:Program) (w:World) (K:Frag) (mg:Str->Option Value) (base:Heap) (x:Str) (k:Nat) (ps:List Str) (sp:Sp):Prop where
 ex:∃(f:Addr) (fd:FuncData),FnOk P w K mg base CX0 k f fd ps sp/\mg x=some (.ref f)/\keepIn K (.ref f)=true/\Binds K fd ps []
structure CalM (P:Program) (w:World) (K:Frag) (mg:Str->Option Value) (base:Heap) (x:Str) (C:Addr) (k:Nat) (ps:List Str) (sp:Sp):Prop where
 ex:∃(f:Addr) (fd:FuncData),Mk K C f/\FnOk P w K mg base CX0 k f fd ps sp/\mg x=some (.ref C)/\Binds K fd ps []
section
variable{X:Cx}{k:Nat}{C:Addr}{ps:List Str}{sp:Sp}{x:Str}{p pos:Pos}{e:Expr}{es:List Expr}{t:TA}
theorem Jo(c:Cal X.prog X.w X.K X.mg X.base x k ps sp)(hr:Room k X.A)(hg:Gl X x)(ha:PA X (e::es) t)(hdb:(x == ("__debug__":Str))=false:=by decide)
 (he:starEach (e::es) X.env=(false,eval e X.env)::starEach es X.env:=by rfl) (hpl:(backTo pos (starEach es X.env)).any (·.1)=false:=by rfl):PE X (.Call (.Name x p) (e::es) [] pos) (Jgo sp [] E0 t):=by
 obtain⟨f,fd,F,h1,h2,h3⟩:=c.ex;exact Jly F hr hg h1 h2 h3 .nil JmR ha hdb he hpl
theorem VD(c:CalM X.prog X.w X.K X.mg X.base x C k ps sp)(hr:Room (k+1) X.A)(hg:Gl X x)(ha:PA X (e::es) t)(hdb:(x == ("__debug__":Str))=false:=by decide)
 (he:starEach (e::es) X.env=(false,eval e X.env)::starEach es X.env:=by rfl) (hpl:(backTo pos (starEach es X.env)).any (·.1)=false:=by rfl):PE X (.Call (.Name x p) (e::es) [] pos) (Jgq C sp [] E0 t):=by
 obtain⟨f,fd,M,F,h1,h3⟩:=c.ex;exact JlB M F hr hg h1 h3 .nil JmR ha hdb he hpl
end

noncomputable def Jg4(K:Frag)(tl:TE):TI:=fun σ H R=>JmJ K tl σ H R\/Jpo K tl σ H R
theorem Joc{X:Cx}{tg l:Expr}{tl:TE}(hl:PE X l tl):PI X tg l (Jg4 X.K tl):=by
 intro pins s σ H R I h;rcases h with h|h
 ·exact JlC hl pins s σ H R I h
 ·exact Jod hl pins s σ H R I h

theorem Zl{X:Cx}{sc:Scope}{N':List Str}{imp:List (Option Nat)}(h1:sc.kind=.function)
 (h2:(sc.names.all (fun y=>y.2 != .free && y.2 != .cell && (y.2 != .local || sc.names.lookup y.1 == some .local)) && imp.all (·.isNone) && (imp.length == N'.length))=true):Blk X sc [] N' imp:=by
 simp only[QT,K3] at h2;obtain⟨⟨h2,h3⟩,h4⟩:=h2
 have nofree:∀y∈sc.names,y.2≠.free:=fun y hy=>by
  have:=(h2 y hy).1.1
  simpa using this
 have nocell:∀y∈sc.names,y.2≠.cell:=fun y hy=>by
  have:=(h2 y hy).1.2
  simpa using this
 refine⟨closureFor_none nofree,h1,nocell,fun y hy hl=>?_,(fun p hp=>nomatch hp),fun y hy hk=>?_,by simpa using h4,fun p hp k e=>?_⟩
 ·have:=(h2 y hy).2;rw[hl] at this
  simpa using this
 ·have:(relabel sc X.env).names=sc.names:=by
   unfold relabel;refine map_eq_self fun x hx=>?_
   obtain⟨n,q⟩:=x;have:(q == NameKind.free)=false:=by simpa using nofree _ hx
   simp[this]
  rw[this] at hy;rcases hk with z|z
  ·exact absurd z (nocell y hy)
  ·exact absurd z (nofree y hy)
 ·have:=h3 p.1 (KN hp).1;rw[e] at this;cases this

section
variable{K:Frag}{σ:St}{H H1:Hp}{Q:VK}{i:Nat}{v:V}{ta tb te:TE}{r:R2}{D:Ends}{t u:TS}{c:TT}
theorem JoA(h:σ[i]?=some (some v))(q:Q v H):WE i σ H Q:=⟨v,h,q⟩
theorem Jql(q:Q v H):tC v σ H Q:=q
theorem JpX(q:ta σ H fun x H1=>tb σ H1 fun y H2=>r x y H2 Q):tOp r ta tb σ H Q:=q
theorem JpW{g:Int->Int->V}{a b:Int}(q:Q (g a b) H):rI0 g (.int a) (.int b) H Q:=⟨a,b,rfl,rfl,q⟩
theorem JlO{a b:Int}(q:Q (.int (a+b)) H):Jga K (.int a) (.int b) H Q:=.inl ⟨a,b,rfl,rfl,q⟩
theorem JlW{x:V}(q:Q (.bl (!decide (x=.non))) H):JjI x .non H Q:=⟨rfl,q⟩
theorem JjP{a b:Int}(q:Q (.int (max a b)) H):Jok [.int a,.int b] H Q:=⟨a,b,rfl,by
 have e:(if b>a then b else a)=max a b:=by rw[Int.max_def];split <;> split <;> omega
 rw[e];exact q⟩
theorem JjQ{a b:Int}(q:Q (.int (min a b)) H):Jol [.int a,.int b] H Q:=⟨a,b,rfl,by
 have e:(if b<a then b else a)=min a b:=by rw[Int.min_def];split <;> split <;> omega
 rw[e];exact q⟩
theorem JlY{Qb:Bool->Hp->Prop}(q:te σ H fun x H'=>∃k,x=.bl k/\Qb k H'):Jgs te σ H Qb:=q
theorem Jop{c':TT}{Qb:Bool->Hp->Prop}(q:c σ H fun b H1=>if b=true then c' σ H1 Qb else Qb false H1):JoK c c' σ H Qb:=q
theorem Joy(q:t { D with nx:=u D } σ H):JoO t u D σ H:=q
theorem Joq{g:TG}(q:te σ H fun x H1=>g x σ H1 D.nx):JhG te g D σ H:=q
theorem JjO{Qs:St->Hp->Prop}(q:Qs (σ.set i (some v)) H):V1 i v σ H Qs:=q
theorem Jor(q:c σ H fun b H1=>if b=true then t D σ H1 else u D σ H1):Jmj c t u D σ H:=q
theorem JlQ(q:te σ H fun _ H1=>D.nx σ H1):JaC te D σ H:=q
theorem JlV(q:D.nx σ H):Jka D σ H:=q
theorem JlP{tr:TA}{Ql:List V->Hp->Prop}(q:ta σ H fun x H1=>tr σ H1 fun xs H2=>Ql (x::xs) H2):Vn ta tr σ H Ql:=q
theorem Jow{Ql:List V->Hp->Prop}(q:Ql [] H):WD σ H Ql:=q
theorem JpV{r:List V->Hp->VK->Prop}{ts:TA}(q:ts σ H fun vs H1=>r vs H1 Q):tCB r ts σ H Q:=q
theorem Jgd{sp:Sp}{E:XK}{ts:TA}(q:ts σ H fun vs H1=>sp vs H1 Q E):Jgo sp [] E ts σ H Q:=by
 have e:(fun vs H1=>sp (vs++[]) H1 Q E)=fun vs H1=>sp vs H1 Q E:=by funext vs H1;rw[GR]
 show ts σ H fun vs H1=>sp (vs++[]) H1 Q E
 rw[e];exact q
noncomputable def JhK(xs:List V)(H:Hp)(Q:VK):Prop:=xs.length<=sizeLine/\∀p,H p=none->Q (.ref p) (upd H p (.tup xs))
theorem Joz{ts:TA}(q:ts σ H fun xs H1=>JhK xs H1 Q):Jkb ts σ H Q:=q
theorem Jm4{xs:List V}(hl:xs.length<=sizeLine)(q:∀p H',H p=none->Same H H'->H' p=some (.tup xs)->Q (.ref p) H'):JhK xs H Q:=⟨hl,fun p hp=>q p _ hp (.new hp) Js⟩
theorem JlS{a:Addr}{xs:List V}(h:SqL K H a xs)(q:Q (.int xs.length) H):JeP K [.ref a] H Q:=⟨_,_,rfl,.inl ⟨xs,h,rfl⟩,q⟩
theorem JlU{a:Addr}{xs:List V}(h:SqT K H a xs)(q:Q (.int xs.length) H):JeP K [.ref a] H Q:=⟨_,_,rfl,.inr ⟨xs,h,rfl⟩,q⟩
theorem JlT{x:Str}(h:x.length<=sizeLine)(q:Q (.int x.length) H):JeP K [.str x] H Q:=⟨_,_,rfl,⟨h,rfl⟩,q⟩
theorem JhB{a:Addr}{xs:List V}(h:SqL K H a xs)(q:∀p H',H p=none->Same H H'->H' p=some (.tup xs)->Q (.ref p) H'):Jau K [.ref a] H Q:=⟨a,xs,rfl,.inl ⟨h,fun p hp=>q p _ hp (.new hp) Js⟩⟩
theorem Jot{a:Addr}{xs:List V}{j:Int}{v:V}(h:SqL K H a xs)(e:atI xs j=some v)(q:Q v H):rIx K (.ref a) (.int j) H Q:=.inl ⟨a,xs,j,v,rfl,rfl,h,e,q⟩
theorem Jov{a:Addr}{xs:List V}{j:Int}{v:V}(h:SqT K H a xs)(e:atI xs j=some v)(q:Q v H):rIx K (.ref a) (.int j) H Q:=.inr (.inl ⟨a,xs,j,v,rfl,rfl,h,e,q⟩)
theorem Jou{z:Str}{j:Int}{c:Nat}(hz:z.length<=sizeLine)(e:atI z.cps.toList j=some c)(q:Q (.str ⟨#[c]⟩) H):rIx K (.str z) (.int j) H Q:=.inr (.inr ⟨z,j,c,rfl,rfl,hz,e,q⟩)
theorem Jos{x:V}{n:String}{t:Value}{b:Bool}(ty:TyS K H x t)(e:kitOne K t (.type n)=some b)(q:Q (.bl b) H):JlM K [x,.ty n] H Q:=⟨x,_,t,_,b,rfl,ty,fun _ r=>r,e,q⟩
theorem Jge{a:Addr}{xs:List V}{n:Nat}{ts:TGs}{Qs:St->Hp->Prop}(h:SqT K H a xs)(hl:xs.length=n)(q:ts xs σ H Qs):Jg0 K n ts (.ref a) σ H Qs:=⟨a,xs,rfl,h,hl,q⟩
theorem JjN{t:TG}{u:TGs}{x:V}{xs:List V}{Qs:St->Hp->Prop}(q:t x σ H fun σ' H'=>u xs σ' H' Qs):JfH t u (x::xs) σ H Qs:=⟨x,xs,rfl,q⟩
theorem JlR{Qs:St->Hp->Prop}(q:Qs σ H):Jk1 [] σ H Qs:=⟨rfl,q⟩
theorem JlX{f:Str}{tv:TE}(q:tv σ H fun y H1=>ta σ H1 fun x H2=>∃a C dx fs,x=.ref a/\H2 a=some (.ins C dx fs)/\Cls K C/\NoAttr K C f/\fs.length<1000/\D.nx σ (upd H2 a (.ins C dx (putF f y fs)))):JoD K ta tv f D σ H:=q
theorem JoB{Qb:Bool->Hp->Prop}(q:Qb true H):JoQ σ H Qb:=q
theorem ifd{c A B:Prop}[Decidable c](h1:c->A)(h2:¬c->B):if decide c=true then A else B:=by
 by_cases h:c
 ·rw[if_pos (decide_eq_true h)];exact h1 h
 ·rw[if_neg (by simpa using h)];exact h2 h
theorem ifT{b:Bool}{A B:Prop}(e:b=true)(h:A):if b=true then A else B:=by rw[if_pos e];exact h
theorem ifF{b:Bool}{A B:Prop}(e:b=false)(h:B):if b=true then A else B:=by rw[if_neg (by rw[e];exact Qt)];exact h

theorem JhA{tl:TE}{g:TG}{a:Addr}{xs:List V}(hx:∀R:VK,R (.ref a) H1->tl σ H R)(hq:SqL K H1 a xs\/SqT K H1 a xs)(Pv:Nat->St->Hp->Prop)(h0:Pv 0 σ H1)(hS:∀i σ' H',Pv i σ' H'->Same H1 H')
 (hs:∀i x σ' H',xs[i]?=some x->Pv i σ' H'->g x σ' H' fun σ2 H2=>t { D with nx:=Pv (i+1),ct:=Pv (i+1),bk:=D.nx } σ2 H2) (hd:∀σ' H',Pv xs.length σ' H'->D.nx σ' H'):Jmi (Jg4 K tl) g t D σ H:=by
 rcases hq with hq|hq
 ·exact .inl (hx _ ⟨a,rfl,⟨xs,hq⟩,Jiy (xs:=xs) Pv h0 (fun i σ' H' _ p=>(hS i σ' H' p).seq hq) hs hd⟩)
 ·exact .inr (hx _ ⟨a,rfl,⟨xs,hq⟩,Jk0 (xs:=xs) Pv h0 (fun i σ' H' _ p=>(hS i σ' H' p).seqT hq) hs hd⟩)
theorem Jfr{J:It}{g:TG}{tt:TT}{imp:List (Option Nat)}{n:Nat}(hn:n<=sizeLine)(Pv:Nat->List V->St->Hp->Prop)(h0:Pv 0 [] (ZZ imp σ) H1)(hy:∀i ys σ' H',Pv i ys σ' H'->ys.length<=i)
 (hstop:∀ys σ' H',Pv n ys σ' H'->J.stop n H') (hgo:∀i ys σ' H',i<n->Pv i ys σ' H'->J.go i H')
 (hs:∀i ys x σ' H' H2,i<n->J.yld i H' x H2->Pv i ys σ' H'->g x σ' H2 fun σ2 H3=>tt σ2 H3 fun b H4=>if b=true then te σ2 H4 fun y H5=>Pv (i+1) (ys++[y]) σ2 H5 else Pv (i+1) ys σ2 H4)
 (hd:∀ys σ' H',Pv n ys σ' H'->∀p H2,H' p=none->Same H' H2->H2 p=some (.lst ys)->Q (.ref p) H2) :
 ∃W:Nat->Nat->List V->St->Hp->Prop,(∃m,W 0 m [] (ZZ imp σ) H1)/\∀i m ys σ' H',W i m ys σ' H' ->
  (J.stop i H'/\ys.length<=sizeLine/\∀D,H' D=none->Q (.ref D) (upd H' D (.lst ys))) ∨
  (J.go i H'/\ys.length<sizeLine/\∃N:List V->St->Hp->Prop,(∀ys' σ2 H2,N ys' σ2 H2->∃m',m'<m/\W (i+1) m' ys' σ2 H2) ∧
   ∀x H2,J.yld i H' x H2->g x σ' H2 fun σ2 H3=>tt σ2 H3 fun b H4=>if b=true then te σ2 H4 fun y H5=>N (ys++[y]) σ2 H5 else N ys σ2 H4):=by
 refine⟨fun i m ys σ' H'=>m=n-i/\i<=n/\Pv i ys σ' H',⟨n,by simp,Gv _,h0⟩,?_⟩;rintro i m ys σ' H' ⟨rfl,hi,p⟩;have hl:=hy i ys σ' H' p
 by_cases hlt:i<n
 ·exact .inr ⟨hgo i ys σ' H' hlt p,by omega,fun ys' σ2 H2=>Pv (i+1) ys' σ2 H2,fun ys' σ2 H2 p'=>⟨n-(i+1),by omega,rfl,hlt,p'⟩,fun x H2 y=>hs i ys x σ' H' H2 hlt y p⟩
 ·have e:i=n:=by omega
  subst e;exact .inl ⟨hstop ys σ' H' p,by omega,fun q hq=>hd ys σ' H' p q _ hq (.new hq) Js⟩
theorem JeQ{tl:TE}{g:TG}{tt:TT}{imp:List (Option Nat)}{a:Addr}{xs:List V}(hx:∀R:VK,R (.ref a) H1->tl σ H R)(hq:SqL K H1 a xs\/SqT K H1 a xs)(hn:xs.length<=sizeLine)(Pv:Nat->List V->St->Hp->Prop)
 (h0:Pv 0 [] (ZZ imp σ) H1) (hy:∀i ys σ' H',Pv i ys σ' H'->ys.length<=i) (hS:∀i ys σ' H',Pv i ys σ' H'->Same H1 H')
 (hs:∀i ys x σ' H',xs[i]?=some x->Pv i ys σ' H'->g x σ' H' fun σ2 H3=>tt σ2 H3 fun b H4=>if b=true then te σ2 H4 fun y H5=>Pv (i+1) (ys++[y]) σ2 H5 else Pv (i+1) ys σ2 H4)
 (hd:∀ys σ' H',Pv xs.length ys σ' H'->∀p H2,H' p=none->Same H' H2->H2 p=some (.lst ys)->Q (.ref p) H2):Jgp (Jg4 K tl) g tt te imp σ H Q:=by
 rcases hq with hq|hq
 ·refine .inl (hx _ ⟨a,rfl,⟨xs,hq⟩,Jfr (n:=xs.length) hn Pv h0 hy (fun ys σ' H' p=>⟨xs,(hS _ _ _ _ p).seq hq,Qm _⟩) (fun i ys σ' H' hi p=>⟨xs,xs[i],(hS _ _ _ _ p).seq hq,by simp[hi]⟩) (fun i ys x σ' H' H2 hi y p=>?_) hd⟩);obtain⟨e,y⟩:=y;subst e;exact hs i ys x σ' _ (y xs ((hS _ _ _ _ p).seq hq)) p
 ·refine .inr (hx _ ⟨a,rfl,⟨xs,hq⟩,Jfr (n:=xs.length) hn Pv h0 hy (fun ys σ' H' p=>⟨xs,(hS _ _ _ _ p).seqT hq,Qm _⟩) (fun i ys σ' H' hi p=>⟨xs,xs[i],(hS _ _ _ _ p).seqT hq,by simp[hi]⟩) (fun i ys x σ' H' H2 hi y p=>?_) hd⟩);obtain⟨e,y⟩:=y;subst e;exact hs i ys x σ' _ (y xs ((hS _ _ _ _ p).seqT hq)) p
end
end L2
namespace L2
open PySem PySem.Spec PyProof.Rows
section
variable{X:Cx}{K:Frag}{pos:Pos}
theorem Jf2(hK:X.K=K):OpR X (binaryOp .Add) (Jga K):=hK▸Jlu
theorem Jcg(hK:X.K=K)(hu:X.A.units+64<cLine):OpR X (compareOp .Eq) (Joj K):=hK▸Jn0 hu
theorem Jan(hK:X.K=K)(hu:X.A.units+64<cLine):OpR X (compareOp .NotEq) (Jom K):=hK▸Jn4 hu
theorem WN(hK:X.K=K):YS X (.builtin "len") (JeP K):=hK▸JgO
theorem JcO(hK:X.K=K):YS X (.type "tuple") (Jau K):=hK▸JcP
theorem WM(hK:X.K=K):YS X (.builtin "isinstance") (JlM K):=hK▸Jh6
theorem Jz(hK:X.K=K):IxR X (rIx K):=hK▸Jnw
theorem Yi{e:Expr}{ta:TE}{f:Str}(hK:X.K=K)(he:PE X e ta)(hb:attributeBase e f X.env (eval e X.env)=eval e X.env):PE X (.Attribute e f pos) (JoM K ta f):=hK▸Jn8 he hb
theorem JlI{o value:Expr}{f:Str}{pos':Pos}{ta tv:TE}(hK:X.K=K)(ha:PE X o ta)(hv:PE X value tv)(hs:swapsWith value (some (.Attribute o f pos')) pos.line X.env=pure false):PS X (.Assign [.Attribute o f pos'] value pos) (JoD K ta tv f):=hK▸Jog ha hv hs
theorem JQ{tg l:Expr}{tl:TE}(hK:X.K=K)(hl:PE X l tl):PI X tg l (Jg4 K tl):=hK▸Joc hl
theorem JF{es:List Expr}{k:Nat}{t:TGs}{n:Nat}(hK:X.K=K)(hc:X.calm=true)(h:PGs X es t)(hn:(assignEach es X.env).length=n)(hst:(assignEach es X.env).findIdx? (·.1)=none):PG X (.Tuple es k pos) (Jg0 K n t):=hK▸Job hc h hn hst
theorem U5{a:Expr}{ta:TE}(hK:X.K=K)(ha:PE X a ta)(he:∀whole,isTrue a X.env whole=(do let v <- whole;standAt a.pos;holding [v] (truthy v))):PT X a (JoP K ta):=hK▸Joh ha he
theorem UE{o e:Expr}{es:List Expr}{to:TE}{t:TA}{name:Str}{apos cpos:Pos}{T id:String}{r:V->List V->Hp->VK->Prop}(hK:X.K=K)(pa:PlainAttrs T)(slot:Slot T name id)(hty:typeOf (.builtin id)=pure (.type "method_descriptor"))(hm:MtR X id r)(ho:PE X o to)(ha:PA X (e::es) t)
 (hbase:attributeBase o name X.env (eval o X.env)=eval o X.env:=by rfl)
 (hfew:((backTo cpos (starEach (e::es) X.env)).all (fun x=>!x.1) && (backToKw cpos (keywordEach [] X.env)).all (fun x=>x.1.isSome)
  && decide ((e::es).length+([]:List Keyword).length+(if ([]:List Keyword).isEmpty then 0 else 1)<30))=true:=by rfl)
 (hline:(apos.endLine == cpos.line)=true:=by rfl) (hs:starEach (e::es) X.env=(false,eval e X.env)::starEach es X.env:=by rfl) (hplain:(backTo cpos (starEach es X.env)).any (·.1)=false:=by rfl) :
 PE X (.Call (.Attribute o name apos) (e::es) [] cpos) (tBM K T r to t):=hK▸JpE pa slot hty hm ho ha hbase hfew hline hs hplain
theorem Jlx{o:Expr}{to:TE}{name:Str}{apos cpos:Pos}{T id:String}{r:V->List V->Hp->VK->Prop}(hK:X.K=K)(pa:PlainAttrs T)(slot:Slot T name id)(hty:typeOf (.builtin id)=pure (.type "method_descriptor"))(hm:MtR X id r)(ho:PE X o to)
 (hbase:attributeBase o name X.env (eval o X.env)=eval o X.env:=by rfl) (hline:(apos.endLine == cpos.line)=true:=by rfl):PE X (.Call (.Attribute o name apos) [] [] cpos) (JoL K T r to):=hK▸Jn7 pa slot hty hm ho hbase hline
end
end L2

namespace LR
open PySem L2

theorem sz2{a b:V}:[a,b].length<=sizeLine:=by show 2<=sizeLine;decide
noncomputable abbrev Pr:=Int×Int
noncomputable def prD(p:Pr):PyData:=.tuple [.int p.1,.int p.2]
section
variable{K:Frag}{H H':Hp}
theorem JlE{v:V}{p:Pr}(r:Rep K H v (prD p)):∃a,v=.ref a/\SqT K H a [.int p.1,.int p.2]:=by
 obtain⟨a,xs,rfl,h,l,q⟩:=r.tupI
 match xs,l,q,h with
 | [x,y],_,q,h =>
  have e1:=(q 0 x (.int p.1) rfl rfl).intI
  have e2:=(q 1 y (.int p.2) rfl rfl).intI;subst e1 e2;exact⟨a,rfl,h⟩
theorem Jjs{a:Addr}{b n:Int}(h:SqT K H a [.int b,.int n]):Rep K H (.ref a) (prD (b,n)):=.tupL h (.cons (.int b) (.cons (.int n) .nil))
theorem JlF{a:Addr}{b n:Int}(h:H a=some (.tup [.int b,.int n])):Rep K H (.ref a) (prD (b,n)):=Jjs (.of h)
noncomputable abbrev Prs(K:Frag)(H:Hp)(vs:List V)(ps:List Pr):Prop:=RepL K H vs (ps.map prD)
theorem Prs.len{vs:List V}{ps:List Pr}(r:Prs K H vs ps):vs.length=ps.length:=by have:=r.1;rwa [Qk] at this
theorem Prs.at{vs:List V}{ps:List Pr}{i:Nat}{v:V}(r:Prs K H vs ps)(e:vs[i]?=some v):∃p a,ps[i]?=some p/\v=.ref a/\SqT K H a [.int p.1,.int p.2]:=by
 obtain⟨d,h1,h2⟩:=r.get' e;rw[Qq] at h1
 cases hp:ps[i]? with
 | none=>rw[hp] at h1;cases h1
 | some p=>rw[hp] at h1;cases h1;obtain⟨a,e1,e2⟩:=JlE h2;exact⟨p,a,rfl,e1,e2⟩
theorem Prs.snoc{vs:List V}{ps:List Pr}{v:V}{p:Pr}(r:Prs K H vs ps)(h:Rep K H v (prD p)):Prs K H (vs++[v]) (ps++[p]):=by show RepL K H _ _;rw[Qz];exact RepL.snoc r h
noncomputable def Jkv(K:Frag)(H:Hp)(v:V)(ps:List Pr):Prop:=∃a vs,v=.ref a/\(SqL K H a vs\/SqT K H a vs)/\Prs K H vs ps
end

structure Good (ps:List Pr):Prop where
 one:∀(i:Nat) (p:Pr),ps[i]?=some p->1<=p.2
 gap:∀(i:Nat) (p q:Pr),ps[i]?=some p->ps[i+1]?=some q->p.1+p.2<q.1
theorem Good.nil:Good []:=⟨fun i p e=>by simp at e,fun i p q e=>by simp at e⟩
noncomputable def JeR(t:Addr):List (Str×V):=[("stretches",.ref t)]
noncomputable def Jo8(C:Addr)(K:Frag)(H:Hp)(v:V)(ps:List Pr):Prop :=
 ∃x dx t ts,v=.ref x/\H x=some (.ins C dx (JeR t))/\H t=some (.tup ts)/\Prs K H ts ps
structure RowC (K:Frag) (C:Addr):Prop where
 cl:Cls K C
 ns:NoAttr K C "stretches"
theorem JhC(t:Addr):(JeR t).lookup ("stretches":Str)=some (.ref t):=by
 unfold JeR;rw[List.lookup_cons];have:(("stretches":Str) == ("stretches":Str))=true:=by decide +kernel
 rw[this]
theorem Jjw(t:Addr):putF "stretches" (.ref t) []=JeR t:=rfl

noncomputable def ZD(K:Frag):Sp:=fun vs H Q _=>∃v ps,vs=[v]/\Jkv K H v ps/\Good ps/\∀H',Same H H'->Q .non H'
noncomputable def VF(C:Addr)(K:Frag):Sp:=fun vs H Q _=>∃x dx v ps,vs=[.ref x,v]/\H x=some (.ins C dx [])/\Jkv K H v ps/\Good ps/\ps.length<=30 ∧
 ∀H' t ts,SameEx x H H'->H' x=some (.ins C dx (JeR t))->H' t=some (.tup ts)->Prs K H' ts ps->Q .non H'
noncomputable def JhL(C:Addr)(sp:Sp)(E:XK)(vs:List V)(H1:Hp)(Q:VK):Prop:=∀x dx,H1 x=none->H1 dx=none->dx≠x ->
 sp (.ref x::vs) (upd (upd H1 dx (.own x)) x (.ins C dx [])) (fun v H2=>v=.non/\Q (.ref x) H2) E
theorem Jgf{C:Addr}{sp:Sp}{E:XK}{ts:TA}{σ:St}{H:Hp}{Q:VK}(q:ts σ H fun vs H1=>JhL C sp E vs H1 Q):Jgq C sp [] E ts σ H Q:=by
 have e:(fun vs H1=>JhL C sp E vs H1 Q)=fun vs H1=>∀x dx,H1 x=none->H1 dx=none->dx≠x->sp (.ref x::(vs++[])) (upd (upd H1 dx (.own x)) x (.ins C dx [])) (fun v H2=>v=.non/\Q (.ref x) H2) E:=by funext vs H1;rw[GR];rfl
 show ts σ H _;rw[<- e];exact q
theorem Jox{C:Addr}{K:Frag}{H:Hp}{Q:VK}{v:V}{ps:List Pr}{E:XK}(h:Jkv K H v ps)(g:Good ps)(hl:ps.length<=30)(q:∀x H',H x=none->Same H H'->Jo8 C K H' (.ref x) ps->Q (.ref x) H'):JhL C (VF C K) E [v] H Q:=by
 intro x dx nx ndx nex
 have s0:Same H (upd (upd H dx (.own x)) x (.ins C dx [])):=fun b o e=>by rw[Jm (Jw e nx),Jm (Jw e ndx)];exact e
 obtain⟨a,vs,rfl,hq,hp⟩:=h;refine⟨x,dx,_,ps,rfl,Js,⟨a,vs,rfl,hq.imp s0.seq s0.seqT,RepL.mono s0 hp⟩,g,hl,fun H' t ts e h1 h2 h3=>⟨rfl,q x H' nx (fun b o h=>e b o (Jw h nx) (s0 b o h)) ⟨x,dx,t,ts,rfl,h1,h2,h3⟩⟩⟩

noncomputable def cell(ns:List Int)(k:Int):Int:=ns.getD k.toNat 0
end LR

namespace LR
open PySem L2

theorem Jh8{ns:List Int}{k:Int}(h:¬k<(ns.length:Int)):cell ns k=0:=by unfold cell;rw[QU,GB (by omega)];rfl
noncomputable def Jcn(l:List Int)(k:Int):Int:=l.getD k.toNat 0
theorem JdD{l:List Int}{k:Int}{P:Int->Prop}(h0:0<=k)(h1:k<(l.length:Int))(h:∀x∈l,P x):P (Jcn l k):=by
 unfold Jcn;have:k.toNat<l.length:=by omega
 rw[QU,QI this];exact h _ (List.getElem_mem this)
noncomputable def Jfh(ps:List Pr):Nat->V
 | 0=>.non
 | i+1=>match ps[i]? with
  | some p=>.int (p.1+p.2)
  | none=>.non
theorem Vz{ps:List Pr}{i:Nat}{p:Pr}(e:ps[i]?=some p):Jfh ps (i+1)=.int (p.1+p.2):=by show(match ps[i]? with|some p=>V.int (p.1+p.2)|none=>V.non)=_;rw[e]
theorem Jia{K:Frag}{v:V}{ps:List Pr}{H:Hp}{Q:VK}{E:XK}(h:Jkv K H v ps)(g:Good ps)(q:∀H',Same H H'->Q .non H'):ZD K [v] H Q E:=⟨v,ps,rfl,h,g,q⟩
theorem JdI{K:Frag}{a:Addr}{xs:List V}{H:Hp}{Q:VK}(h:SqL K H a xs\/SqT K H a xs)(q:Q (.int xs.length) H):JeP K [.ref a] H Q:=by
 rcases h with h|h
 ·exact JlS h q
 ·exact JlU h q
theorem SameEx.sqT'{K:Frag}{H H':Hp}{x a C dx:Addr}{fs:List (Str×V)}{xs:List V}(e:SameEx x H H')(hx:H x=some (.ins C dx fs))(h:SqT K H a xs):SqT K H' a xs:=by
 rcases h with (h|⟨o,h⟩)|h
 ·exact .inl (.inl (e _ _ (Jbk h hx (by intro z;cases z)) h))
 ·exact .inl (.inr ⟨o,e _ _ (Jbk h hx (by intro z;cases z)) h⟩)
 ·exact .inr h
theorem Prs.monoIns{K:Frag}{H H':Hp}{x C dx:Addr}{fs:List (Str×V)}{vs:List V}{ps:List Pr}(e:SameEx x H H')(hx:H x=some (.ins C dx fs))(r:Prs K H vs ps):Prs K H' vs ps:=by refine⟨r.1,fun i v d h1 h2=>?_⟩;obtain⟨p,a,e1,e2,e3⟩:=r.at h1;rw[Qq,e1] at h2;cases h2;subst e2;exact Jjs (SameEx.sqT' e hx e3)
noncomputable def Jgj(K:Frag):Sp:=fun vs H Q _=>∃(a:Addr) (ns:List Int),vs=[.ref a]/\SqL K H a (ns.map V.int)/\ns.length<=63/\∀H',Q (.bl true) H'
end LR
namespace LR
open PySem L2
end LR

namespace L2
open PySem PySem.Spec PyProof.Rows

section
variable{X:Cx}{pins:List (Addr×Obj)}{σ:St}{H:Hp}{s:Shared}
theorem Jbg{A':Around}{E:Value->Shared->Prop}{Q:Value->Shared->Prop}{a:Addr}{vs:List V}(hh:A'.handled=none)(I:Inv X pins σ H s)(hq:SqL X.K H a vs\/SqT X.K H a vs)
 (h:∀(its:List Value) (J:Addr) (fp wr:List Addr) (Sx:Nat->Heap->Prop) (s2:Shared),Vals vs its->Walks X.prog X.w A' J fp wr its.toArray.size (fun i v=>its.toArray[i]?=some v) Sx->Sx 0 s2.heap->(∀b∈fp,b<s2.heap.objs.size) ->
  (∀h' tk,(∀b o,b∉wr->s2.heap.get? b=some o->h'.get? b=some o)->Inv X pins σ H { s2 with heap:=h',toks:=tk })->Q (.ref J) s2):wpAny (model X.prog X.w) A' (pyIter (.ref a)) Q E s:=by
 have nin:∀b o,s.heap.get? b=some o->b∉[s.heap.objs.size]:=fun b o e z=>by
  have:b=s.heap.objs.size:=by simpa using z
  exact absurd (Qj e) (by rw[this];exact QZ _)
 rcases hq with hq|hq
 ·obtain⟨its,rv,p,hz⟩:=I.list hq;have hlt:a<s.heap.objs.size:=by obtain⟨_,e,_⟩:=p.isList;exact Qj e
  refine Mo p.isList ?_;refine h its _ _ _ _ _ rv (Walks.list hh _ a (QA hlt) its.toArray) ⟨⟨_,Qi _ rfl,rfl,rfl⟩,p.isList.push _⟩ (fun b hb=>?_) fun h' tk hk=>I.kept fun b o e=>hk b o (nin b o e) (Qf _ e)
  show b<(s.heap.push _).objs.size;rw[Gy];rcases Qh.mp hb with z|z
  ·rw[z];exact Kw _
  ·have:b=a:=by simpa using z
   rw[this];exact Mp hlt
 ·obtain⟨its,rv,p,hz⟩:=I.tuple hq;have ht:s.heap.IsTuple a its.toArray:=p;have hlt:a<s.heap.objs.size:=by obtain⟨_,e,_⟩:=ht;exact Qj e
  refine L6 ht ?_;refine h its _ _ _ _ _ rv (Walks.tuple hh _ a (QA hlt) its.toArray) ⟨⟨_,Qi _ rfl,rfl,rfl⟩,?_⟩ (fun b hb=>?_) fun h' tk hk=>I.kept fun b o e=>hk b o (nin b o e) (Qf _ e)
  ·obtain⟨o,e,c⟩:=ht;exact⟨o,Qf _ e,c⟩
  ·show b<(s.heap.push _).objs.size;rw[Gy];rcases Qh.mp hb with z|z
   ·rw[z];exact Kw _
   ·have:b=a:=by simpa using z
    rw[this];exact Mp hlt
end

theorem Zg(l:List Int):∀j,j<=l.length->preSum (fun i=>l.getD i 0) j=(l.take j).sum
 | 0,_=>by simp[preSum]
 | j+1,h=>by
  rw[preSum,Zg l j (by omega)];have hj:j<l.length:=by omega
  rw[List.take_add_one,LL];simp[hj]
section
variable{X:Cx}
noncomputable def Joo(K:Frag):List V->Hp->VK->Prop:=fun xs H Q=>∃(a:Addr) (ns:List Int),xs=[.ref a]/\(SqL K H a (ns.map V.int)\/SqT K H a (ns.map V.int))/\Q (.int ns.sum) H
theorem JgT(hc:X.calm=true):YS X (.builtin "sum") (Joo X.K):=by
 intro pins s σ H xs us Q I r h;obtain⟨a,ns,rfl,hq,q⟩:=h;obtain⟨u,rfl,rx⟩:=WH r;cases rx;refine call_sum_walkG (Jbg (A':=X.A.in1) (I.ok.hd hc) I hq fun its J fp wr Sx s2 rv W st hfp hI=>?_);have hi:=UW rv;have hl:=rv.length;rw[Qk] at hl;refine⟨J,fp,wr,_,_,Sx,fun i=>ns.getD i 0,rfl,W,st,hfp,fun i v e=>?_,fun h' tk t' hk=>?_⟩
 ·have e':its[i]?=some v:=by simpa using e
  obtain⟨x,e1,e2⟩:=rv.get' e';rw[Qq] at e1
  cases hn:ns[i]? with
  | none=>rw[hn] at e1;cases e1
  | some n=>rw[hn] at e1;cases e1;obtain⟨t,rfl⟩:=e2;exact⟨t,by simp[QU,hn]⟩
 ·refine⟨.int ns.sum,H,hI h' tk hk,⟨t',?_⟩,q⟩;rw[show its.toArray.size=ns.length by simp[hl],Zg ns _ (Qm _),List.take_length]
noncomputable def Joi(K:Frag):List V->Hp->VK->Prop:=fun xs H Q=>∃(a:Addr) (bs:List Bool),xs=[.ref a]/\(SqL K H a (bs.map V.bl)\/SqT K H a (bs.map V.bl))/\Q (.bl (bs.any id)) H
theorem Jhz(bs:List Bool):(Q0 bs.length).any (fun i=>bs.getD i false)=bs.any id:=by
 rw[G5];simp only[K4,List.mem_range,id];constructor
 ·rintro⟨i,hi,e⟩;simp[QU,hi] at e;exact⟨bs[i],List.getElem_mem hi,e⟩
 ·rintro⟨b,hb,rfl⟩;obtain⟨i,hi,e⟩:=Gw.mp hb;exact⟨i,hi,by simp[QU,hi,e]⟩
theorem JdX{A:Around}{bs:List Bool}{its:List Value}(rv:Vals (bs.map V.bl) its):TruthOf X.prog X.w A (fun i v=>its.toArray[i]?=some v) (fun i=>bs.getD i false):=by
 intro i v s Q E e q;have e':its[i]?=some v:=by simpa using e
 obtain⟨x,e1,e2⟩:=rv.get' e';rw[Qq] at e1
 cases hn:bs[i]? with
 | none=>rw[hn] at e1;cases e1
 | some n =>
  rw[hn] at e1;cases e1;cases e2;have:bs.getD i false=n:=by simp[QU,hn]
  have q':Q (bs.getD i false) s:=q;rw[this] at q';exact Kk q'
theorem JgN(hc:X.calm=true):YS X (.builtin "any") (Joi X.K):=by intro pins s σ H xs us Q I r h;obtain⟨a,bs,rfl,hq,q⟩:=h;obtain⟨u,rfl,rx⟩:=WH r;cases rx;refine call_any_walk (Jbg (A':=X.A.in1) (I.ok.hd hc) I hq fun its J fp wr Sx s2 rv W st hfp hI=>?_);have hl:=rv.length;rw[Qk] at hl;refine⟨J,fp,wr,_,_,Sx,_,rfl,W,st,JdX rv,fun h' tk hk=>⟨.bl _,H,hI h' tk hk,rfl,?_⟩⟩;rw[show its.toArray.size=bs.length by simp[hl],Jhz];exact q
end
section
variable{X:Cx}{K:Frag}
theorem UM(hK:X.K=K)(hc:X.calm=true):YS X (.builtin "sum") (Joo K):=hK▸JgT hc
theorem JgM(hK:X.K=K)(hc:X.calm=true):YS X (.builtin "any") (Joi K):=hK▸JgN hc
end
section
variable{K:Frag}{H:Hp}{Q:VK}
end
end L2
namespace L2
open PySem PySem.Spec PyProof.Rows
noncomputable def AllP{α:Type}(P:α->Prop):List α->Prop
 | []=>True
 | x::xs=>P x/\AllP P xs
theorem AllP.mem{α:Type}{P:α->Prop}:∀{l:List α},AllP P l->∀x∈l,P x
 | [],_,x,hx=>nomatch hx
 | y::l,h,x,hx=>by
  rcases Qh.mp hx with z|z
  ·rw[z];exact h.1
  ·exact AllP.mem h.2 x z
theorem V9{cl:List (Str×Addr)}{x:Str}(h:cl.any (fun p=>p.1 == x)=true):(cl.lookup x).isSome=true:=by
 induction cl with
 | nil=>simp at h
 | cons p cl ih =>
  obtain⟨n,a⟩:=p;rw[List.lookup_cons]
  by_cases e:x == n
  ·rw[e];rfl
  ·have e':(x == n)=false:=by simpa using e
   rw[e'];rw[GM] at h;rcases Bool.or_eq_true_iff.mp h with z|z
   ·have:n=x:=eq_of_beq z;rw[this] at e';simp at e'
   ·exact ih z
theorem Jea{X:Cx}{sc:Scope}{cl:List (Str×Addr)}{own:List Str}{fr:List (Str×Nat)}(h1:sc.kind=.function)(h2:closureFor sc X.env=pure cl)
 (h3:(sc.names.all fun y=>y.2 != .cell && (y.2 != .local || sc.names.lookup y.1 == some .local))=true) (h4:AllP (fun p=>X.env.cells.lookup p.1=some p.2) cl)
 (h5:((relabel sc X.env).names.all fun y=>(y.2 != .cell && y.2 != .free) || cl.any (fun p=>p.1 == y.1))=true)
 (h6:AllP (fun p=>X.N[p.2]?=some p.1/\X.env.scope.names.lookup p.1=some .cell/\(relabel sc X.env).names.lookup p.1=some .cell) fr) :
 Blk X sc cl (own++fr.map (·.1)) (own.map (fun _=>none)++fr.map (fun p=>some p.2)):=by
 simp only[K3,QT] at h3;simp only[K3] at h5;refine⟨h2,h1,fun y hy=>?_,fun y hy hl=>?_,AllP.mem h4,fun y hy hk=>?_,by simp,fun p hp k e=>?_⟩
 ·have:=(h3 y hy).1
  simpa using this
 ·have:=(h3 y hy).2;rw[hl] at this
  simpa using this
 ·have:=h5 y hy;rcases Bool.or_eq_true_iff.mp this with z|z
  ·rcases hk with q|q
   ·rw[q] at z;simp at z
   ·rw[q] at z;simp at z
  ·exact V9 z
 ·rw[LM (by simp)] at hp;rcases Q6.mp hp with z|z
  ·have:=(KN z).1;obtain⟨_,_,q⟩:=Qx.mp this;rw[<- q] at e;cases e
  ·rw[List.zip_map_left] at z;obtain⟨q,hq,eq⟩:=Qx.mp z
   have hz:q.1∈fr/\q.1.1=q.2:=by
    clear h6 e eq z hp;rw[List.zip_map_right] at hq;obtain⟨q',hq',eq'⟩:=Qx.mp hq
    have:q'.1=q'.2:=by
     clear eq' hq
     induction fr with
     | nil=>cases hq'
     | cons x fr ih =>
      rcases Qh.mp hq' with z|z
      ·rw[z]
      ·exact ih z
    rw[<- eq'];exact⟨(KN hq').1,by show q'.1.1=q'.2.1;rw[this]⟩
   obtain⟨a1,a2,a3⟩:=AllP.mem h6 q.1 hz.1;rw[<- eq] at e ⊢;have ek:q.1.2=k:=by simpa using e
   subst ek;rw[hz.2] at a1 a2 a3;exact⟨a1,.inl a2,.inl a3⟩
end L2

namespace LR
open PySem L2

noncomputable def Small(i:Int):Prop:=i.natAbs.log2<1920
theorem Small.of{i:Int}(h:i.natAbs<2 ^ 1920):Small i:=by
 unfold Small
 by_cases h0:i.natAbs=0
 ·rw[h0];decide
 ·exact(Nat.log2_lt h0).mpr h
theorem Small.le{i:Int}(h1:-(10 ^ 100)<=i)(h2:i<=10 ^ 100):Small i:=Small.of (by
 have h3:i.natAbs<=10 ^ 100:=by omega
 exact GQ h3 (by decide +kernel))
end LR

namespace LE
open PySem L2 LR

inductive D where
 | non|bl (b:Bool)|int (i:Int)|str (x:Str)|tup (l:List D)|lst (l:List D)|fz (l:List D)|row (l:List D)|dct (ks:List Int) (l:List D)|dfz (ks:List Int) (l:List D)|exc (n:Str)
noncomputable def dkO(ks:List Int)(xs:List V):HO:=.dK ((ks.map Sum.inl).zip xs)
noncomputable def dtK(p:Int×Int):List Key:=[Sum.inl p.1,Sum.inl p.2]
noncomputable def dtO(ps:List (Int×Int))(xs:List V):HO:=.dT ((ps.map dtK).zip xs)
noncomputable def XO(a:Addr)(c:Value):HO:=.ext fun h=>∃o,h.get? a=some o/\o.cls=c/\PySem.W.notCls o=true/\o.dict=none

section
variable(K:Frag)(C:Addr)
inductive RD (H:Hp):V->D->Prop
 | non:RD H .non .non
 | bl (b:Bool):RD H (.bl b) (.bl b)
 | int (i:Int):RD H (.int i) (.int i)
 | str (x:Str):RD H (.str x) (.str x)
 | tup {a:Addr} {xs:List V} {ds:List D}:SqT K H a xs->xs.length=ds.length->(∀(i:Nat) (x:V) (d:D),xs[i]?=some x->ds[i]?=some d->RD H x d)->RD H (.ref a) (.tup ds)
 | lst {a:Addr} {xs:List V} {ds:List D}:H a=some (.lst xs)->xs.length=ds.length->(∀(i:Nat) (x:V) (d:D),xs[i]?=some x->ds[i]?=some d->RD H x d)->RD H (.ref a) (.lst ds)
 | fz {a:Addr} {xs:List V} {ds:List D}:SqL K H a xs->xs.length=ds.length->(∀(i:Nat) (x:V) (d:D),xs[i]?=some x->ds[i]?=some d->RD H x d)->RD H (.ref a) (.fz ds)
 | row {x dx t:Addr} {ts:List V} {ds:List D}:H x=some (.ins C dx (JeR t))->SqT K H t ts->ts.length=ds.length->(∀(i:Nat) (x:V) (d:D),ts[i]?=some x->ds[i]?=some d->RD H x d)->RD H (.ref x) (.row ds)
 | dct {a:Addr} {ks:List Int} {xs:List V} {ds:List D}:H a=some (dkO ks xs)->ks.length=ds.length->xs.length=ds.length->(∀(i:Nat) (x:V) (d:D),xs[i]?=some x->ds[i]?=some d->RD H x d)->RD H (.ref a) (.dct ks ds)
 | dfz {a:Addr} {ks:List Int} {xs:List V} {ds:List D} {o:Obj}:H a=some (.frz o (dkO ks xs))->ks.length=ds.length->xs.length=ds.length->(∀(i:Nat) (x:V) (d:D),xs[i]?=some x->ds[i]?=some d->RD H x d)->RD H (.ref a) (.dfz ks ds)
 | exc {a c:Addr} {n:Str}:H a=some (XO a (.ref c))->nsIn K mainGlobals n=some (some (.ref c))->RD H (.ref a) (.exc n)
noncomputable def RDL(H:Hp)(xs:List V)(ds:List D):Prop:=xs.length=ds.length/\∀(i:Nat) (x:V) (d:D),xs[i]?=some x->ds[i]?=some d->RD K C H x d
end

section
variable{K:Frag}{C:Addr}{H H':Hp}
theorem RD.mono{v:V}{d:D}(e:Same H H')(r:RD K C H v d):RD K C H' v d:=by
 induction r with
 | non=>exact .non
 | bl b=>exact .bl b
 | int i=>exact .int i
 | str x=>exact .str x
 | tup h l _ ih=>exact .tup (e.seqT h) l ih
 | lst h l _ ih=>exact .lst (e _ _ h) l ih
 | fz h l _ ih=>exact .fz (e.seq h) l ih
 | row h1 h2 l _ ih=>exact .row (e _ _ h1) (e.seqT h2) l ih
 | dct h1 h2 l _ ih=>exact .dct (e _ _ h1) h2 l ih
 | dfz h1 h2 l _ ih=>exact .dfz (e _ _ h1) h2 l ih
 | exc h1 h2=>exact .exc (e _ _ h1) h2
theorem RDL.mono{xs:List V}{ds:List D}(e:Same H H')(r:RDL K C H xs ds):RDL K C H' xs ds:=⟨r.1,fun i x d h1 h2=>(r.2 i x d h1 h2).mono e⟩
theorem RDL.nil:RDL K C H [] []:=⟨rfl,fun i x d e=>by simp at e⟩
theorem RDL.cons{x:V}{d:D}{xs:List V}{ds:List D}(h:RD K C H x d)(r:RDL K C H xs ds):RDL K C H (x::xs) (d::ds):=by
 refine⟨by simp[r.1],fun i y e h1 h2=>?_⟩
 cases i with
 | zero=>simp at h1 h2;subst h1 h2;exact h
 | succ i=>exact r.2 i y e (by simpa using h1) (by simpa using h2)
theorem RDL.append{xs ys:List V}{ds es:List D}(r:RDL K C H xs ds)(q:RDL K C H ys es):RDL K C H (xs++ys) (ds++es):=by
 refine⟨by simp[r.1,q.1],fun i x d h1 h2=>?_⟩
 by_cases hi:i<xs.length
 ·rw[QQ hi] at h1;rw[QQ (by rw[<- r.1];exact hi)] at h2;exact r.2 i x d h1 h2
 ·rw[Q2 (by omega)] at h1;rw[Q2 (by rw[<- r.1];omega)] at h2;rw[<- r.1] at h2;exact q.2 _ x d h1 h2
theorem RDL.snoc{xs:List V}{ds:List D}{x:V}{d:D}(r:RDL K C H xs ds)(h:RD K C H x d):RDL K C H (xs++[x]) (ds++[d]):=r.append (.cons h .nil)
theorem RDL.get{xs:List V}{ds:List D}{i:Nat}{d:D}(r:RDL K C H xs ds)(e:ds[i]?=some d):∃x,xs[i]?=some x/\RD K C H x d:=by
 have hi:=(Qn.mp e).1
 have hx:i<xs.length:=by rw[r.1];exact hi
 exact⟨xs[i],by simp[hx],r.2 i _ d (by simp[hx]) e⟩
theorem RDL.head{x:V}{xs:List V}{d:D}{ds:List D}(r:RDL K C H (x::xs) (d::ds)):RD K C H x d:=r.2 0 x d rfl rfl
theorem RDL.tail{x:V}{xs:List V}{d:D}{ds:List D}(r:RDL K C H (x::xs) (d::ds)):RDL K C H xs ds:=⟨by have:=r.1;simpa using this,fun i y e h1 h2=>r.2 (i+1) y e (by simpa using h1) (by simpa using h2)⟩
theorem RDL.take{xs:List V}{ds:List D}(n:Nat)(r:RDL K C H xs ds):RDL K C H (xs.take n) (ds.take n):=by
 refine⟨by simp[r.1],fun i x d h1 h2=>?_⟩;rw[List.getElem?_take] at h1 h2;split at h1
 ·rw[if_pos (by assumption)] at h2;exact r.2 i x d h1 h2
 ·cases h1
theorem RDL.drop{xs:List V}{ds:List D}(n:Nat)(r:RDL K C H xs ds):RDL K C H (xs.drop n) (ds.drop n):=by refine⟨by simp[r.1],fun i x d h1 h2=>?_⟩;rw[List.getElem?_drop] at h1 h2;exact r.2 _ x d h1 h2
theorem RDL.ints:∀{xs:List V} {ns:List Int},RDL K C H xs (ns.map D.int)->xs=ns.map V.int
 | [],[],_=>rfl
 | [],_::_,r=>by have:=r.1;simp at this
 | _::_,[],r=>by have:=r.1;simp at this
 | x::xs,n::ns,r=>by have h:=r.head;cases h;rw[RDL.ints r.tail];rfl
theorem RDL.ofInts:∀(ns:List Int),RDL K C H (ns.map V.int) (ns.map D.int)
 | []=>.nil
 | n::ns=>.cons (.int n) (RDL.ofInts ns)
theorem RDL.bls:∀{xs:List V} {ns:List Bool},RDL K C H xs (ns.map D.bl)->xs=ns.map V.bl
 | [],[],_=>rfl
 | [],_::_,r=>by have:=r.1;simp at this
 | _::_,[],r=>by have:=r.1;simp at this
 | x::xs,n::ns,r=>by have h:=r.head;cases h;rw[RDL.bls r.tail];rfl
theorem RDL.strs:∀{xs:List V} {ns:List Str},RDL K C H xs (ns.map D.str)->xs=ns.map V.str
 | [],[],_=>rfl
 | [],_::_,r=>by have:=r.1;simp at this
 | _::_,[],r=>by have:=r.1;simp at this
 | x::xs,n::ns,r=>by have h:=r.head;cases h;rw[RDL.strs r.tail];rfl
theorem RD.mkT{a:Addr}{xs:List V}{ds:List D}(h:SqT K H a xs)(r:RDL K C H xs ds):RD K C H (.ref a) (.tup ds):=.tup h r.1 r.2
theorem RD.mkL{a:Addr}{xs:List V}{ds:List D}(h:H a=some (.lst xs))(r:RDL K C H xs ds):RD K C H (.ref a) (.lst ds):=.lst h r.1 r.2
theorem RD.mkF{a:Addr}{xs:List V}{ds:List D}(h:SqL K H a xs)(r:RDL K C H xs ds):RD K C H (.ref a) (.fz ds):=.fz h r.1 r.2
theorem RD.tupI{v:V}{ds:List D}(r:RD K C H v (.tup ds)):∃a xs,v=.ref a/\SqT K H a xs/\RDL K C H xs ds:=by
 cases r with
 | tup h l q=>exact⟨_,_,rfl,h,l,q⟩
theorem RD.lstI{v:V}{ds:List D}(r:RD K C H v (.lst ds)):∃a xs,v=.ref a/\H a=some (.lst xs)/\RDL K C H xs ds:=by
 cases r with
 | lst h l q=>exact⟨_,_,rfl,h,l,q⟩
theorem RD.fzI{v:V}{ds:List D}(r:RD K C H v (.fz ds)):∃a xs,v=.ref a/\SqL K H a xs/\RDL K C H xs ds:=by
 cases r with
 | fz h l q=>exact⟨_,_,rfl,h,l,q⟩
theorem RD.rowI{v:V}{ds:List D}(r:RD K C H v (.row ds)):∃x dx t ts,v=.ref x/\H x=some (.ins C dx (JeR t))/\SqT K H t ts/\RDL K C H ts ds:=by
 cases r with
 | row h1 h2 l q=>exact⟨_,_,_,_,rfl,h1,h2,l,q⟩
theorem RD.mkD{a:Addr}{ks:List Int}{xs:List V}{ds:List D}(h:H a=some (dkO ks xs))(hk:ks.length=ds.length)(r:RDL K C H xs ds):RD K C H (.ref a) (.dct ks ds):=.dct h hk r.1 r.2
theorem RD.dctI{v:V}{ks:List Int}{ds:List D}(r:RD K C H v (.dct ks ds)):∃a xs,v=.ref a/\H a=some (dkO ks xs)/\ks.length=ds.length/\RDL K C H xs ds:=by
 cases r with
 | dct h hk l q=>exact⟨_,_,rfl,h,hk,l,q⟩
theorem RD.mkZ{a:Addr}{ks:List Int}{xs:List V}{ds:List D}{o:Obj}(h:H a=some (.frz o (dkO ks xs)))(hk:ks.length=ds.length)(r:RDL K C H xs ds):RD K C H (.ref a) (.dfz ks ds):=.dfz h hk r.1 r.2
theorem RD.dfzI{v:V}{ks:List Int}{ds:List D}(r:RD K C H v (.dfz ks ds)):∃a xs o,v=.ref a/\H a=some (.frz o (dkO ks xs))/\ks.length=ds.length/\RDL K C H xs ds:=by
 cases r with
 | dfz h hk l q=>exact⟨_,_,_,rfl,h,hk,l,q⟩
theorem RD.intI{v:V}{i:Int}(r:RD K C H v (.int i)):v=.int i:=by cases r;rfl
theorem RD.strI{v:V}{i:Str}(r:RD K C H v (.str i)):v=.str i:=by cases r;rfl
theorem RD.blI{v:V}{i:Bool}(r:RD K C H v (.bl i)):v=.bl i:=by cases r;rfl
theorem RD.nonI{v:V}(r:RD K C H v .non):v=.non:=by cases r;rfl
end

mutual
noncomputable def D.py:D->PyData
 | .non=>.none
 | .bl b=>.bool b
 | .int i=>.int i
 | .str x=>.str x
 | .tup l=>.tuple (D.pyL l)
 | .lst l=>.list (D.pyL l)
 | .fz l=>.list (D.pyL l)
 | .row _=>.dict []
 | .dct _ _=>.dict []
 | .dfz _ _=>.dict []
 | .exc _=>.dict []
noncomputable def D.pyL:List D->List PyData
 | []=>[]
 | d::ds=>d.py::D.pyL ds
end
theorem Jf9:∀ds:List D,D.pyL ds=ds.map D.py
 | []=>rfl
 | d::ds=>by rw[D.pyL,Jf9 ds];rfl
theorem Jad:∀{ds:List PyData},KZ ds=true->∀d∈ds,d.canLay0=true
 | [],_,d,hd=>nomatch hd
 | x::ds,h,d,hd=>by
  have h':(PyData.canLay0 x && KZ ds)=true:=h;rw[QT] at h';rcases Qh.mp hd with z|z
  ·rw[z];exact h'.1
  ·exact Jad h'.2 d z
theorem RD.rep{K:Frag}{C:Addr}{H:Hp}{v:V}{d:D}(r:RD K C H v d):d.py.canLay0=true->Rep K H v d.py:=by
 have all:∀{xs:List V} {ds:List D},xs.length=ds.length->(∀(i:Nat) (x:V) (d:D),xs[i]?=some x->ds[i]?=some d->d.py.canLay0=true->Rep K H x d.py)->KZ (D.pyL ds)=true->RepL K H xs (D.pyL ds):=by
  intro xs ds l ih hc;rw[Jf9] at hc ⊢;refine⟨by simpa using l,fun i x d h1 h2=>?_⟩;rw[Qq] at h2
  cases e:ds[i]? with
  | none=>rw[e] at h2;cases h2
  | some q=>rw[e] at h2;cases h2;exact ih i x q h1 e (Jad hc _ (Qx.mpr ⟨q,QF e,rfl⟩))
 induction r with
 | non=>intro _;exact .non
 | bl b=>intro _;exact .bl b
 | int i=>intro _;exact .int i
 | str x=>intro _;exact .str x
 | tup h l _ ih=>intro hc;exact .tupL h (all l ih hc)
 | lst h l _ ih=>intro hc;exact .lstL (.of h) (all l ih hc)
 | fz h l _ ih=>intro hc;exact .lstL h (all l ih hc)
 | row h1 h2 l _ ih=>intro hc;cases hc
 | dct h1 h2 l _ ih=>intro hc;cases hc
 | dfz h1 h2 l _ ih=>intro hc;cases hc
 | exc h1 h2=>intro hc;cases hc

inductive Sl where
 | no|sh (d:D)|bo (ds:List D)|own (ds:List D)|bd (ks:List Int) (ds:List D)|od (ks:List Int) (ds:List D)|bt (ps:List (Int×Int)) (ds:List D)|ot (ps:List (Int×Int)) (ds:List D)
noncomputable def YN:Sl->Bool
 | .own _=>true
 | .od _ _=>true
 | .ot _ _=>true
 | _=>false
noncomputable def Jns:Sl->Bool
 | .bo _=>true
 | .bd _ _=>true
 | .bt _ _=>true
 | _=>false

section
variable(K:Frag)(C:Addr)
noncomputable def RR(Hs H0 H:Hp)(v:V):Sl->Prop
 | .no=>False
 | .sh d=>RD K C H0 v d
 | .bo ds=>∃l xs,v=.ref l/\H l=some (.lst xs)/\RDL K C H0 xs ds
 | .own ds=>∃l xs,v=.ref l/\H l=some (.lst xs)/\H0 l=none/\Hs l=none/\RDL K C H0 xs ds
 | .bd ks ds=>∃l xs,v=.ref l/\H l=some (dkO ks xs)/\ks.length=ds.length/\RDL K C H0 xs ds
 | .bt ks ds=>∃l xs,v=.ref l/\H l=some (dtO ks xs)/\ks.length=ds.length/\RDL K C H0 xs ds
 | .od ks ds=>∃l xs,v=.ref l/\H l=some (dkO ks xs)/\H0 l=none/\Hs l=none/\ks.length=ds.length/\RDL K C H0 xs ds
 | .ot ks ds=>∃l xs,v=.ref l/\H l=some (dtO ks xs)/\H0 l=none/\Hs l=none/\ks.length=ds.length/\RDL K C H0 xs ds
noncomputable def RSl(B H0 H:Hp)(v:V):Sl->Prop
 | .no=>True
 | .sh d=>RD K C H0 v d
 | .bo ds=>∃l xs,v=.ref l/\B l=some (.lst xs)/\RDL K C H0 xs ds
 | .own ds=>∃l xs,v=.ref l/\H l=some (.lst xs)/\H0 l=none/\B l=none/\RDL K C H0 xs ds
 | .bd ks ds=>∃l xs,v=.ref l/\B l=some (dkO ks xs)/\ks.length=ds.length/\RDL K C H0 xs ds
 | .bt ks ds=>∃l xs,v=.ref l/\B l=some (dtO ks xs)/\ks.length=ds.length/\RDL K C H0 xs ds
 | .od ks ds=>∃l xs,v=.ref l/\H l=some (dkO ks xs)/\H0 l=none/\B l=none/\ks.length=ds.length/\RDL K C H0 xs ds
 | .ot ks ds=>∃l xs,v=.ref l/\H l=some (dtO ks xs)/\H0 l=none/\B l=none/\ks.length=ds.length/\RDL K C H0 xs ds
structure EnvR (B H0 H:Hp) (σ:St) (E:List Sl):Prop where
 b:Same B H
 h:Same H0 H
 len:σ.length=E.length
 at':∀(i:Nat) (s:Sl),E[i]?=some s->s=.no\/∃v,σ[i]?=some (some v)/\RSl K C B H0 H v s
 sep:∀(i j:Nat) (s t:Sl) (v:V),i≠j->E[i]?=some s->E[j]?=some t->YN s=true->YN t=true->σ[i]?=some (some v)->σ[j]?≠some (some v)
end
noncomputable def isT:HO->Bool
 | .tup _=>true
 | .frz _ (.tup _)=>true
 | _=>false
structure Step (Hs H0 H H0' H':Hp):Prop where
 h:Same H H'
 z:Same H0 H0'
 n:∀a o,H0' a=some o->H0 a=some o\/Hs a=none\/isT o=true
 i:Same H0' H'
structure SStep (B H0 H0' H':Hp):Prop where
 b:Same B H'
 z:Same H0 H0'
 n:∀a o,H0' a=some o->H0 a=some o\/B a=none\/isT o=true
 i:Same H0' H'

section
variable{K:Frag}{C:Addr}{B Hs H0 H H0' H' H0'' H'':Hp}{σ:St}{E:List Sl}{v:V}{s:Sl}
theorem Step.refl(i:Same H0 H):Step Hs H0 H H0 H:=⟨Same.refl _,Same.refl _,fun _ _ e=>.inl e,i⟩
theorem Step.comp{Hs':Hp}(s1:Step Hs H0 H H0' H')(s2:Step Hs' H0' H' H0'' H'')(w:∀a,Hs' a=none->Hs a=none):Step Hs H0 H H0'' H'' :=
 ⟨s1.h.trans s2.h,s1.z.trans s2.z,fun a o e=>(s2.n a o e).elim (fun q=>s1.n a o q) fun q=>.inr (q.imp (w a) id),s2.i⟩
theorem Step.trans(s1:Step H H0 H H0' H')(s2:Step H' H0' H' H0'' H''):Step H H0 H H0'' H'':=s1.comp s2 fun _ q=>Same.free s1.h q
theorem Step.ss(b:Same B H)(s:Step H H0 H H0' H'):SStep B H0 H0' H':=⟨b.trans s.h,s.z,fun a o e=>(s.n a o e).imp id fun q=>q.imp (fun q=>Same.free b q) id,s.i⟩
theorem SStep.refl(b:Same B H)(i:Same H0 H):SStep B H0 H0 H:=⟨b,Same.refl _,fun _ _ e=>.inl e,i⟩
theorem SStep.trans(s1:SStep B H0 H0' H')(s2:SStep B H0' H0'' H''):SStep B H0 H0'' H'':=⟨s2.b,s1.z.trans s2.z,fun a o e=>(s2.n a o e).elim (fun q=>s1.n a o q) .inr,s2.i⟩
theorem RR.step(r:RR K C Hs H0 H v s)(st:Step H H0 H H0' H'):RR K C Hs H0' H' v s:=by
 cases s with
 | no=>exact r
 | sh d=>exact RD.mono st.z r
 | bo ds=>obtain⟨l,xs,e,h,q⟩:=r;exact⟨l,xs,e,st.h _ _ h,q.mono st.z⟩
 | bd ks ds=>obtain⟨l,xs,e,h,hk,q⟩:=r;exact⟨l,xs,e,st.h _ _ h,hk,q.mono st.z⟩
 | bt ks ds=>obtain⟨l,xs,e,h,hk,q⟩:=r;exact⟨l,xs,e,st.h _ _ h,hk,q.mono st.z⟩
 | own ds =>
  obtain⟨l,xs,e,h,n,m,q⟩:=r;refine⟨l,xs,e,st.h _ _ h,?_,m,q.mono st.z⟩
  cases z:H0' l with
  | none=>rfl
  | some o =>
   rcases st.n l o z with y|y|y
   ·rw[n] at y;cases y
   ·rw[h] at y;cases y
   ·have:=st.i l o z;rw[st.h _ _ h] at this;cases this;cases y
 | od ks ds =>
  obtain⟨l,xs,e,h,n,m,hk,q⟩:=r;refine⟨l,xs,e,st.h _ _ h,?_,m,hk,q.mono st.z⟩
  cases z:H0' l with
  | none=>rfl
  | some o =>
   rcases st.n l o z with y|y|y
   ·rw[n] at y;cases y
   ·rw[h] at y;cases y
   ·have:=st.i l o z;rw[st.h _ _ h] at this;cases this;cases y
 | ot ks ds =>
  obtain⟨l,xs,e,h,n,m,hk,q⟩:=r;refine⟨l,xs,e,st.h _ _ h,?_,m,hk,q.mono st.z⟩
  cases z:H0' l with
  | none=>rfl
  | some o =>
   rcases st.n l o z with y|y|y
   ·rw[n] at y;cases y
   ·rw[h] at y;cases y
   ·have:=st.i l o z;rw[st.h _ _ h] at this;cases this;cases y
theorem RR.weak{Hs':Hp}(r:RR K C Hs' H0 H v s)(w:∀a,Hs' a=none->Hs a=none):RR K C Hs H0 H v s:=by
 cases s with
 | own ds=>obtain⟨l,xs,e,h,n,m,q⟩:=r;exact⟨l,xs,e,h,n,w _ m,q⟩
 | od ks ds=>obtain⟨l,xs,e,h,n,m,q⟩:=r;exact⟨l,xs,e,h,n,w _ m,q⟩
 | ot ks ds=>obtain⟨l,xs,e,h,n,m,q⟩:=r;exact⟨l,xs,e,h,n,w _ m,q⟩
 | _=>exact r
theorem RSl.owned(r:RSl K C B H0 H v s)(o:YN s=true):∃l,v=.ref l/\H l≠none/\H0 l=none/\B l=none:=by
 cases s with
 | own ds=>obtain⟨l,xs,e,h,n,m,q⟩:=r;exact⟨l,e,(by rw[h];intro z;cases z),n,m⟩
 | od ks ds=>obtain⟨l,xs,e,h,n,m,q⟩:=r;exact⟨l,e,(by rw[h];intro z;cases z),n,m⟩
 | ot ks ds=>obtain⟨l,xs,e,h,n,m,q⟩:=r;exact⟨l,e,(by rw[h];intro z;cases z),n,m⟩
 | _=>cases o
theorem RR.owned(r:RR K C Hs H0 H v s)(o:YN s=true):∃l,v=.ref l/\H l≠none/\H0 l=none/\Hs l=none:=by
 cases s with
 | own ds=>obtain⟨l,xs,e,h,n,m,q⟩:=r;exact⟨l,e,(by rw[h];intro z;cases z),n,m⟩
 | od ks ds=>obtain⟨l,xs,e,h,n,m,q⟩:=r;exact⟨l,e,(by rw[h];intro z;cases z),n,m⟩
 | ot ks ds=>obtain⟨l,xs,e,h,n,m,q⟩:=r;exact⟨l,e,(by rw[h];intro z;cases z),n,m⟩
 | _=>cases o
theorem EnvR.step(I:EnvR K C B H0 H σ E)(st:Step H H0 H H0' H'):EnvR K C B H0' H' σ E:=by
 refine⟨I.b.trans st.h,st.i,I.len,fun i s e=>?_,I.sep⟩;rcases I.at' i s e with z|⟨v,h1,h2⟩
 ·exact .inl z
 ·refine .inr ⟨v,h1,?_⟩
  cases s with
  | no=>trivial
  | sh d=>exact RD.mono st.z h2
  | bo ds=>obtain⟨l,xs,e,h,q⟩:=h2;exact⟨l,xs,e,h,q.mono st.z⟩
  | own ds=>exact RR.step (Hs:=B) (s:=.own ds) h2 st
  | bd ks ds=>obtain⟨l,xs,e,h,hk,q⟩:=h2;exact⟨l,xs,e,h,hk,q.mono st.z⟩
  | bt ks ds=>obtain⟨l,xs,e,h,hk,q⟩:=h2;exact⟨l,xs,e,h,hk,q.mono st.z⟩
  | od ks ds=>exact RR.step (Hs:=B) (s:=.od ks ds) h2 st
  | ot ks ds=>exact RR.step (Hs:=B) (s:=.ot ks ds) h2 st
theorem EnvR.sub{E':List Sl}(I:EnvR K C B H0 H σ E)(hl:E'.length=E.length)(h:∀(i:Nat) (s:Sl),E'[i]?=some s->s=.no\/E[i]?=some s):EnvR K C B H0 H σ E':=by
 refine⟨I.b,I.h,I.len.trans hl.symm,fun i s e=>?_,fun i j s t v hij e1 e2 o1 o2=>?_⟩
 ·rcases h i s e with z|z
  ·exact .inl z
  ·exact I.at' i s z
 ·rcases h i _ e1 with z|z
  ·subst z;cases o1
  ·rcases h j _ e2 with y|y
   ·subst y;cases o2
   ·exact I.sep i j s t v hij z y o1 o2
theorem EnvR.put(I:EnvR K C B H0 H σ E){i:Nat}(hi:i<E.length){Hs:Hp}(hB:∀a,Hs a=none->B a=none)(hf:∀(j:Nat) (t:Sl) (l:Addr),E[j]?=some t->YN t=true->σ[j]?=some (some (.ref l))->Hs l≠none)(r:RR K C Hs H0 H v s)(hb:Jns s=false):EnvR K C B H0 H (σ.set i (some v)) (E.set i s):=by
 refine⟨I.b,I.h,by simp[I.len],fun j t e=>?_,fun j k s1 s2 u hjk e1 e2 o1 o2 e3 e4=>?_⟩
 ·rw[QX] at e
  by_cases hj:i=j
  ·subst hj;rw[if_pos rfl,if_pos hi] at e;cases e;refine .inr ⟨v,by rw[QX];simp[I.len,hi],?_⟩
   cases s with
   | no=>trivial
   | sh d=>exact r
   | bo ds=>cases hb
   | own ds=>obtain⟨l,xs,e,h,n,m,q⟩:=r;exact⟨l,xs,e,h,n,hB _ m,q⟩
   | bd ks ds=>cases hb
   | bt ks ds=>cases hb
   | od ks ds=>obtain⟨l,xs,e,h,n,m,q⟩:=r;exact⟨l,xs,e,h,n,hB _ m,q⟩
   | ot ks ds=>obtain⟨l,xs,e,h,n,m,q⟩:=r;exact⟨l,xs,e,h,n,hB _ m,q⟩
  ·rw[if_neg hj] at e;rcases I.at' j t e with z|⟨u,h1,h2⟩
   ·exact .inl z
   ·exact .inr ⟨u,by rw[QX,if_neg hj];exact h1,h2⟩
 ·rw[QX] at e1 e2 e3 e4
  by_cases hj:i=j
  ·subst hj;rw[if_neg hjk] at e2 e4;rw[if_pos rfl,if_pos hi] at e1;rw[if_pos rfl,if_pos (by rw[I.len];exact hi)] at e3;cases e3;cases e1;obtain⟨l,e,_,_,m⟩:=r.owned o1;subst e;exact hf k _ l e2 o2 e4 m
  ·rw[if_neg hj] at e1 e3
   by_cases hk:i=k
   ·subst hk;rw[if_pos rfl,if_pos hi] at e2;rw[if_pos rfl,if_pos (by rw[I.len];exact hi)] at e4;cases e2;have e4':v=u:=QG (QG e4);subst e4';obtain⟨l,e,_,_,m⟩:=r.owned o2;subst e;exact hf j _ l e1 o1 e3 m
   ·rw[if_neg hk] at e2 e4;exact I.sep j k _ _ u hjk e1 e2 o1 o2 e3 e4
theorem EnvR.ownG(I:EnvR K C B H0 H σ E){j:Nat}{t:Sl}{l:Addr}(e1:E[j]?=some t)(ho:YN t=true)(e2:σ[j]?=some (some (.ref l))):H l≠none/\H0 l=none/\B l=none:=by
 rcases I.at' j _ e1 with z|⟨v,h1,h2⟩
 ·subst z;cases ho
 ·rw[e2] at h1;cases h1;obtain⟨l',e,h⟩:=h2.owned ho;cases e;exact h
theorem EnvR.put'{H1 H01:Hp}(I:EnvR K C B H0 H σ E)(st:Step H H0 H H01 H1){i:Nat}(hi:i<E.length)(r:RR K C H H01 H1 v s)(hb:Jns s=false):EnvR K C B H01 H1 (σ.set i (some v)) (E.set i s) :=
 (I.step st).put hi (fun a q=>Same.free I.b q) (fun j t l e1 o1 e2=>(I.ownG e1 o1 e2).1) r hb
noncomputable def JfN:Option HO->Option HO
 | some o=>if isT o=true then some o else none
 | none=>none
noncomputable def J1(Hs H0 H:Hp):Hp:=fun a=>match H0 a with
 | some o=>some o
 | none=>match Hs a with
  | none=>H a
  | some _=>JfN (H a)
theorem Jab{o:Option HO}{u:HO}(e:JfN o=some u):o=some u/\isT u=true:=by
 cases o with
 | none=>cases e
 | some w =>
  unfold JfN at e;dsimp only at e;split at e
  ·cases e;exact⟨rfl,by assumption⟩
  ·cases e
theorem JT(i:Same H0 H):Step Hs H0 H (J1 Hs H0 H) H:=by
 refine⟨Same.refl _,fun a o e=>by unfold J1;rw[e],fun a o e=>?_,fun a o e=>?_⟩
 ·unfold J1 at e
  cases h:H0 a with
  | some u=>rw[h] at e;exact .inl e
  | none =>
   rw[h] at e
   cases h2:Hs a with
   | none=>exact .inr (.inl rfl)
   | some u=>rw[h2] at e;exact .inr (.inr (Jab e).2)
 ·unfold J1 at e
  cases h:H0 a with
  | some u=>rw[h] at e;cases e;exact i a _ h
  | none =>
   rw[h] at e
   cases h2:Hs a with
   | none=>rw[h2] at e;exact e
   | some u=>rw[h2] at e;exact(Jab e).1
theorem JbQ{a:Addr}{o:HO}(i:Same H0 H)(n:Hs a=none)(h:H a=some o):J1 Hs H0 H a=some o:=by
 unfold J1
 cases z:H0 a with
 | some u=>rw[i a u z] at h;exact h
 | none=>dsimp only;rw[n];exact h
theorem JbR{a:Addr}{o:HO}(i:Same H0 H)(n:isT o=true)(h:H a=some o):J1 Hs H0 H a=some o:=by
 unfold J1
 cases z:H0 a with
 | some u=>rw[i a u z] at h;exact h
 | none =>
  dsimp only
  cases y:Hs a with
  | none=>exact h
  | some u=>dsimp only;rw[h];unfold JfN;dsimp only;rw[if_pos n]
theorem JfG{a:Addr}{xs:List V}(i:Same H0 H)(h:SqT K H a xs):SqT K (J1 Hs H0 H) a xs:=by
 rcases h with (h|⟨o,h⟩)|h
 ·exact .inl (.inl (JbR i rfl h))
 ·exact .inl (.inr ⟨o,JbR i rfl h⟩)
 ·exact .inr h
noncomputable def Sl.frz:Sl->Option D
 | .sh d=>some d
 | .own ds=>some (.lst ds)
 | .od ks ds=>some (.dct ks ds)
 | _=>none
theorem RR.frz{d:D}(i:Same H0 H)(r:RR K C Hs H0 H v s)(e:s.frz=some d):RD K C (J1 Hs H0 H) v d:=by
 have st:Step Hs H0 H (J1 Hs H0 H) H:=JT i
 cases s with
 | no=>cases e
 | sh d'=>cases e;exact RD.mono st.z r
 | bo ds=>cases e
 | own ds=>cases e;obtain⟨l,xs,e,h,n,m,q⟩:=r;subst e;exact .mkL (JbQ i m h) (q.mono st.z)
 | bd ks ds=>cases e
 | bt ks ds=>cases e
 | od ks ds=>cases e;obtain⟨l,xs,e,h,n,m,hk,q⟩:=r;subst e;exact .mkD (JbQ i m h) hk (q.mono st.z)
 | ot ks ds=>cases e
end
end LE

namespace LE
open PySem L2 LR

noncomputable abbrev En:=List Sl
noncomputable abbrev Ev:=En->Option Sl
section
variable(K:Frag)(C:Addr)
noncomputable def SE(te:TE)(ev:Ev):Prop:=∀(B H0 H:Hp) (σ:St) (E:En) (r:Sl) (Q:VK),EnvR K C B H0 H σ E->ev E=some r ->
 (∀v H0' H',Step H H0 H H0' H'->RR K C H H0' H' v r->Q v H')->te σ H Q
noncomputable def ST(t:TT)(ev:En->Option Bool):Prop:=∀(B H0 H:Hp) (σ:St) (E:En) (r:Bool) (Q:Bool->Hp->Prop),EnvR K C B H0 H σ E->ev E=some r ->
 (∀H0' H',Step H H0 H H0' H'->Q r H')->t σ H Q
inductive RRL (Hs H0 H:Hp):List V->List Sl->Prop
 | nil:RRL Hs H0 H [] []
 | cons {v:V} {s:Sl} {vs:List V} {ss:List Sl}:RR K C Hs H0 H v s->RRL Hs H0 H vs ss->RRL Hs H0 H (v::vs) (s::ss)
noncomputable def SA(t:TA)(ev:En->Option (List Sl)):Prop:=∀(B H0 H:Hp) (σ:St) (E:En) (r:List Sl) (Q:List V->Hp->Prop),EnvR K C B H0 H σ E->ev E=some r ->
 (∀vs H0' H',Step H H0 H H0' H'->RRL K C H H0' H' vs r->Q vs H')->t σ H Q
noncomputable def OpS(r:R2)(f:Sl->Sl->Option Sl):Prop:=∀(Hs H0 H:Hp) (x y:V) (a b c:Sl) (Q:VK),Same H0 H->Same Hs H->RR K C Hs H0 H x a->RR K C Hs H0 H y b->f a b=some c ->
 (∀v H0' H',Step Hs H0 H H0' H'->RR K C Hs H0' H' v c->Q v H')->r x y H Q
noncomputable def UnS(r:V->Hp->VK->Prop)(f:Sl->Option Sl):Prop:=∀(Hs H0 H:Hp) (x:V) (a c:Sl) (Q:VK),Same H0 H->Same Hs H->RR K C Hs H0 H x a->f a=some c ->
 (∀v H0' H',Step Hs H0 H H0' H'->RR K C Hs H0' H' v c->Q v H')->r x H Q
noncomputable def Za(r:List V->Hp->VK->Prop)(f:List Sl->Option Sl):Prop:=∀(Hs H0 H:Hp) (xs:List V) (as:List Sl) (c:Sl) (Q:VK),Same H0 H->Same Hs H->RRL K C Hs H0 H xs as->f as=some c ->
 (∀v H0' H',Step Hs H0 H H0' H'->RR K C Hs H0' H' v c->Q v H')->r xs H Q
end

noncomputable def Jd(i:Nat):Ev:=fun E=>match E[i]? with
 | some (.sh d)=>some (.sh d)
 | some (.bo ds)=>some (.bo ds)
 | some (.own ds)=>some (.bo ds)
 | some (.bd ks ds)=>some (.bd ks ds)
 | some (.od ks ds)=>some (.bd ks ds)
 | some (.bt ks ds)=>some (.bt ks ds)
 | some (.ot ks ds)=>some (.bt ks ds)
 | _=>none
noncomputable def eC(d:D):Ev:=fun _=>some (.sh d)
noncomputable def e2(f:Sl->Sl->Option Sl)(a b:Ev):Ev:=fun E=>(a E).bind fun x=>(b E).bind fun y=>f x y
noncomputable def e1(f:Sl->Option Sl)(a:Ev):Ev:=fun E=>(a E).bind f
noncomputable def a0:En->Option (List Sl):=fun _=>some []
noncomputable def aC(a:Ev)(as:En->Option (List Sl)):En->Option (List Sl):=fun E=>(a E).bind fun x=>(as E).bind fun xs=>some (x::xs)
noncomputable def eF(f:List Sl->Option Sl)(as:En->Option (List Sl)):Ev:=fun E=>(as E).bind f
noncomputable def bool?:Sl->Option Bool
 | .sh (.bl b)=>some b
 | _=>none
noncomputable def Jnf(a b:Ev):Ev:=fun E=>((a E).bind bool?).bind fun k=>if k=true then b E else some (.sh (.bl false))
noncomputable def eIf(c:En->Option Bool)(a b:Ev):Ev:=fun E=>(c E).bind fun k=>if k=true then a E else b E
noncomputable def sh?:Sl->Option D
 | .sh d=>some d
 | _=>none
noncomputable def Jeg(f g:Sl->Sl->Option Sl)(a b c:Ev):Ev:=fun E=>((a E).bind sh?).bind fun x=>((b E).bind sh?).bind fun y=>((f (.sh x) (.sh y)).bind bool?).bind fun k=>if k=true then((c E).bind sh?).bind fun z=>g (.sh y) (.sh z) else some (.sh (.bl false))
noncomputable def tB?(a:Ev):En->Option Bool:=fun E=>(a E).bind bool?
noncomputable def tAnd?(a b:En->Option Bool):En->Option Bool:=fun E=>(a E).bind fun k=>if k=true then b E else some false
noncomputable def tOr?(a b:En->Option Bool):En->Option Bool:=fun E=>(a E).bind fun k=>if k=true then some true else b E
noncomputable def tNot?(a:En->Option Bool):En->Option Bool:=fun E=>(a E).bind fun k=>some (!k)

section
variable{K:Frag}{C:Addr}
theorem bind_some{α β:Type}{x:Option α}{f:α->Option β}{b:β}(e:x.bind f=some b):∃a,x=some a/\f a=some b:=by
 cases x with
 | none=>cases e
 | some a=>exact⟨a,rfl,e⟩
theorem VO{s:Sl}{b:Bool}(e:bool? s=some b):s=.sh (.bl b):=by
 cases s with
 | sh d=>cases d with
  | bl x=>cases e;rfl
  | _=>cases e
 | _=>cases e
variable{ta tb tc te:TE}{ea eb ec:Ev}
theorem Jb(i:Nat):SE K C (WE i) (Jd i):=by
 intro B H0 H σ E r Q I e q;unfold Jd at e
 cases h:E[i]? with
 | none=>rw[h] at e;cases e
 | some s =>
  rw[h] at e;rcases I.at' i s h with z|⟨v,h1,h2⟩
  ·subst z;cases e
  ·refine⟨v,h1,q v H0 H (.refl I.h) ?_⟩
   cases s with
   | no=>cases e
   | sh d=>cases e;exact h2
   | bo ds=>cases e;obtain⟨l,xs,e,hl,r⟩:=h2;exact⟨l,xs,e,I.b _ _ hl,r⟩
   | own ds=>cases e;obtain⟨l,xs,e,hl,_,_,r⟩:=h2;exact⟨l,xs,e,hl,r⟩
   | bd ks ds=>cases e;obtain⟨l,xs,e,hl,r⟩:=h2;exact⟨l,xs,e,I.b _ _ hl,r⟩
   | bt ks ds=>cases e;obtain⟨l,xs,e,hl,r⟩:=h2;exact⟨l,xs,e,I.b _ _ hl,r⟩
   | od ks ds=>cases e;obtain⟨l,xs,e,hl,_,_,r⟩:=h2;exact⟨l,xs,e,hl,r⟩
   | ot ks ds=>cases e;obtain⟨l,xs,e,hl,_,_,r⟩:=h2;exact⟨l,xs,e,hl,r⟩
theorem Wy:SE K C (tC .non) (eC .non):=fun _ _ _ _ _ _ _ I e q=>by cases e;exact q _ _ _ (.refl I.h) .non
theorem Jl2{b:Bool}:SE K C (tC (.bl b)) (eC (.bl b)):=fun _ _ _ _ _ _ _ I e q=>by cases e;exact q _ _ _ (.refl I.h) (.bl b)
theorem Jn{i:Int}:SE K C (tC (.int i)) (eC (.int i)):=fun _ _ _ _ _ _ _ I e q=>by cases e;exact q _ _ _ (.refl I.h) (.int i)
theorem Jp{r:R2}{f:Sl->Sl->Option Sl}(ho:OpS K C r f)(ha:SE K C ta ea)(hb:SE K C tb eb):SE K C (tOp r ta tb) (e2 f ea eb):=by
 intro B H0 H σ E c Q I e q;obtain⟨a,e1,e⟩:=bind_some e;obtain⟨b,e2,e⟩:=bind_some e;exact ha B H0 H σ E a _ I e1 fun x H1 H1' s1 r1=>hb B H1 H1' σ E b _ (I.step s1) e2 fun y H2 H2' s2 r2=>ho H H2 H2' x y a b c Q s2.i (s1.h.trans s2.h) (r1.step s2) (r2.weak fun a q=>Same.free s1.h q) e fun v H3 H3' s3 r3=>q v H3 H3' ((s1.trans s2).comp s3 fun _ z=>z) r3
theorem Jmb{r:V->Hp->VK->Prop}{f:Sl->Option Sl}(ho:UnS K C r f)(ha:SE K C ta ea):SE K C (tUn r ta) (e1 f ea):=by intro B H0 H σ E c Q I e q;obtain⟨a,e1,e⟩:=bind_some e;exact ha B H0 H σ E a _ I e1 fun x H1 H1' s1 r1=>ho H H1 H1' x a c Q s1.i s1.h r1 e fun v H3 H3' s3 r3=>q v H3 H3' (s1.comp s3 fun _ z=>z) r3
theorem Jk:SA K C WD a0:=fun _ _ _ _ _ _ _ I e q=>by cases e;exact q _ _ _ (.refl I.h) .nil
theorem RRL.weak{Hs Hs' H0 H:Hp}{vs:List V}{ss:List Sl}(r:RRL K C Hs' H0 H vs ss)(w:∀a,Hs' a=none->Hs a=none):RRL K C Hs H0 H vs ss:=by
 induction r with
 | nil=>exact .nil
 | cons h _ ih=>exact .cons (h.weak w) ih
theorem Jc{tr:TA}{er:En->Option (List Sl)}(ha:SE K C ta ea)(hr:SA K C tr er):SA K C (Vn ta tr) (aC ea er):=by
 intro B H0 H σ E c Q I e q;obtain⟨a,e1,e⟩:=bind_some e;obtain⟨b,e2,e⟩:=bind_some e;cases e;exact ha B H0 H σ E a _ I e1 fun x H1 H1' s1 r1=>hr B H1 H1' σ E b _ (I.step s1) e2 fun y H2 H2' s2 r2=>q _ H2 H2' (s1.trans s2) (.cons (r1.step s2) (r2.weak fun a q=>Same.free s1.h q))
theorem Wc{r:List V->Hp->VK->Prop}{t:TA}{ev:En->Option (List Sl)}{f:List Sl->Option Sl}(hc:Za K C r f)(ha:SA K C t ev):SE K C (tCB r t) (eF f ev):=by intro B H0 H σ E c Q I e q;obtain⟨a,e1,e⟩:=bind_some e;exact ha B H0 H σ E a _ I e1 fun x H1 H1' s1 r1=>hc H H1 H1' x a c Q s1.i s1.h r1 e fun v H3 H3' s3 r3=>q v H3 H3' (s1.comp s3 fun _ z=>z) r3
theorem JpY(ha:SE K C ta ea)(hb:SE K C tb eb):SE K C (JmV ta tb) (Jnf ea eb):=by
 intro B H0 H σ E c Q I e q;obtain⟨k,e1,e⟩:=bind_some e;obtain⟨a,e0,e1⟩:=bind_some e1;refine ha B H0 H σ E a _ I e0 fun x H1 H1' s1 r1=>?_
 rw[VO e1] at r1;refine⟨k,RD.blI r1,?_⟩
 cases k with
 | true=>exact hb B H1 H1' σ E c Q (I.step s1) e fun y H2 H2' s2 r2=>q y H2 H2' (s1.trans s2) (r2.weak fun a q=>Same.free s1.h q)
 | false=>cases e;exact q _ _ _ s1 (RD.bl false)
theorem JmU{c:TT}{cv:En->Option Bool}(hc:ST K C c cv)(ha:SE K C ta ea)(hb:SE K C tb eb):SE K C (tIf c ta tb) (eIf cv ea eb):=by
 intro B H0 H σ E r Q I e q;obtain⟨k,e1,e⟩:=bind_some e;refine hc B H0 H σ E k _ I e1 fun H1 H1' s1=>?_
 cases k with
 | true=>exact ha B H1 H1' σ E r Q (I.step s1) e fun y H2 H2' s2 r2=>q y H2 H2' (s1.trans s2) (r2.weak fun a q=>Same.free s1.h q)
 | false=>exact hb B H1 H1' σ E r Q (I.step s1) e fun y H2 H2' s2 r2=>q y H2 H2' (s1.trans s2) (r2.weak fun a q=>Same.free s1.h q)
theorem Wz{s:Sl}{d:D}(e:sh? s=some d):s=.sh d:=by
 cases s with
 | sh d'=>cases e;rfl
 | _=>cases e
theorem Jl3{r r':R2}{f g:Sl->Sl->Option Sl}(ho:OpS K C r f)(ho':OpS K C r' g)(ha:SE K C ta ea)(hb:SE K C tb eb)(hc:SE K C tc ec):SE K C (Jj4 r r' ta tb tc) (Jeg f g ea eb ec):=by
 intro B H0 H σ E c Q I e q;obtain⟨a,e1,e⟩:=bind_some e;obtain⟨a',e1,f1⟩:=bind_some e1;obtain rfl:=Wz f1;obtain⟨b,e2,e⟩:=bind_some e;obtain⟨b',e2,f2⟩:=bind_some e2;obtain rfl:=Wz f2;obtain⟨k,e3,e⟩:=bind_some e;obtain⟨z,e4,e3⟩:=bind_some e3;refine ha B H0 H σ E _ _ I e1 fun x H1 H1' s1 r1=>hb B H1 H1' σ E _ _ (I.step s1) e2 fun y H2 H2' s2 r2=>?_
 have x2:RD K C H2 x a:=RD.mono s2.z r1
 have y2:RD K C H2 y b:=r2;refine ho H2' H2 H2' x y (.sh a) (.sh b) z _ s2.i (Same.refl _) x2 y2 e4 fun w H3 H3' s3 r3=>?_
 rw[VO e3] at r3;have s13:=(s1.trans s2).trans s3;refine⟨k,RD.blI r3,?_⟩
 cases k with
 | false=>cases e;exact q _ _ _ s13 (RD.bl false)
 | true =>
  obtain⟨d,e5,e⟩:=bind_some e;obtain⟨d',e5,f5⟩:=bind_some e5;obtain rfl:=Wz f5;refine hc B H3 H3' σ E _ _ (I.step s13) e5 fun u H4 H4' s4 r4=>?_
  exact ho' H H4 H4' y u (.sh b) (.sh d) c Q s4.i (s13.h.trans s4.h) (RD.mono (s3.z.trans s4.z) y2) (show RD K C H4 u d from r4) e fun v H5 H5' s5 r5=>q v H5 H5' ((s13.trans s4).comp s5 fun _ z=>z) r5

theorem Yo(ha:SE K C te ea):ST K C (Jgs te) (tB? ea):=by
 intro B H0 H σ E k Q I e q;obtain⟨a,e1,e⟩:=bind_some e;refine ha B H0 H σ E a _ I e1 fun x H1 H1' s1 r1=>?_
 rw[VO e] at r1;exact⟨k,RD.blI r1,q _ _ s1⟩
theorem Jaw{c d:TT}{ev ew:En->Option Bool}(hc:ST K C c ev)(hd:ST K C d ew):ST K C (JoK c d) (tAnd? ev ew):=by
 intro B H0 H σ E k Q I e q;obtain⟨a,e1,e⟩:=bind_some e;refine hc B H0 H σ E a _ I e1 fun H1 H1' s1=>?_
 cases a with
 | true=>exact hd B H1 H1' σ E k Q (I.step s1) e fun H2 H2' s2=>q H2 H2' (s1.trans s2)
 | false=>cases e;exact q _ _ s1
theorem JjY{c d:TT}{ev ew:En->Option Bool}(hc:ST K C c ev)(hd:ST K C d ew):ST K C (tOr c d) (tOr? ev ew):=by
 intro B H0 H σ E k Q I e q;obtain⟨a,e1,e⟩:=bind_some e;refine hc B H0 H σ E a _ I e1 fun H1 H1' s1=>?_
 cases a with
 | false=>exact hd B H1 H1' σ E k Q (I.step s1) e fun H2 H2' s2=>q H2 H2' (s1.trans s2)
 | true=>cases e;exact q _ _ s1
theorem Jct{c:TT}{ev:En->Option Bool}(hc:ST K C c ev):ST K C (Jp6 c) (tNot? ev):=by intro B H0 H σ E k Q I e q;obtain⟨a,e1,e⟩:=bind_some e;cases e;exact hc B H0 H σ E a _ I e1 fun H1 H1' s1=>q _ _ s1
end

noncomputable def Sl.m:Sl->Option (List D)
 | .sh (.lst ds)=>some ds
 | .bo ds=>some ds
 | .own ds=>some ds
 | _=>none
noncomputable def Sl.r:Sl->Option (List D)
 | .sh (.lst ds)=>some ds
 | .sh (.fz ds)=>some ds
 | .bo ds=>some ds
 | .own ds=>some ds
 | _=>none
noncomputable def Sl.q:Sl->Option (List D)
 | .sh (.lst ds)=>some ds
 | .sh (.fz ds)=>some ds
 | .sh (.tup ds)=>some ds
 | .bo ds=>some ds
 | .own ds=>some ds
 | _=>none
noncomputable def Sl.d:Sl->Option D
 | .sh d=>some d
 | .bo ds=>some (.lst ds)
 | .own ds=>some (.lst ds)
 | .bd ks ds=>some (.dct ks ds)
 | .od ks ds=>some (.dct ks ds)
 | .bt _ _=>none
 | .ot _ _=>none
 | .no=>none
section
variable{K:Frag}{C:Addr}{Hs H0 H:Hp}{v:V}{s:Sl}{ds:List D}{d:D}
theorem RR.m(r:RR K C Hs H0 H v s)(i:Same H0 H)(e:s.m=some ds):∃l xs,v=.ref l/\H l=some (.lst xs)/\RDL K C H0 xs ds:=by
 cases s with
 | no=>cases e
 | bo es=>cases e;exact r
 | own es=>cases e;obtain⟨l,xs,h1,h2,_,_,h3⟩:=r;exact⟨l,xs,h1,h2,h3⟩
 | bd _ _=>cases e
 | bt _ _=>cases e
 | od _ _=>cases e
 | ot _ _=>cases e
 | sh d=>cases d with
  | lst es=>cases e;obtain⟨l,xs,h1,h2,h3⟩:=RD.lstI r;exact⟨l,xs,h1,i _ _ h2,h3⟩
  | _=>cases e
theorem RR.r(r:RR K C Hs H0 H v s)(i:Same H0 H)(e:s.r=some ds):∃l xs,v=.ref l/\SqL K H l xs/\RDL K C H0 xs ds:=by
 cases s with
 | no=>cases e
 | bo es=>cases e;obtain⟨l,xs,h1,h2,h3⟩:=r;exact⟨l,xs,h1,.of h2,h3⟩
 | own es=>cases e;obtain⟨l,xs,h1,h2,_,_,h3⟩:=r;exact⟨l,xs,h1,.of h2,h3⟩
 | bd _ _=>cases e
 | bt _ _=>cases e
 | od _ _=>cases e
 | ot _ _=>cases e
 | sh d=>cases d with
  | lst es=>cases e;obtain⟨l,xs,h1,h2,h3⟩:=RD.lstI r;exact⟨l,xs,h1,.of (i _ _ h2),h3⟩
  | fz es=>cases e;obtain⟨l,xs,h1,h2,h3⟩:=RD.fzI r;exact⟨l,xs,h1,i.seq h2,h3⟩
  | _=>cases e
theorem RR.q(r:RR K C Hs H0 H v s)(i:Same H0 H)(e:s.q=some ds):∃l xs,v=.ref l/\(SqL K H l xs\/SqT K H l xs)/\RDL K C H0 xs ds:=by
 cases s with
 | no=>cases e
 | bo es=>cases e;obtain⟨l,xs,h1,h2,h3⟩:=r;exact⟨l,xs,h1,.inl (.of h2),h3⟩
 | own es=>cases e;obtain⟨l,xs,h1,h2,_,_,h3⟩:=r;exact⟨l,xs,h1,.inl (.of h2),h3⟩
 | bd _ _=>cases e
 | bt _ _=>cases e
 | od _ _=>cases e
 | ot _ _=>cases e
 | sh d=>cases d with
  | lst es=>cases e;obtain⟨l,xs,h1,h2,h3⟩:=RD.lstI r;exact⟨l,xs,h1,.inl (.of (i _ _ h2)),h3⟩
  | fz es=>cases e;obtain⟨l,xs,h1,h2,h3⟩:=RD.fzI r;exact⟨l,xs,h1,.inl (i.seq h2),h3⟩
  | tup es=>cases e;obtain⟨l,xs,h1,h2,h3⟩:=RD.tupI r;exact⟨l,xs,h1,.inr (i.seqT h2),h3⟩
  | _=>cases e
theorem RR.dat(r:RR K C Hs H0 H v s)(i:Same H0 H)(e:s.d=some d):RD K C H v d:=by
 cases s with
 | no=>cases e
 | bo es=>cases e;obtain⟨l,xs,h1,h2,h3⟩:=r;subst h1;exact .mkL h2 (h3.mono i)
 | own es=>cases e;obtain⟨l,xs,h1,h2,_,_,h3⟩:=r;subst h1;exact .mkL h2 (h3.mono i)
 | bd _ _=>cases e;obtain⟨l,xs,h1,h2,hk,h3⟩:=r;subst h1;exact .mkD h2 hk (h3.mono i)
 | bt _ _=>cases e
 | od _ _=>cases e;obtain⟨l,xs,h1,h2,_,_,hk,h3⟩:=r;subst h1;exact .mkD h2 hk (h3.mono i)
 | ot _ _=>cases e
 | sh d'=>cases e;exact RD.mono i r
theorem U4{p:Addr}{xs:List V}{Q:VK}(i:Same H0 H)(hs:Same Hs H)(hp:H p=none)(r:RDL K C H0 xs ds)(q:∀v H0' H',Step Hs H0 H H0' H'->RR K C Hs H0' H' v (.own ds)->Q v H'):Q (.ref p) (upd H p (.lst xs)) :=
 q _ H0 _ ⟨.new hp,Same.refl _,fun _ _ e=>.inl e,i.trans (.new hp)⟩ ⟨p,xs,rfl,Js,Same.free i hp,Same.free hs hp,r⟩
theorem Jcz{p:Addr}{xs:List V}{Q:VK}(i:Same H0 H)(hs:Same Hs H)(hp:H p=none)(r:RDL K C H0 xs ds)(q:∀v H0' H',Step Hs H0 H H0' H'->RR K C Hs H0' H' v (.sh (.tup ds))->Q v H'):Q (.ref p) (upd H p (.tup xs)):=by
 have h0:H0 p=none:=Same.free i hp;refine q _ (upd H0 p (.tup xs)) _ ⟨.new hp,.new h0,fun a o e=>?_,fun a o e=>?_⟩ ?_
 ·by_cases h:a=p
  ·subst h;exact .inr (.inl (Same.free hs hp))
  ·rw[Jm h] at e;exact .inl e
 ·by_cases h:a=p
  ·subst h;rw[Js] at e ⊢;exact e
  ·rw[Jm h] at e ⊢;exact i a o e
 ·exact RD.mkT (.of Js) (r.mono (.new h0))
end

noncomputable def fI(g:Int->Int->D):Sl->Sl->Option Sl
 | .sh (.int a),.sh (.int b)=>some (.sh (g a b))
 | _,_=>none
noncomputable def fIc(c:Int->Int->Bool)(g:Int->Int->D):Sl->Sl->Option Sl
 | .sh (.int a),.sh (.int b)=>if c a b=true then some (.sh (g a b)) else none
 | _,_=>none
noncomputable def JgX(x y:Sl):Option Sl:=x.m.bind fun a=>y.m.bind fun b=>if a.length+b.length<=sizeLine then some (.own (a++b)) else none
noncomputable def Y3:Sl->Sl->Option Sl
 | .sh (.int a),.sh (.int b)=>some (.sh (.int (a+b)))
 | .sh (.str a),.sh (.str b)=>if a.length+b.length<=sizeLine then some (.sh (.str (a++b))) else none
 | .sh (.tup a),.sh (.tup b)=>if a.isEmpty=false/\b.isEmpty=false/\a.length+b.length<=sizeLine then some (.sh (.tup (a++b))) else none
 | .sh (.lst a),y=>JgX (.sh (.lst a)) y
 | .bo a,y=>JgX (.bo a) y
 | .own a,y=>JgX (.own a) y
 | _,_=>none
noncomputable abbrev UL:=fI fun a b=>.int (a-b)
noncomputable abbrev fLt:=fI fun a b=>.bl (decide (a<b))
noncomputable abbrev fLe:=fI fun a b=>.bl (decide (a<=b))
noncomputable abbrev fGt:=fI fun a b=>.bl (decide (b<a))
noncomputable def WA(a:Int):Bool:=Nat.ble a.natAbs 18446744073709551615
theorem Vu{a:Int}:WA a=true↔-18446744073709551616<a/\a<18446744073709551616:=by unfold WA;rw[Ks];omega
noncomputable def Je2(a:Int):Bool:=Nat.ble a.natAbs 1073741823 && decide (0<a)
theorem smallP_ok{a:Int}:Je2 a=true↔0<a/\a<1073741824:=by unfold Je2;rw[QT,Ks,decide_eq_true_eq];omega
noncomputable abbrev V4:=fIc (fun a b=>WA a || WA b) fun a b=>.int (a*b)
noncomputable abbrev ZU:=fIc (fun _ b=>decide (0<b)) fun a b=>.int (a % b)
noncomputable abbrev Jir:=fIc (fun _ b=>Je2 b) fun a b=>.int (a / b)
noncomputable abbrev JkY:=fIc (fun a b=>decide (0<=b) && Nat.ble b.natAbs 1000000 && WA a) fun a b=>.int (a ^ b.toNat)
noncomputable def JbN:Sl->Option Sl
 | .sh (.int a)=>some (.sh (.int (-a)))
 | _=>none
noncomputable def eqD(d e:D):Option Bool:=if (d.py.canLay0 && e.py.canLay0 && decide (min d.py.depth e.py.depth<=60))=true then some (LA d.py e.py) else none
noncomputable def eqA:D->D->Option Bool
 | .int a,.int b=>some (decide (a=b))
 | .str a,.str b=>some (decide (a=b))
 | .bl a,.bl b=>some (decide (a=b))
 | .non,.non=>some true
 | .non,.int _=>some false
 | .int _,.non=>some false
 | .non,.str _=>some false
 | .str _,.non=>some false
 | .non,.bl _=>some false
 | .bl _,.non=>some false
 | .int _,.str _=>some false
 | .str _,.int _=>some false
 | d,e=>eqD d e
noncomputable def fEq(x y:Sl):Option Sl:=x.d.bind fun d=>y.d.bind fun e=>(eqA d e).map fun k=>.sh (.bl k)
noncomputable def fNe(x y:Sl):Option Sl:=x.d.bind fun d=>y.d.bind fun e=>(eqA d e).map fun k=>.sh (.bl (!k))
noncomputable def D.isNon:D->Bool
 | .non=>true
 | _=>false
noncomputable def fIs:Sl->Sl->Option Sl
 | x,.sh .non=>x.d.map fun d=>.sh (.bl d.isNon)
 | _,_=>none
noncomputable def WP:Sl->Sl->Option Sl
 | x,.sh .non=>x.d.map fun d=>.sh (.bl (!d.isNon))
 | _,_=>none
noncomputable def fIx:Sl->Sl->Option Sl
 | .sh (.str z),.sh (.int i)=>if z.length<=sizeLine then(atI z.cps.toList i).map fun c=>.sh (.str ⟨#[c]⟩) else none
 | x,.sh (.int i)=>x.q.bind fun ds=>(atI ds i).map .sh
 | _,_=>none
section
variable{K:Frag}{C:Addr}
theorem o_I{g:Int->Int->V}{g':Int->Int->D}(h:∀i j H,RD K C H (g i j) (g' i j)):OpS K C (rI0 g) (fI g'):=by
 intro Hs H0 H x y a b c Q i hs ra rb e q;unfold fI at e;split at e
 ·cases e;exact⟨_,_,RD.intI ra,RD.intI rb,q _ _ _ (.refl i) (h _ _ _)⟩
 ·cases e
theorem Jhk{P:Int->Int->Prop}{c':Int->Int->Bool}{g:Int->Int->V}{g':Int->Int->D}(hp:∀i j,c' i j=true->P i j)(h:∀i j H,RD K C H (g i j) (g' i j)):OpS K C (rI P g) (fIc c' g'):=by
 intro Hs H0 H x y a b c Q i hs ra rb e q;unfold fIc at e;split at e
 ·split at e
  ·cases e;exact⟨_,_,RD.intI ra,RD.intI rb,hp _ _ (by assumption),q _ _ _ (.refl i) (h _ _ _)⟩
  ·cases e
 ·cases e
theorem Ui:OpS K C (rI0 fun i j=>.int (i-j)) UL:=o_I fun _ _ _=>.int _
theorem Jjb:OpS K C (rI0 fun i j=>.bl (decide (i<j))) fLt:=o_I fun _ _ _=>.bl _
theorem Jqj:OpS K C (rI0 fun i j=>.bl (decide (i<=j))) fLe:=o_I fun _ _ _=>.bl _
theorem Jhl:OpS K C (rI0 fun i j=>.bl (decide (j<i))) fGt:=o_I fun _ _ _=>.bl _
theorem Vv:OpS K C (rI CMul fun i j=>.int (i*j)) V4:=Jhk (fun i j h=>by simp only[Lc,Vu] at h;exact h) fun _ _ _=>.int _
theorem Wu:OpS K C (rI (fun _ j=>0<j) fun i j=>.int (i % j)) ZU:=Jhk (fun i j h=>by simpa using h) fun _ _ _=>.int _
theorem Ji9:OpS K C (rI Jo0 fun i j=>.int (i / j)) Jir:=Jhk (fun i j h=>smallP_ok.mp h) fun _ _ _=>.int _
theorem JmO:OpS K C (rI Jo1 fun i j=>.int (i ^ j.toNat)) JkY:=Jhk (fun i j h=>by simp only[QT,decide_eq_true_eq,Ks,Vu] at h;refine⟨h.1.1,by omega,?_⟩;show i.natAbs<18446744073709551616;omega) fun _ _ _=>.int _
theorem JgB:UnS K C (rU fun i=>.int (-i)) JbN:=by
 intro Hs H0 H x a c Q i hs ra e q;unfold JbN at e;split at e
 ·cases e;exact⟨_,RD.intI ra,q _ _ _ (.refl i) (RD.int _)⟩
 ·cases e
noncomputable def JjE(K:Frag):R2:=fun x y H Q=>Jga K x y H Q\/JmS K x y H Q
theorem JP{X:Cx}(hK:X.K=K):OpR X (binaryOp .Add) (JjE K):=(Jf2 hK).or (hK▸Jlv)
theorem Yw:OpS K C (JjE K) Y3:=by
 intro Hs H0 H x y a b c Q i hs ra rb e q
 have cat:∀{a b:Sl},RR K C Hs H0 H x a->RR K C Hs H0 H y b->JgX a b=some c->JjE K x y H Q:=by
  intro a b ra rb e;obtain⟨xs,e1,e⟩:=bind_some e;obtain⟨ys,e2,e⟩:=bind_some e;split at e
  ·next hz=>cases e;obtain⟨l,us,rfl,h1,r1⟩:=ra.m i e1;obtain⟨l',ws,rfl,h2,r2⟩:=rb.m i e2;exact .inl (.inr (.inr ⟨l,l',us,ws,rfl,rfl,h1,h2,by rw[r1.1,r2.1];exact hz,fun p hp=>U4 i hs hp (r1.append r2) q⟩))
  ·cases e
 unfold Y3 at e;split at e
 ·cases e;exact .inl (.inl ⟨_,_,RD.intI ra,RD.intI rb,q _ _ _ (.refl i) (RD.int _)⟩)
 ·split at e
  ·cases e;exact .inl (.inr (.inl ⟨_,_,RD.strI ra,RD.strI rb,by assumption,q _ _ _ (.refl i) (RD.str _)⟩))
  ·cases e
 ·split at e
  ·next hz =>
   cases e;obtain⟨l,us,rfl,h1,r1⟩:=RD.tupI ra;obtain⟨l',ws,rfl,h2,r2⟩:=RD.tupI rb;have n1:us≠[]:=by rintro rfl;have:=r1.1;have z:=hz.1;simp at this;rw[QE this.symm] at z;cases z
   have n2:ws≠[]:=by rintro rfl;have:=r2.1;have z:=hz.2.1;simp at this;rw[QE this.symm] at z;cases z
   exact .inr ⟨l,l',us,ws,rfl,rfl,i.seqT h1,i.seqT h2,n1,by rw[r1.1,r2.1];exact hz.2.2,fun z=>absurd z n2,fun _ p hp=>Jcz i hs hp (r1.append r2) q⟩
  ·cases e
 ·exact cat ra rb e
 ·exact cat ra rb e
 ·exact cat ra rb e
 ·cases e
theorem Jc0{d e:D}{k:Bool}(h:eqD d e=some k):d.py.canLay0=true/\e.py.canLay0=true/\min d.py.depth e.py.depth<=60/\k=LA d.py e.py:=by
 unfold eqD at h;split at h
 ·next z=>cases h;simp only[QT,decide_eq_true_eq] at z;exact⟨z.1.1,z.1.2,z.2,rfl⟩
 ·cases h
theorem map_some{α β:Type}{x:Option α}{f:α->β}{b:β}(e:x.map f=some b):∃a,x=some a/\f a=b:=by
 cases x with
 | none=>cases e
 | some a=>cases e;exact⟨a,rfl,rfl⟩
theorem JcZ{H:Hp}{x y:V}{d e:D}{k:Bool}(h:eqA d e=some k)(rx:RD K C H x d)(ry:RD K C H y e):(JoH x y=true/\decide (x=y)=k)\/eqD d e=some k:=by
 unfold eqA at h;split at h
 ·cases h;rw[RD.intI rx,RD.intI ry];exact .inl ⟨rfl,by simp⟩
 ·cases h;rw[RD.strI rx,RD.strI ry];exact .inl ⟨rfl,by simp⟩
 ·cases h;rw[RD.blI rx,RD.blI ry];exact .inl ⟨rfl,by simp⟩
 ·cases h;rw[RD.nonI rx,RD.nonI ry];exact .inl ⟨rfl,by simp⟩
 ·cases h;rw[RD.nonI rx,RD.intI ry];exact .inl ⟨rfl,by simp⟩
 ·cases h;rw[RD.intI rx,RD.nonI ry];exact .inl ⟨rfl,by simp⟩
 ·cases h;rw[RD.nonI rx,RD.strI ry];exact .inl ⟨rfl,by simp⟩
 ·cases h;rw[RD.strI rx,RD.nonI ry];exact .inl ⟨rfl,by simp⟩
 ·cases h;rw[RD.nonI rx,RD.blI ry];exact .inl ⟨rfl,by simp⟩
 ·cases h;rw[RD.blI rx,RD.nonI ry];exact .inl ⟨rfl,by simp⟩
 ·cases h;rw[RD.intI rx,RD.strI ry];exact .inl ⟨rfl,by simp⟩
 ·cases h;rw[RD.strI rx,RD.intI ry];exact .inl ⟨rfl,by simp⟩
 ·exact .inr h
theorem Jlq:OpS K C (Joj K) fEq:=by
 intro Hs H0 H x y a b c Q i hs ra rb e q;obtain⟨d,e1,e⟩:=bind_some e;obtain⟨d',e2,e⟩:=bind_some e;obtain⟨k,e3,rfl⟩:=map_some e;have r1:=ra.dat i e1;have r2:=rb.dat i e2;rcases JcZ e3 r1 r2 with ⟨h1,h2⟩|h
 ·exact .inl ⟨h1,by rw[h2];exact q _ _ _ (.refl i) (RD.bl _)⟩
 ·obtain⟨h1,h2,h3,rfl⟩:=Jc0 h;exact .inr ⟨_,_,r1.rep h1,r2.rep h2,h1,h2,h3,q _ _ _ (.refl i) (RD.bl _)⟩
theorem Jjd:OpS K C (Jom K) fNe:=by
 intro Hs H0 H x y a b c Q i hs ra rb e q;obtain⟨d,e1,e⟩:=bind_some e;obtain⟨d',e2,e⟩:=bind_some e;obtain⟨k,e3,rfl⟩:=map_some e;have r1:=ra.dat i e1;have r2:=rb.dat i e2;rcases JcZ e3 r1 r2 with ⟨h1,h2⟩|h
 ·exact .inl ⟨h1,by rw[h2];exact q _ _ _ (.refl i) (RD.bl _)⟩
 ·obtain⟨h1,h2,h3,rfl⟩:=Jc0 h;exact .inr ⟨_,_,r1.rep h1,r2.rep h2,h1,h2,h3,q _ _ _ (.refl i) (RD.bl _)⟩
theorem Jda{H:Hp}{x:V}{d:D}(r:RD K C H x d):decide (x=.non)=d.isNon:=by cases r <;> simp[D.isNon]
theorem JpA:OpS K C JpI fIs:=by
 intro Hs H0 H x y a b c Q i hs ra rb e q;unfold fIs at e;split at e
 ·obtain⟨d,e1,rfl⟩:=map_some e;refine⟨RD.nonI rb,?_⟩;rw[Jda (ra.dat i e1)];exact q _ _ _ (.refl i) (RD.bl _)
 ·cases e
theorem JfZ:OpS K C JjI WP:=by
 intro Hs H0 H x y a b c Q i hs ra rb e q;unfold WP at e;split at e
 ·obtain⟨d,e1,rfl⟩:=map_some e;refine⟨RD.nonI rb,?_⟩;rw[Jda (ra.dat i e1)];exact q _ _ _ (.refl i) (RD.bl _)
 ·cases e
theorem RDL.atI{H:Hp}{xs:List V}{ds:List D}{i:Int}{d:D}(r:RDL K C H xs ds)(e:L2.atI ds i=some d):∃x,L2.atI xs i=some x/\RD K C H x d:=by unfold L2.atI at e ⊢;rw[r.1];obtain⟨j,e1,e⟩:=bind_some e;obtain⟨x,e2,r2⟩:=r.get e;exact⟨x,by rw[e1];exact e2,r2⟩
theorem YR:OpS K C (rIx K) fIx:=by
 intro Hs H0 H x y a b c Q i hs ra rb e q;unfold fIx at e;split at e
 ·split at e
  ·obtain⟨z,e1,rfl⟩:=map_some e;rw[RD.strI ra,RD.intI rb];exact Jou (by assumption) e1 (q _ _ _ (.refl i) (RD.str _))
  ·cases e
 ·obtain⟨ds,e1,e⟩:=bind_some e;obtain⟨d,e2,rfl⟩:=map_some e;obtain⟨l,xs,rfl,h,r⟩:=ra.q i e1;obtain⟨v,e3,r3⟩:=r.atI e2;rw[RD.intI rb];rcases h with h|h
  ·exact Jot h e3 (q _ _ _ (.refl i) r3)
  ·exact Jov h e3 (q _ _ _ (.refl i) r3)
 ·cases e
end
end LE

namespace LE
open PySem L2 LR

noncomputable def ZV:List Sl->Option (List D)
 | []=>some []
 | s::ss=>s.frz.bind fun d=>(ZV ss).bind fun ds=>some (d::ds)
noncomputable def Uh(as:En->Option (List Sl)):Ev:=fun E=>(as E).bind fun ss=>(ZV ss).bind fun ds=>if ds.length<=100 then some (.sh (.tup ds)) else none
noncomputable def Vr(as:En->Option (List Sl)):Ev:=fun E=>(as E).bind fun ss=>(ZV ss).bind fun ds=>if ds.length<=100 then some (.own ds) else none
section
variable{K:Frag}{C:Addr}{t:TA}{ev:En->Option (List Sl)}{Hs H0 H:Hp}{ta te:TE}{ea:Ev}
theorem RRL.frz{vs:List V}{ss:List Sl}(i:Same H0 H)(r:RRL K C Hs H0 H vs ss):∀{ds:List D},ZV ss=some ds->RDL K C (J1 Hs H0 H) vs ds:=by
 induction r with
 | nil=>intro ds e;cases e;exact .nil
 | cons h _ ih=>intro ds e;obtain⟨d,e1,e⟩:=bind_some e;obtain⟨ds',e2,e⟩:=bind_some e;cases e;exact .cons (h.frz i e1) (ih e2)
theorem YY(ha:SA K C t ev):SE K C (Jkb t) (Uh ev):=by
 intro B H0 H σ E c Q I e q;obtain⟨ss,e1,e⟩:=bind_some e;obtain⟨ds,e2,e⟩:=bind_some e;split at e
 ·next hl =>
  cases e;refine ha B H0 H σ E ss _ I e1 fun vs H1 H1' s1 r1=>?_
  have f:=JT (Hs:=H) s1.i
  have r2:=r1.frz s1.i e2;exact⟨by rw[r2.1];exact Gi hl (by decide),fun p hp=>Jcz f.i s1.h hp r2 fun v H2 H2' s2 r2=>q v H2 H2' ((s1.comp f fun _ z=>z).comp s2 fun _ z=>z) r2⟩
 ·cases e
theorem UC(ha:SA K C t ev):SE K C (Jmk t) (Vr ev):=by
 intro B H0 H σ E c Q I e q;obtain⟨ss,e1,e⟩:=bind_some e;obtain⟨ds,e2,e⟩:=bind_some e;split at e
 ·next hl =>
  cases e;refine ha B H0 H σ E ss _ I e1 fun vs H1 H1' s1 r1=>?_
  have f:=JT (Hs:=H) s1.i
  have r2:=r1.frz s1.i e2;exact⟨by rw[r2.1];exact Gi hl (by decide),fun p hp=>U4 f.i s1.h hp r2 fun v H2 H2' s2 r2=>q v H2 H2' ((s1.comp f fun _ z=>z).comp s2 fun _ z=>z) r2⟩
 ·cases e

noncomputable def Sl.pass:Sl->Option Sl
 | .sh d=>some (.sh d)
 | .own ds=>some (.sh (.lst ds))
 | .bo ds=>some (.bo ds)
 | .bd ks ds=>some (.bd ks ds)
 | .od ks ds=>some (.sh (.dct ks ds))
 | .bt _ _=>none
 | .ot _ _=>none
 | .no=>none
end
noncomputable def Zx:List Sl->Option (List Sl)
 | []=>some []
 | s::ss=>s.pass.bind fun d=>(Zx ss).bind fun ds=>some (d::ds)
noncomputable def spE(K:Frag)(C:Addr)(n:Nat)(f:List Sl->Option Sl):Sp:=fun vs H Q _=>∃H0 as r,Same H0 H/\RRL K C H H0 H vs as/\as.all (fun s=>!YN s)=true/\as.length=n/\f as=some r ∧
 ∀v H0' H',Step H H0 H H0' H'->RR K C H H0' H' v r->Q v H'
noncomputable def eU(n:Nat)(f:List Sl->Option Sl)(as:En->Option (List Sl)):Ev:=fun E=>(as E).bind fun ss=>(Zx ss).bind fun bs=>if bs.length=n then f bs else none
section
variable{K:Frag}{C:Addr}{t:TA}{ev:En->Option (List Sl)}{Hs H0 H:Hp}{ta te:TE}{ea:Ev}
theorem RRL.len{vs:List V}{ss:List Sl}(r:RRL K C Hs H0 H vs ss):vs.length=ss.length:=by
 induction r with
 | nil=>rfl
 | cons _ _ ih=>simp[ih]
theorem JJ{n:Nat}{f:List Sl->Option Sl}{vs:List V}{Q:VK}{E:XK}(h:spE K C n f vs H Q E):vs.length=n:=by obtain⟨H0,as,r,_,h1,_,h2,_⟩:=h;rw[h1.len];exact h2
theorem RR.pass{v:V}{s s':Sl}(i:Same H0 H)(r:RR K C Hs H0 H v s)(e:s.pass=some s'):RR K C H (J1 Hs H0 H) H v s'/\YN s'=false:=by
 have st:Step Hs H0 H (J1 Hs H0 H) H:=JT i
 cases s with
 | no=>cases e
 | sh d=>cases e;exact⟨RD.mono st.z r,rfl⟩
 | own ds=>cases e;exact⟨RR.frz (s:=.own ds) i r rfl,rfl⟩
 | bo ds=>cases e;obtain⟨l,xs,h1,h2,h3⟩:=r;exact⟨⟨l,xs,h1,h2,h3.mono st.z⟩,rfl⟩
 | od ks ds=>cases e;exact⟨RR.frz (s:=.od ks ds) i r rfl,rfl⟩
 | ot ks ds=>cases e
 | bd ks ds=>cases e;obtain⟨l,xs,h1,h2,hk,h3⟩:=r;exact⟨⟨l,xs,h1,h2,hk,h3.mono st.z⟩,rfl⟩
 | bt ks ds=>cases e
theorem RRL.pass{vs:List V}{ss:List Sl}(i:Same H0 H)(r:RRL K C Hs H0 H vs ss):∀{bs:List Sl},Zx ss=some bs->RRL K C H (J1 Hs H0 H) H vs bs/\bs.all (fun s=>!YN s)=true:=by
 induction r with
 | nil=>intro bs e;cases e;exact⟨.nil,rfl⟩
 | cons h _ ih=>intro bs e;obtain⟨d,e1,e⟩:=bind_some e;obtain⟨ds',e2,e⟩:=bind_some e;cases e;obtain⟨h1,h2⟩:=h.pass i e1;obtain⟨h3,h4⟩:=ih e2;exact⟨.cons h1 h3,by rw[List.all_cons,h2,h4];rfl⟩
theorem Jx{n:Nat}{f:List Sl->Option Sl}{X:XK}(ha:SA K C t ev):SE K C (Jgo (spE K C n f) [] X t) (eU n f ev):=by
 intro B H0 H σ E c Q I e q;obtain⟨ss,e1,e⟩:=bind_some e;obtain⟨bs,e2,e⟩:=bind_some e;split at e
 ·next hl=>refine Jgd (ha B H0 H σ E ss _ I e1 fun vs H1 H1' s1 r1=>?_);obtain⟨h1,h2⟩:=r1.pass s1.i e2;have f:=JT (Hs:=H) s1.i;exact⟨_,bs,c,f.i,h1,h2,hl,e,fun v H2 H2' s2 r2=>q v H2 H2' ((s1.comp f fun _ z=>z).comp s2 fun a z=>Same.free s1.h z) (r2.weak fun a z=>Same.free s1.h z)⟩
 ·cases e

noncomputable def prE(p:Pr):D:=.tup [.int p.1,.int p.2]
noncomputable def JoU:D->Option Pr
 | .tup [.int a,.int b]=>some (a,b)
 | _=>none
noncomputable def JdY:List D->Option (List Pr)
 | []=>some []
 | d::ds=>(JoU d).bind fun p=>(JdY ds).bind fun ps=>some (p::ps)
end
theorem Jbt:∀ps:List Pr,JdY (ps.map prE)=some ps
 | []=>rfl
 | p::ps=>by rw[Qe,JdY,Jbt ps];rfl
theorem JhI{d:D}{p:Pr}(e:JoU d=some p):d=prE p:=by
 unfold JoU at e;split at e
 ·cases e;rfl
 ·cases e
theorem JaG:∀{ds:List D} {ps:List Pr},JdY ds=some ps->ds=ps.map prE
 | [],_,e=>by cases e;rfl
 | d::ds,_,e=>by obtain⟨p,e1,e⟩:=bind_some e;obtain⟨ps,e2,e⟩:=bind_some e;cases e;rw[JhI e1,JaG e2];rfl
noncomputable def Zc:List Pr->Bool
 | []=>true
 | [p]=>decide (1<=p.2)
 | p::q::r=>decide (1<=p.2) && decide (p.1+p.2<q.1) && Zc (q::r)
theorem ZW:∀{ps:List Pr},Zc ps=true->Good ps
 | [],_=>.nil
 | [p],h=>⟨fun i q e=>by
  cases i with
  | zero=>simp at e;subst e;simpa [Zc] using h
  | succ i=>simp at e,fun i q r e1 e2=>by simp at e2⟩
 | p::q::r,h=>by
  simp only[Zc,QT,decide_eq_true_eq] at h;have g:=ZW h.2;refine⟨fun i x e=>?_,fun i x y e1 e2=>?_⟩
  ·cases i with
   | zero=>simp at e;subst e;exact h.1.1
   | succ i=>exact g.one i x (by simpa using e)
  ·cases i with
   | zero=>simp at e1 e2;subst e1 e2;exact h.1.2
   | succ i=>exact g.gap i x y (by simpa using e1) (by simpa using e2)
theorem ZX:∀{ps:List Pr},Good ps->Zc ps=true
 | [],_=>rfl
 | [p],g=>by simpa [Zc] using g.one 0 p rfl
 | p::q::r,g=>by
  have g':Good (q::r):=⟨fun i x e=>g.one (i+1) x (by simpa using e),fun i x y e1 e2=>g.gap (i+1) x y (by simpa using e1) (by simpa using e2)⟩
  simp only[Zc,QT,decide_eq_true_eq];exact⟨⟨g.one 0 p rfl,g.gap 0 p q rfl rfl⟩,ZX g'⟩
noncomputable def JaO:List Sl->Option Sl
 | [s]=>s.q.bind fun ds=>(JdY ds).bind fun ps=>if (Zc ps && decide (ps.length<=30))=true then some (.sh (.row ds)) else none
 | _=>none
noncomputable def UV:Sl->Option Sl
 | .sh (.row ds)=>some (.sh (.tup ds))
 | _=>none
section
variable{K:Frag}{C:Addr}{t:TA}{ev:En->Option (List Sl)}{Hs H0 H:Hp}{ta te:TE}{ea:Ev}
theorem Jof{xs:List V}{ps:List Pr}(r:RDL K C H xs (ps.map prE)):Prs K H xs ps:=by
 refine⟨by rw[r.1];simp,fun i x d h1 h2=>?_⟩;rw[Qq] at h2
 cases e:ps[i]? with
 | none=>rw[e] at h2;cases h2
 | some p=>rw[e] at h2;cases h2;have h:=r.2 i x (prE p) h1 (by rw[Qq,e];rfl);exact RD.rep h rfl
theorem JnV{xs:List V}{ps:List Pr}(i:Same H0 H)(r:Prs K H xs ps):RDL K C (J1 Hs H0 H) xs (ps.map prE):=by refine⟨by rw[r.len];simp,fun j x d h1 h2=>?_⟩;obtain⟨p,a,e1,e2,e3⟩:=r.at h1;rw[Qq,e1] at h2;cases h2;subst e2;exact .mkT (JfG i e3) (.cons (.int _) (.cons (.int _) .nil))
theorem JdK{X:XK}(ha:SA K C t ev):SE K C (Jgq C (VF C K) [] X t) (eF JaO ev):=by
 intro B H0 H σ E c Q I e q;obtain⟨ss,e1,e⟩:=bind_some e;refine LR.Jgf (ha B H0 H σ E ss _ I e1 fun vs H1 H1' s1 r1=>?_);unfold JaO at e;split at e
 ·next s =>
  cases r1 with
  | cons r1 r1' =>
   cases r1';obtain⟨ds,e2,e⟩:=bind_some e;obtain⟨ps,e3,e⟩:=bind_some e;split at e
   ·next hg =>
    cases e;simp only[QT,decide_eq_true_eq] at hg;have e4:=JaG e3;subst e4;obtain⟨l,xs,rfl,hq,r⟩:=r1.q s1.i e2;refine Jox ⟨l,xs,rfl,hq,Jof (r.mono s1.i)⟩ (ZW hg.1) hg.2 fun x H2 nx s2 R=>?_
    obtain⟨x',dx,t',ts,ex,hx,ht,hp⟩:=R;cases ex;have i2:Same H1 H2:=s1.i.trans s2;have f:=JT (Hs:=H) i2;refine q _ (J1 H H1 H2) H2 ⟨s1.h.trans s2,s1.z.trans f.z,fun a o e=>(f.n a o e).elim (fun z=>s1.n a o z) .inr,f.i⟩ ?_;have ts':=JnV (Hs:=H) (C:=C) i2 hp;exact .row (JbQ i2 (Same.free s1.h nx) hx) (JfG i2 (.of ht)) ts'.1 ts'.2
   ·cases e
 ·cases e
theorem Um{K:Frag}{C:Addr}{ta:TE}{ea:Ev}(T:RowC K C)(ha:SE K C ta ea):SE K C (JoM K ta "stretches") (e1 UV ea):=by
 intro B H0 H σ E c Q I e q;obtain⟨a,e1,e⟩:=bind_some e;refine ha B H0 H σ E a _ I e1 fun x H1 H1' s1 r1=>?_
 unfold UV at e;split at e
 ·cases e;obtain⟨x',dx,t',ts,rfl,hx,ht,hp⟩:=RD.rowI r1;exact⟨x',C,dx,_,_,rfl,s1.i _ _ hx,T.cl,T.ns,JhC t',q _ _ _ s1 (RD.mkT ht hp)⟩
 ·cases e

noncomputable def ints?:List D->Option (List Int)
 | []=>some []
 | .int i::ds=>(ints? ds).map (i::·)
 | _::_=>none
noncomputable def bls?:List D->Option (List Bool)
 | []=>some []
 | .bl i::ds=>(bls? ds).map (i::·)
 | _::_=>none
end
theorem Z3:∀ns:List Int,ints? (ns.map .int)=some ns
 | []=>rfl
 | n::ns=>by rw[Qe,ints?,Z3 ns];rfl
theorem Jfk:∀ns:List Bool,bls? (ns.map .bl)=some ns
 | []=>rfl
 | n::ns=>by rw[Qe,bls?,Jfk ns];rfl
theorem UN:∀{ds:List D} {ns:List Int},ints? ds=some ns->ds=ns.map .int
 | [],_,e=>by cases e;rfl
 | .int i::ds,_,e=>by obtain⟨ns,e1,e2⟩:=map_some (show(ints? ds).map (i::·)=_ from e);rw[<- e2,UN e1];rfl
 | .non::_,_,e|.bl _::_,_,e|.str _::_,_,e|.tup _::_,_,e|.lst _::_,_,e|.fz _::_,_,e|.row _::_,_,e=>by cases e
theorem JcK:∀{ds:List D} {ns:List Bool},bls? ds=some ns->ds=ns.map .bl
 | [],_,e=>by cases e;rfl
 | .bl i::ds,_,e=>by obtain⟨ns,e1,e2⟩:=map_some (show(bls? ds).map (i::·)=_ from e);rw[<- e2,JcK e1];rfl
 | .non::_,_,e|.int _::_,_,e|.str _::_,_,e|.tup _::_,_,e|.lst _::_,_,e|.fz _::_,_,e|.row _::_,_,e=>by cases e
noncomputable def JgY:List Sl->Option Sl
 | [.sh (.str x)]=>if x.length<=sizeLine then some (.sh (.int x.length)) else none
 | [s]=>s.q.map fun ds=>.sh (.int ds.length)
 | _=>none
noncomputable def JbO:List Sl->Option Sl
 | [s]=>s.q.bind fun ds=>(ints? ds).map fun ns=>.sh (.int ns.sum)
 | _=>none
noncomputable def JkQ:List Sl->Option Sl
 | [s]=>s.q.bind fun ds=>(bls? ds).map fun ns=>.sh (.bl (ns.any id))
 | _=>none
noncomputable def JkU:List Sl->Option Sl
 | [.sh (.int a),.sh (.int b)]=>some (.sh (.int (max a b)))
 | _=>none
noncomputable def Jeq:List Sl->Option Sl
 | [.sh (.int a),.sh (.int b)]=>some (.sh (.int (min a b)))
 | _=>none
section
variable{K:Frag}{C:Addr}{Hs H0 H:Hp}
theorem RRL.one{vs:List V}{s:Sl}(r:RRL K C Hs H0 H vs [s]):∃v,vs=[v]/\RR K C Hs H0 H v s:=by
 cases r with
 | cons h t=>cases t;exact⟨_,rfl,h⟩
theorem RRL.two{vs:List V}{s t:Sl}(r:RRL K C Hs H0 H vs [s,t]):∃v w,vs=[v,w]/\RR K C Hs H0 H v s/\RR K C Hs H0 H w t:=by
 cases r with
 | cons h r=>cases r with
  | cons h' r=>cases r;exact⟨_,_,rfl,h,h'⟩
theorem Jmy:Za K C (JeP K) JgY:=by
 intro Hs H0 H xs as c Q i hs r e q;unfold JgY at e;split at e
 ·split at e
  ·cases e;obtain⟨v,rfl,r0⟩:=r.one;rw[RD.strI r0];exact JlT (by assumption) (q _ _ _ (.refl i) (RD.int _))
  ·cases e
 ·obtain⟨v,rfl,r0⟩:=r.one;obtain⟨ds,e1,rfl⟩:=map_some e;obtain⟨l,xs,rfl,h,r1⟩:=r0.q i e1;have z:=q (.int ds.length) _ _ (.refl i) (RD.int _);rw[<- r1.1] at z;exact JdI h z
 ·cases e
theorem Ja4:Za K C (Joo K) JbO:=by
 intro Hs H0 H xs as c Q i hs r e q;unfold JbO at e;split at e
 ·obtain⟨v,rfl,r0⟩:=r.one;obtain⟨ds,e1,e⟩:=bind_some e;obtain⟨ns,e2,rfl⟩:=map_some e;obtain⟨l,ys,rfl,h,r1⟩:=r0.q i e1;rw[UN e2] at r1;have:=r1.ints;subst this;exact⟨l,ns,rfl,h,q _ _ _ (.refl i) (RD.int _)⟩
 ·cases e
theorem Jo9:Za K C (Joi K) JkQ:=by
 intro Hs H0 H xs as c Q i hs r e q;unfold JkQ at e;split at e
 ·obtain⟨v,rfl,r0⟩:=r.one;obtain⟨ds,e1,e⟩:=bind_some e;obtain⟨ns,e2,rfl⟩:=map_some e;obtain⟨l,ys,rfl,h,r1⟩:=r0.q i e1;rw[JcK e2] at r1;have:=r1.bls;subst this;exact⟨l,ns,rfl,h,q _ _ _ (.refl i) (RD.bl _)⟩
 ·cases e
theorem Jpa:Za K C Jok JkU:=by
 intro Hs H0 H xs as c Q i hs r e q;unfold JkU at e;split at e
 ·cases e;obtain⟨v,w,rfl,r1,r2⟩:=r.two;rw[RD.intI r1,RD.intI r2];exact JjP (q _ _ _ (.refl i) (RD.int _))
 ·cases e
theorem Jh3:Za K C Jol Jeq:=by
 intro Hs H0 H xs as c Q i hs r e q;unfold Jeq at e;split at e
 ·cases e;obtain⟨v,w,rfl,r1,r2⟩:=r.two;rw[RD.intI r1,RD.intI r2];exact JjQ (q _ _ _ (.refl i) (RD.int _))
 ·cases e
end

noncomputable def JoS:Sl->Option Bool
 | .sh .non=>some false
 | .sh (.bl b)=>some b
 | .sh (.int i)=>some (i != 0)
 | .sh (.str y)=>if y.length<=sizeLine then some ((y.length:Int) != 0) else none
 | s=>s.q.map fun ds=>!ds.isEmpty
noncomputable def tTru?(a:Ev):En->Option Bool:=fun E=>(a E).bind JoS
noncomputable def tyN:D->Option String
 | .non=>some "NoneType"
 | .bl _=>some "bool"
 | .int _=>some "int"
 | .str _=>some "str"
 | .tup _=>some "tuple"
 | .lst _=>some "list"
 | .fz _=>some "list"
 | .row _=>none
 | .dct _ _=>none
 | .dfz _ _=>none
 | .exc _=>none
noncomputable def JnE(t n:String):Bool:=t == n || (t == "bool" && n == "int")
noncomputable def Jil(n:String)(a:Ev):Ev:=fun E=>(a E).bind fun s=>s.d.bind fun d=>(tyN d).map fun t=>.sh (.bl (JnE t n))
section
variable{K:Frag}{C:Addr}{Hs H0 H:Hp}{te:TE}{ea:Ev}
theorem RDL.empty{xs:List V}{ds:List D}(r:RDL K C H xs ds):xs.isEmpty=ds.isEmpty:=by cases xs <;> cases ds <;> first|rfl|(have:=r.1;simp at this)
theorem Zi(ha:SE K C te ea):ST K C (JoP K te) (tTru? ea):=by
 intro B H0 H σ E k Q I e q;obtain⟨a,e1,e⟩:=bind_some e;refine ha B H0 H σ E a _ I e1 fun x H1 H1' s1 r1=>?_
 have seq:∀{a:Sl},RR K C H H1 H1' x a->a.q.map (fun ds=>!ds.isEmpty)=some k->∃k',Jkw K x H1' k'/\Q k' H1':=fun {a} r1 e=>by
  obtain⟨ds,e2,rfl⟩:=map_some e;obtain⟨l,xs,rfl,h,r⟩:=r1.q s1.i e2;have z:=q _ _ s1;rw[<- r.empty] at z;rcases h with h|h
  ·exact⟨_,.inl ⟨xs,h,rfl⟩,z⟩
  ·exact⟨_,.inr (.inl ⟨xs,h,rfl⟩),z⟩
 unfold JoS at e;split at e
 ·cases e;rw[RD.nonI r1];exact⟨_,rfl,q _ _ s1⟩
 ·cases e;rw[RD.blI r1];exact⟨_,rfl,q _ _ s1⟩
 ·cases e;rw[RD.intI r1];exact⟨_,rfl,q _ _ s1⟩
 ·split at e
  ·cases e;rw[RD.strI r1];exact⟨_,⟨by assumption,rfl⟩,q _ _ s1⟩
  ·cases e
 ·exact seq r1 e
theorem RD.ty{x:V}{d:D}{t:String}(r:RD K C H x d)(e:tyN d=some t):TyS K H x (.type t):=by
 cases r with
 | non=>cases e;exact .of .non
 | bl b=>cases e;exact .of (.bl b)
 | int i=>cases e;exact .of (.int i)
 | str i=>cases e;exact .of (.str i)
 | tup h _ _=>cases e;exact .sqT h
 | lst h _ _=>cases e;exact .sqL (.of h)
 | fz h _ _=>cases e;exact .sqL h
 | row _ _ _ _=>cases e
 | dct _ _ _ _=>cases e
 | dfz _ _ _ _=>cases e
 | exc _ _=>cases e
noncomputable def Jmw(K:Frag)(n:String):Prop:=∀t∈["NoneType","bool","int","str","tuple","list"],kitOne K (.type t) (.type n)=some (JnE t n)
theorem Jmm{d:D}{t:String}(e:tyN d=some t):t∈["NoneType","bool","int","str","tuple","list"]:=by cases d <;> cases e <;> simp
theorem JjX{n:String}(hk:Jmw K n)(ha:SE K C te ea):SE K C (tCB (JlM K) (Vn te (Vn (tC (.ty n)) WD))) (Jil n ea):=by
 intro B H0 H σ E c Q I e q;obtain⟨a,e1,e⟩:=bind_some e;obtain⟨d,e2,e⟩:=bind_some e;obtain⟨t,e3,rfl⟩:=map_some e;refine ha B H0 H σ E a _ I e1 fun x H1 H1' s1 r1=>?_
 exact Jos (RD.ty (r1.dat s1.i e2) e3) (hk t (Jmm e3)) (q _ _ _ s1 (RD.bl _))
end
theorem Jac{K:Frag}:Jmw K "list":=fun t ht=>by simp only[Qh,Ga,or_false] at ht;rcases ht with rfl | rfl | rfl | rfl | rfl | rfl <;> kernel_rfl
end LE

namespace LE
open PySem L2 LR

mutual
inductive Pt where
 | nm (i:Nat)
 | tp (l:Pts)
inductive Pts where
 | nil
 | cons (p:Pt) (l:Pts)
end
mutual
noncomputable def Pt.bind:Pt->D->En->Option En
 | .nm i,d,E=>if i<E.length then some (E.set i (.sh d)) else none
 | .tp l,.tup ds,E=>l.bind ds E
 | .tp _,_,_=>none
noncomputable def Pts.bind:Pts->List D->En->Option En
 | .nil,[],E=>some E
 | .cons p l,d::ds,E=>(p.bind d E).bind fun E'=>l.bind ds E'
 | _,_,_=>none
end
mutual
noncomputable def Pt.slots:Pt->List Nat
 | .nm i=>[i]
 | .tp l=>l.slots
noncomputable def Pts.slots:Pts->List Nat
 | .nil=>[]
 | .cons p l=>p.slots++l.slots
end
mutual
theorem Pt.keep:∀{p:Pt} {d:D} {E E':En},p.bind d E=some E'->E'.length=E.length/\∀i,i∉p.slots->E'[i]?=E[i]?
 | .nm i,d,E,E',e=>by
  unfold Pt.bind at e;split at e
  ·cases e;refine⟨by simp,fun j hj=>?_⟩;rw[QX,if_neg];intro z;exact hj (by simp[Pt.slots,z])
  ·cases e
 | .tp l,d,E,E',e=>by
  cases d with
  | tup ds=>exact Pts.keep (p:=l) (ds:=ds) (by simpa [Pt.bind] using e)
  | _=>simp[Pt.bind] at e
theorem Pts.keep:∀{p:Pts} {ds:List D} {E E':En},p.bind ds E=some E'->E'.length=E.length/\∀i,i∉p.slots->E'[i]?=E[i]?
 | .nil,[],E,E',e=>by simp[Pts.bind] at e;subst e;exact⟨rfl,fun _ _=>rfl⟩
 | .nil,_::_,_,_,e=>by simp[Pts.bind] at e
 | .cons _ _,[],_,_,e=>by simp[Pts.bind] at e
 | .cons p l,d::ds,E,E',e=>by rw[Pts.bind] at e;obtain⟨E1,e1,e2⟩:=bind_some e;obtain⟨h1,h2⟩:=Pt.keep e1;obtain⟨h3,h4⟩:=Pts.keep e2;refine⟨h3.trans h1,fun i hi=>?_⟩;simp[Pts.slots] at hi;rw[h4 i hi.2,h2 i hi.1]
end
section
variable(K:Frag)(C:Addr)
noncomputable def SG(g:TG)(p:Pt):Prop:=∀(B H0 H:Hp) (σ:St) (E E':En) (x:V) (d:D) (Q:St->Hp->Prop),EnvR K C B H0 H σ E->RD K C H0 x d->p.bind d E=some E'->(∀σ',EnvR K C B H0 H σ' E'->Q σ' H)->g x σ H Q
noncomputable def SGs(g:TGs)(p:Pts):Prop:=∀(B H0 H:Hp) (σ:St) (E E':En) (xs:List V) (ds:List D) (Q:St->Hp->Prop),EnvR K C B H0 H σ E->RDL K C H0 xs ds->p.bind ds E=some E'->(∀σ',EnvR K C B H0 H σ' E'->Q σ' H)->g xs σ H Q
end
section
variable{K:Frag}{C:Addr}
theorem EnvR.setSh{B H0 H:Hp}{σ:St}{E:En}{i:Nat}{v:V}{d:D}(I:EnvR K C B H0 H σ E)(hi:i<E.length)(r:RD K C H0 v d):EnvR K C B H0 H (σ.set i (some v)) (E.set i (.sh d)) :=
 I.put' (s:=.sh d) (.refl I.h) hi r rfl
theorem JM(i:Nat):SG K C (V1 i) (.nm i):=by
 intro B H0 H σ E E' x d Q I r e q;rw[Pt.bind] at e;split at e
 ·cases e;exact q _ (I.setSh (by assumption) r)
 ·cases e
theorem Yk:SGs K C Jk1 .nil:=by
 intro B H0 H σ E E' xs ds Q I r e q
 cases ds with
 | nil =>
  cases xs with
  | nil=>rw[Pts.bind] at e;cases e;exact⟨rfl,q σ I⟩
  | cons _ _=>have:=r.1;simp at this
 | cons _ _=>simp[Pts.bind] at e
theorem Jr{g:TG}{gs:TGs}{p:Pt}{ps:Pts}(h:SG K C g p)(hs:SGs K C gs ps):SGs K C (JfH g gs) (.cons p ps):=by
 intro B H0 H σ E E' xs ds Q I r e q
 cases ds with
 | nil=>simp[Pts.bind] at e
 | cons d ds =>
  cases xs with
  | nil=>have:=r.1;simp at this
  | cons x xs=>rw[Pts.bind] at e;obtain⟨E1,e1,e2⟩:=bind_some e;exact⟨x,xs,rfl,h B H0 H σ E E1 x d _ I r.head e1 fun σ1 I1=>hs B H0 H σ1 E1 E' xs ds Q I1 r.tail e2 q⟩
theorem Jqg{n:Nat}{gs:TGs}{ps:Pts}(hn:∀(ds:List D) (E E':En),ps.bind ds E=some E'->ds.length=n)(hs:SGs K C gs ps):SG K C (Jg0 K n gs) (.tp ps):=by
 intro B H0 H σ E E' x d Q I r e q
 cases d with
 | tup ds=>rw[Pt.bind] at e;obtain⟨a,xs,rfl,h,r⟩:=RD.tupI r;exact⟨a,xs,rfl,I.h.seqT h,by rw[r.1];exact hn ds E E' e,hs B H0 H σ E E' xs ds Q I r e q⟩
 | _=>simp[Pt.bind] at e
noncomputable def Pts.len:Pts->Nat
 | .nil=>0
 | .cons _ l=>l.len+1
theorem Pts.bind_len:∀{ps:Pts} {ds:List D} {E E':En},ps.bind ds E=some E'->ds.length=ps.len
 | .nil,[],_,_,_=>rfl
 | .nil,_::_,_,_,e=>by simp[Pts.bind] at e
 | .cons _ _,[],_,_,e=>by simp[Pts.bind] at e
 | .cons p l,d::ds,E,E',e=>by rw[Pts.bind] at e;obtain⟨E1,e1,e2⟩:=bind_some e;rw[Qo,Pts.bind_len e2];rfl
theorem Yl{n:Nat}{gs:TGs}{ps:Pts}(hs:SGs K C gs ps)(hn:ps.len=n):SG K C (Jg0 K n gs) (.tp ps):=Jqg (fun _ _ _ e=>(Pts.bind_len e).trans hn) hs
end

section
variable(K:Frag)(C:Addr)
noncomputable def Jkq(A:Hp)(J:It)(ds:List D)(H0:Hp):Prop:=∀H0' H',SStep A H0 H0' H'->(∀(i:Nat) (d:D),ds[i]?=some d->J.go i H'/\∀x H2,J.yld i H' x H2->∃H02,Step H' H0' H' H02 H2/\RD K C H02 x d)/\J.stop ds.length H'
noncomputable def SI(m:Bool)(wi:TI)(ev:En->Option (List D)):Prop:=∀(B H0 H:Hp) (σ:St) (E:En) (ds:List D) (R:It->Hp->Prop),EnvR K C B H0 H σ E->ev E=some ds ->
 (∀J H0' H',Step H H0 H H0' H'->Jkq K C (if m=true then H' else B) J ds H0'->R J H')->wi σ H R
end
noncomputable def Sl.it(m:Bool):Sl->Option (List D)
 | .bo ds=>if m=true then some ds else none
 | s=>s.q
noncomputable def iE(m:Bool)(a:Ev):En->Option (List D):=fun E=>(a E).bind (Sl.it m)
noncomputable def iV(i:Nat):En->Option (List D):=fun E=>match E[i]? with
 | some (.bo ds)=>some ds
 | some (.sh d)=>(Sl.sh d).q
 | _=>none
noncomputable def rng(lo:Int)(n:Nat):List D:=(Q0 n).map fun(i:Nat)=>.int (lo+(i:Int))
noncomputable def Jev(a:Int):Bool:=Nat.ble a.natAbs 4611686018427387903
noncomputable def iR1(as:En->Option (List Sl)):En->Option (List D):=fun E=>(as E).bind fun ss=>match ss with
 | [.sh (.int n)]=>if Jev n=true then some (rng 0 n.toNat) else none
 | _=>none
section
variable{K:Frag}{C:Addr}{te:TE}{ea:Ev}{m:Bool}
theorem Ws{A H0:Hp}{a:Addr}{xs:List V}{ds:List D}(hd:∀H0' H',SStep A H0 H0' H'->SqL K H' a xs)(r:RDL K C H0 xs ds):Jkq K C A (Itl K a) ds H0:=by intro H0' H' st;have hq:=hd H0' H' st;refine⟨fun i d e=>?_,⟨xs,hq,by rw[r.1];exact Qm _⟩⟩;obtain⟨x,e1,r1⟩:=r.get e;refine⟨⟨xs,x,hq,e1⟩,fun y H2 ⟨e2,e3⟩=>?_⟩;subst e2;have:=e3 xs hq;rw[e1] at this;cases this;exact⟨H0',.refl st.i,r1.mono st.z⟩
theorem Jnu{A H0:Hp}{a:Addr}{xs:List V}{ds:List D}(hd:∀H0' H',SStep A H0 H0' H'->SqT K H' a xs)(r:RDL K C H0 xs ds):Jkq K C A (Itt K a) ds H0:=by intro H0' H' st;have hq:=hd H0' H' st;refine⟨fun i d e=>?_,⟨xs,hq,by rw[r.1];exact Qm _⟩⟩;obtain⟨x,e1,r1⟩:=r.get e;refine⟨⟨xs,x,hq,e1⟩,fun y H2 ⟨e2,e3⟩=>?_⟩;subst e2;have:=e3 xs hq;rw[e1] at this;cases this;exact⟨H0',.refl st.i,r1.mono st.z⟩
theorem Vx(ha:SE K C te ea):SI K C m (Jg4 K te) (iE m ea):=by
 intro B H0 H σ E ds R I e q;obtain⟨s,e1,e⟩:=bind_some e
 cases s with
 | no=>cases e
 | bd _ _=>cases e
 | bt _ _=>cases e
 | od _ _=>cases e
 | ot _ _=>cases e
 | bo es =>
  unfold Sl.it at e;dsimp only at e;split at e
  ·next hm=>cases e;refine .inl (ha B H0 H σ E _ _ I e1 fun x H1 H1' s1 r1=>?_);obtain⟨l,xs,rfl,h,r⟩:=r1;refine⟨l,rfl,⟨xs,.of h⟩,q _ _ _ s1 ?_⟩;rw[if_pos hm];exact Ws (fun H0' H' st=>.of (st.b _ _ h)) r
  ·cases e
 | own es=>cases (show some es=some ds from e);refine .inl (ha B H0 H σ E _ _ I e1 fun x H1 H1' s1 r1=>?_);have f:=JT (Hs:=H) s1.i;have r2:=RR.frz s1.i r1 rfl;obtain⟨l,xs,rfl,h,r⟩:=RD.lstI r2;exact⟨l,rfl,⟨xs,.of (f.i _ _ h)⟩,q _ _ _ (s1.comp f fun _ z=>z) (Ws (fun H0' H' st=>.of (st.i _ _ (st.z _ _ h))) r)⟩
 | sh d =>
  cases d with
  | lst es=>cases (show some es=some ds from e);refine .inl (ha B H0 H σ E _ _ I e1 fun x H1 H1' s1 r1=>?_);obtain⟨l,xs,rfl,h,r⟩:=RD.lstI r1;exact⟨l,rfl,⟨xs,.of (s1.i _ _ h)⟩,q _ _ _ s1 (Ws (fun H0' H' st=>.of (st.i _ _ (st.z _ _ h))) r)⟩
  | fz es=>cases (show some es=some ds from e);refine .inl (ha B H0 H σ E _ _ I e1 fun x H1 H1' s1 r1=>?_);obtain⟨l,xs,rfl,h,r⟩:=RD.fzI r1;exact⟨l,rfl,⟨xs,s1.i.seq h⟩,q _ _ _ s1 (Ws (fun H0' H' st=>(st.z.trans st.i).seq h) r)⟩
  | tup es=>cases (show some es=some ds from e);refine .inr (ha B H0 H σ E _ _ I e1 fun x H1 H1' s1 r1=>?_);obtain⟨l,xs,rfl,h,r⟩:=RD.tupI r1;exact⟨l,rfl,⟨xs,s1.i.seqT h⟩,q _ _ _ s1 (Jnu (fun H0' H' st=>(st.z.trans st.i).seqT h) r)⟩
  | _=>cases (show none=some ds from e)
theorem JeU(i:Nat):SI K C false (Jg4 K (WE i)) (iV i):=by
 intro B H0 H σ E ds R I e q;unfold iV at e;split at e
 ·next es h =>
  cases e;rcases I.at' i _ h with z|⟨v,h1,h2⟩
  ·cases z
  ·obtain⟨l,xs,rfl,hl,r⟩:=h2;refine .inl ⟨_,h1,l,rfl,⟨xs,.of (I.b _ _ hl)⟩,q _ _ _ (.refl I.h) (Ws (fun H0' H' st=>.of (st.b _ _ hl)) r)⟩
 ·next d h=>refine Vx (m:=false) (ea:=Jd i) (Jb i) B H0 H σ E ds R I ?_ q;show(Jd i E).bind _=_;unfold Jd;rw[h];exact e
 ·cases e
theorem Jl0{lo:Int}{n i:Nat}{d:D}(e:(rng lo n)[i]?=some d):i<n/\d=.int (lo+(i:Int)):=by
 unfold rng at e;rw[Qq] at e
 cases h:(Q0 n)[i]? with
 | none=>rw[h] at e;cases e
 | some j=>rw[h] at e;cases e;obtain⟨h1,h2⟩:=Qn.mp h;simp at h1 h2;subst h2;exact⟨h1,rfl⟩
theorem Jnt{A H0:Hp}{lo:Int}{n:Nat}:Jkq K C A (Itr lo n) (rng lo n) H0:=by intro H0' H' st;refine⟨fun i d e=>?_,by show n<=_;simp[rng]⟩;obtain⟨h1,rfl⟩:=Jl0 e;refine⟨h1,fun x H2 ⟨e1,e2⟩=>?_⟩;subst e1 e2;exact⟨H0',.refl st.i,.int _⟩
theorem JbZ{a:Int}(h:Jev a=true):-(2 ^ 62)<=a/\a<2 ^ 62:=by unfold Jev at h;rw[Ks] at h;omega
theorem Jp0{t:TA}{ev:En->Option (List Sl)}(ha:SA K C t ev):SI K C m (JmK t) (iR1 ev):=by
 intro B H0 H σ E ds R I e q;obtain⟨ss,e1,e⟩:=bind_some e;split at e
 ·split at e
  ·next hn =>
   cases e;refine ha B H0 H σ E _ _ I e1 fun vs H1 H1' s1 r1=>?_
   obtain⟨v,rfl,r⟩:=r1.one;rw[RD.intI r];exact⟨_,rfl,(JbZ hn).1,(JbZ hn).2,q _ _ _ s1 Jnt⟩
  ·cases e
 ·cases e
end

noncomputable def yes?:En->Option Bool:=fun _=>some true
noncomputable def Wr(imp:List (Option Nat))(E:En):En:=imp.map fun o=>match o with
 | none=>.no
 | some k=>match E[k]? with
  | some (.own ds)=>.bo ds
  | some (.od ks ds)=>.bd ks ds
  | some (.ot ks ds)=>.bt ks ds
  | some s=>s
  | none=>.no
noncomputable def Vc(p:Pt)(c:En->Option Bool)(a:Ev)(E1:En):List D->Option (List D)
 | []=>some []
 | d::ds=>(p.bind d E1).bind fun E2=>(c E2).bind fun k=>if k=true then(a E2).bind fun s=>s.frz.bind fun y=>(Vc p c a E1 ds).bind fun ys=>some (y::ys) else Vc p c a E1 ds
noncomputable def Y2(it:En->Option (List D))(p:Pt)(c:En->Option Bool)(a:Ev)(imp:List (Option Nat)):Ev:=fun E=>(it E).bind fun ds=>if ds.length<=sizeLine then(Vc p c a (Wr imp E) ds).map .own else none
section
variable{K:Frag}{C:Addr}
theorem UH:ST K C JoQ yes?:=fun _ _ _ _ _ _ _ I e q=>by cases e;exact q _ _ (.refl I.h)
theorem JkJ{B H0 H:Hp}{σ:St}{E:En}{imp:List (Option Nat)}(I:EnvR K C B H0 H σ E):EnvR K C H H0 H (ZZ imp σ) (Wr imp E):=by
 have get:∀(i:Nat) (s:Sl),(Wr imp E)[i]?=some s->s=.no\/∃v,(ZZ imp σ)[i]?=some (some v)/\RSl K C H H0 H v s/\YN s=false:=fun i s e=>by
  unfold Wr at e;unfold ZZ;rw[Qq] at e ⊢
  cases h:imp[i]? with
  | none=>rw[h] at e;cases e
  | some o =>
   rw[h] at e
   cases o with
   | none=>cases e;exact .inl rfl
   | some k =>
    have e':(match E[k]? with|some (.own ds)=>Sl.bo ds|some (.od ks ds)=>Sl.bd ks ds|some (.ot ks ds)=>Sl.bt ks ds|some s=>s|none=>.no)=s:=QG e
    cases hE:E[k]? with
    | none=>rw[hE] at e';exact .inl e'.symm
    | some s' =>
     rw[hE] at e';rcases I.at' k s' hE with z|⟨v,h1,h2⟩
     ·subst z;exact .inl e'.symm
     ·have g:(σ[k]?).join=some v:=by rw[h1];rfl
      cases s' with
      | no=>exact .inl e'.symm
      | sh d=>dsimp only at e';subst e';exact .inr ⟨v,by show some ((σ[k]?).join)=_;rw[g],h2,rfl⟩
      | bo ds=>dsimp only at e';subst e';obtain⟨l,xs,q1,q2,q3⟩:=h2;exact .inr ⟨v,by show some ((σ[k]?).join)=_;rw[g],⟨l,xs,q1,I.b _ _ q2,q3⟩,rfl⟩
      | own ds=>dsimp only at e';subst e';obtain⟨l,xs,q1,q2,_,_,q3⟩:=h2;exact .inr ⟨v,by show some ((σ[k]?).join)=_;rw[g],⟨l,xs,q1,q2,q3⟩,rfl⟩
      | bd ks ds=>dsimp only at e';subst e';obtain⟨l,xs,q1,q2,q3⟩:=h2;exact .inr ⟨v,by show some ((σ[k]?).join)=_;rw[g],⟨l,xs,q1,I.b _ _ q2,q3⟩,rfl⟩
      | bt ks ds=>dsimp only at e';subst e';obtain⟨l,xs,q1,q2,q3⟩:=h2;exact .inr ⟨v,by show some ((σ[k]?).join)=_;rw[g],⟨l,xs,q1,I.b _ _ q2,q3⟩,rfl⟩
      | od ks ds=>dsimp only at e';subst e';obtain⟨l,xs,q1,q2,_,_,q3⟩:=h2;exact .inr ⟨v,by show some ((σ[k]?).join)=_;rw[g],⟨l,xs,q1,q2,q3⟩,rfl⟩
      | ot ks ds=>dsimp only at e';subst e';obtain⟨l,xs,q1,q2,_,_,q3⟩:=h2;exact .inr ⟨v,by show some ((σ[k]?).join)=_;rw[g],⟨l,xs,q1,q2,q3⟩,rfl⟩
 refine⟨Same.refl _,I.h,by simp[ZZ,Wr],fun i s e=>?_,fun i j s t v hij e1 e2 o1 o2=>?_⟩
 ·rcases get i s e with z|⟨v,h1,h2,_⟩
  ·exact .inl z
  ·exact .inr ⟨v,h1,h2⟩
 ·rcases get i _ e1 with z|⟨v,h1,h2,h3⟩
  ·subst z;cases o1
  ·rw[h3] at o1;cases o1
theorem YM{wi:TI}{g:TG}{tt:TT}{te:TE}{imp:List (Option Nat)}{it:En->Option (List D)}{p:Pt}{c:En->Option Bool}{a:Ev}(hi:SI K C true wi it)(hg:SG K C g p)(hc:ST K C tt c)(ha:SE K C te a)
 (hp:(p.slots.all fun i=>match imp[i]? with|some none=>true|_=>false)=true):SE K C (Jgp wi g tt te imp) (Y2 it p c a imp):=by
 intro B H0 H σ E r Q I e q;obtain⟨ds,e1,e⟩:=bind_some e;split at e
 ·next hl =>
  obtain⟨es,e2,rfl⟩:=map_some e;refine hi B H0 H σ E ds _ I e1 fun J H1 H1' s1 ok=>?_
  rw[if_pos rfl] at ok;have I1:EnvR K C H1' H1 H1' (ZZ imp σ) (Wr imp E):=JkJ (I.step s1)
  -- the loop: what was gathered,what comes
  refine⟨fun i m ys σ' H'=>m=ds.length-i/\i<=ds.length/\∃H0' gs rs,EnvR K C H1' H0' H' σ' (Wr imp E)/\Step H1' H1 H1' H0' H'/\RDL K C H0' ys gs/\Vc p c a (Wr imp E) (ds.drop i)=some rs/\es=gs++rs/\gs.length<=i,
   ⟨ds.length,by simp,Gv _,H1,[],es,I1,.refl s1.i,.nil,e2,rfl,Qm _⟩,?_⟩
  rintro i m ys σ' H' ⟨rfl,hi',H0',gs,rs,I',st,rys,er,ees,hgl⟩;have stop:=ok H0' H' ⟨st.h,st.z,st.n,st.i⟩
  by_cases hlt:i<ds.length
  ·have hd:ds[i]?=some ds[i]:=by simp[hlt]
   obtain⟨go,yl⟩:=stop.1 i _ hd;refine .inr ⟨go,by rw[rys.1];omega,fun ys' σ2 H2=>∃H02 gs rs,EnvR K C H1' H02 H2 σ2 (Wr imp E)/\Step H1' H1 H1' H02 H2/\RDL K C H02 ys' gs/\Vc p c a (Wr imp E) (ds.drop (i+1))=some rs/\es=gs++rs/\gs.length<=i+1,
    fun ys' σ2 H2 h=>⟨ds.length-(i+1),by omega,rfl,hlt,h⟩,fun x H2 y=>?_⟩
   obtain⟨H02,st2,rx⟩:=yl x H2 y;rw[K7 hlt,Vc] at er;obtain⟨E2,b1,er⟩:=bind_some er;obtain⟨k,b2,er⟩:=bind_some er;refine hg H1' H02 H2 σ' (Wr imp E) E2 x _ _ (I'.step st2) rx b1 fun σ2 I2=>?_
   have back:∀{H03 H3:Hp},EnvR K C H1' H03 H3 σ2 E2->EnvR K C H1' H03 H3 σ2 (Wr imp E):=fun {H03 H3} J=>by
    obtain⟨k1,k2⟩:=Pt.keep b1;refine J.sub k1.symm fun j s ej=>?_
    by_cases hj:j∈p.slots
    ·have:=K3.mp hp j hj
     have ej':=ej;unfold Wr at ej';rw[Qq] at ej'
     cases hm:imp[j]? with
     | none=>rw[hm] at this;cases this
     | some o =>
      rw[hm] at this ej'
      cases o with
      | none=>cases ej';exact .inl rfl
      | some _=>cases this
    ·exact .inr (by rw[k2 j hj];exact ej)
   refine hc H1' H02 H2 σ2 E2 k _ I2 b2 fun H03 H3 st3=>?_
   have st13:Step H1' H1 H1' H03 H3:=(st.trans st2).trans st3
   cases k with
   | false=>rw[if_neg (by simp)];rw[if_neg (by simp)] at er;exact⟨H03,gs,rs,back (I2.step st3),st13,rys.mono (st2.z.trans st3.z),er,ees,by omega⟩
   | true =>
    rw[if_pos rfl];rw[if_pos rfl] at er;obtain⟨s,b3,er⟩:=bind_some er;obtain⟨y',b4,er⟩:=bind_some er;obtain⟨ws,b5,er⟩:=bind_some er;cases er;refine ha H1' H03 H3 σ2 E2 s _ (I2.step st3) b3 fun v H04 H4 st4 r4=>?_
    have f:=JT (Hs:=H3) st4.i
    have st5:Step H3 H03 H3 (J1 H3 H04 H4) H4:=st4.comp f fun _ z=>z
    exact⟨_,gs++[y'],ws,back ((I2.step st3).step st5),st13.trans st5,(rys.mono ((st2.z.trans st3.z).trans st5.z)).snoc (RR.frz st4.i r4 b4),b5,by rw[ees,Gu];rfl,by rw[Qv];simp;exact hgl⟩
  ·have e3:i=ds.length:=by omega
   subst e3;refine .inl ⟨stop.2,by rw[rys.1];omega,fun p hp=>?_⟩;rw[List.drop_length,Vc] at er;cases er;rw[GR] at ees;subst ees;exact U4 (Hs:=H) st.i (s1.h.trans st.h) hp rys fun v H2 H2' s2 r2=>q v H2 H2' ((s1.trans st).comp s2 fun _ z=>z) r2
 ·cases e
end
end LE

namespace LE
open PySem L2 LR

inductive Out where
 | nx (E:En)|rt (r:Sl)|bk (E:En)|ct (E:En)
noncomputable abbrev Es:=En->Option Out
section
variable(K:Frag)(C:Addr)
noncomputable def Fin(B H0:Hp)(D:Ends):Out->Prop
 | .nx E=>∀σ' H0' H',SStep B H0 H0' H'->EnvR K C B H0' H' σ' E->D.nx σ' H'
 | .bk E=>∀σ' H0' H',SStep B H0 H0' H'->EnvR K C B H0' H' σ' E->D.bk σ' H'
 | .ct E=>∀σ' H0' H',SStep B H0 H0' H'->EnvR K C B H0' H' σ' E->D.ct σ' H'
 | .rt r=>∀v H0' H',SStep B H0 H0' H'->RR K C B H0' H' v r->D.rt v H'
noncomputable def SS(ts:TS)(ev:Es):Prop:=∀(B H0 H:Hp) (σ:St) (E:En) (o:Out) (D:Ends),EnvR K C B H0 H σ E->ev E=some o->Fin K C B H0 D o->ts D σ H
end
noncomputable def Uk:Es:=fun E=>some (.nx E)
noncomputable def Je0(b:Es):Out->Option Out
 | .nx E=>b E
 | .rt r=>some (.rt r)
 | .bk E=>some (.bk E)
 | .ct E=>some (.ct E)
noncomputable def Jy(a b:Es):Es:=fun E=>(a E).bind (Je0 b)
noncomputable def xIf(c:En->Option Bool)(a b:Es):Es:=fun E=>(c E).bind fun k=>if k=true then a E else b E
noncomputable def keep?:Sl->Option Sl
 | .sh d=>some (.sh d)
 | .own ds=>some (.own ds)
 | .od ks ds=>some (.od ks ds)
 | .ot ks ds=>some (.ot ks ds)
 | _=>none
noncomputable def Wg(i:Nat)(a:Ev):Es:=fun E=>(a E).bind fun s=>(keep? s).bind fun s=>if i<E.length then some (.nx (E.set i s)) else none
noncomputable def JE(i:Nat)(a:Ev):Es:=fun E=>(a E).bind fun s=>s.frz.bind fun d=>if i<E.length then some (.nx (E.set i (.sh d))) else none
noncomputable def JdZ(a:Ev):Es:=fun E=>(a E).map fun _=>.nx E
noncomputable def Uz(a:Ev):Es:=fun E=>(a E).bind fun s=>(keep? s).map .rt
noncomputable def U2(i:Nat):Es:=fun E=>match E[i]? with
 | some (.sh d)=>some (.rt (.sh d))
 | some (.own ds)=>some (.rt (.own ds))
 | some (.od ks ds)=>some (.rt (.od ks ds))
 | _=>none
noncomputable def VJ:Es:=fun _=>none
noncomputable def JaT(i:Nat)(a:Ev):Es:=fun E=>match E[i]? with
 | some (.own ds)=>(a E).bind fun s=>s.frz.bind fun d=>if ds.length<sizeLine then some (.nx (E.set i (.own (ds++[d])))) else none
 | _=>none
noncomputable def Jd0(i:Nat)(a:Ev):Es:=fun E=>match E[i]? with
 | some (.own ds)=>(a E).bind fun s=>s.m.bind fun es=>if ds.length+es.length<=sizeLine then some (.nx (E.set i (.own (ds++es)))) else none
 | _=>none
noncomputable def Jmr(i j:Nat)(f:Sl->Option Sl):Es:=fun E=>match E[i]? with
 | some (.own ds)=>(ds[ds.length-1]?).bind fun d=>(f (.sh d)).bind fun s=>(sh? s).bind fun d'=>if j<E.length then some (.nx ((E.set i (.own ds.dropLast)).set j (.sh d'))) else none
 | _=>none
noncomputable def Jfb(f:Int->Int->Int)(i:Nat)(a:Ev):Es:=fun E=>match E[i]? with
 | some (.sh (.int x))=>(a E).bind fun s=>match s with
  | .sh (.int y)=>some (.nx (E.set i (.sh (.int (f x y)))))
  | _=>none
 | _=>none
noncomputable def YD(p:Pt)(b:Es):List D->Es
 | [],E=>some (.nx E)
 | d::ds,E=>(p.bind d E).bind fun E1=>(b E1).bind fun o=>match o with
  | .nx E2=>YD p b ds E2
  | .ct E2=>YD p b ds E2
  | .bk E2=>some (.nx E2)
  | .rt r=>some (.rt r)
noncomputable def V0(it:En->Option (List D))(p:Pt)(b:Es):Es:=fun E=>(it E).bind fun ds=>YD p b ds E
noncomputable def Y1(c:En->Option Bool)(b:Es):Nat->Es
 | 0,_=>none
 | n+1,E=>(c E).bind fun k=>if k=true then(b E).bind fun o=>match o with
  | .nx E2=>Y1 c b n E2
  | .ct E2=>Y1 c b n E2
  | .bk E2=>some (.nx E2)
  | .rt r=>some (.rt r)
  else some (.nx E)
section
variable{K:Frag}{C:Addr}{B H0 H H0' H':Hp}{σ:St}{E:En}{D:Ends}{o:Out}{te:TE}{ea:Ev}{t u:TS}{et eu:Es}
theorem Fin.step(st:SStep B H0 H0' H')(f:Fin K C B H0 D o):Fin K C B H0' D o:=by
 cases o with
 | nx E=>exact fun σ' H1 H1' s1 I=>f σ' H1 H1' (st.trans s1) I
 | bk E=>exact fun σ' H1 H1' s1 I=>f σ' H1 H1' (st.trans s1) I
 | ct E=>exact fun σ' H1 H1' s1 I=>f σ' H1 H1' (st.trans s1) I
 | rt r=>exact fun v H1 H1' s1 I=>f v H1 H1' (st.trans s1) I
theorem EnvR.ss(I:EnvR K C B H0 H σ E):SStep B H0 H0 H:=.refl I.b I.h
theorem Y6:SS K C Jka Uk:=fun _ _ _ _ _ _ _ I e f=>by cases e;exact f _ _ _ I.ss I
theorem WK:SS K C Jj9 VJ:=fun _ _ _ _ _ _ _ _ e _=>by cases e
theorem Jq(ht:SS K C t et)(hu:SS K C u eu):SS K C (JoO t u) (Jy et eu):=by
 intro B H0 H σ E o D I e f;obtain⟨o1,e1,e⟩:=bind_some e;refine ht B H0 H σ E o1 _ I e1 ?_
 cases o1 with
 | nx E1=>exact fun σ1 H1 H1' s1 I1=>hu B H1 H1' σ1 E1 o D I1 e (f.step s1)
 | bk E1=>cases e;exact f
 | ct E1=>cases e;exact f
 | rt r=>cases e;exact f
theorem Wh{c:TT}{ec:En->Option Bool}(hc:ST K C c ec)(ht:SS K C t et)(hu:SS K C u eu):SS K C (Jmj c t u) (xIf ec et eu):=by
 intro B H0 H σ E o D I e f;obtain⟨k,e1,e⟩:=bind_some e;refine hc B H0 H σ E k _ I e1 fun H1 H1' s1=>?_
 cases k with
 | true=>rw[if_pos rfl];exact ht B H1 H1' σ E o D (I.step s1) e (f.step (s1.ss I.b))
 | false=>rw[if_neg (by simp)];exact hu B H1 H1' σ E o D (I.step s1) e (f.step (s1.ss I.b))
theorem Jbh{s r:Sl}(e:keep? s=some r):s=r/\Jns r=false:=by cases s <;> cases e <;> exact⟨rfl,rfl⟩
theorem Vo{i:Nat}(ha:SE K C te ea):SS K C (JhG te (V1 i)) (Wg i ea):=by
 intro B H0 H σ E o D I e f;obtain⟨s,e1,e⟩:=bind_some e;obtain⟨s',e2,e⟩:=bind_some e;obtain⟨rfl,hb⟩:=Jbh e2;split at e
 ·cases e;exact ha B H0 H σ E _ _ I e1 fun v H1 H1' s1 r1=>f _ _ _ (s1.ss I.b) (I.put' s1 (by assumption) r1 hb)
 ·cases e
theorem JB{i:Nat}(ha:SE K C te ea):SS K C (JhG te (V1 i)) (JE i ea):=by
 intro B H0 H σ E o D I e f;obtain⟨s,e1,e⟩:=bind_some e;obtain⟨d,e2,e⟩:=bind_some e;split at e
 ·cases e;refine ha B H0 H σ E _ _ I e1 fun v H1 H1' s1 r1=>?_
  have s2:Step H H0 H (J1 H H1 H1') H1':=s1.comp (JT s1.i) fun _ z=>z
  exact f _ _ _ (s2.ss I.b) ((I.step s2).setSh (by assumption) (RR.frz s1.i r1 e2))
 ·cases e
theorem Jfc(ha:SE K C te ea):SS K C (JaC te) (JdZ ea):=by intro B H0 H σ E o D I e f;obtain⟨s,e1,rfl⟩:=map_some e;exact ha B H0 H σ E _ _ I e1 fun v H1 H1' s1 r1=>f _ _ _ (s1.ss I.b) (I.step s1)
theorem YE(ha:SE K C te ea):SS K C (JoN te) (Uz ea):=by intro B H0 H σ E o D I e f;obtain⟨s,e1,e⟩:=bind_some e;obtain⟨s',e2,rfl⟩:=map_some e;obtain⟨rfl,hb⟩:=Jbh e2;exact ha B H0 H σ E _ _ I e1 fun v H1 H1' s1 r1=>f _ _ _ (s1.ss I.b) (r1.weak fun a z=>Same.free I.b z)
theorem VL{i:Nat}:SS K C (JoN (WE i)) (U2 i):=by
 intro B H0 H σ E o D I e f;unfold U2 at e;split at e
 ·next d h =>
  cases e;rcases I.at' i _ h with z|⟨v,h1,h2⟩
  ·cases z
  ·exact⟨v,h1,f _ _ _ I.ss h2⟩
 ·next d h =>
  cases e;rcases I.at' i _ h with z|⟨v,h1,h2⟩
  ·cases z
  ·exact⟨v,h1,f _ _ _ I.ss h2⟩
 ·next d h =>
  cases e;rcases I.at' i _ h with z|⟨v,h1,h2⟩
  ·cases z
  ·exact⟨v,h1,f _ _ _ I.ss h2⟩
 ·cases e
theorem EnvR.mutG{i:Nat}{l:Addr}{t t':Sl}{o':HO}(I:EnvR K C B H0 H σ E)(e1:E[i]?=some t)(ho:YN t=true)(ho':YN t'=true)(e2:σ[i]?=some (some (.ref l)))(r:RSl K C B H0 (upd H l o') (.ref l) t') :
 EnvR K C B H0 (upd H l o') σ (E.set i t'):=by
 obtain⟨h1,h2,h3⟩:=I.ownG e1 ho e2;have hi:i<E.length:=(Qn.mp e1).1;have nb:∀{A:Hp},A l=none->Same A H->Same A (upd H l o'):=fun {A} n s a o e=>by rw[Jm (Jw e n)];exact s a o e
 refine⟨nb h3 I.b,nb h2 I.h,by simp[I.len],fun j s e=>?_,fun j k s1 s2 v hjk a1 a2 p1 p2 a3=>?_⟩
 ·rw[QX] at e
  by_cases hj:i=j
  ·subst hj;rw[if_pos rfl,if_pos hi] at e;cases e;exact .inr ⟨_,e2,r⟩
  ·rw[if_neg hj] at e;rcases I.at' j s e with z|⟨v,q1,q2⟩
   ·exact .inl z
   ·refine .inr ⟨v,q1,?_⟩
    cases s with
    | no=>trivial
    | sh d=>exact q2
    | bo es=>exact q2
    | bd ks es=>exact q2
    | bt ks es=>exact q2
    | own es =>
     obtain⟨l',ys,p1,p2,p3,p4,p5⟩:=q2;subst p1;have:l'≠l:=fun z=>by subst z;exact I.sep i j t _ (.ref l') hj e1 e ho rfl e2 q1
     exact⟨l',ys,rfl,by rw[Jm this];exact p2,p3,p4,p5⟩
    | od ks es =>
     obtain⟨l',ys,p1,p2,p3,p4,p5⟩:=q2;subst p1;have:l'≠l:=fun z=>by subst z;exact I.sep i j t _ (.ref l') hj e1 e ho rfl e2 q1
     exact⟨l',ys,rfl,by rw[Jm this];exact p2,p3,p4,p5⟩
    | ot ks es =>
     obtain⟨l',ys,p1,p2,p3,p4,p5⟩:=q2;subst p1;have:l'≠l:=fun z=>by subst z;exact I.sep i j t _ (.ref l') hj e1 e ho rfl e2 q1
     exact⟨l',ys,rfl,by rw[Jm this];exact p2,p3,p4,p5⟩
 ·have own:∀{j:Nat} {u:Sl},(E.set i t')[j]?=some u->YN u=true->∃g,E[j]?=some g/\YN g=true:=fun {j u} a w=>by
   rw[QX] at a
   by_cases hj:i=j
   ·subst hj;exact⟨t,e1,ho⟩
   ·rw[if_neg hj] at a;exact⟨_,a,w⟩
  obtain⟨g1,b1,c1⟩:=own a1 p1;obtain⟨g2,b2,c2⟩:=own a2 p2;exact I.sep j k g1 g2 v hjk b1 b2 c1 c2 a3
theorem EnvR.mut{i:Nat}{l:Addr}{ds ds':List LE.D}{xs xs':List V}(I:EnvR K C B H0 H σ E)(e1:E[i]?=some (.own ds))(e2:σ[i]?=some (some (.ref l)))(r:RDL K C H0 xs' ds') :
 EnvR K C B H0 (upd H l (.lst xs')) σ (E.set i (.own ds')):=by
 obtain⟨_,h2,h3⟩:=I.ownG e1 rfl e2;exact I.mutG (t':=.own ds') e1 rfl rfl e2 ⟨l,xs',rfl,Js,h2,h3,r⟩
theorem EnvR.slot{i:Nat}{ds:List LE.D}(I:EnvR K C B H0 H σ E)(e1:E[i]?=some (.own ds)):∃l xs,σ[i]?=some (some (.ref l))/\H l=some (.lst xs)/\H0 l=none/\B l=none/\RDL K C H0 xs ds:=by
 rcases I.at' i _ e1 with z|⟨v,h1,l,xs,rfl,h2,h3,h4,h5⟩
 ·cases z
 ·exact⟨l,xs,h1,h2,h3,h4,h5⟩
theorem JaJ{i:Nat}(ha:SE K C te ea):SS K C (JaC (tBM K "list" Ww (WE i) (Vn te WD))) (JaT i ea):=by
 intro B H0 H σ E o D I e f;unfold JaT at e;split at e
 ·next ds h =>
  obtain⟨s,e1,e⟩:=bind_some e;obtain⟨d,e2,e⟩:=bind_some e;split at e
  ·next hz =>
   cases e;obtain⟨l,xs,g1,g2,g3,g4,g5⟩:=I.slot h;refine⟨_,g1,.inl ⟨rfl,_,.of g2⟩,?_⟩;refine ha B H0 H σ E _ _ I e1 fun v H1 H1' s1 r1=>?_
   have s2:Step H H0 H (J1 H H1 H1') H1':=s1.comp (JT s1.i) fun _ z=>z
   have I2:=I.step s2
   have m:=I2.mut (xs:=xs) h g1 ((g5.mono s2.z).snoc (RR.frz s1.i r1 e2));exact⟨l,xs,v,rfl,rfl,s2.h _ _ g2,by rw[g5.1];exact hz,f _ _ _ ⟨m.b,s2.z,(s2.ss I.b).n,m.h⟩ m⟩
  ·cases e
 ·cases e
theorem JgG{i:Nat}(ha:SE K C te ea):SS K C (JaC (tBM K "list" Jgb (WE i) (Vn te WD))) (Jd0 i ea):=by
 intro B H0 H σ E o D I e f;unfold Jd0 at e;split at e
 ·next ds h =>
  obtain⟨s,e1,e⟩:=bind_some e;obtain⟨es,e2,e⟩:=bind_some e;split at e
  ·next hz =>
   cases e;obtain⟨l,xs,g1,g2,g3,g4,g5⟩:=I.slot h;refine⟨_,g1,.inl ⟨rfl,_,.of g2⟩,?_⟩;refine ha B H0 H σ E _ _ I e1 fun v H1 H1' s1 r1=>?_
   have I2:=I.step s1;obtain⟨l',ys,rfl,k1,k2⟩:=r1.m s1.i e2
   have m:=I2.mut (xs:=xs) h g1 ((g5.mono s1.z).append k2);exact⟨l,l',xs,ys,rfl,rfl,s1.h _ _ g2,k1,by rw[g5.1,k2.1];exact hz,f _ _ _ ⟨m.b,s1.z,(s1.ss I.b).n,m.h⟩ m⟩
  ·cases e
 ·cases e
theorem Jqb{i j:Nat}:SS K C (JhG (JoL K "list" JpO (WE i)) (V1 j)) (Jmr i j some):=by
 intro B H0 H σ E o D I e f;unfold Jmr at e;split at e
 ·next ds h =>
  obtain⟨d,e1,e⟩:=bind_some e;obtain⟨s,e2,e⟩:=bind_some e;cases e2;obtain⟨d',e3,e⟩:=bind_some e;cases e3;split at e
  ·next hj =>
   cases e;obtain⟨l,xs,g1,g2,g3,g4,g5⟩:=I.slot h;rw[<- g5.1] at e1;obtain⟨y,e4,r4⟩:=g5.get e1;have hd:RDL K C H0 xs.dropLast ds.dropLast:=by rw[MY,MY,g5.1];exact g5.take _
   have m:=I.mut (xs:=xs) h g1 hd;refine⟨_,g1,.inl ⟨rfl,_,.of g2⟩,l,xs,y,rfl,rfl,g2,e4,?_⟩;exact f _ _ _ ⟨m.b,Same.refl _,fun _ _ e=>.inl e,m.h⟩ (m.setSh (by simpa using hj) r4)
  ·cases e
 ·cases e
theorem Jm1{i:Nat}{g:Int->Int->Int}(ha:SE K C te ea):SS K C (Jp5 i te (ipI g)) (Jfb g i ea):=by
 intro B H0 H σ E o D I e f;unfold Jfb at e;split at e
 ·next x h =>
  obtain⟨s,e1,e⟩:=bind_some e;split at e
  ·cases e;rcases I.at' i _ h with z|⟨v,h1,h2⟩
   ·cases z
   ·have hi:i<E.length:=(Qn.mp h).1;refine⟨v,h1,ha B H0 H σ E _ _ I e1 fun w H1 H1' s1 r1=>⟨_,_,RD.intI h2,RD.intI r1,f _ _ _ (s1.ss I.b) ((I.step s1).setSh hi (.int _))⟩⟩
  ·cases e
 ·cases e
theorem EnvR.slotD{i:Nat}{ks:List Int}{ds:List LE.D}(I:EnvR K C B H0 H σ E)(e1:E[i]?=some (.od ks ds)):∃l xs,σ[i]?=some (some (.ref l))/\H l=some (dkO ks xs)/\H0 l=none/\B l=none/\ks.length=ds.length/\RDL K C H0 xs ds:=by
 rcases I.at' i _ e1 with z|⟨v,h1,l,xs,rfl,h2,h3,h4,h5⟩
 ·cases z
 ·exact⟨l,xs,h1,h2,h3,h4,h5⟩
theorem U8{wi:TI}{g:TG}{it:En->Option (List LE.D)}{p:Pt}(hi:SI K C false wi it)(hg:SG K C g p)(ht:SS K C t et):SS K C (Jmi wi g t) (V0 it p et):=by
 intro B H0 H σ E o D I e f;obtain⟨ds,e1,e⟩:=bind_some e;refine hi B H0 H σ E ds _ I e1 fun J H1 H1' s1 ok=>?_
 rw[if_neg (by simp)] at ok;refine⟨fun i m σ' H'=>m=ds.length-i/\i<=ds.length/\∃H0' E',EnvR K C B H0' H' σ' E'/\SStep B H1 H0' H'/\YD p et (ds.drop i) E'=some o,
  ⟨ds.length,by simp,Gv _,H1,E,I.step s1,.refl (I.b.trans s1.h) s1.i,e⟩,?_⟩
 rintro i m σ' H' ⟨rfl,hi',H0',E',I',st,er⟩;have stop:=ok H0' H' st;have f':Fin K C B H0' D o:=(f.step (s1.ss I.b)).step st
 by_cases hlt:i<ds.length
 ·have hd:ds[i]?=some ds[i]:=by simp[hlt]
  obtain⟨go,yl⟩:=stop.1 i _ hd;refine .inr ⟨go,fun σ2 H2=>∃H02 E2,EnvR K C B H02 H2 σ2 E2/\SStep B H1 H02 H2/\YD p et (ds.drop (i+1)) E2=some o,fun σ2 H2 h=>⟨ds.length-(i+1),by omega,rfl,hlt,h⟩,fun x H2 y=>?_⟩;obtain⟨H02,st2,rx⟩:=yl x H2 y;rw[K7 hlt,YD] at er;obtain⟨E1,b1,er⟩:=bind_some er;obtain⟨o1,b2,er⟩:=bind_some er;have ss2:SStep B H0' H02 H2:=st2.ss I'.b;refine hg B H02 H2 σ' E' E1 x _ _ (I'.step st2) rx b1 fun σ2 I2=>?_
  refine ht B H02 H2 σ2 E1 o1 _ I2 b2 ?_
  cases o1 with
  | nx E2=>exact fun σ3 H3 H3' s3 I3=>⟨H3,E2,I3,(st.trans ss2).trans s3,er⟩
  | ct E2=>exact fun σ3 H3 H3' s3 I3=>⟨H3,E2,I3,(st.trans ss2).trans s3,er⟩
  | bk E2=>cases er;exact f'.step ss2
  | rt r=>cases er;exact f'.step ss2
 ·have e3:i=ds.length:=by omega
  subst e3;rw[List.drop_length,YD] at er;cases er;exact .inl ⟨stop.2,f' _ _ _ I'.ss I'⟩
theorem JgH{c:TT}{ec:En->Option Bool}{n:Nat}(hc:ST K C c ec)(ht:SS K C t et):SS K C (Jkc c t) (Y1 ec et n):=by
 intro B H0 H σ E o D I e f;refine⟨fun m σ' H'=>∃H0' E',EnvR K C B H0' H' σ' E'/\SStep B H0 H0' H'/\Y1 ec et m E'=some o,⟨n,H0,E,I,I.ss,e⟩,?_⟩;rintro m σ' H' ⟨H0',E',I',st,er⟩
 cases m with
 | zero=>cases er
 | succ m =>
  rw[Y1] at er;obtain⟨k,b1,er⟩:=bind_some er;refine hc B H0' H' σ' E' k _ I' b1 fun H1 H1' s1=>?_
  have f':Fin K C B H1 D o:=(f.step st).step (s1.ss I'.b)
  cases k with
  | false=>rw[if_neg (by simp)] at er ⊢;cases er;exact f' _ _ _ (I'.step s1).ss (I'.step s1)
  | true =>
   rw[if_pos rfl] at er ⊢;obtain⟨o1,b2,er⟩:=bind_some er;refine⟨fun σ2 H2=>∃H02 E2,EnvR K C B H02 H2 σ2 E2/\SStep B H0 H02 H2/\Y1 ec et m E2=some o,fun σ2 H2 h=>⟨m,Kw _,h⟩,?_⟩;have st1:=st.trans (s1.ss I'.b);refine ht B H1 H1' σ' E' o1 _ (I'.step s1) b2 ?_
   cases o1 with
   | nx E2=>exact fun σ3 H3 H3' s3 I3=>⟨H3,E2,I3,st1.trans s3,er⟩
   | ct E2=>exact fun σ3 H3 H3' s3 I3=>⟨H3,E2,I3,st1.trans s3,er⟩
   | bk E2=>cases er;exact f'
   | rt r=>cases er;exact f'
end

noncomputable def Jen:Out->Option Sl
 | .nx _=>some (.sh .non)
 | .rt r=>some r
 | .bk _=>none
 | .ct _=>none
noncomputable def Y5(N:Nat)(b:Es):List Sl->Option Sl:=fun as=>(b (as++QH (N-as.length) .no)).bind Jen
section
variable{K:Frag}{C:Addr}
theorem RRL.get{Hs H0 H:Hp}:∀{vs:List V} {ss:List Sl} {i:Nat} {s:Sl},RRL K C Hs H0 H vs ss->ss[i]?=some s->∃v,vs[i]?=some v/\RR K C Hs H0 H v s
 | _,_,_,_,.nil,e=>by simp at e
 | _,_,0,_,.cons h _,e=>by simp at e;subst e;exact⟨_,rfl,h⟩
 | _,_,i+1,s,.cons _ t,e=>by obtain⟨v,h1,h2⟩:=RRL.get (i:=i) (s:=s) t (by simpa using e);exact⟨v,by simpa using h1,h2⟩
theorem JI{N:List Str}{n:Nat}{b:Es}{ts:TS}{vs:List V}{H:Hp}{Q:VK}{E:XK}(hb:SS K C ts b)(h:spE K C n (Y5 N.length b) vs H Q E):ts { nx:=fun _ H'=>Q .non H',rt:=Q } (L2.Vw N vs) H:=by
 obtain⟨H0,as,r,i,ra,ho,hl,e,q⟩:=h;have lens:=ra.len
 have noOwn:∀(j:Nat) (s:Sl),as[j]?=some s->YN s=false:=fun j s e=>by
  have:=K3.mp ho s (QF e)
  simpa using this
 have get:∀(j:Nat) (s:Sl),(as++QH (N.length-as.length) Sl.no)[j]?=some s->s=.no\/as[j]?=some s:=fun j s e=>by
  by_cases hj:j<as.length
  ·rw[QQ hj] at e;exact .inr e
  ·rw[Q2 (by omega),MC] at e;split at e
   ·cases e;exact .inl rfl
   ·cases e
 have I:EnvR K C H H0 H (L2.Vw N vs) (as++QH (N.length-as.length) .no):=by
  refine⟨Same.refl _,i,by simp[L2.Vw,lens],fun j s e=>?_,fun j k s1 s2 v hjk e1 e2 w1 w2=>?_⟩
  ·rcases get j s e with z|z
   ·exact .inl z
   ·obtain⟨v,h1,h2⟩:=ra.get z;refine .inr ⟨v,?_,?_⟩
    ·unfold L2.Vw;rw[QQ (by have:=(Qn.mp h1).1;simpa using this),Qq,h1];rfl
    ·cases s with
     | no=>trivial
     | sh d=>exact h2
     | bo ds=>exact h2
     | own ds=>exact absurd (noOwn j _ z) (by simp[YN])
     | bd ks ds=>exact h2
     | bt ks ds=>exact h2
     | od ks ds=>exact absurd (noOwn j _ z) (by simp[YN])
     | ot ks ds=>exact absurd (noOwn j _ z) (by simp[YN])
  ·rcases get j _ e1 with z|z
   ·subst z;cases w1
   ·rw[noOwn j _ z] at w1;cases w1
 obtain⟨o,e1,e⟩:=bind_some e;refine hb H H0 H _ _ o _ I e1 ?_
 cases o with
 | nx E1=>cases e;exact fun σ' H1 H1' s1 I1=>q _ H1 H1' ⟨s1.b,s1.z,s1.n,s1.i⟩ RD.non
 | rt r'=>cases e;exact fun v H1 H1' s1 r1=>q v H1 H1' ⟨s1.b,s1.z,s1.n,s1.i⟩ r1
 | bk _=>cases e
 | ct _=>cases e
theorem Jk8{P:Program}{w:World}{mg:Str->Option Value}{base:Heap}{k:Nat}{f:Addr}{fd:FuncData}{ps:List Str}{ev:List Sl->Option Sl}(F:FnOk P w K mg base CX0 k f fd ps (spE K C 1 ev))
 (h:∀ns:List Int,ns.length<=63->ev [.sh (.fz (ns.map .int))]=some (.sh (.bl true))):FnOk P w K mg base CX0 k f fd ps (Jgj K) :=
 F.imp fun vs H Q E ⟨a,ns,e,hS,hl,q⟩=>by subst e;exact⟨H,[.sh (.fz (ns.map .int))],_,Same.refl _,.cons (show RD K C H _ _ from RD.mkF hS (RDL.ofInts ns)) .nil,rfl,rfl,h ns hl,fun v H0' H' _ r=>by rw[RD.blI r];exact q H'⟩
end
end LE

namespace L2
open PySem PySem.Spec PyProof.Rows
end L2
namespace LE
open PySem L2 LR
section
variable{K:Frag}{C:Addr}{m:Bool}
end
end LE

namespace LE
open PySem L2 LR
noncomputable def okS(P:En->Prop):Option Out->Prop
 | some (.nx E)=>P E
 | some (.ct E)=>P E
 | _=>False
theorem JnW{P:En->Prop}{E:En}:okS P (some (.nx E))=P E:=rfl
theorem Jds{P:En->Prop}{o:Option Out}(h:okS P o):∃E,(o=some (.nx E)\/o=some (.ct E))/\P E:=by
 unfold okS at h;split at h
 ·exact⟨_,.inl rfl,h⟩
 ·exact⟨_,.inr rfl,h⟩
 ·exact h.elim
theorem YT{γ α β:Type}{p:Pt}{b:Es}{f:α->D}{k:Out->Option γ}{r:Option γ}(R:List α->β->En->Prop)(g:β->α->β):∀{as:List α} {E:En} (s:β) (h0:R as s E)
 (h:∀a as s E,R (a::as) s E->okS (R as (g s a)) ((p.bind (f a) E).bind b)) (fin:∀E',R [] (as.foldl g s) E'->k (.nx E')=r),(YD p b (as.map f) E).bind k=r
 | [],E,s,h0,_,fin=>fin E h0
 | a::as,E,s,h0,h,fin=>by
  obtain⟨E2,e2,r2⟩:=Jds (h a as s E h0);have ih:=YT (k:=k) (r:=r) R g (as:=as) (E:=E2) (g s a) r2 h fin;rw[Qe,YD]
  cases hp:p.bind (f a) E with
  | none=>rw[hp] at e2;rcases e2 with e2|e2 <;> cases e2
  | some E1=>rw[hp,QM] at e2;rw[QM];rcases e2 with e2|e2 <;> (rw[e2,QM];exact ih)
theorem JiW{γ:Type}{p:Pt}{b:Es}{f:Nat->D}{n:Nat}{E:En}{k:Out->Option γ}{r:Option γ}(R:Nat->En->Prop)(h0:R 0 E)
 (h:∀i E,i<n->R i E->okS (R (i+1)) ((p.bind (f i) E).bind b)) (fin:∀E',R n E'->k (.nx E')=r):(YD p b ((Q0 n).map f) E).bind k=r:=by
 refine YT (fun(as:List Nat) (i:Nat) E=>i+as.length=n/\as=List.range' i as.length/\R i E) (fun i _=>i+1) 0 ⟨by simp,by simp[List.range_eq_range'],h0⟩ (fun a as i E ⟨hk,e,q⟩=>?_) fun E' ⟨hk,_,q⟩=>?_
 ·rw[Qo,List.range'_succ] at e;have e1:a=i:=(List.cons.inj e).1;subst e1;obtain⟨E2,e2,r2⟩:=Jds (h a E (by rw[Qo] at hk;omega) q);have fin2:(a+1)+as.length=n/\as=List.range' (a+1) as.length/\R (a+1) E2:=⟨by rw[Qo] at hk;omega,(List.cons.inj e).2,r2⟩
  rcases e2 with e2|e2 <;> (rw[e2];exact fin2)
 ·have e3:(Q0 n).foldl (fun i _=>i+1) 0=n:=by simpa using hk
  rw[e3] at q;exact fin E' q
theorem Ya{α:Type}{p:Pt}{a:Ev}{E1:En}{f g:α->D}:∀{xs:List α},(∀x∈xs,((p.bind (f x) E1).bind a).bind Sl.frz=some (g x))->Vc p yes? a E1 (xs.map f)=some (xs.map g)
 | [],_=>rfl
 | x::xs,h=>by have h1:=h x Qd;obtain⟨s,e1,e2⟩:=bind_some h1;obtain⟨E2,e3,e4⟩:=bind_some e1;rw[Qe,Vc,e3];simp only[QM,yes?,if_true,e4,e2];rw[Ya fun y hy=>h y (Qc _ hy)];rfl
theorem JbL{α:Type}{p:Pt}{c:En->Option Bool}{a:Ev}{E1:En}{f g:α->D}{k:α->Bool}:∀{xs:List α},(∀x∈xs,(p.bind (f x) E1).bind c=some (k x)/\(k x=true->((p.bind (f x) E1).bind a).bind Sl.frz=some (g x)))->Vc p c a E1 (xs.map f)=some ((xs.filter k).map g)
 | [],_=>rfl
 | x::xs,h=>by
  obtain⟨h1,h2⟩:=h x Qd;obtain⟨E2,e3,e4⟩:=bind_some h1;have ih:=JbL (xs:=xs) (fun y hy=>h y (Qc _ hy));rw[Qe,Vc,e3];simp only[QM,e4]
  cases hk:k x with
  | false=>rw[if_neg (by simp),ih,Lj (by simp[hk])]
  | true=>obtain⟨s,e1,e2⟩:=bind_some (h2 hk);rw[e3,QM] at e1;rw[if_pos rfl,e1];simp only[QM,e2];rw[ih,Lk hk];rfl
theorem Jqm(n:Nat):rng 0 n=(Q0 n).map fun i=>.int (i:Int):=by unfold rng;exact Qy fun i _=>by rw[Lo]
theorem Jmg:sizeLine=16777216:=rfl
theorem Jby{α β:Type}(f:α->β)(xs:List α)(i:Int):atI (xs.map f) i=(atI xs i).map f:=by
 unfold atI;rw[Qk]
 cases ixN xs.length i with
 | none=>rfl
 | some j=>simp
theorem JhX{α:Type}{xs:List α}{k:Nat}(h:k<xs.length):atI xs (k:Int)=some xs[k]:=by unfold atI ixN;rw[if_pos (by omega),if_pos (by omega)];simp[h]
theorem JcI{ns:List Int}{k:Int}(h0:0<=k)(h:k<(ns.length:Int)):atI ns k=some (cell ns k):=by
 obtain⟨j,rfl⟩:=Int.eq_ofNat_of_zero_le h0;have hj:j<ns.length:=by omega
 rw[JhX hj];simp[cell,hj]
theorem JcJ{l:List Int}{k:Int}(h0:0<=k)(h1:k<(l.length:Int)):atI (l.map D.int) k=some (.int (Jcn l k)):=by rw[Jby,JcI h0 h1];rfl
structure Kd {α:Type} (f:α->D) (n:Nat):Prop where
 lay:∀a,(f a).py.canLay0=true
 dep:∀a,(f a).py.depth<=n
 eqv:∀a b,LA (f a).py (f b).py=true↔a=b
theorem Kd.eq{α:Type}[DecidableEq α]{f:α->D}{n:Nat}(k:Kd f n)(h:n<=60)(a b:α):eqD (f a) (f b)=some (decide (a=b)):=by unfold eqD;have:=k.dep a;rw[k.lay a,k.lay b,if_pos (by simp;omega)];congr 1;rw[G5,k.eqv];simp
theorem Jny:Kd D.int 1:=⟨fun _=>rfl,fun _=>by simp[D.py,MP],fun a b=>by show(a == b)=true↔_;simp⟩
theorem WU{α:Type}{f:α->D}{n:Nat}(k:Kd f n):(∀xs:List α,KZ (D.pyL (xs.map f))=true)/\(∀xs:List α,LN (D.pyL (xs.map f))<=n)/\∀xs ys:List α,La (D.pyL (xs.map f)) (D.pyL (ys.map f))=true↔xs=ys:=by
 refine⟨fun xs=>?_,fun xs=>?_,fun xs=>?_⟩
 ·induction xs with
  | nil=>rfl
  | cons x xs ih=>show(PyData.canLay0 _ && KZ _)=true;rw[k.lay,ih];rfl
 ·induction xs with
  | nil=>simp[D.pyL,LN]
  | cons x xs ih=>have:=k.dep x;simp only[Qe,D.pyL,LN];omega
 ·induction xs with
  | nil=>intro ys;cases ys with
   | nil=>simp[D.pyL,La]
   | cons y ys=>simp[D.pyL,La]
  | cons x xs ih=>intro ys;cases ys with
   | nil=>simp[D.pyL,La]
   | cons y ys=>simp only[Qe,D.pyL,La,QT,k.eqv,ih,List.cons.injEq]
theorem JiP{α:Type}{f:α->D}{n:Nat}(k:Kd f n):Kd (fun xs:List α=>D.lst (xs.map f)) (n+1) :=
 ⟨fun xs=>(WU k).1 xs,fun xs=>by have:=(WU k).2.1 xs;simp only[D.py,MP];omega,fun xs ys=>by simp only[D.py,LA];exact(WU k).2.2 xs ys⟩
theorem Jnz{α:Type}{f:α->D}{n:Nat}(k:Kd f n):Kd (fun xs:List α=>D.tup (xs.map f)) (n+1) :=
 ⟨fun xs=>(WU k).1 xs,fun xs=>by have:=(WU k).2.1 xs;simp only[D.py,MP];omega,fun xs ys=>by simp only[D.py,LA];exact(WU k).2.2 xs ys⟩
theorem JmM:Kd prE 2:=⟨fun _=>rfl,fun _=>by simp[prE,D.py,D.pyL,MP,LN],fun a b=>by obtain⟨a1,a2⟩:=a;obtain⟨b1,b2⟩:=b;simp[prE,D.py,D.pyL,LA,La]⟩
theorem JkK(a b:List Pr):eqD (.lst (a.map prE)) (.lst (b.map prE))=some (decide (a=b)):=(JiP JmM).eq (by decide) a b
theorem JkL(a b:List Pr):eqD (.tup (a.map prE)) (.tup (b.map prE))=some (decide (a=b)):=(Jnz JmM).eq (by decide) a b
theorem Jiq(a b:List Int):eqD (.lst (a.map .int)) (.lst (b.map .int))=some (decide (a=b)):=(JiP Jny).eq (by decide) a b
theorem Wm{s:Sl}{ps:List Pr}(e:s.q=some (ps.map prE))(g:Good ps)(h:ps.length<=30):JaO [s]=some (.sh (.row (ps.map prE))):=by show(s.q.bind _)=_;rw[e,QM,Jbt,QM,ZX g,if_pos (by simp[h])]
section
variable{a b:Int}{xs ys:List D}{d:D}{x y:Str}{E:En}{B:Es}{r:Sl}
theorem Jmc:Je0 B (.nx E)=B E:=rfl
theorem Jmd:Je0 B (.rt r)=some (.rt r):=rfl
theorem JkG:Jen (.nx E)=some (.sh .non):=rfl
theorem JkH:Jen (.rt r)=some r:=rfl
theorem Jpg{g:Int->Int->D}:fI g (.sh (.int a)) (.sh (.int b))=some (.sh (g a b)):=rfl
theorem JkW(h:(-18446744073709551616<a/\a<18446744073709551616)\/(-18446744073709551616<b/\b<18446744073709551616)):V4 (.sh (.int a)) (.sh (.int b))=some (.sh (.int (a*b))):=by show(if _ then _ else _)=_;rw[if_pos];simp only[Lc,Vu];exact h
theorem JkV(h:0<b):ZU (.sh (.int a)) (.sh (.int b))=some (.sh (.int (a % b))):=by show(if _ then _ else _)=_;rw[if_pos (by simpa using h)]
theorem JkS(h:0<b/\b<1073741824):Jir (.sh (.int a)) (.sh (.int b))=some (.sh (.int (a / b))):=by show(if _ then _ else _)=_;rw[if_pos (smallP_ok.mpr h)]
theorem JkZ(h:0<=b/\b<=1000000/\-1000<a/\a<1000):JkY (.sh (.int a)) (.sh (.int b))=some (.sh (.int (a ^ b.toNat))):=by show(if _ then _ else _)=_;rw[if_pos];simp only[QT,decide_eq_true_eq,Ks,Vu];omega
theorem JkX:JbN (.sh (.int a))=some (.sh (.int (-a))):=rfl
theorem JkM:Y3 (.sh (.int a)) (.sh (.int b))=some (.sh (.int (a+b))):=rfl
theorem Jef{p q:Sl}(h1:p.m=some xs)(h2:q.m=some ys)(h:xs.length+ys.length<=16777216):JgX p q=some (.own (xs++ys)):=by unfold JgX;rw[h1,h2];exact if_pos h
theorem JkN(h:xs.length+ys.length<=16777216):Y3 (.own xs) (.own ys)=some (.own (xs++ys)):=Jef rfl rfl h
theorem JkO(h:xs.length+ys.length<=16777216):Y3 (.own xs) (.sh (.lst ys))=some (.own (xs++ys)):=Jef rfl rfl h
theorem JkP(h:xs.length+ys.length<=16777216):Y3 (.sh (.lst xs)) (.own ys)=some (.own (xs++ys)):=Jef rfl rfl h
theorem Jnl:JgY [.sh (.fz xs)]=some (.sh (.int xs.length)):=rfl
theorem Jnm:JgY [.sh (.tup xs)]=some (.sh (.int xs.length)):=rfl
theorem Jpi:fIx (.sh (.fz xs)) (.sh (.int a))=(atI xs a).map .sh:=rfl
theorem Jpk:fIx (.sh (.tup xs)) (.sh (.int a))=(atI xs a).map .sh:=rfl
theorem Jph:fIx (.bo xs) (.sh (.int a))=(atI xs a).map .sh:=rfl
theorem Jpj:fIx (.own xs) (.sh (.int a))=(atI xs a).map .sh:=rfl
theorem Jnk:eqA (.int a) (.int b)=some (decide (a=b)):=rfl
theorem Jio(p q:List Pr):eqA (.lst (p.map prE)) (.lst (q.map prE))=some (decide (p=q)):=JkK p q
theorem Jnj(p q:List Pr):eqA (.tup (p.map prE)) (.tup (q.map prE))=some (decide (p=q)):=JkL p q
theorem Jni(p q:List Int):eqA (.lst (p.map .int)) (.lst (q.map .int))=some (decide (p=q)):=Jiq p q
theorem Jew(h:-4611686018427387904<a/\a<4611686018427387904):Jev a=true:=by unfold Jev;rw[Ks];omega
theorem VS{s:Sl}{ns:List Int}(e:s.q=some (ns.map .int)):JbO [s]=some (.sh (.int ns.sum)):=by show(s.q.bind _)=_;rw[e,QM,Z3];rfl
theorem JkR{s:Sl}{ns:List Bool}(e:s.q=some (ns.map .bl)):JkQ [s]=some (.sh (.bl (ns.any id))):=by show(s.q.bind _)=_;rw[e,QM,Jfk];rfl
theorem Jo6{i:Nat}:(Pt.nm i).bind d E=if i<E.length then some (E.set i (.sh d)) else none:=by rw[Pt.bind]
theorem Jo7{l:Pts}:(Pt.tp l).bind (.tup xs) E=l.bind xs E:=by rw[Pt.bind]
theorem Jkt:Pts.nil.bind [] E=some E:=by rw[Pts.bind]
theorem JhN{q:Pt}{l:Pts}:(Pts.cons q l).bind (d::xs) E=(q.bind d E).bind fun E'=>l.bind xs E':=by rw[Pts.bind]
theorem Jg9:D.isNon .non=true:=rfl
theorem Jg7:D.isNon (.int a)=false:=rfl
theorem Jha:D.isNon (.tup xs)=false:=rfl
theorem Jg8:D.isNon (.lst xs)=false:=rfl
theorem JnF:JnE "list" "list"=true:=by decide
end
end LE

namespace HT
open PySem PySem.Spec PyProof.Rows
section
variable{prog:Program}{w:World}{A:Around}{E:Value->Shared->Prop}{s:Shared}
theorem Wo{t sl:Addr}{items:Array Value}{vl vu:Value}{lo hi:Option Int}{Q:Value->Shared->Prop}(ht:IsTup s.heap t items)(hs:s.heap.IsSliceOf sl vl vu .none)(pl:IsPart vl lo)(pu:IsPart vu hi)
 (hw:sIx items.size 0 lo=0/\sIx items.size items.size hi=items.size) (h:Q (.ref t) s):wpAny (model prog w) A (getItem (.ref t) (.ref sl)) Q E s:=by
 obtain⟨os,hos,hcs,hds⟩:=id hs;have hTs:s.TypeIs (.ref sl) "slice":=⟨os,hos,hcs⟩
 unfold getItem
 try with_reducible refine GG ?_
 first|refine Qa (Qg ?_)|skip
 refine Qa (wpAny_sequenceKey ht.typeIs (by decide) ?_);refine Qa (QK (name:=Gb "__getitem__") ht.typeIs Q8
  (QS Q8 ht.typeIs entry_tuple_getitem ?_ (args_tuple_getitem _ _)))
 show wpAny _ _ (L9 (.ref t) >>= _) _ _ s;refine Qa (tupleItemsOf_ ht ?_);refine Qa (MN hTs ?_);rw[if_pos (by decide)];refine Qa (Vm hs pl pu ?_)
 have yes:(((sIx items.size 0 lo:Nat):Int) == 0 && (1:Int) == 1 && (sIx items.size items.size hi-sIx items.size 0 lo) == items.size)=true:=by rw[hw.1,hw.2];simp
 show wpAny _ _ (if (((sIx items.size 0 lo:Nat):Int) == 0 && (1:Int) == 1 && (sIx items.size items.size hi-sIx items.size 0 lo) == items.size)=true then _ else _) _ _ s;rw[if_pos yes];unfold Builtin.Tuple.tupleIsExact;refine Qa (Qa (MN ht.typeIs (Qg ?_)));rw[if_pos (by decide)];refine Qa (Lg ?_);exact Qg ⟨_,rfl,Qg h⟩
end
end HT
namespace L2
open PySem PySem.Spec PyProof.Rows
section
variable{X:Cx}{K:Frag}
noncomputable def JpS(K:Frag):V->Option Int->Option Int->Hp->VK->Prop:=fun x lo hi H Q=>∃a xs,x=.ref a/\SqT K H a xs/\(HT.sIx xs.length 0 lo=0/\HT.sIx xs.length xs.length hi=xs.length)/\Q (.ref a) H
theorem Jj1:SlR X (JpS X.K):=by
 intro pins s σ H x v vl vu lo hi sl Q I rx hs pl pu h;obtain⟨a,xs,rfl,hx,hw,q⟩:=h;cases rx;obtain⟨its,r,ht,hz⟩:=I.tuple hx;have hlen:its.toArray.size=xs.length:=by rw[Qp];exact r.length.symm
 refine⟨"tuple",_,Q8.lookup,ht.typeIs,?_⟩;exact HT.Wo ht hs pl pu (by rw[hlen];exact hw) ⟨.ref a,H,I,rfl,q⟩
noncomputable def Jon(K:Frag):V->Option Int->Option Int->Hp->VK->Prop:=fun x lo hi H Q=>JpQ K x lo hi H Q\/JpR K x lo hi H Q\/JpS K x lo hi H Q
theorem ZC(hK:X.K=K):SlR X (Jon K):=by subst hK;exact sl_list.or (sl_tup.or Jj1)
end
end L2
namespace LE
open PySem L2 LR
noncomputable def ZO{α:Type}(xs:List α)(lo hi:Option Int):List α:=(xs.drop (HT.sIx xs.length 0 lo)).take (HT.sIx xs.length xs.length hi-HT.sIx xs.length 0 lo)
noncomputable def fSl(s:Sl)(lo hi:Option Int):Option Sl:=match s with
 | .sh (.tup ds)=>some (.sh (.tup (ZO ds lo hi)))
 | s=>s.r.map fun ds=>.own (ZO ds lo hi)
noncomputable def ZR(o:Option Ev):En->Option (Option Int):=fun E=>match o with
 | none=>some none
 | some a=>(a E).bind fun s=>match s with
  | .sh (.int i)=>some (some i)
  | _=>none
noncomputable def eSl(a:Ev)(lo hi:Option Ev):Ev:=fun E=>(a E).bind fun s=>(ZR lo E).bind fun l=>(ZR hi E).bind fun h=>fSl s l h
section
variable{K:Frag}{C:Addr}{te:TE}{ea:Ev}{tl th:TO}{el eh:Option Ev}
noncomputable def SP'(K:Frag)(C:Addr)(t:TO)(ev:En->Option (Option Int)):Prop:=∀(B H0 H:Hp) (σ:St) (E:En) (r:Option Int) (Q:Option Int->Hp->Prop),EnvR K C B H0 H σ E->ev E=some r ->
 (∀H0' H',Step H H0 H H0' H'->Q r H')->t σ H Q
theorem Jcj:SP' K C Jgr (ZR none):=fun _ _ _ _ _ _ _ I e q=>by cases e;exact q _ _ (.refl I.h)
theorem Jck(ha:SE K C te ea):SP' K C (JmY te) (ZR (some ea)):=by
 intro B H0 H σ E r Q I e q;obtain⟨s,e1,e⟩:=bind_some e;split at e
 ·cases e;exact ha B H0 H σ E _ _ I e1 fun x H1 H1' s1 r1=>⟨_,RD.intI r1,q _ _ s1⟩
 ·cases e
theorem RDL.cut{H:Hp}{xs:List V}{ds:List D}{lo hi:Option Int}(r:RDL K C H xs ds):RDL K C H (JaN xs lo hi) (ZO ds lo hi):=by unfold JaN ZO;rw[r.1];exact(r.drop _).take _
theorem Jl8(ha:SE K C te ea)(hl:SP' K C tl (ZR el))(hh:SP' K C th (ZR eh)):SE K C (tSl (Jon K) te tl th) (eSl ea el eh):=by
 intro B H0 H σ E c Q I e q;obtain⟨s,e1,e⟩:=bind_some e;obtain⟨l,e2,e⟩:=bind_some e;obtain⟨h,e3,e⟩:=bind_some e;refine ha B H0 H σ E _ _ I e1 fun x H1 H1' s1 r1=>hl B H1 H1' σ E l _ (I.step s1) e2 fun H2 H2' s2=>hh B H2 H2' σ E h _ (I.step (s1.trans s2)) e3 fun H3 H3' s3=>?_
 have s13:=(s1.trans s2).trans s3
 have r3:=(r1.step s2).step s3
 have lst:∀{ds:List D},s.r=some ds->c=.own (ZO ds l h)->Jon K x l h H3' Q:=fun {ds} er ec=>by subst ec;obtain⟨a,xs,rfl,hq,r⟩:=r3.r s13.i er;exact .inl ⟨a,xs,rfl,hq,fun p hp=>U4 s13.i s13.h hp r.cut fun v H4 H4' s4 r4=>q v H4 H4' (s13.comp s4 fun _ z=>z) r4⟩
 unfold fSl at e;split at e
 ·cases e;obtain⟨a,xs,rfl,hq,r⟩:=RD.tupI r3
  by_cases hw:HT.sIx xs.length 0 l=0/\HT.sIx xs.length xs.length h=xs.length
  ·refine .inr (.inr ⟨a,xs,rfl,s13.i.seqT hq,hw,q _ _ _ s13 ?_⟩);have e5:JaN xs l h=xs:=by unfold JaN;rw[hw.1,hw.2];simp
   have r5:=r.cut (lo:=l) (hi:=h);rw[e5] at r5;exact RD.mkT hq r5
  ·exact .inr (.inl ⟨a,xs,rfl,s13.i.seqT hq,hw,fun p hp=>Jcz s13.i s13.h hp r.cut fun v H4 H4' s4 r4=>q v H4 H4' (s13.comp s4 fun _ z=>z) r4⟩)
 ·obtain⟨ds,e4,e5⟩:=map_some e;exact lst e4 e5.symm
end
end LE

namespace PySem
section
variable{prog:Program}{w:World}{A:Around}
theorem Draws.tup(hh:A.handled=none)(j a:Addr)(ne:a≠j)(xs:Array Value):Draws prog w A j [j,a] xs.size (fun i v=>xs[i]?=some v) (fun i h=>h.IsTupleIter j a i/\h.IsTuple a xs) where
 live:=fun _ _ q=>let ⟨o,ho,_⟩:=q.1;⟨o,ho⟩
 frame:=fun _ _ _ q k=>⟨q.1.at fun o e=>k j (by simp) o e,q.2.at fun o e=>k a (by simp) o e⟩
 item:=fun i s Q E hi q hQ=>by
  obtain⟨o,ho,hc,hd⟩:=id q.1;obtain⟨ol,hol,_,nl,hdl⟩:=id q.2;have hx:xs[i]?=some xs[i]:=by simp[hi]
  unfold QY;refine Qa (QK (name:=Gb "__next__") q.1.typeIs Kc (QS Kc q.1.typeIs LZ ?_ (LO _)));show wpAny _ _ (field (.ref j) 0 >>= _) _ _ s;refine Qa (QN ho hd (x:=.ref a) rfl ?_);show wpAny _ _ (if (Value.ref a == Value.none)=true then _ else _) _ _ s;rw[if_neg (show ¬((Value.ref a == Value.none)=true) from Qt)]
  show wpAny _ _ (field (.ref j) 1 >>= _) _ _ s;refine Qa (QN ho hd (x:=.int i 0) rfl (show wpAny _ _ (seqItems? (.ref a) >>= _) _ _ s from Qa (Gk hol hdl ?_)));simp only[KY,hx];refine Qa (Ma ho hd (by simp) (Qg ⟨xs[i],rfl,Qg (hQ _ _ s.toks hx ⟨⟨_,GC _ ho (MZ (Lh hd _)),(Obj.cls_mapFields ..).trans hc,?_⟩,q.2.extBut (G7 ..).extBut ne⟩ (G7 ..))⟩))
  rw[Lh hd];simp[rawInt]
 done:=fun s Q E q hE=>by
  obtain⟨o,ho,hc,hd⟩:=id q.1;obtain⟨ol,hol,_,nl,hdl⟩:=id q.2;have hx:xs[xs.size]?=none:=by simp
  unfold QY;refine Qa (QK (name:=Gb "__next__") q.1.typeIs Kc (QS Kc q.1.typeIs LZ ?_ (LO _)));show wpAny _ _ (field (.ref j) 0 >>= _) _ _ s;refine Qa (QN ho hd (x:=.ref a) rfl ?_);show wpAny _ _ (if (Value.ref a == Value.none)=true then _ else _) _ _ s;rw[if_neg (show ¬((Value.ref a == Value.none)=true) from Qt)]
  show wpAny _ _ (field (.ref j) 1 >>= _) _ _ s;refine Qa (QN ho hd (x:=.int xs.size 0) rfl (show wpAny _ _ (seqItems? (.ref a) >>= _) _ _ s from Qa (Gk hol hdl ?_)));simp only[KY,hx];refine Qa (Lg (Qa (Ma ho hd (by simp) (show wpAny _ _ (newExc (.type "StopIteration") [] >>= _) _ _ _ from Qa ?_))));simp only[newExc,newTuple];refine Qa (Q3 (Qa (m:=firstArgMember _ _) (Kl (a:=Value.none) (by first | rfl | (simp only[firstArgMember];rfl)) (Q3 ?_ (by size_fits)))) (by size_fits))
  simp only[raiseNew];refine Qa (wpAny_handled ?_)
  first|rw[show A.in1.handled=none from hh]|rw[hh]
  refine Qa (Qg (wpAny_throw ?_));exact hE _ _ (((G7 ..).extBut.push _).push _) ⟨_,Qi _ rfl,rfl⟩
end

structure ZA (z TI TO i1 i2:Addr) (p1 p2:List Addr):Prop where
 a1:TI≠z
 a2:TO≠z
 a3:TI≠TO
 m1:i1∈p1
 m2:i2∈p2
 z1:z∉p1
 z2:z∉p2
 t1:TI∉p1
 t2:TI∉p2
 o1:TO∉p1
 o2:TO∉p2
 x1:i1∉p2
 x2:i2∉p1
section
variable{prog:Program}{w:World}{A:Around}{E:Value->Shared->Prop}{s:Shared}{z TI TO i1 i2:Addr}{p1 p2:List Addr}{n1 n2 k:Nat}{P1 P2:Nat->Value->Prop}{S1 S2:Nat->Heap->Prop}
theorem Jbv{a b:Value}{Q:Value->Shared->Prop}(D:ZA z TI TO i1 i2 p1 p2)(D1:Draws prog w A i1 p1 n1 P1 S1)(D2:Draws prog w A i2 p2 n2 P2 S2)(gz:IsZip s.heap z TI TO .none)(gI:IsPair s.heap TI (.ref i1) (.ref i2))(gO:IsPair s.heap TO a b)
 (st1:S1 k s.heap) (st2:S2 k s.heap) (l1:k<n1) (l2:k<n2)
 (hQ:∀x y h' tk,P1 k x->P2 k y->IsZip h' z TI TO (rawInt s.heap.objs.size)->IsPair h' TI (.ref i1) (.ref i2)->IsPair h' TO x y->S1 (k+1) h'->S2 (k+1) h'->IsPair h' s.heap.objs.size x y->h'.objs.size=s.heap.objs.size+1 ->
  (∀c o,c≠z->c≠TO->c≠i1->c≠i2->s.heap.get? c=some o->h'.get? c=some o)->Q (.ref s.heap.objs.size) { s with heap:=h',toks:=tk }) :
 wpAny (model prog w) A (Builtin.«zip.__next__» ⟨[.ref z],[]⟩) (fun fin s'=>∃v,fin=.done (.ret v)/\Q v s') E s:=by
 obtain⟨hp,g,d,t0,os⟩:=s;have zi1:i1≠z:=fun q=>D.z1 (q▸D.m1)
 have zi2:i2≠z:=fun q=>D.z2 (q▸D.m2)
 have oi1:i1≠TO:=fun q=>D.o1 (q▸D.m1)
 have oi2:i2≠TO:=fun q=>D.o2 (q▸D.m2)
 have ii1:i1≠TI:=fun q=>D.t1 (q▸D.m1)
 have ii2:i2≠TI:=fun q=>D.t2 (q▸D.m2)
 have i12:i1≠i2:=fun q=>D.x1 (q▸D.m2)
 show wpAny _ _ (field (.ref z) 2 >>= _) _ _ _;refine Qa (QN gz rfl (x:=.bool false) rfl (show wpAny _ _ (field (.ref z) 3 >>= _) _ _ _ from Qa (QN gz rfl (x:=.ref TI) rfl (Qa (Gk gI rfl ?_)))))
 show wpAny _ _ (QJ (.ref z) >>= _) _ _ _;refine Qa ?_;unfold QJ;refine Qa (QN gz rfl (x:=.none) rfl (Qg ?_));simp only[if_true];refine Qa (Lg (Qa (QN gz rfl (x:=.ref TO) rfl (Qa (Q4 gz (by simp) fun k1 y1 e1=>?_)))))
 replace y1:IsZip k1 z TI TO .ellipsis:=y1
 replace e1:QB z hp k1:=e1;refine Qa ?_;simp only[Ky,List.zipIdx_nil,LP,Mb];refine Qa (Qa (Mx (show wpAny _ _ (QY (.ref i1) >>= _) _ _ _ from Qa (D1.item k _ _ _ l1 (D1.frame _ _ _ st1 fun b hb o q=>e1.extBut b o (fun r=>D.z1 (r▸hb)) q) fun x k2 t2 px s2 e2=>Qg ?_))))
 replace e2:QB i1 k1 k2:=e2;have O2:IsPair k2 TO a b:=e2.extBut _ _ (QO oi1) (e1.extBut _ _ D.a2 gO);refine Qa (Gk (s:=⟨k2,g,d,t2,os⟩) O2 rfl (Qa (LF (s:=⟨k2,g,d,t2,os⟩) O2 fun k3 O3 e3=>?_)))
 replace O3:IsPair k3 TO x b:=O3
 replace e3:QB TO k2 k3:=e3;refine Qa (KD (Qg ?_));have st2':S2 k k3:=D2.frame _ _ _ st2 fun b hb o q=>e3.extBut b o (fun r=>D.o2 (r▸hb)) (e2.extBut b o (fun r=>D.x1 (r▸hb)) (e1.extBut b o (fun r=>D.z2 (r▸hb)) q))
 refine Qa (Qa (Mx (show wpAny _ _ (QY (.ref i2) >>= _) _ _ _ from Qa (D2.item k _ _ _ l2 st2' fun y k4 t4 py s4 e4=>Qg ?_))))
 replace e4:QB i2 k3 k4:=e4;have O4:IsPair k4 TO x b:=e4.extBut _ _ (QO oi2) O3;refine Qa (Gk (s:=⟨k4,g,d,t4,os⟩) O4 rfl (Qa (LF (s:=⟨k4,g,d,t4,os⟩) O4 fun k5 O5 e5=>?_)))
 replace O5:IsPair k5 TO x y:=O5
 replace e5:QB TO k4 k5:=e5;refine Qa (KD (Qg (Qg (Qa (Gk (s:=⟨k5,g,d,t4,os⟩) O5 rfl (Qa (Mc ?_)))))));have hsz:k5.objs.size=hp.objs.size:=by rw[e5.1,e4.1,e3.1,e2.1,e1.1]
 have Z5:IsZip k5 z TI TO .ellipsis:=e5.extBut _ _ (QO D.a2) (e4.extBut _ _ (QO zi2) (e3.extBut _ _ (QO D.a2) (e2.extBut _ _ (QO zi1) y1)))
 have keep5:∀c o,c≠z->c≠TO->c≠i1->c≠i2->hp.get? c=some o->k5.get? c=some o:=fun c o c1 c2 c3 c4 q=>e5.extBut _ _ c2 (e4.extBut _ _ c4 (e3.extBut _ _ c2 (e2.extBut _ _ c3 (e1.extBut _ _ c1 q))))
 have T1:S1 (k+1) k5:=D1.frame _ _ _ s2 fun b hb o q=>e5.extBut b o (fun r=>D.o1 (r▸hb)) (e4.extBut b o (fun r=>D.x2 (r▸hb)) (e3.extBut b o (fun r=>D.o1 (r▸hb)) q))
 have T2:S2 (k+1) k5:=D2.frame _ _ _ s4 fun b hb o q=>e5.extBut b o (fun r=>D.o2 (r▸hb)) q
 have zlt:z<k5.objs.size:=Qj Z5
 show wpAny _ _ (GL (.ref z) (.ref k5.objs.size) >>= _) _ _ _;refine Qa ?_;unfold GL
 have Z6:IsZip (k5.push { cls:=.type "tuple",data:=.seq #[x,y] }) z TI TO .ellipsis:=Qf _ Z5;refine Qa (Q4 Z6 (by simp) fun k7 Z7 e7=>?_)
 replace Z7:IsZip k7 z TI TO (rawInt k5.objs.size):=Z7
 replace e7:QB z (k5.push { cls:=.type "tuple",data:=.seq #[x,y] }) k7:=e7;refine Q4 Z7 (by simp) fun k8 Z8 e8=>?_
 replace Z8:IsZip k8 z TI TO (rawInt k5.objs.size):=Z8
 replace e8:QB z k7 k8:=e8;have up:∀c o,c≠z->k5.get? c=some o->k8.get? c=some o:=fun c o c1 q=>e8.extBut _ _ c1 (e7.extBut _ _ c1 (Qf _ q))
 have N8:IsPair k8 k5.objs.size x y:=e8.extBut _ _ (Q1 zlt) (e7.extBut _ _ (Q1 zlt) (Qi _ rfl))
 have z8:k8.objs.size=k5.objs.size+1:=by rw[e8.1,e7.1,Gy]
 rw[hsz] at Z8 N8 z8;refine Qg ⟨_,rfl,?_⟩;show Q (.ref k5.objs.size) _;rw[hsz];refine hQ x y k8 t4 px py Z8 (up _ _ D.a1 (keep5 _ _ D.a1 D.a3 (QO ii1) (QO ii2) gI)) (up _ _ D.a2 O5) ?_ ?_ N8 z8 fun c o c1 c2 c3 c4 q=>up c o c1 (keep5 c o c1 c2 c3 c4 q)
 ·exact D1.frame _ _ _ T1 fun b hb o q=>up b o (fun r=>D.z1 (r▸hb)) q
 ·exact D2.frame _ _ _ T2 fun b hb o q=>up b o (fun r=>D.z2 (r▸hb)) q
theorem Jd1{a b:Value}{Q:Fin->Shared->Prop}(D:ZA z TI TO i1 i2 p1 p2)(D1:Draws prog w A i1 p1 n1 P1 S1)(D2:Draws prog w A i2 p2 n2 P2 S2)(gz:IsZip s.heap z TI TO .none)(gI:IsPair s.heap TI (.ref i1) (.ref i2))(gO:IsPair s.heap TO a b)
 (st1:S1 k s.heap) (st2:S2 k s.heap) (hend:k=n1\/(k<n1/\k=n2))
 (hE:∀h' e tk,(∀c o,c≠z->c≠TO->c≠i1->c≠i2->s.heap.get? c=some o->h'.get? c=some o)->(∃o,h'.get? e=some o/\o.cls=.type "StopIteration")->E (.ref e) { s with heap:=h',toks:=tk }) :
 wpAny (model prog w) A (Builtin.«zip.__next__» ⟨[.ref z],[]⟩) Q E s:=by
 obtain⟨hp,g,d,t0,os⟩:=s;have zi1:i1≠z:=fun q=>D.z1 (q▸D.m1)
 have zi2:i2≠z:=fun q=>D.z2 (q▸D.m2)
 have oi1:i1≠TO:=fun q=>D.o1 (q▸D.m1)
 show wpAny _ _ (field (.ref z) 2 >>= _) _ _ _;refine Qa (QN gz rfl (x:=.bool false) rfl (show wpAny _ _ (field (.ref z) 3 >>= _) _ _ _ from Qa (QN gz rfl (x:=.ref TI) rfl (Qa (Gk gI rfl ?_)))))
 show wpAny _ _ (QJ (.ref z) >>= _) _ _ _;refine Qa ?_;unfold QJ;refine Qa (QN gz rfl (x:=.none) rfl (Qg ?_));simp only[if_true];refine Qa (Lg (Qa (QN gz rfl (x:=.ref TO) rfl (Qa (Q4 gz (by simp) fun k1 y1 e1=>?_)))))
 replace y1:IsZip k1 z TI TO .ellipsis:=y1
 replace e1:QB z hp k1:=e1;refine Qa ?_;simp only[Ky,List.zipIdx_nil,LP,Mb];refine Qa (Qa (Mx (show wpAny _ _ (QY (.ref i1) >>= _) _ _ _ from Qa ?_)));have q1:S1 k k1:=D1.frame _ _ _ st1 fun b hb o q=>e1.extBut b o (fun r=>D.z1 (r▸hb)) q
 rcases hend with rfl|⟨l1,rfl⟩
 ·refine D1.done _ _ _ q1 fun k2 e e2 he=>?_
  replace e2:Ll i1 k1 k2:=e2;obtain⟨oe,hoe,hce⟩:=he;have Z2:IsZip k2 z TI TO .ellipsis:=e2 _ _ (QO zi1) y1;have ez:e≠z:=fun q=>by subst q;rw[Z2] at hoe;cases hoe;simp at hce
  exact Q4 Z2 (by simp) fun k3 _ e3=>hE k3 e t0 (fun c o c1 _ c3 _ q=>e3.extBut _ _ c1 (e2 _ _ c3 (e1.extBut _ _ c1 q))) ⟨oe,e3.extBut _ _ ez hoe,hce⟩
 ·refine D1.item k _ _ _ l1 q1 fun x k2 t2 px s2 e2=>Qg ?_
  replace e2:QB i1 k1 k2:=e2;have O2:IsPair k2 TO a b:=e2.extBut _ _ (QO oi1) (e1.extBut _ _ D.a2 gO);refine Qa (Gk (s:=⟨k2,g,d,t2,os⟩) O2 rfl (Qa (LF (s:=⟨k2,g,d,t2,os⟩) O2 fun k3 O3 e3=>?_)))
  replace e3:QB TO k2 k3:=e3;refine Qa (KD (Qg ?_));have st2':S2 k k3:=D2.frame _ _ _ st2 fun b hb o q=>e3.extBut b o (fun r=>D.o2 (r▸hb)) (e2.extBut b o (fun r=>D.x1 (r▸hb)) (e1.extBut b o (fun r=>D.z2 (r▸hb)) q))
  refine Qa (Qa (Mx (show wpAny _ _ (QY (.ref i2) >>= _) _ _ _ from Qa (D2.done _ _ _ st2' fun k4 e e4 he=>?_))))
  replace e4:Ll i2 k3 k4:=e4;obtain⟨oe,hoe,hce⟩:=he;have Z4:IsZip k4 z TI TO .ellipsis:=e4 _ _ (QO zi2) (e3.extBut _ _ (QO D.a2) (e2.extBut _ _ (QO zi1) y1));have ez:e≠z:=fun q=>by subst q;rw[Z4] at hoe;cases hoe;simp at hce
  exact Q4 Z4 (by simp) fun k5 _ e5=>hE k5 e t2 (fun c o c1 c2 c3 c4 q=>e5.extBut _ _ c1 (e4 _ _ c4 (e3.extBut _ _ c2 (e2.extBut _ _ c3 (e1.extBut _ _ c1 q))))) ⟨oe,e5.extBut _ _ ez hoe,hce⟩
end
end PySem

namespace PySem
def IsSq(b:Bool)(h:Heap)(a:Addr)(xs:Array Value):Prop:=match b with
 | true=>h.IsTuple a xs
 | false=>h.IsList a xs
def IsItr(b:Bool)(h:Heap)(j a:Addr)(i:Nat):Prop:=match b with
 | true=>h.IsTupleIter j a i
 | false=>h.IsListIter j a i
def itO(b:Bool)(a:Addr):Obj:=match b with
 | true=>{ cls:=.type "tuple_iterator",data:=.fields #[.ref a,.int 0 0] }
 | false=>{ cls:=.type "list_iterator",data:=.fields #[.ref a,.int 0 0] }
section
variable{prog:Program}{w:World}{A:Around}{E:Value->Shared->Prop}{s:Shared}{b b1 b2:Bool}{a a1 a2:Addr}{xs ys:Array Value}
theorem IsSq.push{h:Heap}(q:IsSq b h a xs)(o:Obj):IsSq b (h.push o) a xs:=by
 cases b with
 | true=>exact Heap.IsTuple.push q o
 | false=>exact Heap.IsList.push q o
theorem IsSq.lt{h:Heap}(q:IsSq b h a xs):a<h.objs.size:=by
 cases b with
 | true=>obtain⟨o,e,_⟩:=q;exact Qj e
 | false=>obtain⟨o,e,_⟩:=q;exact Qj e
theorem IsItr.new{h:Heap}(e:h.get? a1=some (itO b a)):IsItr b h a1 a 0:=by
 cases b with
 | true=>exact⟨_,e,rfl,rfl⟩
 | false=>exact⟨_,e,rfl,rfl⟩
theorem Vg{Q:Value->Shared->Prop}(q:IsSq b s.heap a xs)(h:Q (.ref s.heap.objs.size) { s with heap:=s.heap.push (itO b a) }):wpAny (model prog w) A (pyIter (.ref a)) Q E s:=by
 cases b with
 | true=>exact L6 q h
 | false=>exact Mo q h
theorem Draws.sq(hh:A.handled=none)(j:Addr)(ne:a≠j):Draws prog w A j [j,a] xs.size (fun i v=>xs[i]?=some v) (fun i h=>IsItr b h j a i/\IsSq b h a xs):=by
 cases b with
 | true=>exact Draws.tup hh j a ne xs
 | false=>exact Draws.list hh j a ne xs
abbrev zP1(h:Heap)(b1:Bool)(a1:Addr):Heap:=h.push (itO b1 a1)
abbrev zP2(h:Heap)(b1 b2:Bool)(a1 a2:Addr):Heap:=(zP1 h b1 a1).push (itO b2 a2)
abbrev zP3(h:Heap)(b1 b2:Bool)(a1 a2:Addr):Heap:=(zP2 h b1 b2 a1 a2).push { cls:=.type "tuple",data:=.seq #[.ref h.objs.size,.ref (zP1 h b1 a1).objs.size] }
abbrev zP4(h:Heap)(b1 b2:Bool)(a1 a2:Addr):Heap:=(zP3 h b1 b2 a1 a2).push { cls:=.type "tuple",data:=.seq #[.none,.none] }
abbrev zP5(h:Heap)(b1 b2:Bool)(a1 a2:Addr):Heap:=(zP4 h b1 b2 a1 a2).push { cls:=.type "zip",data:=.fields #[.none,.bool false,.bool false,.ref (zP2 h b1 b2 a1 a2).objs.size,.ref (zP3 h b1 b2 a1 a2).objs.size] }
theorem JeG(b1 b2:Bool)(a1 a2:Addr)(xs ys:Array Value):Meets (Builtin.«zip.__new__» ⟨[.type "zip",.ref a1,.ref a2],[]⟩) (fun _ R s=>IsSq b1 s.heap a1 xs/\IsSq b2 s.heap a2 ys ∧
 R (.ok (.ret (.ref (zP4 s.heap b1 b2 a1 a2).objs.size))) { s with heap:=zP5 s.heap b1 b2 a1 a2 }) :=
 .of_wp fun prog w A R s h=>by obtain⟨hp,g,d,tk,os⟩:=s;obtain⟨q1,q2,h⟩:=h;have hsub:=sub_zip;have r1:IsSq b1 (Ru ⟨hp,g,d,tk,os⟩) a1 xs:=q1;have r2:IsSq b2 (Ru ⟨hp.push (itO b1 a1),g,d,tk,os⟩) a2 ys:=IsSq.push q2 _;wp_walk using Vg r1,Vg r2;exact⟨_,rfl,h⟩
theorem Ja5{Q:Value->Shared->Prop}(q1:IsSq b1 s.heap a1 xs)(q2:IsSq b2 s.heap a2 ys)
 (h:∀h',IsZip h' (s.heap.objs.size+4) (s.heap.objs.size+2) (s.heap.objs.size+3) .none->IsPair h' (s.heap.objs.size+2) (.ref s.heap.objs.size) (.ref (s.heap.objs.size+1))->IsPair h' (s.heap.objs.size+3) .none .none ->
  IsItr b1 h' s.heap.objs.size a1 0->IsItr b2 h' (s.heap.objs.size+1) a2 0->(∀c o,s.heap.get? c=some o->h'.get? c=some o)->Q (.ref (s.heap.objs.size+4)) { s with heap:=h' }) :
 wpAny (model prog w) A (call (.type "zip") [.ref a1,.ref a2]) Q E s:=by
 refine callType_new F.called_zip (by decide) (F.typeCall_zip_2 _ _) (F.newCall_zip_2 _ _) (fun obj=>F.args_object_init_3 obj _ _) F.entry_zip_new (JeG b1 b2 a1 a2 xs ys) ⟨q1,q2,?_⟩;have z1:(zP1 s.heap b1 a1).objs.size=s.heap.objs.size+1:=Gy ..;have z2:(zP2 s.heap b1 b2 a1 a2).objs.size=s.heap.objs.size+2:=by rw[Gy,z1]
 have z3:(zP3 s.heap b1 b2 a1 a2).objs.size=s.heap.objs.size+3:=by rw[Gy,z2]
 have z4:(zP4 s.heap b1 b2 a1 a2).objs.size=s.heap.objs.size+4:=by rw[Gy,z3]
 have up:∀{k:Heap} {c:Addr} {o u:Obj},k.get? c=some o->(k.push u).get? c=some o:=fun q=>Qf _ q
 have fi1:(itO b1 a1).isFreed=false:=by cases b1 <;> rfl
 have fi2:(itO b2 a2).isFreed=false:=by cases b2 <;> rfl
 have g5:(zP5 s.heap b1 b2 a1 a2).get? (zP4 s.heap b1 b2 a1 a2).objs.size=some _:=Qi _ rfl
 have g4:(zP5 s.heap b1 b2 a1 a2).get? (zP3 s.heap b1 b2 a1 a2).objs.size=some _:=up (Qi _ rfl)
 have g3:(zP5 s.heap b1 b2 a1 a2).get? (zP2 s.heap b1 b2 a1 a2).objs.size=some _:=up (up (Qi _ rfl))
 have g2:(zP5 s.heap b1 b2 a1 a2).get? (zP1 s.heap b1 a1).objs.size=some _:=up (up (up (Qi _ fi2)))
 have g1:(zP5 s.heap b1 b2 a1 a2).get? s.heap.objs.size=some _:=up (up (up (up (Qi _ fi1))))
 show _/\_;rw[z2,z3,z4] at g5;rw[z1,z2] at g3;rw[z3] at g4;rw[z1] at g2;rw[z4];exact⟨⟨_,g5,rfl⟩,h _ g5 g3 g4 (.new g1) (.new g2) fun c o q=>up (up (up (up (up q))))⟩
end
end PySem

namespace L2
open PySem PySem.Spec PyProof.Rows
section
variable{X:Cx}{pins:List (Addr×Obj)}{σ:St}{H:Hp}{s:Shared}{h':Heap}
theorem Inv.turnedL{t':Nat}{fp:List Addr}(I:Inv X pins σ H s)(k:∀b o,b∉fp->s.heap.get? b=some o->h'.get? b=some o)(hf:∀b∈fp,FpOk X pins H b):Inv X pins σ H { s with heap:=h',toks:=t' }:=by
 have nit:∀b u,H b=some u->b∉fp:=fun b u e z=>by rw[(hf b z).1] at e;cases e
 refine I.step (g':=s.gens) (d':=s.drawn) (ch:=fp) (fun b hb=>?_) (fun b o _ _ hc e _=>k b o hc e) (fun b o _ _ hc e _=>⟨o.slots,k b o hc e⟩) (fun _ _ _ _ n=>n)
  (fun b o hc e=>⟨o,k b o hc e⟩) (fun _ _ e=>e) (fun _ _ _ e=>e) (fun b ps e=>⟨#[],by rw[e];simp⟩) (fun m hm=>?_) (fun b u e=>?_) I.bare
 ·obtain⟨f0,f1,f2,f3,f4,f5⟩:=hf b hb;exact⟨f3,f1,f4,f5⟩
 ·obtain⟨o,es,ep,ho,r⟩:=hm;exact⟨o,es,ep,k _ o (fun z=>(hf _ z).2.1 rfl) ho,r⟩
 ·refine(I.hok b u e).stay (fun c v hc q=>k c v ?_ q) (fun _ q=>q) fun _ _ q=>q
  rcases hc with z|z
  ·rw[z];exact nit b u e
  ·exact nit c _ z
noncomputable def Sq(b:Bool)(K:Frag)(H:Hp)(a:Addr)(xs:List V):Prop:=match b with
 | true=>SqT K H a xs
 | false=>SqL K H a xs
theorem Sq.heap{b:Bool}{a:Addr}{xs:List V}(I:Inv X pins σ H s)(q:Sq b X.K H a xs):∃its:List Value,Vals xs its/\IsSq b s.heap a its.toArray:=by
 cases b with
 | true=>obtain⟨its,r,p,_⟩:=I.tuple q;exact⟨its,r,p⟩
 | false=>obtain⟨its,r,p,_⟩:=I.list q;exact⟨its,r,p.isList⟩
theorem Sq.inj{b:Bool}{a:Addr}{xs ys:List V}(I:Inv X pins σ H s)(q:Sq b X.K H a xs)(q':Sq b X.K H a ys):xs=ys:=by
 cases b with
 | true=>exact I.tuple_inj q q'
 | false=>exact I.list_inj q q'
theorem FpOk.off{b:Bool}{a c:Addr}{xs:List V}(I:Inv X pins σ H s)(q:Sq b X.K H a xs)(f:FpOk X pins H c):a≠c:=by
 intro e;subst e;have own:∀{o:HO},H a=some o->False:=fun h=>by rw[f.1] at h;cases h
 have mod:∀{o:Obj},X.K.lookup a=some o->False:=fun {o} h=>by
  have hb:=I.ok.mod.kin a o h;rcases f.2.2.2.1 with z|z
  ·exact I.ok.noex a o hb z
  ·exact absurd (Qj hb) (Nat.not_lt.mpr (Gi I.ok.bsz z))
 cases b with
 | true =>
  rcases q with (h|⟨o,h⟩)|⟨o,its,n,h,_⟩
  ·exact own h
  ·exact own h
  ·exact mod h
 | false =>
  rcases q with (h|⟨o,h⟩)|⟨o,its,n,h,_⟩
  ·exact own h
  ·exact own h
  ·exact mod h
noncomputable def Itz(K:Frag)(b1 b2:Bool)(a1 a2:Addr):It :=
 ⟨fun i H=>∃xs ys x y,Sq b1 K H a1 xs/\Sq b2 K H a2 ys/\xs[i]?=some x/\ys[i]?=some y,
  fun i H x H'=>∃p u v,x=.ref p/\H p=none/\H'=upd H p (.tup [u,v])/\∀xs ys,Sq b1 K H a1 xs->Sq b2 K H a2 ys->xs[i]?=some u/\ys[i]?=some v,
  fun i H=>∃xs ys,Sq b1 K H a1 xs/\Sq b2 K H a2 ys/\i=min xs.length ys.length⟩
noncomputable def ZSt(b1 b2:Bool)(a1 a2 z TI TO i1 i2:Addr)(i:Nat)(h:Heap):Prop:=IsZip h z TI TO .none/\IsPair h TI (.ref i1) (.ref i2)/\(∃a b,IsPair h TO a b)/\IsItr b1 h i1 a1 i/\IsItr b2 h i2 a2 i
theorem IsItr.keep{b:Bool}{h h':Heap}{j a:Addr}{i:Nat}(q:IsItr b h j a i)(k:∀o,h.get? j=some o->h'.get? j=some o):IsItr b h' j a i:=by
 cases b with
 | true=>obtain⟨o,e,r⟩:=q;exact⟨o,k o e,r⟩
 | false=>obtain⟨o,e,r⟩:=q;exact⟨o,k o e,r⟩
theorem IsItr.obj{b:Bool}{h:Heap}{j a:Addr}{i:Nat}(q:IsItr b h j a i):∃o,h.get? j=some o/\∀v,o.data≠.cell v:=by
 cases b with
 | true=>obtain⟨o,e,_,d⟩:=q;exact⟨o,e,fun v z=>by rw[d] at z;cases z⟩
 | false=>obtain⟨o,e,_,d⟩:=q;exact⟨o,e,fun v z=>by rw[d] at z;cases z⟩
end
theorem Jm2{X:Cx}{pins:List (Addr×Obj)}{σ:St}{H:Hp}{s:Shared}{b1 b2:Bool}{a1 a2 z TI TO i1 i2:Addr}{xs ys:List V}(I:Inv X pins σ H s)(q1:Sq b1 X.K H a1 xs)(q2:Sq b2 X.K H a2 ys)(hf:∀b∈[z,TI,TO,i1,i2],FpOk X pins H b)
 (nd:[z,TI,TO,i1,i2].Nodup):ZA z TI TO i1 i2 [i1,a1] [i2,a2]:=by
 have o1:∀c∈[z,TI,TO,i1,i2],a1≠c:=fun c hc=>FpOk.off I q1 (hf c hc)
 have o2:∀c∈[z,TI,TO,i1,i2],a2≠c:=fun c hc=>FpOk.off I q2 (hf c hc)
 simp only[QP,Qh,Ga,or_false,not_or] at nd;obtain⟨⟨n1,n2,n3,n4⟩,⟨n5,n6,n7⟩,⟨n8,n9⟩,n10,_⟩:=nd;have c1:=o1 z (by simp);have c2:=o1 TI (by simp);have c3:=o1 TO (by simp);have c4:=o1 i2 (by simp);have d1:=o2 z (by simp);have d2:=o2 TI (by simp);have d3:=o2 TO (by simp);have d4:=o2 i1 (by simp);refine⟨QO n1,QO n2,n5,by simp,by simp,?_,?_,?_,?_,?_,?_,?_,?_⟩ <;> simp only[Qh,Ga,or_false,not_or]
 ·exact⟨n3,QO c1⟩
 ·exact⟨n4,QO d1⟩
 ·exact⟨n6,QO c2⟩
 ·exact⟨n7,QO d2⟩
 ·exact⟨n8,QO c3⟩
 ·exact⟨n9,QO d3⟩
 ·exact⟨n10,QO d4⟩
 ·exact⟨QO n10,QO c4⟩
theorem Jki{P:Program}{w:World}{K:Frag}{elts:List Expr}{kk:Nat}{pos:Pos}(b1 b2:Bool)(a1 a2 z TI TO i1 i2:Addr)(nd:[z,TI,TO,i1,i2].Nodup) :
 Turn P w K (.Tuple elts kk pos) (Itz K b1 b2 a1 a2) [z,TI,TO,i1,i2] z (ZSt b1 b2 a1 a2 z TI TO i1 i2) where
 mem:=by simp
 obj:=fun i h st b hb=>by
  obtain⟨s1,s2,⟨u,v,s3⟩,s4,s5⟩:=st;simp only[Qh,Ga,or_false] at hb;rcases hb with rfl|rfl|rfl|rfl|rfl
  ·exact⟨_,s1,fun v z=>nomatch (show Data.fields _=Data.cell v from z)⟩
  ·exact⟨_,s2,fun v z=>nomatch (show Data.seq _ _=Data.cell v from z)⟩
  ·exact⟨_,s3,fun v z=>nomatch (show Data.seq _ _=Data.cell v from z)⟩
  ·exact IsItr.obj (b:=b1) s4
  ·exact IsItr.obj (b:=b2) s5
 keep:=fun i h h' st k=>by obtain⟨s1,s2,⟨u,v,s3⟩,s4,s5⟩:=st;exact⟨k z (by simp) _ s1,k TI (by simp) _ s2,⟨u,v,k TO (by simp) _ s3⟩,IsItr.keep (b:=b1) s4 fun o e=>k i1 (by simp) o e,IsItr.keep (b:=b2) s5 fun o e=>k i2 (by simp) o e⟩
 item:=by
  intro X hP hw hK hc i pins s σ H E I hf st hg;subst hP hw hK;obtain⟨xs,ys,x,y,q1,q2,e1,e2⟩:=hg;obtain⟨its,r1,p1⟩:=q1.heap I;obtain⟨jts,r2,p2⟩:=q2.heap I;obtain⟨s1,s2,⟨u0,v0,s3⟩,s4,s5⟩:=st;have Z:=Jm2 I q1 q2 hf nd;have hh:X.A.in1.handled=none:=I.ok.hd hc;have ne1:a1≠i1:=FpOk.off I q1 (hf i1 (by simp));have ne2:a2≠i2:=FpOk.off I q2 (hf i2 (by simp));have D1:=Draws.sq (prog:=X.prog) (w:=X.w) (b:=b1) (xs:=its.toArray) hh i1 ne1
  have D2:=Draws.sq (prog:=X.prog) (w:=X.w) (b:=b2) (xs:=jts.toArray) hh i2 ne2
  have hT:s.TypeIs (.ref z) "zip":=⟨_,s1,rfl⟩
  have l1:i<its.toArray.size:=by have:=(Qn.mp e1).1;rw[Qp,<- r1.length];exact this
  have l2:i<jts.toArray.size:=by have:=(Qn.mp e2).1;rw[Qp,<- r2.length];exact this
  unfold pyNext;refine Qa (GN (QK (name:=Gb "__next__") hT Gz (QS Gz hT Kz (Jbv Z D1 D2 s1 s2 s3 ⟨s4,p1⟩ ⟨s5,p2⟩ l1 l2 fun u v k tk pu pv t1 t2 t3 t4 t5 t6 t7 t8=>Qg ?_) (Km _))));refine⟨_,rfl,wpAny_letOwnedTupleGo_zip (s:={ s with heap:=k,toks:=tk }) t1 fun k2 t9 e9=>?_⟩
  replace e9:QB z k k2:=e9;obtain⟨ux,hx1,rx⟩:=r1.get e1;obtain⟨uy,hy1,ry⟩:=r2.get e2
  have eu:u=ux:=by
   have pu':its[i]?=some u:=by simpa using pu
   rw[hx1] at pu';exact(QG pu').symm
  have ev:v=uy:=by
   have pv':jts[i]?=some v:=by simpa using pv
   rw[hy1] at pv';exact(QG pv').symm
  subst eu ev
  have zlt:∀b∈[z,TI,TO,i1,i2],b<s.heap.objs.size:=fun b hb=>by
   simp only[Qh,Ga,or_false] at hb;rcases hb with rfl|rfl|rfl|rfl|rfl
   ·exact Qj s1
   ·exact Qj s2
   ·exact Qj s3
   ·obtain⟨_,e,_⟩:=IsItr.obj (b:=b1) s4;exact Qj e
   ·obtain⟨_,e,_⟩:=IsItr.obj (b:=b2) s5;exact Qj e
  have nz:s.heap.objs.size≠z:=Q1 (zlt z (by simp))
  -- the pair is laid,then the private objects turn
  have I1:Inv X pins σ (upd H s.heap.objs.size (.tup [x,y])) { s with heap:=s.heap.push { cls:=.type "tuple",data:=.seq #[u,v] },toks:=s.toks } :=
   I.laid (o:=.tup [x,y]) (fun b ob q=>Qf _ q) (Qm _) ⟨by show 2<=sizeLine;decide,[u,v],.cons rx (.cons ry .nil),⟨_,Qi _ rfl,rfl,_,rfl⟩⟩
  have hf1:∀b∈[z,TI,TO,i1,i2],FpOk X pins (upd H s.heap.objs.size (.tup [x,y])) b:=fun b hb=>⟨by rw[Jm (QA (zlt b hb))];exact(hf b hb).1,(hf b hb).2⟩
  have I2:Inv X pins σ (upd H s.heap.objs.size (.tup [x,y])) { s with heap:=k2,toks:=tk }:=Inv.turnedL (s:={ s with heap:=s.heap.push { cls:=.type "tuple",data:=.seq #[u,v] },toks:=s.toks }) I1 (fun b o hb q=>by
   simp only[Qh,Ga,or_false,not_or] at hb;refine e9.extBut b o hb.1 ?_
   by_cases hbs:b=s.heap.objs.size
   ·subst hbs;have q':(s.heap.push { cls:=.type "tuple",data:=.seq #[u,v] }).get? s.heap.objs.size=some o:=q;rw[Qi _ rfl] at q';cases q';exact t6
   ·have q':s.heap.get? b=some o:=by have q2:(s.heap.push { cls:=.type "tuple",data:=.seq #[u,v] }).get? b=some o:=q;exact(Mq s.heap b _ hbs).symm.trans q2
    exact t8 b o hb.1 hb.2.2.1 hb.2.2.2.1 hb.2.2.2.2 q') hf1
  refine⟨.ref s.heap.objs.size,_,I2,rfl,⟨_,x,y,rfl,I.hok.fresh (Qm _),rfl,fun xs' ys' h1 h2=>?_⟩,⟨t9,e9.extBut _ _ Z.a1 t2,⟨_,_,e9.extBut _ _ Z.a2 t3⟩,?_,?_⟩,fun b hb=>(hf1 b hb).1⟩
  ·rw[Sq.inj I h1 q1,Sq.inj I h2 q2];exact⟨e1,e2⟩
  ·exact IsItr.keep (b:=b1) t4.1 fun o e=>e9.extBut _ _ (fun q=>Z.z1 (q▸Z.m1)) e
  ·exact IsItr.keep (b:=b2) t5.1 fun o e=>e9.extBut _ _ (fun q=>Z.z2 (q▸Z.m2)) e
 done:=by
  intro X hP hw hK hc i pins s σ H E I hf st hg;subst hP hw hK;obtain⟨xs,ys,q1,q2,ei⟩:=hg;obtain⟨its,r1,p1⟩:=q1.heap I;obtain⟨jts,r2,p2⟩:=q2.heap I;obtain⟨s1,s2,⟨u0,v0,s3⟩,s4,s5⟩:=st;have Z:=Jm2 I q1 q2 hf nd;have hh:X.A.in1.handled=none:=I.ok.hd hc;have D1:=Draws.sq (prog:=X.prog) (w:=X.w) (b:=b1) (xs:=its.toArray) hh i1 (FpOk.off I q1 (hf i1 (by simp)));have D2:=Draws.sq (prog:=X.prog) (w:=X.w) (b:=b2) (xs:=jts.toArray) hh i2 (FpOk.off I q2 (hf i2 (by simp)))
  have hT:s.TypeIs (.ref z) "zip":=⟨_,s1,rfl⟩
  have n1:its.toArray.size=xs.length:=by rw[Qp,r1.length]
  have n2:jts.toArray.size=ys.length:=by rw[Qp,r2.length]
  unfold pyNext;refine Qa (GN (QK (name:=Gb "__next__") hT Gz (QS Gz hT Kz (Jd1 Z D1 D2 s1 s2 s3 ⟨s4,p1⟩ ⟨s5,p2⟩ (by omega) fun k e tk kk he=>?_) (Km _))));obtain⟨o,ho,hoc⟩:=he;refine Qa (G9 (T:="StopIteration") (b:=true) ⟨o,ho,hoc⟩ K1 (Qg ⟨rfl,?_⟩));exact I.turnedL (fun b o hb q=>by simp only[Qh,Ga,or_false,not_or] at hb;exact kk b o hb.1 hb.2.2.1 hb.2.2.2.1 hb.2.2.2.2 q) hf
 self:=fun _ _ _ _ _ st h=>MF st.1 h
noncomputable def iZp(K:Frag)(ta:TA):TI:=fun σ H R=>ta σ H fun vs H1=>∃(b1 b2:Bool) (a1 a2:Addr) (xs ys:List V),vs=[.ref a1,.ref a2]/\Sq b1 K H1 a1 xs/\Sq b2 K H1 a2 ys/\R (Itz K b1 b2 a1 a2) H1
theorem Jcm{X:Cx}{K:Frag}{elts:List Expr}{kk:Nat}{tpos:Pos}{a b:Expr}{ta:TA}{p pos:Pos}(hK:X.K=K)(hg:Gl X "zip")(hm:X.mg "zip"=none)(ha:PA X [a,b] ta)(hs:starEach [a,b] X.env=[(false,eval a X.env),(false,eval b X.env)]:=by rfl)
 (hs2:starEach [b] X.env=[(false,eval b X.env)]:=by rfl):PI X (.Tuple elts kk tpos) (.Call (.Name "zip" p) [a,b] [] pos) (iZp K ta):=by
 subst hK;intro pins s σ H R I h;refine Call_ (Vb I hg hm Jh1 (Go (thn (ha pos pins s σ H _ I h) fun us s1 ⟨vs,H1,I1,r1,q1⟩=>?_) (by rw[hs,hs2]) (by rw[hs2];rfl)));obtain⟨b1,b2,a1,a2,xs,ys,e,c1,c2,q⟩:=q1;subst e
 cases r1 with
 | cons r rr =>
 cases rr with
 | cons r' rr =>
 cases rr;cases r;cases r';obtain⟨its,w1,p1⟩:=c1.heap I1;obtain⟨jts,w2,p2⟩:=c2.heap I1;refine Ja5 p1 p2 fun h' t1 t2 t3 t4 t5 kp=>MF t1 ?_
 refine⟨_,[s1.heap.objs.size+4,s1.heap.objs.size+2,s1.heap.objs.size+3,s1.heap.objs.size,s1.heap.objs.size+1],_,_,H1,rfl,I1.kept (t':=s1.toks) kp,Jki b1 b2 a1 a2 _ _ _ _ _ (by simp),⟨t1,t2,⟨_,_,t3⟩,t4,t5⟩,fun b hb=>?_,q⟩
 have hle:s1.heap.objs.size<=b:=by simp only[Qh,Ga,or_false] at hb;rcases hb with rfl|rfl|rfl|rfl|rfl <;> first|exact Qm _|exact LB _ _
 exact I1.fpOk hle (I1.hok.fresh hle)
end L2

namespace LE
open PySem L2 LR
noncomputable def JcB(ds es:List D):List D:=List.zipWith (fun a b=>.tup [a,b]) ds es
noncomputable def JiL(m:Bool)(as:En->Option (List Sl)):En->Option (List D):=fun E=>(as E).bind fun ss=>match ss with
 | [s,t]=>(s.it m).bind fun ds=>(t.it m).bind fun es=>some (JcB ds es)
 | _=>none
section
variable{K:Frag}{C:Addr}{m:Bool}
theorem Jg2{H H1 H1':Hp}{v:V}{s:Sl}{ds:List D}(r:RR K C H H1 H1' v s)(i:Same H1 H1')(e:s.it m=some ds) :
 ∃(b:Bool) (a:Addr) (xs:List V),v=.ref a/\(∀A,(m=true->A=H1')->∀H0' H',SStep A (J1 H H1 H1') H0' H'->Sq b K H' a xs)/\RDL K C (J1 H H1 H1') xs ds:=by
 have f:=JT (Hs:=H) i
 have shared:∀{d:D},RD K C (J1 H H1 H1') v d->(Sl.sh d).q=some ds->∃(b:Bool) (a:Addr) (xs:List V),v=.ref a/\(∀A,(m=true->A=H1')->∀H0' H',SStep A (J1 H H1 H1') H0' H'->Sq b K H' a xs)/\RDL K C (J1 H H1 H1') xs ds:=fun {d} r e=>by
  cases d with
  | lst es=>cases e;obtain⟨l,xs,h1,h2,h3⟩:=RD.lstI r;exact⟨false,l,xs,h1,fun A _ H0' H' st=>SqL.of (st.i _ _ (st.z _ _ h2)),h3⟩
  | fz es=>cases e;obtain⟨l,xs,h1,h2,h3⟩:=RD.fzI r;exact⟨false,l,xs,h1,fun A _ H0' H' st=>(st.z.trans st.i).seq h2,h3⟩
  | tup es=>cases e;obtain⟨l,xs,h1,h2,h3⟩:=RD.tupI r;exact⟨true,l,xs,h1,fun A _ H0' H' st=>(st.z.trans st.i).seqT h2,h3⟩
  | _=>cases e
 cases s with
 | no=>cases e
 | sh d=>exact shared (RD.mono f.z r) e
 | own es=>exact shared (RR.frz (s:=.own es) i r rfl) e
 | bd _ _=>cases e
 | bt _ _=>cases e
 | od _ _=>cases e
 | ot _ _=>cases e
 | bo es =>
  unfold Sl.it at e;dsimp only at e;split at e
  ·next hm=>cases e;obtain⟨l,xs,h1,h2,h3⟩:=r;refine⟨false,l,xs,h1,fun A hA H0' H' st=>?_,h3.mono f.z⟩;have:=hA hm;subst this;exact SqL.of (st.b _ _ h2)
  ·cases e
theorem JeV{t:TA}{ev:En->Option (List Sl)}(ha:SA K C t ev):SI K C m (iZp K t) (JiL m ev):=by
 intro B H0 H σ E ds R I e q;obtain⟨ss,e1,e⟩:=bind_some e;split at e
 ·next s u =>
  obtain⟨ds1,e2,e⟩:=bind_some e;obtain⟨ds2,e3,e⟩:=bind_some e;cases e;refine ha B H0 H σ E _ _ I e1 fun vs H1 H1' s1 r1=>?_
  obtain⟨v,w,rfl,ra,rb⟩:=r1.two;have f:=JT (Hs:=H) s1.i;obtain⟨b1,a1,xs,rfl,k1,w1⟩:=Jg2 ra s1.i e2;obtain⟨b2,a2,ys,rfl,k2,w2⟩:=Jg2 rb s1.i e3;have hA:m=true->(if m=true then H1' else B)=H1':=fun h=>if_pos h
  have sA:Same (if m=true then H1' else B) H1':=by
   split
   ·exact Same.refl _
   ·exact I.b.trans s1.h
  have st0:SStep (if m=true then H1' else B) (J1 H H1 H1') (J1 H H1 H1') H1':=⟨sA,Same.refl _,fun _ _ e=>.inl e,f.i⟩
  refine⟨b1,b2,a1,a2,xs,ys,rfl,k1 _ hA _ _ st0,k2 _ hA _ _ st0,q _ _ _ (s1.comp f fun _ z=>z) ?_⟩;intro H0' H' st;have q1:=k1 _ hA _ _ st;have q2:=k2 _ hA _ _ st;refine⟨fun i d e=>?_,⟨xs,ys,q1,q2,by unfold JcB;rw[List.length_zipWith,w1.1,w2.1]⟩⟩;unfold JcB at e;rw[M0] at e
  cases g1:ds1[i]? with
  | none=>rw[g1] at e;cases e
  | some d1 =>
   cases g2:ds2[i]? with
   | none=>rw[g1,g2] at e;cases e
   | some d2 =>
    rw[g1,g2] at e;cases e;obtain⟨x,x1,x2⟩:=w1.get g1;obtain⟨y,y1,y2⟩:=w2.get g2;refine⟨⟨xs,ys,x,y,q1,q2,x1,y1⟩,?_⟩;rintro z H2 ⟨p,u',v',rfl,hp,rfl,hv⟩;obtain⟨h1,h2⟩:=hv xs ys q1 q2;rw[x1] at h1;cases h1;rw[y1] at h2;cases h2;have h0:H0' p=none:=Same.free st.i hp;refine⟨upd H0' p (.tup [x,y]),⟨.new hp,.new h0,fun a o e=>?_,fun a o e=>?_⟩,?_⟩
    ·by_cases h:a=p
     ·subst h;exact .inr (.inl hp)
     ·rw[Jm h] at e;exact .inl e
    ·by_cases h:a=p
     ·subst h;rw[Js] at e ⊢;exact e
     ·rw[Jm h] at e ⊢;exact st.i a o e
    ·exact .mkT (.of Js) (.cons (x2.mono (st.z.trans (.new h0))) (.cons (y2.mono (st.z.trans (.new h0))) .nil))
 ·cases e
theorem ZG{α β:Type}(f:α->D)(g:β->D)(xs:List α)(ys:List β):JcB (xs.map f) (ys.map g)=(LG xs ys).map fun p=>.tup [f p.1,g p.2]:=by
 unfold JcB
 induction xs generalizing ys with
 | nil=>rfl
 | cons x xs ih=>cases ys with
  | nil=>rfl
  | cons y ys=>simp[ih]
end
end LE

namespace PySem
namespace F
theorem JjT:Manifest.owners.lookup (String.ofList ['d','e','s','r','e','v','e','r'].reverse)=some Manifest.sig_reversed:=by kernel_rfl
theorem Jcq:Slot "reversed" "__init__" "object.__init__" :=
 .of (owner:="object") (n:="__init__") (by rw[typeLookup_type,builtinLookup_eq_fast];kernel_rfl) (by decide +kernel) (by decide +kernel) (by decide +kernel) (by first | exact .inl (by decide +kernel) | exact .inr (by decide +kernel)) (by rw[Md];kernel_rfl)
theorem rv_slot_next:Slot "reversed" "__next__" "reversed.__next__" :=
 .of (owner:="reversed") (n:="__next__") (by rw[typeLookup_type,builtinLookup_eq_fast];kernel_rfl) (by decide +kernel) (by decide +kernel) (by decide +kernel) (by first | exact .inl (by decide +kernel) | exact .inr (by decide +kernel)) (by rw[Md];kernel_rfl)
theorem rv_slot_iter:Slot "reversed" "__iter__" "reversed.__iter__" :=
 .of (owner:="reversed") (n:="__iter__") (by rw[typeLookup_type,builtinLookup_eq_fast];kernel_rfl) (by decide +kernel) (by decide +kernel) (by decide +kernel) (by first | exact .inl (by decide +kernel) | exact .inr (by decide +kernel)) (by rw[Md];kernel_rfl)
theorem rv_args_next(a:Value):argsOk "reversed.__next__" ⟨[a],[]⟩:=by unfold argsOk;rw[signature?_of (id:="reversed.__next__") (n:=['_','_','t','x','e','n','_','_']) (o:=['d','e','s','r','e','v','e','r']) (by kernel_rfl) JjT];kernel_rfl
theorem rv_args_iter(a:Value):argsOk "reversed.__iter__" ⟨[a],[]⟩:=by unfold argsOk;rw[signature?_of (id:="reversed.__iter__") (n:=['_','_','r','e','t','i','_','_']) (o:=['d','e','s','r','e','v','e','r']) (by kernel_rfl) JjT];kernel_rfl
theorem rv_entry_next:entryFor table "reversed.__next__"=some Builtin.«reversed.__next__»:=entryFor_of_tree (by kernel_rfl)
theorem rv_entry_iter:entryFor table "reversed.__iter__"=some Builtin.«dict_keyiterator.__iter__» :=
 entryFor_alias (id':="dict_keyiterator.__iter__") (by kernel_rfl) (by first | rfl | decide +kernel | (unfold String.splitOn;simp +decide [String.splitOnAux])) (by decide +kernel) (by kernel_rfl)
theorem rv_called:TypeCalled "reversed" "reversed.__new__" "object.__init__" :=
 ⟨by decide +kernel,by decide +kernel,⟨_,_,mro_reversed⟩,made_reversed,by decide +kernel,sub_reversed_self,Jcq⟩
theorem rv_tuple_none:typeLookup (.type "tuple") "__reversed__"=pure none:=by rw[typeLookup_type,builtinLookup_eq_fast];kernel_rfl
theorem rv_tuple_dict:isSubtype (.type "tuple") (.type "dict")=pure false:=by rw[Md];kernel_rfl
end F
abbrev Jd3(h:Heap)(r a:Addr)(i:Int):Prop:=h.get? r=some { cls:=.type "reversed",dict:=none,data:=.fields #[.ref a,rawInt i],slots:=#[] }
section
variable{prog:Program}{w:World}{A:Around}{E:Value->Shared->Prop}{s:Shared}{a r:Addr}{xs:Array Value}
theorem Ji3(a:Addr)(xs:Array Value):Meets (Builtin.«reversed.__new__» ⟨[.type "reversed",.ref a],[]⟩) (fun _ R s=>s.heap.IsTuple a xs/\(xs.size:Int)<2 ^ 63 ∧
 R (.ok (.ret (.ref s.heap.objs.size))) { s with heap:=s.heap.push { cls:=.type "reversed",data:=.fields #[.ref a,rawInt ((xs.size:Int)-1)] },toks:=s.toks+1+1 }) :=
 .of_wp fun prog w A R s h=>by
  obtain⟨hp,g,d,tk,os⟩:=s;obtain⟨q1,q2,h⟩:=h;have hT:(⟨hp,g,d,tk,os⟩:Shared).TypeIs (.ref a) "tuple":=q1.typeIs;unfold Builtin.«reversed.__new__»;refine Qa (Kl (newClass_reversed _) ?_)
  try dsimp only
  refine Qa (Kl (a:=()) (by first|rfl|kernel_rfl) ?_);refine Qa (Kl (a:=()) (by first|rfl|kernel_rfl) ?_)
  try dsimp only
  refine Qa (KQ hT F.rv_tuple_none ?_)
  try dsimp only
  refine Qa ?_;refine Qa (m:=isInstance (.ref a) (.type "dict")) (G9 hT F.rv_tuple_dict ?_);refine Qa (KQ hT Q8.lookup ?_);refine Qg ?_;refine Qa (PyProof.Rows.len_tuple (s:=⟨hp,g,d,tk,os⟩) q1 q2 ?_);refine Qa (Kl (a:=some (xs.size:Int)) rfl ?_)
  try dsimp only
  refine Qa ?_;show wpAny _ _ (newObj (.type "reversed") (.fields #[.ref a,rawInt ((xs.size:Int)-1)])) _ _ _;exact Q3 (Qg ⟨_,rfl,h⟩) (by size_fits)
theorem JkB{Q:Value->Shared->Prop}(q1:s.heap.IsTuple a xs)(q2:(xs.size:Int)<2 ^ 63)
 (h:∀h' tk,Jd3 h' s.heap.objs.size a ((xs.size:Int)-1)->(∀c o,s.heap.get? c=some o->h'.get? c=some o)->Q (.ref s.heap.objs.size) { s with heap:=h',toks:=tk }) :
 wpAny (model prog w) A (call (.type "reversed") [.ref a]) Q E s:=by
 refine callType_new F.rv_called (by decide) (F.typeCall_reversed_1 _) (F.newCall_reversed_1 _) (fun obj=>F.args_object_init_2 obj _) F.entry_reversed_new (Ji3 a xs) ⟨q1,q2,?_⟩;exact⟨⟨_,Qi _ rfl,rfl⟩,h _ _ (Qi _ rfl) fun c o q=>Qf _ q⟩
theorem Jlo{i:Nat}{x:Value}{Q:Option Value->Shared->Prop}(hit:Jd3 s.heap r a (i:Int))(hl:s.heap.IsTuple a xs)(hb:(i:Int)<2 ^ 63)(hx:xs[i]?=some x)
 (hQ:∀h' tk,Jd3 h' r a ((i:Int)-1)->QB r s.heap h'->Q (some x) { s with heap:=h',toks:=tk }):wpAny (model prog w) A (pyNext (.ref r)) Q E s:=by
 have hT:s.TypeIs (.ref r) "reversed":=⟨_,hit,rfl⟩
 have hi:i<xs.size:=by
  by_cases z:i<xs.size
  ·exact z
  ·rw[Array.getElem?_eq_none (by omega)] at hx;cases hx
 unfold pyNext;refine Qa (GN (QK (name:=Gb "__next__") hT F.rv_slot_next
  (QS F.rv_slot_next hT F.rv_entry_next ?_ (F.rv_args_next _))))
 unfold Builtin.«reversed.__next__»;refine Qa (Kl (a:=(Value.ref r,[])) rfl ?_)
 try dsimp only
 refine Qa (QN hit rfl (x:=.ref a) rfl ?_);refine Qa (QN hit rfl (x:=rawInt (i:Int)) rfl ?_);show wpAny _ _ (if (i:Int)<0 then _ else _) _ _ s;rw[if_neg (by omega)];show wpAny _ _ (specialOf (.ref a) _ >>= _) _ _ s;refine Qa (KQ hl.typeIs Q8.lookup ?_);show wpAny _ _ (mkInt (i:Int) >>= _) _ _ s;refine Qa (wpAny_mkInt ?_);refine Qa (GN (PyProof.Rows.getItem_tuple (s:={ s with toks:=s.toks+1 }) hl (by omega) hb (j:=i) (by simp[seqIndex?];omega) hx ?_))
 show wpAny _ _ (field (.ref r) 1 >>= _) _ _ _;refine Qa (QN hit rfl (x:=rawInt (i:Int)) rfl ?_)
 show wpAny _ _ (setField (.ref r) 1 (rawInt ((i:Int)-1)) >>= _) _ _ _;refine Qa (Q4 hit (by simp) fun k1 y1 e1=>?_);exact Qg ⟨x,rfl,Qg (hQ k1 _ y1 e1)⟩
theorem Jnh{Q:Option Value->Shared->Prop}(hh:A.handled=none)(hit:Jd3 s.heap r a (-1))
 (hQ:∀h',Ll r s.heap h'->Q none { s with heap:=h' }):wpAny (model prog w) A (pyNext (.ref r)) Q E s:=by
 have hT:s.TypeIs (.ref r) "reversed":=⟨_,hit,rfl⟩
 unfold pyNext;refine Qa (GN (QK (name:=Gb "__next__") hT F.rv_slot_next
  (QS F.rv_slot_next hT F.rv_entry_next ?_ (F.rv_args_next _))))
 unfold Builtin.«reversed.__next__»;refine Qa (Kl (a:=(Value.ref r,[])) rfl ?_)
 try dsimp only
 refine Qa (QN hit rfl (x:=.ref a) rfl ?_);refine Qa (QN hit rfl (x:=rawInt (-1)) rfl ?_);show wpAny _ _ (if (-1:Int)<0 then _ else _) _ _ s;rw[if_pos (by decide)];refine Qa (Lg ?_);refine Qa ?_;refine Qa (m:=setField (.ref r) 1 (rawInt (-1))) (Q4 hit (by simp) fun k1 y1 e1=>?_);refine Q4 (s:={ s with heap:=k1 }) y1 (by simp) fun k2 y2 e2=>?_
 refine Qa ?_;show wpAny _ _ (newExc (.type "StopIteration") [] >>= _) _ _ _;refine Qa ?_;simp only[newExc,newTuple];refine Qa (Q3 ?_ (by size_fits));refine Qa (m:=firstArgMember _ _) (Kl (a:=Value.none) (by first | rfl | (simp only[firstArgMember];rfl)) ?_);refine Q3 ?_ (by size_fits);simp only[raiseNew];refine Qa (wpAny_handled ?_)
 first|rw[show A.in1.handled=none from hh]|rw[hh]
 refine Qa (Qg (wpAny_throw ?_));refine Qa (G9 (T:="StopIteration") (b:=true) ⟨_,Qi _ rfl,rfl⟩ K1 ?_)
 replace e1:QB r s.heap k1:=e1
 replace e2:QB r k1 k2:=e2;refine Qg (hQ _ ?_);exact(Rs (Rs (fun b o hb q=>e2.extBut b o hb (e1.extBut b o hb q)) _) _)
theorem JfM{i:Int}{Q:Value->Shared->Prop}(hit:Jd3 s.heap r a i)(h:Q (.ref r) s):wpAny (model prog w) A (pyIter (.ref r)) Q E s:=by
 have hT:s.TypeIs (.ref r) "reversed":=⟨_,hit,rfl⟩
 refine wpAny_pyIter_slot hT F.rv_slot_iter (QS F.rv_slot_iter hT F.rv_entry_iter ?_ (F.rv_args_iter _));show wpAny _ _ (ret (.ref r)) _ _ s;exact Qg ⟨_,rfl,"reversed",_,hT,F.rv_slot_next.lookup,h⟩
end
end PySem
namespace L2
open PySem PySem.Spec PyProof.Rows
noncomputable def Itv(K:Frag)(b:Bool)(a:Addr)(n:Nat):It :=
 ⟨fun i H=>i<n/\∃xs,Sq b K H a xs/\xs.length=n,fun i H x H'=>H'=H/\∀xs,Sq b K H a xs->xs[n-1-i]?=some x,fun i _=>i=n⟩
noncomputable def Jqd(b:Bool)(r a:Addr)(i:Int)(h:Heap):Prop:=match b with
 | true=>Jd3 h r a i
 | false=>h.IsRevIter r a i
theorem JgA{P:Program}{w:World}{K:Frag}{tg:Expr}(b:Bool)(a r:Addr)(n:Nat)(hn:n<=sizeLine):Turn P w K tg (Itv K b a n) [r] r (fun i h=>Jqd b r a ((n:Int)-1-(i:Int)) h) where
 mem:=by simp
 obj:=fun i h st c hc=>by
  have e:c=r:=by simpa using hc
  subst e
  cases b with
  | true=>exact⟨_,st,fun v z=>nomatch (show Data.fields _=Data.cell v from z)⟩
  | false=>obtain⟨o,e,_,d⟩:=st;exact⟨o,e,fun v z=>by rw[d] at z;cases z⟩
 keep:=fun i h h' st k=>by
  cases b with
  | true=>exact k r (by simp) _ st
  | false=>exact Heap.IsRevIter.at st fun o e=>k r (by simp) o e
 item:=by
  intro X hP hw hK hc i pins s σ H E I hf st hg;subst hP hw hK;obtain⟨hi,xs,hq,hlen⟩:=hg;obtain⟨f0,f1,f2,f3,f4,f5⟩:=hf r (by simp);obtain⟨its,rv,p⟩:=hq.heap I;obtain⟨x,hx⟩:∃x,xs[n-1-i]?=some x:=⟨xs[n-1-i]'(by omega),by simp⟩
  obtain⟨u,hu,ru⟩:=rv.get hx;have e:(n:Int)-1-(i:Int)=((n-1-i:Nat):Int):=by omega
  have e2:((n-1-i:Nat):Int)-1=(n:Int)-1-((i+1:Nat):Int):=by omega
  rw[e] at st;have hz:sizeLine<2 ^ 63:=by decide
  cases b with
  | true =>
   refine Jlo (s:=s) st p (by omega) (x:=u) (by simpa using hu) fun h' tk st' sb=>?_
   replace sb:QB r s.heap h':=sb;have I1:Inv X pins σ H { s with heap:=h',toks:=tk }:=I.turned (fun b o hb e=>(sb.2 b hb).trans e) f0 f1 f3 f4 f5;rw[e2] at st';exact⟨u,rfl,Jc2 (s:={ s with heap:=h',toks:=tk }) st' rfl rfl (by decide) ⟨x,H,I1,ru,⟨rfl,fun ys hy=>by rw[Sq.inj I hy hq];exact hx⟩,st',fun b hb=>(hf b hb).1⟩⟩
  | false =>
   refine wpAny_pyNext_rev_item (s:=s) st p (x:=u) (by simpa using hu) fun h' st' sb=>?_
   have I1:Inv X pins σ H { s with heap:=h' }:=I.turned (t':=s.toks) (fun b o hb e=>(sb.2 b hb).trans e) f0 f1 f3 f4 f5;rw[e2] at st';obtain⟨o,eo,co,d⟩:=id st';exact⟨u,rfl,Jc2 (s:={ s with heap:=h' }) eo co d (by decide) ⟨x,H,I1,ru,⟨rfl,fun ys hy=>by rw[Sq.inj I hy hq];exact hx⟩,st',fun b hb=>(hf b hb).1⟩⟩
 done:=by
  intro X hP hw hK hc i pins s σ H E I hf st hg;subst hP hw hK;obtain⟨f0,f1,f2,f3,f4,f5⟩:=hf r (by simp)
  replace hg:i=n:=hg;have e:(n:Int)-1-(i:Int)=-1:=by omega
  rw[e] at st
  cases b with
  | true=>exact Jnh (s:=s) (a:=a) (I.ok.hd hc) st fun h' eb=>⟨rfl,I.turned (t':=s.toks) (fun b o hb e=>eb b o hb e) f0 f1 f3 f4 f5⟩
  | false=>exact wpAny_pyNext_rev_end (s:=s) (I.ok.hd hc) st fun h' eb=>⟨rfl,I.turned (t':=s.toks) (fun b o hb e=>eb b o hb e) f0 f1 f3 f4 f5⟩
 self:=fun _ i s _ _ st h=>by
  cases b with
  | true=>exact JfM (s:=s) st h
  | false=>exact wpAny_pyIter_revIter (s:=s) st h
noncomputable def iRv(K:Frag)(ta:TA):TI:=fun σ H R=>ta σ H fun vs H1=>∃(b:Bool) (a:Addr) (xs:List V),vs=[.ref a]/\Sq b K H1 a xs/\R (Itv K b a xs.length) H1
theorem JlD{X:Cx}{K:Frag}{tg:Expr}{a:Expr}{ta:TA}{p pos:Pos}(hK:X.K=K)(hg:Gl X "reversed")(hm:X.mg "reversed"=none)(ha:PA X [a] ta)(hs:starEach [a] X.env=[(false,eval a X.env)]:=by rfl)
:PI X tg (.Call (.Name "reversed" p) [a] [] pos) (iRv K ta):=by
 subst hK;intro pins s σ H R I h;refine Call_ (Vb I hg hm JcL (Go (thn (ha pos pins s σ H _ I h) fun us s1 ⟨vs,H1,I1,r1,q1⟩=>?_) (by rw[hs];rfl) (by rfl)));obtain⟨b,a,xs,e,c1,q⟩:=q1;subst e
 cases r1 with
 | cons r rr =>
 cases rr;cases r
 have fresh:∀c∈[s1.heap.objs.size],FpOk X pins H1 c:=fun c hc=>by
  have e:c=s1.heap.objs.size:=by simpa using hc
  subst e;exact I1.fpOk (Qm _) (I1.hok.fresh (Qm _))
 have hz:sizeLine<2 ^ 63:=by decide
 cases b with
 | true =>
  obtain⟨its,rv,p1,sz⟩:=I1.tuple c1;have hl:=rv.length;refine JkB (s:=s1) (xs:=its.toArray) p1 (by rw[Qp];omega) fun h' tk t1 kp=>JfM (s:={ s1 with heap:=h',toks:=tk }) t1 ?_
  refine⟨_,[s1.heap.objs.size],_,_,H1,rfl,I1.kept (t':=tk) kp,JgA true a _ xs.length sz,?_,fresh,q⟩;show Jd3 h' s1.heap.objs.size a _;have e:(its.toArray.size:Int)-1=(xs.length:Int)-1-((0:Nat):Int):=by rw[Qp,<- hl];simp
  rw[<- e];exact t1
 | false =>
  obtain⟨its,rv,p1,sz⟩:=I1.list c1;have hl:=rv.length;refine call_reversed_list (s:=s1) p1.isList (wpAny_pyIter_revIter (l:=a) (i:=((its.toArray.size:Int)-1)) ⟨_,Qi _ rfl,rfl,rfl⟩ ?_);refine⟨_,[s1.heap.objs.size],_,_,H1,rfl,I1.kept (t':=s1.toks) fun b o e=>Qf _ e,JgA false a _ xs.length sz,?_,fresh,q⟩;refine⟨_,Qi _ rfl,rfl,?_⟩;have e:(its.toArray.size:Int)-1=(xs.length:Int)-1-((0:Nat):Int):=by rw[Qp,<- hl];simp
  rw[e];rfl
end L2
namespace LE
open PySem L2 LR
noncomputable def Jnp(m:Bool)(as:En->Option (List Sl)):En->Option (List D):=fun E=>(as E).bind fun ss=>match ss with
 | [s]=>(s.it m).map List.reverse
 | _=>none
section
variable{K:Frag}{C:Addr}{m:Bool}
theorem JoF{t:TA}{ev:En->Option (List Sl)}(ha:SA K C t ev):SI K C m (iRv K t) (Jnp m ev):=by
 intro B H0 H σ E ds R I e q;obtain⟨ss,e1,e⟩:=bind_some e;split at e
 ·next s =>
  obtain⟨ds1,e2,e⟩:=Gj.mp e;subst e;refine ha B H0 H σ E _ _ I e1 fun vs H1 H1' s1 r1=>?_
  obtain⟨v,rfl,ra⟩:=r1.one;have f:=JT (Hs:=H) s1.i;obtain⟨b1,a1,xs,rfl,k1,w1⟩:=Jg2 ra s1.i e2;have hA:m=true->(if m=true then H1' else B)=H1':=fun h=>if_pos h
  have sA:Same (if m=true then H1' else B) H1':=by
   split
   ·exact Same.refl _
   ·exact I.b.trans s1.h
  have st0:SStep (if m=true then H1' else B) (J1 H H1 H1') (J1 H H1 H1') H1':=⟨sA,Same.refl _,fun _ _ e=>.inl e,f.i⟩
  refine⟨b1,a1,xs,rfl,k1 _ hA _ _ st0,q _ _ _ (s1.comp f fun _ z=>z) ?_⟩;intro H0' H' st;have q1:=k1 _ hA _ _ st;refine⟨fun i d e=>?_,by rw[K9,w1.1];rfl⟩;have hi:i<ds1.length:=by have:=(Qn.mp e).1;rwa [K9] at this
  rw[List.getElem?_reverse hi,<- w1.1] at e;obtain⟨x,x1,x2⟩:=w1.get e;refine⟨⟨by rw[w1.1];exact hi,xs,q1,rfl⟩,?_⟩;rintro z H2 ⟨rfl,hv⟩;have h1:=hv xs q1;rw[x1] at h1;cases h1;exact⟨H0',.refl st.i,x2.mono st.z⟩
 ·cases e
end
end LE

namespace PySem
open AutoSeq1 (wpAny_loadPart')
abbrev enO(it:Addr):Obj:={ cls:=.type "enumerate",data:=.fields #[.none,.bool false,.ref it,rawInt 0,.none,.none] }
theorem Jhi(b:Bool)(a:Addr)(xs:Array Value):Meets (Builtin.«enumerate.__new__» ⟨[.type "enumerate",.ref a],[]⟩) (fun _ R s=>IsSq b s.heap a xs ∧
 R (.ok (.ret (.ref (s.heap.push (itO b a)).objs.size))) { s with heap:=(s.heap.push (itO b a)).push (enO s.heap.objs.size) }) :=
 .of_wp fun prog w A R s h=>by
  obtain⟨hp,g,d,tk,os⟩:=s;obtain⟨q,h⟩:=h;have hsub:=sub_enumerate;have r:IsSq b (Ru ⟨hp,g,d,tk,os⟩) a xs:=q
  obtain⟨o,hl⟩:∃o,hp.get? a=some o:=by
   cases b with
   | true=>obtain⟨o,e,_⟩:=q;exact⟨o,e⟩
   | false=>obtain⟨o,e,_⟩:=q;exact⟨o,e⟩
  wp_walk using KR hl
  refine wpAny_stack_any fun st=>Qg ?_
  split
  ·rename_i c _ _ _ _ _;cases (c == Value.type "enumerate")
   ·wp_walk using KR hl,Vg r
    exact⟨_,rfl,h⟩
   ·wp_walk using KR hl,Vg r
    exact⟨_,rfl,h⟩
  ·wp_walk using KR hl,Vg r
   exact⟨_,rfl,h⟩
section
variable{prog:Program}{w:World}{A:Around}{E:Value->Shared->Prop}{s:Shared}{b:Bool}{a e it:Addr}{xs:Array Value}
theorem Jh5{Q:Value->Shared->Prop}(q:IsSq b s.heap a xs)
 (h:∀h',IsEnum h' (s.heap.objs.size+1) s.heap.objs.size 0 .none->IsItr b h' s.heap.objs.size a 0->(∀c o,s.heap.get? c=some o->h'.get? c=some o)->Q (.ref (s.heap.objs.size+1)) { s with heap:=h' }) :
 wpAny (model prog w) A (call (.type "enumerate") [.ref a]) Q E s:=by
 refine callType_new F.called_enumerate (by decide) (F.typeCall_enumerate_1 _) (F.newCall_enumerate_1 _) (fun obj=>F.args_object_init_2 obj _) F.entry_enumerate_new (Jhi b a xs) ⟨q,?_⟩;have hz:(s.heap.push (itO b a)).objs.size=s.heap.objs.size+1:=Gy ..;have fi:(itO b a).isFreed=false:=by cases b <;> rfl
 have g2:((s.heap.push (itO b a)).push (enO s.heap.objs.size)).get? (s.heap.push (itO b a)).objs.size=some _:=Qi _ rfl
 have g1:((s.heap.push (itO b a)).push (enO s.heap.objs.size)).get? s.heap.objs.size=some _:=Qf _ (Qi _ fi)
 show _/\_;rw[hz] at g2;rw[hz];exact⟨⟨_,g2,rfl⟩,h _ g2 (.new g1) fun c o x=>Qf _ (Qf _ x)⟩
theorem Jin{p:List Addr}{n i:Nat}{P:Nat->Value->Prop}{S:Nat->Heap->Prop}{old:Value}{Q:Value->Shared->Prop}(D:Draws prog w A it p n P S)(he:IsEnum s.heap e it i old)(st:S i s.heap)(hi:i<n)(hne:e∉p)(him:it∈p)
 (hQ:∀x h' tk t,P i x->IsEnumOut h' e it ((i:Int)+1) x s.heap.objs.size->S (i+1) h'->h'.get? s.heap.objs.size=some { cls:=.type "tuple",data:=.seq #[.int i t,x] }->h'.objs.size=s.heap.objs.size+1 ->
  (∀c o,c≠e->c≠it->s.heap.get? c=some o->h'.get? c=some o)->Q (.ref s.heap.objs.size) { s with heap:=h',toks:=tk }) :
 wpAny (model prog w) A (Builtin.«enumerate.__next__» ⟨[.ref e],[]⟩) (fun fin s'=>∃v,fin=.done (.ret v)/\Q v s') E s:=by
 obtain⟨hp,g,d,tk,os⟩:=s;have ne:e≠it:=fun q=>hne (q▸him)
 show wpAny _ _ (field (.ref e) 2 >>= _) _ _ _;refine Qa (QN he rfl (x:=.ref it) rfl (Qa (D.item i _ _ _ hi st fun x k1 t1 px s1 e1=>?_)))
 replace e1:QB it hp k1:=e1;have E1:IsEnum k1 e it i old:=(e1.2 e ne).trans he;refine Qa (QN (s:=⟨k1,g,d,t1,os⟩) E1 rfl (x:=rawInt i) rfl ?_);show wpAny _ _ (field (.ref e) 4 >>= _) _ _ ⟨k1,g,d,t1,os⟩;refine Qa (QN (s:=⟨k1,g,d,t1,os⟩) E1 rfl (x:=.none) rfl ?_);show wpAny _ _ (mkInt i >>= _) _ _ ⟨k1,g,d,t1,os⟩;refine Qa (wpAny_mkInt ?_);show wpAny _ _ (setField (.ref e) 3 (rawInt ((i:Int)+1)) >>= _) _ _ ⟨k1,g,d,t1+1,os⟩
 refine Qa (Q4 E1 (by simp) fun k2 E2 e2=>?_)
 replace e2:QB e k1 k2:=e2
 replace E2:IsEnum k2 e it ((i:Int)+1) old:=E2;show wpAny _ _ (setField (.ref e) 4 .none >>= _) _ _ ⟨k2,g,d,t1+1,os⟩;refine Qa (Q4 E2 (by simp) fun k3 E3 e3=>?_)
 replace e3:QB e k2 k3:=e3
 replace E3:IsEnum k3 e it ((i:Int)+1) old:=E3;show wpAny _ _ (newTuple [.int i t1,x] >>= _) _ _ ⟨k3,g,d,t1+1,os⟩;refine Qa (Mc ?_);have hsz:k3.objs.size=hp.objs.size:=by rw[e3.1,e2.1,e1.1]
 have elt:e<hp.objs.size:=Qj he
 have E4:IsEnum (k3.push { cls:=.type "tuple",data:=.seq #[.int i t1,x] }) e it ((i:Int)+1) old:=Qf _ E3
 have T4:(k3.push { cls:=.type "tuple",data:=.seq #[.int i t1,x] }).get? hp.objs.size=some { cls:=.type "tuple",data:=.seq #[.int i t1,x] }:=by rw[<- hsz];exact Qi _ rfl
 have z4:(k3.push { cls:=.type "tuple",data:=.seq #[.int i t1,x] }).objs.size=hp.objs.size+1:=by rw[Gy,hsz]
 have kp:∀c o,c≠e->k1.get? c=some o->(k3.push { cls:=.type "tuple",data:=.seq #[.int i t1,x] }).get? c=some o:=fun c o c1 q=>Qf _ (e3.extBut c o c1 (e2.extBut c o c1 q))
 show wpAny _ _ (QJ (.ref e) >>= _) _ _ ⟨k3.push { cls:=.type "tuple",data:=.seq #[.int i t1,x] },g,d,t1+1,os⟩;rw[hsz]
 generalize k3.push { cls:=.type "tuple",data:=.seq #[.int i t1,x] }=k4 at E4 T4 z4 kp ⊢
 refine Qa ?_;unfold QJ;refine Qa (QN (s:=⟨k4,g,d,t1+1,os⟩) E4 rfl (x:=.none) rfl (Qg ?_));simp only[if_true];refine Qa (Lg (Qa (QN (s:=⟨k4,g,d,t1+1,os⟩) E4 rfl (x:=old) rfl (Qa (Q4 E4 (by simp) fun k5 E5 e5=>?_)))))
 replace e5:QB e k4 k5:=e5
 replace E5:IsEnum k5 e it ((i:Int)+1) x:=E5;show wpAny _ _ (GL (.ref e) (.ref hp.objs.size) >>= _) _ _ ⟨k5,g,d,t1+1,os⟩;refine Qa ?_;unfold GL;refine Qa (Q4 E5 (by simp) fun k6 E6 e6=>?_)
 replace e6:QB e k5 k6:=e6
 replace E6:IsEnumOut k6 e it ((i:Int)+1) x hp.objs.size:=E6;refine Q4 E6 (by simp) fun k7 E7 e7=>?_
 replace e7:QB e k6 k7:=e7
 replace E7:IsEnumOut k7 e it ((i:Int)+1) x hp.objs.size:=E7;have up:∀c o,c≠e->k4.get? c=some o->k7.get? c=some o:=fun c o c1 q=>e7.extBut c o c1 (e6.extBut c o c1 (e5.extBut c o c1 q))
 refine Qa (KD (Qg ⟨_,rfl,hQ x k7 (t1+1) t1 px E7 ?_ (up _ _ (Q1 elt) T4) (by rw[e7.1,e6.1,e5.1,z4]) fun c o c1 c2 q=>up c o c1 (kp c o c1 (e1.extBut c o c2 q))⟩));exact D.frame _ _ _ s1 fun c hc o q=>up c o (fun z=>hne (z▸hc)) (kp c o (fun z=>hne (z▸hc)) q)
theorem JkF{p:List Addr}{n:Nat}{P:Nat->Value->Prop}{S:Nat->Heap->Prop}{old:Value}{Q:Fin->Shared->Prop}(D:Draws prog w A it p n P S)(he:IsEnum s.heap e it n old)(st:S n s.heap)
 (hE:∀h' x tk,Ll it s.heap h'->(∃o,h'.get? x=some o/\o.cls=.type "StopIteration")->E (.ref x) { s with heap:=h',toks:=tk }) :
 wpAny (model prog w) A (Builtin.«enumerate.__next__» ⟨[.ref e],[]⟩) Q E s:=by
 show wpAny _ _ (field (.ref e) 2 >>= _) _ _ _;refine Qa (QN he rfl (x:=.ref it) rfl (Qa (D.done _ _ _ st fun k1 x e1 hx=>?_)));exact hE k1 x s.toks e1 hx
end
end PySem
namespace L2
open PySem PySem.Spec PyProof.Rows
noncomputable def Ite(K:Frag)(b:Bool)(a:Addr):It :=
 ⟨fun i H=>∃xs x,Sq b K H a xs/\xs[i]?=some x,
  fun i H x H'=>∃p v,x=.ref p/\H p=none/\H'=upd H p (.tup [.int i,v])/\∀xs,Sq b K H a xs->xs[i]?=some v,
  fun i H=>∃xs,Sq b K H a xs/\i=xs.length⟩
theorem Jml{P:Program}{w:World}{K:Frag}{elts:List Expr}{kk:Nat}{pos:Pos}(b:Bool)(a e it:Addr)(ne:e≠it) :
 Turn P w K (.Tuple elts kk pos) (Ite K b a) [e,it] e (fun i h=>(∃old,IsEnum h e it i old)/\IsItr b h it a i) where
 mem:=by simp
 obj:=fun i h st c hc=>by
  obtain⟨⟨old,s1⟩,s2⟩:=st;simp only[Qh,Ga,or_false] at hc;rcases hc with rfl|rfl
  ·exact⟨_,s1,fun v z=>nomatch (show Data.fields _=Data.cell v from z)⟩
  ·exact IsItr.obj (b:=b) s2
 keep:=fun i h h' st k=>by obtain⟨⟨old,s1⟩,s2⟩:=st;exact⟨⟨old,k e (by simp) _ s1⟩,IsItr.keep (b:=b) s2 fun o q=>k it (by simp) o q⟩
 item:=by
  intro X hP hw hK hc i pins s σ H E I hf st hg;subst hP hw hK;obtain⟨xs,x,q1,e1⟩:=hg;obtain⟨its,r1,p1⟩:=q1.heap I;obtain⟨⟨old,s1⟩,s2⟩:=st;have hh:X.A.in1.handled=none:=I.ok.hd hc;have ne1:a≠it:=FpOk.off I q1 (hf it (by simp));have ne2:a≠e:=FpOk.off I q1 (hf e (by simp));have D1:=Draws.sq (prog:=X.prog) (w:=X.w) (b:=b) (xs:=its.toArray) hh it ne1;have hT:s.TypeIs (.ref e) "enumerate":=⟨_,s1,rfl⟩
  have l1:i<its.toArray.size:=by have:=(Qn.mp e1).1;rw[Qp,<- r1.length];exact this
  unfold pyNext;refine Qa (GN (QK (name:=Gb "__next__") hT KW (QS KW hT F.entry_enumerate_next
   (Jin D1 s1 ⟨s2,p1⟩ l1 (by simp[ne,QO ne2]) (by simp) fun u k tk t pu t1 t2 t3 t4 t5=>Qg ?_) (MG _))))
  refine⟨_,rfl,wpAny_letOwnedTupleGo_enum (s:={ s with heap:=k,toks:=tk }) t1 fun k2 t9 e9=>?_⟩
  replace e9:QB e k k2:=e9;obtain⟨ux,hx1,rx⟩:=r1.get e1
  have eu:u=ux:=by
   have pu':its[i]?=some u:=by simpa using pu
   rw[hx1] at pu';exact(QG pu').symm
  subst eu
  have elt:∀c∈[e,it],c<s.heap.objs.size:=fun c hc=>by
   simp only[Qh,Ga,or_false] at hc;rcases hc with rfl|rfl
   ·exact Qj s1
   ·obtain⟨_,q,_⟩:=IsItr.obj (b:=b) s2;exact Qj q
  have ri:RelV (.int i) (.int i t):=⟨t,rfl⟩
  have I1:Inv X pins σ (upd H s.heap.objs.size (.tup [.int i,x])) { s with heap:=s.heap.push { cls:=.type "tuple",data:=.seq #[.int i t,u] },toks:=s.toks } :=
   I.laid (o:=.tup [.int i,x]) (fun c ob q=>Qf _ q) (Qm _) ⟨by show 2<=sizeLine;decide,[.int i t,u],.cons ri (.cons rx .nil),⟨_,Qi _ rfl,rfl,_,rfl⟩⟩
  have hf1:∀c∈[e,it],FpOk X pins (upd H s.heap.objs.size (.tup [.int i,x])) c:=fun c hc=>⟨by rw[Jm (QA (elt c hc))];exact(hf c hc).1,(hf c hc).2⟩
  have I2:Inv X pins σ (upd H s.heap.objs.size (.tup [.int i,x])) { s with heap:=k2,toks:=tk }:=Inv.turnedL (s:={ s with heap:=s.heap.push { cls:=.type "tuple",data:=.seq #[.int i t,u] },toks:=s.toks }) I1 (fun c o hc q=>by
   simp only[Qh,Ga,or_false,not_or] at hc;refine e9.extBut c o hc.1 ?_
   by_cases hcs:c=s.heap.objs.size
   ·subst hcs;have q':(s.heap.push { cls:=.type "tuple",data:=.seq #[.int i t,u] }).get? s.heap.objs.size=some o:=q;rw[Qi _ rfl] at q';cases q';exact t3
   ·have q':s.heap.get? c=some o:=by have q2:(s.heap.push { cls:=.type "tuple",data:=.seq #[.int i t,u] }).get? c=some o:=q;exact(Mq s.heap c _ hcs).symm.trans q2
    exact t5 c o hc.1 hc.2 q') hf1
  refine⟨.ref s.heap.objs.size,_,I2,rfl,⟨_,x,rfl,I.hok.fresh (Qm _),rfl,fun xs' h1=>?_⟩,⟨⟨u,?_⟩,?_⟩,fun c hc=>(hf1 c hc).1⟩
  ·rw[Sq.inj I h1 q1];exact e1
  ·have ei:((i+1:Nat):Int)=(i:Int)+1:=by omega
   rw[ei];exact t9
  ·exact IsItr.keep (b:=b) t2.1 fun o q=>e9.extBut _ _ (QO ne) q
 done:=by
  intro X hP hw hK hc i pins s σ H E I hf st hg;subst hP hw hK;obtain⟨xs,q1,ei⟩:=hg;obtain⟨its,r1,p1⟩:=q1.heap I;obtain⟨⟨old,s1⟩,s2⟩:=st;have hh:X.A.in1.handled=none:=I.ok.hd hc;have D1:=Draws.sq (prog:=X.prog) (w:=X.w) (b:=b) (xs:=its.toArray) hh it (FpOk.off I q1 (hf it (by simp)));have hT:s.TypeIs (.ref e) "enumerate":=⟨_,s1,rfl⟩
  have n1:i=its.toArray.size:=by rw[Qp,<- r1.length];exact ei
  subst n1;unfold pyNext;refine Qa (GN (QK (name:=Gb "__next__") hT KW (QS KW hT F.entry_enumerate_next (JkF D1 s1 ⟨s2,p1⟩ fun k x tk kk he=>?_) (MG _))));obtain⟨o,ho,hoc⟩:=he;refine Qa (G9 (T:="StopIteration") (b:=true) ⟨o,ho,hoc⟩ K1 (Qg ⟨rfl,?_⟩));exact I.turnedL (fun c o hc q=>by simp only[Qh,Ga,or_false,not_or] at hc;exact kk c o hc.2 q) hf
 self:=fun _ _ _ _ _ st h=>by obtain⟨⟨old,s1⟩,_⟩:=st;exact wpAny_pyIter_enum s1 h
noncomputable def iEn(K:Frag)(ta:TA):TI:=fun σ H R=>ta σ H fun vs H1=>∃(b:Bool) (a:Addr) (xs:List V),vs=[.ref a]/\Sq b K H1 a xs/\R (Ite K b a) H1
theorem Jar{X:Cx}{K:Frag}{elts:List Expr}{kk:Nat}{tpos:Pos}{a:Expr}{ta:TA}{p pos:Pos}(hK:X.K=K)(hg:Gl X "enumerate")(hm:X.mg "enumerate"=none)(ha:PA X [a] ta)(hs:starEach [a] X.env=[(false,eval a X.env)]:=by rfl)
:PI X (.Tuple elts kk tpos) (.Call (.Name "enumerate" p) [a] [] pos) (iEn K ta):=by
 subst hK;intro pins s σ H R I h;refine Call_ (Vb I hg hm Jbz (Go (thn (ha pos pins s σ H _ I h) fun us s1 ⟨vs,H1,I1,r1,q1⟩=>?_) (by rw[hs];rfl) (by rfl)));obtain⟨b,a,xs,e,c1,q⟩:=q1;subst e
 cases r1 with
 | cons r rr =>
 cases rr;cases r;obtain⟨its,w1,p1⟩:=c1.heap I1;refine Jh5 p1 fun h' t1 t2 kp=>wpAny_pyIter_enum t1 ?_
 refine⟨_,[s1.heap.objs.size+1,s1.heap.objs.size],_,_,H1,rfl,I1.kept (t':=s1.toks) kp,Jml b a _ _ (by simp),⟨⟨_,t1⟩,t2⟩,fun c hc=>?_,q⟩
 have hle:s1.heap.objs.size<=c:=by simp only[Qh,Ga,or_false] at hc;rcases hc with rfl|rfl <;> first|exact Qm _|exact LB _ _
 exact I1.fpOk hle (I1.hok.fresh hle)
end L2
namespace LE
open PySem L2 LR
noncomputable def JcY(ds:List D):List D:=ds.mapIdx fun i d=>.tup [.int i,d]
noncomputable def Jc3(m:Bool)(as:En->Option (List Sl)):En->Option (List D):=fun E=>(as E).bind fun ss=>match ss with
 | [s]=>(s.it m).map JcY
 | _=>none
section
variable{K:Frag}{C:Addr}{m:Bool}
theorem Jcs{t:TA}{ev:En->Option (List Sl)}(ha:SA K C t ev):SI K C m (iEn K t) (Jc3 m ev):=by
 intro B H0 H σ E ds R I e q;obtain⟨ss,e1,e⟩:=bind_some e;split at e
 ·next s =>
  obtain⟨ds1,e2,e⟩:=Gj.mp e;subst e;refine ha B H0 H σ E _ _ I e1 fun vs H1 H1' s1 r1=>?_
  obtain⟨v,rfl,ra⟩:=r1.one;have f:=JT (Hs:=H) s1.i;obtain⟨b1,a1,xs,rfl,k1,w1⟩:=Jg2 ra s1.i e2;have hA:m=true->(if m=true then H1' else B)=H1':=fun h=>if_pos h
  have sA:Same (if m=true then H1' else B) H1':=by
   split
   ·exact Same.refl _
   ·exact I.b.trans s1.h
  have st0:SStep (if m=true then H1' else B) (J1 H H1 H1') (J1 H H1 H1') H1':=⟨sA,Same.refl _,fun _ _ e=>.inl e,f.i⟩
  refine⟨b1,a1,xs,rfl,k1 _ hA _ _ st0,q _ _ _ (s1.comp f fun _ z=>z) ?_⟩;intro H0' H' st;have q1:=k1 _ hA _ _ st;refine⟨fun i d e=>?_,⟨xs,q1,by unfold JcY;rw[List.length_mapIdx,w1.1]⟩⟩;unfold JcY at e;rw[QC] at e;obtain⟨d1,g1,e⟩:=Gj.mp e;subst e;obtain⟨x,x1,x2⟩:=w1.get g1;refine⟨⟨xs,x,q1,x1⟩,?_⟩;rintro z H2 ⟨p,v',rfl,hp,rfl,hv⟩;have h1:=hv xs q1;rw[x1] at h1;cases h1;have h0:H0' p=none:=Same.free st.i hp
  refine⟨upd H0' p (.tup [.int i,x]),⟨.new hp,.new h0,fun a o e=>?_,fun a o e=>?_⟩,?_⟩
  ·by_cases h:a=p
   ·subst h;exact .inr (.inl hp)
   ·rw[Jm h] at e;exact .inl e
  ·by_cases h:a=p
   ·subst h;rw[Js] at e ⊢;exact e
   ·rw[Jm h] at e ⊢;exact st.i a o e
  ·exact .mkT (.of Js) (.cons (.int _) (.cons (x2.mono (st.z.trans (.new h0))) .nil))
 ·cases e
theorem ZS{α:Type}(f:α->D)(xs:List α):JcY (xs.map f)=xs.mapIdx fun i x=>.tup [.int i,f x]:=by
 unfold JcY;refine Ge fun i=>?_
 rw[QC,QC,Qq,Ke];rfl
end
end LE

namespace L2
open PySem PySem.Spec PyProof.Rows
noncomputable def UI(ns:List Int):List Int:=ns.mergeSort (fun a b=>decide (a<=b))
theorem YC(ns:List Int):(UI ns).Perm ns:=List.mergeSort_perm _ _
theorem WB(ns:List Int):(UI ns).Pairwise (·<=·):=by have h:=List.pairwise_mergeSort (le:=fun a b:Int=>decide (a<=b)) (by intro a b c h1 h2;simp only[decide_eq_true_eq] at *;omega) (by intro a b;simp only[Lc,decide_eq_true_eq];omega) ns;exact h.imp fun {a b} h=>by simpa using h
theorem Jbq:∀{xs ys:List Int},xs.Perm ys->xs.Pairwise (·<=·)->ys.Pairwise (·<=·)->xs=ys
 | [],ys,p,_,_=>by rw[List.Perm.nil_eq p]
 | x::xs,ys,p,h1,h2=>by
  cases ys with
  | nil=>exact absurd p.symm (by simp)
  | cons y ys =>
   obtain⟨a1,a2⟩:=Qw.mp h1;obtain⟨b1,b2⟩:=Qw.mp h2
   have e:x=y:=by
    have hx:x∈y::ys:=p.mem_iff.mp Qd
    have hy:y∈x::xs:=p.mem_iff.mpr Qd;rcases Qh.mp hx with z|z
    ·exact z
    ·rcases Qh.mp hy with w|w
     ·exact w.symm
     ·have:=a1 y w
      have:=b1 x z;omega
   subst e;rw[Jbq (Rj p) a2 b2]
noncomputable def Jcp(K:Frag):List V->Hp->VK->Prop:=fun xs H Q=>∃(a:Addr) (ns:List Int),xs=[.ref a]/\SqL K H a (ns.map V.int)/\ns.length<64/\∀l,H l=none->Q (.ref l) (upd H l (.lst ((UI ns).map V.int)))
theorem WI:∀{ns:List Int} {us:List Value},IntsAre us ns->Vals (ns.map V.int) us:=by
 intro ns us h
 induction h with
 | nil=>exact .nil
 | cons _ _ _ ih=>exact .cons ⟨_,rfl⟩ ih
section
variable{X:Cx}
theorem JbD:YS X (.builtin "sorted") (Jcp X.K):=by
 intro pins s σ H xs us Q I r h;obtain⟨p,ns,rfl,hq,hl,q⟩:=h;obtain⟨u,rfl,rx⟩:=WH r;cases rx;obtain⟨its,r',pl,hz⟩:=I.list hq;have hlen:=r'.length;rw[Qk] at hlen hz;refine sorted_ints pl.isList (UW r') (by omega) fun out ns' a1 a2 a3=>?_
 have es:ns'=UI ns:=Jbq (a2.trans (YC ns).symm) a3 (WB ns);subst es;obtain⟨e,he⟩:=sortedAll_at s.heap its out
 have hn:((UI ns).map V.int).length<=sizeLine:=by rw[Qk,(YC ns).length_eq];exact hz
 have hne:H (s.heap.objs.size+1)=none:=I.hok.fresh (Nat.le_succ _);refine⟨.ref (s.heap.objs.size+1),_,I.laid (t':=s.toks) (fun b o x=>sortedAll_old x) (Nat.le_succ _) (show ObjOk X.prog X.w _ _ _ (.lst ((UI ns).map V.int)) from⟨hn,out.toList,e,WI a1,?_⟩),rfl,q _ hne⟩;rw[he]
end
theorem JbC{X:Cx}{K:Frag}(hK:X.K=K)(hc:X.calm=true):YS X (.builtin "sorted") (Jcp K):=hK▸JbD
end L2
namespace LE
open PySem L2 LR
noncomputable def Zr:List Sl->Option Sl
 | [s]=>s.r.bind fun ds=>(ints? ds).bind fun ns=>if ns.length<64 then some (.own ((UI ns).map .int)) else none
 | _=>none
section
variable{K:Frag}{C:Addr}
theorem JjR{H:Hp}(ns:List Int):RDL K C H (ns.map V.int) (ns.map D.int):=by refine⟨by simp,fun i x d h1 h2=>?_⟩;rw[Qq] at h1 h2;obtain⟨n,e,rfl⟩:=Gj.mp h1;rw[e] at h2;cases h2;exact .int n
theorem Jh4:Za K C (Jcp K) Zr:=by
 intro Hs H0 H xs as c Q i hs r e q;unfold Zr at e;split at e
 ·obtain⟨v,rfl,r0⟩:=r.one;obtain⟨ds,e1,e⟩:=bind_some e;obtain⟨ns,e2,e⟩:=bind_some e;split at e
  ·next hn=>cases e;obtain⟨l,ys,rfl,h,r1⟩:=r0.r i e1;rw[UN e2] at r1;have:=r1.ints;subst this;exact⟨l,ns,rfl,h,hn,fun p hp=>U4 i hs hp (JjR _) q⟩
  ·cases e
 ·cases e
end
end LE

namespace PySem
namespace F
end F
section
variable{prog:Program}{w:World}{A:Around}{E:Value->Shared->Prop}{s:Shared}{l:Addr}{lo hi:Int}{t u v:Tok}
end
end PySem
namespace L2
open PySem PySem.Spec PyProof.Rows
end L2
namespace LE
open PySem L2 LR
section
variable{K:Frag}{C:Addr}{m:Bool}
end
end LE

namespace PySem
namespace F
end F
section
variable{prog:Program}{w:World}{A:Around}{E:Value->Shared->Prop}{s:Shared}{z TI TO i1 i2 i3:Addr}{p1 p2 p3:List Addr}{n1 n2 n3 k:Nat}{P1 P2 P3:Nat->Value->Prop}{S1 S2 S3:Nat->Heap->Prop}
end
end PySem

namespace PySem
section
variable{prog:Program}{w:World}{A:Around}{E:Value->Shared->Prop}{s:Shared}{b1 b2 b3:Bool}{a1 a2 a3:Addr}{xs ys zs:Array Value}
end
end PySem
namespace L2
open PySem PySem.Spec PyProof.Rows
end L2
namespace LE
open PySem L2 LR
section
variable{K:Frag}{C:Addr}{m:Bool}
end
end LE

namespace L2
open PySem PySem.Spec PyProof.Rows
noncomputable def Jbw(X:Cx)(f:Value)(nm:Str)(z:V)(r:List V->Hp->VK->Prop):Prop :=
 ∀(pins:List (Addr×Obj)) (s:Shared) (σ:St) (H:Hp) (xs:List V) (us:List Value) (w:Value) (Q:VK),Inv X pins σ H s->Vals xs us->RelV z w->r xs H Q->wpAny (model X.prog X.w) X.A (call f us [(nm,w)]) (EP X pins σ Q) X.xe s
theorem Jhq{X:Cx}{id:String}{nm x:Str}{z:V}{r:List V->Hp->VK->Prop}{e ek:Expr}{es:List Expr}{t:TA}{p pos kpos:Pos}(hc:Jbw X (.builtin id) nm z r)(hg:Gl X x)(hm:X.mg x=none)(hv:bootBuiltins x=some (.builtin id))(ha:PA X (e::es) t)(hk:PE X ek (tC z))
 (hn:x≠"__name__":=by decide) (hdb:(x == ("__debug__":Str))=false:=by decide)
 (he:backTo pos (starEach (e::es) X.env)=(false,eval e X.env)::backTo pos (starEach es X.env):=by rfl) (hpl:(backTo pos (starEach (e::es) X.env)).any (·.1)=false:=by rfl):PE X (.Call (.Name x p) (e::es) [⟨some nm,ek,kpos⟩] pos) (tCB r t):=by
 intro pins s σ H Q I h;refine KH (Vb I hg hm hv ?_ hn hdb);refine callWith_kw (thn (ha pos pins s σ H _ I h) fun us s1 ⟨vs,H1,I1,r1,q1⟩=>?_) he hpl rfl rfl;refine kws_cons (thn (hk pins s1 σ H1 (fun v H2=>v=z/\r vs H2 Q) I1 ⟨rfl,q1⟩) fun w s2 ⟨v,H2,I2,rz,e2,q2⟩=>kws_nil ?_);subst e2;exact hc pins s2 σ H2 vs us w Q I2 r1 rz q2
section
variable{X:Cx}
end
end L2
namespace LE
open PySem L2 LR
section
variable{K:Frag}{C:Addr}
end
end LE

namespace PySem

theorem Jdk(a v:Value):argsOk "min" ⟨[a],[(Gb "default",v)]⟩:=by unfold argsOk;kernel_rfl
section
variable{prog:Program}{w:World}{A:Around}{R:Result->Shared->Prop}{I:Addr}{fp wr:List Addr}{n:Nat}{P:Nat->Value->Prop}{St:Nat->Heap->Prop}
theorem Jhj(W:Walks prog w A.in1 I fp wr n P St)(bt:Nat->Nat->Bool)(cm:CmpOf prog w A.in1 .Lt P bt)(S:Addr)(nS:S∉fp)(d:Value) :
 ∀(k j:Nat) (s:Shared) (c:Nat) (arr:Array Value),n-j=k->j<=n->St j s.heap->((j=0/\arr=#[])\/∃vb,0<j/\arr=#[vb,vb]/\P (argBest bt (j-1)) vb) ->
 s.heap.get? S=some { cls:=.type "list",dict:=none,data:=.seq arr c,slots:=#[] } ->
 (n=0->∀h' tk,(∀b o,b∉wr->b≠S->s.heap.get? b=some o->h'.get? b=some o)->R (.ok (.ret d)) { s with heap:=h',toks:=tk }) ->
 (0<n->∀v h' tk,P (argBest bt (n-1)) v->(∀b o,b∉wr->b≠S->s.heap.get? b=some o->h'.get? b=some o)->R (.ok (.ret v)) { s with heap:=h',toks:=tk }) ->
 codeAny (model prog w) A (.builtin "min.loop" ⟨[.ref I,.none,.ref S],[(Gb "default",d)]⟩) R s:=by
 have nW:S∉wr:=fun h=>nS (W.sub _ h)
 have nm:(toString "min"++toString ".loop":String)="min.loop":=by decide
 intro k
 induction k with
 | zero =>
  intro j s c arr hk hj st best hS h0 h1;have ej:j=n:=by omega
  subst ej;refine KS F.entry_min_loop ?_;rw[GZ KA _];rcases best with ⟨e0,rfl⟩|⟨vb,jp,rfl,pb⟩
  ·show wpAny _ A.in1 (seqItems? (.ref S) >>= _) _ _ s;refine Qa (Gk hS rfl (show wpAny _ A.in1 (tryCatch (pyNext (.ref I)) _ >>= _) _ _ s from Qa (Lp (W.done s _ _ st fun h' tk hk'=>?_))));exact Qa (Lg (Qg (h0 e0 h' tk fun b o b1 _ e=>hk' b o b1 e)))
  ·show wpAny _ A.in1 (seqItems? (.ref S) >>= _) _ _ s;refine Qa (Gk hS rfl (show wpAny _ A.in1 (tryCatch (pyNext (.ref I)) _ >>= _) _ _ s from Qa (Lp (W.done s _ _ st fun h' tk hk'=>?_))))
   have hS':=hk' S _ nW hS
   show wpAny _ A.in1 (updateSeq S (fun _=>#[]) >>= _) _ _ _;refine Qa (Kj hS' rfl (Qa (KD (Qg ?_))));exact h1 jp vb _ tk pb fun b o b1 b2 e=>(Gc _ _ (QO b2)).trans (hk' b o b1 e)
 | succ k ih =>
  intro j s c arr hk hj st best hS h0 h1;have lt:j<n:=by omega
  refine KS F.entry_min_loop ?_;rw[GZ KA _];have nz:n=0->∀{s':Shared} h' tk,(∀b o,b∉wr->b≠S->s'.heap.get? b=some o->h'.get? b=some o)->R (.ok (.ret d)) { s' with heap:=h',toks:=tk }:=fun z=>absurd z (by omega)
  rcases best with ⟨e0,rfl⟩|⟨vb,jp,rfl,pb⟩
  ·subst e0;show wpAny _ A.in1 (seqItems? (.ref S) >>= _) _ _ s;refine Qa (Gk hS rfl (show wpAny _ A.in1 (tryCatch (pyNext (.ref I)) _ >>= _) _ _ s from Qa (Lp (W.item 0 s _ _ lt st fun v h' tk pv st' hk'=>?_))));have hS':=hk' S _ nW hS;show wpAny _ A.in1 (updateSeq S (fun _=>#[v,v]) >>= _) _ _ _;refine Qa (Kj hS' rfl ?_);rw[nm];refine Qg ⟨Kt KA _,ih 1 _ _ _ (by omega) (by omega) (W.frame _ _ _ st' fun b bf o e=>?_) (.inr ⟨v,by omega,rfl,pv⟩) (GC _ hS' rfl) (fun z=>nz z) fun np v' h2 t2 pv' k2=>?_⟩
   ·exact(Gc _ _ (fun h:S=b=>nS (by rw[h];exact bf))).trans e
   ·exact h1 np v' h2 t2 pv' fun b o b1 b2 e=>k2 b o b1 b2 ((Gc _ _ (QO b2)).trans (hk' b o b1 e))
  ·show wpAny _ A.in1 (seqItems? (.ref S) >>= _) _ _ s;refine Qa (Gk hS rfl (show wpAny _ A.in1 (tryCatch (pyNext (.ref I)) _ >>= _) _ _ s from Qa (Lp (W.item j s _ _ lt st fun v h' tk pv st' hk'=>?_))))
   have hS':=hk' S _ nW hS
   have ea:argBest bt j=if bt j (argBest bt (j-1))=true then j else argBest bt (j-1):=by
    obtain⟨i,rfl⟩:∃i,j=i+1:=⟨j-1,by omega⟩
    rfl
   show wpAny _ A.in1 (tryCatch (holding [v,v] (richCompare .Lt v vb >>= _)) _ >>= _) _ _ _;refine Qa (Lp (GG (Qa (cm j (argBest bt (j-1)) v vb _ _ _ pv pb (Qa (GG (Kk (Qa (KD (Qg ?_))))))))))
   cases hb:bt j (argBest bt (j-1)) with
   | true =>
    simp only[if_true];refine Qa (Kj hS' rfl (Qa (KD ?_)));rw[nm];refine Qg ⟨Kt KA _,ih (j+1) _ _ _ (by omega) (by omega) (W.frame _ _ _ st' fun b bf o e=>?_) (.inr ⟨v,by omega,rfl,?_⟩) (GC _ hS' rfl) (fun z=>nz z) fun np v' h2 t2 pv' k2=>?_⟩
    ·exact(Gc _ _ (fun h:S=b=>nS (by rw[h];exact bf))).trans e
    ·rw[Nat.add_sub_cancel,ea,hb,if_pos rfl];exact pv
    ·exact h1 np v' h2 t2 pv' fun b o b1 b2 e=>k2 b o b1 b2 ((Gc _ _ (QO b2)).trans (hk' b o b1 e))
   | false =>
    simp only[GF,if_false];refine Qa (KD ?_);rw[nm];refine Qg ⟨Kt KA _,ih (j+1) _ c _ (by omega) (by omega) st' (.inr ⟨vb,by omega,rfl,?_⟩) hS' (fun z=>nz z) fun np v' h2 t2 pv' k2=>?_⟩
    ·rw[Nat.add_sub_cancel,ea,hb,if_neg Qt];exact pb
    ·exact h1 np v' h2 t2 pv' fun b o b1 b2 e=>k2 b o b1 b2 (hk' b o b1 e)
end
section
variable{prog:Program}{w:World}{A:Around}{E:Value->Shared->Prop}{s:Shared}{l:Addr}{xs:Array (Int×Tok)}
theorem Jdl{d:Value}{Q:Value->Shared->Prop}(hh:A.handled=none)(hl:s.heap.IsList l (intItems xs))(h0:xs.size=0->∀h' tk,(∀b o,s.heap.get? b=some o->h'.get? b=some o)->Q d { s with heap:=h',toks:=tk })
 (h1:0<xs.size->∀v h' tk,(intItems xs)[argBest (fun i j=>decide (numAt xs i<numAt xs j)) (xs.size-1)]?=some v->(∀b o,s.heap.get? b=some o->h'.get? b=some o)->Q v { s with heap:=h',toks:=tk }) :
 wpAny (model prog w) A (call (.builtin "min") [.ref l] [(Gb "default",d)]) Q E s:=by
 have nm:(toString "min"++toString ".loop":String)="min.loop":=by decide
 have sz:(intItems xs).size=xs.size:=by simp[intItems]
 refine PyProof.Rows.kmk_tree F.kind_min F.plain_min F.entry_min (Jdk _ _) ?_;show wpAny _ A.in1 (L0 "min" ["key","default"] 0 ⟨[],[(Gb "default",d)]⟩ >>= _) _ _ s;refine Qa (Kl (show L0 "min" ["key","default"] 0 ⟨[],[(Gb "default",d)]⟩=pure [none,some d] from rfl) ?_);refine Qa (Qg ?_);refine Qa (iter_intList hl fun s₂ e st hfp hlI=>?_);subst e;refine Qa (Q3 ?_)
 rw[nm];have W:=Walks.list (prog:=prog) (w:=w) (A:=A.in1) hh _ l hlI (intItems xs);have fpS:(s.heap.push { cls:=.type "list_iterator",data:=.fields #[.ref l,.int 0 0] }).objs.size∉[s.heap.objs.size,l]:=fun hm=>QZ _ (hfp _ hm)
 refine Qg ⟨Kt KA _,Jhj W (fun i j=>decide (numAt xs i<numAt xs j)) (CmpOf.ints_lt (numAt xs) (fun _ _=>intItems_at)) _ fpS d _ 0 _ _ #[] rfl (Gv _) (W.frame _ _ _ st fun b _ o e=>Qf _ e) (.inl ⟨rfl,rfl⟩) (Qi _ rfl) (fun z h' tk k=>?_) fun z v h' tk pv k=>?_⟩
 ·exact h0 (by rw[<- sz];exact z) h' tk (old_kept fun b o b1 e=>k b o b1 (QA (Qj e)) (Qf _ e))
 ·exact h1 (by rw[<- sz];exact z) v h' tk (by rw[sz] at pv;exact pv) (old_kept fun b o b1 e=>k b o b1 (QA (Qj e)) (Qf _ e))
end

section
variable{prog:Program}{w:World}{A:Around}{R:Result->Shared->Prop}{I:Addr}{fp wr:List Addr}{n:Nat}{P:Nat->Value->Prop}{St:Nat->Heap->Prop}
end
section
variable{prog:Program}{w:World}{A:Around}{E:Value->Shared->Prop}{s:Shared}{l:Addr}{xs:Array (Int×Tok)}
end

end PySem

namespace L2
open PySem PySem.Spec PyProof.Rows

section
variable{X:Cx}
noncomputable def JjH(K:Frag):List V->Hp->VK->Prop:=fun xs H Q=>∃(a:Addr) (ns:List Int),xs=[.ref a]/\SqL K H a (ns.map V.int)/\(ns=[]->Q .non H)/\∀M,M∈ns->(∀b,b∈ns->M<=b)->Q (.int M) H
theorem JgS(hc:X.calm=true):Jbw X (.builtin "min") "default" .non (JjH X.K):=by
 intro pins s σ H xs us w Q I r rz h;obtain⟨a,ns,rfl,hq,q0,q⟩:=h;obtain⟨u,rfl,rx⟩:=WH r;cases rx;cases rz;obtain⟨its,rv,p,hz⟩:=I.list hq;have hi:=UW rv;have hl:=p.isList;obtain⟨xs,e⟩:=hi.allInts.items;have hns:ns=xs.toList.map (·.1):=by rw[<- hi.numsOf,<- nums_intItems,<- e]
 rw[e] at hl;refine Jdl (I.ok.hd hc) hl (fun z h' tk hk=>?_) fun z v h' tk hv hk=>?_
 ·refine⟨.non,H,I.kept hk,rfl,q0 ?_⟩;rw[hns];exact QE (by rw[Qk,Gs];exact z)
 ·obtain⟨t,rfl⟩:=intItems_at hv;obtain⟨h1,h2⟩:=argBest_lt (numAt xs) (xs.size-1);refine⟨.int _,H,I.kept hk,⟨t,rfl⟩,q _ ?_ fun a ha=>?_⟩
  ·rw[hns,numAt_eq];exact getD_mem (by rw[Qk,Gs];omega)
  ·rw[hns] at ha;obtain⟨j,hj,rfl⟩:=mem_getD ha;rw[Qk,Gs] at hj;rw[<- numAt_eq];exact h2 j (by omega)
end
theorem Jee{X:Cx}{K:Frag}(hK:X.K=K)(hc:X.calm=true):Jbw X (.builtin "min") "default" .non (JjH K):=hK▸JgS hc

section
variable{X:Cx}
end
end L2
namespace LE
open PySem L2 LR

noncomputable def JfB:List Sl->Option Sl
 | [s]=>s.r.bind fun ds=>(ints? ds).map fun ns=>match ns.min? with
  | some m=>.sh (.int m)
  | none=>.sh .non
 | _=>none
theorem Jna{K:Frag}{C:Addr}:Za K C (JjH K) JfB:=by
 intro Hs H0 H xs as c Q i hs r e q;unfold JfB at e;split at e
 ·obtain⟨v,rfl,r0⟩:=r.one;obtain⟨ds,e1,e⟩:=bind_some e;obtain⟨ns,e2,rfl⟩:=map_some e;obtain⟨l,ys,rfl,h,r1⟩:=r0.r i e1;rw[UN e2] at r1;have:=r1.ints;subst this;refine⟨l,ns,rfl,h,fun z=>?_,fun M hM hb=>?_⟩
  ·subst z;exact q _ _ _ (.refl i) RD.non
  ·have hm:ns.min?=some M:=M1.mpr ⟨hM,hb⟩;rw[hm] at q;exact q _ _ _ (.refl i) (RD.int _)
 ·cases e

end LE

namespace LE
open PySem L2 LR

noncomputable def look{α:Type}:List Int->List α->Int->Option α
 | k::ks,d::ds,n=>if k=n then some d else look ks ds n
 | _,_,_=>none
noncomputable def V5(ks:List Int)(n:Int):Bool:=ks.any fun k=>decide (k=n)
noncomputable def JK(ks:List Int)(n:Int):List Int:=if V5 ks n=true then ks else ks++[n]
noncomputable def setK{α:Type}:List Int->List α->Int->α->List α
 | k::ks,d::ds,n,v=>(if k=n then v else d)::setK ks ds n v
 | _,ds,_,_=>ds
noncomputable def putDs{α:Type}(ks:List Int)(ds:List α)(n:Int)(v:α):List α:=if V5 ks n=true then setK ks ds n v else ds++[v]
theorem JdO{α:Type}(n:Int)(v:α):∀(ks:List Int) (ds:List α),(setK ks ds n v).length=ds.length
 | [],_=>rfl
 | _::_,[]=>rfl
 | _::ks,_::ds=>by simp[setK,JdO n v ks ds]
theorem Jbm{α:Type}(ks:List Int)(ds:List α)(n:Int)(v:α)(h:ks.length=ds.length):(JK ks n).length=(putDs ks ds n v).length:=by unfold JK putDs;split <;> simp[JdO,h]
theorem Uy:∀(ks:List Int) (xs:List V) (n:Int),U1 ((ks.map Sum.inl:List Key).zip xs) (Sum.inl n)=look ks xs n
 | [],_,_=>rfl
 | _::_,[],_=>rfl
 | k::ks,x::xs,n=>by
  show U1 (((Sum.inl k:Key),x)::(ks.map Sum.inl:List Key).zip xs) (Sum.inl n)=_
  by_cases h:k=n
  ·rw[VI (by rw[h]),look,if_pos h]
  ·rw[VH (fun e=>h (M6 e)),look,if_neg h];exact Uy ks xs n
theorem JcF:∀(ks:List Int) (xs:List V) (n:Int),ks.length=xs.length->(((ks.map Sum.inl:List Key).zip xs).any fun kv=>decide (kv.1=(Sum.inl n:Key)))=V5 ks n
 | [],_,_,_=>rfl
 | _::_,[],_,h=>by simp at h
 | k::ks,x::xs,n,h=>by
  show(decide ((Sum.inl k:Key)=Sum.inl n) || ((ks.map Sum.inl:List Key).zip xs).any _)=(decide (k=n) || ks.any _)
  rw[JcF ks xs n (by simpa using h)];congr 1
  by_cases e:k=n
  ·subst e;simp
  ·rw[decide_eq_false e,decide_eq_false fun z=>e (M6 z)]
theorem Jdi:∀(ks:List Int) (xs:List V) (n:Int) (v:V),ks.length=xs.length->(((ks.map Sum.inl:List Key).zip xs).map fun kv=>if kv.1=(Sum.inl n:Key) then(kv.1,v) else kv)=(ks.map Sum.inl:List Key).zip (setK ks xs n v)
 | [],_,_,_,_=>rfl
 | _::_,[],_,_,h=>by simp at h
 | k::ks,x::xs,n,v,h=>by
  show(if (Sum.inl k:Key)=Sum.inl n then((Sum.inl k:Key),v) else(Sum.inl k,x))::((ks.map Sum.inl:List Key).zip xs).map _=(Sum.inl k,if k=n then v else x)::(ks.map Sum.inl:List Key).zip (setK ks xs n v);rw[Jdi ks xs n v (by simpa using h)];congr 1
  by_cases e:k=n
  ·subst e;simp
  ·rw[if_neg e,if_neg fun z=>e (M6 z)]
theorem JdG(ks:List Int)(xs:List V)(n:Int)(v:V)(h:ks.length=xs.length):(HO.dK (Vf ((ks.map Sum.inl:List Key).zip xs) (Sum.inl n) v))=dkO (JK ks n) (putDs ks xs n v):=by
 unfold dkO Vf JK putDs;rw[JcF ks xs n h];split
 ·rw[Jdi ks xs n v h]
 ·rw[Qz,LM (by simpa using h)];rfl
section
variable{K:Frag}{C:Addr}{Hs H0 H:Hp}
theorem RDL.look:∀{ks:List Int} {xs:List V} {ds:List D} {n:Int},RDL K C H xs ds->(LE.look ks xs n=none/\LE.look ks ds n=none)\/∃x d,LE.look ks xs n=some x/\LE.look ks ds n=some d/\RD K C H x d
 | [],_,_,_,_=>.inl ⟨rfl,rfl⟩
 | _::_,[],[],_,_=>.inl ⟨rfl,rfl⟩
 | _::_,[],_::_,_,h=>by have:=h.1;simp at this
 | _::_,_::_,[],_,h=>by have:=h.1;simp at this
 | k::ks,x::xs,d::ds,n,h=>by
  simp only[LE.look]
  by_cases e:k=n
  ·rw[if_pos e,if_pos e];exact .inr ⟨x,d,rfl,rfl,h.head⟩
  ·rw[if_neg e,if_neg e];exact RDL.look h.tail
theorem RDL.setK{n:Int}{v:V}{e:D}(r:RD K C H v e):∀{ks:List Int} {xs:List V} {ds:List D},RDL K C H xs ds->RDL K C H (LE.setK ks xs n v) (LE.setK ks ds n e)
 | [],_,_,h=>h
 | _::_,[],[],_=>.nil
 | _::_,[],_::_,h=>by have:=h.1;simp at this
 | _::_,_::_,[],h=>by have:=h.1;simp at this
 | k::ks,x::xs,d::ds,h=>by
  simp only[LE.setK];refine .cons ?_ (RDL.setK r h.tail);split
  ·exact r
  ·exact h.head
theorem RDL.putDs{n:Int}{v:V}{e:D}{ks:List Int}{xs:List V}{ds:List D}(h:RDL K C H xs ds)(r:RD K C H v e):RDL K C H (LE.putDs ks xs n v) (LE.putDs ks ds n e):=by
 unfold LE.putDs;split
 ·exact RDL.setK r h
 ·exact h.snoc r
theorem JnU{p:Addr}{ks:List Int}{xs:List V}{ds:List D}{Q:VK}(i:Same H0 H)(hs:Same Hs H)(hp:H p=none)(hk:ks.length=ds.length)(r:RDL K C H0 xs ds)(q:∀v H0' H',Step Hs H0 H H0' H'->RR K C Hs H0' H' v (.od ks ds)->Q v H'):Q (.ref p) (upd H p (dkO ks xs)) :=
 q _ H0 _ ⟨.new hp,Same.refl _,fun _ _ e=>.inl e,i.trans (.new hp)⟩ ⟨p,xs,rfl,Js,Same.free i hp,Same.free hs hp,hk,r⟩
end
noncomputable def Sl.dk:Sl->Option (List Int×List D)
 | .sh (.dct ks ds)=>some (ks,ds)
 | .sh (.dfz ks ds)=>some (ks,ds)
 | .bd ks ds=>some (ks,ds)
 | .od ks ds=>some (ks,ds)
 | _=>none
noncomputable def int?:Sl->Option Int
 | .sh (.int i)=>some i
 | _=>none
noncomputable def JcV:Ev:=fun _=>some (.od [] [])
noncomputable def JkE(a k:Ev):Ev:=fun E=>(a E).bind fun s=>s.dk.bind fun p=>((k E).bind int?).bind fun n=>(look p.1 p.2 n).map .sh
noncomputable def Jeh(a k x:Ev):Ev:=fun E=>(a E).bind fun s=>s.dk.bind fun p=>((k E).bind int?).bind fun n=>((x E).bind sh?).bind fun d=>some (.sh ((look p.1 p.2 n).getD d))
noncomputable def JgC(i:Nat)(k a:Ev):Es:=fun E=>match E[i]? with
 | some (.od ks ds)=>(a E).bind fun s=>s.frz.bind fun d=>((k E).bind int?).bind fun n=>if ks.length<sizeLine then some (.nx (E.set i (.od (JK ks n) (putDs ks ds n d)))) else none
 | _=>none
section
variable{K:Frag}{C:Addr}{Hs H0 H:Hp}{td ty tx te:TE}{ed ek ex ea:Ev}
theorem Ve{s:Sl}{n:Int}(e:int? s=some n):s=.sh (.int n):=by
 cases s with
 | sh d=>cases d with
  | int i=>cases e;rfl
  | _=>cases e
 | _=>cases e
theorem RR.dk{v:V}{s:Sl}{p:List Int×List D}(r:RR K C Hs H0 H v s)(i:Same H0 H)(e:s.dk=some p):∃l xs,v=.ref l/\Rd H l (dkO p.1 xs)/\p.1.length=p.2.length/\RDL K C H0 xs p.2:=by
 cases s with
 | bd ks ds=>cases e;obtain⟨l,xs,h1,h2,h3⟩:=r;exact⟨l,xs,h1,.inl h2,h3⟩
 | od ks ds=>cases e;obtain⟨l,xs,h1,h2,_,_,h3⟩:=r;exact⟨l,xs,h1,.inl h2,h3⟩
 | bt _ _=>cases e
 | ot _ _=>cases e
 | sh d=>cases d with
  | dct ks ds=>cases e;obtain⟨l,xs,h1,h2,h3⟩:=RD.dctI r;exact⟨l,xs,h1,.inl (i _ _ h2),h3⟩
  | dfz ks ds=>cases e;obtain⟨l,xs,o,h1,h2,h3⟩:=RD.dfzI r;exact⟨l,xs,h1,.inr ⟨o,i _ _ h2⟩,h3⟩
  | _=>cases e
 | _=>cases e
theorem Jpd{l:Addr}{ks:List Int}{xs:List V}{n:Int}(h:Rd H l (dkO ks xs)):JgI H l (.int n) (look ks xs n):=.inl ⟨_,Sum.inl n,h,rfl,(Uy ks xs n).symm⟩
theorem JeT:SE K C Jj5 JcV:=by intro B H0 H σ E r Q I e q;cases e;intro p hp;exact JnU (ks:=[]) (xs:=[]) (Hs:=H) I.h (Same.refl _) hp rfl .nil q
theorem JpZ(ha:SE K C td ed)(hk:SE K C ty ek):SE K C (JmW td ty) (JkE ed ek):=by
 intro B H0 H σ E r Q I e q;obtain⟨s,e1,e⟩:=bind_some e;obtain⟨p,e2,e⟩:=bind_some e;obtain⟨n,e3,e⟩:=bind_some e;obtain⟨t,e3,e4⟩:=bind_some e3;obtain rfl:=Ve e4;obtain⟨d,e5,rfl⟩:=map_some e;refine ha B H0 H σ E s _ I e1 fun x H1 H1' s1 r1=>hk B H1 H1' σ E _ _ (I.step s1) e3 fun y H2 H2' s2 r2=>?_
 obtain⟨l,xs,rfl,h,_,rl⟩:=(r1.step s2).dk s2.i e2;rw[RD.intI r2];rcases RDL.look (ks:=p.1) (n:=n) rl with ⟨_,z⟩|⟨v,d',z1,z2,z3⟩
 ·rw[z] at e5;cases e5
 ·rw[z2] at e5;cases e5;exact⟨l,v,rfl,z1▸Jpd h,q _ _ _ (s1.trans s2) z3⟩
theorem Jl4(ha:SE K C td ed)(hk:SE K C ty ek)(hx:SE K C tx ex):SE K C (Je5 td ty tx) (Jeh ed ek ex):=by
 intro B H0 H σ E r Q I e q;obtain⟨s,e1,e⟩:=bind_some e;obtain⟨p,e2,e⟩:=bind_some e;obtain⟨n,e3,e⟩:=bind_some e;obtain⟨t,e3,e4⟩:=bind_some e3;obtain rfl:=Ve e4;obtain⟨d,e5,e⟩:=bind_some e;obtain⟨t',e5,e6⟩:=bind_some e5;obtain rfl:=Wz e6;cases e;refine ha B H0 H σ E s _ I e1 fun x H1 H1' s1 r1=>?_
 obtain⟨l0,xs0,rfl,h0,_,_⟩:=r1.dk s1.i e2;refine⟨l0,rfl,.inl ⟨_,h0⟩,hk B H1 H1' σ E _ _ (I.step s1) e3 fun y H2 H2' s2 r2=>hx B H2 H2' σ E _ _ ((I.step s1).step s2) e5 fun z H3 H3' s3 r3=>?_⟩;obtain⟨l,xs,hl,h,_,rl⟩:=((r1.step s2).step s3).dk s3.i e2;cases hl;rw[RD.intI r2];refine⟨_,Jpd h,q _ _ _ ((s1.trans s2).trans s3) ?_⟩;rcases RDL.look (ks:=p.1) (n:=n) rl with ⟨z1,z2⟩|⟨v,d',z1,z2,z3⟩
 ·rw[z1,z2];exact r3
 ·rw[z1,z2];exact z3
theorem JoW{i:Nat}(ha:SE K C te ea)(hk:SE K C ty ek):SS K C (JjV (WE i) ty te) (JgC i ek ea):=by
 intro B H0 H σ E o D I e f;unfold JgC at e;split at e
 ·next ks ds h =>
  obtain⟨s,e1,e⟩:=bind_some e;obtain⟨d,e2,e⟩:=bind_some e;obtain⟨n,e3,e⟩:=bind_some e;obtain⟨t,e3,e4⟩:=bind_some e3;obtain rfl:=Ve e4;split at e
  ·next hz =>
   cases e;obtain⟨l,xs,g1,g2,g3,g4,gk,g5⟩:=I.slotD h;refine ha B H0 H σ E _ _ I e1 fun v H1 H1' s1 r1=>?_
   have s2:Step H H0 H (J1 H H1 H1') H1':=s1.comp (JT s1.i) fun _ z=>z
   have rv:=RR.frz s1.i r1 e2;refine⟨_,g1,?_⟩;refine hk B _ H1' σ E _ _ (I.step s2) e3 fun w H3 H3' s3 r3=>?_
   have s4:=s2.trans s3
   have hx:ks.length=xs.length:=gk.trans g5.1.symm;obtain⟨_,n0,nB⟩:=(I.step s4).ownG h rfl g1
   have rr:=(g5.mono s4.z).putDs (ks:=ks) (n:=n) (rv.mono s3.z)
   have m:=(I.step s4).mutG (t':=.od (JK ks n) (putDs ks ds n d)) (o':=dkO (JK ks n) (putDs ks xs n v)) h rfl rfl g1 ⟨l,_,rfl,Js,n0,nB,Jbm _ _ _ _ gk,rr⟩;rw[RD.intI r3];refine⟨l,_,rfl,.inl ⟨_,Sum.inl n,s4.h _ _ g2,rfl,?_,rfl⟩,?_⟩
   ·rw[Gh,Qk,<- hx,KJ];exact hz
   ·rw[JdG ks xs n v hx];exact f _ _ _ ⟨m.b,s4.z,(s4.ss I.b).n,m.h⟩ m
  ·cases e
 ·cases e
end

noncomputable def Jiv(x y:Sl):Option Sl:=x.m.bind fun ds=>(int? y).bind fun k=>if Jev k=true/\ds.length*k.toNat<=sizeLine then some (.own (QH k.toNat ds).flatten) else none
section
variable{K:Frag}{C:Addr}{H:Hp}
theorem RDL.rep{xs:List V}{ds:List D}(r:RDL K C H xs ds):∀k:Nat,RDL K C H (QH k xs).flatten (QH k ds).flatten
 | 0=>.nil
 | k+1=>by rw[GK,GK,G1,G1];exact r.append (RDL.rep r k)
theorem JmP:OpS K C JpP Jiv:=by
 intro Hs H0 H x y a b c Q i hs ra rb e q;obtain⟨ds,e1,e⟩:=bind_some e;obtain⟨k,e2,e3⟩:=bind_some e;have hb:=Ve e2;subst hb;split at e3
 ·next hz=>cases e3;obtain⟨l,us,rfl,h1,r1⟩:=ra.m i e1;obtain⟨b1,b2⟩:=JbZ hz.1;exact⟨l,k,us,rfl,RD.intI rb,h1,by omega,by omega,by rw[r1.1];exact hz.2,fun p hp=>U4 i hs hp (r1.rep k.toNat) q⟩
 ·cases e3
end
theorem Jc1{d:D}{s:Sl}{k:Int}(e:s.m=some [d])(h1:Jev k=true)(h2:k.toNat<=16777216):Jiv s (.sh (.int k))=some (.own (QH k.toNat d)):=by
 unfold Jiv;rw[e,QM];show(some k).bind _=_;rw[QM,if_pos ⟨h1,by rw[Gg,Nat.one_mul];exact h2⟩];congr 2
 generalize k.toNat=n
 induction n with
 | zero=>rfl
 | succ n ih=>rw[GK,G1,ih];rfl
end LE

namespace L2
open PySem PySem.Spec PyProof.Rows
noncomputable def JmX(i:Nat)(t:TS):TS:=fun D σ H=>∃a kvs,σ[i]?=some (some (.ref a))/\H a=some (.dK kvs)/\∀o,t D σ (upd H a (.frz o (.dK kvs)))
theorem Inv.freeze{X:Cx}{pins:List (Addr×Obj)}{σ:St}{H:Hp}{s:Shared}{a:Addr}{kvs:List (Key×V)}(I:Inv X pins σ H s)(e:H a=some (.dK kvs)):∃o,Inv X pins σ (upd H a (.frz o (.dK kvs))) s:=by
 obtain⟨z,y,vs,r,ob,es,ep,e1,c⟩:=(show ObjOk X.prog X.w H s.heap a (.dK kvs) from I.hok a _ e)
 have:=I.write (x:=a) (e:=a) (o:=.frz ob (.dK kvs)) (h':=s.heap) (t':=s.toks) (by rw[e];trivial) (.inl rfl) (fun b u _ q=>q) ⟨ob,e1⟩ ⟨e1,z,y,vs,r,ob,es,ep,e1,c⟩;exact⟨ob,this⟩
theorem JlJ{X:Cx}{st:Stmt}{t:TS}(i:Nat)(h:PS X st t):PS X st (JmX i t):=by intro pins s σ H D I ⟨a,kvs,e1,e2,q⟩;obtain⟨o,I'⟩:=I.freeze e2;exact h pins s σ _ D I' (q o)
noncomputable def Itd(a:Addr)(o:Obj)(kvs:List (Key×V)):It :=
 ⟨fun i H=>H a=some (.frz o (.dK kvs))/\∃p,kvs[i]?=some p,
  fun i H x H'=>∃t k v,x=.ref t/\H t=none/\kvs[i]?=some (k,v)/\H'=upd H t (.tup [kV k,v]),
  fun i H=>H a=some (.frz o (.dK kvs))/\i=kvs.length⟩
theorem JiN{P:Program}{w:World}{k:Key}{u:Value}(h:(JO P w).is k u=true):RelV (kV k) u:=by
 rcases J4 (show Zd k u=true from h) with ⟨i,t,rfl,rfl⟩|⟨x,t,rfl,rfl⟩
 ·exact⟨t,rfl⟩
 ·exact⟨t,rfl⟩
theorem KV.get{κ:Type}:∀{kvs:List (κ×V)} {vs:List (κ×Value)} {i:Nat} {p:κ×V},KV kvs vs->kvs[i]?=some p->∃u,vs[i]?=some (p.1,u)/\RelV p.2 u
 | _,_,0,p,.cons h _,e=>by simp at e;subst e;obtain⟨h1,h2⟩:=h;rename_i q _ _;exact⟨_,by simp;exact KO h1.symm rfl,h2⟩
 | _,_,i+1,p,.cons _ t,e=>by obtain⟨u,h1,h2⟩:=KV.get (i:=i) t (by simpa using e);exact⟨u,by simpa using h1,h2⟩
 | _,_,_,_,.nil,e=>by simp at e
theorem ZP{X:Cx}{pins:List (Addr×Obj)}{σ:St}{H:Hp}{s:Shared}{a:Addr}{o:Obj}{kvs:List (Key×V)}{es:Array DictEntry}{ep:Nat}(I:Inv X pins σ H s)(h:H a=some (.frz o (.dK kvs)))(hd:o.data=.dict es ep) :
 ∃vs,KV kvs vs/\s.heap.DictAt (JO X.prog X.w) a vs ep/\(a == sysModules)=false:=by
 obtain⟨e0,z,y,vs,r,ob,es',ep',e1,c1,c2,c3⟩:=(show ObjOk X.prog X.w H s.heap a (.frz o (.dK kvs)) from I.hok a _ h)
 rw[e0] at e1;cases e1;rw[hd] at c2;cases c2;exact⟨vs,r,⟨o,es,e0,c1,hd,c3⟩,y⟩
theorem Je7{P:Program}{w:World}{K:Frag}{elts:List Expr}{kk:Nat}{pos:Pos}(a it:Addr)(o:Obj)(kvs:List (Key×V))(es:Array DictEntry)(ep:Nat)(hd:o.data=.dict es ep) :
 Turn P w K (.Tuple elts kk pos) (Itd a o kvs) [it] it (fun i h=>∃ok ov,IsItemIter h it a i kvs.length ep ok ov) where
 mem:=by simp
 obj:=fun i h st c hc=>by
  obtain⟨ok,ov,s1⟩:=st;have hc':c=it:=by simpa using hc
  subst hc';exact⟨_,s1,fun v z=>nomatch (show Data.fields _=Data.cell v from z)⟩
 keep:=fun i h h' st k=>by obtain⟨ok,ov,s1⟩:=st;exact⟨ok,ov,k it (by simp) _ s1⟩
 item:=by
  intro X hP hw hK hc i pins s σ H E I hf st hg;subst hP hw hK;obtain⟨hH,⟨k,v⟩,e1⟩:=hg;obtain⟨vs,r,dd,_⟩:=ZP I hH hd;obtain⟨ok,ov,s1⟩:=st;obtain⟨u,hu,ru⟩:=r.get e1;have hl:kvs.length=vs.length:=KV.length r;rw[hl] at s1;refine wpAny_pyNext_items_item s1 dd hu fun key h' hk hit' ht hz hkeep=>?_
  refine⟨_,rfl,wpAny_letOwnedTupleGo_items (s:={ s with heap:=h' }) hit' fun k2 t9 e9=>?_⟩
  replace e9:QB it h' k2:=e9;have elt:it<s.heap.objs.size:=Qj s1
  have I1:Inv X pins σ (upd H s.heap.objs.size (.tup [kV k,v])) { s with heap:=s.heap.push { cls:=.type "tuple",data:=.seq #[key,u] },toks:=s.toks } :=
   I.laid (o:=.tup [kV k,v]) (fun c ob q=>Qf _ q) (Qm _) ⟨by show 2<=sizeLine;decide,[key,u],.cons (JiN hk) (.cons ru .nil),⟨_,Qi _ rfl,rfl,_,rfl⟩⟩
  have hf1:∀c∈[it],FpOk X pins (upd H s.heap.objs.size (.tup [kV k,v])) c:=fun c hc=>by
   have hc':c=it:=by simpa using hc
   subst hc';exact⟨by rw[Jm (QA elt)];exact(hf c hc).1,(hf c hc).2⟩
  have I2:Inv X pins σ (upd H s.heap.objs.size (.tup [kV k,v])) { s with heap:=k2,toks:=s.toks }:=Inv.turnedL (s:={ s with heap:=s.heap.push { cls:=.type "tuple",data:=.seq #[key,u] },toks:=s.toks }) I1 (fun c ob hc q=>by
   have hc':c≠it:=fun z=>hc (by simp[z])
   refine e9.extBut c ob hc' ?_
   by_cases hcs:c=s.heap.objs.size
   ·subst hcs;have q':(s.heap.push { cls:=.type "tuple",data:=.seq #[key,u] }).get? s.heap.objs.size=some ob:=q;rw[Qi _ rfl] at q';cases q';exact ht
   ·have q':s.heap.get? c=some ob:=by have q2:(s.heap.push { cls:=.type "tuple",data:=.seq #[key,u] }).get? c=some ob:=q;exact(Mq s.heap c _ hcs).symm.trans q2
    exact hkeep c ob hc' q') hf1
  refine⟨.ref s.heap.objs.size,_,I2,rfl,⟨_,k,v,rfl,I.hok.fresh (Qm _),e1,rfl⟩,⟨key,u,?_⟩,fun c hc=>(hf1 c hc).1⟩
  ·rw[hl];exact t9
 done:=by
  intro X hP hw hK hc i pins s σ H E I hf st hg;subst hP hw hK;obtain⟨hH,ei⟩:=hg;obtain⟨vs,r,dd,_⟩:=ZP I hH hd;obtain⟨ok,ov,s1⟩:=st;have hl:kvs.length=vs.length:=KV.length r;have hh:X.A.handled=none:=I.ok.hd hc;rw[hl] at s1;refine wpAny_pyNext_items_end hh s1 dd (GB (by omega)) fun h' he=>⟨rfl,?_⟩
  exact I.turnedL (fun c ob hc q=>he c ob (fun z=>hc (by simp[z])) q) hf
 self:=fun _ _ _ _ _ st h=>by obtain⟨ok,ov,s1⟩:=st;exact PySem.W.kcp_self s1 h
noncomputable def Jpn(td:TE):TI:=fun σ H R=>td σ H fun x H1=>∃a o kvs,x=.ref a/\H1 a=some (.frz o (.dK kvs))/\R (Itd a o kvs) H1
theorem Jjq{X:Cx}{elts:List Expr}{kk:Nat}{tpos:Pos}{d:Expr}{td:TE}{apos pos:Pos}(hd:PE X d td)(hbase:attributeBase d "items" X.env (eval d X.env)=eval d X.env:=by rfl)(hline:(apos.endLine == pos.line)=true:=by rfl)
:PI X (.Tuple elts kk tpos) (.Call (.Attribute d "items" apos) [] [] pos) (Jpn td):=by
 intro pins s σ H R I h;refine Kx hbase hline (thn (hd pins s σ H _ I h) fun v s1 ⟨x,H1,I1,r1,a,o,kvs,ex,hH,q⟩=>?_);subst ex;cases r1;obtain⟨t1,t2,_⟩:=Z9 I1 (.inl ⟨kvs,.inr ⟨o,hH⟩⟩);have hO:=(show ObjOk X.prog X.w H1 s1.heap a (.frz o (.dK kvs)) from I1.hok a _ hH)
 obtain⟨e0,z,y,vs,r,ob,es,ep,e1,c1,c2,c3⟩:=hO;rw[e0] at e1;cases e1;have dd:s1.heap.DictAt (JO X.prog X.w) a vs ep:=⟨o,es,e0,c1,c2,c3⟩
 have hl:kvs.length=vs.length:=KV.length r;refine⟨"dict","dict.items",G2,KB,MH,t1,t2,GI rfl (K8 ?_)⟩;refine call_meetsIn KB t1 My (Mm _) (meets_dict_items (JO X.prog X.w) a y) ⟨⟨vs,dd.dictOf⟩,?_⟩
 have I2:Inv X pins σ H1 { s1 with heap:=s1.heap.push { cls:=.type "dict_items",data:=.fields #[.ref a] },toks:=s1.toks }:=I1.kept fun b ob q=>Qf _ q
 refine wpAny_pyIter_items (s:={ s1 with heap:=s1.heap.push { cls:=.type "dict_items",data:=.fields #[.ref a] } }) (d:=a) (kvs:=vs) (ep:=ep) (knd:=JO X.prog X.w) ⟨_,Qi _ rfl,rfl,rfl⟩ (dd.push _) ?_;refine⟨_,[(s1.heap.push { cls:=.type "dict_items",data:=.fields #[.ref a] }).objs.size],_,_,H1,rfl,I2.kept (t':=s1.toks) fun b ob q=>Qf _ q,Je7 a _ o kvs es ep c2,⟨.none,.none,?_⟩,fun c hc=>?_,q⟩
 ·rw[hl];exact Qi _ rfl
 ·have hc':c=(s1.heap.push { cls:=.type "dict_items",data:=.fields #[.ref a] }).objs.size:=by simpa using hc
  subst hc';exact I2.fpOk (Qm _) (I2.hok.fresh (Qm _))
end L2
namespace LE
open PySem L2 LR
noncomputable def JgD(i:Nat)(b:Es):Es:=fun E=>match E[i]? with
 | some (.od ks ds)=>b (E.set i (.sh (.dfz ks ds)))
 | _=>none
noncomputable def Jb1:List Int->List D->List D:=List.zipWith fun k d=>.tup [.int k,d]
noncomputable def Jeu(a:Ev):En->Option (List D):=fun E=>(a E).bind fun s=>match s with
 | .sh (.dfz ks ds)=>some (Jb1 ks ds)
 | _=>none
section
variable{K:Frag}{C:Addr}{m:Bool}{t:TS}{et:Es}{td:TE}{ed:Ev}
theorem JoX(i:Nat)(ht:SS K C t et):SS K C (JmX i t) (JgD i et):=by
 intro B H0 H σ E o D I e f;unfold JgD at e;split at e
 ·next ks ds h =>
  obtain⟨l,xs,g1,g2,g3,g4,gk,g5⟩:=I.slotD h;refine⟨l,_,g1,g2,fun ob=>?_⟩;have hi:i<E.length:=(Qn.mp h).1;have s0:Same H0 (upd H0 l (.frz ob (dkO ks xs))):=.new g3;have nb:∀{A:Hp},A l=none->Same A H->Same A (upd H l (.frz ob (dkO ks xs))):=fun {A} n s a o e=>by rw[Jm (Jw e n)];exact s a o e
  have s1:Same (upd H0 l (.frz ob (dkO ks xs))) (upd H l (.frz ob (dkO ks xs))):=fun a o e=>by
   by_cases ha:a=l
   ·subst ha;rw[Js] at e ⊢;exact e
   ·rw[Jm ha] at e ⊢;exact I.h a o e
  have st:SStep B H0 (upd H0 l (.frz ob (dkO ks xs))) (upd H l (.frz ob (dkO ks xs))):=⟨nb g4 I.b,s0,fun a o e=>by
   by_cases ha:a=l
   ·subst ha;exact .inr (.inl g4)
   ·rw[Jm ha] at e;exact .inl e,s1⟩
  refine ht B _ _ σ _ o D ⟨nb g4 I.b,s1,by simp[I.len],fun j s e=>?_,fun j k u1 u2 v hjk a1 a2 w1 w2 a3=>?_⟩ e (f.step st)
  ·rw[QX] at e
   by_cases hj:i=j
   ·subst hj;rw[if_pos rfl,if_pos hi] at e;cases e;exact .inr ⟨_,g1,.mkZ Js gk (g5.mono s0)⟩
   ·rw[if_neg hj] at e;rcases I.at' j s e with z|⟨v,q1,q2⟩
    ·exact .inl z
    ·refine .inr ⟨v,q1,?_⟩
     cases s with
     | no=>trivial
     | sh d=>exact RD.mono s0 q2
     | bo es=>obtain⟨l',ys,p1,p2,p3⟩:=q2;exact⟨l',ys,p1,p2,p3.mono s0⟩
     | bd ks es=>obtain⟨l',ys,p1,p2,hk,p3⟩:=q2;exact⟨l',ys,p1,p2,hk,p3.mono s0⟩
     | bt ks es=>obtain⟨l',ys,p1,p2,hk,p3⟩:=q2;exact⟨l',ys,p1,p2,hk,p3.mono s0⟩
     | own es =>
      obtain⟨l',ys,p1,p2,p3,p4,p5⟩:=q2;subst p1;have:l'≠l:=fun z=>by subst z;exact I.sep i j _ _ (.ref l') hj h e rfl rfl g1 q1
      exact⟨l',ys,rfl,by rw[Jm this];exact p2,by rw[Jm this];exact p3,p4,p5.mono s0⟩
     | od ks es =>
      obtain⟨l',ys,p1,p2,p3,p4,hk,p5⟩:=q2;subst p1;have:l'≠l:=fun z=>by subst z;exact I.sep i j _ _ (.ref l') hj h e rfl rfl g1 q1
      exact⟨l',ys,rfl,by rw[Jm this];exact p2,by rw[Jm this];exact p3,p4,hk,p5.mono s0⟩
     | ot ks es =>
      obtain⟨l',ys,p1,p2,p3,p4,hk,p5⟩:=q2;subst p1;have:l'≠l:=fun z=>by subst z;exact I.sep i j _ _ (.ref l') hj h e rfl rfl g1 q1
      exact⟨l',ys,rfl,by rw[Jm this];exact p2,by rw[Jm this];exact p3,p4,hk,p5.mono s0⟩
  ·have own:∀{j:Nat} {u:Sl},(E.set i (.sh (.dfz ks ds)))[j]?=some u->YN u=true->E[j]?=some u:=fun {j u} a w=>by
    rw[QX] at a
    by_cases hj:i=j
    ·subst hj;rw[if_pos rfl,if_pos hi] at a;cases a;cases w
    ·rw[if_neg hj] at a;exact a
   exact I.sep j k u1 u2 v hjk (own a1 w1) (own a2 w2) w1 w2 a3
 ·cases e
theorem JaK:∀(ks:List Int) (xs:List V) (i:Nat),((ks.map Sum.inl:List Key).zip xs)[i]?=(match ks[i]?,xs[i]? with|some k,some x=>some ((Sum.inl k:Key),x)|_,_=>none)
 | [],xs,i=>by simp
 | k::ks,[],i=>by cases h:(k::ks)[i]? <;> simp_all
 | k::ks,x::xs,0=>by simp
 | k::ks,x::xs,i+1=>by simpa using JaK ks xs i
theorem JjW(ha:SE K C td ed):SI K C m (Jpn td) (Jeu ed):=by
 intro B H0 H σ E ds R I e q;obtain⟨s,e1,e⟩:=bind_some e;split at e
 ·next ks es =>
  cases e;refine ha B H0 H σ E _ _ I e1 fun x H1 H1' s1 r1=>?_
  obtain⟨l,xs,o,rfl,h,hk,rl⟩:=RD.dfzI r1;refine⟨l,o,_,rfl,s1.i _ _ h,q _ _ _ s1 ?_⟩
  have sA:Same (if m=true then H1' else B) H1':=by
   split
   ·exact Same.refl _
   ·exact I.b.trans s1.h
  intro H0' H' st;have hl:H' l=some (.frz o (dkO ks xs)):=st.i _ _ (st.z _ _ h);refine⟨fun i d e=>?_,⟨hl,?_⟩⟩
  ·unfold Jb1 at e;rw[M0] at e
   cases hki:ks[i]? with
   | none=>rw[hki] at e;cases e
   | some k =>
    cases hdi:es[i]? with
    | none=>rw[hki,hdi] at e;cases e
    | some d' =>
     rw[hki,hdi] at e;cases e;obtain⟨x,hx,rx⟩:=rl.get hdi;have hz:((ks.map Sum.inl:List Key).zip xs)[i]?=some (Sum.inl k,x):=by rw[JaK,hki,hx]
     refine⟨⟨hl,_,hz⟩,?_⟩;rintro z H2 ⟨p,k',v',rfl,hp,hv,rfl⟩;rw[hz] at hv;cases hv;have h0:H0' p=none:=Same.free st.i hp;refine⟨upd H0' p (.tup [.int k,x]),⟨.new hp,.new h0,fun a o e=>?_,fun a o e=>?_⟩,?_⟩
     ·by_cases h:a=p
      ·subst h;exact .inr (.inl hp)
      ·rw[Jm h] at e;exact .inl e
     ·by_cases h:a=p
      ·subst h;rw[Js] at e ⊢;exact e
      ·rw[Jm h] at e ⊢;exact st.i a o e
     ·exact .mkT (.of Js) (.cons (.int _) (.cons (rx.mono (st.z.trans (.new h0))) .nil))
  ·unfold Jb1;rw[List.length_zipWith,Gh,Qk,rl.1]
 ·cases e
end
end LE

namespace L2
open PySem PySem.Spec PyProof.Rows
noncomputable def Zj(p a:Addr):HO:=.ext fun h=>KdlKeysView h p a
theorem JbI{X:Cx}{pins:List (Addr×Obj)}{σ:St}{H:Hp}{s:Shared}{a:Addr}{kvs:List (Key×V)}(I:Inv X pins σ H s)(h:Rd H a (.dK kvs)) :
 ∃vs ep,KV kvs vs/\s.heap.DictAt (JO X.prog X.w) a vs ep/\(a == sysModules)=false/\kvs.length<=sizeLine:=by
 obtain⟨z,y,vs,r,ob,es,ep,e1,c⟩:=(show ObjOk X.prog X.w H s.heap a (.dK kvs) from h.ok I.hok)
 exact⟨vs,ep,r,⟨ob,es,e1,c⟩,y,z⟩
noncomputable def Jo4(H:Hp)(r a:Addr):Prop:=r=a\/H r=some (Zj r a)
theorem JoJ{X:Cx}{pins:List (Addr×Obj)}{σ:St}{H:Hp}{s:Shared}{r a:Addr}{kvs:List (Key×V)}(I:Inv X pins σ H s)(d:Jo4 H r a)(h:Rd H a (.dK kvs)) :
 ∃vs T OK,KV kvs vs/\PySem.W.KdlSrc X.prog X.w T r a vs.length (fun i v=>∃k x,vs[i]?=some (k,x)/\(JO X.prog X.w).is k v=true) OK/\OK s.heap/\vs.length<=sizeLine:=by
 obtain⟨vs,ep,rl,dd,y,z⟩:=JbI I h;rw[KV.length rl] at z;rcases d with e|e
 ·subst e;exact⟨vs,_,_,rl,PySem.W.kdl_dict (ep:=ep) y,dd,z⟩
 ·have vw:KdlKeysView s.heap r a:=(show ObjOk X.prog X.w H s.heap r (Zj r a) from I.hok r _ e).1;exact⟨vs,_,_,rl,PySem.W.kdl_keys (ep:=ep),⟨vw,dd⟩,z⟩
theorem Jc9{P:Program}{w:World}:∀{ks:List Int} {xs:List V} {vs:List (Key×Value)} {acc:List Value},ks.length=xs.length->KV ((ks.map Sum.inl:List Key).zip xs) vs->acc.length=vs.length ->
 (∀(j:Nat) (v:Value),acc[j]?=some v->∃k x,vs[j]?=some (k,x)/\(JO P w).is k v=true)->IntsAre acc ks
 | [],[],_,acc,_,r,hl,_=>by
  cases r
  cases acc with
  | nil=>exact .nil
  | cons _ _=>simp at hl
 | [],_::_,_,_,h,_,_,_=>by simp at h
 | _::_,[],_,_,h,_,_,_=>by simp at h
 | k::ks,x::xs,vs,acc,h,r,hl,hv=>by
  cases r with
  | cons r1 r2 =>
   cases acc with
   | nil=>simp at hl
   | cons u acc =>
    obtain⟨k',x',e1,e2⟩:=hv 0 u rfl;simp at e1;obtain⟨r1a,r1b⟩:=r1;subst e1;have ek:k'=Sum.inl k:=r1a.symm;subst ek;rcases J4 (show Zd (Sum.inl k) u=true from e2) with ⟨i,t,e,rfl⟩|⟨y,t,e,_⟩
    ·cases e;exact .cons k t (Jc9 (by simpa using h) r2 (by simpa using hl) fun j v e=>hv (j+1) v (by simpa using e))
    ·cases e
section
variable{prog:Program}{w:World}{A:Around}{E:Value->Shared->Prop}{s:Shared}{T:String}{r d:Addr}{n:Nat}{P:Nat->Value->Prop}{OK:Heap->Prop}
theorem JcR{R:List Value->Shared->Prop}(K:PySem.W.KdlSrc prog w T r d n P OK)(hh:A.handled=none)(hok:OK s.heap)(hn:n<=sizeLine)
 (h:∀(h':Heap) (tk:Nat) (acc:Array Value),(∀b o,s.heap.get? b=some o->h'.get? b=some o)->s.heap.objs.size<h'.objs.size->ItemsOf P acc n->R acc.toList { s with heap:=h',toks:=tk }):wpAny (model prog w) A (collect (.ref r)) R E s:=by
 obtain⟨k1,k2⟩:=K.there _ hok;have old:∀b o,s.heap.get? b=some o->(s.heap.push { cls:=.type "list",data:=.seq ([]:List Value).toArray }).get? b=some o:=fun b o e=>Qf _ e
 unfold collect;refine Qa (wpAny_runValue (KS entry_proto_collect' ?_));rw[GZ PySem.F.plain_proto_collect _];show wpAny _ A.in1 (newList [] >>= fun l=>again (.builtin "list.__iadd__" ⟨[l,.ref r],[]⟩)) _ _ s;refine Qa (Q3 (Qg ⟨Kt MI _,KS entry_list_iadd' ?_⟩));rw[GZ MI _];have at0:(s.heap.push { cls:=.type "list",data:=.seq ([]:List Value).toArray }).get? s.heap.objs.size=some { cls:=.type "list",data:=.seq #[] }:=Qi _ rfl
 have fin:∀(h':Heap) (tk:Nat) (acc:Array Value) (c:Nat),(∀b o,s.heap.get? b=some o->h'.get? b=some o)->h'.get? s.heap.objs.size=some { cls:=.type "list",dict:=none,data:=.seq acc c,slots:=#[] }->ItemsOf P acc n ->
  wpAny (model prog w) A (load s.heap.objs.size >>= fun o=>match o.data with | .seq xs _=>pure xs.toList | _=>unsupported "internal:collect") R E { s with heap:=h',toks:=tk }:=fun h' tk acc c hk hS hi=>Qa (wpAny_load hS (Qg (h h' tk acc hk (Qj hS) hi)))
 have got:=PySem.W.kdl_extend (A:=A) (s:={ s with heap:=s.heap.push { cls:=.type "list",data:=.seq ([]:List Value).toArray } }) (R:=fun q s'=>∃h' tk acc c,q=.ok (.ret (.ref s.heap.objs.size))/\s'={ s with heap:=h',toks:=tk }/\(∀b o,s.heap.get? b=some o->h'.get? b=some o)/\h'.get? s.heap.objs.size=some { cls:=.type "list",dict:=none,data:=.seq acc c,slots:=#[] }/\ItemsOf P acc n) K hh (K.keep _ _ hok fun b _ o e=>old b o e) s.heap.objs.size (Q1 k1) (Q1 k2) (.ref s.heap.objs.size) 0 at0 (fun h' tk acc c hk hS hi=>⟨h',tk,acc,c,rfl,rfl,fun b o e=>hk b o (QA (Qj e)) (old b o e),hS,hi⟩) hn
 refine KG got (fun f s' x=>?_) fun e s' ⟨_,_,_,_,z,_⟩=>nomatch z
 cases f with
 | done f=>obtain⟨h',tk,acc,c,e,rfl,hk,hS,hi⟩:=x;cases e;exact fin h' tk acc c hk hS hi
 | again c1=>exact⟨x.1,LY x.2 fun q s2 ⟨h',tk,acc,c,e1,e2,hk,hS,hi⟩=>by subst e1;subst e2;exact fin h' tk acc c hk hS hi⟩
end
noncomputable def JjG:List V->Hp->VK->Prop:=fun xs H Q=>∃(r a:Addr) (ks:List Int) (vs:List V),xs=[.ref r]/\Jo4 H r a/\Rd H a (.dK ((ks.map Sum.inl:List Key).zip vs))/\ks.length=vs.length/\∀l,H l=none->Q (.ref l) (upd H l (.lst (ks.map V.int)))
theorem Jed{X:Cx}(hc:X.calm=true):YS X (.type "list") JjG:=by
 intro pins s σ H xs us Q I r h;obtain⟨p,a,ks,vs0,rfl,ds,hq,hlk,q⟩:=h;obtain⟨u,rfl,rx⟩:=WH r;cases rx;obtain⟨vs,T,OK,rl,K,ok,hz⟩:=JoJ I ds hq;have hh:X.A.handled=none:=I.ok.hd hc
 have hl:vs.length=ks.length:=by have:=KV.length rl;rw[Gh,Qk,<- hlk,KJ] at this;exact this.symm
 refine PySem.W.kdl_call K hh ok hz fun h' tk acc c' hk hS items=>?_
 have hI:IntsAre acc.toList ks:=Jc9 (P:=X.prog) (w:=X.w) hlk rl (by rw[Gs,items.1]) fun j v e=>items.2 j v (by rw[<- Kf];exact e)
 have hne:H s.heap.objs.size=none:=I.hok.fresh (Qm _);refine⟨.ref s.heap.objs.size,_,I.laid (t':=tk) hk (Qm _) (show ObjOk X.prog X.w _ _ _ (.lst (ks.map V.int)) from⟨by rw[Qk,<- hl];exact hz,acc.toList,c',WI hI,?_⟩),rfl,q _ hne⟩;rw[hS]
end L2
namespace LE
open PySem L2 LR
noncomputable def Jej(a:Ev):Ev:=fun E=>(a E).bind fun s=>s.dk.bind fun p=>some (.own (p.1.map .int))
section
variable{K:Frag}{C:Addr}{td:TE}{ed:Ev}
theorem Rd.put{H:Hp}{l p:Addr}{o u:HO}(h:Rd H l o)(hp:H p=none):Rd (upd H p u) l o:=by
 rcases h with h|⟨ob,h⟩
 ·exact .inl (by rw[Jm (Jw h hp)];exact h)
 ·exact .inr ⟨ob,by rw[Jm (Jw h hp)];exact h⟩
theorem Jl7(ha:SE K C td ed):SE K C (tCB JjG (Vn td WD)) (Jej ed):=by
 intro B H0 H σ E r Q I e q;obtain⟨s,e1,e⟩:=bind_some e;obtain⟨p,e2,e⟩:=bind_some e;cases e;refine ha B H0 H σ E s _ I e1 fun x H1 H1' s1 r1=>?_
 obtain⟨l,xs,rfl,h,hk,rl⟩:=r1.dk s1.i e2;exact⟨l,l,p.1,xs,rfl,.inl rfl,h,by rw[hk,rl.1],fun z hz=>U4 s1.i s1.h hz (RDL.ofInts _) fun v H2 H2' s2 r2=>q v H2 H2' (s1.comp s2 fun _ y=>y) r2⟩
end
end LE

namespace L2
open PySem PySem.Spec PyProof.Rows
theorem Inv.more{X:Cx}{pins:List (Addr×Obj)}{σ:St}{H H':Hp}{s:Shared}{h':Heap}{t':Nat}(I:Inv X pins σ H s)(k:∀b u,s.heap.get? b=some u->h'.get? b=some u)(hx:∀b,b<s.heap.objs.size->H' b=H b)
 (new:∀b o,s.heap.objs.size<=b->H' b=some o->ObjOk X.prog X.w H' h' b o):Inv X pins σ H' { s with heap:=h',toks:=t' }:=by
 have old:∀b o,H b=some o->H' b=some o:=fun b o e=>by rw[hx b (I.hok.lt e)];exact e
 refine I.un ⟨fun b u q _ _ _=>k b u q,fun b u q _ _ _=>⟨u.slots,k b u q⟩,fun b u q n _=>by rw[hx b (Qj q)];exact n,fun b u q _=>⟨u,k b u q⟩,fun b xs q=>old b _ q,fun b u xs q=>old b _ q,fun b ps q=>⟨#[],by rw[old b _ q];simp⟩⟩ fun b o e=>?_
 rcases MQ b s.heap.objs.size with z|z
 ·rw[hx b z] at e;exact(I.hok b o e).stay (fun c u _ q=>k c u q) (fun c q=>old c _ q) fun c xs q=>old c _ q
 ·exact new b o z e
noncomputable def WJ(p a:Addr):HO:=.ext fun h=>h.IsItemsView p a
noncomputable def Jj7(td:TE):TE:=fun σ H Q=>td σ H fun x H1=>∃a kvs,x=.ref a/\Rd H1 a (.dK kvs)/\∀p,H1 p=none->Q (.ref p) (upd H1 p (WJ p a))
theorem Jjm{X:Cx}{d:Expr}{td:TE}{apos pos:Pos}(hd:PE X d td)(hbase:attributeBase d "items" X.env (eval d X.env)=eval d X.env:=by rfl)(hline:(apos.endLine == pos.line)=true:=by rfl)
:PE X (.Call (.Attribute d "items" apos) [] [] pos) (Jj7 td):=by
 intro pins s σ H Q I h;refine Kx hbase hline (thn (hd pins s σ H _ I h) fun v s1 ⟨x,H1,I1,r1,a,kvs,ex,hH,q⟩=>?_);subst ex;cases r1;obtain⟨t1,t2,_⟩:=Z9 I1 (.inl ⟨kvs,hH⟩);obtain⟨vs,ep,r,dd,y,_⟩:=JbI I1 hH;refine⟨"dict","dict.items",G2,KB,MH,t1,t2,GI rfl (K8 ?_)⟩;refine call_meetsIn KB t1 My (Mm _) (meets_dict_items (JO X.prog X.w) a y) ⟨⟨vs,dd.dictOf⟩,?_⟩
 have hn:H1 s1.heap.objs.size=none:=I1.hok.fresh (Qm _)
 have vw:(s1.heap.push { cls:=.type "dict_items",data:=.fields #[.ref a] }).IsItemsView s1.heap.objs.size a:=⟨_,Qi _ rfl,rfl,rfl⟩
 refine⟨.ref s1.heap.objs.size,_,I1.laid (t':=s1.toks) (o:=WJ s1.heap.objs.size a) (fun b ob q=>Qf _ q) (Qm _) ⟨vw,⟨_,Qi _ rfl⟩,fun h1 h2 p k=>?_⟩,rfl,q _ hn⟩;obtain⟨o,ho,hc⟩:=p;exact⟨o,k o ho,hc⟩
noncomputable def VY(H:Hp):List Addr->List (Key×V)->Hp
 | a::as,kv::kvs=>upd (VY H as kvs) a (.tup [kV kv.1,kv.2])
 | _,_=>H
theorem UX{H:Hp}{b:Addr}:∀{as:List Addr} {kvs:List (Key×V)},b∉as->VY H as kvs b=H b
 | [],_,_=>rfl
 | _::_,[],_=>rfl
 | a::as,kv::kvs,h=>by rw[VY,Jm fun z=>h (by rw[z];exact Qd)];exact UX fun m=>h (Qc _ m)
theorem Zu{H:Hp}:∀{as:List Addr} {kvs:List (Key×V)} {j:Nat} {a:Addr} {kv:Key×V},as.Nodup->as[j]?=some a->kvs[j]?=some kv->VY H as kvs a=some (.tup [kV kv.1,kv.2])
 | [],_,_,_,_,_,e,_=>by simp at e
 | _::_,[],_,_,_,_,_,e=>by simp at e
 | b::as,kv'::kvs,0,a,kv,_,e1,e2=>by simp at e1 e2;subst e1 e2;rw[VY,Js]
 | b::as,kv'::kvs,j+1,a,kv,hn,e1,e2=>by
  rw[QP] at hn;simp at e1 e2;have hne:a≠b:=fun z=>hn.1 (by rw[<- z];exact QF e1)
  rw[VY,Jm hne];exact Zu hn.2 e1 e2
noncomputable def JjF:List V->Hp->VK->Prop:=fun xs H Q=>∃(r a:Addr) (kvs:List (Key×V)),xs=[.ref r]/\H r=some (WJ r a)/\Rd H a (.dK kvs) ∧
 ∀(L:Addr) (as:List Addr),H L=none->as.length=kvs.length->as.Nodup->L∉as->(∀b∈as,H b=none)->Q (.ref L) (upd (VY H as kvs) L (.lst (as.map V.ref)))
theorem Jec{X:Cx}(hc:X.calm=true):YS X (.type "list") JjF:=by
 intro pins s σ H xs us Q I r h;obtain⟨p,a,kvs,rfl,hv,hq,q⟩:=h;obtain⟨u,rfl,rx⟩:=WH r;cases rx;obtain⟨vs,ep,rl,dd,_,hz⟩:=JbI I hq;have hl:kvs.length=vs.length:=KV.length rl;have vw:s.heap.IsItemsView p a:=(show ObjOk X.prog X.w H s.heap p (WJ p a) from I.hok p _ hv).1;have hh:X.A.handled=none:=I.ok.hd hc;refine PySem.W.kdx_call hh vw dd (by rw[<- hl];exact hz) fun h' tk acc c as hk hS hal hG hacc=>?_
 have hnd:as.Nodup:=hG.rise.imp fun {x y} h=>QA h
 have hLa:s.heap.objs.size∉as:=fun m=>absurd (hG.above _ m) (QZ _)
 have fr:∀b∈as,H b=none:=fun b hb=>I.hok.fresh (GO (hG.above b hb))
 have hne:H s.heap.objs.size=none:=I.hok.fresh (Qm _)
 have hsize:as.length<=sizeLine:=by rw[hal,<- hl];exact hz
 refine⟨.ref s.heap.objs.size,_,I.more (t':=tk) hk (fun b hb=>?_) (fun b o hb e=>?_),rfl,q s.heap.objs.size as hne (by rw[hal,hl]) hnd hLa fr⟩
 ·rw[Jm (QA hb)];exact UX fun m=>absurd (hG.above b m) (Nat.not_lt.mpr (GO hb))
 ·by_cases hL:b=s.heap.objs.size
  ·subst hL;rw[Js] at e;cases e;refine⟨by rw[Qk];exact hsize,acc.toList,c,?_,?_⟩
   ·rw[hacc]
    have:∀l:List Addr,Vals (l.map V.ref) (l.map Value.ref):=fun l=>by
     induction l with
     | nil=>exact .nil
     | cons x l ih=>exact .cons rfl ih
    exact this as
   ·rw[hS]
  ·rw[Jm hL] at e
   by_cases hm:b∈as
   ·obtain⟨j,hj⟩:=GU.mp hm;obtain⟨key,k,x,e1,e2,e3⟩:=hG.pairs j b hj;have hjl:j<kvs.length:=by have:=(Qn.mp e1).1;omega
    have hkv:kvs[j]?=some kvs[j]:=QI hjl;obtain⟨u,hu,ru⟩:=rl.get hkv;rw[e1] at hu;cases hu;rw[Zu hnd hj hkv] at e;cases e;exact⟨by show 2<=sizeLine;decide,[key,x],.cons (JiN e2) (.cons ru .nil),⟨_,e3,rfl,_,rfl⟩⟩
   ·rw[UX hm,I.hok.fresh hb] at e;cases e
end L2
namespace LE
open PySem L2 LR
noncomputable def JbK(a:Ev):Ev:=fun E=>(a E).bind fun s=>s.dk.bind fun p=>some (.own (Jb1 p.1 p.2))
section
variable{K:Frag}{C:Addr}{td:TE}{ed:Ev}
theorem Jbi{H:Hp}{kvs:List (Key×V)}{as:List Addr}(h:∀b∈as,H b=none):Same H (VY H as kvs):=fun b o e=>by rw[UX fun m=>by rw[h b m] at e;cases e];exact e
theorem JfO{H:Hp}:∀{as:List Addr} {kvs:List (Key×V)} {b:Addr} {o:HO},VY H as kvs b=some o->H b=some o\/b∈as
 | [],_,_,_,e=>.inl e
 | _::_,[],_,_,e=>.inl e
 | a::as,kv::kvs,b,o,e=>by
  by_cases c:b=a
  ·exact .inr (by rw[c];exact Qd)
  ·rw[VY,Jm c] at e;exact(JfO e).imp id fun m=>Qc _ m
theorem RDL.items:∀{ks:List Int} {xs:List V} {ds:List D} {as:List Addr} {H:Hp},ks.length=ds.length->as.length=ks.length->(∀(j:Nat) (a:Addr) (k:Int) (x:V),as[j]?=some a->ks[j]?=some k->xs[j]?=some x->H a=some (.tup [.int k,x]))->RDL K C H xs ds->RDL K C H (as.map V.ref) (Jb1 ks ds)
 | [],[],[],[],_,_,_,_,_=>.nil
 | [],_,_,a::as,_,_,h,_,_=>by simp at h
 | [],_,d::ds,_,_,h,_,_,_=>by simp at h
 | k::ks,_,[],_,_,h,_,_,_=>by simp at h
 | k::ks,_,_,[],_,_,h,_,_=>by simp at h
 | [],x::xs,[],[],_,_,_,_,h=>by have:=h.1;simp at this
 | k::ks,[],d::ds,a::as,_,_,_,_,h=>by have:=h.1;simp at this
 | k::ks,x::xs,d::ds,a::as,H,h1,h2,h3,h4=>by show RDL K C H (V.ref a::as.map V.ref) (.tup [.int k,d]::Jb1 ks ds);refine .cons (.mkT (.of (h3 0 a k x rfl rfl rfl)) (.cons (.int k) (.cons h4.head .nil))) (RDL.items (by simpa using h1) (by simpa using h2) (fun j a k x e1 e2 e3=>h3 (j+1) a k x (by simpa using e1) (by simpa using e2) (by simpa using e3)) h4.tail)
theorem Jl6(ha:SE K C td ed):SE K C (tCB JjF (Vn (Jj7 td) WD)) (JbK ed):=by
 intro B H0 H σ E r Q I e q;obtain⟨s,e1,e⟩:=bind_some e;obtain⟨p,e2,e⟩:=bind_some e;cases e;refine ha B H0 H σ E s _ I e1 fun x H1 H1' s1 r1=>?_
 obtain⟨l,xs,rfl,h,hk,rl⟩:=r1.dk s1.i e2;refine⟨l,_,rfl,h,fun w hw=>?_⟩;have st:Step H1' H1 H1' H1 (upd H1' w (WJ w l)):=⟨.new hw,Same.refl _,fun _ _ e=>.inl e,s1.i.trans (.new hw)⟩
 have s2:=s1.trans st;refine⟨w,l,_,rfl,Js,Rd.put h hw,fun L as hL hal hnd hLa hfr=>?_⟩;rw[Gh,Qk,rl.1,hk,KJ] at hal
 have fr0:∀b∈as,H1 b=none:=fun b hb=>Same.free s2.i (hfr b hb)
 have frH:∀b∈as,H b=none:=fun b hb=>Same.free s2.h (hfr b hb)
 have hL0:H1 L=none:=Same.free s2.i hL
 have z0:Same H1 (VY H1 as ((p.1.map Sum.inl:List Key).zip xs)):=Jbi fr0
 have zz:Same (upd H1' w (WJ w l)) (VY (upd H1' w (WJ w l)) as ((p.1.map Sum.inl:List Key).zip xs)):=Jbi hfr
 have hLl:VY (upd H1' w (WJ w l)) as ((p.1.map Sum.inl:List Key).zip xs) L=none:=by rw[UX hLa];exact hL
 have ii:Same (VY H1 as ((p.1.map Sum.inl:List Key).zip xs)) (VY (upd H1' w (WJ w l)) as ((p.1.map Sum.inl:List Key).zip xs)):=fun b o e=>by
  by_cases hb:b∈as
  ·obtain⟨j,hj⟩:=GU.mp hb
   have hjl:j<((p.1.map Sum.inl:List Key).zip xs).length:=by rw[Gh,Qk,rl.1,hk,KJ];have:=(Qn.mp hj).1;omega
   have hkv:=QI hjl;rw[Zu hnd hj hkv] at e ⊢;exact e
  ·rw[UX hb] at e ⊢;exact s2.i b o e
 refine q _ (VY H1 as ((p.1.map Sum.inl:List Key).zip xs)) _ ⟨(s2.h.trans zz).trans (.new hLl),s2.z.trans z0,fun b o e=>?_,ii.trans (.new hLl)⟩ ⟨L,as.map V.ref,rfl,Js,by rw[UX hLa];exact hL0,Same.free s2.h hL,?_⟩
 ·rcases JfO e with z|z
  ·exact s2.n b o z
  ·exact .inr (.inl (frH b z))
 ·refine RDL.items (xs:=xs) hk (by rw[hal,hk]) (fun j a k x j1 j2 j3=>?_) (rl.mono z0);exact Zu hnd j1 (by rw[JaK,j2,j3])
end
end LE

namespace L2
open PySem PySem.Spec PyProof.Rows
theorem JfD{h base:Heap}{l:List Env}(x:h.FunFrames base l){b:Addr}(hb:b∈frs l):base.get? b=none/\∃o,h.get? b=some o/\∀vs,o.data≠.fields vs:=x.mem hb
theorem ObjOk.there{P:Program}{w:World}{H:Hp}{h:Heap}{a:Addr}{o:HO}(x:ObjOk P w H h a o):∃u,h.get? a=some u:=by
 cases o with
 | lst xs=>obtain⟨_,_,_,_,e⟩:=x;exact⟨_,e⟩
 | tup xs=>obtain⟨_,_,_,p⟩:=x;obtain⟨o,e,_⟩:=p;exact⟨_,e⟩
 | dK kvs=>obtain⟨_,_,_,_,o,_,_,e,_⟩:=x;exact⟨_,e⟩
 | dT kvs=>obtain⟨_,_,_,_,o,_,_,e,_⟩:=x;exact⟨_,e⟩
 | set S n=>obtain⟨o,_,_,_,e,_⟩:=x;exact⟨_,e⟩
 | ins C dx fs=>obtain⟨_,_,_,e,_⟩:=x;exact⟨_,e⟩
 | own y=>obtain⟨_,e⟩:=x;exact⟨_,e⟩
 | xd fs=>obtain⟨_,⟨_,_,_,e,_⟩,_⟩:=x;exact⟨_,e⟩
 | rng lo hi=>obtain⟨_,_,_,e⟩:=x;exact⟨_,e⟩
 | frz ob u=>obtain⟨e,_⟩:=x;exact⟨_,e⟩
 | tbl ps=>exact⟨_,(show h.get? a=some _ from x)⟩
 | met f y=>exact⟨_,(show h.get? a=some _ from x)⟩
 | ext φ=>obtain⟨_,⟨_,e⟩,_⟩:=x;exact⟨_,e⟩

noncomputable def TrD(h base:Heap)(e:Addr)(cls:Value)(dct:Option Addr)(fl:Value):Prop :=
 ∃oe vs T oT ts,h.get? e=some oe/\(oe.cls=cls/\oe.dict=dct)/\oe.data=.fields vs/\vs[1]?=some (.ref T)/\base.get? T=none/\T≠e/\h.get? T=some oT/\oT.data=.fields ts/\ts[3]?=some fl
noncomputable def Fl(base:Heap)(l:List Env)(e:Addr)(cls:Value)(h:Heap):Prop :=
 base.StaysIn h/\base.get? e=none/\h.FunFrames base l/\(TrD h base e cls none .none\/∃oe vs,h.get? e=some oe/\(oe.cls=cls/\oe.dict=none)/\oe.data=.fields vs/\vs[1]?=some .none)
noncomputable def Cov(fs:List Addr)(H':Hp)(h h' base:Heap):Prop:=∀b o,(H' b≠none\/∃u,h.get? b=some u)->b∉fs->h'.get? b=some o->base.get? b=some o
structure XF (P:Program) (w:World) (l:List Env) (H:Hp) (h:Heap) (a:Addr) (cls:Value) (H':Hp) (base h':Heap):Prop where
 un:Un (frs l) [] H H' h h'
 hok:HOk P w H' h'
 fl:Fl base l a cls h'
 cov:Cov (frs l) H' h h' base
 free:H' a=none
 new:h.get? a=none
noncomputable def CX1(P:Program)(w:World):CXT:=fun l H s E e s'=>∃(a:Addr) (cls:Value) (H':Hp) (base:Heap),e=.ref a/\s'.os=s.os/\AllBare s'.gens/\XF P w l H s.heap a cls H' base s'.heap/\E cls (some a) H'
section
variable{P:Program}{w:World}{l:List Env}{H H':Hp}{h h1 h2 base base0:Heap}{a:Addr}{cls:Value}
theorem XF.on(x:XF P w l H h a cls H' base h1)(hf:h.FunFrames base0 l)(hn:∀b∈frs l,H b=none)(k:base.StaysIn h2)(us:h1.UpToSlots h2)(fl:Fl base l a cls h2):XF P w l H h a cls H' base h2:=by
 have ff:∀b∈frs l,∃o,h1.get? b=some o/\∀vs,o.data≠.fields vs:=fun b hb=>(JfD x.fl.2.2.1 hb).2
 have nfr:∀b u,H' b=some u->b∉frs l:=fun b u e hb=>by obtain⟨_,o,ho,_⟩:=JfD hf hb;rw[x.un.free b o ho (hn b hb) (by simp)] at e;cases e
 refine⟨⟨fun b o q n hb hx=>?_,fun b o q n hb hx=>?_,x.un.free,fun b o q hx=>?_,x.un.tups,x.un.frzs,x.un.tbls⟩,fun b u e=>?_,fl,fun b o hb hfr q=>?_,x.free,x.new⟩
 ·exact k b o (x.cov b o (.inr ⟨_,q⟩) hb (x.un.keep b o q n hb hx))
 ·obtain⟨sl,e1⟩:=x.un.slot b o q n hb hx;obtain⟨o',e2,nf⟩:=ff b hb;rw[e1] at e2;cases e2;obtain⟨sl',e3⟩:=us b _ e1 nf;exact⟨sl',e3⟩
 ·obtain⟨o',e1⟩:=x.un.there b o q hx
  by_cases hb:b∈frs l
  ·obtain⟨o2,e2,nf⟩:=ff b hb;obtain⟨sl',e3⟩:=us b _ e2 nf;exact⟨_,e3⟩
  ·exact⟨o',k b o' (x.cov b o' (.inr ⟨_,q⟩) hb e1)⟩
 ·refine(x.hok b u e).stay (fun c v hc q=>?_) (fun _ z=>z) fun _ _ z=>z
  have tr:∃u',H' c=some u':=by
   rcases hc with rfl|hc
   ·exact⟨_,e⟩
   ·exact⟨_,hc⟩
  obtain⟨u',e'⟩:=tr;exact k c v (x.cov c v (.inl (by rw[e'];intro z;cases z)) (nfr c u' e') q)
 ·have ex:∃o',h1.get? b=some o':=by
   rcases hb with hb|⟨u,hb⟩
   ·cases e:H' b with
    | none=>exact absurd e hb
    | some u=>exact(x.hok b u e).there
   ·exact x.un.there b u hb (by simp)
  obtain⟨o',e1⟩:=ex;have e2:=x.cov b o' hb hfr e1;have e3:=k b o' e2;rw[q] at e3;cases e3;exact e2
end
section
variable{M:Model}{A:Around}{E:Value->Shared->Prop}{s:Shared}{base:Heap}{env:Env}{outer l:List Env}{L e:Addr}{cls fl:Value}{dct:Option Addr}{Q:Unit->Shared->Prop}
end

noncomputable def XP(X:Cx)(pins:List (Addr×Obj))(σ:St)(E:XK)(e:Value)(s':Shared):Prop:=∃H s,Inv X pins σ H s/\CX1 X.prog X.w X.stack H s E e s'
section
variable{X:Cx}{pins:List (Addr×Obj)}{σ:St}{H H':Hp}{s s':Shared}{base:Heap}{a:Addr}{cls:Value}{E:XK}{e:Value}
end
end L2

namespace L2
open PySem PySem.Spec PyProof.Rows PySem.Calls
abbrev VEm:List Value:=[.type "ValueError",.type "Exception",.type "BaseException",.type "object"]
section
variable{P:Program}{w:World}{K:Frag}{mg:Str->Option Value}{base:Heap}{N:List Str}{qual:Str}{scope:Scope}{f:Addr}{cd:Value}{A:Around}{outer:List Env}{s:Shared}{H:Hp}{E:XK}
end
section
variable{X:Cx}{x:Str}{np cpos pos:Pos}{C:Addr}{E:XK}{e:Expr}{es:List Expr}{t:TA}
end
end L2

namespace L2
open PySem PySem.Spec PyProof.Rows PySem.Calls
section
variable{X:Cx}{k:Nat}{C:Addr}{ps:List Str}{sp:Sp}{x:Str}{p pos:Pos}{e:Expr}{es:List Expr}{t:TA}{st:Stmt}{rest:List Stmt}{T:XK->TE}{TS1:(St->XK)->TS}{u:TS}
end
end L2
namespace L2
open PySem PySem.Spec PyProof.Rows PySem.Calls LE
section
variable{X:Cx}{pins:List (Addr×Obj)}{σ:St}{H:Hp}{s:Shared}{a:Addr}
end
section
variable{X:Cx}{body suite:List Stmt}{b₀:Stmt}{i:Nat}{n cn:Str}{np hpos pos:Pos}{CL:Addr}{T:(St->XK)->TS}{th:TS}
end
end L2

namespace L2
open PySem PySem.Spec PyProof.Rows PySem.Calls LE
structure ExcN (K:Frag) (n:Str):Prop where
 ex:∃c,nsIn K mainGlobals n=some (some (.ref c))/\PySem.W.excIn K c VEm "ValueError.__new__"=true
 pl:∀c,nsIn K mainGlobals n=some (some (.ref c))->findIn K (.ref c) "__getattribute__"=some (some (.builtin "BaseException.__getattribute__"))/\findIn K (.ref c) "__getattr__"=some none/\mroIn K c (.type "BaseException")=some true/\hasDictIn K c=true/\findIn K (.ref c) "__class__"=some (some (.builtin "object.__class__"))/\mroIn K c (.type "object")=some true
structure ExcG (K:Frag):Prop where
 hn:Rn K (.builtin "object.__class__") "__get__"=some (some (.builtin "getset_descriptor.__get__"))
 htk:PySem.W.takesIn K (.builtin "object.__class__")=some true
section
variable{prog:Program}{w:World}{A:Around}{E:Value->Shared->Prop}{s:Shared}{K:Frag}{x C D:Addr}{ox:Obj}
end
section
variable{K:Frag}{x D:Addr}{ox:Obj}
end
section
variable{X:Cx}
end
end L2

namespace LE
open PySem L2 LR
section
variable(K:Frag)(C:Addr)
end
section
variable{K:Frag}{C:Addr}{W:XK}{t:TA}{ev:En->Option (List Sl)}{te:TE}{ts us:TS}{et eu:Es}{xt xu:Xv}{ex:Xv}
end
section
variable{K:Frag}{C:Addr}{B H0 H:Hp}{σ:St}{E:En}
end
section
variable{K:Frag}{C:Addr}
end
noncomputable def exB(n m:Str):Bool:=n == m || m == "LumpError"
section
variable{K:Frag}{C:Addr}{te:TE}{ea:Ev}
structure IsiN (K:Frag) (R:List Str) (m:Str) (c:Addr):Prop where
 own:∀n∈R,ExcN K n
 g:ExcG K
 k:∀n∈R,∀c',nsIn K mainGlobals n=some (some (.ref c'))->kitOne K (.ref c') (.ref c)=some (exB n m)
 o:kitOne K (.type "NoneType") (.ref c)=some false
end
end LE
namespace L2
open PySem PySem.Spec PyProof.Rows PySem.Calls LE
section
variable{X:Cx}
end
end L2
namespace LE
open PySem L2 LR
noncomputable def IsiL(K:Frag)(R:List Str):List Str->List Addr->Prop
 | [],[]=>True
 | m::ms,c::cs=>IsiN K R m c/\IsiL K R ms cs
 | _,_=>False
theorem IsiL.exc{K:Frag}{R:List Str}{n:Str}{c':Addr}(hn:n∈R)(hc:nsIn K mainGlobals n=some (some (.ref c'))):∀{ms:List Str} {cs:List Addr},IsiL K R ms cs->kitAny K (.ref c') (cs.map Value.ref)=some (ms.any (exB n))
 | [],[],_=>rfl
 | m::ms,c::cs,⟨h,t⟩=>by show(match kitOne K (.ref c') (.ref c) with|some true=>some true|some false=>kitAny K (.ref c') (cs.map Value.ref)|none=>none)=_;rw[h.k n hn c' hc,t.exc hn hc,GM];cases exB n m <;> rfl
theorem IsiL.non{K:Frag}{R:List Str}:∀{ms:List Str} {cs:List Addr},IsiL K R ms cs->kitAny K (.type "NoneType") (cs.map Value.ref)=some false
 | [],[],_=>rfl
 | m::ms,c::cs,⟨h,t⟩=>by show(match kitOne K (.type "NoneType") (.ref c) with | some true=>some true | some false=>kitAny K (.type "NoneType") (cs.map Value.ref) | none=>none)=_;rw[h.o,t.non]
section
variable{K:Frag}{C:Addr}{te:TE}{ea:Ev}
end
end LE

namespace L2
open PySem PySem.Spec PyProof.Rows PySem.Calls LE
section
variable{X:Cx}{K:Frag}
end
end L2
namespace LE
open PySem L2 LR
section
variable{K:Frag}{C:Addr}{ts:TS}
structure AtX (K:Frag) (n:Str) (c:Addr):Prop where
 ns:nsIn K mainGlobals n=some (some (.ref c))
 ok:PySem.W.excIn K c VEm "ValueError.__new__"=true
 ga:findIn K (.ref c) "__getattribute__"=some (some (.builtin "BaseException.__getattribute__"))
 gn:findIn K (.ref c) "__getattr__"=some none
 mb:mroIn K c (.type "BaseException")=some true
 hd:hasDictIn K c=true
 fi:findIn K (.ref c) "__class__"=some (some (.builtin "object.__class__"))
 mr:mroIn K c (.type "object")=some true
theorem AtX.n{n:Str}{c:Addr}(h:AtX K n c):ExcN K n:=⟨⟨c,h.ns,h.ok⟩,fun c' e=>by have:=h.ns.symm.trans e;cases this;exact⟨h.ga,h.gn,h.mb,h.hd,h.fi,h.mr⟩⟩
end
section
variable(K:Frag)(C:Addr)
end
section
variable{K:Frag}{C:Addr}{W:XK}{ta te:TE}{t tr:TA}{ea:Ev}{xa xr ex:Xv}{wi:TI}
end
end LE

namespace LE
open PySem L2 LR
section
variable{K:Frag}{C:Addr}{W:XK}{t:TS}{et:Es}{xt:Xv}
end
end LE
namespace L2
open PySem PySem.Spec PyProof.Rows PySem.Calls LE
structure RoomH (k:Nat) (A:Around):Prop where
 dp:A.depth+3*k+5<recursionLimit
 un:A.units+16*k+200<cLine
theorem Room.h{k:Nat}{A:Around}(r:Room k A):RoomH k A:=⟨r.dp,r.un⟩
section
variable{X:Cx}{k:Nat}{ps:List Str}{sp:Sp}{x:Str}{p pos:Pos}{e:Expr}{es:List Expr}{t:TA}
end
end L2

namespace L2
open PySem PySem.Spec PyProof.Rows PySem.Calls LE
section
variable{X:Cx}{k:Nat}{C:Addr}{ps:List Str}{sp:Sp}{x:Str}{p pos:Pos}{e:Expr}{es:List Expr}{t:TA}
end
end L2
namespace LE
open PySem L2 LR
section
variable(K:Frag)(C:Addr)
end
section
variable{K:Frag}{C:Addr}{W:XK}{t:TA}{ev:En->Option (List Sl)}{H0 H H2:Hp}
end
end LE

namespace L2
open PySem PySem.Spec PyProof.Rows PySem.Calls
section
variable{X:Cx}
end
end L2
namespace LE
open PySem L2 LR
section
variable{K:Frag}{C:Addr}{to te:TE}{eo ea:Ev}{Hs H0 H:Hp}{v:V}
end
end LE

namespace LE
open PySem L2 LR
section
variable{K:Frag}{C:Addr}
end
end LE

namespace PySem
abbrev V2(h:Heap)(z TI TO a:Addr)(f:Bool):Prop :=
 h.get? z=some { cls:=.type "zip",dict:=none,data:=.fields #[rawInt a,.bool f,.bool false,.ref TI,.ref TO],slots:=#[] }
section
variable{prog:Program}{w:World}{A:Around}{E:Value->Shared->Prop}{s:Shared}{z TI TO i1 i2 a:Addr}{f:Bool}{oa:Obj}{p1 p2:List Addr}{n1 n2 k:Nat}{P1 P2:Nat->Value->Prop}{S1 S2:Nat->Heap->Prop}
theorem Jd2{Q:Bool->Shared->Prop}(gz:V2 s.heap z TI TO a f)(ha:s.heap.get? a=some oa)(h:∀h',V2 h' z TI TO a true->QB z s.heap h'->Q false { s with heap:=h' }):wpAny (model prog w) A (QJ (.ref z)) Q E s:=by
 unfold QJ;refine Qa (QN gz rfl (x:=rawInt a) rfl ?_);show wpAny _ _ (loadIfAlive (Int.toNat (a:Int)) >>= _) _ _ _;rw[KY];refine Qa (PySem.W.kdx_alive ha ?_);show wpAny _ _ (field (.ref z) 1 >>= _) _ _ _;refine Qa (QN gz rfl (x:=.bool f) rfl ?_)
 cases f with
 | true=>exact Qg (h _ gz (Heap.SameBut.refl _ _))
 | false=>exact Qa (Q4 gz (by simp) fun h' y e=>Qg (h h' y e))
theorem JhJ{Q:Value->Shared->Prop}(D:ZA z TI TO i1 i2 p1 p2)(D1:Draws prog w A i1 p1 n1 P1 S1)(D2:Draws prog w A i2 p2 n2 P2 S2)(gz:V2 s.heap z TI TO a f)(ha:s.heap.get? a=some oa)(gI:IsPair s.heap TI (.ref i1) (.ref i2))
 (st1:S1 k s.heap) (st2:S2 k s.heap) (l1:k<n1) (l2:k<n2)
 (hQ:∀x y h' tk,P1 k x->P2 k y->V2 h' z TI TO a true->S1 (k+1) h'->S2 (k+1) h'->IsPair h' s.heap.objs.size x y->h'.objs.size=s.heap.objs.size+1 ->
  (∀c o,c≠z->c≠i1->c≠i2->s.heap.get? c=some o->h'.get? c=some o)->Q (.ref s.heap.objs.size) { s with heap:=h',toks:=tk }) :
 wpAny (model prog w) A (Builtin.«zip.__next__» ⟨[.ref z],[]⟩) (fun fin s'=>∃v,fin=.done (.ret v)/\Q v s') E s:=by
 obtain⟨hp,g,d,t0,os⟩:=s;have zi1:i1≠z:=fun q=>D.z1 (q▸D.m1)
 have zi2:i2≠z:=fun q=>D.z2 (q▸D.m2)
 show wpAny _ _ (field (.ref z) 2 >>= _) _ _ _;refine Qa (QN gz rfl (x:=.bool false) rfl (show wpAny _ _ (field (.ref z) 3 >>= _) _ _ _ from Qa (QN gz rfl (x:=.ref TI) rfl (Qa (Gk gI rfl ?_)))))
 show wpAny _ _ (QJ (.ref z) >>= _) _ _ _;refine Qa (Jd2 gz ha fun k1 y1 e1=>?_)
 replace e1:QB z hp k1:=e1;simp only[GF,if_false];refine Qa ?_;simp only[<- Array.forIn_toList,LP,Mb];refine Qa (Qa (GG (show wpAny _ _ (QY (.ref i1) >>= _) _ _ _ from Qa (D1.item k _ _ _ l1 (D1.frame _ _ _ st1 fun b hb o q=>e1.extBut b o (fun r=>D.z1 (r▸hb)) q) fun x k2 t2 px s2 e2=>Qg ?_))))
 replace e2:QB i1 k1 k2:=e2;refine Qg ?_;have st2':S2 k k2:=D2.frame _ _ _ st2 fun b hb o q=>e2.extBut b o (fun r=>D.x1 (r▸hb)) (e1.extBut b o (fun r=>D.z2 (r▸hb)) q)
 refine Qa (Qa (GG (show wpAny _ _ (QY (.ref i2) >>= _) _ _ _ from Qa (D2.item k _ _ _ l2 st2' fun y k4 t4 py s4 e4=>Qg ?_))))
 replace e4:QB i2 k2 k4:=e4;refine Qg (Qg (Qa (Mc (hsz:=show 2<=sizeLine by decide) (Qg ⟨_,rfl,?_⟩))));have hsz:k4.objs.size=hp.objs.size:=by rw[e4.1,e2.1,e1.1]
 have Z4:V2 k4 z TI TO a true:=e4.extBut _ _ (QO zi2) (e2.extBut _ _ (QO zi1) y1)
 show Q (.ref k4.objs.size) _;rw[hsz];refine hQ x y _ t4 px py (Qf _ Z4) ?_ ?_ ?_ (by rw[Gy,hsz]) fun c o c1 c2 c3 q=>Qf _ (e4.extBut _ _ c3 (e2.extBut _ _ c2 (e1.extBut _ _ c1 q)))
 ·exact D1.frame _ _ _ s2 fun b hb o q=>Qf _ (e4.extBut b o (fun r=>D.x2 (r▸hb)) q)
 ·exact D2.frame _ _ _ s4 fun b hb o q=>Qf _ q
 ·show(k4.push _).get? hp.objs.size=_;rw[<- hsz];exact Qi _ rfl
theorem Jko{Q:Fin->Shared->Prop}(D:ZA z TI TO i1 i2 p1 p2)(D1:Draws prog w A i1 p1 n1 P1 S1)(D2:Draws prog w A i2 p2 n2 P2 S2)(gz:V2 s.heap z TI TO a f)(ha:s.heap.get? a=some oa)(gI:IsPair s.heap TI (.ref i1) (.ref i2))
 (st1:S1 k s.heap) (st2:S2 k s.heap) (hend:k=n1\/(k<n1/\k=n2))
 (hE:∀h' e tk,(∀c o,c≠z->c≠i1->c≠i2->s.heap.get? c=some o->h'.get? c=some o)->(∃o,h'.get? e=some o/\o.cls=.type "StopIteration")->E (.ref e) { s with heap:=h',toks:=tk }) :
 wpAny (model prog w) A (Builtin.«zip.__next__» ⟨[.ref z],[]⟩) Q E s:=by
 obtain⟨hp,g,d,t0,os⟩:=s;show wpAny _ _ (field (.ref z) 2 >>= _) _ _ _;refine Qa (QN gz rfl (x:=.bool false) rfl (show wpAny _ _ (field (.ref z) 3 >>= _) _ _ _ from Qa (QN gz rfl (x:=.ref TI) rfl (Qa (Gk gI rfl ?_)))));show wpAny _ _ (QJ (.ref z) >>= _) _ _ _;refine Qa (Jd2 gz ha fun k1 y1 e1=>?_)
 replace e1:QB z hp k1:=e1;simp only[GF,if_false];refine Qa ?_;simp only[<- Array.forIn_toList,LP,Mb];have q1:S1 k k1:=D1.frame _ _ _ st1 fun b hb o q=>e1.extBut b o (fun r=>D.z1 (r▸hb)) q
 rcases hend with rfl|⟨l1,rfl⟩
 ·refine Qa (Qa (GG (show wpAny _ _ (QY (.ref i1) >>= _) _ _ _ from Qa (D1.done _ _ _ q1 fun k2 e e2 he=>?_))))
  replace e2:Ll i1 k1 k2:=e2;exact hE k2 e t0 (fun c o c1 c2 _ q=>e2 _ _ c2 (e1.extBut _ _ c1 q)) he
 ·refine Qa (Qa (GG (show wpAny _ _ (QY (.ref i1) >>= _) _ _ _ from Qa (D1.item k _ _ _ l1 q1 fun x k2 t2 px s2 e2=>Qg ?_))))
  replace e2:QB i1 k1 k2:=e2;refine Qg ?_;have st2':S2 k k2:=D2.frame _ _ _ st2 fun b hb o q=>e2.extBut b o (fun r=>D.x1 (r▸hb)) (e1.extBut b o (fun r=>D.z2 (r▸hb)) q)
  refine Qa (Qa (GG (show wpAny _ _ (QY (.ref i2) >>= _) _ _ _ from Qa (D2.done _ _ _ st2' fun k4 e e4 he=>?_))))
  replace e4:Ll i2 k2 k4:=e4;exact hE k4 e t2 (fun c o c1 c2 c3 q=>e4 _ _ c3 (e2.extBut _ _ c2 (e1.extBut _ _ c1 q))) he
end
end PySem

namespace PySem
section
variable{prog:Program}{w:World}{A:Around}{E:Value->Shared->Prop}{s:Shared}{b1 b2:Bool}{a1 a2 z TI TO i1 i2 S:Addr}{xs ys:Array Value}{i:Nat}
def LzSt(b1 b2:Bool)(a1 a2 z TI TO i1 i2 S:Addr)(xs ys:Array Value)(i:Nat)(h:Heap):Prop :=
 IsPair h TI (.ref i1) (.ref i2)/\(IsItr b1 h i1 a1 i/\IsSq b1 h a1 xs)/\(IsItr b2 h i2 a2 i/\IsSq b2 h a2 ys) ∧
 ((IsZip h z TI TO .none/\∃u v,IsPair h TO u v)\/∃a f oa,V2 h z TI TO a f/\h.get? a=some oa/\a≠S/\a≠z/\a≠i1/\a≠i2)
theorem IsSq.keep{b:Bool}{h h':Heap}{a:Addr}{xs:Array Value}(q:IsSq b h a xs)(k:∀o,h.get? a=some o->h'.get? a=some o):IsSq b h' a xs:=by
 cases b with
 | true=>obtain⟨o,e,r⟩:=q;exact⟨o,k o e,r⟩
 | false=>obtain⟨o,e,r⟩:=q;exact⟨o,k o e,r⟩
theorem IsItr.keep'{b:Bool}{h h':Heap}{j a:Addr}{i:Nat}(q:IsItr b h j a i)(k:∀o,h.get? j=some o->h'.get? j=some o):IsItr b h' j a i:=by
 cases b with
 | true=>obtain⟨o,e,r⟩:=q;exact⟨o,k o e,r⟩
 | false=>obtain⟨o,e,r⟩:=q;exact⟨o,k o e,r⟩
theorem LzSt.keep{h h':Heap}(x:LzSt b1 b2 a1 a2 z TI TO i1 i2 S xs ys i h)(k:∀b o,b≠S->h.get? b=some o->h'.get? b=some o)(n:S∉[z,TI,TO,i1,i2,a1,a2]):LzSt b1 b2 a1 a2 z TI TO i1 i2 S xs ys i h':=by
 simp only[Qh,Ga,or_false,not_or] at n;obtain⟨n1,n2,n3,n4,n5,n6,n7⟩:=n;obtain⟨x1,x2,x3,x4⟩:=x;refine⟨k _ _ (QO n2) x1,⟨IsItr.keep' x2.1 fun o e=>k _ o (QO n4) e,IsSq.keep x2.2 fun o e=>k _ o (QO n6) e⟩,⟨IsItr.keep' x3.1 fun o e=>k _ o (QO n5) e,IsSq.keep x3.2 fun o e=>k _ o (QO n7) e⟩,?_⟩;rcases x4 with ⟨y1,u,v,y2⟩|⟨a,f,oa,y1,y2,y3⟩
 ·exact .inl ⟨k _ _ (QO n1) y1,u,v,k _ _ (QO n3) y2⟩
 ·exact .inr ⟨a,f,oa,k _ _ (QO n1) y1,k _ _ y3.1 y2,y3⟩
theorem Jlf{Q:Option Value->Shared->Prop}(hh:A.handled=none)(Z:ZA z TI TO i1 i2 [i1,a1] [i2,a2])(st:LzSt b1 b2 a1 a2 z TI TO i1 i2 S xs ys i s.heap)(hS:S<s.heap.objs.size)(l1:i<xs.size)(l2:i<ys.size)
 (hQ:∀u v h' tk,xs[i]?=some u->ys[i]?=some v->LzSt b1 b2 a1 a2 z TI TO i1 i2 S xs ys (i+1) h'->IsPair h' s.heap.objs.size u v->h'.objs.size=s.heap.objs.size+1 ->
  (∀c o,c≠z->c≠TO->c≠i1->c≠i2->s.heap.get? c=some o->h'.get? c=some o)->Q (some (.ref s.heap.objs.size)) { s with heap:=h',toks:=tk }) :
 wpAny (model prog w) A (pyNext (.ref z)) Q E s:=by
 obtain⟨x1,x2,x3,x4⟩:=st
 have ne1:a1≠i1:=fun q=>by
  have:=Z.x1;subst q;rcases x2 with ⟨e1,e2⟩
  cases b1 with
  | true=>obtain⟨o,h1,h2,_⟩:=e1;obtain⟨o',h3,h4,_⟩:=e2;rw[h1] at h3;cases h3;rw[h2] at h4;exact absurd h4 (by decide)
  | false=>obtain⟨o,h1,h2,_⟩:=e1;obtain⟨o',h3,h4,_⟩:=e2;rw[h1] at h3;cases h3;rw[h2] at h4;exact absurd h4 (by decide)
 have ne2:a2≠i2:=fun q=>by
  subst q;rcases x3 with ⟨e1,e2⟩
  cases b2 with
  | true=>obtain⟨o,h1,h2,_⟩:=e1;obtain⟨o',h3,h4,_⟩:=e2;rw[h1] at h3;cases h3;rw[h2] at h4;exact absurd h4 (by decide)
  | false=>obtain⟨o,h1,h2,_⟩:=e1;obtain⟨o',h3,h4,_⟩:=e2;rw[h1] at h3;cases h3;rw[h2] at h4;exact absurd h4 (by decide)
 have hh1:A.in1.handled=none:=hh
 have D1:=Draws.sq (prog:=prog) (w:=w) (b:=b1) (xs:=xs) hh1 i1 ne1
 have D2:=Draws.sq (prog:=prog) (w:=w) (b:=b2) (xs:=ys) hh1 i2 ne2
 have Tt:∀o,s.heap.get? z=some o->o.cls=.type "zip"->s.TypeIs (.ref z) "zip":=fun o e c=>⟨o,e,c⟩
 have i1lt:i1<s.heap.objs.size:=by
  cases b1 with
  | true=>obtain⟨o,h1,_⟩:=x2.1;exact Qj h1
  | false=>obtain⟨o,h1,_⟩:=x2.1;exact Qj h1
 have i2lt:i2<s.heap.objs.size:=by
  cases b2 with
  | true=>obtain⟨o,h1,_⟩:=x3.1;exact Qj h1
  | false=>obtain⟨o,h1,_⟩:=x3.1;exact Qj h1
 rcases x4 with ⟨y1,u0,v0,y2⟩|⟨a,f,oa,y1,y2,y3,y4,y5,y6⟩
 ·have hT:=Tt _ y1 rfl;unfold pyNext;refine Qa (GN (QK (name:=Gb "__next__") hT Gz (QS Gz hT Kz (Jbv Z D1 D2 y1 x1 y2 x2 x3 l1 l2 fun u v k tk pu pv t1 t2 t3 t4 t5 t6 t7 t8=>Qg ?_) (Km _))));exact hQ u v k tk pu pv ⟨t2,t4,t5,.inr ⟨_,false,_,t1,t6,Q1 hS,Q1 (Qj y1),Q1 i1lt,Q1 i2lt⟩⟩ t6 t7 t8
 ·have hT:=Tt _ y1 rfl;unfold pyNext;refine Qa (GN (QK (name:=Gb "__next__") hT Gz (QS Gz hT Kz (JhJ Z D1 D2 y1 y2 x1 x2 x3 l1 l2 fun u v k tk pu pv t1 t4 t5 t6 t7 t8=>Qg ?_) (Km _))))
  have ti1:TI≠i1:=fun q=>Z.t1 (by rw[q];simp)
  have ti2:TI≠i2:=fun q=>Z.t2 (by rw[q];simp)
  exact hQ u v k tk pu pv ⟨t8 _ _ Z.a1 ti1 ti2 x1,t4,t5,.inr ⟨a,true,oa,t1,t8 _ _ y4 y5 y6 y2,y3,y4,y5,y6⟩⟩ t6 t7 fun c o c1 _ c3 c4 q=>t8 c o c1 c3 c4 q
theorem Jlc{Q:Option Value->Shared->Prop}(hh:A.handled=none)(Z:ZA z TI TO i1 i2 [i1,a1] [i2,a2])(st:LzSt b1 b2 a1 a2 z TI TO i1 i2 S xs ys i s.heap)(hend:i=xs.size\/(i<xs.size/\i=ys.size))
 (hQ:∀h' tk,(∀c o,c≠z->c≠TO->c≠i1->c≠i2->s.heap.get? c=some o->h'.get? c=some o)->Q none { s with heap:=h',toks:=tk }) :
 wpAny (model prog w) A (pyNext (.ref z)) Q E s:=by
 obtain⟨x1,x2,x3,x4⟩:=st
 have ne1:a1≠i1:=fun q=>by
  subst q;rcases x2 with ⟨e1,e2⟩
  cases b1 with
  | true=>obtain⟨o,h1,h2,_⟩:=e1;obtain⟨o',h3,h4,_⟩:=e2;rw[h1] at h3;cases h3;rw[h2] at h4;exact absurd h4 (by decide)
  | false=>obtain⟨o,h1,h2,_⟩:=e1;obtain⟨o',h3,h4,_⟩:=e2;rw[h1] at h3;cases h3;rw[h2] at h4;exact absurd h4 (by decide)
 have ne2:a2≠i2:=fun q=>by
  subst q;rcases x3 with ⟨e1,e2⟩
  cases b2 with
  | true=>obtain⟨o,h1,h2,_⟩:=e1;obtain⟨o',h3,h4,_⟩:=e2;rw[h1] at h3;cases h3;rw[h2] at h4;exact absurd h4 (by decide)
  | false=>obtain⟨o,h1,h2,_⟩:=e1;obtain⟨o',h3,h4,_⟩:=e2;rw[h1] at h3;cases h3;rw[h2] at h4;exact absurd h4 (by decide)
 have hh1:A.in1.handled=none:=hh
 have D1:=Draws.sq (prog:=prog) (w:=w) (b:=b1) (xs:=xs) hh1 i1 ne1
 have D2:=Draws.sq (prog:=prog) (w:=w) (b:=b2) (xs:=ys) hh1 i2 ne2;rcases x4 with ⟨y1,u0,v0,y2⟩|⟨a,f,oa,y1,y2,y3,y4,y5,y6⟩
 ·have hT:s.TypeIs (.ref z) "zip":=⟨_,y1,rfl⟩
  unfold pyNext;refine Qa (GN (QK (name:=Gb "__next__") hT Gz (QS Gz hT Kz (Jd1 Z D1 D2 y1 x1 y2 x2 x3 hend fun k e tk kk he=>?_) (Km _))));obtain⟨o,ho,hoc⟩:=he;exact Qa (G9 (T:="StopIteration") (b:=true) ⟨o,ho,hoc⟩ K1 (Qg (hQ k tk kk)))
 ·have hT:s.TypeIs (.ref z) "zip":=⟨_,y1,rfl⟩
  unfold pyNext;refine Qa (GN (QK (name:=Gb "__next__") hT Gz (QS Gz hT Kz (Jko Z D1 D2 y1 y2 x1 x2 x3 hend fun k e tk kk he=>?_) (Km _))));obtain⟨o,ho,hoc⟩:=he;exact Qa (G9 (T:="StopIteration") (b:=true) ⟨o,ho,hoc⟩ K1 (Qg (hQ k tk fun c o c1 _ c3 c4 q=>kk c o c1 c3 c4 q)))
end
structure LzG (xs ys:Array Value) (lo:Addr) (h:Heap) (as:List Addr):Prop where
 rise:as.Pairwise (·<·)
 above:∀a∈as,lo<a
 pairs:∀(j:Nat) (a:Addr),as[j]?=some a->∃u v,xs[j]?=some u/\ys[j]?=some v/\IsPair h a u v
theorem LzG.there{xs ys:Array Value}{lo:Addr}{h:Heap}{as:List Addr}(g:LzG xs ys lo h as){a:Addr}(ha:a∈as):a<h.objs.size:=by obtain⟨j,hj⟩:=GU.mp ha;obtain⟨_,_,_,_,e⟩:=g.pairs j a hj;exact Qj e
section
variable{prog:Program}{w:World}{A:Around}{s:Shared}{R:Result->Shared->Prop}{b1 b2:Bool}{a1 a2 z TI TO i1 i2 S:Addr}{xs ys:Array Value}
theorem Jlh(hh:A.handled=none)(Z:ZA z TI TO i1 i2 [i1,a1] [i2,a2])(nS:S∉[z,TI,TO,i1,i2,a1,a2])(hlo:∀b∈[z,TI,TO,i1,i2],b<S)(n:Nat)(hn:n=min xs.size ys.size)(hz:n<=sizeLine)(res:Value){h₁:Heap}
 (hR:∀h' tk acc c as,(∀b o,b≠S->b≠z->b≠TO->b≠i1->b≠i2->h₁.get? b=some o->h'.get? b=some o)->h'.get? S=some { cls:=.type "list",dict:=none,data:=.seq acc c,slots:=#[] }->as.length=n->LzG xs ys S h' as ->
  acc.toList=as.map Value.ref->R (.ok (.ret res)) { s with heap:=h',toks:=tk }) :
 ∀(k i:Nat) (h:Heap) (tk c:Nat) (acc:Array Value) (as:List Addr),n-i=k->i<=n->LzSt b1 b2 a1 a2 z TI TO i1 i2 S xs ys i h->(∀b o,b≠S->b≠z->b≠TO->b≠i1->b≠i2->h₁.get? b=some o->h.get? b=some o) ->
  h.get? S=some { cls:=.type "list",dict:=none,data:=.seq acc c,slots:=#[] }->acc.toList=as.map Value.ref->as.length=i->LzG xs ys S h as ->
  codeAny (model prog w) A (.builtin "list.extend.loop" ⟨[.ref S,.ref z,res],[]⟩) R { s with heap:=h,toks:=tk }:=by
 have Sz:S≠z:=Q1 (hlo z (by simp))
 have ST:S≠TO:=Q1 (hlo TO (by simp))
 have S1:S≠i1:=Q1 (hlo i1 (by simp))
 have S2:S≠i2:=Q1 (hlo i2 (by simp))
 have off:∀{b:Addr},S<b->b≠z/\b≠TO/\b≠i1/\b≠i2:=fun {b} h=>⟨Q1 (GJ (hlo z (by simp)) h),Q1 (GJ (hlo TO (by simp)) h),Q1 (GJ (hlo i1 (by simp)) h),Q1 (GJ (hlo i2 (by simp)) h)⟩
 intro k
 induction k with
 | zero =>
  intro i h tk c acc as hk hi hst hkeep hS hacc hal hG;have hin:i=n:=by omega
  refine KS Mn ?_;rw[GZ GS _];show wpAny _ A.in1 (pyNext (.ref z) >>= _) _ _ _;refine Qa (Jlc (s:={ s with heap:=h,toks:=tk }) (A:=A.in1) hh Z hst (by omega) fun h' tk' he=>?_);refine Qg (hR h' tk' acc c as (fun b o h1 h2 h3 h4 h5 e=>he b o h2 h3 h4 h5 (hkeep b o h1 h2 h3 h4 h5 e)) (he S _ Sz ST S1 S2 hS) (by omega) ⟨hG.rise,hG.above,fun j a hj=>?_⟩ hacc);obtain⟨u,v,e1,e2,e3⟩:=hG.pairs j a hj
  obtain⟨o1,o2,o3,o4⟩:=off (hG.above a (QF hj));exact⟨u,v,e1,e2,he a _ o1 o2 o3 o4 e3⟩
 | succ k ih =>
  intro i h tk c acc as hk hi hst hkeep hS hacc hal hG;have hlt:i<n:=by omega
  have hsz:acc.size=i:=by rw[<- Gs,hacc,Qk,hal]
  have hSl:S<h.objs.size:=Qj hS;refine KS Mn ?_;rw[GZ GS _]
  show wpAny _ A.in1 (pyNext (.ref z) >>= _) _ _ _;refine Qa (Jlf (s:={ s with heap:=h,toks:=tk }) (A:=A.in1) hh Z hst hSl (by omega) (by omega) fun u v h' tk' pu pv hst' ht hz' hkp=>?_);dsimp only at ht hz' hkp ⊢
  have hS':=hkp S _ Sz ST S1 S2 hS
  have up:∀b o,b≠S->h'.get? b=some o->(h'.update S (Kq (·.push (Value.ref h.objs.size)))).get? b=some o:=fun b o hb e=>(Gc _ _ (QO hb)).trans e
  show wpAny _ A.in1 (updateSeq S (·.push (Value.ref h.objs.size)) >>= _) _ _ _;refine Qa ?_;refine Kj hS' rfl (Qg ⟨Kt GS _,ih (i+1) _ tk' _ (acc.push (Value.ref h.objs.size)) (as++[h.objs.size]) (by omega) hlt (hst'.keep up nS)
   (fun b o h1 h2 h3 h4 h5 e=>up b o h1 (hkp b o h2 h3 h4 h5 (hkeep b o h1 h2 h3 h4 h5 e))) (GC _ hS' rfl) (by rw[Array.toList_push,hacc,Qz];rfl) (by rw[Qv,hal];rfl) ⟨?_,?_,?_⟩⟩) (by rw[hsz];omega) (by show(acc.push (Value.ref h.objs.size)).size<=sizeLine+1;rw[Array.size_push,hsz];omega)
  ·refine Kn.mpr ⟨hG.rise,MJ _ _,fun a ha b hb=>?_⟩;rw[QW.mp hb];exact hG.there ha
  ·intro a ha;rcases Q6.mp ha with ha|ha
   ·exact hG.above a ha
   ·rw[QW.mp ha];exact hSl
  ·intro j b hj;rcases Lq j as.length with h1|h1|h1
   ·rw[QQ h1] at hj;obtain⟨u',v',e1,e2,e3⟩:=hG.pairs j b hj;have hb:=hG.above b (QF hj);obtain⟨o1,o2,o3,o4⟩:=off hb;exact⟨u',v',e1,e2,up b _ (Q1 hb) (hkp b _ o1 o2 o3 o4 e3)⟩
   ·subst h1;have hb:h.objs.size=b:=by simpa using hj
    subst hb;exact⟨u,v,by rw[hal];exact pu,by rw[hal];exact pv,up _ _ (Q1 hSl) ht⟩
   ·have hnone:(as++[h.objs.size])[j]?=none:=GB (by rw[Qv,Gg];omega);rw[hnone] at hj;cases hj
end
end PySem

namespace PySem
open PySem.Calls PyProof.Rows PyProof.V PySem.Spec
theorem JnL:typeLookup (.type "zip") "__len__"=pure none:=by rw[typeLookup_type,builtinLookup_eq_fast];kernel_rfl
theorem Jlg:typeLookup (.type "zip") "__length_hint__"=pure none:=by rw[typeLookup_type,builtinLookup_eq_fast];kernel_rfl
section
variable{prog:Program}{w:World}{A:Around}{E:Value->Shared->Prop}{s:Shared}{b1 b2:Bool}{a1 a2 z TI TO i1 i2:Addr}{xs ys:Array Value}
theorem Jld(hT:s.TypeIs (.ref z) "zip"){Q:Bool->Shared->Prop}(h:Q true s):wpAny (model prog w) A (L1 (.ref z)) Q E s:=by unfold L1;refine Qa (KQ hT JnL ?_);refine MW (fun hab=>absurd hab (by decide)) (fun _=>?_);refine MW (fun hab=>absurd hab (by decide)) (fun _=>?_);refine Qa (KQ hT Jlg ?_);exact Qg h
theorem Jhg{R:Result->Shared->Prop}(hh:A.handled=none)(S:Addr)(Z:ZA z TI TO i1 i2 [i1,a1] [i2,a2])(nS:S∉[z,TI,TO,i1,i2,a1,a2])(hlo:∀b∈[z,TI,TO,i1,i2],b<S)(n:Nat)(hn:n=min xs.size ys.size)(hz:n<=sizeLine)
 (hzip:IsZip s.heap z TI TO .none) (st:LzSt b1 b2 a1 a2 z TI TO i1 i2 S xs ys 0 s.heap) (res:Value) (c₀:Nat) (hS:s.heap.get? S=some { cls:=.type "list",data:=.seq #[] c₀ })
 (hR:∀h' tk acc c as,(∀b o,b≠S->b≠z->b≠TO->b≠i1->b≠i2->s.heap.get? b=some o->h'.get? b=some o)->h'.get? S=some { cls:=.type "list",dict:=none,data:=.seq acc c,slots:=#[] }->as.length=n->LzG xs ys S h' as ->
  acc.toList=as.map Value.ref->R (.ok (.ret res)) { s with heap:=h',toks:=tk }) :
 wpAny (model prog w) A.in1 (G8 (.ref S) (.ref z) res)
  (fun fin s'=>match fin with|.done f=>R (.ok f) s'|.again c'=>c'.quiet=true/\codeAny (model prog w) A c' R s') (fun e s'=>R (.error e) s') s:=by
 have key:∀(h:Heap) (c₁ tk:Nat),(∀b o,b≠S->s.heap.get? b=some o->h.get? b=some o) ->
  h.get? S=some { cls:=.type "list",data:=.seq #[] c₁ }->codeAny (model prog w) A (.builtin "list.extend.loop" ⟨[.ref S,.ref z,res],[]⟩) R { s with heap:=h,toks:=tk }:=by
  intro h c₁ tk hk hS₁;exact Jlh (s:=s) (h₁:=s.heap) hh Z nS hlo n hn hz res hR n 0 h tk c₁ #[] [] (Nat.sub_zero _) (Gv _) (st.keep hk nS) (fun b o hb _ _ _ _ e=>hk b o hb e) hS₁ rfl rfl
   ⟨List.Pairwise.nil,(fun _ ha=>nomatch ha),(fun j a hj=>by simp at hj)⟩
 have hT:s.TypeIs (.ref z) "zip":=⟨_,hzip,rfl⟩
 have hSz:S≠z:=Q1 (hlo z (by simp));unfold G8;refine Qa (MN (T:="zip") hT ?_)
 have h1:Mz (.ref S) (.ref z)=false:=by simp[Mz,hSz]
 have h2:(Value.type "zip" == Value.type "list")=false:=by decide
 have h3:(Value.type "zip" == Value.type "tuple")=false:=by decide
 simp only[h1,h2,h3,Mw,GF,if_false];refine Qa (MF hzip ?_);refine Qa (GG (Jld hT ?_));refine MW (fun _=>?_) (fun _=>Qg ⟨Kt GS _,key _ c₀ _ (fun b o _ e=>e) hS⟩);refine Qa (Lg ?_);refine Qa ?_;show wpAny _ _ (updateSeq S (·.push .none) >>= fun _=>updateSeq S (·.pop)) _ _ _;refine Qa (Kj hS rfl ?_);have hS₂:=GC (Kq (·.push Value.none)) hS rfl
 refine Kj (hz:=by seq_fits) hS₂ rfl ?_;have hS₃:=GC (Kq (·.pop)) hS₂ rfl;refine Qg ⟨Kt GS _,key _ _ _ (fun b o hb e=>?_) hS₃⟩;exact(Gc _ _ (QO hb)).trans ((Gc _ _ (QO hb)).trans e)
theorem Jle{R:Result->Shared->Prop}(hh:A.handled=none)(S:Addr)(Z:ZA z TI TO i1 i2 [i1,a1] [i2,a2])(nS:S∉[z,TI,TO,i1,i2,a1,a2])(hlo:∀b∈[z,TI,TO,i1,i2],b<S)(n:Nat)(hn:n=min xs.size ys.size)(hz:n<=sizeLine)
 (hzip:IsZip s.heap z TI TO .none) (st:LzSt b1 b2 a1 a2 z TI TO i1 i2 S xs ys 0 s.heap) (hS:s.heap.get? S=some { cls:=.type "list",data:=.seq #[] })
 (hR:∀h' tk acc c as,(∀b o,b≠S->b≠z->b≠TO->b≠i1->b≠i2->s.heap.get? b=some o->h'.get? b=some o)->h'.get? S=some { cls:=.type "list",dict:=none,data:=.seq acc c,slots:=#[] }->as.length=n->LzG xs ys S h' as ->
  acc.toList=as.map Value.ref->R (.ok (.ret .none)) { s with heap:=h',toks:=tk }) :
 wpAny (model prog w) A.in1 (Builtin.«list.__init__» ⟨[.ref S,.ref z],[]⟩)
  (fun fin s'=>match fin with|.done f=>R (.ok f) s'|.again c'=>c'.quiet=true/\codeAny (model prog w) A c' R s') (fun e s'=>R (.error e) s') s:=by
 have hSz:S≠z:=Q1 (hlo z (by simp))
 show wpAny _ _ (do let old <- MR (.ref S);Builtin.List.listUpdate (.ref S) (fun _=>#[]);letGo old.toList.reverse;G8 (.ref S) (.ref z) .none) _ _ s;refine Qa ?_;unfold MR;refine Qa (Gk hS rfl (Qg ?_))
 show wpAny _ _ (updateSeq S (fun _=>#[]) >>= fun _=>letGo (#[]:Array Value).toList.reverse >>= fun _=>G8 (.ref S) (.ref z) .none) _ _ s;refine Qa (Kj hS rfl ?_)
 have hS₂:=GC (Kq (fun _=>(#[]:Array Value))) hS rfl
 have oth:∀b o,b≠S->s.heap.get? b=some o->(s.heap.update S (Kq (fun _=>(#[]:Array Value)))).get? b=some o :=
  fun b o hb e=>(Gc _ _ (QO hb)).trans e
 refine Qa (KD ?_);exact Jhg hh S Z nS hlo n hn hz (oth _ _ hSz.symm hzip) (st.keep oth nS) .none _ hS₂ (fun h' tk acc c as hk hS' hl hG hacc=>hR h' tk acc c as (fun b o hb h1 h2 h3 h4 e=>hk b o hb h1 h2 h3 h4 (oth b o hb e)) hS' hl hG hacc)
theorem Jlb{Q:Value->Shared->Prop}(hh:A.handled=none)(Z:ZA z TI TO i1 i2 [i1,a1] [i2,a2])(n:Nat)(hn:n=min xs.size ys.size)(hz:n<=sizeLine)
 (hzip:IsZip s.heap z TI TO .none) (gI:IsPair s.heap TI (.ref i1) (.ref i2)) (gO:IsPair s.heap TO .none .none) (t1:IsItr b1 s.heap i1 a1 0) (t2:IsItr b2 s.heap i2 a2 0) (q1:IsSq b1 s.heap a1 xs) (q2:IsSq b2 s.heap a2 ys)
 (hQ:∀h' tk acc c as,(∀b o,b≠z->b≠TO->b≠i1->b≠i2->s.heap.get? b=some o->h'.get? b=some o)->h'.get? s.heap.objs.size=some { cls:=.type "list",dict:=none,data:=.seq acc c,slots:=#[] }->as.length=n->LzG xs ys s.heap.objs.size h' as ->
  acc.toList=as.map Value.ref->Q (.ref s.heap.objs.size) { s with heap:=h',toks:=tk }) :
 wpAny (model prog w) A (call (.type "list") [.ref z]) Q E s:=by
 refine callType_codes (Q₁:=fun obj s₁=>obj=.ref s.heap.objs.size/\s₁={ s with heap:=s.heap.push { cls:=.type "list",data:=.seq #[] } }) PySem.F.called_list (PySem.F.typeCall_list_1 _) PySem.F.entry_list_init
  (code_list_new _ ⟨rfl,rfl⟩) fun obj s₁ h₁=>?_
 obtain⟨rfl,rfl⟩:=h₁;have hS:(s.heap.push { cls:=.type "list",data:=.seq #[] }).get? s.heap.objs.size=some { cls:=.type "list",data:=.seq #[] }:=Qi _ rfl;have up:∀b o,s.heap.get? b=some o->(s.heap.push { cls:=.type "list",data:=.seq #[] }).get? b=some o:=fun b o e=>Qf _ e
 have i1lt:i1<s.heap.objs.size:=by
  cases b1 with
  | true=>obtain⟨o,h1,_⟩:=t1;exact Qj h1
  | false=>obtain⟨o,h1,_⟩:=t1;exact Qj h1
 have i2lt:i2<s.heap.objs.size:=by
  cases b2 with
  | true=>obtain⟨o,h1,_⟩:=t2;exact Qj h1
  | false=>obtain⟨o,h1,_⟩:=t2;exact Qj h1
 have lo:∀b∈[z,TI,TO,i1,i2],b<s.heap.objs.size:=fun b hb=>by
  simp only[Qh,Ga,or_false] at hb;rcases hb with rfl|rfl|rfl|rfl|rfl
  ·exact Qj hzip
  ·exact Qj gI
  ·exact Qj gO
  ·exact i1lt
  ·exact i2lt
 have nS:s.heap.objs.size∉[z,TI,TO,i1,i2,a1,a2]:=fun hm=>by
  simp only[Qh,Ga,or_false] at hm;rcases hm with e|e|e|e|e|e|e
  ·exact absurd (Qj hzip) (by rw[e];exact QZ _)
  ·exact absurd (Qj gI) (by rw[e];exact QZ _)
  ·exact absurd (Qj gO) (by rw[e];exact QZ _)
  ·exact absurd i1lt (by rw[e];exact QZ _)
  ·exact absurd i2lt (by rw[e];exact QZ _)
  ·exact absurd q1.lt (by rw[e];exact QZ _)
  ·exact absurd q2.lt (by rw[e];exact QZ _)
 refine⟨⟨_,hS,rfl⟩,PySem.F.args_list_init_2 _ _,Jle (A:=A.in1) (b1:=b1) (b2:=b2) hh _ Z nS lo n hn hz (up _ _ hzip) ⟨up _ _ gI,⟨IsItr.keep' t1 fun o e=>up _ o e,q1.push _⟩,⟨IsItr.keep' t2 fun o e=>up _ o e,q2.push _⟩,.inl ⟨up _ _ hzip,_,_,up _ _ gO⟩⟩ hS (fun h' tk acc c as hk hS' hl hG hacc=>?_)⟩;exact⟨rfl,hQ h' tk acc c as (fun b o h1 h2 h3 h4 e=>hk b o (QA (Qj e)) h1 h2 h3 h4 (up b o e)) hS' hl hG hacc⟩
end
end PySem

namespace L2
open PySem PySem.Spec PyProof.Rows
noncomputable def VZ(H:Hp):List Addr->List (V×V)->Hp
 | a::as,kv::kvs=>upd (VZ H as kvs) a (.tup [kv.1,kv.2])
 | _,_=>H
theorem UY{H:Hp}{b:Addr}:∀{as:List Addr} {kvs:List (V×V)},b∉as->VZ H as kvs b=H b
 | [],_,_=>rfl
 | _::_,[],_=>rfl
 | a::as,kv::kvs,h=>by rw[VZ,Jm fun z=>h (by rw[z];exact Qd)];exact UY fun m=>h (Qc _ m)
theorem Zv{H:Hp}:∀{as:List Addr} {kvs:List (V×V)} {j:Nat} {a:Addr} {kv:V×V},as.Nodup->as[j]?=some a->kvs[j]?=some kv->VZ H as kvs a=some (.tup [kv.1,kv.2])
 | [],_,_,_,_,_,e,_=>by simp at e
 | _::_,[],_,_,_,_,_,e=>by simp at e
 | b::as,kv'::kvs,0,a,kv,_,e1,e2=>by simp at e1 e2;subst e1 e2;rw[VZ,Js]
 | b::as,kv'::kvs,j+1,a,kv,hn,e1,e2=>by
  rw[QP] at hn;simp at e1 e2;have hne:a≠b:=fun z=>hn.1 (by rw[<- z];exact QF e1)
  rw[VZ,Jm hne];exact Zv hn.2 e1 e2
theorem nm2{x y z:Nat}(h1:x≠y)(h2:x≠z):x∉[y,z]:=by simp[h1,h2]
theorem Jqk{n b:Nat}(h:b<n):b≠n+4/\b≠n+3/\b≠n/\b≠n+1/\b≠n+2:=by omega
theorem za5{n a1 a2:Nat}(h1:a1<n)(h2:a2<n):ZA (n+4) (n+2) (n+3) n (n+1) [n,a1] [n+1,a2] :=
 ⟨show(n+2:Nat)≠n+4 by omega,show(n+3:Nat)≠n+4 by omega,show(n+2:Nat)≠n+3 by omega,by simp,by simp,
  nm2 (by omega) (by omega),nm2 (by omega) (by omega),nm2 (by omega) (by omega),nm2 (by omega) (by omega),nm2 (by omega) (by omega),nm2 (by omega) (by omega),nm2 (by omega) (by omega),nm2 (by omega) (by omega)⟩
noncomputable def JdU(K:Frag)(ta:TA):TE:=fun σ H Q=>ta σ H fun vs H1=>∃(b1 b2:Bool) (a1 a2:Addr) (xs ys:List V),vs=[.ref a1,.ref a2]/\Sq b1 K H1 a1 xs/\Sq b2 K H1 a2 ys/\(xs.zip ys).length<=sizeLine ∧
 ∀(L:Addr) (as:List Addr),H1 L=none->as.length=(xs.zip ys).length->as.Nodup->L∉as->(∀b∈as,H1 b=none)->Q (.ref L) (upd (VZ H1 as (xs.zip ys)) L (.lst (as.map V.ref)))
theorem JdC{X:Cx}{K:Frag}{a b:Expr}{ta:TA}{p pos p2 pos2:Pos}(hK:X.K=K)(hc:X.calm=true)(hgl:Gl X "list")(hml:X.mg "list"=none)(hg:Gl X "zip")(hm:X.mg "zip"=none)(ha:PA X [a,b] ta)(hs:starEach [a,b] X.env=[(false,eval a X.env),(false,eval b X.env)]:=by rfl)
 (hs2:starEach [b] X.env=[(false,eval b X.env)]:=by rfl):PE X (.Call (.Name "list" p) [.Call (.Name "zip" p2) [a,b] [] pos2] [] pos) (JdU K ta):=by
 subst hK;intro pins s σ H Q I h;refine Call_ (Vb I hgl hml VP (Go ?_ rfl rfl));show wpAny _ _ (spliced ((false,eval (.Call (.Name "zip" p2) [a,b] [] pos2) X.env)::backTo pos (starEach [] X.env))) _ _ s;refine Kb ?_;refine Call_ (Vb I hg hm Jh1 (Go (thn (ha pos2 pins s σ H _ I h) fun us s1 ⟨vs,H1,I1,r1,q1⟩=>?_) (by rw[hs,hs2]) (by rw[hs2];rfl)));obtain⟨b1,b2,a1,a2,xs,ys,e,c1,c2,hz,q⟩:=q1
 subst e
 cases r1 with
 | cons r rr =>
 cases rr with
 | cons r' rr =>
 cases rr;cases r;cases r';obtain⟨its,w1,p1⟩:=c1.heap I1;obtain⟨jts,w2,p2'⟩:=c2.heap I1;have hh:X.A.handled=none:=I1.ok.hd hc;have n1:its.toArray.size=xs.length:=by rw[Qp,w1.length]
 have n2:jts.toArray.size=ys.length:=by rw[Qp,w2.length]
 have hzl:(xs.zip ys).length=min its.toArray.size jts.toArray.size:=by rw[Gh,n1,n2]
 refine Ja5 p1 p2' fun h' t1 t2 t3 t4 t5 kp=>Ln ?_
 have Z:ZA (s1.heap.objs.size+4) (s1.heap.objs.size+2) (s1.heap.objs.size+3) s1.heap.objs.size (s1.heap.objs.size+1) [s1.heap.objs.size,a1] [s1.heap.objs.size+1,a2]:=za5 p1.lt p2'.lt;refine Jlb (s:={ s1 with heap:=h' }) hh Z (xs.zip ys).length hzl hz t1 t2 t3 t4 t5 (p1.keep fun o e=>kp _ o e) (p2'.keep fun o e=>kp _ o e) fun h2 tk acc c as hk hS hal hG hacc=>?_
 have hle:s1.heap.objs.size<h'.objs.size:=GQ (LB _ 4) (Qj t1)
 have hnd:as.Nodup:=hG.rise.imp fun {x y} h=>QA h
 have hLa:h'.objs.size∉as:=fun m=>absurd (hG.above _ m) (QZ _)
 have fr:∀b∈as,H1 b=none:=fun b hb=>I1.hok.fresh (GO (GJ hle (hG.above b hb)))
 have hne:H1 h'.objs.size=none:=I1.hok.fresh (GO hle);refine⟨.ref h'.objs.size,_,I1.more (t':=tk) (fun b u e=>?_) (fun b hb=>?_) (fun b o hb e=>?_),rfl,q h'.objs.size as hne hal hnd hLa fr⟩
 ·obtain⟨o1,o2,o3,o4,_⟩:=Jqk (Qj e);exact hk b u o1 o2 o3 o4 (kp b u e)
 ·rw[Jm (QA (GJ hb hle))];exact UY fun m=>absurd (hG.above b m) (Nat.not_lt.mpr (GO (GJ hb hle)))
 ·by_cases hL:b=h'.objs.size
  ·subst hL;rw[Js] at e;cases e;refine⟨by rw[Qk,hal];exact hz,acc.toList,c,?_,?_⟩
   ·rw[hacc]
    have:∀l:List Addr,Vals (l.map V.ref) (l.map Value.ref):=fun l=>by
     induction l with
     | nil=>exact .nil
     | cons x l ih=>exact .cons rfl ih
    exact this as
   ·rw[hS]
  ·rw[Jm hL] at e
   by_cases hm:b∈as
   ·obtain⟨j,hj⟩:=GU.mp hm;obtain⟨u,v,e1,e2,e3⟩:=hG.pairs j b hj;have hjl:j<(xs.zip ys).length:=by have:=(Qn.mp hj).1;omega
    have hkv:(xs.zip ys)[j]?=some (xs.zip ys)[j]:=QI hjl
    have hx:xs[j]?=some (xs.zip ys)[j].1:=by rw[List.getElem_zip];exact QI _
    have hy:ys[j]?=some (xs.zip ys)[j].2:=by rw[List.getElem_zip];exact QI _
    obtain⟨ux,hux,rux⟩:=w1.get hx;obtain⟨uy,huy,ruy⟩:=w2.get hy
    have eu:u=ux:=by
     have e1':its[j]?=some u:=by simpa using e1
     rw[hux] at e1';exact(QG e1').symm
    have ev:v=uy:=by
     have e2':jts[j]?=some v:=by simpa using e2
     rw[huy] at e2';exact(QG e2').symm
    subst eu ev;rw[Zv hnd hj hkv] at e;cases e;exact⟨by show 2<=sizeLine;decide,[u,v],.cons rux (.cons ruy .nil),⟨_,e3,rfl,_,rfl⟩⟩
   ·rw[UY hm,I1.hok.fresh hb] at e;cases e
end L2

namespace LE
open PySem L2 LR
noncomputable def Jim(as:En->Option (List Sl)):Ev:=fun E=>(as E).bind fun ss=>match ss with
 | [s,t]=>(s.it true).bind fun ds=>(t.it true).bind fun es=>if ds.length<=sizeLine then some (.own (JcB ds es)) else none
 | _=>none
section
variable{K:Frag}{C:Addr}
theorem Jbj{H:Hp}{kvs:List (V×V)}{as:List Addr}(h:∀b∈as,H b=none):Same H (VZ H as kvs):=fun b o e=>by rw[UY fun m=>by rw[h b m] at e;cases e];exact e
theorem JfP{H:Hp}:∀{as:List Addr} {kvs:List (V×V)} {b:Addr} {o:HO},VZ H as kvs b=some o->H b=some o\/b∈as
 | [],_,_,_,e=>.inl e
 | _::_,[],_,_,e=>.inl e
 | a::as,kv::kvs,b,o,e=>by
  by_cases c:b=a
  ·exact .inr (by rw[c];exact Qd)
  ·rw[VZ,Jm c] at e;exact(JfP e).imp id fun m=>Qc _ m
theorem RDL.zips:∀{xs ys:List V} {ds es:List D} {as:List Addr} {H:Hp},as.length=(xs.zip ys).length->(∀(j:Nat) (a:Addr) (x y:V),as[j]?=some a->xs[j]?=some x->ys[j]?=some y->H a=some (.tup [x,y]))->RDL K C H xs ds->RDL K C H ys es->RDL K C H (as.map V.ref) (JcB ds es)
 | [],ys,ds,es,as,H,h1,_,r,r'=>by
  have:ds=[]:=by
   cases ds with
   | nil=>rfl
   | cons d ds=>have:=r.1;simp at this
  subst this;have:as=[]:=QE (by simpa using h1);subst this;exact .nil
 | x::xs,[],ds,es,as,H,h1,_,r,r'=>by
  have:es=[]:=by
   cases es with
   | nil=>rfl
   | cons d ds=>have:=r'.1;simp at this
  subst this;have:as=[]:=QE (by simpa using h1);subst this;cases ds <;> exact .nil
 | x::xs,y::ys,[],es,as,H,h1,_,r,r'=>by have:=r.1;simp at this
 | x::xs,y::ys,d::ds,[],as,H,h1,_,r,r'=>by have:=r'.1;simp at this
 | x::xs,y::ys,d::ds,e::es,[],H,h1,_,r,r'=>by simp at h1
 | x::xs,y::ys,d::ds,e::es,a::as,H,h1,h3,r,r'=>by show RDL K C H (V.ref a::as.map V.ref) (.tup [d,e]::JcB ds es);exact .cons (.mkT (.of (h3 0 a x y rfl rfl rfl)) (.cons r.head (.cons r'.head .nil))) (RDL.zips (by simpa using h1) (fun j a x y e1 e2 e3=>h3 (j+1) a x y (by simpa using e1) (by simpa using e2) (by simpa using e3)) r.tail r'.tail)
theorem JoG{t:TA}{ev:En->Option (List Sl)}(ha:SA K C t ev):SE K C (JdU K t) (Jim ev):=by
 intro B H0 H σ E r Q I e q;obtain⟨ss,e1,e⟩:=bind_some e;split at e
 ·next s u =>
  obtain⟨ds1,e2,e⟩:=bind_some e;obtain⟨ds2,e3,e⟩:=bind_some e;split at e
  ·next hz =>
   cases e;refine ha B H0 H σ E _ _ I e1 fun vs H1 H1' s1 r1=>?_
   obtain⟨v,w,rfl,ra,rb⟩:=r1.two;have f:=JT (Hs:=H) s1.i;obtain⟨b1,a1,xs,rfl,k1,w1⟩:=Jg2 (m:=true) ra s1.i e2;obtain⟨b2,a2,ys,rfl,k2,w2⟩:=Jg2 (m:=true) rb s1.i e3;have st0:SStep H1' (J1 H H1 H1') (J1 H H1 H1') H1':=⟨Same.refl _,Same.refl _,fun _ _ e=>.inl e,f.i⟩
   have s2:=s1.comp f fun _ z=>z
   refine⟨b1,b2,a1,a2,xs,ys,rfl,k1 _ (fun _=>rfl) _ _ st0,k2 _ (fun _=>rfl) _ _ st0,?_,fun L as hL hal hnd hLa hfr=>?_⟩
   ·rw[Gh,w1.1];exact Gi (Nat.min_le_left _ _) hz
   have fr0:∀b∈as,J1 H H1 H1' b=none:=fun b hb=>Same.free s2.i (hfr b hb)
   have frH:∀b∈as,H b=none:=fun b hb=>Same.free s2.h (hfr b hb)
   have hL0:J1 H H1 H1' L=none:=Same.free s2.i hL
   have z0:Same (J1 H H1 H1') (VZ (J1 H H1 H1') as (xs.zip ys)):=Jbj fr0
   have zz:Same H1' (VZ H1' as (xs.zip ys)):=Jbj hfr
   have hLl:VZ H1' as (xs.zip ys) L=none:=by rw[UY hLa];exact hL
   have ii:Same (VZ (J1 H H1 H1') as (xs.zip ys)) (VZ H1' as (xs.zip ys)):=fun b o e=>by
    by_cases hb:b∈as
    ·obtain⟨j,hj⟩:=GU.mp hb
     have hjl:j<(xs.zip ys).length:=by have:=(Qn.mp hj).1;omega
     have hkv:=QI hjl;rw[Zv hnd hj hkv] at e ⊢;exact e
    ·rw[UY hb] at e ⊢;exact s2.i b o e
   refine q _ (VZ (J1 H H1 H1') as (xs.zip ys)) _ ⟨(s2.h.trans zz).trans (.new hLl),s2.z.trans z0,fun b o e=>?_,ii.trans (.new hLl)⟩ ⟨L,as.map V.ref,rfl,Js,by rw[UY hLa];exact hL0,Same.free s2.h hL,?_⟩
   ·rcases JfP e with z|z
    ·exact s2.n b o z
    ·exact .inr (.inl (frH b z))
   ·refine RDL.zips hal (fun j a x y j1 j2 j3=>?_) (w1.mono z0) (w2.mono z0);exact Zv (kv:=(x,y)) hnd j1 (by rw[K6];exact⟨j2,j3⟩)
  ·cases e
 ·cases e
end
end LE

namespace L2
open PySem PySem.Spec PyProof.Rows
section
variable{X:Cx}{pins:List (Addr×Obj)}{σ:St}{H:Hp}{s:Shared}{a:Addr}{kvs:List (Key×V)}{k:Key}{z:V}{u r:Value}{A:Around}{E:Value->Shared->Prop}
theorem Jne{Q:Value->Shared->Prop}(I:Inv X pins σ H s)(e:H a=some (.dK kvs))(ry:RelV (kV k) u)(rz:RelV z r)(l:kvs.length<sizeLine)
 (h1:∀v w' s',U1 kvs k=some v->Inv X pins σ H s'->RelV v w'->Q w' s') (h2:U1 kvs k=none->∀s',Inv X pins σ (upd H a (.dK (Vf kvs k z))) s'->Q r s') :
 wpAny (model X.prog X.w) A (call (.builtin "dict.setdefault") [.ref a,u,r]) Q E s:=by
 obtain⟨hz,hd,vs,rel,dd⟩:=Jmz I.hok e;have hzl:vs.length<=sizeLine:=by rw[<- rel.length];exact hz
 have hl:(Vf kvs k z).length<=sizeLine:=by have:=VB kvs k z;omega
 refine call_meetsIn LQ dd.typeIs PySem.F.entry_dict_setdefault (PySem.F.args_dict_setdefault_3 _ _ _) (kt_meets_setdefault (JO X.prog X.w) a (Jdb ry) hd r) ⟨vs,dd,hzl,fun v hv=>?_,fun hn h' dd' hs=>?_⟩
 ·have rv:=rel.val k;rw[hv] at rv
  cases hk:U1 kvs k with
  | none=>rw[hk] at rv;cases rv
  | some y=>rw[hk] at rv;exact h1 y v _ hk (I.tok _) rv
 ·have rv:=rel.val k;rw[hn] at rv
  have hk:U1 kvs k=none:=by
   cases hk:U1 kvs k with
   | none=>rfl
   | some y=>rw[hk] at rv;cases rv
  refine h2 hk _ ?_;have he:∃q,h'.get? a=some q:=let ⟨q,_,_,hq,_⟩:=dd';⟨q,hq⟩
  exact JbH I (by rw[e];exact True.intro) hs he (Jii hl hd (rel.put k rz) dd')
end
noncomputable def Jcy(td ty tx:TE):TE:=fun σ H Q=>td σ H fun x H1=>∃a,x=.ref a/\IsD H1 a/\ty σ H1 fun y H2=>tx σ H2 fun z H3=>∃kvs k,H3 a=some (.dK kvs)/\y=kV k/\kvs.length<sizeLine ∧
 (∀v,U1 kvs k=some v->Q v H3)/\(U1 kvs k=none->Q z (upd H3 a (.dK (Vf kvs k z))))
section
variable{X:Cx}{o e f:Expr}{apos cpos:Pos}{td ty tx:TE}
theorem JdA(ho:PE X o td)(he:PE X e ty)(hf:PE X f tx)(m:M2 X o "setdefault" apos e f cpos):PE X (.Call (.Attribute o "setdefault" apos) [e,f] [] cpos) (Jcy td ty tx):=by
 intro pins s σ H Q I h;refine wpAny_Call_method m.base m.few m.line G2 LQ PySem.F.type_dict_setdefault (thn (ho pins s σ H _ I h) fun u s1 ⟨x,H1,I1,rx,a,ex,d,q1⟩=>?_);subst ex;obtain rfl:u=Value.ref a:=rx;obtain⟨t1,t2,_⟩:=Z9 I1 d;refine⟨t1,t2,?_⟩;rw[m.trees];refine GI rfl (LD (Kb (thn (he pins s1 σ H1 _ I1 q1) fun iv s2 ⟨y,H2,I2,ry,q2⟩=>Kb (thn (hf pins s2 σ H2 _ I2 q2) fun fv s3 ⟨z,H3,I3,rz,kvs,k,e1,e2,l,q3,q4⟩=>Ln ?_))))
 subst e2;exact Jne I3 e1 ry rz l (fun v w' s' hv I4 rv=>⟨v,H3,I4,rv,q3 v hv⟩) fun hn s' I4=>⟨z,_,I4,rz,q4 hn⟩
end
end L2
namespace LE
open PySem L2 LR
section
variable(K:Frag)(C:Addr)(j:Nat)
noncomputable def Left(σ:St)(E:En)(σ':St)(E':En):Prop:=σ'[j]?=σ[j]?/\∀(i:Nat) (s:Sl),E'[i]?=some s->YN s=true->E[i]?=some s/\σ'[i]?=σ[i]?
noncomputable def SGJ(g:TG)(p:Pt):Prop:=∀(B H0 H:Hp) (σ:St) (E E':En) (x:V) (d:D) (Q:St->Hp->Prop),EnvR K C B H0 H σ E->RD K C H0 x d->p.bind d E=some E'->(∀σ',EnvR K C B H0 H σ' E'->Left j σ E σ' E'->Q σ' H)->g x σ H Q
noncomputable def Jku(g:TGs)(p:Pts):Prop:=∀(B H0 H:Hp) (σ:St) (E E':En) (xs:List V) (ds:List D) (Q:St->Hp->Prop),EnvR K C B H0 H σ E->RDL K C H0 xs ds->p.bind ds E=some E'->(∀σ',EnvR K C B H0 H σ' E'->Left j σ E σ' E'->Q σ' H)->g xs σ H Q
end
section
variable{K:Frag}{C:Addr}{j:Nat}
theorem Left.refl(σ:St)(E:En):Left j σ E σ E:=⟨rfl,fun _ _ e _=>⟨e,rfl⟩⟩
theorem Left.trans{σ σ1 σ2:St}{E E1 E2:En}(a:Left j σ E σ1 E1)(b:Left j σ1 E1 σ2 E2):Left j σ E σ2 E2 :=
 ⟨b.1.trans a.1,fun i s e o=>by obtain⟨h1,h2⟩:=b.2 i s e o;obtain⟨h3,h4⟩:=a.2 i s h1 o;exact⟨h3,h2.trans h4⟩⟩
theorem Jiz{i:Nat}(h:i≠j):SGJ K C j (V1 i) (.nm i):=by
 intro B H0 H σ E E' x d Q I r e q;rw[Pt.bind] at e;split at e
 ·cases e;refine q _ (I.setSh (by assumption) r) ⟨by rw[QX,if_neg h],fun i' s e o=>?_⟩;rw[QX] at e
  by_cases c:i=i'
  ·rw[if_pos c] at e
   by_cases hl:i<E.length
   ·rw[if_pos hl] at e;have e':Sl.sh d=s:=QG e;rw[<- e'] at o;exact absurd o Qt
   ·rw[if_neg hl] at e;exact absurd e (by simp)
  ·rw[if_neg c] at e;exact⟨e,by rw[QX,if_neg c]⟩
 ·cases e
theorem Jnn:Jku K C j Jk1 .nil:=by
 intro B H0 H σ E E' xs ds Q I r e q
 cases ds with
 | nil =>
  cases xs with
  | nil=>rw[Pts.bind] at e;cases e;exact⟨rfl,q σ I (.refl σ _)⟩
  | cons _ _=>have:=r.1;simp at this
 | cons _ _=>simp[Pts.bind] at e
theorem JbS{g:TG}{gs:TGs}{p:Pt}{ps:Pts}(h:SGJ K C j g p)(hs:Jku K C j gs ps):Jku K C j (JfH g gs) (.cons p ps):=by
 intro B H0 H σ E E' xs ds Q I r e q
 cases ds with
 | nil=>simp[Pts.bind] at e
 | cons d ds =>
  cases xs with
  | nil=>have:=r.1;simp at this
  | cons x xs=>rw[Pts.bind] at e;obtain⟨E1,e1,e2⟩:=bind_some e;exact⟨x,xs,rfl,h B H0 H σ E E1 x d _ I r.head e1 fun σ1 I1 l1=>hs B H0 H σ1 E1 E' xs ds Q I1 r.tail e2 fun σ2 I2 l2=>q σ2 I2 (l1.trans l2)⟩
theorem Jno{n:Nat}{gs:TGs}{ps:Pts}(hs:Jku K C j gs ps)(hn:ps.len=n):SGJ K C j (Jg0 K n gs) (.tp ps):=by
 intro B H0 H σ E E' x d Q I r e q
 cases d with
 | tup ds=>rw[Pt.bind] at e;obtain⟨a,xs,rfl,h,r⟩:=RD.tupI r;exact⟨a,xs,rfl,I.h.seqT h,by rw[r.1];exact(Pts.bind_len e).trans hn,hs B H0 H σ E E' xs ds Q I r e q⟩
 | _=>simp[Pt.bind] at e
theorem EnvR.poke{B H0 H:Hp}{σ:St}{E:En}{a:Addr}{o:HO}(I:EnvR K C B H0 H σ E)(h0:H0 a=none)(hb:B a=none)(ho:∀(i:Nat) (s:Sl),E[i]?=some s->YN s=true->σ[i]?≠some (some (.ref a))):EnvR K C B H0 (upd H a o) σ E:=by
 have nb:∀{A:Hp},A a=none->Same A H->Same A (upd H a o):=fun {A} n s b o e=>by rw[Jm (Jw e n)];exact s b o e
 refine⟨nb hb I.b,nb h0 I.h,I.len,fun i s e=>?_,I.sep⟩;rcases I.at' i s e with z|⟨v,q1,q2⟩
 ·exact .inl z
 ·refine .inr ⟨v,q1,?_⟩
  cases s with
  | no=>trivial
  | sh d=>exact q2
  | bo es=>exact q2
  | bd ks es=>exact q2
  | bt ks es=>exact q2
  | own es =>
   obtain⟨l',ys,p1,p2,p3⟩:=q2;subst p1;have:l'≠a:=fun z=>ho i _ e rfl (by rw[q1,z])
   exact⟨l',ys,rfl,by rw[Jm this];exact p2,p3⟩
  | od ks es =>
   obtain⟨l',ys,p1,p2,p3⟩:=q2;subst p1;have:l'≠a:=fun z=>ho i _ e rfl (by rw[q1,z])
   exact⟨l',ys,rfl,by rw[Jm this];exact p2,p3⟩
  | ot ks es =>
   obtain⟨l',ys,p1,p2,p3⟩:=q2;subst p1;have:l'≠a:=fun z=>ho i _ e rfl (by rw[q1,z])
   exact⟨l',ys,rfl,by rw[Jm this];exact p2,p3⟩
end
end LE

namespace LE
open PySem L2 LR
noncomputable def JaL:List Int->List (List D)->Int->D->List (List D)
 | k::ks,x::xs,n,d=>if k=n then(x++[d])::xs else x::JaL ks xs n d
 | _,xs,_,d=>xs++[[d]]
noncomputable def Wn(p:Pt)(ek ev:Ev):List D->En->List Int->List (List D)->Option (En×List Int×List (List D))
 | [],E,ks,dss=>some (E,ks,dss)
 | d::ds,E,ks,dss=>(p.bind d E).bind fun E1=>((ek E1).bind int?).bind fun n=>(ev E1).bind fun s=>s.frz.bind fun dv=>Wn p ek ev ds E1 (JK ks n) (JaL ks dss n dv)
noncomputable def Jmq(it:En->Option (List D))(p:Pt)(j:Nat)(ek ev:Ev):Es:=fun E=>match E[j]? with
 | some (.od [] [])=>(it E).bind fun ds=>if ds.length<sizeLine then(Wn p ek ev ds (E.set j .no) [] []).bind fun r=>if j<r.1.length then some (.nx (r.1.set j (.od r.2.1 (r.2.2.map .lst)))) else none else none
 | _=>none
theorem ZJ:∀{ks:List Int} {ls:List Addr} {n:Int} {a:Addr},look ks ls n=some a->∃m,ls[m]?=some a/\V5 ks n=true/\∀dss:List (List D),dss.length=ls.length->∃ds,dss[m]?=some ds/\∀d,JaL ks dss n d=dss.set m (ds++[d])
 | [],_,_,_,e=>by cases e
 | _::_,[],_,_,e=>by cases e
 | k::ks,l::ls,n,a,e=>by
  simp only[look] at e
  by_cases c:k=n
  ·rw[if_pos c] at e;cases e;refine⟨0,rfl,by unfold V5;simp[c],fun dss hl=>?_⟩
   cases dss with
   | nil=>simp at hl
   | cons x xs=>exact⟨x,rfl,fun d=>by rw[JaL,if_pos c];rfl⟩
  ·rw[if_neg c] at e;obtain⟨m,h1,h2,h3⟩:=ZJ e;refine⟨m+1,by simpa using h1,by unfold V5 at h2 ⊢;rw[GM,h2,Bool.or_true],fun dss hl=>?_⟩
   cases dss with
   | nil=>simp at hl
   | cons x xs=>obtain⟨ds,g1,g2⟩:=h3 xs (by simpa using hl);exact⟨ds,by simpa using g1,fun d=>by rw[JaL,if_neg c,g2 d];rfl⟩
theorem JaU:∀{ks:List Int} {ls:List Addr} {n:Int},ks.length=ls.length->look ks ls n=none->V5 ks n=false/\∀(dss:List (List D)) (d:D),dss.length=ls.length->JaL ks dss n d=dss++[[d]]
 | [],[],_,_,_=>⟨rfl,fun dss d _=>by cases dss <;> rfl⟩
 | [],_::_,_,h,_=>by simp at h
 | _::_,[],_,h,_=>by simp at h
 | k::ks,l::ls,n,h,e=>by
  simp only[look] at e
  by_cases c:k=n
  ·rw[if_pos c] at e;cases e
  ·rw[if_neg c] at e;obtain⟨h1,h2⟩:=JaU (by simpa using h) e;refine⟨by unfold V5 at h1 ⊢;rw[GM,h1,decide_eq_false c];rfl,fun dss d hl=>?_⟩
   cases dss with
   | nil=>simp at hl
   | cons x xs=>rw[JaL,if_neg c,h2 xs d (by simpa using hl)];rfl
section
variable(K:Frag)(C:Addr)
structure Grp (B H0 H:Hp) (σ:St) (E:En) (j c:Nat) (ks:List Int) (dss:List (List D)) (l:Addr) (ls:List Addr):Prop where
 at':σ[j]?=some (some (.ref l))
 dict:H l=some (dkO ks (ls.map V.ref))
 l0:H0 l=none
 lb:B l=none
 len:ks.length=ls.length
 len2:dss.length=ls.length
 cnt:ks.length<=c
 lists:∀(m:Nat) (a:Addr) (ds:List D),ls[m]?=some a->dss[m]?=some ds->ds.length<=c/\∃xs,H a=some (.lst xs)/\H0 a=none/\B a=none/\RDL K C H0 xs ds
 nd:(l::ls).Nodup
 own:∀(i:Nat) (s:Sl) (a:Addr),E[i]?=some s->YN s=true->σ[i]?=some (some (.ref a))->a∉l::ls
end
section
variable{K:Frag}{C:Addr}{B H0 H H0' H':Hp}{σ σ':St}{E E':En}{j c:Nat}{ks:List Int}{dss:List (List D)}{l:Addr}{ls:List Addr}
theorem Grp.there(g:Grp K C B H0 H σ E j c ks dss l ls){a:Addr}(ha:a∈l::ls):∃o,H a=some o/\isT o=false/\H0 a=none/\B a=none:=by
 rcases Qh.mp ha with z|z
 ·subst z;exact⟨_,g.dict,rfl,g.l0,g.lb⟩
 ·obtain⟨m,hm⟩:=GU.mp z;have hl:m<dss.length:=by rw[g.len2];exact(Qn.mp hm).1
  obtain⟨_,xs,h1,h2,h3,_⟩:=g.lists m a dss[m] hm (QI hl);exact⟨_,h1,rfl,h2,h3⟩
theorem Grp.off(g:Grp K C B H0 H σ E j c ks dss l ls)(st:Step H H0 H H0' H'){a:Addr}(ha:a∈l::ls):H0' a=none:=by
 obtain⟨o,h1,h2,h3,_⟩:=g.there ha
 cases z:H0' a with
 | none=>rfl
 | some u =>
  rcases st.n a u z with y|y|y
  ·rw[h3] at y;cases y
  ·rw[h1] at y;cases y
  ·have:=st.i a u z;rw[st.h a o h1] at this;cases this;rw[h2] at y;cases y
theorem Grp.step(g:Grp K C B H0 H σ E j c ks dss l ls)(st:Step H H0 H H0' H'):Grp K C B H0' H' σ E j c ks dss l ls :=
 ⟨g.at',st.h _ _ g.dict,g.off st Qd,g.lb,g.len,g.len2,g.cnt,fun m a ds e1 e2=>by obtain⟨h0,xs,h1,h2,h3,h4⟩:=g.lists m a ds e1 e2;exact⟨h0,xs,st.h _ _ h1,g.off st (Qc _ (QF e1)),h3,h4.mono st.z⟩,g.nd,g.own⟩
theorem Grp.left(g:Grp K C B H0 H σ E j c ks dss l ls)(f:Left j σ E σ' E'):Grp K C B H0 H σ' E' j c ks dss l ls :=
 ⟨f.1.trans g.at',g.dict,g.l0,g.lb,g.len,g.len2,g.cnt,g.lists,g.nd,fun i s a e o q=>by obtain⟨h1,h2⟩:=f.2 i s e o;exact g.own i s a h1 o (by rw[<- h2];exact q)⟩
theorem Grp.free(g:Grp K C B H0 H σ E j c ks dss l ls){a:Addr}(ha:a∈l::ls):∀(i:Nat) (s:Sl),E[i]?=some s->YN s=true->σ[i]?≠some (some (.ref a)):=fun i s e o q=>g.own i s a e o q ha
theorem EnvR.fresh(I:EnvR K C B H0 H σ E){p:Addr}(hp:H p=none):∀(i:Nat) (s:Sl),E[i]?=some s->YN s=true->σ[i]?≠some (some (.ref p)):=fun i s e o q=>by
 rcases I.at' i s e with z|⟨v,q1,q2⟩
 ·subst z;cases o
 ·rw[q1] at q;cases q
  cases s with
  | own es=>obtain⟨l',ys,p1,p2,_⟩:=q2;cases p1;rw[hp] at p2;cases p2
  | od ks es=>obtain⟨l',ys,p1,p2,_⟩:=q2;cases p1;rw[hp] at p2;cases p2
  | ot ks es=>obtain⟨l',ys,p1,p2,_⟩:=q2;cases p1;rw[hp] at p2;cases p2
  | _=>cases o
theorem VU{α β:Type}(f:α->β):∀(ks:List Int) (vs:List α) (n:Int),look ks (vs.map f) n=(look ks vs n).map f
 | [],_,_=>rfl
 | _::_,[],_=>rfl
 | k::ks,v::vs,n=>by
  rw[Qe];simp only[look];split
  ·rfl
  ·exact VU f ks vs n
theorem JiJ{tk tv:TE}{ek ev:Ev}(hk:SE K C tk ek)(hv:SE K C tv ev)(I:EnvR K C B H0 H σ E)(g:Grp K C B H0 H σ E j c ks dss l ls)(hc:c<sizeLine){n:Int}{s:Sl}{dv:D}(e1:ek E=some (.sh (.int n)))(e2:ev E=some s)(e3:s.frz=some dv){D:Ends}
 (f:∀H0' H' ls',SStep B H0 H0' H'->EnvR K C B H0' H' σ E->Grp K C B H0' H' σ E j (c+1) (JK ks n) (JaL ks dss n dv) l ls'->D.nx σ H') :
 JaC (tBM K "list" Ww (Jcy (WE j) tk (Jmk WD)) (Vn tv WD)) D σ H:=by
 have hkl:=g.len
 have hcn:=g.cnt;refine⟨.ref l,g.at',l,rfl,.inl ⟨_,.inl g.dict⟩,hk B H0 H σ E _ _ I e1 fun y H1 H1' s1 r1=>?_⟩
 have ry:y=.int n:=RD.intI r1;subst ry
 have I1:=I.step s1
 have g1:=g.step s1;refine⟨Gv _,fun p hp=>?_⟩
 have p0:H1 p=none:=Same.free s1.i hp
 have pb:B p=none:=Same.free I1.b hp
 have pn:p∉l::ls:=fun m=>by obtain⟨o,h1,_⟩:=g1.there m;rw[hp] at h1;cases h1
 have I2:EnvR K C B H1 (upd H1' p (.lst [])) σ E:=I1.poke p0 pb (I1.fresh hp)
 have ne:∀{a:Addr},a∈l::ls->a≠p:=fun {a} m z=>pn (z▸m)
 have dl:upd H1' p (.lst []) l=some (dkO ks (ls.map V.ref)):=by rw[Jm (ne Qd)];exact g1.dict
 have ss1:SStep B H0 H1 H1':=s1.ss I.b;refine⟨_,(Sum.inl n:Key),dl,rfl,?_,fun v hv'=>?_,fun hn=>?_⟩
 ·rw[Gh,Qk,Qk,hkl,KJ];omega
 ·-- the list is there
  rw[Uy,VU] at hv';obtain⟨a,ha,rfl⟩:=Gj.mp hv';obtain⟨m,m1,m2,m3⟩:=ZJ ha;obtain⟨ds,d1,d2⟩:=m3 dss g.len2;have ham:a∈l::ls:=Qc _ (QF m1);obtain⟨hd,xs,x1,x2,x3,x4⟩:=g1.lists m a ds m1 d1;have xa:upd H1' p (.lst []) a=some (.lst xs):=by rw[Jm (ne ham)];exact x1
  refine⟨.inl ⟨rfl,xs,.of xa⟩,?_⟩;refine hv B H1 _ σ E _ _ I2 e2 fun v H3 H3' s3 r3=>?_
  have s4:Step (upd H1' p (.lst [])) H1 (upd H1' p (.lst [])) (J1 (upd H1' p (.lst [])) H3 H3') H3':=s3.comp (JT s3.i) fun _ z=>z
  have g2:Grp K C B H1 (upd H1' p (.lst [])) σ E j c ks dss l ls:=⟨g1.at',dl,g1.l0,g1.lb,g1.len,g1.len2,g1.cnt,fun m' a' ds' q1 q2=>by obtain⟨h0,xs',h1,h2⟩:=g1.lists m' a' ds' q1 q2;exact⟨h0,xs',by rw[Jm (ne (Qc _ (QF q1)))];exact h1,h2⟩,g1.nd,g1.own⟩
  have g3:=g2.step s4
  have I3:=I2.step s4
  have ha3:H3' a=some (.lst xs):=s4.h _ _ xa
  have rv:RDL K C (J1 (upd H1' p (.lst [])) H3 H3') (xs++[v]) (ds++[dv]):=(x4.mono s4.z).snoc (RR.frz s3.i r3 e3);refine⟨a,xs,v,rfl,rfl,ha3,by rw[x4.1];omega,?_⟩
  have al:a≠l:=fun z=>(QP.mp g.nd).1 (z▸QF m1)
  refine f (J1 (upd H1' p (.lst [])) H3 H3') _ ls ?_ (I3.poke (g3.off (.refl I3.h) ham) (g3.there ham).choose_spec.2.2.2 (g3.free ham)) ?_
  ·have sb:SStep B H1 (J1 (upd H1' p (.lst [])) H3 H3') H3':=s4.ss I2.b
   have:=ss1.trans sb
   have na:J1 (upd H1' p (.lst [])) H3 H3' a=none:=g3.off (.refl I3.h) ham
   have nb:B a=none:=x3;exact⟨fun b o q=>by rw[Jm (Jw q nb)];exact this.b b o q,this.z,this.n,fun b o q=>by rw[Jm (Jw q na)];exact this.i b o q⟩
  ·have hp':JK ks n=ks:=if_pos m2;rw[hp',d2 dv];refine⟨g3.at',by rw[Jm (QO al)];exact g3.dict,g3.l0,g3.lb,g3.len,by rw[List.length_set];exact g3.len2,Mr g3.cnt,fun m' a' ds' q1 q2=>?_,g3.nd,g3.own⟩;rw[QX] at q2
   by_cases hm:m=m'
   ·subst hm;rw[m1] at q1;cases q1;rw[if_pos rfl] at q2;split at q2
    ·cases q2;exact⟨by rw[Qv,Gg];omega,_,Js,g3.off (.refl I3.h) ham,x3,rv⟩
    ·cases q2
   ·rw[if_neg hm] at q2;obtain⟨h0,xs',h1,h2⟩:=g3.lists m' a' ds' q1 q2
    have:a'≠a:=fun z=>by subst z;have nd:=(QP.mp g.nd).2;obtain⟨b1,b2⟩:=Qn.mp m1;obtain⟨c1,c2⟩:=Qn.mp q1;exact hm ((List.getElem_inj nd).mp (b2.trans c2.symm))
    exact⟨by omega,xs',by rw[Jm this];exact h1,h2⟩
 ·-- a new list
  rw[Uy,VU] at hn;have hn':look ks ls n=none:=Option.map_eq_none_iff.mp hn;obtain⟨m2,m3⟩:=JaU g.len hn'
  have hkv:Vf ((ks.map Sum.inl:List Key).zip (ls.map V.ref)) (Sum.inl n) (.ref p)=((ks++[n]).map Sum.inl:List Key).zip ((ls++[p]).map V.ref):=by rw[Jjx _ (by rw[Uy,VU,hn'];rfl),Qz,Qz,LM (by rw[Qk,Qk];exact g.len)];rfl
  rw[hkv];have lp:l≠p:=ne Qd;have xp:upd (upd H1' p (.lst [])) l (dkO (ks++[n]) ((ls++[p]).map V.ref)) p=some (.lst []):=by rw[Jm (QO lp),Js]
  have I2':EnvR K C B H1 (upd (upd H1' p (.lst [])) l (dkO (ks++[n]) ((ls++[p]).map V.ref))) σ E:=I2.poke g1.l0 g1.lb (g1.free Qd)
  suffices key:∀Hn,upd (upd H1' p (.lst [])) l (dkO (ks++[n]) ((ls++[p]).map V.ref))=Hn->Hn p=some (.lst [])->EnvR K C B H1 Hn σ E->(tyV K "list" (.ref p) Hn/\Vn tv WD σ Hn fun xs H2=>Ww (.ref p) xs H2 fun _ H1=>D.nx σ H1) from key _ rfl xp I2'
  clear xp I2';intro Hn hHn xp I2';refine⟨.inl ⟨rfl,[],.of xp⟩,?_⟩;refine hv B H1 Hn σ E _ _ I2' e2 fun v H3 H3' s3 r3=>?_
  have s4:Step Hn H1 Hn (J1 Hn H3 H3') H3':=s3.comp (JT s3.i) fun _ z=>z
  have nd':(l::(ls++[p])).Nodup:=by
   rw[<- Ka,Lr];refine⟨g.nd,by simp,fun x hx y hy=>?_⟩;have:y=p:=by simpa using hy
   rw[this];exact ne hx
  have g2:Grp K C B H1 Hn σ E j (c+1) (ks++[n]) (dss++[[]]) l (ls++[p]):=⟨g1.at',by rw[<- hHn];exact Js,g1.l0,g1.lb,by simp[g.len],by simp[g.len2],by simp;omega,fun m' a' ds' q1 q2=>by
   by_cases hm:m'<ls.length
   ·rw[QQ hm] at q1;rw[QQ (by rw[g.len2];exact hm)] at q2;obtain⟨h0,xs',h1,h2⟩:=g1.lists m' a' ds' q1 q2;have hal:a'∈ls:=QF q1;exact⟨by omega,xs',by rw[<- hHn,Jm fun z=>(QP.mp g.nd).1 (by rw[<- z];exact hal),Jm (ne (Qc _ hal))];exact h1,h2⟩
   ·have hm1:m'=ls.length:=by have:=(Qn.mp q1).1;simp at this;omega
    subst hm1
    have ea:a'=p:=by
     rw[Q2 (Qm _)] at q1
     simpa using q1.symm
    have ed:ds'=[]:=by
     rw[Q2 (by rw[g.len2];exact Qm _),g.len2] at q2
     simpa using q2.symm
    subst ea ed;exact⟨Gv _,[],xp,p0,pb,.nil⟩,nd',fun i s a e o q m=>by
     rw[<- Ka] at m;rcases Q6.mp m with z|z
     ·exact g1.own i s a e o q z
     ·have:a=p:=by simpa using z
      subst this;exact I1.fresh hp i s e o q⟩
  have g3:=g2.step s4
  have I3:=I2'.step s4
  have pm:p∈l::(ls++[p]):=by simp
  have p3:H3' p=some (.lst []):=s4.h _ _ xp
  have rv:RDL K C (J1 Hn H3 H3') [v] [dv]:=.cons (RR.frz s3.i r3 e3) .nil;refine⟨p,[],v,rfl,rfl,p3,by show 0<sizeLine;decide,?_⟩
  have n0:J1 Hn H3 H3' p=none:=g3.off (.refl I3.h) pm;refine f (J1 Hn H3 H3') _ (ls++[p]) ?_ (I3.poke n0 pb (g3.free pm)) ?_
  ·have sb:SStep B H1 (J1 Hn H3 H3') H3':=s4.ss I2'.b
   have:=ss1.trans sb;exact⟨fun b o q=>by rw[Jm (Jw q pb)];exact this.b b o q,this.z,this.n,fun b o q=>by rw[Jm (Jw q n0)];exact this.i b o q⟩
  ·have hp':JK ks n=ks++[n]:=if_neg (by rw[m2];exact Qt);rw[hp',m3 dss dv g.len2];refine⟨g3.at',by rw[Jm lp];exact g3.dict,g3.l0,g3.lb,g3.len,by simp[g.len2],g3.cnt,fun m' a' ds' q1 q2=>?_,g3.nd,g3.own⟩
   by_cases hm:m'<ls.length
   ·have q2':(dss++[[]])[m']?=some ds':=by rw[QQ (by rw[g.len2];exact hm)] at q2 ⊢;exact q2
    obtain⟨h0,xs',h1,h2⟩:=g3.lists m' a' ds' q1 q2'
    have:a'≠p:=by rw[QQ hm] at q1;exact ne (Qc _ (QF q1))
    exact⟨h0,xs',by rw[Jm this];exact h1,h2⟩
   ·have hm1:m'=ls.length:=by have:=(Qn.mp q1).1;simp at this;omega
    subst hm1
    have ea:a'=p:=by
     rw[Q2 (Qm _)] at q1
     simpa using q1.symm
    have ed:ds'=[dv]:=by
     rw[Q2 (by rw[g.len2];exact Qm _),g.len2] at q2
     simpa using q2.symm
    subst ea ed;exact⟨by simp,[v],Js,n0,pb,rv⟩
end
end LE

namespace LE
open PySem L2 LR
section
variable{K:Frag}{C:Addr}{B H0 H H0' H':Hp}{σ σ':St}{E E':En}{j c:Nat}{ks:List Int}{dss:List (List D)}{l:Addr}{ls:List Addr}
theorem EnvR.unslot(I:EnvR K C B H0 H σ E)(j:Nat):EnvR K C B H0 H σ (E.set j .no):=by
 have get:∀(i:Nat) (s:Sl),(E.set j Sl.no)[i]?=some s->s=.no\/(i≠j/\E[i]?=some s):=fun i s e=>by
  rw[QX] at e
  by_cases c:j=i
  ·rw[if_pos c] at e
   by_cases hl:j<E.length
   ·rw[if_pos hl] at e;exact .inl (QG e).symm
   ·rw[if_neg hl] at e;exact absurd e (by simp)
  ·rw[if_neg c] at e;exact .inr ⟨fun z=>c z.symm,e⟩
 refine⟨I.b,I.h,by simp[I.len],fun i s e=>?_,fun i k s t v hik e1 e2 o1 o2 e3 e4=>?_⟩
 ·rcases get i s e with z|⟨_,z⟩
  ·exact .inl z
  ·exact I.at' i s z
 ·rcases get i s e1 with z|⟨_,z⟩
  ·subst z;cases o1
  ·rcases get k t e2 with y|⟨_,y⟩
   ·subst y;cases o2
   ·exact I.sep i k s t v hik z y o1 o2 e3 e4
noncomputable def JgZ(H0 H:Hp)(ls:List Addr):Hp:=fun a=>if a∈ls then H a else H0 a
theorem Jbo{Hz:Hp}:∀{ls:List Addr} {dss:List (List D)},dss.length=ls.length->(∀(m:Nat) (a:Addr) (ds:List D),ls[m]?=some a->dss[m]?=some ds->∃xs,Hz a=some (.lst xs)/\RDL K C Hz xs ds)->RDL K C Hz (ls.map V.ref) (dss.map .lst)
 | [],[],_,_=>.nil
 | [],_::_,h,_=>by simp at h
 | _::_,[],h,_=>by simp at h
 | a::ls,ds::dss,h,f=>by obtain⟨xs,h1,h2⟩:=f 0 a ds rfl rfl;exact .cons (.mkL h1 h2) (Jbo (by simpa using h) fun m a ds e1 e2=>f (m+1) a ds (by simpa using e1) (by simpa using e2))
theorem Grp.done(I:EnvR K C B H0 H σ E)(g:Grp K C B H0 H σ E j c ks dss l ls)(hj:j<E.length):SStep B H0 (JgZ H0 H ls) H/\EnvR K C B (JgZ H0 H ls) H σ (E.set j (.od ks (dss.map .lst))):=by
 have out:∀{a:Addr},a∉ls->JgZ H0 H ls a=H0 a:=fun {a} h=>if_neg h
 have inn:∀{a:Addr},a∈ls->JgZ H0 H ls a=H a:=fun {a} h=>if_pos h
 have z:Same H0 (JgZ H0 H ls):=fun a o e=>by
  by_cases c:a∈ls
  ·rw[inn c];exact I.h a o e
  ·rw[out c];exact e
 have i:Same (JgZ H0 H ls) H:=fun a o e=>by
  by_cases c:a∈ls
  ·rw[inn c] at e;exact e
  ·rw[out c] at e;exact I.h a o e
 have ln:l∉ls:=(QP.mp g.nd).1;refine⟨⟨I.b,z,fun a o e=>?_,i⟩,I.b,i,by simp[I.len],fun k s e=>?_,fun k m s t v hkm e1 e2 o1 o2 e3 e4=>?_⟩
 ·by_cases c:a∈ls
  ·exact .inr (.inl (g.there (Qc _ c)).choose_spec.2.2.2)
  ·rw[out c] at e;exact .inl e
 ·rw[QX] at e
  by_cases c:j=k
  ·subst c;rw[if_pos rfl,if_pos hj] at e;have e':=QG e;subst e';refine .inr ⟨_,g.at',l,ls.map V.ref,rfl,g.dict,by rw[out ln];exact g.l0,g.lb,by rw[Qk,g.len2];exact g.len,Jbo g.len2 fun m a ds q1 q2=>?_⟩;obtain⟨_,xs,h1,_,_,h4⟩:=g.lists m a ds q1 q2;exact⟨xs,by rw[inn (QF q1)];exact h1,h4.mono z⟩
  ·rw[if_neg c] at e;rcases I.at' k s e with y|⟨v,q1,q2⟩
   ·exact .inl y
   ·refine .inr ⟨v,q1,?_⟩
    cases s with
    | no=>trivial
    | sh d=>exact RD.mono z q2
    | bo es=>obtain⟨l',ys,p1,p2,p3⟩:=q2;exact⟨l',ys,p1,p2,p3.mono z⟩
    | bd ks es=>obtain⟨l',ys,p1,p2,p3,p4⟩:=q2;exact⟨l',ys,p1,p2,p3,p4.mono z⟩
    | bt ks es=>obtain⟨l',ys,p1,p2,p3,p4⟩:=q2;exact⟨l',ys,p1,p2,p3,p4.mono z⟩
    | own es=>obtain⟨l',ys,p1,p2,p3,p4,p5⟩:=q2;subst p1;have:=g.own k _ l' e rfl q1;exact⟨l',ys,rfl,p2,by rw[out fun m=>this (Qc _ m)];exact p3,p4,p5.mono z⟩
    | od ks es=>obtain⟨l',ys,p1,p2,p3,p4,p5,p6⟩:=q2;subst p1;have:=g.own k _ l' e rfl q1;exact⟨l',ys,rfl,p2,by rw[out fun m=>this (Qc _ m)];exact p3,p4,p5,p6.mono z⟩
    | ot ks es=>obtain⟨l',ys,p1,p2,p3,p4,p5,p6⟩:=q2;subst p1;have:=g.own k _ l' e rfl q1;exact⟨l',ys,rfl,p2,by rw[out fun m=>this (Qc _ m)];exact p3,p4,p5,p6.mono z⟩
 ·have get:∀(i:Nat) (s:Sl),(E.set j (Sl.od ks (dss.map .lst)))[i]?=some s->i=j\/(i≠j/\E[i]?=some s):=fun i s e=>by
   rw[QX] at e
   by_cases c:j=i
   ·exact .inl c.symm
   ·rw[if_neg c] at e;exact .inr ⟨fun z=>c z.symm,e⟩
  rcases get k s e1 with y1|⟨n1,y1⟩
  ·subst y1;rcases get m t e2 with y2|⟨n2,y2⟩
   ·exact hkm y2.symm
   ·rw[g.at'] at e3;have e3':=QG (QG e3);subst e3';exact g.own m t l y2 o2 e4 Qd
  ·rcases get m t e2 with y2|⟨n2,y2⟩
   ·subst y2;rw[g.at'] at e4;have e4':=QG (QG e4);subst e4';exact g.own k s l y1 o1 e3 Qd
   ·exact I.sep k m s t v hkm y1 y2 o1 o2 e3 e4
theorem Jqa{wi:TI}{g:TG}{it:En->Option (List LE.D)}{p:Pt}{tk tv:TE}{ek ev:Ev}(hi:SI K C false wi it)(hg:SGJ K C j g p)(hk:SE K C tk ek)(hv:SE K C tv ev) :
 SS K C (Jmi wi g (JaC (tBM K "list" Ww (Jcy (WE j) tk (Jmk WD)) (Vn tv WD)))) (Jmq it p j ek ev):=by
 intro B H0 H σ E o D I e f;unfold Jmq at e;split at e
 ·next h =>
  obtain⟨ds,e1,e⟩:=bind_some e;split at e
  ·next hz =>
   obtain⟨⟨E',ks,dss⟩,e2,e⟩:=bind_some e;split at e
   ·next hjl =>
    cases e;refine hi B H0 H σ E ds _ I e1 fun J H1 H1' s1 ok=>?_
    rw[if_neg (by simp)] at ok;have I1:=I.step s1;rcases I1.at' j _ h with y|⟨v,h1,l,xs,rfl,hl,hl0,hlb,_,rx⟩
    ·cases y
    have hx:xs=[]:=QE (by have:=rx.1;simpa using this);subst hx
    have G0:Grp K C B H1 H1' σ (E.set j .no) j 0 [] [] l []:=⟨h1,hl,hl0,hlb,rfl,rfl,Qm _,fun m a ds q=>by simp at q,by simp,fun i s a q o q' m=>by
     rw[QX] at q
     by_cases c:j=i
     ·rw[if_pos c] at q
      by_cases hl:j<E.length
      ·rw[if_pos hl] at q;have q':=QG q;rw[<- q'] at o;exact absurd o Qt
      ·rw[if_neg hl] at q;exact absurd q (by simp)
     ·rw[if_neg c] at q;have:a=l:=by simpa using m
      subst this;exact I1.sep j i _ s (.ref a) c h q rfl o h1 q'⟩
    refine⟨fun i k σ' H'=>k=ds.length-i/\i<=ds.length/\∃H0' E1 ks1 dss1 l ls,EnvR K C B H0' H' σ' E1/\SStep B H1 H0' H'/\Grp K C B H0' H' σ' E1 j i ks1 dss1 l ls/\Wn p ek ev (ds.drop i) E1 ks1 dss1=some (E',ks,dss),
     ⟨ds.length,by simp,Gv _,H1,E.set j .no,[],[],l,[],I1.unslot j,.refl (I.b.trans s1.h) s1.i,G0,e2⟩,?_⟩
    rintro i k σ' H' ⟨rfl,hi',H0',E1,ks1,dss1,l,ls,I',st,G,er⟩;have stop:=ok H0' H' st
    by_cases hlt:i<ds.length
    ·have hd:ds[i]?=some ds[i]:=by simp[hlt]
     obtain⟨go,yl⟩:=stop.1 i _ hd;refine .inr ⟨go,fun σ2 H2=>∃H0' E1 ks1 dss1 l ls,EnvR K C B H0' H2 σ2 E1/\SStep B H1 H0' H2/\Grp K C B H0' H2 σ2 E1 j (i+1) ks1 dss1 l ls/\Wn p ek ev (ds.drop (i+1)) E1 ks1 dss1=some (E',ks,dss),fun σ2 H2 h=>⟨ds.length-(i+1),by omega,rfl,hlt,h⟩,fun x H2 y=>?_⟩;obtain⟨H02,st2,rx⟩:=yl x H2 y;rw[K7 hlt,Wn] at er;obtain⟨E2,b1,er⟩:=bind_some er;obtain⟨n,b2,er⟩:=bind_some er;obtain⟨s,b3,er⟩:=bind_some er
     obtain⟨dv,b4,er⟩:=bind_some er;obtain⟨sn,b5,b6⟩:=bind_some b2;have b7:=Ve b6;subst b7;have ss2:SStep B H0' H02 H2:=st2.ss I'.b;refine hg B H02 H2 σ' E1 E2 x _ _ (I'.step st2) rx b1 fun σ2 I2 lf=>?_
     exact JiJ hk hv I2 ((G.step st2).left lf) (by omega) b5 b3 b4 fun H03 H3 ls' ss I3 G3=>⟨H03,E2,_,_,l,ls',I3,(st.trans ss2).trans ss,G3,er⟩
    ·have hd:ds.drop i=[]:=List.drop_eq_nil_of_le (by omega)
     have hin:i=ds.length:=by omega
     rw[hd,Wn] at er;have er':=QG er;cases er';obtain⟨d1,d2⟩:=G.done I' hjl;refine .inl ⟨by rw[hin];exact stop.2,f σ' _ H' (((s1.ss I.b).trans st).trans d1) d2⟩
   ·cases e
  ·cases e
 ·cases e
end
end LE

namespace L2
open PySem PySem.Spec PyProof.Rows
noncomputable def UG:List Int->List Int->Bool
 | [],_=>true
 | _::_,[]=>false
 | x::xs,y::ys=>if x=y then UG xs ys else decide (x<=y)
theorem V6(x y:Int)(xs ys:List Int):UG (x::xs) (y::ys)=if x=y then UG xs ys else decide (x<=y):=rfl
theorem JjM(A:Around)(s:Shared)(a:Int)(t:Tok)(c:Int)(u:Tok)(prog:Program)(w:World)(E:Value->Shared->Prop)(Q:Value->Shared->Prop)(h:Q (.bool (decide (a<=c))) s) :
 wpAny (model prog w) A (richCompare .LtE (.int a t) (.int c u)) Q E s :=
 (PyProof.Rows.le_int h:wpAny (model prog w) A (compareOp .LtE (.int a t) (.int c u)) Q E s)
section
open PySem.SeqAt
open PySem.AutoSeq1 (wpAny_loadPart')
open PySem.MeetsSeq PySem.MeetsSeq2 PySem.MeetsSeq3
theorem JaS(l b:Addr)(items items2:Array Value)(n n2:Nat)(dd dd2:Option Addr)(sl sl2:Array (Option Value))(ns ms:List Int)(hi:IntsAre items.toList ns)(hj:IntsAre items2.toList ms) :
 Meets (Builtin.«tuple.__le__» ⟨[.ref l,.ref b],[]⟩)
  (fun _ R s=>s.heap.get? l=some { cls:=.type "tuple",dict:=dd,data:=.seq items n,slots:=sl }/\s.heap.get? b=some { cls:=.type "tuple",dict:=dd2,data:=.seq items2 n2,slots:=sl2 } ∧
   R (.ok (.ret (.bool (UG ns ms)))) s) :=
 .of_wp fun prog w A R s h=>by
  obtain⟨hp,g,d,tk,os⟩:=s;obtain⟨hl,hb,h⟩:=h;have f2:=AutoSeq1.sub_tuple_tuple;have z1:items.size=ns.length:=by rw[<- hi.length];simp
  have z2:items2.size=ms.length:=by rw[<- hj.length];simp
  wp_walk using KR hl,KR hb,wpAny_forIn_list _ (fun rest b s'=>b.1=none/\s'=⟨hp,g,d,tk,os⟩/\∃(vs ws:List Value) (ns' ms':List Int),rest=vs.zip ws ∧
   IntsAre vs ns'/\IntsAre ws ms'/\ns'.length+items2.size=ms'.length+items.size/\R (.ok (.ret (.bool (UG ns' ms')))) ⟨hp,g,d,tk,os⟩) _
  case turn =>
   rintro⟨y,x⟩ rest b s' ⟨hb',rfl,vs,ws,ns',ms',hz,hvi,hwi,hlen,hR⟩
   cases hvi with
   | nil=>rw[List.zip_nil_left] at hz;cases hz
   | cons a t hvi' =>
    cases hwi with
    | nil=>rw[List.zip_nil_right] at hz;cases hz
    | cons c u hwi' =>
     rw[Me] at hz
     injection hz with hyx hrest
     injection hyx with hy hx
     subst hy hx;rw[V6] at hR;simp only[Qo] at hlen;obtain⟨e,he,hiff⟩:=HT.Jip A.in1 ⟨hp,g,d,tk,os⟩ a t c u;refine Qa (he prog w _ _ ?_)
     cases e with
     | true=>rw[if_pos (hiff.mp rfl)] at hR;wp_walk;exact⟨rfl,rfl,_,_,_,_,hrest,hvi',hwi',by omega,hR⟩
     | false=>rw[if_neg (fun q=>absurd (hiff.mpr q) Qt)] at hR;have hri:=JjM A.in1 ⟨hp,g,d,tk,os⟩ a t c u prog w;wp_walk using hri;exact⟨_,rfl,by simpa using hR⟩
  case fin =>
   rintro⟨b1,b2⟩ s' ⟨hb',rfl,vs,ws,ns',ms',hz,hvi,hwi,hlen,hR⟩;simp only at hb';subst hb'
   have hv:UG ns' ms'=decide (items.size<=items2.size):=by
    cases hvi with
    | nil=>simp only[Ki] at hlen;rw[show UG [] ms'=true from rfl];exact(decide_eq_true (by omega)).symm
    | cons a t hv =>
     cases hwi with
     | nil=>simp only[Ki,Qo] at hlen;rw[show UG (_::_) []=false from rfl];exact(decide_eq_false (by omega)).symm
     | cons c u hw=>rw[Me] at hz;cases hz
   rw[hv] at hR;wp_walk;exact⟨_,rfl,by simpa [Builtin.Tuple.tupleCompareSizes] using hR⟩
  case h=>exact⟨rfl,rfl,items.toList,items2.toList,ns,ms,rfl,hi,hj,by omega,h⟩
end
section
variable{prog:Program}{w:World}{A:Around}{E:Value->Shared->Prop}{s:Shared}
theorem Jez{l b:Addr}{items items2:Array Value}{ns ms:List Int}{Q:Value->Shared->Prop}(hl:s.heap.IsTuple l items)(hb:s.heap.IsTuple b items2)(hi:IntsAre items.toList ns)(hj:IntsAre items2.toList ms)
 (hu:A.units<cLine) (h:Q (.bool (UG ns ms)) s):wpAny (model prog w) A (compareOp .LtE (.ref l) (.ref b)) Q E s:=by
 obtain⟨⟨cls,dd,data,sl⟩,ho,hc,n,hd⟩:=id hl;obtain⟨⟨cls2,dd2,data2,sl2⟩,ho2,hc2,n2,hd2⟩:=id hb;simp only at hc hd hc2 hd2;subst hc hd hc2 hd2;exact richCompare_meets_room (op:=.LtE) ⟨_,ho,rfl⟩ ⟨_,ho2,rfl⟩ PySem.F.slot_tuple_le PySem.F.entry_tuple_le (PySem.F.args_tuple_le_2 _ _) (JaS l b items items2 n n2 dd dd2 sl sl2 ns ms hi hj)
  ⟨ho,ho2,show Value.bool (UG ns ms)≠Value.notImplemented/\Q (.bool (UG ns ms)) s from⟨(fun x=>nomatch x),h⟩⟩ hu
end
noncomputable def JpM(K:Frag):R2:=fun x y H Q=>∃a b ns ms,x=.ref a/\y=.ref b/\SqT K H a (ns.map V.int)/\SqT K H b (ms.map V.int)/\Q (.bl (UG ns ms)) H
theorem Jn3{X:Cx}{K:Frag}(hK:X.K=K)(hu:X.A.units<cLine):OpR X (compareOp .LtE) (JpM K):=by subst hK;intro pins s σ H x y v u Q I rx ry h;obtain⟨a,b,ns,ms,rfl,rfl,ha,hb,q⟩:=h;cases rx;cases ry;obtain⟨its,r1,p1,_⟩:=I.tuple ha;obtain⟨its2,r2,p2,_⟩:=I.tuple hb;have i1:IntsAre its.toArray.toList ns:=UW r1;have i2:IntsAre its2.toArray.toList ms:=UW r2;exact Jez p1 p2 i1 i2 hu ⟨.bl (UG ns ms),H,I,rfl,q⟩
end L2
namespace LE
open PySem L2 LR
noncomputable def Jit:Sl->Sl->Option Sl
 | .sh (.tup ds),.sh (.tup es)=>(ints? ds).bind fun ns=>(ints? es).map fun ms=>.sh (.bl (UG ns ms))
 | _,_=>none
section
variable{K:Frag}{C:Addr}
theorem RDL.ints'{H:Hp}:∀{xs:List V} {ns:List Int},RDL K C H xs (ns.map .int)->xs=ns.map V.int
 | [],[],_=>rfl
 | [],_::_,r=>by have:=r.1;simp at this
 | _::_,[],r=>by have:=r.1;simp at this
 | x::xs,n::ns,r=>by have h1:RD K C H x (.int n):=r.head;rw[RD.intI h1,RDL.ints' (ns:=ns) r.tail];rfl
theorem JpB:OpS K C (JpM K) Jit:=by
 intro Hs H0 H x y a b c Q i hs ra rb e q;unfold Jit at e;split at e
 ·obtain⟨ns,e1,e⟩:=bind_some e;obtain⟨ms,e2,e⟩:=Gj.mp e;subst e;have h1:=UN e1;have h2:=UN e2;subst h1 h2;obtain⟨p,xs,rfl,s1,r1⟩:=RD.tupI ra;obtain⟨p',ys,rfl,s2,r2⟩:=RD.tupI rb;have z1:=RDL.ints' r1;have z2:=RDL.ints' r2;subst z1 z2;exact⟨p,p',ns,ms,rfl,rfl,i.seqT s1,i.seqT s2,q _ _ _ (.refl i) (.bl _)⟩
 ·cases e
theorem JkT(a b c d:Int):Jit (.sh (.tup [.int a,.int b])) (.sh (.tup [.int c,.int d]))=some (.sh (.bl (if a=c then decide (b<=d) else decide (a<=c)))):=by
 show some (Sl.sh (.bl (UG [a,b] [c,d])))=_;rw[V6];split
 ·rw[V6];split
  ·next h=>rw[h];simp[UG]
  ·rfl
 ·rfl
end
end LE

namespace L2
open PySem PySem.Spec PyProof.Rows
section
open PySem.SeqAt
open PySem.AutoSeq1 (wpAny_loadPart')
open PySem.MeetsSeq PySem.MeetsSeq2 PySem.MeetsSeq3
end
section
variable{prog:Program}{w:World}{A:Around}{E:Value->Shared->Prop}{s:Shared}
end
end L2
namespace LE
open PySem L2 LR
section
variable{K:Frag}{C:Addr}
end
end LE

namespace L2
open PySem PySem.Spec PyProof.Rows
noncomputable def Jmv(i j:Int):Prop:=i.natAbs<=10 ^ 200/\j.natAbs<=10 ^ 200
theorem Jfi{i:Int}(h:i.natAbs<=10 ^ 200):Rc i<=2 ^ 20:=by
 unfold Rc;split
 ·exact Gv _
 ·next hz =>
  have h0:i.natAbs≠0:=fun z=>hz (by simp;omega)
  have h1:i.natAbs.log2<1000:=by rw[Nat.log2_lt h0];exact GQ h (by decide +kernel)
  have:(1000:Nat)<=2 ^ 20:=by decide +kernel
  omega
theorem Jf4{X:Cx}:OpR X (binaryOp .Mult) (rI Jmv fun i j=>.int (i*j)):=opI fun _ _ _ _ _ _ _ hc q=>mul_int q (IntMulOk.of_bits (Jfi hc.1) (Jfi hc.2))
end L2
namespace LE
open PySem L2 LR
noncomputable def VA(a:Int):Bool:=Nat.ble a.natAbs (10 ^ 200)
noncomputable abbrev JfC:=fIc (fun a b=>VA a && VA b) fun a b=>.int (a*b)
section
variable{K:Frag}{C:Addr}
theorem Jjc:OpS K C (rI Jmv fun i j=>.int (i*j)) JfC:=Jhk (fun i j h=>by simp only[QT,VA,Ks] at h;exact h) fun _ _ _=>.int _
theorem Jiu{a b:Int}(h:a.natAbs<=10 ^ 200/\b.natAbs<=10 ^ 200):JfC (.sh (.int a)) (.sh (.int b))=some (.sh (.int (a*b))):=by show(if (VA a && VA b)=true then _ else _)=_;rw[if_pos];rw[QT];exact⟨Ks.mpr h.1,Ks.mpr h.2⟩
end
end LE

namespace LE
open PySem L2 LR
section
variable{K:Frag}{C:Addr}{W:XK}{t:TA}{ev:En->Option (List Sl)}{ts us:TS}{x:Xv}{H:Hp}
end
end LE

namespace PySem
open PySem.Calls PyProof.Rows PyProof.V PySem.Spec
section
variable{prog:Program}{w:World}{A:Around}{E:Value->Shared->Prop}{s:Shared}{r a:Addr}{xs:Array Value}{n:Nat}
end
end PySem
namespace L2
open PySem PySem.Spec PyProof.Rows
end L2
namespace LE
open PySem L2 LR
section
variable{K:Frag}{C:Addr}
end
end LE

namespace L2
open PySem PySem.Spec PyProof.Rows PySem.Calls
section
variable{X:Cx}
end
end L2
namespace L2
open PySem PySem.Spec PyProof.Rows PySem.Calls
section
variable{X:Cx}{es:List Expr}{t:TA}{x:Str}{j:Nat}{p:Pos}
end
end L2

namespace LE
open PySem L2 LR
section
variable{K:Frag}{C:Addr}{te:TE}{ea:Ev}{tl th:TO}{el eh:Option Ev}{m:Bool}
end
end LE

namespace L2
open PySem PySem.Spec PyProof.Rows PySem.Calls
section
variable{X:Cx}
end
end L2
namespace LE
open PySem L2 LR
section
variable{K:Frag}{C:Addr}{to te:TE}{eo ea:Ev}{Hs H0 H:Hp}{v:V}
end
end LE

namespace L2
open PySem PySem.Spec PyProof.Rows PySem.Calls
section
variable{X:Cx}
end
end L2
namespace LE
open PySem L2 LR
section
variable{K:Frag}{C:Addr}
end
end LE

namespace PySem
open AutoSeq1 (wpAny_loadPart')
section
variable{prog:Program}{w:World}{A:Around}{E:Value->Shared->Prop}{s:Shared}
end
section
variable{prog:Program}{w:World}{A:Around}{E:Value->Shared->Prop}{s:Shared}
end
section
variable{prog:Program}{w:World}{A:Around}{E:Value->Shared->Prop}{s:Shared}{b:Bool}{a e it:Addr}{xs:Array Value}
end
end PySem
namespace L2
open PySem PySem.Spec PyProof.Rows
end L2
namespace LE
open PySem L2 LR
section
variable{K:Frag}{C:Addr}{m:Bool}
end
end LE

namespace L2
open PySem PySem.Spec PyProof.Rows PySem.Calls
section
variable{X:Cx}{K:Frag}{e:Expr}{te:TE}{p2 pos:Pos}
end
end L2
namespace LE
open PySem L2 LR
section
variable{K:Frag}{C:Addr}{te:TE}{ea:Ev}
end
end LE

namespace LE
open PySem L2 LR
section
variable{K:Frag}{C:Addr}
end
end LE

namespace L2
open PySem PySem.Spec PyProof.Rows
section
variable{X:Cx}{tg iter elt:Expr}{ifs:List Expr}{sc:Scope}{cl:List (Str×Addr)}{y:Str}{N':List Str}{imp:List (Option Nat)}{pos:Pos}{wi:TI}{g:TG}{tt:TT}{te:TE}
end
end L2

namespace L2
open PySem PySem.W PyProof.Rows
structure LtO (N:Nat) (lt:Nat->Nat->Bool):Prop where
 tot:∀i j,i<N->j<N->i≠j->lt i j=false->lt j i=true
 asy:∀i j,i<N->j<N->lt i j=true->lt j i=false
 tra:∀i j k,i<N->j<N->k<N->lt i j=true->lt j k=true->lt i k=true
structure Pm (p:Array Nat) (N:Nat):Prop where
 size:p.size=N
 low:∀a,a<N->p.getD a 0<N
 inj:∀a b,a<N->b<N->p.getD a 0=p.getD b 0->a=b
theorem JnT{l:List Nat}(nd:l.Nodup){a b:Nat}(h1:a<l.length)(h2:b<l.length)(e:l[a]=l[b]):a=b:=by
 rcases Lq a b with c|c|c
 ·exact absurd e (Gx.mp nd a b h1 h2 c)
 ·exact c
 ·exact absurd e.symm (Gx.mp nd b a h2 h1 c)
theorem Pm.of{p:Array Nat}{N:Nat}(h:p.toList.Perm (Q0 N)):Pm p N:=by
 have hz:p.size=N:=by have:=h.length_eq;simpa using this
 have get:∀a,a<N->p.toList[a]?=some (p.getD a 0):=fun a ha=>by rw[Kf,Array.getElem?_eq_getElem (by omega)];simp[Array.getD,show a<p.size by omega]
 refine⟨hz,fun a ha=>?_,fun a b ha hb e=>?_⟩
 ·have:=h.mem_iff.mp (QF (get a ha))
  simpa using this
 ·have nd:p.toList.Nodup:=h.nodup_iff.mpr List.nodup_range
  have ga:=get a ha
  have gb:=get b hb;rw[e] at ga;obtain⟨h1,e1⟩:=Qn.mp ga;obtain⟨h2,e2⟩:=Qn.mp gb;exact JnT nd h1 h2 (e1.trans e2.symm)
noncomputable def Asc(lt:Nat->Nat->Bool)(p:Array Nat)(m:Nat):Prop:=∀a b,a<b->b<m->lt (p.getD a 0) (p.getD b 0)=true
noncomputable def Dsc(lt:Nat->Nat->Bool)(p:Array Nat)(m:Nat):Prop:=∀a b,a<b->b<m->lt (p.getD b 0) (p.getD a 0)=true
section
variable{N:Nat}{lt:Nat->Nat->Bool}{cmp:Nat->Nat->(Bool->Shared->Prop)->Shared->Prop}{I:Shared->Prop}
noncomputable def Rt(N:Nat)(lt:Nat->Nat->Bool)(I:Shared->Prop)(cmp:Nat->Nat->(Bool->Shared->Prop)->Shared->Prop):Prop:=∀i j (C:Bool->Shared->Prop) s,I s->i<N->j<N->(∀s',I s'->C (lt i j) s')->cmp i j C s
theorem JhU(o:LtO N lt){p:Array Nat}(P:Pm p N){m:Nat}(h1:1<=m)(hm:m<N)(h:Asc lt p m)(e:lt (p.getD m 0) (p.getD (m-1) 0)=false):Asc lt p (m+1):=by
 have last:lt (p.getD (m-1) 0) (p.getD m 0)=true:=o.tot _ _ (P.low m hm) (P.low (m-1) (by omega)) (fun z=>by have:=P.inj m (m-1) hm (by omega) z;omega) e;intro a b ab hb
 by_cases c:b<m
 ·exact h a b ab c
 ·have:b=m:=by omega
  subst this
  by_cases c2:a=b-1
  ·rw[c2];exact last
  ·exact o.tra _ _ _ (P.low a (by omega)) (P.low (b-1) (by omega)) (P.low b hm) (h a (b-1) (by omega) (by omega)) last
theorem Jfa(o:LtO N lt)(R:Rt N lt I cmp){p:Array Nat}(P:Pm p N){Q:Nat->Shared->Prop}:∀(f m:Nat) (s:Shared),I s->1<=m->m+f<=N->Asc lt p m ->
 (∀m' s',I s'->m<=m'->m'<=m+f->Asc lt p m'->(m'=m+f\/lt (p.getD m' 0) (p.getD (m'-1) 0)=true)->Q m' s')->(kas_asc p f m).kasWp cmp Q s
 | 0,m,s,hI,h1,hn,h,q=>q m s hI (Qm _) (Qm _) h (.inl rfl)
 | f+1,m,s,hI,h1,hn,h,q=>by
  refine R _ _ _ s hI (P.low m (by omega)) (P.low (m-1) (by omega)) fun s' hI'=>?_
  cases e:lt (p.getD m 0) (p.getD (m-1) 0) with
  | true=>exact q m s' hI' (Qm _) (by omega) h (.inr e)
  | false=>exact Jfa o R P f (m+1) s' hI' (by omega) (by omega) (JhU o P h1 (by omega) h e) fun m' s'' hI'' a b c d=>q m' s'' hI'' (by omega) (by omega) c (d.imp (fun z=>by omega) id)
theorem Jij(o:LtO N lt){p:Array Nat}(P:Pm p N){m:Nat}(h1:1<=m)(hm:m<N)(h:Dsc lt p m)(e:lt (p.getD m 0) (p.getD (m-1) 0)=true):Dsc lt p (m+1):=by
 intro a b ab hb
 by_cases c:b<m
 ·exact h a b ab c
 ·have:b=m:=by omega
  subst this
  by_cases c2:a=b-1
  ·rw[c2];exact e
  ·exact o.tra _ _ _ (P.low b hm) (P.low (b-1) (by omega)) (P.low a (by omega)) e (h a (b-1) (by omega) (by omega))
theorem Jkn(o:LtO N lt)(R:Rt N lt I cmp){p:Array Nat}(P:Pm p N){Q:Array Nat×Nat×Nat->Shared->Prop}:∀(f m:Nat) (s:Shared),I s->2<=m->m+f<=N->Dsc lt p m ->
 (∀m' s',I s'->2<=m'->m'<=N->Dsc lt p m'->Q (p,m',0) s')->(kas_desc f p m 0).kasWp cmp Q s
 | 0,m,s,hI,h1,hn,h,q=>q m s hI h1 (by omega) h
 | f+1,m,s,hI,h1,hn,h,q=>by
  refine R _ _ _ s hI (P.low m (by omega)) (P.low (m-1) (by omega)) fun s' hI'=>?_
  cases e:lt (p.getD m 0) (p.getD (m-1) 0) with
  | true=>exact Jkn o R P f (m+1) s' hI' (by omega) (by omega) (Jij o P (by omega) (by omega) h e) q
  | false =>
   refine R _ _ _ s' hI' (P.low (m-1) (by omega)) (P.low m (by omega)) fun s2 hI2=>?_
   have d:lt (p.getD (m-1) 0) (p.getD m 0)=true:=o.tot _ _ (P.low m (by omega)) (P.low (m-1) (by omega)) (fun z=>by have:=P.inj m (m-1) (by omega) (by omega) z;omega) e;rw[d];exact q m s2 hI2 h1 (by omega) h
theorem Jk2{p q:Array Nat}{a b:Nat}(h:p[a]?=q[b]?):p.getD a 0=q.getD b 0:=by rw[Gq,Gq,h]
theorem JlZ{p:Array Nat}(P:Pm p N){m:Nat}(hm:m<=N)(h:Dsc lt p m):Asc lt (kas_rev p 0 m) m:=by
 have g:∀k,k<m->(kas_rev p 0 m).getD k 0=p.getD (m-1-k) 0:=fun k hk=>Jk2 (by unfold kas_rev;rw[getElem?_mirror_all (by rw[P.size];exact hm) k];rw[if_pos ⟨by omega,hk⟩];congr 1;omega)
 intro a b ab hb;rw[g a (by omega),g b hb];exact h (m-1-b) (m-1-a) (by omega) (by omega)
theorem Jjo{p:Array Nat}(h:p.toList.Perm (Q0 N))(i j:Nat):(kas_rev p i j).toList.Perm (Q0 N):=((mirror_perm p i j _).toList).trans h
theorem JaI(o:LtO N lt)(R:Rt N lt I cmp){p:Array Nat}(P:Pm p N){k:Nat}(hk:k<N)(h:Asc lt p k){Q:Nat->Shared->Prop}:∀(f l r:Nat) (s:Shared),I s->l<=r->r<=k->r-l<=f->(∀a,a<l->lt (p.getD a 0) (p.getD k 0)=true)->(∀a,r<=a->a<k->lt (p.getD k 0) (p.getD a 0)=true) ->
 (∀l' s',I s'->l'<=k->(∀a,a<l'->lt (p.getD a 0) (p.getD k 0)=true)->(∀a,l'<=a->a<k->lt (p.getD k 0) (p.getD a 0)=true)->Q l' s')->(kas_place p k f l r).kasWp cmp Q s
 | 0,l,r,s,hI,h1,h2,h3,ha,hb,q=>q l s hI (by omega) ha fun a h4 h5=>hb a (by omega) h5
 | f+1,l,r,s,hI,h1,h2,h3,ha,hb,q=>by
  unfold kas_place;split
  ·exact q l s hI (by omega) ha fun a h4 h5=>hb a (by omega) h5
  ·next c =>
   have hmid:(l+r) / 2<r/\l<=(l+r) / 2:=by omega
   refine R _ _ _ s hI (P.low k hk) (P.low _ (by omega)) fun s' hI'=>?_
   cases e:lt (p.getD k 0) (p.getD ((l+r) / 2) 0) with
   | true =>
    refine JaI o R P hk h f l ((l+r) / 2) s' hI' (by omega) (by omega) (by omega) ha (fun a h4 h5=>?_) q
    by_cases z:a=(l+r) / 2
    ·rw[z];exact e
    ·exact o.tra _ _ _ (P.low k hk) (P.low _ (by omega)) (P.low a (by omega)) e (h _ a (by omega) h5)
   | false =>
    have d:lt (p.getD ((l+r) / 2) 0) (p.getD k 0)=true:=o.tot _ _ (P.low k hk) (P.low _ (by omega)) (fun z=>by have:=P.inj k ((l+r) / 2) hk (by omega) z;omega) e;refine JaI o R P hk h f ((l+r) / 2+1) r s' hI' (by omega) (by omega) (by omega) (fun a h4=>?_) hb q
    by_cases z:a=(l+r) / 2
    ·rw[z];exact d
    ·exact o.tra _ _ _ (P.low a (by omega)) (P.low _ (by omega)) (P.low k hk) (h a _ (by omega) (by omega)) d
theorem JlK{p:Array Nat}(P:Pm p N){k l:Nat}(hk:k<N)(hl:l<=k)(h:Asc lt p k)(ha:∀a,a<l->lt (p.getD a 0) (p.getD k 0)=true)(hb:∀a,l<=a->a<k->lt (p.getD k 0) (p.getD a 0)=true):Asc lt (bubble p k (k-l)) (k+1):=by
 have g:∀x,x<k+1->(bubble p k (k-l)).getD x 0=if x=l then p.getD k 0 else if l<x then p.getD (x-1) 0 else p.getD x 0:=fun x hx=>by
  have e:=getElem?_bubble (xs:=p) (src:=k) (by rw[P.size];exact hk) (k-l) (by omega) x;rw[show k-(k-l)=l by omega] at e;rw[Gq,e]
  by_cases c:x=l
  ·rw[if_pos c,if_pos c,<- Gq]
  ·rw[if_neg c,if_neg c]
   by_cases c2:l<x
   ·rw[if_pos ⟨c2,by omega⟩,if_pos c2,<- Gq]
   ·rw[if_neg fun z=>c2 z.1,if_neg c2,<- Gq]
 intro a b ab hb';rw[g a (by omega),g b hb']
 by_cases c1:a=l
 ·rw[if_pos c1,if_neg (by omega),if_pos (by omega)];exact hb (b-1) (by omega) (by omega)
 ·rw[if_neg c1]
  by_cases c2:l<a
  ·rw[if_pos c2,if_neg (by omega),if_pos (by omega)];exact h (a-1) (b-1) (by omega) (by omega)
  ·rw[if_neg c2]
   by_cases c3:b=l
   ·rw[if_pos c3];exact ha a (by omega)
   ·rw[if_neg c3]
    by_cases c4:l<b
    ·rw[if_pos c4];exact h a (b-1) (by omega) (by omega)
    ·rw[if_neg c4];exact h a b ab (by omega)
theorem Jkm(o:LtO N lt)(R:Rt N lt I cmp){Q:Array Nat->Shared->Prop}(q:∀p s,I s->p.toList.Perm (Q0 N)->Asc lt p N->Q p s):∀(f:Nat) (p:Array Nat) (k:Nat) (s:Shared),I s->p.toList.Perm (Q0 N)->k+f=N->Asc lt p k->(kas_bin f p k).kasWp cmp Q s
 | 0,p,k,s,hI,hp,hk,h=>q p s hI hp (by rw[show N=k by omega];exact h)
 | f+1,p,k,s,hI,hp,hk,h=>by
  have P:=Pm.of hp;unfold kas_bin;rw[Ld];refine JaI o R P (by omega) h k 0 k s hI (by omega) (Qm _) (by omega) (fun a ha=>absurd ha (by omega)) (fun a h1 h2=>absurd h2 (by omega)) fun l s' hI' hl ha hb=>?_
  exact Jkm o R q f _ (k+1) s' hI' (((bubble_perm p k _).toList).trans hp) (by omega) (JlK P (by omega) hl h ha hb)
theorem Jmp(o:LtO N lt)(R:Rt N lt I cmp)(h2:2<=N){Q:Array Nat->Shared->Prop}(q:∀p s,I s->p.toList.Perm (Q0 N)->Asc lt p N->Q p s)(s:Shared)(hI:I s):(kas_sort N).kasWp cmp Q s:=by
 have hp0:(GY (Q0 N)).toList.Perm (Q0 N):=List.Perm.refl _
 have P0:=Pm.of hp0
 have one:∀p,Asc lt p 1:=fun p a b h1 h2=>by omega
 have fin:∀(m:Nat) (p:Array Nat) (s:Shared),I s->p.toList.Perm (Q0 N)->1<=m->m<=N->Asc lt p m->(if m<N then kas_bin (N-max m 1) p (max m 1) else KasT.ret p).kasWp cmp Q s:=fun m p s hI hp h1 h3 ha=>by
  split
  ·rw[show max m 1=m by omega];exact Jkm o R q _ p m s hI hp (by omega) ha
  ·exact q p s hI hp (by rw[show N=m by omega];exact ha)
 unfold kas_sort;rw[Ld];unfold kas_count;rw[Ld];refine Jfa o R P0 (N-1) 1 s hI (Qm _) (by omega) (one _) fun m s1 hI1 a b c d=>?_
 split
 ·exact fin m _ s1 hI1 hp0 a (by omega) c
 ·next hne =>
  have hmN:m≠N:=by simpa using hne
  split
  ·next h1 =>
   refine R _ _ _ s1 hI1 (P0.low 0 (by omega)) (P0.low _ (by omega)) fun s2 hI2=>?_
   rw[c 0 (m-1) (by omega) (by omega)];exact fin m _ s2 hI2 hp0 a (by omega) c
  ·next h1 =>
   have m1:m=1:=by omega
   subst m1
   have d2:Dsc lt (GY (Q0 N)) 2:=fun x y h3 h4=>by
    have:x=0/\y=1:=by omega
    rw[this.1,this.2];exact d.resolve_left (by omega)
   unfold kas_descPart;rw[Ld];refine Jkn o R P0 _ 2 s1 hI1 (Qm _) (by omega) d2 fun m' s2 hI2 e1 e2 e3=>?_
   show(kas_tail3 m' N (GY (Q0 N))).kasWp cmp _ s2;unfold kas_tail3;rw[Ld]
   have hp1:=Jjo hp0 0 m';exact Jfa o R (Pm.of hp1) (N-m') m' s2 hI2 (by omega) (by omega) (JlZ P0 e2 e3) fun m2 s3 hI3 f1 f2 f3 _=>fin m2 _ s3 hI3 hp1 (by omega) (by omega) f3
end
end L2

namespace L2
open PySem PySem.W PyProof.Rows
section
variable{prog:Program}{w:World}{A:Around}{E:Value->Shared->Prop}{s:Shared}
theorem JgJ{lt:Nat->Nat->Bool}{p:Array Nat}{N:Nat}(h:N<2):Asc lt p N:=fun a b h1 h2=>by omega
theorem JjZ(vs:List Value):(Q0 vs.length).map (fun i=>vs.getD i Value.none)=vs:=by
 refine Ge fun i=>?_
 rw[Qq]
 by_cases h:i<vs.length
 ·rw[List.getElem?_range h,Le,QI h];simp[h]
 ·rw[GB (by simpa using h),GB (by omega)];rfl
theorem Jms(vs:List Value):((vs.toArray.zip vs.toArray).map (·.2))=vs.toArray:=by
 apply Array.toList_inj.mp
 rw[Array.toList_map,Array.toList_zip];exact List.map_snd_zip (Qm _)
theorem JoI{a:Addr}{vs:List Value}{n:Nat}{P:PySem.Fin->Shared->Prop}{lt:Nat->Nat->Bool}{κ:SortKind}(ho:s.heap.get? a=some (seqObj "list" vs.toArray n))(h64:vs.length<64)(lo:LtO vs.length lt)
 (kk:2<=vs.length->∀h1:Heap,(∀b ob,b≠a->s.heap.get? b=some ob->h1.get? b=some ob)->wpAny (model prog w) A (keyKind' vs.toArray) (fun k s'=>k=κ/\s'={ s with heap:=h1 }) (fun _ _=>False) { s with heap:=h1 })
 (ask:∀h1:Heap,(∀b ob,b≠a->s.heap.get? b=some ob->h1.get? b=some ob)->Rt vs.length lt (·={ s with heap:=h1 }) (kas_ask prog w A κ vs))
 (h:∀p:Array Nat,p.toList.Perm (Q0 vs.length)->Asc lt p vs.length->P (.done (.ret .none)) { s with heap:=sortedHeap s.heap a vs (GY (p.toList.map fun i=>vs.getD i Value.none)) }) :
 wpAny (model prog w) A (Builtin.«list.sort» ⟨[.ref a],[]⟩) P E s:=by
 have lta:a<s.heap.objs.size:=Qj ho
 have room:vs.length<=sizeLine:=by rw[sizeLine_eq];omega
 obtain⟨c,hc⟩:∃c,(s.heap.update a (Kq fun _=>(#[]:Array Value))).get? a=some (seqObj "list" #[] c):=⟨_,get?_update_seq ho fun _=>#[]⟩
 have sb:=G7 s.heap a (Kq fun _=>(#[]:Array Value));rw[list_sort_plain];refine Qa (listItems_at ho rfl ?_);refine Qa (listUpdate_at ho rfl ?_ (by rw[Qp];exact room) (Gv _));refine Qa (seqEpoch_at hc rfl ?_);refine Qa (Mc ?_ room);refine Qa (wpAny_newList ?_ (Gv _));refine GG ?_
 generalize hG:(((s.heap.update a (Kq fun _=>(#[]:Array Value))).push (seqObj "tuple" vs.toArray 0)).push (seqObj "list" #[] 0))=G
 have ga:G.get? a=some (seqObj "list" #[] c):=hG▸Qf _ (Qf _ hc)
 have keep:∀b ob,b≠a->s.heap.get? b=some ob->G.get? b=some ob:=fun b ob hb e=>hG▸Qf _ (Qf _ ((sb.2 b hb).trans e))
 have fin:∀p:Array Nat,p.toList.Perm (Q0 vs.length)->Asc lt p vs.length->P (.done (.ret .none)) { s with heap:=G.update a (Kq fun _=>GY (p.toList.map fun i=>vs.getD i Value.none)) }:=fun p hp ha=>by have z:=h p hp ha;unfold sortedHeap at z;rw[hG] at z;exact z
 dsimp only
 by_cases two:vs.toArray.size<2
 ·have two':vs.length<2:=by simpa using two
  rw[if_pos two,if_pos two];refine Qa (Qg ?_);rw[StateT.run_pure];refine Qa (Qg ?_);dsimp only;refine Qa (seqEpoch_at ga rfl ?_)
  have ea:(arrOf (SortSt.mk' general' (vs.toArray.zip vs.toArray) #[] 7 none)).map (·.2)=GY ((GY (Q0 vs.length)).toList.map fun i=>vs.getD i Value.none):=by show(vs.toArray.zip vs.toArray).map (·.2)=GY ((Q0 vs.length).map fun i=>vs.getD i Value.none);rw[Jms,JjZ]
  rw[ea];refine Qa (listUpdate_at ga rfl ?_ (Gv _) (by simpa using Mr room));simp only[bne_self_eq_false,GF,if_false];exact Qg (fin _ (List.Perm.refl _) (JgJ two'))
 ·have two1:¬vs.length<2:=by simpa using two
  have two':2<=vs.length:=by omega
  rw[if_neg two,if_neg two];refine Qa (KG (kk two' G keep) (fun k s0 hk=>?_) fun _ _ x=>x.elim);obtain⟨rfl,rfl⟩:=hk;have tree:(kas_sort vs.length).kasWp (kas_ask prog w A k vs) (fun p s'=>s'={ s with heap:=G }/\p.toList.Perm (Q0 vs.length)/\Asc lt p vs.length) { s with heap:=G }:=Jmp lo (ask G keep) two' (fun p s' e hp ha=>⟨e,hp,ha⟩) _ rfl;refine Qa (KG (kat_run (ks:=vs) (Q:=fun st' s'=>s'={ s with heap:=G }/\failedOf st'=none/\∃p:Array Nat,(arrOf st').map (·.2)=GY (p.toList.map fun i=>vs.getD i Value.none)/\p.toList.Perm (Q0 vs.length)/\Asc lt p vs.length) rfl two' h64
   (fun p st' s' _ e f g=>⟨g.1,f,p,kat_snds rfl e,g.2⟩) tree) ?_ fun _ _ e=>e)
  rintro⟨⟨⟩,st'⟩ s' ⟨rfl,hf,p,ep,hp,ha⟩;dsimp only;refine Qa (seqEpoch_at ga rfl ?_);rw[ep];refine Qa (listUpdate_at ga rfl ?_ (Gv _) (by
   rw[Qp,Qk,hp.length_eq,Ms];exact Mr room))
  rw[hf];simp only[bne_self_eq_false,GF,if_false];exact Qg (fin p hp ha)
end
end L2

namespace L2
open PySem PySem.W PyProof.Rows
noncomputable abbrev PrI:=Int×Int
noncomputable def UZ(p q:PrI):Bool:=if p.1=q.1 then decide (p.2<q.2) else decide (p.1<q.1)
noncomputable def ltP(ps:List PrI)(i j:Nat):Bool:=UZ (ps.getD i (0,0)) (ps.getD j (0,0))
theorem Jpp{ps:List PrI}(nd:ps.Nodup):LtO ps.length (ltP ps):=by
 have inj:∀i j,i<ps.length->j<ps.length->ps.getD i (0,0)=ps.getD j (0,0)->i=j:=fun i j hi hj e=>by
  have gi:ps.getD i (0,0)=ps[i]:=by simp[hi]
  have gj:ps.getD j (0,0)=ps[j]:=by simp[hj]
  rw[gi,gj] at e;rcases Lq i j with c|c|c
  ·exact absurd e (Gx.mp nd i j hi hj c)
  ·exact c
  ·exact absurd e.symm (Gx.mp nd j i hj hi c)
 refine⟨fun i j hi hj ne e=>?_,fun i j hi hj e=>?_,fun i j k hi hj hk e1 e2=>?_⟩
 ·have d:ps.getD i (0,0)≠ps.getD j (0,0):=fun z=>ne (inj i j hi hj z)
  unfold ltP UZ at e ⊢
  generalize ps.getD i (0,0)=p at *
  generalize ps.getD j (0,0)=q at *
  obtain⟨p1,p2⟩:=p;obtain⟨q1,q2⟩:=q;dsimp only at *
  by_cases c:p1=q1
  ·rw[if_pos c,decide_eq_false_iff_not] at e;rw[if_pos c.symm,decide_eq_true_iff];have:p2≠q2:=fun z=>d (by rw[c,z])
   omega
  ·rw[if_neg c,decide_eq_false_iff_not] at e;rw[if_neg fun z=>c z.symm,decide_eq_true_iff];omega
 ·unfold ltP UZ at e ⊢
  by_cases c:(ps.getD i (0,0)).1=(ps.getD j (0,0)).1
  ·rw[if_pos c,decide_eq_true_iff] at e;rw[if_pos c.symm,decide_eq_false_iff_not];omega
  ·rw[if_neg c,decide_eq_true_iff] at e;rw[if_neg fun z=>c z.symm,decide_eq_false_iff_not];omega
 ·unfold ltP UZ at e1 e2 ⊢
  by_cases c1:(ps.getD i (0,0)).1=(ps.getD j (0,0)).1
  ·rw[if_pos c1,decide_eq_true_iff] at e1
   by_cases c2:(ps.getD j (0,0)).1=(ps.getD k (0,0)).1
   ·rw[if_pos c2,decide_eq_true_iff] at e2;rw[if_pos (c1.trans c2),decide_eq_true_iff];omega
   ·rw[if_neg c2,decide_eq_true_iff] at e2;rw[if_neg (by omega),decide_eq_true_iff];omega
  ·rw[if_neg c1,decide_eq_true_iff] at e1
   by_cases c2:(ps.getD j (0,0)).1=(ps.getD k (0,0)).1
   ·rw[if_pos c2,decide_eq_true_iff] at e2;rw[if_neg (by omega),decide_eq_true_iff];omega
   ·rw[if_neg c2,decide_eq_true_iff] at e2;rw[if_neg (by omega),decide_eq_true_iff];omega
noncomputable def TupP(h:Heap)(v:Value)(p:PrI):Prop:=∃a o n t u,v=.ref a/\h.get? a=some o/\o.cls=.type "tuple"/\o.data=.seq #[.int p.1 t,.int p.2 u] n
noncomputable def Jfd(h:Heap)(vs:List Value)(ps:List PrI):Prop:=vs.length=ps.length/\∀(i:Nat) (v:Value) (p:PrI),vs[i]?=some v->ps[i]?=some p->TupP h v p
section
variable{prog:Program}{w:World}{A:Around}{E:Value->Shared->Prop}{s:Shared}
theorem TupP.off{h h1:Heap}{a:Addr}{vs:Array Value}{n:Nat}{v:Value}{p:PrI}(ho:h.get? a=some (seqObj "list" vs n))(keep:∀b ob,b≠a->h.get? b=some ob->h1.get? b=some ob)(t:TupP h v p):TupP h1 v p:=by obtain⟨b,o,m,t,u,rfl,hb,hc,hd⟩:=t;refine⟨b,o,m,t,u,rfl,keep b o (fun e=>?_) hb,hc,hd⟩;subst e;rw[ho] at hb;cases hb;have z:(Value.type "list":Value)=.type "tuple":=hc;exact absurd z (by decide)
theorem JiO{h:Heap}:∀{vs:List Value} {ps:List PrI},Jfd h vs ps->∃fs,KatTups h vs fs/\fs.length=vs.length/\∀f∈fs,∃i t,f=Value.int i t
 | [],[],_=>⟨[],trivial,rfl,fun f hf=>nomatch hf⟩
 | [],_::_,t=>by cases t.1
 | _::_,[],t=>by cases t.1
 | v::vs,p::ps,t=>by
  obtain⟨fs,k1,k2,k3⟩:=JiO (vs:=vs) (ps:=ps) ⟨by have:=t.1;simpa using this,fun i v p h1 h2=>t.2 (i+1) v p (by simpa using h1) (by simpa using h2)⟩;obtain⟨a,o,n,x,y,rfl,ho,hc,hd⟩:=t.2 0 v p rfl rfl;refine⟨.int p.1 x::fs,KatTups.cons ho hc hd rfl k1,by rw[Qo,k2,Qo],fun f hf=>?_⟩;rcases Qh.mp hf with e|e
  ·exact⟨_,_,e⟩
  ·exact k3 f e
theorem JgK{h1:Heap}{vs:List Value}{ps:List PrI}(t:Jfd h1 vs ps):Rt vs.length (ltP ps) (·={ s with heap:=h1 }) (kas_ask prog w A (tuples' true) vs):=by
 intro i j C s' e hi hj q;subst e;have q:=q _ rfl;have gi:vs.getD i Value.none=vs[i]:=by simp[hi]
 have gj:vs.getD j Value.none=vs[j]:=by simp[hj]
 have li:i<ps.length:=by rw[<- t.1];exact hi
 have lj:j<ps.length:=by rw[<- t.1];exact hj
 obtain⟨a,oa,n,x1,x2,ea,ha,_,da⟩:=t.2 i vs[i] ps[i] (by simp) (by simp);obtain⟨b,ob,m,y1,y2,eb,hb,_,db⟩:=t.2 j vs[j] ps[j] (by simp) (by simp);have ei:ps.getD i (0,0)=ps[i]:=by simp[li]
 have ej:ps.getD j (0,0)=ps[j]:=by simp[lj]
 unfold ltP UZ at q;rw[ei,ej] at q;unfold kas_ask;rw[gi,gj,ea,eb];refine kat_lt (s:={ s with heap:=h1 }) ha da hb db ?_;refine kat_cons (MB ?_)
 by_cases c:ps[i].1=ps[j].1
 ·rw[if_pos c] at q;rw[show(ps[i].1 == ps[j].1)=true by simpa using c];refine kat_yes (kat_cons (MB ?_))
  by_cases d:ps[i].2=ps[j].2
  ·rw[show(ps[i].2 == ps[j].2)=true by simpa using d];refine kat_yes (kat_nil ?_);rw[decide_eq_false (by omega)] at q;exact q
  ·rw[show(ps[i].2 == ps[j].2)=false by simpa using d];exact kat_no (kat_one _ _ (PyProof.Rows.lt_int (show W.BoolBack C (Value.bool (decide (ps[i].snd<ps[j].snd))) _ from q)))
 ·rw[if_neg c] at q;rw[show(ps[i].1 == ps[j].1)=false by simpa using c];exact kat_no (oneLt_int q)
theorem Je3{a:Addr}{vs:List Value}{ps:List PrI}{n:Nat}{P:PySem.Fin->Shared->Prop}(ho:s.heap.get? a=some (seqObj "list" vs.toArray n))(h64:vs.length<64)(t:Jfd s.heap vs ps)(nd:ps.Nodup)
 (h:∀p:Array Nat,p.toList.Perm (Q0 vs.length)->Asc (ltP ps) p vs.length->P (.done (.ret .none)) { s with heap:=sortedHeap s.heap a vs (GY (p.toList.map fun i=>vs.getD i Value.none)) }) :
 wpAny (model prog w) A (Builtin.«list.sort» ⟨[.ref a],[]⟩) P E s:=by
 have tt:∀h1:Heap,(∀b ob,b≠a->s.heap.get? b=some ob->h1.get? b=some ob)->Jfd h1 vs ps:=fun h1 keep=>⟨t.1,fun i v p e1 e2=>TupP.off ho keep (t.2 i v p e1 e2)⟩
 refine JoI (κ:=tuples' true) ho h64 (t.1▸Jpp nd) (fun h2 h1 keep=>?_) (fun h1 keep=>JgK (tt h1 keep)) h;obtain⟨fs,k1,k2,k3⟩:=JiO (tt h1 keep);refine kat_kind (s:={ s with heap:=h1 }) (T:=.type "int") k1 (by omega) (fun v hv=>?_) rfl ⟨rfl,rfl⟩;obtain⟨i,x,rfl⟩:=k3 v hv;exact fun _ _ _ _ _ q=>Qg q
end
end L2

namespace L2
open PySem PySem.Spec PySem.W PyProof.Rows
section
variable{prog:Program}{w:World}{A:Around}{E:Value->Shared->Prop}{s:Shared}
end
section
variable{X:Cx}
end
end L2

namespace L2
open PySem PySem.Spec PySem.W PyProof.Rows
noncomputable def RawD(h:Heap)(d:Addr)(es:Array DictEntry)(ep:Nat):Prop:=∃o,h.get? d=some o/\o.ExactDict/\o.data=.dict es ep
section
variable{prog:Program}{w:World}{A:Around}{E:Value->Shared->Prop}{s:Shared}{it d v:Addr}{i ep:Nat}{es:Array DictEntry}
theorem RawD.at{h h':Heap}(x:RawD h d es ep)(e:∀o,h.get? d=some o->h'.get? d=some o):RawD h' d es ep:=let ⟨o,ho,r⟩:=x;⟨o,e _ ho,r⟩
theorem RawD.lt{h:Heap}(x:RawD h d es ep):d<h.objs.size:=let ⟨_,ho,_⟩:=x;Qj ho
theorem JdH{Q:Option Value->Shared->Prop}(hh:A.handled=none)(hit:s.heap.IsKeyIter it d i es.size ep)(hm:RawD s.heap d es ep)
 (item:∀e h',es[i]?=some e->h'.IsKeyIter it d (i+1) es.size ep->QB it s.heap h'->Q (some e.key) { s with heap:=h' })
 (done:es[i]?=none->∀h',Ll it s.heap h'->Q none { s with heap:=h' }):wpAny (model prog w) A (pyNext (.ref it)) Q E s:=by
 obtain⟨o,ho,hc,hd⟩:=id hit;obtain⟨od,hod,-,hdd⟩:=id hm;have own:LS "dict_keyiterator"=false:=by decide
 unfold pyNext;refine Qa (GN (QK (name:=Gb "__next__") hit.typeIs LU (QS LU hit.typeIs F.entry_dict_keyiterator_next ?_ (F.args_dict_keyiterator_next_1 _))));refine Qa (Qg (Qa (Qa ?_)))
 first|refine Qa (KE hit.typeIs (Qg ?_))|refine Qa (Lb hit.typeIs (Qg ?_))
 refine Qa (wpAny_fieldsOf ho hd ?_);simp only[own,GF,if_false];show wpAny _ _ (if (Value.ref d == Value.none)=true then _ else _) _ _ s;rw[if_neg (show ¬((Value.ref d == Value.none)=true) from Qt)];refine Qa (Qg (Qa (wpAny_dictEntries hod hdd ?_)));rw[if_neg (by simp)];refine Qa (Qg (Qa (wpAny_dictEpoch hod hdd ?_)));rw[if_neg (by simp)];refine Qg ?_;simp only[show ¬((i:Int)<0) from by omega,if_false,KY]
 cases hx:es[i]? with
 | some e =>
  have hit':(s.heap.update it (Obj.mapFields (·.setIfInBounds 1 (rawInt ((i:Int)+1))))).IsKeyIter it d (i+1) es.size ep :=
   ⟨_,GC _ ho (MZ (Lh hd _)),(Obj.cls_mapFields ..).trans hc,by rw[Lh hd];simp[rawInt]⟩
  refine Qa ?_
  first|refine Qa (KE hit.typeIs (Qg ?_))|refine Qa (Lb hit.typeIs (Qg ?_))
  refine Qa (wpAny_isOneOf_keyiter hit.typeIs ?_);show wpAny _ _ (setField (.ref it) 1 (rawInt ((i:Int)+1)) >>= _) _ _ s;refine Qa (Ma ho hd (by simp) (Qa (GG ?_)));refine Qa (wpAny_isOneOf_keyiter (s:={ s with heap:=s.heap.update it (Obj.mapFields (·.setIfInBounds 1 (rawInt ((i:Int)+1)))) }) hit'.typeIs ?_);show wpAny _ _ (pure e.key) _ _ _;exact Qg (Qg ⟨_,rfl,Qg (item e _ hx hit' (G7 ..))⟩)
 | none =>
  refine Qa ?_
  first|refine Qa (KE hit.typeIs (Qg ?_))|refine Qa (Lb hit.typeIs (Qg ?_))
  show wpAny _ _ (setField (.ref it) 0 .none >>= _) _ _ s;refine Qa (Ma ho hd (by simp) ?_)
  show wpAny _ _ (newExc (.type "StopIteration") [] >>= _) _ _ _;refine Qa ?_;simp only[newExc,newTuple];refine Qa (Q3 ?_ (by size_fits));refine Qa (m:=firstArgMember _ _) (Kl (a:=Value.none) (by first | rfl | (simp only[firstArgMember];rfl)) ?_);refine Q3 ?_ (by size_fits);simp only[raiseNew];refine Qa (wpAny_handled ?_);rw[show A.in1.handled=none from hh];refine Qa (Qg (wpAny_throw ?_))
  refine Qa (G9 (T:="StopIteration") (b:=true) ⟨_,Qi _ rfl,rfl⟩ K1 ?_);exact Qg (done hx _ (((G7 ..).extBut.push _).push _))
theorem JjL(hh:A.handled=none)(I d:Addr)(hne:d≠I)(es:Array DictEntry)(ep:Nat) :
 Walks prog w A I [I,d] [I] es.size (fun i v=>∃e,es[i]?=some e/\e.key=v) (fun i h=>h.IsKeyIter I d i es.size ep/\RawD h d es ep) where
 sub:=fun b hb=>by simp at hb;simp[hb]
 frame:=fun _ _ _ st hk=>⟨st.1.at fun o e=>hk I (by simp) o e,st.2.at fun o e=>hk d (by simp) o e⟩
 item:=fun i s Q E hi st hQ=>by refine JdH hh st.1 st.2 (fun e h' he hit' hs'=>?_) (fun e=>absurd (Array.getElem?_eq_none_iff.mp e) (by omega));exact hQ e.key h' s.toks ⟨e,he,rfl⟩ ⟨hit',st.2.at fun o x=>hs'.extBut d o hne x⟩ fun b o hb x=>hs'.extBut b o (fun h=>hb (by simp[h])) x
 done:=fun s Q E st hQ=>JdH hh st.1 st.2 (fun e h' he _ _=>by have:=(Array.getElem?_eq_some_iff.mp he).1;omega) fun _ h' he'=>hQ h' s.toks fun b o hb e=>he' b o (fun h=>hb (by simp[h])) e
 self:=fun _ _ _ _ st hQ=>wpAny_pyIter_keyiter st.1 hQ
theorem JjK{Q:Value->Shared->Prop}(hv:KdlKeysView s.heap v d)(hm:RawD s.heap d es ep)
 (hQ:Q (.ref s.heap.objs.size) { s with heap:=s.heap.push { cls:=.type "dict_keyiterator",data:=.fields #[.ref d,.int 0 0,.int es.size 0,.int ep 0] } }) :
 wpAny (model prog w) A (pyIter (.ref v)) Q E s:=by
 obtain⟨ov,hov,hcv,hdv⟩:=id hv;obtain⟨o,ho,hc,hdat⟩:=id hm;have own:LS "dict_keyiterator"=false:=by decide
 refine wpAny_pyIter_slot hv.typeIs kdl_slot_keys_iter (QS kdl_slot_keys_iter hv.typeIs kdl_entry_keys_iter ?_ (kdl_args_keys_iter _));unfold Builtin.«dict_keys.__iter__»;refine Qa (Qg (Qa ?_));unfold Builtin.Dict_items.dictOf;refine Qa (QN hov hdv (x:=.ref d) rfl (Qg (Qa ?_)));unfold Builtin.Dict_items.newIterator;refine Qa (wpAny_dictEntries ho hdat (Qa (wpAny_dictEpoch ho hdat ?_)));simp only[own,GF,if_false]
 refine Q3 (Qg ⟨_,rfl,"dict_keyiterator",_,⟨_,Qi _ rfl,rfl⟩,PySem.F.slot_dict_keyiterator_next.lookup,?_⟩)
 simpa [rawInt] using hQ
theorem JlN{r:Addr}:KdlSrc prog w "dict_keys" r d es.size (fun i v=>∃e,es[i]?=some e/\e.key=v) (fun h=>KdlKeysView h r d/\RawD h d es ep) where
 type:=fun _ hm=>hm.1.typeIs
 there:=fun _ hm=>⟨let ⟨_,ho,_⟩:=hm.1;Qj ho,hm.2.lt⟩
 keep:=fun _ _ hm hk=>⟨let ⟨o,ho,x⟩:=hm.1;⟨o,hk r (.inl rfl) o ho,x⟩,hm.2.at fun o e=>hk d (.inr rfl) o e⟩
 notList:=by decide
 notTuple:=by decide
 hint:=fun _ _ _ _ hm hq=>kdl_hint_keys hm.1.typeIs hq
 iter:=fun _ s hh hm=>⟨_,_,(fun _ _ hq=>JjK hm.1 hm.2 hq),JjL hh _ d (QA hm.2.lt) es ep,⟨⟨_,Qi _ rfl,rfl,rfl⟩,hm.2.at fun o e=>Qf _ e⟩⟩
end
end L2

namespace L2
open PySem PySem.Spec PySem.W PyProof.Rows
noncomputable def Jg5(p:PrI):List PrI->List PrI
 | []=>[p]
 | q::l=>if UZ q p=true then q::Jg5 p l else p::q::l
noncomputable def JaR:List PrI->List PrI
 | []=>[]
 | p::l=>Jg5 p (JaR l)
theorem WS(p:PrI):∀l,(Jg5 p l).Perm (p::l)
 | []=>.refl _
 | q::l=>by
  unfold Jg5;split
  ·exact((WS p l).cons q).trans (List.Perm.swap p q l)
  ·exact .refl _
theorem YJ:∀l,(JaR l).Perm l
 | []=>.refl _
 | p::l=>(WS p _).trans ((YJ l).cons p)
theorem VC(a b:PrI):UZ a b=true↔a.1<b.1\/(a.1=b.1/\a.2<b.2):=by
 unfold UZ
 by_cases e:a.1=b.1
 ·rw[if_pos e,decide_eq_true_iff];exact⟨fun h=>.inr ⟨e,h⟩,fun h=>h.elim (fun x=>by omega) fun x=>x.2⟩
 ·rw[if_neg e,decide_eq_true_iff];exact⟨fun h=>.inl h,fun h=>h.elim id fun x=>absurd x.1 e⟩
theorem Jae{a b c:PrI}(h:UZ a b=true)(k:UZ b c=true):UZ a c=true:=by rw[VC] at *;omega
theorem JiR(a:PrI):UZ a a=false:=by
 cases h:UZ a a with
 | false=>rfl
 | true=>rw[VC] at h;omega
theorem JiS{a b:PrI}(h:UZ a b=false)(ne:a≠b):UZ b a=true:=by
 have n1:¬(a.1<b.1\/(a.1=b.1/\a.2<b.2)):=fun x=>by rw[(VC a b).mpr x] at h;cases h
 have n2:¬(a.1=b.1/\a.2=b.2):=fun x=>ne (KO x.1 x.2)
 rw[VC];omega
theorem Jc7(p:PrI):∀l:List PrI,p∉l->l.Pairwise (fun a b=>UZ a b=true)->(Jg5 p l).Pairwise (fun a b=>UZ a b=true)
 | [],_,_=>MJ _ _
 | q::l,nm,h=>by
  unfold Jg5;have hq:=Qw.mp h;split
  ·rename_i c;refine Qw.mpr ⟨fun x hx=>?_,Jc7 p l (fun m=>nm (Qc _ m)) hq.2⟩;rcases Qh.mp ((WS p l).mem_iff.mp hx) with e|e
   ·rw[e];exact c
   ·exact hq.1 x e
  ·rename_i c;have pq:UZ p q=true:=JiS (by simpa using c) (fun e=>nm (e▸Qd));refine Qw.mpr ⟨fun x hx=>?_,h⟩;rcases Qh.mp hx with e|e
   ·rw[e];exact pq
   ·exact Jae pq (hq.1 x e)
theorem JaA:∀l:List PrI,l.Nodup->(JaR l).Pairwise (fun a b=>UZ a b=true)
 | [],_=>List.Pairwise.nil
 | p::l,nd=>Jc7 p _ (fun m=>(QP.mp nd).1 ((YJ l).mem_iff.mp m)) (JaA l (QP.mp nd).2)
theorem JcH:∀{a b:List PrI},a.Perm b->a.Pairwise (fun a b=>UZ a b=true)->b.Pairwise (fun a b=>UZ a b=true)->a=b
 | [],b,h,_,_=>(List.nil_perm.mp h).symm
 | x::a,[],h,_,_=>absurd h.length_eq (by simp)
 | x::a,y::b,h,ha,hb=>by
  have hx:=Qw.mp ha
  have hy:=Qw.mp hb
  have e:x=y:=by
   rcases Qh.mp (h.mem_iff.mp Qd) with e|e
   ·exact e
   ·rcases Qh.mp (h.mem_iff.mpr Qd) with e'|e'
    ·exact e'.symm
    ·have:=Jae (hx.1 y e') (hy.1 x e);rw[JiR] at this;cases this
  subst e;rw[JcH (Rj h) hx.2 hy.2]
noncomputable abbrev pk(p:PrI):List Key:=LE.dtK p
theorem Joe{p q:PrI}(h:pk p=pk q):p=q:=by unfold pk LE.dtK at h;simp at h;exact KO h.1 h.2
noncomputable def Jj8(td:TE):TE:=fun σ H Q=>td σ H fun x H1=>∃a,x=.ref a/\IsD H1 a/\∀p,H1 p=none->Q (.ref p) (upd H1 p (Zj p a))
theorem Jjn{X:Cx}{d:Expr}{td:TE}{apos pos:Pos}(hd:PE X d td)(hbase:attributeBase d "keys" X.env (eval d X.env)=eval d X.env:=by rfl)(hline:(apos.endLine == pos.line)=true:=by rfl)
:PE X (.Call (.Attribute d "keys" apos) [] [] pos) (Jj8 td):=by
 intro pins s σ H Q I h;refine Kx hbase hline (thn (hd pins s σ H _ I h) fun v s1 ⟨x,H1,I1,r1,a,ex,hD,q⟩=>?_);subst ex;cases r1;obtain⟨t1,t2,y⟩:=Z9 I1 hD;refine⟨"dict","dict.keys",G2,MS,PySem.F.type_dict_keys,t1,t2,GI rfl (K8 ?_)⟩;refine QS MS t1 PySem.F.entry_dict_keys ?_ (PySem.F.args_dict_keys_1 _);have hn:H1 s1.heap.objs.size=none:=I1.hok.fresh (Qm _)
 have vw:KdlKeysView (s1.heap.push { cls:=.type "dict_keys",data:=.fields #[.ref a] }) s1.heap.objs.size a:=⟨_,Qi _ rfl,rfl,rfl⟩
 show wpAny _ _ (Re _ _ >>= _) _ _ s1;refine Qa ?_;unfold Re;refine Qa (wpAny_notOrdered_dict t1 (Qg ?_))
 show wpAny _ _ (M3 a >>= _) _ _ s1;unfold M3;rw[if_neg (by rw[y];exact Qt)];refine Qa (Qg (Qa (Q3 (Qg ⟨_,rfl,?_⟩))));refine⟨.ref s1.heap.objs.size,_,I1.laid (t':=s1.toks) (o:=Zj s1.heap.objs.size a) (fun b ob q=>Qf _ q) (Qm _) ⟨vw,⟨_,Qi _ rfl⟩,fun h1 h2 p k=>?_⟩,rfl,q _ hn⟩;obtain⟨o,ho,hc⟩:=p;exact⟨o,k o ho,hc⟩
theorem JhV{ps:List PrI}{p:List Nat}(hp:p.Perm (Q0 ps.length))(ha:∀a b,a<b->b<ps.length->ltP ps (p.getD a 0) (p.getD b 0)=true)(nd:ps.Nodup):(p.map fun i=>ps.getD i (0,0))=JaR ps:=by
 have hl:p.length=ps.length:=by rw[hp.length_eq,Ms]
 refine JcH ?_ ?_ (JaA ps nd)
 ·refine(hp.map _).trans (List.Perm.trans (.of_eq ?_) (YJ ps).symm);refine List.ext_getElem (by simp) fun i h1 h2=>?_
  simp[QU,h2]
 ·refine Gx.mpr fun i j hi hj hij=>?_
  have hj':j<ps.length:=by rw[Qk] at hj;omega
  have:=ha i j hij hj';unfold ltP at this
  have g:∀k,(h:k<p.length)->p.getD k 0=p[k]:=fun k h=>by simp[QU,h]
  rw[g i (by omega),g j (by omega)] at this
  simpa using this
noncomputable def Jgc:List V->Hp->VK->Prop:=fun xs H Q=>∃r a ps vs,xs=[.ref r]/\H r=some (Zj r a)/\Rd H a (LE.dtO ps vs)/\ps.length=vs.length/\ps.length<64 ∧
 (ps.Nodup->∀l (bs:List Addr),H l=none->bs.length=ps.length->(∀(i:Nat) (b:Addr) (p:PrI),bs[i]?=some b->(JaR ps)[i]?=some p->H b=some (.tup [.int p.1,.int p.2]))->Q (.ref l) (upd H l (.lst (bs.map V.ref))))
theorem KT.get{H:Hp}:∀{kvs:List (List Key×V)} {xs:List (List Key×Addr×Value)},KT H kvs xs->kvs.length=xs.length/\∀(i:Nat) (k:List Key×V) (x:List Key×Addr×Value),kvs[i]?=some k->xs[i]?=some x->k.1=x.1/\H x.2.1=some (.tup (k.1.map kV))
 | _,_,.nil=>⟨rfl,fun i k x e=>by simp at e⟩
 | _,_,.cons h t=>by
  obtain⟨h1,h2⟩:=KT.get t;refine⟨by simp[h1],fun i k x e1 e2=>?_⟩
  cases i with
  | zero=>simp at e1 e2;subst e1 e2;exact⟨h.1,h.2.1⟩
  | succ i=>exact h2 i k x (by simpa using e1) (by simpa using e2)
theorem JcN{X:Cx}(hc:X.calm=true):YS X (.builtin "sorted") Jgc:=by
 intro pins s σ H xs us Q I r h;obtain⟨p,a,ps,vs0,rfl,ds,hq,hlk,h64,q⟩:=h;obtain⟨u,rfl,rx⟩:=WH r;cases rx;have vw:KdlKeysView s.heap p a:=(show ObjOk X.prog X.w H s.heap p (Zj p a) from I.hok p _ ds).1;obtain⟨z,y,ys,kt,o,es,ep,ho,hex,hdat,hes,_,hnd⟩:=ZQ I.hok hq;obtain⟨kl,kg⟩:=KT.get kt;have hps:((ps.map pk).zip vs0).length=ps.length:=by rw[Gh,Qk,<- hlk,KJ]
 have hyl:ys.length=ps.length:=by rw[<- kl,hps]
 have hsz:es.size=ps.length:=by rw[<- Gs,hes,Qk,hyl]
 have hh:X.A.in1.handled=none:=I.ok.hd hc
 have yk:∀(i:Nat) (x:List Key×Addr×Value) (p:PrI),ys[i]?=some x->ps[i]?=some p->x.1=pk p/\H x.2.1=some (.tup [.int p.1,.int p.2]):=fun i x p e1 e2=>by
  have hi:i<ps.length:=(Qn.mp e2).1
  have e3:((ps.map pk).zip vs0)[i]?=some (pk p,vs0[i]):=by rw[K6];exact⟨by rw[Qq,e2];rfl,by simp[hlk▸hi]⟩
  obtain⟨g1,g2⟩:=kg i _ x e3 e1;exact⟨g1.symm,g2⟩
 have nd:ps.Nodup:=by
  have e:ys.map (·.1)=ps.map pk:=by
   refine Ge fun i=>?_
   rw[Qq,Qq]
   by_cases hi:i<ps.length
   ·have h1:ys[i]?=some ys[i]:=QI (by omega)
    have h2:ps[i]?=some ps[i]:=QI hi;rw[h1,h2];exact congrArg some (yk i _ _ h1 h2).1
   ·rw[GB (by omega),GB (by omega)];rfl
  rw[e] at hnd;exact List.Pairwise.of_map pk (fun a b h e=>h (congrArg pk e)) hnd
 refine Calls.call_function_entry kind_sorted plain_sorted entry_sorted (args_sorted1 _) ?_;unfold Builtin.«sorted»;refine Qa (m:=checkCount "sorted" 1 1 _) (Qg ?_);refine Qa (JcR (JlN (d:=a) (es:=es) (ep:=ep)) hh ⟨vw,o,ho,hex,hdat⟩ (by rw[hsz,sizeLine_eq];omega) fun h' tk acc hk hsz' items=>?_);have hal:acc.toList.length=ps.length:=by rw[Gs,items.1,hsz]
 have keyAt:∀(i:Nat) (v:Value),acc.toList[i]?=some v->∃x,ys[i]?=some x/\v=.ref x.2.1:=fun i v e=>by
  obtain⟨en,e1,e2⟩:=items.2 i v (by rw[<- Kf];exact e);rw[entry_at hes i] at e1
  cases hy:ys[i]? with
  | none=>rw[hy] at e1;cases e1
  | some x=>rw[hy] at e1;cases e1;exact⟨x,rfl,e2.symm⟩
 refine Qa (wpAny_newList ?_ (by rw[hal,sizeLine_eq];omega));have hoL:(h'.push (seqObj "list" acc.toList.toArray 0)).get? h'.objs.size=some (seqObj "list" acc.toList.toArray 0):=Qi _ rfl;refine Qa (GG (QS slot_list_sort ⟨_,hoL,rfl⟩ entry_list_sort (Je3 (ps:=ps) hoL (by rw[hal];exact h64) ⟨hal,fun i v p e1 e2=>?_⟩ nd fun p hp ha=>⟨_,rfl,?_⟩) (args_list_sort _)))
 ·obtain⟨x,ex,rfl⟩:=keyAt i v e1;obtain⟨_,g2⟩:=yk i x p ex e2;obtain⟨_,its,r2,o2,ho2,hc2,n2,hd2⟩:=(show ObjOk X.prog X.w H s.heap x.2.1 (.tup [.int p.1,.int p.2]) from I.hok _ _ g2)
  cases r2 with
  | cons x1 r3=>cases r3 with
   | cons x2 r4=>cases r4;obtain⟨t1,rfl⟩:=x1;obtain⟨t2,rfl⟩:=x2;exact⟨_,o2,n2,t1,t2,rfl,Qf _ (hk _ _ ho2),hc2,hd2⟩
 ·refine Qg ⟨_,rfl,?_⟩;have perm:p.toList.Perm (Q0 ps.length):=by rw[<- hal];exact hp
  have asc:∀a b,a<b->b<ps.length->ltP ps (p.toList.getD a 0) (p.toList.getD b 0)=true:=fun x y hxy hy=>by
   have:=ha x y hxy (by rw[hal];exact hy)
   have g:∀i,p.toList.getD i 0=p.getD i 0:=fun i=>by rw[QU,Gq,Kf]
   rw[g,g];exact this
  have es2:=JhV perm asc nd;obtain⟨e,he⟩:=sortedHeap_at (out:=GY (p.toList.map fun i=>acc.toList.getD i Value.none)) hoL
  have hle:s.heap.objs.size<=h'.objs.size:=GO hsz'
  have hne:H h'.objs.size=none:=I.hok.fresh hle
  have pl:p.toList.length=ps.length:=by rw[perm.length_eq,Ms]
  let bs:List Addr:=p.toList.map fun i=>((ys[i]?).map fun x=>x.2.1).getD 0
  have bl:bs.length=ps.length:=by rw[Qk,pl]
  have low:∀i∈p.toList,i<ps.length:=fun i hi=>by simpa using perm.mem_iff.mp hi
  have rel:Vals (bs.map V.ref) (p.toList.map fun i=>acc.toList.getD i Value.none):=by
   have:∀l:List Nat,(∀i∈l,i<ps.length)->Vals ((l.map fun i=>((ys[i]?).map fun x=>x.2.1).getD 0).map V.ref) (l.map fun i=>acc.toList.getD i Value.none):=by
    intro l hl
    induction l with
    | nil=>exact .nil
    | cons i l ih=>refine .cons ?_ (ih fun j hj=>hl j (Qc _ hj));have hi:=hl i Qd;have ea:acc.toList[i]?=some acc.toList[i]:=QI (by omega);obtain⟨x,ex,ev⟩:=keyAt i _ ea;show RelV (V.ref (((ys[i]?).map fun x=>x.2.1).getD 0)) (acc.toList.getD i Value.none);rw[QU,ea,ex,ev];rfl
   exact this _ low
  refine⟨.ref h'.objs.size,_,I.laid (t':=tk) (fun b o x=>?_) hle (show ObjOk X.prog X.w _ _ _ (.lst (bs.map V.ref)) from⟨by rw[Qk,bl,sizeLine_eq];omega,_,e,rel,?_⟩),rfl,q nd _ bs hne bl fun i b pp e1 e2=>?_⟩
  ·have hx:=hk b o x
   have hlt:b<h'.objs.size:=Qj hx;rw[sortedHeap_old (QA hlt) (by rw[size_push'];exact Mp hlt)];exact Qf _ hx
  ·rw[he]
  ·rw[<- es2,Qq] at e2;rw[Qq] at e1
   cases hpi:p.toList[i]? with
   | none=>rw[hpi] at e1;cases e1
   | some j=>rw[hpi] at e1 e2;have hj:=low j (QF hpi);have y1:ys[j]?=some ys[j]:=QI (by omega);have p1:ps[j]?=some ps[j]:=QI hj;simp[QU,y1,p1] at e1 e2;subst e1 e2;exact(yk j _ _ y1 p1).2
end L2

namespace L2
open PySem PySem.Spec PySem.W PyProof.Rows
noncomputable def Je6(td ty:TE)(K:Frag):TE:=fun σ H Q=>td σ H fun x H1=>ty σ H1 fun y H2=>∃a b kvs k v,x=.ref a/\y=.ref b/\Rd H2 a (.dT kvs)/\SqT K H2 b (k.map kV)/\U1 kvs k=some v/\Q v H2
theorem Jjk{X:Cx}{o i:Expr}{pos:Pos}{td ty:TE}(hu:X.A.units+1<cLine)(ho:PE X o td)(hi:PE X i ty)(hs:Jkr i):PE X (.Subscript o i pos) (Je6 td ty X.K):=by
 intro pins s σ H Q I h;refine Jgk Ml.lookup hs (thn (ho pins s σ H _ I h) fun u s1 ⟨x,H1,I1,rx,q1⟩=>thn (hi pins s1 σ H1 _ I1 q1) fun iv s2 ⟨y,H2,I2,ry,a,b,kvs,k,v,ex,ey,e,eb,l,q2⟩=>?_);subst ex ey;obtain rfl:u=Value.ref a:=rx;obtain rfl:iv=Value.ref b:=ry;obtain⟨z,hd,xs,rel,dd⟩:=ZQ I2.hok e;refine⟨dd.typeIs,?_⟩;obtain⟨w',hw,rw'⟩:=RelO.some_of (v:=v) (o:=(atKey xs k).map (·.2)) (by rw[<- l];exact rel.val k)
 obtain⟨p,hp,hp2⟩:=Gj.mp hw;obtain⟨its,r,⟨ob,h1,h2,n,h3⟩,_⟩:=I2.tuple eb;refine wpAny_getItem_heap (tupleKind_room_in1 hu) ⟨ob,its.toArray,n,h1,h2,h3,by simpa using WT r⟩ dd hp ?_;rw[hp2];exact⟨v,H2,I2.tok _,rw',q2⟩
theorem Jhr{X:Cx}{K:Frag}{o i:Expr}{pos:Pos}{td ty:TE}(hK:X.K=K)(hu:X.A.units+1<cLine)(ho:PE X o td)(hi:PE X i ty)(hs:Jkr i):PE X (.Subscript o i pos) (Je6 td ty K):=by subst hK;exact Jjk hu ho hi hs
end L2
namespace LE
open PySem L2 LR
noncomputable def lookP{α:Type}:List (Int×Int)->List α->Int×Int->Option α
 | k::ks,d::ds,n=>if k=n then some d else lookP ks ds n
 | _,_,_=>none
noncomputable def ZY(ks:List (Int×Int))(n:Int×Int):Bool:=ks.any fun k=>decide (k=n)
noncomputable def U6(ks:List (Int×Int))(n:Int×Int):List (Int×Int):=if ZY ks n=true then ks else ks++[n]
noncomputable def setP{α:Type}:List (Int×Int)->List α->Int×Int->α->List α
 | k::ks,d::ds,n,v=>(if k=n then v else d)::setP ks ds n v
 | _,ds,_,_=>ds
noncomputable def putDP{α:Type}(ks:List (Int×Int))(ds:List α)(n:Int×Int)(v:α):List α:=if ZY ks n=true then setP ks ds n v else ds++[v]
theorem JdR{α:Type}:∀(ks:List (Int×Int)) (ds:List α) (n:Int×Int) (v:α),(setP ks ds n v).length=ds.length
 | [],_,_,_=>rfl
 | _::_,[],_,_=>rfl
 | _::ks,_::ds,n,v=>by simp[setP,JdR ks ds n v]
theorem Jbn{α:Type}(ks:List (Int×Int))(ds:List α)(n:Int×Int)(v:α)(h:ks.length=ds.length):(U6 ks n).length=(putDP ks ds n v).length:=by unfold U6 putDP;split <;> simp[JdR,h]
theorem JbJ{p q:Int×Int}(h:dtK p=dtK q):p=q:=Joe h
theorem We:∀(ks:List (Int×Int)) (xs:List V) (n:Int×Int),U1 ((ks.map dtK).zip xs) (dtK n)=lookP ks xs n
 | [],_,_=>rfl
 | _::_,[],_=>rfl
 | k::ks,x::xs,n=>by
  show U1 ((dtK k,x)::(ks.map dtK).zip xs) (dtK n)=_
  by_cases h:k=n
  ·rw[VI (by rw[h]),lookP,if_pos h]
  ·rw[VH (fun e=>h (JbJ e)),lookP,if_neg h];exact We ks xs n
theorem JcG:∀(ks:List (Int×Int)) (xs:List V) (n:Int×Int),ks.length=xs.length->(((ks.map dtK).zip xs).any fun kv=>decide (kv.1=dtK n))=ZY ks n
 | [],_,_,_=>rfl
 | _::_,[],_,h=>by simp at h
 | k::ks,x::xs,n,h=>by
  show(decide (dtK k=dtK n) || ((ks.map dtK).zip xs).any fun kv=>decide (kv.1=dtK n))=(decide (k=n) || ZY ks n)
  rw[JcG ks xs n (by simpa using h)];congr 1
  by_cases e:k=n
  ·simp[e]
  ·rw[decide_eq_false e,decide_eq_false fun z=>e (JbJ z)]
theorem Jdj:∀(ks:List (Int×Int)) (xs:List V) (n:Int×Int) (v:V),ks.length=xs.length->((ks.map dtK).zip xs).map (fun kv=>if kv.1=dtK n then(kv.1,v) else kv)=(ks.map dtK).zip (setP ks xs n v)
 | [],_,_,_,_=>rfl
 | _::_,[],_,_,h=>by simp at h
 | k::ks,x::xs,n,v,h=>by
  show(if dtK k=dtK n then(dtK k,v) else(dtK k,x))::((ks.map dtK).zip xs).map _=(dtK k,if k=n then v else x)::(ks.map dtK).zip (setP ks xs n v);rw[Jdj ks xs n v (by simpa using h)];congr 1
  by_cases e:k=n
  ·rw[if_pos (by rw[e]),if_pos e]
  ·rw[if_neg (fun z=>e (JbJ z)),if_neg e]
theorem Jhx(ks:List (Int×Int))(xs:List V)(n:Int×Int)(v:V)(h:ks.length=xs.length):(HO.dT (Vf ((ks.map dtK).zip xs) (dtK n) v))=dtO (U6 ks n) (putDP ks xs n v):=by
 unfold dtO Vf U6 putDP;rw[JcG ks xs n h];split
 ·rw[Jdj ks xs n v h]
 ·rw[Qz,LM (by simpa using h)];rfl
section
variable{K:Frag}{C:Addr}{Hs H0 H:Hp}
theorem RDL.lookP:∀{ks:List (Int×Int)} {xs:List V} {ds:List D} {n:Int×Int},RDL K C H xs ds->(LE.lookP ks xs n=none/\LE.lookP ks ds n=none)\/∃x d,LE.lookP ks xs n=some x/\LE.lookP ks ds n=some d/\RD K C H x d
 | [],_,_,_,_=>.inl ⟨rfl,rfl⟩
 | _::_,[],[],_,_=>.inl ⟨rfl,rfl⟩
 | _::_,[],_::_,_,h=>by have:=h.1;simp at this
 | _::_,_::_,[],_,h=>by have:=h.1;simp at this
 | k::ks,x::xs,d::ds,n,h=>by
  simp only[LE.lookP]
  by_cases e:k=n
  ·rw[if_pos e,if_pos e];exact .inr ⟨x,d,rfl,rfl,h.head⟩
  ·rw[if_neg e,if_neg e];exact RDL.lookP h.tail
theorem RDL.setP{n:Int×Int}{v:V}{e:D}(r:RD K C H v e):∀{ks:List (Int×Int)} {xs:List V} {ds:List D},RDL K C H xs ds->RDL K C H (LE.setP ks xs n v) (LE.setP ks ds n e)
 | [],_,_,h=>h
 | _::_,[],[],h=>h
 | _::_,[],_::_,h=>by have:=h.1;simp at this
 | _::_,_::_,[],h=>by have:=h.1;simp at this
 | k::ks,x::xs,d::ds,h=>by
  simp only[LE.setP];refine .cons ?_ (RDL.setP r h.tail);split
  ·exact r
  ·exact h.head
theorem RDL.putDP{n:Int×Int}{v:V}{e:D}{ks:List (Int×Int)}{xs:List V}{ds:List D}(h:RDL K C H xs ds)(r:RD K C H v e):RDL K C H (LE.putDP ks xs n v) (LE.putDP ks ds n e):=by
 unfold LE.putDP;split
 ·exact RDL.setP r h
 ·exact h.snoc r
end
noncomputable def Sl.dt:Sl->Option (List (Int×Int)×List D)
 | .bt ks ds=>some (ks,ds)
 | .ot ks ds=>some (ks,ds)
 | _=>none
noncomputable def pr?:Sl->Option (Int×Int)
 | .sh (.tup [.int a,.int b])=>some (a,b)
 | _=>none
noncomputable def Jei:Ev:=fun _=>some (.ot [] [])
noncomputable def Jng(a k:Ev):Ev:=fun E=>(a E).bind fun s=>s.dt.bind fun p=>((k E).bind pr?).bind fun n=>(lookP p.1 p.2 n).map .sh
noncomputable def Jek(a:Ev):Ev:=fun E=>(a E).bind fun s=>s.dt.bind fun p=>if p.1.length<64 then some (.own ((JaR p.1).map prE)) else none
section
variable{K:Frag}{C:Addr}{Hs H0 H:Hp}{td ty te tk1 tk2:TE}{ed ek ea k1 k2:Ev}
theorem RR.dt{v:V}{s:Sl}{p:List (Int×Int)×List D}(r:RR K C Hs H0 H v s)(e:s.dt=some p):∃l xs,v=.ref l/\H l=some (dtO p.1 xs)/\p.1.length=p.2.length/\RDL K C H0 xs p.2:=by
 cases s with
 | bt ks ds=>cases e;exact r
 | ot ks ds=>cases e;obtain⟨l,xs,h1,h2,_,_,h3⟩:=r;exact⟨l,xs,h1,h2,h3⟩
 | _=>cases e
theorem JlG{s:Sl}{n:Int×Int}(e:pr? s=some n):s=.sh (prE n):=by
 unfold pr? at e;split at e
 ·cases e;rfl
 ·cases e
theorem Jl5:SE K C Jj6 Jei:=by intro B H0 H σ E r Q I e q;cases e;intro p hp;exact q _ H0 _ ⟨.new hp,Same.refl _,fun _ _ e=>.inl e,I.h.trans (.new hp)⟩ ⟨p,[],rfl,Js,Same.free I.h hp,hp,rfl,.nil⟩
theorem RD.prI{v:V}{n:Int×Int}(r:RD K C H v (prE n)):∃a,v=.ref a/\SqT K H a ((dtK n).map kV):=by obtain⟨a,xs,e,h,rl⟩:=RD.tupI r;have:xs=[V.int n.1,V.int n.2]:=RDL.ints (ns:=[n.1,n.2]) rl;subst this;exact⟨a,e,h⟩
theorem Jp1(ha:SE K C td ed)(hk:SE K C ty ek):SE K C (Je6 td ty K) (Jng ed ek):=by
 intro B H0 H σ E r Q I e q;obtain⟨s,e1,e⟩:=bind_some e;obtain⟨p,e2,e⟩:=bind_some e;obtain⟨n,e3,e⟩:=bind_some e;obtain⟨t,e3,e4⟩:=bind_some e3;obtain rfl:=JlG e4;obtain⟨d,e5,rfl⟩:=map_some e;refine ha B H0 H σ E s _ I e1 fun x H1 H1' s1 r1=>hk B H1 H1' σ E _ _ (I.step s1) e3 fun y H2 H2' s2 r2=>?_
 obtain⟨l,xs,rfl,h,_,rl⟩:=(r1.step s2).dt e2;obtain⟨b,rfl,hb⟩:=RD.prI r2;rcases RDL.lookP (ks:=p.1) (n:=n) rl with ⟨_,z⟩|⟨v,d',z1,z2,z3⟩
 ·rw[z] at e5;cases e5
 ·rw[z2] at e5;cases e5;exact⟨l,b,_,dtK n,v,rfl,rfl,.inl h,s2.i.seqT hb,by rw[We];exact z1,q _ _ _ (s1.trans s2) z3⟩
theorem EnvR.slotT{B:Hp}{σ:St}{E:En}{i:Nat}{ks:List (Int×Int)}{ds:List LE.D}(I:EnvR K C B H0 H σ E)(e1:E[i]?=some (.ot ks ds)):∃l xs,σ[i]?=some (some (.ref l))/\H l=some (dtO ks xs)/\H0 l=none/\B l=none/\ks.length=ds.length/\RDL K C H0 xs ds:=by
 rcases I.at' i _ e1 with z|⟨v,h1,l,xs,h2,h3⟩
 ·cases z
 ·subst h2;exact⟨l,xs,h1,h3⟩
noncomputable def Jc8:List Sl->Option (Int×Int)
 | [.sh (.int a),.sh (.int b)]=>some (a,b)
 | _=>none
noncomputable def JgF(i:Nat)(ks:En->Option (List Sl))(a:Ev):Es:=fun E=>match E[i]? with
 | some (.ot ps ds)=>(a E).bind fun s=>s.frz.bind fun d=>((ks E).bind Jc8).bind fun n=>if ps.length<sizeLine then some (.nx (E.set i (.ot (U6 ps n) (putDP ps ds n d)))) else none
 | _=>none
theorem Z1{ss:List Sl}{n:Int×Int}(e:Jc8 ss=some n):ss=[.sh (.int n.1),.sh (.int n.2)]:=by
 unfold Jc8 at e;split at e
 ·cases e;rfl
 ·cases e
theorem JoZ{i:Nat}{tk:TA}{ks:En->Option (List Sl)}(ha:SE K C te ea)(hk:SA K C tk ks):SS K C (JjV (WE i) (Jkb tk) te) (JgF i ks ea):=by
 intro B H0 H σ E o D I e f;unfold JgF at e;split at e
 ·next ps ds h =>
  obtain⟨s,e1,e⟩:=bind_some e;obtain⟨d,e2,e⟩:=bind_some e;obtain⟨n,e3,e⟩:=bind_some e;obtain⟨t,e3,e4⟩:=bind_some e3;obtain rfl:=Z1 e4;split at e
  ·next hz =>
   cases e;obtain⟨l,xs,g1,g2,g3,g4,gk,g5⟩:=I.slotT h;refine ha B H0 H σ E _ _ I e1 fun v H1 H1' s1 r1=>?_
   have s2:Step H H0 H (J1 H H1 H1') H1':=s1.comp (JT s1.i) fun _ z=>z
   have rv:=RR.frz s1.i r1 e2;refine⟨_,g1,?_⟩;refine hk B _ H1' σ E _ _ (I.step s2) e3 fun ws H3 H3' s3 r3=>?_
   cases r3 with
   | cons a1 r3=>cases r3 with
    | cons a2 r3 =>
     cases r3;rw[RD.intI a1,RD.intI a2];refine⟨show 2<=sizeLine by decide,fun p hp=>?_⟩;have s4:=s2.trans s3;have s5:Step H H0 H H3 (upd H3' p (.tup [.int n.1,.int n.2])):=s4.trans ⟨.new hp,Same.refl _,fun _ _ e=>.inl e,s4.i.trans (.new hp)⟩;have hx:ps.length=xs.length:=gk.trans g5.1.symm;obtain⟨_,n0,nB⟩:=(I.step s5).ownG h rfl g1;have rr:=(g5.mono s5.z).putDP (ks:=ps) (n:=n) (rv.mono s3.z);have m:=(I.step s5).mutG (t':=.ot (U6 ps n) (putDP ps ds n d)) (o':=dtO (U6 ps n) (putDP ps xs n v)) h rfl rfl g1 ⟨l,_,rfl,Js,n0,nB,Jbn _ _ _ _ gk,rr⟩
     refine⟨l,_,rfl,.inr ⟨_,dtK n,p,s5.h _ _ g2,rfl,Js,?_,rfl⟩,?_⟩
     ·rw[Gh,Qk,<- hx,KJ];exact hz
     ·rw[Jhx ps xs n v hx];exact f _ _ _ ⟨m.b,s5.z,(s5.ss I.b).n,m.h⟩ m
  ·cases e
 ·cases e
theorem Jl9(ha:SE K C td ed):SE K C (tCB Jgc (Vn (Jj8 td) WD)) (Jek ed):=by
 intro B H0 H σ E r Q I e q;obtain⟨s,e1,e⟩:=bind_some e;obtain⟨p,e2,e⟩:=bind_some e;split at e
 ·next h64 =>
  cases e;refine ha B H0 H σ E s _ I e1 fun x H1 H1' s1 r1=>?_
  obtain⟨l,xs,rfl,h,hk,rl⟩:=r1.dt e2;refine⟨l,rfl,.inr ⟨_,.inl h⟩,fun w hw=>?_⟩;have st:Step H1' H1 H1' H1 (upd H1' w (Zj w l)):=⟨.new hw,Same.refl _,fun _ _ e=>.inl e,s1.i.trans (.new hw)⟩
  have s2:=s1.trans st;refine⟨w,l,p.1,xs,rfl,Js,Rd.put (.inl h) hw,by rw[hk,rl.1],h64,fun nd z bs hz hb hbs=>?_⟩
  have f:=JT (Hs:=H) s2.i
  have r2:RDL K C (J1 H H1 (upd H1' w (Zj w l))) (bs.map V.ref) ((JaR p.1).map prE):=by
   refine⟨by rw[Qk,Qk,hb,(YJ p.1).length_eq],fun i x d h1 h2=>?_⟩;rw[Qq] at h1 h2
   cases hbi:bs[i]? with
   | none=>rw[hbi] at h1;cases h1
   | some b =>
    cases hpi:(JaR p.1)[i]? with
    | none=>rw[hpi] at h2;cases h2
    | some pp=>rw[hbi] at h1;rw[hpi] at h2;cases h1;cases h2;exact .mkT (.inl (.inl (JbR s2.i rfl (hbs i b pp hbi hpi)))) (RDL.ofInts [pp.1,pp.2])
  exact U4 f.i s2.h hz r2 fun v H2 H2' s3 r3=>q v H2 H2' ((s2.comp f fun _ y=>y).comp s3 fun _ y=>y) r3
 ·cases e
end
end LE

namespace LE
open PySem L2 LR
section
variable{K:Frag}{C:Addr}
end
end LE

namespace LE
open PySem L2 LR
section
variable{X:Cx}
end
section
variable{K:Frag}{C:Addr}
end
end LE

namespace L2
open PySem
noncomputable def Ris(xs:Array Nat):Prop:=xs.toList.Pairwise (·<·)
noncomputable def TOk(led:Bool)(t:SetTable):Prop:=(t.plain=true->Ris t.place)/\t.led=led
end L2

namespace L2
open PySem PyProof.Rows
structure SetS (prog:Program) (w:World) (led:Bool) (h:Heap) (a:Addr) (S:Int->Bool) (n:Nat) (o:Obj) (es:Array (Int×Value)) (ep:Nat) (t:SetTable):Prop where
 got:h.get? a=some o
 ex:o.ExactSet
 data:o.data=.set es ep t
 els:ElemsOf (intKind prog w) es.toList
 mem:∀k,S k=true↔∃e∈es.toList,(intKind prog w).is k e.2=true
 few:es.size<scanBound
 fits:t.fits es.size=true
 size:es.size=n
 tok:TOk led t
noncomputable def SetL(prog:Program)(w:World)(led:Bool)(h:Heap)(a:Addr)(S:Int->Bool)(n:Nat):Prop:=∃o es ep t,SetS prog w led h a S n o es ep t
section
variable{prog:Program}{w:World}{A:Around}{E:Value->Shared->Prop}{s:Shared}{led:Bool}{a:Addr}{S:Int->Bool}{n:Nat}
theorem SetL.move{h h':Heap}(x:SetL prog w led h a S n)(e:∀o,h.get? a=some o->h'.get? a=some o):SetL prog w led h' a S n :=
 let ⟨o,es,ep,t,z⟩:=x;⟨o,es,ep,t,{ z with got:=e _ z.got }⟩
theorem SetL.as{h:Heap}{S':Int->Bool}{n':Nat}(x:SetL prog w led h a S n)(e:∀k,S k=S' k)(en:n=n'):SetL prog w led h a S' n':=by have:S=S':=funext e;subst this en;exact x
end
section
variable{prog:Program}{w:World}{A:Around}{R:Result->Shared->Prop}{I:Addr}{fp wr:List Addr}{G:Array GenState->Array GenState->Prop}{n:Nat}{P:Nat->Value->Prop}{St:Nat->Shared->Prop}
end
end L2

namespace L2
open PySem PyProof.Rows
section
variable{prog:Program}{w:World}{A:Around}{E:Value->Shared->Prop}{s:Shared}
end
end L2

namespace L2
open PySem PyProof.Rows PySem.W
end L2

namespace L2
open PySem PyProof.Rows PySem.W
noncomputable def SIt(h:Heap)(I d:Addr)(f:Value)(i n ep:Nat):Prop:=∃o,h.get? I=some o/\o.cls=.type "set_iterator"/\o.data=.fields #[f,.int i 0,.ref d,.int n 0,.int ep 0]
section
variable{prog:Program}{w:World}{A:Around}{E:Value->Shared->Prop}{s:Shared}{I d:Addr}{f:Value}{i n ep:Nat}{es:Array (Int×Value)}{t:SetTable}{o:Obj}
theorem SIt.type{s:Shared}(x:SIt s.heap I d f i n ep):s.TypeIs (.ref I) "set_iterator":=let ⟨o,ho,hc,_⟩:=x;⟨o,ho,hc⟩
end
end L2

namespace L2
open PySem PyProof.Rows PySem.W PySem.Spec
section
variable{prog:Program}{w:World}{A:Around}{E:Value->Shared->Prop}{s:Shared}{d:Addr}{ep:Nat}{es:Array (Int×Value)}{t:SetTable}
end
section
variable{X:Cx}
end
section
variable{X:Cx}{e:Expr}{te:TE}{p1 p2 q1 q2:Pos}
end
end L2

namespace LE
open PySem L2 LR
section
variable{K:Frag}{C:Addr}{td:TE}{ed:Ev}
end
end LE

namespace L2
open PySem PyProof.Rows PySem.W PySem.Spec
section
variable{X:Cx}
end
end L2
namespace LE
open PySem L2 LR
section
variable{K:Frag}{C:Addr}
end
end LE

namespace L2
open PySem PyProof.Rows PySem.W PySem.Spec
noncomputable def Jmu(i j:Int):Prop:=0<j/\j.natAbs<=10 ^ 200
theorem JnI{j:Int}(h:j.natAbs<=10 ^ 200):j.natAbs.log2<9000:=by
 by_cases h0:j.natAbs=0
 ·rw[h0];decide +kernel
 ·have h1:j.natAbs.log2<1000:=by rw[Nat.log2_lt h0];exact GQ h (by decide +kernel)
  omega
theorem Jdy{X:Cx}:OpR X (binaryOp .FloorDiv) (rI Jmu fun i j=>.int (i / j)):=opI fun i j _ _ _ _ _ hc q=>by have h1:(0:Int)<j:=hc.1;exact floordiv_int (by omega) (by rw[L7 i (by omega)];exact q) (.inl (PyProof.noPylong_of_log2 (JnI hc.2)))
end L2
namespace LE
open PySem L2 LR
noncomputable abbrev JfA:=fIc (fun _ b=>decide (0<b) && VA b) fun a b=>.int (a / b)
section
variable{K:Frag}{C:Addr}
theorem Jja:OpS K C (rI Jmu fun i j=>.int (i / j)) JfA:=Jhk (fun i j h=>by simp only[QT,VA,Ks,decide_eq_true_eq] at h;exact h) fun _ _ _=>.int _
end
theorem Jis{a b:Int}(h:0<b/\b.natAbs<=10 ^ 200):JfA (.sh (.int a)) (.sh (.int b))=some (.sh (.int (a / b))):=by show(if (decide (0<b) && VA b)=true then _ else _)=_;rw[if_pos];rw[QT];exact⟨decide_eq_true h.1,Ks.mpr h.2⟩
end LE

namespace L2
open PySem PyProof.Rows PySem.W PySem.Spec
section
variable{prog:Program}{w:World}{A:Around}{E:Value->Shared->Prop}{s:Shared}
end
section
variable{prog:Program}{w:World}{A:Around}{R:Result->Shared->Prop}{I:Addr}{fp wr:List Addr}{G:Array GenState->Array GenState->Prop}{n:Nat}{P:Nat->Value->Prop}{St:Nat->Shared->Prop}
end
section
variable{prog:Program}{w:World}{A:Around}{E:Value->Shared->Prop}{s:Shared}
end
end L2

namespace L2
open PySem PyProof.Rows PySem.W PySem.Spec
end L2
namespace LE
open PySem L2 LR
section
variable{K:Frag}{C:Addr}{td:TE}{ed:Ev}
end
end LE

namespace LE
open PySem L2 LR
noncomputable def ifB(f:Sl->Sl->Option Sl)(d:D)(ew:Ev)(a b:Es):Es:=fun E=>((ew E).bind fun s=>(f (.sh d) s).bind bool?).bind fun k=>if k=true then a E else b E
noncomputable def JgE(f:Sl->Sl->Option Sl)(j:Nat)(ek ev ew:Ev)(a b:Es):Es:=fun E=>match E[j]? with
 | some (.od ks ds)=>((ek E).bind int?).bind fun n=>(ev E).bind fun s=>s.frz.bind fun d=>if ks.length<sizeLine then
  match look ks ds n with
  | some d'=>ifB f d' ew a b E
  | none=>ifB f d ew a b (E.set j (.od (JK ks n) (putDs ks ds n d)))
  else none
 | _=>none
section
variable{K:Frag}{C:Addr}{r:R2}{f:Sl->Sl->Option Sl}{j:Nat}{ty tx tw:TE}{ek ev ew:Ev}{t u:TS}{et eu:Es}
theorem JoY(ho:OpS K C r f)(hk:SE K C ty ek)(hx:SE K C tx ev)(hw:SE K C tw ew)(ht:SS K C t et)(hu:SS K C u eu):SS K C (Jmj (Jgs (tOp r (Jcy (WE j) ty tx) tw)) t u) (JgE f j ek ev ew et eu):=by
 intro B H0 H σ E o N I e fn;unfold JgE at e;split at e
 ·next ks ds h =>
  obtain⟨n,e1,e⟩:=bind_some e;obtain⟨t1,e1,e2⟩:=bind_some e1;obtain rfl:=Ve e2;obtain⟨sv,e3,e⟩:=bind_some e;obtain⟨d,e4,e⟩:=bind_some e;split at e
  ·next hz =>
   obtain⟨l,xs,g1,g2,g3,g4,gk,g5⟩:=I.slotD h;have hxl:ks.length=xs.length:=gk.trans g5.1.symm;refine⟨_,g1,?_⟩;refine⟨l,rfl,.inl ⟨_,.inl g2⟩,?_⟩;refine hk B H0 H σ E _ _ I e1 fun y H1 H1' s1 r1=>?_
   refine hx B H1 H1' σ E _ _ (I.step s1) e3 fun z H2 H2' s2 r2=>?_
   have s12:=s1.trans s2
   have s3:Step H H0 H (J1 H H2 H2') H2':=s12.comp (JT s12.i) fun _ z=>z
   have rv:RD K C (J1 H H2 H2') z d:=RR.frz s12.i (r2.weak fun a q=>Same.free s1.h q) e4
   have I3:=I.step s3
   -- what comes behind the value is known
   have tail:∀(E':En) (HA HB:Hp) (v:V) (d':D),EnvR K C B HA HB σ E'->SStep B H0 HA HB->RD K C HA v d'->ifB f d' ew et eu E'=some o ->
    tw σ HB (fun y H4=>r v y H4 fun z H5=>∃k,z=.bl k/\if k=true then t N σ H5 else u N σ H5):=fun E' HA HB v d' J ss rd ee=>by
    unfold ifB at ee;obtain⟨k,ee,e9⟩:=bind_some ee;obtain⟨sw,e7,ee⟩:=bind_some ee;obtain⟨sc,e8,ee⟩:=bind_some ee;have eb:=VO ee;refine hw B HA HB σ E' sw _ J e7 fun y H4 H4' s4 r4=>?_
    refine ho HB H4 H4' v y (.sh d') sw sc _ s4.i s4.h (rd.mono s4.z) r4 e8 fun z H5 H5' s5 r5=>?_
    rw[eb] at r5;have s45:=s4.comp s5 fun _ z=>z
    refine⟨k,RD.blI r5,?_⟩;have J5:=J.step s45;have fs:SStep B H0 H5 H5':=ss.trans (s45.ss J.b)
    cases k with
    | true=>rw[if_pos rfl] at e9 ⊢;exact ht B H5 H5' σ E' o N J5 e9 (fn.step fs)
    | false=>rw[if_neg (by simp)] at e9 ⊢;exact hu B H5 H5' σ E' o N J5 e9 (fn.step fs)
   have hr:=RDL.look (ks:=ks) (n:=n) (g5.mono s3.z);refine⟨_,Sum.inl n,s12.h _ _ g2,RD.intI r1,?_,fun v hv=>?_,fun hn=>?_⟩
   ·rw[Gh,Qk,<- hxl,KJ];exact hz
   ·rw[Uy] at hv;rcases hr with ⟨z1,_⟩|⟨v',d',z1,z2,z3⟩
    ·rw[z1] at hv;cases hv
    ·rw[z1] at hv;cases hv;rw[z2] at e;exact tail E _ _ v d' I3 (s3.ss I.b) z3 e
   ·rw[Uy] at hn;rcases hr with ⟨_,z2⟩|⟨v',d',z1,z2,z3⟩
    ·rw[z2] at e;obtain⟨_,n0,nB⟩:=I3.ownG h rfl g1;have rr:=(g5.mono s3.z).putDs (ks:=ks) (n:=n) rv;have m:=I3.mutG (t':=.od (JK ks n) (putDs ks ds n d)) (o':=dkO (JK ks n) (putDs ks xs n z)) h rfl rfl g1 ⟨l,_,rfl,Js,n0,nB,Jbm _ _ _ _ gk,rr⟩;rw[JdG ks xs n z hxl];exact tail _ _ _ z d m ⟨m.b,s3.z,(s3.ss I.b).n,m.h⟩ rv e
    ·rw[z1] at hn;cases hn
  ·cases e
 ·cases e
end
end LE

namespace LE
open PySem L2 LR
noncomputable def Jel(a:Ev)(ks:En->Option (List Sl))(x:Ev):Ev:=fun E=>(a E).bind fun s=>s.dt.bind fun p=>((ks E).bind Jc8).bind fun n=>((x E).bind sh?).bind fun d=>some (.sh ((lookP p.1 p.2 n).getD d))
section
variable{K:Frag}{C:Addr}{Hs H0 H:Hp}{td tx:TE}{ed ex:Ev}
theorem Jma{tk:TA}{ks:En->Option (List Sl)}(ha:SE K C td ed)(hk:SA K C tk ks)(hx:SE K C tx ex):SE K C (Je5 td (Jkb tk) tx) (Jel ed ks ex):=by
 intro B H0 H σ E r Q I e q;obtain⟨s,e1,e⟩:=bind_some e;obtain⟨p,e2,e⟩:=bind_some e;obtain⟨n,e3,e⟩:=bind_some e;obtain⟨t,e3,e4⟩:=bind_some e3;obtain rfl:=Z1 e4;obtain⟨d,e5,e⟩:=bind_some e;obtain⟨t',e5,e6⟩:=bind_some e5;obtain rfl:=Wz e6;cases e;refine ha B H0 H σ E s _ I e1 fun x H1 H1' s1 r1=>?_
 obtain⟨l0,xs0,rfl,h0,_,_⟩:=r1.dt e2;refine⟨l0,rfl,.inr ⟨_,.inl h0⟩,hk B H1 H1' σ E _ _ (I.step s1) e3 fun ws H2 H2' s2 r2=>?_⟩
 cases r2 with
 | cons a1 r2=>cases r2 with
  | cons a2 r2 =>
   cases r2;rw[RD.intI a1,RD.intI a2];refine⟨show 2<=sizeLine by decide,fun b hb=>?_⟩;have s0:=s1.trans s2;have s4:Step H H0 H H2 (upd H2' b (.tup [.int n.1,.int n.2])):=s0.trans ⟨.new hb,Same.refl _,fun _ _ e=>.inl e,s0.i.trans (.new hb)⟩;have s5:Step H1' H1 H1' H2 (upd H2' b (.tup [.int n.1,.int n.2])):=s2.trans ⟨.new hb,Same.refl _,fun _ _ e=>.inl e,s0.i.trans (.new hb)⟩;refine hx B H2 _ σ E _ _ (I.step s4) e5 fun z H3 H3' s3 r3=>?_
   obtain⟨l,xs,hl,h,_,rl⟩:=((r1.step s5).step s3).dt e2;cases hl;refine⟨_,.inr ⟨_,dtK n,b,.inl h,rfl,s3.h _ _ Js,(We p.1 xs n).symm⟩,q _ _ _ (s4.trans s3) ?_⟩;rcases RDL.lookP (ks:=p.1) (n:=n) rl with ⟨z1,z2⟩|⟨v,d',z1,z2,z3⟩
   ·rw[z1,z2];exact r3
   ·rw[z1,z2];exact z3
end
end LE

end
open L2 LR
local macro_rules | `(tactic| walk_at "side")=>`(tactic| first | decide | exact⟨by decide,by decide,by decide⟩ | exact⟨by decide,by decide⟩ | (show(0:Int)<_;omega) | (show(0:Int)<_/\_<(1073741824:Int);omega) | exact Or.inl ⟨by omega,by omega⟩ | exact Or.inr ⟨by omega,by omega⟩ | assumption)
local macro_rules | `(tactic| walk_at "rd1")=>`(tactic| with_reducible first | refine Joy ?_ | refine Joq ?_ | refine Jor ?_ | refine JlQ ?_ | refine JlV ?_ | refine JpX ?_ | refine JlY ?_ | refine Jop ?_ | refine JlP ?_ | refine Jow ?_ | refine JpV ?_ | refine Jgd ?_ | refine LR.Jgf ?_ | refine Joz ?_ | refine JjO ?_ | refine JjN ?_ | refine JlR ?_ | refine JlX ?_ | refine JoB ?_ | refine Jql ?_ | refine JpW ?_ | refine JlO ?_ | refine JlW ?_ | refine JjP ?_ | refine JjQ ?_ | refine Exists.intro _ (And.intro (LR.tru_bl _ _ _) ?_))
local macro_rules | `(tactic| walk_at "rd2")=>`(tactic| first |((with_reducible refine JoA (v:=?vv) ?hx ?_);(case hx=>exact rfl)) | (with_reducible refine Exists.intro _ (And.intro (Eq.refl (V.bl _)) ?_)))
local macro_rules | `(tactic| walk_at "rd")=>`(tactic| repeat (first | walk_at "rd1" | walk_at "rd2"))
noncomputable section
namespace LK
open PySem L2 LR LE
noncomputable def Up:List Sl->Option Sl:=Y5 8 (Jy (Wg 1 (Vr a0))
 (Jy (JE 2 (Uh (aC (eC (.int 0)) (aC (eC (.int 0)) a0))))
 (Jy (V0 (iV 0) (.tp (.cons (.nm 3) (.cons (.nm 4) .nil))) (Jy (JE 5 (e2 UL (Jd 3) (e2 fIx (Jd 2) (eC (.int 0)))))
 (Jy (JE 6 (e2 JfA (e2 UL (Jd 4) (e2 fIx (Jd 2) (eC (.int 1)))) (Jd 5)))
 (Jy (JE 7 (e2 UL (e2 UL (Jd 4) (e2 fIx (Jd 2) (eC (.int 1)))) (e2 JfC (Jd 6) (Jd 5))))
 (Jy (xIf (tB? (e2 fGt (Jd 7) (eC (.int 0)))) (JaT 1 (Uh (aC (e2 Y3 (e2 fIx (Jd 2) (eC (.int 0))) (Jd 7)) (aC (e2 Y3 (Jd 6) (eC (.int 1))) a0)))) Uk)
 (Jy (JaT 1 (Uh (aC (Jd 3) (aC (Jd 6) a0))))
 (JE 2 (Uh (aC (Jd 3) (aC (Jd 4) a0))))))))))
 (U2 1))))
noncomputable def Yx:List Sl->Option Sl:=Y5 5 (Jy (Wg 1 (Vr a0))
 (Jy (V0 (iV 0) (.tp (.cons (.nm 2) (.cons (.nm 3) .nil))) (xIf (tAnd? (tTru? (Jd 1)) (tB? (e2 fEq (eF JbO (aC (e2 fIx (Jd 1) (e1 JbN (eC (.int 1)))) a0)) (Jd 2)))) (Jy (Jmr 1 4 some)
 (JaT 1 (Uh (aC (e2 fIx (Jd 4) (eC (.int 0))) (aC (e2 Y3 (e2 fIx (Jd 4) (eC (.int 1))) (Jd 3)) a0))))) (xIf (tB? (e2 fGt (Jd 3) (eC (.int 0)))) (JaT 1 (Uh (aC (Jd 2) (aC (Jd 3) a0)))) Uk)))
 (U2 1)))
noncomputable def Yb:List Sl->Option Sl:=Y5 2 (Uz (Y2 (Jc3 true (aC (e1 UV (Jd 0)) a0)) (.tp (.cons (.nm 0) (.cons (.nm 1) .nil))) yes? (Uh (aC (e2 Y3 (e2 fIx (Jd 1) (eC (.int 0))) (e2 V4 (e2 V4 (eC (.int 2)) (Jd 2)) (Jd 0))) (aC (e2 Y3 (e2 fIx (Jd 1) (eC (.int 1))) (Jd 2)) a0))) [none,none,some 1]))
noncomputable def Uo:List Sl->Option Sl:=Y5 1 (Uz (Y2 (JiL true (aC (e1 UV (Jd 0)) (aC (eSl (e1 UV (Jd 0)) (some (eC (.int 1))) none) a0))) (.tp (.cons (.nm 0) (.cons (.nm 1) .nil))) yes? (e2 UL (e2 fIx (Jd 1) (eC (.int 0))) (eF JbO (aC (Jd 0) a0))) [none,none]))
noncomputable def J0:List Sl->Option Sl:=Y5 1 (Uz (eF JfB (aC (e2 Y3 (Y2 (iE true (e1 UV (Jd 0))) (.tp (.cons (.nm 0) (.cons (.nm 1) .nil))) yes? (Jd 1) [none,none]) (eU 1 Uo (aC (Jd 0) a0))) a0)))
noncomputable def Ye:List Sl->Option Sl:=Y5 5 (Jy (JE 2 (eF JaO (aC (e1 UV (Jd 0)) a0)))
 (Jy (JE 3 (Jd 1))
 (Jy (Y1 (tAnd? (tB? (e2 fGt (Jd 3) (eC (.int 0)))) (tTru? (e1 UV (Jd 2)))) (Jy (JE 4 (eF Jeq (aC (Jd 3) (aC (eU 1 J0 (aC (Jd 2) a0)) a0))))
 (Jy (JE 2 (eF JaO (aC (eU 1 Yx (aC (eU 2 Yb (aC (Jd 2) (aC (e1 JbN (Jd 4)) a0))) a0)) a0)))
 (Jfb (fun i j=>i-j) 3 (Jd 4)))) 1000000)
 (U2 2))))
noncomputable def Y4:List Sl->Option Sl:=Y5 2 (Uz (eF JkQ (aC (Y2 (iE true (e1 UV (Jd 0))) (.tp (.cons (.nm 0) (.cons (.nm 1) .nil))) yes? (Jeg fLe fLt (Jd 0) (Jd 2) (e2 Y3 (Jd 0) (Jd 1))) [none,none,some 1]) a0)))
noncomputable def Uq:List Sl->Option Sl:=Y5 2 (Uz (eIf (tAnd? (tTru? (eU 2 Y4 (aC (Jd 0) (aC (e2 UL (Jd 1) (eC (.int 1))) a0)))) (tNot? (tTru? (eU 2 Y4 (aC (Jd 0) (aC (Jd 1) a0)))))) (eC (.int 1)) (eC (.int 0))))
noncomputable def Us:List Sl->Option Sl:=Y5 6 (Jy (JE 1 (eU 2 Ye (aC (Jd 0) (aC (eC (.int 1)) a0))))
 (Jy (Wg 2 JcV)
 (Jy (V0 (Jc3 false (aC (e1 UV (Jd 0)) a0)) (.tp (.cons (.nm 3) (.cons (.nm 4) .nil))) (Jy (JE 5 (e2 UL (e2 UL (eF JbO (aC (Jd 4) a0)) (eC (.int 1))) (e2 V4 (eC (.int 2)) (Jd 3))))
 (JgC 2 (Jd 5) (e2 Y3 (Jeh (Jd 2) (Jd 5) (eC (.int 0))) (eC (.int 1))))))
 (JgD 2 (Uz (Y2 (Jeu (Jd 2)) (.tp (.cons (.nm 0) (.cons (.nm 1) .nil))) yes? (Uh (aC (Jd 0) (aC (Jd 1) (aC (eU 2 Uq (aC (Jd 2) (aC (Jd 0) a0))) a0)))) [none,none,some 1]))))))
noncomputable def Yv:List Sl->Option Sl:=Y5 5 (Jy (Wg 1 (Vr a0))
 (Jy (JE 2 (Jd 0))
 (Jy (JE 3 (eC (.int 0)))
 (Jy (Y1 (tTru? (e1 UV (Jd 2))) (Jy (JE 4 (eU 1 J0 (aC (Jd 2) a0)))
 (Jy (Jfb (fun i j=>i+j) 3 (Jd 4))
 (Jy (JE 2 (eU 2 Ye (aC (Jd 2) (aC (e2 UL (Jd 4) (eC (.int 1))) a0))))
 (Jy (Jd0 1 (Y2 (iE true (eU 1 Us (aC (Jd 2) a0))) (.tp (.cons (.nm 0) (.cons (.nm 1) (.cons (.nm 2) .nil)))) (tB? (e2 fGt (Jd 1) (Jd 2))) (Uh (aC (Jd 3) (aC (Jd 0) (aC (e2 UL (Jd 1) (Jd 2)) a0)))) [none,none,none,some 3]))
 (JE 2 (eU 2 Ye (aC (Jd 2) (aC (eC (.int 1)) a0)))))))) 1000000)
 (U2 1)))))
noncomputable def Yd:List Sl->Option Sl:=Y5 5 (Jy (Wg 1 (Vr a0))
 (Jy (V0 (iE false (eU 1 Yv (aC (Jd 0) a0))) (.tp (.cons (.nm 2) (.cons (.nm 3) (.cons (.nm 4) .nil)))) (Jd0 1 (e2 Jiv (Vr (aC (Uh (aC (Jd 2) (aC (Jd 3) a0))) a0)) (Jd 4))))
 (U2 1)))
noncomputable def UU:List Sl->Option Sl:=Y5 8 (Jy (JE 2 (eU 1 Yd (aC (Jd 0) a0)))
 (Jy (JE 3 (eU 1 Yd (aC (Jd 1) a0)))
 (Jy (xIf (tB? (e2 fNe (Y2 (iE true (Jd 2)) (.tp (.cons (.nm 0) (.cons (.nm 1) .nil))) yes? (Jd 0) [none,none]) (Y2 (iE true (Jd 3)) (.tp (.cons (.nm 0) (.cons (.nm 1) .nil))) yes? (Jd 0) [none,none]))) (Uz (eC .non)) Uk)
 (Jy (Wg 4 JcV)
 (Jy (V0 (JiL false (aC (Jd 2) (aC (Jd 3) a0))) (.tp (.cons (.nm 5) (.cons (.nm 6) .nil))) (Jy (JE 7 (e2 UL (e2 fIx (Jd 6) (eC (.int 1))) (e2 fIx (Jd 5) (eC (.int 1)))))
 (JgE fNe 4 (e2 fIx (Jd 5) (eC (.int 0))) (Jd 7) (Jd 7) (Uz (eC .non)) Uk)))
 (Uz (JbK (Jd 4))))))))
noncomputable def Yq:List Sl->Option Sl:=Y5 5 (Jy (JE 2 (eU 2 UU (aC (Jd 0) (aC (Jd 1) a0))))
 (Jy (xIf (tB? (e2 fIs (Jd 2) (eC .non))) (Uz (eC .non)) Uk)
 (Jy (JE 3 (eU 1 Up (aC (Jd 2) a0)))
 (Jy (Wg 4 (Y2 (JiL true (aC (Jd 3) (aC (eSl (Jd 3) (some (eC (.int 1))) none) a0))) (.tp (.cons (.nm 0) (.cons (.nm 1) .nil))) yes? (Uh (aC (e2 fIx (Jd 0) (eC (.int 0))) (aC (e2 UL (e2 fIx (Jd 0) (eC (.int 1))) (e2 fIx (Jd 1) (eC (.int 1)))) a0))) [none,none]))
 (Jy (Jd0 4 (Y2 (iE true (eSl (Jd 3) (some (e1 JbN (eC (.int 1)))) none)) (.tp (.cons (.nm 0) (.cons (.nm 1) .nil))) yes? (Uh (aC (eC .non) (aC (Jd 1) a0))) [none,none]))
 (Uz (Y2 (iE true (Jd 4)) (.nm 0) (tB? (e2 fNe (e2 fIx (Jd 0) (eC (.int 1))) (eC (.int 0)))) (Jd 0) [none])))))))
noncomputable def Yz:List Sl->Option Sl:=Y5 2 (Uz (eF JaO (aC (eU 2 Yb (aC (Jd 0) (aC (Jd 1) a0))) a0)))
noncomputable def Ys:List Sl->Option Sl:=Y5 2 (Uz (eF JbO (aC (Y2 (iE true (e1 UV (Jd 0))) (.tp (.cons (.nm 0) (.cons (.nm 1) .nil))) yes? (eF JkU (aC (eC (.int 0)) (aC (eF Jeq (aC (Jd 1) (aC (e2 UL (Jd 2) (Jd 0)) a0))) a0))) [none,none,some 1]) a0)))
noncomputable def Y7:List Sl->Option Sl:=Y5 8 (Jy (Wg 2 (Vr a0))
 (Jy (JE 3 (eC (.int 0)))
 (Jy (V0 (Jc3 false (aC (Jd 1) a0)) (.tp (.cons (.nm 4) (.cons (.nm 5) .nil))) (Jy (JE 6 (eU 2 Ys (aC (Jd 0) (aC (Jd 5) a0))))
 (Jy (JE 7 (e2 UL (Jd 6) (Jd 3)))
 (Jy (JaT 2 (Uh (aC (e2 UL (e2 Y3 (Jd 5) (e2 V4 (eC (.int 2)) (Jd 4))) (Jd 7)) (aC (e2 Y3 (Jd 7) (eC (.int 1))) a0))))
 (JE 3 (Jd 6))))))
 (U2 2))))
noncomputable def Ur:List Sl->Option Sl:=Y5 5 (Jy (xIf (tB? (e2 fGt (e2 Y3 (eF JgY (aC (e1 UV (Jd 0)) a0)) (eF JbO (aC (Y2 (iE true (Jd 1)) (.tp (.cons (.nm 0) (.cons (.nm 1) .nil))) yes? (Jd 1) [none,none]) a0))) (eC (.int 30)))) VJ Uk)
 (Jy (Wg 2 (Y2 (iE true (e1 UV (Jd 0))) (.tp (.cons (.nm 0) (.cons (.nm 1) .nil))) yes? (e2 Y3 (Jd 0) (Jd 1)) [none,none]))
 (Jy (V0 (iV 1) (.tp (.cons (.nm 3) (.cons (.nm 4) .nil))) (Jd0 2 (e2 Jiv (Vr (aC (Jd 3) a0)) (Jd 4))))
 (Uz (eF JaO (aC (eU 2 Y7 (aC (Jd 0) (aC (eF Zr (aC (Jd 2) a0)) a0))) a0))))))
noncomputable def J2:List Sl->Option Sl:=Y5 5 (Jy (JE 1 (eC .non))
 (Jy (V0 (iV 0) (.tp (.cons (.nm 2) (.cons (.nm 3) (.cons (.nm 4) .nil)))) (Jy (xIf (tOr? (tB? (e2 fLt (Jd 2) (eC (.int 1)))) (tB? (e2 fLt (Jd 4) (eC (.int 1))))) VJ Uk)
 (Jy (xIf (tAnd? (tB? (e2 WP (Jd 1) (eC .non))) (tB? (e2 Jit (Uh (aC (Jd 2) (aC (Jd 3) a0))) (Jd 1)))) VJ Uk)
 (JE 1 (Uh (aC (Jd 2) (aC (Jd 3) a0)))))))
 (xIf (tB? (e2 fGt (eF JbO (aC (Y2 (iE true (Jd 0)) (.tp (.cons (.nm 0) (.cons (.nm 1) (.cons (.nm 2) .nil)))) yes? (Jd 2) [none,none,none]) a0)) (eC (.int 30)))) VJ Uk)))
noncomputable def Yu:List Sl->Option Sl:=Y5 8 (Jy (JdZ (eU 1 J2 (aC (Jd 0) a0)))
 (Jy (Wg 1 JcV)
 (Jy (Jmq (iV 0) (.tp (.cons (.nm 2) (.cons (.nm 3) (.cons (.nm 4) .nil)))) 1 (Jd 2) (Uh (aC (Jd 3) (aC (Jd 4) a0))))
 (Jy (JE 5 (Jej (Jd 1)))
 (Jy (JE 6 (eF JaO (aC (Vr a0) a0)))
 (Jy (V0 (Jnp false (aC (Jim (aC (e2 Y3 (Vr (aC (eC (.int 0)) a0)) (Jd 5)) (aC (Jd 5) a0))) a0)) (.tp (.cons (.nm 7) (.cons (.nm 2) .nil))) (JE 6 (eU 2 Yz (aC (eU 2 Ur (aC (Jd 6) (aC (JkE (Jd 1) (Jd 2)) a0))) (aC (e2 UL (e2 UL (Jd 2) (Jd 7)) (eC (.int 1))) a0)))))
 (U2 6)))))))
noncomputable def Y8:List Sl->Option Sl:=Y5 2 (Uz (eIf (tB? (e2 fIs (Jd 1) (eC .non))) (Jd 0) (eF Jeq (aC (Jd 0) (aC (Jd 1) a0)))))
noncomputable def Yt:List Sl->Option Sl:=Y5 1 (xIf (tAnd? (tB? (e2 WP (Jd 0) (eC .non))) (tB? (e2 fLt (Jd 0) (eC (.int 1))))) VJ Uk)
noncomputable def Yy:List Sl->Option Sl:=Y5 3 (Jy (JdZ (eU 1 Yt (aC (Jd 1) a0)))
 (Jy (JdZ (eU 1 J2 (aC (Jd 0) a0)))
 (Uz (Y2 (iE true (Jd 0)) (.tp (.cons (.nm 0) (.cons (.nm 1) (.cons (.nm 2) .nil)))) yes? (Uh (aC (Jd 0) (aC (e2 Y3 (Jd 1) (e2 JfC (Jd 3) (eU 2 Y8 (aC (Jd 0) (aC (Jd 4) a0))))) (aC (Jd 2) a0)))) [none,none,none,some 2,some 1]))))
noncomputable def Yp:List Sl->Option Sl:=Y5 5 (Jy (JE 2 (eU 1 Yv (aC (Jd 0) a0)))
 (Jy (V0 (iV 1) (.tp (.cons (.nm 3) (.cons (.nm 4) .nil))) (JE 2 (eU 3 Yy (aC (Jd 2) (aC (Jd 3) (aC (Jd 4) a0))))))
 (Uz (eU 1 Yu (aC (Jd 2) a0)))))
noncomputable def JW:List Sl->Option Sl:=Y5 2 (Jy (xIf (tB? (e2 fLt (Jd 1) (eF JgY (aC (Jd 0) a0)))) (Uz (e2 fIx (Jd 0) (Jd 1))) Uk)
 (Uz (eC (.int 0))))
noncomputable def YV:List Sl->Option Sl:=Y5 10 (Jy (Wg 4 (Vr a0))
 (Jy (V0 (iV 1) (.tp (.cons (.nm 5) (.cons (.nm 6) (.cons (.nm 7) .nil)))) (Jy (JE 8 (eU 2 JW (aC (Jd 0) (aC (e2 Y3 (Jd 2) (e2 ZU (Jd 5) (eC (.int 11)))) a0))))
 (Jy (JE 9 (e2 Y3 (e2 UL (e2 ZU (Jd 8) (e2 Y3 (e2 V4 (eC (.int 2)) (Jd 3)) (eC (.int 1)))) (Jd 3)) (e2 V4 (Jd 5) (e2 ZU (e2 Jir (Jd 8) (eC (.int 5))) (eC (.int 3))))))
 (JaT 4 (Uh (aC (Jd 5) (aC (e2 Y3 (Jd 6) (Jd 9)) (aC (Jd 7) a0))))))))
 (U2 4)))
noncomputable def YU:List Sl->Option Sl:=Y5 7 (Jy (Wg 3 Jei)
 (Jy (V0 (iR1 (aC (Jd 1) a0)) (.nm 4) (Jy (JE 5 (e2 Y3 (eC (.int 1)) (e2 ZU (eU 2 JW (aC (Jd 0) (aC (e2 Y3 (eC (.int 2)) (e2 V4 (eC (.int 2)) (Jd 4))) a0))) (Jd 2))))
 (Jy (JE 6 (e2 UL (e2 ZU (eU 2 JW (aC (Jd 0) (aC (e2 Y3 (eC (.int 3)) (e2 V4 (eC (.int 2)) (Jd 4))) a0))) (e2 Y3 (e2 V4 (eC (.int 4)) (Jd 2)) (eC (.int 1)))) (e2 V4 (eC (.int 2)) (Jd 2))))
 (JgF 3 (aC (Jd 5) (aC (Jd 6) a0)) (e2 Y3 (e2 Y3 (Jel (Jd 3) (aC (Jd 5) (aC (Jd 6) a0)) (eC (.int 0))) (eC (.int 1))) (e2 ZU (e2 JfA (eU 2 JW (aC (Jd 0) (aC (e2 Y3 (eC (.int 2)) (e2 V4 (eC (.int 2)) (Jd 4))) a0))) (Jd 2)) (eC (.int 2))))))))
 (Uz (Y2 (iE true (Jek (Jd 3))) (.tp (.cons (.nm 0) (.cons (.nm 1) .nil))) yes? (Uh (aC (Jd 0) (aC (Jd 1) (aC (Jng (Jd 2) (Uh (aC (Jd 0) (aC (Jd 1) a0)))) a0)))) [none,none,some 3]))))
noncomputable def Jep:List Sl->Option Sl:=Y5 12 (Jy (JE 1 (eU 2 JW (aC (Jd 0) (aC (eC (.int 0)) a0))))
 (Jy (JE 2 (e2 fIx (Vr (aC (eC (.int 4)) (aC (eC (.int 100)) (aC (e2 JkY (eC (.int 10)) (eC (.int 28))) a0)))) (e2 ZU (e2 Jir (Jd 1) (eC (.int 9))) (eC (.int 3)))))
 (Jy (JE 3 (eU 3 YU (aC (Jd 0) (aC (e2 ZU (Jd 1) (eC (.int 9))) (aC (Jd 2) a0)))))
 (Jy (JE 4 (e2 fIx (Vr (aC (Jd 2) (aC (e2 JkY (eC (.int 10)) (eC (.int 50))) a0))) (e2 ZU (e2 Jir (Jd 1) (eC (.int 27))) (eC (.int 2)))))
 (Jy (Wg 5 (Vr (aC (eU 1 Yu (aC (Jd 3) a0)) a0)))
 (Jy (V0 (iE false (Vr (aC (eC (.int 18)) (aC (eC (.int 29)) a0)))) (.nm 6) (JaT 5 (eU 1 Yu (aC (eU 4 YV (aC (Jd 0) (aC (Jd 3) (aC (Jd 6) (aC (Jd 4) a0))))) a0))))
 (Jy (JE 7 (eU 2 Yq (aC (e2 fIx (Jd 5) (eC (.int 0))) (aC (e2 fIx (Jd 5) (eC (.int 1))) a0))))
 (Jy (JE 8 (eU 2 Yq (aC (e2 fIx (Jd 5) (eC (.int 1))) (aC (e2 fIx (Jd 5) (eC (.int 2))) a0))))
 (Jy (JE 9 (eU 2 Yq (aC (e2 fIx (Jd 5) (eC (.int 0))) (aC (e2 fIx (Jd 5) (eC (.int 2))) a0))))
 (Jy (xIf (tOr? (tNot? (tTru? (Jil "list" (Jd 7)))) (tOr? (tNot? (tTru? (Jil "list" (Jd 8)))) (tNot? (tTru? (Jil "list" (Jd 9)))))) (Uz (eC (.bl false))) Uk)
 (Jy (xIf (tB? (e2 fNe (e1 UV (eU 2 Yp (aC (eU 2 Yp (aC (e2 fIx (Jd 5) (eC (.int 0))) (aC (Jd 7) a0))) (aC (Jd 8) a0)))) (e1 UV (eU 2 Yp (aC (e2 fIx (Jd 5) (eC (.int 0))) (aC (Jd 9) a0)))))) (Uz (eC (.bl false))) Uk)
 (Jy (xIf (tB? (e2 fNe (e1 UV (eU 2 Yp (aC (e2 fIx (Jd 5) (eC (.int 1))) (aC (Y2 (iE true (Jd 7)) (.tp (.cons (.nm 0) (.cons (.nm 1) .nil))) yes? (Uh (aC (Jd 0) (aC (e2 V4 (e1 JbN (eC (.int 1))) (Jd 1)) a0))) [none,none]) a0)))) (e1 UV (e2 fIx (Jd 5) (eC (.int 0)))))) (Uz (eC (.bl false))) Uk)
 (Jy (V0 (iE false (eSl (Jd 9) none (some (eC (.int 3))))) (.tp (.cons (.nm 10) (.cons (.nm 11) .nil))) (xIf (tB? (e2 fEq (e1 UV (eU 2 Yp (aC (e2 fIx (Jd 5) (eC (.int 0))) (aC (e2 Y3 (Jd 9) (Vr (aC (Uh (aC (Jd 10) (aC (eC (.int 1)) a0))) a0))) a0)))) (e1 UV (e2 fIx (Jd 5) (eC (.int 2)))))) (Uz (eC (.bl false))) Uk))
 (Uz (Jnf (e2 fEq (eU 2 Yq (aC (e2 fIx (Jd 5) (eC (.int 0))) (aC (e2 fIx (Jd 5) (eC (.int 0))) a0))) (Vr a0)) (e2 fEq (eU 2 Yq (aC (e2 fIx (Jd 5) (eC (.int 2))) (aC (e2 fIx (Jd 5) (eC (.int 2))) a0))) (Vr a0)))))))))))))))))
end LK
end
namespace LK
open PySem L2 LR LE
local macro_rules | `(tactic| omega)=>`(tactic| first | lia | omega (config:={}))
local macro_rules | `(tactic| walk_at "sd")=>`(tactic| first | omega (config:={}) | assumption | (simp only[Qv,Qk,K9,Qo,Ki,Gg];omega (config:={})))
local macro_rules | `(tactic| walk_at "ev")=>`(tactic| simp -implicitDefEqProofs (disch:=walk_at "sd") only[Y5,Jmg,Int.reduceToNat,Qo,Ki,Nat.reduceAdd,Nat.reduceSub,Nat.reduceLT,Nat.reduceLeDiff,QZ,Nat.zero_lt_succ,Nat.succ_lt_succ_iff,List.reduceReplicate,Ka,GP,GR,List.set_cons_zero,List.set_cons_succ,List.getElem?_cons_succ,List.getElem?_cons_zero,Qk,K9,List.length_set,QM,Le,Option.bind_none,Option.map_none,if_true,if_false,ite_true,ite_false,decide_true,decide_false,Bool.not_true,Bool.not_false,Bool.and_true,Bool.true_and,reduceIte,reduceCtorEq,GF,Qe,KI,if_pos,
 Jy,xIf,Uz,U2,Uk,Wg,JE,JdZ,JaT,Jd0,Jmr,Jfb,JcV,Jei,JgF,Jng,Jel,Jek,Sl.dt,pr?,Jc8,JkE,Jeh,JgC,JgD,Jeu,JbK,Jej,JgE,ifB,Jim,JkT,Sl.dk,int?,V0,tB?,tTru?,tAnd?,tOr?,tNot?,JoS,e2,e1,Jd,eF,eC,aC,a0,eU,Zx,Sl.pass,Uh,Vr,ZV,Sl.frz,Jnf,eIf,Jeg,sh?,bool?,keep?,Jil,tyN,JnW,Jmc,Jmd,JkG,JkH,
 Jpg,JkW,Jiu,JkV,JkS,Jis,JkZ,JkX,JkM,JkN,JkO,JkP,Jnl,Jnm,Jpi,Jpk,Jph,Jpj,JkU,Jeq,UV,Sl.q,Sl.r,Sl.m,Sl.d,Sl.it,fEq,fNe,Jnk,Jio,Jnj,Jni,fIs,WP,Jg9,Jg7,Jha,Jg8,iE,iV,iR1,Y2,Wr,JiL,Jnp,Jc3,Zr,JfB,Z3,eSl,ZR,fSl,Jew,JnF,Jo6,Jo7,Jkt,JhN,eq_self])
noncomputable section
theorem Jag(ns:List Int)(k:Int)(hk:0<=k):JW [.sh (.fz (ns.map .int)),.sh (.int k)]=some (.sh (.int (cell ns k))):=by
 unfold JW;walk_at "ev"
 by_cases h:k<(ns.length:Int)
 ·simp only[h,Jby,JcI hk h];walk_at "ev"
 ·simp only[h,Jh8 h];walk_at "ev"
theorem Good.cons'{p:Pr}{ps:List Pr}(g:Good (p::ps)):Good ps:=⟨fun i q e=>g.one (i+1) q (by simpa using e),fun i q r e1 e2=>g.gap (i+1) q r (by simpa using e1) (by simpa using e2)⟩
theorem Good.all{ps:List Pr}(g:Good ps):∀p∈ps,1<=p.2:=fun p hp=>by obtain⟨i,hi,e⟩:=Gw.mp hp;exact g.one i p (by simp[hi,e])
theorem Good.first{p:Pr}:∀{ps:List Pr},Good (p::ps)->∀q∈ps,p.1+p.2<q.1
 | [],_,q,hq=>nomatch hq
 | r::ps,g,q,hq=>by
  have h1:=g.gap 0 p r rfl rfl;rcases Qh.mp hq with z|z
  ·rw[z];exact h1
  ·have h2:=Good.first (Good.cons' g) q z
   have h3:=g.one 1 r rfl;omega
theorem Good.pw:∀{ps:List Pr},Good ps->ps.Pairwise fun p q=>p.1+p.2<q.1
 | [],_=>.nil
 | p::ps,g=>.cons (Good.first g) (Good.pw (Good.cons' g))
theorem JhY{α:Type}{xs:List α}{x:α}(h:xs[xs.length-1]?=some x):atI xs (-1)=some x:=by
 have hl:=(Qn.mp h).1;unfold atI ixN;rw[if_neg (by omega),if_pos (by omega)]
 have:((-1:Int)+(xs.length:Int)).toNat=xs.length-1:=by omega
 rw[this];exact h
theorem ZT(p:Pr):fIx (.sh (prE p)) (.sh (.int 0))=some (.sh (.int p.1)):=rfl
theorem WQ(p:Pr):fIx (.sh (prE p)) (.sh (.int 1))=some (.sh (.int p.2)):=rfl
noncomputable def U3:List Pr->List Int
 | []=>[]
 | [_]=>[]
 | p::q::r=>(q.1-(p.1+p.2))::U3 (q::r)
theorem Jbd:∀ps:List Pr,U3 ps=(LG ps (ps.drop 1)).map fun pq=>pq.2.1-(pq.1.1+pq.1.2)
 | []=>rfl
 | [_]=>rfl
 | p::q::r=>by rw[U3,Jbd (q::r)];rfl
theorem Jbc:∀ps:List Pr,(U3 ps).length=ps.length-1
 | []=>rfl
 | [_]=>rfl
 | p::q::r=>by rw[U3,Qo,Jbc (q::r)];simp
theorem JcS{α:Type}(xs:List α):ZO xs (some 1) none=xs.drop 1:=by
 unfold ZO;have e:HT.sIx xs.length 0 (some 1)=min 1 xs.length:=rfl;rw[e,show HT.sIx xs.length xs.length none=xs.length from rfl]
 cases xs with
 | nil=>rfl
 | cons x xs=>simp
theorem JnM(ps:List Pr)(h:ps.length<=1000):Uo [.sh (.row (ps.map prE))]=some (.own ((U3 ps).map .int)):=by
 unfold Uo;walk_at "ev";rw[JcS,<- Rf,ZG];walk_at "ev";have hz:(LG ps (ps.drop 1)).length<=16777216:=by rw[Gh];omega
 rw[if_pos hz,Ya (g:=fun pq=>D.int (pq.2.1-(pq.1.1+pq.1.2)))]
 ·walk_at "ev";rw[Jbd,Qr];rfl
 ·intro pq _;walk_at "ev";rw[ZT];walk_at "ev";rw[VS (ns:=[pq.1.1,pq.1.2]) rfl];walk_at "ev";simp
theorem Good.mk'{p:Pr}{ps:List Pr}(h1:1<=p.2)(h2:∀q,ps[0]?=some q->p.1+p.2<q.1)(g:Good ps):Good (p::ps):=by
 refine⟨fun i q e=>?_,fun i q r e1 e2=>?_⟩
 ·cases i with
  | zero=>simp at e;subst e;exact h1
  | succ i=>exact g.one i q (by simpa using e)
 ·cases i with
  | zero=>simp at e1;subst e1;exact h2 r (by simpa using e2)
  | succ i=>exact g.gap i q r (by simpa using e1) (by simpa using e2)
noncomputable def byF(k:Int)(ps:List Pr):List Pr:=ps.mapIdx fun i p=>(p.1+2*k*(i:Int),p.2+k)
theorem Va(k:Int)(ps:List Pr):(byF k ps).length=ps.length:=by unfold byF;rw[List.length_mapIdx]
theorem JbB{k:Int}{ps:List Pr}{i:Nat}{x:Pr}(e:(byF k ps)[i]?=some x):∃p,ps[i]?=some p/\x=(p.1+2*k*(i:Int),p.2+k):=by unfold byF at e;rw[QC,Gj] at e;obtain⟨p,h,rfl⟩:=e;exact⟨p,h,rfl⟩
theorem JcM(a b:Int)(ps:List Pr):byF a (byF b ps)=byF (a+b) ps:=by
 refine Ge fun i=>?_
 unfold byF;rw[QC,QC,QC,Ke]
 cases ps[i]? with
 | none=>rfl
 | some p=>show some (p.1+2*b*(i:Int)+2*a*(i:Int),p.2+b+a)=some (p.1+2*(a+b)*(i:Int),p.2+(a+b));rw[Lm,LH];congr 2 <;> omega
theorem VR(ps:List Pr):byF 0 ps=ps:=by
 refine Ge fun i=>?_
 unfold byF;rw[QC]
 cases ps[i]? with
 | none=>rfl
 | some p=>simp
structure Wide (c:Int) (ps:List Pr):Prop where
 one:∀(i:Nat) (p:Pr),ps[i]?=some p->c<=p.2
 gap:∀(i:Nat) (p q:Pr),ps[i]?=some p->ps[i+1]?=some q->c<=q.1-(p.1+p.2)
theorem Wide.good{c:Int}{ps:List Pr}(h:1<=c)(w:Wide c ps):Good ps:=⟨fun i p e=>by have:=w.one i p e;omega,fun i p q e1 e2=>by have:=w.gap i p q e1 e2;omega⟩
theorem Wide.bys{c k:Int}{ps:List Pr}(w:Wide c ps):Wide (c+k) (byF k ps):=by
 refine⟨fun i x e=>?_,fun i x y e1 e2=>?_⟩
 ·obtain⟨p,h,rfl⟩:=JbB e;have:=w.one i p h;dsimp only;omega
 ·obtain⟨p,h1,rfl⟩:=JbB e1;obtain⟨q,h2,rfl⟩:=JbB e2;have:=w.gap i p q h1 h2;have em:2*k*((i+1:Nat):Int)=2*k*(i:Int)+2*k:=by rw[KU,Lm];simp
  dsimp only;rw[em];omega
theorem Wide.mono{c c':Int}{ps:List Pr}(h:c'<=c)(w:Wide c ps):Wide c' ps:=⟨fun i p e=>by have:=w.one i p e;omega,fun i p q e1 e2=>by have:=w.gap i p q e1 e2;omega⟩
theorem Wide.cons{c:Int}{p:Pr}{ps:List Pr}(w:Wide c (p::ps)):Wide c ps:=⟨fun i q e=>w.one (i+1) q (by simpa using e),fun i q r e1 e2=>w.gap (i+1) q r (by simpa using e1) (by simpa using e2)⟩
noncomputable def clF:Pr->List Pr->List Pr
 | cur,[]=>[cur]
 | cur,p::r=>if cur.1+cur.2=p.1 then clF (cur.1,cur.2+p.2) r else if 0<p.2 then cur::clF p r else clF cur r
noncomputable def clN:List Pr->List Pr
 | []=>[]
 | p::r=>if 0<p.2 then clF p r else clN r
theorem Jh9:∀(cur:Pr) (r:List Pr),Good (cur::r)->clF cur r=cur::r
 | cur,[],_=>rfl
 | cur,p::r,g=>by
  have h1:=g.gap 0 cur p rfl rfl
  have h2:=g.one 1 p rfl;rw[clF,if_neg (by omega),if_pos (by omega),Jh9 p r (Good.cons' g)]
theorem JbF{ps:List Pr}(g:Good ps):clN ps=ps:=by
 cases ps with
 | nil=>rfl
 | cons p r=>rw[clN,if_pos (by have:=g.one 0 p rfl;omega),Jh9 p r g]
theorem Wi:∀(cur:Pr) (r:List Pr),1<=cur.2->Wide 0 r->(∀q,r[0]?=some q->cur.1+cur.2<=q.1)->Good (clF cur r)/\∃q,(clF cur r)[0]?=some q/\q.1=cur.1
 | cur,[],h,_,_=>⟨Good.mk' h (fun q e=>by simp at e) Good.nil,cur,rfl,rfl⟩
 | cur,p::r,h,w,hq=>by
  have h0:=w.one 0 p rfl
  have hb:=hq p rfl
  have nx:∀q,r[0]?=some q->p.1+p.2<=q.1:=fun q e=>by have:=w.gap 0 p q rfl (by simpa using e);omega
  rw[clF];split
  ·next e=>exact Wi (cur.1,cur.2+p.2) r (by dsimp only;omega) w.cons fun q e'=>by have:=nx q e';dsimp only;omega
  ·next e =>
   split
   ·next hp=>obtain⟨g,q,e1,e2⟩:=Wi p r (by omega) w.cons nx;exact⟨Good.mk' h (fun q' e'=>by rw[e1] at e';cases e';omega) g,cur,rfl,rfl⟩
   ·next hp=>exact Wi cur r h w.cons fun q e'=>by have:=nx q e';omega
theorem ZN:∀(ps:List Pr),Wide 0 ps->Good (clN ps)
 | [],_=>Good.nil
 | p::r,w=>by
  rw[clN];split
  ·next h=>exact(Wi p r (by omega) w.cons fun q e=>by have:=w.gap 0 p q rfl (by simpa using e);omega).1
  ·exact ZN r w.cons
theorem Zo:∀(cur:Pr) (r:List Pr),(clF cur r).length<=r.length+1/\((clF cur r).length=r.length+1->(∀p∈r,0<p.2)/\∀(i:Nat) (p q:Pr),(cur::r)[i]?=some p->(cur::r)[i+1]?=some q->p.1+p.2≠q.1)
 | cur,[]=>⟨Qm _,fun _=>⟨fun p hp=>(by cases hp),fun i p q _ e=>(by simp at e)⟩⟩
 | cur,p::r=>by
  rw[clF,Qo];split
  ·next e=>have ih:=(Zo (cur.1,cur.2+p.2) r).1;exact⟨by omega,fun h=>by omega⟩
  ·next e =>
   split
   ·next hp =>
    obtain⟨i1,i2⟩:=Zo p r;refine⟨by rw[Qo];omega,fun h=>?_⟩;obtain⟨a1,a2⟩:=i2 (by rw[Qo] at h;omega);refine⟨fun q hq=>?_,fun i x y e1 e2=>?_⟩
    ·rcases Qh.mp hq with z|z
     ·rw[z];exact hp
     ·exact a1 q z
    ·cases i with
     | zero=>simp at e1 e2;subst e1 e2;exact e
     | succ i=>exact a2 i x y (by simpa using e1) (by simpa using e2)
   ·have ih:=(Zo cur r).1;exact⟨by omega,fun h=>by omega⟩
theorem Wj:∀(ps:List Pr),(clN ps).length<=ps.length/\((clN ps).length=ps.length->(∀p∈ps,0<p.2)/\∀(i:Nat) (p q:Pr),ps[i]?=some p->ps[i+1]?=some q->p.1+p.2≠q.1)
 | []=>⟨Qm _,fun _=>⟨fun p hp=>(by cases hp),fun i p q e=>(by simp at e)⟩⟩
 | p::r=>by
  rw[clN,Qo];split
  ·next hp=>obtain⟨i1,i2⟩:=Zo p r;refine⟨i1,fun h=>?_⟩;obtain⟨a1,a2⟩:=i2 h;exact⟨fun q hq=>(Qh.mp hq).elim (fun z=>z▸hp) (a1 q),a2⟩
  ·have ih:=(Wj r).1;exact⟨by omega,fun h=>by omega⟩
noncomputable def thF(ps:List Pr):List Pr:=clN (byF (-1) ps)
noncomputable def thN:Nat->List Pr->List Pr
 | 0,ps=>ps
 | n+1,ps=>thN n (thF ps)
theorem ZF(a b:Nat):∀ps:List Pr,thN (a+b) ps=thN b (thN a ps):=by
 induction a with
 | zero=>intro ps;rw[L3];rfl
 | succ a ih=>intro ps;rw[Nat.succ_add];exact ih (thF ps)
theorem Jgw:∀n,thN n []=[]
 | 0=>rfl
 | n+1=>Jgw n
theorem Yn{ps:List Pr}(g:Good ps):Good (thF ps):=ZN _ (by
 have w:Wide 1 ps:=⟨fun i p e=>g.one i p e,fun i p q e1 e2=>by have:=g.gap i p q e1 e2;omega⟩
 exact w.bys (k:=-1))
theorem U0:∀(n:Nat) {ps:List Pr},Good ps->Good (thN n ps)
 | 0,_,g=>g
 | n+1,_,g=>U0 n (Yn g)
theorem JaE:∀(n:Nat) {c:Int} {ps:List Pr},Wide c ps->1<=c->((n:Int)<=c)->thN n ps=clN (byF (-(n:Int)) ps)
 | 0,c,ps,w,h1,_=>by show ps=clN (byF (-((0:Nat):Int)) ps);rw[show -((0:Nat):Int)=0 by simp,VR,JbF (w.good h1)]
 | n+1,c,ps,w,h1,hn=>by
  show thN n (thF ps)=_
  by_cases h:n=0
  ·subst h;rfl
  ·have w1:Wide (c+-1) (byF (-1) ps):=w.bys
   have e:thF ps=byF (-1) ps:=JbF (w1.good (by omega));rw[e,JaE n w1 (by omega) (by omega),JcM];congr 2;omega
theorem WG{n:Nat}{c:Int}{ps:List Pr}(w:Wide c ps)(h1:1<=c)(h:(n:Int)<c):thN n ps=byF (-(n:Int)) ps:=by rw[JaE n w h1 (by omega),JbF ((w.bys (k:=-(n:Int))).good (by omega))]
noncomputable def JhO(c:Int)(ps:List Pr):Prop:=(∃p∈ps,p.2=c)\/∃(i:Nat) (p q:Pr),ps[i]?=some p/\ps[i+1]?=some q/\q.1-(p.1+p.2)=c
theorem JaF{c:Int}{ps:List Pr}(t:JhO c ps):(clN (byF (-c) ps)).length<ps.length:=by
 obtain⟨h1,h2⟩:=Wj (byF (-c) ps);rw[Va] at h1 h2;rcases MQ (clN (byF (-c) ps)).length ps.length with h|h
 ·exact h
 ·obtain⟨a1,a2⟩:=h2 (by omega)
  exfalso
  rcases t with ⟨p,hp,e⟩|⟨i,p,q,e1,e2,e⟩
  ·obtain⟨i,hi,rfl⟩:=Gw.mp hp
   have hx:(byF (-c) ps)[i]?=some (ps[i].1+2*-c*(i:Int),ps[i].2+-c):=by unfold byF;rw[QC,QI hi];rfl
   have:=a1 _ (QF hx);dsimp only at this;omega
  ·have hx:(byF (-c) ps)[i]?=some (p.1+2*-c*(i:Int),p.2+-c):=by unfold byF;rw[QC,e1];rfl
   have hy:(byF (-c) ps)[i+1]?=some (q.1+2*-c*((i+1:Nat):Int),q.2+-c):=by unfold byF;rw[QC,e2];rfl
   have:=a2 i _ _ hx hy
   have em:2*-c*((i+1:Nat):Int)=2*-c*(i:Int)+2*-c:=by rw[KU,Lm];simp
   dsimp only at this;rw[em] at this;omega
noncomputable def zs(n:Nat):List Int:=QH n 0
noncomputable def os(n:Nat):List Int:=QH n 1
noncomputable def byR:Int->List Pr->List Pr
 | _,[]=>[]
 | c,p::r=>(p.1-c,p.2-1)::byR (c+2) r
theorem Jfl:∀(ps:List Pr) (c:Int),byR c ps=ps.mapIdx fun i p=>(p.1+2*(-1)*(i:Int)-c,p.2+-1)
 | [],c=>rfl
 | p::r,c=>by
  rw[byR,List.mapIdx_cons,Jfl r (c+2)];congr 1
  ·congr 1;simp
  ·refine Ge fun i=>?_
   rw[QC,QC]
   cases r[i]? with
   | none=>rfl
   | some q=>simp only[Le,KU];congr 2;omega
theorem VQ(ps:List Pr):byR 0 ps=byF (-1) ps:=by
 rw[Jfl];unfold byF;congr 1
 funext i p
 congr 1;omega
theorem Yc{ps:List Pr}(g:Good ps):Wide 1 ps:=⟨fun i p e=>g.one i p e,fun i p q e1 e2=>by have:=g.gap i p q e1 e2;omega⟩
theorem ZM:∀(r:List Pr) (cur:Pr),∃q,(clF cur r)[0]?=some q/\q.1=cur.1
 | [],cur=>⟨cur,rfl,rfl⟩
 | p::r,cur=>by
  rw[clF];split
  ·obtain⟨q,h1,h2⟩:=ZM r (cur.1,cur.2+p.2);exact⟨q,h1,h2⟩
  ·split
   ·exact⟨cur,rfl,rfl⟩
   ·exact ZM r cur
theorem W9:∀(n:Nat) (ps:List Pr),thN (n+1) ps=thF (thN n ps)
 | 0,ps=>rfl
 | n+1,ps=>by show thN (n+1) (thF ps)=thF (thN n (thF ps));exact W9 n (thF ps)
noncomputable def tkS(x prev pos:Int)(acc:List Pr):List Pr :=
 if x=1/\prev=1 then acc.dropLast++[((acc.getLastD (0,0)).1,(acc.getLastD (0,0)).2+1)] else if x=1 then acc++[(pos,1)] else acc
noncomputable def tk:Int->Int->List Pr->List Int->List Pr
 | _,_,acc,[]=>acc
 | prev,pos,acc,x::r=>tk x (pos+1) (tkS x prev pos acc) r
noncomputable def JH(ps:List Pr)(x:Int):Int:=(ps.map fun p=>max 0 (min p.2 (x-p.1))).sum
theorem JL(p:Pr)(ps:List Pr)(x:Int):JH (p::ps) x=max 0 (min p.2 (x-p.1))+JH ps x:=by unfold JH;rw[Qe,Qu]
theorem ZL{ps:List Pr}{x:Int}(h:∀p∈ps,x<=p.1):JH ps x=0:=by
 induction ps with
 | nil=>rfl
 | cons p ps ih=>have h1:=h p Qd;rw[JL,ih fun q hq=>h q (Qc _ hq)];omega
noncomputable def J3(ps:List Pr)(y:Int):Bool:=ps.any fun p=>decide (p.1<=y) && decide (y<p.1+p.2)
theorem has_iff{ps:List Pr}{y:Int}:J3 ps y=true↔∃p∈ps,p.1<=y/\y<p.1+p.2:=by unfold J3;rw[K4];simp
theorem JbW{ps:List Pr}{y:Int}(h:∀p∈ps,p.1<=y->p.1+p.2<=y):J3 ps y=false:=by
 cases e:J3 ps y with
 | false=>rfl
 | true=>obtain⟨p,hp,h1,h2⟩:=has_iff.mp e;have:=h p hp h1;omega
theorem Jpw{l d:Int}(h0:0<=d)(h1:d<l):max 0 (min l (d+1))=max 0 (min l d)+1:=by rw[Gd (by omega),Gd (by omega),GW (by omega),GW h0]
theorem JnP{l d:Int}(hl:0<=l)(h:d<0\/l<=d):max 0 (min l (d+1))=max 0 (min l d):=by
 rcases h with h|h
 ·rw[Gd (by omega),Gd (by omega),Lf (by omega),Lf (by omega)]
 ·rw[GH (by omega),GH h]
theorem ZK(y:Int):∀{ps:List Pr},Good ps->JH ps (y+1)=JH ps y+(if J3 ps y=true then 1 else 0)
 | [],_=>rfl
 | p::ps,g=>by
  have ih:=ZK y (Good.cons' g)
  have hp:=g.one 0 p rfl;rw[JL,JL,ih]
  by_cases h1:p.1<=y/\y<p.1+p.2
  ·have e1:J3 (p::ps) y=true:=has_iff.mpr ⟨p,Qd,h1⟩
   have e2:J3 ps y=false:=JbW fun q hq hy=>by
    have:=Good.first g q hq
    omega
   rw[e1,e2,if_pos rfl,if_neg (by simp),show y+1-p.1=y-p.1+1 by omega,Jpw (show 0<=y-p.1 by omega) (show y-p.1<p.2 by omega)]
   generalize max 0 (min p.2 (y-p.1))=m
   omega
  ·have e1:J3 (p::ps) y=J3 ps y:=by
    unfold J3;rw[GM]
    have:(decide (p.1<=y) && decide (y<p.1+p.2))=false:=by
     cases h:(decide (p.1<=y) && decide (y<p.1+p.2)) with
     | false=>rfl
     | true=>rw[QT,decide_eq_true_eq,decide_eq_true_eq] at h;exact absurd h h1
    rw[this,GX]
   rw[e1,show y+1-p.1=y-p.1+1 by omega,JnP (show 0<=p.2 by omega) (show y-p.1<0\/p.2<=y-p.1 by omega),MA]
theorem Yf(p:Pr)(ps:List Pr)(x:Int):J3 (p::ps) x=((decide (p.1<=x) && decide (x<p.1+p.2)) || J3 ps x):=by unfold J3;rw[GM]
theorem WR{p:Pr}{ps:List Pr}{x:Int}(h1:p.1<=x)(h2:x<p.1+p.2):J3 (p::ps) x=true:=has_iff.mpr ⟨p,Qd,h1,h2⟩
theorem JbX{p:Pr}{ps:List Pr}{x:Int}(h:p.1+p.2<=x):J3 (p::ps) x=J3 ps x:=by rw[Yf];have:decide (x<p.1+p.2)=false:=decide_eq_false (by omega);rw[this,M8,GX]
theorem Vs{ps:List Pr}{x:Int}(h:∀p∈ps,x<p.1):J3 ps x=false:=JbW fun p hp hx=>by have:=h p hp;omega
theorem JbV:∀{ps qs:List Pr},Good ps->Good qs->(∀x,J3 ps x=J3 qs x)->ps=qs
 | [],[],_,_,_=>rfl
 | [],q::qs,_,g,h=>by have:=h q.1;rw[WR (QD _) (by have:=g.one 0 q rfl;omega)] at this;cases this
 | p::ps,[],g,_,h=>by have:=h p.1;rw[WR (QD _) (by have:=g.one 0 p rfl;omega)] at this;cases this
 | p::ps,q::qs,g,g',h=>by
  have hp:=g.one 0 p rfl
  have hq:=g'.one 0 q rfl
  have le:∀{p:Pr} {ps:List Pr} {x:Int},Good (p::ps)->J3 (p::ps) x=true->p.1<=x:=fun {p ps x} g e=>by
   obtain⟨r,hr,h1,h2⟩:=has_iff.mp e;rcases Qh.mp hr with z|z
   ·rw[<- z];exact h1
   ·have:=Good.first g r z
    have:=g.one 0 p rfl;omega
  have e1:p.1=q.1:=by
   have a:=le g' (x:=p.1) (by rw[<- h];exact WR (QD _) (by omega))
   have b:=le g (x:=q.1) (by rw[h];exact WR (QD _) (by omega));omega
  have off:∀{p:Pr} {ps:List Pr},Good (p::ps)->J3 (p::ps) (p.1+p.2)=false:=fun {p ps} g=>by rw[JbX (QD _)];exact Vs fun z hz=>Good.first g z hz
  have e2:p.2=q.2:=by
   have a:=h (p.1+p.2);rw[off g] at a
   have b:=h (q.1+q.2);rw[off g'] at b
   by_cases c:p.2<q.2
   ·rw[WR (p:=q) (by omega) (by omega)] at a;cases a
   ·by_cases c':q.2<p.2
    ·rw[WR (p:=p) (by omega) (by omega)] at b;cases b
    ·omega
  have e:p=q:=KO e1 e2;subst e;rw[JbV (Good.cons' g) (Good.cons' g') fun x=>?_]
  by_cases c:p.1+p.2<=x
  ·have:=h x
   rwa [JbX c,JbX c] at this
  ·rw[Vs fun z hz=>by have:=Good.first g z hz;omega,Vs fun z hz=>by have:=Good.first g' z hz;omega]
theorem Jhf(a b:Int):a<b\/b<=a:=by omega
theorem V3{ps:List Pr}(h:∀p∈ps,0<=p.2){x y:Int}(hxy:x<=y):JH ps x<=JH ps y:=by
 induction ps with
 | nil=>exact QD _
 | cons p r ih =>
  have i:=ih fun q hq=>h q (Qc _ hq)
  rw[JL,JL];exact Int.add_le_add (Rk.mpr ⟨LV _ _,MT (Rl.mpr ⟨MX _ _,MT (KC _ _) (by omega)⟩) (Int.le_max_right _ _)⟩) i
theorem Vp{ps:List Pr}(g:Good ps){a:Int}:∀n:Nat,JH ps (a+(n:Int))<=JH ps a+(n:Int)/\((∀y,a<=y->y<a+(n:Int)->J3 ps y=true)->JH ps (a+(n:Int))=JH ps a+(n:Int))/\((∀y,a<=y->y<a+(n:Int)->J3 ps y=false)->JH ps (a+(n:Int))=JH ps a)
 | 0=>by simp
 | n+1=>by
  obtain⟨i1,i2,i3⟩:=Vp g (a:=a) n;have e:a+((n+1:Nat):Int)=a+(n:Int)+1:=by omega
  rw[e,ZK (a+(n:Int)) g];refine⟨by split <;> omega,fun h=>?_,fun h=>?_⟩
  ·rw[if_pos (h (a+(n:Int)) (by omega) (by omega)),i2 fun y h1 h2=>h y h1 (by omega)];omega
  ·rw[if_neg (by rw[h (a+(n:Int)) (by omega) (by omega)];simp),i3 fun y h1 h2=>h y h1 (by omega),Ls]
theorem VN{ps:List Pr}(g:Good ps){x y:Int}(h:x<=y):JH ps y<=JH ps x+(y-x):=by have:=(Vp g (a:=x) (y-x).toNat).1;rw[show x+((y-x).toNat:Int)=y by omega] at this;omega
theorem Jd9{ps:List Pr}(g:Good ps){x y:Int}(h:x<=y)(hb:∀z,x<=z->z<y->J3 ps z=true):JH ps y=JH ps x+(y-x):=by
 have:=(Vp g (a:=x) (y-x).toNat).2.1 fun z h1 h2=>hb z h1 (by omega (config:={}))
 rw[show x+((y-x).toNat:Int)=y by omega (config:={})] at this;omega (config:={})
theorem Jd8{ps:List Pr}(g:Good ps){x y:Int}(h:x<=y)(hb:∀z,x<=z->z<y->J3 ps z=false):JH ps y=JH ps x:=by
 have:=(Vp g (a:=x) (y-x).toNat).2.2 fun z h1 h2=>hb z h1 (by omega (config:={}))
 rw[show x+((y-x).toNat:Int)=y by omega (config:={})] at this;omega (config:={})
noncomputable def edF(ps:List Pr):Nat->Int->List Int->List Pr
 | _,_,[]=>[]
 | i,c,s::r=>(s+2*(i:Int)-(JH ps s-c),JH ps s-c+1)::edF ps (i+1) (JH ps s) r
noncomputable def flF(ps:List Pr):Int->List Int->List Pr
 | _,[]=>[]
 | c,s::r=>(s-(JH ps s-c),JH ps s-c)::flF ps (JH ps s) r
theorem JmB(ps:List Pr):∀(sp:List Int) (i:Nat) (c:Int),byR (2*(i:Int)) (edF ps i c sp)=flF ps c sp
 | [],_,_=>rfl
 | s::r,i,c=>by
  rw[edF,byR,flF];congr 1
  ·congr 1 <;> dsimp only <;> omega
  ·rw[<- JmB ps r (i+1) (JH ps s)];congr 1
theorem Jem(ps:List Pr):∀(sp:List Int) (i:Nat) (c:Int),(edF ps i c sp).length=sp.length
 | [],_,_=>rfl
 | s::r,i,c=>by rw[edF,Qo,Qo,Jem ps r]
theorem Jfx{ps:List Pr}(g:Good ps):∀(sp:List Int) (i:Nat) (s0:Int),(s0::sp).Pairwise (·<=·)->Good (edF ps i (JH ps s0) sp)
 | [],_,_,_=>Good.nil
 | s::r,i,s0,hs=>by
  obtain⟨h1,h2⟩:=Qw.mp hs;have h3:=h1 s Qd;have m1:=V3 (fun p hp=>by have:=Good.all g p hp;omega) h3;rw[edF];refine Good.mk' (by dsimp only;omega) (fun q e=>?_) (Jfx g r (i+1) s h2)
  cases r with
  | nil=>simp[edF] at e
  | cons s' r=>obtain⟨h4,_⟩:=Qw.mp h2;have h5:=h4 s' Qd;have l1:=VN g h5;simp[edF] at e;subst e;dsimp only;omega
theorem JfF{ps:List Pr}(g:Good ps):∀(sp:List Int) (s0:Int),(s0::sp).Pairwise (·<=·)->Wide 0 (flF ps (JH ps s0) sp)
 | [],_,_=>⟨fun i p e=>by simp[flF] at e,fun i p q e=>by simp[flF] at e⟩
 | s::r,s0,hs=>by
  obtain⟨h1,h2⟩:=Qw.mp hs;have h3:=h1 s Qd;have m1:=V3 (fun p hp=>by have:=Good.all g p hp;omega) h3;have ih:=JfF g r s h2;rw[flF];refine⟨fun i p e=>?_,fun i p q e1 e2=>?_⟩
  ·cases i with
   | zero=>simp at e;subst e;dsimp only;omega
   | succ i=>exact ih.one i p (by simpa using e)
  ·cases i with
   | zero =>
    simp at e1;subst e1
    cases r with
    | nil=>simp[flF] at e2
    | cons s' r=>obtain⟨h4,_⟩:=Qw.mp h2;have h5:=h4 s' Qd;have l1:=VN g h5;simp[flF] at e2;subst e2;dsimp only;omega
   | succ i=>exact ih.gap i p q (by simpa using e1) (by simpa using e2)
theorem Jiw{ps:List Pr}(g:Good ps):∀(sp:List Int) (s0:Int),(s0::sp).Pairwise (·<=·)->(∀p∈ps,s0<p.1+p.2->p.1+p.2∈sp) ->
 (∀x,s0<=x->J3 (flF ps (JH ps s0) sp) x=J3 ps x)/\∀x,x<s0->J3 (flF ps (JH ps s0) sp) x=false
 | [],s0,_,he=>by
  refine⟨fun x hx=>?_,fun x hx=>rfl⟩
  have:J3 ps x=false:=JbW fun p hp h1=>by
   rcases Jhf s0 (p.1+p.2) with z|z
   ·cases he p hp z
   ·omega
  rw[this];rfl
 | s::r,s0,hs,he=>by
  obtain⟨h1,h2⟩:=Qw.mp hs;have h3:=h1 s Qd;have hr:∀t∈r,s<=t:=(Qw.mp h2).1
  have lip:=VN g h3
  obtain⟨i1,i2⟩:=Jiw g r s h2 fun p hp h=>by
   rcases Qh.mp (he p hp (by omega)) with z|z
   ·omega
   ·exact z
  have run:∀y,s0<=y->y<s->J3 ps y=true->∀z,y<=z->z<s->J3 ps z=true:=fun y y1 y2 hy z z1 z2=>by
   obtain⟨p,hp,a1,a2⟩:=has_iff.mp hy
   have:s<=p.1+p.2:=by
    rcases Qh.mp (he p hp (by omega)) with w|w
    ·omega
    ·exact hr _ w
   exact has_iff.mpr ⟨p,hp,by omega,by omega⟩
  rw[flF];refine⟨fun x hx=>?_,fun x hx=>?_⟩
  ·rw[Yf];rcases Jhf x s with hxs|hxs
   ·rw[i2 x hxs,Mw];dsimp only
    cases hb:J3 ps x with
    | true =>
     have f1:=Jd9 g (x:=x) (y:=s) (by omega) fun z z1 z2=>run x hx hxs hb z z1 z2
     have f2:=V3 (ps:=ps) (fun p hp=>by have:=Good.all g p hp;omega) hx;rw[decide_eq_true (by omega),decide_eq_true (by omega)];rfl
    | false =>
     have f1:=Jd8 g (x:=s0) (y:=x+1) (by omega) fun z z1 z2=>by
      cases hz:J3 ps z with
      | false=>rfl
      | true=>have:=run z z1 (by omega) hz x (by omega) hxs;rw[hb] at this;cases this
     have f2:=VN g (x:=x+1) (y:=s) (by omega);rw[decide_eq_false (by omega)];rfl
   ·rw[i1 x hxs];dsimp only;rw[decide_eq_false (p:=x<_) (by omega),M8,GX]
  ·rw[Yf,i2 x (by omega)];dsimp only;rw[decide_eq_false (by omega)];rfl
theorem JnK(ps:List Pr)(sp:List Int):∃s0,(∀p∈ps,s0<p.1)/\∀s∈sp,s0<s:=by
 have h1:∃a,∀p∈ps,a<p.1:=by
  induction ps with
  | nil=>exact⟨0,fun p hp=>by cases hp⟩
  | cons p r ih =>
   obtain⟨a,ha⟩:=ih;refine⟨min a (p.1-1),fun q hq=>?_⟩;rcases Qh.mp hq with z|z
   ·subst z;omega (config:={})
   ·have:=ha q z;omega (config:={})
 have h2:∃a,∀s∈sp,a<s:=by
  induction sp with
  | nil=>exact⟨0,fun p hp=>by cases hp⟩
  | cons p r ih =>
   obtain⟨a,ha⟩:=ih;refine⟨min a (p-1),fun q hq=>?_⟩;rcases Qh.mp hq with z|z
   ·subst z;omega (config:={})
   ·have:=ha q z;omega (config:={})
 obtain⟨a,ha⟩:=h1;obtain⟨b,hb⟩:=h2;exact⟨min a b,fun p hp=>by have:=ha p hp;omega (config:={}),fun s hs=>by have:=hb s hs;omega (config:={})⟩
theorem Zn(x:Int):∀(r:List Pr) (cur:Pr),(∀p∈r,0<=p.2)->0<=cur.2->J3 (clF cur r) x=J3 (cur::r) x
 | [],cur,_,_=>rfl
 | p::r,cur,h,hc=>by
  have h0:=h p Qd
  have hr:=fun q hq=>h q (Qc p hq)
  rw[clF];split
  ·next e=>rw[Zn x r _ hr (by dsimp only;omega),Yf,Yf,Yf,<- LC];congr 1;rw[G5];simp only[Lc,QT,decide_eq_true_eq];constructor <;> intro z <;> omega
  ·split
   ·rw[Yf,Zn x r p hr h0,<- Yf]
   ·rw[Zn x r cur hr hc,Yf,Yf cur,Yf p];rw[show(decide (p.1<=x) && decide (x<p.1+p.2))=false by
     rw[M4];rcases Jhf x p.1 with z|z
     ·exact .inl (decide_eq_false (by omega))
     ·exact .inr (decide_eq_false (by omega)),GX]
theorem JbE(x:Int):∀(ps:List Pr),(∀p∈ps,0<=p.2)->J3 (clN ps) x=J3 ps x
 | [],_=>rfl
 | p::r,h=>by
  have h0:=h p Qd
  have hr:=fun q hq=>h q (Qc p hq)
  rw[clN];split
  ·exact Zn x r p hr h0
  ·rw[JbE x r hr,Yf p];rw[show(decide (p.1<=x) && decide (x<p.1+p.2))=false by
    rw[M4];rcases Jhf x p.1 with z|z
    ·exact .inl (decide_eq_false (by omega))
    ·exact .inr (decide_eq_false (by omega)),GX]
theorem Jkh{ps:List Pr}(g:Good ps){sp:List Int}(hs:sp.Pairwise (·<=·))(he:∀p∈ps,p.1+p.2∈sp):Good (edF ps 0 0 sp)/\thF (edF ps 0 0 sp)=ps:=by
 obtain⟨s0,l1,l2⟩:=JnK ps sp;have hb:JH ps s0=0:=ZL fun p hp=>by have:=l1 p hp;omega
 have hs':(s0::sp).Pairwise (·<=·):=Qw.mpr ⟨fun s h=>by have:=l2 s h;omega,hs⟩
 have ge:=Jfx g sp 0 s0 hs'
 have wd:=JfF g sp s0 hs';obtain⟨f1,f2⟩:=Jiw g sp s0 hs' fun p hp _=>he p hp
 rw[hb] at ge wd f1 f2;refine⟨ge,?_⟩
 have e:thF (edF ps 0 0 sp)=clN (flF ps 0 sp):=by unfold thF;rw[<- VQ,<- JmB ps sp 0 0];rfl
 refine JbV (Yn ge) g fun x=>?_
 rw[e,JbE x _ fun p hp=>by obtain⟨i,hi,rfl⟩:=Gw.mp hp;exact wd.one i _ (by simp)]
 rcases Jhf x s0 with z|z
 ·rw[f2 x z,Vs fun p hp=>by have:=l1 p hp;omega]
 ·exact f1 x z
theorem Jfy(ps:List Pr):∀(sp:List Int) (i:Nat) (c:Int) (j:Nat) (q:Pr),(edF ps i c sp)[j]?=some q->∃s,sp[j]?=some s/\q.1+q.2-1-2*((i+j:Nat):Int)=s
 | [],_,_,j,q,e=>by simp[edF] at e
 | s::r,i,c,0,q,e=>by simp[edF] at e;subst e;exact⟨s,rfl,by dsimp only;omega⟩
 | s::r,i,c,j+1,q,e=>by obtain⟨s',h1,h2⟩:=Jfy ps r (i+1) (JH ps s) j q (by simpa [edF] using e);exact⟨s',by simpa using h1,by rw[<- h2];congr 1;omega⟩
noncomputable def YK:List Pr->Int->List Pr
 | [],s=>[(s,1)]
 | p::r,s=>if p.1=s then(p.1,p.2+1)::r else p::YK r s
theorem Vd(s:Int):∀a:List Pr,(YK a s).map (·.1)=JK (a.map (·.1)) s
 | []=>rfl
 | p::r=>by
  have ih:=Vd s r;unfold JK V5 at ih ⊢;rw[YK,Qe,GM]
  by_cases h:p.1=s
  ·rw[if_pos h,decide_eq_true h,Rr,if_pos rfl];rfl
  ·rw[if_neg h,decide_eq_false h,GX,Qe,ih];split <;> rfl
theorem JdQ:∀(ks:List Int) (vs:List Int) (s v:Int),s∉ks->setK ks vs s v=vs
 | [],_,_,_,_=>rfl
 | _::_,[],_,_,_=>rfl
 | k::ks,x::vs,s,v,h=>by rw[setK,if_neg fun e=>h (by rw[e];exact Qd),JdQ ks vs s v fun m=>h (Qc _ m)]
theorem hasK_mem{ks:List Int}{s:Int}:V5 ks s=true↔s∈ks:=by
 unfold V5;rw[K4];constructor
 ·rintro⟨k,hk,e⟩;rw[decide_eq_true_eq] at e;subst e;exact hk
 ·intro h;exact⟨s,h,decide_eq_true rfl⟩
theorem Jbf(s:Int):∀a:List Pr,(a.map (·.1)).Nodup->(YK a s).map (·.2)=putDs (a.map (·.1)) (a.map (·.2)) s ((look (a.map (·.1)) (a.map (·.2)) s).getD 0+1)
 | [],_=>rfl
 | p::r,hn=>by
  rw[Qe,QP] at hn;have ih:=Jbf s r hn.2;rw[YK,Qe,Qe]
  by_cases h:p.1=s
  ·rw[if_pos h];unfold putDs;rw[if_pos (hasK_mem.mpr (by rw[h];exact Qd)),look,if_pos h,setK,if_pos h,JdQ _ _ _ _ (by rw[<- h];exact hn.1)];rfl
  ·rw[if_neg h,Qe,ih,look,if_neg h];unfold putDs
   have e:V5 (p.1::r.map (·.1)) s=V5 (r.map (·.1)) s:=by unfold V5;rw[GM,decide_eq_false h,GX]
   rw[e];split
   ·rw[setK,if_neg h]
   ·rfl
theorem Zh{ks:List Int}(s:Int)(h:ks.Nodup):(JK ks s).Nodup:=by
 unfold JK;split
 ·exact h
 ·next c =>
  rw[Lr];refine⟨h,by simp,fun a ha b hb=>?_⟩;have:b=s:=by simpa using hb
  subst this;intro e;subst e;exact c (hasK_mem.mpr ha)
noncomputable def lk(k:Int):List Pr->Int
 | []=>0
 | p::r=>if p.1=k then p.2 else lk k r
theorem JfQ(k s:Int):∀a:List Pr,lk k (YK a s)=lk k a+(if s=k then 1 else 0)
 | []=>by simp[YK,lk]
 | p::r=>by
  rw[YK]
  by_cases h:p.1=s
  ·rw[if_pos h,lk,lk];dsimp only
   by_cases c:p.1=k
   ·rw[if_pos c,if_pos c,if_pos (by omega)]
   ·rw[if_neg c,if_neg c,if_neg (by omega),Ls]
  ·rw[if_neg h,lk,lk,JfQ k s r]
   by_cases c:p.1=k
   ·rw[if_pos c,if_pos c,if_neg (by omega),Ls]
   ·rw[if_neg c,if_neg c]
theorem JeC{a:List Pr}(hn:(a.map (·.1)).Nodup){p:Pr}(hp:p∈a):lk p.1 a=p.2:=by
 induction a with
 | nil=>cases hp
 | cons q r ih =>
  rw[Qe,QP] at hn;rw[lk];rcases Qh.mp hp with z|z
  ·subst z;rw[if_pos rfl]
  ·rw[if_neg fun e=>hn.1 (by rw[e];exact Qx.mpr ⟨p,z,rfl⟩)];exact ih hn.2 z
noncomputable def UK(L:List Int):List Pr:=L.foldl YK []
theorem Jfo:∀(L:List Int) (a:List Pr),(a.map (·.1)).Nodup->((L.foldl YK a).map (·.1)).Nodup/\(∀k,lk k (L.foldl YK a)=lk k a+(L.count k:Int))/\∀k,k∈(L.foldl YK a).map (·.1)↔k∈a.map (·.1)\/k∈L
 | [],a,h=>⟨h,fun k=>by simp,fun k=>by simp⟩
 | s::L,a,h=>by
  have hk:=Vd s a
  have hn:((YK a s).map (·.1)).Nodup:=by rw[hk];exact Zh s h
  obtain⟨i1,i2,i3⟩:=Jfo L (YK a s) hn;refine⟨i1,fun k=>?_,fun k=>?_⟩
  ·rw[QL,i2 k,JfQ,Gf]
   by_cases c:s=k
   ·rw[if_pos c,if_pos (by simpa using c)];omega
   ·rw[if_neg c,if_neg (by simpa using c)];omega
  ·rw[QL,i3 k,hk];unfold JK;split
   ·next c =>
    have c':=hasK_mem.mp c;constructor
    ·rintro(z|z)
     ·exact .inl z
     ·exact .inr (Qc _ z)
    ·rintro(z|z)
     ·exact .inl z
     ·rcases Qh.mp z with w|w
      ·subst w;exact .inl c'
      ·exact .inr w
   ·rw[Q6,QW,Qh,or_assoc]
theorem Jib(L:List Int):((UK L).map (·.1)).Nodup/\(∀p∈UK L,p.2=(L.count p.1:Int)/\p.1∈L)/\∀k∈L,(k,(L.count k:Int))∈UK L:=by
 obtain⟨i1,i2,i3⟩:=Jfo L [] (by simp)
 have v:∀p∈UK L,p.2=(L.count p.1:Int):=fun p hp=>by rw[<- JeC i1 hp];have:=i2 p.1;rw[show lk p.1 []=0 from rfl,Lo] at this;exact this
 refine⟨i1,fun p hp=>⟨v p hp,?_⟩,fun k hk=>?_⟩
 ·have:=(i3 p.1).mp (Qx.mpr ⟨p,hp,rfl⟩)
  simpa using this
 ·obtain⟨p,hp,e⟩:=Qx.mp ((i3 k).mpr (.inr hk));subst e;rw[<- v p hp];exact hp
theorem Jfp:∀(L:List Int) (a:List Pr),(a.map (·.1)++L).Nodup->L.foldl YK a=a++L.map fun s=>(s,1)
 | [],a,_=>by simp
 | s::L,a,h=>by
  have e:YK a s=a++[(s,1)]:=by
   have hs:s∉a.map (·.1):=fun m=>by have:=(Lr.mp h).2.2 s m s Qd;exact this rfl
   clear h
   induction a with
   | nil=>rfl
   | cons p r ih=>rw[YK,if_neg fun z=>hs (by rw[<- z];exact Qd),ih fun m=>hs (Qc _ m)];rfl
  rw[QL,e,Jfp L (a++[(s,1)]) (by simpa using h)];simp
theorem Jdg(ps:List Pr)(x:Int)(h:ps.length<=1000):Y4 [.sh (.row (ps.map prE)),.sh (.int x)]=some (.sh (.bl (J3 ps x))):=by
 unfold Y4;walk_at "ev";rw[Ya (g:=fun p=>D.bl (decide (p.1<=x) && decide (x<p.1+p.2)))]
 ·walk_at "ev";rw[JkR (ns:=ps.map fun p=>decide (p.1<=x) && decide (x<p.1+p.2)) (by simp[Sl.q])];walk_at "ev";unfold J3;rw[List.any_map];rfl
 ·intro p hp;simp only[prE];walk_at "ev"
  by_cases c:p.1<=x
  ·simp only[c];walk_at "ev"
  ·simp only[c];walk_at "ev";rfl
theorem Jli(ps:List Pr)(x:Int)(h:ps.length<=1000):Ys [.sh (.row (ps.map prE)),.sh (.int x)]=some (.sh (.int (JH ps x))):=by
 unfold Ys;walk_at "ev";rw[Ya (g:=fun p=>D.int (max 0 (min p.2 (x-p.1))))]
 ·walk_at "ev";rw[VS (ns:=ps.map fun p=>max 0 (min p.2 (x-p.1))) (by simp[Sl.q])];walk_at "ev";rfl
 ·intro p hp;simp only[prE];walk_at "ev"
theorem Zt{α β:Type}(f:Nat->α->β)(xs:List α):xs.mapIdx f=xs.zipIdx.map fun x=>f x.2 x.1:=by
 refine Ge fun i=>?_
 rw[QC,Qq,Ko,Ke];simp;rfl
theorem Jpq(ps:List Pr)(k:Int)(h:ps.length<=1000):Yb [.sh (.row (ps.map prE)),.sh (.int k)]=some (.own ((byF k ps).map prE)):=by
 unfold Yb;walk_at "ev";rw[ZS,Zt,Ya (g:=fun x:Pr×Nat=>prE (x.1.1+2*k*(x.2:Int),x.1.2+k))]
 ·rw[if_pos (by rw[Qk,List.length_zipIdx];omega (config:={}))];walk_at "ev";rw[show ps.zipIdx.map (fun x=>prE (x.1.1+2*k*(x.2:Int),x.1.2+k))=(byF k ps).map prE by unfold byF;rw[Zt,Qr];rfl]
 ·intro x hx
  have hx2:x.2<ps.length:=by have:=List.snd_lt_of_mem_zipIdx hx;omega (config:={})
  walk_at "ev";rw[ZT,WQ];walk_at "ev";rfl
theorem Jnb{ps:List Pr}(g:Good ps)(hne:ps≠[]):∃c,(ps.map (·.2)++U3 ps).min?=some c/\1<=c/\Wide c ps/\JhO c ps:=by
 cases hm:(ps.map (·.2)++U3 ps).min? with
 | none =>
  rw[List.min?_eq_none_iff] at hm
  cases ps with
  | nil=>exact absurd rfl hne
  | cons p r=>simp at hm
 | some c =>
  obtain⟨h1,h2⟩:=M1.mp hm
  have gg:∀(ps:List Pr) (x:Int),x∈U3 ps->∃(i:Nat) (p q:Pr),ps[i]?=some p/\ps[i+1]?=some q/\q.1-(p.1+p.2)=x:=by
   intro ps
   induction ps with
   | nil=>intro x hx;cases hx
   | cons p r ih =>
    intro x hx
    cases r with
    | nil=>cases hx
    | cons q r =>
     rcases Qh.mp hx with z|z
     ·exact⟨0,p,q,rfl,rfl,z.symm⟩
     ·obtain⟨i,a,b,e1,e2,e3⟩:=ih x z;exact⟨i+1,a,b,by simpa using e1,by simpa using e2,e3⟩
  have gm:∀(ps:List Pr) (i:Nat) (p q:Pr),ps[i]?=some p->ps[i+1]?=some q->q.1-(p.1+p.2)∈U3 ps:=by
   intro ps
   induction ps with
   | nil=>intro i p q e;simp at e
   | cons a r ih =>
    intro i p q e1 e2
    cases r with
    | nil=>simp at e2
    | cons b r =>
     cases i with
     | zero=>simp at e1 e2;subst e1 e2;exact Qd
     | succ i=>exact Qc _ (ih i p q (by simpa using e1) (by simpa using e2))
  have w:Wide c ps:=⟨fun i p e=>h2 _ (K0 _ (Qx.mpr ⟨p,QF e,rfl⟩)),fun i p q e1 e2=>h2 _ (Gr _ (gm ps i p q e1 e2))⟩
  have t:JhO c ps:=by
   rcases Q6.mp h1 with z|z
   ·obtain⟨p,hp,e⟩:=Qx.mp z;exact .inl ⟨p,hp,e⟩
   ·exact .inr (gg ps c z)
  refine⟨c,rfl,?_,w,t⟩;rcases t with ⟨p,hp,e⟩|⟨i,p,q,e1,e2,e⟩
  ·have:=Good.all g p hp;omega
  ·have:=g.gap i p q e1 e2;omega
theorem Jdh(ps:List Pr)(h:ps.length<=1000):J0 [.sh (.row (ps.map prE))]=some (match (ps.map (·.2)++U3 ps).min? with|some c=>.sh (.int c)|none=>.sh .non):=by
 have hgl:=Jbc ps;unfold J0;walk_at "ev";rw[Ya (g:=fun p=>D.int p.2)]
 ·walk_at "ev";rw[JnM _ h];walk_at "ev";rw[show ps.map (fun p=>D.int p.2)++(U3 ps).map .int=(ps.map (·.2)++U3 ps).map D.int by rw[Qz,Qr];rfl];walk_at "ev";cases (ps.map (·.2)++U3 ps).min? <;> rfl
 ·intro p hp;simp only[prE];walk_at "ev"
noncomputable def Vq(acc:List Pr)(p:Pr):List Pr:=match acc[acc.length-1]? with
 | some q=>if q.1+q.2=p.1 then acc.dropLast++[(q.1,q.2+p.2)] else if 0<p.2 then acc++[p] else acc
 | none=>if 0<p.2 then acc++[p] else acc
theorem Wk:∀(r acc:List Pr) (cur:Pr),r.foldl Vq (acc++[cur])=acc++clF cur r
 | [],acc,cur=>rfl
 | p::r,acc,cur=>by
  have e:(acc++[cur])[(acc++[cur]).length-1]?=some cur:=by simp
  have es:Vq (acc++[cur]) p=if cur.1+cur.2=p.1 then acc++[(cur.1,cur.2+p.2)] else if 0<p.2 then acc++[cur]++[p] else acc++[cur]:=by unfold Vq;rw[e];dsimp only;rw[List.dropLast_concat]
  rw[QL,clF,es];split
  ·exact Wk r acc _
  ·split
   ·rw[Wk r (acc++[cur]) p,Gu];rfl
   ·exact Wk r acc cur
theorem Ja6:∀ps:List Pr,ps.foldl Vq []=clN ps
 | []=>rfl
 | p::r=>by
  rw[QL,clN];show r.foldl Vq (if 0<p.2 then []++[p] else [])=_;split
  ·exact Wk r [] p
  ·exact Ja6 r
theorem JiY(ps:List Pr)(h:ps.length<=1000):Yx [.sh (.lst (ps.map prE))]=some (.own ((clN ps).map prE)):=by
 unfold Yx;walk_at "ev";rw[GD];refine YT (fun(rest:List Pr) (acc:List Pr) E=>∃j2 j3 j4,E=[.sh (.lst (ps.map prE)),.own (acc.map prE),j2,j3,j4]/\acc.length+rest.length<=1000) Vq [] ⟨.no,.no,.no,rfl,by simpa using h⟩ ?_ ?_
 ·rintro p rest acc E ⟨j2,j3,j4,rfl,hz⟩;rw[Qo] at hz;simp only[prE];walk_at "ev"
  cases he:acc[acc.length-1]? with
  | none =>
   have hn:acc=[]:=by
    cases acc with
    | nil=>rfl
    | cons a acc=>simp at he
   subst hn;rw[show(!(([]:List Pr).map prE).isEmpty)=false from rfl];walk_at "ev";have es:Vq [] p=if 0<p.2 then [p] else []:=rfl
   rw[es]
   by_cases c:0<p.2
   ·rw[decide_eq_true c,if_pos c];walk_at "ev";exact⟨.sh (.int p.1),.sh (.int p.2),j4,rfl,by simp at hz ⊢;omega⟩
   ·rw[decide_eq_false c,if_neg c];walk_at "ev";exact⟨.sh (.int p.1),.sh (.int p.2),j4,rfl,by simp at hz ⊢;omega⟩
  | some q =>
   have hl0:acc.length-1<acc.length:=(Qn.mp he).1
   have hne:(!(acc.map prE).isEmpty)=true:=by cases acc with|nil=>simp at he|cons _ _=>rfl
   have hgq:(acc.map prE)[acc.length-1]?=some (prE q):=by rw[Qq,he];rfl
   have es:Vq acc p=if q.1+q.2=p.1 then acc.dropLast++[(q.1,q.2+p.2)] else if 0<p.2 then acc++[p] else acc:=by unfold Vq;rw[he]
   have hdl:acc.dropLast.length=acc.length-1:=M9;rw[hne,Jby,JhY he,es];walk_at "ev";rw[VS (s:=.sh (prE q)) (ns:=[q.1,q.2]) rfl];walk_at "ev";rw[show([q.1,q.2]:List Int).sum=q.1+q.2 by simp]
   by_cases c:q.1+q.2=p.1
   ·rw[decide_eq_true c,if_pos c,hgq];walk_at "ev";rw[<- List.map_dropLast];walk_at "ev";rw[ZT,WQ];walk_at "ev";refine⟨.sh (.int p.1),.sh (.int p.2),.sh (prE q),?_,by rw[Qv,Gg];omega⟩;rw[Qz];rfl
   ·rw[decide_eq_false c,if_neg c];walk_at "ev"
    by_cases c2:0<p.2
    ·rw[decide_eq_true c2,if_pos c2];walk_at "ev";refine⟨.sh (.int p.1),.sh (.int p.2),j4,?_,by rw[Qv,Gg];omega⟩;rw[Qz];rfl
    ·rw[decide_eq_false c2,if_neg c2];walk_at "ev";exact⟨.sh (.int p.1),.sh (.int p.2),j4,rfl,by omega⟩
 ·rintro E' ⟨j2,j3,j4,rfl,_⟩;rw[Ja6];walk_at "ev"
noncomputable abbrev wC:En->Option Bool:=(tAnd? (tB? (e2 fGt (Jd 3) (eC (.int 0)))) (tTru? (e1 UV (Jd 2))))
noncomputable abbrev wB:Es:=(Jy (JE 4 (eF Jeq (aC (Jd 3) (aC (eU 1 J0 (aC (Jd 2) a0)) a0)))) (Jy (JE 2 (eF JaO (aC (eU 1 Yx (aC (eU 2 Yb (aC (Jd 2) (aC (e1 JbN (Jd 4)) a0))) a0)) a0))) (Jfb (fun i j=>i-j) 3 (Jd 4))))
theorem Wf(x y:Sl)(left:List Pr)(n:Nat)(j4:Sl)(fuel:Nat)(h:n=0\/left=[]) :
 ((Y1 wC wB (fuel+1) [x,y,.sh (.row (left.map prE)),.sh (.int (n:Int)),j4]).bind (Je0 (U2 2))).bind Jen=some (.sh (.row ((thN n left).map prE))):=by
 have e:thN n left=left:=by
  rcases h with rfl|rfl
  ·rfl
  ·exact Jgw n
 rw[e,Y1]
 have hc:wC [x,y,.sh (.row (left.map prE)),.sh (.int (n:Int)),j4]=some false:=by
  show tAnd? _ _ _=_;walk_at "ev";rcases h with rfl | rfl
  ·rw[show decide ((0:Int)<((0:Nat):Int))=false from rfl];walk_at "ev"
  ·by_cases c:(0:Int)<(n:Int)
   ·rw[decide_eq_true c];walk_at "ev";rfl
   ·rw[decide_eq_false c];walk_at "ev"
 rw[hc];walk_at "ev"
theorem Jkl(x y:Sl):∀(m fuel:Nat) (left:List Pr) (n:Nat) (j4:Sl),Good left->left.length<=m->left.length<=30->m<fuel ->
 ((Y1 wC wB fuel [x,y,.sh (.row (left.map prE)),.sh (.int (n:Int)),j4]).bind (Je0 (U2 2))).bind Jen=some (.sh (.row ((thN n left).map prE))):=by
 intro m
 induction m with
 | zero =>
  intro fuel left n j4 g hm _ hf;obtain⟨f,rfl⟩:∃f,fuel=f+1:=⟨fuel-1,by omega⟩
  exact Wf x y left n j4 f (.inr (QE (by omega)))
 | succ m ih =>
  intro fuel left n j4 g hm h30 hf;obtain⟨f,rfl⟩:∃f,fuel=f+1:=⟨fuel-1,by omega⟩
  by_cases h0:n=0\/left=[]
  ·exact Wf x y left n j4 f h0
  ·have hn:n≠0:=fun z=>h0 (.inl z)
   have hl:left≠[]:=fun z=>h0 (.inr z)
   obtain⟨c,hc,c1,w,t⟩:=Jnb g hl;obtain⟨a,ha⟩:∃a:Nat,(a:Int)=min (n:Int) c:=⟨(min (n:Int) c).toNat,by omega⟩
   have hcl:=Jdh left (by omega);rw[hc] at hcl
   have et:thN a left=clN (byF (-(a:Int)) left):=JaE a w c1 (by omega)
   have gt:Good (thN a left):=U0 a g
   have lt:=(Wj (byF (-(a:Int)) left)).1;rw[Va,<- et] at lt
   have hcond:wC [x,y,.sh (.row (left.map prE)),.sh (.int (n:Int)),j4]=some true:=by
    show tAnd? _ _ _=_;walk_at "ev";rw[decide_eq_true (show(0:Int)<(n:Int) by omega)];walk_at "ev"
    cases left with
    | nil=>exact absurd rfl hl
    | cons _ _=>rfl
   have hbody:wB [x,y,.sh (.row (left.map prE)),.sh (.int (n:Int)),j4]=some (.nx [x,y,.sh (.row ((thN a left).map prE)),.sh (.int ((n-a:Nat):Int)),.sh (.int (a:Int))]):=by show Jy _ _ _=_;walk_at "ev";rw[hcl];walk_at "ev";rw[<- ha,Jpq _ _ (by omega)];walk_at "ev";rw[JiY _ (by rw[Va];omega),<- et];walk_at "ev";rw[Wm rfl gt (by omega)];walk_at "ev";rw[show(n:Int)-(a:Int)=((n-a:Nat):Int) by omega]
   have fin:thN n left=thN (n-a) (thN a left):=by rw[<- ZF];congr 1;omega
   rw[Y1,hcond,QM,if_pos rfl,hbody,QM,fin];dsimp only
   by_cases hac:(a:Int)=c
   ·have fw:=JaF t;rw[<- hac,<- et] at fw;exact ih f _ _ _ gt (by omega) (by omega) (by omega)
   ·obtain⟨f',rfl⟩:∃f',f=f'+1:=⟨f-1,by omega⟩
    exact Wf x y _ _ _ f' (.inl (by omega))
theorem WY(ps:List Pr)(n:Nat)(g:Good ps)(h30:ps.length<=30):Ye [.sh (.row (ps.map prE)),.sh (.int (n:Int))]=some (.sh (.row ((thN n ps).map prE))):=by unfold Ye;rw[show ∀(k:Nat) (s:Es) (ss:List Sl),Y5 k s ss=Y5 k s ss from fun _ _ _=>rfl];have hw:=Jkl (.sh (.row (ps.map prE))) (.sh (.int (n:Int))) 30 1000000 ps n .no g h30 h30 (by decide);walk_at "ev";rw[Wm rfl g h30];walk_at "ev";exact hw
noncomputable abbrev Tr:=Int×Int×Int
noncomputable def trE(t:Tr):D:=.tup [.int t.1,.int t.2.1,.int t.2.2]
noncomputable def owF(left:List Pr)(s:Int):Int:=if J3 left (s-1)=true/\J3 left s=false then 1 else 0
theorem JnN(ps:List Pr)(s:Int)(h:ps.length<=1000):Uq [.sh (.row (ps.map prE)),.sh (.int s)]=some (.sh (.int (owF ps s))):=by
 unfold Uq owF;walk_at "ev";rw[Jdg _ _ h];walk_at "ev"
 cases h1:J3 ps (s-1) with
 | false=>walk_at "ev";rw[if_neg (by simp)]
 | true =>
  walk_at "ev";rw[Jdg _ _ h];walk_at "ev"
  cases h2:J3 ps s with
  | false=>walk_at "ev";rw[if_pos (by simp)]
  | true=>walk_at "ev";rw[if_neg (by simp)]
theorem Jde{α β:Type}(f:α->β):∀(ks:List Int) (vs:List α) (n:Int),look ks (vs.map f) n=(look ks vs n).map f
 | [],_,_=>rfl
 | _::_,[],_=>rfl
 | k::ks,v::vs,n=>by
  rw[Qe];simp only[look];split
  ·rfl
  ·exact Jde f ks vs n
theorem JdP{α β:Type}(f:α->β):∀(ks:List Int) (vs:List α) (n:Int) (v:α),setK ks (vs.map f) n (f v)=(setK ks vs n v).map f
 | [],_,_,_=>rfl
 | _::_,[],_,_=>rfl
 | k::ks,x::vs,n,v=>by rw[Qe];simp only[setK,Qe];rw[JdP f ks vs n v];split <;> rfl
theorem Jhw{α β:Type}(f:α->β)(ks:List Int)(vs:List α)(n:Int)(v:α):putDs ks (vs.map f) n (f v)=(putDs ks vs n v).map f:=by
 unfold putDs;split
 ·exact JdP f ks vs n v
 ·rw[Qz];rfl
theorem JiV(ks:List Int)(vs:List Int)(n z:Int):(look ks (vs.map D.int) n).getD (.int z)=.int ((look ks vs n).getD z):=by rw[Jde];cases look ks vs n <;> rfl
theorem Jc6(a:List Pr)(s:Int):(YK a s).length<=a.length+1:=by
 induction a with
 | nil=>simp[YK]
 | cons p r ih =>
  rw[YK];split
  ·simp
  ·simp only[Qo];omega
theorem Jnv(a:List Pr):Jb1 (a.map (·.1)) ((a.map (·.2)).map D.int)=a.map prE:=by
 unfold Jb1
 induction a with
 | nil=>rfl
 | cons p r ih=>simp only[Qe,List.zipWith_cons_cons,ih];rfl
noncomputable def spF(qs:List Pr):List Int:=qs.zipIdx.map fun x=>x.1.1+x.1.2-1-2*(x.2:Int)
noncomputable def JY(qs:List Pr):List Tr:=(UK (spF qs)).map fun p=>(p.1,p.2,owF (thF qs) p.1)
theorem JbG(L:List Int):∀a:List Pr,(L.foldl YK a).length<=a.length+L.length:=by
 induction L with
 | nil=>intro a;simp
 | cons s L ih=>intro a;have h1:=ih (YK a s);have h2:=Jc6 a s;rw[QL,Qo];omega
theorem Ji1(qs:List Pr)(g:Good qs)(h30:qs.length<=30):Us [.sh (.row (qs.map prE))]=some (.own ((JY qs).map trE)):=by
 have h1:=WY qs 1 g h30;rw[show((1:Nat):Int)=1 from rfl,show thN 1 qs=thF qs from rfl] at h1
 have hl:=(Wj (byF (-1) qs)).1;rw[Va,show clN (byF (-1) qs)=thF qs from rfl] at hl;unfold Us;walk_at "ev";rw[h1];walk_at "ev";rw[ZS,Zt,GD];refine YT (f:=fun x:Pr×Nat=>D.tup [.int (x.2:Int),prE x.1]) (fun(rest:List (Pr×Nat)) (a:List Pr) E=>∃j3 j4 j5,E=[.sh (.row (qs.map prE)),.sh (.row ((thF qs).map prE)),.od (a.map (·.1)) ((a.map (·.2)).map .int),j3,j4,j5]/\(a.map (·.1)).Nodup/\a.length+rest.length<=30)
  (fun a x=>YK a (x.1.1+x.1.2-1-2*(x.2:Int))) [] ⟨.no,.no,.no,rfl,by simp,by simpa using h30⟩ ?_ ?_
 ·rintro x rest a E ⟨j3,j4,j5,rfl,hn,hz⟩;rw[Qo] at hz;have hil:=Jc6 a (x.1.1+x.1.2-1-2*(x.2:Int));walk_at "ev";rw[VS (s:=.sh (prE x.1)) (ns:=[x.1.1,x.1.2]) rfl];walk_at "ev";rw[show([x.1.1,x.1.2]:List Int).sum=x.1.1+x.1.2 by simp];rw[JiV];walk_at "ev";rw[Jhw,<- Vd,<- Jbf _ _ hn];refine⟨.sh (.int (x.2:Int)),.sh (prE x.1),_,rfl,?_,by omega⟩;rw[Vd];exact Zh _ hn
 ·rintro E' ⟨j3,j4,j5,rfl,hn,_⟩
  have ef:qs.zipIdx.foldl (fun a x=>YK a (x.1.1+x.1.2-1-2*(x.2:Int))) []=UK (spF qs):=by unfold UK spF;rw[List.foldl_map]
  have hcl:=JbG (spF qs) []
  have hsl:(spF qs).length=qs.length:=by unfold spF;simp
  rw[ef];walk_at "ev";rw[Jnv,Ya (g:=fun p=>trE (p.1,p.2,owF (thF qs) p.1))]
  ·rw[if_pos (by rw[Qk];show(UK (spF qs)).length<=_;unfold UK;simp at hcl;omega)];walk_at "ev";unfold JY;rw[Qr];rfl
  ·intro p hp;simp only[prE];walk_at "ev";rw[JnN _ _ (by omega)];walk_at "ev";rfl
theorem Jlj(ps:List Pr)(sp:List Int)(hp:ps.length<=1000)(hs:sp.length<=1000):Y7 [.sh (.row (ps.map prE)),.sh (.lst (sp.map .int))]=some (.own ((edF ps 0 0 sp).map prE)):=by
 unfold Y7;walk_at "ev";rw[ZS,Zt,GD];refine YT (f:=fun x:Int×Nat=>D.tup [.int (x.2:Int),.int x.1]) (fun(rest:List (Int×Nat)) (s:List Pr×Int) E=>∃j4 j5 j6 j7,E=[.sh (.row (ps.map prE)),.sh (.lst (sp.map .int)),.own (s.1.map prE),.sh (.int s.2),j4,j5,j6,j7]/\s.1.length+rest.length<=1000)
  (fun s x=>(s.1++[(x.1+2*(x.2:Int)-(JH ps x.1-s.2),JH ps x.1-s.2+1)],JH ps x.1)) ([],0) ⟨.no,.no,.no,.no,rfl,by simpa using hs⟩ ?_ ?_
 ·rintro x rest ⟨acc,c⟩ E ⟨j4,j5,j6,j7,rfl,hz⟩;rw[Qo] at hz;dsimp only at hz ⊢;walk_at "ev";rw[Jli _ _ hp];walk_at "ev";refine⟨.sh (.int (x.2:Int)),.sh (.int x.1),.sh (.int (JH ps x.1)),.sh (.int (JH ps x.1-c)),?_,by rw[Qv,Gg];omega (config:={})⟩;rw[Qz];rfl
 ·rintro E' ⟨j4,j5,j6,j7,rfl,_⟩
  have ef:∀(sp:List Int) (i:Nat) (acc:List Pr) (c:Int),((sp.zipIdx i).foldl (fun(s:List Pr×Int) x=>(s.1++[(x.1+2*(x.2:Int)-(JH ps x.1-s.2),JH ps x.1-s.2+1)],JH ps x.1)) (acc,c)).1=acc++edF ps i c sp:=by
   intro sp
   induction sp with
   | nil=>intro i acc c;simp[edF]
   | cons s r ih=>intro i acc c;rw[Ky,QL,ih,edF,Gu];rfl
  rw[ef,GP];walk_at "ev"
theorem Jll(ps:List Pr)(n:Nat)(g:Good ps)(h:ps.length<=30):Yz [.sh (.row (ps.map prE)),.sh (.int (n:Int))]=some (.sh (.row ((byF (n:Int) ps).map prE))):=by unfold Yz;walk_at "ev";rw[Jpq _ _ (by omega)];walk_at "ev";rw[Wm rfl (((Yc g).bys (k:=(n:Int))).good (by omega)) (by rw[Va];exact h)];walk_at "ev"
noncomputable def Ju(ps:List Pr):List Int:=ps.map fun p=>p.1+p.2
noncomputable def YO(prs:List Pr):List Int:=prs.flatMap fun p=>QH p.2.toNat p.1
theorem Jpu(ps prs:List Pr)(g:Good ps)(hn:∀p∈prs,0<=p.2)(h:(ps.length:Int)+(prs.map (·.2)).sum<=30)(hp:ps.length<=30)(hq:prs.length<=30) :
 Ur [.sh (.row (ps.map prE)),.sh (.lst (prs.map prE))]=some (.sh (.row ((edF ps 0 0 (UI (Ju ps++YO prs))).map prE))):=by
 have ml:∀(prs:List Pr),(∀p∈prs,0<=p.2)->((YO prs).length:Int)=(prs.map (·.2)).sum:=by
  intro prs
  induction prs with
  | nil=>intro _;rfl
  | cons p r ih =>
   intro hn;have h1:=ih fun q hq=>hn q (Qc _ hq)
   have h2:=hn p Qd;unfold YO at *;rw[Q9,Qv,GA,Qe,Qu];omega
 have hml:=ml prs hn
 have hsl:(UI (Ju ps++YO prs)).length=ps.length+(YO prs).length:=by rw[(YC _).length_eq,Qv];unfold Ju;rw[Qk]
 have ge:=(Jkh g (WB (Ju ps++YO prs)) fun p hp=>(YC _).mem_iff.mpr (K0 _ (Qx.mpr ⟨p,hp,rfl⟩))).1
 have el:=Jem ps (UI (Ju ps++YO prs)) 0 0;unfold Ur;walk_at "ev";rw[Ya (g:=fun p=>D.int p.2)]
 ·walk_at "ev";rw[VS (ns:=prs.map (·.2)) (by simp[Sl.q])];walk_at "ev";rw[decide_eq_false (by omega)];walk_at "ev";rw[Ya (g:=fun p=>D.int (p.1+p.2))]
  ·walk_at "ev";rw[show ps.map (fun p=>D.int (p.1+p.2))=(Ju ps).map D.int by unfold Ju;rw[Qr];rfl,GD];refine YT (fun(rest:List Pr) (L:List Int) E=>∃j3 j4,E=[.sh (.row (ps.map prE)),.sh (.lst (prs.map prE)),.own (L.map .int),j3,j4]/\(L.length:Int)+(rest.map (·.2)).sum<=30/\∀p∈rest,0<=p.2) (fun L p=>L++QH p.2.toNat p.1) (Ju ps) ⟨.no,.no,rfl,by unfold Ju;rw[Qk];exact h,hn⟩ ?_ ?_
   ·rintro p rest L E ⟨j3,j4,rfl,hz,hr⟩;have h2:=hr p Qd
    have hs:0<=(rest.map (·.2)).sum:=by
     have:=ml rest fun q hq=>hr q (Qc _ hq)
     omega
    rw[Qe,Qu] at hz;simp only[prE];walk_at "ev";rw[Jc1 (d:=D.int p.1) rfl (Jew ⟨by omega,by omega⟩) (by omega)];walk_at "ev";rw[GA,if_pos (by omega)];refine⟨.sh (.int p.1),.sh (.int p.2),?_,by rw[Qv,GA];omega,fun q hq=>hr q (Qc _ hq)⟩;rw[Qz,Mf]
   ·rintro E' ⟨j3,j4,rfl,_,_⟩
    have ef:∀(prs:List Pr) (L:List Int),prs.foldl (fun L p=>L++QH p.2.toNat p.1) L=L++YO prs:=by
     intro prs
     induction prs with
     | nil=>intro L;simp[YO]
     | cons p r ih=>intro L;rw[QL,ih];unfold YO;rw[Q9,Gu]
    rw[ef];have hlt:(Ju ps++YO prs).length<64:=by rw[Qv];unfold Ju;rw[Qk];omega
    walk_at "ev";rw[Jlj _ _ (by omega) (by omega)];walk_at "ev";rw[Wm rfl ge (by omega)];walk_at "ev"
  ·intro p hp;simp only[prE];walk_at "ev"
 ·intro p hp;simp only[prE];walk_at "ev"
theorem Jci{qs:List Pr}(g:Good qs)(s:Int):owF qs s=if s∈Ju qs then 1 else 0:=by
 unfold owF
 by_cases c:s∈Ju qs
 ·rw[if_pos c];obtain⟨p,hp,rfl⟩:=Qx.mp c;have h1:=Good.all g p hp;rw[if_pos];refine⟨has_iff.mpr ⟨p,hp,by omega,by omega⟩,?_⟩
  cases h:J3 qs (p.1+p.2) with
  | false=>rfl
  | true =>
   obtain⟨q,hq,a1,a2⟩:=has_iff.mp h;have pw:=Good.pw g;obtain⟨i,hi,rfl⟩:=Gw.mp hp;obtain⟨j,hj,rfl⟩:=Gw.mp hq;rcases Lq i j with z|z|z
   ·have:=Gx.mp pw i j hi hj z;omega
   ·subst z;omega
   ·have:=Gx.mp pw j i hj hi z;omega
 ·rw[if_neg c,if_neg];rintro⟨h1,h2⟩;obtain⟨p,hp,a1,a2⟩:=has_iff.mp h1;refine c (Qx.mpr ⟨p,hp,?_⟩);rcases Jhf s (p.1+p.2) with z|z
  ·rw[has_iff.mpr ⟨p,hp,by omega,z⟩] at h2;cases h2
  ·omega
theorem JkI{ps:List Pr}(g:Good ps):(Ju ps).Pairwise (·<·):=by
 unfold Ju;rw[Lu];refine(Good.pw g).imp_of_mem fun {a b} _ hb h=>?_
 have:=Good.all g b hb;omega
theorem JbM{ps:List Pr}(g:Good ps):(Ju ps).Nodup:=(JkI g).imp fun {a b} h=>by omega
theorem Jj2(k:Int)(ps:List Pr):spF (byF (k+1) ps)=Ju (byF k ps):=by
 unfold spF Ju;refine Ge fun i=>?_
 rw[Qq,Qq,Ko];unfold byF;rw[QC,QC]
 cases ps[i]? with
 | none=>rfl
 | some p =>
  simp only[Le];congr 1;have e:2*(k+1)*(i:Int)=2*k*(i:Int)+2*(i:Int):=by rw[Lm,LH];simp
  simp only[L3];rw[e];omega
theorem Jp2(ps:List Pr)(sp:List Int):spF (edF ps 0 0 sp)=sp:=by
 refine Ge fun i=>?_
 unfold spF;rw[Qq,Ko,Ke]
 cases h:(edF ps 0 0 sp)[i]? with
 | none=>rw[List.getElem?_eq_none_iff,Jem] at h;rw[GB h];rfl
 | some q=>obtain⟨s,h1,h2⟩:=Jfy ps sp 0 0 i q h;rw[h1];simp only[Le,Function.comp];rw[L3] at h2;rw[L3,h2]
theorem JhF{ps:List Pr}(g:Good ps)(n:Nat):JY (byF ((n:Int)+1) ps)=(byF (n:Int) ps).map fun p=>(p.1+p.2,1,1):=by
 have gw:=Yc g
 have gn:Good (byF (n:Int) ps):=(gw.bys (k:=(n:Int))).good (by omega)
 have et:thF (byF ((n:Int)+1) ps)=byF (n:Int) ps:=by have:=WG (n:=1) (gw.bys (k:=(n:Int)+1)) (by omega) (by omega);rw[show thF (byF ((n:Int)+1) ps)=thN 1 (byF ((n:Int)+1) ps) from rfl,this,JcM];congr 1;omega
 unfold JY UK;rw[et,Jj2,Jfp (Ju (byF (n:Int) ps)) [] (by simpa using JbM gn),GP,Qr];unfold Ju;rw[Qr];refine Qy fun p hp=>?_
 simp only[Function.comp];rw[Jci gn,if_pos (show p.1+p.2∈Ju (byF (n:Int) ps) from Qx.mpr ⟨p,hp,rfl⟩)]
theorem Ja9:∀{l:List Int} {k:Int},l.Nodup->k∈l->l.count k=1
 | [],_,_,h=>by cases h
 | a::l,k,hn,h=>by
  rw[QP] at hn;rw[Gf]
  by_cases c:a=k
  ·subst c;rw[Mg.mpr hn.1];simp
  ·have hm:k∈l:=(Qh.mp h).resolve_left fun z=>c z.symm
   rw[Ja9 hn.2 hm];simp[c]
theorem Z0(d:Int):∀(a:List Pr) (s:Int),YK (a.map fun p=>(p.1-d,p.2)) (s-d)=(YK a s).map fun p=>(p.1-d,p.2)
 | [],s=>rfl
 | p::r,s=>by
  rw[Qe,YK,YK];dsimp only
  by_cases h:p.1=s
  ·rw[if_pos h,if_pos (by omega)];rfl
  ·rw[if_neg h,if_neg (by omega),Z0 d r s];rfl
theorem Ja7(d:Int):∀(L:List Int) (a:List Pr),(L.map (·-d)).foldl YK (a.map fun p=>(p.1-d,p.2))=(L.foldl YK a).map fun p=>(p.1-d,p.2)
 | [],a=>rfl
 | s::L,a=>by rw[Qe,QL,QL,Z0,Ja7 d L]
theorem Jic:∀(L:List Int) (a:List Pr),(a.map (·.1)).Pairwise (·<·)->(∀k∈a.map (·.1),∀s∈L,k<=s)->L.Pairwise (·<=·)->((L.foldl YK a).map (·.1)).Pairwise (·<·)
 | [],a,h,_,_=>h
 | s::L,a,h,hk,hL=>by
  obtain⟨l1,l2⟩:=Qw.mp hL;rw[QL];have e:(YK a s).map (·.1)=JK (a.map (·.1)) s:=Vd s a;refine Jic L (YK a s) ?_ (fun k hk' t ht=>?_) l2
  ·rw[e];unfold JK;split
   ·exact h
   ·next c =>
    rw[Kn];refine⟨h,by simp,fun k hk' t ht=>?_⟩;have ht':t=s:=by simpa using ht
    subst ht';have h1:=hk k hk' t Qd;have h2:k≠t:=fun z=>c (hasK_mem.mpr (by rw[<- z];exact hk'))
    omega
  ·rw[e] at hk';unfold JK at hk';split at hk'
   ·exact hk k hk' t (Qc _ ht)
   ·rcases Q6.mp hk' with z|z
    ·exact hk k z t (Qc _ ht)
    ·have z':k=s:=by simpa using z
     subst z';exact l1 t ht
theorem Jj3:∀{ps:List Pr} (i:Nat),Good ps->((ps.zipIdx i).map fun x=>x.1.1+x.1.2-1-2*(x.2:Int)).Pairwise (·<=·)
 | [],_,_=>.nil
 | [p],i,_=>by simp
 | p::q::r,i,g=>by
  have ih:=Jj3 (i+1) (Good.cons' g)
  have h1:=g.gap 0 p q rfl rfl
  have h2:=g.one 1 q rfl;rw[Ky,Qe];refine Qw.mpr ⟨fun t ht=>?_,ih⟩;rw[Ky,Qe] at ih ht
  have hq:p.1+p.2-1-2*(i:Int)<=q.1+q.2-1-2*((i+1:Nat):Int):=by omega
  rcases Qh.mp ht with z|z
  ·subst z;exact hq
  ·have:=(Qw.mp ih).1 t z;dsimp only at this ⊢;omega
noncomputable def Yg(k:Int)(qs:List Pr):List Tr:=((JY qs).filter fun t=>decide (t.2.1>t.2.2)).map fun t=>(k,t.1,t.2.1-t.2.2)
noncomputable def tbN:Nat->Int->List Pr->List Tr
 | 0,_,_=>[]
 | n+1,k,qs=>Yg (k+1) qs++tbN n (k+1) (thF qs)
theorem W8:∀(n:Nat) (k:Int),tbN n k []=[]
 | 0,_=>rfl
 | n+1,k=>by rw[tbN,show thF []=[] from rfl,W8 n (k+1)];rfl
theorem JiT{qs:List Pr}(g:Good (byF (-1) qs))(k:Int):Yg k qs=[]:=by
 have e:qs=byF (((0:Nat):Int)+1) (byF (-1) qs):=by rw[JcM,show((0:Nat):Int)+1+-1=0 by omega,VR]
 unfold Yg;rw[e,JhF g 0,List.filter_map,Qr,MU.mpr]
 ·rfl
 ·intro p hp;simp
theorem Je4(qs:List Pr):(spF qs).length=qs.length:=by unfold spF;simp
theorem Jla(k:Int)(qs:List Pr):(Yg k qs).length<=qs.length:=by
 unfold Yg JY;rw[Qk];refine Gi (M5 _ _) ?_;rw[Qk];have:=JbG (spF qs) [];rw[Je4] at this;unfold UK
 simpa using this
theorem Jgu{c:Int}{qs:List Pr}(w:Wide c qs)(c1:1<=c):∀(j m:Nat) (k:Int),((j:Int)<c)->tbN (j+m) k qs=tbN m (k+(j:Int)) (thN j qs):=by
 intro j
 induction j generalizing c qs with
 | zero=>intro m k _;rw[L3];simp[thN]
 | succ j ih=>intro m k hj;have w1:Wide (c+-1) (byF (-1) qs):=w.bys;have g1:Good (byF (-1) qs):=w1.good (by omega);have e:thF qs=byF (-1) qs:=JbF g1;rw[show j+1+m=(j+m)+1 by omega,tbN,JiT g1,GP,e,ih w1 (by omega) m (k+1) (by omega)];show _=tbN m (k+((j+1:Nat):Int)) (thN j (thF qs));rw[e];congr 1;omega
theorem Jkg{c:Int}{qs:List Pr}(w:Wide c qs)(c1:1<=c)(hne:qs≠[])(j:Nat)(hj:(j:Int)<c):thN j qs≠[]:=by rw[WG w c1 hj];intro z;have:=Va (-(j:Int)) qs;rw[z] at this;exact hne (QE this.symm)
theorem JdW{c:Int}{qs:List Pr}(w:Wide c qs)(c1:1<=c)(hne:qs≠[]){N:Nat}(hN:thN N qs=[])(k:Int):∃C:Nat,(C:Int)=c/\C<=N/\tbN N k qs=Yg (k+c) (thN (C-1) qs)++tbN (N-C) (k+c) (thN C qs)/\thN (N-C) (thN C qs)=[]:=by
 obtain⟨C,hC⟩:∃C:Nat,(C:Int)=c:=⟨c.toNat,by omega⟩
 have hCN:C<=N:=by
  rcases MQ N C with z|z
  ·exact absurd hN (Jkg w c1 hne N (by omega))
  ·exact z
 refine⟨C,hC,hCN,?_,by rw[<- ZF,show C+(N-C)=N by omega];exact hN⟩;have e:=Jgu w c1 (C-1) (N-C+1) k (by omega);rw[show C-1+(N-C+1)=N by omega] at e;rw[e,tbN,<- W9,show C-1+1=C by omega,show k+((C-1:Nat):Int)+1=k+c by omega]
theorem UA{k:Int}{qs:List Pr}{t:Tr}(h:t∈Yg k qs):t.1=k:=by obtain⟨u,_,e⟩:=Qx.mp h;rw[<- e]
theorem ZE:∀(n:Nat) (k:Int) (qs:List Pr) (t:Tr),t∈tbN n k qs->k<t.1
 | 0,_,_,_,h=>by cases h
 | n+1,k,qs,t,h=>by
  rw[tbN] at h;rcases Q6.mp h with z|z
  ·have:=UA z;omega
  ·have:=ZE n (k+1) (thF qs) t z;omega
theorem WF:∀(n:Nat) (ps:List Pr),(thN n ps).length<=ps.length
 | 0,ps=>Qm _
 | n+1,ps=>by
  show(thN n (thF ps)).length<=_
  have h1:=WF n (thF ps)
  have h2:=(Wj (byF (-1) ps)).1;rw[Va] at h2
  have h3:(thF ps).length=(clN (byF (-1) ps)).length:=rfl;omega
noncomputable abbrev tbC:En->Option Bool:=(tTru? (e1 UV (Jd 2)))
noncomputable abbrev tbB:Es:=(Jy (JE 4 (eU 1 J0 (aC (Jd 2) a0))) (Jy (Jfb (fun i j=>i+j) 3 (Jd 4)) (Jy (JE 2 (eU 2 Ye (aC (Jd 2) (aC (e2 UL (Jd 4) (eC (.int 1))) a0)))) (Jy (Jd0 1 (Y2 (iE true (eU 1 Us (aC (Jd 2) a0))) (.tp (.cons (.nm 0) (.cons (.nm 1) (.cons (.nm 2) .nil)))) (tB? (e2 fGt (Jd 1) (Jd 2))) (Uh (aC (Jd 3) (aC (Jd 0) (aC (e2 UL (Jd 1) (Jd 2)) a0)))) [none,none,none,some 3])) (JE 2 (eU 2 Ye (aC (Jd 2) (aC (eC (.int 1)) a0))))))))
theorem JdV(j0 j4:Sl)(acc:List Tr)(k:Int)(fuel:Nat):((Y1 tbC tbB (fuel+1) [j0,.own (acc.map trE),.sh (.row (([]:List Pr).map prE)),.sh (.int k),j4]).bind (Je0 (U2 1))).bind Jen=some (.own (acc.map trE)):=by rw[Y1];have hc:tbC [j0,.own (acc.map trE),.sh (.row (([]:List Pr).map prE)),.sh (.int k),j4]=some false:=rfl;rw[hc];walk_at "ev"
theorem JoR(j0:Sl):∀(m fuel:Nat) (left:List Pr) (acc:List Tr) (k:Int) (j4:Sl) (N:Nat),Good left->left.length<=m->left.length<=30->m<fuel->thN N left=[]->acc.length+30*left.length<=10000 ->
 ((Y1 tbC tbB fuel [j0,.own (acc.map trE),.sh (.row (left.map prE)),.sh (.int k),j4]).bind (Je0 (U2 1))).bind Jen=some (.own ((acc++tbN N k left).map trE)):=by
 intro m
 induction m with
 | zero =>
  intro fuel left acc k j4 N g hm _ hf _ _;obtain⟨f,rfl⟩:∃f,fuel=f+1:=⟨fuel-1,by omega⟩
  have:left=[]:=QE (by omega);subst this;rw[JdV,W8,GR]
 | succ m ih =>
  intro fuel left acc k j4 N g hm h30 hf hN hacc;obtain⟨f,rfl⟩:∃f,fuel=f+1:=⟨fuel-1,by omega⟩
  by_cases h0:left=[]
  ·subst h0;rw[JdV,W8,GR]
  ·obtain⟨c,hc,c1,w,t⟩:=Jnb g h0;obtain⟨C,hC,hCN,eT,eN⟩:=JdW w c1 h0 hN k;have hcl:=Jdh left (by omega);rw[hc] at hcl;have g1:=U0 (C-1) g;have l1:=WF (C-1) left;have l2:=WF C left;have fw:=JaF t;rw[<- hC,<- JaE C w c1 (by omega)] at fw;have ll:=Jla (k+c) (thN (C-1) left)
   have hcond:tbC [j0,.own (acc.map trE),.sh (.row (left.map prE)),.sh (.int k),j4]=some true:=by
    walk_at "ev"
    cases left with
    | nil=>exact absurd rfl h0
    | cons _ _=>rfl
   have hth:=WY (thN (C-1) left) 1 g1 (by omega);rw[show((1:Nat):Int)=1 from rfl,show thN 1 (thN (C-1) left)=thN C left by rw[<- ZF,show C-1+1=C by omega]] at hth
   have hbody:tbB [j0,.own (acc.map trE),.sh (.row (left.map prE)),.sh (.int k),j4]=some (.nx [j0,.own ((acc++Yg (k+c) (thN (C-1) left)).map trE),.sh (.row ((thN C left).map prE)),.sh (.int (k+c)),.sh (.int c)]):=by
    walk_at "ev";rw[hcl];walk_at "ev";rw[show c-1=((C-1:Nat):Int) by omega,WY _ _ g (by omega)];walk_at "ev";rw[Ji1 _ g1 (by omega)];walk_at "ev";rw[JbL (g:=fun t:Tr=>trE (k+c,t.1,t.2.1-t.2.2)) (k:=fun t:Tr=>decide (t.2.1>t.2.2))]
    ·have el:((JY (thN (C-1) left)).filter fun t=>decide (t.2.1>t.2.2)).map (fun t:Tr=>trE (k+c,t.1,t.2.1-t.2.2))=(Yg (k+c) (thN (C-1) left)).map trE:=by unfold Yg;rw[Qr];rfl
     rw[el]
     have hsl:(JY (thN (C-1) left)).length<=30:=by unfold JY;rw[Qk];have:=JbG (spF (thN (C-1) left)) [];rw[Je4] at this;unfold UK;simp at this;omega
     walk_at "ev";rw[hth];walk_at "ev";rw[<- Qz]
    ·intro t ht;simp only[trE];refine⟨?_,fun _=>?_⟩
     ·walk_at "ev"
      first|rfl|done
     ·walk_at "ev"
      first|rfl|done
   rw[Y1,hcond,QM,if_pos rfl,hbody,QM,eT,<- Gu];exact ih f _ _ _ _ _ (U0 C g) (by omega) (by omega) (by omega) eN (by rw[Qv];omega)
theorem JfX(ps:List Pr)(N:Nat)(g:Good ps)(h:ps.length<=30)(hN:thN N ps=[]):Yv [.sh (.row (ps.map prE))]=some (.own ((tbN N 0 ps).map trE)):=by have go:=JoR (.sh (.row (ps.map prE))) 30 1000000 ps [] 0 .no N g h h (by decide) hN (by simp;omega);unfold Yv;walk_at "ev";exact go
theorem Zp:∀(cur:Pr) (r:List Pr),(∀p∈r,0<=p.2)->((clF cur r).map (·.2)).sum=cur.2+(r.map (·.2)).sum
 | cur,[],_=>by simp[clF]
 | cur,p::r,h=>by
  have h0:=h p Qd
  have hr:=fun q hq=>h q (Qc p hq)
  rw[clF,Qe,Qu];split
  ·rw[Zp _ r hr];dsimp only;omega
  ·split
   ·rw[Qe,Qu,Zp p r hr]
   ·rw[Zp cur r hr];omega
theorem Jfm:∀(ps:List Pr),(∀p∈ps,0<=p.2)->((clN ps).map (·.2)).sum=(ps.map (·.2)).sum
 | [],_=>rfl
 | p::r,h=>by
  have h0:=h p Qd
  have hr:=fun q hq=>h q (Qc p hq)
  rw[clN,Qe,Qu];split
  ·exact Zp p r hr
  ·rw[Jfm r hr];omega
theorem Jm9(k:Int):∀(ps:List Pr),((byF k ps).map (·.2)).sum=(ps.map (·.2)).sum+k*(ps.length:Int):=by
 intro ps
 have e:(byF k ps).map (·.2)=ps.map fun p=>p.2+k:=by
  refine Ge fun i=>?_
  unfold byF;rw[Qq,QC,Qq,Ke];rfl
 rw[e]
 induction ps with
 | nil=>simp
 | cons p r ih =>
  have ih':=ih (by
   refine Ge fun i=>?_
   unfold byF;rw[Qq,QC,Qq,Ke];rfl)
  rw[Qe,Qu,ih',Qe,Qu,Qo,KU,Lm];simp;omega
theorem WC:∀{ps:List Pr},(∀p∈ps,1<=p.2)->(ps.length:Int)<=(ps.map (·.2)).sum
 | [],_=>QD _
 | p::ps,h=>by
  have h1:=h p Qd
  have h2:=WC fun q hq=>h q (Qc _ hq)
  rw[Qe,Qu,Qo];omega
theorem Jgv{ps:List Pr}(g:Good ps):((thF ps).map (·.2)).sum=(ps.map (·.2)).sum-(ps.length:Int):=by
 unfold thF;rw[Jfm,Jm9]
 ·omega
 ·intro x hx;obtain⟨i,hi,rfl⟩:=Gw.mp hx;have e:(byF (-1) ps)[i]?=some (byF (-1) ps)[i]:=by simp
  obtain⟨p,hp,e2⟩:=JbB e;rw[e2];have:=g.one i p hp;dsimp only;omega
theorem YX:∀(n:Nat) {ps:List Pr},Good ps->(ps.map (·.2)).sum<=(n:Int)->thN n ps=[]
 | 0,ps,g,h=>by
  have:=WC (Good.all g)
  show ps=[]
  exact QE (by omega)
 | n+1,ps,g,h=>by
  show thN n (thF ps)=[]
  refine YX n (Yn g) ?_;rw[Jgv g]
  by_cases hl:ps.length=0
  ·have:ps=[]:=QE hl;subst this;simp
  ·omega
theorem Jfq:∀(L:List Int) (a:List Pr),((L.foldl YK a).map (·.2)).sum=(a.map (·.2)).sum+(L.length:Int)
 | [],a=>by simp
 | s::L,a=>by
  have e:∀a:List Pr,((YK a s).map (·.2)).sum=(a.map (·.2)).sum+1:=fun a=>by
   induction a with
   | nil=>simp[YK]
   | cons p r ih =>
    rw[YK];split
    ·simp only[Qe,Qu];omega
    ·simp only[Qe,Qu];omega
  rw[QL,Jfq L,e,Qo];omega
theorem Jgm{α:Type}:∀(l:List α),(l.map fun _=>(0:Int)).sum=0
 | []=>rfl
 | _::l=>by rw[Qe,Qu,Jgm l];rfl
theorem JiM:∀(M K:List Int),M.Nodup->K.Nodup->(∀x∈M,x∈K)->(K.map fun s=>if s∈M then(1:Int) else 0).sum=(M.length:Int)
 | [],K,_,_,_=>by rw[show(fun s:Int=>if s∈([]:List Int) then(1:Int) else 0)=fun _=>0 from funext fun s=>if_neg (by simp)];exact Jgm K
 | m::M,K,hm,hk,h=>by
  obtain⟨h1,h2⟩:=QP.mp hm;have ih:=JiM M K h2 hk fun x hx=>h x (Qc _ hx)
  have one:∀K:List Int,K.Nodup->(K.map fun s=>if s∈m::M then(1:Int) else 0).sum=(K.map fun s=>if s∈M then(1:Int) else 0).sum+(if m∈K then 1 else 0):=fun K hk=>by
   induction K with
   | nil=>rfl
   | cons k K ihK =>
    obtain⟨a1,a2⟩:=QP.mp hk;rw[Qe,Qu,Qe,Qu,ihK a2]
    by_cases c:k=m
    ·subst c;rw[if_pos Qd,if_neg h1,if_neg a1,if_pos Qd];omega
    ·have e1:(k∈m::M)=(k∈M):=by simp[c]
     have e2:(m∈k::K)=(m∈K):=by simp[QO c]
     simp only[e1,e2];omega
  rw[one K hk,ih,if_pos (h m Qd),Qo];omega
theorem Wl:∀(r:List Pr) (cur:Pr) (e:Int),e∈Ju (clF cur r)->e∈Ju (cur::r)
 | [],_,_,h=>h
 | p::r,cur,e,h=>by
  unfold Ju at h ⊢;rw[clF] at h;split at h
  ·next c =>
   have:=Wl r _ e h;unfold Ju at this;simp only[Qe,Qh] at this ⊢;rcases this with z|z
   ·exact .inr (.inl (by omega))
   ·exact .inr (.inr z)
  ·split at h
   ·rw[Qe,Qh] at h;rcases h with z|z
    ·rw[z];simp
    ·have:=Wl r p e z;unfold Ju at this;rw[Qe];exact Qc _ this
   ·have:=Wl r cur e h;unfold Ju at this;simp only[Qe,Qh] at this ⊢;rcases this with z|z
    ·exact .inl z
    ·exact .inr (.inr z)
theorem JcX:∀(ps:List Pr) (e:Int),e∈Ju (clN ps)->e∈Ju ps
 | [],_,h=>h
 | p::r,e,h=>by
  rw[clN] at h;split at h
  ·exact Wl r p e h
  ·have:=JcX r e h;unfold Ju at this ⊢;rw[Qe];exact Qc _ this
theorem Jfz{qs:List Pr}{e:Int}(h:e∈Ju (thF qs)):e∈spF qs:=by
 have:=JcX _ e h
 have z:=Jj2 (-1) qs;rw[show(-1:Int)+1=0 by omega,VR] at z;rw[z];exact this
noncomputable def J6(l:List Tr):Int:=(l.map (·.2.2)).sum
theorem JbP{α:Type}(f:α->Int)(k:α->Bool):∀(l:List α),(∀x∈l,k x=false->f x=0)->((l.filter k).map f).sum=(l.map f).sum
 | [],_=>rfl
 | x::l,h=>by
  have ih:=JbP f k l fun y hy=>h y (Qc _ hy)
  rw[Qe,Qu]
  cases c:k x with
  | true=>rw[Lk c,Qe,Qu,ih]
  | false=>rw[Lj (by rw[c];simp),ih,h x Qd c,Lo]
theorem Jgn{α:Type}(f g:α->Int):∀(l:List α),(l.map fun x=>f x-g x).sum=(l.map f).sum-(l.map g).sum
 | []=>rfl
 | x::l=>by rw[Qe,Qu,Qe,Qu,Qe,Qu,Jgn f g l];omega
theorem Jgl{α:Type}(f g:α->Int):∀(l:List α),(l.map fun x=>f x+g x).sum=(l.map f).sum+(l.map g).sum
 | []=>rfl
 | x::l=>by rw[Qe,Qu,Qe,Qu,Qe,Qu,Jgl f g l];omega
theorem Jb6{qs:List Pr}(g:Good qs)(k:Int):J6 (Yg k qs)=(qs.length:Int)-((thF qs).length:Int):=by
 obtain⟨c1,c2,c3⟩:=Jib (spF qs);have nd:=JbM (Yn g);unfold J6 Yg;rw[Qr];have e1:(((JY qs).filter fun t=>decide (t.2.1>t.2.2)).map ((fun t:Tr=>t.2.2) ∘ fun t:Tr=>(k,t.1,t.2.1-t.2.2))).sum=(((JY qs).filter fun t=>decide (t.2.1>t.2.2)).map fun t=>t.2.1-t.2.2).sum:=rfl;rw[e1,JbP]
 ·unfold JY;rw[Qr]
  have e2:((UK (spF qs)).map ((fun t:Tr=>t.2.1-t.2.2) ∘ fun p:Pr=>((p.1,p.2,owF (thF qs) p.1):Tr))).sum=((UK (spF qs)).map fun p=>p.2-(if p.1∈Ju (thF qs) then(1:Int) else 0)).sum:=by
   congr 1;refine Qy fun p _=>?_
   show p.2-owF (thF qs) p.1=_;rw[Jci (Yn g)]
  rw[e2,Jgn];have e3:=Jfq (spF qs) [];have e4:=JiM (Ju (thF qs)) ((UK (spF qs)).map (·.1)) nd c1 fun x hx=>Qx.mpr ⟨_,c3 x (Jfz hx),rfl⟩
  rw[Qr] at e4;have e5:((UK (spF qs)).map fun p=>if p.1∈Ju (thF qs) then(1:Int) else 0).sum=((Ju (thF qs)).length:Int):=e4
  have e6:((UK (spF qs)).map (·.2)).sum=((spF qs).length:Int):=by unfold UK;rw[e3];simp
  rw[e5,e6,Je4];unfold Ju;rw[Qk]
 ·intro t ht c;unfold JY at ht;obtain⟨p,hp,rfl⟩:=Qx.mp ht;obtain⟨v1,v2⟩:=c2 p hp;have:0<(spF qs).count p.1:=Mh.mpr v2;have o:=Jci (Yn g) p.1;have c':=of_decide_eq_false c;dsimp only at c' ⊢;rw[o] at c' ⊢
  by_cases z:p.1∈Ju (thF qs)
  ·rw[if_pos z] at c' ⊢;omega
  ·rw[if_neg z] at c' ⊢;omega
theorem Wd:∀(n:Nat) (k:Int) {qs:List Pr},Good qs->thN n qs=[]->J6 (tbN n k qs)=(qs.length:Int)
 | 0,k,qs,g,h=>by have:qs=[]:=h;subst this;rfl
 | n+1,k,qs,g,h=>by
  have ih:=Wd n (k+1) (Yn g) h
  have l:=Jb6 g (k+1);unfold J6 at *;rw[tbN,Qz,LL,ih,l];omega
theorem Jlm{a b d:Int}(ha:0<=a)(hb:0<=b):max 0 (min (a+b) d)=max 0 (min a d)+max 0 (min b (d-a)):=by
 rcases KL d a with k|k
 ·rw[Gd (show d<=a+b by omega),Gd k,Lf (b:=min b (d-a)) (MT (KC _ _) (by omega)),Ls]
 ·rw[GH k,GW ha];rcases KL d (a+b) with m|m
  ·rw[Gd m,Gd (show d-a<=b by omega),GW (by omega),GW (by omega)];omega
  ·rw[GH m,GH (show b<=d-a by omega),GW (by omega),GW hb]
theorem VM(x:Int):∀(r:List Pr) (cur:Pr),(∀p∈r,0<=p.2)->0<=cur.2->JH (clF cur r) x=JH (cur::r) x
 | [],cur,_,_=>rfl
 | p::r,cur,h,hc=>by
  have h0:=h p Qd
  have hr:=fun q hq=>h q (Qc p hq)
  rw[clF];split
  ·next e=>rw[VM x r _ hr (by dsimp only;omega (config:={})),JL,JL,JL];dsimp only;rw[Jlm hc h0,show x-cur.1-cur.2=x-p.1 by omega (config:={}),MA]
  ·split
   ·rw[JL,VM x r p hr h0,<- JL]
   ·rw[VM x r cur hr hc,JL,JL cur,JL p,show p.2=0 by omega (config:={}),Lf (b:=min 0 _) (MX _ _),Lo]
theorem JaY(x:Int):∀(ps:List Pr),(∀p∈ps,0<=p.2)->JH (clN ps) x=JH ps x
 | [],_=>rfl
 | p::r,h=>by
  have h0:=h p Qd
  have hr:=fun q hq=>h q (Qc p hq)
  rw[clN];split
  ·exact VM x r p hr h0
  ·rw[JaY x r hr,JL p];omega (config:={})
theorem Jh2:∀(r:List Pr) (c x:Int),Good r->(∀q,r[0]?=some q->x<=q.1-c)->∀p∈byR c r,x<=p.1
 | [],_,_,_,_,_,h=>by cases h
 | q::r,c,x,g,hx,p,h=>by
  have h1:=hx q rfl;rcases Qh.mp h with z|z
  ·rw[z];exact h1
  ·refine Jh2 r (c+2) x (Good.cons' g) (fun q' e=>?_) p z;have:=g.gap 0 q q' rfl (by simpa using e);have:=g.one 0 q rfl;omega
theorem Jfw(left:List Pr):∀(q:List Pr) (i:Nat) (base:Int),Good q->(∀p,q[0]?=some p->∀x,p.1-2*(i:Int)<=x->JH left x=base+JH (byR (2*(i:Int)) q) x) ->
 edF left i base ((q.zipIdx i).map fun x=>x.1.1+x.1.2-1-2*(x.2:Int))=q
 | [],_,_,_,_=>rfl
 | p::r,i,base,g,hf=>by
  have h1:=g.one 0 p rfl
  have nx:∀q,r[0]?=some q->p.1+p.2+1<=q.1:=fun q e=>by have:=g.gap 0 p q rfl (by simpa using e);omega
  have hs:=hf p rfl (p.1+p.2-1-2*(i:Int)) (by omega);rw[byR,JL,ZL (ps:=byR (2*(i:Int)+2) r) (Jh2 r _ _ (Good.cons' g) fun q e=>by have:=nx q e;omega)] at hs;dsimp only at hs
  have e:JH left (p.1+p.2-1-2*(i:Int))=base+(p.2-1):=by omega
  rw[Ky,Qe,edF];dsimp only;rw[e,Jfw left r (i+1) (base+(p.2-1)) (Good.cons' g) fun q eq x hx=>?_]
  ·congr 1;exact KO (by dsimp only;omega) (by dsimp only;omega)
  ·have:=nx q eq;rw[hf p rfl x (by omega),byR,JL];dsimp only;rw[show 2*((i+1:Nat):Int)=2*(i:Int)+2 by omega];omega
theorem JgL{q:List Pr}(g:Good q):∀p∈byF (-1) q,0<=p.2:=fun p hp=>by obtain⟨i,hi,rfl⟩:=Gw.mp hp;have w:Wide (1+-1) (byF (-1) q):=(Yc g).bys (k:=-1);exact w.one i _ (by simp)
theorem Jpf{q:List Pr}(g:Good q):edF (thF q) 0 0 (spF q)=q:=by
 refine Jfw (thF q) q 0 0 g fun p _ x _=>?_
 unfold thF;rw[JaY x _ (JgL g),Lo,show 2*((0:Nat):Int)=0 by simp,VQ]
theorem Jah(prs:List Pr)(s:Int):((YO prs).count s:Int)=(prs.map fun p=>if p.1=s then((p.2.toNat:Nat):Int) else 0).sum:=by
 induction prs with
 | nil=>rfl
 | cons p r ih =>
  unfold YO at *;rw[Q9,Lv,Qe,Qu,<- ih,List.count_replicate];split <;> rename_i c
  ·have c':p.1=s:=by simpa using c
   rw[if_pos c'];omega
  ·have c':¬p.1=s:=by simpa using c
   rw[if_neg c'];omega
theorem Jf1{a:List Pr}(f:Pr->Int)(hn:(a.map (·.1)).Nodup)(s:Int):(a.map fun p=>if p.1=s then f p else 0).sum=if s∈a.map (·.1) then f (s,lk s a) else 0:=by
 induction a with
 | nil=>rfl
 | cons p r ih =>
  rw[Qe,QP] at hn;rw[Qe,Qu,ih hn.2,lk]
  by_cases c:p.1=s
  ·subst c;rw[if_pos rfl,if_pos rfl,if_neg hn.1,if_pos (by simp)];simp
  ·rw[if_neg c,if_neg c,Lo];have:(s∈(p::r).map (·.1))=(s∈r.map (·.1)):=by simp[QO c]
   simp only[this]
noncomputable def Ul(l:List Tr):List Pr:=l.map fun t=>(t.2.1,t.2.2)
theorem Jbr{q:List Pr}(g:Good q)(k:Int):UI (Ju (thF q)++YO (Ul (Yg k q)))=spF q:=by
 obtain⟨c1,c2,c3⟩:=Jib (spF q);have gt:=Yn g;have nd:=JbM gt;refine List.Perm.eq_of_pairwise (le:=(·<=·)) (fun a b _ _ h1 h2=>by omega) (WB _) (Jj3 0 g) ((YC _).trans (List.perm_iff_count.mpr fun s=>?_));rw[Lv]
 have e1:((YO (Ul (Yg k q))).count s:Int)=if s∈spF q then((spF q).count s:Int)-(if s∈Ju (thF q) then 1 else 0) else 0:=by
  rw[Jah];unfold Ul Yg;rw[Qr,Qr];refine Eq.trans (show _=(((JY q).filter fun t=>decide (t.2.1>t.2.2)).map fun t=>if t.1=s then(((t.2.1-t.2.2).toNat:Nat):Int) else 0).sum from rfl) ?_;rw[JbP]
  ·unfold JY;rw[Qr];have f2:((UK (spF q)).map ((fun t:Tr=>if t.1=s then(((t.2.1-t.2.2).toNat:Nat):Int) else 0) ∘ fun p:Pr=>((p.1,p.2,owF (thF q) p.1):Tr))).sum=((UK (spF q)).map fun p=>if p.1=s then(((p.2-owF (thF q) p.1).toNat:Nat):Int) else 0).sum:=rfl;rw[f2,Jf1 (fun p=>(((p.2-owF (thF q) p.1).toNat:Nat):Int)) c1];have mm:s∈(UK (spF q)).map (·.1)↔s∈spF q:=⟨fun h=>by obtain⟨p,hp,e⟩:=Qx.mp h;rw[<- e];exact(c2 p hp).2,fun h=>Qx.mpr ⟨_,c3 s h,rfl⟩⟩
   by_cases h:s∈spF q
   ·rw[if_pos (mm.mpr h),if_pos h,JeC c1 (c3 s h) (p:=(s,((spF q).count s:Int)))];dsimp only;rw[Jci gt];have:0<(spF q).count s:=Mh.mpr h;split <;> omega
   ·rw[if_neg fun z=>h (mm.mp z),if_neg h]
  ·intro t ht c;have c':=of_decide_eq_false c;split
   ·omega
   ·rfl
 have e2:(Ju (thF q)).count s=if s∈Ju (thF q) then 1 else 0:=by
  split
  ·next h=>exact Ja9 nd h
  ·next h=>exact Mg.mpr h
 rw[e2]
 by_cases h:s∈spF q
 ·rw[if_pos h] at e1;have:0<(spF q).count s:=Mh.mpr h;split at e1 <;> rename_i c
  ·rw[if_pos c];omega
  ·rw[if_neg c];omega
 ·rw[if_neg h] at e1;rw[if_neg fun z=>h (Jfz z),Mg.mpr h];omega
noncomputable def putF(ps prs:List Pr):List Pr:=edF ps 0 0 (UI (Ju ps++YO prs))
theorem JjB{q:List Pr}(g:Good q)(k:Int):putF (thF q) (Ul (Yg k q))=q:=by unfold putF;rw[Jbr g k,Jpf g]
noncomputable abbrev Gp:=Int×List Pr
noncomputable def YZ:List Gp->Tr->List Gp
 | [],t=>[(t.1,[(t.2.1,t.2.2)])]
 | g::gs,t=>if g.1=t.1 then(g.1,g.2++[(t.2.1,t.2.2)])::gs else g::YZ gs t
noncomputable def YQ(tb:List Tr):List Gp:=tb.foldl YZ []
theorem JaW(x:Gp):∀(tb:List Tr) (g:List Gp),(∀t∈tb,x.1≠t.1)->tb.foldl YZ (x::g)=x::tb.foldl YZ g
 | [],_,_=>rfl
 | t::tb,g,h=>by rw[QL,YZ,if_neg (h t Qd),QL];exact JaW x tb _ fun u hu=>h u (Qc _ hu)
theorem JaV(k:Int):∀(tb:List Tr) (ps:List Pr),(∀t∈tb,t.1=k)->tb.foldl YZ [(k,ps)]=[(k,ps++Ul tb)]
 | [],ps,_=>by simp[Ul]
 | t::tb,ps,h=>by rw[QL,YZ,if_pos (h t Qd).symm,JaV k tb _ fun u hu=>h u (Qc _ hu)];simp[Ul]
theorem Jk4(k:Int)(a b:List Tr)(ha:a≠[])(h1:∀t∈a,t.1=k)(h2:∀t∈b,k<t.1):YQ (a++b)=(k,Ul a)::YQ b:=by
 cases a with
 | nil=>exact absurd rfl ha
 | cons t a=>unfold YQ;rw[List.foldl_append,QL,show YZ [] t=[(k,[(t.2.1,t.2.2)])] by rw[YZ,h1 t Qd],JaV k a _ fun u hu=>h1 u (Qc _ hu),JaW _ b [] fun u hu=>by have:=h2 u hu;dsimp only;omega];simp[Ul]
noncomputable def YW:Int->List Gp->List Pr
 | _,[]=>[]
 | k,g::gs=>byF (g.1-k-1) (putF (YW g.1 gs) g.2)
noncomputable def OkG:Int->List Gp->Prop
 | _,[]=>True
 | k,g::gs=>k<g.1/\(∀p∈g.2,1<=p.2)/\Good (YW g.1 gs)/\((YW g.1 gs).length:Int)+(g.2.map (·.2)).sum<=30/\Good (putF (YW g.1 gs) g.2)/\(putF (YW g.1 gs) g.2).length<=30/\OkG g.1 gs
theorem VT{k:Int}{q:List Pr}{t:Tr}(h:t∈Yg k q):1<=t.2.2:=by unfold Yg at h;obtain⟨u,hu,e⟩:=Qx.mp h;obtain⟨_,c⟩:=LI.mp hu;have:=of_decide_eq_true c;rw[<- e];dsimp only;omega
theorem JlH(l:List Tr):((Ul l).map (·.2)).sum=J6 l:=by unfold Ul J6;rw[Qr];rfl
theorem JeS:∀(m:Nat) (N:Nat) (k:Int) {ps:List Pr},ps.length<=m->Good ps->ps.length<=30->thN N ps=[]->YW k (YQ (tbN N k ps))=ps/\OkG k (YQ (tbN N k ps)):=by
 intro m
 induction m with
 | zero=>intro N k ps hm g h30 hN;have:ps=[]:=QE (by omega);subst this;rw[W8];exact⟨rfl,trivial⟩
 | succ m ih =>
  intro N k ps hm g h30 hN
  by_cases h0:ps=[]
  ·subst h0;rw[W8];exact⟨rfl,trivial⟩
  ·obtain⟨c,hc,c1,w,t⟩:=Jnb g h0;obtain⟨C,hC,hCN,eT,eN⟩:=JdW w c1 h0 hN k;have g1:=U0 (C-1) g;have l1:=WF (C-1) ps;have l2:=WF C ps;have fw:=JaF t;rw[<- hC,<- JaE C w c1 (by omega)] at fw;have eq1:thN C ps=thF (thN (C-1) ps):=by rw[<- W9,show C-1+1=C by omega]
   have ls:=Jb6 g1 (k+c);rw[<- eq1] at ls
   have hb:byF (c-1) (thN (C-1) ps)=ps:=by rw[WG w c1 (by omega),JcM,show c-1+-((C-1:Nat):Int)=0 by omega,VR]
   have ll:(thN (C-1) ps).length=ps.length:=by have:=Va (c-1) (thN (C-1) ps);rw[hb] at this;exact this.symm
   have hne:Yg (k+c) (thN (C-1) ps)≠[]:=fun z=>by rw[z] at ls;have:(0:Int)=_:=ls;omega
   have gc:=Jk4 (k+c) (Yg (k+c) (thN (C-1) ps)) (tbN (N-C) (k+c) (thN C ps)) hne (fun u hu=>UA hu) fun u hu=>ZE _ _ _ u hu
   obtain⟨i1,i2⟩:=ih (N-C) (k+c) (ps:=thN C ps) (by omega) (U0 C g) (by omega) eN;have pb:putF (thN C ps) (Ul (Yg (k+c) (thN (C-1) ps)))=thN (C-1) ps:=by rw[eq1];exact JjB g1 (k+c)
   rw[eT,gc];refine⟨?_,?_⟩
   ·show byF (k+c-k-1) (putF (YW (k+c) (YQ (tbN (N-C) (k+c) (thN C ps)))) (Ul (Yg (k+c) (thN (C-1) ps))))=ps;rw[i1,pb,show k+c-k-1=c-1 by omega,hb]
   ·show k<k+c/\(∀p∈Ul (Yg (k+c) (thN (C-1) ps)),1<=p.2)/\Good (YW (k+c) (YQ (tbN (N-C) (k+c) (thN C ps))))/\((YW (k+c) (YQ (tbN (N-C) (k+c) (thN C ps)))).length:Int)+((Ul (Yg (k+c) (thN (C-1) ps))).map (·.2)).sum<=30/\Good (putF (YW (k+c) (YQ (tbN (N-C) (k+c) (thN C ps)))) (Ul (Yg (k+c) (thN (C-1) ps))))/\(putF (YW (k+c) (YQ (tbN (N-C) (k+c) (thN C ps)))) (Ul (Yg (k+c) (thN (C-1) ps)))).length<=30/\OkG (k+c) (YQ (tbN (N-C) (k+c) (thN C ps)))
    rw[i1,pb,JlH];refine⟨by omega,fun p hp=>?_,U0 C g,by omega,g1,by omega,i2⟩;obtain⟨u,hu,e⟩:=Qx.mp hp;rw[<- e];exact VT hu
noncomputable abbrev ctB:Es:=(Jy (xIf (tOr? (tB? (e2 fLt (Jd 2) (eC (.int 1)))) (tB? (e2 fLt (Jd 4) (eC (.int 1))))) VJ Uk) (Jy (xIf (tAnd? (tB? (e2 WP (Jd 1) (eC .non))) (tB? (e2 Jit (Uh (aC (Jd 2) (aC (Jd 3) a0))) (Jd 1)))) VJ Uk) (JE 1 (Uh (aC (Jd 2) (aC (Jd 3) a0))))))
noncomputable abbrev ctP:Pt:=(.tp (.cons (.nm 2) (.cons (.nm 3) (.cons (.nm 4) .nil))))
noncomputable abbrev gpP:Pt:=(.tp (.cons (.nm 2) (.cons (.nm 3) (.cons (.nm 4) .nil))))
noncomputable abbrev gpK:Ev:=(Jd 2)
noncomputable abbrev gpV:Ev:=(Uh (aC (Jd 3) (aC (Jd 4) a0)))
noncomputable abbrev roB:Es:=(JE 6 (eU 2 Yz (aC (eU 2 Ur (aC (Jd 6) (aC (JkE (Jd 1) (Jd 2)) a0))) (aC (e2 UL (e2 UL (Jd 2) (Jd 7)) (eC (.int 1))) a0))))
noncomputable abbrev roP:Pt:=(.tp (.cons (.nm 7) (.cons (.nm 2) .nil)))
noncomputable def UJ:Option Pr->List Tr->Prop
 | _,[]=>True
 | a,t::r=>1<=t.1/\1<=t.2.2/\(∀b,a=some b->b.1<t.1\/(b.1=t.1/\b.2<t.2.1))/\UJ (some (t.1,t.2.1)) r
noncomputable def ahE:Option Pr->D
 | none=>.non
 | some p=>prE p
theorem Jfs(x:Sl):∀(tb:List Tr) (a:Option Pr) (j2 j3 j4:Sl),UJ a tb->∃E',YD ctP ctB (tb.map trE) [x,.sh (ahE a),j2,j3,j4]=some (.nx (x::E'))/\E'.length=4
 | [],a,j2,j3,j4,_=>⟨_,rfl,rfl⟩
 | t::r,a,j2,j3,j4,h=>by
  obtain⟨h1,h2,h3,h4⟩:=h;obtain⟨E',ih⟩:=Jfs x r (some (t.1,t.2.1)) (.sh (.int t.1)) (.sh (.int t.2.1)) (.sh (.int t.2.2)) h4;refine⟨E',?_,ih.2⟩;rw[Qe,YD];simp only[trE];walk_at "ev";rw[decide_eq_false (show ¬t.1<1 by omega)];walk_at "ev";rw[decide_eq_false (show ¬t.2.2<1 by omega)];walk_at "ev"
  cases a with
  | none=>simp only[ahE];walk_at "ev";exact ih.1
  | some b =>
   have hb:=h3 b rfl;simp only[ahE,prE];walk_at "ev"
   have e:(if t.1=b.1 then decide (t.2.1<=b.2) else decide (t.1<=b.1))=false:=by
    split
    ·exact decide_eq_false (by omega)
    ·exact decide_eq_false (by omega)
   rw[e];walk_at "ev";exact ih.1
theorem Jpr(tb:List Tr)(h:UJ none tb)(hs:J6 tb<=30)(hl:tb.length<=30):∃r,J2 [.sh (.lst (tb.map trE))]=some r:=by
 obtain⟨E',e,el⟩:=Jfs (.sh (.lst (tb.map trE))) tb none .no .no .no h;unfold J2;walk_at "ev";rw[show YD ctP ctB (tb.map trE) [.sh (.lst (tb.map trE)),.sh .non,.no,.no,.no]=_ from e];walk_at "ev";rw[Ya (g:=fun t:Tr=>D.int t.2.2)]
 ·walk_at "ev";rw[VS (ns:=tb.map (·.2.2)) (by simp[Sl.q])];walk_at "ev";rw[decide_eq_false (show ¬(tb.map (·.2.2)).sum>30 from by unfold J6 at hs;omega (config:={}))];walk_at "ev";exact⟨_,rfl⟩
 ·intro t _;simp only[trE];walk_at "ev"
theorem JcE:∀(g:List Gp) (t:Tr),(YZ g t).map (·.1)=JK (g.map (·.1)) t.1
 | [],t=>rfl
 | x::g,t=>by
  have ih:=JcE g t;unfold JK V5 at ih ⊢;rw[YZ,Qe,GM]
  by_cases h:x.1=t.1
  ·rw[if_pos h,decide_eq_true h,Rr,if_pos rfl];rfl
  ·rw[if_neg h,decide_eq_false h,GX,Qe,ih];split <;> rfl
theorem JaX:∀(g:List Gp) (t:Tr),JaL (g.map (·.1)) (g.map fun x=>x.2.map prE) t.1 (prE (t.2.1,t.2.2))=(YZ g t).map fun x=>x.2.map prE
 | [],t=>rfl
 | x::g,t=>by
  rw[Qe,Qe,JaL,YZ];split
  ·simp
  ·rw[JaX g t];rfl
theorem Jps(x a5 a6 a7:Sl):∀(tb:List Tr) (g:List Gp) (j2 j3 j4:Sl),∃j2' j3' j4',Wn gpP gpK gpV (tb.map trE) [x,.no,j2,j3,j4,a5,a6,a7] (g.map (·.1)) (g.map fun x=>x.2.map prE) =
 some ([x,.no,j2',j3',j4',a5,a6,a7],(tb.foldl YZ g).map (·.1),(tb.foldl YZ g).map fun x=>x.2.map prE)
 | [],g,j2,j3,j4=>⟨j2,j3,j4,rfl⟩
 | t::tb,g,j2,j3,j4=>by obtain⟨a,b,c,ih⟩:=Jps x a5 a6 a7 tb (YZ g t) (.sh (.int t.1)) (.sh (.int t.2.1)) (.sh (.int t.2.2));refine⟨a,b,c,?_⟩;rw[Qe,Wn];simp only[trE];walk_at "ev";rw[<- JcE,show D.tup [D.int t.2.1,D.int t.2.2]=prE (t.2.1,t.2.2) from rfl,JaX];exact ih
theorem Jdf{p:Pt}{b:Es}(hb:∀E o,b E=some o->∃E',o=.nx E'):∀{xs ys:List D} {E E1:En},YD p b xs E=some (.nx E1)->YD p b (xs++ys) E=YD p b ys E1
 | [],ys,E,E1,h=>by cases h;rfl
 | x::xs,ys,E,E1,h=>by
  rw[YD] at h;rw[Ka,YD]
  cases hp:p.bind x E with
  | none=>rw[hp] at h;cases h
  | some E2 =>
   rw[hp,QM] at h;rw[QM]
   cases ho:b E2 with
   | none=>rw[ho] at h;cases h
   | some o=>obtain⟨E3,e⟩:=hb E2 o ho;subst e;rw[ho,QM] at h;rw[QM];exact Jdf hb h
theorem Jme(i:Nat)(a:Ev):∀E o,JE i a E=some o->∃E',o=.nx E':=fun E o e=>by
 unfold JE at e;obtain⟨s,_,e⟩:=bind_some e;obtain⟨d,_,e⟩:=bind_some e;split at e
 ·cases e;exact⟨_,rfl⟩
 ·cases e
noncomputable def zl(k:Int)(gs:List Gp):List Pr:=LG (k::gs.map (·.1)) (gs.map (·.1))
theorem Jmt(k:Int)(g:Gp)(gs:List Gp):zl k (g::gs)=(k,g.1)::zl g.1 gs:=rfl
theorem Jdd:∀{all:List Gp} {g:Gp},(all.map (·.1)).Nodup->g∈all->look (all.map (·.1)) ((all.map fun x=>x.2.map prE).map D.lst) g.1=some (.lst (g.2.map prE))
 | [],_,_,h=>by cases h
 | x::r,g,hn,h=>by
  rw[Qe,QP] at hn;simp only[Qe,look];rcases Qh.mp h with z|z
  ·subst z;rw[if_pos rfl]
  ·rw[if_neg fun e=>hn.1 (by rw[e];exact Qx.mpr ⟨g,z,rfl⟩)];exact Jdd hn.2 z
theorem Jlp{l:List Pr}(h:∀p∈l,1<=p.2):(l.length:Int)<=(l.map (·.2)).sum:=by
 induction l with
 | nil=>exact QD _
 | cons p r ih =>
  have:=ih fun q hq=>h q (Qc _ hq)
  have:=h p Qd;rw[Qe,Qu,Qo];omega
theorem Jgg(x a5:Sl)(j3 j4:Sl)(all:List Gp)(hn:(all.map (·.1)).Nodup):∀(gs:List Gp) (k:Int) (j2 j7:Sl),OkG k gs->(∀g∈gs,g∈all) ->
 ∃j2' j7',YD roP roB ((zl k gs).reverse.map prE) [x,.od (all.map (·.1)) ((all.map fun x=>x.2.map prE).map D.lst),j2,j3,j4,a5,.sh (.row (([]:List Pr).map prE)),j7]=some (.nx [x,.od (all.map (·.1)) ((all.map fun x=>x.2.map prE).map D.lst),j2',j3,j4,a5,.sh (.row ((YW k gs).map prE)),j7'])
 | [],k,j2,j7,_,_=>⟨j2,j7,rfl⟩
 | g::gs,k,j2,j7,h,hm=>by
  obtain⟨h1,h2,h3,h4,h5,h6,h7⟩:=h;obtain⟨a,b,ih⟩:=Jgg x a5 j3 j4 all hn gs g.1 j2 j7 h7 fun y hy=>hm y (Qc _ hy)
  have nl:=Jlp h2;refine⟨.sh (.int g.1),.sh (.int k),?_⟩;rw[Jmt,List.reverse_cons,Qz,Jdf (Jme 6 _) ih]
  show YD roP roB [prE (k,g.1)] _=_;rw[YD];simp only[prE];walk_at "ev";rw[Jdd hn (hm g Qd)];walk_at "ev";rw[Jpu (YW g.1 gs) g.2 h3 (fun p hp=>by have:=h2 p hp;omega) h4 (by omega) (by omega)];walk_at "ev";rw[show edF (YW g.1 gs) 0 0 (UI (Ju (YW g.1 gs)++YO g.2))=putF (YW g.1 gs) g.2 from rfl,show g.1-k-1=(((g.1-k-1).toNat:Nat):Int) by omega,Jll _ _ h5 h6];walk_at "ev";rw[show(((g.1-k-1).toNat:Nat):Int)=g.1-k-1 by omega]
  rfl
theorem Jf0:∀{gs:List Gp} {k:Int},OkG k gs->(gs.map (·.1)).Pairwise (·<·)/\∀y∈gs.map (·.1),k<y
 | [],_,_=>⟨.nil,fun _ h=>by cases h⟩
 | g::gs,k,h=>by
  obtain⟨h1,_,_,_,_,_,h7⟩:=h;obtain⟨i1,i2⟩:=Jf0 h7;refine⟨Qw.mpr ⟨i2,i1⟩,fun y hy=>?_⟩;rcases Qh.mp hy with z|z
  ·rw[z];exact h1
  ·have:=i2 y z;omega
theorem JcD:∀(g:List Gp) (t:Tr),(YZ g t).length<=g.length+1
 | [],t=>Qm _
 | x::g,t=>by
  have:=JcD g t;rw[YZ];split
  ·simp
  ·simp only[Qo];omega
theorem JfL:∀(tb:List Tr) (g:List Gp),(tb.foldl YZ g).length<=g.length+tb.length
 | [],g=>by simp
 | t::tb,g=>by
  have:=JfL tb (YZ g t)
  have:=JcD g t;rw[QL,Qo];omega
theorem JfW(tb:List Tr)(h:UJ none tb)(hs:J6 tb<=30)(hl:tb.length<=30)(ok:OkG 0 (YQ tb)):Yu [.sh (.lst (tb.map trE))]=some (.sh (.row ((YW 0 (YQ tb)).map prE))):=by
 obtain⟨r,hr⟩:=Jpr tb h hs hl;obtain⟨kp,_⟩:=Jf0 ok;have nd:((YQ tb).map (·.1)).Nodup:=kp.imp fun {a b} h=>by omega
 have gl:=JfL tb [];rw[show tb.foldl YZ []=YQ tb from rfl,Ki] at gl;obtain⟨g2,g3,g4,hg⟩:=Jps (.sh (.lst (tb.map trE))) .no .no .no tb [] .no .no .no;rw[show tb.foldl YZ []=YQ tb from rfl] at hg;obtain⟨r2,r7,hro⟩:=Jgg (.sh (.lst (tb.map trE))) (.sh (.lst (((YQ tb).map (·.1)).map .int))) g3 g4 (YQ tb) nd (YQ tb) 0 g2 .no ok (fun _ h=>h);unfold Yu;walk_at "ev";rw[hr];walk_at "ev";unfold Jmq;walk_at "ev";rw[show Wn gpP gpK gpV (tb.map trE) [.sh (.lst (tb.map trE)),.no,.no,.no,.no,.no,.no,.no] [] []=_ from hg]
 walk_at "ev";rw[show JaO [.own []]=some (.sh (.row (([]:List Pr).map prE))) from Wm (ps:=[]) rfl Good.nil (by simp)];walk_at "ev"
 have hz:JcB (D.int 0::((YQ tb).map (·.1)).map D.int) (((YQ tb).map (·.1)).map D.int)=(zl 0 (YQ tb)).map prE:=by rw[show D.int 0::((YQ tb).map (·.1)).map D.int=(0::(YQ tb).map (·.1)).map D.int from rfl,ZG];rfl
 rw[hz,<- List.map_reverse];rw[show YD roP roB ((zl 0 (YQ tb)).reverse.map prE) [.sh (.lst (tb.map trE)),.od ((YQ tb).map (·.1)) (((YQ tb).map fun x=>x.2.map prE).map D.lst),g2,g3,g4,.sh (.lst (((YQ tb).map (·.1)).map .int)),.sh (.row []),.no]=_ from hro];walk_at "ev"
theorem Jff(K:Int)(rest:List Tr)(hK:1<=K)(hr:∀a',(∀b,a'=some b->b.1<=K)->UJ a' rest):∀(L:List Tr) (a:Option Pr),(∀t∈L,t.1=K/\1<=t.2.2)->(L.map (·.2.1)).Pairwise (·<·)->(∀b,a=some b->b.1<K\/(b.1=K/\∀t∈L,b.2<t.2.1))->UJ a (L++rest)
 | [],a,_,_,h=>hr a fun b e=>by rcases h b e with z|z <;> omega
 | t::L,a,h1,h2,h3=>by
  obtain⟨k1,k2⟩:=h1 t Qd;rw[Qe,Qw] at h2;refine⟨by omega,k2,fun b e=>?_,Jff K rest hK hr L _ (fun u hu=>h1 u (Qc _ hu)) h2.2 fun b e=>?_⟩
  ·rcases h3 b e with z|⟨z,y⟩
   ·exact .inl (by omega)
   ·exact .inr ⟨by omega,y t Qd⟩
  ·cases e;exact .inr ⟨k1,fun u hu=>h2.1 _ (Qx.mpr ⟨u,hu,rfl⟩)⟩
theorem Wt{q:List Pr}(g:Good q)(k:Int):((Yg k q).map (·.2.1)).Pairwise (·<·):=by
 have h:=Jic (spF q) [] (by simp) (fun _ h=>by simp at h) (Jj3 0 g)
 have e:(Yg k q).map (·.2.1)=(((JY q).filter fun t=>decide (t.2.1>t.2.2)).map (·.1)):=by unfold Yg;rw[Qr];rfl
 rw[e]
 have e2:(JY q).map (·.1)=(UK (spF q)).map (·.1):=by unfold JY;rw[Qr];rfl
 have h':((JY q).map (·.1)).Pairwise (·<·):=by rw[e2];exact h
 rw[Lu] at h' ⊢;exact h'.filter _
theorem Vy:∀(n:Nat) (k:Int) (qs:List Pr) (a:Option Pr),Good qs->0<=k->(∀b,a=some b->b.1<=k)->UJ a (tbN n k qs)
 | 0,_,_,_,_,_,_=>trivial
 | n+1,k,qs,a,g,hk,ha=>by rw[tbN];refine Jff (k+1) _ (by omega) (fun a' h=>Vy n (k+1) (thF qs) a' (Yn g) (by omega) h) _ a (fun t ht=>⟨UA ht,VT ht⟩) (Wt g (k+1)) fun b e=>.inl (by have:=ha b e;omega)
theorem Ug:∀{tb:List Tr} {a:Option Pr},UJ a tb->∀t∈tb,1<=t.1/\1<=t.2.2
 | [],_,_,_,h=>by cases h
 | t::r,a,h,u,hu=>by
  obtain⟨h1,h2,_,h4⟩:=h;rcases Qh.mp hu with z|z
  ·rw[z];exact⟨h1,h2⟩
  ·exact Ug h4 u z
theorem Jb9:∀{tb:List Tr},(∀t∈tb,1<=t.2.2)->(tb.length:Int)<=J6 tb/\∀t∈tb,t.2.2<=J6 tb
 | [],_=>⟨QD _,fun _ h=>by cases h⟩
 | t::r,h=>by
  obtain⟨h1,h2⟩:=Jb9 fun u hu=>h u (Qc t hu)
  have ht:=h t Qd
  have e:J6 (t::r)=t.2.2+J6 r:=by unfold J6;rw[Qe,Qu]
  rw[e,Qo];refine⟨by omega,fun u hu=>?_⟩;rcases Qh.mp hu with z|z
  ·rw[z];omega
  ·have:=h2 u z;omega
theorem JaD:∀(n:Nat) (k:Int) {qs:List Pr},Good qs->thN n qs=[]->((tbN n k qs).map fun t=>(t.1-k)*t.2.2).sum=(qs.map (·.2)).sum
 | 0,k,qs,g,h=>by have:qs=[]:=h;subst this;rfl
 | n+1,k,qs,g,h=>by
  have ih:=JaD n (k+1) (Yn g) h
  have l:=Jb6 g (k+1)
  have s:=Wd n (k+1) (Yn g) h
  have ts:=Jgv g;unfold J6 at l s;rw[tbN,Qz,LL]
  have e1:(Yg (k+1) qs).map (fun t=>(t.1-k)*t.2.2)=(Yg (k+1) qs).map (·.2.2):=Qy fun t ht=>by rw[UA ht,show k+1-k=1 by omega,Ra]
  have e2:(tbN n (k+1) (thF qs)).map (fun t=>(t.1-k)*t.2.2)=(tbN n (k+1) (thF qs)).map fun t=>t.2.2+(t.1-(k+1))*t.2.2:=Qy fun t ht=>by rw[show t.1-k=1+(t.1-(k+1)) by omega,LH,Ra]
  rw[e1,e2,Jgl,ih,l,s,ts];omega
noncomputable def mvP(d:Int)(ps:List Pr):List Pr:=ps.map fun p=>(p.1-d,p.2)
theorem Jpx(d k:Int)(ps:List Pr):byF k (mvP d ps)=mvP d (byF k ps):=by
 refine Ge fun i=>?_
 unfold byF mvP;rw[QC,Qq,Qq,QC,Ke,Ke]
 cases ps[i]? with
 | none=>rfl
 | some p=>exact congrArg some (KO (by show p.1-d+2*k*(i:Int)=p.1+2*k*(i:Int)-d;omega) rfl)
theorem Jb8(d:Int):∀(r:List Pr) (cur:Pr),clF (cur.1-d,cur.2) (mvP d r)=mvP d (clF cur r)
 | [],cur=>rfl
 | p::r,cur=>by
  show clF (cur.1-d,cur.2) ((p.1-d,p.2)::mvP d r)=_;rw[clF,clF];dsimp only
  by_cases h:cur.1+cur.2=p.1
  ·rw[if_pos (by omega),if_pos h];exact Jb8 d r (cur.1,cur.2+p.2)
  ·rw[if_neg (by omega),if_neg h];split
   ·rw[Jb8 d r p];rfl
   ·exact Jb8 d r cur
theorem JeH(d:Int):∀(ps:List Pr),clN (mvP d ps)=mvP d (clN ps)
 | []=>rfl
 | p::r=>by
  show clN ((p.1-d,p.2)::mvP d r)=_;rw[clN,clN];split
  ·exact Jb8 d r p
  ·exact JeH d r
theorem Ji6(d:Int)(ps:List Pr):thF (mvP d ps)=mvP d (thF ps):=by unfold thF;rw[Jpx,JeH]
theorem Ji7(d:Int):∀(n:Nat) (ps:List Pr),thN n (mvP d ps)=mvP d (thN n ps)
 | 0,_=>rfl
 | n+1,ps=>by show thN n (thF (mvP d ps))=mvP d (thN n (thF ps));rw[Ji6,Ji7 d n]
theorem Jpz(d:Int)(ps:List Pr):spF (mvP d ps)=(spF ps).map (·-d):=by
 refine Ge fun i=>?_
 unfold spF mvP;rw[Qq,Qq,Qq,Ko,Ko,Qq]
 cases ps[i]? with
 | none=>rfl
 | some p=>exact congrArg some (by show p.1-d+p.2-1-2*((0+i:Nat):Int)=p.1+p.2-1-2*((0+i:Nat):Int)-d;omega)
theorem Ji5(d:Int)(ps:List Pr)(x:Int):J3 (mvP d ps) (x-d)=J3 ps x:=by
 induction ps with
 | nil=>rfl
 | cons p r ih =>
  show J3 ((p.1-d,p.2)::mvP d r) (x-d)=_;rw[Yf,Yf,ih];dsimp only;congr 2
  ·rw[decide_eq_decide];omega
  ·rw[decide_eq_decide];omega
theorem Jpy(d:Int)(ps:List Pr)(x:Int):owF (mvP d ps) (x-d)=owF ps x:=by unfold owF;rw[Ji5,show x-d-1=x-1-d by omega,Ji5]
theorem JnR(d:Int)(L:List Int):UK (L.map (·-d))=(UK L).map fun p=>(p.1-d,p.2):=by have:=Ja7 d L [];exact this
theorem JnS(d k:Int)(ps:List Pr):Yg k (mvP d ps)=(Yg k ps).map fun t=>(t.1,t.2.1-d,t.2.2):=by
 have e:JY (mvP d ps)=(JY ps).map fun t=>(t.1-d,t.2.1,t.2.2):=by
  unfold JY;rw[Jpz,JnR,Qr,Qr];refine Qy fun p _=>?_
  show(p.1-d,p.2,owF (thF (mvP d ps)) (p.1-d))=(p.1-d,p.2,owF (thF ps) p.1)
  rw[Ji6,Jpy]
 unfold Yg;rw[e,List.filter_map,Qr,Qr];rfl
theorem JmN(d:Int):∀(n:Nat) (k:Int) (ps:List Pr),tbN n k (mvP d ps)=(tbN n k ps).map fun t=>(t.1,t.2.1-d,t.2.2)
 | 0,_,_=>rfl
 | n+1,k,ps=>by rw[tbN,tbN,Qz,JnS,Ji6,JmN d n]
theorem Jp9{c1 c2 p1 p2 ins s:Int}(e:c1+c2=p1)(hc:0<=c2)(hp:0<=p2)(h0:0<=ins)(h1:ins<=s):∃t u,min c2 (s-ins)=t/\max 0 (ins+t-(p1-c1-c2))=ins+t/\min (ins+t) (p1-c1-c2)=0 ∧
 min p2 (s-(ins+t))=u/\min (c2+p2) (s-ins)=t+u/\0<=t/\t<=c2/\0<=u/\u<=p2/\(t=c2\/u=0):=by
 have z:p1-c1-c2=0:=by omega
 rw[z];rcases KL c2 (s-ins) with h|h
 ·rw[GH h];rcases KL p2 (s-(ins+c2)) with k|k
  ·exact⟨c2,p2,rfl,by omega,by omega,GH k,by omega,hc,QD _,hp,QD _,.inl rfl⟩
  ·exact⟨c2,s-(ins+c2),rfl,by omega,by omega,Gd k,by omega,hc,QD _,by omega,k,.inl rfl⟩
 ·rw[Gd h];exact⟨s-ins,0,rfl,by omega,by omega,by omega,by omega,by omega,h,QD _,hp,.inr rfl⟩
theorem bare{c1 c2 p1 p2 ins s:Int}(hb:c1+c2<=p1)(hp:p2=0)(hc:0<=c2)(h0:0<=ins)(h1:ins<=s):∃t m w,min c2 (s-ins)=t/\max 0 (ins+t-(p1-c1-c2))=m/\min (ins+t) (p1-c1-c2)=w/\min p2 (s-m)=0/\0<=t/\t<=c2 ∧
 ((m=0/\w=ins+t/\ins+t<=p1-c1-c2)\/(m=ins+t-(p1-c1-c2)/\w=p1-c1-c2/\p1-c1-c2<=ins+t)):=by
 obtain⟨t,ht,t0,t1,t2⟩:∃t,min c2 (s-ins)=t/\0<=t/\t<=c2/\ins+t<=s:=⟨_,rfl,by omega (config:={}),by omega (config:={}),by omega (config:={})⟩
 rw[ht];rcases KL (ins+t) (p1-c1-c2) with h|h
 ·exact⟨t,0,ins+t,rfl,by omega (config:={}),GH h,by omega (config:={}),t0,t1,.inl ⟨rfl,rfl,h⟩⟩
 ·exact⟨t,ins+t-(p1-c1-c2),p1-c1-c2,rfl,by omega (config:={}),Gd h,by omega (config:={}),t0,t1,.inr ⟨rfl,rfl,h⟩⟩
noncomputable def goS(s:Int):Int->List Pr->List Pr
 | _,[]=>[]
 | ins,[p]=>[(p.1+min p.2 (s-ins),p.2-min p.2 (s-ins)+(ins+min p.2 (s-ins)))]
 | ins,p::q::r=>(p.1+min p.2 (s-ins),p.2-min p.2 (s-ins)+min (ins+min p.2 (s-ins)) (q.1-p.1-p.2))::goS s (max 0 (ins+min p.2 (s-ins)-(q.1-p.1-p.2))) (q::r)
theorem Yh(s ins:Int)(p q:Pr)(r:List Pr):goS s ins (p::q::r)=(p.1+min p.2 (s-ins),p.2-min p.2 (s-ins)+min (ins+min p.2 (s-ins)) (q.1-p.1-p.2))::goS s (max 0 (ins+min p.2 (s-ins)-(q.1-p.1-p.2))) (q::r):=rfl
theorem Wq{s:Int}:∀(ps:List Pr) (ins:Int),Good ps->0<=ins->ins<=s-1->Good (goS s ins ps)/\∀q,(goS s ins ps)[0]?=some q->∀p,ps[0]?=some p->q.1=p.1+min p.2 (s-ins)
 | [],_,_,_,_=>⟨Good.nil,fun q e=>by simp[goS] at e⟩
 | [p],ins,g,h0,h1=>by
  have hp:=g.one 0 p rfl;refine⟨Good.mk' ?_ (fun q e=>by simp at e) Good.nil,fun q e p' e'=>?_⟩
  ·dsimp only;omega (config:={})
  ·simp[goS] at e e';subst e';rw[<- e]
 | p::q::r,ins,g,h0,h1=>by
  have hp:=g.one 0 p rfl
  have hq:=g.one 1 q rfl
  have hg:=g.gap 0 p q rfl rfl;obtain⟨t,ht,t0,t2⟩:∃t,min p.2 (s-ins)=t/\1<=t/\ins+t<=s:=⟨_,rfl,Rl.mpr ⟨hp,by omega (config:={})⟩,by have:=KC p.2 (s-ins);omega (config:={})⟩
  have t1:t<=p.2:=by rw[<- ht];exact MX _ _
  have l1:max 0 (ins+t-(q.1-p.1-p.2))<=s-1:=Rk.mpr ⟨by omega (config:={}),by omega (config:={})⟩
  have w0:1<=min (ins+t) (q.1-p.1-p.2):=Rl.mpr ⟨by omega (config:={}),by omega (config:={})⟩
  have w1:=KC (ins+t) (q.1-p.1-p.2);obtain⟨i1,i2⟩:=Wq (s:=s) (q::r) (max 0 (ins+t-(q.1-p.1-p.2))) (Good.cons' g) (LV _ _) l1
  have u0:1<=min q.2 (s-max 0 (ins+t-(q.1-p.1-p.2))):=Rl.mpr ⟨hq,by omega (config:={})⟩;rw[Yh,ht]
  have ht':=ht
  clear ht;refine⟨Good.mk' ?_ (fun q' e=>?_) i1,fun q' e p' e'=>?_⟩
  ·dsimp only
   revert w0
   generalize min (ins+t) (q.1-p.1-p.2)=w
   intro w0;omega (config:={})
  ·have i3:=i2 q' e q rfl;dsimp only
   revert w0 w1 u0 i3
   generalize min (ins+t) (q.1-p.1-p.2)=w
   generalize min q.2 _=u
   intro w0 w1 u0 i3;omega (config:={})
  ·simp at e e';subst e';rw[<- e,ht']
theorem JiB(s:Int):∀(ps:List Pr) (ins:Int),(goS s ins ps).length=ps.length
 | [],_=>rfl
 | [p],_=>rfl
 | p::q::r,ins=>by rw[Yh,Qo,JiB s (q::r)];rfl
theorem Zs:∀(ps:List Pr),Wide 0 ps->goS 0 0 ps=ps
 | [],_=>rfl
 | [p],w=>by
  have hp:=w.one 0 p rfl
  show [(p.1+min p.2 (0-0),p.2-min p.2 (0-0)+(0+min p.2 (0-0)))]=[p]
  congr 1;exact KO (by dsimp only;omega) (by dsimp only;omega)
 | p::q::r,w=>by
  have hp:=w.one 0 p rfl
  have hg:=w.gap 0 p q rfl rfl;rw[Yh,show max 0 (0+min p.2 (0-0)-(q.1-p.1-p.2))=0 by omega,Zs (q::r) w.cons];congr 1;exact KO (by dsimp only;omega) (by dsimp only;omega)
theorem JiA(s:Int):∀(ps:List Pr) (c ins:Int),Good ps->0<=ins->ins<=s-1->byR c (goS s ins ps)=mvP (-1) (goS (s-1) ins (byR c ps))
 | [],_,_,_,_,_=>rfl
 | [p],c,ins,g,h0,h1=>by
  have hp:=g.one 0 p rfl
  show [(p.1+min p.2 (s-ins)-c,p.2-min p.2 (s-ins)+(ins+min p.2 (s-ins))-1)]=[(p.1-c+min (p.2-1) (s-1-ins) - -1,p.2-1-min (p.2-1) (s-1-ins)+(ins+min (p.2-1) (s-1-ins)))]
  congr 1;exact KO (by dsimp only;omega) (by dsimp only;omega)
 | p::q::r,c,ins,g,h0,h1=>by
  have hp:=g.one 0 p rfl
  have hg:=g.gap 0 p q rfl rfl
  have hm:min (p.2-1) (s-1-ins)=min p.2 (s-ins)-1:=by omega
  have ht:=KC p.2 (s-ins)
  revert hm ht
  generalize ht:min p.2 (s-ins)=t
  intro hm h3;have ih:=JiA s (q::r) (c+2) (max 0 (ins+t-(q.1-p.1-p.2))) (Good.cons' g) (LV _ _) (Rk.mpr ⟨by omega,by omega⟩);rw[Yh,ht,byR,ih];show _=mvP (-1) (goS (s-1) ins ((p.1-c,p.2-1)::(q.1-(c+2),q.2-1)::byR (c+2+2) r));rw[Yh];dsimp only;rw[hm,show q.1-(c+2)-(p.1-c)-(p.2-1)=q.1-p.1-p.2-1 by omega,show ins+(t-1)-(q.1-p.1-p.2-1)=ins+t-(q.1-p.1-p.2) by omega,show min (ins+(t-1)) (q.1-p.1-p.2-1)=min (ins+t) (q.1-p.1-p.2)-1 by omega]
  show _=(p.1-c+(t-1) - -1,p.2-1-(t-1)+(min (ins+t) (q.1-p.1-p.2)-1))::mvP (-1) (goS (s-1) (max 0 (ins+t-(q.1-p.1-p.2))) (byR (c+2) (q::r)));rw[show p.1-c+(t-1) - -1=p.1+t-c by omega,show p.2-1-(t-1)+(min (ins+t) (q.1-p.1-p.2)-1)=p.2-t+min (ins+t) (q.1-p.1-p.2)-1 by omega]
theorem Zw{A B T:Bool}(h:A=B):(A || T)=(B || T):=by rw[h]
noncomputable def inI(a b x:Int):Bool:=decide (a<=x) && decide (x<b)
theorem inI_t{a b x:Int}:inI a b x=true↔a<=x/\x<b:=by unfold inI;simp
theorem YA(p:Pr)(ps:List Pr)(x:Int):J3 (p::ps) x=(inI p.1 (p.1+p.2) x || J3 ps x):=Yf p ps x
theorem Jk6{a b c d e f x:Int}(h:(a<=x/\x<b)↔(c<=x/\x<d)\/(e<=x/\x<f)):inI a b x=(inI c d x || inI e f x):=by rw[G5,Lc,inI_t,inI_t,inI_t];exact h
theorem JD(p:Pr)(ps:List Pr):Ju (p::ps)=(p.1+p.2)::Ju ps:=rfl
theorem Jc5{a c x:Int}(h:c<=a):inI a c x=false:=by rw[Bool.eq_false_iff];intro z;have:=inI_t.mp z;omega
theorem Jc4{a b c d e f x:Int}(h:(c=a/\d=e/\f=b/\c<=d/\e<=f)\/(d<=c/\e=a/\f=b)\/(f<=e/\c=a/\d=b)):inI a b x=(inI c d x || inI e f x):=by
 rcases h with ⟨rfl,rfl,rfl,h1,h2⟩|⟨h1,rfl,rfl⟩|⟨h1,rfl,rfl⟩
 ·exact Jk6 (by omega (config:={}))
 ·rw[Jc5 h1,GX]
 ·rw[Jc5 h1,Mw]
theorem Jpb{A B C D x:Int}{l:List Int}(h:(A=C/\B=D)\/(A=D/\B=C)):(A::B::l).count x=(C::l).count x+(if D=x then 1 else 0):=by rcases h with ⟨rfl,rfl⟩|⟨rfl,rfl⟩ <;> simp only[Gf,beq_iff_eq] <;> omega
theorem JmE{c1 c2 p1 p2 t u w x:Int}(e:c1+c2=p1)(hz:t=c2\/u=0)(t1:t<=c2)(hw:0<=p2+w):inI (c1+(t+u)) (c1+(t+u)+(c2+p2-(t+u)+w)) x=(inI (c1+t) (c1+t+(c2-t+0)) x || inI (p1+u) (p1+u+(p2-u+w)) x):=by
 subst e;refine Jc4 ?_;rcases hz with z|z
 ·exact .inr (.inl ⟨by omega,by omega,by omega⟩)
 ·exact .inl ⟨by omega,by omega,by omega,by omega,by omega⟩
theorem JmC{c1 c2 p1 p2 t u w:Int}(e:c1+c2=p1)(l:List Int):(c1+t+(c2-t+0))::(p1+u+(p2-u+w))::l=(c1+c2)::(c1+(t+u)+(c2+p2-(t+u)+w))::l:=by rw[show c1+t+(c2-t+0)=c1+c2 by omega,show p1+u+(p2-u+w)=c1+(t+u)+(c2+p2-(t+u)+w) by omega]
theorem JmF{c1 c2 p1 p2 t v y x:Int}(hp:p2=0)(hk:y=0\/v=p1-c1-c2)(y0:0<=y)(t1:t<=c2)(v0:0<=v):inI (c1+t) (c1+t+(c2-t+(v+y))) x=(inI (c1+t) (c1+t+(c2-t+v)) x || inI (p1+0) (p1+0+(p2-0+y)) x):=by
 refine Jc4 ?_;rcases hk with z|z
 ·exact .inr (.inr ⟨by omega,rfl,by omega⟩)
 ·exact .inl ⟨rfl,by omega,by omega,by omega,by omega⟩
theorem JmD{c1 c2 p1 p2 t v y x:Int}{l:List Int}(hp:p2=0)(hk:y=0\/v=p1-c1-c2):((c1+t+(c2-t+v))::(p1+0+(p2-0+y))::l).count x=((c1+t+(c2-t+(v+y)))::l).count x+(if p1=x then 1 else 0):=by
 refine Jpb ?_;rcases hk with z|z
 ·exact .inl ⟨by omega,by omega⟩
 ·exact .inr ⟨by omega,by omega⟩
theorem JbU(s x:Int):∀(r:List Pr) (cur:Pr) (ins:Int),0<=cur.2->Wide 0 r->(∀q,r[0]?=some q->cur.1+cur.2<=q.1)->0<=ins->ins<=s ->
 J3 (goS s ins (clF cur r)) x=J3 (goS s ins (cur::r)) x/\(Ju (goS s ins (cur::r))).count x+(Ju (clF cur r)).count x=(Ju (goS s ins (clF cur r))).count x+(Ju (cur::r)).count x
 | [],_,_,_,_,_,_,_=>⟨rfl,rfl⟩
 | p::r,cur,ins,hc,w,hq,h0,h1=>by
  have hp:=w.one 0 p rfl
  have hb:=hq p rfl
  have nx:∀q,r[0]?=some q->p.1+p.2<=q.1:=fun q e=>by have:=w.gap 0 p q rfl (by simpa using e);omega (config:={})
  rw[clF];split
  ·next e =>
   obtain⟨i1,i2⟩:=JbU s x r (cur.1,cur.2+p.2) ins (by dsimp only;omega (config:={})) w.cons (fun q e'=>by have:=nx q e';dsimp only;omega (config:={})) h0 h1;obtain⟨t,u,ht,hl,hd,hu,hm,t0,t1,u0,u1,hz⟩:=Jp9 e hc hp h0 h1
   have e2:Ju (cur::p::r)=(cur.1+cur.2)::Ju ((cur.1,cur.2+p.2)::r):=by rw[JD,JD,JD];dsimp only;rw[show cur.1+(cur.2+p.2)=p.1+p.2 by omega (config:={})]
   cases r with
   | nil =>
    have f1:goS s ins [cur,p]=[(cur.1+t,cur.2-t+0),(p.1+u,p.2-u+(ins+t+u))]:=by rw[Yh,ht,hl,hd];show _::[(p.1+min p.2 (s-(ins+t)),p.2-min p.2 (s-(ins+t))+(ins+t+min p.2 (s-(ins+t))))]=_;rw[hu]
    have f2:goS s ins [(cur.1,cur.2+p.2)]=[(cur.1+(t+u),cur.2+p.2-(t+u)+(ins+t+u))]:=by show [(cur.1+min (cur.2+p.2) (s-ins),cur.2+p.2-min (cur.2+p.2) (s-ins)+(ins+min (cur.2+p.2) (s-ins)))]=_;rw[hm,MA ins]
    clear ht hl hd hu hm;refine⟨?_,?_⟩
    ·rw[i1,f1,f2,YA,YA,YA,<- LC];exact Zw (JmE e hz t1 (by omega (config:={})))
    ·have e1:Ju (goS s ins [cur,p])=(cur.1+cur.2)::Ju (goS s ins [(cur.1,cur.2+p.2)]):=by rw[f1,f2,JD,JD,JD];exact JmC e _
     rw[e1,e2,Gf,Gf];omega (config:={})
   | cons q r =>
    have hn:=nx q rfl
    have f1:goS s ins (cur::p::q::r)=(cur.1+t,cur.2-t+0)::(p.1+u,p.2-u+min (ins+t+u) (q.1-p.1-p.2))::goS s (max 0 (ins+t+u-(q.1-p.1-p.2))) (q::r):=by rw[Yh,ht,hl,hd,Yh,hu]
    have f2:goS s ins ((cur.1,cur.2+p.2)::q::r)=(cur.1+(t+u),cur.2+p.2-(t+u)+min (ins+t+u) (q.1-p.1-p.2))::goS s (max 0 (ins+t+u-(q.1-p.1-p.2))) (q::r):=by rw[Yh];dsimp only;rw[hm,show q.1-cur.1-(cur.2+p.2)=q.1-p.1-p.2 by omega (config:={}),show ins+(t+u)=ins+t+u by omega (config:={})]
    clear ht hl hd hu hm;have w0:0<=min (ins+t+u) (q.1-p.1-p.2):=by omega (config:={})
    generalize min (ins+t+u) (q.1-p.1-p.2)=v at w0 f1 f2
    refine⟨?_,?_⟩
    ·rw[i1,f1,f2,YA,YA,YA,<- LC];exact Zw (JmE e hz t1 (by omega (config:={})))
    ·have e1:Ju (goS s ins (cur::p::q::r))=(cur.1+cur.2)::Ju (goS s ins ((cur.1,cur.2+p.2)::q::r)):=by rw[f1,f2,JD,JD,JD];exact JmC e _
     rw[e1,e2,Gf,Gf];omega (config:={})
  ·next e =>
   split
   ·next hpp =>
    obtain⟨q',e1,e2⟩:=ZM r p;obtain⟨i1,i2⟩:=JbU s x r p (max 0 (ins+min cur.2 (s-ins)-(p.1-cur.1-cur.2))) (by omega (config:={})) w.cons nx (by omega (config:={})) (by omega (config:={}))
    cases hcl:clF p r with
    | nil=>rw[hcl] at e1;cases e1
    | cons y l =>
     rw[hcl] at e1 i1 i2;have:y=q':=by simpa using e1
     subst this;rw[Yh,Yh,e2];refine⟨?_,?_⟩
     ·rw[YA,YA,i1]
     ·rw[JD _ (goS s _ (p::r)),JD cur (y::l),JD _ (goS s _ (y::l)),JD cur (p::r),Gf,Gf,Gf,Gf];omega (config:={})
   ·next hpp =>
    have hp0:p.2=0:=by omega (config:={})
    obtain⟨i1,i2⟩:=JbU s x r cur ins hc w.cons (fun q e'=>by have:=nx q e';omega (config:={})) h0 h1;obtain⟨t,m,v,ht,hl,hd,hu,t0,t1,hz⟩:=bare hb hp0 hc h0 h1;have v0:0<=v:=by rcases hz with ⟨z1,z2,z3⟩|⟨z1,z2,z3⟩ <;> omega (config:={})
    have e2:(Ju (cur::p::r)).count x=(Ju (cur::r)).count x+(if p.1=x then 1 else 0):=by rw[JD,JD,JD];exact Jpb (.inl ⟨rfl,by omega (config:={})⟩)
    cases r with
    | nil =>
     obtain⟨k1,k2,k3⟩:(m+0=0\/v=p.1-cur.1-cur.2)/\ins+t=v+(m+0)/\0<=m+0:=by rcases hz with ⟨z1,z2,z3⟩|⟨z1,z2,z3⟩ <;> omega (config:={})
     have f1:goS s ins [cur,p]=[(cur.1+t,cur.2-t+v),(p.1+0,p.2-0+(m+0))]:=by rw[Yh,ht,hl,hd];show _::[(p.1+min p.2 (s-m),p.2-min p.2 (s-m)+(m+min p.2 (s-m)))]=_;rw[hu]
     have f2:goS s ins [cur]=[(cur.1+t,cur.2-t+(v+(m+0)))]:=by show [(cur.1+min cur.2 (s-ins),cur.2-min cur.2 (s-ins)+(ins+min cur.2 (s-ins)))]=_;rw[ht,k2]
     refine⟨?_,?_⟩
     ·rw[i1,f1,f2,YA,YA,YA,<- LC];exact Zw (JmF hp0 k1 k3 t1 v0)
     ·rw[show(Ju (goS s ins [cur,p])).count x=(Ju (goS s ins [cur])).count x+(if p.1=x then 1 else 0) by rw[f1,f2,JD,JD,JD];exact JmD hp0 k1,e2]
      omega (config:={})
    | cons q r =>
     have hn:=nx q rfl
     obtain⟨y,y0,k1,k2,k3,k4⟩:∃y:Int,0<=y/\min (m+0) (q.1-p.1-p.2)=y/\min (ins+t) (q.1-cur.1-cur.2)=v+y/\max 0 (m+0-(q.1-p.1-p.2))=max 0 (ins+t-(q.1-cur.1-cur.2))/\(y=0\/v=p.1-cur.1-cur.2):=by
      rcases hz with ⟨z1,z2,z3⟩|⟨z1,z2,z3⟩
      ·subst z1 z2;exact⟨0,QD _,by omega (config:={}),by omega (config:={}),by omega (config:={}),.inl rfl⟩
      ·subst z1 z2;exact⟨_,by omega (config:={}),rfl,by omega (config:={}),by omega (config:={}),.inr rfl⟩
     have f1:goS s ins (cur::p::q::r)=(cur.1+t,cur.2-t+v)::(p.1+0,p.2-0+y)::goS s (max 0 (ins+t-(q.1-cur.1-cur.2))) (q::r):=by rw[Yh,ht,hl,hd,Yh,hu,k1,k3]
     have f2:goS s ins (cur::q::r)=(cur.1+t,cur.2-t+(v+y))::goS s (max 0 (ins+t-(q.1-cur.1-cur.2))) (q::r):=by rw[Yh,ht,k2]
     refine⟨?_,?_⟩
     ·rw[i1,f1,f2,YA,YA,YA,<- LC];exact Zw (JmF hp0 k4 y0 t1 v0)
     ·rw[show(Ju (goS s ins (cur::p::q::r))).count x=(Ju (goS s ins (cur::q::r))).count x+(if p.1=x then 1 else 0) by rw[f1,f2,JD,JD,JD];exact JmD hp0 k4,e2]
      omega (config:={})
theorem Jes(s x:Int)(hs:0<=s):∀(ps:List Pr),Wide 0 ps->J3 (goS s 0 (clN ps)) x=J3 (goS s 0 ps) x/\(Ju (goS s 0 ps)).count x+(Ju (clN ps)).count x=(Ju (goS s 0 (clN ps))).count x+(Ju ps).count x
 | [],_=>⟨rfl,rfl⟩
 | p::r,w=>by
  have hp:=w.one 0 p rfl;rw[clN];split
  ·next h=>exact JbU s x r p 0 hp w.cons (fun q e=>by have:=w.gap 0 p q rfl (by simpa using e);omega) (QD _) hs
  ·next h =>
   have hp0:p.2=0:=by omega
   obtain⟨i1,i2⟩:=Jes s x hs r w.cons
   have e:goS s 0 (p::r)=p::goS s 0 r:=by
    cases r with
    | nil =>
     show [(p.1+min p.2 (s-0),p.2-min p.2 (s-0)+(0+min p.2 (s-0)))]=[p]
     congr 1;exact KO (by dsimp only;omega) (by dsimp only;omega)
    | cons q r=>have:=w.gap 0 p q rfl rfl;rw[Yh,show max 0 (0+min p.2 (s-0)-(q.1-p.1-p.2))=0 by omega];congr 1;exact KO (by dsimp only;omega) (by dsimp only;omega)
   rw[e];refine⟨?_,?_⟩
   ·rw[i1,YA,show inI p.1 (p.1+p.2) x=false by
     cases c:inI p.1 (p.1+p.2) x with
     | false=>rfl
     | true=>rw[inI_t] at c;omega]
    rfl
   ·rw[JD,JD p r,Gf,Gf];omega
theorem JfY(d:Int)(ps:List Pr):Ju (mvP d ps)=(Ju ps).map (·-d):=by unfold Ju mvP;rw[Qr,Qr];exact Qy fun p _=>by show p.1-d+p.2=p.1+p.2-d;omega
theorem Jln{c d:Int}{ps:List Pr}(w:Wide c (mvP d ps)):Wide c ps:=by refine⟨fun i p e=>w.one i (p.1-d,p.2) (by unfold mvP;rw[Qq,e];rfl),fun i p q e1 e2=>?_⟩;have:=w.gap i (p.1-d,p.2) (q.1-d,q.2) (by unfold mvP;rw[Qq,e1];rfl) (by unfold mvP;rw[Qq,e2];rfl);dsimp only at this;omega
theorem Jkf{s:Int}(hs:1<=s){ps:List Pr}(g:Good ps):thF (goS s 0 ps)=mvP (-1) (goS (s-1) 0 (thF ps)):=by
 have g1:=(Wq (s:=s) ps 0 g (QD _) (by omega)).1
 have e:byF (-1) (goS s 0 ps)=mvP (-1) (goS (s-1) 0 (byF (-1) ps)):=by rw[<- VQ,<- VQ];exact JiA s ps 0 0 g (QD _) (by omega)
 have w1:Wide 0 (goS (s-1) 0 (byF (-1) ps)):=by have:Wide (1+-1) (byF (-1) (goS s 0 ps)):=(Yc g1).bys (k:=-1);rw[e] at this;exact Jln this
 have w0:Wide 0 (byF (-1) ps):=by
  have z:Wide (1+-1) (byF (-1) ps):=(Yc g).bys (k:=-1)
  rwa [show(1:Int)+-1=0 by decide] at z
 have gt:=Yn g
 have g2:Good (goS (s-1) 0 (thF ps)):=by
  by_cases h:s-1=0
  ·rw[h,Zs _ ((Yc gt).mono (by omega))];exact gt
  ·exact(Wq (s:=s-1) (thF ps) 0 gt (QD _) (by omega)).1
 have key:clN (goS (s-1) 0 (byF (-1) ps))=goS (s-1) 0 (thF ps):=by
  refine JbV (ZN _ w1) g2 fun x=>?_
  rw[JbE x _ fun p hp=>by obtain⟨i,hi,rfl⟩:=Gw.mp hp;exact w1.one i _ (by simp)]
  exact(Jes (s-1) x (by omega) (byF (-1) ps) w0).1.symm
 show clN (byF (-1) (goS s 0 ps))=_;rw[e,JeH,key]
theorem Jp3{s:Int}(hs:1<=s){ps:List Pr}(g:Good ps)(x:Int):(spF (goS s 0 ps)).count (x+1)+(Ju (thF ps)).count x=(Ju (thF (goS s 0 ps))).count (x+1)+(spF ps).count x:=by
 have w0:Wide 0 (byF (-1) ps):=by
  have z:Wide (1+-1) (byF (-1) ps):=(Yc g).bys (k:=-1)
  rwa [show(1:Int)+-1=0 by decide] at z
 have e:byF (-1) (goS s 0 ps)=mvP (-1) (goS (s-1) 0 (byF (-1) ps)):=by rw[<- VQ,<- VQ];exact JiA s ps 0 0 g (QD _) (by omega)
 have sb:∀q:List Pr,spF q=Ju (byF (-1) q):=fun q=>by
  have z:=Jj2 (-1) q
  rwa [show(-1:Int)+1=0 by omega,VR] at z
 have cm:∀l:List Int,(l.map (· - -1)).count (x+1)=l.count x:=fun l=>by
  induction l with
  | nil=>rfl
  | cons y l ih =>
   rw[Qe,Gf,Gf,ih];congr 1
   by_cases h:y=x
   ·subst h;simp
   ·rw[if_neg (by simpa using h),if_neg (by simp;omega)]
 have k:=(Jes (s-1) x (by omega) (byF (-1) ps) w0).2;rw[sb,e,JfY,cm,Jkf hs g,JfY,cm,sb ps];exact k
theorem JeA:∀{a b:List Pr},(a.map (·.1)).Pairwise (·<·)->(b.map (·.1)).Pairwise (·<·)->(∀p∈a,1<=p.2)->(∀p∈b,1<=p.2)->(∀x,lk x a=lk x b)->a=b
 | [],[],_,_,_,_,_=>rfl
 | [],q::b,_,_,_,h,e=>by
  have:=e q.1;rw[lk,lk,if_pos rfl] at this
  have:=h q Qd;omega
 | p::a,[],_,_,h,_,e=>by
  have:=e p.1;rw[lk,lk,if_pos rfl] at this
  have:=h p Qd;omega
 | p::a,q::b,ha,hb,h1,h2,e=>by
  rw[Qe,Qw] at ha hb
  have out:∀{l:List Pr} {x:Int},(∀y∈l.map (·.1),x<y)->lk x l=0:=fun {l x} h=>by
   induction l with
   | nil=>rfl
   | cons r l ih=>rw[lk,if_neg fun z=>by have:=h r.1 (by simp);omega];exact ih fun y hy=>h y (by rw[Qe];exact Qc _ hy)
  have hp:=h1 p Qd
  have hq:=h2 q Qd
  have ek:p.1=q.1:=by
   rcases Int.lt_trichotomy p.1 q.1 with z|z|z
   ·have:=e p.1;rw[lk,if_pos rfl,lk,if_neg (by omega),out fun y hy=>by have:=hb.1 y hy;omega] at this;omega
   ·exact z
   ·have:=e q.1;rw[lk,if_neg (by omega),lk,if_pos rfl,out fun y hy=>by have:=ha.1 y hy;omega] at this;omega
  have ev:p.2=q.2:=by have:=e p.1;rw[lk,if_pos rfl,lk,if_pos ek.symm] at this;exact this
  have:p=q:=KO ek ev;subst this;rw[JeA ha.2 hb.2 (fun r hr=>h1 r (Qc _ hr)) (fun r hr=>h2 r (Qc _ hr)) fun x=>?_]
  have:=e x;rw[lk,lk] at this
  by_cases c:p.1=x
  ·subst c;rw[out ha.1,out hb.1]
  ·rwa [if_neg c,if_neg c] at this
theorem JfS:∀{a:List Pr} {x:Int},x∉a.map (·.1)->lk x a=0
 | [],_,_=>rfl
 | p::r,x,h=>by rw[lk,if_neg fun z=>h (by rw[<- z];simp)];exact JfS fun m=>h (by rw[Qe];exact Qc _ m)
theorem JfR{a:List Pr}(hn:(a.map (·.1)).Nodup)(h:∀p∈a,1<=p.2)(x:Int):lk x a=((YO a).count x:Int):=by
 rw[Jah,Jf1 (fun p=>((p.2.toNat:Nat):Int)) hn];split
 ·next m=>obtain⟨p,hp,e⟩:=Qx.mp m;subst e;rw[JeC hn hp];have:=h p hp;dsimp only;omega
 ·next m=>exact JfS m
theorem ZB(l:List Tr):(Ul l).map (·.1)=l.map (·.2.1):=by unfold Ul;rw[Qr];rfl
theorem JeB{q:List Pr}(g:Good q)(k x:Int):lk x (Ul (Yg k q))+((Ju (thF q)).count x:Int)=((spF q).count x:Int):=by
 have pw:=Wt g k;rw[JfR (by rw[ZB];exact pw.imp fun {a b} h=>by omega) fun p hp=>by obtain⟨u,hu,e⟩:=Qx.mp hp;rw[<- e];exact VT hu]
 have:=((YC (Ju (thF q)++YO (Ul (Yg k q)))).count_eq x)
 rw[Jbr g k,Lv] at this;omega
theorem JnH{s:Int}(hs:1<=s){ps:List Pr}(g:Good ps)(k:Int):Yg k (goS s 0 ps)=(Yg k ps).map fun t=>(t.1,t.2.1+1,t.2.2):=by
 have g1:=(Wq (s:=s) ps 0 g (QD _) (by omega)).1
 have pr:Ul (Yg k (goS s 0 ps))=(Ul (Yg k ps)).map fun p=>(p.1+1,p.2):=by
  have pw:=Wt g k
  have pk:(((Ul (Yg k ps)).map fun p=>(p.1+1,p.2)).map (·.1))=((Yg k ps).map (·.2.1)).map (·+1):=by rw[<- ZB,Qr,Qr];rfl
  refine JeA (by rw[ZB];exact Wt g1 k) (by
   rw[pk,Lu];exact pw.imp fun {a b} h=>by omega) (fun p hp=>by
   obtain⟨u,hu,e⟩:=Qx.mp hp;rw[<- e];exact VT hu) (fun p hp=>by
   obtain⟨q,hq,e⟩:=Qx.mp hp;obtain⟨u,hu,e'⟩:=Qx.mp hq;rw[<- e,<- e'];exact VT hu) fun x=>?_
  have sh:∀a:List Pr,lk x (a.map fun p=>(p.1+1,p.2))=lk (x-1) a:=fun a=>by
   induction a with
   | nil=>rfl
   | cons p r ih =>
    rw[Qe,lk,lk,ih];dsimp only
    by_cases c:p.1+1=x
    ·rw[if_pos c,if_pos (by omega)]
    ·rw[if_neg c,if_neg (by omega)]
  rw[sh];have e1:=JeB g1 k x;have e2:=JeB g k (x-1);have e3:=Jp3 hs g (x-1);rw[show x-1+1=x by omega] at e3;omega
 have back:∀l:List Tr,(∀t∈l,t.1=k)->l=(Ul l).map fun p=>(k,p.1,p.2):=fun l h=>by
  unfold Ul;rw[Qr];refine(KM l).symm.trans (Qy fun t ht=>?_);show t=(k,t.2.1,t.2.2)
  rw[<- h t ht]
 rw[back (Yg k (goS s 0 ps)) fun t ht=>UA ht,pr,Qr]
 conv=>rhs;rw[back (Yg k ps) fun t ht=>UA ht]
 rw[Qr];rfl
theorem Jkd:∀(n:Nat) (k s:Int) {ps:List Pr},Good ps->0<=s->tbN n k (goS s 0 ps)=(tbN n k ps).map fun t=>(t.1,t.2.1+min (t.1-k) s,t.2.2)
 | 0,_,_,_,_,_=>rfl
 | n+1,k,s,ps,g,hs=>by
  by_cases h0:s=0
  ·subst h0;rw[Zs ps ((Yc g).mono (by omega))];refine(KM _).symm.trans (Qy fun t ht=>?_);have:=ZE _ _ _ t ht;show t=(t.1,t.2.1+min (t.1-k) 0,t.2.2)
   rw[show min (t.1-k) 0=0 by omega,Ls]
  ·have h1:1<=s:=by omega
   rw[tbN,tbN,Qz,JnH h1 g,Jkf h1 g,JmN,Jkd n (k+1) (s-1) (Yn g) (by omega),Qr];congr 1
   ·refine Qy fun t ht=>?_
    rw[UA ht,show min (k+1-k) s=1 by omega]
   ·refine Qy fun t ht=>?_
    have:=ZE _ _ _ t ht
    show(t.1,t.2.1+min (t.1-(k+1)) (s-1) - -1,t.2.2)=(t.1,t.2.1+min (t.1-k) s,t.2.2)
    rw[show t.2.1+min (t.1-(k+1)) (s-1) - -1=t.2.1+min (t.1-k) s by omega]
theorem Jjt(k:Int)(l:List Tr)(h:∀t∈l,t.1=k):l=(Ul l).map fun p=>(k,p.1,p.2):=by
 unfold Ul;rw[Qr];refine(KM l).symm.trans (Qy fun t ht=>?_);show t=(k,t.2.1,t.2.2)
 rw[<- h t ht]
theorem Jb5{ps prs:List Pr}(g:Good ps)(hp:∀p∈prs,1<=p.2)(pw:(prs.map (·.1)).Pairwise (·<·))(k:Int):Good (putF ps prs)/\thF (putF ps prs)=ps/\Yg k (putF ps prs)=prs.map fun p=>(k,p.1,p.2):=by
 have hs:(UI (Ju ps++YO prs)).Pairwise (·<=·):=WB _
 have he:∀p∈ps,p.1+p.2∈UI (Ju ps++YO prs):=fun p h=>(YC _).mem_iff.mpr (Q6.mpr (.inl (Qx.mpr ⟨p,h,rfl⟩)))
 obtain⟨g1,th⟩:=Jkh g hs he;have g1:Good (putF ps prs):=g1;have th:thF (putF ps prs)=ps:=th;refine⟨g1,th,?_⟩;rw[Jjt k (Yg k (putF ps prs)) fun t ht=>UA ht];refine congrArg (Lw _) (JeA (by rw[ZB];exact Wt g1 k) pw (fun p hp=>by obtain⟨u,hu,e⟩:=Qx.mp hp;rw[<- e];exact VT hu) hp fun x=>?_)
 have e1:=JeB g1 k x
 have e2:spF (putF ps prs)=UI (Ju ps++YO prs):=Jp2 _ _;rw[th,e2,(YC _).count_eq x,Lv] at e1
 have e3:=JfR (pw.imp fun {a b} h=>by omega) hp (x:=x);omega
theorem JmZ{r:List Pr}(g:Good r)(d:Nat):thN d (byF (d:Int) r)=r:=by have w:=(Yc g).bys (k:=(d:Int));rw[WG w (by omega) (by omega),JcM,show -(d:Int)+(d:Int)=0 by omega,VR]
theorem Jp7{r:List Pr}(g:Good r)(d m:Nat)(k:Int):tbN (d+m) k (byF (d:Int) r)=tbN m (k+(d:Int)) r:=by have w:=(Yc g).bys (k:=(d:Int));rw[Jgu w (by omega) d m k (by omega),JmZ g d]
noncomputable def GpR:Int->List Gp->Prop
 | _,[]=>True
 | k,g::gs=>k<g.1/\g.2≠[]/\(∀p∈g.2,1<=p.2)/\(g.2.map (·.1)).Pairwise (·<·)/\GpR g.1 gs
noncomputable def flG(gs:List Gp):List Tr:=gs.flatMap fun g=>g.2.map fun p=>(g.1,p.1,p.2)
theorem Vh:∀(gs:List Gp) (k:Int),GpR k gs->Good (YW k gs)
 | [],_,_=>Good.nil
 | g::gs,k,h=>by obtain⟨h1,h2,h3,h4,h5⟩:=h;have a:=(Jb5 (Vh gs g.1 h5) h3 h4 0).1;exact((Yc a).bys (k:=g.1-k-1)).good (by omega)
theorem Jgt:∀(gs:List Gp) (k:Int) (N:Nat),GpR k gs->thN N (YW k gs)=[]->tbN N k (YW k gs)=flG gs
 | [],k,N,_,_=>W8 N k
 | g::gs,k,N,h,hN=>by
  have gk:=Vh (g::gs) k h;obtain⟨h1,h2,h3,h4,h5⟩:=h
  have gr:=Vh gs g.1 h5;obtain⟨a1,a2,a3⟩:=Jb5 gr h3 h4 g.1;obtain⟨d,hd⟩:∃d:Nat,(d:Int)=g.1-k-1:=⟨(g.1-k-1).toNat,by omega⟩
  have er:YW k (g::gs)=byF (d:Int) (putF (YW g.1 gs) g.2):=by rw[YW,hd]
  have ne:putF (YW g.1 gs) g.2≠[]:=fun z=>by rw[z] at a3;have:Yg g.1 []=[]:=rfl;rw[this] at a3;exact h2 (List.map_eq_nil_iff.mp a3.symm)
  have neB:byF (d:Int) (putF (YW g.1 gs) g.2)≠[]:=fun z=>ne (QE (by rw[<- Va (d:Int),z];rfl))
  rw[er] at hN ⊢
  have hlt:d<N:=by
   rcases MQ d N with z|z
   ·exact z
   ·exact absurd hN (Jkg ((Yc a1).bys (k:=(d:Int))) (by omega) neB N (by omega))
  obtain⟨m,rfl⟩:∃m,N=d+(m+1):=⟨N-d-1,by omega⟩
  rw[ZF,JmZ a1 d] at hN;have hN':thN m (YW g.1 gs)=[]:=by rw[<- a2];exact hN
  rw[Jp7 a1 d (m+1) k,tbN,a2,show k+(d:Int)+1=g.1 by omega,a3,Jgt gs g.1 m h5 hN'];rfl
theorem JfE:∀(gs:List Gp) (t:Tr),(gs.map (·.1)).Pairwise (·<·)->(∀g∈gs,g.1<=t.1)->flG (YZ gs t)=flG gs++[t]
 | [],t,_,_=>rfl
 | g::gs,t,hp,h=>by
  rw[Qe,Qw] at hp;rw[YZ]
  by_cases c:g.1=t.1
  ·rw[if_pos c]
   have e:gs=[]:=by
    cases gs with
    | nil=>rfl
    | cons x xs =>
     have h1:=hp.1 x.1 (Qx.mpr ⟨x,Qd,rfl⟩)
     have h2:=h x (Qc _ Qd);omega
   subst e;unfold flG;rw[Q9,Q9,Qz,List.flatMap_nil,GR,GR,c];rfl
  ·rw[if_neg c];unfold flG;rw[Q9,Q9,Gu];exact congrArg _ (JfE gs t hp.2 fun x hx=>h x (Qc _ hx))
theorem JhP:∀(gs:List Gp) (k:Int) (t:Tr),GpR k gs->k<t.1->1<=t.2.2->(∀g∈gs,g.1<=t.1/\(g.1=t.1->∀p∈g.2,p.1<t.2.1))->GpR k (YZ gs t)
 | [],k,t,_,h1,h2,_=>by rw[YZ];exact⟨h1,by simp,fun p hp=>by rw[QW.mp hp];exact h2,by simp,trivial⟩
 | g::gs,k,t,h,h1,h2,h3=>by
  obtain⟨a1,a2,a3,a4,a5⟩:=h;obtain⟨b1,b2⟩:=h3 g Qd;rw[YZ]
  by_cases c:g.1=t.1
  ·rw[if_pos c];refine⟨a1,by simp,fun p hp=>?_,?_,a5⟩
   ·rcases Q6.mp hp with z|z
    ·exact a3 p z
    ·rw[QW.mp z];exact h2
   ·dsimp only;rw[Qz,Kn];refine⟨a4,by simp,fun x hx y hy=>?_⟩;obtain⟨p,hp,rfl⟩:=Qx.mp hx;simp at hy;subst hy;exact b2 c p hp
  ·rw[if_neg c];exact⟨a1,a2,a3,a4,JhP gs g.1 t a5 (by omega) h2 fun x hx=>h3 x (Qc _ hx)⟩
theorem JcC:∀(gs:List Gp) (t:Tr) (g:Gp),g∈YZ gs t->(∃x∈gs,x.1=g.1/\∀p∈g.2,p∈x.2\/(g.1=t.1/\p.1=t.2.1))\/(g.1=t.1/\∀p∈g.2,p.1=t.2.1)
 | [],t,g,h=>by rw[YZ,QW] at h;subst h;exact .inr ⟨rfl,fun p hp=>by rw[QW.mp hp]⟩
 | x::gs,t,g,h=>by
  rw[YZ] at h
  by_cases c:x.1=t.1
  ·rw[if_pos c] at h;rcases Qh.mp h with z|z
   ·subst z;refine .inl ⟨x,Qd,rfl,fun p hp=>?_⟩;rcases Q6.mp hp with y|y
    ·exact .inl y
    ·exact .inr ⟨c,by rw[QW.mp y]⟩
   ·exact .inl ⟨g,Qc _ z,rfl,fun p hp=>.inl hp⟩
  ·rw[if_neg c] at h;rcases Qh.mp h with z|z
   ·subst z;exact .inl ⟨g,Qd,rfl,fun p hp=>.inl hp⟩
   ·rcases JcC gs t g z with ⟨y,hy,r⟩|r
    ·exact .inl ⟨y,Qc _ hy,r⟩
    ·exact .inr r
theorem GpR.keys:∀{gs:List Gp} {k:Int},GpR k gs->(gs.map (·.1)).Pairwise (·<·)/\∀g∈gs,k<g.1
 | [],_,_=>⟨List.Pairwise.nil,fun g h=>(Q5 h).elim⟩
 | g::gs,k,h=>by
  obtain⟨a1,_,_,_,a5⟩:=h;obtain⟨b1,b2⟩:=GpR.keys a5;refine⟨Qw.mpr ⟨fun x hx=>?_,b1⟩,fun x hx=>?_⟩
  ·obtain⟨y,hy,rfl⟩:=Qx.mp hx;exact b2 y hy
  ·rcases Qh.mp hx with z|z
   ·rw[z];exact a1
   ·have:=b2 x z;omega
theorem Jix:∀(tb:List Tr) (gs:List Gp) (a:Option Pr),UJ a tb->GpR 0 gs->(∀g∈gs,∃b,a=some b/\g.1<=b.1/\(g.1=b.1->∀p∈g.2,p.1<=b.2))->GpR 0 (tb.foldl YZ gs)/\flG (tb.foldl YZ gs)=flG gs++tb
 | [],gs,_,_,h,_=>⟨h,by simp⟩
 | t::tb,gs,a,ha,h,hb=>by
  obtain⟨t1,t2,t3,t4⟩:=ha
  have old:∀g∈gs,g.1<=t.1/\(g.1=t.1->∀p∈g.2,p.1<t.2.1):=fun g hg=>by obtain⟨b,e,l1,l2⟩:=hb g hg;have:=t3 b e;refine⟨by omega,fun z p hp=>?_⟩;have:=l2 (by omega) p hp;omega
  have n1:=JhP gs 0 t h (by omega) t2 old
  have n2:=JfE gs t h.keys.1 fun g hg=>(old g hg).1
  obtain⟨r1,r2⟩:=Jix tb (YZ gs t) _ t4 n1 fun g hg=>⟨_,rfl,by
   rcases JcC gs t g hg with ⟨x,hx,e,q⟩|⟨e,q⟩
   ·have o:=old x hx;refine⟨by dsimp only;omega,fun z p hp=>?_⟩;rcases q p hp with y|y
    ·have:=o.2 (e.trans z) p y;dsimp only;omega
    ·dsimp only;omega
   ·exact⟨by dsimp only;omega,fun z p hp=>by have:=q p hp;dsimp only;omega⟩⟩
  rw[QL];refine⟨r1,?_⟩;rw[r2,n2,Gu];rfl
theorem Jpm{tb:List Tr}(h:UJ none tb):GpR 0 (YQ tb)/\flG (YQ tb)=tb:=Jix tb [] none h trivial fun g hg=>(Q5 hg).elim
theorem JmA(ps:List Pr):∀(sp:List Int) (i:Nat) (c:Int),(edF ps i c sp).length=sp.length
 | [],_,_=>rfl
 | s::r,i,c=>by rw[edF,Qo,JmA ps r,Qo]
theorem Jb7:∀(prs:List Pr),(∀p∈prs,1<=p.2)->((YO prs).length:Int)=(prs.map (·.2)).sum
 | [],_=>rfl
 | p::r,h=>by
  have ih:=Jb7 r fun x hx=>h x (Qc _ hx)
  have:=h p Qd;unfold YO at *;rw[Q9,Qv,GA,Qe,Qu,<- ih];omega
theorem Jjy(ps prs:List Pr)(h:∀p∈prs,1<=p.2):((putF ps prs).length:Int)=(ps.length:Int)+(prs.map (·.2)).sum:=by unfold putF;rw[JmA,(YC _).length_eq,Qv,<- Jb7 prs h];unfold Ju;rw[Qk];omega
theorem Jdq(a b:List Tr):J6 (a++b)=J6 a+J6 b:=by unfold J6;rw[Qz,LL]
theorem Jdr(k:Int)(prs:List Pr):J6 (prs.map fun p=>(k,p.1,p.2))=(prs.map (·.2)).sum:=by unfold J6;rw[Qr];rfl
theorem Jav:∀(gs:List Gp) (k:Int),GpR k gs->((YW k gs).length:Int)=J6 (flG gs)
 | [],_,_=>rfl
 | g::gs,k,h=>by obtain⟨h1,h2,h3,h4,h5⟩:=h;rw[YW,Va,Jjy _ _ h3,Jav gs g.1 h5];unfold flG;rw[Q9,Jdq,Jdr];omega
theorem Jje:∀(gs:List Gp) (k:Int),GpR k gs->J6 (flG gs)<=30->OkG k gs
 | [],_,_,_=>trivial
 | g::gs,k,h,hs=>by
  have h':=h;obtain⟨h1,h2,h3,h4,h5⟩:=h
  have gr:=Vh gs g.1 h5
  have a:=(Jb5 gr h3 h4 0).1
  have l:=Jav gs g.1 h5
  have e:J6 (flG (g::gs))=(g.2.map (·.2)).sum+J6 (flG gs):=by unfold flG;rw[Q9,Jdq,Jdr]
  have pl:=Jjy (YW g.1 gs) g.2 h3
  have m0:=Jb7 g.2 h3;exact⟨h1,h3,gr,by omega,a,by omega,Jje gs g.1 h5 (by omega)⟩
theorem Vi{tb:List Tr}(h:UJ none tb)(hs:J6 tb<=30):OkG 0 (YQ tb)/\Good (YW 0 (YQ tb))/\((YW 0 (YQ tb)).length:Int)=J6 tb/\∀N,thN N (YW 0 (YQ tb))=[]->tbN N 0 (YW 0 (YQ tb))=tb:=by obtain⟨r,e⟩:=Jpm h;refine⟨Jje _ 0 r (by rw[e];exact hs),Vh _ 0 r,by rw[Jav _ 0 r,e],fun N hN=>?_⟩;rw[Jgt _ 0 N r hN,e]
noncomputable def U7:Option Int->D
 | none=>.non
 | some s=>.int s
noncomputable def OkS(seats:Option Int):Prop:=∀s,seats=some s->1<=s
noncomputable def Sts(seats:Option Int)(s m:Int):Prop:=seats=some s\/(seats=none/\m<=s)
theorem Jmh(a g:Int):a-min a g=max 0 (a-g):=by
 rcases KL a g with h|h
 ·rw[GH h,Lf (by omega),Int.sub_self]
 ·rw[Gd h,GW (by omega)]
theorem JiD(s:Int):∀(ps:List Pr) (ins:Int),Good ps->0<=ins->ins<=s->((goS s ins ps).map (·.2)).sum=(if ps=[] then 0 else ins)+(ps.map (·.2)).sum
 | [],_,_,_,_=>rfl
 | [p],ins,g,h0,h1=>by simp[goS];omega (config:={})
 | p::q::r,ins,g,h0,h1=>by
  have hp:=g.one 0 p rfl
  have hg:=g.gap 0 p q rfl rfl
  have t2:=KC p.2 (s-ins)
  have ih:=JiD s (q::r) (max 0 (ins+min p.2 (s-ins)-(q.1-p.1-p.2))) (Good.cons' g) (LV _ _) (Rk.mpr ⟨by omega (config:={}),by omega (config:={})⟩);rw[if_neg (by simp)] at ih
  have e0:((p::q::r).map (·.2)).sum=p.2+((q::r).map (·.2)).sum:=by rw[Qe,Qu]
  have sm:=Jmh (ins+min p.2 (s-ins)) (q.1-p.1-p.2);rw[Yh,Qe,Qu,ih,e0,if_neg (by simp),<- sm];dsimp only
  generalize min (ins+min p.2 (s-ins)) (q.1-p.1-p.2)=w
  generalize min p.2 (s-ins)=t
  omega (config:={})
theorem JfJ{s:Int}{ps:List Pr}(g:Good ps)(hs:0<=s):((goS s 0 ps).map (·.2)).sum=(ps.map (·.2)).sum:=by rw[JiD s ps 0 g (QD _) hs];split <;> omega
theorem Jke:∀(n:Nat) (s:Int) {ps:List Pr},Good ps->0<=s->thN n ps=[]->thN n (goS s 0 ps)=[]
 | 0,s,ps,g,hs,h=>by have:ps=[]:=h;subst this;rfl
 | n+1,s,ps,g,hs,h=>by
  by_cases h0:s=0
  ·subst h0;rw[Zs ps ((Yc g).mono (by omega))];exact h
  ·show thN n (thF (goS s 0 ps))=[]
   rw[Jkf (by omega) g,Ji7,Jke n (s-1) (Yn g) (by omega) h];rfl
noncomputable def goI(s:Int):Nat->List Pr->List Pr
 | 0,ps=>ps
 | n+1,ps=>goI s n (goS s 0 ps)
theorem JfI(s:Int)(hs:1<=s)(N:Nat):∀(n:Nat) {ps:List Pr},Good ps->thN N ps=[]->Good (goI s n ps)/\(goI s n ps).length=ps.length/\((goI s n ps).map (·.2)).sum=(ps.map (·.2)).sum/\thN N (goI s n ps)=[] ∧
 tbN N 0 (goI s n ps)=(tbN N 0 ps).map fun t=>(t.1,t.2.1+(n:Int)*min t.1 s,t.2.2)
 | 0,ps,g,h=>⟨g,rfl,rfl,h,by
  refine(KM _).symm.trans (Qy fun t _=>?_);show t=(t.1,t.2.1+((0:Nat):Int)*min t.1 s,t.2.2)
  simp⟩
 | n+1,ps,g,h=>by
  have g1:=(Wq (s:=s) ps 0 g (QD _) (by omega)).1;obtain⟨a,b,c,d,e⟩:=JfI s hs N n g1 (Jke N s g (by omega) h);refine⟨a,by show(goI s n (goS s 0 ps)).length=_;rw[b,JiB],by show((goI s n (goS s 0 ps)).map (·.2)).sum=_;rw[c,JfJ g (by omega)],d,?_⟩
  show tbN N 0 (goI s n (goS s 0 ps))=_;rw[e,Jkd N 0 s g (by omega),Qr];refine Qy fun t _=>?_
  show(t.1,t.2.1+min (t.1-0) s+(n:Int)*min t.1 s,t.2.2)=(t.1,t.2.1+((n+1:Nat):Int)*min t.1 s,t.2.2)
  rw[L4,KU,LH];congr 2;simp;omega
theorem Jp8{N:Nat}{ps:List Pr}(g:Good ps)(hN:thN N ps=[]):∀t∈tbN N 0 ps,t.1<=(ps.map (·.2)).sum:=by
 have bl:=JaD N 0 g hN
 have asc:=Vy N 0 ps none g (QD _) (fun b e=>by cases e)
 have an:=Ug asc;rw[<- bl]
 clear bl
 revert an
 generalize tbN N 0 ps=l
 intro an
 have key:∀l:List Tr,(∀t∈l,1<=t.1/\1<=t.2.2)->0<=(l.map fun t=>(t.1-0)*t.2.2).sum/\∀t∈l,t.1<=(l.map fun t=>(t.1-0)*t.2.2).sum:=by
  intro l
  induction l with
  | nil=>exact fun _=>⟨QD _,fun _ h=>by cases h⟩
  | cons u l ih =>
   intro h;obtain⟨i1,i2⟩:=ih fun t ht=>h t (Qc _ ht)
   obtain⟨h1,h2⟩:=h u Qd
   have hm:u.1<=(u.1-0)*u.2.2:=by
    rw[L4];have:=KF h2 (show 0<=u.1 by omega)
    rwa [Int.mul_one] at this
   rw[Qe,Qu];refine⟨by omega,fun t ht=>?_⟩;rcases Qh.mp ht with z|z
   ·rw[z];omega
   ·have:=i2 t z;omega
 exact(key l an).2
noncomputable def JaP(seats:Option Int)(x:Int):Int:=match seats with
 | none=>x
 | some s=>min x s
theorem Jgi{seats:Option Int}{s x:Int}(h:Sts seats s x):JaP seats x=min x s:=by
 rcases h with z|⟨z,y⟩
 ·rw[z];rfl
 ·rw[z];show x=_;omega
theorem Jpv(seats:Option Int)(x:Int):Y8 [.sh (.int x),.sh (U7 seats)]=some (.sh (.int (JaP seats x))):=by
 unfold Y8
 cases seats with
 | none=>simp only[U7,JaP];walk_at "ev"
 | some s=>simp only[U7,JaP];walk_at "ev"
theorem Jqi(seats:Option Int)(h:OkS seats):∃r,Yt [.sh (U7 seats)]=some r:=by
 unfold Yt
 cases seats with
 | none=>simp only[U7];walk_at "ev";exact⟨_,rfl⟩
 | some s=>have:=h s rfl;simp only[U7];walk_at "ev";rw[decide_eq_false (show ¬s<1 by omega)];walk_at "ev";exact⟨_,rfl⟩
noncomputable def JnJ(t:Int):List Pr->List Pr
 | []=>[]
 | h::l=>(h.1-t,h.2+t)::l
noncomputable def bkL(s:Int):List Pr->Int×List Pr
 | []=>(0,[])
 | [q]=>(min q.2 s,[(q.1,q.2-min q.2 s)])
 | q::q2::r =>
  ((bkL s (q2::r)).1-min (bkL s (q2::r)).1 (q2.1-q.1-q.2)+min q.2 (s-((bkL s (q2::r)).1-min (bkL s (q2::r)).1 (q2.1-q.1-q.2))),
    (q.1,q.2-min q.2 (s-((bkL s (q2::r)).1-min (bkL s (q2::r)).1 (q2.1-q.1-q.2))))::JnJ (min (bkL s (q2::r)).1 (q2.1-q.1-q.2)) (bkL s (q2::r)).2)
noncomputable def bkS(s:Int)(ps:List Pr):List Pr:=JnJ (bkL s ps).1 (bkL s ps).2
theorem Jfj{s:Int}(hs:1<=s):∀(r:List Pr) (q:Pr),Good (q::r)->∃(b x:Int) (tl:List Pr),bkL s (q::r)=(b,(q.1,q.2-x)::tl)/\1<=x/\x<=b/\b<=s/\x<=q.2/\(q.2=x\/b=s) ∧
 tl.length=r.length/\(∀t,1<=t->t<=b->Good ((q.1-t,q.2-x+t)::tl))/\∀t,0<=t->t<=b->goS s (b-t) ((q.1-t,q.2-x+t)::tl)=q::r
 | [],q,g=>by
  have hp:=g.one 0 q rfl;refine⟨min q.2 s,min q.2 s,[],rfl,by omega,by omega,by omega,by omega,by omega,rfl,fun t h1 h2=>Good.mk' (by dsimp only;omega) (fun q e=>by simp at e) Good.nil,fun t h0 h1=>?_⟩
  have e:min (q.2-min q.2 s+t) (s-(min q.2 s-t))=t:=by omega
  simp only[goS];rw[e,show q.1-t+t=q.1 by omega,show q.2-min q.2 s+t-t+(min q.2 s-t+t)=q.2 by omega]
 | q2::r,q,g=>by
  have hp:=g.one 0 q rfl
  have hg:=g.gap 0 q q2 rfl rfl;obtain⟨b2,x2,tl2,e,h1,h2,h3,h4,h5,h6,h7,h8⟩:=Jfj hs r q2 (Good.cons' g)
  obtain⟨d,hd,d1,d2,d3⟩:∃d,min b2 (q2.1-q.1-q.2)=d/\d<=b2/\1<=d/\((d=b2/\b2<=q2.1-q.1-q.2)\/(d=q2.1-q.1-q.2/\q2.1-q.1-q.2<=b2)):=by
   rcases KL b2 (q2.1-q.1-q.2) with h|h
   ·exact⟨b2,GH h,QD _,by omega,.inl ⟨rfl,h⟩⟩
   ·exact⟨_,Gd h,h,by omega,.inr ⟨rfl,h⟩⟩
  obtain⟨x,hx,x1,x3,x4⟩:∃x,min q.2 (s-(b2-d))=x/\1<=x/\x<=q.2/\b2-d+x<=s/\(q.2=x\/b2-d+x=s):=by
   rcases KL q.2 (s-(b2-d)) with h|h
   ·exact⟨_,GH h,hp,QD _,by omega,.inl rfl⟩
   ·exact⟨_,Gd h,by omega,h,by omega,.inr (by omega)⟩
  have x5:=x4.2;refine⟨b2-d+x,x,(q2.1-d,q2.2-x2+d)::tl2,?_,by omega,by omega,by omega,by omega,by omega,by simp[h6],fun t t1 t2=>Good.mk' (by dsimp only;omega) (fun q' e'=>?_) (h7 d (by omega) (by omega)),fun t t0 t1=>?_⟩
  ·rw[bkL,e];dsimp only;rw[hd,hx];rfl
  ·simp at e';rw[<- e'];dsimp only;omega
  ·rw[Yh];dsimp only;have e1:min (q.2-x+t) (s-(b2-d+x-t))=t:=by omega
   rw[e1,show q.1-t+t=q.1 by omega,show b2-d+x-t+t-(q2.1-d-(q.1-t)-(q.2-x+t))=b2-(q2.1-q.1-q.2) by omega,show max 0 (b2-(q2.1-q.1-q.2))=b2-d by omega,h8 d (by omega) (by omega),
    show q.2-x+t-t+min (b2-d+x-t+t) (q2.1-d-(q.1-t)-(q.2-x+t))=q.2 by omega]
theorem Jm6{s:Int}(hs:1<=s){ps:List Pr}(g:Good ps):Good (bkS s ps)/\(bkS s ps).length=ps.length/\goS s 0 (bkS s ps)=ps:=by
 cases ps with
 | nil=>exact⟨Good.nil,rfl,rfl⟩
 | cons q r=>obtain⟨b,x,tl,e,h1,h2,h3,h4,h5,h6,h7,h8⟩:=Jfj hs r q g;have:=h8 b (by omega) (QD _);rw[Int.sub_self] at this;unfold bkS;rw[e];exact⟨h7 b (by omega) (QD _),by simp[JnJ,h6],this⟩
theorem goZ{s:Int}(hs:1<=s){N:Nat}{ps:List Pr}(g:Good ps)(hN:(ps.map (·.2)).sum<=(N:Int))(z:Int):∃qs,Good qs/\qs.length=ps.length/\(qs.map (·.2)).sum=(ps.map (·.2)).sum ∧
 tbN N 0 qs=(tbN N 0 ps).map fun t=>(t.1,t.2.1+z*min t.1 s,t.2.2):=by
 by_cases hz:0<=z
 ·obtain⟨n,rfl⟩:∃n:Nat,z=n:=⟨z.toNat,by omega⟩
  obtain⟨a,b,c,_,e⟩:=JfI s hs N n g (YX N g hN);exact⟨_,a,b,c,e⟩
 ·obtain⟨n,rfl⟩:∃n:Nat,z=-(n:Int):=⟨(-z).toNat,by omega⟩
  clear hz
  induction n with
  | zero=>exact⟨ps,g,rfl,rfl,by refine(KM _).symm.trans (Qy fun t _=>?_);show t=(t.1,t.2.1+-((0:Nat):Int)*min t.1 s,t.2.2);simp⟩
  | succ n ih =>
   obtain⟨qs,a,b,c,e⟩:=ih;obtain⟨a1,b1,e1⟩:=Jm6 hs a;have c1:((bkS s qs).map (·.2)).sum=(qs.map (·.2)).sum:=by rw[<- JfJ a1 (show 0<=s by omega),e1]
   refine⟨bkS s qs,a1,b1.trans b,c1.trans c,?_⟩;have tg:=Jkd N 0 s a1 (by omega);rw[e1,e] at tg;have tg2:=congrArg (Lw fun t:Tr=>((t.1,t.2.1-min t.1 s,t.2.2):Tr)) tg;rw[Qr,Qr] at tg2;refine(Eq.trans ?_ tg2.symm).trans (Qy fun t _=>?_)
   ·refine(KM _).symm.trans (Qy fun t _=>?_);show t=(t.1,t.2.1+min (t.1-0) s-min t.1 s,t.2.2)
    rw[L4,show t.2.1+min t.1 s-min t.1 s=t.2.1 by omega]
   ·show(t.1,t.2.1+-(n:Int)*min t.1 s-min t.1 s,t.2.2)=(t.1,t.2.1+-((n+1:Nat):Int)*min t.1 s,t.2.2)
    congr 2;rw[Rb,Rb,KU,LH];simp;omega
theorem Ji0(tb:List Tr)(seats:Option Int)(s times:Int)(h:UJ none tb)(hs:J6 tb<=30)(hl:tb.length<=30)(ok:OkS seats)(hm:∀t∈tb,Sts seats s t.1)(hs1:1<=s)(ht:-10 ^ 100<=times/\times<=10 ^ 100)(hb:∀t∈tb,1<=t.1/\t.1<=10 ^ 100) :
 Yy [.sh (.lst (tb.map trE)),.sh (U7 seats),.sh (.int times)]=some (.own ((tb.map fun t=>((t.1,t.2.1+times*min t.1 s,t.2.2):Tr)).map trE)):=by
 obtain⟨r1,e1⟩:=Jqi seats ok;obtain⟨r2,e2⟩:=Jpr tb h hs hl;unfold Yy;walk_at "ev";rw[e1];walk_at "ev";rw[e2];walk_at "ev";rw[Ya (g:=fun t:Tr=>trE (t.1,t.2.1+times*min t.1 s,t.2.2))]
 ·walk_at "ev";rw[Qr];rfl
 ·intro t mt;have hst:=hm t mt;have hbt:=hb t mt;have hww:times.natAbs<=10 ^ 200/\(min t.1 s).natAbs<=10 ^ 200:=by omega (config:={})
  simp only[trE];walk_at "ev";rw[Jpv];rw[Jgi hst];walk_at "ev"
noncomputable abbrev Dd:=Option Int×Int
noncomputable def dE(d:Dd):D:=.tup [U7 d.1,.int d.2]
noncomputable def tot:List Dd->Int->Int
 | [],_=>0
 | d::r,x=>d.2*JaP d.1 x+tot r x
theorem Jgx(x:Int):∀A B:List Dd,tot (A++B) x=tot A x+tot B x
 | [],B=>by simp[tot]
 | a::A,B=>by rw[Ka,tot,tot,Jgx x A B];omega
noncomputable def OkD(d:Dd):Prop:=OkS d.1/\-10 ^ 100<=d.2/\d.2<=10 ^ 100
structure To (N:Nat) (f:Int->Int) (ps qs:List Pr):Prop where
 g:Good qs
 l:qs.length=ps.length
 s:(qs.map (·.2)).sum=(ps.map (·.2)).sum
 e:tbN N 0 qs=(tbN N 0 ps).map fun t=>(t.1,t.2.1+f t.1,t.2.2)
theorem To.comp{N:Nat}{f h:Int->Int}{ps qs rs:List Pr}(a:To N f ps qs)(b:To N h qs rs):To N (fun x=>f x+h x) ps rs :=
 ⟨b.g,b.l.trans a.l,b.s.trans a.s,by
  rw[b.e,a.e,Qr];refine Qy fun t _=>?_
  show(t.1,t.2.1+f t.1+h t.1,t.2.2)=(t.1,t.2.1+(f t.1+h t.1),t.2.2)
  rw[MA]⟩
theorem To.refl{N:Nat}{ps:List Pr}(g:Good ps):To N (fun _=>0) ps ps:=⟨g,rfl,rfl,by
 refine(KM _).symm.trans (Qy fun t _=>?_);show t=(t.1,t.2.1+0,t.2.2)
 rw[Ls]⟩
theorem To.congr{N:Nat}{f h:Int->Int}{ps qs:List Pr}(a:To N f ps qs)(e:∀x,f x=h x):To N h ps qs:=by have:f=h:=funext e;subst this;exact a
theorem Jjg{N:Nat}{ps:List Pr}(g:Good ps)(h30:ps.length<=30)(hN:(ps.map (·.2)).sum<=(N:Int))(hb:(ps.map (·.2)).sum<=10 ^ 100)(d:Dd)(ok:OkD d):∃qs,To N (fun x=>d.2*JaP d.1 x) ps qs ∧
 Yy [.sh (.lst ((tbN N 0 ps).map trE)),.sh (U7 d.1),.sh (.int d.2)]=some (.own ((tbN N 0 qs).map trE)):=by
 obtain⟨seats,times⟩:=d;obtain⟨oks,t0,t1⟩:=ok;have pos:=WC (Good.all g);have tN:=YX N g hN
 obtain⟨s,hs1,hst⟩:∃s:Int,1<=s/\Sts seats s (ps.map (·.2)).sum:=by
  cases seats with
  | none=>exact⟨1+(ps.map (·.2)).sum,by omega,.inr ⟨rfl,by omega⟩⟩
  | some s=>exact⟨s,oks s rfl,.inl rfl⟩
 obtain⟨qs,q1,q2,q3,q4⟩:=goZ hs1 g hN times;have qN:=YX N q1 (by rw[q3];exact hN);have tl:=Jp8 g tN
 have hst':∀t∈tbN N 0 ps,Sts seats s t.1:=fun t ht=>by
  rcases hst with z|⟨z,y⟩
  ·exact .inl z
  ·exact .inr ⟨z,by have:=tl t ht;omega⟩
 have asc:=Vy N 0 ps none g (QD _) (fun b e=>by cases e)
 have ns:=Wd N 0 g tN;obtain⟨gl,_⟩:=Jb9 fun t ht=>(Ug asc t ht).2
 refine⟨qs,⟨q1,q2,q3,?_⟩,?_⟩
 ·rw[q4];refine Qy fun t ht=>?_
  show(t.1,t.2.1+times*min t.1 s,t.2.2)=(t.1,t.2.1+times*JaP seats t.1,t.2.2)
  rw[Jgi (hst' t ht)]
 ·show Yy [_,.sh (U7 seats),.sh (.int times)]=_;rw[Ji0 (tbN N 0 ps) seats s times asc (by omega) (by omega) oks hst' hs1 ⟨t0,t1⟩ (fun t ht=>⟨(Ug asc t ht).1,by have:=tl t ht;omega⟩),<- q4]
noncomputable abbrev dnP:Pt:=(.tp (.cons (.nm 3) (.cons (.nm 4) .nil)))
noncomputable abbrev dnB:Es:=(JE 2 (eU 3 Yy (aC (Jd 2) (aC (Jd 3) (aC (Jd 4) a0)))))
theorem Jba(x y:Sl)(N:Nat):∀(ds:List Dd) {ps:List Pr} (j3 j4:Sl),Good ps->ps.length<=30->(ps.map (·.2)).sum<=(N:Int)->(ps.map (·.2)).sum<=10 ^ 100->(∀d∈ds,OkD d)->∃qs j3' j4',To N (tot ds) ps qs ∧
 YD dnP dnB (ds.map dE) [x,y,.sh (.lst ((tbN N 0 ps).map trE)),j3,j4]=some (.nx [x,y,.sh (.lst ((tbN N 0 qs).map trE)),j3',j4'])
 | [],ps,j3,j4,g,_,_,_,_=>⟨ps,j3,j4,To.refl g,rfl⟩
 | d::ds,ps,j3,j4,g,h30,hN,hb,ok=>by
  obtain⟨qs,a,e1⟩:=Jjg g h30 hN hb d (ok d Qd);obtain⟨rs,j3',j4',b,e2⟩:=Jba x y N ds (ps:=qs) (.sh (U7 d.1)) (.sh (.int d.2)) a.g (by rw[a.l];exact h30) (by rw[a.s];exact hN) (by rw[a.s];exact hb) fun c hc=>ok c (Qc _ hc)
  refine⟨rs,j3',j4',(a.comp b).congr fun x=>rfl,?_⟩;rw[Qe,YD];simp only[dE];walk_at "ev";rw[e1];walk_at "ev";exact e2
theorem JiZ{N:Nat}{ps:List Pr}(g:Good ps)(h30:ps.length<=30)(hN:(ps.map (·.2)).sum<=(N:Int))(hb:(ps.map (·.2)).sum<=10 ^ 100)(ds:List Dd)(ok:∀d∈ds,OkD d):∃qs,To N (tot ds) ps qs/\Yp [.sh (.row (ps.map prE)),.sh (.lst (ds.map dE))]=some (.sh (.row (qs.map prE))):=by
 have tN:=YX N g hN;obtain⟨qs,j3,j4,a,e⟩:=Jba (.sh (.row (ps.map prE))) (.sh (.lst (ds.map dE))) N ds .no .no g h30 hN hb ok
 have qN:=YX N a.g (by rw[a.s];exact hN)
 have asc':=Vy N 0 qs none a.g (QD _) (fun b e=>by cases e)
 have ns':=Wd N 0 a.g qN
 have l30:qs.length<=30:=by rw[a.l];exact h30
 obtain⟨gl',_⟩:=Jb9 fun t ht=>(Ug asc' t ht).2
 obtain⟨rt,rk⟩:=JeS qs.length N 0 (Qm _) a.g l30 qN;refine⟨qs,a,?_⟩;unfold Yp;walk_at "ev";rw[JfX ps N g h30 tN];walk_at "ev";rw[e];walk_at "ev";rw[JfW (tbN N 0 qs) asc' (by omega) (by omega) rk,rt];walk_at "ev"

noncomputable def apT(tb:List Tr):List Pr:=tb.flatMap fun t=>QH t.2.2.toNat (t.1,t.2.1)
theorem JhT:∀{r:List Tr} {b:Pr},UJ (some b) r->∀u∈r,b.1<u.1\/(b.1=u.1/\b.2<u.2.1)
 | [],_,_,_,h=>by cases h
 | t::r,b,h,u,hu=>by
  obtain⟨h1,h2,h3,h4⟩:=h;have h5:=h3 b rfl;rcases Qh.mp hu with z|z
  ·subst z;exact h5
  ·have:=JhT h4 u z;dsimp only at this;omega
theorem JhR{tb:List Tr}{x:Pr}(h:x∈apT tb):∃t∈tb,x=(t.1,t.2.1):=by obtain⟨t,ht,hx⟩:=List.mem_flatMap.mp h;exact⟨t,ht,(Mi.mp hx).2⟩
theorem Jd5:∀(tb:List Tr),(∀t∈tb,1<=t.2.2)->((apT tb).length:Int)=J6 tb
 | [],_=>rfl
 | t::tb,h=>by
  have ih:=Jd5 tb fun u hu=>h u (Qc _ hu)
  have h1:=h t Qd;unfold apT J6 at ih ⊢;rw[Q9,Qv,GA,Qe,Qu,<- ih];omega
noncomputable def JpD(q r:Pr):Prop:=q.1<r.1\/(q.1=r.1/\q.2<=r.2)
theorem JhS:∀{tb:List Tr} {o:Option Pr},UJ o tb->(apT tb).Pairwise JpD
 | [],_,_=>List.Pairwise.nil
 | t::tb,o,h=>by unfold apT;rw[Q9];refine Kn.mpr ⟨List.pairwise_replicate.mpr (.inr (.inr ⟨rfl,QD _⟩)),JhS h.2.2.2,fun a ha b hb=>?_⟩;obtain⟨_,rfl⟩:=Mi.mp ha;obtain⟨u,hu,rfl⟩:=JhR (tb:=tb) hb;have:=JhT h.2.2.2 u hu;simp only at this;show t.1<u.1\/(t.1=u.1/\t.2.1<=u.2.1);omega
theorem Jmx(f:Int->Int):∀(tb:List Tr),apT (tb.map fun t=>(t.1,t.2.1+f t.1,t.2.2))=(apT tb).map fun q=>(q.1,q.2+f q.1)
 | []=>rfl
 | t::tb=>by have ih:=Jmx f tb;unfold apT at ih ⊢;rw[Qe,Q9,Q9,ih,Qz,Mf]
theorem Jfe:∀(tb:List Tr) (L:List Pr),tb.foldl (fun L t=>L++QH t.2.2.toNat ((t.1,t.2.1):Pr)) L=L++apT tb
 | [],L=>by simp[apT]
 | t::tb,L=>by rw[QL,Jfe tb];unfold apT;rw[Q9,Gu]
theorem JfU(ps:List Pr)(N:Nat)(g:Good ps)(h:ps.length<=30)(hN:thN N ps=[]):Yd [.sh (.row (ps.map prE))]=some (.own ((apT (tbN N 0 ps)).map prE)):=by
 have asc:=Vy N 0 ps none g (QD _) (fun b e=>by cases e)
 have ns:=Wd N 0 g hN
 have nm:∀t∈tbN N 0 ps,1<=t.2.2:=fun t ht=>(Ug asc t ht).2
 unfold Yd;walk_at "ev";rw[JfX ps N g h hN];walk_at "ev";rw[GD];refine YT (fun(rest:List Tr) (L:List Pr) E=>∃j2 j3 j4,E=[.sh (.row (ps.map prE)),.own (L.map prE),j2,j3,j4]/\(L.length:Int)+J6 rest<=30/\∀t∈rest,1<=t.2.2) (fun L t=>L++QH t.2.2.toNat (t.1,t.2.1)) [] ⟨.no,.no,.no,rfl,by rw[ns];simp;omega,nm⟩ ?_ ?_
 ·rintro t rest L E ⟨j2,j3,j4,rfl,hz,hr⟩;have h1:=hr t Qd
  have hs:0<=J6 rest:=by have:=(Jb9 (tb:=rest) fun u hu=>hr u (Qc _ hu)).1;omega
  have hz':(L.length:Int)+(t.2.2+J6 rest)<=30:=by
   have e:J6 (t::rest)=t.2.2+J6 rest:=by unfold J6;rw[Qe,Qu]
   rw[<- e];exact hz
  simp only[trE];walk_at "ev";rw[Jc1 (d:=D.tup [.int t.1,.int t.2.1]) rfl (Jew ⟨by omega,by omega⟩) (by omega)];walk_at "ev";rw[GA,if_pos (by omega)];refine⟨.sh (.int t.1),.sh (.int t.2.1),.sh (.int t.2.2),?_,by rw[Qv,GA];omega,fun u hu=>hr u (Qc _ hu)⟩;rw[Qz,Mf];rfl
 ·rintro E' ⟨j2,j3,j4,rfl,_,_⟩;rw[Jfe,GP];walk_at "ev"
theorem JhQ{ps:List Pr}{N:Nat}(g:Good ps)(hN:thN N ps=[]):(apT (tbN N 0 ps)).length=ps.length:=by
 have asc:=Vy N 0 ps none g (QD _) (fun b e=>by cases e)
 have l1:=Jd5 _ fun t ht=>(Ug asc t ht).2
 have ns:=Wd N 0 g hN;omega
noncomputable def grF:Int->Int->List Pr->List Pr
 | _,_,[]=>[]
 | a,c,(s,b)::r=>(if 0<(b-c) % (s-a) then [(a+(b-c) % (s-a),(b-c) / (s-a)+1)] else [])++(s,(b-c) / (s-a))::grF s b r
noncomputable def vaF:Int->List Pr->Int->Int
 | _,[],_=>0
 | a,(y,g)::r,x=>g*(min x y-min x a)+vaF y r x
noncomputable def ZH:Int->List Pr->Prop
 | _,[]=>True
 | a,(s,_)::r=>a<s/\ZH s r
theorem JiH:∀(l:List Pr) (a c x:Int),ZH a l->x<=a->vaF a (grF a c l) x=0
 | [],_,_,_,_,_=>rfl
 | (s,b)::r,a,c,x,h,hx=>by
  obtain⟨h1,h2⟩:=h;have ih:=JiH r s b x h2 (by omega);have m0:=LW (b-c) (b:=s-a) (by omega);rw[grF];split
  ·show((b-c) / (s-a)+1)*(min x (a+(b-c) % (s-a))-min x a)+(((b-c) / (s-a))*(min x s-min x (a+(b-c) % (s-a)))+vaF s (grF s b r) x)=0;rw[ih,show min x (a+(b-c) % (s-a))=x by omega,show min x a=x by omega,show min x s=x by omega];simp
  ·show((b-c) / (s-a))*(min x s-min x a)+vaF s (grF s b r) x=0;rw[ih,show min x a=x by omega,show min x s=x by omega];simp
theorem JiG{a c s b x:Int}(h:a<s)(hx:s<=x)(r:List Pr):vaF a (grF a c ((s,b)::r)) x=b-c+vaF s (grF s b r) x:=by
 have m0:=LW (b-c) (b:=s-a) (by omega)
 have m1:=Mj (b-c) (b:=s-a) (by omega)
 have dm:=Int.mul_ediv_add_emod (b-c) (s-a);rw[grF];split
 ·show((b-c) / (s-a)+1)*(min x (a+(b-c) % (s-a))-min x a)+(((b-c) / (s-a))*(min x s-min x (a+(b-c) % (s-a)))+vaF s (grF s b r) x)=_;rw[show min x (a+(b-c) % (s-a))=a+(b-c) % (s-a) by omega,show min x a=a by omega,show min x s=s by omega]
  have e1:((b-c) / (s-a)+1)*(a+(b-c) % (s-a)-a)+(b-c) / (s-a)*(s-(a+(b-c) % (s-a)))=(s-a)*((b-c) / (s-a))+(b-c) % (s-a):=by
   generalize (b-c) / (s-a)=g
   generalize (b-c) % (s-a)=o
   rw[show a+o-a=o by omega,LH,Ra,Int.mul_sub,Lm,Int.sub_mul,MV s g,MV a g];omega
  omega
 ·show((b-c) / (s-a))*(min x s-min x a)+vaF s (grF s b r) x=_;rw[show min x a=a by omega,show min x s=s by omega,MV];omega
theorem Jd6:∀{l:List Pr} {a:Int},ZH a l->∀p∈l,a<p.1
 | [],_,_,p,hp=>(Q5 hp).elim
 | (s,b)::r,a,h,p,hp=>by
  rcases Qh.mp hp with e|e
  ·rw[e];exact h.1
  ·have:=Jd6 h.2 p e
   have:=h.1;omega
theorem JmH:∀(l:List Pr) (a c:Int),ZH a l->∀p∈l,vaF a (grF a c l) p.1=p.2-c
 | [],_,_,_,p,hp=>(Q5 hp).elim
 | (s,b)::r,a,c,h,p,hp=>by
  obtain⟨h1,h2⟩:=h;rcases Qh.mp hp with e|e
  ·subst e;rw[JiG h1 (QD _),JiH r s b s h2 (QD _)];simp
  ·have:=Jd6 h2 p e;rw[JiG h1 (by omega),JmH r s b h2 p e];omega
noncomputable def goP:List Pr->List Dd
 | []=>[]
 | [(_,g)]=>[(none,g)]
 | (y,g)::(y',g')::r=>(some y,g-g')::goP ((y',g')::r)
noncomputable def JeD:Int->List Pr->Int
 | a,[]=>a
 | _,(y,_)::r=>JeD y r
theorem JiE:∀(r:List Pr) (y g x:Int),x<=JeD y r->tot (goP ((y,g)::r)) x=g*min x y+vaF y r x
 | [],y,g,x,h=>by
  have h':x<=y:=h
  show g*x+0=g*min x y+0;rw[show min x y=x by omega]
 | (y',g')::r,y,g,x,h=>by
  have ih:=JiE r y' g' x h;rw[goP,tot,ih]
  show(g-g')*min x y+(g'*min x y'+vaF y' r x)=g*min x y+(g'*(min x y'-min x y)+vaF y' r x)
  rw[Int.sub_mul,Int.mul_sub];omega
theorem JiX:∀(l:List Pr) (a c:Int),ZH a l->∀p∈l,p.1<=JeD a (grF a c l)
 | [],_,_,_,p,hp=>(Q5 hp).elim
 | (s,b)::r,a,c,h,p,hp=>by
  obtain⟨h1,h2⟩:=h
  have e:JeD a (grF a c ((s,b)::r))=JeD s (grF s b r):=by rw[grF];split <;> rfl
  rw[e];rcases Qh.mp hp with e|e
  ·subst e
   clear hp h1 e
   revert h2
   induction r generalizing s b with
   | nil=>intro _;exact QD _
   | cons q r ih =>
    intro h2;obtain⟨s',b'⟩:=q
    have e:JeD s (grF s b ((s',b')::r))=JeD s' (grF s' b' r):=by rw[grF];split <;> rfl
    rw[e];have:=ih s' b' h2.2;have:=h2.1;show s<=_;simp only at *;omega
  ·exact JiX r s b h2 p e
theorem Jmo(l:List Pr)(h:ZH 0 l):∀p∈l,tot (goP (grF 0 0 l)) p.1=p.2:=fun p hp=>by
 have a:=JmH l 0 0 h p hp
 have b:=JiX l 0 0 h p hp
 have c:=Jd6 h p hp
 revert a b
 cases e:grF 0 0 l with
 | nil=>intro a _;simp only[vaF] at a;show 0=p.2;omega
 | cons q r=>obtain⟨y,g⟩:=q;intro a b;rw[JiE r y g p.1 b];simp only[vaF] at a;rw[show min p.1 (0:Int)=0 by omega,L4] at a;omega
theorem Jgy(x:Int):∀(l:List Dd),tot (l.filter fun d=>decide (d.2≠0)) x=tot l x
 | []=>rfl
 | d::l=>by
  have ih:=Jgy x l
  by_cases c:d.2=0
  ·rw[Lj (by simp[c]),ih,tot,c];simp
  ·rw[Lk (by simp[c]),tot,tot,ih]
theorem JcW(l:List Pr):Vc (.tp (.cons (.nm 0) (.cons (.nm 1) .nil))) yes? (Jd 0) [.no,.no] (l.map prE)=some ((l.map (·.1)).map D.int):=by
 rw[Qr];refine Ya fun p _=>?_
 simp only[prE];walk_at "ev";rfl
noncomputable def dkL(l:List Int):List Int:=l.foldl JK []
theorem Jif:∀(l ks:List Int),ks.Pairwise (·<·)->l.Pairwise (·<=·)->(∀k∈ks,∀x∈l,k<=x)->(l.foldl JK ks).Pairwise (·<·)/\∀x,x∈l.foldl JK ks↔x∈ks\/x∈l
 | [],ks,h,_,_=>⟨h,fun x=>by simp⟩
 | n::l,ks,h,hl,hk=>by
  obtain⟨l1,l2⟩:=Qw.mp hl
  have mem:∀x,x∈JK ks n↔x∈ks\/x=n:=fun x=>by
   unfold JK;split
   ·rename_i c;have:=hasK_mem.mp c;exact⟨.inl,fun h=>h.elim id fun e=>e▸this⟩
   ·simp
  have pw:(JK ks n).Pairwise (·<·):=by
   unfold JK;split
   ·exact h
   ·rename_i c;refine Kn.mpr ⟨h,by simp,fun a ha b hb=>?_⟩;rw[QW] at hb;subst hb;have:=hk a ha b Qd;have:a≠b:=fun e=>c (hasK_mem.mpr (e▸ha))
    omega
  obtain⟨i1,i2⟩:=Jif l (JK ks n) pw l2 fun k hk' x hx=>by
   rcases(mem k).mp hk' with e|e
   ·exact hk k e x (Qc _ hx)
   ·rw[e];exact l1 x hx
  refine⟨i1,fun x=>?_⟩;rw[QL,i2,mem,Qh,or_assoc]
theorem JiU(f:Int->Int):∀(ks:List Int) (n:Int),look ks ((ks.map f).map D.int) n=if n∈ks then some (.int (f n)) else none
 | [],n=>rfl
 | k::ks,n=>by
  rw[Qe,Qe,look,JiU f ks n]
  by_cases c:k=n
  ·subst c;simp
  ·have c':¬n=k:=fun e=>c e.symm
   simp[c,c']
theorem JpF(f:Int->Int){ks:List Int}{n:Int}(h:n∉ks):JK ks n=ks++[n]/\putDs ks ((ks.map f).map D.int) n (.int (f n))=((ks++[n]).map f).map D.int:=by unfold JK putDs;rw[if_neg fun z=>h (hasK_mem.mp z),if_neg fun z=>h (hasK_mem.mp z)];exact⟨rfl,by simp⟩
theorem JmL(f:Int->Int):∀ks:List Int,Jb1 ks ((ks.map f).map D.int)=ks.map fun k=>prE (k,f k)
 | []=>rfl
 | k::ks=>by have ih:=JmL f ks;rw[Qe,Qe,Qe,<- ih];rfl
noncomputable def zzE(f:Int->Int)(q:Pr):D:=.tup [prE q,prE (q.1,q.2+f q.1)]
theorem Jkp(f:Int->Int):∀(L:List Pr),LG L (L.map fun q=>((q.1,q.2+f q.1):Pr))=L.map fun q=>(q,((q.1,q.2+f q.1):Pr))
 | []=>rfl
 | q::L=>by rw[Qe,Me,Jkp f L,Qe]
theorem Jlk(ps qs:List Pr)(N:Nat)(f:Int->Int)(g:Good ps)(h30:ps.length<=30)(hN:(ps.map (·.2)).sum<=(N:Int))(a:To N f ps qs):UU [.sh (.row (ps.map prE)),.sh (.row (qs.map prE))]=some (.own ((dkL ((apT (tbN N 0 ps)).map (·.1))).map fun k=>prE (k,f k))):=by
 have tN:=YX N g hN
 have qN:=YX N a.g (by rw[a.s];exact hN)
 have m1:=JfU ps N g h30 tN
 have m2:=JfU qs N a.g (by rw[a.l];exact h30) qN;rw[a.e,Jmx] at m2
 have al:=JhQ g tN
 revert m1 m2 al
 generalize apT (tbN N 0 ps)=L
 intro m1 m2 al;have s2:(L.map fun q=>((q.1,q.2+f q.1):Pr)).map (·.1)=L.map (·.1):=by rw[Qr];rfl
 unfold UU;walk_at "ev";rw[m1];walk_at "ev";rw[m2];walk_at "ev";rw[JcW,JcW,s2];walk_at "ev";rw[ZG,Jkp,Qr,GD];refine YT (f:=zzE f) (fun(rest:List Pr) (ks:List Int) E=>∃j5 j6 j7,E=[.sh (.row (ps.map prE)),.sh (.row (qs.map prE)),.sh (.lst (L.map prE)),.sh (.lst ((L.map fun q=>((q.1,q.2+f q.1):Pr)).map prE)),.od ks ((ks.map f).map .int),j5,j6,j7]/\ks.length+rest.length<=30) (fun ks q=>JK ks q.1) [] ⟨.no,.no,.no,rfl,by rw[al];simpa using h30⟩ ?_ ?_
 ·rintro q rest ks E ⟨j5,j6,j7,rfl,hz⟩;rw[Qo] at hz;simp only[zzE];walk_at "ev";rw[WQ,WQ];walk_at "ev";rw[ZT];walk_at "ev";rw[JiU];rw[show q.2+f q.1-q.2=f q.1 by omega]
  by_cases c:q.1∈ks
  ·rw[if_pos c];walk_at "ev";refine⟨.sh (prE q),.sh (prE (q.1,q.2+f q.1)),.sh (.int (f q.1)),?_,?_⟩
   ·have:JK ks q.1=ks:=by unfold JK;rw[if_pos (hasK_mem.mpr c)]
    rw[this]
   ·have:JK ks q.1=ks:=by unfold JK;rw[if_pos (hasK_mem.mpr c)]
    rw[this];omega
  ·obtain⟨p1,p2⟩:=JpF f c;rw[if_neg c];walk_at "ev";rw[p2];refine⟨.sh (prE q),.sh (prE (q.1,q.2+f q.1)),.sh (.int (f q.1)),?_,?_⟩
   ·rw[p1]
   ·rw[p1,Qv,Gg];omega
 ·rintro E' ⟨j5,j6,j7,rfl,hz⟩;have e:L.foldl (fun ks q=>JK ks q.1) []=dkL (L.map (·.1)):=by unfold dkL;rw[List.foldl_map]
  rw[e];walk_at "ev";rw[JmL]
theorem Jie(g d B:Int)(hd:0<d)(h:-B<=g/\g<=B):-B<=g / d/\g / d<=B:=by
 have hB:0<=B:=by omega
 constructor
 ·rw[Int.le_ediv_iff_mul_le hd]
  have:B<=B*d:=by have:=KF (show(1:Int)<=d by omega) hB;omega
  rw[Rb];omega
 ·have:g / d<B+1:=by rw[Int.ediv_lt_iff_lt_mul hd];have:=KF (show(1:Int)<=d by omega) (show 0<=B+1 by omega);omega
  omega
noncomputable def grB(a c s b:Int):List Pr:=(if 0<(b-c) % (s-a) then [(a+(b-c) % (s-a),(b-c) / (s-a)+1)] else [])++[(s,(b-c) / (s-a))]
theorem JfK:∀(l P:List Pr) (a c:Int),∃a' c',l.foldl (fun(S:List Pr×Int×Int) p=>(S.1++grB S.2.1 S.2.2 p.1 p.2,p.1,p.2)) (P,a,c)=(P++grF a c l,a',c')
 | [],P,a,c=>⟨a,c,by simp[grF]⟩
 | (s,b)::r,P,a,c=>by obtain⟨a',c',e⟩:=JfK r (P++grB a c s b) s b;refine⟨a',c',?_⟩;rw[QL];show Ri _ (P++grB a c s b,s,b) r=_;rw[e,grF];unfold grB;simp
theorem Jhh(l:List Pr)(hl:l.length<=30)(h:ZH 0 l)(hb:∀p∈l,p.1<=10 ^ 100/\-10 ^ 100<=p.2/\p.2<=10 ^ 100):Up [.sh (.lst (l.map prE))]=some (.own ((grF 0 0 l).map prE)):=by
 have big:(10:Int) ^ 100<=((10 ^ 150:Nat):Int):=by decide +kernel
 have big2:4*(10:Nat) ^ 150<=10 ^ 200:=by decide +kernel
 unfold Up;walk_at "ev";rw[GD];refine YT (fun(rest:List Pr) (S:List Pr×Int×Int) E=>∃j3 j4 j5 j6 j7,E=[.sh (.lst (l.map prE)),.own (S.1.map prE),.sh (prE (S.2.1,S.2.2)),j3,j4,j5,j6,j7]/\S.1.length+2*rest.length<=100/\ZH S.2.1 rest/\(0<=S.2.1/\S.2.1<=10 ^ 100/\-10 ^ 100<=S.2.2/\S.2.2<=10 ^ 100)/\∀p∈rest,p.1<=10 ^ 100/\-10 ^ 100<=p.2/\p.2<=10 ^ 100) (fun S p=>(S.1++grB S.2.1 S.2.2 p.1 p.2,p.1,p.2)) ([],0,0) ⟨.no,.no,.no,.no,.no,rfl,by simp;omega,h,by decide +kernel,hb⟩ ?_ ?_
 ·rintro⟨s,b⟩ rest ⟨P,a,c⟩ E ⟨j3,j4,j5,j6,j7,rfl,hz,hasc,⟨a0,a1,c0,c1⟩,hr⟩;obtain⟨h1,h2⟩:=hasc;obtain⟨b0,b1,b2⟩:=hr (s,b) Qd;simp only at h1 h2 a0 a1 c0 c1 b0 b1 b2 hz ⊢;rw[Qo] at hz;have d1:0<s-a/\(s-a).natAbs<=10 ^ 200:=⟨by omega,by omega⟩
  have q:=Jie (b-c) (s-a) (2*10 ^ 100) (by omega) (by omega)
  have d2:((b-c) / (s-a)).natAbs<=10 ^ 200/\(s-a).natAbs<=10 ^ 200:=⟨by omega,d1.2⟩
  have em:b-c-(b-c) / (s-a)*(s-a)=(b-c) % (s-a):=by rw[Int.emod_def,MV]
  simp only[prE];walk_at "ev";have z0:∀x y:D,atI [x,y] 0=some x:=fun _ _=>rfl
  have z1:∀x y:D,atI [x,y] 1=some y:=fun _ _=>rfl
  rw[z0];walk_at "ev";rw[z1];walk_at "ev";rw[z1];walk_at "ev";rw[em]
  by_cases k:0<(b-c) % (s-a)
  ·rw[decide_eq_true k];walk_at "ev";rw[z0];walk_at "ev";refine⟨.sh (.int s),.sh (.int b),.sh (.int (s-a)),.sh (.int ((b-c) / (s-a))),.sh (.int ((b-c) % (s-a))),?_,?_,h2,⟨by omega,by omega,by omega,by omega⟩,fun p hp=>hr p (Qc _ hp)⟩
   ·unfold grB;rw[if_pos k];simp only[Qz,Qe,KI,Gu,Ka,GP];rfl
   ·unfold grB;rw[if_pos k];simp;omega
  ·rw[decide_eq_false k];walk_at "ev";refine⟨.sh (.int s),.sh (.int b),.sh (.int (s-a)),.sh (.int ((b-c) / (s-a))),.sh (.int ((b-c) % (s-a))),?_,?_,h2,⟨by omega,by omega,by omega,by omega⟩,fun p hp=>hr p (Qc _ hp)⟩
   ·unfold grB;rw[if_neg k];simp only[Qz,Qe,KI,Gu,Ka,GP];rfl
   ·unfold grB;rw[if_neg k];simp;omega
 ·rintro E' ⟨j3,j4,j5,j6,j7,rfl,_⟩;obtain⟨a',c',e⟩:=JfK l [] 0 0;rw[e,GP];walk_at "ev"
theorem JkD{α:Type}(xs:List α):ZO xs (some (-1)) none=xs.drop (xs.length-1):=by unfold ZO;rw[HT.JdJ];have e:HT.sIx xs.length 0 (some (-1))=(-1+(xs.length:Int)).toNat:=rfl;rw[e,show(-1+(xs.length:Int)).toNat=xs.length-1 by omega];exact Lx (by simp)
theorem JiF:∀P:List Pr,(LG P (P.drop 1)).map (fun x=>((some x.1.1,x.1.2-x.2.2):Dd))++(P.drop (P.length-1)).map (fun p=>((none,p.2):Dd))=goP P
 | []=>rfl
 | [(y,g)]=>rfl
 | (y,g)::(y',g')::r=>by have ih:=JiF ((y',g')::r);rw[goP,<- ih];rfl
theorem Jet:∀(l:List Pr) (a c:Int),(grF a c l).length<=2*l.length
 | [],_,_=>Qm _
 | (s,b)::r,a,c=>by have:=Jet r s b;rw[grF];split <;> simp <;> omega
theorem JbT:∀P:List Pr,(goP P).length=P.length
 | []=>rfl
 | [_]=>rfl
 | (y,g)::(y',g')::r=>by rw[goP,Qo,JbT ((y',g')::r)];rfl
noncomputable def wyF(l:List Pr):List Dd:=(goP (grF 0 0 l)).filter fun d=>decide (d.2≠0)
theorem JnO(ps qs:List Pr)(l:List Pr)(hl:l.length<=30)(h:ZH 0 l)(hb:∀p∈l,p.1<=10 ^ 100/\-10 ^ 100<=p.2/\p.2<=10 ^ 100)(hm:UU [.sh (.row (ps.map prE)),.sh (.row (qs.map prE))]=some (.own (l.map prE))):Yq [.sh (.row (ps.map prE)),.sh (.row (qs.map prE))]=some (.own ((wyF l).map dE)):=by
 have gl:=Jet l 0 0
 have pl:=JbT (grF 0 0 l)
 have mg:=Jhh l hl h hb
 have gz:=JiF (grF 0 0 l);unfold wyF
 revert gl pl mg gz
 generalize grF 0 0 l=P
 intro gl pl mg gz;unfold Yq;walk_at "ev";rw[hm];walk_at "ev";rw[mg];walk_at "ev";rw[JcS,<- Rf,ZG];walk_at "ev";have hz:(LG P (P.drop 1)).length<=16777216:=by rw[Gh];omega
 rw[if_pos hz,Ya (g:=fun x=>dE (some x.1.1,x.1.2-x.2.2))]
 ·walk_at "ev";rw[JkD,Qk,<- Rf];rw[Ya (g:=fun p:Pr=>dE (none,p.2))]
  ·walk_at "ev"
   have ez:(LG P (P.drop 1)).map (fun x=>dE (some x.1.1,x.1.2-x.2.2))++(P.drop (P.length-1)).map (fun p:Pr=>dE (none,p.2))=(goP P).map dE:=by rw[<- gz,Qz,Qr,Qr];rfl
   have hd:(P.drop (P.length-1)).length<=16777216:=by rw[K2];omega
   rw[if_pos hd];walk_at "ev";have hs:(LG P (P.drop 1)).length+(P.drop (P.length-1)).length<=16777216:=by rw[Gh,K2,K2];omega
   rw[if_pos hs];walk_at "ev";rw[ez];rw[JbL (k:=fun d:Dd=>decide (d.2≠0)) (g:=dE)]
   ·walk_at "ev"
   ·intro d _;obtain⟨o,v⟩:=d;have z1:∀x y:D,atI [x,y] 1=some y:=fun _ _=>rfl
    simp only[dE];walk_at "ev";rw[z1];walk_at "ev";simp
  ·intro p _;simp only[prE];walk_at "ev";rfl
 ·intro x _;walk_at "ev";rw[ZT,WQ,WQ];walk_at "ev";rfl

theorem JdS{α β:Type}(f:α->β):∀(ks:List (Int×Int)) (ds:List α) (n:Int×Int) (v:α),setP ks (ds.map f) n (f v)=(setP ks ds n v).map f
 | [],_,_,_=>rfl
 | _::_,[],_,_=>rfl
 | k::ks,d::ds,n,v=>by
  simp only[setP,Qe,JdS f ks ds n v]
  by_cases h:k=n
  ·rw[if_pos h,if_pos h]
  ·rw[if_neg h,if_neg h]
theorem Jhu{α β:Type}(f:α->β)(ks:List (Int×Int))(ds:List α)(n:Int×Int)(v:α):putDP ks (ds.map f) n (f v)=(putDP ks ds n v).map f:=by
 unfold putDP
 by_cases h:ZY ks n=true
 ·rw[if_pos h,if_pos h,JdS]
 ·rw[if_neg h,if_neg h,Qz];rfl
theorem WW{α β:Type}(f:α->β):∀(ks:List (Int×Int)) (ds:List α) (n:Int×Int),lookP ks (ds.map f) n=(lookP ks ds n).map f
 | [],_,_=>rfl
 | _::_,[],_=>rfl
 | k::ks,d::ds,n=>by
  simp only[lookP,Qe,WW f ks ds n]
  by_cases h:k=n
  ·rw[if_pos h,if_pos h];rfl
  ·rw[if_neg h,if_neg h]
theorem V7{α:Type}(d0:α):∀(ks:List (Int×Int)) (vs:List α) (n:Int×Int),n∈ks->ks.length=vs.length->lookP ks vs n=some ((lookP ks vs n).getD d0)
 | [],_,_,h,_=>by cases h
 | _::_,[],_,_,h=>by cases h
 | k::ks,v::vs,n,h,hl=>by
  simp only[lookP]
  by_cases e:k=n
  ·rw[if_pos e];rfl
  ·rw[if_neg e];refine V7 d0 ks vs n ?_ (by simpa using hl);rcases Qh.mp h with z|z
   ·exact absurd z.symm e
   ·exact z
theorem Jjz(ks:List (Int×Int))(n:Int×Int):(U6 ks n).length<=ks.length+1:=by unfold U6;split <;> simp
theorem Jfg(f:Int×Int->Int):∀(l:List (Int×Int)) (a:Option Pr),l.Pairwise (fun a b=>UZ a b=true)->(∀p∈l,1<=p.1/\1<=f p)->(∀b,a=some b->∀p∈l,UZ b p=true)->UJ a (l.map fun p=>(p.1,p.2,f p))
 | [],_,_,_,_=>trivial
 | p::l,a,h,hp,ha=>by
  have q:=Qw.mp h
  have p1:=hp p Qd;refine⟨p1.1,p1.2,fun b e=>(VC b p).mp (ha b e p Qd),Jfg f l _ q.2 (fun x hx=>hp x (Qc _ hx)) fun b e x hx=>?_⟩;cases e;exact q.1 x hx
theorem Jhy{ks:List (Int×Int)}{n x:Int×Int}(h:x∈U6 ks n):x∈ks\/x=n:=by
 unfold U6 at h
 by_cases c:ZY ks n=true
 ·rw[if_pos c] at h;exact .inl h
 ·rw[if_neg c] at h;rcases Q6.mp h with z|z
  ·exact .inl z
  ·exact .inr (QW.mp z)
theorem JjA{ks:List (Int×Int)}{n:Int×Int}(h:ks.Nodup):(U6 ks n).Nodup:=by
 unfold U6
 by_cases c:ZY ks n=true
 ·rw[if_pos c];exact h
 ·rw[if_neg c];refine Lr.mpr ⟨h,by simp,fun a ha b hb e=>c ?_⟩;rw[QW.mp hb] at e;unfold ZY;exact K4.mpr ⟨a,ha,decide_eq_true e⟩
theorem JdT{α:Type}:∀{ks:List (Int×Int)} {ds:List α} {n:Int×Int} {v x:α},x∈setP ks ds n v->x∈ds\/x=v
 | [],_,_,_,_,h=>.inl h
 | _::_,[],_,_,_,h=>.inl h
 | k::ks,d::ds,n,v,x,h=>by
  simp only[setP] at h;rcases Qh.mp h with z|z
  ·by_cases c:k=n
   ·rw[if_pos c] at z;exact .inr z
   ·rw[if_neg c] at z;exact .inl (z▸Qd)
  ·exact(JdT z).imp (Qc _) id
theorem Jhv{α:Type}{ks:List (Int×Int)}{ds:List α}{n:Int×Int}{v x:α}(h:x∈putDP ks ds n v):x∈ds\/x=v:=by
 unfold putDP at h
 by_cases c:ZY ks n=true
 ·rw[if_pos c] at h;exact JdT h
 ·rw[if_neg c] at h;rcases Q6.mp h with z|z
  ·exact .inl z
  ·exact .inr (QW.mp z)
theorem WX{α:Type}:∀{ks:List (Int×Int)} {ds:List α} {n:Int×Int} {x:α},lookP ks ds n=some x->x∈ds
 | [],_,_,_,h=>by cases h
 | _::_,[],_,_,h=>by cases h
 | k::ks,d::ds,n,x,h=>by
  simp only[lookP] at h
  by_cases c:k=n
  ·rw[if_pos c] at h;cases h;exact Qd
  ·rw[if_neg c] at h;exact Qc _ (WX h)
theorem hasP_iff{ks:List (Int×Int)}{n:Int×Int}:ZY ks n=true↔n∈ks:=by unfold ZY;rw[K4];exact⟨fun⟨x,h,e⟩=>of_decide_eq_true e▸h,fun h=>⟨n,h,decide_eq_true rfl⟩⟩
theorem JfT{α:Type}:∀{ks:List (Int×Int)} (vs:List α) {n:Int×Int},n∉ks->lookP ks vs n=none
 | [],_,_,_=>rfl
 | _::_,[],_,_=>rfl
 | k::ks,v::vs,n,h=>by rw[lookP,if_neg (show ¬k=n from fun e=>h (e▸Qd))];exact JfT vs fun z=>h (Qc _ z)
theorem Jj0{α:Type}(w:α):∀{ks:List (Int×Int)} (vs:List α) {n:Int×Int},n∉ks->setP ks vs n w=vs
 | [],_,_,_=>rfl
 | _::_,[],_,_=>rfl
 | k::ks,v::vs,n,h=>by rw[setP,if_neg (show ¬k=n from fun e=>h (e▸Qd)),Jj0 w vs fun z=>h (Qc _ z)]
theorem Jgh(w:Int):∀{ks:List (Int×Int)} {vs:List Int} {n:Int×Int},ks.Nodup->ks.length=vs.length->n∈ks->(setP ks vs n w).sum+(lookP ks vs n).getD 0=vs.sum+w
 | [],_,_,_,_,h=>(Q5 h).elim
 | _::_,[],_,_,h,_=>by cases h
 | k::ks,v::vs,n,nd,hl,h=>by
  obtain⟨n1,n2⟩:=QP.mp nd;rw[setP,lookP,Qu,Qu]
  by_cases c:k=n
  ·subst c;rw[if_pos rfl,if_pos rfl,Jj0 w vs n1];show w+vs.sum+v=_;omega
  ·rw[if_neg c,if_neg c];have ih:=Jgh w n2 (by simpa using hl) ((Qh.mp h).resolve_left fun e=>c e.symm);omega
theorem JlL(w:Int){ks:List (Int×Int)}{vs:List Int}{n:Int×Int}(nd:ks.Nodup)(hl:ks.length=vs.length):(putDP ks vs n ((lookP ks vs n).getD 0+w)).sum=vs.sum+w:=by
 unfold putDP
 by_cases c:n∈ks
 ·rw[if_pos (hasP_iff.mpr c)];have:=Jgh ((lookP ks vs n).getD 0+w) nd hl c;omega
 ·rw[if_neg fun z=>c (hasP_iff.mp z),JfT vs c];simp
theorem Jdc:∀{ks:List (Int×Int)} {vs:List Int},ks.Nodup->ks.length=vs.length->(ks.map fun p=>(lookP ks vs p).getD 0)=vs
 | [],[],_,_=>rfl
 | [],_::_,_,h=>by cases h
 | _::_,[],_,h=>by cases h
 | k::ks,v::vs,nd,hl=>by
  obtain⟨n1,n2⟩:=QP.mp nd;have ih:=Jdc n2 (by simpa using hl);rw[Qe];congr 1
  ·rw[lookP,if_pos rfl];rfl
  ·refine Eq.trans (Qy fun p hp=>?_) ih;rw[lookP,if_neg (show ¬k=p from fun e=>n1 (e▸hp))]
theorem Jjp{α:Type}(f:α->Int){a b:List α}(h:a.Perm b):(a.map f).sum=(b.map f).sum:=by
 induction h with
 | nil=>rfl
 | cons x _ ih=>rw[Qe,Qe,Qu,Qu,ih]
 | swap x y l=>simp only[Qe,Qu];omega
 | trans _ _ h1 h2=>exact h1.trans h2
noncomputable def laW(ns:List Int)(span:Int)(i:Nat):Int:=1+cell ns (2+2*(i:Int)) / span % 2
noncomputable def laP(ns:List Int)(span:Int)(i:Nat):Int×Int:=(1+cell ns (2+2*(i:Int)) % span,cell ns (3+2*(i:Int)) % (4*span+1)-2*span)
noncomputable def laS(ns:List Int)(span:Int):Nat->List (Int×Int)×List Int
 | 0=>([],[])
 | i+1=>(U6 (laS ns span i).1 (laP ns span i),putDP (laS ns span i).1 (laS ns span i).2 (laP ns span i) ((lookP (laS ns span i).1 (laS ns span i).2 (laP ns span i)).getD 0+laW ns span i))
noncomputable def laT(ns:List Int)(span:Int)(n:Nat):List Tr:=(JaR (laS ns span n).1).map fun p=>(p.1,p.2,(lookP (laS ns span n).1 (laS ns span n).2 p).getD 0)
theorem Jb3(ns:List Int){span:Int}(hs:0<span):∀i,((laS ns span i).1.length=(laS ns span i).2.length/\(laS ns span i).1.length<=i)/\(laS ns span i).1.Nodup/\(laS ns span i).2.sum<=2*(i:Int)/\(∀p∈(laS ns span i).1,1<=p.1/\p.1<=span)/\∀v∈(laS ns span i).2,1<=v
 | 0=>⟨⟨rfl,Qm _⟩,List.nodup_nil,QD _,fun p h=>(Q5 h).elim,fun p h=>(Q5 h).elim⟩
 | i+1=>by
  obtain⟨⟨l1,l2⟩,h1,h2,h3,h4⟩:=Jb3 ns hs i;have:=Jjz (laS ns span i).1 (laP ns span i);have w:1<=laW ns span i/\laW ns span i<=2:=by unfold laW;omega
  simp only[laS];refine⟨⟨Jbn _ _ _ _ l1,by omega⟩,JjA h1,?_,fun p h=>?_,fun v h=>?_⟩
  ·rw[JlL _ h1 l1];omega
  ·rcases Jhy h with z|z
   ·exact h3 p z
   ·subst z;have b:=LW (cell ns (2+2*(i:Int))) (show span≠0 by omega);have c:=Mj (cell ns (2+2*(i:Int))) hs;unfold laP;exact⟨by dsimp only;omega,by dsimp only;omega⟩
  ·rcases Jhv h with z|z
   ·exact h4 v z
   ·subst z
    cases e:lookP (laS ns span i).1 (laS ns span i).2 (laP ns span i) with
    | none=>show 1<=0+laW ns span i;omega
    | some x=>have:=h4 x (WX e);show 1<=x+laW ns span i;omega
theorem JnG(ns:List Int){span:Int}(hs:0<span)(n:Nat):UJ none (laT ns span n)/\J6 (laT ns span n)<=2*(n:Int)/\(laT ns span n).length<=n/\∀t∈laT ns span n,1<=t.1/\t.1<=span:=by
 obtain⟨⟨l1,l2⟩,h1,h2,h3,h4⟩:=Jb3 ns hs n;unfold laT;refine⟨Jfg _ _ _ (JaA _ h1) (fun p hp=>?_) (fun b e=>nomatch e),?_,by rw[Qk,(YJ _).length_eq];exact l2,fun t ht=>?_⟩
 ·have m:=(YJ _).mem_iff.mp hp;exact⟨(h3 p m).1,h4 _ (WX (V7 0 _ _ p m l1))⟩
 ·unfold J6;rw[Qr];refine MT (Int.le_of_eq ?_) h2;refine(Jjp _ (YJ _)).trans ?_;exact congrArg List.sum (Jdc h1 l1)
 ·obtain⟨p,hp,rfl⟩:=Qx.mp ht;exact h3 p ((YJ _).mem_iff.mp hp)
theorem Jpt(ns:List Int)(many span:Int)(h0:0<=many)(h8:many<=12)(hs:0<span/\span.natAbs<=10 ^ 200) :
 YU [.sh (.fz (ns.map .int)),.sh (.int many),.sh (.int span)]=some (.own ((laT ns span many.toNat).map trE)):=by
 have hs1:=hs.1;unfold YU;walk_at "ev";rw[Jqm,GD];refine JiW (fun i E=>∃j5 j6 j7,E=[.sh (.fz (ns.map .int)),.sh (.int many),.sh (.int span),.ot (laS ns span i).1 ((laS ns span i).2.map .int),j5,j6,j7]) ⟨.no,.no,.no,rfl⟩ ?_ ?_
 ·rintro i E hi ⟨j5,j6,j7,rfl⟩;obtain⟨⟨l1,l2⟩,_⟩:=Jb3 ns hs1 i;have gd:∀(ks:List (Int×Int)) (vs:List Int) n,(lookP ks (vs.map D.int) n).getD (.int 0)=.int ((lookP ks vs n).getD 0):=fun ks vs n=>by rw[WW];cases lookP ks vs n <;> rfl
  walk_at "ev";rw[Jag _ _ (by omega)];walk_at "ev";rw[Jag _ _ (by omega)];walk_at "ev";rw[gd];walk_at "ev";rw[Jag _ _ (by omega)];walk_at "ev";rw[show ∀z:Int,z+1+cell ns (2+2*(i:Int)) / span % 2=z+laW ns span i from fun z=>by unfold laW;omega,Jhu];exact⟨_,_,_,rfl⟩
 ·rintro E' ⟨j5,j6,j7,rfl⟩;obtain⟨⟨h1,h2⟩,_⟩:=Jb3 ns hs1 many.toNat;have hsz:(JaR (laS ns span many.toNat).1).length<=16:=by rw[(YJ _).length_eq];omega
  walk_at "ev";rw[Ya (f:=prE) (g:=fun p=>trE (p.1,p.2,(lookP (laS ns span many.toNat).1 (laS ns span many.toNat).2 p).getD 0))]
  ·walk_at "ev";unfold laT;rw[Qr];rfl
  ·intro k hk;unfold prE;walk_at "ev";rw[WW,V7 0 _ _ k ((YJ _).mem_iff.mp hk) h1];walk_at "ev";rfl
theorem Jd7(f:Int->Int):∀(T:List Tr) (a:Option Pr),UJ a T->UJ (a.map fun b=>(b.1,b.2+f b.1)) (T.map fun t=>(t.1,t.2.1+f t.1,t.2.2))
 | [],_,_=>trivial
 | t::T,a,h=>by
  obtain⟨h1,h2,h3,h4⟩:=h;refine⟨h1,h2,fun b e=>?_,Jd7 f T _ h4⟩
  cases a with
  | none=>cases e
  | some c =>
   cases e;rcases h3 c rfl with z|⟨z,y⟩
   ·exact .inl z
   ·refine .inr ⟨z,?_⟩;show c.2+f c.1<t.2.1+f t.1;rw[z];omega
noncomputable def Zk(T:List Tr):Int:=(T.map fun t=>(t.1-0)*t.2.2).sum
noncomputable def rwT(T:List Tr):List Pr:=YW 0 (YQ T)
theorem Jcr{T:List Tr}(h:UJ none T)(hs:J6 T<=30):((rwT T).map (·.2)).sum=Zk T:=by
 obtain⟨_,g,_,e⟩:=Vi h hs;have p:0<=((rwT T).map (·.2)).sum:=by have:=WC (Good.all g);unfold rwT;omega
 have n:=YX ((rwT T).map fun p:Pr=>p.2).sum.toNat g (by unfold rwT at p ⊢;omega)
 have b:=JaD _ 0 g n;rw[e _ n] at b;exact b.symm
theorem JjU{T:List Tr}(h:UJ none T)(hs:J6 T<=30):tbN (Zk T).toNat 0 (rwT T)=T/\Good (rwT T)/\((rwT T).map (·.2)).sum<=((Zk T).toNat:Int)/\(rwT T).length<=30:=by
 obtain⟨_,g,l,e⟩:=Vi h hs;have p:0<=((rwT T).map (·.2)).sum:=by have:=WC (Good.all g);unfold rwT;omega
 have s:=Jcr h hs
 have q:((rwT T).map (·.2)).sum<=((Zk T).toNat:Int):=by omega
 exact⟨e _ (YX _ g q),g,q,by unfold rwT;omega⟩
theorem Jm0{T:List Tr}(h:UJ none T)(hs:J6 T<=30)(f:Int->Int):To (Zk T).toNat f (rwT T) (rwT (T.map fun t=>(t.1,t.2.1+f t.1,t.2.2))):=by
 have h':=Jd7 f T none h
 have hn:J6 (T.map fun t=>((t.1,t.2.1+f t.1,t.2.2):Tr))=J6 T:=by unfold J6;rw[Qr];rfl
 have hs':J6 (T.map fun t=>((t.1,t.2.1+f t.1,t.2.2):Tr))<=30:=by omega
 have hb:Zk (T.map fun t=>((t.1,t.2.1+f t.1,t.2.2):Tr))=Zk T:=by unfold Zk;rw[Qr];rfl
 obtain⟨a1,a2,a3,a4⟩:=JjU h hs;obtain⟨b1,b2,b3,b4⟩:=JjU h' hs';obtain⟨_,_,l1,_⟩:=Vi h hs;obtain⟨_,_,l2,_⟩:=Vi h' hs';rw[hb] at b1;refine⟨b2,?_,?_,?_⟩
 ·unfold rwT;omega
 ·rw[Jcr h hs,<- hb];exact Jcr h' hs'
 ·rw[b1,a1]
theorem To.uniq2{N:Nat}{f h:Int->Int}{ps qs rs:List Pr}(hp:ps.length<=30)(hN:(ps.map (·.2)).sum<=(N:Int))(a:To N f ps qs)(b:To N h ps rs)(hf:∀t∈tbN N 0 ps,f t.1=h t.1):qs=rs:=by
 have t1:=YX N a.g (by rw[a.s];exact hN)
 have t2:=YX N b.g (by rw[b.s];exact hN)
 have r1:=(JeS qs.length N 0 (Qm _) a.g (by rw[a.l];exact hp) t1).1
 have r2:=(JeS rs.length N 0 (Qm _) b.g (by rw[b.l];exact hp) t2).1;rw[<- r1,<- r2,a.e,b.e,Qy fun t ht=>by rw[hf t ht]]
theorem To.off{N:Nat}{f h:Int->Int}{ps qs:List Pr}(a:To N f ps qs)(b:To N h ps qs):∀t∈tbN N 0 ps,f t.1=h t.1:=by
 have e:=a.e.symm.trans b.e;intro t ht
 have:=List.map_inj_left.mp e t ht
 injection this with _ z
 injection z with z _
 omega
theorem To.neg{N:Nat}{f:Int->Int}{ps qs:List Pr}(g:Good ps)(a:To N f ps qs):To N (fun x=>-f x) qs ps:=⟨g,a.l.symm,a.s.symm,by
 rw[a.e,Qr];refine(KM _).symm.trans (Qy fun t _=>?_);show t=(t.1,t.2.1+f t.1+-f t.1,t.2.2)
 rw[show t.2.1+f t.1+-f t.1=t.2.1 by omega]⟩
theorem Jih:∀(l ks:List Int),(l.foldl JK ks).length<=ks.length+l.length
 | [],ks=>Qm _
 | x::l,ks=>by
  have:=Jih l (JK ks x)
  have:(JK ks x).length<=ks.length+1:=by unfold JK;split <;> simp
  rw[QL,Qo];omega
theorem JhW{f:Int->Int}:∀{ks:List Int} {a:Int},ks.Pairwise (·<·)->(∀k∈ks,a<k)->ZH a (ks.map fun k=>(k,f k))
 | [],_,_,_=>trivial
 | k::ks,a,h,ha=>⟨ha k Qd,JhW (Qw.mp h).2 (Qw.mp h).1⟩
noncomputable def szT(T:List Tr):List Int:=dkL ((apT T).map (·.1))
theorem Jp4{T:List Tr}(h:UJ none T)(hs:J6 T<=30):(szT T).Pairwise (·<·)/\(∀x,x∈szT T↔∃t∈T,t.1=x)/\(szT T).length<=30:=by
 have nm:∀t∈T,1<=t.2.2:=fun t ht=>(Ug h t ht).2
 have o:((apT T).map (·.1)).Pairwise (·<=·):=Lu.mpr ((JhS h).imp fun {a b} z=>by unfold JpD at z;omega);obtain⟨a,b⟩:=Jif ((apT T).map (·.1)) [] List.Pairwise.nil o (fun k hk=>(Q5 hk).elim);refine⟨a,fun x=>?_,?_⟩
 ·rw[show(x∈szT T)=(x∈((apT T).map (·.1)).foldl JK []) from rfl,b];constructor
  ·rintro(z|z)
   ·exact(Q5 z).elim
   ·obtain⟨q,hq,rfl⟩:=Qx.mp z;obtain⟨t,ht,rfl⟩:=JhR hq;exact⟨t,ht,rfl⟩
  ·rintro⟨t,ht,rfl⟩;have:=nm t ht;exact .inr (Qx.mpr ⟨(t.1,t.2.1),List.mem_flatMap.mpr ⟨t,ht,Mi.mpr ⟨by omega,rfl⟩⟩,rfl⟩)
 ·have l:=Jih ((apT T).map (·.1)) []
  have:=Jd5 T nm;rw[Qk] at l;unfold szT dkL;simp only[Ki] at l;omega
theorem JmI(B:Int):∀(l:List Pr) (a c:Int),ZH a l->0<=a->(-B<=c/\c<=B)->(∀p∈l,-B<=p.2/\p.2<=B)->∀q∈grF a c l,1<=q.1/\-(2*B+1)<=q.2/\q.2<=2*B+1
 | [],_,_,_,_,_,_,q,hq=>(Q5 hq).elim
 | (s,b)::r,a,c,h,ha,hc,hl,q,hq=>by
  obtain⟨h1,h2⟩:=h;have hb:-B<=b/\b<=B:=hl (s,b) Qd;have d:=Jie (b-c) (s-a) (2*B) (by omega) (by omega);rw[grF] at hq;rcases Q6.mp hq with z|z
  ·split at z
   ·rw[QW] at z;subst z;exact⟨by dsimp only;omega,by dsimp only;omega,by dsimp only;omega⟩
   ·exact(Q5 z).elim
  ·rcases Qh.mp z with z|z
   ·subst z;exact⟨by dsimp only;omega,by dsimp only;omega,by dsimp only;omega⟩
   ·exact JmI B r s b h2 (by omega) hb (fun p hp=>hl p (Qc _ hp)) q z
theorem JmG(M:Int):∀(P:List Pr),(∀q∈P,1<=q.1/\-M<=q.2/\q.2<=M)->∀d∈goP P,OkS d.1/\-(2*M)<=d.2/\d.2<=2*M
 | [],_,d,hd=>(Q5 hd).elim
 | [(y,g)],h,d,hd=>by have:=h (y,g) Qd;rw[goP,QW] at hd;subst hd;refine⟨fun s e=>(nomatch e),?_,?_⟩ <;> dsimp only at*<;> omega
 | (y,g)::(y',g')::r,h,d,hd=>by
  have h1:=h (y,g) Qd
  have h2:=h (y',g') (Qc _ Qd);rw[goP] at hd;rcases Qh.mp hd with z|z
  ·subst z;refine⟨fun s e=>?_,?_,?_⟩
   ·cases e;exact h1.1
   ·dsimp only at *;omega
   ·dsimp only at *;omega
  ·exact JmG M ((y',g')::r) (fun q hq=>h q (Qc _ hq)) d z
theorem JiI:∀(l:List Pr) (a:Int),(∀p∈l,p.2=0)->∀q∈grF a 0 l,q.2=0
 | [],_,_,q,hq=>(Q5 hq).elim
 | (s,b)::r,a,hl,q,hq=>by
  have hb:b=0:=hl (s,b) Qd;subst hb;rw[grF] at hq;rcases Q6.mp hq with z|z
  ·rw[if_neg (by simp)] at z;exact(Q5 z).elim
  ·rcases Qh.mp z with z|z
   ·subst z;simp
   ·exact JiI r s (fun p hp=>hl p (Qc _ hp)) q z
theorem JiC:∀(P:List Pr),(∀q∈P,q.2=0)->∀d∈goP P,d.2=0
 | [],_,d,hd=>(Q5 hd).elim
 | [(y,g)],h,d,hd=>by have:=h (y,g) Qd;rw[goP,QW] at hd;subst hd;exact this
 | (y,g)::(y',g')::r,h,d,hd=>by
  have h1:=h (y,g) Qd
  have h2:=h (y',g') (Qc _ Qd);rw[goP] at hd;rcases Qh.mp hd with z|z
  ·subst z;dsimp only at *;omega
  ·exact JiC ((y',g')::r) (fun q hq=>h q (Qc _ hq)) d z
theorem JoV{l:List Pr}(h:∀p∈l,p.2=0):wyF l=[]:=by
 unfold wyF;refine MU.mpr fun d hd=>?_
 have:=JiC _ (JiI l 0 h) d hd;simp[this]
theorem VG{N:Nat}{f:Int->Int}{ps qs:List Pr}(g:Good ps)(h30:ps.length<=30)(hN:(ps.map (·.2)).sum<=(N:Int))(a:To N f ps qs)(hB:∀t∈tbN N 0 ps,t.1<=10 ^ 40/\-10 ^ 60<=f t.1/\f t.1<=10 ^ 60) :
 ∃W:List Dd,Yq [.sh (.row (ps.map prE)),.sh (.row (qs.map prE))]=some (.own (W.map dE))/\W.length<=60/\(∀d∈W,OkD d)/\(∀t∈tbN N 0 ps,tot W t.1=f t.1)/\((∀t∈tbN N 0 ps,f t.1=0)->W=[]):=by
 have tN:=YX N g hN
 have asc:=Vy N 0 ps none g (QD _) (fun b e=>by cases e)
 have ns:=Wd N 0 g tN
 have mv:=Jlk ps qs N f g h30 hN a;obtain⟨s1,s2,s3⟩:=Jp4 asc (by omega);rw[show(dkL ((apT (tbN N 0 ps)).map (·.1))).map (fun k=>prE (k,f k))=((szT (tbN N 0 ps)).map fun k=>((k,f k):Pr)).map prE by rw[Qr];rfl] at mv
 have p1:∀k∈szT (tbN N 0 ps),0<k:=fun k hk=>by obtain⟨t,ht,rfl⟩:=(s2 k).mp hk;have:=(Ug asc t ht).1;omega
 have ap:=JhW (f:=f) s1 p1
 have hl:((szT (tbN N 0 ps)).map fun k=>((k,f k):Pr)).length<=30:=by rw[Qk];exact s3
 have hb:∀p∈(szT (tbN N 0 ps)).map fun k=>((k,f k):Pr),p.1<=10 ^ 40/\-10 ^ 60<=p.2/\p.2<=10 ^ 60:=fun p hp=>by obtain⟨k,hk,rfl⟩:=Qx.mp hp;obtain⟨t,ht,rfl⟩:=(s2 k).mp hk;exact hB t ht
 have mw:=JnO ps qs _ hl ap (fun p hp=>by have:=hb p hp;omega) mv;refine⟨_,mw,?_,fun d hd=>?_,fun t ht=>?_,fun h0=>?_⟩
 ·unfold wyF;refine Gi (M5 _ _) ?_;have:=Jet ((szT (tbN N 0 ps)).map fun k=>((k,f k):Pr)) 0 0;rw[JbT];omega
 ·unfold wyF at hd;have b:=JmG _ _ (JmI (10 ^ 60) _ 0 0 ap (QD _) (by omega) fun p hp=>(hb p hp).2) d (LI.mp hd).1;exact⟨b.1,by omega,by omega⟩
 ·unfold wyF;rw[Jgy];exact Jmo _ ap (t.1,f t.1) (Qx.mpr ⟨t.1,(s2 _).mpr ⟨t,ht,rfl⟩,rfl⟩)
 ·refine JoV fun p hp=>?_
  obtain⟨k,hk,rfl⟩:=Qx.mp hp;obtain⟨t,ht,rfl⟩:=(s2 k).mp hk;exact h0 t ht
noncomputable def mvF(ns:List Int)(at' reach x:Int):Int:=cell ns (at'+x % 11) % (2*reach+1)-reach+x*(cell ns (at'+x % 11) / 5 % 3)
theorem Jbp{α β:Type}(f:α->β):∀(l:List α) (S:List β),l.foldl (fun S a=>S++[f a]) S=S++l.map f
 | [],S=>by simp
 | a::l,S=>by rw[QL,Jbp f l];simp
theorem JfV(ns:List Int)(T:List Tr)(at' reach:Int)(a0:0<=at')(hr:0<=reach)(hl:T.length<=30) :
 YV [.sh (.fz (ns.map .int)),.sh (.lst (T.map trE)),.sh (.int at'),.sh (.int reach)]=some (.own ((T.map fun t=>((t.1,t.2.1+mvF ns at' reach t.1,t.2.2):Tr)).map trE)):=by
 unfold YV;walk_at "ev";rw[GD];refine YT (fun(rest:List Tr) (S:List Tr) E=>∃j5 j6 j7 j8 j9,E=[.sh (.fz (ns.map .int)),.sh (.lst (T.map trE)),.sh (.int at'),.sh (.int reach),.own (S.map trE),j5,j6,j7,j8,j9]/\S.length+rest.length<=30) (fun S t=>S++[((t.1,t.2.1+mvF ns at' reach t.1,t.2.2):Tr)]) [] ⟨.no,.no,.no,.no,.no,rfl,by simpa using hl⟩ ?_ ?_
 ·rintro⟨x,y,z⟩ rest S E ⟨j5,j6,j7,j8,j9,rfl,hz⟩;rw[Qo] at hz;have c0:0<=x % 11:=by omega
  simp only[trE];walk_at "ev";rw[Jag _ _ (by omega)];walk_at "ev";refine⟨.sh (.int x),.sh (.int y),.sh (.int z),.sh (.int (cell ns (at'+x % 11))),.sh (.int (mvF ns at' reach x)),?_,?_⟩
  ·rw[Qz];rfl
  ·rw[Qv,Gg];omega
 ·rintro E' ⟨j5,j6,j7,j8,j9,rfl,hz⟩;rw[Jbp,GP];walk_at "ev"
theorem Ji4(ns:List Int)(at':Int){reach x:Int}(hr:0<=reach/\reach<=10 ^ 50)(hx:1<=x/\x<=10 ^ 28):-10 ^ 55<=mvF ns at' reach x/\mvF ns at' reach x<=10 ^ 55:=by
 have b:=LW (cell ns (at'+x % 11)) (show 2*reach+1≠0 by omega)
 have c:=Mj (cell ns (at'+x % 11)) (show 0<2*reach+1 by omega)
 have d:0<=cell ns (at'+x % 11) / 5 % 3/\cell ns (at'+x % 11) / 5 % 3<=2:=by omega
 unfold mvF;have m0:0<=x*(cell ns (at'+x % 11) / 5 % 3):=Int.mul_nonneg (by omega) d.1;have m1:x*(cell ns (at'+x % 11) / 5 % 3)<=10 ^ 28*2:=Int.mul_le_mul hx.2 d.2 d.1 (by omega);omega
theorem Jgz(x:Int):∀W:List Dd,tot (W.map fun d=>(d.1,-1*d.2)) x=-tot W x
 | []=>rfl
 | d::W=>by rw[Qe,tot,tot,Jgz x W];show -1*d.2*JaP d.1 x+-tot W x=_;rw[Int.mul_assoc,Rb,Ra];omega
theorem Zq{N:Nat}{f:Int->Int}{ps qs:List Pr}(g:Good ps)(h30:ps.length<=30)(hN:(ps.map (·.2)).sum<=(N:Int))(hb:(ps.map (·.2)).sum<=10 ^ 100)(a:To N f ps qs){W:List Dd}(ok:∀d∈W,OkD d)(hf:∀t∈tbN N 0 ps,tot W t.1=f t.1):Yp [.sh (.row (ps.map prE)),.sh (.lst (W.map dE))]=some (.sh (.row (qs.map prE))):=by obtain⟨rs,b,e⟩:=JiZ g h30 hN hb W ok;rw[e,b.uniq2 h30 hN a hf]
theorem Jnc{N:Nat}{f1 f2:Int->Int}{ps qs rs:List Pr}(g:Good ps)(h30:ps.length<=30)(hN:(ps.map (·.2)).sum<=(N:Int))(hb:(ps.map (·.2)).sum<=10 ^ 100)(t1:To N f1 ps qs)(t2:To N f2 ps rs)
 (hB:∀t∈tbN N 0 ps,t.1<=10 ^ 40/\(-10 ^ 55<=f1 t.1/\f1 t.1<=10 ^ 55)/\(-10 ^ 55<=f2 t.1/\f2 t.1<=10 ^ 55)) :
 ∃W1 W2 W3:List Dd,(W1.length<=60/\W2.length<=60/\W3.length<=60)/\Yq [.sh (.row (ps.map prE)),.sh (.row (qs.map prE))]=some (.own (W1.map dE))/\Yq [.sh (.row (qs.map prE)),.sh (.row (rs.map prE))]=some (.own (W2.map dE))/\Yq [.sh (.row (ps.map prE)),.sh (.row (rs.map prE))]=some (.own (W3.map dE)) ∧
  Yp [.sh (.row (ps.map prE)),.sh (.lst (W1.map dE))]=some (.sh (.row (qs.map prE)))/\Yp [.sh (.row (qs.map prE)),.sh (.lst (W2.map dE))]=some (.sh (.row (rs.map prE)))/\Yp [.sh (.row (ps.map prE)),.sh (.lst (W3.map dE))]=some (.sh (.row (rs.map prE))) ∧
  Yp [.sh (.row (qs.map prE)),.sh (.lst ((W1.map fun d=>((d.1,-1*d.2):Dd)).map dE))]=some (.sh (.row (ps.map prE))) ∧
  (∀d∈W3,∃us,Yp [.sh (.row (ps.map prE)),.sh (.lst ((W3++[(d.1,1)]).map dE))]=some (.sh (.row (us.map prE)))/\us≠rs) ∧
  Yq [.sh (.row (ps.map prE)),.sh (.row (ps.map prE))]=some (.own [])/\Yq [.sh (.row (rs.map prE)),.sh (.row (rs.map prE))]=some (.own []):=by
 have q30:qs.length<=30:=by rw[t1.l];exact h30
 have qN:(qs.map (·.2)).sum<=(N:Int):=by rw[t1.s];exact hN
 have qb:(qs.map (·.2)).sum<=10 ^ 100:=by rw[t1.s];exact hb
 have r30:rs.length<=30:=by rw[t2.l];exact h30
 have rN:(rs.map (·.2)).sum<=(N:Int):=by rw[t2.s];exact hN
 have asc:=Vy N 0 ps none g (QD _) (fun b e=>by cases e)
 have t3:=(t1.neg g).comp t2
 have inq:∀t∈tbN N 0 qs,∃u∈tbN N 0 ps,t.1=u.1:=fun t ht=>by rw[t1.e] at ht;obtain⟨u,hu,rfl⟩:=Qx.mp ht;exact⟨u,hu,rfl⟩
 have inr:∀t∈tbN N 0 rs,∃u∈tbN N 0 ps,t.1=u.1:=fun t ht=>by rw[t2.e] at ht;obtain⟨u,hu,rfl⟩:=Qx.mp ht;exact⟨u,hu,rfl⟩
 obtain⟨W1,e1,l1,o1,f1',_⟩:=VG g h30 hN t1 fun t ht=>by have:=hB t ht;omega
 obtain⟨W2,e2,l2,o2,f2',_⟩:=VG t1.g q30 qN t3 fun t ht=>by obtain⟨u,hu,e⟩:=inq t ht;have:=hB u hu;rw[e];omega
 obtain⟨W3,e3,l3,o3,f3',z3⟩:=VG g h30 hN t2 fun t ht=>by have:=hB t ht;omega
 obtain⟨W4,e4,_,_,_,z4⟩:=VG g h30 hN (To.refl g) fun t ht=>by have:=hB t ht;omega
 obtain⟨W5,e5,_,_,_,z5⟩:=VG t2.g r30 rN (To.refl t2.g) fun t ht=>by obtain⟨u,hu,e⟩:=inr t ht;have:=hB u hu;rw[e];omega
 rw[z4 fun _ _=>rfl] at e4;rw[z5 fun _ _=>rfl] at e5;refine⟨W1,W2,W3,⟨l1,l2,l3⟩,e1,e2,e3,Zq g h30 hN hb t1 o1 f1',Zq t1.g q30 qN qb t3 o2 f2',Zq g h30 hN hb t2 o3 f3',Zq t1.g q30 qN qb (t1.neg g) (fun d hd=>?_) (fun t ht=>?_),fun d hd=>?_,e4,e5⟩
 ·obtain⟨c,hc,rfl⟩:=Qx.mp hd;have:=o1 c hc;exact⟨this.1,by have:=this.2;dsimp only;omega,by have:=this.2;dsimp only;omega⟩
 ·obtain⟨u,hu,e⟩:=inq t ht;rw[Jgz,e,f1' u hu]
 ·have od:=o3 d hd
  obtain⟨us,tu,eu⟩:=JiZ g h30 hN hb (W3++[(d.1,1)]) fun c hc=>by
   rcases Q6.mp hc with z|z
   ·exact o3 c z
   ·rw[QW] at z;subst z;exact⟨od.1,show -10 ^ 100<=(1:Int) by decide +kernel,show(1:Int)<=10 ^ 100 by decide +kernel⟩
  refine⟨us,eu,fun e=>?_⟩;subst e;have of:=tu.off t2
  have:tbN N 0 ps=[]:=by
   cases ht:tbN N 0 ps with
   | nil=>rfl
   | cons t r =>
    have m:t∈tbN N 0 ps:=by rw[ht];exact Qd
    have o:=of t m
    have p:=(Ug asc t m).1;rw[Jgx,f3' t m] at o
    have s:1<=JaP d.1 t.1:=by
     cases hd1:d.1 with
     | none=>exact p
     | some s=>have:=od.1 s hd1;show 1<=min t.1 s;omega
    have e1:tot [(d.1,1)] t.1=1*JaP d.1 t.1+0:=rfl;omega
  rw[z3 fun t ht=>by rw[this] at ht;cases ht] at hd;cases hd
theorem JhZ(M:Int):∀(T:List Tr),(∀t∈T,1<=t.1/\t.1<=M)->(∀t∈T,1<=t.2.2)->Zk T<=M*J6 T
 | [],_,_=>by unfold Zk J6;simp
 | t::T,h,k=>by
  have ih:=JhZ M T (fun u hu=>h u (Qc _ hu)) (fun u hu=>k u (Qc _ hu))
  have a:=h t Qd
  have b:=k t Qd
  have m:=Int.mul_le_mul_of_nonneg_right a.2 (show 0<=t.2.2 by omega);unfold Zk J6 at ih ⊢;rw[Qe,Qu,Qe,Qu,Lm,L4];omega
theorem JpU{T:List Tr}(h:UJ none T)(hs:J6 T<=30)(hl:T.length<=30):Yu [.sh (.lst (T.map trE))]=some (.sh (.row ((rwT T).map prE))):=JfW T h hs hl (Vi h hs).1
theorem JpT{T:List Tr}(h:UJ none T)(hs:J6 T<=30)(hl:T.length<=30)(f:Int->Int):Yu [.sh (.lst ((T.map fun t=>((t.1,t.2.1+f t.1,t.2.2):Tr)).map trE))]=some (.sh (.row ((rwT (T.map fun t=>(t.1,t.2.1+f t.1,t.2.2))).map prE))) :=
 JpU (Jd7 f T none h) (by unfold J6 at hs ⊢;rw[Qr];exact hs) (by rw[Qk];exact hl)
theorem Ji8(W:List Dd):Vc (.tp (.cons (.nm 0) (.cons (.nm 1) .nil))) yes? (Uh (aC (Jd 0) (aC (e2 V4 (e1 JbN (eC (.int 1))) (Jd 1)) a0))) [.no,.no] (W.map dE)=some ((W.map fun d=>((d.1,-1*d.2):Dd)).map dE):=by
 rw[Qr];refine Ya fun d _=>?_
 obtain⟨o,v⟩:=d;cases o <;> (simp only[dE,U7];walk_at "ev";rfl)
theorem Jpc(W:List Dd):ZO (W.map dE) none (some 3)=(W.take 3).map dE:=by
 unfold ZO;rw[HT.JdJ,show(3:Int)=((3:Nat):Int) from rfl,HT.Jl1,List.drop_zero,Nat.sub_zero,Qk,List.map_take]
 by_cases h:W.length<=3
 ·rw[Nat.min_eq_right h,Lx (by simp),Lx (by simpa using h)]
 ·rw[Nat.min_eq_left (by omega)]
theorem law_true(ns:List Int)(hn:ns.length<=63):Jep [.sh (.fz (ns.map .int))]=some (.sh (.bl true)):=by
 have a3:=JcJ (l:=[4,100,10 ^ 28]) (k:=cell ns 0 / 9 % 3) (by omega) (by show _<(3:Int);omega);simp only[Qe,KI] at a3
 have hr:0<Jcn [4,100,10 ^ 28] (cell ns 0 / 9 % 3)/\Jcn [4,100,10 ^ 28] (cell ns 0 / 9 % 3)<=10 ^ 28:=JdD (P:=fun x=>0<x/\x<=10 ^ 28) (by omega) (by show _<(3:Int);omega) (by decide)
 revert a3 hr
 generalize Jcn [4,100,10 ^ 28] (cell ns 0 / 9 % 3)=span
 intro a3 hr;have a2:=JcJ (l:=[span,10 ^ 50]) (k:=cell ns 0 / 27 % 2) (by omega) (by show _<(2:Int);omega);simp only[Qe,KI] at a2
 have hc:0<=Jcn [span,10 ^ 50] (cell ns 0 / 27 % 2)/\Jcn [span,10 ^ 50] (cell ns 0 / 27 % 2)<=10 ^ 50:=JdD (P:=fun x=>0<=x/\x<=10 ^ 50) (by omega) (by show _<(2:Int);omega) (by
  intro x hx;simp only[Qh,Q5,or_false] at hx;omega)
 revert a2 hc
 generalize Jcn [span,10 ^ 50] (cell ns 0 / 27 % 2)=reach
 intro a2 hc;have dr:=Jpt ns (cell ns 0 % 9) span (by omega) (by omega) ⟨hr.1,by omega⟩;obtain⟨asc,nsm,len,sz⟩:=JnG ns hr.1 (cell ns 0 % 9).toNat
 revert dr asc nsm len sz
 generalize laT ns span (cell ns 0 % 9).toNat=T
 intro dr asc nsm len sz;have n30:J6 T<=30:=by omega
 have l30:T.length<=30:=by omega
 have mv1:=JfV ns T 18 reach (by decide) hc.1 l30
 have mv2:=JfV ns T 29 reach (by decide) hc.1 l30
 have b1:=fun t ht=>Ji4 ns 18 hc ⟨(sz t ht).1,by have:=(sz t ht).2;omega⟩
 have b2:=fun t ht=>Ji4 ns 29 hc ⟨(sz t ht).1,by have:=(sz t ht).2;omega⟩
 revert mv1 mv2 b1 b2
 generalize mvF ns 18 reach=f1
 generalize mvF ns 29 reach=f2
 intro mv1 mv2 b1 b2;have r0:=JpU asc n30 l30;have r1:=JpT asc n30 l30 f1;have r2:=JpT asc n30 l30 f2;have t1:=Jm0 asc n30 f1;have t2:=Jm0 asc n30 f2;obtain⟨e0,g0,h0,k0⟩:=JjU asc n30
 have hb:((rwT T).map (·.2)).sum<=10 ^ 100:=by rw[Jcr asc n30];have:=JhZ (10 ^ 28) T (fun t ht=>by have:=sz t ht;omega) (fun t ht=>(Ug asc t ht).2);omega
 have hB:∀t∈tbN (Zk T).toNat 0 (rwT T),t.1<=10 ^ 40/\(-10 ^ 55<=f1 t.1/\f1 t.1<=10 ^ 55)/\(-10 ^ 55<=f2 t.1/\f2 t.1<=10 ^ 55):=fun t ht=>by rw[e0] at ht;have:=sz t ht;exact⟨by omega,b1 t ht,b2 t ht⟩
 obtain⟨W1,W2,W3,⟨l1,l2,l3⟩,w1,w2,w3,d1,d2,d3,d4,d5,z1,z2⟩:=Jnc g0 k0 h0 hb t1 t2 hB
 clear e0 h0 hb hB t1 t2 b1 b2 sz asc nsm
 revert mv1 mv2 r0 r1 r2 w1 w2 w3 d1 d2 d3 d4 d5 z1 z2 g0 k0
 generalize rwT (T.map fun t=>(t.1,t.2.1+f1 t.1,t.2.2))=qs
 generalize rwT (T.map fun t=>(t.1,t.2.1+f2 t.1,t.2.2))=rs
 generalize rwT T=ps
 generalize (T.map fun t=>((t.1,t.2.1+f1 t.1,t.2.2):Tr))=T1
 generalize (T.map fun t=>((t.1,t.2.1+f2 t.1,t.2.2):Tr))=T2
 intro mv1 mv2 r0 r1 r2 g0 k0 w1 w2 w3 d1 d2 d3 d4 d5 z1 z2;have i0:∀x y w:D,atI [x,y,w] 0=some x:=fun _ _ _=>rfl
 have i1:∀x y w:D,atI [x,y,w] 1=some y:=fun _ _ _=>rfl
 have i2:∀x y w:D,atI [x,y,w] 2=some w:=fun _ _ _=>rfl
 unfold Jep;walk_at "ev";rw[Jag _ _ (by decide)];walk_at "ev";rw[a3];walk_at "ev";rw[dr];walk_at "ev";rw[a2];walk_at "ev";rw[r0];walk_at "ev";simp only[YD];walk_at "ev";rw[mv1];walk_at "ev";rw[r1];walk_at "ev";rw[mv2];walk_at "ev";rw[r2];walk_at "ev";simp only[i0,i1,i2];walk_at "ev";rw[w1];walk_at "ev";simp only[i0,i1,i2];walk_at "ev";rw[w2];walk_at "ev";simp only[i0,i1,i2];walk_at "ev";rw[w3];walk_at "ev";simp only[i0,i1,i2];walk_at "ev"
 rw[d1];walk_at "ev";rw[d2];walk_at "ev";rw[d3];walk_at "ev";simp only[i0,i1,i2];rw[Ji8];walk_at "ev";rw[d4];walk_at "ev";rw[Jpc,GD];refine YT (fun(rest:List Dd) (_:Unit) E=>∃j10 j11,E=[Sl.sh (D.fz (Lw D.int ns)),Sl.sh (D.int (cell ns 0)),Sl.sh (D.int span),
  Sl.sh (D.lst (Lw trE T)),Sl.sh (D.int reach),
  Sl.own [D.row (Lw prE ps),D.row (Lw prE qs),D.row (Lw prE rs)],
  Sl.sh (D.int 29),Sl.sh (D.lst (Lw dE W1)),Sl.sh (D.lst (Lw dE W2)),
  Sl.sh (D.lst (Lw dE W3)),j10,j11]/\∀d∈rest,d∈W3) (fun _ _=>()) () ⟨.no,.no,rfl,fun d hd=>List.mem_of_mem_take hd⟩ ?_ ?_
 ·rintro⟨o,v⟩ rest _ E ⟨j10,j11,rfl,hm⟩;obtain⟨us,eu,ne⟩:=d5 (o,v) (hm _ Qd);simp only[dE];walk_at "ev";simp only[i0,i1,i2];walk_at "ev";rw[Qz] at eu;rw[show W3.map dE++[D.tup [U7 o,D.int 1]]=W3.map dE++[((o,(1:Int)):Dd)].map dE from rfl,eu];walk_at "ev";rw[decide_eq_false ne];walk_at "ev";exact⟨.sh (U7 o),.sh (.int v),rfl,fun d hd=>hm d (Qc _ hd)⟩
 ·rintro E' ⟨j10,j11,rfl,_⟩;walk_at "ev";simp only[i0,i1,i2];walk_at "ev";rw[z1];walk_at "ev";have ee:eqA (.lst []) (.lst [])=some true:=(Jio [] []).trans (by simp);rw[ee];walk_at "ev";rw[z2];walk_at "ev";rw[ee];walk_at "ev"
end
end LK
noncomputable section
namespace LK
open PySem L2 LR LE
noncomputable def top(i:Nat):Stmt:=PySem.Challenge.pw_lumprow_k66_whole_ways_put_together.main.body.getD i (.Pass ⟨0,0,0,0⟩)
noncomputable abbrev UQ:Stmt:=top 34
noncomputable abbrev J8:Stmt:=top 9
noncomputable abbrev Ut:Stmt:=Jk5 (top 8) 0
noncomputable abbrev Ub:Stmt:=top 19
noncomputable abbrev Ua:Stmt:=top 18
noncomputable abbrev UP:Stmt:=top 12
noncomputable abbrev Uc:Stmt:=top 17
noncomputable abbrev UT:Stmt:=top 20
noncomputable abbrev UO:Stmt:=top 10
noncomputable abbrev UR:Stmt:=top 23
noncomputable abbrev Vl:Stmt:=top 22
noncomputable abbrev Ux:Stmt:=top 28
noncomputable abbrev YI:Stmt:=top 31
noncomputable abbrev VX:Stmt:=top 33
noncomputable abbrev W7:Stmt:=top 35
noncomputable abbrev Uf:Stmt:=top 21
noncomputable abbrev YF:Stmt:=top 11
noncomputable abbrev Uu:Stmt:=top 25
noncomputable abbrev Vj:Stmt:=top 24
noncomputable abbrev YH:Stmt:=top 29
noncomputable abbrev Vk:Stmt:=top 30
noncomputable abbrev Uw:Stmt:=top 15
noncomputable abbrev YG:Stmt:=top 14
noncomputable abbrev US:Stmt:=top 37
noncomputable abbrev W6:Stmt:=top 38
noncomputable abbrev Uv:Stmt:=top 40
noncomputable abbrev Ue:Stmt:=top 42
noncomputable abbrev Ud:Stmt:=top 41
noncomputable abbrev Wx:Stmt:=top 43
section
variable{P:Program}{w:World}{K:Frag}{C:Addr}{mg:Str->Option Value}{base:Heap}
theorem sc_growths:FnScope ["told","pairs","ahead","size","by","steps","growth","over"] ["told"] (Ji UQ):=⟨rfl,rfl,rfl,by decide +kernel,rfl,by decide +kernel,by decide +kernel⟩
theorem JeK{f:Addr}{fd:FuncData}(F:Fun K "growths" "growths" UQ f fd) :FnOk P w K mg base CX0 1 f fd ["told"] (spE K C 1 Up):=by
 refine F.ok sc_growths (fun vs H Q E h=>JJ h) (fun cdv A outer s H vs Q E hr h=>?_);have hu:=hr.units;refine⟨_,(Jf (Jv (i:=1) sc_growths.nd rfl (.inl rfl) (YL Je))
  (Jf (Jv (i:=2) sc_growths.nd rfl (.inl rfl) (J9 (Ja Jh (Ja Jh Je))))
  (Jf (Y0 Q7 rfl (JQ (K:=K) rfl (pv 0)) (JF (K:=K) (n:=2) rfl rfl (Jg (Jj (i:=3) sc_growths.nd rfl (.inl rfl)) (Jg (Jj (i:=4) sc_growths.nd rfl (.inl rfl)) JG)) rfl rfl) (Jf (Jv (i:=5) sc_growths.nd rfl (.inl rfl) (Jt YB (pv 3) (JZ (Jz (K:=K) rfl) (pv 2) Jh (fun _ _=>rfl))))
  (Jf (Jv (i:=6) sc_growths.nd rfl (.inl rfl) (Jt Jdy (Jt YB (pv 4) (JZ (Jz (K:=K) rfl) (pv 2) Jh (fun _ _=>rfl))) (pv 5)))
  (Jf (Jv (i:=7) sc_growths.nd rfl (.inl rfl) (Jt YB (Jt YB (pv 4) (JZ (Jz (K:=K) rfl) (pv 2) Jh (fun _ _=>rfl))) (Jt Jf4 (pv 6) (pv 5))))
  (Jf (Uj (JR Jam (pv 7) Jh (JX _)) (Jl (Yr (UE (K:=K) rfl QR Gm Gn Y9 (pv 1) (Ja (J9 (Ja (Jt (JP (K:=K) rfl) (JZ (Jz (K:=K) rfl) (pv 2) Jh (fun _ _=>rfl)) (pv 7)) (Ja (Jt (JP (K:=K) rfl) (pv 6) Jh) Je))) Je)))) Yj)
  (Jf (Yr (UE (K:=K) rfl QR Gm Gn Y9 (pv 1) (Ja (J9 (Ja (pv 3) (Ja (pv 6) Je))) Je)))
  (Jl (Jv (i:=2) sc_growths.nd rfl (.inl rfl) (J9 (Ja (pv 3) (Ja (pv 4) Je)))))))))))
  (Jl (JN (pv 1)))))),?_⟩
 exact JI (N:=["told","pairs","ahead","size","by","steps","growth","over"]) (Jq (Vo (UC Jk))
  (Jq (JB (YY (Jc Jn (Jc Jn Jk))))
  (Jq (U8 (JeU 0) (Yl (Jr (JM 3) (Jr (JM 4) Yk)) rfl) (Jq (JB (Jp Ui (Jb 3) (Jp YR (Jb 2) Jn)))
  (Jq (JB (Jp Jja (Jp Ui (Jb 4) (Jp YR (Jb 2) Jn)) (Jb 5)))
  (Jq (JB (Jp Ui (Jp Ui (Jb 4) (Jp YR (Jb 2) Jn)) (Jp Jjc (Jb 6) (Jb 5))))
  (Jq (Wh (Yo (Jp Jhl (Jb 7) Jn)) (JaJ (YY (Jc (Jp Yw (Jp YR (Jb 2) Jn) (Jb 7)) (Jc (Jp Yw (Jb 6) Jn) Jk)))) Y6)
  (Jq (JaJ (YY (Jc (Jb 3) (Jc (Jb 6) Jk))))
  (JB (YY (Jc (Jb 3) (Jc (Jb 4) Jk))))))))))
  VL))) h
theorem sc_check_stretches:FnScope ["stretches","behind","begin","length"] ["stretches"] (Ji J8):=⟨rfl,rfl,rfl,by decide +kernel,rfl,by decide +kernel,by decide +kernel⟩
theorem Wb{f:Addr}{fd:FuncData}(F:Fun K "check_stretches" "check_stretches" J8 f fd) :FnOk P w K mg base CX0 1 f fd ["stretches"] (ZD K):=by
 refine F.ok sc_check_stretches (fun vs H Q E h=>?_) (fun cdv A outer s H vs Q E hr h=>?_)
 ·obtain⟨v,ps,rfl,_⟩:=h;rfl
 ·obtain⟨v,ps,rfl,⟨a,vs,rfl,hq,hp⟩,g,q⟩:=h;have hu:=hr.units;refine⟨_,(Jf (Jv (i:=1) sc_check_stretches.nd rfl (.inl rfl) UF)
   (Jl (Y0 Q7 rfl (JQ (K:=K) rfl (pv 0)) (JF (K:=K) (n:=2) rfl rfl (Jg (Jj (i:=2) sc_check_stretches.nd rfl (.inl rfl)) (Jg (Jj (i:=3) sc_check_stretches.nd rfl (.inl rfl)) JG)) rfl rfl) (Jf (Uj (JR Jbl (pv 3) Jh (JX _)) (Jl UB) Yj)
   (Jf (Uj (PW.pt (W0 (JR Jao (pv 1) UF (JX _)) (VW (JR JmQ (pv 2) (pv 1) (JX _))))) (Jl UB) Yj)
   (Jl (Jv (i:=1) sc_check_stretches.nd rfl (.inl rfl) (Jt (Jf2 (K:=K) rfl) (pv 2) (pv 3))))))))),?_⟩
  walk_at "rd";refine JhA (H1:=H) (a:=a) (xs:=vs) (fun R r=>⟨_,rfl,r⟩) hq
   (fun i σ' H'=>∃vb vl,σ'=[some (.ref a),some (Jfh ps i),vb,vl]/\H'=H) ⟨none,none,rfl,rfl⟩ (fun i σ' H' ⟨_,_,_,e⟩=>e▸Same.refl _) ?_ ?_
  ·rintro i x σ' H' hi ⟨vb,vl,rfl,rfl⟩;obtain⟨p,b,e1,rfl,sp⟩:=hp.at hi;refine Jge sp rfl ?_;walk_at "rd";refine ifd (fun hlt=>absurd (g.one i p e1) (by omega)) (fun _=>?_);walk_at "rd"
   cases i with
   | zero=>refine ifF rfl ?_;refine ifF rfl ?_;walk_at "rd";exact⟨_,_,by rw[Vz e1];rfl,rfl⟩
   | succ j =>
    obtain⟨q1,e2⟩:∃q1,ps[j]?=some q1:=⟨ps[j]'(by have:=(Qn.mp e1).1;omega),by have:=(Qn.mp e1).1;simp[show j<ps.length by omega]⟩
    rw[Vz e2];refine ifT rfl ?_;walk_at "rd";refine ifd (fun hle=>absurd (g.gap j q1 p e2 e1) (by omega)) (fun _=>?_);walk_at "rd";exact⟨_,_,by rw[Vz e1];rfl,rfl⟩
  ·rintro σ' H' ⟨vb,vl,rfl,rfl⟩;exact q _ (Same.refl _)
theorem JdL:FnScope ["self","stretches"] ["self","stretches"] (Ji Ut):=⟨rfl,rfl,rfl,by decide +kernel,rfl,by decide +kernel,by decide +kernel⟩
theorem Jdt{f:Addr}{fd:FuncData}(F:Fun K "__init__" "Row.__init__" Ut f fd)(qT:mg "tuple"=none)(qJ:mg "len"=none)(qd:GV mg "MOST_STRETCHES" (.int 30))(qi:Cal P w K mg base "check_stretches" 1 ["stretches"] (ZD K))(T:RowC K C):FnOk P w K mg base CX0 2 f fd ["self","stretches"] (VF C K):=by
 refine F.ok JdL (fun vs H Q E h=>?_) (fun cdv A outer s H vs Q E hr h=>?_)
 ·obtain⟨x,dx,v,ps,rfl,_⟩:=h;rfl
 ·obtain⟨x,dx,v,ps,rfl,hx,⟨a,vs,rfl,hq,hp⟩,g,hl,q⟩:=h;have hu:=hr.units;refine⟨_,(Jf (Uj (JR Jam (JV (WN (K:=K) rfl) rfl qJ Jeb (Ja (pv 1) Je)) (Jaq rfl qd) (JX _)) (Jl UB) Yj)
   (Jf (Yr (Jo qi (hr.mono (by decide)) rfl (Ja (pv 1) Je)))
   (Jl (JlI (K:=K) rfl (pv 0) (WZ (JcO (K:=K) rfl) rfl qT Jh0 (Ja (Ym (N':=["begin","length"]) (imp:=[none,none]) rfl (JQ (K:=K) rfl (pv 1)) (Zl rfl rfl) (fun _ _ _ _=>(JF (K:=K) (n:=2) rfl rfl (Jg (Jj (i:=0) (show(["begin","length"]:List Str).Nodup from by decide +kernel) rfl (.inl rfl) (.inr rfl)) (Jg (Jj (i:=1) (show(["begin","length"]:List Str).Nodup from by decide +kernel) rfl (.inl rfl) (.inr rfl)) JG)) rfl rfl)) (fun _ _ _ _=>J7) (fun _ _ _ _=>(J9 (Ja (pv 0) (Ja (pv 1) Je))))) Je)) rfl)))),?_⟩
  have hn:=hp.len;walk_at "rd";refine JdI hq ?_;walk_at "rd";refine ifd (fun hgt=>absurd hl (by omega)) (fun _=>?_);walk_at "rd";refine Jia ⟨a,vs,rfl,hq,hp⟩ g fun H1 s1=>?_
  walk_at "rd";refine JeQ (H1:=H1) (a:=a) (xs:=vs) (fun R r=>⟨_,rfl,r⟩) (hq.imp s1.seq s1.seqT) (GO (JhE (by omega)))
   (fun i ys σ' H'=>∃vb vl,σ'=[vb,vl]/\Same H1 H'/\Prs K H' ys (ps.take i)) ⟨none,none,rfl,Same.refl _,by rw[List.take_zero];exact RepL.nil⟩
   (fun i ys σ' H' ⟨_,_,_,_,r⟩=>by have:=r.len;rw[this,Lz];omega) (fun i ys σ' H' ⟨_,_,_,s',_⟩=>s') ?_ ?_
  ·rintro i ys y σ' H' hi ⟨vb,vl,rfl,s',r⟩;obtain⟨p,b,e1,rfl,sp⟩:=Prs.at (K:=K) (ps:=ps) (RepL.mono (s1.trans s') hp) hi;refine Jge sp rfl ?_;walk_at "rd";refine ifT rfl ?_;walk_at "rd";refine Jm4 sz2 fun t H2 nt s2 ht=>?_
   refine⟨_,_,rfl,s'.trans s2,?_⟩;rw[List.take_add_one,e1];exact Prs.snoc (RepL.mono s2 r) (JlF ht)
  ·rintro ys σ' H' ⟨vb,vl,rfl,s',r⟩ l H2 nl s2 hl2;walk_at "rd";refine JhB (.of hl2) fun t H3 nt s3 ht=>?_
   walk_at "rd";have sA:Same H H3:=((s1.trans s').trans s2).trans s3;refine⟨x,C,dx,[],rfl,sA _ _ hx,T.cl,T.ns,by decide,?_⟩;rw[hn,List.take_length] at r;have r3:Prs K H3 ys ps:=RepL.mono (s2.trans s3) r;have ntx:t≠x:=Jbk ht (sA _ _ hx) (by intro z;cases z);refine q _ t ys (sA.ex_trans SameEx.upd) (by rw[Jjw];exact Js) (by rw[Jm ntx];exact ht) ?_;exact Prs.monoIns SameEx.upd (sA _ _ hx) r3
theorem sc_closed_up:FnScope ["pairs","stretches","begin","length","ahead"] ["pairs"] (Ji Ub):=⟨rfl,rfl,rfl,by decide +kernel,rfl,by decide +kernel,by decide +kernel⟩
theorem Jcb{f:Addr}{fd:FuncData}(F:Fun K "closed_up" "closed_up" Ub f fd)(qk:mg "sum"=none):FnOk P w K mg base CX0 1 f fd ["pairs"] (spE K C 1 Yx):=by
 refine F.ok sc_closed_up (fun vs H Q E h=>JJ h) (fun cdv A outer s H vs Q E hr h=>?_);have hu:=hr.units;refine⟨_,(Jf (Jv (i:=1) sc_closed_up.nd rfl (.inl rfl) (YL Je))
  (Jf (Y0 Q7 rfl (JQ (K:=K) rfl (pv 0)) (JF (K:=K) (n:=2) rfl rfl (Jg (Jj (i:=2) sc_closed_up.nd rfl (.inl rfl)) (Jg (Jj (i:=3) sc_closed_up.nd rfl (.inl rfl)) JG)) rfl rfl) (Jl (Uj (PW.pt (W0 (U5 (K:=K) rfl (pv 1) (fun _=>rfl)) (VW (JR (Jcg (K:=K) rfl hu) (JV (UM (K:=K) rfl rfl) rfl qk WL (Ja (JZ (Jz (K:=K) rfl) (pv 1) (Jf7 JcA Jh) (fun _ _=>rfl)) Je)) (pv 2) (JX _))))) (Jf (Jv (i:=4) sc_closed_up.nd rfl (.inl rfl) (Jlx (K:=K) rfl QR PySem.F.slot_list_pop PySem.F.type_list_pop JnQ (pv 1)))
  (Jl (Yr (UE (K:=K) rfl QR Gm Gn Y9 (pv 1) (Ja (J9 (Ja (JZ (Jz (K:=K) rfl) (pv 4) Jh (fun _ _=>rfl)) (Ja (Jt (JP (K:=K) rfl) (JZ (Jz (K:=K) rfl) (pv 4) Jh (fun _ _=>rfl)) (pv 3)) Je))) Je))))) (Jl (Uj (JR Jam (pv 3) Jh (JX _)) (Jl (Yr (UE (K:=K) rfl QR Gm Gn Y9 (pv 1) (Ja (J9 (Ja (pv 2) (Ja (pv 3) Je))) Je)))) Yj)))))
  (Jl (JN (pv 1))))),?_⟩
 exact JI (N:=["pairs","stretches","begin","length","ahead"]) (Jq (Vo (UC Jk))
  (Jq (U8 (JeU 0) (Yl (Jr (JM 2) (Jr (JM 3) Yk)) rfl) (Wh (Jaw (Zi (Jb 1)) (Yo (Jp Jlq (Wc Ja4 (Jc (Jp YR (Jb 1) (Jmb JgB Jn)) Jk)) (Jb 2)))) (Jq Jqb
  (JaJ (YY (Jc (Jp YR (Jb 4) Jn) (Jc (Jp Yw (Jp YR (Jb 4) Jn) (Jb 3)) Jk))))) (Wh (Yo (Jp Jhl (Jb 3) Jn)) (JaJ (YY (Jc (Jb 2) (Jc (Jb 3) Jk)))) Y6)))
  VL)) h
theorem Jcu:FnScope ["row","layers"] ["row","layers"] (Ji Ua):=⟨rfl,rfl,rfl,by decide +kernel,rfl,by decide +kernel,by decide +kernel⟩
theorem Jca{f:Addr}{fd:FuncData}(F:Fun K "by_layers" "by_layers" Ua f fd)(qe:mg "enumerate"=none)(T:RowC K C):FnOk P w K mg base CX0 1 f fd ["row","layers"] (spE K C 2 Yb):=by
 refine F.ok Jcu (fun vs H Q E h=>JJ h) (fun cdv A outer s H vs Q E hr h=>?_);have hu:=hr.units;refine⟨_,(Jl (JN (Ym (N':=["ahead","stretch","layers"]) (imp:=[none,none,some 1]) rfl (Jar (K:=K) rfl rfl qe (Ja (Yi (K:=K) rfl (pv 0) rfl) Je)) (Jea (own:=["ahead","stretch"]) (fr:=[("layers",1)]) rfl rfl rfl ⟨rfl,trivial⟩ rfl ⟨⟨rfl,rfl,rfl⟩,trivial⟩) (fun _ _ _ _=>(JF (K:=K) (n:=2) rfl rfl (Jg (Jj (i:=0) (show(["ahead","stretch","layers"]:List Str).Nodup from by decide +kernel) rfl (.inl rfl) (.inr rfl)) (Jg (Jj (i:=1) (show(["ahead","stretch","layers"]:List Str).Nodup from by decide +kernel) rfl (.inl rfl) (.inr rfl)) JG)) rfl rfl)) (fun _ _ _ _=>J7) (fun _ _ _ _=>(J9 (Ja (Jt (JP (K:=K) rfl) (JZ (Jz (K:=K) rfl) (pv 1) Jh (fun _ _=>rfl)) (Jt UD (Jt UD Jh (pv 2)) (pv 0))) (Ja (Jt (JP (K:=K) rfl) (JZ (Jz (K:=K) rfl) (pv 1) Jh (fun _ _=>rfl)) (pv 2)) Je))))))),?_⟩
 exact JI (N:=["row","layers"]) (YE (YM (Jcs (Jc (Um T (Jb 0)) Jk)) (Yl (Jr (JM 0) (Jr (JM 1) Yk)) rfl) UH (YY (Jc (Jp Yw (Jp YR (Jb 1) Jn) (Jp Vv (Jp Vv Jn (Jb 2)) (Jb 0))) (Jc (Jp Yw (Jp YR (Jb 1) Jn) (Jb 2)) Jk))) rfl)) h
theorem JeX:FnScope ["row"] ["row"] (Ji UP):=⟨rfl,rfl,rfl,by decide +kernel,rfl,by decide +kernel,by decide +kernel⟩
theorem JeJ{f:Addr}{fd:FuncData}(F:Fun K "gaps_of" "gaps_of" UP f fd)(qk:mg "sum"=none)(qz:mg "zip"=none)(T:RowC K C):FnOk P w K mg base CX0 1 f fd ["row"] (spE K C 1 Uo):=by
 refine F.ok JeX (fun vs H Q E h=>JJ h) (fun cdv A outer s H vs Q E hr h=>?_);have hu:=hr.units;refine⟨_,(Jl (JN (Ym (N':=["left","right"]) (imp:=[none,none]) rfl (Jcm (K:=K) rfl rfl qz (Ja (Yi (K:=K) rfl (pv 0) rfl) (Ja (Wv (ZC (K:=K) rfl) (Yi (K:=K) rfl (pv 0) rfl) (Zz Jh) Zy) Je))) (Zl rfl rfl) (fun _ _ _ _=>(JF (K:=K) (n:=2) rfl rfl (Jg (Jj (i:=0) (show(["left","right"]:List Str).Nodup from by decide +kernel) rfl (.inl rfl) (.inr rfl)) (Jg (Jj (i:=1) (show(["left","right"]:List Str).Nodup from by decide +kernel) rfl (.inl rfl) (.inr rfl)) JG)) rfl rfl)) (fun _ _ _ _=>J7) (fun _ _ _ _=>(Jt YB (JZ (Jz (K:=K) rfl) (pv 1) Jh (fun _ _=>rfl)) (JV (UM (K:=K) rfl rfl) rfl qk WL (Ja (pv 0) Je))))))),?_⟩
 exact JI (N:=["row"]) (YE (YM (JeV (Jc (Um T (Jb 0)) (Jc (Jl8 (Um T (Jb 0)) (Jck Jn) Jcj) Jk))) (Yl (Jr (JM 0) (Jr (JM 1) Yk)) rfl) UH (Jp Ui (Jp YR (Jb 1) Jn) (Wc Ja4 (Jc (Jb 0) Jk))) rfl)) h
theorem Jcv:FnScope ["row"] ["row"] (Ji Uc):=⟨rfl,rfl,rfl,by decide +kernel,rfl,by decide +kernel,by decide +kernel⟩
theorem Jcc{f:Addr}{fd:FuncData}(F:Fun K "closes_at" "closes_at" Uc f fd)(qA:mg "min"=none)(qK:Cal P w K mg base "gaps_of" 1 ["row"] (spE K C 1 Uo))(T:RowC K C):FnOk P w K mg base CX0 2 f fd ["row"] (spE K C 1 J0):=by
 refine F.ok Jcv (fun vs H Q E h=>JJ h) (fun cdv A outer s H vs Q E hr h=>?_);have hu:=hr.units;refine⟨_,(Jl (JN (Jhq (Jee (K:=K) rfl rfl) rfl qA JbA (Ja (Jt (JP (K:=K) rfl) (Ym (N':=["begin","length"]) (imp:=[none,none]) rfl (JQ (K:=K) rfl (Yi (K:=K) rfl (pv 0) rfl)) (Zl rfl rfl) (fun _ _ _ _=>(JF (K:=K) (n:=2) rfl rfl (Jg (Jj (i:=0) (show(["begin","length"]:List Str).Nodup from by decide +kernel) rfl (.inl rfl) (.inr rfl)) (Jg (Jj (i:=1) (show(["begin","length"]:List Str).Nodup from by decide +kernel) rfl (.inl rfl) (.inr rfl)) JG)) rfl rfl)) (fun _ _ _ _=>J7) (fun _ _ _ _=>(pv 1))) (Jo qK (hr.mono (by decide)) rfl (Ja (pv 0) Je))) Je) UF))),?_⟩
 exact JI (N:=["row"]) (YE (Wc Jna (Jc (Jp Yw (YM (Vx (Um T (Jb 0))) (Yl (Jr (JM 0) (Jr (JM 1) Yk)) rfl) UH (Jb 1) rfl) (Jx (Jc (Jb 0) Jk))) Jk))) h
theorem sc_thinned:FnScope ["row","layers","left","still","at_once"] ["row","layers"] (Ji UT):=⟨rfl,rfl,rfl,by decide +kernel,rfl,by decide +kernel,by decide +kernel⟩
theorem JeN{f:Addr}{fd:FuncData}(F:Fun K "thinned" "thinned" UT f fd)(qA:mg "min"=none)(qu:CalM P w K mg base "Row" C 2 ["self","stretches"] (VF C K))(qB:Cal P w K mg base "closed_up" 1 ["pairs"] (spE K C 1 Yx))(qg:Cal P w K mg base "by_layers" 1 ["row","layers"] (spE K C 2 Yb))(qh:Cal P w K mg base "closes_at" 2 ["row"] (spE K C 1 J0))(T:RowC K C):FnOk P w K mg base CX0 4 f fd ["row","layers"] (spE K C 2 Ye):=by
 refine F.ok sc_thinned (fun vs H Q E h=>JJ h) (fun cdv A outer s H vs Q E hr h=>?_);have hu:=hr.units;refine⟨_,(Jf (Jv (i:=2) sc_thinned.nd rfl (.inl rfl) (VD qu (hr.mono (by decide)) rfl (Ja (Yi (K:=K) rfl (pv 0) rfl) Je)))
  (Jf (Jv (i:=3) sc_thinned.nd rfl (.inl rfl) (pv 1))
  (Jf (JdF Q7 (PW.pt (W0 (JR Jam (pv 3) Jh (JX _)) (VW (U5 (K:=K) rfl (Yi (K:=K) rfl (pv 2) rfl) (fun _=>rfl))))) (Jf (Jv (i:=4) sc_thinned.nd rfl (.inl rfl) (JV (WO rfl) rfl qA JbA (Ja (pv 3) (Ja (Jo qh (hr.mono (by decide)) rfl (Ja (pv 2) Je)) Je))))
  (Jf (Jv (i:=2) sc_thinned.nd rfl (.inl rfl) (VD qu (hr.mono (by decide)) rfl (Ja (Jo qB (hr.mono (by decide)) rfl (Ja (Jo qg (hr.mono (by decide)) rfl (Ja (pv 2) (Ja (Jf7 JcA (pv 4)) Je))) Je)) Je)))
  (Jl (Jju (i:=3) sc_thinned.nd rfl (.inl rfl) (pv 4) Jnr)))))
  (Jl (JN (pv 2)))))),?_⟩
 exact JI (N:=["row","layers","left","still","at_once"]) (Jq (JB (JdK (Jc (Um T (Jb 0)) Jk)))
  (Jq (JB (Jb 1))
  (Jq (JgH (Jaw (Yo (Jp Jhl (Jb 3) Jn)) (Zi (Um T (Jb 2)))) (Jq (JB (Wc Jh3 (Jc (Jb 3) (Jc (Jx (Jc (Jb 2) Jk)) Jk))))
  (Jq (JB (JdK (Jc (Jx (Jc (Jx (Jc (Jb 2) (Jc (Jmb JgB (Jb 4)) Jk))) Jk)) Jk)))
  (Jm1 (Jb 4)))))
  VL))) h
theorem JeW:FnScope ["row","place"] ["row","place"] (Ji UO):=⟨rfl,rfl,rfl,by decide +kernel,rfl,by decide +kernel,by decide +kernel⟩
theorem JeI{f:Addr}{fd:FuncData}(F:Fun K "ball_at" "ball_at" UO f fd)(q9:mg "any"=none)(T:RowC K C):FnOk P w K mg base CX0 1 f fd ["row","place"] (spE K C 2 Y4):=by
 refine F.ok JeW (fun vs H Q E h=>JJ h) (fun cdv A outer s H vs Q E hr h=>?_);have hu:=hr.units;refine⟨_,(Jl (JN (JV (JgM (K:=K) rfl rfl) rfl q9 Jm7 (Ja (Ym (N':=["begin","length","place"]) (imp:=[none,none,some 1]) rfl (JQ (K:=K) rfl (Yi (K:=K) rfl (pv 0) rfl)) (Jea (own:=["begin","length"]) (fr:=[("place",1)]) rfl rfl rfl ⟨rfl,trivial⟩ rfl ⟨⟨rfl,rfl,rfl⟩,trivial⟩) (fun _ _ _ _=>(JF (K:=K) (n:=2) rfl rfl (Jg (Jj (i:=0) (show(["begin","length","place"]:List Str).Nodup from by decide +kernel) rfl (.inl rfl) (.inr rfl)) (Jg (Jj (i:=1) (show(["begin","length","place"]:List Str).Nodup from by decide +kernel) rfl (.inl rfl) (.inr rfl)) JG)) rfl rfl)) (fun _ _ _ _=>J7) (fun _ _ _ _=>(Jjj JmQ Jbl (pv 0) (pv 2) (Jt (JP (K:=K) rfl) (pv 0) (pv 1))))) Je)))),?_⟩
 exact JI (N:=["row","place"]) (YE (Wc Jo9 (Jc (YM (Vx (Um T (Jb 0))) (Yl (Jr (JM 0) (Jr (JM 1) Yk)) rfl) UH (Jl3 Jqj Jjb (Jb 0) (Jb 2) (Jp Yw (Jb 0) (Jb 1))) rfl) Jk))) h
theorem JeY:FnScope ["left","spot"] ["left","spot"] (Ji UR):=⟨rfl,rfl,rfl,by decide +kernel,rfl,by decide +kernel,by decide +kernel⟩
theorem JeL{f:Addr}{fd:FuncData}(F:Fun K "owed_at" "owed_at" UR f fd)(qD:Cal P w K mg base "ball_at" 1 ["row","place"] (spE K C 2 Y4)):FnOk P w K mg base CX0 2 f fd ["left","spot"] (spE K C 2 Uq):=by refine F.ok JeY (fun vs H Q E h=>JJ h) (fun cdv A outer s H vs Q E hr h=>?_);have hu:=hr.units;refine⟨_,(Jl (JN (JdB (PW.pt (W0 (U5 (K:=K) rfl (Jo qD (hr.mono (by decide)) rfl (Ja (pv 0) (Ja (Jt YB (pv 1) Jh) Je))) (fun _=>rfl)) (VW (Jco (U5 (K:=K) rfl (Jo qD (hr.mono (by decide)) rfl (Ja (pv 0) (Ja (pv 1) Je))) (fun _=>rfl)))))) Jh Jh))),?_⟩;exact JI (N:=["left","spot"]) (YE (JmU (Jaw (Zi (Jx (Jc (Jb 0) (Jc (Jp Ui (Jb 1) Jn) Jk)))) (Jct (Zi (Jx (Jc (Jb 0) (Jc (Jb 1) Jk)))))) Jn Jn)) h
theorem sc_struck:FnScope ["row","left","pairs","ahead","stretch","spot"] ["row"] (Ji Vl):=⟨rfl,rfl,rfl,by decide +kernel,rfl,by decide +kernel,by decide +kernel⟩
theorem Jhp{f:Addr}{fd:FuncData}(F:Fun K "struck" "struck" Vl f fd)(qe:mg "enumerate"=none)(qk:mg "sum"=none)(qL:Cal P w K mg base "owed_at" 2 ["left","spot"] (spE K C 2 Uq))(ql:Cal P w K mg base "thinned" 4 ["row","layers"] (spE K C 2 Ye))(T:RowC K C):FnOk P w K mg base CX0 5 f fd ["row"] (spE K C 1 Us):=by
 refine F.ok sc_struck (fun vs H Q E h=>JJ h) (fun cdv A outer s H vs Q E hr h=>?_);have hu:=hr.units;refine⟨_,(Jf (Jv (i:=1) sc_struck.nd rfl (.inr rfl) (Jo ql (hr.mono (by decide)) rfl (Ja (pv 0) (Ja Jh Je))))
  (Jf (Jv (i:=2) sc_struck.nd rfl (.inl rfl) Jap)
  (Jf (Y0 Q7 rfl (Jar (K:=K) rfl rfl qe (Ja (Yi (K:=K) rfl (pv 0) rfl) Je)) (JF (K:=K) (n:=2) rfl rfl (Jg (Jj (i:=3) sc_struck.nd rfl (.inl rfl)) (Jg (Jj (i:=4) sc_struck.nd rfl (.inl rfl)) JG)) rfl rfl) (Jf (Jv (i:=5) sc_struck.nd rfl (.inl rfl) (Jt YB (Jt YB (JV (UM (K:=K) rfl rfl) rfl qk WL (Ja (pv 4) Je)) Jh) (Jt UD Jh (pv 3))))
  (Jl (Jf8 (Jbe hr) (pv 2) (pv 5) (Jt (JP (K:=K) rfl) (Jdz (Jbe hr) (pv 2) (pv 5) Jh ⟨rfl,rfl,rfl,rfl⟩) Jh) rfl))))
  (Jl (JlJ 2 (JN (Ym (N':=["spot","number","left"]) (imp:=[none,none,some 1]) rfl (Jjq (pv 2)) (Jea (own:=["spot","number"]) (fr:=[("left",1)]) rfl rfl rfl ⟨rfl,trivial⟩ rfl ⟨⟨rfl,rfl,rfl⟩,trivial⟩) (fun _ _ _ _=>(JF (K:=K) (n:=2) rfl rfl (Jg (Jj (i:=0) (show(["spot","number","left"]:List Str).Nodup from by decide +kernel) rfl (.inl rfl) (.inr rfl)) (Jg (Jj (i:=1) (show(["spot","number","left"]:List Str).Nodup from by decide +kernel) rfl (.inl rfl) (.inr rfl)) JG)) rfl rfl)) (fun _ _ _ _=>J7) (fun _ _ _ _=>(J9 (Ja (pv 0) (Ja (pv 1) (Ja (Jo qL (hr.mono (by decide)) rfl (Ja (pv 2) (Ja (pv 0) Je))) Je)))))))))))),?_⟩
 exact JI (N:=["row","left","pairs","ahead","stretch","spot"]) (Jq (JB (Jx (Jc (Jb 0) (Jc Jn Jk))))
  (Jq (Vo JeT)
  (Jq (U8 (Jcs (Jc (Um T (Jb 0)) Jk)) (Yl (Jr (JM 3) (Jr (JM 4) Yk)) rfl) (Jq (JB (Jp Ui (Jp Ui (Wc Ja4 (Jc (Jb 4) Jk)) Jn) (Jp Vv Jn (Jb 3))))
  (JoW (Jp Yw (Jl4 (Jb 2) (Jb 5) Jn) Jn) (Jb 5))))
  (JoX 2 (YE (YM (JjW (Jb 2)) (Yl (Jr (JM 0) (Jr (JM 1) Yk)) rfl) UH (YY (Jc (Jb 0) (Jc (Jb 1) (Jc (Jx (Jc (Jb 2) (Jc (Jb 0) Jk))) Jk)))) rfl)))))) h
theorem sc_table_of:FnScope ["row","table","left","size","layers"] ["row"] (Ji Ux):=⟨rfl,rfl,rfl,by decide +kernel,rfl,by decide +kernel,by decide +kernel⟩
theorem Jdx{f:Addr}{fd:FuncData}(F:Fun K "table_of" "table_of" Ux f fd)(ql:Cal P w K mg base "thinned" 4 ["row","layers"] (spE K C 2 Ye))(qR:Cal P w K mg base "struck" 5 ["row"] (spE K C 1 Us))(qh:Cal P w K mg base "closes_at" 2 ["row"] (spE K C 1 J0))(T:RowC K C):FnOk P w K mg base CX0 6 f fd ["row"] (spE K C 1 Yv):=by
 refine F.ok sc_table_of (fun vs H Q E h=>JJ h) (fun cdv A outer s H vs Q E hr h=>?_);have hu:=hr.units;refine⟨_,(Jf (Jv (i:=1) sc_table_of.nd rfl (.inl rfl) (YL Je))
  (Jf (Jv (i:=2) sc_table_of.nd rfl (.inl rfl) (pv 0))
  (Jf (Jv (i:=3) sc_table_of.nd rfl (.inr rfl) Jh)
  (Jf (JdF Q7 (U5 (K:=K) rfl (Yi (K:=K) rfl (pv 2) rfl) (fun _=>rfl)) (Jf (Jv (i:=4) sc_table_of.nd rfl (.inl rfl) (Jo qh (hr.mono (by decide)) rfl (Ja (pv 2) Je)))
  (Jf (Jju (i:=3) sc_table_of.nd rfl (.inr rfl) (pv 4) Jnq)
  (Jf (Jv (i:=2) sc_table_of.nd rfl (.inl rfl) (Jo ql (hr.mono (by decide)) rfl (Ja (pv 2) (Ja (Jt YB (pv 4) Jh) Je))))
  (Jf (Yr (UE (K:=K) rfl QR Ku Kv VV (pv 1) (Ja (Ym (N':=["spot","pairs","owed","size"]) (imp:=[none,none,none,some 3]) rfl (JQ (K:=K) rfl (Jo qR (hr.mono (by decide)) rfl (Ja (pv 2) Je))) (Jea (own:=["spot","pairs","owed"]) (fr:=[("size",3)]) rfl rfl rfl ⟨rfl,trivial⟩ rfl ⟨⟨rfl,rfl,rfl⟩,trivial⟩) (fun _ _ _ _=>(JF (K:=K) (n:=3) rfl rfl (Jg (Jj (i:=0) (show(["spot","pairs","owed","size"]:List Str).Nodup from by decide +kernel) rfl (.inl rfl) (.inr rfl)) (Jg (Jj (i:=1) (show(["spot","pairs","owed","size"]:List Str).Nodup from by decide +kernel) rfl (.inl rfl) (.inr rfl)) (Jg (Jj (i:=2) (show(["spot","pairs","owed","size"]:List Str).Nodup from by decide +kernel) rfl (.inl rfl) (.inr rfl)) JG))) rfl rfl)) (fun _ _ _ _=>(JdE (JR Jam (pv 1) (pv 2) (JX _)))) (fun _ _ _ _=>(J9 (Ja (pv 3) (Ja (pv 0) (Ja (Jt YB (pv 1) (pv 2)) Je)))))) Je)))
  (Jl (Jv (i:=2) sc_table_of.nd rfl (.inl rfl) (Jo ql (hr.mono (by decide)) rfl (Ja (pv 2) (Ja Jh Je))))))))))
  (Jl (JN (pv 1))))))),?_⟩
 exact JI (N:=["row","table","left","size","layers"]) (Jq (Vo (UC Jk))
  (Jq (JB (Jb 0))
  (Jq (JB Jn)
  (Jq (JgH (Zi (Um T (Jb 2))) (Jq (JB (Jx (Jc (Jb 2) Jk)))
  (Jq (Jm1 (Jb 4))
  (Jq (JB (Jx (Jc (Jb 2) (Jc (Jp Ui (Jb 4) Jn) Jk))))
  (Jq (JgG (YM (Vx (Jx (Jc (Jb 2) Jk))) (Yl (Jr (JM 0) (Jr (JM 1) (Jr (JM 2) Yk))) rfl) (Yo (Jp Jhl (Jb 1) (Jb 2))) (YY (Jc (Jb 3) (Jc (Jb 0) (Jc (Jp Ui (Jb 1) (Jb 2)) Jk)))) rfl))
  (JB (Jx (Jc (Jb 2) (Jc Jn Jk)))))))))
  VL)))) h
theorem sc_lumps_apart:FnScope ["row","lumps","size","spot","number"] ["row"] (Ji YI):=⟨rfl,rfl,rfl,by decide +kernel,rfl,by decide +kernel,by decide +kernel⟩
theorem Jal{f:Addr}{fd:FuncData}(F:Fun K "lumps_apart" "lumps_apart" YI f fd)(qm:Cal P w K mg base "table_of" 6 ["row"] (spE K C 1 Yv)):FnOk P w K mg base CX0 7 f fd ["row"] (spE K C 1 Yd):=by
 refine F.ok sc_lumps_apart (fun vs H Q E h=>JJ h) (fun cdv A outer s H vs Q E hr h=>?_);have hu:=hr.units;refine⟨_,(Jf (Jv (i:=1) sc_lumps_apart.nd rfl (.inl rfl) (YL Je))
  (Jf (Y0 Q7 rfl (JQ (K:=K) rfl (Jo qm (hr.mono (by decide)) rfl (Ja (pv 0) Je))) (JF (K:=K) (n:=3) rfl rfl (Jg (Jj (i:=2) sc_lumps_apart.nd rfl (.inl rfl)) (Jg (Jj (i:=3) sc_lumps_apart.nd rfl (.inl rfl)) (Jg (Jj (i:=4) sc_lumps_apart.nd rfl (.inl rfl)) JG))) rfl rfl) (Jl (Yr (UE (K:=K) rfl QR Ku Kv VV (pv 1) (Ja (Jt Jji (YL (Ja (J9 (Ja (pv 2) (Ja (pv 3) Je))) Je)) (pv 4)) Je)))))
  (Jl (JN (pv 1))))),?_⟩
 exact JI (N:=["row","lumps","size","spot","number"]) (Jq (Vo (UC Jk))
  (Jq (U8 (Vx (Jx (Jc (Jb 0) Jk))) (Yl (Jr (JM 2) (Jr (JM 3) (Jr (JM 4) Yk))) rfl) (JgG (Jp JmP (UC (Jc (YY (Jc (Jb 2) (Jc (Jb 3) Jk))) Jk)) (Jb 4))))
  VL)) h
theorem sc_moves:FnScope ["one","two","here","there","told","begun","led","by"] ["one","two"] (Ji VX):=⟨rfl,rfl,rfl,by decide +kernel,rfl,by decide +kernel,by decide +kernel⟩
theorem Jjf{f:Addr}{fd:FuncData}(F:Fun K "moves" "moves" VX f fd)(qp:mg "list"=none)(qz:mg "zip"=none)(qo:Cal P w K mg base "lumps_apart" 7 ["row"] (spE K C 1 Yd)):FnOk P w K mg base CX0 8 f fd ["one","two"] (spE K C 2 UU):=by
 refine F.ok sc_moves (fun vs H Q E h=>JJ h) (fun cdv A outer s H vs Q E hr h=>?_);have hu:=hr.units;refine⟨_,(Jf (Jv (i:=2) sc_moves.nd rfl (.inl rfl) (Jo qo (hr.mono (by decide)) rfl (Ja (pv 0) Je)))
  (Jf (Jv (i:=3) sc_moves.nd rfl (.inl rfl) (Jo qo (hr.mono (by decide)) rfl (Ja (pv 1) Je)))
  (Jf (Uj (JR (Jan (K:=K) rfl hu) (Ym (N':=["size","spot"]) (imp:=[none,none]) rfl (JQ (K:=K) rfl (pv 2)) (Zl rfl rfl) (fun _ _ _ _=>(JF (K:=K) (n:=2) rfl rfl (Jg (Jj (i:=0) (show(["size","spot"]:List Str).Nodup from by decide +kernel) rfl (.inl rfl) (.inr rfl)) (Jg (Jj (i:=1) (show(["size","spot"]:List Str).Nodup from by decide +kernel) rfl (.inl rfl) (.inr rfl)) JG)) rfl rfl)) (fun _ _ _ _=>J7) (fun _ _ _ _=>(pv 0))) (Ym (N':=["size","spot"]) (imp:=[none,none]) rfl (JQ (K:=K) rfl (pv 3)) (Zl rfl rfl) (fun _ _ _ _=>(JF (K:=K) (n:=2) rfl rfl (Jg (Jj (i:=0) (show(["size","spot"]:List Str).Nodup from by decide +kernel) rfl (.inl rfl) (.inr rfl)) (Jg (Jj (i:=1) (show(["size","spot"]:List Str).Nodup from by decide +kernel) rfl (.inl rfl) (.inr rfl)) JG)) rfl rfl)) (fun _ _ _ _=>J7) (fun _ _ _ _=>(pv 0))) (JX _)) (Jl (JN UF)) Yj)
  (Jf (Jv (i:=4) sc_moves.nd rfl (.inl rfl) Jap)
  (Jf (Y0 Q7 rfl (Jcm (K:=K) rfl rfl qz (Ja (pv 2) (Ja (pv 3) Je))) (JF (K:=K) (n:=2) rfl rfl (Jg (Jj (i:=5) sc_moves.nd rfl (.inl rfl)) (Jg (Jj (i:=6) sc_moves.nd rfl (.inl rfl)) JG)) rfl rfl) (Jf (Jv (i:=7) sc_moves.nd rfl (.inl rfl) (Jt YB (JZ (Jz (K:=K) rfl) (pv 6) Jh (fun _ _=>rfl)) (JZ (Jz (K:=K) rfl) (pv 5) Jh (fun _ _=>rfl))))
  (Jl (Uj (JR (Jan (K:=K) rfl hu) (JdA (pv 4) (JZ (Jz (K:=K) rfl) (pv 5) Jh (fun _ _=>rfl)) (pv 7) ⟨rfl,rfl,rfl,rfl⟩) (pv 7) (JX _)) (Jl (JN UF)) Yj))))
  (Jl (JN (WZ (Jec rfl) rfl qp VP (Ja (Jjm (pv 4)) Je))))))))),?_⟩
 exact JI (N:=["one","two","here","there","told","begun","led","by"]) (Jq (JB (Jx (Jc (Jb 0) Jk)))
  (Jq (JB (Jx (Jc (Jb 1) Jk)))
  (Jq (Wh (Yo (Jp Jjd (YM (Vx (Jb 2)) (Yl (Jr (JM 0) (Jr (JM 1) Yk)) rfl) UH (Jb 0) rfl) (YM (Vx (Jb 3)) (Yl (Jr (JM 0) (Jr (JM 1) Yk)) rfl) UH (Jb 0) rfl))) (YE Wy) Y6)
  (Jq (Vo JeT)
  (Jq (U8 (JeV (Jc (Jb 2) (Jc (Jb 3) Jk))) (Yl (Jr (JM 5) (Jr (JM 6) Yk)) rfl) (Jq (JB (Jp Ui (Jp YR (Jb 6) Jn) (Jp YR (Jb 5) Jn)))
  (JoY Jjd (Jp YR (Jb 5) Jn) (Jb 7) (Jb 7) (YE Wy) Y6)))
  (YE (Jl6 (Jb 4)))))))) h
theorem sc_ways:FnScope ["one","two","told","pairs","goings"] ["one","two"] (Ji W7):=⟨rfl,rfl,rfl,by decide +kernel,rfl,by decide +kernel,by decide +kernel⟩
theorem Jlt{f:Addr}{fd:FuncData}(F:Fun K "ways" "ways" W7 f fd)(qz:mg "zip"=none)(qM:Cal P w K mg base "growths" 1 ["told"] (spE K C 1 Up))(qU:Cal P w K mg base "moves" 8 ["one","two"] (spE K C 2 UU)):FnOk P w K mg base CX0 9 f fd ["one","two"] (spE K C 2 Yq):=by
 refine F.ok sc_ways (fun vs H Q E h=>JJ h) (fun cdv A outer s H vs Q E hr h=>?_);have hu:=hr.units;refine⟨_,(Jf (Jv (i:=2) sc_ways.nd rfl (.inl rfl) (Jo qU (hr.mono (by decide)) rfl (Ja (pv 0) (Ja (pv 1) Je))))
  (Jf (Uj (JR Jf3 (pv 2) UF (JX _)) (Jl (JN UF)) Yj)
  (Jf (Jv (i:=3) sc_ways.nd rfl (.inl rfl) (Jo qM (hr.mono (by decide)) rfl (Ja (pv 2) Je)))
  (Jf (Jat (i:=4) (N':=["here","behind"]) (imp:=[none,none]) sc_ways.nd rfl (.inl rfl) rfl (Jcm (K:=K) rfl rfl qz (Ja (pv 3) (Ja (Wv (ZC (K:=K) rfl) (pv 3) (Zz Jh) Zy) Je))) (Zl rfl rfl) (fun _ _ _ _=>(JF (K:=K) (n:=2) rfl rfl (Jg (Jj (i:=0) (show(["here","behind"]:List Str).Nodup from by decide +kernel) rfl (.inl rfl) (.inr rfl)) (Jg (Jj (i:=1) (show(["here","behind"]:List Str).Nodup from by decide +kernel) rfl (.inl rfl) (.inr rfl)) JG)) rfl rfl)) (fun _ _ _ _=>J7) (fun _ _ _ _=>(J9 (Ja (JZ (Jz (K:=K) rfl) (pv 0) Jh (fun _ _=>rfl)) (Ja (Jt YB (JZ (Jz (K:=K) rfl) (pv 0) Jh (fun _ _=>rfl)) (JZ (Jz (K:=K) rfl) (pv 1) Jh (fun _ _=>rfl))) Je)))) rfl (.inl rfl))
  (Jf (Yr (UE (K:=K) rfl QR Ku Kv VV (pv 4) (Ja (Ym (N':=["size","growth"]) (imp:=[none,none]) rfl (JQ (K:=K) rfl (Wv (ZC (K:=K) rfl) (pv 3) (Zz (Jf7 JcA Jh)) Zy)) (Zl rfl rfl) (fun _ _ _ _=>(JF (K:=K) (n:=2) rfl rfl (Jg (Jj (i:=0) (show(["size","growth"]:List Str).Nodup from by decide +kernel) rfl (.inl rfl) (.inr rfl)) (Jg (Jj (i:=1) (show(["size","growth"]:List Str).Nodup from by decide +kernel) rfl (.inl rfl) (.inr rfl)) JG)) rfl rfl)) (fun _ _ _ _=>J7) (fun _ _ _ _=>(J9 (Ja UF (Ja (pv 1) Je))))) Je)))
  (Jl (JN (Ym (N':=["pair"]) (imp:=[none]) rfl (JQ (K:=K) rfl (pv 4)) (Zl rfl rfl) (fun _ _ _ _=>(Jj (i:=0) (show(["pair"]:List Str).Nodup from by decide +kernel) rfl (.inl rfl) (.inr rfl))) (fun _ _ _ _=>(JdE (JR (Jan (K:=K) rfl hu) (JZ (Jz (K:=K) rfl) (pv 0) Jh (fun _ _=>rfl)) Jh (JX _)))) (fun _ _ _ _=>(pv 0)))))))))),?_⟩
 exact JI (N:=["one","two","told","pairs","goings"]) (Jq (JB (Jx (Jc (Jb 0) (Jc (Jb 1) Jk))))
  (Jq (Wh (Yo (Jp JpA (Jb 2) Wy)) (YE Wy) Y6)
  (Jq (JB (Jx (Jc (Jb 2) Jk)))
  (Jq (Vo (YM (JeV (Jc (Jb 3) (Jc (Jl8 (Jb 3) (Jck Jn) Jcj) Jk))) (Yl (Jr (JM 0) (Jr (JM 1) Yk)) rfl) UH (YY (Jc (Jp YR (Jb 0) Jn) (Jc (Jp Ui (Jp YR (Jb 0) Jn) (Jp YR (Jb 1) Jn)) Jk))) rfl))
  (Jq (JgG (YM (Vx (Jl8 (Jb 3) (Jck (Jmb JgB Jn)) Jcj)) (Yl (Jr (JM 0) (Jr (JM 1) Yk)) rfl) UH (YY (Jc Wy (Jc (Jb 1) Jk))) rfl))
  (YE (YM (Vx (Jb 4)) (JM 0) (Yo (Jp Jjd (Jp YR (Jb 0) Jn) Jn)) (Jb 0) rfl))))))) h
theorem Jcw:FnScope ["row","layers"] ["row","layers"] (Ji Uf):=⟨rfl,rfl,rfl,by decide +kernel,rfl,by decide +kernel,by decide +kernel⟩
theorem Jcf{f:Addr}{fd:FuncData}(F:Fun K "thickened" "thickened" Uf f fd)(qu:CalM P w K mg base "Row" C 2 ["self","stretches"] (VF C K))(qg:Cal P w K mg base "by_layers" 1 ["row","layers"] (spE K C 2 Yb)):FnOk P w K mg base CX0 4 f fd ["row","layers"] (spE K C 2 Yz):=by refine F.ok Jcw (fun vs H Q E h=>JJ h) (fun cdv A outer s H vs Q E hr h=>?_);have hu:=hr.units;refine⟨_,(Jl (JN (VD qu (hr.mono (by decide)) rfl (Ja (Jo qg (hr.mono (by decide)) rfl (Ja (pv 0) (Ja (pv 1) Je))) Je)))),?_⟩;exact JI (N:=["row","layers"]) (YE (JdK (Jc (Jx (Jc (Jb 0) (Jc (Jb 1) Jk))) Jk))) h
theorem Jax:FnScope ["row","place"] ["row","place"] (Ji YF):=⟨rfl,rfl,rfl,by decide +kernel,rfl,by decide +kernel,by decide +kernel⟩
theorem Jai{f:Addr}{fd:FuncData}(F:Fun K "balls_below" "balls_below" YF f fd)(qk:mg "sum"=none)(wa:mg "max"=none)(qA:mg "min"=none)(T:RowC K C):FnOk P w K mg base CX0 1 f fd ["row","place"] (spE K C 2 Ys):=by
 refine F.ok Jax (fun vs H Q E h=>JJ h) (fun cdv A outer s H vs Q E hr h=>?_);have hu:=hr.units;refine⟨_,(Jl (JN (JV (UM (K:=K) rfl rfl) rfl qk WL (Ja (Ym (N':=["begin","length","place"]) (imp:=[none,none,some 1]) rfl (JQ (K:=K) rfl (Yi (K:=K) rfl (pv 0) rfl)) (Jea (own:=["begin","length"]) (fr:=[("place",1)]) rfl rfl rfl ⟨rfl,trivial⟩ rfl ⟨⟨rfl,rfl,rfl⟩,trivial⟩) (fun _ _ _ _=>(JF (K:=K) (n:=2) rfl rfl (Jg (Jj (i:=0) (show(["begin","length","place"]:List Str).Nodup from by decide +kernel) rfl (.inl rfl) (.inr rfl)) (Jg (Jj (i:=1) (show(["begin","length","place"]:List Str).Nodup from by decide +kernel) rfl (.inl rfl) (.inr rfl)) JG)) rfl rfl)) (fun _ _ _ _=>J7) (fun _ _ _ _=>(JV (JgQ rfl) rfl wa Jm8 (Ja Jh (Ja (JV (WO rfl) rfl qA JbA (Ja (pv 1) (Ja (Jt YB (pv 2) (pv 0)) Je))) Je))))) Je)))),?_⟩
 exact JI (N:=["row","place"]) (YE (Wc Ja4 (Jc (YM (Vx (Um T (Jb 0))) (Yl (Jr (JM 0) (Jr (JM 1) Yk)) rfl) UH (Wc Jpa (Jc Jn (Jc (Wc Jh3 (Jc (Jb 1) (Jc (Jp Ui (Jb 2) (Jb 0)) Jk))) Jk))) rfl) Jk))) h
theorem sc_ended_at:FnScope ["row","spots","stretches","counted","ahead","spot","below","balls"] ["row","spots"] (Ji Uu):=⟨rfl,rfl,rfl,by decide +kernel,rfl,by decide +kernel,by decide +kernel⟩
theorem Jdu{f:Addr}{fd:FuncData}(F:Fun K "ended_at" "ended_at" Uu f fd)(qe:mg "enumerate"=none)(qr:Cal P w K mg base "balls_below" 1 ["row","place"] (spE K C 2 Ys)):FnOk P w K mg base CX0 2 f fd ["row","spots"] (spE K C 2 Y7):=by
 refine F.ok sc_ended_at (fun vs H Q E h=>JJ h) (fun cdv A outer s H vs Q E hr h=>?_);have hu:=hr.units;refine⟨_,(Jf (Jv (i:=2) sc_ended_at.nd rfl (.inl rfl) (YL Je))
  (Jf (Jv (i:=3) sc_ended_at.nd rfl (.inl rfl) Jh)
  (Jf (Y0 Q7 rfl (Jar (K:=K) rfl rfl qe (Ja (pv 1) Je)) (JF (K:=K) (n:=2) rfl rfl (Jg (Jj (i:=4) sc_ended_at.nd rfl (.inl rfl)) (Jg (Jj (i:=5) sc_ended_at.nd rfl (.inl rfl)) JG)) rfl rfl) (Jf (Jv (i:=6) sc_ended_at.nd rfl (.inl rfl) (Jo qr (hr.mono (by decide)) rfl (Ja (pv 0) (Ja (pv 5) Je))))
  (Jf (Jv (i:=7) sc_ended_at.nd rfl (.inl rfl) (Jt YB (pv 6) (pv 3)))
  (Jf (Yr (UE (K:=K) rfl QR Gm Gn Y9 (pv 2) (Ja (J9 (Ja (Jt YB (Jt (JP (K:=K) rfl) (pv 5) (Jt UD Jh (pv 4))) (pv 7)) (Ja (Jt (JP (K:=K) rfl) (pv 7) Jh) Je))) Je)))
  (Jl (Jv (i:=3) sc_ended_at.nd rfl (.inl rfl) (pv 6)))))))
  (Jl (JN (pv 2)))))),?_⟩
 exact JI (N:=["row","spots","stretches","counted","ahead","spot","below","balls"]) (Jq (Vo (UC Jk))
  (Jq (JB Jn)
  (Jq (U8 (Jcs (Jc (Jb 1) Jk)) (Yl (Jr (JM 4) (Jr (JM 5) Yk)) rfl) (Jq (JB (Jx (Jc (Jb 0) (Jc (Jb 5) Jk))))
  (Jq (JB (Jp Ui (Jb 6) (Jb 3)))
  (Jq (JaJ (YY (Jc (Jp Ui (Jp Yw (Jb 5) (Jp Vv Jn (Jb 4))) (Jb 7)) (Jc (Jp Yw (Jb 7) Jn) Jk))))
  (JB (Jb 6))))))
  VL))) h
theorem sc_put_in:FnScope ["row","pairs","spots","spot","number"] ["row","pairs"] (Ji Vj):=⟨rfl,rfl,rfl,by decide +kernel,rfl,by decide +kernel,by decide +kernel⟩
theorem Jhn{f:Addr}{fd:FuncData}(F:Fun K "put_in" "put_in" Vj f fd)(qv:mg "sorted"=none)(qJ:mg "len"=none)(qk:mg "sum"=none)(qd:GV mg "MOST_STRETCHES" (.int 30))(qu:CalM P w K mg base "Row" C 2 ["self","stretches"] (VF C K))(qE:Cal P w K mg base "ended_at" 2 ["row","spots"] (spE K C 2 Y7))(T:RowC K C):FnOk P w K mg base CX0 4 f fd ["row","pairs"] (spE K C 2 Ur):=by
 refine F.ok sc_put_in (fun vs H Q E h=>JJ h) (fun cdv A outer s H vs Q E hr h=>?_);have hu:=hr.units;refine⟨_,(Jf (Uj (JR Jam (Jt (JP (K:=K) rfl) (JV (WN (K:=K) rfl) rfl qJ Jeb (Ja (Yi (K:=K) rfl (pv 0) rfl) Je)) (JV (UM (K:=K) rfl rfl) rfl qk WL (Ja (Ym (N':=["spot","number"]) (imp:=[none,none]) rfl (JQ (K:=K) rfl (pv 1)) (Zl rfl rfl) (fun _ _ _ _=>(JF (K:=K) (n:=2) rfl rfl (Jg (Jj (i:=0) (show(["spot","number"]:List Str).Nodup from by decide +kernel) rfl (.inl rfl) (.inr rfl)) (Jg (Jj (i:=1) (show(["spot","number"]:List Str).Nodup from by decide +kernel) rfl (.inl rfl) (.inr rfl)) JG)) rfl rfl)) (fun _ _ _ _=>J7) (fun _ _ _ _=>(pv 1))) Je))) (Jaq rfl qd) (JX _)) (Jl UB) Yj)
  (Jf (Jat (i:=2) (N':=["begin","length"]) (imp:=[none,none]) sc_put_in.nd rfl (.inl rfl) rfl (JQ (K:=K) rfl (Yi (K:=K) rfl (pv 0) rfl)) (Zl rfl rfl) (fun _ _ _ _=>(JF (K:=K) (n:=2) rfl rfl (Jg (Jj (i:=0) (show(["begin","length"]:List Str).Nodup from by decide +kernel) rfl (.inl rfl) (.inr rfl)) (Jg (Jj (i:=1) (show(["begin","length"]:List Str).Nodup from by decide +kernel) rfl (.inl rfl) (.inr rfl)) JG)) rfl rfl)) (fun _ _ _ _=>J7) (fun _ _ _ _=>(Jt (JP (K:=K) rfl) (pv 0) (pv 1))) rfl (.inl rfl))
  (Jf (Y0 Q7 rfl (JQ (K:=K) rfl (pv 1)) (JF (K:=K) (n:=2) rfl rfl (Jg (Jj (i:=3) sc_put_in.nd rfl (.inl rfl)) (Jg (Jj (i:=4) sc_put_in.nd rfl (.inl rfl)) JG)) rfl rfl) (Jl (Yr (UE (K:=K) rfl QR Ku Kv VV (pv 2) (Ja (Jt Jji (YL (Ja (pv 3) Je)) (pv 4)) Je)))))
  (Jl (JN (VD qu (hr.mono (by decide)) rfl (Ja (Jo qE (hr.mono (by decide)) rfl (Ja (pv 0) (Ja (JV (JbC (K:=K) rfl rfl) rfl qv Ja3 (Ja (pv 2) Je)) Je))) Je))))))),?_⟩
 exact JI (N:=["row","pairs","spots","spot","number"]) (Jq (Wh (Yo (Jp Jhl (Jp Yw (Wc Jmy (Jc (Um T (Jb 0)) Jk)) (Wc Ja4 (Jc (YM (Vx (Jb 1)) (Yl (Jr (JM 0) (Jr (JM 1) Yk)) rfl) UH (Jb 1) rfl) Jk))) Jn)) WK Y6)
  (Jq (Vo (YM (Vx (Um T (Jb 0))) (Yl (Jr (JM 0) (Jr (JM 1) Yk)) rfl) UH (Jp Yw (Jb 0) (Jb 1)) rfl))
  (Jq (U8 (JeU 1) (Yl (Jr (JM 3) (Jr (JM 4) Yk)) rfl) (JgG (Jp JmP (UC (Jc (Jb 3) Jk)) (Jb 4))))
  (YE (JdK (Jc (Jx (Jc (Jb 0) (Jc (Wc Jh4 (Jc (Jb 2) Jk)) Jk))) Jk)))))) h
theorem sc_check_table:FnScope ["table","ahead","size","spot","number"] ["table"] (Ji YH):=⟨rfl,rfl,rfl,by decide +kernel,rfl,by decide +kernel,by decide +kernel⟩
theorem Jak{f:Addr}{fd:FuncData}(F:Fun K "check_table" "check_table" YH f fd)(qk:mg "sum"=none)(qw:GV mg "MOST_LUMPS" (.int 30)):FnOk P w K mg base CX0 1 f fd ["table"] (spE K C 1 J2):=by
 refine F.ok sc_check_table (fun vs H Q E h=>JJ h) (fun cdv A outer s H vs Q E hr h=>?_);have hu:=hr.units;refine⟨_,(Jf (Jv (i:=1) sc_check_table.nd rfl (.inl rfl) UF)
  (Jf (Y0 Q7 rfl (JQ (K:=K) rfl (pv 0)) (JF (K:=K) (n:=3) rfl rfl (Jg (Jj (i:=2) sc_check_table.nd rfl (.inl rfl)) (Jg (Jj (i:=3) sc_check_table.nd rfl (.inl rfl)) (Jg (Jj (i:=4) sc_check_table.nd rfl (.inl rfl)) JG))) rfl rfl) (Jf (Uj (PW.pt (JjC (JR Jbl (pv 2) Jh (JX _)) (JjD (JR Jbl (pv 4) Jh (JX _))))) (Jl UB) Yj)
  (Jf (Uj (PW.pt (W0 (JR Jao (pv 1) UF (JX _)) (VW (JR (Jn3 (K:=K) rfl (GQ (LB _ 64) hu)) (J9 (Ja (pv 2) (Ja (pv 3) Je))) (pv 1) (JX _))))) (Jl UB) Yj)
  (Jl (Jv (i:=1) sc_check_table.nd rfl (.inl rfl) (J9 (Ja (pv 2) (Ja (pv 3) Je))))))))
  (Jl (Uj (JR Jam (JV (UM (K:=K) rfl rfl) rfl qk WL (Ja (Ym (N':=["size","spot","number"]) (imp:=[none,none,none]) rfl (JQ (K:=K) rfl (pv 0)) (Zl rfl rfl) (fun _ _ _ _=>(JF (K:=K) (n:=3) rfl rfl (Jg (Jj (i:=0) (show(["size","spot","number"]:List Str).Nodup from by decide +kernel) rfl (.inl rfl) (.inr rfl)) (Jg (Jj (i:=1) (show(["size","spot","number"]:List Str).Nodup from by decide +kernel) rfl (.inl rfl) (.inr rfl)) (Jg (Jj (i:=2) (show(["size","spot","number"]:List Str).Nodup from by decide +kernel) rfl (.inl rfl) (.inr rfl)) JG))) rfl rfl)) (fun _ _ _ _=>J7) (fun _ _ _ _=>(pv 2))) Je)) (Jaq rfl qw) (JX _)) (Jl UB) Yj)))),?_⟩
 exact JI (N:=["table","ahead","size","spot","number"]) (Jq (JB Wy)
  (Jq (U8 (JeU 0) (Yl (Jr (JM 2) (Jr (JM 3) (Jr (JM 4) Yk))) rfl) (Jq (Wh (JjY (Yo (Jp Jjb (Jb 2) Jn)) (Yo (Jp Jjb (Jb 4) Jn))) WK Y6)
  (Jq (Wh (Jaw (Yo (Jp JfZ (Jb 1) Wy)) (Yo (Jp JpB (YY (Jc (Jb 2) (Jc (Jb 3) Jk))) (Jb 1)))) WK Y6)
  (JB (YY (Jc (Jb 2) (Jc (Jb 3) Jk)))))))
  (Wh (Yo (Jp Jhl (Wc Ja4 (Jc (YM (Vx (Jb 0)) (Yl (Jr (JM 0) (Jr (JM 1) (Jr (JM 2) Yk))) rfl) UH (Jb 2) rfl) Jk)) Jn)) WK Y6))) h
theorem sc_row_of:FnScope ["table","lumps","size","spot","number","sizes","row","lesser"] ["table"] (Ji Vk):=⟨rfl,rfl,rfl,by decide +kernel,rfl,by decide +kernel,by decide +kernel⟩
theorem Jho{f:Addr}{fd:FuncData}(F:Fun K "row_of" "row_of" Vk f fd)(qF:mg "reversed"=none)(qp:mg "list"=none)(qz:mg "zip"=none)(qC:Cal P w K mg base "thickened" 4 ["row","layers"] (spE K C 2 Yz))(qS:Cal P w K mg base "put_in" 4 ["row","pairs"] (spE K C 2 Ur))(qu:CalM P w K mg base "Row" C 2 ["self","stretches"] (VF C K))(qf:Cal P w K mg base "check_table" 1 ["table"] (spE K C 1 J2)):FnOk P w K mg base CX0 5 f fd ["table"] (spE K C 1 Yu):=by
 refine F.ok sc_row_of (fun vs H Q E h=>JJ h) (fun cdv A outer s H vs Q E hr h=>?_);have hu:=hr.units;refine⟨_,(Jf (Yr (Jo qf (hr.mono (by decide)) rfl (Ja (pv 0) Je)))
  (Jf (Jv (i:=1) sc_row_of.nd rfl (.inl rfl) Jap)
  (Jf (Y0 Q7 rfl (JQ (K:=K) rfl (pv 0)) (JF (K:=K) (n:=3) rfl rfl (Jg (Jj (i:=2) sc_row_of.nd rfl (.inl rfl)) (Jg (Jj (i:=3) sc_row_of.nd rfl (.inl rfl)) (Jg (Jj (i:=4) sc_row_of.nd rfl (.inl rfl)) JG))) rfl rfl) (Jl (Yr (UE (K:=K) rfl QR Gm Gn Y9 (JdA (pv 1) (pv 2) (YL Je) ⟨rfl,rfl,rfl,rfl⟩) (Ja (J9 (Ja (pv 3) (Ja (pv 4) Je))) Je)))))
  (Jf (Jv (i:=5) sc_row_of.nd rfl (.inl rfl) (WZ (Jed rfl) rfl qp VP (Ja (pv 1) Je)))
  (Jf (Jv (i:=6) sc_row_of.nd rfl (.inl rfl) (VD qu (hr.mono (by decide)) rfl (Ja (YL Je) Je)))
  (Jf (Y0 Q7 rfl (JlD (K:=K) rfl rfl qF (Ja (JdC (K:=K) rfl rfl rfl qp rfl qz (Ja (Jt (JP (K:=K) rfl) (YL (Ja Jh Je)) (pv 5)) (Ja (pv 5) Je))) Je)) (JF (K:=K) (n:=2) rfl rfl (Jg (Jj (i:=7) sc_row_of.nd rfl (.inl rfl)) (Jg (Jj (i:=2) sc_row_of.nd rfl (.inl rfl)) JG)) rfl rfl) (Jl (Jv (i:=6) sc_row_of.nd rfl (.inl rfl) (Jo qC (hr.mono (by decide)) rfl (Ja (Jo qS (hr.mono (by decide)) rfl (Ja (pv 6) (Ja (Jlz (Jbe hr) (pv 1) (pv 2) (fun _ _=>rfl)) Je))) (Ja (Jt YB (Jt YB (pv 2) (pv 7)) Jh) Je))))))
  (Jl (JN (pv 6))))))))),?_⟩
 exact JI (N:=["table","lumps","size","spot","number","sizes","row","lesser"]) (Jq (Jfc (Jx (Jc (Jb 0) Jk)))
  (Jq (Vo JeT)
  (Jq (Jqa (JeU 0) (Jno (JbS (Jiz (by decide)) (JbS (Jiz (by decide)) (JbS (Jiz (by decide)) Jnn))) rfl) (Jb 2) (YY (Jc (Jb 3) (Jc (Jb 4) Jk))))
  (Jq (JB (Jl7 (Jb 1)))
  (Jq (JB (JdK (Jc (UC Jk) Jk)))
  (Jq (U8 (JoF (Jc (JoG (Jc (Jp Yw (UC (Jc Jn Jk)) (Jb 5)) (Jc (Jb 5) Jk))) Jk)) (Yl (Jr (JM 7) (Jr (JM 2) Yk)) rfl) (JB (Jx (Jc (Jx (Jc (Jb 6) (Jc (JpZ (Jb 1) (Jb 2)) Jk))) (Jc (Jp Ui (Jp Ui (Jb 2) (Jb 7)) Jn) Jk)))))
  VL)))))) h
theorem JdN:FnScope ["size","seats"] ["size","seats"] (Ji Uw):=⟨rfl,rfl,rfl,by decide +kernel,rfl,by decide +kernel,by decide +kernel⟩
theorem Jdw{f:Addr}{fd:FuncData}(F:Fun K "share_of" "share_of" Uw f fd)(qA:mg "min"=none):FnOk P w K mg base CX0 1 f fd ["size","seats"] (spE K C 2 Y8):=by refine F.ok JdN (fun vs H Q E h=>JJ h) (fun cdv A outer s H vs Q E hr h=>?_);have hu:=hr.units;refine⟨_,(Jl (JN (JdB (JR Jf3 (pv 1) UF (JX _)) (pv 0) (JV (WO rfl) rfl qA JbA (Ja (pv 0) (Ja (pv 1) Je)))))),?_⟩;exact JI (N:=["size","seats"]) (YE (JmU (Yo (Jp JpA (Jb 1) Wy)) (Jb 0) (Wc Jh3 (Jc (Jb 0) (Jc (Jb 1) Jk))))) h
theorem Jay:FnScope ["seats"] ["seats"] (Ji YG):=⟨rfl,rfl,rfl,by decide +kernel,rfl,by decide +kernel,by decide +kernel⟩
theorem Jaj{f:Addr}{fd:FuncData}(F:Fun K "check_seats" "check_seats" YG f fd) :FnOk P w K mg base CX0 1 f fd ["seats"] (spE K C 1 Yt):=by refine F.ok Jay (fun vs H Q E h=>JJ h) (fun cdv A outer s H vs Q E hr h=>?_);have hu:=hr.units;refine⟨_,(Jl (Uj (PW.pt (W0 (JR Jao (pv 0) UF (JX _)) (VW (JR Jbl (pv 0) Jh (JX _))))) (Jl UB) Yj)),?_⟩;exact JI (N:=["seats"]) (Wh (Jaw (Yo (Jp JfZ (Jb 0) Wy)) (Yo (Jp Jjb (Jb 0) Jn))) WK Y6) h
theorem JeZ:FnScope ["table","seats","times"] ["table","seats","times"] (Ji US):=⟨rfl,rfl,rfl,by decide +kernel,rfl,by decide +kernel,by decide +kernel⟩
theorem JeM{f:Addr}{fd:FuncData}(F:Fun K "shifted" "shifted" US f fd)(qG:Cal P w K mg base "share_of" 1 ["size","seats"] (spE K C 2 Y8))(qf:Cal P w K mg base "check_table" 1 ["table"] (spE K C 1 J2))(qt:Cal P w K mg base "check_seats" 1 ["seats"] (spE K C 1 Yt)):FnOk P w K mg base CX0 2 f fd ["table","seats","times"] (spE K C 3 Yy):=by
 refine F.ok JeZ (fun vs H Q E h=>JJ h) (fun cdv A outer s H vs Q E hr h=>?_);have hu:=hr.units;refine⟨_,(Jf (Yr (Jo qt (hr.mono (by decide)) rfl (Ja (pv 1) Je)))
  (Jf (Yr (Jo qf (hr.mono (by decide)) rfl (Ja (pv 0) Je)))
  (Jl (JN (Ym (N':=["size","spot","number","times","seats"]) (imp:=[none,none,none,some 2,some 1]) rfl (JQ (K:=K) rfl (pv 0)) (Jea (own:=["size","spot","number"]) (fr:=[("times",2),("seats",1)]) rfl rfl rfl ⟨rfl,rfl,trivial⟩ rfl ⟨⟨rfl,rfl,rfl⟩,⟨rfl,rfl,rfl⟩,trivial⟩) (fun _ _ _ _=>(JF (K:=K) (n:=3) rfl rfl (Jg (Jj (i:=0) (show(["size","spot","number","times","seats"]:List Str).Nodup from by decide +kernel) rfl (.inl rfl) (.inr rfl)) (Jg (Jj (i:=1) (show(["size","spot","number","times","seats"]:List Str).Nodup from by decide +kernel) rfl (.inl rfl) (.inr rfl)) (Jg (Jj (i:=2) (show(["size","spot","number","times","seats"]:List Str).Nodup from by decide +kernel) rfl (.inl rfl) (.inr rfl)) JG))) rfl rfl)) (fun _ _ _ _=>J7) (fun _ _ _ _=>(J9 (Ja (pv 0) (Ja (Jt (JP (K:=K) rfl) (pv 1) (Jt Jf4 (pv 3) (Jo qG (hr.mono (by decide)) rfl (Ja (pv 0) (Ja (pv 4) Je))))) (Ja (pv 2) Je)))))))))),?_⟩
 exact JI (N:=["table","seats","times"]) (Jq (Jfc (Jx (Jc (Jb 1) Jk)))
  (Jq (Jfc (Jx (Jc (Jb 0) Jk)))
  (YE (YM (Vx (Jb 0)) (Yl (Jr (JM 0) (Jr (JM 1) (Jr (JM 2) Yk))) rfl) UH (YY (Jc (Jb 0) (Jc (Jp Yw (Jb 1) (Jp Jjc (Jb 3) (Jx (Jc (Jb 0) (Jc (Jb 4) Jk))))) (Jc (Jb 2) Jk)))) rfl)))) h
theorem sc_done:FnScope ["row","deeds","table","seats","times"] ["row","deeds"] (Ji W6):=⟨rfl,rfl,rfl,by decide +kernel,rfl,by decide +kernel,by decide +kernel⟩
theorem Jls{f:Addr}{fd:FuncData}(F:Fun K "done" "done" W6 f fd)(qq:Cal P w K mg base "row_of" 5 ["table"] (spE K C 1 Yu))(qO:Cal P w K mg base "shifted" 2 ["table","seats","times"] (spE K C 3 Yy))(qm:Cal P w K mg base "table_of" 6 ["row"] (spE K C 1 Yv)):FnOk P w K mg base CX0 7 f fd ["row","deeds"] (spE K C 2 Yp):=by
 refine F.ok sc_done (fun vs H Q E h=>JJ h) (fun cdv A outer s H vs Q E hr h=>?_);have hu:=hr.units;refine⟨_,(Jf (Jv (i:=2) sc_done.nd rfl (.inl rfl) (Jo qm (hr.mono (by decide)) rfl (Ja (pv 0) Je)))
  (Jf (Y0 Q7 rfl (JQ (K:=K) rfl (pv 1)) (JF (K:=K) (n:=2) rfl rfl (Jg (Jj (i:=3) sc_done.nd rfl (.inl rfl)) (Jg (Jj (i:=4) sc_done.nd rfl (.inl rfl)) JG)) rfl rfl) (Jl (Jv (i:=2) sc_done.nd rfl (.inl rfl) (Jo qO (hr.mono (by decide)) rfl (Ja (pv 2) (Ja (pv 3) (Ja (pv 4) Je)))))))
  (Jl (JN (Jo qq (hr.mono (by decide)) rfl (Ja (pv 2) Je)))))),?_⟩
 exact JI (N:=["row","deeds","table","seats","times"]) (Jq (JB (Jx (Jc (Jb 0) Jk)))
  (Jq (U8 (JeU 1) (Yl (Jr (JM 3) (Jr (JM 4) Yk)) rfl) (JB (Jx (Jc (Jb 2) (Jc (Jb 3) (Jc (Jb 4) Jk))))))
  (YE (Jx (Jc (Jb 2) Jk))))) h
theorem JdM:FnScope ["script","k"] ["script","k"] (Ji Uv):=⟨rfl,rfl,rfl,by decide +kernel,rfl,by decide +kernel,by decide +kernel⟩
theorem Jdv{f:Addr}{fd:FuncData}(F:Fun K "_law_cell" "_law_cell" Uv f fd)(qJ:mg "len"=none):FnOk P w K mg base CX0 1 f fd ["script","k"] (spE K C 2 JW):=by
 refine F.ok JdM (fun vs H Q E h=>JJ h) (fun cdv A outer s H vs Q E hr h=>?_);have hu:=hr.units;refine⟨_,(Jf (Uj (JR Jbl (pv 1) (JV (WN (K:=K) rfl) rfl qJ Jeb (Ja (pv 0) Je)) (JX _)) (Jl (JN (JZ (Jz (K:=K) rfl) (pv 0) (pv 1) (fun _ _=>rfl)))) Yj)
  (Jl (JN Jh))),?_⟩
 exact JI (N:=["script","k"]) (Jq (Wh (Yo (Jp Jjb (Jb 1) (Wc Jmy (Jc (Jb 0) Jk)))) (YE (Jp YR (Jb 0) (Jb 1))) Y6)
  (YE Jn)) h
theorem sc_law_moved:FnScope ["script","lumps","first","reach","found","size","spot","number","cell","move"] ["script","lumps","first","reach"] (Ji Ue):=⟨rfl,rfl,rfl,by decide +kernel,rfl,by decide +kernel,by decide +kernel⟩
theorem Jce{f:Addr}{fd:FuncData}(F:Fun K "_law_moved" "_law_moved" Ue f fd)(qa:Cal P w K mg base "_law_cell" 1 ["script","k"] (spE K C 2 JW)):FnOk P w K mg base CX0 2 f fd ["script","lumps","first","reach"] (spE K C 4 YV):=by
 refine F.ok sc_law_moved (fun vs H Q E h=>JJ h) (fun cdv A outer s H vs Q E hr h=>?_);have hu:=hr.units;refine⟨_,(Jf (Jv (i:=4) sc_law_moved.nd rfl (.inl rfl) (YL Je))
  (Jf (Y0 Q7 rfl (JQ (K:=K) rfl (pv 1)) (JF (K:=K) (n:=3) rfl rfl (Jg (Jj (i:=5) sc_law_moved.nd rfl (.inl rfl)) (Jg (Jj (i:=6) sc_law_moved.nd rfl (.inl rfl)) (Jg (Jj (i:=7) sc_law_moved.nd rfl (.inl rfl)) JG))) rfl rfl) (Jf (Jv (i:=8) sc_law_moved.nd rfl (.inl rfl) (Jo qa (hr.mono (by decide)) rfl (Ja (pv 0) (Ja (Jt (JP (K:=K) rfl) (pv 2) (Jt Vt (pv 5) Jh)) Je))))
  (Jf (Jv (i:=9) sc_law_moved.nd rfl (.inl rfl) (Jt (JP (K:=K) rfl) (Jt YB (Jt Vt (pv 8) (Jt (JP (K:=K) rfl) (Jt UD Jh (pv 3)) Jh)) (pv 3)) (Jt UD (pv 5) (Jt Vt (Jt Jch (pv 8) Jh) Jh))))
  (Jl (Yr (UE (K:=K) rfl QR Gm Gn Y9 (pv 4) (Ja (J9 (Ja (pv 5) (Ja (Jt (JP (K:=K) rfl) (pv 6) (pv 9)) (Ja (pv 7) Je)))) Je)))))))
  (Jl (JN (pv 4))))),?_⟩
 exact JI (N:=["script","lumps","first","reach","found","size","spot","number","cell","move"]) (Jq (Vo (UC Jk))
  (Jq (U8 (JeU 1) (Yl (Jr (JM 5) (Jr (JM 6) (Jr (JM 7) Yk))) rfl) (Jq (JB (Jx (Jc (Jb 0) (Jc (Jp Yw (Jb 2) (Jp Wu (Jb 5) Jn)) Jk))))
  (Jq (JB (Jp Yw (Jp Ui (Jp Wu (Jb 8) (Jp Yw (Jp Vv Jn (Jb 3)) Jn)) (Jb 3)) (Jp Vv (Jb 5) (Jp Wu (Jp Ji9 (Jb 8) Jn) Jn))))
  (JaJ (YY (Jc (Jb 5) (Jc (Jp Yw (Jb 6) (Jb 9)) (Jc (Jb 7) Jk))))))))
  VL)) h
theorem sc_law_lumps:FnScope ["script","many","span","marks","k","size","spot"] ["script","many","span"] (Ji Ud):=⟨rfl,rfl,rfl,by decide +kernel,rfl,by decide +kernel,by decide +kernel⟩
theorem Jcd{f:Addr}{fd:FuncData}(F:Fun K "_law_lumps" "_law_lumps" Ud f fd)(qv:mg "sorted"=none)(qV:mg "range"=none)(qa:Cal P w K mg base "_law_cell" 1 ["script","k"] (spE K C 2 JW)):FnOk P w K mg base CX0 2 f fd ["script","many","span"] (spE K C 3 YU):=by
 refine F.ok sc_law_lumps (fun vs H Q E h=>JJ h) (fun cdv A outer s H vs Q E hr h=>?_);have hu:=hr.units;refine⟨_,(Jf (Jv (i:=3) sc_law_lumps.nd rfl (.inr rfl) Jjl)
  (Jf (Y0 Q7 rfl (Jhs rfl qV (Ja (pv 1) Je)) (Jj (i:=4) sc_law_lumps.nd rfl (.inl rfl)) (Jf (Jv (i:=5) sc_law_lumps.nd rfl (.inl rfl) (Jt (JP (K:=K) rfl) Jh (Jt Vt (Jo qa (hr.mono (by decide)) rfl (Ja (pv 0) (Ja (Jt (JP (K:=K) rfl) Jh (Jt UD Jh (pv 4))) Je))) (pv 2))))
  (Jf (Jv (i:=6) sc_law_lumps.nd rfl (.inl rfl) (Jt YB (Jt Vt (Jo qa (hr.mono (by decide)) rfl (Ja (pv 0) (Ja (Jt (JP (K:=K) rfl) Jh (Jt UD Jh (pv 4))) Je))) (Jt (JP (K:=K) rfl) (Jt UD Jh (pv 2)) Jh)) (Jt UD Jh (pv 2))))
  (Jl (Jf8 (Jbe hr) (pv 3) (J9 (Ja (pv 5) (Ja (pv 6) Je))) (Jt (JP (K:=K) rfl) (Jt (JP (K:=K) rfl) (Jdz (Jbe hr) (pv 3) (J9 (Ja (pv 5) (Ja (pv 6) Je))) Jh ⟨rfl,rfl,rfl,rfl⟩) Jh) (Jt Vt (Jt Jdy (Jo qa (hr.mono (by decide)) rfl (Ja (pv 0) (Ja (Jt (JP (K:=K) rfl) Jh (Jt UD Jh (pv 4))) Je))) (pv 2)) Jh)) rfl)))))
  (Jl (JN (Ym (N':=["size","spot","marks"]) (imp:=[none,none,some 3]) rfl (JQ (K:=K) rfl (JV (JcN rfl) rfl qv Ja3 (Ja (Jjn (pv 3)) Je))) (Jea (own:=["size","spot"]) (fr:=[("marks",3)]) rfl rfl rfl ⟨rfl,trivial⟩ rfl ⟨⟨rfl,rfl,rfl⟩,trivial⟩) (fun _ _ _ _=>(JF (K:=K) (n:=2) rfl rfl (Jg (Jj (i:=0) (show(["size","spot","marks"]:List Str).Nodup from by decide +kernel) rfl (.inl rfl) (.inr rfl)) (Jg (Jj (i:=1) (show(["size","spot","marks"]:List Str).Nodup from by decide +kernel) rfl (.inl rfl) (.inr rfl)) JG)) rfl rfl)) (fun _ _ _ _=>J7) (fun _ _ _ _=>(J9 (Ja (pv 0) (Ja (pv 1) (Ja (Jhr (K:=K) rfl (Jbe hr) (pv 2) (J9 (Ja (pv 0) (Ja (pv 1) Je))) (fun _ _=>rfl)) Je)))))))))),?_⟩
 exact JI (N:=["script","many","span","marks","k","size","spot"]) (Jq (Vo Jl5)
  (Jq (U8 (Jp0 (Jc (Jb 1) Jk)) (JM 4) (Jq (JB (Jp Yw Jn (Jp Wu (Jx (Jc (Jb 0) (Jc (Jp Yw Jn (Jp Vv Jn (Jb 4))) Jk))) (Jb 2))))
  (Jq (JB (Jp Ui (Jp Wu (Jx (Jc (Jb 0) (Jc (Jp Yw Jn (Jp Vv Jn (Jb 4))) Jk))) (Jp Yw (Jp Vv Jn (Jb 2)) Jn)) (Jp Vv Jn (Jb 2))))
  (JoZ (Jp Yw (Jp Yw (Jma (Jb 3) (Jc (Jb 5) (Jc (Jb 6) Jk)) Jn) Jn) (Jp Wu (Jp Jja (Jx (Jc (Jb 0) (Jc (Jp Yw Jn (Jp Vv Jn (Jb 4))) Jk))) (Jb 2)) Jn)) (Jc (Jb 5) (Jc (Jb 6) Jk))))))
  (YE (YM (Vx (Jl9 (Jb 3))) (Yl (Jr (JM 0) (Jr (JM 1) Yk)) rfl) UH (YY (Jc (Jb 0) (Jc (Jb 1) (Jc (Jp1 (Jb 2) (YY (Jc (Jb 0) (Jc (Jb 1) Jk)))) Jk)))) rfl)))) h
theorem sc_law:FnScope ["script","first","span","lumps","reach","rows","cell","there","on","straight","seats","goings"] ["script"] (Ji Wx):=⟨rfl,rfl,rfl,by decide +kernel,rfl,by decide +kernel,by decide +kernel⟩
theorem JnX{f:Addr}{fd:FuncData}(F:Fun K "law" "law" Wx f fd)(qj:mg "isinstance"=none)(qp:mg "list"=none)(qH:Cal P w K mg base "ways" 9 ["one","two"] (spE K C 2 Yq))(qI:Cal P w K mg base "done" 7 ["row","deeds"] (spE K C 2 Yp))(qq:Cal P w K mg base "row_of" 5 ["table"] (spE K C 1 Yu))(qx:Cal P w K mg base "_law_moved" 2 ["script","lumps","first","reach"] (spE K C 4 YV))(qy:Cal P w K mg base "_law_lumps" 2 ["script","many","span"] (spE K C 3 YU))(qa:Cal P w K mg base "_law_cell" 1 ["script","k"] (spE K C 2 JW))(T:RowC K C):FnOk P w K mg base CX0 10 f fd ["script"] (spE K C 1 Jep):=by
 refine F.ok sc_law (fun vs H Q E h=>JJ h) (fun cdv A outer s H vs Q E hr h=>?_);have hu:=hr.units;refine⟨_,(Jf (Jv (i:=1) sc_law.nd rfl (.inl rfl) (Jo qa (hr.mono (by decide)) rfl (Ja (pv 0) (Ja Jh Je))))
  (Jf (Jv (i:=2) sc_law.nd rfl (.inl rfl) (JZ (Jz (K:=K) rfl) (YL (Ja Jh (Ja Jh (Ja (Jt Jjh Jh Jh) Je)))) (Jt Vt (Jt Jch (pv 1) Jh) Jh) (fun _ _=>rfl)))
  (Jf (Jv (i:=3) sc_law.nd rfl (.inl rfl) (Jo qy (hr.mono (by decide)) rfl (Ja (pv 0) (Ja (Jt Vt (pv 1) Jh) (Ja (pv 2) Je)))))
  (Jf (Jv (i:=4) sc_law.nd rfl (.inl rfl) (JZ (Jz (K:=K) rfl) (YL (Ja (pv 2) (Ja (Jt Jjh Jh Jh) Je))) (Jt Vt (Jt Jch (pv 1) Jh) Jh) (fun _ _=>rfl)))
  (Jf (Jv (i:=5) sc_law.nd rfl (.inl rfl) (YL (Ja (Jo qq (hr.mono (by decide)) rfl (Ja (pv 3) Je)) Je)))
  (Jf (Y0 Q7 rfl (JQ (K:=K) rfl (YL (Ja Jh (Ja Jh Je)))) (Jj (i:=6) sc_law.nd rfl (.inl rfl)) (Jl (Yr (UE (K:=K) rfl QR Gm Gn Y9 (pv 5) (Ja (Jo qq (hr.mono (by decide)) rfl (Ja (Jo qx (hr.mono (by decide)) rfl (Ja (pv 0) (Ja (pv 3) (Ja (pv 6) (Ja (pv 4) Je))))) Je)) Je)))))
  (Jf (Jv (i:=7) sc_law.nd rfl (.inl rfl) (Jo qH (hr.mono (by decide)) rfl (Ja (JZ (Jz (K:=K) rfl) (pv 5) Jh (fun _ _=>rfl)) (Ja (JZ (Jz (K:=K) rfl) (pv 5) Jh (fun _ _=>rfl)) Je))))
  (Jf (Jv (i:=8) sc_law.nd rfl (.inl rfl) (Jo qH (hr.mono (by decide)) rfl (Ja (JZ (Jz (K:=K) rfl) (pv 5) Jh (fun _ _=>rfl)) (Ja (JZ (Jz (K:=K) rfl) (pv 5) Jh (fun _ _=>rfl)) Je))))
  (Jf (Jv (i:=9) sc_law.nd rfl (.inl rfl) (Jo qH (hr.mono (by decide)) rfl (Ja (JZ (Jz (K:=K) rfl) (pv 5) Jh (fun _ _=>rfl)) (Ja (JZ (Jz (K:=K) rfl) (pv 5) Jh (fun _ _=>rfl)) Je))))
  (Jf (Uj (PW.pt (JjC (Jco (U5 (K:=K) rfl (JV (WM (K:=K) rfl) rfl qj U9 (Ja (pv 7) (Ja (Jcl (v:=V.ty "list") rfl qp VP rfl) Je))) (fun _=>rfl))) (JjC (Jco (U5 (K:=K) rfl (JV (WM (K:=K) rfl) rfl qj U9 (Ja (pv 8) (Ja (Jcl (v:=V.ty "list") rfl qp VP rfl) Je))) (fun _=>rfl))) (JjD (Jco (U5 (K:=K) rfl (JV (WM (K:=K) rfl) rfl qj U9 (Ja (pv 9) (Ja (Jcl (v:=V.ty "list") rfl qp VP rfl) Je))) (fun _=>rfl))))))) (Jl (JN Jf5)) Yj)
  (Jf (Uj (JR (Jan (K:=K) rfl hu) (Yi (K:=K) rfl (Jo qI (hr.mono (by decide)) rfl (Ja (Jo qI (hr.mono (by decide)) rfl (Ja (JZ (Jz (K:=K) rfl) (pv 5) Jh (fun _ _=>rfl)) (Ja (pv 7) Je))) (Ja (pv 8) Je))) rfl) (Yi (K:=K) rfl (Jo qI (hr.mono (by decide)) rfl (Ja (JZ (Jz (K:=K) rfl) (pv 5) Jh (fun _ _=>rfl)) (Ja (pv 9) Je))) rfl) (JX _)) (Jl (JN Jf5)) Yj)
  (Jf (Uj (JR (Jan (K:=K) rfl hu) (Yi (K:=K) rfl (Jo qI (hr.mono (by decide)) rfl (Ja (JZ (Jz (K:=K) rfl) (pv 5) Jh (fun _ _=>rfl)) (Ja (Ym (N':=["seats","goings"]) (imp:=[none,none]) rfl (JQ (K:=K) rfl (pv 7)) (Zl rfl rfl) (fun _ _ _ _=>(JF (K:=K) (n:=2) rfl rfl (Jg (Jj (i:=0) (show(["seats","goings"]:List Str).Nodup from by decide +kernel) rfl (.inl rfl) (.inr rfl)) (Jg (Jj (i:=1) (show(["seats","goings"]:List Str).Nodup from by decide +kernel) rfl (.inl rfl) (.inr rfl)) JG)) rfl rfl)) (fun _ _ _ _=>J7) (fun _ _ _ _=>(J9 (Ja (pv 0) (Ja (Jt UD (Jf7 JcA Jh) (pv 1)) Je))))) Je))) rfl) (Yi (K:=K) rfl (JZ (Jz (K:=K) rfl) (pv 5) Jh (fun _ _=>rfl)) rfl) (JX _)) (Jl (JN Jf5)) Yj)
  (Jf (Y0 Q7 rfl (JQ (K:=K) rfl (Wv (ZC (K:=K) rfl) (pv 9) Zy (Zz Jh))) (JF (K:=K) (n:=2) rfl rfl (Jg (Jj (i:=10) sc_law.nd rfl (.inl rfl)) (Jg (Jj (i:=11) sc_law.nd rfl (.inl rfl)) JG)) rfl rfl) (Jl (Uj (JR (Jcg (K:=K) rfl hu) (Yi (K:=K) rfl (Jo qI (hr.mono (by decide)) rfl (Ja (JZ (Jz (K:=K) rfl) (pv 5) Jh (fun _ _=>rfl)) (Ja (Jt (JP (K:=K) rfl) (pv 9) (YL (Ja (J9 (Ja (pv 10) (Ja Jh Je))) Je))) Je))) rfl) (Yi (K:=K) rfl (JZ (Jz (K:=K) rfl) (pv 5) Jh (fun _ _=>rfl)) rfl) (JX _)) (Jl (JN Jf5)) Yj)))
  (Jl (JN (Jn6 (Jf6 (Jcg (K:=K) rfl hu) (Jo qH (hr.mono (by decide)) rfl (Ja (JZ (Jz (K:=K) rfl) (pv 5) Jh (fun _ _=>rfl)) (Ja (JZ (Jz (K:=K) rfl) (pv 5) Jh (fun _ _=>rfl)) Je))) (YL Je) (JX _)) (Jn9 (Jf6 (Jcg (K:=K) rfl hu) (Jo qH (hr.mono (by decide)) rfl (Ja (JZ (Jz (K:=K) rfl) (pv 5) Jh (fun _ _=>rfl)) (Ja (JZ (Jz (K:=K) rfl) (pv 5) Jh (fun _ _=>rfl)) Je))) (YL Je) (JX _))))))))))))))))))),?_⟩
 exact JI (N:=["script","first","span","lumps","reach","rows","cell","there","on","straight","seats","goings"]) (Jq (JB (Jx (Jc (Jb 0) (Jc Jn Jk))))
  (Jq (JB (Jp YR (UC (Jc Jn (Jc Jn (Jc (Jp JmO Jn Jn) Jk)))) (Jp Wu (Jp Ji9 (Jb 1) Jn) Jn)))
  (Jq (JB (Jx (Jc (Jb 0) (Jc (Jp Wu (Jb 1) Jn) (Jc (Jb 2) Jk)))))
  (Jq (JB (Jp YR (UC (Jc (Jb 2) (Jc (Jp JmO Jn Jn) Jk))) (Jp Wu (Jp Ji9 (Jb 1) Jn) Jn)))
  (Jq (Vo (UC (Jc (Jx (Jc (Jb 3) Jk)) Jk)))
  (Jq (U8 (Vx (UC (Jc Jn (Jc Jn Jk)))) (JM 6) (JaJ (Jx (Jc (Jx (Jc (Jb 0) (Jc (Jb 3) (Jc (Jb 6) (Jc (Jb 4) Jk))))) Jk))))
  (Jq (JB (Jx (Jc (Jp YR (Jb 5) Jn) (Jc (Jp YR (Jb 5) Jn) Jk))))
  (Jq (JB (Jx (Jc (Jp YR (Jb 5) Jn) (Jc (Jp YR (Jb 5) Jn) Jk))))
  (Jq (JB (Jx (Jc (Jp YR (Jb 5) Jn) (Jc (Jp YR (Jb 5) Jn) Jk))))
  (Jq (Wh (JjY (Jct (Zi (JjX Jac (Jb 7)))) (JjY (Jct (Zi (JjX Jac (Jb 8)))) (Jct (Zi (JjX Jac (Jb 9)))))) (YE Jl2) Y6)
  (Jq (Wh (Yo (Jp Jjd (Um T (Jx (Jc (Jx (Jc (Jp YR (Jb 5) Jn) (Jc (Jb 7) Jk))) (Jc (Jb 8) Jk)))) (Um T (Jx (Jc (Jp YR (Jb 5) Jn) (Jc (Jb 9) Jk)))))) (YE Jl2) Y6)
  (Jq (Wh (Yo (Jp Jjd (Um T (Jx (Jc (Jp YR (Jb 5) Jn) (Jc (YM (Vx (Jb 7)) (Yl (Jr (JM 0) (Jr (JM 1) Yk)) rfl) UH (YY (Jc (Jb 0) (Jc (Jp Vv (Jmb JgB Jn) (Jb 1)) Jk))) rfl) Jk)))) (Um T (Jp YR (Jb 5) Jn)))) (YE Jl2) Y6)
  (Jq (U8 (Vx (Jl8 (Jb 9) Jcj (Jck Jn))) (Yl (Jr (JM 10) (Jr (JM 11) Yk)) rfl) (Wh (Yo (Jp Jlq (Um T (Jx (Jc (Jp YR (Jb 5) Jn) (Jc (Jp Yw (Jb 9) (UC (Jc (YY (Jc (Jb 10) (Jc Jn Jk))) Jk))) Jk)))) (Um T (Jp YR (Jb 5) Jn)))) (YE Jl2) Y6))
  (YE (JpY (Jp Jlq (Jx (Jc (Jp YR (Jb 5) Jn) (Jc (Jp YR (Jb 5) Jn) Jk))) (UC Jk)) (Jp Jlq (Jx (Jc (Jp YR (Jb 5) Jn) (Jc (Jp YR (Jb 5) Jn) Jk))) (UC Jk))))))))))))))))) h
end
theorem vl1{α:Type}{us:List α}(h:us.length=1):∃a,us=[a]:=match us,h with|[a],_=>⟨a,rfl⟩
theorem vl2{α:Type}{us:List α}(h:us.length=2):∃a b,us=[a,b]:=match us,h with|[a,b],_=>⟨a,b,rfl⟩
theorem vl3{α:Type}{us:List α}(h:us.length=3):∃a b c,us=[a,b,c]:=match us,h with|[a,b,c],_=>⟨a,b,c,rfl⟩
theorem vl4{α:Type}{us:List α}(h:us.length=4):∃a b c d,us=[a,b,c,d]:=match us,h with|[a,b,c,d],_=>⟨a,b,c,d,rfl⟩
theorem all_mk{l:PySem.W.OpenLaw}{w:World}{K:Frag}{h:Heap}{mg:Str->Option Value}{fa:Addr}{C:Addr}{f1:Addr}{od1 an1:Option Addr}{sl1:Array (Option Value)}{oc1 kV1 dc1 pm1 cd1 ct1:Value}{f2:Addr}{od2 an2:Option Addr}{sl2:Array (Option Value)}{oc2 kV2 dc2 pm2 cd2 ct2:Value}{f3:Addr}{od3 an3:Option Addr}{sl3:Array (Option Value)}{oc3 kV3 dc3 pm3 cd3 ct3:Value}{f4:Addr}{od4 an4:Option Addr}{sl4:Array (Option Value)}{oc4 kV4 dc4 pm4 cd4 ct4:Value}{f5:Addr}{od5 an5:Option Addr}{sl5:Array (Option Value)}{oc5 kV5 dc5 pm5 cd5 ct5:Value}{f6:Addr}{od6 an6:Option Addr}{sl6:Array (Option Value)}{oc6 kV6 dc6 pm6 cd6 ct6:Value}{f7:Addr}{od7 an7:Option Addr}{sl7:Array (Option Value)}{oc7 kV7 dc7 pm7 cd7 ct7:Value}{f8:Addr}{od8 an8:Option Addr}{sl8:Array (Option Value)}{oc8 kV8 dc8 pm8 cd8 ct8:Value}{f9:Addr}{od9 an9:Option Addr}{sl9:Array (Option Value)}{oc9 kV9 dc9 pm9 cd9 ct9:Value}{f10:Addr}{od10 an10:Option Addr}{sl10:Array (Option Value)}{oc10 kV10 dc10 pm10 cd10 ct10:Value}{f11:Addr}{od11 an11:Option Addr}{sl11:Array (Option Value)}{oc11 kV11 dc11 pm11 cd11 ct11:Value}{f12:Addr}{od12 an12:Option Addr}{sl12:Array (Option Value)}{oc12 kV12 dc12 pm12 cd12 ct12:Value}{f13:Addr}{od13 an13:Option Addr}{sl13:Array (Option Value)}{oc13 kV13 dc13 pm13 cd13 ct13:Value}{f14:Addr}{od14 an14:Option Addr}{sl14:Array (Option Value)}{oc14 kV14 dc14 pm14 cd14 ct14:Value}{f15:Addr}{od15 an15:Option Addr}{sl15:Array (Option Value)}{oc15 kV15 dc15 pm15 cd15 ct15:Value}{f16:Addr}{od16 an16:Option Addr}{sl16:Array (Option Value)}{oc16 kV16 dc16 pm16 cd16 ct16:Value}{f17:Addr}{od17 an17:Option Addr}{sl17:Array (Option Value)}{oc17 kV17 dc17 pm17 cd17 ct17:Value}{f18:Addr}{od18 an18:Option Addr}{sl18:Array (Option Value)}{oc18 kV18 dc18 pm18 cd18 ct18:Value}{f19:Addr}{od19 an19:Option Addr}{sl19:Array (Option Value)}{oc19 kV19 dc19 pm19 cd19 ct19:Value}{f20:Addr}{od20 an20:Option Addr}{sl20:Array (Option Value)}{oc20 kV20 dc20 pm20 cd20 ct20:Value}{f21:Addr}{od21 an21:Option Addr}{sl21:Array (Option Value)}{oc21 kV21 dc21 pm21 cd21 ct21:Value}{f22:Addr}{od22 an22:Option Addr}{sl22:Array (Option Value)}{oc22 kV22 dc22 pm22 cd22 ct22:Value}{f23:Addr}{od23 an23:Option Addr}{sl23:Array (Option Value)}{oc23 kV23 dc23 pm23 cd23 ct23:Value}{f24:Addr}{od24 an24:Option Addr}{sl24:Array (Option Value)}{oc24 kV24 dc24 pm24 cd24 ct24:Value}{f25:Addr}{od25 an25:Option Addr}{sl25:Array (Option Value)}{oc25 kV25 dc25 pm25 cd25 ct25:Value}{f26:Addr}{od26 an26:Option Addr}{sl26:Array (Option Value)}{oc26 kV26 dc26 pm26 cd26 ct26:Value}{f27:Addr}{od27 an27:Option Addr}{sl27:Array (Option Value)}{oc27 kV27 dc27 pm27 cd27 ct27:Value}{f28:Addr}{od28 an28:Option Addr}{sl28:Array (Option Value)}{oc28 kV28 dc28 pm28 cd28 ct28:Value}{f29:Addr}{od29 an29:Option Addr}{sl29:Array (Option Value)}{oc29 kV29 dc29 pm29 cd29 ct29:Value}{qP:Tok}{qW:Tok}(X:K.In h)(G:h.Ns mainGlobals mg)(hfa:mg "law"=some (.ref fa))
 (aC:nsIn K mainGlobals "Row"=some (some (.ref C)))
 (a1:nsIn K mainGlobals "growths"=some (some (.ref f1)))
 (l1:K.lookup f1=some ⟨oc1,od1,.func (fnOf "growths" "growths" (JC UQ) (JA UQ) (Ji UQ) .none kV1 dc1 pm1 an1 cd1 ct1),sl1⟩)
 (c1:codeIn K cd1 "growths"=true)
 (k1:keepIn K (.ref f1)=true)
 (a2:nsIn K mainGlobals "check_stretches"=some (some (.ref f2)))
 (l2:K.lookup f2=some ⟨oc2,od2,.func (fnOf "check_stretches" "check_stretches" (JC J8) (JA J8) (Ji J8) .none kV2 dc2 pm2 an2 cd2 ct2),sl2⟩)
 (c2:codeIn K cd2 "check_stretches"=true)
 (k2:keepIn K (.ref f2)=true)
 (a3:findIn K (.ref C) "__init__"=some (some (.ref f3)))
 (i3:PySem.W.isFn K (.ref f3)=true)
 (l3:K.lookup f3=some ⟨oc3,od3,.func (fnOf "__init__" "Row.__init__" (JC Ut) (JA Ut) (Ji Ut) .none kV3 dc3 pm3 an3 cd3 ct3),sl3⟩)
 (c3:codeIn K cd3 "Row.__init__"=true)
 (k3:keepIn K (.ref f3)=true)
 (a4:nsIn K mainGlobals "closed_up"=some (some (.ref f4)))
 (l4:K.lookup f4=some ⟨oc4,od4,.func (fnOf "closed_up" "closed_up" (JC Ub) (JA Ub) (Ji Ub) .none kV4 dc4 pm4 an4 cd4 ct4),sl4⟩)
 (c4:codeIn K cd4 "closed_up"=true)
 (k4:keepIn K (.ref f4)=true)
 (a5:nsIn K mainGlobals "by_layers"=some (some (.ref f5)))
 (l5:K.lookup f5=some ⟨oc5,od5,.func (fnOf "by_layers" "by_layers" (JC Ua) (JA Ua) (Ji Ua) .none kV5 dc5 pm5 an5 cd5 ct5),sl5⟩)
 (c5:codeIn K cd5 "by_layers"=true)
 (k5:keepIn K (.ref f5)=true)
 (a6:nsIn K mainGlobals "gaps_of"=some (some (.ref f6)))
 (l6:K.lookup f6=some ⟨oc6,od6,.func (fnOf "gaps_of" "gaps_of" (JC UP) (JA UP) (Ji UP) .none kV6 dc6 pm6 an6 cd6 ct6),sl6⟩)
 (c6:codeIn K cd6 "gaps_of"=true)
 (k6:keepIn K (.ref f6)=true)
 (a7:nsIn K mainGlobals "closes_at"=some (some (.ref f7)))
 (l7:K.lookup f7=some ⟨oc7,od7,.func (fnOf "closes_at" "closes_at" (JC Uc) (JA Uc) (Ji Uc) .none kV7 dc7 pm7 an7 cd7 ct7),sl7⟩)
 (c7:codeIn K cd7 "closes_at"=true)
 (k7:keepIn K (.ref f7)=true)
 (a8:nsIn K mainGlobals "thinned"=some (some (.ref f8)))
 (l8:K.lookup f8=some ⟨oc8,od8,.func (fnOf "thinned" "thinned" (JC UT) (JA UT) (Ji UT) .none kV8 dc8 pm8 an8 cd8 ct8),sl8⟩)
 (c8:codeIn K cd8 "thinned"=true)
 (k8:keepIn K (.ref f8)=true)
 (a9:nsIn K mainGlobals "ball_at"=some (some (.ref f9)))
 (l9:K.lookup f9=some ⟨oc9,od9,.func (fnOf "ball_at" "ball_at" (JC UO) (JA UO) (Ji UO) .none kV9 dc9 pm9 an9 cd9 ct9),sl9⟩)
 (c9:codeIn K cd9 "ball_at"=true)
 (k9:keepIn K (.ref f9)=true)
 (a10:nsIn K mainGlobals "owed_at"=some (some (.ref f10)))
 (l10:K.lookup f10=some ⟨oc10,od10,.func (fnOf "owed_at" "owed_at" (JC UR) (JA UR) (Ji UR) .none kV10 dc10 pm10 an10 cd10 ct10),sl10⟩)
 (c10:codeIn K cd10 "owed_at"=true)
 (k10:keepIn K (.ref f10)=true)
 (a11:nsIn K mainGlobals "struck"=some (some (.ref f11)))
 (l11:K.lookup f11=some ⟨oc11,od11,.func (fnOf "struck" "struck" (JC Vl) (JA Vl) (Ji Vl) .none kV11 dc11 pm11 an11 cd11 ct11),sl11⟩)
 (c11:codeIn K cd11 "struck"=true)
 (k11:keepIn K (.ref f11)=true)
 (a12:nsIn K mainGlobals "table_of"=some (some (.ref f12)))
 (l12:K.lookup f12=some ⟨oc12,od12,.func (fnOf "table_of" "table_of" (JC Ux) (JA Ux) (Ji Ux) .none kV12 dc12 pm12 an12 cd12 ct12),sl12⟩)
 (c12:codeIn K cd12 "table_of"=true)
 (k12:keepIn K (.ref f12)=true)
 (a13:nsIn K mainGlobals "lumps_apart"=some (some (.ref f13)))
 (l13:K.lookup f13=some ⟨oc13,od13,.func (fnOf "lumps_apart" "lumps_apart" (JC YI) (JA YI) (Ji YI) .none kV13 dc13 pm13 an13 cd13 ct13),sl13⟩)
 (c13:codeIn K cd13 "lumps_apart"=true)
 (k13:keepIn K (.ref f13)=true)
 (a14:nsIn K mainGlobals "moves"=some (some (.ref f14)))
 (l14:K.lookup f14=some ⟨oc14,od14,.func (fnOf "moves" "moves" (JC VX) (JA VX) (Ji VX) .none kV14 dc14 pm14 an14 cd14 ct14),sl14⟩)
 (c14:codeIn K cd14 "moves"=true)
 (k14:keepIn K (.ref f14)=true)
 (a15:nsIn K mainGlobals "ways"=some (some (.ref f15)))
 (l15:K.lookup f15=some ⟨oc15,od15,.func (fnOf "ways" "ways" (JC W7) (JA W7) (Ji W7) .none kV15 dc15 pm15 an15 cd15 ct15),sl15⟩)
 (c15:codeIn K cd15 "ways"=true)
 (k15:keepIn K (.ref f15)=true)
 (a16:nsIn K mainGlobals "thickened"=some (some (.ref f16)))
 (l16:K.lookup f16=some ⟨oc16,od16,.func (fnOf "thickened" "thickened" (JC Uf) (JA Uf) (Ji Uf) .none kV16 dc16 pm16 an16 cd16 ct16),sl16⟩)
 (c16:codeIn K cd16 "thickened"=true)
 (k16:keepIn K (.ref f16)=true)
 (a17:nsIn K mainGlobals "balls_below"=some (some (.ref f17)))
 (l17:K.lookup f17=some ⟨oc17,od17,.func (fnOf "balls_below" "balls_below" (JC YF) (JA YF) (Ji YF) .none kV17 dc17 pm17 an17 cd17 ct17),sl17⟩)
 (c17:codeIn K cd17 "balls_below"=true)
 (k17:keepIn K (.ref f17)=true)
 (a18:nsIn K mainGlobals "ended_at"=some (some (.ref f18)))
 (l18:K.lookup f18=some ⟨oc18,od18,.func (fnOf "ended_at" "ended_at" (JC Uu) (JA Uu) (Ji Uu) .none kV18 dc18 pm18 an18 cd18 ct18),sl18⟩)
 (c18:codeIn K cd18 "ended_at"=true)
 (k18:keepIn K (.ref f18)=true)
 (a19:nsIn K mainGlobals "put_in"=some (some (.ref f19)))
 (l19:K.lookup f19=some ⟨oc19,od19,.func (fnOf "put_in" "put_in" (JC Vj) (JA Vj) (Ji Vj) .none kV19 dc19 pm19 an19 cd19 ct19),sl19⟩)
 (c19:codeIn K cd19 "put_in"=true)
 (k19:keepIn K (.ref f19)=true)
 (a20:nsIn K mainGlobals "check_table"=some (some (.ref f20)))
 (l20:K.lookup f20=some ⟨oc20,od20,.func (fnOf "check_table" "check_table" (JC YH) (JA YH) (Ji YH) .none kV20 dc20 pm20 an20 cd20 ct20),sl20⟩)
 (c20:codeIn K cd20 "check_table"=true)
 (k20:keepIn K (.ref f20)=true)
 (a21:nsIn K mainGlobals "row_of"=some (some (.ref f21)))
 (l21:K.lookup f21=some ⟨oc21,od21,.func (fnOf "row_of" "row_of" (JC Vk) (JA Vk) (Ji Vk) .none kV21 dc21 pm21 an21 cd21 ct21),sl21⟩)
 (c21:codeIn K cd21 "row_of"=true)
 (k21:keepIn K (.ref f21)=true)
 (a22:nsIn K mainGlobals "share_of"=some (some (.ref f22)))
 (l22:K.lookup f22=some ⟨oc22,od22,.func (fnOf "share_of" "share_of" (JC Uw) (JA Uw) (Ji Uw) .none kV22 dc22 pm22 an22 cd22 ct22),sl22⟩)
 (c22:codeIn K cd22 "share_of"=true)
 (k22:keepIn K (.ref f22)=true)
 (a23:nsIn K mainGlobals "check_seats"=some (some (.ref f23)))
 (l23:K.lookup f23=some ⟨oc23,od23,.func (fnOf "check_seats" "check_seats" (JC YG) (JA YG) (Ji YG) .none kV23 dc23 pm23 an23 cd23 ct23),sl23⟩)
 (c23:codeIn K cd23 "check_seats"=true)
 (k23:keepIn K (.ref f23)=true)
 (a24:nsIn K mainGlobals "shifted"=some (some (.ref f24)))
 (l24:K.lookup f24=some ⟨oc24,od24,.func (fnOf "shifted" "shifted" (JC US) (JA US) (Ji US) .none kV24 dc24 pm24 an24 cd24 ct24),sl24⟩)
 (c24:codeIn K cd24 "shifted"=true)
 (k24:keepIn K (.ref f24)=true)
 (a25:nsIn K mainGlobals "done"=some (some (.ref f25)))
 (l25:K.lookup f25=some ⟨oc25,od25,.func (fnOf "done" "done" (JC W6) (JA W6) (Ji W6) .none kV25 dc25 pm25 an25 cd25 ct25),sl25⟩)
 (c25:codeIn K cd25 "done"=true)
 (k25:keepIn K (.ref f25)=true)
 (a26:nsIn K mainGlobals "_law_cell"=some (some (.ref f26)))
 (l26:K.lookup f26=some ⟨oc26,od26,.func (fnOf "_law_cell" "_law_cell" (JC Uv) (JA Uv) (Ji Uv) .none kV26 dc26 pm26 an26 cd26 ct26),sl26⟩)
 (c26:codeIn K cd26 "_law_cell"=true)
 (k26:keepIn K (.ref f26)=true)
 (a27:nsIn K mainGlobals "_law_moved"=some (some (.ref f27)))
 (l27:K.lookup f27=some ⟨oc27,od27,.func (fnOf "_law_moved" "_law_moved" (JC Ue) (JA Ue) (Ji Ue) .none kV27 dc27 pm27 an27 cd27 ct27),sl27⟩)
 (c27:codeIn K cd27 "_law_moved"=true)
 (k27:keepIn K (.ref f27)=true)
 (a28:nsIn K mainGlobals "_law_lumps"=some (some (.ref f28)))
 (l28:K.lookup f28=some ⟨oc28,od28,.func (fnOf "_law_lumps" "_law_lumps" (JC Ud) (JA Ud) (Ji Ud) .none kV28 dc28 pm28 an28 cd28 ct28),sl28⟩)
 (c28:codeIn K cd28 "_law_lumps"=true)
 (k28:keepIn K (.ref f28)=true)
 (a29:nsIn K mainGlobals "law"=some (some (.ref f29)))
 (l29:K.lookup f29=some ⟨oc29,od29,.func (fnOf "law" "law" (JC Wx) (JA Wx) (Ji Wx) .none kV29 dc29 pm29 an29 cd29 ct29),sl29⟩)
 (c29:codeIn K cd29 "law"=true)
 (k29:keepIn K (.ref f29)=true)
 (pg:plainGet K C Str.empty=true)
 (hd:hasDictIn K C=true)
 (po:plainOver K C=true)
 (sa:findIn K (.ref C) "__setattr__"=some (some (.builtin "object.__setattr__")))
 (mk:makesIn K C=true)
 (kc:keepIn K (.ref C)=true)
 (nS:findIn K (.ref C) "stretches"=some none)
 (wc:nsIn K mainGlobals "tuple"=some none)
 (wg:nsIn K mainGlobals "len"=some none)
 (wj:nsIn K mainGlobals "sum"=some none)
 (qZ:nsIn K mainGlobals "enumerate"=some none)
 (wk:nsIn K mainGlobals "zip"=some none)
 (wl:nsIn K mainGlobals "min"=some none)
 (wm:nsIn K mainGlobals "any"=some none)
 (wf:nsIn K mainGlobals "list"=some none)
 (wn:nsIn K mainGlobals "max"=some none)
 (wb:nsIn K mainGlobals "sorted"=some none)
 (q5:nsIn K mainGlobals "reversed"=some none)
 (we:nsIn K mainGlobals "range"=some none)
 (qX:nsIn K mainGlobals "isinstance"=some none)
 (qQ:nsIn K mainGlobals "MOST_STRETCHES"=some (some (.int 30 qP)))
 (qY:nsIn K mainGlobals "MOST_LUMPS"=some (some (.int 30 qW)))
:∃fd:FuncData,(∀(s:Shared) (v:Value),BindsTo s fd ⟨[v],[]⟩ [("script",v)])/\∀base:Heap,K.In base->base.Ns mainGlobals mg->FnOk l.prog w K mg base CX0 10 fa fd ["script"] (Jgj K):=by
 have e:=hfa.symm.trans (mg_of X G a29);cases e
 have T:RowC K C:=⟨⟨pg,hd,po,sa⟩,nS⟩
 have wo:=mg_of X G aC
 have qT:=mg_none_of X G wc
 have qJ:=mg_none_of X G wg
 have qk:=mg_none_of X G wj
 have qe:=mg_none_of X G qZ
 have qz:=mg_none_of X G wk
 have qA:=mg_none_of X G wl
 have q9:=mg_none_of X G wm
 have qp:=mg_none_of X G wf
 have wa:=mg_none_of X G wn
 have qv:=mg_none_of X G wb
 have qF:=mg_none_of X G q5
 have qV:=mg_none_of X G we
 have qj:=mg_none_of X G qX
 have qd:GV mg "MOST_STRETCHES" (.int 30):=⟨_,mg_of X G qQ,⟨_,rfl⟩⟩
 have qw:GV mg "MOST_LUMPS" (.int 30):=⟨_,mg_of X G qY,⟨_,rfl⟩⟩
 have F1:=JU (st:=UQ) l1 c1 k1
 have B1:=F1.binds (ps:=["told"]) fun _ _ _ _ _ _ us hl=>by obtain⟨_,rfl⟩:=vl1 hl;rfl
 have F2:=JU (st:=J8) l2 c2 k2
 have B2:=F2.binds (ps:=["stretches"]) fun _ _ _ _ _ _ us hl=>by obtain⟨_,rfl⟩:=vl1 hl;rfl
 have F3:=JU (st:=Ut) l3 c3 k3
 have B3:=F3.binds (ps:=["self","stretches"]) fun _ _ _ _ _ _ us hl=>by obtain⟨_,_,rfl⟩:=vl2 hl;rfl
 have F4:=JU (st:=Ub) l4 c4 k4
 have B4:=F4.binds (ps:=["pairs"]) fun _ _ _ _ _ _ us hl=>by obtain⟨_,rfl⟩:=vl1 hl;rfl
 have F5:=JU (st:=Ua) l5 c5 k5
 have B5:=F5.binds (ps:=["row","layers"]) fun _ _ _ _ _ _ us hl=>by obtain⟨_,_,rfl⟩:=vl2 hl;rfl
 have F6:=JU (st:=UP) l6 c6 k6
 have B6:=F6.binds (ps:=["row"]) fun _ _ _ _ _ _ us hl=>by obtain⟨_,rfl⟩:=vl1 hl;rfl
 have F7:=JU (st:=Uc) l7 c7 k7
 have B7:=F7.binds (ps:=["row"]) fun _ _ _ _ _ _ us hl=>by obtain⟨_,rfl⟩:=vl1 hl;rfl
 have F8:=JU (st:=UT) l8 c8 k8
 have B8:=F8.binds (ps:=["row","layers"]) fun _ _ _ _ _ _ us hl=>by obtain⟨_,_,rfl⟩:=vl2 hl;rfl
 have F9:=JU (st:=UO) l9 c9 k9
 have B9:=F9.binds (ps:=["row","place"]) fun _ _ _ _ _ _ us hl=>by obtain⟨_,_,rfl⟩:=vl2 hl;rfl
 have F10:=JU (st:=UR) l10 c10 k10
 have B10:=F10.binds (ps:=["left","spot"]) fun _ _ _ _ _ _ us hl=>by obtain⟨_,_,rfl⟩:=vl2 hl;rfl
 have F11:=JU (st:=Vl) l11 c11 k11
 have B11:=F11.binds (ps:=["row"]) fun _ _ _ _ _ _ us hl=>by obtain⟨_,rfl⟩:=vl1 hl;rfl
 have F12:=JU (st:=Ux) l12 c12 k12
 have B12:=F12.binds (ps:=["row"]) fun _ _ _ _ _ _ us hl=>by obtain⟨_,rfl⟩:=vl1 hl;rfl
 have F13:=JU (st:=YI) l13 c13 k13
 have B13:=F13.binds (ps:=["row"]) fun _ _ _ _ _ _ us hl=>by obtain⟨_,rfl⟩:=vl1 hl;rfl
 have F14:=JU (st:=VX) l14 c14 k14
 have B14:=F14.binds (ps:=["one","two"]) fun _ _ _ _ _ _ us hl=>by obtain⟨_,_,rfl⟩:=vl2 hl;rfl
 have F15:=JU (st:=W7) l15 c15 k15
 have B15:=F15.binds (ps:=["one","two"]) fun _ _ _ _ _ _ us hl=>by obtain⟨_,_,rfl⟩:=vl2 hl;rfl
 have F16:=JU (st:=Uf) l16 c16 k16
 have B16:=F16.binds (ps:=["row","layers"]) fun _ _ _ _ _ _ us hl=>by obtain⟨_,_,rfl⟩:=vl2 hl;rfl
 have F17:=JU (st:=YF) l17 c17 k17
 have B17:=F17.binds (ps:=["row","place"]) fun _ _ _ _ _ _ us hl=>by obtain⟨_,_,rfl⟩:=vl2 hl;rfl
 have F18:=JU (st:=Uu) l18 c18 k18
 have B18:=F18.binds (ps:=["row","spots"]) fun _ _ _ _ _ _ us hl=>by obtain⟨_,_,rfl⟩:=vl2 hl;rfl
 have F19:=JU (st:=Vj) l19 c19 k19
 have B19:=F19.binds (ps:=["row","pairs"]) fun _ _ _ _ _ _ us hl=>by obtain⟨_,_,rfl⟩:=vl2 hl;rfl
 have F20:=JU (st:=YH) l20 c20 k20
 have B20:=F20.binds (ps:=["table"]) fun _ _ _ _ _ _ us hl=>by obtain⟨_,rfl⟩:=vl1 hl;rfl
 have F21:=JU (st:=Vk) l21 c21 k21
 have B21:=F21.binds (ps:=["table"]) fun _ _ _ _ _ _ us hl=>by obtain⟨_,rfl⟩:=vl1 hl;rfl
 have F22:=JU (st:=Uw) l22 c22 k22
 have B22:=F22.binds (ps:=["size","seats"]) fun _ _ _ _ _ _ us hl=>by obtain⟨_,_,rfl⟩:=vl2 hl;rfl
 have F23:=JU (st:=YG) l23 c23 k23
 have B23:=F23.binds (ps:=["seats"]) fun _ _ _ _ _ _ us hl=>by obtain⟨_,rfl⟩:=vl1 hl;rfl
 have F24:=JU (st:=US) l24 c24 k24
 have B24:=F24.binds (ps:=["table","seats","times"]) fun _ _ _ _ _ _ us hl=>by obtain⟨_,_,_,rfl⟩:=vl3 hl;rfl
 have F25:=JU (st:=W6) l25 c25 k25
 have B25:=F25.binds (ps:=["row","deeds"]) fun _ _ _ _ _ _ us hl=>by obtain⟨_,_,rfl⟩:=vl2 hl;rfl
 have F26:=JU (st:=Uv) l26 c26 k26
 have B26:=F26.binds (ps:=["script","k"]) fun _ _ _ _ _ _ us hl=>by obtain⟨_,_,rfl⟩:=vl2 hl;rfl
 have F27:=JU (st:=Ue) l27 c27 k27
 have B27:=F27.binds (ps:=["script","lumps","first","reach"]) fun _ _ _ _ _ _ us hl=>by obtain⟨_,_,_,_,rfl⟩:=vl4 hl;rfl
 have F28:=JU (st:=Ud) l28 c28 k28
 have B28:=F28.binds (ps:=["script","many","span"]) fun _ _ _ _ _ _ us hl=>by obtain⟨_,_,_,rfl⟩:=vl3 hl;rfl
 have F29:=JU (st:=Wx) l29 c29 k29
 have B29:=F29.binds (ps:=["script"]) fun _ _ _ _ _ _ us hl=>by obtain⟨_,rfl⟩:=vl1 hl;rfl
 refine⟨fnOf "law" "law" (JC Wx) (JA Wx) (Ji Wx) .none kV29 dc29 pm29 an29 cd29 ct29,fun s v=>.of_eq rfl,fun base _ _=>?_⟩;have qM:Cal l.prog w K mg base "growths" 1 ["told"] (spE K C 1 Up):=⟨f1,_,JeK (C:=C) F1 ,mg_of X G a1,k1,B1⟩
 have qi:Cal l.prog w K mg base "check_stretches" 1 ["stretches"] (ZD K):=⟨f2,_,Wb F2 ,mg_of X G a2,k2,B2⟩
 have qu:CalM l.prog w K mg base "Row" C 2 ["self","stretches"] (VF C K):=⟨f3,_,⟨mk,a3,i3,kc⟩,Jdt F3 qT qJ qd qi T,wo,B3⟩
 have qB:Cal l.prog w K mg base "closed_up" 1 ["pairs"] (spE K C 1 Yx):=⟨f4,_,Jcb (C:=C) F4 qk,mg_of X G a4,k4,B4⟩
 have qg:Cal l.prog w K mg base "by_layers" 1 ["row","layers"] (spE K C 2 Yb):=⟨f5,_,Jca (C:=C) F5 qe T,mg_of X G a5,k5,B5⟩
 have qK:Cal l.prog w K mg base "gaps_of" 1 ["row"] (spE K C 1 Uo):=⟨f6,_,JeJ (C:=C) F6 qk qz T,mg_of X G a6,k6,B6⟩
 have qh:Cal l.prog w K mg base "closes_at" 2 ["row"] (spE K C 1 J0):=⟨f7,_,Jcc (C:=C) F7 qA qK T,mg_of X G a7,k7,B7⟩
 have ql:Cal l.prog w K mg base "thinned" 4 ["row","layers"] (spE K C 2 Ye):=⟨f8,_,JeN (C:=C) F8 qA qu qB qg qh T,mg_of X G a8,k8,B8⟩
 have qD:Cal l.prog w K mg base "ball_at" 1 ["row","place"] (spE K C 2 Y4):=⟨f9,_,JeI (C:=C) F9 q9 T,mg_of X G a9,k9,B9⟩
 have qL:Cal l.prog w K mg base "owed_at" 2 ["left","spot"] (spE K C 2 Uq):=⟨f10,_,JeL (C:=C) F10 qD,mg_of X G a10,k10,B10⟩
 have qR:Cal l.prog w K mg base "struck" 5 ["row"] (spE K C 1 Us):=⟨f11,_,Jhp (C:=C) F11 qe qk qL ql T,mg_of X G a11,k11,B11⟩
 have qm:Cal l.prog w K mg base "table_of" 6 ["row"] (spE K C 1 Yv):=⟨f12,_,Jdx (C:=C) F12 ql qR qh T,mg_of X G a12,k12,B12⟩
 have qo:Cal l.prog w K mg base "lumps_apart" 7 ["row"] (spE K C 1 Yd):=⟨f13,_,Jal (C:=C) F13 qm,mg_of X G a13,k13,B13⟩
 have qU:Cal l.prog w K mg base "moves" 8 ["one","two"] (spE K C 2 UU):=⟨f14,_,Jjf (C:=C) F14 qp qz qo,mg_of X G a14,k14,B14⟩
 have qH:Cal l.prog w K mg base "ways" 9 ["one","two"] (spE K C 2 Yq):=⟨f15,_,Jlt (C:=C) F15 qz qM qU,mg_of X G a15,k15,B15⟩
 have qC:Cal l.prog w K mg base "thickened" 4 ["row","layers"] (spE K C 2 Yz):=⟨f16,_,Jcf (C:=C) F16 qu qg,mg_of X G a16,k16,B16⟩
 have qr:Cal l.prog w K mg base "balls_below" 1 ["row","place"] (spE K C 2 Ys):=⟨f17,_,Jai (C:=C) F17 qk wa qA T,mg_of X G a17,k17,B17⟩
 have qE:Cal l.prog w K mg base "ended_at" 2 ["row","spots"] (spE K C 2 Y7):=⟨f18,_,Jdu (C:=C) F18 qe qr,mg_of X G a18,k18,B18⟩
 have qS:Cal l.prog w K mg base "put_in" 4 ["row","pairs"] (spE K C 2 Ur):=⟨f19,_,Jhn (C:=C) F19 qv qJ qk qd qu qE T,mg_of X G a19,k19,B19⟩
 have qf:Cal l.prog w K mg base "check_table" 1 ["table"] (spE K C 1 J2):=⟨f20,_,Jak (C:=C) F20 qk qw,mg_of X G a20,k20,B20⟩
 have qq:Cal l.prog w K mg base "row_of" 5 ["table"] (spE K C 1 Yu):=⟨f21,_,Jho (C:=C) F21 qF qp qz qC qS qu qf,mg_of X G a21,k21,B21⟩
 have qG:Cal l.prog w K mg base "share_of" 1 ["size","seats"] (spE K C 2 Y8):=⟨f22,_,Jdw (C:=C) F22 qA,mg_of X G a22,k22,B22⟩
 have qt:Cal l.prog w K mg base "check_seats" 1 ["seats"] (spE K C 1 Yt):=⟨f23,_,Jaj (C:=C) F23 ,mg_of X G a23,k23,B23⟩
 have qO:Cal l.prog w K mg base "shifted" 2 ["table","seats","times"] (spE K C 3 Yy):=⟨f24,_,JeM (C:=C) F24 qG qf qt,mg_of X G a24,k24,B24⟩
 have qI:Cal l.prog w K mg base "done" 7 ["row","deeds"] (spE K C 2 Yp):=⟨f25,_,Jls (C:=C) F25 qq qO qm,mg_of X G a25,k25,B25⟩
 have qa:Cal l.prog w K mg base "_law_cell" 1 ["script","k"] (spE K C 2 JW):=⟨f26,_,Jdv (C:=C) F26 qJ,mg_of X G a26,k26,B26⟩
 have qx:Cal l.prog w K mg base "_law_moved" 2 ["script","lumps","first","reach"] (spE K C 4 YV):=⟨f27,_,Jce (C:=C) F27 qa,mg_of X G a27,k27,B27⟩
 have qy:Cal l.prog w K mg base "_law_lumps" 2 ["script","many","span"] (spE K C 3 YU):=⟨f28,_,Jcd (C:=C) F28 qv qV qa,mg_of X G a28,k28,B28⟩
 exact Jk8 (JnX (C:=C) F29 qj qp qH qI qq qx qy qa T) law_true
theorem walk{l:PySem.W.OpenLaw}{q:Program}{loose:List Str}{XP:(Str->Option Value)->Heap->Prop}{YP:World->Heap->Prop}{d:DefRec}{K:Params->Frag}(hn:l.most=some 63)(hdf:d.params.defaults=[])
 (hY:∀(w:World) (h:Heap),YP w h->(K w.params).In h)
 (F:∀(w:World) (mg:Str->Option Value) (fa:Addr) (h:Heap),(K w.params).In h->h.Ns mainGlobals mg->mg d.name=some (.ref fa) ->
  ∃fd:FuncData,(∀(s:Shared) (u:Value),BindsTo s fd ⟨[u],[]⟩ [("script",u)])/\∀base:Heap,(K w.params).In base->base.Ns mainGlobals mg->FnOk l.prog w (K w.params) mg base CX0 10 fa fd ["script"] (Jgj (K w.params))) :
 PySem.W.WalkO q loose XP YP l.row.toRowW d [] (fun f vs=>PySem.call f vs) :=
 L2.Jmn (n:=63) (k:=10) (x:="script") (CX:=fun _=>CX0) (sp:=fun w=>Jgj (K w.params)) hn (by decide) hdf ⟨rfl,by decide,by decide⟩ hY F (fun _ _ a ns hl _ hS=>⟨a,ns,rfl,hS,hl,fun _=>rfl⟩) fun _ _ _ _ _ z=>z
end LK
end
theorem PySem.W.Fast.tw16868807354747023337:True:=trivial
theorem PySem.W.Fast.tw13035468990899330905:True:=trivial
theorem PySem.W.Fast.tw3224970856888223619:True:=trivial
theorem PySem.W.Fast.tw14578242533376935236:True:=trivial
theorem PySem.W.Fast.tw18215682847165308461:True:=trivial
theorem PySem.W.Fast.tw2350052143747323819:True:=trivial
theorem PySem.W.Fast.tw8959624112618685237:True:=trivial
theorem PySem.W.Fast.tw13452869669311864601:True:=trivial
theorem PySem.W.Fast.tw7154617795284546983:True:=trivial
theorem PySem.W.Fast.tw5608426517643863059:True:=trivial
theorem PySem.W.Fast.tw790587577828262644:True:=trivial
theorem PySem.W.Fast.tw12021048323474426034:True:=trivial
theorem PySem.W.Fast.tw12851451473887883316:True:=trivial
theorem PySem.W.Fast.tw910768485716493229:True:=trivial
theorem PySem.W.Fast.tw17532700905014320039:True:=trivial
theorem PySem.W.Fast.tw642740857022732897:True:=trivial
theorem PySem.W.Fast.tw3083837478789979737:True:=trivial
theorem PySem.W.Fast.tw7626993507522133430:True:=trivial
theorem PySem.W.Fast.tw11863973195504419463:True:=trivial
theorem PySem.W.Fast.tw14320927460340781283:True:=trivial
theorem PySem.W.Fast.tw7730816148678936881:True:=trivial
theorem PySem.W.Fast.tw6007294248680584125:True:=trivial
theorem PySem.W.Fast.tw10077480987177804953:True:=trivial
theorem PySem.W.Fast.tw5020012257492536231:True:=trivial
theorem PySem.W.Fast.tw2153034452406010731:True:=trivial
theorem PySem.W.Fast.tw13106705140607900343:True:=trivial
theorem PySem.W.Fast.tw17006341518999917366:True:=trivial
theorem PySem.W.Fast.tw17017183509265105668:True:=trivial
theorem PySem.W.Fast.tw11640238119927670366:True:=trivial
theorem PySem.W.Fast.tw17213076889893374925:True:=trivial
theorem PySem.W.Fast.tw16668992202037127339:True:=trivial
theorem PySem.W.Fast.tw11343459449202091418:True:=trivial
theorem PySem.W.Fast.tw3116278979714832595:True:=trivial
theorem PySem.W.Fast.tw10786842328841615180:True:=trivial
theorem PySem.W.Fast.tw13055882304728490766:True:=trivial
theorem PySem.W.Fast.tw3693273129526352212:True:=trivial
theorem PySem.W.Fast.tw8777277945811606621:True:=trivial
theorem PySem.W.Fast.tw18180209636994575871:True:=trivial
theorem PySem.W.Fast.tw16183138774870861648:True:=trivial
theorem PySem.W.Fast.tw5910056630249819175:True:=trivial
theorem PySem.W.Fast.tw642289661264911962:True:=trivial
theorem PySem.W.Fast.tw1814620149208219865:True:=trivial
theorem PySem.W.Fast.tw62390179010484381:True:=trivial
theorem PySem.W.Fast.tw16359226620158227502:True:=trivial
theorem PySem.W.Fast.tw1832159177194535802:True:=trivial
theorem PySem.W.Fast.tw14354854405840485926:True:=trivial
theorem PySem.W.Fast.tw16083267486877396849:True:=trivial
theorem PySem.W.Fast.tw1801740197975979773:True:=trivial
theorem PySem.W.Fast.tw14281889681993822838:True:=trivial
theorem PySem.W.Fast.tw16750389394384714560:True:=trivial
theorem PySem.W.Fast.tw7617378039079527777:True:=trivial
theorem PySem.W.Fast.tw2659556118877389124:True:=trivial
theorem PySem.W.Fast.tw5936576510451404716:True:=trivial
theorem PySem.W.Fast.tw14659694719427904127:True:=trivial
theorem PySem.W.Fast.tw10655361121220684864:True:=trivial
theorem PySem.W.Fast.tw6600172389140278908:True:=trivial
theorem PySem.W.Fast.tw13472893165467625196:True:=trivial
theorem PySem.W.Fast.tw753703671604751009:True:=trivial
theorem PySem.W.Fast.tw9409631233682248610:True:=trivial
theorem PySem.W.Fast.tw16862908469836372484:True:=trivial
theorem PySem.W.Fast.tw12568434878413943166:True:=trivial
theorem PySem.W.Fast.tw835220142555036979:True:=trivial
theorem PySem.W.Fast.tw8842178897435870138:True:=trivial
theorem PySem.W.Fast.tw11463706813542257709:True:=trivial
theorem PySem.W.Fast.tw15930691654537312251:True:=trivial
theorem PySem.W.Fast.tw14410976729660842600:True:=trivial
theorem PySem.W.Fast.tw11081652433105045818:True:=trivial
theorem PySem.W.Fast.tw14900766573473631791:True:=trivial
theorem PySem.W.Fast.tw71579599132740468:True:=trivial
open PySem PySem.W PyProof.Rows
set_option maxRecDepth 100000 in
set_option maxHeartbeats 0 in
theorem PySem.Challenge.cw_lumprow_k66_whole_ways_put_together_holds : PySem.Challenge.rw_lumprow_k66_whole_ways_put_together.Holds := by
 w_on; o_law; k_head; (case hw => w_witness2)
 k_fill
 refine LK.walk (l := PySem.Challenge.rw_lumprow_k66_whole_ways_put_together) rfl rfl (fun w h Y => PySem.W.kIn_of Y) ?F
 case F =>
  intro w mg fa h KX G hmg; apply LK.all_mk KX G hmg; all_goals k_is
